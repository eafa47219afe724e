import PyProof.Rows.All
import Wide.All
import OpenK.AllK
import Wide.FinOn
import Lean
import PyProof.EqAt
import PyProof.EqKinds
import PyProof.TupleCall
import PyProof.NeKinds
import PySem.SetOps
import PyProof.SetKind
import PyProof.TupleKey
import PyProof.IsRules
import PyProof.DictKinds
import KE.KSortAsk
import PyProof.Rows.SetFrom
import PyProof.Walks
import PyProof.CollectWalk
import KE.KSortTup
import KE.KDictSum
import KE.KDictList
import KE.KRevIter
import KE.KItemsList
import PyProof.Rows.ZipGen
import KE.KListMore
import PyProof.CompMap
import PyProof.DictFindH
import PyProof.AttrMissSeq
import PyProof.DictUpdate
import PyProof.ListNew
import PyProof.FactsAll.dict_1
import KE.KDictOf
import PyProof.Rows.DictSet
import PySem.Challenge.RW_glide_k06_a_hull
set_option Elab.async false
set_option linter.all false
set_option maxRecDepth 100000
set_option maxHeartbeats 4000000
namespace L2
open PySem PySem.Spec PyProof.Rows
abbrev Key:=Sum Int Str
def keyIs:Key→Value→Bool
 | .inl k,v=>Value.isInt k v
 | .inr x,v=>Value.isStrOf x v
def keyH (w:World):Key→Int
 | .inl k=>hashInt k
 | .inr x=>hashStr w x
theorem keyIs_shape:∀ {k:Key} {v:Value},keyIs k v = true→(∃ i t,k = Sum.inl i∧v = Value.int i t)∨(∃ x t,k = Sum.inr x∧v = Value.str x t)
 | .inl i,v,h=>by
  obtain ⟨t,e⟩:=Value.isInt_shape (k:=i) (v:=v) h
  exact .inl ⟨i,t,rfl,e⟩
 | .inr x,v,h=>by
  obtain ⟨t,e⟩:=Value.isStrOf_shape (x:=x) (v:=v) h
  exact .inr ⟨x,t,rfl,e⟩
theorem key_ll (a b:Int):decide ((Sum.inl a:Key) = Sum.inl b) = (a == b):=by
 by_cases e:a = b
 ·subst e; simp
 ·have h:¬ (Sum.inl a:Key) = Sum.inl b:=fun q=>e (Sum.inl.inj q)
  rw [decide_eq_false h]
  exact (beq_eq_false_iff_ne.mpr e).symm
theorem key_rr (a b:Str):decide ((Sum.inr a:Key) = Sum.inr b) = decide (a = b):=by
 by_cases e:a = b
 ·subst e; simp
 ·have h:¬ (Sum.inr a:Key) = Sum.inr b:=fun q=>e (Sum.inr.inj q)
  rw [decide_eq_false h,decide_eq_false e]
theorem key_lr (a:Int) (b:Str):decide ((Sum.inl a:Key) = Sum.inr b) = false:=decide_eq_false (fun q=>nomatch q)
theorem key_rl (a:Str) (b:Int):decide ((Sum.inr a:Key) = Sum.inl b) = false:=decide_eq_false (fun q=>nomatch q)
def mixKind (prog:Program) (w:World):PySem.KeyKind prog w Key where
 is:=keyIs
 hash:=keyH w
 inj:=fun v a b ha hb=>by
  rcases keyIs_shape ha with ⟨i,t,rfl,rfl⟩ | ⟨x,t,rfl,rfl⟩
  ·rcases keyIs_shape hb with ⟨j,u,rfl,e⟩ | ⟨y,u,rfl,e⟩
   ·injection e with e1 _; rw [e1]
   ·exact nomatch e
  ·rcases keyIs_shape hb with ⟨j,u,rfl,e⟩ | ⟨y,u,rfl,e⟩
   ·exact nomatch e
   ·injection e with e1 _; rw [e1]
 byValue:=fun k v h=>by
  rcases keyIs_shape h with ⟨i,t,rfl,rfl⟩ | ⟨x,t,rfl,rfl⟩ <;> rfl
 pyHash:=fun hv h=>by
  rcases keyIs_shape hv with ⟨i,t,rfl,rfl⟩ | ⟨x,t,rfl,rfl⟩
  ·exact wpAny_pyHash_int h
  ·exact wpAny_pyHash_str h
 eqBool:=fun hu hv h=>by
  rcases keyIs_shape hu with ⟨i,t,rfl,rfl⟩ | ⟨x,t,rfl,rfl⟩
  ·rcases keyIs_shape hv with ⟨j,u,rfl,rfl⟩ | ⟨y,u,rfl,rfl⟩
   ·rw [key_ll] at h; exact wpAny_eqBool_int h
   ·rw [key_lr] at h; exact SeqAt.EqAt.int_str i t y u _ _ _ _ h
  ·rcases keyIs_shape hv with ⟨j,u,rfl,rfl⟩ | ⟨y,u,rfl,rfl⟩
   ·rw [key_rl] at h; exact SeqAt.EqAt.str_int x t j u _ _ _ _ h
   ·rw [key_rr] at h; exact wpAny_eqBool_str h
 «strs»:=fun k x t v h=>by
  rcases keyIs_shape h with ⟨i,u,rfl,e⟩ | ⟨y,u,rfl,e⟩
  ·exact nomatch e
  ·injection e with e1 _
   subst e1
   cases v <;> rfl
theorem mixKind_is (prog:Program) (w:World) (k:Key) (v:Value):(mixKind prog w).is k v = keyIs k v:=rfl
end L2
namespace L2
open PySem PySem.Spec PyProof.Rows
inductive V where
 | non | bl (b:Bool) | int (i:Int) | str (x:Str) | byt (b:Array UInt8) | flt (b:UInt64) | ref (a:Addr) | ty (n:String)
 deriving DecidableEq
def RelV:V→Value→Prop
 | .non,u=>u = Value.none
 | .bl b,u=>u = Value.bool b
 | .int i,u=>∃ t,u = Value.int i t
 | .str x,u=>∃ t,u = Value.str x t
 | .byt b,u=>∃ t,u = Value.bytes b t
 | .flt b,u=>∃ t,u = Value.float b t
 | .ref a,u=>u = Value.ref a
 | .ty n,u=>u = Value.type n
abbrev Vals:List V→List Value→Prop:=Paired RelV
theorem Vals.length {xs:List V} {us:List Value} (r:Vals xs us):xs.length = us.length:=Paired.length r
theorem Vals.get:∀ {xs:List V} {us:List Value} {i:Nat} {x:V},Vals xs us→xs[i]? = some x→∃ u,us[i]? = some u∧RelV x u
 | _,_,_,_,.nil,e=>by simp at e
 | _,_,0,_,.cons r _,e=>by simp at e; subst e; exact ⟨_,rfl,r⟩
 | _,_,i + 1,x,.cons _ t,e=>by
  obtain ⟨u,h1,h2⟩:=Vals.get (i:=i) (x:=x) t (by simpa using e)
  exact ⟨u,by simpa using h1,h2⟩
theorem Vals.append:∀ {xs ys:List V} {us ws:List Value},Vals xs us→Vals ys ws→Vals (xs++ys) (us++ws)
 | _,_,_,_,.nil,s=>s
 | _,_,_,_,.cons r t,s=>.cons r (Vals.append t s)
theorem Vals.take:∀ {xs:List V} {us:List Value} (n:Nat),Vals xs us→Vals (xs.take n) (us.take n)
 | _,_,0,_=>.nil
 | _,_,_ + 1,.nil=>.nil
 | _,_,n + 1,.cons r t=>.cons r (Vals.take n t)
theorem Vals.drop:∀ {xs:List V} {us:List Value} (n:Nat),Vals xs us→Vals (xs.drop n) (us.drop n)
 | _,_,0,r=>r
 | _,_,_ + 1,.nil=>.nil
 | _,_,n + 1,.cons _ t=>Vals.drop n t
def RelO:Option V→Option Value→Prop
 | some v,some u=>RelV v u
 | none,none=>True
 | _,_=>False
def KV {κ:Type}:List (κ × V)→List (κ × Value)→Prop:=Paired fun (p:κ × V) (q:κ × Value)=>p.1 = q.1∧RelV p.2 q.2
def kV:Key→V
 | .inl i=>.int i
 | .inr x=>.str x
inductive HO where
 | lst (xs:List V)
 | tup (xs:List V)
 | dK (kvs:List (Key × V)) | dT (kvs:List (List Key × V))
 | set (S:Int→Bool) (n:Nat)
 | ins (C dx:Addr) (fs:List (Str × V))
 | own (x:Addr)
 | xd (fs:List (Str × V))
 | met (f x:Addr)
 | rng (lo hi:Int)
 | frz (o:Obj) (u:HO)
 | tbl (ps:Array Value)
 | ext (φ:Heap→Prop)
abbrev Hp:=Addr→Option HO
def upd (H:Hp) (a:Addr) (o:HO):Hp:=fun b=>if b = a then some o else H b
theorem upd_same {H:Hp} {a:Addr} {o:HO}:upd H a o a = some o:=by unfold upd; rw [if_pos rfl]
theorem upd_ne {H:Hp} {a b:Addr} {o:HO} (h:b≠a):upd H a o b = H b:=by unfold upd; rw [if_neg h]
theorem ne_of_none {H:Hp} {a b:Addr} {o:HO} (h:H a = some o) (h':H b = none):a≠b:=by
 intro e; subst e; rw [h] at h'; cases h'
section
variable (P:Program) (w:World)
def ObjOk (H:Hp) (h:Heap) (a:Addr):HO→Prop
 | .lst xs=>xs.length≤sizeLine∧∃ (its:List Value) (n:Nat),Vals xs its∧h.get? a = some { cls:=.type "list",data:=.seq its.toArray n }
 | .tup xs=>xs.length≤sizeLine∧∃ its:List Value,Vals xs its∧IsTup h a its.toArray
 | .dK kvs=>kvs.length≤sizeLine∧(a == sysModules) = false∧∃ vs,KV kvs vs∧h.DictOf (mixKind P w) a vs
 | .dT kvs=>kvs.length≤sizeLine∧(a == sysModules) = false∧∃ xs:List (List Key × Addr × Value),
   Paired (fun (p:List Key × V) (q:List Key × Addr × Value)=>p.1 = q.1∧H q.2.1 = some (.tup (p.1.map kV))∧RelV p.2 q.2.2) kvs xs ∧
   ∃ o es ep,h.get? a = some o∧o.ExactDict∧o.data = .dict es ep∧es.toList = xs.map (entryOfKey (tupleKind (mixKind P w)))∧(xs.map (·.1)).Nodup
 | .set S n=>h.SetOf (intKind P w) a S n
 | .ins C dx fs=>H dx = some (.own a)∧fs.length≤1000∧dx≠a∧h.get? a = some (PySem.W.instObj C dx) ∧
   ∃ mA,h.Ns1 dx mA∧(∀ f,RelO (fs.lookup f) (mA f))∧PySem.Within mA (fs.map (·.1))
 | .own _=>∃ o,h.get? a = some o
 | .xd fs=>∃ mA,h.Ns1 a mA∧∀ f,RelO (fs.lookup f) (mA f)
 | .rng lo hi=>∃ t u v,h.get? a = some { cls:=.type "range",data:=.fields #[.int lo t,.int hi u,.int 1 v] }
 | .frz o u=>h.get? a = some o∧ObjOk H h a u
 | .tbl ps=>h.get? a = some { cls:=.none,data:=.fields ps }
 | .met f x=>h.get? a = some (PySem.W.methodObj (.ref f) (.ref x))
 | .ext φ=>φ h∧(∃ o,h.get? a = some o)∧∀ h1 h2:Heap,φ h1→(∀ o,h1.get? a = some o→h2.get? a = some o)→φ h2
def HOk (H:Hp) (h:Heap):Prop:=∀ a o,H a = some o→ObjOk P w H h a o
end
section
variable {P:Program} {w:World} {H H':Hp} {h h':Heap} {a:Addr} {o:HO}
theorem ObjOk.lt (x:ObjOk P w H h a o):a < h.objs.size:=by
 cases o with
 | lst xs=>obtain ⟨_,_,_,_,e⟩:=x; exact Heap.lt_size e
 | tup xs=>obtain ⟨_,_,_,p⟩:=x; exact p.lt
 | dK kvs=>obtain ⟨_,_,_,_,o,_,_,e,_⟩:=x; exact Heap.lt_size e
 | dT kvs=>obtain ⟨_,_,_,_,o,_,_,e,_⟩:=x; exact Heap.lt_size e
 | set S n=>obtain ⟨o,_,_,_,e,_⟩:=x; exact Heap.lt_size e
 | ins C dx fs=>obtain ⟨_,_,_,e,_⟩:=x; exact Heap.lt_size e
 | own y=>obtain ⟨_,e⟩:=x; exact Heap.lt_size e
 | xd fs=>obtain ⟨_,⟨_,_,_,e,_⟩,_⟩:=x; exact Heap.lt_size e
 | rng lo hi=>obtain ⟨_,_,_,e⟩:=x; exact Heap.lt_size e
 | frz ob u=>obtain ⟨e,_⟩:=x; exact Heap.lt_size e
 | tbl ps=>exact Heap.lt_size (show h.get? a = some _ from x)
 | met f y=>exact Heap.lt_size (show h.get? a = some _ from x)
 | ext φ=>obtain ⟨_,⟨_,e⟩,_⟩:=x; exact Heap.lt_size e
theorem Paired.mapP {α β:Type} {F G:α→β→Prop}:∀ {l₁:List α} {l₂:List β},Paired F l₁ l₂→(∀ a b,F a b→G a b)→Paired G l₁ l₂
 | _,_,.nil,_=>.nil
 | _,_,.cons r t,f=>.cons (f _ _ r) (Paired.mapP t f)
theorem ObjOk.stay (x:ObjOk P w H h a o) (k:∀ b u,(b = a∨H b = some (.own a))→h.get? b = some u→h'.get? b = some u)
  (ho:∀ b,H b = some (.own a)→H' b = some (.own a)) (ht:∀ b xs,H b = some (.tup xs)→H' b = some (.tup xs)):ObjOk P w H' h' a o:=by
 induction o with
 | lst xs=>obtain ⟨z,its,n,r,e⟩:=x; exact ⟨z,its,n,r,k _ _ (.inl rfl) e⟩
 | tup xs=>obtain ⟨z,its,r,ob,e,c⟩:=x; exact ⟨z,its,r,ob,k _ _ (.inl rfl) e,c⟩
 | dK kvs=>obtain ⟨z,y,vs,r,ob,es,ep,e,c⟩:=x; exact ⟨z,y,vs,r,ob,es,ep,k _ _ (.inl rfl) e,c⟩
 | dT kvs =>
  obtain ⟨z,y,xs,r,ob,es,ep,e,c⟩:=x
  exact ⟨z,y,xs,Paired.mapP r fun p q z=>⟨z.1,ht _ _ z.2.1,z.2.2⟩,ob,es,ep,k _ _ (.inl rfl) e,c⟩
 | set S n=>obtain ⟨ob,es,ep,t,e,c⟩:=x; exact ⟨ob,es,ep,t,k _ _ (.inl rfl) e,c⟩
 | ins C dx fs =>
  obtain ⟨d,z,ne,e,mA,⟨od,es,ep,e2,c⟩,r⟩:=x
  exact ⟨ho _ d,z,ne,k _ _ (.inl rfl) e,mA,⟨od,es,ep,k _ _ (.inr d) e2,c⟩,r⟩
 | own y=>obtain ⟨ob,e⟩:=x; exact ⟨ob,k _ _ (.inl rfl) e⟩
 | xd fs=>obtain ⟨mA,⟨od,es,ep,e,c⟩,r⟩:=x; exact ⟨mA,⟨od,es,ep,k _ _ (.inl rfl) e,c⟩,r⟩
 | rng lo hi=>obtain ⟨t,u,v,e⟩:=x; exact ⟨t,u,v,k _ _ (.inl rfl) e⟩
 | frz ob u ih=>obtain ⟨e,q⟩:=x; exact ⟨k _ _ (.inl rfl) e,ih q⟩
 | tbl ps =>
  have e:h.get? a = some { cls:=.none,data:=.fields ps }:=x
  show h'.get? a = some { cls:=.none,data:=.fields ps }
  exact k a _ (.inl rfl) e
 | met f y =>
  have e:h.get? a = some (PySem.W.methodObj (.ref f) (.ref y)):=x
  show h'.get? a = some (PySem.W.methodObj (.ref f) (.ref y))
  exact k a _ (.inl rfl) e
 | ext φ=>obtain ⟨p,⟨o,e⟩,st⟩:=x; exact ⟨st _ _ p fun o q=>k _ _ (.inl rfl) q,⟨o,k _ _ (.inl rfl) e⟩,st⟩
theorem HOk.lt (x:HOk P w H h) (e:H a = some o):a < h.objs.size:=(x a o e).lt
theorem HOk.fresh (x:HOk P w H h) (e:h.objs.size≤a):H a = none:=by
 cases q:H a with
 | none=>rfl
 | some u=>exact absurd (Nat.lt_of_lt_of_le (x.lt q) e) (Nat.lt_irrefl _)
theorem HOk.kept (x:HOk P w H h) (k:∀ b u,h.get? b = some u→h'.get? b = some u):HOk P w H h':=fun a o e =>
 (x a o e).stay (fun b u _ q=>k b u q) (fun _ q=>q) fun _ _ q=>q
theorem HOk.laid (x:HOk P w H h) (k:∀ b u,h.get? b = some u→h'.get? b = some u) (hp:h.objs.size≤a) (new:ObjOk P w (upd H a o) h' a o):HOk P w (upd H a o) h':=fun b u e=>by
 have hn:=x.fresh hp
 by_cases hb:b = a
 ·subst hb; rw [upd_same] at e; cases e; exact new
 ·rw [upd_ne hb] at e
  exact (x b u e).stay (fun c v _ q=>k c v q) (fun c q=>by rw [upd_ne (ne_of_none q hn)]; exact q) fun c xs q=>by rw [upd_ne (ne_of_none q hn)]; exact q
end
def Rd (H:Hp) (a:Addr) (u:HO):Prop:=H a = some u∨∃ o,H a = some (.frz o u)
theorem Rd.ok {P:Program} {w:World} {H:Hp} {h:Heap} {a:Addr} {u:HO} (r:Rd H a u) (x:HOk P w H h):ObjOk P w H h a u:=by
 rcases r with r | ⟨o,r⟩
 ·exact x a u r
 ·obtain ⟨_,q⟩:=x a _ r
  exact q
def Mut:Option HO→Prop
 | some (.lst _)=>True
 | some (.dK _)=>True
 | some (.dT _)=>True
 | some (.set _ _)=>True
 | some (.ins _ _ _)=>True
 | some (.ext _)=>True
 | _=>False
section
variable {P:Program} {w:World} {H:Hp} {h h':Heap} {x e:Addr} {o':HO}
theorem HOk.write (ok:HOk P w H h) (mu:Mut (H x)) (he:e = x∨H e = some (.own x)) (k:∀ b u,b≠e→h.get? b = some u→h'.get? b = some u) (heo:∃ u,h'.get? e = some u)
  (new:ObjOk P w (upd H x o') h' x o'):HOk P w (upd H x o') h':=fun b u q=>by
 have nown:∀ c y,H c = some (.own y)→c≠x:=fun c y r z=>by subst z; rw [r] at mu; exact mu
 have ntup:∀ c xs,H c = some (.tup xs)→c≠x:=fun c xs r z=>by subst z; rw [r] at mu; exact mu
 by_cases hb:b = x
 ·subst hb; rw [upd_same] at q; cases q; exact new
 ·rw [upd_ne hb] at q
  by_cases hbe:b = e
  ·have q':H b = some (.own x):=by
    rcases he with z | z
    ·exact absurd (hbe.trans z) hb
    ·rw [hbe]; exact z
   rw [q] at q'; cases q'
   obtain ⟨v,hv⟩:=heo
   exact ⟨v,by rw [hbe]; exact hv⟩
  ·refine (ok b u q).stay (fun c v hc r=>k c v ?_ r) (fun c r=>by rw [upd_ne (nown c b r)]; exact r) fun c xs r=>by rw [upd_ne (ntup c xs r)]; exact r
   rcases hc with rfl | hc
   ·exact hbe
   ·rintro rfl
    rcases he with z | z
    ·exact nown c b hc z
    ·rw [hc] at z; cases z; exact hb rfl
end
structure Un (fs ex:List Addr) (H H':Hp) (h h':Heap):Prop where
 keep:∀ b o,h.get? b = some o→H b = none→b ∉ fs→b ∉ ex→h'.get? b = some o
 slot:∀ b o,h.get? b = some o→H b = none→b∈fs→b ∉ ex→∃ sl,h'.get? b = some { o with slots:=sl }
 free:∀ b o,h.get? b = some o→H b = none→b ∉ ex→H' b = none
 there:∀ b o,h.get? b = some o→b ∉ ex→∃ o',h'.get? b = some o'
 tups:∀ b xs,H b = some (.tup xs)→H' b = some (.tup xs)
 frzs:∀ b o u,H b = some (.frz o u)→H' b = some (.frz o u)
 tbls:∀ b ps,H b = some (.tbl ps)→∃ more,H' b = some (.tbl (ps++more))
section
variable {fs fs' ex ex':List Addr} {H H1 H2:Hp} {h h1 h2 h':Heap} {a x e:Addr} {o:HO}
theorem Un.any (u:Un fs ex H H1 h h1) {b:Addr} {ob:Obj} (q:h.get? b = some ob) (n:H b = none) (hx:b ∉ ex):∃ sl,h1.get? b = some { ob with slots:=sl }:=by
 by_cases hb:b∈fs
 ·exact u.slot b ob q n hb hx
 ·exact ⟨ob.slots,u.keep b ob q n hb hx⟩
theorem Un.kept (k:∀ b u,h.get? b = some u→h'.get? b = some u):Un fs ex H H h h' :=
 ⟨fun b ob q _ _ _=>k b ob q,fun b ob q _ _ _=>⟨ob.slots,k b ob q⟩,fun _ _ _ n _=>n,fun b ob q _=>⟨ob,k b ob q⟩,fun _ _ q=>q,fun _ _ _ q=>q,fun _ ps q=>⟨#[],by rw [q]; simp⟩⟩
theorem Un.refl:Un fs ex H H h h:=Un.kept fun _ _ q=>q
theorem Un.laid (k:∀ b u,h.get? b = some u→h'.get? b = some u) (hp:h.objs.size≤a) (hn:H a = none):Un fs ex H (upd H a o) h h' where
 keep:=fun b u q _ _ _=>k b u q
 slot:=fun b u q _ _ _=>⟨u.slots,k b u q⟩
 free:=fun b u q n _=>by rw [upd_ne (Nat.ne_of_lt (Nat.lt_of_lt_of_le (Heap.lt_size q) hp))]; exact n
 there:=fun b u q _=>⟨u,k b u q⟩
 tups:=fun b xs q=>by rw [upd_ne (ne_of_none q hn)]; exact q
 frzs:=fun b u xs q=>by rw [upd_ne (ne_of_none q hn)]; exact q
 tbls:=fun b ps q=>⟨#[],by rw [upd_ne (ne_of_none q hn),q]; simp⟩
theorem Un.write (mu:Mut (H x)) (he:e = x∨H e = some (.own x)) (k:∀ b u,b≠e→h.get? b = some u→h'.get? b = some u) (heo:∃ u,h'.get? e = some u):Un fs ex H (upd H x o) h h':=by
 have hx:∀ b,H b = none→b≠x:=fun b n z=>by subst z; rw [n] at mu; exact mu
 have hb:∀ b,H b = none→b≠e:=fun b n z=>by
  subst z
  rcases he with r | r
  ·exact hx b n r
  ·rw [n] at r; cases r
 have hm:∀ b u,H b = some u→¬ Mut (some u)→b≠x:=fun b u q nm z=>by subst z; rw [q] at mu; exact nm mu
 refine ⟨fun b u q n _ _=>k b u (hb b n) q,fun b u q n _ _=>⟨u.slots,k b u (hb b n) q⟩,fun b u q n _=>by rw [upd_ne (hx b n)]; exact n,fun b u q _=>?_,
  fun b xs q=>by rw [upd_ne (hm b _ q fun z=>z)]; exact q,fun b u xs q=>by rw [upd_ne (hm b _ q fun z=>z)]; exact q,fun b ps q=>⟨#[],by rw [upd_ne (hm b _ q fun z=>z),q]; simp⟩⟩
 by_cases hbe:b = e
 ·subst hbe; exact heo
 ·exact ⟨u,k b u hbe q⟩
end
def trk (h:Heap) (H:Hp):List Addr:=(List.range h.objs.size).filter fun a=>(H a).isSome
def hidT (h:Heap) (H:Hp):Heap:=PySem.W.hideAll h (trk h H)
theorem hidT_size (h:Heap) (H:Hp):(hidT h H).objs.size = h.objs.size:=PySem.W.hideAll_size _ _
theorem hidT_get {h:Heap} {H:Hp} {b:Addr} {o:Obj} (e:h.get? b = some o) (n:H b = none):(hidT h H).get? b = some o :=
 PySem.W.hideAll_get _ e fun hm=>by
  have q:(H b).isSome = true:=(List.mem_filter.mp hm).2
  rw [n] at q; simp at q
theorem of_hidT {h:Heap} {H:Hp} {b:Addr} {o:Obj} (e:(hidT h H).get? b = some o):h.get? b = some o∧H b = none:=by
 have e':h.get? b = some o:=PySem.W.of_hideAll (trk h H) e
 refine ⟨e',?_⟩
 cases q:H b with
 | none=>rfl
 | some x =>
  have hm:b∈trk h H:=List.mem_filter.mpr ⟨List.mem_range.mpr (Heap.lt_size e'),by simp [q]⟩
  have z:(hidT h H).get? b = none:=PySem.W.hideAll_none (trk h H) hm
  rw [z] at e; cases e
end L2
namespace L2
open PySem PySem.Spec PyProof.Rows
structure Mod (K:PySem.W.Frag) (mg:Str→Option Value) (base:Heap):Prop where
 kin:K.In base
 glob:base.Ns mainGlobals mg
 blt:∃ mb,base.Ns builtinsNs mb∧∀ x:Str,x≠"__name__"→mb x = bootBuiltins x
 nolimit:base.NoLimit
structure Cx where
 prog:Program
 w:World
 K:PySem.W.Frag
 mg:Str→Option Value
 base:Heap
 A:Around
 N:List Str
 s₀:Shared
 H₀:Hp
 env:Env
 outer:List Env
 stack:List Env
 ex:List Addr
 fn:Str→Bool
 calm:Bool
 pn:List (Addr × Obj)
 xe:Value→Shared→Prop
def frs (l:List Env):List Addr:=l.filterMap (·.frame)
abbrev Cx.fs (X:Cx):List Addr:=frs X.outer
def Vis (sc:Scope) (x:Str):Prop:=sc.names.lookup x = some .local∨sc.names.lookup x = some .cell∨sc.names.lookup x = some .free
def Loc (sc:Scope) (x:Str):Prop:=sc.names.lookup x = some .local∨sc.names.lookup x = some .cell
def Look (env:Env) (h:Heap) (m:Str→Option Value) (x:Str) (u:Value):Prop :=
 (env.kindOf x = some .local∧m x = some u)∨((env.kindOf x = some .cell∨env.kindOf x = some .free)∧∃ c,env.cells.lookup x = some c∧h.IsCell c (some u))
structure Cx.Ok (X:Cx):Prop where
 mod:Mod X.K X.mg X.base
 kind:X.env.scope.kind = .function
 glob:X.env.globals = mainGlobals
 blt:X.env.builtins = builtinsNs
 above:X.s₀.heap.objs.size≤X.env.locals
 inj:∀ x y c,X.env.cells.lookup x = some c→X.env.cells.lookup y = some c→x = y
 has:∀ x,(X.env.kindOf x = some .cell∨X.env.kindOf x = some .free)→∃ c,X.env.cells.lookup x = some c
 cab:∀ x c,X.fn x = true→X.env.cells.lookup x = some c→X.s₀.heap.objs.size≤c
 hd:X.calm = true→X.A.handled = none
 frames:X.A.frames = some X.stack
 stk:X.stack = X.outer∨(X.stack = X.env::X.outer∧X.env.frame = some X.env.locals)
 exf:∀ b∈X.ex,b≠X.env.locals∧∀ x c,X.env.cells.lookup x = some c→c≠b
 bs:∀ b o,X.base.get? b = some o→X.s₀.heap.get? b = some o∧X.H₀ b = none
 bsz:X.base.objs.size≤X.s₀.heap.objs.size
 noex:∀ b o,X.base.get? b = some o→b ∉ X.ex
 exfs:∀ b∈X.ex,b ∉ X.fs
 funs:X.s₀.heap.FunFrames X.base X.outer
 frf:∀ b∈X.fs,X.H₀ b = none
structure Inv (X:Cx) (pins:List (Addr × Obj)) (σ:List (Option V)) (H:Hp) (s:Shared):Prop where
 ok:X.Ok
 os:s.os = X.s₀.os
 bare:AllBare s.gens
 base:Un X.fs X.ex X.H₀ H X.s₀.heap s.heap
 loc:∃ m,s.heap.Ns X.env.locals m∧∀ (i:Nat) (x:Str) (v:V),X.N[i]? = some x→σ[i]? = some (some v)→Vis X.env.scope x→∃ u,RelV v u∧Look X.env s.heap m x u
 cell:∀ x c,X.env.cells.lookup x = some c→∃ v,s.heap.IsCell c v
 free:H X.env.locals = none
 freeC:∀ x c,X.env.cells.lookup x = some c→H c = none
 pin:∀ p∈X.pn++pins,s.heap.get? p.1 = some p.2∧H p.1 = none∧p.1≠X.env.locals∧p.1 ∉ X.fs∧∀ v,p.2.data≠.cell v
 hok:HOk X.prog X.w H s.heap
 len:σ.length = X.N.length
section
variable {X:Cx} {pins:List (Addr × Obj)} {σ:List (Option V)} {H H':Hp} {s:Shared} {h':Heap}
theorem Cx.Ok.nofr (ok:X.Ok) {b:Addr} {o:Obj} (e:X.base.get? b = some o):b ∉ X.fs:=fun hb=>by
 have:=(ok.funs.mem hb).1
 rw [e] at this; cases this
theorem Inv.bs (I:Inv X pins σ H s):∀ b o,X.base.get? b = some o→s.heap.get? b = some o∧H b = none:=fun b o e =>
 ⟨I.base.keep b o (I.ok.bs b o e).1 (I.ok.bs b o e).2 (I.ok.nofr e) (I.ok.noex b o e),I.base.free b o (I.ok.bs b o e).1 (I.ok.bs b o e).2 (I.ok.noex b o e)⟩
theorem Inv.bk (I:Inv X pins σ H s):∀ b o,X.base.get? b = some o→s.heap.get? b = some o:=fun b o e=>(I.bs b o e).1
theorem Inv.mod (I:Inv X pins σ H s):Mod X.K X.mg X.base:=I.ok.mod
theorem Inv.kIn (I:Inv X pins σ H s):X.K.In s.heap:=I.ok.mod.kin.keeps I.bk
theorem Inv.lt (I:Inv X pins σ H s):X.env.locals < s.heap.objs.size:=let ⟨_,hn,_⟩:=I.loc; hn.lt
theorem Inv.sz (I:Inv X pins σ H s):X.s₀.heap.objs.size≤s.heap.objs.size:=Nat.le_trans I.ok.above (Nat.le_of_lt I.lt)
theorem Inv.nofs (I:Inv X pins σ H s) {a:Addr} (h:s.heap.objs.size≤a):a ∉ X.fs:=fun hb=>by
 obtain ⟨_,o,ho,_⟩:=I.ok.funs.mem hb
 exact absurd (Nat.lt_of_lt_of_le (Heap.lt_size ho) (Nat.le_trans I.sz h)) (Nat.lt_irrefl _)
theorem Inv.cne (I:Inv X pins σ H s):∀ x c,X.env.cells.lookup x = some c→c≠X.env.locals:=fun x c e z=>by
 obtain ⟨v,o,ho,hd⟩:=I.cell x c e
 obtain ⟨m,⟨o',es,ep,ho',hd',_⟩,_⟩:=I.loc
 rw [z,ho'] at ho; cases ho; rw [hd'] at hd; cases hd
theorem Inv.funs (I:Inv X pins σ H s):s.heap.FunFrames X.base X.outer:=by
 have all:∀ (l:List Env),(∀ b∈frs l,b∈X.fs)→X.s₀.heap.FunFrames X.base l→s.heap.FunFrames X.base l:=by
  intro l
  induction l with
  | nil=>intro _ _; trivial
  | cons env r ih =>
   intro hs hl
   obtain ⟨hk,⟨L,o,hf,hn,ho,hd⟩,hr⟩:=hl
   have hL:L∈X.fs:=hs L (by unfold frs; rw [List.filterMap_cons,hf]; exact List.mem_cons_self)
   obtain ⟨sl,e⟩:=I.base.slot L o ho (I.ok.frf L hL) hL fun z=>I.ok.exfs L z hL
   exact ⟨hk,⟨L,_,hf,hn,e,hd⟩,ih (fun b hb=>hs b (by unfold frs; rw [List.filterMap_cons,hf]; exact List.mem_cons_of_mem _ hb)) hr⟩
 exact all X.outer (fun _ hb=>hb) I.ok.funs
theorem Inv.stack (I:Inv X pins σ H s):s.heap.FunFrames X.base X.stack:=by
 rcases I.ok.stk with e | ⟨e,hf⟩
 ·rw [e]; exact I.funs
 ·rw [e]
  obtain ⟨m,hn,_⟩:=I.loc
  refine .cons (by rw [I.ok.kind]; decide) hf hn ?_ I.funs
  exact Heap.get?_none_of_le (Nat.le_trans I.ok.bsz I.ok.above)
theorem Inv.stkSub (I:Inv X pins σ H s):∀ b∈frs X.stack,b∈X.env.locals::X.fs:=fun b hb=>by
 rcases I.ok.stk with e | ⟨e,hf⟩
 ·rw [e] at hb; exact List.mem_cons_of_mem _ hb
 ·rw [e] at hb
  unfold frs at hb
  rw [List.filterMap_cons,hf] at hb
  exact hb
theorem Inv.stkFree (I:Inv X pins σ H s):∀ b∈frs X.stack,H b = none:=fun b hb=>by
 rcases List.mem_cons.mp (I.stkSub b hb) with e | hb
 ·rw [e]; exact I.free
 ·obtain ⟨_,o,ho,_⟩:=I.ok.funs.mem hb
  exact I.base.free b o ho (I.ok.frf b hb) fun z=>I.ok.exfs b z hb
theorem Inv.step {g':Array GenState} {t':Nat} {d':Drawn} {ch:List Addr} (I:Inv X pins σ H s)
  (hch:∀ b∈ch,(b∈X.ex∨X.s₀.heap.objs.size≤b)∧b≠X.env.locals∧(∀ x c,X.env.cells.lookup x = some c→c≠b)∧∀ p∈X.pn++pins,p.1≠b)
  (keep:∀ b o,b≠X.env.locals→b ∉ X.fs→b ∉ ch→s.heap.get? b = some o→H b = none→h'.get? b = some o)
  (slot:∀ b o,b≠X.env.locals→b∈X.fs→b ∉ ch→s.heap.get? b = some o→H b = none→∃ sl,h'.get? b = some { o with slots:=sl }) (free:∀ b o,b ∉ ch→s.heap.get? b = some o→H b = none→H' b = none)
  (there:∀ b o,b ∉ ch→s.heap.get? b = some o→∃ o',h'.get? b = some o')
  (tups:∀ b xs,H b = some (.tup xs)→H' b = some (.tup xs)) (frzs:∀ b o u,H b = some (.frz o u)→H' b = some (.frz o u)) (tbls:∀ b ps,H b = some (.tbl ps)→∃ more,H' b = some (.tbl (ps++more)))
  (ns:∀ m,s.heap.Ns X.env.locals m→h'.Ns X.env.locals m) (hok:HOk X.prog X.w H' h') (hg:AllBare g') :
  Inv X pins σ H' { s with heap:=h',gens:=g',drawn:=d',toks:=t' }:=by
 have neL:∀ b o,X.s₀.heap.get? b = some o→b≠X.env.locals:=fun b o e=>Nat.ne_of_lt (Nat.lt_of_lt_of_le (Heap.lt_size e) I.ok.above)
 have neC:∀ b o,X.s₀.heap.get? b = some o→b ∉ X.ex→b ∉ ch:=fun b o e hx hb=>by
  rcases (hch b hb).1 with z | z
  ·exact hx z
  ·exact absurd (Nat.lt_of_lt_of_le (Heap.lt_size e) z) (Nat.lt_irrefl _)
 have cellK:∀ x c,X.env.cells.lookup x = some c→∀ v,s.heap.IsCell c v→h'.IsCell c v:=fun x c e v ⟨o,ho,hd⟩=>by
  have nch:c ∉ ch:=fun z=>(hch c z).2.2.1 x c e rfl
  by_cases hc:c∈X.fs
  ·obtain ⟨sl,q⟩:=slot c o (I.cne x c e) hc nch ho (I.freeC x c e)
   exact ⟨_,q,hd⟩
  ·exact ⟨o,keep c o (I.cne x c e) hc nch ho (I.freeC x c e),hd⟩
 refine ⟨I.ok,I.os,hg,⟨fun b o e n hb hx=>?_,fun b o e n hb hx=>?_,fun b o e n hx=>?_,fun b o e hx=>?_,fun b xs e=>tups b xs (I.base.tups b xs e),fun b o xs e=>frzs b o xs (I.base.frzs b o xs e),fun b ps e=>?_⟩,?_,fun x c e=>?_,?_,fun x c e=>?_,fun p hp=>?_,hok,I.len⟩
 ·exact keep b o (neL b o e) hb (neC b o e hx) (I.base.keep b o e n hb hx) (I.base.free b o e n hx)
 ·obtain ⟨sl,e1⟩:=I.base.slot b o e n hb hx
  obtain ⟨sl',e2⟩:=slot b _ (neL b o e) hb (neC b o e hx) e1 (I.base.free b o e n hx)
  exact ⟨sl',e2⟩
 ·obtain ⟨o',e1⟩:=I.base.there b o e hx
  exact free b o' (neC b o e hx) e1 (I.base.free b o e n hx)
 ·obtain ⟨o',e1⟩:=I.base.there b o e hx
  exact there b o' (neC b o e hx) e1
 ·obtain ⟨m1,e1⟩:=I.base.tbls b ps e
  obtain ⟨m2,e2⟩:=tbls b _ e1
  exact ⟨m1++m2,by rw [e2,Array.append_assoc]⟩
 ·obtain ⟨m,hn,hl⟩:=I.loc
  refine ⟨m,ns m hn,fun i x v e1 e2 e3=>?_⟩
  obtain ⟨u,r,l⟩:=hl i x v e1 e2 e3
  refine ⟨u,r,?_⟩
  rcases l with l | ⟨k,c,e,z⟩
  ·exact .inl l
  ·exact .inr ⟨k,c,e,cellK x c e _ z⟩
 ·obtain ⟨v,z⟩:=I.cell x c e
  exact ⟨v,cellK x c e v z⟩
 ·obtain ⟨m,⟨o,_,_,ho,_⟩,_⟩:=I.loc
  exact free _ o (fun z=>(hch _ z).2.1 rfl) ho I.free
 ·obtain ⟨v,o,ho,hd⟩:=I.cell x c e
  exact free c o (fun z=>(hch c z).2.2.1 x c e rfl) ho (I.freeC x c e)
 ·obtain ⟨e,n,ne,nf,d⟩:=I.pin p hp
  have nch:p.1 ∉ ch:=fun z=>(hch p.1 z).2.2.2 p hp rfl
  exact ⟨keep p.1 p.2 ne nf nch e n,free p.1 p.2 nch e n,ne,nf,d⟩
theorem Inv.un {t':Nat} (I:Inv X pins σ H s) (u:Un X.fs [] H H' s.heap h') (hok:HOk X.prog X.w H' h'):Inv X pins σ H' { s with heap:=h',toks:=t' }:=by
 obtain ⟨m,⟨o,es,ep,ho,r⟩,_⟩:=id I.loc
 obtain ⟨sl,hL⟩:=u.any ho I.free (by simp)
 exact I.step (g':=s.gens) (d':=s.drawn) (ch:=[]) (fun _ z=>nomatch z) (fun b o _ hb _ e n=>u.keep b o e n hb (by simp)) (fun b o _ hb _ e n=>u.slot b o e n hb (by simp)) (fun b o _ e n=>u.free b o e n (by simp)) (fun b o _ e=>u.there b o e (by simp)) u.tups u.frzs u.tbls (fun m' hm=>by
  obtain ⟨o',es',ep',ho',r'⟩:=hm
  rw [ho] at ho'; cases ho'
  exact ⟨_,es',ep',hL,r'⟩) hok I.bare
theorem Inv.call {g':Array GenState} {t':Nat} {d':Drawn} {ch:List Addr} (I:Inv X pins σ H s) (u:Un (frs X.stack) ch H H' s.heap h') (hok:HOk X.prog X.w H' h') (hg:AllBare g')
  (hch:∀ b∈ch,(b∈X.ex∨X.s₀.heap.objs.size≤b)∧b≠X.env.locals∧(∀ x c,X.env.cells.lookup x = some c→c≠b)∧∀ p∈X.pn++pins,p.1≠b) :
  Inv X pins σ H' { s with heap:=h',gens:=g',drawn:=d',toks:=t' }:=by
 obtain ⟨m,⟨o,es,ep,ho,r⟩,_⟩:=id I.loc
 obtain ⟨sl,hL⟩:=u.any ho I.free fun z=>(hch _ z).2.1 rfl
 exact I.step (ch:=ch) hch (fun b o hL hb hc e n=>u.keep b o e n (fun z=>(List.mem_cons.mp (I.stkSub b z)).elim hL hb) hc) (fun b o _ _ hc e n=>u.any e n hc) (fun b o hc e n=>u.free b o e n hc) (fun b o hc e=>u.there b o e hc) u.tups u.frzs u.tbls (fun m' hm=>by
  obtain ⟨o',es',ep',ho',r'⟩:=hm
  rw [ho] at ho'; cases ho'
  exact ⟨_,es',ep',hL,r'⟩) hok hg
theorem Inv.turned {t':Nat} {it:Addr} (I:Inv X pins σ H s) (k:∀ b o,b≠it→s.heap.get? b = some o→h'.get? b = some o) (hn:H it = none) (hL:it≠X.env.locals)
  (h1:it∈X.ex∨X.s₀.heap.objs.size≤it) (h2:∀ x c,X.env.cells.lookup x = some c→c≠it) (h3:∀ p∈X.pn++pins,p.1≠it):Inv X pins σ H { s with heap:=h',toks:=t' }:=by
 have nit:∀ b u,H b = some u→b≠it:=fun b u e z=>by rw [z,hn] at e; cases e
 refine I.step (g':=s.gens) (d':=s.drawn) (ch:=[it]) (fun b hb=>?_) (fun b o _ _ hc e _=>k b o (fun z=>hc (by simp [z])) e) (fun b o _ _ hc e _=>⟨o.slots,k b o (fun z=>hc (by simp [z])) e⟩) (fun _ _ _ _ n=>n)
  (fun b o hc e=>⟨o,k b o (fun z=>hc (by simp [z])) e⟩) (fun _ _ e=>e) (fun _ _ _ e=>e) (fun b ps e=>⟨#[],by rw [e]; simp⟩) (fun m hm=>?_) (fun b u e=>?_) I.bare
 ·have e:b = it:=by simpa using hb
  subst e
  exact ⟨h1,hL,h2,h3⟩
 ·obtain ⟨o,es,ep,ho,r⟩:=hm
  exact ⟨o,es,ep,k _ o (Ne.symm hL) ho,r⟩
 ·refine (I.hok b u e).stay (fun c v hc q=>k c v ?_ q) (fun _ q=>q) fun _ _ q=>q
  rcases hc with z | z
  ·rw [z]; exact nit b u e
  ·exact nit c _ z
theorem Inv.tok (I:Inv X pins σ H s) (t:Nat):Inv X pins σ H { s with toks:=t }:=I.un (h':=s.heap) (t':=t) Un.refl I.hok
theorem Inv.kept {t':Nat} (I:Inv X pins σ H s) (k:∀ b u,s.heap.get? b = some u→h'.get? b = some u):Inv X pins σ H { s with heap:=h',toks:=t' }:=I.un (Un.kept k) (I.hok.kept k)
theorem Inv.laid {a:Addr} {o:HO} {t':Nat} (I:Inv X pins σ H s) (k:∀ b u,s.heap.get? b = some u→h'.get? b = some u) (hp:s.heap.objs.size≤a) (new:ObjOk X.prog X.w (upd H a o) h' a o) :
  Inv X pins σ (upd H a o) { s with heap:=h',toks:=t' }:=I.un (Un.laid k hp (I.hok.fresh hp)) (I.hok.laid k hp new)
theorem Inv.write {x e:Addr} {o:HO} {t':Nat} (I:Inv X pins σ H s) (mu:Mut (H x)) (he:e = x∨H e = some (.own x)) (k:∀ b u,b≠e→s.heap.get? b = some u→h'.get? b = some u) (heo:∃ u,h'.get? e = some u)
  (new:ObjOk X.prog X.w (upd H x o) h' x o):Inv X pins σ (upd H x o) { s with heap:=h',toks:=t' }:=I.un (Un.write mu he k heo) (I.hok.write mu he k heo new)
theorem Inv.pins_of {pins':List (Addr × Obj)} (I:Inv X pins σ H s) (h:∀ p∈pins',s.heap.get? p.1 = some p.2∧H p.1 = none∧p.1≠X.env.locals∧p.1 ∉ X.fs∧∀ v,p.2.data≠.cell v):Inv X pins' σ H s :=
 ⟨I.ok,I.os,I.bare,I.base,I.loc,I.cell,I.free,I.freeC,fun p hp=>(List.mem_append.mp hp).elim (fun z=>I.pin p (List.mem_append_left _ z)) (h p),I.hok,I.len⟩
theorem nodup_ix {N:List Str} (hN:N.Nodup) {i j:Nat} {x:Str} (a:N[i]? = some x) (b:N[j]? = some x):i = j:=by
 obtain ⟨h1,e1⟩:=List.getElem?_eq_some_iff.mp a
 obtain ⟨h2,e2⟩:=List.getElem?_eq_some_iff.mp b
 exact (List.getElem_inj hN).mp (e1.trans e2.symm)
theorem store_ok2 {M:Model} {A:Around} {E:Value→Shared→Prop} {i:Nat} {x:Str} {v:V} {u:Value} {Q:Unit→Shared→Prop} (I:Inv X pins σ H s) (hN:X.N.Nodup) (hi:X.N[i]? = some x) (hx:Loc X.env.scope x) (r:RelV v u)
  (h:∀ s',Inv X pins (σ.set i (some v)) H s'→(∃ a,Heap.SameBut a s.heap s'.heap∧(a = X.env.locals∨X.env.cells.lookup x = some a))→Q () s') (hf:X.fn x = true∨X.env.scope.names.lookup x = some .local:=by first | exact .inl rfl | exact .inr rfl | assumption):wpAny M A (storeName X.env x u) Q E s:=by
 obtain ⟨m,hn,hl⟩:=id I.loc
 have hcls:(X.env.scope.kind == .class || (X.env.scope.kind == .module && X.env.locals != X.env.globals)) = false:=by rw [I.ok.kind]; rfl
 have hiσ:i < σ.length:=by rw [I.len]; exact (List.getElem?_eq_some_iff.mp hi).1
 have cne:=I.cne
 have tracked:∀ {a:Addr} {h':Heap},(∃ o,s.heap.get? a = some o∧H a = none)→Heap.SameBut a s.heap h'→HOk X.prog X.w H h':=fun {a h'} ha hs b ob e=>by
  obtain ⟨_,_,hfree⟩:=ha
  refine (I.hok b ob e).stay (fun c w' hc q=>(hs.2 c ?_).trans q) (fun _ q=>q) fun _ _ q=>q
  rintro rfl
  rcases hc with rfl | hc
  ·rw [hfree] at e; cases e
  ·rw [hfree] at hc; cases hc
 rcases hx with hk | hk
 ·refine wpAny_storeName_local hk hn (fun h' hn' hs=>?_) hcls
  obtain ⟨oL,_,_,hoL,_⟩:=id hn
  refine h _ ⟨I.ok,I.os,I.bare,⟨fun b o e n hb hx=>?_,fun b o e n hb hx=>?_,I.base.free,fun b o e hx=>?_,I.base.tups,I.base.frzs,I.base.tbls⟩,⟨_,hn',fun j y v' e1 e2 e3=>?_⟩,fun y c e=>?_,I.free,I.freeC,fun p hp=>?_,tracked ⟨oL,hoL,I.free⟩ hs,by simpa using I.len⟩ ⟨_,hs,.inl rfl⟩
  ·exact (hs.2 b (Nat.ne_of_lt (Nat.lt_of_lt_of_le (Heap.lt_size e) I.ok.above))).trans (I.base.keep b o e n hb hx)
  ·obtain ⟨sl,e1⟩:=I.base.slot b o e n hb hx
   exact ⟨sl,(hs.2 b (Nat.ne_of_lt (Nat.lt_of_lt_of_le (Heap.lt_size e) I.ok.above))).trans e1⟩
  ·obtain ⟨o',e1⟩:=I.base.there b o e hx
   exact ⟨o',(hs.2 b (Nat.ne_of_lt (Nat.lt_of_lt_of_le (Heap.lt_size e) I.ok.above))).trans e1⟩
  ·by_cases hj:j = i
   ·subst hj
    rw [hi] at e1; cases e1
    rw [List.getElem?_set_self hiσ] at e2
    cases e2
    exact ⟨u,r,.inl ⟨hk,by simp⟩⟩
   ·rw [List.getElem?_set_ne (Ne.symm hj)] at e2
    obtain ⟨u',r',q⟩:=hl j y v' e1 e2 e3
    refine ⟨u',r',?_⟩
    rcases q with ⟨k,e⟩ | ⟨k,c,e,z⟩
    ·refine .inl ⟨k,?_⟩
     have:y≠x:=fun e=>hj (nodup_ix hN e1 (e ▸ hi))
     simp [this,e]
    ·exact .inr ⟨k,c,e,z.sameBut hs (cne y c e)⟩
  ·obtain ⟨w',z⟩:=I.cell y c e
   exact ⟨w',z.sameBut hs (cne y c e)⟩
  ·obtain ⟨e,n,ne,nf,d⟩:=I.pin p hp
   exact ⟨(hs.2 p.1 ne).trans e,n,ne,nf,d⟩
 ·have hfn:X.fn x = true:=by
   rcases hf with z | z
   ·exact z
   ·rw [z] at hk; cases hk
  obtain ⟨c,hc⟩:=I.ok.has x (.inl hk)
  obtain ⟨w',z⟩:=I.cell x c hc
  refine wpAny_storeName_cell I.ok.kind hk hc z (fun h' hc' hs=>?_)
  obtain ⟨oc,hoc,hocd⟩:=id z
  refine h { s with heap:=h' } ⟨I.ok,I.os,I.bare,⟨fun b o e n hb hx=>?_,fun b o e n hb hx=>?_,I.base.free,fun b o e hx=>?_,I.base.tups,I.base.frzs,I.base.tbls⟩,⟨m,hn.sameBut hs (Ne.symm (cne x c hc)),fun j y v' e1 e2 e3=>?_⟩,fun y c' e=>?_,I.free,I.freeC,fun p hp=>?_,tracked ⟨oc,hoc,I.freeC x c hc⟩ hs,by simpa using I.len⟩ ⟨c,hs,.inr hc⟩
  ·exact (hs.2 b (Nat.ne_of_lt (Nat.lt_of_lt_of_le (Heap.lt_size e) (I.ok.cab x c hfn hc)))).trans (I.base.keep b o e n hb hx)
  ·obtain ⟨sl,e1⟩:=I.base.slot b o e n hb hx
   exact ⟨sl,(hs.2 b (Nat.ne_of_lt (Nat.lt_of_lt_of_le (Heap.lt_size e) (I.ok.cab x c hfn hc)))).trans e1⟩
  ·obtain ⟨o',e1⟩:=I.base.there b o e hx
   exact ⟨o',(hs.2 b (Nat.ne_of_lt (Nat.lt_of_lt_of_le (Heap.lt_size e) (I.ok.cab x c hfn hc)))).trans e1⟩
  ·by_cases hj:j = i
   ·subst hj
    rw [hi] at e1; cases e1
    rw [List.getElem?_set_self hiσ] at e2
    cases e2
    exact ⟨u,r,.inr ⟨.inl hk,c,hc,hc'⟩⟩
   ·rw [List.getElem?_set_ne (Ne.symm hj)] at e2
    obtain ⟨u',r',q⟩:=hl j y v' e1 e2 e3
    refine ⟨u',r',?_⟩
    rcases q with q | ⟨k,c',e,z'⟩
    ·exact .inl q
    ·refine .inr ⟨k,c',e,z'.sameBut hs ?_⟩
     rintro rfl
     exact hj (nodup_ix hN e1 (I.ok.inj _ _ _ e hc ▸ hi))
  ·by_cases hcc:c' = c
   ·subst hcc; exact ⟨_,hc'⟩
   ·obtain ⟨w2,z2⟩:=I.cell y c' e
    exact ⟨w2,z2.sameBut hs hcc⟩
  ·obtain ⟨e,n,ne,nf,d⟩:=I.pin p hp
   refine ⟨(hs.2 p.1 ?_).trans e,n,ne,nf,d⟩
   intro q
   rw [q,hoc] at e
   have q':oc = p.2:=Option.some.inj e
   exact d w' (by rw [← q']; exact hocd)
theorem store_ok {M:Model} {A:Around} {E:Value→Shared→Prop} {i:Nat} {x:Str} {v:V} {u:Value} {Q:Unit→Shared→Prop} (I:Inv X pins σ H s) (hN:X.N.Nodup) (hi:X.N[i]? = some x) (hx:Loc X.env.scope x) (r:RelV v u)
  (h:∀ s',Inv X pins (σ.set i (some v)) H s'→Q () s') (hf:X.fn x = true∨X.env.scope.names.lookup x = some .local:=by first | exact .inl rfl | exact .inr rfl | assumption):wpAny M A (storeName X.env x u) Q E s :=
 store_ok2 I hN hi hx r (fun s' I' _=>h s' I') hf
theorem Inv.call' {s':Shared} {ch:List Addr} (I:Inv X pins σ H s) (ho:s'.os = s.os) (u:Un (frs X.stack) ch H H' s.heap s'.heap) (hok:HOk X.prog X.w H' s'.heap) (hg:AllBare s'.gens)
  (hch:∀ b∈ch,(b∈X.ex∨X.s₀.heap.objs.size≤b)∧b≠X.env.locals∧(∀ x c,X.env.cells.lookup x = some c→c≠b)∧∀ p∈X.pn++pins,p.1≠b):Inv X pins σ H' s':=by
 obtain ⟨h',g',d',t',o'⟩:=s'
 have e:o' = s.os:=ho
 subst e
 exact I.call (g':=g') (t':=t') (d':=d') u hok hg hch
end
abbrev XK:=Value→Option Addr→Hp→Prop
abbrev St:=List (Option V)
abbrev VK:=V→Hp→Prop
abbrev TE:=St→Hp→VK→Prop
abbrev TT:=St→Hp→(Bool→Hp→Prop)→Prop
abbrev TA:=St→Hp→(List V→Hp→Prop)→Prop
structure Ends where
 nx:St→Hp→Prop
 rt:VK
 bk:St→Hp→Prop:=fun _ _=>False
 ct:St→Hp→Prop:=fun _ _=>False
abbrev TS:=Ends→St→Hp→Prop
def EP (X:Cx) (pins:List (Addr × Obj)) (σ:St) (Q:VK) (u:Value) (s':Shared):Prop:=∃ v H',Inv X pins σ H' s'∧RelV v u∧Q v H'
def TP (X:Cx) (pins:List (Addr × Obj)) (σ:St) (Q:Bool→Hp→Prop) (b:Bool) (s':Shared):Prop:=∃ H',Inv X pins σ H' s'∧Q b H'
def AP (X:Cx) (pins:List (Addr × Obj)) (σ:St) (Q:List V→Hp→Prop) (us:List Value) (s':Shared):Prop:=∃ vs H',Inv X pins σ H' s'∧Vals vs us∧Q vs H'
def SP (X:Cx) (pins:List (Addr × Obj)) (D:Ends) (f:Flow) (s':Shared):Prop :=
 match f with
 | .next=>∃ σ' H',Inv X pins σ' H' s'∧D.nx σ' H'
 | .brk=>∃ σ' H',Inv X pins σ' H' s'∧D.bk σ' H'
 | .cont=>∃ σ' H',Inv X pins σ' H' s'∧D.ct σ' H'
 | .ret u=>∃ v σ' H',Inv X pins σ' H' s'∧RelV v u∧D.rt v H'
def PE (X:Cx) (e:Expr) (t:TE):Prop :=
 ∀ (pins:List (Addr × Obj)) (s:Shared) (σ:St) (H:Hp) (Q:VK),Inv X pins σ H s→t σ H Q→wpAny (model X.prog X.w) X.A (eval e X.env) (EP X pins σ Q) X.xe s
def PT (X:Cx) (e:Expr) (t:TT):Prop :=
 ∀ (pins:List (Addr × Obj)) (s:Shared) (σ:St) (H:Hp) (Q:Bool→Hp→Prop),Inv X pins σ H s→t σ H Q→wpAny (model X.prog X.w) X.A (isTrue e X.env (eval e X.env)) (TP X pins σ Q) X.xe s
def PW (X:Cx) (e:Expr) (t:TT):Prop :=
 ∀ (whole:Sem Value) (pins:List (Addr × Obj)) (s:Shared) (σ:St) (H:Hp) (Q:Bool→Hp→Prop),Inv X pins σ H s→t σ H Q→wpAny (model X.prog X.w) X.A (isTrue e X.env whole) (TP X pins σ Q) X.xe s
theorem PW.pt {X:Cx} {e:Expr} {t:TT} (h:PW X e t):PT X e t:=h _
def PA (X:Cx) (es:List Expr) (t:TA):Prop :=
 ∀ (pos:Pos) (pins:List (Addr × Obj)) (s:Shared) (σ:St) (H:Hp) (Q:List V→Hp→Prop),Inv X pins σ H s→t σ H Q→wpAny (model X.prog X.w) X.A (spliced (backTo pos (starEach es X.env))) (AP X pins σ Q) X.xe s
def PS (X:Cx) (st:Stmt) (t:TS):Prop :=
 ∀ (pins:List (Addr × Obj)) (s:Shared) (σ:St) (H:Hp) (D:Ends),Inv X pins σ H s→t D σ H→wpAny (model X.prog X.w) X.A (exec st X.env) (SP X pins D) X.xe s
def PSs (X:Cx) (st:List Stmt) (t:TS):Prop :=
 ∀ (pins:List (Addr × Obj)) (s:Shared) (σ:St) (H:Hp) (D:Ends),Inv X pins σ H s→t D σ H→wpAny (model X.prog X.w) X.A (execs st X.env) (SP X pins D) X.xe s
theorem thn {α:Type} {t:Sem α} {Q Q':α→Shared→Prop} {M:Model} {A:Around} {E:Value→Shared→Prop} {s:Shared} (h:wpAny M A t Q E s) (hQ:∀ a s,Q a s→Q' a s):wpAny M A t Q' E s:=wpAny_mono h hQ fun _ _ x=>x
end L2
namespace L2
open PySem PySem.Spec PyProof.Rows
section
variable {X:Cx}
def tVar (i:Nat):TE:=fun σ H Q=>∃ v,σ[i]? = some (some v)∧Q v H
def tC (v:V):TE:=fun _ H Q=>Q v H
theorem pe_var {i:Nat} {x:Str} {pos:Pos} (hN:X.N[i]? = some x) (hv:Vis X.env.scope x) (hd:(x == ("__debug__":Str)) = false:=by decide) (hcd:(x == ("__classdict__":Str)) = false:=by decide):PE X (.Name x pos) (tVar i):=by
 intro pins s σ H Q I h
 obtain ⟨v,e,h⟩:=h
 obtain ⟨m,hn,hl⟩:=I.loc
 obtain ⟨u,r,l⟩:=hl i x v hN e hv
 have fin:EP X pins σ Q u s:=⟨v,H,I,r,h⟩
 rcases l with ⟨hk,hm⟩ | ⟨hk,c,hc,hcell⟩
 ·exact wpAny_Name (wpAny_loadName_local I.ok.kind hk hn hm fin) hd
 ·rcases hk with hk | hk
  ·exact wpAny_Name (wpAny_loadName_cell I.ok.kind hk hc hcell fin) hd
  ·exact wpAny_Name (wpAny_loadName_free I.ok.kind hk hc hcell fin hcd) hd
theorem pe_int {i j pos}:PE X (.Constant (.int i) j pos) (tC (.int i)):=fun _ _ _ H _ I h=>wpAny_Constant_int ⟨.int i,H,I.tok _,⟨_,rfl⟩,h⟩
theorem pe_bl {b j pos}:PE X (.Constant (.bool b) j pos) (tC (.bl b)):=fun _ _ _ H _ I h=>Constant_bool ⟨.bl b,H,I,rfl,h⟩
theorem pe_non {j pos}:PE X (.Constant .none j pos) (tC .non):=fun _ _ _ H _ I h=>Constant_none ⟨.non,H,I,rfl,h⟩
def Gl (X:Cx) (x:Str):Prop:=X.env.kindOf x = some .globalImplicit
theorem ld_glob {E:Value→Shared→Prop} {pins:List (Addr × Obj)} {s:Shared} {σ:St} {H:Hp} {x:Str} {u:Value} {pos:Pos} {Q:Value→Shared→Prop} (I:Inv X pins σ H s) (hg:Gl X x) (hm:X.mg x = some u) (h:Q u s)
  (hd:(x == ("__debug__":Str)) = false:=by decide):wpAny (model X.prog X.w) X.A (eval (.Name x pos) X.env) Q E s :=
 Calls.Name_function_global I.ok.kind hg (Calls.loadGlobal_global (by rw [I.ok.glob]; exact I.mod.glob.keeps I.bk) hm h) hd
theorem ld_blt {E:Value→Shared→Prop} {pins:List (Addr × Obj)} {s:Shared} {σ:St} {H:Hp} {x:Str} {u:Value} {pos:Pos} {Q:Value→Shared→Prop} (I:Inv X pins σ H s) (hg:Gl X x) (hm:X.mg x = none) (hv:bootBuiltins x = some u) (h:Q u s)
  (hn:x≠"__name__":=by decide) (hd:(x == ("__debug__":Str)) = false:=by decide):wpAny (model X.prog X.w) X.A (eval (.Name x pos) X.env) Q E s:=by
 obtain ⟨mb,h1,h2⟩:=I.mod.blt
 exact Calls.Name_function_global I.ok.kind hg (Calls.loadGlobal_builtin (by rw [I.ok.glob]; exact I.mod.glob.keeps I.bk) hm (by rw [I.ok.blt]; exact h1.keeps I.bk) ((h2 x hn).trans hv) h) hd
theorem pe_glob {x:Str} {v:V} {u:Value} {pos:Pos} (hg:Gl X x) (hm:X.mg x = some u) (r:RelV v u) (hd:(x == ("__debug__":Str)) = false:=by decide):PE X (.Name x pos) (tC v) :=
 fun _ _ _ H _ I h=>ld_glob I hg hm ⟨v,H,I,r,h⟩ hd
theorem pe_bltn {x:Str} {v:V} {u:Value} {pos:Pos} (hg:Gl X x) (hm:X.mg x = none) (hv:bootBuiltins x = some u) (r:RelV v u) (hn:x≠"__name__":=by decide) (hd:(x == ("__debug__":Str)) = false:=by decide):PE X (.Name x pos) (tC v) :=
 fun _ _ _ H _ I h=>ld_blt I hg hm hv ⟨v,H,I,r,h⟩ hn hd
variable {a b:Expr} {ta tb:TE} {pos:Pos}
def tB (t:TE):TT:=fun σ H Q=>t σ H fun x H1=>∃ c,x = .bl c∧Q c H1
theorem pt_val {e:Expr} {t:TE} (h:PE X e t) (he:∀ whole,isTrue e X.env whole = (do let v ← whole; standAt e.pos; holding [v] (truthy v)):=by intro _; rfl):PT X e (tB t):=by
 intro pins s σ H Q I hw
 refine isTrue_plain (thn (h pins s σ H _ I hw) fun v s1 ⟨x,H1,I1,r1,q1⟩=>?_) (he _)
 obtain ⟨d,rfl,q⟩:=q1
 cases r1
 exact wpAny_truthy_bool ⟨H1,I1,q⟩
variable {tA tB':TT} {rest:List Expr}
def tAnd (t u:TT):TT:=fun σ H Q=>t σ H fun c H1=>if c = true then u σ H1 Q else Q false H1
def tOr (t u:TT):TT:=fun σ H Q=>t σ H fun c H1=>if c = true then Q true H1 else u σ H1 Q
def tNot (t:TT):TT:=fun σ H Q=>t σ H fun c H1=>Q (!c) H1
theorem pw_and1 (ha:PT X a tA):PW X (.BoolOp .And [a] pos) tA:=by
 intro wh pins s σ H Q I h
 refine isTrue_and (thn (ha pins s σ H Q I h) fun c s1 e=>?_)
 cases c with
 | true=>exact isTrue_and_nil e
 | false=>exact e
theorem pw_or1 (ha:PT X a tA):PW X (.BoolOp .Or [a] pos) tA:=by
 intro wh pins s σ H Q I h
 refine isTrue_or (thn (ha pins s σ H Q I h) fun c s1 e=>?_)
 cases c with
 | false=>exact isTrue_or_nil e
 | true=>exact e
theorem pw_and (ha:PT X a tA) (hb:PW X (.BoolOp .And (b::rest) pos) tB'):PW X (.BoolOp .And (a::b::rest) pos) (tAnd tA tB'):=by
 intro wh pins s σ H Q I h
 refine isTrue_and (thn (ha pins s σ H _ I h) fun c s1 ⟨H1,I1,q1⟩=>?_)
 cases c with
 | true=>exact hb wh pins s1 σ H1 Q I1 q1
 | false=>exact ⟨H1,I1,q1⟩
theorem pw_or (ha:PT X a tA) (hb:PW X (.BoolOp .Or (b::rest) pos) tB'):PW X (.BoolOp .Or (a::b::rest) pos) (tOr tA tB'):=by
 intro wh pins s σ H Q I h
 refine isTrue_or (thn (ha pins s σ H _ I h) fun c s1 ⟨H1,I1,q1⟩=>?_)
 cases c with
 | true=>exact ⟨H1,I1,q1⟩
 | false=>exact hb wh pins s1 σ H1 Q I1 q1
theorem pt_not (ha:PT X a tA):PT X (.UnaryOp .Not a pos) (tNot tA):=by
 intro pins s σ H Q I h
 exact isTrue_not (ha pins s σ H (fun c H1=>Q (!c) H1) I h)
def tAndV (ta tb:TE):TE:=fun σ H Q=>ta σ H fun x H1=>∃ c,x = .bl c∧if c = true then tb σ H1 Q else Q (.bl false) H1
def tNotV (ta:TE):TE:=fun σ H Q=>ta σ H fun x H1=>∃ c,x = .bl c∧Q (.bl (!c)) H1
theorem pe_one {op} {t:TE} (h:PE X a t):PE X (.BoolOp op [a] pos) t:=fun pins s σ H Q I hw=>BoolOp_one (h pins s σ H Q I hw)
theorem pe_and (ha:PE X a ta) (hb:PE X (.BoolOp .And (b::rest) pos) tb):PE X (.BoolOp .And (a::b::rest) pos) (tAndV ta tb):=by
 intro pins s σ H Q I h
 refine BoolOp_and (thn (ha pins s σ H _ I h) fun v s1 ⟨x,H1,I1,r1,q1⟩=>?_)
 obtain ⟨c,rfl,q1⟩:=q1
 cases r1
 refine wpAny_truthy_bool ?_
 cases c with
 | true=>exact hb pins s1 σ H1 Q I1 q1
 | false=>exact ⟨.bl false,H1,I1,rfl,q1⟩
theorem pe_not (ha:PE X a ta):PE X (.UnaryOp .Not a pos) (tNotV ta):=by
 intro pins s σ H Q I h
 refine UnaryOp_ (thn (ha pins s σ H _ I h) fun v s1 ⟨x,H1,I1,r1,q1⟩=>?_)
 obtain ⟨c,rfl,q1⟩:=q1
 cases r1
 exact not_of (wpAny_truthy_bool ⟨.bl (!c),H1,I1,rfl,q1⟩)
end
end L2
namespace L2
open PySem PySem.Spec PyProof.Rows
def SqL (K:PySem.W.Frag) (H:Hp) (a:Addr) (xs:List V):Prop :=
 Rd H a (.lst xs) ∨
  ∃ (o:Obj) (its:Array Value) (n:Nat),K.lookup a = some o∧o.cls = .type "list"∧o.dict = none∧o.data = .seq its n∧its.size≤sizeLine∧Vals xs its.toList
def SqT (K:PySem.W.Frag) (H:Hp) (a:Addr) (xs:List V):Prop :=
 Rd H a (.tup xs) ∨
  ∃ (o:Obj) (its:Array Value) (n:Nat),K.lookup a = some o∧o.cls = .type "tuple"∧o.data = .seq its n∧its.size≤sizeLine∧Vals xs its.toList
def absV:Value→Option V
 | .none=>some .non
 | .bool b=>some (.bl b)
 | .int i _=>some (.int i)
 | .str x _=>some (.str x)
 | .bytes b _=>some (.byt b)
 | .float b _=>some (.flt b)
 | .ref a=>some (.ref a)
 | .type n=>some (.ty n)
 | _=>none
theorem RelV.abs {x:V} {u:Value} (r:RelV x u):absV u = some x:=by
 cases x with
 | non=>cases r; rfl
 | bl _=>cases r; rfl
 | int _=>obtain ⟨t,rfl⟩:=r; rfl
 | str _=>obtain ⟨t,rfl⟩:=r; rfl
 | byt _=>obtain ⟨t,rfl⟩:=r; rfl
 | flt _=>obtain ⟨t,rfl⟩:=r; rfl
 | ref _=>cases r; rfl
 | ty _=>cases r; rfl
theorem RelV.inj {x y:V} {u:Value} (r:RelV x u) (q:RelV y u):x = y:=Option.some.inj (r.abs.symm.trans q.abs)
theorem Vals.inj:∀ {xs ys:List V} {us:List Value},Vals xs us→Vals ys us→xs = ys
 | _,_,_,.nil,.nil=>rfl
 | _,_,_,.cons r t,.cons r' t'=>by rw [r.inj r',Vals.inj t t']
section
variable {X:Cx} {pins:List (Addr × Obj)} {σ:St} {H:Hp} {s:Shared} {a:Addr} {xs ys:List V}
theorem SqL.of {K:PySem.W.Frag} (h:H a = some (.lst xs)):SqL K H a xs:=.inl (.inl h)
theorem SqT.of {K:PySem.W.Frag} (h:H a = some (.tup xs)):SqT K H a xs:=.inl (.inl h)
theorem Inv.list (I:Inv X pins σ H s) (h:SqL X.K H a xs):∃ its:List Value,Vals xs its∧PlainL s.heap a its.toArray∧xs.length≤sizeLine:=by
 rcases h with h | ⟨o,its,n,hk,hc,hd,hs,hz,r⟩
 ·obtain ⟨z,its,n,r,e⟩:=h.ok I.hok
  exact ⟨its,r,⟨_,n,e,rfl,rfl,rfl⟩,z⟩
 ·refine ⟨its.toList,r,⟨o,n,I.kIn a o hk,hc,hd,by simpa using hs⟩,?_⟩
  have e:=r.length
  simp only [Array.length_toList] at e
  omega
theorem Inv.tuple (I:Inv X pins σ H s) (h:SqT X.K H a xs):∃ its:List Value,Vals xs its∧IsTup s.heap a its.toArray∧xs.length≤sizeLine:=by
 rcases h with h | ⟨o,its,n,hk,hc,hs,hz,r⟩
 ·obtain ⟨z,its,r,p⟩:=h.ok I.hok
  exact ⟨its,r,p,z⟩
 ·refine ⟨its.toList,r,⟨o,I.kIn a o hk,hc,n,by simpa using hs⟩,?_⟩
  have e:=r.length
  simp only [Array.length_toList] at e
  omega
theorem Inv.list_inj (I:Inv X pins σ H s) (h:SqL X.K H a xs) (h':SqL X.K H a ys):xs = ys:=by
 obtain ⟨its,r,⟨o,n,e,_,_,d⟩,_⟩:=I.list h
 obtain ⟨its',r',⟨o',n',e',_,_,d'⟩,_⟩:=I.list h'
 rw [e] at e'; cases e'
 rw [d] at d'
 injection d' with d1 _
 have:its = its':=by simpa using congrArg Array.toList d1
 subst this
 exact r.inj r'
theorem Inv.tuple_inj (I:Inv X pins σ H s) (h:SqT X.K H a xs) (h':SqT X.K H a ys):xs = ys:=by
 obtain ⟨its,r,⟨o,e,_,n,d⟩,_⟩:=I.tuple h
 obtain ⟨its',r',⟨o',e',_,n',d'⟩,_⟩:=I.tuple h'
 rw [e] at e'; cases e'
 rw [d] at d'
 injection d' with d1 _
 have:its = its':=by simpa using congrArg Array.toList d1
 subst this
 exact r.inj r'
end
abbrev Cx.wish (X:Cx) (E:Value→Shared→Prop):Cx:={ X with xe:=E }
abbrev Cx.nox (X:Cx):Cx:=X.wish fun _ _=>False
theorem Cx.Ok.wish {X:Cx} (ok:X.Ok) (E:Value→Shared→Prop):(X.wish E).Ok :=
 ⟨ok.mod,ok.kind,ok.glob,ok.blt,ok.above,ok.inj,ok.has,ok.cab,ok.hd,ok.frames,ok.stk,ok.exf,ok.bs,ok.bsz,ok.noex,ok.exfs,ok.funs,ok.frf⟩
theorem Cx.Ok.unwish {X:Cx} {E:Value→Shared→Prop} (ok:(X.wish E).Ok):X.Ok :=
 ⟨ok.mod,ok.kind,ok.glob,ok.blt,ok.above,ok.inj,ok.has,ok.cab,ok.hd,ok.frames,ok.stk,ok.exf,ok.bs,ok.bsz,ok.noex,ok.exfs,ok.funs,ok.frf⟩
section
variable {X:Cx} {pins:List (Addr × Obj)} {σ:St} {H:Hp} {s:Shared} {E:Value→Shared→Prop}
theorem Inv.wish (I:Inv X pins σ H s) (E:Value→Shared→Prop):Inv (X.wish E) pins σ H s:=⟨I.ok.wish E,I.os,I.bare,I.base,I.loc,I.cell,I.free,I.freeC,I.pin,I.hok,I.len⟩
theorem Inv.unwish (I:Inv (X.wish E) pins σ H s):Inv X pins σ H s:=⟨I.ok.unwish,I.os,I.bare,I.base,I.loc,I.cell,I.free,I.freeC,I.pin,I.hok,I.len⟩
theorem SP.unwish {D:Ends} {f:Flow} {s':Shared} (h:SP (X.wish E) pins D f s'):SP X pins D f s':=by
 cases f with
 | next=>obtain ⟨σ',H',I,q⟩:=h; exact ⟨σ',H',I.unwish,q⟩
 | brk=>obtain ⟨σ',H',I,q⟩:=h; exact ⟨σ',H',I.unwish,q⟩
 | cont=>obtain ⟨σ',H',I,q⟩:=h; exact ⟨σ',H',I.unwish,q⟩
 | ret u=>obtain ⟨v,σ',H',I,r,q⟩:=h; exact ⟨v,σ',H',I.unwish,r,q⟩
theorem PSs.nox {st:List Stmt} {t:TS} (h:PSs X.nox st t):PSs X st t:=fun pins s σ H D I hw =>
 wpAny_mono (h pins s σ H D (I.wish _) hw) (fun _ _ q=>q.unwish) fun _ _ z=>False.elim z
end
section
variable {X:Cx} {st:Stmt} {rest:List Stmt} {t u:TS} {e:Expr} {te:TE} {pos:Pos}
def tNext:TS:=fun D σ H=>D.nx σ H
def tSeq (t u:TS):TS:=fun D σ H=>t { D with nx:=u D } σ H
theorem pss_nil:PSs X [] tNext:=fun _ _ σ H _ I h=>wpAny_execs_nil ⟨σ,H,I,h⟩
theorem pss_cons (h1:PS X st t) (h2:PSs X rest u):PSs X (st::rest) (tSeq t u):=by
 intro pins s σ H D I h
 refine wpAny_execs_cons (thn (h1 pins s σ H { D with nx:=u D } I h) fun f s1 q=>?_)
 cases f with
 | next =>
  obtain ⟨σ',H',I',q⟩:=q
  exact h2 pins s1 σ' H' D I' q
 | ret v=>exact q
 | brk=>exact q
 | cont=>exact q
theorem pss_one (h1:PS X st t):PSs X [st] t:=by
 intro pins s σ H D I h
 refine wpAny_execs_cons (thn (h1 pins s σ H D I h) fun f s1 q=>?_)
 cases f with
 | next=>exact wpAny_execs_nil q
 | ret v=>exact q
 | brk=>exact q
 | cont=>exact q
theorem Inv.quiet {pins:List (Addr × Obj)} {σ:St} {H:Hp} {s:Shared} (I:Inv X pins σ H s):interactive X.env = false:=by simp [interactive,I.ok.kind]
def tDrop (te:TE):TS:=fun D σ H=>te σ H fun _ H1=>D.nx σ H1
theorem ps_expr (he:PE X e te) (hs:swapsWith e none pos.line X.env = pure false:=by rfl):PS X (.Expr e pos) (tDrop te):=by
 intro pins s σ H D I h
 exact wpAny_Expr_any (thn (he pins s σ H _ I h) fun v s1 ⟨x,H1,I1,r1,q1⟩=>⟨σ,H1,I1,q1⟩) I.quiet hs
def tRet (te:TE):TS:=fun D σ H=>te σ H D.rt
theorem ps_ret (he:PE X e te):PS X (.Return (some e) pos) (tRet te):=by
 intro pins s σ H D I h
 exact wpAny_Return_some (thn (he pins s σ H _ I h) fun v s1 ⟨x,H1,I1,r1,q1⟩=>⟨x,σ,H1,I1,r1,q1⟩)
def tIfS (c:TT) (t u:TS):TS:=fun D σ H=>c σ H fun b H1=>if b = true then t D σ H1 else u D σ H1
theorem ps_if {c:Expr} {a b:List Stmt} {tc:TT} (hc:PT X c tc) (ha:PSs X a t) (hb:PSs X b u):PS X (.If c a b pos) (tIfS tc t u):=by
 intro pins s σ H D I h
 refine wpAny_If (thn (hc pins s σ H _ I h) fun d s1 ⟨H1,I1,q1⟩=>?_)
 cases d with
 | true=>exact ha pins s1 σ H1 D I1 q1
 | false=>exact hb pins s1 σ H1 D I1 q1
end
abbrev TG:=V→St→Hp→(St→Hp→Prop)→Prop
abbrev TGs:=List V→St→Hp→(St→Hp→Prop)→Prop
def PG (X:Cx) (target:Expr) (t:TG):Prop :=
 ∀ (pins:List (Addr × Obj)) (s:Shared) (σ:St) (H:Hp) (v:V) (u:Value) (Q:St→Hp→Prop),Inv X pins σ H s→RelV v u→t v σ H Q →
  wpAny (model X.prog X.w) X.A (assign target X.env u) (fun _ s'=>∃ σ' H',Inv X pins σ' H' s'∧Q σ' H') X.xe s
def PGs (X:Cx) (ts:List Expr) (t:TGs):Prop :=
 ∀ (pins:List (Addr × Obj)) (s:Shared) (σ:St) (H:Hp) (vs:List V) (us:List Value) (Q:St→Hp→Prop),Inv X pins σ H s→Vals vs us→t vs σ H Q →
  wpAny (model X.prog X.w) X.A (assignInOrder ((assignEach ts X.env).map (·.2)) us) (fun _ s'=>∃ σ' H',Inv X pins σ' H' s'∧Q σ' H') X.xe s
section
variable {X:Cx} {pos:Pos}
def gName (i:Nat):TG:=fun v σ H Q=>Q (σ.set i (some v)) H
theorem pg_name {i:Nat} {x:Str} (hN:X.N.Nodup) (hi:X.N[i]? = some x) (hx:Loc X.env.scope x) (hf:X.fn x = true∨X.env.scope.names.lookup x = some .local:=by first | exact .inl rfl | exact .inr rfl | assumption):PG X (.Name x pos) (gName i):=by
 intro pins s σ H v u Q I r h
 exact wpAny_assign_Name (store_ok I hN hi hx r (fun s' I'=>⟨_,H,I',h⟩) hf)
def gNil:TGs:=fun vs σ H Q=>vs = []∧Q σ H
def gCons (t:TG) (u:TGs):TGs:=fun vs σ H Q=>∃ v r,vs = v::r∧t v σ H fun σ' H'=>u r σ' H' Q
theorem pgs_nil:PGs X [] gNil:=by
 intro pins s σ H vs us Q I r h
 obtain ⟨e,h⟩:=h
 subst e
 cases r
 exact assignInOrder_nil ⟨σ,H,I,h⟩
theorem pgs_cons {e:Expr} {es:List Expr} {t:TG} {u:TGs} (h1:PG X e t) (h2:PGs X es u)
  (hs:(assignEach (e::es) X.env).map (·.2) = assign e X.env::(assignEach es X.env).map (·.2):=by rfl):PGs X (e::es) (gCons t u):=by
 intro pins s σ H vs us Q I r h
 obtain ⟨v,vr,e1,h⟩:=h
 subst e1
 cases r with
 | cons r rr =>
  rw [hs]
  refine assignInOrder_cons (thn (h1 pins s σ H _ _ _ I r h) fun _ s1 ⟨σ1,H1,I1,q1⟩=>?_)
  exact h2 pins s1 σ1 H1 _ _ Q I1 rr q1
def gTup (K:PySem.W.Frag) (n:Nat) (t:TGs):TG:=fun v σ H Q=>∃ a xs,v = .ref a∧SqT K H a xs∧xs.length = n∧t xs σ H Q
theorem pg_tup {es:List Expr} {k:Nat} {t:TGs} {n:Nat} (hc:X.calm = true) (h:PGs X es t)
  (hn:(assignEach es X.env).length = n:=by rfl) (hst:(assignEach es X.env).findIdx? (·.1) = none:=by rfl):PG X (.Tuple es k pos) (gTup X.K n t):=by
 intro pins s σ H v u Q I r hw
 obtain ⟨a,xs,e1,hq,hl,hw⟩:=hw
 subst e1
 cases r
 obtain ⟨its,rv,ht,hz⟩:=I.tuple hq
 refine assign_Tuple_tuple (I.ok.hd hc) ht (by simp [hn,← hl,rv.length]) hst fun h' hx=>?_
 have I1:Inv X pins σ H { s with heap:=h' }:=I.kept (t':=s.toks) fun b o e=>hx b o (Nat.ne_of_lt (Heap.lt_size e)) e
 exact h pins _ σ H xs _ Q I1 (by simpa using rv) hw
def tAsg (te:TE) (g:TG):TS:=fun D σ H=>te σ H fun x H1=>g x σ H1 D.nx
theorem ps_set {i:Nat} {x:Str} {e:Expr} {te:TE} {pos':Pos} (hN:X.N.Nodup) (hi:X.N[i]? = some x) (hx:Loc X.env.scope x) (he:PE X e te) (hs:swapsWith e (some (.Name x pos')) pos.line X.env = pure false:=by rfl) (hf:X.fn x = true∨X.env.scope.names.lookup x = some .local:=by first | exact .inl rfl | exact .inr rfl | assumption) :
  PS X (.Assign [.Name x pos'] e pos) (tAsg te (gName i)):=by
 intro pins s σ H D I h
 refine wpAny_Assign_Name (thn (he pins s σ H _ I h) fun v s1 ⟨y,H1,I1,r1,q1⟩=>?_) hs
 exact store_ok I1 hN hi hx r1 (fun s2 I2=>⟨_,H1,I2,q1⟩) hf
end
section
variable {X:Cx} {pos:Pos}
def tWhile (c:TT) (tb:TS):TS:=fun D σ H=>∃ W:Nat→St→Hp→Prop,(∃ m,W m σ H)∧∀ m σ H,W m σ H →
 c σ H fun b H1=>if b = true then ∃ N:St→Hp→Prop,(∀ σ' H',N σ' H'→∃ m',m' < m∧W m' σ' H')∧tb { D with nx:=N,ct:=N,bk:=D.nx } σ H1 else D.nx σ H1
theorem ps_while {c:Expr} {body:List Stmt} {tc:TT} {tb:TS} (hp:PassesOwn (model X.prog X.w) X.A X.env X.xe) (hc:PT X c tc) (hb:PSs X body tb):PS X (.While c body [] pos) (tWhile tc tb):=by
 intro pins s σ H D I h
 obtain ⟨W,⟨m0,w0⟩,turn⟩:=h
 refine wpAny_While (codeAny_whileLoop (fun n s'=>∃ σ' H',Inv X pins σ' H' s'∧W n σ' H') ?_ m0 ⟨σ,H,I,w0⟩)
 rintro n s1 ⟨σ1,H1,I1,w1⟩
 refine wpAny_passesOwn hp (thn (hc pins s1 σ1 H1 _ I1 (turn n σ1 H1 w1)) fun b s2 ⟨H2,I2,q2⟩=>?_)
 cases b with
 | true =>
  obtain ⟨N,hN,q2⟩:=q2
  rw [if_pos rfl]
  refine wpAny_passesOwn hp (thn (hb pins s2 σ1 H2 _ I2 q2) fun f s3 q3=>?_)
  cases f with
  | next =>
   obtain ⟨σ3,H3,I3,n3⟩:=q3
   obtain ⟨m',hm,w3⟩:=hN σ3 H3 n3
   exact ⟨m',hm,σ3,H3,I3,w3⟩
  | cont =>
   obtain ⟨σ3,H3,I3,n3⟩:=q3
   obtain ⟨m',hm,w3⟩:=hN σ3 H3 n3
   exact ⟨m',hm,σ3,H3,I3,w3⟩
  | brk=>exact q3
  | ret v=>exact q3
 | false =>
  rw [if_neg Bool.false_ne_true]
  exact wpAny_execs_nil ⟨σ1,H2,I2,q2⟩
end
structure It where
 go:Nat→Hp→Prop
 yld:Nat→Hp→V→Hp→Prop
 stop:Nat→Hp→Prop
def FpOk (X:Cx) (pins:List (Addr × Obj)) (H:Hp) (b:Addr):Prop :=
 H b = none∧b≠X.env.locals∧b ∉ X.fs∧(b∈X.ex∨X.s₀.heap.objs.size≤b)∧(∀ x c,X.env.cells.lookup x = some c→c≠b)∧∀ p∈X.pn++pins,p.1≠b
theorem Inv.fpOk {X:Cx} {pins:List (Addr × Obj)} {σ:St} {H H':Hp} {s:Shared} {b:Addr} (I:Inv X pins σ H s) (hb:s.heap.objs.size≤b) (hn:H' b = none):FpOk X pins H' b:=by
 refine ⟨hn,Nat.ne_of_gt (Nat.lt_of_lt_of_le I.lt hb),I.nofs hb,.inr (Nat.le_trans I.sz hb),fun x c e z=>?_,fun p hp z=>?_⟩
 ·obtain ⟨v,q⟩:=I.cell x c e
  exact absurd (Nat.lt_of_lt_of_le q.lt (by rw [z]; exact hb)) (Nat.lt_irrefl _)
 ·exact absurd (Nat.lt_of_lt_of_le (Heap.lt_size (I.pin p hp).1) (by rw [z]; exact hb)) (Nat.lt_irrefl _)
structure Turn (P:Program) (w:World) (K:PySem.W.Frag) (tg:Expr) (J:It) (fp:List Addr) (it:Addr) (tn:Nat→Heap→Prop):Prop where
 mem:it∈fp
 obj:∀ i h,tn i h→∀ b∈fp,∃ o,h.get? b = some o∧∀ v,o.data≠.cell v
 keep:∀ i h h',tn i h→(∀ b∈fp,∀ o,h.get? b = some o→h'.get? b = some o)→tn i h'
 item:∀ (X:Cx),X.prog = P→X.w = w→X.K = K→X.calm = true→∀ (i:Nat) (pins:List (Addr × Obj)) (s:Shared) (σ:St) (H:Hp) (E:Value→Shared→Prop),Inv X pins σ H s→(∀ b∈fp,FpOk X pins H b)→tn i s.heap→J.go i H →
  wpAny (model P w) X.A (pyNext (.ref it)) (fun r s1=>∃ u,r = some u ∧
   wpAny (model P w) X.A (letOwnedTupleGo tg (.ref it) u) (fun _ s2=>∃ x H',Inv X pins σ H' s2∧RelV x u∧J.yld i H x H'∧tn (i + 1) s2.heap∧∀ b∈fp,H' b = none) E s1) E s
 done:∀ (X:Cx),X.prog = P→X.w = w→X.K = K→X.calm = true→∀ (i:Nat) (pins:List (Addr × Obj)) (s:Shared) (σ:St) (H:Hp) (E:Value→Shared→Prop),Inv X pins σ H s→(∀ b∈fp,FpOk X pins H b)→tn i s.heap→J.stop i H →
  wpAny (model P w) X.A (pyNext (.ref it)) (fun r s1=>r = none∧Inv X pins σ H s1) E s
 self:∀ (A:Around) (i:Nat) (s:Shared) (Q:Value→Shared→Prop) (E:Value→Shared→Prop),tn i s.heap→Q (.ref it) s→wpAny (model P w) A (pyIter (.ref it)) Q E s
abbrev TI:=St→Hp→(It→Hp→Prop)→Prop
def PIE (X:Cx) (pins:List (Addr × Obj)) (σ:St) (tg:Expr) (R:It→Hp→Prop) (itv:Value) (s2:Shared):Prop :=
 ∃ (it:Addr) (fp:List Addr) (tn:Nat→Heap→Prop) (J:It) (H':Hp),itv = .ref it∧Inv X pins σ H' s2∧Turn X.prog X.w X.K tg J fp it tn∧tn 0 s2.heap∧(∀ b∈fp,FpOk X pins H' b)∧R J H'
def PI (X:Cx) (tg iter:Expr) (wi:TI):Prop :=
 ∀ (pins:List (Addr × Obj)) (s:Shared) (σ:St) (H:Hp) (R:It→Hp→Prop),Inv X pins σ H s→wi σ H R →
  wpAny (model X.prog X.w) X.A (eval iter X.env) (fun v s1=>wpAny (model X.prog X.w) X.A (pyIter v) (PIE X pins σ tg R) X.xe s1) X.xe s
theorem go_of {M:Model} {A:Around} {E:Value→Shared→Prop} {s:Shared} {tg:Expr} {it:Addr} {u:Value} {o:Obj} {n:String} {vs:Array Value} {Q:Unit→Shared→Prop} (ho:s.heap.get? it = some o) (hc:o.cls = .type n) (hd:o.data = .fields vs)
  (hn:["enumerate","zip","dict_itemiterator","dict_reverseitemiterator","odict_iterator","itertools.zip_longest","itertools.pairwise"].contains n = false) (hQ:Q () s):wpAny M A (letOwnedTupleGo tg (.ref it) u) Q E s:=by
 unfold letOwnedTupleGo
 cases tg <;> first
  | exact wpAny_pure hQ
  | (cases u <;> first
    | exact wpAny_pure hQ
    | (refine wpAny_bind (wpAny_load ho ?_)
       rw [hc,hd]
       show wpAny M A (if (["enumerate","zip","dict_itemiterator","dict_reverseitemiterator","odict_iterator","itertools.zip_longest","itertools.pairwise"].contains n && vs[0]? == some (rawInt _)) = true then _ else _) Q E s
       rw [if_neg (by intro h; rw [hn,Bool.false_and] at h; cases h)]
       exact wpAny_pure hQ))
def Itl (K:PySem.W.Frag) (a:Addr):It :=
 ⟨fun i H=>∃ xs x,SqL K H a xs∧xs[i]? = some x,fun i H x H'=>H' = H∧∀ xs,SqL K H a xs→xs[i]? = some x,fun i H=>∃ xs,SqL K H a xs∧xs.length≤i⟩
def Itt (K:PySem.W.Frag) (a:Addr):It :=
 ⟨fun i H=>∃ xs x,SqT K H a xs∧xs[i]? = some x,fun i H x H'=>H' = H∧∀ xs,SqT K H a xs→xs[i]? = some x,fun i H=>∃ xs,SqT K H a xs∧xs.length≤i⟩
def Itr (lo:Int) (n:Nat):It:=⟨fun i _=>i < n,fun i H x H'=>H' = H∧x = .int (lo + i),fun i _=>n≤i⟩
theorem turn_list {P:Program} {w:World} {K:PySem.W.Frag} {tg:Expr} (a it:Addr):Turn P w K tg (Itl K a) [it] it (fun i h=>h.IsListIter it a i) where
 mem:=by simp
 obj:=fun i h st b hb=>by
  have e:b = it:=by simpa using hb
  subst e
  obtain ⟨o,e,c,d⟩:=st
  exact ⟨o,e,fun v z=>by rw [d] at z; cases z⟩
 keep:=fun i h h' st k=>st.at fun o e=>k it (by simp) o e
 item:=by
  intro X hP hw hK hc i pins s σ H E I hf st hg
  subst hP hw hK
  obtain ⟨xs,x,hq,hx⟩:=hg
  obtain ⟨its,rv,p,hz⟩:=I.list hq
  obtain ⟨u,hu,ru⟩:=rv.get hx
  obtain ⟨f0,f1,f2,f3,f4,f5⟩:=hf it (by simp)
  refine wpAny_pyNext_list_item st p.isList (x:=u) (by simpa using hu) fun h' st' sb=>?_
  have I1:Inv X pins σ H { s with heap:=h' }:=I.turned (t':=s.toks) (fun b o hb e=>(sb.2 b hb).trans e) f0 f1 f3 f4 f5
  obtain ⟨o,e,c,d⟩:=id st'
  exact ⟨u,rfl,go_of (s:={ s with heap:=h' }) e c d (by decide) ⟨x,H,I1,ru,⟨rfl,fun ys hy=>by rw [I.list_inj hy hq]; exact hx⟩,st',fun b hb=>(hf b hb).1⟩⟩
 done:=by
  intro X hP hw hK hc i pins s σ H E I hf st hg
  subst hP hw hK
  obtain ⟨xs,hq,hx⟩:=hg
  obtain ⟨its,rv,p,hz⟩:=I.list hq
  obtain ⟨f0,f1,f2,f3,f4,f5⟩:=hf it (by simp)
  have hl:=rv.length
  exact wpAny_pyNext_list_end (I.ok.hd hc) st p.isList (by simp; omega) fun h' eb=>⟨rfl,I.turned (t':=s.toks) (fun b o hb e=>eb b o hb e) f0 f1 f3 f4 f5⟩
 self:=fun _ _ _ _ _ st h=>wpAny_pyIter_listiter st h
theorem turn_tuple {P:Program} {w:World} {K:PySem.W.Frag} {tg:Expr} (a it:Addr):Turn P w K tg (Itt K a) [it] it (fun i h=>h.IsTupleIter it a i) where
 mem:=by simp
 obj:=fun i h st b hb=>by
  have e:b = it:=by simpa using hb
  subst e
  obtain ⟨o,e,c,d⟩:=st
  exact ⟨o,e,fun v z=>by rw [d] at z; cases z⟩
 keep:=fun i h h' st k=>st.at fun o e=>k it (by simp) o e
 item:=by
  intro X hP hw hK hc i pins s σ H E I hf st hg
  subst hP hw hK
  obtain ⟨xs,x,hq,hx⟩:=hg
  obtain ⟨its,rv,p,hz⟩:=I.tuple hq
  obtain ⟨u,hu,ru⟩:=rv.get hx
  obtain ⟨f0,f1,f2,f3,f4,f5⟩:=hf it (by simp)
  refine wpAny_pyNext_tuple_item st (show s.heap.IsTuple a its.toArray from p) (x:=u) (by simpa using hu) fun h' st' sb=>?_
  have I1:Inv X pins σ H { s with heap:=h' }:=I.turned (t':=s.toks) (fun b o hb e=>(sb.2 b hb).trans e) f0 f1 f3 f4 f5
  obtain ⟨o,e,c,d⟩:=id st'
  exact ⟨u,rfl,go_of (s:={ s with heap:=h' }) e c d (by decide) ⟨x,H,I1,ru,⟨rfl,fun ys hy=>by rw [I.tuple_inj hy hq]; exact hx⟩,st',fun b hb=>(hf b hb).1⟩⟩
 done:=by
  intro X hP hw hK hc i pins s σ H E I hf st hg
  subst hP hw hK
  obtain ⟨xs,hq,hx⟩:=hg
  obtain ⟨its,rv,p,hz⟩:=I.tuple hq
  obtain ⟨f0,f1,f2,f3,f4,f5⟩:=hf it (by simp)
  have hl:=rv.length
  exact wpAny_pyNext_tuple_end (I.ok.hd hc) st (show s.heap.IsTuple a its.toArray from p) (by simp; omega) fun h' eb=>⟨rfl,I.turned (t':=s.toks) (fun b o hb e=>eb b o hb e) f0 f1 f3 f4 f5⟩
 self:=fun _ _ _ _ _ st h=>wpAny_pyIter_tupleiter st h
theorem turn_range {P:Program} {w:World} {K:PySem.W.Frag} {tg:Expr} (it:Addr) (lo:Int) (n:Nat):Turn P w K tg (Itr lo n) [it] it (fun i h=>IsRangeIter h it (lo + (i:Nat) * 1) ((n:Int) - (i:Nat)) 1) where
 mem:=by simp
 obj:=fun i h st b hb=>by
  have e:b = it:=by simpa using hb
  subst e
  exact ⟨_,st,fun v z=>by
   have z':Data.fields _ = Data.cell v:=z
   cases z'⟩
 keep:=fun i h h' st k=>k it (by simp) _ st
 item:=by
  intro X hP hw hK hc i pins s σ H E I hf st hg
  subst hP hw hK
  obtain ⟨f0,f1,f2,f3,f4,f5⟩:=hf it (by simp)
  have W:=Walks.range (prog:=X.prog) (w:=X.w) (I.ok.hd hc) it lo 1 n
  refine W.item i s _ _ hg st fun v h' tk hv st' kk=>?_
  obtain ⟨t,rfl⟩:=hv
  have I1:Inv X pins σ H { s with heap:=h',toks:=tk }:=I.turned (fun b o hb e=>kk b o (by simpa using hb) e) f0 f1 f3 f4 f5
  refine ⟨_,rfl,go_of (s:={ s with heap:=h',toks:=tk }) (n:="range_iterator") st' rfl rfl (by decide) ⟨.int (lo + i),H,I1,⟨t,?_⟩,⟨rfl,rfl⟩,st',fun b hb=>(hf b hb).1⟩⟩
  rw [Int.mul_one]
 done:=by
  intro X hP hw hK hc i pins s σ H E I hf st hg
  subst hP hw hK
  obtain ⟨f0,f1,f2,f3,f4,f5⟩:=hf it (by simp)
  exact wpAny_pyNext_range_end (I.ok.hd hc) st (by have:n≤i:=hg; omega) fun h' eb=>⟨rfl,I.turned (t':=s.toks) (fun b o hb e=>eb b o hb e) f0 f1 f3 f4 f5⟩
 self:=fun _ _ _ _ _ st h=>wpAny_pyIter_rangeiter st h
end L2
namespace L2
open PySem PySem.Spec PyProof.Rows
section
variable {X:Cx} {tg:Expr}
def iList (K:PySem.W.Frag) (tl:TE):TI:=fun σ H R=>tl σ H fun x H1=>∃ a,x = .ref a∧(∃ xs,SqL K H1 a xs)∧R (Itl K a) H1
def iTup (K:PySem.W.Frag) (tl:TE):TI:=fun σ H R=>tl σ H fun x H1=>∃ a,x = .ref a∧(∃ xs,SqT K H1 a xs)∧R (Itt K a) H1
theorem pi_list {l:Expr} {tl:TE} (hl:PE X l tl):PI X tg l (iList X.K tl):=by
 intro pins s σ H R I h
 refine thn (hl pins s σ H _ I h) fun v s1 ⟨x,H1,I1,r1,q1⟩=>?_
 obtain ⟨a,e,⟨xs,hq⟩,q⟩:=q1
 subst e
 cases r1
 obtain ⟨its,rv,p,hz⟩:=I1.list hq
 refine wpAny_pyIter_list p.isList ?_
 refine ⟨s1.heap.objs.size,[s1.heap.objs.size],_,_,H1,rfl,I1.kept (t':=s1.toks) fun b o e=>Heap.get?_push_of_some _ e,turn_list a _,⟨_,Heap.get?_push_size _ rfl,rfl,rfl⟩,fun b hb=>?_,q⟩
 have e:b = s1.heap.objs.size:=by simpa using hb
 subst e
 exact I1.fpOk (Nat.le_refl _) (I1.hok.fresh (Nat.le_refl _))
theorem pi_tup {l:Expr} {tl:TE} (hl:PE X l tl):PI X tg l (iTup X.K tl):=by
 intro pins s σ H R I h
 refine thn (hl pins s σ H _ I h) fun v s1 ⟨x,H1,I1,r1,q1⟩=>?_
 obtain ⟨a,e,⟨xs,hq⟩,q⟩:=q1
 subst e
 cases r1
 obtain ⟨its,rv,p,hz⟩:=I1.tuple hq
 refine wpAny_pyIter_tuple (show s1.heap.IsTuple a its.toArray from p) ?_
 refine ⟨s1.heap.objs.size,[s1.heap.objs.size],_,_,H1,rfl,I1.kept (t':=s1.toks) fun b o e=>Heap.get?_push_of_some _ e,turn_tuple a _,⟨_,Heap.get?_push_size _ rfl,rfl,rfl⟩,fun b hb=>?_,q⟩
 have e:b = s1.heap.objs.size:=by simpa using hb
 subst e
 exact I1.fpOk (Nat.le_refl _) (I1.hok.fresh (Nat.le_refl _))
theorem range_it {pins:List (Addr × Obj)} {σ:St} {H:Hp} {s:Shared} {R:It→Hp→Prop} {E:Value→Shared→Prop} {lo hi:Int} {t u v:Tok} {tk:Nat} (I:Inv X pins σ H s) (h1:-(2 ^ 62)≤lo) (h2:lo < 2 ^ 62) (h3:-(2 ^ 62)≤hi) (h4:hi < 2 ^ 62)
  (q:R (Itr lo (hi - lo).toNat) H):wpAny (model X.prog X.w) X.A (pyIter (.ref s.heap.objs.size)) (PIE X pins σ tg R) E { s with heap:=s.heap.push { cls:=.type "range",data:=.fields #[.int lo t,.int hi u,.int 1 v] },toks:=tk }:=by
 refine wpAny_pyIter_range (IsRange.new ..) (small_one h1 h2 h3 h4) ?_
 have I1:Inv X pins σ H { s with heap:=s.heap.push { cls:=.type "range",data:=.fields #[.int lo t,.int hi u,.int 1 v] },toks:=tk }:=I.kept fun b o e=>Heap.get?_push_of_some _ e
 refine ⟨(s.heap.push { cls:=.type "range",data:=.fields #[.int lo t,.int hi u,.int 1 v] }).objs.size,[(s.heap.push { cls:=.type "range",data:=.fields #[.int lo t,.int hi u,.int 1 v] }).objs.size],_,_,H,rfl,
  I1.kept (t':=tk) fun b o e=>Heap.get?_push_of_some _ e,turn_range _ lo (hi - lo).toNat,?_,fun b hb=>?_,q⟩
 ·have e1:lo + ((0:Nat):Int) * 1 = lo:=by simp
  have e2:(((hi - lo).toNat:Nat):Int) - ((0:Nat):Int) = Builtin.Range.rangeSize lo hi 1:=by rw [rangeSize_one]; split <;> omega
  show IsRangeIter _ _ (lo + ((0:Nat):Int) * 1) ((((hi - lo).toNat:Nat):Int) - ((0:Nat):Int)) 1
  rw [e1,e2]
  exact Heap.get?_push_size _ rfl
 ·have e:b = (s.heap.push { cls:=.type "range",data:=.fields #[.int lo t,.int hi u,.int 1 v] }).objs.size:=by simpa using hb
  subst e
  exact I1.fpOk (Nat.le_refl _) (I1.hok.fresh (Nat.le_refl _))
def iRng1 (ta:TA):TI:=fun σ H R=>ta σ H fun vs H1=>∃ j:Int,vs = [.int j]∧-(2 ^ 62)≤j∧j < 2 ^ 62∧R (Itr 0 j.toNat) H1
theorem pi_range1 {a:Expr} {ta:TA} {p pos:Pos} (hg:Gl X "range") (hm:X.mg "range" = none) (ha:PA X [a] ta) (hs:starEach [a] X.env = [(false,eval a X.env)]:=by rfl):PI X tg (.Call (.Name "range" p) [a] [] pos) (iRng1 ta):=by
 intro pins s σ H R I h
 refine Call_ (ld_blt I hg hm boot_range (PyProof.Rows.callWith_type1 (thn (ha pos pins s σ H _ I h) fun us s1 ⟨vs,H1,I1,r1,q1⟩=>?_) hs rfl))
 obtain ⟨j,e,q1,q2,q⟩:=q1
 subst e
 cases r1 with
 | cons r rr =>
  cases rr
  obtain ⟨t,rfl⟩:=r
  exact call_range_1 (range_it I1 (by omega) (by omega) q1 q2 (by simpa using q))
def tFor (wi:TI) (g:TG) (tb:TS):TS:=fun D σ H=>wi σ H fun J H1=>∃ W:Nat→Nat→St→Hp→Prop,(∃ m,W 0 m σ H1)∧∀ i m σ H,W i m σ H →
 (J.stop i H∧D.nx σ H)∨(J.go i H∧∃ N:St→Hp→Prop,(∀ σ' H',N σ' H'→∃ m',m' < m∧W (i + 1) m' σ' H')∧∀ x H',J.yld i H x H'→g x σ H' fun σ2 H2=>tb { D with nx:=N,ct:=N,bk:=D.nx } σ2 H2)
def pinsAt (fp:List Addr) (h:Heap):List (Addr × Obj):=fp.filterMap fun b=>(h.get? b).map fun o=>(b,o)
theorem mem_pinsAt {fp:List Addr} {h:Heap} {b:Addr} {o:Obj} (hb:b∈fp) (e:h.get? b = some o):(b,o)∈pinsAt fp h:=List.mem_filterMap.mpr ⟨b,hb,by rw [e]; rfl⟩
theorem of_pinsAt {fp:List Addr} {h:Heap} {p:Addr × Obj} (hp:p∈pinsAt fp h):p.1∈fp∧h.get? p.1 = some p.2:=by
 obtain ⟨b,hb,e⟩:=List.mem_filterMap.mp hp
 cases q:h.get? b with
 | none=>rw [q] at e; cases e
 | some o =>
  rw [q] at e
  have e':(b,o) = p:=Option.some.inj e
  subst e'
  exact ⟨hb,q⟩
theorem Inv.pinned {pins:List (Addr × Obj)} {σ:St} {H:Hp} {s:Shared} {fp:List Addr} (I:Inv X pins σ H s) (hf:∀ b∈fp,FpOk X pins H b) (ho:∀ b∈fp,∃ o,s.heap.get? b = some o∧∀ v,o.data≠.cell v):Inv X (pins++pinsAt fp s.heap) σ H s :=
 I.pins_of fun p hp=>(List.mem_append.mp hp).elim (fun z=>I.pin p (List.mem_append_right _ z)) fun z=>by
  obtain ⟨hb,e⟩:=of_pinsAt z
  obtain ⟨f0,f1,f2,_⟩:=hf p.1 hb
  obtain ⟨o,e',d⟩:=ho p.1 hb
  rw [e] at e'; cases e'
  exact ⟨e,f0,f1,f2,d⟩
theorem Inv.unpinned {pins pl:List (Addr × Obj)} {σ:St} {H:Hp} {s:Shared} (I:Inv X (pins++pl) σ H s):Inv X pins σ H s:=I.pins_of fun p hp=>I.pin p (List.mem_append_right _ (List.mem_append_left _ hp))
theorem ps_for {iter:Expr} {body:List Stmt} {wi:TI} {g:TG} {tb:TS} {pos:Pos} (hp:PassesOwn (model X.prog X.w) X.A X.env X.xe) (hc:X.calm = true) (hi:PI X tg iter wi) (hg:PG X tg g) (hb:PSs X body tb)
  (hs:∀ x,foldedSetIterable iter X.env x = pure x:=by intro _; rfl):PS X (.For tg iter body [] pos) (tFor wi g tb):=by
 intro pins s σ H D I h
 refine wpAny_For (thn (hi pins s σ H _ I h) fun v s1 h1=>thn h1 fun itv s2 h2=>?_) hs
 obtain ⟨it,fp,tn,J,H2,e,I2,T,st2,f2,W,⟨m0,w0⟩,turn⟩:=h2
 subst e
 have stat:∀ {H':Hp},(∀ b∈fp,H' b = none)→∀ b∈fp,FpOk X pins H' b:=fun hn b hb=>⟨hn b hb,(f2 b hb).2⟩
 refine codeAny_forLoop_any (fun n s'=>∃ i σ' H',Inv X pins σ' H' s'∧tn i s'.heap∧(∀ b∈fp,H' b = none)∧W i n σ' H') ?_ m0 ⟨0,σ,H2,I2,st2,fun b hb=>(f2 b hb).1,w0⟩
 rintro n s3 ⟨i,σ3,H3,I3,st3,fr3,w3⟩
 rcases turn i n σ3 H3 w3 with ⟨stop,qn⟩ | ⟨go,N,hN,step⟩
 ·refine wpAny_passesOwn hp (thn (T.done X rfl rfl rfl hc i pins s3 σ3 H3 X.xe I3 (stat fr3) st3 stop) fun r s4 ⟨hr,I4⟩=>?_)
  subst hr
  exact wpAny_execs_nil ⟨σ3,H3,I4,qn⟩
 ·refine wpAny_passesOwn hp (thn (T.item X rfl rfl rfl hc i pins s3 σ3 H3 X.xe I3 (stat fr3) st3 go) fun r s4 ⟨u,hr,h4⟩=>?_)
  subst hr
  refine wpAny_passesOwn hp (thn h4 fun _ s5 ⟨x,H5,I5,r5,y5,st5,fr5⟩=>?_)
  have I5':=I5.pinned (stat fr5) (T.obj _ _ st5)
  refine wpAny_passesOwn hp (thn (hg _ s5 σ3 H5 x u _ I5' r5 (step x H5 y5)) fun _ s6 ⟨σ6,H6,I6,q6⟩=>?_)
  refine wpAny_passesOwn hp (thn (hb _ s6 σ6 H6 _ I6 q6) fun f s7 q7=>?_)
  have again:∀ {σ7:St} {H7:Hp},Inv X (pins++pinsAt fp s5.heap) σ7 H7 s7→N σ7 H7→∃ m,m < n∧∃ i σ' H',Inv X pins σ' H' s7∧tn i s7.heap∧(∀ b∈fp,H' b = none)∧W i m σ' H':=fun {σ7 H7} I7 n7=>by
   obtain ⟨m',hm,w7⟩:=hN σ7 H7 n7
   refine ⟨m',hm,i + 1,σ7,H7,I7.unpinned,T.keep _ _ _ st5 fun b hb o e=>(I7.pin (b,o) (List.mem_append_right _ (List.mem_append_right _ (mem_pinsAt hb e)))).1,fun b hb=>?_,w7⟩
   obtain ⟨o,e,d⟩:=T.obj _ _ st5 b hb
   exact (I7.pin (b,o) (List.mem_append_right _ (List.mem_append_right _ (mem_pinsAt hb e)))).2.1
  cases f with
  | next=>obtain ⟨σ7,H7,I7,n7⟩:=q7; exact again I7 n7
  | cont=>obtain ⟨σ7,H7,I7,n7⟩:=q7; exact again I7 n7
  | brk=>obtain ⟨σ7,H7,I7,q7⟩:=q7; exact ⟨σ7,H7,I7.unpinned,q7⟩
  | ret v=>obtain ⟨x7,σ7,H7,I7,r7,q7⟩:=q7; exact ⟨x7,σ7,H7,I7.unpinned,r7,q7⟩
end
end L2
namespace L2
open PySem PySem.Spec PyProof.Rows
abbrev R2:=V→V→Hp→VK→Prop
def OpR (X:Cx) (f:Value→Value→Sem Value) (r:R2):Prop :=
 ∀ (pins:List (Addr × Obj)) (s:Shared) (σ:St) (H:Hp) (x y:V) (v u:Value) (Q:VK),Inv X pins σ H s→RelV x v→RelV y u→r x y H Q →
  wpAny (model X.prog X.w) X.A (f v u) (EP X pins σ Q) X.xe s
def UnR (X:Cx) (f:Value→Sem Value) (r:V→Hp→VK→Prop):Prop :=
 ∀ (pins:List (Addr × Obj)) (s:Shared) (σ:St) (H:Hp) (x:V) (v:Value) (Q:VK),Inv X pins σ H s→RelV x v→r x H Q →
  wpAny (model X.prog X.w) X.A (f v) (EP X pins σ Q) X.xe s
def CallR (X:Cx) (f:Value) (r:List V→Hp→VK→Prop):Prop :=
 ∀ (pins:List (Addr × Obj)) (s:Shared) (σ:St) (H:Hp) (xs:List V) (us:List Value) (Q:VK),Inv X pins σ H s→Vals xs us→r xs H Q →
  wpAny (model X.prog X.w) X.A (call f us) (EP X pins σ Q) X.xe s
def tOp (r:R2) (ta tb:TE):TE:=fun σ H Q=>ta σ H fun x H1=>tb σ H1 fun y H2=>r x y H2 Q
def tUn (r:V→Hp→VK→Prop) (ta:TE):TE:=fun σ H Q=>ta σ H fun x H1=>r x H1 Q
def rI (C:Int→Int→Prop) (g:Int→Int→V):R2:=fun x y H Q=>∃ i j,x = .int i∧y = .int j∧C i j∧Q (g i j) H
def rI0 (g:Int→Int→V):R2:=fun x y H Q=>∃ i j,x = .int i∧y = .int j∧Q (g i j) H
def rU (g:Int→V):V→Hp→VK→Prop:=fun x H Q=>∃ i,x = .int i∧Q (g i) H
section
variable {X:Cx} {a b c:Expr} {ta tb tc:TE} {pos:Pos}
theorem binT (ha:PE X a ta) (hb:PE X b tb) {pins:List (Addr × Obj)} {s:Shared} {σ:St} {H:Hp} {R:V→V→Hp→Prop} (I:Inv X pins σ H s)
  (h:ta σ H fun x H1=>tb σ H1 fun y H2=>R x y H2) {Q:Value→Shared→Prop} {f:Value→Value→Sem Value}
  (hf:∀ v u s2 x y H2,Inv X pins σ H2 s2→RelV x v→RelV y u→R x y H2→wpAny (model X.prog X.w) X.A (f v u) Q X.xe s2) :
  wpAny (model X.prog X.w) X.A (eval a X.env) (fun v s₁=>wpAny (model X.prog X.w) X.A (eval b X.env) (fun u s₂=>wpAny (model X.prog X.w) X.A (f v u) Q X.xe s₂) X.xe s₁) X.xe s:=by
 refine thn (ha pins s σ H _ I h) fun v s1 ⟨x,H1,I1,r1,q1⟩=>?_
 refine thn (hb pins s1 σ H1 _ I1 q1) fun u s2 ⟨y,H2,I2,r2,q2⟩=>?_
 exact hf v u s2 x y H2 I2 r1 r2 q2
theorem pe_op {op:Operator} {r:R2} (ho:OpR X (binaryOp op) r) (ha:PE X a ta) (hb:PE X b tb):PE X (.BinOp a op b pos) (tOp r ta tb):=by
 intro pins s σ H Q I h
 exact wpAny_BinOp (binT ha hb I h fun v u s2 x y H2 I2 rx ry q=>ho pins s2 σ H2 x y v u Q I2 rx ry q)
theorem pe_un {op:UnaryOp} {r:V→Hp→VK→Prop} (ho:UnR X (unaryOp op) r) (ha:PE X a ta):PE X (.UnaryOp op a pos) (tUn r ta):=by
 intro pins s σ H Q I h
 exact UnaryOp_ (thn (ha pins s σ H _ I h) fun v s1 ⟨x,H1,I1,r1,q1⟩=>ho pins s1 σ H1 x v Q I1 r1 q1)
theorem opI {f:Value→Value→Sem Value} {C:Int→Int→Prop} {g:Int→Int→Int}
  (rule:∀ (i j:Int) (t u:Tok) (s:Shared) (Q:Value→Shared→Prop) (E:Value→Shared→Prop),C i j→Q (.int (g i j) s.toks) { s with toks:=s.toks + 1 }→wpAny (model X.prog X.w) X.A (f (.int i t) (.int j u)) Q E s) :
  OpR X f (rI C fun i j=>.int (g i j)):=by
 intro pins s σ H x y v u Q I rx ry h
 obtain ⟨i,j,rfl,rfl,hc,q⟩:=h
 obtain ⟨t,rfl⟩:=rx
 obtain ⟨t',rfl⟩:=ry
 exact rule i j t t' s _ _ hc ⟨.int (g i j),H,I.tok _,⟨_,rfl⟩,q⟩
theorem opI0 {f:Value→Value→Sem Value} {g:Int→Int→Int}
  (rule:∀ (i j:Int) (t u:Tok) (s:Shared) (Q:Value→Shared→Prop) (E:Value→Shared→Prop),Q (.int (g i j) s.toks) { s with toks:=s.toks + 1 }→wpAny (model X.prog X.w) X.A (f (.int i t) (.int j u)) Q E s) :
  OpR X f (rI0 fun i j=>.int (g i j)):=by
 intro pins s σ H x y v u Q I rx ry h
 obtain ⟨i,j,rfl,rfl,q⟩:=h
 obtain ⟨t,rfl⟩:=rx
 obtain ⟨t',rfl⟩:=ry
 exact rule i j t t' s _ _ ⟨.int (g i j),H,I.tok _,⟨_,rfl⟩,q⟩
theorem opB0 {f:Value→Value→Sem Value} {g:Int→Int→Bool}
  (rule:∀ (i j:Int) (t u:Tok) (s:Shared) (Q:Value→Shared→Prop) (E:Value→Shared→Prop),Q (.bool (g i j)) s→wpAny (model X.prog X.w) X.A (f (.int i t) (.int j u)) Q E s) :
  OpR X f (rI0 fun i j=>.bl (g i j)):=by
 intro pins s σ H x y v u Q I rx ry h
 obtain ⟨i,j,rfl,rfl,q⟩:=h
 obtain ⟨t,rfl⟩:=rx
 obtain ⟨t',rfl⟩:=ry
 exact rule i j t t' s _ _ ⟨.bl (g i j),H,I,rfl,q⟩
def CPow (i j:Int):Prop:=0≤j∧j≤1000000∧i.natAbs < 2 ^ 64
theorem op_add:OpR X (binaryOp .Add) (rI0 fun i j=>.int (i + j)):=opI0 fun _ _ _ _ _ _ _ q=>add_int q
theorem op_sub:OpR X (binaryOp .Sub) (rI0 fun i j=>.int (i - j)):=opI0 fun _ _ _ _ _ _ _ q=>sub_int q
theorem op_modN:OpR X (binaryOp .Mod) (rI (fun _ j=>j≠0) fun i j=>.int (i.fmod j)):=opI fun _ _ _ _ _ _ _ hc q=>mod_int' hc q
theorem op_pow:OpR X (binaryOp .Pow) (rI CPow fun i j=>.int (i ^ j.toNat)):=opI fun _ _ _ _ _ _ _ hc q=>pow_int_small hc.1 hc.2.1 hc.2.2 q
theorem unI {f:Value→Sem Value} {g:Int→Int}
  (rule:∀ (i:Int) (t:Tok) (s:Shared) (Q:Value→Shared→Prop) (E:Value→Shared→Prop),Q (.int (g i) s.toks) { s with toks:=s.toks + 1 }→wpAny (model X.prog X.w) X.A (f (.int i t)) Q E s) :
  UnR X f (rU fun i=>.int (g i)):=by
 intro pins s σ H x v Q I rx h
 obtain ⟨i,rfl,q⟩:=h
 obtain ⟨t,rfl⟩:=rx
 exact rule i t s _ _ ⟨.int (g i),H,I.tok _,⟨_,rfl⟩,q⟩
theorem un_neg:UnR X (unaryOp .USub) (rU fun i=>.int (-i)):=unI fun _ _ _ _ _ q=>neg_int q
end
section
variable {X:Cx} {a b c:Expr} {ta tb tc:TE} {pos:Pos}
theorem op_lt:OpR X (compareOp .Lt) (rI0 fun i j=>.bl (decide (i < j))):=opB0 fun _ _ _ _ _ _ _ q=>lt_int q
theorem op_gt:OpR X (compareOp .Gt) (rI0 fun i j=>.bl (decide (j < i))):=opB0 fun _ _ _ _ _ _ _ q=>gt_int q
theorem pe_cmpR {op:CmpOp} {r:R2} (ho:OpR X (compareOp op) r) (ha:PE X a ta) (hb:PE X b tb) (hm:behindInMarks op b = false):PE X (.Compare a [op] [b] pos) (tOp r ta tb):=by
 intro pins s σ H Q I h
 exact wpAny_Compare1 (binT ha hb I h fun v u s2 x y H2 I2 rx ry q=>ho pins s2 σ H2 x y v u Q I2 rx ry q) hm
def tTest (t:TE):TT:=fun σ H Q=>t σ H fun x H'=>∃ k,x = .bl k∧Q k H'
theorem pt_cmpR {op:CmpOp} {r:R2} (ho:OpR X (compareOp op) r) (ha:PE X a ta) (hb:PE X b tb) (hm:behindInMarks op b = false):PT X (.Compare a [op] [b] pos) (tTest (tOp r ta tb)):=by
 intro pins s σ H Q I h
 refine wpAny_isTrue_Compare1 (thn (ha pins s σ H _ I h) fun v s1 ⟨x,H1,I1,r1,q1⟩=>thn (hb pins s1 σ H1 _ I1 q1) fun u s2 ⟨y,H2,I2,r2,q2⟩ =>
  thn (ho pins s2 σ H2 x y v u _ I2 r1 r2 q2) fun c s3 ⟨z,H3,I3,r3,k,e,q3⟩=>?_) hm
 subst e
 cases r3
 exact wpAny_truthy_bool ⟨H3,I3,q3⟩
theorem line63:(sizeLine:Nat) < 2 ^ 63:=by rw [sizeLine_eq]; decide
theorem vals1 {x:V} {us:List Value} (r:Vals [x] us):∃ u,us = [u]∧RelV x u:=by
 cases r with
 | cons r1 r2=>cases r2; exact ⟨_,rfl,r1⟩
theorem vals2 {x y:V} {us:List Value} (r:Vals [x,y] us):∃ u w',us = [u,w']∧RelV x u∧RelV y w':=by
 cases r with
 | cons r1 r2 =>
  cases r2 with
  | cons r3 r4=>cases r4; exact ⟨_,_,rfl,r1,r3⟩
theorem call_int1:CallR X (.type "int") (fun xs H Q=>(∃ i,xs = [.int i]∧Q (.int i) H)∨∃ k,xs = [.bl k]∧Q (.int (if k then 1 else 0)) H):=by
 intro pins s σ H xs us Q I r h
 rcases h with ⟨i,rfl,q⟩ | ⟨k,rfl,q⟩
 ·obtain ⟨u,rfl,t,rfl⟩:=vals1 r
  exact call_int_int ⟨.int i,H,I,⟨_,rfl⟩,q⟩
 ·obtain ⟨u,rfl,r1⟩:=vals1 r
  cases r1
  exact call_int_bool ⟨.int (if k then 1 else 0),H,I.tok _,⟨_,rfl⟩,q⟩
end
end L2
namespace L2
open PySem PySem.Spec PyProof.Rows
structure ObjM (h:Heap) (x dx C:Addr) (mA:Str→Option Value):Prop where
 obj:h.get? x = some (PySem.W.instObj C dx)
 ns:h.Ns1 dx mA
 ne:dx≠x
theorem lookIn_ns {h:Heap} {dx:Addr} {mA:Str→Option Value} (n:h.Ns1 dx mA):∃ od,h.get? dx = some od∧∀ name,PySem.W.lookIn name od = some (mA name):=by
 obtain ⟨o,es,ep,ho,hd,hk,_,hm⟩:=n
 refine ⟨o,ho,fun name=>?_⟩
 have e:=hm name
 unfold nsFind findBy at e
 rw [← Array.find?_toList] at e
 unfold PySem.W.lookIn
 rw [hd]
 dsimp only
 split
 ·rename_i y q
  rw [q] at e
  exact congrArg some e
 ·rename_i q
  rw [q] at e
  have a:es.toList.any (·.refKey) = false:=by
   rw [List.any_eq_false]
   intro y hy
   obtain ⟨z,t,hkey⟩:=hk y (Array.mem_toList_iff.mp hy)
   simp [DictEntry.refKey,hkey]
  have a':¬ es.toList.any (·.refKey) = true:=by rw [a]; exact Bool.false_ne_true
  rw [if_neg a']
  exact congrArg some e
theorem ObjM.look {h:Heap} {x dx C:Addr} {mA:Str→Option Value} (I:ObjM h x dx C mA):∃ od,PySem.W.InstAt h x (PySem.W.instObj C dx) C (some od)∧∀ name,PySem.W.lookIn name od = some (mA name) :=
 let ⟨od,ho,hl⟩:=lookIn_ns I.ns
 ⟨od,⟨I.obj,rfl,rfl,ho⟩,hl⟩
section
variable {prog:Program} {w:World} {A:Around} {E:Value→Shared→Prop} {s:Shared} {K:PySem.W.Frag} {x dx C f:Addr} {mA:Str→Option Value} {name:Str} {v:Value}
theorem make_map {R:Result→Shared→Prop} {vs:List Value} {kw:List (Str × Value)} (X:K.In s.heap) (hm:PySem.W.makesIn K C = true)
  (hi:PySem.W.findIn K (.ref C) "__init__" = some (some (.ref f))) (hf:PySem.W.typeIn K (.ref f) = some (.type "function"))
  (h:codeAny (model prog w) (A.under (.builtin "type.__call__" ⟨.ref C::vs,kw⟩)) (.call (.ref f) ⟨.ref (s.heap.objs.size + 1)::vs,kw⟩) (PySem.W.InitBack (s.heap.objs.size + 1) R)
   { s with heap:=(s.heap.push PySem.W.emptyDict).push (PySem.W.instObj C s.heap.objs.size) }) :
  codeAny (model prog w) A (.call (.ref C) ⟨vs,kw⟩) R s:=by
 obtain ⟨hh,g,d,t,os⟩:=s
 exact PySem.W.make_core (PySem.W.makes_of X hm) (PySem.W.looks_findIn X hi) (fun self=>PySem.W.bind_fn X self hf) (.inl rfl) h
end
section
variable {P:Program} {w:World} {H H':Hp} {h h':Heap} {a C dx:Addr} {fs fs':List (Str × V)}
theorem ins_get (hok:HOk P w H h) (e:H a = some (.ins C dx fs)):∃ mA,ObjM h a dx C mA∧(∀ f,RelO (fs.lookup f) (mA f))∧PySem.Within mA (fs.map (·.1))∧fs.length≤1000∧H dx = some (.own a):=by
 obtain ⟨d,z,ne,ob,mA,n,r,q⟩:=(show ObjOk P w H h a (.ins C dx fs) from hok a _ e)
 exact ⟨mA,⟨ob,n,ne⟩,r,q,z,d⟩
end
structure Cls (K:PySem.W.Frag) (C:Addr):Prop where
 pg:PySem.W.plainGet K C Str.empty = true
 hd:PySem.W.hasDictIn K C = true
 po:PySem.W.plainOver K C = true
 sa:PySem.W.findIn K (.ref C) "__setattr__" = some (some (.builtin "object.__setattr__"))
theorem Cls.get {K:PySem.W.Frag} {C:Addr} (c:Cls K C) (f:Str):PySem.W.plainGet K C f = true:=c.pg
def NoAttr (K:PySem.W.Frag) (C:Addr) (f:Str):Prop:=PySem.W.findIn K (.ref C) f = some none
structure Con (K:PySem.W.Frag) (C:Addr) (f:Str) (v:V) (u:Value):Prop where
 at_:PySem.W.findIn K (.ref C) f = some (some u)
 rel:RelV v u
 get:PySem.W.specialIn K u "__get__" = some none
 cp:PySem.W.copiedNames.contains f = false
structure Meth (K:PySem.W.Frag) (C:Addr) (m:Str) (f:Addr):Prop where
 at_:PySem.W.findIn K (.ref C) m = some (some (.ref f))
 fn:PySem.W.isFn K (.ref f) = true
 kp:PySem.W.keepIn K (.ref f) = true
section
variable {X:Cx} {pins:List (Addr × Obj)} {σ:St} {H:Hp} {s:Shared} {a C dx:Addr} {fs:List (Str × V)} {f:Str} {v:V} {A:Around} {E:Value→Shared→Prop}
theorem Inv.made (I:Inv X pins σ H s):Inv X pins σ (upd (upd H s.heap.objs.size (.own (s.heap.objs.size + 1))) (s.heap.objs.size + 1) (.ins C s.heap.objs.size []))
  { s with heap:=(s.heap.push PySem.W.emptyDict).push (PySem.W.instObj C s.heap.objs.size) }:=by
 have e1:(s.heap.push PySem.W.emptyDict).get? s.heap.objs.size = some PySem.W.emptyDict:=Heap.get?_push_size s.heap rfl
 have e2:((s.heap.push PySem.W.emptyDict).push (PySem.W.instObj C s.heap.objs.size)).get? (s.heap.objs.size + 1) = some (PySem.W.instObj C s.heap.objs.size):=by
  have:=Heap.get?_push_size (s.heap.push PySem.W.emptyDict) (o:=PySem.W.instObj C s.heap.objs.size) rfl
  rwa [Heap.size_push] at this
 have e3:(s.heap.push PySem.W.emptyDict).Ns s.heap.objs.size (fun _=>none):=⟨PySem.W.emptyDict,#[],_,e1,rfl,(fun e he=>absurd he (by simp)),fun _=>rfl⟩
 have I1:=I.laid (a:=s.heap.objs.size) (o:=.own (s.heap.objs.size + 1)) (h':=s.heap.push PySem.W.emptyDict) (t':=s.toks) (fun b u q=>Heap.get?_push_of_some _ q) (Nat.le_refl _) ⟨_,e1⟩
 refine I1.laid (a:=s.heap.objs.size + 1) (o:=.ins C s.heap.objs.size []) (t':=s.toks) (fun b u q=>Heap.get?_push_of_some _ q) (Nat.le_of_eq (Heap.size_push _ _)) ?_
 have ne:s.heap.objs.size≠s.heap.objs.size + 1:=Nat.ne_of_lt (Nat.lt_succ_self _)
 refine ⟨by rw [upd_ne ne,upd_same],Nat.zero_le _,ne,e2,fun _=>none,(Heap.Ns1.of_empty e3).at fun o q=>Heap.get?_push_of_some _ q,fun _=>True.intro,fun y hy=>absurd rfl hy⟩
end
def tFld (K:PySem.W.Frag) (ta:TE) (f:Str):TE:=fun σ H Q=>ta σ H fun x H1=>∃ a C dx fs v,x = .ref a∧H1 a = some (.ins C dx fs)∧Cls K C∧NoAttr K C f∧fs.lookup f = some v∧Q v H1
section
variable {X:Cx} {o e value:Expr} {f:Str} {pos pos' tpos:Pos} {ta tv:TE}
end
section
variable {X:Cx} {pins:List (Addr × Obj)} {σ:St} {H:Hp} {s:Shared} {A:Around} {E:Value→Shared→Prop} {Q:Value→Shared→Prop} {c:Value} {b:Bool}
inductive TyOf (K:PySem.W.Frag) (H:Hp):V→Value→Prop where
 | non:TyOf K H .non (.type "NoneType")
 | bl (x:Bool):TyOf K H (.bl x) (.type "bool")
 | int (i:Int):TyOf K H (.int i) (.type "int")
 | str (x:Str):TyOf K H (.str x) (.type "str")
 | flt (x:UInt64):TyOf K H (.flt x) (.type "float")
 | lst {a:Addr} {xs:List V} (e:H a = some (.lst xs)):TyOf K H (.ref a) (.type "list")
 | frz {a:Addr} {o:Obj} {xs:List V} (e:H a = some (.frz o (.lst xs))):TyOf K H (.ref a) (.type "list")
 | tup {a:Addr} {xs:List V} (e:H a = some (.tup xs)):TyOf K H (.ref a) (.type "tuple")
 | dK {a:Addr} {kvs:List (Key × V)} (e:H a = some (.dK kvs)):TyOf K H (.ref a) (.type "dict")
 | dT {a:Addr} {kvs:List (List Key × V)} (e:H a = some (.dT kvs)):TyOf K H (.ref a) (.type "dict")
 | ins {a C dx:Addr} {fs:List (Str × V)} (e:H a = some (.ins C dx fs)) (cl:Cls K C) (ha:PySem.W.findIn K (.ref C) "__class__" = some (some (.builtin "object.__class__")))
   (hn:PySem.W.specialIn K (.builtin "object.__class__") "__get__" = some (some (.builtin "getset_descriptor.__get__"))) (htk:PySem.W.takesIn K (.builtin "object.__class__") = some true)
   (hm:PySem.W.mroIn K C (.type "object") = some true):TyOf K H (.ref a) (.ref C)
theorem isinst_ok {x:V} {u t:Value} (I:Inv X pins σ H s) (rx:RelV x u) (ty:TyOf X.K H x t) (e:PySem.W.kitOne X.K t c = some b) (h:∀ tk,Q (.bool b) { s with toks:=tk }) :
  wpAny (model X.prog X.w) A (call (.builtin "isinstance") [u,c]) Q E s:=by
 cases ty with
 | non=>cases (show u = Value.none from rx); exact PySem.W.kia_one PySem.W.kitx_none I.kIn True.intro e (fun z=>nomatch z) h
 | bl y=>cases (show u = Value.bool y from rx); exact PySem.W.kia_one PySem.W.kitx_bool I.kIn True.intro e (fun z=>nomatch z) h
 | int i=>obtain ⟨t,q⟩:=(show ∃ t,u = Value.int i t from rx); cases q; exact PySem.W.kia_one PySem.W.kitx_int I.kIn True.intro e (fun z=>nomatch z) h
 | str y=>obtain ⟨t,q⟩:=(show ∃ t,u = Value.str y t from rx); cases q; exact PySem.W.kia_one PySem.W.kitx_str I.kIn True.intro e (fun z=>nomatch z) h
 | flt y=>obtain ⟨t,q⟩:=(show ∃ t,u = Value.float y t from rx); cases q; exact PySem.W.kia_one PySem.W.kitx_float I.kIn True.intro e (fun z=>nomatch z) h
 | @lst a xs ea =>
  cases (show u = Value.ref a from rx)
  obtain ⟨_,_,n,_,h1⟩:=(show ObjOk X.prog X.w H s.heap a (.lst xs) from I.hok a _ ea)
  exact PySem.W.kia_one PySem.W.kitx_list I.kIn ⟨_,h1,rfl⟩ e (fun z=>nomatch z) h
 | @frz a ob xs ea =>
  cases (show u = Value.ref a from rx)
  obtain ⟨_,_,_,n,_,h1⟩:=(show ObjOk X.prog X.w H s.heap a (.frz ob (.lst xs)) from I.hok a _ ea)
  exact PySem.W.kia_one PySem.W.kitx_list I.kIn ⟨_,h1,rfl⟩ e (fun z=>nomatch z) h
 | @tup a xs ea =>
  cases (show u = Value.ref a from rx)
  obtain ⟨_,_,_,p⟩:=(show ObjOk X.prog X.w H s.heap a (.tup xs) from I.hok a _ ea)
  obtain ⟨o,h1,h2,_⟩:=p
  exact PySem.W.kia_one PySem.W.kitx_tuple I.kIn ⟨o,h1,h2⟩ e (fun z=>nomatch z) h
 | @dK a kvs ea =>
  cases (show u = Value.ref a from rx)
  obtain ⟨_,_,vs,_,p⟩:=(show ObjOk X.prog X.w H s.heap a (.dK kvs) from I.hok a _ ea)
  obtain ⟨o,es,ep,h1,h2,_⟩:=p
  exact PySem.W.kia_one PySem.W.kitx_dict I.kIn ⟨o,h1,h2.1⟩ e (fun z=>nomatch z) h
 | @dT a kvs ea =>
  cases (show u = Value.ref a from rx)
  obtain ⟨_,_,xs,_,o,es,ep,h1,h2,_⟩:=(show ObjOk X.prog X.w H s.heap a (.dT kvs) from I.hok a _ ea)
  exact PySem.W.kia_one PySem.W.kitx_dict I.kIn ⟨o,h1,h2.1⟩ e (fun z=>nomatch z) h
 | @ins a C dx fs ea cl ha hn htk hm =>
  cases (show u = Value.ref a from rx)
  obtain ⟨mA,O,_⟩:=ins_get I.hok ea
  obtain ⟨od,J,_⟩:=O.look
  exact PySem.W.kia_one (PySem.W.kitx_own (cl.get _) cl.hd ha hn htk hm) I.kIn J e (fun z=>nomatch z) h
end
end L2
namespace L2
open PySem PySem.Spec PyProof.Rows
structure Room (k:Nat) (A:Around):Prop where
 hd:A.handled = none
 dp:A.depth + 3 * k + 5 < recursionLimit
 un:A.units + 16 * k + 200 < cLine
theorem Room.mono {j k:Nat} {A:Around} (r:Room k A) (h:j≤k):Room j A:=⟨r.hd,by have:=r.dp; omega,by have:=r.un; omega⟩
theorem Room.deeper {k:Nat} {A:Around} (r:Room (k + 1) A) (env:Env):Room k (A.deeper env) :=
 ⟨r.hd,by have:=r.dp; show A.depth + 1 + 3 * k + 5 < _; omega,by have:=r.un; show A.units + 3 + 16 * k + 200 < _; omega⟩
theorem Room.depth {k:Nat} {A:Around} (r:Room k A):A.depth < recursionLimit:=by have:=r.dp; omega
def tNil:TA:=fun _ H Q=>Q [] H
def tCons (ta:TE) (tr:TA):TA:=fun σ H Q=>ta σ H fun x H1=>tr σ H1 fun xs H2=>Q (x::xs) H2
section
variable {X:Cx} {e:Expr} {es:List Expr} {te:TE} {t:TA} {pos:Pos}
theorem pa_nil:PA X [] tNil:=fun _ _ _ _ H Q I h=>Calls.spliced_nil ⟨[],H,I,.nil,h⟩
theorem pa_cons (ha:PE X e te) (hr:PA X es t) (hs:starEach (e::es) X.env = (false,eval e X.env)::starEach es X.env:=by rfl):PA X (e::es) (tCons te t):=by
 intro pos pins s σ H Q I h
 rw [hs]
 show wpAny _ _ (spliced ((false,eval e X.env)::backTo pos (starEach es X.env))) _ _ s
 refine Calls.spliced_cons (thn (ha pins s σ H _ I h) fun u s1 ⟨x,H1,I1,r1,q1⟩=>?_)
 exact thn (hr pos pins s1 σ H1 _ I1 q1) fun us s2 ⟨xs,H2,I2,r2,q2⟩=>⟨x::xs,H2,I2,.cons r1 r2,q2⟩
def tTup (t:TA):TE:=fun σ H Q=>t σ H fun xs H1=>xs.length≤sizeLine∧∀ p,H1 p = none→Q (.ref p) (upd H1 p (.tup xs))
def tLst (t:TA):TE:=fun σ H Q=>t σ H fun xs H1=>xs.length≤sizeLine∧∀ p,H1 p = none→Q (.ref p) (upd H1 p (.lst xs))
theorem pe_tup {x1} (h:PA X es t):PE X (.Tuple es x1 pos) (tTup t):=by
 intro pins s σ H Q I hq
 refine wpAny_Tuple_spliced (thn (h pos pins s σ H _ I hq) fun us s1 ⟨xs,H1,I1,r,z,q⟩=>⟨by rw [← r.length]; exact z,?_⟩)
 have hf:H1 s1.heap.objs.size = none:=I1.hok.fresh (Nat.le_refl _)
 refine ⟨.ref s1.heap.objs.size,upd H1 s1.heap.objs.size (.tup xs),I1.laid (t':=s1.toks) (fun b u e=>Heap.get?_push_of_some _ e) (Nat.le_refl _) ?_,rfl,q _ hf⟩
 exact ⟨z,us,r,⟨_,Heap.get?_push_size _ rfl,rfl,_,rfl⟩⟩
theorem pe_lst (h:PA X es t):PE X (.List es pos) (tLst t):=by
 intro pins s σ H Q I hq
 refine wpAny_List_spliced (thn (h pos pins s σ H _ I hq) fun us s1 ⟨xs,H1,I1,r,z,q⟩=>⟨by rw [← r.length]; exact z,?_⟩)
 have hf:H1 s1.heap.objs.size = none:=I1.hok.fresh (Nat.le_refl _)
 refine ⟨.ref s1.heap.objs.size,upd H1 s1.heap.objs.size (.lst xs),I1.laid (t':=s1.toks) (fun b u e=>Heap.get?_push_of_some _ e) (Nat.le_refl _) ?_,rfl,q _ hf⟩
 exact ⟨z,us,0,r,Heap.get?_push_size _ rfl⟩
end
abbrev Sp:=List V→Hp→VK→XK→Prop
abbrev CXT:=List Env→Hp→Shared→XK→Value→Shared→Prop
structure Env0 (P:Program) (w:World) (K:PySem.W.Frag) (mg:Str→Option Value) (base:Heap) (A:Around) (outer:List Env) (s:Shared) (H:Hp):Prop where
 frames:A.frames = some outer
 mod:Mod K mg base
 bs:∀ b o,base.get? b = some o→s.heap.get? b = some o∧H b = none
 bsz:base.objs.size≤s.heap.objs.size
 funs:s.heap.FunFrames base outer
 frf:∀ b∈frs outer,H b = none
 hok:HOk P w H s.heap
 bare:AllBare s.gens
def CE (outer:List Env) (P:Program) (w:World) (H:Hp) (s:Shared) (Q:VK) (u:Value) (s':Shared):Prop :=
 ∃ v H',s'.os = s.os∧AllBare s'.gens∧Un (frs outer) [] H H' s.heap s'.heap∧HOk P w H' s'.heap∧RelV v u∧Q v H'
def CR (CX:CXT) (outer:List Env) (P:Program) (w:World) (H:Hp) (s:Shared) (Q:VK) (E:XK) (r:Result) (s':Shared):Prop :=
 match r with
 | .ok (.ret u)=>CE outer P w H s Q u s'
 | .ok _=>False
 | .error e=>CX outer H s E e s'
structure FnOk (P:Program) (w:World) (K:PySem.W.Frag) (mg:Str→Option Value) (base:Heap) (CX:CXT) (k:Nat) (f:Addr) (fd:FuncData) (ps:List Str) (sp:Sp):Prop where
 len:∀ vs H Q E,sp vs H Q E→vs.length = ps.length
 run:∀ (A:Around) (outer:List Env) (s:Shared) (H:Hp) (args:Args) (us:List Value) (vs:List V) (Q:VK) (E:XK),Room k A→Env0 P w K mg base A outer s H→BindsTo s fd args (ps.zip us)→Vals vs us→sp vs H Q E →
  codeAny (model P w) A (.call (.ref f) args) (CR CX outer P w H s Q E) s
section
variable {X:Cx} {pins:List (Addr × Obj)} {σ:St} {H:Hp} {s s':Shared}
theorem Inv.env0 (I:Inv X pins σ H s):Env0 X.prog X.w X.K X.mg X.base X.A X.stack s H :=
 ⟨I.ok.frames,I.ok.mod,I.bs,Nat.le_trans I.ok.bsz I.sz,I.stack,I.stkFree,I.hok,I.bare⟩
theorem Inv.after {Q:VK} {u:Value} (I:Inv X pins σ H s) (h:CE X.stack X.prog X.w H s Q u s'):EP X pins σ Q u s':=by
 obtain ⟨v,H',os,bare,un,hok,r,q⟩:=h
 obtain ⟨hh,g,d,t,os'⟩:=s'
 obtain rfl:os' = s.os:=os
 exact ⟨v,H',I.call (h':=hh) (g':=g) (d':=d) (t':=t) (ch:=[]) un hok bare (fun b z=>absurd z (by simp)),r,q⟩
end
def tCall (sp:Sp) (dvs:List V) (E:XK) (t:TA):TE:=fun σ H Q=>t σ H fun vs H1=>sp (vs++dvs) H1 Q E
def tMeth (C:Addr) (m:Str) (sp:Sp) (dvs:List V) (E:XK) (ta:TE) (t:TA):TE:=fun σ H Q=>ta σ H fun x H1=>∃ a dx fs,x = .ref a∧H1 a = some (.ins C dx fs)∧fs.lookup m = none ∧
 t σ H1 fun vs H2=>sp (x::(vs++dvs)) H2 Q E
def tMake (C:Addr) (sp:Sp) (dvs:List V) (E:XK) (t:TA):TE:=fun σ H Q=>t σ H fun vs H1=>∀ x dx,H1 x = none→H1 dx = none→dx≠x →
 sp (.ref x::(vs++dvs)) (upd (upd H1 dx (.own x)) x (.ins C dx [])) (fun v H2=>v = .non∧Q (.ref x) H2) E
def Binds (K:PySem.W.Frag) (fd:FuncData) (ps:List Str) (ds:List Value):Prop :=
 ∀ (s:Shared) (us:List Value),K.In s.heap→(us++ds).length = ps.length→BindsTo s fd ⟨us,[]⟩ (ps.zip (us++ds))
theorem Binds.all {K:PySem.W.Frag} {fd:FuncData} {ps:List Str} (h:∀ us:List Value,us.length = ps.length→bindArgs fd ⟨us,[]⟩ = pure (ps.zip us)):Binds K fd ps []:=fun s us _ hl=>by
 rw [List.append_nil] at hl ⊢
 exact .of_eq (h us hl)
def Passes (CX:CXT) (X:Cx) (E:XK):Prop:=∀ (pins:List (Addr × Obj)) (σ:St) (H:Hp) (s:Shared) (e:Value) (s':Shared),Inv X pins σ H s→CX X.stack H s E e s'→X.xe e s'
section
variable {X:Cx} {CX:CXT} {k:Nat} {f C:Addr} {fd:FuncData} {ps:List Str} {sp:Sp} {dvs:List V} {ds:List Value} {E:XK} {x m:Str} {p pos apos:Pos} {e o:Expr} {es:List Expr} {ta:TE} {t:TA}
theorem run_fn {pins:List (Addr × Obj)} {σ:St} {H:Hp} {s:Shared} {Q:VK} {us:List Value} {vs:List V} (F:FnOk X.prog X.w X.K X.mg X.base CX k f fd ps sp) (hr:Room k X.A) (hb:Binds X.K fd ps ds) (hd:Vals dvs ds) (hx:Passes CX X E)
  (I:Inv X pins σ H s) (r:Vals vs us) (h:sp (vs++dvs) H Q E):wpAny (model X.prog X.w) X.A (call (.ref f) us) (EP X pins σ Q) X.xe s:=by
 have r2:Vals (vs++dvs) (us++ds):=r.append hd
 have hl:(us++ds).length = ps.length:=by rw [← r2.length]; exact F.len _ _ _ _ h
 refine wpAny_call (codeAny_mono (F.run X.A X.stack s H ⟨us,[]⟩ (us++ds) (vs++dvs) Q E hr I.env0 (hb s us I.kIn hl) r2 h) fun r s' hq=>?_)
 cases r with
 | error e=>exact hx pins σ H s e s' I hq
 | ok fl =>
  cases fl with
  | ret u=>exact I.after hq
  | next=>exact False.elim hq
  | brk=>exact False.elim hq
  | cont=>exact False.elim hq
theorem pe_call (F:FnOk X.prog X.w X.K X.mg X.base CX k f fd ps sp) (hr:Room k X.A) (hg:Gl X x) (hm:X.mg x = some (.ref f)) (hk:PySem.W.keepIn X.K (.ref f) = true) (hb:Binds X.K fd ps ds) (hd:Vals dvs ds) (hx:Passes CX X E)
  (ha:PA X (e::es) t) (hdb:(x == ("__debug__":Str)) = false:=by decide) (he:starEach (e::es) X.env = (false,eval e X.env)::starEach es X.env:=by rfl) (hpl:(backTo pos (starEach es X.env)).any (·.1) = false:=by rfl) :
  PE X (.Call (.Name x p) (e::es) [] pos) (tCall sp dvs E t):=by
 intro pins s σ H Q I h
 refine wpAny_Call_Name_kw (ld_glob I hg hm ?_ hdb)
 refine PySem.W.callWith_K (h₀:=X.base) I.ok.mod.kin hk (thn (ha pos pins s σ H _ I h) fun us s1 ⟨vs,H1,I1,r,q⟩=>⟨I1.kIn,?_⟩) he hpl
 exact run_fn F hr hb hd hx I1 r q
structure Mk (K:PySem.W.Frag) (C f:Addr):Prop where
 makes:PySem.W.makesIn K C = true
 init:PySem.W.findIn K (.ref C) "__init__" = some (some (.ref f))
 fn:PySem.W.isFn K (.ref f) = true
 kp:PySem.W.keepIn K (.ref C) = true
end
section
variable {X:Cx} {CX:CXT} {k:Nat} {f C:Addr} {fd:FuncData} {ps ks:List Str} {sp:Sp} {E:XK} {x m:Str} {p pos apos kpos:Pos} {e o:Expr} {es:List Expr} {kws:List Keyword} {te ta:TE} {t tk:TA} {nm:Option Str}
structure KBinds (K:PySem.W.Frag) (fd:FuncData) (ps ks:List Str) (g:List Value→List Value→List Value) (gV:List V→List V→List V):Prop where
 to:∀ (s:Shared) (us ws:List Value),K.In s.heap→(g us ws).length = ps.length→BindsTo s fd ⟨us,ks.zip ws⟩ (ps.zip (g us ws))
 rel:∀ {vs:List V} {us:List Value} {zs:List V} {ws:List Value},Vals vs us→Vals zs ws→Vals (gV vs zs) (g us ws)
variable {g:List Value→List Value→List Value} {gV:List V→List V→List V}
end
structure FnScope (N P:List Str) (sc:Scope):Prop where
 kind:sc.kind = .function
 co:sc.isCoroutine = false
 gen:sc.isGenerator = false
 nd:N.Nodup
 pre:N.take P.length = P
 par:∀ x∈P,sc.names.lookup x = some .local∨sc.names.lookup x = some .cell
 nofree:∀ y∈sc.names,y.2≠.free
theorem bindL_out {kindOf:Str→Option NameKind} {x:Str}:∀ {binds:List (Str × Value)} {m:Str→Option Value},(∀ v,(x,v) ∉ binds)→bindL kindOf binds m x = m x
 | [],_,_=>rfl
 | (n,v)::r,m,h=>by
  unfold bindL
  rw [bindL_out fun w hw=>h w (List.mem_cons_of_mem _ hw)]
  split
  ·have:x≠n:=by rintro rfl; exact h v List.mem_cons_self
   simp [this]
  ·rfl
theorem bindC_out {kindOf:Str→Option NameKind} {x:Str}:∀ {binds:List (Str × Value)} {m:Str→Option Value},(∀ v,(x,v) ∉ binds)→bindC kindOf binds m x = m x
 | [],_,_=>rfl
 | (n,v)::r,m,h=>by
  unfold bindC
  rw [bindC_out fun w hw=>h w (List.mem_cons_of_mem _ hw)]
  split
  ·rfl
  ·have:x≠n:=by rintro rfl; exact h v List.mem_cons_self
   simp [this]
theorem bindL_get {kindOf:Str→Option NameKind} {x:Str} {v:Value}:∀ {P:List Str} {vs:List Value} {i:Nat} {m:Str→Option Value},P.Nodup→P[i]? = some x→vs[i]? = some v→kindOf x = some .local →
  bindL kindOf (P.zip vs) m x = some v
 | [],_,_,_,_,h,_,_=>by simp at h
 | _::_,[],_,_,_,_,h,_=>by simp at h
 | p::P,w::vs,0,m,nd,h1,h2,hk=>by
  simp at h1 h2; subst h1; subst h2
  show bindL kindOf ((p,w)::P.zip vs) m p = _
  unfold bindL
  rw [bindL_out fun v hv=>(List.nodup_cons.mp nd).1 (List.of_mem_zip hv).1,if_pos hk]
  simp
 | p::P,w::vs,i + 1,m,nd,h1,h2,hk=>by
  show bindL kindOf ((p,w)::P.zip vs) m x = _
  unfold bindL
  exact bindL_get (i:=i) (List.nodup_cons.mp nd).2 (by simpa using h1) (by simpa using h2) hk
theorem bindC_get {kindOf:Str→Option NameKind} {x:Str} {v:Value}:∀ {P:List Str} {vs:List Value} {i:Nat} {m:Str→Option Value},P.Nodup→P[i]? = some x→vs[i]? = some v→kindOf x≠some .local →
  bindC kindOf (P.zip vs) m x = some v
 | [],_,_,_,_,h,_,_=>by simp at h
 | _::_,[],_,_,_,_,h,_=>by simp at h
 | p::P,w::vs,0,m,nd,h1,h2,hk=>by
  simp at h1 h2; subst h1; subst h2
  show bindC kindOf ((p,w)::P.zip vs) m p = _
  unfold bindC
  rw [bindC_out fun v hv=>(List.nodup_cons.mp nd).1 (List.of_mem_zip hv).1,if_neg hk]
  simp
 | p::P,w::vs,i + 1,m,nd,h1,h2,hk=>by
  show bindC kindOf ((p,w)::P.zip vs) m x = _
  unfold bindC
  exact bindC_get (i:=i) (List.nodup_cons.mp nd).2 (by simpa using h1) (by simpa using h2) hk
def start (N:List Str) (vs:List V):St:=vs.map some++List.replicate (N.length - vs.length) none
def cxOf (CX:CXT) (P:Program) (w:World) (K:PySem.W.Frag) (mg:Str→Option Value) (base:Heap) (N:List Str) (qual:Str) (scope:Scope) (f:Addr) (cd:Value) (A:Around) (outer:List Env) (s:Shared) (H:Hp) (E:XK):Cx where
 prog:=P
 w:=w
 K:=K
 mg:=mg
 base:=base
 A:=A.deeper (envOfC qual scope s.heap.objs.size f cd)
 N:=N
 s₀:=s
 H₀:=H
 env:=envOfC qual scope s.heap.objs.size f cd
 outer:=outer
 stack:=envOfC qual scope s.heap.objs.size f cd::outer
 ex:=[]
 calm:=true
 fn:=fun _=>true
 pn:=[]
 xe:=fun e s'=>wpAny (model P w) (A.deeper (envOfC qual scope s.heap.objs.size f cd)) (leaving (envOfC qual scope s.heap.objs.size f cd) e) (fun _ s''=>CX outer H s E e s'') (fun e' s''=>CX outer H s E e' s'') s'
theorem cell_has {sc:Scope} {n:Nat} {x:Str} (h:sc.names.lookup x = some .cell):∃ c,(cellsFrom n sc.names []).lookup x = some c:=by
 have q:=PySem.W.cellsFrom_some sc.names n [] (.inl h)
 exact Option.isSome_iff_exists.mp q
theorem inv_start {CX:CXT} {P:Program} {w:World} {K:PySem.W.Frag} {mg:Str→Option Value} {base:Heap} {N ps:List Str} {qual:Str} {scope:Scope} {f:Addr} {cd:Value} {A:Around} {outer:List Env} {s s1:Shared} {H:Hp} {E:XK} {us:List Value} {vs:List V}
  (S:FnScope N ps scope) (hd:A.handled = none) (e0:Env0 P w K mg base A outer s H) (hl:vs.length = ps.length) (r:Vals vs us)
  (x:InCallC s s.heap.objs.size (bindL (envOfC qual scope s.heap.objs.size f cd).kindOf (ps.zip us) fun _=>none) (cellsFrom (s.heap.objs.size + 1) scope.names []) (bindC (envOfC qual scope s.heap.objs.size f cd).kindOf (ps.zip us) fun _=>none) s1) :
  Inv (cxOf CX P w K mg base N qual scope f cd A outer s H E) [] (start N vs) H s1:=by
 have hpl:ps.length≤N.length:=by have:=congrArg List.length S.pre; rw [List.length_take] at this; omega
 obtain ⟨h1,tk,rfl,hk⟩:=x.done
 have noA:∀ b:Addr,b ∉ (cxOf CX P w K mg base N qual scope f cd A outer s H E).ex:=fun b z=>absurd (show b∈([]:List Addr) from z) (by simp)
 refine ⟨⟨e0.mod,S.kind,rfl,rfl,Nat.le_refl _,fun y z c h1 h2=>?_,fun y hy=>?_,fun y c _ h=>?_,fun _=>hd,Around.frames_deeper e0.frames,.inr ⟨rfl,rfl⟩,fun b z=>absurd z (noA b),e0.bs,e0.bsz,fun b _ _=>noA b,fun b z=>absurd z (noA b),e0.funs,e0.frf⟩,
  rfl,e0.bare,Un.kept hk,⟨_,x.toInCall.ns,fun i y v h1 h2 h3=>?_⟩,fun y c h=>⟨_,x.cell y c h⟩,e0.hok.fresh (Nat.le_refl _),fun y c h=>?_,fun p hp=>absurd (show p∈([]:List (Addr × Obj)) from hp) (by simp),e0.hok.kept hk,?_⟩
 ·exact name_of_addr x.apart (PySem.mem_of_lookup h1) (PySem.mem_of_lookup h2)
 ·have hy:scope.names.lookup y = some .cell∨scope.names.lookup y = some .free:=hy
  rcases hy with hy | hy
  ·exact cell_has hy
  ·exact absurd rfl (S.nofree _ (PySem.mem_of_lookup hy))
 ·exact Nat.le_of_lt (x.above y c (PySem.mem_of_lookup h))
 ·have hi:i < vs.length:=by
   unfold start at h2
   by_cases hi:i < vs.length
   ·exact hi
   ·rw [List.getElem?_append_right (by simpa using hi)] at h2
    rw [List.getElem?_replicate] at h2
    split at h2 <;> cases h2
  have ha:vs[i]? = some v:=by
   unfold start at h2
   rw [List.getElem?_append_left (by simpa using hi),List.getElem?_map] at h2
   cases e:vs[i]? with
   | none=>rw [e] at h2; cases h2
   | some a=>rw [e] at h2; cases h2; rfl
  obtain ⟨u,hu,rv⟩:=r.get ha
  have hp:ps[i]? = some y:=by
   rw [← S.pre,List.getElem?_take_of_lt (by omega)]; exact h1
  have ndP:ps.Nodup:=by rw [← S.pre]; exact S.nd.sublist (List.take_sublist _ _)
  refine ⟨u,rv,?_⟩
  rcases S.par y (List.mem_of_getElem? hp) with k | k
  ·exact .inl ⟨k,bindL_get ndP hp hu k⟩
  ·obtain ⟨c,e⟩:=cell_has (n:=s.heap.objs.size + 1) k
   refine .inr ⟨.inl k,c,e,?_⟩
   have q:=x.cell y c e
   rw [bindC_get ndP hp hu (by show scope.names.lookup y≠_; rw [k]; decide)] at q
   exact q
 ·exact e0.hok.fresh (Nat.le_of_lt (x.above y c (PySem.mem_of_lookup h)))
 ·unfold start
  show _ = N.length
  rw [List.length_append,List.length_map,List.length_replicate]
  omega
theorem fn_of {CX:CXT} {P:Program} {w:World} {K:PySem.W.Frag} {mg:Str→Option Value} {base:Heap} {k:Nat} {f:Addr} {name qual:Str} {params:Arguments} {body:List Stmt} {scope:Scope} {dV kV doc pm cdv ct oc:Value} {an od:Option Addr}
  {osl:Array (Option Value)} {N ps:List Str} {sp:Sp} (lk:K.lookup f = some ⟨oc,od,.func (PySem.W.fnOf name qual params body scope dV kV doc pm an cdv ct),osl⟩) (hcd:PySem.W.codeIn K cdv qual = true) (S:FnScope N ps scope)
  (len:∀ vs H Q E,sp vs H Q E→vs.length = ps.length)
  (hbody:∀ (A:Around) (outer:List Env) (s:Shared) (H:Hp) (vs:List V) (Q:VK) (E:XK),Room k (A.deeper (envOfC qual scope s.heap.objs.size f cdv))→sp vs H Q E →
   ∃ t,PSs (cxOf CX P w K mg base N qual scope f cdv A outer s H E) body t∧t { nx:=fun _ H'=>Q .non H',rt:=Q } (start N vs) H) :
  FnOk P w K mg base CX (k + 1) f (PySem.W.fnOf name qual params body scope dV kV doc pm an cdv ct) ps sp:=by
 refine ⟨len,fun A outer s H args us vs Q E hr e0 hb r hsp=>?_⟩
 have hl:=len _ _ _ _ hsp
 have KX:K.In s.heap:=e0.mod.kin.keeps fun b o e=>(e0.bs b o e).1
 have lim:s.heap.NoLimit:=e0.mod.nolimit.keeps fun b o e=>(e0.bs b o e).1
 have hkind:∀ y∈ps.zip us,scope.names.lookup y.1 = some .local∨(scope.names.lookup y.1 = some .cell∧((cellsFrom (s.heap.objs.size + 1) scope.names []).lookup y.1).isSome = true):=fun ⟨n,v⟩ hy=>by
  rcases S.par n (List.of_mem_zip hy).1 with q | q
  ·exact .inl q
  ·exact .inr ⟨q,PySem.W.cellsFrom_some _ _ _ (.inl q)⟩
 refine codeAny_call_function hr.depth (KX _ _ lk) rfl S.co S.gen rfl (PySem.W.codeRec_of KX hcd) (hb _ _ _ _ ?_)
 refine wpAny_newFunctionEnv_cells S.kind hkind fun env he s1 x=>?_
 subst he
 refine ⟨lim.keeps x.toInCall.keep,codeAny_func ?_⟩
 obtain ⟨t,ht,hq⟩:=hbody A outer s H vs Q E (hr.deeper _) hsp
 have I:Inv (cxOf CX P w K mg base N qual scope f cdv A outer s H E) [] (start N vs) H s1:=inv_start S hr.hd e0 hl r x
 refine wpAny_mono (ht [] s1 (start N vs) H _ I hq) (fun fl s' hs=>?_) fun e s' hs=>hs
 have fin:∀ {σ':St} {H':Hp} {v:V} {u:Value},Inv (cxOf CX P w K mg base N qual scope f cdv A outer s H E) [] σ' H' s'→RelV v u→Q v H'→CE outer P w H s Q u s' :=
  fun {σ' H' v u} J rv q=>⟨v,H',J.os,J.bare,J.base,J.hok,rv,q⟩
 cases fl with
 | ret u =>
  obtain ⟨v,σ',H',J,rv,q⟩:=hs
  exact fin J rv q
 | next =>
  obtain ⟨σ',H',J,q⟩:=hs
  exact fin (v:=V.non) (u:=Value.none) J rfl q
 | brk =>
  obtain ⟨_,_,_,q⟩:=hs
  exact False.elim q
 | cont =>
  obtain ⟨_,_,_,q⟩:=hs
  exact False.elim q
end L2
namespace L2
open PySem PySem.Spec PyProof.Rows
section
variable {X:Cx} {x:Str} {p pos:Pos} {e:Expr} {es:List Expr} {t:TA} {id T:String} {r:List V→Hp→VK→Prop}
def tCB (r:List V→Hp→VK→Prop) (t:TA):TE:=fun σ H Q=>t σ H fun vs H1=>r vs H1 Q
theorem pe_callB (hc:CallR X (.builtin id) r) (hg:Gl X x) (hm:X.mg x = none) (hv:bootBuiltins x = some (.builtin id)) (ha:PA X (e::es) t) (hn:x≠"__name__":=by decide) (hdb:(x == ("__debug__":Str)) = false:=by decide)
  (he:starEach (e::es) X.env = (false,eval e X.env)::starEach es X.env:=by rfl) (hpl:(backTo pos (starEach es X.env)).any (·.1) = false:=by rfl):PE X (.Call (.Name x p) (e::es) [] pos) (tCB r t):=by
 intro pins s σ H Q I h
 refine wpAny_Call_Name_kw (ld_blt I hg hm hv ?_ hn hdb)
 exact PyProof.Rows.callWith_builtin1 (thn (ha pos pins s σ H _ I h) fun us s1 ⟨vs,H1,I1,r1,q1⟩=>hc pins s1 σ H1 vs us Q I1 r1 q1) he hpl
theorem pe_callTy (hc:CallR X (.type T) r) (hg:Gl X x) (hm:X.mg x = none) (hv:bootBuiltins x = some (.type T)) (ha:PA X (e::es) t) (hn:x≠"__name__":=by decide) (hdb:(x == ("__debug__":Str)) = false:=by decide)
  (he:starEach (e::es) X.env = (false,eval e X.env)::starEach es X.env:=by rfl) (hpl:(backTo pos (starEach es X.env)).any (·.1) = false:=by rfl):PE X (.Call (.Name x p) (e::es) [] pos) (tCB r t):=by
 intro pins s σ H Q I h
 refine wpAny_Call_Name_kw (ld_blt I hg hm hv ?_ hn hdb)
 exact PyProof.Rows.callWith_type1 (thn (ha pos pins s σ H _ I h) fun us s1 ⟨vs,H1,I1,r1,q1⟩=>hc pins s1 σ H1 vs us Q I1 r1 q1) he hpl
end
end L2
namespace HT
open PySem PyProof.Rows
def lexLt:List Int→List Int→Bool
 | [],[]=>false
 | [],_::_=>true
 | _::_,[]=>false
 | x::xs,y::ys=>if x = y then lexLt xs ys else decide (x < y)
theorem lexLt_cons (x y:Int) (xs ys:List Int):lexLt (x::xs) (y::ys) = if x = y then lexLt xs ys else decide (x < y):=rfl
theorem lexLt_nil_nil:lexLt [] [] = false:=rfl
theorem lexLt_nil_cons (y:Int) (ys:List Int):lexLt [] (y::ys) = true:=rfl
theorem lexLt_cons_nil (x:Int) (xs:List Int):lexLt (x::xs) [] = false:=rfl
theorem eqAt_int (A:Around) (s:Shared) (a:Int) (t:Tok) (c:Int) (u:Tok):∃ e,SeqAt.EqAt A s (.int a t) (.int c u) e∧(e = true↔a = c) :=
 ⟨(a == c),SeqAt.EqAt.int_int a t c u,by simp⟩
theorem rcLt_int (A:Around) (s:Shared) (a:Int) (t:Tok) (c:Int) (u:Tok) (prog:Program) (w:World) (E:Value→Shared→Prop) (Q:Value→Shared→Prop) (h:Q (.bool (decide (a < c))) s) :
  wpAny (model prog w) A (richCompare .Lt (.int a t) (.int c u)) Q E s :=
 (PyProof.Rows.lt_int h:wpAny (model prog w) A (compareOp .Lt (.int a t) (.int c u)) Q E s)
section
open PySem.SeqAt
open PySem.AutoSeq1 (wpAny_loadPart')
open PySem.MeetsSeq PySem.MeetsSeq2 PySem.MeetsSeq3
theorem tuple_lt_ints (l b:Addr) (items items2:Array Value) (n n2:Nat) (dd dd2:Option Addr) (sl sl2:Array (Option Value)) (ns ms:List Int) (hi:IntsAre items.toList ns) (hj:IntsAre items2.toList ms) :
  Meets (Builtin.«tuple.__lt__» ⟨[.ref l,.ref b],[]⟩)
   (fun _ R s=>s.heap.get? l = some { cls:=.type "tuple",dict:=dd,data:=.seq items n,slots:=sl }∧s.heap.get? b = some { cls:=.type "tuple",dict:=dd2,data:=.seq items2 n2,slots:=sl2 } ∧
    R (.ok (.ret (.bool (lexLt ns ms)))) s) :=
 .of_wp fun prog w A R s h=>by
  obtain ⟨hp,g,d,tk,os⟩:=s; obtain ⟨hl,hb,h⟩:=h
  have f2:=AutoSeq1.sub_tuple_tuple
  have z1:items.size = ns.length:=by rw [← hi.length]; simp
  have z2:items2.size = ms.length:=by rw [← hj.length]; simp
  wp_walk using wpAny_loadPart' hl,wpAny_loadPart' hb,wpAny_forIn_list _ (fun rest b s'=>b.1 = none∧s' = ⟨hp,g,d,tk,os⟩∧∃ (vs ws:List Value) (ns' ms':List Int),rest = vs.zip ws ∧
   IntsAre vs ns'∧IntsAre ws ms'∧ns'.length + items2.size = ms'.length + items.size∧R (.ok (.ret (.bool (lexLt ns' ms')))) ⟨hp,g,d,tk,os⟩) _
  case turn =>
   rintro ⟨y,x⟩ rest b s' ⟨hb',rfl,vs,ws,ns',ms',hz,hvi,hwi,hlen,hR⟩
   cases hvi with
   | nil=>rw [List.zip_nil_left] at hz; cases hz
   | cons a t hvi' =>
    cases hwi with
    | nil=>rw [List.zip_nil_right] at hz; cases hz
    | cons c u hwi' =>
     rw [List.zip_cons_cons] at hz
     injection hz with hyx hrest
     injection hyx with hy hx
     subst hy hx
     rw [lexLt_cons] at hR
     simp only [List.length_cons] at hlen
     obtain ⟨e,he,hiff⟩:=eqAt_int A.in1 ⟨hp,g,d,tk,os⟩ a t c u
     refine wpAny_bind (he prog w _ _ ?_)
     cases e with
     | true =>
      rw [if_pos (hiff.mp rfl)] at hR
      wp_walk
      exact ⟨rfl,rfl,_,_,_,_,hrest,hvi',hwi',by omega,hR⟩
     | false =>
      rw [if_neg (fun q=>absurd (hiff.mpr q) Bool.false_ne_true)] at hR
      have hri:=rcLt_int A.in1 ⟨hp,g,d,tk,os⟩ a t c u prog w
      wp_walk using hri
      exact ⟨_,rfl,by simpa using hR⟩
  case fin =>
   rintro ⟨b1,b2⟩ s' ⟨hb',rfl,vs,ws,ns',ms',hz,hvi,hwi,hlen,hR⟩
   simp only at hb'
   subst hb'
   have hv:lexLt ns' ms' = decide (items.size < items2.size):=by
    cases hvi with
    | nil =>
     cases hwi with
     | nil =>
      simp only [List.length_nil] at hlen
      rw [lexLt_nil_nil]
      exact (decide_eq_false (by omega)).symm
     | cons c u hw =>
      simp only [List.length_nil,List.length_cons] at hlen
      rw [lexLt_nil_cons]
      exact (decide_eq_true (by omega)).symm
    | cons a t hv =>
     cases hwi with
     | nil =>
      simp only [List.length_nil,List.length_cons] at hlen
      rw [lexLt_cons_nil]
      exact (decide_eq_false (by omega)).symm
     | cons c u hw =>
      rw [List.zip_cons_cons] at hz
      cases hz
   rw [hv] at hR
   wp_walk
   exact ⟨_,rfl,by simpa [Builtin.Tuple.tupleCompareSizes] using hR⟩
  case h =>
   exact ⟨rfl,rfl,items.toList,items2.toList,ns,ms,rfl,hi,hj,by omega,h⟩
end
section
variable {prog:Program} {w:World} {A:Around} {E:Value→Shared→Prop} {s:Shared}
theorem lt_tupInts {l b:Addr} {items items2:Array Value} {ns ms:List Int} {Q:Value→Shared→Prop} (hl:IsTup s.heap l items) (hb:IsTup s.heap b items2) (hi:IntsAre items.toList ns) (hj:IntsAre items2.toList ms)
  (hu:A.units < cLine) (h:Q (.bool (lexLt ns ms)) s):wpAny (model prog w) A (compareOp .Lt (.ref l) (.ref b)) Q E s:=by
 obtain ⟨⟨cls,dd,data,sl⟩,ho,hc,n,hd⟩:=id hl
 obtain ⟨⟨cls2,dd2,data2,sl2⟩,ho2,hc2,n2,hd2⟩:=id hb
 simp only at hc hd hc2 hd2
 subst hc hd hc2 hd2
 exact richCompare_meets_room (op:=.Lt) ⟨_,ho,rfl⟩ ⟨_,ho2,rfl⟩ PySem.F.slot_tuple_lt PySem.F.entry_tuple_lt (PySem.F.args_tuple_lt_2 _ _) (tuple_lt_ints l b items items2 n n2 dd dd2 sl sl2 ns ms hi hj)
  ⟨ho,ho2,show Value.bool (lexLt ns ms)≠Value.notImplemented∧Q (.bool (lexLt ns ms)) s from ⟨(fun x=>nomatch x),h⟩⟩ hu
def sIx (n d:Nat):Option Int→Nat
 | none=>d
 | some v=>if v < 0 then (v + (n:Int)).toNat else min v.toNat n
theorem sIx_none (n d:Nat):sIx n d none = d:=rfl
theorem sIx_le (n d:Nat) (hd:d≤n) (o:Option Int):sIx n d o≤n:=by
 cases o with
 | none=>exact hd
 | some v =>
  show (if v < 0 then (v + (n:Int)).toNat else min v.toNat n)≤n
  by_cases hv:v < 0
  ·rw [if_pos hv]; omega
  ·rw [if_neg hv]; exact Nat.min_le_right _ _
theorem clip_eq (v:Int) (n d:Nat):(if v < 0 then max (v + (n:Int)) 0 else min v (n:Int)) = ((sIx n d (some v):Nat):Int):=by
 show (if v < 0 then max (v + (n:Int)) 0 else min v (n:Int)) = (((if v < 0 then (v + (n:Int)).toNat else min v.toNat n):Nat):Int)
 by_cases hv:v < 0
 ·simp only [if_pos hv]; omega
 ·simp only [if_neg hv]; omega
theorem adjust_gen (lo hi:Option Int) (n:Nat):Builtin.Slice.sliceAdjust lo hi 1 (n:Int) = (((sIx n 0 lo:Nat):Int),((sIx n n hi:Nat):Int)):=by
 have h1:¬ ((1:Int) < 0):=by omega
 unfold Builtin.Slice.sliceAdjust
 simp only [h1,if_false]
 refine Prod.ext ?_ ?_
 ·cases lo with
  | none=>rfl
  | some v=>exact clip_eq v n 0
 ·cases hi with
  | none=>rfl
  | some v=>exact clip_eq v n n
theorem places_gen (i j:Nat):Builtin.Slice.slicePlaces (i:Int) (j:Int) 1 = j - i:=by
 unfold Builtin.Slice.slicePlaces
 have h1:(1:Int) > 0:=by omega
 simp only [h1,if_true,Int.ediv_one]
 split <;> omega
theorem slicePart_ {v:Value} {o:Option Int} {Q:Option Int→Shared→Prop} (p:IsPart v o) (h:Q o s):wpAny (model prog w) A (Builtin.Slice.slicePartIndex v) Q E s:=by
 cases p with
 | none=>exact slicePart_none h
 | int i t=>exact slicePart_int h
theorem sliceApplied_gen {sl:Addr} {vl vu:Value} {lo hi:Option Int} {n:Nat} {Q:Int × Int × Nat→Shared→Prop} (hs:s.heap.IsSliceOf sl vl vu .none) (pl:IsPart vl lo) (pu:IsPart vu hi)
  (h:Q (((sIx n 0 lo:Nat):Int),1,sIx n n hi - sIx n 0 lo) s):wpAny (model prog w) A (Builtin.Slice.sliceApplied (.ref sl) (pure (n:Int))) Q E s:=by
 obtain ⟨os,hos,hcs,hds⟩:=id hs
 unfold Builtin.Slice.sliceApplied Builtin.Slice.sliceFields
 refine wpAny_bind (wpAny_bind (wpAny_field hos hds (x:=vl) rfl (wpAny_bind (wpAny_field hos hds (x:=vu) rfl (wpAny_bind (wpAny_field hos hds (x:=.none) rfl (wpAny_pure ?_)))))))
 refine wpAny_bind (slicePart_none ?_)
 show wpAny _ _ (if ((1:Int) == 0) = true then _ else _) _ _ s
 rw [if_neg (by decide)]
 refine wpAny_bind (slicePart_ pl (wpAny_bind (slicePart_ pu (wpAny_bind (wpAny_pure ?_)))))
 show wpAny _ _ (match Builtin.Slice.sliceAdjust lo hi 1 (n:Int) with | (lo,hi)=>pure (lo,(1:Int),Builtin.Slice.slicePlaces lo hi 1)) _ _ s
 rw [adjust_gen lo hi n]
 show wpAny _ _ (pure (((sIx n 0 lo:Nat):Int),(1:Int),Builtin.Slice.slicePlaces ((sIx n 0 lo:Nat):Int) ((sIx n n hi:Nat):Int) 1)) _ _ s
 rw [places_gen]
 exact wpAny_pure h
theorem pick_gen (xs:Array Value) (i k:Nat):((List.range k).filterMap fun (m:Nat)=>xs[((i:Int) + (m:Int) * 1).toNat]?).toArray = ((xs.toList.drop i).take k).toArray:=by
 have e:(fun (m:Nat)=>xs[((i:Int) + (m:Int) * 1).toNat]?) = fun m=>xs[i + m]?:=by
  funext m
  have:((i:Int) + (m:Int) * 1).toNat = i + m:=by omega
  rw [this]
 rw [e]
 have:=pick_run xs i k
 rw [List.filterMap_map] at this
 have e2:((fun x=>xs[x]?) ∘ fun x=>i + x) = fun m=>xs[i + m]?:=rfl
 rw [e2] at this
 rw [this]
theorem getItem_tuple_cut {t sl:Addr} {items:Array Value} {vl vu:Value} {lo hi:Option Int} {Q:Value→Shared→Prop} (ht:IsTup s.heap t items) (hs:s.heap.IsSliceOf sl vl vu .none) (pl:IsPart vl lo) (pu:IsPart vu hi)
  (hw:¬ (sIx items.size 0 lo = 0∧sIx items.size items.size hi = items.size))
  (h:Q (.ref s.heap.objs.size) { s with heap:=s.heap.push { cls:=.type "tuple",data:=.seq ((items.toList.drop (sIx items.size 0 lo)).take (sIx items.size items.size hi - sIx items.size 0 lo)).toArray } })
  (hsz:items.size≤sizeLine):wpAny (model prog w) A (getItem (.ref t) (.ref sl)) Q E s:=by
 have htake:sizeOk (.seq ((items.toList.drop (sIx items.size 0 lo)).take (sIx items.size items.size hi - sIx items.size 0 lo)).toArray):=by
  show ((items.toList.drop (sIx items.size 0 lo)).take (sIx items.size items.size hi - sIx items.size 0 lo)).toArray.size≤sizeLine
  rw [List.size_toArray,List.length_take,List.length_drop,Array.length_toList]
  omega
 have hj:sIx items.size items.size hi≤items.size:=sIx_le _ _ (Nat.le_refl _) hi
 obtain ⟨os,hos,hcs,hds⟩:=id hs
 have hTs:s.TypeIs (.ref sl) "slice":=⟨os,hos,hcs⟩
 unfold getItem
 try with_reducible refine wpAny_holding ?_
 first | refine wpAny_bind (wpAny_pure ?_) | skip
 refine wpAny_bind (wpAny_sequenceKey ht.typeIs (by decide) ?_)
 refine wpAny_bind (wpAny_callSpecial?_slot (name:=Str.ofString "__getitem__") ht.typeIs PyProof.Rows.slot_tuple_getitem
  (wpAny_call_entry PyProof.Rows.slot_tuple_getitem ht.typeIs entry_tuple_getitem ?_ (args_tuple_getitem _ _)))
 show wpAny _ _ (Builtin.Tuple.tupleItemsOf (.ref t) >>= _) _ _ s
 refine wpAny_bind (tupleItemsOf_ ht ?_)
 refine wpAny_bind (wpAny_typeOf hTs ?_)
 rw [if_pos (by decide)]
 refine wpAny_bind (sliceApplied_gen hs pl pu ?_)
 have hno:¬ ((((sIx items.size 0 lo:Nat):Int) == 0 && (1:Int) == 1 && (sIx items.size items.size hi - sIx items.size 0 lo) == items.size) = true):=by
  intro q
  rw [Bool.and_eq_true,Bool.and_eq_true] at q
  have q1:((sIx items.size 0 lo:Nat):Int) = 0:=eq_of_beq q.1.1
  have q2:sIx items.size items.size hi - sIx items.size 0 lo = items.size:=eq_of_beq q.2
  exact hw ⟨by omega,by omega⟩
 show wpAny _ _ (if (((sIx items.size 0 lo:Nat):Int) == 0 && (1:Int) == 1 && (sIx items.size items.size hi - sIx items.size 0 lo) == items.size) = true then _ else _) _ _ s
 rw [if_neg hno,pick_gen]
 first
  | exact wpAny_bind (m:=Builtin.Tuple.tupleExact _) (wpAny_newObj_type (wpAny_pure ⟨_,rfl,wpAny_pure h⟩) htake)
  | exact wpAny_bind (m:=Builtin.Tuple.tupleExact _) (wpAny_newObj_type (wpAny_bind (wpAny_pure (wpAny_pure ⟨_,rfl,wpAny_pure h⟩))) htake)
  | exact wpAny_bind (wpAny_bind (m:=Builtin.Tuple.tupleExact _) (wpAny_newObj_type (wpAny_pure (wpAny_pure ⟨_,rfl,wpAny_pure h⟩)) htake))
  | exact wpAny_bind (wpAny_bind (m:=Builtin.Tuple.tupleExact _) (wpAny_newObj_type (wpAny_pure ⟨_,rfl,wpAny_pure h⟩) htake))
end
end HT
namespace L2
open PySem PySem.Spec PyProof.Rows
abbrev TO:=St→Hp→(Option Int→Hp→Prop)→Prop
def PO (X:Cx) (e:Option Expr) (t:TO):Prop :=
 ∀ (pins:List (Addr × Obj)) (s:Shared) (σ:St) (H:Hp) (Q:Option Int→Hp→Prop),Inv X pins σ H s→t σ H Q →
  wpAny (model X.prog X.w) X.A (evalPart e X.env) (fun u s'=>∃ o H',Inv X pins σ H' s'∧IsPart u o∧Q o H') X.xe s
def tNoPart:TO:=fun _ H Q=>Q none H
def tPart (t:TE):TO:=fun σ H Q=>t σ H fun x H1=>∃ i,x = .int i∧Q (some i) H1
theorem intsAre_of {ns:List Int}:∀ {us:List Value},Vals (ns.map V.int) us→IntsAre us ns:=by
 induction ns with
 | nil=>intro us r; rw [List.map_nil] at r; cases r; exact .nil
 | cons n ns ih =>
  intro us r
  rw [List.map_cons] at r
  cases r with
  | cons r1 r2 =>
   obtain ⟨t,e⟩:=r1
   subst e
   exact .cons n t (ih r2)
section
variable {X:Cx} {e:Expr} {te:TE} {lo hi:Option Expr} {tl th:TO} {pos p2:Pos}
theorem po_none:PO X none tNoPart:=by
 intro pins s σ H Q I h
 rw [evalPart_none]
 exact wpAny_pure ⟨none,H,I,.none,h⟩
theorem po_some (h:PE X e te):PO X (some e) (tPart te):=by
 intro pins s σ H Q I hw
 rw [evalPart_some]
 refine thn (h pins s σ H _ I hw) fun u s1 ⟨x,H1,I1,r1,q1⟩=>?_
 obtain ⟨i,rfl,q⟩:=q1
 obtain ⟨t,rfl⟩:=r1
 exact ⟨some i,H1,I1,.int i t,q⟩
def SlR (X:Cx) (r:V→Option Int→Option Int→Hp→VK→Prop):Prop :=
 ∀ (pins:List (Addr × Obj)) (s:Shared) (σ:St) (H:Hp) (x:V) (v vl vu:Value) (lo hi:Option Int) (sl:Addr) (Q:VK),Inv X pins σ H s→RelV x v→s.heap.IsSliceOf sl vl vu .none→IsPart vl lo→IsPart vu hi→r x lo hi H Q →
  ∃ T id,typeLookup (.type T) "__getitem__" = pure (some (.builtin id))∧s.TypeIs v T∧wpAny (model X.prog X.w) X.A (getItem v (.ref sl)) (EP X pins σ Q) X.xe s
theorem SlR.or {r r':V→Option Int→Option Int→Hp→VK→Prop} (h:SlR X r) (h':SlR X r'):SlR X (fun x lo hi H Q=>r x lo hi H Q∨r' x lo hi H Q):=by
 intro pins s σ H x v vl vu lo hi sl Q I rx hs pl pu q
 rcases q with q | q
 ·exact h pins s σ H x v vl vu lo hi sl Q I rx hs pl pu q
 ·exact h' pins s σ H x v vl vu lo hi sl Q I rx hs pl pu q
def tSl (r:V→Option Int→Option Int→Hp→VK→Prop) (te:TE) (tl th:TO):TE:=fun σ H Q=>te σ H fun x H1=>tl σ H1 fun l H2=>th σ H2 fun u H3=>r x l u H3 Q
theorem pe_slice {r:V→Option Int→Option Int→Hp→VK→Prop} (hr:SlR X r) (he:PE X e te) (hl:PO X lo tl) (hu:PO X hi th):PE X (.Subscript e (.Slice lo hi none p2) pos) (tSl r te tl th):=by
 intro pins s σ H Q I h
 refine Subscript_ (thn (he pins s σ H _ I h) fun v s1 ⟨x,H1,I1,r1,q1⟩=>?_)
 refine wpAny_Slice (thn (hl pins s1 σ H1 _ I1 q1) fun vl s2 ⟨l,H2,I2,pl,q2⟩=>thn (hu pins s2 σ H2 _ I2 q2) fun vu s3 ⟨u,H3,I3,pu,q3⟩=>?_)
 rw [evalPart_none]
 refine wpAny_pure ?_
 have I4:Inv X pins σ H3 { s3 with heap:=s3.heap.push { cls:=.type "slice",data:=.fields #[vl,vu,.none] } }:=I3.kept (t':=s3.toks) fun b ob q=>Heap.get?_push_of_some _ q
 obtain ⟨T,id,hT,ht,hg⟩:=hr pins { s3 with heap:=s3.heap.push { cls:=.type "slice",data:=.fields #[vl,vu,.none] } } σ H3 x v vl vu l u s3.heap.objs.size Q I4 r1 (Heap.IsSliceOf.new ..) pl pu q3
 show wpAny (model X.prog X.w) X.A (subscriptTail e (.Slice lo hi none p2) v (.ref s3.heap.objs.size)) (EP X pins σ Q) X.xe { s3 with heap:=s3.heap.push { cls:=.type "slice",data:=.fields #[vl,vu,.none] } }
 exact tail_any (ops:=[.ref s3.heap.objs.size,v]) ht hT hg (by with_unfolding_all rfl)
def cutV (xs:List V) (lo hi:Option Int):List V:=(xs.drop (HT.sIx xs.length 0 lo)).take (HT.sIx xs.length xs.length hi - HT.sIx xs.length 0 lo)
theorem cutV_length (xs:List V) (lo hi:Option Int):(cutV xs lo hi).length≤xs.length:=by
 unfold cutV
 rw [List.length_take,List.length_drop]
 omega
def rSlT (K:PySem.W.Frag):V→Option Int→Option Int→Hp→VK→Prop:=fun x lo hi H Q=>∃ a xs,x = .ref a∧SqT K H a xs ∧
 ¬ (HT.sIx xs.length 0 lo = 0∧HT.sIx xs.length xs.length hi = xs.length)∧∀ p,H p = none→Q (.ref p) (upd H p (.tup (cutV xs lo hi)))
theorem sl_tup:SlR X (rSlT X.K):=by
 intro pins s σ H x v vl vu lo hi sl Q I rx hs pl pu h
 obtain ⟨a,xs,rfl,hx,hw,q⟩:=h
 cases rx
 obtain ⟨its,r,ht,hz⟩:=I.tuple hx
 have hlen:its.toArray.size = xs.length:=by rw [List.size_toArray]; exact r.length.symm
 refine ⟨"tuple",_,PyProof.Rows.slot_tuple_getitem.lookup,ht.typeIs,?_⟩
 refine HT.getItem_tuple_cut ht hs pl pu (by rw [hlen]; exact hw) ?_ (by rw [hlen]; exact hz)
 rw [hlen]
 refine ⟨.ref s.heap.objs.size,_,I.laid (t':=s.toks) (o:=.tup (cutV xs lo hi)) (fun b ob q=>Heap.get?_push_of_some _ q) (Nat.le_refl _) ?_,rfl,q _ (I.hok.fresh (Nat.le_refl _))⟩
 exact ⟨Nat.le_trans (cutV_length xs lo hi) hz,_,(r.drop (HT.sIx xs.length 0 lo)).take (HT.sIx xs.length xs.length hi - HT.sIx xs.length 0 lo),IsTup.new _ _⟩
def rLtT (K:PySem.W.Frag):R2:=fun x y H Q=>∃ a b ns ms,x = .ref a∧y = .ref b∧SqT K H a (ns.map V.int)∧SqT K H b (ms.map V.int)∧Q (.bl (HT.lexLt ns ms)) H
theorem op_ltT (hu:X.A.units < cLine):OpR X (compareOp .Lt) (rLtT X.K):=by
 intro pins s σ H x y v u Q I rx ry h
 obtain ⟨a,b,ns,ms,rfl,rfl,ha,hb,q⟩:=h
 cases rx
 cases ry
 obtain ⟨its,r1,p1,_⟩:=I.tuple ha
 obtain ⟨its2,r2,p2,_⟩:=I.tuple hb
 have i1:IntsAre its.toArray.toList ns:=intsAre_of r1
 have i2:IntsAre its2.toArray.toList ms:=intsAre_of r2
 exact HT.lt_tupInts p1 p2 i1 i2 hu ⟨.bl (HT.lexLt ns ms),H,I,rfl,q⟩
end
end L2
namespace L2
open PySem PySem.Spec PyProof.Rows
def ixN (n:Nat) (i:Int):Option Nat:=if 0≤i then (if i < n then some i.toNat else none) else if -(n:Int)≤i then some (i + n).toNat else none
def atI {α:Type} (xs:List α) (i:Int):Option α:=(ixN xs.length i).bind fun j=>xs[j]?
theorem ixN_seq {n:Nat} {i:Int} {j:Nat} (h:ixN n i = some j):seqIndex? i n = some j∧j < n∧-(n:Int)≤i∧i < n:=by
 unfold ixN at h
 by_cases h0:0≤i
 ·rw [if_pos h0] at h
  by_cases h1:i < n
  ·rw [if_pos h1] at h
   have e:i.toNat = j:=Option.some.inj h
   exact ⟨by rw [seqIndex_of h0 h1,e],by omega,by omega,h1⟩
  ·rw [if_neg h1] at h; cases h
 ·rw [if_neg h0] at h
  by_cases h1:-(n:Int)≤i
  ·rw [if_pos h1] at h
   have e:(i + n).toNat = j:=Option.some.inj h
   exact ⟨by rw [seqIndex_neg (by omega) h1,e],by omega,h1,by omega⟩
  ·rw [if_neg h1] at h; cases h
theorem atI_get {α:Type} {xs:List α} {i:Int} {v:α} (h:atI xs i = some v):∃ j,seqIndex? i xs.length = some j∧xs[j]? = some v∧j < xs.length∧-(xs.length:Int)≤i∧i < xs.length:=by
 unfold atI at h
 cases e:ixN xs.length i with
 | none=>rw [e] at h; cases h
 | some j =>
  rw [e] at h
  obtain ⟨h1,h2,h3,h4⟩:=ixN_seq e
  exact ⟨j,h1,h,h2,h3,h4⟩
theorem atI_nat {α:Type} {xs:List α} {j:Nat} {v:α} (h:xs[j]? = some v):atI xs (j:Int) = some v:=by
 have hj:j < xs.length:=(List.getElem?_eq_some_iff.mp h).1
 have e:ixN xs.length (j:Int) = some j:=by
  unfold ixN
  rw [if_pos (by omega),if_pos (by omega)]; simp
 unfold atI; rw [e]; exact h
def PlainIx (b:Expr):Prop:=∀ o i,subscripted b false o i = operate [o,i] (getItem o i)
def IxR (X:Cx) (r:R2):Prop :=
 ∀ (value slice:Expr) (pins:List (Addr × Obj)) (s:Shared) (σ:St) (H:Hp) (x y:V) (v u:Value) (Q:VK),Inv X pins σ H s→RelV x v→RelV y u→r x y H Q →
  subscripted slice false v u = operate [v,u] (getItem v u)→wpAny (model X.prog X.w) X.A (subscriptTail value slice v u) (EP X pins σ Q) X.xe s
def MtR (X:Cx) (id:String) (r:V→List V→Hp→VK→Prop):Prop :=
 ∀ (pins:List (Addr × Obj)) (s:Shared) (σ:St) (H:Hp) (x:V) (xs:List V) (v:Value) (us:List Value) (Q:VK),Inv X pins σ H s→RelV x v→Vals xs us→r x xs H Q →
  wpAny (model X.prog X.w) X.A (call (.builtin id) (v::us)) (EP X pins σ Q) X.xe s
section
variable {X:Cx} {a b:Expr} {ta tb:TE} {pos:Pos}
theorem IxR.or {r r':R2} (h:IxR X r) (h':IxR X r'):IxR X (fun x y H Q=>r x y H Q∨r' x y H Q):=by
 intro value slice pins s σ H x y v u Q I rx ry q hs
 rcases q with q | q
 ·exact h value slice pins s σ H x y v u Q I rx ry q hs
 ·exact h' value slice pins s σ H x y v u Q I rx ry q hs
theorem pe_ix {r:R2} (hr:IxR X r) (ha:PE X a ta) (hb:PE X b tb) (hs:PlainIx b):PE X (.Subscript a b pos) (tOp r ta tb):=by
 intro pins s σ H Q I h
 exact Subscript_ (binT ha hb I h fun v u s2 x y H2 I2 rx ry q=>hr a b pins s2 σ H2 x y v u Q I2 rx ry q (hs _ _))
def rIxL (K:PySem.W.Frag):R2:=fun x y H Q=>∃ p xs i v,x = .ref p∧y = .int i∧SqL K H p xs∧atI xs i = some v∧Q v H
def rIxT (K:PySem.W.Frag):R2:=fun x y H Q=>∃ p xs i v,x = .ref p∧y = .int i∧SqT K H p xs∧atI xs i = some v∧Q v H
def rIxS:R2:=fun x y H Q=>∃ z i c,x = .str z∧y = .int i∧z.length≤sizeLine∧atI z.cps.toList i = some c∧Q (.str ⟨#[c]⟩) H
theorem ix_list:IxR X (rIxL X.K):=by
 intro value slice pins s σ H x y v u Q I rx ry h hs
 obtain ⟨p,xs,i,z,rfl,rfl,hq,he,q⟩:=h
 cases rx
 obtain ⟨t,rfl⟩:=ry
 obtain ⟨its,r,pl,hz⟩:=I.list hq
 obtain ⟨j,h1,h2,h3,h4,h5⟩:=atI_get he
 obtain ⟨w,ew,rw'⟩:=r.get h2
 have hl:=r.length
 have hn:=line63
 have fin:EP X pins σ Q w s:=⟨z,H,I,rw',q⟩
 by_cases h0:0≤i
 ·have hj:i.toNat = j:=by
   rw [seqIndex_of h0 h5] at h1
   exact Option.some.inj h1
  exact item_listR pl.isList h0 (by omega) (by rw [hj]; simpa using ew) fin hs
 ·have hj:(i + (its.toArray.size:Int)).toNat = j:=by
   rw [seqIndex_neg (by omega) h4] at h1
   rw [List.size_toArray,← hl]
   exact Option.some.inj h1
  exact subscriptTail_builtinR (x:=w) pl.isList.typeIs slot_list_getitem.lookup
   (wpAny_getItem_list_neg (Q:=fun r s'=>r = w∧EP X pins σ Q r s') pl.isList (by omega) (by rw [List.size_toArray] <;> omega) (by omega) (by rw [hj]; simpa using ew) ⟨rfl,fin⟩) hs
theorem ix_tup:IxR X (rIxT X.K):=by
 intro value slice pins s σ H x y v u Q I rx ry h hs
 obtain ⟨p,xs,i,z,rfl,rfl,hq,he,q⟩:=h
 cases rx
 obtain ⟨t,rfl⟩:=ry
 obtain ⟨its,r,pl,hz⟩:=I.tuple hq
 obtain ⟨j,h1,h2,h3,h4,h5⟩:=atI_get he
 obtain ⟨w,ew,rw'⟩:=r.get h2
 have hl:=r.length
 have hn:=line63
 have fin:EP X pins σ Q w s:=⟨z,H,I,rw',q⟩
 exact subscriptTail_builtinR (x:=w) pl.typeIs slot_tuple_getitem.lookup
  (getItem_tuple (j:=j) (Q:=fun r s'=>r = w∧EP X pins σ Q r s') pl (by omega) (by omega) (by rw [List.size_toArray,← hl]; exact h1) (by simpa using ew) ⟨rfl,fin⟩) hs
theorem ix_str:IxR X rIxS:=by
 intro value slice pins s σ H x y v u Q I rx ry h hs
 obtain ⟨z,i,c,rfl,rfl,hz,he,q⟩:=h
 obtain ⟨t,rfl⟩:=rx
 obtain ⟨t',rfl⟩:=ry
 obtain ⟨j,h1,h2,h3,h4,h5⟩:=atI_get he
 have hl:z.cps.toList.length = z.length:=by simp [Str.length]
 rw [hl] at h1 h4 h5
 have hn:=line63
 exact tail_any (typeIs_str s z t) slot_str_getitem.lookup (getItem_str (c:=c) (by
  have e1:decide (i < -(2 ^ 63:Int)) = false:=decide_eq_false (by omega)
  have e2:decide (i ≥ 2 ^ 63) = false:=decide_eq_false (by omega)
  rw [e1,e2,Bool.or_false]) (by rw [h1]; simpa using h2) ⟨.str ⟨#[c]⟩,H,I.tok _,⟨_,rfl⟩,q⟩) hs
def rIx (K:PySem.W.Frag):R2:=fun x y H Q=>rIxL K x y H Q∨rIxT K x y H Q∨rIxS x y H Q
theorem ix_seq:IxR X (rIx X.K):=ix_list.or (ix_tup.or ix_str)
theorem slice_bounds (lo hi:Option Int) (n:Nat):(sliceBounds lo hi none n).1 = ((HT.sIx n 0 lo:Nat):Int)∧(sliceBounds lo hi none n).2.1 = ((HT.sIx n n hi:Nat):Int)∧(sliceBounds lo hi none n).2.2 = 1:=by
 refine ⟨?_,?_,rfl⟩
 ·cases lo with
  | none=>simp [sliceBounds,HT.sIx]
  | some i =>
   simp only [sliceBounds,HT.sIx,Option.getD_none,show (1:Int) > 0 by decide,if_true]
   by_cases h:i < 0
   ·simp only [h,if_true] <;> omega
   ·simp only [h,if_false] <;> omega
 ·cases hi with
  | none=>simp [sliceBounds,HT.sIx]
  | some i =>
   simp only [sliceBounds,HT.sIx,Option.getD_none,show (1:Int) > 0 by decide,if_true]
   by_cases h:i < 0
   ·simp only [h,if_true] <;> omega
   ·simp only [h,if_false] <;> omega
theorem slicePick_cut (its:List Value) (lo hi:Option Int):slicePick its.toArray lo hi none = ((its.drop (HT.sIx its.length 0 lo)).take (HT.sIx its.length its.length hi - HT.sIx its.length 0 lo)).toArray:=by
 obtain ⟨h1,h2,h3⟩:=slice_bounds lo hi its.toArray.size
 unfold slicePick
 rw [h1,h2,h3]
 simp only [sliceRange_one,pick_run,List.size_toArray] <;> rfl
def rSlL (K:PySem.W.Frag):V→Option Int→Option Int→Hp→VK→Prop:=fun x lo hi H Q=>∃ a xs,x = .ref a∧SqL K H a xs∧∀ p,H p = none→Q (.ref p) (upd H p (.lst (cutV xs lo hi)))
theorem sl_list:SlR X (rSlL X.K):=by
 intro pins s σ H x v vl vu lo hi sl Q I rx hs pl pu h
 obtain ⟨a,xs,rfl,hx,q⟩:=h
 cases rx
 obtain ⟨its,r,ht,hz⟩:=I.list hx
 have hlen:=r.length
 refine ⟨"list",_,slot_list_getitem.lookup,ht.isList.typeIs,?_⟩
 refine wpAny_getItem_list_slice ht.isList hs pl pu .none (by simp) ?_ (by rw [List.size_toArray] <;> omega)
 rw [slicePick_cut,← hlen]
 refine ⟨.ref s.heap.objs.size,_,I.laid (t':=s.toks) (o:=.lst (cutV xs lo hi)) (fun b ob q=>Heap.get?_push_of_some _ q) (Nat.le_refl _) ?_,rfl,q _ (I.hok.fresh (Nat.le_refl _))⟩
 exact ⟨Nat.le_trans (cutV_length xs lo hi) hz,_,0,(r.drop (HT.sIx xs.length 0 lo)).take (HT.sIx xs.length xs.length hi - HT.sIx xs.length 0 lo),Heap.get?_push_size _ rfl⟩
theorem call_len_seq:CallR X (.builtin "len") (fun xs H Q=>∃ p ys,xs = [.ref p]∧(SqL X.K H p ys∨SqT X.K H p ys)∧Q (.int ys.length) H):=by
 intro pins s σ H xs us Q I r h
 obtain ⟨p,ys,rfl,hq,q⟩:=h
 obtain ⟨u,rfl,rx⟩:=vals1 r
 cases rx
 have hn:=line63
 rcases hq with hq | hq
 ·obtain ⟨its,r',pl,hz⟩:=I.list hq
  have hlen:=r'.length
  exact Calls.call_len_list pl.isList (by simp only [List.size_toArray] <;> omega) ⟨.int ys.length,H,I.tok _,⟨s.toks + 1,by rw [List.size_toArray,hlen]⟩,q⟩
 ·obtain ⟨its,r',pl,hz⟩:=I.tuple hq
  have hlen:=r'.length
  exact len_tuple pl (by simp only [List.size_toArray] <;> omega) ⟨.int ys.length,H,I.tok _,⟨s.toks + 1,by rw [List.size_toArray,hlen]⟩,q⟩
theorem call_list_of:CallR X (.type "list") (fun xs H Q=>∃ p ys,xs = [.ref p]∧(SqL X.K H p ys∨SqT X.K H p ys)∧∀ l,H l = none→Q (.ref l) (upd H l (.lst ys))):=by
 intro pins s σ H xs us Q I r h
 obtain ⟨p,ys,rfl,hq,q⟩:=h
 obtain ⟨u,rfl,rx⟩:=vals1 r
 cases rx
 have fin:∀ (its:List Value),Vals ys its→ys.length≤sizeLine→∀ (h':Heap) (c':Nat),(∀ b o',s.heap.get? b = some o'→h'.get? b = some o') →
   h'.get? s.heap.objs.size = some { cls:=.type "list",dict:=none,data:=.seq its.toArray c',slots:=#[] }→EP X pins σ Q (.ref s.heap.objs.size) { s with heap:=h' }:=fun its r' hz h' c' kp e =>
  ⟨.ref s.heap.objs.size,_,I.laid (t':=s.toks) kp (Nat.le_refl _) (show ObjOk X.prog X.w _ h' _ (.lst ys) from ⟨hz,its,c',r',e⟩),rfl,q _ (I.hok.fresh (Nat.le_refl _))⟩
 rcases hq with hq | hq
 ·obtain ⟨its,r',pl,hz⟩:=I.list hq
  have hlen:=r'.length
  obtain ⟨o,ho,hc,n,hd⟩:=pl.isList
  exact call_list_seq p (.inl rfl) ho hc hd (fun h' c' kp e=>fin its r' hz h' c' kp e) (by simp only [List.size_toArray] <;> omega)
 ·obtain ⟨its,r',pl,hz⟩:=I.tuple hq
  have hlen:=r'.length
  obtain ⟨o,ho,hc,n,hd⟩:=pl
  exact call_list_seq p (.inr rfl) ho hc hd (fun h' c' kp e=>fin its r' hz h' c' kp e) (by simp only [List.size_toArray] <;> omega)
def tyV (K:PySem.W.Frag) (T:String) (x:V) (H:Hp):Prop:=match x with
 | .str _=>T = "str"
 | .int _=>T = "int"
 | .ref p=>(T = "list"∧∃ xs,SqL K H p xs)∨(T = "tuple"∧∃ o,K.lookup p = some o∧o.cls = .type "tuple"∧o.dict = none) ∨
   (T = "dict"∧((∃ kvs,H p = some (.dK kvs))∨∃ kvs,H p = some (.dT kvs)))∨(T = "set"∧∃ S n,H p = some (.set S n))
 | _=>False
theorem tyV_is {pins:List (Addr × Obj)} {σ:St} {H:Hp} {s:Shared} {T:String} {x:V} {v:Value} (I:Inv X pins σ H s) (r:RelV x v) (ty:tyV X.K T x H) :
  s.TypeIs v T∧∀ a,v = .ref a→∃ ob,s.heap.get? a = some ob∧ob.dict = none:=by
 cases x with
 | str z =>
  obtain ⟨t,rfl⟩:=r
  cases (show T = "str" from ty)
  exact ⟨typeIs_str s z t,fun _ e=>nomatch e⟩
 | int i =>
  obtain ⟨t,rfl⟩:=r
  cases (show T = "int" from ty)
  exact ⟨typeIs_int s i t,fun _ e=>nomatch e⟩
 | ref p =>
  cases r
  rcases ty with ⟨rfl,xs,hq⟩ | ⟨rfl,o,hk,hc,hd⟩ | ⟨rfl,hk⟩ | ⟨rfl,S,n,hk⟩
  ·obtain ⟨its,_,pl,_⟩:=I.list hq
   refine ⟨pl.isList.typeIs,fun a e=>?_⟩
   cases e
   obtain ⟨o,n,e,c,hd,_⟩:=pl
   exact ⟨o,e,hd⟩
  ·refine ⟨⟨o,I.kIn p o hk,hc⟩,fun a e=>?_⟩
   cases e
   exact ⟨o,I.kIn _ o hk,hd⟩
  ·have z:∃ o,s.heap.get? p = some o∧o.ExactDict:=by
    rcases hk with ⟨kvs,hk⟩ | ⟨kvs,hk⟩
    ·obtain ⟨_,_,_,_,o,_,_,e,ex,_⟩:=I.hok p _ hk
     exact ⟨o,e,ex⟩
    ·obtain ⟨_,_,_,_,o,_,_,e,ex,_⟩:=I.hok p _ hk
     exact ⟨o,e,ex⟩
   obtain ⟨o,e,ex⟩:=z
   refine ⟨⟨o,e,ex.1⟩,fun a e2=>?_⟩
   cases e2
   exact ⟨o,e,ex.2.1⟩
  ·obtain ⟨o,_,_,_,e,ex,_⟩:=I.hok p _ hk
   refine ⟨⟨o,e,ex.1⟩,fun a e2=>?_⟩
   cases e2
   exact ⟨o,e,ex.2.1⟩
 | _=>exact False.elim ty
def tBM0 (K:PySem.W.Frag) (T:String) (r:V→List V→Hp→VK→Prop) (to:TE):TE:=fun σ H Q=>to σ H fun x H1=>tyV K T x H1∧r x [] H1 Q
def tBM (K:PySem.W.Frag) (T:String) (r:V→List V→Hp→VK→Prop) (to:TE) (t:TA):TE:=fun σ H Q=>to σ H fun x H1=>tyV K T x H1∧t σ H1 fun xs H2=>r x xs H2 Q
variable {o e:Expr} {es:List Expr} {to:TE} {t:TA} {name:Str} {apos cpos:Pos} {T id:String} {r:V→List V→Hp→VK→Prop}
theorem pe_bm0 (pa:PlainAttrs T) (slot:Slot T name id) (hty:typeOf (.builtin id) = pure (.type "method_descriptor")) (hm:MtR X id r) (ho:PE X o to)
  (hbase:attributeBase o name X.env (eval o X.env) = eval o X.env:=by rfl) (hline:(apos.endLine == cpos.line) = true:=by rfl):PE X (.Call (.Attribute o name apos) [] [] cpos) (tBM0 X.K T r to):=by
 intro pins s σ H Q I h
 refine wpAny_Call_method0_late hbase hline (thn (ho pins s σ H _ I h) fun v s1 ⟨x,H1,I1,r1,ty,q1⟩=>?_)
 obtain ⟨h1,h2⟩:=tyV_is I1 r1 ty
 exact ⟨T,id,pa,slot,hty,h1,h2,Calls.callWith_builtin rfl (PySem.evalArgs_none (hm pins s1 σ H1 x [] v [] Q I1 r1 .nil q1))⟩
theorem pe_bm (pa:PlainAttrs T) (slot:Slot T name id) (hty:typeOf (.builtin id) = pure (.type "method_descriptor")) (hm:MtR X id r) (ho:PE X o to) (ha:PA X (e::es) t)
  (hbase:attributeBase o name X.env (eval o X.env) = eval o X.env:=by rfl)
  (hfew:((backTo cpos (starEach (e::es) X.env)).all (fun x=>!x.1) && (backToKw cpos (keywordEach [] X.env)).all (fun x=>x.1.isSome)
   && decide ((e::es).length + ([]:List Keyword).length + (if ([]:List Keyword).isEmpty then 0 else 1) < 30)) = true:=by rfl)
  (hline:(apos.endLine == cpos.line) = true:=by rfl) (hs:starEach (e::es) X.env = (false,eval e X.env)::starEach es X.env:=by rfl) (hplain:(backTo cpos (starEach es X.env)).any (·.1) = false:=by rfl) :
  PE X (.Call (.Attribute o name apos) (e::es) [] cpos) (tBM X.K T r to t):=by
 intro pins s σ H Q I h
 refine wpAny_Call_method_late hbase hfew hline rfl (thn (ho pins s σ H _ I h) fun v s1 ⟨x,H1,I1,r1,ty,q1⟩=>?_)
 obtain ⟨h1,h2⟩:=tyV_is I1 r1 ty
 refine ⟨T,id,pa,slot,hty,h1,h2,?_⟩
 have hA:=ha cpos pins s1 σ H1 _ I1 q1
 rw [hs] at hA ⊢
 refine Calls.callWith_builtin (by show (false || (backTo cpos (starEach es X.env)).any (·.1)) = false; rw [hplain] <;> rfl) (Calls.evalArgs_plain ?_)
 exact thn hA fun us s2 ⟨vs,H2,I2,r2,q2⟩=>hm pins s2 σ H2 x vs v us Q I2 r1 r2 q2
end
end L2
namespace L2
open PySem PySem.Spec PyProof.Rows
def MtM (X:Cx) (id:String) (r:V→List V→Hp→VK→Prop):Prop :=
 ∀ (pins:List (Addr × Obj)) (s:Shared) (σ:St) (H:Hp) (x:V) (xs:List V) (v:Value) (us:List Value) (Q:VK),Inv X pins σ H s→RelV x v→Vals xs us→r x xs H Q →
  wpAny (model X.prog X.w) X.A (call (.builtin id) (v::us)) (EP X pins σ Q) X.xe s
theorem Vals.one:∀ {x:V} {us:List Value},Vals [x] us→∃ u,us = [u]∧RelV x u
 | _,_,.cons r .nil=>⟨_,rfl,r⟩
theorem Vals.zero:∀ {us:List Value},Vals [] us→us = []
 | _,.nil=>rfl
theorem Vals.dropLast {xs:List V} {us:List Value} (h:Vals xs us):Vals xs.dropLast us.dropLast:=by
 induction h with
 | nil=>exact .nil
 | cons r t ih =>
  cases t with
  | nil=>exact .nil
  | cons q t'=>exact .cons r ih
theorem erase_last {α:Type} (l:List α):l.eraseIdx (l.length - 1) = l.dropLast:=by
 induction l with
 | nil=>rfl
 | cons a r ih =>
  cases r with
  | nil=>rfl
  | cons b r =>
   have e:(a::b::r).length - 1 = ((b::r).length - 1) + 1:=by
    have h1:(a::b::r).length = r.length + 2:=rfl
    have h2:(b::r).length = r.length + 1:=rfl
    omega
   rw [e,List.eraseIdx_cons_succ,ih]
   all_goals rfl
section
variable {X:Cx} {pins:List (Addr × Obj)} {σ:St} {H:Hp} {s:Shared} {l b:Addr} {xs ys zs:List V}
theorem Inv.lset {its its':List Value} {n:Nat} {f:Array Value→Array Value} {t':Nat} (I:Inv X pins σ H s) (hH:H l = some (.lst xs))
  (e:s.heap.get? l = some { cls:=.type "list",data:=.seq its.toArray n }) (hf:f its.toArray = its'.toArray) (hv:Vals ys its') (hz:ys.length≤sizeLine) :
  Inv X pins σ (upd H l (.lst ys)) { s with heap:=s.heap.update l (Obj.mapSeq f),toks:=t' }:=by
 have q:=PySem.IsL.update e f
 rw [hf] at q
 refine I.write (x:=l) (e:=l) (by rw [hH]; exact trivial) (.inl rfl) (fun b' u hb hu=>(Heap.get?_update_other s.heap (Obj.mapSeq f) (Ne.symm hb)).trans hu) ⟨_,q⟩ ?_
 exact ⟨hz,its',_,hv,q⟩
theorem Inv.lnew {its:List Value} {t':Nat} (I:Inv X pins σ H s) (hv:Vals ys its) (hz:ys.length≤sizeLine) :
  Inv X pins σ (upd H s.heap.objs.size (.lst ys)) { s with heap:=s.heap.push { cls:=.type "list",data:=.seq its.toArray },toks:=t' } :=
 I.laid (fun _ _ q=>Heap.get?_push_of_some _ q) (Nat.le_refl _) ⟨hz,its,0,hv,Heap.get?_push_size _ rfl⟩
theorem Inv.fresh (I:Inv X pins σ H s):H s.heap.objs.size = none:=I.hok.fresh (Nat.le_refl _)
theorem Inv.lstM (I:Inv X pins σ H s) (hH:H l = some (.lst xs)):xs.length≤sizeLine∧∃ (its:List Value) (n:Nat),Vals xs its∧xs.length = its.length∧s.heap.get? l = some { cls:=.type "list",data:=.seq its.toArray n }:=by
 obtain ⟨z,its,n,r,e⟩:=I.hok l _ hH
 exact ⟨z,its,n,r,r.length,e⟩
end
section
variable {X:Cx}
def rAppend:V→List V→Hp→VK→Prop:=fun x vs H Q=>∃ l xs y,x = .ref l∧vs = [y]∧H l = some (.lst xs)∧xs.length < sizeLine∧Q .non (upd H l (.lst (xs++[y])))
theorem mt_append:MtM X "list.append" rAppend:=by
 intro pins s σ H x vs v us Q I rx rv h
 obtain ⟨l,xs,y,rfl,rfl,hH,hz,q⟩:=h
 cases rx
 obtain ⟨u,rfl,ru⟩:=rv.one
 obtain ⟨z,its,n,r,hl,e⟩:=I.lstM hH
 refine call_meets F.slot_list_append ⟨_,e,rfl⟩ F.entry_list_append (F.args_list_append_2 _ _) (PySem.list_append l its.toArray n u (by rw [List.size_toArray]; omega)) ⟨e,?_⟩
 refine ⟨.non,_,I.lset (its':=its++[u]) hH e (by simp) (r.append (.cons ru .nil)) ?_,rfl,q⟩
 rw [List.length_append,List.length_singleton]
 omega
def rPop:V→List V→Hp→VK→Prop:=fun x vs H Q=>∃ l xs y,x = .ref l∧vs = []∧H l = some (.lst xs)∧xs[xs.length - 1]? = some y∧Q y (upd H l (.lst xs.dropLast))
theorem mt_pop:MtM X "list.pop" rPop:=by
 intro pins s σ H x vs v us Q I rx rv h
 obtain ⟨l,xs,y,rfl,rfl,hH,hy,q⟩:=h
 cases rx
 have hus:=rv.zero
 subst hus
 obtain ⟨z,its,n,r,hl,e⟩:=I.lstM hH
 obtain ⟨u,hu,ru⟩:=r.get hy
 have hy':its.toArray[its.toArray.size - 1]? = some u:=by
  show its.toArray[its.length - 1]? = some u
  rw [← Array.getElem?_toList,← hl]
  exact hu
 refine call_meets F.slot_list_pop ⟨_,e,rfl⟩ F.entry_list_pop (F.args_list_pop_1 _) (MeetsSeq.list_pop_last l its.toArray n u hy' (by rw [List.size_toArray]; omega)) ⟨e,?_⟩
 refine ⟨y,_,I.lset (its':=its.dropLast) hH e ?_ r.dropLast ?_,ru,q⟩
 ·show its.toArray.eraseIdxIfInBounds (its.toArray.size - 1) = its.dropLast.toArray
  rw [List.size_toArray,List.eraseIdxIfInBounds_toArray,erase_last]
 ·rw [List.length_dropLast]
  omega
def rClear:V→List V→Hp→VK→Prop:=fun x vs H Q=>∃ l xs,x = .ref l∧vs = []∧H l = some (.lst xs)∧Q .non (upd H l (.lst []))
theorem mt_clear:MtM X "list.clear" rClear:=by
 intro pins s σ H x vs v us Q I rx rv h
 obtain ⟨l,xs,rfl,rfl,hH,q⟩:=h
 cases rx
 have hus:=rv.zero
 subst hus
 obtain ⟨z,its,n,r,hl,e⟩:=I.lstM hH
 refine call_meets F.slot_list_clear ⟨_,e,rfl⟩ F.entry_list_clear (F.args_list_clear_1 _) (AutoSeq1.list_clear_list_0 l its.toArray n (by rw [List.size_toArray]; omega)) ⟨e,?_⟩
 exact ⟨.non,_,I.lset (its':=[]) (ys:=[]) hH e rfl .nil (Nat.zero_le _),rfl,q⟩
def rCat:R2:=fun x y H Q=>∃ l b xs zs,x = .ref l∧y = .ref b∧H l = some (.lst xs)∧H b = some (.lst zs)∧xs.length + zs.length≤sizeLine∧∀ p,H p = none→Q (.ref p) (upd H p (.lst (xs++zs)))
theorem op_cat:OpR X (binaryOp .Add) rCat:=by
 intro pins s σ H x y v u Q I rx ry h
 obtain ⟨l,b,xs,zs,rfl,rfl,hH,hB,hz,q⟩:=h
 cases rx
 cases ry
 obtain ⟨z,its,n,r,hl,e⟩:=I.lstM hH
 obtain ⟨z2,its2,n2,r2,hl2,e2⟩:=I.lstM hB
 refine PySem.P.add_list e e2 ?_ (by rw [List.size_toArray,List.size_toArray]; omega)
 have ea:its.toArray++its2.toArray = (its++its2).toArray:=by simp
 rw [ea]
 exact ⟨.ref _,_,I.lnew (t':=s.toks) (r.append r2) (by rw [List.length_append]; omega),rfl,q _ I.fresh⟩
end
section
variable {prog:Program} {w:World} {A:Around} {E:Value→Shared→Prop} {s:Shared}
end
section
variable {X:Cx}
end
end L2
namespace L2
open PySem PySem.Spec PyProof.Rows
section
variable {κ:Type} [DecidableEq κ]
theorem RelO.isSome_eq {o:Option V} {u:Option Value} (r:RelO o u):o.isSome = u.isSome:=by
 cases o with
 | none=>cases u with
  | none=>rfl
  | some _=>exact (show False from r).elim
 | some _=>cases u with
  | none=>exact (show False from r).elim
  | some _=>rfl
end
section
variable {P:Program} {w:World} {H:Hp} {h:Heap} {a:Addr}
end
section
variable {X:Cx} {pins:List (Addr × Obj)} {σ:St} {H:Hp} {s:Shared} {a:Addr} {y v:V} {u r:Value} {o:Option V} {A:Around} {E:Value→Shared→Prop}
end
section
variable {X:Cx} {pins:List (Addr × Obj)} {σ:St} {H:Hp} {s:Shared} {a:Addr} {kvs:List (Key × V)} {k:Key} {u:Value} {A:Around} {E:Value→Shared→Prop}
end
section
variable {X:Cx} {o i e value:Expr} {pos pos' tpos:Pos} {td ty tv:TE}
end
section
variable {X:Cx} {pos:Pos}
end
structure M1 (X:Cx) (o:Expr) (m:Str) (apos:Pos) (e:Expr) (cpos:Pos):Prop where
 base:attributeBase o m X.env (eval o X.env) = eval o X.env
 few:((backTo cpos (starEach [e] X.env)).all (fun x=>!x.1) && (backToKw cpos (keywordEach [] X.env)).all (fun x=>x.1.isSome)
  && decide (([e]:List Expr).length + ([]:List Keyword).length + (if ([]:List Keyword).isEmpty then 0 else 1) < 30)) = true
 line:(apos.endLine == cpos.line) = true
 trees:backTo cpos (starEach [e] X.env) = [(false,eval e X.env)]
structure M2 (X:Cx) (o:Expr) (m:Str) (apos:Pos) (e f:Expr) (cpos:Pos):Prop where
 base:attributeBase o m X.env (eval o X.env) = eval o X.env
 few:((backTo cpos (starEach [e,f] X.env)).all (fun x=>!x.1) && (backToKw cpos (keywordEach [] X.env)).all (fun x=>x.1.isSome)
  && decide (([e,f]:List Expr).length + ([]:List Keyword).length + (if ([]:List Keyword).isEmpty then 0 else 1) < 30)) = true
 line:(apos.endLine == cpos.line) = true
 trees:backTo cpos (starEach [e,f] X.env) = [(false,eval e X.env),(false,eval f X.env)]
section
variable {X:Cx} {pins:List (Addr × Obj)} {σ:St} {H:Hp} {s:Shared} {a:Addr} {y d:V} {u r:Value} {o:Option V} {A:Around} {E:Value→Shared→Prop}
end
section
variable {X:Cx} {o e f:Expr} {apos cpos:Pos} {td ty tx:TE}
end
section
variable {X:Cx} {pins:List (Addr × Obj)} {σ:St} {H:Hp} {s:Shared} {a:Addr} {kvs:List (Key × V)} {A:Around} {E:Value→Shared→Prop}
end
section
variable {X:Cx} {pins:List (Addr × Obj)} {σ:St} {H:Hp} {s:Shared} {a:Addr} {y:V} {u:Value} {A:Around} {E:Value→Shared→Prop}
end
end L2
namespace Att
open PySem PySem.W PySem.Calls PyProof.Rows
theorem ints_of_wellAll {P:Params} {h:Heap}:∀ (ns:List Int) (vs:List Value),WellAll P h vs (ns.map WData.int)→IntsAre vs ns:=by
 intro ns
 induction ns with
 | nil =>
  intro vs w
  rw [List.map_nil] at w
  cases w
  exact .nil
 | cons n ns ih =>
  intro vs w
  rw [List.map_cons] at w
  cases w with
  | cons a b =>
   cases a
   exact .cons _ _ (ih _ b)
theorem script_of {l:OpenLaw} {n:Nat} (hn:l.most = some n) {P:Params} {h:Heap} {args:List WData} {vals:List Value}
  (hpre:l.row.toRowW.claim.pre args = true) (hwl:WellAll P h vals args) :
  ∃ a vs ns,vals = [Value.ref a]∧args = [WData.list (ns.map WData.int)]∧h.get? a = some { cls:=.type "list",data:=.seq vs.toArray }∧IntsAre vs ns∧ns.length≤n:=by
 have hsh:WShape.hasAll [] args [.list .int] = true:=(pre_splitW hpre).1
 have hc:l.pre.holds [] { args:=args } = true:=(pre_splitW hpre).2
 obtain ⟨d,r,rfl,h1,h2⟩:=hasAllW_cons hsh
 obtain rfl:=hasAllW_nil h2
 obtain ⟨xs,rfl,h3⟩:=hasW_list h1
 obtain ⟨ns,rfl⟩:=items_int h3
 have hlen:ns.length≤n:=by
  unfold OpenLaw.pre at hc
  have h4:(WTm.not (.lt (.lit (.int (n:Int))) (.len (.arg 0)))).holds [] { args:=[.list (ns.map .int)] } = true:=by
   have h4:=(holds_andW hc).1
   rw [hn] at h4
   exact h4
  have h5:=condW_of h4 (w_not (w_lt w_lit (w_len_list (w_arg rfl))))
  rw [List.length_map] at h5
  refine Nat.le_of_not_lt fun q=>?_
  have q':(n:Int) < ((ns.length:Nat):Int):=by omega
  first
   | (rw [decide_eq_true q'] at h5; exact absurd h5 (by decide))
   | (simp at h5; omega)
 cases hwl with
 | cons w1 w2 =>
  cases w2
  cases w1 with
  | list ho hall=>exact ⟨_,_,ns,rfl,rfl,ho,ints_of_wellAll ns _ hall,hlen⟩
theorem post_true (l:OpenLaw) (args:List WData):l.row.toRowW.claim.post args (.bool true) args = true :=
 postW_of (r:=l.row.toRowW) (X:=(true == true))
  (show WShape.has [] (.bool true) .bool = true by first | rfl | decide | simp [WShape.has,WShape.arms,WShape.armsAll])
  (show (WTm.eq .res (.lit (.bool true))).value [] { args:=args,res:=some (.bool true),after:=args } = some (.bool (true == true)) from w_eq_bool (w_res rfl) w_lit) rfl
theorem attach_call {l:OpenLaw} {n:Nat} {q:Program} {loose:List Str} {XP:(Str→Option Value)→Heap→Prop} {YP:World→Heap→Prop} {d:DefRec}
  (hn:l.most = some n) (hdf:d.params.defaults = [])
  (call:∀ (w:World) (s₀ s₁:Shared) (mg mb:Str→Option Value) (fa:Addr) (o:Obj) (pm cd doc:Value) (a:Addr) (vs:List Value) (ns:List Int),
   Ground q loose [] XP w s₀ mg mb s₁.heap→YP w s₁.heap →
   s₁.heap.get? fa = some o→o.data = .func (docDef d.name d.params d.body d.scope pm cd doc)→s₁.heap.CodeRec cd d.name→mg d.name = some (.ref fa) →
   s₁.heap.get? a = some { cls:=.type "list",data:=.seq vs.toArray }→IntsAre vs ns→ns.length≤n→s₁.gens = #[] →
   codeAny (model l.prog w) callerA (.call (.ref fa) ⟨[.ref a],[]⟩) (fun r s'=>r = .ok (.ret (.bool true))∧OldK s₁.heap s'.heap∧s'.os = s₁.os∧AllBare s'.gens) s₁) :
  WalkO q loose XP YP l.row.toRowW d [] (fun f vs=>PySem.call f vs):=by
 intro w s₀ s₁ mg mb G Y fa o pm cd doc dV kV ho hd hcd hD hmg hg args vals as hpre hlay hrd hwl hlo
 obtain rfl:dV = .none:=Dflts.none hD hdf
 obtain rfl:kV = .none:=Dflts.noKw hD
 obtain ⟨a,vs,ns,rfl,rfl,hobj,hints,hlen⟩:=script_of hn hpre hwl
 refine enter_call (codeAny_mono (call w s₀ s₁ mg mb fa o pm cd doc a vs ns G Y ho (fd_plain hd) hcd hmg hobj hints hlen hg) fun r s' hq=>?_)
 obtain ⟨rfl,h2,h3,h4⟩:=hq
 exact ⟨.inl ⟨.bool true,.bool true,[],rfl,fun _=>rfl,.bool true,post_true l _,fun _=>⟨List.Pairwise.nil,fun _ hm=>(nomatch hm)⟩⟩,h2,h3,h4⟩
section
variable {prog:Program} {w:World} {A:Around} {E:Value→Shared→Prop} {s:Shared} {K:Frag}
theorem make_obj {R:Result→Shared→Prop} {C fI:Addr} {rest:List Value} {kw:List (Str × Value)}
  (X:K.In s.heap) (hm:makesIn K C = true) (hi:findIn K (.ref C) "__init__" = some (some (.ref fI))) (hf:isFn K (.ref fI) = true)
  (h:codeAny (model prog w) (A.under (.builtin "type.__call__" ⟨.ref C::rest,kw⟩)) (.call (.ref fI) ⟨.ref (s.heap.objs.size + 1)::rest,kw⟩) (InitBack (s.heap.objs.size + 1) R)
   { s with heap:=(s.heap.push emptyDict).push (instObj C s.heap.objs.size) }):codeAny (model prog w) A (.call (.ref C) ⟨rest,kw⟩) R s:=by
 obtain ⟨hh,g,d,t,os⟩:=s
 exact make_core (makes_of X hm) (looks_findIn X hi) (fun self=>bind_fn X self (beq_iff_eq.mp hf)) (.inl rfl) h
theorem get_field {x C:Addr} {ox:Obj} {es:List DictEntry} {n:Nat} {name:Str} {expr:Bool} {v:Value} {Q:Value→Shared→Prop}
  (X:K.In s.heap) (I:PySem.W.InstAt s.heap x ox C (some (dictOf es n))) (hg:plainGet K C name = true) (hh:hasDictIn K C = true) (ha:findIn K (.ref C) name = some none)
  (hl:getL name es = some (some v)) (hv:handedIn v = true) (h:Q v { s with toks:=s.toks + 1 }):wpAny (model prog w) A (getAttr (.ref x) name expr) Q E s :=
 get_value X I (plainGet_of hg).1 (findObj_own hh ha rfl hl) hv h
end
end Att
namespace L2
open PySem PySem.Spec PyProof.Rows
theorem vals_ints:∀ {vs:List Value} {ns:List Int},IntsAre vs ns→Vals (ns.map V.int) vs
 | _,_,.nil=>.nil
 | _,_,.cons n t h=>.cons ⟨t,rfl⟩ (vals_ints h)
def Only (H:Hp):Prop:=∀ b,H b = none∨∃ o xs,H b = some (.frz o (.lst xs))
theorem law_call {P:Program} {w:World} {K:PySem.W.Frag} {mg mb:Str→Option Value} {CX:CXT} {k:Nat} {fa a:Addr} {fd:FuncData} {x:Str} {sp:Sp} {s₁:Shared} {vs:List Value} {ns:List Int}
  (KX:K.In s₁.heap) (hns:s₁.heap.Ns mainGlobals mg) (hb:s₁.heap.Ns builtinsNs mb) (hbb:∀ x:Str,x≠"__name__"→mb x = bootBuiltins x) (hlim:s₁.heap.NoLimit) (hg:s₁.gens = #[])
  (ha:s₁.heap.get? a = some { cls:=.type "list",data:=.seq vs.toArray }) (hi:IntsAre vs ns) (hl:ns.length≤sizeLine) (hr:Room k callerA)
  (F:∀ base:Heap,K.In base→base.Ns mainGlobals mg→FnOk P w K mg base CX k fa fd [x] sp) (hbind:∀ (s:Shared) (u:Value),BindsTo s fd ⟨[u],[]⟩ [(x,u)])
  (hsp:∀ H:Hp,Only H→SqL K H a (ns.map V.int)→sp [.ref a] H (fun v _=>v = .bl true) fun _ _ _=>False)
  (hCX:∀ H e s',CX [] H s₁ (fun _ _ _=>False) e s'→False) :
  codeAny (model P w) callerA (.call (.ref fa) ⟨[.ref a],[]⟩) (fun r s'=>r = .ok (.ret (.bool true))∧OldK s₁.heap s'.heap∧s'.os = s₁.os∧AllBare s'.gens) s₁:=by
 have rv:=vals_ints hi
 have lenV:=hi.length
 have core:∀ H:Hp,Only H→SqL K H a (ns.map V.int)→HOk P w H s₁.heap→(∀ b,H b≠none→b = a)→(H a≠none→K.lookup a = none) →
   codeAny (model P w) callerA (.call (.ref fa) ⟨[.ref a],[]⟩) (fun r s'=>r = .ok (.ret (.bool true))∧OldK s₁.heap s'.heap∧s'.os = s₁.os∧AllBare s'.gens) s₁:=by
  intro H hO hS hok hA hK
  have base_of:∀ {b:Addr} {o:Obj},s₁.heap.get? b = some o→H b = none→(hidT s₁.heap H).get? b = some o:=fun e n=>hidT_get e n
  have noA:∀ {b:Addr} {o:Obj} {es:Array DictEntry} {ep:Nat},s₁.heap.get? b = some o→o.data = .dict es ep→H b = none:=fun {b o es ep} e d=>by
   cases q:H b with
   | none=>rfl
   | some u =>
    have e':b = a:=hA b (by rw [q]; simp)
    subst e'
    rw [ha] at e; cases e
    have d':Data.seq vs.toArray _ = Data.dict es ep:=d
    cases d'
  have nsK:∀ {b:Addr} {m:Str→Option Value},s₁.heap.Ns b m→(hidT s₁.heap H).Ns b m:=fun {b m} ⟨o,es,ep,e,d,r⟩=>⟨o,es,ep,base_of e (noA e d),d,r⟩
  have hKb:K.In (hidT s₁.heap H):=fun b o e=>base_of (KX b o e) (by
   cases q:H b with
   | none=>rfl
   | some u =>
    have e':b = a:=hA b (by rw [q]; simp)
    subst e'
    rw [hK (by rw [q]; simp)] at e; cases e)
  have hM:Mod K mg (hidT s₁.heap H):=⟨hKb,nsK hns,⟨mb,nsK hb,hbb⟩,let ⟨mc,h1,h2⟩:=hlim; ⟨mc,nsK h1,h2⟩⟩
  have e0:Env0 P w K mg (hidT s₁.heap H) callerA [] s₁ H:=⟨rfl,hM,fun b o e=>of_hidT e,Nat.le_of_eq (hidT_size _ _),trivial,fun b hb=>absurd (show b∈([]:List Addr) from hb) (by simp),hok,.of_eq hg⟩
  refine codeAny_mono ((F _ hKb (nsK hns)).run callerA [] s₁ H ⟨[.ref a],[]⟩ [.ref a] [.ref a] _ _ hr e0 (hbind s₁ (.ref a)) (.cons rfl .nil) (hsp H hO hS)) fun r s' h=>?_
  cases r with
  | error e=>exact (hCX H e s' h).elim
  | ok fl =>
   cases fl with
   | next=>exact False.elim h
   | brk=>exact False.elim h
   | cont=>exact False.elim h
   | ret u =>
    obtain ⟨v,H',os,bare,un,hok',r',q⟩:=h
    have q':v = .bl true:=q
    subst q'
    obtain rfl:u = Value.bool true:=r'
    refine ⟨rfl,OldK.of_keep fun b o e=>?_,os,bare⟩
    cases q:H b with
    | none=>exact un.keep b o e q (by intro z; exact absurd (show b∈([]:List Addr) from z) (by simp)) (by simp)
    | some u =>
     rcases hO b with z | ⟨ob,xs,z⟩
     ·rw [q] at z; cases z
     ·have z2:=un.frzs b ob _ z
      obtain ⟨e1,_⟩:=hok b _ z
      obtain ⟨e2,_⟩:=hok' b _ z2
      rw [e] at e1; cases e1
      exact e2
 cases hk:K.lookup a with
 | some o =>
  have e:=KX a o hk
  rw [ha] at e
  cases e
  refine core (fun _=>none) (fun _=>.inl rfl) (.inr ⟨_,vs.toArray,_,hk,rfl,rfl,rfl,by rw [List.size_toArray,lenV]; exact hl,by simpa using rv⟩) (fun b u z=>by have z':(none:Option HO) = some u:=z; cases z') (fun b z=>absurd rfl z) fun z=>absurd rfl z
 | none =>
  refine core (fun b=>if b = a then some (.frz { cls:=.type "list",data:=.seq vs.toArray } (.lst (ns.map V.int))) else none) (fun b=>?_) (.inl (.inr ⟨{ cls:=.type "list",data:=.seq vs.toArray },if_pos rfl⟩)) (fun b u z=>?_) (fun b z=>?_) fun _=>hk
  ·by_cases hb:b = a
   ·exact .inr ⟨_,_,if_pos hb⟩
   ·exact .inl (if_neg hb)
  ·by_cases hb:b = a
   ·have z':=(if_pos hb).symm.trans z
    cases z'
    subst hb
    exact ⟨ha,by rw [List.length_map]; exact hl,vs,_,rv,ha⟩
   ·have z':=(if_neg hb).symm.trans z
    cases z'
  ·by_cases hb:b = a
   ·exact hb
   ·exact absurd (if_neg hb) z
end L2
namespace L2
open PySem PySem.Spec PyProof.Rows
theorem walk_of {l:PySem.W.OpenLaw} {n k:Nat} {q:Program} {loose:List Str} {XP:(Str→Option Value)→Heap→Prop} {YP:World→Heap→Prop} {d:DefRec} {K:Params→PySem.W.Frag} {CX:World→CXT} {sp:World→Sp} {x:Str}
  (hn:l.most = some n) (hn2:n≤sizeLine) (hdf:d.params.defaults = []) (hr:Room k callerA)
  (hY:∀ (w:World) (h:Heap),YP w h→(K w.params).In h)
  (F:∀ (w:World) (mg:Str→Option Value) (fa:Addr) (h:Heap),(K w.params).In h→h.Ns mainGlobals mg→mg d.name = some (.ref fa) →
   ∃ fd:FuncData,(∀ (s:Shared) (u:Value),BindsTo s fd ⟨[u],[]⟩ [(x,u)]) ∧
    ∀ base:Heap,(K w.params).In base→base.Ns mainGlobals mg→FnOk l.prog w (K w.params) mg base (CX w) k fa fd [x] (sp w))
  (hsp:∀ (w:World) (H:Hp) (a:Addr) (ns:List Int),ns.length≤n→Only H→SqL (K w.params) H a (ns.map V.int)→sp w [.ref a] H (fun v _=>v = .bl true) fun _ _ _=>False)
  (hCX:∀ (w:World) (H:Hp) (s:Shared) (e:Value) (s':Shared),CX w [] H s (fun _ _ _=>False) e s'→False) :
  PySem.W.WalkO q loose XP YP l.row.toRowW d [] (fun f vs=>PySem.call f vs):=by
 refine Att.attach_call hn hdf fun w s₀ s₁ mg mb fa o pm cd doc a vs ns G Y ho hd hcd hmg hobj hints hlen hg=>?_
 have KX:=hY w _ Y
 obtain ⟨fd,hb,hF⟩:=F w mg fa _ KX G.T.g hmg
 exact law_call KX G.T.g G.T.b G.T.builtins G.T.nolimit hg hobj hints (Nat.le_trans hlen hn2) hr hF hb (fun H hO hS=>hsp w H a ns hlen hO hS) fun H e s'=>hCX w H s₁ e s'
end L2
namespace L2
open PySem PySem.Spec PyProof.Rows
def defArgs (s:Stmt):Arguments:=match s with
 | .FunctionDef _ a _ _ _ _ _ _ _ _=>a
 | _=>{ posonlyargs:=[],args:=[],vararg:=none,kwonlyargs:=[],kw_defaults:=[],kwarg:=none,defaults:=[] }
def defBody (s:Stmt):List Stmt:=match s with
 | .FunctionDef _ _ b _ _ _ _ _ _ _=>b
 | _=>[]
def defScope (s:Stmt):Scope:=match s with
 | .FunctionDef _ _ _ _ _ _ sc _ _ _=>sc
 | _=>{ kind:=.function,names:=[],isGenerator:=false,isCoroutine:=false }
structure Fun (K:PySem.W.Frag) (x qual:Str) (st:Stmt) (f:Addr) (fd:FuncData):Prop where
 ex:∃ (oc:Value) (od:Option Addr) (kV doc pm:Value) (an:Option Addr) (cdv ct:Value) (osl:Array (Option Value)),
  fd = PySem.W.fnOf x qual (defArgs st) (defBody st) (defScope st) .none kV doc pm an cdv ct∧K.lookup f = some ⟨oc,od,.func fd,osl⟩∧PySem.W.codeIn K cdv qual = true
 kp:PySem.W.keepIn K (.ref f) = true
section
variable {P:Program} {w:World} {K:PySem.W.Frag} {mg:Str→Option Value} {base:Heap}
theorem Fun.binds {x qual:Str} {st:Stmt} {f:Addr} {fd:FuncData} {ps:List Str} (F:Fun K x qual st f fd)
  (h:∀ (kV doc pm:Value) (an:Option Addr) (cdv ct:Value) (us:List Value),us.length = ps.length→bindArgs (PySem.W.fnOf x qual (defArgs st) (defBody st) (defScope st) .none kV doc pm an cdv ct) ⟨us,[]⟩ = pure (ps.zip us)):Binds K fd ps []:=by
 obtain ⟨oc,od,kV,doc,pm,an,cdv,ct,osl,rfl,lk,hcd⟩:=F.ex
 exact .all (h kV doc pm an cdv ct)
theorem fun_mk {x qual:Str} {st:Stmt} {f:Addr} {oc:Value} {od an:Option Addr} {osl:Array (Option Value)} {kV doc pm cdv ct:Value} (l:K.lookup f = some ⟨oc,od,.func (PySem.W.fnOf x qual (defArgs st) (defBody st) (defScope st) .none kV doc pm an cdv ct),osl⟩)
  (c:PySem.W.codeIn K cdv qual = true) (k:PySem.W.keepIn K (.ref f) = true):Fun K x qual st f (PySem.W.fnOf x qual (defArgs st) (defBody st) (defScope st) .none kV doc pm an cdv ct):=⟨⟨oc,od,kV,doc,pm,an,cdv,ct,osl,rfl,l,c⟩,k⟩
end
section
variable {X:Cx}
end
def Same (H H':Hp):Prop:=∀ b o,H b = some o→H' b = some o
theorem Same.refl (H:Hp):Same H H:=fun _ _ h=>h
theorem Same.trans {H H1 H2:Hp} (a:Same H H1) (b:Same H1 H2):Same H H2:=fun c o h=>b c o (a c o h)
theorem Same.free {H H':Hp} (e:Same H H') {l:Addr} (h:H' l = Option.none):H l = Option.none:=by
 cases q:H l with
 | none=>rfl
 | some o =>
  rw [e l o q] at h
  cases h
theorem Same.seq {K:PySem.W.Frag} {H H':Hp} {a:Addr} {xs:List V} (e:Same H H') (h:SqL K H a xs):SqL K H' a xs:=by
 rcases h with (h | ⟨o,h⟩) | h
 ·exact .inl (.inl (e _ _ h))
 ·exact .inl (.inr ⟨o,e _ _ h⟩)
 ·exact .inr h
end L2
namespace L2
open PySem PySem.Spec PyProof.Rows
section
variable {X:Cx}
end
section
variable {κ:Type} [DecidableEq κ]
end
end L2
namespace G
open PySem PySem.Spec PyProof.Rows L2
inductive PV where
 | non | bl (b:Bool) | int (i:Int) | str (x:Str) | tup (xs:List PV) | lst (xs:List PV) | dic | scr (ns:List Int) | exc (c:Str) | ob (c:Str) (ns:List Str) (ps:List PV)
instance:Inhabited PV:=⟨.non⟩
inductive Res (α:Type) where
 | ok (a:α) | err (c:Str) | stuck
def Res.bind {α β:Type} (r:Res α) (f:α→Res β):Res β:=match r with
 | .ok a=>f a
 | .err c=>.err c
 | .stuck=>.stuck
theorem Res.bind_ok {α β:Type} (a:α) (f:α→Res β):(Res.ok a).bind f = f a:=rfl
theorem Res.bind_err {α β:Type} (c:Str) (f:α→Res β):(Res.err c:Res α).bind f = .err c:=rfl
theorem Res.bind_stuck {α β:Type} (f:α→Res β):(Res.stuck:Res α).bind f = .stuck:=rfl
def excφ (a:Addr) (C:Addr):Heap→Prop:=fun h=>∃ o vs,h.get? a = some o∧o.cls = .ref C∧o.data = .fields vs
def ClsIs (K:PySem.W.Frag) (c:Str) (C:Addr):Prop:=PySem.W.nsIn K mainGlobals c = some (some (.ref C))
mutual
inductive Rep (K:PySem.W.Frag) (H:Hp):V→PV→Prop where
 | non:Rep K H .non .non
 | bl (b:Bool):Rep K H (.bl b) (.bl b)
 | int (i:Int):Rep K H (.int i) (.int i)
 | str (x:Str):Rep K H (.str x) (.str x)
 | tup {a:Addr} {xs:List V} {ps:List PV}:SqT K H a xs→Reps K H xs ps→Rep K H (.ref a) (.tup ps)
 | lst {a:Addr} {xs:List V} {ps:List PV}:H a = some (.lst xs)→Reps K H xs ps→Rep K H (.ref a) (.lst ps)
 | scr {a:Addr} {ns:List Int}:SqL K H a (ns.map V.int)→Rep K H (.ref a) (.scr ns)
 | dic {a:Addr} {kvs:List (Key × V)}:H a = some (.dK kvs)→Rep K H (.ref a) .dic
 | exc {a C:Addr} {c:Str}:H a = some (.ext (excφ a C))→ClsIs K c C→Rep K H (.ref a) (.exc c)
 | ob {a C dx:Addr} {c:Str} {fs:List (Str × V)} {ns:List Str} {vs:List V} {ps:List PV}:H a = some (.ins C dx fs)→ClsIs K c C→fs = ns.zip vs→ns.length = vs.length→Reps K H vs ps→Rep K H (.ref a) (.ob c ns ps)
inductive Reps (K:PySem.W.Frag) (H:Hp):List V→List PV→Prop where
 | nil:Reps K H [] []
 | cons {v:V} {p:PV} {vs:List V} {ps:List PV}:Rep K H v p→Reps K H vs ps→Reps K H (v::vs) (p::ps)
end
section
variable {K:PySem.W.Frag} {H H':Hp}
theorem same_seqT {a:Addr} {xs:List V} (e:Same H H') (h:SqT K H a xs):SqT K H' a xs:=by
 rcases h with (h | ⟨o,h⟩) | h
 ·exact .inl (.inl (e _ _ h))
 ·exact .inl (.inr ⟨o,e _ _ h⟩)
 ·exact .inr h
mutual
theorem Rep.mono (e:Same H H'):∀ {v:V} {p:PV},Rep K H v p→Rep K H' v p
 | _,_,.non=>.non
 | _,_,.bl b=>.bl b
 | _,_,.int i=>.int i
 | _,_,.str x=>.str x
 | _,_,.tup h r=>.tup (same_seqT e h) (Reps.mono e r)
 | _,_,.lst h r=>.lst (e _ _ h) (Reps.mono e r)
 | _,_,.scr h=>.scr (e.seq h)
 | _,_,.dic h=>.dic (e _ _ h)
 | _,_,.exc h c=>.exc (e _ _ h) c
 | _,_,.ob h c z l r=>.ob (e _ _ h) c z l (Reps.mono e r)
theorem Reps.mono (e:Same H H'):∀ {vs:List V} {ps:List PV},Reps K H vs ps→Reps K H' vs ps
 | _,_,.nil=>.nil
 | _,_,.cons r t=>.cons (Rep.mono e r) (Reps.mono e t)
end
theorem Reps.length:∀ {vs:List V} {ps:List PV},Reps K H vs ps→vs.length = ps.length
 | _,_,.nil=>rfl
 | _,_,.cons _ t=>by rw [List.length_cons,List.length_cons,Reps.length t]
theorem Reps.get:∀ {vs:List V} {ps:List PV} {i:Nat} {p:PV},Reps K H vs ps→ps[i]? = some p→∃ v,vs[i]? = some v∧Rep K H v p
 | _,_,_,_,.nil,e=>by simp at e
 | _,_,0,_,.cons r _,e=>by simp at e; subst e; exact ⟨_,rfl,r⟩
 | _,_,i + 1,p,.cons _ t,e=>by
  obtain ⟨v,h1,h2⟩:=Reps.get (i:=i) (p:=p) t (by simpa using e)
  exact ⟨v,by simpa using h1,h2⟩
theorem Reps.append:∀ {vs ws:List V} {ps qs:List PV},Reps K H vs ps→Reps K H ws qs→Reps K H (vs++ws) (ps++qs)
 | _,_,_,_,.nil,s=>s
 | _,_,_,_,.cons r t,s=>.cons r (Reps.append t s)
theorem Reps.take:∀ {vs:List V} {ps:List PV} (n:Nat),Reps K H vs ps→Reps K H (vs.take n) (ps.take n)
 | _,_,0,_=>.nil
 | _,_,_ + 1,.nil=>.nil
 | _,_,n + 1,.cons r t=>.cons r (Reps.take n t)
theorem Reps.drop:∀ {vs:List V} {ps:List PV} (n:Nat),Reps K H vs ps→Reps K H (vs.drop n) (ps.drop n)
 | _,_,0,r=>r
 | _,_,_ + 1,.nil=>.nil
 | _,_,n + 1,.cons _ t=>Reps.drop n t
theorem Reps.reverse:∀ {vs:List V} {ps:List PV},Reps K H vs ps→Reps K H vs.reverse ps.reverse
 | _,_,.nil=>.nil
 | _,_,.cons r t=>by
  rw [List.reverse_cons,List.reverse_cons]
  exact Reps.append (Reps.reverse t) (.cons r .nil)
theorem Reps.ints:∀ (ns:List Int),Reps K H (ns.map V.int) (ns.map PV.int)
 | []=>.nil
 | n::r=>.cons (.int n) (Reps.ints r)
theorem Rep.int_inv {v:V} {i:Int} (r:Rep K H v (.int i)):v = .int i:=by cases r; rfl
theorem Rep.bl_inv {v:V} {b:Bool} (r:Rep K H v (.bl b)):v = .bl b:=by cases r; rfl
theorem Rep.tup_inv {v:V} {ps:List PV} (r:Rep K H v (.tup ps)):∃ a xs,v = .ref a∧SqT K H a xs∧Reps K H xs ps:=by
 cases r with
 | tup h t=>exact ⟨_,_,rfl,h,t⟩
theorem Rep.scr_inv {v:V} {ns:List Int} (r:Rep K H v (.scr ns)):∃ a,v = .ref a∧SqL K H a (ns.map V.int):=by
 cases r with
 | scr h=>exact ⟨_,rfl,h⟩
theorem Rep.lst_inv {v:V} {ps:List PV} (r:Rep K H v (.lst ps)):∃ a xs,v = .ref a∧H a = some (.lst xs)∧Reps K H xs ps:=by
 cases r with
 | lst h t=>exact ⟨_,_,rfl,h,t⟩
theorem Reps.nil_inv {vs:List V} (r:Reps K H vs []):vs = []:=by cases r; rfl
theorem Reps.cons_inv {vs:List V} {p:PV} {ps:List PV} (r:Reps K H vs (p::ps)):∃ v ws,vs = v::ws∧Rep K H v p∧Reps K H ws ps:=by
 cases r with
 | cons a b=>exact ⟨_,_,rfl,a,b⟩
end
structure Grow (Hs H Hs' H':Hp):Prop where
 s:Same Hs Hs'
 i:Same Hs' H'
 h:Same H H'
 o:∀ x,H x≠none→Hs x = none→Hs' x = none
theorem Grow.refl {Hs H:Hp} (i:Same Hs H):Grow Hs H Hs H:=⟨Same.refl _,i,Same.refl _,fun _ _ h=>h⟩
theorem Grow.trans {Hs H Hs1 H1 Hs2 H2:Hp} (a:Grow Hs H Hs1 H1) (b:Grow Hs1 H1 Hs2 H2):Grow Hs H Hs2 H2 :=
 ⟨a.s.trans b.s,b.i,a.h.trans b.h,fun x h n=>b.o x (by
  cases e:H x with
  | none=>exact absurd e h
  | some o=>rw [a.h x o e]; exact fun z=>nomatch z) (a.o x h n)⟩
theorem same_upd {H:Hp} {p:Addr} {o:HO} (h:H p = none):Same H (upd H p o):=fun b u q=>by rw [upd_ne (ne_of_none q h)]; exact q
theorem same_upd2 {Hs H:Hp} {p:Addr} {o:HO} (i:Same Hs H):Same (upd Hs p o) (upd H p o):=fun b u q=>by
 by_cases e:b = p
 ·subst e; rw [upd_same] at q ⊢; exact q
 ·rw [upd_ne e] at q ⊢; exact i b u q
theorem Grow.new {Hs H:Hp} {p:Addr} {o:HO} (i:Same Hs H) (h:H p = none):Grow Hs H (upd Hs p o) (upd H p o) :=
 ⟨same_upd (i.free h),same_upd2 i,same_upd h,fun x hx hn=>by rw [upd_ne (fun e=>hx (by rw [e]; exact h))]; exact hn⟩
theorem Grow.newOwn {Hs H:Hp} {p:Addr} {o:HO} (i:Same Hs H) (h:H p = none):Grow Hs H Hs (upd H p o) :=
 ⟨Same.refl _,i.trans (same_upd h),same_upd h,fun _ _ hn=>hn⟩
def Ret (K:PySem.W.Frag) (Hs H:Hp) (r:Res PV) (EO:Str→Prop) (Q:VK):Prop:=match r with
 | .ok p=>∀ v Hs' H',Grow Hs H Hs' H'→Rep K Hs' v p→Q v H'
 | .err c=>EO c
 | .stuck=>False
theorem Ret.grow {K:PySem.W.Frag} {Hs H Hs1 H1:Hp} {r:Res PV} {EO:Str→Prop} {Q:VK} (h:Ret K Hs H r EO Q) (g:Grow Hs H Hs1 H1):Ret K Hs1 H1 r EO Q:=by
 cases r with
 | ok p=>exact fun v Hs' H' g' r=>h v Hs' H' (g.trans g') r
 | err c=>exact h
 | stuck=>exact h
theorem Ret.bind {K:PySem.W.Frag} {Hs H:Hp} {r:Res PV} {f:PV→Res PV} {EO:Str→Prop} {Q:VK} (h:Ret K Hs H (r.bind f) EO Q) :
  Ret K Hs H r EO fun v H1=>∃ Hs1 p,Grow Hs H Hs1 H1∧Rep K Hs1 v p∧Ret K Hs1 H1 (f p) EO Q:=by
 cases r with
 | ok p=>exact fun v Hs' H' g r=>⟨Hs',p,g,r,Ret.grow (r:=f p) h g⟩
 | err c=>exact h
 | stuck=>exact h
theorem Ret.mono {K:PySem.W.Frag} {Hs H:Hp} {r:Res PV} {EO:Str→Prop} {Q Q':VK} (h:Ret K Hs H r EO Q) (m:∀ v H',Q v H'→Q' v H'):Ret K Hs H r EO Q':=by
 cases r with
 | ok p=>exact fun v Hs' H' g r=>m _ _ (h v Hs' H' g r)
 | err c=>exact h
 | stuck=>exact h
def Rets (K:PySem.W.Frag) (Hs H:Hp) (r:Res (List PV)) (EO:Str→Prop) (Q:List V→Hp→Prop):Prop:=match r with
 | .ok ps=>∀ vs Hs' H',Grow Hs H Hs' H'→Reps K Hs' vs ps→Q vs H'
 | .err c=>EO c
 | .stuck=>False
def RetB (Hs H:Hp) (r:Res Bool) (EO:Str→Prop) (Q:Bool→Hp→Prop):Prop:=match r with
 | .ok b=>∀ Hs' H',Grow Hs H Hs' H'→Q b H'
 | .err c=>EO c
 | .stuck=>False
theorem RetB.grow {Hs H Hs1 H1:Hp} {r:Res Bool} {EO:Str→Prop} {Q:Bool→Hp→Prop} (h:RetB Hs H r EO Q) (g:Grow Hs H Hs1 H1):RetB Hs1 H1 r EO Q:=by
 cases r with
 | ok p=>exact fun Hs' H' g'=>h Hs' H' (g.trans g')
 | err c=>exact h
 | stuck=>exact h
theorem RetB.bind {Hs H:Hp} {r:Res Bool} {f:Bool→Res Bool} {EO:Str→Prop} {Q:Bool→Hp→Prop} (h:RetB Hs H (r.bind f) EO Q) :
  RetB Hs H r EO fun b H1=>∃ Hs1,Grow Hs H Hs1 H1∧RetB Hs1 H1 (f b) EO Q:=by
 cases r with
 | ok p=>exact fun Hs' H' g=>⟨Hs',g,RetB.grow (r:=f p) h g⟩
 | err c=>exact h
 | stuck=>exact h
inductive SV where
 | sh (p:PV) | own (xs:List PV)
abbrev PSt:=List (Option SV)
inductive Fl where
 | next (σ:PSt) | brk (σ:PSt) | cont (σ:PSt) | ret (p:PV)
abbrev DE:=PSt→Res PV
abbrev DA:=PSt→Res (List PV)
abbrev DT:=PSt→Res Bool
abbrev DS:=PSt→Res Fl
def SlotR (K:PySem.W.Frag) (H0 Hs H:Hp) (v:V):SV→Prop
 | .sh p=>Rep K Hs v p
 | .own xs=>∃ a vs,v = .ref a∧H a = some (.lst vs)∧Hs a = none∧H0 a = none∧Reps K Hs vs xs
structure SR (K:PySem.W.Frag) (H0 Hs0 Hs H:Hp) (σ:PSt) (τ:L2.St):Prop where
 g:Grow Hs0 H0 Hs H
 slot:∀ (i:Nat) (sv:SV),σ[i]? = some (some sv)→∃ v,τ[i]? = some (some v)∧SlotR K H0 Hs H v sv
 inj:∀ (i j:Nat) (xs ys:List PV) (a:Addr),i≠j→σ[i]? = some (some (.own xs))→σ[j]? = some (some (.own ys))→τ[i]? = some (some (.ref a))→τ[j]?≠some (some (.ref a))
 len:σ.length = τ.length
theorem SlotR.grow {K:PySem.W.Frag} {H0 Hs H Hs' H':Hp} {v:V} {sv:SV} (h:SlotR K H0 Hs H v sv) (g:Grow Hs H Hs' H'):SlotR K H0 Hs' H' v sv:=by
 cases sv with
 | sh p=>exact Rep.mono g.s h
 | own xs =>
  obtain ⟨a,vs,e,h1,h2,h3,h4⟩:=h
  exact ⟨a,vs,e,g.h _ _ h1,g.o a (by rw [h1]; exact fun z=>nomatch z) h2,h3,h4.mono g.s⟩
theorem SR.grow {K:PySem.W.Frag} {H0 Hs0 Hs H Hs' H':Hp} {σ:PSt} {τ:L2.St} (h:SR K H0 Hs0 Hs H σ τ) (g:Grow Hs H Hs' H'):SR K H0 Hs0 Hs' H' σ τ :=
 ⟨h.g.trans g,fun i sv e=>let ⟨v,e1,r⟩:=h.slot i sv e; ⟨v,e1,r.grow g⟩,h.inj,h.len⟩
structure UnX (l:List Env) (H H1:Hp) (h B h':Heap):Prop where
 keep:∀ b o,h.get? b = some o→H b = none→b ∉ frs l→B.get? b = some o
 slot:∀ b o,h.get? b = some o→H b = none→b∈frs l→∃ sl,h'.get? b = some { o with slots:=sl }
 free:∀ b o,h.get? b = some o→H b = none→H1 b = none
 there:∀ b o,h.get? b = some o→H b≠none→∃ o',B.get? b = some o'
 tups:∀ b xs,H b = some (.tup xs)→H1 b = some (.tup xs)
 frzs:∀ b o u,H b = some (.frz o u)→H1 b = some (.frz o u)
 tbls:∀ b ps,H b = some (.tbl ps)→∃ more,H1 b = some (.tbl (ps++more))
def CXG (P:Program) (w:World):CXT:=fun l H s E e s'=>∃ (ea C:Addr) (B:Heap) (a0:Value) (H1:Hp),e = .ref ea∧s'.os = s.os∧AllBare s'.gens∧Heap.FlyingW B l ea (.ref C) a0 s'.heap∧UnX l H H1 s.heap B s'.heap∧HOk P w H1 B∧E (.ref C) none H1
def Threw (X:Cx) (H0 Hs0:Hp) (c:Str) (e:Value) (s':Shared):Prop :=
 ∃ (pins:List (Addr × Obj)) (τ:L2.St) (H:Hp) (s:Shared),Inv X pins τ H s ∧
  ((∃ (ea C:Addr) (vs:List Value) (h':Heap) (Hs:Hp),e = .ref ea∧ClsIs X.K c C∧Grow Hs0 H0 Hs H∧Heap.MadeExcOf s.heap h' ea (.ref C) vs∧s' = { s with heap:=h' }) ∨
   CXG X.prog X.w X.stack H s (fun cls _ H1=>∃ (C:Addr) (Hs1:Hp),cls = .ref C∧ClsIs X.K c C∧Grow Hs0 H0 Hs1 H1) e s')
def ErrOk (X:Cx) (H0 Hs0:Hp) (c:Str):Prop:=∀ (e:Value) (s':Shared),Threw X H0 Hs0 c e s'→X.xe e s'
section
variable (X:Cx) (H0 Hs0:Hp)
def RE (d:DE):TE:=fun τ H Q=>∃ Hs σ,SR X.K H0 Hs0 Hs H σ τ∧Ret X.K Hs H (d σ) (ErrOk X H0 Hs0) Q
def RA (d:DA):TA:=fun τ H Q=>∃ Hs σ,SR X.K H0 Hs0 Hs H σ τ∧Rets X.K Hs H (d σ) (ErrOk X H0 Hs0) Q
def RT (d:DT):TT:=fun τ H Q=>∃ Hs σ,SR X.K H0 Hs0 Hs H σ τ∧RetB Hs H (d σ) (ErrOk X H0 Hs0) Q
def EndR (D:Ends) (Hs H:Hp):Res Fl→Prop
 | .ok (.next σ')=>∀ Hs' H' τ',Same Hs Hs'→SR X.K H0 Hs0 Hs' H' σ' τ'→D.nx τ' H'
 | .ok (.brk σ')=>∀ Hs' H' τ',Same Hs Hs'→SR X.K H0 Hs0 Hs' H' σ' τ'→D.bk τ' H'
 | .ok (.cont σ')=>∀ Hs' H' τ',Same Hs Hs'→SR X.K H0 Hs0 Hs' H' σ' τ'→D.ct τ' H'
 | .ok (.ret p)=>∀ v Hs' H',Grow Hs0 H0 Hs' H'→Rep X.K Hs' v p→D.rt v H'
 | .err c=>ErrOk X H0 Hs0 c
 | .stuck=>False
def RS (d:DS):TS:=fun D τ H=>∃ Hs σ,SR X.K H0 Hs0 Hs H σ τ∧EndR X H0 Hs0 D Hs H (d σ)
def QE (e:Expr) (d:DE):Prop:=PE X e (RE X H0 Hs0 d)
def QA (es:List Expr) (d:DA):Prop:=PA X es (RA X H0 Hs0 d)
def QT (e:Expr) (d:DT):Prop:=PT X e (RT X H0 Hs0 d)
def QW (e:Expr) (d:DT):Prop:=PW X e (RT X H0 Hs0 d)
def QS (s:Stmt) (d:DS):Prop:=PS X s (RS X H0 Hs0 d)
def QSs (s:List Stmt) (d:DS):Prop:=PSs X s (RS X H0 Hs0 d)
end
theorem PE.imp {X:Cx} {e:Expr} {t t':TE} (h:PE X e t) (m:∀ τ H Q,t' τ H Q→t τ H Q):PE X e t':=fun pins s σ H Q I q=>h pins s σ H Q I (m _ _ _ q)
theorem PA.imp {X:Cx} {e:List Expr} {t t':TA} (h:PA X e t) (m:∀ τ H Q,t' τ H Q→t τ H Q):PA X e t':=fun pos pins s σ H Q I q=>h pos pins s σ H Q I (m _ _ _ q)
theorem PT.imp {X:Cx} {e:Expr} {t t':TT} (h:PT X e t) (m:∀ τ H Q,t' τ H Q→t τ H Q):PT X e t':=fun pins s σ H Q I q=>h pins s σ H Q I (m _ _ _ q)
theorem PW.imp {X:Cx} {e:Expr} {t t':TT} (h:PW X e t) (m:∀ τ H Q,t' τ H Q→t τ H Q):PW X e t':=fun wh pins s σ H Q I q=>h wh pins s σ H Q I (m _ _ _ q)
theorem PS.imp {X:Cx} {e:Stmt} {t t':TS} (h:PS X e t) (m:∀ D τ H,t' D τ H→t D τ H):PS X e t':=fun pins s σ H D I q=>h pins s σ H D I (m _ _ _ q)
theorem PSs.imp {X:Cx} {e:List Stmt} {t t':TS} (h:PSs X e t) (m:∀ D τ H,t' D τ H→t D τ H):PSs X e t':=fun pins s σ H D I q=>h pins s σ H D I (m _ _ _ q)
theorem QS.stuck {X:Cx} {H0 Hs0:Hp} {e:Stmt}:QS X H0 Hs0 e (fun _=>.stuck):=fun pins s σ H D I ⟨_,_,_,h⟩=>h.elim
def eVar (i:Nat):DE:=fun σ=>match σ[i]? with
 | some (some (.sh p))=>.ok p
 | _=>.stuck
def eC (p:PV):DE:=fun _=>.ok p
section
variable {X:Cx} {H0 Hs0:Hp}
theorem q_var {i:Nat} {x:Str} {pos:Pos} (hN:X.N[i]? = some x) (hv:Vis X.env.scope x) (hd:(x == ("__debug__":Str)) = false) (hcd:(x == ("__classdict__":Str)) = false):QE X H0 Hs0 (.Name x pos) (eVar i):=by
 refine PE.imp (pe_var hN hv hd hcd) fun τ H Q ⟨Hs,σ,S,h⟩=>?_
 unfold eVar at h
 split at h
 ·rename_i p e
  obtain ⟨v,e1,r⟩:=S.slot i _ e
  exact ⟨v,e1,h v Hs H (.refl S.g.i) r⟩
 ·exact h.elim
theorem q_int {i j pos}:QE X H0 Hs0 (.Constant (.int i) j pos) (eC (.int i)):=PE.imp pe_int fun τ H Q ⟨Hs,σ,S,h⟩=>h _ Hs H (.refl S.g.i) (.int i)
theorem q_bl {b j pos}:QE X H0 Hs0 (.Constant (.bool b) j pos) (eC (.bl b)):=PE.imp pe_bl fun τ H Q ⟨Hs,σ,S,h⟩=>h _ Hs H (.refl S.g.i) (.bl b)
theorem q_non {j pos}:QE X H0 Hs0 (.Constant .none j pos) (eC .non):=PE.imp pe_non fun τ H Q ⟨Hs,σ,S,h⟩=>h _ Hs H (.refl S.g.i) .non
def OpP (X:Cx) (f:Value→Value→Sem Value) (g:PV→PV→Res PV):Prop :=
 ∀ (EO:Str→Prop),OpR X f fun x y H Q=>∃ Hs p q,Same Hs H∧Rep X.K Hs x p∧Rep X.K Hs y q∧Ret X.K Hs H (g p q) EO Q
def e2 (g:PV→PV→Res PV) (a b:DE):DE:=fun σ=>(a σ).bind fun p=>(b σ).bind fun q=>g p q
variable {a b:Expr} {da db:DE} {pos:Pos}
theorem two {g:PV→PV→Res PV} {τ:L2.St} {H:Hp} {Q:VK} (h:RE X H0 Hs0 (e2 g da db) τ H Q) :
  RE X H0 Hs0 da τ H fun x H1=>RE X H0 Hs0 db τ H1 fun y H2=>∃ Hs p q,Same Hs H2∧Rep X.K Hs x p∧Rep X.K Hs y q∧Ret X.K Hs H2 (g p q) (ErrOk X H0 Hs0) Q:=by
 obtain ⟨Hs,σ,S,h⟩:=h
 refine ⟨Hs,σ,S,Ret.mono (Ret.bind h) fun x H1 ⟨Hs1,p,g1,r1,h1⟩=>?_⟩
 exact ⟨Hs1,σ,S.grow g1,Ret.mono (Ret.bind h1) fun y H2 ⟨Hs2,q,g2,r2,h2⟩=>⟨Hs2,p,q,g2.i,r1.mono g2.s,r2,h2⟩⟩
theorem q_op {op:Operator} {g:PV→PV→Res PV} (ho:OpP X (binaryOp op) g) (ha:QE X H0 Hs0 a da) (hb:QE X H0 Hs0 b db):QE X H0 Hs0 (.BinOp a op b pos) (e2 g da db) :=
 PE.imp (pe_op (ho (ErrOk X H0 Hs0)) ha hb) fun τ H Q h=>two h
theorem q_cmp {op:CmpOp} {g:PV→PV→Res PV} (ho:OpP X (compareOp op) g) (ha:QE X H0 Hs0 a da) (hb:QE X H0 Hs0 b db) (hm:behindInMarks op b = false):QE X H0 Hs0 (.Compare a [op] [b] pos) (e2 g da db) :=
 PE.imp (pe_cmpR (ho (ErrOk X H0 Hs0)) ha hb hm) fun τ H Q h=>two h
end
end G
namespace G
open PySem PySem.Spec PyProof.Rows L2
open Builtin.Int (intBits)
instance (i j:Int):Decidable (IntMulOk i j):=by unfold IntMulOk; infer_instance
def pAdd:PV→PV→Res PV
 | .int i,.int j=>.ok (.int (i + j))
 | .lst xs,.lst ys=>if xs.length + ys.length≤10000000 then .ok (.lst (xs++ys)) else .stuck
 | _,_=>.stuck
def pSub:PV→PV→Res PV
 | .int i,.int j=>.ok (.int (i - j))
 | _,_=>.stuck
def pMul:PV→PV→Res PV
 | .int i,.int j=>if IntMulOk i j then .ok (.int (i * j)) else .stuck
 | _,_=>.stuck
def pFdiv:PV→PV→Res PV
 | .int i,.int j=>if j≠0∧intBits j≤9000 then .ok (.int (i.fdiv j)) else .stuck
 | _,_=>.stuck
def pMod:PV→PV→Res PV
 | .int i,.int j=>if j≠0 then .ok (.int (i.fmod j)) else .stuck
 | _,_=>.stuck
def pPow:PV→PV→Res PV
 | .int i,.int j=>if 0≤j∧j≤1000000∧i.natAbs < 2 ^ 64 then .ok (.int (i ^ j.toNat)) else .stuck
 | _,_=>.stuck
section
variable {X:Cx}
theorem ret_int {K:PySem.W.Frag} {Hs H:Hp} {i:Int} {EO:Str→Prop} {Q:VK} (h:Ret K Hs H (.ok (.int i)) EO Q) (s:Same Hs H):Q (.int i) H:=h _ Hs H (.refl s) (.int i)
theorem ret_bl {K:PySem.W.Frag} {Hs H:Hp} {i:Bool} {EO:Str→Prop} {Q:VK} (h:Ret K Hs H (.ok (.bl i)) EO Q) (s:Same Hs H):Q (.bl i) H:=h _ Hs H (.refl s) (.bl i)
theorem log2_of_bits {j:Int} (h:intBits j≤9000):j.natAbs.log2 < 9000:=by
 unfold intBits at h
 split at h
 ·rename_i e
  have e':j = 0:=by simpa using e
  subst e'
  decide +kernel
 ·omega
theorem opp_add:OpP X (binaryOp .Add) pAdd:=by
 intro EO pins s σ H x y v u Q I rx ry h
 obtain ⟨Hs,p,q,i,rp,rq,h⟩:=h
 unfold pAdd at h
 split at h
 ·cases rp.int_inv; cases rq.int_inv
  exact op_add pins s σ H _ _ v u Q I rx ry ⟨_,_,rfl,rfl,ret_int h i⟩
 ·split at h
  ·rename_i xs ys hl
   obtain ⟨a,vs,rfl,ha,ra⟩:=rp.lst_inv
   obtain ⟨b,ws,rfl,hb,rb⟩:=rq.lst_inv
   have l1:=ra.length; have l2:=rb.length
   exact op_cat pins s σ H _ _ v u Q I rx ry ⟨a,b,vs,ws,rfl,rfl,i _ _ ha,i _ _ hb,by rw [sizeLine_eq]; omega,fun p hp=>h _ _ _ (.new i hp) (.lst upd_same (Reps.mono (same_upd (i.free hp)) (ra.append rb)))⟩
  ·exact h.elim
 ·exact h.elim
theorem opp_sub:OpP X (binaryOp .Sub) pSub:=by
 intro EO pins s σ H x y v u Q I rx ry h
 obtain ⟨Hs,p,q,i,rp,rq,h⟩:=h
 unfold pSub at h
 split at h
 ·cases rp.int_inv; cases rq.int_inv
  exact op_sub pins s σ H _ _ v u Q I rx ry ⟨_,_,rfl,rfl,ret_int h i⟩
 ·exact h.elim
theorem opp_mul:OpP X (binaryOp .Mult) pMul:=by
 intro EO pins s σ H x y v u Q I rx ry h
 obtain ⟨Hs,p,q,i,rp,rq,h⟩:=h
 unfold pMul at h
 split at h
 ·cases rp.int_inv; cases rq.int_inv
  split at h
  ·rename_i hm
   exact (opI (X:=X) (C:=fun i j=>IntMulOk i j) (g:=fun i j=>i * j) fun _ _ _ _ _ _ _ hc q=>mul_int q hc) pins s σ H _ _ v u Q I rx ry ⟨_,_,rfl,rfl,hm,ret_int h i⟩
  ·exact h.elim
 ·exact h.elim
theorem opp_fdiv:OpP X (binaryOp .FloorDiv) pFdiv:=by
 intro EO pins s σ H x y v u Q I rx ry h
 obtain ⟨Hs,p,q,i,rp,rq,h⟩:=h
 unfold pFdiv at h
 split at h
 ·cases rp.int_inv; cases rq.int_inv
  split at h
  ·rename_i hm
   exact (opI (X:=X) (C:=fun i j=>j≠0∧intBits j≤9000) (g:=fun i j=>i.fdiv j) fun _ _ _ _ _ _ _ hc q=>floordiv_int hc.1 q (.inl (PyProof.noPylong_of_log2 (log2_of_bits hc.2)))) pins s σ H _ _ v u Q I rx ry ⟨_,_,rfl,rfl,hm,ret_int h i⟩
  ·exact h.elim
 ·exact h.elim
theorem opp_mod:OpP X (binaryOp .Mod) pMod:=by
 intro EO pins s σ H x y v u Q I rx ry h
 obtain ⟨Hs,p,q,i,rp,rq,h⟩:=h
 unfold pMod at h
 split at h
 ·cases rp.int_inv; cases rq.int_inv
  split at h
  ·rename_i hm
   exact op_modN pins s σ H _ _ v u Q I rx ry ⟨_,_,rfl,rfl,hm,ret_int h i⟩
  ·exact h.elim
 ·exact h.elim
theorem opp_pow:OpP X (binaryOp .Pow) pPow:=by
 intro EO pins s σ H x y v u Q I rx ry h
 obtain ⟨Hs,p,q,i,rp,rq,h⟩:=h
 unfold pPow at h
 split at h
 ·cases rp.int_inv; cases rq.int_inv
  split at h
  ·rename_i hm
   exact op_pow pins s σ H _ _ v u Q I rx ry ⟨_,_,rfl,rfl,hm,ret_int h i⟩
  ·exact h.elim
 ·exact h.elim
def pNeg:PV→Res PV
 | .int i=>.ok (.int (-i))
 | _=>.stuck
end
end G
namespace G
open PySem PySem.Spec PyProof.Rows L2
open PySem.SeqAt
mutual
def peq:PV→PV→Bool
 | .non,.non=>true
 | .bl a,.bl b=>a == b
 | .int a,.int b=>a == b
 | .bl a,.int b=>(if a then 1 else 0) == b
 | .int a,.bl b=>a == (if b then 1 else 0)
 | .str a,.str b=>a == b
 | .tup xs,.tup ys=>peqs xs ys
 | .lst xs,.lst ys=>peqs xs ys
 | _,_=>false
def peqs:List PV→List PV→Bool
 | [],[]=>true
 | x::xs,y::ys=>peq x y && peqs xs ys
 | _,_=>false
end
def eqOk:Nat→PV→Bool
 | 0,_=>false
 | n + 1,.tup xs=>xs.all (eqOk n)
 | n + 1,.lst xs=>xs.all (eqOk n)
 | _ + 1,.dic=>false
 | _ + 1,.exc _=>false
 | _ + 1,.ob _ _ _=>false
 | _ + 1,.scr _=>false
 | _ + 1,_=>true
theorem all_range_succ (n:Nat) (e:Nat→Bool):(List.range (n + 1)).all e = (e 0 && (List.range n).all fun j=>e (j + 1)):=by
 rw [List.range_succ_eq_map,List.all_cons,List.all_map]; rfl
theorem peqs_range:∀ (ps qs:List PV),peqs ps qs = ((List.range (min ps.length qs.length)).all (fun j=>peq (ps.getD j .non) (qs.getD j .non)) && (ps.length == qs.length))
 | [],[]=>by simp [peqs]
 | [],q::qs=>by simp [peqs]
 | p::ps,[]=>by simp [peqs]
 | p::ps,q::qs=>by
  have h:=peqs_range ps qs
  show (peq p q && peqs ps qs) = _
  rw [h,List.length_cons,List.length_cons,Nat.succ_min_succ,all_range_succ]
  simp [Bool.and_assoc]
theorem peqs_len {ps qs:List PV} (h:ps.length≠qs.length):peqs ps qs = false:=by
 rw [peqs_range]
 have:(ps.length == qs.length) = false:=by simpa using h
 rw [this,Bool.and_false]
section
variable {X:Cx} {pins:List (Addr × Obj)} {τ:L2.St} {H:Hp} {s:Shared}
theorem lst_is (I:Inv X pins τ H s) {a:Addr} {xs:List V} (h:H a = some (.lst xs)):∃ its:List Value,Vals xs its∧s.heap.IsList a its.toArray:=by
 obtain ⟨z,its,n,r,_,e⟩:=I.lstM h
 exact ⟨its,r,⟨_,e,rfl,n,rfl⟩⟩
theorem tup_is (I:Inv X pins τ H s) {a:Addr} {xs:List V} (h:SqT X.K H a xs):∃ its:List Value,Vals xs its∧s.heap.IsTuple a its.toArray:=by
 obtain ⟨its,r,p,z⟩:=I.tuple h
 exact ⟨its,r,p⟩
theorem lst_not_tup (I:Inv X pins τ H s) {a:Addr} {xs ys:List V} (h:H a = some (.lst xs)) (h':SqT X.K H a ys):False:=by
 obtain ⟨its,r,o,e,c,_⟩:=lst_is I h
 obtain ⟨its',r',o',e',c',_⟩:=tup_is I h'
 rw [e] at e'; cases e'
 rw [c] at c'
 injection c' with z
 exact absurd z (by decide)
theorem rep_same (I:Inv X pins τ H s):∀ (n:Nat) (p q:PV) (x:V),eqOk n p = true→eqOk n q = true→Rep X.K H x p→Rep X.K H x q→peq p q = true:=by
 intro n
 induction n with
 | zero=>intro p q x h; cases h
 | succ n ih =>
  have lists:∀ (xs:List V) (ps qs:List PV),ps.all (eqOk n) = true→qs.all (eqOk n) = true→Reps X.K H xs ps→Reps X.K H xs qs→peqs ps qs = true:=by
   intro xs
   induction xs with
   | nil=>intro ps qs _ _ r r'; cases r; cases r'; rfl
   | cons x xs ihx =>
    intro ps qs h h' r r'
    cases r with
    | cons r t =>
     cases r' with
     | cons r' t' =>
      rw [List.all_cons,Bool.and_eq_true] at h h'
      show (peq _ _ && peqs _ _) = true
      rw [ih _ _ _ h.1 h'.1 r r',ihx _ _ h.2 h'.2 t t']; rfl
  intro p q x h h' r r'
  cases r with
  | non=>cases r'; rfl
  | bl b=>cases r'; simp [peq]
  | int i=>cases r'; simp [peq]
  | str y=>cases r'; simp [peq]
  | tup e t =>
   cases r' with
   | tup e' t' =>
    have z:=I.tuple_inj e e'
    subst z
    exact lists _ _ _ h h' t t'
   | lst e' t'=>exact (lst_not_tup I e' e).elim
   | scr _=>cases h'
   | dic _=>cases h'
   | exc _ _=>cases h'
   | ob _ _ _ _ _=>cases h'
  | lst e t =>
   cases r' with
   | lst e' t' =>
    rw [e] at e'; cases e'
    exact lists _ _ _ h h' t t'
   | tup e' t'=>exact (lst_not_tup I e e').elim
   | scr _=>cases h'
   | dic _=>cases h'
   | exc _ _=>cases h'
   | ob _ _ _ _ _=>cases h'
  | scr _=>cases h
  | dic _=>cases h
  | exc _ _=>cases h
  | ob _ _ _ _ _=>cases h
theorem getD_of {ps:List PV} {xs:List V} {its:List Value} (r:Reps X.K H xs ps) (rv:Vals xs its) {j:Nat} (h:j < its.toArray.size) :
  ∃ v,RelV v its.toArray[j]∧Rep X.K H v (ps.getD j .non)∧ps.getD j .non∈ps:=by
 have l1:=r.length; have l2:=rv.length
 simp only [List.size_toArray] at h
 have hp:ps[j]? = some ps[j]:=List.getElem?_eq_getElem (by omega)
 obtain ⟨v,hv,rp⟩:=r.get hp
 obtain ⟨u,hu,ru⟩:=rv.get hv
 have e:its.toArray[j] = u:=by
  simp only [List.getElem_toArray]
  rw [List.getElem?_eq_getElem h] at hu
  exact Option.some.inj hu
 refine ⟨v,by rw [e]; exact ru,?_,?_⟩
 ·rw [List.getD_eq_getElem?_getD,hp]; exact rp
 ·rw [List.getD_eq_getElem?_getD,hp]; exact List.getElem_mem _
set_option maxHeartbeats 4000000 in
theorem deep (I:Inv X pins τ H s):∀ (n:Nat),(∀ (A:Around) (p q:PV) (x y:V) (v u:Value),A.units + n < cLine→eqOk n p = true→eqOk n q = true→Rep X.K H x p→Rep X.K H y q→RelV x v→RelV y u →
  RcAt A s v u (peq p q)∧RcNeAt A s v u (!peq p q)∧EqAt A s v u (peq p q)):=by
 intro n
 induction n with
 | zero=>intro A p q x y v u _ h; cases h
 | succ n ih =>
  have items:∀ (A:Around) {xs ys:List V} {ps qs:List PV} {its jts:List Value},A.units + (n + 1) < cLine→ps.all (eqOk n) = true→qs.all (eqOk n) = true→Reps X.K H xs ps→Reps X.K H ys qs→Vals xs its→Vals ys jts →
    ∀ j (h1:j < its.toArray.size) (h2:j < jts.toArray.size),EqAt A.in1 s its.toArray[j] jts.toArray[j] (peq (ps.getD j .non) (qs.getD j .non)):=by
   intro A xs ys ps qs its jts hu h h' r r' rv rv' j h1 h2
   obtain ⟨v1,a1,b1,c1⟩:=getD_of r rv h1
   obtain ⟨v2,a2,b2,c2⟩:=getD_of r' rv' h2
   exact (ih A.in1 _ _ v1 v2 _ _ (by show A.units + 1 + n < cLine; omega) (List.all_eq_true.mp h _ c1) (List.all_eq_true.mp h' _ c2) b1 b2 a1 a2).2.2
  intro A p q x y v u hu hp hq rp rq rx ry
  have hu':A.units < cLine:=by omega
  have sc:∀ {b:Bool},RcAt A s v u b∧RcNeAt A s v u (!b)∧EqAt A s v u b→b = peq p q→RcAt A s v u (peq p q)∧RcNeAt A s v u (!peq p q)∧EqAt A s v u (peq p q):=fun h e=>e ▸ h
  cases rp with
  | dic _=>cases hp
  | exc _ _=>cases hp
  | ob _ _ _ _ _=>cases hp
  | scr _=>cases hp
  | non =>
   cases rx
   cases rq with
   | dic _=>cases hq
   | exc _ _=>cases hq
   | ob _ _ _ _ _=>cases hq
   | scr _=>cases hq
   | non=>cases ry; exact sc ⟨RcAt.none_none,RcNeAt.none_none,EqAt.same _⟩ rfl
   | bl b=>cases ry; exact sc ⟨RcAt.none_bool _,RcNeAt.none_bool _,EqAt.none_bool _⟩ rfl
   | int i=>obtain ⟨t,rfl⟩:=ry; exact sc ⟨RcAt.none_int _ _,RcNeAt.none_int _ _,EqAt.none_int _ _⟩ rfl
   | str z=>obtain ⟨t,rfl⟩:=ry; exact sc ⟨RcAt.none_str _ _,RcNeAt.none_str _ _,EqAt.none_str _ _⟩ rfl
   | tup e t=>cases ry; obtain ⟨its,rv,hl⟩:=tup_is I e; exact sc ⟨RcAt.none_tuple hl hu',RcNeAt.none_tuple hl hu',EqAt.none_tuple hl hu'⟩ rfl
   | lst e t=>cases ry; obtain ⟨its,rv,hl⟩:=lst_is I e; exact sc ⟨RcAt.none_list hl hu',RcNeAt.none_list hl hu',EqAt.none_list hl hu'⟩ rfl
  | bl a =>
   cases rx
   cases rq with
   | dic _=>cases hq
   | exc _ _=>cases hq
   | ob _ _ _ _ _=>cases hq
   | scr _=>cases hq
   | non=>cases ry; exact sc ⟨RcAt.bool_none _,RcNeAt.bool_none _,EqAt.bool_none _⟩ rfl
   | bl b=>cases ry; exact sc ⟨RcAt.bool_bool _ _,RcNeAt.bool_bool _ _,EqAt.bool_bool _ _⟩ (by simp [peq])
   | int i=>obtain ⟨t,rfl⟩:=ry; exact sc ⟨RcAt.bool_int _ _ _,RcNeAt.bool_int _ _ _,EqAt.bool_int _ _ _⟩ (by simp [peq])
   | str z=>obtain ⟨t,rfl⟩:=ry; exact sc ⟨RcAt.bool_str _ _ _,RcNeAt.bool_str _ _ _,EqAt.bool_str _ _ _⟩ rfl
   | tup e t=>cases ry; obtain ⟨its,rv,hl⟩:=tup_is I e; exact sc ⟨RcAt.bool_tuple _ hl hu',RcNeAt.bool_tuple _ hl hu',EqAt.bool_tuple _ hl hu'⟩ rfl
   | lst e t=>cases ry; obtain ⟨its,rv,hl⟩:=lst_is I e; exact sc ⟨RcAt.bool_list _ hl hu',RcNeAt.bool_list _ hl hu',EqAt.bool_list _ hl hu'⟩ rfl
  | int a =>
   obtain ⟨tt,rfl⟩:=rx
   cases rq with
   | dic _=>cases hq
   | exc _ _=>cases hq
   | ob _ _ _ _ _=>cases hq
   | scr _=>cases hq
   | non=>cases ry; exact sc ⟨RcAt.int_none _ _,RcNeAt.int_none _ _,EqAt.int_none _ _⟩ rfl
   | bl b=>cases ry; exact sc ⟨RcAt.int_bool _ _ _,RcNeAt.int_bool _ _ _,EqAt.int_bool _ _ _⟩ (by simp [peq])
   | int i=>obtain ⟨t,rfl⟩:=ry; exact sc ⟨RcAt.int_int _ _ _ _,RcNeAt.int_int _ _ _ _,EqAt.int_int _ _ _ _⟩ (by simp [peq])
   | str z=>obtain ⟨t,rfl⟩:=ry; exact sc ⟨RcAt.int_str _ _ _ _,RcNeAt.int_str _ _ _ _,EqAt.int_str _ _ _ _⟩ rfl
   | tup e t=>cases ry; obtain ⟨its,rv,hl⟩:=tup_is I e; exact sc ⟨RcAt.int_tuple _ _ hl hu',RcNeAt.int_tuple _ _ hl hu',EqAt.int_tuple _ _ hl hu'⟩ rfl
   | lst e t=>cases ry; obtain ⟨its,rv,hl⟩:=lst_is I e; exact sc ⟨RcAt.int_list _ _ hl hu',RcNeAt.int_list _ _ hl hu',EqAt.int_list _ _ hl hu'⟩ rfl
  | str a =>
   obtain ⟨tt,rfl⟩:=rx
   cases rq with
   | dic _=>cases hq
   | exc _ _=>cases hq
   | ob _ _ _ _ _=>cases hq
   | scr _=>cases hq
   | non=>cases ry; exact sc ⟨RcAt.str_none _ _,RcNeAt.str_none _ _,EqAt.str_none _ _⟩ rfl
   | bl b=>cases ry; exact sc ⟨RcAt.str_bool _ _ _,RcNeAt.str_bool _ _ _,EqAt.str_bool _ _ _⟩ rfl
   | int i=>obtain ⟨t,rfl⟩:=ry; exact sc ⟨RcAt.str_int _ _ _ _,RcNeAt.str_int _ _ _ _,EqAt.str_int _ _ _ _⟩ rfl
   | str z=>obtain ⟨t,rfl⟩:=ry; exact sc ⟨RcAt.str_str _ _ _ _,RcNeAt.str_str _ _ _ _,EqAt.str_str _ _ _ _⟩ (by simp [peq])
   | tup e t=>cases ry; obtain ⟨its,rv,hl⟩:=tup_is I e; exact sc ⟨RcAt.str_tuple _ _ hl hu',RcNeAt.str_tuple _ _ hl hu',EqAt.str_tuple _ _ hl hu'⟩ rfl
   | lst e t=>cases ry; obtain ⟨its,rv,hl⟩:=lst_is I e; exact sc ⟨RcAt.str_list _ _ hl hu',RcNeAt.str_list _ _ hl hu',EqAt.str_list _ _ hl hu'⟩ rfl
  | @tup a xs ps e t =>
   cases rx
   obtain ⟨its,rv,hl⟩:=tup_is I e
   cases rq with
   | dic _=>cases hq
   | exc _ _=>cases hq
   | ob _ _ _ _ _=>cases hq
   | scr _=>cases hq
   | non=>cases ry; exact sc ⟨RcAt.tuple_none hl hu',RcNeAt.tuple_none hl hu',EqAt.tuple_none hl hu'⟩ rfl
   | bl b=>cases ry; exact sc ⟨RcAt.tuple_bool _ hl hu',RcNeAt.tuple_bool _ hl hu',EqAt.tuple_bool _ hl hu'⟩ rfl
   | int i=>obtain ⟨t,rfl⟩:=ry; exact sc ⟨RcAt.tuple_int _ _ hl hu',RcNeAt.tuple_int _ _ hl hu',EqAt.tuple_int _ _ hl hu'⟩ rfl
   | str z=>obtain ⟨t,rfl⟩:=ry; exact sc ⟨RcAt.tuple_str _ _ hl hu',RcNeAt.tuple_str _ _ hl hu',EqAt.tuple_str _ _ hl hu'⟩ rfl
   | lst e' t'=>cases ry; obtain ⟨jts,rw',hl'⟩:=lst_is I e'; exact sc ⟨RcAt.tuple_list hl hl' hu',RcNeAt.tuple_list hl hl' hu',EqAt.tuple_list hl hl' hu'⟩ rfl
   | @tup b ys qs e' t' =>
    cases ry
    obtain ⟨jts,rw',hl'⟩:=tup_is I e'
    have it:=items A (by omega) hp hq t t' rv rw'
    have n1:its.toArray.size = ps.length:=by rw [List.size_toArray,← rv.length,t.length]
    have n2:jts.toArray.size = qs.length:=by rw [List.size_toArray,← rw'.length,t'.length]
    have h1:=RcAt.tuples hl hl' hu' it
    have h2:=RcNeAt.tuples hl hl' hu' it
    rw [n1,n2,← peqs_range] at h1 h2
    refine ⟨h1,h2,?_⟩
    by_cases hab:a = b
    ·subst hab
     have z:=rep_same I (n + 1) _ _ _ hp hq (.tup e t) (.tup e' t')
     rw [z]; exact EqAt.same _
    ·exact EqAt.of_refs hab h1
  | @lst a xs ps e t =>
   cases rx
   obtain ⟨its,rv,hl⟩:=lst_is I e
   cases rq with
   | dic _=>cases hq
   | exc _ _=>cases hq
   | ob _ _ _ _ _=>cases hq
   | scr _=>cases hq
   | non=>cases ry; exact sc ⟨RcAt.list_none hl hu',RcNeAt.list_none hl hu',EqAt.list_none hl hu'⟩ rfl
   | bl b=>cases ry; exact sc ⟨RcAt.list_bool _ hl hu',RcNeAt.list_bool _ hl hu',EqAt.list_bool _ hl hu'⟩ rfl
   | int i=>obtain ⟨t,rfl⟩:=ry; exact sc ⟨RcAt.list_int _ _ hl hu',RcNeAt.list_int _ _ hl hu',EqAt.list_int _ _ hl hu'⟩ rfl
   | str z=>obtain ⟨t,rfl⟩:=ry; exact sc ⟨RcAt.list_str _ _ hl hu',RcNeAt.list_str _ _ hl hu',EqAt.list_str _ _ hl hu'⟩ rfl
   | tup e' t'=>cases ry; obtain ⟨jts,rw',hl'⟩:=tup_is I e'; exact sc ⟨RcAt.list_tuple hl hl' hu',RcNeAt.list_tuple hl hl' hu',EqAt.list_tuple hl hl' hu'⟩ rfl
   | @lst b ys qs e' t' =>
    cases ry
    obtain ⟨jts,rw',hl'⟩:=lst_is I e'
    have it:=items A (by omega) hp hq t t' rv rw'
    have n1:its.toArray.size = ps.length:=by rw [List.size_toArray,← rv.length,t.length]
    have n2:jts.toArray.size = qs.length:=by rw [List.size_toArray,← rw'.length,t'.length]
    have h12:RcAt A s (.ref a) (.ref b) (peqs ps qs)∧RcNeAt A s (.ref a) (.ref b) (!peqs ps qs):=by
     by_cases hl2:ps.length = qs.length
     ·have h1:=RcAt.lists hl hl' (by rw [n1,n2,hl2]) hu' it
      have h2:=RcNeAt.lists hl hl' (by rw [n1,n2,hl2]) hu' it
      have ee:(List.range its.toArray.size).all (fun j=>peq (ps.getD j .non) (qs.getD j .non)) = peqs ps qs:=by
       rw [peqs_range,n1,← hl2,Nat.min_self]; simp
      rw [ee] at h1 h2
      exact ⟨h1,h2⟩
     ·rw [peqs_len hl2]
      have hne:(its.toArray.size != jts.toArray.size) = true:=by rw [n1,n2]; simpa using hl2
      exact ⟨RcAt.lists_lengths hl hl' hne hu',RcNeAt.lists_lengths hl hl' hne hu'⟩
    refine ⟨h12.1,h12.2,?_⟩
    by_cases hab:a = b
    ·subst hab
     have z:=rep_same I (n + 1) _ _ _ hp hq (.lst e t) (.lst e' t')
     rw [z]; exact EqAt.same _
    ·exact EqAt.of_refs hab h12.1
end
def pEq (p q:PV):Res PV:=if eqOk 20 p = true∧eqOk 20 q = true then .ok (.bl (peq p q)) else .stuck
def pNe (p q:PV):Res PV:=if eqOk 20 p = true∧eqOk 20 q = true then .ok (.bl (!peq p q)) else .stuck
section
variable {X:Cx}
theorem opp_eq (hu:X.A.units + 20 < cLine):OpP X (compareOp .Eq) pEq:=by
 intro EO pins s σ H x y v u Q I rx ry h
 obtain ⟨Hs,p,q,i,rp,rq,h⟩:=h
 unfold pEq at h
 split at h
 ·rename_i hc
  exact (deep I 20 X.A p q x y v u hu hc.1 hc.2 (rp.mono i) (rq.mono i) rx ry).1 _ _ _ _ ⟨.bl _,H,I,rfl,ret_bl h i⟩
 ·exact h.elim
theorem opp_ne (hu:X.A.units + 20 < cLine):OpP X (compareOp .NotEq) pNe:=by
 intro EO pins s σ H x y v u Q I rx ry h
 obtain ⟨Hs,p,q,i,rp,rq,h⟩:=h
 unfold pNe at h
 split at h
 ·rename_i hc
  exact (deep I 20 X.A p q x y v u hu hc.1 hc.2 (rp.mono i) (rq.mono i) rx ry).2.1 _ _ _ _ ⟨.bl _,H,I,rfl,ret_bl h i⟩
 ·exact h.elim
end
end G
namespace G
open PySem PySem.Spec PyProof.Rows L2
def pCmp (f:Int→Int→Bool):PV→PV→Res PV
 | .int i,.int j=>.ok (.bl (f i j))
 | _,_=>.stuck
def e1 (g:PV→Res PV) (a:DE):DE:=fun σ=>(a σ).bind g
section
variable {X:Cx} {H0 Hs0:Hp}
theorem opp_cmp {op:CmpOp} {f:Int→Int→Bool} (h:OpR X (compareOp op) (rI0 fun i j=>.bl (f i j))):OpP X (compareOp op) (pCmp f):=by
 intro EO pins s σ H x y v u Q I rx ry hh
 obtain ⟨Hs,p,q,i,rp,rq,hh⟩:=hh
 unfold pCmp at hh
 split at hh
 ·cases rp.int_inv; cases rq.int_inv
  exact h pins s σ H _ _ v u Q I rx ry ⟨_,_,rfl,rfl,ret_bl hh i⟩
 ·exact hh.elim
theorem opp_gt:OpP X (compareOp .Gt) (pCmp fun i j=>decide (j < i)):=opp_cmp op_gt
variable {a b c:Expr} {da db dc:DE} {pos:Pos}
theorem one {g:PV→Res PV} {τ:L2.St} {H:Hp} {Q:VK} (h:RE X H0 Hs0 (e1 g da) τ H Q) :
  RE X H0 Hs0 da τ H fun x H1=>∃ Hs p,Same Hs H1∧Rep X.K Hs x p∧Ret X.K Hs H1 (g p) (ErrOk X H0 Hs0) Q:=by
 obtain ⟨Hs,σ,S,h⟩:=h
 exact ⟨Hs,σ,S,Ret.mono (Ret.bind h) fun x H1 ⟨Hs1,p,g1,r1,h1⟩=>⟨Hs1,p,g1.i,r1,h1⟩⟩
theorem q_neg (ha:QE X H0 Hs0 a da):QE X H0 Hs0 (.UnaryOp .USub a pos) (e1 pNeg da) :=
 PE.imp (pe_un un_neg ha) fun τ H Q h=>by
  obtain ⟨Hs,σ,S,h⟩:=one h
  refine ⟨Hs,σ,S,Ret.mono h fun x H1 ⟨Hs1,p,i,r,h1⟩=>?_⟩
  unfold pNeg at h1
  split at h1
  ·cases r.int_inv; exact ⟨_,rfl,ret_int h1 i⟩
  ·exact h1.elim
def asB:PV→Res Bool
 | .bl b=>.ok b
 | _=>.stuck
def tV (d:DE):DT:=fun σ=>(d σ).bind asB
def tAnd (a b:DT):DT:=fun σ=>(a σ).bind fun c=>if c = true then b σ else .ok false
def tOr (a b:DT):DT:=fun σ=>(a σ).bind fun c=>if c = true then .ok true else b σ
def tNot (a:DT):DT:=fun σ=>(a σ).bind fun c=>.ok (!c)
theorem val_test {τ:L2.St} {H:Hp} {Q:Bool→Hp→Prop} (h:RT X H0 Hs0 (tV da) τ H Q):RE X H0 Hs0 da τ H fun x H1=>∃ k,x = .bl k∧Q k H1:=by
 obtain ⟨Hs,σ,S,h⟩:=h
 refine ⟨Hs,σ,S,?_⟩
 unfold tV at h
 generalize da σ = r at h ⊢
 cases r with
 | ok p =>
  cases p with
  | bl k=>exact fun v Hs' H' g r=>⟨k,r.bl_inv,h Hs' H' g⟩
  | _=>exact h.elim
 | err c=>exact h
 | stuck=>exact h
theorem qt_val (ha:QE X H0 Hs0 a da) (he:∀ whole,isTrue a X.env whole = (do let v ← whole; standAt a.pos; holding [v] (truthy v))):QT X H0 Hs0 a (tV da) :=
 PT.imp (pt_val ha he) fun τ H Q h=>val_test h
theorem qt_cmp {op:CmpOp} {g:PV→PV→Res PV} (ho:OpP X (compareOp op) g) (ha:QE X H0 Hs0 a da) (hb:QE X H0 Hs0 b db) (hm:behindInMarks op b = false):QT X H0 Hs0 (.Compare a [op] [b] pos) (tV (e2 g da db)) :=
 PT.imp (pt_cmpR (ho (ErrOk X H0 Hs0)) ha hb hm) fun τ H Q h=>two (val_test h)
theorem RetB.mono {Hs H:Hp} {r:Res Bool} {EO:Str→Prop} {Q Q':Bool→Hp→Prop} (h:RetB Hs H r EO Q) (m:∀ v H',Q v H'→Q' v H'):RetB Hs H r EO Q':=by
 cases r with
 | ok p=>exact fun Hs' H' g=>m _ _ (h Hs' H' g)
 | err c=>exact h
 | stuck=>exact h
variable {ta tb:DT} {rest:List Expr}
theorem and_read {τ:L2.St} {H:Hp} {Q:Bool→Hp→Prop} (h:RT X H0 Hs0 (tAnd ta tb) τ H Q):RT X H0 Hs0 ta τ H fun c H1=>if c = true then RT X H0 Hs0 tb τ H1 Q else Q false H1:=by
 obtain ⟨Hs,σ,S,h⟩:=h
 refine ⟨Hs,σ,S,RetB.mono (RetB.bind h) fun c H1 ⟨Hs1,g1,h1⟩=>?_⟩
 cases c with
 | true=>exact ⟨Hs1,σ,S.grow g1,h1⟩
 | false=>exact h1 Hs1 H1 (.refl g1.i)
theorem or_read {τ:L2.St} {H:Hp} {Q:Bool→Hp→Prop} (h:RT X H0 Hs0 (tOr ta tb) τ H Q):RT X H0 Hs0 ta τ H fun c H1=>if c = true then Q true H1 else RT X H0 Hs0 tb τ H1 Q:=by
 obtain ⟨Hs,σ,S,h⟩:=h
 refine ⟨Hs,σ,S,RetB.mono (RetB.bind h) fun c H1 ⟨Hs1,g1,h1⟩=>?_⟩
 cases c with
 | true=>exact h1 Hs1 H1 (.refl g1.i)
 | false=>exact ⟨Hs1,σ,S.grow g1,h1⟩
theorem qw_and1 (ha:QT X H0 Hs0 a ta):QW X H0 Hs0 (.BoolOp .And [a] pos) ta:=pw_and1 ha
theorem qw_or1 (ha:QT X H0 Hs0 a ta):QW X H0 Hs0 (.BoolOp .Or [a] pos) ta:=pw_or1 ha
theorem qw_and (ha:QT X H0 Hs0 a ta) (hb:QW X H0 Hs0 (.BoolOp .And (b::rest) pos) tb):QW X H0 Hs0 (.BoolOp .And (a::b::rest) pos) (tAnd ta tb):=PW.imp (pw_and ha hb) fun _ _ _ h=>and_read h
theorem qw_or (ha:QT X H0 Hs0 a ta) (hb:QW X H0 Hs0 (.BoolOp .Or (b::rest) pos) tb):QW X H0 Hs0 (.BoolOp .Or (a::b::rest) pos) (tOr ta tb):=PW.imp (pw_or ha hb) fun _ _ _ h=>or_read h
theorem QW.qt (h:QW X H0 Hs0 a ta):QT X H0 Hs0 a ta:=PW.pt h
theorem qt_not (ha:QT X H0 Hs0 a ta):QT X H0 Hs0 (.UnaryOp .Not a pos) (tNot ta):=PT.imp (pt_not ha) fun τ H Q h=>by
 obtain ⟨Hs,σ,S,h⟩:=h
 exact ⟨Hs,σ,S,RetB.mono (RetB.bind h) fun c H1 ⟨Hs1,g1,h1⟩=>h1 Hs1 H1 (.refl g1.i)⟩
def eAnd (a b:DE):DE:=fun σ=>(a σ).bind fun p=>(asB p).bind fun c=>if c = true then b σ else .ok (.bl false)
def pNot (p:PV):Res PV:=(asB p).bind fun c=>.ok (.bl (!c))
theorem q_one {op:BoolOp} (ha:QE X H0 Hs0 a da):QE X H0 Hs0 (.BoolOp op [a] pos) da:=pe_one ha
theorem bool_split {p:PV} {K:PySem.W.Frag} {Hs H:Hp} {x:V} {f:Bool→Res PV} {EO:Str→Prop} {Q:VK} (r:Rep K Hs x p) (h:Ret K Hs H ((asB p).bind f) EO Q):∃ c,x = .bl c∧Ret K Hs H (f c) EO Q:=by
 cases p with
 | bl c=>exact ⟨c,r.bl_inv,h⟩
 | _=>exact h.elim
theorem q_and (ha:QE X H0 Hs0 a da) (hb:QE X H0 Hs0 (.BoolOp .And (b::rest) pos) db):QE X H0 Hs0 (.BoolOp .And (a::b::rest) pos) (eAnd da db) :=
 PE.imp (pe_and ha hb) fun τ H Q ⟨Hs,σ,S,h⟩=>⟨Hs,σ,S,Ret.mono (Ret.bind h) fun x H1 ⟨Hs1,p,g1,r1,h1⟩=>by
  obtain ⟨c,e,h2⟩:=bool_split r1 h1
  refine ⟨c,e,?_⟩
  cases c with
  | true=>exact ⟨Hs1,σ,S.grow g1,h2⟩
  | false=>exact ret_bl h2 g1.i⟩
theorem q_not (ha:QE X H0 Hs0 a da):QE X H0 Hs0 (.UnaryOp .Not a pos) (e1 pNot da) :=
 PE.imp (pe_not ha) fun τ H Q h=>by
  obtain ⟨Hs,σ,S,h⟩:=one h
  refine ⟨Hs,σ,S,Ret.mono h fun x H1 ⟨Hs1,p,i,r,h1⟩=>?_⟩
  obtain ⟨c,e,h2⟩:=bool_split r h1
  exact ⟨c,e,ret_bl h2 i⟩
def aNil:DA:=fun _=>.ok []
def aCons (a:DE) (r:DA):DA:=fun σ=>(a σ).bind fun p=>(r σ).bind fun ps=>.ok (p::ps)
theorem Rets.mono {K:PySem.W.Frag} {Hs H:Hp} {r:Res (List PV)} {EO:Str→Prop} {Q Q':List V→Hp→Prop} (h:Rets K Hs H r EO Q) (m:∀ v H',Q v H'→Q' v H'):Rets K Hs H r EO Q':=by
 cases r with
 | ok p=>exact fun v Hs' H' g r=>m _ _ (h v Hs' H' g r)
 | err c=>exact h
 | stuck=>exact h
theorem Rets.grow {K:PySem.W.Frag} {Hs H Hs1 H1:Hp} {r:Res (List PV)} {EO:Str→Prop} {Q:List V→Hp→Prop} (h:Rets K Hs H r EO Q) (g:Grow Hs H Hs1 H1):Rets K Hs1 H1 r EO Q:=by
 cases r with
 | ok p=>exact fun v Hs' H' g' r=>h v Hs' H' (g.trans g') r
 | err c=>exact h
 | stuck=>exact h
theorem Rets.bind1 {K:PySem.W.Frag} {Hs H:Hp} {r:Res PV} {f:PV→Res (List PV)} {EO:Str→Prop} {Q:List V→Hp→Prop} (h:Rets K Hs H (r.bind f) EO Q) :
  Ret K Hs H r EO fun v H1=>∃ Hs1 p,Grow Hs H Hs1 H1∧Rep K Hs1 v p∧Rets K Hs1 H1 (f p) EO Q:=by
 cases r with
 | ok p=>exact fun v Hs' H' g r=>⟨Hs',p,g,r,Rets.grow (r:=f p) h g⟩
 | err c=>exact h
 | stuck=>exact h
theorem Ret.bindA {K:PySem.W.Frag} {Hs H:Hp} {r:Res (List PV)} {f:List PV→Res PV} {EO:Str→Prop} {Q:VK} (h:Ret K Hs H (r.bind f) EO Q) :
  Rets K Hs H r EO fun v H1=>∃ Hs1 p,Grow Hs H Hs1 H1∧Reps K Hs1 v p∧Ret K Hs1 H1 (f p) EO Q:=by
 cases r with
 | ok p=>exact fun v Hs' H' g r=>⟨Hs',p,g,r,Ret.grow (r:=f p) h g⟩
 | err c=>exact h
 | stuck=>exact h
theorem qa_nil:QA X H0 Hs0 [] aNil:=PA.imp pa_nil fun τ H Q ⟨Hs,σ,S,h⟩=>h [] Hs H (.refl S.g.i) .nil
theorem cons_read {ra:DA} {τ:L2.St} {H:Hp} {Q:List V→Hp→Prop} (h:RA X H0 Hs0 (aCons da ra) τ H Q):tCons (RE X H0 Hs0 da) (RA X H0 Hs0 ra) τ H Q:=by
 obtain ⟨Hs,σ,S,h⟩:=h
 refine ⟨Hs,σ,S,Ret.mono (Rets.bind1 h) fun x H1 ⟨Hs1,p,g1,r1,h1⟩=>⟨Hs1,σ,S.grow g1,?_⟩⟩
 revert h1
 generalize ra σ = r
 intro h1
 cases r with
 | ok ps=>exact fun vs Hs' H' g r=>h1 _ Hs' H' g (.cons (r1.mono g.s) r)
 | err c=>exact h1
 | stuck=>exact h1
theorem qa_cons {es:List Expr} {ra:DA} (ha:QE X H0 Hs0 a da) (hr:QA X H0 Hs0 es ra) (hs:starEach (a::es) X.env = (false,eval a X.env)::starEach es X.env):QA X H0 Hs0 (a::es) (aCons da ra) :=
 PA.imp (pa_cons ha hr hs) fun τ H Q h=>cons_read h
def pTup (ps:List PV):Res PV:=if ps.length≤10000000 then .ok (.tup ps) else .stuck
def eA (g:List PV→Res PV) (a:DA):DE:=fun σ=>(a σ).bind g
theorem small7 {n:Nat} (h:n≤10000000):n≤sizeLine:=by rw [sizeLine_eq]; omega
theorem args_read {g:List PV→Res PV} {ra:DA} {τ:L2.St} {H:Hp} {Q:VK} (h:RE X H0 Hs0 (eA g ra) τ H Q) :
  RA X H0 Hs0 ra τ H fun vs H1=>∃ Hs ps,Same Hs H1∧Reps X.K Hs vs ps∧Ret X.K Hs H1 (g ps) (ErrOk X H0 Hs0) Q:=by
 obtain ⟨Hs,σ,S,h⟩:=h
 exact ⟨Hs,σ,S,Rets.mono (Ret.bindA h) fun x H1 ⟨Hs1,p,g1,r1,h1⟩=>⟨Hs1,p,g1.i,r1,h1⟩⟩
theorem RA.mono {ra:DA} {τ:L2.St} {H:Hp} {Q Q':List V→Hp→Prop} (h:RA X H0 Hs0 ra τ H Q) (m:∀ v H',Q v H'→Q' v H'):RA X H0 Hs0 ra τ H Q' :=
 let ⟨Hs,σ,S,h⟩:=h; ⟨Hs,σ,S,Rets.mono h m⟩
theorem RE.mono {ra:DE} {τ:L2.St} {H:Hp} {Q Q':VK} (h:RE X H0 Hs0 ra τ H Q) (m:∀ v H',Q v H'→Q' v H'):RE X H0 Hs0 ra τ H Q' :=
 let ⟨Hs,σ,S,h⟩:=h; ⟨Hs,σ,S,Ret.mono h m⟩
theorem q_tup {es:List Expr} {ra:DA} {x1} (h:QA X H0 Hs0 es ra):QE X H0 Hs0 (.Tuple es x1 pos) (eA pTup ra) :=
 PE.imp (pe_tup h) fun τ H Q h=>RA.mono (args_read h) fun vs H1 ⟨Hs,ps,i,r,h1⟩=>by
  unfold pTup at h1
  split at h1
  ·rename_i hl
   exact ⟨small7 (by rw [r.length]; exact hl),fun p hp=>h1 _ _ _ (.new i hp) (.tup (SqT.of upd_same) (r.mono (same_upd (i.free hp))))⟩
  ·exact h1.elim
def CallP (X:Cx) (f:Value) (g:List PV→Res PV):Prop :=
 ∀ (EO:Str→Prop),CallR X f fun xs H Q=>∃ Hs ps,Same Hs H∧Reps X.K Hs xs ps∧Ret X.K Hs H (g ps) EO Q
theorem q_callB {x:Str} {id:String} {p:Pos} {e:Expr} {es:List Expr} {g:List PV→Res PV} {ra:DA} (hc:CallP X (.builtin id) g) (hg:Gl X x) (hm:X.mg x = none) (hv:bootBuiltins x = some (.builtin id)) (ha:QA X H0 Hs0 (e::es) ra)
  (hn:x≠"__name__") (hdb:(x == ("__debug__":Str)) = false) (he:starEach (e::es) X.env = (false,eval e X.env)::starEach es X.env) (hpl:(backTo pos (starEach es X.env)).any (·.1) = false) :
  QE X H0 Hs0 (.Call (.Name x p) (e::es) [] pos) (eA g ra) :=
 PE.imp (pe_callB (hc (ErrOk X H0 Hs0)) hg hm hv ha hn hdb he hpl) fun τ H Q h=>args_read h
theorem q_callTy {x:Str} {T:String} {p:Pos} {e:Expr} {es:List Expr} {g:List PV→Res PV} {ra:DA} (hc:CallP X (.type T) g) (hg:Gl X x) (hm:X.mg x = none) (hv:bootBuiltins x = some (.type T)) (ha:QA X H0 Hs0 (e::es) ra)
  (hn:x≠"__name__") (hdb:(x == ("__debug__":Str)) = false) (he:starEach (e::es) X.env = (false,eval e X.env)::starEach es X.env) (hpl:(backTo pos (starEach es X.env)).any (·.1) = false) :
  QE X H0 Hs0 (.Call (.Name x p) (e::es) [] pos) (eA g ra) :=
 PE.imp (pe_callTy (hc (ErrOk X H0 Hs0)) hg hm hv ha hn hdb he hpl) fun τ H Q h=>args_read h
def bLen:List PV→Res PV
 | [.tup xs]=>.ok (.int xs.length)
 | [.lst xs]=>.ok (.int xs.length)
 | [.scr ns]=>.ok (.int ns.length)
 | _=>.stuck
theorem Reps.one_inv {K:PySem.W.Frag} {H:Hp} {vs:List V} {p:PV} (r:Reps K H vs [p]):∃ v,vs = [v]∧Rep K H v p:=by
 obtain ⟨v,ws,rfl,r1,r2⟩:=r.cons_inv
 cases r2.nil_inv
 exact ⟨v,rfl,r1⟩
theorem Reps.two_inv {K:PySem.W.Frag} {H:Hp} {vs:List V} {p q:PV} (r:Reps K H vs [p,q]):∃ v w,vs = [v,w]∧Rep K H v p∧Rep K H w q:=by
 obtain ⟨v,ws,rfl,r1,r2⟩:=r.cons_inv
 obtain ⟨w,rfl,r3⟩:=r2.one_inv
 exact ⟨v,w,rfl,r1,r3⟩
theorem cp_len:CallP X (.builtin "len") bLen:=by
 intro EO pins s σ H xs us Q I r h
 obtain ⟨Hs,ps,i,rp,h⟩:=h
 unfold bLen at h
 split at h
 ·obtain ⟨v,rfl,r1⟩:=rp.one_inv
  obtain ⟨a,vs,rfl,ha,ra⟩:=r1.tup_inv
  exact call_len_seq pins s σ H _ us Q I r ⟨a,vs,rfl,.inr (same_seqT i ha),by rw [ra.length]; exact ret_int h i⟩
 ·obtain ⟨v,rfl,r1⟩:=rp.one_inv
  obtain ⟨a,vs,rfl,ha,ra⟩:=r1.lst_inv
  exact call_len_seq pins s σ H _ us Q I r ⟨a,vs,rfl,.inl (SqL.of (i _ _ ha)),by rw [ra.length]; exact ret_int h i⟩
 ·obtain ⟨v,rfl,r1⟩:=rp.one_inv
  obtain ⟨a,rfl,ha⟩:=r1.scr_inv
  exact call_len_seq pins s σ H _ us Q I r ⟨a,_,rfl,.inl (i.seq ha),by rw [List.length_map]; exact ret_int h i⟩
 ·exact h.elim
def Fsp (K:PySem.W.Frag) (n:Nat) (m:List PV→Res PV):Sp:=fun vs H Q E=>vs.length = n∧∃ Hs ps,Same Hs H∧Reps K Hs vs ps∧Ret K Hs H (m ps) (fun c=>∀ (C:Addr) (Hs1 H1:Hp),ClsIs K c C→Grow Hs H Hs1 H1→E (.ref C) none H1) Q
structure FunIs (X:Cx) (f:Str) (m:List PV→Res PV):Prop where
 ex:∃ (a:Addr) (fd:FuncData) (ps:List Str) (k:Nat),X.mg f = some (.ref a)∧PySem.W.keepIn X.K (.ref a) = true∧Binds X.K fd ps []∧Room k X.A∧(∀ qs,qs.length≠ps.length→m qs = .stuck) ∧
  FnOk X.prog X.w X.K X.mg X.base (CXG X.prog X.w) k a fd ps (Fsp X.K ps.length m)
def noErr (r:Res PV):Res PV:=match r with
 | .err _=>.stuck
 | r=>r
theorem Ret.noErr {K:PySem.W.Frag} {Hs H:Hp} {r:Res PV} {EO EO':Str→Prop} {Q:VK} (h:Ret K Hs H (G.noErr r) EO Q):Ret K Hs H r EO' Q:=by
 cases r with
 | ok p=>exact h
 | err c=>exact h.elim
 | stuck=>exact h
theorem passN {X:Cx}:Passes (CXG X.prog X.w) X (fun _ _ _=>False):=fun _ _ _ _ _ _ _ ⟨_,_,_,_,_,_,_,_,_,_,_,z⟩=>z.elim
theorem q_call {x:Str} {p:Pos} {e:Expr} {es:List Expr} {m:List PV→Res PV} {ra:DA} (F:FunIs X x m) (hg:Gl X x) (ha:QA X H0 Hs0 (e::es) ra)
  (hdb:(x == ("__debug__":Str)) = false) (he:starEach (e::es) X.env = (false,eval e X.env)::starEach es X.env) (hpl:(backTo pos (starEach es X.env)).any (·.1) = false) :
  QE X H0 Hs0 (.Call (.Name x p) (e::es) [] pos) (eA (fun ps=>G.noErr (m ps)) ra):=by
 obtain ⟨a,fd,ps,k,hm,hk,hb,hr,har,F⟩:=F.ex
 refine PE.imp (pe_call F hr hg hm hk hb .nil passN ha hdb he hpl) fun τ H Q h=>RA.mono (args_read h) fun vs H1 ⟨Hs,qs,i,r,h1⟩=>?_
 rw [List.append_nil]
 refine ⟨?_,Hs,qs,i,r,h1.noErr⟩
 by_cases hl:qs.length = ps.length
 ·rw [r.length,hl]
 ·rw [har qs hl] at h1; exact h1.elim
def atR {α:Type} (xs:List α) (i:Int) (f:α→PV):Res PV:=match atI xs i with
 | some x=>.ok (f x)
 | none=>.stuck
def pIx:PV→PV→Res PV
 | .tup ps,.int i=>atR ps i id
 | .lst ps,.int i=>atR ps i id
 | .scr ns,.int i=>atR ns i .int
 | _,_=>.stuck
theorem at_rep {K:PySem.W.Frag} {H:Hp} {vs:List V} {ps:List PV} {i:Int} {p:PV} (r:Reps K H vs ps) (h:atI ps i = some p):∃ v,atI vs i = some v∧Rep K H v p:=by
 unfold atI at h ⊢
 rw [r.length]
 cases e:ixN ps.length i with
 | none=>rw [e] at h; cases h
 | some j=>rw [e] at h; exact r.get h
theorem q_ix (ha:QE X H0 Hs0 a da) (hb:QE X H0 Hs0 b db) (hs:PlainIx b):QE X H0 Hs0 (.Subscript a b pos) (e2 pIx da db) :=
 PE.imp (pe_ix ix_seq ha hb hs) fun τ H Q h=>RE.mono (two h) fun x H1 h1=>RE.mono h1 fun y H2 ⟨Hs,p,q,i,rp,rq,h2⟩=>by
  unfold pIx at h2
  split at h2
  ·obtain ⟨ad,vs,rfl,ht,r⟩:=rp.tup_inv
   cases rq.int_inv
   unfold atR at h2
   split at h2
   ·rename_i x hx
    obtain ⟨v,hv,rv⟩:=at_rep r hx
    exact .inr (.inl ⟨ad,vs,_,v,rfl,rfl,same_seqT i ht,hv,h2 v Hs H2 (.refl i) rv⟩)
   ·exact h2.elim
  ·obtain ⟨ad,vs,rfl,ht,r⟩:=rp.lst_inv
   cases rq.int_inv
   unfold atR at h2
   split at h2
   ·rename_i x hx
    obtain ⟨v,hv,rv⟩:=at_rep r hx
    exact .inl ⟨ad,vs,_,v,rfl,rfl,SqL.of (i _ _ ht),hv,h2 v Hs H2 (.refl i) rv⟩
   ·exact h2.elim
  ·obtain ⟨ad,rfl,ht⟩:=rp.scr_inv
   cases rq.int_inv
   unfold atR at h2
   split at h2
   ·rename_i x hx
    obtain ⟨v,hv,rv⟩:=at_rep (K:=X.K) (H:=Hs) (Reps.ints _) (show atI (List.map PV.int _) _ = some (.int x) by
     unfold atI at hx ⊢
     rw [List.length_map]
     cases e:ixN _ _ with
     | none=>rw [e] at hx; cases hx
     | some j =>
      rw [e] at hx
      show (List.map PV.int _)[j]? = _
      rw [List.getElem?_map]
      show Option.map PV.int _ = _
      rw [show _[j]? = some x from hx]; rfl)
    exact .inl ⟨ad,_,_,v,rfl,rfl,i.seq ht,hv,h2 v Hs H2 (.refl i) rv⟩
   ·exact h2.elim
  ·exact h2.elim
def eIxV (k:Nat) (db:DE):DE:=fun σ=>match σ[k]? with
 | some (some (.own xs))=>(db σ).bind fun q=>pIx (.lst xs) q
 | some (some (.sh p))=>(db σ).bind fun q=>pIx p q
 | _=>.stuck
theorem q_ixv {k:Nat} {x:Str} {np:Pos} (hN:X.N[k]? = some x) (hv:Vis X.env.scope x) (hd:(x == ("__debug__":Str)) = false) (hcd:(x == ("__classdict__":Str)) = false) (hb:QE X H0 Hs0 b db) (hs:PlainIx b) :
  QE X H0 Hs0 (.Subscript (.Name x np) b pos) (eIxV k db):=by
 intro pins s τ H Q I ⟨Hs,σ,S,h⟩
 unfold eIxV at h
 split at h
 ·rename_i xs e
  obtain ⟨v,e1,ad,vs,rfl,hH,hHs,hH0,r⟩:=S.slot k _ e
  refine pe_ix ix_list (pe_var hN hv hd hcd) hb hs pins s τ H Q I ⟨_,e1,Hs,σ,S,Ret.mono (Ret.bind h) fun y H1 ⟨Hs1,q,g1,rq,h1⟩=>?_⟩
  cases q with
  | int i =>
   cases rq.int_inv
   simp only [pIx] at h1
   unfold atR at h1
   split at h1
   ·rename_i x hx
    obtain ⟨v,hv,rv⟩:=at_rep r hx
    exact ⟨ad,vs,_,v,rfl,rfl,SqL.of (g1.h _ _ hH),hv,h1 v Hs1 H1 (.refl g1.i) (rv.mono g1.s)⟩
   ·exact h1.elim
  | _=>exact h1.elim
 ·rename_i p e
  refine q_ix (q_var (i:=k) hN hv hd hcd) hb hs pins s τ H Q I ⟨Hs,σ,S,?_⟩
  show Ret X.K Hs H ((eVar k σ).bind fun p=>(db σ).bind fun q=>pIx p q) _ Q
  unfold eVar
  rw [e]
  exact h
 ·exact h.elim
def eLenV (k:Nat):DE:=fun σ=>match σ[k]? with
 | some (some (.own xs))=>.ok (.int xs.length)
 | some (some (.sh p))=>bLen [p]
 | _=>.stuck
theorem q_lenv {k:Nat} {x:Str} {np p:Pos} (hN:X.N[k]? = some x) (hv:Vis X.env.scope x) (hd:(x == ("__debug__":Str)) = false) (hcd:(x == ("__classdict__":Str)) = false) (hg:Gl X "len") (hm:X.mg "len" = none)
  (he:starEach [.Name x np] X.env = [(false,eval (.Name x np) X.env)]) (hpl:(backTo pos (starEach [] X.env)).any (·.1) = false):QE X H0 Hs0 (.Call (.Name "len" p) [.Name x np] [] pos) (eLenV k):=by
 intro pins s τ H Q I ⟨Hs,σ,S,h⟩
 unfold eLenV at h
 split at h
 ·rename_i xs e
  obtain ⟨v,e1,ad,vs,rfl,hH,hHs,hH0,r⟩:=S.slot k _ e
  refine pe_callB call_len_seq hg hm PySem.boot_len (pa_cons (pe_var hN hv hd hcd) pa_nil he) (by decide) (by decide) he hpl pins s τ H Q I ⟨_,e1,ad,vs,rfl,.inl (SqL.of hH),?_⟩
  rw [r.length]; exact ret_int h S.g.i
 ·rename_i p' e
  refine q_callB cp_len hg hm PySem.boot_len (qa_cons (q_var (i:=k) hN hv hd hcd) qa_nil he) (by decide) (by decide) he hpl pins s τ H Q I ⟨Hs,σ,S,?_⟩
  show Ret X.K Hs H (((eVar k σ).bind fun p=>(aNil σ).bind fun ps=>.ok (p::ps)).bind bLen) _ Q
  unfold eVar
  rw [e]
  exact h
 ·exact h.elim
end
end G
namespace G
open PySem PySem.Spec PyProof.Rows L2
def tyName:PV→String
 | .non=>"NoneType"
 | .bl _=>"bool"
 | .int _=>"int"
 | .str _=>"str"
 | .tup _=>"tuple"
 | .lst _=>"list"
 | .scr _=>"list"
 | .dic=>"dict"
 | .exc _=>"exception"
 | .ob _ _ _=>"object"
def isSub (t T:String):Bool:=t == T || (t == "bool" && T == "int")
def kindNames:List String:=["int","bool","tuple","list","str","dict"]
def notExc:PV→Bool
 | .exc _=>false
 | .ob _ _ _=>false
 | _=>true
def pIsi (T:String) (p:PV):Res PV:=if notExc p = true then .ok (.bl (isSub (tyName p) T)) else .stuck
theorem kit_ok (K:PySem.W.Frag) (p:PV) (T:String) (hx:notExc p = true) (h:T∈kindNames):PySem.W.kitOne K (.type (tyName p)) (.type T) = some (isSub (tyName p) T):=by
 have h':T = "int"∨T = "bool"∨T = "tuple"∨T = "list"∨T = "str"∨T = "dict":=by simpa [kindNames] using h
 cases p <;> first | (cases hx; done) | (rcases h' with rfl | rfl | rfl | rfl | rfl | rfl <;> kernel_rfl)
section
variable {X:Cx} {H0 Hs0:Hp} {a b c:Expr} {da db dc:DE} {pos:Pos}
theorem isi_rule {pins:List (Addr × Obj)} {τ:L2.St} {Hs H:Hp} {s:Shared} {Q:Value→Shared→Prop} {E:Value→Shared→Prop} {x:V} {u:Value} {p:PV} {T:String} (I:Inv X pins τ H s) (i:Same Hs H) (rx:RelV x u) (r:Rep X.K Hs x p) (hx:notExc p = true) (hT:T∈kindNames)
  (h:∀ tk,Q (.bool (isSub (tyName p) T)) { s with toks:=tk }):wpAny (model X.prog X.w) X.A (call (.builtin "isinstance") [u,.type T]) Q E s:=by
 have e:=kit_ok X.K p T hx hT
 cases r with
 | non=>exact isinst_ok I rx .non e h
 | bl b=>exact isinst_ok I rx (.bl b) e h
 | int k=>exact isinst_ok I rx (.int k) e h
 | str y=>exact isinst_ok I rx (.str y) e h
 | lst hl _=>exact isinst_ok I rx (.lst (i _ _ hl)) e h
 | dic hl=>exact isinst_ok I rx (.dK (i _ _ hl)) e h
 | exc _ _=>cases hx
 | ob _ _ _ _ _=>cases hx
 | @tup a xs ps ht _ =>
  cases (show u = Value.ref a from rx)
  obtain ⟨its,rv,o,h1,h2,_⟩:=tup_is I (same_seqT i ht)
  exact PySem.W.kia_one PySem.W.kitx_tuple I.kIn ⟨o,h1,h2⟩ e (fun z=>nomatch z) h
 | @scr a ns hl =>
  cases (show u = Value.ref a from rx)
  obtain ⟨its,rv,pl,_⟩:=I.list (i.seq hl)
  obtain ⟨o,n,h1,h2,_⟩:=pl
  exact PySem.W.kia_one PySem.W.kitx_list I.kIn ⟨o,h1,h2⟩ e (fun z=>nomatch z) h
theorem call_isi:CallR X (.builtin "isinstance") (fun xs H Q=>∃ Hs x p T,xs = [x,.ty T]∧Same Hs H∧Rep X.K Hs x p∧notExc p = true∧T∈kindNames∧Q (.bl (isSub (tyName p) T)) H):=by
 intro pins s σ H xs us Q I r h
 obtain ⟨Hs,x,p,T,rfl,i,rp,hx,hT,q⟩:=h
 cases r with
 | cons r1 r2 =>
  cases r2 with
  | cons r3 r4 =>
   cases r4
   cases (show _ = Value.type T from r3)
   exact isi_rule I i r1 rp hx hT fun tk=>⟨.bl _,H,I.tok tk,rfl,q⟩
theorem boot_isi:bootBuiltins "isinstance" = some (.builtin "isinstance"):=by decide +kernel
theorem q_isi {T:String} {x:Str} {p1 p2:Pos} (ha:QE X H0 Hs0 a da) (hT:T∈kindNames) (hx:bootBuiltins x = some (.type T)) (hg:Gl X "isinstance") (hm:X.mg "isinstance" = none) (hg2:Gl X x) (hm2:X.mg x = none) (hn:x≠"__name__")
  (hdb:(x == ("__debug__":Str)) = false) (h1:starEach [a,.Name x p2] X.env = (false,eval a X.env)::starEach [.Name x p2] X.env) (h2:starEach [.Name x p2] X.env = [(false,eval (.Name x p2) X.env)])
  (hpl:(backTo pos (starEach [.Name x p2] X.env)).any (·.1) = false):QE X H0 Hs0 (.Call (.Name "isinstance" p1) [a,.Name x p2] [] pos) (e1 (pIsi T) da) :=
 PE.imp (pe_callB call_isi hg hm boot_isi (pa_cons ha (pa_cons (pe_bltn (v:=.ty T) hg2 hm2 hx rfl hn hdb) pa_nil h2) h1) (by decide) (by decide) h1 hpl) fun τ H Q h =>
  RE.mono (one h) fun x H1 ⟨Hs,p,i,r,h1⟩=>by
   unfold pIsi at h1
   split at h1
   ·rename_i hx
    exact ⟨Hs,x,p,T,rfl,i,r,hx,hT,ret_bl h1 i⟩
   ·exact h1.elim
def cutP {α:Type} (xs:List α) (lo hi:Option Int):List α:=(xs.drop (HT.sIx xs.length 0 lo)).take (HT.sIx xs.length xs.length hi - HT.sIx xs.length 0 lo)
theorem Reps.cut {K:PySem.W.Frag} {H:Hp} {vs:List V} {ps:List PV} (r:Reps K H vs ps) (lo hi:Option Int):Reps K H (cutV vs lo hi) (cutP ps lo hi):=by
 unfold cutV cutP
 rw [r.length]
 exact (r.drop _).take _
abbrev DO:=PSt→Res (Option Int)
def oNo:DO:=fun _=>.ok none
def asI:PV→Res (Option Int)
 | .int i=>.ok (some i)
 | _=>.stuck
def oE (d:DE):DO:=fun σ=>(d σ).bind asI
def pSl (p:PV) (lo hi:Option Int):Res PV:=match p with
 | .lst xs=>.ok (.lst (cutP xs lo hi))
 | .scr ns=>.ok (.lst (cutP (ns.map PV.int) lo hi))
 | .tup xs=>if HT.sIx xs.length 0 lo = 0∧HT.sIx xs.length xs.length hi = xs.length then .stuck else .ok (.tup (cutP xs lo hi))
 | _=>.stuck
def eSl (a:DE) (lo hi:DO):DE:=fun σ=>(a σ).bind fun p=>(lo σ).bind fun l=>(hi σ).bind fun h=>pSl p l h
def RetO (Hs H:Hp) (r:Res (Option Int)) (EO:Str→Prop) (Q:Option Int→Hp→Prop):Prop:=match r with
 | .ok b=>∀ Hs' H',Grow Hs H Hs' H'→Q b H'
 | .err c=>EO c
 | .stuck=>False
def RO (X:Cx) (H0 Hs0:Hp) (d:DO):TO:=fun τ H Q=>∃ Hs σ,SR X.K H0 Hs0 Hs H σ τ∧RetO Hs H (d σ) (ErrOk X H0 Hs0) Q
def QO (X:Cx) (H0 Hs0:Hp) (e:Option Expr) (d:DO):Prop:=PO X e (RO X H0 Hs0 d)
theorem PO.imp {e:Option Expr} {t t':TO} (h:PO X e t) (m:∀ τ H Q,t' τ H Q→t τ H Q):PO X e t':=fun pins s σ H Q I q=>h pins s σ H Q I (m _ _ _ q)
theorem qo_none:QO X H0 Hs0 none oNo:=PO.imp po_none fun τ H Q ⟨Hs,σ,S,h⟩=>h Hs H (.refl S.g.i)
theorem qo_some (ha:QE X H0 Hs0 a da):QO X H0 Hs0 (some a) (oE da):=PO.imp (po_some ha) fun τ H Q ⟨Hs,σ,S,h⟩=>by
 refine ⟨Hs,σ,S,?_⟩
 unfold oE at h
 generalize da σ = r at h ⊢
 cases r with
 | ok p =>
  cases p with
  | int k=>exact fun v Hs' H' g r=>⟨k,r.int_inv,h Hs' H' g⟩
  | _=>exact h.elim
 | err c=>exact h
 | stuck=>exact h
theorem RetO.mono {Hs H:Hp} {r:Res (Option Int)} {EO:Str→Prop} {Q Q':Option Int→Hp→Prop} (h:RetO Hs H r EO Q) (m:∀ v H',Q v H'→Q' v H'):RetO Hs H r EO Q':=by
 cases r with
 | ok p=>exact fun Hs' H' g=>m _ _ (h Hs' H' g)
 | err c=>exact h
 | stuck=>exact h
theorem Ret.bindO {K:PySem.W.Frag} {Hs H:Hp} {r:Res (Option Int)} {f:Option Int→Res PV} {EO:Str→Prop} {Q:VK} (h:Ret K Hs H (r.bind f) EO Q) :
  RetO Hs H r EO fun b H1=>∃ Hs1,Grow Hs H Hs1 H1∧Ret K Hs1 H1 (f b) EO Q:=by
 cases r with
 | ok p=>exact fun Hs' H' g=>⟨Hs',g,Ret.grow (r:=f p) h g⟩
 | err c=>exact h
 | stuck=>exact h
theorem q_slice {lo hi:Option Expr} {dl dh:DO} {p2:Pos} (ha:QE X H0 Hs0 a da) (hl:QO X H0 Hs0 lo dl) (hh:QO X H0 Hs0 hi dh):QE X H0 Hs0 (.Subscript a (.Slice lo hi none p2) pos) (eSl da dl dh) :=
 PE.imp (pe_slice (sl_list.or sl_tup) ha hl hh) fun τ H Q ⟨Hs,σ,S,h⟩=>by
  refine ⟨Hs,σ,S,Ret.mono (Ret.bind h) fun x H1 ⟨Hs1,p,g1,r1,h1⟩=>⟨Hs1,σ,S.grow g1,RetO.mono (Ret.bindO h1) fun l H2 ⟨Hs2,g2,h2⟩=>⟨Hs2,σ,(S.grow g1).grow g2,RetO.mono (Ret.bindO h2) fun u H3 ⟨Hs3,g3,h3⟩=>?_⟩⟩⟩
  have r3:=(r1.mono g2.s).mono g3.s
  have i:=g3.i
  unfold pSl at h3
  split at h3
  ·obtain ⟨ad,vs,rfl,ht,r⟩:=r3.lst_inv
   exact .inl ⟨ad,vs,rfl,SqL.of (i _ _ ht),fun q hq=>h3 _ _ _ (.new i hq) (.lst upd_same (Reps.mono (same_upd (i.free hq)) (r.cut l u)))⟩
  ·obtain ⟨ad,rfl,ht⟩:=r3.scr_inv
   exact .inl ⟨ad,_,rfl,i.seq ht,fun q hq=>h3 _ _ _ (.new i hq) (.lst upd_same ((Reps.ints _).cut l u))⟩
  ·split at h3
   ·exact h3.elim
   ·rename_i hw
    obtain ⟨ad,vs,rfl,ht,r⟩:=r3.tup_inv
    exact .inr ⟨ad,vs,rfl,same_seqT i ht,by rw [r.length]; exact hw,fun q hq=>h3 _ _ _ (.new i hq) (.tup (SqT.of upd_same) (Reps.mono (same_upd (i.free hq)) (r.cut l u)))⟩
  ·exact h3.elim
def sNext:DS:=fun σ=>.ok (.next σ)
def sSeq (a b:DS):DS:=fun σ=>(a σ).bind fun f=>match f with
 | .next σ'=>b σ'
 | f=>.ok f
def sRet (d:DE):DS:=fun σ=>(d σ).bind fun p=>.ok (.ret p)
def sIf (t:DT) (a b:DS):DS:=fun σ=>(t σ).bind fun c=>if c = true then a σ else b σ
def sSet (i:Nat) (d:DE):DS:=fun σ=>(d σ).bind fun p=>.ok (.next (σ.set i (some (.sh p))))
theorem EndR.same {D:Ends} {Hs Hs' H H':Hp} {r:Res Fl} (h:EndR X H0 Hs0 D Hs H r) (e:Same Hs Hs'):EndR X H0 Hs0 D Hs' H' r:=by
 cases r with
 | ok f =>
  cases f with
  | next σ'=>exact fun Hs2 H2 τ' e' S=>h Hs2 H2 τ' (e.trans e') S
  | brk σ'=>exact fun Hs2 H2 τ' e' S=>h Hs2 H2 τ' (e.trans e') S
  | cont σ'=>exact fun Hs2 H2 τ' e' S=>h Hs2 H2 τ' (e.trans e') S
  | ret p=>exact h
 | err c=>exact h
 | stuck=>exact h
theorem EndR.bind1 {D:Ends} {Hs H:Hp} {r:Res PV} {f:PV→Res Fl} (h:EndR X H0 Hs0 D Hs H (r.bind f)) :
  Ret X.K Hs H r (ErrOk X H0 Hs0) fun v H1=>∃ Hs1 p,Grow Hs H Hs1 H1∧Rep X.K Hs1 v p∧EndR X H0 Hs0 D Hs1 H1 (f p):=by
 cases r with
 | ok p=>exact fun v Hs' H' g r=>⟨Hs',p,g,r,EndR.same (r:=f p) h g.s⟩
 | err c=>exact h
 | stuck=>exact h
theorem EndR.bindB {D:Ends} {Hs H:Hp} {r:Res Bool} {f:Bool→Res Fl} (h:EndR X H0 Hs0 D Hs H (r.bind f)) :
  RetB Hs H r (ErrOk X H0 Hs0) fun b H1=>∃ Hs1,Grow Hs H Hs1 H1∧EndR X H0 Hs0 D Hs1 H1 (f b):=by
 cases r with
 | ok p=>exact fun Hs' H' g=>⟨Hs',g,EndR.same (r:=f p) h g.s⟩
 | err c=>exact h
 | stuck=>exact h
variable {st:Stmt} {sts:List Stmt} {d1 d2:DS}
theorem qss_nil:QSs X H0 Hs0 [] sNext:=PSs.imp pss_nil fun D τ H ⟨Hs,σ,S,h⟩=>h Hs H τ (Same.refl _) S
theorem seq_read {D:Ends} {τ:L2.St} {H:Hp} (h:RS X H0 Hs0 (sSeq d1 d2) D τ H):RS X H0 Hs0 d1 { D with nx:=RS X H0 Hs0 d2 D } τ H:=by
 obtain ⟨Hs,σ,S,h⟩:=h
 refine ⟨Hs,σ,S,?_⟩
 unfold sSeq at h
 generalize d1 σ = r at h ⊢
 cases r with
 | ok f =>
  cases f with
  | next σ'=>exact fun Hs' H' τ' e S'=>⟨Hs',σ',S',EndR.same (r:=d2 σ') h e⟩
  | brk σ'=>exact h
  | cont σ'=>exact h
  | ret p=>exact h
 | err c=>exact h
 | stuck=>exact h
theorem qss_cons (h1:QS X H0 Hs0 st d1) (h2:QSs X H0 Hs0 sts d2):QSs X H0 Hs0 (st::sts) (sSeq d1 d2):=PSs.imp (pss_cons h1 h2) fun D τ H h=>seq_read h
theorem qss_one (h1:QS X H0 Hs0 st d1):QSs X H0 Hs0 [st] d1:=pss_one h1
theorem qs_ret (ha:QE X H0 Hs0 a da):QS X H0 Hs0 (.Return (some a) pos) (sRet da):=PS.imp (ps_ret ha) fun D τ H ⟨Hs,σ,S,h⟩ =>
 ⟨Hs,σ,S,Ret.mono (EndR.bind1 h) fun x H1 ⟨Hs1,p,g1,r1,h1⟩=>h1 x Hs1 H1 (S.grow g1).g r1⟩
theorem qs_if {t:DT} {ss1 ss2:List Stmt} (hc:QT X H0 Hs0 c t) (h1:QSs X H0 Hs0 ss1 d1) (h2:QSs X H0 Hs0 ss2 d2):QS X H0 Hs0 (.If c ss1 ss2 pos) (sIf t d1 d2) :=
 PS.imp (ps_if hc h1 h2) fun D τ H ⟨Hs,σ,S,h⟩=>⟨Hs,σ,S,RetB.mono (EndR.bindB h) fun k H1 ⟨Hs1,g1,h1⟩=>by
  cases k with
  | true=>exact ⟨Hs1,σ,S.grow g1,h1⟩
  | false=>exact ⟨Hs1,σ,S.grow g1,h1⟩⟩
theorem set_some {α:Type} {l:List α} {i j:Nat} {x y:α} (h:(l.set i x)[j]? = some y):(j = i∧x = y∧i < l.length)∨(j≠i∧l[j]? = some y):=by
 rw [List.getElem?_set] at h
 split at h
 ·rename_i e
  split at h
  ·exact .inl ⟨e.symm,Option.some.inj h,by omega⟩
  ·cases h
 ·rename_i e
  exact .inr ⟨fun z=>e z.symm,h⟩
theorem SR.set {K:PySem.W.Frag} {Hs H:Hp} {σ:PSt} {τ:L2.St} {v:V} {p:PV} (S:SR K H0 Hs0 Hs H σ τ) (i:Nat) (r:Rep K Hs v p):SR K H0 Hs0 Hs H (σ.set i (some (.sh p))) (τ.set i (some v)):=by
 refine ⟨S.g,fun j sv e=>?_,fun j k xs ys ad hjk e1 e2 e3=>?_,by rw [List.length_set,List.length_set]; exact S.len⟩
 ·rcases set_some e with ⟨rfl,e',hl⟩ | ⟨hne,e'⟩
  ·cases e'
   refine ⟨v,?_,r⟩
   rw [List.getElem?_set_self (by rw [← S.len]; exact hl)]
  ·obtain ⟨w,e1,r1⟩:=S.slot j sv e'
   exact ⟨w,by rw [List.getElem?_set_ne (fun z=>hne z.symm)]; exact e1,r1⟩
 ·rcases set_some e1 with ⟨_,e',_⟩ | ⟨hj,e1'⟩
  ·cases e'
  ·rcases set_some e2 with ⟨_,e',_⟩ | ⟨hk,e2'⟩
   ·cases e'
   ·rw [List.getElem?_set_ne (fun z=>hj z.symm)] at e3
    rw [List.getElem?_set_ne (fun z=>hk z.symm)]
    exact S.inj j k xs ys ad hjk e1' e2' e3
theorem qs_set {i:Nat} {x:Str} {pos':Pos} (hN:X.N.Nodup) (hi:X.N[i]? = some x) (hx:Loc X.env.scope x) (ha:QE X H0 Hs0 a da) (hs:swapsWith a (some (.Name x pos')) pos.line X.env = pure false) (hf:X.fn x = true∨X.env.scope.names.lookup x = some .local) :
  QS X H0 Hs0 (.Assign [.Name x pos'] a pos) (sSet i da):=PS.imp (ps_set hN hi hx ha hs hf) fun D τ H ⟨Hs,σ,S,h⟩ =>
 ⟨Hs,σ,S,Ret.mono (EndR.bind1 h) fun v H1 ⟨Hs1,p,g1,r1,h1⟩=>h1 Hs1 H1 _ (Same.refl _) ((S.grow g1).set i r1)⟩
def wN (c:DT) (b:DS):Nat→PSt→Option (Res Fl)
 | 0,_=>none
 | n + 1,σ=>match c σ with
  | .ok true=>match b σ with
   | .ok (.next σ')=>wN c b n σ'
   | .ok (.cont σ')=>wN c b n σ'
   | .ok (.brk σ')=>some (.ok (.next σ'))
   | .ok (.ret p)=>some (.ok (.ret p))
   | .err e=>some (.err e)
   | .stuck=>some .stuck
  | .ok false=>some (.ok (.next σ))
  | .err e=>some (.err e)
  | .stuck=>some .stuck
open Classical in
noncomputable def sWhile (c:DT) (b:DS):DS:=fun σ=>if h:∃ r n,wN c b n σ = some r then choose h else .stuck
theorem wN_mono {cc:DT} {bb:DS}:∀ {n:Nat} {σ:PSt} {r:Res Fl},wN cc bb n σ = some r→∀ m,n≤m→wN cc bb m σ = some r
 | 0,_,_,h,_,_=>by cases h
 | n + 1,σ,r,h,0,hm=>by omega
 | n + 1,σ,r,h,m + 1,hm=>by
  unfold wN at h ⊢
  split at h
  ·split at h
   ·exact wN_mono h m (by omega)
   ·exact wN_mono h m (by omega)
   ·exact h
   ·exact h
   ·exact h
   ·exact h
  ·exact h
  ·exact h
  ·exact h
theorem sWhile_of {cc:DT} {bb:DS} {n:Nat} {σ:PSt} {r:Res Fl} (h:wN cc bb n σ = some r):sWhile cc bb σ = r:=by
 unfold sWhile
 have hex:∃ r n,wN cc bb n σ = some r:=⟨r,n,h⟩
 rw [dif_pos hex]
 obtain ⟨m,hm⟩:=Classical.choose_spec hex
 have h1:=wN_mono h (max n m) (Nat.le_max_left _ _)
 have h2:=wN_mono hm (max n m) (Nat.le_max_right _ _)
 rw [h1] at h2
 exact (Option.some.inj h2).symm
theorem sWhile_eq (cc:DT) (bb:DS) (σ:PSt):sWhile cc bb σ = (cc σ).bind fun k=>if k = true then (bb σ).bind (fun f=>match f with
  | .next σ'=>sWhile cc bb σ'
  | .cont σ'=>sWhile cc bb σ'
  | .brk σ'=>.ok (.next σ')
  | .ret p=>.ok (.ret p)) else .ok (.next σ):=by
 by_cases hex:∃ r n,wN cc bb n σ = some r
 ·obtain ⟨r,n,h⟩:=hex
  rw [sWhile_of h]
  cases n with
  | zero=>cases h
  | succ n =>
   unfold wN at h
   split at h
   ·rename_i e
    rw [e]
    split at h
    ·rename_i σ' e'; rw [e']; exact (sWhile_of h).symm
    ·rename_i σ' e'; rw [e']; exact (sWhile_of h).symm
    ·rename_i σ' e'; rw [e']; exact (Option.some.inj h).symm
    ·rename_i σ' e'; rw [e']; exact (Option.some.inj h).symm
    ·rename_i σ' e'; rw [e']; exact (Option.some.inj h).symm
    ·rename_i e'; rw [e']; exact (Option.some.inj h).symm
   ·rename_i e; rw [e]; exact (Option.some.inj h).symm
   ·rename_i e; rw [e]; exact (Option.some.inj h).symm
   ·rename_i e; rw [e]; exact (Option.some.inj h).symm
 ·have hs:sWhile cc bb σ = .stuck:=by unfold sWhile; rw [dif_neg hex]
  have no:∀ n,wN cc bb n σ = none:=fun n=>by
   cases e:wN cc bb n σ with
   | none=>rfl
   | some r=>exact absurd ⟨r,n,e⟩ hex
  have sub:∀ σ',(∀ n,wN cc bb n σ' = none)→sWhile cc bb σ' = .stuck:=fun σ' h'=>by
   unfold sWhile
   rw [dif_neg]
   rintro ⟨r,n,e⟩
   rw [h' n] at e; cases e
  rw [hs]
  have n1:=no 1
  unfold wN at n1
  split at n1
  ·rename_i e
   rw [e]
   split at n1
   ·rename_i σ' e'
    rw [e']
    refine (sub σ' fun n=>?_).symm
    have:=no (n + 1)
    unfold wN at this
    rw [e] at this; simp only at this
    rw [e'] at this
    exact this
   ·rename_i σ' e'
    rw [e']
    refine (sub σ' fun n=>?_).symm
    have:=no (n + 1)
    unfold wN at this
    rw [e] at this; simp only at this
    rw [e'] at this
    exact this
   ·cases n1
   ·cases n1
   ·cases n1
   ·cases n1
  ·cases n1
  ·cases n1
  ·cases n1
theorem qs_while {t:DT} (hp:PassesOwn (model X.prog X.w) X.A X.env X.xe) (hc:QT X H0 Hs0 c t) (hb:QSs X H0 Hs0 sts d1):QS X H0 Hs0 (.While c sts [] pos) (sWhile t d1):=PS.imp (ps_while hp hc hb) fun D τ H ⟨Hs,σ,S,h⟩=>by
 by_cases hex:∃ r n,wN t d1 n σ = some r
 ·obtain ⟨r,n,hn⟩:=hex
  rw [sWhile_of hn] at h
  refine ⟨fun m τ H=>∃ Hs' σ',SR X.K H0 Hs0 Hs' H σ' τ∧Same Hs Hs'∧wN t d1 m σ' = some r,⟨n,Hs,σ,S,Same.refl _,hn⟩,?_⟩
  rintro m τ1 H1 ⟨Hs1,σ1,S1,e1,w1⟩
  refine ⟨Hs1,σ1,S1,?_⟩
  cases m with
  | zero=>cases w1
  | succ m =>
   unfold wN at w1
   split at w1
   ·rename_i ec
    rw [ec]
    intro Hs2 H2 g2
    refine ⟨fun τ' H'=>∃ Hs' σ',SR X.K H0 Hs0 Hs' H' σ' τ'∧Same Hs Hs'∧wN t d1 m σ' = some r,fun τ' H' ⟨Hs',σ',a1,a2,a3⟩=>⟨m,Nat.lt_succ_self m,Hs',σ',a1,a2,a3⟩,Hs2,σ1,S1.grow g2,?_⟩
    have e2:=e1.trans g2.s
    split at w1
    ·rename_i σ' ed
     rw [ed]
     exact fun Hs3 H3 τ3 e3 S3=>⟨Hs3,σ',S3,e2.trans e3,w1⟩
    ·rename_i σ' ed
     rw [ed]
     exact fun Hs3 H3 τ3 e3 S3=>⟨Hs3,σ',S3,e2.trans e3,w1⟩
    ·rename_i σ' ed
     rw [ed]
     cases w1
     exact fun Hs3 H3 τ3 e3 S3=>h Hs3 H3 τ3 (e2.trans e3) S3
    ·rename_i p ed
     rw [ed]
     cases w1
     exact h
    ·rename_i e ed
     rw [ed]
     cases w1
     exact h
    ·rename_i ed
     cases w1
     exact h.elim
   ·rename_i ec
    rw [ec]
    intro Hs2 H2 g2
    cases w1
    exact h Hs2 H2 τ1 (e1.trans g2.s) (S1.grow g2)
   ·rename_i ec
    rw [ec]
    cases w1
    exact h
   ·rename_i ec
    cases w1
    exact h.elim
 ·unfold sWhile at h
  rw [dif_neg hex] at h
  exact h.elim
end
end G
namespace G
open PySem PySem.Spec PyProof.Rows L2
section
variable {X:Cx} {tg:Expr}
end
abbrev DI:=PSt→Res (List PV)
def JOk (K:PySem.W.Frag) (J:It) (Hs:Hp) (ps:List PV):Prop:=∀ (i:Nat) (H Hs':Hp),Same Hs Hs'→Same Hs' H →
 (i < ps.length→J.go i H∧∀ x H',J.yld i H x H'→H' = H∧∃ p,ps[i]? = some p∧Rep K Hs x p)∧(ps.length≤i→J.stop i H)
section
variable (X:Cx) (H0 Hs0:Hp)
def RI (d:DI):TI:=fun τ H R=>∃ Hs σ,SR X.K H0 Hs0 Hs H σ τ∧match d σ with
 | .ok ps=>∀ J Hs' H',Grow Hs H Hs' H'→JOk X.K J Hs' ps→R J H'
 | .err c=>ErrOk X H0 Hs0 c
 | .stuck=>False
def QI (tg e:Expr) (d:DI):Prop:=PI X tg e (RI X H0 Hs0 d)
abbrev DG:=PV→PSt→Res PSt
def RG (g:DG):TG:=fun v τ H Q=>∃ Hs σ p,SR X.K H0 Hs0 Hs H σ τ∧Rep X.K Hs v p∧match g p σ with
 | .ok σ'=>∀ Hs' H' τ',Same Hs Hs'→SR X.K H0 Hs0 Hs' H' σ' τ'→Q τ' H'
 | _=>False
def QG (e:Expr) (g:DG):Prop:=PG X e (RG X H0 Hs0 g)
end
theorem PI.imp {X:Cx} {tg e:Expr} {t t':TI} (h:PI X tg e t) (m:∀ τ H Q,t' τ H Q→t τ H Q):PI X tg e t':=fun pins s σ H Q I q=>h pins s σ H Q I (m _ _ _ q)
theorem PG.imp {X:Cx} {e:Expr} {t t':TG} (h:PG X e t) (m:∀ v τ H Q,t' v τ H Q→t v τ H Q):PG X e t':=fun pins s σ H v u Q I r q=>h pins s σ H v u Q I r (m _ _ _ _ q)
def asSeq:PV→Res (List PV)
 | .tup ps=>.ok ps
 | .lst ps=>.ok ps
 | .scr ns=>.ok (ns.map PV.int)
 | _=>.stuck
def itE (d:DE):DI:=fun σ=>(d σ).bind asSeq
def rangeL (lo c:Int) (n:Nat):List PV:=(List.range n).map fun (i:Nat)=>PV.int (lo + i * c)
def asRange1:List PV→Res (List PV)
 | [.int j]=>if -(2 ^ 61)≤j∧j < 2 ^ 61 then .ok (rangeL 0 1 j.toNat) else .stuck
 | _=>.stuck
def itR (f:List PV→Res (List PV)) (a:DA):DI:=fun σ=>(a σ).bind f
section
variable {X:Cx} {H0 Hs0:Hp} {tg a b c:Expr} {da:DE} {ra:DA} {pos p:Pos}
theorem jok_list {K:PySem.W.Frag} {Hs:Hp} {ad:Addr} {vs:List V} {ps:List PV} (h:SqL K Hs ad vs) (r:Reps K Hs vs ps):JOk K (Itl K ad) Hs ps:=by
 intro i H Hs' e1 e2
 have hq:SqL K H ad vs:=(e1.trans e2).seq h
 refine ⟨fun hi=>?_,fun hi=>⟨vs,hq,by rw [r.length]; exact hi⟩⟩
 have hp:ps[i]? = some ps[i]:=List.getElem?_eq_getElem hi
 obtain ⟨v,hv,rv⟩:=r.get hp
 refine ⟨⟨vs,v,hq,hv⟩,fun x H' ⟨e,y⟩=>⟨e,_,hp,?_⟩⟩
 have:=y vs hq
 rw [hv] at this
 cases this
 exact rv
theorem jok_tup {K:PySem.W.Frag} {Hs:Hp} {ad:Addr} {vs:List V} {ps:List PV} (h:SqT K Hs ad vs) (r:Reps K Hs vs ps):JOk K (Itt K ad) Hs ps:=by
 intro i H Hs' e1 e2
 have hq:SqT K H ad vs:=same_seqT (e1.trans e2) h
 refine ⟨fun hi=>?_,fun hi=>⟨vs,hq,by rw [r.length]; exact hi⟩⟩
 have hp:ps[i]? = some ps[i]:=List.getElem?_eq_getElem hi
 obtain ⟨v,hv,rv⟩:=r.get hp
 refine ⟨⟨vs,v,hq,hv⟩,fun x H' ⟨e,y⟩=>⟨e,_,hp,?_⟩⟩
 have:=y vs hq
 rw [hv] at this
 cases this
 exact rv
theorem jok_range1 {K:PySem.W.Frag} {Hs:Hp} {lo:Int} {n:Nat}:JOk K (Itr lo n) Hs (rangeL lo 1 n):=by
 intro i H Hs' e1 e2
 have hl:(rangeL lo 1 n).length = n:=by simp [rangeL]
 rw [hl]
 refine ⟨fun hi=>⟨hi,fun x H' ⟨e,y⟩=>⟨e,.int (lo + i),?_,?_⟩⟩,fun hi=>hi⟩
 ·simp [rangeL,hi]
 ·rw [y]; exact .int _
theorem qi_seq (ha:QE X H0 Hs0 a da):QI X H0 Hs0 tg a (itE da):=by
 intro pins s τ H R I ⟨Hs,σ,S,h⟩
 unfold itE at h
 cases e:da σ with
 | ok q =>
  rw [e] at h
  cases q with
  | lst ps =>
   exact pi_list ha pins s τ H R I ⟨Hs,σ,S,by
    rw [e]
    intro v Hs' H' g r
    obtain ⟨ad,vs,rfl,hl,rr⟩:=r.lst_inv
    exact ⟨ad,rfl,⟨vs,SqL.of (g.i _ _ hl)⟩,h _ Hs' H' g (jok_list (SqL.of hl) rr)⟩⟩
  | scr ns =>
   exact pi_list ha pins s τ H R I ⟨Hs,σ,S,by
    rw [e]
    intro v Hs' H' g r
    obtain ⟨ad,rfl,hl⟩:=r.scr_inv
    exact ⟨ad,rfl,⟨_,g.i.seq hl⟩,h _ Hs' H' g (jok_list hl (Reps.ints ns))⟩⟩
  | tup ps =>
   exact pi_tup ha pins s τ H R I ⟨Hs,σ,S,by
    rw [e]
    intro v Hs' H' g r
    obtain ⟨ad,vs,rfl,hl,rr⟩:=r.tup_inv
    exact ⟨ad,rfl,⟨vs,same_seqT g.i hl⟩,h _ Hs' H' g (jok_tup hl rr)⟩⟩
  | _=>exact h.elim
 | err c =>
  rw [e] at h
  exact pi_list ha pins s τ H R I ⟨Hs,σ,S,by rw [e]; exact h⟩
 | stuck=>rw [e] at h; exact h.elim
theorem range_read {f:List PV→Res (List PV)} {τ:L2.St} {H:Hp} {R:It→Hp→Prop} (h:RI X H0 Hs0 (itR f ra) τ H R) :
  RA X H0 Hs0 ra τ H fun vs H1=>∃ Hs ps,Same Hs H1∧Reps X.K Hs vs ps∧match f ps with
   | .ok qs=>∀ J Hs' H',Grow Hs H1 Hs' H'→JOk X.K J Hs' qs→R J H'
   | .err c=>ErrOk X H0 Hs0 c
   | .stuck=>False:=by
 obtain ⟨Hs,σ,S,h⟩:=h
 refine ⟨Hs,σ,S,?_⟩
 unfold itR at h
 generalize ra σ = r at h ⊢
 cases r with
 | ok ps =>
  intro vs Hs' H' g r
  refine ⟨Hs',ps,g.i,r,?_⟩
  have h:(match f ps with
   | .ok ps=>∀ J Hs' H',Grow Hs H Hs' H'→JOk X.K J Hs' ps→R J H'
   | .err c=>ErrOk X H0 Hs0 c
   | .stuck=>False):=h
  cases e:f ps with
  | ok qs=>rw [e] at h; exact fun J Hs2 H2 g2 j=>h J Hs2 H2 (g.trans g2) j
  | err c=>rw [e] at h; exact h
  | stuck=>rw [e] at h; exact h
 | err c=>exact h
 | stuck=>exact h
theorem qi_range1 (hg:Gl X "range") (hm:X.mg "range" = none) (ha:QA X H0 Hs0 [a] ra) (hs:starEach [a] X.env = [(false,eval a X.env)]):QI X H0 Hs0 tg (.Call (.Name "range" p) [a] [] pos) (itR asRange1 ra) :=
 PI.imp (pi_range1 hg hm ha hs) fun τ H R h=>RA.mono (range_read h) fun vs H1 ⟨Hs,ps,i,r,h1⟩=>by
  unfold asRange1 at h1
  split at h1
  ·rename_i e
   split at e
   ·rename_i j
    obtain ⟨v,rfl,r1⟩:=r.one_inv
    cases r1.int_inv
    split at e
    ·rename_i hb
     cases e
     exact ⟨j,rfl,by omega,by omega,h1 _ Hs H1 (.refl i) jok_range1⟩
    ·cases e
   ·cases e
  ·rename_i e
   split at e
   ·split at e <;> cases e
   ·cases e
  ·exact h1.elim
def gN (i:Nat):DG:=fun p σ=>.ok (σ.set i (some (.sh p)))
theorem qg_name {i:Nat} {x:Str} (hN:X.N.Nodup) (hi:X.N[i]? = some x) (hx:Loc X.env.scope x) (hf:X.fn x = true∨X.env.scope.names.lookup x = some .local):QG X H0 Hs0 (.Name x pos) (gN i) :=
 PG.imp (pg_name hN hi hx hf) fun v τ H Q ⟨Hs,σ,p,S,r,h⟩=>h Hs H _ (Same.refl _) (S.set i r)
def setAll:List Nat→List PV→PSt→Res PSt
 | [],[],σ=>.ok σ
 | i::is,p::ps,σ=>setAll is ps (σ.set i (some (.sh p)))
 | _,_,_=>.stuck
def gT (is:List Nat):DG:=fun p σ=>match p with
 | .tup ps=>setAll is ps σ
 | _=>.stuck
def RGs (X:Cx) (H0 Hs0:Hp) (is:List Nat):TGs:=fun vs τ H Q=>∃ Hs σ ps,SR X.K H0 Hs0 Hs H σ τ∧Reps X.K Hs vs ps∧match setAll is ps σ with
 | .ok σ'=>∀ Hs' H' τ',Same Hs Hs'→SR X.K H0 Hs0 Hs' H' σ' τ'→Q τ' H'
 | _=>False
def QGs (X:Cx) (H0 Hs0:Hp) (es:List Expr) (is:List Nat):Prop:=PGs X es (RGs X H0 Hs0 is)
theorem PGs.imp {es:List Expr} {t t':TGs} (h:PGs X es t) (m:∀ v τ H Q,t' v τ H Q→t v τ H Q):PGs X es t':=fun pins s σ H v u Q I r q=>h pins s σ H v u Q I r (m _ _ _ _ q)
theorem qgs_nil:QGs X H0 Hs0 [] []:=PGs.imp pgs_nil fun vs τ H Q ⟨Hs,σ,ps,S,r,h⟩=>by
 cases r with
 | nil=>exact ⟨rfl,h Hs H τ (Same.refl _) S⟩
 | cons _ _=>exact h.elim
theorem qgs_cons {i:Nat} {is:List Nat} {x:Str} {es:List Expr} (hN:X.N.Nodup) (hi:X.N[i]? = some x) (hx:Loc X.env.scope x) (hf:X.fn x = true∨X.env.scope.names.lookup x = some .local) (h2:QGs X H0 Hs0 es is)
  (hs:(assignEach (.Name x pos::es) X.env).map (·.2) = assign (.Name x pos) X.env::(assignEach es X.env).map (·.2)):QGs X H0 Hs0 (.Name x pos::es) (i::is) :=
 PGs.imp (pgs_cons (pg_name hN hi hx hf) h2 hs) fun vs τ H Q ⟨Hs,σ,ps,S,r,h⟩=>by
  cases r with
  | nil=>exact h.elim
  | cons r t=>exact ⟨_,_,rfl,Hs,_,_,S.set i r,t,h⟩
theorem setAll_len:∀ {is:List Nat} {ps:List PV} {σ σ':PSt},setAll is ps σ = .ok σ'→ps.length = is.length
 | [],[],_,_,_=>rfl
 | _::is,_::ps,_,_,h=>congrArg (· + 1) (setAll_len (is:=is) (ps:=ps) h)
theorem qg_tup {es:List Expr} {is:List Nat} {k:Nat} (hc:X.calm = true) (h:QGs X H0 Hs0 es is) (hn:(assignEach es X.env).length = is.length) (hst:(assignEach es X.env).findIdx? (·.1) = none):QG X H0 Hs0 (.Tuple es k pos) (gT is) :=
 PG.imp (pg_tup hc h hn hst) fun v τ H Q ⟨Hs,σ,p,S,r,h⟩=>by
  unfold gT at h
  split at h
  ·rename_i σ' e
   split at e
   ·rename_i ps
    obtain ⟨ad,vs,rfl,ht,rr⟩:=r.tup_inv
    refine ⟨ad,vs,rfl,same_seqT S.g.i ht,by rw [rr.length]; exact setAll_len e,Hs,σ,ps,S,rr,?_⟩
    rw [e]; exact h
   ·cases e
  ·exact h.elim
def forS (g:DG) (b:DS):List PV→DS
 | [],σ=>.ok (.next σ)
 | p::ps,σ=>match g p σ with
  | .ok σ1=>(b σ1).bind fun f=>match f with
   | .next σ'=>forS g b ps σ'
   | .cont σ'=>forS g b ps σ'
   | .brk σ'=>.ok (.next σ')
   | .ret p=>.ok (.ret p)
  | _=>.stuck
def sFor (it:DI) (g:DG) (b:DS):DS:=fun σ=>(it σ).bind fun ps=>forS g b ps σ
theorem qs_for {iter:Expr} {sts:List Stmt} {d:DI} {g:DG} {bb:DS} (hp:PassesOwn (model X.prog X.w) X.A X.env X.xe) (hc:X.calm = true) (hi:QI X H0 Hs0 tg iter d) (hg:QG X H0 Hs0 tg g) (hb:QSs X H0 Hs0 sts bb)
  (hs:∀ x,foldedSetIterable iter X.env x = pure x):QS X H0 Hs0 (.For tg iter sts [] pos) (sFor d g bb) :=
 PS.imp (ps_for hp hc hi hg hb hs) fun D τ H ⟨Hs,σ,S,h⟩=>by
  refine ⟨Hs,σ,S,?_⟩
  unfold sFor at h
  generalize d σ = r at h ⊢
  cases r with
  | err c=>exact h
  | stuck=>exact h
  | ok ps =>
   intro J Hs1 H1 g1 jok
   have h:EndR X H0 Hs0 D Hs H (forS g bb ps σ):=h
   refine ⟨fun i m τ H=>∃ Hs' σ',SR X.K H0 Hs0 Hs' H σ' τ∧Same Hs1 Hs'∧m = ps.length - i∧i≤ps.length∧EndR X H0 Hs0 D Hs' H (forS g bb (ps.drop i) σ'),⟨ps.length,Hs1,σ,S.grow g1,Same.refl _,by simp,Nat.zero_le _,by simpa using h.same g1.s⟩,?_⟩
   rintro i m τ2 H2 ⟨Hs2,σ2,S2,e2,rfl,hi,h2⟩
   obtain ⟨j1,j2⟩:=jok i H2 Hs2 e2 S2.g.i
   by_cases hlt:i < ps.length
   ·obtain ⟨go,yl⟩:=j1 hlt
    refine .inr ⟨go,fun τ' H'=>∃ Hs' σ',SR X.K H0 Hs0 Hs' H' σ' τ'∧Same Hs1 Hs'∧EndR X H0 Hs0 D Hs' H' (forS g bb (ps.drop (i + 1)) σ'),fun τ' H' ⟨Hs',σ',a1,a2,a3⟩=>⟨ps.length - (i + 1),by omega,Hs',σ',a1,a2,rfl,by omega,a3⟩,fun x H' y=>?_⟩
    obtain ⟨rfl,p,hp',rp⟩:=yl x H' y
    rw [List.drop_eq_getElem_cons hlt] at h2
    have ep:ps[i] = p:=by rw [List.getElem?_eq_getElem hlt] at hp'; exact Option.some.inj hp'
    rw [ep] at h2
    refine ⟨Hs2,σ2,p,S2,rp.mono e2,?_⟩
    unfold forS at h2
    cases eg:g p σ2 with
    | ok σ3 =>
     rw [eg] at h2
     dsimp only at h2
     intro Hs3 H3 τ3 e3 S3
     refine ⟨Hs3,σ3,S3,?_⟩
     have h3:=EndR.same (H':=H3) h2 e3
     revert h3
     generalize bb σ3 = rb
     intro h3
     cases rb with
     | err c=>exact h3
     | stuck=>exact h3
     | ok f =>
      cases f with
      | next σ'=>exact fun Hs4 H4 τ4 e4 S4=>⟨Hs4,σ',S4,(e2.trans e3).trans e4,EndR.same (H':=H4) h3 e4⟩
      | cont σ'=>exact fun Hs4 H4 τ4 e4 S4=>⟨Hs4,σ',S4,(e2.trans e3).trans e4,EndR.same (H':=H4) h3 e4⟩
      | brk σ'=>exact h3
      | ret q=>exact h3
    | err c=>rw [eg] at h2; exact h2.elim
    | stuck=>rw [eg] at h2; exact h2.elim
   ·have e:i = ps.length:=by omega
    subst e
    refine .inl ⟨j2 (Nat.le_refl _),?_⟩
    rw [List.drop_length] at h2
    exact h2 Hs2 H2 τ2 (Same.refl _) S2
end
end G
namespace G
open PySem PySem.Spec PyProof.Rows L2
section
variable {prog:Program} {w:World} {A:Around} {E:Value→Shared→Prop} {s:Shared}
theorem draw_list {it l:Addr} {items:Array Value} (hne:l≠it):∀ (n i:Nat) (s:Shared) (Q:List Value→Shared→Prop),s.heap.IsListIter it l i→s.heap.IsList l items→i + n≤items.size →
  (∀ h',h'.IsListIter it l (i + n)→Heap.SameBut it s.heap h'→Q ((items.toList.drop i).take n) { s with heap:=h' })→wpAny (model prog w) A (draw (.ref it) n) Q E s
 | 0,i,s,Q,hit,_,_,hQ=>by
  show wpAny _ _ (pure []) Q E s
  exact wpAny_pure (by simpa using hQ s.heap hit (Heap.SameBut.refl ..))
 | n + 1,i,s,Q,hit,ht,hle,hQ=>by
  have hlt:i < items.size:=by omega
  show wpAny _ _ (pyNext (.ref it) >>= _) Q E s
  refine wpAny_bind (wpAny_pyNext_list_item hit ht (x:=items[i]) (by simp [hlt]) fun h₁ hit₁ hs₁=>?_)
  refine wpAny_bind (wpAny_holding (draw_list hne n (i + 1) _ _ hit₁ (ht.extBut hs₁.extBut hne) (by omega) fun h₂ hit₂ hs₂=>wpAny_pure ?_))
  have hd:items.toList.drop i = items[i]::items.toList.drop (i + 1):=by simp [List.drop_eq_getElem_cons,hlt]
  have:=hQ h₂ (by rw [show i + (n + 1) = i + 1 + n by omega]; exact hit₂) (hs₁.trans hs₂)
  rw [hd,List.take_succ_cons] at this
  exact this
theorem unpackItems_list {l:Addr} {items:Array Value} {Q:List Value→Shared→Prop} (hh:A.handled = none) (ht:s.heap.IsList l items)
  (hQ:∀ h',Heap.ExtBut s.heap.objs.size s.heap h'→Q items.toList { s with heap:=h' }):wpAny (model prog w) A (unpackItems (.ref l) items.size none) Q E s:=by
 have hlt:l≠s.heap.objs.size:=by obtain ⟨o,ho,_⟩:=ht; exact Nat.ne_of_lt (Heap.lt_size ho)
 unfold unpackItems
 refine wpAny_bind ?_
 ·unfold notIterableAtAll
  refine wpAny_bind (wpAny_specialOf ht.typeIs slot_list_iter.lookup ?_)
  refine wpAny_pure ?_
  simp only [Bool.false_eq_true,if_false]
  refine wpAny_bind (wpAny_holding (wpAny_pyIter_list ht ?_))
  have ht0:(s.heap.push { cls:=.type "list_iterator",data:=.fields #[.ref l,.int 0 0] }).IsList l items:=by
   obtain ⟨o,ho,r⟩:=ht
   exact ⟨o,Heap.get?_push_of_some _ ho,r⟩
  refine wpAny_bind (wpAny_holding (draw_list hlt items.size 0 _ _ ⟨_,Heap.get?_push_size _ rfl,rfl,rfl⟩ ht0 (by omega) fun h₁ hit₁ hs₁=>?_))
  have hall:List.take items.size (List.drop 0 items.toList) = items.toList:=by
   rw [List.drop_zero]; exact List.take_of_length_le (by simp)
  rw [hall]
  rw [if_neg (by simp)]
  have ht₁:h₁.IsList l items:=ht0.extBut hs₁.extBut hlt
  refine wpAny_bind (wpAny_holding (wpAny_pyNext_list_end hh hit₁ ht₁ (by simp) fun h₂ he₂=>?_))
  simp only [Option.isSome_none,Bool.false_eq_true,if_false]
  refine wpAny_pure (hQ h₂ fun b o hb e=>he₂ b o hb (hs₁.extBut b o hb (Heap.get?_push_of_some _ e)))
theorem assign_Tuple_list {env:Env} {elts:List Expr} {x1} {pos:Pos} {t:Addr} {items:Array Value} {Q:Unit→Shared→Prop} (hh:A.handled = none) (ht:s.heap.IsList t items)
  (hn:(assignEach elts env).length = items.size) (hstar:(assignEach elts env).findIdx? (·.1) = none)
  (h:∀ h',Heap.ExtBut s.heap.objs.size s.heap h'→wpAny (model prog w) A (assignInOrder ((assignEach elts env).map (·.2)) items.toList) Q E { s with heap:=h' }) :
  wpAny (model prog w) A (assign (.Tuple elts x1 pos) env (.ref t)) Q E s:=by
 rw [assign_Tuple]
 refine wpAny_bind (wpAny_standAt ?_)
 unfold unpack
 rw [hn,hstar]
 exact wpAny_bind (wpAny_holding (unpackItems_list hh ht h))
end
section
variable {X:Cx} {H0 Hs0:Hp} {a b c:Expr} {da db dc:DE} {pos:Pos}
def gLst (K:PySem.W.Frag) (n:Nat) (t:TGs):TG:=fun v σ H Q=>∃ a xs,v = .ref a∧SqL K H a xs∧xs.length = n∧t xs σ H Q
theorem pg_lst {es:List Expr} {k:Nat} {t:TGs} {n:Nat} (hc:X.calm = true) (h:PGs X es t) (hn:(assignEach es X.env).length = n) (hst:(assignEach es X.env).findIdx? (·.1) = none):PG X (.Tuple es k pos) (gLst X.K n t):=by
 intro pins s σ H v u Q I r hw
 obtain ⟨a,xs,e1,hq,hl,hw⟩:=hw
 subst e1
 cases r
 obtain ⟨its,rv,ht,hz⟩:=I.list hq
 refine assign_Tuple_list (I.ok.hd hc) ht.isList (by simp [hn,← hl,rv.length]) hst fun h' hx=>?_
 have I1:Inv X pins σ H { s with heap:=h' }:=I.kept (t':=s.toks) fun b o e=>hx b o (Nat.ne_of_lt (Heap.lt_size e)) e
 exact h pins _ σ H xs _ Q I1 (by simpa using rv) hw
def gU (is:List Nat):DG:=fun p σ=>match p with
 | .tup ps=>setAll is ps σ
 | .lst ps=>setAll is ps σ
 | _=>.stuck
theorem qg_unp {es:List Expr} {is:List Nat} {k:Nat} (hc:X.calm = true) (h:QGs X H0 Hs0 es is) (hn:(assignEach es X.env).length = is.length) (hst:(assignEach es X.env).findIdx? (·.1) = none):QG X H0 Hs0 (.Tuple es k pos) (gU is):=by
 intro pins s τ H v u Q I rv ⟨Hs,σ,p,S,r,hh⟩
 cases p with
 | tup ps=>exact qg_tup hc h hn hst pins s τ H v u Q I rv ⟨Hs,σ,.tup ps,S,r,hh⟩
 | lst ps =>
  refine pg_lst hc h hn hst pins s τ H v u Q I rv ?_
  obtain ⟨ad,vs,rfl,ht,rr⟩:=r.lst_inv
  have hh':(match setAll is ps σ with
   | .ok σ'=>∀ Hs' H' τ',Same Hs Hs'→SR X.K H0 Hs0 Hs' H' σ' τ'→Q τ' H'
   | _=>False):=hh
  cases e:setAll is ps σ with
  | ok σ'=>exact ⟨ad,vs,rfl,SqL.of (S.g.i _ _ ht),by rw [rr.length]; exact setAll_len e,Hs,σ,ps,S,rr,hh'⟩
  | err c=>rw [e] at hh'; exact hh'.elim
  | stuck=>rw [e] at hh'; exact hh'.elim
 | _=>exact hh.elim
theorem EndR.bindA {D:Ends} {Hs H:Hp} {r:Res (List PV)} {f:List PV→Res Fl} (h:EndR X H0 Hs0 D Hs H (r.bind f)) :
  Rets X.K Hs H r (ErrOk X H0 Hs0) fun v H1=>∃ Hs1 p,Grow Hs H Hs1 H1∧Reps X.K Hs1 v p∧EndR X H0 Hs0 D Hs1 H1 (f p):=by
 cases r with
 | ok p=>exact fun v Hs' H' g r=>⟨Hs',p,g,r,EndR.same (r:=f p) h g.s⟩
 | err c=>exact h
 | stuck=>exact h
theorem SR.setOwn {K:PySem.W.Frag} {Hs H:Hp} {σ:PSt} {τ:L2.St} {p:Addr} {vs:List V} {xs:List PV} (S:SR K H0 Hs0 Hs H σ τ) (i:Nat) (hp:H p = none) (r:Reps K Hs vs xs) :
  SR K H0 Hs0 Hs (upd H p (.lst vs)) (σ.set i (some (.own xs))) (τ.set i (some (.ref p))):=by
 have g:Grow Hs H Hs (upd H p (.lst vs)):=.newOwn S.g.i hp
 have far:∀ (j:Nat) (ys:List PV) (ad:Addr),σ[j]? = some (some (.own ys))→τ[j]? = some (some (.ref ad))→ad≠p:=fun j ys ad e1 e2 z=>by
  obtain ⟨v,e3,a',vs',rfl,h1,_⟩:=S.slot j _ e1
  rw [e2] at e3
  cases e3
  subst z
  rw [hp] at h1; cases h1
 refine ⟨S.g.trans g,fun j sv e=>?_,fun j k xs' ys' ad hjk e1 e2 e3=>?_,by rw [List.length_set,List.length_set]; exact S.len⟩
 ·rcases set_some e with ⟨rfl,e',hl⟩ | ⟨hne,e'⟩
  ·cases e'
   refine ⟨.ref p,by rw [List.getElem?_set_self (by rw [← S.len]; exact hl)],p,vs,rfl,upd_same,S.g.i.free hp,S.g.h.free hp,r⟩
  ·obtain ⟨w,e1,r1⟩:=S.slot j sv e'
   exact ⟨w,by rw [List.getElem?_set_ne (fun z=>hne z.symm)]; exact e1,r1.grow g⟩
 ·rcases set_some e1 with ⟨rfl,e',hl⟩ | ⟨hj,e1'⟩
  ·rw [List.getElem?_set_self (by rw [← S.len]; exact hl)] at e3
   cases e3
   rcases set_some e2 with ⟨rfl,_,_⟩ | ⟨hk,e2'⟩
   ·exact absurd rfl hjk
   ·rw [List.getElem?_set_ne (fun z=>hk z.symm)]
    exact fun z=>far k _ _ e2' z rfl
  ·rw [List.getElem?_set_ne (fun z=>hj z.symm)] at e3
   rcases set_some e2 with ⟨rfl,e',hl⟩ | ⟨hk,e2'⟩
   ·rw [List.getElem?_set_self (by rw [← S.len]; exact hl)]
    intro z
    cases z
    exact far j _ _ e1' e3 rfl
   ·rw [List.getElem?_set_ne (fun z=>hk z.symm)]
    exact S.inj j k _ _ ad hjk e1' e2' e3
def sOwn (i:Nat) (a:DA):DS:=fun σ=>(a σ).bind fun ps=>if ps.length≤10000000 then .ok (.next (σ.set i (some (.own ps)))) else .stuck
theorem qs_own {i:Nat} {x:Str} {es:List Expr} {lp pos':Pos} {ra:DA} (hN:X.N.Nodup) (hi:X.N[i]? = some x) (hx:Loc X.env.scope x) (ha:QA X H0 Hs0 es ra) (hs:swapsWith (.List es lp) (some (.Name x pos')) pos.line X.env = pure false)
  (hf:X.fn x = true∨X.env.scope.names.lookup x = some .local):QS X H0 Hs0 (.Assign [.Name x pos'] (.List es lp) pos) (sOwn i ra):=PS.imp (ps_set hN hi hx (pe_lst ha) hs hf) fun D τ H ⟨Hs,σ,S,h⟩ =>
 ⟨Hs,σ,S,Rets.mono (EndR.bindA h) fun vs H1 ⟨Hs1,ps,g1,r1,h1⟩=>by
  split at h1
  ·rename_i hl
   exact ⟨small7 (by rw [r1.length]; exact hl),fun p hp=>h1 Hs1 _ _ (Same.refl _) ((S.grow g1).setOwn i hp r1)⟩
  ·exact h1.elim⟩
theorem SR.write {K:PySem.W.Frag} {Hs H:Hp} {σ:PSt} {τ:L2.St} {ad:Addr} {vs':List V} {xs xs':List PV} (S:SR K H0 Hs0 Hs H σ τ) (i:Nat) (e:σ[i]? = some (some (.own xs))) (et:τ[i]? = some (some (.ref ad))) (hHs:Hs ad = none) (hH0:H0 ad = none) (r:Reps K Hs vs' xs') :
  SR K H0 Hs0 Hs (upd H ad (.lst vs')) (σ.set i (some (.own xs'))) τ:=by
 have sm:∀ {b:Addr},b≠ad→upd H ad (.lst vs') b = H b:=fun h=>upd_ne h
 refine ⟨⟨S.g.s,fun b o h=>?_,fun b o h=>?_,S.g.o⟩,fun j sv ej=>?_,fun j k xs1 ys1 a1 hjk e1 e2 e3=>?_,by rw [List.length_set]; exact S.len⟩
 ·rw [sm (ne_of_none h hHs)]; exact S.g.i b o h
 ·rw [sm (ne_of_none h hH0)]; exact S.g.h b o h
 ·rcases set_some ej with ⟨rfl,e',hl⟩ | ⟨hne,e'⟩
  ·cases e'
   exact ⟨_,et,ad,vs',rfl,upd_same,hHs,hH0,r⟩
  ·obtain ⟨w,e1,r1⟩:=S.slot j sv e'
   refine ⟨w,e1,?_⟩
   cases sv with
   | sh p=>exact r1
   | own ys =>
    obtain ⟨b,ws,rfl,h1,h2,h3,h4⟩:=r1
    refine ⟨b,ws,rfl,?_,h2,h3,h4⟩
    rw [sm]
    ·exact h1
    ·intro z
     subst z
     exact S.inj j i ys xs b hne e' e e1 et
 ·have o1:∃ z,σ[j]? = some (some (.own z)):=by
   rcases set_some e1 with ⟨rfl,_,_⟩ | ⟨_,e'⟩
   ·exact ⟨xs,e⟩
   ·exact ⟨_,e'⟩
  have o2:∃ z,σ[k]? = some (some (.own z)):=by
   rcases set_some e2 with ⟨rfl,_,_⟩ | ⟨_,e'⟩
   ·exact ⟨xs,e⟩
   ·exact ⟨_,e'⟩
  obtain ⟨z1,o1⟩:=o1
  obtain ⟨z2,o2⟩:=o2
  exact S.inj j k z1 z2 a1 hjk o1 o2 e3
def sApp (i:Nat) (d:DE):DS:=fun σ=>match σ[i]? with
 | some (some (.own xs))=>if xs.length < 10000000 then (d σ).bind fun p=>.ok (.next (σ.set i (some (.own (xs++[p]))))) else .stuck
 | _=>.stuck
theorem qs_app {i:Nat} {x:Str} {np apos cpos:Pos} (hN:X.N[i]? = some x) (hv:Vis X.env.scope x) (hd:(x == ("__debug__":Str)) = false) (hcd:(x == ("__classdict__":Str)) = false) (ha:QE X H0 Hs0 a da)
  (hbase:attributeBase (.Name x np) "append" X.env (eval (.Name x np) X.env) = eval (.Name x np) X.env)
  (hfew:((backTo cpos (starEach [a] X.env)).all (fun x=>!x.1) && (backToKw cpos (keywordEach [] X.env)).all (fun x=>x.1.isSome)
   && decide ([a].length + ([]:List Keyword).length + (if ([]:List Keyword).isEmpty then 0 else 1) < 30)) = true)
  (hline:(apos.endLine == cpos.line) = true) (hs:starEach [a] X.env = [(false,eval a X.env)]) (hplain:(backTo cpos (starEach [] X.env)).any (·.1) = false)
  (hsw:swapsWith (.Call (.Attribute (.Name x np) "append" apos) [a] [] cpos) none pos.line X.env = pure false) :
  QS X H0 Hs0 (.Expr (.Call (.Attribute (.Name x np) "append" apos) [a] [] cpos) pos) (sApp i da):=by
 intro pins s τ H D I ⟨Hs,σ,S,h⟩
 refine ps_expr (pe_bm PySem.F.plainAttrs_list PySem.F.slot_list_append PySem.F.type_list_append mt_append (pe_var hN hv hd hcd) (pa_cons ha pa_nil hs) hbase hfew hline hs hplain) hsw pins s τ H D I ?_
 unfold sApp at h
 split at h
 ·rename_i xs e
  split at h
  ·rename_i hl
   obtain ⟨v,e1,ad,vs,rfl,h1,h2,h3,h4⟩:=S.slot i _ e
   refine ⟨_,e1,.inl ⟨rfl,vs,SqL.of h1⟩,Hs,σ,S,Ret.mono (EndR.bind1 h) fun y H1 ⟨Hs1,p,g1,r1,hh⟩=>?_⟩
   have S1:=S.grow g1
   obtain ⟨v',e1',ad',vs',e2',h1',h2',h3',h4'⟩:=S1.slot i _ e
   rw [e1] at e1'
   cases e1'
   cases e2'
   refine ⟨ad,vs',y,rfl,rfl,h1',by rw [h4'.length,sizeLine_eq]; omega,hh Hs1 _ τ (Same.refl _) (S1.write i e e1 h2' h3' (h4'.append (.cons r1 .nil)))⟩
  ·exact h.elim
 ·exact h.elim
def sPop (i:Nat):DS:=fun σ=>match σ[i]? with
 | some (some (.own xs))=>if xs = [] then .stuck else .ok (.next (σ.set i (some (.own xs.dropLast))))
 | _=>.stuck
theorem Reps.dropLast {K:PySem.W.Frag} {H:Hp} {vs:List V} {ps:List PV} (r:Reps K H vs ps):Reps K H vs.dropLast ps.dropLast:=by
 rw [List.dropLast_eq_take,List.dropLast_eq_take,r.length]
 exact r.take _
end
end G
namespace G
open PySem PySem.Spec PyProof.Rows L2
section
variable {X:Cx} {H0 Hs0:Hp} {pos:Pos}
end
def start0 (m:Nat) (ps:List PV):PSt:=ps.map (fun p=>some (.sh p))++List.replicate (m - ps.length) none
def fin:Res Fl→Res PV
 | .ok (.ret p)=>.ok p
 | .ok (.next _)=>.ok .non
 | _=>.stuck
def runF (n m:Nat) (d:DS) (ps:List PV):Res PV:=if ps.length = n then fin (d (start0 m ps)) else .stuck
theorem runF_eq {n m:Nat} {d:DS} {ps:List PV} (h:ps.length = n):runF n m d ps = fin (d (start0 m ps)):=if_pos h
theorem runF_ne {n m:Nat} {d:DS} {ps:List PV} (h:ps.length≠n):runF n m d ps = .stuck:=if_neg h
theorem SR.start {K:PySem.W.Frag} {Hs H:Hp} {vs:List V} {ps:List PV} {N:List Str} (i:Same Hs H) (r:Reps K Hs vs ps) (hl:vs.length≤N.length):SR K H Hs Hs H (start0 N.length ps) (start N vs):=by
 have hlen:=r.length
 have get:∀ (j:Nat) (sv:SV),(start0 N.length ps)[j]? = some (some sv)→∃ p,sv = .sh p∧ps[j]? = some p:=by
  intro j sv e
  unfold start0 at e
  by_cases hj:j < ps.length
  ·rw [List.getElem?_append_left (by simpa using hj),List.getElem?_map] at e
   cases q:ps[j]? with
   | none=>rw [q] at e; cases e
   | some p=>rw [q] at e; cases e; exact ⟨p,rfl,rfl⟩
  ·rw [List.getElem?_append_right (by simpa using hj),List.getElem?_replicate] at e
   split at e <;> cases e
 refine ⟨.refl i,fun j sv e=>?_,fun j k xs ys a _ e1=>?_,?_⟩
 ·obtain ⟨p,rfl,hp⟩:=get j sv e
  obtain ⟨v,hv,rv⟩:=r.get hp
  refine ⟨v,?_,rv⟩
  have hj:j < vs.length:=(List.getElem?_eq_some_iff.mp hv).1
  unfold L2.start
  rw [List.getElem?_append_left (by simpa using hj),List.getElem?_map,hv]; rfl
 ·obtain ⟨p,z,_⟩:=get j _ e1
  cases z
 ·unfold start0 L2.start
  simp only [List.length_append,List.length_map,List.length_replicate]
  omega
section
variable {P:Program} {w:World} {K:PySem.W.Frag} {mg:Str→Option Value} {base:Heap}
theorem fun_okX {CX:CXT} {x qual:Str} {st:Stmt} {f:Addr} {fd:FuncData} {N ps:List Str} {k:Nat} {sp:Sp} (F:Fun K x qual st f fd) (S:FnScope N ps (defScope st)) (len:∀ vs H Q E,sp vs H Q E→vs.length = ps.length)
  (hbody:∀ (cdv:Value) (A:Around) (outer:List Env) (s:Shared) (H:Hp) (vs:List V) (Q:VK) (E:XK),Room k (A.deeper (envOfC qual (defScope st) s.heap.objs.size f cdv))→sp vs H Q E →
   ∃ t,PSs (cxOf CX P w K mg base N qual (defScope st) f cdv A outer s H E) (defBody st) t∧t { nx:=fun _ H'=>Q .non H',rt:=Q } (start N vs) H):FnOk P w K mg base CX (k + 1) f fd ps sp:=by
 obtain ⟨oc,od,kV,doc,pm,an,cdv,ct,osl,rfl,lk,hcd⟩:=F.ex
 exact fn_of lk hcd S len fun A outer s H vs Q E hr hsp=>hbody cdv A outer s H vs Q E hr hsp
theorem fn_ok {x qual:Str} {st:Stmt} {f:Addr} {fd:FuncData} {N ps:List Str} {k:Nat} {d:DS} (F:Fun K x qual st f fd) (S:FnScope N ps (defScope st))
  (hbody:∀ (cdv:Value) (A:Around) (outer:List Env) (s:Shared) (H Hs:Hp) (E:XK),Room k (A.deeper (envOfC qual (defScope st) s.heap.objs.size f cdv)) →
   QSs (cxOf (CXG P w) P w K mg base N qual (defScope st) f cdv A outer s H E).nox H Hs (defBody st) d) :
  FnOk P w K mg base (CXG P w) (k + 1) f fd ps (Fsp K ps.length (runF ps.length N.length d)):=by
 have hpl:ps.length≤N.length:=by have:=congrArg List.length S.pre; rw [List.length_take] at this; omega
 refine fun_okX F S (fun vs H Q E h=>h.1) (fun cdv A outer s H vs Q E hr h=>?_)
 obtain ⟨hl,Hs,qs,i,r,h⟩:=h
 refine ⟨_,PSs.nox (hbody cdv A outer s H Hs E hr),Hs,start0 N.length qs,SR.start i r (by omega),?_⟩
 rw [runF_eq (by rw [← r.length,hl])] at h
 generalize d (start0 N.length qs) = rr at h ⊢
 cases rr with
 | ok fl =>
  cases fl with
  | next σ'=>exact fun Hs' H' τ' _ S'=>h _ Hs' H' S'.g .non
  | ret p=>exact fun v Hs' H' g rv=>h v Hs' H' g rv
  | brk σ'=>exact h.elim
  | cont σ'=>exact h.elim
 | err c=>exact h.elim
 | stuck=>exact h
structure FunIn (P:Program) (w:World) (K:PySem.W.Frag) (mg:Str→Option Value) (base:Heap) (x:Str) (k:Nat) (m:List PV→Res PV):Prop where
 ex:∃ (a:Addr) (fd:FuncData) (ps:List Str),mg x = some (.ref a)∧PySem.W.keepIn K (.ref a) = true∧Binds K fd ps []∧(∀ qs,qs.length≠ps.length→m qs = .stuck)∧FnOk P w K mg base (CXG P w) k a fd ps (Fsp K ps.length m)
theorem fun_in {x:Str} {st:Stmt} {f:Addr} {fd:FuncData} {N ps:List Str} {k:Nat} {d:DS} (F:Fun K x x st f fd) (hm:mg x = some (.ref f)) (S:FnScope N ps (defScope st))
  (hb:∀ (kV doc pm:Value) (an:Option Addr) (cdv ct:Value) (us:List Value),us.length = ps.length→bindArgs (PySem.W.fnOf x x (defArgs st) (defBody st) (defScope st) .none kV doc pm an cdv ct) ⟨us,[]⟩ = pure (ps.zip us))
  (hbody:∀ (cdv:Value) (A:Around) (outer:List Env) (s:Shared) (H Hs:Hp) (E:XK),Room k (A.deeper (envOfC x (defScope st) s.heap.objs.size f cdv)) →
   QSs (cxOf (CXG P w) P w K mg base N x (defScope st) f cdv A outer s H E).nox H Hs (defBody st) d) :
  FunIn P w K mg base x (k + 1) (runF ps.length N.length d) :=
 ⟨f,fd,ps,hm,F.kp,F.binds hb,fun qs h=>runF_ne h,fn_ok F S hbody⟩
theorem FunIn.is {x:Str} {j:Nat} {m:List PV→Res PV} {X:Cx} {k:Nat} (F:FunIn X.prog X.w X.K X.mg X.base x j m) (hr:Room k X.A) (h:j≤k:=by decide):FunIs X x m:=by
 obtain ⟨a,fd,ps,h1,h2,h3,h4,h5⟩:=F.ex
 exact ⟨a,fd,ps,j,h1,h2,h3,hr.mono h,h4,h5⟩
structure DefAt (K:PySem.W.Frag) (x:Str) (st:Stmt):Prop where
 ex:∃ (f:Addr) (fd:FuncData),PySem.W.nsIn K mainGlobals x = some (some (.ref f))∧Fun K x x st f fd
theorem def_at {x:Str} {st:Stmt} {f:Addr} {oc:Value} {od an:Option Addr} {osl:Array (Option Value)} {kV doc pm cdv ct:Value} (a:PySem.W.nsIn K mainGlobals x = some (some (.ref f)))
  (l:K.lookup f = some ⟨oc,od,.func (PySem.W.fnOf x x (defArgs st) (defBody st) (defScope st) .none kV doc pm an cdv ct),osl⟩) (c:PySem.W.codeIn K cdv x = true) (k:PySem.W.keepIn K (.ref f) = true):DefAt K x st :=
 ⟨f,_,a,fun_mk l c k⟩
theorem law_walk {l:PySem.W.OpenLaw} {q:Program} {loose:List Str} {XP:(Str→Option Value)→Heap→Prop} {YP:World→Heap→Prop} {d:DefRec} {K:Params→PySem.W.Frag} {k:Nat} {m:List PV→Res PV} (hn:l.most = some 63) (hdf:d.params.defaults = [])
  (hr:Room k callerA) (hY:∀ (w:World) (h:Heap),YP w h→(K w.params).In h) (hd:d.name = "law")
  (F:∀ (w:World) (mg:Str→Option Value) (h:Heap),(K w.params).In h→h.Ns mainGlobals mg →
   ∃ (a:Addr) (fd:FuncData),mg "law" = some (.ref a)∧(∀ (s:Shared) (u:Value),BindsTo s fd ⟨[u],[]⟩ [("script",u)])∧∀ base:Heap,(K w.params).In base→base.Ns mainGlobals mg→FnOk l.prog w (K w.params) mg base (CXG l.prog w) k a fd ["script"] (Fsp (K w.params) 1 m))
  (hm:∀ ns:List Int,ns.length≤63→m [.scr ns] = .ok (.bl true)) :
  PySem.W.WalkO q loose XP YP l.row.toRowW d [] (fun f vs=>PySem.call f vs):=by
 refine L2.walk_of (n:=63) (k:=k) (x:="script") (CX:=fun w=>CXG l.prog w) (sp:=fun w=>Fsp (K w.params) 1 m) hn (by decide) hdf hr hY (fun w mg fa h KX G hmg=>?_) (fun w H a ns hl _ hS=>?_) fun _ _ _ _ _ ⟨_,_,_,_,_,_,_,_,_,_,_,z⟩=>z
 ·obtain ⟨a,fd,h1,h2,h3⟩:=F w mg h KX G
  rw [hd,h1] at hmg
  cases hmg
  exact ⟨fd,h2,h3⟩
 ·refine ⟨rfl,H,[.scr ns],Same.refl _,.cons (.scr hS) .nil,?_⟩
  rw [hm ns hl]
  exact fun v Hs' H' g r=>r.bl_inv
end
end G
namespace G
open PySem PySem.Spec PyProof.Rows L2
def noStar:Expr→Bool
 | .Starred _ _=>false
 | _=>true
def noComp:Expr→Bool
 | .ListComp ..=>false
 | .SetComp ..=>false
 | .DictComp ..=>false
 | _=>true
def noSet:Expr→Bool
 | .Set ..=>false
 | _=>true
def noSlice:Expr→Bool
 | .Slice ..=>false
 | _=>true
def valHead:Expr→Bool
 | .UnaryOp ..=>false
 | .BoolOp ..=>false
 | .IfExp ..=>false
 | .Compare ..=>false
 | _=>true
theorem star_cons {a:Expr} {es:List Expr} {env:Env} (h:noStar a = true):starEach (a::es) env = (false,eval a env)::starEach es env:=by
 cases a <;> first | rfl | cases h
theorem star_any {es:List Expr} {env:Env} {pos:Pos} (h:es.all noStar = true):(backTo pos (starEach es env)).any (·.1) = false:=by
 induction es with
 | nil=>rfl
 | cons a es ih =>
  rw [List.all_cons,Bool.and_eq_true] at h
  rw [star_cons h.1]
  show ((false || (backTo pos (starEach es env)).any (·.1)) = false)
  rw [ih h.2]; rfl
theorem swap_no {a:Expr} {t:Option Expr} {n:Nat} {env:Env} (h:noComp a = true):swapsWith a t n env = pure false:=by
 cases a <;> first | rfl | cases h
theorem fold_no {a:Expr} {env:Env} (h:noSet a = true):∀ x,foldedSetIterable a env x = pure x:=by
 intro x
 cases a <;> first | rfl | cases h
theorem plain_ix {b:Expr} (h:noSlice b = true):PlainIx b:=by
 intro o i
 cases b <;> first | rfl | cases h
theorem val_true {a:Expr} {env:Env} (h:valHead a = true):∀ whole,isTrue a env whole = (do let v ← whole; standAt a.pos; holding [v] (truthy v)):=by
 intro whole
 cases a <;> first | (cases h; done) | (unfold isTrue; rfl) | rfl
theorem marks_no {op:CmpOp} {b:Expr} (h:noSet b = true):behindInMarks op b = false:=by
 cases b <;> first | rfl | cases h
end G
namespace G
open PySem PySem.Spec PyProof.Rows L2
section
variable (X:Cx) (H0 Hs0:Hp)
structure XE (e:Expr) (d:DE):Prop where h:QE X H0 Hs0 e d
structure XA (e:List Expr) (d:DA):Prop where h:QA X H0 Hs0 e d
structure XT (e:Expr) (d:DT):Prop where h:QT X H0 Hs0 e d
structure XW (e:Expr) (d:DT):Prop where h:QW X H0 Hs0 e d
structure XS (e:Stmt) (d:DS):Prop where h:QS X H0 Hs0 e d
structure XB (e:List Stmt) (d:DS):Prop where h:QSs X H0 Hs0 e d
structure XI (tg e:Expr) (d:DI):Prop where h:QI X H0 Hs0 tg e d
structure XG (e:Expr) (d:DG):Prop where h:QG X H0 Hs0 e d
structure XGs (e:List Expr) (d:List Nat):Prop where h:QGs X H0 Hs0 e d
structure XO (e:Option Expr) (d:DO):Prop where h:QO X H0 Hs0 e d
end
theorem room20 {A:Around} {k:Nat} (hr:Room k A):A.units + 20 < cLine:=by have:=hr.un; omega
theorem bw_min:bootBuiltins "min" = some (.builtin "min"):=by decide +kernel
theorem bt_int:bootBuiltins "int" = some (.type "int"):=by decide +kernel
theorem bt_bool:bootBuiltins "bool" = some (.type "bool"):=by decide +kernel
theorem bt_tuple:bootBuiltins "tuple" = some (.type "tuple"):=by decide +kernel
theorem bt_list:bootBuiltins "list" = some (.type "list"):=by decide +kernel
theorem kn_int:"int"∈kindNames:=by decide
theorem kn_bool:"bool"∈kindNames:=by decide
theorem kn_tuple:"tuple"∈kindNames:=by decide
theorem kn_list:"list"∈kindNames:=by decide
structure Bi (mg:Str→Option Value):Prop where
 abs:mg "abs" = none
 len:mg "len" = none
 range:mg "range" = none
 max:mg "max" = none
 min:mg "min" = none
 isinstance:mg "isinstance" = none
 int:mg "int" = none
 bool:mg "bool" = none
 tuple:mg "tuple" = none
 list:mg "list" = none
 str:mg "str" = none
 dict:mg "dict" = none
 sorted:mg "sorted" = none
 set:mg "set" = none
 reversed:mg "reversed" = none
 zip:mg "zip" = none
 enumerate:mg "enumerate" = none
 all:mg "all" = none
 any:mg "any" = none
section
variable {X:Cx} {H0 Hs0:Hp} {a b c:Expr} {da db dc:DE} {pos:Pos} {ta tb:DT} {es rest:List Expr} {ra:DA} {st:Stmt} {sts ss2:List Stmt} {d1 d2:DS}
theorem xv (i:Nat) {x:Str} (hN:X.N[i]? = some x:=by rfl) (hv:Vis X.env.scope x:=by first | exact Or.inl rfl | exact Or.inr (Or.inl rfl) | exact Or.inr (Or.inr rfl)) (hd:(x == ("__debug__":Str)) = false:=by decide)
  (hcd:(x == ("__classdict__":Str)) = false:=by decide):XE X H0 Hs0 (.Name x pos) (eVar i):=⟨q_var hN hv hd hcd⟩
theorem xint {i j}:XE X H0 Hs0 (.Constant (.int i) j pos) (eC (.int i)):=⟨q_int⟩
theorem xbl {b j}:XE X H0 Hs0 (.Constant (.bool b) j pos) (eC (.bl b)):=⟨q_bl⟩
theorem xnon {j}:XE X H0 Hs0 (.Constant .none j pos) (eC .non):=⟨q_non⟩
theorem xop {op:Operator} {g:PV→PV→Res PV} (ho:OpP X (binaryOp op) g) (ha:XE X H0 Hs0 a da) (hb:XE X H0 Hs0 b db):XE X H0 Hs0 (.BinOp a op b pos) (e2 g da db):=⟨q_op ho ha.h hb.h⟩
theorem xneg (ha:XE X H0 Hs0 a da):XE X H0 Hs0 (.UnaryOp .USub a pos) (e1 pNeg da):=⟨q_neg ha.h⟩
theorem xnot (ha:XE X H0 Hs0 a da):XE X H0 Hs0 (.UnaryOp .Not a pos) (e1 pNot da):=⟨q_not ha.h⟩
theorem xcmp {op:CmpOp} {g:PV→PV→Res PV} (ho:OpP X (compareOp op) g) (ha:XE X H0 Hs0 a da) (hb:XE X H0 Hs0 b db) (hm:noSet b = true:=by rfl):XE X H0 Hs0 (.Compare a [op] [b] pos) (e2 g da db):=⟨q_cmp ho ha.h hb.h (marks_no hm)⟩
theorem xone {op:BoolOp} (ha:XE X H0 Hs0 a da):XE X H0 Hs0 (.BoolOp op [a] pos) da:=⟨q_one ha.h⟩
theorem xand (ha:XE X H0 Hs0 a da) (hb:XE X H0 Hs0 (.BoolOp .And (b::rest) pos) db):XE X H0 Hs0 (.BoolOp .And (a::b::rest) pos) (eAnd da db):=⟨q_and ha.h hb.h⟩
theorem xa0:XA X H0 Hs0 [] aNil:=⟨qa_nil⟩
theorem xa (ha:XE X H0 Hs0 a da) (hr:XA X H0 Hs0 es ra) (hs:noStar a = true:=by rfl):XA X H0 Hs0 (a::es) (aCons da ra):=⟨qa_cons ha.h hr.h (star_cons hs)⟩
theorem xtup {x1} (h:XA X H0 Hs0 es ra):XE X H0 Hs0 (.Tuple es x1 pos) (eA pTup ra):=⟨q_tup h.h⟩
theorem xcB {x:Str} {id:String} {p:Pos} {e:Expr} {g:List PV→Res PV} (hc:CallP X (.builtin id) g) (hm:X.mg x = none) (hv:bootBuiltins x = some (.builtin id)) (ha:XA X H0 Hs0 (e::es) ra) (hg:Gl X x:=by rfl)
  (hn:x≠"__name__":=by decide) (hdb:(x == ("__debug__":Str)) = false:=by decide) (he:noStar e = true:=by rfl) (hpl:es.all noStar = true:=by rfl) :
  XE X H0 Hs0 (.Call (.Name x p) (e::es) [] pos) (eA g ra):=⟨q_callB hc hg hm hv ha.h hn hdb (star_cons he) (star_any hpl)⟩
theorem xcT {x:Str} {T:String} {p:Pos} {e:Expr} {g:List PV→Res PV} (hc:CallP X (.type T) g) (hm:X.mg x = none) (hv:bootBuiltins x = some (.type T)) (ha:XA X H0 Hs0 (e::es) ra) (hg:Gl X x:=by rfl)
  (hn:x≠"__name__":=by decide) (hdb:(x == ("__debug__":Str)) = false:=by decide) (he:noStar e = true:=by rfl) (hpl:es.all noStar = true:=by rfl) :
  XE X H0 Hs0 (.Call (.Name x p) (e::es) [] pos) (eA g ra):=⟨q_callTy hc hg hm hv ha.h hn hdb (star_cons he) (star_any hpl)⟩
theorem xcF {x:Str} {p:Pos} {e:Expr} {m:List PV→Res PV} (F:FunIs X x m) (ha:XA X H0 Hs0 (e::es) ra) (hg:Gl X x:=by rfl)
  (hdb:(x == ("__debug__":Str)) = false:=by decide) (he:noStar e = true:=by rfl) (hpl:es.all noStar = true:=by rfl) :
  XE X H0 Hs0 (.Call (.Name x p) (e::es) [] pos) (eA (fun ps=>G.noErr (m ps)) ra):=⟨q_call F hg ha.h hdb (star_cons he) (star_any hpl)⟩
theorem xcI {T:String} {x:Str} {p1 p2:Pos} (ha:XE X H0 Hs0 a da) (hT:T∈kindNames) (hx:bootBuiltins x = some (.type T)) (hm:X.mg "isinstance" = none) (hm2:X.mg x = none) (hg:Gl X "isinstance":=by rfl) (hg2:Gl X x:=by rfl) (hn:x≠"__name__":=by decide)
  (hdb:(x == ("__debug__":Str)) = false:=by decide) (h1:noStar a = true:=by rfl):XE X H0 Hs0 (.Call (.Name "isinstance" p1) [a,.Name x p2] [] pos) (e1 (pIsi T) da):=⟨q_isi ha.h hT hx hg hm hg2 hm2 hn hdb (star_cons h1) rfl rfl⟩
theorem xiV (k:Nat) {x:Str} {np:Pos} (hb:XE X H0 Hs0 b db) (hN:X.N[k]? = some x:=by rfl) (hv:Vis X.env.scope x:=by first | exact Or.inl rfl | exact Or.inr (Or.inl rfl) | exact Or.inr (Or.inr rfl)) (hd:(x == ("__debug__":Str)) = false:=by decide)
  (hcd:(x == ("__classdict__":Str)) = false:=by decide) (hs:noSlice b = true:=by rfl):XE X H0 Hs0 (.Subscript (.Name x np) b pos) (eIxV k db):=⟨q_ixv hN hv hd hcd hb.h (plain_ix hs)⟩
theorem xlV (k:Nat) {x:Str} {np p:Pos} (hm:X.mg "len" = none) (hN:X.N[k]? = some x:=by rfl) (hv:Vis X.env.scope x:=by first | exact Or.inl rfl | exact Or.inr (Or.inl rfl) | exact Or.inr (Or.inr rfl)) (hd:(x == ("__debug__":Str)) = false:=by decide)
  (hcd:(x == ("__classdict__":Str)) = false:=by decide) (hg:Gl X "len":=by rfl):XE X H0 Hs0 (.Call (.Name "len" p) [.Name x np] [] pos) (eLenV k):=⟨q_lenv hN hv hd hcd hg hm rfl rfl⟩
theorem xo0:XO X H0 Hs0 none oNo:=⟨qo_none⟩
theorem xo (ha:XE X H0 Hs0 a da):XO X H0 Hs0 (some a) (oE da):=⟨qo_some ha.h⟩
theorem xsl {lo hi:Option Expr} {dl dh:DO} {p2:Pos} (ha:XE X H0 Hs0 a da) (hl:XO X H0 Hs0 lo dl) (hh:XO X H0 Hs0 hi dh):XE X H0 Hs0 (.Subscript a (.Slice lo hi none p2) pos) (eSl da dl dh):=⟨q_slice ha.h hl.h hh.h⟩
theorem xtc {op:CmpOp} {g:PV→PV→Res PV} (ho:OpP X (compareOp op) g) (ha:XE X H0 Hs0 a da) (hb:XE X H0 Hs0 b db) (hm:noSet b = true:=by rfl):XT X H0 Hs0 (.Compare a [op] [b] pos) (tV (e2 g da db)):=⟨qt_cmp ho ha.h hb.h (marks_no hm)⟩
theorem xtv (ha:XE X H0 Hs0 a da) (he:valHead a = true:=by rfl):XT X H0 Hs0 a (tV da):=⟨qt_val ha.h (val_true he)⟩
theorem xtn (ha:XT X H0 Hs0 a ta):XT X H0 Hs0 (.UnaryOp .Not a pos) (G.tNot ta):=⟨qt_not ha.h⟩
theorem xand1 (ha:XT X H0 Hs0 a ta):XW X H0 Hs0 (.BoolOp .And [a] pos) ta:=⟨qw_and1 ha.h⟩
theorem xor1 (ha:XT X H0 Hs0 a ta):XW X H0 Hs0 (.BoolOp .Or [a] pos) ta:=⟨qw_or1 ha.h⟩
theorem xand2 (ha:XT X H0 Hs0 a ta) (hb:XW X H0 Hs0 (.BoolOp .And (b::rest) pos) tb):XW X H0 Hs0 (.BoolOp .And (a::b::rest) pos) (G.tAnd ta tb):=⟨qw_and ha.h hb.h⟩
theorem xor2 (ha:XT X H0 Hs0 a ta) (hb:XW X H0 Hs0 (.BoolOp .Or (b::rest) pos) tb):XW X H0 Hs0 (.BoolOp .Or (a::b::rest) pos) (G.tOr ta tb):=⟨qw_or ha.h hb.h⟩
theorem xw (h:XW X H0 Hs0 a ta):XT X H0 Hs0 a ta:=⟨QW.qt h.h⟩
theorem xb0:XB X H0 Hs0 [] sNext:=⟨qss_nil⟩
theorem xb1 (h1:XS X H0 Hs0 st d1):XB X H0 Hs0 [st] d1:=⟨qss_one h1.h⟩
theorem xb (h1:XS X H0 Hs0 st d1) (h2:XB X H0 Hs0 sts d2):XB X H0 Hs0 (st::sts) (sSeq d1 d2):=⟨qss_cons h1.h h2.h⟩
theorem xret (ha:XE X H0 Hs0 a da):XS X H0 Hs0 (.Return (some a) pos) (sRet da):=⟨qs_ret ha.h⟩
theorem xstuck:XS X H0 Hs0 st (fun _=>.stuck):=⟨QS.stuck⟩
theorem xsif (hc:XT X H0 Hs0 c ta) (h1:XB X H0 Hs0 sts d1) (h2:XB X H0 Hs0 ss2 d2):XS X H0 Hs0 (.If c sts ss2 pos) (sIf ta d1 d2):=⟨qs_if hc.h h1.h h2.h⟩
theorem xset (i:Nat) {x:Str} {pos':Pos} (ha:XE X H0 Hs0 a da) (hN:X.N.Nodup:=by assumption) (hi:X.N[i]? = some x:=by rfl) (hx:Loc X.env.scope x:=by first | exact Or.inl rfl | exact Or.inr rfl) (hs:noComp a = true:=by rfl)
  (hf:X.fn x = true∨X.env.scope.names.lookup x = some .local:=by first | exact Or.inl rfl | exact Or.inr rfl):XS X H0 Hs0 (.Assign [.Name x pos'] a pos) (sSet i da):=⟨qs_set hN hi hx ha.h (swap_no hs) hf⟩
theorem xown (i:Nat) {x:Str} {lp pos':Pos} (ha:XA X H0 Hs0 es ra) (hN:X.N.Nodup:=by assumption) (hi:X.N[i]? = some x:=by rfl) (hx:Loc X.env.scope x:=by first | exact Or.inl rfl | exact Or.inr rfl)
  (hf:X.fn x = true∨X.env.scope.names.lookup x = some .local:=by first | exact Or.inl rfl | exact Or.inr rfl):XS X H0 Hs0 (.Assign [.Name x pos'] (.List es lp) pos) (sOwn i ra):=⟨qs_own hN hi hx ha.h (swap_no rfl) hf⟩
theorem xwhile (hp:PassesOwn (model X.prog X.w) X.A X.env X.xe) (hc:XT X H0 Hs0 c ta) (hb:XB X H0 Hs0 sts d1):XS X H0 Hs0 (.While c sts [] pos) (sWhile ta d1):=⟨qs_while hp hc.h hb.h⟩
theorem xgn (i:Nat) {x:Str} (hN:X.N.Nodup:=by assumption) (hi:X.N[i]? = some x:=by rfl) (hx:Loc X.env.scope x:=by first | exact Or.inl rfl | exact Or.inr rfl) (hf:X.fn x = true∨X.env.scope.names.lookup x = some .local:=by first | exact Or.inl rfl | exact Or.inr rfl):XG X H0 Hs0 (.Name x pos) (gN i):=⟨qg_name hN hi hx hf⟩
theorem xseq {tg:Expr} (ha:XE X H0 Hs0 a da):XI X H0 Hs0 tg a (itE da):=⟨qi_seq ha.h⟩
theorem xr1 {tg:Expr} {p:Pos} (hm:X.mg "range" = none) (ha:XA X H0 Hs0 [a] ra) (hg:Gl X "range":=by rfl) (hs:noStar a = true:=by rfl):XI X H0 Hs0 tg (.Call (.Name "range" p) [a] [] pos) (itR asRange1 ra):=⟨qi_range1 hg hm ha.h (star_cons hs)⟩
theorem xfor {tg iter:Expr} {d:DI} {g:DG} {bb:DS} (hp:PassesOwn (model X.prog X.w) X.A X.env X.xe) (hi:XI X H0 Hs0 tg iter d) (hg:XG X H0 Hs0 tg g) (hb:XB X H0 Hs0 sts bb) (hc:X.calm = true:=by rfl) (hs:noSet iter = true:=by rfl) :
  XS X H0 Hs0 (.For tg iter sts [] pos) (sFor d g bb):=⟨qs_for hp hc hi.h hg.h hb.h (fold_no hs)⟩
end
section
variable {P:Program} {w:World} {K:PySem.W.Frag} {mg:Str→Option Value} {base h:Heap}
theorem def_in {x:Str} {st:Stmt} {N ps:List Str} {k:Nat} {d:DS} (D:DefAt K x st) (KI:K.In h) (GN:h.Ns mainGlobals mg) (S:FnScope N ps (defScope st))
  (hb:∀ (kV doc pm:Value) (an:Option Addr) (cdv ct:Value) (us:List Value),us.length = ps.length→bindArgs (PySem.W.fnOf x x (defArgs st) (defBody st) (defScope st) .none kV doc pm an cdv ct) ⟨us,[]⟩ = pure (ps.zip us))
  (hbody:∀ (f:Addr) (cdv:Value) (A:Around) (outer:List Env) (s:Shared) (H Hs:Hp) (E:XK),Room k (A.deeper (envOfC x (defScope st) s.heap.objs.size f cdv)) →
   XB (cxOf (CXG P w) P w K mg base N x (defScope st) f cdv A outer s H E).nox H Hs (defBody st) d):FunIn P w K mg base x (k + 1) (runF ps.length N.length d):=by
 obtain ⟨f,fd,a,F⟩:=D.ex
 exact fun_in F (PySem.W.mg_of KI GN a) S hb fun cdv A outer s H Hs E hr=>(hbody f cdv A outer s H Hs E hr).h
end
end G
namespace G
open PySem PySem.Spec PyProof.Rows L2
theorem law_of {P:Program} {w:World} {K:PySem.W.Frag} {mg:Str→Option Value} {h:Heap} {st:Stmt} {k:Nat} {m:List PV→Res PV} (D:DefAt K "law" st) (KI:K.In h) (GN:h.Ns mainGlobals mg)
  (hb:∀ (kV doc pm:Value) (an:Option Addr) (cdv ct:Value) (us:List Value),us.length = (["script"]:List Str).length→bindArgs (PySem.W.fnOf "law" "law" (defArgs st) (defBody st) (defScope st) .none kV doc pm an cdv ct) ⟨us,[]⟩ = pure ((["script"]:List Str).zip us))
  (all:∀ (base:Heap) (f:Addr) (fd:FuncData),Fun K "law" "law" st f fd→FnOk P w K mg base (CXG P w) k f fd ["script"] (Fsp K 1 m)) :
  ∃ (a:Addr) (fd:FuncData),mg "law" = some (.ref a)∧(∀ (s:Shared) (u:Value),BindsTo s fd ⟨[u],[]⟩ [("script",u)])∧∀ base:Heap,K.In base→base.Ns mainGlobals mg→FnOk P w K mg base (CXG P w) k a fd ["script"] (Fsp K 1 m):=by
 obtain ⟨f,fd,a,F⟩:=D.ex
 have hm:=PySem.W.mg_of KI GN a
 have F0:=F
 obtain ⟨oc,od,kV,doc,pm,an,cdv,ct,osl,rfl,lk,hcd⟩:=F.ex
 exact ⟨f,_,hm,fun s u=>.of_eq (hb kV doc pm an cdv ct [u] rfl),fun base _ _=>all base f _ F0⟩
theorem law_in {P:Program} {w:World} {K:PySem.W.Frag} {mg:Str→Option Value} {base:Heap} {st:Stmt} {f:Addr} {fd:FuncData} {N:List Str} {k:Nat} {d:DS} (F:Fun K "law" "law" st f fd) (S:FnScope N ["script"] (defScope st))
  (hbody:∀ (cdv:Value) (A:Around) (outer:List Env) (s:Shared) (H Hs:Hp) (E:XK),Room k (A.deeper (envOfC "law" (defScope st) s.heap.objs.size f cdv)) →
   XB (cxOf (CXG P w) P w K mg base N "law" (defScope st) f cdv A outer s H E).nox H Hs (defBody st) d):FnOk P w K mg base (CXG P w) (k + 1) f fd ["script"] (Fsp K 1 (runF 1 N.length d)) :=
 fn_ok F S fun cdv A outer s H Hs E hr=>(hbody cdv A outer s H Hs E hr).h
end G
namespace G
open PySem PySem.Spec PyProof.Rows L2
def closL (cells:List (Str × Addr)):List (Str × NameKind)→List (Str × Addr)→Option (List (Str × Addr))
 | [],acc=>some acc
 | (n,k)::r,acc=>if k = .free then (match cells.lookup n with
   | some a=>closL cells r ((n,a)::acc)
   | none=>none) else closL cells r acc
theorem clos_loop {env:Env}:∀ (names:List (Str × NameKind)) (acc cl:List (Str × Addr)),closL env.cells names acc = some cl →
  (forIn names acc fun x r=>(match x with | (name,kind)=>if (kind == NameKind.free) = true then do let a ← cellOf env name; pure (ForInStep.yield ((name,a)::r)) else pure (ForInStep.yield r):Sem (ForInStep (List (Str × Addr))))) = pure cl
 | [],acc,cl,h=>by
  have:acc = cl:=Option.some.inj h
  subst this
  rfl
 | (n,k)::r,acc,cl,h=>by
  rw [List.forIn_cons]
  unfold closL at h
  by_cases hk:k = .free
  ·subst hk
   rw [if_pos rfl] at h
   split at h
   ·rename_i a ha
    have ih:=clos_loop r ((n,a)::acc) cl h
    simp only [beq_self_eq_true,if_true,cellOf,ha,pure_bind]
    exact ih
   ·cases h
  ·rw [if_neg hk] at h
   have hk':(k == NameKind.free) = false:=by simpa using hk
   have ih:=clos_loop r acc cl h
   simp only [hk',Bool.false_eq_true,if_false,pure_bind]
   exact ih
theorem clos_for {env:Env} {scope:Scope} {cl:List (Str × Addr)} (h:closL env.cells scope.names [] = some cl):closureFor scope env = pure cl:=by
 unfold closureFor
 have:=clos_loop (env:=env) scope.names [] cl h
 exact (congrArg (fun t=>t >>= fun cs=>pure cs) this).trans (by rfl)
theorem clos_sub {cells:List (Str × Addr)}:∀ (names:List (Str × NameKind)) (acc cl:List (Str × Addr)),(∀ x c,acc.lookup x = some c→cells.lookup x = some c)→closL cells names acc = some cl→∀ x c,cl.lookup x = some c→cells.lookup x = some c
 | [],acc,cl,ha,h,x,c,e=>by
  have:acc = cl:=Option.some.inj h
  subst this
  exact ha x c e
 | (n,k)::r,acc,cl,ha,h,x,c,e=>by
  unfold closL at h
  split at h
  ·split at h
   ·rename_i a hn
    refine clos_sub r _ cl (fun y d hy=>?_) h x c e
    rw [List.lookup_cons] at hy
    split at hy
    ·rename_i hb
     have:y = n:=by simpa using hb
     subst this
     cases hy
     exact hn
    ·exact ha y d hy
   ·cases h
  ·exact clos_sub r acc cl ha h x c e
end G
namespace G
open PySem PySem.Spec PyProof.Rows L2
@[reducible] def cxC (X:Cx) (pins:List (Addr × Obj)) (scope:Scope) (cl:List (Str × Addr)) (C:Addr) (N:List Str) (fp:List Addr) (s:Shared) (H:Hp):Cx :=
 { X with env:=compEnvC scope cl C X.env,N:=N,s₀:=s,H₀:=H,outer:=X.stack,stack:=X.stack,ex:=fp,fn:=fun _=>false,pn:=X.pn++pins,xe:=fun _ _=>False }
def inn (k:Nat) (ix:List Nat) (σ:PSt):PSt:=List.replicate k none++ix.map fun i=>match σ[i]? with
 | some (some (.sh p))=>some (.sh p)
 | _=>none
def innV (k:Nat) (ix:List Nat) (τ:L2.St):L2.St:=List.replicate k none++ix.map fun i=>(τ[i]?).join
theorem repl_none {α:Type} {k j:Nat} {x:α} (h:(List.replicate k (none:Option α))[j]? = some (some x)):False:=by
 rw [List.getElem?_replicate] at h
 split at h <;> cases h
theorem inn_get {k:Nat} {ix:List Nat} {σ:PSt} {j:Nat} {sv:SV} (h:(inn k ix σ)[j]? = some (some sv)):∃ i p,k≤j∧ix[j - k]? = some i∧σ[i]? = some (some (.sh p))∧sv = .sh p:=by
 unfold inn at h
 by_cases hj:j < k
 ·rw [List.getElem?_append_left (by simpa using hj)] at h
  exact (repl_none h).elim
 ·rw [List.getElem?_append_right (by simpa using hj),List.length_replicate,List.getElem?_map] at h
  cases e:ix[j - k]? with
  | none=>rw [e] at h; cases h
  | some i =>
   rw [e] at h
   have h':(match σ[i]? with
    | some (some (.sh p))=>some (.sh p)
    | _=>none) = some sv:=Option.some.inj h
   split at h'
   ·rename_i p ep
    cases h'
    exact ⟨i,p,by omega,rfl,ep,rfl⟩
   ·cases h'
theorem innV_at {k:Nat} {ix:List Nat} {τ:L2.St} {j i:Nat} {v:V} (hj:k≤j) (e:ix[j - k]? = some i) (h:τ[i]? = some (some v)):(innV k ix τ)[j]? = some (some v):=by
 unfold innV
 rw [List.getElem?_append_right (by simpa using hj),List.length_replicate,List.getElem?_map,e]
 show some ((τ[i]?).join) = _
 rw [h]; rfl
theorem innV_get {k:Nat} {ix:List Nat} {τ:L2.St} {j:Nat} {v:V} (h:(innV k ix τ)[j]? = some (some v)):∃ i,k≤j∧ix[j - k]? = some i∧τ[i]? = some (some v):=by
 unfold innV at h
 by_cases hj:j < k
 ·rw [List.getElem?_append_left (by simpa using hj)] at h
  exact (repl_none h).elim
 ·rw [List.getElem?_append_right (by simpa using hj),List.length_replicate,List.getElem?_map] at h
  cases e:ix[j - k]? with
  | none=>rw [e] at h; cases h
  | some i =>
   rw [e] at h
   have h':(τ[i]?).join = some v:=Option.some.inj h
   refine ⟨i,by omega,rfl,?_⟩
   cases q:τ[i]? with
   | none=>rw [q] at h'; cases h'
   | some z=>rw [q] at h'; exact congrArg some h'
theorem SR.inn {K:PySem.W.Frag} {H0 Hs0 Hs H:Hp} {σ:PSt} {τ:L2.St} (S:SR K H0 Hs0 Hs H σ τ) (k:Nat) (ix:List Nat):SR K H Hs Hs H (G.inn k ix σ) (innV k ix τ):=by
 refine ⟨.refl S.g.i,fun j sv e=>?_,fun j l xs ys a _ e1=>?_,by simp [G.inn,innV]⟩
 ·obtain ⟨i,p,hj,e1,e2,rfl⟩:=inn_get e
  obtain ⟨v,e3,r⟩:=S.slot i _ e2
  exact ⟨v,innV_at hj e1 e3,r⟩
 ·obtain ⟨_,_,_,_,_,z⟩:=inn_get e1
  cases z
structure CompOk (X:Cx) (scope:Scope) (cl:List (Str × Addr)) (N:List Str) (k:Nat) (ix:List Nat):Prop where
 kind:scope.kind = .function
 nocell:∀ y∈scope.names,y.2≠.cell
 names:∀ y∈scope.names,y.2 = .local→scope.names.lookup y.1 = some .local
 clos:closL X.env.cells scope.names [] = some cl
 has:∀ x,((relabel scope X.env).names.lookup x = some .cell∨(relabel scope X.env).names.lookup x = some .free)→∃ c,cl.lookup x = some c
 nd:N.Nodup
 len:N.length = k + ix.length
 at':∀ (j i:Nat) (x:Str),ix[j]? = some i→N[k + j]? = some x→X.N[i]? = some x∧X.env.kindOf x = some .cell∧((relabel scope X.env).names.lookup x = some .cell∨(relabel scope X.env).names.lookup x = some .free)
section
variable {X:Cx} {pins:List (Addr × Obj)} {H0 Hs0 Hs H:Hp} {σ:PSt} {τ:L2.St} {s:Shared}
theorem stk_sub (I:Inv X pins τ H s) {p:Addr} (h1:p≠X.env.locals) (h2:p ∉ X.fs):p ∉ frs X.stack:=fun h=>(List.mem_cons.mp (I.stkSub p h)).elim h1 h2
theorem inv_comp {scope:Scope} {cl:List (Str × Addr)} {N:List Str} {k:Nat} {ix:List Nat} {fp:List Addr} {h4:Heap} {t4:Nat} (I:Inv X pins τ H s) (O:CompOk X scope cl N k ix) (hcalm:X.calm = true)
  (hfp:∀ b∈fp,FpOk X pins H b) (hfl:∀ b∈fp,b < s.heap.objs.size) (hns:h4.Ns s.heap.objs.size (fun _=>none)) (hk:∀ b o,s.heap.get? b = some o→h4.get? b = some o) :
  Inv (cxC X pins scope cl s.heap.objs.size N fp s H) [] (innV k ix τ) H { s with heap:=h4,toks:=t4 }:=by
 have sub:=clos_sub (cells:=X.env.cells) scope.names [] cl (fun x c e=>by cases e) O.clos
 have lt:∀ {b:Addr} {o:Obj},s.heap.get? b = some o→b≠s.heap.objs.size:=fun e=>Nat.ne_of_lt (Heap.lt_size e)
 have celln:∀ x c,cl.lookup x = some c→c≠s.heap.objs.size:=fun x c e=>by
  obtain ⟨v,o,ho,_⟩:=I.cell x c (sub x c e)
  exact lt ho
 refine ⟨⟨I.ok.mod,?_,I.ok.glob,I.ok.blt,Nat.le_refl _,fun x y c e1 e2=>I.ok.inj x y c (sub x c e1) (sub y c e2),fun x hx=>O.has x hx,fun x c hf=>?_,I.ok.hd,I.ok.frames,.inl rfl,fun b hb=>⟨?_,fun x c e=>(hfp b hb).2.2.2.2.1 x c (sub x c e)⟩,I.bs,Nat.le_trans I.ok.bsz I.sz,fun b o e hb=>?_,fun b hb=>stk_sub I (hfp b hb).2.1 (hfp b hb).2.2.1,I.stack,I.stkFree⟩,
  rfl,I.bare,Un.kept hk,⟨_,hns,fun j x v e1 e2 e3=>?_⟩,fun x c e=>?_,I.hok.fresh (Nat.le_refl _),fun x c e=>I.freeC x c (sub x c e),fun p hp=>?_,I.hok.kept hk,?_⟩
 ·show (relabel scope X.env).kind = .function
  exact O.kind
 ·cases hf
 ·exact Nat.ne_of_lt (hfl b hb)
 ·have e':=I.bs b o e
  obtain ⟨f0,f1,f2,f3,_⟩:=hfp b hb
  rcases f3 with z | z
  ·exact I.ok.noex b o e z
  ·have:=(I.ok.bs b o e).1
   exact absurd (Nat.lt_of_lt_of_le (Heap.lt_size this) z) (Nat.lt_irrefl _)
 ·obtain ⟨i,hj,ei,eτ⟩:=innV_get e2
  have ex:N[k + (j - k)]? = some x:=by rw [show k + (j - k) = j by omega]; exact e1
  obtain ⟨a1,a2,a3⟩:=O.at' (j - k) i x ei ex
  obtain ⟨m,hn,hl⟩:=I.loc
  obtain ⟨u,r,l⟩:=hl i x v a1 eτ (.inr (.inl a2))
  refine ⟨u,r,?_⟩
  rcases l with ⟨q,_⟩ | ⟨q,c,ec,z⟩
  ·rw [a2] at q; cases q
  ·obtain ⟨c',ec'⟩:=O.has x a3
   have:c' = c:=Option.some.inj ((sub x c' ec').symm.trans ec)
   subst this
   obtain ⟨o,ho,hd⟩:=z
   exact .inr ⟨a3,c',ec',o,hk _ _ ho,hd⟩
 ·obtain ⟨v,o,ho,hd⟩:=I.cell x c (sub x c e)
  exact ⟨v,o,hk _ _ ho,hd⟩
 ·have hp':p∈X.pn++pins:=by simpa [cxC] using hp
  obtain ⟨e,n,ne,nf,d⟩:=I.pin p hp'
  exact ⟨hk _ _ e,n,lt e,stk_sub I ne nf,d⟩
 ·show (innV k ix τ).length = N.length
  rw [O.len]; simp [innV]
end
end G
namespace G
open PySem PySem.Spec PyProof.Rows L2
theorem SR.weak {K:PySem.W.Frag} {H0 Hs0 Hs H:Hp} {σ σ':PSt} {τ:L2.St} (S:SR K H0 Hs0 Hs H σ τ) (w:∀ (j:Nat) (sv:SV),σ'[j]? = some (some sv)→σ[j]? = some (some sv)) (hl:σ'.length = σ.length):SR K H0 Hs0 Hs H σ' τ :=
 ⟨S.g,fun j sv e=>S.slot j sv (w j sv e),fun i j xs ys a hij e1 e2=>S.inj i j xs ys a hij (w i _ e1) (w j _ e2),hl.trans S.len⟩
theorem SR.hid {K:PySem.W.Frag} {H0 Hs0 Hs H:Hp} {σ:PSt} {τ:L2.St} {D:Addr} {o:HO} (S:SR K H0 Hs0 Hs H σ τ) (h1:Hs D = none) (h2:H0 D = none) (no:∀ (i:Nat) (xs:List PV),σ[i]?≠some (some (.own xs))):SR K H0 Hs0 Hs (upd H D o) σ τ:=by
 have sm:∀ {b:Addr},b≠D→upd H D o b = H b:=fun h=>upd_ne h
 refine ⟨⟨S.g.s,fun b u h=>?_,fun b u h=>?_,S.g.o⟩,fun j sv e=>?_,S.inj,S.len⟩
 ·rw [sm (ne_of_none h h1)]; exact S.g.i b u h
 ·rw [sm (ne_of_none h h2)]; exact S.g.h b u h
 ·obtain ⟨v,e1,r⟩:=S.slot j sv e
  cases sv with
  | sh p=>exact ⟨v,e1,r⟩
  | own xs=>exact absurd e (no j xs)
theorem inn_no {k:Nat} {ix:List Nat} {σ:PSt} (i:Nat) (xs:List PV):(inn k ix σ)[i]?≠some (some (.own xs)):=fun h=>by
 obtain ⟨_,_,_,_,_,z⟩:=inn_get h
 cases z
theorem SR.base' {K:PySem.W.Frag} {A B H0 Hs0 Hs H:Hp} {σ:PSt} {τ:L2.St} (S:SR K A B Hs H σ τ) (no:∀ (i:Nat) (xs:List PV),σ[i]?≠some (some (.own xs))) (g:Grow Hs0 H0 Hs H):SR K H0 Hs0 Hs H σ τ :=
 ⟨g,fun j sv e=>by
  obtain ⟨v,e1,r⟩:=S.slot j sv e
  cases sv with
  | sh p=>exact ⟨v,e1,r⟩
  | own xs=>exact absurd e (no j xs),fun i j xs ys a _ e1=>absurd e1 (no i xs),S.len⟩
theorem noErr_ok {r:Res PV} {q:PV} (h:noErr r = .ok q):r = .ok q:=by
 cases r with
 | ok p=>exact h
 | err c=>cases h
 | stuck=>cases h
def mapR (f:PV→Res PV):List PV→Res (List PV)
 | []=>.ok []
 | p::ps=>(f p).bind fun q=>(mapR f ps).bind fun qs=>.ok (q::qs)
def turnF (g:DG) (de:DE) (σ0:PSt) (p:PV):Res PV:=match g p σ0 with
 | .ok σ1=>noErr (de σ1)
 | _=>.stuck
def cVal (d:DI) (g:DG) (de:DE) (k:Nat) (ix:List Nat):PSt→Res (List PV):=fun σ=>(d σ).bind fun ps=>match mapR (turnF g de (inn k ix σ)) ps with
 | .ok qs=>if qs.length≤10000000 then .ok qs else .stuck
 | _=>.stuck
def eComp (d:DI) (g:DG) (de:DE) (k:Nat) (ix:List Nat):DE:=fun σ=>(cVal d g de k ix σ).bind fun qs=>.ok (.lst qs)
def sCompO (i:Nat) (d:DI) (g:DG) (de:DE) (k:Nat) (ix:List Nat):DS:=fun σ=>(cVal d g de k ix σ).bind fun qs=>.ok (.next (σ.set i (some (.own qs))))
theorem mapR_len {f:PV→Res PV}:∀ {ps qs:List PV},mapR f ps = .ok qs→qs.length = ps.length
 | [],qs,h=>by cases h; rfl
 | p::ps,qs,h=>by
  unfold mapR at h
  cases e:f p with
  | ok q =>
   rw [e] at h
   simp only [Res.bind_ok] at h
   cases e2:mapR f ps with
   | ok rs =>
    rw [e2] at h
    cases h
    rw [List.length_cons,List.length_cons,mapR_len e2]
   | err c=>rw [e2] at h; cases h
   | stuck=>rw [e2] at h; cases h
  | err c=>rw [e] at h; cases h
  | stuck=>rw [e] at h; cases h
theorem mapR_at {f:PV→Res PV}:∀ {ps qs:List PV},mapR f ps = .ok qs→∀ (i:Nat) (p:PV),ps[i]? = some p→∃ q,qs[i]? = some q∧f p = .ok q
 | [],qs,h,i,p,e=>by simp at e
 | p0::ps,qs,h,i,p,e=>by
  unfold mapR at h
  cases e1:f p0 with
  | ok q =>
   rw [e1] at h
   simp only [Res.bind_ok] at h
   cases e2:mapR f ps with
   | ok rs =>
    rw [e2] at h
    cases h
    cases i with
    | zero=>simp at e; subst e; exact ⟨q,rfl,e1⟩
    | succ i =>
     obtain ⟨q',h1,h2⟩:=mapR_at e2 i p (by simpa using e)
     exact ⟨q',by simpa using h1,h2⟩
   | err c=>rw [e2] at h; cases h
   | stuck=>rw [e2] at h; cases h
  | err c=>rw [e1] at h; cases h
  | stuck=>rw [e1] at h; cases h
section
variable {X:Cx} {pins:List (Addr × Obj)} {H0 Hs0:Hp} {σ:PSt} {τ:L2.St} {tg elt iter:Expr} {scope:Scope} {pos:Pos} {cl:List (Str × Addr)} {N:List Str} {k:Nat} {ix:List Nat} {g:DG} {de:DE}
theorem comp_run {Hs2 H2:Hp} {s2:Shared} {it:Addr} {fp:List Addr} {tn:Nat→Heap→Prop} {J:It} {ps qs:List PV} {h4:Heap} {t4:Nat} {RR:Result→Shared→Prop}
  (I2:Inv X pins τ H2 s2) (S2:SR X.K H0 Hs0 Hs2 H2 σ τ) (O:CompOk X scope cl N k ix) (hcalm:X.calm = true) (T:Turn X.prog X.w X.K tg J fp it tn) (st:tn 0 s2.heap) (fpok:∀ b∈fp,FpOk X pins H2 b) (jok:JOk X.K J Hs2 ps)
  (hg:∀ (C:Addr) (s:Shared) (H A B:Hp),QG (cxC X pins scope cl C N fp s H) A B tg g)
  (he:∀ (C:Addr) (s:Shared) (H A B:Hp),QE (cxC X pins scope cl C N fp s H) A B elt de)
  (gk:∀ p σ1,g p (inn k ix σ) = .ok σ1→(∀ (j:Nat) (sv:SV),(inn k ix σ)[j]? = some (some sv)→σ1[j]? = some (some sv))∧σ1.length = (inn k ix σ).length)
  (hm:mapR (turnF g de (inn k ix σ)) ps = .ok qs) (hl:qs.length≤10000000)
  (hns:h4.Ns (s2.heap.objs.size + 1) (fun _=>none)) (hsb:∀ b o,(s2.heap.push { cls:=.type "list",data:=.seq ([]:List Value).toArray }).get? b = some o→h4.get? b = some o)
  (hR:∀ (s':Shared) (Hs' H':Hp) (vs:List V) (m:Str→Option Value),Inv X pins τ H' s'→SR X.K H0 Hs0 Hs' H' σ τ→Same Hs2 Hs'→Grow Hs2 H2 Hs' H'→H' s2.heap.objs.size = some (.lst vs)→Hs' s2.heap.objs.size = none→H2 s2.heap.objs.size = none→Reps X.K Hs' vs qs→s'.heap.Ns (s2.heap.objs.size + 1) m →
   H' (s2.heap.objs.size + 1) = none→RR (.ok .next) s') :
  codeAny (model X.prog X.w) X.A (.compStart (.ListComp elt [⟨tg,iter,[],0⟩] scope pos) 0 (.ref it) (.ref s2.heap.objs.size) (compEnvC scope cl (s2.heap.objs.size + 1) X.env)) RR { s2 with heap:=h4,toks:=t4 }:=by
 have hD:H2 s2.heap.objs.size = none:=I2.hok.fresh (Nat.le_refl _)
 have hDs:Hs2 s2.heap.objs.size = none:=S2.g.i.free hD
 have I3:Inv X pins τ (upd H2 s2.heap.objs.size (.lst [])) { s2 with heap:=s2.heap.push { cls:=.type "list",data:=.seq ([]:List Value).toArray } }:=I2.lnew (its:=[]) (ys:=[]) (t':=s2.toks) .nil (by show 0≤sizeLine; exact Nat.zero_le _)
 have hsz:(s2.heap.push { cls:=.type "list",data:=.seq ([]:List Value).toArray }).objs.size = s2.heap.objs.size + 1:=Heap.size_push ..
 have fpl:∀ b∈fp,∃ o,s2.heap.get? b = some o:=fun b hb=>by obtain ⟨o,e,_⟩:=T.obj _ _ st b hb; exact ⟨o,e⟩
 have fpD:∀ b∈fp,b≠s2.heap.objs.size:=fun b hb=>by obtain ⟨o,e⟩:=fpl b hb; exact Nat.ne_of_lt (Heap.lt_size e)
 have fpok3:∀ b∈fp,FpOk X pins (upd H2 s2.heap.objs.size (.lst [])) b:=fun b hb=>⟨by rw [upd_ne (fpD b hb)]; exact (fpok b hb).1,(fpok b hb).2⟩
 have I4:=inv_comp (h4:=h4) (t4:=t4) (fp:=fp) I3 O hcalm fpok3 (fun b hb=>by obtain ⟨o,e⟩:=fpl b hb; exact Nat.lt_trans (Heap.lt_size e) (by rw [hsz]; exact Nat.lt_succ_self _)) (by rw [hsz]; exact hns) hsb
 rw [hsz] at I4
 generalize hX:cxC X pins scope cl (s2.heap.objs.size + 1) N fp { s2 with heap:=s2.heap.push { cls:=.type "list",data:=.seq ([]:List Value).toArray } } (upd H2 s2.heap.objs.size (.lst [])) = X' at I4
 have eA:X'.A = X.A:=by rw [← hX]
 have eP:X'.prog = X.prog:=by rw [← hX]
 have ew:X'.w = X.w:=by rw [← hX]
 have eK:X'.K = X.K:=by rw [← hX]
 have eE:X'.env = compEnvC scope cl (s2.heap.objs.size + 1) X.env:=by rw [← hX]
 have exe:X'.xe = fun _ _=>False:=by rw [← hX]
 have ecalm:X'.calm = true:=by rw [← hX]; exact hcalm
 have emg:X'.mg = X.mg:=by rw [← hX]
 have ebase:X'.base = X.base:=by rw [← hX]
 have eN:X'.N = N:=by rw [← hX]
 have stat:∀ {H':Hp},(∀ b∈fp,H' b = none)→∀ b∈fp,FpOk X' [] H' b:=fun {H'} hn b hb=>by
  obtain ⟨f0,f1,f2,f3,f4,f5⟩:=fpok b hb
  have sub:=clos_sub (cells:=X.env.cells) scope.names [] cl (fun x c e=>by cases e) O.clos
  obtain ⟨o,e⟩:=fpl b hb
  refine ⟨hn b hb,?_,?_,?_,fun x c ec=>?_,fun p hp=>?_⟩
  ·rw [eE]; exact Nat.ne_of_lt (Nat.lt_succ_of_lt (Heap.lt_size e))
  ·have:X'.fs = frs X.stack:=by rw [← hX]
   rw [this]; exact stk_sub I2 f1 f2
  ·exact .inl (by rw [← hX]; exact hb)
  ·rw [eE] at ec; exact f4 x c (sub x c ec)
  ·have:p∈X.pn++pins:=by rw [← hX] at hp; simpa [cxC] using hp
   exact f5 p this
 have st4:tn 0 h4:=T.keep _ _ _ st fun b hb o e=>hsb _ _ (Heap.get?_push_of_some _ e)
 have S4:SR X.K H2 Hs2 Hs2 (upd H2 s2.heap.objs.size (.lst [])) (inn k ix σ) (innV k ix τ):=(S2.inn k ix).hid hDs hD (fun i xs=>inn_no i xs)
 have hlen:=mapR_len hm
 have loop:∀ s5:Shared,s5 = { s2 with heap:=h4,toks:=t4 }→codeAny (model X.prog X.w) X.A (.compLoop (.ListComp elt [⟨tg,iter,[],0⟩] scope pos) 0 (.ref it) (.ref s2.heap.objs.size) (compEnvC scope cl (s2.heap.objs.size + 1) X.env)) RR s5:=by
  intro s5 hs5
  refine codeAny_loop rfl (fun n s'=>∃ i τ' Hs' H' vs,n + i = ps.length∧Inv X' [] τ' H' s'∧tn i s'.heap∧(∀ b∈fp,H' b = none)∧SR X.K H2 Hs2 Hs' H' (inn k ix σ) τ'∧H' s2.heap.objs.size = some (.lst vs)∧Hs' s2.heap.objs.size = none∧Reps X.K Hs' vs (qs.take i)) ?_ ps.length
   ⟨0,innV k ix τ,Hs2,_,[],rfl,hs5 ▸ I4,hs5 ▸ st4,fun b hb=>by rw [upd_ne (fpD b hb)]; exact (fpok b hb).1,S4,upd_same,hDs,.nil⟩
  rintro n s6 ⟨i,τ6,Hs6,H6,vs,hni,I6,st6,fr6,S6,hD6,hDs6,R6⟩
  show wpAny _ _ ((compTurn (.ListComp elt [⟨tg,iter,[],0⟩] scope pos) 0 (.ref it) (.ref s2.heap.objs.size) (compEnvC scope cl (s2.heap.objs.size + 1) X.env)).onRaise (fun x=>do noteFrame x (compEnvC scope cl (s2.heap.objs.size + 1) X.env); theTreesLotGoes x)) _ _ s6
  refine wpAny_noted ?_
  rw [compTurn_list1]
  refine wpAny_bind (wpAny_standAt ?_)
  refine wpAny_noRaise ?_
  obtain ⟨j1,j2⟩:=jok i H6 Hs6 S6.g.s S6.g.i
  change wpAny (model X.prog X.w) X.A _ _ _ s6
  by_cases hlt:i < ps.length
  ·obtain ⟨go,yl⟩:=j1 hlt
   have hp':ps[i]? = some ps[i]:=List.getElem?_eq_getElem hlt
   obtain ⟨q,hq,hf⟩:=mapR_at hm i ps[i] hp'
   have TI:=T.item X' eP ew eK ecalm i [] s6 τ6 H6 (fun _ _=>False) I6 (stat fr6) st6 go
   rw [eA] at TI
   refine wpAny_bind (thn TI fun r s7 ⟨u,hr,h7⟩=>?_)
   subst hr
   refine wpAny_bind (thn h7 fun _ s8 ⟨x,H8,I8,r8,y8,st8,fr8⟩=>?_)
   obtain ⟨rfl,p,ep,rp⟩:=yl x H8 y8
   have ep':ps[i] = p:=by rw [hp'] at ep; exact Option.some.inj ep
   subst ep'
   have I8':=I8.pinned (stat fr8) (T.obj _ _ st8)
   unfold turnF at hf
   have hg':QG X' H8 Hs6 tg g:=hX ▸ hg _ _ _ H8 Hs6
   have he':QE X' H8 Hs6 elt de:=hX ▸ he _ _ _ H8 Hs6
   have S8:SR X.K H8 Hs6 Hs6 H8 (inn k ix σ) τ6:=S6.base' (fun i xs=>inn_no i xs) (.refl S6.g.i)
   cases eg:g ps[i] (inn k ix σ) with
   | ok σ1 =>
    rw [eg] at hf
    have hf:noErr (de σ1) = .ok q:=hf
    obtain ⟨w1,w2⟩:=gk _ _ eg
    have hgr:=hg' _ s8 τ6 H8 x u (fun τ9 H9=>∃ Hs9,SR X.K H8 Hs6 Hs9 H9 σ1 τ9) I8' r8 ⟨Hs6,inn k ix σ,ps[i],eK ▸ S8,eK ▸ (rp.mono S6.g.s),by
     rw [eg]
     exact fun Hs' H' τ' e S'=>⟨Hs',eK ▸ S'⟩⟩
    rw [eP,ew,eA,eE,exe] at hgr
    refine wpAny_bind (thn hgr fun _ s9 ⟨τ9,H9,I9,Hs9,S9⟩=>?_)
    have her:=he' _ s9 τ9 H9 (fun y H10=>∃ Hs10,Grow Hs9 H9 Hs10 H10∧Rep X.K Hs10 y q) I9 ⟨Hs9,σ1,eK ▸ S9,by
     rw [noErr_ok hf]
     exact fun v Hs' H' g' r'=>⟨Hs',g',eK ▸ r'⟩⟩
    rw [eP,ew,eA,eE,exe] at her
    refine wpAny_bind (wpAny_bind (thn her fun y s10 ⟨y',H10,I10,ry,Hs10,g10,rq⟩=>?_))
    have g6:Grow Hs6 H8 Hs10 H10:=S9.g.trans g10
    have hD10:H10 s2.heap.objs.size = some (.lst vs):=g6.h _ _ hD6
    have hDs10:Hs10 s2.heap.objs.size = none:=g6.o _ (by rw [hD6]; exact fun z=>by cases z) hDs6
    have hvl:vs.length < sizeLine:=by
     rw [R6.length,sizeLine_eq,List.length_take]
     omega
    have hap:=mt_append (X:=X') _ s10 τ9 H10 (.ref s2.heap.objs.size) [y'] (.ref s2.heap.objs.size) [y] (fun _ H'=>H' = upd H10 s2.heap.objs.size (.lst (vs++[y']))) I10 rfl (.cons ry .nil) ⟨_,vs,y',rfl,rfl,hD10,hvl,rfl⟩
    rw [eP,ew,eA,exe] at hap
    refine wpAny_bind (thn hap fun _ s11 ⟨_,H11,I11,_,eH⟩=>wpAny_pure (wpAny_pure ⟨rfl,n - 1,by omega,i + 1,τ9,Hs10,H11,vs++[y'],by omega,I11.unpinned,?_,?_,?_,?_,hDs10,?_⟩))
    ·exact T.keep _ _ _ st8 fun b hb o e=>(I11.pin (b,o) (List.mem_append_right _ (List.mem_append_right _ (mem_pinsAt hb e)))).1
    ·intro b hb
     obtain ⟨o,e,_⟩:=T.obj _ _ st8 b hb
     exact (I11.pin (b,o) (List.mem_append_right _ (List.mem_append_right _ (mem_pinsAt hb e)))).2.1
    ·subst eH
     exact (((S9.weak w1 w2.symm).grow g10).base' (fun i xs=>inn_no i xs) (S6.g.trans g6)).hid hDs10 hD (fun i xs=>inn_no i xs)
    ·subst eH; exact upd_same
    ·rw [List.take_add_one,hq]
     exact (R6.mono g6.s).append (.cons rq .nil)
   | err c=>rw [eg] at hf; cases hf
   | stuck=>rw [eg] at hf; cases hf
  ·have TD:=T.done X' eP ew eK ecalm i [] s6 τ6 H6 (fun _ _=>False) I6 (stat fr6) st6 (j2 (by omega))
   rw [eA] at TD
   refine wpAny_bind (thn TD fun r s7 ⟨hr,I7⟩=>?_)
   subst hr
   refine wpAny_pure ?_
   have hfull:qs.take i = qs:=List.take_of_length_le (by omega)
   rw [hfull] at R6
   obtain ⟨m,hm7,_⟩:=I7.loc
   have hfree:=I7.free
   have hos:=I7.os
   have hun:=I7.base
   have hok:=I7.hok
   rw [eE] at hm7 hfree
   rw [eP,ew] at hok
   rw [← hX] at hos hun
   have I9:Inv X pins τ H6 s7:=I3.call' (ch:=fp) hos hun hok I7.bare fun b hb=>by
    obtain ⟨f0,f1,f2,f3,f4,f5⟩:=fpok b hb
    exact ⟨f3,f1,f4,f5⟩
   exact hR s7 Hs6 H6 vs m I9 (S2.grow S6.g) S6.g.s S6.g hD6 hDs6 hD R6 hm7 hfree
 exact codeAny_compStart_list (loop _ rfl) (T.self _ _ _ _ _ st4 (loop _ rfl))
end
end G
namespace G
open PySem PySem.Spec PyProof.Rows L2
section
variable {X:Cx} {pins:List (Addr × Obj)} {H0 Hs0:Hp} {σ:PSt} {τ:L2.St} {tg elt iter:Expr} {scope:Scope} {pos:Pos} {cl:List (Str × Addr)} {N:List Str} {k:Nat} {ix:List Nat} {g:DG} {de:DE} {d:DI}
theorem inv_off {H:Hp} {s:Shared} {C:Addr} {h':Heap} (I:Inv X pins τ H s) (f:FpOk X pins H C) (sb:Heap.SameBut C s.heap h'):Inv X pins τ H { s with heap:=h' }:=by
 obtain ⟨f0,f1,f2,f3,f4,f5⟩:=f
 have k:∀ b u,b≠C→s.heap.get? b = some u→h'.get? b = some u:=fun b u hb e=>(sb.2 b hb).trans e
 refine I.call' (ch:=[C]) rfl ⟨fun b o e _ _ hc=>k b o (by simpa using hc) e,fun b o e _ _ hc=>⟨o.slots,k b o (by simpa using hc) e⟩,fun _ _ _ n _=>n,fun b o e hc=>⟨o,k b o (by simpa using hc) e⟩,fun _ _ q=>q,fun _ _ _ q=>q,fun _ ps q=>⟨#[],by rw [q]; simp⟩⟩ (fun a o e=>?_) I.bare fun b hb=>?_
 ·refine (I.hok a o e).stay (fun b u hb q=>k b u (fun z=>?_) q) (fun _ q=>q) fun _ _ q=>q
  subst z
  rcases hb with rfl | hb
  ·rw [e] at f0; cases f0
  ·rw [hb] at f0; cases f0
 ·have:b = C:=by simpa using hb
  subst this
  exact ⟨f3,f1,f4,f5⟩
structure BlkOk (X:Cx) (tg elt:Expr) (scope:Scope) (cl:List (Str × Addr)) (N:List Str) (k:Nat) (ix:List Nat) (g:DG) (de:DE):Prop where
 O:CompOk X scope cl N k ix
 calm:X.calm = true
 hg:∀ (pins:List (Addr × Obj)) (fp:List Addr) (C:Addr) (s:Shared) (H A B:Hp),QG (cxC X pins scope cl C N fp s H) A B tg g
 he:∀ (pins:List (Addr × Obj)) (fp:List Addr) (C:Addr) (s:Shared) (H A B:Hp),QE (cxC X pins scope cl C N fp s H) A B elt de
 gk:∀ σ p σ1,g p (inn k ix σ) = .ok σ1→(∀ (j:Nat) (sv:SV),(inn k ix σ)[j]? = some (some sv)→σ1[j]? = some (some sv))∧σ1.length = (inn k ix σ).length
theorem blk {E:Value→Shared→Prop} {Hs2 H2:Hp} {s2:Shared} {it:Addr} {fp:List Addr} {tn:Nat→Heap→Prop} {J:It} {ps qs:List PV} {RR:Value→Addr→Result→Shared→Prop}
  (B:BlkOk X tg elt scope cl N k ix g de) (I2:Inv X pins τ H2 s2) (S2:SR X.K H0 Hs0 Hs2 H2 σ τ) (T:Turn X.prog X.w X.K tg J fp it tn) (st:tn 0 s2.heap) (fpok:∀ b∈fp,FpOk X pins H2 b) (jok:JOk X.K J Hs2 ps)
  (hm:mapR (turnF g de (inn k ix σ)) ps = .ok qs) (hl:qs.length≤10000000)
  (hR:∀ (s':Shared) (Hs' H':Hp) (vs:List V) (D C:Addr) (m:Str→Option Value),Inv X pins τ H' s'→SR X.K H0 Hs0 Hs' H' σ τ→Same Hs2 Hs'→Grow Hs2 H2 Hs' H'→H' D = some (.lst vs)→Hs' D = none→H2 D = none→Reps X.K Hs' vs qs→s'.heap.Ns C m →
   FpOk X pins H' C→RR (.ref D) C (.ok .next) s') :
  wpAny (model X.prog X.w) X.A (newList []) (fun acc s3=>wpAny (model X.prog X.w) X.A (newFunctionEnv scope X.env.globals cl [] X.env.qual none .none (some X.env)) (fun cenv s4 =>
   codeAny (model X.prog X.w) X.A (.compStart (.ListComp elt [⟨tg,iter,[],0⟩] scope pos) 0 (.ref it) acc { cenv with scope:=relabel scope X.env }) (RR acc cenv.locals) s4) E s3) E s2:=by
 refine wpAny_newObj_type (wpAny_newFunctionEnv B.O.nocell (by intro y hy; simp at hy) (fun h1 hns1 hsb1=>?_) B.O.kind)
 dsimp only at hns1 hsb1 ⊢
 have hsz:(s2.heap.push { cls:=.type "list",dict:=none,data:=.seq ([]:List Value).toArray }).objs.size = s2.heap.objs.size + 1:=Heap.size_push ..
 rw [hsz] at hns1 hsb1 ⊢
 refine comp_run (t4:=s2.toks + 0) I2 S2 B.O B.calm T st fpok jok (B.hg pins fp) (B.he pins fp) (B.gk σ) hm hl hns1 (fun b o e=>?_) (fun s' Hs' H' vs m I' S' e' gr h1' h2' h3' h4' h5' h6'=>?_)
 ·exact hsb1.extBut b o (Nat.ne_of_lt (by have:=Heap.lt_size e; rw [hsz] at this; exact this)) (Heap.get?_push_of_some _ e)
 ·exact hR s' Hs' H' vs _ _ m I' S' e' gr h1' h2' h3' h4' h5' (I2.fpOk (Nat.le_succ _) h6')
theorem same_lay {Hs:Hp} {D:Addr} {o:HO} (h:Hs D = none):Same Hs (upd Hs D o):=fun b u e=>by rw [upd_ne (ne_of_none e h)]; exact e
theorem Grow.lay {Hs H Hs' H':Hp} {D:Addr} {o:HO} (g:Grow Hs H Hs' H') (h1:H' D = some o) (h2:Hs' D = none) (h3:H D = none):Grow Hs H (upd Hs' D o) H' :=
 ⟨g.s.trans (same_lay h2),fun b u e=>by
  by_cases hb:b = D
  ·subst hb; rw [upd_same] at e; cases e; exact h1
  ·rw [upd_ne hb] at e; exact g.i b u e,g.h,fun x hx hn=>by
  have:x≠D:=fun z=>hx (z ▸ h3)
  rw [upd_ne this]; exact g.o x hx hn⟩
theorem cVal_ok {r:Res (List PV)} {f:List PV→Res (List PV)} {EO:Str→Prop} {K:PySem.W.Frag} {Hs H:Hp} {Q:VK} (h:Ret K Hs H ((r.bind f).bind fun qs=>.ok (.lst qs)) EO Q):(∃ c,r = .err c∧EO c)∨∃ ps,r = .ok ps∧Ret K Hs H ((f ps).bind fun qs=>.ok (.lst qs)) EO Q:=by
 cases r with
 | ok ps=>exact .inr ⟨ps,rfl,h⟩
 | err c=>exact .inl ⟨c,rfl,h⟩
 | stuck=>exact h.elim
theorem qe_comp (B:BlkOk X tg elt scope cl N k ix g de) (hi:QI X H0 Hs0 tg iter d) (hs:∀ x,foldedSetIterable iter X.env x = pure x) :
  QE X H0 Hs0 (.ListComp elt [⟨tg,iter,[],0⟩] scope pos) (eComp d g de k ix):=by
 intro pins s τ H Q I ⟨Hs,σ,S,h⟩
 rw [eval_ListComp]
 have h0:wpAny (model X.prog X.w) X.A (eval iter X.env) (fun v s1=>wpAny (model X.prog X.w) X.A (pyIter v) (PIE X pins τ tg fun J H2=>∃ Hs2 ps qs,Grow Hs H Hs2 H2∧JOk X.K J Hs2 ps∧mapR (turnF g de (inn k ix σ)) ps = .ok qs∧qs.length≤10000000∧Ret X.K Hs H (.ok (.lst qs)) (ErrOk X H0 Hs0) Q) X.xe s1) X.xe s:=by
  refine hi pins s τ H _ I ⟨Hs,σ,S,?_⟩
  rcases cVal_ok h with ⟨c,e,ec⟩ | ⟨ps,e,h1⟩
  ·rw [e]; exact ec
  ·rw [e]
   intro J Hs2 H2 g2 j2
   cases em:mapR (turnF g de (inn k ix σ)) ps with
   | ok qs =>
    simp only [em] at h1
    by_cases hl:qs.length≤10000000
    ·rw [if_pos hl] at h1
     exact ⟨Hs2,ps,qs,g2,j2,em,hl,h1⟩
    ·rw [if_neg hl] at h1
     exact h1.elim
   | err c=>simp only [em] at h1; exact h1.elim
   | stuck=>simp only [em] at h1; exact h1.elim
 refine wpAny_comprehension_free (use:=none) rfl hs (clos_for B.O.clos) B.O.kind B.O.names (wpAny_mono h0 (fun v s1 h1=>wpAny_mono h1 (fun itv s2 h2=>?_) fun _ _ e=>e) fun _ _ e=>e)
 obtain ⟨it,fp,tn,J,H2,rfl,I2,T,st,fpok,Hs2,ps,qs,g2,jok,hm,hl,hq⟩:=h2
 refine blk B I2 (S.grow g2) T st fpok jok hm hl fun s' Hs' H' vs D C m I' S' e' gr h1 h2 h3 h4 h5 h6=>?_
 refine ⟨m,h5,fun h' sb=>⟨.ref D,H',inv_off I' h6 sb,rfl,?_⟩⟩
 exact hq (.ref D) (upd Hs' D (.lst vs)) H' ((g2.trans gr).lay h1 h2 (g2.h.free h3)) (.lst upd_same (h4.mono (same_lay h2)))
theorem qs_compG {i:Nat} {x:Str} {pos' spos:Pos} {ds:DS} (B:BlkOk X tg elt scope cl N k ix g de) (hi:QI X H0 Hs0 tg iter d) (hs:∀ x,foldedSetIterable iter X.env x = pure x)
  (hN:X.N.Nodup) (hiN:X.N[i]? = some x) (hx:Loc X.env.scope x) (hf:X.fn x = true∨X.env.scope.names.lookup x = some .local)
  (hsw:swapsWith (.ListComp elt [⟨tg,iter,[],0⟩] scope pos) (some (.Name x pos')) spos.line X.env = pure true)
  (hd:∀ D σ τ Hs H,SR X.K H0 Hs0 Hs H σ τ→EndR X H0 Hs0 D Hs H (ds σ)→(∃ c,d σ = .err c∧ErrOk X H0 Hs0 c)∨∃ ps,d σ = .ok ps∧∃ qs,mapR (turnF g de (inn k ix σ)) ps = .ok qs∧qs.length≤10000000 ∧
   ∀ (Hs' H':Hp) (vs:List V) (a:Addr),SR X.K H0 Hs0 Hs' H' σ τ→Grow Hs H Hs' H'→H' a = some (.lst vs)→Hs' a = none→H a = none→Reps X.K Hs' vs qs→D.nx (τ.set i (some (.ref a))) H') :
  QS X H0 Hs0 (.Assign [.Name x pos'] (.ListComp elt [⟨tg,iter,[],0⟩] scope pos) spos) ds:=by
 intro pins s τ H D I ⟨Hs,σ,S,h⟩
 have h0:wpAny (model X.prog X.w) X.A (eval iter X.env) (fun v s1=>wpAny (model X.prog X.w) X.A (pyIter v) (PIE X pins τ tg fun J H2=>∃ Hs2 ps qs,Grow Hs H Hs2 H2∧JOk X.K J Hs2 ps∧mapR (turnF g de (inn k ix σ)) ps = .ok qs∧qs.length≤10000000 ∧
   ∀ (Hs' H':Hp) (vs:List V) (a:Addr),SR X.K H0 Hs0 Hs' H' σ τ→Grow Hs H Hs' H'→H' a = some (.lst vs)→Hs' a = none→H a = none→Reps X.K Hs' vs qs→D.nx (τ.set i (some (.ref a))) H') X.xe s1) X.xe s:=by
  refine hi pins s τ H _ I ⟨Hs,σ,S,?_⟩
  rcases hd D σ τ Hs H S h with ⟨c,e,ec⟩ | ⟨ps,e,qs,em,hl,h1⟩
  ·rw [e]; exact ec
  ·rw [e]
   exact fun J Hs2 H2 g2 j2=>⟨Hs2,ps,qs,g2,j2,em,hl,h1⟩
 rw [exec_Assign_Name_used _ _ _ _ hsw]
 refine wpAny_bind (wpAny_standAt (wpAny_bind ?_))
 show wpAny _ X.A (do let _ ← comprehension (.ListComp elt [⟨tg,iter,[],0⟩] scope pos) scope X.env _ (newList []) false (eval iter X.env) (some (assign (.Name x pos') X.env))) _ _ s
 refine wpAny_bind (wpAny_mono (wpAny_comprehension_free (use:=some (assign (.Name x pos') X.env)) (Q:=fun _ s'=>SP X pins D .next s') rfl hs (clos_for B.O.clos) B.O.kind B.O.names
  (wpAny_mono h0 (fun v s1 h1=>wpAny_mono h1 (fun itv s2 h2=>?_) fun _ _ e=>e) fun _ _ e=>e)) (fun _ s' hq=>wpAny_pure (wpAny_pure hq)) fun _ _ e=>e)
 obtain ⟨it,fp,tn,J,H2,rfl,I2,T,st,fpok,Hs2,ps,qs,g2,jok,hm,hl,hq⟩:=h2
 refine blk B I2 (S.grow g2) T st fpok jok hm hl fun s' Hs' H' vs a C m I' S' e' gr h1 h2 h3 h4 h5 h6=>?_
 show wpAny _ X.A (assign (.Name x pos') X.env (.ref a)) _ _ s'
 have h5':=h5
 obtain ⟨o,es,ep,ho,hdt,hrest⟩:=h5'
 have I'':=I'.pinned (fp:=[C]) (fun b hb=>by have:b = C:=(by simpa using hb); subst this; exact h6)
  (fun b hb=>by
  have:b = C:=by simpa using hb
  subst this
  exact ⟨o,ho,fun v z=>by rw [hdt] at z; cases z⟩)
 refine thn (pg_name hN hiN hx hf _ s' τ H' (.ref a) (.ref a) (fun τ' H''=>τ' = τ.set i (some (.ref a))∧H'' = H') I'' rfl ⟨rfl,rfl⟩) fun _ s'' ⟨τ',H'',I3,e1,e2⟩=>?_
 subst e1 e2
 have hC:=(I3.pin (C,o) (List.mem_append_right _ (List.mem_append_right _ (mem_pinsAt (by simp) ho)))).1
 have I4:=I3.unpinned
 refine ⟨m,⟨o,es,ep,hC,hdt,hrest⟩,fun h' sb=>?_⟩
 exact ⟨_,_,inv_off I4 h6 sb,hq Hs' H'' vs a S' (g2.trans gr) h1 h2 (g2.h.free h3) h4⟩
theorem SR.ownAt {Hs H Hs' H':Hp} {σ:PSt} {τ:L2.St} {a:Addr} {vs:List V} {xs:List PV} (S:SR X.K H0 Hs0 Hs H σ τ) (g:Grow Hs H Hs' H') (i:Nat) (h1:H' a = some (.lst vs)) (h2:Hs' a = none) (h3:H a = none) (r:Reps X.K Hs' vs xs) :
  SR X.K H0 Hs0 Hs' H' (σ.set i (some (.own xs))) (τ.set i (some (.ref a))):=by
 have far:∀ (j:Nat) (ys:List PV) (ad:Addr),σ[j]? = some (some (.own ys))→τ[j]? = some (some (.ref ad))→ad≠a:=fun j ys ad e1 e2 z=>by
  obtain ⟨v,e3,a',vs',rfl,q1,_⟩:=S.slot j _ e1
  rw [e2] at e3
  cases e3
  subst z
  rw [h3] at q1; cases q1
 refine ⟨S.g.trans g,fun j sv e=>?_,fun j k xs' ys' ad hjk e1 e2 e3=>?_,by rw [List.length_set,List.length_set]; exact S.len⟩
 ·rcases set_some e with ⟨rfl,e',hl⟩ | ⟨hne,e'⟩
  ·cases e'
   refine ⟨.ref a,by rw [List.getElem?_set_self (by rw [← S.len]; exact hl)],a,vs,rfl,h1,h2,S.g.h.free h3,r⟩
  ·obtain ⟨w,e1,r1⟩:=S.slot j sv e'
   exact ⟨w,by rw [List.getElem?_set_ne (fun z=>hne z.symm)]; exact e1,r1.grow g⟩
 ·rcases set_some e1 with ⟨rfl,e',hl⟩ | ⟨hj,e1'⟩
  ·rw [List.getElem?_set_self (by rw [← S.len]; exact hl)] at e3
   cases e3
   rcases set_some e2 with ⟨rfl,_,_⟩ | ⟨hk,e2'⟩
   ·exact absurd rfl hjk
   ·rw [List.getElem?_set_ne (fun z=>hk z.symm)]
    exact fun z=>far k _ _ e2' z rfl
  ·rw [List.getElem?_set_ne (fun z=>hj z.symm)] at e3
   rcases set_some e2 with ⟨rfl,_,hl⟩ | ⟨hk,e2'⟩
   ·rw [List.getElem?_set_self (by rw [← S.len]; exact hl)]
    exact fun z=>by cases z; exact far j _ _ e1' e3 rfl
   ·rw [List.getElem?_set_ne (fun z=>hk z.symm)]
    exact S.inj j k _ _ _ hjk e1' e2' e3
theorem cVal_s {D:Ends} {Hs H:Hp} {f:List PV→Fl} {σ:PSt} (h:EndR X H0 Hs0 D Hs H ((cVal d g de k ix σ).bind fun qs=>.ok (f qs))):(∃ c,d σ = .err c∧ErrOk X H0 Hs0 c)∨∃ ps,d σ = .ok ps∧∃ qs,mapR (turnF g de (inn k ix σ)) ps = .ok qs∧qs.length≤10000000∧EndR X H0 Hs0 D Hs H (.ok (f qs)):=by
 unfold cVal at h
 cases e:d σ with
 | err c=>rw [e] at h; exact .inl ⟨c,rfl,h⟩
 | stuck=>rw [e] at h; exact h.elim
 | ok ps =>
  rw [e] at h
  refine .inr ⟨ps,rfl,?_⟩
  cases em:mapR (turnF g de (inn k ix σ)) ps with
  | ok qs =>
   simp only [Res.bind_ok,em] at h
   by_cases hl:qs.length≤10000000
   ·rw [if_pos hl] at h
    exact ⟨qs,rfl,hl,h⟩
   ·rw [if_neg hl] at h
    exact h.elim
  | err c=>simp only [Res.bind_ok,em] at h; exact h.elim
  | stuck=>simp only [Res.bind_ok,em] at h; exact h.elim
variable {i:Nat} {x:Str} {pos' spos:Pos}
theorem qs_compO (B:BlkOk X tg elt scope cl N k ix g de) (hi:QI X H0 Hs0 tg iter d) (hs:∀ x,foldedSetIterable iter X.env x = pure x)
  (hN:X.N.Nodup) (hiN:X.N[i]? = some x) (hx:Loc X.env.scope x) (hf:X.fn x = true∨X.env.scope.names.lookup x = some .local)
  (hsw:swapsWith (.ListComp elt [⟨tg,iter,[],0⟩] scope pos) (some (.Name x pos')) spos.line X.env = pure true) :
  QS X H0 Hs0 (.Assign [.Name x pos'] (.ListComp elt [⟨tg,iter,[],0⟩] scope pos) spos) (sCompO i d g de k ix) :=
 qs_compG B hi hs hN hiN hx hf hsw fun D σ τ Hs H S h=>(cVal_s h).imp id fun ⟨ps,e,qs,em,hl,q⟩=>⟨ps,e,qs,em,hl,fun Hs' H' vs a S' gr h1 h2 h3 h4 =>
  q Hs' H' _ gr.s (S.ownAt gr i h1 h2 h3 h4)⟩
end
end G
namespace G
open PySem PySem.Spec PyProof.Rows L2
theorem closL_has {cells:List (Str × Addr)} {x:Str}:∀ (names:List (Str × NameKind)) (acc cl:List (Str × Addr)),closL cells names acc = some cl→((x,.free)∈names∨∃ c,acc.lookup x = some c)→∃ c,cl.lookup x = some c
 | [],acc,cl,h,hx=>by
  have:acc = cl:=Option.some.inj h
  subst this
  exact hx.elim (fun z=>by cases z) id
 | (n,k)::r,acc,cl,h,hx=>by
  unfold closL at h
  split at h
  ·rename_i hk
   split at h
   ·rename_i a hn
    refine closL_has r _ cl h ?_
    rcases hx with hx | ⟨c,hx⟩
    ·rcases List.mem_cons.mp hx with e | hx
     ·cases e
      exact .inr ⟨a,by simp [List.lookup_cons]⟩
     ·exact .inl hx
    ·refine .inr ?_
     rw [List.lookup_cons]
     split
     ·exact ⟨a,rfl⟩
     ·exact ⟨c,hx⟩
   ·cases h
  ·rename_i hk
   refine closL_has r acc cl h ?_
   rcases hx with hx | hx
   ·rcases List.mem_cons.mp hx with e | hx
    ·cases e
     exact absurd rfl hk
    ·exact .inl hx
   ·exact .inr hx
theorem lookup_mem' {x:Str} {q:NameKind}:∀ {names:List (Str × NameKind)},names.lookup x = some q→(x,q)∈names
 | [],h=>by simp at h
 | (n,k)::r,h=>by
  rw [List.lookup_cons] at h
  split at h
  ·rename_i hb
   have:x = n:=by simpa using hb
   subst this
   cases h
   exact List.mem_cons_self
  ·exact List.mem_cons_of_mem _ (lookup_mem' h)
theorem relabel_has {scope:Scope} {env:Env} {x:Str} {q:NameKind} (h:(relabel scope env).names.lookup x = some q):∃ k,(x,k)∈scope.names∧(q = k∨k = .free):=by
 have:=lookup_mem' h
 unfold relabel at this
 obtain ⟨⟨n,k⟩,h1,h2⟩:=List.mem_map.mp this
 dsimp only at h2
 split at h2
 ·rename_i hc
  cases h2
  simp only [Bool.and_eq_true,beq_iff_eq] at hc
  exact ⟨k,h1,.inr hc.1.1⟩
 ·cases h2
  exact ⟨_,h1,.inl rfl⟩
theorem relabel_free {env:Env} {x:Str}:∀ {names:List (Str × NameKind)},names.lookup x = some .free→env.scope.kind = .function→env.kindOf x = some .cell →
  (names.map fun (n,k)=>if (k == NameKind.free && env.scope.kind == .function && env.kindOf n == some .cell) then (n,NameKind.cell) else (n,k)).lookup x = some .cell
 | [],h,_,_=>by simp at h
 | (n,k)::r,h,h1,h2=>by
  have ih:=@relabel_free env x r
  rw [List.lookup_cons] at h
  rw [List.map_cons]
  dsimp only
  split at h
  ·rename_i hb
   have:x = n:=by simpa using hb
   subst this
   cases h
   rw [if_pos (by simp [h1,h2])]
   simp [List.lookup_cons]
  ·rename_i hb
   split
   ·rw [List.lookup_cons,hb]; exact ih h h1 h2
   ·rw [List.lookup_cons,hb]; exact ih h h1 h2
inductive CapOk (X:Cx) (scope:Scope):List Nat→List Str→Prop
 | nil:CapOk X scope [] []
 | cons {i:Nat} {x:Str} {ix:List Nat} {xs:List Str}:X.N[i]? = some x→X.env.kindOf x = some .cell→scope.names.lookup x = some .free→CapOk X scope ix xs→CapOk X scope (i::ix) (x::xs)
theorem cap0 {X:Cx} {scope:Scope}:CapOk X scope [] []:=.nil
theorem CapOk.len {X:Cx} {scope:Scope} {ix:List Nat} {xs:List Str} (c:CapOk X scope ix xs):xs.length = ix.length:=by
 induction c with
 | nil=>rfl
 | cons _ _ _ _ ih=>rw [List.length_cons,List.length_cons,ih]
theorem CapOk.at' {X:Cx} {scope:Scope} {ix:List Nat} {xs:List Str} (c:CapOk X scope ix xs):∀ (j i:Nat) (x:Str),ix[j]? = some i→xs[j]? = some x→X.N[i]? = some x∧X.env.kindOf x = some .cell∧scope.names.lookup x = some .free:=by
 induction c with
 | nil=>intro j i x h; simp at h
 | cons h1 h2 h3 _ ih =>
  intro j i x e1 e2
  cases j with
  | zero=>simp at e1 e2; subst e1 e2; exact ⟨h1,h2,h3⟩
  | succ j=>exact ih j i x (by simpa using e1) (by simpa using e2)
def clOf (X:Cx) (scope:Scope):List (Str × Addr):=(closL X.env.cells scope.names []).getD []
def scopeOk (scope:Scope):Prop:=(∀ y∈scope.names,y.2≠.cell)∧(∀ y∈scope.names,y.2 = .local→scope.names.lookup y.1 = some .local)
instance {scope:Scope}:Decidable (scopeOk scope):=by unfold scopeOk; exact inferInstance
theorem compOk {X:Cx} {scope:Scope} {own xs:List Str} {ix:List Nat} (hk:scope.kind = .function) (hs:scopeOk scope) (hX:X.env.scope.kind = .function) (hc:(closL X.env.cells scope.names []).isSome = true) (hn:(own++xs).Nodup) (c:CapOk X scope ix xs):CompOk X scope (clOf X scope) (own++xs) own.length ix:=by
 have hcl:closL X.env.cells scope.names [] = some (clOf X scope):=by
  unfold clOf
  cases e:closL X.env.cells scope.names [] with
  | none=>rw [e] at hc; cases hc
  | some cl=>rfl
 refine ⟨hk,hs.1,hs.2,hcl,fun x hx=>?_,hn,by rw [List.length_append,c.len],fun j i x e1 e2=>?_⟩
 ·have:(x,NameKind.free)∈scope.names:=by
   rcases hx with hx | hx
   ·obtain ⟨k,h1,h2⟩:=relabel_has hx
    rcases h2 with rfl | rfl
    ·exact absurd rfl (hs.1 _ h1)
    ·exact h1
   ·obtain ⟨k,h1,h2⟩:=relabel_has hx
    rcases h2 with rfl | rfl <;> exact h1
  exact closL_has _ _ _ hcl (.inl this)
 ·rw [List.getElem?_append_right (Nat.le_add_right _ _),Nat.add_sub_cancel_left] at e2
  obtain ⟨a1,a2,a3⟩:=c.at' j i x e1 e2
  exact ⟨a1,a2,.inl (relabel_free a3 hX a2)⟩
structure GK (k:Nat) (g:DG):Prop where
 h:∀ (ix:List Nat) (σ:PSt) (p:PV) (σ1:PSt),g p (inn k ix σ) = .ok σ1→(∀ (j:Nat) (sv:SV),(inn k ix σ)[j]? = some (some sv)→σ1[j]? = some (some sv))∧σ1.length = (inn k ix σ).length
theorem inn_low {k i:Nat} {ix:List Nat} {σ:PSt} (h:i < k) {sv:SV}:(inn k ix σ)[i]?≠some (some sv):=fun e=>by
 obtain ⟨_,_,h1,_⟩:=inn_get e
 omega
theorem gk_n {k i:Nat} (h:i < k:=by decide):GK k (gN i):=⟨fun ix σ p σ1 e=>by
 have e:σ1 = (inn k ix σ).set i (some (.sh p)):=by
  unfold gN at e
  first | (injection e with e; exact e.symm) | (cases e; rfl)
 subst e
 refine ⟨fun j sv hj=>?_,List.length_set⟩
 rw [List.getElem?_set_ne (fun z=>inn_low (h) (z ▸ hj))]
 exact hj⟩
section
variable {X:Cx} {H0 Hs0:Hp} {tg elt iter:Expr} {scope:Scope} {pos:Pos} {g:DG} {de:DE} {d:DI} {ix:List Nat} {xs:List Str}
theorem xblk (own:List Str) (c:CapOk X scope ix xs) (k:GK own.length g) (hg:∀ (pins:List (Addr × Obj)) (fp:List Addr) (C:Addr) (s:Shared) (H A B:Hp),(cxC X pins scope (clOf X scope) C (own++xs) fp s H).N.Nodup→XG (cxC X pins scope (clOf X scope) C (own++xs) fp s H) A B tg g)
  (he:∀ (pins:List (Addr × Obj)) (fp:List Addr) (C:Addr) (s:Shared) (H A B:Hp),(cxC X pins scope (clOf X scope) C (own++xs) fp s H).N.Nodup→XE (cxC X pins scope (clOf X scope) C (own++xs) fp s H) A B elt de)
  (hk:scope.kind = .function:=by rfl) (hs:scopeOk scope:=by decide +kernel) (hX:X.env.scope.kind = .function:=by rfl) (hc:(closL X.env.cells scope.names []).isSome = true:=by rfl) (hn:(own++xs).Nodup:=by decide) (hcalm:X.calm = true:=by rfl) :
  BlkOk X tg elt scope (clOf X scope) (own++xs) own.length ix g de :=
 ⟨compOk hk hs hX hc hn c,hcalm,fun pins fp C s H A B=>(hg pins fp C s H A B hn).h,fun pins fp C s H A B=>(he pins fp C s H A B hn).h,fun σ p σ1 e=>k.h ix σ p σ1 e⟩
theorem xcomp {cl:List (Str × Addr)} {N:List Str} {k:Nat} (B:BlkOk X tg elt scope cl N k ix g de) (hi:XI X H0 Hs0 tg iter d) (hs:noSet iter = true:=by rfl):XE X H0 Hs0 (.ListComp elt [⟨tg,iter,[],0⟩] scope pos) (eComp d g de k ix):=⟨qe_comp B hi.h (fold_no hs)⟩
theorem xscompO (i:Nat) {x:Str} {pos' spos:Pos} {cl:List (Str × Addr)} {N:List Str} {k:Nat} (B:BlkOk X tg elt scope cl N k ix g de) (hi:XI X H0 Hs0 tg iter d) (hN:X.N.Nodup:=by assumption) (hiN:X.N[i]? = some x:=by rfl) (hx:Loc X.env.scope x:=by first | exact Or.inl rfl | exact Or.inr rfl)
  (hf:X.fn x = true∨X.env.scope.names.lookup x = some .local:=by first | exact Or.inl rfl | exact Or.inr rfl) (hs:noSet iter = true:=by rfl)
  (hsw:swapsWith (.ListComp elt [⟨tg,iter,[],0⟩] scope pos) (some (.Name x pos')) spos.line X.env = pure true:=by rfl) :
  XS X H0 Hs0 (.Assign [.Name x pos'] (.ListComp elt [⟨tg,iter,[],0⟩] scope pos) spos) (sCompO i d g de k ix):=⟨qs_compO B hi.h (fold_no hs) hN hiN hx hf hsw⟩
end
end G
namespace G
open PySem PySem.Spec PyProof.Rows L2
theorem frs_mem {l:List Env}:∀ env∈l,∀ a,env.frame = some a→a∈frs l:=fun env he a hf=>List.mem_filterMap.mpr ⟨env,he,hf⟩
section
variable {P:Program} {w:World} {K:PySem.W.Frag} {mg:Str→Option Value} {base:Heap} {N:List Str} {qual:Str} {scope:Scope} {f:Addr} {cd:Value} {A:Around} {outer:List Env} {s:Shared} {H Hs:Hp} {E:XK} {c:Str}
theorem err_ok (hE:∀ (C:Addr) (Hs1 H1:Hp),ClsIs K c C→Grow Hs H Hs1 H1→E (.ref C) none H1):ErrOk (cxOf (CXG P w) P w K mg base N qual scope f cd A outer s H E) H Hs c:=by
 intro e s' ⟨pins,τ,H',s1,I,h⟩
 show wpAny (model P w) (A.deeper (envOfC qual scope s.heap.objs.size f cd)) (leaving (envOfC qual scope s.heap.objs.size f cd) e) (fun _ s''=>CXG P w outer H s E e s'') (fun e' s''=>CXG P w outer H s E e' s'') s'
 have u:Un (frs outer) [] H H' s.heap s1.heap:=I.base
 have hfr:(A.deeper (envOfC qual scope s.heap.objs.size f cd)).frames = some (envOfC qual scope s.heap.objs.size f cd::outer):=I.ok.frames
 have funs:s.heap.FunFrames base outer:=I.ok.funs
 have frf:∀ b∈frs outer,H b = none:=I.ok.frf
 have stk:s1.heap.FunFrames base (envOfC qual scope s.heap.objs.size f cd::outer):=I.stack
 have stf:∀ b∈frs (envOfC qual scope s.heap.objs.size f cd::outer),H' b = none:=I.stkFree
 have fcons:frs (envOfC qual scope s.heap.objs.size f cd::outer) = s.heap.objs.size::frs outer:=rfl
 have off:∀ {b:Addr} {o:Obj},s.heap.get? b = some o→b ∉ frs outer→b ∉ frs (envOfC qual scope s.heap.objs.size f cd::outer):=fun e n z=>by
  rw [fcons] at z
  rcases List.mem_cons.mp z with z | z
  ·exact absurd (Heap.lt_size e) (by rw [z]; exact Nat.lt_irrefl _)
  ·exact n z
 have nofield:∀ {b:Addr} {o:Obj},b∈frs outer→s.heap.get? b = some o→∀ vs,o.data≠.fields vs:=fun hb e vs z=>by
  obtain ⟨_,o',ho,hd⟩:=funs.mem hb
  rw [e] at ho; cases ho
  exact hd vs z
 rcases h with ⟨ea,C,vs,h',Hs',rfl,hc,g,mk,rfl⟩ | ⟨ea,C,B,a0,H1,rfl,hos,hbare,fl,ux,hok,C',Hs1,ecls,hc,g⟩
 ·have hB:∀ b ∉ frs (envOfC qual scope s.heap.objs.size f cd::outer),∀ o,s1.heap.get? b = some o→(PySem.W.hideAll s1.heap (frs (envOfC qual scope s.heap.objs.size f cd::outer))).get? b = some o:=fun b hb o e=>PySem.W.hideAll_get _ e hb
  refine wpAny_leaves_madeW (base:=PySem.W.hideAll s1.heap (frs (envOfC qual scope s.heap.objs.size f cd::outer))) (h:=s1.heap) hfr rfl (fun b o q=>PySem.W.of_hideAll _ q) (PySem.W.funFrames_hide stk fun env he a hf=>frs_mem env he a hf) mk fun h'' t x1 x2 x3 x4=>?_
  refine ⟨ea,C,_,.ref t,H',rfl,I.os,I.bare,x1,⟨fun b o e n nf=>?_,fun b o e n nf=>?_,fun b o e n=>u.free b o e n (by simp),fun b o e n=>?_,u.tups,u.frzs,u.tbls⟩,fun a o e=>?_,hE C Hs' H' hc g⟩
  ·exact hB b (off e nf) o (u.keep b o e n nf (by simp))
  ·obtain ⟨sl,e1⟩:=u.slot b o e n nf (by simp)
   obtain ⟨sl2,e2⟩:=x4 b _ (mk.keeps b _ e1) (fun vs z=>nofield nf e vs z)
   exact ⟨sl2,e2⟩
  ·obtain ⟨o',e1⟩:=u.there b o e (by simp)
   exact ⟨o',hB b (off e fun z=>n (frf b z)) o' e1⟩
  ·refine (I.hok a o e).stay (fun b v hb q=>hB b (fun z=>?_) v q) (fun _ q=>q) fun _ _ q=>q
   have:=stf b z
   rcases hb with rfl | hb
   ·rw [e] at this; cases this
   ·rw [hb] at this; cases this
 ·cases ecls
  refine wpAny_leaves_onW hfr rfl fl fun h'' x1 x2=>?_
  refine ⟨ea,C,B,a0,H1,rfl,hos.trans I.os,hbare,x1,⟨fun b o e n nf=>?_,fun b o e n nf=>?_,fun b o e n=>?_,fun b o e n=>?_,fun b xs q=>ux.tups b xs (u.tups b xs q),fun b o v q=>ux.frzs b o v (u.frzs b o v q),fun b ps q=>?_⟩,hok,hE C Hs1 H1 hc g⟩
  ·exact ux.keep b o (u.keep b o e n nf (by simp)) (u.free b o e n (by simp)) (off e nf)
  ·obtain ⟨sl,e1⟩:=u.slot b o e n nf (by simp)
   obtain ⟨sl2,e2⟩:=ux.slot b _ e1 (u.free b o e n (by simp)) (by show b∈frs (_::outer); rw [fcons]; exact List.mem_cons_of_mem _ nf)
   obtain ⟨sl3,e3⟩:=x2 b _ e2 (fun vs z=>nofield nf e vs z)
   exact ⟨sl3,e3⟩
  ·obtain ⟨sl,e1⟩:=u.any e n (by simp)
   exact ux.free b _ e1 (u.free b o e n (by simp))
  ·obtain ⟨o',e1⟩:=u.there b o e (by simp)
   cases hn:H' b with
   | none=>exact ⟨o',ux.keep b o' e1 hn (off e fun z=>n (frf b z))⟩
   | some v=>exact ux.there b o' e1 (by rw [hn]; exact fun z=>by cases z)
  ·obtain ⟨m1,q1⟩:=u.tbls b ps q
   obtain ⟨m2,q2⟩:=ux.tbls b _ q1
   exact ⟨m1++m2,by rw [q2,Array.append_assoc]⟩
end
structure ExcAt (K:PySem.W.Frag) (x:Str):Prop where
 ex:∃ C:Addr,ClsIs K x C∧PySem.W.excIn K C [.type "ValueError",.type "Exception",.type "BaseException",.type "object"] "ValueError.__new__" = true
def sRaise (c:Str):DS:=fun _=>.err c
section
variable {X:Cx} {H0 Hs0:Hp} {x t:Str} {pos np cpos cp:Pos} {j}
theorem excCls {K:PySem.W.Frag} {h₀:Heap} {mg:Str→Option Value} {C:Addr} {bmB:List Value} {newId:String} (XI:K.In h₀) (G:h₀.Ns mainGlobals mg) (e:PySem.W.nsIn K mainGlobals x = some (some (.ref C))) (q:PySem.W.excIn K C bmB newId = true):OwnCls x C bmB newId mg h₀:=by
 refine ⟨PySem.W.mg_of XI G e,?_⟩
 unfold PySem.W.excIn at q
 split at q
 ·rename_i dd cd sl ho
  split at q
  ·rename_i C' bm k0 k1 k2 k3 n k5 hm hs
   simp only [Bool.and_eq_true,beq_iff_eq,Bool.not_eq_true'] at q
   obtain ⟨⟨⟨⟨⟨rfl,rfl⟩,hdel⟩,ht⟩,hok⟩,hni⟩:=q
   obtain ⟨nm,bs,mro,ns,qn,hd,sn,sub,ab,col,del⟩:=cd
   dsimp only at hm hdel hok hni
   subst hm hdel
   have hsl:sl = #[k0,k1,k2,k3,some (.builtin n),k5]:=by
    obtain ⟨l⟩:=sl
    simp only at hs
    rw [hs]
   subst hsl
   exact ⟨bm,ns,nm,qn,bs,hd,sn,sub,ab,col,dd,k0,k1,k2,k3,k5,_,XI _ _ ho,.of_isNs (PySem.W.isNs_of_in XI hok),PySem.W.nsMap_none_of_in XI hok hni,PySem.W.tail_of_in XI ht⟩
  ·cases q
 ·cases q
theorem qs_raise (hx:ExcAt X.K x) (hc:X.calm = true) (hg:Gl X x) (hd:(x == ("__debug__":Str)) = false) (he:starEach [.Constant (.str t) j cp] X.env = [(false,eval (.Constant (.str t) j cp) X.env)]) :
  QS X H0 Hs0 (.Raise (some (.Call (.Name x np) [.Constant (.str t) j cp] [] cpos)) none pos) (sRaise x):=by
 obtain ⟨C,hcl,hin⟩:=hx.ex
 intro pins s τ H D I ⟨Hs,σ,S,h⟩
 have GN:s.heap.Ns mainGlobals X.mg:=I.mod.glob.keeps I.bk
 have O:=excCls I.kIn GN hcl hin
 obtain ⟨tl,NN,nm,q,bs,hdct,sn,sub,ab,col,dd,k0,k1,k2,k3,k5,mN,hC,hN,hni,T⟩:=O.obj
 refine wpAny_Raise_call_subT (C:=C) (nm:=nm) (q:=q) (N:=NN) (bs:=bs) (bm:=tl) (hdct:=hdct) (sn:=sn) (sub:=sub) (ab:=ab) (col:=col) (dd:=dd) (k0:=k0) (k1:=k1) (k2:=k2) (k3:=k3) (k5:=k5)
  PySem.F.excBase_ValueError (mN:=mN) (T.hasType PySem.F.excBase_ValueError.hasBase) (I.ok.hd hc) (by rw [he]; rfl) hni (ld_glob I hg O.bound ⟨rfl,?_⟩ hd)
 rw [he]
 refine Calls.evalArgs_plain (Calls.spliced_cons (@Calls.Constant_str _ _ _ _ _ t j cp _ (Calls.spliced_nil ⟨rfl,(show 1≤sizeLine from small7 (by decide)),hC,hN,T,fun h' e mk=>?_⟩)))
 exact h (.ref e) _ ⟨pins,τ,H,_,I.tok _,.inl ⟨e,C,_,h',Hs,rfl,hcl,S.g,mk,rfl⟩⟩
end
end G
namespace G
open PySem PySem.Spec PyProof.Rows L2
section
variable {X:Cx} {pins:List (Addr × Obj)} {H0 Hs0 Hs H:Hp} {σ:PSt} {τ:L2.St} {s:Shared}
theorem goes_ok {M:Model} {A:Around} {E:Value→Shared→Prop} {i:Nat} {x:Str} {pos:Pos} {Q:Unit→Shared→Prop} (I:Inv X pins τ H s) (hN:X.N.Nodup) (hi:X.N[i]? = some x) (hk:X.env.scope.names.lookup x = some .local)
  (h:∀ s',Inv X pins (τ.set i none) H s'→Q () s'):wpAny M A (do bindName X.env x .none; unbindBehindTheSuite X.env x pos) Q E s:=by
 obtain ⟨m,hn,hl⟩:=id I.loc
 have hcls:(X.env.scope.kind == .class || (X.env.scope.kind == .module && X.env.locals != X.env.globals)) = false:=by rw [I.ok.kind]; rfl
 have hiσ:i < τ.length:=by rw [I.len]; exact (List.getElem?_eq_some_iff.mp hi).1
 have cne:=I.cne
 refine wpAny_nameGoes_keeps hk hn hcls fun h' w hn' hs=>?_
 obtain ⟨oL,_,_,hoL,_⟩:=id hn
 have tracked:HOk X.prog X.w H h':=fun b ob e=>by
  refine (I.hok b ob e).stay (fun c w' hc q=>(hs.2 c ?_).trans q) (fun _ q=>q) fun _ _ q=>q
  rintro rfl
  have hfree:=I.free
  rcases hc with rfl | hc
  ·rw [hfree] at e; cases e
  ·rw [hfree] at hc; cases hc
 refine h _ ⟨I.ok,I.os,I.bare,⟨fun b o e n hb hx=>?_,fun b o e n hb hx=>?_,I.base.free,fun b o e hx=>?_,I.base.tups,I.base.frzs,I.base.tbls⟩,⟨_,hn',fun j y v' e1 e2 e3=>?_⟩,fun y c e=>?_,I.free,I.freeC,fun p hp=>?_,tracked,by simpa using I.len⟩
 ·exact (hs.2 b (Nat.ne_of_lt (Nat.lt_of_lt_of_le (Heap.lt_size e) I.ok.above))).trans (I.base.keep b o e n hb hx)
 ·obtain ⟨sl,e1⟩:=I.base.slot b o e n hb hx
  exact ⟨sl,(hs.2 b (Nat.ne_of_lt (Nat.lt_of_lt_of_le (Heap.lt_size e) I.ok.above))).trans e1⟩
 ·obtain ⟨o',e1⟩:=I.base.there b o e hx
  exact ⟨o',(hs.2 b (Nat.ne_of_lt (Nat.lt_of_lt_of_le (Heap.lt_size e) I.ok.above))).trans e1⟩
 ·by_cases hj:j = i
  ·subst hj
   rw [List.getElem?_set_self hiσ] at e2
   cases e2
  ·rw [List.getElem?_set_ne (Ne.symm hj)] at e2
   obtain ⟨u',r',q⟩:=hl j y v' e1 e2 e3
   refine ⟨u',r',?_⟩
   rcases q with ⟨k,e⟩ | ⟨k,c,e,z⟩
   ·refine .inl ⟨k,?_⟩
    have:y≠x:=fun e=>hj (nodup_ix hN e1 (e ▸ hi))
    simp [this,e]
   ·exact .inr ⟨k,c,e,z.sameBut hs (cne y c e)⟩
 ·obtain ⟨w',z⟩:=I.cell y c e
  exact ⟨w',z.sameBut hs (cne y c e)⟩
 ·obtain ⟨e,n,ne,nf,d⟩:=I.pin p hp
  exact ⟨(hs.2 p.1 ne).trans e,n,ne,nf,d⟩
theorem objOk_there {P:Program} {w:World} {h:Heap} {a:Addr} {o:HO} (x:ObjOk P w H h a o):∃ ob,h.get? a = some ob:=by
 cases o with
 | lst xs=>obtain ⟨_,_,_,_,e⟩:=x; exact ⟨_,e⟩
 | tup xs=>obtain ⟨_,_,_,p⟩:=x; obtain ⟨ob,e,_⟩:=p; exact ⟨ob,e⟩
 | dK kvs=>obtain ⟨_,_,_,_,o,_,_,e,_⟩:=x; exact ⟨_,e⟩
 | dT kvs=>obtain ⟨_,_,_,_,o,_,_,e,_⟩:=x; exact ⟨_,e⟩
 | set S n=>obtain ⟨o,_,_,_,e,_⟩:=x; exact ⟨_,e⟩
 | ins C dx fs=>obtain ⟨_,_,_,e,_⟩:=x; exact ⟨_,e⟩
 | own y=>exact x
 | xd fs=>obtain ⟨_,⟨_,_,_,e,_⟩,_⟩:=x; exact ⟨_,e⟩
 | rng lo hi=>obtain ⟨_,_,_,e⟩:=x; exact ⟨_,e⟩
 | frz ob u=>obtain ⟨e,_⟩:=x; exact ⟨_,e⟩
 | tbl ps=>exact ⟨_,(show h.get? a = some _ from x)⟩
 | met f y=>exact ⟨_,(show h.get? a = some _ from x)⟩
 | ext φ=>obtain ⟨_,e,_⟩:=x; exact e
theorem landed {s':Shared} {H2:Hp} {B h5:Heap} {ea C:Addr} {a0:Value} (I:Inv X pins τ H s) (hos:s'.os = s.os) (hbare:AllBare s'.gens) (ux:UnX X.stack H H2 s.heap B s'.heap) (hok:HOk X.prog X.w H2 B) (fl:Heap.FlyingW B X.stack ea (.ref C) a0 h5) (sm:s'.heap.UpToSlots h5) :
  H2 ea = none∧Inv X pins τ (upd H2 ea (.ext (excφ ea C))) { s' with heap:=h5 }:=by
 obtain ⟨f1,f2,f3,oe,vs,T,oT,ts,he,⟨hc,h0⟩,hd,_⟩:=fl
 have h2:H2 ea = none:=by
  cases e:H2 ea with
  | none=>rfl
  | some o =>
   obtain ⟨ob,q⟩:=objOk_there (hok ea o e)
   rw [f2] at q; cases q
 have nofield:∀ {b:Addr} {o:Obj},b∈frs X.stack→s.heap.get? b = some o→∀ vs,o.data≠.fields vs:=fun hb e vs z=>by
  obtain ⟨_,o',ho,hdd⟩:=I.stack.mem hb
  rw [e] at ho; cases ho
  exact hdd vs z
 have slot5:∀ b o,s.heap.get? b = some o→H b = none→b∈frs X.stack→∃ sl,h5.get? b = some { o with slots:=sl }:=fun b o e n hb=>by
  obtain ⟨sl,e1⟩:=ux.slot b o e n hb
  obtain ⟨sl2,e2⟩:=sm b _ e1 (fun vs z=>nofield hb e vs z)
  exact ⟨sl2,e2⟩
 have ne:∀ b o,s.heap.get? b = some o→H b = none→b≠ea:=fun b o e n z=>by
  subst z
  by_cases hb:b∈frs X.stack
  ·obtain ⟨sl,e1⟩:=slot5 b o e n hb
   rw [he] at e1
   have:=Option.some.inj e1
   subst this
   exact nofield hb e vs hd
  ·have:=ux.keep b o e n hb
   rw [f2] at this; cases this
 have neB:∀ {b:Addr} {o:HO},H2 b = some o→b≠ea:=fun e z=>by rw [z,h2] at e; cases e
 have up:∀ {b:Addr} {o:HO},H2 b = some o→upd H2 ea (.ext (excφ ea C)) b = some o:=fun e=>by rw [upd_ne (neB e)]; exact e
 refine ⟨h2,I.call' (ch:=[]) hos ⟨fun b o e n hb _=>f1 b o (ux.keep b o e n hb),fun b o e n hb _=>slot5 b o e n hb,fun b o e n _=>?_,fun b o e _=>?_,fun b xs q=>up (ux.tups b xs q),fun b o u q=>up (ux.frzs b o u q),fun b ps q=>?_⟩ (fun a o e=>?_) hbare (fun b hb=>by cases hb)⟩
 ·rw [upd_ne (ne b o e n)]; exact ux.free b o e n
 ·cases n:H b with
  | none =>
   by_cases hb:b∈frs X.stack
   ·obtain ⟨sl,e1⟩:=slot5 b o e n hb; exact ⟨_,e1⟩
   ·exact ⟨o,f1 b o (ux.keep b o e n hb)⟩
  | some v =>
   obtain ⟨o',e1⟩:=ux.there b o e (by rw [n]; exact fun z=>by cases z)
   exact ⟨o',f1 b o' e1⟩
 ·obtain ⟨m,e1⟩:=ux.tbls b ps q
  exact ⟨m,up e1⟩
 ·by_cases ha:a = ea
  ·subst ha
   rw [upd_same] at e
   cases e
   exact ⟨⟨oe,vs,he,hc,hd⟩,⟨oe,he⟩,fun h1 h2 ⟨o,vs,q1,q2,q3⟩ k=>⟨o,vs,k o q1,q2,q3⟩⟩
  ·rw [upd_ne ha] at e
   exact (hok a o e).stay (fun b u _ q=>f1 b u q) (fun b q=>up q) fun b xs q=>up q
end
end G
namespace G
open PySem PySem.Spec PyProof.Rows L2
@[reducible] def cxM (X:Cx) (ea:Addr):Cx:={ X with A:=X.A.mark (some (.ref ea)),calm:=false,xe:=fun _ _=>False }
section
variable {X:Cx} {pins:List (Addr × Obj)} {H0 Hs0 Hs H:Hp} {σ:PSt} {τ:L2.St} {s:Shared} {ea:Addr}
theorem inv_mark (I:Inv X pins τ H s):Inv (cxM X ea) pins τ H s :=
 ⟨⟨I.ok.mod,I.ok.kind,I.ok.glob,I.ok.blt,I.ok.above,I.ok.inj,I.ok.has,I.ok.cab,(fun z=>nomatch z),I.ok.frames,I.ok.stk,I.ok.exf,I.ok.bs,I.ok.bsz,I.ok.noex,I.ok.exfs,I.ok.funs,I.ok.frf⟩,I.os,I.bare,I.base,I.loc,I.cell,I.free,I.freeC,I.pin,I.hok,I.len⟩
theorem inv_unmark (hX:X.Ok) (I:Inv (cxM X ea) pins τ H s):Inv X pins τ H s:=⟨hX,I.os,I.bare,I.base,I.loc,I.cell,I.free,I.freeC,I.pin,I.hok,I.len⟩
theorem SR.unset {K:PySem.W.Frag} (S:SR K H0 Hs0 Hs H σ τ) (i:Nat):SR K H0 Hs0 Hs H (σ.set i none) (τ.set i none):=by
 have get:∀ {j:Nat} {sv:SV},(σ.set i none)[j]? = some (some sv)→j≠i∧σ[j]? = some (some sv):=fun {j sv} e=>by
  rcases set_some e with ⟨_,z,_⟩ | ⟨h,e'⟩
  ·cases z
  ·exact ⟨h,e'⟩
 refine ⟨S.g,fun j sv e=>?_,fun j k xs ys ad hjk e1 e2 e3=>?_,by rw [List.length_set,List.length_set]; exact S.len⟩
 ·obtain ⟨hj,e'⟩:=get e
  obtain ⟨v,e1,r⟩:=S.slot j sv e'
  exact ⟨v,by rw [List.getElem?_set_ne (Ne.symm hj)]; exact e1,r⟩
 ·obtain ⟨hj,e1'⟩:=get e1
  obtain ⟨hk,e2'⟩:=get e2
  rw [List.getElem?_set_ne (Ne.symm hj)] at e3
  rw [List.getElem?_set_ne (Ne.symm hk)]
  exact S.inj j k xs ys ad hjk e1' e2' e3
theorem run_call {x:Str} {p pos:Pos} {e:Expr} {es:List Expr} {m:List PV→Res PV} {ra:DA} {qs:List PV} {Q:VK} {E:XK} (F:FunIs X x m) (hg:Gl X x) (ha:QA X.nox H0 Hs0 (e::es) ra)
  (hdb:(x == ("__debug__":Str)) = false) (he:starEach (e::es) X.env = (false,eval e X.env)::starEach es X.env) (hpl:(backTo pos (starEach es X.env)).any (·.1) = false)
  (I:Inv X pins τ H s) (S:SR X.K H0 Hs0 Hs H σ τ) (hps:ra σ = .ok qs)
  (hq:∀ vs Hs1 H1,Grow Hs H Hs1 H1→Reps X.K Hs1 vs qs→Ret X.K Hs1 H1 (m qs) (fun c=>∀ (C:Addr) (Hs2 H2:Hp),ClsIs X.K c C→Grow Hs1 H1 Hs2 H2→E (.ref C) none H2) Q) :
  wpAny (model X.prog X.w) X.A (eval (.Call (.Name x p) (e::es) [] pos) X.env) (EP X pins τ Q) (fun e s'=>∃ H1 s1,Inv X pins τ H1 s1∧CXG X.prog X.w X.stack H1 s1 E e s') s:=by
 obtain ⟨a,fd,ps,k,hm,hk,hb,hr,har,F⟩:=F.ex
 refine wpAny_Call_Name_kw (ld_glob I hg hm ?_ hdb)
 refine PySem.W.callWith_K (h₀:=X.base) I.ok.mod.kin hk (wpAny_mono (ha pos pins s τ H (fun vs H1=>∃ Hs1,Grow Hs H Hs1 H1∧Reps X.K Hs1 vs qs) (I.wish _) ⟨Hs,σ,S,by rw [hps]; exact fun vs Hs' H' g r=>⟨Hs',g,r⟩⟩)
  (fun us s1 ⟨vs,H1,I1,r,Hs1,g1,r1⟩=>⟨I1.unwish.kIn,?_⟩) fun _ _ z=>z.elim) he hpl
 have I1:=I1.unwish
 have hq1:=hq vs Hs1 H1 g1 r1
 have hl:qs.length = ps.length:=by
  by_cases hl:qs.length = ps.length
  ·exact hl
  ·rw [har qs hl] at hq1; exact hq1.elim
 have r2:Vals (vs++[]) (us++[]):=r.append .nil
 have hul:(us++[]).length = ps.length:=by rw [← r2.length,List.append_nil,r1.length,hl]
 refine wpAny_call (codeAny_mono (F.run X.A X.stack s1 H1 ⟨us,[]⟩ (us++[]) (vs++[]) Q E hr I1.env0 (hb s1 us I1.kIn hul) r2 ⟨by rw [List.append_nil,r1.length,hl],Hs1,qs,g1.i,by rw [List.append_nil]; exact r1,hq1⟩) fun r s' hq=>?_)
 cases r with
 | error e=>exact ⟨H1,s1,I1,hq⟩
 | ok fl =>
  cases fl with
  | ret u=>exact I1.after hq
  | next=>exact False.elim hq
  | brk=>exact False.elim hq
  | cont=>exact False.elim hq
end
def sTry (m:List PV→Res PV) (ra:DA) (cs:List Str) (i:Nat) (ds:DS):DS:=fun σ=>match ra σ with
 | .ok qs=>match m qs with
  | .ok _=>.ok (.next σ)
  | .err c=>if cs.contains c = true then (match ds (σ.set i (some (.sh (.exc c)))) with
    | .ok (.next σ')=>.ok (.next (σ'.set i none))
    | _=>.stuck) else .stuck
  | .stuck=>.stuck
 | _=>.stuck
structure Caught (K:PySem.W.Frag) (g:Str) (cs:List Str):Prop where
 h:∀ c∈cs,∃ (G C:Addr),ClsIs K g G∧ClsIs K c C∧PySem.W.exmOne K (.ref C) (.ref G) = some true
section
variable {X:Cx} {H0 Hs0:Hp}
theorem qs_try {x g n:Str} {i:Nat} {fp cpos bpos gp hpos pos:Pos} {e b0:Expr} {es:List Expr} {st:Stmt} {sts:List Stmt} {m:List PV→Res PV} {ra:DA} {cs:List Str} {ds:DS} (F:FunIs X x m) (hg:Gl X x) (ha:QA X.nox H0 Hs0 (e::es) ra)
  (hdb:(x == ("__debug__":Str)) = false) (he:starEach (e::es) X.env = (false,eval e X.env)::starEach es X.env) (hpl:(backTo cpos (starEach es X.env)).any (·.1) = false)
  (hsw:swapsWith (.Call (.Name x fp) (e::es) [] cpos) none bpos.line X.env = pure false)
  (hst:X.stack = X.env::X.outer) (hfm:X.env.frame = some X.env.locals) (hgg:Gl X g) (hgd:(g == ("__debug__":Str)) = false) (hC:Caught X.K g cs) (hN:X.N.Nodup) (hi:X.N[i]? = some n) (hk:X.env.scope.names.lookup n = some .local)
  (hs:∀ ea,QSs (cxM X ea) H0 Hs0 (st::sts) ds) :
  QS X H0 Hs0 (.Try [.Expr (.Call (.Name x fp) (e::es) [] cpos) bpos] [.ExceptHandler (some (.Name g gp)) (some n) (st::sts) hpos] [] [] pos) (sTry m ra cs i ds):=by
 intro pins s τ H D I ⟨Hs,σ,S,h⟩
 unfold sTry at h
 cases ea':ra σ with
 | err c=>rw [ea'] at h; exact h.elim
 | stuck=>rw [ea'] at h; exact h.elim
 | ok qs =>
 rw [ea'] at h
 refine wpAny_Try_except ?_
 have hrun:=run_call (Q:=fun _ H1=>∃ v Hs1,m qs = .ok v∧Grow Hs H Hs1 H1) (E:=fun cls _ H2=>∃ c C Hs2,cls = .ref C∧m qs = .err c∧ClsIs X.K c C∧Grow Hs H Hs2 H2) (pos:=cpos) (p:=fp) F hg ha hdb he hpl I S ea' (fun vs Hs1 H1 g1 r1=>by
  cases em:m qs with
  | ok v=>exact fun v' Hs' H' g' r'=>⟨v,Hs',rfl,g1.trans g'⟩
  | err c=>exact fun C Hs2 H2 hc g2=>⟨c,C,Hs2,rfl,rfl,hc,g1.trans g2⟩
  | stuck=>simp only [em] at h; exact h.elim)
 refine wpAny_execs_cons (wpAny_Expr_any (wpAny_mono hrun (fun v s1 ⟨_,H1,I1,_,v',Hs1,em,g1⟩=>wpAny_execs_nil ?_) fun e' s' ⟨H1,s1,I1,ea,C,B,a0,H2,eq1,hos,hbare,fl,ux,hok,c,C',Hs2,ecls,em,hcl,g2⟩=>?_) I.quiet hsw)
 ·simp only [em] at h
  exact wpAny_execs_nil ⟨τ,H1,I1,h Hs1 H1 τ g1.s (S.grow g1)⟩
 ·subst eq1
  cases ecls
  simp only [em] at h
  split at h
  ·rename_i hin
   have hin:c∈cs:=by simpa using hin
   obtain ⟨G,C2,hG,hC2,hex⟩:=hC.h c hin
   have eC:C2 = C:=by
    have:=hC2.symm.trans hcl
    injection this with this
    injection this with this
    injection this
   subst eC
   have hfr:X.A.frames = some (X.env::X.outer):=by rw [← hst]; exact I1.ok.frames
   rw [hst] at fl
   refine wpAny_looks_onW hfr hfm fl fun h4 held4 sm4=>?_
   refine wpAny_landsW held4 fun h5 fl5 sm5=>?_
   have sm45:=sm4.trans sm5
   rw [← hst] at fl5
   obtain ⟨hn5,I5⟩:=landed I1 hos hbare ux hok fl5 sm45
   have I5m:=inv_mark (ea:=ea) I5
   refine wpAny_handleBy_cons (codeAny_handlers_test (ld_glob (X:=cxM X ea) I5m hgg (PySem.W.mg_of I5.kIn (I5.mod.glob.keeps I5.bk) hG) ?_ hgd)) (by intro q; cases q)
   obtain ⟨ob,hob,hobc⟩:=fl5.there
   have lt:PySem.W.Looks (model X.prog X.w) h5 (typeOf (.ref ea)) ob.cls:=(PySem.W.Looks.ld hob).andThen .now
   rw [hobc] at lt
   refine (PySem.W.exm_one (K:=X.K) I5.kIn lt hex).at ?_
   show codeAny _ _ _ _ _
   refine codeAny_handlers_suite_as ?_
   refine lands_againW fl5 fun h6 fl6 sm6=>?_
   obtain ⟨hn6,I6⟩:=landed I1 hos hbare ux hok fl6 (sm45.trans sm6)
   have g3:Grow Hs H (upd Hs2 ea (.ext (excφ ea C2))) (upd H2 ea (.ext (excφ ea C2))):=g2.trans (.new g2.i hn6)
   refine store_ok (X:=cxM X ea) (inv_mark I6) hN hi (.inl hk) (v:=.ref ea) rfl (fun s7 I7=>?_) (.inr hk)
   have S3:=(S.grow g3).set i (v:=.ref ea) (p:=.exc c) (.exc upd_same hcl)
   cases eds:ds (σ.set i (some (.sh (.exc c)))) with
   | err c'=>rw [eds] at h; exact h.elim
   | stuck=>rw [eds] at h; exact h.elim
   | ok fl =>
    rw [eds] at h
    cases fl with
    | brk σ'=>exact h.elim
    | cont σ'=>exact h.elim
    | ret p=>exact h.elim
    | next σ' =>
     refine wpAny_mono (hs ea pins s7 _ _ { nx:=fun τ' H'=>∃ Hs',Same Hs Hs'∧SR X.K H0 Hs0 Hs' H' σ' τ',rt:=fun _ _=>False } I7 ⟨_,_,S3,by
      rw [eds]
      exact fun Hs' H' τ' e S'=>⟨Hs',g3.s.trans e,S'⟩⟩) (fun f s8 q=>?_) fun _ _ z=>z.elim
     cases f with
     | brk=>obtain ⟨_,_,_,z⟩:=q; exact z.elim
     | cont=>obtain ⟨_,_,_,z⟩:=q; exact z.elim
     | ret u=>obtain ⟨_,_,_,_,_,z⟩:=q; exact z.elim
     | next =>
      obtain ⟨τ8,H8,I8,Hs8,e8,S8⟩:=q
      refine goes_ok (inv_unmark I.ok I8) hN hi hk fun s9 I9=>⟨_,H8,I9,?_⟩
      exact h Hs8 H8 _ e8 (S8.unset i)
  ·exact h.elim
end
end G
namespace G
open PySem PySem.Spec PyProof.Rows L2
section
open PySem.W PySem.Calls Builtin Builtin.ObjectAttr Builtin.Getset_descriptor
variable {prog:Program} {w:World} {A:Around} {s:Shared} {K:Frag} {x C:Addr} {R:Result→Shared→Prop}
theorem class_getL {tp:Value} (X:K.In s.heap) (L0:Looks (model prog w) s.heap (typeOf (.ref x)) (.ref C)) (hm:mroIn K C (.type "object") = some true)
  (h:R (.ok (.ret (.ref C))) s):codeAny (model prog w) A (.call (.builtin "getset_descriptor.__get__") ⟨[.builtin "object.__class__",.ref x,tp],[]⟩) R s:=by
 obtain ⟨hh,g,dr,t,os⟩:=s
 have L1:=looks_mroIn (M:=model prog w) X hm
 refine codeAny_call_builtin KF.slot_gs.plain KF.entry_gs (KF.slot_gs.check _ _ _ _ _ _ _ _ KF.type_class (KF.args_gs _ _ _) ?_)
 unfold Builtin.«getset_descriptor.__get__» descrGet
 rw [dga_obj]
 refine wpAny_bind (wpAny_pure ?_)
 unfold descrGetter descrCheckInstance descrNameAndClass isInstance
 simp only [KF.owner_class]
 repeat lk
 refine ⟨Code.quiet_builtin _ (by decide +kernel),codeAny_builtin KF.entry_class ?_⟩
 unfold Builtin.«object.__class__» shownTypeOf
 repeat lk
 exact h
theorem find_data {M:Model} {h:Heap} {name:Str} {a g:Value} (X:K.In h) (ha:findIn K (.ref C) name = some (some a)) (hg:specialIn K a "__get__" = some (some g)) (ht:takesIn K a = some true):Looks M h (find (.ref x) (.ref C) name) (.bind g a):=by
 have L1:=looks_findIn (M:=M) X ha
 have L2:Looks M h (getOf (some a)) (some g):=looks_specialIn X hg
 have L3:=looks_takesIn (M:=M) X ht
 exact L1.andThen (L2.andThen ((show Looks M h (dataDescriptor? (some a) (some g)) (some (g,a)) from L3.andThen .now).andThen (Looks.tag .now)))
end
section
variable {prog:Program} {w:World} {A:Around} {E:Value→Shared→Prop} {s:Shared} {K:PySem.W.Frag} {x C:Addr} {ox:Obj}
theorem exc_class {Q:Option Value→Shared→Prop} (hc:(PySem.W.clsIn K C).isSome = true) (hga:PySem.W.findIn K (.ref C) "__getattribute__" = some (some (.builtin "BaseException.__getattribute__"))) (hk:PySem.W.findIn K (.ref C) "__getattr__" = some none)
  (ha:PySem.W.findIn K (.ref C) "__class__" = some (some (.builtin "object.__class__"))) (hn:PySem.W.specialIn K (.builtin "object.__class__") "__get__" = some (some (.builtin "getset_descriptor.__get__"))) (htk:PySem.W.takesIn K (.builtin "object.__class__") = some true) (hm:PySem.W.mroIn K C (.type "object") = some true)
  (hb:PySem.W.mroIn K C (.type "BaseException") = some true)
  (X:K.In s.heap) (L0:PySem.W.Looks (model prog w) s.heap (typeOf (.ref x)) (.ref C)) (h:Q (some (.ref C)) { s with toks:=s.toks + 1 }):wpAny (model prog w) A (getAttr? (.ref x) "__class__") Q E s:=by
 obtain ⟨hh,g,d,t,os⟩:=s
 have L1:=PySem.W.looks_findIn (M:=model prog w) X hga
 have L2:=PySem.W.looks_findIn (M:=model prog w) X hk
 have LF:=find_data (M:=model prog w) X ha hn htk (x:=x)
 have LB:=PySem.W.looks_mroIn (M:=model prog w) X hb
 have hx2:(Value.builtin "BaseException.__getattribute__" == Value.builtin "object.__getattribute__") = false:=by decide +kernel
 unfold getAttr? getAttrBy? getAttrBy
 refine wpAny_bind (wpAny_mkText (wpAny_bind (wpAny_attempt (wpAny_holding (wpAny_bind (L0.at (wpAny_bind (L1.at ?_))))))))
 dsimp only
 rw [hx2,Bool.and_false,if_neg Bool.false_ne_true]
 unfold getAttrByItsOwn
 refine wpAny_bind (show wpAny _ _ (typeLookup (.ref C) "__getattr__") _ _ _ from L2.at ?_)
 refine wpAny_bind (wpAny_attempt (wpAny_holding ?_))
 show wpAny _ _ (boundAndCalled _ _ _) _ _ _
 unfold boundAndCalled
 refine wpAny_bind (wpAny_of_eq (PySem.F.attr_ValueError.ga.bind (.ref x)) ?_)
 refine wpAny_call (codeAny_call_builtin PySem.F.attr_ValueError.ga.plain PySem.F.entry_bexc_ga ?_)
 have hk1:builtinKind "BaseException.__getattribute__" = some .slot:=by decide +kernel
 have hsplit:splitId "BaseException.__getattribute__" = some ("BaseException","__getattribute__"):=by decide +kernel
 have hargs:=PySem.F.args_bexc_ga (.ref x) (.str "__class__" t)
 have LI:PySem.W.Looks (model prog w) hh (isInstance (.ref x) (.type "BaseException")) true:=L0.andThen LB
 simp only [List.singleton_append,checkBuiltinCall,hk1,hsplit]
 refine wpAny_bind ?_
 refine LI.at ?_
 simp only [Bool.not_true,Bool.false_eq_true,if_false]
 refine wpAny_of_eq hargs ?_
 show wpAny _ _ (Builtin.«object.__getattribute__» _) _ _ _
 unfold Builtin.«object.__getattribute__»
 repeat (any_goals (first | assumption | with_reducible refine L0.at ?_ | with_reducible refine LF.at ?_ | wp_step))
 refine class_getL X L0 hm ?_
 exact wpAny_pure (PySem.W.handed_on rfl (wpAny_pure h))
end
end G
namespace G
open PySem PySem.Spec PyProof.Rows L2
open PySem.W (clsIn findIn specialIn takesIn mroIn kitOne kitAny KitX Looks)
def excOk (K:PySem.W.Frag) (C:Addr):Bool:=(clsIn K C).isSome && findIn K (.ref C) "__getattribute__" == some (some (.builtin "BaseException.__getattribute__")) && findIn K (.ref C) "__getattr__" == some none
 && findIn K (.ref C) "__class__" == some (some (.builtin "object.__class__")) && specialIn K (.builtin "object.__class__") "__get__" == some (some (.builtin "getset_descriptor.__get__")) && takesIn K (.builtin "object.__class__") == some true
 && mroIn K C (.type "object") == some true && mroIn K C (.type "BaseException") == some true
def ExcHere (x C:Addr) (h:Heap):Prop:=∃ o,h.get? x = some o∧o.cls = .ref C
theorem ExcHere.ty {M:Model} {x C:Addr} {h:Heap} (p:ExcHere x C h):Looks M h (typeOf (.ref x)) (.ref C):=by
 obtain ⟨o,h1,h2⟩:=p
 exact h2 ▸ (Looks.ld h1).andThen .now
theorem kitx_exc {K:PySem.W.Frag} {x C:Addr} (q:excOk K C = true):KitX K (.ref x) (.ref C) (ExcHere x C):=by
 unfold excOk at q
 simp only [Bool.and_eq_true,beq_iff_eq] at q
 obtain ⟨⟨⟨⟨⟨⟨⟨hc,hga⟩,hk⟩,ha⟩,hn⟩,htk⟩,hm⟩,hb⟩:=q
 refine ⟨fun M h _ p=>p.ty,fun M h X _=>?_,fun h tp dd its n sl X htp=>?_,fun {_ _ _ _ _ s} X p k=>exc_class hc hga hk ha hn htk hm hb X p.ty k⟩
 ·obtain ⟨cd,hcd⟩:=Option.isSome_iff_exists.mp hc
  unfold clsIn at hcd
  split at hcd
  ·rename_i c' d' cd' sl' ho
   intro A' Q' E' s' k q
   unfold isType loadHead
   exact wpAny_bind (wpAny_loadPart (k _ _ (X _ _ ho)) (wpAny_pure q))
  ·cases hcd
 ·obtain ⟨cd,hcd⟩:=Option.isSome_iff_exists.mp hc
  refine Bool.eq_false_iff.mpr fun q=>?_
  have e:C = tp:=Value.ref.inj (beq_iff_eq.mp q)
  subst e
  unfold clsIn at hcd
  split at hcd
  ·rename_i c' d' cd' sl' ho
   have z:=(X _ _ ho).symm.trans htp
   cases z
  ·cases hcd
structure IsTab (K:PySem.W.Frag) (t:List Value) (tab:List (Str × Bool)):Prop where
 non:kitAny K (.type "NoneType") t = some false
 exc:∀ c b,tab.lookup c = some b→∃ C:Addr,ClsIs K c C∧excOk K C = true∧kitAny K (.ref C) t = some b
def pIsiX (tab:List (Str × Bool)):PV→Res PV
 | .non=>.ok (.bl false)
 | .exc c=>match tab.lookup c with
  | some b=>.ok (.bl b)
  | none=>.stuck
 | _=>.stuck
theorem pIsiX_e {tab:List (Str × Bool)} {c:Str}:pIsiX tab (.exc c) = (match tab.lookup c with
  | some b=>Res.ok (PV.bl b)
  | none=>Res.stuck):=rfl
theorem kitAny_one {K:PySem.W.Frag} {t c:Value} {b:Bool} (h:kitAny K t [c] = some b):kitOne K t c = some b:=by
 unfold kitAny at h
 split at h
 ·rename_i e; rw [e]; cases h; rfl
 ·rename_i e; rw [e]; cases h; rfl
 ·cases h
section
variable {X:Cx} {pins:List (Addr × Obj)} {τ:L2.St} {Hs H:Hp} {s:Shared} {Q:Value→Shared→Prop} {E:Value→Shared→Prop} {x:V} {u:Value} {p:PV} {tab:List (Str × Bool)} {b:Bool}
theorem exc_here {a C:Addr} (I:Inv X pins τ H s) (h:H a = some (.ext (excφ a C))):ExcHere a C s.heap:=by
 obtain ⟨⟨o,vs,h1,h2,_⟩,_⟩:=I.hok a _ h
 exact ⟨o,h1,h2⟩
theorem isx_one {t:Value} (I:Inv X pins τ H s) (i:Same Hs H) (rx:RelV x u) (r:Rep X.K Hs x p) (T:IsTab X.K [t] tab) (hb:pIsiX tab p = .ok (.bl b)) (h:∀ tk,Q (.bool b) { s with toks:=tk }) :
  wpAny (model X.prog X.w) X.A (call (.builtin "isinstance") [u,t]) Q E s:=by
 cases r with
 | non =>
  cases hb
  cases (show u = Value.none from rx)
  exact PySem.W.kia_one PySem.W.kitx_none I.kIn True.intro (kitAny_one T.non) (fun z=>nomatch z) h
 | @exc a C c hl hc =>
  have hb:(match tab.lookup c with
   | some b=>Res.ok (PV.bl b)
   | none=>Res.stuck) = Res.ok (PV.bl b):=hb
  cases e:tab.lookup c with
  | none=>rw [e] at hb; cases hb
  | some b' =>
   rw [e] at hb
   cases hb
   obtain ⟨C',h1,h2,h3⟩:=T.exc c b e
   have eC:C' = C:=by
    have:=h1.symm.trans hc
    injection this with this
    injection this with this
    injection this
   subst eC
   cases (show u = Value.ref a from rx)
   exact PySem.W.kia_one (kitx_exc h2) I.kIn (exc_here I (i _ _ hl)) (kitAny_one h3) (fun z=>nomatch z) h
 | _=>cases hb
theorem isx_tup {tp:Addr} {ts:List Value} (I:Inv X pins τ H s) (i:Same Hs H) (rx:RelV x u) (r:Rep X.K Hs x p) (ht:IsTup s.heap tp ts.toArray) (T:IsTab X.K ts tab) (hb:pIsiX tab p = .ok (.bl b)) (h:∀ tk,Q (.bool b) { s with toks:=tk }) :
  wpAny (model X.prog X.w) X.A (call (.builtin "isinstance") [u,.ref tp]) Q E s:=by
 obtain ⟨o,ho,hoc,n,hod⟩:=ht
 obtain ⟨oc,od,oda,osl⟩:=o
 dsimp only at hoc hod
 subst hoc hod
 cases r with
 | non =>
  cases hb
  cases (show u = Value.none from rx)
  exact PySem.W.kia_tup PySem.W.kitx_none I.kIn True.intro ho T.non (fun z=>nomatch z) h
 | @exc a C c hl hc =>
  have hb:(match tab.lookup c with
   | some b=>Res.ok (PV.bl b)
   | none=>Res.stuck) = Res.ok (PV.bl b):=hb
  cases e:tab.lookup c with
  | none=>rw [e] at hb; cases hb
  | some b' =>
   rw [e] at hb
   cases hb
   obtain ⟨C',h1,h2,h3⟩:=T.exc c b e
   have eC:C' = C:=by
    have:=h1.symm.trans hc
    injection this with this
    injection this with this
    injection this
   subst eC
   cases (show u = Value.ref a from rx)
   exact PySem.W.kia_tup (kitx_exc h2) I.kIn (exc_here I (i _ _ hl)) ho h3 (fun z=>nomatch z) h
 | _=>cases hb
end
section
variable {X:Cx} {H0 Hs0:Hp} {a:Expr} {da:DE} {pos p1 p2:Pos} {tab:List (Str × Bool)}
theorem isx_ok {p:PV} {Hs H:Hp} {Q:VK} (h:Ret X.K Hs H (pIsiX tab p) (ErrOk X H0 Hs0) Q) (i:Same Hs H):∃ b,pIsiX tab p = .ok (.bl b)∧Q (.bl b) H:=by
 have key:(∃ b,pIsiX tab p = .ok (.bl b))∨pIsiX tab p = .stuck:=by
  cases p with
  | non=>exact .inl ⟨false,rfl⟩
  | exc c =>
   cases e:tab.lookup c with
   | none=>exact .inr (by rw [pIsiX_e,e])
   | some b=>exact .inl ⟨b,by rw [pIsiX_e,e]⟩
  | _=>exact .inr rfl
 rcases key with ⟨b,e⟩ | e
 ·rw [e] at h; exact ⟨b,e,ret_bl h i⟩
 ·rw [e] at h; exact h.elim
theorem q_isx {x:Str} {t:V} {tv:Value} (ha:QE X H0 Hs0 a da) (hc:PE X (.Name x p2) (tC t)) (rt:RelV t tv) (ut:∀ u,RelV t u→u = tv) (T:IsTab X.K [tv] tab) (hg:Gl X "isinstance") (hm:X.mg "isinstance" = none)
  (h1:starEach [a,.Name x p2] X.env = (false,eval a X.env)::starEach [.Name x p2] X.env) (h2:starEach [.Name x p2] X.env = [(false,eval (.Name x p2) X.env)])
  (hpl:(backTo pos (starEach [.Name x p2] X.env)).any (·.1) = false):QE X H0 Hs0 (.Call (.Name "isinstance" p1) [a,.Name x p2] [] pos) (e1 (pIsiX tab) da):=by
 have cr:CallR X (.builtin "isinstance") (fun xs H Q=>∃ Hs y p b,xs = [y,t]∧Same Hs H∧Rep X.K Hs y p∧pIsiX tab p = .ok (.bl b)∧Q (.bl b) H):=by
  intro pins s σ H xs us Q I r ⟨Hs,y,p,b,e,i,rp,hb,q⟩
  subst e
  cases r with
  | cons r1 r2 =>
   cases r2 with
   | cons r3 r4 =>
    cases r4
    cases ut _ r3
    exact isx_one I i r1 rp T hb fun tk=>⟨.bl _,H,I.tok tk,rfl,q⟩
 exact PE.imp (pe_callB cr hg hm boot_isi (pa_cons ha (pa_cons hc pa_nil h2) h1) (by decide) (by decide) h1 hpl) fun τ H Q h =>
  RE.mono (one h) fun y H1 ⟨Hs,p,i,r,h1⟩=>by
   obtain ⟨b,e,q⟩:=isx_ok h1 i
   exact ⟨Hs,y,p,b,rfl,i,r,e,q⟩
inductive ClsL (K:PySem.W.Frag):List Str→List Addr→Prop
 | nil:ClsL K [] []
 | cons {x:Str} {C:Addr} {xs:List Str} {Cs:List Addr}:ClsIs K x C→ClsL K xs Cs→ClsL K (x::xs) (C::Cs)
theorem vals_refs:∀ {Cs:List Addr} {us:List Value},Vals (Cs.map V.ref) us→us = Cs.map Value.ref
 | [],_,.nil=>rfl
 | C::Cs,_,.cons r t=>by
  cases (show _ = Value.ref C from r)
  rw [vals_refs t]
  rfl
def tRefs (Cs:List Addr):TA:=fun _ H Q=>Q (Cs.map V.ref) H
theorem pa_refs:∀ {es:List Expr} {Cs:List Addr},(∀ (i:Nat) (e:Expr) (C:Addr),es[i]? = some e→Cs[i]? = some C→PE X e (tC (.ref C)))→es.length = Cs.length→(∀ i,starEach (es.drop i) X.env = (es.drop i).map fun e=>(false,eval e X.env))→PA X es (tRefs Cs)
 | [],[],_,_,_=>pa_nil
 | e::es,C::Cs,h,hl,hs=>by
  have h1:=h 0 e C rfl rfl
  have h2:=pa_refs (es:=es) (Cs:=Cs) (fun i e' C' a b=>h (i + 1) e' C' (by simpa using a) (by simpa using b)) (by simpa using hl) (fun i=>by have:=hs (i + 1); simpa using this)
  have s0:=hs 0
  have s1:=hs 1
  simp only [List.drop_zero,List.map_cons] at s0
  simp only [List.drop_succ_cons,List.drop_zero] at s1
  exact fun pos pins s σ H Q I q=>pa_cons h1 h2 (by rw [s0,s1]) pos pins s σ H Q I q
theorem q_isxt {es:List Expr} {Cs:List Addr} {k:Nat} {tp:Pos} (ha:QE X H0 Hs0 a da) (hc:PA X es (tRefs Cs)) (hz:Cs.length≤1000) (T:IsTab X.K (Cs.map Value.ref) tab) (hg:Gl X "isinstance") (hm:X.mg "isinstance" = none)
  (h1:starEach [a,.Tuple es k tp] X.env = (false,eval a X.env)::starEach [.Tuple es k tp] X.env) (h2:starEach [.Tuple es k tp] X.env = [(false,eval (.Tuple es k tp) X.env)])
  (hpl:(backTo pos (starEach [.Tuple es k tp] X.env)).any (·.1) = false):QE X H0 Hs0 (.Call (.Name "isinstance" p1) [a,.Tuple es k tp] [] pos) (e1 (pIsiX tab) da):=by
 have cr:CallR X (.builtin "isinstance") (fun xs H Q=>∃ Hs y q p b,xs = [y,.ref q]∧Same Hs H∧Rep X.K Hs y p∧H q = some (.tup (Cs.map V.ref))∧pIsiX tab p = .ok (.bl b)∧Q (.bl b) H):=by
  intro pins s σ H xs us Q I r ⟨Hs,y,q,p,b,e,i,rp,hq,hb,k⟩
  subst e
  cases r with
  | cons r1 r2 =>
   cases r2 with
   | cons r3 r4 =>
    cases r4
    cases (show _ = Value.ref q from r3)
    obtain ⟨z,its,rv,ht⟩:=I.hok q _ hq
    cases vals_refs rv
    exact isx_tup I i r1 rp ht T hb fun tk=>⟨.bl _,H,I.tok tk,rfl,k⟩
 exact PE.imp (pe_callB cr hg hm boot_isi (pa_cons ha (pa_cons (pe_tup hc) pa_nil h2) h1) (by decide) (by decide) h1 hpl) fun τ H Q h =>
  RE.mono (one h) fun y H1 ⟨Hs,p,i,r,h1⟩=>by
   obtain ⟨b,e,_⟩:=isx_ok h1 i
   refine ⟨small7 (by rw [List.length_map]; omega),fun q hq=>⟨Hs,y,q,p,b,rfl,i.trans (same_upd hq),r,upd_same,e,?_⟩⟩
   rw [e] at h1
   exact h1 _ (upd Hs q _) _ (.new i hq) (.bl b)
end
end G
namespace G
open PySem PySem.Spec PyProof.Rows L2
open PySem.W (kitAny)
def finE:Res Fl→Res PV
 | .ok (.ret p)=>.ok p
 | .ok (.next _)=>.ok .non
 | .err c=>.err c
 | _=>.stuck
def runE (n m:Nat) (d:DS) (ps:List PV):Res PV:=if ps.length = n then finE (d (start0 m ps)) else .stuck
theorem runE_eq {n m:Nat} {d:DS} {ps:List PV} (h:ps.length = n):runE n m d ps = finE (d (start0 m ps)):=if_pos h
theorem runE_ne {n m:Nat} {d:DS} {ps:List PV} (h:ps.length≠n):runE n m d ps = .stuck:=if_neg h
section
variable {P:Program} {w:World} {K:PySem.W.Frag} {mg:Str→Option Value} {base h:Heap}
theorem fn_okE {x qual:Str} {st:Stmt} {f:Addr} {fd:FuncData} {N ps:List Str} {k:Nat} {d:DS} (F:Fun K x qual st f fd) (S:FnScope N ps (defScope st))
  (hbody:∀ (cdv:Value) (A:Around) (outer:List Env) (s:Shared) (H Hs:Hp) (E:XK),Room k (A.deeper (envOfC qual (defScope st) s.heap.objs.size f cdv)) →
   QSs (cxOf (CXG P w) P w K mg base N qual (defScope st) f cdv A outer s H E) H Hs (defBody st) d) :
  FnOk P w K mg base (CXG P w) (k + 1) f fd ps (Fsp K ps.length (runE ps.length N.length d)):=by
 have hpl:ps.length≤N.length:=by have:=congrArg List.length S.pre; rw [List.length_take] at this; omega
 refine fun_okX F S (fun vs H Q E h=>h.1) (fun cdv A outer s H vs Q E hr h=>?_)
 obtain ⟨hl,Hs,qs,i,r,h⟩:=h
 refine ⟨_,hbody cdv A outer s H Hs E hr,Hs,start0 N.length qs,SR.start i r (by omega),?_⟩
 rw [runE_eq (by rw [← r.length,hl])] at h
 generalize d (start0 N.length qs) = rr at h ⊢
 cases rr with
 | ok fl =>
  cases fl with
  | next σ'=>exact fun Hs' H' τ' _ S'=>h _ Hs' H' S'.g .non
  | ret p=>exact fun v Hs' H' g rv=>h v Hs' H' g rv
  | brk σ'=>exact h.elim
  | cont σ'=>exact h.elim
 | err c=>exact err_ok fun C Hs1 H1 hc g=>h C Hs1 H1 hc g
 | stuck=>exact h
theorem def_inE {x:Str} {st:Stmt} {N ps:List Str} {k:Nat} {d:DS} (D:DefAt K x st) (KI:K.In h) (GN:h.Ns mainGlobals mg) (S:FnScope N ps (defScope st))
  (hb:∀ (kV doc pm:Value) (an:Option Addr) (cdv ct:Value) (us:List Value),us.length = ps.length→bindArgs (PySem.W.fnOf x x (defArgs st) (defBody st) (defScope st) .none kV doc pm an cdv ct) ⟨us,[]⟩ = pure (ps.zip us))
  (hbody:∀ (f:Addr) (cdv:Value) (A:Around) (outer:List Env) (s:Shared) (H Hs:Hp) (E:XK),Room k (A.deeper (envOfC x (defScope st) s.heap.objs.size f cdv)) →
   XB (cxOf (CXG P w) P w K mg base N x (defScope st) f cdv A outer s H E) H Hs (defBody st) d):FunIn P w K mg base x (k + 1) (runE ps.length N.length d):=by
 obtain ⟨f,fd,a,F⟩:=D.ex
 exact ⟨f,fd,ps,PySem.W.mg_of KI GN a,F.kp,F.binds hb,fun qs h=>runE_ne h,fn_okE F S fun cdv A outer s H Hs E hr=>(hbody f cdv A outer s H Hs E hr).h⟩
end
section
variable {K:PySem.W.Frag} {x g c:Str} {C G:Addr}
theorem exc_at (a:ClsIs K x C) (q:PySem.W.excIn K C [.type "ValueError",.type "Exception",.type "BaseException",.type "object"] "ValueError.__new__" = true):ExcAt K x:=⟨C,a,q⟩
theorem caught0:Caught K g []:=⟨fun c h=>nomatch h⟩
theorem caught1 {cs:List Str} (a:ClsIs K g G) (b:ClsIs K c C) (e:PySem.W.exmOne K (.ref C) (.ref G) = some true) (r:Caught K g cs):Caught K g (c::cs):=⟨fun d hd=>by
 rcases List.mem_cons.mp hd with rfl | hd
 ·exact ⟨G,C,a,b,e⟩
 ·exact r.h d hd⟩
theorem istab0 {t:List Value} (n:kitAny K (.type "NoneType") t = some false):IsTab K t []:=⟨n,fun c b h=>nomatch h⟩
theorem istab1 {t:List Value} {v:Bool} {tab:List (Str × Bool)} (b:ClsIs K c C) (q:excOk K C = true) (e:kitAny K (.ref C) t = some v) (r:IsTab K t tab):IsTab K t ((c,v)::tab):=⟨r.non,fun d w hd=>by
 rw [List.lookup_cons] at hd
 split at hd
 ·rename_i hb
  have:d = c:=by simpa using hb
  subst this
  cases hd
  exact ⟨C,b,q,e⟩
 ·exact r.exc d w hd⟩
structure IsOwn (K:PySem.W.Frag) (g:Str) (tab:List (Str × Bool)):Prop where
 ex:∃ G:Addr,ClsIs K g G∧IsTab K [.ref G] tab
structure IsMany (K:PySem.W.Frag) (gs:List Str) (tab:List (Str × Bool)):Prop where
 ex:∃ Cs:List Addr,ClsL K gs Cs∧IsTab K (Cs.map Value.ref) tab
end
section
variable {X:Cx} {H0 Hs0:Hp} {a:Expr} {da:DE} {es:List Expr} {ra:DA} {pos p1 p2 p:Pos} {tab:List (Str × Bool)} {x g t:Str}
def KGl (X:Cx):Prop:=∀ (y:Str) (C:Addr),ClsIs X.K y C→X.mg y = some (.ref C)
theorem ClsL.get {K:PySem.W.Frag} {gs:List Str} {Cs:List Addr} (h:ClsL K gs Cs):gs.length = Cs.length∧∀ (i:Nat) (y:Str) (C:Addr),gs[i]? = some y→Cs[i]? = some C→ClsIs K y C:=by
 induction h with
 | nil=>exact ⟨rfl,fun i y C h=>by simp at h⟩
 | cons a _ ih =>
  refine ⟨by simp [ih.1],fun i y C e1 e2=>?_⟩
  cases i with
  | zero=>simp at e1 e2; subst e1 e2; exact a
  | succ i=>exact ih.2 i y C (by simpa using e1) (by simpa using e2)
theorem xraise {np cpos cp:Pos} {j} (hx:ExcAt X.K x) (hc:X.calm = true:=by rfl) (hg:Gl X x:=by rfl) (hd:(x == ("__debug__":Str)) = false:=by decide) :
  XS X H0 Hs0 (.Raise (some (.Call (.Name x np) [.Constant (.str t) j cp] [] cpos)) none pos) (sRaise x):=⟨qs_raise hx hc hg hd rfl⟩
theorem xtry (i:Nat) {n:Str} {fp cpos bpos gp hpos:Pos} {e:Expr} {st:Stmt} {sts:List Stmt} {m:List PV→Res PV} {cs:List Str} {ds:DS} (F:FunIs X x m) (ha:XA X.nox H0 Hs0 (e::es) ra) (hC:Caught X.K g cs) (hs:∀ ea,XB (cxM X ea) H0 Hs0 (st::sts) ds)
  (hN:X.N.Nodup:=by assumption) (hg:Gl X x:=by rfl) (hdb:(x == ("__debug__":Str)) = false:=by decide) (he:noStar e = true:=by rfl) (hpl:es.all noStar = true:=by rfl)
  (hst:X.stack = X.env::X.outer:=by rfl) (hfm:X.env.frame = some X.env.locals:=by rfl) (hgg:Gl X g:=by rfl) (hgd:(g == ("__debug__":Str)) = false:=by decide) (hi:X.N[i]? = some n:=by rfl) (hk:X.env.scope.names.lookup n = some .local:=by rfl) :
  XS X H0 Hs0 (.Try [.Expr (.Call (.Name x fp) (e::es) [] cpos) bpos] [.ExceptHandler (some (.Name g gp)) (some n) (st::sts) hpos] [] [] pos) (sTry m ra cs i ds) :=
 ⟨qs_try (b0:=e) F hg ha.h hdb (star_cons he) (star_any hpl) rfl hst hfm hgg hgd hC hN hi hk fun ea=>(hs ea).h⟩
theorem xisb {T:String} (ha:XE X H0 Hs0 a da) (hx:bootBuiltins x = some (.type T)) (I:IsTab X.K [.type T] tab) (hm:X.mg "isinstance" = none) (hm2:X.mg x = none) (hg:Gl X "isinstance":=by rfl) (hg2:Gl X x:=by rfl) (hn:x≠"__name__":=by decide)
  (hdb:(x == ("__debug__":Str)) = false:=by decide) (h1:noStar a = true:=by rfl):XE X H0 Hs0 (.Call (.Name "isinstance" p1) [a,.Name x p2] [] pos) (e1 (pIsiX tab) da) :=
 ⟨q_isx ha.h (pe_bltn (v:=.ty T) hg2 hm2 hx rfl hn hdb) rfl (fun u r=>r) I hg hm (star_cons h1) rfl rfl⟩
theorem xiso (ha:XE X H0 Hs0 a da) (I:IsOwn X.K g tab) (KG:KGl X) (hm:X.mg "isinstance" = none) (hg:Gl X "isinstance":=by rfl) (hg2:Gl X g:=by rfl)
  (hdb:(g == ("__debug__":Str)) = false:=by decide) (h1:noStar a = true:=by rfl):XE X H0 Hs0 (.Call (.Name "isinstance" p1) [a,.Name g p2] [] pos) (e1 (pIsiX tab) da):=by
 obtain ⟨G,hG,T⟩:=I.ex
 exact ⟨q_isx ha.h (pe_glob (v:=.ref G) hg2 (KG g G hG) rfl hdb) rfl (fun u r=>r) T hg hm (star_cons h1) rfl rfl⟩
def namesOf:List Expr→Option (List Str)
 | []=>some []
 | .Name x _::r=>(namesOf r).map (x::·)
 | _=>none
theorem namesOf_get:∀ {es:List Expr} {gs:List Str},namesOf es = some gs→es.length = gs.length∧∀ (i:Nat) (e:Expr),es[i]? = some e→∃ y q,e = .Name y q∧gs[i]? = some y
 | [],gs,h=>by cases h; exact ⟨rfl,fun i e h=>by simp at h⟩
 | .Name x q::r,gs,h=>by
  unfold namesOf at h
  cases e:namesOf r with
  | none=>rw [e] at h; cases h
  | some ys =>
   rw [e] at h
   cases h
   obtain ⟨h1,h2⟩:=namesOf_get e
   refine ⟨by simp [h1],fun i e' he=>?_⟩
   cases i with
   | zero=>simp at he; subst he; exact ⟨x,q,rfl,rfl⟩
   | succ i=>obtain ⟨y,q',a,b⟩:=h2 i e' (by simpa using he); exact ⟨y,q',a,by simpa using b⟩
def glAll (X:Cx) (gs:List Str):Bool:=gs.all fun y=>X.env.kindOf y == some .globalImplicit && !(y == ("__debug__":Str))
theorem star_map {env:Env}:∀ {es:List Expr},es.all noStar = true→starEach es env = es.map fun e=>(false,eval e env)
 | [],_=>rfl
 | e::es,h=>by
  rw [List.all_cons,Bool.and_eq_true] at h
  rw [star_cons h.1,star_map h.2]
  rfl
theorem all_drop {es:List Expr} (h:es.all noStar = true) (i:Nat):(es.drop i).all noStar = true:=List.all_eq_true.mpr fun e he=>List.all_eq_true.mp h e (List.mem_of_mem_drop he)
theorem xist {k:Nat} {tp:Pos} {gs:List Str} (ha:XE X H0 Hs0 a da) (I:IsMany X.K gs tab) (KG:KGl X) (hm:X.mg "isinstance" = none) (hn:namesOf es = some gs:=by rfl) (hgl:glAll X gs = true:=by rfl) (hz:gs.length≤1000:=by decide) (hst:es.all noStar = true:=by rfl)
  (hg:Gl X "isinstance":=by rfl) (h1:noStar a = true:=by rfl):XE X H0 Hs0 (.Call (.Name "isinstance" p1) [a,.Tuple es k tp] [] pos) (e1 (pIsiX tab) da):=by
 obtain ⟨Cs,hL,T⟩:=I.ex
 obtain ⟨l1,l2⟩:=hL.get
 obtain ⟨l3,l4⟩:=namesOf_get hn
 refine ⟨q_isxt ha.h (pa_refs (fun i e C he hC=>?_) (l3.trans l1) fun i=>star_map (all_drop hst i)) (by omega) T hg hm (star_cons h1) rfl rfl⟩
 obtain ⟨y,q,rfl,hy⟩:=l4 i e he
 have hq:=List.all_eq_true.mp hgl y (List.mem_of_getElem? hy)
 rw [Bool.and_eq_true,beq_iff_eq,Bool.not_eq_true'] at hq
 exact pe_glob (v:=.ref C) hq.1 (KG y C (l2 i y C hy hC)) rfl hq.2
end
end G
namespace G
open PySem PySem.Spec PyProof.Rows L2
section
variable {g:PV→PV→Res PV} {h:PV→Res PV} {a b:DE} {r:DA} {σ:PSt} {s t:DT} {c d:DS} {i j:Int}
@[simp] theorem bind_ok' {α β:Type} (x:α) (f:α→Res β):(Res.ok x).bind f = f x:=rfl
@[simp] theorem bind_err' {α β:Type} (x:Str) (f:α→Res β):(Res.err x:Res α).bind f = .err x:=rfl
@[simp] theorem bind_stuck' {α β:Type} (f:α→Res β):(Res.stuck:Res α).bind f = .stuck:=rfl
@[simp] theorem e2_s:e2 g a b σ = (a σ).bind fun p=>(b σ).bind fun q=>g p q:=rfl
@[simp] theorem e1_s:e1 h a σ = (a σ).bind h:=rfl
@[simp] theorem eC_s {p:PV}:eC p σ = .ok p:=rfl
@[simp] theorem eA_s {f:List PV→Res PV}:eA f r σ = (r σ).bind f:=rfl
@[simp] theorem aNil_s:aNil σ = .ok []:=rfl
@[simp] theorem aCons_s:aCons a r σ = (a σ).bind fun p=>(r σ).bind fun ps=>.ok (p::ps):=rfl
@[simp] theorem eAnd_s:eAnd a b σ = (a σ).bind fun p=>(asB p).bind fun c=>if c = true then b σ else .ok (.bl false):=rfl
@[simp] theorem asB_s {k:Bool}:asB (.bl k) = .ok k:=rfl
@[simp] theorem pNot_s {k:Bool}:pNot (.bl k) = .ok (.bl (!k)):=rfl
@[simp] theorem tV_s:tV a σ = (a σ).bind asB:=rfl
@[simp] theorem tAnd_s:G.tAnd s t σ = (s σ).bind fun c=>if c = true then t σ else .ok false:=rfl
@[simp] theorem tOr_s:G.tOr s t σ = (s σ).bind fun c=>if c = true then .ok true else t σ:=rfl
@[simp] theorem tNot_s:G.tNot s σ = (s σ).bind fun c=>.ok (!c):=rfl
@[simp] theorem pAdd_s:pAdd (.int i) (.int j) = .ok (.int (i + j)):=rfl
@[simp] theorem pSub_s:pSub (.int i) (.int j) = .ok (.int (i - j)):=rfl
theorem pMul_s (h:IntMulOk i j):pMul (.int i) (.int j) = .ok (.int (i * j)):=if_pos h
theorem pFdiv_s (h:j≠0) (h':Builtin.Int.intBits j≤9000):pFdiv (.int i) (.int j) = .ok (.int (i.fdiv j)):=if_pos ⟨h,h'⟩
theorem pMod_s (h:j≠0):pMod (.int i) (.int j) = .ok (.int (i.fmod j)):=if_pos h
theorem pPow_s (h:0≤j) (h':j≤1000000) (h'':i.natAbs < 2 ^ 64):pPow (.int i) (.int j) = .ok (.int (i ^ j.toNat)):=if_pos ⟨h,h',h''⟩
@[simp] theorem pNeg_s:pNeg (.int i) = .ok (.int (-i)):=rfl
@[simp] theorem pCmp_s {f:Int→Int→Bool}:pCmp f (.int i) (.int j) = .ok (.bl (f i j)):=rfl
@[simp] theorem pEq_i:pEq (.int i) (.int j) = .ok (.bl (decide (i = j))):=by
 show Res.ok (PV.bl (peq (.int i) (.int j))) = _
 rw [show peq (.int i) (.int j) = (i == j) by rw [peq],Bool.beq_eq_decide_eq]
@[simp] theorem pNe_i:pNe (.int i) (.int j) = .ok (.bl (!decide (i = j))):=by
 show Res.ok (PV.bl (!peq (.int i) (.int j))) = _
 rw [show peq (.int i) (.int j) = (i == j) by rw [peq],Bool.beq_eq_decide_eq]
@[simp] theorem pEq_b {i j:Bool}:pEq (.bl i) (.bl j) = .ok (.bl (decide (i = j))):=by
 show Res.ok (PV.bl (peq (.bl i) (.bl j))) = _
 rw [show peq (.bl i) (.bl j) = (i == j) by rw [peq],Bool.beq_eq_decide_eq]
@[simp] theorem pNe_b {i j:Bool}:pNe (.bl i) (.bl j) = .ok (.bl (!decide (i = j))):=by
 show Res.ok (PV.bl (!peq (.bl i) (.bl j))) = _
 rw [show peq (.bl i) (.bl j) = (i == j) by rw [peq],Bool.beq_eq_decide_eq]
@[simp] theorem pIsi_n {T:String}:pIsi T .non = .ok (.bl (isSub (tyName .non) T)):=rfl
@[simp] theorem pIsi_b {T:String} {x:Bool}:pIsi T (.bl x) = .ok (.bl (isSub (tyName (.bl x)) T)):=rfl
@[simp] theorem pIsi_i {T:String} {x:Int}:pIsi T (.int x) = .ok (.bl (isSub (tyName (.int x)) T)):=rfl
@[simp] theorem pIsi_s {T:String} {x:Str}:pIsi T (.str x) = .ok (.bl (isSub (tyName (.str x)) T)):=rfl
@[simp] theorem pIsi_t {T:String} {x:List PV}:pIsi T (.tup x) = .ok (.bl (isSub (tyName (.tup x)) T)):=rfl
@[simp] theorem pIsi_l {T:String} {x:List PV}:pIsi T (.lst x) = .ok (.bl (isSub (tyName (.lst x)) T)):=rfl
@[simp] theorem pIsi_c {T:String} {x:List Int}:pIsi T (.scr x) = .ok (.bl (isSub (tyName (.scr x)) T)):=rfl
@[simp] theorem pIsi_d {T:String}:pIsi T .dic = .ok (.bl (isSub (tyName .dic) T)):=rfl
@[simp] theorem noErr_s {p:PV}:noErr (.ok p) = .ok p:=rfl
@[simp] theorem sNext_s:sNext σ = .ok (.next σ):=rfl
@[simp] theorem sSeq_s:sSeq c d σ = (c σ).bind fun f=>match f with
 | .next σ'=>d σ'
 | f=>.ok f:=rfl
@[simp] theorem sRet_s:sRet a σ = (a σ).bind fun p=>.ok (.ret p):=rfl
@[simp] theorem sIf_s:sIf t c d σ = (t σ).bind fun k=>if k = true then c σ else d σ:=rfl
@[simp] theorem sSet_s {k:Nat}:sSet k a σ = (a σ).bind fun p=>.ok (.next (σ.set k (some (.sh p)))):=rfl
@[simp] theorem sFor_s {it:DI} {gg:DG}:sFor it gg c σ = (it σ).bind fun ps=>forS gg c ps σ:=rfl
@[simp] theorem itE_s:itE a σ = (a σ).bind asSeq:=rfl
@[simp] theorem itR_s {f:List PV→Res (List PV)}:itR f r σ = (r σ).bind f:=rfl
@[simp] theorem oNo_s:oNo σ = .ok none:=rfl
@[simp] theorem oE_s:oE a σ = (a σ).bind asI:=rfl
@[simp] theorem asI_s:asI (.int i) = .ok (some i):=rfl
@[simp] theorem eSl_s {lo hi:DO}:eSl a lo hi σ = (a σ).bind fun p=>(lo σ).bind fun l=>(hi σ).bind fun h=>pSl p l h:=rfl
@[simp] theorem gN_s {k:Nat} {p:PV}:gN k p σ = .ok (σ.set k (some (.sh p))):=rfl
@[simp] theorem forS_nil {gg:DG}:forS gg c [] σ = .ok (.next σ):=rfl
theorem forS_cons {gg:DG} {p:PV} {ps:List PV} {σ1:PSt} (h:gg p σ = .ok σ1):forS gg c (p::ps) σ = (c σ1).bind fun f=>match f with
   | .next σ'=>forS gg c ps σ'
   | .cont σ'=>forS gg c ps σ'
   | .brk σ'=>.ok (.next σ')
   | .ret p=>.ok (.ret p):=by
 show (match gg p σ with | .ok σ1=>_ | _=>_) = _
 rw [h]
 all_goals rfl
@[simp] theorem pTup_1 {p:PV}:pTup [p] = .ok (.tup [p]):=rfl
@[simp] theorem pTup_2 {p q:PV}:pTup [p,q] = .ok (.tup [p,q]):=rfl
@[simp] theorem pTup_3 {p q r:PV}:pTup [p,q,r] = .ok (.tup [p,q,r]):=rfl
@[simp] theorem pTup_0:pTup [] = .ok (.tup []):=rfl
@[simp] theorem fin_ret {p:PV}:fin (.ok (.ret p)) = .ok p:=rfl
@[simp] theorem fin_err {c:Str}:fin (.err c) = .stuck:=rfl
@[simp] theorem fin_next:fin (.ok (.next σ)) = .ok .non:=rfl
end
theorem run1 {m:Nat} {d:DS} {p:PV}:runF 1 m d [p] = fin (d (some (.sh p)::List.replicate (m - 1) none)):=(runF_eq rfl).trans rfl
theorem run2 {m:Nat} {d:DS} {p q:PV}:runF 2 m d [p,q] = fin (d (some (.sh p)::some (.sh q)::List.replicate (m - 2) none)):=(runF_eq rfl).trans rfl
theorem run3 {m:Nat} {d:DS} {p q r:PV}:runF 3 m d [p,q,r] = fin (d (some (.sh p)::some (.sh q)::some (.sh r)::List.replicate (m - 3) none)):=(runF_eq rfl).trans rfl
end G
namespace G
open PySem PySem.Spec PyProof.Rows L2
theorem for_all {gg:DG} {c:DS} (I:PSt→Prop) (P:PV→Prop) (h:∀ p σ,P p→I σ→∃ σ1 σ',gg p σ = .ok σ1∧c σ1 = .ok (.next σ')∧I σ') :
  ∀ (ps:List PV),(∀ p∈ps,P p)→∀ σ,I σ→∃ σ',forS gg c ps σ = .ok (.next σ')∧I σ'
 | [],_,σ,i=>⟨σ,rfl,i⟩
 | p::ps,hp,σ,i=>by
  obtain ⟨σ1,σ2,h1,h2,h3⟩:=h p σ (hp p List.mem_cons_self) i
  obtain ⟨σ3,h4,h5⟩:=for_all I P h ps (fun q hq=>hp q (List.mem_cons_of_mem _ hq)) σ2 h3
  refine ⟨σ3,?_,h5⟩
  rw [forS_cons h1,h2]
  exact h4
open Builtin.Int (intBits) in
theorem mulR {i j:Int} (h1:-(2 ^ 64) < j) (h2:j < 2 ^ 64):IntMulOk i j:=.of_right (intBits_le_64 h1 h2)
open Builtin.Int (intBits) in
theorem mulL {i j:Int} (h1:-(2 ^ 64) < i) (h2:i < 2 ^ 64):IntMulOk i j:=.of_left (intBits_le_64 h1 h2)
theorem atI_of {α:Type} {xs:List α} {k:Int} (h0:0≤k) (h:k < xs.length):∃ x,atI xs k = some x∧x∈xs:=by
 have hk:k.toNat < xs.length:=by omega
 refine ⟨xs[k.toNat],?_,List.getElem_mem _⟩
 have e:k = ((k.toNat:Nat):Int):=by omega
 have q:atI xs ((k.toNat:Nat):Int) = some xs[k.toNat]:=atI_nat (by simp [hk])
 rw [← e] at q
 exact q
end G
namespace G
open PySem PySem.Spec PyProof.Rows L2
section
variable {p:PV} {σ:PSt} {db:DE} {xs:List PV} {x0 x1 x2 x3 x4 x5 x6 x7 x8 x9 x10 x11 x12 x13 x14 x15 x16 x17 x18 x19 x20 x21 x22 x23 x24 x25:Option SV}
@[simp] theorem eVar_0:eVar 0 (some (.sh p)::σ) = .ok p:=rfl
@[simp] theorem eIxV_0:eIxV 0 db (some (.sh p)::σ) = (db (some (.sh p)::σ)).bind fun q=>pIx p q:=rfl
@[simp] theorem eIxO_0:eIxV 0 db (some (.own xs)::σ) = (db (some (.own xs)::σ)).bind fun q=>pIx (.lst xs) q:=rfl
@[simp] theorem eLenV_0:eLenV 0 (some (.sh p)::σ) = bLen [p]:=rfl
@[simp] theorem eLenO_0:eLenV 0 (some (.own xs)::σ) = .ok (.int xs.length):=rfl
@[simp] theorem eVar_1:eVar 1 (x0::some (.sh p)::σ) = .ok p:=rfl
@[simp] theorem eIxV_1:eIxV 1 db (x0::some (.sh p)::σ) = (db (x0::some (.sh p)::σ)).bind fun q=>pIx p q:=rfl
@[simp] theorem eIxO_1:eIxV 1 db (x0::some (.own xs)::σ) = (db (x0::some (.own xs)::σ)).bind fun q=>pIx (.lst xs) q:=rfl
@[simp] theorem eLenV_1:eLenV 1 (x0::some (.sh p)::σ) = bLen [p]:=rfl
@[simp] theorem eLenO_1:eLenV 1 (x0::some (.own xs)::σ) = .ok (.int xs.length):=rfl
@[simp] theorem eVar_2:eVar 2 (x0::x1::some (.sh p)::σ) = .ok p:=rfl
@[simp] theorem eIxV_2:eIxV 2 db (x0::x1::some (.sh p)::σ) = (db (x0::x1::some (.sh p)::σ)).bind fun q=>pIx p q:=rfl
@[simp] theorem eIxO_2:eIxV 2 db (x0::x1::some (.own xs)::σ) = (db (x0::x1::some (.own xs)::σ)).bind fun q=>pIx (.lst xs) q:=rfl
@[simp] theorem eLenV_2:eLenV 2 (x0::x1::some (.sh p)::σ) = bLen [p]:=rfl
@[simp] theorem eLenO_2:eLenV 2 (x0::x1::some (.own xs)::σ) = .ok (.int xs.length):=rfl
@[simp] theorem eVar_3:eVar 3 (x0::x1::x2::some (.sh p)::σ) = .ok p:=rfl
@[simp] theorem eIxV_3:eIxV 3 db (x0::x1::x2::some (.sh p)::σ) = (db (x0::x1::x2::some (.sh p)::σ)).bind fun q=>pIx p q:=rfl
@[simp] theorem eIxO_3:eIxV 3 db (x0::x1::x2::some (.own xs)::σ) = (db (x0::x1::x2::some (.own xs)::σ)).bind fun q=>pIx (.lst xs) q:=rfl
@[simp] theorem eLenV_3:eLenV 3 (x0::x1::x2::some (.sh p)::σ) = bLen [p]:=rfl
@[simp] theorem eLenO_3:eLenV 3 (x0::x1::x2::some (.own xs)::σ) = .ok (.int xs.length):=rfl
@[simp] theorem eVar_4:eVar 4 (x0::x1::x2::x3::some (.sh p)::σ) = .ok p:=rfl
@[simp] theorem eIxV_4:eIxV 4 db (x0::x1::x2::x3::some (.sh p)::σ) = (db (x0::x1::x2::x3::some (.sh p)::σ)).bind fun q=>pIx p q:=rfl
@[simp] theorem eIxO_4:eIxV 4 db (x0::x1::x2::x3::some (.own xs)::σ) = (db (x0::x1::x2::x3::some (.own xs)::σ)).bind fun q=>pIx (.lst xs) q:=rfl
@[simp] theorem eLenV_4:eLenV 4 (x0::x1::x2::x3::some (.sh p)::σ) = bLen [p]:=rfl
@[simp] theorem eLenO_4:eLenV 4 (x0::x1::x2::x3::some (.own xs)::σ) = .ok (.int xs.length):=rfl
@[simp] theorem eVar_5:eVar 5 (x0::x1::x2::x3::x4::some (.sh p)::σ) = .ok p:=rfl
@[simp] theorem eIxV_5:eIxV 5 db (x0::x1::x2::x3::x4::some (.sh p)::σ) = (db (x0::x1::x2::x3::x4::some (.sh p)::σ)).bind fun q=>pIx p q:=rfl
@[simp] theorem eIxO_5:eIxV 5 db (x0::x1::x2::x3::x4::some (.own xs)::σ) = (db (x0::x1::x2::x3::x4::some (.own xs)::σ)).bind fun q=>pIx (.lst xs) q:=rfl
@[simp] theorem eLenV_5:eLenV 5 (x0::x1::x2::x3::x4::some (.sh p)::σ) = bLen [p]:=rfl
@[simp] theorem eLenO_5:eLenV 5 (x0::x1::x2::x3::x4::some (.own xs)::σ) = .ok (.int xs.length):=rfl
end
@[simp] theorem ty_non:tyName .non = "NoneType":=rfl
@[simp] theorem ty_bl {b}:tyName (.bl b) = "bool":=rfl
@[simp] theorem ty_int {b}:tyName (.int b) = "int":=rfl
@[simp] theorem ty_str {b}:tyName (.str b) = "str":=rfl
@[simp] theorem ty_tup {b}:tyName (.tup b) = "tuple":=rfl
@[simp] theorem ty_lst {b}:tyName (.lst b) = "list":=rfl
@[simp] theorem ty_scr {b}:tyName (.scr b) = "list":=rfl
@[simp] theorem ty_dic:tyName .dic = "dict":=rfl
@[simp] theorem pIx_t {xs:List PV} {i:Int}:pIx (.tup xs) (.int i) = atR xs i id:=rfl
@[simp] theorem pIx_l {xs:List PV} {i:Int}:pIx (.lst xs) (.int i) = atR xs i id:=rfl
@[simp] theorem pIx_s {xs:List Int} {i:Int}:pIx (.scr xs) (.int i) = atR xs i PV.int:=rfl
@[simp] theorem bLen_t {xs:List PV}:bLen [.tup xs] = .ok (.int xs.length):=rfl
@[simp] theorem bLen_l {xs:List PV}:bLen [.lst xs] = .ok (.int xs.length):=rfl
@[simp] theorem bLen_s {xs:List Int}:bLen [.scr xs] = .ok (.int xs.length):=rfl
@[simp] theorem asSeq_t {xs:List PV}:asSeq (.tup xs) = .ok xs:=rfl
@[simp] theorem asSeq_l {xs:List PV}:asSeq (.lst xs) = .ok xs:=rfl
@[simp] theorem asSeq_s {xs:List Int}:asSeq (.scr xs) = .ok (xs.map PV.int):=rfl
theorem atR_of {α:Type} {xs:List α} {i:Int} {f:α→PV} {x:α} (h:atI xs i = some x):atR xs i f = .ok (f x):=by unfold atR; rw [h]
@[simp] theorem atR_1_0 {α:Type} {f:α→PV} {y0:α}:atR [y0] 0 f = .ok (f y0):=rfl
@[simp] theorem atN_1_0 {α:Type} {f:α→PV} {y0:α}:atR [y0] (-1) f = .ok (f y0):=rfl
@[simp] theorem atR_2_0 {α:Type} {f:α→PV} {y0 y1:α}:atR [y0,y1] 0 f = .ok (f y0):=rfl
@[simp] theorem atN_2_0 {α:Type} {f:α→PV} {y0 y1:α}:atR [y0,y1] (-2) f = .ok (f y0):=rfl
@[simp] theorem atR_2_1 {α:Type} {f:α→PV} {y0 y1:α}:atR [y0,y1] 1 f = .ok (f y1):=rfl
@[simp] theorem atN_2_1 {α:Type} {f:α→PV} {y0 y1:α}:atR [y0,y1] (-1) f = .ok (f y1):=rfl
@[simp] theorem atR_3_0 {α:Type} {f:α→PV} {y0 y1 y2:α}:atR [y0,y1,y2] 0 f = .ok (f y0):=rfl
@[simp] theorem atN_3_0 {α:Type} {f:α→PV} {y0 y1 y2:α}:atR [y0,y1,y2] (-3) f = .ok (f y0):=rfl
@[simp] theorem atR_3_1 {α:Type} {f:α→PV} {y0 y1 y2:α}:atR [y0,y1,y2] 1 f = .ok (f y1):=rfl
@[simp] theorem atN_3_1 {α:Type} {f:α→PV} {y0 y1 y2:α}:atR [y0,y1,y2] (-2) f = .ok (f y1):=rfl
@[simp] theorem atR_3_2 {α:Type} {f:α→PV} {y0 y1 y2:α}:atR [y0,y1,y2] 2 f = .ok (f y2):=rfl
@[simp] theorem atN_3_2 {α:Type} {f:α→PV} {y0 y1 y2:α}:atR [y0,y1,y2] (-1) f = .ok (f y2):=rfl
@[simp] theorem atR_4_0 {α:Type} {f:α→PV} {y0 y1 y2 y3:α}:atR [y0,y1,y2,y3] 0 f = .ok (f y0):=rfl
@[simp] theorem atN_4_0 {α:Type} {f:α→PV} {y0 y1 y2 y3:α}:atR [y0,y1,y2,y3] (-4) f = .ok (f y0):=rfl
@[simp] theorem atR_4_1 {α:Type} {f:α→PV} {y0 y1 y2 y3:α}:atR [y0,y1,y2,y3] 1 f = .ok (f y1):=rfl
@[simp] theorem atN_4_1 {α:Type} {f:α→PV} {y0 y1 y2 y3:α}:atR [y0,y1,y2,y3] (-3) f = .ok (f y1):=rfl
@[simp] theorem atR_4_2 {α:Type} {f:α→PV} {y0 y1 y2 y3:α}:atR [y0,y1,y2,y3] 2 f = .ok (f y2):=rfl
@[simp] theorem atN_4_2 {α:Type} {f:α→PV} {y0 y1 y2 y3:α}:atR [y0,y1,y2,y3] (-2) f = .ok (f y2):=rfl
@[simp] theorem atR_4_3 {α:Type} {f:α→PV} {y0 y1 y2 y3:α}:atR [y0,y1,y2,y3] 3 f = .ok (f y3):=rfl
@[simp] theorem atN_4_3 {α:Type} {f:α→PV} {y0 y1 y2 y3:α}:atR [y0,y1,y2,y3] (-1) f = .ok (f y3):=rfl
@[simp] theorem atR_5_0 {α:Type} {f:α→PV} {y0 y1 y2 y3 y4:α}:atR [y0,y1,y2,y3,y4] 0 f = .ok (f y0):=rfl
@[simp] theorem atN_5_0 {α:Type} {f:α→PV} {y0 y1 y2 y3 y4:α}:atR [y0,y1,y2,y3,y4] (-5) f = .ok (f y0):=rfl
@[simp] theorem atR_5_1 {α:Type} {f:α→PV} {y0 y1 y2 y3 y4:α}:atR [y0,y1,y2,y3,y4] 1 f = .ok (f y1):=rfl
@[simp] theorem atN_5_1 {α:Type} {f:α→PV} {y0 y1 y2 y3 y4:α}:atR [y0,y1,y2,y3,y4] (-4) f = .ok (f y1):=rfl
@[simp] theorem atR_5_2 {α:Type} {f:α→PV} {y0 y1 y2 y3 y4:α}:atR [y0,y1,y2,y3,y4] 2 f = .ok (f y2):=rfl
@[simp] theorem atN_5_2 {α:Type} {f:α→PV} {y0 y1 y2 y3 y4:α}:atR [y0,y1,y2,y3,y4] (-3) f = .ok (f y2):=rfl
@[simp] theorem atR_5_3 {α:Type} {f:α→PV} {y0 y1 y2 y3 y4:α}:atR [y0,y1,y2,y3,y4] 3 f = .ok (f y3):=rfl
@[simp] theorem atN_5_3 {α:Type} {f:α→PV} {y0 y1 y2 y3 y4:α}:atR [y0,y1,y2,y3,y4] (-2) f = .ok (f y3):=rfl
@[simp] theorem atR_5_4 {α:Type} {f:α→PV} {y0 y1 y2 y3 y4:α}:atR [y0,y1,y2,y3,y4] 4 f = .ok (f y4):=rfl
@[simp] theorem atN_5_4 {α:Type} {f:α→PV} {y0 y1 y2 y3 y4:α}:atR [y0,y1,y2,y3,y4] (-1) f = .ok (f y4):=rfl
@[simp] theorem atR_6_0 {α:Type} {f:α→PV} {y0 y1 y2 y3 y4 y5:α}:atR [y0,y1,y2,y3,y4,y5] 0 f = .ok (f y0):=rfl
@[simp] theorem atN_6_0 {α:Type} {f:α→PV} {y0 y1 y2 y3 y4 y5:α}:atR [y0,y1,y2,y3,y4,y5] (-6) f = .ok (f y0):=rfl
@[simp] theorem atR_6_1 {α:Type} {f:α→PV} {y0 y1 y2 y3 y4 y5:α}:atR [y0,y1,y2,y3,y4,y5] 1 f = .ok (f y1):=rfl
@[simp] theorem atN_6_1 {α:Type} {f:α→PV} {y0 y1 y2 y3 y4 y5:α}:atR [y0,y1,y2,y3,y4,y5] (-5) f = .ok (f y1):=rfl
@[simp] theorem atR_6_2 {α:Type} {f:α→PV} {y0 y1 y2 y3 y4 y5:α}:atR [y0,y1,y2,y3,y4,y5] 2 f = .ok (f y2):=rfl
@[simp] theorem atN_6_2 {α:Type} {f:α→PV} {y0 y1 y2 y3 y4 y5:α}:atR [y0,y1,y2,y3,y4,y5] (-4) f = .ok (f y2):=rfl
@[simp] theorem atR_6_3 {α:Type} {f:α→PV} {y0 y1 y2 y3 y4 y5:α}:atR [y0,y1,y2,y3,y4,y5] 3 f = .ok (f y3):=rfl
@[simp] theorem atN_6_3 {α:Type} {f:α→PV} {y0 y1 y2 y3 y4 y5:α}:atR [y0,y1,y2,y3,y4,y5] (-3) f = .ok (f y3):=rfl
@[simp] theorem atR_6_4 {α:Type} {f:α→PV} {y0 y1 y2 y3 y4 y5:α}:atR [y0,y1,y2,y3,y4,y5] 4 f = .ok (f y4):=rfl
@[simp] theorem atN_6_4 {α:Type} {f:α→PV} {y0 y1 y2 y3 y4 y5:α}:atR [y0,y1,y2,y3,y4,y5] (-2) f = .ok (f y4):=rfl
@[simp] theorem atR_6_5 {α:Type} {f:α→PV} {y0 y1 y2 y3 y4 y5:α}:atR [y0,y1,y2,y3,y4,y5] 5 f = .ok (f y5):=rfl
@[simp] theorem atN_6_5 {α:Type} {f:α→PV} {y0 y1 y2 y3 y4 y5:α}:atR [y0,y1,y2,y3,y4,y5] (-1) f = .ok (f y5):=rfl
@[simp] theorem atR_7_0 {α:Type} {f:α→PV} {y0 y1 y2 y3 y4 y5 y6:α}:atR [y0,y1,y2,y3,y4,y5,y6] 0 f = .ok (f y0):=rfl
@[simp] theorem atN_7_0 {α:Type} {f:α→PV} {y0 y1 y2 y3 y4 y5 y6:α}:atR [y0,y1,y2,y3,y4,y5,y6] (-7) f = .ok (f y0):=rfl
@[simp] theorem atR_7_1 {α:Type} {f:α→PV} {y0 y1 y2 y3 y4 y5 y6:α}:atR [y0,y1,y2,y3,y4,y5,y6] 1 f = .ok (f y1):=rfl
@[simp] theorem atN_7_1 {α:Type} {f:α→PV} {y0 y1 y2 y3 y4 y5 y6:α}:atR [y0,y1,y2,y3,y4,y5,y6] (-6) f = .ok (f y1):=rfl
@[simp] theorem atR_7_2 {α:Type} {f:α→PV} {y0 y1 y2 y3 y4 y5 y6:α}:atR [y0,y1,y2,y3,y4,y5,y6] 2 f = .ok (f y2):=rfl
@[simp] theorem atN_7_2 {α:Type} {f:α→PV} {y0 y1 y2 y3 y4 y5 y6:α}:atR [y0,y1,y2,y3,y4,y5,y6] (-5) f = .ok (f y2):=rfl
@[simp] theorem atR_7_3 {α:Type} {f:α→PV} {y0 y1 y2 y3 y4 y5 y6:α}:atR [y0,y1,y2,y3,y4,y5,y6] 3 f = .ok (f y3):=rfl
@[simp] theorem atN_7_3 {α:Type} {f:α→PV} {y0 y1 y2 y3 y4 y5 y6:α}:atR [y0,y1,y2,y3,y4,y5,y6] (-4) f = .ok (f y3):=rfl
@[simp] theorem atR_7_4 {α:Type} {f:α→PV} {y0 y1 y2 y3 y4 y5 y6:α}:atR [y0,y1,y2,y3,y4,y5,y6] 4 f = .ok (f y4):=rfl
@[simp] theorem atN_7_4 {α:Type} {f:α→PV} {y0 y1 y2 y3 y4 y5 y6:α}:atR [y0,y1,y2,y3,y4,y5,y6] (-3) f = .ok (f y4):=rfl
@[simp] theorem atR_7_5 {α:Type} {f:α→PV} {y0 y1 y2 y3 y4 y5 y6:α}:atR [y0,y1,y2,y3,y4,y5,y6] 5 f = .ok (f y5):=rfl
@[simp] theorem atN_7_5 {α:Type} {f:α→PV} {y0 y1 y2 y3 y4 y5 y6:α}:atR [y0,y1,y2,y3,y4,y5,y6] (-2) f = .ok (f y5):=rfl
@[simp] theorem atR_7_6 {α:Type} {f:α→PV} {y0 y1 y2 y3 y4 y5 y6:α}:atR [y0,y1,y2,y3,y4,y5,y6] 6 f = .ok (f y6):=rfl
@[simp] theorem atN_7_6 {α:Type} {f:α→PV} {y0 y1 y2 y3 y4 y5 y6:α}:atR [y0,y1,y2,y3,y4,y5,y6] (-1) f = .ok (f y6):=rfl
@[simp] theorem atR_8_0 {α:Type} {f:α→PV} {y0 y1 y2 y3 y4 y5 y6 y7:α}:atR [y0,y1,y2,y3,y4,y5,y6,y7] 0 f = .ok (f y0):=rfl
@[simp] theorem atN_8_0 {α:Type} {f:α→PV} {y0 y1 y2 y3 y4 y5 y6 y7:α}:atR [y0,y1,y2,y3,y4,y5,y6,y7] (-8) f = .ok (f y0):=rfl
@[simp] theorem atR_8_1 {α:Type} {f:α→PV} {y0 y1 y2 y3 y4 y5 y6 y7:α}:atR [y0,y1,y2,y3,y4,y5,y6,y7] 1 f = .ok (f y1):=rfl
@[simp] theorem atN_8_1 {α:Type} {f:α→PV} {y0 y1 y2 y3 y4 y5 y6 y7:α}:atR [y0,y1,y2,y3,y4,y5,y6,y7] (-7) f = .ok (f y1):=rfl
@[simp] theorem atR_8_2 {α:Type} {f:α→PV} {y0 y1 y2 y3 y4 y5 y6 y7:α}:atR [y0,y1,y2,y3,y4,y5,y6,y7] 2 f = .ok (f y2):=rfl
@[simp] theorem atN_8_2 {α:Type} {f:α→PV} {y0 y1 y2 y3 y4 y5 y6 y7:α}:atR [y0,y1,y2,y3,y4,y5,y6,y7] (-6) f = .ok (f y2):=rfl
@[simp] theorem atR_8_3 {α:Type} {f:α→PV} {y0 y1 y2 y3 y4 y5 y6 y7:α}:atR [y0,y1,y2,y3,y4,y5,y6,y7] 3 f = .ok (f y3):=rfl
@[simp] theorem atN_8_3 {α:Type} {f:α→PV} {y0 y1 y2 y3 y4 y5 y6 y7:α}:atR [y0,y1,y2,y3,y4,y5,y6,y7] (-5) f = .ok (f y3):=rfl
@[simp] theorem atR_8_4 {α:Type} {f:α→PV} {y0 y1 y2 y3 y4 y5 y6 y7:α}:atR [y0,y1,y2,y3,y4,y5,y6,y7] 4 f = .ok (f y4):=rfl
@[simp] theorem atN_8_4 {α:Type} {f:α→PV} {y0 y1 y2 y3 y4 y5 y6 y7:α}:atR [y0,y1,y2,y3,y4,y5,y6,y7] (-4) f = .ok (f y4):=rfl
@[simp] theorem atR_8_5 {α:Type} {f:α→PV} {y0 y1 y2 y3 y4 y5 y6 y7:α}:atR [y0,y1,y2,y3,y4,y5,y6,y7] 5 f = .ok (f y5):=rfl
@[simp] theorem atN_8_5 {α:Type} {f:α→PV} {y0 y1 y2 y3 y4 y5 y6 y7:α}:atR [y0,y1,y2,y3,y4,y5,y6,y7] (-3) f = .ok (f y5):=rfl
@[simp] theorem atR_8_6 {α:Type} {f:α→PV} {y0 y1 y2 y3 y4 y5 y6 y7:α}:atR [y0,y1,y2,y3,y4,y5,y6,y7] 6 f = .ok (f y6):=rfl
@[simp] theorem atN_8_6 {α:Type} {f:α→PV} {y0 y1 y2 y3 y4 y5 y6 y7:α}:atR [y0,y1,y2,y3,y4,y5,y6,y7] (-2) f = .ok (f y6):=rfl
@[simp] theorem atR_8_7 {α:Type} {f:α→PV} {y0 y1 y2 y3 y4 y5 y6 y7:α}:atR [y0,y1,y2,y3,y4,y5,y6,y7] 7 f = .ok (f y7):=rfl
@[simp] theorem atN_8_7 {α:Type} {f:α→PV} {y0 y1 y2 y3 y4 y5 y6 y7:α}:atR [y0,y1,y2,y3,y4,y5,y6,y7] (-1) f = .ok (f y7):=rfl
end G
namespace G
open PySem PySem.Spec PyProof.Rows L2
section
variable {i j:Int}
@[simp] theorem pMul_nr (n:Nat) (h:n < 18446744073709551616):pMul (.int i) (.int (no_index (OfNat.ofNat n))) = .ok (.int (i * OfNat.ofNat n)):=pMul_s (mulR (by show -(2 ^ 64) < ((n:Nat):Int); omega) (by show ((n:Nat):Int) < 2 ^ 64; omega))
@[simp] theorem pMul_nl (n:Nat) (h:n < 18446744073709551616):pMul (.int (no_index (OfNat.ofNat n))) (.int j) = .ok (.int (OfNat.ofNat n * j)):=pMul_s (mulL (by show -(2 ^ 64) < ((n:Nat):Int); omega) (by show ((n:Nat):Int) < 2 ^ 64; omega))
@[simp] theorem pMod_n (n:Nat) (h:0 < n):pMod (.int i) (.int (no_index (OfNat.ofNat n))) = .ok (.int (i % OfNat.ofNat n)):=by
 have h0:(0:Int) < (OfNat.ofNat n:Int):=by show (0:Int) < ((n:Nat):Int); omega
 rw [pMod_s (by omega),Int.fmod_eq_emod_of_nonneg _ (by omega)]
@[simp] theorem pFdiv_n (n:Nat) (h:0 < n) (h':n < 18446744073709551616):pFdiv (.int i) (.int (no_index (OfNat.ofNat n))) = .ok (.int (i / OfNat.ofNat n)):=by
 have h0:(0:Int) < (OfNat.ofNat n:Int):=by show (0:Int) < ((n:Nat):Int); omega
 have h1:(OfNat.ofNat n:Int) < 2 ^ 64:=by show ((n:Nat):Int) < 2 ^ 64; omega
 rw [pFdiv_s (by omega) (Nat.le_trans (intBits_le_64 (by omega) h1) (by decide)),Int.fdiv_eq_ediv_of_nonneg _ (by omega)]
@[simp] theorem pPow_n (n m:Nat) (h:n < 18446744073709551616) (h':m≤1000000):pPow (.int (no_index (OfNat.ofNat n))) (.int (no_index (OfNat.ofNat m))) = .ok (.int (OfNat.ofNat n ^ m)):=by
 have e:((OfNat.ofNat m:Int)).toNat = m:=by show (((m:Nat):Int)).toNat = m; omega
 rw [pPow_s (by show (0:Int)≤((m:Nat):Int); omega) (by show ((m:Nat):Int)≤1000000; omega) (by show (((n:Nat):Int)).natAbs < 2 ^ 64; omega),e]
end
end G
namespace G
open PySem PySem.Spec PyProof.Rows L2
section
variable {σ:PSt}
@[simp] theorem finE_ret {p:PV}:finE (.ok (.ret p)) = .ok p:=rfl
@[simp] theorem finE_err {c:Str}:finE (.err c) = .err c:=rfl
@[simp] theorem finE_next:finE (.ok (.next σ)) = .ok .non:=rfl
@[simp] theorem sRaise_s {c:Str}:sRaise c σ = .err c:=rfl
@[simp] theorem noErr_e {c:Str}:noErr (.err c) = .stuck:=rfl
@[simp] theorem pIsiX_n {tab:List (Str × Bool)}:pIsiX tab .non = .ok (.bl false):=rfl
theorem pIsiX_c {tab:List (Str × Bool)} {c:Str} {b:Bool} (h:tab.lookup c = some b):pIsiX tab (.exc c) = .ok (.bl b):=by rw [pIsiX_e,h]
theorem sTry_err {m:List PV→Res PV} {ra:DA} {cs:List Str} {i:Nat} {ds:DS} {qs:List PV} {c:Str} {σ':PSt} (h1:ra σ = .ok qs) (h2:m qs = .err c) (h3:cs.contains c = true) (h4:ds (σ.set i (some (.sh (.exc c)))) = .ok (.next σ')):sTry m ra cs i ds σ = .ok (.next (σ'.set i none)):=by
 unfold sTry; simp only [h1,h2,h3,if_true,h4]
end
theorem re1 {m:Nat} {d:DS} {p:PV}:runE 1 m d [p] = finE (d (some (.sh p)::List.replicate (m - 1) none)):=(runE_eq rfl).trans rfl
end G
namespace G
open PySem PySem.Spec PyProof.Rows L2
def sShare (i:Nat) (d:DS):DS:=fun σ=>match σ[i]? with
 | some (some (.own xs))=>d (σ.set i (some (.sh (.lst xs))))
 | _=>d σ
section
variable {X:Cx} {H0 Hs0 Hs H:Hp} {σ:PSt} {τ:L2.St} {a b:Expr} {da db:DE} {pos pos' np:Pos} {i:Nat} {x:Str}
theorem SR.share {K:PySem.W.Frag} {xs:List PV} (S:SR K H0 Hs0 Hs H σ τ) (e:σ[i]? = some (some (.own xs))):∃ Hs',Same Hs Hs'∧SR K H0 Hs0 Hs' H (σ.set i (some (.sh (.lst xs)))) τ:=by
 obtain ⟨v,e1,ad,vs,rfl,h1,h2,h3,h4⟩:=S.slot i _ e
 refine ⟨upd Hs ad (.lst vs),same_lay h2,S.g.lay h1 h2 h3,fun j sv ej=>?_,fun j k xs' ys' a hjk e2 e3 e4=>?_,by rw [List.length_set]; exact S.len⟩
 ·rcases set_some ej with ⟨rfl,e',_⟩ | ⟨hne,e'⟩
  ·cases e'
   exact ⟨.ref ad,e1,.lst upd_same (h4.mono (same_lay h2))⟩
  ·obtain ⟨w,w1,w2⟩:=S.slot j sv e'
   refine ⟨w,w1,?_⟩
   cases sv with
   | sh p=>exact Rep.mono (same_lay h2) w2
   | own ys =>
    obtain ⟨a',vs',rfl,q1,q2,q3,q4⟩:=w2
    have:a'≠ad:=fun z=>S.inj i j xs ys ad (Ne.symm hne) e e' e1 (by rw [← z]; exact w1)
    exact ⟨a',vs',rfl,q1,by rw [upd_ne this]; exact q2,q3,q4.mono (same_lay h2)⟩
 ·rcases set_some e2 with ⟨_,z,_⟩ | ⟨_,e2'⟩
  ·cases z
  ·rcases set_some e3 with ⟨_,z,_⟩ | ⟨_,e3'⟩
   ·cases z
   ·exact S.inj j k _ _ _ hjk e2' e3' e4
theorem qs_share {st:Stmt} {d:DS} (i:Nat) (h:QS X H0 Hs0 st d):QS X H0 Hs0 st (sShare i d):=PS.imp h fun D τ H ⟨Hs,σ,S,q⟩=>by
 unfold sShare at q
 split at q
 ·rename_i xs e
  obtain ⟨Hs',e',S'⟩:=S.share e
  exact ⟨Hs',_,S',EndR.same q e'⟩
 ·exact ⟨Hs,σ,S,q⟩
theorem xshare {st:Stmt} {d:DS} (i:Nat) (h:XS X H0 Hs0 st d):XS X H0 Hs0 st (sShare i d):=⟨qs_share i h.h⟩
theorem xgs0:XGs X H0 Hs0 [] []:=⟨qgs_nil⟩
theorem xgs (i:Nat) {is:List Nat} {es:List Expr} (h:XGs X H0 Hs0 es is) (hN:X.N.Nodup:=by assumption) (hi:X.N[i]? = some x:=by rfl) (hx:Loc X.env.scope x:=by first | exact Or.inl rfl | exact Or.inr rfl) (hf:X.fn x = true∨X.env.scope.names.lookup x = some .local:=by first | exact Or.inl rfl | exact Or.inr rfl)
  (hs:(assignEach (.Name x pos::es) X.env).map (·.2) = assign (.Name x pos) X.env::(assignEach es X.env).map (·.2):=by rfl):XGs X H0 Hs0 (.Name x pos::es) (i::is):=⟨qgs_cons hN hi hx hf h.h hs⟩
theorem xgu {is:List Nat} {es:List Expr} {k:Nat} (h:XGs X H0 Hs0 es is) (hc:X.calm = true:=by rfl) (hn:(assignEach es X.env).length = is.length:=by rfl) (hst:(assignEach es X.env).findIdx? (·.1) = none:=by rfl):XG X H0 Hs0 (.Tuple es k pos) (gU is):=⟨qg_unp hc h.h hn hst⟩
end
end G
namespace GS
open PySem PySem.SetTable
def advM (m:Nat) (p:Probe):Probe :=
 if p.more > 0 then { p with j:=p.j + 1,more:=p.more - 1 } else
 { p with j:=(leap m p.i p.perturb).1,more:=runEnd m (leap m p.i p.perturb).1 - (leap m p.i p.perturb).1,i:=(leap m p.i p.perturb).1,perturb:=(leap m p.i p.perturb).2 }
theorem advance_eq (t:SetTable) (p:Probe):t.advance p = advM t.mask p:=rfl
def startM (m:Nat) (h:Int):Probe:={ j:=bits h % (m + 1),more:=runEnd m (bits h % (m + 1)) - bits h % (m + 1),i:=bits h % (m + 1),perturb:=bits h,dummy:=none }
theorem start_eq (t:SetTable) (h:Int):t.probeStart h = startM t.mask h:=rfl
def steps (m:Nat):Nat→Probe→Probe
 | 0,p=>p
 | n + 1,p=>steps m n (advM m p)
theorem steps_add (m:Nat):∀ (a b:Nat) (p:Probe),steps m (a + b) p = steps m b (steps m a p)
 | 0,b,p=>by rw [Nat.zero_add]; rfl
 | a + 1,b,p=>by rw [Nat.add_right_comm]; exact steps_add m a b (advM m p)
theorem steps_succ (m n:Nat) (p:Probe):steps m (n + 1) p = advM m (steps m n p):=steps_add m n 1 p
structure PInv (m:Nat) (p:Probe):Prop where
 i:p.i≤m
 j:p.j + p.more≤m
 more:p.more≤9
 pert:p.perturb < 2 ^ 64
 dummy:p.dummy = none
theorem run_le (m i:Nat) (h:i≤m):i + (runEnd m i - i)≤m∧runEnd m i - i≤9:=by
 unfold runEnd; split <;> omega
theorem PInv.start (m:Nat) (h:Int):PInv m (startM m h):=by
 have hi:bits h % (m + 1)≤m:=Nat.le_of_lt_succ (Nat.mod_lt _ (Nat.succ_pos _))
 have hp:bits h < 2 ^ 64:=by
  unfold bits
  have h1:0≤h % (2 ^ 64:Int):=Int.emod_nonneg _ (by decide)
  have h2:h % (2 ^ 64:Int) < 2 ^ 64:=Int.emod_lt_of_pos _ (by decide)
  omega
 exact ⟨hi,(run_le m _ hi).1,(run_le m _ hi).2,hp,rfl⟩
theorem PInv.adv {m:Nat} {p:Probe} (h:PInv m p):PInv m (advM m p):=by
 unfold advM
 split
 ·exact ⟨h.i,by have:=h.j; show p.j + 1 + (p.more - 1)≤m; omega,by have:=h.more; show p.more - 1≤9; omega,h.pert,h.dummy⟩
 ·have hi:(leap m p.i p.perturb).1≤m:=Nat.le_of_lt_succ (Nat.mod_lt _ (Nat.succ_pos _))
  exact ⟨hi,(run_le m _ hi).1,(run_le m _ hi).2,by have:=h.pert; show p.perturb / 32 < 2 ^ 64; omega,h.dummy⟩
theorem PInv.steps {m:Nat}:∀ (n:Nat) {p:Probe},PInv m p→PInv m (steps m n p)
 | 0,_,h=>h
 | n + 1,_,h=>PInv.steps n h.adv
def fresh' (m i pert:Nat):Probe:={ j:=i,more:=runEnd m i - i,i:=i,perturb:=pert,dummy:=none }
theorem run_end (m:Nat):∀ (k:Nat) (p:Probe),p.more = k→p.dummy = none→steps m (k + 1) p = fresh' m (leap m p.i p.perturb).1 (leap m p.i p.perturb).2
 | 0,p,hk,hd=>by
  show advM m p = _
  unfold advM
  rw [if_neg (by omega)]
  unfold fresh'; rw [hd]
 | k + 1,p,hk,hd=>by
  show steps m (k + 1) (advM m p) = _
  have e:advM m p = { p with j:=p.j + 1,more:=p.more - 1 }:=by unfold advM; rw [if_pos (by omega)]
  rw [e]
  exact run_end m k { p with j:=p.j + 1,more:=p.more - 1 } (by show p.more - 1 = k; omega) hd
def leaps (m:Nat):Nat→Nat × Nat→Nat × Nat
 | 0,x=>x
 | n + 1,x=>leaps m n (leap m x.1 x.2)
theorem leaps_succ (m:Nat):∀ (n:Nat) (x:Nat × Nat),leaps m (n + 1) x = leap m (leaps m n x).1 (leaps m n x).2
 | 0,x=>rfl
 | n + 1,x=>leaps_succ m n (leap m x.1 x.2)
theorem leaps_pert (m:Nat):∀ (n:Nat) (x:Nat × Nat),(leaps m n x).2 = x.2 / 32 ^ n
 | 0,x=>by simp [leaps]
 | n + 1,x=>by
  rw [leaps_succ]
  show (leaps m n x).2 / 32 = _
  rw [leaps_pert m n x,Nat.div_div_eq_div_mul,Nat.pow_succ]
theorem leaps_add (m:Nat):∀ (a b:Nat) (x:Nat × Nat),leaps m (a + b) x = leaps m b (leaps m a x)
 | 0,b,x=>by rw [Nat.zero_add]; rfl
 | a + 1,b,x=>by rw [Nat.add_right_comm]; exact leaps_add m a b _
theorem leap_steps (m:Nat):∀ (L:Nat) (i pert:Nat),i≤m→∃ n,n≤10 * L∧steps m n (fresh' m i pert) = fresh' m (leaps m L (i,pert)).1 (leaps m L (i,pert)).2
 | 0,i,pert,_=>⟨0,by omega,rfl⟩
 | L + 1,i,pert,hi=>by
  have hr:=(run_le m i hi).2
  have h1:=run_end m (runEnd m i - i) (fresh' m i pert) rfl rfl
  have hi':(leap m i pert).1≤m:=Nat.le_of_lt_succ (Nat.mod_lt _ (Nat.succ_pos _))
  obtain ⟨n,hn,e⟩:=leap_steps m L (leap m i pert).1 (leap m i pert).2 hi'
  refine ⟨(runEnd m i - i + 1) + n,by omega,?_⟩
  rw [steps_add,h1]
  exact e
def itf (m:Nat):Nat→Nat→Nat
 | 0,i=>i
 | n + 1,i=>itf m n ((i * 5 + 1) % (m + 1))
theorem itf_add (m:Nat):∀ (a b:Nat) (i:Nat),itf m (a + b) i = itf m b (itf m a i)
 | 0,b,i=>by rw [Nat.zero_add]; rfl
 | a + 1,b,i=>by rw [Nat.add_right_comm]; exact itf_add m a b _
theorem leaps_zero (m:Nat):∀ (n i:Nat),leaps m n (i,0) = (itf m n i,0)
 | 0,i=>rfl
 | n + 1,i=>by
  show leaps m n (leap m i 0) = _
  have e:leap m i 0 = ((i * 5 + 1) % (m + 1),0):=rfl
  rw [e,leaps_zero m n]; rfl
def itl (m:Nat):Nat→Nat→List Nat
 | 0,_=>[]
 | n + 1,i=>i::itl m n ((i * 5 + 1) % (m + 1))
theorem itl_mem (m:Nat):∀ (n i s:Nat),s∈itl m n i→∃ k,k < n∧itf m k i = s
 | 0,_,_,h=>by simp [itl] at h
 | n + 1,i,s,h=>by
  rcases List.mem_cons.mp h with rfl | h
  ·exact ⟨0,by omega,rfl⟩
  ·obtain ⟨k,hk,e⟩:=itl_mem m n _ s h
   exact ⟨k + 1,by omega,e⟩
def MaskOk (m:Nat):Prop:=m = 7∨m = 31∨m = 127
theorem full {m:Nat} (hm:MaskOk m):itf m (m + 1) 0 = 0∧∀ s,s < m + 1→s∈itl m (m + 1) 0:=by
 rcases hm with rfl | rfl | rfl <;> exact ⟨by decide +kernel,by decide +kernel⟩
theorem cover {m:Nat} (hm:MaskOk m) {i s:Nat} (hi:i≤m) (hs:s≤m):∃ k,k≤m∧itf m k i = s:=by
 obtain ⟨hz,hf⟩:=full hm
 obtain ⟨a,ha,ea⟩:=itl_mem m _ 0 i (hf i (by omega))
 obtain ⟨b,hb,eb⟩:=itl_mem m _ 0 s (hf s (by omega))
 by_cases h:a≤b
 ·refine ⟨b - a,by omega,?_⟩
  rw [← ea,← itf_add,show a + (b - a) = b by omega]; exact eb
 ·refine ⟨m + 1 - a + b,by omega,?_⟩
  rw [← ea,← itf_add,show a + (m + 1 - a + b) = m + 1 + b by omega,itf_add,hz]; exact eb
theorem leaps_cover {m:Nat} (hm:MaskOk m) {i pert s:Nat} (hp:pert < 2 ^ 64) (hs:s≤m):∃ L,L < m + 14∧(leaps m L (i,pert)).1 = s:=by
 have h13:(leaps m 13 (i,pert)).2 = 0:=by rw [leaps_pert]; show pert / 32 ^ 13 = 0; exact Nat.div_eq_of_lt (Nat.lt_trans hp (by decide))
 have hi:(leaps m 13 (i,pert)).1≤m:=by
  rw [leaps_succ]; exact Nat.le_of_lt_succ (Nat.mod_lt _ (Nat.succ_pos _))
 obtain ⟨k,hk,e⟩:=cover hm hi hs
 refine ⟨13 + k,by omega,?_⟩
 rw [leaps_add]
 have:leaps m 13 (i,pert) = ((leaps m 13 (i,pert)).1,0):=by rw [← h13]
 rw [this,leaps_zero]; exact e
theorem walk_cover {m:Nat} (hm:MaskOk m) (h:Int) {s:Nat} (hs:s≤m):∃ n,n < 10 * (m + 15)∧(steps m n (startM m h)).j = s:=by
 have hP:=PInv.start m h
 obtain ⟨L,hL,e⟩:=leaps_cover hm (i:=bits h % (m + 1)) (pert:=bits h) hP.pert hs
 obtain ⟨n,hn,e2⟩:=leap_steps m L (bits h % (m + 1)) (bits h) hP.i
 refine ⟨n,by omega,?_⟩
 have:startM m h = fresh' m (bits h % (m + 1)) (bits h):=rfl
 rw [this,e2]; exact e
end GS
namespace GS
open PySem PySem.SetTable
def Rise (xs:Array Nat):Prop:=∀ i j a b:Nat,i < j→xs[i]? = some a→xs[j]? = some b→a < b
theorem below_go (xs:Array Nat) (j:Nat) (hr:Rise xs):∀ (fuel lo hi:Nat),hi - lo≤fuel→lo≤hi→hi≤xs.size →
  (∀ i a:Nat,i < lo→xs[i]? = some a→a < j)→(∀ i a:Nat,hi≤i→xs[i]? = some a→j≤a) →
  (∀ i a:Nat,i < below.go xs j fuel lo hi→xs[i]? = some a→a < j)∧(∀ i a:Nat,below.go xs j fuel lo hi≤i→xs[i]? = some a→j≤a)∧below.go xs j fuel lo hi≤xs.size:=by
 intro fuel
 induction fuel with
 | zero =>
  intro lo hi h1 h2 h3 hl hh
  have e:lo = hi:=by omega
  subst e
  exact ⟨hl,hh,h3⟩
 | succ fuel ih =>
  intro lo hi h1 h2 h3 hl hh
  unfold below.go
  by_cases hlt:lo < hi
  ·rw [if_pos hlt]
   have hm1:lo≤(lo + hi) / 2:=by omega
   have hm2:(lo + hi) / 2 < hi:=by omega
   have hms:(lo + hi) / 2 < xs.size:=by omega
   have hg:xs[(lo + hi) / 2]? = some (xs.getD ((lo + hi) / 2) j):=by
    simp [Array.getD,hms]
   show (∀ i a:Nat,i < (if xs.getD ((lo + hi) / 2) j < j then _ else _)→_)∧_∧_
   by_cases hc:xs.getD ((lo + hi) / 2) j < j
   ·simp only [hc,if_true]
    refine ih ((lo + hi) / 2 + 1) hi (by omega) (by omega) h3 ?_ hh
    intro i a hi' ha
    by_cases hle:i < (lo + hi) / 2
    ·exact Nat.lt_trans (hr i _ a _ hle ha hg) hc
    ·have:i = (lo + hi) / 2:=by omega
     subst this
     rw [ha] at hg
     rw [Option.some.inj hg]; exact hc
   ·simp only [hc,if_false]
    refine ih lo ((lo + hi) / 2) (by omega) (by omega) (by omega) hl ?_
    intro i a hi' ha
    by_cases hle:(lo + hi) / 2 < i
    ·exact Nat.le_trans (Nat.not_lt.mp hc) (Nat.le_of_lt (hr _ i _ a hle hg ha))
    ·have:i = (lo + hi) / 2:=by omega
     subst this
     rw [ha] at hg
     rw [Option.some.inj hg]; exact Nat.not_lt.mp hc
  ·rw [if_neg hlt]
   have e:lo = hi:=by omega
   subst e
   exact ⟨hl,hh,h3⟩
theorem below_spec (xs:Array Nat) (j:Nat) (hr:Rise xs) :
  (∀ i a:Nat,i < below xs j→xs[i]? = some a→a < j)∧(∀ i a:Nat,below xs j≤i→xs[i]? = some a→j≤a)∧below xs j≤xs.size :=
 below_go xs j hr xs.size 0 xs.size (by omega) (by omega) (Nat.le_refl _) (fun _ _ h=>absurd h (Nat.not_lt_zero _)) (fun i a h ha=>by
  have:i < xs.size:=by
   rcases Nat.lt_or_ge i xs.size with q | q
   ·exact q
   ·rw [Array.getElem?_eq_none q] at ha; cases ha
  omega)
theorem below_at {xs:Array Nat} (hr:Rise xs) {i j:Nat} (h:xs[i]? = some j):below xs j = i:=by
 obtain ⟨h1,h2,h3⟩:=below_spec xs j hr
 have ni:¬ i < below xs j:=fun q=>Nat.lt_irrefl _ (h1 i j q h)
 rcases Nat.lt_or_ge (below xs j) i with q | q
 ·have hb:below xs j < xs.size:=by
   have:i < xs.size:=by
    rcases Nat.lt_or_ge i xs.size with q | q
    ·exact q
    ·rw [Array.getElem?_eq_none q] at h; cases h
   omega
  have g:xs[below xs j]? = some xs[below xs j]:=Array.getElem?_eq_getElem hb
  have:=hr _ i _ j q g h
  have:=h2 _ _ (Nat.le_refl _) g
  omega
 ·omega
theorem slot_live {t:SetTable} (hr:Rise t.place) {i j:Nat} (h:t.place[i]? = some j):t.slot j = .live i:=by
 unfold SetTable.slot
 simp only [below_at hr h,h,beq_self_eq_true,if_true]
theorem slot_empty {t:SetTable} (hd:t.dummies = #[]) {j:Nat} (h:∀ i:Nat,t.place[i]?≠some j):t.slot j = .empty:=by
 unfold SetTable.slot
 have:(t.place[below t.place j]? == some j) = false:=by
  cases hb:(t.place[below t.place j]? == some j) with
  | false=>rfl
  | true=>exact absurd (by simpa using hb) (h _)
 have h2:has #[] j = false:=by unfold has; simp
 simp only [this,hd,h2,Bool.false_eq_true,if_false]
def Live (xs:Array Nat) (j:Nat):Prop:=∃ i:Nat,xs[i]? = some j
def Reach (m:Nat) (xs:Array Nat) (h:Int) (j:Nat):Prop:=∃ n,(steps m n (startM m h)).j = j∧∀ k,k < n→Live xs (steps m k (startM m h)).j
theorem Reach.mono {m:Nat} {xs ys:Array Nat} {h:Int} {j:Nat} (r:Reach m xs h j) (q:∀ k,Live xs k→Live ys k):Reach m ys h j :=
 let ⟨n,e,a⟩:=r; ⟨n,e,fun k hk=>q _ (a k hk)⟩
structure TInv (t:SetTable) (hs:List Int):Prop where
 mask:MaskOk t.mask
 nd:t.dummies = #[]
 size:t.place.size = hs.length
 rise:Rise t.place
 le:∀ j,Live t.place j→j≤t.mask
 room:t.place.size * 5 < t.mask * 3
 reach:∀ (i j:Nat) (h:Int),t.place[i]? = some j→hs[i]? = some h→Reach t.mask t.place h j
theorem some_free (m:Nat) (xs:Array Nat) (h:xs.size≤m):∃ s,s≤m∧¬ Live xs s:=by
 apply Classical.byContradiction
 intro hc
 have hall:∀ s,s < m + 1→s∈xs.toList:=fun s hs=>Classical.byContradiction fun hn=>hc ⟨s,by omega,fun ⟨i,hi⟩=>hn (by
  rw [← Array.getElem?_toList] at hi; exact List.mem_of_getElem? hi)⟩
 have:(List.range (m + 1)).length≤xs.toList.length:=by
  have key:∀ (l:List Nat),l.Nodup→∀ (r:List Nat),(∀ x∈l,x∈r)→l.length≤r.length:=by
   intro l
   induction l with
   | nil=>intro _ r _; exact Nat.zero_le _
   | cons a l ih =>
    intro hn r hr
    have ha:=hr a (.head _)
    have h2:=ih (List.nodup_cons.mp hn).2 (r.erase a) (fun x hx=>by
     have hxa:x≠a:=fun e=>(List.nodup_cons.mp hn).1 (e ▸ hx)
     exact (List.mem_erase_of_ne hxa).mpr (hr x (.tail _ hx)))
    rw [List.length_erase_of_mem ha] at h2
    have:0 < r.length:=List.length_pos_of_mem ha
    simp only [List.length_cons]; omega
  exact key _ List.nodup_range _ fun x hx=>hall x (List.mem_range.mp hx)
 rw [List.length_range,Array.length_toList] at this
 omega
theorem first_free {t:SetTable} {hs:List Int} (T:TInv t hs) (h:Int):∃ N,N < 10 * (t.mask + 15)∧¬ Live t.place (steps t.mask N (startM t.mask h)).j∧∀ k,k < N→Live t.place (steps t.mask k (startM t.mask h)).j:=by
 obtain ⟨s,hs',hf⟩:=some_free t.mask t.place (by have:=T.room; omega)
 obtain ⟨n,hn,e⟩:=walk_cover T.mask h hs'
 have key:∀ n,¬ Live t.place (steps t.mask n (startM t.mask h)).j→∃ N,N≤n∧¬ Live t.place (steps t.mask N (startM t.mask h)).j∧∀ k,k < N→Live t.place (steps t.mask k (startM t.mask h)).j:=by
  intro n
  induction n using Nat.strongRecOn with
  | _ n ih =>
   intro hn
   by_cases hk:∀ k,k < n→Live t.place (steps t.mask k (startM t.mask h)).j
   ·exact ⟨n,Nat.le_refl _,hn,hk⟩
   ·obtain ⟨k,hk2⟩:=Classical.not_forall.mp hk
    obtain ⟨hk3,hk4⟩:=Classical.not_imp.mp hk2
    obtain ⟨N,hN,a,b⟩:=ih k hk3 hk4
    exact ⟨N,by omega,a,b⟩
 obtain ⟨N,hN,a,b⟩:=key n (by rw [e]; exact hf)
 exact ⟨N,by omega,a,b⟩
theorem probe_says {t:SetTable} {hs:List Int} (T:TInv t hs) (hashAt:Nat→Int) (h:Int) {N:Nat}
  (hN:¬ Live t.place (steps t.mask N (startM t.mask h)).j) (hb:∀ k,k < N→Live t.place (steps t.mask k (startM t.mask h)).j) :
  ∀ (fuel n:Nat),n≤N→N - n < fuel →
   SetTable.probe.go t hashAt h fuel (steps t.mask n (startM t.mask h)) = some (.empty (steps t.mask N (startM t.mask h)).j none)∧(∀ k i:Nat,n≤k→k < N→t.place[i]? = some (steps t.mask k (startM t.mask h)).j→hashAt i≠h)
   ∨ ∃ k i:Nat,n≤k∧k < N∧t.place[i]? = some (steps t.mask k (startM t.mask h)).j∧hashAt i = h ∧
    (∀ k' i':Nat,n≤k'→k' < k→t.place[i']? = some (steps t.mask k' (startM t.mask h)).j→hashAt i'≠h) ∧
    SetTable.probe.go t hashAt h fuel (steps t.mask n (startM t.mask h)) = some (.candidate (steps t.mask k (startM t.mask h)).j i (steps t.mask (k + 1) (startM t.mask h))):=by
 intro fuel
 induction fuel with
 | zero=>intro n h1 h2; omega
 | succ fuel ih =>
  intro n h1 h2
  have hP:=PInv.steps n (PInv.start t.mask h)
  unfold SetTable.probe.go
  rcases Nat.lt_or_ge n N with hlt | hge
  ·obtain ⟨i,hi⟩:=hb n hlt
   rw [slot_live T.rise hi]
   dsimp only
   by_cases hh:hashAt i = h
   ·refine .inr ⟨n,i,Nat.le_refl _,hlt,hi,hh,fun k' _ a b=>by omega,?_⟩
    rw [if_pos (by simpa using hh),advance_eq,← steps_succ]
   ·rw [if_neg (by simpa using hh),advance_eq,← steps_succ]
    have uniq:∀ i':Nat,t.place[i']? = some (steps t.mask n (startM t.mask h)).j→hashAt i'≠h:=fun i' hi'=>by
     have:=slot_live T.rise hi
     have h2:=slot_live T.rise hi'
     rw [this] at h2
     cases h2
     exact hh
    rcases ih (n + 1) hlt (by omega) with ⟨e,a⟩ | ⟨k,i',h3,h4,h5,h6,h7,e⟩
    ·refine .inl ⟨e,fun k i' hk hk2 hp=>?_⟩
     rcases Nat.lt_or_ge n k with q | q
     ·exact a k i' q hk2 hp
     ·have:k = n:=by omega
      subst this; exact uniq i' hp
    ·refine .inr ⟨k,i',by omega,h4,h5,h6,fun k' i2 hk hk2 hp=>?_,e⟩
     rcases Nat.lt_or_ge n k' with q | q
     ·exact h7 k' i2 q hk2 hp
     ·have:k' = n:=by omega
      subst this; exact uniq i2 hp
  ·have:n = N:=by omega
   subst this
   rw [slot_empty T.nd (fun i hi=>hN ⟨i,hi⟩)]
   refine .inl ⟨?_,fun k _ a b=>by omega⟩
   dsimp only
   rw [hP.dummy]
theorem insertAt_toList {α:Type} (xs:Array α) (p:Nat) (x:α):(insertAt xs p x).toList = xs.toList.take p++x::xs.toList.drop p:=by
 unfold insertAt
 simp [List.take_of_length_le]
theorem insertAt_size {α:Type} (xs:Array α) {p:Nat} (hp:p≤xs.size) (x:α):(insertAt xs p x).size = xs.size + 1:=by
 rw [← Array.length_toList,insertAt_toList,List.length_append,List.length_cons,List.length_take,List.length_drop,Array.length_toList]; omega
theorem insertAt_get {α:Type} (xs:Array α) {p:Nat} (hp:p≤xs.size) (x:α) (i:Nat):(insertAt xs p x)[i]? = if i < p then xs[i]? else if i = p then some x else xs[i - 1]?:=by
 rw [← Array.getElem?_toList,insertAt_toList,List.getElem?_append,List.length_take,Array.length_toList,Nat.min_eq_left hp]
 by_cases h1:i < p
 ·rw [if_pos h1,if_pos h1,List.getElem?_take_of_lt h1,Array.getElem?_toList]
 ·rw [if_neg h1,if_neg h1]
  by_cases h2:i = p
  ·subst h2; simp
  ·rw [if_neg h2]
   obtain ⟨k,hk⟩:∃ k,i - p = k + 1:=⟨i - p - 1,by omega⟩
   rw [hk,List.getElem?_cons_succ,List.getElem?_drop,Array.getElem?_toList]
   congr 1; omega
theorem insertAt_perm {α:Type} (xs:Array α) {p:Nat} (x:α):(insertAt xs p x).toList.Perm (x::xs.toList):=by
 rw [insertAt_toList]
 refine List.perm_middle.trans (List.Perm.cons _ ?_)
 rw [List.take_append_drop]
theorem lt_of_get? {α:Type} {xs:Array α} {i:Nat} {a:α} (h:xs[i]? = some a):i < xs.size:=by
 rcases Nat.lt_or_ge i xs.size with q | q
 ·exact q
 ·rw [Array.getElem?_eq_none q] at h; cases h
theorem insertAt_rise {xs:Array Nat} (hr:Rise xs) {j:Nat} (hn:¬ Live xs j):Rise (insertAt xs (below xs j) j):=by
 obtain ⟨h1,h2,h3⟩:=below_spec xs j hr
 intro a b x y hab ha hb
 rw [insertAt_get xs h3] at ha hb
 have hge:∀ i v:Nat,below xs j≤i→xs[i]? = some v→j < v:=fun i v hi hv=>by
  have:=h2 i v hi hv
  rcases Nat.lt_or_ge j v with q | q
  ·exact q
  ·exact absurd ⟨i,by rw [hv]; congr 1; omega⟩ hn
 split at ha
 ·rename_i ha1
  have hx:=h1 a x ha1 ha
  split at hb
  ·exact hr a b x y hab ha hb
  ·split at hb
   ·cases hb; exact hx
   ·exact Nat.lt_trans hx (hge (b - 1) y (by omega) hb)
 ·split at ha
  ·cases ha
   split at hb
   ·omega
   ·split at hb
    ·omega
    ·exact hge (b - 1) y (by omega) hb
  ·split at hb
   ·omega
   ·split at hb
    ·omega
    ·exact hr (a - 1) (b - 1) x y (by omega) ha hb
theorem insertAt_live {xs:Array Nat} {p:Nat} (hp:p≤xs.size) (j k:Nat):Live (insertAt xs p j) k↔k = j∨Live xs k:=by
 constructor
 ·rintro ⟨i,hi⟩
  rw [insertAt_get xs hp] at hi
  split at hi
  ·exact .inr ⟨i,hi⟩
  ·split at hi
   ·cases hi; exact .inl rfl
   ·exact .inr ⟨_,hi⟩
 ·rintro (rfl | ⟨i,hi⟩)
  ·exact ⟨p,by rw [insertAt_get xs hp,if_neg (Nat.lt_irrefl _),if_pos rfl]⟩
  ·rcases Nat.lt_or_ge i p with q | q
   ·exact ⟨i,by rw [insertAt_get xs hp,if_pos q]; exact hi⟩
   ·exact ⟨i + 1,by rw [insertAt_get xs hp,if_neg (by omega),if_neg (by omega)]; exact hi⟩
structure TPre (t:SetTable) (hs:List Int):Prop where
 mask:MaskOk t.mask
 nd:t.dummies = #[]
 size:t.place.size = hs.length
 rise:Rise t.place
 le:∀ j,Live t.place j→j≤t.mask
 reach:∀ (i j:Nat) (h:Int),t.place[i]? = some j→hs[i]? = some h→Reach t.mask t.place h j
theorem TPre.full {t:SetTable} {hs:List Int} (T:TPre t hs) (h:t.place.size * 5 < t.mask * 3):TInv t hs:=⟨T.mask,T.nd,T.size,T.rise,T.le,h,T.reach⟩
theorem put_eq {t:SetTable} (hd:t.dummies = #[]) (j:Nat):t.put j = ({ t with place:=insertAt t.place (below t.place j) j },below t.place j):=by
 unfold SetTable.put
 have h2:has t.dummies j = false:=by rw [hd]; unfold has; simp
 rw [h2]; simp
theorem put_pre {t:SetTable} {es:Array Int} (T:TInv t es.toList) (h:Int) {N:Nat} (hN:¬ Live t.place (steps t.mask N (startM t.mask h)).j)
  (hb:∀ k,k < N→Live t.place (steps t.mask k (startM t.mask h)).j) :
  TPre { t with place:=insertAt t.place (below t.place (steps t.mask N (startM t.mask h)).j) (steps t.mask N (startM t.mask h)).j } (insertAt es (below t.place (steps t.mask N (startM t.mask h)).j) h).toList:=by
 have h3:=(below_spec t.place (steps t.mask N (startM t.mask h)).j T.rise).2.2
 have hsz:t.place.size = es.size:=by rw [T.size,Array.length_toList]
 have lv:=insertAt_live h3 (steps t.mask N (startM t.mask h)).j
 refine ⟨T.mask,T.nd,?_,insertAt_rise T.rise hN,?_,?_⟩
 ·show (insertAt t.place _ _).size = _
  rw [Array.length_toList,insertAt_size _ h3,insertAt_size _ (by rw [← hsz]; exact h3),hsz]
 ·intro k hk
  rcases (lv k).mp hk with rfl | hk
  ·have:=(PInv.steps N (PInv.start t.mask h)).j; show _≤t.mask; omega
  ·exact T.le k hk
 ·intro i j h' hi hh
  rw [Array.getElem?_toList] at hh
  show Reach t.mask (insertAt t.place _ _) h' j
  replace hi:(insertAt t.place (below t.place (steps t.mask N (startM t.mask h)).j) (steps t.mask N (startM t.mask h)).j)[i]? = some j:=hi
  rw [insertAt_get _ h3] at hi
  rw [insertAt_get _ (by rw [← hsz]; exact h3)] at hh
  split at hi
  ·rename_i q
   rw [if_pos q] at hh
   exact (T.reach i j h' hi (by rw [Array.getElem?_toList]; exact hh)).mono fun k hk=>(lv k).mpr (.inr hk)
  ·rename_i q
   rw [if_neg q] at hh
   split at hi
   ·rename_i q2
    rw [if_pos q2] at hh
    cases hi; cases hh
    exact ⟨N,rfl,fun k hk=>(lv _).mpr (.inr (hb k hk))⟩
   ·rename_i q2
    rw [if_neg q2] at hh
    exact (T.reach _ j h' hi (by rw [Array.getElem?_toList]; exact hh)).mono fun k hk=>(lv k).mpr (.inr hk)
end GS
namespace GS
open PySem PySem.SetTable
def Free (owner:Array (Option Nat)) (j:Nat):Prop:=owner[j]? = some none
def Occ (owner:Array (Option Nat)) (j:Nat):Prop:=∃ k,owner[j]? = some (some k)
theorem free_or_occ {owner:Array (Option Nat)} {j:Nat} (h:j < owner.size):Free owner j∨Occ owner j:=by
 unfold Free Occ
 rw [Array.getElem?_eq_getElem h]
 cases owner[j] with
 | none=>exact .inl rfl
 | some k=>exact .inr ⟨k,rfl⟩
theorem isNone_iff {owner:Array (Option Nat)} {j:Nat}:(owner.getD j (some 0)).isNone = true↔Free owner j:=by
 unfold Free
 rw [Array.getD_eq_getD_getElem?]
 cases owner[j]? with
 | none=>simp
 | some o=>cases o <;> simp
theorem run_at (m i pert:Nat):∀ k,k≤runEnd m i - i→steps m k (fresh' m i pert) = { j:=i + k,more:=runEnd m i - i - k,i:=i,perturb:=pert,dummy:=none }
 | 0,_=>rfl
 | k + 1,h=>by
  rw [steps_succ,run_at m i pert k (by omega)]
  unfold advM
  rw [if_pos (by show runEnd m i - i - k > 0; omega)]
  rfl
theorem free_says (m:Nat) (owner:Array (Option Nat)) (hz:owner.size = m + 1):∀ (fuel i pert:Nat),i≤m→(∃ L,L < fuel∧Free owner (leaps m L (i,pert)).1) →
  ∃ j n,layClean.free m owner fuel i pert = some j∧(steps m n (fresh' m i pert)).j = j∧Free owner j∧∀ k,k < n→Occ owner (steps m k (fresh' m i pert)).j:=by
 intro fuel
 induction fuel with
 | zero=>rintro i pert _ ⟨L,hL,_⟩; omega
 | succ fuel ih =>
  rintro i pert hi ⟨L,hL,hf⟩
  have hrun:=run_le m i hi
  have hge:i≤runEnd m i:=by unfold runEnd; split <;> omega
  unfold layClean.free
  cases hq:(List.range (runEnd m i + 1 - i)).find? (fun k=>(owner.getD (i + k) (some 0)).isNone) with
  | some k =>
   obtain ⟨h1,h2,h3⟩:=List.find?_range_eq_some.mp hq
   have hk:k≤runEnd m i - i:=by have:=List.mem_range.mp h2; omega
   refine ⟨i + k,k,rfl,?_,isNone_iff.mp h1,fun k' hk'=>?_⟩
   ·rw [run_at m i pert k hk]
   ·rw [run_at m i pert k' (by omega)]
    have hn:=h3 k' hk'
    rcases free_or_occ (owner:=owner) (j:=i + k') (by omega) with q | q
    ·rw [isNone_iff.mpr q] at hn; simp at hn
    ·exact q
  | none =>
   have hall:∀ k,k≤runEnd m i - i→Occ owner (i + k):=fun k hk=>by
    have:=List.find?_eq_none.mp hq k (List.mem_range.mpr (by omega))
    rcases free_or_occ (owner:=owner) (j:=i + k) (by omega) with q | q
    ·exact absurd (isNone_iff.mpr q) this
    ·exact q
   have hi':(leap m i pert).1≤m:=Nat.le_of_lt_succ (Nat.mod_lt _ (Nat.succ_pos _))
   obtain ⟨L',hL'⟩:∃ L',L = L' + 1:=by
    cases L with
    | zero =>
     have h0:=hall 0 (Nat.zero_le _)
     obtain ⟨q,hq⟩:=h0
     have hf':owner[i]? = some none:=hf
     rw [Nat.add_zero,hf'] at hq; cases hq
    | succ L'=>exact ⟨L',rfl⟩
   subst hL'
   obtain ⟨j,n,e1,e2,e3,e4⟩:=ih (leap m i pert).1 (leap m i pert).2 hi' ⟨L',by omega,hf⟩
   have hre:steps m (runEnd m i - i + 1) (fresh' m i pert) = fresh' m (leap m i pert).1 (leap m i pert).2:=run_end m (runEnd m i - i) (fresh' m i pert) rfl rfl
   refine ⟨j,(runEnd m i - i + 1) + n,e1,?_,e3,fun k hk=>?_⟩
   ·rw [steps_add,hre]; exact e2
   ·rcases Nat.lt_or_ge k (runEnd m i - i + 1) with q | q
    ·rw [run_at m i pert k (by omega)]; exact hall k (by omega)
    ·obtain ⟨d,rfl⟩:∃ d,k = (runEnd m i - i + 1) + d:=⟨k - (runEnd m i - i + 1),by omega⟩
     rw [steps_add,hre]; exact e4 d (by omega)
structure OInv (m:Nat) (owner:Array (Option Nat)) (sl:List Nat) (done:List Int):Prop where
 size:owner.size = m + 1
 len:sl.length = done.length
 at_:∀ k j:Nat,sl[k]? = some j↔owner[j]? = some (some k)
 reach:∀ (j k:Nat) (h:Int),owner[j]? = some (some k)→done[k]? = some h→∃ n,(steps m n (startM m h)).j = j∧∀ q,q < n→Occ owner (steps m q (startM m h)).j
theorem OInv.nil (m:Nat):OInv m (Array.replicate (m + 1) none) [] []:=by
 refine ⟨by simp,rfl,fun k j=>?_,fun j k h hj=>?_⟩
 ·simp [Array.getElem?_replicate]
 ·simp [Array.getElem?_replicate] at hj
theorem OInv.step {m:Nat} (hm:MaskOk m) {owner:Array (Option Nat)} {sl:List Nat} {done:List Int} (O:OInv m owner sl done) (hr:done.length≤m) (h:Int) :
  ∃ j,layClean.free m owner (turns m) (bits h % (m + 1)) (bits h) = some j∧OInv m (owner.setIfInBounds j (some done.length)) (sl++[j]) (done++[h]):=by
 have hP:=PInv.start m h
 obtain ⟨s,hs,hn⟩:=some_free m sl.toArray (by rw [List.size_toArray,O.len]; exact hr)
 have hfs:Free owner s:=by
  rcases free_or_occ (owner:=owner) (j:=s) (by rw [O.size]; omega) with q | ⟨k,q⟩
  ·exact q
  ·exact absurd ⟨k,by rw [List.getElem?_toArray]; exact (O.at_ k s).mpr q⟩ hn
 obtain ⟨L,hL,e⟩:=leaps_cover hm (i:=bits h % (m + 1)) (pert:=bits h) hP.pert hs
 obtain ⟨j,n,e1,e2,e3,e4⟩:=free_says m owner O.size (turns m) (bits h % (m + 1)) (bits h) hP.i ⟨L,by unfold turns; omega,by rw [e]; exact hfs⟩
 have hj:j < owner.size:=by
  unfold Free at e3
  rcases Nat.lt_or_ge j owner.size with q | q
  ·exact q
  ·rw [Array.getElem?_eq_none q] at e3; cases e3
 have get:∀ j':Nat,(owner.setIfInBounds j (some done.length))[j']? = if j' = j then some (some done.length) else owner[j']?:=fun j'=>by
  rw [Array.getElem?_setIfInBounds]
  by_cases h1:j = j'
  ·subst h1; rw [if_pos rfl,if_pos rfl,if_pos hj]
  ·rw [if_neg h1,if_neg (fun q=>h1 q.symm)]
 have occ:∀ q,Occ owner q→Occ (owner.setIfInBounds j (some done.length)) q:=fun q ⟨k,hk⟩=>by
  by_cases h1:q = j
  ·exact ⟨done.length,by rw [get,if_pos h1]⟩
  ·exact ⟨k,by rw [get,if_neg h1]; exact hk⟩
 refine ⟨j,e1,by simp [O.size],by simp [O.len],fun k j'=>?_,fun j' k h' hk hd=>?_⟩
 ·rw [get]
  constructor
  ·intro hk
   rw [List.getElem?_append] at hk
   split at hk
   ·rename_i hlt
    have ho:=(O.at_ k j').mp hk
    have hne:j'≠j:=fun q=>by subst q; unfold Free at e3; rw [e3] at ho; cases ho
    rw [if_neg hne]; exact ho
   ·rename_i hge
    have h0:k - sl.length = 0:=by
     rcases Nat.eq_zero_or_pos (k - sl.length) with q | q
     ·exact q
     ·rw [List.getElem?_eq_none (by simp; omega)] at hk; cases hk
    rw [h0] at hk
    have:j = j':=by simpa using hk
    subst this
    rw [if_pos rfl,← O.len,show sl.length = k by omega]
  ·intro hk
   split at hk
   ·rename_i q
    subst q
    have:done.length = k:=by simpa using hk
    subst this
    rw [← O.len]; simp
   ·have:=(O.at_ k j').mpr hk
    rw [List.getElem?_append_left]
    ·exact this
    ·rcases Nat.lt_or_ge k sl.length with q | q
     ·exact q
     ·rw [List.getElem?_eq_none q] at this; cases this
 ·rw [get] at hk
  split at hk
  ·rename_i q
   subst q
   have:done.length = k:=by simpa using hk
   subst this
   have:h = h':=by simpa using hd
   subst this
   exact ⟨n,e2,fun q hq=>occ _ (e4 q hq)⟩
  ·have hlt:k < done.length:=by
    have:=(O.at_ k j').mpr hk
    rw [← O.len]
    rcases Nat.lt_or_ge k sl.length with q | q
    ·exact q
    ·rw [List.getElem?_eq_none q] at this; cases this
   rw [List.getElem?_append_left hlt] at hd
   obtain ⟨n',a,b⟩:=O.reach j' k h' hk hd
   exact ⟨n',a,fun q hq=>occ _ (b q hq)⟩
theorem layClean_ok {m:Nat} (hm:MaskOk m) (hs:List Int) (hl:hs.length≤m + 1):∃ owner sl,layClean m hs.toArray = some owner∧OInv m owner sl hs:=by
 have key:∀ (rest done:List Int) (owner:Array (Option Nat)) (sl:List Nat),OInv m owner sl done→(done++rest).length≤m + 1 →
   ∃ owner' sl',rest.foldl (fun acc h=>do
    let (owner,k) ← acc
    let j ← layClean.free m owner (turns m) (bits h % (m + 1)) (bits h)
    pure (owner.setIfInBounds j (some k),k + 1)) (some (owner,done.length)) = some (owner',(done++rest).length)∧OInv m owner' sl' (done++rest):=by
  intro rest
  induction rest with
  | nil=>intro done owner sl O _; exact ⟨owner,sl,by simp,by simpa using O⟩
  | cons h rest ih =>
   intro done owner sl O hlen
   obtain ⟨j,e,O'⟩:=O.step hm (by rw [List.length_append,List.length_cons] at hlen; omega) h
   obtain ⟨o2,s2,e2,O2⟩:=ih (done++[h]) _ _ O' (by rw [List.append_assoc]; exact hlen)
   refine ⟨o2,s2,?_,by rw [List.append_assoc] at O2; exact O2⟩
   rw [List.foldl_cons]
   rw [List.append_assoc] at e2
   rw [show (done++[h]).length = done.length + 1 by simp] at e2
   rw [← show done++([h]++rest) = done++h::rest from rfl,← e2]
   congr 1
   show (do let j ← layClean.free m owner (turns m) (bits h % (m + 1)) (bits h); pure (owner.setIfInBounds j (some done.length),done.length + 1)) = _
   rw [e]; rfl
 obtain ⟨o,s,e,O⟩:=key hs [] _ _ (OInv.nil m) (by simpa using hl)
 refine ⟨o,s,?_,by simpa using O⟩
 unfold layClean
 rw [← Array.foldl_toList]
 have e':=e
 rw [List.length_nil] at e'
 show Option.map _ (List.foldl _ (some (Array.replicate (m + 1) none,0)) hs) = _
 rw [e']; rfl
theorem perm_of_nodup {l r:List Nat} (hl:l.Nodup) (hr:r.Nodup) (h:∀ x,x∈l↔x∈r):l.Perm r:=by
 rw [List.perm_iff_count]
 intro a
 rw [hl.count,hr.count]
 simp [h a]
theorem rise_of_pairwise {l:List Nat} (h:l.Pairwise (· < ·)):Rise l.toArray:=by
 intro i j a b hij ha hb
 rw [List.getElem?_toArray] at ha hb
 obtain ⟨hi,rfl⟩:=List.getElem?_eq_some_iff.mp ha
 obtain ⟨hj,rfl⟩:=List.getElem?_eq_some_iff.mp hb
 exact List.pairwise_iff_getElem.mp h i j hi hj hij
theorem laid_ok {m:Nat} (hm:MaskOk m) (finger moves:Nat) (led plain:Bool) (hs:List Int) (hl:hs.length≤m + 1) :
  ∃ t order,laid m finger moves led plain hs.toArray = some (t,order)∧t.mask = m∧t.led = led∧t.plain = plain∧order.toList.Perm (List.range hs.length) ∧
   TPre t (order.toList.map fun k=>hs.getD k 0):=by
 obtain ⟨owner,sl,e,O⟩:=layClean_ok hm hs hl
 let live:=(List.range (m + 1)).filterMap fun j=>(owner.getD j none).map (j,·)
 have hlive:∀ (x:Nat × Nat),x∈live↔owner[x.1]? = some (some x.2):=by
  rintro ⟨j,k⟩
  simp only [live,List.mem_filterMap,List.mem_range,Array.getD_eq_getD_getElem?]
  constructor
  ·rintro ⟨j',hj',hx⟩
   cases ho:owner[j']? with
   | none=>rw [ho] at hx; simp at hx
   | some o =>
    cases o with
    | none=>rw [ho] at hx; simp at hx
    | some q =>
     rw [ho] at hx
     simp at hx
     obtain ⟨rfl,rfl⟩:=hx
     exact ho
  ·intro hx
   refine ⟨j,?_,?_⟩
   ·rcases Nat.lt_or_ge j (m + 1) with q | q
    ·exact q
    ·rw [Array.getElem?_eq_none (by rw [O.size]; exact q)] at hx; cases hx
   ·replace hx:owner[j]? = some (some k):=hx
    rw [hx]; simp
 have hpw:live.Pairwise fun a b=>a.1 < b.1:=by
  refine List.Pairwise.filterMap _ (R:=fun a b:Nat=>a < b) ?_ List.pairwise_lt_range
  intro a a' haa b hb b' hb'
  simp only [Option.map_eq_some_iff] at hb hb'
  obtain ⟨_,_,rfl⟩:=hb
  obtain ⟨_,_,rfl⟩:=hb'
  exact haa
 refine ⟨{ mask:=m,place:=(live.map (·.1)).toArray,dummies:=#[],finger,led,moves,plain },(live.map (·.2)).toArray,?_,rfl,rfl,rfl,?_,?_⟩
 ·unfold laid; rw [e]; rfl
 ·refine perm_of_nodup ?_ List.nodup_range fun k=>?_
  ·show (live.map (·.2)).Nodup
   refine List.Pairwise.map _ (R:=fun a b:Nat × Nat=>a∈live∧b∈live∧a.1 < b.1) ?_ ?_
   ·rintro ⟨j,k⟩ ⟨j',k'⟩ ⟨ha,hb,hlt⟩ hkk
    simp only at hkk hlt
    subst hkk
    have h1:=(O.at_ k j).mpr ((hlive _).mp ha)
    have h2:=(O.at_ k j').mpr ((hlive _).mp hb)
    rw [h1] at h2
    have:j = j':=by simpa using h2
    omega
   ·exact (List.Pairwise.and_mem.mp hpw).imp fun h=>⟨h.1,h.2.1,h.2.2⟩
  ·show k∈live.map (·.2)↔_
   rw [List.mem_map,List.mem_range]
   constructor
   ·rintro ⟨⟨j,k'⟩,hx,rfl⟩
    have:=(O.at_ k' j).mpr ((hlive _).mp hx)
    rw [← O.len]
    rcases Nat.lt_or_ge k' sl.length with q | q
    ·exact q
    ·rw [List.getElem?_eq_none q] at this; cases this
   ·intro hk
    rw [← O.len] at hk
    exact ⟨(sl[k],k),(hlive _).mpr ((O.at_ k _).mp (List.getElem?_eq_getElem hk)),rfl⟩
 ·have hL:∀ j,Live (live.map (·.1)).toArray j↔Occ owner j:=by
   intro j
   constructor
   ·rintro ⟨i,hi⟩
    rw [List.getElem?_toArray] at hi
    obtain ⟨⟨j',k⟩,hx,rfl⟩:=List.mem_map.mp (List.mem_of_getElem? hi)
    exact ⟨k,(hlive _).mp hx⟩
   ·rintro ⟨k,hk⟩
    have:j∈live.map (·.1):=List.mem_map.mpr ⟨(j,k),(hlive _).mpr hk,rfl⟩
    obtain ⟨i,hi⟩:=List.mem_iff_getElem?.mp this
    exact ⟨i,by rw [List.getElem?_toArray]; exact hi⟩
  refine ⟨hm,rfl,by simp,rise_of_pairwise (List.pairwise_map.mpr hpw),fun j hj=>?_,fun i j h hi hh=>?_⟩
  ·obtain ⟨k,hk⟩:=(hL j).mp hj
   rcases Nat.lt_or_ge j (m + 1) with q | q
   ·show j≤m; omega
   ·rw [Array.getElem?_eq_none (by rw [O.size]; exact q)] at hk; cases hk
  ·replace hi:(live.map (·.1)).toArray[i]? = some j:=hi
   rw [List.getElem?_toArray,List.getElem?_map] at hi
   rw [show ((live.map (·.2)).toArray.toList.map fun k=>hs.getD k 0) = live.map fun x=>hs.getD x.2 0 by simp [List.map_map,Function.comp_def],List.getElem?_map] at hh
   cases hx:live[i]? with
   | none=>rw [hx] at hi; cases hi
   | some x =>
    rw [hx] at hi hh
    obtain ⟨j',k⟩:=x
    have:j' = j:=by simpa using hi
    subst this
    have hd:hs.getD k 0 = h:=by simpa using hh
    have ho:=(hlive _).mp (List.mem_of_getElem? hx)
    have hk:=(O.at_ k j').mpr ho
    have hkl:k < hs.length:=by
     rw [← O.len]
     rcases Nat.lt_or_ge k sl.length with q | q
     ·exact q
     ·rw [List.getElem?_eq_none q] at hk; cases hk
    have hg:hs[k]? = some h:=by
     rw [List.getElem?_eq_getElem hkl,← hd]; simp [List.getD,List.getElem?_eq_getElem hkl]
    obtain ⟨n,a,b⟩:=O.reach j' k h ho hg
    exact ⟨n,a,fun q hq=>(hL _).mpr (b q hq)⟩
theorem filterMap_order {α:Type} (es:Array α) (order:Array Nat) (hp:order.toList.Perm (List.range es.size)) :
  (order.filterMap (es[·]?)).toList.Perm es.toList∧∀ i:Nat,(order.filterMap (es[·]?))[i]? = (order[i]?).bind (es[·]?):=by
 have hall:∀ k∈order.toList,k < es.size:=fun k hk=>List.mem_range.mp (hp.mem_iff.mp hk)
 have e0:(order.filterMap (es[·]?)).toList = order.toList.filterMap (es[·]?):=by simp
 constructor
 ·rw [e0]
  refine (hp.filterMap _).trans ?_
  have:(List.range es.size).filterMap (es[·]?) = es.toList:=by
   rw [show es.size = es.toList.length by simp]
   apply List.ext_getElem?
   intro i
   have key:∀ (l:List α),(List.range l.length).filterMap (fun k=>l[k]?) = l:=by
    intro l
    induction l with
    | nil=>rfl
    | cons a l ih =>
     rw [List.length_cons,List.range_succ_eq_map,List.filterMap_cons]
     simp only [List.getElem?_cons_zero,List.filterMap_map]
     congr 1
   have e:=key es.toList
   simp only [Array.getElem?_toList] at e
   rw [e]
  rw [this]
 ·intro i
  rw [← Array.getElem?_toList,e0,← Array.getElem?_toList (xs:=order)]
  have key:∀ (l:List Nat),(∀ k∈l,k < es.size)→∀ i:Nat,(l.filterMap (es[·]?))[i]? = (l[i]?).bind (es[·]?):=by
   intro l
   induction l with
   | nil=>intro _ i; simp
   | cons a l ih =>
    intro h i
    have ha:=h a (.head _)
    rw [List.filterMap_cons]
    simp only [Array.getElem?_eq_getElem ha]
    cases i with
    | zero=>simp [Array.getElem?_eq_getElem ha]
    | succ i=>simpa using ih (fun k hk=>h k (.tail _ hk)) i
  exact key _ hall i
end GS
namespace GS
open PySem PySem.SetTable
section
variable {prog:Program} {w:World} {A:Around} {E:Value→Shared→Prop} {s:Shared}
abbrev TK (prog:Program) (w:World) (h:Heap) (k:List Int) (b:Addr):Prop:=IsTupleKey (intKind prog w) h k b
abbrev hk (prog:Program) (w:World) (k:List Int):Int:=tupleKeyHash (intKind prog w) k
def Ent (prog:Program) (w:World) (h:Heap) (e:Int × Value) (k:List Int):Prop:=∃ b,e.2 = .ref b∧TK prog w h k b∧e.1 = hk prog w k
theorem Ent.inj {h:Heap} {e:Int × Value} {k k':List Int} (x:Ent prog w h e k) (y:Ent prog w h e k'):k = k':=by
 obtain ⟨b,e1,t1,_⟩:=x
 obtain ⟨b',e2,t2,_⟩:=y
 rw [e1] at e2
 cases e2
 exact t1.inj t2
theorem items_plain {ks:List Int} {vs:List Value} (h:ItemsAre (intKind prog w) ks vs):∀ v∈vs,∃ i t,v = .int i t:=by
 induction h with
 | nil=>intro v hv; simp at hv
 | @cons k v' ks vs h1 _ ih =>
  intro v hv
  rcases List.mem_cons.mp hv with rfl | hv
  ·cases v <;> first | exact ⟨_,_,rfl⟩ | (simp [intKind,Value.isInt] at h1)
  ·exact ih v hv
theorem ofClass_no {k:List Int} {b:Addr} {Q:Bool→Shared→Prop} (hx:TK prog w s.heap k b) (h:Q false s):wpAny (model prog w) A (ofAClassStatement 8 (.ref b)) Q E s:=by
 have hT:=hx.typeIs
 obtain ⟨o,items,n,ho,_,hd,hi⟩:=hx
 have hp:=items_plain hi
 unfold ofAClassStatement
 refine wpAny_bind (wpAny_typeOf hT ?_)
 dsimp only
 have e1:((("tuple":String) == "tuple") = true):=by decide
 rw [if_pos e1]
 refine wpAny_bind (wpAny_pure ?_)
 simp only [Bool.not_true,Bool.false_eq_true,if_false]
 refine wpAny_bind (wpAny_seqItems ho hd ?_)
 dsimp only
 refine wpAny_bind ?_
 rw [← Array.forIn_toList]
 refine wpAny_forIn_list _ (fun rest r s'=>r.1 = none∧s' = s∧∀ v∈rest,∃ i t,v = Value.int i t) _ ?_ ?_ _ _ ⟨rfl,rfl,hp⟩
 ·rintro v rest r s' ⟨hr,rfl,hall⟩
  obtain ⟨i,t,rfl⟩:=hall v List.mem_cons_self
  refine wpAny_bind (m:=ofAClassStatement 7 (.int i t)) (wpAny_pure ?_)
  simp only [Bool.false_eq_true,if_false]
  exact wpAny_pure ⟨rfl,rfl,fun u hu=>hall u (List.mem_cons_of_mem _ hu)⟩
 ·rintro ⟨r1,r2⟩ s' ⟨hr,rfl,_⟩
  simp only at hr
  subst hr
  exact wpAny_pure h
theorem seen_no {k:List Int} {x:Addr} {stored:List Value} {Q:Bool→Shared→Prop} (hx:TK prog w s.heap k x) (hs:∀ v∈stored,∃ k' b,v = .ref b∧TK prog w s.heap k' b) (h:Q false s) :
  wpAny (model prog w) A (searchCouldBeSeen (.ref x) stored) Q E s:=by
 unfold searchCouldBeSeen
 refine wpAny_bind ?_
 refine wpAny_forIn_list _ (fun rest r s'=>r.1 = none∧s' = s∧∀ v∈rest,∃ k' b,v = .ref b∧TK prog w s.heap k' b) _ ?_ ?_ _ _ ⟨rfl,rfl,hs⟩
 ·rintro v rest r s' ⟨hr,rfl,hall⟩
  obtain ⟨k',b,rfl,hb⟩:=hall v List.mem_cons_self
  have hrest:∀ u∈rest,∃ k' b,u = .ref b∧TK prog w s'.heap k' b:=fun u hu=>hall u (List.mem_cons_of_mem _ hu)
  dsimp only
  by_cases e:(x == b) = true
  ·rw [if_pos (by rw [e]; rfl)]
   exact wpAny_pure ⟨rfl,rfl,hrest⟩
  ·rw [if_neg (by simp [carriedByValue]; simpa using e)]
   refine wpAny_bind (wpAny_eqIsQuiet_tuple hx ?_)
   simp only [Bool.not_true,Bool.false_eq_true,if_false]
   refine wpAny_bind (wpAny_eqIsQuiet_tuple hb ?_)
   simp only [Bool.not_true,Bool.false_eq_true,if_false]
   refine wpAny_bind (ofClass_no hx ?_)
   simp only [Bool.false_eq_true,if_false]
   refine wpAny_bind (ofClass_no hb ?_)
   simp only [Bool.false_eq_true,if_false]
   exact wpAny_pure ⟨rfl,rfl,hrest⟩
 ·rintro ⟨r1,r2⟩ s' ⟨hr,rfl,_⟩
  simp only at hr
  subst hr
  exact wpAny_pure h
theorem byValue_yes {k:List Int} {x:Addr} {Q:Bool→Shared→Prop} (hx:TK prog w s.heap k x) (h:Q true s):wpAny (model prog w) A (hashByValue 8 (.ref x)) Q E s:=by
 have hT:=hx.typeIs
 obtain ⟨o,items,n,ho,_,hd,hi⟩:=hx
 have hp:=items_plain hi
 unfold hashByValue
 refine wpAny_bind (wpAny_specialOf hT F.slot_tuple_hash.lookup ?_)
 dsimp only
 refine wpAny_bind (wpAny_seqItems ho hd ?_)
 refine wpAny_bind ?_
 show wpAny _ _ (forIn items _ _) _ _ s
 rw [← Array.forIn_toList]
 refine wpAny_forIn_list _ (fun rest r s'=>r.1 = none∧s' = s∧∀ v∈rest,∃ i t,v = Value.int i t) _ ?_ ?_ _ _ ⟨rfl,rfl,hp⟩
 ·rintro v rest r s' ⟨hr,rfl,hall⟩
  obtain ⟨i,t,rfl⟩:=hall v List.mem_cons_self
  refine wpAny_bind (m:=hashByValue 7 (.int i t)) (wpAny_pure ?_)
  simp only [Bool.not_true,Bool.false_eq_true,if_false]
  exact wpAny_pure ⟨rfl,rfl,fun u hu=>hall u (List.mem_cons_of_mem _ hu)⟩
 ·rintro ⟨r1,r2⟩ s' ⟨hr,rfl,_⟩
  simp only at hr
  subst hr
  exact wpAny_pure h
theorem TInv.fits {t:SetTable} {es:Array (Int × Value)} (T:TInv t (es.toList.map (·.1))):t.fits es.size = true:=by
 unfold SetTable.fits SetTable.fill
 rw [T.nd]
 have h1:=T.size
 have h2:=T.room
 simp only [List.length_map,Array.length_toList] at h1
 simp [h1]
 rcases T.mask with e | e | e <;> (rw [e] at h2 ⊢; rw [h1] at h2; omega)
theorem TInv.stays {t:SetTable} {hs:List Int} (T:TInv t hs):t.gaveWay = false:=by
 unfold SetTable.gaveWay
 rcases T.mask with e | e | e <;> (rw [e]; decide)
theorem search_ok {a x:Addr} {k:List Int} {o:Obj} {es:Array (Int × Value)} {ep:Nat} {t:SetTable} (hu:A.units < cLine) (hx:TK prog w s.heap k x) (ho:s.heap.get? a = some o) (hd:o.data = .set es ep t) (T:TInv t (es.toList.map (·.1)))
  (he:∀ e∈es.toList,∃ k',Ent prog w s.heap e k') {N:Nat} (hN:¬ Live t.place (steps t.mask N (startM t.mask (hk prog w k))).j) (hb:∀ i,i < N→Live t.place (steps t.mask i (startM t.mask (hk prog w k))).j) (hN2:N < 10 * (t.mask + 15))
  {Q:SetFound→Shared→Prop} (hf:(∃ e∈es.toList,Ent prog w s.heap e k)→Q (.there none) s) :
  ∀ (fuel n:Nat) (stand:Option Probe),n≤N→N - n < fuel→stand.getD (t.probeStart (hk prog w k)) = steps t.mask n (startM t.mask (hk prog w k)) →
   ((∀ (m i:Nat) (e:Int × Value),n≤m→m < N→t.place[i]? = some (steps t.mask m (startM t.mask (hk prog w k))).j→es[i]? = some e→¬ Ent prog w s.heap e k)→Q (.free (steps t.mask N (startM t.mask (hk prog w k))).j false) s) →
   wpAny (model prog w) A (setSearchFrom a (.ref x) (hk prog w k) true fuel stand) Q E s:=by
 intro fuel
 induction fuel with
 | zero=>intro n stand h1 h2; omega
 | succ fuel ih =>
  intro n stand h1 h2 hst hq
  unfold setSearchFrom
  refine wpAny_bind (wpAny_setState_of ho hd T.fits ?_)
  dsimp only
  rw [T.stays]
  simp only [Bool.false_eq_true,if_false]
  rw [hst]
  have P:=probe_says T (fun i=>(es[i]?.map (·.1)).getD 0) (hk prog w k) hN hb (10 * turns t.mask) n h1 (by unfold turns; omega)
  have esz:t.place.size = es.size:=by have:=T.size; simpa using this
  have ent:∀ {i j:Nat},t.place[i]? = some j→∃ e,es[i]? = some e:=fun {i j} hi=>⟨_,Array.getElem?_eq_getElem (by rw [← esz]; exact lt_of_get? hi)⟩
  have notk:∀ {i:Nat} {e:Int × Value},(fun i:Nat=>(es[i]?.map (·.1)).getD 0) i≠hk prog w k→es[i]? = some e→¬ Ent prog w s.heap e k:=fun {i e} hne hi ⟨_,_,_,q⟩=>hne (by
   show (es[i]?.map (·.1)).getD 0 = _
   rw [hi]; exact q)
  rcases P with ⟨ep1,hall⟩ | ⟨m,i,hm1,hm2,hp,hh,hbef,ep1⟩
  ·have ep2:t.probe (fun i=>(es[i]?.map (·.1)).getD 0) (hk prog w k) (steps t.mask n (startM t.mask (hk prog w k))) = _:=ep1
   erw [ep2]
   dsimp only
   exact wpAny_pure (hq fun m i e h3 h4 h5 h6=>notk (hall m i h3 h4 h5) h6)
  ·have ep2:t.probe (fun i=>(es[i]?.map (·.1)).getD 0) (hk prog w k) (steps t.mask n (startM t.mask (hk prog w k))) = _:=ep1
   erw [ep2]
   dsimp only
   obtain ⟨e,hei⟩:=ent hp
   have hem:e∈es.toList:=by rw [← Array.getElem?_toList] at hei; exact List.mem_of_getElem? hei
   obtain ⟨k',b,eb,hbk,eh⟩:=he e hem
   have tail:wpAny (model prog w) A (do
     let some (_,y):=es[i]? | unsupported "internal:set-entry"
     let equal ← holding [y] (eqBool y (.ref x))
     let (es',_,t') ← setState a
     if true && equal then return .there none
     let some same:=t'.sameMemory t.moves t.mask | unsupported "set.changed-during-lookup:is-the-new-block-at-the-old-address"
     let still ← match (if same then t'.slot (steps t.mask m (startM t.mask (hk prog w k))).j else .empty) with
      | .live i'=>match es'[i']? with
       | some (_,y')=>do pure (if ← isSame y' y then some i' else none)
       | none=>pure none
      | _=>pure none
     match still with
     | none=>rule "set.search.anew"; setSearchFrom a (.ref x) (hk prog w k) true fuel none
     | some i'=>if equal then return .there (some i') else setSearchFrom a (.ref x) (hk prog w k) true fuel (some (steps t.mask (m + 1) (startM t.mask (hk prog w k))))) Q E s:=by
    rw [hei]
    obtain ⟨eh',ev⟩:=e
    simp only at eb
    subst eb
    dsimp only
    refine wpAny_bind (wpAny_holding (wpAny_eqBool_tuple hu hbk hx ?_))
    refine wpAny_bind (wpAny_setState_of ho hd T.fits ?_)
    dsimp only
    by_cases ek:k' = k
    ·subst ek
     simp only [decide_true,Bool.and_self,if_true]
     exact wpAny_pure (hf ⟨_,hem,b,rfl,hbk,eh⟩)
    ·simp only [decide_eq_false ek,Bool.and_false,Bool.false_eq_true,if_false]
     have em:t.sameMemory t.moves t.mask = some true:=by unfold SetTable.sameMemory; simp
     rw [em]
     dsimp only
     simp only [if_true]
     rw [slot_live T.rise hp]
     dsimp only
     rw [hei]
     dsimp only
     refine wpAny_bind (wpAny_isSame_ref_self (wpAny_bind (wpAny_pure ?_)))
     simp only [if_true]
     refine ih (m + 1) _ hm2 (by omega) rfl fun hfree=>hq fun m' i' e' h3 h4 h5 h6=>?_
     rcases Nat.lt_or_ge m' m with q | q
     ·exact notk (hbef m' i' h3 q h5) h6
     ·by_cases q2:m' = m
      ·subst q2
       have:i' = i:=by
        have z1:=slot_live T.rise hp
        have z2:=slot_live T.rise h5
        rw [z1] at z2; cases z2; rfl
       subst this
       rw [hei] at h6
       cases h6
       exact fun z=>ek ((Ent.inj (prog:=prog) (w:=w) ⟨b,rfl,hbk,eh⟩ z))
      ·exact hfree m' i' e' (by omega) h4 h5 h6
   by_cases hl:t.led = true
   ·rw [hl]
    simp only [Bool.not_true,Bool.false_eq_true,if_false]
    exact tail
   ·have hl':t.led = false:=by simpa using hl
    rw [hl']
    simp only [Bool.not_false,if_true]
    refine wpAny_bind (seen_no hx (fun v hv=>?_) ?_)
    ·obtain ⟨e',he',rfl⟩:=List.mem_map.mp hv
     have:e'∈es.toList:=by
      rw [Array.toList_filter] at he'
      exact (List.mem_filter.mp he').1
     obtain ⟨k2,b2,e2,t2,_⟩:=he e' this
     exact ⟨k2,b2,e2,t2⟩
    ·simp only [Bool.false_eq_true,if_false]
     exact tail
end
end GS
namespace GS
open PySem PySem.W PyProof.Rows
def kwp {α:Type} (lt:Nat→Nat→Bool) (n:Nat) (R:α→Prop):KasT α→Prop
 | .ret a=>R a
 | .ask i j k=>i < n∧j < n∧kwp lt n R (k (lt i j))
theorem kwp_bind {α β:Type} {lt:Nat→Nat→Bool} {n:Nat} {R:β→Prop} {f:α→KasT β}:∀ (t:KasT α),kwp lt n (fun a=>kwp lt n R (f a)) t→kwp lt n R (t.bind f)
 | .ret a,h=>h
 | .ask i j k,h=>⟨h.1,h.2.1,kwp_bind (k (lt i j)) h.2.2⟩
theorem kwp_mono {α:Type} {lt:Nat→Nat→Bool} {n:Nat} {R R':α→Prop} (m:∀ a,R a→R' a):∀ (t:KasT α),kwp lt n R t→kwp lt n R' t
 | .ret a,h=>m a h
 | .ask i j k,h=>⟨h.1,h.2.1,kwp_mono m (k (lt i j)) h.2.2⟩
theorem kwp_wp {α:Type} {lt:Nat→Nat→Bool} {n:Nat} {cmp:Nat→Nat→(Bool→Shared→Prop)→Shared→Prop} {s:Shared} {R:α→Prop} {Q:α→Shared→Prop}
  (hc:∀ i j C,i < n→j < n→C (lt i j) s→cmp i j C s) (hq:∀ a,R a→Q a s):∀ (t:KasT α),kwp lt n R t→t.kasWp cmp Q s
 | .ret a,h=>hq a h
 | .ask i j k,h=>hc i j _ h.1 h.2.1 (kwp_wp hc hq (k (lt i j)) h.2.2)
structure SOrd (lt:Nat→Nat→Bool) (n:Nat):Prop where
 irr:∀ a,a < n→lt a a = false
 tr:∀ a b c,a < n→b < n→c < n→lt b a = false→lt c b = false→lt c a = false
 tot:∀ a b,a < n→b < n→a≠b→lt a b = false→lt b a = true
 asy:∀ a b,a < n→b < n→lt a b = true→lt b a = false
abbrev gt (p:Array Nat) (i:Nat):Nat:=p.getD i 0
structure PIn (n:Nat) (p:Array Nat):Prop where
 perm:p.toList.Perm (List.range n)
 pos:0 < n
theorem PIn.size {n:Nat} {p:Array Nat} (h:PIn n p):p.size = n:=by
 have:=h.perm.length_eq; simpa using this
theorem PIn.lt {n:Nat} {p:Array Nat} (h:PIn n p) (i:Nat):gt p i < n:=by
 unfold gt
 rcases Nat.lt_or_ge i p.size with q | q
 ·have:p[i]∈p.toList:=by simp
  have:=List.mem_range.mp (h.perm.mem_iff.mp this)
  simpa [Array.getD,q] using this
 ·simpa [Array.getD,Nat.not_lt.mpr q] using h.pos
theorem PIn.ne {n:Nat} {p:Array Nat} (h:PIn n p) {i j:Nat} (hi:i < n) (hj:j < n) (hij:i≠j):gt p i≠gt p j:=by
 have hn:p.toList.Nodup:=h.perm.nodup_iff.mpr List.nodup_range
 have hs:=h.size
 intro e
 have e1:gt p i = p.toList[i]'(by simpa [hs] using hi):=by simp [gt,Array.getD,hs,hi]
 have e2:gt p j = p.toList[j]'(by simpa [hs] using hj):=by simp [gt,Array.getD,hs,hj]
 rw [e1,e2] at e
 have h1:i < p.toList.length:=by simpa [hs] using hi
 have h2:j < p.toList.length:=by simpa [hs] using hj
 rcases Nat.lt_or_ge i j with q | q
 ·exact List.pairwise_iff_getElem.mp hn i j h1 h2 q e
 ·exact List.pairwise_iff_getElem.mp hn j i h2 h1 (by omega) e.symm
def SS (lt:Nat→Nat→Bool) (p:Array Nat) (k:Nat):Prop:=∀ i j,i < j→j < k→lt (gt p i) (gt p j) = true
def SD (lt:Nat→Nat→Bool) (p:Array Nat) (k:Nat):Prop:=∀ i j,i < j→j < k→lt (gt p j) (gt p i) = true
section
variable {lt:Nat→Nat→Bool} {n:Nat}
theorem SOrd.trans (O:SOrd lt n) {a b c:Nat} (ha:a < n) (hb:b < n) (hc:c < n) (h1:lt a b = true) (h2:lt b c = true):lt a c = true:=by
 have h3:=O.asy a b ha hb h1
 have h4:=O.asy b c hb hc h2
 have h5:=O.tr a b c ha hb hc h3 h4
 by_cases e:a = c
 ·subst e; rw [h1] at h4; cases h4
 ·exact O.tot c a hc ha (fun q=>e q.symm) h5
theorem SS.snoc (O:SOrd lt n) {p:Array Nat} (P:PIn n p) {k:Nat} (hk:1≤k) (h:SS lt p k) (hl:lt (gt p (k - 1)) (gt p k) = true):SS lt p (k + 1):=by
 intro i j hij hj
 rcases Nat.lt_or_ge j k with q | q
 ·exact h i j hij q
 ·have:j = k:=by omega
  subst this
  by_cases e:i = j - 1
  ·subst e; exact hl
  ·exact O.trans (P.lt _) (P.lt _) (P.lt _) (h i (j - 1) (by omega) (by omega)) hl
theorem SD.snoc (O:SOrd lt n) {p:Array Nat} (P:PIn n p) {k:Nat} (hk:1≤k) (h:SD lt p k) (hl:lt (gt p k) (gt p (k - 1)) = true):SD lt p (k + 1):=by
 intro i j hij hj
 rcases Nat.lt_or_ge j k with q | q
 ·exact h i j hij q
 ·have:j = k:=by omega
  subst this
  by_cases e:i = j - 1
  ·subst e; exact hl
  ·exact O.trans (P.lt _) (P.lt _) (P.lt _) hl (h i (j - 1) (by omega) (by omega))
theorem asc_ok (O:SOrd lt n) {p:Array Nat} (P:PIn n p):∀ (f a:Nat),1≤a→a + f≤n→SS lt p a →
  kwp lt n (fun m=>a≤m∧m≤a + f∧SS lt p m∧(m = a + f∨lt (gt p m) (gt p (m - 1)) = true)) (kas_asc p f a)
 | 0,a,_,_,h=>⟨Nat.le_refl _,Nat.le_refl _,h,.inl rfl⟩
 | f + 1,a,h1,h2,h=>by
  refine ⟨P.lt _,P.lt _,?_⟩
  cases hc:lt (p.getD a 0) (p.getD (a - 1) 0) with
  | true=>exact ⟨Nat.le_refl _,by omega,h,.inr hc⟩
  | false =>
   have hl:lt (gt p (a - 1)) (gt p a) = true:=O.tot _ _ (P.lt _) (P.lt _) (P.ne (by omega) (by omega) (by omega)) hc
   refine kwp_mono (fun m hm=>?_) _ (asc_ok O P f (a + 1) (by omega) (by omega) (h.snoc O P h1 hl))
   exact ⟨by omega,by omega,hm.2.2.1,hm.2.2.2.elim (fun q=>.inl (by omega)) .inr⟩
theorem desc_ok (O:SOrd lt n) {p:Array Nat} (P:PIn n p):∀ (f a:Nat),1≤a→a + f≤n→SD lt p a →
  kwp lt n (fun r=>r.1 = p∧r.2.2 = 0∧a≤r.2.1∧r.2.1≤a + f∧SD lt p r.2.1) (kas_desc f p a 0)
 | 0,a,_,_,h=>⟨rfl,rfl,Nat.le_refl _,Nat.le_refl _,h⟩
 | f + 1,a,h1,h2,h=>by
  refine ⟨P.lt _,P.lt _,?_⟩
  cases hc:lt (p.getD a 0) (p.getD (a - 1) 0) with
  | true =>
   dsimp only
   rw [if_pos rfl,if_neg (by omega)]
   refine kwp_mono (fun m hm=>?_) _ (desc_ok O P f (a + 1) (by omega) (by omega) (h.snoc O P h1 hc))
   exact ⟨hm.1,hm.2.1,by omega,by omega,hm.2.2.2.2⟩
  | false =>
   dsimp only
   rw [if_neg (by simp)]
   refine ⟨P.lt _,P.lt _,?_⟩
   have hl:lt (gt p (a - 1)) (gt p a) = true:=O.tot _ _ (P.lt _) (P.lt _) (P.ne (by omega) (by omega) (by omega)) hc
   have hl':lt (p.getD (a - 1) 0) (p.getD a 0) = true:=hl
   rw [hl']
   dsimp only
   rw [if_pos rfl]
   exact ⟨rfl,rfl,Nat.le_refl _,Nat.le_add_right _ _,h⟩
theorem gt_of {p q:Array Nat} {i j:Nat} (h:p[i]? = q[j]?):gt p i = gt q j:=by
 unfold gt; rw [Array.getD_eq_getD_getElem?,Array.getD_eq_getD_getElem?,h]
theorem rev_in {p:Array Nat} (P:PIn n p) (i j:Nat):PIn n (kas_rev p i j) :=
 ⟨(Array.perm_iff_toList_perm.mp (mirror_perm p i j _)).trans P.perm,P.pos⟩
theorem rev_sorted {p:Array Nat} (P:PIn n p) {m:Nat} (hm:m≤n) (h:SD lt p m):SS lt (kas_rev p 0 m) m:=by
 intro i j hij hj
 have e:∀ k,k < m→gt (kas_rev p 0 m) k = gt p (m - 1 - k):=fun k hk=>gt_of (by
  unfold kas_rev
  rw [getElem?_mirror_all (by rw [P.size]; exact hm),if_pos ⟨Nat.zero_le _,hk⟩,Nat.zero_add])
 rw [e i (by omega),e j (by omega)]
 exact h _ _ (by omega) (by omega)
theorem count_ok (O:SOrd lt n) {p:Array Nat} (P:PIn n p) (h2:2≤n) :
  kwp lt n (fun r=>PIn n r.2∧1≤r.1∧r.1≤n∧SS lt r.2 r.1) (kas_count n p):=by
 unfold kas_count
 refine kwp_bind _ (kwp_mono (fun m hm=>?_) _ (asc_ok O P (n - 1) 1 (Nat.le_refl _) (by omega) (fun i j h1 h2=>by omega)))
 obtain ⟨m1,m2,ms,mx⟩:=hm
 by_cases e:(m == n) = true
 ·rw [if_pos e]
  exact ⟨P,m1,by omega,ms⟩
 ·rw [if_neg e]
  have hne:m≠n:=by simpa using e
  by_cases g:m > 1
  ·rw [if_pos g]
   refine ⟨P.lt _,P.lt _,?_⟩
   have hl:lt (p.getD 0 0) (p.getD (m - 1) 0) = true:=ms 0 (m - 1) (by omega) (by omega)
   rw [hl]
   dsimp only
   rw [if_pos rfl]
   exact ⟨P,m1,by omega,ms⟩
  ·rw [if_neg g]
   have:m = 1:=by omega
   subst this
   have hd:lt (gt p 1) (gt p 0) = true:=by
    rcases mx with q | q
    ·omega
    ·exact q
   unfold kas_descPart
   refine kwp_bind _ (kwp_mono (fun r hr=>?_) _ (desc_ok O P (n - (1 + 1)) (1 + 1) (by omega) (by omega) ?_))
   ·obtain ⟨r1,r2,r3,r4,r5⟩:=hr
    rw [if_neg (by omega)]
    unfold kas_tail3
    rw [r1]
    refine kwp_bind _ (kwp_mono (fun k hk=>?_) _ (asc_ok O (rev_in P 0 r.2.1) (n - r.2.1) r.2.1 (by omega) (by omega) (rev_sorted P (by omega) r5)))
    exact ⟨rev_in P 0 r.2.1,by omega,by omega,hk.2.2.1⟩
   ·intro i j hij hj
    have:i = 0∧j = 1:=by omega
    rw [this.1,this.2]; exact hd
theorem place_ok (O:SOrd lt n) {p:Array Nat} (P:PIn n p) {k:Nat} (hk:k < n) (h:SS lt p k):∀ (f l r:Nat),r - l≤f→l≤r→r≤k →
  (∀ i,i < l→lt (gt p i) (gt p k) = true)→(∀ i,r≤i→i < k→lt (gt p k) (gt p i) = true) →
  kwp lt n (fun m=>m≤k∧(∀ i,i < m→lt (gt p i) (gt p k) = true)∧∀ i,m≤i→i < k→lt (gt p k) (gt p i) = true) (kas_place p k f l r)
 | 0,l,r,h1,h2,h3,hlo,hhi=>by
  have:l = r:=by omega
  subst this
  exact ⟨h3,hlo,hhi⟩
 | f + 1,l,r,h1,h2,h3,hlo,hhi=>by
  unfold kas_place
  by_cases g:l ≥ r
  ·rw [if_pos g]
   have:l = r:=by omega
   subst this
   exact ⟨h3,hlo,hhi⟩
  ·rw [if_neg g]
   refine ⟨P.lt _,P.lt _,?_⟩
   cases hc:lt (p.getD k 0) (p.getD ((l + r) / 2) 0) with
   | true =>
    dsimp only
    rw [if_pos rfl]
    refine place_ok O P hk h f l ((l + r) / 2) (by omega) (by omega) (by omega) hlo fun i hi hik=>?_
    by_cases e:i = (l + r) / 2
    ·subst e; exact hc
    ·exact O.trans (P.lt _) (P.lt _) (P.lt _) hc (h _ _ (by omega) hik)
   | false =>
    dsimp only
    rw [if_neg (by simp)]
    have hl:lt (gt p ((l + r) / 2)) (gt p k) = true:=O.tot _ _ (P.lt _) (P.lt _) (P.ne (by omega) (by omega) (by omega)) hc
    refine place_ok O P hk h f ((l + r) / 2 + 1) r (by omega) (by omega) h3 (fun i hi=>?_) hhi
    by_cases e:i = (l + r) / 2
    ·subst e; exact hl
    ·exact O.trans (P.lt _) (P.lt _) (P.lt _) (h i _ (by omega) (by omega)) hl
theorem bin_ok (O:SOrd lt n):∀ (f k:Nat) (p:Array Nat),PIn n p→k + f = n→SS lt p k→kwp lt n (fun q=>PIn n q∧SS lt q n) (kas_bin f p k)
 | 0,k,p,P,e,h=>by
  have:k = n:=by omega
  subst this
  exact ⟨P,h⟩
 | f + 1,k,p,P,e,h=>by
  have hk:k < n:=by omega
  refine kwp_bind _ (kwp_mono (fun l hl=>?_) _ (place_ok O P hk h k 0 k (by omega) (by omega) (Nat.le_refl _) (fun i hi=>by omega) (fun i h1 h2=>by omega)))
  obtain ⟨h1,h2,h3⟩:=hl
  refine bin_ok O f (k + 1) _ ⟨(Array.perm_iff_toList_perm.mp (bubble_perm p k _)).trans P.perm,P.pos⟩ (by omega) ?_
  have eb:∀ i:Nat,gt (bubble p k (k - l)) i = if i = l then gt p k else if l < i∧i≤k then gt p (i - 1) else gt p i:=fun i=>by
   have:=getElem?_bubble (xs:=p) (src:=k) (by rw [P.size]; exact hk) (k - l) (by omega) i
   rw [show k - (k - l) = l by omega] at this
   by_cases q1:i = l
   ·rw [if_pos q1] at this ⊢; exact gt_of this
   ·rw [if_neg q1] at this ⊢
    by_cases q2:l < i∧i≤k
    ·rw [if_pos q2] at this ⊢; exact gt_of this
    ·rw [if_neg q2] at this ⊢; exact gt_of this
  intro i j hij hj
  rw [eb i,eb j]
  repeat' split
  all_goals first
   | (exfalso; omega)
   | exact h2 _ (by omega)
   | exact h3 _ (by omega) (by omega)
   | exact h _ _ (by omega) (by omega)
theorem sort_ok (O:SOrd lt n) (h2:2≤n):kwp lt n (fun q=>PIn n q∧SS lt q n) (kas_sort n):=by
 unfold kas_sort
 refine kwp_bind _ (kwp_mono (fun r hr=>?_) _ (count_ok O ⟨by simp,by omega⟩ h2))
 obtain ⟨P,r1,r2,rs⟩:=hr
 by_cases g:r.1 < n
 ·rw [if_pos g]
  have:max r.1 1 = r.1:=by omega
  rw [this]
  exact bin_ok O _ _ _ P (by omega) rs
 ·rw [if_neg g]
  have:r.1 = n:=by omega
  rw [this] at rs
  exact ⟨P,rs⟩
end
end GS
namespace GS
open PySem PySem.SetTable
section
variable {prog:Program} {w:World} {A:Around} {E:Value→Shared→Prop} {s:Shared} {U:Value→Prop}
theorem TK.same {h h':Heap} {k:List Int} {b a:Addr} {o:Obj} {es:Array (Int × Value)} {ep:Nat} {t:SetTable} (x:TK prog w h k b) (ho:h.get? a = some o) (hd:o.data = .set es ep t) (hs:Heap.SameBut a h h'):TK prog w h' k b:=by
 obtain ⟨o',items,n,ho',hc,hd',hi⟩:=x
 have hne:b≠a:=by
  rintro rfl
  rw [ho'] at ho
  cases ho
  rw [hd] at hd'; exact nomatch hd'
 exact ⟨o',items,n,(hs.2 b hne).trans ho',hc,hd',hi⟩
theorem Ent.same {h h':Heap} {e:Int × Value} {k:List Int} {a:Addr} {o:Obj} {es:Array (Int × Value)} {ep:Nat} {t:SetTable} (x:Ent prog w h e k) (ho:h.get? a = some o) (hd:o.data = .set es ep t) (hs:Heap.SameBut a h h'):Ent prog w h' e k :=
 let ⟨b,e1,t1,e2⟩:=x; ⟨b,e1,TK.same t1 ho hd hs,e2⟩
def setObj (es:Array (Int × Value)) (ep:Nat) (t:SetTable):Obj:={ cls:=.type "set",dict:=none,data:=.set es ep t }
structure SGI (prog:Program) (w:World) (U:Value→Prop) (h:Heap) (es:Array (Int × Value)) (t:SetTable) (M:List (List Int)):Prop where
 tab:TInv t (es.toList.map (·.1))
 led:t.led = !w.params.followText "set-order"
 plain:t.plain = true
 size:es.size≤M.length
 sub:∀ e∈es.toList,∃ k,k∈M∧Ent prog w h e k
 all:∀ k∈M,∃ e,e∈es.toList∧Ent prog w h e k
 dist:es.toList.Pairwise fun e e'=>∀ k,Ent prog w h e k→¬ Ent prog w h e' k
 good:∀ e∈es.toList,U e.2
def SG (prog:Program) (w:World) (U:Value→Prop) (h:Heap) (a:Addr) (M:List (List Int)):Prop:=∃ es ep t,h.get? a = some (setObj es ep t)∧SGI prog w U h es t M
theorem SGI.same {h h':Heap} {es:Array (Int × Value)} {t:SetTable} {M:List (List Int)} {a:Addr} {o:Obj} {es0:Array (Int × Value)} {ep:Nat} {t0:SetTable} (S:SGI prog w U h es t M) (ho:h.get? a = some o) (hd:o.data = .set es0 ep t0) (hs:Heap.SameBut a h h') (ho':∃ o',h'.get? a = some o'∧∃ es1 ep1 t1,o'.data = .set es1 ep1 t1):SGI prog w U h' es t M:=by
 obtain ⟨o',ho',es1,ep1,t1,hd'⟩:=ho'
 have back:∀ {e k},Ent prog w h' e k→Ent prog w h e k:=fun {e k} x=>x.same ho' hd' ⟨hs.1.symm,fun b hb=>(hs.2 b hb).symm⟩
 exact ⟨S.tab,S.led,S.plain,S.size,fun e he=>let ⟨k,a,b⟩:=S.sub e he; ⟨k,a,b.same ho hd hs⟩,fun k hk=>let ⟨e,a,b⟩:=S.all k hk; ⟨e,a,b.same ho hd hs⟩,
  S.dist.imp fun q k x y=>q k (back x) (back y),S.good⟩
theorem stored {h:Heap} {a:Addr} {es:Array (Int × Value)} {ep:Nat} {t:SetTable} (ho:h.get? a = some (setObj es ep t)) (es':Array (Int × Value)) (t':SetTable) :
  (h.update a (Obj.putSet es' t')).get? a = some (setObj es' (ep + 1) t'):=by
 have:=Heap.get?_update_self (Obj.putSet es' t') ho (by rw [putSet_of (ep:=ep) (es:=es) (t:=t) es' t' rfl]; rfl)
 rw [putSet_of (ep:=ep) (es:=es) (t:=t) es' t' rfl] at this
 exact this
theorem insert_map (es:Array (Int × Value)) (p:Nat) (e:Int × Value):(insertAt es p e).toList.map (·.1) = (insertAt (es.map (·.1)) p e.1).toList:=by
 rw [insertAt_toList,insertAt_toList]
 simp [List.map_take,List.map_drop]
theorem grown_mask {m n:Nat} (hm:MaskOk m) (h1:n * 5 < m * 3) (h2:m * 3≤(n + 1) * 5) (h3:n < 63) :
  MaskOk (sizeAbove (grown (n + 1)) - 1)∧(n + 1) * 5 < (sizeAbove (grown (n + 1)) - 1) * 3∧sizeAbove (grown (n + 1))≤sizeLine:=by
 rcases hm with rfl | rfl | rfl
 ·have:n = 4:=by omega
  subst this
  exact ⟨.inr (.inl (by decide)),by decide,by decide⟩
 ·have:n = 18:=by omega
  subst this
  exact ⟨.inr (.inr (by decide)),by decide,by decide⟩
 ·omega
theorem add_ok {a x:Addr} {k:List Int} {M:List (List Int)} {Q:Bool→Shared→Prop} (hu:A.units < cLine) (hS:SG prog w U s.heap a M) (hU:U (.ref x)) (hx:TK prog w s.heap k x) (hM:M.length < 63)
  (hQ:∀ (b:Bool) (h':Heap),Heap.SameBut a s.heap h'→SG prog w U h' a (M++[k])→Q b { s with heap:=h' }):wpAny (model prog w) A (setAddHashed a (.ref x) (hk prog w k)) Q E s:=by
 obtain ⟨es,ep,t,ho,S⟩:=hS
 have T:=S.tab
 have hd:(setObj es ep t).data = .set es ep t:=rfl
 have esz:t.place.size = es.size:=by have:=T.size; simpa using this
 obtain ⟨N,hN2,hN,hb⟩:=first_free T (hk prog w k)
 have hmask:t.mask≤127:=by rcases T.mask with e | e | e <;> omega
 unfold setAddHashed setAddHashedIn
 refine wpAny_holding (wpAny_bind (wpAny_setState_of ho hd T.fits ?_))
 dsimp only
 have hsc:byScan (.ref x) es = false:=rfl
 rw [hsc]
 simp only [Bool.false_eq_true,if_false]
 unfold setSearch
 refine wpAny_bind (search_ok hu hx ho hd T (fun e he=>let ⟨k',_,q⟩:=S.sub e he; ⟨k',q⟩) hN hb hN2 (fun hf=>?_) 100000 0 none (Nat.zero_le _) (by omega) rfl fun hfree=>?_)
 ·-- it is there
  dsimp only
  obtain ⟨e,he,hek⟩:=hf
  refine wpAny_pure ?_
  have:=hQ false s.heap (Heap.SameBut.refl a s.heap) ⟨es,ep,t,ho,T,S.led,S.plain,by rw [List.length_append]; exact Nat.le_trans S.size (Nat.le_add_right _ _),fun e he=>let ⟨k',q1,q2⟩:=S.sub e he; ⟨k',List.mem_append_left _ q1,q2⟩,fun k' hk'=>by
   rcases List.mem_append.mp hk' with q | q
   ·exact S.all k' q
   ·simp at q; subst q; exact ⟨e,he,hek⟩,S.dist,S.good⟩
  exact this
 ·-- it is new
  dsimp only
  have hnew:∀ e∈es.toList,¬ Ent prog w s.heap e k:=fun e he hek=>by
   obtain ⟨i,hi⟩:=List.mem_iff_getElem?.mp he
   rw [Array.getElem?_toList] at hi
   have hil:=lt_of_get? hi
   obtain ⟨j,hj⟩:∃ j,t.place[i]? = some j:=⟨_,Array.getElem?_eq_getElem (by rw [esz]; exact hil)⟩
   obtain ⟨_,_,_,eh⟩:=id hek
   obtain ⟨n,hn,hlive⟩:=T.reach i j (hk prog w k) hj (by rw [List.getElem?_map,Array.getElem?_toList,hi]; exact congrArg some eh)
   have hlt:n < N:=by
    rcases Nat.lt_trichotomy n N with q | q | q
    ·exact q
    ·subst q; exact absurd ⟨i,by rw [hn]; exact hj⟩ hN
    ·exact absurd (hlive N q) hN
   exact hfree n i e (Nat.zero_le _) hlt (by rw [hn]; exact hj) hi hek
  refine wpAny_bind (wpAny_setState_of ho hd T.fits ?_)
  dsimp only
  rw [put_eq T.nd]
  dsimp only
  rw [if_pos S.plain]
  refine wpAny_bind (byValue_yes hx ?_)
  try dsimp only
  simp only [if_true]
  generalize hj:(steps t.mask N (startM t.mask (hk prog w k))).j = j at *
  have hbs:=(below_spec t.place j T.rise).2.2
  have TP:TPre { t with place:=insertAt t.place (below t.place j) j } ((insertAt es (below t.place j) (hk prog w k,Value.ref x)).toList.map (·.1)):=by
   rw [insert_map]
   have T':TInv t (es.map (·.1)).toList:=by rw [Array.toList_map]; exact T
   have:=put_pre T' (hk prog w k) (N:=N) (by rw [hj]; exact hN) hb
   rw [hj] at this
   exact this
  have hsz':(insertAt es (below t.place j) (hk prog w k,Value.ref x)).size = es.size + 1:=insertAt_size es (by rw [← esz]; exact hbs) _
  have hperm:=insertAt_perm es (p:=below t.place j) (hk prog w k,Value.ref x)
  have hsl:es.size + 1≤sizeLine:=by have:=S.size; rw [sizeLine_eq]; omega
  have hsb:=Heap.SameBut.update s.heap a (Obj.putSet (insertAt es (below t.place j) (hk prog w k,Value.ref x)) { t with place:=insertAt t.place (below t.place j) j })
  have entk:Ent prog w s.heap (hk prog w k,Value.ref x) k:=⟨x,rfl,hx,rfl⟩
  have good:∀ (es2:Array (Int × Value)) (t2:SetTable),es2.toList.Perm (insertAt es (below t.place j) (hk prog w k,Value.ref x)).toList→TInv t2 (es2.toList.map (·.1))→t2.led = t.led→t2.plain = true→SGI prog w U s.heap es2 t2 (M++[k]):=by
   intro es2 t2 hp T2 hl2 hpl2
   have hp2:=hp.trans hperm
   refine ⟨T2,hl2.trans S.led,hpl2,?_,fun e he=>?_,fun k' hk'=>?_,?_,fun e he=>?_⟩
   ·have:=hp2.length_eq
    simp only [Array.length_toList,List.length_cons] at this
    rw [List.length_append,List.length_singleton,this]
    have:=S.size; omega
   ·rcases List.mem_cons.mp (hp2.mem_iff.mp he) with rfl | he
    ·exact ⟨k,by simp,entk⟩
    ·obtain ⟨k',q1,q2⟩:=S.sub e he
     exact ⟨k',List.mem_append_left _ q1,q2⟩
   ·rcases List.mem_append.mp hk' with q | q
    ·obtain ⟨e,he,q2⟩:=S.all k' q
     exact ⟨e,hp2.mem_iff.mpr (List.mem_cons_of_mem _ he),q2⟩
    ·simp at q; subst q
     exact ⟨_,hp2.mem_iff.mpr List.mem_cons_self,entk⟩
   ·refine (hp2.pairwise_iff (fun {e e'} q k' x1 x2=>q k' x2 x1)).mpr (List.pairwise_cons.mpr ⟨fun e he k' x1 x2=>?_,S.dist⟩)
    have:=entk.inj x1
    subst this
    exact hnew e he x2
   ·rcases List.mem_cons.mp (hp2.mem_iff.mp he) with rfl | he
    ·exact hU
    ·exact S.good e he
  refine wpAny_bind (wpAny_storeSet_of ho hd ?_ (by rw [hsz']; exact hsl))
  have ho1:=stored ho (insertAt es (below t.place j) (hk prog w k,Value.ref x)) { t with place:=insertAt t.place (below t.place j) j }
  by_cases hfull:({ t with place:=insertAt t.place (below t.place j) j }:SetTable).tooFull = true
  ·rw [hfull]
   simp only [Bool.not_false,Bool.and_self,if_true]
   have hfu:t.mask * 3≤(es.size + 1) * 5:=by
    unfold SetTable.tooFull SetTable.fill at hfull
    simp only [T.nd,List.size_toArray,List.length_nil,Nat.add_zero,ge_iff_le,decide_eq_true_eq] at hfull
    rw [insertAt_size _ hbs,esz] at hfull
    exact hfull
   obtain ⟨gm1,gm2,gm3⟩:=grown_mask T.mask (by rw [← esz]; exact T.room) hfu (by have:=S.size; omega)
   have hlen:((insertAt es (below t.place j) (hk prog w k,Value.ref x)).toList.map (·.1)).length = es.size + 1:=by rw [List.length_map,Array.length_toList,hsz']
   obtain ⟨t2,order,el,em,eled,epl,eperm,TP2⟩:=laid_ok gm1 t.finger (({ t with place:=insertAt t.place (below t.place j) j }:SetTable).movedTo (sizeAbove (grown (es.size + 1)) - 1)) t.led t.plain ((insertAt es (below t.place j) (hk prog w k,Value.ref x)).toList.map (·.1)) (by rw [hlen]; omega)
   rw [hlen] at eperm
   have hf1:({ t with place:=insertAt t.place (below t.place j) j }:SetTable).fits (insertAt es (below t.place j) (hk prog w k,Value.ref x)).size = true:=by
    have hmm:es.size * 5 < t.mask * 3:=by rw [← esz]; exact T.room
    unfold SetTable.fits SetTable.fill
    simp only [T.nd,List.size_toArray,List.length_nil,Nat.add_zero,Bool.and_eq_true,beq_iff_eq,decide_eq_true_eq]
    rw [insertAt_size _ hbs,hsz',esz]
    refine ⟨rfl,?_⟩
    rcases T.mask with e | e | e <;> omega
   unfold setRelay
   refine wpAny_bind (wpAny_bind (wpAny_setState_of ho1 rfl hf1 ?_))
   dsimp only
   rw [if_neg (Nat.not_lt.mpr gm3)]
   have hrel:({ t with place:=insertAt t.place (below t.place j) j }:SetTable).relaid ((insertAt es (below t.place j) (hk prog w k,Value.ref x)).map (·.1)) (grown (es.size + 1)) = some (t2,order):=by
    unfold SetTable.relaid
    rw [← el]
    congr 1
    rw [← Array.toList_map,Array.toArray_toList]
   rw [hrel]
   obtain ⟨fp1,fp2⟩:=filterMap_order (insertAt es (below t.place j) (hk prog w k,Value.ref x)) order (by rw [hsz']; exact eperm)
   have fsz:(order.filterMap ((insertAt es (below t.place j) (hk prog w k,Value.ref x))[·]?)).size = es.size + 1:=by
    have:=fp1.length_eq
    rw [Array.length_toList,Array.length_toList,hsz'] at this
    exact this
   have hhs:(order.filterMap ((insertAt es (below t.place j) (hk prog w k,Value.ref x))[·]?)).toList.map (·.1) = order.toList.map fun q=>((insertAt es (below t.place j) (hk prog w k,Value.ref x)).toList.map (·.1)).getD q 0:=by
    apply List.ext_getElem?
    intro i
    rw [List.getElem?_map,Array.getElem?_toList,fp2 i,List.getElem?_map,Array.getElem?_toList]
    cases hoi:order[i]? with
    | none=>rfl
    | some q =>
     have hq:q < es.size + 1:=by
      have:q∈order.toList:=by rw [← Array.getElem?_toList] at hoi; exact List.mem_of_getElem? hoi
      exact List.mem_range.mp (eperm.mem_iff.mp this)
     show Option.map _ ((insertAt es (below t.place j) (hk prog w k,Value.ref x))[q]?) = some _
     have hq2:q < (insertAt es (below t.place j) (hk prog w k,Value.ref x)).size:=by rw [hsz']; exact hq
     dsimp only
     rw [Array.getElem?_eq_getElem hq2,List.getD_eq_getElem?_getD,List.getElem?_map,Array.getElem?_toList,Array.getElem?_eq_getElem hq2]
     rfl
   have T2:TInv t2 ((order.filterMap ((insertAt es (below t.place j) (hk prog w k,Value.ref x))[·]?)).toList.map (·.1)):=by
    rw [hhs]
    refine TP2.full ?_
    have h1:=TP2.size
    rw [List.length_map,eperm.length_eq,List.length_range] at h1
    rw [h1,em]; exact gm2
   show wpAny _ _ (do
    let (es,t) ← (do
     if ((order.filterMap ((insertAt es (below t.place j) (hk prog w k,Value.ref x))[·]?)).size != (insertAt es (below t.place j) (hk prog w k,Value.ref x)).size) = true then unsupported "internal:set-table-lost-an-element"
     pure ((order.filterMap ((insertAt es (below t.place j) (hk prog w k,Value.ref x))[·]?)),t2))
    storeSet a es t) _ _ _
   rw [fsz,hsz']
   simp only [bne_self_eq_false,Bool.false_eq_true,if_false]
   refine wpAny_bind (wpAny_bind (wpAny_pure (wpAny_pure ?_)))
   dsimp only
   refine wpAny_storeSet_of ho1 rfl ?_ (by rw [fsz]; exact hsl)
   refine wpAny_pure ?_
   have hsb2:=hsb.trans (Heap.SameBut.update _ a (Obj.putSet (order.filterMap ((insertAt es (below t.place j) (hk prog w k,Value.ref x))[·]?)) t2))
   have ho2:=stored ho1 (order.filterMap ((insertAt es (below t.place j) (hk prog w k,Value.ref x))[·]?)) t2
   exact hQ true _ hsb2 ⟨_,_,_,ho2,(good _ t2 fp1 T2 eled (epl.trans S.plain)).same ho hd hsb2 ⟨_,ho2,_,_,_,rfl⟩⟩
  ·have hfull':({ t with place:=insertAt t.place (below t.place j) j }:SetTable).tooFull = false:=by simpa using hfull
   rw [hfull']
   simp only [Bool.and_false,Bool.false_eq_true,if_false]
   refine wpAny_pure ?_
   have T1:TInv { t with place:=insertAt t.place (below t.place j) j } ((insertAt es (below t.place j) (hk prog w k,Value.ref x)).toList.map (·.1)):=by
    refine TP.full ?_
    unfold SetTable.tooFull SetTable.fill at hfull
    simp only [T.nd,List.size_toArray,List.length_nil,Nat.add_zero,ge_iff_le,decide_eq_true_eq] at hfull
    exact Nat.not_le.mp hfull
   exact hQ true _ hsb ⟨_,_,_,ho1,(good _ _ (List.Perm.refl _) T1 rfl S.plain).same ho hd hsb ⟨_,ho1,_,_,_,rfl⟩⟩
end
end GS
namespace GS
open PySem PySem.SetTable
section
variable {prog:Program} {w:World} {A:Around} {E:Value→Shared→Prop} {s:Shared} {U:Value→Prop}
theorem TK.keep {h h':Heap} {k:List Int} {b:Addr} {wr:List Addr} (x:TK prog w h k b) (hk:∀ c o,c ∉ wr→h.get? c = some o→h'.get? c = some o) (hw:∀ c∈wr,∃ o,h.get? c = some o∧o.cls≠.type "tuple"):TK prog w h' k b:=by
 obtain ⟨o,items,n,ho,hc,hd,hi⟩:=x
 refine ⟨o,items,n,hk b o (fun hb=>?_) ho,hc,hd,hi⟩
 obtain ⟨o',ho',hne⟩:=hw b hb
 rw [ho] at ho'
 cases ho'
 exact hne hc
theorem SGI.keep {h h':Heap} {es:Array (Int × Value)} {t:SetTable} {M:List (List Int)} {wr:List Addr} (S:SGI prog w U h es t M) (hk:∀ c o,c ∉ wr→h.get? c = some o→h'.get? c = some o) (hw:∀ c∈wr,∃ o,h.get? c = some o∧o.cls≠.type "tuple"):SGI prog w U h' es t M:=by
 have fwd:∀ {e k},Ent prog w h e k→Ent prog w h' e k:=fun {e k} ⟨b,e1,t1,e2⟩=>⟨b,e1,t1.keep hk hw,e2⟩
 refine ⟨S.tab,S.led,S.plain,S.size,fun e he=>let ⟨k,a,b⟩:=S.sub e he; ⟨k,a,fwd b⟩,fun k hk'=>let ⟨e,a,b⟩:=S.all k hk'; ⟨e,a,fwd b⟩,?_,S.good⟩
 refine (List.Pairwise.and_mem.mp S.dist).imp fun {e e'} q k x y=>?_
 obtain ⟨k1,_,z1⟩:=S.sub e q.1
 obtain ⟨k2,_,z2⟩:=S.sub e' q.2.1
 have i1:=(fwd z1).inj x
 have i2:=(fwd z2).inj y
 subst i1; subst i2
 exact q.2.2 _ z1 z2
theorem SG.keep {h h':Heap} {a:Addr} {M:List (List Int)} {wr:List Addr} (S:SG prog w U h a M) (ha:a ∉ wr) (hk:∀ c o,c ∉ wr→h.get? c = some o→h'.get? c = some o) (hw:∀ c∈wr,∃ o,h.get? c = some o∧o.cls≠.type "tuple"):SG prog w U h' a M :=
 let ⟨es,ep,t,ho,S⟩:=S; ⟨es,ep,t,hk a _ ha ho,S.keep hk hw⟩
theorem SG.new (h:Heap):SG prog w U (h.push (setObj #[] 0 (.fresh 0 0 (!w.params.followText "set-order")))) h.objs.size []:=by
 refine ⟨#[],0,_,Heap.get?_push_size _ rfl,⟨⟨.inl rfl,rfl,rfl,fun i j a b _ ha=>by simp [SetTable.fresh] at ha,fun j ⟨i,hi⟩=>by simp [SetTable.fresh] at hi,by show 0 * 5 < 7 * 3; decide,fun i j h hi=>by simp [SetTable.fresh] at hi⟩,rfl,rfl,Nat.le_refl _,fun e he=>by simp at he,fun k hk=>by simp at hk,by simp,fun e he=>by simp at he⟩⟩
theorem fill_loop {R:Result→Shared→Prop} {it S:Addr} {fp wr:List Addr} {G:Array GenState→Array GenState→Prop} {n:Nat} {P:Nat→Value→Prop} {St:Nat→Shared→Prop} (W:WalksS prog w A.in1 it fp wr G n P St) (hu:A.in1.units < cLine)
  (hSf:S ∉ fp) (hw:∀ i s,St i s→∀ c∈wr,∃ o,s.heap.get? c = some o∧o.cls≠.type "tuple") {ks:List (List Int)} (hl:ks.length = n) (h63:n≤63)
  (TT:Heap→Prop) (hTT:∀ h,TT h→∀ i v,P i v→U v∧∃ b k,v = .ref b∧ks[i]? = some k∧TK prog w h k b)
  (hTk:∀ (h h':Heap) (wr':List Addr),TT h→(∀ c o,c ∉ wr'→h.get? c = some o→h'.get? c = some o)→(∀ c∈wr',∃ o,h.get? c = some o∧o.cls≠.type "tuple")→TT h') :
  ∀ (m i:Nat) (s:Shared),n - i = m→i≤n→St i s→TT s.heap→SG prog w U s.heap S (ks.take i)→(∀ s',Moved (S::wr) G s s'→SG prog w U s'.heap S ks→R (.ok (.ret .none)) s') →
   codeAny (model prog w) A (.builtin "set.update.loop" ⟨[.ref S,.ref it],[]⟩) R s:=by
 have hSw:S ∉ wr:=fun q=>hSf (W.sub _ q)
 have sb:∀ c∈wr,c∈S::wr:=fun c hc=>List.mem_cons_of_mem _ hc
 intro m
 induction m with
 | zero =>
  intro i s e1 e2 st _ hS hR
  obtain rfl:i = n:=by omega
  refine codeAny_builtin PyProof.Rows.F.entry_set_update_loop ?_
  rw [Around.under_plainId PyProof.Rows.F.plain_set_update_loop _]
  refine wpAny_bind (m:=pyNext (.ref it)) (W.done s _ _ st fun s' mv=>?_)
  rw [List.take_of_length_le (by omega)] at hS
  exact wpAny_pure (hR s' (mv.mono sb) (hS.keep hSw mv.heap (hw _ s st)))
 | succ m ih =>
  intro i s e1 e2 st tt hS hR
  have hi:i < n:=by omega
  refine codeAny_builtin PyProof.Rows.F.entry_set_update_loop ?_
  rw [Around.under_plainId PyProof.Rows.F.plain_set_update_loop _]
  refine wpAny_bind (m:=pyNext (.ref it)) (W.item i s _ _ hi st fun v s' hP st' mv=>?_)
  have tt':=hTk _ _ wr tt mv.heap (hw _ s st)
  obtain ⟨hUv,b,k,rfl,hki,hb⟩:=hTT _ tt' i v hP
  have hS':=hS.keep hSw mv.heap (hw _ s st)
  refine wpAny_bind (m:=holding [Value.ref b] (setAdd S (.ref b))) (wpAny_holding ?_)
  unfold setAdd
  refine wpAny_holding (wpAny_bind (wpAny_pyHash_tuple hu hb ?_))
  refine add_ok (s:={ s' with toks:=s'.toks + (k.length + 1) }) hu hS' hUv hb (by rw [List.length_take]; omega) fun bb h' sbt hS2=>?_
  have ek:ks.take i++[k] = ks.take (i + 1):=by
   rw [List.take_add_one,hki]; rfl
  rw [ek] at hS2
  obtain ⟨es,ep,t,ho,_⟩:=hS'
  have keepS:∀ c o,c ∉ [S]→s'.heap.get? c = some o→h'.get? c = some o:=fun c o hc e=>by
   rw [sbt.2 c (fun q=>hc (by simp [q]))]; exact e
  refine wpAny_pure ⟨plainId_quiet PyProof.Rows.F.plain_set_update_loop _,ih (i + 1) _ (by omega) hi (W.frame _ s' _ _ st' (Nat.le_add_right _ _) fun c hc o e=>keepS c o (fun q=>hSf (by simp at q; rw [← q]; exact hc)) e) ?_ hS2 fun s'' mv'' hS''=>?_⟩
  ·exact hTk _ _ [S] tt' keepS fun c hc=>by
    simp at hc; subst hc
    exact ⟨_,ho,by simp [setObj]⟩
  ·refine hR s'' (Moved.trans W.gtrans ((mv.mono sb).then_heap (Nat.le_add_right _ _) fun c o hc e=>keepS c o (fun q=>hc (by simp at q; simp [q])) e) mv'') hS''
theorem code_new (a:Value) {Q₁:Value→Shared→Prop} (h:Q₁ (.ref s.heap.objs.size) { s with heap:=s.heap.push (setObj #[] 0 (.fresh 0 0 (!w.params.followText "set-order"))) }) :
  codeAny (model prog w) A (.call (.builtin "set.__new__") ⟨[.type "set",a],[]⟩) (wants Q₁ E) s:=by
 refine codeAny_of_tree (wpAny_bind (m:=checkBuiltinCall "set.__new__" ⟨[.type "set",a],[]⟩) (wpAny_of_eq (F.newCall_set_1 a) (wpAny_pure ⟨plainId_quiet F.plain_set_new _,codeAny_builtin F.entry_set_new ?_⟩)))
 rw [Around.under_plainId F.plain_set_new _]
 unfold Builtin.«set.__new__» Builtin.Frozenset.newClass
 have sset:=sub_set_self
 obtain ⟨hp,g,d,tk,os⟩:=s
 dsimp only
 wp_walk
 refine wpAny_askSetting (wpAny_pure ?_)
 dsimp only
 simp only [newObj]
 refine wpAny_bind (wpAny_alloc (wpAny_pure (wpAny_pure ?_)))
 exact h
theorem call_set {l:Addr} {items:Array Value} {ks:List (List Int)} {Q:Value→Shared→Prop} (hh:A.handled = none) (hu:A.units + 10 < cLine) (hl:s.heap.IsList l items) (hz:ks.length = items.size) (h63:items.size≤63)
  (hT:∀ (i:Nat) (v:Value),items[i]? = some v→∃ b k,v = .ref b∧ks[i]? = some k∧TK prog w s.heap k b)
  (hU:∀ v∈items.toList,U v)
  (h:∀ (h':Heap) (tk:Nat),SG prog w U h' s.heap.objs.size ks→(∀ b o,s.heap.get? b = some o→h'.get? b = some o)→Q (.ref s.heap.objs.size) { s with heap:=h',toks:=tk }) :
  wpAny (model prog w) A (call (.type "set") [.ref l]) Q E s:=by
 obtain ⟨c0,tl0,mro0⟩:=F.called_set.mro
 have made0:=F.called_set.made
 have sub0:=F.called_set.sub
 have q1:=F.called_set.notType
 have q2:=F.called_set.canCreate
 have q3:=F.typeCall_set_1 (.ref l)
 refine wpAny_call (codeAny_of_tree ?_)
 change wpAny _ _ (callAny (.type "set") _) _ _ _
 refine wpAny_pure ⟨Code.quiet_builtin _ (by decide +kernel),codeAny_builtin F.entry_type_call ?_⟩
 rw [Around.under_plain (weight_type_call_type "set" [.ref l] []) rfl]
 repeat (any_goals (first | assumption | wp_step))
 have hS0:SG prog w U (s.heap.push (setObj #[] 0 (.fresh 0 0 (!w.params.followText "set-order")))) s.heap.objs.size []:=SG.new s.heap
 generalize hob:(!w.params.followText "set-order") = led at hS0
 change SG prog w U (s.heap.push { cls:=.type "set",dict:=none,data:=.set #[] 0 (.fresh 0 0 led) }) _ _ at hS0
 refine codeAny_mono (code_new (.ref l) (E:=E) (Q₁:=fun obj s₁=>obj = .ref s.heap.objs.size∧s₁ = { s with heap:=s.heap.push { cls:=.type "set",dict:=none,data:=.set #[] 0 (.fresh 0 0 led) } }) (by rw [hob]; exact ⟨rfl,rfl⟩)) fun r s₁ hr=>?_
 cases r with
 | error e=>exact hr
 | ok fl =>
  cases fl with
  | ret obj =>
   obtain ⟨rfl,rfl⟩:=hr
   have gS:(s.heap.push { cls:=.type "set",dict:=none,data:=.set #[] 0 (.fresh 0 0 led) }).get? s.heap.objs.size = some { cls:=.type "set",dict:=none,data:=.set #[] 0 (.fresh 0 0 led) }:=Heap.get?_push_size _ rfl
   have tS:Shared.TypeIs { s with heap:=s.heap.push { cls:=.type "set",dict:=none,data:=.set #[] 0 (.fresh 0 0 led) } } (.ref s.heap.objs.size) "set":=⟨_,gS,rfl⟩
   have li:=F.called_set.init.lookup
   have bi:=F.called_set.init.bind (.ref s.heap.objs.size)
   repeat (any_goals (first | assumption | wp_step))
   refine codeAny_mono (codeAny_call_builtin (R:=wants (fun r s₂=>r = .none∧∃ h' tk,s₂ = { s with heap:=h',toks:=tk }∧SG prog w U h' s.heap.objs.size ks∧(∀ b o,s.heap.get? b = some o→h'.get? b = some o)) E) F.called_set.init.plain F.entry_set_init (check_set_init_1 tS ?_)) fun r₂ s₂ hr₂=>?_
   ·have hl1:(s.heap.push { cls:=.type "set",dict:=none,data:=.set #[] 0 (.fresh 0 0 led) }).IsList l items:=hl.push _
    obtain ⟨ol,gl,cl,nl,dl⟩:=hl
    obtain ⟨ocl,odi,oda,osl⟩:=ol
    simp only at cl dl
    subst cl; subst dl
    have gl':(s.heap.push { cls:=.type "set",dict:=none,data:=.set #[] 0 (.fresh 0 0 led) }).get? l = some { cls:=.type "list",dict:=odi,data:=.seq items nl,slots:=osl }:=Heap.get?_push_of_some _ gl
    have n1:=F.sub_list_set
    have n2:=F.sub_list_frozenset
    have n3:(Value.type "list" == Value.type "dict") = false:=by decide
    unfold Builtin.«set.__init__» noKeywords Builtin.Frozenset.updateFrom
    generalize hPI:pyIter = PI
    wp_walk
    subst hPI
    refine wpAny_pyIter_list hl1 ?_
    refine wpAny_bind (wpAny_runValue ?_)
    have lS:l < s.heap.objs.size:=Heap.lt_size gl
    have szp:(s.heap.push { cls:=.type "set",dict:=none,data:=.set #[] 0 (.fresh 0 0 led) }).objs.size = s.heap.objs.size + 1:=Heap.size_push _ _
    have neI:l≠(s.heap.push { cls:=.type "set",dict:=none,data:=.set #[] 0 (.fresh 0 0 led) }).objs.size  :=by rw [szp]; exact Nat.ne_of_lt (Nat.lt_succ_of_lt lS)
    refine fill_loop (TT:=fun h=>∀ (i:Nat) (v:Value),items[i]? = some v→∃ b k,v = .ref b∧ks[i]? = some k∧TK prog w h k b) ((Walks.list (by simp [hh]) _ l neI items).toS) (S:=s.heap.objs.size) (by simp only [Around.in1_units]; omega)
     (by rw [szp]; simp only [List.mem_cons,List.not_mem_nil,or_false,not_or]; exact ⟨Nat.ne_of_lt (Nat.lt_succ_self _),Nat.ne_of_gt lS⟩) (fun i s' st c hc=>?_) hz h63 (fun h tt i v hv=>⟨hU v (by rw [← Array.getElem?_toList] at hv; exact List.mem_of_getElem? hv),tt i v hv⟩) (fun h h' wr tt hk hw i v hv=>let ⟨b,k,e1,e2,e3⟩:=tt i v hv; ⟨b,k,e1,e2,e3.keep hk hw⟩) (items.size - 0) 0 _ (by omega) (Nat.zero_le _)
     ⟨⟨_,Heap.get?_push_size _ rfl,rfl,rfl⟩,hl1.push _⟩ (fun i v hv=>?_) ?_ fun s' mv hS'=>?_
    ·obtain rfl:=List.mem_singleton.mp hc
     obtain ⟨⟨o,go,co,_⟩,_⟩:=st
     exact ⟨o,go,by rw [co]; decide⟩
    ·obtain ⟨b,k,e1,e2,e3⟩:=hT i v hv
     exact ⟨b,k,e1,e2,e3.keep (wr:=[]) (fun c o _ e=>Heap.get?_push_of_some _ (Heap.get?_push_of_some _ e)) (fun c hc=>by simp at hc)⟩
    ·rw [List.take_zero]
     exact hS0.keep (wr:=[]) (by simp) (fun c o _ e=>Heap.get?_push_of_some _ e) (fun c hc=>by simp at hc)
    ·obtain ⟨h',g',d',tk',os'⟩:=s'
     have eg:g' = s.gens:=mv.gens
     have ed:d' = s.drawn:=mv.drawn
     have eo:os' = s.os:=mv.os
     subst eg; subst ed; subst eo
     change wpAny _ _ _ _ _ _
     refine wpAny_pure (wpAny_pure (a:=_) ⟨rfl,h',tk',rfl,hS',fun b o e=>?_⟩)
     have bl:b < s.heap.objs.size:=Heap.lt_size e
     exact mv.heap b o (by rw [szp]; simp only [List.mem_cons,List.not_mem_nil,or_false,not_or]; exact ⟨Nat.ne_of_lt bl,Nat.ne_of_lt (Nat.lt_succ_of_lt bl)⟩) (Heap.get?_push_of_some _ (Heap.get?_push_of_some _ e))
   ·cases r₂ with
    | error e=>exact hr₂
    | ok fl₂ =>
     cases fl₂ with
     | ret r =>
      obtain ⟨rfl,h',tk,rfl,hS',hk'⟩:=hr₂
      repeat (any_goals (first | assumption | wp_step))
      exact h _ _ hS' hk'
     | _=>exact hr₂.elim
  | _=>exact hr.elim
end
end GS
namespace GS
open PySem PySem.SetTable
namespace FI
theorem own_it:Manifest.owners.lookup (String.ofList ['r','o','t','a','r','e','t','i','_','t','e','s'].reverse) = some Manifest.sig_set_iterator:=by kernel_rfl
theorem sl_next:Slot "set_iterator" "__next__" "set_iterator.__next__" :=
 .of (owner:="set_iterator") (n:="__next__") (by rw [typeLookup_type,builtinLookup_eq_fast]; kernel_rfl) (by decide +kernel) (by decide +kernel) (by decide +kernel) (by first | exact .inl (by decide +kernel) | exact .inr (by decide +kernel)) (by rw [isSubtype_type]; kernel_rfl)
theorem en_next:entryFor table "set_iterator.__next__" = some Builtin.«set_iterator.__next__»:=entryFor_of_tree (by kernel_rfl)
theorem ar_next (a:Value):argsOk "set_iterator.__next__" ⟨[a],[]⟩:=by
 unfold argsOk; rw [signature?_of (id:="set_iterator.__next__") (n:="__next__".toList.reverse) (o:="set_iterator".toList.reverse) (by kernel_rfl) own_it]; kernel_rfl
theorem sl_iter:Slot "set_iterator" "__iter__" "set_iterator.__iter__" :=
 .of (owner:="set_iterator") (n:="__iter__") (by rw [typeLookup_type,builtinLookup_eq_fast]; kernel_rfl) (by decide +kernel) (by decide +kernel) (by decide +kernel) (by first | exact .inl (by decide +kernel) | exact .inr (by decide +kernel)) (by rw [isSubtype_type]; kernel_rfl)
theorem en_iter:entryFor table "set_iterator.__iter__" = some Builtin.«dict_keyiterator.__iter__»:=entryFor_alias (id':="dict_keyiterator.__iter__") (by kernel_rfl) rfl (by decide +kernel) (by kernel_rfl)
theorem ar_iter (a:Value):argsOk "set_iterator.__iter__" ⟨[a],[]⟩:=by
 unfold argsOk; rw [signature?_of (id:="set_iterator.__iter__") (n:="__iter__".toList.reverse) (o:="set_iterator".toList.reverse) (by kernel_rfl) own_it]; kernel_rfl
theorem en_siter:entryFor table "set.__iter__" = some Builtin.«frozenset.__iter__»:=entryFor_alias (id':="frozenset.__iter__") (by kernel_rfl) rfl (by decide +kernel) (by kernel_rfl)
end FI
theorem pick_perm {α:Type} (next:Nat→Nat):∀ (fuel k:Nat) (left:List α) (out:Array α),fuel = left.length→(pickOrder.go next fuel k left out).toList.Perm (out.toList++left)
 | 0,k,left,out,h=>by
  have:left = []:=List.length_eq_zero_iff.mp h.symm
  subst this
  unfold pickOrder.go; simp
 | fuel + 1,k,left,out,h=>by
  unfold pickOrder.go
  have hlt:next k % left.length < left.length:=Nat.mod_lt _ (by omega)
  rw [List.getElem?_eq_getElem hlt]
  dsimp only
  refine (pick_perm next fuel (k + 1) _ _ (by rw [List.length_eraseIdx,if_pos hlt]; omega)).trans ?_
  rw [Array.toList_push,List.append_assoc]
  refine List.Perm.append_left _ ?_
  show (left[next k % left.length]::left.eraseIdx (next k % left.length)).Perm left
  rw [List.eraseIdx_eq_take_drop_succ]
  refine List.perm_middle.symm.trans ?_
  rw [← List.drop_eq_getElem_cons hlt,List.take_append_drop]
theorem pickOrder_perm {α:Type} (next:Nat→Nat) (xs:Array α):(pickOrder next xs).toList.Perm xs.toList:=by
 have:=pick_perm next xs.size 0 xs.toList #[] (by simp)
 simpa [pickOrder] using this
section
variable {prog:Program} {w:World} {A:Around} {E:Value→Shared→Prop} {s:Shared}
def walkL (w:World) (a:Addr) (es:Array (Int × Value)) (ep:Nat):Array (Int × Value):=if w.params.followText "set-order" = true then pickOrder (w.params.setOrder a ep) es else es
theorem walkL_perm (w:World) (a:Addr) (es:Array (Int × Value)) (ep:Nat):(walkL w a es ep).toList.Perm es.toList:=by
 unfold walkL; split
 ·exact pickOrder_perm _ _
 ·exact List.Perm.refl _
theorem walkL_size (w:World) (a:Addr) (es:Array (Int × Value)) (ep:Nat):(walkL w a es ep).size = es.size:=by
 have:=(walkL_perm w a es ep).length_eq; simpa using this
def slotAt (w:World) (t:SetTable) (i:Nat):Nat:=if w.params.followText "set-order" = true then 0 else if i = 0 then 0 else t.place.getD (i - 1) 0 + 1
theorem next_item {a:Addr} {es:Array (Int × Value)} {ep:Nat} {t:SetTable} {i:Nat} {e:Int × Value} {Q:Option (Value × Nat)→Shared→Prop} (ho:s.heap.get? a = some (setObj es ep t)) (T:TInv t (es.toList.map (·.1))) (hl:t.led = !w.params.followText "set-order") (hp:t.plain = true)
  (hi:(walkL w a es ep)[i]? = some e) (h:Q (some (e.2,slotAt w t (i + 1))) s):wpAny (model prog w) A (setNext a (slotAt w t i) i ep) Q E s:=by
 have esz:t.place.size = es.size:=by have:=T.size; simpa using this
 have hil:i < es.size:=by rw [← walkL_size w a es ep]; exact lt_of_get? hi
 unfold setNext
 refine wpAny_bind (wpAny_setState_of ho rfl T.fits ?_)
 dsimp only
 unfold setsByText
 refine wpAny_bind (wpAny_bind (wpAny_askSetting (wpAny_pure ?_)))
 show wpAny _ _ (if w.params.followText "set-order" = true then _ else _) _ _ _
 by_cases hb:w.params.followText "set-order" = true
 ·rw [if_pos hb]
  simp only [bne_self_eq_false,Bool.false_eq_true,if_false]
  unfold setWalk setsByText
  refine wpAny_bind (wpAny_bind (wpAny_setState_of ho rfl T.fits ?_))
  dsimp only
  refine wpAny_bind (wpAny_bind (wpAny_askSetting (wpAny_pure ?_)))
  show wpAny _ _ (if w.params.followText "set-order" = true then _ else _) _ _ _
  rw [if_pos hb]
  refine wpAny_bind (wpAny_askSetting (wpAny_pure ?_))
  have e1:walkL w a es ep = pickOrder (w.params.setOrder a ep) es:=by unfold walkL; rw [if_pos hb]
  show wpAny _ _ (pure (((pickOrder (w.params.setOrder a ep) es)[i]?).map fun e=>(e.2,slotAt w t i))) _ _ _
  rw [← e1,hi]
  have e2:slotAt w t i = slotAt w t (i + 1):=by unfold slotAt; rw [if_pos hb,if_pos hb]
  rw [e2]
  exact wpAny_pure h
 ·rw [if_neg hb]
  have hb':w.params.followText "set-order" = false:=by simpa using hb
  have e1:walkL w a es ep = es:=by unfold walkL; rw [if_neg hb]
  rw [e1] at hi
  show wpAny _ _ (if (!t.plain && decide (es.size > 1)) = true then _ else _) _ _ _
  rw [hp]
  simp only [Bool.not_true,Bool.false_and,Bool.false_eq_true,if_false]
  refine wpAny_bind ?_
  show wpAny _ _ (if (!t.led && !es.isEmpty) = true then _ else _) _ _ _
  rw [hl,hb']
  simp only [Bool.not_false,Bool.not_true,Bool.false_and,Bool.false_eq_true,if_false]
  refine wpAny_pure ?_
  obtain ⟨j,hj⟩:∃ j,t.place[i]? = some j:=⟨_,Array.getElem?_eq_getElem (by rw [esz]; exact hil)⟩
  have hbw:below t.place (slotAt w t i) = i:=by
   by_cases hz:i = 0
   ·have e3:slotAt w t i = 0:=by unfold slotAt; rw [if_neg hb,if_pos hz]
    rw [e3]
    obtain ⟨b1,b2,b3⟩:=below_spec t.place 0 T.rise
    subst hz
    rcases Nat.eq_zero_or_pos (below t.place 0) with q | q
    ·exact q
    ·have:=b1 0 j q hj; omega
   ·obtain ⟨j',hj'⟩:∃ j',t.place[i - 1]? = some j':=⟨_,Array.getElem?_eq_getElem (by rw [esz]; omega)⟩
    have e3:slotAt w t i = j' + 1:=by unfold slotAt; rw [if_neg hb,if_neg hz,Array.getD_eq_getD_getElem?,hj']; rfl
    rw [e3]
    obtain ⟨b1,b2,b3⟩:=below_spec t.place (j' + 1) T.rise
    have hlt:=T.rise (i - 1) i j' j (by omega) hj' hj
    rcases Nat.lt_trichotomy (below t.place (j' + 1)) i with q | q | q
    ·have:=b2 (i - 1) j' (by omega) hj'; omega
    ·exact q
    ·have:=b1 i j q hj; omega
  simp only [hbw,hi,hj]
  have e2:slotAt w t (i + 1) = j + 1:=by
   unfold slotAt
   rw [if_neg hb,if_neg (by omega),Nat.add_sub_cancel,Array.getD_eq_getD_getElem?,hj]; rfl
  rw [e2] at h
  exact wpAny_pure h
theorem next_end {a:Addr} {es:Array (Int × Value)} {ep:Nat} {t:SetTable} {Q:Option (Value × Nat)→Shared→Prop} (ho:s.heap.get? a = some (setObj es ep t)) (T:TInv t (es.toList.map (·.1))) (hl:t.led = !w.params.followText "set-order") (hp:t.plain = true)
  (h:Q none s):wpAny (model prog w) A (setNext a (slotAt w t es.size) es.size ep) Q E s:=by
 have esz:t.place.size = es.size:=by have:=T.size; simpa using this
 unfold setNext
 refine wpAny_bind (wpAny_setState_of ho rfl T.fits ?_)
 dsimp only
 unfold setsByText
 refine wpAny_bind (wpAny_bind (wpAny_askSetting (wpAny_pure ?_)))
 show wpAny _ _ (if w.params.followText "set-order" = true then _ else _) _ _ _
 by_cases hb:w.params.followText "set-order" = true
 ·rw [if_pos hb]
  simp only [bne_self_eq_false,Bool.false_eq_true,if_false]
  unfold setWalk setsByText
  refine wpAny_bind (wpAny_bind (wpAny_setState_of ho rfl T.fits ?_))
  dsimp only
  refine wpAny_bind (wpAny_bind (wpAny_askSetting (wpAny_pure ?_)))
  show wpAny _ _ (if w.params.followText "set-order" = true then _ else _) _ _ _
  rw [if_pos hb]
  refine wpAny_bind (wpAny_askSetting (wpAny_pure ?_))
  show wpAny _ _ (pure (((pickOrder (w.params.setOrder a ep) es)[es.size]?).map fun e=>(e.2,slotAt w t es.size))) _ _ _
  have hz:(pickOrder (w.params.setOrder a ep) es).size = es.size:=by have:=(pickOrder_perm (w.params.setOrder a ep) es).length_eq; simpa using this
  rw [Array.getElem?_eq_none (by rw [hz]; exact Nat.le_refl _)]
  exact wpAny_pure h
 ·rw [if_neg hb]
  have hb':w.params.followText "set-order" = false:=by simpa using hb
  show wpAny _ _ (if (!t.plain && decide (es.size > 1)) = true then _ else _) _ _ _
  rw [hp]
  simp only [Bool.not_true,Bool.false_and,Bool.false_eq_true,if_false]
  refine wpAny_bind ?_
  show wpAny _ _ (if (!t.led && !es.isEmpty) = true then _ else _) _ _ _
  rw [hl,hb']
  simp only [Bool.not_false,Bool.not_true,Bool.false_and,Bool.false_eq_true,if_false]
  refine wpAny_pure ?_
  have hbw:below t.place (slotAt w t es.size) = es.size:=by
   obtain ⟨b1,b2,b3⟩:=below_spec t.place (slotAt w t es.size) T.rise
   rcases Nat.lt_or_ge (below t.place (slotAt w t es.size)) es.size with q | q
   ·exfalso
    have hpos:es.size≠0:=by omega
    obtain ⟨j',hj'⟩:∃ j',t.place[es.size - 1]? = some j':=⟨_,Array.getElem?_eq_getElem (by rw [esz]; omega)⟩
    have hh:=b2 (es.size - 1) j' (by omega) hj'
    unfold slotAt at hh
    rw [if_neg hb,if_neg hpos,Array.getD_eq_getD_getElem?,hj'] at hh
    simp at hh
    omega
   ·omega
  simp only [hbw,Array.getElem?_eq_none (Nat.le_refl es.size)]
  exact wpAny_pure h
def IsSetIter (w:World) (h:Heap) (it a:Addr) (t:SetTable) (i n ep:Nat):Prop :=
 ∃ o,h.get? it = some o∧o.cls = .type "set_iterator"∧o.data = .fields #[.int (slotAt w t i) 0,.int i 0,.ref a,.int n 0,.int ep 0]
theorem IsSetIter.typeIs {s:Shared} {it a:Addr} {t:SetTable} {i n ep:Nat} (x:IsSetIter w s.heap it a t i n ep):s.TypeIs (.ref it) "set_iterator":=let ⟨o,ho,hc,_⟩:=x; ⟨o,ho,hc⟩
theorem iter_set {a:Addr} {es:Array (Int × Value)} {ep:Nat} {t:SetTable} {Q:Value→Shared→Prop} (ho:s.heap.get? a = some (setObj es ep t)) (T:TInv t (es.toList.map (·.1))) (hp:t.plain = true)
  (hQ:Q (.ref s.heap.objs.size) { s with heap:=s.heap.push { cls:=.type "set_iterator",data:=.fields #[.int 0 0,.int 0 0,.ref a,.int es.size 0,.int ep 0] } }):wpAny (model prog w) A (pyIter (.ref a)) Q E s:=by
 have hT:s.TypeIs (.ref a) "set":=⟨_,ho,rfl⟩
 refine wpAny_pyIter_slot hT F.slot_set_iter (wpAny_call_entry F.slot_set_iter hT FI.en_siter ?_ (F.args_set_iter_1 _))
 unfold Builtin.«frozenset.__iter__»
 refine wpAny_bind (m:=Builtin.Frozenset.slot0 "__iter__" ⟨[.ref a],[]⟩) (wpAny_pure ?_)
 unfold Builtin.Frozenset.sizeOf
 refine wpAny_bind (wpAny_bind (wpAny_setEntries_of ho rfl T.fits (wpAny_pure ?_)))
 unfold setDrawn setsByText
 refine wpAny_bind (wpAny_bind (wpAny_setState_of ho rfl T.fits ?_))
 dsimp only
 refine wpAny_bind (wpAny_bind (wpAny_askSetting (wpAny_pure ?_)))
 have hdr:(!(model prog w).w.params.followText "set-order" && (!t.plain && decide (es.size > 1))) = false:=by rw [hp]; simp
 show wpAny _ _ (pure (!(model prog w).w.params.followText "set-order" && (!t.plain && decide (es.size > 1)))) _ _ _
 rw [hdr]
 refine wpAny_pure ?_
 simp only [Bool.false_eq_true,if_false]
 refine wpAny_bind (wpAny_pure ?_)
 refine wpAny_bind (wpAny_setEpoch_of ho rfl T.fits ?_)
 exact wpAny_bind (wpAny_newObj_type (wpAny_pure ⟨_,rfl,"set_iterator",_,⟨_,Heap.get?_push_size _ rfl,rfl⟩,FI.sl_next.lookup,hQ⟩))
theorem it_next {it a:Addr} {es:Array (Int × Value)} {ep i:Nat} {t:SetTable} {e:Int × Value} {Q:Option Value→Shared→Prop} (ho:s.heap.get? a = some (setObj es ep t)) (T:TInv t (es.toList.map (·.1))) (hl:t.led = !w.params.followText "set-order") (hp:t.plain = true)
  (hit:IsSetIter w s.heap it a t i es.size ep) (hi:(walkL w a es ep)[i]? = some e) (hne:a≠it)
  (hQ:∀ h',IsSetIter w h' it a t (i + 1) es.size ep→Heap.SameBut it s.heap h'→Q (some e.2) { s with heap:=h' }):wpAny (model prog w) A (pyNext (.ref it)) Q E s:=by
 obtain ⟨o,go,hc,hd⟩:=id hit
 unfold pyNext
 refine wpAny_bind (wpAny_attempt (wpAny_callSpecial?_slot (name:=Str.ofString "__next__") hit.typeIs FI.sl_next (wpAny_call_entry FI.sl_next hit.typeIs FI.en_next ?_ (FI.ar_next _))))
 unfold Builtin.«set_iterator.__next__»
 refine wpAny_bind (m:=slotArgs "__next__" 0 ⟨[.ref it],[]⟩) (wpAny_pure ?_)
 dsimp only
 refine wpAny_bind (wpAny_fieldsOf go hd ?_)
 dsimp only
 refine wpAny_bind (wpAny_setEntries_of ho rfl T.fits ?_)
 simp only [bne_self_eq_false,Bool.false_eq_true,if_false,Int.toNat_natCast]
 refine wpAny_bind (next_item ho T hl hp hi ?_)
 dsimp only
 have g1:(s.heap.update it (Obj.mapFields (·.setIfInBounds 0 (rawInt (slotAt w t (i + 1)))))).get? it = some (Obj.mapFields (·.setIfInBounds 0 (rawInt (slotAt w t (i + 1)))) o):=Heap.get?_update_self _ go (Obj.isFreed_of_fields (Obj.data_mapFields hd _))
 refine wpAny_bind (wpAny_setField go hd (by simp) ?_)
 refine wpAny_bind (wpAny_setField g1 (Obj.data_mapFields hd _) (by simp) ?_)
 refine wpAny_pure ⟨_,rfl,wpAny_pure (hQ _ ⟨_,Heap.get?_update_self _ g1 (Obj.isFreed_of_fields (Obj.data_mapFields (Obj.data_mapFields hd _) _)),(Obj.cls_mapFields ..).trans ((Obj.cls_mapFields ..).trans hc),?_⟩ ((Heap.SameBut.update ..).trans (Heap.SameBut.update ..)))⟩
 rw [Obj.data_mapFields (Obj.data_mapFields hd _)]
 simp [rawInt]
theorem it_end {it a:Addr} {es:Array (Int × Value)} {ep:Nat} {t:SetTable} {Q:Option Value→Shared→Prop} (hh:A.handled = none) (ho:s.heap.get? a = some (setObj es ep t)) (T:TInv t (es.toList.map (·.1))) (hl:t.led = !w.params.followText "set-order") (hp:t.plain = true)
  (hit:IsSetIter w s.heap it a t es.size es.size ep)
  (hQ:∀ h',Heap.ExtBut it s.heap h'→Q none { s with heap:=h' }):wpAny (model prog w) A (pyNext (.ref it)) Q E s:=by
 obtain ⟨o,go,hc,hd⟩:=id hit
 unfold pyNext
 refine wpAny_bind (wpAny_attempt (wpAny_callSpecial?_slot (name:=Str.ofString "__next__") hit.typeIs FI.sl_next (wpAny_call_entry FI.sl_next hit.typeIs FI.en_next ?_ (FI.ar_next _))))
 unfold Builtin.«set_iterator.__next__»
 refine wpAny_bind (m:=slotArgs "__next__" 0 ⟨[.ref it],[]⟩) (wpAny_pure ?_)
 dsimp only
 refine wpAny_bind (wpAny_fieldsOf go hd ?_)
 dsimp only
 refine wpAny_bind (wpAny_setEntries_of ho rfl T.fits ?_)
 simp only [bne_self_eq_false,Bool.false_eq_true,if_false,Int.toNat_natCast]
 refine wpAny_bind (next_end ho T hl hp ?_)
 dsimp only
 refine wpAny_bind (wpAny_setField go hd (by simp) ?_)
 refine wpAny_bind (m:=newExc (.type "StopIteration") []) ?_
 simp only [newExc,newTuple]
 refine wpAny_bind (wpAny_newObj_type ?_ (by size_fits))
 refine wpAny_bind (m:=firstArgMember _ _) (wpAny_of_eq (a:=Value.none) (by first | rfl | (simp only [firstArgMember]; rfl)) (wpAny_newObj_type ?_ (by size_fits)))
 simp only [raiseNew]
 refine wpAny_bind (wpAny_handled ?_)
 rw [show A.in1.handled = none from hh]
 refine wpAny_bind (wpAny_pure (wpAny_throw ?_))
 refine wpAny_bind (wpAny_isInstance (b:=true) (T:="StopIteration") ⟨_,Heap.get?_push_size _ rfl,rfl⟩ isSubtype_stop ?_)
 exact wpAny_pure (hQ _ (((Heap.SameBut.update ..).extBut.push _).push _))
theorem walks_set (hh:A.handled = none) (it a:Addr) (hne:a≠it) (es:Array (Int × Value)) (ep:Nat) (t:SetTable) (T:TInv t (es.toList.map (·.1))) (hl:t.led = !w.params.followText "set-order") (hp:t.plain = true) :
  Walks prog w A it [it,a] [it] es.size (fun i v=>∃ e,(walkL w a es ep)[i]? = some e∧v = e.2) (fun i h=>IsSetIter w h it a t i es.size ep∧h.get? a = some (setObj es ep t)) where
 sub:=fun b hb=>by simp at hb; simp [hb]
 frame:=fun _ _ _ st hk=>⟨let ⟨o,ho,r⟩:=st.1; ⟨o,hk it (by simp) o ho,r⟩,hk a (by simp) _ st.2⟩
 item:=fun i s Q E hi st hQ=>by
  obtain ⟨e,he⟩:∃ e,(walkL w a es ep)[i]? = some e:=⟨_,Array.getElem?_eq_getElem (by rw [walkL_size]; exact hi)⟩
  refine it_next st.2 T hl hp st.1 he hne fun h' hit' hs'=>?_
  exact hQ _ h' s.toks ⟨e,he,rfl⟩ ⟨hit',(hs'.2 a hne).trans st.2⟩ fun b o hb q=>(hs'.2 b (fun z=>hb (by simp [z]))).trans q
 done:=fun s Q E st hQ=>it_end hh st.2 T hl hp st.1 fun h' he'=>hQ h' s.toks fun b o hb q=>he' b o (fun z=>hb (by simp [z])) q
 self:=fun _ _ _ _ st hQ=>by
  refine wpAny_pyIter_slot st.1.typeIs FI.sl_iter (wpAny_call_entry FI.sl_iter st.1.typeIs FI.en_iter ?_ (FI.ar_iter _))
  exact wpAny_pure ⟨_,rfl,"set_iterator",_,st.1.typeIs,FI.sl_next.lookup,hQ⟩
end
end GS
namespace HM
abbrev Pt:=Int × Int
def cr (P Q R:Pt):Int:=(Q.1 - P.1) * (R.2 - P.2) - (Q.2 - P.2) * (R.1 - P.1)
def lx (P Q:Pt):Prop:=P.1 < Q.1∨(P.1 = Q.1∧P.2 < Q.2)
instance (P Q:Pt):Decidable (lx P Q):=by unfold lx; infer_instance
theorem lx_tri (P Q:Pt):lx P Q∨P = Q∨lx Q P:=by
 unfold lx
 rcases Int.lt_trichotomy P.1 Q.1 with h | h | h
 ·exact .inl (.inl h)
 ·rcases Int.lt_trichotomy P.2 Q.2 with g | g | g
  ·exact .inl (.inr ⟨h,g⟩)
  ·exact .inr (.inl (Prod.ext h g))
  ·exact .inr (.inr (.inr ⟨h.symm,g⟩))
 ·exact .inr (.inr (.inl h))
theorem lx_trans {P Q R:Pt} (h:lx P Q) (g:lx Q R):lx P R:=by unfold lx at *; omega
theorem lx_irr {P:Pt} (h:lx P P):False:=by unfold lx at h; omega
theorem lx_asym {P Q:Pt} (h:lx P Q) (g:lx Q P):False:=lx_irr (lx_trans h g)
theorem nn {a b:Int} (hb:0 < b) (h:0≤a * b):0≤a:=by
 rcases Int.lt_or_le a 0 with q | q
 ·have:=Int.mul_neg_of_neg_of_pos q hb; omega
 ·exact q
theorem pp {a b:Int} (hb:0 < b) (h:0 < a * b):0 < a:=by
 rcases Int.lt_or_le 0 a with q | q
 ·exact q
 ·have:=Int.mul_nonpos_of_nonpos_of_nonneg q (Int.le_of_lt hb); omega
def Rt (x y:Int):Prop:=0 < x∨(x = 0∧0 < y)
section
variable {a b c d e f:Int}
theorem id1:(a * f - b * e) * c = (a * d - b * c) * e + (c * f - d * e) * a:=by grind
theorem v_le (u:Rt a b) (v:Rt c d) (w:Rt e f) (h1:0≤a * d - b * c) (h2:0≤c * f - d * e):0≤a * f - b * e:=by
 have he:0≤e:=by unfold Rt at w; omega
 have ha:0≤a:=by unfold Rt at u; omega
 rcases v with hc | ⟨rfl,hd⟩
 ·refine nn hc ?_
  rw [id1 (d:=d)]
  exact Int.add_nonneg (Int.mul_nonneg h1 he) (Int.mul_nonneg h2 ha)
 ·have hz:e = 0:=by
   rcases Int.lt_or_le 0 e with q | q
   ·have:=Int.mul_pos hd q; omega
   ·omega
  subst hz
  have hf:0 < f:=by unfold Rt at w; omega
  have:=Int.mul_nonneg ha (Int.le_of_lt hf)
  omega
theorem v_lt1 (u:Rt a b) (v:Rt c d) (w:Rt e f) (h1:0≤a * d - b * c) (h2:0 < c * f - d * e):0 < a * f - b * e:=by
 have he:0≤e:=by unfold Rt at w; omega
 have ha:0≤a:=by unfold Rt at u; omega
 rcases v with hc | ⟨rfl,hd⟩
 ·have ha':0 < a:=by
   rcases u with q | ⟨rfl,hb⟩
   ·exact q
   ·have:=Int.mul_pos hb hc; omega
  refine pp hc ?_
  rw [id1 (d:=d)]
  have:=Int.mul_pos h2 ha'
  have:=Int.mul_nonneg h1 he
  omega
 ·have:=Int.mul_nonneg (Int.le_of_lt hd) he; omega
end
theorem lx_rt {P Q:Pt} (h:lx P Q):Rt (Q.1 - P.1) (Q.2 - P.2):=by unfold lx at h; unfold Rt; omega
theorem revInd {α:Type} {P:List α→Prop} (nil:P []) (snoc:∀ l a,P l→P (l++[a])) (l:List α):P l:=by
 have key:∀ r:List α,P r.reverse:=fun r=>by
  induction r with
  | nil=>exact nil
  | cons a r ih=>rw [List.reverse_cons]; exact snoc _ _ ih
 have:=key l.reverse
 rwa [List.reverse_reverse] at this
def popTo (p:Pt):List Pt→List Pt
 | b::a::r=>if 0 < cr a b p then b::a::r else popTo p (a::r)
 | st=>st
def chainR (ps:List Pt):List Pt:=ps.foldl (fun st p=>p::popTo p st) []
theorem chainR_snoc (ps:List Pt) (p:Pt):chainR (ps++[p]) = p::popTo p (chainR ps):=by unfold chainR; rw [List.foldl_append]; rfl
structure CI (st l:List Pt):Prop where
 sub:∀ p∈st,p∈l
 up:st.Pairwise fun b a=>lx a b
 edge:∀ pre b a r,st = pre++b::a::r→∀ q∈l,0≤cr a b q
 turn:∀ pre c b a r,st = pre++c::b::a::r→0 < cr a b c
 top:∀ t r,st = t::r→∀ q∈l,q = t∨lx q t
 bot:∀ pre t,st = pre++[t]→∀ q∈l,q = t∨lx t q
theorem CI.nil:CI [] []:=⟨fun _ h=>h,.nil,fun _ _ _ _ _ q h=>by simp at h,fun pre _ _ _ _ h=>by simp at h,fun _ _ h=>by simp at h,fun _ _ h=>by simp at h⟩
theorem cr_self1 (P Q:Pt):cr P Q P = 0:=by unfold cr; grind
theorem cr_self2 (P Q:Pt):cr P Q Q = 0:=by unfold cr; grind
theorem cr_flip (P Q R:Pt):cr P Q R = - cr Q P R:=by unfold cr; grind
theorem left_left {a b c p:Pt} (h1:lx a b) (h2:lx b c) (h3:lx c p) (t1:0 < cr a b c) (t2:0 < cr b c p):0 < cr a b p:=by
 have e1:cr a b c = (b.1 - a.1) * (c.2 - b.2) - (b.2 - a.2) * (c.1 - b.1):=by unfold cr; grind
 have e2:cr b c p = (c.1 - b.1) * (p.2 - c.2) - (c.2 - b.2) * (p.1 - c.1):=by unfold cr; grind
 rw [e1] at t1; rw [e2] at t2
 have:=v_lt1 (lx_rt h1) (lx_rt h2) (lx_rt h3) (Int.le_of_lt t1) t2
 have e3:cr a b p = ((b.1 - a.1) * (c.2 - b.2) - (b.2 - a.2) * (c.1 - b.1)) + ((b.1 - a.1) * (p.2 - c.2) - (b.2 - a.2) * (p.1 - c.1)):=by unfold cr; grind
 omega
theorem left_back {a b p q:Pt} (h1:lx a b) (h2:lx b p) (h3:lx q b) (t1:0 < cr a b p) (t2:0≤cr a b q):0≤cr b p q:=by
 have e1:cr a b q = (b.1 - q.1) * (b.2 - a.2) - (b.2 - q.2) * (b.1 - a.1):=by unfold cr; grind
 have e2:cr a b p = (b.1 - a.1) * (p.2 - b.2) - (b.2 - a.2) * (p.1 - b.1):=by unfold cr; grind
 have e3:cr b p q = (b.1 - q.1) * (p.2 - b.2) - (b.2 - q.2) * (p.1 - b.1):=by unfold cr; grind
 rw [e3]; rw [e1] at t2; rw [e2] at t1
 exact Int.le_of_lt (v_lt1 (lx_rt h3) (lx_rt h1) (lx_rt h2) t2 t1)
theorem left_drop {a b p q:Pt} (h1:lx a b) (h2:lx a p) (h3:lx a q) (t1:cr a b p≤0) (t2:0≤cr a b q):0≤cr a p q:=by
 have e1:cr a b p = -((p.1 - a.1) * (b.2 - a.2) - (p.2 - a.2) * (b.1 - a.1)):=by unfold cr; grind
 exact v_le (lx_rt h2) (lx_rt h1) (lx_rt h3) (by omega) t2
theorem pop_ok {l:List Pt} {p:Pt} (hp:∀ q∈l,lx q p):∀ {st:List Pt},CI st l→st≠[] →
  ∃ t r pre,popTo p st = t::r∧st = pre++t::r∧(∀ q∈l,lx t q→0≤cr t p q)∧(∀ a r',r = a::r'→0 < cr a t p):=by
 have key:∀ (n:Nat) (st pre0:List Pt),st.length = n→CI (pre0++st) l→st≠[]→(∀ t r,st = t::r→∀ q∈l,lx t q→0≤cr t p q) →
   ∃ t r pre,popTo p st = t::r∧st = pre++t::r∧(∀ q∈l,lx t q→0≤cr t p q)∧(∀ a r',r = a::r'→0 < cr a t p):=by
  intro n
  induction n with
  | zero=>intro st _ hn _ hne; exact absurd (List.length_eq_zero_iff.mp hn) hne
  | succ n ih =>
   intro st pre0 hn C hne ht
   match st,hn,hne with
   | [t],_,_=>exact ⟨t,[],[],rfl,rfl,ht t [] rfl,fun _ _ h=>by simp at h⟩
   | b::a::r,hn,_ =>
    by_cases hc:0 < cr a b p
    ·refine ⟨b,a::r,[],by unfold popTo; rw [if_pos hc],rfl,ht b _ rfl,fun a' r' h=>?_⟩
     cases h; exact hc
    ·have hab:lx a b:=(List.pairwise_cons.mp (List.pairwise_append.mp C.up).2.1).1 a (.head _)
     have hal:a∈l:=C.sub a (by simp)
     have hap:=hp a hal
     have e:pre0++b::a::r = (pre0++[b])++a::r:=by simp
     obtain ⟨t,r1,pre,h1,h2,h3,h4⟩:=ih (a::r) (pre0++[b]) (by simpa using hn) (by rw [← e]; exact C) (by simp) (fun t r' h q hq htq=>by
      cases h
      exact left_drop hab hap htq (Int.not_lt.mp hc) (C.edge pre0 b a r rfl q hq))
     exact ⟨t,r1,b::pre,by unfold popTo; rw [if_neg hc]; exact h1,by rw [h2]; rfl,h3,h4⟩
 intro st C hne
 refine key st.length st [] rfl C hne fun t r h q hq htq=>?_
 rcases C.top t r h q hq with e | e
 ·subst e; exact absurd htq (fun z=>lx_irr z)
 ·exact absurd htq (fun z=>lx_asym z e)
theorem CI.snoc {st l:List Pt} {p:Pt} (C:CI st l) (hp:∀ q∈l,lx q p) (hne:l = []↔st = []):CI (p::popTo p st) (l++[p]):=by
 by_cases hst:st = []
 ·have hl:=hne.mpr hst
  subst hst; subst hl
  refine ⟨fun q h=>?_,List.pairwise_singleton _ _,fun pre b a r h=>?_,fun pre c b a r h=>?_,fun t r h q hq=>?_,fun pre t h q hq=>?_⟩
  ·simpa [popTo] using h
  ·rcases pre with _ | ⟨_,pre⟩ <;> simp [popTo] at h
  ·rcases pre with _ | ⟨_,pre⟩ <;> simp [popTo] at h
  ·simp [popTo] at h; simp at hq; exact .inl (by rw [hq,h.1])
  ·have:pre = []∧p = t:=by
    rcases pre with _ | ⟨x,pre⟩
    ·simpa [popTo] using h
    ·simp [popTo] at h
   simp at hq; exact .inl (by rw [hq,this.2])
 ·obtain ⟨t,r,pre,e1,e2,h3,h4⟩:=pop_ok hp C hst
  rw [e1]
  have htl:t∈l:=C.sub t (by rw [e2]; simp)
  have htp:=hp t htl
  have hup:(t::r).Pairwise fun b a=>lx a b:=by
   have:=C.up; rw [e2] at this; exact (List.pairwise_append.mp this).2.1
  have hsub:∀ q∈t::r,q∈l:=fun q hq=>C.sub q (by rw [e2]; exact List.mem_append_right _ hq)
  have newedge:∀ q∈l,0≤cr t p q:=fun q hq=>by
   rcases lx_tri q t with g | g | g
   ·cases r with
    | nil =>
     rcases C.bot pre t (by rw [e2]) q hq with z | z
     ·subst z; exact absurd g (fun z=>lx_irr z)
     ·exact absurd g (fun y=>lx_asym z y)
    | cons a r' =>
     have hat:lx a t:=(List.pairwise_cons.mp hup).1 a (.head _)
     exact left_back hat htp g (h4 a r' rfl) (C.edge pre t a r' e2 q hq)
   ·subst g; rw [cr_self1]; exact Int.le_refl _
   ·exact h3 q hq g
  refine ⟨fun q h=>?_,?_,fun pre' b a r' h q hq=>?_,fun pre' c b a r' h=>?_,fun t' r' h q hq=>?_,fun pre' t' h q hq=>?_⟩
  ·rcases List.mem_cons.mp h with rfl | h
   ·simp
   ·exact List.mem_append_left _ (hsub q h)
  ·refine List.pairwise_cons.mpr ⟨fun q hq=>hp q (hsub q hq),hup⟩
  ·-- edges
   rcases pre' with _ | ⟨x,pre'⟩
   ·simp only [List.nil_append,List.cons.injEq] at h
    obtain ⟨rfl,rfl,rfl⟩:=h
    rcases List.mem_append.mp hq with hq | hq
    ·exact newedge q hq
    ·simp at hq; subst hq; rw [cr_self2]; exact Int.le_refl _
   ·simp only [List.cons_append,List.cons.injEq] at h
    obtain ⟨rfl,h⟩:=h
    rcases List.mem_append.mp hq with hq | hq
    ·exact C.edge (pre++pre') b a r' (by rw [e2,h]; simp) q hq
    ·simp at hq; subst hq
     have conv:∀ (pre':List Pt) (b a:Pt) (r':List Pt),t::r = pre'++b::a::r'→0 < cr a b q:=by
      intro pre'
      induction pre' using revInd with
      | nil =>
       intro b a r' h
       simp only [List.nil_append,List.cons.injEq] at h
       obtain ⟨rfl,rfl⟩:=h
       exact h4 a r' rfl
      | snoc pre' c ih =>
       intro b a r' h
       have h':t::r = pre'++c::b::(a::r'):=by rw [h]; simp
       have hc:=ih c b (a::r') h'
       have up2:(c::b::a::r').Pairwise fun b a=>lx a b:=by
        have:=hup; rw [h'] at this; exact (List.pairwise_append.mp this).2.1
       have hbc:lx b c:=(List.pairwise_cons.mp up2).1 b (.head _)
       have hab:lx a b:=(List.pairwise_cons.mp (List.pairwise_cons.mp up2).2).1 a (.head _)
       have hcl:c∈l:=hsub c (by rw [h']; simp)
       have tn:0 < cr a b c:=C.turn (pre++pre') c b a r' (by rw [e2,h']; simp)
       exact left_left hab hbc (hp c hcl) tn hc
     exact Int.le_of_lt (conv pre' b a r' h)
  ·rcases pre' with _ | ⟨x,pre'⟩
   ·simp only [List.nil_append,List.cons.injEq] at h
    obtain ⟨rfl,rfl,h⟩:=h
    exact h4 a r' h
   ·simp only [List.cons_append,List.cons.injEq] at h
    obtain ⟨rfl,h⟩:=h
    exact C.turn (pre++pre') c b a r' (by rw [e2,h]; simp)
  ·cases h
   rcases List.mem_append.mp hq with hq | hq
   ·exact .inr (hp q hq)
   ·simp at hq; exact .inl hq
  ·rcases pre' with _ | ⟨x,pre'⟩
   ·simp at h
   ·simp only [List.cons_append,List.cons.injEq] at h
    obtain ⟨rfl,h⟩:=h
    have hb:st = (pre++pre')++[t']:=by rw [e2,h]; simp
    have ht':t'∈l:=C.sub t' (by rw [hb]; simp)
    rcases List.mem_append.mp hq with hq | hq
    ·exact C.bot _ t' hb q hq
    ·simp at hq; subst hq; exact .inr (hp t' ht')
theorem chain_ok:∀ (l:List Pt),l.Pairwise lx→CI (chainR l) l∧(l = []↔chainR l = []):=by
 intro l
 induction l using revInd with
 | nil=>exact fun _=>⟨CI.nil,by simp [chainR]⟩
 | snoc l p ih =>
  intro h
  obtain ⟨h1,_,h3⟩:=List.pairwise_append.mp h
  obtain ⟨C,hne⟩:=ih h1
  rw [chainR_snoc]
  exact ⟨C.snoc (fun q hq=>h3 q hq p (by simp)) hne,by simp⟩
end HM
namespace HM
def neg (p:Pt):Pt:=(-p.1,-p.2)
theorem neg_neg (p:Pt):neg (neg p) = p:=by unfold neg; simp
theorem cr_neg (a b c:Pt):cr (neg a) (neg b) (neg c) = cr a b c:=by unfold cr neg; grind
theorem lx_neg {a b:Pt}:lx (neg a) (neg b)↔lx b a:=by unfold lx neg; constructor <;> intro h <;> (simp only at h ⊢; omega)
theorem pop_neg (p:Pt):∀ st:List Pt,popTo (neg p) (st.map neg) = (popTo p st).map neg
 | []=>rfl
 | [_]=>rfl
 | b::a::r=>by
  show popTo (neg p) (neg b::neg a::r.map neg) = _
  unfold popTo
  rw [cr_neg]
  split
  ·rfl
  ·exact pop_neg p (a::r)
theorem chain_neg (l:List Pt):chainR (l.map neg) = (chainR l).map neg:=by
 induction l using revInd with
 | nil=>rfl
 | snoc l p ih=>rw [List.map_append,List.map_singleton,chainR_snoc,chainR_snoc,ih,pop_neg,List.map_cons]
structure Chn (lt:Pt→Pt→Prop) (L l:List Pt):Prop where
 sub:∀ p∈L,p∈l
 up:L.Pairwise lt
 edge:∀ (k:Nat) (a b:Pt),L[k]? = some a→L[k + 1]? = some b→∀ q∈l,0≤cr a b q
 turn:∀ (k:Nat) (a b c:Pt),L[k]? = some a→L[k + 1]? = some b→L[k + 2]? = some c→0 < cr a b c
 fst:∀ f,L[0]? = some f→∀ q∈l,q = f∨lt f q
 lst:∀ m,L[L.length - 1]? = some m→∀ q∈l,q = m∨lt q m
 ne:l≠[]→L≠[]
theorem split2 {L:List Pt} {k:Nat} {a b:Pt} (h1:L[k]? = some a) (h2:L[k + 1]? = some b):∃ pre r,L.reverse = pre++b::a::r:=by
 have e:L = L.take k++a::b::L.drop (k + 2):=by
  obtain ⟨hk,rfl⟩:=List.getElem?_eq_some_iff.mp h1
  obtain ⟨hk2,rfl⟩:=List.getElem?_eq_some_iff.mp h2
  rw [← List.drop_eq_getElem_cons,← List.drop_eq_getElem_cons,List.take_append_drop]
 refine ⟨(L.drop (k + 2)).reverse,(L.take k).reverse,?_⟩
 conv=>lhs; rw [e]
 simp
theorem split3 {L:List Pt} {k:Nat} {a b c:Pt} (h1:L[k]? = some a) (h2:L[k + 1]? = some b) (h3:L[k + 2]? = some c):∃ pre r,L.reverse = pre++c::b::a::r:=by
 have e:L = L.take k++a::b::c::L.drop (k + 3):=by
  obtain ⟨hk,rfl⟩:=List.getElem?_eq_some_iff.mp h1
  obtain ⟨hk2,rfl⟩:=List.getElem?_eq_some_iff.mp h2
  obtain ⟨hk3,rfl⟩:=List.getElem?_eq_some_iff.mp h3
  rw [← List.drop_eq_getElem_cons,← List.drop_eq_getElem_cons,← List.drop_eq_getElem_cons,List.take_append_drop]
 refine ⟨(L.drop (k + 3)).reverse,(L.take k).reverse,?_⟩
 conv=>lhs; rw [e]
 simp
theorem below_ok {l:List Pt} (h:l.Pairwise lx):Chn lx (chainR l).reverse l:=by
 obtain ⟨C,hne⟩:=chain_ok l h
 refine ⟨fun p hp=>C.sub p (List.mem_reverse.mp hp),List.pairwise_reverse.mpr C.up,fun k a b h1 h2 q hq=>?_,fun k a b c h1 h2 h3=>?_,fun f hf q hq=>?_,fun m hm q hq=>?_,fun z w=>z (hne.mpr (by simpa using w))⟩
 ·obtain ⟨pre,r,e⟩:=split2 h1 h2
  rw [List.reverse_reverse] at e
  exact C.edge pre b a r e q hq
 ·obtain ⟨pre,r,e⟩:=split3 h1 h2 h3
  rw [List.reverse_reverse] at e
  exact C.turn pre c b a r e
 ·cases hr:(chainR l).reverse with
  | nil=>rw [hr] at hf; simp at hf
  | cons x r =>
   rw [hr] at hf
   have:x = f:=by simpa using hf
   subst this
   exact C.bot r.reverse x (by rw [← List.reverse_reverse (chainR l),hr]; simp) q hq
 ·cases hc:chainR l with
  | nil=>rw [hc] at hm; simp at hm
  | cons t r =>
   rw [hc] at hm
   have:t = m:=by simpa using hm
   subst this
   exact C.top t r hc q hq
theorem above_ok {l:List Pt} (h:l.Pairwise lx):Chn (fun a b=>lx b a) (chainR l.reverse).reverse l:=by
 have hp:(l.reverse.map neg).Pairwise lx:=List.pairwise_map.mpr ((List.pairwise_reverse.mpr h).imp fun g=>lx_neg.mpr g)
 have B:=below_ok hp
 rw [chain_neg,← List.map_reverse] at B
 have get:∀ {k:Nat} {a:Pt},(chainR l.reverse).reverse[k]? = some a→((chainR l.reverse).reverse.map neg)[k]? = some (neg a):=fun {k a} e=>by rw [List.getElem?_map,e]; rfl
 have mem:∀ {q:Pt},q∈l→neg q∈l.reverse.map neg:=fun {q} hq=>List.mem_map.mpr ⟨q,List.mem_reverse.mpr hq,rfl⟩
 have inj:∀ {a b:Pt},neg a = neg b→a = b:=fun {a b} e=>by rw [← neg_neg a,e,neg_neg]
 refine ⟨fun p hp=>?_,(List.pairwise_map.mp B.up).imp fun g=>lx_neg.mp g,fun k a b h1 h2 q hq=>?_,fun k a b c h1 h2 h3=>?_,fun f hf q hq=>?_,fun m hm q hq=>?_,fun z w=>B.ne (by simpa using z) (by rw [w]; rfl)⟩
 ·obtain ⟨x,hx,e⟩:=List.mem_map.mp (B.sub (neg p) (List.mem_map.mpr ⟨p,hp,rfl⟩))
  rw [← inj e]; exact List.mem_reverse.mp hx
 ·rw [← cr_neg]; exact B.edge k _ _ (get h1) (get h2) _ (mem hq)
 ·rw [← cr_neg]; exact B.turn k _ _ _ (get h1) (get h2) (get h3)
 ·rcases B.fst (neg f) (get hf) (neg q) (mem hq) with e | e
  ·exact .inl (inj e)
  ·exact .inr (lx_neg.mp e)
 ·rcases B.lst (neg m) (by rw [List.length_map]; exact get hm) (neg q) (mem hq) with e | e
  ·exact .inl (inj e)
  ·exact .inr (lx_neg.mp e)
def Col (l:List Pt):Prop:=∀ x∈l,∀ y∈l,∀ z∈l,cr x y z = 0
theorem par {a1 a2 y1 y2 z1 z2:Int} (ha:a1≠0∨a2≠0) (h1:a1 * y2 - a2 * y1 = 0) (h2:a1 * z2 - a2 * z1 = 0):y1 * z2 - y2 * z1 = 0:=by
 rcases ha with h | h
 ·have:a1 * (y1 * z2 - y2 * z1) = 0:=by
   have e:a1 * (y1 * z2 - y2 * z1) = y1 * (a1 * z2 - a2 * z1) - z1 * (a1 * y2 - a2 * y1):=by grind
   rw [e,h1,h2]; simp
  exact (Int.mul_eq_zero.mp this).resolve_left h
 ·have:a2 * (y1 * z2 - y2 * z1) = 0:=by
   have e:a2 * (y1 * z2 - y2 * z1) = y2 * (a1 * z2 - a2 * z1) - z2 * (a1 * y2 - a2 * y1):=by grind
   rw [e,h1,h2]; simp
  exact (Int.mul_eq_zero.mp this).resolve_left h
theorem col_of_line {l:List Pt} {a b:Pt} (hab:a≠b) (h:∀ q∈l,cr a b q = 0):Col l:=by
 intro x hx y hy z hz
 have ha:b.1 - a.1≠0∨b.2 - a.2≠0:=by
  by_cases e1:b.1 - a.1 = 0
  ·by_cases e2:b.2 - a.2 = 0
   ·exact absurd (Prod.ext (by omega) (by omega)) hab
   ·exact .inr e2
  ·exact .inl e1
 have g1:=par ha (h x hx) (h y hy)
 have g2:=par ha (h y hy) (h z hz)
 have g3:=par ha (h x hx) (h z hz)
 have e:cr x y z = ((y.1 - a.1) * (z.2 - a.2) - (y.2 - a.2) * (z.1 - a.1)) - ((x.1 - a.1) * (z.2 - a.2) - (x.2 - a.2) * (z.1 - a.1)) + ((x.1 - a.1) * (y.2 - a.2) - (x.2 - a.2) * (y.1 - a.1)):=by unfold cr; grind
 rw [e,g1,g2,g3]; rfl
theorem spike {l:List Pt} {a m c:Pt} (h:(lx a m∧lx c m)∨(lx m a∧lx m c)) (e1:∀ q∈l,0≤cr a m q) (e2:∀ q∈l,0≤cr m c q) (hc:c∈l) (hz:¬ 0 < cr a m c):Col l:=by
 have h0:cr a m c = 0:=by have:=e1 c hc; omega
 have ham:a≠m:=by rintro rfl; rcases h with ⟨h,_⟩ | ⟨h,_⟩ <;> exact lx_irr h
 refine col_of_line ham fun q hq=>?_
 have g1:=e1 q hq
 have g2:=e2 q hq
 have k1:cr a m q * (m.1 - c.1) = - cr m c q * (m.1 - a.1) + cr a m c * (m.1 - q.1):=by unfold cr; grind
 have k2:cr a m q * (m.2 - c.2) = - cr m c q * (m.2 - a.2) + cr a m c * (m.2 - q.2):=by unfold cr; grind
 have k0:(m.1 - a.1) * (m.2 - c.2) - (m.2 - a.2) * (m.1 - c.1) = - cr a m c:=by unfold cr; grind
 rw [h0] at k0 k1 k2
 have zero:∀ {u v s t:Int},0≤u→0≤v→0 < s→0 < t→u * s = - v * t + 0 * 0→u = 0:=fun {u v s t} hu hv hs ht e=>by
  have h1:0≤u * s:=Int.mul_nonneg hu (Int.le_of_lt hs)
  have h2:0≤v * t:=Int.mul_nonneg hv (Int.le_of_lt ht)
  have h3:-v * t = -(v * t):=by grind
  have:u * s = 0:=by omega
  exact (Int.mul_eq_zero.mp this).resolve_right (by omega)
 rcases h with ⟨ha,hcm⟩ | ⟨ha,hcm⟩
 ·have ra:=lx_rt ha
  have rc:=lx_rt hcm
  rcases ra with p1 | ⟨z1,p1⟩
  ·have p2:0 < m.1 - c.1:=by
    rcases rc with p | ⟨z,p⟩
    ·exact p
    ·rw [z] at k0; have:=Int.mul_pos p1 p; omega
   exact zero g1 g2 p2 p1 (by rw [k1]; simp)
  ·have p2:0 < m.2 - c.2:=by
    rcases rc with p | ⟨z,p⟩
    ·rw [z1] at k0; have:=Int.mul_pos p1 p; omega
    ·exact p
   exact zero g1 g2 p2 p1 (by rw [k2]; simp)
 ·have ra:=lx_rt ha
  have rc:=lx_rt hcm
  rcases ra with p1 | ⟨z1,p1⟩
  ·have p2:0 < c.1 - m.1:=by
    rcases rc with p | ⟨z,p⟩
    ·exact p
    ·have:=Int.mul_pos p1 p
     have e:(m.1 - a.1) * (m.2 - c.2) = (a.1 - m.1) * (c.2 - m.2):=by grind
     have e2:(m.2 - a.2) * (m.1 - c.1) = (m.2 - a.2) * 0:=by congr 1; omega
     rw [e,e2] at k0; omega
   have k1':cr a m q * (c.1 - m.1) = - cr m c q * (a.1 - m.1):=by grind
   exact zero g1 g2 p2 p1 (by rw [k1']; simp)
  ·have p2:0 < c.2 - m.2:=by
    rcases rc with p | ⟨z,p⟩
    ·have:=Int.mul_pos p1 p
     have e:(m.2 - a.2) * (m.1 - c.1) = (a.2 - m.2) * (c.1 - m.1):=by grind
     have e2:(m.1 - a.1) * (m.2 - c.2) = 0 * (m.2 - c.2):=by congr 1; omega
     rw [e,e2] at k0; omega
    ·exact p
   have k2':cr a m q * (c.2 - m.2) = - cr m c q * (a.2 - m.2):=by grind
   exact zero g1 g2 p2 p1 (by rw [k2']; simp)
end HM
namespace HM
def hullL (l:List Pt):List Pt:=(chainR l).reverse.dropLast++(chainR l.reverse).reverse.dropLast
structure Poly (cs l:List Pt):Prop where
 three:3≤cs.length
 sub:∀ p∈cs,p∈l
 edge:∀ (k:Nat) (a b:Pt),cs[k % cs.length]? = some a→cs[(k + 1) % cs.length]? = some b→∀ q∈l,0≤cr a b q
 turn:∀ (k:Nat) (a b c:Pt),cs[k % cs.length]? = some a→cs[(k + 1) % cs.length]? = some b→cs[(k + 2) % cs.length]? = some c→0 < cr a b c
 fst:∀ f,cs[0]? = some f→∀ q∈l,q = f∨lx f q
 uniq:∀ k:Nat,0 < k→k < cs.length→cs[k]?≠cs[0]?
section
variable {B A l:List Pt}
theorem join_get (hB:B≠[]) (hA:A≠[]) (ends:B[0]? = A[A.length - 1]?∧A[0]? = B[B.length - 1]?) (hd:1≤B.length - 1) (hu:1≤A.length - 1) :
  (∀ k,k≤B.length - 1→(B.dropLast++A.dropLast)[k % (B.dropLast++A.dropLast).length]? = B[k]?) ∧
  (∀ j,j≤A.length - 1→(B.dropLast++A.dropLast)[(B.length - 1 + j) % (B.dropLast++A.dropLast).length]? = A[j]?):=by
 have hn:(B.dropLast++A.dropLast).length = (B.length - 1) + (A.length - 1):=by simp
 rw [hn]
 have g1:∀ k,k < B.length - 1→(B.dropLast++A.dropLast)[k]? = B[k]?:=fun k hk=>by
  rw [List.getElem?_append_left (by simpa using hk),List.getElem?_dropLast,if_pos hk]
 have g2:∀ j,j < A.length - 1→(B.dropLast++A.dropLast)[B.length - 1 + j]? = A[j]?:=fun j hj=>by
  rw [List.getElem?_append_right (by simp),List.length_dropLast,Nat.add_sub_cancel_left,List.getElem?_dropLast,if_pos hj]
 constructor
 ·intro k hk
  by_cases h:k < B.length - 1
  ·rw [Nat.mod_eq_of_lt (by omega)]; exact g1 k h
  ·have:k = B.length - 1:=by omega
   subst this
   rw [Nat.mod_eq_of_lt (by omega)]
   have:=g2 0 (by omega)
   rw [Nat.add_zero] at this
   rw [this]; exact ends.2
 ·intro j hj
  by_cases h:j < A.length - 1
  ·rw [Nat.mod_eq_of_lt (by omega)]; exact g2 j h
  ·have:j = A.length - 1:=by omega
   subst this
   rw [Nat.mod_self,g1 0 (by omega)]; exact ends.1
end
theorem get_mem {α:Type} {L:List α} {k:Nat} {a:α} (h:L[k]? = some a):a∈L:=List.mem_of_getElem? h
theorem pw_get {α:Type} {R:α→α→Prop} {L:List α} (h:L.Pairwise R) {i j:Nat} {a b:α} (hij:i < j) (ha:L[i]? = some a) (hb:L[j]? = some b):R a b:=by
 obtain ⟨hi,rfl⟩:=List.getElem?_eq_some_iff.mp ha
 obtain ⟨hj,rfl⟩:=List.getElem?_eq_some_iff.mp hb
 exact List.pairwise_iff_getElem.mp h i j hi hj hij
theorem col_short {L l:List Pt} {lt:Pt→Pt→Prop} (C:Chn lt L l) (hc:Col l):L.length≤2:=by
 rcases Nat.lt_or_ge 2 L.length with h | h
 ·have g:∀ k:Nat,k < L.length→L[k]? = some (L.getD k (0,0)):=fun k hk=>by simp [List.getD,List.getElem?_eq_getElem hk]
  have t:=C.turn 0 _ _ _ (g 0 (by omega)) (g 1 (by omega)) (g 2 (by omega))
  have z:=hc _ (C.sub _ (get_mem (g 0 (by omega)))) _ (C.sub _ (get_mem (g 1 (by omega)))) _ (C.sub _ (get_mem (g 2 (by omega))))
  omega
 ·exact h
theorem hull_flat {l:List Pt} (h:l.Pairwise lx) (hc:Col l):(hullL l).length < 3:=by
 have h1:=col_short (below_ok h) hc
 have h2:=col_short (above_ok h) hc
 unfold hullL
 rw [List.length_append,List.length_dropLast,List.length_dropLast]
 omega
theorem hull_poly {l:List Pt} (h:l.Pairwise lx) (hc:¬ Col l):Poly (hullL l) l:=by
 have CB:=below_ok h
 have CA:=above_ok h
 unfold hullL
 generalize (chainR l).reverse = B at CB ⊢
 generalize (chainR l.reverse).reverse = A at CA ⊢
 have hl:l≠[]:=by rintro rfl; exact hc fun x hx=>by simp at hx
 have hB:=CB.ne hl
 have hA:=CA.ne hl
 have lB:0 < B.length:=List.length_pos_iff.mpr hB
 have lA:0 < A.length:=List.length_pos_iff.mpr hA
 obtain ⟨f,hf⟩:∃ f,B[0]? = some f:=⟨_,List.getElem?_eq_getElem lB⟩
 obtain ⟨m,hm⟩:∃ m,B[B.length - 1]? = some m:=⟨_,List.getElem?_eq_getElem (by omega)⟩
 obtain ⟨m',hm'⟩:∃ m,A[0]? = some m:=⟨_,List.getElem?_eq_getElem lA⟩
 obtain ⟨f',hf'⟩:∃ m,A[A.length - 1]? = some m:=⟨_,List.getElem?_eq_getElem (by omega)⟩
 have ef:f = f':=by
  have h1:=CB.fst f hf f' (CA.sub _ (get_mem hf'))
  have h2:=CA.lst f' hf' f (CB.sub _ (get_mem hf))
  rcases h1 with e | e
  ·exact e.symm
  ·rcases h2 with e2 | e2
   ·exact e2
   ·exact (lx_asym e e2).elim
 have em:m = m':=by
  have h1:=CB.lst m hm m' (CA.sub _ (get_mem hm'))
  have h2:=CA.fst m' hm' m (CB.sub _ (get_mem hm))
  rcases h1 with e | e
  ·exact e.symm
  ·rcases h2 with e2 | e2
   ·exact e2
   ·exact (lx_asym e e2).elim
 subst ef; subst em
 have hfm:f≠m:=by
  rintro rfl
  refine hc fun x hx y hy z hz=>?_
  have same:∀ q∈l,q = f:=fun q hq=>by
   rcases CB.fst f hf q hq with e | e
   ·exact e
   ·rcases CB.lst f hm q hq with e2 | e2
    ·exact e2
    ·exact (lx_asym e e2).elim
  rw [same x hx,same y hy,same z hz]; exact cr_self1 _ _
 have hd:1≤B.length - 1:=by
  rcases Nat.lt_or_ge (B.length - 1) 1 with q | q
  ·rw [show B.length - 1 = 0 by omega,hf] at hm; exact absurd (Option.some.inj hm) hfm
  ·exact q
 have hu:1≤A.length - 1:=by
  rcases Nat.lt_or_ge (A.length - 1) 1 with q | q
  ·rw [show A.length - 1 = 0 by omega,hm'] at hf'; exact absurd (Option.some.inj hf').symm hfm
  ·exact q
 obtain ⟨gB,gA⟩:=join_get hB hA ⟨by rw [hf,hf'],by rw [hm,hm']⟩ hd hu
 have hn:(B.dropLast++A.dropLast).length = (B.length - 1) + (A.length - 1):=by simp
 have three:3≤(B.dropLast++A.dropLast).length:=by
  rcases Nat.lt_or_ge (B.dropLast++A.dropLast).length 3 with q | q
  ·exfalso
   refine hc (col_of_line hfm fun q hq=>?_)
   have h1:=CB.edge 0 f m hf (by rw [show 0 + 1 = B.length - 1 by omega]; exact hm) q hq
   have h2:=CA.edge 0 m f hm' (by rw [show 0 + 1 = A.length - 1 by omega]; exact hf') q hq
   rw [cr_flip] at h2; omega
  ·exact q
 have red:∀ (k t:Nat),(k + t) % (B.dropLast++A.dropLast).length = (k % (B.dropLast++A.dropLast).length + t) % (B.dropLast++A.dropLast).length:=fun k t=>by rw [Nat.mod_add_mod]
 refine ⟨three,fun p hp=>?_,fun k a b h1 h2 q hq=>?_,fun k a b c h1 h2 h3=>?_,fun f0 hf0 q hq=>?_,fun k hk hkn he=>?_⟩
 ·rcases List.mem_append.mp hp with hp | hp
  ·exact CB.sub p ((List.dropLast_subset _ hp))
  ·exact CA.sub p ((List.dropLast_subset _ hp))
 ·rw [red k 1] at h2
  have hk:k % (B.dropLast++A.dropLast).length < (B.length - 1) + (A.length - 1):=by rw [← hn]; exact Nat.mod_lt _ (by omega)
  generalize k % (B.dropLast++A.dropLast).length = k' at h1 h2 hk
  by_cases c1:k' < B.length - 1
  ·have e1:=gB k' (by omega); have e2:=gB (k' + 1) (by omega)
   rw [Nat.mod_eq_of_lt (by rw [hn]; exact hk)] at e1
   rw [e1] at h1; rw [e2] at h2
   exact CB.edge k' a b h1 h2 q hq
  ·obtain ⟨j,rfl⟩:∃ j,k' = B.length - 1 + j:=⟨k' - (B.length - 1),by omega⟩
   have e1:=gA j (by omega); have e2:=gA (j + 1) (by omega)
   rw [Nat.mod_eq_of_lt (by rw [hn]; exact hk)] at e1
   rw [e1] at h1; rw [show B.length - 1 + j + 1 = B.length - 1 + (j + 1) by omega,e2] at h2
   exact CA.edge j a b h1 h2 q hq
 ·rw [red k 1] at h2; rw [red k 2] at h3
  have hk:k % (B.dropLast++A.dropLast).length < (B.length - 1) + (A.length - 1):=by rw [← hn]; exact Nat.mod_lt _ (by omega)
  generalize k % (B.dropLast++A.dropLast).length = k' at h1 h2 h3 hk
  by_cases c1:k' < B.length - 1
  ·have e1:=gB k' (by omega); have e2:=gB (k' + 1) (by omega)
   rw [Nat.mod_eq_of_lt (by rw [hn]; exact hk)] at e1
   rw [e1] at h1; rw [e2] at h2
   by_cases c2:k' + 2≤B.length - 1
   ·rw [gB (k' + 2) c2] at h3
    exact CB.turn k' a b c h1 h2 h3
   ·have hk2:k' + 1 = B.length - 1:=by omega
    have e3:=gA 1 hu
    rw [show k' + 2 = B.length - 1 + 1 by omega,e3] at h3
    rw [hk2,hm] at h2
    have hb:m = b:=Option.some.inj h2
    subst hb
    rcases Int.lt_or_le 0 (cr a m c) with g | g
    ·exact g
    ·exfalso
     refine hc (spike (a:=a) (m:=m) (c:=c) (.inl ⟨pw_get CB.up (by omega) h1 hm,pw_get CA.up (by omega) hm' h3⟩) (CB.edge k' a m h1 (by rw [hk2]; exact hm)) (CA.edge 0 m c hm' h3) (CA.sub _ (get_mem h3)) (Int.not_lt.mpr g))
  ·obtain ⟨j,rfl⟩:∃ j,k' = B.length - 1 + j:=⟨k' - (B.length - 1),by omega⟩
   have e1:=gA j (by omega); have e2:=gA (j + 1) (by omega)
   rw [Nat.mod_eq_of_lt (by rw [hn]; exact hk)] at e1
   rw [e1] at h1; rw [show B.length - 1 + j + 1 = B.length - 1 + (j + 1) by omega,e2] at h2
   by_cases c2:j + 2≤A.length - 1
   ·rw [show B.length - 1 + j + 2 = B.length - 1 + (j + 2) by omega,gA (j + 2) c2] at h3
    exact CA.turn j a b c h1 h2 h3
   ·have hj2:j + 1 = A.length - 1:=by omega
    rw [show B.length - 1 + j + 2 = (B.dropLast++A.dropLast).length + 1 by rw [hn]; omega,Nat.add_mod_left,gB 1 hd] at h3
    rw [hj2,hf'] at h2
    have hb:f = b:=Option.some.inj h2
    subst hb
    rcases Int.lt_or_le 0 (cr a f c) with g | g
    ·exact g
    ·exfalso
     refine hc (spike (a:=a) (m:=f) (c:=c) (.inr ⟨pw_get CA.up (by omega) h1 hf',pw_get CB.up (by omega) hf h3⟩) (CA.edge j a f h1 (by rw [hj2]; exact hf')) (CB.edge 0 f c hf h3) (CB.sub _ (get_mem h3)) (Int.not_lt.mpr g))
 ·have:=gB 0 (by omega)
  rw [Nat.zero_mod,hf] at this
  rw [this] at hf0
  have e:f = f0:=Option.some.inj hf0
  subst e
  exact CB.fst f hf q hq
 ·have g0:=gB 0 (by omega)
  rw [Nat.zero_mod,hf] at g0
  rw [g0] at he
  by_cases c1:k≤B.length - 1
  ·have e1:=gB k c1
   rw [Nat.mod_eq_of_lt hkn,he] at e1
   exact lx_irr (pw_get CB.up hk hf e1.symm)
  ·obtain ⟨j,rfl⟩:∃ j,k = B.length - 1 + j:=⟨k - (B.length - 1),by omega⟩
   have e1:=gA j (by omega)
   rw [Nat.mod_eq_of_lt hkn,he] at e1
   exact lx_irr (pw_get CA.up (by omega) e1.symm hf')
end HM
namespace GS
open PySem PySem.W PyProof.Rows HM
section
variable {prog:Program} {w:World} {A:Around} {E:Value→Shared→Prop} {s:Shared}
def PairsAt (prog:Program) (w:World) (h:Heap) (vs:List Value) (ps:List Pt):Prop :=
 vs.length = ps.length∧∀ (i:Nat) (v:Value) (p:Pt),vs[i]? = some v→ps[i]? = some p→∃ b,v = .ref b∧TK prog w h [p.1,p.2] b
theorem pair_items {h:Heap} {x y:Int} {b:Addr} (k:TK prog w h [x,y] b):∃ o n t u,h.get? b = some o∧o.cls = .type "tuple"∧o.data = .seq #[.int x t,.int y u] n:=by
 obtain ⟨o,items,n,ho,hc,hd,hi⟩:=k
 obtain ⟨l⟩:=items
 have one:∀ {z:Int} {v:Value},(intKind prog w).is z v = true→∃ t,v = .int z t:=fun {z v} hz=>by
  cases v <;> simp [intKind,Value.isInt] at hz
  exact ⟨_,by rw [hz]⟩
 cases hi with
 | cons h1 r1 =>
  cases r1 with
  | cons h2 r2 =>
   cases r2
   obtain ⟨t,rfl⟩:=one h1
   obtain ⟨u,rfl⟩:=one h2
   exact ⟨o,n,t,u,ho,hc,hd⟩
theorem pair_lt {p q:Pt} {a b:Addr} {Q:Bool→Shared→Prop} (hp:TK prog w s.heap [p.1,p.2] a) (hq:TK prog w s.heap [q.1,q.2] b) (h:Q (decide (lx p q)) s) :
  wpAny (model prog w) A (keyLt' (tuples' true) (.ref a) (.ref b)) Q E s:=by
 obtain ⟨o1,n1,t1,u1,g1,_,d1⟩:=pair_items hp
 obtain ⟨o2,n2,t2,u2,g2,_,d2⟩:=pair_items hq
 refine kat_lt g1 d1 g2 d2 (kat_cons (wpAny_eqBool_int (kat_go (fun e1=>kat_yes (kat_cons (wpAny_eqBool_int (kat_go (fun e2=>kat_yes (kat_nil ?_)) fun e2=>kat_no (kat_one _ _ ?_))))) fun e1=>kat_no ?_)))
 ·have z1:p.1 = q.1:=by simpa using e1
  have z2:p.2 = q.2:=by simpa using e2
  have:decide (lx p q) = false:=decide_eq_false (by unfold lx; omega)
  rw [this] at h
  simpa using h
 ·have z1:p.1 = q.1:=by simpa using e1
  have:decide (lx p q) = decide (p.2 < q.2):=decide_eq_decide.mpr (by unfold lx; omega)
  rw [this] at h
  exact lt_int h
 ·have z1:p.1≠q.1:=by simpa using e1
  have:decide (lx p q) = decide (p.1 < q.1):=decide_eq_decide.mpr (by unfold lx; omega)
  rw [this] at h
  simp only [Bool.true_and,beq_self_eq_true]
  exact oneLt_int h
theorem PairsAt.keep {h h':Heap} {vs:List Value} {ps:List Pt} {a:Addr} {o:Obj} (x:PairsAt prog w h vs ps) (ho:h.get? a = some o) (hc:o.cls≠.type "tuple") (hk:∀ b o,b≠a→h.get? b = some o→h'.get? b = some o):PairsAt prog w h' vs ps :=
 ⟨x.1,fun i v p h1 h2=>by
  obtain ⟨b,e,o',items,n,ho',hc',hd',hi⟩:=x.2 i v p h1 h2
  refine ⟨b,e,o',items,n,hk b o' ?_ ho',hc',hd',hi⟩
  rintro rfl
  rw [ho'] at ho
  cases ho
  exact hc hc'⟩
theorem sort_pairs {a:Addr} {vs:List Value} {n:Nat} {P:PySem.Fin→Shared→Prop} {ps:List Pt} (ho:s.heap.get? a = some (seqObj "list" vs.toArray n)) (h64:vs.length < 64) (hp:PairsAt prog w s.heap vs ps) (hn:ps.Nodup)
  (h:∀ (h':Heap) (vs':List Value) (ps':List Pt) (n':Nat),h'.get? a = some (seqObj "list" vs'.toArray n')→(∀ b o,b≠a→s.heap.get? b = some o→h'.get? b = some o)→ps'.Perm ps→ps'.Pairwise lx→PairsAt prog w h' vs' ps'→(∀ v∈vs',v∈vs)→P (.done (.ret .none)) { s with heap:=h' }) :
  wpAny (model prog w) A (Builtin.«list.sort» ⟨[.ref a],[]⟩) P E s:=by
 have hal:a < s.heap.objs.size:=Heap.lt_size ho
 have hcl:(seqObj "list" vs.toArray n).cls≠.type "tuple":=by show Value.type "list"≠_; decide
 rw [list_sort_plain]
 refine wpAny_bind (listItems_at ho rfl (wpAny_bind (listUpdate_at ho rfl ?_ (by rw [List.size_toArray,sizeLine_eq]; omega) (Nat.zero_le _))))
 obtain ⟨e1,ho1⟩:∃ e1,(s.heap.update a (Obj.mapSeq fun _=>(#[]:Array Value))).get? a = some (seqObj "list" #[] e1):=⟨_,get?_update_seq ho fun _=>#[]⟩
 refine wpAny_bind (seqEpoch_at ho1 rfl (wpAny_bind (wpAny_newTuple (wpAny_bind (wpAny_newList (wpAny_holding ?_) (Nat.zero_le _))) (by show vs.length≤_; rw [sizeLine_eq]; omega))))
 generalize hH:(((s.heap.update a (Obj.mapSeq fun _=>(#[]:Array Value))).push (seqObj "tuple" vs.toArray 0)).push (seqObj "list" #[] 0)) = h3
 have k3:∀ b o,b≠a→s.heap.get? b = some o→h3.get? b = some o:=fun b o hb e=>by
  rw [← hH]
  exact Heap.get?_push_of_some _ (Heap.get?_push_of_some _ (((Heap.SameBut.update s.heap a _).2 b hb).trans e))
 have o3:h3.get? a = some (seqObj "list" #[] e1):=by rw [← hH]; exact Heap.get?_push_of_some _ (Heap.get?_push_of_some _ ho1)
 change wpAny (model prog w) A _ P E { s with heap:=h3 }
 have hp3:=hp.keep ho hcl k3
 dsimp only
 have last:∀ (st:SortSt) (vs':List Value) (ps':List Pt),(arrOf st).map (·.2) = vs'.toArray→failedOf st = none→vs'.length < 64→ps'.Perm ps→ps'.Pairwise lx→PairsAt prog w h3 vs' ps'→(∀ v∈vs',v∈vs) →
   wpAny (model prog w) A (do
    let touched:=(← seqEpoch a) != e1
    Builtin.List.listUpdate (.ref a) fun _=>(arrOf st).map (·.2)
    if let some e:=failedOf st then rule "list.sort.comparison-raised"; throw e
    if touched then rule "list.sort.modified"; raiseError "ValueError" "list modified during sort"
    ret .none) P E { s with heap:=h3 }:=by
  intro st vs' ps' ha hf hl q1 q2 q3 q4
  refine wpAny_bind (seqEpoch_at o3 rfl (wpAny_bind (listUpdate_at o3 rfl ?_ (Nat.zero_le _) (by show ((arrOf st).map (·.2)).size≤_; rw [ha,List.size_toArray,sizeLine_eq]; omega))))
  rw [hf]
  simp only [bne_self_eq_false,Bool.false_eq_true,if_false]
  refine wpAny_pure ?_
  obtain ⟨c2,hc2⟩:∃ c2,(h3.update a (Obj.mapSeq fun _=>(arrOf st).map (·.2))).get? a = some (seqObj "list" ((arrOf st).map (·.2)) c2):=⟨_,get?_update_seq o3 fun _=>(arrOf st).map (·.2)⟩
  rw [ha] at hc2 ⊢
  have k4:∀ b o,b≠a→h3.get? b = some o→(h3.update a (Obj.mapSeq fun _=>vs'.toArray)).get? b = some o:=fun b o hb e=>((Heap.SameBut.update h3 a _).2 b hb).trans e
  exact h _ vs' ps' c2 hc2 (fun b o hb e=>k4 b o hb (k3 b o hb e)) q1 q2 (q3.keep o3 (by show Value.type "list"≠_; decide) k4) q4
 by_cases h2:vs.toArray.size < 2
 ·rw [if_pos h2,if_pos h2]
  refine wpAny_bind (wpAny_pure ?_)
  rw [StateT.run_pure]
  refine wpAny_bind (wpAny_pure ?_)
  refine last (SortSt.mk' general' (vs.toArray.zip vs.toArray) #[] 7 none) vs ps ?_ rfl h64 (List.Perm.refl _) ?_ hp3 (fun v hv=>hv)
  ·show (vs.toArray.zip vs.toArray).map (·.2) = _
   apply Array.toList_inj.mp
   simp [List.map_snd_zip]
  ·have hl:ps.length < 2:=by rw [← hp.1]; simpa using h2
   match ps,hl with
   | [],_=>exact .nil
   | [_],_=>exact List.pairwise_singleton _ _
 ·rw [if_neg h2,if_neg h2]
  have hvn:2≤vs.length:=by have:vs.toArray.size = vs.length:=(by simp); omega
  have at_:∀ i,i < vs.length→∃ b,vs.getD i Value.none = .ref b∧TK prog w h3 [(ps.getD i (0,0)).1,(ps.getD i (0,0)).2] b:=fun i hi=>by
   have e1:vs[i]? = some (vs.getD i Value.none):=by simp [List.getD,List.getElem?_eq_getElem hi]
   have e2:ps[i]? = some (ps.getD i (0,0)):=by simp [List.getD,List.getElem?_eq_getElem (show i < ps.length by rw [← hp.1]; exact hi)]
   exact hp3.2 i _ _ e1 e2
  obtain ⟨fs,hfl,hfT,hfi⟩:∃ fs:List Value,fs.length = vs.length∧KatTups h3 vs fs∧∀ v∈fs,∃ x t,v = Value.int x t:=by
   have key:∀ (vs:List Value) (ps:List Pt),PairsAt prog w h3 vs ps→∃ fs:List Value,fs.length = vs.length∧KatTups h3 vs fs∧∀ v∈fs,∃ x t,v = Value.int x t:=by
    intro vs
    induction vs with
    | nil=>intro ps _; exact ⟨[],rfl,KatTups.nil,fun v hv=>by simp at hv⟩
    | cons v vs ih =>
     intro ps hq
     match ps,hq with
     | [],hq=>exact absurd hq.1 (by simp)
     | p::ps,hq =>
      obtain ⟨fs,l1,l2,l3⟩:=ih ps ⟨by simpa using hq.1,fun i v p a b=>hq.2 (i + 1) v p (by simpa using a) (by simpa using b)⟩
      obtain ⟨b,rfl,tk⟩:=hq.2 0 v p rfl rfl
      obtain ⟨o,m,t,u,g1,g2,g3⟩:=pair_items tk
      exact ⟨.int p.1 t::fs,by simp [l1],KatTups.cons g1 g2 g3 rfl l2,fun v hv=>by
       rcases List.mem_cons.mp hv with rfl | hv
       ·exact ⟨_,_,rfl⟩
       ·exact l3 v hv⟩
   exact key vs ps hp3
  refine wpAny_bind (kat_kind (s:={ s with heap:=h3 }) (T:=.type "int") hfT (by omega) (fun v hv=>?_) (by decide) ?_)
  ·obtain ⟨x,t,rfl⟩:=hfi v hv
   exact Looks.of_pure rfl
  have O:SOrd (fun i j=>decide (lx (ps.getD i (0,0)) (ps.getD j (0,0)))) vs.length:=by
   refine ⟨fun i _=>decide_eq_false (fun z=>lx_irr z),fun i j k _ _ _ z1 z2=>?_,fun i j hi hj hij z=>?_,fun i j _ _ z=>?_⟩
   ·have z1':=of_decide_eq_false z1
    have z2':=of_decide_eq_false z2
    refine decide_eq_false fun z=>?_
    unfold lx at *
    omega
   ·have z':=of_decide_eq_false z
    rcases lx_tri (ps.getD i (0,0)) (ps.getD j (0,0)) with q | q | q
    ·exact absurd q z'
    ·exfalso
     have hi':i < ps.length:=by rw [← hp.1]; exact hi
     have hj':j < ps.length:=by rw [← hp.1]; exact hj
     have q':ps[i] = ps[j]:=by simpa [List.getD,List.getElem?_eq_getElem hi',List.getElem?_eq_getElem hj'] using q
     rcases Nat.lt_or_ge i j with g | g
     ·exact List.pairwise_iff_getElem.mp hn i j hi' hj' g q'
     ·exact List.pairwise_iff_getElem.mp hn j i hj' hi' (by omega) q'.symm
    ·exact decide_eq_true q
   ·have z':=of_decide_eq_true z
    exact decide_eq_false fun y=>lx_asym z' y
  have eb:(Value.type "int" != Value.type "tuple") = true:=by decide
  rw [eb]
  refine wpAny_bind (wpAny_mono (kat_run (s:={ s with heap:=h3 }) (vs:=vs) (ks:=vs) (Q:=fun st' s'=>s' = { s with heap:=h3 }∧∃ p:Array Nat,p.size = vs.length∧arrOf st' = p.map (kas_item (vs.toArray.zip vs.toArray))∧failedOf st' = none∧PIn vs.length p∧SS (fun i j=>decide (lx (ps.getD i (0,0)) (ps.getD j (0,0)))) p vs.length) (G:=fun p s'=>s' = { s with heap:=h3 }∧PIn vs.length p∧SS (fun i j=>decide (lx (ps.getD i (0,0)) (ps.getD j (0,0)))) p vs.length) rfl hvn h64 (fun p st' s' z1 z2 z3 z4=>⟨z4.1,p,z1,z2,z3,z4.2⟩)
   (kwp_wp (fun i j C hi hj hC=>?_) (fun p hpp=>⟨rfl,hpp.1,hpp.2⟩) _ (sort_ok O hvn))) ?_ fun _ _ e=>e)
  rotate_left
  ·rintro ⟨⟨⟩,st'⟩ s' ⟨rfl,p,z1,z2,z3,PI,ss⟩
   dsimp only
   refine last st' (p.toList.map fun i=>vs.getD i Value.none) (p.toList.map fun i=>ps.getD i (0,0)) (kat_snds rfl z2) z3 (by rw [List.length_map,Array.length_toList,z1]; exact h64) ?_ ?_ ?_ ?_
   ·refine (PI.perm.map _).trans (List.Perm.of_eq ?_)
    rw [hp.1]
    apply List.ext_getElem?
    intro i
    rw [List.getElem?_map]
    rcases Nat.lt_or_ge i ps.length with q | q
    ·rw [List.getElem?_eq_getElem (by simpa using q),List.getElem_range,List.getElem?_eq_getElem q]
     simp [List.getD,List.getElem?_eq_getElem q]
    ·rw [List.getElem?_eq_none (by simpa using q),List.getElem?_eq_none q]; rfl
   ·rw [List.pairwise_map,List.pairwise_iff_getElem]
    intro i j hi hj hij
    have:=ss i j hij (by rw [← z1]; simpa using hj)
    have gi:gt p i = p.toList[i]:=by
     have:i < p.size:=by simpa using hi
     simp [gt,Array.getD,this]
    have gj:gt p j = p.toList[j]:=by
     have:j < p.size:=by simpa using hj
     simp [gt,Array.getD,this]
    rw [gi,gj] at this
    exact of_decide_eq_true this
   ·refine ⟨by simp,fun i v q g1 g2=>?_⟩
    rw [List.getElem?_map] at g1 g2
    cases hpi:p.toList[i]? with
    | none=>rw [hpi] at g1; cases g1
    | some m =>
     rw [hpi] at g1 g2
     have hm:m < vs.length:=List.mem_range.mp (PI.perm.mem_iff.mp (List.mem_of_getElem? hpi))
     have e1:vs.getD m Value.none = v:=Option.some.inj g1
     have e2:ps.getD m (0,0) = q:=Option.some.inj g2
     subst e2; subst e1
     exact at_ m hm
   ·intro v hv
    obtain ⟨m,hm,rfl⟩:=List.mem_map.mp hv
    have hm':m < vs.length:=List.mem_range.mp (PI.perm.mem_iff.mp hm)
    simp [List.getD,List.getElem?_eq_getElem hm']
  ·unfold kas_ask
   obtain ⟨b1,e1,t1⟩:=at_ i hi
   obtain ⟨b2,e2,t2⟩:=at_ j hj
   rw [e1,e2]
   exact pair_lt (s:={ s with heap:=h3 }) t1 t2 hC
end
end GS
namespace GS
open PySem PySem.W PySem.Calls PyProof.Rows HM
section
variable {prog:Program} {w:World} {A:Around} {E:Value→Shared→Prop} {s:Shared} {U:Value→Prop}
theorem hint_set {r:Addr} {Q:Bool→Shared→Prop} (hT:s.TypeIs (.ref r) "set") (h:Q false s):wpAny (model prog w) A (Builtin.List.listLengthHint (.ref r)) Q E s:=by
 unfold Builtin.List.listLengthHint
 refine wpAny_bind (wpAny_specialOf hT PySem.F.slot_set_len.lookup ?_)
 generalize hid:("set.__len__":String) = lenId
 wp_delta
 rw [show splitId lenId = some ("set","__len__") from by subst hid; decide +kernel]
 subst hid
 refine wpAny_bind (wpAny_isInstance (b:=true) (T:="set") hT (by rw [isSubtype_type]; kernel_rfl) (wpAny_ite_split (fun z=>absurd z (by decide)) fun _=>wpAny_ite_split (fun _=>?_) fun z=>absurd (by decide +kernel) z))
 exact wpAny_bind (wpAny_typeOf hT (wpAny_pure h))
theorem src_set {a:Addr} {es:Array (Int × Value)} {ep:Nat} {t:SetTable} (T:TInv t (es.toList.map (·.1))) (hl:t.led = !w.params.followText "set-order") (hp:t.plain = true) :
  KdlSrc prog w "set" a a es.size (fun i v=>∃ e,(walkL w a es ep)[i]? = some e∧v = e.2) (fun h=>h.get? a = some (setObj es ep t)) where
 type:=fun _ hm=>⟨_,hm,rfl⟩
 there:=fun _ hm=>⟨Heap.lt_size hm,Heap.lt_size hm⟩
 keep:=fun _ _ hm hk=>hk a (.inl rfl) _ hm
 notList:=by decide
 notTuple:=by decide
 hint:=fun _ _ _ _ hm hq=>hint_set ⟨_,hm,rfl⟩ hq
 iter:=fun A' s' hh hm=>⟨_,_,(fun _ _ hq=>iter_set hm T hp hq),walks_set hh _ a (Nat.ne_of_lt (Heap.lt_size hm)) es ep t T hl hp,⟨⟨_,Heap.get?_push_size _ rfl,rfl,by unfold slotAt; split <;> rfl⟩,Heap.get?_push_of_some _ hm⟩⟩
theorem call_sorted {a:Addr} {es:Array (Int × Value)} {ep:Nat} {t:SetTable} {M:List Pt} {Q:Value→Shared→Prop} (hh:A.handled = none) (ho:s.heap.get? a = some (setObj es ep t)) (S:SGI prog w U s.heap es t (M.map fun p=>[p.1,p.2])) (hM:M.length < 64)
  (h:∀ (h1 h':Heap) (tk n':Nat) (vs':List Value) (ps':List Pt),(∀ b o,s.heap.get? b = some o→h1.get? b = some o)→h'.get? h1.objs.size = some (seqObj "list" vs'.toArray n')→(∀ b o,h1.get? b = some o→h'.get? b = some o)→ps'.Pairwise lx→(∀ p,p∈ps'↔p∈M)→PairsAt prog w h' vs' ps'→(∀ v∈vs',U v)→Q (.ref h1.objs.size) { s with heap:=h',toks:=tk }) :
  wpAny (model prog w) A (call (.builtin "sorted") [.ref a]) Q E s:=by
 have hes:es.size < 64:=by have:=S.size; rw [List.length_map] at this; omega
 refine call_function_entry kind_sorted plain_sorted entry_sorted (args_sorted1 _) ?_
 unfold Builtin.«sorted»
 refine wpAny_bind (m:=checkCount "sorted" 1 1 _) (wpAny_pure (wpAny_bind (kdu_collect (A:=A.in1) (src_set (ep:=ep) S.tab S.led S.plain) hh ho (by rw [sizeLine_eq]; omega) fun h1 tk acc hk hacc=>?_)))
 have hal:acc.toList.length = es.size:=by rw [Array.length_toList]; exact hacc.1
 refine wpAny_bind (wpAny_newList ?_ (by rw [hal,sizeLine_eq]; omega))
 have hperm:=walkL_perm w a es ep
 have hacl:acc.toList = (walkL w a es ep).toList.map (·.2):=by
  apply List.ext_getElem?
  intro i
  rw [List.getElem?_map,Array.getElem?_toList,Array.getElem?_toList]
  cases hi:acc[i]? with
  | none =>
   have:acc.size≤i:=by
    rcases Nat.lt_or_ge i acc.size with q | q
    ·rw [Array.getElem?_eq_getElem q] at hi; cases hi
    ·exact q
   rw [Array.getElem?_eq_none (by rw [walkL_size,← hacc.1]; exact this)]; rfl
  | some v =>
   obtain ⟨e,he,rfl⟩:=hacc.2 i v hi
   rw [he]; rfl
 have tkkeep:∀ {k b},TK prog w s.heap k b→TK prog w h1 k b:=fun {k b} ⟨o,items,n,g,r⟩=>⟨o,items,n,hk b o g,r⟩
 obtain ⟨ps,hlen,hps⟩:∃ ps:List Pt,ps.length = (walkL w a es ep).toList.length∧∀ (i:Nat) (e:Int × Value) (p:Pt),(walkL w a es ep).toList[i]? = some e→ps[i]? = some p→p∈M∧Ent prog w s.heap e [p.1,p.2]:=by
  have key:∀ (L:List (Int × Value)),(∀ e∈L,e∈es.toList)→∃ ps:List Pt,ps.length = L.length∧∀ (i:Nat) (e:Int × Value) (p:Pt),L[i]? = some e→ps[i]? = some p→p∈M∧Ent prog w s.heap e [p.1,p.2]:=by
   intro L
   induction L with
   | nil=>intro _; exact ⟨[],rfl,fun i e p z=>by simp at z⟩
   | cons e L ih =>
    intro hL
    obtain ⟨ps,l1,l2⟩:=ih fun e' he'=>hL e' (.tail _ he')
    obtain ⟨k,hkM,hek⟩:=S.sub e (hL e (.head _))
    obtain ⟨p,hpM,rfl⟩:=List.mem_map.mp hkM
    refine ⟨p::ps,by simp [l1],fun i e' p' z1 z2=>?_⟩
    cases i with
    | zero =>
     have e1:e = e':=by simpa using z1
     have e2:p = p':=by simpa using z2
     subst e1; subst e2; exact ⟨hpM,hek⟩
    | succ i=>exact l2 i e' p' (by simpa using z1) (by simpa using z2)
  exact key _ fun e he=>hperm.mem_iff.mp he
 have hP:PairsAt prog w (h1.push { cls:=.type "list",data:=.seq acc.toList.toArray }) acc.toList ps:=by
  refine ⟨by rw [hacl,List.length_map,hlen],fun i v p z1 z2=>?_⟩
  rw [hacl,List.getElem?_map] at z1
  cases hi:(walkL w a es ep).toList[i]? with
  | none=>rw [hi] at z1; cases z1
  | some e =>
   rw [hi] at z1
   have:e.2 = v:=Option.some.inj z1
   subst this
   obtain ⟨_,b,e1,tk1,_⟩:=hps i e p hi z2
   obtain ⟨o,items,n,g,r⟩:=tkkeep tk1
   exact ⟨b,e1,o,items,n,Heap.get?_push_of_some _ g,r⟩
 have hN:ps.Nodup:=by
  have hd:(walkL w a es ep).toList.Pairwise fun e e'=>∀ k,Ent prog w s.heap e k→¬ Ent prog w s.heap e' k:=(hperm.pairwise_iff (fun {e e'} q k' x1 x2=>q k' x2 x1)).mpr S.dist
  rw [List.nodup_iff_pairwise_ne,List.pairwise_iff_getElem]
  intro i j hi hj hij e
  have hi':i < (walkL w a es ep).toList.length:=by rw [← hlen]; exact hi
  have hj':j < (walkL w a es ep).toList.length:=by rw [← hlen]; exact hj
  have z1:=hps i _ _ (List.getElem?_eq_getElem hi') (List.getElem?_eq_getElem hi)
  have z2:=hps j _ _ (List.getElem?_eq_getElem hj') (List.getElem?_eq_getElem hj)
  rw [← e] at z2
  exact List.pairwise_iff_getElem.mp hd i j hi' hj' hij _ z1.2 z2.2
 have hmem:∀ p,p∈ps↔p∈M:=fun p=>by
  constructor
  ·intro hp
   obtain ⟨i,hi⟩:=List.mem_iff_getElem?.mp hp
   have hil:i < (walkL w a es ep).toList.length:=by rw [← hlen]; exact (List.getElem?_eq_some_iff.mp hi).1
   exact (hps i _ p (List.getElem?_eq_getElem hil) hi).1
  ·intro hp
   obtain ⟨e,he,hek⟩:=S.all [p.1,p.2] (List.mem_map.mpr ⟨p,hp,rfl⟩)
   obtain ⟨i,hi⟩:=List.mem_iff_getElem?.mp (hperm.mem_iff.mpr he)
   have hil:i < ps.length:=by rw [hlen]; exact (List.getElem?_eq_some_iff.mp hi).1
   have z:=(hps i e _ hi (List.getElem?_eq_getElem hil)).2
   have:=hek.inj z
   have e2:p = ps[i]:=by
    have q1:p.1 = ps[i].1:=by injection this
    have q2:p.2 = ps[i].2:=by injection this with _ q; injection q
    exact Prod.ext q1 q2
   rw [e2]; exact List.getElem_mem hil
 have hoL:(h1.push { cls:=.type "list",data:=.seq acc.toList.toArray }).get? h1.objs.size = some (seqObj "list" acc.toList.toArray 0):=Heap.get?_push_size _ rfl
 refine wpAny_bind (wpAny_holding (wpAny_call_entry slot_list_sort ⟨_,hoL,rfl⟩ entry_list_sort (sort_pairs (s:={ s with heap:=h1.push { cls:=.type "list",data:=.seq acc.toList.toArray },toks:=tk }) hoL (by rw [hal]; exact hes) hP hN fun h' vs' ps' n' g k' p1 p2 p3 p4=>⟨_,rfl,?_⟩) (args_list_sort _)))
 refine wpAny_pure ⟨_,rfl,h h1 h' tk n' vs' ps' hk g (fun b o e=>k' b o (Nat.ne_of_lt (Heap.lt_size e)) (Heap.get?_push_of_some _ e)) p2 (fun p=>(p1.mem_iff).trans (hmem p)) p3 fun v hv=>?_⟩
 have:=p4 v hv
 rw [hacl] at this
 obtain ⟨e,he,rfl⟩:=List.mem_map.mp this
 exact S.good e (hperm.mem_iff.mp he)
end
end GS
namespace GS
open PySem PySem.W PySem.Calls PyProof.Rows
section
variable {prog:Program} {w:World} {A:Around} {E:Value→Shared→Prop} {s:Shared} {T:String} {I:Addr} {fp wr:List Addr} {n:Nat} {P:Nat→Value→Prop} {St:Nat→Heap→Prop}
structure ItS (prog:Program) (w:World) (T:String) (I:Addr) (fp wr:List Addr) (n:Nat) (P:Nat→Value→Prop) (St:Nat→Heap→Prop):Prop where
 walk:∀ A:Around,A.handled = none→Walks prog w A I fp wr n P St
 ty:∀ (i:Nat) (s:Shared),St i s.heap→s.TypeIs (.ref I) T
 nl:(Value.type T == Value.type "list") = false
 nt:(Value.type T == Value.type "tuple") = false
 hint:∀ (A:Around) (E:Value→Shared→Prop) (s:Shared) (Q:Bool→Shared→Prop),St 0 s.heap→(∀ b,Q b s)→wpAny (model prog w) A (Builtin.List.listLengthHint (.ref I)) Q E s
 mem:I∈fp
theorem it_extend {R:Result→Shared→Prop} (K:ItS prog w T I fp wr n P St) (hh:A.handled = none) (S:Addr) (hSf:S ∉ fp) (res:Value) (c₀:Nat) (st:St 0 s.heap) (hS:s.heap.get? S = some { cls:=.type "list",data:=.seq #[] c₀ })
  (hR:∀ h' tk acc' c',(∀ b o,b ∉ S::wr→s.heap.get? b = some o→h'.get? b = some o)→h'.get? S = some { cls:=.type "list",dict:=none,data:=.seq acc' c',slots:=#[] }→ItemsOf P acc' n→R (.ok (.ret res)) { s with heap:=h',toks:=tk }) (hn:n≤sizeLine) :
  wpAny (model prog w) A.in1 (Builtin.List.listExtendWith (.ref S) (.ref I) res)
   (fun fin s'=>match fin with | .done f=>R (.ok f) s' | .again c'=>c'.quiet = true∧codeAny (model prog w) A c' R s') (fun e s'=>R (.error e) s') s:=by
 have W:=K.walk A.in1 hh
 have hSI:S≠I:=fun e=>hSf (by rw [e]; exact K.mem)
 have key:∀ (h:Heap) (c₁ tk:Nat),St 0 h→(∀ b o,b≠S→s.heap.get? b = some o→h.get? b = some o)→h.get? S = some { cls:=.type "list",data:=.seq #[] c₁ } →
   codeAny (model prog w) A (.builtin "list.extend.loop" ⟨[.ref S,.ref I,res],[]⟩) R { s with heap:=h,toks:=tk }:=fun h c₁ tk hst hk hS₁=>by
  refine codeAny_extend_loopS W.toS hn S hSf res n 0 _ #[] c₁ rfl (Nat.zero_le _) hst hS₁ (ItemsOf.nil _) fun s' acc' c' mv hS' hacc=>?_
  rw [Moved.eq_with mv]
  exact hR s'.heap s'.toks acc' c' (fun b o hb e=>mv.heap b o hb (hk b o (fun z=>hb (by rw [z]; exact .head _)) e)) hS' hacc
 unfold Builtin.List.listExtendWith
 refine wpAny_bind (wpAny_typeOf (T:=T) (K.ty 0 s st) ?_)
 have z1:Builtin.List.listSameRef (.ref S) (.ref I) = false:=by simp [Builtin.List.listSameRef,hSI]
 simp only [z1,K.nl,K.nt,Bool.or_false,Bool.false_eq_true,if_false]
 refine wpAny_bind (W.self 0 _ _ _ st (wpAny_bind (wpAny_holding (K.hint _ _ _ _ st fun room=>?_))))
 refine wpAny_ite_split (fun _=>?_) (fun _=>wpAny_pure ⟨plainId_quiet PySem.F.plain_extend_loop _,key _ c₀ _ st (fun b o _ e=>e) hS⟩)
 refine wpAny_bind (wpAny_rule (wpAny_bind ?_))
 change wpAny _ _ (updateSeq S (·.push .none) >>= fun _=>updateSeq S (·.pop)) _ _ _
 refine wpAny_bind (wpAny_updateSeq hS rfl ?_)
 have hS2:=Heap.get?_update_self (Obj.mapSeq (·.push Value.none)) hS rfl
 refine wpAny_updateSeq (hz:=by seq_fits) hS2 rfl ?_
 have hS3:=Heap.get?_update_self (Obj.mapSeq (·.pop)) hS2 rfl
 have oth:∀ b o,b≠S→s.heap.get? b = some o→((s.heap.update S (Obj.mapSeq (·.push Value.none))).update S (Obj.mapSeq (·.pop))).get? b = some o:=fun b o hb e =>
  (Heap.get?_update_other _ _ (Ne.symm hb)).trans ((Heap.get?_update_other _ _ (Ne.symm hb)).trans e)
 exact wpAny_pure ⟨plainId_quiet PySem.F.plain_extend_loop _,key _ _ _ (W.frame 0 _ _ st fun b hb o e=>oth b o (fun z=>hSf (z ▸ hb)) e) oth hS3⟩
theorem it_list {Q:Value→Shared→Prop} (K:ItS prog w T I fp wr n P St) (hh:A.handled = none) (st:St 0 s.heap) (hfp:∀ b∈fp,b < s.heap.objs.size) (hn:n≤sizeLine)
  (hQ:∀ h' tk acc' c',(∀ b o,b ∉ wr→s.heap.get? b = some o→h'.get? b = some o)→h'.get? s.heap.objs.size = some { cls:=.type "list",dict:=none,data:=.seq acc' c',slots:=#[] }→ItemsOf P acc' n→Q (.ref s.heap.objs.size) { s with heap:=h',toks:=tk }) :
  wpAny (model prog w) A (call (.type "list") [.ref I]) Q E s:=by
 refine callType_codes (Q₁:=fun obj s₁=>obj = .ref s.heap.objs.size∧s₁ = { s with heap:=s.heap.push { cls:=.type "list",data:=.seq #[] } }) PySem.F.called_list (PySem.F.typeCall_list_1 _) PySem.F.entry_list_init (code_list_new _ ⟨rfl,rfl⟩) fun obj s₁ h₁=>?_
 obtain ⟨rfl,rfl⟩:=h₁
 have gS:(s.heap.push { cls:=.type "list",data:=.seq #[] }).get? s.heap.objs.size = some { cls:=.type "list",data:=.seq #[] }:=Heap.get?_push_size _ rfl
 have hSf:s.heap.objs.size ∉ fp:=fun z=>Nat.lt_irrefl _ (hfp _ z)
 have W:=K.walk A hh
 refine ⟨⟨_,gS,rfl⟩,PySem.F.args_list_init_2 _ _,?_⟩
 change wpAny _ _ (do let old ← Builtin.List.listItems (.ref s.heap.objs.size); Builtin.List.listUpdate (.ref s.heap.objs.size) (fun _=>#[]); letGo old.toList.reverse; Builtin.List.listExtendWith (.ref s.heap.objs.size) (.ref I) .none) _ _ _
 refine wpAny_bind ?_
 unfold Builtin.List.listItems
 refine wpAny_bind (wpAny_seqItems gS rfl (wpAny_pure ?_))
 change wpAny _ _ (updateSeq s.heap.objs.size (fun _=>#[]) >>= fun _=>letGo (#[]:Array Value).toList.reverse >>= fun _=>Builtin.List.listExtendWith (.ref s.heap.objs.size) (.ref I) .none) _ _ _
 refine wpAny_bind (wpAny_updateSeq gS rfl (wpAny_bind (wpAny_letGo ?_)))
 have g2:=Heap.get?_update_self (Obj.mapSeq (fun _=>(#[]:Array Value))) gS rfl
 have oth:∀ b o,b≠s.heap.objs.size→(s.heap.push { cls:=.type "list",data:=.seq #[] }).get? b = some o→((s.heap.push { cls:=.type "list",data:=.seq #[] }).update s.heap.objs.size (Obj.mapSeq (fun _=>(#[]:Array Value)))).get? b = some o:=fun b o hb e=>(Heap.get?_update_other _ _ (Ne.symm hb)).trans e
 refine it_extend (A:=A.in1) K hh _ hSf .none _ (W.frame 0 _ _ st fun b hb o e=>oth b o (fun z=>hSf (z ▸ hb)) (Heap.get?_push_of_some _ e)) g2 (fun h' tk acc' c' hk hS' hacc=>?_) hn
 exact ⟨rfl,hQ h' tk acc' c' (fun b o hb e=>hk b o (fun z=>by
  rcases List.mem_cons.mp z with z | z
  ·exact Nat.lt_irrefl _ (z ▸ Heap.lt_size e)
  ·exact hb z) (oth b o (Nat.ne_of_lt (Heap.lt_size e)) (Heap.get?_push_of_some _ e))) hS' hacc⟩
namespace FR
theorem no_len:typeLookup (.type "list_reverseiterator") "__len__" = pure none:=by rw [typeLookup_type,builtinLookup_eq_fast]; kernel_rfl
theorem has_hint:typeLookup (.type "list_reverseiterator") "__length_hint__" = pure (some (.builtin "list_reverseiterator.__length_hint__")):=by rw [typeLookup_type,builtinLookup_eq_fast]; kernel_rfl
end FR
theorem rev_hint {r:Addr} {Q:Bool→Shared→Prop} (hT:s.TypeIs (.ref r) "list_reverseiterator") (h:∀ b,Q b s):wpAny (model prog w) A (Builtin.List.listLengthHint (.ref r)) Q E s:=by
 unfold Builtin.List.listLengthHint
 refine wpAny_bind (wpAny_specialOf hT FR.no_len ?_)
 change wpAny _ _ (specialOf (Value.ref r) (Str.ofString "__length_hint__") >>= _) _ _ _
 refine wpAny_bind (wpAny_specialOf hT FR.has_hint ?_)
 generalize hid:("list_reverseiterator.__length_hint__":String) = hintId
 wp_delta
 rw [show splitId hintId = some ("list_reverseiterator","__length_hint__") from by subst hid; decide +kernel]
 subst hid
 refine wpAny_bind (wpAny_isInstance (b:=true) (T:="list_reverseiterator") hT (by rw [isSubtype_type]; kernel_rfl) (wpAny_ite_split (fun z=>absurd z (by decide)) fun _=>wpAny_ite_split (fun _=>?_) fun z=>absurd (by decide +kernel) z))
 exact wpAny_ite_split (fun z=>absurd z (by decide)) fun _=>wpAny_pure (h false)
theorem rev_src (I l:Addr) (hne:l≠I) (items:Array Value):ItS prog w "list_reverseiterator" I [I,l] [I] items.size (fun i v=>items[items.size - 1 - i]? = some v) (fun i h=>i≤items.size∧h.IsRevIter I l ((items.size:Int) - 1 - (i:Int))∧h.IsList l items) where
 walk:=fun A hh=>Walks.listRev hh I l hne items
 ty:=fun i s st=>st.2.1.typeIs
 nl:=by decide
 nt:=by decide
 hint:=fun _ _ _ _ st h=>rev_hint st.2.1.typeIs h
 mem:=by simp
theorem list_reversed {l:Addr} {items:Array Value} {Q:Value→Shared→Prop} (hh:A.handled = none) (hl:s.heap.IsList l items) (hn:items.size≤sizeLine)
  (h:∀ (h1 h':Heap) (tk c:Nat),(∀ b o,s.heap.get? b = some o→h1.get? b = some o)→(∀ b o,b≠s.heap.objs.size→h1.get? b = some o→h'.get? b = some o)→s.heap.objs.size < h1.objs.size→h'.get? h1.objs.size = some { cls:=.type "list",dict:=none,data:=.seq items.toList.reverse.toArray c,slots:=#[] }→Q (.ref h1.objs.size) { s with heap:=h',toks:=tk }) :
  wpAny (model prog w) A (call (.type "reversed") [.ref l]) (fun u s1=>wpAny (model prog w) A (call (.type "list") [u]) Q E s1) E s:=by
 refine call_reversed_list hl ?_
 have hls:l < s.heap.objs.size:=by obtain ⟨o,ho,_⟩:=hl; exact Heap.lt_size ho
 have szp:(s.heap.push (revObj l ((items.size:Int) - 1))).objs.size = s.heap.objs.size + 1:=Heap.size_push _ _
 refine it_list (s:={ s with heap:=s.heap.push (revObj l ((items.size:Int) - 1)) }) (rev_src s.heap.objs.size l (Nat.ne_of_lt hls) items) hh ⟨Nat.zero_le _,⟨_,Heap.get?_push_size _ rfl,rfl,by simp [revObj]⟩,hl.push _⟩ (fun b hb=>?_) hn fun h' tk acc c hk hD hacc=>?_
 ·show b < (s.heap.push _).objs.size
  rw [szp]
  rcases List.mem_cons.mp hb with rfl | hb
  ·exact Nat.lt_succ_self _
  ·rw [List.mem_singleton.mp hb]; exact Nat.lt_succ_of_lt hls
 ·have ea:acc = items.toList.reverse.toArray:=by
   apply Array.toList_inj.mp
   show acc.toList = items.toList.reverse
   apply List.ext_getElem?
   intro i
   rw [Array.getElem?_toList]
   rcases Nat.lt_or_ge i items.size with q | q
   ·have hi:i < acc.size:=by rw [hacc.1]; exact q
    have z:=hacc.2 i _ (Array.getElem?_eq_getElem hi)
    rw [Array.getElem?_eq_getElem hi,List.getElem?_reverse (by simpa using q),Array.length_toList,Array.getElem?_toList,z]
   ·rw [Array.getElem?_eq_none (by rw [hacc.1]; exact q),List.getElem?_eq_none (by simpa using q)]
  rw [ea] at hD
  exact h _ h' tk c (fun b o e=>Heap.get?_push_of_some _ e) (fun b o hb e=>hk b o (by simp; exact hb) e) (by rw [szp]; exact Nat.lt_succ_self _) hD
end
end GS
namespace G
open PySem PySem.Spec PyProof.Rows L2 GS HM
section
variable {X:Cx}
def Call2R (X:Cx) (f g:Value) (r:List V→Hp→VK→Prop):Prop :=
 ∀ (pins:List (Addr × Obj)) (s:Shared) (σ:L2.St) (H:Hp) (xs:List V) (us:List Value) (Q:VK),Inv X pins σ H s→Vals xs us→r xs H Q →
  wpAny (model X.prog X.w) X.A (call g us) (fun u s1=>wpAny (model X.prog X.w) X.A (call f [u]) (EP X pins σ Q) X.xe s1) X.xe s
inductive Blt:Value→Prop where
 | fn (id:String):Blt (.builtin id)
 | ty (T:String):Blt (.type T)
theorem with1 {f:Value} (hf:Blt f) {A:Around} {env:Env} {E:Value→Shared→Prop} {M:Model} {s:Shared} {pos:Pos} {e:Expr} {rest:List Expr} {Q:Value→Shared→Prop}
  (h:wpAny M A (spliced (backTo pos (starEach (e::rest) env))) (fun vs s₁=>wpAny M A (call f vs) Q E s₁) E s)
  (he:starEach (e::rest) env = (false,eval e env)::starEach rest env) (hp:(backTo pos (starEach rest env)).any (·.1) = false) :
  wpAny M A (callWith pos f [] (backTo pos (starEach (e::rest) env)) []) Q E s:=by
 cases hf with
 | fn id=>exact callWith_builtin1 h he hp
 | ty T=>exact callWith_type1 h he hp
theorem pe_two {f g:Value} {x y:Str} {p p2 pos pos2:Pos} {e:Expr} {es:List Expr} {r:List V→Hp→VK→Prop} {t:TA} (bf:Blt f) (bg:Blt g) (hc:Call2R X f g r) (hgx:Gl X x) (hmx:X.mg x = none) (hvx:bootBuiltins x = some f) (hgy:Gl X y) (hmy:X.mg y = none) (hvy:bootBuiltins y = some g)
  (ha:PA X (e::es) t) (hnx:x≠"__name__") (hny:y≠"__name__") (hdx:(x == ("__debug__":Str)) = false) (hdy:(y == ("__debug__":Str)) = false)
  (he:starEach (e::es) X.env = (false,eval e X.env)::starEach es X.env) (hpl:(backTo pos2 (starEach es X.env)).any (·.1) = false)
  (he2:starEach [.Call (.Name y p2) (e::es) [] pos2] X.env = [(false,eval (.Call (.Name y p2) (e::es) [] pos2) X.env)]) :
  PE X (.Call (.Name x p) [.Call (.Name y p2) (e::es) [] pos2] [] pos) (tCB r t):=by
 intro pins s σ H Q I h
 refine wpAny_Call_Name_kw (ld_blt I hgx hmx hvx ?_ hnx hdx)
 refine with1 bf ?_ he2 rfl
 rw [he2]
 change wpAny _ _ (spliced ((false,eval (.Call (.Name y p2) (e::es) [] pos2) X.env)::[])) _ _ s
 refine Calls.spliced_cons ?_
 refine wpAny_Call_Name_kw (ld_blt I hgy hmy hvy ?_ hny hdy)
 exact with1 bg (thn (ha pos2 pins s σ H _ I h) fun us s1 ⟨vs,H1,I1,r1,q1⟩=>thn (hc pins s1 σ H1 vs us Q I1 r1 q1) fun u s2 q=>Calls.spliced_nil q) he hpl
end
def ptP (p:Pt):PV:=.tup [.int p.1,.int p.2]
def asPt:PV→Option Pt
 | .tup [.int x,.int y]=>some (x,y)
 | _=>none
def asPts:List PV→Option (List Pt)
 | []=>some []
 | p::ps=>match asPt p,asPts ps with
  | some q,some qs=>some (q::qs)
  | _,_=>none
theorem asPt_inv {p:PV} {q:Pt} (h:asPt p = some q):p = ptP q:=by
 unfold asPt at h
 split at h
 ·cases h; rfl
 ·cases h
theorem asPts_inv:∀ {ps:List PV} {qs:List Pt},asPts ps = some qs→ps = qs.map ptP
 | [],qs,h=>by cases h; rfl
 | p::ps,qs,h=>by
  unfold asPts at h
  split at h
  ·rename_i q qs' h1 h2
   cases h
   rw [asPt_inv h1,asPts_inv h2]; rfl
  ·cases h
theorem asPts_map:∀ (qs:List Pt),asPts (qs.map ptP) = some qs
 | []=>rfl
 | q::qs=>by
  show asPts (ptP q::qs.map ptP) = _
  unfold asPts
  rw [asPts_map qs]
  rfl
def insU (p:Pt):List Pt→List Pt
 | []=>[p]
 | q::r=>if lx p q then p::q::r else if p = q then q::r else q::insU p r
def sortU (ps:List Pt):List Pt:=ps.foldr insU []
theorem insU_mem (p:Pt):∀ (l:List Pt) (x:Pt),x∈insU p l↔x = p∨x∈l
 | [],x=>by simp [insU]
 | q::r,x=>by
  unfold insU
  split
  ·simp
  ·split
   ·rename_i h; subst h; simp
   ·rw [List.mem_cons,insU_mem p r x,List.mem_cons]
    constructor
    ·rintro (h | h | h)
     ·exact .inr (.inl h)
     ·exact .inl h
     ·exact .inr (.inr h)
    ·rintro (h | h | h)
     ·exact .inr (.inl h)
     ·exact .inl h
     ·exact .inr (.inr h)
theorem insU_pw (p:Pt):∀ (l:List Pt),l.Pairwise lx→(insU p l).Pairwise lx
 | [],_=>List.pairwise_singleton _ _
 | q::r,h=>by
  obtain ⟨h1,h2⟩:=List.pairwise_cons.mp h
  unfold insU
  split
  ·rename_i hp
   refine List.pairwise_cons.mpr ⟨fun x hx=>?_,h⟩
   rcases List.mem_cons.mp hx with rfl | hx
   ·exact hp
   ·exact lx_trans hp (h1 x hx)
  ·rename_i hp
   split
   ·exact h
   ·rename_i hne
    refine List.pairwise_cons.mpr ⟨fun x hx=>?_,insU_pw p r h2⟩
    rcases (insU_mem p r x).mp hx with rfl | hx
    ·rcases lx_tri x q with g | g | g
     ·exact absurd g hp
     ·exact absurd g hne
     ·exact g
    ·exact h1 x hx
theorem sortU_pw:∀ (ps:List Pt),(sortU ps).Pairwise lx
 | []=>.nil
 | p::ps=>insU_pw p _ (sortU_pw ps)
theorem sortU_mem:∀ (ps:List Pt) (x:Pt),x∈sortU ps↔x∈ps
 | [],x=>by simp [sortU]
 | p::ps,x=>by
  show x∈insU p (sortU ps)↔_
  rw [insU_mem,sortU_mem ps,List.mem_cons]
theorem pw_unique:∀ {a b:List Pt},a.Pairwise lx→b.Pairwise lx→(∀ x,x∈a↔x∈b)→a = b
 | [],[],_,_,_=>rfl
 | [],q::b,_,_,h=>by have:=(h q).mpr (.head _); simp at this
 | p::a,[],_,_,h=>by have:=(h p).mp (.head _); simp at this
 | p::a,q::b,ha,hb,h=>by
  obtain ⟨a1,a2⟩:=List.pairwise_cons.mp ha
  obtain ⟨b1,b2⟩:=List.pairwise_cons.mp hb
  have e:p = q:=by
   rcases List.mem_cons.mp ((h p).mp (.head _)) with e | hp
   ·exact e
   ·rcases List.mem_cons.mp ((h q).mpr (.head _)) with e | hq
    ·exact e.symm
    ·exact (lx_asym (a1 q hq) (b1 p hp)).elim
  subst e
  rw [pw_unique a2 b2 fun x=>?_]
  constructor
  ·intro hx
   rcases List.mem_cons.mp ((h x).mp (.tail _ hx)) with e | hx'
   ·subst e; exact (lx_irr (a1 x hx)).elim
   ·exact hx'
  ·intro hx
   rcases List.mem_cons.mp ((h x).mpr (.tail _ hx)) with e | hx'
   ·subst e; exact (lx_irr (b1 x hx)).elim
   ·exact hx'
def PrAt (K:PySem.W.Frag) (H:Hp) (v:V) (p:Pt):Prop:=∃ b,v = .ref b∧SqT K H b [.int p.1,.int p.2]
section
variable {X:Cx} {pins:List (Addr × Obj)} {τ:L2.St} {H:Hp} {s:Shared}
theorem tk_of (I:Inv X pins τ H s) {b:Addr} {x y:Int} (h:SqT X.K H b [.int x,.int y]):TK X.prog X.w s.heap [x,y] b:=by
 obtain ⟨its,r,o,e,c,n,d⟩:=tup_is I h
 obtain ⟨u,w',rfl,⟨t1,rfl⟩,⟨t2,rfl⟩⟩:=vals2 r
 exact ⟨o,_,n,e,c,d,.cons (by simp [intKind,Value.isInt]) (.cons (by simp [intKind,Value.isInt]) .nil)⟩
theorem tk_inj {h:Heap} {p q:Pt} {b:Addr} (h1:TK X.prog X.w h [p.1,p.2] b) (h2:TK X.prog X.w h [q.1,q.2] b):p = q:=by
 have:=h1.inj h2
 have e1:p.1 = q.1:=by injection this
 have e2:p.2 = q.2:=by injection this with _ z; injection z
 exact Prod.ext e1 e2
theorem vals_getV:∀ {xs:List V} {us:List Value} {i:Nat} {u:Value},Vals xs us→us[i]? = some u→∃ x,xs[i]? = some x∧RelV x u
 | _,_,i,_,.nil,e=>by simp at e
 | _,_,0,_,.cons r _,e=>by simp at e; subst e; exact ⟨_,rfl,r⟩
 | _,_,i + 1,u,.cons _ t,e=>by
  obtain ⟨x,h1,h2⟩:=vals_getV (i:=i) (u:=u) t (by simpa using e)
  exact ⟨x,by simpa using h1,h2⟩
def toV:Value→V
 | .ref b=>.ref b
 | _=>.non
theorem c2_sortset (hc:X.calm = true) (hu:X.A.units + 20 < cLine):Call2R X (.builtin "sorted") (.type "set") (fun xs H Q=>∃ l vs ps,xs = [.ref l]∧SqL X.K H l vs∧ps.length≤63∧vs.length = ps.length∧(∀ (i:Nat) (v:V) (p:Pt),vs[i]? = some v→ps[i]? = some p→PrAt X.K H v p) ∧
  ∀ D vs',H D = none→vs'.length = (sortU ps).length→(∀ (i:Nat) (v:V) (q:Pt),vs'[i]? = some v→(sortU ps)[i]? = some q→∃ j:Nat,vs[j]? = some v∧ps[j]? = some q)→Q (.ref D) (upd H D (.lst vs'))):=by
 intro pins s σ H xs us Q I r h
 obtain ⟨l,vs,ps,rfl,hl,h63,hlen,hpr,q⟩:=h
 obtain ⟨u,rfl,ru⟩:=vals1 r
 cases ru
 obtain ⟨its,rv,pl,hz⟩:=I.list hl
 have hh:=I.ok.hd hc
 have il:s.heap.IsList l its.toArray:=pl.isList
 have lits:its.length = ps.length:=by rw [← rv.length]; exact hlen
 refine call_set (U:=fun u=>∃ v∈vs,RelV v u) (ks:=ps.map fun p=>[p.1,p.2]) hh (by omega) il (by simp [lits]) (by simp [lits]; exact h63) (fun i v hv=>?_) (fun v hv=>?_) fun h1 tk1 hS k1=>?_
 ·have hv':its[i]? = some v:=by simpa using hv
  obtain ⟨x,hx,rx⟩:=vals_getV rv hv'
  have hi:i < ps.length:=by rw [← lits]; exact (List.getElem?_eq_some_iff.mp hv').1
  obtain ⟨b,rfl,hb⟩:=hpr i x ps[i] hx (List.getElem?_eq_getElem hi)
  cases rx
  exact ⟨b,[ps[i].1,ps[i].2],rfl,by rw [List.getElem?_map,List.getElem?_eq_getElem hi]; rfl,tk_of I hb⟩
 ·have hv':v∈its:=by simpa using hv
  obtain ⟨i,hi⟩:=List.mem_iff_getElem?.mp hv'
  obtain ⟨x,hx,rx⟩:=vals_getV rv hi
  exact ⟨x,List.mem_of_getElem? hx,rx⟩
 obtain ⟨es,ep,t,ho,S⟩:=hS
 refine call_sorted (s:={ s with heap:=h1,toks:=tk1 }) hh ho S (by omega) fun h2 h' tk n' vs' ps' k2 hD k3 hpw hmem hat hU=>?_
 have e:ps' = sortU ps:=pw_unique hpw (sortU_pw ps) fun x=>(hmem x).trans (sortU_mem ps x).symm
 subst e
 have kk:∀ b o,s.heap.get? b = some o→h'.get? b = some o:=fun b o z=>k3 b o (k2 b o (k1 b o z))
 have I2:Inv X pins σ H { s with heap:=h2,toks:=tk1 }:=I.kept fun b o z=>k2 b o (k1 b o z)
 have hvals:Vals (vs'.map toV) vs':=by
  have key:∀ (L:List Value),(∀ v∈L,∃ b,v = Value.ref b)→Vals (L.map toV) L:=by
   intro L
   induction L with
   | nil=>intro _; exact .nil
   | cons v L ih =>
    intro hL
    obtain ⟨b,rfl⟩:=hL v (.head _)
    exact .cons rfl (ih fun v' hv'=>hL v' (.tail _ hv'))
  refine key vs' fun v hv=>?_
  obtain ⟨i,hi⟩:=List.mem_iff_getElem?.mp hv
  have hil:i < (sortU ps).length:=by rw [← hat.1]; exact (List.getElem?_eq_some_iff.mp hi).1
  obtain ⟨b,e,_⟩:=hat.2 i v _ hi (List.getElem?_eq_getElem hil)
  exact ⟨b,e⟩
 have hvl:vs'.length≤63:=by
  have:=hat.1
  have h3:(sortU ps).length≤ps.length:=by
   have:∀ (L:List Pt),(sortU L).length≤L.length:=by
    intro L
    induction L with
    | nil=>exact Nat.le_refl _
    | cons p L ih =>
     have ins:∀ (M:List Pt),(insU p M).length≤M.length + 1:=by
      intro M
      induction M with
      | nil=>exact Nat.le_refl _
      | cons m M ihm =>
       unfold insU
       split
       ·simp
       ·split
        ·simp
        ·simp only [List.length_cons]; omega
     have:=ins (sortU L)
     show (insU p (sortU L)).length≤_
     simp only [List.length_cons]; omega
   exact this ps
  omega
 refine ⟨.ref h2.objs.size,upd H h2.objs.size (.lst (vs'.map toV)),?_,rfl,q _ _ (I2.hok.fresh (Nat.le_refl _)) (by rw [List.length_map]; exact hat.1) fun i v p hv hp=>?_⟩
 ·exact I2.laid (t':=tk) (o:=.lst (vs'.map toV)) k3 (Nat.le_refl _) ⟨by rw [List.length_map,sizeLine_eq]; omega,vs',n',hvals,hD⟩
 ·rw [List.getElem?_map] at hv
  cases hi:vs'[i]? with
  | none=>rw [hi] at hv; cases hv
  | some u =>
   rw [hi] at hv
   obtain ⟨b,rfl,tkb⟩:=hat.2 i u p hi hp
   have ev:v = .ref b:=(Option.some.inj hv).symm
   subst ev
   obtain ⟨v0,hv0,rv0⟩:=hU _ (List.mem_of_getElem? hi)
   have e0:v0 = .ref b:=by
    cases v0 with
    | ref b'=>have z:Value.ref b = Value.ref b':=rv0; injection z with z; rw [z]
    | non=>exact absurd rv0 (by intro z; cases z)
    | bl _=>exact absurd rv0 (by intro z; cases z)
    | int _=>obtain ⟨_,z⟩:=rv0; cases z
    | str _=>obtain ⟨_,z⟩:=rv0; cases z
    | byt _=>obtain ⟨_,z⟩:=rv0; cases z
    | flt _=>obtain ⟨_,z⟩:=rv0; cases z
    | ty _=>exact absurd rv0 (by intro z; cases z)
   subst e0
   obtain ⟨j,hj⟩:=List.mem_iff_getElem?.mp hv0
   have hjl:j < ps.length:=by rw [← hlen]; exact (List.getElem?_eq_some_iff.mp hj).1
   obtain ⟨b',eb,hb'⟩:=hpr j _ ps[j] hj (List.getElem?_eq_getElem hjl)
   cases eb
   have t1:=tk_of I hb'
   have t2:TK X.prog X.w h' [ps[j].1,ps[j].2] b:=by
    obtain ⟨o,items,n,g,z⟩:=t1
    exact ⟨o,items,n,kk b o g,z⟩
   have:=tk_inj t2 tkb
   rw [← this]
   exact ⟨j,hj,List.getElem?_eq_getElem hjl⟩
end
end G
namespace G
open PySem PySem.Spec PyProof.Rows L2 GS HM
section
variable {X:Cx} {H0 Hs0:Hp} {a b:Expr} {da db:DE} {p p2 pos pos2:Pos}
theorem reps_of_get {K:PySem.W.Frag} {H:Hp}:∀ {vs:List V} {ps:List PV},vs.length = ps.length→(∀ (i:Nat) (v:V) (p:PV),vs[i]? = some v→ps[i]? = some p→Rep K H v p)→Reps K H vs ps
 | [],[],_,_=>.nil
 | [],_::_,h,_=>by simp at h
 | _::_,[],h,_=>by simp at h
 | v::vs,p::ps,h,g=>.cons (g 0 v p rfl rfl) (reps_of_get (by simpa using h) fun i v p a b=>g (i + 1) v p (by simpa using a) (by simpa using b))
def pSortSet:PV→Res PV
 | .lst xs=>match asPts xs with
  | some ps=>if ps.length≤63 then .ok (.lst ((sortU ps).map ptP)) else .stuck
  | none=>.stuck
 | _=>.stuck
theorem rep_pt {K:PySem.W.Frag} {H:Hp} {v:V} {q:Pt} (r:Rep K H v (ptP q)):PrAt K H v q:=by
 obtain ⟨b,xs,rfl,ht,rs⟩:=r.tup_inv
 obtain ⟨v1,v2,rfl,r1,r2⟩:=rs.two_inv
 cases r1.int_inv; cases r2.int_inv
 exact ⟨b,rfl,ht⟩
theorem PrAt.mono {K:PySem.W.Frag} {H H':Hp} {v:V} {q:Pt} (e:Same H H') (h:PrAt K H v q):PrAt K H' v q:=let ⟨b,z,t⟩:=h; ⟨b,z,same_seqT e t⟩
theorem q_sortset (hc:X.calm = true) (hu:X.A.units + 20 < cLine) (ha:QE X H0 Hs0 a da) (hg1:Gl X "sorted") (hm1:X.mg "sorted" = none) (hg2:Gl X "set") (hm2:X.mg "set" = none)
  (he:starEach [a] X.env = [(false,eval a X.env)]) (he2:starEach [.Call (.Name "set" p2) [a] [] pos2] X.env = [(false,eval (.Call (.Name "set" p2) [a] [] pos2) X.env)]) :
  QE X H0 Hs0 (.Call (.Name "sorted" p) [.Call (.Name "set" p2) [a] [] pos2] [] pos) (e1 pSortSet da):=by
 refine PE.imp (pe_two (.fn _) (.ty _) (c2_sortset hc hu) hg1 hm1 (by decide +kernel) hg2 hm2 (by decide +kernel) (pa_cons ha pa_nil he) (by decide) (by decide) (by decide) (by decide) he rfl he2) fun τ H Q h=>?_
 refine RE.mono (one h) fun x H1 ⟨Hs,q,i,r,h1⟩=>?_
 unfold pSortSet at h1
 split at h1
 ·rename_i xs
  split at h1
  ·rename_i ps hps
   split at h1
   ·rename_i h63
    obtain ⟨ad,vs,rfl,hl,rs⟩:=r.lst_inv
    have exs:=asPts_inv hps
    subst exs
    have lv:vs.length = ps.length:=by rw [rs.length,List.length_map]
    have each:∀ (j:Nat) (v:V) (p:Pt),vs[j]? = some v→ps[j]? = some p→Rep X.K Hs v (ptP p):=fun j v p h2 h3=>by
     obtain ⟨v',h4,r4⟩:=rs.get (i:=j) (p:=ptP p) (by rw [List.getElem?_map,h3]; rfl)
     rw [h2] at h4; cases h4; exact r4
    refine ⟨ad,vs,ps,rfl,SqL.of (i _ _ hl),h63,lv,fun j v p h2 h3=>(rep_pt (each j v p h2 h3)).mono i,fun D vs' hD hlen hv=>?_⟩
    refine h1 _ _ _ (.new i hD) (.lst upd_same (Reps.mono (same_upd (i.free hD)) (reps_of_get (by rw [List.length_map]; exact hlen) fun j v p h2 h3=>?_)))
    rw [List.getElem?_map] at h3
    cases hj:(sortU ps)[j]? with
    | none=>rw [hj] at h3; cases h3
    | some q =>
     rw [hj] at h3
     have:ptP q = p:=Option.some.inj h3
     subst this
     obtain ⟨k,h4,h5⟩:=hv j v q h2 hj
     exact each k v q h4 h5
   ·exact h1.elim
  ·exact h1.elim
 ·exact h1.elim
end
end G
namespace G
open PySem PySem.Spec PyProof.Rows L2 GS HM
section
variable {X:Cx} {H0 Hs0:Hp} {a b:Expr} {da db:DE} {pos np apos cpos p p2 pos2:Pos} {x:Str}
theorem qs_pop {i:Nat} (hN:X.N[i]? = some x) (hv:Vis X.env.scope x) (hd:(x == ("__debug__":Str)) = false) (hcd:(x == ("__classdict__":Str)) = false)
  (hbase:attributeBase (.Name x np) "pop" X.env (eval (.Name x np) X.env) = eval (.Name x np) X.env) (hline:(apos.endLine == cpos.line) = true)
  (hsw:swapsWith (.Call (.Attribute (.Name x np) "pop" apos) [] [] cpos) none pos.line X.env = pure false) :
  QS X H0 Hs0 (.Expr (.Call (.Attribute (.Name x np) "pop" apos) [] [] cpos) pos) (sPop i):=by
 intro pins s τ H D I ⟨Hs,σ,S,h⟩
 refine ps_expr (pe_bm0 PySem.F.plainAttrs_list PySem.F.slot_list_pop PySem.F.type_list_pop mt_pop (pe_var hN hv hd hcd) hbase hline) hsw pins s τ H D I ?_
 unfold sPop at h
 split at h
 ·rename_i xs e
  split at h
  ·exact h.elim
  ·rename_i hne
   obtain ⟨v,e1,ad,vs,rfl,h1,h2,h3,h4⟩:=S.slot i _ e
   have hl:vs.length≠0:=by rw [h4.length]; exact fun z=>hne (List.length_eq_zero_iff.mp z)
   refine ⟨_,e1,.inl ⟨rfl,vs,SqL.of h1⟩,ad,vs,vs[vs.length - 1]'(by omega),rfl,rfl,h1,List.getElem?_eq_getElem (by omega),?_⟩
   exact h Hs _ τ (Same.refl _) (S.write i e e1 h2 h3 h4.dropLast)
 ·exact h.elim
theorem xapp (i:Nat) (ha:XE X H0 Hs0 a da) (hN:X.N[i]? = some x:=by rfl) (hv:Vis X.env.scope x:=by first | exact Or.inl rfl | exact Or.inr (Or.inl rfl) | exact Or.inr (Or.inr rfl)) (hd:(x == ("__debug__":Str)) = false:=by decide) (hcd:(x == ("__classdict__":Str)) = false:=by decide)
  (hbase:attributeBase (.Name x np) "append" X.env (eval (.Name x np) X.env) = eval (.Name x np) X.env:=by rfl)
  (hfew:((backTo cpos (starEach [a] X.env)).all (fun x=>!x.1) && (backToKw cpos (keywordEach [] X.env)).all (fun x=>x.1.isSome) && decide ([a].length + ([]:List Keyword).length + (if ([]:List Keyword).isEmpty then 0 else 1) < 30)) = true:=by rfl)
  (hline:(apos.endLine == cpos.line) = true:=by rfl) (hs:noStar a = true:=by rfl) (hsw:noComp (.Call (.Attribute (.Name x np) "append" apos) [a] [] cpos) = true:=by rfl) :
  XS X H0 Hs0 (.Expr (.Call (.Attribute (.Name x np) "append" apos) [a] [] cpos) pos) (sApp i da):=⟨qs_app hN hv hd hcd ha.h hbase hfew hline (star_cons hs) rfl (swap_no hsw)⟩
theorem xpop (i:Nat) (hN:X.N[i]? = some x:=by rfl) (hv:Vis X.env.scope x:=by first | exact Or.inl rfl | exact Or.inr (Or.inl rfl) | exact Or.inr (Or.inr rfl)) (hd:(x == ("__debug__":Str)) = false:=by decide) (hcd:(x == ("__classdict__":Str)) = false:=by decide)
  (hbase:attributeBase (.Name x np) "pop" X.env (eval (.Name x np) X.env) = eval (.Name x np) X.env:=by rfl) (hline:(apos.endLine == cpos.line) = true:=by rfl)
  (hsw:noComp (.Call (.Attribute (.Name x np) "pop" apos) [] [] cpos) = true:=by rfl):XS X H0 Hs0 (.Expr (.Call (.Attribute (.Name x np) "pop" apos) [] [] cpos) pos) (sPop i):=⟨qs_pop hN hv hd hcd hbase hline (swap_no hsw)⟩
theorem xss (ha:XE X H0 Hs0 a da) (hu:X.A.units + 20 < cLine) (hm1:X.mg "sorted" = none) (hm2:X.mg "set" = none) (hc:X.calm = true:=by rfl) (hg1:Gl X "sorted":=by rfl) (hg2:Gl X "set":=by rfl) (h1:noStar a = true:=by rfl) :
  XE X H0 Hs0 (.Call (.Name "sorted" p) [.Call (.Name "set" p2) [a] [] pos2] [] pos) (e1 pSortSet da):=⟨q_sortset hc hu ha.h hg1 hm1 hg2 hm2 (star_cons h1) (star_cons rfl)⟩
def pRev:PV→Res PV
 | .lst xs=>if xs.length≤10000000 then .ok (.lst xs.reverse) else .stuck
 | _=>.stuck
theorem vals_rev {xs:List V} {us:List Value} (r:Vals xs us):Vals xs.reverse us.reverse:=by
 induction r with
 | nil=>exact .nil
 | cons r t ih=>rw [List.reverse_cons,List.reverse_cons]; exact L2.Vals.append ih (.cons r .nil)
theorem c2_rev (hc:X.calm = true):Call2R X (.type "list") (.type "reversed") (fun xs H Q=>∃ l vs,xs = [.ref l]∧SqL X.K H l vs∧∀ D,H D = none→Q (.ref D) (upd H D (.lst vs.reverse))):=by
 intro pins s σ H xs us Q I r h
 obtain ⟨l,vs,rfl,hl,q⟩:=h
 obtain ⟨u,rfl,ru⟩:=vals1 r
 cases ru
 obtain ⟨its,rv,pl,hz⟩:=I.list hl
 refine list_reversed (items:=its.toArray) (I.ok.hd hc) pl.isList (by rw [List.size_toArray,← rv.length]; exact hz) fun h1 h' tk c k1 k2 hlt hD=>?_
 have I1:Inv X pins σ H { s with heap:=h1,toks:=tk }:=I.kept k1
 have hD':h'.get? h1.objs.size = some { cls:=.type "list",data:=.seq its.reverse.toArray c }:=hD
 have k3:∀ b o,s.heap.get? b = some o→h'.get? b = some o:=fun b o e=>k2 b o (Nat.ne_of_lt (Heap.lt_size e)) (k1 b o e)
 have I0:Inv X pins σ H { s with heap:=h',toks:=tk }:=I.kept k3
 refine ⟨.ref h1.objs.size,upd H h1.objs.size (.lst vs.reverse),?_,rfl,q _ (I.hok.fresh (Nat.le_of_lt hlt))⟩
 exact I.laid (t':=tk) (o:=.lst vs.reverse) k3 (Nat.le_of_lt hlt) ⟨by rw [List.length_reverse]; exact hz,its.reverse,c,vals_rev rv,hD'⟩
theorem q_rev (hc:X.calm = true) (ha:QE X H0 Hs0 a da) (hg1:Gl X "list") (hm1:X.mg "list" = none) (hg2:Gl X "reversed") (hm2:X.mg "reversed" = none)
  (he:starEach [a] X.env = [(false,eval a X.env)]) (he2:starEach [.Call (.Name "reversed" p2) [a] [] pos2] X.env = [(false,eval (.Call (.Name "reversed" p2) [a] [] pos2) X.env)]) :
  QE X H0 Hs0 (.Call (.Name "list" p) [.Call (.Name "reversed" p2) [a] [] pos2] [] pos) (e1 pRev da):=by
 refine PE.imp (pe_two (.ty _) (.ty _) (c2_rev hc) hg1 hm1 (by decide +kernel) hg2 hm2 (by decide +kernel) (pa_cons ha pa_nil he) (by decide) (by decide) (by decide) (by decide) he rfl he2) fun τ H Q h=>?_
 refine RE.mono (one h) fun x H1 ⟨Hs,q,i,r,h1⟩=>?_
 unfold pRev at h1
 split at h1
 ·split at h1
  ·obtain ⟨ad,vs,rfl,hl,rs⟩:=r.lst_inv
   exact ⟨ad,vs,rfl,SqL.of (i _ _ hl),fun D hD=>h1 _ _ _ (.new i hD) (.lst upd_same (Reps.mono (same_upd (i.free hD)) rs.reverse))⟩
  ·exact h1.elim
 ·exact h1.elim
theorem xrev (ha:XE X H0 Hs0 a da) (hm1:X.mg "list" = none) (hm2:X.mg "reversed" = none) (hc:X.calm = true:=by rfl) (hg1:Gl X "list":=by rfl) (hg2:Gl X "reversed":=by rfl) (h1:noStar a = true:=by rfl) :
  XE X H0 Hs0 (.Call (.Name "list" p) [.Call (.Name "reversed" p2) [a] [] pos2] [] pos) (e1 pRev da):=⟨q_rev hc ha.h hg1 hm1 hg2 hm2 (star_cons h1) (star_cons rfl)⟩
def asInts:List PV→Option (List Int)
 | []=>some []
 | .int i::r=>match asInts r with
  | some is=>some (i::is)
  | none=>none
 | _=>none
theorem asInts_inv:∀ {ps:List PV} {ns:List Int},asInts ps = some ns→ps = ns.map PV.int
 | [],ns,h=>by cases h; rfl
 | p::ps,ns,h=>by
  unfold asInts at h
  split at h
  ·rename_i e; cases e
  ·rename_i i r e
   cases e
   split at h
   ·rename_i is h2
    cases h
    rw [asInts_inv h2]; rfl
   ·cases h
  ·cases h
def minL (n:Int) (ns:List Int):Int:=ns.foldl (fun a b=>if b < a then b else a) n
theorem minL_le:∀ (ns:List Int) (n:Int),minL n ns≤n∧(∀ x∈ns,minL n ns≤x)∧(minL n ns = n∨minL n ns∈ns)
 | [],n=>⟨Int.le_refl _,fun _ h=>by simp at h,.inl rfl⟩
 | m::ns,n=>by
  show minL (if m < n then m else n) ns≤n∧_
  obtain ⟨h1,h2,h3⟩:=minL_le ns (if m < n then m else n)
  have e:minL n (m::ns) = minL (if m < n then m else n) ns:=rfl
  rw [e]
  obtain ⟨z,hz,hz1,hz2,hz3⟩:∃ z,(if m < n then m else n) = z∧z≤n∧z≤m∧(z = m∨z = n):=⟨_,rfl,by split <;> omega,by split <;> omega,by split <;> simp⟩
  rw [hz] at h1 h2 h3 ⊢
  refine ⟨by omega,fun x hx=>?_,?_⟩
  ·rcases List.mem_cons.mp hx with rfl | hx
   ·omega
   ·exact h2 x hx
  ·rcases h3 with h3 | h3
   ·rcases hz3 with g | g
    ·exact .inr (by rw [h3,g]; exact .head _)
    ·exact .inl (by rw [h3,g])
   ·exact .inr (.tail _ h3)
theorem ints_are:∀ {ns:List Int} {its:List Value},Vals (ns.map V.int) its→IntsAre its ns
 | [],_,.nil=>.nil
 | n::ns,_,.cons r t=>by
  obtain ⟨tk,rfl⟩:=r
  exact .cons n tk (ints_are t)
theorem Reps.ints_inv {K:PySem.W.Frag} {H:Hp}:∀ {ns:List Int} {vs:List V},Reps K H vs (ns.map PV.int)→vs = ns.map V.int
 | [],_,.nil=>rfl
 | n::ns,_,.cons r t=>by
  cases r.int_inv
  rw [Reps.ints_inv t]; rfl
theorem call_min1 (hc:X.calm = true):CallR X (.builtin "min") (fun xs H Q=>∃ l n ns,xs = [.ref l]∧SqL X.K H l ((n::ns).map V.int)∧Q (.int (minL n ns)) H):=by
 intro pins s σ H xs us Q I r h
 obtain ⟨l,n,ns,rfl,hl,q⟩:=h
 obtain ⟨u,rfl,ru⟩:=vals1 r
 cases ru
 obtain ⟨its,rv,pl,hz⟩:=I.list hl
 have hi:=ints_are rv
 obtain ⟨zs,e⟩:=hi.allInts.items
 have hns:n::ns = zs.toList.map (·.1):=by rw [← hi.numsOf,← nums_intItems,← e]
 have hsz:0 < zs.size:=by
  have z:(n::ns).length = zs.size:=by rw [hns,List.length_map,Array.length_toList]
  rw [← z]; exact Nat.succ_pos _
 have il:s.heap.IsList l its.toArray:=pl.isList
 rw [e] at il
 refine min_intList (I.ok.hd hc) il hsz fun v h' tk hv hk=>?_
 obtain ⟨t,rfl⟩:=intItems_at hv
 obtain ⟨b1,b2⟩:=argBest_lt (numAt zs) (zs.size - 1)
 have m1:numAt zs (argBest (fun i j=>decide (numAt zs i < numAt zs j)) (zs.size - 1))∈n::ns:=by rw [hns,numAt_eq]; exact getD_mem (by rw [List.length_map,Array.length_toList]; omega)
 have m2:∀ x∈n::ns,numAt zs (argBest (fun i j=>decide (numAt zs i < numAt zs j)) (zs.size - 1))≤x:=fun x hx=>by
  rw [hns] at hx
  obtain ⟨j,hj,rfl⟩:=mem_getD hx
  rw [List.length_map,Array.length_toList] at hj
  rw [← numAt_eq]; exact b2 j (by omega)
 have em:numAt zs (argBest (fun i j=>decide (numAt zs i < numAt zs j)) (zs.size - 1)) = minL n ns:=by
  obtain ⟨c1,c2,c3⟩:=minL_le ns n
  have d1:minL n ns∈n::ns:=c3.elim (fun z=>by rw [z]; exact .head _) (.tail _)
  have d2:=m2 _ d1
  have d3:minL n ns≤numAt zs (argBest (fun i j=>decide (numAt zs i < numAt zs j)) (zs.size - 1)):=by
   rcases List.mem_cons.mp m1 with z | z
   ·rw [z]; exact c1
   ·exact c2 _ z
  omega
 exact ⟨.int (minL n ns),H,I.kept hk,⟨t,by rw [← em]⟩,q⟩
def bList:List PV→Res PV
 | [.lst xs]=>.ok (.lst xs)
 | [.tup xs]=>.ok (.lst xs)
 | _=>.stuck
theorem cp_list:CallP X (.type "list") bList:=by
 intro EO pins s σ H xs us Q I r h
 obtain ⟨Hs,ps,i,rp,h⟩:=h
 unfold bList at h
 split at h
 ·obtain ⟨v,rfl,r1⟩:=rp.one_inv
  obtain ⟨ad,vs,rfl,hl,rs⟩:=r1.lst_inv
  exact call_list_of pins s σ H _ us Q I r ⟨ad,vs,rfl,.inl (SqL.of (i _ _ hl)),fun D hD=>h _ _ _ (.new i hD) (.lst upd_same (Reps.mono (same_upd (i.free hD)) rs))⟩
 ·obtain ⟨v,rfl,r1⟩:=rp.one_inv
  obtain ⟨ad,vs,rfl,hl,rs⟩:=r1.tup_inv
  exact call_list_of pins s σ H _ us Q I r ⟨ad,vs,rfl,.inr (same_seqT i hl),fun D hD=>h _ _ _ (.new i hD) (.lst upd_same (Reps.mono (same_upd (i.free hD)) rs))⟩
 ·exact h.elim
def bInt:List PV→Res PV
 | [.int i]=>.ok (.int i)
 | [.bl k]=>.ok (.int (if k then 1 else 0))
 | _=>.stuck
theorem cp_int:CallP X (.type "int") bInt:=by
 intro EO pins s σ H xs us Q I r h
 obtain ⟨Hs,ps,i,rp,h⟩:=h
 unfold bInt at h
 split at h
 ·obtain ⟨v,rfl,r1⟩:=rp.one_inv
  cases r1.int_inv
  exact call_int1 pins s σ H _ us Q I r (.inl ⟨_,rfl,ret_int h i⟩)
 ·obtain ⟨v,rfl,r1⟩:=rp.one_inv
  cases r1.bl_inv
  exact call_int1 pins s σ H _ us Q I r (.inr ⟨_,rfl,ret_int h i⟩)
 ·exact h.elim
end
theorem setAll_get:∀ {is:List Nat} {ps:List PV} {σ σ':PSt},setAll is ps σ = .ok σ'→(∀ j,j ∉ is→σ'[j]? = σ[j]?)∧σ'.length = σ.length
 | [],[],σ,σ',h=>by cases h; exact ⟨fun _ _=>rfl,rfl⟩
 | i::is,p::ps,σ,σ',h=>by
  obtain ⟨h1,h2⟩:=setAll_get (is:=is) (ps:=ps) h
  refine ⟨fun j hj=>?_,by rw [h2,List.length_set]⟩
  rw [h1 j (fun z=>hj (.tail _ z)),List.getElem?_set_ne (fun z=>hj (by rw [z]; exact .head _))]
theorem gk_u {k:Nat} {is:List Nat} (h:(is.all fun i=>decide (i < k)) = true:=by rfl):GK k (gU is):=⟨fun ix σ p σ1 e=>by
 have e':∃ ps,setAll is ps (inn k ix σ) = .ok σ1:=by
  unfold gU at e
  split at e
  ·exact ⟨_,e⟩
  ·exact ⟨_,e⟩
  ·cases e
 obtain ⟨ps,e'⟩:=e'
 obtain ⟨h1,h2⟩:=setAll_get e'
 refine ⟨fun j sv hj=>?_,h2⟩
 rw [h1 j (fun z=>inn_low (of_decide_eq_true (List.all_eq_true.mp h j z)) hj)]
 exact hj⟩
end G
namespace G
open PySem PySem.Spec PyProof.Rows L2 HM
theorem mapR_on {α:Type} {f:PV→Res PV} {u v:α→PV} {xs:List α} (h:∀ x∈xs,f (u x) = .ok (v x)):mapR f (xs.map u) = .ok (xs.map v):=by
 induction xs with
 | nil=>rfl
 | cons x xs ih =>
  show (f (u x)).bind _ = _
  rw [h x (.head _),Res.bind_ok,show mapR f (List.map u xs) = _ from ih fun y hy=>h y (.tail _ hy)]
  rfl
theorem cVal_on {α:Type} {d:DI} {g:DG} {de:DE} {k:Nat} {ix:List Nat} {σ:PSt} {u v:α→PV} {xs:List α} (h1:d σ = .ok (xs.map u)) (h2:∀ x∈xs,turnF g de (inn k ix σ) (u x) = .ok (v x)) (h3:xs.length≤10000000):cVal d g de k ix σ = .ok (xs.map v):=by
 unfold cVal
 rw [h1,Res.bind_ok,mapR_on h2]
 show (if (xs.map v).length≤10000000 then _ else _) = _
 rw [if_pos (by rw [List.length_map]; exact h3)]
theorem eComp_on {α:Type} {d:DI} {g:DG} {de:DE} {k:Nat} {ix:List Nat} {σ:PSt} {u v:α→PV} {xs:List α} (h1:d σ = .ok (xs.map u)) (h2:∀ x∈xs,turnF g de (inn k ix σ) (u x) = .ok (v x)) (h3:xs.length≤10000000):eComp d g de k ix σ = .ok (.lst (xs.map v)):=by
 unfold eComp; rw [cVal_on h1 h2 h3]; rfl
theorem sCompO_on {α:Type} {i:Nat} {d:DI} {g:DG} {de:DE} {k:Nat} {ix:List Nat} {σ:PSt} {u v:α→PV} {xs:List α} (h1:d σ = .ok (xs.map u)) (h2:∀ x∈xs,turnF g de (inn k ix σ) (u x) = .ok (v x)) (h3:xs.length≤10000000):sCompO i d g de k ix σ = .ok (.next (σ.set i (some (.own (xs.map v))))):=by
 unfold sCompO; rw [cVal_on h1 h2 h3]; rfl
theorem turnN {k:Nat} {de:DE} {σ:PSt} {p:PV}:turnF (gN k) de σ p = noErr (de (σ.set k (some (.sh p)))):=rfl
theorem turnU2 {i j:Nat} {de:DE} {σ:PSt} {p q:PV}:turnF (gU [i,j]) de σ (.tup [p,q]) = noErr (de ((σ.set i (some (.sh p))).set j (some (.sh q)))):=rfl
theorem pSl_most {xs:List PV}:pSl (.lst xs) none (some (-1)) = .ok (.lst xs.dropLast):=by
 show Res.ok (PV.lst (cutP xs none (some (-1)))) = _
 congr 2
 unfold cutP
 have e1:HT.sIx xs.length 0 none = 0:=rfl
 have e2:HT.sIx xs.length xs.length (some (-1)) = xs.length - 1:=by
  show (if (-1:Int) < 0 then ((-1:Int) + (xs.length:Int)).toNat else min (-1:Int).toNat xs.length) = _
  rw [if_pos (by decide)]; omega
 rw [e1,e2,List.drop_zero,Nat.sub_zero,List.dropLast_eq_take]
theorem atI_last {α:Type} (l:List α) (b:α):atI (l++[b]) (-1) = some b:=by
 unfold atI ixN
 rw [if_neg (by decide),if_pos (by rw [List.length_append]; simp; omega)]
 show (l++[b])[((-1:Int) + ((l++[b]).length:Int)).toNat]? = _
 have:((-1:Int) + ((l++[b]).length:Int)).toNat = l.length:=by rw [List.length_append,List.length_singleton]; omega
 rw [this]; simp
theorem atI_last2 {α:Type} (l:List α) (a b:α):atI (l++[a,b]) (-2) = some a:=by
 unfold atI ixN
 rw [if_neg (by decide),if_pos (by rw [List.length_append]; simp; omega)]
 show (l++[a,b])[((-2:Int) + ((l++[a,b]).length:Int)).toNat]? = _
 have:((-2:Int) + ((l++[a,b]).length:Int)).toNat = l.length:=by rw [List.length_append]; simp; omega
 rw [this]; simp
@[simp] theorem sApp_o {i:Nat} {d:DE} {σ:PSt} {xs:List PV} {p:PV} (h:σ[i]? = some (some (.own xs))) (hl:xs.length < 10000000) (hd:d σ = .ok p):sApp i d σ = .ok (.next (σ.set i (some (.own (xs++[p]))))):=by
 unfold sApp; rw [h]; simp only [hl,if_true,hd]; rfl
theorem sPop_o {i:Nat} {σ:PSt} {xs:List PV} (h:σ[i]? = some (some (.own xs))) (hl:xs≠[]):sPop i σ = .ok (.next (σ.set i (some (.own xs.dropLast)))):=by
 unfold sPop; rw [h]; simp only [hl,if_false]
@[simp] theorem sShare_o {i:Nat} {σ:PSt} {d:DS} {xs:List PV} (h:σ[i]? = some (some (.own xs))):sShare i d σ = d (σ.set i (some (.sh (.lst xs)))):=by unfold sShare; rw [h]
theorem sOwn_0 {i:Nat} {σ:PSt}:sOwn i aNil σ = .ok (.next (σ.set i (some (.own [])))):=rfl
theorem pRev_s {xs:List PV} (h:xs.length≤10000000):pRev (.lst xs) = .ok (.lst xs.reverse):=if_pos h
theorem pSortSet_s {ps:List Pt} (h:ps.length≤63):pSortSet (.lst (ps.map ptP)) = .ok (.lst ((sortU ps).map ptP)):=by
 simp only [pSortSet,asPts_map,h,if_true]
theorem pAdd_l {xs ys:List PV} (h:xs.length + ys.length≤10000000):pAdd (.lst xs) (.lst ys) = .ok (.lst (xs++ys)):=if_pos h
@[simp] theorem bList_l {xs:List PV}:bList [.lst xs] = .ok (.lst xs):=rfl
@[simp] theorem bInt_b {k:Bool}:bInt [.bl k] = .ok (.int (if k then 1 else 0)):=rfl
@[simp] theorem bInt_i {k:Int}:bInt [.int k] = .ok (.int k):=rfl
@[simp] theorem pIx_pt0 {p:Pt}:pIx (ptP p) (.int 0) = .ok (.int p.1):=rfl
@[simp] theorem pIx_pt1 {p:Pt}:pIx (ptP p) (.int 1) = .ok (.int p.2):=rfl
theorem peq_pt (p q:Pt):peq (ptP p) (ptP q) = decide (p = q):=by
 unfold ptP
 simp only [peq,peqs,Bool.and_true]
 obtain ⟨a,b⟩:=p
 obtain ⟨c,d⟩:=q
 by_cases h1:a = c
 ·by_cases h2:b = d
  ·subst h1; subst h2; simp
  ·simp [h1,h2]
 ·simp [h1]
theorem peqs_pts:∀ (ps qs:List Pt),peqs (ps.map ptP) (qs.map ptP) = decide (ps = qs)
 | [],[]=>by simp [peqs]
 | [],_::_=>by simp [peqs]
 | _::_,[]=>by simp [peqs]
 | p::ps,q::qs=>by
  show (peq (ptP p) (ptP q) && peqs (ps.map ptP) (qs.map ptP)) = _
  rw [peq_pt,peqs_pts]
  by_cases h1:p = q
  ·by_cases h2:ps = qs
   ·simp [h1,h2]
   ·simp [h1,h2]
  ·simp [h1]
theorem eqOk_pt (n:Nat) (p:Pt):eqOk (n + 2) (ptP p) = true:=by simp [ptP,eqOk]
theorem eqOk_pts (n:Nat) (ps:List Pt):eqOk (n + 3) (.lst (ps.map ptP)) = true:=by
 show (ps.map ptP).all (eqOk (n + 2)) = true
 rw [List.all_eq_true]
 intro x hx
 obtain ⟨p,_,rfl⟩:=List.mem_map.mp hx
 exact eqOk_pt n p
theorem pEq_pt {p q:Pt}:pEq (ptP p) (ptP q) = .ok (.bl (decide (p = q))):=by
 unfold pEq; rw [if_pos ⟨eqOk_pt 18 p,eqOk_pt 18 q⟩,peq_pt]
theorem pEq_pts {ps qs:List Pt}:pEq (.lst (ps.map ptP)) (.lst (qs.map ptP)) = .ok (.bl (decide (ps = qs))):=by
 unfold pEq; rw [if_pos ⟨eqOk_pts 17 ps,eqOk_pts 17 qs⟩]; show Res.ok (PV.bl (peqs _ _)) = _; rw [peqs_pts]
theorem pNe_pts {ps qs:List Pt}:pNe (.lst (ps.map ptP)) (.lst (qs.map ptP)) = .ok (.bl (!decide (ps = qs))):=by
 unfold pNe; rw [if_pos ⟨eqOk_pts 17 ps,eqOk_pts 17 qs⟩]; show Res.ok (PV.bl (!peqs _ _)) = _; rw [peqs_pts]
theorem sortU_len (L:List Pt):(sortU L).length≤L.length:=by
 induction L with
 | nil=>exact Nat.le_refl _
 | cons p L ih =>
  have ins:∀ (M:List Pt),(insU p M).length≤M.length + 1:=by
   intro M
   induction M with
   | nil=>exact Nat.le_refl _
   | cons m M ihm =>
    unfold insU
    split
    ·simp
    ·split
     ·simp
     ·simp only [List.length_cons]; omega
  have:=ins (sortU L)
  show (insU p (sortU L)).length≤_
  simp only [List.length_cons]; omega
end G
namespace GS
open PySem PySem.W PySem.Calls PyProof.Rows
section
variable {prog:Program} {w:World} {A:Around} {E:Value→Shared→Prop} {s:Shared}
end
structure ZG (xs ys:Array Value) (lo:Addr) (h:Heap) (as:List Addr):Prop where
 rise:as.Pairwise (· < ·)
 above:∀ a∈as,lo < a
 pairs:∀ (j:Nat) (a:Addr),as[j]? = some a→∃ x y,xs[j]? = some x∧ys[j]? = some y∧IsPair h a x y
section
variable {prog:Program} {w:World} {A:Around} {s:Shared} {R:Result→Shared→Prop} {xs ys:Array Value}
namespace FZ
end FZ
end
end GS
namespace G
open PySem PySem.Spec PyProof.Rows L2 GS HM
section
variable {X:Cx} {pins:List (Addr × Obj)} {σ:L2.St} {H:Hp} {s:Shared} {h':Heap}
end
section
variable {X:Cx}
end
section
variable {X:Cx} {H0 Hs0:Hp} {a b:Expr} {da db:DE} {p p2 pos pos2:Pos}
end
end G
namespace HM
theorem line_par {d1 d2 w1 w2:Int} (h:d1 * w2 - d2 * w1 = 0):(d1 * d1 + d2 * d2) * w1 = (w1 * d1 + w2 * d2) * d1∧(d1 * d1 + d2 * d2) * w2 = (w1 * d1 + w2 * d2) * d2:=by
 constructor <;> grind
theorem cr_along {a b c p:Pt} {D u:Int} (h1:D * (c.1 - a.1) = u * (b.1 - a.1)) (h2:D * (c.2 - a.2) = u * (b.2 - a.2)):D * cr p a c = u * cr p a b:=by
 unfold cr; grind
theorem cr_beyond {a b c n:Pt} {D u:Int} (h1:D * (c.1 - a.1) = u * (b.1 - a.1)) (h2:D * (c.2 - a.2) = u * (b.2 - a.2)):D * cr b n c = (D - u) * cr a b n:=by
 unfold cr; grind
theorem cr_betw {a b c p:Pt} {D u:Int} (h1:D * (c.1 - a.1) = u * (b.1 - a.1)) (h2:D * (c.2 - a.2) = u * (b.2 - a.2)):(D - u) * cr p c a + u * cr p c b = 0:=by
 unfold cr
 grind
theorem cr_betw2 {a b c n:Pt} {D u:Int} (h1:D * (c.1 - a.1) = u * (b.1 - a.1)) (h2:D * (c.2 - a.2) = u * (b.2 - a.2)):(D - u) * cr c n a + u * cr c n b = 0:=by
 unfold cr
 grind
theorem cr_f1 (p c a:Pt):(c.1 - a.1) * (c.2 - p.2) - (c.2 - a.2) * (c.1 - p.1) = cr p c a:=by unfold cr; grind
theorem cr_f2 (c n a:Pt):(c.1 - a.1) * (n.2 - c.2) - (c.2 - a.2) * (n.1 - c.1) = cr c n a:=by unfold cr; grind
theorem cr_f3 (p c n:Pt):(c.1 - p.1) * (n.2 - c.2) - (c.2 - p.2) * (n.1 - c.1) = cr p c n:=by unfold cr; grind
theorem sq_pos {d1 d2:Int} (h:d1≠0∨d2≠0):0 < d1 * d1 + d2 * d2:=by
 have a1:0≤d1 * d1:=by rcases Int.le_total 0 d1 with z | z; exact Int.mul_nonneg z z; exact Int.mul_nonneg_of_nonpos_of_nonpos z z
 have a2:0≤d2 * d2:=by rcases Int.le_total 0 d2 with z | z; exact Int.mul_nonneg z z; exact Int.mul_nonneg_of_nonpos_of_nonpos z z
 rcases h with h | h
 ·have:d1 * d1≠0:=fun z=>by rcases Int.mul_eq_zero.mp z with z | z <;> exact h z
  omega
 ·have:d2 * d2≠0:=fun z=>by rcases Int.mul_eq_zero.mp z with z | z <;> exact h z
  omega
theorem Poly.strict {cs l:List Pt} (P:Poly cs l) {k:Nat} {a b c:Pt} (ha:cs[k % cs.length]? = some a) (hb:cs[(k + 1) % cs.length]? = some b) (hc:c∈cs) (h1:c≠a) (h2:c≠b):0 < cr a b c:=by
 have n3:=P.three
 have nn:=P.edge k a b ha hb c (P.sub c hc)
 rcases Int.lt_or_eq_of_le nn with h | h
 ·exact h
 exfalso
 have get:∀ j:Nat,∃ q,cs[j % cs.length]? = some q:=fun j=>⟨_,List.getElem?_eq_getElem (Nat.mod_lt _ (by omega))⟩
 have prev:∀ j:Nat,(j + (cs.length - 1) + 1) % cs.length = j % cs.length:=fun j=>by
  rw [show j + (cs.length - 1) + 1 = j + cs.length by omega,Nat.add_mod_right]
 have prev2:∀ j:Nat,(j + (cs.length - 1) + 2) % cs.length = (j + 1) % cs.length:=fun j=>by
  rw [show j + (cs.length - 1) + 2 = (j + 1) + cs.length by omega,Nat.add_mod_right]
 obtain ⟨p',hp'⟩:=get (k + (cs.length - 1))
 obtain ⟨n',hn'⟩:=get (k + 2)
 have t1:0 < cr p' a b:=P.turn (k + (cs.length - 1)) p' a b hp' (by rw [prev]; exact ha) (by rw [prev2]; exact hb)
 have t2:0 < cr a b n':=P.turn k a b n' ha hb hn'
 have e1:0≤cr p' a c:=P.edge (k + (cs.length - 1)) p' a hp' (by rw [prev]; exact ha) c (P.sub c hc)
 have e2:0≤cr b n' c:=P.edge (k + 1) b n' hb hn' c (P.sub c hc)
 have mema:a∈l:=P.sub a (List.mem_of_getElem? ha)
 have memb:b∈l:=P.sub b (List.mem_of_getElem? hb)
 have hd:b.1 - a.1≠0∨b.2 - a.2≠0:=by
  by_cases z1:b.1 - a.1 = 0
  ·by_cases z2:b.2 - a.2 = 0
   ·exfalso
    unfold cr at t2
    rw [z1,z2] at t2
    simp at t2
   ·exact .inr z2
  ·exact .inl z1
 have hD:=sq_pos hd
 obtain ⟨w1,w2⟩:=line_par (d1:=b.1 - a.1) (d2:=b.2 - a.2) (w1:=c.1 - a.1) (w2:=c.2 - a.2) (by unfold cr at h; omega)
 generalize hDe:(b.1 - a.1) * (b.1 - a.1) + (b.2 - a.2) * (b.2 - a.2) = D at hD w1 w2
 generalize hue:(c.1 - a.1) * (b.1 - a.1) + (c.2 - a.2) * (b.2 - a.2) = u at w1 w2
 have q1:=cr_along (p:=p') w1 w2
 have q2:=cr_beyond (n:=n') w1 w2
 have pos1:0≤D * cr p' a c:=Int.mul_nonneg (by omega) e1
 have pos2:0≤D * cr b n' c:=Int.mul_nonneg (by omega) e2
 have u0:0≤u:=by
  rcases Int.lt_or_le u 0 with z | z
  ·have:=Int.mul_neg_of_neg_of_pos z t1
   omega
  ·exact z
 have uD:u≤D:=by
  rcases Int.lt_or_le D u with z | z
  ·have:=Int.mul_neg_of_neg_of_pos (show D - u < 0 by omega) t2
   omega
  ·exact z
 have un0:u≠0:=fun z=>by
  rw [z,Int.zero_mul] at w1 w2
  have v1:=(Int.mul_eq_zero.mp w1).resolve_left (by omega)
  have v2:=(Int.mul_eq_zero.mp w2).resolve_left (by omega)
  exact h1 (Prod.ext (by omega) (by omega))
 have unD:u≠D:=fun z=>by
  rw [z] at w1 w2
  have v1:=Int.eq_of_mul_eq_mul_left (by omega) w1
  have v2:=Int.eq_of_mul_eq_mul_left (by omega) w2
  exact h2 (Prod.ext (by omega) (by omega))
 obtain ⟨j,hj⟩:=List.mem_iff_getElem?.mp hc
 have hjl:j < cs.length:=(List.getElem?_eq_some_iff.mp hj).1
 have hj':cs[j % cs.length]? = some c:=by rw [Nat.mod_eq_of_lt hjl]; exact hj
 obtain ⟨p,hp⟩:=get (j + (cs.length - 1))
 obtain ⟨n,hn⟩:=get (j + 1)
 have t3:0 < cr p c n:=P.turn (j + (cs.length - 1)) p c n hp (by rw [prev]; exact hj') (by rw [prev2]; exact hn)
 have f1:0≤cr p c a:=P.edge (j + (cs.length - 1)) p c hp (by rw [prev]; exact hj') a mema
 have f2:0≤cr p c b:=P.edge (j + (cs.length - 1)) p c hp (by rw [prev]; exact hj') b memb
 have f3:0≤cr c n a:=P.edge j c n hj' hn a mema
 have f4:0≤cr c n b:=P.edge j c n hj' hn b memb
 have s1:=cr_betw (p:=p) w1 w2
 have zero:∀ {x y:Int},0≤x→0≤y→(D - u) * x + u * y = 0→x = 0∧y = 0:=fun {x y} hx hy hxy=>by
  have m1:0≤(D - u) * x:=Int.mul_nonneg (by omega) hx
  have m2:0≤u * y:=Int.mul_nonneg (by omega) hy
  have z1:(D - u) * x = 0:=by omega
  have z2:u * y = 0:=by omega
  exact ⟨(Int.mul_eq_zero.mp z1).resolve_left (by omega),(Int.mul_eq_zero.mp z2).resolve_left (by omega)⟩
 obtain ⟨z1,z2⟩:=zero f1 f2 s1
 have s2:(D - u) * cr c n a + u * cr c n b = 0:=cr_betw2 w1 w2
 obtain ⟨z3,z4⟩:=zero f3 f4 s2
 have hac:c.1 - a.1≠0∨c.2 - a.2≠0:=by
  by_cases y1:c.1 - a.1 = 0
  ·by_cases y2:c.2 - a.2 = 0
   ·exact absurd (Prod.ext (by omega) (by omega)) h1
   ·exact .inr y2
  ·exact .inl y1
 have:=par (a1:=c.1 - a.1) (a2:=c.2 - a.2) (y1:=c.1 - p.1) (y2:=c.2 - p.2) (z1:=n.1 - c.1) (z2:=n.2 - c.2) hac (by rw [cr_f1]; exact z1) (by rw [cr_f2]; exact z3)
 rw [cr_f3] at this
 omega
end HM
namespace G
open PySem PySem.Spec PyProof.Rows L2 HM
theorem at_nat {xs:List PV} {k:Nat} {p:PV} (h:xs[k]? = some p):atR xs (k:Int) id = .ok p:=by
 have hk:k < xs.length:=(List.getElem?_eq_some_iff.mp h).1
 unfold atR atI ixN
 rw [if_pos (by omega),if_pos (by omega)]
 simp [h]
theorem asRange1_ok {n:Nat} (h:n≤100000):asRange1 [.int (n:Int)] = .ok (rangeL 0 1 n):=by
 simp only [asRange1]
 rw [if_pos ⟨by omega,by omega⟩,Int.toNat_natCast]
theorem sFor_rng {f:List PV→Res (List PV)} {d:DE} {gg:DG} {c:DS} {σ:PSt} {p:PV} {rs:List PV} (hd:d σ = .ok p) (hf:f [p] = .ok rs):sFor (itR f (aCons d aNil)) gg c σ = forS gg c rs σ:=by
 simp only [sFor_s,itR_s,aCons_s,aNil_s,hd,bind_ok',hf]
theorem rangeL_nat (n:Nat):rangeL 0 1 n = (List.range n).map fun (k:Nat)=>PV.int (k:Int):=by
 unfold rangeL
 apply List.map_congr_left
 intro k _
 simp
end G
namespace G
open PySem PySem.Spec PyProof.Rows L2 GS HM
section
variable {X:Cx}
end
section
variable {X:Cx} {H0 Hs0:Hp} {a b:Expr} {da db:DE} {pos np apos cpos p p2 pos2:Pos} {x:Str}
def sOwnL (i:Nat) (d:DE):DS:=fun σ=>(d σ).bind fun p=>match p with
 | .lst xs=>.ok (.next (σ.set i (some (.own xs))))
 | _=>.stuck
theorem qs_ownL {i:Nat} {pos':Pos} (hN:X.N.Nodup) (hi:X.N[i]? = some x) (hx:Loc X.env.scope x) (ha:QE X H0 Hs0 a da) (hg:Gl X "list") (hm:X.mg "list" = none) (he:starEach [a] X.env = [(false,eval a X.env)])
  (hs:swapsWith (.Call (.Name "list" p) [a] [] pos2) (some (.Name x pos')) pos.line X.env = pure false) (hf:X.fn x = true∨X.env.scope.names.lookup x = some .local) :
  QS X H0 Hs0 (.Assign [.Name x pos'] (.Call (.Name "list" p) [a] [] pos2) pos) (sOwnL i da) :=
 PS.imp (ps_set hN hi hx (pe_callTy call_list_of hg hm (by decide +kernel) (pa_cons ha pa_nil he) (by decide) (by decide) he rfl) hs hf) fun D τ H ⟨Hs,σ,S,h⟩ =>
  ⟨Hs,σ,S,Ret.mono (EndR.bind1 h) fun v H1 ⟨Hs1,q,g1,r1,h1⟩=>by
   cases q with
   | lst xs =>
    obtain ⟨ad,vs,rfl,hl,rs⟩:=r1.lst_inv
    have S1:=S.grow g1
    exact ⟨ad,vs,rfl,.inl (SqL.of (S1.g.i _ _ hl)),fun l hl'=>h1 Hs1 _ _ (Same.refl _) (S1.setOwn i hl' rs)⟩
   | _=>exact h1.elim⟩
theorem xownL (i:Nat) {pos':Pos} (ha:XE X H0 Hs0 a da) (hm:X.mg "list" = none) (hN:X.N.Nodup:=by assumption) (hi:X.N[i]? = some x:=by rfl) (hx:Loc X.env.scope x:=by first | exact Or.inl rfl | exact Or.inr rfl) (hg:Gl X "list":=by rfl)
  (hf:X.fn x = true∨X.env.scope.names.lookup x = some .local:=by first | exact Or.inl rfl | exact Or.inr rfl) (h1:noStar a = true:=by rfl) (hsw:noComp (.Call (.Name "list" p) [a] [] pos2) = true:=by rfl) :
  XS X H0 Hs0 (.Assign [.Name x pos'] (.Call (.Name "list" p) [a] [] pos2) pos) (sOwnL i da):=⟨qs_ownL hN hi hx ha.h hg hm (star_cons h1) (swap_no hsw) hf⟩
end
end G
namespace HM
theorem cr_self (a c:Pt):cr a a c = 0:=by unfold cr; grind
section
variable {cs cs' l:List Pt} (P:Poly cs l) (P':Poly cs' l)
include P
theorem Poly.get (k:Nat):∃ a,cs[k % cs.length]? = some a:=⟨_,List.getElem?_eq_getElem (Nat.mod_lt _ (by have:=P.three; omega))⟩
theorem Poly.ne {k:Nat} {a b:Pt} (ha:cs[k % cs.length]? = some a) (hb:cs[(k + 1) % cs.length]? = some b):a≠b:=fun e=>by
 obtain ⟨c,hc⟩:=P.get (k + 2)
 have:=P.turn k a b c ha hb hc
 rw [e,cr_self] at this
 omega
include P'
end
end HM
namespace HM
section
variable {cs l l':List Pt}
end
end HM
namespace G
open PySem PySem.Spec PyProof.Rows L2 GS HM
section
variable {X:Cx} {pins:List (Addr × Obj)} {τ:L2.St} {H:Hp} {s:Shared}
open Classical in
noncomputable def isAt (K:PySem.W.Frag) (H:Hp) (q:Pt) (w:Value):Bool:=decide (∃ b,w = .ref b∧SqT K H b [.int q.1,.int q.2])
theorem isAt_pt (I:Inv X pins τ H s) {q p:Pt} {b:Addr} (h:SqT X.K H b [.int p.1,.int p.2]):isAt X.K H q (.ref b) = decide (p = q):=by
 unfold isAt
 rw [decide_eq_decide]
 constructor
 ·rintro ⟨b',e,h'⟩
  cases e
  have:=I.tuple_inj h h'
  have e1:V.int p.1 = V.int q.1:=by injection this
  have e2:V.int p.2 = V.int q.2:=by injection this with _ z; injection z
  injection e1 with e1
  injection e2 with e2
  exact Prod.ext e1 e2
 ·rintro rfl
  exact ⟨b,rfl,h⟩
theorem any_pts (I:Inv X pins τ H s) (q:Pt):∀ {vs:List V} {ps:List Pt} {its:List Value},Reps X.K H vs (ps.map ptP)→Vals vs its→its.any (isAt X.K H q) = decide (q∈ps)
 | [],ps,[],r,.nil=>by
  cases ps with
  | nil=>simp
  | cons p ps=>cases r
 | v::vs,ps,u::its,r,.cons rv t=>by
  cases ps with
  | nil=>cases r
  | cons p ps =>
   cases r with
   | cons r rs =>
    obtain ⟨b,rfl,hb⟩:=rep_pt r
    cases rv
    rw [List.any_cons,isAt_pt I hb,any_pts I q rs t]
    by_cases h:p = q
    ·simp [h]
    ·have h':¬ q = p:=fun z=>h z.symm
     simp [h,h']
theorem each_pt (I:Inv X pins τ H s) {A:Around} (hA:A.units + 3 < cLine) {q:Pt} {y:V} {u:Value} (ry:RelV y u) (rq:Rep X.K H y (ptP q)):∀ {vs:List V} {ps:List Pt} {its:List Value},Reps X.K H vs (ps.map ptP)→Vals vs its→∀ w∈its,SeqAt.EqAt A s w u (isAt X.K H q w)
 | [],ps,[],r,.nil=>fun w hw=>by simp at hw
 | v::vs,ps,u'::its,r,.cons rv t=>fun w hw=>by
  cases ps with
  | nil=>cases r
  | cons p ps =>
   cases r with
   | cons r rs =>
    rcases List.mem_cons.mp hw with rfl | hw
    ·have d:=(deep I 3 A (ptP p) (ptP q) v y w u hA (eqOk_pt 1 p) (eqOk_pt 1 q) r rq rv ry).2.2
     obtain ⟨b,rfl,hb⟩:=rep_pt r
     cases rv
     rw [isAt_pt I hb,← peq_pt]
     exact d
    ·exact each_pt I hA ry rq rs t w hw
end
def pIn:PV→PV→Res PV
 | p,.lst xs=>match asPt p,asPts xs with
  | some q,some ps=>.ok (.bl (decide (q∈ps)))
  | _,_=>.stuck
 | _,_=>.stuck
def pNotIn:PV→PV→Res PV
 | p,.lst xs=>match asPt p,asPts xs with
  | some q,some ps=>.ok (.bl (!decide (q∈ps)))
  | _,_=>.stuck
 | _,_=>.stuck
section
variable {X:Cx}
theorem opp_in (hu:X.A.units + 20 < cLine):OpP X (compareOp .In) pIn:=by
 intro EO pins s σ H x y v u Q I rx ry h
 obtain ⟨Hs,p,q,i,rp,rq,h⟩:=h
 unfold pIn at h
 split at h
 ·rename_i xs
  split at h
  ·rename_i c ps hc hps
   have e1:=asPt_inv hc
   have e2:=asPts_inv hps
   subst e1; subst e2
   obtain ⟨ad,vs,rfl,hl,rs⟩:=rq.lst_inv
   cases ry
   obtain ⟨its,rv,pl,hz⟩:=I.list (SqL.of (i _ _ hl))
   refine SeqAt.in_listAt (isAt X.K H c) pl.isList (fun w hw=>each_pt I (by show X.A.units + 1 + 3 < cLine; omega) rx (rp.mono i) (Reps.mono i rs) rv w (by simpa using hw)) ⟨.bl _,H,I,rfl,?_⟩
   rw [show its.toArray.any (isAt X.K H c) = its.any (isAt X.K H c) by simp,any_pts I c (Reps.mono i rs) rv]
   exact ret_bl h i
  ·exact h.elim
 ·exact h.elim
theorem opp_notin (hu:X.A.units + 20 < cLine):OpP X (compareOp .NotIn) pNotIn:=by
 intro EO pins s σ H x y v u Q I rx ry h
 obtain ⟨Hs,p,q,i,rp,rq,h⟩:=h
 unfold pNotIn at h
 split at h
 ·rename_i xs
  split at h
  ·rename_i c ps hc hps
   have e1:=asPt_inv hc
   have e2:=asPts_inv hps
   subst e1; subst e2
   obtain ⟨ad,vs,rfl,hl,rs⟩:=rq.lst_inv
   cases ry
   obtain ⟨its,rv,pl,hz⟩:=I.list (SqL.of (i _ _ hl))
   refine SeqAt.notIn_listAt (isAt X.K H c) pl.isList (fun w hw=>each_pt I (by show X.A.units + 1 + 3 < cLine; omega) rx (rp.mono i) (Reps.mono i rs) rv w (by simpa using hw)) ⟨.bl _,H,I,rfl,?_⟩
   rw [show its.toArray.any (isAt X.K H c) = its.any (isAt X.K H c) by simp,any_pts I c (Reps.mono i rs) rv]
   exact ret_bl h i
  ·exact h.elim
 ·exact h.elim
def pLtX:PV→PV→Res PV
 | .int i,.int j=>.ok (.bl (decide (i < j)))
 | p,q=>match asPt p,asPt q with
  | some a,some b=>.ok (.bl (decide (lx a b)))
  | _,_=>.stuck
theorem lexLt_pt (a b:Pt):HT.lexLt [a.1,a.2] [b.1,b.2] = decide (lx a b):=by
 rw [HT.lexLt_cons,HT.lexLt_cons,HT.lexLt_nil_nil]
 unfold lx
 by_cases h1:a.1 = b.1
 ·rw [if_pos h1]
  by_cases h2:a.2 = b.2
  ·rw [if_pos h2]; simp [h1,h2]
  ·rw [if_neg h2]; simp [h1]
 ·rw [if_neg h1]; simp [h1]
@[simp] theorem pLtX_i {i j:Int}:pLtX (.int i) (.int j) = .ok (.bl (decide (i < j))):=rfl
theorem pLtX_pt {a b:Pt}:pLtX (ptP a) (ptP b) = .ok (.bl (decide (lx a b))):=rfl
theorem opp_ltX (hu:X.A.units + 20 < cLine):OpP X (compareOp .Lt) pLtX:=by
 intro EO pins s σ H x y v u Q I rx ry h
 obtain ⟨Hs,p,q,i,rp,rq,h⟩:=h
 unfold pLtX at h
 split at h
 ·cases rp.int_inv
  cases rq.int_inv
  exact op_lt pins s σ H _ _ v u Q I rx ry ⟨_,_,rfl,rfl,ret_bl h i⟩
 ·split at h
  ·rename_i a b ha hb
   have e1:=asPt_inv ha
   have e2:=asPt_inv hb
   subst e1; subst e2
   obtain ⟨b1,rfl,h1⟩:=rep_pt rp
   obtain ⟨b2,rfl,h2⟩:=rep_pt rq
   refine op_ltT (by omega) pins s σ H _ _ v u Q I rx ry ⟨b1,b2,[a.1,a.2],[b.1,b.2],rfl,rfl,same_seqT i h1,same_seqT i h2,?_⟩
   rw [lexLt_pt]
   exact ret_bl h i
  ·exact h.elim
end
section
variable {X:Cx} {H0 Hs0:Hp} {a b c:Expr} {da db dc:DE} {pos:Pos}
end
def sClr (i:Nat):DS:=fun σ=>match σ[i]? with
 | some (some (.own _))=>.ok (.next (σ.set i (some (.own []))))
 | _=>.stuck
section
variable {X:Cx} {H0 Hs0:Hp} {pos np apos cpos:Pos} {x:Str}
theorem qs_clr {i:Nat} (hN:X.N[i]? = some x) (hv:Vis X.env.scope x) (hd:(x == ("__debug__":Str)) = false) (hcd:(x == ("__classdict__":Str)) = false)
  (hbase:attributeBase (.Name x np) "clear" X.env (eval (.Name x np) X.env) = eval (.Name x np) X.env) (hline:(apos.endLine == cpos.line) = true)
  (hsw:swapsWith (.Call (.Attribute (.Name x np) "clear" apos) [] [] cpos) none pos.line X.env = pure false) :
  QS X H0 Hs0 (.Expr (.Call (.Attribute (.Name x np) "clear" apos) [] [] cpos) pos) (sClr i):=by
 intro pins s τ H D I ⟨Hs,σ,S,h⟩
 refine ps_expr (pe_bm0 PySem.F.plainAttrs_list PySem.F.slot_list_clear PySem.F.type_list_clear mt_clear (pe_var hN hv hd hcd) hbase hline) hsw pins s τ H D I ?_
 unfold sClr at h
 split at h
 ·rename_i xs e
  obtain ⟨v,e1,ad,vs,rfl,h1,h2,h3,h4⟩:=S.slot i _ e
  exact ⟨_,e1,.inl ⟨rfl,vs,SqL.of h1⟩,ad,vs,rfl,rfl,h1,h Hs _ τ (Same.refl _) (S.write i e e1 h2 h3 .nil)⟩
 ·exact h.elim
theorem xclr (i:Nat) (hN:X.N[i]? = some x:=by rfl) (hv:Vis X.env.scope x:=by first | exact Or.inl rfl | exact Or.inr (Or.inl rfl) | exact Or.inr (Or.inr rfl)) (hd:(x == ("__debug__":Str)) = false:=by decide) (hcd:(x == ("__classdict__":Str)) = false:=by decide)
  (hbase:attributeBase (.Name x np) "clear" X.env (eval (.Name x np) X.env) = eval (.Name x np) X.env:=by rfl) (hline:(apos.endLine == cpos.line) = true:=by rfl)
  (hsw:noComp (.Call (.Attribute (.Name x np) "clear" apos) [] [] cpos) = true:=by rfl):XS X H0 Hs0 (.Expr (.Call (.Attribute (.Name x np) "clear" apos) [] [] cpos) pos) (sClr i):=⟨qs_clr hN hv hd hcd hbase hline (swap_no hsw)⟩
end
end G
namespace G
open PySem PySem.Spec PyProof.Rows L2 GS HM
def AtP (h:Heap) (v:Value) (p:Pt):Prop:=∃ b its,v = .ref b∧IsTup h b its∧IntsAre its.toList [p.1,p.2]
theorem AtP.keep {h h':Heap} {v:Value} {p:Pt} (x:AtP h v p) (k:∀ b o,h.get? b = some o→h'.get? b = some o):AtP h' v p:=by
 obtain ⟨b,its,e,⟨o,z,y⟩,i⟩:=x
 exact ⟨b,its,e,⟨o,k b o z,y⟩,i⟩
section
variable {prog:Program} {w:World} {A:Around} {R:Result→Shared→Prop} {s:Shared} {I l S:Addr} {items:Array Value} {ps:List Pt} {h₀:Heap}
theorem lt_at {h:Heap} {E:Value→Shared→Prop} {Q:Value→Shared→Prop} {v u:Value} {p q:Pt} {tk:Nat} (hu:A.units < cLine) (hv:AtP h v p) (hw:AtP h u q) (hQ:Q (.bool (decide (lx p q))) { s with heap:=h,toks:=tk }) :
  wpAny (model prog w) A (richCompare .Lt v u) Q E { s with heap:=h,toks:=tk }:=by
 obtain ⟨b,its,rfl,hb,ib⟩:=hv
 obtain ⟨c,jts,rfl,hc,ic⟩:=hw
 exact HT.lt_tupInts (s:={ s with heap:=h,toks:=tk }) hb hc ib ic hu (by rw [lexLt_pt]; exact hQ)
theorem min_loopP (hh:A.handled = none) (hu:A.units + 1 < cLine) (hI:h₀.objs.size≤I) (hS:h₀.objs.size≤S) (hSI:S≠I) (hl:h₀.IsList l items) (hlen:items.size = ps.length)
  (hAt:∀ (i:Nat) (v:Value) (p:Pt),items[i]? = some v→ps[i]? = some p→AtP h₀ v p)
  (hR:∀ (v:Value) (p:Pt) (i:Nat) (h':Heap) (tk:Nat),items[i]? = some v→ps[i]? = some p→(∀ q∈ps,¬ lx q p)→(∀ b o,h₀.get? b = some o→h'.get? b = some o)→R (.ok (.ret v)) { s with heap:=h',toks:=tk }) :
  ∀ (k j:Nat) (h:Heap) (tk c:Nat) (vb:Value) (pb:Pt) (i:Nat),ps.length - (j + 1) = k→j + 1≤ps.length→h.IsListIter I l (j + 1)→(∀ b o,h₀.get? b = some o→h.get? b = some o) →
   h.get? S = some { cls:=.type "list",dict:=none,data:=.seq #[vb,vb] c,slots:=#[] }→items[i]? = some vb→ps[i]? = some pb→(∀ (m:Nat) (q:Pt),m≤j→ps[m]? = some q→¬ lx q pb) →
   codeAny (model prog w) A (.builtin "min.loop" ⟨[.ref I,.none,.ref S],[]⟩) R { s with heap:=h,toks:=tk }:=by
 have nm:(toString "min"++toString ".loop":String) = "min.loop":=by decide
 have old:∀ {b:Addr} {o:Obj},h₀.get? b = some o→b≠I∧b≠S:=fun e=>⟨Nat.ne_of_lt (Nat.lt_of_lt_of_le (Heap.lt_size e) hI),Nat.ne_of_lt (Nat.lt_of_lt_of_le (Heap.lt_size e) hS)⟩
 intro k
 induction k with
 | zero =>
  intro j h tk c vb pb i hk hj hit keep hSv hi hp best
  have hL:h.IsList l items:=hl.at fun o e=>keep l o e
  refine codeAny_builtin PySem.F.entry_min_loop ?_
  rw [Around.under_plainId PySem.F.plain_min_loop _]
  change wpAny _ A.in1 (seqItems? (.ref S) >>= _) _ _ _
  refine wpAny_bind (wpAny_seqItems hSv rfl ?_)
  change wpAny _ A.in1 (tryCatch (pyNext (.ref I)) _ >>= _) _ _ _
  refine wpAny_bind (wpAny_tryCatch (wpAny_pyNext_list_end (s:={ s with heap:=h,toks:=tk }) hh hit hL (Array.getElem?_eq_none (by omega)) fun h' ex=>?_))
  have hS':=ex S _ hSI hSv
  change wpAny _ A.in1 (updateSeq S (fun _=>#[]) >>= _) _ _ _
  refine wpAny_bind (wpAny_updateSeq hS' rfl (wpAny_bind (wpAny_letGo (wpAny_pure ?_))))
  refine hR vb pb i _ tk hi hp (fun q hq=>?_) fun b o e=>(Heap.get?_update_other _ _ (Ne.symm (old e).2)).trans (ex b o (old e).1 (keep b o e))
  obtain ⟨m,hm⟩:=List.mem_iff_getElem?.mp hq
  have hml:m < ps.length:=(List.getElem?_eq_some_iff.mp hm).1
  exact best m q (by omega) hm
 | succ k ih =>
  intro j h tk c vb pb i hk hj hit keep hSv hi hp best
  have hlt:j + 1 < ps.length:=by omega
  have hL:h.IsList l items:=hl.at fun o e=>keep l o e
  obtain ⟨v,hv⟩:∃ v,items[j + 1]? = some v:=⟨_,Array.getElem?_eq_getElem (by omega)⟩
  obtain ⟨q,hq⟩:∃ q,ps[j + 1]? = some q:=⟨_,List.getElem?_eq_getElem hlt⟩
  refine codeAny_builtin PySem.F.entry_min_loop ?_
  rw [Around.under_plainId PySem.F.plain_min_loop _]
  change wpAny _ A.in1 (seqItems? (.ref S) >>= _) _ _ _
  refine wpAny_bind (wpAny_seqItems hSv rfl ?_)
  change wpAny _ A.in1 (tryCatch (pyNext (.ref I)) _ >>= _) _ _ _
  refine wpAny_bind (wpAny_tryCatch (wpAny_pyNext_list_item (s:={ s with heap:=h,toks:=tk }) hit hL hv fun h' hit' sb=>?_))
  have keep':∀ b o,h₀.get? b = some o→h'.get? b = some o:=fun b o e=>sb.extBut b o (old e).1 (keep b o e)
  have hS':=sb.extBut S _ hSI hSv
  change wpAny _ A.in1 (tryCatch (holding [v,v] (richCompare .Lt v vb >>= _)) _ >>= _) _ _ _
  refine wpAny_bind (wpAny_tryCatch (wpAny_holding (wpAny_bind (lt_at (A:=A.in1) (by show A.units + 1 < cLine; exact hu) ((hAt _ _ _ hv hq).keep keep') ((hAt _ _ _ hi hp).keep keep') ?_))))
  refine wpAny_bind (wpAny_holding (wpAny_truthy_bool ?_))
  refine wpAny_bind (wpAny_letGo (wpAny_pure ?_))
  by_cases hb:lx q pb
  ·rw [decide_eq_true hb]
   simp only [if_true]
   refine wpAny_bind (wpAny_updateSeq hS' rfl (wpAny_bind (wpAny_letGo ?_)))
   rw [nm]
   have nI:I≠S:=Ne.symm hSI
   refine wpAny_pure ⟨plainId_quiet PySem.F.plain_min_loop _,ih (j + 1) _ tk _ v q (j + 1) (by omega) hlt (hit'.at fun o e=>(Heap.get?_update_other _ _ hSI).trans e) (fun b o e=>(Heap.get?_update_other _ _ (Ne.symm (old e).2)).trans (keep' b o e)) (Heap.get?_update_self _ hS' rfl) hv hq fun m r hm hr=>?_⟩
   rcases Nat.lt_or_ge m (j + 1) with z | z
   ·exact fun y=>best m r (by omega) hr (lx_trans y hb)
   ·have:m = j + 1:=by omega
    subst this
    rw [hq] at hr; cases hr
    exact lx_irr
  ·rw [decide_eq_false hb]
   simp only [Bool.false_eq_true,if_false]
   refine wpAny_bind (wpAny_letGo ?_)
   rw [nm]
   refine wpAny_pure ⟨plainId_quiet PySem.F.plain_min_loop _,ih (j + 1) h' tk c vb pb i (by omega) hlt hit' keep' hS' hi hp fun m r hm hr=>?_⟩
   rcases Nat.lt_or_ge m (j + 1) with z | z
   ·exact best m r (by omega) hr
   ·have:m = j + 1:=by omega
    subst this
    rw [hq] at hr; cases hr
    exact hb
theorem min_pts {E:Value→Shared→Prop} {Q:Value→Shared→Prop} (hh:A.handled = none) (hu:A.units + 3 < cLine) (hl:s.heap.IsList l items) (hlen:items.size = ps.length) (hne:0 < ps.length)
  (hAt:∀ (i:Nat) (v:Value) (p:Pt),items[i]? = some v→ps[i]? = some p→AtP s.heap v p)
  (h:∀ (v:Value) (p:Pt) (i:Nat) (h':Heap) (tk:Nat),items[i]? = some v→ps[i]? = some p→(∀ q∈ps,¬ lx q p)→(∀ b o,s.heap.get? b = some o→h'.get? b = some o)→Q v { s with heap:=h',toks:=tk }) :
  wpAny (model prog w) A (call (.builtin "min") [.ref l]) Q E s:=by
 have nm:(toString "min"++toString ".loop":String) = "min.loop":=by decide
 refine call_function_tree PySem.F.kind_min PySem.F.plain_min PySem.F.entry_min (PySem.F.args_min1 _) ?_
 change wpAny _ A.in1 (Builtin.Builtins.bindParams "min" ["key","default"] 0 ⟨[],[]⟩ >>= _) _ _ s
 refine wpAny_bind (wpAny_of_eq (show Builtin.Builtins.bindParams "min" ["key","default"] 0 ⟨[],[]⟩ = pure [none,none] from rfl) (wpAny_bind (wpAny_pure ?_)))
 refine wpAny_bind (wpAny_pyIter_list hl (wpAny_bind (wpAny_newObj_type ?_)))
 have szI:(s.heap.push { cls:=.type "list_iterator",data:=.fields #[.ref l,.int 0 0] }).objs.size = s.heap.objs.size + 1:=Heap.size_push ..
 rw [nm]
 obtain ⟨v,hv⟩:∃ v,items[0]? = some v:=⟨_,Array.getElem?_eq_getElem (by omega)⟩
 obtain ⟨q,hq⟩:∃ q,ps[0]? = some q:=⟨_,List.getElem?_eq_getElem hne⟩
 refine wpAny_pure ⟨plainId_quiet PySem.F.plain_min_loop _,codeAny_builtin PySem.F.entry_min_loop ?_⟩
 rw [Around.under_plainId PySem.F.plain_min_loop _]
 generalize hh1:s.heap.push { cls:=.type "list_iterator",data:=.fields #[.ref l,.int 0 0] } = h1 at szI
 have gI:h1.get? s.heap.objs.size = some { cls:=.type "list_iterator",data:=.fields #[.ref l,.int 0 0] }:=by rw [← hh1]; exact Heap.get?_push_size _ rfl
 have k1:∀ b o,s.heap.get? b = some o→h1.get? b = some o:=fun b o e=>by rw [← hh1]; exact Heap.get?_push_of_some _ e
 have gS:(h1.push { cls:=.type "list",data:=.seq #[] }).get? h1.objs.size = some { cls:=.type "list",data:=.seq #[] }:=Heap.get?_push_size _ rfl
 have k2:∀ b o,h1.get? b = some o→(h1.push { cls:=.type "list",data:=.seq #[] }).get? b = some o:=fun b o e=>Heap.get?_push_of_some _ e
 have hSI:h1.objs.size≠s.heap.objs.size:=by omega
 change wpAny _ A.in1 (seqItems? (.ref h1.objs.size) >>= _) _ _ _
 refine wpAny_bind (wpAny_seqItems gS rfl ?_)
 change wpAny _ A.in1 (tryCatch (pyNext (.ref s.heap.objs.size)) _ >>= _) _ _ _
 refine wpAny_bind (wpAny_tryCatch (wpAny_pyNext_list_item (i:=0) (items:=items) (l:=l) ⟨_,k2 _ _ gI,rfl,rfl⟩ (hl.at fun o e=>k2 l o (k1 l o e)) hv fun h' hit' sb=>?_))
 have gS':=sb.extBut _ _ hSI gS
 change wpAny _ A.in1 (updateSeq h1.objs.size (fun _=>#[v,v]) >>= _) _ _ _
 refine wpAny_bind (wpAny_updateSeq gS' rfl ?_)
 rw [nm]
 have old:∀ {b:Addr} {o:Obj},s.heap.get? b = some o→b≠s.heap.objs.size∧b≠h1.objs.size:=fun e=>by
  have:=Heap.lt_size e
  exact ⟨Nat.ne_of_lt this,Nat.ne_of_lt (by rw [szI]; exact Nat.lt_succ_of_lt this)⟩
 refine wpAny_pure ⟨plainId_quiet PySem.F.plain_min_loop _,min_loopP (A:=A) (s:=s) (h₀:=s.heap) hh (by omega) (Nat.le_refl _) (by rw [szI]; exact Nat.le_succ _) hSI hl hlen hAt
  (fun v' p' i' h'' tk hv' hp' best keep=>h v' p' i' h'' tk hv' hp' best keep) _ 0 _ s.toks _ v q 0 rfl hne (hit'.at fun o e=>(Heap.get?_update_other _ _ hSI).trans e)
  (fun b o e=>(Heap.get?_update_other _ _ (Ne.symm (old e).2)).trans (sb.extBut b o (old e).1 (k2 b o (k1 b o e)))) (Heap.get?_update_self _ gS' rfl) hv hq fun m r hm hr=>?_⟩
 have:m = 0:=by omega
 subst this
 rw [hq] at hr; cases hr
 exact lx_irr
end
def minPt (p:Pt) (ps:List Pt):Pt:=ps.foldl (fun a b=>if lx b a then b else a) p
theorem minPt_spec:∀ (ps:List Pt) (p:Pt),(minPt p ps = p∨minPt p ps∈ps)∧¬ lx p (minPt p ps)∧∀ q∈ps,¬ lx q (minPt p ps)
 | [],p=>⟨.inl rfl,lx_irr,fun _ h=>by simp at h⟩
 | r::ps,p=>by
  have e:minPt p (r::ps) = minPt (if lx r p then r else p) ps:=rfl
  obtain ⟨h1,h2,h3⟩:=minPt_spec ps (if lx r p then r else p)
  rw [e]
  by_cases hr:lx r p
  ·rw [if_pos hr] at h1 h2 h3 ⊢
   refine ⟨.inr (h1.elim (fun z=>by rw [z]; exact .head _) (.tail _)),fun z=>h2 (lx_trans hr z),fun q hq=>?_⟩
   rcases List.mem_cons.mp hq with rfl | hq
   ·exact h2
   ·exact h3 q hq
  ·rw [if_neg hr] at h1 h2 h3 ⊢
   refine ⟨h1.imp id (.tail _),h2,fun q hq=>?_⟩
   rcases List.mem_cons.mp hq with rfl | hq
   ·intro z
    rcases lx_tri q p with y | y | y
    ·exact hr y
    ·subst y; exact h2 z
    ·exact h2 (lx_trans y z)
   ·exact h3 q hq
theorem min_uniq {a b:Pt} {ps:List Pt} (ha:a∈ps) (hb:b∈ps) (h1:∀ q∈ps,¬ lx q a) (h2:∀ q∈ps,¬ lx q b):a = b:=by
 rcases lx_tri a b with h | h | h
 ·exact (h2 a ha h).elim
 ·exact h
 ·exact (h1 b hb h).elim
def bMinX:List PV→Res PV
 | [.lst xs]=>match asInts xs with
  | some (n::ns)=>.ok (.int (minL n ns))
  | _=>match asPts xs with
   | some (p::ps)=>.ok (ptP (minPt p ps))
   | _=>.stuck
 | _=>.stuck
section
variable {X:Cx}
theorem cp_minX (hc:X.calm = true) (hu:X.A.units + 20 < cLine):CallP X (.builtin "min") bMinX:=by
 intro EO pins s σ H xs us Q I r h
 obtain ⟨Hs,ps,i,rp,h⟩:=h
 unfold bMinX at h
 split at h
 ·rename_i ys
  obtain ⟨v,rfl,r1⟩:=rp.one_inv
  obtain ⟨ad,vs,rfl,hl,rs⟩:=r1.lst_inv
  split at h
  ·rename_i n ns hi
   have:=asInts_inv hi
   subst this
   have:=rs.ints_inv
   subst this
   exact call_min1 hc pins s σ H _ us Q I r ⟨ad,n,ns,rfl,SqL.of (i _ _ hl),ret_int h i⟩
  ·split at h
   ·rename_i p qs hp
    have:=asPts_inv hp
    subst this
    obtain ⟨u,rfl,ru⟩:=vals1 r
    cases ru
    obtain ⟨its,rv,pl,hz⟩:=I.list (SqL.of (i _ _ hl))
    have rs':=Reps.mono i rs
    have len:its.length = (p::qs).length:=by rw [← rv.length,rs.length,List.length_map]
    have at':∀ (j:Nat) (v:Value) (q:Pt),its[j]? = some v→(p::qs)[j]? = some q→∃ x:V,vs[j]? = some x∧RelV x v∧Rep X.K H x (ptP q):=fun j v q hv hq=>by
     obtain ⟨x,hx,rx⟩:=vals_getV rv hv
     obtain ⟨x',hx',rx'⟩:=rs'.get (i:=j) (p:=ptP q) (by rw [List.getElem?_map,hq]; rfl)
     rw [hx] at hx'; cases hx'
     exact ⟨x,hx,rx,rx'⟩
    refine min_pts (items:=its.toArray) (ps:=p::qs) (I.ok.hd hc) (by omega) pl.isList (by rw [List.size_toArray]; exact len) (by simp) (fun j v q hv hq=>?_) fun v q j h' tk hv hq best keep=>?_
    ·obtain ⟨x,hx,rx,rr⟩:=at' j v q (by simpa using hv) hq
     obtain ⟨b,rfl,hb⟩:=rep_pt rr
     cases rx
     obtain ⟨its',r',hp'⟩:=tup_is I hb
     refine ⟨b,its'.toArray,rfl,hp',?_⟩
     exact intsAre_of (ns:=[q.1,q.2]) r'
    ·obtain ⟨x,hx,rx,rr⟩:=at' j v q (by simpa using hv) hq
     have eq:q = minPt p qs:=by
      obtain ⟨m1,m2,m3⟩:=minPt_spec qs p
      refine min_uniq (ps:=p::qs) (List.mem_of_getElem? hq) (m1.elim (fun z=>by rw [z]; exact .head _) (.tail _)) best fun r hr=>?_
      rcases List.mem_cons.mp hr with rfl | hr
      ·exact m2
      ·exact m3 r hr
     subst eq
     refine ⟨x,H,I.kept keep,rx,?_⟩
     obtain ⟨x',hx',rx'⟩:=rs.get (i:=j) (p:=ptP (minPt p qs)) (by rw [List.getElem?_map,hq]; rfl)
     rw [hx] at hx'; cases hx'
     exact h _ Hs H (.refl i) rx'
   ·exact h.elim
 ·exact h.elim
end
end G
namespace G
open PySem PySem.Spec PyProof.Rows L2 GS HM
section
variable {X:Cx} {pins:List (Addr × Obj)} {H0 Hs0:Hp} {σ:PSt} {τ:L2.St} {tg elt iter cd:Expr} {scope:Scope} {pos:Pos} {cl:List (Str × Addr)} {N:List Str} {k:Nat} {ix:List Nat} {g:DG} {de:DE} {tc:DT}
variable {d:DI}
structure BlkOkI (X:Cx) (tg elt cd:Expr) (scope:Scope) (cl:List (Str × Addr)) (N:List Str) (k:Nat) (ix:List Nat) (g:DG) (tc:DT) (de:DE):Prop where
 O:CompOk X scope cl N k ix
 calm:X.calm = true
 hg:∀ (pins:List (Addr × Obj)) (fp:List Addr) (C:Addr) (s:Shared) (H A B:Hp),QG (cxC X pins scope cl C N fp s H) A B tg g
 he:∀ (pins:List (Addr × Obj)) (fp:List Addr) (C:Addr) (s:Shared) (H A B:Hp),QE (cxC X pins scope cl C N fp s H) A B elt de
 ht:∀ (pins:List (Addr × Obj)) (fp:List Addr) (C:Addr) (s:Shared) (H A B:Hp),QT (cxC X pins scope cl C N fp s H) A B cd tc
 gk:∀ σ p σ1,g p (inn k ix σ) = .ok σ1→(∀ (j:Nat) (sv:SV),(inn k ix σ)[j]? = some (some sv)→σ1[j]? = some (some sv))∧σ1.length = (inn k ix σ).length
end
end G
namespace G
open PySem PySem.Spec PyProof.Rows L2 GS HM
def intsB:List Value→List Int→Bool
 | [],[]=>true
 | .int i _::us,n::ns=>decide (i = n) && intsB us ns
 | _,_=>false
def conIn (K:PySem.W.Frag) (C:Addr) (ns:List Int):Bool:=match K.lookup C with
 | some ⟨.type "tuple",_,.seq its _,_⟩=>decide (its.size≤100) && intsB its.toList ns
 | _=>false
structure ConAt (K:PySem.W.Frag) (x:Str) (ns:List Int):Prop where
 ex:∃ C:Addr,ClsIs K x C∧conIn K C ns = true
section
variable {X:Cx} {H0 Hs0:Hp} {x:Str} {pos:Pos} {ns:List Int}
end
end G
namespace GS
open PySem
namespace FD
end FD
section
variable {prog:Program} {w:World} {A:Around} {E:Value→Shared→Prop} {s:Shared}
end
end GS
namespace GS
open PySem PySem.W PySem.Calls PyProof.Rows
section
variable {prog:Program} {w:World} {A:Around} {E:Value→Shared→Prop} {s:Shared} {it d:Addr} {es:Array DictEntry} {ep i:Nat}
end
end GS
namespace G
open PySem PySem.Spec PyProof.Rows L2 GS HM
section
variable {X:Cx} {pins:List (Addr × Obj)} {τ:L2.St} {H:Hp} {s:Shared}
end
section
variable {X:Cx} {H0 Hs0:Hp} {a:Expr} {da:DE} {p p2 pos pos2:Pos}
end
end G
namespace G
open PySem PySem.Spec PyProof.Rows L2 GS HM
section
variable {X:Cx} {H0 Hs0:Hp} {a:Expr} {da:DE} {pos pos':Pos} {x:Str}
end
end G
namespace HM
inductive Comb (L:List (Int × Int × Int)):Int→Int→Int→Prop where
 | mem {a b c:Int}:(a,b,c)∈L→Comb L a b c
 | add {a b c a' b' c' k k':Int}:0 < k→0 < k'→Comb L a b c→Comb L a' b' c'→Comb L (k * a + k' * a') (k * b + k' * b') (k * c + k' * c')
end HM
namespace G
open PySem PySem.Spec PyProof.Rows L2 GS HM
def RetN (K:PySem.W.Frag) (Hs H:Hp) (r:Res PV) (Q:VK):Prop:=match r with
 | .ok (.lst xs)=>∀ a Hs' H',Grow Hs H Hs' H'→H a = none→Rep K Hs' (.ref a) (.lst xs)→Q (.ref a) H'
 | _=>False
def FspN (K:PySem.W.Frag) (n:Nat) (m:List PV→Res PV):Sp:=fun vs H Q _=>vs.length = n∧∃ Hs ps,Same Hs H∧Reps K Hs vs ps∧RetN K Hs H (m ps) Q
section
variable (X:Cx) (H0 Hs0:Hp)
def EndRN (D:Ends):Res Fl→Prop
 | .ok (.ret (.lst xs))=>∀ a Hs' H',Grow Hs0 H0 Hs' H'→H0 a = none→Rep X.K Hs' (.ref a) (.lst xs)→D.rt (.ref a) H'
 | _=>False
def RSN (d:DS):TS:=fun D τ H=>∃ Hs σ,SR X.K H0 Hs0 Hs H σ τ∧EndRN X H0 Hs0 D (d σ)
structure XN (ss:List Stmt) (d:DS):Prop where
 h:PSs X ss (RSN X H0 Hs0 d)
end
def sSeqN (d1 d2:DS):DS:=fun σ=>match d1 σ with
 | .ok (.next σ')=>d2 σ'
 | _=>.stuck
theorem sSeqN_ok {d1 d2:DS} {σ σ1:PSt} {r:Res Fl} (h1:d1 σ = .ok (.next σ1)) (h2:d2 σ1 = r):sSeqN d1 d2 σ = r:=by
 unfold sSeqN; rw [h1]; exact h2
def sRetO (i:Nat):DS:=fun σ=>match σ[i]? with
 | some (some (.own xs))=>.ok (.ret (.lst xs))
 | _=>.stuck
theorem sRetO_ok {i:Nat} {σ:PSt} {xs:List PV} (h:σ[i]? = some (some (.own xs))):sRetO i σ = .ok (.ret (.lst xs)):=by unfold sRetO; rw [h]
section
variable {X:Cx} {H0 Hs0:Hp} {st:Stmt} {sts:List Stmt} {d1 d2:DS} {x:Str} {pos pos' np p:Pos}
theorem xn (h1:XS X H0 Hs0 st d1) (h2:XN X H0 Hs0 sts d2):XN X H0 Hs0 (st::sts) (sSeqN d1 d2):=⟨PSs.imp (pss_cons h1.h h2.h) fun D τ H ⟨Hs,σ,S,h⟩=>⟨Hs,σ,S,by
 unfold sSeqN at h
 split at h
 ·rename_i σ' e
  rw [e]
  exact fun Hs' H' τ' _ S'=>⟨Hs',σ',S',h⟩
 ·exact h.elim⟩⟩
theorem xnret (i:Nat) (hN:X.N[i]? = some x:=by rfl) (hv:Vis X.env.scope x:=by first | exact Or.inl rfl | exact Or.inr (Or.inl rfl) | exact Or.inr (Or.inr rfl)) (hd:(x == ("__debug__":Str)) = false:=by decide) (hcd:(x == ("__classdict__":Str)) = false:=by decide) :
  XN X H0 Hs0 [.Return (some (.Name x np)) pos] (sRetO i):=⟨PSs.imp (pss_one (ps_ret (pe_var hN hv hd hcd))) fun D τ H ⟨Hs,σ,S,h⟩=>by
 unfold sRetO at h
 split at h
 ·rename_i xs e
  obtain ⟨v,e1,ad,vs,rfl,hH,hHs,hH0,r⟩:=S.slot i _ e
  obtain ⟨Hs',sm,S'⟩:=S.share e
  obtain ⟨v',e2,r'⟩:=S'.slot i (.sh (.lst xs)) (by rw [List.getElem?_set_self (List.getElem?_eq_some_iff.mp e).1])
  rw [e1] at e2
  cases e2
  exact ⟨.ref ad,e1,h ad Hs' H S'.g hH0 r'⟩
 ·exact h.elim⟩
def sOwnA (i:Nat) (da db:DE):DS:=fun σ=>(da σ).bind fun p=>(db σ).bind fun q=>(pAdd p q).bind fun r=>match r with
 | .lst xs=>.ok (.next (σ.set i (some (.own xs))))
 | _=>.stuck
theorem xownA (i:Nat) {a b:Expr} {da db:DE} (ha:XE X H0 Hs0 a da) (hb:XE X H0 Hs0 b db) (hN:X.N.Nodup:=by assumption) (hi:X.N[i]? = some x:=by rfl) (hx:Loc X.env.scope x:=by first | exact Or.inl rfl | exact Or.inr rfl) (hs:noComp (.BinOp a .Add b p) = true:=by rfl)
  (hf:X.fn x = true∨X.env.scope.names.lookup x = some .local:=by first | exact Or.inl rfl | exact Or.inr rfl):XS X H0 Hs0 (.Assign [.Name x pos'] (.BinOp a .Add b p) pos) (sOwnA i da db) :=
 ⟨PS.imp (ps_set hN hi hx (pe_op op_cat ha.h hb.h) (swap_no hs) hf) fun D τ H ⟨Hs,σ,S,h⟩ =>
  ⟨Hs,σ,S,Ret.mono (EndR.bind1 h) fun v H1 ⟨Hs1,p,g1,r1,h1⟩=>⟨Hs1,σ,S.grow g1,Ret.mono (EndR.bind1 h1) fun w H2 ⟨Hs2,q,g2,r2,h2⟩=>by
   have r1':=r1.mono g2.s
   unfold pAdd at h2
   split at h2
   ·exact h2.elim
   ·split at h2
    ·rename_i xs ys hl
     obtain ⟨a',vs,rfl,ha',ra⟩:=r1'.lst_inv
     obtain ⟨b',ws,rfl,hb',rb⟩:=r2.lst_inv
     have l1:=ra.length; have l2:=rb.length
     have S2:=(S.grow g1).grow g2
     exact ⟨a',b',vs,ws,rfl,rfl,g2.i _ _ ha',g2.i _ _ hb',by rw [sizeLine_eq]; omega,fun p hp=>h2 Hs2 _ _ (Same.refl _) (S2.setOwn i hp (ra.append rb))⟩
    ·exact h2.elim
   ·exact h2.elim⟩⟩⟩
theorem sOwnA_ok {i:Nat} {da db:DE} {σ:PSt} {p q:PV} {xs:List PV} (h1:da σ = .ok p) (h2:db σ = .ok q) (h3:pAdd p q = .ok (.lst xs)):sOwnA i da db σ = .ok (.next (σ.set i (some (.own xs)))):=by
 unfold sOwnA; rw [h1,Res.bind_ok,h2,Res.bind_ok,h3]; rfl
def sBorT (i:Nat) (t:DT) (d1 d2:DS):DS:=fun σ=>match σ[i]? with
 | some (some (.own xs))=>(match t (σ.set i (some (.sh (.lst xs)))) with
  | .ok b=>if b = true then d1 σ else d2 σ
  | _=>.stuck)
 | _=>.stuck
theorem xborT (i:Nat) {c:Expr} {t:DT} {s1 s2:List Stmt} (hc:XT X H0 Hs0 c t) (h1:XB X H0 Hs0 s1 d1) (h2:XB X H0 Hs0 s2 d2):XS X H0 Hs0 (.If c s1 s2 pos) (sBorT i t d1 d2) :=
 ⟨PS.imp (ps_if hc.h h1.h h2.h) fun D τ H ⟨Hs,σ,S,h⟩=>by
  unfold sBorT at h
  split at h
  ·rename_i xs e
   obtain ⟨Hs',e',S'⟩:=S.share e
   refine ⟨Hs',_,S',?_⟩
   generalize t (σ.set i (some (.sh (.lst xs)))) = r at h
   split at h
   ·rename_i b
    intro Hs1 H1 g
    have S1:=S.grow ⟨Same.refl _,S.g.i.trans g.h,g.h,fun _ _ z=>z⟩
    cases b with
    | true=>exact ⟨Hs,σ,S1,EndR.same h (Same.refl _)⟩
    | false=>exact ⟨Hs,σ,S1,EndR.same h (Same.refl _)⟩
   ·exact h.elim
  ·exact h.elim⟩
theorem sBorT_ok {i:Nat} {t:DT} {σ:PSt} {xs:List PV} {b:Bool} (h:σ[i]? = some (some (.own xs))) (ht:t (σ.set i (some (.sh (.lst xs)))) = .ok b):sBorT i t d1 d2 σ = if b = true then d1 σ else d2 σ:=by
 unfold sBorT; rw [h]; simp only [ht]
structure FunNew (X:Cx) (f:Str) (m:List PV→Res PV):Prop where
 ex:∃ (a:Addr) (fd:FuncData) (ps:List Str) (k:Nat),X.mg f = some (.ref a)∧PySem.W.keepIn X.K (.ref a) = true∧Binds X.K fd ps []∧Room k X.A∧ps.length = 1∧FnOk X.prog X.w X.K X.mg X.base (CXG X.prog X.w) k a fd ps (FspN X.K ps.length m)
def less (Hs:Hp) (ad:Addr):Hp:=fun x=>if x = ad then none else Hs x
theorem less_ne {Hs:Hp} {ad x:Addr} (h:x≠ad):less Hs ad x = Hs x:=if_neg h
theorem reps_less {K:PySem.W.Frag} {Hs:Hp} {ad:Addr} {us:List V} (hl:Hs ad = some (.lst us)):∀ {ws:List V} {ps:List Pt},Reps K Hs ws (ps.map ptP)→Reps K (less Hs ad) ws (ps.map ptP)
 | [],ps,r=>by
  cases ps with
  | nil=>exact .nil
  | cons p ps=>cases r
 | w::ws,ps,r=>by
  cases ps with
  | nil=>cases r
  | cons p ps =>
   cases r with
   | cons r rs =>
    refine .cons ?_ (reps_less hl rs)
    obtain ⟨b,rfl,hb⟩:=rep_pt r
    refine .tup (xs:=[.int p.1,.int p.2]) ?_ (.cons (.int _) (.cons (.int _) .nil))
    rcases hb with (h | ⟨o,h⟩) | h
    ·exact .inl (.inl (by rw [less_ne (fun z=>by rw [z,hl] at h; cases h)]; exact h))
    ·exact .inl (.inr ⟨o,by rw [less_ne (fun z=>by rw [z,hl] at h; cases h)]; exact h⟩)
    ·exact .inr h
def sLend (i j:Nat) (m:List PV→Res PV):DS:=fun σ=>match σ[i]? with
 | some (some (.own xs))=>(match m [.lst xs] with
  | .ok (.lst ys)=>(match asPts ys with
   | some _=>.ok (.next (σ.set j (some (.sh (.lst ys)))))
   | none=>.stuck)
  | _=>.stuck)
 | _=>.stuck
theorem sLend_ok {i j:Nat} {m:List PV→Res PV} {σ:PSt} {xs:List PV} {ps:List Pt} (h:σ[i]? = some (some (.own xs))) (hm:m [.lst xs] = .ok (.lst (ps.map ptP))):sLend i j m σ = .ok (.next (σ.set j (some (.sh (.lst (ps.map ptP)))))):=by
 unfold sLend; rw [h]; simp only [hm,asPts_map]
theorem xlend (i j:Nat) {f y:Str} {pos2:Pos} {m:List PV→Res PV} (F:FunNew X f m) (hN:X.N.Nodup:=by assumption) (hj:X.N[j]? = some x:=by rfl) (hi:X.N[i]? = some y:=by rfl) (hx:Loc X.env.scope x:=by first | exact Or.inl rfl | exact Or.inr rfl) (hg:Gl X f:=by rfl)
  (hv:Vis X.env.scope y:=by first | exact Or.inl rfl | exact Or.inr (Or.inl rfl) | exact Or.inr (Or.inr rfl)) (hd:(y == ("__debug__":Str)) = false:=by decide) (hcd:(y == ("__classdict__":Str)) = false:=by decide) (hdb:(f == ("__debug__":Str)) = false:=by decide)
  (hs:noComp (.Call (.Name f p) [.Name y np] [] pos2) = true:=by rfl) (hf:X.fn x = true∨X.env.scope.names.lookup x = some .local:=by first | exact Or.inl rfl | exact Or.inr rfl):XS X H0 Hs0 (.Assign [.Name x pos'] (.Call (.Name f p) [.Name y np] [] pos2) pos) (sLend i j m):=by
 obtain ⟨fa,fd,ps,k,hm,hk,hb,hr,h1,F⟩:=F.ex
 refine ⟨PS.imp (ps_set hN hj hx (pe_call F hr hg hm hk hb .nil passN (pa_cons (pe_var hi hv hd hcd) pa_nil rfl) hdb rfl rfl) (swap_no hs) hf) fun D τ H ⟨Hs,σ,S,h⟩=>?_⟩
 unfold sLend at h
 split at h
 ·rename_i xs e
  split at h
  ·rename_i ys em
   split at h
   ·rename_i qs eq
    have ey:=asPts_inv eq
    subst ey
    obtain ⟨v,e1,ad,vs,rfl,hH,hHs,hH0,r⟩:=S.slot i _ e
    refine ⟨.ref ad,e1,?_⟩
    show FspN X.K ps.length m ([.ref ad]++[]) H _ (fun _ _ _=>False)
    refine ⟨by rw [h1]; rfl,upd Hs ad (.lst vs),[.lst xs],?_,.cons (.lst upd_same (r.mono (same_lay hHs))) .nil,?_⟩
    ·intro b u q
     by_cases z:b = ad
     ·subst z; rw [upd_same] at q; cases q; exact hH
     ·rw [upd_ne z] at q; exact S.g.i b u q
    ·rw [em]
     intro b Hs' H' g hb' rb
     have hl:Hs' ad = some (.lst vs):=g.s _ _ upd_same
     have nb:b≠ad:=fun z=>by rw [z,hH] at hb'; cases hb'
     obtain ⟨b',ws,z,hw,rw'⟩:=rb.lst_inv
     cases z
     have G2:Grow Hs H (less Hs' ad) H':=⟨fun c u q=>by
       have nc:c≠ad:=fun z=>by rw [z,hHs] at q; cases q
       rw [less_ne nc]
       exact g.s _ _ (by rw [upd_ne nc]; exact q),fun c u q=>by
       by_cases z:c = ad
       ·rw [z] at q; unfold less at q; rw [if_pos rfl] at q; cases q
       ·rw [less_ne z] at q; exact g.i _ _ q,g.h,fun c hc hn=>by
       by_cases z:c = ad
       ·unfold less; rw [if_pos z]
       ·rw [less_ne z]; exact g.o c hc (by rw [upd_ne z]; exact hn)⟩
     exact h (less Hs' ad) H' _ G2.s ((S.grow G2).set j (.lst (by rw [less_ne nb]; exact hw) (reps_less hl rw')))
   ·exact h.elim
  ·exact h.elim
 ·exact h.elim
end
structure NewIn (P:Program) (w:World) (K:PySem.W.Frag) (mg:Str→Option Value) (base:Heap) (x:Str) (k:Nat) (m:List PV→Res PV):Prop where
 ex:∃ (a:Addr) (fd:FuncData) (ps:List Str),mg x = some (.ref a)∧PySem.W.keepIn K (.ref a) = true∧Binds K fd ps []∧ps.length = 1∧FnOk P w K mg base (CXG P w) k a fd ps (FspN K ps.length m)
theorem NewIn.is {x:Str} {j:Nat} {m:List PV→Res PV} {X:Cx} {k:Nat} (F:NewIn X.prog X.w X.K X.mg X.base x j m) (hr:Room k X.A) (h:j≤k:=by decide):FunNew X x m:=by
 obtain ⟨a,fd,ps,h1,h2,h3,h4,h5⟩:=F.ex
 exact ⟨a,fd,ps,j,h1,h2,h3,hr.mono h,h4,h5⟩
section
variable {P:Program} {w:World} {K:PySem.W.Frag} {mg:Str→Option Value} {base h:Heap}
theorem new_in {x:Str} {st:Stmt} {N ps:List Str} {k:Nat} {d:DS} (D:DefAt K x st) (KI:K.In h) (GN:h.Ns mainGlobals mg) (S:FnScope N ps (defScope st)) (h1:ps.length = 1)
  (hb:∀ (kV doc pm:Value) (an:Option Addr) (cdv ct:Value) (us:List Value),us.length = ps.length→bindArgs (PySem.W.fnOf x x (defArgs st) (defBody st) (defScope st) .none kV doc pm an cdv ct) ⟨us,[]⟩ = pure (ps.zip us))
  (hbody:∀ (f:Addr) (cdv:Value) (A:Around) (outer:List Env) (s:Shared) (H Hs:Hp) (E:XK),Room k (A.deeper (envOfC x (defScope st) s.heap.objs.size f cdv)) →
   XN (cxOf (CXG P w) P w K mg base N x (defScope st) f cdv A outer s H E).nox H Hs (defBody st) d):NewIn P w K mg base x (k + 1) (runF ps.length N.length d):=by
 obtain ⟨f,fd,a,F⟩:=D.ex
 refine ⟨f,fd,ps,PySem.W.mg_of KI GN a,F.kp,F.binds hb,h1,?_⟩
 have hpl:ps.length≤N.length:=by have:=congrArg List.length S.pre; rw [List.length_take] at this; omega
 refine fun_okX F S (fun vs H Q E h=>h.1) (fun cdv A outer s H vs Q E hr h=>?_)
 obtain ⟨hl,Hs,qs,i,r,h⟩:=h
 refine ⟨_,PSs.nox (hbody f cdv A outer s H Hs E hr).h,Hs,start0 N.length qs,SR.start i r (by omega),?_⟩
 rw [runF_eq (by rw [← r.length,hl])] at h
 generalize d (start0 N.length qs) = rr at h ⊢
 cases rr with
 | ok fl =>
  cases fl with
  | next σ'=>exact h.elim
  | ret p =>
   cases p with
   | lst xs=>exact fun a Hs' H' g h0 rv=>h a Hs' H' g h0 rv
   | _=>exact h.elim
  | brk σ'=>exact h.elim
  | cont σ'=>exact h.elim
 | err c=>exact h.elim
 | stuck=>exact h.elim
end
end G
namespace Law
open PySem PySem.Spec PyProof.Rows L2 G HM
def top (i:Nat):Stmt:=PySem.Challenge.pw_glide_k06_a_hull.main.body.getD i (.Pass ⟨0,0,0,0⟩)
noncomputable def d__law_whole:DS:=(sRet (eAnd (e1 (pIsi "int") (eVar 0)) (e1 pNot (e1 (pIsi "bool") (eVar 0)))))
noncomputable def M__law_whole:List PV→Res PV:=runF 1 1 d__law_whole
noncomputable def b__law_are_points_1:DS:=(sSeq (sSet 3 (eIxV 0 (eVar 2)))
  (sSeq (sIf (G.tOr (G.tNot (tV (e1 (pIsi "tuple") (eVar 3)))) (G.tOr (tV (e2 pNe (eLenV 3) (eC (.int 2)))) (G.tOr (G.tNot (tV (eA (fun ps=>noErr (M__law_whole ps)) (aCons (eIxV 3 (eC (.int 0))) aNil)))) (G.tNot (tV (eA (fun ps=>noErr (M__law_whole ps)) (aCons (eIxV 3 (eC (.int 1))) aNil))))))) (sRet (eC (.bl false))) sNext)
  (sIf (G.tOr (tV (e2 pNotIn (eVar 3) (eVar 1))) (G.tOr (tV (e2 pIn (eVar 3) (eSl (eVar 0) oNo (oE (eVar 2))))) (tV (e2 pLtX (eVar 3) (eIxV 0 (eC (.int 0))))))) (sRet (eC (.bl false))) sNext)))
theorem b__law_are_points_1_s (σ:PSt):b__law_are_points_1 σ = (sSeq (sSet 3 (eIxV 0 (eVar 2)))
  (sSeq (sIf (G.tOr (G.tNot (tV (e1 (pIsi "tuple") (eVar 3)))) (G.tOr (tV (e2 pNe (eLenV 3) (eC (.int 2)))) (G.tOr (G.tNot (tV (eA (fun ps=>noErr (M__law_whole ps)) (aCons (eIxV 3 (eC (.int 0))) aNil)))) (G.tNot (tV (eA (fun ps=>noErr (M__law_whole ps)) (aCons (eIxV 3 (eC (.int 1))) aNil))))))) (sRet (eC (.bl false))) sNext)
  (sIf (G.tOr (tV (e2 pNotIn (eVar 3) (eVar 1))) (G.tOr (tV (e2 pIn (eVar 3) (eSl (eVar 0) oNo (oE (eVar 2))))) (tV (e2 pLtX (eVar 3) (eIxV 0 (eC (.int 0))))))) (sRet (eC (.bl false))) sNext))) σ:=rfl
noncomputable def d__law_are_points:DS:=(sSeq (sIf (G.tOr (G.tNot (tV (e1 (pIsi "list") (eVar 0)))) (tV (e2 pLtX (eLenV 0) (eC (.int 3))))) (sRet (eC (.bl false))) sNext)
  (sSeq (sFor (itR asRange1 (aCons (eLenV 0) aNil)) (gN 2) b__law_are_points_1)
  (sRet (eC (.bl true)))))
noncomputable def M__law_are_points:List PV→Res PV:=runF 2 4 d__law_are_points
noncomputable def d__law_turn:DS:=(sSeq (sSet 3 (e2 pMul (e2 pSub (eIxV 1 (eC (.int 0))) (eIxV 0 (eC (.int 0)))) (e2 pSub (eIxV 2 (eC (.int 1))) (eIxV 1 (eC (.int 1))))))
  (sSeq (sSet 4 (e2 pMul (e2 pSub (eIxV 1 (eC (.int 1))) (eIxV 0 (eC (.int 1)))) (e2 pSub (eIxV 2 (eC (.int 0))) (eIxV 1 (eC (.int 0))))))
  (sRet (e2 pSub (eA bInt (aCons (e2 (pCmp fun i j=>decide (j < i)) (eVar 3) (eVar 4)) aNil)) (eA bInt (aCons (e2 pLtX (eVar 3) (eVar 4)) aNil))))))
noncomputable def M__law_turn:List PV→Res PV:=runF 3 5 d__law_turn
noncomputable def b__law_goes_round_1:DS:=(sIf (tV (e2 pLtX (eA (fun ps=>noErr (M__law_turn ps)) (aCons (eVar 3) (aCons (eVar 4) (aCons (eVar 5) aNil)))) (eC (.int 0)))) (sRet (eC (.bl false))) sNext)
theorem b__law_goes_round_1_s (σ:PSt):b__law_goes_round_1 σ = (sIf (tV (e2 pLtX (eA (fun ps=>noErr (M__law_turn ps)) (aCons (eVar 3) (aCons (eVar 4) (aCons (eVar 5) aNil)))) (eC (.int 0)))) (sRet (eC (.bl false))) sNext) σ:=rfl
noncomputable def b__law_goes_round_2:DS:=(sSeq (sSet 3 (eIxV 0 (e2 pSub (eVar 2) (eC (.int 1)))))
  (sSeq (sSet 4 (eIxV 0 (eVar 2)))
  (sSeq (sIf (tV (e2 pNe (eA (fun ps=>noErr (M__law_turn ps)) (aCons (eIxV 0 (e2 pSub (eVar 2) (eC (.int 2)))) (aCons (eVar 3) (aCons (eVar 4) aNil)))) (eC (.int 1)))) (sRet (eC (.bl false))) sNext)
  (sFor (itE (eVar 1)) (gN 5) b__law_goes_round_1))))
theorem b__law_goes_round_2_s (σ:PSt):b__law_goes_round_2 σ = (sSeq (sSet 3 (eIxV 0 (e2 pSub (eVar 2) (eC (.int 1)))))
  (sSeq (sSet 4 (eIxV 0 (eVar 2)))
  (sSeq (sIf (tV (e2 pNe (eA (fun ps=>noErr (M__law_turn ps)) (aCons (eIxV 0 (e2 pSub (eVar 2) (eC (.int 2)))) (aCons (eVar 3) (aCons (eVar 4) aNil)))) (eC (.int 1)))) (sRet (eC (.bl false))) sNext)
  (sFor (itE (eVar 1)) (gN 5) b__law_goes_round_1)))) σ:=rfl
noncomputable def d__law_goes_round:DS:=(sSeq (sFor (itR asRange1 (aCons (eLenV 0) aNil)) (gN 2) b__law_goes_round_2)
  (sRet (eC (.bl true))))
noncomputable def M__law_goes_round:List PV→Res PV:=runF 2 6 d__law_goes_round
noncomputable def b__law_cell_1:DS:=(sSet 2 (e2 pAdd (e2 pMul (eVar 2) (eC (.int 1009))) (e2 pMod (eVar 3) (eC (.int 1000003)))))
theorem b__law_cell_1_s (σ:PSt):b__law_cell_1 σ = (sSet 2 (e2 pAdd (e2 pMul (eVar 2) (eC (.int 1009))) (e2 pMod (eVar 3) (eC (.int 1000003))))) σ:=rfl
noncomputable def d__law_cell:DS:=(sSeq (sIf (tV (e2 pLtX (eVar 1) (eLenV 0))) (sRet (e2 pMod (eIxV 0 (eVar 1)) (e2 pPow (eC (.int 10)) (eC (.int 60))))) sNext)
  (sSeq (sSet 2 (e2 pAdd (e2 pMul (eVar 1) (eC (.int 7907))) (eC (.int 3571))))
  (sSeq (sFor (itE (eSl (eVar 0) oNo (oE (eC (.int 3))))) (gN 3) b__law_cell_1)
  (sSeq (sSet 2 (e2 pMod (eVar 2) (eC (.int 2147483647))))
  (sRet (e2 pMod (e2 pMul (eVar 2) (eVar 2)) (eC (.int 2147483629))))))))
noncomputable def M__law_cell:List PV→Res PV:=runF 2 4 d__law_cell
noncomputable def b__law_many_points_1:DS:=(sSeq (sSet 4 (e2 pMod (eVar 3) (e2 pPow (eC (.int 10)) (eC (.int 60)))))
  (sIf (tV (e2 pEq (e2 pMod (eVar 1) (eC (.int 3))) (eC (.int 0)))) (sApp 2 (eA pTup (aCons (e2 pMod (eVar 4) (eC (.int 7))) (aCons (e2 pMod (e2 pFdiv (eVar 4) (eC (.int 7))) (eC (.int 7))) aNil)))) (sIf (tV (e2 pEq (e2 pMod (eVar 1) (eC (.int 3))) (eC (.int 1)))) (sApp 2 (eA pTup (aCons (e2 pSub (e2 pMod (eVar 4) (e2 pPow (eC (.int 10)) (eC (.int 29)))) (e2 pMul (eC (.int 5)) (e2 pPow (eC (.int 10)) (eC (.int 28))))) (aCons (e2 pSub (e2 pMod (e2 pFdiv (eVar 4) (e2 pPow (eC (.int 10)) (eC (.int 29)))) (e2 pPow (eC (.int 10)) (eC (.int 29)))) (e2 pMul (eC (.int 5)) (e2 pPow (eC (.int 10)) (eC (.int 28))))) aNil)))) (sSeq (sSet 5 (e2 pAdd (eC (.int 1)) (e2 pMod (e2 pFdiv (eVar 1) (eC (.int 6))) (e2 pPow (eC (.int 10)) (eC (.int 20))))))
  (sApp 2 (eA pTup (aCons (e2 pAdd (e2 pMul (e2 pMod (eVar 4) (eC (.int 5))) (eVar 5)) (eC (.int 3))) (aCons (e2 pSub (e2 pMul (e2 pMod (e2 pFdiv (eVar 4) (eC (.int 5))) (eC (.int 3))) (eVar 5)) (e2 pMod (eVar 4) (eC (.int 5)))) aNil))))))))
theorem b__law_many_points_1_s (σ:PSt):b__law_many_points_1 σ = (sSeq (sSet 4 (e2 pMod (eVar 3) (e2 pPow (eC (.int 10)) (eC (.int 60)))))
  (sIf (tV (e2 pEq (e2 pMod (eVar 1) (eC (.int 3))) (eC (.int 0)))) (sApp 2 (eA pTup (aCons (e2 pMod (eVar 4) (eC (.int 7))) (aCons (e2 pMod (e2 pFdiv (eVar 4) (eC (.int 7))) (eC (.int 7))) aNil)))) (sIf (tV (e2 pEq (e2 pMod (eVar 1) (eC (.int 3))) (eC (.int 1)))) (sApp 2 (eA pTup (aCons (e2 pSub (e2 pMod (eVar 4) (e2 pPow (eC (.int 10)) (eC (.int 29)))) (e2 pMul (eC (.int 5)) (e2 pPow (eC (.int 10)) (eC (.int 28))))) (aCons (e2 pSub (e2 pMod (e2 pFdiv (eVar 4) (e2 pPow (eC (.int 10)) (eC (.int 29)))) (e2 pPow (eC (.int 10)) (eC (.int 29)))) (e2 pMul (eC (.int 5)) (e2 pPow (eC (.int 10)) (eC (.int 28))))) aNil)))) (sSeq (sSet 5 (e2 pAdd (eC (.int 1)) (e2 pMod (e2 pFdiv (eVar 1) (eC (.int 6))) (e2 pPow (eC (.int 10)) (eC (.int 20))))))
  (sApp 2 (eA pTup (aCons (e2 pAdd (e2 pMul (e2 pMod (eVar 4) (eC (.int 5))) (eVar 5)) (eC (.int 3))) (aCons (e2 pSub (e2 pMul (e2 pMod (e2 pFdiv (eVar 4) (eC (.int 5))) (eC (.int 3))) (eVar 5)) (e2 pMod (eVar 4) (eC (.int 5)))) aNil)))))))) σ:=rfl
noncomputable def e__law_many_points_2:DE:=(eA pTup (aCons (eVar 0) (aCons (e2 pSub (e2 pMul (eC (.int 3)) (eVar 0)) (eC (.int 2))) aNil)))
theorem e__law_many_points_2_s (σ:PSt):e__law_many_points_2 σ = (eA pTup (aCons (eVar 0) (aCons (e2 pSub (e2 pMul (eC (.int 3)) (eVar 0)) (eC (.int 2))) aNil))) σ:=rfl
noncomputable def d__law_many_points:DS:=(sSeq (sSet 1 (eA (fun ps=>noErr (M__law_cell ps)) (aCons (eVar 0) (aCons (eC (.int 0)) aNil))))
  (sSeq (sOwn 2 aNil)
  (sSeq (sFor (itE (eSl (eVar 0) (oE (eC (.int 1))) (oE (eC (.int 41))))) (gN 3) b__law_many_points_1)
  (sSeq (sIf (tV (e2 pEq (e2 pMod (e2 pFdiv (eVar 1) (eC (.int 3))) (eC (.int 2))) (eC (.int 1)))) (sShare 2 (sCompO 2 (itE (eVar 2)) (gU [0,1]) e__law_many_points_2 2 [])) sNext)
  (sShare 2 (sRet (eVar 2)))))))
noncomputable def M__law_many_points:List PV→Res PV:=runF 1 6 d__law_many_points
noncomputable def b__law_on_a_line_1:DS:=(sIf (tV (e2 pNe (eA (fun ps=>noErr (M__law_turn ps)) (aCons (eIxV 0 (eC (.int 0))) (aCons (eVar 1) (aCons (eVar 2) aNil)))) (eC (.int 0)))) (sRet (eC (.bl false))) sNext)
theorem b__law_on_a_line_1_s (σ:PSt):b__law_on_a_line_1 σ = (sIf (tV (e2 pNe (eA (fun ps=>noErr (M__law_turn ps)) (aCons (eIxV 0 (eC (.int 0))) (aCons (eVar 1) (aCons (eVar 2) aNil)))) (eC (.int 0)))) (sRet (eC (.bl false))) sNext) σ:=rfl
noncomputable def b__law_on_a_line_2:DS:=(sFor (itE (eVar 0)) (gN 2) b__law_on_a_line_1)
theorem b__law_on_a_line_2_s (σ:PSt):b__law_on_a_line_2 σ = (sFor (itE (eVar 0)) (gN 2) b__law_on_a_line_1) σ:=rfl
noncomputable def d__law_on_a_line:DS:=(sSeq (sFor (itE (eVar 0)) (gN 1) b__law_on_a_line_2)
  (sRet (eC (.bl true))))
noncomputable def M__law_on_a_line:List PV→Res PV:=runF 1 3 d__law_on_a_line
noncomputable def d_left_by:DS:=(sSeq (sSet 3 (e2 pSub (eIxV 2 (eC (.int 0))) (e2 pMul (eIxV 0 (eC (.int 0))) (eIxV 2 (eC (.int 2))))))
  (sSeq (sSet 4 (e2 pSub (eIxV 2 (eC (.int 1))) (e2 pMul (eIxV 0 (eC (.int 1))) (eIxV 2 (eC (.int 2))))))
  (sRet (e2 pSub (e2 pMul (e2 pSub (eIxV 1 (eC (.int 0))) (eIxV 0 (eC (.int 0)))) (eVar 4)) (e2 pMul (e2 pSub (eIxV 1 (eC (.int 1))) (eIxV 0 (eC (.int 1)))) (eVar 3))))))
noncomputable def M_left_by:List PV→Res PV:=runF 3 5 d_left_by
noncomputable def d_turns_left:DS:=(sRet (e2 (pCmp fun i j=>decide (j < i)) (eA (fun ps=>noErr (M_left_by ps)) (aCons (eVar 0) (aCons (eVar 1) (aCons (eA pTup (aCons (eIxV 2 (eC (.int 0))) (aCons (eIxV 2 (eC (.int 1))) (aCons (eC (.int 1)) aNil)))) aNil)))) (eC (.int 0))))
noncomputable def M_turns_left:List PV→Res PV:=runF 3 3 d_turns_left
noncomputable def c_chain_1:DT:=(G.tAnd (tV (e2 (pCmp fun i j=>decide (j < i)) (eLenV 1) (eC (.int 1)))) (G.tNot (tV (eA (fun ps=>noErr (M_turns_left ps)) (aCons (eIxV 1 (e1 pNeg (eC (.int 2)))) (aCons (eIxV 1 (e1 pNeg (eC (.int 1)))) (aCons (eVar 2) aNil)))))))
theorem c_chain_1_s (σ:PSt):c_chain_1 σ = (G.tAnd (tV (e2 (pCmp fun i j=>decide (j < i)) (eLenV 1) (eC (.int 1)))) (G.tNot (tV (eA (fun ps=>noErr (M_turns_left ps)) (aCons (eIxV 1 (e1 pNeg (eC (.int 2)))) (aCons (eIxV 1 (e1 pNeg (eC (.int 1)))) (aCons (eVar 2) aNil))))))) σ:=rfl
noncomputable def b_chain_1:DS:=(sPop 1)
theorem b_chain_1_s (σ:PSt):b_chain_1 σ = (sPop 1) σ:=rfl
noncomputable def b_chain_2:DS:=(sSeq (sWhile c_chain_1 b_chain_1)
  (sApp 1 (eVar 2)))
theorem b_chain_2_s (σ:PSt):b_chain_2 σ = (sSeq (sWhile c_chain_1 b_chain_1)
  (sApp 1 (eVar 2))) σ:=rfl
noncomputable def d_chain:DS:=(sSeq (sOwn 1 aNil)
  (sSeq (sFor (itE (eVar 0)) (gN 2) b_chain_2)
  (sShare 1 (sRet (eVar 1)))))
noncomputable def M_chain:List PV→Res PV:=runF 1 3 d_chain
noncomputable def e_hull_1:DE:=(eA pTup (aCons (eIxV 0 (eC (.int 0))) (aCons (eIxV 0 (eC (.int 1))) aNil)))
theorem e_hull_1_s (σ:PSt):e_hull_1 σ = (eA pTup (aCons (eIxV 0 (eC (.int 0))) (aCons (eIxV 0 (eC (.int 1))) aNil))) σ:=rfl
noncomputable def d_hull:DS:=(sSeq (sSet 1 (e1 pSortSet (eComp (itE (eVar 0)) (gN 0) e_hull_1 1 [])))
  (sSeq (sSet 2 (eA (fun ps=>noErr (M_chain ps)) (aCons (eVar 1) aNil)))
  (sSeq (sSet 3 (eA (fun ps=>noErr (M_chain ps)) (aCons (e1 pRev (eVar 1)) aNil)))
  (sSeq (sSet 4 (e2 pAdd (eSl (eVar 2) oNo (oE (e1 pNeg (eC (.int 1))))) (eSl (eVar 3) oNo (oE (e1 pNeg (eC (.int 1)))))))
  (sSeq (sIf (tV (e2 pLtX (eLenV 4) (eC (.int 3)))) (sRaise "Flat") sNext)
  (sRet (eVar 4)))))))
noncomputable def M_hull:List PV→Res PV:=runE 1 5 d_hull
noncomputable def e_hullN_1:DE:=(eA pTup (aCons (eIxV 0 (eC (.int 0))) (aCons (eIxV 0 (eC (.int 1))) aNil)))
theorem e_hullN_1_s (σ:PSt):e_hullN_1 σ = (eA pTup (aCons (eIxV 0 (eC (.int 0))) (aCons (eIxV 0 (eC (.int 1))) aNil))) σ:=rfl
noncomputable def d_hullN:DS:=(sSeqN (sSet 1 (e1 pSortSet (eComp (itE (eVar 0)) (gN 0) e_hullN_1 1 [])))
  (sSeqN (sSet 2 (eA (fun ps=>noErr (M_chain ps)) (aCons (eVar 1) aNil)))
  (sSeqN (sSet 3 (eA (fun ps=>noErr (M_chain ps)) (aCons (e1 pRev (eVar 1)) aNil)))
  (sSeqN (sOwnA 4 (eSl (eVar 2) oNo (oE (e1 pNeg (eC (.int 1))))) (eSl (eVar 3) oNo (oE (e1 pNeg (eC (.int 1))))))
  (sSeqN (sIf (tV (e2 pLtX (eLenV 4) (eC (.int 3)))) (fun _=>.stuck) sNext)
  (sRetO 4))))))
noncomputable def M_hullN:List PV→Res PV:=runF 1 5 d_hullN
noncomputable def b__law_refused_1:DS:=(sSet 1 (eVar 2))
theorem b__law_refused_1_s (σ:PSt):b__law_refused_1 σ = (sSet 1 (eVar 2)) σ:=rfl
noncomputable def d__law_refused:DS:=(sSeq (sSet 1 (eC .non))
  (sSeq (sTry M_hull (aCons (eVar 0) aNil) ["Flat"] 2 b__law_refused_1)
  (sSeq (sSet 3 (eAnd (e1 (pIsiX [("Flat",true)]) (eVar 1)) (e1 (pIsiX [("Flat",true)]) (eVar 1))))
  (sRet (eAnd (eVar 3) (e1 pNot (e1 (pIsiX [("Flat",false)]) (eVar 1))))))))
noncomputable def M__law_refused:List PV→Res PV:=runF 1 4 d__law_refused
noncomputable def d_law:DS:=(sSeq (sSet 1 (eA (fun ps=>noErr (M__law_many_points ps)) (aCons (eVar 0) aNil)))
  (sSeq (sOwnL 2 (eVar 1))
  (sSeq (sIf (tV (eA (fun ps=>noErr (M__law_on_a_line ps)) (aCons (eVar 1) aNil))) (sShare 2 (sRet (eAnd (eA (fun ps=>noErr (M__law_refused ps)) (aCons (eVar 2) aNil)) (e2 pEq (eVar 2) (eVar 1))))) sNext)
  (sSeq (sLend 2 3 M_hullN)
  (sSeq (sBorT 2 (G.tOr (tV (e2 pNe (eVar 2) (eVar 1))) (G.tNot (tV (eA (fun ps=>noErr (M__law_are_points ps)) (aCons (eVar 3) (aCons (eVar 1) aNil)))))) (sRet (eC (.bl false))) sNext)
  (sSeq (sSet 4 (eA bList (aCons (eVar 3) aNil)))
  (sSeq (sClr 2)
  (sRet (eAnd (eA (fun ps=>noErr (M__law_goes_round ps)) (aCons (eVar 3) (aCons (eVar 1) aNil))) (eAnd (e2 pEq (eA bMinX (aCons (eVar 1) aNil)) (eIxV 3 (eC (.int 0)))) (e2 pEq (eVar 3) (eVar 4))))))))))))
noncomputable def M_law:List PV→Res PV:=runF 1 5 d_law
section
variable {P:Program} {w:World} {K:PySem.W.Frag} {mg:Str→Option Value} {base h:Heap}
theorem sc__law_whole:FnScope ["found"] ["found"] (defScope (top 17)):=⟨rfl,rfl,rfl,by decide +kernel,rfl,by decide +kernel,by decide +kernel⟩
theorem in__law_whole (D:DefAt K "_law_whole" (top 17)) (KI:K.In h) (GN:h.Ns mainGlobals mg) (B:Bi mg) :FunIn P w K mg base "_law_whole" 1 M__law_whole:=by
 have nd:=sc__law_whole.nd
 refine def_in D KI GN sc__law_whole (fun _ _ _ _ _ _ us hl=>match us,hl with | [_],_=>rfl) (fun f cdv A outer s H Hs E hr=>?_)
 have hu:=room20 hr
 exact (xb1 (xret (xand (xcI (xv 0) kn_int bt_int B.isinstance B.int) (xone (xnot (xcI (xv 0) kn_bool bt_bool B.isinstance B.bool))))))
theorem sc__law_are_points:FnScope ["told","points","k","one"] ["told","points"] (defScope (top 22)):=⟨rfl,rfl,rfl,by decide +kernel,rfl,by decide +kernel,by decide +kernel⟩
theorem in__law_are_points (D:DefAt K "_law_are_points" (top 22)) (KI:K.In h) (GN:h.Ns mainGlobals mg) (B:Bi mg) (F__law_whole:FunIn P w K mg base "_law_whole" 1 M__law_whole):FunIn P w K mg base "_law_are_points" 2 M__law_are_points:=by
 have nd:=sc__law_are_points.nd
 refine def_in D KI GN sc__law_are_points (fun _ _ _ _ _ _ us hl=>match us,hl with | [_,_],_=>rfl) (fun f cdv A outer s H Hs E hr=>?_)
 have hu:=room20 hr
 exact (xb (xsif (xw (xor2 (xtn (xtv (xcI (xv 0) kn_list bt_list B.isinstance B.list))) (xor1 (xtc (opp_ltX hu) (xlV 0 B.len) xint)))) (xb1 (xret xbl)) xb0)
  (xb (xfor PassesOwn.never (xr1 B.range (xa (xlV 0 B.len) xa0)) (xgn 2) (xb (xset 3 (xiV 0 (xv 2)))
  (xb (xsif (xw (xor2 (xtn (xtv (xcI (xv 3) kn_tuple bt_tuple B.isinstance B.tuple))) (xor2 (xtc (opp_ne hu) (xlV 3 B.len) xint) (xor2 (xtn (xtv (xcF (F__law_whole.is hr) (xa (xiV 3 xint) xa0)))) (xor1 (xtn (xtv (xcF (F__law_whole.is hr) (xa (xiV 3 xint) xa0))))))))) (xb1 (xret xbl)) xb0)
  (xb1 (xsif (xw (xor2 (xtc (opp_notin hu) (xv 3) (xv 1)) (xor2 (xtc (opp_in hu) (xv 3) (xsl (xv 0) xo0 (xo (xv 2)))) (xor1 (xtc (opp_ltX hu) (xv 3) (xiV 0 xint)))))) (xb1 (xret xbl)) xb0)))))
  (xb1 (xret xbl))))
theorem sc__law_turn:FnScope ["one","two","three","left","right"] ["one","two","three"] (defScope (top 18)):=⟨rfl,rfl,rfl,by decide +kernel,rfl,by decide +kernel,by decide +kernel⟩
theorem in__law_turn (D:DefAt K "_law_turn" (top 18)) (KI:K.In h) (GN:h.Ns mainGlobals mg) (B:Bi mg) :FunIn P w K mg base "_law_turn" 1 M__law_turn:=by
 have nd:=sc__law_turn.nd
 refine def_in D KI GN sc__law_turn (fun _ _ _ _ _ _ us hl=>match us,hl with | [_,_,_],_=>rfl) (fun f cdv A outer s H Hs E hr=>?_)
 have hu:=room20 hr
 exact (xb (xset 3 (xop opp_mul (xop opp_sub (xiV 1 xint) (xiV 0 xint)) (xop opp_sub (xiV 2 xint) (xiV 1 xint))))
  (xb (xset 4 (xop opp_mul (xop opp_sub (xiV 1 xint) (xiV 0 xint)) (xop opp_sub (xiV 2 xint) (xiV 1 xint))))
  (xb1 (xret (xop opp_sub (xcT cp_int B.int bt_int (xa (xcmp opp_gt (xv 3) (xv 4)) xa0)) (xcT cp_int B.int bt_int (xa (xcmp (opp_ltX hu) (xv 3) (xv 4)) xa0)))))))
theorem sc__law_goes_round:FnScope ["told","points","k","first","last","point"] ["told","points"] (defScope (top 23)):=⟨rfl,rfl,rfl,by decide +kernel,rfl,by decide +kernel,by decide +kernel⟩
theorem in__law_goes_round (D:DefAt K "_law_goes_round" (top 23)) (KI:K.In h) (GN:h.Ns mainGlobals mg) (B:Bi mg) (F__law_turn:FunIn P w K mg base "_law_turn" 1 M__law_turn):FunIn P w K mg base "_law_goes_round" 2 M__law_goes_round:=by
 have nd:=sc__law_goes_round.nd
 refine def_in D KI GN sc__law_goes_round (fun _ _ _ _ _ _ us hl=>match us,hl with | [_,_],_=>rfl) (fun f cdv A outer s H Hs E hr=>?_)
 have hu:=room20 hr
 exact (xb (xfor PassesOwn.never (xr1 B.range (xa (xlV 0 B.len) xa0)) (xgn 2) (xb (xset 3 (xiV 0 (xop opp_sub (xv 2) xint)))
  (xb (xset 4 (xiV 0 (xv 2)))
  (xb (xsif (xtc (opp_ne hu) (xcF (F__law_turn.is hr) (xa (xiV 0 (xop opp_sub (xv 2) xint)) (xa (xv 3) (xa (xv 4) xa0)))) xint) (xb1 (xret xbl)) xb0)
  (xb1 (xfor PassesOwn.never (xseq (xv 1)) (xgn 5) (xb1 (xsif (xtc (opp_ltX hu) (xcF (F__law_turn.is hr) (xa (xv 3) (xa (xv 4) (xa (xv 5) xa0)))) xint) (xb1 (xret xbl)) xb0))))))))
  (xb1 (xret xbl)))
theorem sc__law_cell:FnScope ["script","k","number","cell"] ["script","k"] (defScope (top 16)):=⟨rfl,rfl,rfl,by decide +kernel,rfl,by decide +kernel,by decide +kernel⟩
theorem in__law_cell (D:DefAt K "_law_cell" (top 16)) (KI:K.In h) (GN:h.Ns mainGlobals mg) (B:Bi mg) :FunIn P w K mg base "_law_cell" 1 M__law_cell:=by
 have nd:=sc__law_cell.nd
 refine def_in D KI GN sc__law_cell (fun _ _ _ _ _ _ us hl=>match us,hl with | [_,_],_=>rfl) (fun f cdv A outer s H Hs E hr=>?_)
 have hu:=room20 hr
 exact (xb (xsif (xtc (opp_ltX hu) (xv 1) (xlV 0 B.len)) (xb1 (xret (xop opp_mod (xiV 0 (xv 1)) (xop opp_pow xint xint)))) xb0)
  (xb (xset 2 (xop opp_add (xop opp_mul (xv 1) xint) xint))
  (xb (xfor PassesOwn.never (xseq (xsl (xv 0) xo0 (xo xint))) (xgn 3) (xb1 (xset 2 (xop opp_add (xop opp_mul (xv 2) xint) (xop opp_mod (xv 3) xint)))))
  (xb (xset 2 (xop opp_mod (xv 2) xint))
  (xb1 (xret (xop opp_mod (xop opp_mul (xv 2) (xv 2)) xint)))))))
theorem sc__law_many_points:FnScope ["script","head","points","number","cell","far"] ["script"] (defScope (top 19)):=⟨rfl,rfl,rfl,by decide +kernel,rfl,by decide +kernel,by decide +kernel⟩
theorem in__law_many_points (D:DefAt K "_law_many_points" (top 19)) (KI:K.In h) (GN:h.Ns mainGlobals mg) (B:Bi mg) (F__law_cell:FunIn P w K mg base "_law_cell" 1 M__law_cell):FunIn P w K mg base "_law_many_points" 2 M__law_many_points:=by
 have nd:=sc__law_many_points.nd
 refine def_in D KI GN sc__law_many_points (fun _ _ _ _ _ _ us hl=>match us,hl with | [_],_=>rfl) (fun f cdv A outer s H Hs E hr=>?_)
 have hu:=room20 hr
 exact (xb (xset 1 (xcF (F__law_cell.is hr) (xa (xv 0) (xa xint xa0))))
  (xb (xown 2 xa0)
  (xb (xfor PassesOwn.never (xseq (xsl (xv 0) (xo xint) (xo xint))) (xgn 3) (xb (xset 4 (xop opp_mod (xv 3) (xop opp_pow xint xint)))
  (xb1 (xsif (xtc (opp_eq hu) (xop opp_mod (xv 1) xint) xint) (xb1 (xapp 2 (xtup (xa (xop opp_mod (xv 4) xint) (xa (xop opp_mod (xop opp_fdiv (xv 4) xint) xint) xa0))))) (xb1 (xsif (xtc (opp_eq hu) (xop opp_mod (xv 1) xint) xint) (xb1 (xapp 2 (xtup (xa (xop opp_sub (xop opp_mod (xv 4) (xop opp_pow xint xint)) (xop opp_mul xint (xop opp_pow xint xint))) (xa (xop opp_sub (xop opp_mod (xop opp_fdiv (xv 4) (xop opp_pow xint xint)) (xop opp_pow xint xint)) (xop opp_mul xint (xop opp_pow xint xint))) xa0))))) (xb (xset 5 (xop opp_add xint (xop opp_mod (xop opp_fdiv (xv 1) xint) (xop opp_pow xint xint))))
  (xb1 (xapp 2 (xtup (xa (xop opp_add (xop opp_mul (xop opp_mod (xv 4) xint) (xv 5)) xint) (xa (xop opp_sub (xop opp_mul (xop opp_mod (xop opp_fdiv (xv 4) xint) xint) (xv 5)) (xop opp_mod (xv 4) xint)) xa0))))))))))))
  (xb (xsif (xtc (opp_eq hu) (xop opp_mod (xop opp_fdiv (xv 1) xint) xint) xint) (xb1 (xshare 2 (xscompO 2 (xblk ["x","y"] cap0 gk_u (fun _ _ _ _ _ _ _ nd2=>(xgu (xgs 0 (xgs 1 xgs0)))) (fun _ _ _ _ _ _ _ nd2=>(xtup (xa (xv 0) (xa (xop opp_sub (xop opp_mul xint (xv 0)) xint) xa0))))) (xseq (xv 2))))) xb0)
  (xb1 (xshare 2 (xret (xv 2))))))))
theorem sc__law_on_a_line:FnScope ["points","one","other"] ["points"] (defScope (top 20)):=⟨rfl,rfl,rfl,by decide +kernel,rfl,by decide +kernel,by decide +kernel⟩
theorem in__law_on_a_line (D:DefAt K "_law_on_a_line" (top 20)) (KI:K.In h) (GN:h.Ns mainGlobals mg) (B:Bi mg) (F__law_turn:FunIn P w K mg base "_law_turn" 1 M__law_turn):FunIn P w K mg base "_law_on_a_line" 2 M__law_on_a_line:=by
 have nd:=sc__law_on_a_line.nd
 refine def_in D KI GN sc__law_on_a_line (fun _ _ _ _ _ _ us hl=>match us,hl with | [_],_=>rfl) (fun f cdv A outer s H Hs E hr=>?_)
 have hu:=room20 hr
 exact (xb (xfor PassesOwn.never (xseq (xv 0)) (xgn 1) (xb1 (xfor PassesOwn.never (xseq (xv 0)) (xgn 2) (xb1 (xsif (xtc (opp_ne hu) (xcF (F__law_turn.is hr) (xa (xiV 0 xint) (xa (xv 1) (xa (xv 2) xa0)))) xint) (xb1 (xret xbl)) xb0)))))
  (xb1 (xret xbl)))
theorem sc_left_by:FnScope ["P","Q","S","right","up"] ["P","Q","S"] (defScope (top 11)):=⟨rfl,rfl,rfl,by decide +kernel,rfl,by decide +kernel,by decide +kernel⟩
theorem in_left_by (D:DefAt K "left_by" (top 11)) (KI:K.In h) (GN:h.Ns mainGlobals mg) (B:Bi mg) :FunIn P w K mg base "left_by" 1 M_left_by:=by
 have nd:=sc_left_by.nd
 refine def_in D KI GN sc_left_by (fun _ _ _ _ _ _ us hl=>match us,hl with | [_,_,_],_=>rfl) (fun f cdv A outer s H Hs E hr=>?_)
 have hu:=room20 hr
 exact (xb (xset 3 (xop opp_sub (xiV 2 xint) (xop opp_mul (xiV 0 xint) (xiV 2 xint))))
  (xb (xset 4 (xop opp_sub (xiV 2 xint) (xop opp_mul (xiV 0 xint) (xiV 2 xint))))
  (xb1 (xret (xop opp_sub (xop opp_mul (xop opp_sub (xiV 1 xint) (xiV 0 xint)) (xv 4)) (xop opp_mul (xop opp_sub (xiV 1 xint) (xiV 0 xint)) (xv 3)))))))
theorem sc_turns_left:FnScope ["P","Q","R"] ["P","Q","R"] (defScope (top 12)):=⟨rfl,rfl,rfl,by decide +kernel,rfl,by decide +kernel,by decide +kernel⟩
theorem in_turns_left (D:DefAt K "turns_left" (top 12)) (KI:K.In h) (GN:h.Ns mainGlobals mg) (B:Bi mg) (F_left_by:FunIn P w K mg base "left_by" 1 M_left_by):FunIn P w K mg base "turns_left" 2 M_turns_left:=by
 have nd:=sc_turns_left.nd
 refine def_in D KI GN sc_turns_left (fun _ _ _ _ _ _ us hl=>match us,hl with | [_,_,_],_=>rfl) (fun f cdv A outer s H Hs E hr=>?_)
 have hu:=room20 hr
 exact (xb1 (xret (xcmp opp_gt (xcF (F_left_by.is hr) (xa (xv 0) (xa (xv 1) (xa (xtup (xa (xiV 2 xint) (xa (xiV 2 xint) (xa xint xa0)))) xa0)))) xint)))
theorem sc_chain:FnScope ["points","kept","point"] ["points"] (defScope (top 13)):=⟨rfl,rfl,rfl,by decide +kernel,rfl,by decide +kernel,by decide +kernel⟩
theorem in_chain (D:DefAt K "chain" (top 13)) (KI:K.In h) (GN:h.Ns mainGlobals mg) (B:Bi mg) (F_turns_left:FunIn P w K mg base "turns_left" 2 M_turns_left):FunIn P w K mg base "chain" 3 M_chain:=by
 have nd:=sc_chain.nd
 refine def_in D KI GN sc_chain (fun _ _ _ _ _ _ us hl=>match us,hl with | [_],_=>rfl) (fun f cdv A outer s H Hs E hr=>?_)
 have hu:=room20 hr
 exact (xb (xown 1 xa0)
  (xb (xfor PassesOwn.never (xseq (xv 0)) (xgn 2) (xb (xwhile PassesOwn.never (xw (xand2 (xtc opp_gt (xlV 1 B.len) xint) (xand1 (xtn (xtv (xcF (F_turns_left.is hr) (xa (xiV 1 (xneg xint)) (xa (xiV 1 (xneg xint)) (xa (xv 2) xa0))))))))) (xb1 (xpop 1)))
  (xb1 (xapp 1 (xv 2)))))
  (xb1 (xshare 1 (xret (xv 1))))))
theorem sc_hull:FnScope ["points","unlike","below","above","corners"] ["points"] (defScope (top 14)):=⟨rfl,rfl,rfl,by decide +kernel,rfl,by decide +kernel,by decide +kernel⟩
theorem in_hull (D:DefAt K "hull" (top 14)) (KI:K.In h) (GN:h.Ns mainGlobals mg) (B:Bi mg) (F_chain:FunIn P w K mg base "chain" 3 M_chain) (X_Flat:ExcAt K "Flat") (KG:∀ (y:Str) (C:Addr),ClsIs K y C→mg y = some (.ref C)):FunIn P w K mg base "hull" 4 M_hull:=by
 have nd:=sc_hull.nd
 refine def_inE D KI GN sc_hull (fun _ _ _ _ _ _ us hl=>match us,hl with | [_],_=>rfl) (fun f cdv A outer s H Hs E hr=>?_)
 have hu:=room20 hr
 exact (xb (xset 1 (xss (xcomp (xblk ["point"] cap0 gk_n (fun _ _ _ _ _ _ _ nd2=>(xgn 0)) (fun _ _ _ _ _ _ _ nd2=>(xtup (xa (xiV 0 xint) (xa (xiV 0 xint) xa0))))) (xseq (xv 0))) hu B.sorted B.set))
  (xb (xset 2 (xcF (F_chain.is hr) (xa (xv 1) xa0)))
  (xb (xset 3 (xcF (F_chain.is hr) (xa (xrev (xv 1) B.list B.reversed) xa0)))
  (xb (xset 4 (xop opp_add (xsl (xv 2) xo0 (xo (xneg xint))) (xsl (xv 3) xo0 (xo (xneg xint)))))
  (xb (xsif (xtc (opp_ltX hu) (xlV 4 B.len) xint) (xb1 (xraise X_Flat)) xb0)
  (xb1 (xret (xv 4))))))))
theorem in_hullN (D:DefAt K "hull" (top 14)) (KI:K.In h) (GN:h.Ns mainGlobals mg) (B:Bi mg) (F_chain:FunIn P w K mg base "chain" 3 M_chain):NewIn P w K mg base "hull" 4 M_hullN:=by
 have nd:=sc_hull.nd
 refine new_in D KI GN sc_hull rfl (fun _ _ _ _ _ _ us hl=>match us,hl with | [_],_=>rfl) (fun f cdv A outer s H Hs E hr=>?_)
 have hu:=room20 hr
 exact (xn (xset 1 (xss (xcomp (xblk ["point"] cap0 gk_n (fun _ _ _ _ _ _ _ nd2=>(xgn 0)) (fun _ _ _ _ _ _ _ nd2=>(xtup (xa (xiV 0 xint) (xa (xiV 0 xint) xa0))))) (xseq (xv 0))) hu B.sorted B.set))
  (xn (xset 2 (xcF (F_chain.is hr) (xa (xv 1) xa0)))
  (xn (xset 3 (xcF (F_chain.is hr) (xa (xrev (xv 1) B.list B.reversed) xa0)))
  (xn (xownA 4 (xsl (xv 2) xo0 (xo (xneg xint))) (xsl (xv 3) xo0 (xo (xneg xint))))
  (xn (xsif (xtc (opp_ltX hu) (xlV 4 B.len) xint) (xb1 xstuck) xb0)
  (xnret 4))))))
theorem sc__law_refused:FnScope ["points","error","e","right"] ["points"] (defScope (top 21)):=⟨rfl,rfl,rfl,by decide +kernel,rfl,by decide +kernel,by decide +kernel⟩
theorem in__law_refused (D:DefAt K "_law_refused" (top 21)) (KI:K.In h) (GN:h.Ns mainGlobals mg) (B:Bi mg) (F_hull:FunIn P w K mg base "hull" 4 M_hull) (C__law_refused_1:Caught K "GlideError" ["Flat"]) (T__law_refused_2:IsTab K [.type "ValueError"] [("Flat",true)]) (Z_ValueError:mg "ValueError" = none) (T__law_refused_3:IsOwn K "Flat" [("Flat",true)]) (T__law_refused_4:IsMany K ["NoNumber","Crowded","NoName","Twice","Past","NoText","NoRow"] [("Flat",false)]) (KG:∀ (y:Str) (C:Addr),ClsIs K y C→mg y = some (.ref C)):FunIn P w K mg base "_law_refused" 5 M__law_refused:=by
 have nd:=sc__law_refused.nd
 refine def_in D KI GN sc__law_refused (fun _ _ _ _ _ _ us hl=>match us,hl with | [_],_=>rfl) (fun f cdv A outer s H Hs E hr=>?_)
 have hu:=room20 hr
 exact (xb (xset 1 xnon)
  (xb (xtry 2 (F_hull.is hr) (xa (xv 0) xa0) C__law_refused_1 (fun _=>(xb1 (xset 1 (xv 2)))))
  (xb (xset 3 (xand (xisb (xv 1) PyProof.Rows.Boot.«ValueError» T__law_refused_2 B.isinstance Z_ValueError) (xone (xiso (xv 1) T__law_refused_3 KG B.isinstance))))
  (xb1 (xret (xand (xv 3) (xone (xnot (xist (xv 1) T__law_refused_4 KG B.isinstance)))))))))
theorem sc_law:FnScope ["script","points","handed","told","kept"] ["script"] (defScope (top 24)):=⟨rfl,rfl,rfl,by decide +kernel,rfl,by decide +kernel,by decide +kernel⟩
theorem in_law {f:Addr} {fd:FuncData} (F:Fun K "law" "law" (top 24) f fd) (B:Bi mg) (F__law_are_points:FunIn P w K mg base "_law_are_points" 2 M__law_are_points) (F__law_goes_round:FunIn P w K mg base "_law_goes_round" 2 M__law_goes_round) (F__law_many_points:FunIn P w K mg base "_law_many_points" 2 M__law_many_points) (F__law_on_a_line:FunIn P w K mg base "_law_on_a_line" 2 M__law_on_a_line) (F__law_refused:FunIn P w K mg base "_law_refused" 5 M__law_refused) (W_hull:NewIn P w K mg base "hull" 4 M_hullN):FnOk P w K mg base (CXG P w) 6 f fd ["script"] (Fsp K 1 M_law):=by
 have nd:=sc_law.nd
 refine law_in F sc_law (fun cdv A outer s H Hs E hr=>?_)
 have hu:=room20 hr
 exact (xb (xset 1 (xcF (F__law_many_points.is hr) (xa (xv 0) xa0)))
  (xb (xownL 2 (xv 1) B.list)
  (xb (xsif (xtv (xcF (F__law_on_a_line.is hr) (xa (xv 1) xa0))) (xb1 (xshare 2 (xret (xand (xcF (F__law_refused.is hr) (xa (xv 2) xa0)) (xone (xcmp (opp_eq hu) (xv 2) (xv 1))))))) xb0)
  (xb (xlend 2 3 (W_hull.is hr))
  (xb (xborT 2 (xw (xor2 (xtc (opp_ne hu) (xv 2) (xv 1)) (xor1 (xtn (xtv (xcF (F__law_are_points.is hr) (xa (xv 3) (xa (xv 1) xa0)))))))) (xb1 (xret xbl)) xb0)
  (xb (xset 4 (xcT cp_list B.list bt_list (xa (xv 3) xa0)))
  (xb (xclr 2)
  (xb1 (xret (xand (xcF (F__law_goes_round.is hr) (xa (xv 3) (xa (xv 1) xa0))) (xand (xcmp (opp_eq hu) (xcB (cp_minX rfl hu) B.min bw_min (xa (xv 1) xa0)) (xiV 3 xint)) (xone (xcmp (opp_eq hu) (xv 3) (xv 4))))))))))))))
end
end Law
namespace Law
open PySem PySem.Spec PyProof.Rows L2 G HM
open Builtin.Int (intBits)
theorem bits_lt {x:Int} {n:Nat} (h:x.natAbs < 2 ^ n):intBits x≤n:=by
 unfold intBits
 split
 ·exact Nat.zero_le _
 ·rename_i e
  have h0:x.natAbs≠0:=by
   intro z
   have:x = 0:=by omega
   exact e (by simp [this])
  have:=(Nat.log2_lt h0).mpr h
  omega
theorem mul_ok {x y:Int} {m n:Nat} (hx:intBits x≤m) (hy:intBits y≤n) (h:m + n≤134217728):pMul (.int x) (.int y) = .ok (.int (x * y)):=pMul_s (PyProof.Rows.mulOk_of_bits hx hy h)
theorem m_cell (ns:List Int) (k:Int) (hk:0≤k):∃ n,M__law_cell [.scr ns,.int k] = .ok (.int n):=by
 unfold M__law_cell; rw [run2]
 by_cases h:k < ns.length
 ·obtain ⟨x,hx,_⟩:=atI_of hk h
  simp [d__law_cell,h,atR_of hx]
 ·obtain ⟨σ',h1,n,z,rfl⟩:=for_all (gg:=gN 3) (c:=b__law_cell_1) (fun σ=>∃ n z,σ = [some (.sh (.scr ns)),some (.sh (.int k)),some (.sh (.int n)),z]) (fun p=>∃ i,p = .int i)
   (by
    rintro p σ ⟨i,rfl⟩ ⟨n,z,rfl⟩
    refine ⟨[some (.sh (.scr ns)),some (.sh (.int k)),some (.sh (.int n)),some (.sh (.int i))],[some (.sh (.scr ns)),some (.sh (.int k)),some (.sh (.int (n * 1009 + i % 1000003))),some (.sh (.int i))],rfl,?_,_,_,rfl⟩
    simp [b__law_cell_1_s])
   (cutP (ns.map PV.int) none (some 3)) (by
    intro p hp
    have hp:=List.mem_of_mem_drop (List.mem_of_mem_take hp)
    obtain ⟨i,_,rfl⟩:=List.mem_map.mp hp
    exact ⟨i,rfl⟩) [some (.sh (.scr ns)),some (.sh (.int k)),some (.sh (.int (k * 7907 + 3571))),none] ⟨_,_,rfl⟩
  simp [d__law_cell,h,pSl]
  rw [h1]
  simp [pMul_s (mulR (i:=n % 2147483647) (j:=n % 2147483647) (by omega) (by omega))]
theorem m_whole (i:Int):M__law_whole [.int i] = .ok (.bl true):=by
 unfold M__law_whole; rw [run1]; simp [d__law_whole,isSub]
def PB (n:Nat) (p:Pt):Prop:=intBits p.1≤n∧intBits p.2≤n
theorem b1:intBits (1:Int)≤1:=bits_lt (by decide)
theorem m_left {P Q:Pt} {x y w:Int} (hP:PB 400 P) (hQ:PB 400 Q) (hx:intBits x≤4000) (hy:intBits y≤4000) (hw:intBits w≤4000) :
  M_left_by [ptP P,ptP Q,.tup [.int x,.int y,.int w]] = .ok (.int ((Q.1 - P.1) * (y - P.2 * w) - (Q.2 - P.2) * (x - P.1 * w))):=by
 have a1:=bits_sub hQ.1 hP.1
 have a2:=bits_sub hQ.2 hP.2
 have a3:=bits_sub (Nat.le_trans hy (show 4000≤4400 by decide)) (bits_mul hP.2 hw)
 have a4:=bits_sub (Nat.le_trans hx (show 4000≤4400 by decide)) (bits_mul hP.1 hw)
 unfold M_left_by; rw [run3]
 simp [d_left_by,ptP,mul_ok hP.1 hw (by decide),mul_ok hP.2 hw (by decide),mul_ok a1 a3 (by decide),mul_ok a2 a4 (by decide)]
theorem m_turns {P Q R:Pt} (hP:PB 400 P) (hQ:PB 400 Q) (hR:PB 400 R):M_turns_left [ptP P,ptP Q,ptP R] = .ok (.bl (decide (0 < cr P Q R))):=by
 have h:=m_left hP hQ (Nat.le_trans hR.1 (by decide)) (Nat.le_trans hR.2 (by decide)) (Nat.le_trans b1 (by decide))
 unfold M_turns_left; rw [run3]
 have e:cr P Q R = (Q.1 - P.1) * (R.2 - P.2 * 1) - (Q.2 - P.2) * (R.1 - P.1 * 1):=by unfold cr; simp
 rw [e]
 unfold ptP at h ⊢
 simp [d_turns_left,h]
theorem while_pop {p:Pt} (hp:PB 400 p) (x0:Option SV):∀ (st:List Pt),(∀ q∈st,PB 400 q) →
  sWhile c_chain_1 b_chain_1 [x0,some (.own (st.reverse.map ptP)),some (.sh (ptP p))] = .ok (.next [x0,some (.own ((popTo p st).reverse.map ptP)),some (.sh (ptP p))])
 | [],_=>by rw [sWhile_eq]; simp [c_chain_1_s,popTo]
 | [a],_=>by rw [sWhile_eq]; simp [c_chain_1_s,popTo]
 | b::a::r,h=>by
  have hb:=h b (.head _)
  have ha:=h a (.tail _ (.head _))
  have e:(b::a::r).reverse.map ptP = r.reverse.map ptP++[ptP a,ptP b]:=by simp
  have g2:atR (r.reverse.map ptP++[ptP a,ptP b]) (-2) id = .ok (ptP a):=atR_of (G.atI_last2 _ _ _)
  have g1:atR (r.reverse.map ptP++[ptP a,ptP b]) (-1) id = .ok (ptP b):=atR_of (by
   have:r.reverse.map ptP++[ptP a,ptP b] = (r.reverse.map ptP++[ptP a])++[ptP b]:=by simp
   rw [this]; exact G.atI_last _ _)
  rw [e,sWhile_eq]
  have hlen:(1:Int) < ((r.reverse.map ptP++[ptP a,ptP b]).length:Int):=by rw [List.length_append]; simp; omega
  have hc:c_chain_1 [x0,some (.own (r.reverse.map ptP++[ptP a,ptP b])),some (.sh (ptP p))] = .ok (!decide (0 < cr a b p)):=by
   simp only [c_chain_1_s,tAnd_s,tNot_s,tV_s,e2_s,e1_s,eC_s,eLenO_1,eA_s,aCons_s,aNil_s,eIxO_1,eVar_2,pNeg_s,bind_ok',pCmp_s,asB_s,pIx_l,g1,g2,m_turns ha hb hp,noErr_s,hlen,decide_true,if_true]
  rw [hc]
  by_cases hcr:0 < cr a b p
  ·have:popTo p (b::a::r) = b::a::r:=by unfold popTo; rw [if_pos hcr]
   rw [this,e]
   simp [hcr]
  ·have:popTo p (b::a::r) = popTo p (a::r):=by
    conv=>lhs; unfold popTo
    rw [if_neg hcr]
   rw [this]
   have hpop:b_chain_1 [x0,some (.own (r.reverse.map ptP++[ptP a,ptP b])),some (.sh (ptP p))] = .ok (.next [x0,some (.own ((a::r).reverse.map ptP)),some (.sh (ptP p))]):=by
    rw [b_chain_1_s,sPop_o (i:=1) (xs:=r.reverse.map ptP++[ptP a,ptP b]) rfl (by simp)]
    have:(r.reverse.map ptP++[ptP a,ptP b]).dropLast = (a::r).reverse.map ptP:=by
     rw [show r.reverse.map ptP++[ptP a,ptP b] = (r.reverse.map ptP++[ptP a])++[ptP b] by simp,List.dropLast_concat]; simp
    rw [this]; rfl
   simp only [hcr,decide_false,Bool.not_false,bind_ok',if_true,hpop]
   exact while_pop hp x0 (a::r) fun q hq=>h q (.tail _ hq)
theorem pop_sub (p:Pt):∀ (st:List Pt),∀ q∈popTo p st,q∈st
 | [],q,h=>h
 | [_],q,h=>h
 | b::a::r,q,h=>by
  unfold popTo at h
  split at h
  ·exact h
  ·exact .tail _ (pop_sub p (a::r) q h)
theorem pop_len (p:Pt):∀ (st:List Pt),(popTo p st).length≤st.length
 | []=>Nat.le_refl _
 | [_]=>Nat.le_refl _
 | b::a::r=>by
  unfold popTo
  split
  ·exact Nat.le_refl _
  ·exact Nat.le_trans (pop_len p (a::r)) (by simp)
theorem for_chain (x0:Option SV):∀ (ps st:List Pt) (z:Option SV),(∀ q∈ps,PB 400 q)→(∀ q∈st,PB 400 q)→st.length + ps.length < 1000 →
  ∃ z',forS (gN 2) b_chain_2 (ps.map ptP) [x0,some (.own (st.reverse.map ptP)),z] = .ok (.next [x0,some (.own ((ps.foldl (fun st p=>p::popTo p st) st).reverse.map ptP)),z'])
 | [],st,z,_,_,_=>⟨z,rfl⟩
 | p::ps,st,z,h1,h2,h3=>by
  have hp:=h1 p (.head _)
  have hw:=while_pop hp x0 st h2
  have hl:((popTo p st).reverse.map ptP).length < 10000000:=by
   have:=pop_len p st
   simp only [List.length_cons] at h3
   rw [List.length_map,List.length_reverse]; omega
  have hb:b_chain_2 [x0,some (.own (st.reverse.map ptP)),some (.sh (ptP p))] = .ok (.next [x0,some (.own ((p::popTo p st).reverse.map ptP)),some (.sh (ptP p))]):=by
   rw [b_chain_2_s,sSeq_s,hw]
   simp only [bind_ok']
   rw [sApp_o (i:=1) (p:=ptP p) rfl hl rfl]
   simp
  obtain ⟨z',hz⟩:=for_chain x0 ps (p::popTo p st) (some (.sh (ptP p))) (fun q hq=>h1 q (.tail _ hq)) (fun q hq=>by
   rcases List.mem_cons.mp hq with rfl | hq
   ·exact hp
   ·exact h2 q (pop_sub p st q hq)) (by
   have:=pop_len p st
   simp only [List.length_cons] at h3 ⊢; omega)
  refine ⟨z',?_⟩
  rw [List.map_cons,forS_cons (σ1:=[x0,some (.own (st.reverse.map ptP)),some (.sh (ptP p))]) rfl,hb]
  exact hz
theorem m_chain {ps:List Pt} (h:∀ q∈ps,PB 400 q) (hl:ps.length < 1000):M_chain [.lst (ps.map ptP)] = .ok (.lst ((chainR ps).reverse.map ptP)):=by
 obtain ⟨z,hz⟩:=for_chain (some (.sh (.lst (ps.map ptP)))) ps [] none h (fun q hq=>by simp at hq) (by simpa using hl)
 unfold M_chain; rw [run1]
 have hz':forS (gN 2) b_chain_2 (ps.map ptP) [some (.sh (.lst (ps.map ptP))),some (.own []),none] = _:=hz
 simp only [d_chain,sSeq_s,sOwn_0,bind_ok',sFor_s,itE_s]
 show fin (((eVar 0 [some (.sh (.lst (ps.map ptP))),some (.own []),none]).bind asSeq).bind (fun ps'=>forS (gN 2) b_chain_2 ps' [some (.sh (.lst (ps.map ptP))),some (.own []),none]) |>.bind _) = _
 simp only [eVar_0,bind_ok',asSeq_l,hz']
 rfl
theorem chain_len (ps:List Pt):(chainR ps).length≤ps.length:=by
 have key:∀ (ps st:List Pt),(ps.foldl (fun st p=>p::popTo p st) st).length≤st.length + ps.length:=by
  intro ps
  induction ps with
  | nil=>intro st; exact Nat.le_refl _
  | cons p ps ih =>
   intro st
   have:=ih (p::popTo p st)
   have:=pop_len p st
   simp only [List.foldl_cons,List.length_cons] at *
   omega
 have:=key ps []
 rw [List.length_nil,Nat.zero_add] at this
 exact this
theorem hull_pre {ps:List Pt} (h:∀ q∈ps,PB 400 q) (hl:ps.length≤63) (rest:DS) :
  ∃ x0 x1 x2 x3,(sSeq (sSet 1 (e1 pSortSet (eComp (itE (eVar 0)) (gN 0) e_hull_1 1 []))) (sSeq (sSet 2 (eA (fun ps=>noErr (M_chain ps)) (aCons (eVar 1) aNil)))
  (sSeq (sSet 3 (eA (fun ps=>noErr (M_chain ps)) (aCons (e1 pRev (eVar 1)) aNil)))
  (sSeq (sSet 4 (e2 pAdd (eSl (eVar 2) oNo (oE (e1 pNeg (eC (.int 1))))) (eSl (eVar 3) oNo (oE (e1 pNeg (eC (.int 1))))))) rest)))) [some (.sh (.lst (ps.map ptP))),none,none,none,none] = rest [x0,x1,x2,x3,some (.sh (.lst ((hullL (sortU ps)).map ptP)))]:=by
 have hs:∀ q∈sortU ps,PB 400 q:=fun q hq=>h q ((sortU_mem ps q).mp hq)
 have hsl:=sortU_len ps
 have c1:=m_chain hs (by omega)
 have c2:=m_chain (ps:=(sortU ps).reverse) (fun q hq=>hs q (List.mem_reverse.mp hq)) (by rw [List.length_reverse]; omega)
 have hc:eComp (itE (eVar 0)) (gN 0) e_hull_1 1 [] [some (.sh (.lst (ps.map ptP))),none,none,none,none] = .ok (.lst (ps.map ptP)) :=
  eComp_on (xs:=ps) (u:=ptP) (v:=ptP) rfl (fun x _=>by rw [turnN]; show noErr (e_hull_1 [some (.sh (ptP x))]) = _; unfold ptP; simp [e_hull_1_s]) (by omega)
 have l1:=chain_len (sortU ps)
 have l2:=chain_len (sortU ps).reverse
 rw [List.length_reverse] at l2
 refine ⟨some (.sh (.lst (ps.map ptP))),some (.sh (.lst ((sortU ps).map ptP))),some (.sh (.lst ((chainR (sortU ps)).reverse.map ptP))),some (.sh (.lst ((chainR (sortU ps).reverse).reverse.map ptP))),?_⟩
 simp only [sSeq_s,sSet_s,e1_s,hc,bind_ok',pSortSet_s hl,List.set_cons_succ,List.set_cons_zero,eA_s,aCons_s,aNil_s,eVar_1,c1,noErr_s,pRev_s (xs:=(sortU ps).map ptP) (by rw [List.length_map]; omega),← List.map_reverse,c2,e2_s,eSl_s,oNo_s,oE_s,eVar_2,eVar_3,eC_s,pNeg_s,asI_s,pSl_most]
 rw [pAdd_l (by simp only [List.length_dropLast,List.length_map,List.length_reverse]; omega)]
 simp [hullL,List.map_dropLast]
theorem seq_ok (F R:DS) {σ σ1:PSt} {r:Res Fl} (h1:F σ = .ok (.next σ1)) (h2:R σ1 = r):(sSeq F R) σ = r:=by
 rw [sSeq_s,h1]
 exact h2
theorem for_test {gg:DG} {c:DS} (I:PSt→Prop) (P bad:PV→Prop) (h:∀ p σ,P p→I σ→∃ σ1,gg p σ = .ok σ1∧((¬ bad p∧∃ σ',c σ1 = .ok (.next σ')∧I σ')∨(bad p∧c σ1 = .ok (.ret (.bl false))))) :
  ∀ (ps:List PV),(∀ p∈ps,P p)→∀ σ,I σ→((∀ p∈ps,¬ bad p)∧∃ σ',forS gg c ps σ = .ok (.next σ')∧I σ')∨((∃ p∈ps,bad p)∧forS gg c ps σ = .ok (.ret (.bl false)))
 | [],_,σ,i=>.inl ⟨fun p h=>by simp at h,σ,rfl,i⟩
 | p::ps,hp,σ,i=>by
  obtain ⟨σ1,h1,h2⟩:=h p σ (hp p List.mem_cons_self) i
  rw [forS_cons h1]
  rcases h2 with ⟨nb,σ2,h2,i2⟩ | ⟨b,h2⟩
  ·rw [h2]
   rcases for_test I P bad h ps (fun q hq=>hp q (List.mem_cons_of_mem _ hq)) σ2 i2 with ⟨a1,σ3,a2,a3⟩ | ⟨⟨q,hq,bq⟩,a2⟩
   ·refine .inl ⟨fun q hq=>?_,σ3,a2,a3⟩
    rcases List.mem_cons.mp hq with rfl | hq
    ·exact nb
    ·exact a1 q hq
   ·exact .inr ⟨⟨q,List.mem_cons_of_mem _ hq,bq⟩,a2⟩
  ·rw [h2]
   exact .inr ⟨⟨p,List.mem_cons_self,b⟩,rfl⟩
theorem ptP_inj {a b:Pt} (h:ptP a = ptP b):a = b:=by
 unfold ptP at h
 injection h with h
 injection h with h1 h2
 injection h2 with h2 _
 injection h1 with h1
 injection h2 with h2
 exact Prod.ext h1 h2
theorem col_mono {l r:List Pt} (h:Col l) (s:∀ p∈r,p∈l):Col r:=fun x hx y hy z hz=>h x (s x hx) y (s y hy) z (s z hz)
theorem col_iff {p0:Pt} {ps:List Pt} (h0:p0∈ps):Col ps↔∀ a∈ps,∀ b∈ps,cr p0 a b = 0:=by
 constructor
 ·exact fun h a ha b hb=>h p0 h0 a ha b hb
 ·intro h x hx y hy z hz
  have e:cr x y z = cr p0 y z - cr p0 x z + cr p0 x y:=by unfold cr; grind
  rw [e,h y hy z hz,h x hx z hz,h x hx y hy]; rfl
def tsg (x:Int):Int:=(if 0 < x then 1 else 0) - (if x < 0 then 1 else 0)
theorem tsg_pos {x:Int} (h:0 < x):tsg x = 1:=by unfold tsg; rw [if_pos h,if_neg (by omega)]; rfl
theorem tsg_nn {x:Int} (h:0≤x):¬ tsg x < 0:=by unfold tsg; rw [if_neg (by omega:¬ x < 0)]; split <;> omega
theorem tsg_zero {x:Int}:tsg x = 0↔x = 0:=by unfold tsg; constructor <;> intro h <;> (repeat' split at h) <;> (repeat' split) <;> omega
theorem m_turn {a b c:Pt} (ha:PB 200 a) (hb:PB 200 b) (hc:PB 200 c):M__law_turn [ptP a,ptP b,ptP c] = .ok (.int (tsg (cr a b c))):=by
 have k1:=mul_ok (bits_sub hb.1 ha.1) (bits_sub hc.2 hb.2) (by decide)
 have k2:=mul_ok (bits_sub hb.2 ha.2) (bits_sub hc.1 hb.1) (by decide)
 have e:=cr_f3 a b c
 unfold M__law_turn; rw [run3]
 generalize (b.1 - a.1) * (c.2 - b.2) = L at *
 generalize (b.2 - a.2) * (c.1 - b.1) = R at *
 rw [← e]
 rcases Int.lt_trichotomy L R with h | h | h
 ·have h':¬ R < L:=by omega
  have t:tsg (L - R) = 0 - 1:=by unfold tsg; rw [if_neg (by omega),if_pos (by omega)]
  rw [t]
  simp [d__law_turn,k1,k2,h,h']
 ·subst h
  have t:tsg (L - L) = 0:=by unfold tsg; rw [if_neg (by omega),if_neg (by omega)]; rfl
  rw [t]
  simp [d__law_turn,k1,k2]
 ·have h':¬ L < R:=by omega
  have t:tsg (L - R) = 1:=tsg_pos (by omega)
  rw [t]
  simp [d__law_turn,k1,k2,h,h']
theorem m_line {ps:List Pt} (hb:∀ q∈ps,PB 200 q):∃ b:Bool,M__law_on_a_line [.lst (ps.map ptP)] = .ok (.bl b)∧(b = true↔Col ps):=by
 cases ps with
 | nil=>exact ⟨true,by unfold M__law_on_a_line; rw [run1]; simp [d__law_on_a_line],fun _ x hx=>by simp at hx,fun _=>rfl⟩
 | cons p0 r =>
  have m0:p0∈p0::r:=.head _
  generalize hL:p0::r = ps at *
  have g0:atR (ps.map ptP) 0 id = .ok (ptP p0):=by rw [← hL]; exact at_nat (k:=0) rfl
  have inner:∀ one∈ps,∀ z:Option SV,(¬ (∃ o∈ps,cr p0 one o≠0)∧∃ z',b__law_on_a_line_2 [some (.sh (.lst (ps.map ptP))),some (.sh (ptP one)),z] = .ok (.next [some (.sh (.lst (ps.map ptP))),some (.sh (ptP one)),z']))∨((∃ o∈ps,cr p0 one o≠0)∧b__law_on_a_line_2 [some (.sh (.lst (ps.map ptP))),some (.sh (ptP one)),z] = .ok (.ret (.bl false))):=fun one h1 z=>by
   have hf:b__law_on_a_line_2 [some (.sh (.lst (ps.map ptP))),some (.sh (ptP one)),z] = forS (gN 2) b__law_on_a_line_1 (ps.map ptP) [some (.sh (.lst (ps.map ptP))),some (.sh (ptP one)),z]:=by
    rw [b__law_on_a_line_2_s,sFor_s]
    simp only [itE_s,eVar_0,bind_ok',asSeq_l]
   rw [hf]
   rcases for_test (gg:=gN 2) (c:=b__law_on_a_line_1) (fun σ=>∃ z,σ = [some (.sh (.lst (ps.map ptP))),some (.sh (ptP one)),z]) (fun p=>∃ o∈ps,p = ptP o) (fun p=>∃ o∈ps,p = ptP o∧cr p0 one o≠0) (by
    rintro p σ ⟨o,ho,rfl⟩ ⟨z,rfl⟩
    refine ⟨_,rfl,?_⟩
    have mt:=m_turn (hb p0 m0) (hb one h1) (hb o ho)
    by_cases hz:cr p0 one o = 0
    ·refine .inl ⟨fun ⟨o',_,e,h'⟩=>h' (by rw [← ptP_inj e]; exact hz),[some (.sh (.lst (ps.map ptP))),some (.sh (ptP one)),some (.sh (ptP o))],?_,_,rfl⟩
     rw [tsg_zero.mpr hz] at mt
     show b__law_on_a_line_1 [some (.sh (.lst (ps.map ptP))),some (.sh (ptP one)),some (.sh (ptP o))] = _
     generalize ps.map ptP = PS at *
     simp [b__law_on_a_line_1_s,g0,mt]
    ·refine .inr ⟨⟨o,ho,rfl,hz⟩,?_⟩
     have hz':tsg (cr p0 one o)≠0:=fun z=>hz (tsg_zero.mp z)
     show b__law_on_a_line_1 [some (.sh (.lst (ps.map ptP))),some (.sh (ptP one)),some (.sh (ptP o))] = _
     generalize ps.map ptP = PS at *
     generalize tsg (cr p0 one o) = N at *
     simp [b__law_on_a_line_1_s,g0,mt,hz']) (ps.map ptP) (fun p hp=>by
     obtain ⟨o,ho,rfl⟩:=List.mem_map.mp hp
     exact ⟨o,ho,rfl⟩) [some (.sh (.lst (ps.map ptP))),some (.sh (ptP one)),z] ⟨_,rfl⟩ with ⟨a1,σ',a2,z',rfl⟩ | ⟨⟨p,_,o,ho,_,h'⟩,a2⟩
   ·exact .inl ⟨fun ⟨o,ho,h'⟩=>a1 (ptP o) (List.mem_map_of_mem ho) ⟨o,ho,rfl,h'⟩,z',a2⟩
   ·exact .inr ⟨⟨o,ho,h'⟩,a2⟩
  have hm:∀ p,d__law_on_a_line [some (.sh (.lst (ps.map ptP))),none,none] = .ok (.ret p)→M__law_on_a_line [.lst (ps.map ptP)] = .ok p:=fun p h=>by
   unfold M__law_on_a_line; exact run1.trans (congrArg fin h)
  have hf:sFor (itE (eVar 0)) (gN 1) b__law_on_a_line_2 [some (.sh (.lst (ps.map ptP))),none,none] = forS (gN 1) b__law_on_a_line_2 (ps.map ptP) [some (.sh (.lst (ps.map ptP))),none,none]:=by
   rw [sFor_s]
   simp only [itE_s,eVar_0,bind_ok',asSeq_l]
  rcases for_test (gg:=gN 1) (c:=b__law_on_a_line_2) (fun σ=>∃ z1 z2,σ = [some (.sh (.lst (ps.map ptP))),z1,z2]) (fun p=>∃ o∈ps,p = ptP o) (fun p=>∃ o∈ps,p = ptP o∧∃ o'∈ps,cr p0 o o'≠0) (by
    rintro p σ ⟨o,ho,rfl⟩ ⟨z1,z2,rfl⟩
    refine ⟨_,rfl,?_⟩
    rcases inner o ho z2 with ⟨n,z',h⟩ | ⟨b,h⟩
    ·exact .inl ⟨fun ⟨o',_,e,h'⟩=>n (by rw [ptP_inj e]; exact h'),_,h,_,_,rfl⟩
    ·exact .inr ⟨⟨o,ho,rfl,b⟩,h⟩) (ps.map ptP) (fun p hp=>by
     obtain ⟨o,ho,rfl⟩:=List.mem_map.mp hp
     exact ⟨o,ho,rfl⟩) [some (.sh (.lst (ps.map ptP))),none,none] ⟨_,_,rfl⟩ with ⟨a1,σ',a2,_⟩ | ⟨⟨p,_,o,ho,_,o',ho',h'⟩,a2⟩
  ·refine ⟨true,hm _ ?_,fun _=>(col_iff m0).mpr fun a ha b hb'=>?_,fun _=>rfl⟩
   ·exact seq_ok _ (sRet (eC (.bl true))) (hf.trans a2) (r:=.ok (.ret (.bl true))) rfl
   ·exact Classical.byContradiction fun z=>a1 (ptP a) (List.mem_map_of_mem ha) ⟨a,ha,rfl,b,hb',z⟩
  ·refine ⟨false,hm _ ?_,fun z=>(by cases z),fun hc=>absurd ((col_iff m0).mp hc o ho o' ho') h'⟩
   show sSeq _ _ _ = _
   rw [sSeq_s,hf,a2]
   rfl
theorem m_hull0 {ps:List Pt} (h:∀ q∈ps,PB 400 q) (hl:ps.length≤63) (hc:Col (sortU ps)):M_hull [.lst (ps.map ptP)] = .err "Flat":=by
 have h3:=hull_flat (sortU_pw ps) hc
 unfold M_hull; rw [re1]
 obtain ⟨x0,x1,x2,x3,e⟩:=hull_pre h hl (sSeq (sIf (tV (e2 pLtX (eLenV 4) (eC (.int 3)))) (sRaise "Flat") sNext) (sRet (eVar 4)))
 show finE (d_hull [some (.sh (.lst (ps.map ptP))),none,none,none,none]) = _
 rw [show d_hull [some (.sh (.lst (ps.map ptP))),none,none,none,none] = _ from e]
 have hn:((hullL (sortU ps)).length:Int) < 3:=by omega
 simp [hn,sRaise,finE]
theorem m_refused {ps:List Pt} (h:∀ q∈ps,PB 400 q) (hl:ps.length≤63) (hc:Col (sortU ps)):M__law_refused [.lst (ps.map ptP)] = .ok (.bl true):=by
 unfold M__law_refused; rw [run1]
 have h0:=m_hull0 h hl hc
 generalize ps.map ptP = PS at *
 have ht:∀ x3,sTry M_hull (aCons (eVar 0) aNil) ["Flat"] 2 b__law_refused_1 [some (.sh (.lst PS)),some (.sh .non),none,x3] = .ok (.next [some (.sh (.lst PS)),some (.sh (.exc "Flat")),none,x3]):=fun x3 =>
  sTry_err (qs:=[.lst PS]) (c:="Flat") (σ':=[some (.sh (.lst PS)),some (.sh (.exc "Flat")),some (.sh (.exc "Flat")),x3]) rfl h0 (by decide +kernel) rfl
 have e1:pIsiX [("Flat",true)] (.exc "Flat") = .ok (.bl true):=pIsiX_c (by decide +kernel)
 have e2:pIsiX [("Flat",false)] (.exc "Flat") = .ok (.bl false):=pIsiX_c (by decide +kernel)
 simp [d__law_refused,ht,e1,e2]
theorem m_hullN {ps:List Pt} (h:∀ q∈ps,PB 400 q) (hl:ps.length≤63) (hc:¬ Col (sortU ps)):M_hullN [.lst (ps.map ptP)] = .ok (.lst ((hullL (sortU ps)).map ptP)):=by
 have h3:=(hull_poly (sortU_pw ps) hc).three
 have hs:∀ q∈sortU ps,PB 400 q:=fun q hq=>h q ((sortU_mem ps q).mp hq)
 have hsl:=sortU_len ps
 have c1:=m_chain hs (by omega)
 have c2:=m_chain (ps:=(sortU ps).reverse) (fun q hq=>hs q (List.mem_reverse.mp hq)) (by rw [List.length_reverse]; omega)
 have hcm:eComp (itE (eVar 0)) (gN 0) e_hullN_1 1 [] [some (.sh (.lst (ps.map ptP))),none,none,none,none] = .ok (.lst (ps.map ptP)) :=
  eComp_on (xs:=ps) (u:=ptP) (v:=ptP) rfl (fun x _=>by rw [turnN]; show noErr (e_hullN_1 [some (.sh (ptP x))]) = _; unfold ptP; simp [e_hullN_1_s]) (by omega)
 have l1:=chain_len (sortU ps)
 have l2:=chain_len (sortU ps).reverse
 rw [List.length_reverse] at l2
 have s1:(sSet 1 (e1 pSortSet (eComp (itE (eVar 0)) (gN 0) e_hullN_1 1 []))) [some (.sh (.lst (ps.map ptP))),none,none,none,none] = .ok (.next [some (.sh (.lst (ps.map ptP))),some (.sh (.lst ((sortU ps).map ptP))),none,none,none]):=by
  simp only [sSet_s,e1_s,hcm,bind_ok',pSortSet_s hl,List.set_cons_succ,List.set_cons_zero]
 have s2:(sSet 2 (eA (fun ps=>noErr (M_chain ps)) (aCons (eVar 1) aNil))) [some (.sh (.lst (ps.map ptP))),some (.sh (.lst ((sortU ps).map ptP))),none,none,none] = .ok (.next [some (.sh (.lst (ps.map ptP))),some (.sh (.lst ((sortU ps).map ptP))),some (.sh (.lst ((chainR (sortU ps)).reverse.map ptP))),none,none]):=by
  simp only [sSet_s,bind_ok',List.set_cons_succ,List.set_cons_zero,eA_s,aCons_s,aNil_s,eVar_1,c1,noErr_s]
 have s3:(sSet 3 (eA (fun ps=>noErr (M_chain ps)) (aCons (e1 pRev (eVar 1)) aNil))) [some (.sh (.lst (ps.map ptP))),some (.sh (.lst ((sortU ps).map ptP))),some (.sh (.lst ((chainR (sortU ps)).reverse.map ptP))),none,none] = .ok (.next [some (.sh (.lst (ps.map ptP))),some (.sh (.lst ((sortU ps).map ptP))),some (.sh (.lst ((chainR (sortU ps)).reverse.map ptP))),some (.sh (.lst ((chainR (sortU ps).reverse).reverse.map ptP))),none]):=by
  simp only [sSet_s,e1_s,bind_ok',List.set_cons_succ,List.set_cons_zero,eA_s,aCons_s,aNil_s,eVar_1,noErr_s,pRev_s (xs:=(sortU ps).map ptP) (by rw [List.length_map]; omega),← List.map_reverse,c2]
 have s4:(sOwnA 4 (eSl (eVar 2) oNo (oE (e1 pNeg (eC (.int 1))))) (eSl (eVar 3) oNo (oE (e1 pNeg (eC (.int 1)))))) [some (.sh (.lst (ps.map ptP))),some (.sh (.lst ((sortU ps).map ptP))),some (.sh (.lst ((chainR (sortU ps)).reverse.map ptP))),some (.sh (.lst ((chainR (sortU ps).reverse).reverse.map ptP))),none] = .ok (.next [some (.sh (.lst (ps.map ptP))),some (.sh (.lst ((sortU ps).map ptP))),some (.sh (.lst ((chainR (sortU ps)).reverse.map ptP))),some (.sh (.lst ((chainR (sortU ps).reverse).reverse.map ptP))),some (.own ((hullL (sortU ps)).map ptP))]):=by
  refine sOwnA_ok (p:=.lst ((chainR (sortU ps)).reverse.map ptP).dropLast) (q:=.lst ((chainR (sortU ps).reverse).reverse.map ptP).dropLast) (by simp only [eSl_s,oNo_s,oE_s,eVar_2,e1_s,eC_s,pNeg_s,asI_s,bind_ok',pSl_most]) (by simp only [eSl_s,oNo_s,oE_s,eVar_3,e1_s,eC_s,pNeg_s,asI_s,bind_ok',pSl_most]) ?_
  rw [pAdd_l (by simp only [List.length_dropLast,List.length_map,List.length_reverse]; omega)]
  simp [hullL,List.map_dropLast]
 have hn:¬ ((hullL (sortU ps)).length:Int) < 3:=by omega
 have s5:(sIf (tV (e2 pLtX (eLenV 4) (eC (.int 3)))) (fun _=>.stuck) sNext) [some (.sh (.lst (ps.map ptP))),some (.sh (.lst ((sortU ps).map ptP))),some (.sh (.lst ((chainR (sortU ps)).reverse.map ptP))),some (.sh (.lst ((chainR (sortU ps).reverse).reverse.map ptP))),some (.own ((hullL (sortU ps)).map ptP))] = .ok (.next [some (.sh (.lst (ps.map ptP))),some (.sh (.lst ((sortU ps).map ptP))),some (.sh (.lst ((chainR (sortU ps)).reverse.map ptP))),some (.sh (.lst ((chainR (sortU ps).reverse).reverse.map ptP))),some (.own ((hullL (sortU ps)).map ptP))]):=by
  have e:eLenV 4 [some (.sh (.lst (ps.map ptP))),some (.sh (.lst ((sortU ps).map ptP))),some (.sh (.lst ((chainR (sortU ps)).reverse.map ptP))),some (.sh (.lst ((chainR (sortU ps).reverse).reverse.map ptP))),some (.own ((hullL (sortU ps)).map ptP))] = .ok (.int (((hullL (sortU ps)).map ptP).length:Nat)):=rfl
  rw [List.length_map] at e
  simp only [sIf_s,tV_s,e2_s,e,eC_s,bind_ok',pLtX_i,asB_s,hn,decide_false]
  rfl
 have key:d_hullN [some (.sh (.lst (ps.map ptP))),none,none,none,none] = .ok (.ret (.lst ((hullL (sortU ps)).map ptP))) :=
  sSeqN_ok s1 (sSeqN_ok s2 (sSeqN_ok s3 (sSeqN_ok s4 (sSeqN_ok s5 (sRetO_ok (i:=4) rfl)))))
 unfold M_hullN
 exact run1.trans (congrArg fin key)
theorem many_loop (ns:List Int) (hd:Int) (x0:Option SV):∀ (l:List PV) (L:List Pt) (z3 z4 z5:Option SV),(∀ p∈l,∃ i:Int,p = .int i)→(∀ q∈L,PB 190 q)→L.length + l.length≤1000 →
  ∃ (L':List Pt) (y3 y4 y5:Option SV),forS (gN 3) b__law_many_points_1 l [x0,some (.sh (.int hd)),some (.own (L.map ptP)),z3,z4,z5] = .ok (.next [x0,some (.sh (.int hd)),some (.own ((L++L').map ptP)),y3,y4,y5])∧L'.length = l.length∧∀ q∈L',PB 190 q
 | [],L,z3,z4,z5,_,_,_=>⟨[],z3,z4,z5,by simp,rfl,fun q h=>by simp at h⟩
 | p::l,L,z3,z4,z5,h1,h2,h3=>by
  obtain ⟨i,rfl⟩:=h1 p (.head _)
  simp only [List.length_cons] at h3
  have step:∃ (q:Pt) (y5:Option SV),b__law_many_points_1 [x0,some (.sh (.int hd)),some (.own (L.map ptP)),some (.sh (.int i)),z4,z5] = .ok (.next [x0,some (.sh (.int hd)),some (.own ((L++[q]).map ptP)),some (.sh (.int i)),some (.sh (.int (i % 1000000000000000000000000000000000000000000000000000000000000))),y5])∧PB 190 q:=by
   have t0:(sSet 4 (e2 pMod (eVar 3) (e2 pPow (eC (.int 10)) (eC (.int 60))))) [x0,some (.sh (.int hd)),some (.own (L.map ptP)),some (.sh (.int i)),z4,z5] = .ok (.next [x0,some (.sh (.int hd)),some (.own (L.map ptP)),some (.sh (.int i)),some (.sh (.int (i % 1000000000000000000000000000000000000000000000000000000000000))),z5]):=by simp
   generalize i % 1000000000000000000000000000000000000000000000000000000000000 = c at *
   have hlen:(L.map ptP).length < 10000000:=by rw [List.length_map]; omega
   have ap:∀ (q:Pt) (y5:Option SV) (d:DE),d [x0,some (.sh (.int hd)),some (.own (L.map ptP)),some (.sh (.int i)),some (.sh (.int c)),y5] = .ok (ptP q)→sApp 2 d [x0,some (.sh (.int hd)),some (.own (L.map ptP)),some (.sh (.int i)),some (.sh (.int c)),y5] = .ok (.next [x0,some (.sh (.int hd)),some (.own ((L++[q]).map ptP)),some (.sh (.int i)),some (.sh (.int c)),y5]):=fun q y5 d h=>by
    rw [sApp_o (i:=2) rfl hlen h,List.map_append]; rfl
   have m5:=mul_ok (x:=5) (y:=10000000000000000000000000000) (bits_lt (n:=3) (by decide)) (bits_lt (n:=100) (by decide)) (by decide)
   have f29:pFdiv (.int c) (.int 100000000000000000000000000000) = .ok (.int (c / 100000000000000000000000000000)):=by
    rw [pFdiv_s (by decide) (Nat.le_trans (bits_lt (n:=100) (by decide)) (by decide)),Int.fdiv_eq_ediv_of_nonneg _ (by decide)]
   by_cases k0:hd % 3 = 0
   ·refine ⟨(c % 7,c / 7 % 7),z5,(b__law_many_points_1_s _).trans (seq_ok _ _ t0 ?_),Nat.le_trans (bits_lt (n:=3) (by omega)) (by decide),Nat.le_trans (bits_lt (n:=3) (by omega)) (by decide)⟩
    have:=ap (c % 7,c / 7 % 7) z5 (eA pTup (aCons (e2 pMod (eVar 4) (eC (.int 7))) (aCons (e2 pMod (e2 pFdiv (eVar 4) (eC (.int 7))) (eC (.int 7))) aNil))) (by simp [ptP])
    simp only [sIf_s,tV_s,e2_s,eVar_1,eC_s,bind_ok',pMod_n _ (show 0 < 3 by decide),pEq_i,asB_s,k0,decide_true,if_true]
    exact this
   ·by_cases k1:hd % 3 = 1
    ·refine ⟨(c % 100000000000000000000000000000 - 50000000000000000000000000000,c / 100000000000000000000000000000 % 100000000000000000000000000000 - 50000000000000000000000000000),z5,(b__law_many_points_1_s _).trans (seq_ok _ _ t0 ?_),Nat.le_trans (bits_lt (n:=100) (by omega)) (by decide),Nat.le_trans (bits_lt (n:=100) (by omega)) (by decide)⟩
     have:=ap (c % 100000000000000000000000000000 - 50000000000000000000000000000,c / 100000000000000000000000000000 % 100000000000000000000000000000 - 50000000000000000000000000000) z5 (eA pTup (aCons (e2 pSub (e2 pMod (eVar 4) (e2 pPow (eC (.int 10)) (eC (.int 29)))) (e2 pMul (eC (.int 5)) (e2 pPow (eC (.int 10)) (eC (.int 28))))) (aCons (e2 pSub (e2 pMod (e2 pFdiv (eVar 4) (e2 pPow (eC (.int 10)) (eC (.int 29)))) (e2 pPow (eC (.int 10)) (eC (.int 29)))) (e2 pMul (eC (.int 5)) (e2 pPow (eC (.int 10)) (eC (.int 28))))) aNil))) (by simp [ptP,m5,f29])
     simp only [sIf_s,tV_s,e2_s,eVar_1,eC_s,bind_ok',pMod_n _ (show 0 < 3 by decide),pEq_i,asB_s,k1,decide_true,if_true,show ((1:Int) = 0) = False from by simp,decide_false]
     exact this
    ·have fb:intBits (1 + hd / 6 % 100000000000000000000)≤70:=bits_lt (by omega)
     have c5:intBits (c % 5)≤3:=bits_lt (by omega)
     have c3:intBits (c / 5 % 3)≤3:=bits_lt (by omega)
     have n1:=mul_ok c5 fb (by decide)
     have n2:=mul_ok c3 fb (by decide)
     have t3:intBits (3:Int)≤3:=bits_lt (by decide)
     have t1:(sSet 5 (e2 pAdd (eC (.int 1)) (e2 pMod (e2 pFdiv (eVar 1) (eC (.int 6))) (e2 pPow (eC (.int 10)) (eC (.int 20)))))) [x0,some (.sh (.int hd)),some (.own (L.map ptP)),some (.sh (.int i)),some (.sh (.int c)),z5] = .ok (.next [x0,some (.sh (.int hd)),some (.own (L.map ptP)),some (.sh (.int i)),some (.sh (.int c)),some (.sh (.int (1 + hd / 6 % 100000000000000000000)))]):=by simp
     generalize 1 + hd / 6 % 100000000000000000000 = F at *
     refine ⟨(c % 5 * F + 3,c / 5 % 3 * F - c % 5),some (.sh (.int F)),(b__law_many_points_1_s _).trans (seq_ok _ _ t0 ?_),Nat.le_trans (bits_add (bits_mul c5 fb) t3) (by decide),Nat.le_trans (bits_sub (bits_mul c3 fb) c5) (by decide)⟩
     have:=ap (c % 5 * F + 3,c / 5 % 3 * F - c % 5) (some (.sh (.int F))) (eA pTup (aCons (e2 pAdd (e2 pMul (e2 pMod (eVar 4) (eC (.int 5))) (eVar 5)) (eC (.int 3))) (aCons (e2 pSub (e2 pMul (e2 pMod (e2 pFdiv (eVar 4) (eC (.int 5))) (eC (.int 3))) (eVar 5)) (e2 pMod (eVar 4) (eC (.int 5)))) aNil))) (by simp [ptP,n1,n2])
     simp only [sIf_s,tV_s,e2_s,eVar_1,eC_s,bind_ok',pMod_n _ (show 0 < 3 by decide),pEq_i,asB_s,k0,k1,decide_false]
     exact seq_ok _ _ t1 this
  obtain ⟨q,y5,hstep,hq⟩:=step
  obtain ⟨L',w3,w4,w5,e,hl,hn⟩:=many_loop ns hd x0 l (L++[q]) (some (.sh (.int i))) _ y5 (fun p hp=>h1 p (.tail _ hp)) (fun q' hq'=>by
   rcases List.mem_append.mp hq' with h | h
   ·exact h2 q' h
   ·rw [List.mem_singleton.mp h]; exact hq) (by simp only [List.length_append,List.length_singleton]; omega)
  refine ⟨q::L',w3,w4,w5,?_,by simp [hl],fun q' hq'=>?_⟩
  ·rw [forS_cons (σ1:=[x0,some (.sh (.int hd)),some (.own (L.map ptP)),some (.sh (.int i)),z4,z5]) rfl,hstep]
   simp only [bind_ok']
   rw [e]
   simp
  ·rcases List.mem_cons.mp hq' with rfl | h
   ·exact hq
   ·exact hn q' h
theorem m_many (ns:List Int) (hl:ns.length≤63):∃ ps:List Pt,M__law_many_points [.scr ns] = .ok (.lst (ps.map ptP))∧ps.length≤63∧∀ q∈ps,PB 200 q:=by
 obtain ⟨hd,hh⟩:=m_cell ns 0 (by omega)
 have cl:(cutP (ns.map PV.int) (some 1) (some 41)).length≤63:=by
  unfold cutP
  rw [List.length_take,List.length_drop,List.length_map]
  omega
 obtain ⟨L,y3,y4,y5,e,hlen,hn⟩:=many_loop ns hd (some (.sh (.scr ns))) (cutP (ns.map PV.int) (some 1) (some 41)) [] none none none (fun p hp=>by
  have hp:=List.mem_of_mem_drop (List.mem_of_mem_take hp)
  obtain ⟨i,_,rfl⟩:=List.mem_map.mp hp
  exact ⟨i,rfl⟩) (fun q h=>by simp at h) (by simp only [List.length_nil]; omega)
 rw [List.nil_append] at e
 have turn:∃ L1:List Pt,(sIf (tV (e2 pEq (e2 pMod (e2 pFdiv (eVar 1) (eC (.int 3))) (eC (.int 2))) (eC (.int 1)))) (sShare 2 (sCompO 2 (itE (eVar 2)) (gU [0,1]) e__law_many_points_2 2 [])) sNext) [some (.sh (.scr ns)),some (.sh (.int hd)),some (.own (L.map ptP)),y3,y4,y5] = .ok (.next [some (.sh (.scr ns)),some (.sh (.int hd)),some (.own (L1.map ptP)),y3,y4,y5])∧L1.length = L.length∧∀ q∈L1,PB 200 q:=by
  by_cases h:hd / 3 % 2 = 1
  ·refine ⟨L.map fun q=>(q.1,3 * q.1 - 2),?_,by simp,fun q hq=>?_⟩
   ·simp only [sIf_s,tV_s,e2_s,eVar_1,eC_s,bind_ok',pFdiv_n _ (show 0 < 3 by decide) (by decide),pMod_n _ (show 0 < 2 by decide),pEq_i,asB_s,h,decide_true,if_true]
    rw [sShare_o (i:=2) (xs:=L.map ptP) rfl,sCompO_on (xs:=L) (u:=ptP) (v:=fun q=>ptP (q.1,3 * q.1 - 2)) rfl (fun x hx=>by
     have k3:=mul_ok (x:=3) (y:=x.1) (bits_lt (n:=3) (by decide)) (hn x hx).1 (by decide)
     unfold ptP; rw [turnU2]; show noErr (e__law_many_points_2 [some (.sh (.int x.1)),some (.sh (.int x.2))]) = _; simp [e__law_many_points_2_s,k3]) (by omega)]
    simp
   ·obtain ⟨x,hx,rfl⟩:=List.mem_map.mp hq
    have:=hn x hx
    exact ⟨Nat.le_trans this.1 (by decide),Nat.le_trans (bits_sub (bits_mul (show intBits (3:Int)≤3 from bits_lt (by decide)) this.1) (show intBits (2:Int)≤3 from bits_lt (by decide))) (by decide)⟩
  ·refine ⟨L,?_,rfl,fun q hq=>⟨Nat.le_trans (hn q hq).1 (by decide),Nat.le_trans (hn q hq).2 (by decide)⟩⟩
   simp only [sIf_s,tV_s,e2_s,eVar_1,eC_s,bind_ok',pFdiv_n _ (show 0 < 3 by decide) (by decide),pMod_n _ (show 0 < 2 by decide),pEq_i,asB_s,h,decide_false]
   rfl
 obtain ⟨L1,e1,hl1,hn1⟩:=turn
 refine ⟨L1,?_,by omega,hn1⟩
 have t0:(sSet 1 (eA (fun ps=>noErr (M__law_cell ps)) (aCons (eVar 0) (aCons (eC (.int 0)) aNil)))) [some (.sh (.scr ns)),none,none,none,none,none] = .ok (.next [some (.sh (.scr ns)),some (.sh (.int hd)),none,none,none,none]):=by simp [hh]
 have t1:(sOwn 2 aNil) [some (.sh (.scr ns)),some (.sh (.int hd)),none,none,none,none] = .ok (.next [some (.sh (.scr ns)),some (.sh (.int hd)),some (.own []),none,none,none]):=by simp [sOwn]
 have t2:(sFor (itE (eSl (eVar 0) (oE (eC (.int 1))) (oE (eC (.int 41))))) (gN 3) b__law_many_points_1) [some (.sh (.scr ns)),some (.sh (.int hd)),some (.own []),none,none,none] = .ok (.next [some (.sh (.scr ns)),some (.sh (.int hd)),some (.own (L.map ptP)),y3,y4,y5]):=by
  rw [sFor_s]
  simp [pSl]
  exact e
 have t4:(sShare 2 (sRet (eVar 2))) [some (.sh (.scr ns)),some (.sh (.int hd)),some (.own (L1.map ptP)),y3,y4,y5] = .ok (.ret (.lst (L1.map ptP))):=by
  rw [sShare_o (i:=2) (xs:=L1.map ptP) rfl]
  simp
 have key:=seq_ok _ _ t0 (seq_ok _ _ t1 (seq_ok _ _ t2 (seq_ok _ _ e1 t4)))
 unfold M__law_many_points
 exact run1.trans (congrArg fin key)
theorem poly_ne {cs l:List Pt} (P:Poly cs l) {i j:Nat} (hij:i < j) (hj:j < cs.length):cs[i]?≠cs[j]?:=fun h0=>by
 have n0:0 < cs.length:=by omega
 have all:∀ m:Nat,cs[(i + m) % cs.length]? = cs[(j + m) % cs.length]?:=by
  intro m
  induction m with
  | zero=>rw [Nat.add_zero,Nat.add_zero,Nat.mod_eq_of_lt (by omega),Nat.mod_eq_of_lt hj]; exact h0
  | succ m ih =>
   obtain ⟨a,ha⟩:=P.get (i + m)
   obtain ⟨b,hb⟩:=P.get (i + m + 1)
   obtain ⟨b',hb'⟩:=P.get (j + m + 1)
   obtain ⟨c,hc⟩:=P.get (i + m + 2)
   obtain ⟨c',hc'⟩:=P.get (j + m + 2)
   have ha':cs[(j + m) % cs.length]? = some a:=by rw [← ih]; exact ha
   have t1:=P.turn (i + m) a b c ha hb hc
   have t2:=P.turn (j + m) a b' c' ha' hb' hc'
   have nb:b≠a:=fun z=>P.ne ha hb z.symm
   have nb':b'≠a:=fun z=>P.ne ha' hb' z.symm
   have mb:b∈cs:=List.mem_of_getElem? hb
   have mb':b'∈cs:=List.mem_of_getElem? hb'
   by_cases e:b = b'
   ·rw [show i + (m + 1) = i + m + 1 by omega,show j + (m + 1) = j + m + 1 by omega,hb,hb',e]
   ·have s1:=P.strict (k:=i + m) ha hb mb' nb' (fun z=>e z.symm)
    have s2:=P.strict (k:=j + m) ha' hb' mb nb e
    have:cr a b b' = - cr a b' b:=by unfold cr; grind
    omega
 have z:=all (cs.length - j)
 rw [show j + (cs.length - j) = cs.length by omega,Nat.mod_self,Nat.mod_eq_of_lt (by omega)] at z
 exact P.uniq (i + (cs.length - j)) (by omega) (by omega) z
theorem at_back {xs:List PV} {k m:Nat} {p:PV} (hk:k < xs.length) (hm:m≤xs.length) (h:xs[(k + (xs.length - m)) % xs.length]? = some p):atR xs ((k:Int) - (m:Int)) id = .ok p:=by
 by_cases hkm:m≤k
 ·have e:((k:Int) - (m:Int)) = ((k - m:Nat):Int):=by omega
  rw [e]
  refine at_nat ?_
  rw [show k + (xs.length - m) = (k - m) + xs.length by omega,Nat.add_mod_right,Nat.mod_eq_of_lt (by omega)] at h
  exact h
 ·rw [Nat.mod_eq_of_lt (by omega)] at h
  unfold atR atI ixN
  rw [if_neg (by omega),if_pos (by omega)]
  have e:((k:Int) - (m:Int) + (xs.length:Int)).toNat = k + (xs.length - m):=by omega
  rw [e]
  simp [h]
theorem lx_irr {a:Pt}:¬ lx a a:=fun h=>by unfold lx at h; omega
theorem lx_asym {a b:Pt} (h:lx a b):¬ lx b a:=fun h'=>by unfold lx at *; omega
section
variable {ps cs:List Pt} (P:Poly cs (sortU ps)) (hl:cs.length≤1000) (hb:∀ q∈ps,PB 200 q)
include P hl hb
theorem are_step {k:Nat} (hk:k < cs.length) (z3:Option SV):∃ y3,b__law_are_points_1 [some (.sh (.lst (cs.map ptP))),some (.sh (.lst (ps.map ptP))),some (.sh (.int (k:Int))),z3] = .ok (.next [some (.sh (.lst (cs.map ptP))),some (.sh (.lst (ps.map ptP))),some (.sh (.int (k:Int))),y3]):=by
 have n3:=P.three
 have ek:cs[k]? = some cs[k]:=List.getElem?_eq_getElem hk
 have e0:cs[0]? = some cs[0]:=List.getElem?_eq_getElem (by omega)
 have mk:cs[k]∈ps:=(sortU_mem ps _).mp (P.sub _ (List.getElem_mem hk))
 have nk:cs[k] ∉ cs.take k:=fun h=>by
  obtain ⟨j,hj,e⟩:=List.mem_iff_getElem.mp h
  rw [List.length_take] at hj
  rw [List.getElem_take] at e
  exact poly_ne P (show j < k by omega) hk (by rw [ek,List.getElem?_eq_getElem (by omega),e])
 have nl:¬ lx cs[k] cs[0]:=fun h=>by
  rcases P.fst _ e0 cs[k] (P.sub _ (List.getElem_mem hk)) with z | z
  ·rw [z] at h; exact lx_irr h
  ·exact lx_asym h z
 have g1:atR (cs.map ptP) (k:Int) id = .ok (ptP cs[k]):=at_nat (by rw [List.getElem?_map,ek]; rfl)
 have g0:atR (cs.map ptP) 0 id = .ok (ptP cs[0]):=at_nat (k:=0) (by rw [List.getElem?_map,e0]; rfl)
 generalize cs[k] = q at *
 generalize cs[0] = f at *
 have hni:pNotIn (ptP q) (.lst (ps.map ptP)) = .ok (.bl false):=by
  show (match asPt (ptP q),asPts (ps.map ptP) with
   | some q,some ps=>Res.ok (PV.bl (!decide (q∈ps)))
   | _,_=>.stuck) = _
  rw [asPts_map]
  show Res.ok (PV.bl (!decide (q∈ps))) = _
  rw [decide_eq_true mk]; rfl
 have hin:pIn (ptP q) (.lst ((cs.take k).map ptP)) = .ok (.bl false):=by
  show (match asPt (ptP q),asPts ((cs.take k).map ptP) with
   | some q,some ps=>Res.ok (PV.bl (decide (q∈ps)))
   | _,_=>.stuck) = _
  rw [asPts_map]
  show Res.ok (PV.bl (decide (q∈cs.take k))) = _
  rw [decide_eq_false nk]
 have hlt:pLtX (ptP q) (ptP f) = .ok (.bl false):=by rw [pLtX_pt,decide_eq_false nl]
 have hsl:pSl (.lst (cs.map ptP)) none (some (k:Int)) = .ok (.lst ((cs.take k).map ptP)):=by
  unfold pSl cutP
  simp only
  have s0:HT.sIx (cs.map ptP).length 0 none = 0:=rfl
  have s1:HT.sIx (cs.map ptP).length (cs.map ptP).length (some (k:Int)) = k:=by
   rw [List.length_map]
   unfold HT.sIx
   simp only
   split <;> omega
  rw [s0,s1,List.drop_zero,Nat.sub_zero,List.map_take]
 generalize (cs.take k).map ptP = CK at *
 generalize cs.map ptP = CC at *
 generalize ps.map ptP = PP at *
 generalize (k:Int) = K at *
 have t0:(sSet 3 (eIxV 0 (eVar 2))) [some (.sh (.lst CC)),some (.sh (.lst PP)),some (.sh (.int K)),z3] = .ok (.next [some (.sh (.lst CC)),some (.sh (.lst PP)),some (.sh (.int K)),some (.sh (ptP q))]):=by simp [g1]
 have t1:(sIf (G.tOr (G.tNot (tV (e1 (pIsi "tuple") (eVar 3)))) (G.tOr (tV (e2 pNe (eLenV 3) (eC (.int 2)))) (G.tOr (G.tNot (tV (eA (fun ps=>noErr (M__law_whole ps)) (aCons (eIxV 3 (eC (.int 0))) aNil)))) (G.tNot (tV (eA (fun ps=>noErr (M__law_whole ps)) (aCons (eIxV 3 (eC (.int 1))) aNil))))))) (sRet (eC (.bl false))) sNext) [some (.sh (.lst CC)),some (.sh (.lst PP)),some (.sh (.int K)),some (.sh (ptP q))] = .ok (.next [some (.sh (.lst CC)),some (.sh (.lst PP)),some (.sh (.int K)),some (.sh (ptP q))]):=by
  unfold ptP
  simp [isSub,m_whole]
 have t2:(sIf (G.tOr (tV (e2 pNotIn (eVar 3) (eVar 1))) (G.tOr (tV (e2 pIn (eVar 3) (eSl (eVar 0) oNo (oE (eVar 2))))) (tV (e2 pLtX (eVar 3) (eIxV 0 (eC (.int 0))))))) (sRet (eC (.bl false))) sNext) [some (.sh (.lst CC)),some (.sh (.lst PP)),some (.sh (.int K)),some (.sh (ptP q))] = .ok (.next [some (.sh (.lst CC)),some (.sh (.lst PP)),some (.sh (.int K)),some (.sh (ptP q))]):=by
  simp [hni,hin,hlt,hsl,g0]
 exact ⟨_,(b__law_are_points_1_s _).trans (seq_ok _ _ t0 (seq_ok _ _ t1 t2))⟩
theorem m_are:M__law_are_points [.lst (cs.map ptP),.lst (ps.map ptP)] = .ok (.bl true):=by
 have n3:=P.three
 obtain ⟨σ',e,_⟩:=for_all (gg:=gN 2) (c:=b__law_are_points_1) (fun σ=>∃ z2 z3,σ = [some (.sh (.lst (cs.map ptP))),some (.sh (.lst (ps.map ptP))),z2,z3]) (fun p=>∃ k:Nat,k < cs.length∧p = .int (k:Int))
  (by
   rintro p σ ⟨k,hk,rfl⟩ ⟨z2,z3,rfl⟩
   obtain ⟨y3,h⟩:=are_step P hl hb hk z3
   exact ⟨_,_,rfl,h,_,_,rfl⟩) ((List.range cs.length).map fun (k:Nat)=>PV.int (k:Int)) (fun p hp=>by
   obtain ⟨j,hj,rfl⟩:=List.mem_map.mp hp
   exact ⟨j,List.mem_range.mp hj,rfl⟩) [some (.sh (.lst (cs.map ptP))),some (.sh (.lst (ps.map ptP))),none,none] ⟨_,_,rfl⟩
 have d1:eLenV 0 [some (.sh (.lst (cs.map ptP))),some (.sh (.lst (ps.map ptP))),none,none] = .ok (.int (((cs.map ptP).length:Nat):Int)):=rfl
 have f0:=(sFor_rng (f:=asRange1) (gg:=gN 2) (c:=b__law_are_points_1) (d:=eLenV 0) (p:=.int (((cs.map ptP).length:Nat):Int)) d1 (by rw [asRange1_ok (by rw [List.length_map]; omega),List.length_map,rangeL_nat])).trans e
 have t0:(sIf (G.tOr (G.tNot (tV (e1 (pIsi "list") (eVar 0)))) (tV (e2 pLtX (eLenV 0) (eC (.int 3))))) (sRet (eC (.bl false))) sNext) [some (.sh (.lst (cs.map ptP))),some (.sh (.lst (ps.map ptP))),none,none] = .ok (.next [some (.sh (.lst (cs.map ptP))),some (.sh (.lst (ps.map ptP))),none,none]):=by
  have hn:¬ (((cs.map ptP).length:Nat):Int) < 3:=by rw [List.length_map]; omega
  generalize (cs.map ptP).length = NN at *
  simp only [sIf_s,tOr_s,tNot_s,tV_s,e1_s,e2_s,eVar_0,eC_s,bind_ok',d1,pLtX_i,asB_s,hn,decide_false]
  rfl
 have key:=seq_ok _ _ t0 (seq_ok _ (sRet (eC (.bl true))) f0 (r:=.ok (.ret (.bl true))) rfl)
 unfold M__law_are_points
 exact run2.trans (congrArg fin key)
theorem goes_step {k:Nat} (hk:k < cs.length) (z3 z4 z5:Option SV):∃ y3 y4 y5,b__law_goes_round_2 [some (.sh (.lst (cs.map ptP))),some (.sh (.lst (ps.map ptP))),some (.sh (.int (k:Int))),z3,z4,z5] = .ok (.next [some (.sh (.lst (cs.map ptP))),some (.sh (.lst (ps.map ptP))),some (.sh (.int (k:Int))),y3,y4,y5]):=by
 have n3:=P.three
 obtain ⟨a,ha⟩:=P.get (k + (cs.length - 2))
 obtain ⟨b,hb'⟩:=P.get (k + (cs.length - 1))
 have ek:cs[k]? = some cs[k]:=List.getElem?_eq_getElem hk
 have hb1:cs[(k + (cs.length - 2) + 1) % cs.length]? = some b:=by rw [show k + (cs.length - 2) + 1 = k + (cs.length - 1) by omega]; exact hb'
 have hc1:cs[(k + (cs.length - 2) + 2) % cs.length]? = some cs[k]:=by rw [show k + (cs.length - 2) + 2 = k + cs.length by omega,Nat.add_mod_right,Nat.mod_eq_of_lt hk]; exact ek
 have hc2:cs[(k + (cs.length - 1) + 1) % cs.length]? = some cs[k]:=by rw [show k + (cs.length - 1) + 1 = k + cs.length by omega,Nat.add_mod_right,Nat.mod_eq_of_lt hk]; exact ek
 have tn:=P.turn _ a b cs[k] ha hb1 hc1
 have ed:=P.edge _ b cs[k] hb' hc2
 have inp:∀ q∈cs,PB 200 q:=fun q hq=>hb q ((sortU_mem ps q).mp (P.sub q hq))
 have pa:=inp a (List.mem_of_getElem? ha)
 have pb:=inp b (List.mem_of_getElem? hb')
 have pc:=inp cs[k] (List.getElem_mem hk)
 have hk':k < (cs.map ptP).length:=by rw [List.length_map]; exact hk
 have g2:atR (cs.map ptP) ((k:Int) - 2) id = .ok (ptP a):=at_back (m:=2) hk' (by rw [List.length_map]; omega) (by rw [List.length_map,List.getElem?_map,ha]; rfl)
 have g1:atR (cs.map ptP) ((k:Int) - 1) id = .ok (ptP b):=at_back (m:=1) hk' (by rw [List.length_map]; omega) (by rw [List.length_map,List.getElem?_map,hb']; rfl)
 have g0:atR (cs.map ptP) (k:Int) id = .ok (ptP cs[k]):=at_nat (by rw [List.getElem?_map,ek]; rfl)
 have mt:=m_turn pa pb pc
 rw [tsg_pos tn] at mt
 generalize cs[k] = c at *
 obtain ⟨σ',e,z',rfl⟩:=for_all (gg:=gN 5) (c:=b__law_goes_round_1) (fun σ=>∃ z,σ = [some (.sh (.lst (cs.map ptP))),some (.sh (.lst (ps.map ptP))),some (.sh (.int (k:Int))),some (.sh (ptP b)),some (.sh (ptP c)),z]) (fun p=>∃ o∈ps,p = ptP o)
  (by
   rintro p σ ⟨o,ho,rfl⟩ ⟨z,rfl⟩
   have mo:=m_turn pb pc (hb o ho)
   have hn:=tsg_nn (ed o ((sortU_mem ps o).mpr ho))
   refine ⟨_,[some (.sh (.lst (cs.map ptP))),some (.sh (.lst (ps.map ptP))),some (.sh (.int (k:Int))),some (.sh (ptP b)),some (.sh (ptP c)),some (.sh (ptP o))],rfl,?_,_,rfl⟩
   show b__law_goes_round_1 [some (.sh (.lst (cs.map ptP))),some (.sh (.lst (ps.map ptP))),some (.sh (.int (k:Int))),some (.sh (ptP b)),some (.sh (ptP c)),some (.sh (ptP o))] = _
   generalize tsg (cr b c o) = N at *
   generalize cs.map ptP = CC at *
   generalize ps.map ptP = PP at *
   simp [b__law_goes_round_1_s,mo,hn]) (ps.map ptP) (fun p hp=>by
   obtain ⟨o,ho,rfl⟩:=List.mem_map.mp hp
   exact ⟨o,ho,rfl⟩) [some (.sh (.lst (cs.map ptP))),some (.sh (.lst (ps.map ptP))),some (.sh (.int (k:Int))),some (.sh (ptP b)),some (.sh (ptP c)),z5] ⟨_,rfl⟩
 generalize cs.map ptP = CC at *
 generalize ps.map ptP = PP at *
 generalize (k:Int) = K at *
 have t0:(sSet 3 (eIxV 0 (e2 pSub (eVar 2) (eC (.int 1))))) [some (.sh (.lst CC)),some (.sh (.lst PP)),some (.sh (.int K)),z3,z4,z5] = .ok (.next [some (.sh (.lst CC)),some (.sh (.lst PP)),some (.sh (.int K)),some (.sh (ptP b)),z4,z5]):=by simp [g1]
 have t1:(sSet 4 (eIxV 0 (eVar 2))) [some (.sh (.lst CC)),some (.sh (.lst PP)),some (.sh (.int K)),some (.sh (ptP b)),z4,z5] = .ok (.next [some (.sh (.lst CC)),some (.sh (.lst PP)),some (.sh (.int K)),some (.sh (ptP b)),some (.sh (ptP c)),z5]):=by simp [g0]
 have t2:(sIf (tV (e2 pNe (eA (fun ps=>noErr (M__law_turn ps)) (aCons (eIxV 0 (e2 pSub (eVar 2) (eC (.int 2)))) (aCons (eVar 3) (aCons (eVar 4) aNil)))) (eC (.int 1)))) (sRet (eC (.bl false))) sNext) [some (.sh (.lst CC)),some (.sh (.lst PP)),some (.sh (.int K)),some (.sh (ptP b)),some (.sh (ptP c)),z5] = .ok (.next [some (.sh (.lst CC)),some (.sh (.lst PP)),some (.sh (.int K)),some (.sh (ptP b)),some (.sh (ptP c)),z5]):=by simp [g2,mt]
 have t3:(sFor (itE (eVar 1)) (gN 5) b__law_goes_round_1) [some (.sh (.lst CC)),some (.sh (.lst PP)),some (.sh (.int K)),some (.sh (ptP b)),some (.sh (ptP c)),z5] = .ok (.next [some (.sh (.lst CC)),some (.sh (.lst PP)),some (.sh (.int K)),some (.sh (ptP b)),some (.sh (ptP c)),z']):=by
  rw [sFor_s]
  simp only [itE_s,eVar_1,bind_ok',asSeq_l]
  exact e
 exact ⟨_,_,_,(b__law_goes_round_2_s _).trans (seq_ok _ _ t0 (seq_ok _ _ t1 (seq_ok _ _ t2 t3)))⟩
theorem m_goes:M__law_goes_round [.lst (cs.map ptP),.lst (ps.map ptP)] = .ok (.bl true):=by
 obtain ⟨σ',e,_⟩:=for_all (gg:=gN 2) (c:=b__law_goes_round_2) (fun σ=>∃ z2 z3 z4 z5,σ = [some (.sh (.lst (cs.map ptP))),some (.sh (.lst (ps.map ptP))),z2,z3,z4,z5]) (fun p=>∃ k:Nat,k < cs.length∧p = .int (k:Int))
  (by
   rintro p σ ⟨k,hk,rfl⟩ ⟨z2,z3,z4,z5,rfl⟩
   obtain ⟨y3,y4,y5,h⟩:=goes_step P hl hb hk z3 z4 z5
   exact ⟨_,_,rfl,h,_,_,_,_,rfl⟩) ((List.range cs.length).map fun (k:Nat)=>PV.int (k:Int)) (fun p hp=>by
   obtain ⟨j,hj,rfl⟩:=List.mem_map.mp hp
   exact ⟨j,List.mem_range.mp hj,rfl⟩) [some (.sh (.lst (cs.map ptP))),some (.sh (.lst (ps.map ptP))),none,none,none,none] ⟨_,_,_,_,rfl⟩
 have d1:eLenV 0 [some (.sh (.lst (cs.map ptP))),some (.sh (.lst (ps.map ptP))),none,none,none,none] = .ok (.int (((cs.map ptP).length:Nat):Int)):=rfl
 have f0:=(sFor_rng (f:=asRange1) (gg:=gN 2) (c:=b__law_goes_round_2) (d:=eLenV 0) (p:=.int (((cs.map ptP).length:Nat):Int)) d1 (by rw [asRange1_ok (by rw [List.length_map]; omega),List.length_map,rangeL_nat])).trans e
 have key:=seq_ok _ (sRet (eC (.bl true))) f0 (r:=.ok (.ret (.bl true))) rfl
 unfold M__law_goes_round
 exact run2.trans (congrArg fin key)
theorem m_least:∃ f:Pt,cs[0]? = some f∧bMinX [.lst (ps.map ptP)] = .ok (ptP f):=by
 have n3:=P.three
 have e0:cs[0]? = some cs[0]:=List.getElem?_eq_getElem (by omega)
 have m0:cs[0]∈ps:=(sortU_mem ps _).mp (P.sub _ (List.getElem_mem _))
 have fst:=P.fst _ e0
 refine ⟨cs[0],e0,?_⟩
 generalize cs[0] = f at *
 cases ps with
 | nil=>simp at m0
 | cons p r =>
  have hi:asInts ((p::r).map ptP) = none:=rfl
  have hm:bMinX [.lst ((p::r).map ptP)] = .ok (ptP (minPt p r)):=by
   show (match asInts ((p::r).map ptP) with
    | some (n::ns)=>Res.ok (PV.int (minL n ns))
    | _=>match asPts ((p::r).map ptP) with
     | some (p::ps)=>.ok (ptP (minPt p ps))
     | _=>.stuck) = _
   rw [hi,asPts_map]
  rw [hm]
  obtain ⟨s1,s2,s3⟩:=minPt_spec r p
  have mm:minPt p r∈p::r:=by
   rcases s1 with z | z
   ·rw [z]; exact .head _
   ·exact .tail _ z
  have:minPt p r = f:=by
   rcases fst _ ((sortU_mem (p::r) _).mpr mm) with z | z
   ·exact z
   ·exfalso
    rcases List.mem_cons.mp m0 with y | y
    ·rw [y] at z; exact s2 z
    ·exact s3 f y z
  rw [this]
end
theorem are_key (MA:List PV→Res PV) {ns:List Int} {PP CC:List PV} (nes:pNe (.lst PP) (.lst PP) = .ok (.bl false)) (ar:MA [.lst CC,.lst PP] = .ok (.bl true)) :
  (sBorT 2 (G.tOr (tV (e2 pNe (eVar 2) (eVar 1))) (G.tNot (tV (eA (fun ps=>noErr (MA ps)) (aCons (eVar 3) (aCons (eVar 1) aNil)))))) (sRet (eC (.bl false))) sNext) [some (.sh (.scr ns)),some (.sh (.lst PP)),some (.own PP),some (.sh (.lst CC)),none] = .ok (.next [some (.sh (.scr ns)),some (.sh (.lst PP)),some (.own PP),some (.sh (.lst CC)),none]):=by
 rw [sBorT_ok (i:=2) (xs:=PP) (b:=false) rfl (by simp [nes,ar])]
 rfl
theorem end_key (MG:List PV→Res PV) {ns:List Int} {PP CC:List PV} {f:Pt} (go:MG [.lst CC,.lst PP] = .ok (.bl true)) (mn:bMinX [.lst PP] = .ok (ptP f)) (g0:atR CC 0 id = .ok (ptP f)) (ef2:pEq (ptP f) (ptP f) = .ok (.bl true)) (eh2:pEq (.lst CC) (.lst CC) = .ok (.bl true)) :
  (sRet (eAnd (eA (fun ps=>noErr (MG ps)) (aCons (eVar 3) (aCons (eVar 1) aNil))) (eAnd (e2 pEq (eA bMinX (aCons (eVar 1) aNil)) (eIxV 3 (eC (.int 0)))) (e2 pEq (eVar 3) (eVar 4))))) [some (.sh (.scr ns)),some (.sh (.lst PP)),some (.own []),some (.sh (.lst CC)),some (.sh (.lst CC))] = .ok (.ret (.bl true)):=by
 simp [go,mn,g0,ef2,eh2]
theorem m_law (ns:List Int) (hl:ns.length≤63):M_law [.scr ns] = .ok (.bl true):=by
 obtain ⟨ps,hm,hlen,hb⟩:=m_many ns hl
 have hb4:∀ q∈ps,PB 400 q:=fun q hq=>⟨Nat.le_trans (hb q hq).1 (by decide),Nat.le_trans (hb q hq).2 (by decide)⟩
 obtain ⟨b,hline,hcol⟩:=m_line hb
 have t0:(sSet 1 (eA (fun ps=>noErr (M__law_many_points ps)) (aCons (eVar 0) aNil))) [some (.sh (.scr ns)),none,none,none,none] = .ok (.next [some (.sh (.scr ns)),some (.sh (.lst (ps.map ptP))),none,none,none]):=by simp [hm]
 have t1:(sOwnL 2 (eVar 1)) [some (.sh (.scr ns)),some (.sh (.lst (ps.map ptP))),none,none,none] = .ok (.next [some (.sh (.scr ns)),some (.sh (.lst (ps.map ptP))),some (.own (ps.map ptP)),none,none]):=by simp [sOwnL]
 have eqs:∀ qs:List Pt,pEq (.lst (qs.map ptP)) (.lst (qs.map ptP)) = .ok (.bl true):=fun qs=>by rw [pEq_pts]; simp
 have nes:pNe (.lst (ps.map ptP)) (.lst (ps.map ptP)) = .ok (.bl false):=by rw [pNe_pts]; simp
 unfold M_law
 refine run1.trans (congrArg fin (?_:d_law [some (.sh (.scr ns)),none,none,none,none] = .ok (.ret (.bl true))))
 refine seq_ok _ _ t0 (seq_ok _ _ t1 ?_)
 cases b with
 | true =>
  have hr:=m_refused hb4 hlen (col_mono (hcol.mp rfl) fun p hp=>(sortU_mem ps p).mp hp)
  have eh1:=eqs ps
  generalize ps.map ptP = PP at *
  have t2:(sIf (tV (eA (fun ps=>noErr (M__law_on_a_line ps)) (aCons (eVar 1) aNil))) (sShare 2 (sRet (eAnd (eA (fun ps=>noErr (M__law_refused ps)) (aCons (eVar 2) aNil)) (e2 pEq (eVar 2) (eVar 1))))) sNext) [some (.sh (.scr ns)),some (.sh (.lst PP)),some (.own PP),none,none] = .ok (.ret (.bl true)):=by
   have sh:(sShare 2 (sRet (eAnd (eA (fun ps=>noErr (M__law_refused ps)) (aCons (eVar 2) aNil)) (e2 pEq (eVar 2) (eVar 1))))) [some (.sh (.scr ns)),some (.sh (.lst PP)),some (.own PP),none,none] = .ok (.ret (.bl true)):=by
    rw [sShare_o (i:=2) rfl]
    simp [hr,eh1]
   generalize (sShare 2 (sRet (eAnd (eA (fun ps=>noErr (M__law_refused ps)) (aCons (eVar 2) aNil)) (e2 pEq (eVar 2) (eVar 1))))) = FF at *
   simp [hline,sh]
  rw [sSeq_s,t2]
  rfl
 | false =>
  have nc:¬ Col (sortU ps):=fun z=>by
   have:=hcol.mpr (col_mono z fun p hp=>(sortU_mem ps p).mpr hp)
   cases this
  have P:=hull_poly (sortU_pw ps) nc
  have hh:=m_hullN hb4 hlen nc
  have cl:(hullL (sortU ps)).length≤1000:=by
   have h1:=chain_len (sortU ps)
   have h2:=chain_len (sortU ps).reverse
   have h3:=sortU_len ps
   unfold hullL
   simp only [List.length_append,List.length_dropLast,List.length_reverse] at *
   omega
  have ar:=m_are P cl hb
  have go:=m_goes P cl hb
  obtain ⟨f,ef,mn⟩:=m_least P cl hb
  have g0:atR ((hullL (sortU ps)).map ptP) 0 id = .ok (ptP f):=at_nat (k:=0) (by rw [List.getElem?_map,ef]; rfl)
  have eh2:=eqs (hullL (sortU ps))
  have ef2:pEq (ptP f) (ptP f) = .ok (.bl true):=by rw [pEq_pt]; simp
  have t2:(sIf (tV (eA (fun ps=>noErr (M__law_on_a_line ps)) (aCons (eVar 1) aNil))) (sShare 2 (sRet (eAnd (eA (fun ps=>noErr (M__law_refused ps)) (aCons (eVar 2) aNil)) (e2 pEq (eVar 2) (eVar 1))))) sNext) [some (.sh (.scr ns)),some (.sh (.lst (ps.map ptP))),some (.own (ps.map ptP)),none,none] = .ok (.next [some (.sh (.scr ns)),some (.sh (.lst (ps.map ptP))),some (.own (ps.map ptP)),none,none]):=by simp [hline]
  have t3:(sLend 2 3 M_hullN) [some (.sh (.scr ns)),some (.sh (.lst (ps.map ptP))),some (.own (ps.map ptP)),none,none] = .ok (.next [some (.sh (.scr ns)),some (.sh (.lst (ps.map ptP))),some (.own (ps.map ptP)),some (.sh (.lst ((hullL (sortU ps)).map ptP))),none]):=sLend_ok (i:=2) rfl hh
  generalize (hullL (sortU ps)).map ptP = CC at *
  generalize ps.map ptP = PP at *
  have t4:(sBorT 2 (G.tOr (tV (e2 pNe (eVar 2) (eVar 1))) (G.tNot (tV (eA (fun ps=>noErr (M__law_are_points ps)) (aCons (eVar 3) (aCons (eVar 1) aNil)))))) (sRet (eC (.bl false))) sNext) [some (.sh (.scr ns)),some (.sh (.lst PP)),some (.own PP),some (.sh (.lst CC)),none] = .ok (.next [some (.sh (.scr ns)),some (.sh (.lst PP)),some (.own PP),some (.sh (.lst CC)),none]):=are_key M__law_are_points nes ar
  have t5:(sSet 4 (eA bList (aCons (eVar 3) aNil))) [some (.sh (.scr ns)),some (.sh (.lst PP)),some (.own PP),some (.sh (.lst CC)),none] = .ok (.next [some (.sh (.scr ns)),some (.sh (.lst PP)),some (.own PP),some (.sh (.lst CC)),some (.sh (.lst CC))]):=by simp
  have t6:(sClr 2) [some (.sh (.scr ns)),some (.sh (.lst PP)),some (.own PP),some (.sh (.lst CC)),some (.sh (.lst CC))] = .ok (.next [some (.sh (.scr ns)),some (.sh (.lst PP)),some (.own []),some (.sh (.lst CC)),some (.sh (.lst CC))]):=rfl
  have t7:(sRet (eAnd (eA (fun ps=>noErr (M__law_goes_round ps)) (aCons (eVar 3) (aCons (eVar 1) aNil))) (eAnd (e2 pEq (eA bMinX (aCons (eVar 1) aNil)) (eIxV 3 (eC (.int 0)))) (e2 pEq (eVar 3) (eVar 4))))) [some (.sh (.scr ns)),some (.sh (.lst PP)),some (.own []),some (.sh (.lst CC)),some (.sh (.lst CC))] = .ok (.ret (.bl true)):=end_key M__law_goes_round go mn g0 ef2 eh2
  exact seq_ok _ _ t2 (seq_ok _ _ t3 (seq_ok _ _ t4 (seq_ok _ _ t5 (seq_ok _ _ t6 t7))))
end Law
namespace Law
open PySem PySem.Spec PyProof.Rows L2 G
theorem all_mk {P : Program} {w : World} {K : PySem.W.Frag} {h : Heap} {mg : Str → Option Value} {C_Flat C_GlideError C_NoNumber C_Crowded C_NoName C_Twice C_Past C_NoText C_NoRow : Addr} (KI : K.In h) (GN : h.Ns mainGlobals mg) (D__law_whole : DefAt K "_law_whole" (top 17)) (D__law_are_points : DefAt K "_law_are_points" (top 22)) (D__law_turn : DefAt K "_law_turn" (top 18)) (D__law_goes_round : DefAt K "_law_goes_round" (top 23)) (D__law_cell : DefAt K "_law_cell" (top 16)) (D__law_many_points : DefAt K "_law_many_points" (top 19)) (D__law_on_a_line : DefAt K "_law_on_a_line" (top 20)) (D_left_by : DefAt K "left_by" (top 11)) (D_turns_left : DefAt K "turns_left" (top 12)) (D_chain : DefAt K "chain" (top 13)) (D_hull : DefAt K "hull" (top 14)) (D__law_refused : DefAt K "_law_refused" (top 21)) (D_law : DefAt K "law" (top 24)) (z_abs : PySem.W.nsIn K mainGlobals "abs" = some none) (z_len : PySem.W.nsIn K mainGlobals "len" = some none) (z_range : PySem.W.nsIn K mainGlobals "range" = some none) (z_max : PySem.W.nsIn K mainGlobals "max" = some none) (z_min : PySem.W.nsIn K mainGlobals "min" = some none) (z_isinstance : PySem.W.nsIn K mainGlobals "isinstance" = some none) (z_int : PySem.W.nsIn K mainGlobals "int" = some none) (z_bool : PySem.W.nsIn K mainGlobals "bool" = some none) (z_tuple : PySem.W.nsIn K mainGlobals "tuple" = some none) (z_list : PySem.W.nsIn K mainGlobals "list" = some none) (z_str : PySem.W.nsIn K mainGlobals "str" = some none) (z_dict : PySem.W.nsIn K mainGlobals "dict" = some none) (z_sorted : PySem.W.nsIn K mainGlobals "sorted" = some none) (z_set : PySem.W.nsIn K mainGlobals "set" = some none) (z_reversed : PySem.W.nsIn K mainGlobals "reversed" = some none) (z_zip : PySem.W.nsIn K mainGlobals "zip" = some none) (z_enumerate : PySem.W.nsIn K mainGlobals "enumerate" = some none) (z_all : PySem.W.nsIn K mainGlobals "all" = some none) (z_any : PySem.W.nsIn K mainGlobals "any" = some none) (z_ValueError : PySem.W.nsIn K mainGlobals "ValueError" = some none) (c_Flat : PySem.W.nsIn K mainGlobals "Flat" = some (some (.ref C_Flat))) (c_GlideError : PySem.W.nsIn K mainGlobals "GlideError" = some (some (.ref C_GlideError))) (c_NoNumber : PySem.W.nsIn K mainGlobals "NoNumber" = some (some (.ref C_NoNumber))) (c_Crowded : PySem.W.nsIn K mainGlobals "Crowded" = some (some (.ref C_Crowded))) (c_NoName : PySem.W.nsIn K mainGlobals "NoName" = some (some (.ref C_NoName))) (c_Twice : PySem.W.nsIn K mainGlobals "Twice" = some (some (.ref C_Twice))) (c_Past : PySem.W.nsIn K mainGlobals "Past" = some (some (.ref C_Past))) (c_NoText : PySem.W.nsIn K mainGlobals "NoText" = some (some (.ref C_NoText))) (c_NoRow : PySem.W.nsIn K mainGlobals "NoRow" = some (some (.ref C_NoRow))) (x_Flat : PySem.W.excIn K C_Flat [.type "ValueError", .type "Exception", .type "BaseException", .type "object"] "ValueError.__new__" = true) (o_Flat : excOk K C_Flat = true) (m_Flat_GlideError : PySem.W.exmOne K (.ref C_Flat) (.ref C_GlideError) = some true) (n_T__law_refused_2 : PySem.W.kitAny K (.type "NoneType") [.type "ValueError"] = some false) (k_T__law_refused_2_Flat : PySem.W.kitAny K (.ref C_Flat) [.type "ValueError"] = some true) (n_T__law_refused_3 : PySem.W.kitAny K (.type "NoneType") [.ref C_Flat] = some false) (k_T__law_refused_3_Flat : PySem.W.kitAny K (.ref C_Flat) [.ref C_Flat] = some true) (n_T__law_refused_4 : PySem.W.kitAny K (.type "NoneType") [.ref C_NoNumber, .ref C_Crowded, .ref C_NoName, .ref C_Twice, .ref C_Past, .ref C_NoText, .ref C_NoRow] = some false) (k_T__law_refused_4_Flat : PySem.W.kitAny K (.ref C_Flat) [.ref C_NoNumber, .ref C_Crowded, .ref C_NoName, .ref C_Twice, .ref C_Past, .ref C_NoText, .ref C_NoRow] = some false) :
    ∃ (a : Addr) (fd : FuncData), mg "law" = some (.ref a) ∧ (∀ (s : Shared) (u : Value), BindsTo s fd ⟨[u], []⟩ [("script", u)]) ∧ ∀ base : Heap, K.In base → base.Ns mainGlobals mg → FnOk P w K mg base (CXG P w) 6 a fd ["script"] (Fsp K 1 M_law) := by
  have B : Bi mg := ⟨PySem.W.mg_none_of KI GN z_abs, PySem.W.mg_none_of KI GN z_len, PySem.W.mg_none_of KI GN z_range, PySem.W.mg_none_of KI GN z_max, PySem.W.mg_none_of KI GN z_min, PySem.W.mg_none_of KI GN z_isinstance, PySem.W.mg_none_of KI GN z_int, PySem.W.mg_none_of KI GN z_bool, PySem.W.mg_none_of KI GN z_tuple, PySem.W.mg_none_of KI GN z_list, PySem.W.mg_none_of KI GN z_str, PySem.W.mg_none_of KI GN z_dict, PySem.W.mg_none_of KI GN z_sorted, PySem.W.mg_none_of KI GN z_set, PySem.W.mg_none_of KI GN z_reversed, PySem.W.mg_none_of KI GN z_zip, PySem.W.mg_none_of KI GN z_enumerate, PySem.W.mg_none_of KI GN z_all, PySem.W.mg_none_of KI GN z_any⟩
  have KG : ∀ (y : Str) (C : Addr), ClsIs K y C → mg y = some (.ref C) := fun y C hc => PySem.W.mg_of KI GN hc
  have X_Flat : ExcAt K "Flat" := exc_at c_Flat x_Flat
  have C__law_refused_1 : Caught K "GlideError" ["Flat"] := (caught1 c_GlideError c_Flat m_Flat_GlideError caught0)
  have T__law_refused_2 : IsTab K [.type "ValueError"] [("Flat", true)] := (istab1 c_Flat o_Flat k_T__law_refused_2_Flat (istab0 n_T__law_refused_2))
  have Z_ValueError : mg "ValueError" = none := PySem.W.mg_none_of KI GN z_ValueError
  have T__law_refused_3 : IsOwn K "Flat" [("Flat", true)] := ⟨_, c_Flat, (istab1 c_Flat o_Flat k_T__law_refused_3_Flat (istab0 n_T__law_refused_3))⟩
  have T__law_refused_4 : IsMany K ["NoNumber", "Crowded", "NoName", "Twice", "Past", "NoText", "NoRow"] [("Flat", false)] := ⟨[C_NoNumber, C_Crowded, C_NoName, C_Twice, C_Past, C_NoText, C_NoRow], (.cons c_NoNumber (.cons c_Crowded (.cons c_NoName (.cons c_Twice (.cons c_Past (.cons c_NoText (.cons c_NoRow .nil))))))), (istab1 c_Flat o_Flat k_T__law_refused_4_Flat (istab0 n_T__law_refused_4))⟩
  refine law_of D_law KI GN (fun _ _ _ _ _ _ us hl => match us, hl with | [_], _ => rfl) (fun base f fd F => ?_)
  have F__law_whole := in__law_whole (P := P) (w := w) (base := base) D__law_whole KI GN B
  have F__law_are_points := in__law_are_points (P := P) (w := w) (base := base) D__law_are_points KI GN B F__law_whole
  have F__law_turn := in__law_turn (P := P) (w := w) (base := base) D__law_turn KI GN B
  have F__law_goes_round := in__law_goes_round (P := P) (w := w) (base := base) D__law_goes_round KI GN B F__law_turn
  have F__law_cell := in__law_cell (P := P) (w := w) (base := base) D__law_cell KI GN B
  have F__law_many_points := in__law_many_points (P := P) (w := w) (base := base) D__law_many_points KI GN B F__law_cell
  have F__law_on_a_line := in__law_on_a_line (P := P) (w := w) (base := base) D__law_on_a_line KI GN B F__law_turn
  have F_left_by := in_left_by (P := P) (w := w) (base := base) D_left_by KI GN B
  have F_turns_left := in_turns_left (P := P) (w := w) (base := base) D_turns_left KI GN B F_left_by
  have F_chain := in_chain (P := P) (w := w) (base := base) D_chain KI GN B F_turns_left
  have F_hull := in_hull (P := P) (w := w) (base := base) D_hull KI GN B F_chain X_Flat KG
  have W_hull := in_hullN (P := P) (w := w) (base := base) D_hull KI GN B F_chain
  have F__law_refused := in__law_refused (P := P) (w := w) (base := base) D__law_refused KI GN B F_hull C__law_refused_1 T__law_refused_2 Z_ValueError T__law_refused_3 T__law_refused_4 KG
  exact in_law F B F__law_are_points F__law_goes_round F__law_many_points F__law_on_a_line F__law_refused W_hull
end Law
def PySem.W.Fast.tw6478118388187207016 : Nat := 0
def PySem.W.Fast.tw16855774795750429661 : Nat := 0
def PySem.W.Fast.tw6511372858103688607 : Nat := 0
def PySem.W.Fast.tw17703767263640296428 : Nat := 0
def PySem.W.Fast.tw15677592352277275756 : Nat := 0
def PySem.W.Fast.tw1098250834158176983 : Nat := 0
def PySem.W.Fast.tw1259741861685656800 : Nat := 0
def PySem.W.Fast.tw2659289486875412339 : Nat := 0
def PySem.W.Fast.tw15991725880429866045 : Nat := 0
def PySem.W.Fast.tw9142839935188009565 : Nat := 0
def PySem.W.Fast.tw17508345845484233925 : Nat := 0
def PySem.W.Fast.tw3485095414115263111 : Nat := 0
def PySem.W.Fast.tw15492735732326254746 : Nat := 0
def PySem.W.Fast.tw12829778898522557470 : Nat := 0
def PySem.W.Fast.tw7355286698420783070 : Nat := 0
def PySem.W.Fast.tw8376834233239670826 : Nat := 0
def PySem.W.Fast.tw13914430985559570022 : Nat := 0
def PySem.W.Fast.tw6172476117179134779 : Nat := 0
def PySem.W.Fast.tw1393776318223720727 : Nat := 0
def PySem.W.Fast.tw10759948078311485181 : Nat := 0
def PySem.W.Fast.tw5890557463844796054 : Nat := 0
def PySem.W.Fast.tw6643891772253808577 : Nat := 0
def PySem.W.Fast.tw13942467785278071224 : Nat := 0
def PySem.W.Fast.tw1161099450527412108 : Nat := 0
def PySem.W.Fast.tw1305979023684482181 : Nat := 0
def PySem.W.Fast.tw1855123809429050149 : Nat := 0
open PySem PySem.W PyProof.Rows
set_option maxRecDepth 100000 in
set_option maxHeartbeats 0 in
theorem PySem.Challenge.cw_glide_k06_a_hull_holds : PySem.Challenge.rw_glide_k06_a_hull.Holds := by
  w_on; o_law; k_head; (case hw => w_witness2)
  k_fill
  refine G.law_walk (l := PySem.Challenge.rw_glide_k06_a_hull) (k := 6) (m := Law.M_law) rfl rfl ⟨rfl, by decide, by decide⟩ (fun w h Y => PySem.W.kIn_of Y) rfl ?F Law.m_law
  case F =>
    intro w mg h KX GN
    refine' Law.all_mk KX GN (G.def_at ?a__law_whole ?l__law_whole ?d__law_whole ?k__law_whole) (G.def_at ?a__law_are_points ?l__law_are_points ?d__law_are_points ?k__law_are_points) (G.def_at ?a__law_turn ?l__law_turn ?d__law_turn ?k__law_turn) (G.def_at ?a__law_goes_round ?l__law_goes_round ?d__law_goes_round ?k__law_goes_round) (G.def_at ?a__law_cell ?l__law_cell ?d__law_cell ?k__law_cell) (G.def_at ?a__law_many_points ?l__law_many_points ?d__law_many_points ?k__law_many_points) (G.def_at ?a__law_on_a_line ?l__law_on_a_line ?d__law_on_a_line ?k__law_on_a_line) (G.def_at ?a_left_by ?l_left_by ?d_left_by ?k_left_by) (G.def_at ?a_turns_left ?l_turns_left ?d_turns_left ?k_turns_left) (G.def_at ?a_chain ?l_chain ?d_chain ?k_chain) (G.def_at ?a_hull ?l_hull ?d_hull ?k_hull) (G.def_at ?a__law_refused ?l__law_refused ?d__law_refused ?k__law_refused) (G.def_at ?a_law ?l_law ?d_law ?k_law)  ?z_abs ?z_len ?z_range ?z_max ?z_min ?z_isinstance ?z_int ?z_bool ?z_tuple ?z_list ?z_str ?z_dict ?z_sorted ?z_set ?z_reversed ?z_zip ?z_enumerate ?z_all ?z_any ?z_ValueError ?c_Flat ?c_GlideError ?c_NoNumber ?c_Crowded ?c_NoName ?c_Twice ?c_Past ?c_NoText ?c_NoRow ?x_Flat ?o_Flat ?m_Flat_GlideError ?n_T__law_refused_2 ?k_T__law_refused_2_Flat ?n_T__law_refused_3 ?k_T__law_refused_3_Flat ?n_T__law_refused_4 ?k_T__law_refused_4_Flat
    (case c_Flat => (try unfold G.ClsIs); k_is)
    (case c_GlideError => (try unfold G.ClsIs); k_is)
    (case c_NoNumber => (try unfold G.ClsIs); k_is)
    (case c_Crowded => (try unfold G.ClsIs); k_is)
    (case c_NoName => (try unfold G.ClsIs); k_is)
    (case c_Twice => (try unfold G.ClsIs); k_is)
    (case c_Past => (try unfold G.ClsIs); k_is)
    (case c_NoText => (try unfold G.ClsIs); k_is)
    (case c_NoRow => (try unfold G.ClsIs); k_is)
    (case a__law_whole => k_is)
    (case l__law_whole => k_is)
    (case d__law_whole => k_is)
    (case k__law_whole => k_is)
    (case a__law_are_points => k_is)
    (case l__law_are_points => k_is)
    (case d__law_are_points => k_is)
    (case k__law_are_points => k_is)
    (case a__law_turn => k_is)
    (case l__law_turn => k_is)
    (case d__law_turn => k_is)
    (case k__law_turn => k_is)
    (case a__law_goes_round => k_is)
    (case l__law_goes_round => k_is)
    (case d__law_goes_round => k_is)
    (case k__law_goes_round => k_is)
    (case a__law_cell => k_is)
    (case l__law_cell => k_is)
    (case d__law_cell => k_is)
    (case k__law_cell => k_is)
    (case a__law_many_points => k_is)
    (case l__law_many_points => k_is)
    (case d__law_many_points => k_is)
    (case k__law_many_points => k_is)
    (case a__law_on_a_line => k_is)
    (case l__law_on_a_line => k_is)
    (case d__law_on_a_line => k_is)
    (case k__law_on_a_line => k_is)
    (case a_left_by => k_is)
    (case l_left_by => k_is)
    (case d_left_by => k_is)
    (case k_left_by => k_is)
    (case a_turns_left => k_is)
    (case l_turns_left => k_is)
    (case d_turns_left => k_is)
    (case k_turns_left => k_is)
    (case a_chain => k_is)
    (case l_chain => k_is)
    (case d_chain => k_is)
    (case k_chain => k_is)
    (case a_hull => k_is)
    (case l_hull => k_is)
    (case d_hull => k_is)
    (case k_hull => k_is)
    (case a__law_refused => k_is)
    (case l__law_refused => k_is)
    (case d__law_refused => k_is)
    (case k__law_refused => k_is)
    (case a_law => k_is)
    (case l_law => k_is)
    (case d_law => k_is)
    (case k_law => k_is)
    (case z_abs => k_is)
    (case z_len => k_is)
    (case z_range => k_is)
    (case z_max => k_is)
    (case z_min => k_is)
    (case z_isinstance => k_is)
    (case z_int => k_is)
    (case z_bool => k_is)
    (case z_tuple => k_is)
    (case z_list => k_is)
    (case z_str => k_is)
    (case z_dict => k_is)
    (case z_sorted => k_is)
    (case z_set => k_is)
    (case z_reversed => k_is)
    (case z_zip => k_is)
    (case z_enumerate => k_is)
    (case z_all => k_is)
    (case z_any => k_is)
    (case z_ValueError => k_is)
    (case x_Flat => kernel_rfl)
    (case o_Flat => kernel_rfl)
    (case m_Flat_GlideError => kernel_rfl)
    (case n_T__law_refused_2 => kernel_rfl)
    (case k_T__law_refused_2_Flat => kernel_rfl)
    (case n_T__law_refused_3 => kernel_rfl)
    (case k_T__law_refused_3_Flat => kernel_rfl)
    (case n_T__law_refused_4 => kernel_rfl)
    (case k_T__law_refused_4_Flat => kernel_rfl)
