import PyProof.Rows.All
import Wide.All
import OpenK.AllK
import Wide.FinOn
import Lean
import PyProof.EqAt
import PyProof.EqKinds
import PyProof.TupleCall
import PyProof.NeKinds
import PySem.SetOps
import PyProof.SetKind
import PyProof.TupleKey
import PyProof.IsRules
import PyProof.DictKinds
import KE.KSortAsk
import PyProof.Rows.SetFrom
import PyProof.Walks
import PyProof.CollectWalk
import KE.KSortTup
import KE.KDictSum
import KE.KDictList
import KE.KRevIter
import KE.KItemsList
import PyProof.Rows.ZipGen
import KE.KListMore
import PyProof.CompMap
import PyProof.DictFindH
import PyProof.AttrMissSeq
import PyProof.DictUpdate
import PyProof.ListNew
import PyProof.FactsAll.dict_1
import KE.KDictOf
import PyProof.Rows.DictSet
import KE.KIntText
import KE.IntTextLaws
import PyProof.StrLawsChain
import PyProof.StrLawsIn
import PyProof.StrLawsOcc
import PyProof.Rows.CatFin
import PyProof.Rows.StrClose5
import PyProof.Rows.ReprOcc
import KE.IntTextText
import PySem.Challenge.RW_glide_k46_numbers_and_portions_read
set_option Elab.async false
set_option linter.all false
set_option maxRecDepth 100000
set_option maxHeartbeats 4000000
namespace L2
open PySem PySem.Spec PyProof.Rows
abbrev Key:=Sum Int Str
def keyIs:Key→Value→Bool
 | .inl k,v=>Value.isInt k v
 | .inr x,v=>Value.isStrOf x v
def keyH (w:World):Key→Int
 | .inl k=>hashInt k
 | .inr x=>hashStr w x
theorem keyIs_shape:∀ {k:Key} {v:Value},keyIs k v = true→(∃ i t,k = Sum.inl i∧v = Value.int i t)∨(∃ x t,k = Sum.inr x∧v = Value.str x t)
 | .inl i,v,h=>by
  obtain ⟨t,e⟩:=Value.isInt_shape (k:=i) (v:=v) h
  exact .inl ⟨i,t,rfl,e⟩
 | .inr x,v,h=>by
  obtain ⟨t,e⟩:=Value.isStrOf_shape (x:=x) (v:=v) h
  exact .inr ⟨x,t,rfl,e⟩
theorem key_ll (a b:Int):decide ((Sum.inl a:Key) = Sum.inl b) = (a == b):=by
 by_cases e:a = b
 ·subst e; simp
 ·have h:¬ (Sum.inl a:Key) = Sum.inl b:=fun q=>e (Sum.inl.inj q)
  rw [decide_eq_false h]
  exact (beq_eq_false_iff_ne.mpr e).symm
theorem key_rr (a b:Str):decide ((Sum.inr a:Key) = Sum.inr b) = decide (a = b):=by
 by_cases e:a = b
 ·subst e; simp
 ·have h:¬ (Sum.inr a:Key) = Sum.inr b:=fun q=>e (Sum.inr.inj q)
  rw [decide_eq_false h,decide_eq_false e]
theorem key_lr (a:Int) (b:Str):decide ((Sum.inl a:Key) = Sum.inr b) = false:=decide_eq_false (fun q=>nomatch q)
theorem key_rl (a:Str) (b:Int):decide ((Sum.inr a:Key) = Sum.inl b) = false:=decide_eq_false (fun q=>nomatch q)
def mixKind (prog:Program) (w:World):PySem.KeyKind prog w Key where
 is:=keyIs
 hash:=keyH w
 inj:=fun v a b ha hb=>by
  rcases keyIs_shape ha with ⟨i,t,rfl,rfl⟩ | ⟨x,t,rfl,rfl⟩
  ·rcases keyIs_shape hb with ⟨j,u,rfl,e⟩ | ⟨y,u,rfl,e⟩
   ·injection e with e1 _; rw [e1]
   ·exact nomatch e
  ·rcases keyIs_shape hb with ⟨j,u,rfl,e⟩ | ⟨y,u,rfl,e⟩
   ·exact nomatch e
   ·injection e with e1 _; rw [e1]
 byValue:=fun k v h=>by
  rcases keyIs_shape h with ⟨i,t,rfl,rfl⟩ | ⟨x,t,rfl,rfl⟩ <;> rfl
 pyHash:=fun hv h=>by
  rcases keyIs_shape hv with ⟨i,t,rfl,rfl⟩ | ⟨x,t,rfl,rfl⟩
  ·exact wpAny_pyHash_int h
  ·exact wpAny_pyHash_str h
 eqBool:=fun hu hv h=>by
  rcases keyIs_shape hu with ⟨i,t,rfl,rfl⟩ | ⟨x,t,rfl,rfl⟩
  ·rcases keyIs_shape hv with ⟨j,u,rfl,rfl⟩ | ⟨y,u,rfl,rfl⟩
   ·rw [key_ll] at h; exact wpAny_eqBool_int h
   ·rw [key_lr] at h; exact SeqAt.EqAt.int_str i t y u _ _ _ _ h
  ·rcases keyIs_shape hv with ⟨j,u,rfl,rfl⟩ | ⟨y,u,rfl,rfl⟩
   ·rw [key_rl] at h; exact SeqAt.EqAt.str_int x t j u _ _ _ _ h
   ·rw [key_rr] at h; exact wpAny_eqBool_str h
 «strs»:=fun k x t v h=>by
  rcases keyIs_shape h with ⟨i,u,rfl,e⟩ | ⟨y,u,rfl,e⟩
  ·exact nomatch e
  ·injection e with e1 _
   subst e1
   cases v <;> rfl
theorem mixKind_is (prog:Program) (w:World) (k:Key) (v:Value):(mixKind prog w).is k v = keyIs k v:=rfl
end L2
namespace L2
open PySem PySem.Spec PyProof.Rows
inductive V where
 | non | bl (b:Bool) | int (i:Int) | str (x:Str) | byt (b:Array UInt8) | flt (b:UInt64) | ref (a:Addr) | ty (n:String)
 deriving DecidableEq
def RelV:V→Value→Prop
 | .non,u=>u = Value.none
 | .bl b,u=>u = Value.bool b
 | .int i,u=>∃ t,u = Value.int i t
 | .str x,u=>∃ t,u = Value.str x t
 | .byt b,u=>∃ t,u = Value.bytes b t
 | .flt b,u=>∃ t,u = Value.float b t
 | .ref a,u=>u = Value.ref a
 | .ty n,u=>u = Value.type n
abbrev Vals:List V→List Value→Prop:=Paired RelV
theorem Vals.length {xs:List V} {us:List Value} (r:Vals xs us):xs.length = us.length:=Paired.length r
theorem Vals.get:∀ {xs:List V} {us:List Value} {i:Nat} {x:V},Vals xs us→xs[i]? = some x→∃ u,us[i]? = some u∧RelV x u
 | _,_,_,_,.nil,e=>by simp at e
 | _,_,0,_,.cons r _,e=>by simp at e; subst e; exact ⟨_,rfl,r⟩
 | _,_,i + 1,x,.cons _ t,e=>by
  obtain ⟨u,h1,h2⟩:=Vals.get (i:=i) (x:=x) t (by simpa using e)
  exact ⟨u,by simpa using h1,h2⟩
theorem Vals.set {x:V} {u:Value} (r:RelV x u):∀ {xs:List V} {us:List Value} (i:Nat),Vals xs us→Vals (xs.set i x) (us.set i u)
 | _,_,_,.nil=>.nil
 | _,_,0,.cons _ t=>.cons r t
 | _,_,i + 1,.cons q t=>.cons q (Vals.set r i t)
theorem Vals.append:∀ {xs ys:List V} {us ws:List Value},Vals xs us→Vals ys ws→Vals (xs++ys) (us++ws)
 | _,_,_,_,.nil,s=>s
 | _,_,_,_,.cons r t,s=>.cons r (Vals.append t s)
theorem Vals.take:∀ {xs:List V} {us:List Value} (n:Nat),Vals xs us→Vals (xs.take n) (us.take n)
 | _,_,0,_=>.nil
 | _,_,_ + 1,.nil=>.nil
 | _,_,n + 1,.cons r t=>.cons r (Vals.take n t)
theorem Vals.drop:∀ {xs:List V} {us:List Value} (n:Nat),Vals xs us→Vals (xs.drop n) (us.drop n)
 | _,_,0,r=>r
 | _,_,_ + 1,.nil=>.nil
 | _,_,n + 1,.cons _ t=>Vals.drop n t
def RelO:Option V→Option Value→Prop
 | some v,some u=>RelV v u
 | none,none=>True
 | _,_=>False
def KV {κ:Type}:List (κ × V)→List (κ × Value)→Prop:=Paired fun (p:κ × V) (q:κ × Value)=>p.1 = q.1∧RelV p.2 q.2
def kV:Key→V
 | .inl i=>.int i
 | .inr x=>.str x
inductive HO where
 | lst (xs:List V)
 | tup (xs:List V)
 | dK (kvs:List (Key × V)) | dT (kvs:List (List Key × V))
 | set (S:Int→Bool) (n:Nat)
 | ins (C dx:Addr) (fs:List (Str × V))
 | own (x:Addr)
 | xd (fs:List (Str × V))
 | met (f x:Addr)
 | rng (lo hi:Int)
 | frz (o:Obj) (u:HO)
 | tbl (ps:Array Value)
 | ext (φ:Heap→Prop)
abbrev Hp:=Addr→Option HO
def upd (H:Hp) (a:Addr) (o:HO):Hp:=fun b=>if b = a then some o else H b
theorem upd_same {H:Hp} {a:Addr} {o:HO}:upd H a o a = some o:=by unfold upd; rw [if_pos rfl]
theorem upd_ne {H:Hp} {a b:Addr} {o:HO} (h:b≠a):upd H a o b = H b:=by unfold upd; rw [if_neg h]
theorem ne_of_none {H:Hp} {a b:Addr} {o:HO} (h:H a = some o) (h':H b = none):a≠b:=by
 intro e; subst e; rw [h] at h'; cases h'
section
variable (P:Program) (w:World)
def ObjOk (H:Hp) (h:Heap) (a:Addr):HO→Prop
 | .lst xs=>xs.length≤sizeLine∧∃ (its:List Value) (n:Nat),Vals xs its∧h.get? a = some { cls:=.type "list",data:=.seq its.toArray n }
 | .tup xs=>xs.length≤sizeLine∧∃ its:List Value,Vals xs its∧IsTup h a its.toArray
 | .dK kvs=>kvs.length≤sizeLine∧(a == sysModules) = false∧∃ vs,KV kvs vs∧h.DictOf (mixKind P w) a vs
 | .dT kvs=>kvs.length≤sizeLine∧(a == sysModules) = false∧∃ xs:List (List Key × Addr × Value),
   Paired (fun (p:List Key × V) (q:List Key × Addr × Value)=>p.1 = q.1∧H q.2.1 = some (.tup (p.1.map kV))∧RelV p.2 q.2.2) kvs xs ∧
   ∃ o es ep,h.get? a = some o∧o.ExactDict∧o.data = .dict es ep∧es.toList = xs.map (entryOfKey (tupleKind (mixKind P w)))∧(xs.map (·.1)).Nodup
 | .set S n=>h.SetOf (intKind P w) a S n
 | .ins C dx fs=>H dx = some (.own a)∧fs.length≤1000∧dx≠a∧h.get? a = some (PySem.W.instObj C dx) ∧
   ∃ mA,h.Ns1 dx mA∧(∀ f,RelO (fs.lookup f) (mA f))∧PySem.Within mA (fs.map (·.1))
 | .own _=>∃ o,h.get? a = some o
 | .xd fs=>∃ mA,h.Ns1 a mA∧∀ f,RelO (fs.lookup f) (mA f)
 | .rng lo hi=>∃ t u v,h.get? a = some { cls:=.type "range",data:=.fields #[.int lo t,.int hi u,.int 1 v] }
 | .frz o u=>h.get? a = some o∧ObjOk H h a u
 | .tbl ps=>h.get? a = some { cls:=.none,data:=.fields ps }
 | .met f x=>h.get? a = some (PySem.W.methodObj (.ref f) (.ref x))
 | .ext φ=>φ h∧(∃ o,h.get? a = some o)∧∀ h1 h2:Heap,φ h1→(∀ o,h1.get? a = some o→h2.get? a = some o)→φ h2
def HOk (H:Hp) (h:Heap):Prop:=∀ a o,H a = some o→ObjOk P w H h a o
end
section
variable {P:Program} {w:World} {H H':Hp} {h h':Heap} {a:Addr} {o:HO}
theorem ObjOk.lt (x:ObjOk P w H h a o):a < h.objs.size:=by
 cases o with
 | lst xs=>obtain ⟨_,_,_,_,e⟩:=x; exact Heap.lt_size e
 | tup xs=>obtain ⟨_,_,_,p⟩:=x; exact p.lt
 | dK kvs=>obtain ⟨_,_,_,_,o,_,_,e,_⟩:=x; exact Heap.lt_size e
 | dT kvs=>obtain ⟨_,_,_,_,o,_,_,e,_⟩:=x; exact Heap.lt_size e
 | set S n=>obtain ⟨o,_,_,_,e,_⟩:=x; exact Heap.lt_size e
 | ins C dx fs=>obtain ⟨_,_,_,e,_⟩:=x; exact Heap.lt_size e
 | own y=>obtain ⟨_,e⟩:=x; exact Heap.lt_size e
 | xd fs=>obtain ⟨_,⟨_,_,_,e,_⟩,_⟩:=x; exact Heap.lt_size e
 | rng lo hi=>obtain ⟨_,_,_,e⟩:=x; exact Heap.lt_size e
 | frz ob u=>obtain ⟨e,_⟩:=x; exact Heap.lt_size e
 | tbl ps=>exact Heap.lt_size (show h.get? a = some _ from x)
 | met f y=>exact Heap.lt_size (show h.get? a = some _ from x)
 | ext φ=>obtain ⟨_,⟨_,e⟩,_⟩:=x; exact Heap.lt_size e
theorem Paired.mapP {α β:Type} {F G:α→β→Prop}:∀ {l₁:List α} {l₂:List β},Paired F l₁ l₂→(∀ a b,F a b→G a b)→Paired G l₁ l₂
 | _,_,.nil,_=>.nil
 | _,_,.cons r t,f=>.cons (f _ _ r) (Paired.mapP t f)
theorem ObjOk.stay (x:ObjOk P w H h a o) (k:∀ b u,(b = a∨H b = some (.own a))→h.get? b = some u→h'.get? b = some u)
  (ho:∀ b,H b = some (.own a)→H' b = some (.own a)) (ht:∀ b xs,H b = some (.tup xs)→H' b = some (.tup xs)):ObjOk P w H' h' a o:=by
 induction o with
 | lst xs=>obtain ⟨z,its,n,r,e⟩:=x; exact ⟨z,its,n,r,k _ _ (.inl rfl) e⟩
 | tup xs=>obtain ⟨z,its,r,ob,e,c⟩:=x; exact ⟨z,its,r,ob,k _ _ (.inl rfl) e,c⟩
 | dK kvs=>obtain ⟨z,y,vs,r,ob,es,ep,e,c⟩:=x; exact ⟨z,y,vs,r,ob,es,ep,k _ _ (.inl rfl) e,c⟩
 | dT kvs =>
  obtain ⟨z,y,xs,r,ob,es,ep,e,c⟩:=x
  exact ⟨z,y,xs,Paired.mapP r fun p q z=>⟨z.1,ht _ _ z.2.1,z.2.2⟩,ob,es,ep,k _ _ (.inl rfl) e,c⟩
 | set S n=>obtain ⟨ob,es,ep,t,e,c⟩:=x; exact ⟨ob,es,ep,t,k _ _ (.inl rfl) e,c⟩
 | ins C dx fs =>
  obtain ⟨d,z,ne,e,mA,⟨od,es,ep,e2,c⟩,r⟩:=x
  exact ⟨ho _ d,z,ne,k _ _ (.inl rfl) e,mA,⟨od,es,ep,k _ _ (.inr d) e2,c⟩,r⟩
 | own y=>obtain ⟨ob,e⟩:=x; exact ⟨ob,k _ _ (.inl rfl) e⟩
 | xd fs=>obtain ⟨mA,⟨od,es,ep,e,c⟩,r⟩:=x; exact ⟨mA,⟨od,es,ep,k _ _ (.inl rfl) e,c⟩,r⟩
 | rng lo hi=>obtain ⟨t,u,v,e⟩:=x; exact ⟨t,u,v,k _ _ (.inl rfl) e⟩
 | frz ob u ih=>obtain ⟨e,q⟩:=x; exact ⟨k _ _ (.inl rfl) e,ih q⟩
 | tbl ps =>
  have e:h.get? a = some { cls:=.none,data:=.fields ps }:=x
  show h'.get? a = some { cls:=.none,data:=.fields ps }
  exact k a _ (.inl rfl) e
 | met f y =>
  have e:h.get? a = some (PySem.W.methodObj (.ref f) (.ref y)):=x
  show h'.get? a = some (PySem.W.methodObj (.ref f) (.ref y))
  exact k a _ (.inl rfl) e
 | ext φ=>obtain ⟨p,⟨o,e⟩,st⟩:=x; exact ⟨st _ _ p fun o q=>k _ _ (.inl rfl) q,⟨o,k _ _ (.inl rfl) e⟩,st⟩
theorem HOk.lt (x:HOk P w H h) (e:H a = some o):a < h.objs.size:=(x a o e).lt
theorem HOk.fresh (x:HOk P w H h) (e:h.objs.size≤a):H a = none:=by
 cases q:H a with
 | none=>rfl
 | some u=>exact absurd (Nat.lt_of_lt_of_le (x.lt q) e) (Nat.lt_irrefl _)
theorem HOk.kept (x:HOk P w H h) (k:∀ b u,h.get? b = some u→h'.get? b = some u):HOk P w H h':=fun a o e =>
 (x a o e).stay (fun b u _ q=>k b u q) (fun _ q=>q) fun _ _ q=>q
theorem HOk.laid (x:HOk P w H h) (k:∀ b u,h.get? b = some u→h'.get? b = some u) (hp:h.objs.size≤a) (new:ObjOk P w (upd H a o) h' a o):HOk P w (upd H a o) h':=fun b u e=>by
 have hn:=x.fresh hp
 by_cases hb:b = a
 ·subst hb; rw [upd_same] at e; cases e; exact new
 ·rw [upd_ne hb] at e
  exact (x b u e).stay (fun c v _ q=>k c v q) (fun c q=>by rw [upd_ne (ne_of_none q hn)]; exact q) fun c xs q=>by rw [upd_ne (ne_of_none q hn)]; exact q
end
def Rd (H:Hp) (a:Addr) (u:HO):Prop:=H a = some u∨∃ o,H a = some (.frz o u)
theorem Rd.ok {P:Program} {w:World} {H:Hp} {h:Heap} {a:Addr} {u:HO} (r:Rd H a u) (x:HOk P w H h):ObjOk P w H h a u:=by
 rcases r with r | ⟨o,r⟩
 ·exact x a u r
 ·obtain ⟨_,q⟩:=x a _ r
  exact q
def Mut:Option HO→Prop
 | some (.lst _)=>True
 | some (.dK _)=>True
 | some (.dT _)=>True
 | some (.set _ _)=>True
 | some (.ins _ _ _)=>True
 | some (.ext _)=>True
 | _=>False
section
variable {P:Program} {w:World} {H:Hp} {h h':Heap} {x e:Addr} {o':HO}
theorem HOk.write (ok:HOk P w H h) (mu:Mut (H x)) (he:e = x∨H e = some (.own x)) (k:∀ b u,b≠e→h.get? b = some u→h'.get? b = some u) (heo:∃ u,h'.get? e = some u)
  (new:ObjOk P w (upd H x o') h' x o'):HOk P w (upd H x o') h':=fun b u q=>by
 have nown:∀ c y,H c = some (.own y)→c≠x:=fun c y r z=>by subst z; rw [r] at mu; exact mu
 have ntup:∀ c xs,H c = some (.tup xs)→c≠x:=fun c xs r z=>by subst z; rw [r] at mu; exact mu
 by_cases hb:b = x
 ·subst hb; rw [upd_same] at q; cases q; exact new
 ·rw [upd_ne hb] at q
  by_cases hbe:b = e
  ·have q':H b = some (.own x):=by
    rcases he with z | z
    ·exact absurd (hbe.trans z) hb
    ·rw [hbe]; exact z
   rw [q] at q'; cases q'
   obtain ⟨v,hv⟩:=heo
   exact ⟨v,by rw [hbe]; exact hv⟩
  ·refine (ok b u q).stay (fun c v hc r=>k c v ?_ r) (fun c r=>by rw [upd_ne (nown c b r)]; exact r) fun c xs r=>by rw [upd_ne (ntup c xs r)]; exact r
   rcases hc with rfl | hc
   ·exact hbe
   ·rintro rfl
    rcases he with z | z
    ·exact nown c b hc z
    ·rw [hc] at z; cases z; exact hb rfl
end
structure Un (fs ex:List Addr) (H H':Hp) (h h':Heap):Prop where
 keep:∀ b o,h.get? b = some o→H b = none→b ∉ fs→b ∉ ex→h'.get? b = some o
 slot:∀ b o,h.get? b = some o→H b = none→b∈fs→b ∉ ex→∃ sl,h'.get? b = some { o with slots:=sl }
 free:∀ b o,h.get? b = some o→H b = none→b ∉ ex→H' b = none
 there:∀ b o,h.get? b = some o→b ∉ ex→∃ o',h'.get? b = some o'
 tups:∀ b xs,H b = some (.tup xs)→H' b = some (.tup xs)
 frzs:∀ b o u,H b = some (.frz o u)→H' b = some (.frz o u)
 tbls:∀ b ps,H b = some (.tbl ps)→∃ more,H' b = some (.tbl (ps++more))
section
variable {fs fs' ex ex':List Addr} {H H1 H2:Hp} {h h1 h2 h':Heap} {a x e:Addr} {o:HO}
theorem Un.any (u:Un fs ex H H1 h h1) {b:Addr} {ob:Obj} (q:h.get? b = some ob) (n:H b = none) (hx:b ∉ ex):∃ sl,h1.get? b = some { ob with slots:=sl }:=by
 by_cases hb:b∈fs
 ·exact u.slot b ob q n hb hx
 ·exact ⟨ob.slots,u.keep b ob q n hb hx⟩
theorem Un.kept (k:∀ b u,h.get? b = some u→h'.get? b = some u):Un fs ex H H h h' :=
 ⟨fun b ob q _ _ _=>k b ob q,fun b ob q _ _ _=>⟨ob.slots,k b ob q⟩,fun _ _ _ n _=>n,fun b ob q _=>⟨ob,k b ob q⟩,fun _ _ q=>q,fun _ _ _ q=>q,fun _ ps q=>⟨#[],by rw [q]; simp⟩⟩
theorem Un.refl:Un fs ex H H h h:=Un.kept fun _ _ q=>q
theorem Un.laid (k:∀ b u,h.get? b = some u→h'.get? b = some u) (hp:h.objs.size≤a) (hn:H a = none):Un fs ex H (upd H a o) h h' where
 keep:=fun b u q _ _ _=>k b u q
 slot:=fun b u q _ _ _=>⟨u.slots,k b u q⟩
 free:=fun b u q n _=>by rw [upd_ne (Nat.ne_of_lt (Nat.lt_of_lt_of_le (Heap.lt_size q) hp))]; exact n
 there:=fun b u q _=>⟨u,k b u q⟩
 tups:=fun b xs q=>by rw [upd_ne (ne_of_none q hn)]; exact q
 frzs:=fun b u xs q=>by rw [upd_ne (ne_of_none q hn)]; exact q
 tbls:=fun b ps q=>⟨#[],by rw [upd_ne (ne_of_none q hn),q]; simp⟩
theorem Un.write (mu:Mut (H x)) (he:e = x∨H e = some (.own x)) (k:∀ b u,b≠e→h.get? b = some u→h'.get? b = some u) (heo:∃ u,h'.get? e = some u):Un fs ex H (upd H x o) h h':=by
 have hx:∀ b,H b = none→b≠x:=fun b n z=>by subst z; rw [n] at mu; exact mu
 have hb:∀ b,H b = none→b≠e:=fun b n z=>by
  subst z
  rcases he with r | r
  ·exact hx b n r
  ·rw [n] at r; cases r
 have hm:∀ b u,H b = some u→¬ Mut (some u)→b≠x:=fun b u q nm z=>by subst z; rw [q] at mu; exact nm mu
 refine ⟨fun b u q n _ _=>k b u (hb b n) q,fun b u q n _ _=>⟨u.slots,k b u (hb b n) q⟩,fun b u q n _=>by rw [upd_ne (hx b n)]; exact n,fun b u q _=>?_,
  fun b xs q=>by rw [upd_ne (hm b _ q fun z=>z)]; exact q,fun b u xs q=>by rw [upd_ne (hm b _ q fun z=>z)]; exact q,fun b ps q=>⟨#[],by rw [upd_ne (hm b _ q fun z=>z),q]; simp⟩⟩
 by_cases hbe:b = e
 ·subst hbe; exact heo
 ·exact ⟨u,k b u hbe q⟩
end
def trk (h:Heap) (H:Hp):List Addr:=(List.range h.objs.size).filter fun a=>(H a).isSome
def hidT (h:Heap) (H:Hp):Heap:=PySem.W.hideAll h (trk h H)
theorem hidT_size (h:Heap) (H:Hp):(hidT h H).objs.size = h.objs.size:=PySem.W.hideAll_size _ _
theorem hidT_get {h:Heap} {H:Hp} {b:Addr} {o:Obj} (e:h.get? b = some o) (n:H b = none):(hidT h H).get? b = some o :=
 PySem.W.hideAll_get _ e fun hm=>by
  have q:(H b).isSome = true:=(List.mem_filter.mp hm).2
  rw [n] at q; simp at q
theorem of_hidT {h:Heap} {H:Hp} {b:Addr} {o:Obj} (e:(hidT h H).get? b = some o):h.get? b = some o∧H b = none:=by
 have e':h.get? b = some o:=PySem.W.of_hideAll (trk h H) e
 refine ⟨e',?_⟩
 cases q:H b with
 | none=>rfl
 | some x =>
  have hm:b∈trk h H:=List.mem_filter.mpr ⟨List.mem_range.mpr (Heap.lt_size e'),by simp [q]⟩
  have z:(hidT h H).get? b = none:=PySem.W.hideAll_none (trk h H) hm
  rw [z] at e; cases e
end L2
namespace L2
open PySem PySem.Spec PyProof.Rows
structure Mod (K:PySem.W.Frag) (mg:Str→Option Value) (base:Heap):Prop where
 kin:K.In base
 glob:base.Ns mainGlobals mg
 blt:∃ mb,base.Ns builtinsNs mb∧∀ x:Str,x≠"__name__"→mb x = bootBuiltins x
 nolimit:base.NoLimit
structure Cx where
 prog:Program
 w:World
 K:PySem.W.Frag
 mg:Str→Option Value
 base:Heap
 A:Around
 N:List Str
 s₀:Shared
 H₀:Hp
 env:Env
 outer:List Env
 stack:List Env
 ex:List Addr
 fn:Str→Bool
 calm:Bool
 pn:List (Addr × Obj)
 xe:Value→Shared→Prop
def frs (l:List Env):List Addr:=l.filterMap (·.frame)
abbrev Cx.fs (X:Cx):List Addr:=frs X.outer
def Vis (sc:Scope) (x:Str):Prop:=sc.names.lookup x = some .local∨sc.names.lookup x = some .cell∨sc.names.lookup x = some .free
def Loc (sc:Scope) (x:Str):Prop:=sc.names.lookup x = some .local∨sc.names.lookup x = some .cell
def Look (env:Env) (h:Heap) (m:Str→Option Value) (x:Str) (u:Value):Prop :=
 (env.kindOf x = some .local∧m x = some u)∨((env.kindOf x = some .cell∨env.kindOf x = some .free)∧∃ c,env.cells.lookup x = some c∧h.IsCell c (some u))
structure Cx.Ok (X:Cx):Prop where
 mod:Mod X.K X.mg X.base
 kind:X.env.scope.kind = .function
 glob:X.env.globals = mainGlobals
 blt:X.env.builtins = builtinsNs
 above:X.s₀.heap.objs.size≤X.env.locals
 inj:∀ x y c,X.env.cells.lookup x = some c→X.env.cells.lookup y = some c→x = y
 has:∀ x,(X.env.kindOf x = some .cell∨X.env.kindOf x = some .free)→∃ c,X.env.cells.lookup x = some c
 cab:∀ x c,X.fn x = true→X.env.cells.lookup x = some c→X.s₀.heap.objs.size≤c
 hd:X.calm = true→X.A.handled = none
 frames:X.A.frames = some X.stack
 stk:X.stack = X.outer∨(X.stack = X.env::X.outer∧X.env.frame = some X.env.locals)
 exf:∀ b∈X.ex,b≠X.env.locals∧∀ x c,X.env.cells.lookup x = some c→c≠b
 bs:∀ b o,X.base.get? b = some o→X.s₀.heap.get? b = some o∧X.H₀ b = none
 bsz:X.base.objs.size≤X.s₀.heap.objs.size
 noex:∀ b o,X.base.get? b = some o→b ∉ X.ex
 exfs:∀ b∈X.ex,b ∉ X.fs
 funs:X.s₀.heap.FunFrames X.base X.outer
 frf:∀ b∈X.fs,X.H₀ b = none
structure Inv (X:Cx) (pins:List (Addr × Obj)) (σ:List (Option V)) (H:Hp) (s:Shared):Prop where
 ok:X.Ok
 os:s.os = X.s₀.os
 bare:AllBare s.gens
 base:Un X.fs X.ex X.H₀ H X.s₀.heap s.heap
 loc:∃ m,s.heap.Ns X.env.locals m∧∀ (i:Nat) (x:Str) (v:V),X.N[i]? = some x→σ[i]? = some (some v)→Vis X.env.scope x→∃ u,RelV v u∧Look X.env s.heap m x u
 cell:∀ x c,X.env.cells.lookup x = some c→∃ v,s.heap.IsCell c v
 free:H X.env.locals = none
 freeC:∀ x c,X.env.cells.lookup x = some c→H c = none
 pin:∀ p∈X.pn++pins,s.heap.get? p.1 = some p.2∧H p.1 = none∧p.1≠X.env.locals∧p.1 ∉ X.fs∧∀ v,p.2.data≠.cell v
 hok:HOk X.prog X.w H s.heap
 len:σ.length = X.N.length
section
variable {X:Cx} {pins:List (Addr × Obj)} {σ:List (Option V)} {H H':Hp} {s:Shared} {h':Heap}
theorem Cx.Ok.nofr (ok:X.Ok) {b:Addr} {o:Obj} (e:X.base.get? b = some o):b ∉ X.fs:=fun hb=>by
 have:=(ok.funs.mem hb).1
 rw [e] at this; cases this
theorem Inv.bs (I:Inv X pins σ H s):∀ b o,X.base.get? b = some o→s.heap.get? b = some o∧H b = none:=fun b o e =>
 ⟨I.base.keep b o (I.ok.bs b o e).1 (I.ok.bs b o e).2 (I.ok.nofr e) (I.ok.noex b o e),I.base.free b o (I.ok.bs b o e).1 (I.ok.bs b o e).2 (I.ok.noex b o e)⟩
theorem Inv.bk (I:Inv X pins σ H s):∀ b o,X.base.get? b = some o→s.heap.get? b = some o:=fun b o e=>(I.bs b o e).1
theorem Inv.mod (I:Inv X pins σ H s):Mod X.K X.mg X.base:=I.ok.mod
theorem Inv.kIn (I:Inv X pins σ H s):X.K.In s.heap:=I.ok.mod.kin.keeps I.bk
theorem Inv.lt (I:Inv X pins σ H s):X.env.locals < s.heap.objs.size:=let ⟨_,hn,_⟩:=I.loc; hn.lt
theorem Inv.sz (I:Inv X pins σ H s):X.s₀.heap.objs.size≤s.heap.objs.size:=Nat.le_trans I.ok.above (Nat.le_of_lt I.lt)
theorem Inv.nofs (I:Inv X pins σ H s) {a:Addr} (h:s.heap.objs.size≤a):a ∉ X.fs:=fun hb=>by
 obtain ⟨_,o,ho,_⟩:=I.ok.funs.mem hb
 exact absurd (Nat.lt_of_lt_of_le (Heap.lt_size ho) (Nat.le_trans I.sz h)) (Nat.lt_irrefl _)
theorem Inv.cne (I:Inv X pins σ H s):∀ x c,X.env.cells.lookup x = some c→c≠X.env.locals:=fun x c e z=>by
 obtain ⟨v,o,ho,hd⟩:=I.cell x c e
 obtain ⟨m,⟨o',es,ep,ho',hd',_⟩,_⟩:=I.loc
 rw [z,ho'] at ho; cases ho; rw [hd'] at hd; cases hd
theorem Inv.funs (I:Inv X pins σ H s):s.heap.FunFrames X.base X.outer:=by
 have all:∀ (l:List Env),(∀ b∈frs l,b∈X.fs)→X.s₀.heap.FunFrames X.base l→s.heap.FunFrames X.base l:=by
  intro l
  induction l with
  | nil=>intro _ _; trivial
  | cons env r ih =>
   intro hs hl
   obtain ⟨hk,⟨L,o,hf,hn,ho,hd⟩,hr⟩:=hl
   have hL:L∈X.fs:=hs L (by unfold frs; rw [List.filterMap_cons,hf]; exact List.mem_cons_self)
   obtain ⟨sl,e⟩:=I.base.slot L o ho (I.ok.frf L hL) hL fun z=>I.ok.exfs L z hL
   exact ⟨hk,⟨L,_,hf,hn,e,hd⟩,ih (fun b hb=>hs b (by unfold frs; rw [List.filterMap_cons,hf]; exact List.mem_cons_of_mem _ hb)) hr⟩
 exact all X.outer (fun _ hb=>hb) I.ok.funs
theorem Inv.stack (I:Inv X pins σ H s):s.heap.FunFrames X.base X.stack:=by
 rcases I.ok.stk with e | ⟨e,hf⟩
 ·rw [e]; exact I.funs
 ·rw [e]
  obtain ⟨m,hn,_⟩:=I.loc
  refine .cons (by rw [I.ok.kind]; decide) hf hn ?_ I.funs
  exact Heap.get?_none_of_le (Nat.le_trans I.ok.bsz I.ok.above)
theorem Inv.stkSub (I:Inv X pins σ H s):∀ b∈frs X.stack,b∈X.env.locals::X.fs:=fun b hb=>by
 rcases I.ok.stk with e | ⟨e,hf⟩
 ·rw [e] at hb; exact List.mem_cons_of_mem _ hb
 ·rw [e] at hb
  unfold frs at hb
  rw [List.filterMap_cons,hf] at hb
  exact hb
theorem Inv.stkFree (I:Inv X pins σ H s):∀ b∈frs X.stack,H b = none:=fun b hb=>by
 rcases List.mem_cons.mp (I.stkSub b hb) with e | hb
 ·rw [e]; exact I.free
 ·obtain ⟨_,o,ho,_⟩:=I.ok.funs.mem hb
  exact I.base.free b o ho (I.ok.frf b hb) fun z=>I.ok.exfs b z hb
theorem Inv.step {g':Array GenState} {t':Nat} {d':Drawn} {ch:List Addr} (I:Inv X pins σ H s)
  (hch:∀ b∈ch,(b∈X.ex∨X.s₀.heap.objs.size≤b)∧b≠X.env.locals∧(∀ x c,X.env.cells.lookup x = some c→c≠b)∧∀ p∈X.pn++pins,p.1≠b)
  (keep:∀ b o,b≠X.env.locals→b ∉ X.fs→b ∉ ch→s.heap.get? b = some o→H b = none→h'.get? b = some o)
  (slot:∀ b o,b≠X.env.locals→b∈X.fs→b ∉ ch→s.heap.get? b = some o→H b = none→∃ sl,h'.get? b = some { o with slots:=sl }) (free:∀ b o,b ∉ ch→s.heap.get? b = some o→H b = none→H' b = none)
  (there:∀ b o,b ∉ ch→s.heap.get? b = some o→∃ o',h'.get? b = some o')
  (tups:∀ b xs,H b = some (.tup xs)→H' b = some (.tup xs)) (frzs:∀ b o u,H b = some (.frz o u)→H' b = some (.frz o u)) (tbls:∀ b ps,H b = some (.tbl ps)→∃ more,H' b = some (.tbl (ps++more)))
  (ns:∀ m,s.heap.Ns X.env.locals m→h'.Ns X.env.locals m) (hok:HOk X.prog X.w H' h') (hg:AllBare g') :
  Inv X pins σ H' { s with heap:=h',gens:=g',drawn:=d',toks:=t' }:=by
 have neL:∀ b o,X.s₀.heap.get? b = some o→b≠X.env.locals:=fun b o e=>Nat.ne_of_lt (Nat.lt_of_lt_of_le (Heap.lt_size e) I.ok.above)
 have neC:∀ b o,X.s₀.heap.get? b = some o→b ∉ X.ex→b ∉ ch:=fun b o e hx hb=>by
  rcases (hch b hb).1 with z | z
  ·exact hx z
  ·exact absurd (Nat.lt_of_lt_of_le (Heap.lt_size e) z) (Nat.lt_irrefl _)
 have cellK:∀ x c,X.env.cells.lookup x = some c→∀ v,s.heap.IsCell c v→h'.IsCell c v:=fun x c e v ⟨o,ho,hd⟩=>by
  have nch:c ∉ ch:=fun z=>(hch c z).2.2.1 x c e rfl
  by_cases hc:c∈X.fs
  ·obtain ⟨sl,q⟩:=slot c o (I.cne x c e) hc nch ho (I.freeC x c e)
   exact ⟨_,q,hd⟩
  ·exact ⟨o,keep c o (I.cne x c e) hc nch ho (I.freeC x c e),hd⟩
 refine ⟨I.ok,I.os,hg,⟨fun b o e n hb hx=>?_,fun b o e n hb hx=>?_,fun b o e n hx=>?_,fun b o e hx=>?_,fun b xs e=>tups b xs (I.base.tups b xs e),fun b o xs e=>frzs b o xs (I.base.frzs b o xs e),fun b ps e=>?_⟩,?_,fun x c e=>?_,?_,fun x c e=>?_,fun p hp=>?_,hok,I.len⟩
 ·exact keep b o (neL b o e) hb (neC b o e hx) (I.base.keep b o e n hb hx) (I.base.free b o e n hx)
 ·obtain ⟨sl,e1⟩:=I.base.slot b o e n hb hx
  obtain ⟨sl',e2⟩:=slot b _ (neL b o e) hb (neC b o e hx) e1 (I.base.free b o e n hx)
  exact ⟨sl',e2⟩
 ·obtain ⟨o',e1⟩:=I.base.there b o e hx
  exact free b o' (neC b o e hx) e1 (I.base.free b o e n hx)
 ·obtain ⟨o',e1⟩:=I.base.there b o e hx
  exact there b o' (neC b o e hx) e1
 ·obtain ⟨m1,e1⟩:=I.base.tbls b ps e
  obtain ⟨m2,e2⟩:=tbls b _ e1
  exact ⟨m1++m2,by rw [e2,Array.append_assoc]⟩
 ·obtain ⟨m,hn,hl⟩:=I.loc
  refine ⟨m,ns m hn,fun i x v e1 e2 e3=>?_⟩
  obtain ⟨u,r,l⟩:=hl i x v e1 e2 e3
  refine ⟨u,r,?_⟩
  rcases l with l | ⟨k,c,e,z⟩
  ·exact .inl l
  ·exact .inr ⟨k,c,e,cellK x c e _ z⟩
 ·obtain ⟨v,z⟩:=I.cell x c e
  exact ⟨v,cellK x c e v z⟩
 ·obtain ⟨m,⟨o,_,_,ho,_⟩,_⟩:=I.loc
  exact free _ o (fun z=>(hch _ z).2.1 rfl) ho I.free
 ·obtain ⟨v,o,ho,hd⟩:=I.cell x c e
  exact free c o (fun z=>(hch c z).2.2.1 x c e rfl) ho (I.freeC x c e)
 ·obtain ⟨e,n,ne,nf,d⟩:=I.pin p hp
  have nch:p.1 ∉ ch:=fun z=>(hch p.1 z).2.2.2 p hp rfl
  exact ⟨keep p.1 p.2 ne nf nch e n,free p.1 p.2 nch e n,ne,nf,d⟩
theorem Inv.un {t':Nat} (I:Inv X pins σ H s) (u:Un X.fs [] H H' s.heap h') (hok:HOk X.prog X.w H' h'):Inv X pins σ H' { s with heap:=h',toks:=t' }:=by
 obtain ⟨m,⟨o,es,ep,ho,r⟩,_⟩:=id I.loc
 obtain ⟨sl,hL⟩:=u.any ho I.free (by simp)
 exact I.step (g':=s.gens) (d':=s.drawn) (ch:=[]) (fun _ z=>nomatch z) (fun b o _ hb _ e n=>u.keep b o e n hb (by simp)) (fun b o _ hb _ e n=>u.slot b o e n hb (by simp)) (fun b o _ e n=>u.free b o e n (by simp)) (fun b o _ e=>u.there b o e (by simp)) u.tups u.frzs u.tbls (fun m' hm=>by
  obtain ⟨o',es',ep',ho',r'⟩:=hm
  rw [ho] at ho'; cases ho'
  exact ⟨_,es',ep',hL,r'⟩) hok I.bare
theorem Inv.call {g':Array GenState} {t':Nat} {d':Drawn} {ch:List Addr} (I:Inv X pins σ H s) (u:Un (frs X.stack) ch H H' s.heap h') (hok:HOk X.prog X.w H' h') (hg:AllBare g')
  (hch:∀ b∈ch,(b∈X.ex∨X.s₀.heap.objs.size≤b)∧b≠X.env.locals∧(∀ x c,X.env.cells.lookup x = some c→c≠b)∧∀ p∈X.pn++pins,p.1≠b) :
  Inv X pins σ H' { s with heap:=h',gens:=g',drawn:=d',toks:=t' }:=by
 obtain ⟨m,⟨o,es,ep,ho,r⟩,_⟩:=id I.loc
 obtain ⟨sl,hL⟩:=u.any ho I.free fun z=>(hch _ z).2.1 rfl
 exact I.step (ch:=ch) hch (fun b o hL hb hc e n=>u.keep b o e n (fun z=>(List.mem_cons.mp (I.stkSub b z)).elim hL hb) hc) (fun b o _ _ hc e n=>u.any e n hc) (fun b o hc e n=>u.free b o e n hc) (fun b o hc e=>u.there b o e hc) u.tups u.frzs u.tbls (fun m' hm=>by
  obtain ⟨o',es',ep',ho',r'⟩:=hm
  rw [ho] at ho'; cases ho'
  exact ⟨_,es',ep',hL,r'⟩) hok hg
theorem Inv.turned {t':Nat} {it:Addr} (I:Inv X pins σ H s) (k:∀ b o,b≠it→s.heap.get? b = some o→h'.get? b = some o) (hn:H it = none) (hL:it≠X.env.locals)
  (h1:it∈X.ex∨X.s₀.heap.objs.size≤it) (h2:∀ x c,X.env.cells.lookup x = some c→c≠it) (h3:∀ p∈X.pn++pins,p.1≠it):Inv X pins σ H { s with heap:=h',toks:=t' }:=by
 have nit:∀ b u,H b = some u→b≠it:=fun b u e z=>by rw [z,hn] at e; cases e
 refine I.step (g':=s.gens) (d':=s.drawn) (ch:=[it]) (fun b hb=>?_) (fun b o _ _ hc e _=>k b o (fun z=>hc (by simp [z])) e) (fun b o _ _ hc e _=>⟨o.slots,k b o (fun z=>hc (by simp [z])) e⟩) (fun _ _ _ _ n=>n)
  (fun b o hc e=>⟨o,k b o (fun z=>hc (by simp [z])) e⟩) (fun _ _ e=>e) (fun _ _ _ e=>e) (fun b ps e=>⟨#[],by rw [e]; simp⟩) (fun m hm=>?_) (fun b u e=>?_) I.bare
 ·have e:b = it:=by simpa using hb
  subst e
  exact ⟨h1,hL,h2,h3⟩
 ·obtain ⟨o,es,ep,ho,r⟩:=hm
  exact ⟨o,es,ep,k _ o (Ne.symm hL) ho,r⟩
 ·refine (I.hok b u e).stay (fun c v hc q=>k c v ?_ q) (fun _ q=>q) fun _ _ q=>q
  rcases hc with z | z
  ·rw [z]; exact nit b u e
  ·exact nit c _ z
theorem Inv.tok (I:Inv X pins σ H s) (t:Nat):Inv X pins σ H { s with toks:=t }:=I.un (h':=s.heap) (t':=t) Un.refl I.hok
theorem Inv.kept {t':Nat} (I:Inv X pins σ H s) (k:∀ b u,s.heap.get? b = some u→h'.get? b = some u):Inv X pins σ H { s with heap:=h',toks:=t' }:=I.un (Un.kept k) (I.hok.kept k)
theorem Inv.laid {a:Addr} {o:HO} {t':Nat} (I:Inv X pins σ H s) (k:∀ b u,s.heap.get? b = some u→h'.get? b = some u) (hp:s.heap.objs.size≤a) (new:ObjOk X.prog X.w (upd H a o) h' a o) :
  Inv X pins σ (upd H a o) { s with heap:=h',toks:=t' }:=I.un (Un.laid k hp (I.hok.fresh hp)) (I.hok.laid k hp new)
theorem Inv.write {x e:Addr} {o:HO} {t':Nat} (I:Inv X pins σ H s) (mu:Mut (H x)) (he:e = x∨H e = some (.own x)) (k:∀ b u,b≠e→s.heap.get? b = some u→h'.get? b = some u) (heo:∃ u,h'.get? e = some u)
  (new:ObjOk X.prog X.w (upd H x o) h' x o):Inv X pins σ (upd H x o) { s with heap:=h',toks:=t' }:=I.un (Un.write mu he k heo) (I.hok.write mu he k heo new)
theorem Inv.pins_of {pins':List (Addr × Obj)} (I:Inv X pins σ H s) (h:∀ p∈pins',s.heap.get? p.1 = some p.2∧H p.1 = none∧p.1≠X.env.locals∧p.1 ∉ X.fs∧∀ v,p.2.data≠.cell v):Inv X pins' σ H s :=
 ⟨I.ok,I.os,I.bare,I.base,I.loc,I.cell,I.free,I.freeC,fun p hp=>(List.mem_append.mp hp).elim (fun z=>I.pin p (List.mem_append_left _ z)) (h p),I.hok,I.len⟩
theorem nodup_ix {N:List Str} (hN:N.Nodup) {i j:Nat} {x:Str} (a:N[i]? = some x) (b:N[j]? = some x):i = j:=by
 obtain ⟨h1,e1⟩:=List.getElem?_eq_some_iff.mp a
 obtain ⟨h2,e2⟩:=List.getElem?_eq_some_iff.mp b
 exact (List.getElem_inj hN).mp (e1.trans e2.symm)
theorem store_ok2 {M:Model} {A:Around} {E:Value→Shared→Prop} {i:Nat} {x:Str} {v:V} {u:Value} {Q:Unit→Shared→Prop} (I:Inv X pins σ H s) (hN:X.N.Nodup) (hi:X.N[i]? = some x) (hx:Loc X.env.scope x) (r:RelV v u)
  (h:∀ s',Inv X pins (σ.set i (some v)) H s'→(∃ a,Heap.SameBut a s.heap s'.heap∧(a = X.env.locals∨X.env.cells.lookup x = some a))→Q () s') (hf:X.fn x = true∨X.env.scope.names.lookup x = some .local:=by first | exact .inl rfl | exact .inr rfl | assumption):wpAny M A (storeName X.env x u) Q E s:=by
 obtain ⟨m,hn,hl⟩:=id I.loc
 have hcls:(X.env.scope.kind == .class || (X.env.scope.kind == .module && X.env.locals != X.env.globals)) = false:=by rw [I.ok.kind]; rfl
 have hiσ:i < σ.length:=by rw [I.len]; exact (List.getElem?_eq_some_iff.mp hi).1
 have cne:=I.cne
 have tracked:∀ {a:Addr} {h':Heap},(∃ o,s.heap.get? a = some o∧H a = none)→Heap.SameBut a s.heap h'→HOk X.prog X.w H h':=fun {a h'} ha hs b ob e=>by
  obtain ⟨_,_,hfree⟩:=ha
  refine (I.hok b ob e).stay (fun c w' hc q=>(hs.2 c ?_).trans q) (fun _ q=>q) fun _ _ q=>q
  rintro rfl
  rcases hc with rfl | hc
  ·rw [hfree] at e; cases e
  ·rw [hfree] at hc; cases hc
 rcases hx with hk | hk
 ·refine wpAny_storeName_local hk hn (fun h' hn' hs=>?_) hcls
  obtain ⟨oL,_,_,hoL,_⟩:=id hn
  refine h _ ⟨I.ok,I.os,I.bare,⟨fun b o e n hb hx=>?_,fun b o e n hb hx=>?_,I.base.free,fun b o e hx=>?_,I.base.tups,I.base.frzs,I.base.tbls⟩,⟨_,hn',fun j y v' e1 e2 e3=>?_⟩,fun y c e=>?_,I.free,I.freeC,fun p hp=>?_,tracked ⟨oL,hoL,I.free⟩ hs,by simpa using I.len⟩ ⟨_,hs,.inl rfl⟩
  ·exact (hs.2 b (Nat.ne_of_lt (Nat.lt_of_lt_of_le (Heap.lt_size e) I.ok.above))).trans (I.base.keep b o e n hb hx)
  ·obtain ⟨sl,e1⟩:=I.base.slot b o e n hb hx
   exact ⟨sl,(hs.2 b (Nat.ne_of_lt (Nat.lt_of_lt_of_le (Heap.lt_size e) I.ok.above))).trans e1⟩
  ·obtain ⟨o',e1⟩:=I.base.there b o e hx
   exact ⟨o',(hs.2 b (Nat.ne_of_lt (Nat.lt_of_lt_of_le (Heap.lt_size e) I.ok.above))).trans e1⟩
  ·by_cases hj:j = i
   ·subst hj
    rw [hi] at e1; cases e1
    rw [List.getElem?_set_self hiσ] at e2
    cases e2
    exact ⟨u,r,.inl ⟨hk,by simp⟩⟩
   ·rw [List.getElem?_set_ne (Ne.symm hj)] at e2
    obtain ⟨u',r',q⟩:=hl j y v' e1 e2 e3
    refine ⟨u',r',?_⟩
    rcases q with ⟨k,e⟩ | ⟨k,c,e,z⟩
    ·refine .inl ⟨k,?_⟩
     have:y≠x:=fun e=>hj (nodup_ix hN e1 (e ▸ hi))
     simp [this,e]
    ·exact .inr ⟨k,c,e,z.sameBut hs (cne y c e)⟩
  ·obtain ⟨w',z⟩:=I.cell y c e
   exact ⟨w',z.sameBut hs (cne y c e)⟩
  ·obtain ⟨e,n,ne,nf,d⟩:=I.pin p hp
   exact ⟨(hs.2 p.1 ne).trans e,n,ne,nf,d⟩
 ·have hfn:X.fn x = true:=by
   rcases hf with z | z
   ·exact z
   ·rw [z] at hk; cases hk
  obtain ⟨c,hc⟩:=I.ok.has x (.inl hk)
  obtain ⟨w',z⟩:=I.cell x c hc
  refine wpAny_storeName_cell I.ok.kind hk hc z (fun h' hc' hs=>?_)
  obtain ⟨oc,hoc,hocd⟩:=id z
  refine h { s with heap:=h' } ⟨I.ok,I.os,I.bare,⟨fun b o e n hb hx=>?_,fun b o e n hb hx=>?_,I.base.free,fun b o e hx=>?_,I.base.tups,I.base.frzs,I.base.tbls⟩,⟨m,hn.sameBut hs (Ne.symm (cne x c hc)),fun j y v' e1 e2 e3=>?_⟩,fun y c' e=>?_,I.free,I.freeC,fun p hp=>?_,tracked ⟨oc,hoc,I.freeC x c hc⟩ hs,by simpa using I.len⟩ ⟨c,hs,.inr hc⟩
  ·exact (hs.2 b (Nat.ne_of_lt (Nat.lt_of_lt_of_le (Heap.lt_size e) (I.ok.cab x c hfn hc)))).trans (I.base.keep b o e n hb hx)
  ·obtain ⟨sl,e1⟩:=I.base.slot b o e n hb hx
   exact ⟨sl,(hs.2 b (Nat.ne_of_lt (Nat.lt_of_lt_of_le (Heap.lt_size e) (I.ok.cab x c hfn hc)))).trans e1⟩
  ·obtain ⟨o',e1⟩:=I.base.there b o e hx
   exact ⟨o',(hs.2 b (Nat.ne_of_lt (Nat.lt_of_lt_of_le (Heap.lt_size e) (I.ok.cab x c hfn hc)))).trans e1⟩
  ·by_cases hj:j = i
   ·subst hj
    rw [hi] at e1; cases e1
    rw [List.getElem?_set_self hiσ] at e2
    cases e2
    exact ⟨u,r,.inr ⟨.inl hk,c,hc,hc'⟩⟩
   ·rw [List.getElem?_set_ne (Ne.symm hj)] at e2
    obtain ⟨u',r',q⟩:=hl j y v' e1 e2 e3
    refine ⟨u',r',?_⟩
    rcases q with q | ⟨k,c',e,z'⟩
    ·exact .inl q
    ·refine .inr ⟨k,c',e,z'.sameBut hs ?_⟩
     rintro rfl
     exact hj (nodup_ix hN e1 (I.ok.inj _ _ _ e hc ▸ hi))
  ·by_cases hcc:c' = c
   ·subst hcc; exact ⟨_,hc'⟩
   ·obtain ⟨w2,z2⟩:=I.cell y c' e
    exact ⟨w2,z2.sameBut hs hcc⟩
  ·obtain ⟨e,n,ne,nf,d⟩:=I.pin p hp
   refine ⟨(hs.2 p.1 ?_).trans e,n,ne,nf,d⟩
   intro q
   rw [q,hoc] at e
   have q':oc = p.2:=Option.some.inj e
   exact d w' (by rw [← q']; exact hocd)
theorem store_ok {M:Model} {A:Around} {E:Value→Shared→Prop} {i:Nat} {x:Str} {v:V} {u:Value} {Q:Unit→Shared→Prop} (I:Inv X pins σ H s) (hN:X.N.Nodup) (hi:X.N[i]? = some x) (hx:Loc X.env.scope x) (r:RelV v u)
  (h:∀ s',Inv X pins (σ.set i (some v)) H s'→Q () s') (hf:X.fn x = true∨X.env.scope.names.lookup x = some .local:=by first | exact .inl rfl | exact .inr rfl | assumption):wpAny M A (storeName X.env x u) Q E s :=
 store_ok2 I hN hi hx r (fun s' I' _=>h s' I') hf
theorem Inv.call' {s':Shared} {ch:List Addr} (I:Inv X pins σ H s) (ho:s'.os = s.os) (u:Un (frs X.stack) ch H H' s.heap s'.heap) (hok:HOk X.prog X.w H' s'.heap) (hg:AllBare s'.gens)
  (hch:∀ b∈ch,(b∈X.ex∨X.s₀.heap.objs.size≤b)∧b≠X.env.locals∧(∀ x c,X.env.cells.lookup x = some c→c≠b)∧∀ p∈X.pn++pins,p.1≠b):Inv X pins σ H' s':=by
 obtain ⟨h',g',d',t',o'⟩:=s'
 have e:o' = s.os:=ho
 subst e
 exact I.call (g':=g') (t':=t') (d':=d') u hok hg hch
end
abbrev XK:=Value→Option Addr→Hp→Prop
abbrev St:=List (Option V)
abbrev VK:=V→Hp→Prop
abbrev TE:=St→Hp→VK→Prop
abbrev TT:=St→Hp→(Bool→Hp→Prop)→Prop
abbrev TA:=St→Hp→(List V→Hp→Prop)→Prop
structure Ends where
 nx:St→Hp→Prop
 rt:VK
 bk:St→Hp→Prop:=fun _ _=>False
 ct:St→Hp→Prop:=fun _ _=>False
abbrev TS:=Ends→St→Hp→Prop
def EP (X:Cx) (pins:List (Addr × Obj)) (σ:St) (Q:VK) (u:Value) (s':Shared):Prop:=∃ v H',Inv X pins σ H' s'∧RelV v u∧Q v H'
def TP (X:Cx) (pins:List (Addr × Obj)) (σ:St) (Q:Bool→Hp→Prop) (b:Bool) (s':Shared):Prop:=∃ H',Inv X pins σ H' s'∧Q b H'
def AP (X:Cx) (pins:List (Addr × Obj)) (σ:St) (Q:List V→Hp→Prop) (us:List Value) (s':Shared):Prop:=∃ vs H',Inv X pins σ H' s'∧Vals vs us∧Q vs H'
def SP (X:Cx) (pins:List (Addr × Obj)) (D:Ends) (f:Flow) (s':Shared):Prop :=
 match f with
 | .next=>∃ σ' H',Inv X pins σ' H' s'∧D.nx σ' H'
 | .brk=>∃ σ' H',Inv X pins σ' H' s'∧D.bk σ' H'
 | .cont=>∃ σ' H',Inv X pins σ' H' s'∧D.ct σ' H'
 | .ret u=>∃ v σ' H',Inv X pins σ' H' s'∧RelV v u∧D.rt v H'
def PE (X:Cx) (e:Expr) (t:TE):Prop :=
 ∀ (pins:List (Addr × Obj)) (s:Shared) (σ:St) (H:Hp) (Q:VK),Inv X pins σ H s→t σ H Q→wpAny (model X.prog X.w) X.A (eval e X.env) (EP X pins σ Q) X.xe s
def PT (X:Cx) (e:Expr) (t:TT):Prop :=
 ∀ (pins:List (Addr × Obj)) (s:Shared) (σ:St) (H:Hp) (Q:Bool→Hp→Prop),Inv X pins σ H s→t σ H Q→wpAny (model X.prog X.w) X.A (isTrue e X.env (eval e X.env)) (TP X pins σ Q) X.xe s
def PW (X:Cx) (e:Expr) (t:TT):Prop :=
 ∀ (whole:Sem Value) (pins:List (Addr × Obj)) (s:Shared) (σ:St) (H:Hp) (Q:Bool→Hp→Prop),Inv X pins σ H s→t σ H Q→wpAny (model X.prog X.w) X.A (isTrue e X.env whole) (TP X pins σ Q) X.xe s
theorem PW.pt {X:Cx} {e:Expr} {t:TT} (h:PW X e t):PT X e t:=h _
def PA (X:Cx) (es:List Expr) (t:TA):Prop :=
 ∀ (pos:Pos) (pins:List (Addr × Obj)) (s:Shared) (σ:St) (H:Hp) (Q:List V→Hp→Prop),Inv X pins σ H s→t σ H Q→wpAny (model X.prog X.w) X.A (spliced (backTo pos (starEach es X.env))) (AP X pins σ Q) X.xe s
def PS (X:Cx) (st:Stmt) (t:TS):Prop :=
 ∀ (pins:List (Addr × Obj)) (s:Shared) (σ:St) (H:Hp) (D:Ends),Inv X pins σ H s→t D σ H→wpAny (model X.prog X.w) X.A (exec st X.env) (SP X pins D) X.xe s
def PSs (X:Cx) (st:List Stmt) (t:TS):Prop :=
 ∀ (pins:List (Addr × Obj)) (s:Shared) (σ:St) (H:Hp) (D:Ends),Inv X pins σ H s→t D σ H→wpAny (model X.prog X.w) X.A (execs st X.env) (SP X pins D) X.xe s
theorem thn {α:Type} {t:Sem α} {Q Q':α→Shared→Prop} {M:Model} {A:Around} {E:Value→Shared→Prop} {s:Shared} (h:wpAny M A t Q E s) (hQ:∀ a s,Q a s→Q' a s):wpAny M A t Q' E s:=wpAny_mono h hQ fun _ _ x=>x
end L2
namespace L2
open PySem PySem.Spec PyProof.Rows
section
variable {X:Cx}
def tVar (i:Nat):TE:=fun σ H Q=>∃ v,σ[i]? = some (some v)∧Q v H
def tC (v:V):TE:=fun _ H Q=>Q v H
theorem pe_var {i:Nat} {x:Str} {pos:Pos} (hN:X.N[i]? = some x) (hv:Vis X.env.scope x) (hd:(x == ("__debug__":Str)) = false:=by decide) (hcd:(x == ("__classdict__":Str)) = false:=by decide):PE X (.Name x pos) (tVar i):=by
 intro pins s σ H Q I h
 obtain ⟨v,e,h⟩:=h
 obtain ⟨m,hn,hl⟩:=I.loc
 obtain ⟨u,r,l⟩:=hl i x v hN e hv
 have fin:EP X pins σ Q u s:=⟨v,H,I,r,h⟩
 rcases l with ⟨hk,hm⟩ | ⟨hk,c,hc,hcell⟩
 ·exact wpAny_Name (wpAny_loadName_local I.ok.kind hk hn hm fin) hd
 ·rcases hk with hk | hk
  ·exact wpAny_Name (wpAny_loadName_cell I.ok.kind hk hc hcell fin) hd
  ·exact wpAny_Name (wpAny_loadName_free I.ok.kind hk hc hcell fin hcd) hd
theorem pe_int {i j pos}:PE X (.Constant (.int i) j pos) (tC (.int i)):=fun _ _ _ H _ I h=>wpAny_Constant_int ⟨.int i,H,I.tok _,⟨_,rfl⟩,h⟩
theorem pe_bl {b j pos}:PE X (.Constant (.bool b) j pos) (tC (.bl b)):=fun _ _ _ H _ I h=>Constant_bool ⟨.bl b,H,I,rfl,h⟩
theorem pe_non {j pos}:PE X (.Constant .none j pos) (tC .non):=fun _ _ _ H _ I h=>Constant_none ⟨.non,H,I,rfl,h⟩
theorem pe_str {x j pos}:PE X (.Constant (.str x) j pos) (tC (.str x)):=fun _ _ _ H _ I h=>Calls.Constant_str ⟨.str x,H,I.tok _,⟨_,rfl⟩,h⟩
def Gl (X:Cx) (x:Str):Prop:=X.env.kindOf x = some .globalImplicit
theorem ld_glob {E:Value→Shared→Prop} {pins:List (Addr × Obj)} {s:Shared} {σ:St} {H:Hp} {x:Str} {u:Value} {pos:Pos} {Q:Value→Shared→Prop} (I:Inv X pins σ H s) (hg:Gl X x) (hm:X.mg x = some u) (h:Q u s)
  (hd:(x == ("__debug__":Str)) = false:=by decide):wpAny (model X.prog X.w) X.A (eval (.Name x pos) X.env) Q E s :=
 Calls.Name_function_global I.ok.kind hg (Calls.loadGlobal_global (by rw [I.ok.glob]; exact I.mod.glob.keeps I.bk) hm h) hd
theorem ld_blt {E:Value→Shared→Prop} {pins:List (Addr × Obj)} {s:Shared} {σ:St} {H:Hp} {x:Str} {u:Value} {pos:Pos} {Q:Value→Shared→Prop} (I:Inv X pins σ H s) (hg:Gl X x) (hm:X.mg x = none) (hv:bootBuiltins x = some u) (h:Q u s)
  (hn:x≠"__name__":=by decide) (hd:(x == ("__debug__":Str)) = false:=by decide):wpAny (model X.prog X.w) X.A (eval (.Name x pos) X.env) Q E s:=by
 obtain ⟨mb,h1,h2⟩:=I.mod.blt
 exact Calls.Name_function_global I.ok.kind hg (Calls.loadGlobal_builtin (by rw [I.ok.glob]; exact I.mod.glob.keeps I.bk) hm (by rw [I.ok.blt]; exact h1.keeps I.bk) ((h2 x hn).trans hv) h) hd
theorem pe_glob {x:Str} {v:V} {u:Value} {pos:Pos} (hg:Gl X x) (hm:X.mg x = some u) (r:RelV v u) (hd:(x == ("__debug__":Str)) = false:=by decide):PE X (.Name x pos) (tC v) :=
 fun _ _ _ H _ I h=>ld_glob I hg hm ⟨v,H,I,r,h⟩ hd
theorem pe_bltn {x:Str} {v:V} {u:Value} {pos:Pos} (hg:Gl X x) (hm:X.mg x = none) (hv:bootBuiltins x = some u) (r:RelV v u) (hn:x≠"__name__":=by decide) (hd:(x == ("__debug__":Str)) = false:=by decide):PE X (.Name x pos) (tC v) :=
 fun _ _ _ H _ I h=>ld_blt I hg hm hv ⟨v,H,I,r,h⟩ hn hd
variable {a b:Expr} {ta tb:TE} {pos:Pos}
def tB (t:TE):TT:=fun σ H Q=>t σ H fun x H1=>∃ c,x = .bl c∧Q c H1
theorem pt_val {e:Expr} {t:TE} (h:PE X e t) (he:∀ whole,isTrue e X.env whole = (do let v ← whole; standAt e.pos; holding [v] (truthy v)):=by intro _; rfl):PT X e (tB t):=by
 intro pins s σ H Q I hw
 refine isTrue_plain (thn (h pins s σ H _ I hw) fun v s1 ⟨x,H1,I1,r1,q1⟩=>?_) (he _)
 obtain ⟨d,rfl,q⟩:=q1
 cases r1
 exact wpAny_truthy_bool ⟨H1,I1,q⟩
variable {tA tB':TT} {rest:List Expr}
def tAnd (t u:TT):TT:=fun σ H Q=>t σ H fun c H1=>if c = true then u σ H1 Q else Q false H1
def tOr (t u:TT):TT:=fun σ H Q=>t σ H fun c H1=>if c = true then Q true H1 else u σ H1 Q
def tNot (t:TT):TT:=fun σ H Q=>t σ H fun c H1=>Q (!c) H1
theorem pw_and1 (ha:PT X a tA):PW X (.BoolOp .And [a] pos) tA:=by
 intro wh pins s σ H Q I h
 refine isTrue_and (thn (ha pins s σ H Q I h) fun c s1 e=>?_)
 cases c with
 | true=>exact isTrue_and_nil e
 | false=>exact e
theorem pw_or1 (ha:PT X a tA):PW X (.BoolOp .Or [a] pos) tA:=by
 intro wh pins s σ H Q I h
 refine isTrue_or (thn (ha pins s σ H Q I h) fun c s1 e=>?_)
 cases c with
 | false=>exact isTrue_or_nil e
 | true=>exact e
theorem pw_and (ha:PT X a tA) (hb:PW X (.BoolOp .And (b::rest) pos) tB'):PW X (.BoolOp .And (a::b::rest) pos) (tAnd tA tB'):=by
 intro wh pins s σ H Q I h
 refine isTrue_and (thn (ha pins s σ H _ I h) fun c s1 ⟨H1,I1,q1⟩=>?_)
 cases c with
 | true=>exact hb wh pins s1 σ H1 Q I1 q1
 | false=>exact ⟨H1,I1,q1⟩
theorem pw_or (ha:PT X a tA) (hb:PW X (.BoolOp .Or (b::rest) pos) tB'):PW X (.BoolOp .Or (a::b::rest) pos) (tOr tA tB'):=by
 intro wh pins s σ H Q I h
 refine isTrue_or (thn (ha pins s σ H _ I h) fun c s1 ⟨H1,I1,q1⟩=>?_)
 cases c with
 | true=>exact ⟨H1,I1,q1⟩
 | false=>exact hb wh pins s1 σ H1 Q I1 q1
theorem pt_not (ha:PT X a tA):PT X (.UnaryOp .Not a pos) (tNot tA):=by
 intro pins s σ H Q I h
 exact isTrue_not (ha pins s σ H (fun c H1=>Q (!c) H1) I h)
def tAndV (ta tb:TE):TE:=fun σ H Q=>ta σ H fun x H1=>∃ c,x = .bl c∧if c = true then tb σ H1 Q else Q (.bl false) H1
def tOrV (ta tb:TE):TE:=fun σ H Q=>ta σ H fun x H1=>∃ c,x = .bl c∧if c = true then Q (.bl true) H1 else tb σ H1 Q
def tNotV (ta:TE):TE:=fun σ H Q=>ta σ H fun x H1=>∃ c,x = .bl c∧Q (.bl (!c)) H1
theorem pe_one {op} {t:TE} (h:PE X a t):PE X (.BoolOp op [a] pos) t:=fun pins s σ H Q I hw=>BoolOp_one (h pins s σ H Q I hw)
theorem pe_and (ha:PE X a ta) (hb:PE X (.BoolOp .And (b::rest) pos) tb):PE X (.BoolOp .And (a::b::rest) pos) (tAndV ta tb):=by
 intro pins s σ H Q I h
 refine BoolOp_and (thn (ha pins s σ H _ I h) fun v s1 ⟨x,H1,I1,r1,q1⟩=>?_)
 obtain ⟨c,rfl,q1⟩:=q1
 cases r1
 refine wpAny_truthy_bool ?_
 cases c with
 | true=>exact hb pins s1 σ H1 Q I1 q1
 | false=>exact ⟨.bl false,H1,I1,rfl,q1⟩
theorem pe_or (ha:PE X a ta) (hb:PE X (.BoolOp .Or (b::rest) pos) tb):PE X (.BoolOp .Or (a::b::rest) pos) (tOrV ta tb):=by
 intro pins s σ H Q I h
 refine BoolOp_or (thn (ha pins s σ H _ I h) fun v s1 ⟨x,H1,I1,r1,q1⟩=>?_)
 obtain ⟨c,rfl,q1⟩:=q1
 cases r1
 refine wpAny_truthy_bool ?_
 cases c with
 | false=>exact hb pins s1 σ H1 Q I1 q1
 | true=>exact ⟨.bl true,H1,I1,rfl,q1⟩
theorem pe_not (ha:PE X a ta):PE X (.UnaryOp .Not a pos) (tNotV ta):=by
 intro pins s σ H Q I h
 refine UnaryOp_ (thn (ha pins s σ H _ I h) fun v s1 ⟨x,H1,I1,r1,q1⟩=>?_)
 obtain ⟨c,rfl,q1⟩:=q1
 cases r1
 exact not_of (wpAny_truthy_bool ⟨.bl (!c),H1,I1,rfl,q1⟩)
def tIf (t:TT) (ta tb:TE):TE:=fun σ H Q=>t σ H fun c H1=>if c = true then ta σ H1 Q else tb σ H1 Q
theorem pe_ifExp {c:Expr} (hc:PT X c tA) (ha:PE X a ta) (hb:PE X b tb):PE X (.IfExp c a b pos) (tIf tA ta tb):=by
 intro pins s σ H Q I h
 refine wpAny_IfExp (thn (hc pins s σ H _ I h) fun d s1 ⟨H1,I1,q1⟩=>?_)
 cases d with
 | true=>exact ha pins s1 σ H1 Q I1 q1
 | false=>exact hb pins s1 σ H1 Q I1 q1
end
end L2
namespace L2
open PySem PySem.Spec PyProof.Rows
def SqL (K:PySem.W.Frag) (H:Hp) (a:Addr) (xs:List V):Prop :=
 Rd H a (.lst xs) ∨
  ∃ (o:Obj) (its:Array Value) (n:Nat),K.lookup a = some o∧o.cls = .type "list"∧o.dict = none∧o.data = .seq its n∧its.size≤sizeLine∧Vals xs its.toList
def SqT (K:PySem.W.Frag) (H:Hp) (a:Addr) (xs:List V):Prop :=
 Rd H a (.tup xs) ∨
  ∃ (o:Obj) (its:Array Value) (n:Nat),K.lookup a = some o∧o.cls = .type "tuple"∧o.data = .seq its n∧its.size≤sizeLine∧Vals xs its.toList
def absV:Value→Option V
 | .none=>some .non
 | .bool b=>some (.bl b)
 | .int i _=>some (.int i)
 | .str x _=>some (.str x)
 | .bytes b _=>some (.byt b)
 | .float b _=>some (.flt b)
 | .ref a=>some (.ref a)
 | .type n=>some (.ty n)
 | _=>none
theorem RelV.abs {x:V} {u:Value} (r:RelV x u):absV u = some x:=by
 cases x with
 | non=>cases r; rfl
 | bl _=>cases r; rfl
 | int _=>obtain ⟨t,rfl⟩:=r; rfl
 | str _=>obtain ⟨t,rfl⟩:=r; rfl
 | byt _=>obtain ⟨t,rfl⟩:=r; rfl
 | flt _=>obtain ⟨t,rfl⟩:=r; rfl
 | ref _=>cases r; rfl
 | ty _=>cases r; rfl
theorem RelV.inj {x y:V} {u:Value} (r:RelV x u) (q:RelV y u):x = y:=Option.some.inj (r.abs.symm.trans q.abs)
theorem Vals.inj:∀ {xs ys:List V} {us:List Value},Vals xs us→Vals ys us→xs = ys
 | _,_,_,.nil,.nil=>rfl
 | _,_,_,.cons r t,.cons r' t'=>by rw [r.inj r',Vals.inj t t']
section
variable {X:Cx} {pins:List (Addr × Obj)} {σ:St} {H:Hp} {s:Shared} {a:Addr} {xs ys:List V}
theorem SqL.of {K:PySem.W.Frag} (h:H a = some (.lst xs)):SqL K H a xs:=.inl (.inl h)
theorem SqT.of {K:PySem.W.Frag} (h:H a = some (.tup xs)):SqT K H a xs:=.inl (.inl h)
theorem Inv.list (I:Inv X pins σ H s) (h:SqL X.K H a xs):∃ its:List Value,Vals xs its∧PlainL s.heap a its.toArray∧xs.length≤sizeLine:=by
 rcases h with h | ⟨o,its,n,hk,hc,hd,hs,hz,r⟩
 ·obtain ⟨z,its,n,r,e⟩:=h.ok I.hok
  exact ⟨its,r,⟨_,n,e,rfl,rfl,rfl⟩,z⟩
 ·refine ⟨its.toList,r,⟨o,n,I.kIn a o hk,hc,hd,by simpa using hs⟩,?_⟩
  have e:=r.length
  simp only [Array.length_toList] at e
  omega
theorem Inv.tuple (I:Inv X pins σ H s) (h:SqT X.K H a xs):∃ its:List Value,Vals xs its∧IsTup s.heap a its.toArray∧xs.length≤sizeLine:=by
 rcases h with h | ⟨o,its,n,hk,hc,hs,hz,r⟩
 ·obtain ⟨z,its,r,p⟩:=h.ok I.hok
  exact ⟨its,r,p,z⟩
 ·refine ⟨its.toList,r,⟨o,I.kIn a o hk,hc,n,by simpa using hs⟩,?_⟩
  have e:=r.length
  simp only [Array.length_toList] at e
  omega
theorem Inv.list_inj (I:Inv X pins σ H s) (h:SqL X.K H a xs) (h':SqL X.K H a ys):xs = ys:=by
 obtain ⟨its,r,⟨o,n,e,_,_,d⟩,_⟩:=I.list h
 obtain ⟨its',r',⟨o',n',e',_,_,d'⟩,_⟩:=I.list h'
 rw [e] at e'; cases e'
 rw [d] at d'
 injection d' with d1 _
 have:its = its':=by simpa using congrArg Array.toList d1
 subst this
 exact r.inj r'
theorem Inv.tuple_inj (I:Inv X pins σ H s) (h:SqT X.K H a xs) (h':SqT X.K H a ys):xs = ys:=by
 obtain ⟨its,r,⟨o,e,_,n,d⟩,_⟩:=I.tuple h
 obtain ⟨its',r',⟨o',e',_,n',d'⟩,_⟩:=I.tuple h'
 rw [e] at e'; cases e'
 rw [d] at d'
 injection d' with d1 _
 have:its = its':=by simpa using congrArg Array.toList d1
 subst this
 exact r.inj r'
end
abbrev Cx.wish (X:Cx) (E:Value→Shared→Prop):Cx:={ X with xe:=E }
abbrev Cx.nox (X:Cx):Cx:=X.wish fun _ _=>False
theorem Cx.Ok.wish {X:Cx} (ok:X.Ok) (E:Value→Shared→Prop):(X.wish E).Ok :=
 ⟨ok.mod,ok.kind,ok.glob,ok.blt,ok.above,ok.inj,ok.has,ok.cab,ok.hd,ok.frames,ok.stk,ok.exf,ok.bs,ok.bsz,ok.noex,ok.exfs,ok.funs,ok.frf⟩
theorem Cx.Ok.unwish {X:Cx} {E:Value→Shared→Prop} (ok:(X.wish E).Ok):X.Ok :=
 ⟨ok.mod,ok.kind,ok.glob,ok.blt,ok.above,ok.inj,ok.has,ok.cab,ok.hd,ok.frames,ok.stk,ok.exf,ok.bs,ok.bsz,ok.noex,ok.exfs,ok.funs,ok.frf⟩
section
variable {X:Cx} {pins:List (Addr × Obj)} {σ:St} {H:Hp} {s:Shared} {E:Value→Shared→Prop}
theorem Inv.wish (I:Inv X pins σ H s) (E:Value→Shared→Prop):Inv (X.wish E) pins σ H s:=⟨I.ok.wish E,I.os,I.bare,I.base,I.loc,I.cell,I.free,I.freeC,I.pin,I.hok,I.len⟩
theorem Inv.unwish (I:Inv (X.wish E) pins σ H s):Inv X pins σ H s:=⟨I.ok.unwish,I.os,I.bare,I.base,I.loc,I.cell,I.free,I.freeC,I.pin,I.hok,I.len⟩
theorem SP.unwish {D:Ends} {f:Flow} {s':Shared} (h:SP (X.wish E) pins D f s'):SP X pins D f s':=by
 cases f with
 | next=>obtain ⟨σ',H',I,q⟩:=h; exact ⟨σ',H',I.unwish,q⟩
 | brk=>obtain ⟨σ',H',I,q⟩:=h; exact ⟨σ',H',I.unwish,q⟩
 | cont=>obtain ⟨σ',H',I,q⟩:=h; exact ⟨σ',H',I.unwish,q⟩
 | ret u=>obtain ⟨v,σ',H',I,r,q⟩:=h; exact ⟨v,σ',H',I.unwish,r,q⟩
theorem PSs.nox {st:List Stmt} {t:TS} (h:PSs X.nox st t):PSs X st t:=fun pins s σ H D I hw =>
 wpAny_mono (h pins s σ H D (I.wish _) hw) (fun _ _ q=>q.unwish) fun _ _ z=>False.elim z
end
section
variable {X:Cx} {st:Stmt} {rest:List Stmt} {t u:TS} {e:Expr} {te:TE} {pos:Pos}
def tNext:TS:=fun D σ H=>D.nx σ H
def tSeq (t u:TS):TS:=fun D σ H=>t { D with nx:=u D } σ H
theorem pss_nil:PSs X [] tNext:=fun _ _ σ H _ I h=>wpAny_execs_nil ⟨σ,H,I,h⟩
theorem pss_cons (h1:PS X st t) (h2:PSs X rest u):PSs X (st::rest) (tSeq t u):=by
 intro pins s σ H D I h
 refine wpAny_execs_cons (thn (h1 pins s σ H { D with nx:=u D } I h) fun f s1 q=>?_)
 cases f with
 | next =>
  obtain ⟨σ',H',I',q⟩:=q
  exact h2 pins s1 σ' H' D I' q
 | ret v=>exact q
 | brk=>exact q
 | cont=>exact q
theorem pss_one (h1:PS X st t):PSs X [st] t:=by
 intro pins s σ H D I h
 refine wpAny_execs_cons (thn (h1 pins s σ H D I h) fun f s1 q=>?_)
 cases f with
 | next=>exact wpAny_execs_nil q
 | ret v=>exact q
 | brk=>exact q
 | cont=>exact q
theorem Inv.quiet {pins:List (Addr × Obj)} {σ:St} {H:Hp} {s:Shared} (I:Inv X pins σ H s):interactive X.env = false:=by simp [interactive,I.ok.kind]
def tDrop (te:TE):TS:=fun D σ H=>te σ H fun _ H1=>D.nx σ H1
theorem ps_expr (he:PE X e te) (hs:swapsWith e none pos.line X.env = pure false:=by rfl):PS X (.Expr e pos) (tDrop te):=by
 intro pins s σ H D I h
 exact wpAny_Expr_any (thn (he pins s σ H _ I h) fun v s1 ⟨x,H1,I1,r1,q1⟩=>⟨σ,H1,I1,q1⟩) I.quiet hs
def tRet (te:TE):TS:=fun D σ H=>te σ H D.rt
theorem ps_ret (he:PE X e te):PS X (.Return (some e) pos) (tRet te):=by
 intro pins s σ H D I h
 exact wpAny_Return_some (thn (he pins s σ H _ I h) fun v s1 ⟨x,H1,I1,r1,q1⟩=>⟨x,σ,H1,I1,r1,q1⟩)
def tIfS (c:TT) (t u:TS):TS:=fun D σ H=>c σ H fun b H1=>if b = true then t D σ H1 else u D σ H1
theorem ps_if {c:Expr} {a b:List Stmt} {tc:TT} (hc:PT X c tc) (ha:PSs X a t) (hb:PSs X b u):PS X (.If c a b pos) (tIfS tc t u):=by
 intro pins s σ H D I h
 refine wpAny_If (thn (hc pins s σ H _ I h) fun d s1 ⟨H1,I1,q1⟩=>?_)
 cases d with
 | true=>exact ha pins s1 σ H1 D I1 q1
 | false=>exact hb pins s1 σ H1 D I1 q1
end
abbrev TG:=V→St→Hp→(St→Hp→Prop)→Prop
abbrev TGs:=List V→St→Hp→(St→Hp→Prop)→Prop
def PG (X:Cx) (target:Expr) (t:TG):Prop :=
 ∀ (pins:List (Addr × Obj)) (s:Shared) (σ:St) (H:Hp) (v:V) (u:Value) (Q:St→Hp→Prop),Inv X pins σ H s→RelV v u→t v σ H Q →
  wpAny (model X.prog X.w) X.A (assign target X.env u) (fun _ s'=>∃ σ' H',Inv X pins σ' H' s'∧Q σ' H') X.xe s
def PGs (X:Cx) (ts:List Expr) (t:TGs):Prop :=
 ∀ (pins:List (Addr × Obj)) (s:Shared) (σ:St) (H:Hp) (vs:List V) (us:List Value) (Q:St→Hp→Prop),Inv X pins σ H s→Vals vs us→t vs σ H Q →
  wpAny (model X.prog X.w) X.A (assignInOrder ((assignEach ts X.env).map (·.2)) us) (fun _ s'=>∃ σ' H',Inv X pins σ' H' s'∧Q σ' H') X.xe s
abbrev TSet:=V→V→V→Hp→(Hp→Prop)→Prop
def PSet (X:Cx) (t:TSet):Prop :=
 ∀ (pins:List (Addr × Obj)) (s:Shared) (σ:St) (H:Hp) (o i v:V) (ov iv u:Value) (Q:Hp→Prop),Inv X pins σ H s→RelV o ov→RelV i iv→RelV v u→t o i v H Q →
  wpAny (model X.prog X.w) X.A (setItem ov iv u) (fun _ s'=>∃ H',Inv X pins σ H' s'∧Q H') X.xe s
section
variable {X:Cx} {pos:Pos}
def gName (i:Nat):TG:=fun v σ H Q=>Q (σ.set i (some v)) H
theorem pg_name {i:Nat} {x:Str} (hN:X.N.Nodup) (hi:X.N[i]? = some x) (hx:Loc X.env.scope x) (hf:X.fn x = true∨X.env.scope.names.lookup x = some .local:=by first | exact .inl rfl | exact .inr rfl | assumption):PG X (.Name x pos) (gName i):=by
 intro pins s σ H v u Q I r h
 exact wpAny_assign_Name (store_ok I hN hi hx r (fun s' I'=>⟨_,H,I',h⟩) hf)
def gSub (to ti:TE) (t:TSet):TG:=fun v σ H Q=>to σ H fun o H1=>ti σ H1 fun i H2=>t o i v H2 fun H3=>Q σ H3
theorem pg_sub {o i:Expr} {to ti:TE} {t:TSet} (ho:PE X o to) (hi:PE X i ti) (hs:PSet X t)
  (ha:∀ v,assign (.Subscript o i pos) X.env v = (do
   let ov ← holding [v] (eval o X.env)
   let iv ← holding [v,ov] (eval i X.env)
   standAt pos
   holding [v,ov,iv] (setItem ov iv v)
   release [v,ov,iv] []):=by intro _; rfl):PG X (.Subscript o i pos) (gSub to ti t):=by
 intro pins s σ H v u Q I r h
 rw [ha]
 refine wpAny_bind (wpAny_holding (thn (ho pins s σ H _ I h) fun ov s1 ⟨x,H1,I1,r1,q1⟩=>?_))
 refine wpAny_bind (wpAny_holding (thn (hi pins s1 σ H1 _ I1 q1) fun iv s2 ⟨y,H2,I2,r2,q2⟩=>?_))
 refine wpAny_bind (wpAny_standAt (wpAny_bind (wpAny_holding (thn (hs pins s2 σ H2 x y v ov iv u _ I2 r1 r2 r q2) fun _ s3 ⟨H3,I3,q3⟩=>?_))))
 exact wpAny_release ⟨σ,H3,I3,q3⟩
def tAsg (te:TE) (g:TG):TS:=fun D σ H=>te σ H fun x H1=>g x σ H1 D.nx
theorem ps_asg {tg e:Expr} {te:TE} {g:TG} (he:PE X e te) (hg:PG X tg g) (hs:swapsWithSole [tg] e pos.line X.env = pure false:=by rfl) (hw:swappedStores [tg] e X.env = pure none:=by rfl)
  (h1:(assignEach [tg] X.env).map (·.2) = [assign tg X.env]:=by rfl):PS X (.Assign [tg] e pos) (tAsg te g):=by
 intro pins s σ H D I h
 refine wpAny_Assign_stores (thn (he pins s σ H _ I h) fun v s1 ⟨x,H1,I1,r1,q1⟩=>?_) hs hw
 rw [h1]
 exact thn (hg pins s1 σ H1 x v _ I1 r1 q1) fun _ s2 q=>q
theorem ps_set {i:Nat} {x:Str} {e:Expr} {te:TE} {pos':Pos} (hN:X.N.Nodup) (hi:X.N[i]? = some x) (hx:Loc X.env.scope x) (he:PE X e te) (hs:swapsWith e (some (.Name x pos')) pos.line X.env = pure false:=by rfl) (hf:X.fn x = true∨X.env.scope.names.lookup x = some .local:=by first | exact .inl rfl | exact .inr rfl | assumption) :
  PS X (.Assign [.Name x pos'] e pos) (tAsg te (gName i)):=by
 intro pins s σ H D I h
 refine wpAny_Assign_Name (thn (he pins s σ H _ I h) fun v s1 ⟨y,H1,I1,r1,q1⟩=>?_) hs
 exact store_ok I1 hN hi hx r1 (fun s2 I2=>⟨_,H1,I2,q1⟩) hf
def tPar (i j:Nat) (ta:TA):TS:=fun D σ H=>ta σ H fun vs H1=>∃ v w,vs = [v,w]∧D.nx ((σ.set i (some v)).set j (some w)) H1
theorem ps_par {i j:Nat} {x y:Str} {a b:Expr} {ta:TA} {px py pt:Pos} {kt k2 pt2} (hc:X.calm = true) (hN:X.N.Nodup) (hi:X.N[i]? = some x) (hj:X.N[j]? = some y) (hij:i≠j)
  (hx:X.env.scope.names.lookup x = some .local) (hy:X.env.scope.names.lookup y = some .local) (ha:PA X [a,b] ta)
  (hw:swappedStores [.Tuple [.Name x px,.Name y py] kt pt] (.Tuple [a,b] k2 pt2) X.env = pure (some [x,y]))
  (hs:swapsWithSole [.Tuple [.Name x px,.Name y py] kt pt] (.Tuple [a,b] k2 pt2) pos.line X.env = pure false:=by rfl) :
  PS X (.Assign [.Tuple [.Name x px,.Name y py] kt pt] (.Tuple [a,b] k2 pt2) pos) (tPar i j ta):=by
 intro pins s σ H D I h
 rw [exec_Assign_arm]
 refine wpAny_bind (wpAny_standAt ?_)
 rw [hs]
 refine wpAny_bind (wpAny_pure ?_)
 rw [if_neg (by decide)]
 refine wpAny_bind (Tuple_ (thn (ha _ pins s σ H _ I h) fun us s1 ⟨vs,H1,I1,r1,q1⟩=>?_))
 obtain ⟨v,w,e1,q1⟩:=q1
 subst e1
 obtain ⟨u1,u2,rfl,rv,rw'⟩:∃ u1 u2,us = [u1,u2]∧RelV v u1∧RelV w u2:=by
  cases r1 with
  | cons p q =>
   cases q with
   | cons p' q' =>
    cases q'
    exact ⟨_,_,rfl,p,p'⟩
 refine wpAny_newObj_type ?_ (by show 2≤sizeLine; decide)
 have I2:Inv X pins σ H1 { s1 with heap:=s1.heap.push { cls:=.type "tuple",data:=.seq [u1,u2].toArray } }:=I1.kept (t':=s1.toks) fun b o e=>Heap.get?_push_of_some _ e
 rw [hw]
 refine wpAny_bind (wpAny_pure ?_)
 show wpAny (model X.prog X.w) X.A (do rule "assign.swapped-stores"; let items ← unpackItems (.ref s1.heap.objs.size) 2 none; assignInOrder [fun v=>bindName X.env y v,fun v=>bindName X.env x v] items.reverse; pure Flow.next) _ _ _
 refine wpAny_bind (wpAny_rule (wpAny_bind (unpackItems_tuple (items:=#[u1,u2]) (I.ok.hd hc) (IsTup.new s1.heap _) fun h' hx'=>?_)))
 have I3:=I2.kept (h':=h') (t':=s1.toks) fun b o e=>hx' b o (Nat.ne_of_lt (Heap.lt_size e)) e
 show wpAny _ _ (assignInOrder [fun v=>bindName X.env y v,fun v=>bindName X.env x v] [u2,u1] >>= fun _=>pure Flow.next) _ _ _
 refine wpAny_bind (assignInOrder_cons (wpAny_bindName (store_ok I3 hN hj (.inl hy) rw' (fun s2 I4=>?_) (.inr hy))))
 refine assignInOrder_cons (wpAny_bindName (store_ok I4 hN hi (.inl hx) rv (fun s3 I5=>assignInOrder_nil (wpAny_pure ?_)) (.inr hx)))
 rw [List.set_comm _ _ (Ne.symm hij)] at I5
 exact ⟨_,H1,I5,q1⟩
end
section
variable {X:Cx} {pos:Pos}
def tWhile (c:TT) (tb:TS):TS:=fun D σ H=>∃ W:Nat→St→Hp→Prop,(∃ m,W m σ H)∧∀ m σ H,W m σ H →
 c σ H fun b H1=>if b = true then ∃ N:St→Hp→Prop,(∀ σ' H',N σ' H'→∃ m',m' < m∧W m' σ' H')∧tb { D with nx:=N,ct:=N,bk:=D.nx } σ H1 else D.nx σ H1
theorem ps_while {c:Expr} {body:List Stmt} {tc:TT} {tb:TS} (hp:PassesOwn (model X.prog X.w) X.A X.env X.xe) (hc:PT X c tc) (hb:PSs X body tb):PS X (.While c body [] pos) (tWhile tc tb):=by
 intro pins s σ H D I h
 obtain ⟨W,⟨m0,w0⟩,turn⟩:=h
 refine wpAny_While (codeAny_whileLoop (fun n s'=>∃ σ' H',Inv X pins σ' H' s'∧W n σ' H') ?_ m0 ⟨σ,H,I,w0⟩)
 rintro n s1 ⟨σ1,H1,I1,w1⟩
 refine wpAny_passesOwn hp (thn (hc pins s1 σ1 H1 _ I1 (turn n σ1 H1 w1)) fun b s2 ⟨H2,I2,q2⟩=>?_)
 cases b with
 | true =>
  obtain ⟨N,hN,q2⟩:=q2
  rw [if_pos rfl]
  refine wpAny_passesOwn hp (thn (hb pins s2 σ1 H2 _ I2 q2) fun f s3 q3=>?_)
  cases f with
  | next =>
   obtain ⟨σ3,H3,I3,n3⟩:=q3
   obtain ⟨m',hm,w3⟩:=hN σ3 H3 n3
   exact ⟨m',hm,σ3,H3,I3,w3⟩
  | cont =>
   obtain ⟨σ3,H3,I3,n3⟩:=q3
   obtain ⟨m',hm,w3⟩:=hN σ3 H3 n3
   exact ⟨m',hm,σ3,H3,I3,w3⟩
  | brk=>exact q3
  | ret v=>exact q3
 | false =>
  rw [if_neg Bool.false_ne_true]
  exact wpAny_execs_nil ⟨σ1,H2,I2,q2⟩
end
structure It where
 go:Nat→Hp→Prop
 yld:Nat→Hp→V→Hp→Prop
 stop:Nat→Hp→Prop
def FpOk (X:Cx) (pins:List (Addr × Obj)) (H:Hp) (b:Addr):Prop :=
 H b = none∧b≠X.env.locals∧b ∉ X.fs∧(b∈X.ex∨X.s₀.heap.objs.size≤b)∧(∀ x c,X.env.cells.lookup x = some c→c≠b)∧∀ p∈X.pn++pins,p.1≠b
theorem Inv.fpOk {X:Cx} {pins:List (Addr × Obj)} {σ:St} {H H':Hp} {s:Shared} {b:Addr} (I:Inv X pins σ H s) (hb:s.heap.objs.size≤b) (hn:H' b = none):FpOk X pins H' b:=by
 refine ⟨hn,Nat.ne_of_gt (Nat.lt_of_lt_of_le I.lt hb),I.nofs hb,.inr (Nat.le_trans I.sz hb),fun x c e z=>?_,fun p hp z=>?_⟩
 ·obtain ⟨v,q⟩:=I.cell x c e
  exact absurd (Nat.lt_of_lt_of_le q.lt (by rw [z]; exact hb)) (Nat.lt_irrefl _)
 ·exact absurd (Nat.lt_of_lt_of_le (Heap.lt_size (I.pin p hp).1) (by rw [z]; exact hb)) (Nat.lt_irrefl _)
structure Turn (P:Program) (w:World) (K:PySem.W.Frag) (tg:Expr) (J:It) (fp:List Addr) (it:Addr) (tn:Nat→Heap→Prop):Prop where
 mem:it∈fp
 obj:∀ i h,tn i h→∀ b∈fp,∃ o,h.get? b = some o∧∀ v,o.data≠.cell v
 keep:∀ i h h',tn i h→(∀ b∈fp,∀ o,h.get? b = some o→h'.get? b = some o)→tn i h'
 item:∀ (X:Cx),X.prog = P→X.w = w→X.K = K→X.calm = true→∀ (i:Nat) (pins:List (Addr × Obj)) (s:Shared) (σ:St) (H:Hp) (E:Value→Shared→Prop),Inv X pins σ H s→(∀ b∈fp,FpOk X pins H b)→tn i s.heap→J.go i H →
  wpAny (model P w) X.A (pyNext (.ref it)) (fun r s1=>∃ u,r = some u ∧
   wpAny (model P w) X.A (letOwnedTupleGo tg (.ref it) u) (fun _ s2=>∃ x H',Inv X pins σ H' s2∧RelV x u∧J.yld i H x H'∧tn (i + 1) s2.heap∧∀ b∈fp,H' b = none) E s1) E s
 done:∀ (X:Cx),X.prog = P→X.w = w→X.K = K→X.calm = true→∀ (i:Nat) (pins:List (Addr × Obj)) (s:Shared) (σ:St) (H:Hp) (E:Value→Shared→Prop),Inv X pins σ H s→(∀ b∈fp,FpOk X pins H b)→tn i s.heap→J.stop i H →
  wpAny (model P w) X.A (pyNext (.ref it)) (fun r s1=>r = none∧Inv X pins σ H s1) E s
 self:∀ (A:Around) (i:Nat) (s:Shared) (Q:Value→Shared→Prop) (E:Value→Shared→Prop),tn i s.heap→Q (.ref it) s→wpAny (model P w) A (pyIter (.ref it)) Q E s
abbrev TI:=St→Hp→(It→Hp→Prop)→Prop
def PIE (X:Cx) (pins:List (Addr × Obj)) (σ:St) (tg:Expr) (R:It→Hp→Prop) (itv:Value) (s2:Shared):Prop :=
 ∃ (it:Addr) (fp:List Addr) (tn:Nat→Heap→Prop) (J:It) (H':Hp),itv = .ref it∧Inv X pins σ H' s2∧Turn X.prog X.w X.K tg J fp it tn∧tn 0 s2.heap∧(∀ b∈fp,FpOk X pins H' b)∧R J H'
def PI (X:Cx) (tg iter:Expr) (wi:TI):Prop :=
 ∀ (pins:List (Addr × Obj)) (s:Shared) (σ:St) (H:Hp) (R:It→Hp→Prop),Inv X pins σ H s→wi σ H R →
  wpAny (model X.prog X.w) X.A (eval iter X.env) (fun v s1=>wpAny (model X.prog X.w) X.A (pyIter v) (PIE X pins σ tg R) X.xe s1) X.xe s
theorem go_of {M:Model} {A:Around} {E:Value→Shared→Prop} {s:Shared} {tg:Expr} {it:Addr} {u:Value} {o:Obj} {n:String} {vs:Array Value} {Q:Unit→Shared→Prop} (ho:s.heap.get? it = some o) (hc:o.cls = .type n) (hd:o.data = .fields vs)
  (hn:["enumerate","zip","dict_itemiterator","dict_reverseitemiterator","odict_iterator","itertools.zip_longest","itertools.pairwise"].contains n = false) (hQ:Q () s):wpAny M A (letOwnedTupleGo tg (.ref it) u) Q E s:=by
 unfold letOwnedTupleGo
 cases tg <;> first
  | exact wpAny_pure hQ
  | (cases u <;> first
    | exact wpAny_pure hQ
    | (refine wpAny_bind (wpAny_load ho ?_)
       rw [hc,hd]
       show wpAny M A (if (["enumerate","zip","dict_itemiterator","dict_reverseitemiterator","odict_iterator","itertools.zip_longest","itertools.pairwise"].contains n && vs[0]? == some (rawInt _)) = true then _ else _) Q E s
       rw [if_neg (by intro h; rw [hn,Bool.false_and] at h; cases h)]
       exact wpAny_pure hQ))
def Itl (K:PySem.W.Frag) (a:Addr):It :=
 ⟨fun i H=>∃ xs x,SqL K H a xs∧xs[i]? = some x,fun i H x H'=>H' = H∧∀ xs,SqL K H a xs→xs[i]? = some x,fun i H=>∃ xs,SqL K H a xs∧xs.length≤i⟩
def Itt (K:PySem.W.Frag) (a:Addr):It :=
 ⟨fun i H=>∃ xs x,SqT K H a xs∧xs[i]? = some x,fun i H x H'=>H' = H∧∀ xs,SqT K H a xs→xs[i]? = some x,fun i H=>∃ xs,SqT K H a xs∧xs.length≤i⟩
def Itr (lo:Int) (n:Nat):It:=⟨fun i _=>i < n,fun i H x H'=>H' = H∧x = .int (lo + i),fun i _=>n≤i⟩
theorem turn_list {P:Program} {w:World} {K:PySem.W.Frag} {tg:Expr} (a it:Addr):Turn P w K tg (Itl K a) [it] it (fun i h=>h.IsListIter it a i) where
 mem:=by simp
 obj:=fun i h st b hb=>by
  have e:b = it:=by simpa using hb
  subst e
  obtain ⟨o,e,c,d⟩:=st
  exact ⟨o,e,fun v z=>by rw [d] at z; cases z⟩
 keep:=fun i h h' st k=>st.at fun o e=>k it (by simp) o e
 item:=by
  intro X hP hw hK hc i pins s σ H E I hf st hg
  subst hP hw hK
  obtain ⟨xs,x,hq,hx⟩:=hg
  obtain ⟨its,rv,p,hz⟩:=I.list hq
  obtain ⟨u,hu,ru⟩:=rv.get hx
  obtain ⟨f0,f1,f2,f3,f4,f5⟩:=hf it (by simp)
  refine wpAny_pyNext_list_item st p.isList (x:=u) (by simpa using hu) fun h' st' sb=>?_
  have I1:Inv X pins σ H { s with heap:=h' }:=I.turned (t':=s.toks) (fun b o hb e=>(sb.2 b hb).trans e) f0 f1 f3 f4 f5
  obtain ⟨o,e,c,d⟩:=id st'
  exact ⟨u,rfl,go_of (s:={ s with heap:=h' }) e c d (by decide) ⟨x,H,I1,ru,⟨rfl,fun ys hy=>by rw [I.list_inj hy hq]; exact hx⟩,st',fun b hb=>(hf b hb).1⟩⟩
 done:=by
  intro X hP hw hK hc i pins s σ H E I hf st hg
  subst hP hw hK
  obtain ⟨xs,hq,hx⟩:=hg
  obtain ⟨its,rv,p,hz⟩:=I.list hq
  obtain ⟨f0,f1,f2,f3,f4,f5⟩:=hf it (by simp)
  have hl:=rv.length
  exact wpAny_pyNext_list_end (I.ok.hd hc) st p.isList (by simp; omega) fun h' eb=>⟨rfl,I.turned (t':=s.toks) (fun b o hb e=>eb b o hb e) f0 f1 f3 f4 f5⟩
 self:=fun _ _ _ _ _ st h=>wpAny_pyIter_listiter st h
theorem turn_tuple {P:Program} {w:World} {K:PySem.W.Frag} {tg:Expr} (a it:Addr):Turn P w K tg (Itt K a) [it] it (fun i h=>h.IsTupleIter it a i) where
 mem:=by simp
 obj:=fun i h st b hb=>by
  have e:b = it:=by simpa using hb
  subst e
  obtain ⟨o,e,c,d⟩:=st
  exact ⟨o,e,fun v z=>by rw [d] at z; cases z⟩
 keep:=fun i h h' st k=>st.at fun o e=>k it (by simp) o e
 item:=by
  intro X hP hw hK hc i pins s σ H E I hf st hg
  subst hP hw hK
  obtain ⟨xs,x,hq,hx⟩:=hg
  obtain ⟨its,rv,p,hz⟩:=I.tuple hq
  obtain ⟨u,hu,ru⟩:=rv.get hx
  obtain ⟨f0,f1,f2,f3,f4,f5⟩:=hf it (by simp)
  refine wpAny_pyNext_tuple_item st (show s.heap.IsTuple a its.toArray from p) (x:=u) (by simpa using hu) fun h' st' sb=>?_
  have I1:Inv X pins σ H { s with heap:=h' }:=I.turned (t':=s.toks) (fun b o hb e=>(sb.2 b hb).trans e) f0 f1 f3 f4 f5
  obtain ⟨o,e,c,d⟩:=id st'
  exact ⟨u,rfl,go_of (s:={ s with heap:=h' }) e c d (by decide) ⟨x,H,I1,ru,⟨rfl,fun ys hy=>by rw [I.tuple_inj hy hq]; exact hx⟩,st',fun b hb=>(hf b hb).1⟩⟩
 done:=by
  intro X hP hw hK hc i pins s σ H E I hf st hg
  subst hP hw hK
  obtain ⟨xs,hq,hx⟩:=hg
  obtain ⟨its,rv,p,hz⟩:=I.tuple hq
  obtain ⟨f0,f1,f2,f3,f4,f5⟩:=hf it (by simp)
  have hl:=rv.length
  exact wpAny_pyNext_tuple_end (I.ok.hd hc) st (show s.heap.IsTuple a its.toArray from p) (by simp; omega) fun h' eb=>⟨rfl,I.turned (t':=s.toks) (fun b o hb e=>eb b o hb e) f0 f1 f3 f4 f5⟩
 self:=fun _ _ _ _ _ st h=>wpAny_pyIter_tupleiter st h
theorem turn_range {P:Program} {w:World} {K:PySem.W.Frag} {tg:Expr} (it:Addr) (lo:Int) (n:Nat):Turn P w K tg (Itr lo n) [it] it (fun i h=>IsRangeIter h it (lo + (i:Nat) * 1) ((n:Int) - (i:Nat)) 1) where
 mem:=by simp
 obj:=fun i h st b hb=>by
  have e:b = it:=by simpa using hb
  subst e
  exact ⟨_,st,fun v z=>by
   have z':Data.fields _ = Data.cell v:=z
   cases z'⟩
 keep:=fun i h h' st k=>k it (by simp) _ st
 item:=by
  intro X hP hw hK hc i pins s σ H E I hf st hg
  subst hP hw hK
  obtain ⟨f0,f1,f2,f3,f4,f5⟩:=hf it (by simp)
  have W:=Walks.range (prog:=X.prog) (w:=X.w) (I.ok.hd hc) it lo 1 n
  refine W.item i s _ _ hg st fun v h' tk hv st' kk=>?_
  obtain ⟨t,rfl⟩:=hv
  have I1:Inv X pins σ H { s with heap:=h',toks:=tk }:=I.turned (fun b o hb e=>kk b o (by simpa using hb) e) f0 f1 f3 f4 f5
  refine ⟨_,rfl,go_of (s:={ s with heap:=h',toks:=tk }) (n:="range_iterator") st' rfl rfl (by decide) ⟨.int (lo + i),H,I1,⟨t,?_⟩,⟨rfl,rfl⟩,st',fun b hb=>(hf b hb).1⟩⟩
  rw [Int.mul_one]
 done:=by
  intro X hP hw hK hc i pins s σ H E I hf st hg
  subst hP hw hK
  obtain ⟨f0,f1,f2,f3,f4,f5⟩:=hf it (by simp)
  exact wpAny_pyNext_range_end (I.ok.hd hc) st (by have:n≤i:=hg; omega) fun h' eb=>⟨rfl,I.turned (t':=s.toks) (fun b o hb e=>eb b o hb e) f0 f1 f3 f4 f5⟩
 self:=fun _ _ _ _ _ st h=>wpAny_pyIter_rangeiter st h
end L2
namespace L2
open PySem PySem.Spec PyProof.Rows
section
variable {X:Cx} {tg:Expr}
def iList (K:PySem.W.Frag) (tl:TE):TI:=fun σ H R=>tl σ H fun x H1=>∃ a,x = .ref a∧(∃ xs,SqL K H1 a xs)∧R (Itl K a) H1
def iTup (K:PySem.W.Frag) (tl:TE):TI:=fun σ H R=>tl σ H fun x H1=>∃ a,x = .ref a∧(∃ xs,SqT K H1 a xs)∧R (Itt K a) H1
theorem pi_list {l:Expr} {tl:TE} (hl:PE X l tl):PI X tg l (iList X.K tl):=by
 intro pins s σ H R I h
 refine thn (hl pins s σ H _ I h) fun v s1 ⟨x,H1,I1,r1,q1⟩=>?_
 obtain ⟨a,e,⟨xs,hq⟩,q⟩:=q1
 subst e
 cases r1
 obtain ⟨its,rv,p,hz⟩:=I1.list hq
 refine wpAny_pyIter_list p.isList ?_
 refine ⟨s1.heap.objs.size,[s1.heap.objs.size],_,_,H1,rfl,I1.kept (t':=s1.toks) fun b o e=>Heap.get?_push_of_some _ e,turn_list a _,⟨_,Heap.get?_push_size _ rfl,rfl,rfl⟩,fun b hb=>?_,q⟩
 have e:b = s1.heap.objs.size:=by simpa using hb
 subst e
 exact I1.fpOk (Nat.le_refl _) (I1.hok.fresh (Nat.le_refl _))
theorem pi_tup {l:Expr} {tl:TE} (hl:PE X l tl):PI X tg l (iTup X.K tl):=by
 intro pins s σ H R I h
 refine thn (hl pins s σ H _ I h) fun v s1 ⟨x,H1,I1,r1,q1⟩=>?_
 obtain ⟨a,e,⟨xs,hq⟩,q⟩:=q1
 subst e
 cases r1
 obtain ⟨its,rv,p,hz⟩:=I1.tuple hq
 refine wpAny_pyIter_tuple (show s1.heap.IsTuple a its.toArray from p) ?_
 refine ⟨s1.heap.objs.size,[s1.heap.objs.size],_,_,H1,rfl,I1.kept (t':=s1.toks) fun b o e=>Heap.get?_push_of_some _ e,turn_tuple a _,⟨_,Heap.get?_push_size _ rfl,rfl,rfl⟩,fun b hb=>?_,q⟩
 have e:b = s1.heap.objs.size:=by simpa using hb
 subst e
 exact I1.fpOk (Nat.le_refl _) (I1.hok.fresh (Nat.le_refl _))
theorem range_it {pins:List (Addr × Obj)} {σ:St} {H:Hp} {s:Shared} {R:It→Hp→Prop} {E:Value→Shared→Prop} {lo hi:Int} {t u v:Tok} {tk:Nat} (I:Inv X pins σ H s) (h1:-(2 ^ 62)≤lo) (h2:lo < 2 ^ 62) (h3:-(2 ^ 62)≤hi) (h4:hi < 2 ^ 62)
  (q:R (Itr lo (hi - lo).toNat) H):wpAny (model X.prog X.w) X.A (pyIter (.ref s.heap.objs.size)) (PIE X pins σ tg R) E { s with heap:=s.heap.push { cls:=.type "range",data:=.fields #[.int lo t,.int hi u,.int 1 v] },toks:=tk }:=by
 refine wpAny_pyIter_range (IsRange.new ..) (small_one h1 h2 h3 h4) ?_
 have I1:Inv X pins σ H { s with heap:=s.heap.push { cls:=.type "range",data:=.fields #[.int lo t,.int hi u,.int 1 v] },toks:=tk }:=I.kept fun b o e=>Heap.get?_push_of_some _ e
 refine ⟨(s.heap.push { cls:=.type "range",data:=.fields #[.int lo t,.int hi u,.int 1 v] }).objs.size,[(s.heap.push { cls:=.type "range",data:=.fields #[.int lo t,.int hi u,.int 1 v] }).objs.size],_,_,H,rfl,
  I1.kept (t':=tk) fun b o e=>Heap.get?_push_of_some _ e,turn_range _ lo (hi - lo).toNat,?_,fun b hb=>?_,q⟩
 ·have e1:lo + ((0:Nat):Int) * 1 = lo:=by simp
  have e2:(((hi - lo).toNat:Nat):Int) - ((0:Nat):Int) = Builtin.Range.rangeSize lo hi 1:=by rw [rangeSize_one]; split <;> omega
  show IsRangeIter _ _ (lo + ((0:Nat):Int) * 1) ((((hi - lo).toNat:Nat):Int) - ((0:Nat):Int)) 1
  rw [e1,e2]
  exact Heap.get?_push_size _ rfl
 ·have e:b = (s.heap.push { cls:=.type "range",data:=.fields #[.int lo t,.int hi u,.int 1 v] }).objs.size:=by simpa using hb
  subst e
  exact I1.fpOk (Nat.le_refl _) (I1.hok.fresh (Nat.le_refl _))
def iRng1 (ta:TA):TI:=fun σ H R=>ta σ H fun vs H1=>∃ j:Int,vs = [.int j]∧-(2 ^ 62)≤j∧j < 2 ^ 62∧R (Itr 0 j.toNat) H1
theorem pi_range1 {a:Expr} {ta:TA} {p pos:Pos} (hg:Gl X "range") (hm:X.mg "range" = none) (ha:PA X [a] ta) (hs:starEach [a] X.env = [(false,eval a X.env)]:=by rfl):PI X tg (.Call (.Name "range" p) [a] [] pos) (iRng1 ta):=by
 intro pins s σ H R I h
 refine Call_ (ld_blt I hg hm boot_range (PyProof.Rows.callWith_type1 (thn (ha pos pins s σ H _ I h) fun us s1 ⟨vs,H1,I1,r1,q1⟩=>?_) hs rfl))
 obtain ⟨j,e,q1,q2,q⟩:=q1
 subst e
 cases r1 with
 | cons r rr =>
  cases rr
  obtain ⟨t,rfl⟩:=r
  exact call_range_1 (range_it I1 (by omega) (by omega) q1 q2 (by simpa using q))
def tFor (wi:TI) (g:TG) (tb:TS):TS:=fun D σ H=>wi σ H fun J H1=>∃ W:Nat→Nat→St→Hp→Prop,(∃ m,W 0 m σ H1)∧∀ i m σ H,W i m σ H →
 (J.stop i H∧D.nx σ H)∨(J.go i H∧∃ N:St→Hp→Prop,(∀ σ' H',N σ' H'→∃ m',m' < m∧W (i + 1) m' σ' H')∧∀ x H',J.yld i H x H'→g x σ H' fun σ2 H2=>tb { D with nx:=N,ct:=N,bk:=D.nx } σ2 H2)
def pinsAt (fp:List Addr) (h:Heap):List (Addr × Obj):=fp.filterMap fun b=>(h.get? b).map fun o=>(b,o)
theorem mem_pinsAt {fp:List Addr} {h:Heap} {b:Addr} {o:Obj} (hb:b∈fp) (e:h.get? b = some o):(b,o)∈pinsAt fp h:=List.mem_filterMap.mpr ⟨b,hb,by rw [e]; rfl⟩
theorem of_pinsAt {fp:List Addr} {h:Heap} {p:Addr × Obj} (hp:p∈pinsAt fp h):p.1∈fp∧h.get? p.1 = some p.2:=by
 obtain ⟨b,hb,e⟩:=List.mem_filterMap.mp hp
 cases q:h.get? b with
 | none=>rw [q] at e; cases e
 | some o =>
  rw [q] at e
  have e':(b,o) = p:=Option.some.inj e
  subst e'
  exact ⟨hb,q⟩
theorem Inv.pinned {pins:List (Addr × Obj)} {σ:St} {H:Hp} {s:Shared} {fp:List Addr} (I:Inv X pins σ H s) (hf:∀ b∈fp,FpOk X pins H b) (ho:∀ b∈fp,∃ o,s.heap.get? b = some o∧∀ v,o.data≠.cell v):Inv X (pins++pinsAt fp s.heap) σ H s :=
 I.pins_of fun p hp=>(List.mem_append.mp hp).elim (fun z=>I.pin p (List.mem_append_right _ z)) fun z=>by
  obtain ⟨hb,e⟩:=of_pinsAt z
  obtain ⟨f0,f1,f2,_⟩:=hf p.1 hb
  obtain ⟨o,e',d⟩:=ho p.1 hb
  rw [e] at e'; cases e'
  exact ⟨e,f0,f1,f2,d⟩
theorem Inv.unpinned {pins pl:List (Addr × Obj)} {σ:St} {H:Hp} {s:Shared} (I:Inv X (pins++pl) σ H s):Inv X pins σ H s:=I.pins_of fun p hp=>I.pin p (List.mem_append_right _ (List.mem_append_left _ hp))
theorem ps_for {iter:Expr} {body:List Stmt} {wi:TI} {g:TG} {tb:TS} {pos:Pos} (hp:PassesOwn (model X.prog X.w) X.A X.env X.xe) (hc:X.calm = true) (hi:PI X tg iter wi) (hg:PG X tg g) (hb:PSs X body tb)
  (hs:∀ x,foldedSetIterable iter X.env x = pure x:=by intro _; rfl):PS X (.For tg iter body [] pos) (tFor wi g tb):=by
 intro pins s σ H D I h
 refine wpAny_For (thn (hi pins s σ H _ I h) fun v s1 h1=>thn h1 fun itv s2 h2=>?_) hs
 obtain ⟨it,fp,tn,J,H2,e,I2,T,st2,f2,W,⟨m0,w0⟩,turn⟩:=h2
 subst e
 have stat:∀ {H':Hp},(∀ b∈fp,H' b = none)→∀ b∈fp,FpOk X pins H' b:=fun hn b hb=>⟨hn b hb,(f2 b hb).2⟩
 refine codeAny_forLoop_any (fun n s'=>∃ i σ' H',Inv X pins σ' H' s'∧tn i s'.heap∧(∀ b∈fp,H' b = none)∧W i n σ' H') ?_ m0 ⟨0,σ,H2,I2,st2,fun b hb=>(f2 b hb).1,w0⟩
 rintro n s3 ⟨i,σ3,H3,I3,st3,fr3,w3⟩
 rcases turn i n σ3 H3 w3 with ⟨stop,qn⟩ | ⟨go,N,hN,step⟩
 ·refine wpAny_passesOwn hp (thn (T.done X rfl rfl rfl hc i pins s3 σ3 H3 X.xe I3 (stat fr3) st3 stop) fun r s4 ⟨hr,I4⟩=>?_)
  subst hr
  exact wpAny_execs_nil ⟨σ3,H3,I4,qn⟩
 ·refine wpAny_passesOwn hp (thn (T.item X rfl rfl rfl hc i pins s3 σ3 H3 X.xe I3 (stat fr3) st3 go) fun r s4 ⟨u,hr,h4⟩=>?_)
  subst hr
  refine wpAny_passesOwn hp (thn h4 fun _ s5 ⟨x,H5,I5,r5,y5,st5,fr5⟩=>?_)
  have I5':=I5.pinned (stat fr5) (T.obj _ _ st5)
  refine wpAny_passesOwn hp (thn (hg _ s5 σ3 H5 x u _ I5' r5 (step x H5 y5)) fun _ s6 ⟨σ6,H6,I6,q6⟩=>?_)
  refine wpAny_passesOwn hp (thn (hb _ s6 σ6 H6 _ I6 q6) fun f s7 q7=>?_)
  have again:∀ {σ7:St} {H7:Hp},Inv X (pins++pinsAt fp s5.heap) σ7 H7 s7→N σ7 H7→∃ m,m < n∧∃ i σ' H',Inv X pins σ' H' s7∧tn i s7.heap∧(∀ b∈fp,H' b = none)∧W i m σ' H':=fun {σ7 H7} I7 n7=>by
   obtain ⟨m',hm,w7⟩:=hN σ7 H7 n7
   refine ⟨m',hm,i + 1,σ7,H7,I7.unpinned,T.keep _ _ _ st5 fun b hb o e=>(I7.pin (b,o) (List.mem_append_right _ (List.mem_append_right _ (mem_pinsAt hb e)))).1,fun b hb=>?_,w7⟩
   obtain ⟨o,e,d⟩:=T.obj _ _ st5 b hb
   exact (I7.pin (b,o) (List.mem_append_right _ (List.mem_append_right _ (mem_pinsAt hb e)))).2.1
  cases f with
  | next=>obtain ⟨σ7,H7,I7,n7⟩:=q7; exact again I7 n7
  | cont=>obtain ⟨σ7,H7,I7,n7⟩:=q7; exact again I7 n7
  | brk=>obtain ⟨σ7,H7,I7,q7⟩:=q7; exact ⟨σ7,H7,I7.unpinned,q7⟩
  | ret v=>obtain ⟨x7,σ7,H7,I7,r7,q7⟩:=q7; exact ⟨x7,σ7,H7,I7.unpinned,r7,q7⟩
end
end L2
namespace L2
open PySem PySem.Spec PyProof.Rows
abbrev R2:=V→V→Hp→VK→Prop
def OpR (X:Cx) (f:Value→Value→Sem Value) (r:R2):Prop :=
 ∀ (pins:List (Addr × Obj)) (s:Shared) (σ:St) (H:Hp) (x y:V) (v u:Value) (Q:VK),Inv X pins σ H s→RelV x v→RelV y u→r x y H Q →
  wpAny (model X.prog X.w) X.A (f v u) (EP X pins σ Q) X.xe s
def UnR (X:Cx) (f:Value→Sem Value) (r:V→Hp→VK→Prop):Prop :=
 ∀ (pins:List (Addr × Obj)) (s:Shared) (σ:St) (H:Hp) (x:V) (v:Value) (Q:VK),Inv X pins σ H s→RelV x v→r x H Q →
  wpAny (model X.prog X.w) X.A (f v) (EP X pins σ Q) X.xe s
def CallR (X:Cx) (f:Value) (r:List V→Hp→VK→Prop):Prop :=
 ∀ (pins:List (Addr × Obj)) (s:Shared) (σ:St) (H:Hp) (xs:List V) (us:List Value) (Q:VK),Inv X pins σ H s→Vals xs us→r xs H Q →
  wpAny (model X.prog X.w) X.A (call f us) (EP X pins σ Q) X.xe s
def tOp (r:R2) (ta tb:TE):TE:=fun σ H Q=>ta σ H fun x H1=>tb σ H1 fun y H2=>r x y H2 Q
def tUn (r:V→Hp→VK→Prop) (ta:TE):TE:=fun σ H Q=>ta σ H fun x H1=>r x H1 Q
def rI (C:Int→Int→Prop) (g:Int→Int→V):R2:=fun x y H Q=>∃ i j,x = .int i∧y = .int j∧C i j∧Q (g i j) H
def rI0 (g:Int→Int→V):R2:=fun x y H Q=>∃ i j,x = .int i∧y = .int j∧Q (g i j) H
def rU (g:Int→V):V→Hp→VK→Prop:=fun x H Q=>∃ i,x = .int i∧Q (g i) H
section
variable {X:Cx} {a b c:Expr} {ta tb tc:TE} {pos:Pos}
theorem binT (ha:PE X a ta) (hb:PE X b tb) {pins:List (Addr × Obj)} {s:Shared} {σ:St} {H:Hp} {R:V→V→Hp→Prop} (I:Inv X pins σ H s)
  (h:ta σ H fun x H1=>tb σ H1 fun y H2=>R x y H2) {Q:Value→Shared→Prop} {f:Value→Value→Sem Value}
  (hf:∀ v u s2 x y H2,Inv X pins σ H2 s2→RelV x v→RelV y u→R x y H2→wpAny (model X.prog X.w) X.A (f v u) Q X.xe s2) :
  wpAny (model X.prog X.w) X.A (eval a X.env) (fun v s₁=>wpAny (model X.prog X.w) X.A (eval b X.env) (fun u s₂=>wpAny (model X.prog X.w) X.A (f v u) Q X.xe s₂) X.xe s₁) X.xe s:=by
 refine thn (ha pins s σ H _ I h) fun v s1 ⟨x,H1,I1,r1,q1⟩=>?_
 refine thn (hb pins s1 σ H1 _ I1 q1) fun u s2 ⟨y,H2,I2,r2,q2⟩=>?_
 exact hf v u s2 x y H2 I2 r1 r2 q2
theorem pe_op {op:Operator} {r:R2} (ho:OpR X (binaryOp op) r) (ha:PE X a ta) (hb:PE X b tb):PE X (.BinOp a op b pos) (tOp r ta tb):=by
 intro pins s σ H Q I h
 exact wpAny_BinOp (binT ha hb I h fun v u s2 x y H2 I2 rx ry q=>ho pins s2 σ H2 x y v u Q I2 rx ry q)
theorem pe_un {op:UnaryOp} {r:V→Hp→VK→Prop} (ho:UnR X (unaryOp op) r) (ha:PE X a ta):PE X (.UnaryOp op a pos) (tUn r ta):=by
 intro pins s σ H Q I h
 exact UnaryOp_ (thn (ha pins s σ H _ I h) fun v s1 ⟨x,H1,I1,r1,q1⟩=>ho pins s1 σ H1 x v Q I1 r1 q1)
theorem opI {f:Value→Value→Sem Value} {C:Int→Int→Prop} {g:Int→Int→Int}
  (rule:∀ (i j:Int) (t u:Tok) (s:Shared) (Q:Value→Shared→Prop) (E:Value→Shared→Prop),C i j→Q (.int (g i j) s.toks) { s with toks:=s.toks + 1 }→wpAny (model X.prog X.w) X.A (f (.int i t) (.int j u)) Q E s) :
  OpR X f (rI C fun i j=>.int (g i j)):=by
 intro pins s σ H x y v u Q I rx ry h
 obtain ⟨i,j,rfl,rfl,hc,q⟩:=h
 obtain ⟨t,rfl⟩:=rx
 obtain ⟨t',rfl⟩:=ry
 exact rule i j t t' s _ _ hc ⟨.int (g i j),H,I.tok _,⟨_,rfl⟩,q⟩
theorem opI0 {f:Value→Value→Sem Value} {g:Int→Int→Int}
  (rule:∀ (i j:Int) (t u:Tok) (s:Shared) (Q:Value→Shared→Prop) (E:Value→Shared→Prop),Q (.int (g i j) s.toks) { s with toks:=s.toks + 1 }→wpAny (model X.prog X.w) X.A (f (.int i t) (.int j u)) Q E s) :
  OpR X f (rI0 fun i j=>.int (g i j)):=by
 intro pins s σ H x y v u Q I rx ry h
 obtain ⟨i,j,rfl,rfl,q⟩:=h
 obtain ⟨t,rfl⟩:=rx
 obtain ⟨t',rfl⟩:=ry
 exact rule i j t t' s _ _ ⟨.int (g i j),H,I.tok _,⟨_,rfl⟩,q⟩
theorem opB0 {f:Value→Value→Sem Value} {g:Int→Int→Bool}
  (rule:∀ (i j:Int) (t u:Tok) (s:Shared) (Q:Value→Shared→Prop) (E:Value→Shared→Prop),Q (.bool (g i j)) s→wpAny (model X.prog X.w) X.A (f (.int i t) (.int j u)) Q E s) :
  OpR X f (rI0 fun i j=>.bl (g i j)):=by
 intro pins s σ H x y v u Q I rx ry h
 obtain ⟨i,j,rfl,rfl,q⟩:=h
 obtain ⟨t,rfl⟩:=rx
 obtain ⟨t',rfl⟩:=ry
 exact rule i j t t' s _ _ ⟨.bl (g i j),H,I,rfl,q⟩
def CPow (i j:Int):Prop:=0≤j∧j≤1000000∧i.natAbs < 2 ^ 64
theorem op_add:OpR X (binaryOp .Add) (rI0 fun i j=>.int (i + j)):=opI0 fun _ _ _ _ _ _ _ q=>add_int q
theorem op_sub:OpR X (binaryOp .Sub) (rI0 fun i j=>.int (i - j)):=opI0 fun _ _ _ _ _ _ _ q=>sub_int q
theorem op_modN:OpR X (binaryOp .Mod) (rI (fun _ j=>j≠0) fun i j=>.int (i.fmod j)):=opI fun _ _ _ _ _ _ _ hc q=>mod_int' hc q
theorem op_pow:OpR X (binaryOp .Pow) (rI CPow fun i j=>.int (i ^ j.toNat)):=opI fun _ _ _ _ _ _ _ hc q=>pow_int_small hc.1 hc.2.1 hc.2.2 q
theorem unI {f:Value→Sem Value} {g:Int→Int}
  (rule:∀ (i:Int) (t:Tok) (s:Shared) (Q:Value→Shared→Prop) (E:Value→Shared→Prop),Q (.int (g i) s.toks) { s with toks:=s.toks + 1 }→wpAny (model X.prog X.w) X.A (f (.int i t)) Q E s) :
  UnR X f (rU fun i=>.int (g i)):=by
 intro pins s σ H x v Q I rx h
 obtain ⟨i,rfl,q⟩:=h
 obtain ⟨t,rfl⟩:=rx
 exact rule i t s _ _ ⟨.int (g i),H,I.tok _,⟨_,rfl⟩,q⟩
theorem un_neg:UnR X (unaryOp .USub) (rU fun i=>.int (-i)):=unI fun _ _ _ _ _ q=>neg_int q
end
section
variable {X:Cx} {a b c:Expr} {ta tb tc:TE} {pos:Pos}
theorem fin_bl {pins:List (Addr × Obj)} {σ:St} {H:Hp} {s:Shared} {Q:VK} {k k':Bool} (I:Inv X pins σ H s) (q:Q (.bl k) H) (e:k = k'):EP X pins σ Q (.bool k') s:=by
 subst e
 exact ⟨.bl k,H,I,rfl,q⟩
theorem op_lt:OpR X (compareOp .Lt) (rI0 fun i j=>.bl (decide (i < j))):=opB0 fun _ _ _ _ _ _ _ q=>lt_int q
theorem op_le:OpR X (compareOp .LtE) (rI0 fun i j=>.bl (decide (i≤j))):=opB0 fun _ _ _ _ _ _ _ q=>le_int q
theorem op_gt:OpR X (compareOp .Gt) (rI0 fun i j=>.bl (decide (j < i))):=opB0 fun _ _ _ _ _ _ _ q=>gt_int q
theorem op_in_str:OpR X (compareOp .In) (fun x y H Q=>∃ i j,x = .str i∧y = .str j∧Q (.bl (!(Builtin.Str.occurrences j i 0 j.length 1).isEmpty)) H):=by
 intro pins s σ H x y v u Q I rx ry h
 obtain ⟨i,j,rfl,rfl,q⟩:=h
 obtain ⟨t,rfl⟩:=rx
 obtain ⟨t',rfl⟩:=ry
 exact in_str (fin_bl I q rfl)
theorem op_isN:OpR X (compareOp .Is) (fun x y H Q=>y = .non∧Q (.bl (decide (x = .non))) H):=by
 intro pins s σ H x y v u Q I rx ry h
 obtain ⟨rfl,q⟩:=h
 cases ry
 refine is_none_gen (fin_bl I q ?_)
 cases x <;> first
  | (cases rx; rfl)
  | (obtain ⟨t,rfl⟩:=rx; rfl)
theorem op_notN:OpR X (compareOp .IsNot) (fun x y H Q=>y = .non∧Q (.bl (!decide (x = .non))) H):=by
 intro pins s σ H x y v u Q I rx ry h
 obtain ⟨rfl,q⟩:=h
 cases ry
 refine isnot_none_gen (fin_bl I q ?_)
 cases x <;> first
  | (cases rx; rfl)
  | (obtain ⟨t,rfl⟩:=rx; rfl)
theorem pe_cmpR {op:CmpOp} {r:R2} (ho:OpR X (compareOp op) r) (ha:PE X a ta) (hb:PE X b tb) (hm:behindInMarks op b = false):PE X (.Compare a [op] [b] pos) (tOp r ta tb):=by
 intro pins s σ H Q I h
 exact wpAny_Compare1 (binT ha hb I h fun v u s2 x y H2 I2 rx ry q=>ho pins s2 σ H2 x y v u Q I2 rx ry q) hm
def tTest (t:TE):TT:=fun σ H Q=>t σ H fun x H'=>∃ k,x = .bl k∧Q k H'
theorem pt_cmpR {op:CmpOp} {r:R2} (ho:OpR X (compareOp op) r) (ha:PE X a ta) (hb:PE X b tb) (hm:behindInMarks op b = false):PT X (.Compare a [op] [b] pos) (tTest (tOp r ta tb)):=by
 intro pins s σ H Q I h
 refine wpAny_isTrue_Compare1 (thn (ha pins s σ H _ I h) fun v s1 ⟨x,H1,I1,r1,q1⟩=>thn (hb pins s1 σ H1 _ I1 q1) fun u s2 ⟨y,H2,I2,r2,q2⟩ =>
  thn (ho pins s2 σ H2 x y v u _ I2 r1 r2 q2) fun c s3 ⟨z,H3,I3,r3,k,e,q3⟩=>?_) hm
 subst e
 cases r3
 exact wpAny_truthy_bool ⟨H3,I3,q3⟩
def tChain (r r':R2) (ta tb tc:TE):TE:=fun σ H Q=>ta σ H fun x H1=>tb σ H1 fun y H2=>r x y H2 fun z H3=>∃ k,z = .bl k ∧
 (if k = true then tc σ H3 fun w' H4=>r' y w' H4 Q else Q (.bl false) H3)
theorem pt_chain {op op':CmpOp} {r r':R2} (ho:OpR X (compareOp op) r) (ho':OpR X (compareOp op') r') (ha:PE X a ta) (hb:PE X b tb) (hc:PE X c tc)
  (hm:lastMarks [op,op'] [b,c] = false:=by with_unfolding_all rfl):PT X (.Compare a [op,op'] [b,c] pos) (tTest (tChain r r' ta tb tc)):=by
 intro pins s σ H Q I h
 refine isTrue_chain (thn (ha pins s σ H _ I h) fun v s1 ⟨x,H1,I1,r1,q1⟩=>test_link (thn (hb pins s1 σ H1 _ I1 q1) fun u s2 ⟨y,H2,I2,r2,q2⟩ =>
  thn (ho pins s2 σ H2 x y v u _ I2 r1 r2 q2) fun d s3 ⟨z,H3,I3,r3,k,e,q3⟩=>?_)) hm
 subst e
 cases r3
 refine wpAny_truthy_bool ?_
 cases k with
 | false =>
  obtain ⟨k',e',q'⟩:=q3
  cases e'
  exact ite_ff ⟨H3,I3,q'⟩
 | true =>
  refine ite_tt (test_last (thn (hc pins s3 σ H3 _ I3 q3) fun w' s4 ⟨z',H4,I4,r4,q4⟩=>thn (ho' pins s4 σ H4 y z' u w' _ I4 r2 r4 q4) fun d' s5 ⟨z2,H5,I5,r5,k2,e2,q5⟩=>?_))
  subst e2
  cases r5
  exact wpAny_truthy_bool ⟨H5,I5,q5⟩
theorem line63:(sizeLine:Nat) < 2 ^ 63:=by rw [sizeLine_eq]; decide
theorem op_add_str:OpR X (binaryOp .Add) (fun x y H Q=>∃ i j,x = .str i∧y = .str j∧i.length + j.length≤sizeLine∧Q (.str (i++j)) H):=by
 intro pins s σ H x y v u Q I rx ry h
 obtain ⟨i,j,rfl,rfl,hz,q⟩:=h
 obtain ⟨t,rfl⟩:=rx
 obtain ⟨t',rfl⟩:=ry
 exact add_str (fun t' tk=>⟨.str (i++j),H,I.tok _,⟨_,rfl⟩,q⟩) hz
theorem vals1 {x:V} {us:List Value} (r:Vals [x] us):∃ u,us = [u]∧RelV x u:=by
 cases r with
 | cons r1 r2=>cases r2; exact ⟨_,rfl,r1⟩
theorem vals2 {x y:V} {us:List Value} (r:Vals [x,y] us):∃ u w',us = [u,w']∧RelV x u∧RelV y w':=by
 cases r with
 | cons r1 r2 =>
  cases r2 with
  | cons r3 r4=>cases r4; exact ⟨_,_,rfl,r1,r3⟩
theorem call_abs:CallR X (.builtin "abs") (fun xs H Q=>∃ i,xs = [.int i]∧Q (.int (if i < 0 then -i else i)) H):=by
 intro pins s σ H xs us Q I r h
 obtain ⟨i,rfl,q⟩:=h
 obtain ⟨u,rfl,t,rfl⟩:=vals1 r
 exact call_abs_int fun u tk=>⟨.int (if i < 0 then -i else i),H,I.tok _,⟨_,rfl⟩,q⟩
theorem call_max2 (hc:X.calm = true):CallR X (.builtin "max") (fun xs H Q=>∃ i j,xs = [.int i,.int j]∧Q (.int (if j > i then j else i)) H):=by
 intro pins s σ H xs us Q I r h
 obtain ⟨i,j,rfl,q⟩:=h
 obtain ⟨u,w',rfl,⟨t,rfl⟩,⟨t',rfl⟩⟩:=vals2 r
 refine max_two_ints (I.ok.hd hc) fun h' tk k=>⟨_,H,I.kept k,?_,q⟩
 by_cases hj:j > i
 ·rw [if_pos hj,if_pos hj]; exact ⟨_,rfl⟩
 ·rw [if_neg hj,if_neg hj]; exact ⟨_,rfl⟩
theorem call_str_int:CallR X (.type "str") (fun xs H Q=>∃ i,xs = [.int i]∧i.natAbs.log2 < 1920∧Q (.str (toString i)) H):=by
 intro pins s σ H xs us Q I r h
 obtain ⟨i,rfl,hz,q⟩:=h
 obtain ⟨u,rfl,t,rfl⟩:=vals1 r
 exact PySem.P.str_of_int hz ⟨.str _,H,I.tok _,⟨_,rfl⟩,q⟩
theorem call_ord:CallR X (.builtin "ord") (fun xs H Q=>∃ x,xs = [.str x]∧x.length = 1∧Q (.int (x.cps.getD 0 0:Nat)) H):=by
 intro pins s σ H xs us Q I r h
 obtain ⟨x,rfl,hz,q⟩:=h
 obtain ⟨u,rfl,t,rfl⟩:=vals1 r
 exact ord_of_one hz ⟨.int _,H,I.tok _,⟨_,rfl⟩,q⟩
end
end L2
namespace L2
open PySem PySem.Spec PyProof.Rows
structure ObjM (h:Heap) (x dx C:Addr) (mA:Str→Option Value):Prop where
 obj:h.get? x = some (PySem.W.instObj C dx)
 ns:h.Ns1 dx mA
 ne:dx≠x
theorem lookIn_ns {h:Heap} {dx:Addr} {mA:Str→Option Value} (n:h.Ns1 dx mA):∃ od,h.get? dx = some od∧∀ name,PySem.W.lookIn name od = some (mA name):=by
 obtain ⟨o,es,ep,ho,hd,hk,_,hm⟩:=n
 refine ⟨o,ho,fun name=>?_⟩
 have e:=hm name
 unfold nsFind findBy at e
 rw [← Array.find?_toList] at e
 unfold PySem.W.lookIn
 rw [hd]
 dsimp only
 split
 ·rename_i y q
  rw [q] at e
  exact congrArg some e
 ·rename_i q
  rw [q] at e
  have a:es.toList.any (·.refKey) = false:=by
   rw [List.any_eq_false]
   intro y hy
   obtain ⟨z,t,hkey⟩:=hk y (Array.mem_toList_iff.mp hy)
   simp [DictEntry.refKey,hkey]
  have a':¬ es.toList.any (·.refKey) = true:=by rw [a]; exact Bool.false_ne_true
  rw [if_neg a']
  exact congrArg some e
theorem ObjM.look {h:Heap} {x dx C:Addr} {mA:Str→Option Value} (I:ObjM h x dx C mA):∃ od,PySem.W.InstAt h x (PySem.W.instObj C dx) C (some od)∧∀ name,PySem.W.lookIn name od = some (mA name) :=
 let ⟨od,ho,hl⟩:=lookIn_ns I.ns
 ⟨od,⟨I.obj,rfl,rfl,ho⟩,hl⟩
section
variable {prog:Program} {w:World} {A:Around} {E:Value→Shared→Prop} {s:Shared} {K:PySem.W.Frag} {x dx C f:Addr} {mA:Str→Option Value} {name:Str} {v:Value}
theorem make_map {R:Result→Shared→Prop} {vs:List Value} {kw:List (Str × Value)} (X:K.In s.heap) (hm:PySem.W.makesIn K C = true)
  (hi:PySem.W.findIn K (.ref C) "__init__" = some (some (.ref f))) (hf:PySem.W.typeIn K (.ref f) = some (.type "function"))
  (h:codeAny (model prog w) (A.under (.builtin "type.__call__" ⟨.ref C::vs,kw⟩)) (.call (.ref f) ⟨.ref (s.heap.objs.size + 1)::vs,kw⟩) (PySem.W.InitBack (s.heap.objs.size + 1) R)
   { s with heap:=(s.heap.push PySem.W.emptyDict).push (PySem.W.instObj C s.heap.objs.size) }) :
  codeAny (model prog w) A (.call (.ref C) ⟨vs,kw⟩) R s:=by
 obtain ⟨hh,g,d,t,os⟩:=s
 exact PySem.W.make_core (PySem.W.makes_of X hm) (PySem.W.looks_findIn X hi) (fun self=>PySem.W.bind_fn X self hf) (.inl rfl) h
end
section
variable {P:Program} {w:World} {H H':Hp} {h h':Heap} {a C dx:Addr} {fs fs':List (Str × V)}
theorem ins_get (hok:HOk P w H h) (e:H a = some (.ins C dx fs)):∃ mA,ObjM h a dx C mA∧(∀ f,RelO (fs.lookup f) (mA f))∧PySem.Within mA (fs.map (·.1))∧fs.length≤1000∧H dx = some (.own a):=by
 obtain ⟨d,z,ne,ob,mA,n,r,q⟩:=(show ObjOk P w H h a (.ins C dx fs) from hok a _ e)
 exact ⟨mA,⟨ob,n,ne⟩,r,q,z,d⟩
end
structure Cls (K:PySem.W.Frag) (C:Addr):Prop where
 pg:PySem.W.plainGet K C Str.empty = true
 hd:PySem.W.hasDictIn K C = true
 po:PySem.W.plainOver K C = true
 sa:PySem.W.findIn K (.ref C) "__setattr__" = some (some (.builtin "object.__setattr__"))
theorem Cls.get {K:PySem.W.Frag} {C:Addr} (c:Cls K C) (f:Str):PySem.W.plainGet K C f = true:=c.pg
def NoAttr (K:PySem.W.Frag) (C:Addr) (f:Str):Prop:=PySem.W.findIn K (.ref C) f = some none
structure Con (K:PySem.W.Frag) (C:Addr) (f:Str) (v:V) (u:Value):Prop where
 at_:PySem.W.findIn K (.ref C) f = some (some u)
 rel:RelV v u
 get:PySem.W.specialIn K u "__get__" = some none
 cp:PySem.W.copiedNames.contains f = false
structure Meth (K:PySem.W.Frag) (C:Addr) (m:Str) (f:Addr):Prop where
 at_:PySem.W.findIn K (.ref C) m = some (some (.ref f))
 fn:PySem.W.isFn K (.ref f) = true
 kp:PySem.W.keepIn K (.ref f) = true
section
variable {X:Cx} {pins:List (Addr × Obj)} {σ:St} {H:Hp} {s:Shared} {a C dx:Addr} {fs:List (Str × V)} {f:Str} {v:V} {A:Around} {E:Value→Shared→Prop}
theorem Inv.made (I:Inv X pins σ H s):Inv X pins σ (upd (upd H s.heap.objs.size (.own (s.heap.objs.size + 1))) (s.heap.objs.size + 1) (.ins C s.heap.objs.size []))
  { s with heap:=(s.heap.push PySem.W.emptyDict).push (PySem.W.instObj C s.heap.objs.size) }:=by
 have e1:(s.heap.push PySem.W.emptyDict).get? s.heap.objs.size = some PySem.W.emptyDict:=Heap.get?_push_size s.heap rfl
 have e2:((s.heap.push PySem.W.emptyDict).push (PySem.W.instObj C s.heap.objs.size)).get? (s.heap.objs.size + 1) = some (PySem.W.instObj C s.heap.objs.size):=by
  have:=Heap.get?_push_size (s.heap.push PySem.W.emptyDict) (o:=PySem.W.instObj C s.heap.objs.size) rfl
  rwa [Heap.size_push] at this
 have e3:(s.heap.push PySem.W.emptyDict).Ns s.heap.objs.size (fun _=>none):=⟨PySem.W.emptyDict,#[],_,e1,rfl,(fun e he=>absurd he (by simp)),fun _=>rfl⟩
 have I1:=I.laid (a:=s.heap.objs.size) (o:=.own (s.heap.objs.size + 1)) (h':=s.heap.push PySem.W.emptyDict) (t':=s.toks) (fun b u q=>Heap.get?_push_of_some _ q) (Nat.le_refl _) ⟨_,e1⟩
 refine I1.laid (a:=s.heap.objs.size + 1) (o:=.ins C s.heap.objs.size []) (t':=s.toks) (fun b u q=>Heap.get?_push_of_some _ q) (Nat.le_of_eq (Heap.size_push _ _)) ?_
 have ne:s.heap.objs.size≠s.heap.objs.size + 1:=Nat.ne_of_lt (Nat.lt_succ_self _)
 refine ⟨by rw [upd_ne ne,upd_same],Nat.zero_le _,ne,e2,fun _=>none,(Heap.Ns1.of_empty e3).at fun o q=>Heap.get?_push_of_some _ q,fun _=>True.intro,fun y hy=>absurd rfl hy⟩
end
def tFld (K:PySem.W.Frag) (ta:TE) (f:Str):TE:=fun σ H Q=>ta σ H fun x H1=>∃ a C dx fs v,x = .ref a∧H1 a = some (.ins C dx fs)∧Cls K C∧NoAttr K C f∧fs.lookup f = some v∧Q v H1
section
variable {X:Cx} {o e value:Expr} {f:Str} {pos pos' tpos:Pos} {ta tv:TE}
end
section
variable {X:Cx} {pins:List (Addr × Obj)} {σ:St} {H:Hp} {s:Shared} {A:Around} {E:Value→Shared→Prop} {Q:Value→Shared→Prop} {c:Value} {b:Bool}
inductive TyOf (K:PySem.W.Frag) (H:Hp):V→Value→Prop where
 | non:TyOf K H .non (.type "NoneType")
 | bl (x:Bool):TyOf K H (.bl x) (.type "bool")
 | int (i:Int):TyOf K H (.int i) (.type "int")
 | str (x:Str):TyOf K H (.str x) (.type "str")
 | flt (x:UInt64):TyOf K H (.flt x) (.type "float")
 | lst {a:Addr} {xs:List V} (e:H a = some (.lst xs)):TyOf K H (.ref a) (.type "list")
 | frz {a:Addr} {o:Obj} {xs:List V} (e:H a = some (.frz o (.lst xs))):TyOf K H (.ref a) (.type "list")
 | tup {a:Addr} {xs:List V} (e:H a = some (.tup xs)):TyOf K H (.ref a) (.type "tuple")
 | dK {a:Addr} {kvs:List (Key × V)} (e:H a = some (.dK kvs)):TyOf K H (.ref a) (.type "dict")
 | dT {a:Addr} {kvs:List (List Key × V)} (e:H a = some (.dT kvs)):TyOf K H (.ref a) (.type "dict")
 | ins {a C dx:Addr} {fs:List (Str × V)} (e:H a = some (.ins C dx fs)) (cl:Cls K C) (ha:PySem.W.findIn K (.ref C) "__class__" = some (some (.builtin "object.__class__")))
   (hn:PySem.W.specialIn K (.builtin "object.__class__") "__get__" = some (some (.builtin "getset_descriptor.__get__"))) (htk:PySem.W.takesIn K (.builtin "object.__class__") = some true)
   (hm:PySem.W.mroIn K C (.type "object") = some true):TyOf K H (.ref a) (.ref C)
theorem isinst_ok {x:V} {u t:Value} (I:Inv X pins σ H s) (rx:RelV x u) (ty:TyOf X.K H x t) (e:PySem.W.kitOne X.K t c = some b) (h:∀ tk,Q (.bool b) { s with toks:=tk }) :
  wpAny (model X.prog X.w) A (call (.builtin "isinstance") [u,c]) Q E s:=by
 cases ty with
 | non=>cases (show u = Value.none from rx); exact PySem.W.kia_one PySem.W.kitx_none I.kIn True.intro e (fun z=>nomatch z) h
 | bl y=>cases (show u = Value.bool y from rx); exact PySem.W.kia_one PySem.W.kitx_bool I.kIn True.intro e (fun z=>nomatch z) h
 | int i=>obtain ⟨t,q⟩:=(show ∃ t,u = Value.int i t from rx); cases q; exact PySem.W.kia_one PySem.W.kitx_int I.kIn True.intro e (fun z=>nomatch z) h
 | str y=>obtain ⟨t,q⟩:=(show ∃ t,u = Value.str y t from rx); cases q; exact PySem.W.kia_one PySem.W.kitx_str I.kIn True.intro e (fun z=>nomatch z) h
 | flt y=>obtain ⟨t,q⟩:=(show ∃ t,u = Value.float y t from rx); cases q; exact PySem.W.kia_one PySem.W.kitx_float I.kIn True.intro e (fun z=>nomatch z) h
 | @lst a xs ea =>
  cases (show u = Value.ref a from rx)
  obtain ⟨_,_,n,_,h1⟩:=(show ObjOk X.prog X.w H s.heap a (.lst xs) from I.hok a _ ea)
  exact PySem.W.kia_one PySem.W.kitx_list I.kIn ⟨_,h1,rfl⟩ e (fun z=>nomatch z) h
 | @frz a ob xs ea =>
  cases (show u = Value.ref a from rx)
  obtain ⟨_,_,_,n,_,h1⟩:=(show ObjOk X.prog X.w H s.heap a (.frz ob (.lst xs)) from I.hok a _ ea)
  exact PySem.W.kia_one PySem.W.kitx_list I.kIn ⟨_,h1,rfl⟩ e (fun z=>nomatch z) h
 | @tup a xs ea =>
  cases (show u = Value.ref a from rx)
  obtain ⟨_,_,_,p⟩:=(show ObjOk X.prog X.w H s.heap a (.tup xs) from I.hok a _ ea)
  obtain ⟨o,h1,h2,_⟩:=p
  exact PySem.W.kia_one PySem.W.kitx_tuple I.kIn ⟨o,h1,h2⟩ e (fun z=>nomatch z) h
 | @dK a kvs ea =>
  cases (show u = Value.ref a from rx)
  obtain ⟨_,_,vs,_,p⟩:=(show ObjOk X.prog X.w H s.heap a (.dK kvs) from I.hok a _ ea)
  obtain ⟨o,es,ep,h1,h2,_⟩:=p
  exact PySem.W.kia_one PySem.W.kitx_dict I.kIn ⟨o,h1,h2.1⟩ e (fun z=>nomatch z) h
 | @dT a kvs ea =>
  cases (show u = Value.ref a from rx)
  obtain ⟨_,_,xs,_,o,es,ep,h1,h2,_⟩:=(show ObjOk X.prog X.w H s.heap a (.dT kvs) from I.hok a _ ea)
  exact PySem.W.kia_one PySem.W.kitx_dict I.kIn ⟨o,h1,h2.1⟩ e (fun z=>nomatch z) h
 | @ins a C dx fs ea cl ha hn htk hm =>
  cases (show u = Value.ref a from rx)
  obtain ⟨mA,O,_⟩:=ins_get I.hok ea
  obtain ⟨od,J,_⟩:=O.look
  exact PySem.W.kia_one (PySem.W.kitx_own (cl.get _) cl.hd ha hn htk hm) I.kIn J e (fun z=>nomatch z) h
end
end L2
namespace L2
open PySem PySem.Spec PyProof.Rows
structure Room (k:Nat) (A:Around):Prop where
 hd:A.handled = none
 dp:A.depth + 3 * k + 5 < recursionLimit
 un:A.units + 16 * k + 200 < cLine
theorem Room.mono {j k:Nat} {A:Around} (r:Room k A) (h:j≤k):Room j A:=⟨r.hd,by have:=r.dp; omega,by have:=r.un; omega⟩
theorem Room.deeper {k:Nat} {A:Around} (r:Room (k + 1) A) (env:Env):Room k (A.deeper env) :=
 ⟨r.hd,by have:=r.dp; show A.depth + 1 + 3 * k + 5 < _; omega,by have:=r.un; show A.units + 3 + 16 * k + 200 < _; omega⟩
theorem Room.depth {k:Nat} {A:Around} (r:Room k A):A.depth < recursionLimit:=by have:=r.dp; omega
def tNil:TA:=fun _ H Q=>Q [] H
def tCons (ta:TE) (tr:TA):TA:=fun σ H Q=>ta σ H fun x H1=>tr σ H1 fun xs H2=>Q (x::xs) H2
section
variable {X:Cx} {e:Expr} {es:List Expr} {te:TE} {t:TA} {pos:Pos}
theorem pa_nil:PA X [] tNil:=fun _ _ _ _ H Q I h=>Calls.spliced_nil ⟨[],H,I,.nil,h⟩
theorem pa_cons (ha:PE X e te) (hr:PA X es t) (hs:starEach (e::es) X.env = (false,eval e X.env)::starEach es X.env:=by rfl):PA X (e::es) (tCons te t):=by
 intro pos pins s σ H Q I h
 rw [hs]
 show wpAny _ _ (spliced ((false,eval e X.env)::backTo pos (starEach es X.env))) _ _ s
 refine Calls.spliced_cons (thn (ha pins s σ H _ I h) fun u s1 ⟨x,H1,I1,r1,q1⟩=>?_)
 exact thn (hr pos pins s1 σ H1 _ I1 q1) fun us s2 ⟨xs,H2,I2,r2,q2⟩=>⟨x::xs,H2,I2,.cons r1 r2,q2⟩
def tTup (t:TA):TE:=fun σ H Q=>t σ H fun xs H1=>xs.length≤sizeLine∧∀ p,H1 p = none→Q (.ref p) (upd H1 p (.tup xs))
def tLst (t:TA):TE:=fun σ H Q=>t σ H fun xs H1=>xs.length≤sizeLine∧∀ p,H1 p = none→Q (.ref p) (upd H1 p (.lst xs))
theorem pe_tup {x1} (h:PA X es t):PE X (.Tuple es x1 pos) (tTup t):=by
 intro pins s σ H Q I hq
 refine wpAny_Tuple_spliced (thn (h pos pins s σ H _ I hq) fun us s1 ⟨xs,H1,I1,r,z,q⟩=>⟨by rw [← r.length]; exact z,?_⟩)
 have hf:H1 s1.heap.objs.size = none:=I1.hok.fresh (Nat.le_refl _)
 refine ⟨.ref s1.heap.objs.size,upd H1 s1.heap.objs.size (.tup xs),I1.laid (t':=s1.toks) (fun b u e=>Heap.get?_push_of_some _ e) (Nat.le_refl _) ?_,rfl,q _ hf⟩
 exact ⟨z,us,r,⟨_,Heap.get?_push_size _ rfl,rfl,_,rfl⟩⟩
theorem pe_lst (h:PA X es t):PE X (.List es pos) (tLst t):=by
 intro pins s σ H Q I hq
 refine wpAny_List_spliced (thn (h pos pins s σ H _ I hq) fun us s1 ⟨xs,H1,I1,r,z,q⟩=>⟨by rw [← r.length]; exact z,?_⟩)
 have hf:H1 s1.heap.objs.size = none:=I1.hok.fresh (Nat.le_refl _)
 refine ⟨.ref s1.heap.objs.size,upd H1 s1.heap.objs.size (.lst xs),I1.laid (t':=s1.toks) (fun b u e=>Heap.get?_push_of_some _ e) (Nat.le_refl _) ?_,rfl,q _ hf⟩
 exact ⟨z,us,0,r,Heap.get?_push_size _ rfl⟩
end
abbrev Sp:=List V→Hp→VK→XK→Prop
abbrev CXT:=List Env→Hp→Shared→XK→Value→Shared→Prop
structure Env0 (P:Program) (w:World) (K:PySem.W.Frag) (mg:Str→Option Value) (base:Heap) (A:Around) (outer:List Env) (s:Shared) (H:Hp):Prop where
 frames:A.frames = some outer
 mod:Mod K mg base
 bs:∀ b o,base.get? b = some o→s.heap.get? b = some o∧H b = none
 bsz:base.objs.size≤s.heap.objs.size
 funs:s.heap.FunFrames base outer
 frf:∀ b∈frs outer,H b = none
 hok:HOk P w H s.heap
 bare:AllBare s.gens
def CE (outer:List Env) (P:Program) (w:World) (H:Hp) (s:Shared) (Q:VK) (u:Value) (s':Shared):Prop :=
 ∃ v H',s'.os = s.os∧AllBare s'.gens∧Un (frs outer) [] H H' s.heap s'.heap∧HOk P w H' s'.heap∧RelV v u∧Q v H'
def CR (CX:CXT) (outer:List Env) (P:Program) (w:World) (H:Hp) (s:Shared) (Q:VK) (E:XK) (r:Result) (s':Shared):Prop :=
 match r with
 | .ok (.ret u)=>CE outer P w H s Q u s'
 | .ok _=>False
 | .error e=>CX outer H s E e s'
structure FnOk (P:Program) (w:World) (K:PySem.W.Frag) (mg:Str→Option Value) (base:Heap) (CX:CXT) (k:Nat) (f:Addr) (fd:FuncData) (ps:List Str) (sp:Sp):Prop where
 len:∀ vs H Q E,sp vs H Q E→vs.length = ps.length
 run:∀ (A:Around) (outer:List Env) (s:Shared) (H:Hp) (args:Args) (us:List Value) (vs:List V) (Q:VK) (E:XK),Room k A→Env0 P w K mg base A outer s H→BindsTo s fd args (ps.zip us)→Vals vs us→sp vs H Q E →
  codeAny (model P w) A (.call (.ref f) args) (CR CX outer P w H s Q E) s
section
variable {X:Cx} {pins:List (Addr × Obj)} {σ:St} {H:Hp} {s s':Shared}
theorem Inv.env0 (I:Inv X pins σ H s):Env0 X.prog X.w X.K X.mg X.base X.A X.stack s H :=
 ⟨I.ok.frames,I.ok.mod,I.bs,Nat.le_trans I.ok.bsz I.sz,I.stack,I.stkFree,I.hok,I.bare⟩
theorem Inv.after {Q:VK} {u:Value} (I:Inv X pins σ H s) (h:CE X.stack X.prog X.w H s Q u s'):EP X pins σ Q u s':=by
 obtain ⟨v,H',os,bare,un,hok,r,q⟩:=h
 obtain ⟨hh,g,d,t,os'⟩:=s'
 obtain rfl:os' = s.os:=os
 exact ⟨v,H',I.call (h':=hh) (g':=g) (d':=d) (t':=t) (ch:=[]) un hok bare (fun b z=>absurd z (by simp)),r,q⟩
end
def tCall (sp:Sp) (dvs:List V) (E:XK) (t:TA):TE:=fun σ H Q=>t σ H fun vs H1=>sp (vs++dvs) H1 Q E
def tMeth (C:Addr) (m:Str) (sp:Sp) (dvs:List V) (E:XK) (ta:TE) (t:TA):TE:=fun σ H Q=>ta σ H fun x H1=>∃ a dx fs,x = .ref a∧H1 a = some (.ins C dx fs)∧fs.lookup m = none ∧
 t σ H1 fun vs H2=>sp (x::(vs++dvs)) H2 Q E
def tMake (C:Addr) (sp:Sp) (dvs:List V) (E:XK) (t:TA):TE:=fun σ H Q=>t σ H fun vs H1=>∀ x dx,H1 x = none→H1 dx = none→dx≠x →
 sp (.ref x::(vs++dvs)) (upd (upd H1 dx (.own x)) x (.ins C dx [])) (fun v H2=>v = .non∧Q (.ref x) H2) E
def Binds (K:PySem.W.Frag) (fd:FuncData) (ps:List Str) (ds:List Value):Prop :=
 ∀ (s:Shared) (us:List Value),K.In s.heap→(us++ds).length = ps.length→BindsTo s fd ⟨us,[]⟩ (ps.zip (us++ds))
theorem Binds.all {K:PySem.W.Frag} {fd:FuncData} {ps:List Str} (h:∀ us:List Value,us.length = ps.length→bindArgs fd ⟨us,[]⟩ = pure (ps.zip us)):Binds K fd ps []:=fun s us _ hl=>by
 rw [List.append_nil] at hl ⊢
 exact .of_eq (h us hl)
def Passes (CX:CXT) (X:Cx) (E:XK):Prop:=∀ (pins:List (Addr × Obj)) (σ:St) (H:Hp) (s:Shared) (e:Value) (s':Shared),Inv X pins σ H s→CX X.stack H s E e s'→X.xe e s'
section
variable {X:Cx} {CX:CXT} {k:Nat} {f C:Addr} {fd:FuncData} {ps:List Str} {sp:Sp} {dvs:List V} {ds:List Value} {E:XK} {x m:Str} {p pos apos:Pos} {e o:Expr} {es:List Expr} {ta:TE} {t:TA}
theorem run_fn {pins:List (Addr × Obj)} {σ:St} {H:Hp} {s:Shared} {Q:VK} {us:List Value} {vs:List V} (F:FnOk X.prog X.w X.K X.mg X.base CX k f fd ps sp) (hr:Room k X.A) (hb:Binds X.K fd ps ds) (hd:Vals dvs ds) (hx:Passes CX X E)
  (I:Inv X pins σ H s) (r:Vals vs us) (h:sp (vs++dvs) H Q E):wpAny (model X.prog X.w) X.A (call (.ref f) us) (EP X pins σ Q) X.xe s:=by
 have r2:Vals (vs++dvs) (us++ds):=r.append hd
 have hl:(us++ds).length = ps.length:=by rw [← r2.length]; exact F.len _ _ _ _ h
 refine wpAny_call (codeAny_mono (F.run X.A X.stack s H ⟨us,[]⟩ (us++ds) (vs++dvs) Q E hr I.env0 (hb s us I.kIn hl) r2 h) fun r s' hq=>?_)
 cases r with
 | error e=>exact hx pins σ H s e s' I hq
 | ok fl =>
  cases fl with
  | ret u=>exact I.after hq
  | next=>exact False.elim hq
  | brk=>exact False.elim hq
  | cont=>exact False.elim hq
theorem pe_call (F:FnOk X.prog X.w X.K X.mg X.base CX k f fd ps sp) (hr:Room k X.A) (hg:Gl X x) (hm:X.mg x = some (.ref f)) (hk:PySem.W.keepIn X.K (.ref f) = true) (hb:Binds X.K fd ps ds) (hd:Vals dvs ds) (hx:Passes CX X E)
  (ha:PA X (e::es) t) (hdb:(x == ("__debug__":Str)) = false:=by decide) (he:starEach (e::es) X.env = (false,eval e X.env)::starEach es X.env:=by rfl) (hpl:(backTo pos (starEach es X.env)).any (·.1) = false:=by rfl) :
  PE X (.Call (.Name x p) (e::es) [] pos) (tCall sp dvs E t):=by
 intro pins s σ H Q I h
 refine wpAny_Call_Name_kw (ld_glob I hg hm ?_ hdb)
 refine PySem.W.callWith_K (h₀:=X.base) I.ok.mod.kin hk (thn (ha pos pins s σ H _ I h) fun us s1 ⟨vs,H1,I1,r,q⟩=>⟨I1.kIn,?_⟩) he hpl
 exact run_fn F hr hb hd hx I1 r q
structure Mk (K:PySem.W.Frag) (C f:Addr):Prop where
 makes:PySem.W.makesIn K C = true
 init:PySem.W.findIn K (.ref C) "__init__" = some (some (.ref f))
 fn:PySem.W.isFn K (.ref f) = true
 kp:PySem.W.keepIn K (.ref C) = true
end
section
variable {X:Cx} {CX:CXT} {k:Nat} {f C:Addr} {fd:FuncData} {ps ks:List Str} {sp:Sp} {E:XK} {x m:Str} {p pos apos kpos:Pos} {e o:Expr} {es:List Expr} {kws:List Keyword} {te ta:TE} {t tk:TA} {nm:Option Str}
structure KBinds (K:PySem.W.Frag) (fd:FuncData) (ps ks:List Str) (g:List Value→List Value→List Value) (gV:List V→List V→List V):Prop where
 to:∀ (s:Shared) (us ws:List Value),K.In s.heap→(g us ws).length = ps.length→BindsTo s fd ⟨us,ks.zip ws⟩ (ps.zip (g us ws))
 rel:∀ {vs:List V} {us:List Value} {zs:List V} {ws:List Value},Vals vs us→Vals zs ws→Vals (gV vs zs) (g us ws)
variable {g:List Value→List Value→List Value} {gV:List V→List V→List V}
end
structure FnScope (N P:List Str) (sc:Scope):Prop where
 kind:sc.kind = .function
 co:sc.isCoroutine = false
 gen:sc.isGenerator = false
 nd:N.Nodup
 pre:N.take P.length = P
 par:∀ x∈P,sc.names.lookup x = some .local∨sc.names.lookup x = some .cell
 nofree:∀ y∈sc.names,y.2≠.free
theorem bindL_out {kindOf:Str→Option NameKind} {x:Str}:∀ {binds:List (Str × Value)} {m:Str→Option Value},(∀ v,(x,v) ∉ binds)→bindL kindOf binds m x = m x
 | [],_,_=>rfl
 | (n,v)::r,m,h=>by
  unfold bindL
  rw [bindL_out fun w hw=>h w (List.mem_cons_of_mem _ hw)]
  split
  ·have:x≠n:=by rintro rfl; exact h v List.mem_cons_self
   simp [this]
  ·rfl
theorem bindC_out {kindOf:Str→Option NameKind} {x:Str}:∀ {binds:List (Str × Value)} {m:Str→Option Value},(∀ v,(x,v) ∉ binds)→bindC kindOf binds m x = m x
 | [],_,_=>rfl
 | (n,v)::r,m,h=>by
  unfold bindC
  rw [bindC_out fun w hw=>h w (List.mem_cons_of_mem _ hw)]
  split
  ·rfl
  ·have:x≠n:=by rintro rfl; exact h v List.mem_cons_self
   simp [this]
theorem bindL_get {kindOf:Str→Option NameKind} {x:Str} {v:Value}:∀ {P:List Str} {vs:List Value} {i:Nat} {m:Str→Option Value},P.Nodup→P[i]? = some x→vs[i]? = some v→kindOf x = some .local →
  bindL kindOf (P.zip vs) m x = some v
 | [],_,_,_,_,h,_,_=>by simp at h
 | _::_,[],_,_,_,_,h,_=>by simp at h
 | p::P,w::vs,0,m,nd,h1,h2,hk=>by
  simp at h1 h2; subst h1; subst h2
  show bindL kindOf ((p,w)::P.zip vs) m p = _
  unfold bindL
  rw [bindL_out fun v hv=>(List.nodup_cons.mp nd).1 (List.of_mem_zip hv).1,if_pos hk]
  simp
 | p::P,w::vs,i + 1,m,nd,h1,h2,hk=>by
  show bindL kindOf ((p,w)::P.zip vs) m x = _
  unfold bindL
  exact bindL_get (i:=i) (List.nodup_cons.mp nd).2 (by simpa using h1) (by simpa using h2) hk
theorem bindC_get {kindOf:Str→Option NameKind} {x:Str} {v:Value}:∀ {P:List Str} {vs:List Value} {i:Nat} {m:Str→Option Value},P.Nodup→P[i]? = some x→vs[i]? = some v→kindOf x≠some .local →
  bindC kindOf (P.zip vs) m x = some v
 | [],_,_,_,_,h,_,_=>by simp at h
 | _::_,[],_,_,_,_,h,_=>by simp at h
 | p::P,w::vs,0,m,nd,h1,h2,hk=>by
  simp at h1 h2; subst h1; subst h2
  show bindC kindOf ((p,w)::P.zip vs) m p = _
  unfold bindC
  rw [bindC_out fun v hv=>(List.nodup_cons.mp nd).1 (List.of_mem_zip hv).1,if_neg hk]
  simp
 | p::P,w::vs,i + 1,m,nd,h1,h2,hk=>by
  show bindC kindOf ((p,w)::P.zip vs) m x = _
  unfold bindC
  exact bindC_get (i:=i) (List.nodup_cons.mp nd).2 (by simpa using h1) (by simpa using h2) hk
def start (N:List Str) (vs:List V):St:=vs.map some++List.replicate (N.length - vs.length) none
def cxOf (CX:CXT) (P:Program) (w:World) (K:PySem.W.Frag) (mg:Str→Option Value) (base:Heap) (N:List Str) (qual:Str) (scope:Scope) (f:Addr) (cd:Value) (A:Around) (outer:List Env) (s:Shared) (H:Hp) (E:XK):Cx where
 prog:=P
 w:=w
 K:=K
 mg:=mg
 base:=base
 A:=A.deeper (envOfC qual scope s.heap.objs.size f cd)
 N:=N
 s₀:=s
 H₀:=H
 env:=envOfC qual scope s.heap.objs.size f cd
 outer:=outer
 stack:=envOfC qual scope s.heap.objs.size f cd::outer
 ex:=[]
 calm:=true
 fn:=fun _=>true
 pn:=[]
 xe:=fun e s'=>wpAny (model P w) (A.deeper (envOfC qual scope s.heap.objs.size f cd)) (leaving (envOfC qual scope s.heap.objs.size f cd) e) (fun _ s''=>CX outer H s E e s'') (fun e' s''=>CX outer H s E e' s'') s'
theorem cell_has {sc:Scope} {n:Nat} {x:Str} (h:sc.names.lookup x = some .cell):∃ c,(cellsFrom n sc.names []).lookup x = some c:=by
 have q:=PySem.W.cellsFrom_some sc.names n [] (.inl h)
 exact Option.isSome_iff_exists.mp q
theorem inv_start {CX:CXT} {P:Program} {w:World} {K:PySem.W.Frag} {mg:Str→Option Value} {base:Heap} {N ps:List Str} {qual:Str} {scope:Scope} {f:Addr} {cd:Value} {A:Around} {outer:List Env} {s s1:Shared} {H:Hp} {E:XK} {us:List Value} {vs:List V}
  (S:FnScope N ps scope) (hd:A.handled = none) (e0:Env0 P w K mg base A outer s H) (hl:vs.length = ps.length) (r:Vals vs us)
  (x:InCallC s s.heap.objs.size (bindL (envOfC qual scope s.heap.objs.size f cd).kindOf (ps.zip us) fun _=>none) (cellsFrom (s.heap.objs.size + 1) scope.names []) (bindC (envOfC qual scope s.heap.objs.size f cd).kindOf (ps.zip us) fun _=>none) s1) :
  Inv (cxOf CX P w K mg base N qual scope f cd A outer s H E) [] (start N vs) H s1:=by
 have hpl:ps.length≤N.length:=by have:=congrArg List.length S.pre; rw [List.length_take] at this; omega
 obtain ⟨h1,tk,rfl,hk⟩:=x.done
 have noA:∀ b:Addr,b ∉ (cxOf CX P w K mg base N qual scope f cd A outer s H E).ex:=fun b z=>absurd (show b∈([]:List Addr) from z) (by simp)
 refine ⟨⟨e0.mod,S.kind,rfl,rfl,Nat.le_refl _,fun y z c h1 h2=>?_,fun y hy=>?_,fun y c _ h=>?_,fun _=>hd,Around.frames_deeper e0.frames,.inr ⟨rfl,rfl⟩,fun b z=>absurd z (noA b),e0.bs,e0.bsz,fun b _ _=>noA b,fun b z=>absurd z (noA b),e0.funs,e0.frf⟩,
  rfl,e0.bare,Un.kept hk,⟨_,x.toInCall.ns,fun i y v h1 h2 h3=>?_⟩,fun y c h=>⟨_,x.cell y c h⟩,e0.hok.fresh (Nat.le_refl _),fun y c h=>?_,fun p hp=>absurd (show p∈([]:List (Addr × Obj)) from hp) (by simp),e0.hok.kept hk,?_⟩
 ·exact name_of_addr x.apart (PySem.mem_of_lookup h1) (PySem.mem_of_lookup h2)
 ·have hy:scope.names.lookup y = some .cell∨scope.names.lookup y = some .free:=hy
  rcases hy with hy | hy
  ·exact cell_has hy
  ·exact absurd rfl (S.nofree _ (PySem.mem_of_lookup hy))
 ·exact Nat.le_of_lt (x.above y c (PySem.mem_of_lookup h))
 ·have hi:i < vs.length:=by
   unfold start at h2
   by_cases hi:i < vs.length
   ·exact hi
   ·rw [List.getElem?_append_right (by simpa using hi)] at h2
    rw [List.getElem?_replicate] at h2
    split at h2 <;> cases h2
  have ha:vs[i]? = some v:=by
   unfold start at h2
   rw [List.getElem?_append_left (by simpa using hi),List.getElem?_map] at h2
   cases e:vs[i]? with
   | none=>rw [e] at h2; cases h2
   | some a=>rw [e] at h2; cases h2; rfl
  obtain ⟨u,hu,rv⟩:=r.get ha
  have hp:ps[i]? = some y:=by
   rw [← S.pre,List.getElem?_take_of_lt (by omega)]; exact h1
  have ndP:ps.Nodup:=by rw [← S.pre]; exact S.nd.sublist (List.take_sublist _ _)
  refine ⟨u,rv,?_⟩
  rcases S.par y (List.mem_of_getElem? hp) with k | k
  ·exact .inl ⟨k,bindL_get ndP hp hu k⟩
  ·obtain ⟨c,e⟩:=cell_has (n:=s.heap.objs.size + 1) k
   refine .inr ⟨.inl k,c,e,?_⟩
   have q:=x.cell y c e
   rw [bindC_get ndP hp hu (by show scope.names.lookup y≠_; rw [k]; decide)] at q
   exact q
 ·exact e0.hok.fresh (Nat.le_of_lt (x.above y c (PySem.mem_of_lookup h)))
 ·unfold start
  show _ = N.length
  rw [List.length_append,List.length_map,List.length_replicate]
  omega
theorem fn_of {CX:CXT} {P:Program} {w:World} {K:PySem.W.Frag} {mg:Str→Option Value} {base:Heap} {k:Nat} {f:Addr} {name qual:Str} {params:Arguments} {body:List Stmt} {scope:Scope} {dV kV doc pm cdv ct oc:Value} {an od:Option Addr}
  {osl:Array (Option Value)} {N ps:List Str} {sp:Sp} (lk:K.lookup f = some ⟨oc,od,.func (PySem.W.fnOf name qual params body scope dV kV doc pm an cdv ct),osl⟩) (hcd:PySem.W.codeIn K cdv qual = true) (S:FnScope N ps scope)
  (len:∀ vs H Q E,sp vs H Q E→vs.length = ps.length)
  (hbody:∀ (A:Around) (outer:List Env) (s:Shared) (H:Hp) (vs:List V) (Q:VK) (E:XK),Room k (A.deeper (envOfC qual scope s.heap.objs.size f cdv))→sp vs H Q E →
   ∃ t,PSs (cxOf CX P w K mg base N qual scope f cdv A outer s H E) body t∧t { nx:=fun _ H'=>Q .non H',rt:=Q } (start N vs) H) :
  FnOk P w K mg base CX (k + 1) f (PySem.W.fnOf name qual params body scope dV kV doc pm an cdv ct) ps sp:=by
 refine ⟨len,fun A outer s H args us vs Q E hr e0 hb r hsp=>?_⟩
 have hl:=len _ _ _ _ hsp
 have KX:K.In s.heap:=e0.mod.kin.keeps fun b o e=>(e0.bs b o e).1
 have lim:s.heap.NoLimit:=e0.mod.nolimit.keeps fun b o e=>(e0.bs b o e).1
 have hkind:∀ y∈ps.zip us,scope.names.lookup y.1 = some .local∨(scope.names.lookup y.1 = some .cell∧((cellsFrom (s.heap.objs.size + 1) scope.names []).lookup y.1).isSome = true):=fun ⟨n,v⟩ hy=>by
  rcases S.par n (List.of_mem_zip hy).1 with q | q
  ·exact .inl q
  ·exact .inr ⟨q,PySem.W.cellsFrom_some _ _ _ (.inl q)⟩
 refine codeAny_call_function hr.depth (KX _ _ lk) rfl S.co S.gen rfl (PySem.W.codeRec_of KX hcd) (hb _ _ _ _ ?_)
 refine wpAny_newFunctionEnv_cells S.kind hkind fun env he s1 x=>?_
 subst he
 refine ⟨lim.keeps x.toInCall.keep,codeAny_func ?_⟩
 obtain ⟨t,ht,hq⟩:=hbody A outer s H vs Q E (hr.deeper _) hsp
 have I:Inv (cxOf CX P w K mg base N qual scope f cdv A outer s H E) [] (start N vs) H s1:=inv_start S hr.hd e0 hl r x
 refine wpAny_mono (ht [] s1 (start N vs) H _ I hq) (fun fl s' hs=>?_) fun e s' hs=>hs
 have fin:∀ {σ':St} {H':Hp} {v:V} {u:Value},Inv (cxOf CX P w K mg base N qual scope f cdv A outer s H E) [] σ' H' s'→RelV v u→Q v H'→CE outer P w H s Q u s' :=
  fun {σ' H' v u} J rv q=>⟨v,H',J.os,J.bare,J.base,J.hok,rv,q⟩
 cases fl with
 | ret u =>
  obtain ⟨v,σ',H',J,rv,q⟩:=hs
  exact fin J rv q
 | next =>
  obtain ⟨σ',H',J,q⟩:=hs
  exact fin (v:=V.non) (u:=Value.none) J rfl q
 | brk =>
  obtain ⟨_,_,_,q⟩:=hs
  exact False.elim q
 | cont =>
  obtain ⟨_,_,_,q⟩:=hs
  exact False.elim q
end L2
namespace L2
open PySem PySem.Spec PyProof.Rows
section
variable {X:Cx} {x:Str} {p pos:Pos} {e:Expr} {es:List Expr} {t:TA} {id T:String} {r:List V→Hp→VK→Prop}
def tCB (r:List V→Hp→VK→Prop) (t:TA):TE:=fun σ H Q=>t σ H fun vs H1=>r vs H1 Q
theorem pe_callB (hc:CallR X (.builtin id) r) (hg:Gl X x) (hm:X.mg x = none) (hv:bootBuiltins x = some (.builtin id)) (ha:PA X (e::es) t) (hn:x≠"__name__":=by decide) (hdb:(x == ("__debug__":Str)) = false:=by decide)
  (he:starEach (e::es) X.env = (false,eval e X.env)::starEach es X.env:=by rfl) (hpl:(backTo pos (starEach es X.env)).any (·.1) = false:=by rfl):PE X (.Call (.Name x p) (e::es) [] pos) (tCB r t):=by
 intro pins s σ H Q I h
 refine wpAny_Call_Name_kw (ld_blt I hg hm hv ?_ hn hdb)
 exact PyProof.Rows.callWith_builtin1 (thn (ha pos pins s σ H _ I h) fun us s1 ⟨vs,H1,I1,r1,q1⟩=>hc pins s1 σ H1 vs us Q I1 r1 q1) he hpl
theorem pe_callTy (hc:CallR X (.type T) r) (hg:Gl X x) (hm:X.mg x = none) (hv:bootBuiltins x = some (.type T)) (ha:PA X (e::es) t) (hn:x≠"__name__":=by decide) (hdb:(x == ("__debug__":Str)) = false:=by decide)
  (he:starEach (e::es) X.env = (false,eval e X.env)::starEach es X.env:=by rfl) (hpl:(backTo pos (starEach es X.env)).any (·.1) = false:=by rfl):PE X (.Call (.Name x p) (e::es) [] pos) (tCB r t):=by
 intro pins s σ H Q I h
 refine wpAny_Call_Name_kw (ld_blt I hg hm hv ?_ hn hdb)
 exact PyProof.Rows.callWith_type1 (thn (ha pos pins s σ H _ I h) fun us s1 ⟨vs,H1,I1,r1,q1⟩=>hc pins s1 σ H1 vs us Q I1 r1 q1) he hpl
end
end L2
namespace HT
open PySem PyProof.Rows
section
open PySem.SeqAt
open PySem.AutoSeq1 (wpAny_loadPart')
open PySem.MeetsSeq PySem.MeetsSeq2 PySem.MeetsSeq3
end
section
variable {prog:Program} {w:World} {A:Around} {E:Value→Shared→Prop} {s:Shared}
def sIx (n d:Nat):Option Int→Nat
 | none=>d
 | some v=>if v < 0 then (v + (n:Int)).toNat else min v.toNat n
theorem sIx_none (n d:Nat):sIx n d none = d:=rfl
theorem sIx_le (n d:Nat) (hd:d≤n) (o:Option Int):sIx n d o≤n:=by
 cases o with
 | none=>exact hd
 | some v =>
  show (if v < 0 then (v + (n:Int)).toNat else min v.toNat n)≤n
  by_cases hv:v < 0
  ·rw [if_pos hv]; omega
  ·rw [if_neg hv]; exact Nat.min_le_right _ _
theorem clip_eq (v:Int) (n d:Nat):(if v < 0 then max (v + (n:Int)) 0 else min v (n:Int)) = ((sIx n d (some v):Nat):Int):=by
 show (if v < 0 then max (v + (n:Int)) 0 else min v (n:Int)) = (((if v < 0 then (v + (n:Int)).toNat else min v.toNat n):Nat):Int)
 by_cases hv:v < 0
 ·simp only [if_pos hv]; omega
 ·simp only [if_neg hv]; omega
theorem adjust_gen (lo hi:Option Int) (n:Nat):Builtin.Slice.sliceAdjust lo hi 1 (n:Int) = (((sIx n 0 lo:Nat):Int),((sIx n n hi:Nat):Int)):=by
 have h1:¬ ((1:Int) < 0):=by omega
 unfold Builtin.Slice.sliceAdjust
 simp only [h1,if_false]
 refine Prod.ext ?_ ?_
 ·cases lo with
  | none=>rfl
  | some v=>exact clip_eq v n 0
 ·cases hi with
  | none=>rfl
  | some v=>exact clip_eq v n n
theorem places_gen (i j:Nat):Builtin.Slice.slicePlaces (i:Int) (j:Int) 1 = j - i:=by
 unfold Builtin.Slice.slicePlaces
 have h1:(1:Int) > 0:=by omega
 simp only [h1,if_true,Int.ediv_one]
 split <;> omega
theorem slicePart_ {v:Value} {o:Option Int} {Q:Option Int→Shared→Prop} (p:IsPart v o) (h:Q o s):wpAny (model prog w) A (Builtin.Slice.slicePartIndex v) Q E s:=by
 cases p with
 | none=>exact slicePart_none h
 | int i t=>exact slicePart_int h
theorem sliceApplied_gen {sl:Addr} {vl vu:Value} {lo hi:Option Int} {n:Nat} {Q:Int × Int × Nat→Shared→Prop} (hs:s.heap.IsSliceOf sl vl vu .none) (pl:IsPart vl lo) (pu:IsPart vu hi)
  (h:Q (((sIx n 0 lo:Nat):Int),1,sIx n n hi - sIx n 0 lo) s):wpAny (model prog w) A (Builtin.Slice.sliceApplied (.ref sl) (pure (n:Int))) Q E s:=by
 obtain ⟨os,hos,hcs,hds⟩:=id hs
 unfold Builtin.Slice.sliceApplied Builtin.Slice.sliceFields
 refine wpAny_bind (wpAny_bind (wpAny_field hos hds (x:=vl) rfl (wpAny_bind (wpAny_field hos hds (x:=vu) rfl (wpAny_bind (wpAny_field hos hds (x:=.none) rfl (wpAny_pure ?_)))))))
 refine wpAny_bind (slicePart_none ?_)
 show wpAny _ _ (if ((1:Int) == 0) = true then _ else _) _ _ s
 rw [if_neg (by decide)]
 refine wpAny_bind (slicePart_ pl (wpAny_bind (slicePart_ pu (wpAny_bind (wpAny_pure ?_)))))
 show wpAny _ _ (match Builtin.Slice.sliceAdjust lo hi 1 (n:Int) with | (lo,hi)=>pure (lo,(1:Int),Builtin.Slice.slicePlaces lo hi 1)) _ _ s
 rw [adjust_gen lo hi n]
 show wpAny _ _ (pure (((sIx n 0 lo:Nat):Int),(1:Int),Builtin.Slice.slicePlaces ((sIx n 0 lo:Nat):Int) ((sIx n n hi:Nat):Int) 1)) _ _ s
 rw [places_gen]
 exact wpAny_pure h
theorem pick_gen (xs:Array Value) (i k:Nat):((List.range k).filterMap fun (m:Nat)=>xs[((i:Int) + (m:Int) * 1).toNat]?).toArray = ((xs.toList.drop i).take k).toArray:=by
 have e:(fun (m:Nat)=>xs[((i:Int) + (m:Int) * 1).toNat]?) = fun m=>xs[i + m]?:=by
  funext m
  have:((i:Int) + (m:Int) * 1).toNat = i + m:=by omega
  rw [this]
 rw [e]
 have:=pick_run xs i k
 rw [List.filterMap_map] at this
 have e2:((fun x=>xs[x]?) ∘ fun x=>i + x) = fun m=>xs[i + m]?:=rfl
 rw [e2] at this
 rw [this]
theorem getItem_tuple_cut {t sl:Addr} {items:Array Value} {vl vu:Value} {lo hi:Option Int} {Q:Value→Shared→Prop} (ht:IsTup s.heap t items) (hs:s.heap.IsSliceOf sl vl vu .none) (pl:IsPart vl lo) (pu:IsPart vu hi)
  (hw:¬ (sIx items.size 0 lo = 0∧sIx items.size items.size hi = items.size))
  (h:Q (.ref s.heap.objs.size) { s with heap:=s.heap.push { cls:=.type "tuple",data:=.seq ((items.toList.drop (sIx items.size 0 lo)).take (sIx items.size items.size hi - sIx items.size 0 lo)).toArray } })
  (hsz:items.size≤sizeLine):wpAny (model prog w) A (getItem (.ref t) (.ref sl)) Q E s:=by
 have htake:sizeOk (.seq ((items.toList.drop (sIx items.size 0 lo)).take (sIx items.size items.size hi - sIx items.size 0 lo)).toArray):=by
  show ((items.toList.drop (sIx items.size 0 lo)).take (sIx items.size items.size hi - sIx items.size 0 lo)).toArray.size≤sizeLine
  rw [List.size_toArray,List.length_take,List.length_drop,Array.length_toList]
  omega
 have hj:sIx items.size items.size hi≤items.size:=sIx_le _ _ (Nat.le_refl _) hi
 obtain ⟨os,hos,hcs,hds⟩:=id hs
 have hTs:s.TypeIs (.ref sl) "slice":=⟨os,hos,hcs⟩
 unfold getItem
 try with_reducible refine wpAny_holding ?_
 first | refine wpAny_bind (wpAny_pure ?_) | skip
 refine wpAny_bind (wpAny_sequenceKey ht.typeIs (by decide) ?_)
 refine wpAny_bind (wpAny_callSpecial?_slot (name:=Str.ofString "__getitem__") ht.typeIs PyProof.Rows.slot_tuple_getitem
  (wpAny_call_entry PyProof.Rows.slot_tuple_getitem ht.typeIs entry_tuple_getitem ?_ (args_tuple_getitem _ _)))
 show wpAny _ _ (Builtin.Tuple.tupleItemsOf (.ref t) >>= _) _ _ s
 refine wpAny_bind (tupleItemsOf_ ht ?_)
 refine wpAny_bind (wpAny_typeOf hTs ?_)
 rw [if_pos (by decide)]
 refine wpAny_bind (sliceApplied_gen hs pl pu ?_)
 have hno:¬ ((((sIx items.size 0 lo:Nat):Int) == 0 && (1:Int) == 1 && (sIx items.size items.size hi - sIx items.size 0 lo) == items.size) = true):=by
  intro q
  rw [Bool.and_eq_true,Bool.and_eq_true] at q
  have q1:((sIx items.size 0 lo:Nat):Int) = 0:=eq_of_beq q.1.1
  have q2:sIx items.size items.size hi - sIx items.size 0 lo = items.size:=eq_of_beq q.2
  exact hw ⟨by omega,by omega⟩
 show wpAny _ _ (if (((sIx items.size 0 lo:Nat):Int) == 0 && (1:Int) == 1 && (sIx items.size items.size hi - sIx items.size 0 lo) == items.size) = true then _ else _) _ _ s
 rw [if_neg hno,pick_gen]
 first
  | exact wpAny_bind (m:=Builtin.Tuple.tupleExact _) (wpAny_newObj_type (wpAny_pure ⟨_,rfl,wpAny_pure h⟩) htake)
  | exact wpAny_bind (m:=Builtin.Tuple.tupleExact _) (wpAny_newObj_type (wpAny_bind (wpAny_pure (wpAny_pure ⟨_,rfl,wpAny_pure h⟩))) htake)
  | exact wpAny_bind (wpAny_bind (m:=Builtin.Tuple.tupleExact _) (wpAny_newObj_type (wpAny_pure (wpAny_pure ⟨_,rfl,wpAny_pure h⟩)) htake))
  | exact wpAny_bind (wpAny_bind (m:=Builtin.Tuple.tupleExact _) (wpAny_newObj_type (wpAny_pure ⟨_,rfl,wpAny_pure h⟩) htake))
end
end HT
namespace L2
open PySem PySem.Spec PyProof.Rows
abbrev TO:=St→Hp→(Option Int→Hp→Prop)→Prop
def PO (X:Cx) (e:Option Expr) (t:TO):Prop :=
 ∀ (pins:List (Addr × Obj)) (s:Shared) (σ:St) (H:Hp) (Q:Option Int→Hp→Prop),Inv X pins σ H s→t σ H Q →
  wpAny (model X.prog X.w) X.A (evalPart e X.env) (fun u s'=>∃ o H',Inv X pins σ H' s'∧IsPart u o∧Q o H') X.xe s
def tNoPart:TO:=fun _ H Q=>Q none H
def tPart (t:TE):TO:=fun σ H Q=>t σ H fun x H1=>∃ i,x = .int i∧Q (some i) H1
section
variable {X:Cx} {e:Expr} {te:TE} {lo hi:Option Expr} {tl th:TO} {pos p2:Pos}
theorem po_none:PO X none tNoPart:=by
 intro pins s σ H Q I h
 rw [evalPart_none]
 exact wpAny_pure ⟨none,H,I,.none,h⟩
theorem po_some (h:PE X e te):PO X (some e) (tPart te):=by
 intro pins s σ H Q I hw
 rw [evalPart_some]
 refine thn (h pins s σ H _ I hw) fun u s1 ⟨x,H1,I1,r1,q1⟩=>?_
 obtain ⟨i,rfl,q⟩:=q1
 obtain ⟨t,rfl⟩:=r1
 exact ⟨some i,H1,I1,.int i t,q⟩
def SlR (X:Cx) (r:V→Option Int→Option Int→Hp→VK→Prop):Prop :=
 ∀ (pins:List (Addr × Obj)) (s:Shared) (σ:St) (H:Hp) (x:V) (v vl vu:Value) (lo hi:Option Int) (sl:Addr) (Q:VK),Inv X pins σ H s→RelV x v→s.heap.IsSliceOf sl vl vu .none→IsPart vl lo→IsPart vu hi→r x lo hi H Q →
  ∃ T id,typeLookup (.type T) "__getitem__" = pure (some (.builtin id))∧s.TypeIs v T∧wpAny (model X.prog X.w) X.A (getItem v (.ref sl)) (EP X pins σ Q) X.xe s
theorem SlR.or {r r':V→Option Int→Option Int→Hp→VK→Prop} (h:SlR X r) (h':SlR X r'):SlR X (fun x lo hi H Q=>r x lo hi H Q∨r' x lo hi H Q):=by
 intro pins s σ H x v vl vu lo hi sl Q I rx hs pl pu q
 rcases q with q | q
 ·exact h pins s σ H x v vl vu lo hi sl Q I rx hs pl pu q
 ·exact h' pins s σ H x v vl vu lo hi sl Q I rx hs pl pu q
def tSl (r:V→Option Int→Option Int→Hp→VK→Prop) (te:TE) (tl th:TO):TE:=fun σ H Q=>te σ H fun x H1=>tl σ H1 fun l H2=>th σ H2 fun u H3=>r x l u H3 Q
theorem pe_slice {r:V→Option Int→Option Int→Hp→VK→Prop} (hr:SlR X r) (he:PE X e te) (hl:PO X lo tl) (hu:PO X hi th):PE X (.Subscript e (.Slice lo hi none p2) pos) (tSl r te tl th):=by
 intro pins s σ H Q I h
 refine Subscript_ (thn (he pins s σ H _ I h) fun v s1 ⟨x,H1,I1,r1,q1⟩=>?_)
 refine wpAny_Slice (thn (hl pins s1 σ H1 _ I1 q1) fun vl s2 ⟨l,H2,I2,pl,q2⟩=>thn (hu pins s2 σ H2 _ I2 q2) fun vu s3 ⟨u,H3,I3,pu,q3⟩=>?_)
 rw [evalPart_none]
 refine wpAny_pure ?_
 have I4:Inv X pins σ H3 { s3 with heap:=s3.heap.push { cls:=.type "slice",data:=.fields #[vl,vu,.none] } }:=I3.kept (t':=s3.toks) fun b ob q=>Heap.get?_push_of_some _ q
 obtain ⟨T,id,hT,ht,hg⟩:=hr pins { s3 with heap:=s3.heap.push { cls:=.type "slice",data:=.fields #[vl,vu,.none] } } σ H3 x v vl vu l u s3.heap.objs.size Q I4 r1 (Heap.IsSliceOf.new ..) pl pu q3
 show wpAny (model X.prog X.w) X.A (subscriptTail e (.Slice lo hi none p2) v (.ref s3.heap.objs.size)) (EP X pins σ Q) X.xe { s3 with heap:=s3.heap.push { cls:=.type "slice",data:=.fields #[vl,vu,.none] } }
 exact tail_any (ops:=[.ref s3.heap.objs.size,v]) ht hT hg (by with_unfolding_all rfl)
def cutV (xs:List V) (lo hi:Option Int):List V:=(xs.drop (HT.sIx xs.length 0 lo)).take (HT.sIx xs.length xs.length hi - HT.sIx xs.length 0 lo)
theorem cutV_length (xs:List V) (lo hi:Option Int):(cutV xs lo hi).length≤xs.length:=by
 unfold cutV
 rw [List.length_take,List.length_drop]
 omega
def rSlT (K:PySem.W.Frag):V→Option Int→Option Int→Hp→VK→Prop:=fun x lo hi H Q=>∃ a xs,x = .ref a∧SqT K H a xs ∧
 ¬ (HT.sIx xs.length 0 lo = 0∧HT.sIx xs.length xs.length hi = xs.length)∧∀ p,H p = none→Q (.ref p) (upd H p (.tup (cutV xs lo hi)))
theorem sl_tup:SlR X (rSlT X.K):=by
 intro pins s σ H x v vl vu lo hi sl Q I rx hs pl pu h
 obtain ⟨a,xs,rfl,hx,hw,q⟩:=h
 cases rx
 obtain ⟨its,r,ht,hz⟩:=I.tuple hx
 have hlen:its.toArray.size = xs.length:=by rw [List.size_toArray]; exact r.length.symm
 refine ⟨"tuple",_,PyProof.Rows.slot_tuple_getitem.lookup,ht.typeIs,?_⟩
 refine HT.getItem_tuple_cut ht hs pl pu (by rw [hlen]; exact hw) ?_ (by rw [hlen]; exact hz)
 rw [hlen]
 refine ⟨.ref s.heap.objs.size,_,I.laid (t':=s.toks) (o:=.tup (cutV xs lo hi)) (fun b ob q=>Heap.get?_push_of_some _ q) (Nat.le_refl _) ?_,rfl,q _ (I.hok.fresh (Nat.le_refl _))⟩
 exact ⟨Nat.le_trans (cutV_length xs lo hi) hz,_,(r.drop (HT.sIx xs.length 0 lo)).take (HT.sIx xs.length xs.length hi - HT.sIx xs.length 0 lo),IsTup.new _ _⟩
end
end L2
namespace L2
open PySem PySem.Spec PyProof.Rows
def ixN (n:Nat) (i:Int):Option Nat:=if 0≤i then (if i < n then some i.toNat else none) else if -(n:Int)≤i then some (i + n).toNat else none
def atI {α:Type} (xs:List α) (i:Int):Option α:=(ixN xs.length i).bind fun j=>xs[j]?
theorem ixN_seq {n:Nat} {i:Int} {j:Nat} (h:ixN n i = some j):seqIndex? i n = some j∧j < n∧-(n:Int)≤i∧i < n:=by
 unfold ixN at h
 by_cases h0:0≤i
 ·rw [if_pos h0] at h
  by_cases h1:i < n
  ·rw [if_pos h1] at h
   have e:i.toNat = j:=Option.some.inj h
   exact ⟨by rw [seqIndex_of h0 h1,e],by omega,by omega,h1⟩
  ·rw [if_neg h1] at h; cases h
 ·rw [if_neg h0] at h
  by_cases h1:-(n:Int)≤i
  ·rw [if_pos h1] at h
   have e:(i + n).toNat = j:=Option.some.inj h
   exact ⟨by rw [seqIndex_neg (by omega) h1,e],by omega,h1,by omega⟩
  ·rw [if_neg h1] at h; cases h
theorem atI_get {α:Type} {xs:List α} {i:Int} {v:α} (h:atI xs i = some v):∃ j,seqIndex? i xs.length = some j∧xs[j]? = some v∧j < xs.length∧-(xs.length:Int)≤i∧i < xs.length:=by
 unfold atI at h
 cases e:ixN xs.length i with
 | none=>rw [e] at h; cases h
 | some j =>
  rw [e] at h
  obtain ⟨h1,h2,h3,h4⟩:=ixN_seq e
  exact ⟨j,h1,h,h2,h3,h4⟩
theorem atI_nat {α:Type} {xs:List α} {j:Nat} {v:α} (h:xs[j]? = some v):atI xs (j:Int) = some v:=by
 have hj:j < xs.length:=(List.getElem?_eq_some_iff.mp h).1
 have e:ixN xs.length (j:Int) = some j:=by
  unfold ixN
  rw [if_pos (by omega),if_pos (by omega)]; simp
 unfold atI; rw [e]; exact h
def PlainIx (b:Expr):Prop:=∀ o i,subscripted b false o i = operate [o,i] (getItem o i)
def IxR (X:Cx) (r:R2):Prop :=
 ∀ (value slice:Expr) (pins:List (Addr × Obj)) (s:Shared) (σ:St) (H:Hp) (x y:V) (v u:Value) (Q:VK),Inv X pins σ H s→RelV x v→RelV y u→r x y H Q →
  subscripted slice false v u = operate [v,u] (getItem v u)→wpAny (model X.prog X.w) X.A (subscriptTail value slice v u) (EP X pins σ Q) X.xe s
def MtR (X:Cx) (id:String) (r:V→List V→Hp→VK→Prop):Prop :=
 ∀ (pins:List (Addr × Obj)) (s:Shared) (σ:St) (H:Hp) (x:V) (xs:List V) (v:Value) (us:List Value) (Q:VK),Inv X pins σ H s→RelV x v→Vals xs us→r x xs H Q →
  wpAny (model X.prog X.w) X.A (call (.builtin id) (v::us)) (EP X pins σ Q) X.xe s
section
variable {X:Cx} {a b:Expr} {ta tb:TE} {pos:Pos}
theorem IxR.or {r r':R2} (h:IxR X r) (h':IxR X r'):IxR X (fun x y H Q=>r x y H Q∨r' x y H Q):=by
 intro value slice pins s σ H x y v u Q I rx ry q hs
 rcases q with q | q
 ·exact h value slice pins s σ H x y v u Q I rx ry q hs
 ·exact h' value slice pins s σ H x y v u Q I rx ry q hs
theorem pe_ix {r:R2} (hr:IxR X r) (ha:PE X a ta) (hb:PE X b tb) (hs:PlainIx b):PE X (.Subscript a b pos) (tOp r ta tb):=by
 intro pins s σ H Q I h
 exact Subscript_ (binT ha hb I h fun v u s2 x y H2 I2 rx ry q=>hr a b pins s2 σ H2 x y v u Q I2 rx ry q (hs _ _))
def rIxL (K:PySem.W.Frag):R2:=fun x y H Q=>∃ p xs i v,x = .ref p∧y = .int i∧SqL K H p xs∧atI xs i = some v∧Q v H
def rIxT (K:PySem.W.Frag):R2:=fun x y H Q=>∃ p xs i v,x = .ref p∧y = .int i∧SqT K H p xs∧atI xs i = some v∧Q v H
def rIxS:R2:=fun x y H Q=>∃ z i c,x = .str z∧y = .int i∧z.length≤sizeLine∧atI z.cps.toList i = some c∧Q (.str ⟨#[c]⟩) H
theorem ix_list:IxR X (rIxL X.K):=by
 intro value slice pins s σ H x y v u Q I rx ry h hs
 obtain ⟨p,xs,i,z,rfl,rfl,hq,he,q⟩:=h
 cases rx
 obtain ⟨t,rfl⟩:=ry
 obtain ⟨its,r,pl,hz⟩:=I.list hq
 obtain ⟨j,h1,h2,h3,h4,h5⟩:=atI_get he
 obtain ⟨w,ew,rw'⟩:=r.get h2
 have hl:=r.length
 have hn:=line63
 have fin:EP X pins σ Q w s:=⟨z,H,I,rw',q⟩
 by_cases h0:0≤i
 ·have hj:i.toNat = j:=by
   rw [seqIndex_of h0 h5] at h1
   exact Option.some.inj h1
  exact item_listR pl.isList h0 (by omega) (by rw [hj]; simpa using ew) fin hs
 ·have hj:(i + (its.toArray.size:Int)).toNat = j:=by
   rw [seqIndex_neg (by omega) h4] at h1
   rw [List.size_toArray,← hl]
   exact Option.some.inj h1
  exact subscriptTail_builtinR (x:=w) pl.isList.typeIs slot_list_getitem.lookup
   (wpAny_getItem_list_neg (Q:=fun r s'=>r = w∧EP X pins σ Q r s') pl.isList (by omega) (by rw [List.size_toArray] <;> omega) (by omega) (by rw [hj]; simpa using ew) ⟨rfl,fin⟩) hs
theorem ix_tup:IxR X (rIxT X.K):=by
 intro value slice pins s σ H x y v u Q I rx ry h hs
 obtain ⟨p,xs,i,z,rfl,rfl,hq,he,q⟩:=h
 cases rx
 obtain ⟨t,rfl⟩:=ry
 obtain ⟨its,r,pl,hz⟩:=I.tuple hq
 obtain ⟨j,h1,h2,h3,h4,h5⟩:=atI_get he
 obtain ⟨w,ew,rw'⟩:=r.get h2
 have hl:=r.length
 have hn:=line63
 have fin:EP X pins σ Q w s:=⟨z,H,I,rw',q⟩
 exact subscriptTail_builtinR (x:=w) pl.typeIs slot_tuple_getitem.lookup
  (getItem_tuple (j:=j) (Q:=fun r s'=>r = w∧EP X pins σ Q r s') pl (by omega) (by omega) (by rw [List.size_toArray,← hl]; exact h1) (by simpa using ew) ⟨rfl,fin⟩) hs
theorem ix_str:IxR X rIxS:=by
 intro value slice pins s σ H x y v u Q I rx ry h hs
 obtain ⟨z,i,c,rfl,rfl,hz,he,q⟩:=h
 obtain ⟨t,rfl⟩:=rx
 obtain ⟨t',rfl⟩:=ry
 obtain ⟨j,h1,h2,h3,h4,h5⟩:=atI_get he
 have hl:z.cps.toList.length = z.length:=by simp [Str.length]
 rw [hl] at h1 h4 h5
 have hn:=line63
 exact tail_any (typeIs_str s z t) slot_str_getitem.lookup (getItem_str (c:=c) (by
  have e1:decide (i < -(2 ^ 63:Int)) = false:=decide_eq_false (by omega)
  have e2:decide (i ≥ 2 ^ 63) = false:=decide_eq_false (by omega)
  rw [e1,e2,Bool.or_false]) (by rw [h1]; simpa using h2) ⟨.str ⟨#[c]⟩,H,I.tok _,⟨_,rfl⟩,q⟩) hs
def rIx (K:PySem.W.Frag):R2:=fun x y H Q=>rIxL K x y H Q∨rIxT K x y H Q∨rIxS x y H Q
theorem ix_seq:IxR X (rIx X.K):=ix_list.or (ix_tup.or ix_str)
theorem mapSeq_set (its:List Value) (n j:Nat) (u:Value):Obj.mapSeq (·.setIfInBounds j u) { cls:=.type "list",data:=.seq its.toArray n } = { cls:=.type "list",data:=.seq (its.set j u).toArray n }:=by
 simp [Obj.mapSeq]
theorem Inv.lst {pins:List (Addr × Obj)} {σ:St} {H:Hp} {s:Shared} {p:Addr} {xs:List V} (I:Inv X pins σ H s) (h:H p = some (.lst xs)) :
  ∃ (its:List Value) (n:Nat),Vals xs its∧s.heap.get? p = some { cls:=.type "list",data:=.seq its.toArray n }∧xs.length≤sizeLine:=by
 obtain ⟨z,its,n,r,e⟩:=I.hok p _ h
 exact ⟨its,n,r,e,z⟩
theorem Inv.lstUpd {pins:List (Addr × Obj)} {σ:St} {H:Hp} {s:Shared} {p:Addr} {xs ys:List V} {its its':List Value} {n n':Nat} {f:Obj→Obj} (I:Inv X pins σ H s) (h:H p = some (.lst xs))
  (ho:s.heap.get? p = some { cls:=.type "list",data:=.seq its.toArray n }) (hf:f { cls:=.type "list",data:=.seq its.toArray n } = { cls:=.type "list",data:=.seq its'.toArray n' }) (r:Vals ys its') (hz:ys.length≤sizeLine) (t:Nat) :
  Inv X pins σ (upd H p (.lst ys)) { s with heap:=s.heap.update p f,toks:=t }:=by
 have e:(s.heap.update p f).get? p = some { cls:=.type "list",data:=.seq its'.toArray n' }:=by
  rw [Heap.get?_update_self f ho (by rw [hf] <;> rfl),hf]
 refine I.write (x:=p) (e:=p) (by rw [h]; trivial) (.inl rfl) (fun b u hb q=>(Heap.get?_update_other _ _ (Ne.symm hb)).trans q) ⟨_,e⟩ ?_
 exact ⟨hz,its',n',r,e⟩
def rSetL:V→V→V→Hp→(Hp→Prop)→Prop:=fun o i v H Q=>∃ p xs k j,o = .ref p∧i = .int k∧H p = some (.lst xs)∧ixN xs.length k = some j∧Q (upd H p (.lst (xs.set j v)))
theorem set_list:PSet X rSetL:=by
 intro pins s σ H o i v ov iv u Q I ro ri rv h
 obtain ⟨p,xs,k,j,rfl,rfl,hp,hj,q⟩:=h
 cases ro
 obtain ⟨t,rfl⟩:=ri
 obtain ⟨its,n,r,ho,hz⟩:=I.lst hp
 obtain ⟨h1,h2,h3,h4⟩:=ixN_seq hj
 have hl:=r.length
 have hn:=line63
 have I':Inv X pins σ (upd H p (.lst (xs.set j v))) { s with heap:=s.heap.update p (Obj.mapSeq (·.setIfInBounds j u)) } :=
  I.lstUpd hp ho (mapSeq_set its n j u) (r.set rv j) (by rw [List.length_set]; exact hz) s.toks
 by_cases h0:0≤k
 ·have hk:k.toNat = j:=by
   rw [seqIndex_of h0 h4] at h1
   exact Option.some.inj h1
  exact PySem.W.ki_setAt ho h0 (by omega) (by rw [List.size_toArray,← hl]; exact h4) (by rw [hk]; exact ⟨_,I',q⟩)
 ·have hk:(k + (its.toArray.size:Int)).toNat = j:=by
   rw [seqIndex_neg (by omega) h3] at h1
   rw [List.size_toArray,← hl]
   exact Option.some.inj h1
  exact PySem.W.ki_setBack ho (by omega) (by rw [List.size_toArray,← hl]; exact h3) (by omega) (by rw [hk]; exact ⟨_,I',q⟩)
theorem slice_bounds (lo hi:Option Int) (n:Nat):(sliceBounds lo hi none n).1 = ((HT.sIx n 0 lo:Nat):Int)∧(sliceBounds lo hi none n).2.1 = ((HT.sIx n n hi:Nat):Int)∧(sliceBounds lo hi none n).2.2 = 1:=by
 refine ⟨?_,?_,rfl⟩
 ·cases lo with
  | none=>simp [sliceBounds,HT.sIx]
  | some i =>
   simp only [sliceBounds,HT.sIx,Option.getD_none,show (1:Int) > 0 by decide,if_true]
   by_cases h:i < 0
   ·simp only [h,if_true] <;> omega
   ·simp only [h,if_false] <;> omega
 ·cases hi with
  | none=>simp [sliceBounds,HT.sIx]
  | some i =>
   simp only [sliceBounds,HT.sIx,Option.getD_none,show (1:Int) > 0 by decide,if_true]
   by_cases h:i < 0
   ·simp only [h,if_true] <;> omega
   ·simp only [h,if_false] <;> omega
theorem slicePick_cut (its:List Value) (lo hi:Option Int):slicePick its.toArray lo hi none = ((its.drop (HT.sIx its.length 0 lo)).take (HT.sIx its.length its.length hi - HT.sIx its.length 0 lo)).toArray:=by
 obtain ⟨h1,h2,h3⟩:=slice_bounds lo hi its.toArray.size
 unfold slicePick
 rw [h1,h2,h3]
 simp only [sliceRange_one,pick_run,List.size_toArray] <;> rfl
def rSlL (K:PySem.W.Frag):V→Option Int→Option Int→Hp→VK→Prop:=fun x lo hi H Q=>∃ a xs,x = .ref a∧SqL K H a xs∧∀ p,H p = none→Q (.ref p) (upd H p (.lst (cutV xs lo hi)))
theorem sl_list:SlR X (rSlL X.K):=by
 intro pins s σ H x v vl vu lo hi sl Q I rx hs pl pu h
 obtain ⟨a,xs,rfl,hx,q⟩:=h
 cases rx
 obtain ⟨its,r,ht,hz⟩:=I.list hx
 have hlen:=r.length
 refine ⟨"list",_,slot_list_getitem.lookup,ht.isList.typeIs,?_⟩
 refine wpAny_getItem_list_slice ht.isList hs pl pu .none (by simp) ?_ (by rw [List.size_toArray] <;> omega)
 rw [slicePick_cut,← hlen]
 refine ⟨.ref s.heap.objs.size,_,I.laid (t':=s.toks) (o:=.lst (cutV xs lo hi)) (fun b ob q=>Heap.get?_push_of_some _ q) (Nat.le_refl _) ?_,rfl,q _ (I.hok.fresh (Nat.le_refl _))⟩
 exact ⟨Nat.le_trans (cutV_length xs lo hi) hz,_,0,(r.drop (HT.sIx xs.length 0 lo)).take (HT.sIx xs.length xs.length hi - HT.sIx xs.length 0 lo),Heap.get?_push_size _ rfl⟩
theorem call_len_seq:CallR X (.builtin "len") (fun xs H Q=>∃ p ys,xs = [.ref p]∧(SqL X.K H p ys∨SqT X.K H p ys)∧Q (.int ys.length) H):=by
 intro pins s σ H xs us Q I r h
 obtain ⟨p,ys,rfl,hq,q⟩:=h
 obtain ⟨u,rfl,rx⟩:=vals1 r
 cases rx
 have hn:=line63
 rcases hq with hq | hq
 ·obtain ⟨its,r',pl,hz⟩:=I.list hq
  have hlen:=r'.length
  exact Calls.call_len_list pl.isList (by simp only [List.size_toArray] <;> omega) ⟨.int ys.length,H,I.tok _,⟨s.toks + 1,by rw [List.size_toArray,hlen]⟩,q⟩
 ·obtain ⟨its,r',pl,hz⟩:=I.tuple hq
  have hlen:=r'.length
  exact len_tuple pl (by simp only [List.size_toArray] <;> omega) ⟨.int ys.length,H,I.tok _,⟨s.toks + 1,by rw [List.size_toArray,hlen]⟩,q⟩
theorem call_len_str:CallR X (.builtin "len") (fun xs H Q=>∃ z,xs = [.str z]∧z.length≤sizeLine∧Q (.int z.length) H):=by
 intro pins s σ H xs us Q I r h
 obtain ⟨z,rfl,hz,q⟩:=h
 obtain ⟨u,rfl,t,rfl⟩:=vals1 r
 have hn:=line63
 exact len_str (by omega) ⟨.int z.length,H,I.tok _,⟨_,rfl⟩,q⟩
def tyV (K:PySem.W.Frag) (T:String) (x:V) (H:Hp):Prop:=match x with
 | .str _=>T = "str"
 | .int _=>T = "int"
 | .ref p=>(T = "list"∧∃ xs,SqL K H p xs)∨(T = "tuple"∧∃ o,K.lookup p = some o∧o.cls = .type "tuple"∧o.dict = none) ∨
   (T = "dict"∧((∃ kvs,H p = some (.dK kvs))∨∃ kvs,H p = some (.dT kvs)))∨(T = "set"∧∃ S n,H p = some (.set S n))
 | _=>False
theorem tyV_is {pins:List (Addr × Obj)} {σ:St} {H:Hp} {s:Shared} {T:String} {x:V} {v:Value} (I:Inv X pins σ H s) (r:RelV x v) (ty:tyV X.K T x H) :
  s.TypeIs v T∧∀ a,v = .ref a→∃ ob,s.heap.get? a = some ob∧ob.dict = none:=by
 cases x with
 | str z =>
  obtain ⟨t,rfl⟩:=r
  cases (show T = "str" from ty)
  exact ⟨typeIs_str s z t,fun _ e=>nomatch e⟩
 | int i =>
  obtain ⟨t,rfl⟩:=r
  cases (show T = "int" from ty)
  exact ⟨typeIs_int s i t,fun _ e=>nomatch e⟩
 | ref p =>
  cases r
  rcases ty with ⟨rfl,xs,hq⟩ | ⟨rfl,o,hk,hc,hd⟩ | ⟨rfl,hk⟩ | ⟨rfl,S,n,hk⟩
  ·obtain ⟨its,_,pl,_⟩:=I.list hq
   refine ⟨pl.isList.typeIs,fun a e=>?_⟩
   cases e
   obtain ⟨o,n,e,c,hd,_⟩:=pl
   exact ⟨o,e,hd⟩
  ·refine ⟨⟨o,I.kIn p o hk,hc⟩,fun a e=>?_⟩
   cases e
   exact ⟨o,I.kIn _ o hk,hd⟩
  ·have z:∃ o,s.heap.get? p = some o∧o.ExactDict:=by
    rcases hk with ⟨kvs,hk⟩ | ⟨kvs,hk⟩
    ·obtain ⟨_,_,_,_,o,_,_,e,ex,_⟩:=I.hok p _ hk
     exact ⟨o,e,ex⟩
    ·obtain ⟨_,_,_,_,o,_,_,e,ex,_⟩:=I.hok p _ hk
     exact ⟨o,e,ex⟩
   obtain ⟨o,e,ex⟩:=z
   refine ⟨⟨o,e,ex.1⟩,fun a e2=>?_⟩
   cases e2
   exact ⟨o,e,ex.2.1⟩
  ·obtain ⟨o,_,_,_,e,ex,_⟩:=I.hok p _ hk
   refine ⟨⟨o,e,ex.1⟩,fun a e2=>?_⟩
   cases e2
   exact ⟨o,e,ex.2.1⟩
 | _=>exact False.elim ty
def tBM (K:PySem.W.Frag) (T:String) (r:V→List V→Hp→VK→Prop) (to:TE) (t:TA):TE:=fun σ H Q=>to σ H fun x H1=>tyV K T x H1∧t σ H1 fun xs H2=>r x xs H2 Q
variable {o e:Expr} {es:List Expr} {to:TE} {t:TA} {name:Str} {apos cpos:Pos} {T id:String} {r:V→List V→Hp→VK→Prop}
theorem pe_bm (pa:PlainAttrs T) (slot:Slot T name id) (hty:typeOf (.builtin id) = pure (.type "method_descriptor")) (hm:MtR X id r) (ho:PE X o to) (ha:PA X (e::es) t)
  (hbase:attributeBase o name X.env (eval o X.env) = eval o X.env:=by rfl)
  (hfew:((backTo cpos (starEach (e::es) X.env)).all (fun x=>!x.1) && (backToKw cpos (keywordEach [] X.env)).all (fun x=>x.1.isSome)
   && decide ((e::es).length + ([]:List Keyword).length + (if ([]:List Keyword).isEmpty then 0 else 1) < 30)) = true:=by rfl)
  (hline:(apos.endLine == cpos.line) = true:=by rfl) (hs:starEach (e::es) X.env = (false,eval e X.env)::starEach es X.env:=by rfl) (hplain:(backTo cpos (starEach es X.env)).any (·.1) = false:=by rfl) :
  PE X (.Call (.Attribute o name apos) (e::es) [] cpos) (tBM X.K T r to t):=by
 intro pins s σ H Q I h
 refine wpAny_Call_method_late hbase hfew hline rfl (thn (ho pins s σ H _ I h) fun v s1 ⟨x,H1,I1,r1,ty,q1⟩=>?_)
 obtain ⟨h1,h2⟩:=tyV_is I1 r1 ty
 refine ⟨T,id,pa,slot,hty,h1,h2,?_⟩
 have hA:=ha cpos pins s1 σ H1 _ I1 q1
 rw [hs] at hA ⊢
 refine Calls.callWith_builtin (by show (false || (backTo cpos (starEach es X.env)).any (·.1)) = false; rw [hplain] <;> rfl) (Calls.evalArgs_plain ?_)
 exact thn hA fun us s2 ⟨vs,H2,I2,r2,q2⟩=>hm pins s2 σ H2 x vs v us Q I2 r1 r2 q2
end
end L2
namespace L2
open PySem PySem.Spec PyProof.Rows
def MtM (X:Cx) (id:String) (r:V→List V→Hp→VK→Prop):Prop :=
 ∀ (pins:List (Addr × Obj)) (s:Shared) (σ:St) (H:Hp) (x:V) (xs:List V) (v:Value) (us:List Value) (Q:VK),Inv X pins σ H s→RelV x v→Vals xs us→r x xs H Q →
  wpAny (model X.prog X.w) X.A (call (.builtin id) (v::us)) (EP X pins σ Q) X.xe s
theorem Vals.one:∀ {x:V} {us:List Value},Vals [x] us→∃ u,us = [u]∧RelV x u
 | _,_,.cons r .nil=>⟨_,rfl,r⟩
theorem Vals.zero:∀ {us:List Value},Vals [] us→us = []
 | _,.nil=>rfl
section
variable {X:Cx} {pins:List (Addr × Obj)} {σ:St} {H:Hp} {s:Shared} {l b:Addr} {xs ys zs:List V}
theorem Inv.lset {its its':List Value} {n:Nat} {f:Array Value→Array Value} {t':Nat} (I:Inv X pins σ H s) (hH:H l = some (.lst xs))
  (e:s.heap.get? l = some { cls:=.type "list",data:=.seq its.toArray n }) (hf:f its.toArray = its'.toArray) (hv:Vals ys its') (hz:ys.length≤sizeLine) :
  Inv X pins σ (upd H l (.lst ys)) { s with heap:=s.heap.update l (Obj.mapSeq f),toks:=t' }:=by
 have q:=PySem.IsL.update e f
 rw [hf] at q
 refine I.write (x:=l) (e:=l) (by rw [hH]; exact trivial) (.inl rfl) (fun b' u hb hu=>(Heap.get?_update_other s.heap (Obj.mapSeq f) (Ne.symm hb)).trans hu) ⟨_,q⟩ ?_
 exact ⟨hz,its',_,hv,q⟩
theorem Inv.lnew {its:List Value} {t':Nat} (I:Inv X pins σ H s) (hv:Vals ys its) (hz:ys.length≤sizeLine) :
  Inv X pins σ (upd H s.heap.objs.size (.lst ys)) { s with heap:=s.heap.push { cls:=.type "list",data:=.seq its.toArray },toks:=t' } :=
 I.laid (fun _ _ q=>Heap.get?_push_of_some _ q) (Nat.le_refl _) ⟨hz,its,0,hv,Heap.get?_push_size _ rfl⟩
theorem Inv.fresh (I:Inv X pins σ H s):H s.heap.objs.size = none:=I.hok.fresh (Nat.le_refl _)
theorem Inv.lstM (I:Inv X pins σ H s) (hH:H l = some (.lst xs)):xs.length≤sizeLine∧∃ (its:List Value) (n:Nat),Vals xs its∧xs.length = its.length∧s.heap.get? l = some { cls:=.type "list",data:=.seq its.toArray n }:=by
 obtain ⟨z,its,n,r,e⟩:=I.hok l _ hH
 exact ⟨z,its,n,r,r.length,e⟩
end
section
variable {X:Cx}
def rAppend:V→List V→Hp→VK→Prop:=fun x vs H Q=>∃ l xs y,x = .ref l∧vs = [y]∧H l = some (.lst xs)∧xs.length < sizeLine∧Q .non (upd H l (.lst (xs++[y])))
theorem mt_append:MtM X "list.append" rAppend:=by
 intro pins s σ H x vs v us Q I rx rv h
 obtain ⟨l,xs,y,rfl,rfl,hH,hz,q⟩:=h
 cases rx
 obtain ⟨u,rfl,ru⟩:=rv.one
 obtain ⟨z,its,n,r,hl,e⟩:=I.lstM hH
 refine call_meets F.slot_list_append ⟨_,e,rfl⟩ F.entry_list_append (F.args_list_append_2 _ _) (PySem.list_append l its.toArray n u (by rw [List.size_toArray]; omega)) ⟨e,?_⟩
 refine ⟨.non,_,I.lset (its':=its++[u]) hH e (by simp) (r.append (.cons ru .nil)) ?_,rfl,q⟩
 rw [List.length_append,List.length_singleton]
 omega
def rCat:R2:=fun x y H Q=>∃ l b xs zs,x = .ref l∧y = .ref b∧H l = some (.lst xs)∧H b = some (.lst zs)∧xs.length + zs.length≤sizeLine∧∀ p,H p = none→Q (.ref p) (upd H p (.lst (xs++zs)))
theorem op_cat:OpR X (binaryOp .Add) rCat:=by
 intro pins s σ H x y v u Q I rx ry h
 obtain ⟨l,b,xs,zs,rfl,rfl,hH,hB,hz,q⟩:=h
 cases rx
 cases ry
 obtain ⟨z,its,n,r,hl,e⟩:=I.lstM hH
 obtain ⟨z2,its2,n2,r2,hl2,e2⟩:=I.lstM hB
 refine PySem.P.add_list e e2 ?_ (by rw [List.size_toArray,List.size_toArray]; omega)
 have ea:its.toArray++its2.toArray = (its++its2).toArray:=by simp
 rw [ea]
 exact ⟨.ref _,_,I.lnew (t':=s.toks) (r.append r2) (by rw [List.length_append]; omega),rfl,q _ I.fresh⟩
end
section
variable {prog:Program} {w:World} {A:Around} {E:Value→Shared→Prop} {s:Shared}
end
section
variable {X:Cx}
end
end L2
namespace L2
open PySem PySem.Spec PyProof.Rows
section
variable {κ:Type} [DecidableEq κ]
theorem RelO.isSome_eq {o:Option V} {u:Option Value} (r:RelO o u):o.isSome = u.isSome:=by
 cases o with
 | none=>cases u with
  | none=>rfl
  | some _=>exact (show False from r).elim
 | some _=>cases u with
  | none=>exact (show False from r).elim
  | some _=>rfl
end
section
variable {P:Program} {w:World} {H:Hp} {h:Heap} {a:Addr}
end
section
variable {X:Cx} {pins:List (Addr × Obj)} {σ:St} {H:Hp} {s:Shared} {a:Addr} {y v:V} {u r:Value} {o:Option V} {A:Around} {E:Value→Shared→Prop}
theorem Inv.big (I:Inv X pins σ H s):sysModules < s.heap.objs.size:=by
 have h:mainGlobals < s.heap.objs.size:=(I.mod.glob.keeps I.bk).lt
 exact Nat.lt_trans (by decide) h
end
section
variable {X:Cx} {pins:List (Addr × Obj)} {σ:St} {H:Hp} {s:Shared} {a:Addr} {kvs:List (Key × V)} {k:Key} {u:Value} {A:Around} {E:Value→Shared→Prop}
end
section
variable {X:Cx} {o i e value:Expr} {pos pos' tpos:Pos} {td ty tv:TE}
end
theorem dk_empty {P:Program} {w:World} {H:Hp} (h:Heap) (hb:sysModules < h.objs.size):ObjOk P w H (h.push { cls:=.type "dict",data:=.dict #[] }) h.objs.size (.dK []) :=
 ⟨Nat.zero_le _,beq_eq_false_iff_ne.mpr (Ne.symm (Nat.ne_of_lt hb)),[],.nil,Heap.DictOf.new h⟩
def tDNewK:TE:=fun _ H Q=>∀ p,H p = none→Q (.ref p) (upd H p (.dK []))
section
variable {X:Cx} {pos:Pos}
theorem pe_dnewK:PE X (.Dict [] [] pos) tDNewK:=fun pins s σ H Q I h =>
 wpAny_Dict_empty ⟨.ref s.heap.objs.size,_,I.laid (a:=s.heap.objs.size) (o:=.dK []) (t':=s.toks) (fun _ _ q=>Heap.get?_push_of_some _ q) (Nat.le_refl _) (dk_empty s.heap I.big),rfl,h _ (I.hok.fresh (Nat.le_refl _))⟩
end
structure M1 (X:Cx) (o:Expr) (m:Str) (apos:Pos) (e:Expr) (cpos:Pos):Prop where
 base:attributeBase o m X.env (eval o X.env) = eval o X.env
 few:((backTo cpos (starEach [e] X.env)).all (fun x=>!x.1) && (backToKw cpos (keywordEach [] X.env)).all (fun x=>x.1.isSome)
  && decide (([e]:List Expr).length + ([]:List Keyword).length + (if ([]:List Keyword).isEmpty then 0 else 1) < 30)) = true
 line:(apos.endLine == cpos.line) = true
 trees:backTo cpos (starEach [e] X.env) = [(false,eval e X.env)]
structure M2 (X:Cx) (o:Expr) (m:Str) (apos:Pos) (e f:Expr) (cpos:Pos):Prop where
 base:attributeBase o m X.env (eval o X.env) = eval o X.env
 few:((backTo cpos (starEach [e,f] X.env)).all (fun x=>!x.1) && (backToKw cpos (keywordEach [] X.env)).all (fun x=>x.1.isSome)
  && decide (([e,f]:List Expr).length + ([]:List Keyword).length + (if ([]:List Keyword).isEmpty then 0 else 1) < 30)) = true
 line:(apos.endLine == cpos.line) = true
 trees:backTo cpos (starEach [e,f] X.env) = [(false,eval e X.env),(false,eval f X.env)]
section
variable {X:Cx} {pins:List (Addr × Obj)} {σ:St} {H:Hp} {s:Shared} {a:Addr} {y d:V} {u r:Value} {o:Option V} {A:Around} {E:Value→Shared→Prop}
end
section
variable {X:Cx} {o e f:Expr} {apos cpos:Pos} {td ty tx:TE}
end
section
variable {X:Cx} {pins:List (Addr × Obj)} {σ:St} {H:Hp} {s:Shared} {a:Addr} {kvs:List (Key × V)} {A:Around} {E:Value→Shared→Prop}
end
section
variable {X:Cx} {pins:List (Addr × Obj)} {σ:St} {H:Hp} {s:Shared} {a:Addr} {y:V} {u:Value} {A:Around} {E:Value→Shared→Prop}
end
end L2
namespace Att
open PySem PySem.W PySem.Calls PyProof.Rows
theorem ints_of_wellAll {P:Params} {h:Heap}:∀ (ns:List Int) (vs:List Value),WellAll P h vs (ns.map WData.int)→IntsAre vs ns:=by
 intro ns
 induction ns with
 | nil =>
  intro vs w
  rw [List.map_nil] at w
  cases w
  exact .nil
 | cons n ns ih =>
  intro vs w
  rw [List.map_cons] at w
  cases w with
  | cons a b =>
   cases a
   exact .cons _ _ (ih _ b)
theorem script_of {l:OpenLaw} {n:Nat} (hn:l.most = some n) {P:Params} {h:Heap} {args:List WData} {vals:List Value}
  (hpre:l.row.toRowW.claim.pre args = true) (hwl:WellAll P h vals args) :
  ∃ a vs ns,vals = [Value.ref a]∧args = [WData.list (ns.map WData.int)]∧h.get? a = some { cls:=.type "list",data:=.seq vs.toArray }∧IntsAre vs ns∧ns.length≤n:=by
 have hsh:WShape.hasAll [] args [.list .int] = true:=(pre_splitW hpre).1
 have hc:l.pre.holds [] { args:=args } = true:=(pre_splitW hpre).2
 obtain ⟨d,r,rfl,h1,h2⟩:=hasAllW_cons hsh
 obtain rfl:=hasAllW_nil h2
 obtain ⟨xs,rfl,h3⟩:=hasW_list h1
 obtain ⟨ns,rfl⟩:=items_int h3
 have hlen:ns.length≤n:=by
  unfold OpenLaw.pre at hc
  have h4:(WTm.not (.lt (.lit (.int (n:Int))) (.len (.arg 0)))).holds [] { args:=[.list (ns.map .int)] } = true:=by
   have h4:=(holds_andW hc).1
   rw [hn] at h4
   exact h4
  have h5:=condW_of h4 (w_not (w_lt w_lit (w_len_list (w_arg rfl))))
  rw [List.length_map] at h5
  refine Nat.le_of_not_lt fun q=>?_
  have q':(n:Int) < ((ns.length:Nat):Int):=by omega
  first
   | (rw [decide_eq_true q'] at h5; exact absurd h5 (by decide))
   | (simp at h5; omega)
 cases hwl with
 | cons w1 w2 =>
  cases w2
  cases w1 with
  | list ho hall=>exact ⟨_,_,ns,rfl,rfl,ho,ints_of_wellAll ns _ hall,hlen⟩
theorem post_true (l:OpenLaw) (args:List WData):l.row.toRowW.claim.post args (.bool true) args = true :=
 postW_of (r:=l.row.toRowW) (X:=(true == true))
  (show WShape.has [] (.bool true) .bool = true by first | rfl | decide | simp [WShape.has,WShape.arms,WShape.armsAll])
  (show (WTm.eq .res (.lit (.bool true))).value [] { args:=args,res:=some (.bool true),after:=args } = some (.bool (true == true)) from w_eq_bool (w_res rfl) w_lit) rfl
theorem attach_call {l:OpenLaw} {n:Nat} {q:Program} {loose:List Str} {XP:(Str→Option Value)→Heap→Prop} {YP:World→Heap→Prop} {d:DefRec}
  (hn:l.most = some n) (hdf:d.params.defaults = [])
  (call:∀ (w:World) (s₀ s₁:Shared) (mg mb:Str→Option Value) (fa:Addr) (o:Obj) (pm cd doc:Value) (a:Addr) (vs:List Value) (ns:List Int),
   Ground q loose [] XP w s₀ mg mb s₁.heap→YP w s₁.heap →
   s₁.heap.get? fa = some o→o.data = .func (docDef d.name d.params d.body d.scope pm cd doc)→s₁.heap.CodeRec cd d.name→mg d.name = some (.ref fa) →
   s₁.heap.get? a = some { cls:=.type "list",data:=.seq vs.toArray }→IntsAre vs ns→ns.length≤n→s₁.gens = #[] →
   codeAny (model l.prog w) callerA (.call (.ref fa) ⟨[.ref a],[]⟩) (fun r s'=>r = .ok (.ret (.bool true))∧OldK s₁.heap s'.heap∧s'.os = s₁.os∧AllBare s'.gens) s₁) :
  WalkO q loose XP YP l.row.toRowW d [] (fun f vs=>PySem.call f vs):=by
 intro w s₀ s₁ mg mb G Y fa o pm cd doc dV kV ho hd hcd hD hmg hg args vals as hpre hlay hrd hwl hlo
 obtain rfl:dV = .none:=Dflts.none hD hdf
 obtain rfl:kV = .none:=Dflts.noKw hD
 obtain ⟨a,vs,ns,rfl,rfl,hobj,hints,hlen⟩:=script_of hn hpre hwl
 refine enter_call (codeAny_mono (call w s₀ s₁ mg mb fa o pm cd doc a vs ns G Y ho (fd_plain hd) hcd hmg hobj hints hlen hg) fun r s' hq=>?_)
 obtain ⟨rfl,h2,h3,h4⟩:=hq
 exact ⟨.inl ⟨.bool true,.bool true,[],rfl,fun _=>rfl,.bool true,post_true l _,fun _=>⟨List.Pairwise.nil,fun _ hm=>(nomatch hm)⟩⟩,h2,h3,h4⟩
section
variable {prog:Program} {w:World} {A:Around} {E:Value→Shared→Prop} {s:Shared} {K:Frag}
theorem make_obj {R:Result→Shared→Prop} {C fI:Addr} {rest:List Value} {kw:List (Str × Value)}
  (X:K.In s.heap) (hm:makesIn K C = true) (hi:findIn K (.ref C) "__init__" = some (some (.ref fI))) (hf:isFn K (.ref fI) = true)
  (h:codeAny (model prog w) (A.under (.builtin "type.__call__" ⟨.ref C::rest,kw⟩)) (.call (.ref fI) ⟨.ref (s.heap.objs.size + 1)::rest,kw⟩) (InitBack (s.heap.objs.size + 1) R)
   { s with heap:=(s.heap.push emptyDict).push (instObj C s.heap.objs.size) }):codeAny (model prog w) A (.call (.ref C) ⟨rest,kw⟩) R s:=by
 obtain ⟨hh,g,d,t,os⟩:=s
 exact make_core (makes_of X hm) (looks_findIn X hi) (fun self=>bind_fn X self (beq_iff_eq.mp hf)) (.inl rfl) h
theorem get_field {x C:Addr} {ox:Obj} {es:List DictEntry} {n:Nat} {name:Str} {expr:Bool} {v:Value} {Q:Value→Shared→Prop}
  (X:K.In s.heap) (I:PySem.W.InstAt s.heap x ox C (some (dictOf es n))) (hg:plainGet K C name = true) (hh:hasDictIn K C = true) (ha:findIn K (.ref C) name = some none)
  (hl:getL name es = some (some v)) (hv:handedIn v = true) (h:Q v { s with toks:=s.toks + 1 }):wpAny (model prog w) A (getAttr (.ref x) name expr) Q E s :=
 get_value X I (plainGet_of hg).1 (findObj_own hh ha rfl hl) hv h
end
end Att
namespace L2
open PySem PySem.Spec PyProof.Rows
theorem vals_ints:∀ {vs:List Value} {ns:List Int},IntsAre vs ns→Vals (ns.map V.int) vs
 | _,_,.nil=>.nil
 | _,_,.cons n t h=>.cons ⟨t,rfl⟩ (vals_ints h)
def Only (H:Hp):Prop:=∀ b,H b = none∨∃ o xs,H b = some (.frz o (.lst xs))
theorem law_call {P:Program} {w:World} {K:PySem.W.Frag} {mg mb:Str→Option Value} {CX:CXT} {k:Nat} {fa a:Addr} {fd:FuncData} {x:Str} {sp:Sp} {s₁:Shared} {vs:List Value} {ns:List Int}
  (KX:K.In s₁.heap) (hns:s₁.heap.Ns mainGlobals mg) (hb:s₁.heap.Ns builtinsNs mb) (hbb:∀ x:Str,x≠"__name__"→mb x = bootBuiltins x) (hlim:s₁.heap.NoLimit) (hg:s₁.gens = #[])
  (ha:s₁.heap.get? a = some { cls:=.type "list",data:=.seq vs.toArray }) (hi:IntsAre vs ns) (hl:ns.length≤sizeLine) (hr:Room k callerA)
  (F:∀ base:Heap,K.In base→base.Ns mainGlobals mg→FnOk P w K mg base CX k fa fd [x] sp) (hbind:∀ (s:Shared) (u:Value),BindsTo s fd ⟨[u],[]⟩ [(x,u)])
  (hsp:∀ H:Hp,Only H→SqL K H a (ns.map V.int)→sp [.ref a] H (fun v _=>v = .bl true) fun _ _ _=>False)
  (hCX:∀ H e s',CX [] H s₁ (fun _ _ _=>False) e s'→False) :
  codeAny (model P w) callerA (.call (.ref fa) ⟨[.ref a],[]⟩) (fun r s'=>r = .ok (.ret (.bool true))∧OldK s₁.heap s'.heap∧s'.os = s₁.os∧AllBare s'.gens) s₁:=by
 have rv:=vals_ints hi
 have lenV:=hi.length
 have core:∀ H:Hp,Only H→SqL K H a (ns.map V.int)→HOk P w H s₁.heap→(∀ b,H b≠none→b = a)→(H a≠none→K.lookup a = none) →
   codeAny (model P w) callerA (.call (.ref fa) ⟨[.ref a],[]⟩) (fun r s'=>r = .ok (.ret (.bool true))∧OldK s₁.heap s'.heap∧s'.os = s₁.os∧AllBare s'.gens) s₁:=by
  intro H hO hS hok hA hK
  have base_of:∀ {b:Addr} {o:Obj},s₁.heap.get? b = some o→H b = none→(hidT s₁.heap H).get? b = some o:=fun e n=>hidT_get e n
  have noA:∀ {b:Addr} {o:Obj} {es:Array DictEntry} {ep:Nat},s₁.heap.get? b = some o→o.data = .dict es ep→H b = none:=fun {b o es ep} e d=>by
   cases q:H b with
   | none=>rfl
   | some u =>
    have e':b = a:=hA b (by rw [q]; simp)
    subst e'
    rw [ha] at e; cases e
    have d':Data.seq vs.toArray _ = Data.dict es ep:=d
    cases d'
  have nsK:∀ {b:Addr} {m:Str→Option Value},s₁.heap.Ns b m→(hidT s₁.heap H).Ns b m:=fun {b m} ⟨o,es,ep,e,d,r⟩=>⟨o,es,ep,base_of e (noA e d),d,r⟩
  have hKb:K.In (hidT s₁.heap H):=fun b o e=>base_of (KX b o e) (by
   cases q:H b with
   | none=>rfl
   | some u =>
    have e':b = a:=hA b (by rw [q]; simp)
    subst e'
    rw [hK (by rw [q]; simp)] at e; cases e)
  have hM:Mod K mg (hidT s₁.heap H):=⟨hKb,nsK hns,⟨mb,nsK hb,hbb⟩,let ⟨mc,h1,h2⟩:=hlim; ⟨mc,nsK h1,h2⟩⟩
  have e0:Env0 P w K mg (hidT s₁.heap H) callerA [] s₁ H:=⟨rfl,hM,fun b o e=>of_hidT e,Nat.le_of_eq (hidT_size _ _),trivial,fun b hb=>absurd (show b∈([]:List Addr) from hb) (by simp),hok,.of_eq hg⟩
  refine codeAny_mono ((F _ hKb (nsK hns)).run callerA [] s₁ H ⟨[.ref a],[]⟩ [.ref a] [.ref a] _ _ hr e0 (hbind s₁ (.ref a)) (.cons rfl .nil) (hsp H hO hS)) fun r s' h=>?_
  cases r with
  | error e=>exact (hCX H e s' h).elim
  | ok fl =>
   cases fl with
   | next=>exact False.elim h
   | brk=>exact False.elim h
   | cont=>exact False.elim h
   | ret u =>
    obtain ⟨v,H',os,bare,un,hok',r',q⟩:=h
    have q':v = .bl true:=q
    subst q'
    obtain rfl:u = Value.bool true:=r'
    refine ⟨rfl,OldK.of_keep fun b o e=>?_,os,bare⟩
    cases q:H b with
    | none=>exact un.keep b o e q (by intro z; exact absurd (show b∈([]:List Addr) from z) (by simp)) (by simp)
    | some u =>
     rcases hO b with z | ⟨ob,xs,z⟩
     ·rw [q] at z; cases z
     ·have z2:=un.frzs b ob _ z
      obtain ⟨e1,_⟩:=hok b _ z
      obtain ⟨e2,_⟩:=hok' b _ z2
      rw [e] at e1; cases e1
      exact e2
 cases hk:K.lookup a with
 | some o =>
  have e:=KX a o hk
  rw [ha] at e
  cases e
  refine core (fun _=>none) (fun _=>.inl rfl) (.inr ⟨_,vs.toArray,_,hk,rfl,rfl,rfl,by rw [List.size_toArray,lenV]; exact hl,by simpa using rv⟩) (fun b u z=>by have z':(none:Option HO) = some u:=z; cases z') (fun b z=>absurd rfl z) fun z=>absurd rfl z
 | none =>
  refine core (fun b=>if b = a then some (.frz { cls:=.type "list",data:=.seq vs.toArray } (.lst (ns.map V.int))) else none) (fun b=>?_) (.inl (.inr ⟨{ cls:=.type "list",data:=.seq vs.toArray },if_pos rfl⟩)) (fun b u z=>?_) (fun b z=>?_) fun _=>hk
  ·by_cases hb:b = a
   ·exact .inr ⟨_,_,if_pos hb⟩
   ·exact .inl (if_neg hb)
  ·by_cases hb:b = a
   ·have z':=(if_pos hb).symm.trans z
    cases z'
    subst hb
    exact ⟨ha,by rw [List.length_map]; exact hl,vs,_,rv,ha⟩
   ·have z':=(if_neg hb).symm.trans z
    cases z'
  ·by_cases hb:b = a
   ·exact hb
   ·exact absurd (if_neg hb) z
end L2
namespace L2
open PySem PySem.Spec PyProof.Rows
theorem walk_of {l:PySem.W.OpenLaw} {n k:Nat} {q:Program} {loose:List Str} {XP:(Str→Option Value)→Heap→Prop} {YP:World→Heap→Prop} {d:DefRec} {K:Params→PySem.W.Frag} {CX:World→CXT} {sp:World→Sp} {x:Str}
  (hn:l.most = some n) (hn2:n≤sizeLine) (hdf:d.params.defaults = []) (hr:Room k callerA)
  (hY:∀ (w:World) (h:Heap),YP w h→(K w.params).In h)
  (F:∀ (w:World) (mg:Str→Option Value) (fa:Addr) (h:Heap),(K w.params).In h→h.Ns mainGlobals mg→mg d.name = some (.ref fa) →
   ∃ fd:FuncData,(∀ (s:Shared) (u:Value),BindsTo s fd ⟨[u],[]⟩ [(x,u)]) ∧
    ∀ base:Heap,(K w.params).In base→base.Ns mainGlobals mg→FnOk l.prog w (K w.params) mg base (CX w) k fa fd [x] (sp w))
  (hsp:∀ (w:World) (H:Hp) (a:Addr) (ns:List Int),ns.length≤n→Only H→SqL (K w.params) H a (ns.map V.int)→sp w [.ref a] H (fun v _=>v = .bl true) fun _ _ _=>False)
  (hCX:∀ (w:World) (H:Hp) (s:Shared) (e:Value) (s':Shared),CX w [] H s (fun _ _ _=>False) e s'→False) :
  PySem.W.WalkO q loose XP YP l.row.toRowW d [] (fun f vs=>PySem.call f vs):=by
 refine Att.attach_call hn hdf fun w s₀ s₁ mg mb fa o pm cd doc a vs ns G Y ho hd hcd hmg hobj hints hlen hg=>?_
 have KX:=hY w _ Y
 obtain ⟨fd,hb,hF⟩:=F w mg fa _ KX G.T.g hmg
 exact law_call KX G.T.g G.T.b G.T.builtins G.T.nolimit hg hobj hints (Nat.le_trans hlen hn2) hr hF hb (fun H hO hS=>hsp w H a ns hlen hO hS) fun H e s'=>hCX w H s₁ e s'
end L2
namespace L2
open PySem PySem.Spec PyProof.Rows
def defArgs (s:Stmt):Arguments:=match s with
 | .FunctionDef _ a _ _ _ _ _ _ _ _=>a
 | _=>{ posonlyargs:=[],args:=[],vararg:=none,kwonlyargs:=[],kw_defaults:=[],kwarg:=none,defaults:=[] }
def defBody (s:Stmt):List Stmt:=match s with
 | .FunctionDef _ _ b _ _ _ _ _ _ _=>b
 | _=>[]
def defScope (s:Stmt):Scope:=match s with
 | .FunctionDef _ _ _ _ _ _ sc _ _ _=>sc
 | _=>{ kind:=.function,names:=[],isGenerator:=false,isCoroutine:=false }
structure Fun (K:PySem.W.Frag) (x qual:Str) (st:Stmt) (f:Addr) (fd:FuncData):Prop where
 ex:∃ (oc:Value) (od:Option Addr) (kV doc pm:Value) (an:Option Addr) (cdv ct:Value) (osl:Array (Option Value)),
  fd = PySem.W.fnOf x qual (defArgs st) (defBody st) (defScope st) .none kV doc pm an cdv ct∧K.lookup f = some ⟨oc,od,.func fd,osl⟩∧PySem.W.codeIn K cdv qual = true
 kp:PySem.W.keepIn K (.ref f) = true
section
variable {P:Program} {w:World} {K:PySem.W.Frag} {mg:Str→Option Value} {base:Heap}
theorem Fun.binds {x qual:Str} {st:Stmt} {f:Addr} {fd:FuncData} {ps:List Str} (F:Fun K x qual st f fd)
  (h:∀ (kV doc pm:Value) (an:Option Addr) (cdv ct:Value) (us:List Value),us.length = ps.length→bindArgs (PySem.W.fnOf x qual (defArgs st) (defBody st) (defScope st) .none kV doc pm an cdv ct) ⟨us,[]⟩ = pure (ps.zip us)):Binds K fd ps []:=by
 obtain ⟨oc,od,kV,doc,pm,an,cdv,ct,osl,rfl,lk,hcd⟩:=F.ex
 exact .all (h kV doc pm an cdv ct)
theorem fun_mk {x qual:Str} {st:Stmt} {f:Addr} {oc:Value} {od an:Option Addr} {osl:Array (Option Value)} {kV doc pm cdv ct:Value} (l:K.lookup f = some ⟨oc,od,.func (PySem.W.fnOf x qual (defArgs st) (defBody st) (defScope st) .none kV doc pm an cdv ct),osl⟩)
  (c:PySem.W.codeIn K cdv qual = true) (k:PySem.W.keepIn K (.ref f) = true):Fun K x qual st f (PySem.W.fnOf x qual (defArgs st) (defBody st) (defScope st) .none kV doc pm an cdv ct):=⟨⟨oc,od,kV,doc,pm,an,cdv,ct,osl,rfl,l,c⟩,k⟩
end
section
variable {X:Cx}
end
def Same (H H':Hp):Prop:=∀ b o,H b = some o→H' b = some o
theorem Same.refl (H:Hp):Same H H:=fun _ _ h=>h
theorem Same.trans {H H1 H2:Hp} (a:Same H H1) (b:Same H1 H2):Same H H2:=fun c o h=>b c o (a c o h)
theorem Same.free {H H':Hp} (e:Same H H') {l:Addr} (h:H' l = Option.none):H l = Option.none:=by
 cases q:H l with
 | none=>rfl
 | some o =>
  rw [e l o q] at h
  cases h
theorem Same.seq {K:PySem.W.Frag} {H H':Hp} {a:Addr} {xs:List V} (e:Same H H') (h:SqL K H a xs):SqL K H' a xs:=by
 rcases h with (h | ⟨o,h⟩) | h
 ·exact .inl (.inl (e _ _ h))
 ·exact .inl (.inr ⟨o,e _ _ h⟩)
 ·exact .inr h
end L2
namespace L2
open PySem PySem.Spec PyProof.Rows
section
variable {X:Cx}
end
section
variable {κ:Type} [DecidableEq κ]
end
end L2
namespace G
open PySem PySem.Spec PyProof.Rows L2
inductive PV where
 | non | bl (b:Bool) | int (i:Int) | str (x:Str) | tup (xs:List PV) | lst (xs:List PV) | dic | scr (ns:List Int) | exc (c:Str) | ob (c:Str) (ns:List Str) (ps:List PV)
instance:Inhabited PV:=⟨.non⟩
inductive Res (α:Type) where
 | ok (a:α) | err (c:Str) | stuck
def Res.bind {α β:Type} (r:Res α) (f:α→Res β):Res β:=match r with
 | .ok a=>f a
 | .err c=>.err c
 | .stuck=>.stuck
theorem Res.bind_ok {α β:Type} (a:α) (f:α→Res β):(Res.ok a).bind f = f a:=rfl
theorem Res.bind_err {α β:Type} (c:Str) (f:α→Res β):(Res.err c:Res α).bind f = .err c:=rfl
theorem Res.bind_stuck {α β:Type} (f:α→Res β):(Res.stuck:Res α).bind f = .stuck:=rfl
def excφ (a:Addr) (C:Addr):Heap→Prop:=fun h=>∃ o vs,h.get? a = some o∧o.cls = .ref C∧o.data = .fields vs
def ClsIs (K:PySem.W.Frag) (c:Str) (C:Addr):Prop:=PySem.W.nsIn K mainGlobals c = some (some (.ref C))
mutual
inductive Rep (K:PySem.W.Frag) (H:Hp):V→PV→Prop where
 | non:Rep K H .non .non
 | bl (b:Bool):Rep K H (.bl b) (.bl b)
 | int (i:Int):Rep K H (.int i) (.int i)
 | str (x:Str):Rep K H (.str x) (.str x)
 | tup {a:Addr} {xs:List V} {ps:List PV}:SqT K H a xs→Reps K H xs ps→Rep K H (.ref a) (.tup ps)
 | lst {a:Addr} {xs:List V} {ps:List PV}:H a = some (.lst xs)→Reps K H xs ps→Rep K H (.ref a) (.lst ps)
 | scr {a:Addr} {ns:List Int}:SqL K H a (ns.map V.int)→Rep K H (.ref a) (.scr ns)
 | dic {a:Addr} {kvs:List (Key × V)}:H a = some (.dK kvs)→Rep K H (.ref a) .dic
 | exc {a C:Addr} {c:Str}:H a = some (.ext (excφ a C))→ClsIs K c C→Rep K H (.ref a) (.exc c)
 | ob {a C dx:Addr} {c:Str} {fs:List (Str × V)} {ns:List Str} {vs:List V} {ps:List PV}:H a = some (.ins C dx fs)→ClsIs K c C→fs = ns.zip vs→ns.length = vs.length→Reps K H vs ps→Rep K H (.ref a) (.ob c ns ps)
inductive Reps (K:PySem.W.Frag) (H:Hp):List V→List PV→Prop where
 | nil:Reps K H [] []
 | cons {v:V} {p:PV} {vs:List V} {ps:List PV}:Rep K H v p→Reps K H vs ps→Reps K H (v::vs) (p::ps)
end
section
variable {K:PySem.W.Frag} {H H':Hp}
theorem same_seqT {a:Addr} {xs:List V} (e:Same H H') (h:SqT K H a xs):SqT K H' a xs:=by
 rcases h with (h | ⟨o,h⟩) | h
 ·exact .inl (.inl (e _ _ h))
 ·exact .inl (.inr ⟨o,e _ _ h⟩)
 ·exact .inr h
mutual
theorem Rep.mono (e:Same H H'):∀ {v:V} {p:PV},Rep K H v p→Rep K H' v p
 | _,_,.non=>.non
 | _,_,.bl b=>.bl b
 | _,_,.int i=>.int i
 | _,_,.str x=>.str x
 | _,_,.tup h r=>.tup (same_seqT e h) (Reps.mono e r)
 | _,_,.lst h r=>.lst (e _ _ h) (Reps.mono e r)
 | _,_,.scr h=>.scr (e.seq h)
 | _,_,.dic h=>.dic (e _ _ h)
 | _,_,.exc h c=>.exc (e _ _ h) c
 | _,_,.ob h c z l r=>.ob (e _ _ h) c z l (Reps.mono e r)
theorem Reps.mono (e:Same H H'):∀ {vs:List V} {ps:List PV},Reps K H vs ps→Reps K H' vs ps
 | _,_,.nil=>.nil
 | _,_,.cons r t=>.cons (Rep.mono e r) (Reps.mono e t)
end
theorem Reps.length:∀ {vs:List V} {ps:List PV},Reps K H vs ps→vs.length = ps.length
 | _,_,.nil=>rfl
 | _,_,.cons _ t=>by rw [List.length_cons,List.length_cons,Reps.length t]
theorem Reps.get:∀ {vs:List V} {ps:List PV} {i:Nat} {p:PV},Reps K H vs ps→ps[i]? = some p→∃ v,vs[i]? = some v∧Rep K H v p
 | _,_,_,_,.nil,e=>by simp at e
 | _,_,0,_,.cons r _,e=>by simp at e; subst e; exact ⟨_,rfl,r⟩
 | _,_,i + 1,p,.cons _ t,e=>by
  obtain ⟨v,h1,h2⟩:=Reps.get (i:=i) (p:=p) t (by simpa using e)
  exact ⟨v,by simpa using h1,h2⟩
theorem Reps.append:∀ {vs ws:List V} {ps qs:List PV},Reps K H vs ps→Reps K H ws qs→Reps K H (vs++ws) (ps++qs)
 | _,_,_,_,.nil,s=>s
 | _,_,_,_,.cons r t,s=>.cons r (Reps.append t s)
theorem Reps.take:∀ {vs:List V} {ps:List PV} (n:Nat),Reps K H vs ps→Reps K H (vs.take n) (ps.take n)
 | _,_,0,_=>.nil
 | _,_,_ + 1,.nil=>.nil
 | _,_,n + 1,.cons r t=>.cons r (Reps.take n t)
theorem Reps.drop:∀ {vs:List V} {ps:List PV} (n:Nat),Reps K H vs ps→Reps K H (vs.drop n) (ps.drop n)
 | _,_,0,r=>r
 | _,_,_ + 1,.nil=>.nil
 | _,_,n + 1,.cons _ t=>Reps.drop n t
theorem Reps.set {x:V} {p:PV} (r:Rep K H x p):∀ {vs:List V} {ps:List PV} (i:Nat),Reps K H vs ps→Reps K H (vs.set i x) (ps.set i p)
 | _,_,_,.nil=>.nil
 | _,_,0,.cons _ t=>.cons r t
 | _,_,i + 1,.cons q t=>.cons q (Reps.set r i t)
theorem Reps.ints:∀ (ns:List Int),Reps K H (ns.map V.int) (ns.map PV.int)
 | []=>.nil
 | n::r=>.cons (.int n) (Reps.ints r)
theorem Rep.int_inv {v:V} {i:Int} (r:Rep K H v (.int i)):v = .int i:=by cases r; rfl
theorem Rep.bl_inv {v:V} {b:Bool} (r:Rep K H v (.bl b)):v = .bl b:=by cases r; rfl
theorem Rep.str_inv {v:V} {x:Str} (r:Rep K H v (.str x)):v = .str x:=by cases r; rfl
theorem Rep.non_inv {v:V} (r:Rep K H v .non):v = .non:=by cases r; rfl
theorem Rep.tup_inv {v:V} {ps:List PV} (r:Rep K H v (.tup ps)):∃ a xs,v = .ref a∧SqT K H a xs∧Reps K H xs ps:=by
 cases r with
 | tup h t=>exact ⟨_,_,rfl,h,t⟩
theorem Rep.scr_inv {v:V} {ns:List Int} (r:Rep K H v (.scr ns)):∃ a,v = .ref a∧SqL K H a (ns.map V.int):=by
 cases r with
 | scr h=>exact ⟨_,rfl,h⟩
theorem Rep.lst_inv {v:V} {ps:List PV} (r:Rep K H v (.lst ps)):∃ a xs,v = .ref a∧H a = some (.lst xs)∧Reps K H xs ps:=by
 cases r with
 | lst h t=>exact ⟨_,_,rfl,h,t⟩
theorem Reps.nil_inv {vs:List V} (r:Reps K H vs []):vs = []:=by cases r; rfl
theorem Reps.cons_inv {vs:List V} {p:PV} {ps:List PV} (r:Reps K H vs (p::ps)):∃ v ws,vs = v::ws∧Rep K H v p∧Reps K H ws ps:=by
 cases r with
 | cons a b=>exact ⟨_,_,rfl,a,b⟩
end
structure Grow (Hs H Hs' H':Hp):Prop where
 s:Same Hs Hs'
 i:Same Hs' H'
 h:Same H H'
 o:∀ x,H x≠none→Hs x = none→Hs' x = none
theorem Grow.refl {Hs H:Hp} (i:Same Hs H):Grow Hs H Hs H:=⟨Same.refl _,i,Same.refl _,fun _ _ h=>h⟩
theorem Grow.trans {Hs H Hs1 H1 Hs2 H2:Hp} (a:Grow Hs H Hs1 H1) (b:Grow Hs1 H1 Hs2 H2):Grow Hs H Hs2 H2 :=
 ⟨a.s.trans b.s,b.i,a.h.trans b.h,fun x h n=>b.o x (by
  cases e:H x with
  | none=>exact absurd e h
  | some o=>rw [a.h x o e]; exact fun z=>nomatch z) (a.o x h n)⟩
theorem same_upd {H:Hp} {p:Addr} {o:HO} (h:H p = none):Same H (upd H p o):=fun b u q=>by rw [upd_ne (ne_of_none q h)]; exact q
theorem same_upd2 {Hs H:Hp} {p:Addr} {o:HO} (i:Same Hs H):Same (upd Hs p o) (upd H p o):=fun b u q=>by
 by_cases e:b = p
 ·subst e; rw [upd_same] at q ⊢; exact q
 ·rw [upd_ne e] at q ⊢; exact i b u q
theorem Grow.new {Hs H:Hp} {p:Addr} {o:HO} (i:Same Hs H) (h:H p = none):Grow Hs H (upd Hs p o) (upd H p o) :=
 ⟨same_upd (i.free h),same_upd2 i,same_upd h,fun x hx hn=>by rw [upd_ne (fun e=>hx (by rw [e]; exact h))]; exact hn⟩
theorem Grow.newOwn {Hs H:Hp} {p:Addr} {o:HO} (i:Same Hs H) (h:H p = none):Grow Hs H Hs (upd H p o) :=
 ⟨Same.refl _,i.trans (same_upd h),same_upd h,fun _ _ hn=>hn⟩
def Ret (K:PySem.W.Frag) (Hs H:Hp) (r:Res PV) (EO:Str→Prop) (Q:VK):Prop:=match r with
 | .ok p=>∀ v Hs' H',Grow Hs H Hs' H'→Rep K Hs' v p→Q v H'
 | .err c=>EO c
 | .stuck=>False
theorem Ret.grow {K:PySem.W.Frag} {Hs H Hs1 H1:Hp} {r:Res PV} {EO:Str→Prop} {Q:VK} (h:Ret K Hs H r EO Q) (g:Grow Hs H Hs1 H1):Ret K Hs1 H1 r EO Q:=by
 cases r with
 | ok p=>exact fun v Hs' H' g' r=>h v Hs' H' (g.trans g') r
 | err c=>exact h
 | stuck=>exact h
theorem Ret.bind {K:PySem.W.Frag} {Hs H:Hp} {r:Res PV} {f:PV→Res PV} {EO:Str→Prop} {Q:VK} (h:Ret K Hs H (r.bind f) EO Q) :
  Ret K Hs H r EO fun v H1=>∃ Hs1 p,Grow Hs H Hs1 H1∧Rep K Hs1 v p∧Ret K Hs1 H1 (f p) EO Q:=by
 cases r with
 | ok p=>exact fun v Hs' H' g r=>⟨Hs',p,g,r,Ret.grow (r:=f p) h g⟩
 | err c=>exact h
 | stuck=>exact h
theorem Ret.mono {K:PySem.W.Frag} {Hs H:Hp} {r:Res PV} {EO:Str→Prop} {Q Q':VK} (h:Ret K Hs H r EO Q) (m:∀ v H',Q v H'→Q' v H'):Ret K Hs H r EO Q':=by
 cases r with
 | ok p=>exact fun v Hs' H' g r=>m _ _ (h v Hs' H' g r)
 | err c=>exact h
 | stuck=>exact h
def Rets (K:PySem.W.Frag) (Hs H:Hp) (r:Res (List PV)) (EO:Str→Prop) (Q:List V→Hp→Prop):Prop:=match r with
 | .ok ps=>∀ vs Hs' H',Grow Hs H Hs' H'→Reps K Hs' vs ps→Q vs H'
 | .err c=>EO c
 | .stuck=>False
def RetB (Hs H:Hp) (r:Res Bool) (EO:Str→Prop) (Q:Bool→Hp→Prop):Prop:=match r with
 | .ok b=>∀ Hs' H',Grow Hs H Hs' H'→Q b H'
 | .err c=>EO c
 | .stuck=>False
theorem RetB.grow {Hs H Hs1 H1:Hp} {r:Res Bool} {EO:Str→Prop} {Q:Bool→Hp→Prop} (h:RetB Hs H r EO Q) (g:Grow Hs H Hs1 H1):RetB Hs1 H1 r EO Q:=by
 cases r with
 | ok p=>exact fun Hs' H' g'=>h Hs' H' (g.trans g')
 | err c=>exact h
 | stuck=>exact h
theorem RetB.bind {Hs H:Hp} {r:Res Bool} {f:Bool→Res Bool} {EO:Str→Prop} {Q:Bool→Hp→Prop} (h:RetB Hs H (r.bind f) EO Q) :
  RetB Hs H r EO fun b H1=>∃ Hs1,Grow Hs H Hs1 H1∧RetB Hs1 H1 (f b) EO Q:=by
 cases r with
 | ok p=>exact fun Hs' H' g=>⟨Hs',g,RetB.grow (r:=f p) h g⟩
 | err c=>exact h
 | stuck=>exact h
inductive SV where
 | sh (p:PV) | own (xs:List PV)
abbrev PSt:=List (Option SV)
inductive Fl where
 | next (σ:PSt) | brk (σ:PSt) | cont (σ:PSt) | ret (p:PV)
abbrev DE:=PSt→Res PV
abbrev DA:=PSt→Res (List PV)
abbrev DT:=PSt→Res Bool
abbrev DS:=PSt→Res Fl
def SlotR (K:PySem.W.Frag) (H0 Hs H:Hp) (v:V):SV→Prop
 | .sh p=>Rep K Hs v p
 | .own xs=>∃ a vs,v = .ref a∧H a = some (.lst vs)∧Hs a = none∧H0 a = none∧Reps K Hs vs xs
structure SR (K:PySem.W.Frag) (H0 Hs0 Hs H:Hp) (σ:PSt) (τ:L2.St):Prop where
 g:Grow Hs0 H0 Hs H
 slot:∀ (i:Nat) (sv:SV),σ[i]? = some (some sv)→∃ v,τ[i]? = some (some v)∧SlotR K H0 Hs H v sv
 inj:∀ (i j:Nat) (xs ys:List PV) (a:Addr),i≠j→σ[i]? = some (some (.own xs))→σ[j]? = some (some (.own ys))→τ[i]? = some (some (.ref a))→τ[j]?≠some (some (.ref a))
 len:σ.length = τ.length
theorem SlotR.grow {K:PySem.W.Frag} {H0 Hs H Hs' H':Hp} {v:V} {sv:SV} (h:SlotR K H0 Hs H v sv) (g:Grow Hs H Hs' H'):SlotR K H0 Hs' H' v sv:=by
 cases sv with
 | sh p=>exact Rep.mono g.s h
 | own xs =>
  obtain ⟨a,vs,e,h1,h2,h3,h4⟩:=h
  exact ⟨a,vs,e,g.h _ _ h1,g.o a (by rw [h1]; exact fun z=>nomatch z) h2,h3,h4.mono g.s⟩
theorem SR.grow {K:PySem.W.Frag} {H0 Hs0 Hs H Hs' H':Hp} {σ:PSt} {τ:L2.St} (h:SR K H0 Hs0 Hs H σ τ) (g:Grow Hs H Hs' H'):SR K H0 Hs0 Hs' H' σ τ :=
 ⟨h.g.trans g,fun i sv e=>let ⟨v,e1,r⟩:=h.slot i sv e; ⟨v,e1,r.grow g⟩,h.inj,h.len⟩
structure UnX (l:List Env) (H H1:Hp) (h B h':Heap):Prop where
 keep:∀ b o,h.get? b = some o→H b = none→b ∉ frs l→B.get? b = some o
 slot:∀ b o,h.get? b = some o→H b = none→b∈frs l→∃ sl,h'.get? b = some { o with slots:=sl }
 free:∀ b o,h.get? b = some o→H b = none→H1 b = none
 there:∀ b o,h.get? b = some o→H b≠none→∃ o',B.get? b = some o'
 tups:∀ b xs,H b = some (.tup xs)→H1 b = some (.tup xs)
 frzs:∀ b o u,H b = some (.frz o u)→H1 b = some (.frz o u)
 tbls:∀ b ps,H b = some (.tbl ps)→∃ more,H1 b = some (.tbl (ps++more))
def CXG (P:Program) (w:World):CXT:=fun l H s E e s'=>∃ (ea C:Addr) (B:Heap) (a0:Value) (H1:Hp),e = .ref ea∧s'.os = s.os∧AllBare s'.gens∧Heap.FlyingW B l ea (.ref C) a0 s'.heap∧UnX l H H1 s.heap B s'.heap∧HOk P w H1 B∧E (.ref C) none H1
def CXH (P:Program) (w:World):CXT:=fun l H s E e s'=>∃ (ea C:Addr) (B:Heap) (a0 fl:Value) (H1:Hp),e = .ref ea∧s'.os = s.os∧AllBare s'.gens∧(B.StaysIn s'.heap∧B.get? ea = none∧s'.heap.FunFrames B l∧s'.heap.TracedAtW B ea (.ref C) a0 fl)∧UnX l H H1 s.heap B s'.heap∧HOk P w H1 B∧E (.ref C) none H1
def Threw (X:Cx) (H0 Hs0:Hp) (c:Str) (e:Value) (s':Shared):Prop :=
 ∃ (pins:List (Addr × Obj)) (τ:L2.St) (H:Hp) (s:Shared),Inv X pins τ H s ∧
  ((X.stack = X.env::X.outer∧∃ (ea C:Addr) (vs:List Value) (h':Heap) (Hs:Hp),e = .ref ea∧ClsIs X.K c C∧Grow Hs0 H0 Hs H∧Heap.MadeExcOf s.heap h' ea (.ref C) vs∧s' = { s with heap:=h' }) ∨
   CXG X.prog X.w X.stack H s (fun cls _ H1=>∃ (C:Addr) (Hs1:Hp),cls = .ref C∧ClsIs X.K c C∧Grow Hs0 H0 Hs1 H1) e s' ∨
   (X.stack = X.env::X.outer∧CXH X.prog X.w X.stack H s (fun cls _ H1=>∃ (C:Addr) (Hs1:Hp),cls = .ref C∧ClsIs X.K c C∧Grow Hs0 H0 Hs1 H1) e s'))
def ErrOk (X:Cx) (H0 Hs0:Hp) (c:Str):Prop:=∀ (e:Value) (s':Shared),Threw X H0 Hs0 c e s'→X.xe e s'
section
variable (X:Cx) (H0 Hs0:Hp)
def RE (d:DE):TE:=fun τ H Q=>∃ Hs σ,SR X.K H0 Hs0 Hs H σ τ∧Ret X.K Hs H (d σ) (ErrOk X H0 Hs0) Q
def RA (d:DA):TA:=fun τ H Q=>∃ Hs σ,SR X.K H0 Hs0 Hs H σ τ∧Rets X.K Hs H (d σ) (ErrOk X H0 Hs0) Q
def RT (d:DT):TT:=fun τ H Q=>∃ Hs σ,SR X.K H0 Hs0 Hs H σ τ∧RetB Hs H (d σ) (ErrOk X H0 Hs0) Q
def EndR (D:Ends) (Hs H:Hp):Res Fl→Prop
 | .ok (.next σ')=>∀ Hs' H' τ',Same Hs Hs'→SR X.K H0 Hs0 Hs' H' σ' τ'→D.nx τ' H'
 | .ok (.brk σ')=>∀ Hs' H' τ',Same Hs Hs'→SR X.K H0 Hs0 Hs' H' σ' τ'→D.bk τ' H'
 | .ok (.cont σ')=>∀ Hs' H' τ',Same Hs Hs'→SR X.K H0 Hs0 Hs' H' σ' τ'→D.ct τ' H'
 | .ok (.ret p)=>∀ v Hs' H',Grow Hs0 H0 Hs' H'→Rep X.K Hs' v p→D.rt v H'
 | .err c=>ErrOk X H0 Hs0 c
 | .stuck=>False
def RS (d:DS):TS:=fun D τ H=>∃ Hs σ,SR X.K H0 Hs0 Hs H σ τ∧EndR X H0 Hs0 D Hs H (d σ)
def QE (e:Expr) (d:DE):Prop:=PE X e (RE X H0 Hs0 d)
def QA (es:List Expr) (d:DA):Prop:=PA X es (RA X H0 Hs0 d)
def QT (e:Expr) (d:DT):Prop:=PT X e (RT X H0 Hs0 d)
def QW (e:Expr) (d:DT):Prop:=PW X e (RT X H0 Hs0 d)
def QS (s:Stmt) (d:DS):Prop:=PS X s (RS X H0 Hs0 d)
def QSs (s:List Stmt) (d:DS):Prop:=PSs X s (RS X H0 Hs0 d)
end
theorem PE.imp {X:Cx} {e:Expr} {t t':TE} (h:PE X e t) (m:∀ τ H Q,t' τ H Q→t τ H Q):PE X e t':=fun pins s σ H Q I q=>h pins s σ H Q I (m _ _ _ q)
theorem PA.imp {X:Cx} {e:List Expr} {t t':TA} (h:PA X e t) (m:∀ τ H Q,t' τ H Q→t τ H Q):PA X e t':=fun pos pins s σ H Q I q=>h pos pins s σ H Q I (m _ _ _ q)
theorem PT.imp {X:Cx} {e:Expr} {t t':TT} (h:PT X e t) (m:∀ τ H Q,t' τ H Q→t τ H Q):PT X e t':=fun pins s σ H Q I q=>h pins s σ H Q I (m _ _ _ q)
theorem PW.imp {X:Cx} {e:Expr} {t t':TT} (h:PW X e t) (m:∀ τ H Q,t' τ H Q→t τ H Q):PW X e t':=fun wh pins s σ H Q I q=>h wh pins s σ H Q I (m _ _ _ q)
theorem PS.imp {X:Cx} {e:Stmt} {t t':TS} (h:PS X e t) (m:∀ D τ H,t' D τ H→t D τ H):PS X e t':=fun pins s σ H D I q=>h pins s σ H D I (m _ _ _ q)
theorem PSs.imp {X:Cx} {e:List Stmt} {t t':TS} (h:PSs X e t) (m:∀ D τ H,t' D τ H→t D τ H):PSs X e t':=fun pins s σ H D I q=>h pins s σ H D I (m _ _ _ q)
def eVar (i:Nat):DE:=fun σ=>match σ[i]? with
 | some (some (.sh p))=>.ok p
 | _=>.stuck
def eC (p:PV):DE:=fun _=>.ok p
section
variable {X:Cx} {H0 Hs0:Hp}
theorem q_var {i:Nat} {x:Str} {pos:Pos} (hN:X.N[i]? = some x) (hv:Vis X.env.scope x) (hd:(x == ("__debug__":Str)) = false) (hcd:(x == ("__classdict__":Str)) = false):QE X H0 Hs0 (.Name x pos) (eVar i):=by
 refine PE.imp (pe_var hN hv hd hcd) fun τ H Q ⟨Hs,σ,S,h⟩=>?_
 unfold eVar at h
 split at h
 ·rename_i p e
  obtain ⟨v,e1,r⟩:=S.slot i _ e
  exact ⟨v,e1,h v Hs H (.refl S.g.i) r⟩
 ·exact h.elim
theorem q_int {i j pos}:QE X H0 Hs0 (.Constant (.int i) j pos) (eC (.int i)):=PE.imp pe_int fun τ H Q ⟨Hs,σ,S,h⟩=>h _ Hs H (.refl S.g.i) (.int i)
theorem q_bl {b j pos}:QE X H0 Hs0 (.Constant (.bool b) j pos) (eC (.bl b)):=PE.imp pe_bl fun τ H Q ⟨Hs,σ,S,h⟩=>h _ Hs H (.refl S.g.i) (.bl b)
theorem q_non {j pos}:QE X H0 Hs0 (.Constant .none j pos) (eC .non):=PE.imp pe_non fun τ H Q ⟨Hs,σ,S,h⟩=>h _ Hs H (.refl S.g.i) .non
theorem q_str {x j pos}:QE X H0 Hs0 (.Constant (.str x) j pos) (eC (.str x)):=PE.imp pe_str fun τ H Q ⟨Hs,σ,S,h⟩=>h _ Hs H (.refl S.g.i) (.str x)
def OpP (X:Cx) (f:Value→Value→Sem Value) (g:PV→PV→Res PV):Prop :=
 ∀ (EO:Str→Prop),OpR X f fun x y H Q=>∃ Hs p q,Same Hs H∧Rep X.K Hs x p∧Rep X.K Hs y q∧Ret X.K Hs H (g p q) EO Q
def e2 (g:PV→PV→Res PV) (a b:DE):DE:=fun σ=>(a σ).bind fun p=>(b σ).bind fun q=>g p q
variable {a b:Expr} {da db:DE} {pos:Pos}
theorem two {g:PV→PV→Res PV} {τ:L2.St} {H:Hp} {Q:VK} (h:RE X H0 Hs0 (e2 g da db) τ H Q) :
  RE X H0 Hs0 da τ H fun x H1=>RE X H0 Hs0 db τ H1 fun y H2=>∃ Hs p q,Same Hs H2∧Rep X.K Hs x p∧Rep X.K Hs y q∧Ret X.K Hs H2 (g p q) (ErrOk X H0 Hs0) Q:=by
 obtain ⟨Hs,σ,S,h⟩:=h
 refine ⟨Hs,σ,S,Ret.mono (Ret.bind h) fun x H1 ⟨Hs1,p,g1,r1,h1⟩=>?_⟩
 exact ⟨Hs1,σ,S.grow g1,Ret.mono (Ret.bind h1) fun y H2 ⟨Hs2,q,g2,r2,h2⟩=>⟨Hs2,p,q,g2.i,r1.mono g2.s,r2,h2⟩⟩
theorem q_op {op:Operator} {g:PV→PV→Res PV} (ho:OpP X (binaryOp op) g) (ha:QE X H0 Hs0 a da) (hb:QE X H0 Hs0 b db):QE X H0 Hs0 (.BinOp a op b pos) (e2 g da db) :=
 PE.imp (pe_op (ho (ErrOk X H0 Hs0)) ha hb) fun τ H Q h=>two h
theorem q_cmp {op:CmpOp} {g:PV→PV→Res PV} (ho:OpP X (compareOp op) g) (ha:QE X H0 Hs0 a da) (hb:QE X H0 Hs0 b db) (hm:behindInMarks op b = false):QE X H0 Hs0 (.Compare a [op] [b] pos) (e2 g da db) :=
 PE.imp (pe_cmpR (ho (ErrOk X H0 Hs0)) ha hb hm) fun τ H Q h=>two h
end
end G
namespace G
open PySem PySem.Spec PyProof.Rows L2
open Builtin.Int (intBits)
instance (i j:Int):Decidable (IntMulOk i j):=by unfold IntMulOk; infer_instance
def pAdd:PV→PV→Res PV
 | .int i,.int j=>.ok (.int (i + j))
 | .lst xs,.lst ys=>if xs.length + ys.length≤10000000 then .ok (.lst (xs++ys)) else .stuck
 | _,_=>.stuck
def pSub:PV→PV→Res PV
 | .int i,.int j=>.ok (.int (i - j))
 | _,_=>.stuck
def pMul:PV→PV→Res PV
 | .int i,.int j=>if IntMulOk i j then .ok (.int (i * j)) else .stuck
 | _,_=>.stuck
def pFdiv:PV→PV→Res PV
 | .int i,.int j=>if j≠0∧intBits j≤9000 then .ok (.int (i.fdiv j)) else .stuck
 | _,_=>.stuck
def pMod:PV→PV→Res PV
 | .int i,.int j=>if j≠0 then .ok (.int (i.fmod j)) else .stuck
 | _,_=>.stuck
def pPow:PV→PV→Res PV
 | .int i,.int j=>if 0≤j∧j≤1000000∧i.natAbs < 2 ^ 64 then .ok (.int (i ^ j.toNat)) else .stuck
 | _,_=>.stuck
section
variable {X:Cx}
theorem ret_int {K:PySem.W.Frag} {Hs H:Hp} {i:Int} {EO:Str→Prop} {Q:VK} (h:Ret K Hs H (.ok (.int i)) EO Q) (s:Same Hs H):Q (.int i) H:=h _ Hs H (.refl s) (.int i)
theorem ret_bl {K:PySem.W.Frag} {Hs H:Hp} {i:Bool} {EO:Str→Prop} {Q:VK} (h:Ret K Hs H (.ok (.bl i)) EO Q) (s:Same Hs H):Q (.bl i) H:=h _ Hs H (.refl s) (.bl i)
theorem log2_of_bits {j:Int} (h:intBits j≤9000):j.natAbs.log2 < 9000:=by
 unfold intBits at h
 split at h
 ·rename_i e
  have e':j = 0:=by simpa using e
  subst e'
  decide +kernel
 ·omega
theorem opp_add:OpP X (binaryOp .Add) pAdd:=by
 intro EO pins s σ H x y v u Q I rx ry h
 obtain ⟨Hs,p,q,i,rp,rq,h⟩:=h
 unfold pAdd at h
 split at h
 ·cases rp.int_inv; cases rq.int_inv
  exact op_add pins s σ H _ _ v u Q I rx ry ⟨_,_,rfl,rfl,ret_int h i⟩
 ·split at h
  ·rename_i xs ys hl
   obtain ⟨a,vs,rfl,ha,ra⟩:=rp.lst_inv
   obtain ⟨b,ws,rfl,hb,rb⟩:=rq.lst_inv
   have l1:=ra.length; have l2:=rb.length
   exact op_cat pins s σ H _ _ v u Q I rx ry ⟨a,b,vs,ws,rfl,rfl,i _ _ ha,i _ _ hb,by rw [sizeLine_eq]; omega,fun p hp=>h _ _ _ (.new i hp) (.lst upd_same (Reps.mono (same_upd (i.free hp)) (ra.append rb)))⟩
  ·exact h.elim
 ·exact h.elim
theorem opp_sub:OpP X (binaryOp .Sub) pSub:=by
 intro EO pins s σ H x y v u Q I rx ry h
 obtain ⟨Hs,p,q,i,rp,rq,h⟩:=h
 unfold pSub at h
 split at h
 ·cases rp.int_inv; cases rq.int_inv
  exact op_sub pins s σ H _ _ v u Q I rx ry ⟨_,_,rfl,rfl,ret_int h i⟩
 ·exact h.elim
theorem opp_mul:OpP X (binaryOp .Mult) pMul:=by
 intro EO pins s σ H x y v u Q I rx ry h
 obtain ⟨Hs,p,q,i,rp,rq,h⟩:=h
 unfold pMul at h
 split at h
 ·cases rp.int_inv; cases rq.int_inv
  split at h
  ·rename_i hm
   exact (opI (X:=X) (C:=fun i j=>IntMulOk i j) (g:=fun i j=>i * j) fun _ _ _ _ _ _ _ hc q=>mul_int q hc) pins s σ H _ _ v u Q I rx ry ⟨_,_,rfl,rfl,hm,ret_int h i⟩
  ·exact h.elim
 ·exact h.elim
theorem opp_fdiv:OpP X (binaryOp .FloorDiv) pFdiv:=by
 intro EO pins s σ H x y v u Q I rx ry h
 obtain ⟨Hs,p,q,i,rp,rq,h⟩:=h
 unfold pFdiv at h
 split at h
 ·cases rp.int_inv; cases rq.int_inv
  split at h
  ·rename_i hm
   exact (opI (X:=X) (C:=fun i j=>j≠0∧intBits j≤9000) (g:=fun i j=>i.fdiv j) fun _ _ _ _ _ _ _ hc q=>floordiv_int hc.1 q (.inl (PyProof.noPylong_of_log2 (log2_of_bits hc.2)))) pins s σ H _ _ v u Q I rx ry ⟨_,_,rfl,rfl,hm,ret_int h i⟩
  ·exact h.elim
 ·exact h.elim
theorem opp_mod:OpP X (binaryOp .Mod) pMod:=by
 intro EO pins s σ H x y v u Q I rx ry h
 obtain ⟨Hs,p,q,i,rp,rq,h⟩:=h
 unfold pMod at h
 split at h
 ·cases rp.int_inv; cases rq.int_inv
  split at h
  ·rename_i hm
   exact op_modN pins s σ H _ _ v u Q I rx ry ⟨_,_,rfl,rfl,hm,ret_int h i⟩
  ·exact h.elim
 ·exact h.elim
theorem opp_pow:OpP X (binaryOp .Pow) pPow:=by
 intro EO pins s σ H x y v u Q I rx ry h
 obtain ⟨Hs,p,q,i,rp,rq,h⟩:=h
 unfold pPow at h
 split at h
 ·cases rp.int_inv; cases rq.int_inv
  split at h
  ·rename_i hm
   exact op_pow pins s σ H _ _ v u Q I rx ry ⟨_,_,rfl,rfl,hm,ret_int h i⟩
  ·exact h.elim
 ·exact h.elim
def pNeg:PV→Res PV
 | .int i=>.ok (.int (-i))
 | _=>.stuck
end
end G
namespace G
open PySem PySem.Spec PyProof.Rows L2
open PySem.SeqAt
mutual
def peq:PV→PV→Bool
 | .non,.non=>true
 | .bl a,.bl b=>a == b
 | .int a,.int b=>a == b
 | .bl a,.int b=>(if a then 1 else 0) == b
 | .int a,.bl b=>a == (if b then 1 else 0)
 | .str a,.str b=>a == b
 | .tup xs,.tup ys=>peqs xs ys
 | .lst xs,.lst ys=>peqs xs ys
 | _,_=>false
def peqs:List PV→List PV→Bool
 | [],[]=>true
 | x::xs,y::ys=>peq x y && peqs xs ys
 | _,_=>false
end
def eqOk:Nat→PV→Bool
 | 0,_=>false
 | n + 1,.tup xs=>xs.all (eqOk n)
 | n + 1,.lst xs=>xs.all (eqOk n)
 | _ + 1,.dic=>false
 | _ + 1,.exc _=>false
 | _ + 1,.ob _ _ _=>false
 | _ + 1,.scr _=>false
 | _ + 1,_=>true
theorem all_range_succ (n:Nat) (e:Nat→Bool):(List.range (n + 1)).all e = (e 0 && (List.range n).all fun j=>e (j + 1)):=by
 rw [List.range_succ_eq_map,List.all_cons,List.all_map]; rfl
theorem peqs_range:∀ (ps qs:List PV),peqs ps qs = ((List.range (min ps.length qs.length)).all (fun j=>peq (ps.getD j .non) (qs.getD j .non)) && (ps.length == qs.length))
 | [],[]=>by simp [peqs]
 | [],q::qs=>by simp [peqs]
 | p::ps,[]=>by simp [peqs]
 | p::ps,q::qs=>by
  have h:=peqs_range ps qs
  show (peq p q && peqs ps qs) = _
  rw [h,List.length_cons,List.length_cons,Nat.succ_min_succ,all_range_succ]
  simp [Bool.and_assoc]
theorem peqs_len {ps qs:List PV} (h:ps.length≠qs.length):peqs ps qs = false:=by
 rw [peqs_range]
 have:(ps.length == qs.length) = false:=by simpa using h
 rw [this,Bool.and_false]
section
variable {X:Cx} {pins:List (Addr × Obj)} {τ:L2.St} {H:Hp} {s:Shared}
theorem lst_is (I:Inv X pins τ H s) {a:Addr} {xs:List V} (h:H a = some (.lst xs)):∃ its:List Value,Vals xs its∧s.heap.IsList a its.toArray:=by
 obtain ⟨z,its,n,r,_,e⟩:=I.lstM h
 exact ⟨its,r,⟨_,e,rfl,n,rfl⟩⟩
theorem tup_is (I:Inv X pins τ H s) {a:Addr} {xs:List V} (h:SqT X.K H a xs):∃ its:List Value,Vals xs its∧s.heap.IsTuple a its.toArray:=by
 obtain ⟨its,r,p,z⟩:=I.tuple h
 exact ⟨its,r,p⟩
theorem lst_not_tup (I:Inv X pins τ H s) {a:Addr} {xs ys:List V} (h:H a = some (.lst xs)) (h':SqT X.K H a ys):False:=by
 obtain ⟨its,r,o,e,c,_⟩:=lst_is I h
 obtain ⟨its',r',o',e',c',_⟩:=tup_is I h'
 rw [e] at e'; cases e'
 rw [c] at c'
 injection c' with z
 exact absurd z (by decide)
theorem rep_same (I:Inv X pins τ H s):∀ (n:Nat) (p q:PV) (x:V),eqOk n p = true→eqOk n q = true→Rep X.K H x p→Rep X.K H x q→peq p q = true:=by
 intro n
 induction n with
 | zero=>intro p q x h; cases h
 | succ n ih =>
  have lists:∀ (xs:List V) (ps qs:List PV),ps.all (eqOk n) = true→qs.all (eqOk n) = true→Reps X.K H xs ps→Reps X.K H xs qs→peqs ps qs = true:=by
   intro xs
   induction xs with
   | nil=>intro ps qs _ _ r r'; cases r; cases r'; rfl
   | cons x xs ihx =>
    intro ps qs h h' r r'
    cases r with
    | cons r t =>
     cases r' with
     | cons r' t' =>
      rw [List.all_cons,Bool.and_eq_true] at h h'
      show (peq _ _ && peqs _ _) = true
      rw [ih _ _ _ h.1 h'.1 r r',ihx _ _ h.2 h'.2 t t']; rfl
  intro p q x h h' r r'
  cases r with
  | non=>cases r'; rfl
  | bl b=>cases r'; simp [peq]
  | int i=>cases r'; simp [peq]
  | str y=>cases r'; simp [peq]
  | tup e t =>
   cases r' with
   | tup e' t' =>
    have z:=I.tuple_inj e e'
    subst z
    exact lists _ _ _ h h' t t'
   | lst e' t'=>exact (lst_not_tup I e' e).elim
   | scr _=>cases h'
   | dic _=>cases h'
   | exc _ _=>cases h'
   | ob _ _ _ _ _=>cases h'
  | lst e t =>
   cases r' with
   | lst e' t' =>
    rw [e] at e'; cases e'
    exact lists _ _ _ h h' t t'
   | tup e' t'=>exact (lst_not_tup I e e').elim
   | scr _=>cases h'
   | dic _=>cases h'
   | exc _ _=>cases h'
   | ob _ _ _ _ _=>cases h'
  | scr _=>cases h
  | dic _=>cases h
  | exc _ _=>cases h
  | ob _ _ _ _ _=>cases h
theorem getD_of {ps:List PV} {xs:List V} {its:List Value} (r:Reps X.K H xs ps) (rv:Vals xs its) {j:Nat} (h:j < its.toArray.size) :
  ∃ v,RelV v its.toArray[j]∧Rep X.K H v (ps.getD j .non)∧ps.getD j .non∈ps:=by
 have l1:=r.length; have l2:=rv.length
 simp only [List.size_toArray] at h
 have hp:ps[j]? = some ps[j]:=List.getElem?_eq_getElem (by omega)
 obtain ⟨v,hv,rp⟩:=r.get hp
 obtain ⟨u,hu,ru⟩:=rv.get hv
 have e:its.toArray[j] = u:=by
  simp only [List.getElem_toArray]
  rw [List.getElem?_eq_getElem h] at hu
  exact Option.some.inj hu
 refine ⟨v,by rw [e]; exact ru,?_,?_⟩
 ·rw [List.getD_eq_getElem?_getD,hp]; exact rp
 ·rw [List.getD_eq_getElem?_getD,hp]; exact List.getElem_mem _
set_option maxHeartbeats 4000000 in
theorem deep (I:Inv X pins τ H s):∀ (n:Nat),(∀ (A:Around) (p q:PV) (x y:V) (v u:Value),A.units + n < cLine→eqOk n p = true→eqOk n q = true→Rep X.K H x p→Rep X.K H y q→RelV x v→RelV y u →
  RcAt A s v u (peq p q)∧RcNeAt A s v u (!peq p q)∧EqAt A s v u (peq p q)):=by
 intro n
 induction n with
 | zero=>intro A p q x y v u _ h; cases h
 | succ n ih =>
  have items:∀ (A:Around) {xs ys:List V} {ps qs:List PV} {its jts:List Value},A.units + (n + 1) < cLine→ps.all (eqOk n) = true→qs.all (eqOk n) = true→Reps X.K H xs ps→Reps X.K H ys qs→Vals xs its→Vals ys jts →
    ∀ j (h1:j < its.toArray.size) (h2:j < jts.toArray.size),EqAt A.in1 s its.toArray[j] jts.toArray[j] (peq (ps.getD j .non) (qs.getD j .non)):=by
   intro A xs ys ps qs its jts hu h h' r r' rv rv' j h1 h2
   obtain ⟨v1,a1,b1,c1⟩:=getD_of r rv h1
   obtain ⟨v2,a2,b2,c2⟩:=getD_of r' rv' h2
   exact (ih A.in1 _ _ v1 v2 _ _ (by show A.units + 1 + n < cLine; omega) (List.all_eq_true.mp h _ c1) (List.all_eq_true.mp h' _ c2) b1 b2 a1 a2).2.2
  intro A p q x y v u hu hp hq rp rq rx ry
  have hu':A.units < cLine:=by omega
  have sc:∀ {b:Bool},RcAt A s v u b∧RcNeAt A s v u (!b)∧EqAt A s v u b→b = peq p q→RcAt A s v u (peq p q)∧RcNeAt A s v u (!peq p q)∧EqAt A s v u (peq p q):=fun h e=>e ▸ h
  cases rp with
  | dic _=>cases hp
  | exc _ _=>cases hp
  | ob _ _ _ _ _=>cases hp
  | scr _=>cases hp
  | non =>
   cases rx
   cases rq with
   | dic _=>cases hq
   | exc _ _=>cases hq
   | ob _ _ _ _ _=>cases hq
   | scr _=>cases hq
   | non=>cases ry; exact sc ⟨RcAt.none_none,RcNeAt.none_none,EqAt.same _⟩ rfl
   | bl b=>cases ry; exact sc ⟨RcAt.none_bool _,RcNeAt.none_bool _,EqAt.none_bool _⟩ rfl
   | int i=>obtain ⟨t,rfl⟩:=ry; exact sc ⟨RcAt.none_int _ _,RcNeAt.none_int _ _,EqAt.none_int _ _⟩ rfl
   | str z=>obtain ⟨t,rfl⟩:=ry; exact sc ⟨RcAt.none_str _ _,RcNeAt.none_str _ _,EqAt.none_str _ _⟩ rfl
   | tup e t=>cases ry; obtain ⟨its,rv,hl⟩:=tup_is I e; exact sc ⟨RcAt.none_tuple hl hu',RcNeAt.none_tuple hl hu',EqAt.none_tuple hl hu'⟩ rfl
   | lst e t=>cases ry; obtain ⟨its,rv,hl⟩:=lst_is I e; exact sc ⟨RcAt.none_list hl hu',RcNeAt.none_list hl hu',EqAt.none_list hl hu'⟩ rfl
  | bl a =>
   cases rx
   cases rq with
   | dic _=>cases hq
   | exc _ _=>cases hq
   | ob _ _ _ _ _=>cases hq
   | scr _=>cases hq
   | non=>cases ry; exact sc ⟨RcAt.bool_none _,RcNeAt.bool_none _,EqAt.bool_none _⟩ rfl
   | bl b=>cases ry; exact sc ⟨RcAt.bool_bool _ _,RcNeAt.bool_bool _ _,EqAt.bool_bool _ _⟩ (by simp [peq])
   | int i=>obtain ⟨t,rfl⟩:=ry; exact sc ⟨RcAt.bool_int _ _ _,RcNeAt.bool_int _ _ _,EqAt.bool_int _ _ _⟩ (by simp [peq])
   | str z=>obtain ⟨t,rfl⟩:=ry; exact sc ⟨RcAt.bool_str _ _ _,RcNeAt.bool_str _ _ _,EqAt.bool_str _ _ _⟩ rfl
   | tup e t=>cases ry; obtain ⟨its,rv,hl⟩:=tup_is I e; exact sc ⟨RcAt.bool_tuple _ hl hu',RcNeAt.bool_tuple _ hl hu',EqAt.bool_tuple _ hl hu'⟩ rfl
   | lst e t=>cases ry; obtain ⟨its,rv,hl⟩:=lst_is I e; exact sc ⟨RcAt.bool_list _ hl hu',RcNeAt.bool_list _ hl hu',EqAt.bool_list _ hl hu'⟩ rfl
  | int a =>
   obtain ⟨tt,rfl⟩:=rx
   cases rq with
   | dic _=>cases hq
   | exc _ _=>cases hq
   | ob _ _ _ _ _=>cases hq
   | scr _=>cases hq
   | non=>cases ry; exact sc ⟨RcAt.int_none _ _,RcNeAt.int_none _ _,EqAt.int_none _ _⟩ rfl
   | bl b=>cases ry; exact sc ⟨RcAt.int_bool _ _ _,RcNeAt.int_bool _ _ _,EqAt.int_bool _ _ _⟩ (by simp [peq])
   | int i=>obtain ⟨t,rfl⟩:=ry; exact sc ⟨RcAt.int_int _ _ _ _,RcNeAt.int_int _ _ _ _,EqAt.int_int _ _ _ _⟩ (by simp [peq])
   | str z=>obtain ⟨t,rfl⟩:=ry; exact sc ⟨RcAt.int_str _ _ _ _,RcNeAt.int_str _ _ _ _,EqAt.int_str _ _ _ _⟩ rfl
   | tup e t=>cases ry; obtain ⟨its,rv,hl⟩:=tup_is I e; exact sc ⟨RcAt.int_tuple _ _ hl hu',RcNeAt.int_tuple _ _ hl hu',EqAt.int_tuple _ _ hl hu'⟩ rfl
   | lst e t=>cases ry; obtain ⟨its,rv,hl⟩:=lst_is I e; exact sc ⟨RcAt.int_list _ _ hl hu',RcNeAt.int_list _ _ hl hu',EqAt.int_list _ _ hl hu'⟩ rfl
  | str a =>
   obtain ⟨tt,rfl⟩:=rx
   cases rq with
   | dic _=>cases hq
   | exc _ _=>cases hq
   | ob _ _ _ _ _=>cases hq
   | scr _=>cases hq
   | non=>cases ry; exact sc ⟨RcAt.str_none _ _,RcNeAt.str_none _ _,EqAt.str_none _ _⟩ rfl
   | bl b=>cases ry; exact sc ⟨RcAt.str_bool _ _ _,RcNeAt.str_bool _ _ _,EqAt.str_bool _ _ _⟩ rfl
   | int i=>obtain ⟨t,rfl⟩:=ry; exact sc ⟨RcAt.str_int _ _ _ _,RcNeAt.str_int _ _ _ _,EqAt.str_int _ _ _ _⟩ rfl
   | str z=>obtain ⟨t,rfl⟩:=ry; exact sc ⟨RcAt.str_str _ _ _ _,RcNeAt.str_str _ _ _ _,EqAt.str_str _ _ _ _⟩ (by simp [peq])
   | tup e t=>cases ry; obtain ⟨its,rv,hl⟩:=tup_is I e; exact sc ⟨RcAt.str_tuple _ _ hl hu',RcNeAt.str_tuple _ _ hl hu',EqAt.str_tuple _ _ hl hu'⟩ rfl
   | lst e t=>cases ry; obtain ⟨its,rv,hl⟩:=lst_is I e; exact sc ⟨RcAt.str_list _ _ hl hu',RcNeAt.str_list _ _ hl hu',EqAt.str_list _ _ hl hu'⟩ rfl
  | @tup a xs ps e t =>
   cases rx
   obtain ⟨its,rv,hl⟩:=tup_is I e
   cases rq with
   | dic _=>cases hq
   | exc _ _=>cases hq
   | ob _ _ _ _ _=>cases hq
   | scr _=>cases hq
   | non=>cases ry; exact sc ⟨RcAt.tuple_none hl hu',RcNeAt.tuple_none hl hu',EqAt.tuple_none hl hu'⟩ rfl
   | bl b=>cases ry; exact sc ⟨RcAt.tuple_bool _ hl hu',RcNeAt.tuple_bool _ hl hu',EqAt.tuple_bool _ hl hu'⟩ rfl
   | int i=>obtain ⟨t,rfl⟩:=ry; exact sc ⟨RcAt.tuple_int _ _ hl hu',RcNeAt.tuple_int _ _ hl hu',EqAt.tuple_int _ _ hl hu'⟩ rfl
   | str z=>obtain ⟨t,rfl⟩:=ry; exact sc ⟨RcAt.tuple_str _ _ hl hu',RcNeAt.tuple_str _ _ hl hu',EqAt.tuple_str _ _ hl hu'⟩ rfl
   | lst e' t'=>cases ry; obtain ⟨jts,rw',hl'⟩:=lst_is I e'; exact sc ⟨RcAt.tuple_list hl hl' hu',RcNeAt.tuple_list hl hl' hu',EqAt.tuple_list hl hl' hu'⟩ rfl
   | @tup b ys qs e' t' =>
    cases ry
    obtain ⟨jts,rw',hl'⟩:=tup_is I e'
    have it:=items A (by omega) hp hq t t' rv rw'
    have n1:its.toArray.size = ps.length:=by rw [List.size_toArray,← rv.length,t.length]
    have n2:jts.toArray.size = qs.length:=by rw [List.size_toArray,← rw'.length,t'.length]
    have h1:=RcAt.tuples hl hl' hu' it
    have h2:=RcNeAt.tuples hl hl' hu' it
    rw [n1,n2,← peqs_range] at h1 h2
    refine ⟨h1,h2,?_⟩
    by_cases hab:a = b
    ·subst hab
     have z:=rep_same I (n + 1) _ _ _ hp hq (.tup e t) (.tup e' t')
     rw [z]; exact EqAt.same _
    ·exact EqAt.of_refs hab h1
  | @lst a xs ps e t =>
   cases rx
   obtain ⟨its,rv,hl⟩:=lst_is I e
   cases rq with
   | dic _=>cases hq
   | exc _ _=>cases hq
   | ob _ _ _ _ _=>cases hq
   | scr _=>cases hq
   | non=>cases ry; exact sc ⟨RcAt.list_none hl hu',RcNeAt.list_none hl hu',EqAt.list_none hl hu'⟩ rfl
   | bl b=>cases ry; exact sc ⟨RcAt.list_bool _ hl hu',RcNeAt.list_bool _ hl hu',EqAt.list_bool _ hl hu'⟩ rfl
   | int i=>obtain ⟨t,rfl⟩:=ry; exact sc ⟨RcAt.list_int _ _ hl hu',RcNeAt.list_int _ _ hl hu',EqAt.list_int _ _ hl hu'⟩ rfl
   | str z=>obtain ⟨t,rfl⟩:=ry; exact sc ⟨RcAt.list_str _ _ hl hu',RcNeAt.list_str _ _ hl hu',EqAt.list_str _ _ hl hu'⟩ rfl
   | tup e' t'=>cases ry; obtain ⟨jts,rw',hl'⟩:=tup_is I e'; exact sc ⟨RcAt.list_tuple hl hl' hu',RcNeAt.list_tuple hl hl' hu',EqAt.list_tuple hl hl' hu'⟩ rfl
   | @lst b ys qs e' t' =>
    cases ry
    obtain ⟨jts,rw',hl'⟩:=lst_is I e'
    have it:=items A (by omega) hp hq t t' rv rw'
    have n1:its.toArray.size = ps.length:=by rw [List.size_toArray,← rv.length,t.length]
    have n2:jts.toArray.size = qs.length:=by rw [List.size_toArray,← rw'.length,t'.length]
    have h12:RcAt A s (.ref a) (.ref b) (peqs ps qs)∧RcNeAt A s (.ref a) (.ref b) (!peqs ps qs):=by
     by_cases hl2:ps.length = qs.length
     ·have h1:=RcAt.lists hl hl' (by rw [n1,n2,hl2]) hu' it
      have h2:=RcNeAt.lists hl hl' (by rw [n1,n2,hl2]) hu' it
      have ee:(List.range its.toArray.size).all (fun j=>peq (ps.getD j .non) (qs.getD j .non)) = peqs ps qs:=by
       rw [peqs_range,n1,← hl2,Nat.min_self]; simp
      rw [ee] at h1 h2
      exact ⟨h1,h2⟩
     ·rw [peqs_len hl2]
      have hne:(its.toArray.size != jts.toArray.size) = true:=by rw [n1,n2]; simpa using hl2
      exact ⟨RcAt.lists_lengths hl hl' hne hu',RcNeAt.lists_lengths hl hl' hne hu'⟩
    refine ⟨h12.1,h12.2,?_⟩
    by_cases hab:a = b
    ·subst hab
     have z:=rep_same I (n + 1) _ _ _ hp hq (.lst e t) (.lst e' t')
     rw [z]; exact EqAt.same _
    ·exact EqAt.of_refs hab h12.1
end
def pEq (p q:PV):Res PV:=if eqOk 20 p = true∧eqOk 20 q = true then .ok (.bl (peq p q)) else .stuck
def pNe (p q:PV):Res PV:=if eqOk 20 p = true∧eqOk 20 q = true then .ok (.bl (!peq p q)) else .stuck
section
variable {X:Cx}
theorem opp_eq (hu:X.A.units + 20 < cLine):OpP X (compareOp .Eq) pEq:=by
 intro EO pins s σ H x y v u Q I rx ry h
 obtain ⟨Hs,p,q,i,rp,rq,h⟩:=h
 unfold pEq at h
 split at h
 ·rename_i hc
  exact (deep I 20 X.A p q x y v u hu hc.1 hc.2 (rp.mono i) (rq.mono i) rx ry).1 _ _ _ _ ⟨.bl _,H,I,rfl,ret_bl h i⟩
 ·exact h.elim
theorem opp_ne (hu:X.A.units + 20 < cLine):OpP X (compareOp .NotEq) pNe:=by
 intro EO pins s σ H x y v u Q I rx ry h
 obtain ⟨Hs,p,q,i,rp,rq,h⟩:=h
 unfold pNe at h
 split at h
 ·rename_i hc
  exact (deep I 20 X.A p q x y v u hu hc.1 hc.2 (rp.mono i) (rq.mono i) rx ry).2.1 _ _ _ _ ⟨.bl _,H,I,rfl,ret_bl h i⟩
 ·exact h.elim
end
end G
namespace G
open PySem PySem.Spec PyProof.Rows L2
def pCmp (f:Int→Int→Bool):PV→PV→Res PV
 | .int i,.int j=>.ok (.bl (f i j))
 | _,_=>.stuck
def isNon:PV→Bool
 | .non=>true
 | _=>false
def pIs:PV→PV→Res PV
 | p,.non=>.ok (.bl (isNon p))
 | _,_=>.stuck
def pIsNot:PV→PV→Res PV
 | p,.non=>.ok (.bl (!isNon p))
 | _,_=>.stuck
def e1 (g:PV→Res PV) (a:DE):DE:=fun σ=>(a σ).bind g
section
variable {X:Cx} {H0 Hs0:Hp}
theorem opp_cmp {op:CmpOp} {f:Int→Int→Bool} (h:OpR X (compareOp op) (rI0 fun i j=>.bl (f i j))):OpP X (compareOp op) (pCmp f):=by
 intro EO pins s σ H x y v u Q I rx ry hh
 obtain ⟨Hs,p,q,i,rp,rq,hh⟩:=hh
 unfold pCmp at hh
 split at hh
 ·cases rp.int_inv; cases rq.int_inv
  exact h pins s σ H _ _ v u Q I rx ry ⟨_,_,rfl,rfl,ret_bl hh i⟩
 ·exact hh.elim
theorem opp_lt:OpP X (compareOp .Lt) (pCmp fun i j=>decide (i < j)):=opp_cmp op_lt
theorem opp_le:OpP X (compareOp .LtE) (pCmp fun i j=>decide (i≤j)):=opp_cmp op_le
theorem opp_gt:OpP X (compareOp .Gt) (pCmp fun i j=>decide (j < i)):=opp_cmp op_gt
theorem rep_non {K:PySem.W.Frag} {H:Hp} {x:V} {p:PV} (r:Rep K H x p):decide (x = .non) = isNon p:=by
 cases r <;> simp [isNon]
theorem opp_is:OpP X (compareOp .Is) pIs:=by
 intro EO pins s σ H x y v u Q I rx ry hh
 obtain ⟨Hs,p,q,i,rp,rq,hh⟩:=hh
 unfold pIs at hh
 split at hh
 ·cases rq.non_inv
  refine op_isN pins s σ H _ _ v u Q I rx ry ⟨rfl,?_⟩
  rw [rep_non rp]; exact ret_bl hh i
 ·exact hh.elim
theorem opp_isnot:OpP X (compareOp .IsNot) pIsNot:=by
 intro EO pins s σ H x y v u Q I rx ry hh
 obtain ⟨Hs,p,q,i,rp,rq,hh⟩:=hh
 unfold pIsNot at hh
 split at hh
 ·cases rq.non_inv
  refine op_notN pins s σ H _ _ v u Q I rx ry ⟨rfl,?_⟩
  rw [rep_non rp]; exact ret_bl hh i
 ·exact hh.elim
variable {a b c:Expr} {da db dc:DE} {pos:Pos}
theorem one {g:PV→Res PV} {τ:L2.St} {H:Hp} {Q:VK} (h:RE X H0 Hs0 (e1 g da) τ H Q) :
  RE X H0 Hs0 da τ H fun x H1=>∃ Hs p,Same Hs H1∧Rep X.K Hs x p∧Ret X.K Hs H1 (g p) (ErrOk X H0 Hs0) Q:=by
 obtain ⟨Hs,σ,S,h⟩:=h
 exact ⟨Hs,σ,S,Ret.mono (Ret.bind h) fun x H1 ⟨Hs1,p,g1,r1,h1⟩=>⟨Hs1,p,g1.i,r1,h1⟩⟩
theorem q_neg (ha:QE X H0 Hs0 a da):QE X H0 Hs0 (.UnaryOp .USub a pos) (e1 pNeg da) :=
 PE.imp (pe_un un_neg ha) fun τ H Q h=>by
  obtain ⟨Hs,σ,S,h⟩:=one h
  refine ⟨Hs,σ,S,Ret.mono h fun x H1 ⟨Hs1,p,i,r,h1⟩=>?_⟩
  unfold pNeg at h1
  split at h1
  ·cases r.int_inv; exact ⟨_,rfl,ret_int h1 i⟩
  ·exact h1.elim
def asB:PV→Res Bool
 | .bl b=>.ok b
 | _=>.stuck
def tV (d:DE):DT:=fun σ=>(d σ).bind asB
def tAnd (a b:DT):DT:=fun σ=>(a σ).bind fun c=>if c = true then b σ else .ok false
def tOr (a b:DT):DT:=fun σ=>(a σ).bind fun c=>if c = true then .ok true else b σ
def tNot (a:DT):DT:=fun σ=>(a σ).bind fun c=>.ok (!c)
theorem val_test {τ:L2.St} {H:Hp} {Q:Bool→Hp→Prop} (h:RT X H0 Hs0 (tV da) τ H Q):RE X H0 Hs0 da τ H fun x H1=>∃ k,x = .bl k∧Q k H1:=by
 obtain ⟨Hs,σ,S,h⟩:=h
 refine ⟨Hs,σ,S,?_⟩
 unfold tV at h
 generalize da σ = r at h ⊢
 cases r with
 | ok p =>
  cases p with
  | bl k=>exact fun v Hs' H' g r=>⟨k,r.bl_inv,h Hs' H' g⟩
  | _=>exact h.elim
 | err c=>exact h
 | stuck=>exact h
theorem qt_val (ha:QE X H0 Hs0 a da) (he:∀ whole,isTrue a X.env whole = (do let v ← whole; standAt a.pos; holding [v] (truthy v))):QT X H0 Hs0 a (tV da) :=
 PT.imp (pt_val ha he) fun τ H Q h=>val_test h
theorem qt_cmp {op:CmpOp} {g:PV→PV→Res PV} (ho:OpP X (compareOp op) g) (ha:QE X H0 Hs0 a da) (hb:QE X H0 Hs0 b db) (hm:behindInMarks op b = false):QT X H0 Hs0 (.Compare a [op] [b] pos) (tV (e2 g da db)) :=
 PT.imp (pt_cmpR (ho (ErrOk X H0 Hs0)) ha hb hm) fun τ H Q h=>two (val_test h)
theorem RetB.mono {Hs H:Hp} {r:Res Bool} {EO:Str→Prop} {Q Q':Bool→Hp→Prop} (h:RetB Hs H r EO Q) (m:∀ v H',Q v H'→Q' v H'):RetB Hs H r EO Q':=by
 cases r with
 | ok p=>exact fun Hs' H' g=>m _ _ (h Hs' H' g)
 | err c=>exact h
 | stuck=>exact h
variable {ta tb:DT} {rest:List Expr}
theorem and_read {τ:L2.St} {H:Hp} {Q:Bool→Hp→Prop} (h:RT X H0 Hs0 (tAnd ta tb) τ H Q):RT X H0 Hs0 ta τ H fun c H1=>if c = true then RT X H0 Hs0 tb τ H1 Q else Q false H1:=by
 obtain ⟨Hs,σ,S,h⟩:=h
 refine ⟨Hs,σ,S,RetB.mono (RetB.bind h) fun c H1 ⟨Hs1,g1,h1⟩=>?_⟩
 cases c with
 | true=>exact ⟨Hs1,σ,S.grow g1,h1⟩
 | false=>exact h1 Hs1 H1 (.refl g1.i)
theorem or_read {τ:L2.St} {H:Hp} {Q:Bool→Hp→Prop} (h:RT X H0 Hs0 (tOr ta tb) τ H Q):RT X H0 Hs0 ta τ H fun c H1=>if c = true then Q true H1 else RT X H0 Hs0 tb τ H1 Q:=by
 obtain ⟨Hs,σ,S,h⟩:=h
 refine ⟨Hs,σ,S,RetB.mono (RetB.bind h) fun c H1 ⟨Hs1,g1,h1⟩=>?_⟩
 cases c with
 | true=>exact h1 Hs1 H1 (.refl g1.i)
 | false=>exact ⟨Hs1,σ,S.grow g1,h1⟩
theorem qw_and1 (ha:QT X H0 Hs0 a ta):QW X H0 Hs0 (.BoolOp .And [a] pos) ta:=pw_and1 ha
theorem qw_or1 (ha:QT X H0 Hs0 a ta):QW X H0 Hs0 (.BoolOp .Or [a] pos) ta:=pw_or1 ha
theorem qw_and (ha:QT X H0 Hs0 a ta) (hb:QW X H0 Hs0 (.BoolOp .And (b::rest) pos) tb):QW X H0 Hs0 (.BoolOp .And (a::b::rest) pos) (tAnd ta tb):=PW.imp (pw_and ha hb) fun _ _ _ h=>and_read h
theorem qw_or (ha:QT X H0 Hs0 a ta) (hb:QW X H0 Hs0 (.BoolOp .Or (b::rest) pos) tb):QW X H0 Hs0 (.BoolOp .Or (a::b::rest) pos) (tOr ta tb):=PW.imp (pw_or ha hb) fun _ _ _ h=>or_read h
theorem QW.qt (h:QW X H0 Hs0 a ta):QT X H0 Hs0 a ta:=PW.pt h
theorem qt_not (ha:QT X H0 Hs0 a ta):QT X H0 Hs0 (.UnaryOp .Not a pos) (tNot ta):=PT.imp (pt_not ha) fun τ H Q h=>by
 obtain ⟨Hs,σ,S,h⟩:=h
 exact ⟨Hs,σ,S,RetB.mono (RetB.bind h) fun c H1 ⟨Hs1,g1,h1⟩=>h1 Hs1 H1 (.refl g1.i)⟩
def eAnd (a b:DE):DE:=fun σ=>(a σ).bind fun p=>(asB p).bind fun c=>if c = true then b σ else .ok (.bl false)
def eOr (a b:DE):DE:=fun σ=>(a σ).bind fun p=>(asB p).bind fun c=>if c = true then .ok (.bl true) else b σ
def pNot (p:PV):Res PV:=(asB p).bind fun c=>.ok (.bl (!c))
theorem q_one {op:BoolOp} (ha:QE X H0 Hs0 a da):QE X H0 Hs0 (.BoolOp op [a] pos) da:=pe_one ha
theorem bool_split {p:PV} {K:PySem.W.Frag} {Hs H:Hp} {x:V} {f:Bool→Res PV} {EO:Str→Prop} {Q:VK} (r:Rep K Hs x p) (h:Ret K Hs H ((asB p).bind f) EO Q):∃ c,x = .bl c∧Ret K Hs H (f c) EO Q:=by
 cases p with
 | bl c=>exact ⟨c,r.bl_inv,h⟩
 | _=>exact h.elim
theorem q_and (ha:QE X H0 Hs0 a da) (hb:QE X H0 Hs0 (.BoolOp .And (b::rest) pos) db):QE X H0 Hs0 (.BoolOp .And (a::b::rest) pos) (eAnd da db) :=
 PE.imp (pe_and ha hb) fun τ H Q ⟨Hs,σ,S,h⟩=>⟨Hs,σ,S,Ret.mono (Ret.bind h) fun x H1 ⟨Hs1,p,g1,r1,h1⟩=>by
  obtain ⟨c,e,h2⟩:=bool_split r1 h1
  refine ⟨c,e,?_⟩
  cases c with
  | true=>exact ⟨Hs1,σ,S.grow g1,h2⟩
  | false=>exact ret_bl h2 g1.i⟩
theorem q_or (ha:QE X H0 Hs0 a da) (hb:QE X H0 Hs0 (.BoolOp .Or (b::rest) pos) db):QE X H0 Hs0 (.BoolOp .Or (a::b::rest) pos) (eOr da db) :=
 PE.imp (pe_or ha hb) fun τ H Q ⟨Hs,σ,S,h⟩=>⟨Hs,σ,S,Ret.mono (Ret.bind h) fun x H1 ⟨Hs1,p,g1,r1,h1⟩=>by
  obtain ⟨c,e,h2⟩:=bool_split r1 h1
  refine ⟨c,e,?_⟩
  cases c with
  | true=>exact ret_bl h2 g1.i
  | false=>exact ⟨Hs1,σ,S.grow g1,h2⟩⟩
theorem q_not (ha:QE X H0 Hs0 a da):QE X H0 Hs0 (.UnaryOp .Not a pos) (e1 pNot da) :=
 PE.imp (pe_not ha) fun τ H Q h=>by
  obtain ⟨Hs,σ,S,h⟩:=one h
  refine ⟨Hs,σ,S,Ret.mono h fun x H1 ⟨Hs1,p,i,r,h1⟩=>?_⟩
  obtain ⟨c,e,h2⟩:=bool_split r h1
  exact ⟨c,e,ret_bl h2 i⟩
def eIf (t:DT) (a b:DE):DE:=fun σ=>(t σ).bind fun c=>if c = true then a σ else b σ
theorem Ret.bindB {K:PySem.W.Frag} {Hs H:Hp} {r:Res Bool} {f:Bool→Res PV} {EO:Str→Prop} {Q:VK} (h:Ret K Hs H (r.bind f) EO Q) :
  RetB Hs H r EO fun b H1=>∃ Hs1,Grow Hs H Hs1 H1∧Ret K Hs1 H1 (f b) EO Q:=by
 cases r with
 | ok p=>exact fun Hs' H' g=>⟨Hs',g,Ret.grow (r:=f p) h g⟩
 | err c=>exact h
 | stuck=>exact h
theorem q_ifExp (hc:QT X H0 Hs0 c ta) (ha:QE X H0 Hs0 a da) (hb:QE X H0 Hs0 b db):QE X H0 Hs0 (.IfExp c a b pos) (eIf ta da db) :=
 PE.imp (pe_ifExp hc ha hb) fun τ H Q ⟨Hs,σ,S,h⟩=>⟨Hs,σ,S,RetB.mono (Ret.bindB h) fun k H1 ⟨Hs1,g1,h1⟩=>by
  cases k with
  | true=>exact ⟨Hs1,σ,S.grow g1,h1⟩
  | false=>exact ⟨Hs1,σ,S.grow g1,h1⟩⟩
def aNil:DA:=fun _=>.ok []
def aCons (a:DE) (r:DA):DA:=fun σ=>(a σ).bind fun p=>(r σ).bind fun ps=>.ok (p::ps)
theorem Rets.mono {K:PySem.W.Frag} {Hs H:Hp} {r:Res (List PV)} {EO:Str→Prop} {Q Q':List V→Hp→Prop} (h:Rets K Hs H r EO Q) (m:∀ v H',Q v H'→Q' v H'):Rets K Hs H r EO Q':=by
 cases r with
 | ok p=>exact fun v Hs' H' g r=>m _ _ (h v Hs' H' g r)
 | err c=>exact h
 | stuck=>exact h
theorem Rets.grow {K:PySem.W.Frag} {Hs H Hs1 H1:Hp} {r:Res (List PV)} {EO:Str→Prop} {Q:List V→Hp→Prop} (h:Rets K Hs H r EO Q) (g:Grow Hs H Hs1 H1):Rets K Hs1 H1 r EO Q:=by
 cases r with
 | ok p=>exact fun v Hs' H' g' r=>h v Hs' H' (g.trans g') r
 | err c=>exact h
 | stuck=>exact h
theorem Rets.bind1 {K:PySem.W.Frag} {Hs H:Hp} {r:Res PV} {f:PV→Res (List PV)} {EO:Str→Prop} {Q:List V→Hp→Prop} (h:Rets K Hs H (r.bind f) EO Q) :
  Ret K Hs H r EO fun v H1=>∃ Hs1 p,Grow Hs H Hs1 H1∧Rep K Hs1 v p∧Rets K Hs1 H1 (f p) EO Q:=by
 cases r with
 | ok p=>exact fun v Hs' H' g r=>⟨Hs',p,g,r,Rets.grow (r:=f p) h g⟩
 | err c=>exact h
 | stuck=>exact h
theorem Ret.bindA {K:PySem.W.Frag} {Hs H:Hp} {r:Res (List PV)} {f:List PV→Res PV} {EO:Str→Prop} {Q:VK} (h:Ret K Hs H (r.bind f) EO Q) :
  Rets K Hs H r EO fun v H1=>∃ Hs1 p,Grow Hs H Hs1 H1∧Reps K Hs1 v p∧Ret K Hs1 H1 (f p) EO Q:=by
 cases r with
 | ok p=>exact fun v Hs' H' g r=>⟨Hs',p,g,r,Ret.grow (r:=f p) h g⟩
 | err c=>exact h
 | stuck=>exact h
theorem qa_nil:QA X H0 Hs0 [] aNil:=PA.imp pa_nil fun τ H Q ⟨Hs,σ,S,h⟩=>h [] Hs H (.refl S.g.i) .nil
theorem cons_read {ra:DA} {τ:L2.St} {H:Hp} {Q:List V→Hp→Prop} (h:RA X H0 Hs0 (aCons da ra) τ H Q):tCons (RE X H0 Hs0 da) (RA X H0 Hs0 ra) τ H Q:=by
 obtain ⟨Hs,σ,S,h⟩:=h
 refine ⟨Hs,σ,S,Ret.mono (Rets.bind1 h) fun x H1 ⟨Hs1,p,g1,r1,h1⟩=>⟨Hs1,σ,S.grow g1,?_⟩⟩
 revert h1
 generalize ra σ = r
 intro h1
 cases r with
 | ok ps=>exact fun vs Hs' H' g r=>h1 _ Hs' H' g (.cons (r1.mono g.s) r)
 | err c=>exact h1
 | stuck=>exact h1
theorem qa_cons {es:List Expr} {ra:DA} (ha:QE X H0 Hs0 a da) (hr:QA X H0 Hs0 es ra) (hs:starEach (a::es) X.env = (false,eval a X.env)::starEach es X.env):QA X H0 Hs0 (a::es) (aCons da ra) :=
 PA.imp (pa_cons ha hr hs) fun τ H Q h=>cons_read h
def pTup (ps:List PV):Res PV:=if ps.length≤10000000 then .ok (.tup ps) else .stuck
def pLst (ps:List PV):Res PV:=if ps.length≤10000000 then .ok (.lst ps) else .stuck
def eA (g:List PV→Res PV) (a:DA):DE:=fun σ=>(a σ).bind g
theorem small7 {n:Nat} (h:n≤10000000):n≤sizeLine:=by rw [sizeLine_eq]; omega
theorem args_read {g:List PV→Res PV} {ra:DA} {τ:L2.St} {H:Hp} {Q:VK} (h:RE X H0 Hs0 (eA g ra) τ H Q) :
  RA X H0 Hs0 ra τ H fun vs H1=>∃ Hs ps,Same Hs H1∧Reps X.K Hs vs ps∧Ret X.K Hs H1 (g ps) (ErrOk X H0 Hs0) Q:=by
 obtain ⟨Hs,σ,S,h⟩:=h
 exact ⟨Hs,σ,S,Rets.mono (Ret.bindA h) fun x H1 ⟨Hs1,p,g1,r1,h1⟩=>⟨Hs1,p,g1.i,r1,h1⟩⟩
theorem RA.mono {ra:DA} {τ:L2.St} {H:Hp} {Q Q':List V→Hp→Prop} (h:RA X H0 Hs0 ra τ H Q) (m:∀ v H',Q v H'→Q' v H'):RA X H0 Hs0 ra τ H Q' :=
 let ⟨Hs,σ,S,h⟩:=h; ⟨Hs,σ,S,Rets.mono h m⟩
theorem RE.mono {ra:DE} {τ:L2.St} {H:Hp} {Q Q':VK} (h:RE X H0 Hs0 ra τ H Q) (m:∀ v H',Q v H'→Q' v H'):RE X H0 Hs0 ra τ H Q' :=
 let ⟨Hs,σ,S,h⟩:=h; ⟨Hs,σ,S,Ret.mono h m⟩
theorem q_tup {es:List Expr} {ra:DA} {x1} (h:QA X H0 Hs0 es ra):QE X H0 Hs0 (.Tuple es x1 pos) (eA pTup ra) :=
 PE.imp (pe_tup h) fun τ H Q h=>RA.mono (args_read h) fun vs H1 ⟨Hs,ps,i,r,h1⟩=>by
  unfold pTup at h1
  split at h1
  ·rename_i hl
   exact ⟨small7 (by rw [r.length]; exact hl),fun p hp=>h1 _ _ _ (.new i hp) (.tup (SqT.of upd_same) (r.mono (same_upd (i.free hp))))⟩
  ·exact h1.elim
theorem q_lst {es:List Expr} {ra:DA} (h:QA X H0 Hs0 es ra):QE X H0 Hs0 (.List es pos) (eA pLst ra) :=
 PE.imp (pe_lst h) fun τ H Q h=>RA.mono (args_read h) fun vs H1 ⟨Hs,ps,i,r,h1⟩=>by
  unfold pLst at h1
  split at h1
  ·rename_i hl
   exact ⟨small7 (by rw [r.length]; exact hl),fun p hp=>h1 _ _ _ (.new i hp) (.lst upd_same (r.mono (same_upd (i.free hp))))⟩
  ·exact h1.elim
def CallP (X:Cx) (f:Value) (g:List PV→Res PV):Prop :=
 ∀ (EO:Str→Prop),CallR X f fun xs H Q=>∃ Hs ps,Same Hs H∧Reps X.K Hs xs ps∧Ret X.K Hs H (g ps) EO Q
theorem q_callB {x:Str} {id:String} {p:Pos} {e:Expr} {es:List Expr} {g:List PV→Res PV} {ra:DA} (hc:CallP X (.builtin id) g) (hg:Gl X x) (hm:X.mg x = none) (hv:bootBuiltins x = some (.builtin id)) (ha:QA X H0 Hs0 (e::es) ra)
  (hn:x≠"__name__") (hdb:(x == ("__debug__":Str)) = false) (he:starEach (e::es) X.env = (false,eval e X.env)::starEach es X.env) (hpl:(backTo pos (starEach es X.env)).any (·.1) = false) :
  QE X H0 Hs0 (.Call (.Name x p) (e::es) [] pos) (eA g ra) :=
 PE.imp (pe_callB (hc (ErrOk X H0 Hs0)) hg hm hv ha hn hdb he hpl) fun τ H Q h=>args_read h
theorem q_callTy {x:Str} {T:String} {p:Pos} {e:Expr} {es:List Expr} {g:List PV→Res PV} {ra:DA} (hc:CallP X (.type T) g) (hg:Gl X x) (hm:X.mg x = none) (hv:bootBuiltins x = some (.type T)) (ha:QA X H0 Hs0 (e::es) ra)
  (hn:x≠"__name__") (hdb:(x == ("__debug__":Str)) = false) (he:starEach (e::es) X.env = (false,eval e X.env)::starEach es X.env) (hpl:(backTo pos (starEach es X.env)).any (·.1) = false) :
  QE X H0 Hs0 (.Call (.Name x p) (e::es) [] pos) (eA g ra) :=
 PE.imp (pe_callTy (hc (ErrOk X H0 Hs0)) hg hm hv ha hn hdb he hpl) fun τ H Q h=>args_read h
def bAbs:List PV→Res PV
 | [.int i]=>.ok (.int (if i < 0 then -i else i))
 | _=>.stuck
def bLen:List PV→Res PV
 | [.tup xs]=>.ok (.int xs.length)
 | [.lst xs]=>.ok (.int xs.length)
 | [.scr ns]=>.ok (.int ns.length)
 | _=>.stuck
def bMax:List PV→Res PV
 | [.int i,.int j]=>.ok (.int (if j > i then j else i))
 | _=>.stuck
theorem Reps.one_inv {K:PySem.W.Frag} {H:Hp} {vs:List V} {p:PV} (r:Reps K H vs [p]):∃ v,vs = [v]∧Rep K H v p:=by
 obtain ⟨v,ws,rfl,r1,r2⟩:=r.cons_inv
 cases r2.nil_inv
 exact ⟨v,rfl,r1⟩
theorem Reps.two_inv {K:PySem.W.Frag} {H:Hp} {vs:List V} {p q:PV} (r:Reps K H vs [p,q]):∃ v w,vs = [v,w]∧Rep K H v p∧Rep K H w q:=by
 obtain ⟨v,ws,rfl,r1,r2⟩:=r.cons_inv
 obtain ⟨w,rfl,r3⟩:=r2.one_inv
 exact ⟨v,w,rfl,r1,r3⟩
theorem cp_abs:CallP X (.builtin "abs") bAbs:=by
 intro EO pins s σ H xs us Q I r h
 obtain ⟨Hs,ps,i,rp,h⟩:=h
 unfold bAbs at h
 split at h
 ·obtain ⟨v,rfl,r1⟩:=rp.one_inv
  cases r1.int_inv
  exact call_abs pins s σ H _ us Q I r ⟨_,rfl,ret_int h i⟩
 ·exact h.elim
theorem cp_len:CallP X (.builtin "len") bLen:=by
 intro EO pins s σ H xs us Q I r h
 obtain ⟨Hs,ps,i,rp,h⟩:=h
 unfold bLen at h
 split at h
 ·obtain ⟨v,rfl,r1⟩:=rp.one_inv
  obtain ⟨a,vs,rfl,ha,ra⟩:=r1.tup_inv
  exact call_len_seq pins s σ H _ us Q I r ⟨a,vs,rfl,.inr (same_seqT i ha),by rw [ra.length]; exact ret_int h i⟩
 ·obtain ⟨v,rfl,r1⟩:=rp.one_inv
  obtain ⟨a,vs,rfl,ha,ra⟩:=r1.lst_inv
  exact call_len_seq pins s σ H _ us Q I r ⟨a,vs,rfl,.inl (SqL.of (i _ _ ha)),by rw [ra.length]; exact ret_int h i⟩
 ·obtain ⟨v,rfl,r1⟩:=rp.one_inv
  obtain ⟨a,rfl,ha⟩:=r1.scr_inv
  exact call_len_seq pins s σ H _ us Q I r ⟨a,_,rfl,.inl (i.seq ha),by rw [List.length_map]; exact ret_int h i⟩
 ·exact h.elim
theorem cp_max (hc:X.calm = true):CallP X (.builtin "max") bMax:=by
 intro EO pins s σ H xs us Q I r h
 obtain ⟨Hs,ps,i,rp,h⟩:=h
 unfold bMax at h
 split at h
 ·obtain ⟨v,w,rfl,r1,r2⟩:=rp.two_inv
  cases r1.int_inv; cases r2.int_inv
  exact call_max2 hc pins s σ H _ us Q I r ⟨_,_,rfl,ret_int h i⟩
 ·exact h.elim
def Fsp (K:PySem.W.Frag) (n:Nat) (m:List PV→Res PV):Sp:=fun vs H Q E=>vs.length = n∧∃ Hs ps,Same Hs H∧Reps K Hs vs ps∧Ret K Hs H (m ps) (fun c=>∀ (C:Addr) (Hs1 H1:Hp),ClsIs K c C→Grow Hs H Hs1 H1→E (.ref C) none H1) Q
structure FunIs (X:Cx) (f:Str) (m:List PV→Res PV):Prop where
 ex:∃ (a:Addr) (fd:FuncData) (ps:List Str) (k:Nat),X.mg f = some (.ref a)∧PySem.W.keepIn X.K (.ref a) = true∧Binds X.K fd ps []∧Room k X.A∧(∀ qs,qs.length≠ps.length→m qs = .stuck) ∧
  FnOk X.prog X.w X.K X.mg X.base (CXG X.prog X.w) k a fd ps (Fsp X.K ps.length m)
def noErr (r:Res PV):Res PV:=match r with
 | .err _=>.stuck
 | r=>r
theorem Ret.noErr {K:PySem.W.Frag} {Hs H:Hp} {r:Res PV} {EO EO':Str→Prop} {Q:VK} (h:Ret K Hs H (G.noErr r) EO Q):Ret K Hs H r EO' Q:=by
 cases r with
 | ok p=>exact h
 | err c=>exact h.elim
 | stuck=>exact h
theorem passN {X:Cx}:Passes (CXG X.prog X.w) X (fun _ _ _=>False):=fun _ _ _ _ _ _ _ ⟨_,_,_,_,_,_,_,_,_,_,_,z⟩=>z.elim
theorem passE {X:Cx} {H0 Hs0:Hp}:Passes (CXG X.prog X.w) X (fun cls _ H1=>∃ (c:Str) (C:Addr) (Hs1:Hp),cls = .ref C∧ClsIs X.K c C∧Grow Hs0 H0 Hs1 H1∧ErrOk X H0 Hs0 c) :=
 fun pins σ H s e s' I ⟨ea,C,B,a0,H1,h1,h2,h3,h4,h5,h6,c,C',Hs1,z1,z2,z3,z4⟩=>z4 e s' ⟨pins,σ,H,s,I,.inr (.inl ⟨ea,C,B,a0,H1,h1,h2,h3,h4,h5,h6,C',Hs1,z1,z2,z3⟩)⟩
theorem args_readG {g:List PV→Res PV} {ra:DA} {τ:L2.St} {H:Hp} {Q:VK} (h:RE X H0 Hs0 (eA g ra) τ H Q) :
  RA X H0 Hs0 ra τ H fun vs H1=>∃ Hs ps,Grow Hs0 H0 Hs H1∧Reps X.K Hs vs ps∧Ret X.K Hs H1 (g ps) (ErrOk X H0 Hs0) Q:=by
 obtain ⟨Hs,σ,S,h⟩:=h
 exact ⟨Hs,σ,S,Rets.mono (Ret.bindA h) fun x H1 ⟨Hs1,p,g1,r1,h1⟩=>⟨Hs1,p,S.g.trans g1,r1,h1⟩⟩
theorem q_callE {x:Str} {p:Pos} {e:Expr} {es:List Expr} {m:List PV→Res PV} {ra:DA} (F:FunIs X x m) (hg:Gl X x) (ha:QA X H0 Hs0 (e::es) ra)
  (hdb:(x == ("__debug__":Str)) = false) (he:starEach (e::es) X.env = (false,eval e X.env)::starEach es X.env) (hpl:(backTo pos (starEach es X.env)).any (·.1) = false) :
  QE X H0 Hs0 (.Call (.Name x p) (e::es) [] pos) (eA m ra):=by
 obtain ⟨a,fd,ps,k,hm,hk,hb,hr,har,F⟩:=F.ex
 refine PE.imp (pe_call F hr hg hm hk hb .nil (passE (H0:=H0) (Hs0:=Hs0)) ha hdb he hpl) fun τ H Q h=>RA.mono (args_readG h) fun vs H1 ⟨Hs,qs,g,r,h1⟩=>?_
 rw [List.append_nil]
 refine ⟨?_,Hs,qs,g.i,r,?_⟩
 ·by_cases hl:qs.length = ps.length
  ·rw [r.length,hl]
  ·rw [har qs hl] at h1; exact h1.elim
 ·cases em:m qs with
  | ok p=>rw [em] at h1; exact h1
  | err c =>
   rw [em] at h1
   exact fun C Hs1 H2 hc g2=>⟨c,C,Hs1,rfl,hc,g.trans g2,h1⟩
  | stuck=>rw [em] at h1; exact h1.elim
theorem q_call {x:Str} {p:Pos} {e:Expr} {es:List Expr} {m:List PV→Res PV} {ra:DA} (F:FunIs X x m) (hg:Gl X x) (ha:QA X H0 Hs0 (e::es) ra)
  (hdb:(x == ("__debug__":Str)) = false) (he:starEach (e::es) X.env = (false,eval e X.env)::starEach es X.env) (hpl:(backTo pos (starEach es X.env)).any (·.1) = false) :
  QE X H0 Hs0 (.Call (.Name x p) (e::es) [] pos) (eA (fun ps=>G.noErr (m ps)) ra):=by
 obtain ⟨a,fd,ps,k,hm,hk,hb,hr,har,F⟩:=F.ex
 refine PE.imp (pe_call F hr hg hm hk hb .nil passN ha hdb he hpl) fun τ H Q h=>RA.mono (args_read h) fun vs H1 ⟨Hs,qs,i,r,h1⟩=>?_
 rw [List.append_nil]
 refine ⟨?_,Hs,qs,i,r,h1.noErr⟩
 by_cases hl:qs.length = ps.length
 ·rw [r.length,hl]
 ·rw [har qs hl] at h1; exact h1.elim
def atR {α:Type} (xs:List α) (i:Int) (f:α→PV):Res PV:=match atI xs i with
 | some x=>.ok (f x)
 | none=>.stuck
def pIx:PV→PV→Res PV
 | .tup ps,.int i=>atR ps i id
 | .lst ps,.int i=>atR ps i id
 | .scr ns,.int i=>atR ns i .int
 | _,_=>.stuck
theorem at_rep {K:PySem.W.Frag} {H:Hp} {vs:List V} {ps:List PV} {i:Int} {p:PV} (r:Reps K H vs ps) (h:atI ps i = some p):∃ v,atI vs i = some v∧Rep K H v p:=by
 unfold atI at h ⊢
 rw [r.length]
 cases e:ixN ps.length i with
 | none=>rw [e] at h; cases h
 | some j=>rw [e] at h; exact r.get h
theorem q_ix (ha:QE X H0 Hs0 a da) (hb:QE X H0 Hs0 b db) (hs:PlainIx b):QE X H0 Hs0 (.Subscript a b pos) (e2 pIx da db) :=
 PE.imp (pe_ix ix_seq ha hb hs) fun τ H Q h=>RE.mono (two h) fun x H1 h1=>RE.mono h1 fun y H2 ⟨Hs,p,q,i,rp,rq,h2⟩=>by
  unfold pIx at h2
  split at h2
  ·obtain ⟨ad,vs,rfl,ht,r⟩:=rp.tup_inv
   cases rq.int_inv
   unfold atR at h2
   split at h2
   ·rename_i x hx
    obtain ⟨v,hv,rv⟩:=at_rep r hx
    exact .inr (.inl ⟨ad,vs,_,v,rfl,rfl,same_seqT i ht,hv,h2 v Hs H2 (.refl i) rv⟩)
   ·exact h2.elim
  ·obtain ⟨ad,vs,rfl,ht,r⟩:=rp.lst_inv
   cases rq.int_inv
   unfold atR at h2
   split at h2
   ·rename_i x hx
    obtain ⟨v,hv,rv⟩:=at_rep r hx
    exact .inl ⟨ad,vs,_,v,rfl,rfl,SqL.of (i _ _ ht),hv,h2 v Hs H2 (.refl i) rv⟩
   ·exact h2.elim
  ·obtain ⟨ad,rfl,ht⟩:=rp.scr_inv
   cases rq.int_inv
   unfold atR at h2
   split at h2
   ·rename_i x hx
    obtain ⟨v,hv,rv⟩:=at_rep (K:=X.K) (H:=Hs) (Reps.ints _) (show atI (List.map PV.int _) _ = some (.int x) by
     unfold atI at hx ⊢
     rw [List.length_map]
     cases e:ixN _ _ with
     | none=>rw [e] at hx; cases hx
     | some j =>
      rw [e] at hx
      show (List.map PV.int _)[j]? = _
      rw [List.getElem?_map]
      show Option.map PV.int _ = _
      rw [show _[j]? = some x from hx]; rfl)
    exact .inl ⟨ad,_,_,v,rfl,rfl,i.seq ht,hv,h2 v Hs H2 (.refl i) rv⟩
   ·exact h2.elim
  ·exact h2.elim
def eIxV (k:Nat) (db:DE):DE:=fun σ=>match σ[k]? with
 | some (some (.own xs))=>(db σ).bind fun q=>pIx (.lst xs) q
 | some (some (.sh p))=>(db σ).bind fun q=>pIx p q
 | _=>.stuck
theorem q_ixv {k:Nat} {x:Str} {np:Pos} (hN:X.N[k]? = some x) (hv:Vis X.env.scope x) (hd:(x == ("__debug__":Str)) = false) (hcd:(x == ("__classdict__":Str)) = false) (hb:QE X H0 Hs0 b db) (hs:PlainIx b) :
  QE X H0 Hs0 (.Subscript (.Name x np) b pos) (eIxV k db):=by
 intro pins s τ H Q I ⟨Hs,σ,S,h⟩
 unfold eIxV at h
 split at h
 ·rename_i xs e
  obtain ⟨v,e1,ad,vs,rfl,hH,hHs,hH0,r⟩:=S.slot k _ e
  refine pe_ix ix_list (pe_var hN hv hd hcd) hb hs pins s τ H Q I ⟨_,e1,Hs,σ,S,Ret.mono (Ret.bind h) fun y H1 ⟨Hs1,q,g1,rq,h1⟩=>?_⟩
  cases q with
  | int i =>
   cases rq.int_inv
   simp only [pIx] at h1
   unfold atR at h1
   split at h1
   ·rename_i x hx
    obtain ⟨v,hv,rv⟩:=at_rep r hx
    exact ⟨ad,vs,_,v,rfl,rfl,SqL.of (g1.h _ _ hH),hv,h1 v Hs1 H1 (.refl g1.i) (rv.mono g1.s)⟩
   ·exact h1.elim
  | _=>exact h1.elim
 ·rename_i p e
  refine q_ix (q_var (i:=k) hN hv hd hcd) hb hs pins s τ H Q I ⟨Hs,σ,S,?_⟩
  show Ret X.K Hs H ((eVar k σ).bind fun p=>(db σ).bind fun q=>pIx p q) _ Q
  unfold eVar
  rw [e]
  exact h
 ·exact h.elim
def eLenV (k:Nat):DE:=fun σ=>match σ[k]? with
 | some (some (.own xs))=>.ok (.int xs.length)
 | some (some (.sh p))=>bLen [p]
 | _=>.stuck
theorem q_lenv {k:Nat} {x:Str} {np p:Pos} (hN:X.N[k]? = some x) (hv:Vis X.env.scope x) (hd:(x == ("__debug__":Str)) = false) (hcd:(x == ("__classdict__":Str)) = false) (hg:Gl X "len") (hm:X.mg "len" = none)
  (he:starEach [.Name x np] X.env = [(false,eval (.Name x np) X.env)]) (hpl:(backTo pos (starEach [] X.env)).any (·.1) = false):QE X H0 Hs0 (.Call (.Name "len" p) [.Name x np] [] pos) (eLenV k):=by
 intro pins s τ H Q I ⟨Hs,σ,S,h⟩
 unfold eLenV at h
 split at h
 ·rename_i xs e
  obtain ⟨v,e1,ad,vs,rfl,hH,hHs,hH0,r⟩:=S.slot k _ e
  refine pe_callB call_len_seq hg hm PySem.boot_len (pa_cons (pe_var hN hv hd hcd) pa_nil he) (by decide) (by decide) he hpl pins s τ H Q I ⟨_,e1,ad,vs,rfl,.inl (SqL.of hH),?_⟩
  rw [r.length]; exact ret_int h S.g.i
 ·rename_i p' e
  refine q_callB cp_len hg hm PySem.boot_len (qa_cons (q_var (i:=k) hN hv hd hcd) qa_nil he) (by decide) (by decide) he hpl pins s τ H Q I ⟨Hs,σ,S,?_⟩
  show Ret X.K Hs H (((eVar k σ).bind fun p=>(aNil σ).bind fun ps=>.ok (p::ps)).bind bLen) _ Q
  unfold eVar
  rw [e]
  exact h
 ·exact h.elim
end
end G
namespace G
open PySem PySem.Spec PyProof.Rows L2
def tyName:PV→String
 | .non=>"NoneType"
 | .bl _=>"bool"
 | .int _=>"int"
 | .str _=>"str"
 | .tup _=>"tuple"
 | .lst _=>"list"
 | .scr _=>"list"
 | .dic=>"dict"
 | .exc _=>"exception"
 | .ob _ _ _=>"object"
def isSub (t T:String):Bool:=t == T || (t == "bool" && T == "int")
def kindNames:List String:=["int","bool","tuple","list","str","dict"]
def notExc:PV→Bool
 | .exc _=>false
 | .ob _ _ _=>false
 | _=>true
def pIsi (T:String) (p:PV):Res PV:=if notExc p = true then .ok (.bl (isSub (tyName p) T)) else .stuck
theorem kit_ok (K:PySem.W.Frag) (p:PV) (T:String) (hx:notExc p = true) (h:T∈kindNames):PySem.W.kitOne K (.type (tyName p)) (.type T) = some (isSub (tyName p) T):=by
 have h':T = "int"∨T = "bool"∨T = "tuple"∨T = "list"∨T = "str"∨T = "dict":=by simpa [kindNames] using h
 cases p <;> first | (cases hx; done) | (rcases h' with rfl | rfl | rfl | rfl | rfl | rfl <;> kernel_rfl)
section
variable {X:Cx} {H0 Hs0:Hp} {a b c:Expr} {da db dc:DE} {pos:Pos}
theorem isi_rule {pins:List (Addr × Obj)} {τ:L2.St} {Hs H:Hp} {s:Shared} {Q:Value→Shared→Prop} {E:Value→Shared→Prop} {x:V} {u:Value} {p:PV} {T:String} (I:Inv X pins τ H s) (i:Same Hs H) (rx:RelV x u) (r:Rep X.K Hs x p) (hx:notExc p = true) (hT:T∈kindNames)
  (h:∀ tk,Q (.bool (isSub (tyName p) T)) { s with toks:=tk }):wpAny (model X.prog X.w) X.A (call (.builtin "isinstance") [u,.type T]) Q E s:=by
 have e:=kit_ok X.K p T hx hT
 cases r with
 | non=>exact isinst_ok I rx .non e h
 | bl b=>exact isinst_ok I rx (.bl b) e h
 | int k=>exact isinst_ok I rx (.int k) e h
 | str y=>exact isinst_ok I rx (.str y) e h
 | lst hl _=>exact isinst_ok I rx (.lst (i _ _ hl)) e h
 | dic hl=>exact isinst_ok I rx (.dK (i _ _ hl)) e h
 | exc _ _=>cases hx
 | ob _ _ _ _ _=>cases hx
 | @tup a xs ps ht _ =>
  cases (show u = Value.ref a from rx)
  obtain ⟨its,rv,o,h1,h2,_⟩:=tup_is I (same_seqT i ht)
  exact PySem.W.kia_one PySem.W.kitx_tuple I.kIn ⟨o,h1,h2⟩ e (fun z=>nomatch z) h
 | @scr a ns hl =>
  cases (show u = Value.ref a from rx)
  obtain ⟨its,rv,pl,_⟩:=I.list (i.seq hl)
  obtain ⟨o,n,h1,h2,_⟩:=pl
  exact PySem.W.kia_one PySem.W.kitx_list I.kIn ⟨o,h1,h2⟩ e (fun z=>nomatch z) h
theorem call_isi:CallR X (.builtin "isinstance") (fun xs H Q=>∃ Hs x p T,xs = [x,.ty T]∧Same Hs H∧Rep X.K Hs x p∧notExc p = true∧T∈kindNames∧Q (.bl (isSub (tyName p) T)) H):=by
 intro pins s σ H xs us Q I r h
 obtain ⟨Hs,x,p,T,rfl,i,rp,hx,hT,q⟩:=h
 cases r with
 | cons r1 r2 =>
  cases r2 with
  | cons r3 r4 =>
   cases r4
   cases (show _ = Value.type T from r3)
   exact isi_rule I i r1 rp hx hT fun tk=>⟨.bl _,H,I.tok tk,rfl,q⟩
theorem boot_isi:bootBuiltins "isinstance" = some (.builtin "isinstance"):=by decide +kernel
theorem q_isi {T:String} {x:Str} {p1 p2:Pos} (ha:QE X H0 Hs0 a da) (hT:T∈kindNames) (hx:bootBuiltins x = some (.type T)) (hg:Gl X "isinstance") (hm:X.mg "isinstance" = none) (hg2:Gl X x) (hm2:X.mg x = none) (hn:x≠"__name__")
  (hdb:(x == ("__debug__":Str)) = false) (h1:starEach [a,.Name x p2] X.env = (false,eval a X.env)::starEach [.Name x p2] X.env) (h2:starEach [.Name x p2] X.env = [(false,eval (.Name x p2) X.env)])
  (hpl:(backTo pos (starEach [.Name x p2] X.env)).any (·.1) = false):QE X H0 Hs0 (.Call (.Name "isinstance" p1) [a,.Name x p2] [] pos) (e1 (pIsi T) da) :=
 PE.imp (pe_callB call_isi hg hm boot_isi (pa_cons ha (pa_cons (pe_bltn (v:=.ty T) hg2 hm2 hx rfl hn hdb) pa_nil h2) h1) (by decide) (by decide) h1 hpl) fun τ H Q h =>
  RE.mono (one h) fun x H1 ⟨Hs,p,i,r,h1⟩=>by
   unfold pIsi at h1
   split at h1
   ·rename_i hx
    exact ⟨Hs,x,p,T,rfl,i,r,hx,hT,ret_bl h1 i⟩
   ·exact h1.elim
def cutP {α:Type} (xs:List α) (lo hi:Option Int):List α:=(xs.drop (HT.sIx xs.length 0 lo)).take (HT.sIx xs.length xs.length hi - HT.sIx xs.length 0 lo)
theorem Reps.cut {K:PySem.W.Frag} {H:Hp} {vs:List V} {ps:List PV} (r:Reps K H vs ps) (lo hi:Option Int):Reps K H (cutV vs lo hi) (cutP ps lo hi):=by
 unfold cutV cutP
 rw [r.length]
 exact (r.drop _).take _
abbrev DO:=PSt→Res (Option Int)
def oNo:DO:=fun _=>.ok none
def asI:PV→Res (Option Int)
 | .int i=>.ok (some i)
 | _=>.stuck
def oE (d:DE):DO:=fun σ=>(d σ).bind asI
def pSl (p:PV) (lo hi:Option Int):Res PV:=match p with
 | .lst xs=>.ok (.lst (cutP xs lo hi))
 | .scr ns=>.ok (.lst (cutP (ns.map PV.int) lo hi))
 | .tup xs=>if HT.sIx xs.length 0 lo = 0∧HT.sIx xs.length xs.length hi = xs.length then .stuck else .ok (.tup (cutP xs lo hi))
 | _=>.stuck
def eSl (a:DE) (lo hi:DO):DE:=fun σ=>(a σ).bind fun p=>(lo σ).bind fun l=>(hi σ).bind fun h=>pSl p l h
def RetO (Hs H:Hp) (r:Res (Option Int)) (EO:Str→Prop) (Q:Option Int→Hp→Prop):Prop:=match r with
 | .ok b=>∀ Hs' H',Grow Hs H Hs' H'→Q b H'
 | .err c=>EO c
 | .stuck=>False
def RO (X:Cx) (H0 Hs0:Hp) (d:DO):TO:=fun τ H Q=>∃ Hs σ,SR X.K H0 Hs0 Hs H σ τ∧RetO Hs H (d σ) (ErrOk X H0 Hs0) Q
def QO (X:Cx) (H0 Hs0:Hp) (e:Option Expr) (d:DO):Prop:=PO X e (RO X H0 Hs0 d)
theorem PO.imp {e:Option Expr} {t t':TO} (h:PO X e t) (m:∀ τ H Q,t' τ H Q→t τ H Q):PO X e t':=fun pins s σ H Q I q=>h pins s σ H Q I (m _ _ _ q)
theorem qo_none:QO X H0 Hs0 none oNo:=PO.imp po_none fun τ H Q ⟨Hs,σ,S,h⟩=>h Hs H (.refl S.g.i)
theorem qo_some (ha:QE X H0 Hs0 a da):QO X H0 Hs0 (some a) (oE da):=PO.imp (po_some ha) fun τ H Q ⟨Hs,σ,S,h⟩=>by
 refine ⟨Hs,σ,S,?_⟩
 unfold oE at h
 generalize da σ = r at h ⊢
 cases r with
 | ok p =>
  cases p with
  | int k=>exact fun v Hs' H' g r=>⟨k,r.int_inv,h Hs' H' g⟩
  | _=>exact h.elim
 | err c=>exact h
 | stuck=>exact h
theorem RetO.mono {Hs H:Hp} {r:Res (Option Int)} {EO:Str→Prop} {Q Q':Option Int→Hp→Prop} (h:RetO Hs H r EO Q) (m:∀ v H',Q v H'→Q' v H'):RetO Hs H r EO Q':=by
 cases r with
 | ok p=>exact fun Hs' H' g=>m _ _ (h Hs' H' g)
 | err c=>exact h
 | stuck=>exact h
theorem Ret.bindO {K:PySem.W.Frag} {Hs H:Hp} {r:Res (Option Int)} {f:Option Int→Res PV} {EO:Str→Prop} {Q:VK} (h:Ret K Hs H (r.bind f) EO Q) :
  RetO Hs H r EO fun b H1=>∃ Hs1,Grow Hs H Hs1 H1∧Ret K Hs1 H1 (f b) EO Q:=by
 cases r with
 | ok p=>exact fun Hs' H' g=>⟨Hs',g,Ret.grow (r:=f p) h g⟩
 | err c=>exact h
 | stuck=>exact h
theorem q_slice {lo hi:Option Expr} {dl dh:DO} {p2:Pos} (ha:QE X H0 Hs0 a da) (hl:QO X H0 Hs0 lo dl) (hh:QO X H0 Hs0 hi dh):QE X H0 Hs0 (.Subscript a (.Slice lo hi none p2) pos) (eSl da dl dh) :=
 PE.imp (pe_slice (sl_list.or sl_tup) ha hl hh) fun τ H Q ⟨Hs,σ,S,h⟩=>by
  refine ⟨Hs,σ,S,Ret.mono (Ret.bind h) fun x H1 ⟨Hs1,p,g1,r1,h1⟩=>⟨Hs1,σ,S.grow g1,RetO.mono (Ret.bindO h1) fun l H2 ⟨Hs2,g2,h2⟩=>⟨Hs2,σ,(S.grow g1).grow g2,RetO.mono (Ret.bindO h2) fun u H3 ⟨Hs3,g3,h3⟩=>?_⟩⟩⟩
  have r3:=(r1.mono g2.s).mono g3.s
  have i:=g3.i
  unfold pSl at h3
  split at h3
  ·obtain ⟨ad,vs,rfl,ht,r⟩:=r3.lst_inv
   exact .inl ⟨ad,vs,rfl,SqL.of (i _ _ ht),fun q hq=>h3 _ _ _ (.new i hq) (.lst upd_same (Reps.mono (same_upd (i.free hq)) (r.cut l u)))⟩
  ·obtain ⟨ad,rfl,ht⟩:=r3.scr_inv
   exact .inl ⟨ad,_,rfl,i.seq ht,fun q hq=>h3 _ _ _ (.new i hq) (.lst upd_same ((Reps.ints _).cut l u))⟩
  ·split at h3
   ·exact h3.elim
   ·rename_i hw
    obtain ⟨ad,vs,rfl,ht,r⟩:=r3.tup_inv
    exact .inr ⟨ad,vs,rfl,same_seqT i ht,by rw [r.length]; exact hw,fun q hq=>h3 _ _ _ (.new i hq) (.tup (SqT.of upd_same) (Reps.mono (same_upd (i.free hq)) (r.cut l u)))⟩
  ·exact h3.elim
def sNext:DS:=fun σ=>.ok (.next σ)
def sSeq (a b:DS):DS:=fun σ=>(a σ).bind fun f=>match f with
 | .next σ'=>b σ'
 | f=>.ok f
def sRet (d:DE):DS:=fun σ=>(d σ).bind fun p=>.ok (.ret p)
def sIf (t:DT) (a b:DS):DS:=fun σ=>(t σ).bind fun c=>if c = true then a σ else b σ
def sSet (i:Nat) (d:DE):DS:=fun σ=>(d σ).bind fun p=>.ok (.next (σ.set i (some (.sh p))))
theorem EndR.same {D:Ends} {Hs Hs' H H':Hp} {r:Res Fl} (h:EndR X H0 Hs0 D Hs H r) (e:Same Hs Hs'):EndR X H0 Hs0 D Hs' H' r:=by
 cases r with
 | ok f =>
  cases f with
  | next σ'=>exact fun Hs2 H2 τ' e' S=>h Hs2 H2 τ' (e.trans e') S
  | brk σ'=>exact fun Hs2 H2 τ' e' S=>h Hs2 H2 τ' (e.trans e') S
  | cont σ'=>exact fun Hs2 H2 τ' e' S=>h Hs2 H2 τ' (e.trans e') S
  | ret p=>exact h
 | err c=>exact h
 | stuck=>exact h
theorem EndR.bind1 {D:Ends} {Hs H:Hp} {r:Res PV} {f:PV→Res Fl} (h:EndR X H0 Hs0 D Hs H (r.bind f)) :
  Ret X.K Hs H r (ErrOk X H0 Hs0) fun v H1=>∃ Hs1 p,Grow Hs H Hs1 H1∧Rep X.K Hs1 v p∧EndR X H0 Hs0 D Hs1 H1 (f p):=by
 cases r with
 | ok p=>exact fun v Hs' H' g r=>⟨Hs',p,g,r,EndR.same (r:=f p) h g.s⟩
 | err c=>exact h
 | stuck=>exact h
theorem EndR.bindB {D:Ends} {Hs H:Hp} {r:Res Bool} {f:Bool→Res Fl} (h:EndR X H0 Hs0 D Hs H (r.bind f)) :
  RetB Hs H r (ErrOk X H0 Hs0) fun b H1=>∃ Hs1,Grow Hs H Hs1 H1∧EndR X H0 Hs0 D Hs1 H1 (f b):=by
 cases r with
 | ok p=>exact fun Hs' H' g=>⟨Hs',g,EndR.same (r:=f p) h g.s⟩
 | err c=>exact h
 | stuck=>exact h
variable {st:Stmt} {sts:List Stmt} {d1 d2:DS}
theorem qss_nil:QSs X H0 Hs0 [] sNext:=PSs.imp pss_nil fun D τ H ⟨Hs,σ,S,h⟩=>h Hs H τ (Same.refl _) S
theorem seq_read {D:Ends} {τ:L2.St} {H:Hp} (h:RS X H0 Hs0 (sSeq d1 d2) D τ H):RS X H0 Hs0 d1 { D with nx:=RS X H0 Hs0 d2 D } τ H:=by
 obtain ⟨Hs,σ,S,h⟩:=h
 refine ⟨Hs,σ,S,?_⟩
 unfold sSeq at h
 generalize d1 σ = r at h ⊢
 cases r with
 | ok f =>
  cases f with
  | next σ'=>exact fun Hs' H' τ' e S'=>⟨Hs',σ',S',EndR.same (r:=d2 σ') h e⟩
  | brk σ'=>exact h
  | cont σ'=>exact h
  | ret p=>exact h
 | err c=>exact h
 | stuck=>exact h
theorem qss_cons (h1:QS X H0 Hs0 st d1) (h2:QSs X H0 Hs0 sts d2):QSs X H0 Hs0 (st::sts) (sSeq d1 d2):=PSs.imp (pss_cons h1 h2) fun D τ H h=>seq_read h
theorem qss_one (h1:QS X H0 Hs0 st d1):QSs X H0 Hs0 [st] d1:=pss_one h1
theorem qs_ret (ha:QE X H0 Hs0 a da):QS X H0 Hs0 (.Return (some a) pos) (sRet da):=PS.imp (ps_ret ha) fun D τ H ⟨Hs,σ,S,h⟩ =>
 ⟨Hs,σ,S,Ret.mono (EndR.bind1 h) fun x H1 ⟨Hs1,p,g1,r1,h1⟩=>h1 x Hs1 H1 (S.grow g1).g r1⟩
theorem qs_if {t:DT} {ss1 ss2:List Stmt} (hc:QT X H0 Hs0 c t) (h1:QSs X H0 Hs0 ss1 d1) (h2:QSs X H0 Hs0 ss2 d2):QS X H0 Hs0 (.If c ss1 ss2 pos) (sIf t d1 d2) :=
 PS.imp (ps_if hc h1 h2) fun D τ H ⟨Hs,σ,S,h⟩=>⟨Hs,σ,S,RetB.mono (EndR.bindB h) fun k H1 ⟨Hs1,g1,h1⟩=>by
  cases k with
  | true=>exact ⟨Hs1,σ,S.grow g1,h1⟩
  | false=>exact ⟨Hs1,σ,S.grow g1,h1⟩⟩
theorem set_some {α:Type} {l:List α} {i j:Nat} {x y:α} (h:(l.set i x)[j]? = some y):(j = i∧x = y∧i < l.length)∨(j≠i∧l[j]? = some y):=by
 rw [List.getElem?_set] at h
 split at h
 ·rename_i e
  split at h
  ·exact .inl ⟨e.symm,Option.some.inj h,by omega⟩
  ·cases h
 ·rename_i e
  exact .inr ⟨fun z=>e z.symm,h⟩
theorem SR.set {K:PySem.W.Frag} {Hs H:Hp} {σ:PSt} {τ:L2.St} {v:V} {p:PV} (S:SR K H0 Hs0 Hs H σ τ) (i:Nat) (r:Rep K Hs v p):SR K H0 Hs0 Hs H (σ.set i (some (.sh p))) (τ.set i (some v)):=by
 refine ⟨S.g,fun j sv e=>?_,fun j k xs ys ad hjk e1 e2 e3=>?_,by rw [List.length_set,List.length_set]; exact S.len⟩
 ·rcases set_some e with ⟨rfl,e',hl⟩ | ⟨hne,e'⟩
  ·cases e'
   refine ⟨v,?_,r⟩
   rw [List.getElem?_set_self (by rw [← S.len]; exact hl)]
  ·obtain ⟨w,e1,r1⟩:=S.slot j sv e'
   exact ⟨w,by rw [List.getElem?_set_ne (fun z=>hne z.symm)]; exact e1,r1⟩
 ·rcases set_some e1 with ⟨_,e',_⟩ | ⟨hj,e1'⟩
  ·cases e'
  ·rcases set_some e2 with ⟨_,e',_⟩ | ⟨hk,e2'⟩
   ·cases e'
   ·rw [List.getElem?_set_ne (fun z=>hj z.symm)] at e3
    rw [List.getElem?_set_ne (fun z=>hk z.symm)]
    exact S.inj j k xs ys ad hjk e1' e2' e3
theorem qs_set {i:Nat} {x:Str} {pos':Pos} (hN:X.N.Nodup) (hi:X.N[i]? = some x) (hx:Loc X.env.scope x) (ha:QE X H0 Hs0 a da) (hs:swapsWith a (some (.Name x pos')) pos.line X.env = pure false) (hf:X.fn x = true∨X.env.scope.names.lookup x = some .local) :
  QS X H0 Hs0 (.Assign [.Name x pos'] a pos) (sSet i da):=PS.imp (ps_set hN hi hx ha hs hf) fun D τ H ⟨Hs,σ,S,h⟩ =>
 ⟨Hs,σ,S,Ret.mono (EndR.bind1 h) fun v H1 ⟨Hs1,p,g1,r1,h1⟩=>h1 Hs1 H1 _ (Same.refl _) ((S.grow g1).set i r1)⟩
def wN (c:DT) (b:DS):Nat→PSt→Option (Res Fl)
 | 0,_=>none
 | n + 1,σ=>match c σ with
  | .ok true=>match b σ with
   | .ok (.next σ')=>wN c b n σ'
   | .ok (.cont σ')=>wN c b n σ'
   | .ok (.brk σ')=>some (.ok (.next σ'))
   | .ok (.ret p)=>some (.ok (.ret p))
   | .err e=>some (.err e)
   | .stuck=>some .stuck
  | .ok false=>some (.ok (.next σ))
  | .err e=>some (.err e)
  | .stuck=>some .stuck
open Classical in
noncomputable def sWhile (c:DT) (b:DS):DS:=fun σ=>if h:∃ r n,wN c b n σ = some r then choose h else .stuck
theorem wN_mono {cc:DT} {bb:DS}:∀ {n:Nat} {σ:PSt} {r:Res Fl},wN cc bb n σ = some r→∀ m,n≤m→wN cc bb m σ = some r
 | 0,_,_,h,_,_=>by cases h
 | n + 1,σ,r,h,0,hm=>by omega
 | n + 1,σ,r,h,m + 1,hm=>by
  unfold wN at h ⊢
  split at h
  ·split at h
   ·exact wN_mono h m (by omega)
   ·exact wN_mono h m (by omega)
   ·exact h
   ·exact h
   ·exact h
   ·exact h
  ·exact h
  ·exact h
  ·exact h
theorem sWhile_of {cc:DT} {bb:DS} {n:Nat} {σ:PSt} {r:Res Fl} (h:wN cc bb n σ = some r):sWhile cc bb σ = r:=by
 unfold sWhile
 have hex:∃ r n,wN cc bb n σ = some r:=⟨r,n,h⟩
 rw [dif_pos hex]
 obtain ⟨m,hm⟩:=Classical.choose_spec hex
 have h1:=wN_mono h (max n m) (Nat.le_max_left _ _)
 have h2:=wN_mono hm (max n m) (Nat.le_max_right _ _)
 rw [h1] at h2
 exact (Option.some.inj h2).symm
theorem sWhile_eq (cc:DT) (bb:DS) (σ:PSt):sWhile cc bb σ = (cc σ).bind fun k=>if k = true then (bb σ).bind (fun f=>match f with
  | .next σ'=>sWhile cc bb σ'
  | .cont σ'=>sWhile cc bb σ'
  | .brk σ'=>.ok (.next σ')
  | .ret p=>.ok (.ret p)) else .ok (.next σ):=by
 by_cases hex:∃ r n,wN cc bb n σ = some r
 ·obtain ⟨r,n,h⟩:=hex
  rw [sWhile_of h]
  cases n with
  | zero=>cases h
  | succ n =>
   unfold wN at h
   split at h
   ·rename_i e
    rw [e]
    split at h
    ·rename_i σ' e'; rw [e']; exact (sWhile_of h).symm
    ·rename_i σ' e'; rw [e']; exact (sWhile_of h).symm
    ·rename_i σ' e'; rw [e']; exact (Option.some.inj h).symm
    ·rename_i σ' e'; rw [e']; exact (Option.some.inj h).symm
    ·rename_i σ' e'; rw [e']; exact (Option.some.inj h).symm
    ·rename_i e'; rw [e']; exact (Option.some.inj h).symm
   ·rename_i e; rw [e]; exact (Option.some.inj h).symm
   ·rename_i e; rw [e]; exact (Option.some.inj h).symm
   ·rename_i e; rw [e]; exact (Option.some.inj h).symm
 ·have hs:sWhile cc bb σ = .stuck:=by unfold sWhile; rw [dif_neg hex]
  have no:∀ n,wN cc bb n σ = none:=fun n=>by
   cases e:wN cc bb n σ with
   | none=>rfl
   | some r=>exact absurd ⟨r,n,e⟩ hex
  have sub:∀ σ',(∀ n,wN cc bb n σ' = none)→sWhile cc bb σ' = .stuck:=fun σ' h'=>by
   unfold sWhile
   rw [dif_neg]
   rintro ⟨r,n,e⟩
   rw [h' n] at e; cases e
  rw [hs]
  have n1:=no 1
  unfold wN at n1
  split at n1
  ·rename_i e
   rw [e]
   split at n1
   ·rename_i σ' e'
    rw [e']
    refine (sub σ' fun n=>?_).symm
    have:=no (n + 1)
    unfold wN at this
    rw [e] at this; simp only at this
    rw [e'] at this
    exact this
   ·rename_i σ' e'
    rw [e']
    refine (sub σ' fun n=>?_).symm
    have:=no (n + 1)
    unfold wN at this
    rw [e] at this; simp only at this
    rw [e'] at this
    exact this
   ·cases n1
   ·cases n1
   ·cases n1
   ·cases n1
  ·cases n1
  ·cases n1
  ·cases n1
theorem qs_while {t:DT} (hp:PassesOwn (model X.prog X.w) X.A X.env X.xe) (hc:QT X H0 Hs0 c t) (hb:QSs X H0 Hs0 sts d1):QS X H0 Hs0 (.While c sts [] pos) (sWhile t d1):=PS.imp (ps_while hp hc hb) fun D τ H ⟨Hs,σ,S,h⟩=>by
 by_cases hex:∃ r n,wN t d1 n σ = some r
 ·obtain ⟨r,n,hn⟩:=hex
  rw [sWhile_of hn] at h
  refine ⟨fun m τ H=>∃ Hs' σ',SR X.K H0 Hs0 Hs' H σ' τ∧Same Hs Hs'∧wN t d1 m σ' = some r,⟨n,Hs,σ,S,Same.refl _,hn⟩,?_⟩
  rintro m τ1 H1 ⟨Hs1,σ1,S1,e1,w1⟩
  refine ⟨Hs1,σ1,S1,?_⟩
  cases m with
  | zero=>cases w1
  | succ m =>
   unfold wN at w1
   split at w1
   ·rename_i ec
    rw [ec]
    intro Hs2 H2 g2
    refine ⟨fun τ' H'=>∃ Hs' σ',SR X.K H0 Hs0 Hs' H' σ' τ'∧Same Hs Hs'∧wN t d1 m σ' = some r,fun τ' H' ⟨Hs',σ',a1,a2,a3⟩=>⟨m,Nat.lt_succ_self m,Hs',σ',a1,a2,a3⟩,Hs2,σ1,S1.grow g2,?_⟩
    have e2:=e1.trans g2.s
    split at w1
    ·rename_i σ' ed
     rw [ed]
     exact fun Hs3 H3 τ3 e3 S3=>⟨Hs3,σ',S3,e2.trans e3,w1⟩
    ·rename_i σ' ed
     rw [ed]
     exact fun Hs3 H3 τ3 e3 S3=>⟨Hs3,σ',S3,e2.trans e3,w1⟩
    ·rename_i σ' ed
     rw [ed]
     cases w1
     exact fun Hs3 H3 τ3 e3 S3=>h Hs3 H3 τ3 (e2.trans e3) S3
    ·rename_i p ed
     rw [ed]
     cases w1
     exact h
    ·rename_i e ed
     rw [ed]
     cases w1
     exact h
    ·rename_i ed
     cases w1
     exact h.elim
   ·rename_i ec
    rw [ec]
    intro Hs2 H2 g2
    cases w1
    exact h Hs2 H2 τ1 (e1.trans g2.s) (S1.grow g2)
   ·rename_i ec
    rw [ec]
    cases w1
    exact h
   ·rename_i ec
    cases w1
    exact h.elim
 ·unfold sWhile at h
  rw [dif_neg hex] at h
  exact h.elim
end
end G
namespace G
open PySem PySem.Spec PyProof.Rows L2
section
variable {X:Cx} {tg:Expr}
end
abbrev DI:=PSt→Res (List PV)
def JOk (K:PySem.W.Frag) (J:It) (Hs:Hp) (ps:List PV):Prop:=∀ (i:Nat) (H Hs':Hp),Same Hs Hs'→Same Hs' H →
 (i < ps.length→J.go i H∧∀ x H',J.yld i H x H'→H' = H∧∃ p,ps[i]? = some p∧Rep K Hs x p)∧(ps.length≤i→J.stop i H)
section
variable (X:Cx) (H0 Hs0:Hp)
def RI (d:DI):TI:=fun τ H R=>∃ Hs σ,SR X.K H0 Hs0 Hs H σ τ∧match d σ with
 | .ok ps=>∀ J Hs' H',Grow Hs H Hs' H'→JOk X.K J Hs' ps→R J H'
 | .err c=>ErrOk X H0 Hs0 c
 | .stuck=>False
def QI (tg e:Expr) (d:DI):Prop:=PI X tg e (RI X H0 Hs0 d)
abbrev DG:=PV→PSt→Res PSt
def RG (g:DG):TG:=fun v τ H Q=>∃ Hs σ p,SR X.K H0 Hs0 Hs H σ τ∧Rep X.K Hs v p∧match g p σ with
 | .ok σ'=>∀ Hs' H' τ',Same Hs Hs'→SR X.K H0 Hs0 Hs' H' σ' τ'→Q τ' H'
 | _=>False
def QG (e:Expr) (g:DG):Prop:=PG X e (RG X H0 Hs0 g)
end
theorem PI.imp {X:Cx} {tg e:Expr} {t t':TI} (h:PI X tg e t) (m:∀ τ H Q,t' τ H Q→t τ H Q):PI X tg e t':=fun pins s σ H Q I q=>h pins s σ H Q I (m _ _ _ q)
theorem PG.imp {X:Cx} {e:Expr} {t t':TG} (h:PG X e t) (m:∀ v τ H Q,t' v τ H Q→t v τ H Q):PG X e t':=fun pins s σ H v u Q I r q=>h pins s σ H v u Q I r (m _ _ _ _ q)
def asSeq:PV→Res (List PV)
 | .tup ps=>.ok ps
 | .lst ps=>.ok ps
 | .scr ns=>.ok (ns.map PV.int)
 | _=>.stuck
def itE (d:DE):DI:=fun σ=>(d σ).bind asSeq
def rangeL (lo c:Int) (n:Nat):List PV:=(List.range n).map fun (i:Nat)=>PV.int (lo + i * c)
def asRange1:List PV→Res (List PV)
 | [.int j]=>if -(2 ^ 61)≤j∧j < 2 ^ 61 then .ok (rangeL 0 1 j.toNat) else .stuck
 | _=>.stuck
def itR (f:List PV→Res (List PV)) (a:DA):DI:=fun σ=>(a σ).bind f
section
variable {X:Cx} {H0 Hs0:Hp} {tg a b c:Expr} {da:DE} {ra:DA} {pos p:Pos}
theorem jok_list {K:PySem.W.Frag} {Hs:Hp} {ad:Addr} {vs:List V} {ps:List PV} (h:SqL K Hs ad vs) (r:Reps K Hs vs ps):JOk K (Itl K ad) Hs ps:=by
 intro i H Hs' e1 e2
 have hq:SqL K H ad vs:=(e1.trans e2).seq h
 refine ⟨fun hi=>?_,fun hi=>⟨vs,hq,by rw [r.length]; exact hi⟩⟩
 have hp:ps[i]? = some ps[i]:=List.getElem?_eq_getElem hi
 obtain ⟨v,hv,rv⟩:=r.get hp
 refine ⟨⟨vs,v,hq,hv⟩,fun x H' ⟨e,y⟩=>⟨e,_,hp,?_⟩⟩
 have:=y vs hq
 rw [hv] at this
 cases this
 exact rv
theorem jok_tup {K:PySem.W.Frag} {Hs:Hp} {ad:Addr} {vs:List V} {ps:List PV} (h:SqT K Hs ad vs) (r:Reps K Hs vs ps):JOk K (Itt K ad) Hs ps:=by
 intro i H Hs' e1 e2
 have hq:SqT K H ad vs:=same_seqT (e1.trans e2) h
 refine ⟨fun hi=>?_,fun hi=>⟨vs,hq,by rw [r.length]; exact hi⟩⟩
 have hp:ps[i]? = some ps[i]:=List.getElem?_eq_getElem hi
 obtain ⟨v,hv,rv⟩:=r.get hp
 refine ⟨⟨vs,v,hq,hv⟩,fun x H' ⟨e,y⟩=>⟨e,_,hp,?_⟩⟩
 have:=y vs hq
 rw [hv] at this
 cases this
 exact rv
theorem jok_range1 {K:PySem.W.Frag} {Hs:Hp} {lo:Int} {n:Nat}:JOk K (Itr lo n) Hs (rangeL lo 1 n):=by
 intro i H Hs' e1 e2
 have hl:(rangeL lo 1 n).length = n:=by simp [rangeL]
 rw [hl]
 refine ⟨fun hi=>⟨hi,fun x H' ⟨e,y⟩=>⟨e,.int (lo + i),?_,?_⟩⟩,fun hi=>hi⟩
 ·simp [rangeL,hi]
 ·rw [y]; exact .int _
theorem qi_seq (ha:QE X H0 Hs0 a da):QI X H0 Hs0 tg a (itE da):=by
 intro pins s τ H R I ⟨Hs,σ,S,h⟩
 unfold itE at h
 cases e:da σ with
 | ok q =>
  rw [e] at h
  cases q with
  | lst ps =>
   exact pi_list ha pins s τ H R I ⟨Hs,σ,S,by
    rw [e]
    intro v Hs' H' g r
    obtain ⟨ad,vs,rfl,hl,rr⟩:=r.lst_inv
    exact ⟨ad,rfl,⟨vs,SqL.of (g.i _ _ hl)⟩,h _ Hs' H' g (jok_list (SqL.of hl) rr)⟩⟩
  | scr ns =>
   exact pi_list ha pins s τ H R I ⟨Hs,σ,S,by
    rw [e]
    intro v Hs' H' g r
    obtain ⟨ad,rfl,hl⟩:=r.scr_inv
    exact ⟨ad,rfl,⟨_,g.i.seq hl⟩,h _ Hs' H' g (jok_list hl (Reps.ints ns))⟩⟩
  | tup ps =>
   exact pi_tup ha pins s τ H R I ⟨Hs,σ,S,by
    rw [e]
    intro v Hs' H' g r
    obtain ⟨ad,vs,rfl,hl,rr⟩:=r.tup_inv
    exact ⟨ad,rfl,⟨vs,same_seqT g.i hl⟩,h _ Hs' H' g (jok_tup hl rr)⟩⟩
  | _=>exact h.elim
 | err c =>
  rw [e] at h
  exact pi_list ha pins s τ H R I ⟨Hs,σ,S,by rw [e]; exact h⟩
 | stuck=>rw [e] at h; exact h.elim
theorem range_read {f:List PV→Res (List PV)} {τ:L2.St} {H:Hp} {R:It→Hp→Prop} (h:RI X H0 Hs0 (itR f ra) τ H R) :
  RA X H0 Hs0 ra τ H fun vs H1=>∃ Hs ps,Same Hs H1∧Reps X.K Hs vs ps∧match f ps with
   | .ok qs=>∀ J Hs' H',Grow Hs H1 Hs' H'→JOk X.K J Hs' qs→R J H'
   | .err c=>ErrOk X H0 Hs0 c
   | .stuck=>False:=by
 obtain ⟨Hs,σ,S,h⟩:=h
 refine ⟨Hs,σ,S,?_⟩
 unfold itR at h
 generalize ra σ = r at h ⊢
 cases r with
 | ok ps =>
  intro vs Hs' H' g r
  refine ⟨Hs',ps,g.i,r,?_⟩
  have h:(match f ps with
   | .ok ps=>∀ J Hs' H',Grow Hs H Hs' H'→JOk X.K J Hs' ps→R J H'
   | .err c=>ErrOk X H0 Hs0 c
   | .stuck=>False):=h
  cases e:f ps with
  | ok qs=>rw [e] at h; exact fun J Hs2 H2 g2 j=>h J Hs2 H2 (g.trans g2) j
  | err c=>rw [e] at h; exact h
  | stuck=>rw [e] at h; exact h
 | err c=>exact h
 | stuck=>exact h
theorem qi_range1 (hg:Gl X "range") (hm:X.mg "range" = none) (ha:QA X H0 Hs0 [a] ra) (hs:starEach [a] X.env = [(false,eval a X.env)]):QI X H0 Hs0 tg (.Call (.Name "range" p) [a] [] pos) (itR asRange1 ra) :=
 PI.imp (pi_range1 hg hm ha hs) fun τ H R h=>RA.mono (range_read h) fun vs H1 ⟨Hs,ps,i,r,h1⟩=>by
  unfold asRange1 at h1
  split at h1
  ·rename_i e
   split at e
   ·rename_i j
    obtain ⟨v,rfl,r1⟩:=r.one_inv
    cases r1.int_inv
    split at e
    ·rename_i hb
     cases e
     exact ⟨j,rfl,by omega,by omega,h1 _ Hs H1 (.refl i) jok_range1⟩
    ·cases e
   ·cases e
  ·rename_i e
   split at e
   ·split at e <;> cases e
   ·cases e
  ·exact h1.elim
def gN (i:Nat):DG:=fun p σ=>.ok (σ.set i (some (.sh p)))
theorem qg_name {i:Nat} {x:Str} (hN:X.N.Nodup) (hi:X.N[i]? = some x) (hx:Loc X.env.scope x) (hf:X.fn x = true∨X.env.scope.names.lookup x = some .local):QG X H0 Hs0 (.Name x pos) (gN i) :=
 PG.imp (pg_name hN hi hx hf) fun v τ H Q ⟨Hs,σ,p,S,r,h⟩=>h Hs H _ (Same.refl _) (S.set i r)
def setAll:List Nat→List PV→PSt→Res PSt
 | [],[],σ=>.ok σ
 | i::is,p::ps,σ=>setAll is ps (σ.set i (some (.sh p)))
 | _,_,_=>.stuck
def RGs (X:Cx) (H0 Hs0:Hp) (is:List Nat):TGs:=fun vs τ H Q=>∃ Hs σ ps,SR X.K H0 Hs0 Hs H σ τ∧Reps X.K Hs vs ps∧match setAll is ps σ with
 | .ok σ'=>∀ Hs' H' τ',Same Hs Hs'→SR X.K H0 Hs0 Hs' H' σ' τ'→Q τ' H'
 | _=>False
def QGs (X:Cx) (H0 Hs0:Hp) (es:List Expr) (is:List Nat):Prop:=PGs X es (RGs X H0 Hs0 is)
def forS (g:DG) (b:DS):List PV→DS
 | [],σ=>.ok (.next σ)
 | p::ps,σ=>match g p σ with
  | .ok σ1=>(b σ1).bind fun f=>match f with
   | .next σ'=>forS g b ps σ'
   | .cont σ'=>forS g b ps σ'
   | .brk σ'=>.ok (.next σ')
   | .ret p=>.ok (.ret p)
  | _=>.stuck
def sFor (it:DI) (g:DG) (b:DS):DS:=fun σ=>(it σ).bind fun ps=>forS g b ps σ
theorem qs_for {iter:Expr} {sts:List Stmt} {d:DI} {g:DG} {bb:DS} (hp:PassesOwn (model X.prog X.w) X.A X.env X.xe) (hc:X.calm = true) (hi:QI X H0 Hs0 tg iter d) (hg:QG X H0 Hs0 tg g) (hb:QSs X H0 Hs0 sts bb)
  (hs:∀ x,foldedSetIterable iter X.env x = pure x):QS X H0 Hs0 (.For tg iter sts [] pos) (sFor d g bb) :=
 PS.imp (ps_for hp hc hi hg hb hs) fun D τ H ⟨Hs,σ,S,h⟩=>by
  refine ⟨Hs,σ,S,?_⟩
  unfold sFor at h
  generalize d σ = r at h ⊢
  cases r with
  | err c=>exact h
  | stuck=>exact h
  | ok ps =>
   intro J Hs1 H1 g1 jok
   have h:EndR X H0 Hs0 D Hs H (forS g bb ps σ):=h
   refine ⟨fun i m τ H=>∃ Hs' σ',SR X.K H0 Hs0 Hs' H σ' τ∧Same Hs1 Hs'∧m = ps.length - i∧i≤ps.length∧EndR X H0 Hs0 D Hs' H (forS g bb (ps.drop i) σ'),⟨ps.length,Hs1,σ,S.grow g1,Same.refl _,by simp,Nat.zero_le _,by simpa using h.same g1.s⟩,?_⟩
   rintro i m τ2 H2 ⟨Hs2,σ2,S2,e2,rfl,hi,h2⟩
   obtain ⟨j1,j2⟩:=jok i H2 Hs2 e2 S2.g.i
   by_cases hlt:i < ps.length
   ·obtain ⟨go,yl⟩:=j1 hlt
    refine .inr ⟨go,fun τ' H'=>∃ Hs' σ',SR X.K H0 Hs0 Hs' H' σ' τ'∧Same Hs1 Hs'∧EndR X H0 Hs0 D Hs' H' (forS g bb (ps.drop (i + 1)) σ'),fun τ' H' ⟨Hs',σ',a1,a2,a3⟩=>⟨ps.length - (i + 1),by omega,Hs',σ',a1,a2,rfl,by omega,a3⟩,fun x H' y=>?_⟩
    obtain ⟨rfl,p,hp',rp⟩:=yl x H' y
    rw [List.drop_eq_getElem_cons hlt] at h2
    have ep:ps[i] = p:=by rw [List.getElem?_eq_getElem hlt] at hp'; exact Option.some.inj hp'
    rw [ep] at h2
    refine ⟨Hs2,σ2,p,S2,rp.mono e2,?_⟩
    unfold forS at h2
    cases eg:g p σ2 with
    | ok σ3 =>
     rw [eg] at h2
     dsimp only at h2
     intro Hs3 H3 τ3 e3 S3
     refine ⟨Hs3,σ3,S3,?_⟩
     have h3:=EndR.same (H':=H3) h2 e3
     revert h3
     generalize bb σ3 = rb
     intro h3
     cases rb with
     | err c=>exact h3
     | stuck=>exact h3
     | ok f =>
      cases f with
      | next σ'=>exact fun Hs4 H4 τ4 e4 S4=>⟨Hs4,σ',S4,(e2.trans e3).trans e4,EndR.same (H':=H4) h3 e4⟩
      | cont σ'=>exact fun Hs4 H4 τ4 e4 S4=>⟨Hs4,σ',S4,(e2.trans e3).trans e4,EndR.same (H':=H4) h3 e4⟩
      | brk σ'=>exact h3
      | ret q=>exact h3
    | err c=>rw [eg] at h2; exact h2.elim
    | stuck=>rw [eg] at h2; exact h2.elim
   ·have e:i = ps.length:=by omega
    subst e
    refine .inl ⟨j2 (Nat.le_refl _),?_⟩
    rw [List.drop_length] at h2
    exact h2 Hs2 H2 τ2 (Same.refl _) S2
end
end G
namespace G
open PySem PySem.Spec PyProof.Rows L2
section
variable {prog:Program} {w:World} {A:Around} {E:Value→Shared→Prop} {s:Shared}
end
section
variable {X:Cx} {H0 Hs0:Hp} {a b c:Expr} {da db dc:DE} {pos:Pos}
def sPar (i j:Nat) (a:DA):DS:=fun σ=>(a σ).bind fun ps=>match ps with
 | [p,q]=>.ok (.next ((σ.set i (some (.sh p))).set j (some (.sh q))))
 | _=>.stuck
theorem EndR.bindA {D:Ends} {Hs H:Hp} {r:Res (List PV)} {f:List PV→Res Fl} (h:EndR X H0 Hs0 D Hs H (r.bind f)) :
  Rets X.K Hs H r (ErrOk X H0 Hs0) fun v H1=>∃ Hs1 p,Grow Hs H Hs1 H1∧Reps X.K Hs1 v p∧EndR X H0 Hs0 D Hs1 H1 (f p):=by
 cases r with
 | ok p=>exact fun v Hs' H' g r=>⟨Hs',p,g,r,EndR.same (r:=f p) h g.s⟩
 | err c=>exact h
 | stuck=>exact h
theorem qs_par {i j:Nat} {x y:Str} {ra:DA} {px py pt:Pos} {kt k2 pt2} (hc:X.calm = true) (hN:X.N.Nodup) (hi:X.N[i]? = some x) (hj:X.N[j]? = some y) (hij:i≠j)
  (hx:X.env.scope.names.lookup x = some .local) (hy:X.env.scope.names.lookup y = some .local) (ha:QA X H0 Hs0 [a,b] ra)
  (hw:swappedStores [.Tuple [.Name x px,.Name y py] kt pt] (.Tuple [a,b] k2 pt2) X.env = pure (some [x,y]))
  (hs:swapsWithSole [.Tuple [.Name x px,.Name y py] kt pt] (.Tuple [a,b] k2 pt2) pos.line X.env = pure false) :
  QS X H0 Hs0 (.Assign [.Tuple [.Name x px,.Name y py] kt pt] (.Tuple [a,b] k2 pt2) pos) (sPar i j ra):=PS.imp (ps_par hc hN hi hj hij hx hy ha hw hs) fun D τ H ⟨Hs,σ,S,h⟩ =>
 ⟨Hs,σ,S,Rets.mono (EndR.bindA h) fun vs H1 ⟨Hs1,ps,g1,r1,h1⟩=>by
  split at h1
  ·obtain ⟨v,w,rfl,rp,rq⟩:=r1.two_inv
   exact ⟨v,w,rfl,h1 Hs1 H1 _ (Same.refl _) (((S.grow g1).set i rp).set j rq)⟩
  ·exact h1.elim⟩
theorem SR.setOwn {K:PySem.W.Frag} {Hs H:Hp} {σ:PSt} {τ:L2.St} {p:Addr} {vs:List V} {xs:List PV} (S:SR K H0 Hs0 Hs H σ τ) (i:Nat) (hp:H p = none) (r:Reps K Hs vs xs) :
  SR K H0 Hs0 Hs (upd H p (.lst vs)) (σ.set i (some (.own xs))) (τ.set i (some (.ref p))):=by
 have g:Grow Hs H Hs (upd H p (.lst vs)):=.newOwn S.g.i hp
 have far:∀ (j:Nat) (ys:List PV) (ad:Addr),σ[j]? = some (some (.own ys))→τ[j]? = some (some (.ref ad))→ad≠p:=fun j ys ad e1 e2 z=>by
  obtain ⟨v,e3,a',vs',rfl,h1,_⟩:=S.slot j _ e1
  rw [e2] at e3
  cases e3
  subst z
  rw [hp] at h1; cases h1
 refine ⟨S.g.trans g,fun j sv e=>?_,fun j k xs' ys' ad hjk e1 e2 e3=>?_,by rw [List.length_set,List.length_set]; exact S.len⟩
 ·rcases set_some e with ⟨rfl,e',hl⟩ | ⟨hne,e'⟩
  ·cases e'
   refine ⟨.ref p,by rw [List.getElem?_set_self (by rw [← S.len]; exact hl)],p,vs,rfl,upd_same,S.g.i.free hp,S.g.h.free hp,r⟩
  ·obtain ⟨w,e1,r1⟩:=S.slot j sv e'
   exact ⟨w,by rw [List.getElem?_set_ne (fun z=>hne z.symm)]; exact e1,r1.grow g⟩
 ·rcases set_some e1 with ⟨rfl,e',hl⟩ | ⟨hj,e1'⟩
  ·rw [List.getElem?_set_self (by rw [← S.len]; exact hl)] at e3
   cases e3
   rcases set_some e2 with ⟨rfl,_,_⟩ | ⟨hk,e2'⟩
   ·exact absurd rfl hjk
   ·rw [List.getElem?_set_ne (fun z=>hk z.symm)]
    exact fun z=>far k _ _ e2' z rfl
  ·rw [List.getElem?_set_ne (fun z=>hj z.symm)] at e3
   rcases set_some e2 with ⟨rfl,e',hl⟩ | ⟨hk,e2'⟩
   ·rw [List.getElem?_set_self (by rw [← S.len]; exact hl)]
    intro z
    cases z
    exact far j _ _ e1' e3 rfl
   ·rw [List.getElem?_set_ne (fun z=>hk z.symm)]
    exact S.inj j k _ _ ad hjk e1' e2' e3
def sOwn (i:Nat) (a:DA):DS:=fun σ=>(a σ).bind fun ps=>if ps.length≤10000000 then .ok (.next (σ.set i (some (.own ps)))) else .stuck
theorem qs_own {i:Nat} {x:Str} {es:List Expr} {lp pos':Pos} {ra:DA} (hN:X.N.Nodup) (hi:X.N[i]? = some x) (hx:Loc X.env.scope x) (ha:QA X H0 Hs0 es ra) (hs:swapsWith (.List es lp) (some (.Name x pos')) pos.line X.env = pure false)
  (hf:X.fn x = true∨X.env.scope.names.lookup x = some .local):QS X H0 Hs0 (.Assign [.Name x pos'] (.List es lp) pos) (sOwn i ra):=PS.imp (ps_set hN hi hx (pe_lst ha) hs hf) fun D τ H ⟨Hs,σ,S,h⟩ =>
 ⟨Hs,σ,S,Rets.mono (EndR.bindA h) fun vs H1 ⟨Hs1,ps,g1,r1,h1⟩=>by
  split at h1
  ·rename_i hl
   exact ⟨small7 (by rw [r1.length]; exact hl),fun p hp=>h1 Hs1 _ _ (Same.refl _) ((S.grow g1).setOwn i hp r1)⟩
  ·exact h1.elim⟩
theorem SR.write {K:PySem.W.Frag} {Hs H:Hp} {σ:PSt} {τ:L2.St} {ad:Addr} {vs':List V} {xs xs':List PV} (S:SR K H0 Hs0 Hs H σ τ) (i:Nat) (e:σ[i]? = some (some (.own xs))) (et:τ[i]? = some (some (.ref ad))) (hHs:Hs ad = none) (hH0:H0 ad = none) (r:Reps K Hs vs' xs') :
  SR K H0 Hs0 Hs (upd H ad (.lst vs')) (σ.set i (some (.own xs'))) τ:=by
 have sm:∀ {b:Addr},b≠ad→upd H ad (.lst vs') b = H b:=fun h=>upd_ne h
 refine ⟨⟨S.g.s,fun b o h=>?_,fun b o h=>?_,S.g.o⟩,fun j sv ej=>?_,fun j k xs1 ys1 a1 hjk e1 e2 e3=>?_,by rw [List.length_set]; exact S.len⟩
 ·rw [sm (ne_of_none h hHs)]; exact S.g.i b o h
 ·rw [sm (ne_of_none h hH0)]; exact S.g.h b o h
 ·rcases set_some ej with ⟨rfl,e',hl⟩ | ⟨hne,e'⟩
  ·cases e'
   exact ⟨_,et,ad,vs',rfl,upd_same,hHs,hH0,r⟩
  ·obtain ⟨w,e1,r1⟩:=S.slot j sv e'
   refine ⟨w,e1,?_⟩
   cases sv with
   | sh p=>exact r1
   | own ys =>
    obtain ⟨b,ws,rfl,h1,h2,h3,h4⟩:=r1
    refine ⟨b,ws,rfl,?_,h2,h3,h4⟩
    rw [sm]
    ·exact h1
    ·intro z
     subst z
     exact S.inj j i ys xs b hne e' e e1 et
 ·have o1:∃ z,σ[j]? = some (some (.own z)):=by
   rcases set_some e1 with ⟨rfl,_,_⟩ | ⟨_,e'⟩
   ·exact ⟨xs,e⟩
   ·exact ⟨_,e'⟩
  have o2:∃ z,σ[k]? = some (some (.own z)):=by
   rcases set_some e2 with ⟨rfl,_,_⟩ | ⟨_,e'⟩
   ·exact ⟨xs,e⟩
   ·exact ⟨_,e'⟩
  obtain ⟨z1,o1⟩:=o1
  obtain ⟨z2,o2⟩:=o2
  exact S.inj j k z1 z2 a1 hjk o1 o2 e3
def sApp (i:Nat) (d:DE):DS:=fun σ=>match σ[i]? with
 | some (some (.own xs))=>if xs.length < 10000000 then (d σ).bind fun p=>.ok (.next (σ.set i (some (.own (xs++[p]))))) else .stuck
 | _=>.stuck
theorem qs_app {i:Nat} {x:Str} {np apos cpos:Pos} (hN:X.N[i]? = some x) (hv:Vis X.env.scope x) (hd:(x == ("__debug__":Str)) = false) (hcd:(x == ("__classdict__":Str)) = false) (ha:QE X H0 Hs0 a da)
  (hbase:attributeBase (.Name x np) "append" X.env (eval (.Name x np) X.env) = eval (.Name x np) X.env)
  (hfew:((backTo cpos (starEach [a] X.env)).all (fun x=>!x.1) && (backToKw cpos (keywordEach [] X.env)).all (fun x=>x.1.isSome)
   && decide ([a].length + ([]:List Keyword).length + (if ([]:List Keyword).isEmpty then 0 else 1) < 30)) = true)
  (hline:(apos.endLine == cpos.line) = true) (hs:starEach [a] X.env = [(false,eval a X.env)]) (hplain:(backTo cpos (starEach [] X.env)).any (·.1) = false)
  (hsw:swapsWith (.Call (.Attribute (.Name x np) "append" apos) [a] [] cpos) none pos.line X.env = pure false) :
  QS X H0 Hs0 (.Expr (.Call (.Attribute (.Name x np) "append" apos) [a] [] cpos) pos) (sApp i da):=by
 intro pins s τ H D I ⟨Hs,σ,S,h⟩
 refine ps_expr (pe_bm PySem.F.plainAttrs_list PySem.F.slot_list_append PySem.F.type_list_append mt_append (pe_var hN hv hd hcd) (pa_cons ha pa_nil hs) hbase hfew hline hs hplain) hsw pins s τ H D I ?_
 unfold sApp at h
 split at h
 ·rename_i xs e
  split at h
  ·rename_i hl
   obtain ⟨v,e1,ad,vs,rfl,h1,h2,h3,h4⟩:=S.slot i _ e
   refine ⟨_,e1,.inl ⟨rfl,vs,SqL.of h1⟩,Hs,σ,S,Ret.mono (EndR.bind1 h) fun y H1 ⟨Hs1,p,g1,r1,hh⟩=>?_⟩
   have S1:=S.grow g1
   obtain ⟨v',e1',ad',vs',e2',h1',h2',h3',h4'⟩:=S1.slot i _ e
   rw [e1] at e1'
   cases e1'
   cases e2'
   refine ⟨ad,vs',y,rfl,rfl,h1',by rw [h4'.length,sizeLine_eq]; omega,hh Hs1 _ τ (Same.refl _) (S1.write i e e1 h2' h3' (h4'.append (.cons r1 .nil)))⟩
  ·exact h.elim
 ·exact h.elim
end
end G
namespace G
open PySem PySem.Spec PyProof.Rows L2
section
variable {X:Cx} {H0 Hs0:Hp} {pos:Pos}
theorem q_dict0:QE X H0 Hs0 (.Dict [] [] pos) (eC .dic):=PE.imp pe_dnewK fun τ H Q ⟨Hs,σ,S,h⟩ p hp=>h _ _ _ (.new S.g.i hp) (.dic upd_same)
end
def start0 (m:Nat) (ps:List PV):PSt:=ps.map (fun p=>some (.sh p))++List.replicate (m - ps.length) none
def fin:Res Fl→Res PV
 | .ok (.ret p)=>.ok p
 | .ok (.next _)=>.ok .non
 | _=>.stuck
def runF (n m:Nat) (d:DS) (ps:List PV):Res PV:=if ps.length = n then fin (d (start0 m ps)) else .stuck
theorem runF_eq {n m:Nat} {d:DS} {ps:List PV} (h:ps.length = n):runF n m d ps = fin (d (start0 m ps)):=if_pos h
theorem runF_ne {n m:Nat} {d:DS} {ps:List PV} (h:ps.length≠n):runF n m d ps = .stuck:=if_neg h
theorem SR.start {K:PySem.W.Frag} {Hs H:Hp} {vs:List V} {ps:List PV} {N:List Str} (i:Same Hs H) (r:Reps K Hs vs ps) (hl:vs.length≤N.length):SR K H Hs Hs H (start0 N.length ps) (start N vs):=by
 have hlen:=r.length
 have get:∀ (j:Nat) (sv:SV),(start0 N.length ps)[j]? = some (some sv)→∃ p,sv = .sh p∧ps[j]? = some p:=by
  intro j sv e
  unfold start0 at e
  by_cases hj:j < ps.length
  ·rw [List.getElem?_append_left (by simpa using hj),List.getElem?_map] at e
   cases q:ps[j]? with
   | none=>rw [q] at e; cases e
   | some p=>rw [q] at e; cases e; exact ⟨p,rfl,rfl⟩
  ·rw [List.getElem?_append_right (by simpa using hj),List.getElem?_replicate] at e
   split at e <;> cases e
 refine ⟨.refl i,fun j sv e=>?_,fun j k xs ys a _ e1=>?_,?_⟩
 ·obtain ⟨p,rfl,hp⟩:=get j sv e
  obtain ⟨v,hv,rv⟩:=r.get hp
  refine ⟨v,?_,rv⟩
  have hj:j < vs.length:=(List.getElem?_eq_some_iff.mp hv).1
  unfold L2.start
  rw [List.getElem?_append_left (by simpa using hj),List.getElem?_map,hv]; rfl
 ·obtain ⟨p,z,_⟩:=get j _ e1
  cases z
 ·unfold start0 L2.start
  simp only [List.length_append,List.length_map,List.length_replicate]
  omega
section
variable {P:Program} {w:World} {K:PySem.W.Frag} {mg:Str→Option Value} {base:Heap}
theorem fun_okX {CX:CXT} {x qual:Str} {st:Stmt} {f:Addr} {fd:FuncData} {N ps:List Str} {k:Nat} {sp:Sp} (F:Fun K x qual st f fd) (S:FnScope N ps (defScope st)) (len:∀ vs H Q E,sp vs H Q E→vs.length = ps.length)
  (hbody:∀ (cdv:Value) (A:Around) (outer:List Env) (s:Shared) (H:Hp) (vs:List V) (Q:VK) (E:XK),Room k (A.deeper (envOfC qual (defScope st) s.heap.objs.size f cdv))→sp vs H Q E →
   ∃ t,PSs (cxOf CX P w K mg base N qual (defScope st) f cdv A outer s H E) (defBody st) t∧t { nx:=fun _ H'=>Q .non H',rt:=Q } (start N vs) H):FnOk P w K mg base CX (k + 1) f fd ps sp:=by
 obtain ⟨oc,od,kV,doc,pm,an,cdv,ct,osl,rfl,lk,hcd⟩:=F.ex
 exact fn_of lk hcd S len fun A outer s H vs Q E hr hsp=>hbody cdv A outer s H vs Q E hr hsp
theorem fn_ok {x qual:Str} {st:Stmt} {f:Addr} {fd:FuncData} {N ps:List Str} {k:Nat} {d:DS} (F:Fun K x qual st f fd) (S:FnScope N ps (defScope st))
  (hbody:∀ (cdv:Value) (A:Around) (outer:List Env) (s:Shared) (H Hs:Hp) (E:XK),Room k (A.deeper (envOfC qual (defScope st) s.heap.objs.size f cdv)) →
   QSs (cxOf (CXG P w) P w K mg base N qual (defScope st) f cdv A outer s H E).nox H Hs (defBody st) d) :
  FnOk P w K mg base (CXG P w) (k + 1) f fd ps (Fsp K ps.length (runF ps.length N.length d)):=by
 have hpl:ps.length≤N.length:=by have:=congrArg List.length S.pre; rw [List.length_take] at this; omega
 refine fun_okX F S (fun vs H Q E h=>h.1) (fun cdv A outer s H vs Q E hr h=>?_)
 obtain ⟨hl,Hs,qs,i,r,h⟩:=h
 refine ⟨_,PSs.nox (hbody cdv A outer s H Hs E hr),Hs,start0 N.length qs,SR.start i r (by omega),?_⟩
 rw [runF_eq (by rw [← r.length,hl])] at h
 generalize d (start0 N.length qs) = rr at h ⊢
 cases rr with
 | ok fl =>
  cases fl with
  | next σ'=>exact fun Hs' H' τ' _ S'=>h _ Hs' H' S'.g .non
  | ret p=>exact fun v Hs' H' g rv=>h v Hs' H' g rv
  | brk σ'=>exact h.elim
  | cont σ'=>exact h.elim
 | err c=>exact h.elim
 | stuck=>exact h
structure FunIn (P:Program) (w:World) (K:PySem.W.Frag) (mg:Str→Option Value) (base:Heap) (x:Str) (k:Nat) (m:List PV→Res PV):Prop where
 ex:∃ (a:Addr) (fd:FuncData) (ps:List Str),mg x = some (.ref a)∧PySem.W.keepIn K (.ref a) = true∧Binds K fd ps []∧(∀ qs,qs.length≠ps.length→m qs = .stuck)∧FnOk P w K mg base (CXG P w) k a fd ps (Fsp K ps.length m)
theorem fun_in {x:Str} {st:Stmt} {f:Addr} {fd:FuncData} {N ps:List Str} {k:Nat} {d:DS} (F:Fun K x x st f fd) (hm:mg x = some (.ref f)) (S:FnScope N ps (defScope st))
  (hb:∀ (kV doc pm:Value) (an:Option Addr) (cdv ct:Value) (us:List Value),us.length = ps.length→bindArgs (PySem.W.fnOf x x (defArgs st) (defBody st) (defScope st) .none kV doc pm an cdv ct) ⟨us,[]⟩ = pure (ps.zip us))
  (hbody:∀ (cdv:Value) (A:Around) (outer:List Env) (s:Shared) (H Hs:Hp) (E:XK),Room k (A.deeper (envOfC x (defScope st) s.heap.objs.size f cdv)) →
   QSs (cxOf (CXG P w) P w K mg base N x (defScope st) f cdv A outer s H E).nox H Hs (defBody st) d) :
  FunIn P w K mg base x (k + 1) (runF ps.length N.length d) :=
 ⟨f,fd,ps,hm,F.kp,F.binds hb,fun qs h=>runF_ne h,fn_ok F S hbody⟩
theorem FunIn.is {x:Str} {j:Nat} {m:List PV→Res PV} {X:Cx} {k:Nat} (F:FunIn X.prog X.w X.K X.mg X.base x j m) (hr:Room k X.A) (h:j≤k:=by decide):FunIs X x m:=by
 obtain ⟨a,fd,ps,h1,h2,h3,h4,h5⟩:=F.ex
 exact ⟨a,fd,ps,j,h1,h2,h3,hr.mono h,h4,h5⟩
structure DefAt (K:PySem.W.Frag) (x:Str) (st:Stmt):Prop where
 ex:∃ (f:Addr) (fd:FuncData),PySem.W.nsIn K mainGlobals x = some (some (.ref f))∧Fun K x x st f fd
theorem def_at {x:Str} {st:Stmt} {f:Addr} {oc:Value} {od an:Option Addr} {osl:Array (Option Value)} {kV doc pm cdv ct:Value} (a:PySem.W.nsIn K mainGlobals x = some (some (.ref f)))
  (l:K.lookup f = some ⟨oc,od,.func (PySem.W.fnOf x x (defArgs st) (defBody st) (defScope st) .none kV doc pm an cdv ct),osl⟩) (c:PySem.W.codeIn K cdv x = true) (k:PySem.W.keepIn K (.ref f) = true):DefAt K x st :=
 ⟨f,_,a,fun_mk l c k⟩
theorem law_walk {l:PySem.W.OpenLaw} {q:Program} {loose:List Str} {XP:(Str→Option Value)→Heap→Prop} {YP:World→Heap→Prop} {d:DefRec} {K:Params→PySem.W.Frag} {k:Nat} {m:List PV→Res PV} (hn:l.most = some 63) (hdf:d.params.defaults = [])
  (hr:Room k callerA) (hY:∀ (w:World) (h:Heap),YP w h→(K w.params).In h) (hd:d.name = "law")
  (F:∀ (w:World) (mg:Str→Option Value) (h:Heap),(K w.params).In h→h.Ns mainGlobals mg →
   ∃ (a:Addr) (fd:FuncData),mg "law" = some (.ref a)∧(∀ (s:Shared) (u:Value),BindsTo s fd ⟨[u],[]⟩ [("script",u)])∧∀ base:Heap,(K w.params).In base→base.Ns mainGlobals mg→FnOk l.prog w (K w.params) mg base (CXG l.prog w) k a fd ["script"] (Fsp (K w.params) 1 m))
  (hm:∀ ns:List Int,ns.length≤63→m [.scr ns] = .ok (.bl true)) :
  PySem.W.WalkO q loose XP YP l.row.toRowW d [] (fun f vs=>PySem.call f vs):=by
 refine L2.walk_of (n:=63) (k:=k) (x:="script") (CX:=fun w=>CXG l.prog w) (sp:=fun w=>Fsp (K w.params) 1 m) hn (by decide) hdf hr hY (fun w mg fa h KX G hmg=>?_) (fun w H a ns hl _ hS=>?_) fun _ _ _ _ _ ⟨_,_,_,_,_,_,_,_,_,_,_,z⟩=>z
 ·obtain ⟨a,fd,h1,h2,h3⟩:=F w mg h KX G
  rw [hd,h1] at hmg
  cases hmg
  exact ⟨fd,h2,h3⟩
 ·refine ⟨rfl,H,[.scr ns],Same.refl _,.cons (.scr hS) .nil,?_⟩
  rw [hm ns hl]
  exact fun v Hs' H' g r=>r.bl_inv
end
end G
namespace G
open PySem PySem.Spec PyProof.Rows L2
def noStar:Expr→Bool
 | .Starred _ _=>false
 | _=>true
def noComp:Expr→Bool
 | .ListComp ..=>false
 | .SetComp ..=>false
 | .DictComp ..=>false
 | _=>true
def noSet:Expr→Bool
 | .Set ..=>false
 | _=>true
def noSlice:Expr→Bool
 | .Slice ..=>false
 | _=>true
def valHead:Expr→Bool
 | .UnaryOp ..=>false
 | .BoolOp ..=>false
 | .IfExp ..=>false
 | .Compare ..=>false
 | _=>true
theorem star_cons {a:Expr} {es:List Expr} {env:Env} (h:noStar a = true):starEach (a::es) env = (false,eval a env)::starEach es env:=by
 cases a <;> first | rfl | cases h
theorem star_any {es:List Expr} {env:Env} {pos:Pos} (h:es.all noStar = true):(backTo pos (starEach es env)).any (·.1) = false:=by
 induction es with
 | nil=>rfl
 | cons a es ih =>
  rw [List.all_cons,Bool.and_eq_true] at h
  rw [star_cons h.1]
  show ((false || (backTo pos (starEach es env)).any (·.1)) = false)
  rw [ih h.2]; rfl
theorem swap_no {a:Expr} {t:Option Expr} {n:Nat} {env:Env} (h:noComp a = true):swapsWith a t n env = pure false:=by
 cases a <;> first | rfl | cases h
theorem swapSole_no {a t:Expr} {n:Nat} {env:Env} (h:noComp a = true):swapsWithSole [t] a n env = pure false:=swap_no h
theorem fold_no {a:Expr} {env:Env} (h:noSet a = true):∀ x,foldedSetIterable a env x = pure x:=by
 intro x
 cases a <;> first | rfl | cases h
theorem plain_ix {b:Expr} (h:noSlice b = true):PlainIx b:=by
 intro o i
 cases b <;> first | rfl | cases h
theorem val_true {a:Expr} {env:Env} (h:valHead a = true):∀ whole,isTrue a env whole = (do let v ← whole; standAt a.pos; holding [v] (truthy v)):=by
 intro whole
 cases a <;> first | (cases h; done) | (unfold isTrue; rfl) | rfl
theorem marks_no {op:CmpOp} {b:Expr} (h:noSet b = true):behindInMarks op b = false:=by
 cases b <;> first | rfl | cases h
end G
namespace G
open PySem PySem.Spec PyProof.Rows L2
section
variable (X:Cx) (H0 Hs0:Hp)
structure XE (e:Expr) (d:DE):Prop where h:QE X H0 Hs0 e d
structure XA (e:List Expr) (d:DA):Prop where h:QA X H0 Hs0 e d
structure XT (e:Expr) (d:DT):Prop where h:QT X H0 Hs0 e d
structure XW (e:Expr) (d:DT):Prop where h:QW X H0 Hs0 e d
structure XS (e:Stmt) (d:DS):Prop where h:QS X H0 Hs0 e d
structure XB (e:List Stmt) (d:DS):Prop where h:QSs X H0 Hs0 e d
structure XI (tg e:Expr) (d:DI):Prop where h:QI X H0 Hs0 tg e d
structure XG (e:Expr) (d:DG):Prop where h:QG X H0 Hs0 e d
structure XGs (e:List Expr) (d:List Nat):Prop where h:QGs X H0 Hs0 e d
structure XO (e:Option Expr) (d:DO):Prop where h:QO X H0 Hs0 e d
end
theorem room20 {A:Around} {k:Nat} (hr:Room k A):A.units + 20 < cLine:=by have:=hr.un; omega
theorem bw_abs:bootBuiltins "abs" = some (.builtin "abs"):=by decide +kernel
theorem bw_max:bootBuiltins "max" = some (.builtin "max"):=by decide +kernel
theorem bt_int:bootBuiltins "int" = some (.type "int"):=by decide +kernel
theorem bt_bool:bootBuiltins "bool" = some (.type "bool"):=by decide +kernel
theorem bt_tuple:bootBuiltins "tuple" = some (.type "tuple"):=by decide +kernel
theorem bt_str:bootBuiltins "str" = some (.type "str"):=by decide +kernel
theorem kn_int:"int"∈kindNames:=by decide
theorem kn_bool:"bool"∈kindNames:=by decide
theorem kn_tuple:"tuple"∈kindNames:=by decide
theorem kn_str:"str"∈kindNames:=by decide
structure Bi (mg:Str→Option Value):Prop where
 abs:mg "abs" = none
 len:mg "len" = none
 range:mg "range" = none
 max:mg "max" = none
 min:mg "min" = none
 isinstance:mg "isinstance" = none
 int:mg "int" = none
 bool:mg "bool" = none
 tuple:mg "tuple" = none
 list:mg "list" = none
 str:mg "str" = none
 dict:mg "dict" = none
 sorted:mg "sorted" = none
 set:mg "set" = none
 reversed:mg "reversed" = none
 zip:mg "zip" = none
 enumerate:mg "enumerate" = none
 all:mg "all" = none
 any:mg "any" = none
section
variable {X:Cx} {H0 Hs0:Hp} {a b c:Expr} {da db dc:DE} {pos:Pos} {ta tb:DT} {es rest:List Expr} {ra:DA} {st:Stmt} {sts ss2:List Stmt} {d1 d2:DS}
theorem xv (i:Nat) {x:Str} (hN:X.N[i]? = some x:=by rfl) (hv:Vis X.env.scope x:=by first | exact Or.inl rfl | exact Or.inr (Or.inl rfl) | exact Or.inr (Or.inr rfl)) (hd:(x == ("__debug__":Str)) = false:=by decide)
  (hcd:(x == ("__classdict__":Str)) = false:=by decide):XE X H0 Hs0 (.Name x pos) (eVar i):=⟨q_var hN hv hd hcd⟩
theorem xint {i j}:XE X H0 Hs0 (.Constant (.int i) j pos) (eC (.int i)):=⟨q_int⟩
theorem xbl {b j}:XE X H0 Hs0 (.Constant (.bool b) j pos) (eC (.bl b)):=⟨q_bl⟩
theorem xnon {j}:XE X H0 Hs0 (.Constant .none j pos) (eC .non):=⟨q_non⟩
theorem xstr {x j}:XE X H0 Hs0 (.Constant (.str x) j pos) (eC (.str x)):=⟨q_str⟩
theorem xdict0:XE X H0 Hs0 (.Dict [] [] pos) (eC .dic):=⟨q_dict0⟩
theorem xop {op:Operator} {g:PV→PV→Res PV} (ho:OpP X (binaryOp op) g) (ha:XE X H0 Hs0 a da) (hb:XE X H0 Hs0 b db):XE X H0 Hs0 (.BinOp a op b pos) (e2 g da db):=⟨q_op ho ha.h hb.h⟩
theorem xneg (ha:XE X H0 Hs0 a da):XE X H0 Hs0 (.UnaryOp .USub a pos) (e1 pNeg da):=⟨q_neg ha.h⟩
theorem xnot (ha:XE X H0 Hs0 a da):XE X H0 Hs0 (.UnaryOp .Not a pos) (e1 pNot da):=⟨q_not ha.h⟩
theorem xcmp {op:CmpOp} {g:PV→PV→Res PV} (ho:OpP X (compareOp op) g) (ha:XE X H0 Hs0 a da) (hb:XE X H0 Hs0 b db) (hm:noSet b = true:=by rfl):XE X H0 Hs0 (.Compare a [op] [b] pos) (e2 g da db):=⟨q_cmp ho ha.h hb.h (marks_no hm)⟩
theorem xone {op:BoolOp} (ha:XE X H0 Hs0 a da):XE X H0 Hs0 (.BoolOp op [a] pos) da:=⟨q_one ha.h⟩
theorem xand (ha:XE X H0 Hs0 a da) (hb:XE X H0 Hs0 (.BoolOp .And (b::rest) pos) db):XE X H0 Hs0 (.BoolOp .And (a::b::rest) pos) (eAnd da db):=⟨q_and ha.h hb.h⟩
theorem xor' (ha:XE X H0 Hs0 a da) (hb:XE X H0 Hs0 (.BoolOp .Or (b::rest) pos) db):XE X H0 Hs0 (.BoolOp .Or (a::b::rest) pos) (eOr da db):=⟨q_or ha.h hb.h⟩
theorem xif (hc:XT X H0 Hs0 c ta) (ha:XE X H0 Hs0 a da) (hb:XE X H0 Hs0 b db):XE X H0 Hs0 (.IfExp c a b pos) (eIf ta da db):=⟨q_ifExp hc.h ha.h hb.h⟩
theorem xa0:XA X H0 Hs0 [] aNil:=⟨qa_nil⟩
theorem xa (ha:XE X H0 Hs0 a da) (hr:XA X H0 Hs0 es ra) (hs:noStar a = true:=by rfl):XA X H0 Hs0 (a::es) (aCons da ra):=⟨qa_cons ha.h hr.h (star_cons hs)⟩
theorem xtup {x1} (h:XA X H0 Hs0 es ra):XE X H0 Hs0 (.Tuple es x1 pos) (eA pTup ra):=⟨q_tup h.h⟩
theorem xlst (h:XA X H0 Hs0 es ra):XE X H0 Hs0 (.List es pos) (eA pLst ra):=⟨q_lst h.h⟩
theorem xcB {x:Str} {id:String} {p:Pos} {e:Expr} {g:List PV→Res PV} (hc:CallP X (.builtin id) g) (hm:X.mg x = none) (hv:bootBuiltins x = some (.builtin id)) (ha:XA X H0 Hs0 (e::es) ra) (hg:Gl X x:=by rfl)
  (hn:x≠"__name__":=by decide) (hdb:(x == ("__debug__":Str)) = false:=by decide) (he:noStar e = true:=by rfl) (hpl:es.all noStar = true:=by rfl) :
  XE X H0 Hs0 (.Call (.Name x p) (e::es) [] pos) (eA g ra):=⟨q_callB hc hg hm hv ha.h hn hdb (star_cons he) (star_any hpl)⟩
theorem xcT {x:Str} {T:String} {p:Pos} {e:Expr} {g:List PV→Res PV} (hc:CallP X (.type T) g) (hm:X.mg x = none) (hv:bootBuiltins x = some (.type T)) (ha:XA X H0 Hs0 (e::es) ra) (hg:Gl X x:=by rfl)
  (hn:x≠"__name__":=by decide) (hdb:(x == ("__debug__":Str)) = false:=by decide) (he:noStar e = true:=by rfl) (hpl:es.all noStar = true:=by rfl) :
  XE X H0 Hs0 (.Call (.Name x p) (e::es) [] pos) (eA g ra):=⟨q_callTy hc hg hm hv ha.h hn hdb (star_cons he) (star_any hpl)⟩
theorem xcF {x:Str} {p:Pos} {e:Expr} {m:List PV→Res PV} (F:FunIs X x m) (ha:XA X H0 Hs0 (e::es) ra) (hg:Gl X x:=by rfl)
  (hdb:(x == ("__debug__":Str)) = false:=by decide) (he:noStar e = true:=by rfl) (hpl:es.all noStar = true:=by rfl) :
  XE X H0 Hs0 (.Call (.Name x p) (e::es) [] pos) (eA (fun ps=>G.noErr (m ps)) ra):=⟨q_call F hg ha.h hdb (star_cons he) (star_any hpl)⟩
theorem xcI {T:String} {x:Str} {p1 p2:Pos} (ha:XE X H0 Hs0 a da) (hT:T∈kindNames) (hx:bootBuiltins x = some (.type T)) (hm:X.mg "isinstance" = none) (hm2:X.mg x = none) (hg:Gl X "isinstance":=by rfl) (hg2:Gl X x:=by rfl) (hn:x≠"__name__":=by decide)
  (hdb:(x == ("__debug__":Str)) = false:=by decide) (h1:noStar a = true:=by rfl):XE X H0 Hs0 (.Call (.Name "isinstance" p1) [a,.Name x p2] [] pos) (e1 (pIsi T) da):=⟨q_isi ha.h hT hx hg hm hg2 hm2 hn hdb (star_cons h1) rfl rfl⟩
theorem xiV (k:Nat) {x:Str} {np:Pos} (hb:XE X H0 Hs0 b db) (hN:X.N[k]? = some x:=by rfl) (hv:Vis X.env.scope x:=by first | exact Or.inl rfl | exact Or.inr (Or.inl rfl) | exact Or.inr (Or.inr rfl)) (hd:(x == ("__debug__":Str)) = false:=by decide)
  (hcd:(x == ("__classdict__":Str)) = false:=by decide) (hs:noSlice b = true:=by rfl):XE X H0 Hs0 (.Subscript (.Name x np) b pos) (eIxV k db):=⟨q_ixv hN hv hd hcd hb.h (plain_ix hs)⟩
theorem xlV (k:Nat) {x:Str} {np p:Pos} (hm:X.mg "len" = none) (hN:X.N[k]? = some x:=by rfl) (hv:Vis X.env.scope x:=by first | exact Or.inl rfl | exact Or.inr (Or.inl rfl) | exact Or.inr (Or.inr rfl)) (hd:(x == ("__debug__":Str)) = false:=by decide)
  (hcd:(x == ("__classdict__":Str)) = false:=by decide) (hg:Gl X "len":=by rfl):XE X H0 Hs0 (.Call (.Name "len" p) [.Name x np] [] pos) (eLenV k):=⟨q_lenv hN hv hd hcd hg hm rfl rfl⟩
theorem xo0:XO X H0 Hs0 none oNo:=⟨qo_none⟩
theorem xo (ha:XE X H0 Hs0 a da):XO X H0 Hs0 (some a) (oE da):=⟨qo_some ha.h⟩
theorem xsl {lo hi:Option Expr} {dl dh:DO} {p2:Pos} (ha:XE X H0 Hs0 a da) (hl:XO X H0 Hs0 lo dl) (hh:XO X H0 Hs0 hi dh):XE X H0 Hs0 (.Subscript a (.Slice lo hi none p2) pos) (eSl da dl dh):=⟨q_slice ha.h hl.h hh.h⟩
theorem xtc {op:CmpOp} {g:PV→PV→Res PV} (ho:OpP X (compareOp op) g) (ha:XE X H0 Hs0 a da) (hb:XE X H0 Hs0 b db) (hm:noSet b = true:=by rfl):XT X H0 Hs0 (.Compare a [op] [b] pos) (tV (e2 g da db)):=⟨qt_cmp ho ha.h hb.h (marks_no hm)⟩
theorem xtv (ha:XE X H0 Hs0 a da) (he:valHead a = true:=by rfl):XT X H0 Hs0 a (tV da):=⟨qt_val ha.h (val_true he)⟩
theorem xtn (ha:XT X H0 Hs0 a ta):XT X H0 Hs0 (.UnaryOp .Not a pos) (G.tNot ta):=⟨qt_not ha.h⟩
theorem xand1 (ha:XT X H0 Hs0 a ta):XW X H0 Hs0 (.BoolOp .And [a] pos) ta:=⟨qw_and1 ha.h⟩
theorem xor1 (ha:XT X H0 Hs0 a ta):XW X H0 Hs0 (.BoolOp .Or [a] pos) ta:=⟨qw_or1 ha.h⟩
theorem xand2 (ha:XT X H0 Hs0 a ta) (hb:XW X H0 Hs0 (.BoolOp .And (b::rest) pos) tb):XW X H0 Hs0 (.BoolOp .And (a::b::rest) pos) (G.tAnd ta tb):=⟨qw_and ha.h hb.h⟩
theorem xor2 (ha:XT X H0 Hs0 a ta) (hb:XW X H0 Hs0 (.BoolOp .Or (b::rest) pos) tb):XW X H0 Hs0 (.BoolOp .Or (a::b::rest) pos) (G.tOr ta tb):=⟨qw_or ha.h hb.h⟩
theorem xw (h:XW X H0 Hs0 a ta):XT X H0 Hs0 a ta:=⟨QW.qt h.h⟩
theorem xb0:XB X H0 Hs0 [] sNext:=⟨qss_nil⟩
theorem xb1 (h1:XS X H0 Hs0 st d1):XB X H0 Hs0 [st] d1:=⟨qss_one h1.h⟩
theorem xb (h1:XS X H0 Hs0 st d1) (h2:XB X H0 Hs0 sts d2):XB X H0 Hs0 (st::sts) (sSeq d1 d2):=⟨qss_cons h1.h h2.h⟩
theorem xret (ha:XE X H0 Hs0 a da):XS X H0 Hs0 (.Return (some a) pos) (sRet da):=⟨qs_ret ha.h⟩
theorem xsif (hc:XT X H0 Hs0 c ta) (h1:XB X H0 Hs0 sts d1) (h2:XB X H0 Hs0 ss2 d2):XS X H0 Hs0 (.If c sts ss2 pos) (sIf ta d1 d2):=⟨qs_if hc.h h1.h h2.h⟩
theorem xset (i:Nat) {x:Str} {pos':Pos} (ha:XE X H0 Hs0 a da) (hN:X.N.Nodup:=by assumption) (hi:X.N[i]? = some x:=by rfl) (hx:Loc X.env.scope x:=by first | exact Or.inl rfl | exact Or.inr rfl) (hs:noComp a = true:=by rfl)
  (hf:X.fn x = true∨X.env.scope.names.lookup x = some .local:=by first | exact Or.inl rfl | exact Or.inr rfl):XS X H0 Hs0 (.Assign [.Name x pos'] a pos) (sSet i da):=⟨qs_set hN hi hx ha.h (swap_no hs) hf⟩
theorem xown (i:Nat) {x:Str} {lp pos':Pos} (ha:XA X H0 Hs0 es ra) (hN:X.N.Nodup:=by assumption) (hi:X.N[i]? = some x:=by rfl) (hx:Loc X.env.scope x:=by first | exact Or.inl rfl | exact Or.inr rfl)
  (hf:X.fn x = true∨X.env.scope.names.lookup x = some .local:=by first | exact Or.inl rfl | exact Or.inr rfl):XS X H0 Hs0 (.Assign [.Name x pos'] (.List es lp) pos) (sOwn i ra):=⟨qs_own hN hi hx ha.h (swap_no rfl) hf⟩
theorem xpar (i j:Nat) {x y:Str} {px py pt:Pos} {kt k2 pt2} (ha:XA X H0 Hs0 [a,b] ra) (hN:X.N.Nodup:=by assumption) (hc:X.calm = true:=by rfl) (hi:X.N[i]? = some x:=by rfl) (hj:X.N[j]? = some y:=by rfl) (hij:i≠j:=by decide)
  (hx:X.env.scope.names.lookup x = some .local:=by rfl) (hy:X.env.scope.names.lookup y = some .local:=by rfl)
  (hw:swappedStores [.Tuple [.Name x px,.Name y py] kt pt] (.Tuple [a,b] k2 pt2) X.env = pure (some [x,y]):=by rfl) :
  XS X H0 Hs0 (.Assign [.Tuple [.Name x px,.Name y py] kt pt] (.Tuple [a,b] k2 pt2) pos) (sPar i j ra):=⟨qs_par hc hN hi hj hij hx hy ha.h hw (swapSole_no (a:=.Tuple [a,b] k2 pt2) rfl)⟩
theorem xwhile (hp:PassesOwn (model X.prog X.w) X.A X.env X.xe) (hc:XT X H0 Hs0 c ta) (hb:XB X H0 Hs0 sts d1):XS X H0 Hs0 (.While c sts [] pos) (sWhile ta d1):=⟨qs_while hp hc.h hb.h⟩
theorem xgn (i:Nat) {x:Str} (hN:X.N.Nodup:=by assumption) (hi:X.N[i]? = some x:=by rfl) (hx:Loc X.env.scope x:=by first | exact Or.inl rfl | exact Or.inr rfl) (hf:X.fn x = true∨X.env.scope.names.lookup x = some .local:=by first | exact Or.inl rfl | exact Or.inr rfl):XG X H0 Hs0 (.Name x pos) (gN i):=⟨qg_name hN hi hx hf⟩
theorem xseq {tg:Expr} (ha:XE X H0 Hs0 a da):XI X H0 Hs0 tg a (itE da):=⟨qi_seq ha.h⟩
theorem xr1 {tg:Expr} {p:Pos} (hm:X.mg "range" = none) (ha:XA X H0 Hs0 [a] ra) (hg:Gl X "range":=by rfl) (hs:noStar a = true:=by rfl):XI X H0 Hs0 tg (.Call (.Name "range" p) [a] [] pos) (itR asRange1 ra):=⟨qi_range1 hg hm ha.h (star_cons hs)⟩
theorem xfor {tg iter:Expr} {d:DI} {g:DG} {bb:DS} (hp:PassesOwn (model X.prog X.w) X.A X.env X.xe) (hi:XI X H0 Hs0 tg iter d) (hg:XG X H0 Hs0 tg g) (hb:XB X H0 Hs0 sts bb) (hc:X.calm = true:=by rfl) (hs:noSet iter = true:=by rfl) :
  XS X H0 Hs0 (.For tg iter sts [] pos) (sFor d g bb):=⟨qs_for hp hc hi.h hg.h hb.h (fold_no hs)⟩
end
section
variable {P:Program} {w:World} {K:PySem.W.Frag} {mg:Str→Option Value} {base h:Heap}
theorem def_in {x:Str} {st:Stmt} {N ps:List Str} {k:Nat} {d:DS} (D:DefAt K x st) (KI:K.In h) (GN:h.Ns mainGlobals mg) (S:FnScope N ps (defScope st))
  (hb:∀ (kV doc pm:Value) (an:Option Addr) (cdv ct:Value) (us:List Value),us.length = ps.length→bindArgs (PySem.W.fnOf x x (defArgs st) (defBody st) (defScope st) .none kV doc pm an cdv ct) ⟨us,[]⟩ = pure (ps.zip us))
  (hbody:∀ (f:Addr) (cdv:Value) (A:Around) (outer:List Env) (s:Shared) (H Hs:Hp) (E:XK),Room k (A.deeper (envOfC x (defScope st) s.heap.objs.size f cdv)) →
   XB (cxOf (CXG P w) P w K mg base N x (defScope st) f cdv A outer s H E).nox H Hs (defBody st) d):FunIn P w K mg base x (k + 1) (runF ps.length N.length d):=by
 obtain ⟨f,fd,a,F⟩:=D.ex
 exact fun_in F (PySem.W.mg_of KI GN a) S hb fun cdv A outer s H Hs E hr=>(hbody f cdv A outer s H Hs E hr).h
end
end G
namespace G
open PySem PySem.Spec PyProof.Rows L2
theorem law_of {P:Program} {w:World} {K:PySem.W.Frag} {mg:Str→Option Value} {h:Heap} {st:Stmt} {k:Nat} {m:List PV→Res PV} (D:DefAt K "law" st) (KI:K.In h) (GN:h.Ns mainGlobals mg)
  (hb:∀ (kV doc pm:Value) (an:Option Addr) (cdv ct:Value) (us:List Value),us.length = (["script"]:List Str).length→bindArgs (PySem.W.fnOf "law" "law" (defArgs st) (defBody st) (defScope st) .none kV doc pm an cdv ct) ⟨us,[]⟩ = pure ((["script"]:List Str).zip us))
  (all:∀ (base:Heap) (f:Addr) (fd:FuncData),Fun K "law" "law" st f fd→FnOk P w K mg base (CXG P w) k f fd ["script"] (Fsp K 1 m)) :
  ∃ (a:Addr) (fd:FuncData),mg "law" = some (.ref a)∧(∀ (s:Shared) (u:Value),BindsTo s fd ⟨[u],[]⟩ [("script",u)])∧∀ base:Heap,K.In base→base.Ns mainGlobals mg→FnOk P w K mg base (CXG P w) k a fd ["script"] (Fsp K 1 m):=by
 obtain ⟨f,fd,a,F⟩:=D.ex
 have hm:=PySem.W.mg_of KI GN a
 have F0:=F
 obtain ⟨oc,od,kV,doc,pm,an,cdv,ct,osl,rfl,lk,hcd⟩:=F.ex
 exact ⟨f,_,hm,fun s u=>.of_eq (hb kV doc pm an cdv ct [u] rfl),fun base _ _=>all base f _ F0⟩
theorem law_in {P:Program} {w:World} {K:PySem.W.Frag} {mg:Str→Option Value} {base:Heap} {st:Stmt} {f:Addr} {fd:FuncData} {N:List Str} {k:Nat} {d:DS} (F:Fun K "law" "law" st f fd) (S:FnScope N ["script"] (defScope st))
  (hbody:∀ (cdv:Value) (A:Around) (outer:List Env) (s:Shared) (H Hs:Hp) (E:XK),Room k (A.deeper (envOfC "law" (defScope st) s.heap.objs.size f cdv)) →
   XB (cxOf (CXG P w) P w K mg base N "law" (defScope st) f cdv A outer s H E).nox H Hs (defBody st) d):FnOk P w K mg base (CXG P w) (k + 1) f fd ["script"] (Fsp K 1 (runF 1 N.length d)) :=
 fn_ok F S fun cdv A outer s H Hs E hr=>(hbody cdv A outer s H Hs E hr).h
end G
namespace G
open PySem PySem.Spec PyProof.Rows L2
def closL (cells:List (Str × Addr)):List (Str × NameKind)→List (Str × Addr)→Option (List (Str × Addr))
 | [],acc=>some acc
 | (n,k)::r,acc=>if k = .free then (match cells.lookup n with
   | some a=>closL cells r ((n,a)::acc)
   | none=>none) else closL cells r acc
theorem clos_loop {env:Env}:∀ (names:List (Str × NameKind)) (acc cl:List (Str × Addr)),closL env.cells names acc = some cl →
  (forIn names acc fun x r=>(match x with | (name,kind)=>if (kind == NameKind.free) = true then do let a ← cellOf env name; pure (ForInStep.yield ((name,a)::r)) else pure (ForInStep.yield r):Sem (ForInStep (List (Str × Addr))))) = pure cl
 | [],acc,cl,h=>by
  have:acc = cl:=Option.some.inj h
  subst this
  rfl
 | (n,k)::r,acc,cl,h=>by
  rw [List.forIn_cons]
  unfold closL at h
  by_cases hk:k = .free
  ·subst hk
   rw [if_pos rfl] at h
   split at h
   ·rename_i a ha
    have ih:=clos_loop r ((n,a)::acc) cl h
    simp only [beq_self_eq_true,if_true,cellOf,ha,pure_bind]
    exact ih
   ·cases h
  ·rw [if_neg hk] at h
   have hk':(k == NameKind.free) = false:=by simpa using hk
   have ih:=clos_loop r acc cl h
   simp only [hk',Bool.false_eq_true,if_false,pure_bind]
   exact ih
theorem clos_for {env:Env} {scope:Scope} {cl:List (Str × Addr)} (h:closL env.cells scope.names [] = some cl):closureFor scope env = pure cl:=by
 unfold closureFor
 have:=clos_loop (env:=env) scope.names [] cl h
 exact (congrArg (fun t=>t >>= fun cs=>pure cs) this).trans (by rfl)
theorem clos_sub {cells:List (Str × Addr)}:∀ (names:List (Str × NameKind)) (acc cl:List (Str × Addr)),(∀ x c,acc.lookup x = some c→cells.lookup x = some c)→closL cells names acc = some cl→∀ x c,cl.lookup x = some c→cells.lookup x = some c
 | [],acc,cl,ha,h,x,c,e=>by
  have:acc = cl:=Option.some.inj h
  subst this
  exact ha x c e
 | (n,k)::r,acc,cl,ha,h,x,c,e=>by
  unfold closL at h
  split at h
  ·split at h
   ·rename_i a hn
    refine clos_sub r _ cl (fun y d hy=>?_) h x c e
    rw [List.lookup_cons] at hy
    split at hy
    ·rename_i hb
     have:y = n:=by simpa using hb
     subst this
     cases hy
     exact hn
    ·exact ha y d hy
   ·cases h
  ·exact clos_sub r acc cl ha h x c e
end G
namespace G
open PySem PySem.Spec PyProof.Rows L2
@[reducible] def cxC (X:Cx) (pins:List (Addr × Obj)) (scope:Scope) (cl:List (Str × Addr)) (C:Addr) (N:List Str) (fp:List Addr) (s:Shared) (H:Hp):Cx :=
 { X with env:=compEnvC scope cl C X.env,N:=N,s₀:=s,H₀:=H,outer:=X.stack,stack:=X.stack,ex:=fp,fn:=fun _=>false,pn:=X.pn++pins,xe:=fun _ _=>False }
def inn (k:Nat) (ix:List Nat) (σ:PSt):PSt:=List.replicate k none++ix.map fun i=>match σ[i]? with
 | some (some (.sh p))=>some (.sh p)
 | _=>none
def innV (k:Nat) (ix:List Nat) (τ:L2.St):L2.St:=List.replicate k none++ix.map fun i=>(τ[i]?).join
theorem repl_none {α:Type} {k j:Nat} {x:α} (h:(List.replicate k (none:Option α))[j]? = some (some x)):False:=by
 rw [List.getElem?_replicate] at h
 split at h <;> cases h
theorem inn_get {k:Nat} {ix:List Nat} {σ:PSt} {j:Nat} {sv:SV} (h:(inn k ix σ)[j]? = some (some sv)):∃ i p,k≤j∧ix[j - k]? = some i∧σ[i]? = some (some (.sh p))∧sv = .sh p:=by
 unfold inn at h
 by_cases hj:j < k
 ·rw [List.getElem?_append_left (by simpa using hj)] at h
  exact (repl_none h).elim
 ·rw [List.getElem?_append_right (by simpa using hj),List.length_replicate,List.getElem?_map] at h
  cases e:ix[j - k]? with
  | none=>rw [e] at h; cases h
  | some i =>
   rw [e] at h
   have h':(match σ[i]? with
    | some (some (.sh p))=>some (.sh p)
    | _=>none) = some sv:=Option.some.inj h
   split at h'
   ·rename_i p ep
    cases h'
    exact ⟨i,p,by omega,rfl,ep,rfl⟩
   ·cases h'
theorem innV_at {k:Nat} {ix:List Nat} {τ:L2.St} {j i:Nat} {v:V} (hj:k≤j) (e:ix[j - k]? = some i) (h:τ[i]? = some (some v)):(innV k ix τ)[j]? = some (some v):=by
 unfold innV
 rw [List.getElem?_append_right (by simpa using hj),List.length_replicate,List.getElem?_map,e]
 show some ((τ[i]?).join) = _
 rw [h]; rfl
theorem innV_get {k:Nat} {ix:List Nat} {τ:L2.St} {j:Nat} {v:V} (h:(innV k ix τ)[j]? = some (some v)):∃ i,k≤j∧ix[j - k]? = some i∧τ[i]? = some (some v):=by
 unfold innV at h
 by_cases hj:j < k
 ·rw [List.getElem?_append_left (by simpa using hj)] at h
  exact (repl_none h).elim
 ·rw [List.getElem?_append_right (by simpa using hj),List.length_replicate,List.getElem?_map] at h
  cases e:ix[j - k]? with
  | none=>rw [e] at h; cases h
  | some i =>
   rw [e] at h
   have h':(τ[i]?).join = some v:=Option.some.inj h
   refine ⟨i,by omega,rfl,?_⟩
   cases q:τ[i]? with
   | none=>rw [q] at h'; cases h'
   | some z=>rw [q] at h'; exact congrArg some h'
theorem SR.inn {K:PySem.W.Frag} {H0 Hs0 Hs H:Hp} {σ:PSt} {τ:L2.St} (S:SR K H0 Hs0 Hs H σ τ) (k:Nat) (ix:List Nat):SR K H Hs Hs H (G.inn k ix σ) (innV k ix τ):=by
 refine ⟨.refl S.g.i,fun j sv e=>?_,fun j l xs ys a _ e1=>?_,by simp [G.inn,innV]⟩
 ·obtain ⟨i,p,hj,e1,e2,rfl⟩:=inn_get e
  obtain ⟨v,e3,r⟩:=S.slot i _ e2
  exact ⟨v,innV_at hj e1 e3,r⟩
 ·obtain ⟨_,_,_,_,_,z⟩:=inn_get e1
  cases z
structure CompOk (X:Cx) (scope:Scope) (cl:List (Str × Addr)) (N:List Str) (k:Nat) (ix:List Nat):Prop where
 kind:scope.kind = .function
 nocell:∀ y∈scope.names,y.2≠.cell
 names:∀ y∈scope.names,y.2 = .local→scope.names.lookup y.1 = some .local
 clos:closL X.env.cells scope.names [] = some cl
 has:∀ x,((relabel scope X.env).names.lookup x = some .cell∨(relabel scope X.env).names.lookup x = some .free)→∃ c,cl.lookup x = some c
 nd:N.Nodup
 len:N.length = k + ix.length
 at':∀ (j i:Nat) (x:Str),ix[j]? = some i→N[k + j]? = some x→X.N[i]? = some x∧X.env.kindOf x = some .cell∧((relabel scope X.env).names.lookup x = some .cell∨(relabel scope X.env).names.lookup x = some .free)
section
variable {X:Cx} {pins:List (Addr × Obj)} {H0 Hs0 Hs H:Hp} {σ:PSt} {τ:L2.St} {s:Shared}
theorem stk_sub (I:Inv X pins τ H s) {p:Addr} (h1:p≠X.env.locals) (h2:p ∉ X.fs):p ∉ frs X.stack:=fun h=>(List.mem_cons.mp (I.stkSub p h)).elim h1 h2
theorem inv_comp {scope:Scope} {cl:List (Str × Addr)} {N:List Str} {k:Nat} {ix:List Nat} {fp:List Addr} {h4:Heap} {t4:Nat} (I:Inv X pins τ H s) (O:CompOk X scope cl N k ix) (hcalm:X.calm = true)
  (hfp:∀ b∈fp,FpOk X pins H b) (hfl:∀ b∈fp,b < s.heap.objs.size) (hns:h4.Ns s.heap.objs.size (fun _=>none)) (hk:∀ b o,s.heap.get? b = some o→h4.get? b = some o) :
  Inv (cxC X pins scope cl s.heap.objs.size N fp s H) [] (innV k ix τ) H { s with heap:=h4,toks:=t4 }:=by
 have sub:=clos_sub (cells:=X.env.cells) scope.names [] cl (fun x c e=>by cases e) O.clos
 have lt:∀ {b:Addr} {o:Obj},s.heap.get? b = some o→b≠s.heap.objs.size:=fun e=>Nat.ne_of_lt (Heap.lt_size e)
 have celln:∀ x c,cl.lookup x = some c→c≠s.heap.objs.size:=fun x c e=>by
  obtain ⟨v,o,ho,_⟩:=I.cell x c (sub x c e)
  exact lt ho
 refine ⟨⟨I.ok.mod,?_,I.ok.glob,I.ok.blt,Nat.le_refl _,fun x y c e1 e2=>I.ok.inj x y c (sub x c e1) (sub y c e2),fun x hx=>O.has x hx,fun x c hf=>?_,I.ok.hd,I.ok.frames,.inl rfl,fun b hb=>⟨?_,fun x c e=>(hfp b hb).2.2.2.2.1 x c (sub x c e)⟩,I.bs,Nat.le_trans I.ok.bsz I.sz,fun b o e hb=>?_,fun b hb=>stk_sub I (hfp b hb).2.1 (hfp b hb).2.2.1,I.stack,I.stkFree⟩,
  rfl,I.bare,Un.kept hk,⟨_,hns,fun j x v e1 e2 e3=>?_⟩,fun x c e=>?_,I.hok.fresh (Nat.le_refl _),fun x c e=>I.freeC x c (sub x c e),fun p hp=>?_,I.hok.kept hk,?_⟩
 ·show (relabel scope X.env).kind = .function
  exact O.kind
 ·cases hf
 ·exact Nat.ne_of_lt (hfl b hb)
 ·have e':=I.bs b o e
  obtain ⟨f0,f1,f2,f3,_⟩:=hfp b hb
  rcases f3 with z | z
  ·exact I.ok.noex b o e z
  ·have:=(I.ok.bs b o e).1
   exact absurd (Nat.lt_of_lt_of_le (Heap.lt_size this) z) (Nat.lt_irrefl _)
 ·obtain ⟨i,hj,ei,eτ⟩:=innV_get e2
  have ex:N[k + (j - k)]? = some x:=by rw [show k + (j - k) = j by omega]; exact e1
  obtain ⟨a1,a2,a3⟩:=O.at' (j - k) i x ei ex
  obtain ⟨m,hn,hl⟩:=I.loc
  obtain ⟨u,r,l⟩:=hl i x v a1 eτ (.inr (.inl a2))
  refine ⟨u,r,?_⟩
  rcases l with ⟨q,_⟩ | ⟨q,c,ec,z⟩
  ·rw [a2] at q; cases q
  ·obtain ⟨c',ec'⟩:=O.has x a3
   have:c' = c:=Option.some.inj ((sub x c' ec').symm.trans ec)
   subst this
   obtain ⟨o,ho,hd⟩:=z
   exact .inr ⟨a3,c',ec',o,hk _ _ ho,hd⟩
 ·obtain ⟨v,o,ho,hd⟩:=I.cell x c (sub x c e)
  exact ⟨v,o,hk _ _ ho,hd⟩
 ·have hp':p∈X.pn++pins:=by simpa [cxC] using hp
  obtain ⟨e,n,ne,nf,d⟩:=I.pin p hp'
  exact ⟨hk _ _ e,n,lt e,stk_sub I ne nf,d⟩
 ·show (innV k ix τ).length = N.length
  rw [O.len]; simp [innV]
end
end G
namespace G
open PySem PySem.Spec PyProof.Rows L2
theorem SR.weak {K:PySem.W.Frag} {H0 Hs0 Hs H:Hp} {σ σ':PSt} {τ:L2.St} (S:SR K H0 Hs0 Hs H σ τ) (w:∀ (j:Nat) (sv:SV),σ'[j]? = some (some sv)→σ[j]? = some (some sv)) (hl:σ'.length = σ.length):SR K H0 Hs0 Hs H σ' τ :=
 ⟨S.g,fun j sv e=>S.slot j sv (w j sv e),fun i j xs ys a hij e1 e2=>S.inj i j xs ys a hij (w i _ e1) (w j _ e2),hl.trans S.len⟩
theorem SR.hid {K:PySem.W.Frag} {H0 Hs0 Hs H:Hp} {σ:PSt} {τ:L2.St} {D:Addr} {o:HO} (S:SR K H0 Hs0 Hs H σ τ) (h1:Hs D = none) (h2:H0 D = none) (no:∀ (i:Nat) (xs:List PV),σ[i]?≠some (some (.own xs))):SR K H0 Hs0 Hs (upd H D o) σ τ:=by
 have sm:∀ {b:Addr},b≠D→upd H D o b = H b:=fun h=>upd_ne h
 refine ⟨⟨S.g.s,fun b u h=>?_,fun b u h=>?_,S.g.o⟩,fun j sv e=>?_,S.inj,S.len⟩
 ·rw [sm (ne_of_none h h1)]; exact S.g.i b u h
 ·rw [sm (ne_of_none h h2)]; exact S.g.h b u h
 ·obtain ⟨v,e1,r⟩:=S.slot j sv e
  cases sv with
  | sh p=>exact ⟨v,e1,r⟩
  | own xs=>exact absurd e (no j xs)
theorem inn_no {k:Nat} {ix:List Nat} {σ:PSt} (i:Nat) (xs:List PV):(inn k ix σ)[i]?≠some (some (.own xs)):=fun h=>by
 obtain ⟨_,_,_,_,_,z⟩:=inn_get h
 cases z
theorem SR.base' {K:PySem.W.Frag} {A B H0 Hs0 Hs H:Hp} {σ:PSt} {τ:L2.St} (S:SR K A B Hs H σ τ) (no:∀ (i:Nat) (xs:List PV),σ[i]?≠some (some (.own xs))) (g:Grow Hs0 H0 Hs H):SR K H0 Hs0 Hs H σ τ :=
 ⟨g,fun j sv e=>by
  obtain ⟨v,e1,r⟩:=S.slot j sv e
  cases sv with
  | sh p=>exact ⟨v,e1,r⟩
  | own xs=>exact absurd e (no j xs),fun i j xs ys a _ e1=>absurd e1 (no i xs),S.len⟩
theorem noErr_ok {r:Res PV} {q:PV} (h:noErr r = .ok q):r = .ok q:=by
 cases r with
 | ok p=>exact h
 | err c=>cases h
 | stuck=>cases h
def mapR (f:PV→Res PV):List PV→Res (List PV)
 | []=>.ok []
 | p::ps=>(f p).bind fun q=>(mapR f ps).bind fun qs=>.ok (q::qs)
def turnF (g:DG) (de:DE) (σ0:PSt) (p:PV):Res PV:=match g p σ0 with
 | .ok σ1=>noErr (de σ1)
 | _=>.stuck
def cVal (d:DI) (g:DG) (de:DE) (k:Nat) (ix:List Nat):PSt→Res (List PV):=fun σ=>(d σ).bind fun ps=>match mapR (turnF g de (inn k ix σ)) ps with
 | .ok qs=>if qs.length≤10000000 then .ok qs else .stuck
 | _=>.stuck
def eComp (d:DI) (g:DG) (de:DE) (k:Nat) (ix:List Nat):DE:=fun σ=>(cVal d g de k ix σ).bind fun qs=>.ok (.lst qs)
theorem mapR_len {f:PV→Res PV}:∀ {ps qs:List PV},mapR f ps = .ok qs→qs.length = ps.length
 | [],qs,h=>by cases h; rfl
 | p::ps,qs,h=>by
  unfold mapR at h
  cases e:f p with
  | ok q =>
   rw [e] at h
   simp only [Res.bind_ok] at h
   cases e2:mapR f ps with
   | ok rs =>
    rw [e2] at h
    cases h
    rw [List.length_cons,List.length_cons,mapR_len e2]
   | err c=>rw [e2] at h; cases h
   | stuck=>rw [e2] at h; cases h
  | err c=>rw [e] at h; cases h
  | stuck=>rw [e] at h; cases h
theorem mapR_at {f:PV→Res PV}:∀ {ps qs:List PV},mapR f ps = .ok qs→∀ (i:Nat) (p:PV),ps[i]? = some p→∃ q,qs[i]? = some q∧f p = .ok q
 | [],qs,h,i,p,e=>by simp at e
 | p0::ps,qs,h,i,p,e=>by
  unfold mapR at h
  cases e1:f p0 with
  | ok q =>
   rw [e1] at h
   simp only [Res.bind_ok] at h
   cases e2:mapR f ps with
   | ok rs =>
    rw [e2] at h
    cases h
    cases i with
    | zero=>simp at e; subst e; exact ⟨q,rfl,e1⟩
    | succ i =>
     obtain ⟨q',h1,h2⟩:=mapR_at e2 i p (by simpa using e)
     exact ⟨q',by simpa using h1,h2⟩
   | err c=>rw [e2] at h; cases h
   | stuck=>rw [e2] at h; cases h
  | err c=>rw [e1] at h; cases h
  | stuck=>rw [e1] at h; cases h
section
variable {X:Cx} {pins:List (Addr × Obj)} {H0 Hs0:Hp} {σ:PSt} {τ:L2.St} {tg elt iter:Expr} {scope:Scope} {pos:Pos} {cl:List (Str × Addr)} {N:List Str} {k:Nat} {ix:List Nat} {g:DG} {de:DE}
theorem comp_run {Hs2 H2:Hp} {s2:Shared} {it:Addr} {fp:List Addr} {tn:Nat→Heap→Prop} {J:It} {ps qs:List PV} {h4:Heap} {t4:Nat} {RR:Result→Shared→Prop}
  (I2:Inv X pins τ H2 s2) (S2:SR X.K H0 Hs0 Hs2 H2 σ τ) (O:CompOk X scope cl N k ix) (hcalm:X.calm = true) (T:Turn X.prog X.w X.K tg J fp it tn) (st:tn 0 s2.heap) (fpok:∀ b∈fp,FpOk X pins H2 b) (jok:JOk X.K J Hs2 ps)
  (hg:∀ (C:Addr) (s:Shared) (H A B:Hp),QG (cxC X pins scope cl C N fp s H) A B tg g)
  (he:∀ (C:Addr) (s:Shared) (H A B:Hp),QE (cxC X pins scope cl C N fp s H) A B elt de)
  (gk:∀ p σ1,g p (inn k ix σ) = .ok σ1→(∀ (j:Nat) (sv:SV),(inn k ix σ)[j]? = some (some sv)→σ1[j]? = some (some sv))∧σ1.length = (inn k ix σ).length)
  (hm:mapR (turnF g de (inn k ix σ)) ps = .ok qs) (hl:qs.length≤10000000)
  (hns:h4.Ns (s2.heap.objs.size + 1) (fun _=>none)) (hsb:∀ b o,(s2.heap.push { cls:=.type "list",data:=.seq ([]:List Value).toArray }).get? b = some o→h4.get? b = some o)
  (hR:∀ (s':Shared) (Hs' H':Hp) (vs:List V) (m:Str→Option Value),Inv X pins τ H' s'→SR X.K H0 Hs0 Hs' H' σ τ→Same Hs2 Hs'→Grow Hs2 H2 Hs' H'→H' s2.heap.objs.size = some (.lst vs)→Hs' s2.heap.objs.size = none→H2 s2.heap.objs.size = none→Reps X.K Hs' vs qs→s'.heap.Ns (s2.heap.objs.size + 1) m →
   H' (s2.heap.objs.size + 1) = none→RR (.ok .next) s') :
  codeAny (model X.prog X.w) X.A (.compStart (.ListComp elt [⟨tg,iter,[],0⟩] scope pos) 0 (.ref it) (.ref s2.heap.objs.size) (compEnvC scope cl (s2.heap.objs.size + 1) X.env)) RR { s2 with heap:=h4,toks:=t4 }:=by
 have hD:H2 s2.heap.objs.size = none:=I2.hok.fresh (Nat.le_refl _)
 have hDs:Hs2 s2.heap.objs.size = none:=S2.g.i.free hD
 have I3:Inv X pins τ (upd H2 s2.heap.objs.size (.lst [])) { s2 with heap:=s2.heap.push { cls:=.type "list",data:=.seq ([]:List Value).toArray } }:=I2.lnew (its:=[]) (ys:=[]) (t':=s2.toks) .nil (by show 0≤sizeLine; exact Nat.zero_le _)
 have hsz:(s2.heap.push { cls:=.type "list",data:=.seq ([]:List Value).toArray }).objs.size = s2.heap.objs.size + 1:=Heap.size_push ..
 have fpl:∀ b∈fp,∃ o,s2.heap.get? b = some o:=fun b hb=>by obtain ⟨o,e,_⟩:=T.obj _ _ st b hb; exact ⟨o,e⟩
 have fpD:∀ b∈fp,b≠s2.heap.objs.size:=fun b hb=>by obtain ⟨o,e⟩:=fpl b hb; exact Nat.ne_of_lt (Heap.lt_size e)
 have fpok3:∀ b∈fp,FpOk X pins (upd H2 s2.heap.objs.size (.lst [])) b:=fun b hb=>⟨by rw [upd_ne (fpD b hb)]; exact (fpok b hb).1,(fpok b hb).2⟩
 have I4:=inv_comp (h4:=h4) (t4:=t4) (fp:=fp) I3 O hcalm fpok3 (fun b hb=>by obtain ⟨o,e⟩:=fpl b hb; exact Nat.lt_trans (Heap.lt_size e) (by rw [hsz]; exact Nat.lt_succ_self _)) (by rw [hsz]; exact hns) hsb
 rw [hsz] at I4
 generalize hX:cxC X pins scope cl (s2.heap.objs.size + 1) N fp { s2 with heap:=s2.heap.push { cls:=.type "list",data:=.seq ([]:List Value).toArray } } (upd H2 s2.heap.objs.size (.lst [])) = X' at I4
 have eA:X'.A = X.A:=by rw [← hX]
 have eP:X'.prog = X.prog:=by rw [← hX]
 have ew:X'.w = X.w:=by rw [← hX]
 have eK:X'.K = X.K:=by rw [← hX]
 have eE:X'.env = compEnvC scope cl (s2.heap.objs.size + 1) X.env:=by rw [← hX]
 have exe:X'.xe = fun _ _=>False:=by rw [← hX]
 have ecalm:X'.calm = true:=by rw [← hX]; exact hcalm
 have emg:X'.mg = X.mg:=by rw [← hX]
 have ebase:X'.base = X.base:=by rw [← hX]
 have eN:X'.N = N:=by rw [← hX]
 have stat:∀ {H':Hp},(∀ b∈fp,H' b = none)→∀ b∈fp,FpOk X' [] H' b:=fun {H'} hn b hb=>by
  obtain ⟨f0,f1,f2,f3,f4,f5⟩:=fpok b hb
  have sub:=clos_sub (cells:=X.env.cells) scope.names [] cl (fun x c e=>by cases e) O.clos
  obtain ⟨o,e⟩:=fpl b hb
  refine ⟨hn b hb,?_,?_,?_,fun x c ec=>?_,fun p hp=>?_⟩
  ·rw [eE]; exact Nat.ne_of_lt (Nat.lt_succ_of_lt (Heap.lt_size e))
  ·have:X'.fs = frs X.stack:=by rw [← hX]
   rw [this]; exact stk_sub I2 f1 f2
  ·exact .inl (by rw [← hX]; exact hb)
  ·rw [eE] at ec; exact f4 x c (sub x c ec)
  ·have:p∈X.pn++pins:=by rw [← hX] at hp; simpa [cxC] using hp
   exact f5 p this
 have st4:tn 0 h4:=T.keep _ _ _ st fun b hb o e=>hsb _ _ (Heap.get?_push_of_some _ e)
 have S4:SR X.K H2 Hs2 Hs2 (upd H2 s2.heap.objs.size (.lst [])) (inn k ix σ) (innV k ix τ):=(S2.inn k ix).hid hDs hD (fun i xs=>inn_no i xs)
 have hlen:=mapR_len hm
 have loop:∀ s5:Shared,s5 = { s2 with heap:=h4,toks:=t4 }→codeAny (model X.prog X.w) X.A (.compLoop (.ListComp elt [⟨tg,iter,[],0⟩] scope pos) 0 (.ref it) (.ref s2.heap.objs.size) (compEnvC scope cl (s2.heap.objs.size + 1) X.env)) RR s5:=by
  intro s5 hs5
  refine codeAny_loop rfl (fun n s'=>∃ i τ' Hs' H' vs,n + i = ps.length∧Inv X' [] τ' H' s'∧tn i s'.heap∧(∀ b∈fp,H' b = none)∧SR X.K H2 Hs2 Hs' H' (inn k ix σ) τ'∧H' s2.heap.objs.size = some (.lst vs)∧Hs' s2.heap.objs.size = none∧Reps X.K Hs' vs (qs.take i)) ?_ ps.length
   ⟨0,innV k ix τ,Hs2,_,[],rfl,hs5 ▸ I4,hs5 ▸ st4,fun b hb=>by rw [upd_ne (fpD b hb)]; exact (fpok b hb).1,S4,upd_same,hDs,.nil⟩
  rintro n s6 ⟨i,τ6,Hs6,H6,vs,hni,I6,st6,fr6,S6,hD6,hDs6,R6⟩
  show wpAny _ _ ((compTurn (.ListComp elt [⟨tg,iter,[],0⟩] scope pos) 0 (.ref it) (.ref s2.heap.objs.size) (compEnvC scope cl (s2.heap.objs.size + 1) X.env)).onRaise (fun x=>do noteFrame x (compEnvC scope cl (s2.heap.objs.size + 1) X.env); theTreesLotGoes x)) _ _ s6
  refine wpAny_noted ?_
  rw [compTurn_list1]
  refine wpAny_bind (wpAny_standAt ?_)
  refine wpAny_noRaise ?_
  obtain ⟨j1,j2⟩:=jok i H6 Hs6 S6.g.s S6.g.i
  change wpAny (model X.prog X.w) X.A _ _ _ s6
  by_cases hlt:i < ps.length
  ·obtain ⟨go,yl⟩:=j1 hlt
   have hp':ps[i]? = some ps[i]:=List.getElem?_eq_getElem hlt
   obtain ⟨q,hq,hf⟩:=mapR_at hm i ps[i] hp'
   have TI:=T.item X' eP ew eK ecalm i [] s6 τ6 H6 (fun _ _=>False) I6 (stat fr6) st6 go
   rw [eA] at TI
   refine wpAny_bind (thn TI fun r s7 ⟨u,hr,h7⟩=>?_)
   subst hr
   refine wpAny_bind (thn h7 fun _ s8 ⟨x,H8,I8,r8,y8,st8,fr8⟩=>?_)
   obtain ⟨rfl,p,ep,rp⟩:=yl x H8 y8
   have ep':ps[i] = p:=by rw [hp'] at ep; exact Option.some.inj ep
   subst ep'
   have I8':=I8.pinned (stat fr8) (T.obj _ _ st8)
   unfold turnF at hf
   have hg':QG X' H8 Hs6 tg g:=hX ▸ hg _ _ _ H8 Hs6
   have he':QE X' H8 Hs6 elt de:=hX ▸ he _ _ _ H8 Hs6
   have S8:SR X.K H8 Hs6 Hs6 H8 (inn k ix σ) τ6:=S6.base' (fun i xs=>inn_no i xs) (.refl S6.g.i)
   cases eg:g ps[i] (inn k ix σ) with
   | ok σ1 =>
    rw [eg] at hf
    have hf:noErr (de σ1) = .ok q:=hf
    obtain ⟨w1,w2⟩:=gk _ _ eg
    have hgr:=hg' _ s8 τ6 H8 x u (fun τ9 H9=>∃ Hs9,SR X.K H8 Hs6 Hs9 H9 σ1 τ9) I8' r8 ⟨Hs6,inn k ix σ,ps[i],eK ▸ S8,eK ▸ (rp.mono S6.g.s),by
     rw [eg]
     exact fun Hs' H' τ' e S'=>⟨Hs',eK ▸ S'⟩⟩
    rw [eP,ew,eA,eE,exe] at hgr
    refine wpAny_bind (thn hgr fun _ s9 ⟨τ9,H9,I9,Hs9,S9⟩=>?_)
    have her:=he' _ s9 τ9 H9 (fun y H10=>∃ Hs10,Grow Hs9 H9 Hs10 H10∧Rep X.K Hs10 y q) I9 ⟨Hs9,σ1,eK ▸ S9,by
     rw [noErr_ok hf]
     exact fun v Hs' H' g' r'=>⟨Hs',g',eK ▸ r'⟩⟩
    rw [eP,ew,eA,eE,exe] at her
    refine wpAny_bind (wpAny_bind (thn her fun y s10 ⟨y',H10,I10,ry,Hs10,g10,rq⟩=>?_))
    have g6:Grow Hs6 H8 Hs10 H10:=S9.g.trans g10
    have hD10:H10 s2.heap.objs.size = some (.lst vs):=g6.h _ _ hD6
    have hDs10:Hs10 s2.heap.objs.size = none:=g6.o _ (by rw [hD6]; exact fun z=>by cases z) hDs6
    have hvl:vs.length < sizeLine:=by
     rw [R6.length,sizeLine_eq,List.length_take]
     omega
    have hap:=mt_append (X:=X') _ s10 τ9 H10 (.ref s2.heap.objs.size) [y'] (.ref s2.heap.objs.size) [y] (fun _ H'=>H' = upd H10 s2.heap.objs.size (.lst (vs++[y']))) I10 rfl (.cons ry .nil) ⟨_,vs,y',rfl,rfl,hD10,hvl,rfl⟩
    rw [eP,ew,eA,exe] at hap
    refine wpAny_bind (thn hap fun _ s11 ⟨_,H11,I11,_,eH⟩=>wpAny_pure (wpAny_pure ⟨rfl,n - 1,by omega,i + 1,τ9,Hs10,H11,vs++[y'],by omega,I11.unpinned,?_,?_,?_,?_,hDs10,?_⟩))
    ·exact T.keep _ _ _ st8 fun b hb o e=>(I11.pin (b,o) (List.mem_append_right _ (List.mem_append_right _ (mem_pinsAt hb e)))).1
    ·intro b hb
     obtain ⟨o,e,_⟩:=T.obj _ _ st8 b hb
     exact (I11.pin (b,o) (List.mem_append_right _ (List.mem_append_right _ (mem_pinsAt hb e)))).2.1
    ·subst eH
     exact (((S9.weak w1 w2.symm).grow g10).base' (fun i xs=>inn_no i xs) (S6.g.trans g6)).hid hDs10 hD (fun i xs=>inn_no i xs)
    ·subst eH; exact upd_same
    ·rw [List.take_add_one,hq]
     exact (R6.mono g6.s).append (.cons rq .nil)
   | err c=>rw [eg] at hf; cases hf
   | stuck=>rw [eg] at hf; cases hf
  ·have TD:=T.done X' eP ew eK ecalm i [] s6 τ6 H6 (fun _ _=>False) I6 (stat fr6) st6 (j2 (by omega))
   rw [eA] at TD
   refine wpAny_bind (thn TD fun r s7 ⟨hr,I7⟩=>?_)
   subst hr
   refine wpAny_pure ?_
   have hfull:qs.take i = qs:=List.take_of_length_le (by omega)
   rw [hfull] at R6
   obtain ⟨m,hm7,_⟩:=I7.loc
   have hfree:=I7.free
   have hos:=I7.os
   have hun:=I7.base
   have hok:=I7.hok
   rw [eE] at hm7 hfree
   rw [eP,ew] at hok
   rw [← hX] at hos hun
   have I9:Inv X pins τ H6 s7:=I3.call' (ch:=fp) hos hun hok I7.bare fun b hb=>by
    obtain ⟨f0,f1,f2,f3,f4,f5⟩:=fpok b hb
    exact ⟨f3,f1,f4,f5⟩
   exact hR s7 Hs6 H6 vs m I9 (S2.grow S6.g) S6.g.s S6.g hD6 hDs6 hD R6 hm7 hfree
 exact codeAny_compStart_list (loop _ rfl) (T.self _ _ _ _ _ st4 (loop _ rfl))
end
end G
namespace G
open PySem PySem.Spec PyProof.Rows L2
section
variable {X:Cx} {pins:List (Addr × Obj)} {H0 Hs0:Hp} {σ:PSt} {τ:L2.St} {tg elt iter:Expr} {scope:Scope} {pos:Pos} {cl:List (Str × Addr)} {N:List Str} {k:Nat} {ix:List Nat} {g:DG} {de:DE} {d:DI}
theorem inv_off {H:Hp} {s:Shared} {C:Addr} {h':Heap} (I:Inv X pins τ H s) (f:FpOk X pins H C) (sb:Heap.SameBut C s.heap h'):Inv X pins τ H { s with heap:=h' }:=by
 obtain ⟨f0,f1,f2,f3,f4,f5⟩:=f
 have k:∀ b u,b≠C→s.heap.get? b = some u→h'.get? b = some u:=fun b u hb e=>(sb.2 b hb).trans e
 refine I.call' (ch:=[C]) rfl ⟨fun b o e _ _ hc=>k b o (by simpa using hc) e,fun b o e _ _ hc=>⟨o.slots,k b o (by simpa using hc) e⟩,fun _ _ _ n _=>n,fun b o e hc=>⟨o,k b o (by simpa using hc) e⟩,fun _ _ q=>q,fun _ _ _ q=>q,fun _ ps q=>⟨#[],by rw [q]; simp⟩⟩ (fun a o e=>?_) I.bare fun b hb=>?_
 ·refine (I.hok a o e).stay (fun b u hb q=>k b u (fun z=>?_) q) (fun _ q=>q) fun _ _ q=>q
  subst z
  rcases hb with rfl | hb
  ·rw [e] at f0; cases f0
  ·rw [hb] at f0; cases f0
 ·have:b = C:=by simpa using hb
  subst this
  exact ⟨f3,f1,f4,f5⟩
structure BlkOk (X:Cx) (tg elt:Expr) (scope:Scope) (cl:List (Str × Addr)) (N:List Str) (k:Nat) (ix:List Nat) (g:DG) (de:DE):Prop where
 O:CompOk X scope cl N k ix
 calm:X.calm = true
 hg:∀ (pins:List (Addr × Obj)) (fp:List Addr) (C:Addr) (s:Shared) (H A B:Hp),QG (cxC X pins scope cl C N fp s H) A B tg g
 he:∀ (pins:List (Addr × Obj)) (fp:List Addr) (C:Addr) (s:Shared) (H A B:Hp),QE (cxC X pins scope cl C N fp s H) A B elt de
 gk:∀ σ p σ1,g p (inn k ix σ) = .ok σ1→(∀ (j:Nat) (sv:SV),(inn k ix σ)[j]? = some (some sv)→σ1[j]? = some (some sv))∧σ1.length = (inn k ix σ).length
theorem blk {E:Value→Shared→Prop} {Hs2 H2:Hp} {s2:Shared} {it:Addr} {fp:List Addr} {tn:Nat→Heap→Prop} {J:It} {ps qs:List PV} {RR:Value→Addr→Result→Shared→Prop}
  (B:BlkOk X tg elt scope cl N k ix g de) (I2:Inv X pins τ H2 s2) (S2:SR X.K H0 Hs0 Hs2 H2 σ τ) (T:Turn X.prog X.w X.K tg J fp it tn) (st:tn 0 s2.heap) (fpok:∀ b∈fp,FpOk X pins H2 b) (jok:JOk X.K J Hs2 ps)
  (hm:mapR (turnF g de (inn k ix σ)) ps = .ok qs) (hl:qs.length≤10000000)
  (hR:∀ (s':Shared) (Hs' H':Hp) (vs:List V) (D C:Addr) (m:Str→Option Value),Inv X pins τ H' s'→SR X.K H0 Hs0 Hs' H' σ τ→Same Hs2 Hs'→Grow Hs2 H2 Hs' H'→H' D = some (.lst vs)→Hs' D = none→H2 D = none→Reps X.K Hs' vs qs→s'.heap.Ns C m →
   FpOk X pins H' C→RR (.ref D) C (.ok .next) s') :
  wpAny (model X.prog X.w) X.A (newList []) (fun acc s3=>wpAny (model X.prog X.w) X.A (newFunctionEnv scope X.env.globals cl [] X.env.qual none .none (some X.env)) (fun cenv s4 =>
   codeAny (model X.prog X.w) X.A (.compStart (.ListComp elt [⟨tg,iter,[],0⟩] scope pos) 0 (.ref it) acc { cenv with scope:=relabel scope X.env }) (RR acc cenv.locals) s4) E s3) E s2:=by
 refine wpAny_newObj_type (wpAny_newFunctionEnv B.O.nocell (by intro y hy; simp at hy) (fun h1 hns1 hsb1=>?_) B.O.kind)
 dsimp only at hns1 hsb1 ⊢
 have hsz:(s2.heap.push { cls:=.type "list",dict:=none,data:=.seq ([]:List Value).toArray }).objs.size = s2.heap.objs.size + 1:=Heap.size_push ..
 rw [hsz] at hns1 hsb1 ⊢
 refine comp_run (t4:=s2.toks + 0) I2 S2 B.O B.calm T st fpok jok (B.hg pins fp) (B.he pins fp) (B.gk σ) hm hl hns1 (fun b o e=>?_) (fun s' Hs' H' vs m I' S' e' gr h1' h2' h3' h4' h5' h6'=>?_)
 ·exact hsb1.extBut b o (Nat.ne_of_lt (by have:=Heap.lt_size e; rw [hsz] at this; exact this)) (Heap.get?_push_of_some _ e)
 ·exact hR s' Hs' H' vs _ _ m I' S' e' gr h1' h2' h3' h4' h5' (I2.fpOk (Nat.le_succ _) h6')
theorem same_lay {Hs:Hp} {D:Addr} {o:HO} (h:Hs D = none):Same Hs (upd Hs D o):=fun b u e=>by rw [upd_ne (ne_of_none e h)]; exact e
theorem Grow.lay {Hs H Hs' H':Hp} {D:Addr} {o:HO} (g:Grow Hs H Hs' H') (h1:H' D = some o) (h2:Hs' D = none) (h3:H D = none):Grow Hs H (upd Hs' D o) H' :=
 ⟨g.s.trans (same_lay h2),fun b u e=>by
  by_cases hb:b = D
  ·subst hb; rw [upd_same] at e; cases e; exact h1
  ·rw [upd_ne hb] at e; exact g.i b u e,g.h,fun x hx hn=>by
  have:x≠D:=fun z=>hx (z ▸ h3)
  rw [upd_ne this]; exact g.o x hx hn⟩
theorem cVal_ok {r:Res (List PV)} {f:List PV→Res (List PV)} {EO:Str→Prop} {K:PySem.W.Frag} {Hs H:Hp} {Q:VK} (h:Ret K Hs H ((r.bind f).bind fun qs=>.ok (.lst qs)) EO Q):(∃ c,r = .err c∧EO c)∨∃ ps,r = .ok ps∧Ret K Hs H ((f ps).bind fun qs=>.ok (.lst qs)) EO Q:=by
 cases r with
 | ok ps=>exact .inr ⟨ps,rfl,h⟩
 | err c=>exact .inl ⟨c,rfl,h⟩
 | stuck=>exact h.elim
theorem qe_comp (B:BlkOk X tg elt scope cl N k ix g de) (hi:QI X H0 Hs0 tg iter d) (hs:∀ x,foldedSetIterable iter X.env x = pure x) :
  QE X H0 Hs0 (.ListComp elt [⟨tg,iter,[],0⟩] scope pos) (eComp d g de k ix):=by
 intro pins s τ H Q I ⟨Hs,σ,S,h⟩
 rw [eval_ListComp]
 have h0:wpAny (model X.prog X.w) X.A (eval iter X.env) (fun v s1=>wpAny (model X.prog X.w) X.A (pyIter v) (PIE X pins τ tg fun J H2=>∃ Hs2 ps qs,Grow Hs H Hs2 H2∧JOk X.K J Hs2 ps∧mapR (turnF g de (inn k ix σ)) ps = .ok qs∧qs.length≤10000000∧Ret X.K Hs H (.ok (.lst qs)) (ErrOk X H0 Hs0) Q) X.xe s1) X.xe s:=by
  refine hi pins s τ H _ I ⟨Hs,σ,S,?_⟩
  rcases cVal_ok h with ⟨c,e,ec⟩ | ⟨ps,e,h1⟩
  ·rw [e]; exact ec
  ·rw [e]
   intro J Hs2 H2 g2 j2
   cases em:mapR (turnF g de (inn k ix σ)) ps with
   | ok qs =>
    simp only [em] at h1
    by_cases hl:qs.length≤10000000
    ·rw [if_pos hl] at h1
     exact ⟨Hs2,ps,qs,g2,j2,em,hl,h1⟩
    ·rw [if_neg hl] at h1
     exact h1.elim
   | err c=>simp only [em] at h1; exact h1.elim
   | stuck=>simp only [em] at h1; exact h1.elim
 refine wpAny_comprehension_free (use:=none) rfl hs (clos_for B.O.clos) B.O.kind B.O.names (wpAny_mono h0 (fun v s1 h1=>wpAny_mono h1 (fun itv s2 h2=>?_) fun _ _ e=>e) fun _ _ e=>e)
 obtain ⟨it,fp,tn,J,H2,rfl,I2,T,st,fpok,Hs2,ps,qs,g2,jok,hm,hl,hq⟩:=h2
 refine blk B I2 (S.grow g2) T st fpok jok hm hl fun s' Hs' H' vs D C m I' S' e' gr h1 h2 h3 h4 h5 h6=>?_
 refine ⟨m,h5,fun h' sb=>⟨.ref D,H',inv_off I' h6 sb,rfl,?_⟩⟩
 exact hq (.ref D) (upd Hs' D (.lst vs)) H' ((g2.trans gr).lay h1 h2 (g2.h.free h3)) (.lst upd_same (h4.mono (same_lay h2)))
variable {i:Nat} {x:Str} {pos' spos:Pos}
end
end G
namespace G
open PySem PySem.Spec PyProof.Rows L2
theorem closL_has {cells:List (Str × Addr)} {x:Str}:∀ (names:List (Str × NameKind)) (acc cl:List (Str × Addr)),closL cells names acc = some cl→((x,.free)∈names∨∃ c,acc.lookup x = some c)→∃ c,cl.lookup x = some c
 | [],acc,cl,h,hx=>by
  have:acc = cl:=Option.some.inj h
  subst this
  exact hx.elim (fun z=>by cases z) id
 | (n,k)::r,acc,cl,h,hx=>by
  unfold closL at h
  split at h
  ·rename_i hk
   split at h
   ·rename_i a hn
    refine closL_has r _ cl h ?_
    rcases hx with hx | ⟨c,hx⟩
    ·rcases List.mem_cons.mp hx with e | hx
     ·cases e
      exact .inr ⟨a,by simp [List.lookup_cons]⟩
     ·exact .inl hx
    ·refine .inr ?_
     rw [List.lookup_cons]
     split
     ·exact ⟨a,rfl⟩
     ·exact ⟨c,hx⟩
   ·cases h
  ·rename_i hk
   refine closL_has r acc cl h ?_
   rcases hx with hx | hx
   ·rcases List.mem_cons.mp hx with e | hx
    ·cases e
     exact absurd rfl hk
    ·exact .inl hx
   ·exact .inr hx
theorem lookup_mem' {x:Str} {q:NameKind}:∀ {names:List (Str × NameKind)},names.lookup x = some q→(x,q)∈names
 | [],h=>by simp at h
 | (n,k)::r,h=>by
  rw [List.lookup_cons] at h
  split at h
  ·rename_i hb
   have:x = n:=by simpa using hb
   subst this
   cases h
   exact List.mem_cons_self
  ·exact List.mem_cons_of_mem _ (lookup_mem' h)
theorem relabel_has {scope:Scope} {env:Env} {x:Str} {q:NameKind} (h:(relabel scope env).names.lookup x = some q):∃ k,(x,k)∈scope.names∧(q = k∨k = .free):=by
 have:=lookup_mem' h
 unfold relabel at this
 obtain ⟨⟨n,k⟩,h1,h2⟩:=List.mem_map.mp this
 dsimp only at h2
 split at h2
 ·rename_i hc
  cases h2
  simp only [Bool.and_eq_true,beq_iff_eq] at hc
  exact ⟨k,h1,.inr hc.1.1⟩
 ·cases h2
  exact ⟨_,h1,.inl rfl⟩
theorem relabel_free {env:Env} {x:Str}:∀ {names:List (Str × NameKind)},names.lookup x = some .free→env.scope.kind = .function→env.kindOf x = some .cell →
  (names.map fun (n,k)=>if (k == NameKind.free && env.scope.kind == .function && env.kindOf n == some .cell) then (n,NameKind.cell) else (n,k)).lookup x = some .cell
 | [],h,_,_=>by simp at h
 | (n,k)::r,h,h1,h2=>by
  have ih:=@relabel_free env x r
  rw [List.lookup_cons] at h
  rw [List.map_cons]
  dsimp only
  split at h
  ·rename_i hb
   have:x = n:=by simpa using hb
   subst this
   cases h
   rw [if_pos (by simp [h1,h2])]
   simp [List.lookup_cons]
  ·rename_i hb
   split
   ·rw [List.lookup_cons,hb]; exact ih h h1 h2
   ·rw [List.lookup_cons,hb]; exact ih h h1 h2
inductive CapOk (X:Cx) (scope:Scope):List Nat→List Str→Prop
 | nil:CapOk X scope [] []
 | cons {i:Nat} {x:Str} {ix:List Nat} {xs:List Str}:X.N[i]? = some x→X.env.kindOf x = some .cell→scope.names.lookup x = some .free→CapOk X scope ix xs→CapOk X scope (i::ix) (x::xs)
theorem cap0 {X:Cx} {scope:Scope}:CapOk X scope [] []:=.nil
theorem CapOk.len {X:Cx} {scope:Scope} {ix:List Nat} {xs:List Str} (c:CapOk X scope ix xs):xs.length = ix.length:=by
 induction c with
 | nil=>rfl
 | cons _ _ _ _ ih=>rw [List.length_cons,List.length_cons,ih]
theorem CapOk.at' {X:Cx} {scope:Scope} {ix:List Nat} {xs:List Str} (c:CapOk X scope ix xs):∀ (j i:Nat) (x:Str),ix[j]? = some i→xs[j]? = some x→X.N[i]? = some x∧X.env.kindOf x = some .cell∧scope.names.lookup x = some .free:=by
 induction c with
 | nil=>intro j i x h; simp at h
 | cons h1 h2 h3 _ ih =>
  intro j i x e1 e2
  cases j with
  | zero=>simp at e1 e2; subst e1 e2; exact ⟨h1,h2,h3⟩
  | succ j=>exact ih j i x (by simpa using e1) (by simpa using e2)
def clOf (X:Cx) (scope:Scope):List (Str × Addr):=(closL X.env.cells scope.names []).getD []
def scopeOk (scope:Scope):Prop:=(∀ y∈scope.names,y.2≠.cell)∧(∀ y∈scope.names,y.2 = .local→scope.names.lookup y.1 = some .local)
instance {scope:Scope}:Decidable (scopeOk scope):=by unfold scopeOk; exact inferInstance
theorem compOk {X:Cx} {scope:Scope} {own xs:List Str} {ix:List Nat} (hk:scope.kind = .function) (hs:scopeOk scope) (hX:X.env.scope.kind = .function) (hc:(closL X.env.cells scope.names []).isSome = true) (hn:(own++xs).Nodup) (c:CapOk X scope ix xs):CompOk X scope (clOf X scope) (own++xs) own.length ix:=by
 have hcl:closL X.env.cells scope.names [] = some (clOf X scope):=by
  unfold clOf
  cases e:closL X.env.cells scope.names [] with
  | none=>rw [e] at hc; cases hc
  | some cl=>rfl
 refine ⟨hk,hs.1,hs.2,hcl,fun x hx=>?_,hn,by rw [List.length_append,c.len],fun j i x e1 e2=>?_⟩
 ·have:(x,NameKind.free)∈scope.names:=by
   rcases hx with hx | hx
   ·obtain ⟨k,h1,h2⟩:=relabel_has hx
    rcases h2 with rfl | rfl
    ·exact absurd rfl (hs.1 _ h1)
    ·exact h1
   ·obtain ⟨k,h1,h2⟩:=relabel_has hx
    rcases h2 with rfl | rfl <;> exact h1
  exact closL_has _ _ _ hcl (.inl this)
 ·rw [List.getElem?_append_right (Nat.le_add_right _ _),Nat.add_sub_cancel_left] at e2
  obtain ⟨a1,a2,a3⟩:=c.at' j i x e1 e2
  exact ⟨a1,a2,.inl (relabel_free a3 hX a2)⟩
structure GK (k:Nat) (g:DG):Prop where
 h:∀ (ix:List Nat) (σ:PSt) (p:PV) (σ1:PSt),g p (inn k ix σ) = .ok σ1→(∀ (j:Nat) (sv:SV),(inn k ix σ)[j]? = some (some sv)→σ1[j]? = some (some sv))∧σ1.length = (inn k ix σ).length
theorem inn_low {k i:Nat} {ix:List Nat} {σ:PSt} (h:i < k) {sv:SV}:(inn k ix σ)[i]?≠some (some sv):=fun e=>by
 obtain ⟨_,_,h1,_⟩:=inn_get e
 omega
theorem gk_n {k i:Nat} (h:i < k:=by decide):GK k (gN i):=⟨fun ix σ p σ1 e=>by
 have e:σ1 = (inn k ix σ).set i (some (.sh p)):=by
  unfold gN at e
  first | (injection e with e; exact e.symm) | (cases e; rfl)
 subst e
 refine ⟨fun j sv hj=>?_,List.length_set⟩
 rw [List.getElem?_set_ne (fun z=>inn_low (h) (z ▸ hj))]
 exact hj⟩
section
variable {X:Cx} {H0 Hs0:Hp} {tg elt iter:Expr} {scope:Scope} {pos:Pos} {g:DG} {de:DE} {d:DI} {ix:List Nat} {xs:List Str}
theorem xblk (own:List Str) (c:CapOk X scope ix xs) (k:GK own.length g) (hg:∀ (pins:List (Addr × Obj)) (fp:List Addr) (C:Addr) (s:Shared) (H A B:Hp),(cxC X pins scope (clOf X scope) C (own++xs) fp s H).N.Nodup→XG (cxC X pins scope (clOf X scope) C (own++xs) fp s H) A B tg g)
  (he:∀ (pins:List (Addr × Obj)) (fp:List Addr) (C:Addr) (s:Shared) (H A B:Hp),(cxC X pins scope (clOf X scope) C (own++xs) fp s H).N.Nodup→XE (cxC X pins scope (clOf X scope) C (own++xs) fp s H) A B elt de)
  (hk:scope.kind = .function:=by rfl) (hs:scopeOk scope:=by decide +kernel) (hX:X.env.scope.kind = .function:=by rfl) (hc:(closL X.env.cells scope.names []).isSome = true:=by rfl) (hn:(own++xs).Nodup:=by decide) (hcalm:X.calm = true:=by rfl) :
  BlkOk X tg elt scope (clOf X scope) (own++xs) own.length ix g de :=
 ⟨compOk hk hs hX hc hn c,hcalm,fun pins fp C s H A B=>(hg pins fp C s H A B hn).h,fun pins fp C s H A B=>(he pins fp C s H A B hn).h,fun σ p σ1 e=>k.h ix σ p σ1 e⟩
theorem xcomp {cl:List (Str × Addr)} {N:List Str} {k:Nat} (B:BlkOk X tg elt scope cl N k ix g de) (hi:XI X H0 Hs0 tg iter d) (hs:noSet iter = true:=by rfl):XE X H0 Hs0 (.ListComp elt [⟨tg,iter,[],0⟩] scope pos) (eComp d g de k ix):=⟨qe_comp B hi.h (fold_no hs)⟩
end
end G
namespace G
open PySem PySem.Spec PyProof.Rows L2
theorem frs_mem {l:List Env}:∀ env∈l,∀ a,env.frame = some a→a∈frs l:=fun env he a hf=>List.mem_filterMap.mpr ⟨env,he,hf⟩
theorem leaving_unmark {M:Model} {A:Around} {E:Value→Shared→Prop} {Q:Unit→Shared→Prop} {s:Shared} {env:Env} {L ea T:Addr} {oe oT:Obj} {vs ts:Array Value} {fl:Value} (hf:env.frame = some L) (he:s.heap.get? ea = some oe) (hd:oe.data = .fields vs)
  (h1:vs[1]? = some (.ref T)) (hTe:T≠ea) (hT:s.heap.get? T = some oT) (hdT:oT.data = .fields ts) (h3:ts[3]? = some fl) (hfl:fl≠rawInt L)
  (h:wpAny M A (leaving env (.ref ea)) Q E { s with heap:=s.heap.update T (Obj.mapFields (·.setIfInBounds 3 .none)) }):wpAny M A (leaving env (.ref ea)) Q E s:=by
 intro Γ p hΓ
 have h0:=h Γ p hΓ
 have hT1:=Heap.get?_update_self (Obj.mapFields (·.setIfInBounds 3 .none)) hT (Obj.isFreed_of_fields (Obj.data_mapFields hdT _))
 have hlt:3 < ts.size:=(Array.getElem?_eq_some_iff.mp h3).1
 unfold leaving noteFrame at h0 ⊢
 simp only [hf] at h0 ⊢
 rw [Sem.wp_bind',Sem.wp_bind',wp_field_iff] at h0 ⊢
 obtain ⟨a,o,vs',x,e1,e2,e3,e4,h0⟩:=h0
 cases e1
 rw [Heap.get?_update_other _ _ hTe,he] at e2
 cases e2
 rw [hd] at e3; cases e3
 rw [h1] at e4; cases e4
 refine ⟨ea,oe,vs,_,rfl,he,hd,h1,?_⟩
 have hb:(Value.ref T != Value.none) = true:=by simp
 simp only [hb,if_true] at h0 ⊢
 rw [Sem.wp_bind',wp_field_iff] at h0 ⊢
 obtain ⟨a,o,vs',x,e1,e2,e3,e4,h0⟩:=h0
 cases e1
 rw [hT1] at e2; cases e2
 rw [Obj.data_mapFields hdT] at e3; cases e3
 have ex:x = .none:=by simpa [Array.getElem?_setIfInBounds,hlt] using e4.symm
 subst ex
 refine ⟨T,oT,ts,fl,rfl,hT,hdT,h3,?_⟩
 have hb1:(fl == rawInt L) = false:=by simpa using hfl
 have hb2:(Value.none == rawInt L) = false:=by simp [rawInt]
 simp only [hb1,hb2,Bool.false_eq_true,if_false] at h0 ⊢
 rw [Sem.wp_bind',wp_setField_iff] at h0 ⊢
 obtain ⟨a,o,vs',e1,e2,e3,e4,h0⟩:=h0
 cases e1
 refine ⟨T,oT,ts,rfl,hT,hdT,hlt,?_⟩
 rw [Heap.update_setField_twice] at h0
 exact h0
theorem leaves_any {M:Model} {A:Around} {E:Value→Shared→Prop} {Q:Unit→Shared→Prop} {s:Shared} {B:Heap} {env:Env} {outer:List Env} {L ea:Addr} {cls a0 fl:Value} (hfr:A.frames = some (env::outer)) (hf:env.frame = some L)
  (k1:B.StaysIn s.heap) (k2:B.get? ea = none) (k3:s.heap.FunFrames B (env::outer)) (k4:s.heap.TracedAtW B ea cls a0 fl) (hQ:∀ h',Heap.FlyingW B outer ea cls a0 h'→s.heap.UpToSlots h'→Q () { s with heap:=h' }) :
  wpAny M A (leaving env (.ref ea)) Q E s:=by
 by_cases hfl:fl = rawInt L
 ·subst hfl
  exact wpAny_bind (wpAny_noteFrame_againW hf k4 (wpAny_landsW ⟨k1,k2,k3,k4⟩ fun h' ⟨a1,a2,⟨_,_,a3⟩,a4⟩ sm=>hQ h' ⟨a1,a2,a3,a4⟩ sm))
 ·obtain ⟨oe,vs,T,oT,ts,he,hc,hd,h1,hnT,hTe,hT,hdT,h3⟩:=k4
  have hlt:3 < ts.size:=(Array.getElem?_eq_some_iff.mp h3).1
  have far:∀ b,b≠T→(s.heap.update T (Obj.mapFields (·.setIfInBounds 3 .none))).get? b = s.heap.get? b:=fun b hb=>Heap.get?_update_other _ _ (Ne.symm hb)
  have nf:∀ b o,s.heap.get? b = some o→(∀ us,o.data≠.fields us)→b≠T:=fun b o e n z=>by
   rw [z,hT] at e; cases e; exact n ts hdT
  refine leaving_unmark hf he hd h1 hTe hT hdT h3 hfl (wpAny_leaves_onW hfr hf ⟨fun b o e=>(far b fun z=>?_).trans (k1 b o e),k2,k3.of_keeps fun b o e n=>⟨o,(far b (nf b o e n)).trans e,rfl⟩,oe,vs,T,_,_,(far ea (Ne.symm hTe)).trans he,hc,hd,h1,hnT,hTe,Heap.get?_update_self _ hT (Obj.isFreed_of_fields (Obj.data_mapFields hdT _)),Obj.data_mapFields hdT _,?_⟩
   fun h' fl' sm=>hQ h' fl' fun b o e n=>sm b o ((far b (nf b o e n)).trans e) n)
  ·rw [z,hnT] at e; cases e
  ·simp [Array.getElem?_setIfInBounds,hlt]
section
variable {P:Program} {w:World} {K:PySem.W.Frag} {mg:Str→Option Value} {base:Heap} {N:List Str} {qual:Str} {scope:Scope} {f:Addr} {cd:Value} {A:Around} {outer:List Env} {s:Shared} {H Hs:Hp} {E:XK} {c:Str}
theorem err_ok (hE:∀ (C:Addr) (Hs1 H1:Hp),ClsIs K c C→Grow Hs H Hs1 H1→E (.ref C) none H1):ErrOk (cxOf (CXG P w) P w K mg base N qual scope f cd A outer s H E) H Hs c:=by
 intro e s' ⟨pins,τ,H',s1,I,h⟩
 show wpAny (model P w) (A.deeper (envOfC qual scope s.heap.objs.size f cd)) (leaving (envOfC qual scope s.heap.objs.size f cd) e) (fun _ s''=>CXG P w outer H s E e s'') (fun e' s''=>CXG P w outer H s E e' s'') s'
 have u:Un (frs outer) [] H H' s.heap s1.heap:=I.base
 have hfr:(A.deeper (envOfC qual scope s.heap.objs.size f cd)).frames = some (envOfC qual scope s.heap.objs.size f cd::outer):=I.ok.frames
 have funs:s.heap.FunFrames base outer:=I.ok.funs
 have frf:∀ b∈frs outer,H b = none:=I.ok.frf
 have stk:s1.heap.FunFrames base (envOfC qual scope s.heap.objs.size f cd::outer):=I.stack
 have stf:∀ b∈frs (envOfC qual scope s.heap.objs.size f cd::outer),H' b = none:=I.stkFree
 have fcons:frs (envOfC qual scope s.heap.objs.size f cd::outer) = s.heap.objs.size::frs outer:=rfl
 have off:∀ {b:Addr} {o:Obj},s.heap.get? b = some o→b ∉ frs outer→b ∉ frs (envOfC qual scope s.heap.objs.size f cd::outer):=fun e n z=>by
  rw [fcons] at z
  rcases List.mem_cons.mp z with z | z
  ·exact absurd (Heap.lt_size e) (by rw [z]; exact Nat.lt_irrefl _)
  ·exact n z
 have nofield:∀ {b:Addr} {o:Obj},b∈frs outer→s.heap.get? b = some o→∀ vs,o.data≠.fields vs:=fun hb e vs z=>by
  obtain ⟨_,o',ho,hd⟩:=funs.mem hb
  rw [e] at ho; cases ho
  exact hd vs z
 have fin:∀ (ea C:Addr) (B:Heap) (a0:Value) (H1 Hs1:Hp),s'.os = s1.os→AllBare s'.gens→UnX (envOfC qual scope s.heap.objs.size f cd::outer) H' H1 s1.heap B s'.heap→HOk P w H1 B→ClsIs K c C→Grow Hs H Hs1 H1 →
   ∀ h'',Heap.FlyingW B outer ea (.ref C) a0 h''→s'.heap.UpToSlots h''→CXG P w outer H s E (.ref ea) { s' with heap:=h'' }:=by
  intro ea C B a0 H1 Hs1 hos hbare ux hok hc g h'' x1 x2
  refine ⟨ea,C,B,a0,H1,rfl,hos.trans I.os,hbare,x1,⟨fun b o e n nf=>?_,fun b o e n nf=>?_,fun b o e n=>?_,fun b o e n=>?_,fun b xs q=>ux.tups b xs (u.tups b xs q),fun b o v q=>ux.frzs b o v (u.frzs b o v q),fun b ps q=>?_⟩,hok,hE C Hs1 H1 hc g⟩
  ·exact ux.keep b o (u.keep b o e n nf (by simp)) (u.free b o e n (by simp)) (off e nf)
  ·obtain ⟨sl,e1⟩:=u.slot b o e n nf (by simp)
   obtain ⟨sl2,e2⟩:=ux.slot b _ e1 (u.free b o e n (by simp)) (by show b∈frs (_::outer); rw [fcons]; exact List.mem_cons_of_mem _ nf)
   obtain ⟨sl3,e3⟩:=x2 b _ e2 (fun vs z=>nofield nf e vs z)
   exact ⟨sl3,e3⟩
  ·obtain ⟨sl,e1⟩:=u.any e n (by simp)
   exact ux.free b _ e1 (u.free b o e n (by simp))
  ·obtain ⟨o',e1⟩:=u.there b o e (by simp)
   cases hn:H' b with
   | none=>exact ⟨o',ux.keep b o' e1 hn (off e fun z=>n (frf b z))⟩
   | some v=>exact ux.there b o' e1 (by rw [hn]; exact fun z=>by cases z)
  ·obtain ⟨m1,q1⟩:=u.tbls b ps q
   obtain ⟨m2,q2⟩:=ux.tbls b _ q1
   exact ⟨m1++m2,by rw [q2,Array.append_assoc]⟩
 rcases h with ⟨_,ea,C,vs,h',Hs',rfl,hc,g,mk,rfl⟩ | ⟨ea,C,B,a0,H1,rfl,hos,hbare,fl,ux,hok,C',Hs1,ecls,hc,g⟩ | ⟨_,ea,C,B,a0,fl,H1,rfl,hos,hbare,⟨k1,k2,k3,k4⟩,ux,hok,C',Hs1,ecls,hc,g⟩
 ·have hB:∀ b ∉ frs (envOfC qual scope s.heap.objs.size f cd::outer),∀ o,s1.heap.get? b = some o→(PySem.W.hideAll s1.heap (frs (envOfC qual scope s.heap.objs.size f cd::outer))).get? b = some o:=fun b hb o e=>PySem.W.hideAll_get _ e hb
  refine wpAny_leaves_madeW (base:=PySem.W.hideAll s1.heap (frs (envOfC qual scope s.heap.objs.size f cd::outer))) (h:=s1.heap) hfr rfl (fun b o q=>PySem.W.of_hideAll _ q) (PySem.W.funFrames_hide stk fun env he a hf=>frs_mem env he a hf) mk fun h'' t x1 x2 x3 x4=>?_
  refine ⟨ea,C,_,.ref t,H',rfl,I.os,I.bare,x1,⟨fun b o e n nf=>?_,fun b o e n nf=>?_,fun b o e n=>u.free b o e n (by simp),fun b o e n=>?_,u.tups,u.frzs,u.tbls⟩,fun a o e=>?_,hE C Hs' H' hc g⟩
  ·exact hB b (off e nf) o (u.keep b o e n nf (by simp))
  ·obtain ⟨sl,e1⟩:=u.slot b o e n nf (by simp)
   obtain ⟨sl2,e2⟩:=x4 b _ (mk.keeps b _ e1) (fun vs z=>nofield nf e vs z)
   exact ⟨sl2,e2⟩
  ·obtain ⟨o',e1⟩:=u.there b o e (by simp)
   exact ⟨o',hB b (off e fun z=>n (frf b z)) o' e1⟩
  ·refine (I.hok a o e).stay (fun b v hb q=>hB b (fun z=>?_) v q) (fun _ q=>q) fun _ _ q=>q
   have:=stf b z
   rcases hb with rfl | hb
   ·rw [e] at this; cases this
   ·rw [hb] at this; cases this
 ·cases ecls
  exact wpAny_leaves_onW hfr rfl fl (fin ea C B a0 H1 Hs1 hos hbare ux hok hc g)
 ·cases ecls
  exact leaves_any hfr rfl k1 k2 k3 k4 (fin ea C B a0 H1 Hs1 hos hbare ux hok hc g)
end
structure ExcAt (K:PySem.W.Frag) (x:Str):Prop where
 ex:∃ C:Addr,ClsIs K x C∧PySem.W.excIn K C [.type "ValueError",.type "Exception",.type "BaseException",.type "object"] "ValueError.__new__" = true
def sRaise (c:Str):DS:=fun _=>.err c
section
variable {X:Cx} {H0 Hs0:Hp} {x t:Str} {pos np cpos cp:Pos} {j}
theorem excCls {K:PySem.W.Frag} {h₀:Heap} {mg:Str→Option Value} {C:Addr} {bmB:List Value} {newId:String} (XI:K.In h₀) (G:h₀.Ns mainGlobals mg) (e:PySem.W.nsIn K mainGlobals x = some (some (.ref C))) (q:PySem.W.excIn K C bmB newId = true):OwnCls x C bmB newId mg h₀:=by
 refine ⟨PySem.W.mg_of XI G e,?_⟩
 unfold PySem.W.excIn at q
 split at q
 ·rename_i dd cd sl ho
  split at q
  ·rename_i C' bm k0 k1 k2 k3 n k5 hm hs
   simp only [Bool.and_eq_true,beq_iff_eq,Bool.not_eq_true'] at q
   obtain ⟨⟨⟨⟨⟨rfl,rfl⟩,hdel⟩,ht⟩,hok⟩,hni⟩:=q
   obtain ⟨nm,bs,mro,ns,qn,hd,sn,sub,ab,col,del⟩:=cd
   dsimp only at hm hdel hok hni
   subst hm hdel
   have hsl:sl = #[k0,k1,k2,k3,some (.builtin n),k5]:=by
    obtain ⟨l⟩:=sl
    simp only at hs
    rw [hs]
   subst hsl
   exact ⟨bm,ns,nm,qn,bs,hd,sn,sub,ab,col,dd,k0,k1,k2,k3,k5,_,XI _ _ ho,.of_isNs (PySem.W.isNs_of_in XI hok),PySem.W.nsMap_none_of_in XI hok hni,PySem.W.tail_of_in XI ht⟩
  ·cases q
 ·cases q
theorem qs_raise (hx:ExcAt X.K x) (hc:X.calm = true) (hg:Gl X x) (hd:(x == ("__debug__":Str)) = false) (hst:X.stack = X.env::X.outer) (he:starEach [.Constant (.str t) j cp] X.env = [(false,eval (.Constant (.str t) j cp) X.env)]) :
  QS X H0 Hs0 (.Raise (some (.Call (.Name x np) [.Constant (.str t) j cp] [] cpos)) none pos) (sRaise x):=by
 obtain ⟨C,hcl,hin⟩:=hx.ex
 intro pins s τ H D I ⟨Hs,σ,S,h⟩
 have GN:s.heap.Ns mainGlobals X.mg:=I.mod.glob.keeps I.bk
 have O:=excCls I.kIn GN hcl hin
 obtain ⟨tl,NN,nm,q,bs,hdct,sn,sub,ab,col,dd,k0,k1,k2,k3,k5,mN,hC,hN,hni,T⟩:=O.obj
 refine wpAny_Raise_call_subT (C:=C) (nm:=nm) (q:=q) (N:=NN) (bs:=bs) (bm:=tl) (hdct:=hdct) (sn:=sn) (sub:=sub) (ab:=ab) (col:=col) (dd:=dd) (k0:=k0) (k1:=k1) (k2:=k2) (k3:=k3) (k5:=k5)
  PySem.F.excBase_ValueError (mN:=mN) (T.hasType PySem.F.excBase_ValueError.hasBase) (I.ok.hd hc) (by rw [he]; rfl) hni (ld_glob I hg O.bound ⟨rfl,?_⟩ hd)
 rw [he]
 refine Calls.evalArgs_plain (Calls.spliced_cons (@Calls.Constant_str _ _ _ _ _ t j cp _ (Calls.spliced_nil ⟨rfl,(show 1≤sizeLine from small7 (by decide)),hC,hN,T,fun h' e mk=>?_⟩)))
 exact h (.ref e) _ ⟨pins,τ,H,_,I.tok _,.inl ⟨hst,e,C,_,h',Hs,rfl,hcl,S.g,mk,rfl⟩⟩
end
end G
namespace G
open PySem PySem.Spec PyProof.Rows L2
section
variable {X:Cx} {pins:List (Addr × Obj)} {H0 Hs0 Hs H:Hp} {σ:PSt} {τ:L2.St} {s:Shared}
theorem goes_ok {M:Model} {A:Around} {E:Value→Shared→Prop} {i:Nat} {x:Str} {pos:Pos} {Q:Unit→Shared→Prop} (I:Inv X pins τ H s) (hN:X.N.Nodup) (hi:X.N[i]? = some x) (hk:X.env.scope.names.lookup x = some .local)
  (h:∀ s',Inv X pins (τ.set i none) H s'→Q () s'):wpAny M A (do bindName X.env x .none; unbindBehindTheSuite X.env x pos) Q E s:=by
 obtain ⟨m,hn,hl⟩:=id I.loc
 have hcls:(X.env.scope.kind == .class || (X.env.scope.kind == .module && X.env.locals != X.env.globals)) = false:=by rw [I.ok.kind]; rfl
 have hiσ:i < τ.length:=by rw [I.len]; exact (List.getElem?_eq_some_iff.mp hi).1
 have cne:=I.cne
 refine wpAny_nameGoes_keeps hk hn hcls fun h' w hn' hs=>?_
 obtain ⟨oL,_,_,hoL,_⟩:=id hn
 have tracked:HOk X.prog X.w H h':=fun b ob e=>by
  refine (I.hok b ob e).stay (fun c w' hc q=>(hs.2 c ?_).trans q) (fun _ q=>q) fun _ _ q=>q
  rintro rfl
  have hfree:=I.free
  rcases hc with rfl | hc
  ·rw [hfree] at e; cases e
  ·rw [hfree] at hc; cases hc
 refine h _ ⟨I.ok,I.os,I.bare,⟨fun b o e n hb hx=>?_,fun b o e n hb hx=>?_,I.base.free,fun b o e hx=>?_,I.base.tups,I.base.frzs,I.base.tbls⟩,⟨_,hn',fun j y v' e1 e2 e3=>?_⟩,fun y c e=>?_,I.free,I.freeC,fun p hp=>?_,tracked,by simpa using I.len⟩
 ·exact (hs.2 b (Nat.ne_of_lt (Nat.lt_of_lt_of_le (Heap.lt_size e) I.ok.above))).trans (I.base.keep b o e n hb hx)
 ·obtain ⟨sl,e1⟩:=I.base.slot b o e n hb hx
  exact ⟨sl,(hs.2 b (Nat.ne_of_lt (Nat.lt_of_lt_of_le (Heap.lt_size e) I.ok.above))).trans e1⟩
 ·obtain ⟨o',e1⟩:=I.base.there b o e hx
  exact ⟨o',(hs.2 b (Nat.ne_of_lt (Nat.lt_of_lt_of_le (Heap.lt_size e) I.ok.above))).trans e1⟩
 ·by_cases hj:j = i
  ·subst hj
   rw [List.getElem?_set_self hiσ] at e2
   cases e2
  ·rw [List.getElem?_set_ne (Ne.symm hj)] at e2
   obtain ⟨u',r',q⟩:=hl j y v' e1 e2 e3
   refine ⟨u',r',?_⟩
   rcases q with ⟨k,e⟩ | ⟨k,c,e,z⟩
   ·refine .inl ⟨k,?_⟩
    have:y≠x:=fun e=>hj (nodup_ix hN e1 (e ▸ hi))
    simp [this,e]
   ·exact .inr ⟨k,c,e,z.sameBut hs (cne y c e)⟩
 ·obtain ⟨w',z⟩:=I.cell y c e
  exact ⟨w',z.sameBut hs (cne y c e)⟩
 ·obtain ⟨e,n,ne,nf,d⟩:=I.pin p hp
  exact ⟨(hs.2 p.1 ne).trans e,n,ne,nf,d⟩
theorem objOk_there {P:Program} {w:World} {h:Heap} {a:Addr} {o:HO} (x:ObjOk P w H h a o):∃ ob,h.get? a = some ob:=by
 cases o with
 | lst xs=>obtain ⟨_,_,_,_,e⟩:=x; exact ⟨_,e⟩
 | tup xs=>obtain ⟨_,_,_,p⟩:=x; obtain ⟨ob,e,_⟩:=p; exact ⟨ob,e⟩
 | dK kvs=>obtain ⟨_,_,_,_,o,_,_,e,_⟩:=x; exact ⟨_,e⟩
 | dT kvs=>obtain ⟨_,_,_,_,o,_,_,e,_⟩:=x; exact ⟨_,e⟩
 | set S n=>obtain ⟨o,_,_,_,e,_⟩:=x; exact ⟨_,e⟩
 | ins C dx fs=>obtain ⟨_,_,_,e,_⟩:=x; exact ⟨_,e⟩
 | own y=>exact x
 | xd fs=>obtain ⟨_,⟨_,_,_,e,_⟩,_⟩:=x; exact ⟨_,e⟩
 | rng lo hi=>obtain ⟨_,_,_,e⟩:=x; exact ⟨_,e⟩
 | frz ob u=>obtain ⟨e,_⟩:=x; exact ⟨_,e⟩
 | tbl ps=>exact ⟨_,(show h.get? a = some _ from x)⟩
 | met f y=>exact ⟨_,(show h.get? a = some _ from x)⟩
 | ext φ=>obtain ⟨_,e,_⟩:=x; exact e
theorem landed {s':Shared} {H2:Hp} {B h5:Heap} {ea C:Addr} {a0:Value} (I:Inv X pins τ H s) (hos:s'.os = s.os) (hbare:AllBare s'.gens) (ux:UnX X.stack H H2 s.heap B s'.heap) (hok:HOk X.prog X.w H2 B) (fl:Heap.FlyingW B X.stack ea (.ref C) a0 h5) (sm:s'.heap.UpToSlots h5) :
  H2 ea = none∧Inv X pins τ (upd H2 ea (.ext (excφ ea C))) { s' with heap:=h5 }:=by
 obtain ⟨f1,f2,f3,oe,vs,T,oT,ts,he,⟨hc,h0⟩,hd,_⟩:=fl
 have h2:H2 ea = none:=by
  cases e:H2 ea with
  | none=>rfl
  | some o =>
   obtain ⟨ob,q⟩:=objOk_there (hok ea o e)
   rw [f2] at q; cases q
 have nofield:∀ {b:Addr} {o:Obj},b∈frs X.stack→s.heap.get? b = some o→∀ vs,o.data≠.fields vs:=fun hb e vs z=>by
  obtain ⟨_,o',ho,hdd⟩:=I.stack.mem hb
  rw [e] at ho; cases ho
  exact hdd vs z
 have slot5:∀ b o,s.heap.get? b = some o→H b = none→b∈frs X.stack→∃ sl,h5.get? b = some { o with slots:=sl }:=fun b o e n hb=>by
  obtain ⟨sl,e1⟩:=ux.slot b o e n hb
  obtain ⟨sl2,e2⟩:=sm b _ e1 (fun vs z=>nofield hb e vs z)
  exact ⟨sl2,e2⟩
 have ne:∀ b o,s.heap.get? b = some o→H b = none→b≠ea:=fun b o e n z=>by
  subst z
  by_cases hb:b∈frs X.stack
  ·obtain ⟨sl,e1⟩:=slot5 b o e n hb
   rw [he] at e1
   have:=Option.some.inj e1
   subst this
   exact nofield hb e vs hd
  ·have:=ux.keep b o e n hb
   rw [f2] at this; cases this
 have neB:∀ {b:Addr} {o:HO},H2 b = some o→b≠ea:=fun e z=>by rw [z,h2] at e; cases e
 have up:∀ {b:Addr} {o:HO},H2 b = some o→upd H2 ea (.ext (excφ ea C)) b = some o:=fun e=>by rw [upd_ne (neB e)]; exact e
 refine ⟨h2,I.call' (ch:=[]) hos ⟨fun b o e n hb _=>f1 b o (ux.keep b o e n hb),fun b o e n hb _=>slot5 b o e n hb,fun b o e n _=>?_,fun b o e _=>?_,fun b xs q=>up (ux.tups b xs q),fun b o u q=>up (ux.frzs b o u q),fun b ps q=>?_⟩ (fun a o e=>?_) hbare (fun b hb=>by cases hb)⟩
 ·rw [upd_ne (ne b o e n)]; exact ux.free b o e n
 ·cases n:H b with
  | none =>
   by_cases hb:b∈frs X.stack
   ·obtain ⟨sl,e1⟩:=slot5 b o e n hb; exact ⟨_,e1⟩
   ·exact ⟨o,f1 b o (ux.keep b o e n hb)⟩
  | some v =>
   obtain ⟨o',e1⟩:=ux.there b o e (by rw [n]; exact fun z=>by cases z)
   exact ⟨o',f1 b o' e1⟩
 ·obtain ⟨m,e1⟩:=ux.tbls b ps q
  exact ⟨m,up e1⟩
 ·by_cases ha:a = ea
  ·subst ha
   rw [upd_same] at e
   cases e
   exact ⟨⟨oe,vs,he,hc,hd⟩,⟨oe,he⟩,fun h1 h2 ⟨o,vs,q1,q2,q3⟩ k=>⟨o,vs,k o q1,q2,q3⟩⟩
  ·rw [upd_ne ha] at e
   exact (hok a o e).stay (fun b u _ q=>f1 b u q) (fun b q=>up q) fun b xs q=>up q
end
end G
namespace G
open PySem PySem.Spec PyProof.Rows L2
@[reducible] def cxM (X:Cx) (ea:Addr):Cx:={ X with A:=X.A.mark (some (.ref ea)),calm:=false,xe:=fun _ _=>False }
section
variable {X:Cx} {pins:List (Addr × Obj)} {H0 Hs0 Hs H:Hp} {σ:PSt} {τ:L2.St} {s:Shared} {ea:Addr}
theorem inv_mark (I:Inv X pins τ H s):Inv (cxM X ea) pins τ H s :=
 ⟨⟨I.ok.mod,I.ok.kind,I.ok.glob,I.ok.blt,I.ok.above,I.ok.inj,I.ok.has,I.ok.cab,(fun z=>nomatch z),I.ok.frames,I.ok.stk,I.ok.exf,I.ok.bs,I.ok.bsz,I.ok.noex,I.ok.exfs,I.ok.funs,I.ok.frf⟩,I.os,I.bare,I.base,I.loc,I.cell,I.free,I.freeC,I.pin,I.hok,I.len⟩
theorem inv_unmark (hX:X.Ok) (I:Inv (cxM X ea) pins τ H s):Inv X pins τ H s:=⟨hX,I.os,I.bare,I.base,I.loc,I.cell,I.free,I.freeC,I.pin,I.hok,I.len⟩
theorem SR.unset {K:PySem.W.Frag} (S:SR K H0 Hs0 Hs H σ τ) (i:Nat):SR K H0 Hs0 Hs H (σ.set i none) (τ.set i none):=by
 have get:∀ {j:Nat} {sv:SV},(σ.set i none)[j]? = some (some sv)→j≠i∧σ[j]? = some (some sv):=fun {j sv} e=>by
  rcases set_some e with ⟨_,z,_⟩ | ⟨h,e'⟩
  ·cases z
  ·exact ⟨h,e'⟩
 refine ⟨S.g,fun j sv e=>?_,fun j k xs ys ad hjk e1 e2 e3=>?_,by rw [List.length_set,List.length_set]; exact S.len⟩
 ·obtain ⟨hj,e'⟩:=get e
  obtain ⟨v,e1,r⟩:=S.slot j sv e'
  exact ⟨v,by rw [List.getElem?_set_ne (Ne.symm hj)]; exact e1,r⟩
 ·obtain ⟨hj,e1'⟩:=get e1
  obtain ⟨hk,e2'⟩:=get e2
  rw [List.getElem?_set_ne (Ne.symm hj)] at e3
  rw [List.getElem?_set_ne (Ne.symm hk)]
  exact S.inj j k xs ys ad hjk e1' e2' e3
theorem run_call {x:Str} {p pos:Pos} {e:Expr} {es:List Expr} {m:List PV→Res PV} {ra:DA} {qs:List PV} {Q:VK} {E:XK} (F:FunIs X x m) (hg:Gl X x) (ha:QA X.nox H0 Hs0 (e::es) ra)
  (hdb:(x == ("__debug__":Str)) = false) (he:starEach (e::es) X.env = (false,eval e X.env)::starEach es X.env) (hpl:(backTo pos (starEach es X.env)).any (·.1) = false)
  (I:Inv X pins τ H s) (S:SR X.K H0 Hs0 Hs H σ τ) (hps:ra σ = .ok qs)
  (hq:∀ vs Hs1 H1,Grow Hs H Hs1 H1→Reps X.K Hs1 vs qs→Ret X.K Hs1 H1 (m qs) (fun c=>∀ (C:Addr) (Hs2 H2:Hp),ClsIs X.K c C→Grow Hs1 H1 Hs2 H2→E (.ref C) none H2) Q) :
  wpAny (model X.prog X.w) X.A (eval (.Call (.Name x p) (e::es) [] pos) X.env) (EP X pins τ Q) (fun e s'=>∃ H1 s1,Inv X pins τ H1 s1∧CXG X.prog X.w X.stack H1 s1 E e s') s:=by
 obtain ⟨a,fd,ps,k,hm,hk,hb,hr,har,F⟩:=F.ex
 refine wpAny_Call_Name_kw (ld_glob I hg hm ?_ hdb)
 refine PySem.W.callWith_K (h₀:=X.base) I.ok.mod.kin hk (wpAny_mono (ha pos pins s τ H (fun vs H1=>∃ Hs1,Grow Hs H Hs1 H1∧Reps X.K Hs1 vs qs) (I.wish _) ⟨Hs,σ,S,by rw [hps]; exact fun vs Hs' H' g r=>⟨Hs',g,r⟩⟩)
  (fun us s1 ⟨vs,H1,I1,r,Hs1,g1,r1⟩=>⟨I1.unwish.kIn,?_⟩) fun _ _ z=>z.elim) he hpl
 have I1:=I1.unwish
 have hq1:=hq vs Hs1 H1 g1 r1
 have hl:qs.length = ps.length:=by
  by_cases hl:qs.length = ps.length
  ·exact hl
  ·rw [har qs hl] at hq1; exact hq1.elim
 have r2:Vals (vs++[]) (us++[]):=r.append .nil
 have hul:(us++[]).length = ps.length:=by rw [← r2.length,List.append_nil,r1.length,hl]
 refine wpAny_call (codeAny_mono (F.run X.A X.stack s1 H1 ⟨us,[]⟩ (us++[]) (vs++[]) Q E hr I1.env0 (hb s1 us I1.kIn hul) r2 ⟨by rw [List.append_nil,r1.length,hl],Hs1,qs,g1.i,by rw [List.append_nil]; exact r1,hq1⟩) fun r s' hq=>?_)
 cases r with
 | error e=>exact ⟨H1,s1,I1,hq⟩
 | ok fl =>
  cases fl with
  | ret u=>exact I1.after hq
  | next=>exact False.elim hq
  | brk=>exact False.elim hq
  | cont=>exact False.elim hq
end
structure Caught (K:PySem.W.Frag) (g:Str) (cs:List Str):Prop where
 h:∀ c∈cs,∃ (G C:Addr),ClsIs K g G∧ClsIs K c C∧PySem.W.exmOne K (.ref C) (.ref G) = some true
section
variable {X:Cx} {H0 Hs0:Hp}
end
end G
namespace G
open PySem PySem.Spec PyProof.Rows L2
section
open PySem.W PySem.Calls Builtin Builtin.ObjectAttr Builtin.Getset_descriptor
variable {prog:Program} {w:World} {A:Around} {s:Shared} {K:Frag} {x C:Addr} {R:Result→Shared→Prop}
theorem class_getL {tp:Value} (X:K.In s.heap) (L0:Looks (model prog w) s.heap (typeOf (.ref x)) (.ref C)) (hm:mroIn K C (.type "object") = some true)
  (h:R (.ok (.ret (.ref C))) s):codeAny (model prog w) A (.call (.builtin "getset_descriptor.__get__") ⟨[.builtin "object.__class__",.ref x,tp],[]⟩) R s:=by
 obtain ⟨hh,g,dr,t,os⟩:=s
 have L1:=looks_mroIn (M:=model prog w) X hm
 refine codeAny_call_builtin KF.slot_gs.plain KF.entry_gs (KF.slot_gs.check _ _ _ _ _ _ _ _ KF.type_class (KF.args_gs _ _ _) ?_)
 unfold Builtin.«getset_descriptor.__get__» descrGet
 rw [dga_obj]
 refine wpAny_bind (wpAny_pure ?_)
 unfold descrGetter descrCheckInstance descrNameAndClass isInstance
 simp only [KF.owner_class]
 repeat lk
 refine ⟨Code.quiet_builtin _ (by decide +kernel),codeAny_builtin KF.entry_class ?_⟩
 unfold Builtin.«object.__class__» shownTypeOf
 repeat lk
 exact h
theorem find_data {M:Model} {h:Heap} {name:Str} {a g:Value} (X:K.In h) (ha:findIn K (.ref C) name = some (some a)) (hg:specialIn K a "__get__" = some (some g)) (ht:takesIn K a = some true):Looks M h (find (.ref x) (.ref C) name) (.bind g a):=by
 have L1:=looks_findIn (M:=M) X ha
 have L2:Looks M h (getOf (some a)) (some g):=looks_specialIn X hg
 have L3:=looks_takesIn (M:=M) X ht
 exact L1.andThen (L2.andThen ((show Looks M h (dataDescriptor? (some a) (some g)) (some (g,a)) from L3.andThen .now).andThen (Looks.tag .now)))
end
section
variable {prog:Program} {w:World} {A:Around} {E:Value→Shared→Prop} {s:Shared} {K:PySem.W.Frag} {x C:Addr} {ox:Obj}
theorem exc_class {Q:Option Value→Shared→Prop} (hc:(PySem.W.clsIn K C).isSome = true) (hga:PySem.W.findIn K (.ref C) "__getattribute__" = some (some (.builtin "BaseException.__getattribute__"))) (hk:PySem.W.findIn K (.ref C) "__getattr__" = some none)
  (ha:PySem.W.findIn K (.ref C) "__class__" = some (some (.builtin "object.__class__"))) (hn:PySem.W.specialIn K (.builtin "object.__class__") "__get__" = some (some (.builtin "getset_descriptor.__get__"))) (htk:PySem.W.takesIn K (.builtin "object.__class__") = some true) (hm:PySem.W.mroIn K C (.type "object") = some true)
  (hb:PySem.W.mroIn K C (.type "BaseException") = some true)
  (X:K.In s.heap) (L0:PySem.W.Looks (model prog w) s.heap (typeOf (.ref x)) (.ref C)) (h:Q (some (.ref C)) { s with toks:=s.toks + 1 }):wpAny (model prog w) A (getAttr? (.ref x) "__class__") Q E s:=by
 obtain ⟨hh,g,d,t,os⟩:=s
 have L1:=PySem.W.looks_findIn (M:=model prog w) X hga
 have L2:=PySem.W.looks_findIn (M:=model prog w) X hk
 have LF:=find_data (M:=model prog w) X ha hn htk (x:=x)
 have LB:=PySem.W.looks_mroIn (M:=model prog w) X hb
 have hx2:(Value.builtin "BaseException.__getattribute__" == Value.builtin "object.__getattribute__") = false:=by decide +kernel
 unfold getAttr? getAttrBy? getAttrBy
 refine wpAny_bind (wpAny_mkText (wpAny_bind (wpAny_attempt (wpAny_holding (wpAny_bind (L0.at (wpAny_bind (L1.at ?_))))))))
 dsimp only
 rw [hx2,Bool.and_false,if_neg Bool.false_ne_true]
 unfold getAttrByItsOwn
 refine wpAny_bind (show wpAny _ _ (typeLookup (.ref C) "__getattr__") _ _ _ from L2.at ?_)
 refine wpAny_bind (wpAny_attempt (wpAny_holding ?_))
 show wpAny _ _ (boundAndCalled _ _ _) _ _ _
 unfold boundAndCalled
 refine wpAny_bind (wpAny_of_eq (PySem.F.attr_ValueError.ga.bind (.ref x)) ?_)
 refine wpAny_call (codeAny_call_builtin PySem.F.attr_ValueError.ga.plain PySem.F.entry_bexc_ga ?_)
 have hk1:builtinKind "BaseException.__getattribute__" = some .slot:=by decide +kernel
 have hsplit:splitId "BaseException.__getattribute__" = some ("BaseException","__getattribute__"):=by decide +kernel
 have hargs:=PySem.F.args_bexc_ga (.ref x) (.str "__class__" t)
 have LI:PySem.W.Looks (model prog w) hh (isInstance (.ref x) (.type "BaseException")) true:=L0.andThen LB
 simp only [List.singleton_append,checkBuiltinCall,hk1,hsplit]
 refine wpAny_bind ?_
 refine LI.at ?_
 simp only [Bool.not_true,Bool.false_eq_true,if_false]
 refine wpAny_of_eq hargs ?_
 show wpAny _ _ (Builtin.«object.__getattribute__» _) _ _ _
 unfold Builtin.«object.__getattribute__»
 repeat (any_goals (first | assumption | with_reducible refine L0.at ?_ | with_reducible refine LF.at ?_ | wp_step))
 refine class_getL X L0 hm ?_
 exact wpAny_pure (PySem.W.handed_on rfl (wpAny_pure h))
end
end G
namespace G
open PySem PySem.Spec PyProof.Rows L2
open PySem.W (clsIn findIn specialIn takesIn mroIn kitOne kitAny KitX Looks)
def excOk (K:PySem.W.Frag) (C:Addr):Bool:=(clsIn K C).isSome && findIn K (.ref C) "__getattribute__" == some (some (.builtin "BaseException.__getattribute__")) && findIn K (.ref C) "__getattr__" == some none
 && findIn K (.ref C) "__class__" == some (some (.builtin "object.__class__")) && specialIn K (.builtin "object.__class__") "__get__" == some (some (.builtin "getset_descriptor.__get__")) && takesIn K (.builtin "object.__class__") == some true
 && mroIn K C (.type "object") == some true && mroIn K C (.type "BaseException") == some true
def ExcHere (x C:Addr) (h:Heap):Prop:=∃ o,h.get? x = some o∧o.cls = .ref C
theorem ExcHere.ty {M:Model} {x C:Addr} {h:Heap} (p:ExcHere x C h):Looks M h (typeOf (.ref x)) (.ref C):=by
 obtain ⟨o,h1,h2⟩:=p
 exact h2 ▸ (Looks.ld h1).andThen .now
theorem kitx_exc {K:PySem.W.Frag} {x C:Addr} (q:excOk K C = true):KitX K (.ref x) (.ref C) (ExcHere x C):=by
 unfold excOk at q
 simp only [Bool.and_eq_true,beq_iff_eq] at q
 obtain ⟨⟨⟨⟨⟨⟨⟨hc,hga⟩,hk⟩,ha⟩,hn⟩,htk⟩,hm⟩,hb⟩:=q
 refine ⟨fun M h _ p=>p.ty,fun M h X _=>?_,fun h tp dd its n sl X htp=>?_,fun {_ _ _ _ _ s} X p k=>exc_class hc hga hk ha hn htk hm hb X p.ty k⟩
 ·obtain ⟨cd,hcd⟩:=Option.isSome_iff_exists.mp hc
  unfold clsIn at hcd
  split at hcd
  ·rename_i c' d' cd' sl' ho
   intro A' Q' E' s' k q
   unfold isType loadHead
   exact wpAny_bind (wpAny_loadPart (k _ _ (X _ _ ho)) (wpAny_pure q))
  ·cases hcd
 ·obtain ⟨cd,hcd⟩:=Option.isSome_iff_exists.mp hc
  refine Bool.eq_false_iff.mpr fun q=>?_
  have e:C = tp:=Value.ref.inj (beq_iff_eq.mp q)
  subst e
  unfold clsIn at hcd
  split at hcd
  ·rename_i c' d' cd' sl' ho
   have z:=(X _ _ ho).symm.trans htp
   cases z
  ·cases hcd
structure IsTab (K:PySem.W.Frag) (t:List Value) (tab:List (Str × Bool)):Prop where
 non:kitAny K (.type "NoneType") t = some false
 exc:∀ c b,tab.lookup c = some b→∃ C:Addr,ClsIs K c C∧excOk K C = true∧kitAny K (.ref C) t = some b
def pIsiX (tab:List (Str × Bool)):PV→Res PV
 | .non=>.ok (.bl false)
 | .exc c=>match tab.lookup c with
  | some b=>.ok (.bl b)
  | none=>.stuck
 | _=>.stuck
theorem pIsiX_e {tab:List (Str × Bool)} {c:Str}:pIsiX tab (.exc c) = (match tab.lookup c with
  | some b=>Res.ok (PV.bl b)
  | none=>Res.stuck):=rfl
theorem kitAny_one {K:PySem.W.Frag} {t c:Value} {b:Bool} (h:kitAny K t [c] = some b):kitOne K t c = some b:=by
 unfold kitAny at h
 split at h
 ·rename_i e; rw [e]; cases h; rfl
 ·rename_i e; rw [e]; cases h; rfl
 ·cases h
section
variable {X:Cx} {pins:List (Addr × Obj)} {τ:L2.St} {Hs H:Hp} {s:Shared} {Q:Value→Shared→Prop} {E:Value→Shared→Prop} {x:V} {u:Value} {p:PV} {tab:List (Str × Bool)} {b:Bool}
theorem exc_here {a C:Addr} (I:Inv X pins τ H s) (h:H a = some (.ext (excφ a C))):ExcHere a C s.heap:=by
 obtain ⟨⟨o,vs,h1,h2,_⟩,_⟩:=I.hok a _ h
 exact ⟨o,h1,h2⟩
theorem isx_one {t:Value} (I:Inv X pins τ H s) (i:Same Hs H) (rx:RelV x u) (r:Rep X.K Hs x p) (T:IsTab X.K [t] tab) (hb:pIsiX tab p = .ok (.bl b)) (h:∀ tk,Q (.bool b) { s with toks:=tk }) :
  wpAny (model X.prog X.w) X.A (call (.builtin "isinstance") [u,t]) Q E s:=by
 cases r with
 | non =>
  cases hb
  cases (show u = Value.none from rx)
  exact PySem.W.kia_one PySem.W.kitx_none I.kIn True.intro (kitAny_one T.non) (fun z=>nomatch z) h
 | @exc a C c hl hc =>
  have hb:(match tab.lookup c with
   | some b=>Res.ok (PV.bl b)
   | none=>Res.stuck) = Res.ok (PV.bl b):=hb
  cases e:tab.lookup c with
  | none=>rw [e] at hb; cases hb
  | some b' =>
   rw [e] at hb
   cases hb
   obtain ⟨C',h1,h2,h3⟩:=T.exc c b e
   have eC:C' = C:=by
    have:=h1.symm.trans hc
    injection this with this
    injection this with this
    injection this
   subst eC
   cases (show u = Value.ref a from rx)
   exact PySem.W.kia_one (kitx_exc h2) I.kIn (exc_here I (i _ _ hl)) (kitAny_one h3) (fun z=>nomatch z) h
 | _=>cases hb
theorem isx_tup {tp:Addr} {ts:List Value} (I:Inv X pins τ H s) (i:Same Hs H) (rx:RelV x u) (r:Rep X.K Hs x p) (ht:IsTup s.heap tp ts.toArray) (T:IsTab X.K ts tab) (hb:pIsiX tab p = .ok (.bl b)) (h:∀ tk,Q (.bool b) { s with toks:=tk }) :
  wpAny (model X.prog X.w) X.A (call (.builtin "isinstance") [u,.ref tp]) Q E s:=by
 obtain ⟨o,ho,hoc,n,hod⟩:=ht
 obtain ⟨oc,od,oda,osl⟩:=o
 dsimp only at hoc hod
 subst hoc hod
 cases r with
 | non =>
  cases hb
  cases (show u = Value.none from rx)
  exact PySem.W.kia_tup PySem.W.kitx_none I.kIn True.intro ho T.non (fun z=>nomatch z) h
 | @exc a C c hl hc =>
  have hb:(match tab.lookup c with
   | some b=>Res.ok (PV.bl b)
   | none=>Res.stuck) = Res.ok (PV.bl b):=hb
  cases e:tab.lookup c with
  | none=>rw [e] at hb; cases hb
  | some b' =>
   rw [e] at hb
   cases hb
   obtain ⟨C',h1,h2,h3⟩:=T.exc c b e
   have eC:C' = C:=by
    have:=h1.symm.trans hc
    injection this with this
    injection this with this
    injection this
   subst eC
   cases (show u = Value.ref a from rx)
   exact PySem.W.kia_tup (kitx_exc h2) I.kIn (exc_here I (i _ _ hl)) ho h3 (fun z=>nomatch z) h
 | _=>cases hb
end
section
variable {X:Cx} {H0 Hs0:Hp} {a:Expr} {da:DE} {pos p1 p2:Pos} {tab:List (Str × Bool)}
theorem isx_ok {p:PV} {Hs H:Hp} {Q:VK} (h:Ret X.K Hs H (pIsiX tab p) (ErrOk X H0 Hs0) Q) (i:Same Hs H):∃ b,pIsiX tab p = .ok (.bl b)∧Q (.bl b) H:=by
 have key:(∃ b,pIsiX tab p = .ok (.bl b))∨pIsiX tab p = .stuck:=by
  cases p with
  | non=>exact .inl ⟨false,rfl⟩
  | exc c =>
   cases e:tab.lookup c with
   | none=>exact .inr (by rw [pIsiX_e,e])
   | some b=>exact .inl ⟨b,by rw [pIsiX_e,e]⟩
  | _=>exact .inr rfl
 rcases key with ⟨b,e⟩ | e
 ·rw [e] at h; exact ⟨b,e,ret_bl h i⟩
 ·rw [e] at h; exact h.elim
theorem q_isx {x:Str} {t:V} {tv:Value} (ha:QE X H0 Hs0 a da) (hc:PE X (.Name x p2) (tC t)) (rt:RelV t tv) (ut:∀ u,RelV t u→u = tv) (T:IsTab X.K [tv] tab) (hg:Gl X "isinstance") (hm:X.mg "isinstance" = none)
  (h1:starEach [a,.Name x p2] X.env = (false,eval a X.env)::starEach [.Name x p2] X.env) (h2:starEach [.Name x p2] X.env = [(false,eval (.Name x p2) X.env)])
  (hpl:(backTo pos (starEach [.Name x p2] X.env)).any (·.1) = false):QE X H0 Hs0 (.Call (.Name "isinstance" p1) [a,.Name x p2] [] pos) (e1 (pIsiX tab) da):=by
 have cr:CallR X (.builtin "isinstance") (fun xs H Q=>∃ Hs y p b,xs = [y,t]∧Same Hs H∧Rep X.K Hs y p∧pIsiX tab p = .ok (.bl b)∧Q (.bl b) H):=by
  intro pins s σ H xs us Q I r ⟨Hs,y,p,b,e,i,rp,hb,q⟩
  subst e
  cases r with
  | cons r1 r2 =>
   cases r2 with
   | cons r3 r4 =>
    cases r4
    cases ut _ r3
    exact isx_one I i r1 rp T hb fun tk=>⟨.bl _,H,I.tok tk,rfl,q⟩
 exact PE.imp (pe_callB cr hg hm boot_isi (pa_cons ha (pa_cons hc pa_nil h2) h1) (by decide) (by decide) h1 hpl) fun τ H Q h =>
  RE.mono (one h) fun y H1 ⟨Hs,p,i,r,h1⟩=>by
   obtain ⟨b,e,q⟩:=isx_ok h1 i
   exact ⟨Hs,y,p,b,rfl,i,r,e,q⟩
inductive ClsL (K:PySem.W.Frag):List Str→List Addr→Prop
 | nil:ClsL K [] []
 | cons {x:Str} {C:Addr} {xs:List Str} {Cs:List Addr}:ClsIs K x C→ClsL K xs Cs→ClsL K (x::xs) (C::Cs)
theorem vals_refs:∀ {Cs:List Addr} {us:List Value},Vals (Cs.map V.ref) us→us = Cs.map Value.ref
 | [],_,.nil=>rfl
 | C::Cs,_,.cons r t=>by
  cases (show _ = Value.ref C from r)
  rw [vals_refs t]
  rfl
def tRefs (Cs:List Addr):TA:=fun _ H Q=>Q (Cs.map V.ref) H
theorem pa_refs:∀ {es:List Expr} {Cs:List Addr},(∀ (i:Nat) (e:Expr) (C:Addr),es[i]? = some e→Cs[i]? = some C→PE X e (tC (.ref C)))→es.length = Cs.length→(∀ i,starEach (es.drop i) X.env = (es.drop i).map fun e=>(false,eval e X.env))→PA X es (tRefs Cs)
 | [],[],_,_,_=>pa_nil
 | e::es,C::Cs,h,hl,hs=>by
  have h1:=h 0 e C rfl rfl
  have h2:=pa_refs (es:=es) (Cs:=Cs) (fun i e' C' a b=>h (i + 1) e' C' (by simpa using a) (by simpa using b)) (by simpa using hl) (fun i=>by have:=hs (i + 1); simpa using this)
  have s0:=hs 0
  have s1:=hs 1
  simp only [List.drop_zero,List.map_cons] at s0
  simp only [List.drop_succ_cons,List.drop_zero] at s1
  exact fun pos pins s σ H Q I q=>pa_cons h1 h2 (by rw [s0,s1]) pos pins s σ H Q I q
theorem q_isxt {es:List Expr} {Cs:List Addr} {k:Nat} {tp:Pos} (ha:QE X H0 Hs0 a da) (hc:PA X es (tRefs Cs)) (hz:Cs.length≤1000) (T:IsTab X.K (Cs.map Value.ref) tab) (hg:Gl X "isinstance") (hm:X.mg "isinstance" = none)
  (h1:starEach [a,.Tuple es k tp] X.env = (false,eval a X.env)::starEach [.Tuple es k tp] X.env) (h2:starEach [.Tuple es k tp] X.env = [(false,eval (.Tuple es k tp) X.env)])
  (hpl:(backTo pos (starEach [.Tuple es k tp] X.env)).any (·.1) = false):QE X H0 Hs0 (.Call (.Name "isinstance" p1) [a,.Tuple es k tp] [] pos) (e1 (pIsiX tab) da):=by
 have cr:CallR X (.builtin "isinstance") (fun xs H Q=>∃ Hs y q p b,xs = [y,.ref q]∧Same Hs H∧Rep X.K Hs y p∧H q = some (.tup (Cs.map V.ref))∧pIsiX tab p = .ok (.bl b)∧Q (.bl b) H):=by
  intro pins s σ H xs us Q I r ⟨Hs,y,q,p,b,e,i,rp,hq,hb,k⟩
  subst e
  cases r with
  | cons r1 r2 =>
   cases r2 with
   | cons r3 r4 =>
    cases r4
    cases (show _ = Value.ref q from r3)
    obtain ⟨z,its,rv,ht⟩:=I.hok q _ hq
    cases vals_refs rv
    exact isx_tup I i r1 rp ht T hb fun tk=>⟨.bl _,H,I.tok tk,rfl,k⟩
 exact PE.imp (pe_callB cr hg hm boot_isi (pa_cons ha (pa_cons (pe_tup hc) pa_nil h2) h1) (by decide) (by decide) h1 hpl) fun τ H Q h =>
  RE.mono (one h) fun y H1 ⟨Hs,p,i,r,h1⟩=>by
   obtain ⟨b,e,_⟩:=isx_ok h1 i
   refine ⟨small7 (by rw [List.length_map]; omega),fun q hq=>⟨Hs,y,q,p,b,rfl,i.trans (same_upd hq),r,upd_same,e,?_⟩⟩
   rw [e] at h1
   exact h1 _ (upd Hs q _) _ (.new i hq) (.bl b)
end
end G
namespace G
open PySem PySem.Spec PyProof.Rows L2
open PySem.W (kitAny)
def finE:Res Fl→Res PV
 | .ok (.ret p)=>.ok p
 | .ok (.next _)=>.ok .non
 | .err c=>.err c
 | _=>.stuck
def runE (n m:Nat) (d:DS) (ps:List PV):Res PV:=if ps.length = n then finE (d (start0 m ps)) else .stuck
theorem runE_eq {n m:Nat} {d:DS} {ps:List PV} (h:ps.length = n):runE n m d ps = finE (d (start0 m ps)):=if_pos h
theorem runE_ne {n m:Nat} {d:DS} {ps:List PV} (h:ps.length≠n):runE n m d ps = .stuck:=if_neg h
section
variable {P:Program} {w:World} {K:PySem.W.Frag} {mg:Str→Option Value} {base h:Heap}
theorem fn_okE {x qual:Str} {st:Stmt} {f:Addr} {fd:FuncData} {N ps:List Str} {k:Nat} {d:DS} (F:Fun K x qual st f fd) (S:FnScope N ps (defScope st))
  (hbody:∀ (cdv:Value) (A:Around) (outer:List Env) (s:Shared) (H Hs:Hp) (E:XK),Room k (A.deeper (envOfC qual (defScope st) s.heap.objs.size f cdv)) →
   QSs (cxOf (CXG P w) P w K mg base N qual (defScope st) f cdv A outer s H E) H Hs (defBody st) d) :
  FnOk P w K mg base (CXG P w) (k + 1) f fd ps (Fsp K ps.length (runE ps.length N.length d)):=by
 have hpl:ps.length≤N.length:=by have:=congrArg List.length S.pre; rw [List.length_take] at this; omega
 refine fun_okX F S (fun vs H Q E h=>h.1) (fun cdv A outer s H vs Q E hr h=>?_)
 obtain ⟨hl,Hs,qs,i,r,h⟩:=h
 refine ⟨_,hbody cdv A outer s H Hs E hr,Hs,start0 N.length qs,SR.start i r (by omega),?_⟩
 rw [runE_eq (by rw [← r.length,hl])] at h
 generalize d (start0 N.length qs) = rr at h ⊢
 cases rr with
 | ok fl =>
  cases fl with
  | next σ'=>exact fun Hs' H' τ' _ S'=>h _ Hs' H' S'.g .non
  | ret p=>exact fun v Hs' H' g rv=>h v Hs' H' g rv
  | brk σ'=>exact h.elim
  | cont σ'=>exact h.elim
 | err c=>exact err_ok fun C Hs1 H1 hc g=>h C Hs1 H1 hc g
 | stuck=>exact h
theorem def_inE {x:Str} {st:Stmt} {N ps:List Str} {k:Nat} {d:DS} (D:DefAt K x st) (KI:K.In h) (GN:h.Ns mainGlobals mg) (S:FnScope N ps (defScope st))
  (hb:∀ (kV doc pm:Value) (an:Option Addr) (cdv ct:Value) (us:List Value),us.length = ps.length→bindArgs (PySem.W.fnOf x x (defArgs st) (defBody st) (defScope st) .none kV doc pm an cdv ct) ⟨us,[]⟩ = pure (ps.zip us))
  (hbody:∀ (f:Addr) (cdv:Value) (A:Around) (outer:List Env) (s:Shared) (H Hs:Hp) (E:XK),Room k (A.deeper (envOfC x (defScope st) s.heap.objs.size f cdv)) →
   XB (cxOf (CXG P w) P w K mg base N x (defScope st) f cdv A outer s H E) H Hs (defBody st) d):FunIn P w K mg base x (k + 1) (runE ps.length N.length d):=by
 obtain ⟨f,fd,a,F⟩:=D.ex
 exact ⟨f,fd,ps,PySem.W.mg_of KI GN a,F.kp,F.binds hb,fun qs h=>runE_ne h,fn_okE F S fun cdv A outer s H Hs E hr=>(hbody f cdv A outer s H Hs E hr).h⟩
end
section
variable {K:PySem.W.Frag} {x g c:Str} {C G:Addr}
theorem exc_at (a:ClsIs K x C) (q:PySem.W.excIn K C [.type "ValueError",.type "Exception",.type "BaseException",.type "object"] "ValueError.__new__" = true):ExcAt K x:=⟨C,a,q⟩
theorem caught0:Caught K g []:=⟨fun c h=>nomatch h⟩
theorem caught1 {cs:List Str} (a:ClsIs K g G) (b:ClsIs K c C) (e:PySem.W.exmOne K (.ref C) (.ref G) = some true) (r:Caught K g cs):Caught K g (c::cs):=⟨fun d hd=>by
 rcases List.mem_cons.mp hd with rfl | hd
 ·exact ⟨G,C,a,b,e⟩
 ·exact r.h d hd⟩
theorem istab0 {t:List Value} (n:kitAny K (.type "NoneType") t = some false):IsTab K t []:=⟨n,fun c b h=>nomatch h⟩
theorem istab1 {t:List Value} {v:Bool} {tab:List (Str × Bool)} (b:ClsIs K c C) (q:excOk K C = true) (e:kitAny K (.ref C) t = some v) (r:IsTab K t tab):IsTab K t ((c,v)::tab):=⟨r.non,fun d w hd=>by
 rw [List.lookup_cons] at hd
 split at hd
 ·rename_i hb
  have:d = c:=by simpa using hb
  subst this
  cases hd
  exact ⟨C,b,q,e⟩
 ·exact r.exc d w hd⟩
structure IsOwn (K:PySem.W.Frag) (g:Str) (tab:List (Str × Bool)):Prop where
 ex:∃ G:Addr,ClsIs K g G∧IsTab K [.ref G] tab
structure IsMany (K:PySem.W.Frag) (gs:List Str) (tab:List (Str × Bool)):Prop where
 ex:∃ Cs:List Addr,ClsL K gs Cs∧IsTab K (Cs.map Value.ref) tab
end
section
variable {X:Cx} {H0 Hs0:Hp} {a:Expr} {da:DE} {es:List Expr} {ra:DA} {pos p1 p2 p:Pos} {tab:List (Str × Bool)} {x g t:Str}
def KGl (X:Cx):Prop:=∀ (y:Str) (C:Addr),ClsIs X.K y C→X.mg y = some (.ref C)
theorem ClsL.get {K:PySem.W.Frag} {gs:List Str} {Cs:List Addr} (h:ClsL K gs Cs):gs.length = Cs.length∧∀ (i:Nat) (y:Str) (C:Addr),gs[i]? = some y→Cs[i]? = some C→ClsIs K y C:=by
 induction h with
 | nil=>exact ⟨rfl,fun i y C h=>by simp at h⟩
 | cons a _ ih =>
  refine ⟨by simp [ih.1],fun i y C e1 e2=>?_⟩
  cases i with
  | zero=>simp at e1 e2; subst e1 e2; exact a
  | succ i=>exact ih.2 i y C (by simpa using e1) (by simpa using e2)
theorem xraise {np cpos cp:Pos} {j} (hx:ExcAt X.K x) (hc:X.calm = true:=by rfl) (hg:Gl X x:=by rfl) (hd:(x == ("__debug__":Str)) = false:=by decide) (hst:X.stack = X.env::X.outer:=by rfl) :
  XS X H0 Hs0 (.Raise (some (.Call (.Name x np) [.Constant (.str t) j cp] [] cpos)) none pos) (sRaise x):=⟨qs_raise hx hc hg hd hst rfl⟩
theorem xcFe {e:Expr} {m:List PV→Res PV} (F:FunIs X x m) (ha:XA X H0 Hs0 (e::es) ra) (hg:Gl X x:=by rfl)
  (hdb:(x == ("__debug__":Str)) = false:=by decide) (he:noStar e = true:=by rfl) (hpl:es.all noStar = true:=by rfl) :
  XE X H0 Hs0 (.Call (.Name x p) (e::es) [] pos) (eA m ra):=⟨q_callE F hg ha.h hdb (star_cons he) (star_any hpl)⟩
theorem xisb {T:String} (ha:XE X H0 Hs0 a da) (hx:bootBuiltins x = some (.type T)) (I:IsTab X.K [.type T] tab) (hm:X.mg "isinstance" = none) (hm2:X.mg x = none) (hg:Gl X "isinstance":=by rfl) (hg2:Gl X x:=by rfl) (hn:x≠"__name__":=by decide)
  (hdb:(x == ("__debug__":Str)) = false:=by decide) (h1:noStar a = true:=by rfl):XE X H0 Hs0 (.Call (.Name "isinstance" p1) [a,.Name x p2] [] pos) (e1 (pIsiX tab) da) :=
 ⟨q_isx ha.h (pe_bltn (v:=.ty T) hg2 hm2 hx rfl hn hdb) rfl (fun u r=>r) I hg hm (star_cons h1) rfl rfl⟩
theorem xiso (ha:XE X H0 Hs0 a da) (I:IsOwn X.K g tab) (KG:KGl X) (hm:X.mg "isinstance" = none) (hg:Gl X "isinstance":=by rfl) (hg2:Gl X g:=by rfl)
  (hdb:(g == ("__debug__":Str)) = false:=by decide) (h1:noStar a = true:=by rfl):XE X H0 Hs0 (.Call (.Name "isinstance" p1) [a,.Name g p2] [] pos) (e1 (pIsiX tab) da):=by
 obtain ⟨G,hG,T⟩:=I.ex
 exact ⟨q_isx ha.h (pe_glob (v:=.ref G) hg2 (KG g G hG) rfl hdb) rfl (fun u r=>r) T hg hm (star_cons h1) rfl rfl⟩
def namesOf:List Expr→Option (List Str)
 | []=>some []
 | .Name x _::r=>(namesOf r).map (x::·)
 | _=>none
theorem namesOf_get:∀ {es:List Expr} {gs:List Str},namesOf es = some gs→es.length = gs.length∧∀ (i:Nat) (e:Expr),es[i]? = some e→∃ y q,e = .Name y q∧gs[i]? = some y
 | [],gs,h=>by cases h; exact ⟨rfl,fun i e h=>by simp at h⟩
 | .Name x q::r,gs,h=>by
  unfold namesOf at h
  cases e:namesOf r with
  | none=>rw [e] at h; cases h
  | some ys =>
   rw [e] at h
   cases h
   obtain ⟨h1,h2⟩:=namesOf_get e
   refine ⟨by simp [h1],fun i e' he=>?_⟩
   cases i with
   | zero=>simp at he; subst he; exact ⟨x,q,rfl,rfl⟩
   | succ i=>obtain ⟨y,q',a,b⟩:=h2 i e' (by simpa using he); exact ⟨y,q',a,by simpa using b⟩
def glAll (X:Cx) (gs:List Str):Bool:=gs.all fun y=>X.env.kindOf y == some .globalImplicit && !(y == ("__debug__":Str))
theorem star_map {env:Env}:∀ {es:List Expr},es.all noStar = true→starEach es env = es.map fun e=>(false,eval e env)
 | [],_=>rfl
 | e::es,h=>by
  rw [List.all_cons,Bool.and_eq_true] at h
  rw [star_cons h.1,star_map h.2]
  rfl
theorem all_drop {es:List Expr} (h:es.all noStar = true) (i:Nat):(es.drop i).all noStar = true:=List.all_eq_true.mpr fun e he=>List.all_eq_true.mp h e (List.mem_of_mem_drop he)
theorem xist {k:Nat} {tp:Pos} {gs:List Str} (ha:XE X H0 Hs0 a da) (I:IsMany X.K gs tab) (KG:KGl X) (hm:X.mg "isinstance" = none) (hn:namesOf es = some gs:=by rfl) (hgl:glAll X gs = true:=by rfl) (hz:gs.length≤1000:=by decide) (hst:es.all noStar = true:=by rfl)
  (hg:Gl X "isinstance":=by rfl) (h1:noStar a = true:=by rfl):XE X H0 Hs0 (.Call (.Name "isinstance" p1) [a,.Tuple es k tp] [] pos) (e1 (pIsiX tab) da):=by
 obtain ⟨Cs,hL,T⟩:=I.ex
 obtain ⟨l1,l2⟩:=hL.get
 obtain ⟨l3,l4⟩:=namesOf_get hn
 refine ⟨q_isxt ha.h (pa_refs (fun i e C he hC=>?_) (l3.trans l1) fun i=>star_map (all_drop hst i)) (by omega) T hg hm (star_cons h1) rfl rfl⟩
 obtain ⟨y,q,rfl,hy⟩:=l4 i e he
 have hq:=List.all_eq_true.mp hgl y (List.mem_of_getElem? hy)
 rw [Bool.and_eq_true,beq_iff_eq,Bool.not_eq_true'] at hq
 exact pe_glob (v:=.ref C) hq.1 (KG y C (l2 i y C hy hC)) rfl hq.2
end
end G
namespace G
open PySem PySem.Spec PyProof.Rows L2
section
variable {g:PV→PV→Res PV} {h:PV→Res PV} {a b:DE} {r:DA} {σ:PSt} {s t:DT} {c d:DS} {i j:Int}
@[simp] theorem bind_ok' {α β:Type} (x:α) (f:α→Res β):(Res.ok x).bind f = f x:=rfl
@[simp] theorem bind_err' {α β:Type} (x:Str) (f:α→Res β):(Res.err x:Res α).bind f = .err x:=rfl
@[simp] theorem bind_stuck' {α β:Type} (f:α→Res β):(Res.stuck:Res α).bind f = .stuck:=rfl
@[simp] theorem e2_s:e2 g a b σ = (a σ).bind fun p=>(b σ).bind fun q=>g p q:=rfl
@[simp] theorem e1_s:e1 h a σ = (a σ).bind h:=rfl
@[simp] theorem eC_s {p:PV}:eC p σ = .ok p:=rfl
@[simp] theorem eA_s {f:List PV→Res PV}:eA f r σ = (r σ).bind f:=rfl
@[simp] theorem aNil_s:aNil σ = .ok []:=rfl
@[simp] theorem aCons_s:aCons a r σ = (a σ).bind fun p=>(r σ).bind fun ps=>.ok (p::ps):=rfl
@[simp] theorem eIf_s:eIf t a b σ = (t σ).bind fun c=>if c = true then a σ else b σ:=rfl
@[simp] theorem eAnd_s:eAnd a b σ = (a σ).bind fun p=>(asB p).bind fun c=>if c = true then b σ else .ok (.bl false):=rfl
@[simp] theorem eOr_s:eOr a b σ = (a σ).bind fun p=>(asB p).bind fun c=>if c = true then .ok (.bl true) else b σ:=rfl
@[simp] theorem asB_s {k:Bool}:asB (.bl k) = .ok k:=rfl
@[simp] theorem pNot_s {k:Bool}:pNot (.bl k) = .ok (.bl (!k)):=rfl
@[simp] theorem tV_s:tV a σ = (a σ).bind asB:=rfl
@[simp] theorem tAnd_s:G.tAnd s t σ = (s σ).bind fun c=>if c = true then t σ else .ok false:=rfl
@[simp] theorem tOr_s:G.tOr s t σ = (s σ).bind fun c=>if c = true then .ok true else t σ:=rfl
@[simp] theorem tNot_s:G.tNot s σ = (s σ).bind fun c=>.ok (!c):=rfl
@[simp] theorem pAdd_s:pAdd (.int i) (.int j) = .ok (.int (i + j)):=rfl
@[simp] theorem pSub_s:pSub (.int i) (.int j) = .ok (.int (i - j)):=rfl
theorem pMul_s (h:IntMulOk i j):pMul (.int i) (.int j) = .ok (.int (i * j)):=if_pos h
theorem pFdiv_s (h:j≠0) (h':Builtin.Int.intBits j≤9000):pFdiv (.int i) (.int j) = .ok (.int (i.fdiv j)):=if_pos ⟨h,h'⟩
theorem pMod_s (h:j≠0):pMod (.int i) (.int j) = .ok (.int (i.fmod j)):=if_pos h
theorem pPow_s (h:0≤j) (h':j≤1000000) (h'':i.natAbs < 2 ^ 64):pPow (.int i) (.int j) = .ok (.int (i ^ j.toNat)):=if_pos ⟨h,h',h''⟩
@[simp] theorem pNeg_s:pNeg (.int i) = .ok (.int (-i)):=rfl
@[simp] theorem pCmp_s {f:Int→Int→Bool}:pCmp f (.int i) (.int j) = .ok (.bl (f i j)):=rfl
@[simp] theorem pIs_s {p:PV}:pIs p .non = .ok (.bl (isNon p)):=rfl
@[simp] theorem pIsNot_s {p:PV}:pIsNot p .non = .ok (.bl (!isNon p)):=rfl
@[simp] theorem pEq_i:pEq (.int i) (.int j) = .ok (.bl (decide (i = j))):=by
 show Res.ok (PV.bl (peq (.int i) (.int j))) = _
 rw [show peq (.int i) (.int j) = (i == j) by rw [peq],Bool.beq_eq_decide_eq]
@[simp] theorem pNe_i:pNe (.int i) (.int j) = .ok (.bl (!decide (i = j))):=by
 show Res.ok (PV.bl (!peq (.int i) (.int j))) = _
 rw [show peq (.int i) (.int j) = (i == j) by rw [peq],Bool.beq_eq_decide_eq]
@[simp] theorem pEq_b {i j:Bool}:pEq (.bl i) (.bl j) = .ok (.bl (decide (i = j))):=by
 show Res.ok (PV.bl (peq (.bl i) (.bl j))) = _
 rw [show peq (.bl i) (.bl j) = (i == j) by rw [peq],Bool.beq_eq_decide_eq]
@[simp] theorem pNe_b {i j:Bool}:pNe (.bl i) (.bl j) = .ok (.bl (!decide (i = j))):=by
 show Res.ok (PV.bl (!peq (.bl i) (.bl j))) = _
 rw [show peq (.bl i) (.bl j) = (i == j) by rw [peq],Bool.beq_eq_decide_eq]
@[simp] theorem pIsi_n {T:String}:pIsi T .non = .ok (.bl (isSub (tyName .non) T)):=rfl
@[simp] theorem pIsi_b {T:String} {x:Bool}:pIsi T (.bl x) = .ok (.bl (isSub (tyName (.bl x)) T)):=rfl
@[simp] theorem pIsi_i {T:String} {x:Int}:pIsi T (.int x) = .ok (.bl (isSub (tyName (.int x)) T)):=rfl
@[simp] theorem pIsi_s {T:String} {x:Str}:pIsi T (.str x) = .ok (.bl (isSub (tyName (.str x)) T)):=rfl
@[simp] theorem pIsi_t {T:String} {x:List PV}:pIsi T (.tup x) = .ok (.bl (isSub (tyName (.tup x)) T)):=rfl
@[simp] theorem pIsi_l {T:String} {x:List PV}:pIsi T (.lst x) = .ok (.bl (isSub (tyName (.lst x)) T)):=rfl
@[simp] theorem pIsi_c {T:String} {x:List Int}:pIsi T (.scr x) = .ok (.bl (isSub (tyName (.scr x)) T)):=rfl
@[simp] theorem pIsi_d {T:String}:pIsi T .dic = .ok (.bl (isSub (tyName .dic) T)):=rfl
@[simp] theorem bAbs_s:bAbs [.int i] = .ok (.int (if i < 0 then -i else i)):=rfl
@[simp] theorem bMax_s:bMax [.int i,.int j] = .ok (.int (if j > i then j else i)):=rfl
@[simp] theorem noErr_s {p:PV}:noErr (.ok p) = .ok p:=rfl
@[simp] theorem sNext_s:sNext σ = .ok (.next σ):=rfl
@[simp] theorem sSeq_s:sSeq c d σ = (c σ).bind fun f=>match f with
 | .next σ'=>d σ'
 | f=>.ok f:=rfl
@[simp] theorem sRet_s:sRet a σ = (a σ).bind fun p=>.ok (.ret p):=rfl
@[simp] theorem sIf_s:sIf t c d σ = (t σ).bind fun k=>if k = true then c σ else d σ:=rfl
@[simp] theorem sSet_s {k:Nat}:sSet k a σ = (a σ).bind fun p=>.ok (.next (σ.set k (some (.sh p)))):=rfl
@[simp] theorem sFor_s {it:DI} {gg:DG}:sFor it gg c σ = (it σ).bind fun ps=>forS gg c ps σ:=rfl
@[simp] theorem itE_s:itE a σ = (a σ).bind asSeq:=rfl
@[simp] theorem itR_s {f:List PV→Res (List PV)}:itR f r σ = (r σ).bind f:=rfl
@[simp] theorem oNo_s:oNo σ = .ok none:=rfl
@[simp] theorem oE_s:oE a σ = (a σ).bind asI:=rfl
@[simp] theorem asI_s:asI (.int i) = .ok (some i):=rfl
@[simp] theorem eSl_s {lo hi:DO}:eSl a lo hi σ = (a σ).bind fun p=>(lo σ).bind fun l=>(hi σ).bind fun h=>pSl p l h:=rfl
@[simp] theorem gN_s {k:Nat} {p:PV}:gN k p σ = .ok (σ.set k (some (.sh p))):=rfl
@[simp] theorem forS_nil {gg:DG}:forS gg c [] σ = .ok (.next σ):=rfl
theorem forS_cons {gg:DG} {p:PV} {ps:List PV} {σ1:PSt} (h:gg p σ = .ok σ1):forS gg c (p::ps) σ = (c σ1).bind fun f=>match f with
   | .next σ'=>forS gg c ps σ'
   | .cont σ'=>forS gg c ps σ'
   | .brk σ'=>.ok (.next σ')
   | .ret p=>.ok (.ret p):=by
 show (match gg p σ with | .ok σ1=>_ | _=>_) = _
 rw [h]
 all_goals rfl
@[simp] theorem pTup_1 {p:PV}:pTup [p] = .ok (.tup [p]):=rfl
@[simp] theorem pTup_2 {p q:PV}:pTup [p,q] = .ok (.tup [p,q]):=rfl
@[simp] theorem pTup_3 {p q r:PV}:pTup [p,q,r] = .ok (.tup [p,q,r]):=rfl
@[simp] theorem pTup_0:pTup [] = .ok (.tup []):=rfl
@[simp] theorem fin_ret {p:PV}:fin (.ok (.ret p)) = .ok p:=rfl
@[simp] theorem fin_err {c:Str}:fin (.err c) = .stuck:=rfl
@[simp] theorem fin_next:fin (.ok (.next σ)) = .ok .non:=rfl
end
theorem run1 {m:Nat} {d:DS} {p:PV}:runF 1 m d [p] = fin (d (some (.sh p)::List.replicate (m - 1) none)):=(runF_eq rfl).trans rfl
theorem run2 {m:Nat} {d:DS} {p q:PV}:runF 2 m d [p,q] = fin (d (some (.sh p)::some (.sh q)::List.replicate (m - 2) none)):=(runF_eq rfl).trans rfl
end G
namespace G
open PySem PySem.Spec PyProof.Rows L2
theorem for_all {gg:DG} {c:DS} (I:PSt→Prop) (P:PV→Prop) (h:∀ p σ,P p→I σ→∃ σ1 σ',gg p σ = .ok σ1∧c σ1 = .ok (.next σ')∧I σ') :
  ∀ (ps:List PV),(∀ p∈ps,P p)→∀ σ,I σ→∃ σ',forS gg c ps σ = .ok (.next σ')∧I σ'
 | [],_,σ,i=>⟨σ,rfl,i⟩
 | p::ps,hp,σ,i=>by
  obtain ⟨σ1,σ2,h1,h2,h3⟩:=h p σ (hp p List.mem_cons_self) i
  obtain ⟨σ3,h4,h5⟩:=for_all I P h ps (fun q hq=>hp q (List.mem_cons_of_mem _ hq)) σ2 h3
  refine ⟨σ3,?_,h5⟩
  rw [forS_cons h1,h2]
  exact h4
theorem rangeL_mem {lo c:Int} {n:Nat} {p:PV} (h:p∈rangeL lo c n):∃ i:Nat,i < n∧p = .int (lo + i * c):=by
 unfold rangeL at h
 obtain ⟨i,hi,rfl⟩:=List.mem_map.mp h
 exact ⟨i,List.mem_range.mp hi,rfl⟩
open Builtin.Int (intBits) in
theorem mulR {i j:Int} (h1:-(2 ^ 64) < j) (h2:j < 2 ^ 64):IntMulOk i j:=.of_right (intBits_le_64 h1 h2)
open Builtin.Int (intBits) in
theorem mulL {i j:Int} (h1:-(2 ^ 64) < i) (h2:i < 2 ^ 64):IntMulOk i j:=.of_left (intBits_le_64 h1 h2)
theorem atI_of {α:Type} {xs:List α} {k:Int} (h0:0≤k) (h:k < xs.length):∃ x,atI xs k = some x∧x∈xs:=by
 have hk:k.toNat < xs.length:=by omega
 refine ⟨xs[k.toNat],?_,List.getElem_mem _⟩
 have e:k = ((k.toNat:Nat):Int):=by omega
 have q:atI xs ((k.toNat:Nat):Int) = some xs[k.toNat]:=atI_nat (by simp [hk])
 rw [← e] at q
 exact q
end G
namespace G
open PySem PySem.Spec PyProof.Rows L2
section
variable {p:PV} {σ:PSt} {db:DE} {xs:List PV} {x0 x1 x2 x3 x4 x5 x6 x7 x8 x9 x10 x11 x12 x13 x14 x15 x16 x17 x18 x19 x20 x21 x22 x23 x24 x25:Option SV}
@[simp] theorem eVar_0:eVar 0 (some (.sh p)::σ) = .ok p:=rfl
@[simp] theorem eIxV_0:eIxV 0 db (some (.sh p)::σ) = (db (some (.sh p)::σ)).bind fun q=>pIx p q:=rfl
@[simp] theorem eIxO_0:eIxV 0 db (some (.own xs)::σ) = (db (some (.own xs)::σ)).bind fun q=>pIx (.lst xs) q:=rfl
@[simp] theorem eLenV_0:eLenV 0 (some (.sh p)::σ) = bLen [p]:=rfl
@[simp] theorem eLenO_0:eLenV 0 (some (.own xs)::σ) = .ok (.int xs.length):=rfl
@[simp] theorem eVar_1:eVar 1 (x0::some (.sh p)::σ) = .ok p:=rfl
@[simp] theorem eIxV_1:eIxV 1 db (x0::some (.sh p)::σ) = (db (x0::some (.sh p)::σ)).bind fun q=>pIx p q:=rfl
@[simp] theorem eIxO_1:eIxV 1 db (x0::some (.own xs)::σ) = (db (x0::some (.own xs)::σ)).bind fun q=>pIx (.lst xs) q:=rfl
@[simp] theorem eLenV_1:eLenV 1 (x0::some (.sh p)::σ) = bLen [p]:=rfl
@[simp] theorem eLenO_1:eLenV 1 (x0::some (.own xs)::σ) = .ok (.int xs.length):=rfl
@[simp] theorem eVar_2:eVar 2 (x0::x1::some (.sh p)::σ) = .ok p:=rfl
@[simp] theorem eIxV_2:eIxV 2 db (x0::x1::some (.sh p)::σ) = (db (x0::x1::some (.sh p)::σ)).bind fun q=>pIx p q:=rfl
@[simp] theorem eIxO_2:eIxV 2 db (x0::x1::some (.own xs)::σ) = (db (x0::x1::some (.own xs)::σ)).bind fun q=>pIx (.lst xs) q:=rfl
@[simp] theorem eLenV_2:eLenV 2 (x0::x1::some (.sh p)::σ) = bLen [p]:=rfl
@[simp] theorem eLenO_2:eLenV 2 (x0::x1::some (.own xs)::σ) = .ok (.int xs.length):=rfl
@[simp] theorem eVar_3:eVar 3 (x0::x1::x2::some (.sh p)::σ) = .ok p:=rfl
@[simp] theorem eIxV_3:eIxV 3 db (x0::x1::x2::some (.sh p)::σ) = (db (x0::x1::x2::some (.sh p)::σ)).bind fun q=>pIx p q:=rfl
@[simp] theorem eIxO_3:eIxV 3 db (x0::x1::x2::some (.own xs)::σ) = (db (x0::x1::x2::some (.own xs)::σ)).bind fun q=>pIx (.lst xs) q:=rfl
@[simp] theorem eLenV_3:eLenV 3 (x0::x1::x2::some (.sh p)::σ) = bLen [p]:=rfl
@[simp] theorem eLenO_3:eLenV 3 (x0::x1::x2::some (.own xs)::σ) = .ok (.int xs.length):=rfl
@[simp] theorem eVar_4:eVar 4 (x0::x1::x2::x3::some (.sh p)::σ) = .ok p:=rfl
@[simp] theorem eIxV_4:eIxV 4 db (x0::x1::x2::x3::some (.sh p)::σ) = (db (x0::x1::x2::x3::some (.sh p)::σ)).bind fun q=>pIx p q:=rfl
@[simp] theorem eIxO_4:eIxV 4 db (x0::x1::x2::x3::some (.own xs)::σ) = (db (x0::x1::x2::x3::some (.own xs)::σ)).bind fun q=>pIx (.lst xs) q:=rfl
@[simp] theorem eLenV_4:eLenV 4 (x0::x1::x2::x3::some (.sh p)::σ) = bLen [p]:=rfl
@[simp] theorem eLenO_4:eLenV 4 (x0::x1::x2::x3::some (.own xs)::σ) = .ok (.int xs.length):=rfl
end
@[simp] theorem ty_non:tyName .non = "NoneType":=rfl
@[simp] theorem ty_bl {b}:tyName (.bl b) = "bool":=rfl
@[simp] theorem ty_int {b}:tyName (.int b) = "int":=rfl
@[simp] theorem ty_str {b}:tyName (.str b) = "str":=rfl
@[simp] theorem ty_tup {b}:tyName (.tup b) = "tuple":=rfl
@[simp] theorem ty_lst {b}:tyName (.lst b) = "list":=rfl
@[simp] theorem ty_scr {b}:tyName (.scr b) = "list":=rfl
@[simp] theorem ty_dic:tyName .dic = "dict":=rfl
@[simp] theorem pIx_t {xs:List PV} {i:Int}:pIx (.tup xs) (.int i) = atR xs i id:=rfl
@[simp] theorem pIx_l {xs:List PV} {i:Int}:pIx (.lst xs) (.int i) = atR xs i id:=rfl
@[simp] theorem pIx_s {xs:List Int} {i:Int}:pIx (.scr xs) (.int i) = atR xs i PV.int:=rfl
@[simp] theorem bLen_t {xs:List PV}:bLen [.tup xs] = .ok (.int xs.length):=rfl
@[simp] theorem bLen_l {xs:List PV}:bLen [.lst xs] = .ok (.int xs.length):=rfl
@[simp] theorem bLen_s {xs:List Int}:bLen [.scr xs] = .ok (.int xs.length):=rfl
@[simp] theorem asSeq_t {xs:List PV}:asSeq (.tup xs) = .ok xs:=rfl
@[simp] theorem asSeq_l {xs:List PV}:asSeq (.lst xs) = .ok xs:=rfl
@[simp] theorem asSeq_s {xs:List Int}:asSeq (.scr xs) = .ok (xs.map PV.int):=rfl
theorem atR_of {α:Type} {xs:List α} {i:Int} {f:α→PV} {x:α} (h:atI xs i = some x):atR xs i f = .ok (f x):=by unfold atR; rw [h]
@[simp] theorem pLst_3 {p q r:PV}:pLst [p,q,r] = .ok (.lst [p,q,r]):=rfl
@[simp] theorem pLst_2 {p q:PV}:pLst [p,q] = .ok (.lst [p,q]):=rfl
@[simp] theorem pLst_1 {p:PV}:pLst [p] = .ok (.lst [p]):=rfl
@[simp] theorem pLst_0:pLst [] = .ok (.lst []):=rfl
@[simp] theorem atR_1_0 {α:Type} {f:α→PV} {y0:α}:atR [y0] 0 f = .ok (f y0):=rfl
@[simp] theorem atN_1_0 {α:Type} {f:α→PV} {y0:α}:atR [y0] (-1) f = .ok (f y0):=rfl
@[simp] theorem atR_2_0 {α:Type} {f:α→PV} {y0 y1:α}:atR [y0,y1] 0 f = .ok (f y0):=rfl
@[simp] theorem atN_2_0 {α:Type} {f:α→PV} {y0 y1:α}:atR [y0,y1] (-2) f = .ok (f y0):=rfl
@[simp] theorem atR_2_1 {α:Type} {f:α→PV} {y0 y1:α}:atR [y0,y1] 1 f = .ok (f y1):=rfl
@[simp] theorem atN_2_1 {α:Type} {f:α→PV} {y0 y1:α}:atR [y0,y1] (-1) f = .ok (f y1):=rfl
@[simp] theorem atR_3_0 {α:Type} {f:α→PV} {y0 y1 y2:α}:atR [y0,y1,y2] 0 f = .ok (f y0):=rfl
@[simp] theorem atN_3_0 {α:Type} {f:α→PV} {y0 y1 y2:α}:atR [y0,y1,y2] (-3) f = .ok (f y0):=rfl
@[simp] theorem atR_3_1 {α:Type} {f:α→PV} {y0 y1 y2:α}:atR [y0,y1,y2] 1 f = .ok (f y1):=rfl
@[simp] theorem atN_3_1 {α:Type} {f:α→PV} {y0 y1 y2:α}:atR [y0,y1,y2] (-2) f = .ok (f y1):=rfl
@[simp] theorem atR_3_2 {α:Type} {f:α→PV} {y0 y1 y2:α}:atR [y0,y1,y2] 2 f = .ok (f y2):=rfl
@[simp] theorem atN_3_2 {α:Type} {f:α→PV} {y0 y1 y2:α}:atR [y0,y1,y2] (-1) f = .ok (f y2):=rfl
@[simp] theorem atR_4_0 {α:Type} {f:α→PV} {y0 y1 y2 y3:α}:atR [y0,y1,y2,y3] 0 f = .ok (f y0):=rfl
@[simp] theorem atN_4_0 {α:Type} {f:α→PV} {y0 y1 y2 y3:α}:atR [y0,y1,y2,y3] (-4) f = .ok (f y0):=rfl
@[simp] theorem atR_4_1 {α:Type} {f:α→PV} {y0 y1 y2 y3:α}:atR [y0,y1,y2,y3] 1 f = .ok (f y1):=rfl
@[simp] theorem atN_4_1 {α:Type} {f:α→PV} {y0 y1 y2 y3:α}:atR [y0,y1,y2,y3] (-3) f = .ok (f y1):=rfl
@[simp] theorem atR_4_2 {α:Type} {f:α→PV} {y0 y1 y2 y3:α}:atR [y0,y1,y2,y3] 2 f = .ok (f y2):=rfl
@[simp] theorem atN_4_2 {α:Type} {f:α→PV} {y0 y1 y2 y3:α}:atR [y0,y1,y2,y3] (-2) f = .ok (f y2):=rfl
@[simp] theorem atR_4_3 {α:Type} {f:α→PV} {y0 y1 y2 y3:α}:atR [y0,y1,y2,y3] 3 f = .ok (f y3):=rfl
@[simp] theorem atN_4_3 {α:Type} {f:α→PV} {y0 y1 y2 y3:α}:atR [y0,y1,y2,y3] (-1) f = .ok (f y3):=rfl
@[simp] theorem atR_5_0 {α:Type} {f:α→PV} {y0 y1 y2 y3 y4:α}:atR [y0,y1,y2,y3,y4] 0 f = .ok (f y0):=rfl
@[simp] theorem atN_5_0 {α:Type} {f:α→PV} {y0 y1 y2 y3 y4:α}:atR [y0,y1,y2,y3,y4] (-5) f = .ok (f y0):=rfl
@[simp] theorem atR_5_1 {α:Type} {f:α→PV} {y0 y1 y2 y3 y4:α}:atR [y0,y1,y2,y3,y4] 1 f = .ok (f y1):=rfl
@[simp] theorem atN_5_1 {α:Type} {f:α→PV} {y0 y1 y2 y3 y4:α}:atR [y0,y1,y2,y3,y4] (-4) f = .ok (f y1):=rfl
@[simp] theorem atR_5_2 {α:Type} {f:α→PV} {y0 y1 y2 y3 y4:α}:atR [y0,y1,y2,y3,y4] 2 f = .ok (f y2):=rfl
@[simp] theorem atN_5_2 {α:Type} {f:α→PV} {y0 y1 y2 y3 y4:α}:atR [y0,y1,y2,y3,y4] (-3) f = .ok (f y2):=rfl
@[simp] theorem atR_5_3 {α:Type} {f:α→PV} {y0 y1 y2 y3 y4:α}:atR [y0,y1,y2,y3,y4] 3 f = .ok (f y3):=rfl
@[simp] theorem atN_5_3 {α:Type} {f:α→PV} {y0 y1 y2 y3 y4:α}:atR [y0,y1,y2,y3,y4] (-2) f = .ok (f y3):=rfl
@[simp] theorem atR_5_4 {α:Type} {f:α→PV} {y0 y1 y2 y3 y4:α}:atR [y0,y1,y2,y3,y4] 4 f = .ok (f y4):=rfl
@[simp] theorem atN_5_4 {α:Type} {f:α→PV} {y0 y1 y2 y3 y4:α}:atR [y0,y1,y2,y3,y4] (-1) f = .ok (f y4):=rfl
@[simp] theorem atR_6_0 {α:Type} {f:α→PV} {y0 y1 y2 y3 y4 y5:α}:atR [y0,y1,y2,y3,y4,y5] 0 f = .ok (f y0):=rfl
@[simp] theorem atN_6_0 {α:Type} {f:α→PV} {y0 y1 y2 y3 y4 y5:α}:atR [y0,y1,y2,y3,y4,y5] (-6) f = .ok (f y0):=rfl
@[simp] theorem atR_6_1 {α:Type} {f:α→PV} {y0 y1 y2 y3 y4 y5:α}:atR [y0,y1,y2,y3,y4,y5] 1 f = .ok (f y1):=rfl
@[simp] theorem atN_6_1 {α:Type} {f:α→PV} {y0 y1 y2 y3 y4 y5:α}:atR [y0,y1,y2,y3,y4,y5] (-5) f = .ok (f y1):=rfl
@[simp] theorem atR_6_2 {α:Type} {f:α→PV} {y0 y1 y2 y3 y4 y5:α}:atR [y0,y1,y2,y3,y4,y5] 2 f = .ok (f y2):=rfl
@[simp] theorem atN_6_2 {α:Type} {f:α→PV} {y0 y1 y2 y3 y4 y5:α}:atR [y0,y1,y2,y3,y4,y5] (-4) f = .ok (f y2):=rfl
@[simp] theorem atR_6_3 {α:Type} {f:α→PV} {y0 y1 y2 y3 y4 y5:α}:atR [y0,y1,y2,y3,y4,y5] 3 f = .ok (f y3):=rfl
@[simp] theorem atN_6_3 {α:Type} {f:α→PV} {y0 y1 y2 y3 y4 y5:α}:atR [y0,y1,y2,y3,y4,y5] (-3) f = .ok (f y3):=rfl
@[simp] theorem atR_6_4 {α:Type} {f:α→PV} {y0 y1 y2 y3 y4 y5:α}:atR [y0,y1,y2,y3,y4,y5] 4 f = .ok (f y4):=rfl
@[simp] theorem atN_6_4 {α:Type} {f:α→PV} {y0 y1 y2 y3 y4 y5:α}:atR [y0,y1,y2,y3,y4,y5] (-2) f = .ok (f y4):=rfl
@[simp] theorem atR_6_5 {α:Type} {f:α→PV} {y0 y1 y2 y3 y4 y5:α}:atR [y0,y1,y2,y3,y4,y5] 5 f = .ok (f y5):=rfl
@[simp] theorem atN_6_5 {α:Type} {f:α→PV} {y0 y1 y2 y3 y4 y5:α}:atR [y0,y1,y2,y3,y4,y5] (-1) f = .ok (f y5):=rfl
@[simp] theorem atR_7_0 {α:Type} {f:α→PV} {y0 y1 y2 y3 y4 y5 y6:α}:atR [y0,y1,y2,y3,y4,y5,y6] 0 f = .ok (f y0):=rfl
@[simp] theorem atN_7_0 {α:Type} {f:α→PV} {y0 y1 y2 y3 y4 y5 y6:α}:atR [y0,y1,y2,y3,y4,y5,y6] (-7) f = .ok (f y0):=rfl
@[simp] theorem atR_7_1 {α:Type} {f:α→PV} {y0 y1 y2 y3 y4 y5 y6:α}:atR [y0,y1,y2,y3,y4,y5,y6] 1 f = .ok (f y1):=rfl
@[simp] theorem atN_7_1 {α:Type} {f:α→PV} {y0 y1 y2 y3 y4 y5 y6:α}:atR [y0,y1,y2,y3,y4,y5,y6] (-6) f = .ok (f y1):=rfl
@[simp] theorem atR_7_2 {α:Type} {f:α→PV} {y0 y1 y2 y3 y4 y5 y6:α}:atR [y0,y1,y2,y3,y4,y5,y6] 2 f = .ok (f y2):=rfl
@[simp] theorem atN_7_2 {α:Type} {f:α→PV} {y0 y1 y2 y3 y4 y5 y6:α}:atR [y0,y1,y2,y3,y4,y5,y6] (-5) f = .ok (f y2):=rfl
@[simp] theorem atR_7_3 {α:Type} {f:α→PV} {y0 y1 y2 y3 y4 y5 y6:α}:atR [y0,y1,y2,y3,y4,y5,y6] 3 f = .ok (f y3):=rfl
@[simp] theorem atN_7_3 {α:Type} {f:α→PV} {y0 y1 y2 y3 y4 y5 y6:α}:atR [y0,y1,y2,y3,y4,y5,y6] (-4) f = .ok (f y3):=rfl
@[simp] theorem atR_7_4 {α:Type} {f:α→PV} {y0 y1 y2 y3 y4 y5 y6:α}:atR [y0,y1,y2,y3,y4,y5,y6] 4 f = .ok (f y4):=rfl
@[simp] theorem atN_7_4 {α:Type} {f:α→PV} {y0 y1 y2 y3 y4 y5 y6:α}:atR [y0,y1,y2,y3,y4,y5,y6] (-3) f = .ok (f y4):=rfl
@[simp] theorem atR_7_5 {α:Type} {f:α→PV} {y0 y1 y2 y3 y4 y5 y6:α}:atR [y0,y1,y2,y3,y4,y5,y6] 5 f = .ok (f y5):=rfl
@[simp] theorem atN_7_5 {α:Type} {f:α→PV} {y0 y1 y2 y3 y4 y5 y6:α}:atR [y0,y1,y2,y3,y4,y5,y6] (-2) f = .ok (f y5):=rfl
@[simp] theorem atR_7_6 {α:Type} {f:α→PV} {y0 y1 y2 y3 y4 y5 y6:α}:atR [y0,y1,y2,y3,y4,y5,y6] 6 f = .ok (f y6):=rfl
@[simp] theorem atN_7_6 {α:Type} {f:α→PV} {y0 y1 y2 y3 y4 y5 y6:α}:atR [y0,y1,y2,y3,y4,y5,y6] (-1) f = .ok (f y6):=rfl
@[simp] theorem atR_8_0 {α:Type} {f:α→PV} {y0 y1 y2 y3 y4 y5 y6 y7:α}:atR [y0,y1,y2,y3,y4,y5,y6,y7] 0 f = .ok (f y0):=rfl
@[simp] theorem atN_8_0 {α:Type} {f:α→PV} {y0 y1 y2 y3 y4 y5 y6 y7:α}:atR [y0,y1,y2,y3,y4,y5,y6,y7] (-8) f = .ok (f y0):=rfl
@[simp] theorem atR_8_1 {α:Type} {f:α→PV} {y0 y1 y2 y3 y4 y5 y6 y7:α}:atR [y0,y1,y2,y3,y4,y5,y6,y7] 1 f = .ok (f y1):=rfl
@[simp] theorem atN_8_1 {α:Type} {f:α→PV} {y0 y1 y2 y3 y4 y5 y6 y7:α}:atR [y0,y1,y2,y3,y4,y5,y6,y7] (-7) f = .ok (f y1):=rfl
@[simp] theorem atR_8_2 {α:Type} {f:α→PV} {y0 y1 y2 y3 y4 y5 y6 y7:α}:atR [y0,y1,y2,y3,y4,y5,y6,y7] 2 f = .ok (f y2):=rfl
@[simp] theorem atN_8_2 {α:Type} {f:α→PV} {y0 y1 y2 y3 y4 y5 y6 y7:α}:atR [y0,y1,y2,y3,y4,y5,y6,y7] (-6) f = .ok (f y2):=rfl
@[simp] theorem atR_8_3 {α:Type} {f:α→PV} {y0 y1 y2 y3 y4 y5 y6 y7:α}:atR [y0,y1,y2,y3,y4,y5,y6,y7] 3 f = .ok (f y3):=rfl
@[simp] theorem atN_8_3 {α:Type} {f:α→PV} {y0 y1 y2 y3 y4 y5 y6 y7:α}:atR [y0,y1,y2,y3,y4,y5,y6,y7] (-5) f = .ok (f y3):=rfl
@[simp] theorem atR_8_4 {α:Type} {f:α→PV} {y0 y1 y2 y3 y4 y5 y6 y7:α}:atR [y0,y1,y2,y3,y4,y5,y6,y7] 4 f = .ok (f y4):=rfl
@[simp] theorem atN_8_4 {α:Type} {f:α→PV} {y0 y1 y2 y3 y4 y5 y6 y7:α}:atR [y0,y1,y2,y3,y4,y5,y6,y7] (-4) f = .ok (f y4):=rfl
@[simp] theorem atR_8_5 {α:Type} {f:α→PV} {y0 y1 y2 y3 y4 y5 y6 y7:α}:atR [y0,y1,y2,y3,y4,y5,y6,y7] 5 f = .ok (f y5):=rfl
@[simp] theorem atN_8_5 {α:Type} {f:α→PV} {y0 y1 y2 y3 y4 y5 y6 y7:α}:atR [y0,y1,y2,y3,y4,y5,y6,y7] (-3) f = .ok (f y5):=rfl
@[simp] theorem atR_8_6 {α:Type} {f:α→PV} {y0 y1 y2 y3 y4 y5 y6 y7:α}:atR [y0,y1,y2,y3,y4,y5,y6,y7] 6 f = .ok (f y6):=rfl
@[simp] theorem atN_8_6 {α:Type} {f:α→PV} {y0 y1 y2 y3 y4 y5 y6 y7:α}:atR [y0,y1,y2,y3,y4,y5,y6,y7] (-2) f = .ok (f y6):=rfl
@[simp] theorem atR_8_7 {α:Type} {f:α→PV} {y0 y1 y2 y3 y4 y5 y6 y7:α}:atR [y0,y1,y2,y3,y4,y5,y6,y7] 7 f = .ok (f y7):=rfl
@[simp] theorem atN_8_7 {α:Type} {f:α→PV} {y0 y1 y2 y3 y4 y5 y6 y7:α}:atR [y0,y1,y2,y3,y4,y5,y6,y7] (-1) f = .ok (f y7):=rfl
end G
namespace G
open PySem PySem.Spec PyProof.Rows L2
section
variable {i j:Int}
@[simp] theorem pMul_nr (n:Nat) (h:n < 18446744073709551616):pMul (.int i) (.int (no_index (OfNat.ofNat n))) = .ok (.int (i * OfNat.ofNat n)):=pMul_s (mulR (by show -(2 ^ 64) < ((n:Nat):Int); omega) (by show ((n:Nat):Int) < 2 ^ 64; omega))
@[simp] theorem pMul_nl (n:Nat) (h:n < 18446744073709551616):pMul (.int (no_index (OfNat.ofNat n))) (.int j) = .ok (.int (OfNat.ofNat n * j)):=pMul_s (mulL (by show -(2 ^ 64) < ((n:Nat):Int); omega) (by show ((n:Nat):Int) < 2 ^ 64; omega))
@[simp] theorem pMod_n (n:Nat) (h:0 < n):pMod (.int i) (.int (no_index (OfNat.ofNat n))) = .ok (.int (i % OfNat.ofNat n)):=by
 have h0:(0:Int) < (OfNat.ofNat n:Int):=by show (0:Int) < ((n:Nat):Int); omega
 rw [pMod_s (by omega),Int.fmod_eq_emod_of_nonneg _ (by omega)]
@[simp] theorem pFdiv_n (n:Nat) (h:0 < n) (h':n < 18446744073709551616):pFdiv (.int i) (.int (no_index (OfNat.ofNat n))) = .ok (.int (i / OfNat.ofNat n)):=by
 have h0:(0:Int) < (OfNat.ofNat n:Int):=by show (0:Int) < ((n:Nat):Int); omega
 have h1:(OfNat.ofNat n:Int) < 2 ^ 64:=by show ((n:Nat):Int) < 2 ^ 64; omega
 rw [pFdiv_s (by omega) (Nat.le_trans (intBits_le_64 (by omega) h1) (by decide)),Int.fdiv_eq_ediv_of_nonneg _ (by omega)]
@[simp] theorem pPow_n (n m:Nat) (h:n < 18446744073709551616) (h':m≤1000000):pPow (.int (no_index (OfNat.ofNat n))) (.int (no_index (OfNat.ofNat m))) = .ok (.int (OfNat.ofNat n ^ m)):=by
 have e:((OfNat.ofNat m:Int)).toNat = m:=by show (((m:Nat):Int)).toNat = m; omega
 rw [pPow_s (by show (0:Int)≤((m:Nat):Int); omega) (by show ((m:Nat):Int)≤1000000; omega) (by show (((n:Nat):Int)).natAbs < 2 ^ 64; omega),e]
end
end G
namespace G
open PySem PySem.Spec PyProof.Rows L2
section
variable {σ:PSt}
@[simp] theorem finE_ret {p:PV}:finE (.ok (.ret p)) = .ok p:=rfl
@[simp] theorem finE_err {c:Str}:finE (.err c) = .err c:=rfl
@[simp] theorem finE_next:finE (.ok (.next σ)) = .ok .non:=rfl
@[simp] theorem sRaise_s {c:Str}:sRaise c σ = .err c:=rfl
@[simp] theorem noErr_e {c:Str}:noErr (.err c) = .stuck:=rfl
@[simp] theorem pIsiX_n {tab:List (Str × Bool)}:pIsiX tab .non = .ok (.bl false):=rfl
theorem pIsiX_c {tab:List (Str × Bool)} {c:Str} {b:Bool} (h:tab.lookup c = some b):pIsiX tab (.exc c) = .ok (.bl b):=by rw [pIsiX_e,h]
end
theorem re1 {m:Nat} {d:DS} {p:PV}:runE 1 m d [p] = finE (d (some (.sh p)::List.replicate (m - 1) none)):=(runE_eq rfl).trans rfl
theorem re2 {m:Nat} {d:DS} {p q:PV}:runE 2 m d [p,q] = finE (d (some (.sh p)::some (.sh q)::List.replicate (m - 2) none)):=(runE_eq rfl).trans rfl
end G
namespace G
open PySem PySem.Spec PyProof.Rows L2
def putR (i:Nat) (σ:PSt) (xs:List PV) (v:PV):PV→Res Fl
 | .int k=>match ixN xs.length k with
  | some j=>.ok (.next (σ.set i (some (.own (xs.set j v)))))
  | none=>.stuck
 | _=>.stuck
def sPut (i:Nat) (db da:DE):DS:=fun σ=>(da σ).bind fun v=>match σ[i]? with
 | some (some (.own xs))=>(db σ).bind fun k=>putR i σ xs v k
 | _=>.stuck
def sShare (i:Nat) (d:DS):DS:=fun σ=>match σ[i]? with
 | some (some (.own xs))=>d (σ.set i (some (.sh (.lst xs))))
 | _=>d σ
section
variable {X:Cx} {H0 Hs0 Hs H:Hp} {σ:PSt} {τ:L2.St} {a b:Expr} {da db:DE} {pos pos' np:Pos} {i:Nat} {x:Str}
theorem qs_put (hN:X.N[i]? = some x) (hv:Vis X.env.scope x) (hd:(x == ("__debug__":Str)) = false) (hcd:(x == ("__classdict__":Str)) = false) (hb:QE X H0 Hs0 b db) (ha:QE X H0 Hs0 a da)
  (hs:swapsWithSole [.Subscript (.Name x np) b pos'] a pos.line X.env = pure false) (hw:swappedStores [.Subscript (.Name x np) b pos'] a X.env = pure none)
  (h1:(assignEach [.Subscript (.Name x np) b pos'] X.env).map (·.2) = [assign (.Subscript (.Name x np) b pos') X.env])
  (has:∀ v,assign (.Subscript (.Name x np) b pos') X.env v = (do
   let ov ← holding [v] (eval (.Name x np) X.env)
   let iv ← holding [v,ov] (eval b X.env)
   standAt pos'
   holding [v,ov,iv] (setItem ov iv v)
   release [v,ov,iv] [])) :
  QS X H0 Hs0 (.Assign [.Subscript (.Name x np) b pos'] a pos) (sPut i db da) :=
 PS.imp (ps_asg ha (pg_sub (pe_var hN hv hd hcd) hb set_list has) hs hw h1) fun D τ H ⟨Hs,σ,S,h⟩=>⟨Hs,σ,S,Ret.mono (EndR.bind1 h) fun v H1 ⟨Hs1,p,g1,r1,h1⟩=>by
  split at h1
  ·rename_i xs e
   have S1:=S.grow g1
   obtain ⟨v0,e1,ad,vs,rfl,_⟩:=S1.slot i _ e
   refine ⟨_,e1,Hs1,σ,S1,Ret.mono (EndR.bind1 h1) fun y H2 ⟨Hs2,k,g2,rk,h2⟩=>?_⟩
   have S2:=S1.grow g2
   obtain ⟨v2,e2,ad2,vs2,e3,q1,q2,q3,q4⟩:=S2.slot i _ e
   rw [e1] at e2
   cases e2
   cases e3
   cases k with
   | int k' =>
    have h2:EndR X H0 Hs0 D Hs2 H2 (match ixN xs.length k' with
     | some j=>.ok (.next (σ.set i (some (.own (xs.set j p)))))
     | none=>.stuck):=h2
    cases hj:ixN xs.length k' with
    | none=>rw [hj] at h2; exact h2.elim
    | some j =>
     rw [hj] at h2
     cases rk.int_inv
     refine ⟨ad,vs2,k',j,rfl,rfl,q1,by rw [q4.length]; exact hj,?_⟩
     exact h2 Hs2 _ τ (Same.refl _) (S2.write i e e1 q2 q3 (Reps.set (r1.mono g2.s) j q4))
   | _=>exact h2.elim
  ·exact h1.elim⟩
theorem SR.share {K:PySem.W.Frag} {xs:List PV} (S:SR K H0 Hs0 Hs H σ τ) (e:σ[i]? = some (some (.own xs))):∃ Hs',Same Hs Hs'∧SR K H0 Hs0 Hs' H (σ.set i (some (.sh (.lst xs)))) τ:=by
 obtain ⟨v,e1,ad,vs,rfl,h1,h2,h3,h4⟩:=S.slot i _ e
 refine ⟨upd Hs ad (.lst vs),same_lay h2,S.g.lay h1 h2 h3,fun j sv ej=>?_,fun j k xs' ys' a hjk e2 e3 e4=>?_,by rw [List.length_set]; exact S.len⟩
 ·rcases set_some ej with ⟨rfl,e',_⟩ | ⟨hne,e'⟩
  ·cases e'
   exact ⟨.ref ad,e1,.lst upd_same (h4.mono (same_lay h2))⟩
  ·obtain ⟨w,w1,w2⟩:=S.slot j sv e'
   refine ⟨w,w1,?_⟩
   cases sv with
   | sh p=>exact Rep.mono (same_lay h2) w2
   | own ys =>
    obtain ⟨a',vs',rfl,q1,q2,q3,q4⟩:=w2
    have:a'≠ad:=fun z=>S.inj i j xs ys ad (Ne.symm hne) e e' e1 (by rw [← z]; exact w1)
    exact ⟨a',vs',rfl,q1,by rw [upd_ne this]; exact q2,q3,q4.mono (same_lay h2)⟩
 ·rcases set_some e2 with ⟨_,z,_⟩ | ⟨_,e2'⟩
  ·cases z
  ·rcases set_some e3 with ⟨_,z,_⟩ | ⟨_,e3'⟩
   ·cases z
   ·exact S.inj j k _ _ _ hjk e2' e3' e4
theorem qs_share {st:Stmt} {d:DS} (i:Nat) (h:QS X H0 Hs0 st d):QS X H0 Hs0 st (sShare i d):=PS.imp h fun D τ H ⟨Hs,σ,S,q⟩=>by
 unfold sShare at q
 split at q
 ·rename_i xs e
  obtain ⟨Hs',e',S'⟩:=S.share e
  exact ⟨Hs',_,S',EndR.same q e'⟩
 ·exact ⟨Hs,σ,S,q⟩
theorem xput (i:Nat) (hb:XE X H0 Hs0 b db) (ha:XE X H0 Hs0 a da) (hN:X.N[i]? = some x:=by rfl) (hv:Vis X.env.scope x:=by first | exact Or.inl rfl | exact Or.inr (Or.inl rfl) | exact Or.inr (Or.inr rfl)) (hd:(x == ("__debug__":Str)) = false:=by decide) (hcd:(x == ("__classdict__":Str)) = false:=by decide)
  (hs:noComp a = true:=by rfl) (hw:swappedStores [.Subscript (.Name x np) b pos'] a X.env = pure none:=by rfl)
  (h1:(assignEach [.Subscript (.Name x np) b pos'] X.env).map (·.2) = [assign (.Subscript (.Name x np) b pos') X.env]:=by rfl)
  (has:∀ v,assign (.Subscript (.Name x np) b pos') X.env v = (do
   let ov ← holding [v] (eval (.Name x np) X.env)
   let iv ← holding [v,ov] (eval b X.env)
   standAt pos'
   holding [v,ov,iv] (setItem ov iv v)
   release [v,ov,iv] []):=by intro _; rfl):XS X H0 Hs0 (.Assign [.Subscript (.Name x np) b pos'] a pos) (sPut i db da):=⟨qs_put hN hv hd hcd hb.h ha.h (swapSole_no hs) hw h1 has⟩
theorem xshare {st:Stmt} {d:DS} (i:Nat) (h:XS X H0 Hs0 st d):XS X H0 Hs0 st (sShare i d):=⟨qs_share i h.h⟩
end
end G
namespace GS
open PySem PySem.SetTable
def advM (m:Nat) (p:Probe):Probe :=
 if p.more > 0 then { p with j:=p.j + 1,more:=p.more - 1 } else
 { p with j:=(leap m p.i p.perturb).1,more:=runEnd m (leap m p.i p.perturb).1 - (leap m p.i p.perturb).1,i:=(leap m p.i p.perturb).1,perturb:=(leap m p.i p.perturb).2 }
theorem advance_eq (t:SetTable) (p:Probe):t.advance p = advM t.mask p:=rfl
def startM (m:Nat) (h:Int):Probe:={ j:=bits h % (m + 1),more:=runEnd m (bits h % (m + 1)) - bits h % (m + 1),i:=bits h % (m + 1),perturb:=bits h,dummy:=none }
theorem start_eq (t:SetTable) (h:Int):t.probeStart h = startM t.mask h:=rfl
def steps (m:Nat):Nat→Probe→Probe
 | 0,p=>p
 | n + 1,p=>steps m n (advM m p)
structure PInv (m:Nat) (p:Probe):Prop where
 i:p.i≤m
 j:p.j + p.more≤m
 more:p.more≤9
 pert:p.perturb < 2 ^ 64
 dummy:p.dummy = none
def MaskOk (m:Nat):Prop:=m = 7∨m = 31∨m = 127
end GS
namespace GS
open PySem PySem.SetTable
def Rise (xs:Array Nat):Prop:=∀ i j a b:Nat,i < j→xs[i]? = some a→xs[j]? = some b→a < b
def Live (xs:Array Nat) (j:Nat):Prop:=∃ i:Nat,xs[i]? = some j
def Reach (m:Nat) (xs:Array Nat) (h:Int) (j:Nat):Prop:=∃ n,(steps m n (startM m h)).j = j∧∀ k,k < n→Live xs (steps m k (startM m h)).j
structure TInv (t:SetTable) (hs:List Int):Prop where
 mask:MaskOk t.mask
 nd:t.dummies = #[]
 size:t.place.size = hs.length
 rise:Rise t.place
 le:∀ j,Live t.place j→j≤t.mask
 room:t.place.size * 5 < t.mask * 3
 reach:∀ (i j:Nat) (h:Int),t.place[i]? = some j→hs[i]? = some h→Reach t.mask t.place h j
structure TPre (t:SetTable) (hs:List Int):Prop where
 mask:MaskOk t.mask
 nd:t.dummies = #[]
 size:t.place.size = hs.length
 rise:Rise t.place
 le:∀ j,Live t.place j→j≤t.mask
 reach:∀ (i j:Nat) (h:Int),t.place[i]? = some j→hs[i]? = some h→Reach t.mask t.place h j
end GS
namespace GS
open PySem PySem.SetTable
def Occ (owner:Array (Option Nat)) (j:Nat):Prop:=∃ k,owner[j]? = some (some k)
structure OInv (m:Nat) (owner:Array (Option Nat)) (sl:List Nat) (done:List Int):Prop where
 size:owner.size = m + 1
 len:sl.length = done.length
 at_:∀ k j:Nat,sl[k]? = some j↔owner[j]? = some (some k)
 reach:∀ (j k:Nat) (h:Int),owner[j]? = some (some k)→done[k]? = some h→∃ n,(steps m n (startM m h)).j = j∧∀ q,q < n→Occ owner (steps m q (startM m h)).j
end GS
namespace GS
open PySem PySem.SetTable
section
variable {prog:Program} {w:World} {A:Around} {E:Value→Shared→Prop} {s:Shared}
abbrev TK (prog:Program) (w:World) (h:Heap) (k:List Int) (b:Addr):Prop:=IsTupleKey (intKind prog w) h k b
abbrev hk (prog:Program) (w:World) (k:List Int):Int:=tupleKeyHash (intKind prog w) k
def Ent (prog:Program) (w:World) (h:Heap) (e:Int × Value) (k:List Int):Prop:=∃ b,e.2 = .ref b∧TK prog w h k b∧e.1 = hk prog w k
end
end GS
namespace GS
open PySem PySem.W PyProof.Rows
structure SOrd (lt:Nat→Nat→Bool) (n:Nat):Prop where
 irr:∀ a,a < n→lt a a = false
 tr:∀ a b c,a < n→b < n→c < n→lt b a = false→lt c b = false→lt c a = false
 tot:∀ a b,a < n→b < n→a≠b→lt a b = false→lt b a = true
 asy:∀ a b,a < n→b < n→lt a b = true→lt b a = false
structure PIn (n:Nat) (p:Array Nat):Prop where
 perm:p.toList.Perm (List.range n)
 pos:0 < n
section
variable {lt:Nat→Nat→Bool} {n:Nat}
end
end GS
namespace GS
open PySem PySem.SetTable
section
variable {prog:Program} {w:World} {A:Around} {E:Value→Shared→Prop} {s:Shared} {U:Value→Prop}
structure SGI (prog:Program) (w:World) (U:Value→Prop) (h:Heap) (es:Array (Int × Value)) (t:SetTable) (M:List (List Int)):Prop where
 tab:TInv t (es.toList.map (·.1))
 led:t.led = !w.params.followText "set-order"
 plain:t.plain = true
 size:es.size≤M.length
 sub:∀ e∈es.toList,∃ k,k∈M∧Ent prog w h e k
 all:∀ k∈M,∃ e,e∈es.toList∧Ent prog w h e k
 dist:es.toList.Pairwise fun e e'=>∀ k,Ent prog w h e k→¬ Ent prog w h e' k
 good:∀ e∈es.toList,U e.2
end
end GS
namespace GS
open PySem PySem.SetTable
section
variable {prog:Program} {w:World} {A:Around} {E:Value→Shared→Prop} {s:Shared} {U:Value→Prop}
end
end GS
namespace GS
open PySem PySem.SetTable
namespace FI
end FI
section
variable {prog:Program} {w:World} {A:Around} {E:Value→Shared→Prop} {s:Shared}
end
end GS
namespace HM
abbrev Pt:=Int × Int
def cr (P Q R:Pt):Int:=(Q.1 - P.1) * (R.2 - P.2) - (Q.2 - P.2) * (R.1 - P.1)
def lx (P Q:Pt):Prop:=P.1 < Q.1∨(P.1 = Q.1∧P.2 < Q.2)
instance (P Q:Pt):Decidable (lx P Q):=by unfold lx; infer_instance
section
variable {a b c d e f:Int}
end
structure CI (st l:List Pt):Prop where
 sub:∀ p∈st,p∈l
 up:st.Pairwise fun b a=>lx a b
 edge:∀ pre b a r,st = pre++b::a::r→∀ q∈l,0≤cr a b q
 turn:∀ pre c b a r,st = pre++c::b::a::r→0 < cr a b c
 top:∀ t r,st = t::r→∀ q∈l,q = t∨lx q t
 bot:∀ pre t,st = pre++[t]→∀ q∈l,q = t∨lx t q
end HM
namespace HM
structure Chn (lt:Pt→Pt→Prop) (L l:List Pt):Prop where
 sub:∀ p∈L,p∈l
 up:L.Pairwise lt
 edge:∀ (k:Nat) (a b:Pt),L[k]? = some a→L[k + 1]? = some b→∀ q∈l,0≤cr a b q
 turn:∀ (k:Nat) (a b c:Pt),L[k]? = some a→L[k + 1]? = some b→L[k + 2]? = some c→0 < cr a b c
 fst:∀ f,L[0]? = some f→∀ q∈l,q = f∨lt f q
 lst:∀ m,L[L.length - 1]? = some m→∀ q∈l,q = m∨lt q m
 ne:l≠[]→L≠[]
end HM
namespace HM
structure Poly (cs l:List Pt):Prop where
 three:3≤cs.length
 sub:∀ p∈cs,p∈l
 edge:∀ (k:Nat) (a b:Pt),cs[k % cs.length]? = some a→cs[(k + 1) % cs.length]? = some b→∀ q∈l,0≤cr a b q
 turn:∀ (k:Nat) (a b c:Pt),cs[k % cs.length]? = some a→cs[(k + 1) % cs.length]? = some b→cs[(k + 2) % cs.length]? = some c→0 < cr a b c
 fst:∀ f,cs[0]? = some f→∀ q∈l,q = f∨lx f q
 uniq:∀ k:Nat,0 < k→k < cs.length→cs[k]?≠cs[0]?
section
variable {B A l:List Pt}
end
end HM
namespace GS
open PySem PySem.W PyProof.Rows HM
section
variable {prog:Program} {w:World} {A:Around} {E:Value→Shared→Prop} {s:Shared}
end
end GS
namespace GS
open PySem PySem.W PySem.Calls PyProof.Rows HM
section
variable {prog:Program} {w:World} {A:Around} {E:Value→Shared→Prop} {s:Shared} {U:Value→Prop}
end
end GS
namespace GS
open PySem PySem.W PySem.Calls PyProof.Rows
section
variable {prog:Program} {w:World} {A:Around} {E:Value→Shared→Prop} {s:Shared} {T:String} {I:Addr} {fp wr:List Addr} {n:Nat} {P:Nat→Value→Prop} {St:Nat→Heap→Prop}
structure ItS (prog:Program) (w:World) (T:String) (I:Addr) (fp wr:List Addr) (n:Nat) (P:Nat→Value→Prop) (St:Nat→Heap→Prop):Prop where
 walk:∀ A:Around,A.handled = none→Walks prog w A I fp wr n P St
 ty:∀ (i:Nat) (s:Shared),St i s.heap→s.TypeIs (.ref I) T
 nl:(Value.type T == Value.type "list") = false
 nt:(Value.type T == Value.type "tuple") = false
 hint:∀ (A:Around) (E:Value→Shared→Prop) (s:Shared) (Q:Bool→Shared→Prop),St 0 s.heap→(∀ b,Q b s)→wpAny (model prog w) A (Builtin.List.listLengthHint (.ref I)) Q E s
 mem:I∈fp
namespace FR
end FR
end
end GS
namespace G
open PySem PySem.Spec PyProof.Rows L2 GS HM
section
variable {X:Cx}
inductive Blt:Value→Prop where
 | fn (id:String):Blt (.builtin id)
 | ty (T:String):Blt (.type T)
end
section
variable {X:Cx} {pins:List (Addr × Obj)} {τ:L2.St} {H:Hp} {s:Shared}
end
end G
namespace G
open PySem PySem.Spec PyProof.Rows L2 GS HM
section
variable {X:Cx} {H0 Hs0:Hp} {a b:Expr} {da db:DE} {p p2 pos pos2:Pos}
end
end G
namespace G
open PySem PySem.Spec PyProof.Rows L2 GS HM
section
variable {X:Cx} {H0 Hs0:Hp} {a b:Expr} {da db:DE} {pos np apos cpos p p2 pos2:Pos} {x:Str}
theorem xapp (i:Nat) (ha:XE X H0 Hs0 a da) (hN:X.N[i]? = some x:=by rfl) (hv:Vis X.env.scope x:=by first | exact Or.inl rfl | exact Or.inr (Or.inl rfl) | exact Or.inr (Or.inr rfl)) (hd:(x == ("__debug__":Str)) = false:=by decide) (hcd:(x == ("__classdict__":Str)) = false:=by decide)
  (hbase:attributeBase (.Name x np) "append" X.env (eval (.Name x np) X.env) = eval (.Name x np) X.env:=by rfl)
  (hfew:((backTo cpos (starEach [a] X.env)).all (fun x=>!x.1) && (backToKw cpos (keywordEach [] X.env)).all (fun x=>x.1.isSome) && decide ([a].length + ([]:List Keyword).length + (if ([]:List Keyword).isEmpty then 0 else 1) < 30)) = true:=by rfl)
  (hline:(apos.endLine == cpos.line) = true:=by rfl) (hs:noStar a = true:=by rfl) (hsw:noComp (.Call (.Attribute (.Name x np) "append" apos) [a] [] cpos) = true:=by rfl) :
  XS X H0 Hs0 (.Expr (.Call (.Attribute (.Name x np) "append" apos) [a] [] cpos) pos) (sApp i da):=⟨qs_app hN hv hd hcd ha.h hbase hfew hline (star_cons hs) rfl (swap_no hsw)⟩
end
end G
namespace G
open PySem PySem.Spec PyProof.Rows L2 HM
theorem mapR_on {α:Type} {f:PV→Res PV} {u v:α→PV} {xs:List α} (h:∀ x∈xs,f (u x) = .ok (v x)):mapR f (xs.map u) = .ok (xs.map v):=by
 induction xs with
 | nil=>rfl
 | cons x xs ih =>
  show (f (u x)).bind _ = _
  rw [h x (.head _),Res.bind_ok,show mapR f (List.map u xs) = _ from ih fun y hy=>h y (.tail _ hy)]
  rfl
theorem cVal_on {α:Type} {d:DI} {g:DG} {de:DE} {k:Nat} {ix:List Nat} {σ:PSt} {u v:α→PV} {xs:List α} (h1:d σ = .ok (xs.map u)) (h2:∀ x∈xs,turnF g de (inn k ix σ) (u x) = .ok (v x)) (h3:xs.length≤10000000):cVal d g de k ix σ = .ok (xs.map v):=by
 unfold cVal
 rw [h1,Res.bind_ok,mapR_on h2]
 show (if (xs.map v).length≤10000000 then _ else _) = _
 rw [if_pos (by rw [List.length_map]; exact h3)]
theorem eComp_on {α:Type} {d:DI} {g:DG} {de:DE} {k:Nat} {ix:List Nat} {σ:PSt} {u v:α→PV} {xs:List α} (h1:d σ = .ok (xs.map u)) (h2:∀ x∈xs,turnF g de (inn k ix σ) (u x) = .ok (v x)) (h3:xs.length≤10000000):eComp d g de k ix σ = .ok (.lst (xs.map v)):=by
 unfold eComp; rw [cVal_on h1 h2 h3]; rfl
theorem turnN {k:Nat} {de:DE} {σ:PSt} {p:PV}:turnF (gN k) de σ p = noErr (de (σ.set k (some (.sh p)))):=rfl
@[simp] theorem sApp_o {i:Nat} {d:DE} {σ:PSt} {xs:List PV} {p:PV} (h:σ[i]? = some (some (.own xs))) (hl:xs.length < 10000000) (hd:d σ = .ok p):sApp i d σ = .ok (.next (σ.set i (some (.own (xs++[p]))))):=by
 unfold sApp; rw [h]; simp only [hl,if_true,hd]; rfl
@[simp] theorem sShare_o {i:Nat} {σ:PSt} {d:DS} {xs:List PV} (h:σ[i]? = some (some (.own xs))):sShare i d σ = d (σ.set i (some (.sh (.lst xs)))):=by unfold sShare; rw [h]
theorem sOwn_0 {i:Nat} {σ:PSt}:sOwn i aNil σ = .ok (.next (σ.set i (some (.own [])))):=rfl
end G
namespace GS
open PySem PySem.W PySem.Calls PyProof.Rows
section
variable {prog:Program} {w:World} {A:Around} {E:Value→Shared→Prop} {s:Shared}
end
structure ZG (xs ys:Array Value) (lo:Addr) (h:Heap) (as:List Addr):Prop where
 rise:as.Pairwise (· < ·)
 above:∀ a∈as,lo < a
 pairs:∀ (j:Nat) (a:Addr),as[j]? = some a→∃ x y,xs[j]? = some x∧ys[j]? = some y∧IsPair h a x y
section
variable {prog:Program} {w:World} {A:Around} {s:Shared} {R:Result→Shared→Prop} {xs ys:Array Value}
namespace FZ
end FZ
end
end GS
namespace G
open PySem PySem.Spec PyProof.Rows L2 GS HM
section
variable {X:Cx} {pins:List (Addr × Obj)} {σ:L2.St} {H:Hp} {s:Shared} {h':Heap}
end
section
variable {X:Cx}
end
section
variable {X:Cx} {H0 Hs0:Hp} {a b:Expr} {da db:DE} {p p2 pos pos2:Pos}
end
end G
namespace HM
end HM
namespace G
open PySem PySem.Spec PyProof.Rows L2 HM
end G
namespace G
open PySem PySem.Spec PyProof.Rows L2 GS HM
section
variable {X:Cx}
end
section
variable {X:Cx} {H0 Hs0:Hp} {a b:Expr} {da db:DE} {pos np apos cpos p p2 pos2:Pos} {x:Str}
end
end G
namespace HM
section
variable {cs cs' l:List Pt} (P:Poly cs l) (P':Poly cs' l)
include P
include P'
end
end HM
namespace HM
section
variable {cs l l':List Pt}
end
end HM
namespace G
open PySem PySem.Spec PyProof.Rows L2 GS HM
section
variable {X:Cx} {pins:List (Addr × Obj)} {τ:L2.St} {H:Hp} {s:Shared}
end
section
variable {X:Cx}
end
def eCh (g g':PV→PV→Res PV) (a b c:DE):DE:=fun σ=>(a σ).bind fun p=>(b σ).bind fun q=>(g p q).bind fun r=>(asB r).bind fun k=>if k = true then (c σ).bind fun t=>g' q t else .ok (.bl false)
section
variable {X:Cx} {H0 Hs0:Hp} {a b c:Expr} {da db dc:DE} {pos:Pos}
theorem chain3 {g g':PV→PV→Res PV} {τ:L2.St} {H:Hp} {Q:VK} (h:RE X H0 Hs0 (eCh g g' da db dc) τ H Q) :
  RE X H0 Hs0 da τ H fun x H1=>RE X H0 Hs0 db τ H1 fun y H2=>∃ Hs p q,Same Hs H2∧Rep X.K Hs x p∧Rep X.K Hs y q∧Ret X.K Hs H2 (g p q) (ErrOk X H0 Hs0) fun z H3=>∃ k,z = .bl k ∧
   (if k = true then RE X H0 Hs0 dc τ H3 fun w H4=>∃ Hs p q,Same Hs H4∧Rep X.K Hs y p∧Rep X.K Hs w q∧Ret X.K Hs H4 (g' p q) (ErrOk X H0 Hs0) Q else Q (.bl false) H3):=by
 obtain ⟨Hs,σ,S,h⟩:=h
 refine ⟨Hs,σ,S,Ret.mono (Ret.bind h) fun x H1 ⟨Hs1,p,g1,r1,h1⟩=>?_⟩
 refine ⟨Hs1,σ,S.grow g1,Ret.mono (Ret.bind h1) fun y H2 ⟨Hs2,q,g2,r2,h2⟩=>?_⟩
 refine ⟨Hs2,p,q,g2.i,r1.mono g2.s,r2,Ret.mono (Ret.bind h2) fun z H3 ⟨Hs3,rz,g3,r3,h3⟩=>?_⟩
 cases rz with
 | bl k =>
  refine ⟨k,r3.bl_inv,?_⟩
  cases k with
  | true =>
   rw [if_pos rfl]
   have h4:Ret X.K Hs3 H3 ((dc σ).bind fun t=>g' q t) (ErrOk X H0 Hs0) Q:=h3
   exact ⟨Hs3,σ,((S.grow g1).grow g2).grow g3,Ret.mono (Ret.bind h4) fun w H4 ⟨Hs4,t,g4,r4,h5⟩=>⟨Hs4,q,t,g4.i,(r2.mono g3.s).mono g4.s,r4,h5⟩⟩
  | false =>
   rw [if_neg (by decide)]
   have h4:Ret X.K Hs3 H3 (.ok (.bl false)) (ErrOk X H0 Hs0) Q:=h3
   exact h4 _ Hs3 H3 (.refl g3.i) (.bl false)
 | _=>exact h3.elim
theorem qt_chain {op op':CmpOp} {g g':PV→PV→Res PV} (ho:OpP X (compareOp op) g) (ho':OpP X (compareOp op') g') (ha:QE X H0 Hs0 a da) (hb:QE X H0 Hs0 b db) (hc:QE X H0 Hs0 c dc) (hm:lastMarks [op,op'] [b,c] = false) :
  QT X H0 Hs0 (.Compare a [op,op'] [b,c] pos) (tV (eCh g g' da db dc)):=PT.imp (pt_chain (ho (ErrOk X H0 Hs0)) (ho' (ErrOk X H0 Hs0)) ha hb hc hm) fun τ H Q h=>chain3 (val_test h)
theorem marks2 {op op':CmpOp} (h:noSet c = true):lastMarks [op,op'] [b,c] = false:=marks_no (op:=op') h
theorem xtchain {op op':CmpOp} {g g':PV→PV→Res PV} (ho:OpP X (compareOp op) g) (ho':OpP X (compareOp op') g') (ha:XE X H0 Hs0 a da) (hb:XE X H0 Hs0 b db) (hc:XE X H0 Hs0 c dc) (hm:noSet c = true:=by rfl) :
  XT X H0 Hs0 (.Compare a [op,op'] [b,c] pos) (tV (eCh g g' da db dc)):=⟨qt_chain ho ho' ha.h hb.h hc.h (marks2 hm)⟩
end
section
variable {X:Cx} {H0 Hs0:Hp} {pos np apos cpos:Pos} {x:Str}
end
end G
namespace G
open PySem PySem.Spec PyProof.Rows L2 GS HM
section
variable {prog:Program} {w:World} {A:Around} {R:Result→Shared→Prop} {s:Shared} {I l S:Addr} {items:Array Value} {ps:List Pt} {h₀:Heap}
end
section
variable {X:Cx}
end
end G
namespace G
open PySem PySem.Spec PyProof.Rows L2 GS HM
section
variable {X:Cx} {pins:List (Addr × Obj)} {H0 Hs0:Hp} {σ:PSt} {τ:L2.St} {tg elt iter cd:Expr} {scope:Scope} {pos:Pos} {cl:List (Str × Addr)} {N:List Str} {k:Nat} {ix:List Nat} {g:DG} {de:DE} {tc:DT}
variable {d:DI}
structure BlkOkI (X:Cx) (tg elt cd:Expr) (scope:Scope) (cl:List (Str × Addr)) (N:List Str) (k:Nat) (ix:List Nat) (g:DG) (tc:DT) (de:DE):Prop where
 O:CompOk X scope cl N k ix
 calm:X.calm = true
 hg:∀ (pins:List (Addr × Obj)) (fp:List Addr) (C:Addr) (s:Shared) (H A B:Hp),QG (cxC X pins scope cl C N fp s H) A B tg g
 he:∀ (pins:List (Addr × Obj)) (fp:List Addr) (C:Addr) (s:Shared) (H A B:Hp),QE (cxC X pins scope cl C N fp s H) A B elt de
 ht:∀ (pins:List (Addr × Obj)) (fp:List Addr) (C:Addr) (s:Shared) (H A B:Hp),QT (cxC X pins scope cl C N fp s H) A B cd tc
 gk:∀ σ p σ1,g p (inn k ix σ) = .ok σ1→(∀ (j:Nat) (sv:SV),(inn k ix σ)[j]? = some (some sv)→σ1[j]? = some (some sv))∧σ1.length = (inn k ix σ).length
end
end G
namespace G
open PySem PySem.Spec PyProof.Rows L2 GS HM
def intsB:List Value→List Int→Bool
 | [],[]=>true
 | .int i _::us,n::ns=>decide (i = n) && intsB us ns
 | _,_=>false
def conIn (K:PySem.W.Frag) (C:Addr) (ns:List Int):Bool:=match K.lookup C with
 | some ⟨.type "tuple",_,.seq its _,_⟩=>decide (its.size≤100) && intsB its.toList ns
 | _=>false
structure ConAt (K:PySem.W.Frag) (x:Str) (ns:List Int):Prop where
 ex:∃ C:Addr,ClsIs K x C∧conIn K C ns = true
section
variable {X:Cx} {H0 Hs0:Hp} {x:Str} {pos:Pos} {ns:List Int}
end
end G
namespace GS
open PySem
namespace FD
end FD
section
variable {prog:Program} {w:World} {A:Around} {E:Value→Shared→Prop} {s:Shared}
end
end GS
namespace GS
open PySem PySem.W PySem.Calls PyProof.Rows
section
variable {prog:Program} {w:World} {A:Around} {E:Value→Shared→Prop} {s:Shared} {it d:Addr} {es:Array DictEntry} {ep i:Nat}
end
end GS
namespace G
open PySem PySem.Spec PyProof.Rows L2 GS HM
section
variable {X:Cx} {pins:List (Addr × Obj)} {τ:L2.St} {H:Hp} {s:Shared}
end
section
variable {X:Cx} {H0 Hs0:Hp} {a:Expr} {da:DE} {p p2 pos pos2:Pos}
end
end G
namespace G
open PySem PySem.Spec PyProof.Rows L2 GS HM
section
variable {X:Cx} {H0 Hs0:Hp} {a:Expr} {da:DE} {pos pos':Pos} {x:Str}
end
end G
namespace HM
inductive Comb (L:List (Int × Int × Int)):Int→Int→Int→Prop where
 | mem {a b c:Int}:(a,b,c)∈L→Comb L a b c
 | add {a b c a' b' c' k k':Int}:0 < k→0 < k'→Comb L a b c→Comb L a' b' c'→Comb L (k * a + k' * a') (k * b + k' * b') (k * c + k' * c')
end HM
namespace G
open PySem PySem.Spec PyProof.Rows L2 GS HM
section
variable {X:Cx} {H0 Hs0:Hp} {a b:Expr} {da db:DE} {pos:Pos}
theorem ret_str {K:PySem.W.Frag} {Hs H:Hp} {x:Str} {EO:Str→Prop} {Q:VK} (h:Ret K Hs H (.ok (.str x)) EO Q) (s:Same Hs H):Q (.str x) H:=h _ Hs H (.refl s) (.str x)
def pAddS:PV→PV→Res PV
 | .str x,.str y=>if x.length + y.length≤10000000 then .ok (.str (x++y)) else .stuck
 | p,q=>pAdd p q
theorem opp_addS:OpP X (binaryOp .Add) pAddS:=by
 intro EO pins s σ H x y v u Q I rx ry h
 obtain ⟨Hs,p,q,i,rp,rq,h⟩:=h
 unfold pAddS at h
 split at h
 ·split at h
  ·rename_i hl
   cases rp.str_inv; cases rq.str_inv
   exact op_add_str pins s σ H _ _ v u Q I rx ry ⟨_,_,rfl,rfl,by rw [sizeLine_eq]; omega,ret_str h i⟩
  ·exact h.elim
 ·exact opp_add EO pins s σ H x y v u Q I rx ry ⟨Hs,_,_,i,rp,rq,h⟩
@[simp] theorem pAddS_i {i j:Int}:pAddS (.int i) (.int j) = .ok (.int (i + j)):=rfl
theorem pAddS_s {x y:Str} (h:x.length + y.length≤10000000):pAddS (.str x) (.str y) = .ok (.str (x++y)):=if_pos h
def pMulS:PV→PV→Res PV
 | .str x,.int n=>if 0≤n∧n≤1000∧x.length≤1000 then .ok (.str (Txt.mul x n)) else .stuck
 | p,q=>pMul p q
theorem mul_small {x:Str} {n:Int} (h:0≤n∧n≤1000∧x.length≤1000):MulOk x n:=by
 obtain ⟨h0,h1,h2⟩:=h
 refine ⟨?_,fun h3 _=>?_,fun h3 _=>?_⟩
 ·rw [decide_eq_false (by omega),decide_eq_false (by omega)]; rfl
 ·have hn:0 < n:=by omega
  have:(1000:Int)≤(2 ^ 63 - 1) / n:=by
   refine (Int.le_ediv_iff_mul_le hn).mpr ?_
   omega
  omega
 ·have:x.length * n.toNat≤1000 * 1000:=Nat.mul_le_mul h2 (by omega)
  refine decide_eq_false (fun z=>?_)
  rw [sizeLine_eq] at z
  omega
theorem opp_mulS:OpP X (binaryOp .Mult) pMulS:=by
 intro EO pins s σ H x y v u Q I rx ry h
 obtain ⟨Hs,p,q,i,rp,rq,h⟩:=h
 unfold pMulS at h
 split at h
 ·split at h
  ·rename_i hl
   cases rp.str_inv; cases rq.int_inv
   obtain ⟨t,rfl⟩:=rx
   obtain ⟨t',rfl⟩:=ry
   exact SB.mul (mul_small hl) fun t' k=>⟨.str _,H,I.tok _,⟨_,rfl⟩,ret_str h i⟩
  ·exact h.elim
 ·exact opp_mul EO pins s σ H x y v u Q I rx ry ⟨Hs,_,_,i,rp,rq,h⟩
def pInS:PV→PV→Res PV
 | .str x,.str y=>.ok (.bl (Txt.contains y x))
 | _,_=>.stuck
theorem opp_inS:OpP X (compareOp .In) pInS:=by
 intro EO pins s σ H x y v u Q I rx ry h
 obtain ⟨Hs,p,q,i,rp,rq,h⟩:=h
 unfold pInS at h
 split at h
 ·cases rp.str_inv; cases rq.str_inv
  exact op_in_str pins s σ H _ _ v u Q I rx ry ⟨_,_,rfl,rfl,ret_bl h i⟩
 ·exact h.elim
def pIxS:PV→PV→Res PV
 | .str x,.int i=>if x.length≤10000000 then match atI x.cps.toList i with
  | some c=>.ok (.str ⟨#[c]⟩)
  | none=>.stuck else .stuck
 | _,_=>.stuck
theorem q_ixS (ha:QE X H0 Hs0 a da) (hb:QE X H0 Hs0 b db) (hs:PlainIx b):QE X H0 Hs0 (.Subscript a b pos) (e2 pIxS da db) :=
 PE.imp (pe_ix ix_str ha hb hs) fun τ H Q h=>RE.mono (two h) fun x H1 h1=>RE.mono h1 fun y H2 ⟨Hs,p,q,i,rp,rq,h2⟩=>by
  unfold pIxS at h2
  split at h2
  ·split at h2
   ·rename_i hl
    split at h2
    ·rename_i c hc
     cases rp.str_inv; cases rq.int_inv
     exact ⟨_,_,c,rfl,rfl,by rw [sizeLine_eq]; omega,hc,ret_str h2 i⟩
    ·exact h2.elim
   ·exact h2.elim
  ·exact h2.elim
theorem xiS (ha:XE X H0 Hs0 a da) (hb:XE X H0 Hs0 b db) (hs:noSlice b = true:=by rfl):XE X H0 Hs0 (.Subscript a b pos) (e2 pIxS da db):=⟨q_ixS ha.h hb.h (plain_ix hs)⟩
def bLenS:List PV→Res PV
 | [.str x]=>if x.length≤10000000 then .ok (.int x.length) else .stuck
 | _=>.stuck
theorem cp_lenS:CallP X (.builtin "len") bLenS:=by
 intro EO pins s σ H xs us Q I r h
 obtain ⟨Hs,ps,i,rp,h⟩:=h
 unfold bLenS at h
 split at h
 ·split at h
  ·rename_i hl
   obtain ⟨v,rfl,r1⟩:=rp.one_inv
   cases r1.str_inv
   exact call_len_str pins s σ H _ us Q I r ⟨_,rfl,by rw [sizeLine_eq]; omega,ret_int h i⟩
  ·exact h.elim
 ·exact h.elim
def bStr:List PV→Res PV
 | [.int i]=>if i.natAbs.log2 < 1920 then .ok (.str (toString i)) else .stuck
 | _=>.stuck
theorem cp_str:CallP X (.type "str") bStr:=by
 intro EO pins s σ H xs us Q I r h
 obtain ⟨Hs,ps,i,rp,h⟩:=h
 unfold bStr at h
 split at h
 ·split at h
  ·rename_i hl
   obtain ⟨v,rfl,r1⟩:=rp.one_inv
   cases r1.int_inv
   exact call_str_int pins s σ H _ us Q I r ⟨_,rfl,hl,ret_str h i⟩
  ·exact h.elim
 ·exact h.elim
def bOrd:List PV→Res PV
 | [.str x]=>if x.length = 1 then .ok (.int (x.cps.getD 0 0:Nat)) else .stuck
 | _=>.stuck
theorem cp_ord:CallP X (.builtin "ord") bOrd:=by
 intro EO pins s σ H xs us Q I r h
 obtain ⟨Hs,ps,i,rp,h⟩:=h
 unfold bOrd at h
 split at h
 ·split at h
  ·rename_i hl
   obtain ⟨v,rfl,r1⟩:=rp.one_inv
   cases r1.str_inv
   exact call_ord pins s σ H _ us Q I r ⟨_,rfl,hl,ret_int h i⟩
  ·exact h.elim
 ·exact h.elim
theorem bw_ord:bootBuiltins "ord" = some (.builtin "ord"):=by decide +kernel
end
end G
namespace G
open PySem PySem.Spec PyProof.Rows L2 GS HM
section
variable {X:Cx} {H0 Hs0:Hp} {a b:Expr} {da db:DE} {pos:Pos}
def rSlS:V→Option Int→Option Int→Hp→VK→Prop:=fun x lo hi H Q=>∃ z,x = .str z∧z.length≤sizeLine∧Q (.str (Txt.slice z lo hi)) H
theorem sl_str:SlR X rSlS:=by
 intro pins s σ H x v vl vu lo hi sl Q I rx hs pl pu h
 obtain ⟨z,rfl,hz,q⟩:=h
 obtain ⟨t,rfl⟩:=rx
 refine ⟨"str",_,F.slot_str_getitem.lookup,typeIs_str _ _ _,?_⟩
 have fin:∀ t' k,EP X pins σ Q (.str (Txt.slice z lo hi) t') { s with toks:=k }:=fun t' k=>⟨.str _,H,I.tok _,⟨_,rfl⟩,q⟩
 obtain ⟨o,ho,hc,hd⟩:=hs
 cases pl with
 | none =>
  cases pu with
  | none=>exact wpAny_getItem_str_slice (l:=none) (u:=none) (st:=none) ⟨o,ho,hc,hd⟩ rfl (post_val_or_str ⟨Nat.le_trans (Txt.slice_le z _ _) hz,fin⟩)
  | int j uj=>exact wpAny_getItem_str_slice (l:=none) (u:=some (j,uj)) (st:=none) ⟨o,ho,hc,hd⟩ rfl (post_val_or_str ⟨Nat.le_trans (Txt.slice_le z _ _) hz,fin⟩)
 | int i ui =>
  cases pu with
  | none=>exact wpAny_getItem_str_slice (l:=some (i,ui)) (u:=none) (st:=none) ⟨o,ho,hc,hd⟩ rfl (post_val_or_str ⟨Nat.le_trans (Txt.slice_le z _ _) hz,fin⟩)
  | int j uj=>exact wpAny_getItem_str_slice (l:=some (i,ui)) (u:=some (j,uj)) (st:=none) ⟨o,ho,hc,hd⟩ rfl (post_val_or_str ⟨Nat.le_trans (Txt.slice_le z _ _) hz,fin⟩)
def pSlS (p:PV) (lo hi:Option Int):Res PV:=match p with
 | .str z=>if z.length≤10000000 then .ok (.str (Txt.slice z lo hi)) else .stuck
 | _=>.stuck
def eSlS (a:DE) (lo hi:DO):DE:=fun σ=>(a σ).bind fun p=>(lo σ).bind fun l=>(hi σ).bind fun h=>pSlS p l h
theorem q_sliceS {lo hi:Option Expr} {dl dh:DO} {p2:Pos} (ha:QE X H0 Hs0 a da) (hl:QO X H0 Hs0 lo dl) (hh:QO X H0 Hs0 hi dh):QE X H0 Hs0 (.Subscript a (.Slice lo hi none p2) pos) (eSlS da dl dh) :=
 PE.imp (pe_slice sl_str ha hl hh) fun τ H Q ⟨Hs,σ,S,h⟩=>by
  refine ⟨Hs,σ,S,Ret.mono (Ret.bind h) fun x H1 ⟨Hs1,p,g1,r1,h1⟩=>⟨Hs1,σ,S.grow g1,RetO.mono (Ret.bindO h1) fun l H2 ⟨Hs2,g2,h2⟩=>⟨Hs2,σ,(S.grow g1).grow g2,RetO.mono (Ret.bindO h2) fun u H3 ⟨Hs3,g3,h3⟩=>?_⟩⟩⟩
  have r3:=(r1.mono g2.s).mono g3.s
  have i:=g3.i
  unfold pSlS at h3
  split at h3
  ·split at h3
   ·cases r3.str_inv
    exact ⟨_,rfl,by rw [sizeLine_eq]; omega,ret_str h3 i⟩
   ·exact h3.elim
  ·exact h3.elim
theorem xslS {lo hi:Option Expr} {dl dh:DO} {p2:Pos} (ha:XE X H0 Hs0 a da) (hl:XO X H0 Hs0 lo dl) (hh:XO X H0 Hs0 hi dh):XE X H0 Hs0 (.Subscript a (.Slice lo hi none p2) pos) (eSlS da dl dh):=⟨q_sliceS ha.h hl.h hh.h⟩
@[simp] theorem eSlS_s {lo hi:DO} {σ:PSt}:eSlS da lo hi σ = (da σ).bind fun p=>(lo σ).bind fun l=>(hi σ).bind fun h=>pSlS p l h:=rfl
end
end G
namespace G
open PySem PySem.Spec PyProof.Rows L2 GS HM
section
variable {X:Cx} {H0 Hs0:Hp} {a b:Expr} {da db:DE} {pos apos cpos:Pos}
def rStarts:V→List V→Hp→VK→Prop:=fun x xs H Q=>∃ z y,x = .str z∧xs = [.str y]∧Q (.bl (Txt.startswith z y)) H
theorem mt_starts:MtR X "str.startswith" rStarts:=by
 intro pins s σ H x vs v us Q I rx rv h
 obtain ⟨z,y,rfl,rfl,q⟩:=h
 obtain ⟨t,rfl⟩:=rx
 obtain ⟨u,rfl,t',rfl⟩:=vals1 rv
 exact SC.startswith ⟨.bl _,H,I,rfl,q⟩
def rSplit:V→List V→Hp→VK→Prop:=fun x xs H Q=>∃ z y,x = .str z∧xs = [.str y]∧y.length≠0∧z.length≤sizeLine∧(Builtin.Str.partsBetween z (Builtin.Str.occurrences z y 0 z.length (z.length + 1)) y.length).length≤sizeLine∧1≤sizeLine ∧
 ∀ p,H p = none→Q (.ref p) (upd H p (.lst ((Txt.split z y).map V.str)))
theorem vals_strsFrom:∀ (tk:Nat) (xs:List Str),Vals (xs.map V.str) (strsFrom tk xs)
 | _,[]=>.nil
 | tk,x::xs=>.cons ⟨tk,rfl⟩ (vals_strsFrom (tk + 1) xs)
theorem mt_split:MtR X "str.split" rSplit:=by
 intro pins s σ H x vs v us Q I rx rv h
 obtain ⟨z,y,rfl,rfl,hy,hz,hz2,h1z,q⟩:=h
 obtain ⟨t,rfl⟩:=rx
 obtain ⟨u,rfl,t',rfl⟩:=vals1 rv
 have hy':(y.length == 0) = false:=by simpa using hy
 have one:∀ tk,Txt.split z y = [z]→EP X pins σ Q (.ref s.heap.objs.size) { s with toks:=tk,heap:=s.heap.push { cls:=.type "list",data:=.seq [Value.str z t].toArray } }:=fun tk e =>
  ⟨.ref _,_,I.lnew (t':=tk) (ys:=[V.str z]) (.cons ⟨t,rfl⟩ .nil) (by simpa using h1z),rfl,by have:=q _ I.fresh; rw [e] at this; exact this⟩
 cases h1:(decide (z.length < y.length) || decide (Builtin.Str.strKind z < Builtin.Str.strKind y))
 ·cases hf:(Builtin.Str.occurrences z y 0 z.length (z.length + 1)).isEmpty
  ·refine call_meets F.slot_str_split (typeIs_str _ _ _) F.entry_str_split (F.args_str_split_2 _ _) (meets_str_split_sep z y t t' h1 hy' hf hz hz2) ?_
   have e:Txt.split z y = Builtin.Str.partsBetween z (Builtin.Str.occurrences z y 0 z.length (z.length + 1)) y.length:=(if_neg (ne_true_of_eq_false h1)).trans (if_neg (ne_true_of_eq_false hf))
   refine ⟨.ref _,_,I.lnew (ys:=(Txt.split z y).map V.str) (by rw [e]; exact vals_strsFrom _ _) (by rw [List.length_map,e]; exact hz2),rfl,q _ I.fresh⟩
  ·exact call_meets F.slot_str_split (typeIs_str _ _ _) F.entry_str_split (F.args_str_split_2 _ _) (meets_str_split_not_found z y t t' h1 hy' hf) (one _ ((if_neg (ne_true_of_eq_false h1)).trans (if_pos hf)))
 ·exact call_meets F.slot_str_split (typeIs_str _ _ _) F.entry_str_split (F.args_str_split_2 _ _) (meets_str_split_cannot_occur z y t t' h1) (one _ (if_pos h1))
def eMt (g:Str→PV→Res PV) (a b:DE):DE:=fun σ=>(a σ).bind fun p=>match p with
 | .str z=>(b σ).bind fun q=>g z q
 | _=>.stuck
theorem q_mtS {g:Str→PV→Res PV} {name:Str} {id:String} {r:V→List V→Hp→VK→Prop} (slot:Slot "str" name id) (hty:typeOf (.builtin id) = pure (.type "method_descriptor")) (hm:MtR X id r)
  (hr:∀ (z:Str) (q:PV) (Hs H:Hp) (y:V) (Q:VK) (EO:Str→Prop),Same Hs H→Rep X.K Hs y q→Ret X.K Hs H (g z q) EO Q→r (.str z) [y] H Q)
  (ha:QE X H0 Hs0 a da) (hb:QE X H0 Hs0 b db)
  (hbase:attributeBase a name X.env (eval a X.env) = eval a X.env)
  (hfew:((backTo cpos (starEach [b] X.env)).all (fun x=>!x.1) && (backToKw cpos (keywordEach [] X.env)).all (fun x=>x.1.isSome)
   && decide (([b]:List Expr).length + ([]:List Keyword).length + (if ([]:List Keyword).isEmpty then 0 else 1) < 30)) = true)
  (hline:(apos.endLine == cpos.line) = true) (hs:starEach [b] X.env = [(false,eval b X.env)]) :
  QE X H0 Hs0 (.Call (.Attribute a name apos) [b] [] cpos) (eMt g da db):=by
 intro pins s τ H Q I ⟨Hs,σ,S,h⟩
 refine pe_bm PySem.F.plainAttrs_str slot hty hm ha (pa_cons hb pa_nil hs) hbase hfew hline hs rfl pins s τ H Q I ⟨Hs,σ,S,Ret.mono (Ret.bind h) fun x H1 ⟨Hs1,p,g1,r1,h1⟩=>?_⟩
 split at h1
 ·rename_i z
  cases r1.str_inv
  refine ⟨rfl,Hs1,σ,S.grow g1,Ret.mono (Ret.bind h1) fun y H2 ⟨Hs2,q,g2,r2,h2⟩=>hr z q Hs2 H2 y Q _ g2.i r2 h2⟩
 ·exact h1.elim
def pStarts (z:Str):PV→Res PV
 | .str y=>.ok (.bl (Txt.startswith z y))
 | _=>.stuck
def pSplit (z:Str):PV→Res PV
 | .str y=>if y.length≠0∧z.length≤10000000∧(Builtin.Str.partsBetween z (Builtin.Str.occurrences z y 0 z.length (z.length + 1)) y.length).length≤10000000 then .ok (.lst ((Txt.split z y).map PV.str)) else .stuck
 | _=>.stuck
theorem reps_strs {K:PySem.W.Frag} {H:Hp}:∀ xs:List Str,Reps K H (xs.map V.str) (xs.map PV.str)
 | []=>.nil
 | x::xs=>.cons (.str x) (reps_strs xs)
theorem xstarts (ha:XE X H0 Hs0 a da) (hb:XE X H0 Hs0 b db) (hbase:attributeBase a "startswith" X.env (eval a X.env) = eval a X.env:=by rfl)
  (hfew:((backTo cpos (starEach [b] X.env)).all (fun x=>!x.1) && (backToKw cpos (keywordEach [] X.env)).all (fun x=>x.1.isSome)
   && decide (([b]:List Expr).length + ([]:List Keyword).length + (if ([]:List Keyword).isEmpty then 0 else 1) < 30)) = true:=by rfl)
  (hline:(apos.endLine == cpos.line) = true:=by rfl) (hst:noStar b = true:=by rfl):XE X H0 Hs0 (.Call (.Attribute a "startswith" apos) [b] [] cpos) (eMt pStarts da db) :=
 ⟨q_mtS PySem.F.slot_str_startswith PySem.F.type_str_startswith mt_starts (fun z q Hs H y Q EO i ry h=>by
  unfold pStarts at h
  split at h
  ·cases ry.str_inv
   exact ⟨z,_,rfl,rfl,ret_bl h i⟩
  ·exact h.elim) ha.h hb.h hbase hfew hline (star_cons hst)⟩
theorem xsplit (ha:XE X H0 Hs0 a da) (hb:XE X H0 Hs0 b db) (hbase:attributeBase a "split" X.env (eval a X.env) = eval a X.env:=by rfl)
  (hfew:((backTo cpos (starEach [b] X.env)).all (fun x=>!x.1) && (backToKw cpos (keywordEach [] X.env)).all (fun x=>x.1.isSome)
   && decide (([b]:List Expr).length + ([]:List Keyword).length + (if ([]:List Keyword).isEmpty then 0 else 1) < 30)) = true:=by rfl)
  (hline:(apos.endLine == cpos.line) = true:=by rfl) (hst:noStar b = true:=by rfl):XE X H0 Hs0 (.Call (.Attribute a "split" apos) [b] [] cpos) (eMt pSplit da db) :=
 ⟨q_mtS PySem.F.slot_str_split PySem.F.type_str_split mt_split (fun z q Hs H y Q EO i ry h=>by
  unfold pSplit at h
  split at h
  ·split at h
   ·rename_i hc
    cases ry.str_inv
    exact ⟨z,_,rfl,rfl,hc.1,by rw [sizeLine_eq]; omega,by rw [sizeLine_eq]; omega,by rw [sizeLine_eq]; omega,fun p hp=>h _ _ _ (.new i hp) (.lst upd_same (reps_strs _))⟩
   ·exact h.elim
  ·exact h.elim) ha.h hb.h hbase hfew hline (star_cons hst)⟩
end
end G
namespace G
open PySem PySem.Spec PyProof.Rows L2 GS HM
def Itx (x:Str):It where
 go:=fun i _=>i < x.cps.size
 yld:=fun i H v H'=>H' = H∧∃ c,x.cps[i]? = some c∧v = .str ⟨#[c]⟩
 stop:=fun i _=>x.cps.size≤i
theorem turn_strT {P:Program} {w:World} {K:PySem.W.Frag} {tg:Expr} (it:Addr) (x:Str) (t:Tok) (T:String) (hn:["enumerate","zip","dict_itemiterator","dict_reverseitemiterator","odict_iterator","itertools.zip_longest","itertools.pairwise"].contains T = false)
  (W:∀ A:Around,A.handled = none→Walks P w A it [it] [it] x.cps.size (SignAt x) (fun i h=>h.IsStrIter it T x t i))
  (hend:∀ (A:Around) (s:Shared) (i:Nat) (Q:Option Value→Shared→Prop) (E:Value→Shared→Prop),A.handled = none→s.heap.IsStrIter it T x t i→x.cps[i]? = none→(∀ h',Heap.ExtBut it s.heap h'→Q none { s with heap:=h' })→wpAny (model P w) A (pyNext (.ref it)) Q E s)
  (hself:∀ (A:Around) (i:Nat) (s:Shared) (Q:Value→Shared→Prop) (E:Value→Shared→Prop),s.heap.IsStrIter it T x t i→Q (.ref it) s→wpAny (model P w) A (pyIter (.ref it)) Q E s) :
  Turn P w K tg (Itx x) [it] it (fun i h=>h.IsStrIter it T x t i) where
 mem:=by simp
 obj:=fun i h st b hb=>by
  have e:b = it:=by simpa using hb
  subst e
  obtain ⟨o,ho,hc,hd⟩:=st
  exact ⟨o,ho,fun v z=>by rw [hd] at z; cases z⟩
 keep:=fun i h h' st k=>by
  obtain ⟨o,ho,hc,hd⟩:=st
  exact ⟨o,k it (by simp) _ ho,hc,hd⟩
 item:=by
  intro X hP hw hK hc i pins s σ H E I hf st hg
  subst hP hw hK
  obtain ⟨f0,f1,f2,f3,f4,f5⟩:=hf it (by simp)
  refine (W X.A (I.ok.hd hc)).item i s _ _ hg st fun v h' tk hv st' kk=>?_
  obtain ⟨c,u,hcx,rfl⟩:=hv
  have I1:Inv X pins σ H { s with heap:=h',toks:=tk }:=I.turned (fun b o hb e=>kk b o (by simpa using hb) e) f0 f1 f3 f4 f5
  obtain ⟨o,ho,hcl,hd⟩:=id st'
  exact ⟨_,rfl,go_of (s:={ s with heap:=h',toks:=tk }) (n:=T) ho hcl hd hn ⟨.str ⟨#[c]⟩,H,I1,⟨u,rfl⟩,⟨rfl,c,hcx,rfl⟩,st',fun b hb=>(hf b hb).1⟩⟩
 done:=by
  intro X hP hw hK hc i pins s σ H E I hf st hg
  subst hP hw hK
  obtain ⟨f0,f1,f2,f3,f4,f5⟩:=hf it (by simp)
  exact hend X.A s i _ _ (I.ok.hd hc) st (by have:x.cps.size≤i:=hg; simp [this]) fun h' eb=>⟨rfl,I.turned (t':=s.toks) (fun b o hb e=>eb b o hb e) f0 f1 f3 f4 f5⟩
 self:=fun A i s Q E st h=>hself A i s Q E st h
section
variable {X:Cx} {H0 Hs0:Hp} {a tg:Expr} {da:DE}
def iStr (tl:TE):TI:=fun σ H R=>tl σ H fun x H1=>∃ z,x = .str z∧R (Itx z) H1
theorem pi_str {l:Expr} {tl:TE} (hl:PE X l tl):PI X tg l (iStr tl):=by
 intro pins s σ H R I h
 refine thn (hl pins s σ H _ I h) fun v s1 ⟨x,H1,I1,r1,q1⟩=>?_
 obtain ⟨z,rfl,q⟩:=q1
 obtain ⟨t,rfl⟩:=r1
 cases ha:z.cps.all (· < 128)
 ·refine wpAny_pyIter_wide ha ?_
  refine ⟨s1.heap.objs.size,[s1.heap.objs.size],_,_,H1,rfl,I1.kept (t':=s1.toks) fun b o e=>Heap.get?_push_of_some _ e,turn_strT _ z t "str_iterator" (by decide) (fun A hA=>Walks.strWide hA _ z t) (fun A s i Q E hh st hx hQ=>wpAny_pyNext_wide_end hh st hx hQ) (fun A i s Q E st h=>wpAny_pyIter_striter_wide st h),⟨_,Heap.get?_push_size _ rfl,rfl,rfl⟩,fun b hb=>?_,q⟩
  have e:b = s1.heap.objs.size:=by simpa using hb
  subst e
  exact I1.fpOk (Nat.le_refl _) (I1.hok.fresh (Nat.le_refl _))
 ·refine wpAny_pyIter_ascii ha ?_
  refine ⟨s1.heap.objs.size,[s1.heap.objs.size],_,_,H1,rfl,I1.kept (t':=s1.toks) fun b o e=>Heap.get?_push_of_some _ e,turn_strT _ z t "str_ascii_iterator" (by decide) (fun A hA=>Walks.strAscii hA _ z t) (fun A s i Q E hh st hx hQ=>wpAny_pyNext_ascii_end hh st hx hQ) (fun A i s Q E st h=>wpAny_pyIter_striter_ascii st h),⟨_,Heap.get?_push_size _ rfl,rfl,rfl⟩,fun b hb=>?_,q⟩
  have e:b = s1.heap.objs.size:=by simpa using hb
  subst e
  exact I1.fpOk (Nat.le_refl _) (I1.hok.fresh (Nat.le_refl _))
def signs (z:Str):List PV:=z.cps.toList.map fun c=>PV.str ⟨#[c]⟩
theorem jok_str {K:PySem.W.Frag} {Hs:Hp} {z:Str}:JOk K (Itx z) Hs (signs z):=by
 intro i H Hs' e1 e2
 have hl:(signs z).length = z.cps.size:=by simp [signs]
 rw [hl]
 refine ⟨fun hi=>⟨hi,fun x H' ⟨e,c,hc,y⟩=>⟨e,.str ⟨#[c]⟩,?_,?_⟩⟩,fun hi=>hi⟩
 ·unfold signs
  rw [List.getElem?_map,Array.getElem?_toList,hc]; rfl
 ·rw [y]; exact .str _
def asSigns:PV→Res (List PV)
 | .str z=>.ok (signs z)
 | _=>.stuck
def itS (d:DE):DI:=fun σ=>(d σ).bind asSigns
theorem qi_str (ha:QE X H0 Hs0 a da):QI X H0 Hs0 tg a (itS da):=by
 intro pins s τ H R I ⟨Hs,σ,S,h⟩
 refine pi_str ha pins s τ H R I ⟨Hs,σ,S,?_⟩
 unfold itS at h
 cases e:da σ with
 | err c=>rw [e] at h; exact h
 | stuck=>rw [e] at h; exact h
 | ok p =>
  rw [e] at h
  cases p with
  | str z =>
   intro v Hs1 H1 g1 r1
   cases r1.str_inv
   exact ⟨z,rfl,h _ _ _ g1 jok_str⟩
  | _=>exact h.elim
theorem xseqS (ha:XE X H0 Hs0 a da):XI X H0 Hs0 tg a (itS da):=⟨qi_str ha.h⟩
@[simp] theorem itS_s {σ:PSt}:itS da σ = (da σ).bind asSigns:=rfl
@[simp] theorem asSigns_s {z:Str}:asSigns (.str z) = .ok (signs z):=rfl
end
end G
namespace G
open PySem PySem.Spec PyProof.Rows L2 GS HM
theorem note_env {e:Value} {env env':Env} (h:env.frame = env'.frame):noteFrame e env = noteFrame e env':=by
 unfold noteFrame PySem.frameOf
 rw [h]
theorem hide_funs {B h4 h5:Heap} {C:Addr} {l:List Env} (hl:h4.FunFrames B l) (hC:C ∉ frs l) (k:∀ b o,b≠C→h4.get? b = some o→(∀ vs,o.data≠.fields vs)→h5.get? b = some o):h5.FunFrames (B.hide C) l:=by
 have h1:h4.FunFrames (B.hide C) l:=PySem.W.funFrames_base (fun b o e=>Heap.of_hide e) hl
 have h2:(PySem.W.hideAll h4 [C]).FunFrames (B.hide C) l:=PySem.W.funFrames_hideAll h1 fun env he a ha z=>hC (frs_mem env he C (by
  have:a = C:=by simpa using ha
  rw [← this]; exact z))
 refine h2.of_keeps fun b o e n=>⟨o,k b o (fun z=>?_) (PySem.W.of_hideAll _ e) n,rfl⟩
 rw [z,PySem.W.hideAll_none [C] (by simp)] at e
 cases e
section
variable {X:Cx} {pins:List (Addr × Obj)} {H0 Hs0 H1:Hp} {τ:L2.St} {s1 s':Shared} {c:Str} {C:Addr} {m:Str→Option Value} {e:Value} {cenv':Env}
def LetGo (X:Cx) (C:Addr) (e:Value) (s'':Shared):Prop:=∃ m,s''.heap.Ns C m∧∀ h',Heap.SameBut C s''.heap h'→∀ cenv:Env,cenv.locals = C →
 wpAny (model X.prog X.w) X.A (PySem.passOn "comprehension.variables-let-go" e cenv:Sem Value) (fun _ _=>False) X.xe { s'' with heap:=h' }
theorem comp_err (hst:X.stack = X.env::X.outer) (hE:ErrOk X H0 Hs0 c) (I9:Inv X pins τ H1 s1) (fC:FpOk X pins H1 C) (hCf:C ∉ frs X.stack) (hC:s1.heap.Ns C m)
  (cx:CXG X.prog X.w X.stack H1 s1 (fun cls _ H2=>∃ (C1:Addr) (Hs1:Hp),cls = .ref C1∧ClsIs X.K c C1∧Grow Hs0 H0 Hs1 H2) e s') (hcf:cenv'.frame = X.env.frame) :
  notedBy (model X.prog X.w) X.A cenv' (LetGo X C) e s':=by
 obtain ⟨ea,C1,B,a0,H2,rfl,hos,hbare,fl,ux,hok,C1',Hs1,ecls,hc,g⟩:=cx
 cases ecls
 have hfr:X.A.frames = some (X.env::X.outer):=by rw [← hst]; exact I9.ok.frames
 have hfm:X.env.frame = some X.env.locals:=by
  rcases I9.ok.stk with z | z
  ·rw [hst] at z
   have:=congrArg List.length z
   simp at this
  ·exact z.2
 show wpAny _ X.A (noteFrame (.ref ea) cenv') _ _ s'
 rw [note_env hcf]
 have fl':=fl
 rw [hst] at fl'
 refine wpAny_looks_onW hfr hfm fl' fun h4 ⟨a1,a2,a3,a4⟩ sm=>?_
 rw [← hst] at a3
 obtain ⟨oC,es,ep,hoC,hdC,hrest⟩:=hC
 have hBC:B.get? C = some oC:=ux.keep C oC hoC fC.1 hCf
 refine ⟨m,⟨oC,es,ep,a1 C oC hBC,hdC,hrest⟩,fun h' sb cenv _=>?_⟩
 obtain ⟨oe,vs,T,oT,ts,he,hcc,hd,h1,hnT,hTe,hT,hdT,h3⟩:=a4
 have neC:ea≠C:=fun z=>by rw [← z,a2] at hBC; cases hBC
 have nTC:T≠C:=fun z=>by rw [← z,hnT] at hBC; cases hBC
 have he':h'.get? ea = some oe:=(sb.2 ea neC).trans he
 have hT':h'.get? T = some oT:=(sb.2 T nTC).trans hT
 have hlt:3 < ts.size:=(Array.getElem?_eq_some_iff.mp h3).1
 generalize hv:(cenv.frame.elim Value.none fun f=>rawInt f) = v
 have far:∀ b,b≠C→b≠T→(h'.update T (Obj.mapFields (·.setIfInBounds 3 v))).get? b = h4.get? b:=fun b hb hb2=>(Heap.get?_update_other _ _ (Ne.symm hb2)).trans (sb.2 b hb)
 have nf:∀ b o,h4.get? b = some o→(∀ us,o.data≠.fields us)→b≠T:=fun b o e n z=>by
  rw [z,hT] at e; cases e; exact n ts hdT
 have step:wpAny (model X.prog X.w) X.A (do setFlight (.ref ea) cenv.frame; throw (Value.ref ea):Sem Value) (fun _ _=>False) X.xe { s' with heap:=h' }:=by
  refine wpAny_bind ?_
  unfold setFlight
  refine wpAny_bind (wpAny_field he' hd h1 ?_)
  rw [if_pos (show (Value.ref T != Value.none) = true from by simp),hv]
  refine wpAny_setField hT' hdT hlt (wpAny_throw ?_)
  refine hE (.ref ea) _ ⟨pins,τ,H1,{ s1 with heap:=s1.heap.hide C },inv_off I9 fC ⟨Heap.hide_size ..,fun b hb=>Heap.hide_ne _ hb⟩,.inr (.inr ⟨hst,ea,C1,B.hide C,a0,v,H2,rfl,hos,hbare,⟨fun b o e=>?_,?_,?_,?_⟩,⟨fun b o e n nf'=>?_,fun b o e n hb=>?_,fun b o e n=>?_,fun b o e n=>?_,ux.tups,ux.frzs,ux.tbls⟩,fun a o e=>?_,C1,Hs1,rfl,hc,g⟩)⟩
  ·have hb:b≠C:=fun z=>by rw [z,Heap.hide_self] at e; cases e
   have e':=Heap.of_hide e
   exact (far b hb fun z=>by rw [z,hnT] at e'; cases e').trans (a1 b o e')
  ·rw [Heap.hide_ne _ neC]; exact a2
  ·exact hide_funs a3 hCf fun b o hb e n=>(far b hb (nf b o e n)).trans e
  ·exact ⟨oe,vs,T,_,_,(far ea neC (Ne.symm hTe)).trans he,hcc,hd,h1,(Heap.hide_ne _ nTC).trans hnT,hTe,Heap.get?_update_self _ hT' (Obj.isFreed_of_fields (Obj.data_mapFields hdT _)),Obj.data_mapFields hdT _,by simp [Array.getElem?_setIfInBounds,hlt]⟩
  ·have hb:b≠C:=fun z=>by rw [z,Heap.hide_self] at e; cases e
   exact (Heap.hide_ne _ hb).trans (ux.keep b o (Heap.of_hide e) n nf')
  ·have hbC:b≠C:=fun z=>hCf (z ▸ hb)
   obtain ⟨_,ob,hob,hnf⟩:=I9.stack.mem hb
   rw [Heap.of_hide e] at hob; cases hob
   obtain ⟨sl,e1⟩:=ux.slot b o (Heap.of_hide e) n hb
   obtain ⟨sl2,e2⟩:=sm b _ e1 hnf
   exact ⟨sl2,(far b hbC (nf b _ e2 hnf)).trans e2⟩
  ·exact ux.free b o (Heap.of_hide e) n
  ·obtain ⟨o',e1⟩:=ux.there b o (Heap.of_hide e) n
   exact ⟨o',(Heap.hide_ne _ fun z=>n (by rw [z]; exact fC.1)).trans e1⟩
  ·have hn:H2 C = none:=ux.free C oC hoC fC.1
   refine (hok a o e).stay (fun b u hb q=>(Heap.hide_ne _ fun z=>?_).trans q) (fun _ q=>q) fun _ _ q=>q
   rw [z] at hb
   rcases hb with hb | hb
   ·rw [← hb,hn] at e; cases e
   ·rw [hn] at hb; cases hb
 unfold PySem.passOn
 refine wpAny_bind (wpAny_field he' hd h1 ?_)
 rw [if_neg (show ¬ ((Value.ref T == Value.none) = true) from by simp)]
 first
  | exact wpAny_bind (wpAny_pure step)
  | exact step
end
end G
namespace G
open PySem PySem.Spec PyProof.Rows L2 GS HM
@[reducible] def cxE (X:Cx) (pins:List (Addr × Obj)) (scope:Scope) (cl:List (Str × Addr)) (C:Addr) (N:List Str) (fp:List Addr) (s:Shared) (H:Hp) (xe:Value→Shared→Prop):Cx :=
 { cxC X pins scope cl C N fp s H with xe:=xe }
theorem inv_xe {X:Cx} {pins pins':List (Addr × Obj)} {scope:Scope} {cl:List (Str × Addr)} {C:Addr} {N:List Str} {fp:List Addr} {s s1:Shared} {H H1:Hp} {τ:L2.St} {xe xe':Value→Shared→Prop} (I:Inv (cxE X pins scope cl C N fp s H xe) pins' τ H1 s1) :
  Inv (cxE X pins scope cl C N fp s H xe') pins' τ H1 s1 :=
 ⟨⟨I.ok.mod,I.ok.kind,I.ok.glob,I.ok.blt,I.ok.above,I.ok.inj,I.ok.has,I.ok.cab,I.ok.hd,I.ok.frames,I.ok.stk,I.ok.exf,I.ok.bs,I.ok.bsz,I.ok.noex,I.ok.exfs,I.ok.funs,I.ok.frf⟩,I.os,I.bare,I.base,I.loc,I.cell,I.free,I.freeC,I.pin,I.hok,I.len⟩
def turnE (g:DG) (de:DE) (σ0:PSt) (p:PV):Res PV:=match g p σ0 with
 | .ok σ1=>de σ1
 | _=>.stuck
def cValE (d:DI) (g:DG) (de:DE) (k:Nat) (ix:List Nat):PSt→Res (List PV):=fun σ=>(d σ).bind fun ps=>if ps.length≤10000000 then mapR (turnE g de (inn k ix σ)) ps else .stuck
def sCompE (i:Nat) (d:DI) (g:DG) (de:DE) (k:Nat) (ix:List Nat):DS:=fun σ=>(cValE d g de k ix σ).bind fun qs=>.ok (.next (σ.set i (some (.sh (.lst qs)))))
theorem mapR_take {f:PV→Res PV}:∀ {ps os:List PV} {i:Nat} {p:PV},mapR f (ps.take i) = .ok os→ps[i]? = some p→(∀ q,f p = .ok q→mapR f (ps.take (i + 1)) = .ok (os++[q]))∧(∀ c,f p = .err c→mapR f ps = .err c)∧(f p = .stuck→mapR f ps = .stuck)
 | [],os,i,p,h,e=>by simp at e
 | p0::ps,os,0,p,h,e=>by
  cases h
  simp at e; subst e
  refine ⟨fun q hq=>?_,fun c hc=>?_,fun hc=>?_⟩
  ·simp [mapR,hq,Res.bind_ok]
  ·simp [mapR,hc,Res.bind_err]
  ·simp [mapR,hc,Res.bind_stuck]
 | p0::ps,os,i + 1,p,h,e=>by
  rw [List.take_succ_cons] at h
  unfold mapR at h
  cases e1:f p0 with
  | err c=>rw [e1] at h; cases h
  | stuck=>rw [e1] at h; cases h
  | ok q0 =>
   rw [e1] at h
   simp only [Res.bind_ok] at h
   cases e2:mapR f (ps.take i) with
   | err c=>rw [e2] at h; cases h
   | stuck=>rw [e2] at h; cases h
   | ok rs =>
    rw [e2] at h
    cases h
    obtain ⟨a1,a2,a3⟩:=mapR_take e2 (by simpa using e)
    refine ⟨fun q hq=>?_,fun c hc=>?_,fun hc=>?_⟩
    ·rw [List.take_succ_cons]
     unfold mapR
     rw [e1,a1 q hq]; rfl
    ·unfold mapR
     rw [e1,a2 c hc]; rfl
    ·unfold mapR
     rw [e1,a3 hc]; rfl
section
variable {X:Cx} {pins:List (Addr × Obj)} {H0 Hs0:Hp} {σ:PSt} {τ:L2.St} {tg elt iter:Expr} {scope:Scope} {pos:Pos} {cl:List (Str × Addr)} {N:List Str} {k:Nat} {ix:List Nat} {g:DG} {de:DE} {d:DI}
structure BlkE (X:Cx) (tg elt:Expr) (scope:Scope) (cl:List (Str × Addr)) (N:List Str) (k:Nat) (ix:List Nat) (g:DG) (de:DE):Prop where
 O:CompOk X scope cl N k ix
 calm:X.calm = true
 st:X.stack = X.env::X.outer
 hg:∀ (pins:List (Addr × Obj)) (fp:List Addr) (C:Addr) (s:Shared) (H A B:Hp) (xe:Value→Shared→Prop),QG (cxE X pins scope cl C N fp s H xe) A B tg g
 he:∀ (pins:List (Addr × Obj)) (fp:List Addr) (C:Addr) (s:Shared) (H A B:Hp) (xe:Value→Shared→Prop),QE (cxE X pins scope cl C N fp s H xe) A B elt de
 gk:∀ σ p σ1,g p (inn k ix σ) = .ok σ1→(∀ (j:Nat) (sv:SV),(inn k ix σ)[j]? = some (some sv)→σ1[j]? = some (some sv))∧σ1.length = (inn k ix σ).length
theorem comp_runE {Hs2 H2:Hp} {s2:Shared} {it:Addr} {fp:List Addr} {tn:Nat→Heap→Prop} {J:It} {ps:List PV} {h4:Heap} {t4:Nat} {RR:Result→Shared→Prop}
  (B:BlkE X tg elt scope cl N k ix g de) (I2:Inv X pins τ H2 s2) (S2:SR X.K H0 Hs0 Hs2 H2 σ τ) (T:Turn X.prog X.w X.K tg J fp it tn) (st:tn 0 s2.heap) (fpok:∀ b∈fp,FpOk X pins H2 b) (jok:JOk X.K J Hs2 ps)
  (hm:mapR (turnE g de (inn k ix σ)) ps≠.stuck) (hl:ps.length≤10000000) (hE:∀ c,mapR (turnE g de (inn k ix σ)) ps = .err c→ErrOk X H0 Hs0 c)
  (hns:h4.Ns (s2.heap.objs.size + 1) (fun _=>none)) (hsb:∀ b o,(s2.heap.push { cls:=.type "list",data:=.seq ([]:List Value).toArray }).get? b = some o→h4.get? b = some o)
  (hR:∀ (qs:List PV) (s':Shared) (Hs' H':Hp) (vs:List V) (m:Str→Option Value),mapR (turnE g de (inn k ix σ)) ps = .ok qs→Inv X pins τ H' s'→SR X.K H0 Hs0 Hs' H' σ τ→Same Hs2 Hs'→Grow Hs2 H2 Hs' H'→H' s2.heap.objs.size = some (.lst vs)→Hs' s2.heap.objs.size = none→H2 s2.heap.objs.size = none→Reps X.K Hs' vs qs→s'.heap.Ns (s2.heap.objs.size + 1) m →
   H' (s2.heap.objs.size + 1) = none→RR (.ok .next) s')
  (hX:∀ e s',LetGo X (s2.heap.objs.size + 1) e s'→RR (.error e) s') :
  codeAny (model X.prog X.w) X.A (.compStart (.ListComp elt [⟨tg,iter,[],0⟩] scope pos) 0 (.ref it) (.ref s2.heap.objs.size) (compEnvC scope cl (s2.heap.objs.size + 1) X.env)) RR { s2 with heap:=h4,toks:=t4 }:=by
 have O:=B.O
 have hcalm:=B.calm
 have hD:H2 s2.heap.objs.size = none:=I2.hok.fresh (Nat.le_refl _)
 have hDs:Hs2 s2.heap.objs.size = none:=S2.g.i.free hD
 have I3:Inv X pins τ (upd H2 s2.heap.objs.size (.lst [])) { s2 with heap:=s2.heap.push { cls:=.type "list",data:=.seq ([]:List Value).toArray } }:=I2.lnew (its:=[]) (ys:=[]) (t':=s2.toks) .nil (by show 0≤sizeLine; exact Nat.zero_le _)
 have hsz:(s2.heap.push { cls:=.type "list",data:=.seq ([]:List Value).toArray }).objs.size = s2.heap.objs.size + 1:=Heap.size_push ..
 have fpl:∀ b∈fp,∃ o,s2.heap.get? b = some o:=fun b hb=>by obtain ⟨o,e,_⟩:=T.obj _ _ st b hb; exact ⟨o,e⟩
 have fpD:∀ b∈fp,b≠s2.heap.objs.size:=fun b hb=>by obtain ⟨o,e⟩:=fpl b hb; exact Nat.ne_of_lt (Heap.lt_size e)
 have fpok3:∀ b∈fp,FpOk X pins (upd H2 s2.heap.objs.size (.lst [])) b:=fun b hb=>⟨by rw [upd_ne (fpD b hb)]; exact (fpok b hb).1,(fpok b hb).2⟩
 have I4:=inv_comp (h4:=h4) (t4:=t4) (fp:=fp) I3 O hcalm fpok3 (fun b hb=>by obtain ⟨o,e⟩:=fpl b hb; exact Nat.lt_trans (Heap.lt_size e) (by rw [hsz]; exact Nat.lt_succ_self _)) (by rw [hsz]; exact hns) hsb
 rw [hsz] at I4
 have out:∀ {pins':List (Addr × Obj)} {τ':L2.St} {H':Hp} {s':Shared} {xe:Value→Shared→Prop},Inv (cxE X pins scope cl (s2.heap.objs.size + 1) N fp { s2 with heap:=s2.heap.push { cls:=.type "list",data:=.seq ([]:List Value).toArray } } (upd H2 s2.heap.objs.size (.lst [])) xe) pins' τ' H' s' →
   Inv X pins τ H' s'∧H' (s2.heap.objs.size + 1) = none∧∃ m,s'.heap.Ns (s2.heap.objs.size + 1) m:=fun {pins' τ' H' s' xe} I=>by
  obtain ⟨m,hm7,_⟩:=I.loc
  refine ⟨I3.call' (ch:=fp) I.os I.base I.hok I.bare fun b hb=>?_,I.free,m,hm7⟩
  obtain ⟨f0,f1,f2,f3,f4,f5⟩:=fpok b hb
  exact ⟨f3,f1,f4,f5⟩
 generalize hx:(fun (e:Value) (s':Shared)=>∃ (c:Str) (pins':List (Addr × Obj)) (τ':L2.St) (H':Hp) (s1:Shared),mapR (turnE g de (inn k ix σ)) ps = .err c∧Inv (cxE X pins scope cl (s2.heap.objs.size + 1) N fp { s2 with heap:=s2.heap.push { cls:=.type "list",data:=.seq ([]:List Value).toArray } } (upd H2 s2.heap.objs.size (.lst [])) (fun _ _=>False)) pins' τ' H' s1 ∧
   CXG X.prog X.w X.stack H' s1 (fun cls _ H3=>∃ (C1:Addr) (Hs1:Hp),cls = .ref C1∧ClsIs X.K c C1∧Grow Hs0 H0 Hs1 H3) e s') = xe
 have note:∀ e s',xe e s'→notedBy (model X.prog X.w) X.A (compEnvC scope cl (s2.heap.objs.size + 1) X.env) (fun e s'=>RR (.error e) s') e s':=fun e s' q=>by
  rw [← hx] at q
  obtain ⟨c,pins',τ',H',s1,hc,I,cx⟩:=q
  obtain ⟨I9,hf,m,hn⟩:=out I
  have r:=comp_err (cenv':=compEnvC scope cl (s2.heap.objs.size + 1) X.env) B.st (hE c hc) I9 (I2.fpOk (Nat.le_succ _) hf) (fun hb=>?_) hn cx rfl
  ·exact wpAny_mono r (fun _ s'' z=>hX e s'' z) fun _ s'' z=>hX _ s'' z
  ·obtain ⟨_,o,ho,_⟩:=I2.stack.mem hb
   exact absurd (Heap.lt_size ho) (Nat.not_lt.mpr (Nat.le_succ _))
 have hErr:∀ (c:Str) (A Bs:Hp),mapR (turnE g de (inn k ix σ)) ps = .err c→Grow Hs0 H0 Bs A→ErrOk (cxE X pins scope cl (s2.heap.objs.size + 1) N fp { s2 with heap:=s2.heap.push { cls:=.type "list",data:=.seq ([]:List Value).toArray } } (upd H2 s2.heap.objs.size (.lst [])) xe) A Bs c:=fun c A Bs hc gr e s' ⟨pins',τ',H',s1,I,q⟩=>by
  have no:¬ (X.stack = compEnvC scope cl (s2.heap.objs.size + 1) X.env::X.stack):=fun z=>by
   have:=congrArg List.length z
   simp at this
  show xe e s'
  rw [← hx]
  rcases q with ⟨z,_⟩ | ⟨ea,C1,B1,a0,H3,h1,h2,h3,h4,h5,h6,C1',Hs1,z1,z2,z3⟩ | ⟨z,_⟩
  ·exact absurd z no
  ·exact ⟨c,pins',τ',H',s1,hc,inv_xe I,ea,C1,B1,a0,H3,h1,h2,h3,h4,h5,h6,C1',Hs1,z1,z2,gr.trans z3⟩
  ·exact absurd z no
 have I4':Inv (cxE X pins scope cl (s2.heap.objs.size + 1) N fp { s2 with heap:=s2.heap.push { cls:=.type "list",data:=.seq ([]:List Value).toArray } } (upd H2 s2.heap.objs.size (.lst [])) xe) [] (innV k ix τ) (upd H2 s2.heap.objs.size (.lst [])) { s2 with heap:=h4,toks:=t4 }:=inv_xe (xe:=fun _ _=>False) (xe':=xe) I4
 generalize hXX:cxE X pins scope cl (s2.heap.objs.size + 1) N fp { s2 with heap:=s2.heap.push { cls:=.type "list",data:=.seq ([]:List Value).toArray } } (upd H2 s2.heap.objs.size (.lst [])) xe = X' at I4' hErr
 have eA:X'.A = X.A:=by rw [← hXX]
 have eP:X'.prog = X.prog:=by rw [← hXX]
 have ew:X'.w = X.w:=by rw [← hXX]
 have eK:X'.K = X.K:=by rw [← hXX]
 have eE:X'.env = compEnvC scope cl (s2.heap.objs.size + 1) X.env:=by rw [← hXX]
 have exe:X'.xe = xe:=by rw [← hXX]
 have ecalm:X'.calm = true:=by rw [← hXX]; exact hcalm
 have stat:∀ {H':Hp},(∀ b∈fp,H' b = none)→∀ b∈fp,FpOk X' [] H' b:=fun {H'} hn b hb=>by
  obtain ⟨f0,f1,f2,f3,f4,f5⟩:=fpok b hb
  have sub:=clos_sub (cells:=X.env.cells) scope.names [] cl (fun x c e=>by cases e) O.clos
  obtain ⟨o,e⟩:=fpl b hb
  refine ⟨hn b hb,?_,?_,?_,fun x c ec=>?_,fun p hp=>?_⟩
  ·rw [eE]; exact Nat.ne_of_lt (Nat.lt_succ_of_lt (Heap.lt_size e))
  ·have:X'.fs = frs X.stack:=by rw [← hXX]
   rw [this]; exact stk_sub I2 f1 f2
  ·exact .inl (by rw [← hXX]; exact hb)
  ·rw [eE] at ec; exact f4 x c (sub x c ec)
  ·have:p∈X.pn++pins:=by rw [← hXX] at hp; simpa [cxC] using hp
   exact f5 p this
 have st4:tn 0 h4:=T.keep _ _ _ st fun b hb o e=>hsb _ _ (Heap.get?_push_of_some _ e)
 have S4:SR X.K H2 Hs2 Hs2 (upd H2 s2.heap.objs.size (.lst [])) (inn k ix σ) (innV k ix τ):=(S2.inn k ix).hid hDs hD (fun i xs=>inn_no i xs)
 have loop:∀ s5:Shared,s5 = { s2 with heap:=h4,toks:=t4 }→codeAny (model X.prog X.w) X.A (.compLoop (.ListComp elt [⟨tg,iter,[],0⟩] scope pos) 0 (.ref it) (.ref s2.heap.objs.size) (compEnvC scope cl (s2.heap.objs.size + 1) X.env)) RR s5:=by
  intro s5 hs5
  refine codeAny_loop rfl (fun n s'=>∃ i τ' Hs' H' vs os,n + i = ps.length∧Inv X' [] τ' H' s'∧tn i s'.heap∧(∀ b∈fp,H' b = none)∧SR X.K H2 Hs2 Hs' H' (inn k ix σ) τ'∧H' s2.heap.objs.size = some (.lst vs)∧Hs' s2.heap.objs.size = none∧mapR (turnE g de (inn k ix σ)) (ps.take i) = .ok os∧Reps X.K Hs' vs os) ?_ ps.length
   ⟨0,innV k ix τ,Hs2,_,[],[],rfl,hs5 ▸ I4',hs5 ▸ st4,fun b hb=>by rw [upd_ne (fpD b hb)]; exact (fpok b hb).1,S4,upd_same,hDs,rfl,.nil⟩
  rintro n s6 ⟨i,τ6,Hs6,H6,vs,os,hni,I6,st6,fr6,S6,hD6,hDs6,hos,R6⟩
  show wpAny _ _ ((compTurn (.ListComp elt [⟨tg,iter,[],0⟩] scope pos) 0 (.ref it) (.ref s2.heap.objs.size) (compEnvC scope cl (s2.heap.objs.size + 1) X.env)).onRaise (fun x=>do noteFrame x (compEnvC scope cl (s2.heap.objs.size + 1) X.env); theTreesLotGoes x)) _ _ s6
  refine wpAny_noted ?_
  rw [compTurn_list1]
  refine wpAny_bind (wpAny_standAt ?_)
  obtain ⟨j1,j2⟩:=jok i H6 Hs6 S6.g.s S6.g.i
  refine wpAny_mono (E:=xe) ?_ (fun _ _ q=>q) note
  change wpAny (model X.prog X.w) X.A _ _ _ s6
  by_cases hlt:i < ps.length
  ·obtain ⟨go,yl⟩:=j1 hlt
   have hp':ps[i]? = some ps[i]:=List.getElem?_eq_getElem hlt
   obtain ⟨mk,me,ms⟩:=mapR_take hos hp'
   have TI:=T.item X' eP ew eK ecalm i [] s6 τ6 H6 xe I6 (stat fr6) st6 go
   rw [eA] at TI
   refine wpAny_bind (thn TI fun r s7 ⟨u,hr,h7⟩=>?_)
   subst hr
   refine wpAny_bind (thn h7 fun _ s8 ⟨x,H8,I8,r8,y8,st8,fr8⟩=>?_)
   obtain ⟨rfl,p,ep,rp⟩:=yl x H8 y8
   have ep':ps[i] = p:=by rw [hp'] at ep; exact Option.some.inj ep
   subst ep'
   have I8':=I8.pinned (stat fr8) (T.obj _ _ st8)
   unfold turnE at mk me ms
   have hg':QG X' H8 Hs6 tg g:=hXX ▸ B.hg _ _ _ _ _ H8 Hs6 _
   have he':QE X' H8 Hs6 elt de:=hXX ▸ B.he _ _ _ _ _ H8 Hs6 _
   have S8:SR X.K H8 Hs6 Hs6 H8 (inn k ix σ) τ6:=S6.base' (fun i xs=>inn_no i xs) (.refl S6.g.i)
   have g06:Grow Hs0 H0 Hs6 H8:=S2.g.trans S6.g
   cases eg:g ps[i] (inn k ix σ) with
   | ok σ1 =>
    simp only [eg] at mk me ms
    obtain ⟨w1,w2⟩:=B.gk _ _ _ eg
    have hgr:=hg' _ s8 τ6 H8 x u (fun τ9 H9=>∃ Hs9,SR X.K H8 Hs6 Hs9 H9 σ1 τ9) I8' r8 ⟨Hs6,inn k ix σ,ps[i],eK ▸ S8,eK ▸ (rp.mono S6.g.s),by
     rw [eg]
     exact fun Hs' H' τ' e S'=>⟨Hs',eK ▸ S'⟩⟩
    rw [eP,ew,eA,eE,exe] at hgr
    refine wpAny_bind (thn hgr fun _ s9 ⟨τ9,H9,I9,Hs9,S9⟩=>?_)
    have her:=he' _ s9 τ9 H9 (fun y H10=>∃ Hs10 q,Grow Hs9 H9 Hs10 H10∧Rep X.K Hs10 y q∧de σ1 = .ok q) I9 ⟨Hs9,σ1,eK ▸ S9,by
     cases ed:de σ1 with
     | ok q=>exact fun v Hs' H' g' r'=>⟨Hs',q,g',eK ▸ r',rfl⟩
     | err c=>exact hErr c H8 Hs6 (me c ed) g06
     | stuck=>exact absurd (ms ed) hm⟩
    rw [eP,ew,eA,eE,exe] at her
    refine wpAny_bind (wpAny_bind (thn her fun y s10 ⟨y',H10,I10,ry,Hs10,q,g10,rq,ed⟩=>?_))
    have g6:Grow Hs6 H8 Hs10 H10:=S9.g.trans g10
    have hD10:H10 s2.heap.objs.size = some (.lst vs):=g6.h _ _ hD6
    have hDs10:Hs10 s2.heap.objs.size = none:=g6.o _ (by rw [hD6]; exact fun z=>by cases z) hDs6
    have hvl:vs.length < sizeLine:=by
     have:=mapR_len hos
     rw [R6.length,sizeLine_eq,this,List.length_take]
     omega
    have hap:=mt_append (X:=X') _ s10 τ9 H10 (.ref s2.heap.objs.size) [y'] (.ref s2.heap.objs.size) [y] (fun _ H'=>H' = upd H10 s2.heap.objs.size (.lst (vs++[y']))) I10 rfl (.cons ry .nil) ⟨_,vs,y',rfl,rfl,hD10,hvl,rfl⟩
    rw [eP,ew,eA,exe] at hap
    refine wpAny_bind (thn hap fun _ s11 ⟨_,H11,I11,_,eH⟩=>wpAny_pure (wpAny_pure ⟨rfl,n - 1,by omega,i + 1,τ9,Hs10,H11,vs++[y'],os++[q],by omega,I11.unpinned,?_,?_,?_,?_,hDs10,mk q ed,?_⟩))
    ·exact T.keep _ _ _ st8 fun b hb o e=>(I11.pin (b,o) (List.mem_append_right _ (List.mem_append_right _ (mem_pinsAt hb e)))).1
    ·intro b hb
     obtain ⟨o,e,_⟩:=T.obj _ _ st8 b hb
     exact (I11.pin (b,o) (List.mem_append_right _ (List.mem_append_right _ (mem_pinsAt hb e)))).2.1
    ·subst eH
     exact (((S9.weak w1 w2.symm).grow g10).base' (fun i xs=>inn_no i xs) (S6.g.trans g6)).hid hDs10 hD (fun i xs=>inn_no i xs)
    ·subst eH; exact upd_same
    ·exact (R6.mono g6.s).append (.cons rq .nil)
   | err c=>simp only [eg] at ms; exact absurd (ms trivial) hm
   | stuck=>simp only [eg] at ms; exact absurd (ms trivial) hm
  ·have TD:=T.done X' eP ew eK ecalm i [] s6 τ6 H6 xe I6 (stat fr6) st6 (j2 (by omega))
   rw [eA] at TD
   refine wpAny_bind (thn TD fun r s7 ⟨hr,I7⟩=>?_)
   subst hr
   refine wpAny_pure ?_
   rw [List.take_of_length_le (by omega)] at hos
   have I7':Inv (cxE X pins scope cl (s2.heap.objs.size + 1) N fp { s2 with heap:=s2.heap.push { cls:=.type "list",data:=.seq ([]:List Value).toArray } } (upd H2 s2.heap.objs.size (.lst [])) xe) [] τ6 H6 s7:=by rw [hXX]; exact I7
   obtain ⟨I9,hfree,m,hm7⟩:=out I7'
   exact hR os s7 Hs6 H6 vs m hos I9 (S2.grow S6.g) S6.g.s S6.g hD6 hDs6 hD R6 hm7 hfree
 exact codeAny_compStart_list (loop _ rfl) (T.self _ _ _ _ _ st4 (loop _ rfl))
theorem blkE {E:Value→Shared→Prop} {Hs2 H2:Hp} {s2:Shared} {it:Addr} {fp:List Addr} {tn:Nat→Heap→Prop} {J:It} {ps:List PV} {RR:Value→Addr→Result→Shared→Prop}
  (B:BlkE X tg elt scope cl N k ix g de) (I2:Inv X pins τ H2 s2) (S2:SR X.K H0 Hs0 Hs2 H2 σ τ) (T:Turn X.prog X.w X.K tg J fp it tn) (st:tn 0 s2.heap) (fpok:∀ b∈fp,FpOk X pins H2 b) (jok:JOk X.K J Hs2 ps)
  (hm:mapR (turnE g de (inn k ix σ)) ps≠.stuck) (hl:ps.length≤10000000) (hE:∀ c,mapR (turnE g de (inn k ix σ)) ps = .err c→ErrOk X H0 Hs0 c)
  (hR:∀ (qs:List PV) (s':Shared) (Hs' H':Hp) (vs:List V) (D C:Addr) (m:Str→Option Value),mapR (turnE g de (inn k ix σ)) ps = .ok qs→Inv X pins τ H' s'→SR X.K H0 Hs0 Hs' H' σ τ→Same Hs2 Hs'→Grow Hs2 H2 Hs' H'→H' D = some (.lst vs)→Hs' D = none→H2 D = none→Reps X.K Hs' vs qs→s'.heap.Ns C m →
   FpOk X pins H' C→RR (.ref D) C (.ok .next) s')
  (hX:∀ D C e s',LetGo X C e s'→RR D C (.error e) s') :
  wpAny (model X.prog X.w) X.A (newList []) (fun acc s3=>wpAny (model X.prog X.w) X.A (newFunctionEnv scope X.env.globals cl [] X.env.qual none .none (some X.env)) (fun cenv s4 =>
   codeAny (model X.prog X.w) X.A (.compStart (.ListComp elt [⟨tg,iter,[],0⟩] scope pos) 0 (.ref it) acc { cenv with scope:=relabel scope X.env }) (RR acc cenv.locals) s4) E s3) E s2:=by
 refine wpAny_newObj_type (wpAny_newFunctionEnv B.O.nocell (by intro y hy; simp at hy) (fun h1 hns1 hsb1=>?_) B.O.kind)
 dsimp only at hns1 hsb1 ⊢
 have hsz:(s2.heap.push { cls:=.type "list",dict:=none,data:=.seq ([]:List Value).toArray }).objs.size = s2.heap.objs.size + 1:=Heap.size_push ..
 rw [hsz] at hns1 hsb1 ⊢
 refine comp_runE (t4:=s2.toks + 0) B I2 S2 T st fpok jok hm hl hE hns1 (fun b o e=>?_) (fun qs s' Hs' H' vs m em I' S' e' gr h1' h2' h3' h4' h5' h6'=>?_) fun e s' z=>hX _ _ e s' z
 ·exact hsb1.extBut b o (Nat.ne_of_lt (by have:=Heap.lt_size e; rw [hsz] at this; exact this)) (Heap.get?_push_of_some _ e)
 ·exact hR qs s' Hs' H' vs _ _ m em I' S' e' gr h1' h2' h3' h4' h5' (I2.fpOk (Nat.le_succ _) h6')
variable {i:Nat} {x:Str} {pos' spos:Pos}
theorem qs_compE (B:BlkE X tg elt scope cl N k ix g de) (hi:QI X H0 Hs0 tg iter d) (hs:∀ x,foldedSetIterable iter X.env x = pure x)
  (hN:X.N.Nodup) (hiN:X.N[i]? = some x) (hx:Loc X.env.scope x) (hf:X.fn x = true∨X.env.scope.names.lookup x = some .local)
  (hsw:swapsWith (.ListComp elt [⟨tg,iter,[],0⟩] scope pos) (some (.Name x pos')) spos.line X.env = pure true) :
  QS X H0 Hs0 (.Assign [.Name x pos'] (.ListComp elt [⟨tg,iter,[],0⟩] scope pos) spos) (sCompE i d g de k ix):=by
 intro pins s τ H D I ⟨Hs,σ,S,h⟩
 have h0:wpAny (model X.prog X.w) X.A (eval iter X.env) (fun v s1=>wpAny (model X.prog X.w) X.A (pyIter v) (PIE X pins τ tg fun J H2=>∃ Hs2 ps,Grow Hs H Hs2 H2∧JOk X.K J Hs2 ps∧ps.length≤10000000 ∧
   EndR X H0 Hs0 D Hs H ((mapR (turnE g de (inn k ix σ)) ps).bind fun qs=>.ok (.next (σ.set i (some (.sh (.lst qs))))))) X.xe s1) X.xe s:=by
  refine hi pins s τ H _ I ⟨Hs,σ,S,?_⟩
  unfold sCompE cValE at h
  cases e:d σ with
  | err c=>rw [e] at h; exact h
  | stuck=>rw [e] at h; exact h.elim
  | ok ps =>
   rw [e] at h
   intro J Hs2 H2 g2 j2
   by_cases hl:ps.length≤10000000
   ·simp only [Res.bind_ok,if_pos hl] at h
    exact ⟨Hs2,ps,g2,j2,hl,h⟩
   ·simp only [Res.bind_ok,if_neg hl] at h
    exact h.elim
 rw [exec_Assign_Name_used _ _ _ _ hsw]
 refine wpAny_bind (wpAny_standAt (wpAny_bind ?_))
 show wpAny _ X.A (do let _ ← comprehension (.ListComp elt [⟨tg,iter,[],0⟩] scope pos) scope X.env _ (newList []) false (eval iter X.env) (some (assign (.Name x pos') X.env))) _ _ s
 refine wpAny_bind (wpAny_mono (wpAny_comprehension_free (use:=some (assign (.Name x pos') X.env)) (Q:=fun _ s'=>SP X pins D .next s') rfl hs (clos_for B.O.clos) B.O.kind B.O.names
  (wpAny_mono h0 (fun v s1 h1=>wpAny_mono h1 (fun itv s2 h2=>?_) fun _ _ e=>e) fun _ _ e=>e)) (fun _ s' hq=>wpAny_pure (wpAny_pure hq)) fun _ _ e=>e)
 obtain ⟨it,fp,tn,J,H2,rfl,I2,T,st,fpok,Hs2,ps,g2,jok,hl,hq⟩:=h2
 refine blkE B I2 (S.grow g2) T st fpok jok (fun z=>?_) hl (fun c z=>?_) (fun qs s' Hs' H' vs a C m em I' S' e' gr h1 h2 h3 h4 h5 h6=>?_) fun D C e s' z=>z
 ·rw [z] at hq; exact hq.elim
 ·rw [z] at hq; exact hq
 show wpAny _ X.A (assign (.Name x pos') X.env (.ref a)) _ _ s'
 rw [em] at hq
 have h5':=h5
 obtain ⟨o,es,ep,ho,hdt,hrest⟩:=h5'
 have I'':=I'.pinned (fp:=[C]) (fun b hb=>by have:b = C:=(by simpa using hb); subst this; exact h6)
  (fun b hb=>by
  have:b = C:=by simpa using hb
  subst this
  exact ⟨o,ho,fun v z=>by rw [hdt] at z; cases z⟩)
 refine thn (pg_name hN hiN hx hf _ s' τ H' (.ref a) (.ref a) (fun τ' H''=>τ' = τ.set i (some (.ref a))∧H'' = H') I'' rfl ⟨rfl,rfl⟩) fun _ s'' ⟨τ',H'',I3,e1,e2⟩=>?_
 subst e1 e2
 have hC:=(I3.pin (C,o) (List.mem_append_right _ (List.mem_append_right _ (mem_pinsAt (by simp) ho)))).1
 have I4:=I3.unpinned
 refine ⟨m,⟨o,es,ep,hC,hdt,hrest⟩,fun h' sb=>?_⟩
 have gr2:=g2.trans gr
 exact ⟨_,_,inv_off I4 h6 sb,hq (upd Hs' a (.lst vs)) H'' _ (gr2.s.trans (same_lay h2)) ((S.grow (gr2.lay h1 h2 (g2.h.free h3))).set i (.lst upd_same (h4.mono (same_lay h2))))⟩
end
section
variable {X:Cx} {H0 Hs0:Hp} {tg elt iter:Expr} {scope:Scope} {pos:Pos} {g:DG} {de:DE} {d:DI} {ix:List Nat} {xs:List Str}
theorem xblkE (own:List Str) (c:CapOk X scope ix xs) (k:GK own.length g) (hg:∀ (pins:List (Addr × Obj)) (fp:List Addr) (C:Addr) (s:Shared) (H A B:Hp) (xe:Value→Shared→Prop),(cxE X pins scope (clOf X scope) C (own++xs) fp s H xe).N.Nodup→XG (cxE X pins scope (clOf X scope) C (own++xs) fp s H xe) A B tg g)
  (he:∀ (pins:List (Addr × Obj)) (fp:List Addr) (C:Addr) (s:Shared) (H A B:Hp) (xe:Value→Shared→Prop),(cxE X pins scope (clOf X scope) C (own++xs) fp s H xe).N.Nodup→XE (cxE X pins scope (clOf X scope) C (own++xs) fp s H xe) A B elt de)
  (hk:scope.kind = .function:=by rfl) (hs:scopeOk scope:=by decide +kernel) (hX:X.env.scope.kind = .function:=by rfl) (hc:(closL X.env.cells scope.names []).isSome = true:=by rfl) (hn:(own++xs).Nodup:=by decide) (hcalm:X.calm = true:=by rfl) (hst:X.stack = X.env::X.outer:=by rfl) :
  BlkE X tg elt scope (clOf X scope) (own++xs) own.length ix g de :=
 ⟨compOk hk hs hX hc hn c,hcalm,hst,fun pins fp C s H A B xe=>(hg pins fp C s H A B xe hn).h,fun pins fp C s H A B xe=>(he pins fp C s H A B xe hn).h,fun σ p σ1 e=>k.h ix σ p σ1 e⟩
theorem xscompE (i:Nat) {x:Str} {pos' spos:Pos} {cl:List (Str × Addr)} {N:List Str} {k:Nat} (B:BlkE X tg elt scope cl N k ix g de) (hi:XI X H0 Hs0 tg iter d) (hN:X.N.Nodup:=by assumption) (hiN:X.N[i]? = some x:=by rfl) (hx:Loc X.env.scope x:=by first | exact Or.inl rfl | exact Or.inr rfl)
  (hf:X.fn x = true∨X.env.scope.names.lookup x = some .local:=by first | exact Or.inl rfl | exact Or.inr rfl) (hs:noSet iter = true:=by rfl)
  (hsw:swapsWith (.ListComp elt [⟨tg,iter,[],0⟩] scope pos) (some (.Name x pos')) spos.line X.env = pure true:=by rfl) :
  XS X H0 Hs0 (.Assign [.Name x pos'] (.ListComp elt [⟨tg,iter,[],0⟩] scope pos) spos) (sCompE i d g de k ix):=⟨qs_compE B hi.h (fold_no hs) hN hiN hx hf hsw⟩
end
end G
namespace G
open PySem PySem.Spec PyProof.Rows L2 GS HM
section
variable {X:Cx} {H0 Hs0:Hp} {a b:Expr} {da db:DE} {pos:Pos}
def bIntS:List PV→Res PV
 | [.str x]=>if x.length≤640 then (match PySem.intText? x with
  | some n=>.ok (.int n)
  | none=>.stuck) else .stuck
 | _=>.stuck
theorem cp_intS:CallP X (.type "int") bIntS:=by
 intro EO pins s σ H xs us Q I r h
 obtain ⟨Hs,ps,i,rp,h⟩:=h
 unfold bIntS at h
 split at h
 ·split at h
  ·rename_i hl
   split at h
   ·rename_i n hn
    obtain ⟨v,rfl,r1⟩:=rp.one_inv
    cases r1.str_inv
    obtain ⟨u,rfl,t',rfl⟩:=vals1 r
    exact PySem.W.KIN.call_text hn hl ⟨.int _,H,I.tok _,⟨_,rfl⟩,ret_int h i⟩
   ·exact h.elim
  ·exact h.elim
 ·exact h.elim
theorem bIntS_s {x:Str} {n:Int} (h:x.length≤640) (hn:PySem.intText? x = some n):bIntS [.str x] = .ok (.int n):=by
 unfold bIntS
 simp only [h,if_true,hn]
def pFs (x:Str) (i:Int):PV→Res PV
 | .int j=>if j.natAbs.log2 < 1920∧(toString i:Str).length + x.length + (toString j:Str).length≤10000000 then .ok (.str (Str.empty++(toString i:Str)++x++(toString j:Str))) else .stuck
 | _=>.stuck
def eFs (x:Str) (a b:DE):DE:=fun σ=>(a σ).bind fun p=>match p with
 | .int i=>if i.natAbs.log2 < 1920∧(toString i:Str).length + x.length≤10000000 then (b σ).bind fun q=>pFs x i q else .stuck
 | _=>.stuck
theorem len_cat {x y:Str}:(x++y).length = x.length + y.length:=strLen_append ..
theorem q_fs {x:Str} {j} {p1 p2 p3:Pos} (ha:QE X H0 Hs0 a da) (hb:QE X H0 Hs0 b db):QE X H0 Hs0 (.JoinedStr [.FormattedValue a (-1) none p1,.Constant (.str x) j p2,.FormattedValue b (-1) none p3] pos) (eFs x da db):=by
 intro pins s τ H Q I ⟨Hs,σ,S,h⟩
 refine JoinedStr_many (joinParts_cons (FormattedValue_plain (thn (ha pins s τ H _ I ⟨Hs,σ,S,Ret.bind h⟩) fun v s1 ⟨y,H1,I1,r1,Hs1,p,g1,rp,h1⟩=>?_)))
 split at h1
 ·rename_i i
  split at h1
  ·rename_i hc
   cases rp.int_inv
   obtain ⟨t,rfl⟩:=r1
   refine formatField_int_small hc.1 ⟨by rw [len_cat,sizeLine_eq]; show 0 + _≤_; omega,?_⟩
   refine joinParts_cons (pe_str (X:=X) (x:=x) pins _ τ H1 (fun v H'=>v = .str x∧H' = H1) (I1.tok _) ⟨rfl,rfl⟩ |> fun q=>thn q fun v s2 ⟨y,H2,I2,r2,ey,eH⟩=>?_)
   subst ey eH
   obtain ⟨t2,rfl⟩:=r2
   refine ⟨by rw [len_cat,len_cat,sizeLine_eq]; show 0 + _ + _≤_; omega,?_⟩
   refine joinParts_cons (FormattedValue_plain (thn (hb pins s2 τ H2 _ I2 ⟨Hs1,σ,S.grow g1,Ret.bind h1⟩) fun v s3 ⟨y,H3,I3,r3,Hs3,q,g3,rq,h3⟩=>?_))
   unfold pFs at h3
   split at h3
   ·rename_i k
    split at h3
    ·rename_i hc2
     cases rq.int_inv
     obtain ⟨t3,rfl⟩:=r3
     refine formatField_int_small hc2.1 ⟨by rw [len_cat,len_cat,len_cat,sizeLine_eq]; show 0 + _ + _ + _≤_; omega,?_⟩
     exact joinParts_nil ⟨.str _,H3,I3.tok _,⟨_,rfl⟩,ret_str h3 g3.i⟩ (by rw [len_cat,len_cat,len_cat,sizeLine_eq]; show 0 + _ + _ + _≤_; omega)
    ·exact h3.elim
   ·exact h3.elim
  ·exact h1.elim
 ·exact h1.elim
theorem xfs {x:Str} {j} {p1 p2 p3:Pos} (ha:XE X H0 Hs0 a da) (hb:XE X H0 Hs0 b db):XE X H0 Hs0 (.JoinedStr [.FormattedValue a (-1) none p1,.Constant (.str x) j p2,.FormattedValue b (-1) none p3] pos) (eFs x da db):=⟨q_fs ha.h hb.h⟩
def asBools:List PV→Option (List Bool)
 | []=>some []
 | .bl b::ps=>(asBools ps).map (b::·)
 | _=>none
theorem asBools_inv:∀ {ps:List PV} {bs:List Bool},asBools ps = some bs→ps = bs.map PV.bl
 | [],bs,h=>by cases h; rfl
 | .bl b::ps,bs,h=>by
  unfold asBools at h
  cases e:asBools ps with
  | none=>rw [e] at h; cases h
  | some cs=>rw [e] at h; cases h; rw [asBools_inv e]; rfl
 | .non::ps,bs,h=>by cases h
 | .int _::ps,bs,h=>by cases h
 | .str _::ps,bs,h=>by cases h
 | .tup _::ps,bs,h=>by cases h
 | .lst _::ps,bs,h=>by cases h
 | .dic::ps,bs,h=>by cases h
 | .scr _::ps,bs,h=>by cases h
 | .exc _::ps,bs,h=>by cases h
 | .ob _ _ _::ps,bs,h=>by cases h
theorem asBools_map:∀ bs:List Bool,asBools (bs.map PV.bl) = some bs
 | []=>rfl
 | b::bs=>by show (asBools (bs.map PV.bl)).map (b::·) = _; rw [asBools_map bs]; rfl
def bAll:List PV→Res PV
 | [.lst ps]=>(match asBools ps with
  | some bs=>.ok (.bl (bs.all id))
  | none=>.stuck)
 | _=>.stuck
theorem reps_bools {K:PySem.W.Frag} {H:Hp}:∀ {bs:List Bool} {vs:List V},Reps K H vs (bs.map PV.bl)→vs = bs.map V.bl
 | [],vs,r=>r.nil_inv
 | b::bs,vs,r=>by
  obtain ⟨v,ws,rfl,r1,r2⟩:=Reps.cons_inv r
  cases r1.bl_inv
  rw [reps_bools r2]; rfl
theorem vals_bools:∀ {bs:List Bool} {us:List Value},Vals (bs.map V.bl) us→us = bs.map Value.bool
 | [],us,r=>by cases r; rfl
 | b::bs,us,r=>by
  cases r with
  | cons r1 r2=>cases r1; rw [vals_bools r2]; rfl
theorem all_range:∀ (bs:List Bool),(List.range bs.length).all (fun i=>bs.getD i false) = bs.all id:=by
 intro bs
 rw [Bool.eq_iff_iff,List.all_eq_true,List.all_eq_true]
 constructor
 ·intro h x hx
  obtain ⟨i,hi,rfl⟩:=List.mem_iff_getElem.mp hx
  have:=h i (List.mem_range.mpr hi)
  simpa [List.getD_eq_getElem?_getD,List.getElem?_eq_getElem hi] using this
 ·intro h i hi
  have hi':=List.mem_range.mp hi
  have:=h bs[i] (List.getElem_mem hi')
  simpa [List.getD_eq_getElem?_getD,List.getElem?_eq_getElem hi'] using this
theorem cp_all (hc:X.calm = true):CallP X (.builtin "all") bAll:=by
 intro EO pins s σ H xs us Q I r h
 obtain ⟨Hs,ps,i,rp,h⟩:=h
 unfold bAll at h
 split at h
 ·split at h
  ·rename_i bs hb
   obtain ⟨v,rfl,r1⟩:=rp.one_inv
   obtain ⟨ad,vs,rfl,hl,rs⟩:=r1.lst_inv
   cases asBools_inv hb
   cases reps_bools rs
   obtain ⟨u,rfl,rfl⟩:=vals1 r
   obtain ⟨its,rv,hl'⟩:=lst_is I (i _ _ hl)
   cases vals_bools rv
   have hne:ad≠s.heap.objs.size:=by
    obtain ⟨o,e,_⟩:=hl'
    exact Nat.ne_of_lt (Heap.lt_size e)
   refine call_all_walk (wpAny_pyIter_list hl' ⟨_,_,_,_,_,_,fun j=>bs.getD j false,rfl,Walks.list (A:=X.A.in1) (by first | exact I.ok.hd hc | rfl) s.heap.objs.size ad hne (bs.map Value.bool).toArray,⟨⟨_,Heap.get?_push_size _ rfl,rfl,rfl⟩,hl'.at fun o e=>Heap.get?_push_of_some _ e⟩,fun j v s Q E hv hQ=>?_,fun h' tk k=>?_⟩)
   ·have e:(bs.map Value.bool)[j]? = some v:=by simpa using hv
    rw [List.getElem?_map] at e
    cases e2:bs[j]? with
    | none=>rw [e2] at e; cases e
    | some b =>
     rw [e2] at e
     cases e
     have:bs.getD j false = b:=by rw [List.getD_eq_getElem?_getD,e2]; rfl
     have hQ':Q (bs.getD j false) s:=hQ
     rw [this] at hQ'
     exact wpAny_pure hQ'
   ·have e:(List.range (bs.map Value.bool).toArray.size).all (fun j=>bs.getD j false) = bs.all id:=by
     rw [List.size_toArray,List.length_map]; exact all_range bs
    rw [e]
    exact ⟨.bl _,H,I.kept fun b o e=>k b o (by simpa using Nat.ne_of_lt (Heap.lt_size e)) (Heap.get?_push_of_some _ e),rfl,ret_bl h i⟩
  ·exact h.elim
 ·exact h.elim
theorem bAll_b {bs:List Bool}:bAll [.lst (bs.map PV.bl)] = .ok (.bl (bs.all id)):=by
 show (match asBools (bs.map PV.bl) with
  | some bs=>Res.ok (PV.bl (bs.all id))
  | none=>.stuck) = _
 rw [asBools_map]
theorem bw_all:bootBuiltins "all" = some (.builtin "all"):=by decide +kernel
structure TxtAt (K:PySem.W.Frag) (x y:Str):Prop where
 ex:∃ t:Tok,PySem.W.nsIn K mainGlobals x = some (some (.str y t))
theorem q_conS {x y:Str} (h:TxtAt X.K x y) (hg:Gl X x) (hd:(x == ("__debug__":Str)) = false):QE X H0 Hs0 (.Name x pos) (eC (.str y)):=by
 intro pins s τ H Q I ⟨Hs,σ,S,q⟩
 obtain ⟨t,hc⟩:=h.ex
 exact ld_glob I hg (PySem.W.mg_of I.mod.kin I.mod.glob hc) ⟨.str y,H,I,⟨t,rfl⟩,q _ Hs H (.refl S.g.i) (.str y)⟩ hd
theorem xconS {x y:Str} (h:TxtAt X.K x y) (hg:Gl X x:=by rfl) (hd:(x == ("__debug__":Str)) = false:=by decide):XE X H0 Hs0 (.Name x pos) (eC (.str y)):=⟨q_conS h hg hd⟩
end
end G
namespace G
open PySem PySem.Spec PyProof.Rows L2 GS HM
def sTryS (j:Nat) (m:List PV→Res PV) (ra:DA) (cs:List Str) (i:Nat) (ds:DS):DS:=fun σ=>match ra σ with
 | .ok qs=>match m qs with
  | .ok v=>.ok (.next (σ.set j (some (.sh v))))
  | .err c=>if cs.contains c = true then (match ds (σ.set i (some (.sh (.exc c)))) with
    | .ok (.next σ')=>.ok (.next (σ'.set i none))
    | _=>.stuck) else .stuck
  | .stuck=>.stuck
 | _=>.stuck
section
variable {X:Cx} {H0 Hs0:Hp}
theorem qs_tryS {x y g n:Str} {i j:Nat} {yp fp cpos bpos gp hpos pos:Pos} {e b0:Expr} {es:List Expr} {st:Stmt} {sts:List Stmt} {m:List PV→Res PV} {ra:DA} {cs:List Str} {ds:DS} (F:FunIs X x m) (hg:Gl X x) (ha:QA X.nox H0 Hs0 (e::es) ra)
  (hdb:(x == ("__debug__":Str)) = false) (he:starEach (e::es) X.env = (false,eval e X.env)::starEach es X.env) (hpl:(backTo cpos (starEach es X.env)).any (·.1) = false)
  (hsw:swapsWith (.Call (.Name x fp) (e::es) [] cpos) (some (.Name y yp)) bpos.line X.env = pure false)
  (hst:X.stack = X.env::X.outer) (hfm:X.env.frame = some X.env.locals) (hgg:Gl X g) (hgd:(g == ("__debug__":Str)) = false) (hC:Caught X.K g cs) (hN:X.N.Nodup) (hi:X.N[i]? = some n) (hk:X.env.scope.names.lookup n = some .local)
  (hj:X.N[j]? = some y) (hy:Loc X.env.scope y) (hf:X.fn y = true∨X.env.scope.names.lookup y = some .local)
  (hs:∀ ea,QSs (cxM X ea) H0 Hs0 (st::sts) ds) :
  QS X H0 Hs0 (.Try [.Assign [.Name y yp] (.Call (.Name x fp) (e::es) [] cpos) bpos] [.ExceptHandler (some (.Name g gp)) (some n) (st::sts) hpos] [] [] pos) (sTryS j m ra cs i ds):=by
 intro pins s τ H D I ⟨Hs,σ,S,h⟩
 unfold sTryS at h
 cases ea':ra σ with
 | err c=>rw [ea'] at h; exact h.elim
 | stuck=>rw [ea'] at h; exact h.elim
 | ok qs =>
 rw [ea'] at h
 refine wpAny_Try_except ?_
 have hrun:=run_call (Q:=fun u H1=>∃ v Hs1,m qs = .ok v∧Grow Hs H Hs1 H1∧Rep X.K Hs1 u v) (E:=fun cls _ H2=>∃ c C Hs2,cls = .ref C∧m qs = .err c∧ClsIs X.K c C∧Grow Hs H Hs2 H2) (pos:=cpos) (p:=fp) F hg ha hdb he hpl I S ea' (fun vs Hs1 H1 g1 r1=>by
  cases em:m qs with
  | ok v=>exact fun v' Hs' H' g' r'=>⟨v,Hs',rfl,g1.trans g',r'⟩
  | err c=>exact fun C Hs2 H2 hc g2=>⟨c,C,Hs2,rfl,rfl,hc,g1.trans g2⟩
  | stuck=>simp only [em] at h; exact h.elim)
 refine wpAny_execs_cons (wpAny_Assign_Name (wpAny_mono hrun (fun v s1 ⟨u,H1,I1,r1,v',Hs1,em,g1,rv⟩=>?_) fun e' s' ⟨H1,s1,I1,ea,C,B,a0,H2,eq1,hos,hbare,fl,ux,hok,c,C',Hs2,ecls,em,hcl,g2⟩=>?_) hsw)
 ·simp only [em] at h
  exact store_ok I1 hN hj hy r1 (fun s2 I2=>wpAny_execs_nil (wpAny_execs_nil ⟨_,H1,I2,h Hs1 H1 _ g1.s ((S.grow g1).set j rv)⟩)) hf
 ·subst eq1
  cases ecls
  simp only [em] at h
  split at h
  ·rename_i hin
   have hin:c∈cs:=by simpa using hin
   obtain ⟨G,C2,hG,hC2,hex⟩:=hC.h c hin
   have eC:C2 = C:=by
    have:=hC2.symm.trans hcl
    injection this with this
    injection this with this
    injection this
   subst eC
   have hfr:X.A.frames = some (X.env::X.outer):=by rw [← hst]; exact I1.ok.frames
   rw [hst] at fl
   refine wpAny_looks_onW hfr hfm fl fun h4 held4 sm4=>?_
   refine wpAny_landsW held4 fun h5 fl5 sm5=>?_
   have sm45:=sm4.trans sm5
   rw [← hst] at fl5
   obtain ⟨hn5,I5⟩:=landed I1 hos hbare ux hok fl5 sm45
   have I5m:=inv_mark (ea:=ea) I5
   refine wpAny_handleBy_cons (codeAny_handlers_test (ld_glob (X:=cxM X ea) I5m hgg (PySem.W.mg_of I5.kIn (I5.mod.glob.keeps I5.bk) hG) ?_ hgd)) (by intro q; cases q)
   obtain ⟨ob,hob,hobc⟩:=fl5.there
   have lt:PySem.W.Looks (model X.prog X.w) h5 (typeOf (.ref ea)) ob.cls:=(PySem.W.Looks.ld hob).andThen .now
   rw [hobc] at lt
   refine (PySem.W.exm_one (K:=X.K) I5.kIn lt hex).at ?_
   show codeAny _ _ _ _ _
   refine codeAny_handlers_suite_as ?_
   refine lands_againW fl5 fun h6 fl6 sm6=>?_
   obtain ⟨hn6,I6⟩:=landed I1 hos hbare ux hok fl6 (sm45.trans sm6)
   have g3:Grow Hs H (upd Hs2 ea (.ext (excφ ea C2))) (upd H2 ea (.ext (excφ ea C2))):=g2.trans (.new g2.i hn6)
   refine store_ok (X:=cxM X ea) (inv_mark I6) hN hi (.inl hk) (v:=.ref ea) rfl (fun s7 I7=>?_) (.inr hk)
   have S3:=(S.grow g3).set i (v:=.ref ea) (p:=.exc c) (.exc upd_same hcl)
   cases eds:ds (σ.set i (some (.sh (.exc c)))) with
   | err c'=>rw [eds] at h; exact h.elim
   | stuck=>rw [eds] at h; exact h.elim
   | ok fl =>
    rw [eds] at h
    cases fl with
    | brk σ'=>exact h.elim
    | cont σ'=>exact h.elim
    | ret p=>exact h.elim
    | next σ' =>
     refine wpAny_mono (hs ea pins s7 _ _ { nx:=fun τ' H'=>∃ Hs',Same Hs Hs'∧SR X.K H0 Hs0 Hs' H' σ' τ',rt:=fun _ _=>False } I7 ⟨_,_,S3,by
      rw [eds]
      exact fun Hs' H' τ' e S'=>⟨Hs',g3.s.trans e,S'⟩⟩) (fun f s8 q=>?_) fun _ _ z=>z.elim
     cases f with
     | brk=>obtain ⟨_,_,_,z⟩:=q; exact z.elim
     | cont=>obtain ⟨_,_,_,z⟩:=q; exact z.elim
     | ret u=>obtain ⟨_,_,_,_,_,z⟩:=q; exact z.elim
     | next =>
      obtain ⟨τ8,H8,I8,Hs8,e8,S8⟩:=q
      refine goes_ok (inv_unmark I.ok I8) hN hi hk fun s9 I9=>⟨_,H8,I9,?_⟩
      exact h Hs8 H8 _ e8 (S8.unset i)
  ·exact h.elim
variable {es:List Expr} {ra:DA} {pos:Pos} {x g:Str}
theorem xtryS (j i:Nat) {n y:Str} {yp fp cpos bpos gp hpos:Pos} {e:Expr} {st:Stmt} {sts:List Stmt} {m:List PV→Res PV} {cs:List Str} {ds:DS} (F:FunIs X x m) (ha:XA X.nox H0 Hs0 (e::es) ra) (hC:Caught X.K g cs) (hs:∀ ea,XB (cxM X ea) H0 Hs0 (st::sts) ds)
  (hN:X.N.Nodup:=by assumption) (hg:Gl X x:=by rfl) (hdb:(x == ("__debug__":Str)) = false:=by decide) (he:noStar e = true:=by rfl) (hpl:es.all noStar = true:=by rfl)
  (hst:X.stack = X.env::X.outer:=by rfl) (hfm:X.env.frame = some X.env.locals:=by rfl) (hgg:Gl X g:=by rfl) (hgd:(g == ("__debug__":Str)) = false:=by decide) (hi:X.N[i]? = some n:=by rfl) (hk:X.env.scope.names.lookup n = some .local:=by rfl)
  (hj:X.N[j]? = some y:=by rfl) (hy:Loc X.env.scope y:=by first | exact Or.inl rfl | exact Or.inr rfl) (hf:X.fn y = true∨X.env.scope.names.lookup y = some .local:=by first | exact Or.inl rfl | exact Or.inr rfl) :
  XS X H0 Hs0 (.Try [.Assign [.Name y yp] (.Call (.Name x fp) (e::es) [] cpos) bpos] [.ExceptHandler (some (.Name g gp)) (some n) (st::sts) hpos] [] [] pos) (sTryS j m ra cs i ds) :=
 ⟨qs_tryS (b0:=e) F hg ha.h hdb (star_cons he) (star_any hpl) rfl hst hfm hgg hgd hC hN hi hk hj hy hf fun ea=>(hs ea).h⟩
variable {σ:PSt} {m:List PV→Res PV} {cs:List Str} {i j:Nat} {ds:DS} {qs:List PV}
theorem sTryS_ok {v:PV} (h1:ra σ = .ok qs) (h2:m qs = .ok v):sTryS j m ra cs i ds σ = .ok (.next (σ.set j (some (.sh v)))):=by unfold sTryS; simp only [h1,h2]
theorem sTryS_err {c:Str} {σ':PSt} (h1:ra σ = .ok qs) (h2:m qs = .err c) (h3:cs.contains c = true) (h4:ds (σ.set i (some (.sh (.exc c)))) = .ok (.next σ')):sTryS j m ra cs i ds σ = .ok (.next (σ'.set i none)):=by
 unfold sTryS; simp only [h1,h2,h3,if_true,h4]
end
end G
namespace TX
open PySem PySem.Builtin.Str PySem.StrLaws
def T (cs:List Nat):Str:=⟨cs.toArray⟩
theorem T_cps {cs:List Nat}:(T cs).cps.toList = cs:=rfl
theorem T_len {cs:List Nat}:(T cs).length = cs.length:=by simp [T,Str.length]
theorem T_of (x:Str):T x.cps.toList = x:=by
 cases x with
 | mk a=>simp [T]
theorem T_inj {a b:List Nat}:T a = T b↔a = b:=⟨fun h=>by
 have:=congrArg (fun x:Str=>x.cps.toList) h
 simpa [T] using this,fun h=>by rw [h]⟩
theorem T_beq {a b:List Nat}:(T a == T b) = decide (a = b):=by
 rw [Bool.eq_iff_iff]
 simp [T_inj]
theorem T_app {a b:List Nat}:T a++T b = T (a++b):=by
 rw [← T_of (T a++T b)]
 congr 1
 simp [T,Str.cps_append]
theorem T_str (s:String):Str.ofString s = T (s.toList.map Char.toNat):=by
 rw [← T_of (Str.ofString s),PyProof.Rows.signs_ofString]
def cut (m:Nat):List Nat→List (List Nat)
 | []=>[[]]
 | c::cs=>if c = m then []::cut m cs else match cut m cs with
  | w::ws=>(c::w)::ws
  | []=>[[c]]
theorem cut_ne (m:Nat):∀ cs:List Nat,∃ v vs,cut m cs = v::vs
 | []=>⟨[],[],rfl⟩
 | c::cs=>by
  obtain ⟨v,vs,e⟩:=cut_ne m cs
  unfold cut
  by_cases h:c = m
  ·rw [if_pos h]; exact ⟨_,_,rfl⟩
  ·rw [if_neg h,e]; exact ⟨_,_,rfl⟩
theorem cut_mark {m:Nat} {cs:List Nat}:cut m (m::cs) = []::cut m cs:=if_pos rfl
theorem cut_sign {m c:Nat} {cs v:List Nat} {vs:List (List Nat)} (h:c≠m) (e:cut m cs = v::vs):cut m (c::cs) = (c::v)::vs:=by
 unfold cut
 rw [if_neg h,e]
theorem cut_join {m:Nat}:∀ {cs v:List Nat} {vs:List (List Nat)},cut m cs = v::vs→cs = v++(vs.map (m::·)).flatten
 | [],v,vs,h=>by cases h; rfl
 | c::cs,v,vs,h=>by
  obtain ⟨w,ws,e⟩:=cut_ne m cs
  by_cases hc:c = m
  ·subst hc
   rw [cut_mark] at h
   cases h
   have:=cut_join e
   rw [e,List.map_cons,List.flatten_cons,List.nil_append,List.cons_append,← this]
  ·rw [cut_sign hc e] at h
   cases h
   have:=cut_join e
   rw [List.cons_append,← this]
theorem occ_all (s sub:Str) (hi limit:Nat) (h1:sub.length = 1):∀ (k a:Nat) (st:Array Nat × Nat),st.snd≤a→st.fst.size + k≤limit →
  (forIn (List.range' a k) st (occBody s sub hi limit)).run.fst.toList = st.fst.toList++(List.range' a k).filter fun i=>decide (i + 1≤hi) && subAt s sub i
 | 0,a,st,_,_=>by simp
 | k + 1,a,st,h2,h3=>by
  rw [List.range'_succ,List.forIn_cons]
  by_cases hc:a + 1≤hi∧subAt s sub a = true
  ·have hb:occBody s sub hi limit a st = pure (ForInStep.yield (st.fst.push a,a + 1)):=by
    unfold occBody
    rw [h1]
    exact if_pos ⟨⟨⟨by omega,h2⟩,hc.1⟩,hc.2⟩
   rw [hb]
   refine (occ_all s sub hi limit h1 k (a + 1) (st.fst.push a,a + 1) (Nat.le_refl _) (by rw [Array.size_push]; omega)).trans ?_
   rw [List.filter_cons,if_pos (by simp [hc.1,hc.2]),Array.toList_push,List.append_assoc]
   rfl
  ·have hb:occBody s sub hi limit a st = pure (ForInStep.yield (st.fst,st.snd)):=by
    unfold occBody
    rw [h1]
    exact if_neg (fun z=>hc ⟨z.1.2,z.2⟩)
   rw [hb]
   refine (occ_all s sub hi limit h1 k (a + 1) (st.fst,st.snd) (by show st.snd≤a + 1; omega) (by show st.fst.size + k≤limit; omega)).trans ?_
   rw [List.filter_cons,if_neg (fun z=>hc (by simpa using z))]
theorem subAt_one (cs:List Nat) (m i:Nat):subAt (T cs) (T [m]) i = decide (cs[i]? = some m):=by
 rw [subAt_eq,T_cps,T_cps,T_len,Bool.eq_iff_iff]
 show ((cs.drop i).take 1 == [m]) = true↔_
 rw [beq_iff_eq,decide_eq_true_iff]
 cases h:cs[i]? with
 | none =>
  rw [List.drop_of_length_le (List.getElem?_eq_none_iff.mp h)]
  simp
 | some c =>
  obtain ⟨hl,e⟩:=List.getElem?_eq_some_iff.mp h
  rw [List.drop_eq_getElem_cons hl,e]
  simp
theorem sub_T (cs:List Nat) (i j:Nat):strSub (T cs) i j = T ((cs.drop i).take (j - i)):=by
 rw [← T_of (strSub (T cs) i j),strSub_toList,T_cps]
theorem parts_cut (m:Nat) (cs:List Nat):∀ (rest pre word:List Nat) (a':Nat),cs = pre++word++rest→pre.length = a' →
  ∃ v vs,cut m rest = v::vs∧partsFrom (T cs) 1 a' ((List.range' (pre.length + word.length) (rest.length + 1)).filter fun i=>decide (i + 1≤cs.length) && decide (cs[i]? = some m)) = T (word++v)::vs.map T
 | [],pre,word,a',e,ha=>by
  refine ⟨[],[],rfl,?_⟩
  have hl:cs.length = pre.length + word.length:=by rw [e]; simp
  have hf:(List.range' (pre.length + word.length) (0 + 1)).filter (fun i=>decide (i + 1≤cs.length) && decide (cs[i]? = some m)) = []:=by
   rw [List.filter_eq_nil_iff]
   intro i hi
   have:i = pre.length + word.length:=by
    have:=List.mem_range'.mp hi
    omega
   simp; omega
  show partsFrom (T cs) 1 a' ((List.range' (pre.length + word.length) (0 + 1)).filter _) = _
  rw [hf]
  show [strSub (T cs) a' (T cs).length] = _
  rw [sub_T,T_len,e,← ha]
  simp
 | c::rest,pre,word,a',e,ha=>by
  have hl:cs.length = pre.length + word.length + (rest.length + 1):=by rw [e]; simp; omega
  have hi:cs[pre.length + word.length]? = some c:=by
   rw [e,List.getElem?_append_right (by simp)]
   simp
  rw [List.range'_succ,List.filter_cons,List.length_cons]
  by_cases hc:c = m
  ·subst hc
   obtain ⟨v,vs,e1,e2⟩:=parts_cut c cs rest (pre++word++[c]) [] (pre.length + word.length + 1) (by rw [e]; simp) (by simp; omega)
   refine ⟨[],cut c rest,cut_mark,?_⟩
   rw [if_pos (by rw [hi]; simp; omega)]
   show strSub (T cs) a' (pre.length + word.length)::partsFrom (T cs) 1 (pre.length + word.length + 1) _ = _
   have e3:(pre++word++[c]).length + ([]:List Nat).length = pre.length + word.length + 1:=by simp; omega
   rw [e3] at e2
   rw [e2,e1,sub_T,List.append_nil,List.nil_append,List.map_cons]
   congr 2
   rw [e,← ha]
   simp
  ·obtain ⟨v,vs,e1,e2⟩:=parts_cut m cs rest pre (word++[c]) a' (by rw [e]; simp) ha
   refine ⟨c::v,vs,cut_sign hc e1,?_⟩
   rw [if_neg (by rw [hi]; simp [hc])]
   have e3:pre.length + (word++[c]).length = pre.length + word.length + 1:=by simp; omega
   rw [e3] at e2
   rw [e2]
   simp
theorem split_cut {m:Nat} (hm:m < 256) (cs:List Nat):Txt.split (T cs) (T [m]) = (cut m cs).map T:=by
 have hk:Builtin.Str.strKind (T [m]) = 1:=by simp [Builtin.Str.strKind,T,hm]
 have hk2:¬ Builtin.Str.strKind (T cs) < 1:=by
  unfold Builtin.Str.strKind
  split
  ·omega
  ·split <;> omega
 have hocc:occurrences (T cs) (T [m]) 0 (T cs).length ((T cs).length + 1) = (List.range' 0 (cs.length + 1)).filter fun i=>decide (i + 1≤cs.length) && decide (cs[i]? = some m):=by
  rw [occ_eq,Nat.sub_zero]
  refine (occ_all (T cs) (T [m]) (T cs).length ((T cs).length + 1) (by rw [T_len]; rfl) ((T cs).length + 1) 0 (#[],0) (Nat.le_refl _) (by show 0 + _≤_; omega)).trans ?_
  rw [T_len]
  show []++_ = _
  rw [List.nil_append]
  congr 1
  funext i
  rw [subAt_one]
 obtain ⟨v,vs,e1,e2⟩:=parts_cut m cs cs [] [] 0 (by simp) rfl
 have e3:([]:List Nat).length + ([]:List Nat).length = 0:=rfl
 rw [e3,List.nil_append] at e2
 have all:(cut m cs).map T = partsBetween (T cs) (occurrences (T cs) (T [m]) 0 (T cs).length ((T cs).length + 1)) (T [m]).length:=by
  rw [partsBetween_eq,hocc,T_len]
  show _ = partsFrom (T cs) 1 0 _
  rw [e2,e1,List.map_cons]
 have one:∀ k,k = (occurrences (T cs) (T [m]) 0 (T cs).length ((T cs).length + 1))→k = []→(cut m cs).map T = [T cs]:=fun k hk hn=>by
  rw [all,← hk,hn,partsBetween_eq]
  show [strSub (T cs) 0 (T cs).length] = _
  rw [sub_whole]
 unfold Txt.split
 split
 ·rename_i h
  have h':cs = []:=by
   rw [hk,T_len,T_len] at h
   simp [hk2] at h
   exact h
  subst h'
  rfl
 ·split
  ·rename_i h
   exact (one _ rfl (List.isEmpty_iff.mp h)).symm
  ·exact all.symm
theorem parts_len (x y:Str):∀ l:List Nat,(partsBetween x l y.length).length = l.length + 1:=by
 intro l
 unfold partsBetween
 simp
theorem split_len {m:Nat} (cs:List Nat):(partsBetween (T cs) (occurrences (T cs) (T [m]) 0 (T cs).length ((T cs).length + 1)) (T [m]).length).length≤cs.length + 2:=by
 rw [parts_len]
 have:=occ_length_le (T cs) (T [m]) 0 (T cs).length ((T cs).length + 1)
 rw [T_len] at this ⊢
 omega
theorem cut_len {m:Nat}:∀ cs:List Nat,(cut m cs).length≤cs.length + 1
 | []=>Nat.le_refl _
 | c::cs=>by
  have ih:=cut_len (m:=m) cs
  obtain ⟨v,vs,e⟩:=cut_ne m cs
  by_cases hc:c = m
  ·subst hc
   rw [cut_mark]; simp; omega
  ·rw [cut_sign hc e]
   rw [e] at ih
   simp at ih ⊢; omega
theorem cut_word {m:Nat}:∀ {cs w:List Nat},w∈cut m cs→w.length≤cs.length
 | [],w,h=>by
  have:w = []:=by simpa [cut] using h
  rw [this]; simp
 | c::cs,w,h=>by
  obtain ⟨v,vs,e⟩:=cut_ne m cs
  by_cases hc:c = m
  ·subst hc
   rw [cut_mark] at h
   rcases List.mem_cons.mp h with rfl | h
   ·simp
   ·have:=cut_word h; simp; omega
  ·rw [cut_sign hc e] at h
   rcases List.mem_cons.mp h with rfl | h
   ·have:=cut_word (m:=m) (cs:=cs) (w:=v) (by rw [e]; exact List.mem_cons_self)
    simp; omega
   ·have:=cut_word (m:=m) (cs:=cs) (w:=w) (by rw [e]; exact List.mem_cons_of_mem _ h)
    simp; omega
theorem slice_to1 (cs:List Nat):Txt.slice (T cs) none (some 1) = T (cs.take 1):=by
 cases cs with
 | nil=>rfl
 | cons c cs =>
  have h:(1:Int)≤(T (c::cs)).length:=by rw [T_len]; simp; omega
  have:=eq_of_beq (PyProof.Rows.slice_closes_toL (x:=T (c::cs)) (j:=1) (by decide) h)
  rw [this]
  rfl
theorem slice_from1 (cs:List Nat):Txt.slice (T cs) (some 1) none = T (cs.drop 1):=by
 cases cs with
 | nil=>rfl
 | cons c cs =>
  have h:(1:Int)≤(T (c::cs)).length:=by rw [T_len]; simp; omega
  rw [PyProof.Rows.slice_from_eq (x:=T (c::cs)) (i:=1) (b:=(T (c::cs)).length) (by decide) h rfl]
  have e:((((T (c::cs)).length:Nat):Int) - 1).toNat = cs.length:=by rw [T_len]; simp
  rw [e,T_cps]
  show T ((List.drop 1 (c::cs)).take cs.length) = T cs
  simp
theorem starts_one (cs:List Nat) (m:Nat):Txt.startswith (T cs) (T [m]) = decide (cs.head? = some m):=by
 unfold Txt.startswith
 rw [subAt_one,T_len,T_len]
 cases cs with
 | nil=>simp
 | cons c cs=>simp
theorem in_one (cs:List Nat) (c:Nat):Txt.contains (T cs) ⟨#[c]⟩ = decide (c∈cs):=by
 have:=found_one (T cs) c
 rw [T_cps] at this
 exact this
end TX
namespace TX
open PySem PySem.Builtin.Str PySem.StrLaws PySem.NumText
def isNeg (cs:List Nat):Bool:=decide (cs.head? = some 45)
def fig (cs:List Nat):List Nat:=if isNeg cs then cs.drop 1 else cs
def dig (c:Nat):Bool:=decide (48≤c) && decide (c≤57)
def okN (cs:List Nat):Bool:=decide (1≤(fig cs).length) && decide ((fig cs).length≤60) && (fig cs).all dig && (decide (cs = [48]) || decide ((fig cs).head?≠some 48))
def val (cs:List Nat):Int:=if isNeg cs then -((digitsVal (fig cs):Nat):Int) else ((digitsVal (fig cs):Nat):Int)
structure Ok (cs:List Nat):Prop where
 len1:1≤(fig cs).length
 len2:(fig cs).length≤60
 digs:AllDigits (fig cs)
 lead:cs = [48]∨(fig cs).head?≠some 48
theorem ok_iff {cs:List Nat}:okN cs = true↔Ok cs:=by
 unfold okN
 simp only [Bool.and_eq_true,Bool.or_eq_true,decide_eq_true_eq,List.all_eq_true]
 constructor
 ·rintro ⟨⟨⟨h1,h2⟩,h3⟩,h4⟩
  exact ⟨h1,h2,fun c hc=>by simpa [dig] using h3 c hc,h4⟩
 ·intro h
  exact ⟨⟨⟨h.len1,h.len2⟩,fun c hc=>by simpa [dig] using h.digs c hc⟩,h.lead⟩
theorem fig_neg {cs:List Nat} (h:isNeg cs = true):cs = 45::fig cs:=by
 unfold fig
 rw [if_pos h]
 cases cs with
 | nil=>simp [isNeg] at h
 | cons c cs =>
  have:c = 45:=by simpa [isNeg] using h
  rw [this]; rfl
theorem fig_pos {cs:List Nat} (h:isNeg cs = false):fig cs = cs:=by
 unfold fig
 rw [if_neg (by rw [h]; decide)]
theorem fig_le (cs:List Nat):(fig cs).length≤cs.length:=by
 unfold fig
 split
 ·simp
 ·exact Nat.le_refl _
theorem len_fig (cs:List Nat):cs.length≤(fig cs).length + 1:=by
 unfold fig
 split
 ·simp; omega
 ·omega
theorem ne_nil {l:List Nat} (h:1≤l.length):l≠[]:=fun z=>by rw [z] at h; simp at h
theorem int_ok {cs:List Nat} (h:Ok cs):intText? (T cs) = some (val cs):=by
 have hl:=len_fig cs
 have h2:=h.len2
 have hne:=ne_nil h.len1
 unfold val
 cases hn:isNeg cs with
 | true =>
  have e:=fig_neg hn
  have r:=intText_neg (x:=T cs) (cs:=fig cs) (by rw [T_cps]; exact e) h.digs hne (by rw [T_len]; omega)
  rw [r]; rfl
 | false =>
  have e:=fig_pos hn
  have hd:=h.digs
  rw [e] at hd hne ⊢
  exact intText_digits (x:=T cs) (by rw [T_cps]; exact hd) (by rw [T_cps]; exact hne) (by rw [T_len]; omega)
theorem dig_char:∀ d:Nat,d < 10→(Nat.digitChar d).toNat = d + 48:=by decide
theorem fold_pos:∀ (cs:List Nat) (a:Nat),1≤a→1≤cs.foldl (fun acc c=>acc * 10 + (c - 48)) a
 | [],a,h=>h
 | c::cs,a,h=>by
  rw [List.foldl_cons]
  exact fold_pos cs _ (by omega)
theorem val_pos {cs:List Nat} (h:AllDigits cs) (hne:cs≠[]) (h0:cs.head?≠some 48):1≤digitsVal cs:=by
 cases cs with
 | nil=>exact absurd rfl hne
 | cons c cs =>
  have hc:=h.head
  have:c≠48:=fun z=>h0 (by rw [z]; rfl)
  show 1≤List.foldl _ (0 * 10 + (c - 48)) cs
  exact fold_pos cs _ (by omega)
theorem val_lt:∀ {cs:List Nat},AllDigits cs→digitsVal cs < 10 ^ cs.length:=by
 have key:∀ (cs:List Nat) (a:Nat),AllDigits cs→cs.foldl (fun acc c=>acc * 10 + (c - 48)) a < (a + 1) * 10 ^ cs.length:=by
  intro cs
  induction cs with
  | nil=>intro a _; simp
  | cons c cs ih =>
   intro a h
   have hc:=h.head
   rw [List.foldl_cons,List.length_cons,Nat.pow_succ]
   refine Nat.lt_of_lt_of_le (ih _ h.tail) ?_
   have:a * 10 + (c - 48) + 1≤(a + 1) * 10:=by omega
   calc (a * 10 + (c - 48) + 1) * 10 ^ cs.length≤((a + 1) * 10) * 10 ^ cs.length:=Nat.mul_le_mul_right _ this
    _ = (a + 1) * (10 ^ cs.length * 10):=by rw [Nat.mul_assoc,Nat.mul_comm 10]
 intro cs h
 have:=key cs 0 h
 simpa [digitsVal] using this
theorem digits_back:∀ (n:Nat) (cs:List Nat),cs.length = n→AllDigits cs→cs≠[]→(cs = [48]∨cs.head?≠some 48)→(Nat.toDigits 10 (digitsVal cs)).map Char.toNat = cs:=by
 intro n
 induction n with
 | zero=>intro cs h _ hne; exact absurd (List.length_eq_zero_iff.mp h) hne
 | succ n ih =>
  intro cs hl hd hne hz
  obtain ⟨ds,c,rfl⟩:∃ ds c,cs = ds++[c]:=⟨cs.dropLast,cs.getLast hne,(List.dropLast_concat_getLast hne).symm⟩
  have hc:48≤c∧c≤57:=hd c (by simp)
  have hd':AllDigits ds:=fun x hx=>hd x (by simp [hx])
  rw [digitsVal_snoc]
  cases ds with
  | nil =>
   have e:digitsVal [] * 10 + (c - 48) = c - 48:=by show 0 * 10 + (c - 48) = _; omega
   rw [e,Nat.toDigits_of_lt_base (by omega),List.map_cons,dig_char _ (by omega)]
   show [c - 48 + 48] = [c]
   congr 1; omega
  | cons d ds =>
   have h0:(d::ds).head?≠some 48:=by
    rcases hz with hz | hz
    ·simp at hz
    ·simpa using hz
   have hp:=val_pos hd' (by simp) h0
   have e:digitsVal (d::ds) * 10 + (c - 48) = 10 * digitsVal (d::ds) + (c - 48):=by rw [Nat.mul_comm]
   rw [e,← Nat.toDigits_append_toDigits (by decide) hp (by omega:c - 48 < 10),List.map_append,ih (d::ds) (by simpa using hl) hd' (by simp) (.inr h0),Nat.toDigits_of_lt_base (by omega:c - 48 < 10),List.map_cons,dig_char _ (by omega)]
   show _++[c - 48 + 48] = _
   congr 2; omega
theorem str_nat (m:Nat):(Str.ofString (toString ((m:Nat):Int))) = T ((Nat.toDigits 10 m).map Char.toNat):=by
 rw [T_str]
 show T ((Nat.repr m).toList.map Char.toNat) = _
 rw [Nat.toList_repr]
theorem str_neg (m:Nat) (h:1≤m):(Str.ofString (toString (-((m:Nat):Int)))) = T (45::(Nat.toDigits 10 m).map Char.toNat):=by
 obtain ⟨k,rfl⟩:∃ k,m = k + 1:=⟨m - 1,by omega⟩
 rw [T_str]
 have e:toString (-((k + 1:Nat):Int)) = "-"++Nat.repr (k + 1):=rfl
 rw [e,String.toList_append,List.map_append,Nat.toList_repr]
 rfl
theorem show_ok {cs:List Nat} (h:Ok cs):Str.ofString (toString (val cs)) = T cs:=by
 have hne:=ne_nil h.len1
 unfold val
 cases hn:isNeg cs with
 | true =>
  have e:=fig_neg hn
  have h0:(fig cs).head?≠some 48:=by
   rcases h.lead with z | z
   ·rw [z] at hn; simp [isNeg] at hn
   ·exact z
  rw [if_pos rfl,str_neg _ (val_pos h.digs hne h0),digits_back _ _ rfl h.digs hne (.inr h0),← e]
 | false =>
  have e:=fig_pos hn
  have hd:=h.digs
  have hz:=h.lead
  rw [e] at hd hne hz
  rw [if_neg (by decide),e,str_nat,digits_back _ _ rfl hd hne hz]
theorem val_bound {cs:List Nat} (h:Ok cs):(val cs).natAbs < 10 ^ 60:=by
 have h1:=val_lt h.digs
 have h2:10 ^ (fig cs).length≤10 ^ 60:=Nat.pow_le_pow_right (by decide) h.len2
 have e:(val cs).natAbs = digitsVal (fig cs):=by
  unfold val
  split <;> omega
 omega
theorem len_small {i:Int} (h:i.natAbs < 10 ^ 61):(Str.ofString (toString i)).length≤100:=by
 have key:∀ m:Nat,m < 10 ^ 61→(Nat.toDigits 10 m).length≤61:=fun m hm=>by
  by_cases h0:m = 0
  ·subst h0; decide
  ·exact (Nat.length_toDigits_le_iff (by decide) (by decide)).mpr hm
 rcases Int.lt_or_le i 0 with hi | hi
 ·obtain ⟨m,rfl,hm⟩:∃ m:Nat,i = -((m:Nat):Int)∧1≤m:=⟨i.natAbs,by omega,by omega⟩
  rw [str_neg m hm,T_len]
  have:=key m (by simpa using h)
  simp; omega
 ·obtain ⟨m,rfl⟩:=Int.eq_ofNat_of_zero_le hi
  rw [str_nat,T_len]
  have:=key m (by simpa using h)
  simp; omega
end TX
namespace Law
open PySem PySem.Spec PyProof.Rows L2 G HM
def top (i:Nat):Stmt:=PySem.Challenge.pw_glide_k46_numbers_and_portions_read.main.body.getD i (.Pass ⟨0,0,0,0⟩)
noncomputable def b__law_cell_1:DS:=(sSet 2 (e2 pAdd (e2 pMul (eVar 2) (eC (.int 1009))) (e2 pMod (eVar 3) (eC (.int 1000003)))))
theorem b__law_cell_1_s (σ:PSt):b__law_cell_1 σ = (sSet 2 (e2 pAdd (e2 pMul (eVar 2) (eC (.int 1009))) (e2 pMod (eVar 3) (eC (.int 1000003))))) σ:=rfl
noncomputable def d__law_cell:DS:=(sSeq (sIf (tV (e2 (pCmp fun i j=>decide (i < j)) (eVar 1) (eLenV 0))) (sRet (e2 pMod (eIxV 0 (eVar 1)) (e2 pPow (eC (.int 10)) (eC (.int 60))))) sNext)
  (sSeq (sSet 2 (e2 pAdd (e2 pMul (eVar 1) (eC (.int 7907))) (eC (.int 3571))))
  (sSeq (sFor (itE (eSl (eVar 0) oNo (oE (eC (.int 3))))) (gN 3) b__law_cell_1)
  (sSeq (sSet 2 (e2 pMod (eVar 2) (eC (.int 2147483647))))
  (sRet (e2 pMod (e2 pMul (eVar 2) (eVar 2)) (eC (.int 2147483629))))))))
noncomputable def M__law_cell:List PV→Res PV:=runF 2 4 d__law_cell
noncomputable def b__law_number_due_1:DS:=(sSeq (sIf (G.tOr (tV (e2 (pCmp fun i j=>decide (i < j)) (eA bOrd (aCons (eVar 3) aNil)) (eC (.int 48)))) (tV (e2 (pCmp fun i j=>decide (j < i)) (eA bOrd (aCons (eVar 3) aNil)) (eC (.int 57))))) (sRet (eC .non)) sNext)
  (sSet 2 (e2 pSub (e2 pAdd (e2 pMul (eC (.int 10)) (eVar 2)) (eA bOrd (aCons (eVar 3) aNil))) (eC (.int 48)))))
theorem b__law_number_due_1_s (σ:PSt):b__law_number_due_1 σ = (sSeq (sIf (G.tOr (tV (e2 (pCmp fun i j=>decide (i < j)) (eA bOrd (aCons (eVar 3) aNil)) (eC (.int 48)))) (tV (e2 (pCmp fun i j=>decide (j < i)) (eA bOrd (aCons (eVar 3) aNil)) (eC (.int 57))))) (sRet (eC .non)) sNext)
  (sSet 2 (e2 pSub (e2 pAdd (e2 pMul (eC (.int 10)) (eVar 2)) (eA bOrd (aCons (eVar 3) aNil))) (eC (.int 48))))) σ:=rfl
noncomputable def d__law_number_due:DS:=(sSeq (sSet 1 (eVar 0))
  (sSeq (sIf (tV (e2 pEq (eSlS (eVar 0) oNo (oE (eC (.int 1)))) (eC (.str (PySem.Str.ofString "-"))))) (sSet 1 (eSlS (eVar 0) (oE (eC (.int 1))) oNo)) sNext)
  (sSeq (sIf (G.tOr (tV (e2 pEq (eVar 1) (eC (.str (PySem.Str.ofString ""))))) (G.tOr (tV (e2 (pCmp fun i j=>decide (j < i)) (eA bLenS (aCons (eVar 1) aNil)) (eC (.int 60)))) (G.tAnd (tV (e2 pEq (e2 pIxS (eVar 1) (eC (.int 0))) (eC (.str (PySem.Str.ofString "0"))))) (tV (e2 pNe (eVar 0) (eC (.str (PySem.Str.ofString "0")))))))) (sRet (eC .non)) sNext)
  (sSeq (sSet 2 (eC (.int 0)))
  (sSeq (sFor (itS (eVar 1)) (gN 3) b__law_number_due_1)
  (sSeq (sIf (tV (e2 pEq (eSlS (eVar 0) oNo (oE (eC (.int 1)))) (eC (.str (PySem.Str.ofString "-"))))) (sRet (e2 pSub (eC (.int 0)) (eVar 2))) sNext)
  (sRet (eVar 2))))))))
noncomputable def M__law_number_due:List PV→Res PV:=runF 1 4 d__law_number_due
noncomputable def d__law_kind:DS:=(sSeq (sIf (G.tOr (G.tNot (tV (e1 (pIsiX [("NoText",true)]) (eVar 0)))) (G.tNot (tV (e1 (pIsiX [("NoText",true)]) (eVar 0))))) (sRet (eC (.str (PySem.Str.ofString "another")))) sNext)
  (sSeq (sIf (tV (e1 (pIsiX [("NoText",false)]) (eVar 0))) (sRet (eC (.str (PySem.Str.ofString "another")))) sNext)
  (sRet (eC (.str (PySem.Str.ofString "text"))))))
noncomputable def M__law_kind:List PV→Res PV:=runF 1 1 d__law_kind
noncomputable def e_is_number_1:DE:=(e2 pInS (eVar 0) (eC (.str (PySem.Str.ofString "0123456789"))))
theorem e_is_number_1_s (σ:PSt):e_is_number_1 σ = (e2 pInS (eVar 0) (eC (.str (PySem.Str.ofString "0123456789")))) σ:=rfl
noncomputable def d_is_number:DS:=(sSeq (sSet 1 (eIf (tV (eMt pStarts (eVar 0) (eC (.str (PySem.Str.ofString "-"))))) (eSlS (eVar 0) (oE (eC (.int 1))) oNo) (eVar 0)))
  (sSeq (sIf (G.tOr (G.tNot (tV (eCh (pCmp fun i j=>decide (i≤j)) (pCmp fun i j=>decide (i≤j)) (eC (.int 1)) (eA bLenS (aCons (eVar 1) aNil)) (eC (.int 60))))) (G.tNot (tV (eA bAll (aCons (eComp (itS (eVar 1)) (gN 0) e_is_number_1 1 []) aNil))))) (sRet (eC (.bl false))) sNext)
  (sRet (eOr (e2 pEq (eVar 0) (eC (.str (PySem.Str.ofString "0")))) (e2 pNe (e2 pIxS (eVar 1) (eC (.int 0))) (eC (.str (PySem.Str.ofString "0"))))))))
noncomputable def M_is_number:List PV→Res PV:=runF 1 2 d_is_number
noncomputable def d_read_number:DS:=(sSeq (sIf (G.tOr (G.tNot (tV (e1 (pIsi "str") (eVar 0)))) (G.tNot (tV (eA (fun ps=>noErr (M_is_number ps)) (aCons (eVar 0) aNil))))) (sRaise "NoText") sNext)
  (sRet (eA bIntS (aCons (eVar 0) aNil))))
noncomputable def M_read_number:List PV→Res PV:=runE 1 1 d_read_number
noncomputable def b__law_number_word_1:DS:=(sSet 1 (eVar 3))
theorem b__law_number_word_1_s (σ:PSt):b__law_number_word_1 σ = (sSet 1 (eVar 3)) σ:=rfl
noncomputable def d__law_number_word:DS:=(sSeq (sSet 1 (eC .non))
  (sSeq (sSet 2 (eC .non))
  (sSeq (sTryS 2 M_read_number (aCons (eVar 0) aNil) ["NoText"] 3 b__law_number_word_1)
  (sSeq (sIf (tV (e2 pIsNot (eVar 1) (eC .non))) (sRet (eA (fun ps=>noErr (M__law_kind ps)) (aCons (eVar 1) aNil))) sNext)
  (sRet (eA pLst (aCons (eC (.str (PySem.Str.ofString "told"))) (aCons (eVar 2) aNil))))))))
noncomputable def M__law_number_word:List PV→Res PV:=runF 1 4 d__law_number_word
noncomputable def c__law_common_1:DT:=(tV (e2 (pCmp fun i j=>decide (j < i)) (eVar 0) (eC (.int 0))))
theorem c__law_common_1_s (σ:PSt):c__law_common_1 σ = (tV (e2 (pCmp fun i j=>decide (j < i)) (eVar 0) (eC (.int 0)))) σ:=rfl
noncomputable def b__law_common_1:DS:=(sPar 0 1 (aCons (e2 pMod (eVar 1) (eVar 0)) (aCons (eVar 0) aNil)))
theorem b__law_common_1_s (σ:PSt):b__law_common_1 σ = (sPar 0 1 (aCons (e2 pMod (eVar 1) (eVar 0)) (aCons (eVar 0) aNil))) σ:=rfl
noncomputable def d__law_common:DS:=(sSeq (sSet 0 (eA bAbs (aCons (eVar 0) aNil)))
  (sSeq (sSet 1 (eA bAbs (aCons (eVar 1) aNil)))
  (sSeq (sWhile c__law_common_1 b__law_common_1)
  (sRet (eVar 1)))))
noncomputable def M__law_common:List PV→Res PV:=runF 2 2 d__law_common
noncomputable def b__law_cut_at_1:DS:=(sIf (tV (e2 pEq (eVar 3) (eVar 1))) (sApp 2 (eC (.str (PySem.Str.ofString "")))) (sPut 2 (e1 pNeg (eC (.int 1))) (e2 pAddS (eIxV 2 (e1 pNeg (eC (.int 1)))) (eVar 3))))
theorem b__law_cut_at_1_s (σ:PSt):b__law_cut_at_1 σ = (sIf (tV (e2 pEq (eVar 3) (eVar 1))) (sApp 2 (eC (.str (PySem.Str.ofString "")))) (sPut 2 (e1 pNeg (eC (.int 1))) (e2 pAddS (eIxV 2 (e1 pNeg (eC (.int 1)))) (eVar 3)))) σ:=rfl
noncomputable def d__law_cut_at:DS:=(sSeq (sOwn 2 (aCons (eC (.str (PySem.Str.ofString ""))) aNil))
  (sSeq (sFor (itS (eVar 0)) (gN 3) b__law_cut_at_1)
  (sShare 2 (sRet (eVar 2)))))
noncomputable def M__law_cut_at:List PV→Res PV:=runF 2 4 d__law_cut_at
noncomputable def d__law_portion_due:DS:=(sSeq (sSet 1 (eA (fun ps=>noErr (M__law_cut_at ps)) (aCons (eVar 0) (aCons (eC (.str (PySem.Str.ofString "/"))) aNil))))
  (sSeq (sIf (tV (e2 (pCmp fun i j=>decide (j < i)) (eLenV 1) (eC (.int 2)))) (sRet (eC .non)) sNext)
  (sSeq (sSet 2 (eA (fun ps=>noErr (M__law_number_due ps)) (aCons (eIxV 1 (eC (.int 0))) aNil)))
  (sSeq (sIf (G.tOr (tV (e2 pIs (eVar 2) (eC .non))) (G.tAnd (tV (e2 pEq (eLenV 1) (eC (.int 1)))) (tV (e2 pNe (eIxV 1 (eC (.int 0))) (eVar 0))))) (sRet (eC .non)) sNext)
  (sSeq (sIf (tV (e2 pEq (eLenV 1) (eC (.int 1)))) (sRet (eA pTup (aCons (eVar 2) (aCons (eC (.int 1)) aNil)))) sNext)
  (sSeq (sSet 3 (eA (fun ps=>noErr (M__law_number_due ps)) (aCons (eIxV 1 (eC (.int 1))) aNil)))
  (sSeq (sIf (G.tOr (tV (e2 pIs (eVar 3) (eC .non))) (G.tOr (tV (e2 (pCmp fun i j=>decide (i < j)) (eVar 3) (eC (.int 2)))) (tV (e2 pNe (eA (fun ps=>noErr (M__law_common ps)) (aCons (eVar 2) (aCons (eVar 3) aNil))) (eC (.int 1)))))) (sRet (eC .non)) sNext)
  (sRet (eA pTup (aCons (eVar 2) (aCons (eVar 3) aNil)))))))))))
noncomputable def M__law_portion_due:List PV→Res PV:=runF 1 4 d__law_portion_due
noncomputable def c_divisor_1:DT:=(tV (e2 pNe (eVar 1) (eC (.int 0))))
theorem c_divisor_1_s (σ:PSt):c_divisor_1 σ = (tV (e2 pNe (eVar 1) (eC (.int 0)))) σ:=rfl
noncomputable def b_divisor_1:DS:=(sSeq (sSet 2 (e2 pMod (eVar 0) (eVar 1)))
  (sSeq (sSet 0 (eVar 1))
  (sSet 1 (eVar 2))))
theorem b_divisor_1_s (σ:PSt):b_divisor_1 σ = (sSeq (sSet 2 (e2 pMod (eVar 0) (eVar 1)))
  (sSeq (sSet 0 (eVar 1))
  (sSet 1 (eVar 2)))) σ:=rfl
noncomputable def d_divisor:DS:=(sSeq (sSet 0 (eA bAbs (aCons (eVar 0) aNil)))
  (sSeq (sSet 1 (eA bAbs (aCons (eVar 1) aNil)))
  (sSeq (sWhile c_divisor_1 b_divisor_1)
  (sRet (eVar 0)))))
noncomputable def M_divisor:List PV→Res PV:=runF 2 3 d_divisor
noncomputable def d_pieces:DS:=(sSeq (sIf (G.tNot (tV (e1 (pIsi "str") (eVar 0)))) (sRaise "NoText") sNext)
  (sRet (eMt pSplit (eVar 0) (eVar 1))))
noncomputable def M_pieces:List PV→Res PV:=runE 2 2 d_pieces
noncomputable def e_read_portion_1:DE:=(eA M_read_number (aCons (eVar 0) aNil))
theorem e_read_portion_1_s (σ:PSt):e_read_portion_1 σ = (eA M_read_number (aCons (eVar 0) aNil)) σ:=rfl
noncomputable def d_read_portion:DS:=(sSeq (sCompE 1 (itE (eA M_pieces (aCons (eVar 0) (aCons (eC (.str (PySem.Str.ofString "/"))) aNil)))) (gN 0) e_read_portion_1 1 [])
  (sSeq (sIf (tV (e2 pEq (eLenV 1) (eC (.int 1)))) (sRet (eA pTup (aCons (eIxV 1 (eC (.int 0))) (aCons (eC (.int 1)) aNil)))) sNext)
  (sSeq (sIf (G.tOr (tV (e2 pNe (eLenV 1) (eC (.int 2)))) (G.tOr (tV (e2 (pCmp fun i j=>decide (i < j)) (eIxV 1 (eC (.int 1))) (eC (.int 2)))) (tV (e2 pNe (eA (fun ps=>noErr (M_divisor ps)) (aCons (eIxV 1 (eC (.int 0))) (aCons (eIxV 1 (eC (.int 1))) aNil))) (eC (.int 1)))))) (sRaise "NoText") sNext)
  (sRet (eA pTup (aCons (eIxV 1 (eC (.int 0))) (aCons (eIxV 1 (eC (.int 1))) aNil)))))))
noncomputable def M_read_portion:List PV→Res PV:=runE 1 2 d_read_portion
noncomputable def b__law_portion_word_1:DS:=(sSet 1 (eVar 3))
theorem b__law_portion_word_1_s (σ:PSt):b__law_portion_word_1 σ = (sSet 1 (eVar 3)) σ:=rfl
noncomputable def d__law_portion_word:DS:=(sSeq (sSet 1 (eC .non))
  (sSeq (sSet 2 (eC .non))
  (sSeq (sTryS 2 M_read_portion (aCons (eVar 0) aNil) ["NoText"] 3 b__law_portion_word_1)
  (sSeq (sIf (tV (e2 pIsNot (eVar 1) (eC .non))) (sRet (eA (fun ps=>noErr (M__law_kind ps)) (aCons (eVar 1) aNil))) sNext)
  (sRet (eA pLst (aCons (eC (.str (PySem.Str.ofString "told"))) (aCons (eVar 2) aNil))))))))
noncomputable def M__law_portion_word:List PV→Res PV:=runF 1 4 d__law_portion_word
noncomputable def d__law_whole:DS:=(sRet (eAnd (e1 (pIsi "int") (eVar 0)) (e1 pNot (e1 (pIsi "bool") (eVar 0)))))
noncomputable def M__law_whole:List PV→Res PV:=runF 1 1 d__law_whole
noncomputable def d_show_portion:DS:=(sSeq (sSet 1 (eIxV 0 (eC (.int 0))))
  (sSeq (sSet 2 (eIxV 0 (eC (.int 1))))
  (sSeq (sIf (tV (e2 pEq (eVar 2) (eC (.int 1)))) (sRet (eA bStr (aCons (eVar 1) aNil))) sNext)
  (sRet (eFs (PySem.Str.ofString "/") (eVar 1) (eVar 2))))))
noncomputable def M_show_portion:List PV→Res PV:=runF 1 3 d_show_portion
noncomputable def d__law_right:DS:=(sSeq (sSet 1 (eC .non))
  (sSeq (sSet 2 (eC .non))
  (sSeq (sIf (tV (e1 (pIsi "str") (eVar 0))) (sSeq (sSet 1 (eA (fun ps=>noErr (M__law_number_due ps)) (aCons (eVar 0) aNil)))
  (sSet 2 (eA (fun ps=>noErr (M__law_portion_due ps)) (aCons (eVar 0) aNil)))) sNext)
  (sSeq (sSet 3 (eA (fun ps=>noErr (M__law_number_word ps)) (aCons (eVar 0) aNil)))
  (sSeq (sIf (G.tAnd (tV (e2 pIs (eVar 1) (eC .non))) (tV (e2 pNe (eVar 3) (eC (.str (PySem.Str.ofString "text")))))) (sRet (eC (.bl false))) sNext)
  (sSeq (sIf (G.tAnd (tV (e2 pIsNot (eVar 1) (eC .non))) (G.tOr (tV (e2 pNe (eVar 3) (eA pLst (aCons (eC (.str (PySem.Str.ofString "told"))) (aCons (eVar 1) aNil))))) (G.tNot (tV (eA (fun ps=>noErr (M__law_whole ps)) (aCons (eIxV 3 (eC (.int 1))) aNil)))))) (sRet (eC (.bl false))) sNext)
  (sSeq (sSet 3 (eA (fun ps=>noErr (M__law_portion_word ps)) (aCons (eVar 0) aNil)))
  (sSeq (sIf (tV (e2 pIs (eVar 2) (eC .non))) (sRet (e2 pEq (eVar 3) (eC (.str (PySem.Str.ofString "text"))))) sNext)
  (sSeq (sIf (G.tOr (tV (e2 pNe (eVar 3) (eA pLst (aCons (eC (.str (PySem.Str.ofString "told"))) (aCons (eVar 2) aNil))))) (G.tNot (tV (e1 (pIsi "tuple") (eIxV 3 (eC (.int 1))))))) (sRet (eC (.bl false))) sNext)
  (sSeq (sSet 4 (eA (fun ps=>noErr (M_show_portion ps)) (aCons (eVar 2) aNil)))
  (sRet (eAnd (e1 (pIsi "str") (eVar 4)) (e2 pEq (eVar 4) (eVar 0))))))))))))))
noncomputable def M__law_right:List PV→Res PV:=runF 1 5 d__law_right
noncomputable def d__law_other:DS:=(sSeq (sSet 1 (eA pLst (aCons (eC .non) (aCons (eC (.int 7)) (aCons (eC (.bl true)) (aCons (eA pLst (aCons (eC (.str (PySem.Str.ofString "7"))) aNil)) (aCons (eA pTup (aCons (eC (.str (PySem.Str.ofString "7"))) aNil)) (aCons (eC .dic) (aCons (eA pLst aNil) (aCons (e2 pSub (eC (.int 0)) (e2 pMod (eVar 0) (e2 pPow (eC (.int 10)) (eC (.int 59))))) (aCons (eA pLst (aCons (eC (.int 7)) aNil)) (aCons (eA pTup (aCons (eC (.int 1)) (aCons (eC (.int 2)) aNil))) aNil))))))))))))
  (sRet (eIxV 1 (e2 pMod (eVar 0) (eC (.int 10))))))
noncomputable def M__law_other:List PV→Res PV:=runF 1 2 d__law_other
noncomputable def d__law_two:DS:=(sSeq (sIf (tV (e2 pEq (e2 pMod (eVar 0) (eC (.int 3))) (eC (.int 0)))) (sRet (e2 pAddS (e2 pAddS (eA bStr (aCons (e2 pSub (e2 pMod (e2 pFdiv (eVar 0) (eC (.int 3))) (eC (.int 23))) (eC (.int 11))) aNil)) (eC (.str (PySem.Str.ofString "/")))) (eA bStr (aCons (e2 pMod (e2 pFdiv (eVar 0) (eC (.int 69))) (eC (.int 12))) aNil)))) sNext)
  (sRet (e2 pAddS (e2 pAddS (eA bStr (aCons (e2 pSub (e2 pMod (e2 pFdiv (eVar 0) (eC (.int 3))) (e2 pPow (eC (.int 10)) (eC (.int 20)))) (e2 pMul (eC (.int 5)) (e2 pPow (eC (.int 10)) (eC (.int 19))))) aNil)) (eC (.str (PySem.Str.ofString "/")))) (eA bStr (aCons (e2 pMod (e2 pFdiv (eVar 0) (eC (.int 7))) (e2 pPow (eC (.int 10)) (eC (.int 18)))) aNil)))))
noncomputable def M__law_two:List PV→Res PV:=runF 1 1 d__law_two
noncomputable def d__law_written:DS:=(sSeq (sIf (tV (e2 pEq (e2 pMod (eVar 0) (eC (.int 2))) (eC (.int 1)))) (sRet (e2 pAddS (eC (.str (PySem.Str.ofString "-"))) (eA bStr (aCons (e2 pMod (e2 pFdiv (eVar 0) (eC (.int 2))) (e2 pPow (eC (.int 10)) (eC (.int 60)))) aNil)))) sNext)
  (sRet (eA bStr (aCons (e2 pMod (e2 pFdiv (eVar 0) (eC (.int 2))) (e2 pPow (eC (.int 10)) (eC (.int 60)))) aNil))))
noncomputable def M__law_written:List PV→Res PV:=runF 1 1 d__law_written
noncomputable def d__law_thing:DS:=(sSeq (sSet 1 (e2 pMod (eVar 0) (eC (.int 8))))
  (sSeq (sSet 0 (e2 pFdiv (eVar 0) (eC (.int 8))))
  (sSeq (sSet 2 (eA (fun ps=>noErr (M__law_written ps)) (aCons (eVar 0) aNil)))
  (sSeq (sIf (G.tOr (tV (e2 pEq (eVar 1) (eC (.int 1)))) (tV (e2 pEq (eVar 1) (eC (.int 2))))) (sSet 2 (eA (fun ps=>noErr (M__law_two ps)) (aCons (eVar 0) aNil))) sNext)
  (sSeq (sIf (G.tOr (tV (e2 pEq (eVar 1) (eC (.int 2)))) (tV (e2 pEq (eVar 1) (eC (.int 3))))) (sSeq (sSet 3 (e2 pMod (e2 pFdiv (eVar 0) (eC (.int 40))) (e2 pAdd (eA bLenS (aCons (eVar 2) aNil)) (eC (.int 1)))))
  (sRet (e2 pAddS (e2 pAddS (eSlS (eVar 2) oNo (oE (eVar 3))) (e2 pIxS (eC (.str (PySem.Str.ofString "0123456789-+, \n	_a./"))) (e2 pMod (e2 pFdiv (eVar 0) (eC (.int 2))) (eC (.int 20))))) (eSlS (eVar 2) (oE (eVar 3)) oNo)))) sNext)
  (sSeq (sIf (tV (e2 pEq (eVar 1) (eC (.int 4)))) (sRet (e2 pAddS (e2 pAddS (e2 pMulS (eC (.str (PySem.Str.ofString "-"))) (e2 pMod (eVar 0) (eC (.int 2)))) (e2 pMulS (eC (.str (PySem.Str.ofString "0"))) (e2 pMod (e2 pFdiv (eVar 0) (eC (.int 2))) (eC (.int 3))))) (eA bStr (aCons (e2 pMod (e2 pFdiv (eVar 0) (eC (.int 6))) (e2 pPow (eC (.int 10)) (eC (.int 40)))) aNil)))) sNext)
  (sSeq (sIf (tV (e2 pEq (eVar 1) (eC (.int 5)))) (sRet (e2 pAddS (e2 pAddS (e2 pMulS (eC (.str (PySem.Str.ofString "-"))) (e2 pMod (eVar 0) (eC (.int 2)))) (eA bStr (aCons (e2 pAdd (eC (.int 1)) (e2 pMod (e2 pFdiv (eVar 0) (eC (.int 2))) (eC (.int 9)))) aNil))) (e2 pMulS (eC (.str (PySem.Str.ofString "7"))) (e2 pAdd (eC (.int 58)) (e2 pMod (e2 pFdiv (eVar 0) (eC (.int 18))) (eC (.int 4))))))) sNext)
  (sSeq (sIf (tV (e2 pEq (eVar 1) (eC (.int 6)))) (sRet (eA (fun ps=>noErr (M__law_other ps)) (aCons (eVar 0) aNil))) sNext)
  (sRet (eVar 2))))))))))
noncomputable def M__law_thing:List PV→Res PV:=runF 1 4 d__law_thing
noncomputable def b_law_1:DS:=(sIf (G.tNot (tV (eA (fun ps=>noErr (M__law_right ps)) (aCons (eA (fun ps=>noErr (M__law_thing ps)) (aCons (eA (fun ps=>noErr (M__law_cell ps)) (aCons (eVar 0) (aCons (eVar 1) aNil))) aNil)) aNil)))) (sRet (eC (.bl false))) sNext)
theorem b_law_1_s (σ:PSt):b_law_1 σ = (sIf (G.tNot (tV (eA (fun ps=>noErr (M__law_right ps)) (aCons (eA (fun ps=>noErr (M__law_thing ps)) (aCons (eA (fun ps=>noErr (M__law_cell ps)) (aCons (eVar 0) (aCons (eVar 1) aNil))) aNil)) aNil)))) (sRet (eC (.bl false))) sNext) σ:=rfl
noncomputable def d_law:DS:=(sSeq (sFor (itR asRange1 (aCons (eA bMax (aCons (eC (.int 1)) (aCons (eLenV 0) aNil))) aNil)) (gN 1) b_law_1)
  (sRet (eC (.bl true))))
noncomputable def M_law:List PV→Res PV:=runF 1 2 d_law
section
variable {P:Program} {w:World} {K:PySem.W.Frag} {mg:Str→Option Value} {base h:Heap}
theorem sc__law_cell:FnScope ["script","k","number","cell"] ["script","k"] (defScope (top 20)):=⟨rfl,rfl,rfl,by decide +kernel,rfl,by decide +kernel,by decide +kernel⟩
theorem in__law_cell (D:DefAt K "_law_cell" (top 20)) (KI:K.In h) (GN:h.Ns mainGlobals mg) (B:Bi mg) :FunIn P w K mg base "_law_cell" 1 M__law_cell:=by
 have nd:=sc__law_cell.nd
 refine def_in D KI GN sc__law_cell (fun _ _ _ _ _ _ us hl=>match us,hl with | [_,_],_=>rfl) (fun f cdv A outer s H Hs E hr=>?_)
 have hu:=room20 hr
 exact (xb (xsif (xtc opp_lt (xv 1) (xlV 0 B.len)) (xb1 (xret (xop opp_mod (xiV 0 (xv 1)) (xop opp_pow xint xint)))) xb0)
  (xb (xset 2 (xop opp_add (xop opp_mul (xv 1) xint) xint))
  (xb (xfor PassesOwn.never (xseq (xsl (xv 0) xo0 (xo xint))) (xgn 3) (xb1 (xset 2 (xop opp_add (xop opp_mul (xv 2) xint) (xop opp_mod (xv 3) xint)))))
  (xb (xset 2 (xop opp_mod (xv 2) xint))
  (xb1 (xret (xop opp_mod (xop opp_mul (xv 2) (xv 2)) xint)))))))
theorem sc__law_number_due:FnScope ["word","figures","number","sign"] ["word"] (defScope (top 23)):=⟨rfl,rfl,rfl,by decide +kernel,rfl,by decide +kernel,by decide +kernel⟩
theorem in__law_number_due (D:DefAt K "_law_number_due" (top 23)) (KI:K.In h) (GN:h.Ns mainGlobals mg) (B:Bi mg)  (Z_ord:mg "ord" = none) (KG:∀ (y:Str) (C:Addr),ClsIs K y C→mg y = some (.ref C)):FunIn P w K mg base "_law_number_due" 1 M__law_number_due:=by
 have nd:=sc__law_number_due.nd
 refine def_in D KI GN sc__law_number_due (fun _ _ _ _ _ _ us hl=>match us,hl with | [_],_=>rfl) (fun f cdv A outer s H Hs E hr=>?_)
 have hu:=room20 hr
 exact (xb (xset 1 (xv 0))
  (xb (xsif (xtc (opp_eq hu) (xslS (xv 0) xo0 (xo xint)) xstr) (xb1 (xset 1 (xslS (xv 0) (xo xint) xo0))) xb0)
  (xb (xsif (xw (xor2 (xtc (opp_eq hu) (xv 1) xstr) (xor2 (xtc opp_gt (xcB cp_lenS B.len PySem.boot_len (xa (xv 1) xa0)) xint) (xor1 (xw (xand2 (xtc (opp_eq hu) (xiS (xv 1) xint) xstr) (xand1 (xtc (opp_ne hu) (xv 0) xstr)))))))) (xb1 (xret xnon)) xb0)
  (xb (xset 2 xint)
  (xb (xfor PassesOwn.never (xseqS (xv 1)) (xgn 3) (xb (xsif (xw (xor2 (xtc opp_lt (xcB cp_ord Z_ord bw_ord (xa (xv 3) xa0)) xint) (xor1 (xtc opp_gt (xcB cp_ord Z_ord bw_ord (xa (xv 3) xa0)) xint)))) (xb1 (xret xnon)) xb0)
  (xb1 (xset 2 (xop opp_sub (xop opp_add (xop opp_mul xint (xv 2)) (xcB cp_ord Z_ord bw_ord (xa (xv 3) xa0))) xint)))))
  (xb (xsif (xtc (opp_eq hu) (xslS (xv 0) xo0 (xo xint)) xstr) (xb1 (xret (xop opp_sub xint (xv 2)))) xb0)
  (xb1 (xret (xv 2)))))))))
theorem sc__law_kind:FnScope ["e"] ["e"] (defScope (top 30)):=⟨rfl,rfl,rfl,by decide +kernel,rfl,by decide +kernel,by decide +kernel⟩
theorem in__law_kind (D:DefAt K "_law_kind" (top 30)) (KI:K.In h) (GN:h.Ns mainGlobals mg) (B:Bi mg)  (T__law_kind_1:IsTab K [.type "ValueError"] [("NoText",true)]) (Z_ValueError:mg "ValueError" = none) (T__law_kind_2:IsOwn K "NoText" [("NoText",true)]) (T__law_kind_3:IsMany K ["NoNumber","Flat","Crowded","NoName","Twice","Past","NoRow"] [("NoText",false)]) (KG:∀ (y:Str) (C:Addr),ClsIs K y C→mg y = some (.ref C)):FunIn P w K mg base "_law_kind" 1 M__law_kind:=by
 have nd:=sc__law_kind.nd
 refine def_in D KI GN sc__law_kind (fun _ _ _ _ _ _ us hl=>match us,hl with | [_],_=>rfl) (fun f cdv A outer s H Hs E hr=>?_)
 have hu:=room20 hr
 exact (xb (xsif (xw (xor2 (xtn (xtv (xisb (xv 0) PyProof.Rows.Boot.«ValueError» T__law_kind_1 B.isinstance Z_ValueError))) (xor1 (xtn (xtv (xiso (xv 0) T__law_kind_2 KG B.isinstance)))))) (xb1 (xret xstr)) xb0)
  (xb (xsif (xtv (xist (xv 0) T__law_kind_3 KG B.isinstance)) (xb1 (xret xstr)) xb0)
  (xb1 (xret xstr))))
theorem sc_is_number:FnScope ["text","figures"] ["text"] (defScope (top 14)):=⟨rfl,rfl,rfl,by decide +kernel,rfl,by decide +kernel,by decide +kernel⟩
theorem in_is_number (D:DefAt K "is_number" (top 14)) (KI:K.In h) (GN:h.Ns mainGlobals mg) (B:Bi mg)  (Q_FIGURES:TxtAt K "FIGURES" (PySem.Str.ofString "0123456789")) (KG:∀ (y:Str) (C:Addr),ClsIs K y C→mg y = some (.ref C)):FunIn P w K mg base "is_number" 1 M_is_number:=by
 have nd:=sc_is_number.nd
 refine def_in D KI GN sc_is_number (fun _ _ _ _ _ _ us hl=>match us,hl with | [_],_=>rfl) (fun f cdv A outer s H Hs E hr=>?_)
 have hu:=room20 hr
 exact (xb (xset 1 (xif (xtv (xstarts (xv 0) xstr)) (xslS (xv 0) (xo xint) xo0) (xv 0)))
  (xb (xsif (xw (xor2 (xtn (xtchain opp_le opp_le xint (xcB cp_lenS B.len PySem.boot_len (xa (xv 1) xa0)) xint)) (xor1 (xtn (xtv (xcB (cp_all rfl) B.all bw_all (xa (xcomp (xblk ["sign"] cap0 gk_n (fun _ _ _ _ _ _ _ nd2=>(xgn 0)) (fun _ _ _ _ _ _ _ nd2=>(xcmp opp_inS (xv 0) (xconS (x:="FIGURES") Q_FIGURES)))) (xseqS (xv 1))) xa0))))))) (xb1 (xret xbl)) xb0)
  (xb1 (xret (xor' (xcmp (opp_eq hu) (xv 0) xstr) (xone (xcmp (opp_ne hu) (xiS (xv 1) xint) xstr)))))))
theorem sc_read_number:FnScope ["text"] ["text"] (defScope (top 16)):=⟨rfl,rfl,rfl,by decide +kernel,rfl,by decide +kernel,by decide +kernel⟩
theorem in_read_number (D:DefAt K "read_number" (top 16)) (KI:K.In h) (GN:h.Ns mainGlobals mg) (B:Bi mg) (F_is_number:FunIn P w K mg base "is_number" 1 M_is_number) (X_NoText:ExcAt K "NoText") (KG:∀ (y:Str) (C:Addr),ClsIs K y C→mg y = some (.ref C)):FunIn P w K mg base "read_number" 2 M_read_number:=by
 have nd:=sc_read_number.nd
 refine def_inE D KI GN sc_read_number (fun _ _ _ _ _ _ us hl=>match us,hl with | [_],_=>rfl) (fun f cdv A outer s H Hs E hr=>?_)
 have hu:=room20 hr
 exact (xb (xsif (xw (xor2 (xtn (xtv (xcI (xv 0) kn_str bt_str B.isinstance B.str))) (xor1 (xtn (xtv (xcF (F_is_number.is hr) (xa (xv 0) xa0))))))) (xb1 (xraise X_NoText)) xb0)
  (xb1 (xret (xcT cp_intS B.int bt_int (xa (xv 0) xa0)))))
theorem sc__law_number_word:FnScope ["thing","error","found","e"] ["thing"] (defScope (top 31)):=⟨rfl,rfl,rfl,by decide +kernel,rfl,by decide +kernel,by decide +kernel⟩
theorem in__law_number_word (D:DefAt K "_law_number_word" (top 31)) (KI:K.In h) (GN:h.Ns mainGlobals mg) (B:Bi mg) (F__law_kind:FunIn P w K mg base "_law_kind" 1 M__law_kind) (F_read_number:FunIn P w K mg base "read_number" 2 M_read_number) (C__law_number_word_1:Caught K "GlideError" ["NoText"]) (KG:∀ (y:Str) (C:Addr),ClsIs K y C→mg y = some (.ref C)):FunIn P w K mg base "_law_number_word" 3 M__law_number_word:=by
 have nd:=sc__law_number_word.nd
 refine def_in D KI GN sc__law_number_word (fun _ _ _ _ _ _ us hl=>match us,hl with | [_],_=>rfl) (fun f cdv A outer s H Hs E hr=>?_)
 have hu:=room20 hr
 exact (xb (xset 1 xnon)
  (xb (xset 2 xnon)
  (xb (xtryS 2 3 (F_read_number.is hr) (xa (xv 0) xa0) C__law_number_word_1 (fun _=>(xb1 (xset 1 (xv 3)))))
  (xb (xsif (xtc opp_isnot (xv 1) xnon) (xb1 (xret (xcF (F__law_kind.is hr) (xa (xv 1) xa0)))) xb0)
  (xb1 (xret (xlst (xa xstr (xa (xv 2) xa0)))))))))
theorem sc__law_common:FnScope ["one","other"] ["one","other"] (defScope (top 22)):=⟨rfl,rfl,rfl,by decide +kernel,rfl,by decide +kernel,by decide +kernel⟩
theorem in__law_common (D:DefAt K "_law_common" (top 22)) (KI:K.In h) (GN:h.Ns mainGlobals mg) (B:Bi mg) :FunIn P w K mg base "_law_common" 1 M__law_common:=by
 have nd:=sc__law_common.nd
 refine def_in D KI GN sc__law_common (fun _ _ _ _ _ _ us hl=>match us,hl with | [_,_],_=>rfl) (fun f cdv A outer s H Hs E hr=>?_)
 have hu:=room20 hr
 exact (xb (xset 0 (xcB cp_abs B.abs bw_abs (xa (xv 0) xa0)))
  (xb (xset 1 (xcB cp_abs B.abs bw_abs (xa (xv 1) xa0)))
  (xb (xwhile PassesOwn.never (xtc opp_gt (xv 0) xint) (xb1 (xpar 0 1 (xa (xop opp_mod (xv 1) (xv 0)) (xa (xv 0) xa0)))))
  (xb1 (xret (xv 1))))))
theorem sc__law_cut_at:FnScope ["text","mark","words","sign"] ["text","mark"] (defScope (top 24)):=⟨rfl,rfl,rfl,by decide +kernel,rfl,by decide +kernel,by decide +kernel⟩
theorem in__law_cut_at (D:DefAt K "_law_cut_at" (top 24)) (KI:K.In h) (GN:h.Ns mainGlobals mg) (B:Bi mg) :FunIn P w K mg base "_law_cut_at" 1 M__law_cut_at:=by
 have nd:=sc__law_cut_at.nd
 refine def_in D KI GN sc__law_cut_at (fun _ _ _ _ _ _ us hl=>match us,hl with | [_,_],_=>rfl) (fun f cdv A outer s H Hs E hr=>?_)
 have hu:=room20 hr
 exact (xb (xown 2 (xa xstr xa0))
  (xb (xfor PassesOwn.never (xseqS (xv 0)) (xgn 3) (xb1 (xsif (xtc (opp_eq hu) (xv 3) (xv 1)) (xb1 (xapp 2 xstr)) (xb1 (xput 2 (xneg xint) (xop opp_addS (xiV 2 (xneg xint)) (xv 3)))))))
  (xb1 (xshare 2 (xret (xv 2))))))
theorem sc__law_portion_due:FnScope ["text","words","top","bottom"] ["text"] (defScope (top 29)):=⟨rfl,rfl,rfl,by decide +kernel,rfl,by decide +kernel,by decide +kernel⟩
theorem in__law_portion_due (D:DefAt K "_law_portion_due" (top 29)) (KI:K.In h) (GN:h.Ns mainGlobals mg) (B:Bi mg) (F__law_common:FunIn P w K mg base "_law_common" 1 M__law_common) (F__law_cut_at:FunIn P w K mg base "_law_cut_at" 1 M__law_cut_at) (F__law_number_due:FunIn P w K mg base "_law_number_due" 1 M__law_number_due):FunIn P w K mg base "_law_portion_due" 2 M__law_portion_due:=by
 have nd:=sc__law_portion_due.nd
 refine def_in D KI GN sc__law_portion_due (fun _ _ _ _ _ _ us hl=>match us,hl with | [_],_=>rfl) (fun f cdv A outer s H Hs E hr=>?_)
 have hu:=room20 hr
 exact (xb (xset 1 (xcF (F__law_cut_at.is hr) (xa (xv 0) (xa xstr xa0))))
  (xb (xsif (xtc opp_gt (xlV 1 B.len) xint) (xb1 (xret xnon)) xb0)
  (xb (xset 2 (xcF (F__law_number_due.is hr) (xa (xiV 1 xint) xa0)))
  (xb (xsif (xw (xor2 (xtc opp_is (xv 2) xnon) (xor1 (xw (xand2 (xtc (opp_eq hu) (xlV 1 B.len) xint) (xand1 (xtc (opp_ne hu) (xiV 1 xint) (xv 0)))))))) (xb1 (xret xnon)) xb0)
  (xb (xsif (xtc (opp_eq hu) (xlV 1 B.len) xint) (xb1 (xret (xtup (xa (xv 2) (xa xint xa0))))) xb0)
  (xb (xset 3 (xcF (F__law_number_due.is hr) (xa (xiV 1 xint) xa0)))
  (xb (xsif (xw (xor2 (xtc opp_is (xv 3) xnon) (xor2 (xtc opp_lt (xv 3) xint) (xor1 (xtc (opp_ne hu) (xcF (F__law_common.is hr) (xa (xv 2) (xa (xv 3) xa0))) xint))))) (xb1 (xret xnon)) xb0)
  (xb1 (xret (xtup (xa (xv 2) (xa (xv 3) xa0))))))))))))
theorem sc_divisor:FnScope ["one","other","rest"] ["one","other"] (defScope (top 11)):=⟨rfl,rfl,rfl,by decide +kernel,rfl,by decide +kernel,by decide +kernel⟩
theorem in_divisor (D:DefAt K "divisor" (top 11)) (KI:K.In h) (GN:h.Ns mainGlobals mg) (B:Bi mg) :FunIn P w K mg base "divisor" 1 M_divisor:=by
 have nd:=sc_divisor.nd
 refine def_in D KI GN sc_divisor (fun _ _ _ _ _ _ us hl=>match us,hl with | [_,_],_=>rfl) (fun f cdv A outer s H Hs E hr=>?_)
 have hu:=room20 hr
 exact (xb (xset 0 (xcB cp_abs B.abs bw_abs (xa (xv 0) xa0)))
  (xb (xset 1 (xcB cp_abs B.abs bw_abs (xa (xv 1) xa0)))
  (xb (xwhile PassesOwn.never (xtc (opp_ne hu) (xv 1) xint) (xb (xset 2 (xop opp_mod (xv 0) (xv 1)))
  (xb (xset 0 (xv 1))
  (xb1 (xset 1 (xv 2))))))
  (xb1 (xret (xv 0))))))
theorem sc_pieces:FnScope ["text","sign"] ["text","sign"] (defScope (top 15)):=⟨rfl,rfl,rfl,by decide +kernel,rfl,by decide +kernel,by decide +kernel⟩
theorem in_pieces (D:DefAt K "pieces" (top 15)) (KI:K.In h) (GN:h.Ns mainGlobals mg) (B:Bi mg)  (X_NoText:ExcAt K "NoText") (KG:∀ (y:Str) (C:Addr),ClsIs K y C→mg y = some (.ref C)):FunIn P w K mg base "pieces" 1 M_pieces:=by
 have nd:=sc_pieces.nd
 refine def_inE D KI GN sc_pieces (fun _ _ _ _ _ _ us hl=>match us,hl with | [_,_],_=>rfl) (fun f cdv A outer s H Hs E hr=>?_)
 have hu:=room20 hr
 exact (xb (xsif (xtn (xtv (xcI (xv 0) kn_str bt_str B.isinstance B.str))) (xb1 (xraise X_NoText)) xb0)
  (xb1 (xret (xsplit (xv 0) (xv 1)))))
theorem sc_read_portion:FnScope ["text","numbers"] ["text"] (defScope (top 17)):=⟨rfl,rfl,rfl,by decide +kernel,rfl,by decide +kernel,by decide +kernel⟩
theorem in_read_portion (D:DefAt K "read_portion" (top 17)) (KI:K.In h) (GN:h.Ns mainGlobals mg) (B:Bi mg) (F_divisor:FunIn P w K mg base "divisor" 1 M_divisor) (F_pieces:FunIn P w K mg base "pieces" 1 M_pieces) (F_read_number:FunIn P w K mg base "read_number" 2 M_read_number) (X_NoText:ExcAt K "NoText") (KG:∀ (y:Str) (C:Addr),ClsIs K y C→mg y = some (.ref C)):FunIn P w K mg base "read_portion" 3 M_read_portion:=by
 have nd:=sc_read_portion.nd
 refine def_inE D KI GN sc_read_portion (fun _ _ _ _ _ _ us hl=>match us,hl with | [_],_=>rfl) (fun f cdv A outer s H Hs E hr=>?_)
 have hu:=room20 hr
 exact (xb (xscompE 1 (xblkE ["piece"] cap0 gk_n (fun _ _ _ _ _ _ _ _ nd2=>(xgn 0)) (fun _ _ _ _ _ _ _ _ nd2=>(xcFe (F_read_number.is hr) (xa (xv 0) xa0)))) (xseq (xcFe (F_pieces.is hr) (xa (xv 0) (xa xstr xa0)))))
  (xb (xsif (xtc (opp_eq hu) (xlV 1 B.len) xint) (xb1 (xret (xtup (xa (xiV 1 xint) (xa xint xa0))))) xb0)
  (xb (xsif (xw (xor2 (xtc (opp_ne hu) (xlV 1 B.len) xint) (xor2 (xtc opp_lt (xiV 1 xint) xint) (xor1 (xtc (opp_ne hu) (xcF (F_divisor.is hr) (xa (xiV 1 xint) (xa (xiV 1 xint) xa0))) xint))))) (xb1 (xraise X_NoText)) xb0)
  (xb1 (xret (xtup (xa (xiV 1 xint) (xa (xiV 1 xint) xa0))))))))
theorem sc__law_portion_word:FnScope ["thing","error","found","e"] ["thing"] (defScope (top 32)):=⟨rfl,rfl,rfl,by decide +kernel,rfl,by decide +kernel,by decide +kernel⟩
theorem in__law_portion_word (D:DefAt K "_law_portion_word" (top 32)) (KI:K.In h) (GN:h.Ns mainGlobals mg) (B:Bi mg) (F__law_kind:FunIn P w K mg base "_law_kind" 1 M__law_kind) (F_read_portion:FunIn P w K mg base "read_portion" 3 M_read_portion) (C__law_portion_word_1:Caught K "GlideError" ["NoText"]) (KG:∀ (y:Str) (C:Addr),ClsIs K y C→mg y = some (.ref C)):FunIn P w K mg base "_law_portion_word" 4 M__law_portion_word:=by
 have nd:=sc__law_portion_word.nd
 refine def_in D KI GN sc__law_portion_word (fun _ _ _ _ _ _ us hl=>match us,hl with | [_],_=>rfl) (fun f cdv A outer s H Hs E hr=>?_)
 have hu:=room20 hr
 exact (xb (xset 1 xnon)
  (xb (xset 2 xnon)
  (xb (xtryS 2 3 (F_read_portion.is hr) (xa (xv 0) xa0) C__law_portion_word_1 (fun _=>(xb1 (xset 1 (xv 3)))))
  (xb (xsif (xtc opp_isnot (xv 1) xnon) (xb1 (xret (xcF (F__law_kind.is hr) (xa (xv 1) xa0)))) xb0)
  (xb1 (xret (xlst (xa xstr (xa (xv 2) xa0)))))))))
theorem sc__law_whole:FnScope ["found"] ["found"] (defScope (top 21)):=⟨rfl,rfl,rfl,by decide +kernel,rfl,by decide +kernel,by decide +kernel⟩
theorem in__law_whole (D:DefAt K "_law_whole" (top 21)) (KI:K.In h) (GN:h.Ns mainGlobals mg) (B:Bi mg) :FunIn P w K mg base "_law_whole" 1 M__law_whole:=by
 have nd:=sc__law_whole.nd
 refine def_in D KI GN sc__law_whole (fun _ _ _ _ _ _ us hl=>match us,hl with | [_],_=>rfl) (fun f cdv A outer s H Hs E hr=>?_)
 have hu:=room20 hr
 exact (xb1 (xret (xand (xcI (xv 0) kn_int bt_int B.isinstance B.int) (xone (xnot (xcI (xv 0) kn_bool bt_bool B.isinstance B.bool))))))
theorem sc_show_portion:FnScope ["one","top","bottom"] ["one"] (defScope (top 18)):=⟨rfl,rfl,rfl,by decide +kernel,rfl,by decide +kernel,by decide +kernel⟩
theorem in_show_portion (D:DefAt K "show_portion" (top 18)) (KI:K.In h) (GN:h.Ns mainGlobals mg) (B:Bi mg) :FunIn P w K mg base "show_portion" 1 M_show_portion:=by
 have nd:=sc_show_portion.nd
 refine def_in D KI GN sc_show_portion (fun _ _ _ _ _ _ us hl=>match us,hl with | [_],_=>rfl) (fun f cdv A outer s H Hs E hr=>?_)
 have hu:=room20 hr
 exact (xb (xset 1 (xiV 0 xint))
  (xb (xset 2 (xiV 0 xint))
  (xb (xsif (xtc (opp_eq hu) (xv 2) xint) (xb1 (xret (xcT cp_str B.str bt_str (xa (xv 1) xa0)))) xb0)
  (xb1 (xret (xfs (xv 1) (xv 2)))))))
theorem sc__law_right:FnScope ["thing","number","both","told","shown"] ["thing"] (defScope (top 33)):=⟨rfl,rfl,rfl,by decide +kernel,rfl,by decide +kernel,by decide +kernel⟩
theorem in__law_right (D:DefAt K "_law_right" (top 33)) (KI:K.In h) (GN:h.Ns mainGlobals mg) (B:Bi mg) (F__law_number_due:FunIn P w K mg base "_law_number_due" 1 M__law_number_due) (F__law_number_word:FunIn P w K mg base "_law_number_word" 3 M__law_number_word) (F__law_portion_due:FunIn P w K mg base "_law_portion_due" 2 M__law_portion_due) (F__law_portion_word:FunIn P w K mg base "_law_portion_word" 4 M__law_portion_word) (F__law_whole:FunIn P w K mg base "_law_whole" 1 M__law_whole) (F_show_portion:FunIn P w K mg base "show_portion" 1 M_show_portion):FunIn P w K mg base "_law_right" 5 M__law_right:=by
 have nd:=sc__law_right.nd
 refine def_in D KI GN sc__law_right (fun _ _ _ _ _ _ us hl=>match us,hl with | [_],_=>rfl) (fun f cdv A outer s H Hs E hr=>?_)
 have hu:=room20 hr
 exact (xb (xset 1 xnon)
  (xb (xset 2 xnon)
  (xb (xsif (xtv (xcI (xv 0) kn_str bt_str B.isinstance B.str)) (xb (xset 1 (xcF (F__law_number_due.is hr) (xa (xv 0) xa0)))
  (xb1 (xset 2 (xcF (F__law_portion_due.is hr) (xa (xv 0) xa0))))) xb0)
  (xb (xset 3 (xcF (F__law_number_word.is hr) (xa (xv 0) xa0)))
  (xb (xsif (xw (xand2 (xtc opp_is (xv 1) xnon) (xand1 (xtc (opp_ne hu) (xv 3) xstr)))) (xb1 (xret xbl)) xb0)
  (xb (xsif (xw (xand2 (xtc opp_isnot (xv 1) xnon) (xand1 (xw (xor2 (xtc (opp_ne hu) (xv 3) (xlst (xa xstr (xa (xv 1) xa0)))) (xor1 (xtn (xtv (xcF (F__law_whole.is hr) (xa (xiV 3 xint) xa0)))))))))) (xb1 (xret xbl)) xb0)
  (xb (xset 3 (xcF (F__law_portion_word.is hr) (xa (xv 0) xa0)))
  (xb (xsif (xtc opp_is (xv 2) xnon) (xb1 (xret (xcmp (opp_eq hu) (xv 3) xstr))) xb0)
  (xb (xsif (xw (xor2 (xtc (opp_ne hu) (xv 3) (xlst (xa xstr (xa (xv 2) xa0)))) (xor1 (xtn (xtv (xcI (xiV 3 xint) kn_tuple bt_tuple B.isinstance B.tuple)))))) (xb1 (xret xbl)) xb0)
  (xb (xset 4 (xcF (F_show_portion.is hr) (xa (xv 2) xa0)))
  (xb1 (xret (xand (xcI (xv 4) kn_str bt_str B.isinstance B.str) (xone (xcmp (opp_eq hu) (xv 4) (xv 0))))))))))))))))
theorem sc__law_other:FnScope ["cell","some"] ["cell"] (defScope (top 27)):=⟨rfl,rfl,rfl,by decide +kernel,rfl,by decide +kernel,by decide +kernel⟩
theorem in__law_other (D:DefAt K "_law_other" (top 27)) (KI:K.In h) (GN:h.Ns mainGlobals mg) (B:Bi mg) :FunIn P w K mg base "_law_other" 1 M__law_other:=by
 have nd:=sc__law_other.nd
 refine def_in D KI GN sc__law_other (fun _ _ _ _ _ _ us hl=>match us,hl with | [_],_=>rfl) (fun f cdv A outer s H Hs E hr=>?_)
 have hu:=room20 hr
 exact (xb (xset 1 (xlst (xa xnon (xa xint (xa xbl (xa (xlst (xa xstr xa0)) (xa (xtup (xa xstr xa0)) (xa xdict0 (xa (xlst xa0) (xa (xop opp_sub xint (xop opp_mod (xv 0) (xop opp_pow xint xint))) (xa (xlst (xa xint xa0)) (xa (xtup (xa xint (xa xint xa0))) xa0))))))))))))
  (xb1 (xret (xiV 1 (xop opp_mod (xv 0) xint)))))
theorem sc__law_two:FnScope ["cell"] ["cell"] (defScope (top 26)):=⟨rfl,rfl,rfl,by decide +kernel,rfl,by decide +kernel,by decide +kernel⟩
theorem in__law_two (D:DefAt K "_law_two" (top 26)) (KI:K.In h) (GN:h.Ns mainGlobals mg) (B:Bi mg) :FunIn P w K mg base "_law_two" 1 M__law_two:=by
 have nd:=sc__law_two.nd
 refine def_in D KI GN sc__law_two (fun _ _ _ _ _ _ us hl=>match us,hl with | [_],_=>rfl) (fun f cdv A outer s H Hs E hr=>?_)
 have hu:=room20 hr
 exact (xb (xsif (xtc (opp_eq hu) (xop opp_mod (xv 0) xint) xint) (xb1 (xret (xop opp_addS (xop opp_addS (xcT cp_str B.str bt_str (xa (xop opp_sub (xop opp_mod (xop opp_fdiv (xv 0) xint) xint) xint) xa0)) xstr) (xcT cp_str B.str bt_str (xa (xop opp_mod (xop opp_fdiv (xv 0) xint) xint) xa0))))) xb0)
  (xb1 (xret (xop opp_addS (xop opp_addS (xcT cp_str B.str bt_str (xa (xop opp_sub (xop opp_mod (xop opp_fdiv (xv 0) xint) (xop opp_pow xint xint)) (xop opp_mul xint (xop opp_pow xint xint))) xa0)) xstr) (xcT cp_str B.str bt_str (xa (xop opp_mod (xop opp_fdiv (xv 0) xint) (xop opp_pow xint xint)) xa0))))))
theorem sc__law_written:FnScope ["cell"] ["cell"] (defScope (top 25)):=⟨rfl,rfl,rfl,by decide +kernel,rfl,by decide +kernel,by decide +kernel⟩
theorem in__law_written (D:DefAt K "_law_written" (top 25)) (KI:K.In h) (GN:h.Ns mainGlobals mg) (B:Bi mg) :FunIn P w K mg base "_law_written" 1 M__law_written:=by
 have nd:=sc__law_written.nd
 refine def_in D KI GN sc__law_written (fun _ _ _ _ _ _ us hl=>match us,hl with | [_],_=>rfl) (fun f cdv A outer s H Hs E hr=>?_)
 have hu:=room20 hr
 exact (xb (xsif (xtc (opp_eq hu) (xop opp_mod (xv 0) xint) xint) (xb1 (xret (xop opp_addS xstr (xcT cp_str B.str bt_str (xa (xop opp_mod (xop opp_fdiv (xv 0) xint) (xop opp_pow xint xint)) xa0))))) xb0)
  (xb1 (xret (xcT cp_str B.str bt_str (xa (xop opp_mod (xop opp_fdiv (xv 0) xint) (xop opp_pow xint xint)) xa0)))))
theorem sc__law_thing:FnScope ["cell","kind","word","at"] ["cell"] (defScope (top 28)):=⟨rfl,rfl,rfl,by decide +kernel,rfl,by decide +kernel,by decide +kernel⟩
theorem in__law_thing (D:DefAt K "_law_thing" (top 28)) (KI:K.In h) (GN:h.Ns mainGlobals mg) (B:Bi mg) (F__law_other:FunIn P w K mg base "_law_other" 1 M__law_other) (F__law_two:FunIn P w K mg base "_law_two" 1 M__law_two) (F__law_written:FunIn P w K mg base "_law_written" 1 M__law_written):FunIn P w K mg base "_law_thing" 2 M__law_thing:=by
 have nd:=sc__law_thing.nd
 refine def_in D KI GN sc__law_thing (fun _ _ _ _ _ _ us hl=>match us,hl with | [_],_=>rfl) (fun f cdv A outer s H Hs E hr=>?_)
 have hu:=room20 hr
 exact (xb (xset 1 (xop opp_mod (xv 0) xint))
  (xb (xset 0 (xop opp_fdiv (xv 0) xint))
  (xb (xset 2 (xcF (F__law_written.is hr) (xa (xv 0) xa0)))
  (xb (xsif (xw (xor2 (xtc (opp_eq hu) (xv 1) xint) (xor1 (xtc (opp_eq hu) (xv 1) xint)))) (xb1 (xset 2 (xcF (F__law_two.is hr) (xa (xv 0) xa0)))) xb0)
  (xb (xsif (xw (xor2 (xtc (opp_eq hu) (xv 1) xint) (xor1 (xtc (opp_eq hu) (xv 1) xint)))) (xb (xset 3 (xop opp_mod (xop opp_fdiv (xv 0) xint) (xop opp_add (xcB cp_lenS B.len PySem.boot_len (xa (xv 2) xa0)) xint)))
  (xb1 (xret (xop opp_addS (xop opp_addS (xslS (xv 2) xo0 (xo (xv 3))) (xiS xstr (xop opp_mod (xop opp_fdiv (xv 0) xint) xint))) (xslS (xv 2) (xo (xv 3)) xo0))))) xb0)
  (xb (xsif (xtc (opp_eq hu) (xv 1) xint) (xb1 (xret (xop opp_addS (xop opp_addS (xop opp_mulS xstr (xop opp_mod (xv 0) xint)) (xop opp_mulS xstr (xop opp_mod (xop opp_fdiv (xv 0) xint) xint))) (xcT cp_str B.str bt_str (xa (xop opp_mod (xop opp_fdiv (xv 0) xint) (xop opp_pow xint xint)) xa0))))) xb0)
  (xb (xsif (xtc (opp_eq hu) (xv 1) xint) (xb1 (xret (xop opp_addS (xop opp_addS (xop opp_mulS xstr (xop opp_mod (xv 0) xint)) (xcT cp_str B.str bt_str (xa (xop opp_add xint (xop opp_mod (xop opp_fdiv (xv 0) xint) xint)) xa0))) (xop opp_mulS xstr (xop opp_add xint (xop opp_mod (xop opp_fdiv (xv 0) xint) xint)))))) xb0)
  (xb (xsif (xtc (opp_eq hu) (xv 1) xint) (xb1 (xret (xcF (F__law_other.is hr) (xa (xv 0) xa0)))) xb0)
  (xb1 (xret (xv 2)))))))))))
theorem sc_law:FnScope ["script","k"] ["script"] (defScope (top 34)):=⟨rfl,rfl,rfl,by decide +kernel,rfl,by decide +kernel,by decide +kernel⟩
theorem in_law {f:Addr} {fd:FuncData} (F:Fun K "law" "law" (top 34) f fd) (B:Bi mg) (F__law_cell:FunIn P w K mg base "_law_cell" 1 M__law_cell) (F__law_right:FunIn P w K mg base "_law_right" 5 M__law_right) (F__law_thing:FunIn P w K mg base "_law_thing" 2 M__law_thing):FnOk P w K mg base (CXG P w) 6 f fd ["script"] (Fsp K 1 M_law):=by
 have nd:=sc_law.nd
 refine law_in F sc_law (fun cdv A outer s H Hs E hr=>?_)
 have hu:=room20 hr
 exact (xb (xfor PassesOwn.never (xr1 B.range (xa (xcB (cp_max rfl) B.max bw_max (xa xint (xa (xlV 0 B.len) xa0))) xa0)) (xgn 1) (xb1 (xsif (xtn (xtv (xcF (F__law_right.is hr) (xa (xcF (F__law_thing.is hr) (xa (xcF (F__law_cell.is hr) (xa (xv 0) (xa (xv 1) xa0))) xa0)) xa0)))) (xb1 (xret xbl)) xb0)))
  (xb1 (xret xbl)))
end
end Law
namespace Law
open PySem PySem.Spec PyProof.Rows L2 G HM
def gI (x y:Int):Int:=((Nat.gcd x.natAbs y.natAbs:Nat):Int)
theorem gI_step {x y:Int} (hx:0≤x) (hy:0 < y):gI y (x % y) = gI x y:=by
 unfold gI
 congr 1
 have e:(x % y).natAbs = x.natAbs % y.natAbs:=by
  obtain ⟨a,rfl⟩:=Int.eq_ofNat_of_zero_le hx
  obtain ⟨b,rfl⟩:=Int.eq_ofNat_of_zero_le (Int.le_of_lt hy)
  rw [← Int.natCast_emod]; rfl
 rw [e,Nat.gcd_comm y.natAbs,Nat.gcd_comm x.natAbs]
 exact (Nat.gcd_rec y.natAbs x.natAbs).symm
theorem gI_zero {x:Int} (hx:0≤x):gI x 0 = x:=by
 unfold gI; simp; omega
def aI (x:Int):Int:=if x < 0 then -x else x
theorem aI_nn (x:Int):0≤aI x:=by unfold aI; split <;> omega
theorem aI_abs (x:Int):(aI x).natAbs = x.natAbs:=by unfold aI; split <;> omega
theorem gI_abs (x y:Int):gI (aI x) (aI y) = gI x y:=by unfold gI; rw [aI_abs,aI_abs]
theorem gI_comm (x y:Int):gI x y = gI y x:=by unfold gI; rw [Nat.gcd_comm]
theorem div_loop:∀ (n:Nat) (x y:Int) (z:Option SV),y.natAbs = n→0≤x→0≤y→∃ z',sWhile c_divisor_1 b_divisor_1
  [some (.sh (.int x)),some (.sh (.int y)),z] = .ok (.next [some (.sh (.int (gI x y))),some (.sh (.int 0)),z']):=by
 intro n
 induction n using Nat.strongRecOn with
 | ind n ih =>
  intro x y z hn hx hy
  rw [sWhile_eq]
  by_cases h:y = 0
  ·subst h
   exact ⟨z,by simp [c_divisor_1_s,gI_zero hx]⟩
  ·have h0:0 < y:=by omega
   have e:x.fmod y = x % y:=Int.fmod_eq_emod_of_nonneg x hy
   have h1:=Int.emod_nonneg x h
   have h2:=Int.emod_lt_of_pos x h0
   obtain ⟨z',hz⟩:=ih (x % y).natAbs (by omega) y (x % y) (some (.sh (.int (x % y)))) rfl hy h1
   refine ⟨z',?_⟩
   simp [c_divisor_1_s,b_divisor_1_s,h,pMod_s h,e]
   rw [hz,gI_step hx h0]
theorem m_divisor (a b:Int):M_divisor [.int a,.int b] = .ok (.int (gI a b)):=by
 unfold M_divisor
 rw [run2]
 obtain ⟨z',h⟩:=div_loop _ (aI a) (aI b) none rfl (aI_nn a) (aI_nn b)
 simp [d_divisor]
 change fin (Res.bind (sWhile _ _ [some (.sh (.int (aI a))),some (.sh (.int (aI b))),none]) _) = _
 rw [h]
 simp [gI_abs]
theorem com_loop:∀ (n:Nat) (x y:Int),x.natAbs = n→0≤x→0≤y→sWhile c__law_common_1 b__law_common_1
  [some (.sh (.int x)),some (.sh (.int y))] = .ok (.next [some (.sh (.int 0)),some (.sh (.int (gI x y)))]):=by
 intro n
 induction n using Nat.strongRecOn with
 | ind n ih =>
  intro x y hn hx hy
  rw [sWhile_eq]
  by_cases h:x = 0
  ·subst h
   simp [c__law_common_1_s]
   rw [gI_comm,gI_zero hy]
  ·have h0:0 < x:=by omega
   have e:y.fmod x = y % x:=Int.fmod_eq_emod_of_nonneg y hx
   have h1:=Int.emod_nonneg y h
   have h2:=Int.emod_lt_of_pos y h0
   have hz:=ih (y % x).natAbs (by omega) (y % x) x rfl h1 hx
   simp [c__law_common_1_s,b__law_common_1_s,h0,pMod_s h,e,sPar]
   rw [hz,gI_comm,gI_step hy h0,gI_comm]
theorem m_common (a b:Int):M__law_common [.int a,.int b] = .ok (.int (gI a b)):=by
 unfold M__law_common
 rw [run2]
 have h:=com_loop _ (aI a) (aI b) rfl (aI_nn a) (aI_nn b)
 simp [d__law_common]
 change fin (Res.bind (sWhile _ _ [some (.sh (.int (aI a))),some (.sh (.int (aI b)))]) _) = _
 rw [h]
 simp [gI_abs]
theorem m_whole (i:Int):M__law_whole [.int i] = .ok (.bl true):=by
 unfold M__law_whole; rw [run1]; simp [d__law_whole,isSub]
theorem m_cell (ns:List Int) (k:Int) (hk:0≤k):∃ n,M__law_cell [.scr ns,.int k] = .ok (.int n):=by
 unfold M__law_cell; rw [run2]
 by_cases h:k < ns.length
 ·obtain ⟨x,hx,_⟩:=atI_of hk h
  simp [d__law_cell,h,atR_of hx]
 ·obtain ⟨σ',h1,n,z,rfl⟩:=for_all (gg:=gN 3) (c:=b__law_cell_1) (fun σ=>∃ n z,σ = [some (.sh (.scr ns)),some (.sh (.int k)),some (.sh (.int n)),z]) (fun p=>∃ i,p = .int i)
   (by
    rintro p σ ⟨i,rfl⟩ ⟨n,z,rfl⟩
    refine ⟨[some (.sh (.scr ns)),some (.sh (.int k)),some (.sh (.int n)),some (.sh (.int i))],[some (.sh (.scr ns)),some (.sh (.int k)),some (.sh (.int (n * 1009 + i % 1000003))),some (.sh (.int i))],rfl,?_,_,_,rfl⟩
    simp [b__law_cell_1_s])
   (cutP (ns.map PV.int) none (some 3)) (by
    intro p hp
    have hp:=List.mem_of_mem_drop (List.mem_of_mem_take hp)
    obtain ⟨i,_,rfl⟩:=List.mem_map.mp hp
    exact ⟨i,rfl⟩) [some (.sh (.scr ns)),some (.sh (.int k)),some (.sh (.int (k * 7907 + 3571))),none] ⟨_,_,rfl⟩
  simp [d__law_cell,h,pSl]
  rw [h1]
  simp [pMul_s (mulR (i:=n % 2147483647) (j:=n % 2147483647) (by omega) (by omega))]
open Builtin.Int (intBits)
theorem seq_ok (F R:DS) {σ σ1:PSt} {r:Res Fl} (h1:F σ = .ok (.next σ1)) (h2:R σ1 = r):(sSeq F R) σ = r:=by
 rw [sSeq_s,h1]
 exact h2
open TX PySem.NumText
theorem seq_ret {F R:DS} {σ:PSt} {p:PV} (h:F σ = .ok (.ret p)):(sSeq F R) σ = .ok (.ret p):=by rw [sSeq_s,h]; rfl
theorem seq_err {F R:DS} {σ:PSt} {c:Str} (h:F σ = .err c):(sSeq F R) σ = .err c:=by rw [sSeq_s,h]; rfl
theorem if_t {t:DT} {a b:DS} {σ:PSt} (h:t σ = .ok true):sIf t a b σ = a σ:=by simp [h]
theorem if_f {t:DT} {a b:DS} {σ:PSt} (h:t σ = .ok false):sIf t a b σ = b σ:=by simp [h]
theorem kMinus:PySem.Str.ofString "-" = T [45]:=by rw [T_str]; rfl
theorem kNought:PySem.Str.ofString "0" = T [48]:=by rw [T_str]; rfl
theorem kEmpty:PySem.Str.ofString "" = T []:=by rw [T_str]; rfl
theorem eqT {a b:List Nat}:pEq (.str (T a)) (.str (T b)) = .ok (.bl (decide (a = b))):=by
 unfold pEq
 rw [if_pos ⟨rfl,rfl⟩]
 show Res.ok (PV.bl (T a == T b)) = _
 rw [T_beq]
theorem neT {a b:List Nat}:pNe (.str (T a)) (.str (T b)) = .ok (.bl (!decide (a = b))):=by
 unfold pNe
 rw [if_pos ⟨rfl,rfl⟩]
 show Res.ok (PV.bl (!(T a == T b))) = _
 rw [T_beq]
theorem lenT {a:List Nat} (h:a.length≤10000000):bLenS [.str (T a)] = .ok (.int a.length):=by
 unfold bLenS
 simp only [T_len,h,if_true]
theorem slT1 {a:List Nat} (h:a.length≤10000000):pSlS (.str (T a)) none (some 1) = .ok (.str (T (a.take 1))):=by
 unfold pSlS
 simp only [T_len,h,if_true,slice_to1]
theorem slF1 {a:List Nat} (h:a.length≤10000000):pSlS (.str (T a)) (some 1) none = .ok (.str (T (a.drop 1))):=by
 unfold pSlS
 simp only [T_len,h,if_true,slice_from1]
theorem ixT {c:Nat} {cs:List Nat} (h:(c::cs).length≤10000000):pIxS (.str (T (c::cs))) (.int 0) = .ok (.str (T [c])):=by
 have e:atI (T (c::cs)).cps.toList 0 = some c:=atI_nat (j:=0) (by rw [T_cps]; rfl)
 unfold pIxS
 simp only [T_len,h,if_true,e]
 rfl
theorem ordT {c:Nat}:bOrd [.str (T [c])] = .ok (.int c):=by
 show (if (T [c]).length = 1 then Res.ok (PV.int ((T [c]).cps.getD 0 0:Nat)) else .stuck) = _
 rw [if_pos (by rw [T_len]; rfl)]
 rfl
theorem addT {a b:List Nat} (h:a.length + b.length≤10000000):pAddS (.str (T a)) (.str (T b)) = .ok (.str (T (a++b))):=by
 rw [pAddS_s (by rw [T_len,T_len]; exact h),T_app]
theorem signsT (cs:List Nat):G.signs (T cs) = cs.map fun c=>PV.str (T [c]):=rfl
theorem eMt_s {g:Str→PV→Res PV} {a b:DE} {σ:PSt} {z:Str} (h:a σ = .ok (.str z)):eMt g a b σ = (b σ).bind fun q=>g z q:=by
 unfold eMt
 rw [h]; rfl
theorem take_neg (cs:List Nat):decide (cs.take 1 = [45]) = isNeg cs:=by
 cases cs with
 | nil=>rfl
 | cons c cs=>simp [isNeg]
def dvI (n:Int) (cs:List Nat):Int:=cs.foldl (fun (a:Int) (c:Nat)=>10 * a + (c:Int) - 48) n
theorem dvI_nat:∀ (cs:List Nat) (m:Nat),AllDigits cs→dvI (m:Int) cs = ((cs.foldl (fun acc c=>acc * 10 + (c - 48)) m:Nat):Int)
 | [],m,_=>rfl
 | c::cs,m,h=>by
  have hc:=h.head
  have e:10 * (m:Int) + (c:Int) - 48 = ((m * 10 + (c - 48):Nat):Int):=by omega
  show dvI (10 * (m:Int) + (c:Int) - 48) cs = _
  rw [e,dvI_nat cs _ h.tail]
  rfl
theorem due_loop (W F:Option SV):∀ (cs:List Nat) (n:Int) (z:Option SV),∃ z',forS (gN 3) b__law_number_due_1 (cs.map fun c=>PV.str (T [c])) [W,F,some (.sh (.int n)),z] =
  if cs.all dig = true then .ok (.next [W,F,some (.sh (.int (dvI n cs))),z']) else .ok (.ret .non)
 | [],n,z=>⟨z,rfl⟩
 | c::cs,n,z=>by
  rw [List.map_cons,forS_cons (σ1:=[W,F,some (.sh (.int n)),some (.sh (.str (T [c])))]) rfl]
  by_cases hc:dig c = true
  ·have h1:¬ (c:Int) < 48:=by simp [dig] at hc; omega
   have h2:¬ (57:Int) < c:=by simp [dig] at hc; omega
   obtain ⟨z',ih⟩:=due_loop W F cs (10 * n + (c:Int) - 48) (some (.sh (.str (T [c]))))
   refine ⟨z',?_⟩
   have hb:b__law_number_due_1 [W,F,some (.sh (.int n)),some (.sh (.str (T [c])))] = .ok (.next [W,F,some (.sh (.int (10 * n + (c:Int) - 48))),some (.sh (.str (T [c])))]):=by
    rw [b__law_number_due_1_s]
    simp [ordT,h1,h2,pMul_s (mulL (i:=10) (j:=n) (by decide) (by decide))]
   rw [List.all_cons,hc,Bool.true_and,hb]
   exact ih
  ·refine ⟨z,?_⟩
   rw [List.all_cons,if_neg (by rw [Bool.and_eq_true]; exact fun z=>hc z.1),b__law_number_due_1_s]
   by_cases h1:(c:Int) < 48
   ·simp [ordT,h1]
   ·have h2:(57:Int) < c:=by simp [dig] at hc; omega
    simp [ordT,h1,h2]
theorem ok_split (cs:List Nat):okN cs = (!(decide (fig cs = []) || (decide (60 < (fig cs).length) || (decide ((fig cs).take 1 = [48]) && decide (¬ cs = [48])))) && (fig cs).all dig):=by
 rw [Bool.eq_iff_iff]
 unfold okN
 cases h:fig cs with
 | nil=>simp
 | cons f fs =>
  simp only [List.length_cons,List.head?_cons,List.take_succ_cons,List.take_zero,Bool.and_eq_true,Bool.or_eq_true,decide_eq_true_eq,Bool.not_eq_true',Bool.or_eq_false_iff,decide_eq_false_iff_not,Bool.and_eq_false_iff]
  constructor
  ·rintro ⟨⟨⟨h1,h2⟩,h3⟩,h4⟩
   refine ⟨⟨by simp,by omega,?_⟩,h3⟩
   rcases h4 with h4 | h4
   ·exact .inr (by simpa using h4)
   ·exact .inl (by simpa using h4)
  ·rintro ⟨⟨h1,h2,h4⟩,h3⟩
   refine ⟨⟨⟨by omega,by omega⟩,h3⟩,?_⟩
   rcases h4 with h4 | h4
   ·exact .inr (by simpa using h4)
   ·exact .inl (by simpa using h4)
theorem m_due (cs:List Nat) (h:cs.length≤1000000):M__law_number_due [.str (T cs)] = .ok (if okN cs = true then .int (val cs) else .non):=by
 have hf:(fig cs).length≤10000000:=by have:=fig_le cs; omega
 have h7:cs.length≤10000000:=by omega
 unfold M__law_number_due; rw [run1]
 have hneg:∀ σ,tV (e2 pEq (eSlS (eVar 0) oNo (oE (eC (.int 1)))) (eC (.str (PySem.Str.ofString "-")))) (some (.sh (.str (T cs)))::σ) = .ok (isNeg cs):=fun σ=>by
  simp [slT1 h7,kMinus,eqT,take_neg]
 have st:sIf (tV (e2 pEq (eSlS (eVar 0) oNo (oE (eC (.int 1)))) (eC (.str (PySem.Str.ofString "-"))))) (sSet 1 (eSlS (eVar 0) (oE (eC (.int 1))) oNo)) sNext [some (.sh (.str (T cs))),some (.sh (.str (T cs))),none,none] =
   .ok (.next [some (.sh (.str (T cs))),some (.sh (.str (T (fig cs)))),none,none]):=by
  rw [sIf_s,hneg]
  cases hn:isNeg cs with
  | true=>simp [slF1 h7,fig,hn]
  | false=>simp [fig,hn]
 have bad:∀ σ,(G.tOr (tV (e2 pEq (eVar 1) (eC (.str (PySem.Str.ofString ""))))) (G.tOr (tV (e2 (pCmp fun i j=>decide (j < i)) (eA bLenS (aCons (eVar 1) aNil)) (eC (.int 60)))) (G.tAnd (tV (e2 pEq (e2 pIxS (eVar 1) (eC (.int 0))) (eC (.str (PySem.Str.ofString "0"))))) (tV (e2 pNe (eVar 0) (eC (.str (PySem.Str.ofString "0")))))))) (some (.sh (.str (T cs)))::some (.sh (.str (T (fig cs))))::σ) =
   .ok (decide (fig cs = []) || (decide (60 < (fig cs).length) || (decide ((fig cs).take 1 = [48]) && decide (¬ cs = [48])))):=fun σ=>by
  cases hfig:fig cs with
  | nil=>simp [kEmpty,eqT]
  | cons f fs =>
   rw [hfig] at hf
   have hL:((f::fs).length:Int) = (fs.length:Int) + 1:=by simp
   by_cases h60:60 < fs.length + 1
   ·have h60':(60:Int) < (fs.length:Int) + 1:=by omega
    have:decide (60 < (f::fs).length) = true:=decide_eq_true h60
    rw [this]
    simp [kEmpty,eqT,lenT hf,h60']
   ·have h60':¬ (60:Int) < (fs.length:Int) + 1:=by omega
    have:decide (60 < (f::fs).length) = false:=decide_eq_false h60
    rw [this]
    by_cases hz:f = 48
    ·subst hz
     simp [kEmpty,kNought,eqT,neT,lenT hf,ixT hf,h60']
    ·simp [kEmpty,kNought,eqT,neT,lenT hf,ixT hf,hz,h60']
 have hd:d__law_number_due (some (.sh (.str (T cs)))::List.replicate (4 - 1) none) = .ok (.ret (if okN cs = true then .int (val cs) else .non)):=by
  unfold d__law_number_due
  refine seq_ok _ _ (σ1:=[some (.sh (.str (T cs))),some (.sh (.str (T cs))),none,none]) rfl (seq_ok _ _ st ?_)
  rw [ok_split cs]
  cases hb:(decide (fig cs = []) || (decide (60 < (fig cs).length) || (decide ((fig cs).take 1 = [48]) && decide (¬ cs = [48])))) with
  | true =>
   refine seq_ret ((if_t (by rw [bad,hb])).trans ?_)
   simp
  | false =>
   refine seq_ok _ _ ((if_f (by rw [bad,hb])).trans rfl) (seq_ok _ _ (σ1:=[some (.sh (.str (T cs))),some (.sh (.str (T (fig cs)))),some (.sh (.int 0)),none]) rfl ?_)
   obtain ⟨z',hl⟩:=due_loop (some (.sh (.str (T cs)))) (some (.sh (.str (T (fig cs))))) (fig cs) 0 none
   have hl':sFor (itS (eVar 1)) (gN 3) b__law_number_due_1 [some (.sh (.str (T cs))),some (.sh (.str (T (fig cs)))),some (.sh (.int 0)),none] = _:=hl
   cases ha:(fig cs).all dig with
   | false =>
    rw [ha,if_neg (by decide)] at hl'
    refine (seq_ret hl').trans ?_
    simp
   | true =>
    rw [ha,if_pos rfl] at hl'
    have hD:AllDigits (fig cs):=fun c hc=>by simpa [dig] using List.all_eq_true.mp ha c hc
    have hv:dvI 0 (fig cs) = ((digitsVal (fig cs):Nat):Int):=dvI_nat (fig cs) 0 hD
    rw [hv] at hl'
    refine seq_ok _ _ hl' ?_
    cases hn:isNeg cs with
    | true =>
     refine (seq_ret (p:=.int (-((digitsVal (fig cs):Nat):Int))) ((if_t (by rw [hneg,hn])).trans (by simp))).trans ?_
     simp [val,hn]
    | false =>
     refine seq_ok _ _ ((if_f (by rw [hneg,hn])).trans rfl) ?_
     simp [val,hn]
 rw [hd]
 rfl
theorem dig_in (c:Nat):decide (c∈[48,49,50,51,52,53,54,55,56,57]) = dig c:=by
 rw [Bool.eq_iff_iff]
 simp [dig]
 omega
theorem kFigs:PySem.Str.ofString "0123456789" = T [48,49,50,51,52,53,54,55,56,57]:=by rw [T_str]; rfl
theorem m_isnum (cs:List Nat) (h:cs.length≤1000000):M_is_number [.str (T cs)] = .ok (.bl (okN cs)):=by
 have hf:(fig cs).length≤10000000:=by have:=fig_le cs; omega
 have h7:cs.length≤10000000:=by omega
 unfold M_is_number; rw [run1]
 have e1:eIf (tV (eMt pStarts (eVar 0) (eC (.str (PySem.Str.ofString "-"))))) (eSlS (eVar 0) (oE (eC (.int 1))) oNo) (eVar 0) [some (.sh (.str (T cs))),none] = .ok (.str (T (fig cs))):=by
  have hs:eMt pStarts (eVar 0) (eC (.str (PySem.Str.ofString "-"))) [some (.sh (.str (T cs))),none] = .ok (.bl (isNeg cs)):=by
   rw [eMt_s (z:=T cs) rfl,kMinus]
   show Res.ok (PV.bl (Txt.startswith (T cs) (T [45]))) = _
   rw [starts_one]; rfl
  simp only [eIf_s,tV_s,hs,bind_ok',asB_s]
  cases hn:isNeg cs with
  | true=>simp [slF1 h7,fig,hn]
  | false=>simp [fig,hn]
 have e2:eComp (itS (eVar 1)) (gN 0) e_is_number_1 1 [] [some (.sh (.str (T cs))),some (.sh (.str (T (fig cs))))] = .ok (.lst (((fig cs).map dig).map PV.bl)):=by
  rw [List.map_map]
  refine eComp_on (u:=fun c=>PV.str (T [c])) (v:=PV.bl ∘ dig) rfl (fun c _=>?_) hf
  show noErr (e_is_number_1 [some (.sh (.str (T [c])))]) = _
  rw [e_is_number_1_s,kFigs]
  show Res.ok (PV.bl (Txt.contains (T [48,49,50,51,52,53,54,55,56,57]) ⟨#[c]⟩)) = _
  rw [in_one,dig_in]; rfl
 have e3:(((fig cs).map dig).all id) = (fig cs).all dig:=by simp
 have hd:d_is_number (some (.sh (.str (T cs)))::List.replicate (2 - 1) none) = .ok (.ret (.bl (okN cs))):=by
  unfold d_is_number
  refine seq_ok _ _ (σ1:=[some (.sh (.str (T cs))),some (.sh (.str (T (fig cs))))]) (by rw [sSet_s]; exact (congrArg (fun r=>Res.bind r _) e1)) ?_
  have e4:eA bAll (aCons (eComp (itS (eVar 1)) (gN 0) e_is_number_1 1 []) aNil) [some (.sh (.str (T cs))),some (.sh (.str (T (fig cs))))] = .ok (.bl ((fig cs).all dig)):=by
   simp only [eA_s,aCons_s,aNil_s,e2,bind_ok',bAll_b,e3]
  have e5:eCh (pCmp fun i j=>decide (i≤j)) (pCmp fun i j=>decide (i≤j)) (eC (.int 1)) (eA bLenS (aCons (eVar 1) aNil)) (eC (.int 60)) [some (.sh (.str (T cs))),some (.sh (.str (T (fig cs))))] = .ok (.bl (decide (1≤(fig cs).length) && decide ((fig cs).length≤60))):=by
   by_cases h1:1≤(fig cs).length
   ·have h1':(1:Int)≤((fig cs).length:Nat):=by omega
    by_cases h2:(fig cs).length≤60
    ·have h2':(((fig cs).length:Nat):Int)≤60:=by omega
     simp [eCh,lenT hf,h1,h1',h2,h2']
    ·have h2':¬ (((fig cs).length:Nat):Int)≤60:=by omega
     simp [eCh,lenT hf,h1,h1',h2,h2']
   ·have h1':¬ (1:Int)≤((fig cs).length:Nat):=by omega
    simp [eCh,lenT hf,h1,h1']
  cases hb:(decide (1≤(fig cs).length) && decide ((fig cs).length≤60) && (fig cs).all dig) with
  | false =>
   have ho:okN cs = false:=by unfold okN; rw [hb]; rfl
   rw [ho]
   refine seq_ret ((if_t ?_).trans rfl)
   simp only [tOr_s,tNot_s,tV_s,e4,e5,bind_ok',asB_s]
   cases h1:(decide (1≤(fig cs).length) && decide ((fig cs).length≤60)) with
   | false=>rfl
   | true =>
    rw [h1,Bool.true_and] at hb
    rw [hb]; rfl
  | true =>
   have hb':=hb
   rw [Bool.and_eq_true] at hb'
   refine seq_ok _ _ ((if_f ?_).trans rfl) ?_
   ·simp only [tOr_s,tNot_s,tV_s,e4,e5,bind_ok',asB_s,hb'.1,hb'.2]; rfl
   ·have h1:1≤(fig cs).length:=by have:=hb'.1; simp at this; exact this.1
    unfold okN
    rw [hb,Bool.true_and]
    cases hfig:fig cs with
    | nil=>rw [hfig] at h1; simp at h1
    | cons f fs =>
     rw [hfig] at hf
     by_cases hz:cs = [48]
     ·simp [kNought,eqT,hz]
     ·simp [kNought,eqT,neT,ixT hf,hz]
 rw [hd]
 rfl
theorem m_read (cs:List Nat) (h:cs.length≤1000000):M_read_number [.str (T cs)] = if okN cs = true then .ok (.int (val cs)) else .err "NoText":=by
 unfold M_read_number; rw [re1]
 cases ho:okN cs with
 | false=>simp [d_read_number,m_isnum cs h,ho,isSub]
 | true =>
  have hok:=ok_iff.mp ho
  have hl:(T cs).length≤640:=by have:=hok.len2; have:=len_fig cs; rw [T_len]; omega
  simp [d_read_number,m_isnum cs h,ho,isSub,bIntS_s hl (int_ok hok)]
structure NoTxt (p:PV):Prop where
 e:pIsi "str" p = .ok (.bl false)
theorem m_read_no {p:PV} (h:NoTxt p):M_read_number [p] = .err "NoText":=by
 unfold M_read_number; rw [re1]
 simp [d_read_number,h.e]
theorem m_pieces {m:Nat} (hm:m < 256) (cs:List Nat) (h:cs.length≤1000000):M_pieces [.str (T cs),.str (T [m])] = .ok (.lst ((cut m cs).map fun w=>PV.str (T w))):=by
 unfold M_pieces; rw [re2]
 have e:pSplit (T cs) (.str (T [m])) = .ok (.lst ((cut m cs).map fun w=>PV.str (T w))):=by
  have hl:=split_len (m:=m) cs
  show (if _ then Res.ok (PV.lst ((Txt.split (T cs) (T [m])).map PV.str)) else Res.stuck) = _
  rw [if_pos ⟨by rw [T_len]; simp,by rw [T_len]; omega,by omega⟩,split_cut hm,List.map_map]
  rfl
 have e2:eMt pSplit (eVar 0) (eVar 1) [some (.sh (.str (T cs))),some (.sh (.str (T [m])))] = .ok (.lst ((cut m cs).map fun w=>PV.str (T w))):=by
  rw [eMt_s (z:=T cs) rfl]
  exact e
 simp [d_pieces,isSub,e2]
theorem m_pieces_no {p q:PV} (h:NoTxt p):M_pieces [p,q] = .err "NoText":=by
 unfold M_pieces; rw [re2]
 simp [d_pieces,h.e]
theorem nums {f:PV→Res PV} (hf:∀ w:List Nat,w.length≤1000000→f (.str (T w)) = if okN w = true then .ok (.int (val w)) else .err "NoText"):∀ ws:List (List Nat),(∀ w∈ws,w.length≤1000000) →
  mapR f (ws.map fun w=>PV.str (T w)) = if ws.all okN = true then .ok (ws.map fun w=>PV.int (val w)) else .err "NoText"
 | [],_=>rfl
 | w::ws,h=>by
  have ih:=nums hf ws fun v hv=>h v (List.mem_cons_of_mem _ hv)
  rw [List.map_cons,List.all_cons]
  unfold mapR
  rw [hf w (h w List.mem_cons_self),ih]
  cases okN w with
  | false=>rfl
  | true =>
   cases ws.all okN <;> rfl
theorem ix_last {ys:List PV} {y:PV}:ixN (ys++[y]).length (-1) = some ys.length:=by
 rw [List.length_append,List.length_singleton]
 unfold ixN
 simp
 omega
theorem at_last {ys:List PV} {y:PV}:atI (ys++[y]) (-1) = some y:=by
 unfold atI
 rw [ix_last]
 simp
theorem cut_loop (m:Nat) (W:Option SV):∀ (cs w:List Nat) (ws:List (List Nat)) (z:Option SV),w.length + cs.length≤1000000→ws.length + cs.length≤1000000→∃ v vs z',cut m cs = v::vs ∧
  forS (gN 3) b__law_cut_at_1 (cs.map fun c=>PV.str (T [c])) [W,some (.sh (.str (T [m]))),some (.own ((ws.map fun w=>PV.str (T w))++[.str (T w)])),z] =
   .ok (.next [W,some (.sh (.str (T [m]))),some (.own ((ws.map fun w=>PV.str (T w))++(.str (T (w++v))::vs.map fun w=>PV.str (T w)))),z'])
 | [],w,ws,z,_,_=>⟨[],[],z,rfl,by rw [List.append_nil]; rfl⟩
 | c::cs,w,ws,z,h1,h2=>by
  simp only [List.length_cons] at h1 h2
  rw [List.map_cons,forS_cons (σ1:=[W,some (.sh (.str (T [m]))),some (.own ((ws.map fun w=>PV.str (T w))++[.str (T w)])),some (.sh (.str (T [c])))]) rfl,b__law_cut_at_1_s]
  by_cases hc:c = m
  ·subst hc
   obtain ⟨v,vs,z',e1,e2⟩:=cut_loop c W cs [] (ws++[w]) (some (.sh (.str (T [c])))) (by simp; omega) (by simp; omega)
   refine ⟨[],v::vs,z',by rw [cut_mark,e1],?_⟩
   have ha:sApp 2 (eC (.str (PySem.Str.ofString ""))) [W,some (.sh (.str (T [c]))),some (.own ((ws.map fun w=>PV.str (T w))++[.str (T w)])),some (.sh (.str (T [c])))] = .ok (.next [W,some (.sh (.str (T [c]))),some (.own (((ws++[w]).map fun w=>PV.str (T w))++[.str (T [])])),some (.sh (.str (T [c])))]):=by
    rw [sApp_o (xs:=(ws.map fun w=>PV.str (T w))++[.str (T w)]) (p:=.str (T [])) rfl (by simp; omega) (by rw [kEmpty]; rfl)]
    simp
   rw [if_t (by simp [eqT]),ha]
   refine (congrArg id e2).trans ?_
   simp
  ·obtain ⟨v,vs,z',e1,e2⟩:=cut_loop m W cs (w++[c]) ws (some (.sh (.str (T [c])))) (by simp; omega) (by omega)
   refine ⟨c::v,vs,z',cut_sign hc e1,?_⟩
   have hp:sPut 2 (G.e1 pNeg (eC (.int 1))) (G.e2 pAddS (eIxV 2 (G.e1 pNeg (eC (.int 1)))) (eVar 3)) [W,some (.sh (.str (T [m]))),some (.own ((ws.map fun w=>PV.str (T w))++[.str (T w)])),some (.sh (.str (T [c])))] = .ok (.next [W,some (.sh (.str (T [m]))),some (.own ((ws.map fun w=>PV.str (T w))++[.str (T (w++[c]))])),some (.sh (.str (T [c])))]):=by
    have ev:(G.e2 pAddS (eIxV 2 (G.e1 pNeg (eC (.int 1)))) (eVar 3)) [W,some (.sh (.str (T [m]))),some (.own ((ws.map fun w=>PV.str (T w))++[.str (T w)])),some (.sh (.str (T [c])))] = .ok (.str (T (w++[c]))):=by
     have ei:(eIxV 2 (G.e1 pNeg (eC (.int 1)))) [W,some (.sh (.str (T [m]))),some (.own ((ws.map fun w=>PV.str (T w))++[.str (T w)])),some (.sh (.str (T [c])))] = .ok (.str (T w)):=by
      rw [eIxO_2]
      show atR _ (-1) id = _
      rw [atR_of at_last]; rfl
     rw [G.e2_s,ei]
     exact addT (by simp; omega)
    unfold sPut
    rw [ev]
    show putR 2 _ _ (.str (T (w++[c]))) (.int (-1)) = _
    unfold putR
    simp only [ix_last]
    have:((ws.map fun w=>PV.str (T w))++[PV.str (T w)]).set (ws.map fun w=>PV.str (T w)).length (PV.str (T (w++[c]))) = (ws.map fun w=>PV.str (T w))++[.str (T (w++[c]))]:=by
     rw [List.set_append_right _ _ (Nat.le_refl _)]
     simp
    rw [this]
    rfl
   rw [if_f (by simp [eqT,hc]),hp]
   refine (congrArg id e2).trans ?_
   simp
theorem m_cut (m:Nat) (cs:List Nat) (h:cs.length≤1000000):M__law_cut_at [.str (T cs),.str (T [m])] = .ok (.lst ((cut m cs).map fun w=>PV.str (T w))):=by
 unfold M__law_cut_at; rw [run2]
 obtain ⟨v,vs,z',e1,e2⟩:=cut_loop m (some (.sh (.str (T cs)))) cs [] [] none (by simpa using h) (by simpa using h)
 have hd:d__law_cut_at (some (.sh (.str (T cs)))::some (.sh (.str (T [m])))::List.replicate (4 - 2) none) = .ok (.ret (.lst ((cut m cs).map fun w=>PV.str (T w)))):=by
  unfold d__law_cut_at
  refine seq_ok _ _ (σ1:=[some (.sh (.str (T cs))),some (.sh (.str (T [m]))),some (.own [.str (T [])]),none]) (by rw [kEmpty]; rfl) (seq_ok _ _ e2 ?_)
  rw [sShare_o rfl,e1]
  rfl
 rw [hd]
 rfl
theorem m_kind:M__law_kind [.exc "NoText"] = .ok (.str (PySem.Str.ofString "text")):=by
 unfold M__law_kind; rw [run1]
 have e1:pIsiX [("NoText",true)] (.exc "NoText") = .ok (.bl true):=pIsiX_c (by decide +kernel)
 have e2:pIsiX [("NoText",false)] (.exc "NoText") = .ok (.bl false):=pIsiX_c (by decide +kernel)
 simp [d__law_kind,e1,e2]
theorem small_log {i:Int} (h:i.natAbs < 10 ^ 60):i.natAbs.log2 < 1920:=by
 by_cases h0:i.natAbs = 0
 ·rw [h0]; decide
 ·exact (Nat.log2_lt h0).mpr (Nat.lt_trans h (by decide))
theorem ne_str_self {x:Str}:pNe (.str x) (.str x) = .ok (.bl false):=by
 unfold pNe
 rw [if_pos ⟨rfl,rfl⟩]
 show Res.ok (PV.bl (!(x == x))) = _
 simp
theorem eq_str_self {x:Str}:pEq (.str x) (.str x) = .ok (.bl true):=by
 unfold pEq
 rw [if_pos ⟨rfl,rfl⟩]
 show Res.ok (PV.bl (x == x)) = _
 simp
theorem ne_told_i {x:Str} {n:Int}:pNe (.lst [.str x,.int n]) (.lst [.str x,.int n]) = .ok (.bl false):=by
 unfold pNe
 rw [if_pos ⟨rfl,rfl⟩]
 simp [peq,peqs]
theorem ne_told_t {x:Str} {a b:Int}:pNe (.lst [.str x,.tup [.int a,.int b]]) (.lst [.str x,.tup [.int a,.int b]]) = .ok (.bl false):=by
 unfold pNe
 rw [if_pos ⟨rfl,rfl⟩]
 simp [peq,peqs]
theorem str_len {i:Int} (h:i.natAbs < 10 ^ 60):∃ x:Str,bStr [.int i] = .ok (.str x)∧x.length≤100 :=
 ⟨_,if_pos (small_log h),len_small (Nat.lt_trans h (by decide))⟩
theorem mul_len {x:Str} {n:Int} (h:0≤n) (h1:n≤1000) (hx:x.length = 1):∃ y:Str,pMulS (.str x) (.int n) = .ok (.str y)∧y.length≤1000:=by
 refine ⟨_,if_pos ⟨h,h1,by omega⟩,?_⟩
 unfold Txt.mul
 split
 ·exact Nat.zero_le _
 ·split
  ·omega
  ·show (List.foldl (·++·) #[] (List.replicate n.toNat x.cps)).size≤1000
   have key:∀ (k:Nat) (a:Array Nat),(List.foldl (·++·) a (List.replicate k x.cps)).size = a.size + k:=by
    intro k
    induction k with
    | zero=>intro a; rfl
    | succ k ih =>
     intro a
     rw [List.replicate_succ,List.foldl_cons,ih,Array.size_append]
     have:x.cps.size = 1:=hx
     omega
   rw [key]
   show 0 + n.toNat≤1000
   omega
theorem add_len {x y:Str} {m n:Nat} (hx:x.length≤m) (hy:y.length≤n) (h:m + n≤10000000):∃ z:Str,pAddS (.str x) (.str y) = .ok (.str z)∧z.length≤m + n :=
 ⟨_,pAddS_s (by omega),by rw [G.len_cat]; omega⟩
theorem sl_len {x:Str} {l u:Option Int} {m:Nat} (h:x.length≤m) (hm:m≤10000000):∃ z:Str,pSlS (.str x) l u = .ok (.str z)∧z.length≤m:=by
 refine ⟨Txt.slice x l u,?_,Nat.le_trans (Txt.slice_le x l u) h⟩
 unfold pSlS
 simp only [show x.length≤10000000 by omega,if_true]
theorem ix_len {x:Str} {k:Int} (h0:0≤k) (h1:k < x.length) (h2:x.length≤10000000):∃ y:Str,pIxS (.str x) (.int k) = .ok (.str y)∧y.length≤1:=by
 obtain ⟨c,hc,_⟩:=atI_of (xs:=x.cps.toList) h0 (by rw [Array.length_toList]; exact h1)
 refine ⟨⟨#[c]⟩,?_,Nat.le_refl _⟩
 unfold pIxS
 simp only [h2,if_true,hc]
def Thing (p:PV):Prop:=NoTxt p∨∃ x:Str,p = .str x∧x.length≤100000
theorem kSlash:PySem.Str.ofString "/" = T [47]:=by rw [T_str]; rfl
def port (cs:List Nat):Option (Int × Int):=match cut 47 cs with
 | [a]=>if okN a = true then some (val a,1) else none
 | [a,b]=>if okN a = true∧okN b = true∧2≤val b∧gI (val a) (val b) = 1 then some (val a,val b) else none
 | _=>none
theorem port_1 {cs a:List Nat} (e:cut 47 cs = [a]):port cs = if okN a = true then some (val a,1) else none:=by unfold port; rw [e]
theorem port_2 {cs a b:List Nat} (e:cut 47 cs = [a,b]):port cs = if okN a = true∧okN b = true∧2≤val b∧gI (val a) (val b) = 1 then some (val a,val b) else none:=by unfold port; rw [e]
theorem port_3 {cs a b c:List Nat} {ds:List (List Nat)} (e:cut 47 cs = a::b::c::ds):port cs = none:=by unfold port; rw [e]
theorem cut_cases (cs:List Nat):(∃ a,cut 47 cs = [a])∨(∃ a b,cut 47 cs = [a,b])∨∃ a b c ds,cut 47 cs = a::b::c::ds:=by
 obtain ⟨v,vs,e⟩:=cut_ne 47 cs
 rw [e]
 cases vs with
 | nil=>exact .inl ⟨v,rfl⟩
 | cons w ws =>
  cases ws with
  | nil=>exact .inr (.inl ⟨v,w,rfl⟩)
  | cons x xs=>exact .inr (.inr ⟨v,w,x,xs,rfl⟩)
theorem m_port (cs:List Nat) (h:cs.length≤100000):M_read_portion [.str (T cs)] = match port cs with
  | some (a,b)=>.ok (.tup [.int a,.int b])
  | none=>.err "NoText":=by
 unfold M_read_portion; rw [re1]
 have hw:∀ w∈cut 47 cs,w.length≤1000000:=fun w hw=>by have:=cut_word hw; omega
 have hl:=cut_len (m:=47) cs
 have hc:∀ σ,cValE (itE (eA M_pieces (aCons (eVar 0) (aCons (eC (.str (PySem.Str.ofString "/"))) aNil)))) (gN 0) e_read_portion_1 1 [] (some (.sh (.str (T cs)))::σ) = if (cut 47 cs).all okN = true then .ok ((cut 47 cs).map fun w=>PV.int (val w)) else .err "NoText":=fun σ=>by
  have hp:=m_pieces (m:=47) (by decide) cs (by omega)
  unfold cValE
  simp only [itE_s,eA_s,aCons_s,aNil_s,eVar_0,eC_s,bind_ok',kSlash,hp]
  show (if ((cut 47 cs).map fun w=>PV.str (T w)).length≤10000000 then _ else _) = _
  rw [List.length_map,if_pos (by omega)]
  refine nums (fun w hw=>?_) _ hw
  show e_read_portion_1 [some (.sh (.str (T w)))] = _
  rw [e_read_portion_1_s]
  simp only [eA_s,aCons_s,aNil_s,eVar_0,bind_ok']
  exact m_read w hw
 have hd:d_read_portion [some (.sh (.str (T cs))),none] = match port cs with
   | some (a,b)=>.ok (.ret (.tup [.int a,.int b]))
   | none=>.err "NoText":=by
  unfold d_read_portion
  cases ha:(cut 47 cs).all okN with
  | false =>
   have hp:port cs = none:=by
    rcases cut_cases cs with ⟨a,e⟩ | ⟨a,b,e⟩ | ⟨a,b,c,ds,e⟩
    ·rw [port_1 e]
     rw [e] at ha
     simp at ha
     rw [if_neg (by rw [ha]; decide)]
    ·rw [port_2 e]
     rw [e] at ha
     rw [if_neg]
     rintro ⟨h1,h2,_⟩
     simp [h1,h2] at ha
    ·exact port_3 e
   rw [hp]
   refine seq_err ?_
   unfold sCompE
   rw [hc,ha]
   rfl
  | true =>
   refine seq_ok _ _ (σ1:=[some (.sh (.str (T cs))),some (.sh (.lst ((cut 47 cs).map fun w=>PV.int (val w))))]) (by unfold sCompE; rw [hc,ha]; rfl) ?_
   rcases cut_cases cs with ⟨a,e⟩ | ⟨a,b,e⟩ | ⟨a,b,c,ds,e⟩
   ·rw [port_1 e]
    rw [e] at ha ⊢
    simp at ha
    rw [if_pos ha]
    simp
   ·rw [port_2 e]
    rw [e] at ha ⊢
    simp at ha
    by_cases h2:2≤val b
    ·have h2':¬ val b < 2:=by omega
     by_cases hg:gI (val a) (val b) = 1
     ·rw [if_pos ⟨ha.1,ha.2,h2,hg⟩]
      simp [h2',m_divisor,hg]
     ·rw [if_neg fun z=>hg z.2.2.2]
      simp [h2',m_divisor,hg]
    ·have h2':val b < 2:=by omega
     rw [if_neg fun z=>h2 z.2.2.1]
     simp [h2']
   ·rw [port_3 e,e]
    have l1:¬ ((ds.length:Int) + 1 + 1 + 1 = 1):=by omega
    have l2:¬ ((ds.length:Int) + 1 + 1 + 1 = 2):=by omega
    simp [l1,l2]
 have:List.replicate (2 - 1) (none:Option SV) = [none]:=rfl
 rw [this,hd]
 cases port cs with
 | none=>rfl
 | some ab=>rfl
theorem m_port_no {p:PV} (h:NoTxt p):M_read_portion [p] = .err "NoText":=by
 unfold M_read_portion; rw [re1]
 have e:d_read_portion (some (.sh p)::List.replicate (2 - 1) none) = .err "NoText":=by
  unfold d_read_portion
  refine seq_err ?_
  unfold sCompE cValE
  simp [m_pieces_no h]
 rw [e]; rfl
theorem m_pdue (cs:List Nat) (h:cs.length≤100000):M__law_portion_due [.str (T cs)] = .ok (match port cs with
  | some (a,b)=>.tup [.int a,.int b]
  | none=>.non):=by
 unfold M__law_portion_due; rw [run1]
 have hw:∀ w∈cut 47 cs,w.length≤1000000:=fun w hw=>by have:=cut_word hw; omega
 have hcut:=m_cut 47 cs (by omega)
 have e0:(eA (fun ps=>noErr (M__law_cut_at ps)) (aCons (eVar 0) (aCons (eC (.str (PySem.Str.ofString "/"))) aNil))) [some (.sh (.str (T cs))),none,none,none] = .ok (.lst ((cut 47 cs).map fun w=>PV.str (T w))):=by
  simp only [eA_s,aCons_s,aNil_s,eVar_0,eC_s,bind_ok',kSlash,hcut,noErr_s]
 have hd:d__law_portion_due [some (.sh (.str (T cs))),none,none,none] = .ok (.ret (match port cs with
   | some (a,b)=>.tup [.int a,.int b]
   | none=>.non)):=by
  unfold d__law_portion_due
  refine seq_ok _ _ (σ1:=[some (.sh (.str (T cs))),some (.sh (.lst ((cut 47 cs).map fun w=>PV.str (T w)))),none,none]) (by rw [sSet_s,e0]; rfl) ?_
  rcases cut_cases cs with ⟨a,e⟩ | ⟨a,b,e⟩ | ⟨a,b,c,ds,e⟩
  ·rw [port_1 e]
   have ea:cs = a:=by have:=cut_join e; simpa using this
   have da:=m_due a (hw a (by rw [e]; simp))
   rw [e]
   cases ho:okN a with
   | true =>
    rw [ho,if_pos rfl] at da
    simp [da,ea,neT,isNon]
   | false =>
    rw [ho,if_neg (by decide)] at da
    simp [da,isNon]
  ·rw [port_2 e]
   have da:=m_due a (hw a (by rw [e]; simp))
   have db:=m_due b (hw b (by rw [e]; simp))
   rw [e]
   cases ho:okN a with
   | false =>
    rw [ho,if_neg (by decide)] at da
    simp [da,isNon]
   | true =>
    rw [ho,if_pos rfl] at da
    cases hp:okN b with
    | false =>
     rw [hp,if_neg (by decide)] at db
     simp [da,db,isNon]
    | true =>
     rw [hp,if_pos rfl] at db
     by_cases h2:2≤val b
     ·have h2':¬ val b < 2:=by omega
      by_cases hg:gI (val a) (val b) = 1
      ·rw [if_pos ⟨rfl,rfl,h2,hg⟩]
       simp [da,db,isNon,h2',m_common,hg]
      ·rw [if_neg fun z=>hg z.2.2.2]
       simp [da,db,isNon,h2',m_common,hg]
     ·have h2':val b < 2:=by omega
      rw [if_neg fun z=>h2 z.2.2.1]
      simp [da,db,isNon,h2']
  ·rw [port_3 e,e]
   have l:(2:Int) < (ds.length:Int) + 1 + 1 + 1:=by omega
   refine seq_ret ((if_t ?_).trans rfl)
   simp [l]
 have:List.replicate (4 - 1) (none:Option SV) = [none,none,none]:=rfl
 rw [this,hd]
 rfl
theorem m_nword_ok {p q:PV} (h:M_read_number [p] = .ok q):M__law_number_word [p] = .ok (.lst [.str (PySem.Str.ofString "told"),q]):=by
 unfold M__law_number_word; rw [run1]
 have ht:=sTryS_ok (j:=2) (i:=3) (cs:=["NoText"]) (ds:=b__law_number_word_1) (m:=M_read_number) (ra:=aCons (eVar 0) aNil) (σ:=[some (.sh p),some (.sh .non),some (.sh .non),none]) (qs:=[p]) rfl h
 simp [d__law_number_word,ht,isNon]
theorem m_nword_err {p:PV} (h:M_read_number [p] = .err "NoText"):M__law_number_word [p] = .ok (.str (PySem.Str.ofString "text")):=by
 unfold M__law_number_word; rw [run1]
 have ht:=sTryS_err (j:=2) (i:=3) (cs:=["NoText"]) (ds:=b__law_number_word_1) (m:=M_read_number) (ra:=aCons (eVar 0) aNil) (σ:=[some (.sh p),some (.sh .non),some (.sh .non),none]) (qs:=[p]) (c:="NoText") (σ':=[some (.sh p),some (.sh (.exc "NoText")),some (.sh .non),some (.sh (.exc "NoText"))]) rfl h (by decide +kernel) rfl
 simp [d__law_number_word,ht,isNon,m_kind]
theorem m_pword_ok {p q:PV} (h:M_read_portion [p] = .ok q):M__law_portion_word [p] = .ok (.lst [.str (PySem.Str.ofString "told"),q]):=by
 unfold M__law_portion_word; rw [run1]
 have ht:=sTryS_ok (j:=2) (i:=3) (cs:=["NoText"]) (ds:=b__law_portion_word_1) (m:=M_read_portion) (ra:=aCons (eVar 0) aNil) (σ:=[some (.sh p),some (.sh .non),some (.sh .non),none]) (qs:=[p]) rfl h
 simp [d__law_portion_word,ht,isNon]
theorem m_pword_err {p:PV} (h:M_read_portion [p] = .err "NoText"):M__law_portion_word [p] = .ok (.str (PySem.Str.ofString "text")):=by
 unfold M__law_portion_word; rw [run1]
 have ht:=sTryS_err (j:=2) (i:=3) (cs:=["NoText"]) (ds:=b__law_portion_word_1) (m:=M_read_portion) (ra:=aCons (eVar 0) aNil) (σ:=[some (.sh p),some (.sh .non),some (.sh .non),none]) (qs:=[p]) (c:="NoText") (σ':=[some (.sh p),some (.sh (.exc "NoText")),some (.sh .non),some (.sh (.exc "NoText"))]) rfl h (by decide +kernel) rfl
 simp [d__law_portion_word,ht,isNon,m_kind]
theorem m_show {cs:List Nat} {a b:Int} (h:port cs = some (a,b)):M_show_portion [.tup [.int a,.int b]] = .ok (.str (T cs)):=by
 unfold M_show_portion; rw [run1]
 rcases cut_cases cs with ⟨w,e⟩ | ⟨v,w,e⟩ | ⟨x1,x2,x3,x4,e⟩
 ·rw [port_1 e] at h
  have ew:cs = w:=by have:=cut_join e; simpa using this
  split at h
  ·rename_i ho
   cases h
   have hok:=ok_iff.mp ho
   have es:bStr [.int (val w)] = .ok (.str (T w)):=by
    show (if _ then Res.ok (PV.str (PySem.Str.ofString (toString (val w)))) else Res.stuck) = _
    rw [if_pos (small_log (val_bound hok)),show_ok hok]
   rw [ew]
   simp [d_show_portion,es]
  ·cases h
 ·rw [port_2 e] at h
  have ew:cs = v++47::w:=by have:=cut_join e; simpa using this
  split at h
  ·rename_i ho
   cases h
   have h1:=ok_iff.mp ho.1
   have h2:=ok_iff.mp ho.2.1
   have l1:(PySem.Str.ofString (toString (val v))).length≤100:=len_small (Nat.lt_trans (val_bound h1) (by decide))
   have l2:(PySem.Str.ofString (toString (val w))).length≤100:=len_small (Nat.lt_trans (val_bound h2) (by decide))
   have hn:¬ val w = 1:=by have:=ho.2.2.1; omega
   have es:eFs (PySem.Str.ofString "/") (eVar 1) (eVar 2) [some (.sh (.tup [.int (val v),.int (val w)])),some (.sh (.int (val v))),some (.sh (.int (val w)))] = .ok (.str (T cs)):=by
    have hx:(PySem.Str.ofString "/").length = 1:=by rw [kSlash,T_len]; rfl
    unfold eFs
    simp only [eVar_1,eVar_2,bind_ok']
    rw [if_pos ⟨small_log (val_bound h1),by rw [hx]; omega⟩]
    show (if _ then Res.ok (PV.str (Str.empty++PySem.Str.ofString (toString (val v))++PySem.Str.ofString "/"++PySem.Str.ofString (toString (val w)))) else Res.stuck) = _
    rw [if_pos ⟨small_log (val_bound h2),by rw [hx]; omega⟩,show_ok h1,show_ok h2,kSlash,ew]
    have e0:Str.empty = T []:=rfl
    rw [e0,T_app,T_app,T_app]
    simp
   simp [d_show_portion,hn,es]
  ·cases h
 ·rw [port_3 e] at h
  cases h
theorem m_right_no {p:PV} (h:NoTxt p):M__law_right [p] = .ok (.bl true):=by
 unfold M__law_right; rw [run1]
 simp [d__law_right,h.e,m_nword_err (m_read_no h),m_pword_err (m_port_no h),isNon,ne_str_self,eq_str_self]
theorem m_right (cs:List Nat) (h:cs.length≤100000):M__law_right [.str (T cs)] = .ok (.bl true):=by
 unfold M__law_right; rw [run1]
 have hn:=m_due cs (by omega)
 have hp:=m_pdue cs h
 have hr:=m_read cs (by omega)
 have hq:=m_port cs h
 have last:∀ x1 x3,(match port cs with
   | some (a,b)=>PV.tup [.int a,.int b]
   | none=>PV.non) = (match port cs with
   | some (a,b)=>PV.tup [.int a,.int b]
   | none=>PV.non)→(sSeq (sSet 3 (eA (fun ps=>noErr (M__law_portion_word ps)) (aCons (eVar 0) aNil)))
  (sSeq (sIf (tV (e2 pIs (eVar 2) (eC .non))) (sRet (e2 pEq (eVar 3) (eC (.str (PySem.Str.ofString "text"))))) sNext)
  (sSeq (sIf (G.tOr (tV (e2 pNe (eVar 3) (eA pLst (aCons (eC (.str (PySem.Str.ofString "told"))) (aCons (eVar 2) aNil))))) (G.tNot (tV (e1 (pIsi "tuple") (eIxV 3 (eC (.int 1))))))) (sRet (eC (.bl false))) sNext)
  (sSeq (sSet 4 (eA (fun ps=>noErr (M_show_portion ps)) (aCons (eVar 2) aNil)))
  (sRet (eAnd (e1 (pIsi "str") (eVar 4)) (e2 pEq (eVar 4) (eVar 0)))))))) [some (.sh (.str (T cs))),x1,some (.sh (match port cs with
   | some (a,b)=>PV.tup [.int a,.int b]
   | none=>PV.non)),x3,none] = .ok (.ret (.bl true)):=fun x1 x3 _=>by
  cases hpo:port cs with
  | none =>
   rw [hpo] at hq
   simp [m_pword_err hq,isNon,eq_str_self]
  | some ab =>
   obtain ⟨a,b⟩:=ab
   rw [hpo] at hq
   simp [m_pword_ok hq,isNon,ne_told_t,isSub,m_show hpo,eqT]
 cases ho:okN cs with
 | false =>
  rw [ho,if_neg (by decide)] at hn hr
  have hl:=last (some (.sh .non)) (some (.sh (.str (PySem.Str.ofString "text")))) rfl
  simp [d__law_right,hn,hp,isSub,isNon,m_nword_err hr,ne_str_self] at hl ⊢
  rw [hl]
  rfl
 | true =>
  rw [ho,if_pos rfl] at hn hr
  have hl:=last (some (.sh (.int (val cs)))) (some (.sh (.lst [.str (PySem.Str.ofString "told"),.int (val cs)]))) rfl
  simp [d__law_right,hn,hp,isSub,isNon,m_nword_ok hr,ne_told_i,m_whole] at hl ⊢
  rw [hl]
  rfl
theorem m_written (c:Int):∃ x:Str,M__law_written [.int c] = .ok (.str x)∧x.length≤101:=by
 unfold M__law_written; rw [run1]
 obtain ⟨x,e,hx⟩:=str_len (i:=c / 2 % 10 ^ 60) (by omega)
 have hm:(PySem.Str.ofString "-").length≤1:=by rw [kMinus,T_len]; decide
 obtain ⟨y,e2,hy⟩:=add_len hm hx (by decide)
 by_cases h:c % 2 = 1
 ·exact ⟨y,by simp [d__law_written,h] at e ⊢; simp [e,e2],by omega⟩
 ·exact ⟨x,by simp [d__law_written,h] at e ⊢; simp [e],by omega⟩
theorem m_two (c:Int):∃ x:Str,M__law_two [.int c] = .ok (.str x)∧x.length≤201:=by
 unfold M__law_two; rw [run1]
 have hm:(PySem.Str.ofString "/").length≤1:=by rw [kSlash,T_len]; decide
 by_cases h:c % 3 = 0
 ·obtain ⟨x,e,hx⟩:=str_len (i:=c / 3 % 23 - 11) (by omega)
  obtain ⟨y,e2,hy⟩:=str_len (i:=c / 69 % 12) (by omega)
  obtain ⟨z,e3,hz⟩:=add_len hx hm (by decide)
  obtain ⟨w,e4,hw⟩:=add_len hz hy (by decide)
  exact ⟨w,by simp [d__law_two,h,e,e2,e3,e4],by omega⟩
 ·obtain ⟨x,e,hx⟩:=str_len (i:=c / 3 % 100000000000000000000 - 50000000000000000000) (by omega)
  obtain ⟨y,e2,hy⟩:=str_len (i:=c / 7 % 1000000000000000000) (by omega)
  obtain ⟨z,e3,hz⟩:=add_len hx hm (by decide)
  obtain ⟨w,e4,hw⟩:=add_len hz hy (by decide)
  exact ⟨w,by simp [d__law_two,h,e,e2,e3,e4],by omega⟩
theorem m_other (c:Int):∃ p,M__law_other [.int c] = .ok p∧NoTxt p:=by
 unfold M__law_other; rw [run1]
 have h0:0≤c % 10:=by omega
 have h1:c % 10 < 10:=by omega
 generalize hk:c % 10 = k at h0 h1
 have:k = 0∨k = 1∨k = 2∨k = 3∨k = 4∨k = 5∨k = 6∨k = 7∨k = 8∨k = 9:=by omega
 have e:∀ (a0 a1 a2 a3 a4 a5 a6 a7 a8 a9:PV),pLst [a0,a1,a2,a3,a4,a5,a6,a7,a8,a9] = .ok (.lst [a0,a1,a2,a3,a4,a5,a6,a7,a8,a9]):=fun _ _ _ _ _ _ _ _ _ _=>rfl
 rcases this with rfl | rfl | rfl | rfl | rfl | rfl | rfl | rfl | rfl | rfl
 all_goals exact ⟨_,by simp only [d__law_other,sSeq_s,sSet_s,sRet_s,eA_s,aCons_s,aNil_s,eC_s,bind_ok',e2_s,eVar_0,pSub_s,pLst_0,pLst_1,pTup_1,pTup_2]; simp [e,hk,pIx]; rfl,⟨by simp [isSub]⟩⟩
theorem m_thing (c:Int):∃ p,M__law_thing [.int c] = .ok p∧Thing p:=by
 unfold M__law_thing; rw [run1]
 generalize hk:c % 8 = k
 generalize hd:c / 8 = d
 obtain ⟨w,ew,hw⟩:=m_written d
 obtain ⟨v,ev,hv⟩:=m_two d
 have one:(PySem.Str.ofString "-").length = 1:=by rw [kMinus,T_len]; rfl
 have nou:(PySem.Str.ofString "0").length = 1:=by rw [kNought,T_len]; rfl
 have sev:(PySem.Str.ofString "7").length = 1:=by rw [T_str,T_len]; rfl
 have put:∀ x:Str,x.length≤201→∃ y:Str,y.length≤100000∧∀ x3,(sSeq (sSet 3 (e2 pMod (e2 pFdiv (eVar 0) (eC (.int 40))) (e2 pAdd (eA bLenS (aCons (eVar 2) aNil)) (eC (.int 1)))))
  (sRet (e2 pAddS (e2 pAddS (eSlS (eVar 2) oNo (oE (eVar 3))) (e2 pIxS (eC (.str (PySem.Str.ofString "0123456789-+, \n\t_a./"))) (e2 pMod (e2 pFdiv (eVar 0) (eC (.int 2))) (eC (.int 20))))) (eSlS (eVar 2) (oE (eVar 3)) oNo)))) [some (.sh (.int d)),some (.sh (.int k)),some (.sh (.str x)),x3] = .ok (.ret (.str y)):=fun x hx=>by
  have hl:bLenS [.str x] = .ok (.int x.length):=by
   unfold bLenS
   simp only [show x.length≤10000000 by omega,if_true]
  have hne:((x.length:Nat):Int) + 1≠0:=by omega
  generalize hat:(d / 40).fmod (((x.length:Nat):Int) + 1) = t
  have l20:(PySem.Str.ofString "0123456789-+, \n\t_a./").length = 20:=by rw [T_str,T_len]; rfl
  obtain ⟨s,es,hs⟩:=ix_len (x:=PySem.Str.ofString "0123456789-+, \n\t_a./") (k:=d / 2 % 20) (by omega) (by rw [l20]; omega) (by rw [l20]; decide)
  obtain ⟨a,ea,ha⟩:=sl_len (x:=x) (l:=none) (u:=some t) hx (by decide)
  obtain ⟨b,eb,hb⟩:=sl_len (x:=x) (l:=some t) (u:=none) hx (by decide)
  obtain ⟨y,ey,hy⟩:=add_len ha hs (by decide)
  obtain ⟨z,ez,hz⟩:=add_len hy hb (by decide)
  exact ⟨z,by omega,fun x3=>by simp [hl,pMod_s hne,hat,es,ea,eb,ey,ez]⟩
 by_cases k1:k = 1
 ·subst k1
  exact ⟨.str v,by simp [d__law_thing,hk,hd,ew,ev],.inr ⟨v,rfl,by omega⟩⟩
 by_cases k2:k = 2
 ·subst k2
  obtain ⟨y,hy,e⟩:=put v hv
  refine ⟨.str y,?_,.inr ⟨y,rfl,hy⟩⟩
  have e:=e none
  simp [d__law_thing,hk,hd,ew,ev] at e ⊢
  rw [e]; rfl
 by_cases k3:k = 3
 ·subst k3
  obtain ⟨y,hy,e⟩:=put w (by omega)
  refine ⟨.str y,?_,.inr ⟨y,rfl,hy⟩⟩
  have e:=e none
  simp [d__law_thing,hk,hd,ew] at e ⊢
  rw [e]; rfl
 by_cases k4:k = 4
 ·subst k4
  obtain ⟨x1,e1',l1⟩:=mul_len (x:=PySem.Str.ofString "-") (n:=d % 2) (by omega) (by omega) one
  obtain ⟨x2,e2',l2⟩:=mul_len (x:=PySem.Str.ofString "0") (n:=d / 2 % 3) (by omega) (by omega) nou
  obtain ⟨x3,e3',l3⟩:=str_len (i:=d / 6 % 10000000000000000000000000000000000000000) (by omega)
  obtain ⟨y,ey,hy⟩:=add_len l1 l2 (by decide)
  obtain ⟨z,ez,hz⟩:=add_len hy l3 (by decide)
  exact ⟨.str z,by simp [d__law_thing,hk,hd,ew,e1',e2',e3',ey,ez],.inr ⟨z,rfl,by omega⟩⟩
 by_cases k5:k = 5
 ·subst k5
  obtain ⟨x1,e1',l1⟩:=mul_len (x:=PySem.Str.ofString "-") (n:=d % 2) (by omega) (by omega) one
  obtain ⟨x2,e2',l2⟩:=str_len (i:=1 + d / 2 % 9) (by omega)
  obtain ⟨x3,e3',l3⟩:=mul_len (x:=PySem.Str.ofString "7") (n:=58 + d / 18 % 4) (by omega) (by omega) sev
  obtain ⟨y,ey,hy⟩:=add_len l1 l2 (by decide)
  obtain ⟨z,ez,hz⟩:=add_len hy l3 (by decide)
  exact ⟨.str z,by simp [d__law_thing,hk,hd,ew,e1',e2',e3',ey,ez],.inr ⟨z,rfl,by omega⟩⟩
 by_cases k6:k = 6
 ·subst k6
  obtain ⟨p,ep,hp⟩:=m_other d
  exact ⟨p,by simp [d__law_thing,hk,hd,ew,ep],.inl hp⟩
 ·exact ⟨.str w,by simp [d__law_thing,hk,hd,ew,k1,k2,k3,k4,k5,k6],.inr ⟨w,rfl,by omega⟩⟩
theorem m_right_thing {p:PV} (h:Thing p):M__law_right [p] = .ok (.bl true):=by
 rcases h with h | ⟨x,rfl,hx⟩
 ·exact m_right_no h
 ·rw [← T_of x]
  exact m_right _ (by rw [Array.length_toList]; exact hx)
theorem m_law (ns:List Int) (hl:ns.length≤63):M_law [.scr ns] = .ok (.bl true):=by
 unfold M_law; rw [run1]
 have hr:∃ ps,asRange1 [PV.int (if ((ns.length:Nat):Int) > 1 then ((ns.length:Nat):Int) else 1)] = .ok ps∧∀ p∈ps,∃ a:Int,p = .int a∧0≤a:=by
  refine ⟨_,if_pos (by split <;> omega),fun p hp=>?_⟩
  obtain ⟨i,_,rfl⟩:=rangeL_mem hp
  exact ⟨_,rfl,by omega⟩
 obtain ⟨ps,hps,hall⟩:=hr
 obtain ⟨σ',h1,_⟩:=for_all (gg:=gN 1) (c:=b_law_1) (fun σ=>∃ x1,σ = [some (.sh (.scr ns)),x1]) (fun p=>∃ a:Int,p = .int a∧0≤a)
  (by
   rintro p σ ⟨a,rfl,ha⟩ ⟨x1,rfl⟩
   obtain ⟨c,hc⟩:=m_cell ns a ha
   obtain ⟨p,ep,hp⟩:=m_thing c
   refine ⟨_,[some (.sh (.scr ns)),some (.sh (.int a))],rfl,?_,_,rfl⟩
   rw [b_law_1_s]
   simp [hc,ep,m_right_thing hp]) ps hall _ ⟨none,rfl⟩
 simp only [d_law,sSeq_s,sFor_s,itR_s,aCons_s,aNil_s,eA_s,eC_s,bind_ok',eLenV_0,bLen_s,bMax_s,hps]
 change fin (Res.bind (forS (gN 1) b_law_1 ps [some (.sh (.scr ns)),none]) _) = _
 rw [h1]
 rfl
end Law
namespace Law
open PySem PySem.Spec PyProof.Rows L2 G
theorem all_mk {P : Program} {w : World} {K : PySem.W.Frag} {h : Heap} {mg : Str → Option Value} {C_NoText C_NoNumber C_Flat C_Crowded C_NoName C_Twice C_Past C_NoRow C_GlideError : Addr} {t_FIGURES : Tok} (KI : K.In h) (GN : h.Ns mainGlobals mg) (D__law_cell : DefAt K "_law_cell" (top 20)) (D__law_number_due : DefAt K "_law_number_due" (top 23)) (D__law_kind : DefAt K "_law_kind" (top 30)) (D_is_number : DefAt K "is_number" (top 14)) (D_read_number : DefAt K "read_number" (top 16)) (D__law_number_word : DefAt K "_law_number_word" (top 31)) (D__law_common : DefAt K "_law_common" (top 22)) (D__law_cut_at : DefAt K "_law_cut_at" (top 24)) (D__law_portion_due : DefAt K "_law_portion_due" (top 29)) (D_divisor : DefAt K "divisor" (top 11)) (D_pieces : DefAt K "pieces" (top 15)) (D_read_portion : DefAt K "read_portion" (top 17)) (D__law_portion_word : DefAt K "_law_portion_word" (top 32)) (D__law_whole : DefAt K "_law_whole" (top 21)) (D_show_portion : DefAt K "show_portion" (top 18)) (D__law_right : DefAt K "_law_right" (top 33)) (D__law_other : DefAt K "_law_other" (top 27)) (D__law_two : DefAt K "_law_two" (top 26)) (D__law_written : DefAt K "_law_written" (top 25)) (D__law_thing : DefAt K "_law_thing" (top 28)) (D_law : DefAt K "law" (top 34)) (z_abs : PySem.W.nsIn K mainGlobals "abs" = some none) (z_len : PySem.W.nsIn K mainGlobals "len" = some none) (z_range : PySem.W.nsIn K mainGlobals "range" = some none) (z_max : PySem.W.nsIn K mainGlobals "max" = some none) (z_min : PySem.W.nsIn K mainGlobals "min" = some none) (z_isinstance : PySem.W.nsIn K mainGlobals "isinstance" = some none) (z_int : PySem.W.nsIn K mainGlobals "int" = some none) (z_bool : PySem.W.nsIn K mainGlobals "bool" = some none) (z_tuple : PySem.W.nsIn K mainGlobals "tuple" = some none) (z_list : PySem.W.nsIn K mainGlobals "list" = some none) (z_str : PySem.W.nsIn K mainGlobals "str" = some none) (z_dict : PySem.W.nsIn K mainGlobals "dict" = some none) (z_sorted : PySem.W.nsIn K mainGlobals "sorted" = some none) (z_set : PySem.W.nsIn K mainGlobals "set" = some none) (z_reversed : PySem.W.nsIn K mainGlobals "reversed" = some none) (z_zip : PySem.W.nsIn K mainGlobals "zip" = some none) (z_enumerate : PySem.W.nsIn K mainGlobals "enumerate" = some none) (z_all : PySem.W.nsIn K mainGlobals "all" = some none) (z_any : PySem.W.nsIn K mainGlobals "any" = some none) (z_ValueError : PySem.W.nsIn K mainGlobals "ValueError" = some none) (z_ord : PySem.W.nsIn K mainGlobals "ord" = some none) (c_NoText : PySem.W.nsIn K mainGlobals "NoText" = some (some (.ref C_NoText))) (c_NoNumber : PySem.W.nsIn K mainGlobals "NoNumber" = some (some (.ref C_NoNumber))) (c_Flat : PySem.W.nsIn K mainGlobals "Flat" = some (some (.ref C_Flat))) (c_Crowded : PySem.W.nsIn K mainGlobals "Crowded" = some (some (.ref C_Crowded))) (c_NoName : PySem.W.nsIn K mainGlobals "NoName" = some (some (.ref C_NoName))) (c_Twice : PySem.W.nsIn K mainGlobals "Twice" = some (some (.ref C_Twice))) (c_Past : PySem.W.nsIn K mainGlobals "Past" = some (some (.ref C_Past))) (c_NoRow : PySem.W.nsIn K mainGlobals "NoRow" = some (some (.ref C_NoRow))) (c_GlideError : PySem.W.nsIn K mainGlobals "GlideError" = some (some (.ref C_GlideError))) (x_NoText : PySem.W.excIn K C_NoText [.type "ValueError", .type "Exception", .type "BaseException", .type "object"] "ValueError.__new__" = true) (w_FIGURES : PySem.W.nsIn K mainGlobals "FIGURES" = some (some (.str (PySem.Str.ofString "0123456789") t_FIGURES))) (o_NoText : excOk K C_NoText = true) (m_NoText_GlideError : PySem.W.exmOne K (.ref C_NoText) (.ref C_GlideError) = some true) (n_T__law_kind_1 : PySem.W.kitAny K (.type "NoneType") [.type "ValueError"] = some false) (k_T__law_kind_1_NoText : PySem.W.kitAny K (.ref C_NoText) [.type "ValueError"] = some true) (n_T__law_kind_2 : PySem.W.kitAny K (.type "NoneType") [.ref C_NoText] = some false) (k_T__law_kind_2_NoText : PySem.W.kitAny K (.ref C_NoText) [.ref C_NoText] = some true) (n_T__law_kind_3 : PySem.W.kitAny K (.type "NoneType") [.ref C_NoNumber, .ref C_Flat, .ref C_Crowded, .ref C_NoName, .ref C_Twice, .ref C_Past, .ref C_NoRow] = some false) (k_T__law_kind_3_NoText : PySem.W.kitAny K (.ref C_NoText) [.ref C_NoNumber, .ref C_Flat, .ref C_Crowded, .ref C_NoName, .ref C_Twice, .ref C_Past, .ref C_NoRow] = some false) :
    ∃ (a : Addr) (fd : FuncData), mg "law" = some (.ref a) ∧ (∀ (s : Shared) (u : Value), BindsTo s fd ⟨[u], []⟩ [("script", u)]) ∧ ∀ base : Heap, K.In base → base.Ns mainGlobals mg → FnOk P w K mg base (CXG P w) 6 a fd ["script"] (Fsp K 1 M_law) := by
  have B : Bi mg := ⟨PySem.W.mg_none_of KI GN z_abs, PySem.W.mg_none_of KI GN z_len, PySem.W.mg_none_of KI GN z_range, PySem.W.mg_none_of KI GN z_max, PySem.W.mg_none_of KI GN z_min, PySem.W.mg_none_of KI GN z_isinstance, PySem.W.mg_none_of KI GN z_int, PySem.W.mg_none_of KI GN z_bool, PySem.W.mg_none_of KI GN z_tuple, PySem.W.mg_none_of KI GN z_list, PySem.W.mg_none_of KI GN z_str, PySem.W.mg_none_of KI GN z_dict, PySem.W.mg_none_of KI GN z_sorted, PySem.W.mg_none_of KI GN z_set, PySem.W.mg_none_of KI GN z_reversed, PySem.W.mg_none_of KI GN z_zip, PySem.W.mg_none_of KI GN z_enumerate, PySem.W.mg_none_of KI GN z_all, PySem.W.mg_none_of KI GN z_any⟩
  have KG : ∀ (y : Str) (C : Addr), ClsIs K y C → mg y = some (.ref C) := fun y C hc => PySem.W.mg_of KI GN hc
  have Z_ord : mg "ord" = none := PySem.W.mg_none_of KI GN z_ord
  have T__law_kind_1 : IsTab K [.type "ValueError"] [("NoText", true)] := (istab1 c_NoText o_NoText k_T__law_kind_1_NoText (istab0 n_T__law_kind_1))
  have Z_ValueError : mg "ValueError" = none := PySem.W.mg_none_of KI GN z_ValueError
  have T__law_kind_2 : IsOwn K "NoText" [("NoText", true)] := ⟨_, c_NoText, (istab1 c_NoText o_NoText k_T__law_kind_2_NoText (istab0 n_T__law_kind_2))⟩
  have T__law_kind_3 : IsMany K ["NoNumber", "Flat", "Crowded", "NoName", "Twice", "Past", "NoRow"] [("NoText", false)] := ⟨[C_NoNumber, C_Flat, C_Crowded, C_NoName, C_Twice, C_Past, C_NoRow], (.cons c_NoNumber (.cons c_Flat (.cons c_Crowded (.cons c_NoName (.cons c_Twice (.cons c_Past (.cons c_NoRow .nil))))))), (istab1 c_NoText o_NoText k_T__law_kind_3_NoText (istab0 n_T__law_kind_3))⟩
  have Q_FIGURES : TxtAt K "FIGURES" (PySem.Str.ofString "0123456789") := ⟨_, w_FIGURES⟩
  have X_NoText : ExcAt K "NoText" := exc_at c_NoText x_NoText
  have C__law_number_word_1 : Caught K "GlideError" ["NoText"] := (caught1 c_GlideError c_NoText m_NoText_GlideError caught0)
  have C__law_portion_word_1 : Caught K "GlideError" ["NoText"] := (caught1 c_GlideError c_NoText m_NoText_GlideError caught0)
  refine law_of D_law KI GN (fun _ _ _ _ _ _ us hl => match us, hl with | [_], _ => rfl) (fun base f fd F => ?_)
  have F__law_cell := in__law_cell (P := P) (w := w) (base := base) D__law_cell KI GN B
  have F__law_number_due := in__law_number_due (P := P) (w := w) (base := base) D__law_number_due KI GN B Z_ord KG
  have F__law_kind := in__law_kind (P := P) (w := w) (base := base) D__law_kind KI GN B T__law_kind_1 Z_ValueError T__law_kind_2 T__law_kind_3 KG
  have F_is_number := in_is_number (P := P) (w := w) (base := base) D_is_number KI GN B Q_FIGURES KG
  have F_read_number := in_read_number (P := P) (w := w) (base := base) D_read_number KI GN B F_is_number X_NoText KG
  have F__law_number_word := in__law_number_word (P := P) (w := w) (base := base) D__law_number_word KI GN B F__law_kind F_read_number C__law_number_word_1 KG
  have F__law_common := in__law_common (P := P) (w := w) (base := base) D__law_common KI GN B
  have F__law_cut_at := in__law_cut_at (P := P) (w := w) (base := base) D__law_cut_at KI GN B
  have F__law_portion_due := in__law_portion_due (P := P) (w := w) (base := base) D__law_portion_due KI GN B F__law_common F__law_cut_at F__law_number_due
  have F_divisor := in_divisor (P := P) (w := w) (base := base) D_divisor KI GN B
  have F_pieces := in_pieces (P := P) (w := w) (base := base) D_pieces KI GN B X_NoText KG
  have F_read_portion := in_read_portion (P := P) (w := w) (base := base) D_read_portion KI GN B F_divisor F_pieces F_read_number X_NoText KG
  have F__law_portion_word := in__law_portion_word (P := P) (w := w) (base := base) D__law_portion_word KI GN B F__law_kind F_read_portion C__law_portion_word_1 KG
  have F__law_whole := in__law_whole (P := P) (w := w) (base := base) D__law_whole KI GN B
  have F_show_portion := in_show_portion (P := P) (w := w) (base := base) D_show_portion KI GN B
  have F__law_right := in__law_right (P := P) (w := w) (base := base) D__law_right KI GN B F__law_number_due F__law_number_word F__law_portion_due F__law_portion_word F__law_whole F_show_portion
  have F__law_other := in__law_other (P := P) (w := w) (base := base) D__law_other KI GN B
  have F__law_two := in__law_two (P := P) (w := w) (base := base) D__law_two KI GN B
  have F__law_written := in__law_written (P := P) (w := w) (base := base) D__law_written KI GN B
  have F__law_thing := in__law_thing (P := P) (w := w) (base := base) D__law_thing KI GN B F__law_other F__law_two F__law_written
  exact in_law F B F__law_cell F__law_right F__law_thing
end Law
def PySem.W.Fast.tw11386696558596383928 : Nat := 0
def PySem.W.Fast.tw9964777750097444628 : Nat := 0
def PySem.W.Fast.tw3971977331267637234 : Nat := 0
def PySem.W.Fast.tw5568145220212328018 : Nat := 0
def PySem.W.Fast.tw2469138510649680919 : Nat := 0
def PySem.W.Fast.tw9979130870083982449 : Nat := 0
def PySem.W.Fast.tw2471100617498972513 : Nat := 0
def PySem.W.Fast.tw5431143940521801536 : Nat := 0
def PySem.W.Fast.tw13155101865342027602 : Nat := 0
def PySem.W.Fast.tw648750115053122234 : Nat := 0
def PySem.W.Fast.tw3422581704918114258 : Nat := 0
def PySem.W.Fast.tw15545877486617855858 : Nat := 0
def PySem.W.Fast.tw9451619024026133387 : Nat := 0
def PySem.W.Fast.tw7116594711172300457 : Nat := 0
def PySem.W.Fast.tw6146573868610211307 : Nat := 0
def PySem.W.Fast.tw8347715471341543964 : Nat := 0
def PySem.W.Fast.tw10847310291086491079 : Nat := 0
def PySem.W.Fast.tw3924637718424359067 : Nat := 0
def PySem.W.Fast.tw7233048269067527218 : Nat := 0
def PySem.W.Fast.tw2646683374137726731 : Nat := 0
def PySem.W.Fast.tw2751868532164344345 : Nat := 0
def PySem.W.Fast.tw16869860102436362783 : Nat := 0
def PySem.W.Fast.tw1108957427982162665 : Nat := 0
def PySem.W.Fast.tw7328761457764637525 : Nat := 0
def PySem.W.Fast.tw7118900394381242488 : Nat := 0
def PySem.W.Fast.tw16972390599628638773 : Nat := 0
def PySem.W.Fast.tw16784817546353833039 : Nat := 0
def PySem.W.Fast.tw1444831362264733110 : Nat := 0
open PySem PySem.W PyProof.Rows
set_option maxRecDepth 100000 in
set_option maxHeartbeats 0 in
theorem PySem.Challenge.cw_glide_k46_numbers_and_portions_read_holds : PySem.Challenge.rw_glide_k46_numbers_and_portions_read.Holds := by
  w_on; o_law; k_head; (case hw => w_witness2)
  k_fill
  refine G.law_walk (l := PySem.Challenge.rw_glide_k46_numbers_and_portions_read) (k := 6) (m := Law.M_law) rfl rfl ⟨rfl, by decide, by decide⟩ (fun w h Y => PySem.W.kIn_of Y) rfl ?F Law.m_law
  case F =>
    intro w mg h KX GN
    refine' Law.all_mk KX GN (G.def_at ?a__law_cell ?l__law_cell ?d__law_cell ?k__law_cell) (G.def_at ?a__law_number_due ?l__law_number_due ?d__law_number_due ?k__law_number_due) (G.def_at ?a__law_kind ?l__law_kind ?d__law_kind ?k__law_kind) (G.def_at ?a_is_number ?l_is_number ?d_is_number ?k_is_number) (G.def_at ?a_read_number ?l_read_number ?d_read_number ?k_read_number) (G.def_at ?a__law_number_word ?l__law_number_word ?d__law_number_word ?k__law_number_word) (G.def_at ?a__law_common ?l__law_common ?d__law_common ?k__law_common) (G.def_at ?a__law_cut_at ?l__law_cut_at ?d__law_cut_at ?k__law_cut_at) (G.def_at ?a__law_portion_due ?l__law_portion_due ?d__law_portion_due ?k__law_portion_due) (G.def_at ?a_divisor ?l_divisor ?d_divisor ?k_divisor) (G.def_at ?a_pieces ?l_pieces ?d_pieces ?k_pieces) (G.def_at ?a_read_portion ?l_read_portion ?d_read_portion ?k_read_portion) (G.def_at ?a__law_portion_word ?l__law_portion_word ?d__law_portion_word ?k__law_portion_word) (G.def_at ?a__law_whole ?l__law_whole ?d__law_whole ?k__law_whole) (G.def_at ?a_show_portion ?l_show_portion ?d_show_portion ?k_show_portion) (G.def_at ?a__law_right ?l__law_right ?d__law_right ?k__law_right) (G.def_at ?a__law_other ?l__law_other ?d__law_other ?k__law_other) (G.def_at ?a__law_two ?l__law_two ?d__law_two ?k__law_two) (G.def_at ?a__law_written ?l__law_written ?d__law_written ?k__law_written) (G.def_at ?a__law_thing ?l__law_thing ?d__law_thing ?k__law_thing) (G.def_at ?a_law ?l_law ?d_law ?k_law)  ?z_abs ?z_len ?z_range ?z_max ?z_min ?z_isinstance ?z_int ?z_bool ?z_tuple ?z_list ?z_str ?z_dict ?z_sorted ?z_set ?z_reversed ?z_zip ?z_enumerate ?z_all ?z_any ?z_ValueError ?z_ord ?c_NoText ?c_NoNumber ?c_Flat ?c_Crowded ?c_NoName ?c_Twice ?c_Past ?c_NoRow ?c_GlideError ?x_NoText ?w_FIGURES ?o_NoText ?m_NoText_GlideError ?n_T__law_kind_1 ?k_T__law_kind_1_NoText ?n_T__law_kind_2 ?k_T__law_kind_2_NoText ?n_T__law_kind_3 ?k_T__law_kind_3_NoText
    (case c_NoText => (try unfold G.ClsIs); k_is)
    (case c_NoNumber => (try unfold G.ClsIs); k_is)
    (case c_Flat => (try unfold G.ClsIs); k_is)
    (case c_Crowded => (try unfold G.ClsIs); k_is)
    (case c_NoName => (try unfold G.ClsIs); k_is)
    (case c_Twice => (try unfold G.ClsIs); k_is)
    (case c_Past => (try unfold G.ClsIs); k_is)
    (case c_NoRow => (try unfold G.ClsIs); k_is)
    (case c_GlideError => (try unfold G.ClsIs); k_is)
    (case a__law_cell => k_is)
    (case l__law_cell => k_is)
    (case d__law_cell => k_is)
    (case k__law_cell => k_is)
    (case a__law_number_due => k_is)
    (case l__law_number_due => k_is)
    (case d__law_number_due => k_is)
    (case k__law_number_due => k_is)
    (case a__law_kind => k_is)
    (case l__law_kind => k_is)
    (case d__law_kind => k_is)
    (case k__law_kind => k_is)
    (case a_is_number => k_is)
    (case l_is_number => k_is)
    (case d_is_number => k_is)
    (case k_is_number => k_is)
    (case a_read_number => k_is)
    (case l_read_number => k_is)
    (case d_read_number => k_is)
    (case k_read_number => k_is)
    (case a__law_number_word => k_is)
    (case l__law_number_word => k_is)
    (case d__law_number_word => k_is)
    (case k__law_number_word => k_is)
    (case a__law_common => k_is)
    (case l__law_common => k_is)
    (case d__law_common => k_is)
    (case k__law_common => k_is)
    (case a__law_cut_at => k_is)
    (case l__law_cut_at => k_is)
    (case d__law_cut_at => k_is)
    (case k__law_cut_at => k_is)
    (case a__law_portion_due => k_is)
    (case l__law_portion_due => k_is)
    (case d__law_portion_due => k_is)
    (case k__law_portion_due => k_is)
    (case a_divisor => k_is)
    (case l_divisor => k_is)
    (case d_divisor => k_is)
    (case k_divisor => k_is)
    (case a_pieces => k_is)
    (case l_pieces => k_is)
    (case d_pieces => k_is)
    (case k_pieces => k_is)
    (case a_read_portion => k_is)
    (case l_read_portion => k_is)
    (case d_read_portion => k_is)
    (case k_read_portion => k_is)
    (case a__law_portion_word => k_is)
    (case l__law_portion_word => k_is)
    (case d__law_portion_word => k_is)
    (case k__law_portion_word => k_is)
    (case a__law_whole => k_is)
    (case l__law_whole => k_is)
    (case d__law_whole => k_is)
    (case k__law_whole => k_is)
    (case a_show_portion => k_is)
    (case l_show_portion => k_is)
    (case d_show_portion => k_is)
    (case k_show_portion => k_is)
    (case a__law_right => k_is)
    (case l__law_right => k_is)
    (case d__law_right => k_is)
    (case k__law_right => k_is)
    (case a__law_other => k_is)
    (case l__law_other => k_is)
    (case d__law_other => k_is)
    (case k__law_other => k_is)
    (case a__law_two => k_is)
    (case l__law_two => k_is)
    (case d__law_two => k_is)
    (case k__law_two => k_is)
    (case a__law_written => k_is)
    (case l__law_written => k_is)
    (case d__law_written => k_is)
    (case k__law_written => k_is)
    (case a__law_thing => k_is)
    (case l__law_thing => k_is)
    (case d__law_thing => k_is)
    (case k__law_thing => k_is)
    (case a_law => k_is)
    (case l_law => k_is)
    (case d_law => k_is)
    (case k_law => k_is)
    (case z_abs => k_is)
    (case z_len => k_is)
    (case z_range => k_is)
    (case z_max => k_is)
    (case z_min => k_is)
    (case z_isinstance => k_is)
    (case z_int => k_is)
    (case z_bool => k_is)
    (case z_tuple => k_is)
    (case z_list => k_is)
    (case z_str => k_is)
    (case z_dict => k_is)
    (case z_sorted => k_is)
    (case z_set => k_is)
    (case z_reversed => k_is)
    (case z_zip => k_is)
    (case z_enumerate => k_is)
    (case z_all => k_is)
    (case z_any => k_is)
    (case z_ValueError => k_is)
    (case z_ord => k_is)
    (case x_NoText => kernel_rfl)
    (case w_FIGURES => k_is)
    (case o_NoText => kernel_rfl)
    (case m_NoText_GlideError => kernel_rfl)
    (case n_T__law_kind_1 => kernel_rfl)
    (case k_T__law_kind_1_NoText => kernel_rfl)
    (case n_T__law_kind_2 => kernel_rfl)
    (case k_T__law_kind_2_NoText => kernel_rfl)
    (case n_T__law_kind_3 => kernel_rfl)
    (case k_T__law_kind_3_NoText => kernel_rfl)
