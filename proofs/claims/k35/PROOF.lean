import PyProof.Rows.All
import Wide.All
import OpenK.AllK
import Wide.FinOn
import Lean
import PyProof.EqAt
import PyProof.EqKinds
import PyProof.TupleCall
import PyProof.NeKinds
import PySem.SetOps
import PyProof.SetKind
import PyProof.TupleKey
import PyProof.IsRules
import PyProof.DictKinds
import KE.KSortAsk
import PyProof.Rows.SetFrom
import PyProof.Walks
import PyProof.CollectWalk
import KE.KSortTup
import KE.KDictSum
import KE.KDictList
import KE.KRevIter
import KE.KItemsList
import PyProof.Rows.ZipGen
import KE.KListMore
import PyProof.CompMap
import PyProof.DictFindH
import PyProof.AttrMissSeq
import PyProof.DictUpdate
import PyProof.ListNew
import PyProof.FactsAll.dict_1
import KE.KDictOf
import PyProof.Rows.DictSet
import KE.KIntText
import KE.IntTextLaws
import PyProof.StrLawsChain
import PyProof.StrLawsIn
import PyProof.StrLawsOcc
import PyProof.Rows.CatFin
import PyProof.Rows.StrClose5
import PyProof.Rows.ReprOcc
import KE.IntTextText
import PyProof.EnumFor
import PyProof.EnumMake
import PyProof.EnumStmt
import PyProof.FString5
import PyProof.Rows.SortStr
import PySem.Challenge.RW_glide_k35_gliding_alone
open PySem.W renaming Frag → aT, mg_none_of → aah, nsIn → aak, kia_one → aat, findIn → aaw, keepIn → aaE, fnOf → aaF, emptyDict → aaM, instObj → aaZ, methodCall_KW → abe, kitAny → abn, codeIn → abo, plainGet → abp, hasDictIn → abz, mg_of → abI, excIn → abJ, makesIn → abL, isFn → abM
open PySem.Heap renaming get?_push_of_some → bY, lt_size → iD, get?_push_size → lE, get?_update_self → aaA, get?_update_other → aaQ, size_push → aaT
open List renaming getElem?_eq_getElem → dO, length_cons → iF, size_toArray → oF, mem_append_right → tO, getElem?_set_ne → aaa, length_map → aad, getElem?_map → aae, mem_of_getElem? → aaf, length_append → aai, lookup_cons → aam, mem_cons_of_mem → aan, getElem?_set_self → aao, drop_eq_getElem_cons → aar, length_set → aas, map_cons → aau, getElem?_eq_none → aav, getElem?_append_left → aax, getElem?_append_right → aaB, length_take → aaD, mem_map_of_mem → aaI, getD_eq_getElem?_getD → aaJ, mem_cons_self → aaL, range → aaN, replicate → aaS, length_nil → aaU, getElem?_cons_succ → aaV, ext_getElem? → aaY, lookup → aa0, length_reverse → aa1, filterMap_cons → aa2, append_nil → aa3, take_of_length_le → aa4, length_replicate → aa5, getElem?_toArray → aa6, mem_append_left → aa9, zip_cons_cons → abc, take_append_drop → abf, length_singleton → abg, find?_cons → abh, reverse_cons → abj, reverse_reverse → abl, length_dropLast → abm, set_cons_zero → abu, set_cons_succ → abv, pairwise_singleton → abw, mem_cons → abx, getElem?_replicate → aby, length_range → abA, append_assoc → abB, getElem_mem → abH
open Nat renaming le_refl → gO, le_trans → iS, ne_of_lt → aab, lt_or_ge → aaj, lt_of_lt_of_le → aal, mod_eq_of_lt → aaC, zero_le → aaH, lt_succ_self → aaP, lt_irrefl → aaR, lt_succ_of_lt → aba, le_of_lt_succ → abb, le_add_right → abq, mod_lt → abr, lt_trans → abF, le_of_lt → abG
open Bool renaming false_eq_true → iN, and_eq_true → aay, not_true → aaW, false_ne_true → aa7, beq_eq_decide_eq → abi, not_false → abD, false_and → abE
open Array renaming getElem?_toList → oR, getElem?_eq_getElem → aac, length_toList → aag, getElem?_eq_none → aap, getD_eq_getD_getElem? → aaz, getElem?_setIfInBounds → abd, getD → abK
open Int renaming mul_nonneg → aaq, le_of_lt → aaG, mul_pos → aaK, natAbs_mul → aaO, lt_or_le → aaX, mul_neg_of_neg_of_pos → aa8, fmod_eq_emod_of_nonneg → abk, mul_fdiv_cancel_left → abt, toNat_natCast → abC
set_option Elab.async false
set_option linter.all false
set_option maxRecDepth 100000
set_option maxHeartbeats 4000000
namespace L2
open PySem PySem.Spec PyProof.Rows
abbrev Key:=Sum Int Str
def l9:Key→Value→Bool
 |.inl k,v=>Value.isInt k v
 |.inr x,v=>Value.isStrOf x v
def GR(w:World):Key→Int
 |.inl k=>hashInt k
 |.inr x=>hashStr w x
theorem bH:∀{k:Key}{v:Value},l9 k v=true→(∃i t,k=Sum.inl i∧v=Value.int i t)∨(∃x t,k=Sum.inr x∧v=Value.str x t)
 |.inl i,v,h=>by
  obtain⟨t,e⟩:=Value.isInt_shape (k:=i) (v:=v) h
  exact .inl ⟨i,t,rfl,e⟩
 |.inr x,v,h=>by
  obtain⟨t,e⟩:=Value.isStrOf_shape (x:=x) (v:=v) h
  exact .inr ⟨x,t,rfl,e⟩
theorem va(i:Int)(t:Tok):l9 (.inl i) (.int i t)=true:=by simp[l9,Value.isInt]
theorem u9(x:Str)(t:Tok):l9 (.inr x) (.str x t)=true:=by simp[l9,Value.isStrOf]
theorem C3(a b:Int):decide ((Sum.inl a:Key)=Sum.inl b)=(a==b):=by
 by_cases e:a=b
 ·subst e;simp
 ·have h:¬(Sum.inl a:Key)=Sum.inl b:=fun q=>e (Sum.inl.inj q)
  rw[decide_eq_false h]
  exact(beq_eq_false_iff_ne.mpr e).symm
theorem CY(a b:Str):decide ((Sum.inr a:Key)=Sum.inr b)=decide (a=b):=by
 by_cases e:a=b
 ·subst e;simp
 ·have h:¬(Sum.inr a:Key)=Sum.inr b:=fun q=>e (Sum.inr.inj q)
  rw[decide_eq_false h,decide_eq_false e]
theorem C0(a:Int)(b:Str):decide ((Sum.inl a:Key)=Sum.inr b)=false:=decide_eq_false (fun q=>nomatch q)
theorem CZ(a:Str)(b:Int):decide ((Sum.inr a:Key)=Sum.inl b)=false:=decide_eq_false (fun q=>nomatch q)
def bZ(prog:Program)(w:World):PySem.KeyKind prog w Key where
 is:=l9
 hash:=GR w
 inj:=fun v a b ha hb=>by
  rcases bH ha with ⟨i,t,rfl,rfl⟩|⟨x,t,rfl,rfl⟩
  ·rcases bH hb with ⟨j,u,rfl,e⟩|⟨y,u,rfl,e⟩
   ·injection e with e1 _;rw[e1]
   ·exact nomatch e
  ·rcases bH hb with ⟨j,u,rfl,e⟩|⟨y,u,rfl,e⟩
   ·exact nomatch e
   ·injection e with e1 _;rw[e1]
 byValue:=fun k v h=>by
  rcases bH h with ⟨i,t,rfl,rfl⟩|⟨x,t,rfl,rfl⟩<;>rfl
 pyHash:=fun hv h=>by
  rcases bH hv with ⟨i,t,rfl,rfl⟩|⟨x,t,rfl,rfl⟩
  ·exact wpAny_pyHash_int h
  ·exact wpAny_pyHash_str h
 eqBool:=fun hu hv h=>by
  rcases bH hu with ⟨i,t,rfl,rfl⟩|⟨x,t,rfl,rfl⟩
  ·rcases bH hv with ⟨j,u,rfl,rfl⟩|⟨y,u,rfl,rfl⟩
   ·rw[C3]at h;exact wpAny_eqBool_int h
   ·rw[C0]at h;exact SeqAt.EqAt.int_str i t y u _ _ _ _ h
  ·rcases bH hv with ⟨j,u,rfl,rfl⟩|⟨y,u,rfl,rfl⟩
   ·rw[CZ]at h;exact SeqAt.EqAt.str_int x t j u _ _ _ _ h
   ·rw[CY]at h;exact wpAny_eqBool_str h
 «strs»:=fun k x t v h=>by
  rcases bH h with ⟨i,u,rfl,e⟩|⟨y,u,rfl,e⟩
  ·exact nomatch e
  ·injection e with e1 _
   subst e1
   cases v<;>rfl
theorem rQ(prog:Program)(w:World)(k:Key)(v:Value):(bZ prog w).is k v=l9 k v:=rfl
theorem qh(prog:Program)(w:World)(i:Int)(t:Tok):(bZ prog w).is (.inl i) (.int i t)=true:=va i t
theorem qg(prog:Program)(w:World)(x:Str)(t:Tok):(bZ prog w).is (.inr x) (.str x t)=true:=u9 x t
inductive V where
 |non|bl (b:Bool)|int (i:Int)|str (x:Str)|byt (b:Array UInt8)|flt (b:UInt64)|ref (a:Addr)|ty (n:String)
 deriving DecidableEq
def RelV:V→Value→Prop
 |.non,u=>u=Value.none
 |.bl b,u=>u=Value.bool b
 |.int i,u=>∃t,u=Value.int i t
 |.str x,u=>∃t,u=Value.str x t
 |.byt b,u=>∃t,u=Value.bytes b t
 |.flt b,u=>∃t,u=Value.float b t
 |.ref a,u=>u=Value.ref a
 |.ty n,u=>u=Value.type n
abbrev Vals:List V→List Value→Prop:=Paired RelV
theorem Vals.length{xs:List V}{us:List Value}(r:Vals xs us):xs.length=us.length:=Paired.length r
theorem Vals.get:∀{xs:List V}{us:List Value}{i:Nat}{x:V},Vals xs us→xs[i]? = some x→∃u,us[i]? = some u∧RelV x u
 |_,_,_,_,.nil,e=>by simp at e
 |_,_,0,_,.cons r _,e=>by simp at e;subst e;exact⟨_,rfl,r⟩
 |_,_,i+1,x,.cons _ t,e=>by
  obtain⟨u,h1,h2⟩:=Vals.get (i:=i) (x:=x) t (by simpa using e)
  exact⟨u,by simpa using h1,h2⟩
theorem Vals.append:∀{xs ys:List V}{us ws:List Value},Vals xs us→Vals ys ws→Vals (xs++ys) (us++ws)
 |_,_,_,_,.nil,s=>s
 |_,_,_,_,.cons r t,s=>.cons r (Vals.append t s)
theorem Vals.take:∀{xs:List V}{us:List Value}(n:Nat),Vals xs us→Vals (xs.take n) (us.take n)
 |_,_,0,_=>.nil
 |_,_,_+1,.nil=>.nil
 |_,_,n+1,.cons r t=>.cons r (Vals.take n t)
theorem Vals.drop:∀{xs:List V}{us:List Value}(n:Nat),Vals xs us→Vals (xs.drop n) (us.drop n)
 |_,_,0,r=>r
 |_,_,_+1,.nil=>.nil
 |_,_,n+1,.cons _ t=>Vals.drop n t
def pJ:Option V→Option Value→Prop
 |some v,some u=>RelV v u
 |none,none=>True
 |_,_=>False
def KV{κ:Type}:List (κ×V)→List (κ×Value)→Prop:=Paired fun (p:κ×V) (q:κ×Value)=>p.1=q.1∧RelV p.2 q.2
def kV:Key→V
 |.inl i=>.int i
 |.inr x=>.str x
inductive HO where
 |lst (xs:List V)
 |tup (xs:List V)
 |dK (kvs:List (Key×V))|dT (kvs:List (List Key×V))
 |set (S:Int→Bool) (n:Nat)
 |ins (C dx:Addr) (fs:List (Str×V))
 |own (x:Addr)
 |xd (fs:List (Str×V))
 |met (f x:Addr)
 |rng (lo hi:Int)
 |frz (o:Obj) (u:HO)
 |tbl (ps:Array Value)
 |ext (φ:Heap→Prop)
abbrev Hp:=Addr→Option HO
def upd(H:Hp)(a:Addr)(o:HO):Hp:=fun b=>if b=a then some o else H b
theorem ak{H:Hp}{a:Addr}{o:HO}:upd H a o a=some o:=by unfold upd;rw[if_pos rfl]
theorem aj{H:Hp}{a b:Addr}{o:HO}(h:b≠a):upd H a o b=H b:=by unfold upd;rw[if_neg h]
theorem EW{H:Hp}{a b:Addr}{o u:HO}(h:H a=some o)(h':H b=some u)(d:o≠u):a≠b:=by
 intro e;subst e;rw[h]at h';exact d (Option.some.inj h')
theorem bh{H:Hp}{a b:Addr}{o:HO}(h:H a=some o)(h':H b=none):a≠b:=by
 intro e;subst e;rw[h]at h';cases h'
section
variable (P:Program)(w:World)
def cv(H:Hp)(h:Heap)(a:Addr):HO→Prop
 |.lst xs=>xs.length≤sizeLine∧∃(its:List Value) (n:Nat),Vals xs its∧h.get? a=some { cls:=.type "list",data:=.seq its.toArray n }
 |.tup xs=>xs.length≤sizeLine∧∃its:List Value,Vals xs its∧IsTup h a its.toArray
 |.dK kvs=>kvs.length≤sizeLine∧(a==sysModules)=false∧∃vs,KV kvs vs∧h.DictOf (bZ P w) a vs
 |.dT kvs=>kvs.length≤sizeLine∧(a==sysModules)=false∧∃xs:List (List Key×Addr×Value),
   Paired (fun (p:List Key×V) (q:List Key×Addr×Value)=>p.1=q.1∧H q.2.1=some (.tup (p.1.map kV))∧RelV p.2 q.2.2) kvs xs ∧
   ∃o es ep,h.get? a=some o∧o.ExactDict∧o.data=.dict es ep∧es.toList=xs.map (entryOfKey (tupleKind (bZ P w)))∧(xs.map (·.1)).Nodup
 |.set S n=>h.SetOf (intKind P w) a S n
 |.ins C dx fs=>H dx=some (.own a)∧fs.length≤1000∧dx≠a∧h.get? a=some (aaZ C dx) ∧
   ∃mA,h.Ns1 dx mA∧(∀f,pJ (fs.lookup f) (mA f))∧PySem.Within mA (fs.map (·.1))
 |.own _=>∃o,h.get? a=some o
 |.xd fs=>∃mA,h.Ns1 a mA∧∀f,pJ (fs.lookup f) (mA f)
 |.rng lo hi=>∃t u v,h.get? a=some { cls:=.type "range",data:=.fields #[.int lo t,.int hi u,.int 1 v] }
 |.frz o u=>h.get? a=some o∧cv H h a u
 |.tbl ps=>h.get? a=some { cls:=.none,data:=.fields ps }
 |.met f x=>h.get? a=some (PySem.W.methodObj (.ref f) (.ref x))
 |.ext φ=>φ h∧(∃o,h.get? a=some o)∧∀h1 h2:Heap,φ h1→(∀o,h1.get? a=some o→h2.get? a=some o)→φ h2
def HOk(H:Hp)(h:Heap):Prop:=∀a o,H a=some o→cv P w H h a o
end
section
variable {P:Program}{w:World}{H H':Hp}{h h':Heap}{a:Addr}{o:HO}
theorem cv.lt(x:cv P w H h a o):a<h.objs.size:=by
 cases o with
 |lst xs=>obtain⟨_,_,_,_,e⟩:=x;exact iD e
 |tup xs=>obtain⟨_,_,_,p⟩:=x;exact p.lt
 |dK kvs=>obtain⟨_,_,_,_,o,_,_,e,_⟩:=x;exact iD e
 |dT kvs=>obtain⟨_,_,_,_,o,_,_,e,_⟩:=x;exact iD e
 |set S n=>obtain⟨o,_,_,_,e,_⟩:=x;exact iD e
 |ins C dx fs=>obtain⟨_,_,_,e,_⟩:=x;exact iD e
 |own y=>obtain⟨_,e⟩:=x;exact iD e
 |xd fs=>obtain⟨_,⟨_,_,_,e,_⟩,_⟩:=x;exact iD e
 |rng lo hi=>obtain⟨_,_,_,e⟩:=x;exact iD e
 |frz ob u=>obtain⟨e,_⟩:=x;exact iD e
 |tbl ps=>exact iD (show h.get? a=some _ from x)
 |met f y=>exact iD (show h.get? a=some _ from x)
 |ext φ=>obtain⟨_,⟨_,e⟩,_⟩:=x;exact iD e
theorem Paired.mapP{α β:Type}{F G:α→β→Prop}:∀{l₁:List α}{l₂:List β},Paired F l₁ l₂→(∀a b,F a b→G a b)→Paired G l₁ l₂
 |_,_,.nil,_=>.nil
 |_,_,.cons r t,f=>.cons (f _ _ r) (Paired.mapP t f)
theorem cv.stay(x:cv P w H h a o)(k:∀b u,(b=a∨H b=some (.own a))→h.get? b=some u→h'.get? b=some u)
  (ho:∀b,H b=some (.own a)→H' b=some (.own a)) (ht:∀b xs,H b=some (.tup xs)→H' b=some (.tup xs)):cv P w H' h' a o:=by
 induction o with
 |lst xs=>obtain⟨z,its,n,r,e⟩:=x;exact⟨z,its,n,r,k _ _ (.inl rfl) e⟩
 |tup xs=>obtain⟨z,its,r,ob,e,c⟩:=x;exact⟨z,its,r,ob,k _ _ (.inl rfl) e,c⟩
 |dK kvs=>obtain⟨z,y,vs,r,ob,es,ep,e,c⟩:=x;exact⟨z,y,vs,r,ob,es,ep,k _ _ (.inl rfl) e,c⟩
 |dT kvs=>
  obtain⟨z,y,xs,r,ob,es,ep,e,c⟩:=x
  exact⟨z,y,xs,Paired.mapP r fun p q z=>⟨z.1,ht _ _ z.2.1,z.2.2⟩,ob,es,ep,k _ _ (.inl rfl) e,c⟩
 |set S n=>obtain⟨ob,es,ep,t,e,c⟩:=x;exact⟨ob,es,ep,t,k _ _ (.inl rfl) e,c⟩
 |ins C dx fs=>
  obtain⟨d,z,ne,e,mA,⟨od,es,ep,e2,c⟩,r⟩:=x
  exact⟨ho _ d,z,ne,k _ _ (.inl rfl) e,mA,⟨od,es,ep,k _ _ (.inr d) e2,c⟩,r⟩
 |own y=>obtain⟨ob,e⟩:=x;exact⟨ob,k _ _ (.inl rfl) e⟩
 |xd fs=>obtain⟨mA,⟨od,es,ep,e,c⟩,r⟩:=x;exact⟨mA,⟨od,es,ep,k _ _ (.inl rfl) e,c⟩,r⟩
 |rng lo hi=>obtain⟨t,u,v,e⟩:=x;exact⟨t,u,v,k _ _ (.inl rfl) e⟩
 |frz ob u ih=>obtain⟨e,q⟩:=x;exact⟨k _ _ (.inl rfl) e,ih q⟩
 |tbl ps=>
  have e:h.get? a=some { cls:=.none,data:=.fields ps }:=x
  show h'.get? a=some { cls:=.none,data:=.fields ps }
  exact k a _ (.inl rfl) e
 |met f y=>
  have e:h.get? a=some (PySem.W.methodObj (.ref f) (.ref y)):=x
  show h'.get? a=some (PySem.W.methodObj (.ref f) (.ref y))
  exact k a _ (.inl rfl) e
 |ext φ=>obtain⟨p,⟨o,e⟩,st⟩:=x;exact⟨st _ _ p fun o q=>k _ _ (.inl rfl) q,⟨o,k _ _ (.inl rfl) e⟩,st⟩
theorem HOk.lt(x:HOk P w H h)(e:H a=some o):a<h.objs.size:=(x a o e).lt
theorem HOk.fresh(x:HOk P w H h)(e:h.objs.size≤a):H a=none:=by
 cases q:H a with
 |none=>rfl
 |some u=>exact absurd (aal (x.lt q) e) (aaR _)
theorem HOk.kept(x:HOk P w H h)(k:∀b u,h.get? b=some u→h'.get? b=some u):HOk P w H h':=fun a o e=>
 (x a o e).stay (fun b u _ q=>k b u q) (fun _ q=>q) fun _ _ q=>q
theorem HOk.laid(x:HOk P w H h)(k:∀b u,h.get? b=some u→h'.get? b=some u)(hp:h.objs.size≤a)(new:cv P w (upd H a o) h' a o):HOk P w (upd H a o) h':=fun b u e=>by
 have hn:=x.fresh hp
 by_cases hb:b=a
 ·subst hb;rw[ak]at e;cases e;exact new
 ·rw[aj hb]at e
  exact(x b u e).stay (fun c v _ q=>k c v q) (fun c q=>by rw[aj (bh q hn)];exact q) fun c xs q=>by rw[aj (bh q hn)];exact q
end
def Rd(H:Hp)(a:Addr)(u:HO):Prop:=H a=some u∨∃o,H a=some (.frz o u)
theorem Rd.ok{P:Program}{w:World}{H:Hp}{h:Heap}{a:Addr}{u:HO}(r:Rd H a u)(x:HOk P w H h):cv P w H h a u:=by
 rcases r with r|⟨o,r⟩
 ·exact x a u r
 ·obtain⟨_,q⟩:=x a _ r
  exact q
def Mut:Option HO→Prop
 |some (.lst _)=>True
 |some (.dK _)=>True
 |some (.dT _)=>True
 |some (.set _ _)=>True
 |some (.ins _ _ _)=>True
 |some (.ext _)=>True
 |_=>False
section
variable {P:Program}{w:World}{H:Hp}{h h':Heap}{x e:Addr}{o':HO}
theorem HOk.write(ok:HOk P w H h)(mu:Mut (H x))(he:e=x∨H e=some (.own x))(k:∀b u,b≠e→h.get? b=some u→h'.get? b=some u)(heo:∃u,h'.get? e=some u)
  (new:cv P w (upd H x o') h' x o'):HOk P w (upd H x o') h':=fun b u q=>by
 have nown:∀c y,H c=some (.own y)→c≠x:=fun c y r z=>by subst z;rw[r]at mu;exact mu
 have ntup:∀c xs,H c=some (.tup xs)→c≠x:=fun c xs r z=>by subst z;rw[r]at mu;exact mu
 by_cases hb:b=x
 ·subst hb;rw[ak]at q;cases q;exact new
 ·rw[aj hb]at q
  by_cases hbe:b=e
  ·have q':H b=some (.own x):=by
    rcases he with z|z
    ·exact absurd (hbe.trans z) hb
    ·rw[hbe];exact z
   rw[q]at q';cases q'
   obtain⟨v,hv⟩:=heo
   exact⟨v,by rw[hbe];exact hv⟩
  ·refine(ok b u q).stay (fun c v hc r=>k c v ?_ r) (fun c r=>by rw[aj (nown c b r)];exact r) fun c xs r=>by rw[aj (ntup c xs r)];exact r
   rcases hc with rfl|hc
   ·exact hbe
   ·rintro rfl
    rcases he with z|z
    ·exact nown c b hc z
    ·rw[hc]at z;cases z;exact hb rfl
end
structure Un (fs ex:List Addr) (H H':Hp) (h h':Heap):Prop where
 keep:∀b o,h.get? b=some o→H b=none→b∉fs→b∉ex→h'.get? b=some o
 slot:∀b o,h.get? b=some o→H b=none→b∈fs→b∉ex→∃sl,h'.get? b=some { o with slots:=sl }
 free:∀b o,h.get? b=some o→H b=none→b∉ex→H' b=none
 there:∀b o,h.get? b=some o→b∉ex→∃o',h'.get? b=some o'
 tups:∀b xs,H b=some (.tup xs)→H' b=some (.tup xs)
 frzs:∀b o u,H b=some (.frz o u)→H' b=some (.frz o u)
 tbls:∀b ps,H b=some (.tbl ps)→∃more,H' b=some (.tbl (ps++more))
section
variable {fs fs' ex ex':List Addr}{H H1 H2:Hp}{h h1 h2 h':Heap}{a x e:Addr}{o:HO}
theorem Un.any(u:Un fs ex H H1 h h1){b:Addr}{ob:Obj}(q:h.get? b=some ob)(n:H b=none)(hx:b∉ex):∃sl,h1.get? b=some { ob with slots:=sl }:=by
 by_cases hb:b∈fs
 ·exact u.slot b ob q n hb hx
 ·exact⟨ob.slots,u.keep b ob q n hb hx⟩
theorem Un.kept(k:∀b u,h.get? b=some u→h'.get? b=some u):Un fs ex H H h h':=
 ⟨fun b ob q _ _ _=>k b ob q,fun b ob q _ _ _=>⟨ob.slots,k b ob q⟩,fun _ _ _ n _=>n,fun b ob q _=>⟨ob,k b ob q⟩,fun _ _ q=>q,fun _ _ _ q=>q,fun _ ps q=>⟨#[],by rw[q];simp⟩⟩
theorem Un.refl:Un fs ex H H h h:=Un.kept fun _ _ q=>q
theorem Un.laid(k:∀b u,h.get? b=some u→h'.get? b=some u)(hp:h.objs.size≤a)(hn:H a=none):Un fs ex H (upd H a o) h h' where
 keep:=fun b u q _ _ _=>k b u q
 slot:=fun b u q _ _ _=>⟨u.slots,k b u q⟩
 free:=fun b u q n _=>by rw[aj (aab (aal (iD q) hp))];exact n
 there:=fun b u q _=>⟨u,k b u q⟩
 tups:=fun b xs q=>by rw[aj (bh q hn)];exact q
 frzs:=fun b u xs q=>by rw[aj (bh q hn)];exact q
 tbls:=fun b ps q=>⟨#[],by rw[aj (bh q hn),q];simp⟩
theorem Un.write(mu:Mut (H x))(he:e=x∨H e=some (.own x))(k:∀b u,b≠e→h.get? b=some u→h'.get? b=some u)(heo:∃u,h'.get? e=some u):Un fs ex H (upd H x o) h h':=by
 have hx:∀b,H b=none→b≠x:=fun b n z=>by subst z;rw[n]at mu;exact mu
 have hb:∀b,H b=none→b≠e:=fun b n z=>by
  subst z
  rcases he with r|r
  ·exact hx b n r
  ·rw[n]at r;cases r
 have hm:∀b u,H b=some u→¬Mut (some u)→b≠x:=fun b u q nm z=>by subst z;rw[q]at mu;exact nm mu
 refine⟨fun b u q n _ _=>k b u (hb b n) q,fun b u q n _ _=>⟨u.slots,k b u (hb b n) q⟩,fun b u q n _=>by rw[aj (hx b n)];exact n,fun b u q _=>?_,
  fun b xs q=>by rw[aj (hm b _ q fun z=>z)];exact q,fun b u xs q=>by rw[aj (hm b _ q fun z=>z)];exact q,fun b ps q=>⟨#[],by rw[aj (hm b _ q fun z=>z),q];simp⟩⟩
 by_cases hbe:b=e
 ·subst hbe;exact heo
 ·exact⟨u,k b u hbe q⟩
end
def trk(h:Heap)(H:Hp):List Addr:=(aaN h.objs.size).filter fun a=>(H a).isSome
def ph(h:Heap)(H:Hp):Heap:=PySem.W.hideAll h (trk h H)
theorem vg(h:Heap)(H:Hp):(ph h H).objs.size=h.objs.size:=PySem.W.hideAll_size _ _
theorem xT{h:Heap}{H:Hp}{b:Addr}{o:Obj}(e:h.get? b=some o)(n:H b=none):(ph h H).get? b=some o:=
 PySem.W.hideAll_get _ e fun hm=>by
  have q:(H b).isSome=true:=(List.mem_filter.mp hm).2
  rw[n]at q;simp at q
theorem zS{h:Heap}{H:Hp}{b:Addr}{o:Obj}(e:(ph h H).get? b=some o):h.get? b=some o∧H b=none:=by
 have e':h.get? b=some o:=PySem.W.of_hideAll (trk h H) e
 refine⟨e',?_⟩
 cases q:H b with
 |none=>rfl
 |some x=>
  have hm:b∈trk h H:=List.mem_filter.mpr ⟨List.mem_range.mpr (iD e'),by simp[q]⟩
  have z:(ph h H).get? b=none:=PySem.W.hideAll_none (trk h H) hm
  rw[z]at e;cases e
structure Mod (K:aT) (mg:Str→Option Value) (base:Heap):Prop where
 kin:K.In base
 glob:base.Ns mainGlobals mg
 blt:∃mb,base.Ns builtinsNs mb∧∀x:Str,x≠"__name__"→mb x=bootBuiltins x
 nolimit:base.NoLimit
structure Cx where
 prog:Program
 w:World
 K:aT
 mg:Str→Option Value
 base:Heap
 A:Around
 N:List Str
 s₀:Shared
 H₀:Hp
 env:Env
 outer:List Env
 stack:List Env
 ex:List Addr
 fn:Str→Bool
 calm:Bool
 pn:List (Addr×Obj)
 xe:Value→Shared→Prop
def frs(l:List Env):List Addr:=l.filterMap (·.frame)
abbrev Cx.fs(X:Cx):List Addr:=frs X.outer
def Vis(sc:Scope)(x:Str):Prop:=sc.names.lookup x=some .local∨sc.names.lookup x=some .cell∨sc.names.lookup x=some .free
def Loc(sc:Scope)(x:Str):Prop:=sc.names.lookup x=some .local∨sc.names.lookup x=some .cell
def Look(env:Env)(h:Heap)(m:Str→Option Value)(x:Str)(u:Value):Prop:=
 (env.kindOf x=some .local∧m x=some u)∨((env.kindOf x=some .cell∨env.kindOf x=some .free)∧∃c,env.cells.lookup x=some c∧h.IsCell c (some u))
structure Cx.Ok (X:Cx):Prop where
 mod:Mod X.K X.mg X.base
 kind:X.env.scope.kind=.function
 glob:X.env.globals=mainGlobals
 blt:X.env.builtins=builtinsNs
 above:X.s₀.heap.objs.size≤X.env.locals
 inj:∀x y c,X.env.cells.lookup x=some c→X.env.cells.lookup y=some c→x=y
 has:∀x,(X.env.kindOf x=some .cell∨X.env.kindOf x=some .free)→∃c,X.env.cells.lookup x=some c
 cab:∀x c,X.fn x=true→X.env.cells.lookup x=some c→X.s₀.heap.objs.size≤c
 hd:X.calm=true→X.A.handled=none
 frames:X.A.frames=some X.stack
 stk:X.stack=X.outer∨(X.stack=X.env::X.outer∧X.env.frame=some X.env.locals)
 exf:∀b∈X.ex,b≠X.env.locals∧∀x c,X.env.cells.lookup x=some c→c≠b
 bs:∀b o,X.base.get? b=some o→X.s₀.heap.get? b=some o∧X.H₀ b=none
 bsz:X.base.objs.size≤X.s₀.heap.objs.size
 noex:∀b o,X.base.get? b=some o→b∉X.ex
 exfs:∀b∈X.ex,b∉X.fs
 funs:X.s₀.heap.FunFrames X.base X.outer
 frf:∀b∈X.fs,X.H₀ b=none
structure Inv (X:Cx) (pins:List (Addr×Obj)) (σ:List (Option V)) (H:Hp) (s:Shared):Prop where
 ok:X.Ok
 os:s.os=X.s₀.os
 bare:AllBare s.gens
 base:Un X.fs X.ex X.H₀ H X.s₀.heap s.heap
 loc:∃m,s.heap.Ns X.env.locals m∧∀(i:Nat)(x:Str)(v:V),X.N[i]? = some x→σ[i]? = some (some v)→Vis X.env.scope x→∃u,RelV v u∧Look X.env s.heap m x u
 cell:∀x c,X.env.cells.lookup x=some c→∃v,s.heap.IsCell c v
 free:H X.env.locals=none
 freeC:∀x c,X.env.cells.lookup x=some c→H c=none
 pin:∀p∈X.pn++pins,s.heap.get? p.1=some p.2∧H p.1=none∧p.1≠X.env.locals∧p.1∉X.fs∧∀v,p.2.data≠.cell v
 hok:HOk X.prog X.w H s.heap
 len:σ.length=X.N.length
section
variable {X:Cx}{pins:List (Addr×Obj)}{σ:List (Option V)}{H H':Hp}{s:Shared}{h':Heap}
theorem Cx.Ok.nofr(ok:X.Ok){b:Addr}{o:Obj}(e:X.base.get? b=some o):b∉X.fs:=fun hb=>by
 have:=(ok.funs.mem hb).1
 rw[e]at this;cases this
theorem Inv.bs(I:Inv X pins σ H s):∀b o,X.base.get? b=some o→s.heap.get? b=some o∧H b=none:=fun b o e=>
 ⟨I.base.keep b o (I.ok.bs b o e).1 (I.ok.bs b o e).2 (I.ok.nofr e) (I.ok.noex b o e),I.base.free b o (I.ok.bs b o e).1 (I.ok.bs b o e).2 (I.ok.noex b o e)⟩
theorem Inv.bk(I:Inv X pins σ H s):∀b o,X.base.get? b=some o→s.heap.get? b=some o:=fun b o e=>(I.bs b o e).1
theorem Inv.mod(I:Inv X pins σ H s):Mod X.K X.mg X.base:=I.ok.mod
theorem Inv.kIn(I:Inv X pins σ H s):X.K.In s.heap:=I.ok.mod.kin.keeps I.bk
theorem Inv.lt(I:Inv X pins σ H s):X.env.locals<s.heap.objs.size:=let⟨_,hn,_⟩:=I.loc;hn.lt
theorem Inv.sz(I:Inv X pins σ H s):X.s₀.heap.objs.size≤s.heap.objs.size:=iS I.ok.above (abG I.lt)
theorem Inv.nofs(I:Inv X pins σ H s){a:Addr}(h:s.heap.objs.size≤a):a∉X.fs:=fun hb=>by
 obtain⟨_,o,ho,_⟩:=I.ok.funs.mem hb
 exact absurd (aal (iD ho) (iS I.sz h)) (aaR _)
theorem Inv.cne(I:Inv X pins σ H s):∀x c,X.env.cells.lookup x=some c→c≠X.env.locals:=fun x c e z=>by
 obtain⟨v,o,ho,hd⟩:=I.cell x c e
 obtain⟨m,⟨o',es,ep,ho',hd',_⟩,_⟩:=I.loc
 rw[z,ho']at ho;cases ho;rw[hd']at hd;cases hd
theorem Inv.funs(I:Inv X pins σ H s):s.heap.FunFrames X.base X.outer:=by
 have all:∀(l:List Env),(∀b∈frs l,b∈X.fs)→X.s₀.heap.FunFrames X.base l→s.heap.FunFrames X.base l:=by
  intro l
  induction l with
  |nil=>intro _ _;trivial
  |cons env r ih=>
   intro hs hl
   obtain⟨hk,⟨L,o,hf,hn,ho,hd⟩,hr⟩:=hl
   have hL:L∈X.fs:=hs L (by unfold frs;rw[aa2,hf];exact aaL)
   obtain⟨sl,e⟩:=I.base.slot L o ho (I.ok.frf L hL) hL fun z=>I.ok.exfs L z hL
   exact⟨hk,⟨L,_,hf,hn,e,hd⟩,ih (fun b hb=>hs b (by unfold frs;rw[aa2,hf];exact aan _ hb)) hr⟩
 exact all X.outer (fun _ hb=>hb) I.ok.funs
theorem Inv.stack(I:Inv X pins σ H s):s.heap.FunFrames X.base X.stack:=by
 rcases I.ok.stk with e|⟨e,hf⟩
 ·rw[e];exact I.funs
 ·rw[e]
  obtain⟨m,hn,_⟩:=I.loc
  refine .cons (by rw[I.ok.kind];decide) hf hn ?_ I.funs
  exact Heap.get?_none_of_le (iS I.ok.bsz I.ok.above)
theorem Inv.stkSub(I:Inv X pins σ H s):∀b∈frs X.stack,b∈X.env.locals::X.fs:=fun b hb=>by
 rcases I.ok.stk with e|⟨e,hf⟩
 ·rw[e]at hb;exact aan _ hb
 ·rw[e]at hb
  unfold frs at hb
  rw[aa2,hf]at hb
  exact hb
theorem Inv.stkFree(I:Inv X pins σ H s):∀b∈frs X.stack,H b=none:=fun b hb=>by
 rcases List.mem_cons.mp (I.stkSub b hb) with e|hb
 ·rw[e];exact I.free
 ·obtain⟨_,o,ho,_⟩:=I.ok.funs.mem hb
  exact I.base.free b o ho (I.ok.frf b hb) fun z=>I.ok.exfs b z hb
theorem Inv.step{g':Array GenState}{t':Nat}{d':Drawn}{ch:List Addr}(I:Inv X pins σ H s)
  (hch:∀b∈ch,(b∈X.ex∨X.s₀.heap.objs.size≤b)∧b≠X.env.locals∧(∀x c,X.env.cells.lookup x=some c→c≠b)∧∀p∈X.pn++pins,p.1≠b)
  (keep:∀b o,b≠X.env.locals→b∉X.fs→b∉ch→s.heap.get? b=some o→H b=none→h'.get? b=some o)
  (slot:∀b o,b≠X.env.locals→b∈X.fs→b∉ch→s.heap.get? b=some o→H b=none→∃sl,h'.get? b=some { o with slots:=sl }) (free:∀b o,b∉ch→s.heap.get? b=some o→H b=none→H' b=none)
  (there:∀b o,b∉ch→s.heap.get? b=some o→∃o',h'.get? b=some o')
  (tups:∀b xs,H b=some (.tup xs)→H' b=some (.tup xs)) (frzs:∀b o u,H b=some (.frz o u)→H' b=some (.frz o u)) (tbls:∀b ps,H b=some (.tbl ps)→∃more,H' b=some (.tbl (ps++more)))
  (ns:∀m,s.heap.Ns X.env.locals m→h'.Ns X.env.locals m) (hok:HOk X.prog X.w H' h') (hg:AllBare g'):
  Inv X pins σ H' { s with heap:=h',gens:=g',drawn:=d',toks:=t' }:=by
 have neL:∀b o,X.s₀.heap.get? b=some o→b≠X.env.locals:=fun b o e=>aab (aal (iD e) I.ok.above)
 have neC:∀b o,X.s₀.heap.get? b=some o→b∉X.ex→b∉ch:=fun b o e hx hb=>by
  rcases(hch b hb).1 with z|z
  ·exact hx z
  ·exact absurd (aal (iD e) z) (aaR _)
 have cellK:∀x c,X.env.cells.lookup x=some c→∀v,s.heap.IsCell c v→h'.IsCell c v:=fun x c e v ⟨o,ho,hd⟩=>by
  have nch:c∉ch:=fun z=>(hch c z).2.2.1 x c e rfl
  by_cases hc:c∈X.fs
  ·obtain⟨sl,q⟩:=slot c o (I.cne x c e) hc nch ho (I.freeC x c e)
   exact⟨_,q,hd⟩
  ·exact⟨o,keep c o (I.cne x c e) hc nch ho (I.freeC x c e),hd⟩
 refine⟨I.ok,I.os,hg,⟨fun b o e n hb hx=>?_,fun b o e n hb hx=>?_,fun b o e n hx=>?_,fun b o e hx=>?_,fun b xs e=>tups b xs (I.base.tups b xs e),fun b o xs e=>frzs b o xs (I.base.frzs b o xs e),fun b ps e=>?_⟩,?_,fun x c e=>?_,?_,fun x c e=>?_,fun p hp=>?_,hok,I.len⟩
 ·exact keep b o (neL b o e) hb (neC b o e hx) (I.base.keep b o e n hb hx) (I.base.free b o e n hx)
 ·obtain⟨sl,e1⟩:=I.base.slot b o e n hb hx
  obtain⟨sl',e2⟩:=slot b _ (neL b o e) hb (neC b o e hx) e1 (I.base.free b o e n hx)
  exact⟨sl',e2⟩
 ·obtain⟨o',e1⟩:=I.base.there b o e hx
  exact free b o' (neC b o e hx) e1 (I.base.free b o e n hx)
 ·obtain⟨o',e1⟩:=I.base.there b o e hx
  exact there b o' (neC b o e hx) e1
 ·obtain⟨m1,e1⟩:=I.base.tbls b ps e
  obtain⟨m2,e2⟩:=tbls b _ e1
  exact⟨m1++m2,by rw[e2,Array.append_assoc]⟩
 ·obtain⟨m,hn,hl⟩:=I.loc
  refine⟨m,ns m hn,fun i x v e1 e2 e3=>?_⟩
  obtain⟨u,r,l⟩:=hl i x v e1 e2 e3
  refine⟨u,r,?_⟩
  rcases l with l|⟨k,c,e,z⟩
  ·exact .inl l
  ·exact .inr ⟨k,c,e,cellK x c e _ z⟩
 ·obtain⟨v,z⟩:=I.cell x c e
  exact⟨v,cellK x c e v z⟩
 ·obtain⟨m,⟨o,_,_,ho,_⟩,_⟩:=I.loc
  exact free _ o (fun z=>(hch _ z).2.1 rfl) ho I.free
 ·obtain⟨v,o,ho,hd⟩:=I.cell x c e
  exact free c o (fun z=>(hch c z).2.2.1 x c e rfl) ho (I.freeC x c e)
 ·obtain⟨e,n,ne,nf,d⟩:=I.pin p hp
  have nch:p.1∉ch:=fun z=>(hch p.1 z).2.2.2 p hp rfl
  exact⟨keep p.1 p.2 ne nf nch e n,free p.1 p.2 nch e n,ne,nf,d⟩
theorem Inv.un{t':Nat}(I:Inv X pins σ H s)(u:Un X.fs [] H H' s.heap h')(hok:HOk X.prog X.w H' h'):Inv X pins σ H' { s with heap:=h',toks:=t' }:=by
 obtain⟨m,⟨o,es,ep,ho,r⟩,_⟩:=id I.loc
 obtain⟨sl,hL⟩:=u.any ho I.free (by simp)
 exact I.step (g':=s.gens) (d':=s.drawn) (ch:=[]) (fun _ z=>nomatch z) (fun b o _ hb _ e n=>u.keep b o e n hb (by simp)) (fun b o _ hb _ e n=>u.slot b o e n hb (by simp)) (fun b o _ e n=>u.free b o e n (by simp)) (fun b o _ e=>u.there b o e (by simp)) u.tups u.frzs u.tbls (fun m' hm=>by
  obtain⟨o',es',ep',ho',r'⟩:=hm
  rw[ho]at ho';cases ho'
  exact⟨_,es',ep',hL,r'⟩) hok I.bare
theorem Inv.call{g':Array GenState}{t':Nat}{d':Drawn}{ch:List Addr}(I:Inv X pins σ H s)(u:Un (frs X.stack) ch H H' s.heap h')(hok:HOk X.prog X.w H' h')(hg:AllBare g')
  (hch:∀b∈ch,(b∈X.ex∨X.s₀.heap.objs.size≤b)∧b≠X.env.locals∧(∀x c,X.env.cells.lookup x=some c→c≠b)∧∀p∈X.pn++pins,p.1≠b):
  Inv X pins σ H' { s with heap:=h',gens:=g',drawn:=d',toks:=t' }:=by
 obtain⟨m,⟨o,es,ep,ho,r⟩,_⟩:=id I.loc
 obtain⟨sl,hL⟩:=u.any ho I.free fun z=>(hch _ z).2.1 rfl
 exact I.step (ch:=ch) hch (fun b o hL hb hc e n=>u.keep b o e n (fun z=>(List.mem_cons.mp (I.stkSub b z)).elim hL hb) hc) (fun b o _ _ hc e n=>u.any e n hc) (fun b o hc e n=>u.free b o e n hc) (fun b o hc e=>u.there b o e hc) u.tups u.frzs u.tbls (fun m' hm=>by
  obtain⟨o',es',ep',ho',r'⟩:=hm
  rw[ho]at ho';cases ho'
  exact⟨_,es',ep',hL,r'⟩) hok hg
theorem Inv.turned{t':Nat}{it:Addr}(I:Inv X pins σ H s)(k:∀b o,b≠it→s.heap.get? b=some o→h'.get? b=some o)(hn:H it=none)(hL:it≠X.env.locals)
  (h1:it∈X.ex∨X.s₀.heap.objs.size≤it) (h2:∀x c,X.env.cells.lookup x=some c→c≠it) (h3:∀p∈X.pn++pins,p.1≠it):Inv X pins σ H { s with heap:=h',toks:=t' }:=by
 have nit:∀b u,H b=some u→b≠it:=fun b u e z=>by rw[z,hn]at e;cases e
 refine I.step (g':=s.gens) (d':=s.drawn) (ch:=[it]) (fun b hb=>?_) (fun b o _ _ hc e _=>k b o (fun z=>hc (by simp[z])) e) (fun b o _ _ hc e _=>⟨o.slots,k b o (fun z=>hc (by simp[z])) e⟩) (fun _ _ _ _ n=>n)
  (fun b o hc e=>⟨o,k b o (fun z=>hc (by simp[z])) e⟩) (fun _ _ e=>e) (fun _ _ _ e=>e) (fun b ps e=>⟨#[],by rw[e];simp⟩) (fun m hm=>?_) (fun b u e=>?_) I.bare
 ·have e:b=it:=by simpa using hb
  subst e
  exact⟨h1,hL,h2,h3⟩
 ·obtain⟨o,es,ep,ho,r⟩:=hm
  exact⟨o,es,ep,k _ o (Ne.symm hL) ho,r⟩
 ·refine(I.hok b u e).stay (fun c v hc q=>k c v ?_ q) (fun _ q=>q) fun _ _ q=>q
  rcases hc with z|z
  ·rw[z];exact nit b u e
  ·exact nit c _ z
theorem Inv.tok(I:Inv X pins σ H s)(t:Nat):Inv X pins σ H { s with toks:=t }:=I.un (h':=s.heap) (t':=t) Un.refl I.hok
theorem Inv.kept{t':Nat}(I:Inv X pins σ H s)(k:∀b u,s.heap.get? b=some u→h'.get? b=some u):Inv X pins σ H { s with heap:=h',toks:=t' }:=I.un (Un.kept k) (I.hok.kept k)
theorem Inv.laid{a:Addr}{o:HO}{t':Nat}(I:Inv X pins σ H s)(k:∀b u,s.heap.get? b=some u→h'.get? b=some u)(hp:s.heap.objs.size≤a)(new:cv X.prog X.w (upd H a o) h' a o):
  Inv X pins σ (upd H a o) { s with heap:=h',toks:=t' }:=I.un (Un.laid k hp (I.hok.fresh hp)) (I.hok.laid k hp new)
theorem Inv.write{x e:Addr}{o:HO}{t':Nat}(I:Inv X pins σ H s)(mu:Mut (H x))(he:e=x∨H e=some (.own x))(k:∀b u,b≠e→s.heap.get? b=some u→h'.get? b=some u)(heo:∃u,h'.get? e=some u)
  (new:cv X.prog X.w (upd H x o) h' x o):Inv X pins σ (upd H x o) { s with heap:=h',toks:=t' }:=I.un (Un.write mu he k heo) (I.hok.write mu he k heo new)
theorem Inv.pins_of{pins':List (Addr×Obj)}(I:Inv X pins σ H s)(h:∀p∈pins',s.heap.get? p.1=some p.2∧H p.1=none∧p.1≠X.env.locals∧p.1∉X.fs∧∀v,p.2.data≠.cell v):Inv X pins' σ H s:=
 ⟨I.ok,I.os,I.bare,I.base,I.loc,I.cell,I.free,I.freeC,fun p hp=>(List.mem_append.mp hp).elim (fun z=>I.pin p (aa9 _ z)) (h p),I.hok,I.len⟩
theorem lR{N:List Str}(hN:N.Nodup){i j:Nat}{x:Str}(a:N[i]? = some x)(b:N[j]? = some x):i=j:=by
 obtain⟨h1,e1⟩:=List.getElem?_eq_some_iff.mp a
 obtain⟨h2,e2⟩:=List.getElem?_eq_some_iff.mp b
 exact(List.getElem_inj hN).mp (e1.trans e2.symm)
theorem uC{M:Model}{A:Around}{E:Value→Shared→Prop}{i:Nat}{x:Str}{v:V}{u:Value}{Q:Unit→Shared→Prop}(I:Inv X pins σ H s)(hN:X.N.Nodup)(hi:X.N[i]? = some x)(hx:Loc X.env.scope x)(r:RelV v u)
  (h:∀s',Inv X pins (σ.set i (some v)) H s'→(∃a,Heap.SameBut a s.heap s'.heap∧(a=X.env.locals∨X.env.cells.lookup x=some a))→Q () s') (hf:X.fn x=true∨X.env.scope.names.lookup x=some .local:=by first|exact .inl rfl|exact .inr rfl|assumption):wpAny M A (storeName X.env x u) Q E s:=by
 obtain⟨m,hn,hl⟩:=id I.loc
 have hcls:(X.env.scope.kind==.class||(X.env.scope.kind==.module&&X.env.locals != X.env.globals))=false:=by rw[I.ok.kind];rfl
 have hiσ:i<σ.length:=by rw[I.len];exact(List.getElem?_eq_some_iff.mp hi).1
 have cne:=I.cne
 have tracked:∀{a:Addr}{h':Heap},(∃o,s.heap.get? a=some o∧H a=none)→Heap.SameBut a s.heap h'→HOk X.prog X.w H h':=fun {a h'} ha hs b ob e=>by
  obtain⟨_,_,hfree⟩:=ha
  refine(I.hok b ob e).stay (fun c w' hc q=>(hs.2 c ?_).trans q) (fun _ q=>q) fun _ _ q=>q
  rintro rfl
  rcases hc with rfl|hc
  ·rw[hfree]at e;cases e
  ·rw[hfree]at hc;cases hc
 rcases hx with hk|hk
 ·refine wpAny_storeName_local hk hn (fun h' hn' hs=>?_) hcls
  obtain⟨oL,_,_,hoL,_⟩:=id hn
  refine h _ ⟨I.ok,I.os,I.bare,⟨fun b o e n hb hx=>?_,fun b o e n hb hx=>?_,I.base.free,fun b o e hx=>?_,I.base.tups,I.base.frzs,I.base.tbls⟩,⟨_,hn',fun j y v' e1 e2 e3=>?_⟩,fun y c e=>?_,I.free,I.freeC,fun p hp=>?_,tracked ⟨oL,hoL,I.free⟩ hs,by simpa using I.len⟩ ⟨_,hs,.inl rfl⟩
  ·exact(hs.2 b (aab (aal (iD e) I.ok.above))).trans (I.base.keep b o e n hb hx)
  ·obtain⟨sl,e1⟩:=I.base.slot b o e n hb hx
   exact⟨sl,(hs.2 b (aab (aal (iD e) I.ok.above))).trans e1⟩
  ·obtain⟨o',e1⟩:=I.base.there b o e hx
   exact⟨o',(hs.2 b (aab (aal (iD e) I.ok.above))).trans e1⟩
  ·by_cases hj:j=i
   ·subst hj
    rw[hi]at e1;cases e1
    rw[aao hiσ]at e2
    cases e2
    exact⟨u,r,.inl ⟨hk,by simp⟩⟩
   ·rw[aaa (Ne.symm hj)]at e2
    obtain⟨u',r',q⟩:=hl j y v' e1 e2 e3
    refine⟨u',r',?_⟩
    rcases q with ⟨k,e⟩|⟨k,c,e,z⟩
    ·refine .inl ⟨k,?_⟩
     have:y≠x:=fun e=>hj (lR hN e1 (e▸hi))
     simp[this,e]
    ·exact .inr ⟨k,c,e,z.sameBut hs (cne y c e)⟩
  ·obtain⟨w',z⟩:=I.cell y c e
   exact⟨w',z.sameBut hs (cne y c e)⟩
  ·obtain⟨e,n,ne,nf,d⟩:=I.pin p hp
   exact⟨(hs.2 p.1 ne).trans e,n,ne,nf,d⟩
 ·have hfn:X.fn x=true:=by
   rcases hf with z|z
   ·exact z
   ·rw[z]at hk;cases hk
  obtain⟨c,hc⟩:=I.ok.has x (.inl hk)
  obtain⟨w',z⟩:=I.cell x c hc
  refine wpAny_storeName_cell I.ok.kind hk hc z (fun h' hc' hs=>?_)
  obtain⟨oc,hoc,hocd⟩:=id z
  refine h { s with heap:=h' } ⟨I.ok,I.os,I.bare,⟨fun b o e n hb hx=>?_,fun b o e n hb hx=>?_,I.base.free,fun b o e hx=>?_,I.base.tups,I.base.frzs,I.base.tbls⟩,⟨m,hn.sameBut hs (Ne.symm (cne x c hc)),fun j y v' e1 e2 e3=>?_⟩,fun y c' e=>?_,I.free,I.freeC,fun p hp=>?_,tracked ⟨oc,hoc,I.freeC x c hc⟩ hs,by simpa using I.len⟩ ⟨c,hs,.inr hc⟩
  ·exact(hs.2 b (aab (aal (iD e) (I.ok.cab x c hfn hc)))).trans (I.base.keep b o e n hb hx)
  ·obtain⟨sl,e1⟩:=I.base.slot b o e n hb hx
   exact⟨sl,(hs.2 b (aab (aal (iD e) (I.ok.cab x c hfn hc)))).trans e1⟩
  ·obtain⟨o',e1⟩:=I.base.there b o e hx
   exact⟨o',(hs.2 b (aab (aal (iD e) (I.ok.cab x c hfn hc)))).trans e1⟩
  ·by_cases hj:j=i
   ·subst hj
    rw[hi]at e1;cases e1
    rw[aao hiσ]at e2
    cases e2
    exact⟨u,r,.inr ⟨.inl hk,c,hc,hc'⟩⟩
   ·rw[aaa (Ne.symm hj)]at e2
    obtain⟨u',r',q⟩:=hl j y v' e1 e2 e3
    refine⟨u',r',?_⟩
    rcases q with q|⟨k,c',e,z'⟩
    ·exact .inl q
    ·refine .inr ⟨k,c',e,z'.sameBut hs ?_⟩
     rintro rfl
     exact hj (lR hN e1 (I.ok.inj _ _ _ e hc▸hi))
  ·by_cases hcc:c'=c
   ·subst hcc;exact⟨_,hc'⟩
   ·obtain⟨w2,z2⟩:=I.cell y c' e
    exact⟨w2,z2.sameBut hs hcc⟩
  ·obtain⟨e,n,ne,nf,d⟩:=I.pin p hp
   refine⟨(hs.2 p.1 ?_).trans e,n,ne,nf,d⟩
   intro q
   rw[q,hoc]at e
   have q':oc=p.2:=Option.some.inj e
   exact d w' (by rw[←q'];exact hocd)
theorem gY{M:Model}{A:Around}{E:Value→Shared→Prop}{i:Nat}{x:Str}{v:V}{u:Value}{Q:Unit→Shared→Prop}(I:Inv X pins σ H s)(hN:X.N.Nodup)(hi:X.N[i]? = some x)(hx:Loc X.env.scope x)(r:RelV v u)
  (h:∀s',Inv X pins (σ.set i (some v)) H s'→Q () s') (hf:X.fn x=true∨X.env.scope.names.lookup x=some .local:=by first|exact .inl rfl|exact .inr rfl|assumption):wpAny M A (storeName X.env x u) Q E s:=
 uC I hN hi hx r (fun s' I' _=>h s' I') hf
theorem Inv.call'{s':Shared}{ch:List Addr}(I:Inv X pins σ H s)(ho:s'.os=s.os)(u:Un (frs X.stack) ch H H' s.heap s'.heap)(hok:HOk X.prog X.w H' s'.heap)(hg:AllBare s'.gens)
  (hch:∀b∈ch,(b∈X.ex∨X.s₀.heap.objs.size≤b)∧b≠X.env.locals∧(∀x c,X.env.cells.lookup x=some c→c≠b)∧∀p∈X.pn++pins,p.1≠b):Inv X pins σ H' s':=by
 obtain⟨h',g',d',t',o'⟩:=s'
 have e:o'=s.os:=ho
 subst e
 exact I.call (g':=g') (t':=t') (d':=d') u hok hg hch
end
abbrev XK:=Value→Option Addr→Hp→Prop
abbrev St:=List (Option V)
abbrev VK:=V→Hp→Prop
abbrev TE:=St→Hp→VK→Prop
abbrev TT:=St→Hp→(Bool→Hp→Prop)→Prop
abbrev TA:=St→Hp→(List V→Hp→Prop)→Prop
structure Ends where
 nx:St→Hp→Prop
 rt:VK
 bk:St→Hp→Prop:=fun _ _=>False
 ct:St→Hp→Prop:=fun _ _=>False
abbrev TS:=Ends→St→Hp→Prop
def EP(X:Cx)(pins:List (Addr×Obj))(σ:St)(Q:VK)(u:Value)(s':Shared):Prop:=∃v H',Inv X pins σ H' s'∧RelV v u∧Q v H'
def TP(X:Cx)(pins:List (Addr×Obj))(σ:St)(Q:Bool→Hp→Prop)(b:Bool)(s':Shared):Prop:=∃H',Inv X pins σ H' s'∧Q b H'
def AP(X:Cx)(pins:List (Addr×Obj))(σ:St)(Q:List V→Hp→Prop)(us:List Value)(s':Shared):Prop:=∃vs H',Inv X pins σ H' s'∧Vals vs us∧Q vs H'
def SP(X:Cx)(pins:List (Addr×Obj))(D:Ends)(f:Flow)(s':Shared):Prop:=
 match f with
 |.next=>∃σ' H',Inv X pins σ' H' s'∧D.nx σ' H'
 |.brk=>∃σ' H',Inv X pins σ' H' s'∧D.bk σ' H'
 |.cont=>∃σ' H',Inv X pins σ' H' s'∧D.ct σ' H'
 |.ret u=>∃v σ' H',Inv X pins σ' H' s'∧RelV v u∧D.rt v H'
def PE(X:Cx)(e:Expr)(t:TE):Prop:=
 ∀(pins:List (Addr×Obj))(s:Shared)(σ:St)(H:Hp)(Q:VK),Inv X pins σ H s→t σ H Q→wpAny (model X.prog X.w) X.A (eval e X.env) (EP X pins σ Q) X.xe s
def PT(X:Cx)(e:Expr)(t:TT):Prop:=
 ∀(pins:List (Addr×Obj))(s:Shared)(σ:St)(H:Hp)(Q:Bool→Hp→Prop),Inv X pins σ H s→t σ H Q→wpAny (model X.prog X.w) X.A (isTrue e X.env (eval e X.env)) (TP X pins σ Q) X.xe s
def PW(X:Cx)(e:Expr)(t:TT):Prop:=
 ∀(whole:Sem Value)(pins:List (Addr×Obj))(s:Shared)(σ:St)(H:Hp)(Q:Bool→Hp→Prop),Inv X pins σ H s→t σ H Q→wpAny (model X.prog X.w) X.A (isTrue e X.env whole) (TP X pins σ Q) X.xe s
theorem PW.pt{X:Cx}{e:Expr}{t:TT}(h:PW X e t):PT X e t:=h _
def PA(X:Cx)(es:List Expr)(t:TA):Prop:=
 ∀(pos:Pos)(pins:List (Addr×Obj))(s:Shared)(σ:St)(H:Hp)(Q:List V→Hp→Prop),Inv X pins σ H s→t σ H Q→wpAny (model X.prog X.w) X.A (spliced (backTo pos (starEach es X.env))) (AP X pins σ Q) X.xe s
def PS(X:Cx)(st:Stmt)(t:TS):Prop:=
 ∀(pins:List (Addr×Obj))(s:Shared)(σ:St)(H:Hp)(D:Ends),Inv X pins σ H s→t D σ H→wpAny (model X.prog X.w) X.A (exec st X.env) (SP X pins D) X.xe s
def PSs(X:Cx)(st:List Stmt)(t:TS):Prop:=
 ∀(pins:List (Addr×Obj))(s:Shared)(σ:St)(H:Hp)(D:Ends),Inv X pins σ H s→t D σ H→wpAny (model X.prog X.w) X.A (execs st X.env) (SP X pins D) X.xe s
theorem thn{α:Type}{t:Sem α}{Q Q':α→Shared→Prop}{M:Model}{A:Around}{E:Value→Shared→Prop}{s:Shared}(h:wpAny M A t Q E s)(hQ:∀a s,Q a s→Q' a s):wpAny M A t Q' E s:=wpAny_mono h hQ fun _ _ x=>x
section
variable {X:Cx}
def yX(i:Nat):TE:=fun σ H Q=>∃v,σ[i]? = some (some v)∧Q v H
def tC(v:V):TE:=fun _ H Q=>Q v H
theorem dJ {i:Nat} {x:Str} {pos:Pos} (hN:X.N[i]? = some x) (hv:Vis X.env.scope x) (hd:(x==("__debug__":Str))=false:=by decide) (hcd:(x==("__classdict__":Str))=false:=by decide):PE X (.Name x pos) (yX i):=by
 intro pins s σ H Q I h
 obtain⟨v,e,h⟩:=h
 obtain⟨m,hn,hl⟩:=I.loc
 obtain⟨u,r,l⟩:=hl i x v hN e hv
 have fin:EP X pins σ Q u s:=⟨v,H,I,r,h⟩
 rcases l with ⟨hk,hm⟩|⟨hk,c,hc,hcell⟩
 ·exact wpAny_Name (wpAny_loadName_local I.ok.kind hk hn hm fin) hd
 ·rcases hk with hk|hk
  ·exact wpAny_Name (wpAny_loadName_cell I.ok.kind hk hc hcell fin) hd
  ·exact wpAny_Name (wpAny_loadName_free I.ok.kind hk hc hcell fin hcd) hd
theorem rK{i j pos}:PE X (.Constant (.int i) j pos) (tC (.int i)):=fun _ _ _ H _ I h=>wpAny_Constant_int ⟨.int i,H,I.tok _,⟨_,rfl⟩,h⟩
theorem EM{b j pos}:PE X (.Constant (.bool b) j pos) (tC (.bl b)):=fun _ _ _ H _ I h=>Constant_bool ⟨.bl b,H,I,rfl,h⟩
theorem Cq{j pos}:PE X (.Constant .none j pos) (tC .non):=fun _ _ _ H _ I h=>Constant_none ⟨.non,H,I,rfl,h⟩
theorem Cn{x j pos}:PE X (.Constant (.str x) j pos) (tC (.str x)):=fun _ _ _ H _ I h=>Calls.Constant_str ⟨.str x,H,I.tok _,⟨_,rfl⟩,h⟩
def Gl(X:Cx)(x:Str):Prop:=X.env.kindOf x=some .globalImplicit
theorem jw{E:Value→Shared→Prop}{pins:List (Addr×Obj)}{s:Shared}{σ:St}{H:Hp}{x:Str}{u:Value}{pos:Pos}{Q:Value→Shared→Prop}(I:Inv X pins σ H s)(hg:Gl X x)(hm:X.mg x=some u)(h:Q u s)
  (hd:(x==("__debug__":Str))=false:=by decide):wpAny (model X.prog X.w) X.A (eval (.Name x pos) X.env) Q E s:=
 Calls.Name_function_global I.ok.kind hg (Calls.loadGlobal_global (by rw[I.ok.glob];exact I.mod.glob.keeps I.bk) hm h) hd
theorem hJ{E:Value→Shared→Prop}{pins:List (Addr×Obj)}{s:Shared}{σ:St}{H:Hp}{x:Str}{u:Value}{pos:Pos}{Q:Value→Shared→Prop}(I:Inv X pins σ H s)(hg:Gl X x)(hm:X.mg x=none)(hv:bootBuiltins x=some u)(h:Q u s)
  (hn:x≠"__name__":=by decide) (hd:(x==("__debug__":Str))=false:=by decide):wpAny (model X.prog X.w) X.A (eval (.Name x pos) X.env) Q E s:=by
 obtain⟨mb,h1,h2⟩:=I.mod.blt
 exact Calls.Name_function_global I.ok.kind hg (Calls.loadGlobal_builtin (by rw[I.ok.glob];exact I.mod.glob.keeps I.bk) hm (by rw[I.ok.blt];exact h1.keeps I.bk) ((h2 x hn).trans hv) h) hd
theorem tw {x:Str} {v:V} {u:Value} {pos:Pos} (hg:Gl X x) (hm:X.mg x=some u) (r:RelV v u) (hd:(x==("__debug__":Str))=false:=by decide):PE X (.Name x pos) (tC v):=
 fun _ _ _ H _ I h=>jw I hg hm ⟨v,H,I,r,h⟩ hd
theorem tD {x:Str} {v:V} {u:Value} {pos:Pos} (hg:Gl X x) (hm:X.mg x=none) (hv:bootBuiltins x=some u) (r:RelV v u) (hn:x≠"__name__":=by decide) (hd:(x==("__debug__":Str))=false:=by decide):PE X (.Name x pos) (tC v):=
 fun _ _ _ H _ I h=>hJ I hg hm hv ⟨v,H,I,r,h⟩ hn hd
variable {a b:Expr}{ta tb:TE}{pos:Pos}
def PC(X:Cx)(op:CmpOp)(a b:Expr)(t:TE):Prop:=
 ∀(pins:List (Addr×Obj))(s:Shared)(σ:St)(H:Hp)(Q:VK),Inv X pins σ H s→t σ H Q →
  wpAny (model X.prog X.w) X.A (eval a X.env) (fun v s₁=>wpAny (model X.prog X.w) X.A (eval b X.env) (fun u s₂=>wpAny (model X.prog X.w) X.A (compareOp op v u) (EP X pins σ Q) X.xe s₂) X.xe s₁) X.xe s
def tB(t:TE):TT:=fun σ H Q=>t σ H fun x H1=>∃c,x=.bl c∧Q c H1
theorem wG{op:CmpOp}{t:TE}(h:PC X op a b t)(h1:behindInMarks op b=false:=by first|exact nobehind _ (by decide) (by decide)|rfl):PT X (.Compare a [op] [b] pos) (tB t):=by
 intro pins s σ H Q I hw
 refine wpAny_isTrue_Compare1 (thn (h pins s σ H _ I hw) fun v s1 h1=>thn h1 fun u s2 h2=>thn h2 fun c s3 ⟨x,H1,I1,r1,q1⟩=>?_) h1
 obtain⟨d,rfl,q⟩:=q1
 cases r1
 exact wpAny_truthy_bool ⟨H1,I1,q⟩
theorem Cb{e:Expr}{t:TE}(h:PE X e t)(he:∀whole,isTrue e X.env whole=(do let v ←whole;standAt e.pos;holding [v] (truthy v)):=by intro _;rfl):PT X e (tB t):=by
 intro pins s σ H Q I hw
 refine isTrue_plain (thn (h pins s σ H _ I hw) fun v s1 ⟨x,H1,I1,r1,q1⟩=>?_) (he _)
 obtain⟨d,rfl,q⟩:=q1
 cases r1
 exact wpAny_truthy_bool ⟨H1,I1,q⟩
variable {tA tB':TT}{rest:List Expr}
def kq(t u:TT):TT:=fun σ H Q=>t σ H fun c H1=>if c=true then u σ H1 Q else Q false H1
def tOr(t u:TT):TT:=fun σ H Q=>t σ H fun c H1=>if c=true then Q true H1 else u σ H1 Q
def dm(t:TT):TT:=fun σ H Q=>t σ H fun c H1=>Q (!c) H1
theorem zB(ha:PT X a tA):PW X (.BoolOp .And [a] pos) tA:=by
 intro wh pins s σ H Q I h
 refine isTrue_and (thn (ha pins s σ H Q I h) fun c s1 e=>?_)
 cases c with
 |true=>exact isTrue_and_nil e
 |false=>exact e
theorem wF(ha:PT X a tA):PW X (.BoolOp .Or [a] pos) tA:=by
 intro wh pins s σ H Q I h
 refine isTrue_or (thn (ha pins s σ H Q I h) fun c s1 e=>?_)
 cases c with
 |false=>exact isTrue_or_nil e
 |true=>exact e
theorem B9(ha:PT X a tA)(hb:PW X (.BoolOp .And (b::rest) pos) tB'):PW X (.BoolOp .And (a::b::rest) pos) (kq tA tB'):=by
 intro wh pins s σ H Q I h
 refine isTrue_and (thn (ha pins s σ H _ I h) fun c s1 ⟨H1,I1,q1⟩=>?_)
 cases c with
 |true=>exact hb wh pins s1 σ H1 Q I1 q1
 |false=>exact⟨H1,I1,q1⟩
theorem A8(ha:PT X a tA)(hb:PW X (.BoolOp .Or (b::rest) pos) tB'):PW X (.BoolOp .Or (a::b::rest) pos) (tOr tA tB'):=by
 intro wh pins s σ H Q I h
 refine isTrue_or (thn (ha pins s σ H _ I h) fun c s1 ⟨H1,I1,q1⟩=>?_)
 cases c with
 |true=>exact⟨H1,I1,q1⟩
 |false=>exact hb wh pins s1 σ H1 Q I1 q1
theorem Cc(ha:PT X a tA):PT X (.UnaryOp .Not a pos) (dm tA):=by
 intro pins s σ H Q I h
 exact isTrue_not (ha pins s σ H (fun c H1=>Q (!c) H1) I h)
def Ei(ta tb:TE):TE:=fun σ H Q=>ta σ H fun x H1=>∃c,x=.bl c∧if c=true then tb σ H1 Q else Q (.bl false) H1
def Ec(ta:TE):TE:=fun σ H Q=>ta σ H fun x H1=>∃c,x=.bl c∧Q (.bl (!c)) H1
theorem Co{op}{t:TE}(h:PE X a t):PE X (.BoolOp op [a] pos) t:=fun pins s σ H Q I hw=>BoolOp_one (h pins s σ H Q I hw)
theorem Ct(ha:PE X a ta)(hb:PE X (.BoolOp .And (b::rest) pos) tb):PE X (.BoolOp .And (a::b::rest) pos) (Ei ta tb):=by
 intro pins s σ H Q I h
 refine BoolOp_and (thn (ha pins s σ H _ I h) fun v s1 ⟨x,H1,I1,r1,q1⟩=>?_)
 obtain⟨c,rfl,q1⟩:=q1
 cases r1
 refine wpAny_truthy_bool ?_
 cases c with
 |true=>exact hb pins s1 σ H1 Q I1 q1
 |false=>exact⟨.bl false,H1,I1,rfl,q1⟩
theorem Cp(ha:PE X a ta):PE X (.UnaryOp .Not a pos) (Ec ta):=by
 intro pins s σ H Q I h
 refine UnaryOp_ (thn (ha pins s σ H _ I h) fun v s1 ⟨x,H1,I1,r1,q1⟩=>?_)
 obtain⟨c,rfl,q1⟩:=q1
 cases r1
 exact not_of (wpAny_truthy_bool ⟨.bl (!c),H1,I1,rfl,q1⟩)
end
def SqL(K:aT)(H:Hp)(a:Addr)(xs:List V):Prop:=
 Rd H a (.lst xs) ∨
  ∃(o:Obj) (its:Array Value) (n:Nat),K.lookup a=some o∧o.cls=.type "list"∧o.dict=none∧o.data=.seq its n∧its.size≤sizeLine∧Vals xs its.toList
def SqT(K:aT)(H:Hp)(a:Addr)(xs:List V):Prop:=
 Rd H a (.tup xs) ∨
  ∃(o:Obj) (its:Array Value) (n:Nat),K.lookup a=some o∧o.cls=.type "tuple"∧o.data=.seq its n∧its.size≤sizeLine∧Vals xs its.toList
def Hi:Value→Option V
 |.none=>some .non
 |.bool b=>some (.bl b)
 |.int i _=>some (.int i)
 |.str x _=>some (.str x)
 |.bytes b _=>some (.byt b)
 |.float b _=>some (.flt b)
 |.ref a=>some (.ref a)
 |.type n=>some (.ty n)
 |_=>none
theorem RelV.abs{x:V}{u:Value}(r:RelV x u):Hi u=some x:=by
 cases x with
 |non=>cases r;rfl
 |bl _=>cases r;rfl
 |int _=>obtain⟨t,rfl⟩:=r;rfl
 |str _=>obtain⟨t,rfl⟩:=r;rfl
 |byt _=>obtain⟨t,rfl⟩:=r;rfl
 |flt _=>obtain⟨t,rfl⟩:=r;rfl
 |ref _=>cases r;rfl
 |ty _=>cases r;rfl
theorem RelV.inj{x y:V}{u:Value}(r:RelV x u)(q:RelV y u):x=y:=Option.some.inj (r.abs.symm.trans q.abs)
theorem Vals.inj:∀{xs ys:List V}{us:List Value},Vals xs us→Vals ys us→xs=ys
 |_,_,_,.nil,.nil=>rfl
 |_,_,_,.cons r t,.cons r' t'=>by rw[r.inj r',Vals.inj t t']
section
variable {X:Cx}{pins:List (Addr×Obj)}{σ:St}{H:Hp}{s:Shared}{a:Addr}{xs ys:List V}
theorem SqL.of{K:aT}(h:H a=some (.lst xs)):SqL K H a xs:=.inl (.inl h)
theorem SqT.of{K:aT}(h:H a=some (.tup xs)):SqT K H a xs:=.inl (.inl h)
theorem Inv.list(I:Inv X pins σ H s)(h:SqL X.K H a xs):∃its:List Value,Vals xs its∧PlainL s.heap a its.toArray∧xs.length≤sizeLine:=by
 rcases h with h|⟨o,its,n,hk,hc,hd,hs,hz,r⟩
 ·obtain⟨z,its,n,r,e⟩:=h.ok I.hok
  exact⟨its,r,⟨_,n,e,rfl,rfl,rfl⟩,z⟩
 ·refine⟨its.toList,r,⟨o,n,I.kIn a o hk,hc,hd,by simpa using hs⟩,?_⟩
  have e:=r.length
  simp only[aag]at e
  omega
theorem Inv.tuple(I:Inv X pins σ H s)(h:SqT X.K H a xs):∃its:List Value,Vals xs its∧IsTup s.heap a its.toArray∧xs.length≤sizeLine:=by
 rcases h with h|⟨o,its,n,hk,hc,hs,hz,r⟩
 ·obtain⟨z,its,r,p⟩:=h.ok I.hok
  exact⟨its,r,p,z⟩
 ·refine⟨its.toList,r,⟨o,I.kIn a o hk,hc,n,by simpa using hs⟩,?_⟩
  have e:=r.length
  simp only[aag]at e
  omega
theorem Inv.list_inj(I:Inv X pins σ H s)(h:SqL X.K H a xs)(h':SqL X.K H a ys):xs=ys:=by
 obtain⟨its,r,⟨o,n,e,_,_,d⟩,_⟩:=I.list h
 obtain⟨its',r',⟨o',n',e',_,_,d'⟩,_⟩:=I.list h'
 rw[e]at e';cases e'
 rw[d]at d'
 injection d' with d1 _
 have:its=its':=by simpa using congrArg Array.toList d1
 subst this
 exact r.inj r'
theorem Inv.tuple_inj(I:Inv X pins σ H s)(h:SqT X.K H a xs)(h':SqT X.K H a ys):xs=ys:=by
 obtain⟨its,r,⟨o,e,_,n,d⟩,_⟩:=I.tuple h
 obtain⟨its',r',⟨o',e',_,n',d'⟩,_⟩:=I.tuple h'
 rw[e]at e';cases e'
 rw[d]at d'
 injection d' with d1 _
 have:its=its':=by simpa using congrArg Array.toList d1
 subst this
 exact r.inj r'
end
abbrev Cx.wish(X:Cx)(E:Value→Shared→Prop):Cx:={ X with xe:=E }
abbrev Cx.nox(X:Cx):Cx:=X.wish fun _ _=>False
theorem Cx.Ok.wish{X:Cx}(ok:X.Ok)(E:Value→Shared→Prop):(X.wish E).Ok:=
 ⟨ok.mod,ok.kind,ok.glob,ok.blt,ok.above,ok.inj,ok.has,ok.cab,ok.hd,ok.frames,ok.stk,ok.exf,ok.bs,ok.bsz,ok.noex,ok.exfs,ok.funs,ok.frf⟩
theorem Cx.Ok.unwish{X:Cx}{E:Value→Shared→Prop}(ok:(X.wish E).Ok):X.Ok:=
 ⟨ok.mod,ok.kind,ok.glob,ok.blt,ok.above,ok.inj,ok.has,ok.cab,ok.hd,ok.frames,ok.stk,ok.exf,ok.bs,ok.bsz,ok.noex,ok.exfs,ok.funs,ok.frf⟩
section
variable {X:Cx}{pins:List (Addr×Obj)}{σ:St}{H:Hp}{s:Shared}{E:Value→Shared→Prop}
theorem Inv.wish(I:Inv X pins σ H s)(E:Value→Shared→Prop):Inv (X.wish E) pins σ H s:=⟨I.ok.wish E,I.os,I.bare,I.base,I.loc,I.cell,I.free,I.freeC,I.pin,I.hok,I.len⟩
theorem Inv.unwish(I:Inv (X.wish E) pins σ H s):Inv X pins σ H s:=⟨I.ok.unwish,I.os,I.bare,I.base,I.loc,I.cell,I.free,I.freeC,I.pin,I.hok,I.len⟩
theorem SP.unwish{D:Ends}{f:Flow}{s':Shared}(h:SP (X.wish E) pins D f s'):SP X pins D f s':=by
 cases f with
 |next=>obtain⟨σ',H',I,q⟩:=h;exact⟨σ',H',I.unwish,q⟩
 |brk=>obtain⟨σ',H',I,q⟩:=h;exact⟨σ',H',I.unwish,q⟩
 |cont=>obtain⟨σ',H',I,q⟩:=h;exact⟨σ',H',I.unwish,q⟩
 |ret u=>obtain⟨v,σ',H',I,r,q⟩:=h;exact⟨v,σ',H',I.unwish,r,q⟩
theorem PSs.nox{st:List Stmt}{t:TS}(h:PSs X.nox st t):PSs X st t:=fun pins s σ H D I hw=>
 wpAny_mono (h pins s σ H D (I.wish _) hw) (fun _ _ q=>q.unwish) fun _ _ z=>False.elim z
end
section
variable {X:Cx}{st:Stmt}{rest:List Stmt}{t u:TS}{e:Expr}{te:TE}{pos:Pos}
def Ed:TS:=fun D σ H=>D.nx σ H
def Ea(t u:TS):TS:=fun D σ H=>t { D with nx:=u D } σ H
theorem zD:PSs X [] Ed:=fun _ _ σ H _ I h=>wpAny_execs_nil ⟨σ,H,I,h⟩
theorem jn(h1:PS X st t)(h2:PSs X rest u):PSs X (st::rest) (Ea t u):=by
 intro pins s σ H D I h
 refine wpAny_execs_cons (thn (h1 pins s σ H { D with nx:=u D } I h) fun f s1 q=>?_)
 cases f with
 |next=>
  obtain⟨σ',H',I',q⟩:=q
  exact h2 pins s1 σ' H' D I' q
 |ret v=>exact q
 |brk=>exact q
 |cont=>exact q
theorem jm(h1:PS X st t):PSs X [st] t:=by
 intro pins s σ H D I h
 refine wpAny_execs_cons (thn (h1 pins s σ H D I h) fun f s1 q=>?_)
 cases f with
 |next=>exact wpAny_execs_nil q
 |ret v=>exact q
 |brk=>exact q
 |cont=>exact q
theorem Inv.quiet{pins:List (Addr×Obj)}{σ:St}{H:Hp}{s:Shared}(I:Inv X pins σ H s):interactive X.env=false:=by simp[interactive,I.ok.kind]
def Ef(te:TE):TS:=fun D σ H=>te σ H fun _ H1=>D.nx σ H1
theorem jo(he:PE X e te)(hs:swapsWith e none pos.line X.env=pure false:=by rfl):PS X (.Expr e pos) (Ef te):=by
 intro pins s σ H D I h
 exact wpAny_Expr_any (thn (he pins s σ H _ I h) fun v s1 ⟨x,H1,I1,r1,q1⟩=>⟨σ,H1,I1,q1⟩) I.quiet hs
def Ga(te:TE):TS:=fun D σ H=>te σ H D.rt
theorem rE(he:PE X e te):PS X (.Return (some e) pos) (Ga te):=by
 intro pins s σ H D I h
 exact wpAny_Return_some (thn (he pins s σ H _ I h) fun v s1 ⟨x,H1,I1,r1,q1⟩=>⟨x,σ,H1,I1,r1,q1⟩)
def Ge(c:TT)(t u:TS):TS:=fun D σ H=>c σ H fun b H1=>if b=true then t D σ H1 else u D σ H1
theorem A9{c:Expr}{a b:List Stmt}{tc:TT}(hc:PT X c tc)(ha:PSs X a t)(hb:PSs X b u):PS X (.If c a b pos) (Ge tc t u):=by
 intro pins s σ H D I h
 refine wpAny_If (thn (hc pins s σ H _ I h) fun d s1 ⟨H1,I1,q1⟩=>?_)
 cases d with
 |true=>exact ha pins s1 σ H1 D I1 q1
 |false=>exact hb pins s1 σ H1 D I1 q1
end
abbrev TG:=V→St→Hp→(St→Hp→Prop)→Prop
abbrev TGs:=List V→St→Hp→(St→Hp→Prop)→Prop
def PG(X:Cx)(target:Expr)(t:TG):Prop:=
 ∀(pins:List (Addr×Obj))(s:Shared)(σ:St)(H:Hp)(v:V)(u:Value)(Q:St→Hp→Prop),Inv X pins σ H s→RelV v u→t v σ H Q →
  wpAny (model X.prog X.w) X.A (assign target X.env u) (fun _ s'=>∃σ' H',Inv X pins σ' H' s'∧Q σ' H') X.xe s
def PGs(X:Cx)(ts:List Expr)(t:TGs):Prop:=
 ∀(pins:List (Addr×Obj))(s:Shared)(σ:St)(H:Hp)(vs:List V)(us:List Value)(Q:St→Hp→Prop),Inv X pins σ H s→Vals vs us→t vs σ H Q →
  wpAny (model X.prog X.w) X.A (assignInOrder ((assignEach ts X.env).map (·.2)) us) (fun _ s'=>∃σ' H',Inv X pins σ' H' s'∧Q σ' H') X.xe s
section
variable {X:Cx}{pos:Pos}
def Bg(i:Nat):TG:=fun v σ H Q=>Q (σ.set i (some v)) H
theorem kM{i:Nat}{x:Str}(hN:X.N.Nodup)(hi:X.N[i]? = some x)(hx:Loc X.env.scope x)(hf:X.fn x=true∨X.env.scope.names.lookup x=some .local:=by first|exact .inl rfl|exact .inr rfl|assumption):PG X (.Name x pos) (Bg i):=by
 intro pins s σ H v u Q I r h
 exact wpAny_assign_Name (gY I hN hi hx r (fun s' I'=>⟨_,H,I',h⟩) hf)
def GY:TGs:=fun vs σ H Q=>vs=[]∧Q σ H
def E8(t:TG)(u:TGs):TGs:=fun vs σ H Q=>∃v r,vs=v::r∧t v σ H fun σ' H'=>u r σ' H' Q
theorem zI:PGs X [] GY:=by
 intro pins s σ H vs us Q I r h
 obtain⟨e,h⟩:=h
 subst e
 cases r
 exact assignInOrder_nil ⟨σ,H,I,h⟩
theorem wL{e:Expr}{es:List Expr}{t:TG}{u:TGs}(h1:PG X e t)(h2:PGs X es u)
  (hs:(assignEach (e::es) X.env).map (·.2)=assign e X.env::(assignEach es X.env).map (·.2):=by rfl):PGs X (e::es) (E8 t u):=by
 intro pins s σ H vs us Q I r h
 obtain⟨v,vr,e1,h⟩:=h
 subst e1
 cases r with
 |cons r rr=>
  rw[hs]
  refine assignInOrder_cons (thn (h1 pins s σ H _ _ _ I r h) fun _ s1 ⟨σ1,H1,I1,q1⟩=>?_)
  exact h2 pins s1 σ1 H1 _ _ Q I1 rr q1
def GX(K:aT)(n:Nat)(t:TGs):TG:=fun v σ H Q=>∃a xs,v=.ref a∧SqT K H a xs∧xs.length=n∧t xs σ H Q
theorem Cj{es:List Expr}{k:Nat}{t:TGs}{n:Nat}(hc:X.calm=true)(h:PGs X es t)
  (hn:(assignEach es X.env).length=n:=by rfl) (hst:(assignEach es X.env).findIdx? (·.1)=none:=by rfl):PG X (.Tuple es k pos) (GX X.K n t):=by
 intro pins s σ H v u Q I r hw
 obtain⟨a,xs,e1,hq,hl,hw⟩:=hw
 subst e1
 cases r
 obtain⟨its,rv,ht,hz⟩:=I.tuple hq
 refine assign_Tuple_tuple (I.ok.hd hc) ht (by simp[hn,←hl,rv.length]) hst fun h' hx=>?_
 have I1:Inv X pins σ H { s with heap:=h' }:=I.kept (t':=s.toks) fun b o e=>hx b o (aab (iD e)) e
 exact h pins _ σ H xs _ Q I1 (by simpa using rv) hw
def Gj(te:TE)(g:TG):TS:=fun D σ H=>te σ H fun x H1=>g x σ H1 D.nx
theorem oN{i:Nat}{x:Str}{e:Expr}{te:TE}{pos':Pos}(hN:X.N.Nodup)(hi:X.N[i]? = some x)(hx:Loc X.env.scope x)(he:PE X e te)(hs:swapsWith e (some (.Name x pos')) pos.line X.env=pure false:=by rfl)(hf:X.fn x=true∨X.env.scope.names.lookup x=some .local:=by first|exact .inl rfl|exact .inr rfl|assumption):
  PS X (.Assign [.Name x pos'] e pos) (Gj te (Bg i)):=by
 intro pins s σ H D I h
 refine wpAny_Assign_Name (thn (he pins s σ H _ I h) fun v s1 ⟨y,H1,I1,r1,q1⟩=>?_) hs
 exact gY I1 hN hi hx r1 (fun s2 I2=>⟨_,H1,I2,q1⟩) hf
def Gb(i j:Nat)(ta:TA):TS:=fun D σ H=>ta σ H fun vs H1=>∃v w,vs=[v,w]∧D.nx ((σ.set i (some v)).set j (some w)) H1
theorem Cd{i j:Nat}{x y:Str}{a b:Expr}{ta:TA}{px py pt:Pos}{kt k2 pt2}(hc:X.calm=true)(hN:X.N.Nodup)(hi:X.N[i]? = some x)(hj:X.N[j]? = some y)(hij:i≠j)
  (hx:X.env.scope.names.lookup x=some .local) (hy:X.env.scope.names.lookup y=some .local) (ha:PA X [a,b] ta)
  (hw:swappedStores [.Tuple [.Name x px,.Name y py] kt pt] (.Tuple [a,b] k2 pt2) X.env=pure (some [x,y]))
  (hs:swapsWithSole [.Tuple [.Name x px,.Name y py] kt pt] (.Tuple [a,b] k2 pt2) pos.line X.env=pure false:=by rfl):
  PS X (.Assign [.Tuple [.Name x px,.Name y py] kt pt] (.Tuple [a,b] k2 pt2) pos) (Gb i j ta):=by
 intro pins s σ H D I h
 rw[exec_Assign_arm]
 refine wpAny_bind (wpAny_standAt ?_)
 rw[hs]
 refine wpAny_bind (wpAny_pure ?_)
 rw[if_neg (by decide)]
 refine wpAny_bind (Tuple_ (thn (ha _ pins s σ H _ I h) fun us s1 ⟨vs,H1,I1,r1,q1⟩=>?_))
 obtain⟨v,w,e1,q1⟩:=q1
 subst e1
 obtain⟨u1,u2,rfl,rv,rw'⟩:∃u1 u2,us=[u1,u2]∧RelV v u1∧RelV w u2:=by
  cases r1 with
  |cons p q=>
   cases q with
   |cons p' q'=>
    cases q'
    exact⟨_,_,rfl,p,p'⟩
 refine wpAny_newObj_type ?_ (by show 2≤sizeLine;decide)
 have I2:Inv X pins σ H1 { s1 with heap:=s1.heap.push { cls:=.type "tuple",data:=.seq [u1,u2].toArray } }:=I1.kept (t':=s1.toks) fun b o e=>bY _ e
 rw[hw]
 refine wpAny_bind (wpAny_pure ?_)
 show wpAny (model X.prog X.w) X.A (do rule "assign.swapped-stores";let items ←unpackItems (.ref s1.heap.objs.size) 2 none;assignInOrder [fun v=>bindName X.env y v,fun v=>bindName X.env x v] items.reverse;pure Flow.next) _ _ _
 refine wpAny_bind (wpAny_rule (wpAny_bind (unpackItems_tuple (items:=#[u1,u2]) (I.ok.hd hc) (IsTup.new s1.heap _) fun h' hx'=>?_)))
 have I3:=I2.kept (h':=h') (t':=s1.toks) fun b o e=>hx' b o (aab (iD e)) e
 show wpAny _ _ (assignInOrder [fun v=>bindName X.env y v,fun v=>bindName X.env x v] [u2,u1] >>= fun _=>pure Flow.next) _ _ _
 refine wpAny_bind (assignInOrder_cons (wpAny_bindName (gY I3 hN hj (.inl hy) rw' (fun s2 I4=>?_) (.inr hy))))
 refine assignInOrder_cons (wpAny_bindName (gY I4 hN hi (.inl hx) rv (fun s3 I5=>assignInOrder_nil (wpAny_pure ?_)) (.inr hx)))
 rw[List.set_comm _ _ (Ne.symm hij)]at I5
 exact⟨_,H1,I5,q1⟩
end
section
variable {X:Cx}{pos:Pos}
def Bu(c:TT)(tb:TS):TS:=fun D σ H=>∃W:Nat→St→Hp→Prop,(∃m,W m σ H)∧∀m σ H,W m σ H →
 c σ H fun b H1=>if b=true then ∃N:St→Hp→Prop,(∀σ' H',N σ' H'→∃m',m'<m∧W m' σ' H')∧tb { D with nx:=N,ct:=N,bk:=D.nx } σ H1 else D.nx σ H1
theorem wI{c:Expr}{body:List Stmt}{tc:TT}{tb:TS}(hp:PassesOwn (model X.prog X.w) X.A X.env X.xe)(hc:PT X c tc)(hb:PSs X body tb):PS X (.While c body [] pos) (Bu tc tb):=by
 intro pins s σ H D I h
 obtain⟨W,⟨m0,w0⟩,turn⟩:=h
 refine wpAny_While (codeAny_whileLoop (fun n s'=>∃σ' H',Inv X pins σ' H' s'∧W n σ' H') ?_ m0 ⟨σ,H,I,w0⟩)
 rintro n s1 ⟨σ1,H1,I1,w1⟩
 refine wpAny_passesOwn hp (thn (hc pins s1 σ1 H1 _ I1 (turn n σ1 H1 w1)) fun b s2 ⟨H2,I2,q2⟩=>?_)
 cases b with
 |true=>
  obtain⟨N,hN,q2⟩:=q2
  rw[if_pos rfl]
  refine wpAny_passesOwn hp (thn (hb pins s2 σ1 H2 _ I2 q2) fun f s3 q3=>?_)
  cases f with
  |next=>
   obtain⟨σ3,H3,I3,n3⟩:=q3
   obtain⟨m',hm,w3⟩:=hN σ3 H3 n3
   exact⟨m',hm,σ3,H3,I3,w3⟩
  |cont=>
   obtain⟨σ3,H3,I3,n3⟩:=q3
   obtain⟨m',hm,w3⟩:=hN σ3 H3 n3
   exact⟨m',hm,σ3,H3,I3,w3⟩
  |brk=>exact q3
  |ret v=>exact q3
 |false=>
  rw[if_neg aa7]
  exact wpAny_execs_nil ⟨σ1,H2,I2,q2⟩
end
structure It where
 go:Nat→Hp→Prop
 yld:Nat→Hp→V→Hp→Prop
 stop:Nat→Hp→Prop
def fG(X:Cx)(pins:List (Addr×Obj))(H:Hp)(b:Addr):Prop:=
 H b=none∧b≠X.env.locals∧b∉X.fs∧(b∈X.ex∨X.s₀.heap.objs.size≤b)∧(∀x c,X.env.cells.lookup x=some c→c≠b)∧∀p∈X.pn++pins,p.1≠b
theorem Inv.fpOk{X:Cx}{pins:List (Addr×Obj)}{σ:St}{H H':Hp}{s:Shared}{b:Addr}(I:Inv X pins σ H s)(hb:s.heap.objs.size≤b)(hn:H' b=none):fG X pins H' b:=by
 refine⟨hn,Nat.ne_of_gt (aal I.lt hb),I.nofs hb,.inr (iS I.sz hb),fun x c e z=>?_,fun p hp z=>?_⟩
 ·obtain⟨v,q⟩:=I.cell x c e
  exact absurd (aal q.lt (by rw[z];exact hb)) (aaR _)
 ·exact absurd (aal (iD (I.pin p hp).1) (by rw[z];exact hb)) (aaR _)
structure Turn (P:Program) (w:World) (K:aT) (tg:Expr) (J:It) (fp:List Addr) (it:Addr) (tn:Nat→Heap→Prop):Prop where
 mem:it∈fp
 obj:∀i h,tn i h→∀b∈fp,∃o,h.get? b=some o∧∀v,o.data≠.cell v
 keep:∀i h h',tn i h→(∀b∈fp,∀o,h.get? b=some o→h'.get? b=some o)→tn i h'
 item:∀(X:Cx),X.prog=P→X.w=w→X.K=K→X.calm=true→∀(i:Nat)(pins:List (Addr×Obj))(s:Shared)(σ:St)(H:Hp)(E:Value→Shared→Prop),Inv X pins σ H s→(∀b∈fp,fG X pins H b)→tn i s.heap→J.go i H →
  wpAny (model P w) X.A (pyNext (.ref it)) (fun r s1=>∃u,r=some u ∧
   wpAny (model P w) X.A (letOwnedTupleGo tg (.ref it) u) (fun _ s2=>∃x H',Inv X pins σ H' s2∧RelV x u∧J.yld i H x H'∧tn (i+1) s2.heap∧∀b∈fp,H' b=none) E s1) E s
 done:∀(X:Cx),X.prog=P→X.w=w→X.K=K→X.calm=true→∀(i:Nat)(pins:List (Addr×Obj))(s:Shared)(σ:St)(H:Hp)(E:Value→Shared→Prop),Inv X pins σ H s→(∀b∈fp,fG X pins H b)→tn i s.heap→J.stop i H →
  wpAny (model P w) X.A (pyNext (.ref it)) (fun r s1=>r=none∧Inv X pins σ H s1) E s
 self:∀(A:Around)(i:Nat)(s:Shared)(Q:Value→Shared→Prop)(E:Value→Shared→Prop),tn i s.heap→Q (.ref it) s→wpAny (model P w) A (pyIter (.ref it)) Q E s
abbrev TI:=St→Hp→(It→Hp→Prop)→Prop
def PIE(X:Cx)(pins:List (Addr×Obj))(σ:St)(tg:Expr)(R:It→Hp→Prop)(itv:Value)(s2:Shared):Prop:=
 ∃(it:Addr)(fp:List Addr)(tn:Nat→Heap→Prop)(J:It)(H':Hp),itv=.ref it∧Inv X pins σ H' s2∧Turn X.prog X.w X.K tg J fp it tn∧tn 0 s2.heap∧(∀b∈fp,fG X pins H' b)∧R J H'
def PI(X:Cx)(tg iter:Expr)(wi:TI):Prop:=
 ∀(pins:List (Addr×Obj))(s:Shared)(σ:St)(H:Hp)(R:It→Hp→Prop),Inv X pins σ H s→wi σ H R →
  wpAny (model X.prog X.w) X.A (eval iter X.env) (fun v s1=>wpAny (model X.prog X.w) X.A (pyIter v) (PIE X pins σ tg R) X.xe s1) X.xe s
theorem qA{M:Model}{A:Around}{E:Value→Shared→Prop}{s:Shared}{tg:Expr}{it:Addr}{u:Value}{o:Obj}{n:String}{vs:Array Value}{Q:Unit→Shared→Prop}(ho:s.heap.get? it=some o)(hc:o.cls=.type n)(hd:o.data=.fields vs)
  (hn:["enumerate","zip","dict_itemiterator","dict_reverseitemiterator","odict_iterator","itertools.zip_longest","itertools.pairwise"].contains n=false) (hQ:Q () s):wpAny M A (letOwnedTupleGo tg (.ref it) u) Q E s:=by
 unfold letOwnedTupleGo
 cases tg<;>first
  |exact wpAny_pure hQ
  | (cases u <;> first
    |exact wpAny_pure hQ
    | (refine wpAny_bind (wpAny_load ho ?_)
       rw[hc,hd]
       show wpAny M A (if (["enumerate","zip","dict_itemiterator","dict_reverseitemiterator","odict_iterator","itertools.zip_longest","itertools.pairwise"].contains n&&vs[0]? == some (rawInt _))=true then _ else _) Q E s
       rw[if_neg (by intro h;rw[hn,abE]at h;cases h)]
       exact wpAny_pure hQ))
def Itl(K:aT)(a:Addr):It:=
 ⟨fun i H=>∃xs x,SqL K H a xs∧xs[i]? = some x,fun i H x H'=>H'=H∧∀xs,SqL K H a xs→xs[i]? = some x,fun i H=>∃xs,SqL K H a xs∧xs.length≤i⟩
def Itt(K:aT)(a:Addr):It:=
 ⟨fun i H=>∃xs x,SqT K H a xs∧xs[i]? = some x,fun i H x H'=>H'=H∧∀xs,SqT K H a xs→xs[i]? = some x,fun i H=>∃xs,SqT K H a xs∧xs.length≤i⟩
def Itr(lo:Int)(n:Nat):It:=⟨fun i _=>i<n,fun i H x H'=>H'=H∧x=.int (lo+i),fun i _=>n≤i⟩
theorem uz{P:Program}{w:World}{K:aT}{tg:Expr}(a it:Addr):Turn P w K tg (Itl K a) [it] it (fun i h=>h.IsListIter it a i) where
 mem:=by simp
 obj:=fun i h st b hb=>by
  have e:b=it:=by simpa using hb
  subst e
  obtain⟨o,e,c,d⟩:=st
  exact⟨o,e,fun v z=>by rw[d]at z;cases z⟩
 keep:=fun i h h' st k=>st.at fun o e=>k it (by simp) o e
 item:=by
  intro X hP hw hK hc i pins s σ H E I hf st hg
  subst hP hw hK
  obtain⟨xs,x,hq,hx⟩:=hg
  obtain⟨its,rv,p,hz⟩:=I.list hq
  obtain⟨u,hu,ru⟩:=rv.get hx
  obtain⟨f0,f1,f2,f3,f4,f5⟩:=hf it (by simp)
  refine wpAny_pyNext_list_item st p.isList (x:=u) (by simpa using hu) fun h' st' sb=>?_
  have I1:Inv X pins σ H { s with heap:=h' }:=I.turned (t':=s.toks) (fun b o hb e=>(sb.2 b hb).trans e) f0 f1 f3 f4 f5
  obtain⟨o,e,c,d⟩:=id st'
  exact⟨u,rfl,qA (s:={ s with heap:=h' }) e c d (by decide) ⟨x,H,I1,ru,⟨rfl,fun ys hy=>by rw[I.list_inj hy hq];exact hx⟩,st',fun b hb=>(hf b hb).1⟩⟩
 done:=by
  intro X hP hw hK hc i pins s σ H E I hf st hg
  subst hP hw hK
  obtain⟨xs,hq,hx⟩:=hg
  obtain⟨its,rv,p,hz⟩:=I.list hq
  obtain⟨f0,f1,f2,f3,f4,f5⟩:=hf it (by simp)
  have hl:=rv.length
  exact wpAny_pyNext_list_end (I.ok.hd hc) st p.isList (by simp;omega) fun h' eb=>⟨rfl,I.turned (t':=s.toks) (fun b o hb e=>eb b o hb e) f0 f1 f3 f4 f5⟩
 self:=fun _ _ _ _ _ st h=>wpAny_pyIter_listiter st h
theorem qW{P:Program}{w:World}{K:aT}{tg:Expr}(a it:Addr):Turn P w K tg (Itt K a) [it] it (fun i h=>h.IsTupleIter it a i) where
 mem:=by simp
 obj:=fun i h st b hb=>by
  have e:b=it:=by simpa using hb
  subst e
  obtain⟨o,e,c,d⟩:=st
  exact⟨o,e,fun v z=>by rw[d]at z;cases z⟩
 keep:=fun i h h' st k=>st.at fun o e=>k it (by simp) o e
 item:=by
  intro X hP hw hK hc i pins s σ H E I hf st hg
  subst hP hw hK
  obtain⟨xs,x,hq,hx⟩:=hg
  obtain⟨its,rv,p,hz⟩:=I.tuple hq
  obtain⟨u,hu,ru⟩:=rv.get hx
  obtain⟨f0,f1,f2,f3,f4,f5⟩:=hf it (by simp)
  refine wpAny_pyNext_tuple_item st (show s.heap.IsTuple a its.toArray from p) (x:=u) (by simpa using hu) fun h' st' sb=>?_
  have I1:Inv X pins σ H { s with heap:=h' }:=I.turned (t':=s.toks) (fun b o hb e=>(sb.2 b hb).trans e) f0 f1 f3 f4 f5
  obtain⟨o,e,c,d⟩:=id st'
  exact⟨u,rfl,qA (s:={ s with heap:=h' }) e c d (by decide) ⟨x,H,I1,ru,⟨rfl,fun ys hy=>by rw[I.tuple_inj hy hq];exact hx⟩,st',fun b hb=>(hf b hb).1⟩⟩
 done:=by
  intro X hP hw hK hc i pins s σ H E I hf st hg
  subst hP hw hK
  obtain⟨xs,hq,hx⟩:=hg
  obtain⟨its,rv,p,hz⟩:=I.tuple hq
  obtain⟨f0,f1,f2,f3,f4,f5⟩:=hf it (by simp)
  have hl:=rv.length
  exact wpAny_pyNext_tuple_end (I.ok.hd hc) st (show s.heap.IsTuple a its.toArray from p) (by simp;omega) fun h' eb=>⟨rfl,I.turned (t':=s.toks) (fun b o hb e=>eb b o hb e) f0 f1 f3 f4 f5⟩
 self:=fun _ _ _ _ _ st h=>wpAny_pyIter_tupleiter st h
theorem qX{P:Program}{w:World}{K:aT}{tg:Expr}(it:Addr)(lo:Int)(n:Nat):Turn P w K tg (Itr lo n) [it] it (fun i h=>IsRangeIter h it (lo+(i:Nat)*1) ((n:Int)-(i:Nat)) 1) where
 mem:=by simp
 obj:=fun i h st b hb=>by
  have e:b=it:=by simpa using hb
  subst e
  exact⟨_,st,fun v z=>by
   have z':Data.fields _=Data.cell v:=z
   cases z'⟩
 keep:=fun i h h' st k=>k it (by simp) _ st
 item:=by
  intro X hP hw hK hc i pins s σ H E I hf st hg
  subst hP hw hK
  obtain⟨f0,f1,f2,f3,f4,f5⟩:=hf it (by simp)
  have W:=Walks.range (prog:=X.prog) (w:=X.w) (I.ok.hd hc) it lo 1 n
  refine W.item i s _ _ hg st fun v h' tk hv st' kk=>?_
  obtain⟨t,rfl⟩:=hv
  have I1:Inv X pins σ H { s with heap:=h',toks:=tk }:=I.turned (fun b o hb e=>kk b o (by simpa using hb) e) f0 f1 f3 f4 f5
  refine⟨_,rfl,qA (s:={ s with heap:=h',toks:=tk }) (n:="range_iterator") st' rfl rfl (by decide) ⟨.int (lo+i),H,I1,⟨t,?_⟩,⟨rfl,rfl⟩,st',fun b hb=>(hf b hb).1⟩⟩
  rw[Int.mul_one]
 done:=by
  intro X hP hw hK hc i pins s σ H E I hf st hg
  subst hP hw hK
  obtain⟨f0,f1,f2,f3,f4,f5⟩:=hf it (by simp)
  exact wpAny_pyNext_range_end (I.ok.hd hc) st (by have:n≤i:=hg;omega) fun h' eb=>⟨rfl,I.turned (t':=s.toks) (fun b o hb e=>eb b o hb e) f0 f1 f3 f4 f5⟩
 self:=fun _ _ _ _ _ st h=>wpAny_pyIter_rangeiter st h
section
variable {X:Cx}{tg:Expr}
def E5(K:aT)(tl:TE):TI:=fun σ H R=>tl σ H fun x H1=>∃a,x=.ref a∧(∃xs,SqL K H1 a xs)∧R (Itl K a) H1
def GV(K:aT)(tl:TE):TI:=fun σ H R=>tl σ H fun x H1=>∃a,x=.ref a∧(∃xs,SqT K H1 a xs)∧R (Itt K a) H1
theorem oP{l:Expr}{tl:TE}(hl:PE X l tl):PI X tg l (E5 X.K tl):=by
 intro pins s σ H R I h
 refine thn (hl pins s σ H _ I h) fun v s1 ⟨x,H1,I1,r1,q1⟩=>?_
 obtain⟨a,e,⟨xs,hq⟩,q⟩:=q1
 subst e
 cases r1
 obtain⟨its,rv,p,hz⟩:=I1.list hq
 refine wpAny_pyIter_list p.isList ?_
 refine⟨s1.heap.objs.size,[s1.heap.objs.size],_,_,H1,rfl,I1.kept (t':=s1.toks) fun b o e=>bY _ e,uz a _,⟨_,lE _ rfl,rfl,rfl⟩,fun b hb=>?_,q⟩
 have e:b=s1.heap.objs.size:=by simpa using hb
 subst e
 exact I1.fpOk (gO _) (I1.hok.fresh (gO _))
theorem Cg{l:Expr}{tl:TE}(hl:PE X l tl):PI X tg l (GV X.K tl):=by
 intro pins s σ H R I h
 refine thn (hl pins s σ H _ I h) fun v s1 ⟨x,H1,I1,r1,q1⟩=>?_
 obtain⟨a,e,⟨xs,hq⟩,q⟩:=q1
 subst e
 cases r1
 obtain⟨its,rv,p,hz⟩:=I1.tuple hq
 refine wpAny_pyIter_tuple (show s1.heap.IsTuple a its.toArray from p) ?_
 refine⟨s1.heap.objs.size,[s1.heap.objs.size],_,_,H1,rfl,I1.kept (t':=s1.toks) fun b o e=>bY _ e,qW a _,⟨_,lE _ rfl,rfl,rfl⟩,fun b hb=>?_,q⟩
 have e:b=s1.heap.objs.size:=by simpa using hb
 subst e
 exact I1.fpOk (gO _) (I1.hok.fresh (gO _))
theorem wk{pins:List (Addr×Obj)}{σ:St}{H:Hp}{s:Shared}{R:It→Hp→Prop}{E:Value→Shared→Prop}{lo hi:Int}{t u v:Tok}{tk:Nat}(I:Inv X pins σ H s)(h1:-(2 ^ 62)≤lo)(h2:lo<2 ^ 62)(h3:-(2 ^ 62)≤hi)(h4:hi<2 ^ 62)
  (q:R (Itr lo (hi-lo).toNat) H):wpAny (model X.prog X.w) X.A (pyIter (.ref s.heap.objs.size)) (PIE X pins σ tg R) E { s with heap:=s.heap.push { cls:=.type "range",data:=.fields #[.int lo t,.int hi u,.int 1 v] },toks:=tk }:=by
 refine wpAny_pyIter_range (IsRange.new ..) (small_one h1 h2 h3 h4) ?_
 have I1:Inv X pins σ H { s with heap:=s.heap.push { cls:=.type "range",data:=.fields #[.int lo t,.int hi u,.int 1 v] },toks:=tk }:=I.kept fun b o e=>bY _ e
 refine⟨(s.heap.push { cls:=.type "range",data:=.fields #[.int lo t,.int hi u,.int 1 v] }).objs.size,[(s.heap.push { cls:=.type "range",data:=.fields #[.int lo t,.int hi u,.int 1 v] }).objs.size],_,_,H,rfl,
  I1.kept (t':=tk) fun b o e=>bY _ e,qX _ lo (hi-lo).toNat,?_,fun b hb=>?_,q⟩
 ·have e1:lo+((0:Nat):Int)*1=lo:=by simp
  have e2:(((hi-lo).toNat:Nat):Int)-((0:Nat):Int)=Builtin.Range.rangeSize lo hi 1:=by rw[rangeSize_one];split<;>omega
  show IsRangeIter _ _ (lo+((0:Nat):Int)*1) ((((hi-lo).toNat:Nat):Int)-((0:Nat):Int)) 1
  rw[e1,e2]
  exact lE _ rfl
 ·have e:b=(s.heap.push { cls:=.type "range",data:=.fields #[.int lo t,.int hi u,.int 1 v] }).objs.size:=by simpa using hb
  subst e
  exact I1.fpOk (gO _) (I1.hok.fresh (gO _))
def E4(ta:TA):TI:=fun σ H R=>ta σ H fun vs H1=>∃j:Int,vs=[.int j]∧-(2 ^ 62)≤j∧j<2 ^ 62∧R (Itr 0 j.toNat) H1
theorem uS {a:Expr} {ta:TA} {p pos:Pos} (hg:Gl X "range") (hm:X.mg "range" = none) (ha:PA X [a] ta) (hs:starEach [a] X.env=[(false,eval a X.env)]:=by rfl):PI X tg (.Call (.Name "range" p) [a] [] pos) (E4 ta):=by
 intro pins s σ H R I h
 refine Call_ (hJ I hg hm boot_range (PyProof.Rows.callWith_type1 (thn (ha pos pins s σ H _ I h) fun us s1 ⟨vs,H1,I1,r1,q1⟩=>?_) hs rfl))
 obtain⟨j,e,q1,q2,q⟩:=q1
 subst e
 cases r1 with
 |cons r rr=>
  cases rr
  obtain⟨t,rfl⟩:=r
  exact call_range_1 (wk I1 (by omega) (by omega) q1 q2 (by simpa using q))
def Gf(wi:TI)(g:TG)(tb:TS):TS:=fun D σ H=>wi σ H fun J H1=>∃W:Nat→Nat→St→Hp→Prop,(∃m,W 0 m σ H1)∧∀i m σ H,W i m σ H →
 (J.stop i H∧D.nx σ H)∨(J.go i H∧∃N:St→Hp→Prop,(∀σ' H',N σ' H'→∃m',m'<m∧W (i+1) m' σ' H')∧∀x H',J.yld i H x H'→g x σ H' fun σ2 H2=>tb { D with nx:=N,ct:=N,bk:=D.nx } σ2 H2)
def oO(fp:List Addr)(h:Heap):List (Addr×Obj):=fp.filterMap fun b=>(h.get? b).map fun o=>(b,o)
theorem bS{fp:List Addr}{h:Heap}{b:Addr}{o:Obj}(hb:b∈fp)(e:h.get? b=some o):(b,o)∈oO fp h:=List.mem_filterMap.mpr ⟨b,hb,by rw[e];rfl⟩
theorem uY{fp:List Addr}{h:Heap}{p:Addr×Obj}(hp:p∈oO fp h):p.1∈fp∧h.get? p.1=some p.2:=by
 obtain⟨b,hb,e⟩:=List.mem_filterMap.mp hp
 cases q:h.get? b with
 |none=>rw[q]at e;cases e
 |some o=>
  rw[q]at e
  have e':(b,o)=p:=Option.some.inj e
  subst e'
  exact⟨hb,q⟩
theorem Inv.pinned{pins:List (Addr×Obj)}{σ:St}{H:Hp}{s:Shared}{fp:List Addr}(I:Inv X pins σ H s)(hf:∀b∈fp,fG X pins H b)(ho:∀b∈fp,∃o,s.heap.get? b=some o∧∀v,o.data≠.cell v):Inv X (pins++oO fp s.heap) σ H s:=
 I.pins_of fun p hp=>(List.mem_append.mp hp).elim (fun z=>I.pin p (tO _ z)) fun z=>by
  obtain⟨hb,e⟩:=uY z
  obtain⟨f0,f1,f2,_⟩:=hf p.1 hb
  obtain⟨o,e',d⟩:=ho p.1 hb
  rw[e]at e';cases e'
  exact⟨e,f0,f1,f2,d⟩
theorem Inv.unpinned{pins pl:List (Addr×Obj)}{σ:St}{H:Hp}{s:Shared}(I:Inv X (pins++pl) σ H s):Inv X pins σ H s:=I.pins_of fun p hp=>I.pin p (tO _ (aa9 _ hp))
theorem wJ{iter:Expr}{body:List Stmt}{wi:TI}{g:TG}{tb:TS}{pos:Pos}(hp:PassesOwn (model X.prog X.w) X.A X.env X.xe)(hc:X.calm=true)(hi:PI X tg iter wi)(hg:PG X tg g)(hb:PSs X body tb)
  (hs:∀x,foldedSetIterable iter X.env x=pure x:=by intro _;rfl):PS X (.For tg iter body [] pos) (Gf wi g tb):=by
 intro pins s σ H D I h
 refine wpAny_For (thn (hi pins s σ H _ I h) fun v s1 h1=>thn h1 fun itv s2 h2=>?_) hs
 obtain⟨it,fp,tn,J,H2,e,I2,T,st2,f2,W,⟨m0,w0⟩,turn⟩:=h2
 subst e
 have stat:∀{H':Hp},(∀b∈fp,H' b=none)→∀b∈fp,fG X pins H' b:=fun hn b hb=>⟨hn b hb,(f2 b hb).2⟩
 refine codeAny_forLoop_any (fun n s'=>∃i σ' H',Inv X pins σ' H' s'∧tn i s'.heap∧(∀b∈fp,H' b=none)∧W i n σ' H') ?_ m0 ⟨0,σ,H2,I2,st2,fun b hb=>(f2 b hb).1,w0⟩
 rintro n s3 ⟨i,σ3,H3,I3,st3,fr3,w3⟩
 rcases turn i n σ3 H3 w3 with ⟨stop,qn⟩|⟨go,N,hN,step⟩
 ·refine wpAny_passesOwn hp (thn (T.done X rfl rfl rfl hc i pins s3 σ3 H3 X.xe I3 (stat fr3) st3 stop) fun r s4 ⟨hr,I4⟩=>?_)
  subst hr
  exact wpAny_execs_nil ⟨σ3,H3,I4,qn⟩
 ·refine wpAny_passesOwn hp (thn (T.item X rfl rfl rfl hc i pins s3 σ3 H3 X.xe I3 (stat fr3) st3 go) fun r s4 ⟨u,hr,h4⟩=>?_)
  subst hr
  refine wpAny_passesOwn hp (thn h4 fun _ s5 ⟨x,H5,I5,r5,y5,st5,fr5⟩=>?_)
  have I5':=I5.pinned (stat fr5) (T.obj _ _ st5)
  refine wpAny_passesOwn hp (thn (hg _ s5 σ3 H5 x u _ I5' r5 (step x H5 y5)) fun _ s6 ⟨σ6,H6,I6,q6⟩=>?_)
  refine wpAny_passesOwn hp (thn (hb _ s6 σ6 H6 _ I6 q6) fun f s7 q7=>?_)
  have again:∀{σ7:St}{H7:Hp},Inv X (pins++oO fp s5.heap) σ7 H7 s7→N σ7 H7→∃m,m<n∧∃i σ' H',Inv X pins σ' H' s7∧tn i s7.heap∧(∀b∈fp,H' b=none)∧W i m σ' H':=fun {σ7 H7} I7 n7=>by
   obtain⟨m',hm,w7⟩:=hN σ7 H7 n7
   refine⟨m',hm,i+1,σ7,H7,I7.unpinned,T.keep _ _ _ st5 fun b hb o e=>(I7.pin (b,o) (tO _ (tO _ (bS hb e)))).1,fun b hb=>?_,w7⟩
   obtain⟨o,e,d⟩:=T.obj _ _ st5 b hb
   exact(I7.pin (b,o) (tO _ (tO _ (bS hb e)))).2.1
  cases f with
  |next=>obtain⟨σ7,H7,I7,n7⟩:=q7;exact again I7 n7
  |cont=>obtain⟨σ7,H7,I7,n7⟩:=q7;exact again I7 n7
  |brk=>obtain⟨σ7,H7,I7,q7⟩:=q7;exact⟨σ7,H7,I7.unpinned,q7⟩
  |ret v=>obtain⟨x7,σ7,H7,I7,r7,q7⟩:=q7;exact⟨x7,σ7,H7,I7.unpinned,r7,q7⟩
end
abbrev R2:=V→V→Hp→VK→Prop
def OpR(X:Cx)(f:Value→Value→Sem Value)(r:R2):Prop:=
 ∀(pins:List (Addr×Obj))(s:Shared)(σ:St)(H:Hp)(x y:V)(v u:Value)(Q:VK),Inv X pins σ H s→RelV x v→RelV y u→r x y H Q →
  wpAny (model X.prog X.w) X.A (f v u) (EP X pins σ Q) X.xe s
def UnR(X:Cx)(f:Value→Sem Value)(r:V→Hp→VK→Prop):Prop:=
 ∀(pins:List (Addr×Obj))(s:Shared)(σ:St)(H:Hp)(x:V)(v:Value)(Q:VK),Inv X pins σ H s→RelV x v→r x H Q →
  wpAny (model X.prog X.w) X.A (f v) (EP X pins σ Q) X.xe s
def gH(X:Cx)(f:Value)(r:List V→Hp→VK→Prop):Prop:=
 ∀(pins:List (Addr×Obj))(s:Shared)(σ:St)(H:Hp)(xs:List V)(us:List Value)(Q:VK),Inv X pins σ H s→Vals xs us→r xs H Q →
  wpAny (model X.prog X.w) X.A (call f us) (EP X pins σ Q) X.xe s
def tOp(r:R2)(ta tb:TE):TE:=fun σ H Q=>ta σ H fun x H1=>tb σ H1 fun y H2=>r x y H2 Q
def tUn(r:V→Hp→VK→Prop)(ta:TE):TE:=fun σ H Q=>ta σ H fun x H1=>r x H1 Q
def rI(C:Int→Int→Prop)(g:Int→Int→V):R2:=fun x y H Q=>∃i j,x=.int i∧y=.int j∧C i j∧Q (g i j) H
def rI0(g:Int→Int→V):R2:=fun x y H Q=>∃i j,x=.int i∧y=.int j∧Q (g i j) H
def rU(g:Int→V):V→Hp→VK→Prop:=fun x H Q=>∃i,x=.int i∧Q (g i) H
section
variable {X:Cx}{a b c:Expr}{ta tb tc:TE}{pos:Pos}
theorem DB(ha:PE X a ta)(hb:PE X b tb){pins:List (Addr×Obj)}{s:Shared}{σ:St}{H:Hp}{R:V→V→Hp→Prop}(I:Inv X pins σ H s)
  (h:ta σ H fun x H1=>tb σ H1 fun y H2=>R x y H2) {Q:Value→Shared→Prop} {f:Value→Value→Sem Value}
  (hf:∀v u s2 x y H2,Inv X pins σ H2 s2→RelV x v→RelV y u→R x y H2→wpAny (model X.prog X.w) X.A (f v u) Q X.xe s2):
  wpAny (model X.prog X.w) X.A (eval a X.env) (fun v s₁=>wpAny (model X.prog X.w) X.A (eval b X.env) (fun u s₂=>wpAny (model X.prog X.w) X.A (f v u) Q X.xe s₂) X.xe s₁) X.xe s:=by
 refine thn (ha pins s σ H _ I h) fun v s1 ⟨x,H1,I1,r1,q1⟩=>?_
 refine thn (hb pins s1 σ H1 _ I1 q1) fun u s2 ⟨y,H2,I2,r2,q2⟩=>?_
 exact hf v u s2 x y H2 I2 r1 r2 q2
theorem EL{op:Operator}{r:R2}(ho:OpR X (binaryOp op) r)(ha:PE X a ta)(hb:PE X b tb):PE X (.BinOp a op b pos) (tOp r ta tb):=by
 intro pins s σ H Q I h
 exact wpAny_BinOp (DB ha hb I h fun v u s2 x y H2 I2 rx ry q=>ho pins s2 σ H2 x y v u Q I2 rx ry q)
theorem EK{op:UnaryOp}{r:V→Hp→VK→Prop}(ho:UnR X (unaryOp op) r)(ha:PE X a ta):PE X (.UnaryOp op a pos) (tUn r ta):=by
 intro pins s σ H Q I h
 exact UnaryOp_ (thn (ha pins s σ H _ I h) fun v s1 ⟨x,H1,I1,r1,q1⟩=>ho pins s1 σ H1 x v Q I1 r1 q1)
theorem opI{f:Value→Value→Sem Value}{C:Int→Int→Prop}{g:Int→Int→Int}
  (rule:∀(i j:Int)(t u:Tok)(s:Shared)(Q:Value→Shared→Prop)(E:Value→Shared→Prop),C i j→Q (.int (g i j) s.toks) { s with toks:=s.toks+1 }→wpAny (model X.prog X.w) X.A (f (.int i t) (.int j u)) Q E s):
  OpR X f (rI C fun i j=>.int (g i j)):=by
 intro pins s σ H x y v u Q I rx ry h
 obtain⟨i,j,rfl,rfl,hc,q⟩:=h
 obtain⟨t,rfl⟩:=rx
 obtain⟨t',rfl⟩:=ry
 exact rule i j t t' s _ _ hc ⟨.int (g i j),H,I.tok _,⟨_,rfl⟩,q⟩
theorem EU{f:Value→Value→Sem Value}{g:Int→Int→Int}
  (rule:∀(i j:Int)(t u:Tok)(s:Shared)(Q:Value→Shared→Prop)(E:Value→Shared→Prop),Q (.int (g i j) s.toks) { s with toks:=s.toks+1 }→wpAny (model X.prog X.w) X.A (f (.int i t) (.int j u)) Q E s):
  OpR X f (rI0 fun i j=>.int (g i j)):=by
 intro pins s σ H x y v u Q I rx ry h
 obtain⟨i,j,rfl,rfl,q⟩:=h
 obtain⟨t,rfl⟩:=rx
 obtain⟨t',rfl⟩:=ry
 exact rule i j t t' s _ _ ⟨.int (g i j),H,I.tok _,⟨_,rfl⟩,q⟩
theorem CL{f:Value→Value→Sem Value}{g:Int→Int→Bool}
  (rule:∀(i j:Int)(t u:Tok)(s:Shared)(Q:Value→Shared→Prop)(E:Value→Shared→Prop),Q (.bool (g i j)) s→wpAny (model X.prog X.w) X.A (f (.int i t) (.int j u)) Q E s):
  OpR X f (rI0 fun i j=>.bl (g i j)):=by
 intro pins s σ H x y v u Q I rx ry h
 obtain⟨i,j,rfl,rfl,q⟩:=h
 obtain⟨t,rfl⟩:=rx
 obtain⟨t',rfl⟩:=ry
 exact rule i j t t' s _ _ ⟨.bl (g i j),H,I,rfl,q⟩
def Ho(i j:Int):Prop:=0≤j∧j≤1000000∧i.natAbs<2 ^ 64
theorem CK:OpR X (binaryOp .Add) (rI0 fun i j=>.int (i+j)):=EU fun _ _ _ _ _ _ _ q=>add_int q
theorem CF:OpR X (binaryOp .Sub) (rI0 fun i j=>.int (i-j)):=EU fun _ _ _ _ _ _ _ q=>sub_int q
theorem zQ:OpR X (binaryOp .Mod) (rI (fun _ j=>j≠0) fun i j=>.int (i.fmod j)):=opI fun _ _ _ _ _ _ _ hc q=>mod_int' hc q
theorem CG:OpR X (binaryOp .Pow) (rI Ho fun i j=>.int (i ^ j.toNat)):=opI fun _ _ _ _ _ _ _ hc q=>pow_int_small hc.1 hc.2.1 hc.2.2 q
theorem unI{f:Value→Sem Value}{g:Int→Int}
  (rule:∀(i:Int)(t:Tok)(s:Shared)(Q:Value→Shared→Prop)(E:Value→Shared→Prop),Q (.int (g i) s.toks) { s with toks:=s.toks+1 }→wpAny (model X.prog X.w) X.A (f (.int i t)) Q E s):
  UnR X f (rU fun i=>.int (g i)):=by
 intro pins s σ H x v Q I rx h
 obtain⟨i,rfl,q⟩:=h
 obtain⟨t,rfl⟩:=rx
 exact rule i t s _ _ ⟨.int (g i),H,I.tok _,⟨_,rfl⟩,q⟩
theorem Bs:UnR X (unaryOp .USub) (rU fun i=>.int (-i)):=unI fun _ _ _ _ _ q=>neg_int q
end
section
variable {X:Cx}{a b c:Expr}{ta tb tc:TE}{pos:Pos}
theorem xY{pins:List (Addr×Obj)}{σ:St}{H:Hp}{s:Shared}{Q:VK}{k k':Bool}(I:Inv X pins σ H s)(q:Q (.bl k) H)(e:k=k'):EP X pins σ Q (.bool k') s:=by
 subst e
 exact⟨.bl k,H,I,rfl,q⟩
theorem ER:OpR X (compareOp .Lt) (rI0 fun i j=>.bl (decide (i<j))):=CL fun _ _ _ _ _ _ _ q=>lt_int q
theorem ES:OpR X (compareOp .LtE) (rI0 fun i j=>.bl (decide (i≤j))):=CL fun _ _ _ _ _ _ _ q=>le_int q
theorem ET:OpR X (compareOp .Gt) (rI0 fun i j=>.bl (decide (j<i))):=CL fun _ _ _ _ _ _ _ q=>gt_int q
theorem CH:OpR X (compareOp .Is) (fun x y H Q=>y=.non∧Q (.bl (decide (x=.non))) H):=by
 intro pins s σ H x y v u Q I rx ry h
 obtain⟨rfl,q⟩:=h
 cases ry
 refine is_none_gen (xY I q ?_)
 cases x<;>first
  | (cases rx; rfl)
  | (obtain ⟨t,rfl⟩:=rx; rfl)
theorem zP:OpR X (compareOp .IsNot) (fun x y H Q=>y=.non∧Q (.bl (!decide (x=.non))) H):=by
 intro pins s σ H x y v u Q I rx ry h
 obtain⟨rfl,q⟩:=h
 cases ry
 refine isnot_none_gen (xY I q ?_)
 cases x<;>first
  | (cases rx; rfl)
  | (obtain ⟨t,rfl⟩:=rx; rfl)
theorem zK{op:CmpOp}{r:R2}(ho:OpR X (compareOp op) r)(ha:PE X a ta)(hb:PE X b tb)(hm:behindInMarks op b=false):PE X (.Compare a [op] [b] pos) (tOp r ta tb):=by
 intro pins s σ H Q I h
 exact wpAny_Compare1 (DB ha hb I h fun v u s2 x y H2 I2 rx ry q=>ho pins s2 σ H2 x y v u Q I2 rx ry q) hm
def A2(t:TE):TT:=fun σ H Q=>t σ H fun x H'=>∃k,x=.bl k∧Q k H'
theorem tm{op:CmpOp}{r:R2}(ho:OpR X (compareOp op) r)(ha:PE X a ta)(hb:PE X b tb)(hm:behindInMarks op b=false):PT X (.Compare a [op] [b] pos) (A2 (tOp r ta tb)):=by
 intro pins s σ H Q I h
 refine wpAny_isTrue_Compare1 (thn (ha pins s σ H _ I h) fun v s1 ⟨x,H1,I1,r1,q1⟩=>thn (hb pins s1 σ H1 _ I1 q1) fun u s2 ⟨y,H2,I2,r2,q2⟩=>
  thn (ho pins s2 σ H2 x y v u _ I2 r1 r2 q2) fun c s3 ⟨z,H3,I3,r3,k,e,q3⟩=>?_) hm
 subst e
 cases r3
 exact wpAny_truthy_bool ⟨H3,I3,q3⟩
def vR(r r':R2)(ta tb tc:TE):TE:=fun σ H Q=>ta σ H fun x H1=>tb σ H1 fun y H2=>r x y H2 fun z H3=>∃k,z=.bl k ∧
 (if k=true then tc σ H3 fun w' H4=>r' y w' H4 Q else Q (.bl false) H3)
theorem wY{op op':CmpOp}{r r':R2}(ho:OpR X (compareOp op) r)(ho':OpR X (compareOp op') r')(ha:PE X a ta)(hb:PE X b tb)(hc:PE X c tc)
  (hm:lastMarks [op,op'] [b,c]=false:=by with_unfolding_all rfl):PE X (.Compare a [op,op'] [b,c] pos) (vR r r' ta tb tc):=by
 intro pins s σ H Q I h
 refine Compare_chain (thn (ha pins s σ H _ I h) fun v s1 ⟨x,H1,I1,r1,q1⟩=>chain_link (thn (hb pins s1 σ H1 _ I1 q1) fun u s2 ⟨y,H2,I2,r2,q2⟩=>
  thn (ho pins s2 σ H2 x y v u _ I2 r1 r2 q2) fun d s3 ⟨z,H3,I3,r3,k,e,q3⟩=>?_)) hm
 subst e
 cases r3
 refine wpAny_truthy_bool ?_
 cases k with
 |false=>exact ite_ff ⟨.bl false,H3,I3,rfl,q3⟩
 |true=>exact ite_tt (chain_last (thn (hc pins s3 σ H3 _ I3 q3) fun w' s4 ⟨z',H4,I4,r4,q4⟩=>ho' pins s4 σ H4 y z' u w' Q I4 r2 r4 q4))
theorem wH{op op':CmpOp}{r r':R2}(ho:OpR X (compareOp op) r)(ho':OpR X (compareOp op') r')(ha:PE X a ta)(hb:PE X b tb)(hc:PE X c tc)
  (hm:lastMarks [op,op'] [b,c]=false:=by with_unfolding_all rfl):PT X (.Compare a [op,op'] [b,c] pos) (A2 (vR r r' ta tb tc)):=by
 intro pins s σ H Q I h
 refine isTrue_chain (thn (ha pins s σ H _ I h) fun v s1 ⟨x,H1,I1,r1,q1⟩=>test_link (thn (hb pins s1 σ H1 _ I1 q1) fun u s2 ⟨y,H2,I2,r2,q2⟩=>
  thn (ho pins s2 σ H2 x y v u _ I2 r1 r2 q2) fun d s3 ⟨z,H3,I3,r3,k,e,q3⟩=>?_)) hm
 subst e
 cases r3
 refine wpAny_truthy_bool ?_
 cases k with
 |false=>
  obtain⟨k',e',q'⟩:=q3
  cases e'
  exact ite_ff ⟨H3,I3,q'⟩
 |true=>
  refine ite_tt (test_last (thn (hc pins s3 σ H3 _ I3 q3) fun w' s4 ⟨z',H4,I4,r4,q4⟩=>thn (ho' pins s4 σ H4 y z' u w' _ I4 r2 r4 q4) fun d' s5 ⟨z2,H5,I5,r5,k2,e2,q5⟩=>?_))
  subst e2
  cases r5
  exact wpAny_truthy_bool ⟨H5,I5,q5⟩
theorem lW:(sizeLine:Nat)<2 ^ 63:=by rw[sizeLine_eq];decide
theorem vals1{x:V}{us:List Value}(r:Vals [x] us):∃u,us=[u]∧RelV x u:=by
 cases r with
 |cons r1 r2=>cases r2;exact⟨_,rfl,r1⟩
theorem vals2{x y:V}{us:List Value}(r:Vals [x,y] us):∃u w',us=[u,w']∧RelV x u∧RelV y w':=by
 cases r with
 |cons r1 r2=>
  cases r2 with
  |cons r3 r4=>cases r4;exact⟨_,_,rfl,r1,r3⟩
theorem yw:gH X (.builtin "abs") (fun xs H Q=>∃i,xs=[.int i]∧Q (.int (if i<0 then -i else i)) H):=by
 intro pins s σ H xs us Q I r h
 obtain⟨i,rfl,q⟩:=h
 obtain⟨u,rfl,t,rfl⟩:=vals1 r
 exact call_abs_int fun u tk=>⟨.int (if i<0 then -i else i),H,I.tok _,⟨_,rfl⟩,q⟩
theorem vA (hc:X.calm=true):gH X (.builtin "max") (fun xs H Q=>∃i j,xs=[.int i,.int j]∧Q (.int (if j>i then j else i)) H):=by
 intro pins s σ H xs us Q I r h
 obtain⟨i,j,rfl,q⟩:=h
 obtain⟨u,w',rfl,⟨t,rfl⟩,⟨t',rfl⟩⟩:=vals2 r
 refine max_two_ints (I.ok.hd hc) fun h' tk k=>⟨_,H,I.kept k,?_,q⟩
 by_cases hj:j>i
 ·rw[if_pos hj,if_pos hj];exact⟨_,rfl⟩
 ·rw[if_neg hj,if_neg hj];exact⟨_,rfl⟩
theorem vz (hc:X.calm=true):gH X (.builtin "min") (fun xs H Q=>∃i j,xs=[.int i,.int j]∧Q (.int (if j<i then j else i)) H):=by
 intro pins s σ H xs us Q I r h
 obtain⟨i,j,rfl,q⟩:=h
 obtain⟨u,w',rfl,⟨t,rfl⟩,⟨t',rfl⟩⟩:=vals2 r
 refine min_two_ints (I.ok.hd hc) fun h' tk k=>⟨_,H,I.kept k,?_,q⟩
 by_cases hj:j<i
 ·rw[if_pos hj,if_pos hj];exact⟨_,rfl⟩
 ·rw[if_neg hj,if_neg hj];exact⟨_,rfl⟩
end
structure ObjM (h:Heap) (x dx C:Addr) (mA:Str→Option Value):Prop where
 obj:h.get? x=some (aaZ C dx)
 ns:h.Ns1 dx mA
 ne:dx≠x
theorem u4{h:Heap}{dx:Addr}{mA:Str→Option Value}(n:h.Ns1 dx mA):∃od,h.get? dx=some od∧∀name,PySem.W.lookIn name od=some (mA name):=by
 obtain⟨o,es,ep,ho,hd,hk,_,hm⟩:=n
 refine⟨o,ho,fun name=>?_⟩
 have e:=hm name
 unfold nsFind findBy at e
 rw[←Array.find?_toList]at e
 unfold PySem.W.lookIn
 rw[hd]
 dsimp only
 split
 ·rename_i y q
  rw[q]at e
  exact congrArg some e
 ·rename_i q
  rw[q]at e
  have a:es.toList.any (·.refKey)=false:=by
   rw[List.any_eq_false]
   intro y hy
   obtain⟨z,t,hkey⟩:=hk y (Array.mem_toList_iff.mp hy)
   simp[DictEntry.refKey,hkey]
  have a':¬es.toList.any (·.refKey)=true:=by rw[a];exact aa7
  rw[if_neg a']
  exact congrArg some e
theorem ObjM.look{h:Heap}{x dx C:Addr}{mA:Str→Option Value}(I:ObjM h x dx C mA):∃od,PySem.W.InstAt h x (aaZ C dx) C (some od)∧∀name,PySem.W.lookIn name od=some (mA name):=
 let⟨od,ho,hl⟩:=u4 I.ns
 ⟨od,⟨I.obj,rfl,rfl,ho⟩,hl⟩
section
variable {prog:Program}{w:World}{A:Around}{E:Value→Shared→Prop}{s:Shared}{K:aT}{x dx C f:Addr}{mA:Str→Option Value}{name:Str}{v:Value}
theorem get_map{expr:Bool}{Q:Value→Shared→Prop}(X:K.In s.heap)(I:ObjM s.heap x dx C mA)(hg:abp K C name=true)(hh:abz K C=true)
  (ha:aaw K (.ref C) name=some none) (hv:mA name=some v) (hv':PySem.W.handedIn v=true) (h:Q v { s with toks:=s.toks+1 }):
  wpAny (model prog w) A (getAttr (.ref x) name expr) Q E s:=by
 obtain⟨od,J,hl⟩:=I.look
 exact PySem.W.get_value X J (PySem.W.plainGet_of hg).1 (PySem.W.findObj_own hh ha rfl (by rw[hl,hv])) hv' h
theorem xU{pl:Sem Bool}{Q:Value×List Value→Shared→Prop}(X:K.In s.heap)(I:ObjM s.heap x dx C mA)(hg:abp K C name=true)
  (hf:aaw K (.ref C) name=some (some (.ref f))) (ht:abM K (.ref f)=true) (hv:mA name=none) (h:Q (.ref f,[.ref x]) s):
  wpAny (model prog w) A (getMethod (.ref x) name pl) Q E s:=by
 obtain⟨od,J,hl⟩:=I.look
 exact PySem.W.method_fn X J (PySem.W.plainGet_of hg).1 (PySem.W.plainGet_of hg).2 hf (beq_iff_eq.mp ht) (by show(PySem.W.lookIn name od).map (·.isSome)=some false;rw[hl,hv];rfl) h
theorem zb{ns:List Str}{Q:Unit→Shared→Prop}(X:K.In s.heap)(I:ObjM s.heap x dx C mA)
  (hs:aaw K (.ref C) "__setattr__" = some (some (.builtin "object.__setattr__"))) (hp:PySem.W.plainOver K C=true) (ht:PySem.W.takerIn K C name=some none) (hh:abz K C=true)
  (hw:PySem.Within mA ns) (hsz:ns.length≤sizeLine)
  (h:∀h',ObjM h' x dx C (fun y=>if y=name then some v else mA y)→Heap.SameBut dx s.heap h'→Q () { s with heap:=h',toks:=s.toks+2 }):
  wpAny (model prog w) A (setAttr (.ref x) name v) Q E s:=by
 obtain⟨od,J,hl⟩:=I.look
 refine PySem.W.set_plain X J hs (PySem.W.osa_open (s:={ s with toks:=s.toks+1 }) (r:=none) X J hp ht fun b=>?_)
 obtain⟨cd,hc,hd'⟩:=PySem.W.any_some hh
 have hx:s.heap.get? x=some ⟨.ref C,some dx,.plain,#[]⟩:=I.obj
 refine wpAny_bind (wpAny_pure (wpAny_bind (wpAny_bind (wpAny_loadPart hx (wpAny_bind (PySem.W.Looks.here (s:={ s with toks:=s.toks+1 }) (PySem.W.looks_clsIn X hc) ?_))))))
 rw[hd']
 refine wpAny_pure (a:=some dx) (wpAny_bind (wpAny_pure (wpAny_bind ?_)))
 refine wpAny_nsSet1 (s:={ s with toks:=s.toks+1 }) I.ns fun h' hn2 hs2=>?_
 obtain⟨oD,esD,epD,hoD,hdD,hcD⟩:=hn2.count (PySem.Within.cons name v hw)
 refine wpAny_bind (wpAny_lookBehind hoD (by rw[hdD];exact pastItsLine_dict (iS hcD (by rw[iF];omega))) ?_)
 exact wpAny_pure (h _ ⟨(hs2.2 _ (Ne.symm I.ne)).trans I.obj,hn2,I.ne⟩ hs2)
theorem xj{R:Result→Shared→Prop}{vs:List Value}{kw:List (Str×Value)}(X:K.In s.heap)(hm:abL K C=true)
  (hi:aaw K (.ref C) "__init__" = some (some (.ref f))) (hf:PySem.W.typeIn K (.ref f)=some (.type "function"))
  (h:codeAny (model prog w) (A.under (.builtin "type.__call__" ⟨.ref C::vs,kw⟩)) (.call (.ref f) ⟨.ref (s.heap.objs.size+1)::vs,kw⟩) (PySem.W.InitBack (s.heap.objs.size+1) R)
   { s with heap:=(s.heap.push aaM).push (aaZ C s.heap.objs.size) }):
  codeAny (model prog w) A (.call (.ref C) ⟨vs,kw⟩) R s:=by
 obtain⟨hh,g,d,t,os⟩:=s
 exact PySem.W.make_core (PySem.W.makes_of X hm) (PySem.W.looks_findIn X hi) (fun self=>PySem.W.bind_fn X self hf) (.inl rfl) h
end
def fB(f:Str)(v:V):List (Str×V)→List (Str×V)
 |[]=>[(f,v)]
 | (g,x)::r=>if g = f then (g,v)::r else (g,x)::fB f v r
theorem kb(f g:Str)(v:V):∀fs:List (Str×V),(fB f v fs).lookup g=if g=f then some v else fs.lookup g
 |[]=>by
  show aa0 g [(f,v)]=_
  by_cases h:g=f
  ·have hb:(g==f)=true:=beq_iff_eq.mpr h
   simp only[aa0,hb,if_pos h]
  ·have hb:(g==f)=false:=beq_eq_false_iff_ne.mpr h
   simp only[aa0,hb,if_neg h]
 | (k,x)::r=>by
  have ih:=kb f g v r
  rw[show fB f v ((k,x)::r)=(if k=f then (k,v)::r else (k,x)::fB f v r) from rfl]
  by_cases hk:k=f
  ·rw[if_pos hk]
   by_cases h:g=k
   ·have hb:(g==k)=true:=beq_iff_eq.mpr h
    simp only[aa0,hb,if_pos (h.trans hk)]
   ·have hb:(g==k)=false:=beq_eq_false_iff_ne.mpr h
    simp only[aa0,hb,if_neg (fun e:g=f=>h (e.trans hk.symm))]
  ·rw[if_neg hk]
   by_cases h:g=k
   ·have hb:(g==k)=true:=beq_iff_eq.mpr h
    simp only[aa0,hb,if_neg (fun e:g=f=>hk (h.symm.trans e))]
   ·have hb:(g==k)=false:=beq_eq_false_iff_ne.mpr h
    simp only[aa0,hb]
    exact ih
theorem jW(f:Str)(v:V):∀fs:List (Str×V),f∈(fB f v fs).map (·.1)∧∀g,g∈fs.map (·.1)→g∈(fB f v fs).map (·.1)
 |[]=>⟨by simp[fB],fun g h=>by simp at h⟩
 | (k,x)::r=>by
  obtain⟨i1,i2⟩:=jW f v r
  rw[show fB f v ((k,x)::r)=(if k=f then (k,v)::r else (k,x)::fB f v r) from rfl]
  by_cases hk:k=f
  ·rw[if_pos hk]
   subst hk
   exact⟨by simp,fun g h=>by simpa using h⟩
  ·rw[if_neg hk]
   refine⟨?_,fun g h=>?_⟩
   ·rw[aau]
    exact aan _ i1
   ·rw[aau]at h ⊢
    rcases List.mem_cons.mp h with e|e
    ·exact List.mem_cons.mpr (.inl e)
    ·exact aan _ (i2 g e)
theorem kf(f:Str)(v:V):∀fs:List (Str×V),(fB f v fs).length≤fs.length+1
 |[]=>by simp[fB]
 | (k,x)::r=>by
  have ih:=kf f v r
  rw[show fB f v ((k,x)::r)=(if k=f then (k,v)::r else (k,x)::fB f v r) from rfl]
  by_cases hk:k=f
  ·rw[if_pos hk,iF,iF];omega
  ·rw[if_neg hk,iF,iF];omega
theorem pJ.some_of{v:V}{o:Option Value}(r:pJ (some v) o):∃u,o=some u∧RelV v u:=by
 cases o with
 |none=>exact(show False from r).elim
 |some u=>exact⟨u,rfl,r⟩
theorem pJ.none_of{o:Option Value}(r:pJ none o):o=none:=by
 cases o with
 |none=>rfl
 |some u=>exact(show False from r).elim
theorem vh{v:V}{u:Value}(r:RelV v u):PySem.W.handedIn u=true:=by
 cases v with
 |non=>cases (show u=Value.none from r);rfl
 |bl b=>cases (show u=Value.bool b from r);rfl
 |int i=>obtain⟨t,e⟩:=(show ∃t,u=Value.int i t from r);cases e;rfl
 |str x=>obtain⟨t,e⟩:=(show ∃t,u=Value.str x t from r);cases e;rfl
 |byt b=>obtain⟨t,e⟩:=(show ∃t,u=Value.bytes b t from r);cases e;rfl
 |flt b=>obtain⟨t,e⟩:=(show ∃t,u=Value.float b t from r);cases e;rfl
 |ref a=>cases (show u=Value.ref a from r);rfl
 |ty n=>cases (show u=Value.type n from r);rfl
section
variable {P:Program}{w:World}{H H':Hp}{h h':Heap}{a C dx:Addr}{fs fs':List (Str×V)}
theorem kP(hok:HOk P w H h)(e:H a=some (.ins C dx fs)):∃mA,ObjM h a dx C mA∧(∀f,pJ (fs.lookup f) (mA f))∧PySem.Within mA (fs.map (·.1))∧fs.length≤1000∧H dx=some (.own a):=by
 obtain⟨d,z,ne,ob,mA,n,r,q⟩:=(show cv P w H h a (.ins C dx fs) from hok a _ e)
 exact⟨mA,⟨ob,n,ne⟩,r,q,z,d⟩
end
structure Cls (K:aT) (C:Addr):Prop where
 pg:abp K C Str.empty=true
 hd:abz K C=true
 po:PySem.W.plainOver K C=true
 sa:aaw K (.ref C) "__setattr__" = some (some (.builtin "object.__setattr__"))
theorem Cls.get{K:aT}{C:Addr}(c:Cls K C)(f:Str):abp K C f=true:=c.pg
def jd(K:aT)(C:Addr)(f:Str):Prop:=aaw K (.ref C) f=some none
theorem jd.taker{K:aT}{C:Addr}{f:Str}(n:jd K C f):PySem.W.takerIn K C f=some none:=by
 unfold PySem.W.takerIn
 rw[show aaw K (.ref C) f=some none from n]
 rfl
structure Con (K:aT) (C:Addr) (f:Str) (v:V) (u:Value):Prop where
 at_:aaw K (.ref C) f=some (some u)
 rel:RelV v u
 get:PySem.W.specialIn K u "__get__" = some none
 cp:PySem.W.copiedNames.contains f=false
structure Meth (K:aT) (C:Addr) (m:Str) (f:Addr):Prop where
 at_:aaw K (.ref C) m=some (some (.ref f))
 fn:abM K (.ref f)=true
 kp:aaE K (.ref f)=true
section
variable {X:Cx}{pins:List (Addr×Obj)}{σ:St}{H:Hp}{s:Shared}{a C dx:Addr}{fs:List (Str×V)}{f:Str}{v:V}{A:Around}{E:Value→Shared→Prop}
theorem su{b:Bool}{Q:Value→Shared→Prop}(I:Inv X pins σ H s)(e:H a=some (.ins C dx fs))(c:Cls X.K C)(n:jd X.K C f)(l:fs.lookup f=some v)
  (h:∀u s',Inv X pins σ H s'→RelV v u→Q u s'):wpAny (model X.prog X.w) A (getAttr (.ref a) f b) Q E s:=by
 obtain⟨mA,O,r,_,_,_⟩:=kP I.hok e
 obtain⟨u,hu,ru⟩:=pJ.some_of (v:=v) (o:=mA f) (by rw[←l];exact r f)
 exact get_map I.kIn O (c.get f) c.hd n hu (vh ru) (h u _ (I.tok _) ru)
theorem gv{m:Str}{g:Addr}{pl:Sem Bool}{Q:Value×List Value→Shared→Prop}(I:Inv X pins σ H s)(e:H a=some (.ins C dx fs))(c:Cls X.K C)(k:Meth X.K C m g)(l:fs.lookup m=none)
  (h:Q (.ref g,[.ref a]) s):wpAny (model X.prog X.w) A (getMethod (.ref a) m pl) Q E s:=by
 obtain⟨mA,O,r,_,_,_⟩:=kP I.hok e
 have hn:mA m=none:=pJ.none_of (by rw[←l];exact r m)
 exact xU I.kIn O (c.get m) k.at_ k.fn hn h
theorem rd{y:V}{u:Value}{Q:Unit→Shared→Prop}(I:Inv X pins σ H s)(e:H a=some (.ins C dx fs))(c:Cls X.K C)(n:jd X.K C f)(hl:fs.length<1000)(ry:RelV y u)
  (h:∀s',Inv X pins σ (upd H a (.ins C dx (fB f y fs))) s'→Q () s'):wpAny (model X.prog X.w) A (setAttr (.ref a) f u) Q E s:=by
 obtain⟨mA,O,r,wi,_,ho⟩:=kP I.hok e
 have hz:(fs.map (·.1)).length≤sizeLine:=by rw[aad,sizeLine_eq];omega
 refine zb I.kIn O c.sa c.po n.taker c.hd wi hz fun h' O' sb=>h _ ?_
 have hd:∃o,h'.get? dx=some o:=let⟨o,_,_,e',_⟩:=O'.ns;⟨o,e'⟩
 refine I.write (x:=a) (e:=dx) (by rw[e];exact True.intro) (.inr ho) (fun b q hb z=>(sb.2 b hb).trans z) hd ?_
 refine⟨by rw[aj O.ne];exact ho,?_,O.ne,O'.obj,_,O'.ns,fun g=>?_,fun g hg=>?_⟩
 ·have:=kf f y fs;omega
 ·show pJ ((fB f y fs).lookup g) (if g=f then some u else mA g)
  rw[kb]
  by_cases q:g=f
  ·rw[if_pos q,if_pos q];exact ry
  ·rw[if_neg q,if_neg q];exact r g
 ·by_cases q:g=f
  ·rw[q];exact(jW f y fs).1
  ·refine(jW f y fs).2 g (wi g fun z=>hg ?_)
   show(if g=f then some u else mA g)=none
   rw[if_neg q];exact z
theorem Inv.made(I:Inv X pins σ H s):Inv X pins σ (upd (upd H s.heap.objs.size (.own (s.heap.objs.size+1))) (s.heap.objs.size+1) (.ins C s.heap.objs.size []))
  { s with heap:=(s.heap.push aaM).push (aaZ C s.heap.objs.size) }:=by
 have e1:(s.heap.push aaM).get? s.heap.objs.size=some aaM:=lE s.heap rfl
 have e2:((s.heap.push aaM).push (aaZ C s.heap.objs.size)).get? (s.heap.objs.size+1)=some (aaZ C s.heap.objs.size):=by
  have:=lE (s.heap.push aaM) (o:=aaZ C s.heap.objs.size) rfl
  rwa [aaT]at this
 have e3:(s.heap.push aaM).Ns s.heap.objs.size (fun _=>none):=⟨aaM,#[],_,e1,rfl,(fun e he=>absurd he (by simp)),fun _=>rfl⟩
 have I1:=I.laid (a:=s.heap.objs.size) (o:=.own (s.heap.objs.size+1)) (h':=s.heap.push aaM) (t':=s.toks) (fun b u q=>bY _ q) (gO _) ⟨_,e1⟩
 refine I1.laid (a:=s.heap.objs.size+1) (o:=.ins C s.heap.objs.size []) (t':=s.toks) (fun b u q=>bY _ q) (Nat.le_of_eq (aaT _ _)) ?_
 have ne:s.heap.objs.size≠s.heap.objs.size+1:=aab (aaP _)
 refine⟨by rw[aj ne,ak],aaH _,ne,e2,fun _=>none,(Heap.Ns1.of_empty e3).at fun o q=>bY _ q,fun _=>True.intro,fun y hy=>absurd rfl hy⟩
theorem AO{prog:Program}{w:World}{env:Env}{e:Expr}{f:Str}{pos:Pos}{s:Shared}{Q:Value→Shared→Prop}(hb:attributeBase e f env (eval e env)=eval e env)
  (h:wpAny (model prog w) A (eval e env) (fun o s₁=>wpAny (model prog w) A (getAttr o f true) Q E s₁) E s):wpAny (model prog w) A (eval (.Attribute e f pos) env) Q E s:=
 Attribute_any_ h (by rw[arm_eval_Attribute,hb])
end
def Gg(K:aT)(ta:TE)(f:Str):TE:=fun σ H Q=>ta σ H fun x H1=>∃a C dx fs v,x=.ref a∧H1 a=some (.ins C dx fs)∧Cls K C∧jd K C f∧fs.lookup f=some v∧Q v H1
def BH(K:aT)(ta tv:TE)(f:Str):TS:=fun D σ H=>tv σ H fun y H1=>ta σ H1 fun x H2=>∃a C dx fs,x=.ref a∧H2 a=some (.ins C dx fs)∧Cls K C∧jd K C f∧fs.length<1000 ∧
 D.nx σ (upd H2 a (.ins C dx (fB f y fs)))
section
variable {X:Cx}{o e value:Expr}{f:Str}{pos pos' tpos:Pos}{ta tv:TE}
theorem rL(he:PE X e ta)(hb:attributeBase e f X.env (eval e X.env)=eval e X.env):PE X (.Attribute e f pos) (Gg X.K ta f):=by
 intro pins s σ H Q I h
 refine AO hb (thn (he pins s σ H _ I h) fun u s1 ⟨x,H1,I1,rx,a,C,dx,fs,v,ex,ea,c,n,l,q⟩=>?_)
 subst ex
 obtain rfl:u=Value.ref a:=rx
 exact su I1 ea c n l fun u' s2 I2 ru=>⟨v,H1,I2,ru,q⟩
theorem rF(ha:PE X o ta)(hv:PE X value tv)(hs:swapsWith value (some (.Attribute o f pos')) pos.line X.env=pure false):PS X (.Assign [.Attribute o f pos'] value pos) (BH X.K ta tv f):=by
 intro pins s σ H D I h
 refine plainObj_wpAny_Assign_Attribute (thn (hv pins s σ H _ I h) fun u s1 ⟨y,H1,I1,ry,q⟩=>thn (ha pins s1 σ H1 _ I1 q) fun ov s2 ⟨x,H2,I2,rx,a,C,dx,fs,ex,ea,c,n,l,q2⟩=>?_) hs
 subst ex
 obtain rfl:ov=Value.ref a:=rx
 exact rd I2 ea c n l ry fun s3 I3=>⟨σ,_,I3,q2⟩
theorem Bd{pl:Sem Bool}{m:Str}{apos:Pos}{args:List Expr}{pins:List (Addr×Obj)}{s:Shared}{σ:St}{H:Hp}{Q:Value→Shared→Prop}{te:TE}(he:PE X e te)(I:Inv X pins σ H s)
  (h:te σ H fun x H1=>∃a C dx fs g,x=.ref a∧H1 a=some (.ins C dx fs)∧Cls X.K C∧Meth X.K C m g∧fs.lookup m=none ∧
   ∀s1,Inv X pins σ H1 s1→wpAny (model X.prog X.w) X.A (callWith pos (.ref g) [.ref a] (backTo pos (starEach args X.env)) (backToKw pos (keywordEach [] X.env))) Q X.xe s1)
  (ht:eval (.Call (.Attribute e m apos) args [] pos) X.env=(do
   let ov ←eval e X.env
   standAt apos.atName
   let(f,first) ←holding [ov] (getMethod ov m pl)
   callWith pos f first (backTo pos (starEach args X.env)) (backToKw pos (keywordEach [] X.env)))):
  wpAny (model X.prog X.w) X.A (eval (.Call (.Attribute e m apos) args [] pos) X.env) Q X.xe s:=by
 refine abe (pl:=pl) (thn (he pins s σ H _ I h) fun u s1 ⟨x,H1,I1,rx,a,C,dx,fs,g,ex,ea,c,k,l,q⟩=>?_) ht
 subst ex
 obtain rfl:u=Value.ref a:=rx
 exact gv I1 ea c k l (q s1 I1)
end
section
variable {X:Cx}{pins:List (Addr×Obj)}{σ:St}{H:Hp}{s:Shared}{A:Around}{E:Value→Shared→Prop}{Q:Value→Shared→Prop}{c:Value}{b:Bool}
inductive TyOf (K:aT) (H:Hp):V→Value→Prop where
 |non:TyOf K H .non (.type "NoneType")
 |bl (x:Bool):TyOf K H (.bl x) (.type "bool")
 |int (i:Int):TyOf K H (.int i) (.type "int")
 |str (x:Str):TyOf K H (.str x) (.type "str")
 |flt (x:UInt64):TyOf K H (.flt x) (.type "float")
 |lst {a:Addr} {xs:List V} (e:H a=some (.lst xs)):TyOf K H (.ref a) (.type "list")
 |frz {a:Addr} {o:Obj} {xs:List V} (e:H a=some (.frz o (.lst xs))):TyOf K H (.ref a) (.type "list")
 |tup {a:Addr} {xs:List V} (e:H a=some (.tup xs)):TyOf K H (.ref a) (.type "tuple")
 |dK {a:Addr} {kvs:List (Key×V)} (e:H a=some (.dK kvs)):TyOf K H (.ref a) (.type "dict")
 |dT {a:Addr} {kvs:List (List Key×V)} (e:H a=some (.dT kvs)):TyOf K H (.ref a) (.type "dict")
 |ins {a C dx:Addr} {fs:List (Str×V)} (e:H a=some (.ins C dx fs)) (cl:Cls K C) (ha:aaw K (.ref C) "__class__" = some (some (.builtin "object.__class__")))
   (hn:PySem.W.specialIn K (.builtin "object.__class__") "__get__" = some (some (.builtin "getset_descriptor.__get__"))) (htk:PySem.W.takesIn K (.builtin "object.__class__")=some true)
   (hm:PySem.W.mroIn K C (.type "object")=some true):TyOf K H (.ref a) (.ref C)
theorem dN{x:V}{u t:Value}(I:Inv X pins σ H s)(rx:RelV x u)(ty:TyOf X.K H x t)(e:PySem.W.kitOne X.K t c=some b)(h:∀tk,Q (.bool b) { s with toks:=tk }):
  wpAny (model X.prog X.w) A (call (.builtin "isinstance") [u,c]) Q E s:=by
 cases ty with
 |non=>cases (show u=Value.none from rx);exact aat PySem.W.kitx_none I.kIn True.intro e (fun z=>nomatch z) h
 |bl y=>cases (show u=Value.bool y from rx);exact aat PySem.W.kitx_bool I.kIn True.intro e (fun z=>nomatch z) h
 |int i=>obtain⟨t,q⟩:=(show ∃t,u=Value.int i t from rx);cases q;exact aat PySem.W.kitx_int I.kIn True.intro e (fun z=>nomatch z) h
 |str y=>obtain⟨t,q⟩:=(show ∃t,u=Value.str y t from rx);cases q;exact aat PySem.W.kitx_str I.kIn True.intro e (fun z=>nomatch z) h
 |flt y=>obtain⟨t,q⟩:=(show ∃t,u=Value.float y t from rx);cases q;exact aat PySem.W.kitx_float I.kIn True.intro e (fun z=>nomatch z) h
 | @lst a xs ea=>
  cases (show u=Value.ref a from rx)
  obtain⟨_,_,n,_,h1⟩:=(show cv X.prog X.w H s.heap a (.lst xs) from I.hok a _ ea)
  exact aat PySem.W.kitx_list I.kIn ⟨_,h1,rfl⟩ e (fun z=>nomatch z) h
 | @frz a ob xs ea=>
  cases (show u=Value.ref a from rx)
  obtain⟨_,_,_,n,_,h1⟩:=(show cv X.prog X.w H s.heap a (.frz ob (.lst xs)) from I.hok a _ ea)
  exact aat PySem.W.kitx_list I.kIn ⟨_,h1,rfl⟩ e (fun z=>nomatch z) h
 | @tup a xs ea=>
  cases (show u=Value.ref a from rx)
  obtain⟨_,_,_,p⟩:=(show cv X.prog X.w H s.heap a (.tup xs) from I.hok a _ ea)
  obtain⟨o,h1,h2,_⟩:=p
  exact aat PySem.W.kitx_tuple I.kIn ⟨o,h1,h2⟩ e (fun z=>nomatch z) h
 | @dK a kvs ea=>
  cases (show u=Value.ref a from rx)
  obtain⟨_,_,vs,_,p⟩:=(show cv X.prog X.w H s.heap a (.dK kvs) from I.hok a _ ea)
  obtain⟨o,es,ep,h1,h2,_⟩:=p
  exact aat PySem.W.kitx_dict I.kIn ⟨o,h1,h2.1⟩ e (fun z=>nomatch z) h
 | @dT a kvs ea=>
  cases (show u=Value.ref a from rx)
  obtain⟨_,_,xs,_,o,es,ep,h1,h2,_⟩:=(show cv X.prog X.w H s.heap a (.dT kvs) from I.hok a _ ea)
  exact aat PySem.W.kitx_dict I.kIn ⟨o,h1,h2.1⟩ e (fun z=>nomatch z) h
 | @ins a C dx fs ea cl ha hn htk hm=>
  cases (show u=Value.ref a from rx)
  obtain⟨mA,O,_⟩:=kP I.hok ea
  obtain⟨od,J,_⟩:=O.look
  exact aat (PySem.W.kitx_own (cl.get _) cl.hd ha hn htk hm) I.kIn J e (fun z=>nomatch z) h
end
structure Room (k:Nat) (A:Around):Prop where
 hd:A.handled=none
 dp:A.depth+3*k+5<recursionLimit
 un:A.units+16*k+200<cLine
theorem Room.mono{j k:Nat}{A:Around}(r:Room k A)(h:j≤k):Room j A:=⟨r.hd,by have:=r.dp;omega,by have:=r.un;omega⟩
theorem Room.deeper{k:Nat}{A:Around}(r:Room (k+1) A)(env:Env):Room k (A.deeper env):=
 ⟨r.hd,by have:=r.dp;show A.depth+1+3*k+5<_;omega,by have:=r.un;show A.units+3+16*k+200<_;omega⟩
theorem rS {A:Around} {C:Addr} {us:List Value} {kw:List (Str×Value)}:(A.under (.builtin "type.__call__" ⟨.ref C::us,kw⟩)).depth=A.depth+1:=by
 first | rfl | simp [Around.under,Code.weight,Code.isCreation,Code.isGuard,Code.isCaller,Code.frames,Code.isFrame,guardIds]
theorem rR {A:Around} {C:Addr} {us:List Value} {kw:List (Str×Value)}:(A.under (.builtin "type.__call__" ⟨.ref C::us,kw⟩)).units=A.units+1:=by
 first | rfl | simp [Around.under,Code.cUnits,Code.frames,Code.isFrame]
theorem Room.make {k:Nat} {A:Around} (r:Room (k+1) A) (C:Addr) (us:List Value) (kw:List (Str×Value)):Room k (A.under (.builtin "type.__call__" ⟨.ref C::us,kw⟩)):=
 ⟨r.hd,by have:=r.dp;rw[rS];omega,by have:=r.un;rw[rR];omega⟩
theorem Room.depth{k:Nat}{A:Around}(r:Room k A):A.depth<recursionLimit:=by have:=r.dp;omega
def yZ:TA:=fun _ H Q=>Q [] H
def sX(ta:TE)(tr:TA):TA:=fun σ H Q=>ta σ H fun x H1=>tr σ H1 fun xs H2=>Q (x::xs) H2
section
variable {X:Cx}{e:Expr}{es:List Expr}{te:TE}{t:TA}{pos:Pos}
theorem eB:PA X [] yZ:=fun _ _ _ _ H Q I h=>Calls.spliced_nil ⟨[],H,I,.nil,h⟩
theorem bX(ha:PE X e te)(hr:PA X es t)(hs:starEach (e::es) X.env=(false,eval e X.env)::starEach es X.env:=by rfl):PA X (e::es) (sX te t):=by
 intro pos pins s σ H Q I h
 rw[hs]
 show wpAny _ _ (spliced ((false,eval e X.env)::backTo pos (starEach es X.env))) _ _ s
 refine Calls.spliced_cons (thn (ha pins s σ H _ I h) fun u s1 ⟨x,H1,I1,r1,q1⟩=>?_)
 exact thn (hr pos pins s1 σ H1 _ I1 q1) fun us s2 ⟨xs,H2,I2,r2,q2⟩=>⟨x::xs,H2,I2,.cons r1 r2,q2⟩
def D9(t:TA):TE:=fun σ H Q=>t σ H fun xs H1=>xs.length≤sizeLine∧∀p,H1 p=none→Q (.ref p) (upd H1 p (.tup xs))
def Gd(t:TA):TE:=fun σ H Q=>t σ H fun xs H1=>xs.length≤sizeLine∧∀p,H1 p=none→Q (.ref p) (upd H1 p (.lst xs))
theorem rJ{x1}(h:PA X es t):PE X (.Tuple es x1 pos) (D9 t):=by
 intro pins s σ H Q I hq
 refine wpAny_Tuple_spliced (thn (h pos pins s σ H _ I hq) fun us s1 ⟨xs,H1,I1,r,z,q⟩=>⟨by rw[←r.length];exact z,?_⟩)
 have hf:H1 s1.heap.objs.size=none:=I1.hok.fresh (gO _)
 refine⟨.ref s1.heap.objs.size,upd H1 s1.heap.objs.size (.tup xs),I1.laid (t':=s1.toks) (fun b u e=>bY _ e) (gO _) ?_,rfl,q _ hf⟩
 exact⟨z,us,r,⟨_,lE _ rfl,rfl,_,rfl⟩⟩
theorem wV(h:PA X es t):PE X (.List es pos) (Gd t):=by
 intro pins s σ H Q I hq
 refine wpAny_List_spliced (thn (h pos pins s σ H _ I hq) fun us s1 ⟨xs,H1,I1,r,z,q⟩=>⟨by rw[←r.length];exact z,?_⟩)
 have hf:H1 s1.heap.objs.size=none:=I1.hok.fresh (gO _)
 refine⟨.ref s1.heap.objs.size,upd H1 s1.heap.objs.size (.lst xs),I1.laid (t':=s1.toks) (fun b u e=>bY _ e) (gO _) ?_,rfl,q _ hf⟩
 exact⟨z,us,0,r,lE _ rfl⟩
end
abbrev Sp:=List V→Hp→VK→XK→Prop
abbrev CXT:=List Env→Hp→Shared→XK→Value→Shared→Prop
structure Env0 (P:Program) (w:World) (K:aT) (mg:Str→Option Value) (base:Heap) (A:Around) (outer:List Env) (s:Shared) (H:Hp):Prop where
 frames:A.frames=some outer
 mod:Mod K mg base
 bs:∀b o,base.get? b=some o→s.heap.get? b=some o∧H b=none
 bsz:base.objs.size≤s.heap.objs.size
 funs:s.heap.FunFrames base outer
 frf:∀b∈frs outer,H b=none
 hok:HOk P w H s.heap
 bare:AllBare s.gens
def CE(outer:List Env)(P:Program)(w:World)(H:Hp)(s:Shared)(Q:VK)(u:Value)(s':Shared):Prop:=
 ∃v H',s'.os=s.os∧AllBare s'.gens∧Un (frs outer) [] H H' s.heap s'.heap∧HOk P w H' s'.heap∧RelV v u∧Q v H'
def CR(CX:CXT)(outer:List Env)(P:Program)(w:World)(H:Hp)(s:Shared)(Q:VK)(E:XK)(r:Result)(s':Shared):Prop:=
 match r with
 |.ok (.ret u)=>CE outer P w H s Q u s'
 |.ok _=>False
 |.error e=>CX outer H s E e s'
structure FnOk (P:Program) (w:World) (K:aT) (mg:Str→Option Value) (base:Heap) (CX:CXT) (k:Nat) (f:Addr) (fd:FuncData) (ps:List Str) (sp:Sp):Prop where
 len:∀vs H Q E,sp vs H Q E→vs.length=ps.length
 run:∀(A:Around)(outer:List Env)(s:Shared)(H:Hp)(args:Args)(us:List Value)(vs:List V)(Q:VK)(E:XK),Room k A→Env0 P w K mg base A outer s H→BindsTo s fd args (ps.zip us)→Vals vs us→sp vs H Q E →
  codeAny (model P w) A (.call (.ref f) args) (CR CX outer P w H s Q E) s
theorem Env0.make{P:Program}{w:World}{K:aT}{mg:Str→Option Value}{base:Heap}{A:Around}{outer:List Env}{s:Shared}{H:Hp}(e:Env0 P w K mg base A outer s H)(C:Addr)(us:List Value)(kw:List (Str×Value)):
  Env0 P w K mg base (A.under (.builtin "type.__call__" ⟨.ref C::us,kw⟩)) outer s H:=⟨by first|exact e.frames | (simpa[Around.under,Code.envs,Code.isFrame,pushEnvs] using e.frames),e.mod,e.bs,e.bsz,e.funs,e.frf,e.hok,e.bare⟩
section
variable {X:Cx}{pins:List (Addr×Obj)}{σ:St}{H:Hp}{s s':Shared}
theorem Inv.env0(I:Inv X pins σ H s):Env0 X.prog X.w X.K X.mg X.base X.A X.stack s H:=
 ⟨I.ok.frames,I.ok.mod,I.bs,iS I.ok.bsz I.sz,I.stack,I.stkFree,I.hok,I.bare⟩
theorem Inv.after{Q:VK}{u:Value}(I:Inv X pins σ H s)(h:CE X.stack X.prog X.w H s Q u s'):EP X pins σ Q u s':=by
 obtain⟨v,H',os,bare,un,hok,r,q⟩:=h
 obtain⟨hh,g,d,t,os'⟩:=s'
 obtain rfl:os'=s.os:=os
 exact⟨v,H',I.call (h':=hh) (g':=g) (d':=d) (t':=t) (ch:=[]) un hok bare (fun b z=>absurd z (by simp)),r,q⟩
end
def Eh(sp:Sp)(dvs:List V)(E:XK)(t:TA):TE:=fun σ H Q=>t σ H fun vs H1=>sp (vs++dvs) H1 Q E
def A4(C:Addr)(m:Str)(sp:Sp)(dvs:List V)(E:XK)(ta:TE)(t:TA):TE:=fun σ H Q=>ta σ H fun x H1=>∃a dx fs,x=.ref a∧H1 a=some (.ins C dx fs)∧fs.lookup m=none ∧
 t σ H1 fun vs H2=>sp (x::(vs++dvs)) H2 Q E
def Ee(C:Addr)(sp:Sp)(dvs:List V)(E:XK)(t:TA):TE:=fun σ H Q=>t σ H fun vs H1=>∀x dx,H1 x=none→H1 dx=none→dx≠x →
 sp (.ref x::(vs++dvs)) (upd (upd H1 dx (.own x)) x (.ins C dx [])) (fun v H2=>v=.non∧Q (.ref x) H2) E
def Binds(K:aT)(fd:FuncData)(ps:List Str)(ds:List Value):Prop:=
 ∀(s:Shared)(us:List Value),K.In s.heap→(us++ds).length=ps.length→BindsTo s fd ⟨us,[]⟩ (ps.zip (us++ds))
theorem Binds.all{K:aT}{fd:FuncData}{ps:List Str}(h:∀us:List Value,us.length=ps.length→bindArgs fd ⟨us,[]⟩=pure (ps.zip us)):Binds K fd ps []:=fun s us _ hl=>by
 rw[aa3]at hl ⊢
 exact .of_eq (h us hl)
def Passes(CX:CXT)(X:Cx)(E:XK):Prop:=∀(pins:List (Addr×Obj))(σ:St)(H:Hp)(s:Shared)(e:Value)(s':Shared),Inv X pins σ H s→CX X.stack H s E e s'→X.xe e s'
section
variable {X:Cx}{CX:CXT}{k:Nat}{f C:Addr}{fd:FuncData}{ps:List Str}{sp:Sp}{dvs:List V}{ds:List Value}{E:XK}{x m:Str}{p pos apos:Pos}{e o:Expr}{es:List Expr}{ta:TE}{t:TA}
theorem rm{pins:List (Addr×Obj)}{σ:St}{H:Hp}{s:Shared}{Q:VK}{us:List Value}{vs:List V}(F:FnOk X.prog X.w X.K X.mg X.base CX k f fd ps sp)(hr:Room k X.A)(hb:Binds X.K fd ps ds)(hd:Vals dvs ds)(hx:Passes CX X E)
  (I:Inv X pins σ H s) (r:Vals vs us) (h:sp (vs++dvs) H Q E):wpAny (model X.prog X.w) X.A (call (.ref f) us) (EP X pins σ Q) X.xe s:=by
 have r2:Vals (vs++dvs) (us++ds):=r.append hd
 have hl:(us++ds).length=ps.length:=by rw[←r2.length];exact F.len _ _ _ _ h
 refine wpAny_call (codeAny_mono (F.run X.A X.stack s H ⟨us,[]⟩ (us++ds) (vs++dvs) Q E hr I.env0 (hb s us I.kIn hl) r2 h) fun r s' hq=>?_)
 cases r with
 |error e=>exact hx pins σ H s e s' I hq
 |ok fl=>
  cases fl with
  |ret u=>exact I.after hq
  |next=>exact False.elim hq
  |brk=>exact False.elim hq
  |cont=>exact False.elim hq
theorem zL(F:FnOk X.prog X.w X.K X.mg X.base CX k f fd ps sp)(hr:Room k X.A)(hg:Gl X x)(hm:X.mg x=some (.ref f))(hk:aaE X.K (.ref f)=true)(hb:Binds X.K fd ps ds)(hd:Vals dvs ds)(hx:Passes CX X E)
  (ha:PA X (e::es) t) (hdb:(x==("__debug__":Str))=false:=by decide) (he:starEach (e::es) X.env=(false,eval e X.env)::starEach es X.env:=by rfl) (hpl:(backTo pos (starEach es X.env)).any (·.1)=false:=by rfl):
  PE X (.Call (.Name x p) (e::es) [] pos) (Eh sp dvs E t):=by
 intro pins s σ H Q I h
 refine wpAny_Call_Name_kw (jw I hg hm ?_ hdb)
 refine PySem.W.callWith_K (h₀:=X.base) I.ok.mod.kin hk (thn (ha pos pins s σ H _ I h) fun us s1 ⟨vs,H1,I1,r,q⟩=>⟨I1.kIn,?_⟩) he hpl
 exact rm F hr hb hd hx I1 r q
theorem oQ{pl:Sem Bool}(he:PE X o ta)(c:Cls X.K C)(hm:Meth X.K C m f)(F:FnOk X.prog X.w X.K X.mg X.base CX k f fd ps sp)(hr:Room k X.A)(hb:Binds X.K fd ps ds)(hd:Vals dvs ds)(hx:Passes CX X E)(ha:PA X (e::es) t)
  (hst:starEach (e::es) X.env=(false,eval e X.env)::starEach es X.env:=by rfl) (hpl:(backTo pos (starEach es X.env)).any (·.1)=false:=by rfl)
  (ht:eval (.Call (.Attribute o m apos) (e::es) [] pos) X.env=(do
   let ov ←eval o X.env
   standAt apos.atName
   let(f,first) ←holding [ov] (getMethod ov m pl)
   callWith pos f first (backTo pos (starEach (e::es) X.env)) (backToKw pos (keywordEach [] X.env))):=by rfl):
  PE X (.Call (.Attribute o m apos) (e::es) [] pos) (A4 C m sp dvs E ta t):=by
 intro pins s σ H Q I h
 refine abe (pl:=pl) (thn (he pins s σ H _ I h) fun u s1 ⟨x,H1,I1,rx,a,dx,fs,ex,ea,l,q⟩=>?_) ht
 subst ex
 obtain rfl:u=Value.ref a:=rx
 refine gv I1 ea c hm l ?_
 refine PySem.W.callWith_K (first:=[.ref a]) (h₀:=X.base) I.ok.mod.kin hm.kp (thn (ha pos pins s1 σ H1 _ I1 q) fun us s2 ⟨vs,H2,I2,r,q2⟩=>⟨I2.kIn,?_⟩) hst hpl
 exact rm (us:=.ref a::us) (vs:=.ref a::vs) F hr hb hd hx I2 (.cons rfl r) q2
theorem wR{pl:Sem Bool}(he:PE X o ta)(c:Cls X.K C)(hm:Meth X.K C m f)(F:FnOk X.prog X.w X.K X.mg X.base CX k f fd ps sp)(hr:Room k X.A)(hb:Binds X.K fd ps ds)(hd:Vals dvs ds)(hx:Passes CX X E)
  (ht:eval (.Call (.Attribute o m apos) [] [] pos) X.env=(do
   let ov ←eval o X.env
   standAt apos.atName
   let(f,first) ←holding [ov] (getMethod ov m pl)
   callWith pos f first (backTo pos (starEach [] X.env)) (backToKw pos (keywordEach [] X.env))):=by rfl):
  PE X (.Call (.Attribute o m apos) [] [] pos) (A4 C m sp dvs E ta yZ):=by
 intro pins s σ H Q I h
 refine abe (pl:=pl) (thn (he pins s σ H _ I h) fun u s1 ⟨x,H1,I1,rx,a,dx,fs,ex,ea,l,q⟩=>?_) ht
 subst ex
 obtain rfl:u=Value.ref a:=rx
 refine gv I1 ea c hm l ?_
 exact PySem.W.callWith_K0 (first:=[.ref a]) I1.kIn hm.kp (rm (us:=[.ref a]) (vs:=[.ref a]) F hr hb hd hx I1 (.cons rfl .nil) q)
structure Mk (K:aT) (C f:Addr):Prop where
 makes:abL K C=true
 init:aaw K (.ref C) "__init__" = some (some (.ref f))
 fn:abM K (.ref f)=true
 kp:aaE K (.ref C)=true
theorem v7{pins:List (Addr×Obj)}{σ:St}{H:Hp}{s:Shared}{Q:VK}{us:List Value}{vs:List V}(M:Mk X.K C f)(F:FnOk X.prog X.w X.K X.mg X.base CX k f fd ps sp)(hr:Room (k+1) X.A)(hb:Binds X.K fd ps ds)(hd:Vals dvs ds)
  (hx:Passes CX X E) (I:Inv X pins σ H s) (r:Vals vs us)
  (h:∀x dx,H x=none→H dx=none→dx≠x→sp (.ref x::(vs++dvs)) (upd (upd H dx (.own x)) x (.ins C dx [])) (fun v H2=>v=.non∧Q (.ref x) H2) E):
  wpAny (model X.prog X.w) X.A (call (.ref C) us) (EP X pins σ Q) X.xe s:=by
 have hq:=h (s.heap.objs.size+1) s.heap.objs.size (I.hok.fresh (Nat.le_succ _)) (I.hok.fresh (gO _)) (aab (aaP _))
 have I2:=Inv.made (C:=C) I
 have r2:Vals (V.ref (s.heap.objs.size+1)::(vs++dvs)) (Value.ref (s.heap.objs.size+1)::(us++ds)):=.cons rfl (r.append hd)
 have hl:(Value.ref (s.heap.objs.size+1)::us++ds).length=ps.length:=by
  have e:=r2.length
  rw[F.len _ _ _ _ hq]at e
  exact e.symm
 refine wpAny_call (xj (f:=f) I.kIn M.makes M.init (beq_iff_eq.mp M.fn) (codeAny_mono (F.run _ X.stack _ _ ⟨Value.ref (s.heap.objs.size+1)::us,[]⟩ (Value.ref (s.heap.objs.size+1)::(us++ds)) _ _ E (hr.make C us [])
  (I2.env0.make C us []) (hb _ (Value.ref (s.heap.objs.size+1)::us) I2.kIn hl) r2 hq) fun r s' hq'=>?_))
 cases r with
 |error e=>exact hx pins σ _ _ e s' I2 hq'
 |ok fl=>
  cases fl with
  |ret u=>
   obtain⟨v,H',I3,rv,ev,q3⟩:=I2.after hq'
   subst ev
   exact⟨rv,⟨V.ref (s.heap.objs.size+1),H',I3,rfl,q3⟩⟩
  |next=>exact False.elim hq'
  |brk=>exact False.elim hq'
  |cont=>exact False.elim hq'
theorem wU(M:Mk X.K C f)(F:FnOk X.prog X.w X.K X.mg X.base CX k f fd ps sp)(hr:Room (k+1) X.A)(hg:Gl X x)(hm:X.mg x=some (.ref C))(hb:Binds X.K fd ps ds)(hd:Vals dvs ds)(hx:Passes CX X E)
  (hdb:(x==("__debug__":Str))=false:=by decide):PE X (.Call (.Name x p) [] [] pos) (Ee C sp dvs E yZ):=by
 intro pins s σ H Q I h
 refine wpAny_Call_Name_kw (jw I hg hm ?_ hdb)
 exact PySem.W.callWith_K0 I.kIn M.kp (v7 (us:=[]) M F hr hb hd hx I .nil h)
end
section
variable {X:Cx}{CX:CXT}{k:Nat}{f C:Addr}{fd:FuncData}{ps ks:List Str}{sp:Sp}{E:XK}{x m:Str}{p pos apos kpos:Pos}{e o:Expr}{es:List Expr}{kws:List Keyword}{te ta:TE}{t tk:TA}{nm:Option Str}
structure KBinds (K:aT) (fd:FuncData) (ps ks:List Str) (g:List Value→List Value→List Value) (gV:List V→List V→List V):Prop where
 to:∀(s:Shared)(us ws:List Value),K.In s.heap→(g us ws).length=ps.length→BindsTo s fd ⟨us,ks.zip ws⟩ (ps.zip (g us ws))
 rel:∀{vs:List V}{us:List Value}{zs:List V}{ws:List Value},Vals vs us→Vals zs ws→Vals (gV vs zs) (g us ws)
variable {g:List Value→List Value→List Value}{gV:List V→List V→List V}
end
structure FnScope (N P:List Str) (sc:Scope):Prop where
 kind:sc.kind=.function
 co:sc.isCoroutine=false
 gen:sc.isGenerator=false
 nd:N.Nodup
 pre:N.take P.length=P
 par:∀x∈P,sc.names.lookup x=some .local∨sc.names.lookup x=some .cell
 nofree:∀y∈sc.names,y.2≠.free
theorem n4{kindOf:Str→Option NameKind}{x:Str}:∀{binds:List (Str×Value)}{m:Str→Option Value},(∀v,(x,v)∉binds)→bindL kindOf binds m x=m x
 |[],_,_=>rfl
 | (n,v)::r,m,h=>by
  unfold bindL
  rw[n4 fun w hw=>h w (aan _ hw)]
  split
  ·have:x≠n:=by rintro rfl;exact h v aaL
   simp[this]
  ·rfl
theorem n6{kindOf:Str→Option NameKind}{x:Str}:∀{binds:List (Str×Value)}{m:Str→Option Value},(∀v,(x,v)∉binds)→bindC kindOf binds m x=m x
 |[],_,_=>rfl
 | (n,v)::r,m,h=>by
  unfold bindC
  rw[n6 fun w hw=>h w (aan _ hw)]
  split
  ·rfl
  ·have:x≠n:=by rintro rfl;exact h v aaL
   simp[this]
theorem n5{kindOf:Str→Option NameKind}{x:Str}{v:Value}:∀{P:List Str}{vs:List Value}{i:Nat}{m:Str→Option Value},P.Nodup→P[i]? = some x→vs[i]? = some v→kindOf x=some .local →
  bindL kindOf (P.zip vs) m x=some v
 |[],_,_,_,_,h,_,_=>by simp at h
 |_::_,[],_,_,_,_,h,_=>by simp at h
 |p::P,w::vs,0,m,nd,h1,h2,hk=>by
  simp at h1 h2;subst h1;subst h2
  show bindL kindOf ((p,w)::P.zip vs) m p=_
  unfold bindL
  rw[n4 fun v hv=>(List.nodup_cons.mp nd).1 (List.of_mem_zip hv).1,if_pos hk]
  simp
 |p::P,w::vs,i+1,m,nd,h1,h2,hk=>by
  show bindL kindOf ((p,w)::P.zip vs) m x=_
  unfold bindL
  exact n5 (i:=i) (List.nodup_cons.mp nd).2 (by simpa using h1) (by simpa using h2) hk
theorem n8{kindOf:Str→Option NameKind}{x:Str}{v:Value}:∀{P:List Str}{vs:List Value}{i:Nat}{m:Str→Option Value},P.Nodup→P[i]? = some x→vs[i]? = some v→kindOf x≠some .local →
  bindC kindOf (P.zip vs) m x=some v
 |[],_,_,_,_,h,_,_=>by simp at h
 |_::_,[],_,_,_,_,h,_=>by simp at h
 |p::P,w::vs,0,m,nd,h1,h2,hk=>by
  simp at h1 h2;subst h1;subst h2
  show bindC kindOf ((p,w)::P.zip vs) m p=_
  unfold bindC
  rw[n6 fun v hv=>(List.nodup_cons.mp nd).1 (List.of_mem_zip hv).1,if_neg hk]
  simp
 |p::P,w::vs,i+1,m,nd,h1,h2,hk=>by
  show bindC kindOf ((p,w)::P.zip vs) m x=_
  unfold bindC
  exact n8 (i:=i) (List.nodup_cons.mp nd).2 (by simpa using h1) (by simpa using h2) hk
def start(N:List Str)(vs:List V):St:=vs.map some++aaS (N.length-vs.length) none
def gP(CX:CXT)(P:Program)(w:World)(K:aT)(mg:Str→Option Value)(base:Heap)(N:List Str)(qual:Str)(scope:Scope)(f:Addr)(cd:Value)(A:Around)(outer:List Env)(s:Shared)(H:Hp)(E:XK):Cx where
 prog:=P
 w:=w
 K:=K
 mg:=mg
 base:=base
 A:=A.deeper (envOfC qual scope s.heap.objs.size f cd)
 N:=N
 s₀:=s
 H₀:=H
 env:=envOfC qual scope s.heap.objs.size f cd
 outer:=outer
 stack:=envOfC qual scope s.heap.objs.size f cd::outer
 ex:=[]
 calm:=true
 fn:=fun _=>true
 pn:=[]
 xe:=fun e s'=>wpAny (model P w) (A.deeper (envOfC qual scope s.heap.objs.size f cd)) (leaving (envOfC qual scope s.heap.objs.size f cd) e) (fun _ s''=>CX outer H s E e s'') (fun e' s''=>CX outer H s E e' s'') s'
theorem qL{sc:Scope}{n:Nat}{x:Str}(h:sc.names.lookup x=some .cell):∃c,(cellsFrom n sc.names []).lookup x=some c:=by
 have q:=PySem.W.cellsFrom_some sc.names n [] (.inl h)
 exact Option.isSome_iff_exists.mp q
theorem vd{CX:CXT}{P:Program}{w:World}{K:aT}{mg:Str→Option Value}{base:Heap}{N ps:List Str}{qual:Str}{scope:Scope}{f:Addr}{cd:Value}{A:Around}{outer:List Env}{s s1:Shared}{H:Hp}{E:XK}{us:List Value}{vs:List V}
  (S:FnScope N ps scope) (hd:A.handled=none) (e0:Env0 P w K mg base A outer s H) (hl:vs.length=ps.length) (r:Vals vs us)
  (x:InCallC s s.heap.objs.size (bindL (envOfC qual scope s.heap.objs.size f cd).kindOf (ps.zip us) fun _=>none) (cellsFrom (s.heap.objs.size+1) scope.names []) (bindC (envOfC qual scope s.heap.objs.size f cd).kindOf (ps.zip us) fun _=>none) s1):
  Inv (gP CX P w K mg base N qual scope f cd A outer s H E) [] (start N vs) H s1:=by
 have hpl:ps.length≤N.length:=by have:=congrArg List.length S.pre;rw[aaD]at this;omega
 obtain⟨h1,tk,rfl,hk⟩:=x.done
 have noA:∀b:Addr,b∉(gP CX P w K mg base N qual scope f cd A outer s H E).ex:=fun b z=>absurd (show b∈([]:List Addr) from z) (by simp)
 refine⟨⟨e0.mod,S.kind,rfl,rfl,gO _,fun y z c h1 h2=>?_,fun y hy=>?_,fun y c _ h=>?_,fun _=>hd,Around.frames_deeper e0.frames,.inr ⟨rfl,rfl⟩,fun b z=>absurd z (noA b),e0.bs,e0.bsz,fun b _ _=>noA b,fun b z=>absurd z (noA b),e0.funs,e0.frf⟩,
  rfl,e0.bare,Un.kept hk,⟨_,x.toInCall.ns,fun i y v h1 h2 h3=>?_⟩,fun y c h=>⟨_,x.cell y c h⟩,e0.hok.fresh (gO _),fun y c h=>?_,fun p hp=>absurd (show p∈([]:List (Addr×Obj)) from hp) (by simp),e0.hok.kept hk,?_⟩
 ·exact name_of_addr x.apart (PySem.mem_of_lookup h1) (PySem.mem_of_lookup h2)
 ·have hy:scope.names.lookup y=some .cell∨scope.names.lookup y=some .free:=hy
  rcases hy with hy|hy
  ·exact qL hy
  ·exact absurd rfl (S.nofree _ (PySem.mem_of_lookup hy))
 ·exact abG (x.above y c (PySem.mem_of_lookup h))
 ·have hi:i<vs.length:=by
   unfold start at h2
   by_cases hi:i<vs.length
   ·exact hi
   ·rw[aaB (by simpa using hi)]at h2
    rw[aby]at h2
    split at h2<;>cases h2
  have ha:vs[i]? = some v:=by
   unfold start at h2
   rw[aax (by simpa using hi),aae]at h2
   cases e:vs[i]? with
   |none=>rw[e]at h2;cases h2
   |some a=>rw[e]at h2;cases h2;rfl
  obtain⟨u,hu,rv⟩:=r.get ha
  have hp:ps[i]? = some y:=by
   rw[←S.pre,List.getElem?_take_of_lt (by omega)];exact h1
  have ndP:ps.Nodup:=by rw[←S.pre];exact S.nd.sublist (List.take_sublist _ _)
  refine⟨u,rv,?_⟩
  rcases S.par y (aaf hp) with k|k
  ·exact .inl ⟨k,n5 ndP hp hu k⟩
  ·obtain⟨c,e⟩:=qL (n:=s.heap.objs.size+1) k
   refine .inr ⟨.inl k,c,e,?_⟩
   have q:=x.cell y c e
   rw[n8 ndP hp hu (by show scope.names.lookup y≠_;rw[k];decide)]at q
   exact q
 ·exact e0.hok.fresh (abG (x.above y c (PySem.mem_of_lookup h)))
 ·unfold start
  show _=N.length
  rw[aai,aad,aa5]
  omega
theorem Fb{CX:CXT}{P:Program}{w:World}{K:aT}{mg:Str→Option Value}{base:Heap}{k:Nat}{f:Addr}{name qual:Str}{params:Arguments}{body:List Stmt}{scope:Scope}{dV kV doc pm cdv ct oc:Value}{an od:Option Addr}
  {osl:Array (Option Value)} {N ps:List Str} {sp:Sp} (lk:K.lookup f=some ⟨oc,od,.func (aaF name qual params body scope dV kV doc pm an cdv ct),osl⟩) (hcd:abo K cdv qual=true) (S:FnScope N ps scope)
  (len:∀vs H Q E,sp vs H Q E→vs.length=ps.length)
  (hbody:∀(A:Around)(outer:List Env)(s:Shared)(H:Hp)(vs:List V)(Q:VK)(E:XK),Room k (A.deeper (envOfC qual scope s.heap.objs.size f cdv))→sp vs H Q E →
   ∃t,PSs (gP CX P w K mg base N qual scope f cdv A outer s H E) body t∧t { nx:=fun _ H'=>Q .non H',rt:=Q } (start N vs) H):
  FnOk P w K mg base CX (k+1) f (aaF name qual params body scope dV kV doc pm an cdv ct) ps sp:=by
 refine⟨len,fun A outer s H args us vs Q E hr e0 hb r hsp=>?_⟩
 have hl:=len _ _ _ _ hsp
 have KX:K.In s.heap:=e0.mod.kin.keeps fun b o e=>(e0.bs b o e).1
 have lim:s.heap.NoLimit:=e0.mod.nolimit.keeps fun b o e=>(e0.bs b o e).1
 have hkind:∀y∈ps.zip us,scope.names.lookup y.1=some .local∨(scope.names.lookup y.1=some .cell∧((cellsFrom (s.heap.objs.size+1) scope.names []).lookup y.1).isSome=true):=fun ⟨n,v⟩ hy=>by
  rcases S.par n (List.of_mem_zip hy).1 with q|q
  ·exact .inl q
  ·exact .inr ⟨q,PySem.W.cellsFrom_some _ _ _ (.inl q)⟩
 refine codeAny_call_function hr.depth (KX _ _ lk) rfl S.co S.gen rfl (PySem.W.codeRec_of KX hcd) (hb _ _ _ _ ?_)
 refine wpAny_newFunctionEnv_cells S.kind hkind fun env he s1 x=>?_
 subst he
 refine⟨lim.keeps x.toInCall.keep,codeAny_func ?_⟩
 obtain⟨t,ht,hq⟩:=hbody A outer s H vs Q E (hr.deeper _) hsp
 have I:Inv (gP CX P w K mg base N qual scope f cdv A outer s H E) [] (start N vs) H s1:=vd S hr.hd e0 hl r x
 refine wpAny_mono (ht [] s1 (start N vs) H _ I hq) (fun fl s' hs=>?_) fun e s' hs=>hs
 have fin:∀{σ':St}{H':Hp}{v:V}{u:Value},Inv (gP CX P w K mg base N qual scope f cdv A outer s H E) [] σ' H' s'→RelV v u→Q v H'→CE outer P w H s Q u s':=
  fun {σ' H' v u} J rv q=>⟨v,H',J.os,J.bare,J.base,J.hok,rv,q⟩
 cases fl with
 |ret u=>
  obtain⟨v,σ',H',J,rv,q⟩:=hs
  exact fin J rv q
 |next=>
  obtain⟨σ',H',J,q⟩:=hs
  exact fin (v:=V.non) (u:=Value.none) J rfl q
 |brk=>
  obtain⟨_,_,_,q⟩:=hs
  exact False.elim q
 |cont=>
  obtain⟨_,_,_,q⟩:=hs
  exact False.elim q
section
variable {X:Cx}{x:Str}{p pos:Pos}{e:Expr}{es:List Expr}{t:TA}{id T:String}{r:List V→Hp→VK→Prop}
def tCB(r:List V→Hp→VK→Prop)(t:TA):TE:=fun σ H Q=>t σ H fun vs H1=>r vs H1 Q
theorem hI (hc:gH X (.builtin id) r) (hg:Gl X x) (hm:X.mg x=none) (hv:bootBuiltins x=some (.builtin id)) (ha:PA X (e::es) t) (hn:x≠"__name__":=by decide) (hdb:(x==("__debug__":Str))=false:=by decide)
  (he:starEach (e::es) X.env=(false,eval e X.env)::starEach es X.env:=by rfl) (hpl:(backTo pos (starEach es X.env)).any (·.1)=false:=by rfl):PE X (.Call (.Name x p) (e::es) [] pos) (tCB r t):=by
 intro pins s σ H Q I h
 refine wpAny_Call_Name_kw (hJ I hg hm hv ?_ hn hdb)
 exact PyProof.Rows.callWith_builtin1 (thn (ha pos pins s σ H _ I h) fun us s1 ⟨vs,H1,I1,r1,q1⟩=>hc pins s1 σ H1 vs us Q I1 r1 q1) he hpl
theorem uT (hc:gH X (.type T) r) (hg:Gl X x) (hm:X.mg x=none) (hv:bootBuiltins x=some (.type T)) (ha:PA X (e::es) t) (hn:x≠"__name__":=by decide) (hdb:(x==("__debug__":Str))=false:=by decide)
  (he:starEach (e::es) X.env=(false,eval e X.env)::starEach es X.env:=by rfl) (hpl:(backTo pos (starEach es X.env)).any (·.1)=false:=by rfl):PE X (.Call (.Name x p) (e::es) [] pos) (tCB r t):=by
 intro pins s σ H Q I h
 refine wpAny_Call_Name_kw (hJ I hg hm hv ?_ hn hdb)
 exact PyProof.Rows.callWith_type1 (thn (ha pos pins s σ H _ I h) fun us s1 ⟨vs,H1,I1,r1,q1⟩=>hc pins s1 σ H1 vs us Q I1 r1 q1) he hpl
end
end L2
namespace HT
open PySem PyProof.Rows
section
open PySem.SeqAt
open PySem.AutoSeq1 (wpAny_loadPart')
open PySem.MeetsSeq PySem.MeetsSeq2 PySem.MeetsSeq3
end
section
variable {prog:Program}{w:World}{A:Around}{E:Value→Shared→Prop}{s:Shared}
theorem AK{t b:Addr}{vs ws:List Value}{Q:Value→Shared→Prop}(ht:IsTup s.heap t vs.toArray)(hb:IsTup s.heap b ws.toArray)(hv:vs≠[])
  (h1:ws=[]→Q (.ref t) s) (h2:ws≠[]→Q (.ref s.heap.objs.size) { s with heap:=s.heap.push { cls:=.type "tuple",data:=.seq (vs++ws).toArray } })
  (hsz:vs.length+ws.length≤sizeLine):wpAny (model prog w) A (binaryOp .Add (.ref t) (.ref b)) Q E s:=by
 obtain⟨⟨cls,dd,data,sl⟩,ho,hc,n,hd⟩:=id ht
 obtain⟨⟨cls2,dd2,data2,sl2⟩,ho2,hc2,n2,hd2⟩:=id hb
 simp only at hc hd hc2 hd2
 subst hc hd hc2 hd2
 have e:vs.toArray++ws.toArray=(vs++ws).toArray:=by simp
 by_cases hw:ws=[]
 ·exact concat_meets ⟨_,ho,rfl⟩ ⟨_,ho2,rfl⟩ noFill_tuple_add seq_tuple_add PySem.F.slot_tuple_add PySem.F.entry_tuple_add (PySem.F.args_tuple_add_2 _ _)
   (tuple_addW1 t b vs.toArray ws.toArray n n2 dd dd2 sl sl2 (by simpa using hv) (by simp[hw])) ⟨ho,ho2,h1 hw⟩
 ·refine concat_meets ⟨_,ho,rfl⟩ ⟨_,ho2,rfl⟩ noFill_tuple_add seq_tuple_add PySem.F.slot_tuple_add PySem.F.entry_tuple_add (PySem.F.args_tuple_add_2 _ _)
   (tuple_addW2 t b vs.toArray ws.toArray n n2 dd dd2 sl sl2 (by simpa using hv) (by simpa using hw) (by rw[oF,oF];exact hsz)) ⟨ho,ho2,?_⟩
  rw[e]
  exact h2 hw
def sIx(n d:Nat):Option Int→Nat
 |none=>d
 |some v=>if v<0 then (v+(n:Int)).toNat else min v.toNat n
theorem El(n d:Nat):sIx n d none=d:=rfl
theorem BG(n d:Nat)(hd:d≤n)(o:Option Int):sIx n d o≤n:=by
 cases o with
 |none=>exact hd
 |some v=>
  show(if v<0 then (v+(n:Int)).toNat else min v.toNat n)≤n
  by_cases hv:v<0
  ·rw[if_pos hv];omega
  ·rw[if_neg hv];exact Nat.min_le_right _ _
theorem uk(v:Int)(n d:Nat):(if v<0 then max (v+(n:Int)) 0 else min v (n:Int))=((sIx n d (some v):Nat):Int):=by
 show(if v<0 then max (v+(n:Int)) 0 else min v (n:Int))=(((if v<0 then (v+(n:Int)).toNat else min v.toNat n):Nat):Int)
 by_cases hv:v<0
 ·simp only[if_pos hv];omega
 ·simp only[if_neg hv];omega
theorem sN(lo hi:Option Int)(n:Nat):Builtin.Slice.sliceAdjust lo hi 1 (n:Int)=(((sIx n 0 lo:Nat):Int),((sIx n n hi:Nat):Int)):=by
 have h1:¬((1:Int)<0):=by omega
 unfold Builtin.Slice.sliceAdjust
 simp only[h1,if_false]
 refine Prod.ext ?_ ?_
 ·cases lo with
  |none=>rfl
  |some v=>exact uk v n 0
 ·cases hi with
  |none=>rfl
  |some v=>exact uk v n n
theorem rH(i j:Nat):Builtin.Slice.slicePlaces (i:Int) (j:Int) 1=j-i:=by
 unfold Builtin.Slice.slicePlaces
 have h1:(1:Int)>0:=by omega
 simp only[h1,if_true,Int.ediv_one]
 split<;>omega
theorem la{v:Value}{o:Option Int}{Q:Option Int→Shared→Prop}(p:IsPart v o)(h:Q o s):wpAny (model prog w) A (Builtin.Slice.slicePartIndex v) Q E s:=by
 cases p with
 |none=>exact slicePart_none h
 |int i t=>exact slicePart_int h
theorem jM{sl:Addr}{vl vu:Value}{lo hi:Option Int}{n:Nat}{Q:Int×Int×Nat→Shared→Prop}(hs:s.heap.IsSliceOf sl vl vu .none)(pl:IsPart vl lo)(pu:IsPart vu hi)
  (h:Q (((sIx n 0 lo:Nat):Int),1,sIx n n hi-sIx n 0 lo) s):wpAny (model prog w) A (Builtin.Slice.sliceApplied (.ref sl) (pure (n:Int))) Q E s:=by
 obtain⟨os,hos,hcs,hds⟩:=id hs
 unfold Builtin.Slice.sliceApplied Builtin.Slice.sliceFields
 refine wpAny_bind (wpAny_bind (wpAny_field hos hds (x:=vl) rfl (wpAny_bind (wpAny_field hos hds (x:=vu) rfl (wpAny_bind (wpAny_field hos hds (x:=.none) rfl (wpAny_pure ?_)))))))
 refine wpAny_bind (slicePart_none ?_)
 show wpAny _ _ (if ((1:Int)==0)=true then _ else _) _ _ s
 rw[if_neg (by decide)]
 refine wpAny_bind (la pl (wpAny_bind (la pu (wpAny_bind (wpAny_pure ?_)))))
 show wpAny _ _ (match Builtin.Slice.sliceAdjust lo hi 1 (n:Int) with | (lo,hi)=>pure (lo,(1:Int),Builtin.Slice.slicePlaces lo hi 1)) _ _ s
 rw[sN lo hi n]
 show wpAny _ _ (pure (((sIx n 0 lo:Nat):Int),(1:Int),Builtin.Slice.slicePlaces ((sIx n 0 lo:Nat):Int) ((sIx n n hi:Nat):Int) 1)) _ _ s
 rw[rH]
 exact wpAny_pure h
theorem wK(xs:Array Value)(i k:Nat):((aaN k).filterMap fun (m:Nat)=>xs[((i:Int)+(m:Int)*1).toNat]?).toArray=((xs.toList.drop i).take k).toArray:=by
 have e:(fun (m:Nat)=>xs[((i:Int)+(m:Int)*1).toNat]?)=fun m=>xs[i+m]?:=by
  funext m
  have:((i:Int)+(m:Int)*1).toNat=i+m:=by omega
  rw[this]
 rw[e]
 have:=pick_run xs i k
 rw[List.filterMap_map]at this
 have e2:((fun x=>xs[x]?)∘fun x=>i+x)=fun m=>xs[i+m]?:=rfl
 rw[e2]at this
 rw[this]
theorem jA{t sl:Addr}{items:Array Value}{vl vu:Value}{lo hi:Option Int}{Q:Value→Shared→Prop}(ht:IsTup s.heap t items)(hs:s.heap.IsSliceOf sl vl vu .none)(pl:IsPart vl lo)(pu:IsPart vu hi)
  (hw:¬(sIx items.size 0 lo=0∧sIx items.size items.size hi=items.size))
  (h:Q (.ref s.heap.objs.size) { s with heap:=s.heap.push { cls:=.type "tuple",data:=.seq ((items.toList.drop (sIx items.size 0 lo)).take (sIx items.size items.size hi-sIx items.size 0 lo)).toArray } })
  (hsz:items.size≤sizeLine):wpAny (model prog w) A (getItem (.ref t) (.ref sl)) Q E s:=by
 have htake:sizeOk (.seq ((items.toList.drop (sIx items.size 0 lo)).take (sIx items.size items.size hi-sIx items.size 0 lo)).toArray):=by
  show((items.toList.drop (sIx items.size 0 lo)).take (sIx items.size items.size hi-sIx items.size 0 lo)).toArray.size≤sizeLine
  rw[oF,aaD,List.length_drop,aag]
  omega
 have hj:sIx items.size items.size hi≤items.size:=BG _ _ (gO _) hi
 obtain⟨os,hos,hcs,hds⟩:=id hs
 have hTs:s.TypeIs (.ref sl) "slice":=⟨os,hos,hcs⟩
 unfold getItem
 try with_reducible refine wpAny_holding ?_
 first | refine wpAny_bind (wpAny_pure ?_) | skip
 refine wpAny_bind (wpAny_sequenceKey ht.typeIs (by decide) ?_)
 refine wpAny_bind (wpAny_callSpecial?_slot (name:=Str.ofString "__getitem__") ht.typeIs PyProof.Rows.slot_tuple_getitem
  (wpAny_call_entry PyProof.Rows.slot_tuple_getitem ht.typeIs entry_tuple_getitem ?_ (args_tuple_getitem _ _)))
 show wpAny _ _ (Builtin.Tuple.tupleItemsOf (.ref t) >>= _) _ _ s
 refine wpAny_bind (tupleItemsOf_ ht ?_)
 refine wpAny_bind (wpAny_typeOf hTs ?_)
 rw[if_pos (by decide)]
 refine wpAny_bind (jM hs pl pu ?_)
 have hno:¬((((sIx items.size 0 lo:Nat):Int)==0&&(1:Int)==1&&(sIx items.size items.size hi-sIx items.size 0 lo)==items.size)=true):=by
  intro q
  rw[aay,aay]at q
  have q1:((sIx items.size 0 lo:Nat):Int)=0:=eq_of_beq q.1.1
  have q2:sIx items.size items.size hi-sIx items.size 0 lo=items.size:=eq_of_beq q.2
  exact hw ⟨by omega,by omega⟩
 show wpAny _ _ (if (((sIx items.size 0 lo:Nat):Int)==0&&(1:Int)==1&&(sIx items.size items.size hi-sIx items.size 0 lo)==items.size)=true then _ else _) _ _ s
 rw[if_neg hno,wK]
 first
  |exact wpAny_bind (m:=Builtin.Tuple.tupleExact _) (wpAny_newObj_type (wpAny_pure ⟨_,rfl,wpAny_pure h⟩) htake)
  |exact wpAny_bind (m:=Builtin.Tuple.tupleExact _) (wpAny_newObj_type (wpAny_bind (wpAny_pure (wpAny_pure ⟨_,rfl,wpAny_pure h⟩))) htake)
  |exact wpAny_bind (wpAny_bind (m:=Builtin.Tuple.tupleExact _) (wpAny_newObj_type (wpAny_pure (wpAny_pure ⟨_,rfl,wpAny_pure h⟩)) htake))
  |exact wpAny_bind (wpAny_bind (m:=Builtin.Tuple.tupleExact _) (wpAny_newObj_type (wpAny_pure ⟨_,rfl,wpAny_pure h⟩) htake))
end
end HT
namespace L2
open PySem PySem.Spec PyProof.Rows
abbrev TO:=St→Hp→(Option Int→Hp→Prop)→Prop
def PO(X:Cx)(e:Option Expr)(t:TO):Prop:=
 ∀(pins:List (Addr×Obj))(s:Shared)(σ:St)(H:Hp)(Q:Option Int→Hp→Prop),Inv X pins σ H s→t σ H Q →
  wpAny (model X.prog X.w) X.A (evalPart e X.env) (fun u s'=>∃o H',Inv X pins σ H' s'∧IsPart u o∧Q o H') X.xe s
def yY:TO:=fun _ H Q=>Q none H
def Eb(t:TE):TO:=fun σ H Q=>t σ H fun x H1=>∃i,x=.int i∧Q (some i) H1
section
variable {X:Cx}{e:Expr}{te:TE}{lo hi:Option Expr}{tl th:TO}{pos p2:Pos}
theorem zG:PO X none yY:=by
 intro pins s σ H Q I h
 rw[evalPart_none]
 exact wpAny_pure ⟨none,H,I,.none,h⟩
theorem zF(h:PE X e te):PO X (some e) (Eb te):=by
 intro pins s σ H Q I hw
 rw[evalPart_some]
 refine thn (h pins s σ H _ I hw) fun u s1 ⟨x,H1,I1,r1,q1⟩=>?_
 obtain⟨i,rfl,q⟩:=q1
 obtain⟨t,rfl⟩:=r1
 exact⟨some i,H1,I1,.int i t,q⟩
def SlR(X:Cx)(r:V→Option Int→Option Int→Hp→VK→Prop):Prop:=
 ∀(pins:List (Addr×Obj))(s:Shared)(σ:St)(H:Hp)(x:V)(v vl vu:Value)(lo hi:Option Int)(sl:Addr)(Q:VK),Inv X pins σ H s→RelV x v→s.heap.IsSliceOf sl vl vu .none→IsPart vl lo→IsPart vu hi→r x lo hi H Q →
  ∃T id,typeLookup (.type T) "__getitem__" = pure (some (.builtin id))∧s.TypeIs v T∧wpAny (model X.prog X.w) X.A (getItem v (.ref sl)) (EP X pins σ Q) X.xe s
theorem SlR.or{r r':V→Option Int→Option Int→Hp→VK→Prop}(h:SlR X r)(h':SlR X r'):SlR X (fun x lo hi H Q=>r x lo hi H Q∨r' x lo hi H Q):=by
 intro pins s σ H x v vl vu lo hi sl Q I rx hs pl pu q
 rcases q with q|q
 ·exact h pins s σ H x v vl vu lo hi sl Q I rx hs pl pu q
 ·exact h' pins s σ H x v vl vu lo hi sl Q I rx hs pl pu q
def tSl(r:V→Option Int→Option Int→Hp→VK→Prop)(te:TE)(tl th:TO):TE:=fun σ H Q=>te σ H fun x H1=>tl σ H1 fun l H2=>th σ H2 fun u H3=>r x l u H3 Q
theorem wQ{r:V→Option Int→Option Int→Hp→VK→Prop}(hr:SlR X r)(he:PE X e te)(hl:PO X lo tl)(hu:PO X hi th):PE X (.Subscript e (.Slice lo hi none p2) pos) (tSl r te tl th):=by
 intro pins s σ H Q I h
 refine Subscript_ (thn (he pins s σ H _ I h) fun v s1 ⟨x,H1,I1,r1,q1⟩=>?_)
 refine wpAny_Slice (thn (hl pins s1 σ H1 _ I1 q1) fun vl s2 ⟨l,H2,I2,pl,q2⟩=>thn (hu pins s2 σ H2 _ I2 q2) fun vu s3 ⟨u,H3,I3,pu,q3⟩=>?_)
 rw[evalPart_none]
 refine wpAny_pure ?_
 have I4:Inv X pins σ H3 { s3 with heap:=s3.heap.push { cls:=.type "slice",data:=.fields #[vl,vu,.none] } }:=I3.kept (t':=s3.toks) fun b ob q=>bY _ q
 obtain⟨T,id,hT,ht,hg⟩:=hr pins { s3 with heap:=s3.heap.push { cls:=.type "slice",data:=.fields #[vl,vu,.none] } } σ H3 x v vl vu l u s3.heap.objs.size Q I4 r1 (Heap.IsSliceOf.new ..) pl pu q3
 show wpAny (model X.prog X.w) X.A (subscriptTail e (.Slice lo hi none p2) v (.ref s3.heap.objs.size)) (EP X pins σ Q) X.xe { s3 with heap:=s3.heap.push { cls:=.type "slice",data:=.fields #[vl,vu,.none] } }
 exact tail_any (ops:=[.ref s3.heap.objs.size,v]) ht hT hg (by with_unfolding_all rfl)
def qH(xs:List V)(lo hi:Option Int):List V:=(xs.drop (HT.sIx xs.length 0 lo)).take (HT.sIx xs.length xs.length hi-HT.sIx xs.length 0 lo)
theorem kj(xs:List V)(lo hi:Option Int):(qH xs lo hi).length≤xs.length:=by
 unfold qH
 rw[aaD,List.length_drop]
 omega
def Gm(K:aT):V→Option Int→Option Int→Hp→VK→Prop:=fun x lo hi H Q=>∃a xs,x=.ref a∧SqT K H a xs ∧
 ¬(HT.sIx xs.length 0 lo=0∧HT.sIx xs.length xs.length hi=xs.length)∧∀p,H p=none→Q (.ref p) (upd H p (.tup (qH xs lo hi)))
theorem BB:SlR X (Gm X.K):=by
 intro pins s σ H x v vl vu lo hi sl Q I rx hs pl pu h
 obtain⟨a,xs,rfl,hx,hw,q⟩:=h
 cases rx
 obtain⟨its,r,ht,hz⟩:=I.tuple hx
 have hlen:its.toArray.size=xs.length:=by rw[oF];exact r.length.symm
 refine⟨"tuple",_,PyProof.Rows.slot_tuple_getitem.lookup,ht.typeIs,?_⟩
 refine HT.jA ht hs pl pu (by rw[hlen];exact hw) ?_ (by rw[hlen];exact hz)
 rw[hlen]
 refine⟨.ref s.heap.objs.size,_,I.laid (t':=s.toks) (o:=.tup (qH xs lo hi)) (fun b ob q=>bY _ q) (gO _) ?_,rfl,q _ (I.hok.fresh (gO _))⟩
 exact⟨iS (kj xs lo hi) hz,_,(r.drop (HT.sIx xs.length 0 lo)).take (HT.sIx xs.length xs.length hi-HT.sIx xs.length 0 lo),IsTup.new _ _⟩
def Er(K:aT):R2:=fun x y H Q=>∃a b xs ys,x=.ref a∧y=.ref b∧SqT K H a xs∧SqT K H b ys∧xs≠[]∧xs.length+ys.length≤sizeLine ∧
 (ys=[]→Q (.ref a) H)∧(ys≠[]→∀p,H p=none→Q (.ref p) (upd H p (.tup (xs++ys))))
theorem Vals.nil_iff{xs:List V}{us:List Value}(r:Vals xs us):us=[]↔xs=[]:=by
 cases r with
 |nil=>simp
 |cons _ _=>simp
theorem zR:OpR X (binaryOp .Add) (Er X.K):=by
 intro pins s σ H x y v u Q I rx ry h
 obtain⟨a,b,xs,ys,rfl,rfl,ha,hb,hx,hz,q1,q2⟩:=h
 cases rx
 cases ry
 obtain⟨its,r1,p1,_⟩:=I.tuple ha
 obtain⟨its2,r2,p2,_⟩:=I.tuple hb
 refine HT.AK p1 p2 (fun z=>hx (r1.nil_iff.mp z)) (fun z=>⟨.ref a,H,I,rfl,q1 (r2.nil_iff.mp z)⟩) (fun z=>?_) (by rw[←r1.length,←r2.length];exact hz)
 refine⟨.ref s.heap.objs.size,_,I.laid (t':=s.toks) (o:=.tup (xs++ys)) (fun b ob q=>bY _ q) (gO _) ?_,rfl,q2 (fun w=>z (r2.nil_iff.mpr w)) _ (I.hok.fresh (gO _))⟩
 exact⟨by rw[aai];exact hz,_,r1.append r2,IsTup.new _ _⟩
end
def ixN(n:Nat)(i:Int):Option Nat:=if 0≤i then (if i<n then some i.toNat else none) else if -(n:Int)≤i then some (i+n).toNat else none
def atI{α:Type}(xs:List α)(i:Int):Option α:=(ixN xs.length i).bind fun j=>xs[j]?
theorem Ag{n:Nat}{i:Int}{j:Nat}(h:ixN n i=some j):seqIndex? i n=some j∧j<n∧-(n:Int)≤i∧i<n:=by
 unfold ixN at h
 by_cases h0:0≤i
 ·rw[if_pos h0]at h
  by_cases h1:i<n
  ·rw[if_pos h1]at h
   have e:i.toNat=j:=Option.some.inj h
   exact⟨by rw[seqIndex_of h0 h1,e],by omega,by omega,h1⟩
  ·rw[if_neg h1]at h;cases h
 ·rw[if_neg h0]at h
  by_cases h1:-(n:Int)≤i
  ·rw[if_pos h1]at h
   have e:(i+n).toNat=j:=Option.some.inj h
   exact⟨by rw[seqIndex_neg (by omega) h1,e],by omega,h1,by omega⟩
  ·rw[if_neg h1]at h;cases h
theorem pF{α:Type}{xs:List α}{i:Int}{v:α}(h:atI xs i=some v):∃j,seqIndex? i xs.length=some j∧xs[j]? = some v∧j<xs.length∧-(xs.length:Int)≤i∧i<xs.length:=by
 unfold atI at h
 cases e:ixN xs.length i with
 |none=>rw[e]at h;cases h
 |some j=>
  rw[e]at h
  obtain⟨h1,h2,h3,h4⟩:=Ag e
  exact⟨j,h1,h,h2,h3,h4⟩
theorem AQ{α:Type}{xs:List α}{j:Nat}{v:α}(h:xs[j]? = some v):atI xs (j:Int)=some v:=by
 have hj:j<xs.length:=(List.getElem?_eq_some_iff.mp h).1
 have e:ixN xs.length (j:Int)=some j:=by
  unfold ixN
  rw[if_pos (by omega),if_pos (by omega)];simp
 unfold atI;rw[e];exact h
def kU(b:Expr):Prop:=∀o i,subscripted b false o i=operate [o,i] (getItem o i)
def IxR(X:Cx)(r:R2):Prop:=
 ∀(value slice:Expr)(pins:List (Addr×Obj))(s:Shared)(σ:St)(H:Hp)(x y:V)(v u:Value)(Q:VK),Inv X pins σ H s→RelV x v→RelV y u→r x y H Q →
  subscripted slice false v u=operate [v,u] (getItem v u)→wpAny (model X.prog X.w) X.A (subscriptTail value slice v u) (EP X pins σ Q) X.xe s
def MtR(X:Cx)(id:String)(r:V→List V→Hp→VK→Prop):Prop:=
 ∀(pins:List (Addr×Obj))(s:Shared)(σ:St)(H:Hp)(x:V)(xs:List V)(v:Value)(us:List Value)(Q:VK),Inv X pins σ H s→RelV x v→Vals xs us→r x xs H Q →
  wpAny (model X.prog X.w) X.A (call (.builtin id) (v::us)) (EP X pins σ Q) X.xe s
section
variable {X:Cx}{a b:Expr}{ta tb:TE}{pos:Pos}
theorem IxR.or{r r':R2}(h:IxR X r)(h':IxR X r'):IxR X (fun x y H Q=>r x y H Q∨r' x y H Q):=by
 intro value slice pins s σ H x y v u Q I rx ry q hs
 rcases q with q|q
 ·exact h value slice pins s σ H x y v u Q I rx ry q hs
 ·exact h' value slice pins s σ H x y v u Q I rx ry q hs
theorem Ba{r:R2}(hr:IxR X r)(ha:PE X a ta)(hb:PE X b tb)(hs:kU b):PE X (.Subscript a b pos) (tOp r ta tb):=by
 intro pins s σ H Q I h
 exact Subscript_ (DB ha hb I h fun v u s2 x y H2 I2 rx ry q=>hr a b pins s2 σ H2 x y v u Q I2 rx ry q (hs _ _))
def Ep(K:aT):R2:=fun x y H Q=>∃p xs i v,x=.ref p∧y=.int i∧SqL K H p xs∧atI xs i=some v∧Q v H
def En(K:aT):R2:=fun x y H Q=>∃p xs i v,x=.ref p∧y=.int i∧SqT K H p xs∧atI xs i=some v∧Q v H
def Eo:R2:=fun x y H Q=>∃z i c,x=.str z∧y=.int i∧z.length≤sizeLine∧atI z.cps.toList i=some c∧Q (.str ⟨#[c]⟩) H
theorem Af:IxR X (Ep X.K):=by
 intro value slice pins s σ H x y v u Q I rx ry h hs
 obtain⟨p,xs,i,z,rfl,rfl,hq,he,q⟩:=h
 cases rx
 obtain⟨t,rfl⟩:=ry
 obtain⟨its,r,pl,hz⟩:=I.list hq
 obtain⟨j,h1,h2,h3,h4,h5⟩:=pF he
 obtain⟨w,ew,rw'⟩:=r.get h2
 have hl:=r.length
 have hn:=lW
 have fin:EP X pins σ Q w s:=⟨z,H,I,rw',q⟩
 by_cases h0:0≤i
 ·have hj:i.toNat=j:=by
   rw[seqIndex_of h0 h5]at h1
   exact Option.some.inj h1
  exact item_listR pl.isList h0 (by omega) (by rw[hj];simpa using ew) fin hs
 ·have hj:(i+(its.toArray.size:Int)).toNat=j:=by
   rw[seqIndex_neg (by omega) h4]at h1
   rw[oF,←hl]
   exact Option.some.inj h1
  exact subscriptTail_builtinR (x:=w) pl.isList.typeIs slot_list_getitem.lookup
   (wpAny_getItem_list_neg (Q:=fun r s'=>r=w∧EP X pins σ Q r s') pl.isList (by omega) (by rw[oF]<;>omega) (by omega) (by rw[hj];simpa using ew) ⟨rfl,fin⟩) hs
theorem GU:IxR X (En X.K):=by
 intro value slice pins s σ H x y v u Q I rx ry h hs
 obtain⟨p,xs,i,z,rfl,rfl,hq,he,q⟩:=h
 cases rx
 obtain⟨t,rfl⟩:=ry
 obtain⟨its,r,pl,hz⟩:=I.tuple hq
 obtain⟨j,h1,h2,h3,h4,h5⟩:=pF he
 obtain⟨w,ew,rw'⟩:=r.get h2
 have hl:=r.length
 have hn:=lW
 have fin:EP X pins σ Q w s:=⟨z,H,I,rw',q⟩
 exact subscriptTail_builtinR (x:=w) pl.typeIs slot_tuple_getitem.lookup
  (getItem_tuple (j:=j) (Q:=fun r s'=>r=w∧EP X pins σ Q r s') pl (by omega) (by omega) (by rw[oF,←hl];exact h1) (by simpa using ew) ⟨rfl,fin⟩) hs
theorem C4:IxR X Eo:=by
 intro value slice pins s σ H x y v u Q I rx ry h hs
 obtain⟨z,i,c,rfl,rfl,hz,he,q⟩:=h
 obtain⟨t,rfl⟩:=rx
 obtain⟨t',rfl⟩:=ry
 obtain⟨j,h1,h2,h3,h4,h5⟩:=pF he
 have hl:z.cps.toList.length=z.length:=by simp[Str.length]
 rw[hl]at h1 h4 h5
 have hn:=lW
 exact tail_any (typeIs_str s z t) slot_str_getitem.lookup (getItem_str (c:=c) (by
  have e1:decide (i < -(2 ^ 63:Int))=false:=decide_eq_false (by omega)
  have e2:decide (i≥2 ^ 63)=false:=decide_eq_false (by omega)
  rw[e1,e2,Bool.or_false]) (by rw[h1];simpa using h2) ⟨.str ⟨#[c]⟩,H,I.tok _,⟨_,rfl⟩,q⟩) hs
def rIx(K:aT):R2:=fun x y H Q=>Ep K x y H Q∨En K x y H Q∨Eo x y H Q
theorem C5:IxR X (rIx X.K):=Af.or (GU.or C4)
theorem ot(lo hi:Option Int)(n:Nat):(sliceBounds lo hi none n).1=((HT.sIx n 0 lo:Nat):Int)∧(sliceBounds lo hi none n).2.1=((HT.sIx n n hi:Nat):Int)∧(sliceBounds lo hi none n).2.2=1:=by
 refine⟨?_,?_,rfl⟩
 ·cases lo with
  |none=>simp[sliceBounds,HT.sIx]
  |some i=>
   simp only[sliceBounds,HT.sIx,Option.getD_none,show(1:Int)>0 by decide,if_true]
   by_cases h:i<0
   ·simp only[h,if_true]<;>omega
   ·simp only[h,if_false]<;>omega
 ·cases hi with
  |none=>simp[sliceBounds,HT.sIx]
  |some i=>
   simp only[sliceBounds,HT.sIx,Option.getD_none,show(1:Int)>0 by decide,if_true]
   by_cases h:i<0
   ·simp only[h,if_true]<;>omega
   ·simp only[h,if_false]<;>omega
theorem mK(its:List Value)(lo hi:Option Int):slicePick its.toArray lo hi none=((its.drop (HT.sIx its.length 0 lo)).take (HT.sIx its.length its.length hi-HT.sIx its.length 0 lo)).toArray:=by
 obtain⟨h1,h2,h3⟩:=ot lo hi its.toArray.size
 unfold slicePick
 rw[h1,h2,h3]
 simp only[sliceRange_one,pick_run,oF]<;>rfl
def Gn(K:aT):V→Option Int→Option Int→Hp→VK→Prop:=fun x lo hi H Q=>∃a xs,x=.ref a∧SqL K H a xs∧∀p,H p=none→Q (.ref p) (upd H p (.lst (qH xs lo hi)))
theorem Fq:SlR X (Gn X.K):=by
 intro pins s σ H x v vl vu lo hi sl Q I rx hs pl pu h
 obtain⟨a,xs,rfl,hx,q⟩:=h
 cases rx
 obtain⟨its,r,ht,hz⟩:=I.list hx
 have hlen:=r.length
 refine⟨"list",_,slot_list_getitem.lookup,ht.isList.typeIs,?_⟩
 refine wpAny_getItem_list_slice ht.isList hs pl pu .none (by simp) ?_ (by rw[oF]<;>omega)
 rw[mK,←hlen]
 refine⟨.ref s.heap.objs.size,_,I.laid (t':=s.toks) (o:=.lst (qH xs lo hi)) (fun b ob q=>bY _ q) (gO _) ?_,rfl,q _ (I.hok.fresh (gO _))⟩
 exact⟨iS (kj xs lo hi) hz,_,0,(r.drop (HT.sIx xs.length 0 lo)).take (HT.sIx xs.length xs.length hi-HT.sIx xs.length 0 lo),lE _ rfl⟩
theorem eW:gH X (.builtin "len") (fun xs H Q=>∃p ys,xs=[.ref p]∧(SqL X.K H p ys∨SqT X.K H p ys)∧Q (.int ys.length) H):=by
 intro pins s σ H xs us Q I r h
 obtain⟨p,ys,rfl,hq,q⟩:=h
 obtain⟨u,rfl,rx⟩:=vals1 r
 cases rx
 have hn:=lW
 rcases hq with hq|hq
 ·obtain⟨its,r',pl,hz⟩:=I.list hq
  have hlen:=r'.length
  exact Calls.call_len_list pl.isList (by simp only[oF]<;>omega) ⟨.int ys.length,H,I.tok _,⟨s.toks+1,by rw[oF,hlen]⟩,q⟩
 ·obtain⟨its,r',pl,hz⟩:=I.tuple hq
  have hlen:=r'.length
  exact len_tuple pl (by simp only[oF]<;>omega) ⟨.int ys.length,H,I.tok _,⟨s.toks+1,by rw[oF,hlen]⟩,q⟩
theorem pC:gH X (.builtin "len") (fun xs H Q=>∃z,xs=[.str z]∧z.length≤sizeLine∧Q (.int z.length) H):=by
 intro pins s σ H xs us Q I r h
 obtain⟨z,rfl,hz,q⟩:=h
 obtain⟨u,rfl,t,rfl⟩:=vals1 r
 have hn:=lW
 exact len_str (by omega) ⟨.int z.length,H,I.tok _,⟨_,rfl⟩,q⟩
theorem jG:gH X (.type "list") (fun xs H Q=>∃p ys,xs=[.ref p]∧(SqL X.K H p ys∨SqT X.K H p ys)∧∀l,H l=none→Q (.ref l) (upd H l (.lst ys))):=by
 intro pins s σ H xs us Q I r h
 obtain⟨p,ys,rfl,hq,q⟩:=h
 obtain⟨u,rfl,rx⟩:=vals1 r
 cases rx
 have fin:∀(its:List Value),Vals ys its→ys.length≤sizeLine→∀(h':Heap)(c':Nat),(∀b o',s.heap.get? b=some o'→h'.get? b=some o') →
   h'.get? s.heap.objs.size=some { cls:=.type "list",dict:=none,data:=.seq its.toArray c',slots:=#[] }→EP X pins σ Q (.ref s.heap.objs.size) { s with heap:=h' }:=fun its r' hz h' c' kp e=>
  ⟨.ref s.heap.objs.size,_,I.laid (t':=s.toks) kp (gO _) (show cv X.prog X.w _ h' _ (.lst ys) from⟨hz,its,c',r',e⟩),rfl,q _ (I.hok.fresh (gO _))⟩
 rcases hq with hq|hq
 ·obtain⟨its,r',pl,hz⟩:=I.list hq
  have hlen:=r'.length
  obtain⟨o,ho,hc,n,hd⟩:=pl.isList
  exact call_list_seq p (.inl rfl) ho hc hd (fun h' c' kp e=>fin its r' hz h' c' kp e) (by simp only[oF]<;>omega)
 ·obtain⟨its,r',pl,hz⟩:=I.tuple hq
  have hlen:=r'.length
  obtain⟨o,ho,hc,n,hd⟩:=pl
  exact call_list_seq p (.inr rfl) ho hc hd (fun h' c' kp e=>fin its r' hz h' c' kp e) (by simp only[oF]<;>omega)
def tyV(K:aT)(T:String)(x:V)(H:Hp):Prop:=match x with
 |.str _=>T = "str"
 |.int _=>T = "int"
 |.ref p=>(T = "list"∧∃xs,SqL K H p xs)∨(T = "tuple"∧∃o,K.lookup p=some o∧o.cls=.type "tuple"∧o.dict=none) ∨
   (T = "dict"∧((∃kvs,H p=some (.dK kvs))∨∃kvs,H p=some (.dT kvs)))∨(T = "set"∧∃S n,H p=some (.set S n))
 |_=>False
theorem vM{pins:List (Addr×Obj)}{σ:St}{H:Hp}{s:Shared}{T:String}{x:V}{v:Value}(I:Inv X pins σ H s)(r:RelV x v)(ty:tyV X.K T x H):
  s.TypeIs v T∧∀a,v=.ref a→∃ob,s.heap.get? a=some ob∧ob.dict=none:=by
 cases x with
 |str z=>
  obtain⟨t,rfl⟩:=r
  cases (show T = "str" from ty)
  exact⟨typeIs_str s z t,fun _ e=>nomatch e⟩
 |int i=>
  obtain⟨t,rfl⟩:=r
  cases (show T = "int" from ty)
  exact⟨typeIs_int s i t,fun _ e=>nomatch e⟩
 |ref p=>
  cases r
  rcases ty with ⟨rfl,xs,hq⟩|⟨rfl,o,hk,hc,hd⟩|⟨rfl,hk⟩|⟨rfl,S,n,hk⟩
  ·obtain⟨its,_,pl,_⟩:=I.list hq
   refine⟨pl.isList.typeIs,fun a e=>?_⟩
   cases e
   obtain⟨o,n,e,c,hd,_⟩:=pl
   exact⟨o,e,hd⟩
  ·refine⟨⟨o,I.kIn p o hk,hc⟩,fun a e=>?_⟩
   cases e
   exact⟨o,I.kIn _ o hk,hd⟩
  ·have z:∃o,s.heap.get? p=some o∧o.ExactDict:=by
    rcases hk with ⟨kvs,hk⟩|⟨kvs,hk⟩
    ·obtain⟨_,_,_,_,o,_,_,e,ex,_⟩:=I.hok p _ hk
     exact⟨o,e,ex⟩
    ·obtain⟨_,_,_,_,o,_,_,e,ex,_⟩:=I.hok p _ hk
     exact⟨o,e,ex⟩
   obtain⟨o,e,ex⟩:=z
   refine⟨⟨o,e,ex.1⟩,fun a e2=>?_⟩
   cases e2
   exact⟨o,e,ex.2.1⟩
  ·obtain⟨o,_,_,_,e,ex,_⟩:=I.hok p _ hk
   refine⟨⟨o,e,ex.1⟩,fun a e2=>?_⟩
   cases e2
   exact⟨o,e,ex.2.1⟩
 |_=>exact False.elim ty
def Gi(K:aT)(T:String)(r:V→List V→Hp→VK→Prop)(to:TE):TE:=fun σ H Q=>to σ H fun x H1=>tyV K T x H1∧r x [] H1 Q
def tBM(K:aT)(T:String)(r:V→List V→Hp→VK→Prop)(to:TE)(t:TA):TE:=fun σ H Q=>to σ H fun x H1=>tyV K T x H1∧t σ H1 fun xs H2=>r x xs H2 Q
variable {o e:Expr}{es:List Expr}{to:TE}{t:TA}{name:Str}{apos cpos:Pos}{T id:String}{r:V→List V→Hp→VK→Prop}
theorem Cr (pa:PlainAttrs T) (slot:Slot T name id) (hty:typeOf (.builtin id)=pure (.type "method_descriptor")) (hm:MtR X id r) (ho:PE X o to)
  (hbase:attributeBase o name X.env (eval o X.env)=eval o X.env:=by rfl) (hline:(apos.endLine==cpos.line)=true:=by rfl):PE X (.Call (.Attribute o name apos) [] [] cpos) (Gi X.K T r to):=by
 intro pins s σ H Q I h
 refine wpAny_Call_method0_late hbase hline (thn (ho pins s σ H _ I h) fun v s1 ⟨x,H1,I1,r1,ty,q1⟩=>?_)
 obtain⟨h1,h2⟩:=vM I1 r1 ty
 exact⟨T,id,pa,slot,hty,h1,h2,Calls.callWith_builtin rfl (PySem.evalArgs_none (hm pins s1 σ H1 x [] v [] Q I1 r1 .nil q1))⟩
theorem Bb (pa:PlainAttrs T) (slot:Slot T name id) (hty:typeOf (.builtin id)=pure (.type "method_descriptor")) (hm:MtR X id r) (ho:PE X o to) (ha:PA X (e::es) t)
  (hbase:attributeBase o name X.env (eval o X.env)=eval o X.env:=by rfl)
  (hfew:((backTo cpos (starEach (e::es) X.env)).all (fun x=>!x.1)&&(backToKw cpos (keywordEach [] X.env)).all (fun x=>x.1.isSome)
   && decide ((e::es).length+([]:List Keyword).length+(if ([]:List Keyword).isEmpty then 0 else 1)<30))=true:=by rfl)
  (hline:(apos.endLine==cpos.line)=true:=by rfl) (hs:starEach (e::es) X.env=(false,eval e X.env)::starEach es X.env:=by rfl) (hplain:(backTo cpos (starEach es X.env)).any (·.1)=false:=by rfl):
  PE X (.Call (.Attribute o name apos) (e::es) [] cpos) (tBM X.K T r to t):=by
 intro pins s σ H Q I h
 refine wpAny_Call_method_late hbase hfew hline rfl (thn (ho pins s σ H _ I h) fun v s1 ⟨x,H1,I1,r1,ty,q1⟩=>?_)
 obtain⟨h1,h2⟩:=vM I1 r1 ty
 refine⟨T,id,pa,slot,hty,h1,h2,?_⟩
 have hA:=ha cpos pins s1 σ H1 _ I1 q1
 rw[hs]at hA ⊢
 refine Calls.callWith_builtin (by show(false||(backTo cpos (starEach es X.env)).any (·.1))=false;rw[hplain]<;>rfl) (Calls.evalArgs_plain ?_)
 exact thn hA fun us s2 ⟨vs,H2,I2,r2,q2⟩=>hm pins s2 σ H2 x vs v us Q I2 r1 r2 q2
end
def MtM(X:Cx)(id:String)(r:V→List V→Hp→VK→Prop):Prop:=
 ∀(pins:List (Addr×Obj))(s:Shared)(σ:St)(H:Hp)(x:V)(xs:List V)(v:Value)(us:List Value)(Q:VK),Inv X pins σ H s→RelV x v→Vals xs us→r x xs H Q →
  wpAny (model X.prog X.w) X.A (call (.builtin id) (v::us)) (EP X pins σ Q) X.xe s
theorem Vals.one:∀{x:V}{us:List Value},Vals [x] us→∃u,us=[u]∧RelV x u
 |_,_,.cons r .nil=>⟨_,rfl,r⟩
theorem Vals.zero:∀{us:List Value},Vals [] us→us=[]
 |_,.nil=>rfl
theorem Vals.dropLast{xs:List V}{us:List Value}(h:Vals xs us):Vals xs.dropLast us.dropLast:=by
 induction h with
 |nil=>exact .nil
 |cons r t ih=>
  cases t with
  |nil=>exact .nil
  |cons q t'=>exact .cons r ih
theorem sC{α:Type}(l:List α):l.eraseIdx (l.length-1)=l.dropLast:=by
 induction l with
 |nil=>rfl
 |cons a r ih=>
  cases r with
  |nil=>rfl
  |cons b r=>
   have e:(a::b::r).length-1=((b::r).length-1)+1:=by
    have h1:(a::b::r).length=r.length+2:=rfl
    have h2:(b::r).length=r.length+1:=rfl
    omega
   rw[e,List.eraseIdx_cons_succ,ih]
   all_goals rfl
section
variable {X:Cx}{pins:List (Addr×Obj)}{σ:St}{H:Hp}{s:Shared}{l b:Addr}{xs ys zs:List V}
theorem Inv.lset{its its':List Value}{n:Nat}{f:Array Value→Array Value}{t':Nat}(I:Inv X pins σ H s)(hH:H l=some (.lst xs))
  (e:s.heap.get? l=some { cls:=.type "list",data:=.seq its.toArray n }) (hf:f its.toArray=its'.toArray) (hv:Vals ys its') (hz:ys.length≤sizeLine):
  Inv X pins σ (upd H l (.lst ys)) { s with heap:=s.heap.update l (Obj.mapSeq f),toks:=t' }:=by
 have q:=PySem.IsL.update e f
 rw[hf]at q
 refine I.write (x:=l) (e:=l) (by rw[hH];exact trivial) (.inl rfl) (fun b' u hb hu=>(aaQ s.heap (Obj.mapSeq f) (Ne.symm hb)).trans hu) ⟨_,q⟩ ?_
 exact⟨hz,its',_,hv,q⟩
theorem Inv.lnew{its:List Value}{t':Nat}(I:Inv X pins σ H s)(hv:Vals ys its)(hz:ys.length≤sizeLine):
  Inv X pins σ (upd H s.heap.objs.size (.lst ys)) { s with heap:=s.heap.push { cls:=.type "list",data:=.seq its.toArray },toks:=t' }:=
 I.laid (fun _ _ q=>bY _ q) (gO _) ⟨hz,its,0,hv,lE _ rfl⟩
theorem Inv.fresh(I:Inv X pins σ H s):H s.heap.objs.size=none:=I.hok.fresh (gO _)
theorem Inv.lstM (I:Inv X pins σ H s) (hH:H l=some (.lst xs)):xs.length≤sizeLine∧∃(its:List Value) (n:Nat),Vals xs its∧xs.length=its.length∧s.heap.get? l=some { cls:=.type "list",data:=.seq its.toArray n }:=by
 obtain⟨z,its,n,r,e⟩:=I.hok l _ hH
 exact⟨z,its,n,r,r.length,e⟩
end
section
variable {X:Cx}
def zl:V→List V→Hp→VK→Prop:=fun x vs H Q=>∃l xs y,x=.ref l∧vs=[y]∧H l=some (.lst xs)∧xs.length<sizeLine∧Q .non (upd H l (.lst (xs++[y])))
theorem iE:MtM X "list.append" zl:=by
 intro pins s σ H x vs v us Q I rx rv h
 obtain⟨l,xs,y,rfl,rfl,hH,hz,q⟩:=h
 cases rx
 obtain⟨u,rfl,ru⟩:=rv.one
 obtain⟨z,its,n,r,hl,e⟩:=I.lstM hH
 refine call_meets F.slot_list_append ⟨_,e,rfl⟩ F.entry_list_append (F.args_list_append_2 _ _) (PySem.list_append l its.toArray n u (by rw[oF];omega)) ⟨e,?_⟩
 refine⟨.non,_,I.lset (its':=its++[u]) hH e (by simp) (r.append (.cons ru .nil)) ?_,rfl,q⟩
 rw[aai,abg]
 omega
def Gp:V→List V→Hp→VK→Prop:=fun x vs H Q=>∃l xs y,x=.ref l∧vs=[]∧H l=some (.lst xs)∧xs[xs.length-1]? = some y∧Q y (upd H l (.lst xs.dropLast))
theorem CN:MtM X "list.pop" Gp:=by
 intro pins s σ H x vs v us Q I rx rv h
 obtain⟨l,xs,y,rfl,rfl,hH,hy,q⟩:=h
 cases rx
 have hus:=rv.zero
 subst hus
 obtain⟨z,its,n,r,hl,e⟩:=I.lstM hH
 obtain⟨u,hu,ru⟩:=r.get hy
 have hy':its.toArray[its.toArray.size-1]? = some u:=by
  show its.toArray[its.length-1]? = some u
  rw[←oR,←hl]
  exact hu
 refine call_meets F.slot_list_pop ⟨_,e,rfl⟩ F.entry_list_pop (F.args_list_pop_1 _) (MeetsSeq.list_pop_last l its.toArray n u hy' (by rw[oF];omega)) ⟨e,?_⟩
 refine⟨y,_,I.lset (its':=its.dropLast) hH e ?_ r.dropLast ?_,ru,q⟩
 ·show its.toArray.eraseIdxIfInBounds (its.toArray.size-1)=its.dropLast.toArray
  rw[oF,List.eraseIdxIfInBounds_toArray,sC]
 ·rw[abm]
  omega
def Gq:R2:=fun x y H Q=>∃l b xs zs,x=.ref l∧y=.ref b∧H l=some (.lst xs)∧H b=some (.lst zs)∧xs.length+zs.length≤sizeLine∧∀p,H p=none→Q (.ref p) (upd H p (.lst (xs++zs)))
theorem CJ:OpR X (binaryOp .Add) Gq:=by
 intro pins s σ H x y v u Q I rx ry h
 obtain⟨l,b,xs,zs,rfl,rfl,hH,hB,hz,q⟩:=h
 cases rx
 cases ry
 obtain⟨z,its,n,r,hl,e⟩:=I.lstM hH
 obtain⟨z2,its2,n2,r2,hl2,e2⟩:=I.lstM hB
 refine PySem.P.add_list e e2 ?_ (by rw[oF,oF];omega)
 have ea:its.toArray++its2.toArray=(its++its2).toArray:=by simp
 rw[ea]
 exact⟨.ref _,_,I.lnew (t':=s.toks) (r.append r2) (by rw[aai];omega),rfl,q _ I.fresh⟩
end
section
variable {prog:Program}{w:World}{A:Around}{E:Value→Shared→Prop}{s:Shared}
end
section
variable {X:Cx}
end
section
variable {κ:Type}[DecidableEq κ]
def gW(kvs:List (κ×V))(k:κ):Option V:=(kvs.find? fun kv=>decide (kv.1=k)).map (·.2)
def putK(kvs:List (κ×V))(k:κ)(v:V):List (κ×V):=
 if (kvs.any fun kv=>decide (kv.1=k))=true then kvs.map (fun kv=>if kv.1=k then (kv.1,v) else kv) else kvs++[(k,v)]
def mr(kvs:List (κ×V))(k:κ):List (κ×V):=kvs.filter fun kv=>decide (kv.1≠k)
theorem D7{k:κ}:gW ([]:List (κ×V)) k=none:=rfl
theorem jh{p:κ×V}{r:List (κ×V)}{k:κ}(e:p.1=k):gW (p::r) k=some p.2:=by simp[gW,abh,e]
theorem ji{p:κ×V}{r:List (κ×V)}{k:κ}(e:¬p.1=k):gW (p::r) k=gW r k:=by simp[gW,abh,e]
theorem pN(k:κ):∀kvs:List (κ×V),(kvs.any fun kv=>decide (kv.1=k))=(gW kvs k).isSome
 |[]=>rfl
 |p::r=>by
  rw[List.any_cons]
  by_cases e:p.1=k
  ·simp only[jh e,decide_eq_true e,Bool.true_or,Option.isSome_some]
  ·rw[ji e,decide_eq_false e,Bool.false_or];exact pN k r
theorem ke(kvs:List (κ×V))(k:κ)(v:V):(putK kvs k v).length≤kvs.length+1:=by
 unfold putK
 split
 ·rw[aad];omega
 ·rw[aai,iF,aaU];omega
theorem pJ.isSome_eq{o:Option V}{u:Option Value}(r:pJ o u):o.isSome=u.isSome:=by
 cases o with
 |none=>cases u with
  |none=>rfl
  |some _=>exact(show False from r).elim
 |some _=>cases u with
  |none=>exact(show False from r).elim
  |some _=>rfl
theorem KV.val{kvs:List (κ×V)}{vs:List (κ×Value)}(r:KV kvs vs)(k:κ):pJ (gW kvs k) (valueAt vs k):=by
 unfold KV at r
 induction r with
 |nil=>exact True.intro
 | @cons p q ps qs h t ih=>
  obtain⟨h1,h2⟩:=h
  by_cases e:p.1=k
  ·have e':q.1=k:=h1.symm.trans e
   have b:valueAt (q::qs) k=some q.2:=by simp[valueAt,abh,e']
   rw[jh e,b];exact h2
  ·have e':¬q.1=k:=fun z=>e (h1.trans z)
   have b:valueAt (q::qs) k=valueAt qs k:=by simp[valueAt,abh,e']
   rw[ji e,b];exact ih
theorem KV.any{kvs:List (κ×V)}{vs:List (κ×Value)}(r:KV kvs vs)(k:κ):(kvs.any fun kv=>decide (kv.1=k))=vs.any fun kv=>decide (kv.1=k):=by
 unfold KV at r
 induction r with
 |nil=>rfl
 |cons h t ih=>rw[List.any_cons,List.any_cons,ih,h.1]
theorem KV.repl{kvs:List (κ×V)}{vs:List (κ×Value)}(r:KV kvs vs)(k:κ){y:V}{u:Value}(ry:RelV y u):
  KV (kvs.map fun kv=>if kv.1=k then (kv.1,y) else kv) (vs.map fun kv=>if kv.1=k then (kv.1,u) else kv):=by
 unfold KV at r ⊢
 induction r with
 |nil=>exact .nil
 | @cons p q ps qs h t ih=>
  rw[aau,aau]
  refine .cons ?_ ih
  obtain⟨h1,h2⟩:=h
  by_cases e:p.1=k
  ·rw[if_pos e,if_pos (h1.symm.trans e)];exact⟨h1,ry⟩
  ·rw[if_neg e,if_neg (fun z=>e (h1.trans z))];exact⟨h1,h2⟩
theorem KV.put{kvs:List (κ×V)}{vs:List (κ×Value)}(r:KV kvs vs)(k:κ){y:V}{u:Value}(ry:RelV y u):KV (putK kvs k y) (stored vs k u):=by
 unfold putK stored
 rw[r.any k]
 by_cases e:(vs.any fun kv=>decide (kv.1=k))=true
 ·rw[if_pos e,if_pos e];exact r.repl k ry
 ·rw[if_neg e,if_neg e];exact Paired.snoc r ⟨rfl,ry⟩
theorem KV.drop{kvs:List (κ×V)}{vs:List (κ×Value)}(r:KV kvs vs)(k:κ):KV (mr kvs k) (without vs k):=by
 unfold KV at r ⊢
 unfold mr without
 induction r with
 |nil=>exact .nil
 | @cons p q ps qs h t ih=>
  obtain⟨h1,h2⟩:=h
  rw[List.filter_cons,List.filter_cons]
  by_cases e:p.1=k
  ·have a:¬decide (p.1≠k)=true:=by simp[e]
   have b:¬decide (q.1≠k)=true:=by simp[h1.symm.trans e]
   rw[if_neg a,if_neg b];exact ih
  ·have e':¬q.1=k:=fun z=>e (h1.trans z)
   have a:decide (p.1≠k)=true:=by simp[e]
   have b:decide (q.1≠k)=true:=by simp[e']
   rw[if_pos a,if_pos b];exact .cons ⟨h1,h2⟩ ih
theorem KV.length{kvs:List (κ×V)}{vs:List (κ×Value)}(r:KV kvs vs):kvs.length=vs.length:=Paired.length r
theorem yc(kvs:List (κ×V))(k:κ):(mr kvs k).length≤kvs.length:=List.length_filter_le _ _
end
theorem nN{P:Program}{w:World}{k:Key}{u:Value}(r:RelV (kV k) u):(bZ P w).is k u=true:=by
 cases k with
 |inl i=>obtain⟨t,e⟩:=(show ∃t,u=Value.int i t from r);subst e;exact qh P w i t
 |inr x=>obtain⟨t,e⟩:=(show ∃t,u=Value.str x t from r);subst e;exact qg P w x t
theorem nO{P:Program}{w:World}:∀{ks:List Key}{us:List Value},Vals (ks.map kV) us→ItemsAre (bZ P w) ks us
 |[],_,r=>by rw[List.map_nil]at r;cases r;exact .nil
 |k::ks,_,r=>by
  rw[aau]at r
  cases r with
  |cons h t=>exact .cons (nN h) (nO t)
abbrev KT(H:Hp):List (List Key×V)→List (List Key×Addr×Value)→Prop:=Paired fun p q=>p.1=q.1∧H q.2.1=some (.tup (p.1.map kV))∧RelV p.2 q.2.2
theorem KT.val{H:Hp}{kvs:List (List Key×V)}{xs:List (List Key×Addr×Value)}(r:KT H kvs xs)(k:List Key):pJ (gW kvs k) ((atKey xs k).map (·.2)):=by
 induction r with
 |nil=>exact True.intro
 | @cons p q ps qs h t ih=>
  obtain⟨h1,_,h2⟩:=h
  by_cases e:p.1=k
  ·have e':q.1=k:=h1.symm.trans e
   have b:atKey (q::qs) k=some q.2:=by simp[atKey,abh,e']
   rw[jh e,b];exact h2
  ·have e':¬q.1=k:=fun z=>e (h1.trans z)
   have b:atKey (q::qs) k=atKey qs k:=by simp[atKey,abh,e']
   rw[ji e,b];exact ih
theorem KT.repl{H:Hp}{kvs:List (List Key×V)}{xs:List (List Key×Addr×Value)}(r:KT H kvs xs)(k:List Key){y:V}{u:Value}(ry:RelV y u):
  KT H (kvs.map fun kv=>if kv.1=k then (kv.1,y) else kv) (xs.map (putAt k u)):=by
 induction r with
 |nil=>exact .nil
 | @cons p q ps qs h t ih=>
  rw[aau,aau]
  refine .cons ?_ ih
  obtain⟨h1,h2,h3⟩:=h
  unfold putAt
  by_cases e:p.1=k
  ·rw[if_pos e,if_pos (h1.symm.trans e)];exact⟨h1,h2,ry⟩
  ·rw[if_neg e,if_neg (fun z=>e (h1.trans z))];exact⟨h1,h2,h3⟩
theorem KT.put{H:Hp}{kvs:List (List Key×V)}{xs:List (List Key×Addr×Value)}(r:KT H kvs xs)(k:List Key){b:Addr}{y:V}{u:Value}(hb:H b=some (.tup (k.map kV)))(ry:RelV y u):
  KT H (putK kvs k y) (storedH xs k b u):=by
 have e:(kvs.any fun kv=>decide (kv.1=k))=(atKey xs k).isSome:=by
  rw[pN,(r.val k).isSome_eq,Option.isSome_map]
 unfold putK storedH
 rw[e]
 by_cases q:(atKey xs k).isSome=true
 ·rw[if_pos q,if_pos q];exact r.repl k ry
 ·rw[if_neg q,if_neg q];exact Paired.snoc r ⟨rfl,hb,ry⟩
theorem KT.keeps{H H':Hp}{kvs:List (List Key×V)}{xs:List (List Key×Addr×Value)}(r:KT H kvs xs)(ht:∀b ys,H b=some (.tup ys)→H' b=some (.tup ys)):KT H' kvs xs:=
 Paired.mapP r fun _ _ z=>⟨z.1,ht _ _ z.2.1,z.2.2⟩
section
variable {P:Program}{w:World}{H:Hp}{h:Heap}{a:Addr}
theorem A6{u:HO}(ok:HOk P w H h)(e:Rd H a u):cv P w H h a u:=e.ok ok
theorem nX{kvs:List (Key×V)}(ok:HOk P w H h)(e:Rd H a (.dK kvs)):kvs.length≤sizeLine∧(a==sysModules)=false∧∃vs,KV kvs vs∧h.DictOf (bZ P w) a vs:=
 show cv P w H h a (.dK kvs) from A6 ok e
theorem yd{kvs:List (Key×V)}(ok:HOk P w H h)(e:H a=some (.dK kvs)):kvs.length≤sizeLine∧(a==sysModules)=false∧∃vs,KV kvs vs∧h.DictOf (bZ P w) a vs:=nX ok (.inl e)
theorem l8{ks:List Key}(ok:HOk P w H h)(e:H a=some (.tup (ks.map kV))):(tupleKind (bZ P w)).is h ks a:=by
 obtain⟨_,its,r,o,h1,h2,n,h3⟩:=(show cv P w H h a (.tup (ks.map kV)) from ok a _ e)
 exact⟨o,its.toArray,n,h1,h2,h3,by simpa using nO r⟩
theorem nV{kvs:List (List Key×V)}(ok:HOk P w H h)(e:Rd H a (.dT kvs)):kvs.length≤sizeLine∧(a==sysModules)=false ∧
  ∃xs,KT H kvs xs∧h.DictOfH (tupleKind (bZ P w)) a xs:=by
 obtain⟨z,y,xs,r,o,es,ep,h1,h2,h3,h4,h5⟩:=(show cv P w H h a (.dT kvs) from A6 ok e)
 refine⟨z,y,xs,r,o,es,ep,h1,h2,h3,h4,fun x hx=>?_,h5⟩
 have all:∀{l:List (List Key×V)}{m:List (List Key×Addr×Value)},KT H l m→∀x∈m,(tupleKind (bZ P w)).is h x.1 x.2.1:=by
  intro l m q
  induction q with
  |nil=>intro x hx;exact nomatch hx
  | @cons p q ps qs hq t ih=>
   intro x hx
   rcases List.mem_cons.mp hx with e|hx
   ·subst e
    exact l8 ok (by rw[←hq.1];exact hq.2.1)
   ·exact ih x hx
 exact all r x hx
theorem Ff{kvs:List (List Key×V)}(ok:HOk P w H h)(e:H a=some (.dT kvs)):kvs.length≤sizeLine∧(a==sysModules)=false ∧
  ∃xs,KT H kvs xs∧h.DictOfH (tupleKind (bZ P w)) a xs:=nV ok (.inl e)
end
def qS(H:Hp)(a:Addr)(y:V)(r:Option V):Prop:=
 (∃kvs k,Rd H a (.dK kvs)∧y=kV k∧r=gW kvs k)∨∃kvs k b,Rd H a (.dT kvs)∧y=.ref b∧H b=some (.tup (k.map kV))∧r=gW kvs k
def DU(H:Hp)(a:Addr)(y v:V)(H':Hp):Prop:=
 (∃kvs k,H a=some (.dK kvs)∧y=kV k∧kvs.length<sizeLine∧H'=upd H a (.dK (putK kvs k v))) ∨
 ∃kvs k b,H a=some (.dT kvs)∧y=.ref b∧H b=some (.tup (k.map kV))∧kvs.length<sizeLine∧H'=upd H a (.dT (putK kvs k v))
theorem qS.k{H:Hp}{a:Addr}{kvs:List (Key×V)}{k:Key}(e:H a=some (.dK kvs)):qS H a (kV k) (gW kvs k):=.inl ⟨kvs,k,.inl e,rfl,rfl⟩
theorem DU.k{H:Hp}{a:Addr}{kvs:List (Key×V)}{k:Key}{v:V}(e:H a=some (.dK kvs))(hl:kvs.length<sizeLine):DU H a (kV k) v (upd H a (.dK (putK kvs k v))):=.inl ⟨kvs,k,e,rfl,hl,rfl⟩
section
variable {X:Cx}{pins:List (Addr×Obj)}{σ:St}{H:Hp}{s:Shared}{a:Addr}{y v:V}{u r:Value}{o:Option V}{A:Around}{E:Value→Shared→Prop}
theorem Inv.big(I:Inv X pins σ H s):sysModules<s.heap.objs.size:=by
 have h:mainGlobals<s.heap.objs.size:=(I.mod.glob.keeps I.bk).lt
 exact abF (by decide) h
theorem vt{Q:Value→Shared→Prop}(hu:A.units+1<cLine)(I:Inv X pins σ H s)(g:qS H a y (some v))(ry:RelV y u)(h:∀w' s',Inv X pins σ H s'→RelV v w'→Q w' s'):
  wpAny (model X.prog X.w) A (getItem (.ref a) u) Q E s:=by
 rcases g with ⟨kvs,k,e,ey,l⟩|⟨kvs,k,b,e,ey,eb,l⟩
 ·subst ey
  obtain⟨z,hd,vs,rel,dd⟩:=nX I.hok e
  obtain⟨w',hw,rw'⟩:=pJ.some_of (v:=v) (o:=valueAt vs k) (by rw[l];exact rel.val k)
  exact wpAny_getItem_of (nN ry) dd.mapOf hw (h w' _ (I.tok _) rw')
 ·subst ey
  cases (show u=Value.ref b from ry)
  obtain⟨z,hd,xs,rel,dd⟩:=nV I.hok e
  obtain⟨w',hw,rw'⟩:=pJ.some_of (v:=v) (o:=(atKey xs k).map (·.2)) (by rw[l];exact rel.val k)
  obtain⟨p,hp,hp2⟩:=Option.map_eq_some_iff.mp hw
  refine wpAny_getItem_heap (tupleKind_room_in1 hu) (l8 I.hok eb) dd hp ?_
  rw[hp2]
  exact h w' _ (I.tok _) rw'
theorem He{Q:Value→Shared→Prop}(hu:A.units+1<cLine)(I:Inv X pins σ H s)(g:qS H a y o)(ry:RelV y u)(h:∀s',Inv X pins σ H s'→Q (.bool o.isSome) s'):
  wpAny (model X.prog X.w) A (compareOp .In u (.ref a)) Q E s:=by
 rcases g with ⟨kvs,k,e,ey,l⟩|⟨kvs,k,b,e,ey,eb,l⟩
 ·subst ey
  obtain⟨z,hd,vs,rel,dd⟩:=nX I.hok e
  refine wpAny_in_of (nN ry) hd dd.mapOf ?_
  rw[←(rel.val k).isSome_eq,←l]
  exact h _ (I.tok _)
 ·subst ey
  cases (show u=Value.ref b from ry)
  obtain⟨z,hd,xs,rel,dd⟩:=nV I.hok e
  refine wpAny_in_heap (tupleKind_room_in1 hu) (l8 I.hok eb) hd dd ?_
  have q:=(rel.val k).isSome_eq
  rw[Option.isSome_map]at q
  rw[←q,←l]
  exact h _ (I.tok _)
theorem AB{Q:Value→Shared→Prop}(hu:A.units+1<cLine)(I:Inv X pins σ H s)(g:qS H a y o)(ry:RelV y u)(h:∀s',Inv X pins σ H s'→Q (.bool (!o.isSome)) s'):
  wpAny (model X.prog X.w) A (compareOp .NotIn u (.ref a)) Q E s:=by
 rcases g with ⟨kvs,k,e,ey,l⟩|⟨kvs,k,b,e,ey,eb,l⟩
 ·subst ey
  obtain⟨z,hd,vs,rel,dd⟩:=nX I.hok e
  refine wpAny_notIn_of (nN ry) hd dd.mapOf ?_
  rw[←(rel.val k).isSome_eq,←l]
  exact h _ (I.tok _)
 ·subst ey
  cases (show u=Value.ref b from ry)
  obtain⟨z,hd,xs,rel,dd⟩:=nV I.hok e
  refine wpAny_notIn_heap (tupleKind_room_in1 hu) (l8 I.hok eb) hd dd ?_
  have q:=(rel.val k).isSome_eq
  rw[Option.isSome_map]at q
  rw[←q,←l]
  exact h _ (I.tok _)
theorem pw{h':Heap}{t':Nat}{ob:HO}(I:Inv X pins σ H s)(mu:Mut (H a))(hs:Heap.SameBut a s.heap h')(he:∃q,h'.get? a=some q)(new:cv X.prog X.w (upd H a ob) h' a ob):
  Inv X pins σ (upd H a ob) { s with heap:=h',toks:=t' }:=
 I.write (x:=a) (e:=a) mu (.inl rfl) (fun b q hb z=>(hs.2 b hb).trans z) he new
theorem ye{P:Program}{w:World}{H':Hp}{h':Heap}{kvs:List (Key×V)}{vs:List (Key×Value)}(z:kvs.length≤sizeLine)(hd:(a==sysModules)=false)(rel:KV kvs vs)(dd:h'.DictOf (bZ P w) a vs):
  cv P w H' h' a (.dK kvs):=⟨z,hd,vs,rel,dd⟩
theorem vq{H':Hp}{Q:Unit→Shared→Prop}(hu:A.units+1<cLine)(I:Inv X pins σ H s)(g:DU H a y v H')(ry:RelV y u)(rv:RelV v r)(h:∀s',Inv X pins σ H' s'→Q () s'):
  wpAny (model X.prog X.w) A (setItem (.ref a) u r) Q E s:=by
 rcases g with ⟨kvs,k,e,ey,l,eH⟩|⟨kvs,k,b,e,ey,eb,l,eH⟩
 ·subst ey eH
  obtain⟨z,hd,vs,rel,dd⟩:=yd I.hok e
  have hz:vs.length≤sizeLine:=by rw[←rel.length];exact z
  have hl:(putK kvs k v).length≤sizeLine:=by have:=ke kvs k v;omega
  refine wpAny_setItem_pairs (hsz:=hz) (nN ry) dd fun h' dd' hs=>h _ ?_
  have he:∃q,h'.get? a=some q:=let⟨q,_,_,hq,_⟩:=dd';⟨q,hq⟩
  exact pw I (by rw[e];exact True.intro) hs he (ye hl hd (rel.put k rv) dd')
 ·subst ey eH
  cases (show u=Value.ref b from ry)
  obtain⟨z,hd,xs,rel,dd⟩:=Ff I.hok e
  have hz:xs.length≤sizeLine:=by rw[←Paired.length rel];exact z
  have hl:(putK kvs k v).length≤sizeLine:=by have:=ke kvs k v;omega
  refine wpAny_setItem_heap (hsz:=hz) (tupleKind_room_in1 hu) (l8 I.hok eb) dd fun h' dd' hs=>h _ ?_
  obtain⟨q,es,ep,hq,h2,h3,h4,_,h5⟩:=dd'
  refine pw I (by rw[e];exact True.intro) hs ⟨q,hq⟩ ⟨hl,hd,_,(rel.put k eb rv).keeps fun c ys ec=>?_,q,es,ep,hq,h2,h3,h4,h5⟩
  rw[aj (EW ec e (fun z=>nomatch z))]
  exact ec
end
section
variable {X:Cx}{pins:List (Addr×Obj)}{σ:St}{H:Hp}{s:Shared}{a:Addr}{kvs:List (Key×V)}{k:Key}{u:Value}{A:Around}{E:Value→Shared→Prop}
theorem Fg{v:V}{more:List Value}{Q:Value→Shared→Prop}(I:Inv X pins σ H s)(e:H a=some (.dK kvs))(ry:RelV (kV k) u)(l:gW kvs k=some v)(hm:more=[]∨∃x,more=[x])
  (h:∀w' s',Inv X pins σ (upd H a (.dK (mr kvs k))) s'→RelV v w'→Q w' s'):wpAny (model X.prog X.w) A (call (.builtin "dict.pop") (.ref a::u::more)) Q E s:=by
 obtain⟨z,hd,vs,rel,dd⟩:=yd I.hok e
 obtain⟨w',hw,rw'⟩:=pJ.some_of (v:=v) (o:=valueAt vs k) (by rw[←l];exact rel.val k)
 have hp:(keyPart u).isSome=true:=by
  cases k with
  |inl i=>obtain⟨t,q⟩:=(show ∃t,u=Value.int i t from ry);subst q;rfl
  |inr x=>obtain⟨t,q⟩:=(show ∃t,u=Value.str x t from ry);subst q;rfl
 have ha:argsOk "dict.pop" ⟨.ref a::u::more,[]⟩:=by
  rcases hm with q|⟨x,q⟩
  ·subst q;exact PySem.F.args_dict_pop_2 _ _
  ·subst q;exact PySem.F.args_dict_pop_3 _ _ _
 refine call_meetsIn PySem.F.slot_dict_pop dd.typeIs PySem.F.entry_dict_pop ha (meets_dict_pop_there (bZ X.prog X.w) a (nN ry) more hm hp)
  ⟨vs,w',dd,by rw[←rel.length];exact z,hw,fun h' dd' hs=>h w' _ ?_ rw'⟩
 have he:∃q,h'.get? a=some q:=let⟨q,_,_,hq,_⟩:=dd';⟨q,hq⟩
 exact pw I (by rw[e];exact True.intro) hs he (ye (iS (yc kvs k) z) hd (rel.drop k) dd')
end
def AW(i:Expr):Prop:=∀ov iv,subscripted i false ov iv=operate [ov,iv] (getItem ov iv)
theorem y6{prog:Program}{w:World}{A:Around}{E:Value→Shared→Prop}{s:Shared}{env:Env}{value slice:Expr}{pos:Pos}{T id:String}{Q:Value→Shared→Prop}
  (hl:typeLookup (.type T) "__getitem__" = pure (some (.builtin id))) (hs:AW slice)
  (h:wpAny (model prog w) A (eval value env) (fun o s₁=>wpAny (model prog w) A (eval slice env) (fun i s₂=>s₂.TypeIs o T∧wpAny (model prog w) A (getItem o i) Q E s₂) E s₁) E s):
  wpAny (model prog w) A (eval (.Subscript value slice pos) env) Q E s:=by
 refine Subscript_ (wpAny_mono h (fun o s₁ h₁=>wpAny_mono h₁ (fun i s₂ h₂=>?_) fun _ _ x=>x) fun _ _ x=>x)
 obtain⟨hT,h₂⟩:=h₂
 unfold subscriptTail
 refine wpAny_bind ?_
 rw[getitemInPython_of_ne hT.not_modules]
 refine wpAny_bind (wpAny_specialOf hT hl ?_)
 have fin:wpAny (model prog w) A (subscripted slice false o i) (fun r s₃=>wpAny (model prog w) A (letTemporaryGo value o r >>= fun _=>pure r) Q E s₃) E s₂:=by
  rw[hs o i]
  exact wpAny_operating (wpAny_mono h₂ (fun r s₃ h₃=>wpAny_bind (wpAny_letTemporaryGo (wpAny_pure h₃))) fun _ _ x=>x)
 first
  |exact wpAny_pure (wpAny_bind fin)
  |exact wpAny_bind (wpAny_pure (wpAny_bind fin))
  |exact wpAny_bind fin
theorem qG {X:Cx} {pins:List (Addr×Obj)} {σ:St} {H:Hp} {s:Shared} {a:Addr} {y:V} {o:Option V} (I:Inv X pins σ H s) (g:qS H a y o):s.TypeIs (.ref a) "dict":=by
 rcases g with ⟨kvs,k,e,_,_⟩|⟨kvs,k,b,e,_,_,_⟩
 ·obtain⟨_,_,vs,_,dd⟩:=nX I.hok e
  exact dd.typeIs
 ·obtain⟨_,_,xs,_,dd⟩:=nV I.hok e
  exact dd.typeIs
def Eg(td ty:TE):TE:=fun σ H Q=>td σ H fun x H1=>ty σ H1 fun y H2=>∃a v,x=.ref a∧qS H2 a y (some v)∧Q v H2
def Gh(ty td:TE):TE:=fun σ H Q=>ty σ H fun y H1=>td σ H1 fun x H2=>∃a o,x=.ref a∧qS H2 a y o∧Q (.bl o.isSome) H2
def y4(ty td:TE):TE:=fun σ H Q=>ty σ H fun y H1=>td σ H1 fun x H2=>∃a o,x=.ref a∧qS H2 a y o∧Q (.bl (!o.isSome)) H2
def Em(td ty tv:TE):TS:=fun D σ H=>tv σ H fun v H1=>td σ H1 fun x H2=>ty σ H2 fun y H3=>∃a H4,x=.ref a∧DU H3 a y v H4∧D.nx σ H4
section
variable {X:Cx}{o i e value:Expr}{pos pos' tpos:Pos}{td ty tv:TE}
theorem zJ(hu:X.A.units+1<cLine)(ho:PE X o td)(hi:PE X i ty)(hs:AW i):PE X (.Subscript o i pos) (Eg td ty):=by
 intro pins s σ H Q I h
 refine y6 PySem.F.slot_dict_getitem.lookup hs (thn (ho pins s σ H _ I h) fun u s1 ⟨x,H1,I1,rx,q1⟩=>thn (hi pins s1 σ H1 _ I1 q1) fun iv s2 ⟨y,H2,I2,ry,a,v,ex,g,q2⟩=>?_)
 subst ex
 obtain rfl:u=Value.ref a:=rx
 exact⟨qG I2 g,vt hu I2 g ry fun w' s3 I3 rw'=>⟨v,H2,I3,rw',q2⟩⟩
theorem Cu(hu:X.A.units+1<cLine)(hi:PE X i ty)(ho:PE X o td):PC X .In i o (Gh ty td):=by
 intro pins s σ H Q I h
 refine thn (hi pins s σ H _ I h) fun iv s1 ⟨y,H1,I1,ry,q1⟩=>thn (ho pins s1 σ H1 _ I1 q1) fun u s2 ⟨x,H2,I2,rx,a,ov,ex,g,q2⟩=>?_
 subst ex
 obtain rfl:u=Value.ref a:=rx
 exact He hu I2 g ry fun s3 I3=>⟨.bl ov.isSome,H2,I3,rfl,q2⟩
theorem uU(hu:X.A.units+1<cLine)(hi:PE X i ty)(ho:PE X o td):PC X .NotIn i o (y4 ty td):=by
 intro pins s σ H Q I h
 refine thn (hi pins s σ H _ I h) fun iv s1 ⟨y,H1,I1,ry,q1⟩=>thn (ho pins s1 σ H1 _ I1 q1) fun u s2 ⟨x,H2,I2,rx,a,ov,ex,g,q2⟩=>?_
 subst ex
 obtain rfl:u=Value.ref a:=rx
 exact AB hu I2 g ry fun s3 I3=>⟨.bl (!ov.isSome),H2,I3,rfl,q2⟩
theorem zE(hu:X.A.units+1<cLine)(ho:PE X o td)(hi:PE X i ty)(hv:PE X value tv)(hs:swapsWith value (some (.Subscript o i pos')) pos.line X.env=pure false):
  PS X (.Assign [.Subscript o i pos'] value pos) (Em td ty tv):=by
 intro pins s σ H D I h
 refine wpAny_Assign_Subscript (thn (hv pins s σ H _ I h) fun r s1 ⟨v,H1,I1,rv,q1⟩=>thn (ho pins s1 σ H1 _ I1 q1) fun u s2 ⟨x,H2,I2,rx,q2⟩=>thn (hi pins s2 σ H2 _ I2 q2) fun iv s3 ⟨y,H3,I3,ry,a,H4,ex,g,q3⟩=>?_) hs
 subst ex
 obtain rfl:u=Value.ref a:=rx
 exact vq hu I3 g ry rv fun s4 I4=>⟨σ,H4,I4,q3⟩
end
theorem yf {P:Program} {w:World} {H:Hp} (h:Heap) (hb:sysModules<h.objs.size):cv P w H (h.push { cls:=.type "dict",data:=.dict #[] }) h.objs.size (.dK []):=
 ⟨aaH _,beq_eq_false_iff_ne.mpr (Ne.symm (aab hb)),[],.nil,Heap.DictOf.new h⟩
def vQ:TE:=fun _ H Q=>∀p,H p=none→Q (.ref p) (upd H p (.dK []))
section
variable {X:Cx}{pos:Pos}
theorem wX:PE X (.Dict [] [] pos) vQ:=fun pins s σ H Q I h=>
 wpAny_Dict_empty ⟨.ref s.heap.objs.size,_,I.laid (a:=s.heap.objs.size) (o:=.dK []) (t':=s.toks) (fun _ _ q=>bY _ q) (gO _) (yf s.heap I.big),rfl,h _ (I.hok.fresh (gO _))⟩
end
structure M1 (X:Cx) (o:Expr) (m:Str) (apos:Pos) (e:Expr) (cpos:Pos):Prop where
 base:attributeBase o m X.env (eval o X.env)=eval o X.env
 few:((backTo cpos (starEach [e] X.env)).all (fun x=>!x.1)&&(backToKw cpos (keywordEach [] X.env)).all (fun x=>x.1.isSome)
  && decide (([e]:List Expr).length+([]:List Keyword).length+(if ([]:List Keyword).isEmpty then 0 else 1)<30))=true
 line:(apos.endLine==cpos.line)=true
 trees:backTo cpos (starEach [e] X.env)=[(false,eval e X.env)]
structure M2 (X:Cx) (o:Expr) (m:Str) (apos:Pos) (e f:Expr) (cpos:Pos):Prop where
 base:attributeBase o m X.env (eval o X.env)=eval o X.env
 few:((backTo cpos (starEach [e,f] X.env)).all (fun x=>!x.1)&&(backToKw cpos (keywordEach [] X.env)).all (fun x=>x.1.isSome)
  && decide (([e,f]:List Expr).length+([]:List Keyword).length+(if ([]:List Keyword).isEmpty then 0 else 1)<30))=true
 line:(apos.endLine==cpos.line)=true
 trees:backTo cpos (starEach [e,f] X.env)=[(false,eval e X.env),(false,eval f X.env)]
def IsD(H:Hp)(a:Addr):Prop:=(∃kvs,Rd H a (.dK kvs))∨∃kvs,Rd H a (.dT kvs)
theorem C8{X:Cx}{pins:List (Addr×Obj)}{σ:St}{H:Hp}{s:Shared}{a:Addr}(I:Inv X pins σ H s)(d:IsD H a):
  s.TypeIs (.ref a) "dict"∧(∀b,Value.ref a=.ref b→∃ob,s.heap.get? b=some ob∧ob.dict=none)∧(a==sysModules)=false:=by
 rcases d with ⟨kvs,e⟩|⟨kvs,e⟩
 ·obtain⟨_,hd,vs,_,dd⟩:=nX I.hok e
  refine⟨dd.typeIs,fun b q=>?_,hd⟩
  cases q
  obtain⟨ob,_,_,h1,h2,_⟩:=dd
  exact⟨ob,h1,h2.2.1⟩
 ·obtain⟨_,hd,xs,_,dd⟩:=nV I.hok e
  refine⟨dd.typeIs,fun b q=>?_,hd⟩
  cases q
  obtain⟨ob,_,_,h1,h2,_⟩:=dd
  exact⟨ob,h1,h2.2.1⟩
section
variable {X:Cx}{pins:List (Addr×Obj)}{σ:St}{H:Hp}{s:Shared}{a:Addr}{y d:V}{u r:Value}{o:Option V}{A:Around}{E:Value→Shared→Prop}
end
def Bw(td ty:TE):TE:=fun σ H Q=>td σ H fun x H1=>∃a,x=.ref a∧IsD H1 a∧ty σ H1 fun y H2=>∃kvs k v,H2 a=some (.dK kvs)∧y=kV k∧gW kvs k=some v∧Q v (upd H2 a (.dK (mr kvs k)))
section
variable {X:Cx}{o e f:Expr}{apos cpos:Pos}{td ty tx:TE}
theorem wW (ho:PE X o td) (he:PE X e ty) (m:M1 X o "pop" apos e cpos):PE X (.Call (.Attribute o "pop" apos) [e] [] cpos) (Bw td ty):=by
 intro pins s σ H Q I h
 refine wpAny_Call_method m.base m.few m.line PySem.F.plainAttrs_dict PySem.F.slot_dict_pop PySem.F.type_dict_pop (thn (ho pins s σ H _ I h) fun u s1 ⟨x,H1,I1,rx,a,ex,d,q1⟩=>?_)
 subst ex
 obtain rfl:u=Value.ref a:=rx
 obtain⟨t1,t2,_⟩:=C8 I1 d
 refine⟨t1,t2,?_⟩
 rw[m.trees]
 refine Calls.callWith_builtin rfl (Calls.evalArgs_plain (Calls.spliced_cons (thn (he pins s1 σ H1 _ I1 q1) fun iv s2 ⟨y,H2,I2,ry,kvs,k,v,ea,ey,l,q2⟩=>Calls.spliced_nil ?_)))
 subst ey
 exact Fg I2 ea ry l (.inl rfl) fun w' s3 I3 rw'=>⟨v,_,I3,rw',q2⟩
end
section
variable {X:Cx}{pins:List (Addr×Obj)}{σ:St}{H:Hp}{s:Shared}{a:Addr}{kvs:List (Key×V)}{A:Around}{E:Value→Shared→Prop}
end
section
variable {X:Cx}{pins:List (Addr×Obj)}{σ:St}{H:Hp}{s:Shared}{a:Addr}{y:V}{u:Value}{A:Around}{E:Value→Shared→Prop}
end
end L2
namespace Att
open PySem PySem.W PySem.Calls PyProof.Rows
theorem kA{P:Params}{h:Heap}:∀(ns:List Int)(vs:List Value),WellAll P h vs (ns.map WData.int)→IntsAre vs ns:=by
 intro ns
 induction ns with
 |nil=>
  intro vs w
  rw[List.map_nil]at w
  cases w
  exact .nil
 |cons n ns ih=>
  intro vs w
  rw[aau]at w
  cases w with
  |cons a b=>
   cases a
   exact .cons _ _ (ih _ b)
theorem uF{l:OpenLaw}{n:Nat}(hn:l.most=some n){P:Params}{h:Heap}{args:List WData}{vals:List Value}
  (hpre:l.row.toRowW.claim.pre args=true) (hwl:WellAll P h vals args):
  ∃a vs ns,vals=[Value.ref a]∧args=[WData.list (ns.map WData.int)]∧h.get? a=some { cls:=.type "list",data:=.seq vs.toArray }∧IntsAre vs ns∧ns.length≤n:=by
 have hsh:WShape.hasAll [] args [.list .int]=true:=(pre_splitW hpre).1
 have hc:l.pre.holds [] { args:=args }=true:=(pre_splitW hpre).2
 obtain⟨d,r,rfl,h1,h2⟩:=hasAllW_cons hsh
 obtain rfl:=hasAllW_nil h2
 obtain⟨xs,rfl,h3⟩:=hasW_list h1
 obtain⟨ns,rfl⟩:=items_int h3
 have hlen:ns.length≤n:=by
  unfold OpenLaw.pre at hc
  have h4:(WTm.not (.lt (.lit (.int (n:Int))) (.len (.arg 0)))).holds [] { args:=[.list (ns.map .int)] }=true:=by
   have h4:=(holds_andW hc).1
   rw[hn]at h4
   exact h4
  have h5:=condW_of h4 (w_not (w_lt w_lit (w_len_list (w_arg rfl))))
  rw[aad]at h5
  refine Nat.le_of_not_lt fun q=>?_
  have q':(n:Int)<((ns.length:Nat):Int):=by omega
  first
   | (rw [decide_eq_true q'] at h5; exact absurd h5 (by decide))
   | (simp at h5; omega)
 cases hwl with
 |cons w1 w2=>
  cases w2
  cases w1 with
  |list ho hall=>exact⟨_,_,ns,rfl,rfl,ho,kA ns _ hall,hlen⟩
theorem uQ(l:OpenLaw)(args:List WData):l.row.toRowW.claim.post args (.bool true) args=true:=
 postW_of (r:=l.row.toRowW) (X:=(true==true))
  (show WShape.has [] (.bool true) .bool=true by first|rfl|decide|simp[WShape.has,WShape.arms,WShape.armsAll])
  (show(WTm.eq .res (.lit (.bool true))).value [] { args:=args,res:=some (.bool true),after:=args }=some (.bool (true==true)) from w_eq_bool (w_res rfl) w_lit) rfl
theorem attach_call{l:OpenLaw}{n:Nat}{q:Program}{loose:List Str}{XP:(Str→Option Value)→Heap→Prop}{YP:World→Heap→Prop}{d:DefRec}
  (hn:l.most=some n) (hdf:d.params.defaults=[])
  (call:∀(w:World)(s₀ s₁:Shared)(mg mb:Str→Option Value)(fa:Addr)(o:Obj)(pm cd doc:Value)(a:Addr)(vs:List Value)(ns:List Int),
   Ground q loose [] XP w s₀ mg mb s₁.heap→YP w s₁.heap →
   s₁.heap.get? fa=some o→o.data=.func (docDef d.name d.params d.body d.scope pm cd doc)→s₁.heap.CodeRec cd d.name→mg d.name=some (.ref fa) →
   s₁.heap.get? a=some { cls:=.type "list",data:=.seq vs.toArray }→IntsAre vs ns→ns.length≤n→s₁.gens = #[] →
   codeAny (model l.prog w) callerA (.call (.ref fa) ⟨[.ref a],[]⟩) (fun r s'=>r=.ok (.ret (.bool true))∧OldK s₁.heap s'.heap∧s'.os=s₁.os∧AllBare s'.gens) s₁):
  WalkO q loose XP YP l.row.toRowW d [] (fun f vs=>PySem.call f vs):=by
 intro w s₀ s₁ mg mb G Y fa o pm cd doc dV kV ho hd hcd hD hmg hg args vals as hpre hlay hrd hwl hlo
 obtain rfl:dV=.none:=Dflts.none hD hdf
 obtain rfl:kV=.none:=Dflts.noKw hD
 obtain⟨a,vs,ns,rfl,rfl,hobj,hints,hlen⟩:=uF hn hpre hwl
 refine enter_call (codeAny_mono (call w s₀ s₁ mg mb fa o pm cd doc a vs ns G Y ho (fd_plain hd) hcd hmg hobj hints hlen hg) fun r s' hq=>?_)
 obtain⟨rfl,h2,h3,h4⟩:=hq
 exact⟨.inl ⟨.bool true,.bool true,[],rfl,fun _=>rfl,.bool true,uQ l _,fun _=>⟨List.Pairwise.nil,fun _ hm=>(nomatch hm)⟩⟩,h2,h3,h4⟩
section
variable {prog:Program}{w:World}{A:Around}{E:Value→Shared→Prop}{s:Shared}{K:Frag}
theorem EX{R:Result→Shared→Prop}{C fI:Addr}{rest:List Value}{kw:List (Str×Value)}
  (X:K.In s.heap) (hm:makesIn K C=true) (hi:findIn K (.ref C) "__init__" = some (some (.ref fI))) (hf:isFn K (.ref fI)=true)
  (h:codeAny (model prog w) (A.under (.builtin "type.__call__" ⟨.ref C::rest,kw⟩)) (.call (.ref fI) ⟨.ref (s.heap.objs.size+1)::rest,kw⟩) (InitBack (s.heap.objs.size+1) R)
   { s with heap:=(s.heap.push emptyDict).push (instObj C s.heap.objs.size) }):codeAny (model prog w) A (.call (.ref C) ⟨rest,kw⟩) R s:=by
 obtain⟨hh,g,d,t,os⟩:=s
 exact make_core (makes_of X hm) (looks_findIn X hi) (fun self=>bind_fn X self (beq_iff_eq.mp hf)) (.inl rfl) h
theorem DV{x C:Addr}{ox:Obj}{es:List DictEntry}{n:Nat}{name:Str}{expr:Bool}{v:Value}{Q:Value→Shared→Prop}
  (X:K.In s.heap) (I:PySem.W.InstAt s.heap x ox C (some (dictOf es n))) (hg:plainGet K C name=true) (hh:hasDictIn K C=true) (ha:findIn K (.ref C) name=some none)
  (hl:getL name es=some (some v)) (hv:handedIn v=true) (h:Q v { s with toks:=s.toks+1 }):wpAny (model prog w) A (getAttr (.ref x) name expr) Q E s:=
 get_value X I (plainGet_of hg).1 (findObj_own hh ha rfl hl) hv h
end
end Att
namespace L2
open PySem PySem.Spec PyProof.Rows
theorem nq:∀{vs:List Value}{ns:List Int},IntsAre vs ns→Vals (ns.map V.int) vs
 |_,_,.nil=>.nil
 |_,_,.cons n t h=>.cons ⟨t,rfl⟩ (nq h)
def DP(H:Hp):Prop:=∀b,H b=none∨∃o xs,H b=some (.frz o (.lst xs))
theorem xB{P:Program}{w:World}{K:aT}{mg mb:Str→Option Value}{CX:CXT}{k:Nat}{fa a:Addr}{fd:FuncData}{x:Str}{sp:Sp}{s₁:Shared}{vs:List Value}{ns:List Int}
  (KX:K.In s₁.heap) (hns:s₁.heap.Ns mainGlobals mg) (hb:s₁.heap.Ns builtinsNs mb) (hbb:∀x:Str,x≠"__name__"→mb x=bootBuiltins x) (hlim:s₁.heap.NoLimit) (hg:s₁.gens = #[])
  (ha:s₁.heap.get? a=some { cls:=.type "list",data:=.seq vs.toArray }) (hi:IntsAre vs ns) (hl:ns.length≤sizeLine) (hr:Room k callerA)
  (F:∀base:Heap,K.In base→base.Ns mainGlobals mg→FnOk P w K mg base CX k fa fd [x] sp) (hbind:∀(s:Shared)(u:Value),BindsTo s fd ⟨[u],[]⟩ [(x,u)])
  (hsp:∀H:Hp,DP H→SqL K H a (ns.map V.int)→sp [.ref a] H (fun v _=>v=.bl true) fun _ _ _=>False)
  (hCX:∀H e s',CX [] H s₁ (fun _ _ _=>False) e s'→False):
  codeAny (model P w) callerA (.call (.ref fa) ⟨[.ref a],[]⟩) (fun r s'=>r=.ok (.ret (.bool true))∧OldK s₁.heap s'.heap∧s'.os=s₁.os∧AllBare s'.gens) s₁:=by
 have rv:=nq hi
 have lenV:=hi.length
 have core:∀H:Hp,DP H→SqL K H a (ns.map V.int)→HOk P w H s₁.heap→(∀b,H b≠none→b=a)→(H a≠none→K.lookup a=none) →
   codeAny (model P w) callerA (.call (.ref fa) ⟨[.ref a],[]⟩) (fun r s'=>r=.ok (.ret (.bool true))∧OldK s₁.heap s'.heap∧s'.os=s₁.os∧AllBare s'.gens) s₁:=by
  intro H hO hS hok hA hK
  have base_of:∀{b:Addr}{o:Obj},s₁.heap.get? b=some o→H b=none→(ph s₁.heap H).get? b=some o:=fun e n=>xT e n
  have noA:∀{b:Addr}{o:Obj}{es:Array DictEntry}{ep:Nat},s₁.heap.get? b=some o→o.data=.dict es ep→H b=none:=fun {b o es ep} e d=>by
   cases q:H b with
   |none=>rfl
   |some u=>
    have e':b=a:=hA b (by rw[q];simp)
    subst e'
    rw[ha]at e;cases e
    have d':Data.seq vs.toArray _=Data.dict es ep:=d
    cases d'
  have nsK:∀{b:Addr}{m:Str→Option Value},s₁.heap.Ns b m→(ph s₁.heap H).Ns b m:=fun {b m} ⟨o,es,ep,e,d,r⟩=>⟨o,es,ep,base_of e (noA e d),d,r⟩
  have hKb:K.In (ph s₁.heap H):=fun b o e=>base_of (KX b o e) (by
   cases q:H b with
   |none=>rfl
   |some u=>
    have e':b=a:=hA b (by rw[q];simp)
    subst e'
    rw[hK (by rw[q];simp)]at e;cases e)
  have hM:Mod K mg (ph s₁.heap H):=⟨hKb,nsK hns,⟨mb,nsK hb,hbb⟩,let⟨mc,h1,h2⟩:=hlim;⟨mc,nsK h1,h2⟩⟩
  have e0:Env0 P w K mg (ph s₁.heap H) callerA [] s₁ H:=⟨rfl,hM,fun b o e=>zS e,Nat.le_of_eq (vg _ _),trivial,fun b hb=>absurd (show b∈([]:List Addr) from hb) (by simp),hok,.of_eq hg⟩
  refine codeAny_mono ((F _ hKb (nsK hns)).run callerA [] s₁ H ⟨[.ref a],[]⟩ [.ref a] [.ref a] _ _ hr e0 (hbind s₁ (.ref a)) (.cons rfl .nil) (hsp H hO hS)) fun r s' h=>?_
  cases r with
  |error e=>exact(hCX H e s' h).elim
  |ok fl=>
   cases fl with
   |next=>exact False.elim h
   |brk=>exact False.elim h
   |cont=>exact False.elim h
   |ret u=>
    obtain⟨v,H',os,bare,un,hok',r',q⟩:=h
    have q':v=.bl true:=q
    subst q'
    obtain rfl:u=Value.bool true:=r'
    refine⟨rfl,OldK.of_keep fun b o e=>?_,os,bare⟩
    cases q:H b with
    |none=>exact un.keep b o e q (by intro z;exact absurd (show b∈([]:List Addr) from z) (by simp)) (by simp)
    |some u=>
     rcases hO b with z|⟨ob,xs,z⟩
     ·rw[q]at z;cases z
     ·have z2:=un.frzs b ob _ z
      obtain⟨e1,_⟩:=hok b _ z
      obtain⟨e2,_⟩:=hok' b _ z2
      rw[e]at e1;cases e1
      exact e2
 cases hk:K.lookup a with
 |some o=>
  have e:=KX a o hk
  rw[ha]at e
  cases e
  refine core (fun _=>none) (fun _=>.inl rfl) (.inr ⟨_,vs.toArray,_,hk,rfl,rfl,rfl,by rw[oF,lenV];exact hl,by simpa using rv⟩) (fun b u z=>by have z':(none:Option HO)=some u:=z;cases z') (fun b z=>absurd rfl z) fun z=>absurd rfl z
 |none=>
  refine core (fun b=>if b=a then some (.frz { cls:=.type "list",data:=.seq vs.toArray } (.lst (ns.map V.int))) else none) (fun b=>?_) (.inl (.inr ⟨{ cls:=.type "list",data:=.seq vs.toArray },if_pos rfl⟩)) (fun b u z=>?_) (fun b z=>?_) fun _=>hk
  ·by_cases hb:b=a
   ·exact .inr ⟨_,_,if_pos hb⟩
   ·exact .inl (if_neg hb)
  ·by_cases hb:b=a
   ·have z':=(if_pos hb).symm.trans z
    cases z'
    subst hb
    exact⟨ha,by rw[aad];exact hl,vs,_,rv,ha⟩
   ·have z':=(if_neg hb).symm.trans z
    cases z'
  ·by_cases hb:b=a
   ·exact hb
   ·exact absurd (if_neg hb) z
theorem yU{l:PySem.W.OpenLaw}{n k:Nat}{q:Program}{loose:List Str}{XP:(Str→Option Value)→Heap→Prop}{YP:World→Heap→Prop}{d:DefRec}{K:Params→aT}{CX:World→CXT}{sp:World→Sp}{x:Str}
  (hn:l.most=some n) (hn2:n≤sizeLine) (hdf:d.params.defaults=[]) (hr:Room k callerA)
  (hY:∀(w:World)(h:Heap),YP w h→(K w.params).In h)
  (F:∀(w:World)(mg:Str→Option Value)(fa:Addr)(h:Heap),(K w.params).In h→h.Ns mainGlobals mg→mg d.name=some (.ref fa) →
   ∃fd:FuncData,(∀(s:Shared)(u:Value),BindsTo s fd ⟨[u],[]⟩ [(x,u)]) ∧
    ∀base:Heap,(K w.params).In base→base.Ns mainGlobals mg→FnOk l.prog w (K w.params) mg base (CX w) k fa fd [x] (sp w))
  (hsp:∀(w:World)(H:Hp)(a:Addr)(ns:List Int),ns.length≤n→DP H→SqL (K w.params) H a (ns.map V.int)→sp w [.ref a] H (fun v _=>v=.bl true) fun _ _ _=>False)
  (hCX:∀(w:World)(H:Hp)(s:Shared)(e:Value)(s':Shared),CX w [] H s (fun _ _ _=>False) e s'→False):
  PySem.W.WalkO q loose XP YP l.row.toRowW d [] (fun f vs=>PySem.call f vs):=by
 refine Att.attach_call hn hdf fun w s₀ s₁ mg mb fa o pm cd doc a vs ns G Y ho hd hcd hmg hobj hints hlen hg=>?_
 have KX:=hY w _ Y
 obtain⟨fd,hb,hF⟩:=F w mg fa _ KX G.T.g hmg
 exact xB KX G.T.g G.T.b G.T.builtins G.T.nolimit hg hobj hints (iS hlen hn2) hr hF hb (fun H hO hS=>hsp w H a ns hlen hO hS) fun H e s'=>hCX w H s₁ e s'
def inClass(s:Stmt)(j:Nat):Stmt:=match s with
 |.ClassDef _ _ _ body _ _ _ _ _ _ _=>body.getD j (.Pass ⟨0,0,0,0⟩)
 |_=>.Pass ⟨0,0,0,0⟩
def ck(s:Stmt):Arguments:=match s with
 |.FunctionDef _ a _ _ _ _ _ _ _ _=>a
 |_=>{ posonlyargs:=[],args:=[],vararg:=none,kwonlyargs:=[],kw_defaults:=[],kwarg:=none,defaults:=[] }
def aS(s:Stmt):List Stmt:=match s with
 |.FunctionDef _ _ b _ _ _ _ _ _ _=>b
 |_=>[]
def af(s:Stmt):Scope:=match s with
 |.FunctionDef _ _ _ _ _ _ sc _ _ _=>sc
 |_=>{ kind:=.function,names:=[],isGenerator:=false,isCoroutine:=false }
structure Fun (K:aT) (x qual:Str) (st:Stmt) (f:Addr) (fd:FuncData):Prop where
 ex:∃(oc:Value)(od:Option Addr)(kV doc pm:Value)(an:Option Addr)(cdv ct:Value)(osl:Array (Option Value)),
  fd=aaF x qual (ck st) (aS st) (af st) .none kV doc pm an cdv ct∧K.lookup f=some ⟨oc,od,.func fd,osl⟩∧abo K cdv qual=true
 kp:aaE K (.ref f)=true
section
variable {P:Program}{w:World}{K:aT}{mg:Str→Option Value}{base:Heap}
theorem Fun.binds{x qual:Str}{st:Stmt}{f:Addr}{fd:FuncData}{ps:List Str}(F:Fun K x qual st f fd)
  (h:∀(kV doc pm:Value)(an:Option Addr)(cdv ct:Value)(us:List Value),us.length=ps.length→bindArgs (aaF x qual (ck st) (aS st) (af st) .none kV doc pm an cdv ct) ⟨us,[]⟩=pure (ps.zip us)):Binds K fd ps []:=by
 obtain⟨oc,od,kV,doc,pm,an,cdv,ct,osl,rfl,lk,hcd⟩:=F.ex
 exact .all (h kV doc pm an cdv ct)
theorem sy{x qual:Str}{st:Stmt}{f:Addr}{oc:Value}{od an:Option Addr}{osl:Array (Option Value)}{kV doc pm cdv ct:Value}(l:K.lookup f=some ⟨oc,od,.func (aaF x qual (ck st) (aS st) (af st) .none kV doc pm an cdv ct),osl⟩)
  (c:abo K cdv qual=true) (k:aaE K (.ref f)=true):Fun K x qual st f (aaF x qual (ck st) (aS st) (af st) .none kV doc pm an cdv ct):=⟨⟨oc,od,kV,doc,pm,an,cdv,ct,osl,rfl,l,c⟩,k⟩
end
section
variable {X:Cx}
theorem pv (i:Nat) {x:Str} {pos:Pos} (hN:X.N[i]? = some x:=by rfl) (hv:Vis X.env.scope x:=by first|exact Or.inl rfl|exact Or.inr (Or.inl rfl)|exact Or.inr (Or.inr rfl)) (hd:(x==("__debug__":Str))=false:=by decide)
  (hcd:(x==("__classdict__":Str))=false:=by decide):PE X (.Name x pos) (yX i):=dJ hN hv hd hcd
end
def aL(H H':Hp):Prop:=∀b o,H b=some o→H' b=some o
theorem aL.refl(H:Hp):aL H H:=fun _ _ h=>h
theorem aL.trans{H H1 H2:Hp}(a:aL H H1)(b:aL H1 H2):aL H H2:=fun c o h=>b c o (a c o h)
theorem aL.free{H H':Hp}(e:aL H H'){l:Addr}(h:H' l=Option.none):H l=Option.none:=by
 cases q:H l with
 |none=>rfl
 |some o=>
  rw[e l o q]at h
  cases h
theorem aL.seq{K:aT}{H H':Hp}{a:Addr}{xs:List V}(e:aL H H')(h:SqL K H a xs):SqL K H' a xs:=by
 rcases h with (h|⟨o,h⟩)|h
 ·exact .inl (.inl (e _ _ h))
 ·exact .inl (.inr ⟨o,e _ _ h⟩)
 ·exact .inr h
section
variable {X:Cx}
end
section
variable {κ:Type}[DecidableEq κ]
end
end L2
namespace G
open PySem PySem.Spec PyProof.Rows L2
inductive PV where
 |non|bl (b:Bool)|int (i:Int)|str (x:Str)|tup (xs:List PV)|lst (xs:List PV)|dic|dct (ns:List Str) (ps:List PV)|scr (ns:List Int)|exc (c:Str)|ob (c:Str) (ns:List Str) (ps:List PV)
instance:Inhabited PV:=⟨.non⟩
inductive Res (α:Type) where
 |ok (a:α)|err (c:Str)|stuck
def Res.bind{α β:Type}(r:Res α)(f:α→Res β):Res β:=match r with
 |.ok a=>f a
 |.err c=>.err c
 |.stuck=>.stuck
theorem Res.bind_ok{α β:Type}(a:α)(f:α→Res β):(Res.ok a).bind f=f a:=rfl
theorem Res.bind_err{α β:Type}(c:Str)(f:α→Res β):(Res.err c:Res α).bind f=.err c:=rfl
theorem Res.bind_stuck{α β:Type}(f:α→Res β):(Res.stuck:Res α).bind f=.stuck:=rfl
def vo(a:Addr)(C:Addr):Heap→Prop:=fun h=>∃o vs,h.get? a=some o∧o.cls=.ref C∧o.data=.fields vs
def aC(K:aT)(c:Str)(C:Addr):Prop:=aak K mainGlobals c=some (some (.ref C))
mutual
inductive Rep (K:aT) (H:Hp):V→PV→Prop where
 |non:Rep K H .non .non
 |bl (b:Bool):Rep K H (.bl b) (.bl b)
 |int (i:Int):Rep K H (.int i) (.int i)
 |str (x:Str):Rep K H (.str x) (.str x)
 |tup {a:Addr} {xs:List V} {ps:List PV}:SqT K H a xs→Reps K H xs ps→Rep K H (.ref a) (.tup ps)
 |lst {a:Addr} {xs:List V} {ps:List PV}:H a=some (.lst xs)→Reps K H xs ps→Rep K H (.ref a) (.lst ps)
 |scr {a:Addr} {ns:List Int}:SqL K H a (ns.map V.int)→Rep K H (.ref a) (.scr ns)
 |dic {a:Addr} {kvs:List (Key×V)}:H a=some (.dK kvs)→Rep K H (.ref a) .dic
 |dct {a:Addr} {kvs:List (Key×V)} {ns:List Str} {vs:List V} {ps:List PV}:H a=some (.dK kvs)→kvs=(ns.map Sum.inr).zip vs→ns.length=vs.length→Reps K H vs ps→Rep K H (.ref a) (.dct ns ps)
 |exc {a C:Addr} {c:Str}:H a=some (.ext (vo a C))→aC K c C→Rep K H (.ref a) (.exc c)
 |ob {a C dx:Addr} {c:Str} {fs:List (Str×V)} {ns:List Str} {vs:List V} {ps:List PV}:H a=some (.ins C dx fs)→aC K c C→fs=ns.zip vs→ns.length=vs.length→Reps K H vs ps→Rep K H (.ref a) (.ob c ns ps)
inductive Reps (K:aT) (H:Hp):List V→List PV→Prop where
 |nil:Reps K H [] []
 |cons {v:V} {p:PV} {vs:List V} {ps:List PV}:Rep K H v p→Reps K H vs ps→Reps K H (v::vs) (p::ps)
end
section
variable {K:aT}{H H':Hp}
theorem bO{a:Addr}{xs:List V}(e:aL H H')(h:SqT K H a xs):SqT K H' a xs:=by
 rcases h with (h|⟨o,h⟩)|h
 ·exact .inl (.inl (e _ _ h))
 ·exact .inl (.inr ⟨o,e _ _ h⟩)
 ·exact .inr h
mutual
theorem Rep.mono(e:aL H H'):∀{v:V}{p:PV},Rep K H v p→Rep K H' v p
 |_,_,.non=>.non
 |_,_,.bl b=>.bl b
 |_,_,.int i=>.int i
 |_,_,.str x=>.str x
 |_,_,.tup h r=>.tup (bO e h) (Reps.mono e r)
 |_,_,.lst h r=>.lst (e _ _ h) (Reps.mono e r)
 |_,_,.scr h=>.scr (e.seq h)
 |_,_,.dic h=>.dic (e _ _ h)
 |_,_,.dct h z l r=>.dct (e _ _ h) z l (Reps.mono e r)
 |_,_,.exc h c=>.exc (e _ _ h) c
 |_,_,.ob h c z l r=>.ob (e _ _ h) c z l (Reps.mono e r)
theorem Reps.mono(e:aL H H'):∀{vs:List V}{ps:List PV},Reps K H vs ps→Reps K H' vs ps
 |_,_,.nil=>.nil
 |_,_,.cons r t=>.cons (Rep.mono e r) (Reps.mono e t)
end
theorem Reps.length:∀{vs:List V}{ps:List PV},Reps K H vs ps→vs.length=ps.length
 |_,_,.nil=>rfl
 |_,_,.cons _ t=>by rw[iF,iF,Reps.length t]
theorem Reps.get:∀{vs:List V}{ps:List PV}{i:Nat}{p:PV},Reps K H vs ps→ps[i]? = some p→∃v,vs[i]? = some v∧Rep K H v p
 |_,_,_,_,.nil,e=>by simp at e
 |_,_,0,_,.cons r _,e=>by simp at e;subst e;exact⟨_,rfl,r⟩
 |_,_,i+1,p,.cons _ t,e=>by
  obtain⟨v,h1,h2⟩:=Reps.get (i:=i) (p:=p) t (by simpa using e)
  exact⟨v,by simpa using h1,h2⟩
theorem Reps.append:∀{vs ws:List V}{ps qs:List PV},Reps K H vs ps→Reps K H ws qs→Reps K H (vs++ws) (ps++qs)
 |_,_,_,_,.nil,s=>s
 |_,_,_,_,.cons r t,s=>.cons r (Reps.append t s)
theorem Reps.take:∀{vs:List V}{ps:List PV}(n:Nat),Reps K H vs ps→Reps K H (vs.take n) (ps.take n)
 |_,_,0,_=>.nil
 |_,_,_+1,.nil=>.nil
 |_,_,n+1,.cons r t=>.cons r (Reps.take n t)
theorem Reps.drop:∀{vs:List V}{ps:List PV}(n:Nat),Reps K H vs ps→Reps K H (vs.drop n) (ps.drop n)
 |_,_,0,r=>r
 |_,_,_+1,.nil=>.nil
 |_,_,n+1,.cons _ t=>Reps.drop n t
theorem Reps.reverse:∀{vs:List V}{ps:List PV},Reps K H vs ps→Reps K H vs.reverse ps.reverse
 |_,_,.nil=>.nil
 |_,_,.cons r t=>by
  rw[abj,abj]
  exact Reps.append (Reps.reverse t) (.cons r .nil)
theorem Reps.ints:∀(ns:List Int),Reps K H (ns.map V.int) (ns.map PV.int)
 |[]=>.nil
 |n::r=>.cons (.int n) (Reps.ints r)
theorem Rep.int_inv{v:V}{i:Int}(r:Rep K H v (.int i)):v=.int i:=by cases r;rfl
theorem Rep.bl_inv{v:V}{b:Bool}(r:Rep K H v (.bl b)):v=.bl b:=by cases r;rfl
theorem Rep.str_inv{v:V}{x:Str}(r:Rep K H v (.str x)):v=.str x:=by cases r;rfl
theorem Rep.non_inv{v:V}(r:Rep K H v .non):v=.non:=by cases r;rfl
theorem Rep.tup_inv{v:V}{ps:List PV}(r:Rep K H v (.tup ps)):∃a xs,v=.ref a∧SqT K H a xs∧Reps K H xs ps:=by
 cases r with
 |tup h t=>exact⟨_,_,rfl,h,t⟩
theorem Rep.scr_inv{v:V}{ns:List Int}(r:Rep K H v (.scr ns)):∃a,v=.ref a∧SqL K H a (ns.map V.int):=by
 cases r with
 |scr h=>exact⟨_,rfl,h⟩
theorem Rep.lst_inv{v:V}{ps:List PV}(r:Rep K H v (.lst ps)):∃a xs,v=.ref a∧H a=some (.lst xs)∧Reps K H xs ps:=by
 cases r with
 |lst h t=>exact⟨_,_,rfl,h,t⟩
theorem Reps.nil_inv{vs:List V}(r:Reps K H vs []):vs=[]:=by cases r;rfl
theorem Reps.cons_inv{vs:List V}{p:PV}{ps:List PV}(r:Reps K H vs (p::ps)):∃v ws,vs=v::ws∧Rep K H v p∧Reps K H ws ps:=by
 cases r with
 |cons a b=>exact⟨_,_,rfl,a,b⟩
end
structure Grow (Hs H Hs' H':Hp):Prop where
 s:aL Hs Hs'
 i:aL Hs' H'
 h:aL H H'
 o:∀x,H x≠none→Hs x=none→Hs' x=none
theorem Grow.refl{Hs H:Hp}(i:aL Hs H):Grow Hs H Hs H:=⟨aL.refl _,i,aL.refl _,fun _ _ h=>h⟩
theorem Grow.trans{Hs H Hs1 H1 Hs2 H2:Hp}(a:Grow Hs H Hs1 H1)(b:Grow Hs1 H1 Hs2 H2):Grow Hs H Hs2 H2:=
 ⟨a.s.trans b.s,b.i,a.h.trans b.h,fun x h n=>b.o x (by
  cases e:H x with
  |none=>exact absurd e h
  |some o=>rw[a.h x o e];exact fun z=>nomatch z) (a.o x h n)⟩
theorem aX{H:Hp}{p:Addr}{o:HO}(h:H p=none):aL H (upd H p o):=fun b u q=>by rw[aj (bh q h)];exact q
theorem nz{Hs H:Hp}{p:Addr}{o:HO}(i:aL Hs H):aL (upd Hs p o) (upd H p o):=fun b u q=>by
 by_cases e:b=p
 ·subst e;rw[ak]at q ⊢;exact q
 ·rw[aj e]at q ⊢;exact i b u q
theorem Grow.new{Hs H:Hp}{p:Addr}{o:HO}(i:aL Hs H)(h:H p=none):Grow Hs H (upd Hs p o) (upd H p o):=
 ⟨aX (i.free h),nz i,aX h,fun x hx hn=>by rw[aj (fun e=>hx (by rw[e];exact h))];exact hn⟩
theorem Grow.newOwn{Hs H:Hp}{p:Addr}{o:HO}(i:aL Hs H)(h:H p=none):Grow Hs H Hs (upd H p o):=
 ⟨aL.refl _,i.trans (aX h),aX h,fun _ _ hn=>hn⟩
def Ret(K:aT)(Hs H:Hp)(r:Res PV)(EO:Str→Prop)(Q:VK):Prop:=match r with
 |.ok p=>∀v Hs' H',Grow Hs H Hs' H'→Rep K Hs' v p→Q v H'
 |.err c=>EO c
 |.stuck=>False
theorem Ret.grow{K:aT}{Hs H Hs1 H1:Hp}{r:Res PV}{EO:Str→Prop}{Q:VK}(h:Ret K Hs H r EO Q)(g:Grow Hs H Hs1 H1):Ret K Hs1 H1 r EO Q:=by
 cases r with
 |ok p=>exact fun v Hs' H' g' r=>h v Hs' H' (g.trans g') r
 |err c=>exact h
 |stuck=>exact h
theorem Ret.bind{K:aT}{Hs H:Hp}{r:Res PV}{f:PV→Res PV}{EO:Str→Prop}{Q:VK}(h:Ret K Hs H (r.bind f) EO Q):
  Ret K Hs H r EO fun v H1=>∃Hs1 p,Grow Hs H Hs1 H1∧Rep K Hs1 v p∧Ret K Hs1 H1 (f p) EO Q:=by
 cases r with
 |ok p=>exact fun v Hs' H' g r=>⟨Hs',p,g,r,Ret.grow (r:=f p) h g⟩
 |err c=>exact h
 |stuck=>exact h
theorem Ret.mono{K:aT}{Hs H:Hp}{r:Res PV}{EO:Str→Prop}{Q Q':VK}(h:Ret K Hs H r EO Q)(m:∀v H',Q v H'→Q' v H'):Ret K Hs H r EO Q':=by
 cases r with
 |ok p=>exact fun v Hs' H' g r=>m _ _ (h v Hs' H' g r)
 |err c=>exact h
 |stuck=>exact h
def pI(K:aT)(Hs H:Hp)(r:Res (List PV))(EO:Str→Prop)(Q:List V→Hp→Prop):Prop:=match r with
 |.ok ps=>∀vs Hs' H',Grow Hs H Hs' H'→Reps K Hs' vs ps→Q vs H'
 |.err c=>EO c
 |.stuck=>False
def mG(Hs H:Hp)(r:Res Bool)(EO:Str→Prop)(Q:Bool→Hp→Prop):Prop:=match r with
 |.ok b=>∀Hs' H',Grow Hs H Hs' H'→Q b H'
 |.err c=>EO c
 |.stuck=>False
theorem mG.grow{Hs H Hs1 H1:Hp}{r:Res Bool}{EO:Str→Prop}{Q:Bool→Hp→Prop}(h:mG Hs H r EO Q)(g:Grow Hs H Hs1 H1):mG Hs1 H1 r EO Q:=by
 cases r with
 |ok p=>exact fun Hs' H' g'=>h Hs' H' (g.trans g')
 |err c=>exact h
 |stuck=>exact h
theorem mG.bind{Hs H:Hp}{r:Res Bool}{f:Bool→Res Bool}{EO:Str→Prop}{Q:Bool→Hp→Prop}(h:mG Hs H (r.bind f) EO Q):
  mG Hs H r EO fun b H1=>∃Hs1,Grow Hs H Hs1 H1∧mG Hs1 H1 (f b) EO Q:=by
 cases r with
 |ok p=>exact fun Hs' H' g=>⟨Hs',g,mG.grow (r:=f p) h g⟩
 |err c=>exact h
 |stuck=>exact h
inductive SV where
 |sh (p:PV)|own (xs:List PV)|flo (ad:Option (Addr×Addr×Addr)) (now:PV) (ns:List Str) (ps:List PV)
abbrev PSt:=List (Option SV)
inductive Fl where
 |next (σ:PSt)|brk (σ:PSt)|cont (σ:PSt)|ret (p:PV)
abbrev DE:=PSt→Res PV
abbrev DA:=PSt→Res (List PV)
abbrev DT:=PSt→Res Bool
abbrev DS:=PSt→Res Fl
structure FloAt (K:aT) (H0 Hs H:Hp) (a C dx r:Addr) (vn:V) (vs:List V) (now:PV) (ns:List Str) (ps:List PV):Prop where
 ins:H a=some (.ins C dx [("now",vn),("rows",.ref r)])
 cls:aC K "Floor" C
 dct:H dx=some (.own a)
 row:H r=some (.dK ((ns.map Sum.inr).zip vs))
 len:ns.length=vs.length
 sa:Hs a=none
 sd:Hs dx=none
 sr:Hs r=none
 oa:H0 a=none
 od:H0 dx=none
 or:H0 r=none
 now:Rep K Hs vn now
 rows:Reps K Hs vs ps
def yL(K:aT)(H0 Hs H:Hp)(v:V):SV→Prop
 |.sh p=>Rep K Hs v p
 |.own xs=>∃a vs,v=.ref a∧H a=some (.lst vs)∧Hs a=none∧H0 a=none∧Reps K Hs vs xs
 |.flo ad now ns ps=>∃a C dx r vn vs,v=.ref a∧(∀z,ad=some z→z=(a,dx,r))∧FloAt K H0 Hs H a C dx r vn vs now ns ps
structure SR (K:aT) (H0 Hs0 Hs H:Hp) (σ:PSt) (τ:L2.St):Prop where
 g:Grow Hs0 H0 Hs H
 slot:∀(i:Nat)(sv:SV),σ[i]? = some (some sv)→∃v,τ[i]? = some (some v)∧yL K H0 Hs H v sv
 inj:∀(i j:Nat)(xs ys:List PV)(a:Addr),i≠j→σ[i]? = some (some (.own xs))→σ[j]? = some (some (.own ys))→τ[i]? = some (some (.ref a))→τ[j]?≠some (some (.ref a))
 len:σ.length=τ.length
theorem FloAt.grow{K:aT}{H0 Hs H Hs' H':Hp}{a C dx r:Addr}{vn:V}{vs:List V}{now:PV}{ns:List Str}{ps:List PV}(f:FloAt K H0 Hs H a C dx r vn vs now ns ps)(g:Grow Hs H Hs' H'):FloAt K H0 Hs' H' a C dx r vn vs now ns ps:=
 ⟨g.h _ _ f.ins,f.cls,g.h _ _ f.dct,g.h _ _ f.row,f.len,g.o a (by rw[f.ins];exact fun z=>nomatch z) f.sa,g.o dx (by rw[f.dct];exact fun z=>nomatch z) f.sd,g.o r (by rw[f.row];exact fun z=>nomatch z) f.sr,f.oa,f.od,f.or,f.now.mono g.s,f.rows.mono g.s⟩
theorem yL.grow{K:aT}{H0 Hs H Hs' H':Hp}{v:V}{sv:SV}(h:yL K H0 Hs H v sv)(g:Grow Hs H Hs' H'):yL K H0 Hs' H' v sv:=by
 cases sv with
 |sh p=>exact Rep.mono g.s h
 |own xs=>
  obtain⟨a,vs,e,h1,h2,h3,h4⟩:=h
  exact⟨a,vs,e,g.h _ _ h1,g.o a (by rw[h1];exact fun z=>nomatch z) h2,h3,h4.mono g.s⟩
 |flo ad now ns ps=>
  obtain⟨a,C,dx,r,vn,vs,e,t,f⟩:=h
  exact⟨a,C,dx,r,vn,vs,e,t,f.grow g⟩
theorem SR.grow{K:aT}{H0 Hs0 Hs H Hs' H':Hp}{σ:PSt}{τ:L2.St}(h:SR K H0 Hs0 Hs H σ τ)(g:Grow Hs H Hs' H'):SR K H0 Hs0 Hs' H' σ τ:=
 ⟨h.g.trans g,fun i sv e=>let⟨v,e1,r⟩:=h.slot i sv e;⟨v,e1,r.grow g⟩,h.inj,h.len⟩
structure UnX (l:List Env) (H H1:Hp) (h B h':Heap):Prop where
 keep:∀b o,h.get? b=some o→H b=none→b∉frs l→B.get? b=some o
 slot:∀b o,h.get? b=some o→H b=none→b∈frs l→∃sl,h'.get? b=some { o with slots:=sl }
 free:∀b o,h.get? b=some o→H b=none→H1 b=none
 there:∀b o,h.get? b=some o→H b≠none→∃o',B.get? b=some o'
 tups:∀b xs,H b=some (.tup xs)→H1 b=some (.tup xs)
 frzs:∀b o u,H b=some (.frz o u)→H1 b=some (.frz o u)
 tbls:∀b ps,H b=some (.tbl ps)→∃more,H1 b=some (.tbl (ps++more))
def CXG(P:Program)(w:World):CXT:=fun l H s E e s'=>∃(ea C:Addr)(B:Heap)(a0:Value)(H1:Hp),e=.ref ea∧s'.os=s.os∧AllBare s'.gens∧Heap.FlyingW B l ea (.ref C) a0 s'.heap∧UnX l H H1 s.heap B s'.heap∧HOk P w H1 B∧E (.ref C) none H1
def CXH(P:Program)(w:World):CXT:=fun l H s E e s'=>∃(ea C:Addr)(B:Heap)(a0 fl:Value)(H1:Hp),e=.ref ea∧s'.os=s.os∧AllBare s'.gens∧(B.StaysIn s'.heap∧B.get? ea=none∧s'.heap.FunFrames B l∧s'.heap.TracedAtW B ea (.ref C) a0 fl)∧UnX l H H1 s.heap B s'.heap∧HOk P w H1 B∧E (.ref C) none H1
def Fj(X:Cx)(H0 Hs0:Hp)(c:Str)(e:Value)(s':Shared):Prop:=
 ∃(pins:List (Addr×Obj))(τ:L2.St)(H:Hp)(s:Shared),Inv X pins τ H s ∧
  ((X.stack=X.env::X.outer∧∃(ea C:Addr)(vs:List Value)(h':Heap)(Hs:Hp),e=.ref ea∧aC X.K c C∧Grow Hs0 H0 Hs H∧Heap.MadeExcOf s.heap h' ea (.ref C) vs∧s' = { s with heap:=h' }) ∨
   CXG X.prog X.w X.stack H s (fun cls _ H1=>∃(C:Addr)(Hs1:Hp),cls=.ref C∧aC X.K c C∧Grow Hs0 H0 Hs1 H1) e s' ∨
   (X.stack=X.env::X.outer∧CXH X.prog X.w X.stack H s (fun cls _ H1=>∃(C:Addr)(Hs1:Hp),cls=.ref C∧aC X.K c C∧Grow Hs0 H0 Hs1 H1) e s'))
def a8(X:Cx)(H0 Hs0:Hp)(c:Str):Prop:=∀(e:Value)(s':Shared),Fj X H0 Hs0 c e s'→X.xe e s'
section
variable (X:Cx)(H0 Hs0:Hp)
def RE(d:DE):TE:=fun τ H Q=>∃Hs σ,SR X.K H0 Hs0 Hs H σ τ∧Ret X.K Hs H (d σ) (a8 X H0 Hs0) Q
def RA(d:DA):TA:=fun τ H Q=>∃Hs σ,SR X.K H0 Hs0 Hs H σ τ∧pI X.K Hs H (d σ) (a8 X H0 Hs0) Q
def RT(d:DT):TT:=fun τ H Q=>∃Hs σ,SR X.K H0 Hs0 Hs H σ τ∧mG Hs H (d σ) (a8 X H0 Hs0) Q
def fH(D:Ends)(Hs H:Hp):Res Fl→Prop
 |.ok (.next σ')=>∀Hs' H' τ',aL Hs Hs'→SR X.K H0 Hs0 Hs' H' σ' τ'→D.nx τ' H'
 |.ok (.brk σ')=>∀Hs' H' τ',aL Hs Hs'→SR X.K H0 Hs0 Hs' H' σ' τ'→D.bk τ' H'
 |.ok (.cont σ')=>∀Hs' H' τ',aL Hs Hs'→SR X.K H0 Hs0 Hs' H' σ' τ'→D.ct τ' H'
 |.ok (.ret p)=>∀v Hs' H',Grow Hs0 H0 Hs' H'→Rep X.K Hs' v p→D.rt v H'
 |.err c=>a8 X H0 Hs0 c
 |.stuck=>False
def RS(d:DS):TS:=fun D τ H=>∃Hs σ,SR X.K H0 Hs0 Hs H σ τ∧fH X H0 Hs0 D Hs H (d σ)
def QE(e:Expr)(d:DE):Prop:=PE X e (RE X H0 Hs0 d)
def QA(es:List Expr)(d:DA):Prop:=PA X es (RA X H0 Hs0 d)
def QT(e:Expr)(d:DT):Prop:=PT X e (RT X H0 Hs0 d)
def QW(e:Expr)(d:DT):Prop:=PW X e (RT X H0 Hs0 d)
def QS(s:Stmt)(d:DS):Prop:=PS X s (RS X H0 Hs0 d)
def QSs(s:List Stmt)(d:DS):Prop:=PSs X s (RS X H0 Hs0 d)
end
theorem PE.imp{X:Cx}{e:Expr}{t t':TE}(h:PE X e t)(m:∀τ H Q,t' τ H Q→t τ H Q):PE X e t':=fun pins s σ H Q I q=>h pins s σ H Q I (m _ _ _ q)
theorem PA.imp{X:Cx}{e:List Expr}{t t':TA}(h:PA X e t)(m:∀τ H Q,t' τ H Q→t τ H Q):PA X e t':=fun pos pins s σ H Q I q=>h pos pins s σ H Q I (m _ _ _ q)
theorem PT.imp{X:Cx}{e:Expr}{t t':TT}(h:PT X e t)(m:∀τ H Q,t' τ H Q→t τ H Q):PT X e t':=fun pins s σ H Q I q=>h pins s σ H Q I (m _ _ _ q)
theorem PW.imp{X:Cx}{e:Expr}{t t':TT}(h:PW X e t)(m:∀τ H Q,t' τ H Q→t τ H Q):PW X e t':=fun wh pins s σ H Q I q=>h wh pins s σ H Q I (m _ _ _ q)
theorem PS.imp{X:Cx}{e:Stmt}{t t':TS}(h:PS X e t)(m:∀D τ H,t' D τ H→t D τ H):PS X e t':=fun pins s σ H D I q=>h pins s σ H D I (m _ _ _ q)
theorem PSs.imp{X:Cx}{e:List Stmt}{t t':TS}(h:PSs X e t)(m:∀D τ H,t' D τ H→t D τ H):PSs X e t':=fun pins s σ H D I q=>h pins s σ H D I (m _ _ _ q)
theorem QS.stuck{X:Cx}{H0 Hs0:Hp}{e:Stmt}:QS X H0 Hs0 e (fun _=>.stuck):=fun pins s σ H D I ⟨_,_,_,h⟩=>h.elim
def ae(i:Nat):DE:=fun σ=>match σ[i]? with
 |some (some (.sh p))=>.ok p
 |_=>.stuck
def eC(p:PV):DE:=fun _=>.ok p
section
variable {X:Cx}{H0 Hs0:Hp}
theorem wC {i:Nat} {x:Str} {pos:Pos} (hN:X.N[i]? = some x) (hv:Vis X.env.scope x) (hd:(x==("__debug__":Str))=false) (hcd:(x==("__classdict__":Str))=false):QE X H0 Hs0 (.Name x pos) (ae i):=by
 refine PE.imp (dJ hN hv hd hcd) fun τ H Q ⟨Hs,σ,S,h⟩=>?_
 unfold ae at h
 split at h
 ·rename_i p e
  obtain⟨v,e1,r⟩:=S.slot i _ e
  exact⟨v,e1,h v Hs H (.refl S.g.i) r⟩
 ·exact h.elim
theorem EG{i j pos}:QE X H0 Hs0 (.Constant (.int i) j pos) (eC (.int i)):=PE.imp rK fun τ H Q ⟨Hs,σ,S,h⟩=>h _ Hs H (.refl S.g.i) (.int i)
theorem Gs{b j pos}:QE X H0 Hs0 (.Constant (.bool b) j pos) (eC (.bl b)):=PE.imp EM fun τ H Q ⟨Hs,σ,S,h⟩=>h _ Hs H (.refl S.g.i) (.bl b)
theorem EA{j pos}:QE X H0 Hs0 (.Constant .none j pos) (eC .non):=PE.imp Cq fun τ H Q ⟨Hs,σ,S,h⟩=>h _ Hs H (.refl S.g.i) .non
theorem Ew{x j pos}:QE X H0 Hs0 (.Constant (.str x) j pos) (eC (.str x)):=PE.imp Cn fun τ H Q ⟨Hs,σ,S,h⟩=>h _ Hs H (.refl S.g.i) (.str x)
def OpP(X:Cx)(f:Value→Value→Sem Value)(g:PV→PV→Res PV):Prop:=
 ∀(EO:Str→Prop),OpR X f fun x y H Q=>∃Hs p q,aL Hs H∧Rep X.K Hs x p∧Rep X.K Hs y q∧Ret X.K Hs H (g p q) EO Q
def e2(g:PV→PV→Res PV)(a b:DE):DE:=fun σ=>(a σ).bind fun p=>(b σ).bind fun q=>g p q
variable {a b:Expr}{da db:DE}{pos:Pos}
theorem two{g:PV→PV→Res PV}{τ:L2.St}{H:Hp}{Q:VK}(h:RE X H0 Hs0 (e2 g da db) τ H Q):
  RE X H0 Hs0 da τ H fun x H1=>RE X H0 Hs0 db τ H1 fun y H2=>∃Hs p q,aL Hs H2∧Rep X.K Hs x p∧Rep X.K Hs y q∧Ret X.K Hs H2 (g p q) (a8 X H0 Hs0) Q:=by
 obtain⟨Hs,σ,S,h⟩:=h
 refine⟨Hs,σ,S,Ret.mono (Ret.bind h) fun x H1 ⟨Hs1,p,g1,r1,h1⟩=>?_⟩
 exact⟨Hs1,σ,S.grow g1,Ret.mono (Ret.bind h1) fun y H2 ⟨Hs2,q,g2,r2,h2⟩=>⟨Hs2,p,q,g2.i,r1.mono g2.s,r2,h2⟩⟩
theorem Gr{op:Operator}{g:PV→PV→Res PV}(ho:OpP X (binaryOp op) g)(ha:QE X H0 Hs0 a da)(hb:QE X H0 Hs0 b db):QE X H0 Hs0 (.BinOp a op b pos) (e2 g da db):=
 PE.imp (EL (ho (a8 X H0 Hs0)) ha hb) fun τ H Q h=>two h
theorem EI{op:CmpOp}{g:PV→PV→Res PV}(ho:OpP X (compareOp op) g)(ha:QE X H0 Hs0 a da)(hb:QE X H0 Hs0 b db)(hm:behindInMarks op b=false):QE X H0 Hs0 (.Compare a [op] [b] pos) (e2 g da db):=
 PE.imp (zK (ho (a8 X H0 Hs0)) ha hb hm) fun τ H Q h=>two h
end
open Builtin.Int (intBits)
instance (i j:Int):Decidable (IntMulOk i j):=by unfold IntMulOk;infer_instance
def dG:PV→PV→Res PV
 |.int i,.int j=>.ok (.int (i+j))
 |.lst xs,.lst ys=>if xs.length+ys.length≤10000000 then .ok (.lst (xs++ys)) else .stuck
 |_,_=>.stuck
def eO:PV→PV→Res PV
 |.int i,.int j=>.ok (.int (i-j))
 |_,_=>.stuck
def bc:PV→PV→Res PV
 |.int i,.int j=>if IntMulOk i j then .ok (.int (i*j)) else .stuck
 |_,_=>.stuck
def a9:PV→PV→Res PV
 |.int i,.int j=>if j≠0∧intBits j≤9000 then .ok (.int (i.fdiv j)) else .stuck
 |_,_=>.stuck
def bA:PV→PV→Res PV
 |.int i,.int j=>if j≠0 then .ok (.int (i.fmod j)) else .stuck
 |_,_=>.stuck
def jq:PV→PV→Res PV
 |.int i,.int j=>if 0≤j∧j≤1000000∧i.natAbs<2 ^ 64 then .ok (.int (i ^ j.toNat)) else .stuck
 |_,_=>.stuck
section
variable {X:Cx}
theorem b8{K:aT}{Hs H:Hp}{i:Int}{EO:Str→Prop}{Q:VK}(h:Ret K Hs H (.ok (.int i)) EO Q)(s:aL Hs H):Q (.int i) H:=h _ Hs H (.refl s) (.int i)
theorem eu{K:aT}{Hs H:Hp}{i:Bool}{EO:Str→Prop}{Q:VK}(h:Ret K Hs H (.ok (.bl i)) EO Q)(s:aL Hs H):Q (.bl i) H:=h _ Hs H (.refl s) (.bl i)
theorem o4{j:Int}(h:intBits j≤9000):j.natAbs.log2<9000:=by
 unfold intBits at h
 split at h
 ·rename_i e
  have e':j=0:=by simpa using e
  subst e'
  decide +kernel
 ·omega
theorem bM:OpP X (binaryOp .Add) dG:=by
 intro EO pins s σ H x y v u Q I rx ry h
 obtain⟨Hs,p,q,i,rp,rq,h⟩:=h
 unfold dG at h
 split at h
 ·cases rp.int_inv;cases rq.int_inv
  exact CK pins s σ H _ _ v u Q I rx ry ⟨_,_,rfl,rfl,b8 h i⟩
 ·split at h
  ·rename_i xs ys hl
   obtain⟨a,vs,rfl,ha,ra⟩:=rp.lst_inv
   obtain⟨b,ws,rfl,hb,rb⟩:=rq.lst_inv
   have l1:=ra.length;have l2:=rb.length
   exact CJ pins s σ H _ _ v u Q I rx ry ⟨a,b,vs,ws,rfl,rfl,i _ _ ha,i _ _ hb,by rw[sizeLine_eq];omega,fun p hp=>h _ _ _ (.new i hp) (.lst ak (Reps.mono (aX (i.free hp)) (ra.append rb)))⟩
  ·exact h.elim
 ·exact h.elim
theorem bF:OpP X (binaryOp .Sub) eO:=by
 intro EO pins s σ H x y v u Q I rx ry h
 obtain⟨Hs,p,q,i,rp,rq,h⟩:=h
 unfold eO at h
 split at h
 ·cases rp.int_inv;cases rq.int_inv
  exact CF pins s σ H _ _ v u Q I rx ry ⟨_,_,rfl,rfl,b8 h i⟩
 ·exact h.elim
theorem ay:OpP X (binaryOp .Mult) bc:=by
 intro EO pins s σ H x y v u Q I rx ry h
 obtain⟨Hs,p,q,i,rp,rq,h⟩:=h
 unfold bc at h
 split at h
 ·cases rp.int_inv;cases rq.int_inv
  split at h
  ·rename_i hm
   exact(opI (X:=X) (C:=fun i j=>IntMulOk i j) (g:=fun i j=>i*j) fun _ _ _ _ _ _ _ hc q=>mul_int q hc) pins s σ H _ _ v u Q I rx ry ⟨_,_,rfl,rfl,hm,b8 h i⟩
  ·exact h.elim
 ·exact h.elim
theorem aH:OpP X (binaryOp .FloorDiv) a9:=by
 intro EO pins s σ H x y v u Q I rx ry h
 obtain⟨Hs,p,q,i,rp,rq,h⟩:=h
 unfold a9 at h
 split at h
 ·cases rp.int_inv;cases rq.int_inv
  split at h
  ·rename_i hm
   exact(opI (X:=X) (C:=fun i j=>j≠0∧intBits j≤9000) (g:=fun i j=>i.fdiv j) fun _ _ _ _ _ _ _ hc q=>floordiv_int hc.1 q (.inl (PyProof.noPylong_of_log2 (o4 hc.2)))) pins s σ H _ _ v u Q I rx ry ⟨_,_,rfl,rfl,hm,b8 h i⟩
  ·exact h.elim
 ·exact h.elim
theorem aJ:OpP X (binaryOp .Mod) bA:=by
 intro EO pins s σ H x y v u Q I rx ry h
 obtain⟨Hs,p,q,i,rp,rq,h⟩:=h
 unfold bA at h
 split at h
 ·cases rp.int_inv;cases rq.int_inv
  split at h
  ·rename_i hm
   exact zQ pins s σ H _ _ v u Q I rx ry ⟨_,_,rfl,rfl,hm,b8 h i⟩
  ·exact h.elim
 ·exact h.elim
theorem dU:OpP X (binaryOp .Pow) jq:=by
 intro EO pins s σ H x y v u Q I rx ry h
 obtain⟨Hs,p,q,i,rp,rq,h⟩:=h
 unfold jq at h
 split at h
 ·cases rp.int_inv;cases rq.int_inv
  split at h
  ·rename_i hm
   exact CG pins s σ H _ _ v u Q I rx ry ⟨_,_,rfl,rfl,hm,b8 h i⟩
  ·exact h.elim
 ·exact h.elim
def ky:PV→Res PV
 |.int i=>.ok (.int (-i))
 |_=>.stuck
end
open PySem.SeqAt
mutual
def peq:PV→PV→Bool
 |.non,.non=>true
 |.bl a,.bl b=>a==b
 |.int a,.int b=>a==b
 |.bl a,.int b=>(if a then 1 else 0)==b
 |.int a,.bl b=>a==(if b then 1 else 0)
 |.str a,.str b=>a==b
 |.tup xs,.tup ys=>dq xs ys
 |.lst xs,.lst ys=>dq xs ys
 |_,_=>false
def dq:List PV→List PV→Bool
 |[],[]=>true
 |x::xs,y::ys=>peq x y&&dq xs ys
 |_,_=>false
end
def d8:Nat→PV→Bool
 |0,_=>false
 |n+1,.tup xs=>xs.all (d8 n)
 |n+1,.lst xs=>xs.all (d8 n)
 |_+1,.dic=>false
 |_+1,.dct _ _=>false
 |_+1,.exc _=>false
 |_+1,.ob _ _ _=>false
 |_+1,.scr _=>false
 |_+1,_=>true
theorem mE(n:Nat)(e:Nat→Bool):(aaN (n+1)).all e=(e 0&&(aaN n).all fun j=>e (j+1)):=by
 rw[List.range_succ_eq_map,List.all_cons,List.all_map];rfl
theorem gc:∀(ps qs:List PV),dq ps qs=((aaN (min ps.length qs.length)).all (fun j=>peq (ps.getD j .non) (qs.getD j .non))&&(ps.length==qs.length))
 |[],[]=>by simp[dq]
 |[],q::qs=>by simp[dq]
 |p::ps,[]=>by simp[dq]
 |p::ps,q::qs=>by
  have h:=gc ps qs
  show(peq p q&&dq ps qs)=_
  rw[h,iF,iF,Nat.succ_min_succ,mE]
  simp[Bool.and_assoc]
theorem wM{ps qs:List PV}(h:ps.length≠qs.length):dq ps qs=false:=by
 rw[gc]
 have:(ps.length==qs.length)=false:=by simpa using h
 rw[this,Bool.and_false]
section
variable {X:Cx}{pins:List (Addr×Obj)}{τ:L2.St}{H:Hp}{s:Shared}
theorem lst_is(I:Inv X pins τ H s){a:Addr}{xs:List V}(h:H a=some (.lst xs)):∃its:List Value,Vals xs its∧s.heap.IsList a its.toArray:=by
 obtain⟨z,its,n,r,_,e⟩:=I.lstM h
 exact⟨its,r,⟨_,e,rfl,n,rfl⟩⟩
theorem tup_is(I:Inv X pins τ H s){a:Addr}{xs:List V}(h:SqT X.K H a xs):∃its:List Value,Vals xs its∧s.heap.IsTuple a its.toArray:=by
 obtain⟨its,r,p,z⟩:=I.tuple h
 exact⟨its,r,p⟩
theorem j9(I:Inv X pins τ H s){a:Addr}{xs ys:List V}(h:H a=some (.lst xs))(h':SqT X.K H a ys):False:=by
 obtain⟨its,r,o,e,c,_⟩:=lst_is I h
 obtain⟨its',r',o',e',c',_⟩:=tup_is I h'
 rw[e]at e';cases e'
 rw[c]at c'
 injection c' with z
 exact absurd z (by decide)
theorem p5(I:Inv X pins τ H s):∀(n:Nat)(p q:PV)(x:V),d8 n p=true→d8 n q=true→Rep X.K H x p→Rep X.K H x q→peq p q=true:=by
 intro n
 induction n with
 |zero=>intro p q x h;cases h
 |succ n ih=>
  have lists:∀(xs:List V)(ps qs:List PV),ps.all (d8 n)=true→qs.all (d8 n)=true→Reps X.K H xs ps→Reps X.K H xs qs→dq ps qs=true:=by
   intro xs
   induction xs with
   |nil=>intro ps qs _ _ r r';cases r;cases r';rfl
   |cons x xs ihx=>
    intro ps qs h h' r r'
    cases r with
    |cons r t=>
     cases r' with
     |cons r' t'=>
      rw[List.all_cons,aay]at h h'
      show(peq _ _&&dq _ _)=true
      rw[ih _ _ _ h.1 h'.1 r r',ihx _ _ h.2 h'.2 t t'];rfl
  intro p q x h h' r r'
  cases r with
  |non=>cases r';rfl
  |bl b=>cases r';simp[peq]
  |int i=>cases r';simp[peq]
  |str y=>cases r';simp[peq]
  |tup e t=>
   cases r' with
   |tup e' t'=>
    have z:=I.tuple_inj e e'
    subst z
    exact lists _ _ _ h h' t t'
   |lst e' t'=>exact(j9 I e' e).elim
   |scr _=>cases h'
   |dic _=>cases h'
   |dct _ _ _ _=>cases h'
   |exc _ _=>cases h'
   |ob _ _ _ _ _=>cases h'
  |lst e t=>
   cases r' with
   |lst e' t'=>
    rw[e]at e';cases e'
    exact lists _ _ _ h h' t t'
   |tup e' t'=>exact(j9 I e e').elim
   |scr _=>cases h'
   |dic _=>cases h'
   |dct _ _ _ _=>cases h'
   |exc _ _=>cases h'
   |ob _ _ _ _ _=>cases h'
  |scr _=>cases h
  |dic _=>cases h
  |dct _ _ _ _=>cases h
  |exc _ _=>cases h
  |ob _ _ _ _ _=>cases h
theorem ub{ps:List PV}{xs:List V}{its:List Value}(r:Reps X.K H xs ps)(rv:Vals xs its){j:Nat}(h:j<its.toArray.size):
  ∃v,RelV v its.toArray[j]∧Rep X.K H v (ps.getD j .non)∧ps.getD j .non∈ps:=by
 have l1:=r.length;have l2:=rv.length
 simp only[oF]at h
 have hp:ps[j]? = some ps[j]:=dO (by omega)
 obtain⟨v,hv,rp⟩:=r.get hp
 obtain⟨u,hu,ru⟩:=rv.get hv
 have e:its.toArray[j]=u:=by
  simp only[List.getElem_toArray]
  rw[dO h]at hu
  exact Option.some.inj hu
 refine⟨v,by rw[e];exact ru,?_,?_⟩
 ·rw[aaJ,hp];exact rp
 ·rw[aaJ,hp];exact abH _
set_option maxHeartbeats 4000000 in
theorem deep(I:Inv X pins τ H s):∀(n:Nat),(∀(A:Around)(p q:PV)(x y:V)(v u:Value),A.units+n<cLine→d8 n p=true→d8 n q=true→Rep X.K H x p→Rep X.K H y q→RelV x v→RelV y u →
  RcAt A s v u (peq p q)∧RcNeAt A s v u (!peq p q)∧EqAt A s v u (peq p q)):=by
 intro n
 induction n with
 |zero=>intro A p q x y v u _ h;cases h
 |succ n ih=>
  have items:∀(A:Around){xs ys:List V}{ps qs:List PV}{its jts:List Value},A.units+(n+1)<cLine→ps.all (d8 n)=true→qs.all (d8 n)=true→Reps X.K H xs ps→Reps X.K H ys qs→Vals xs its→Vals ys jts →
    ∀j (h1:j<its.toArray.size) (h2:j<jts.toArray.size),EqAt A.in1 s its.toArray[j] jts.toArray[j] (peq (ps.getD j .non) (qs.getD j .non)):=by
   intro A xs ys ps qs its jts hu h h' r r' rv rv' j h1 h2
   obtain⟨v1,a1,b1,c1⟩:=ub r rv h1
   obtain⟨v2,a2,b2,c2⟩:=ub r' rv' h2
   exact(ih A.in1 _ _ v1 v2 _ _ (by show A.units+1+n<cLine;omega) (List.all_eq_true.mp h _ c1) (List.all_eq_true.mp h' _ c2) b1 b2 a1 a2).2.2
  intro A p q x y v u hu hp hq rp rq rx ry
  have hu':A.units<cLine:=by omega
  have sc:∀{b:Bool},RcAt A s v u b∧RcNeAt A s v u (!b)∧EqAt A s v u b→b=peq p q→RcAt A s v u (peq p q)∧RcNeAt A s v u (!peq p q)∧EqAt A s v u (peq p q):=fun h e=>e▸h
  cases rp with
  |dic _=>cases hp
  |dct _ _ _ _=>cases hp
  |exc _ _=>cases hp
  |ob _ _ _ _ _=>cases hp
  |scr _=>cases hp
  |non=>
   cases rx
   cases rq with
   |dic _=>cases hq
   |dct _ _ _ _=>cases hq
   |exc _ _=>cases hq
   |ob _ _ _ _ _=>cases hq
   |scr _=>cases hq
   |non=>cases ry;exact sc ⟨RcAt.none_none,RcNeAt.none_none,EqAt.same _⟩ rfl
   |bl b=>cases ry;exact sc ⟨RcAt.none_bool _,RcNeAt.none_bool _,EqAt.none_bool _⟩ rfl
   |int i=>obtain⟨t,rfl⟩:=ry;exact sc ⟨RcAt.none_int _ _,RcNeAt.none_int _ _,EqAt.none_int _ _⟩ rfl
   |str z=>obtain⟨t,rfl⟩:=ry;exact sc ⟨RcAt.none_str _ _,RcNeAt.none_str _ _,EqAt.none_str _ _⟩ rfl
   |tup e t=>cases ry;obtain⟨its,rv,hl⟩:=tup_is I e;exact sc ⟨RcAt.none_tuple hl hu',RcNeAt.none_tuple hl hu',EqAt.none_tuple hl hu'⟩ rfl
   |lst e t=>cases ry;obtain⟨its,rv,hl⟩:=lst_is I e;exact sc ⟨RcAt.none_list hl hu',RcNeAt.none_list hl hu',EqAt.none_list hl hu'⟩ rfl
  |bl a=>
   cases rx
   cases rq with
   |dic _=>cases hq
   |dct _ _ _ _=>cases hq
   |exc _ _=>cases hq
   |ob _ _ _ _ _=>cases hq
   |scr _=>cases hq
   |non=>cases ry;exact sc ⟨RcAt.bool_none _,RcNeAt.bool_none _,EqAt.bool_none _⟩ rfl
   |bl b=>cases ry;exact sc ⟨RcAt.bool_bool _ _,RcNeAt.bool_bool _ _,EqAt.bool_bool _ _⟩ (by simp[peq])
   |int i=>obtain⟨t,rfl⟩:=ry;exact sc ⟨RcAt.bool_int _ _ _,RcNeAt.bool_int _ _ _,EqAt.bool_int _ _ _⟩ (by simp[peq])
   |str z=>obtain⟨t,rfl⟩:=ry;exact sc ⟨RcAt.bool_str _ _ _,RcNeAt.bool_str _ _ _,EqAt.bool_str _ _ _⟩ rfl
   |tup e t=>cases ry;obtain⟨its,rv,hl⟩:=tup_is I e;exact sc ⟨RcAt.bool_tuple _ hl hu',RcNeAt.bool_tuple _ hl hu',EqAt.bool_tuple _ hl hu'⟩ rfl
   |lst e t=>cases ry;obtain⟨its,rv,hl⟩:=lst_is I e;exact sc ⟨RcAt.bool_list _ hl hu',RcNeAt.bool_list _ hl hu',EqAt.bool_list _ hl hu'⟩ rfl
  |int a=>
   obtain⟨tt,rfl⟩:=rx
   cases rq with
   |dic _=>cases hq
   |dct _ _ _ _=>cases hq
   |exc _ _=>cases hq
   |ob _ _ _ _ _=>cases hq
   |scr _=>cases hq
   |non=>cases ry;exact sc ⟨RcAt.int_none _ _,RcNeAt.int_none _ _,EqAt.int_none _ _⟩ rfl
   |bl b=>cases ry;exact sc ⟨RcAt.int_bool _ _ _,RcNeAt.int_bool _ _ _,EqAt.int_bool _ _ _⟩ (by simp[peq])
   |int i=>obtain⟨t,rfl⟩:=ry;exact sc ⟨RcAt.int_int _ _ _ _,RcNeAt.int_int _ _ _ _,EqAt.int_int _ _ _ _⟩ (by simp[peq])
   |str z=>obtain⟨t,rfl⟩:=ry;exact sc ⟨RcAt.int_str _ _ _ _,RcNeAt.int_str _ _ _ _,EqAt.int_str _ _ _ _⟩ rfl
   |tup e t=>cases ry;obtain⟨its,rv,hl⟩:=tup_is I e;exact sc ⟨RcAt.int_tuple _ _ hl hu',RcNeAt.int_tuple _ _ hl hu',EqAt.int_tuple _ _ hl hu'⟩ rfl
   |lst e t=>cases ry;obtain⟨its,rv,hl⟩:=lst_is I e;exact sc ⟨RcAt.int_list _ _ hl hu',RcNeAt.int_list _ _ hl hu',EqAt.int_list _ _ hl hu'⟩ rfl
  |str a=>
   obtain⟨tt,rfl⟩:=rx
   cases rq with
   |dic _=>cases hq
   |dct _ _ _ _=>cases hq
   |exc _ _=>cases hq
   |ob _ _ _ _ _=>cases hq
   |scr _=>cases hq
   |non=>cases ry;exact sc ⟨RcAt.str_none _ _,RcNeAt.str_none _ _,EqAt.str_none _ _⟩ rfl
   |bl b=>cases ry;exact sc ⟨RcAt.str_bool _ _ _,RcNeAt.str_bool _ _ _,EqAt.str_bool _ _ _⟩ rfl
   |int i=>obtain⟨t,rfl⟩:=ry;exact sc ⟨RcAt.str_int _ _ _ _,RcNeAt.str_int _ _ _ _,EqAt.str_int _ _ _ _⟩ rfl
   |str z=>obtain⟨t,rfl⟩:=ry;exact sc ⟨RcAt.str_str _ _ _ _,RcNeAt.str_str _ _ _ _,EqAt.str_str _ _ _ _⟩ (by simp[peq])
   |tup e t=>cases ry;obtain⟨its,rv,hl⟩:=tup_is I e;exact sc ⟨RcAt.str_tuple _ _ hl hu',RcNeAt.str_tuple _ _ hl hu',EqAt.str_tuple _ _ hl hu'⟩ rfl
   |lst e t=>cases ry;obtain⟨its,rv,hl⟩:=lst_is I e;exact sc ⟨RcAt.str_list _ _ hl hu',RcNeAt.str_list _ _ hl hu',EqAt.str_list _ _ hl hu'⟩ rfl
  | @tup a xs ps e t=>
   cases rx
   obtain⟨its,rv,hl⟩:=tup_is I e
   cases rq with
   |dic _=>cases hq
   |dct _ _ _ _=>cases hq
   |exc _ _=>cases hq
   |ob _ _ _ _ _=>cases hq
   |scr _=>cases hq
   |non=>cases ry;exact sc ⟨RcAt.tuple_none hl hu',RcNeAt.tuple_none hl hu',EqAt.tuple_none hl hu'⟩ rfl
   |bl b=>cases ry;exact sc ⟨RcAt.tuple_bool _ hl hu',RcNeAt.tuple_bool _ hl hu',EqAt.tuple_bool _ hl hu'⟩ rfl
   |int i=>obtain⟨t,rfl⟩:=ry;exact sc ⟨RcAt.tuple_int _ _ hl hu',RcNeAt.tuple_int _ _ hl hu',EqAt.tuple_int _ _ hl hu'⟩ rfl
   |str z=>obtain⟨t,rfl⟩:=ry;exact sc ⟨RcAt.tuple_str _ _ hl hu',RcNeAt.tuple_str _ _ hl hu',EqAt.tuple_str _ _ hl hu'⟩ rfl
   |lst e' t'=>cases ry;obtain⟨jts,rw',hl'⟩:=lst_is I e';exact sc ⟨RcAt.tuple_list hl hl' hu',RcNeAt.tuple_list hl hl' hu',EqAt.tuple_list hl hl' hu'⟩ rfl
   | @tup b ys qs e' t'=>
    cases ry
    obtain⟨jts,rw',hl'⟩:=tup_is I e'
    have it:=items A (by omega) hp hq t t' rv rw'
    have n1:its.toArray.size=ps.length:=by rw[oF,←rv.length,t.length]
    have n2:jts.toArray.size=qs.length:=by rw[oF,←rw'.length,t'.length]
    have h1:=RcAt.tuples hl hl' hu' it
    have h2:=RcNeAt.tuples hl hl' hu' it
    rw[n1,n2,←gc]at h1 h2
    refine⟨h1,h2,?_⟩
    by_cases hab:a=b
    ·subst hab
     have z:=p5 I (n+1) _ _ _ hp hq (.tup e t) (.tup e' t')
     rw[z];exact EqAt.same _
    ·exact EqAt.of_refs hab h1
  | @lst a xs ps e t=>
   cases rx
   obtain⟨its,rv,hl⟩:=lst_is I e
   cases rq with
   |dic _=>cases hq
   |dct _ _ _ _=>cases hq
   |exc _ _=>cases hq
   |ob _ _ _ _ _=>cases hq
   |scr _=>cases hq
   |non=>cases ry;exact sc ⟨RcAt.list_none hl hu',RcNeAt.list_none hl hu',EqAt.list_none hl hu'⟩ rfl
   |bl b=>cases ry;exact sc ⟨RcAt.list_bool _ hl hu',RcNeAt.list_bool _ hl hu',EqAt.list_bool _ hl hu'⟩ rfl
   |int i=>obtain⟨t,rfl⟩:=ry;exact sc ⟨RcAt.list_int _ _ hl hu',RcNeAt.list_int _ _ hl hu',EqAt.list_int _ _ hl hu'⟩ rfl
   |str z=>obtain⟨t,rfl⟩:=ry;exact sc ⟨RcAt.list_str _ _ hl hu',RcNeAt.list_str _ _ hl hu',EqAt.list_str _ _ hl hu'⟩ rfl
   |tup e' t'=>cases ry;obtain⟨jts,rw',hl'⟩:=tup_is I e';exact sc ⟨RcAt.list_tuple hl hl' hu',RcNeAt.list_tuple hl hl' hu',EqAt.list_tuple hl hl' hu'⟩ rfl
   | @lst b ys qs e' t'=>
    cases ry
    obtain⟨jts,rw',hl'⟩:=lst_is I e'
    have it:=items A (by omega) hp hq t t' rv rw'
    have n1:its.toArray.size=ps.length:=by rw[oF,←rv.length,t.length]
    have n2:jts.toArray.size=qs.length:=by rw[oF,←rw'.length,t'.length]
    have h12:RcAt A s (.ref a) (.ref b) (dq ps qs)∧RcNeAt A s (.ref a) (.ref b) (!dq ps qs):=by
     by_cases hl2:ps.length=qs.length
     ·have h1:=RcAt.lists hl hl' (by rw[n1,n2,hl2]) hu' it
      have h2:=RcNeAt.lists hl hl' (by rw[n1,n2,hl2]) hu' it
      have ee:(aaN its.toArray.size).all (fun j=>peq (ps.getD j .non) (qs.getD j .non))=dq ps qs:=by
       rw[gc,n1,←hl2,Nat.min_self];simp
      rw[ee]at h1 h2
      exact⟨h1,h2⟩
     ·rw[wM hl2]
      have hne:(its.toArray.size != jts.toArray.size)=true:=by rw[n1,n2];simpa using hl2
      exact⟨RcAt.lists_lengths hl hl' hne hu',RcNeAt.lists_lengths hl hl' hne hu'⟩
    refine⟨h12.1,h12.2,?_⟩
    by_cases hab:a=b
    ·subst hab
     have z:=p5 I (n+1) _ _ _ hp hq (.lst e t) (.lst e' t')
     rw[z];exact EqAt.same _
    ·exact EqAt.of_refs hab h12.1
end
def pEq(p q:PV):Res PV:=if d8 20 p=true∧d8 20 q=true then .ok (.bl (peq p q)) else .stuck
def pNe(p q:PV):Res PV:=if d8 20 p=true∧d8 20 q=true then .ok (.bl (!peq p q)) else .stuck
section
variable {X:Cx}
theorem gd(hu:X.A.units+20<cLine):OpP X (compareOp .Eq) pEq:=by
 intro EO pins s σ H x y v u Q I rx ry h
 obtain⟨Hs,p,q,i,rp,rq,h⟩:=h
 unfold pEq at h
 split at h
 ·rename_i hc
  exact(deep I 20 X.A p q x y v u hu hc.1 hc.2 (rp.mono i) (rq.mono i) rx ry).1 _ _ _ _ ⟨.bl _,H,I,rfl,eu h i⟩
 ·exact h.elim
theorem eD(hu:X.A.units+20<cLine):OpP X (compareOp .NotEq) pNe:=by
 intro EO pins s σ H x y v u Q I rx ry h
 obtain⟨Hs,p,q,i,rp,rq,h⟩:=h
 unfold pNe at h
 split at h
 ·rename_i hc
  exact(deep I 20 X.A p q x y v u hu hc.1 hc.2 (rp.mono i) (rq.mono i) rx ry).2.1 _ _ _ _ ⟨.bl _,H,I,rfl,eu h i⟩
 ·exact h.elim
end
def eQ(f:Int→Int→Bool):PV→PV→Res PV
 |.int i,.int j=>.ok (.bl (f i j))
 |_,_=>.stuck
def nP:PV→Bool
 |.non=>true
 |_=>false
def pIs:PV→PV→Res PV
 |p,.non=>.ok (.bl (nP p))
 |_,_=>.stuck
def oU:PV→PV→Res PV
 |p,.non=>.ok (.bl (!nP p))
 |_,_=>.stuck
def e1(g:PV→Res PV)(a:DE):DE:=fun σ=>(a σ).bind g
section
variable {X:Cx}{H0 Hs0:Hp}
theorem oW{op:CmpOp}{f:Int→Int→Bool}(h:OpR X (compareOp op) (rI0 fun i j=>.bl (f i j))):OpP X (compareOp op) (eQ f):=by
 intro EO pins s σ H x y v u Q I rx ry hh
 obtain⟨Hs,p,q,i,rp,rq,hh⟩:=hh
 unfold eQ at hh
 split at hh
 ·cases rp.int_inv;cases rq.int_inv
  exact h pins s σ H _ _ v u Q I rx ry ⟨_,_,rfl,rfl,eu hh i⟩
 ·exact hh.elim
theorem lP:OpP X (compareOp .Lt) (eQ fun i j=>decide (i<j)):=oW ER
theorem rP:OpP X (compareOp .LtE) (eQ fun i j=>decide (i≤j)):=oW ES
theorem oV:OpP X (compareOp .Gt) (eQ fun i j=>decide (j<i)):=oW ET
theorem tf{K:aT}{H:Hp}{x:V}{p:PV}(r:Rep K H x p):decide (x=.non)=nP p:=by
 cases r<;>simp[nP]
theorem CD:OpP X (compareOp .Is) pIs:=by
 intro EO pins s σ H x y v u Q I rx ry hh
 obtain⟨Hs,p,q,i,rp,rq,hh⟩:=hh
 unfold pIs at hh
 split at hh
 ·cases rq.non_inv
  refine CH pins s σ H _ _ v u Q I rx ry ⟨rfl,?_⟩
  rw[tf rp];exact eu hh i
 ·exact hh.elim
theorem uX:OpP X (compareOp .IsNot) oU:=by
 intro EO pins s σ H x y v u Q I rx ry hh
 obtain⟨Hs,p,q,i,rp,rq,hh⟩:=hh
 unfold oU at hh
 split at hh
 ·cases rq.non_inv
  refine zP pins s σ H _ _ v u Q I rx ry ⟨rfl,?_⟩
  rw[tf rp];exact eu hh i
 ·exact hh.elim
variable {a b c:Expr}{da db dc:DE}{pos:Pos}
theorem one{g:PV→Res PV}{τ:L2.St}{H:Hp}{Q:VK}(h:RE X H0 Hs0 (e1 g da) τ H Q):
  RE X H0 Hs0 da τ H fun x H1=>∃Hs p,aL Hs H1∧Rep X.K Hs x p∧Ret X.K Hs H1 (g p) (a8 X H0 Hs0) Q:=by
 obtain⟨Hs,σ,S,h⟩:=h
 exact⟨Hs,σ,S,Ret.mono (Ret.bind h) fun x H1 ⟨Hs1,p,g1,r1,h1⟩=>⟨Hs1,p,g1.i,r1,h1⟩⟩
theorem EB(ha:QE X H0 Hs0 a da):QE X H0 Hs0 (.UnaryOp .USub a pos) (e1 ky da):=
 PE.imp (EK Bs ha) fun τ H Q h=>by
  obtain⟨Hs,σ,S,h⟩:=one h
  refine⟨Hs,σ,S,Ret.mono h fun x H1 ⟨Hs1,p,i,r,h1⟩=>?_⟩
  unfold ky at h1
  split at h1
  ·cases r.int_inv;exact⟨_,rfl,b8 h1 i⟩
  ·exact h1.elim
def asB:PV→Res Bool
 |.bl b=>.ok b
 |_=>.stuck
def tV(d:DE):DT:=fun σ=>(d σ).bind asB
def kq(a b:DT):DT:=fun σ=>(a σ).bind fun c=>if c=true then b σ else .ok false
def tOr(a b:DT):DT:=fun σ=>(a σ).bind fun c=>if c=true then .ok true else b σ
def dm(a:DT):DT:=fun σ=>(a σ).bind fun c=>.ok (!c)
theorem k7{τ:L2.St}{H:Hp}{Q:Bool→Hp→Prop}(h:RT X H0 Hs0 (tV da) τ H Q):RE X H0 Hs0 da τ H fun x H1=>∃k,x=.bl k∧Q k H1:=by
 obtain⟨Hs,σ,S,h⟩:=h
 refine⟨Hs,σ,S,?_⟩
 unfold tV at h
 generalize da σ=r at h ⊢
 cases r with
 |ok p=>
  cases p with
  |bl k=>exact fun v Hs' H' g r=>⟨k,r.bl_inv,h Hs' H' g⟩
  |_=>exact h.elim
 |err c=>exact h
 |stuck=>exact h
theorem BL(ha:QE X H0 Hs0 a da)(he:∀whole,isTrue a X.env whole=(do let v ←whole;standAt a.pos;holding [v] (truthy v))):QT X H0 Hs0 a (tV da):=
 PT.imp (Cb ha he) fun τ H Q h=>k7 h
theorem BN{op:CmpOp}{g:PV→PV→Res PV}(ho:OpP X (compareOp op) g)(ha:QE X H0 Hs0 a da)(hb:QE X H0 Hs0 b db)(hm:behindInMarks op b=false):QT X H0 Hs0 (.Compare a [op] [b] pos) (tV (e2 g da db)):=
 PT.imp (tm (ho (a8 X H0 Hs0)) ha hb hm) fun τ H Q h=>two (k7 h)
theorem mG.mono{Hs H:Hp}{r:Res Bool}{EO:Str→Prop}{Q Q':Bool→Hp→Prop}(h:mG Hs H r EO Q)(m:∀v H',Q v H'→Q' v H'):mG Hs H r EO Q':=by
 cases r with
 |ok p=>exact fun Hs' H' g=>m _ _ (h Hs' H' g)
 |err c=>exact h
 |stuck=>exact h
variable {ta tb:DT}{rest:List Expr}
theorem yH{τ:L2.St}{H:Hp}{Q:Bool→Hp→Prop}(h:RT X H0 Hs0 (kq ta tb) τ H Q):RT X H0 Hs0 ta τ H fun c H1=>if c=true then RT X H0 Hs0 tb τ H1 Q else Q false H1:=by
 obtain⟨Hs,σ,S,h⟩:=h
 refine⟨Hs,σ,S,mG.mono (mG.bind h) fun c H1 ⟨Hs1,g1,h1⟩=>?_⟩
 cases c with
 |true=>exact⟨Hs1,σ,S.grow g1,h1⟩
 |false=>exact h1 Hs1 H1 (.refl g1.i)
theorem zO{τ:L2.St}{H:Hp}{Q:Bool→Hp→Prop}(h:RT X H0 Hs0 (tOr ta tb) τ H Q):RT X H0 Hs0 ta τ H fun c H1=>if c=true then Q true H1 else RT X H0 Hs0 tb τ H1 Q:=by
 obtain⟨Hs,σ,S,h⟩:=h
 refine⟨Hs,σ,S,mG.mono (mG.bind h) fun c H1 ⟨Hs1,g1,h1⟩=>?_⟩
 cases c with
 |true=>exact h1 Hs1 H1 (.refl g1.i)
 |false=>exact⟨Hs1,σ,S.grow g1,h1⟩
theorem zm(ha:QT X H0 Hs0 a ta):QW X H0 Hs0 (.BoolOp .And [a] pos) ta:=zB ha
theorem BJ(ha:QT X H0 Hs0 a ta):QW X H0 Hs0 (.BoolOp .Or [a] pos) ta:=wF ha
theorem BK(ha:QT X H0 Hs0 a ta)(hb:QW X H0 Hs0 (.BoolOp .And (b::rest) pos) tb):QW X H0 Hs0 (.BoolOp .And (a::b::rest) pos) (kq ta tb):=PW.imp (B9 ha hb) fun _ _ _ h=>yH h
theorem Es(ha:QT X H0 Hs0 a ta)(hb:QW X H0 Hs0 (.BoolOp .Or (b::rest) pos) tb):QW X H0 Hs0 (.BoolOp .Or (a::b::rest) pos) (tOr ta tb):=PW.imp (A8 ha hb) fun _ _ _ h=>zO h
theorem QW.qt(h:QW X H0 Hs0 a ta):QT X H0 Hs0 a ta:=PW.pt h
theorem BM(ha:QT X H0 Hs0 a ta):QT X H0 Hs0 (.UnaryOp .Not a pos) (dm ta):=PT.imp (Cc ha) fun τ H Q h=>by
 obtain⟨Hs,σ,S,h⟩:=h
 exact⟨Hs,σ,S,mG.mono (mG.bind h) fun c H1 ⟨Hs1,g1,h1⟩=>h1 Hs1 H1 (.refl g1.i)⟩
def qF(a b:DE):DE:=fun σ=>(a σ).bind fun p=>(asB p).bind fun c=>if c=true then b σ else .ok (.bl false)
def uW(p:PV):Res PV:=(asB p).bind fun c=>.ok (.bl (!c))
theorem Ey{op:BoolOp}(ha:QE X H0 Hs0 a da):QE X H0 Hs0 (.BoolOp op [a] pos) da:=Co ha
theorem mB{p:PV}{K:aT}{Hs H:Hp}{x:V}{f:Bool→Res PV}{EO:Str→Prop}{Q:VK}(r:Rep K Hs x p)(h:Ret K Hs H ((asB p).bind f) EO Q):∃c,x=.bl c∧Ret K Hs H (f c) EO Q:=by
 cases p with
 |bl c=>exact⟨c,r.bl_inv,h⟩
 |_=>exact h.elim
theorem EJ(ha:QE X H0 Hs0 a da)(hb:QE X H0 Hs0 (.BoolOp .And (b::rest) pos) db):QE X H0 Hs0 (.BoolOp .And (a::b::rest) pos) (qF da db):=
 PE.imp (Ct ha hb) fun τ H Q ⟨Hs,σ,S,h⟩=>⟨Hs,σ,S,Ret.mono (Ret.bind h) fun x H1 ⟨Hs1,p,g1,r1,h1⟩=>by
  obtain⟨c,e,h2⟩:=mB r1 h1
  refine⟨c,e,?_⟩
  cases c with
  |true=>exact⟨Hs1,σ,S.grow g1,h2⟩
  |false=>exact eu h2 g1.i⟩
theorem Ez(ha:QE X H0 Hs0 a da):QE X H0 Hs0 (.UnaryOp .Not a pos) (e1 uW da):=
 PE.imp (Cp ha) fun τ H Q h=>by
  obtain⟨Hs,σ,S,h⟩:=one h
  refine⟨Hs,σ,S,Ret.mono h fun x H1 ⟨Hs1,p,i,r,h1⟩=>?_⟩
  obtain⟨c,e,h2⟩:=mB r h1
  exact⟨c,e,eu h2 i⟩
def ag:DA:=fun _=>.ok []
def aa(a:DE)(r:DA):DA:=fun σ=>(a σ).bind fun p=>(r σ).bind fun ps=>.ok (p::ps)
theorem pI.mono{K:aT}{Hs H:Hp}{r:Res (List PV)}{EO:Str→Prop}{Q Q':List V→Hp→Prop}(h:pI K Hs H r EO Q)(m:∀v H',Q v H'→Q' v H'):pI K Hs H r EO Q':=by
 cases r with
 |ok p=>exact fun v Hs' H' g r=>m _ _ (h v Hs' H' g r)
 |err c=>exact h
 |stuck=>exact h
theorem pI.grow{K:aT}{Hs H Hs1 H1:Hp}{r:Res (List PV)}{EO:Str→Prop}{Q:List V→Hp→Prop}(h:pI K Hs H r EO Q)(g:Grow Hs H Hs1 H1):pI K Hs1 H1 r EO Q:=by
 cases r with
 |ok p=>exact fun v Hs' H' g' r=>h v Hs' H' (g.trans g') r
 |err c=>exact h
 |stuck=>exact h
theorem pI.bind1{K:aT}{Hs H:Hp}{r:Res PV}{f:PV→Res (List PV)}{EO:Str→Prop}{Q:List V→Hp→Prop}(h:pI K Hs H (r.bind f) EO Q):
  Ret K Hs H r EO fun v H1=>∃Hs1 p,Grow Hs H Hs1 H1∧Rep K Hs1 v p∧pI K Hs1 H1 (f p) EO Q:=by
 cases r with
 |ok p=>exact fun v Hs' H' g r=>⟨Hs',p,g,r,pI.grow (r:=f p) h g⟩
 |err c=>exact h
 |stuck=>exact h
theorem Ret.bindA{K:aT}{Hs H:Hp}{r:Res (List PV)}{f:List PV→Res PV}{EO:Str→Prop}{Q:VK}(h:Ret K Hs H (r.bind f) EO Q):
  pI K Hs H r EO fun v H1=>∃Hs1 p,Grow Hs H Hs1 H1∧Reps K Hs1 v p∧Ret K Hs1 H1 (f p) EO Q:=by
 cases r with
 |ok p=>exact fun v Hs' H' g r=>⟨Hs',p,g,r,Ret.grow (r:=f p) h g⟩
 |err c=>exact h
 |stuck=>exact h
theorem wB:QA X H0 Hs0 [] ag:=PA.imp eB fun τ H Q ⟨Hs,σ,S,h⟩=>h [] Hs H (.refl S.g.i) .nil
theorem vw{ra:DA}{τ:L2.St}{H:Hp}{Q:List V→Hp→Prop}(h:RA X H0 Hs0 (aa da ra) τ H Q):sX (RE X H0 Hs0 da) (RA X H0 Hs0 ra) τ H Q:=by
 obtain⟨Hs,σ,S,h⟩:=h
 refine⟨Hs,σ,S,Ret.mono (pI.bind1 h) fun x H1 ⟨Hs1,p,g1,r1,h1⟩=>⟨Hs1,σ,S.grow g1,?_⟩⟩
 revert h1
 generalize ra σ=r
 intro h1
 cases r with
 |ok ps=>exact fun vs Hs' H' g r=>h1 _ Hs' H' g (.cons (r1.mono g.s) r)
 |err c=>exact h1
 |stuck=>exact h1
theorem ti{es:List Expr}{ra:DA}(ha:QE X H0 Hs0 a da)(hr:QA X H0 Hs0 es ra)(hs:starEach (a::es) X.env=(false,eval a X.env)::starEach es X.env):QA X H0 Hs0 (a::es) (aa da ra):=
 PA.imp (bX ha hr hs) fun τ H Q h=>vw h
def bB(ps:List PV):Res PV:=if ps.length≤10000000 then .ok (.tup ps) else .stuck
def cb(ps:List PV):Res PV:=if ps.length≤10000000 then .ok (.lst ps) else .stuck
def eA(g:List PV→Res PV)(a:DA):DE:=fun σ=>(a σ).bind g
theorem k9{n:Nat}(h:n≤10000000):n≤sizeLine:=by rw[sizeLine_eq];omega
theorem fW{g:List PV→Res PV}{ra:DA}{τ:L2.St}{H:Hp}{Q:VK}(h:RE X H0 Hs0 (eA g ra) τ H Q):
  RA X H0 Hs0 ra τ H fun vs H1=>∃Hs ps,aL Hs H1∧Reps X.K Hs vs ps∧Ret X.K Hs H1 (g ps) (a8 X H0 Hs0) Q:=by
 obtain⟨Hs,σ,S,h⟩:=h
 exact⟨Hs,σ,S,pI.mono (Ret.bindA h) fun x H1 ⟨Hs1,p,g1,r1,h1⟩=>⟨Hs1,p,g1.i,r1,h1⟩⟩
theorem RA.mono{ra:DA}{τ:L2.St}{H:Hp}{Q Q':List V→Hp→Prop}(h:RA X H0 Hs0 ra τ H Q)(m:∀v H',Q v H'→Q' v H'):RA X H0 Hs0 ra τ H Q':=
 let⟨Hs,σ,S,h⟩:=h;⟨Hs,σ,S,pI.mono h m⟩
theorem RE.mono{ra:DE}{τ:L2.St}{H:Hp}{Q Q':VK}(h:RE X H0 Hs0 ra τ H Q)(m:∀v H',Q v H'→Q' v H'):RE X H0 Hs0 ra τ H Q':=
 let⟨Hs,σ,S,h⟩:=h;⟨Hs,σ,S,Ret.mono h m⟩
theorem Eu{es:List Expr}{ra:DA}{x1}(h:QA X H0 Hs0 es ra):QE X H0 Hs0 (.Tuple es x1 pos) (eA bB ra):=
 PE.imp (rJ h) fun τ H Q h=>RA.mono (fW h) fun vs H1 ⟨Hs,ps,i,r,h1⟩=>by
  unfold bB at h1
  split at h1
  ·rename_i hl
   exact⟨k9 (by rw[r.length];exact hl),fun p hp=>h1 _ _ _ (.new i hp) (.tup (SqT.of ak) (r.mono (aX (i.free hp))))⟩
  ·exact h1.elim
theorem EC{es:List Expr}{ra:DA}(h:QA X H0 Hs0 es ra):QE X H0 Hs0 (.List es pos) (eA cb ra):=
 PE.imp (wV h) fun τ H Q h=>RA.mono (fW h) fun vs H1 ⟨Hs,ps,i,r,h1⟩=>by
  unfold cb at h1
  split at h1
  ·rename_i hl
   exact⟨k9 (by rw[r.length];exact hl),fun p hp=>h1 _ _ _ (.new i hp) (.lst ak (r.mono (aX (i.free hp))))⟩
  ·exact h1.elim
def f6(X:Cx)(f:Value)(g:List PV→Res PV):Prop:=
 ∀(EO:Str→Prop),gH X f fun xs H Q=>∃Hs ps,aL Hs H∧Reps X.K Hs xs ps∧Ret X.K Hs H (g ps) EO Q
theorem tj{x:Str}{id:String}{p:Pos}{e:Expr}{es:List Expr}{g:List PV→Res PV}{ra:DA}(hc:f6 X (.builtin id) g)(hg:Gl X x)(hm:X.mg x=none)(hv:bootBuiltins x=some (.builtin id))(ha:QA X H0 Hs0 (e::es) ra)
  (hn:x≠"__name__") (hdb:(x==("__debug__":Str))=false) (he:starEach (e::es) X.env=(false,eval e X.env)::starEach es X.env) (hpl:(backTo pos (starEach es X.env)).any (·.1)=false):
  QE X H0 Hs0 (.Call (.Name x p) (e::es) [] pos) (eA g ra):=
 PE.imp (hI (hc (a8 X H0 Hs0)) hg hm hv ha hn hdb he hpl) fun τ H Q h=>fW h
theorem wD{x:Str}{T:String}{p:Pos}{e:Expr}{es:List Expr}{g:List PV→Res PV}{ra:DA}(hc:f6 X (.type T) g)(hg:Gl X x)(hm:X.mg x=none)(hv:bootBuiltins x=some (.type T))(ha:QA X H0 Hs0 (e::es) ra)
  (hn:x≠"__name__") (hdb:(x==("__debug__":Str))=false) (he:starEach (e::es) X.env=(false,eval e X.env)::starEach es X.env) (hpl:(backTo pos (starEach es X.env)).any (·.1)=false):
  QE X H0 Hs0 (.Call (.Name x p) (e::es) [] pos) (eA g ra):=
 PE.imp (uT (hc (a8 X H0 Hs0)) hg hm hv ha hn hdb he hpl) fun τ H Q h=>fW h
def sI:List PV→Res PV
 |[.int i]=>.ok (.int (if i<0 then -i else i))
 |_=>.stuck
def qQ:List PV→Res PV
 |[.tup xs]=>.ok (.int xs.length)
 |[.lst xs]=>.ok (.int xs.length)
 |[.scr ns]=>.ok (.int ns.length)
 |_=>.stuck
def yD:List PV→Res PV
 |[.int i,.int j]=>.ok (.int (if j>i then j else i))
 |_=>.stuck
def yC:List PV→Res PV
 |[.int i,.int j]=>.ok (.int (if j<i then j else i))
 |_=>.stuck
theorem Reps.one_inv{K:aT}{H:Hp}{vs:List V}{p:PV}(r:Reps K H vs [p]):∃v,vs=[v]∧Rep K H v p:=by
 obtain⟨v,ws,rfl,r1,r2⟩:=r.cons_inv
 cases r2.nil_inv
 exact⟨v,rfl,r1⟩
theorem Reps.two_inv{K:aT}{H:Hp}{vs:List V}{p q:PV}(r:Reps K H vs [p,q]):∃v w,vs=[v,w]∧Rep K H v p∧Rep K H w q:=by
 obtain⟨v,ws,rfl,r1,r2⟩:=r.cons_inv
 obtain⟨w,rfl,r3⟩:=r2.one_inv
 exact⟨v,w,rfl,r1,r3⟩
theorem pB:f6 X (.builtin "abs") sI:=by
 intro EO pins s σ H xs us Q I r h
 obtain⟨Hs,ps,i,rp,h⟩:=h
 unfold sI at h
 split at h
 ·obtain⟨v,rfl,r1⟩:=rp.one_inv
  cases r1.int_inv
  exact yw pins s σ H _ us Q I r ⟨_,rfl,b8 h i⟩
 ·exact h.elim
theorem Dr:f6 X (.builtin "len") qQ:=by
 intro EO pins s σ H xs us Q I r h
 obtain⟨Hs,ps,i,rp,h⟩:=h
 unfold qQ at h
 split at h
 ·obtain⟨v,rfl,r1⟩:=rp.one_inv
  obtain⟨a,vs,rfl,ha,ra⟩:=r1.tup_inv
  exact eW pins s σ H _ us Q I r ⟨a,vs,rfl,.inr (bO i ha),by rw[ra.length];exact b8 h i⟩
 ·obtain⟨v,rfl,r1⟩:=rp.one_inv
  obtain⟨a,vs,rfl,ha,ra⟩:=r1.lst_inv
  exact eW pins s σ H _ us Q I r ⟨a,vs,rfl,.inl (SqL.of (i _ _ ha)),by rw[ra.length];exact b8 h i⟩
 ·obtain⟨v,rfl,r1⟩:=rp.one_inv
  obtain⟨a,rfl,ha⟩:=r1.scr_inv
  exact eW pins s σ H _ us Q I r ⟨a,_,rfl,.inl (i.seq ha),by rw[aad];exact b8 h i⟩
 ·exact h.elim
theorem Dq (hc:X.calm=true):f6 X (.builtin "max") yD:=by
 intro EO pins s σ H xs us Q I r h
 obtain⟨Hs,ps,i,rp,h⟩:=h
 unfold yD at h
 split at h
 ·obtain⟨v,w,rfl,r1,r2⟩:=rp.two_inv
  cases r1.int_inv;cases r2.int_inv
  exact vA hc pins s σ H _ us Q I r ⟨_,_,rfl,b8 h i⟩
 ·exact h.elim
theorem Dp (hc:X.calm=true):f6 X (.builtin "min") yC:=by
 intro EO pins s σ H xs us Q I r h
 obtain⟨Hs,ps,i,rp,h⟩:=h
 unfold yC at h
 split at h
 ·obtain⟨v,w,rfl,r1,r2⟩:=rp.two_inv
  cases r1.int_inv;cases r2.int_inv
  exact vz hc pins s σ H _ us Q I r ⟨_,_,rfl,b8 h i⟩
 ·exact h.elim
def Fsp(K:aT)(n:Nat)(m:List PV→Res PV):Sp:=fun vs H Q E=>vs.length=n∧∃Hs ps,aL Hs H∧Reps K Hs vs ps∧Ret K Hs H (m ps) (fun c=>∀(C:Addr)(Hs1 H1:Hp),aC K c C→Grow Hs H Hs1 H1→E (.ref C) none H1) Q
structure FunIs (X:Cx) (f:Str) (m:List PV→Res PV):Prop where
 ex:∃(a:Addr)(fd:FuncData)(ps:List Str)(k:Nat),X.mg f=some (.ref a)∧aaE X.K (.ref a)=true∧Binds X.K fd ps []∧Room k X.A∧(∀qs,qs.length≠ps.length→m qs=.stuck) ∧
  FnOk X.prog X.w X.K X.mg X.base (CXG X.prog X.w) k a fd ps (Fsp X.K ps.length m)
def noErr(r:Res PV):Res PV:=match r with
 |.err _=>.stuck
 |r=>r
theorem Ret.noErr{K:aT}{Hs H:Hp}{r:Res PV}{EO EO':Str→Prop}{Q:VK}(h:Ret K Hs H (G.noErr r) EO Q):Ret K Hs H r EO' Q:=by
 cases r with
 |ok p=>exact h
 |err c=>exact h.elim
 |stuck=>exact h
theorem nH{X:Cx}:Passes (CXG X.prog X.w) X (fun _ _ _=>False):=fun _ _ _ _ _ _ _ ⟨_,_,_,_,_,_,_,_,_,_,_,z⟩=>z.elim
theorem B8{x:Str}{p:Pos}{e:Expr}{es:List Expr}{m:List PV→Res PV}{ra:DA}(F:FunIs X x m)(hg:Gl X x)(ha:QA X H0 Hs0 (e::es) ra)
  (hdb:(x==("__debug__":Str))=false) (he:starEach (e::es) X.env=(false,eval e X.env)::starEach es X.env) (hpl:(backTo pos (starEach es X.env)).any (·.1)=false):
  QE X H0 Hs0 (.Call (.Name x p) (e::es) [] pos) (eA (fun ps=>G.noErr (m ps)) ra):=by
 obtain⟨a,fd,ps,k,hm,hk,hb,hr,har,F⟩:=F.ex
 refine PE.imp (zL F hr hg hm hk hb .nil nH ha hdb he hpl) fun τ H Q h=>RA.mono (fW h) fun vs H1 ⟨Hs,qs,i,r,h1⟩=>?_
 rw[aa3]
 refine⟨?_,Hs,qs,i,r,h1.noErr⟩
 by_cases hl:qs.length=ps.length
 ·rw[r.length,hl]
 ·rw[har qs hl]at h1;exact h1.elim
def atR{α:Type}(xs:List α)(i:Int)(f:α→PV):Res PV:=match atI xs i with
 |some x=>.ok (f x)
 |none=>.stuck
def pIx:PV→PV→Res PV
 |.tup ps,.int i=>atR ps i id
 |.lst ps,.int i=>atR ps i id
 |.scr ns,.int i=>atR ns i .int
 |_,_=>.stuck
theorem pE{K:aT}{H:Hp}{vs:List V}{ps:List PV}{i:Int}{p:PV}(r:Reps K H vs ps)(h:atI ps i=some p):∃v,atI vs i=some v∧Rep K H v p:=by
 unfold atI at h ⊢
 rw[r.length]
 cases e:ixN ps.length i with
 |none=>rw[e]at h;cases h
 |some j=>rw[e]at h;exact r.get h
theorem EE(ha:QE X H0 Hs0 a da)(hb:QE X H0 Hs0 b db)(hs:kU b):QE X H0 Hs0 (.Subscript a b pos) (e2 pIx da db):=
 PE.imp (Ba C5 ha hb hs) fun τ H Q h=>RE.mono (two h) fun x H1 h1=>RE.mono h1 fun y H2 ⟨Hs,p,q,i,rp,rq,h2⟩=>by
  unfold pIx at h2
  split at h2
  ·obtain⟨ad,vs,rfl,ht,r⟩:=rp.tup_inv
   cases rq.int_inv
   unfold atR at h2
   split at h2
   ·rename_i x hx
    obtain⟨v,hv,rv⟩:=pE r hx
    exact .inr (.inl ⟨ad,vs,_,v,rfl,rfl,bO i ht,hv,h2 v Hs H2 (.refl i) rv⟩)
   ·exact h2.elim
  ·obtain⟨ad,vs,rfl,ht,r⟩:=rp.lst_inv
   cases rq.int_inv
   unfold atR at h2
   split at h2
   ·rename_i x hx
    obtain⟨v,hv,rv⟩:=pE r hx
    exact .inl ⟨ad,vs,_,v,rfl,rfl,SqL.of (i _ _ ht),hv,h2 v Hs H2 (.refl i) rv⟩
   ·exact h2.elim
  ·obtain⟨ad,rfl,ht⟩:=rp.scr_inv
   cases rq.int_inv
   unfold atR at h2
   split at h2
   ·rename_i x hx
    obtain⟨v,hv,rv⟩:=pE (K:=X.K) (H:=Hs) (Reps.ints _) (show atI (List.map PV.int _) _=some (.int x) by
     unfold atI at hx ⊢
     rw[aad]
     cases e:ixN _ _ with
     |none=>rw[e]at hx;cases hx
     |some j=>
      rw[e]at hx
      show(List.map PV.int _)[j]? = _
      rw[aae]
      show Option.map PV.int _=_
      rw[show _[j]? = some x from hx];rfl)
    exact .inl ⟨ad,_,_,v,rfl,rfl,i.seq ht,hv,h2 v Hs H2 (.refl i) rv⟩
   ·exact h2.elim
  ·exact h2.elim
def aw(k:Nat)(db:DE):DE:=fun σ=>match σ[k]? with
 |some (some (.own xs))=>(db σ).bind fun q=>pIx (.lst xs) q
 |some (some (.sh p))=>(db σ).bind fun q=>pIx p q
 |_=>.stuck
theorem ED {k:Nat} {x:Str} {np:Pos} (hN:X.N[k]? = some x) (hv:Vis X.env.scope x) (hd:(x==("__debug__":Str))=false) (hcd:(x==("__classdict__":Str))=false) (hb:QE X H0 Hs0 b db) (hs:kU b):
  QE X H0 Hs0 (.Subscript (.Name x np) b pos) (aw k db):=by
 intro pins s τ H Q I ⟨Hs,σ,S,h⟩
 unfold aw at h
 split at h
 ·rename_i xs e
  obtain⟨v,e1,ad,vs,rfl,hH,hHs,hH0,r⟩:=S.slot k _ e
  refine Ba Af (dJ hN hv hd hcd) hb hs pins s τ H Q I ⟨_,e1,Hs,σ,S,Ret.mono (Ret.bind h) fun y H1 ⟨Hs1,q,g1,rq,h1⟩=>?_⟩
  cases q with
  |int i=>
   cases rq.int_inv
   simp only[pIx]at h1
   unfold atR at h1
   split at h1
   ·rename_i x hx
    obtain⟨v,hv,rv⟩:=pE r hx
    exact⟨ad,vs,_,v,rfl,rfl,SqL.of (g1.h _ _ hH),hv,h1 v Hs1 H1 (.refl g1.i) (rv.mono g1.s)⟩
   ·exact h1.elim
  |_=>exact h1.elim
 ·rename_i p e
  refine EE (wC (i:=k) hN hv hd hcd) hb hs pins s τ H Q I ⟨Hs,σ,S,?_⟩
  show Ret X.K Hs H ((ae k σ).bind fun p=>(db σ).bind fun q=>pIx p q) _ Q
  unfold ae
  rw[e]
  exact h
 ·exact h.elim
def gG(k:Nat):DE:=fun σ=>match σ[k]? with
 |some (some (.own xs))=>.ok (.int xs.length)
 |some (some (.sh p))=>qQ [p]
 |_=>.stuck
theorem B4 {k:Nat} {x:Str} {np p:Pos} (hN:X.N[k]? = some x) (hv:Vis X.env.scope x) (hd:(x==("__debug__":Str))=false) (hcd:(x==("__classdict__":Str))=false) (hg:Gl X "len") (hm:X.mg "len" = none)
  (he:starEach [.Name x np] X.env=[(false,eval (.Name x np) X.env)]) (hpl:(backTo pos (starEach [] X.env)).any (·.1)=false):QE X H0 Hs0 (.Call (.Name "len" p) [.Name x np] [] pos) (gG k):=by
 intro pins s τ H Q I ⟨Hs,σ,S,h⟩
 unfold gG at h
 split at h
 ·rename_i xs e
  obtain⟨v,e1,ad,vs,rfl,hH,hHs,hH0,r⟩:=S.slot k _ e
  refine hI eW hg hm PySem.boot_len (bX (dJ hN hv hd hcd) eB he) (by decide) (by decide) he hpl pins s τ H Q I ⟨_,e1,ad,vs,rfl,.inl (SqL.of hH),?_⟩
  rw[r.length];exact b8 h S.g.i
 ·rename_i p' e
  refine tj Dr hg hm PySem.boot_len (ti (wC (i:=k) hN hv hd hcd) wB he) (by decide) (by decide) he hpl pins s τ H Q I ⟨Hs,σ,S,?_⟩
  show Ret X.K Hs H (((ae k σ).bind fun p=>(ag σ).bind fun ps=>.ok (p::ps)).bind qQ) _ Q
  unfold ae
  rw[e]
  exact h
 ·exact h.elim
end
def tyName:PV→String
 |.non=>"NoneType"
 |.bl _=>"bool"
 |.int _=>"int"
 |.str _=>"str"
 |.tup _=>"tuple"
 |.lst _=>"list"
 |.scr _=>"list"
 |.dic=>"dict"
 |.dct _ _=>"dict"
 |.exc _=>"exception"
 |.ob _ _ _=>"object"
def d6 (t T:String):Bool:=t==T||(t == "bool" && T == "int")
def cG:List String:=["int","bool","tuple","list","str","dict"]
def oX:PV→Bool
 |.exc _=>false
 |.ob _ _ _=>false
 |_=>true
def gM(T:String)(p:PV):Res PV:=if oX p=true then .ok (.bl (d6 (tyName p) T)) else .stuck
theorem CW(K:aT)(p:PV)(T:String)(hx:oX p=true)(h:T∈cG):PySem.W.kitOne K (.type (tyName p)) (.type T)=some (d6 (tyName p) T):=by
 have h':T = "int"∨T = "bool"∨T = "tuple"∨T = "list"∨T = "str"∨T = "dict":=by simpa[cG] using h
 cases p<;>first | (cases hx;done) | (rcases h' with rfl|rfl|rfl|rfl|rfl|rfl<;>kernel_rfl)
section
variable {X:Cx}{H0 Hs0:Hp}{a b c:Expr}{da db dc:DE}{pos:Pos}
theorem xK{pins:List (Addr×Obj)}{τ:L2.St}{Hs H:Hp}{s:Shared}{Q:Value→Shared→Prop}{E:Value→Shared→Prop}{x:V}{u:Value}{p:PV}{T:String}(I:Inv X pins τ H s)(i:aL Hs H)(rx:RelV x u)(r:Rep X.K Hs x p)(hx:oX p=true)(hT:T∈cG)
  (h:∀tk,Q (.bool (d6 (tyName p) T)) { s with toks:=tk }):wpAny (model X.prog X.w) X.A (call (.builtin "isinstance") [u,.type T]) Q E s:=by
 have e:=CW X.K p T hx hT
 cases r with
 |non=>exact dN I rx .non e h
 |bl b=>exact dN I rx (.bl b) e h
 |int k=>exact dN I rx (.int k) e h
 |str y=>exact dN I rx (.str y) e h
 |lst hl _=>exact dN I rx (.lst (i _ _ hl)) e h
 |dic hl=>exact dN I rx (.dK (i _ _ hl)) e h
 |dct hl _ _ _=>exact dN I rx (.dK (i _ _ hl)) e h
 |exc _ _=>cases hx
 |ob _ _ _ _ _=>cases hx
 | @tup a xs ps ht _=>
  cases (show u=Value.ref a from rx)
  obtain⟨its,rv,o,h1,h2,_⟩:=tup_is I (bO i ht)
  exact aat PySem.W.kitx_tuple I.kIn ⟨o,h1,h2⟩ e (fun z=>nomatch z) h
 | @scr a ns hl=>
  cases (show u=Value.ref a from rx)
  obtain⟨its,rv,pl,_⟩:=I.list (i.seq hl)
  obtain⟨o,n,h1,h2,_⟩:=pl
  exact aat PySem.W.kitx_list I.kIn ⟨o,h1,h2⟩ e (fun z=>nomatch z) h
theorem yv:gH X (.builtin "isinstance") (fun xs H Q=>∃Hs x p T,xs=[x,.ty T]∧aL Hs H∧Rep X.K Hs x p∧oX p=true∧T∈cG∧Q (.bl (d6 (tyName p) T)) H):=by
 intro pins s σ H xs us Q I r h
 obtain⟨Hs,x,p,T,rfl,i,rp,hx,hT,q⟩:=h
 cases r with
 |cons r1 r2=>
  cases r2 with
  |cons r3 r4=>
   cases r4
   cases (show _=Value.type T from r3)
   exact xK I i r1 rp hx hT fun tk=>⟨.bl _,H,I.tok tk,rfl,q⟩
theorem mz:bootBuiltins "isinstance" = some (.builtin "isinstance"):=by decide +kernel
theorem EF {T:String} {x:Str} {p1 p2:Pos} (ha:QE X H0 Hs0 a da) (hT:T∈cG) (hx:bootBuiltins x=some (.type T)) (hg:Gl X "isinstance") (hm:X.mg "isinstance" = none) (hg2:Gl X x) (hm2:X.mg x=none) (hn:x≠"__name__")
  (hdb:(x==("__debug__":Str))=false) (h1:starEach [a,.Name x p2] X.env=(false,eval a X.env)::starEach [.Name x p2] X.env) (h2:starEach [.Name x p2] X.env=[(false,eval (.Name x p2) X.env)])
  (hpl:(backTo pos (starEach [.Name x p2] X.env)).any (·.1)=false):QE X H0 Hs0 (.Call (.Name "isinstance" p1) [a,.Name x p2] [] pos) (e1 (gM T) da):=
 PE.imp (hI yv hg hm mz (bX ha (bX (tD (v:=.ty T) hg2 hm2 hx rfl hn hdb) eB h2) h1) (by decide) (by decide) h1 hpl) fun τ H Q h=>
  RE.mono (one h) fun x H1 ⟨Hs,p,i,r,h1⟩=>by
   unfold gM at h1
   split at h1
   ·rename_i hx
    exact⟨Hs,x,p,T,rfl,i,r,hx,hT,eu h1 i⟩
   ·exact h1.elim
def qI{α:Type}(xs:List α)(lo hi:Option Int):List α:=(xs.drop (HT.sIx xs.length 0 lo)).take (HT.sIx xs.length xs.length hi-HT.sIx xs.length 0 lo)
theorem Reps.cut{K:aT}{H:Hp}{vs:List V}{ps:List PV}(r:Reps K H vs ps)(lo hi:Option Int):Reps K H (qH vs lo hi) (qI ps lo hi):=by
 unfold qH qI
 rw[r.length]
 exact(r.drop _).take _
abbrev DO:=PSt→Res (Option Int)
def oNo:DO:=fun _=>.ok none
def asI:PV→Res (Option Int)
 |.int i=>.ok (some i)
 |_=>.stuck
def oE(d:DE):DO:=fun σ=>(d σ).bind asI
def pSl(p:PV)(lo hi:Option Int):Res PV:=match p with
 |.lst xs=>.ok (.lst (qI xs lo hi))
 |.scr ns=>.ok (.lst (qI (ns.map PV.int) lo hi))
 |.tup xs=>if HT.sIx xs.length 0 lo=0∧HT.sIx xs.length xs.length hi=xs.length then .stuck else .ok (.tup (qI xs lo hi))
 |_=>.stuck
def eSl(a:DE)(lo hi:DO):DE:=fun σ=>(a σ).bind fun p=>(lo σ).bind fun l=>(hi σ).bind fun h=>pSl p l h
def AU(Hs H:Hp)(r:Res (Option Int))(EO:Str→Prop)(Q:Option Int→Hp→Prop):Prop:=match r with
 |.ok b=>∀Hs' H',Grow Hs H Hs' H'→Q b H'
 |.err c=>EO c
 |.stuck=>False
def RO(X:Cx)(H0 Hs0:Hp)(d:DO):TO:=fun τ H Q=>∃Hs σ,SR X.K H0 Hs0 Hs H σ τ∧AU Hs H (d σ) (a8 X H0 Hs0) Q
def QO(X:Cx)(H0 Hs0:Hp)(e:Option Expr)(d:DO):Prop:=PO X e (RO X H0 Hs0 d)
theorem PO.imp{e:Option Expr}{t t':TO}(h:PO X e t)(m:∀τ H Q,t' τ H Q→t τ H Q):PO X e t':=fun pins s σ H Q I q=>h pins s σ H Q I (m _ _ _ q)
theorem zu:QO X H0 Hs0 none oNo:=PO.imp zG fun τ H Q ⟨Hs,σ,S,h⟩=>h Hs H (.refl S.g.i)
theorem zt(ha:QE X H0 Hs0 a da):QO X H0 Hs0 (some a) (oE da):=PO.imp (zF ha) fun τ H Q ⟨Hs,σ,S,h⟩=>by
 refine⟨Hs,σ,S,?_⟩
 unfold oE at h
 generalize da σ=r at h ⊢
 cases r with
 |ok p=>
  cases p with
  |int k=>exact fun v Hs' H' g r=>⟨k,r.int_inv,h Hs' H' g⟩
  |_=>exact h.elim
 |err c=>exact h
 |stuck=>exact h
theorem AU.mono{Hs H:Hp}{r:Res (Option Int)}{EO:Str→Prop}{Q Q':Option Int→Hp→Prop}(h:AU Hs H r EO Q)(m:∀v H',Q v H'→Q' v H'):AU Hs H r EO Q':=by
 cases r with
 |ok p=>exact fun Hs' H' g=>m _ _ (h Hs' H' g)
 |err c=>exact h
 |stuck=>exact h
theorem Ret.bindO{K:aT}{Hs H:Hp}{r:Res (Option Int)}{f:Option Int→Res PV}{EO:Str→Prop}{Q:VK}(h:Ret K Hs H (r.bind f) EO Q):
  AU Hs H r EO fun b H1=>∃Hs1,Grow Hs H Hs1 H1∧Ret K Hs1 H1 (f b) EO Q:=by
 cases r with
 |ok p=>exact fun Hs' H' g=>⟨Hs',g,Ret.grow (r:=f p) h g⟩
 |err c=>exact h
 |stuck=>exact h
theorem zy{lo hi:Option Expr}{dl dh:DO}{p2:Pos}(ha:QE X H0 Hs0 a da)(hl:QO X H0 Hs0 lo dl)(hh:QO X H0 Hs0 hi dh):QE X H0 Hs0 (.Subscript a (.Slice lo hi none p2) pos) (eSl da dl dh):=
 PE.imp (wQ (Fq.or BB) ha hl hh) fun τ H Q ⟨Hs,σ,S,h⟩=>by
  refine⟨Hs,σ,S,Ret.mono (Ret.bind h) fun x H1 ⟨Hs1,p,g1,r1,h1⟩=>⟨Hs1,σ,S.grow g1,AU.mono (Ret.bindO h1) fun l H2 ⟨Hs2,g2,h2⟩=>⟨Hs2,σ,(S.grow g1).grow g2,AU.mono (Ret.bindO h2) fun u H3 ⟨Hs3,g3,h3⟩=>?_⟩⟩⟩
  have r3:=(r1.mono g2.s).mono g3.s
  have i:=g3.i
  unfold pSl at h3
  split at h3
  ·obtain⟨ad,vs,rfl,ht,r⟩:=r3.lst_inv
   exact .inl ⟨ad,vs,rfl,SqL.of (i _ _ ht),fun q hq=>h3 _ _ _ (.new i hq) (.lst ak (Reps.mono (aX (i.free hq)) (r.cut l u)))⟩
  ·obtain⟨ad,rfl,ht⟩:=r3.scr_inv
   exact .inl ⟨ad,_,rfl,i.seq ht,fun q hq=>h3 _ _ _ (.new i hq) (.lst ak ((Reps.ints _).cut l u))⟩
  ·split at h3
   ·exact h3.elim
   ·rename_i hw
    obtain⟨ad,vs,rfl,ht,r⟩:=r3.tup_inv
    exact .inr ⟨ad,vs,rfl,bO i ht,by rw[r.length];exact hw,fun q hq=>h3 _ _ _ (.new i hq) (.tup (SqT.of ak) (Reps.mono (aX (i.free hq)) (r.cut l u)))⟩
  ·exact h3.elim
def bo:DS:=fun σ=>.ok (.next σ)
def az(a b:DS):DS:=fun σ=>(a σ).bind fun f=>match f with
 |.next σ'=>b σ'
 |f=>.ok f
def aY(d:DE):DS:=fun σ=>(d σ).bind fun p=>.ok (.ret p)
def sIf(t:DT)(a b:DS):DS:=fun σ=>(t σ).bind fun c=>if c=true then a σ else b σ
def aO(i:Nat)(d:DE):DS:=fun σ=>(d σ).bind fun p=>.ok (.next (σ.set i (some (.sh p))))
theorem fH.same{D:Ends}{Hs Hs' H H':Hp}{r:Res Fl}(h:fH X H0 Hs0 D Hs H r)(e:aL Hs Hs'):fH X H0 Hs0 D Hs' H' r:=by
 cases r with
 |ok f=>
  cases f with
  |next σ'=>exact fun Hs2 H2 τ' e' S=>h Hs2 H2 τ' (e.trans e') S
  |brk σ'=>exact fun Hs2 H2 τ' e' S=>h Hs2 H2 τ' (e.trans e') S
  |cont σ'=>exact fun Hs2 H2 τ' e' S=>h Hs2 H2 τ' (e.trans e') S
  |ret p=>exact h
 |err c=>exact h
 |stuck=>exact h
theorem fH.bind1{D:Ends}{Hs H:Hp}{r:Res PV}{f:PV→Res Fl}(h:fH X H0 Hs0 D Hs H (r.bind f)):
  Ret X.K Hs H r (a8 X H0 Hs0) fun v H1=>∃Hs1 p,Grow Hs H Hs1 H1∧Rep X.K Hs1 v p∧fH X H0 Hs0 D Hs1 H1 (f p):=by
 cases r with
 |ok p=>exact fun v Hs' H' g r=>⟨Hs',p,g,r,fH.same (r:=f p) h g.s⟩
 |err c=>exact h
 |stuck=>exact h
theorem fH.bindB{D:Ends}{Hs H:Hp}{r:Res Bool}{f:Bool→Res Fl}(h:fH X H0 Hs0 D Hs H (r.bind f)):
  mG Hs H r (a8 X H0 Hs0) fun b H1=>∃Hs1,Grow Hs H Hs1 H1∧fH X H0 Hs0 D Hs1 H1 (f b):=by
 cases r with
 |ok p=>exact fun Hs' H' g=>⟨Hs',g,fH.same (r:=f p) h g.s⟩
 |err c=>exact h
 |stuck=>exact h
variable {st:Stmt}{sts:List Stmt}{d1 d2:DS}
theorem zp:QSs X H0 Hs0 [] bo:=PSs.imp zD fun D τ H ⟨Hs,σ,S,h⟩=>h Hs H τ (aL.refl _) S
theorem vU{D:Ends}{τ:L2.St}{H:Hp}(h:RS X H0 Hs0 (az d1 d2) D τ H):RS X H0 Hs0 d1 { D with nx:=RS X H0 Hs0 d2 D } τ H:=by
 obtain⟨Hs,σ,S,h⟩:=h
 refine⟨Hs,σ,S,?_⟩
 unfold az at h
 generalize d1 σ=r at h ⊢
 cases r with
 |ok f=>
  cases f with
  |next σ'=>exact fun Hs' H' τ' e S'=>⟨Hs',σ',S',fH.same (r:=d2 σ') h e⟩
  |brk σ'=>exact h
  |cont σ'=>exact h
  |ret p=>exact h
 |err c=>exact h
 |stuck=>exact h
theorem wo(h1:QS X H0 Hs0 st d1)(h2:QSs X H0 Hs0 sts d2):QSs X H0 Hs0 (st::sts) (az d1 d2):=PSs.imp (jn h1 h2) fun D τ H h=>vU h
theorem zo(h1:QS X H0 Hs0 st d1):QSs X H0 Hs0 [st] d1:=jm h1
theorem BQ(ha:QE X H0 Hs0 a da):QS X H0 Hs0 (.Return (some a) pos) (aY da):=PS.imp (rE ha) fun D τ H ⟨Hs,σ,S,h⟩=>
 ⟨Hs,σ,S,Ret.mono (fH.bind1 h) fun x H1 ⟨Hs1,p,g1,r1,h1⟩=>h1 x Hs1 H1 (S.grow g1).g r1⟩
theorem Et{t:DT}{ss1 ss2:List Stmt}(hc:QT X H0 Hs0 c t)(h1:QSs X H0 Hs0 ss1 d1)(h2:QSs X H0 Hs0 ss2 d2):QS X H0 Hs0 (.If c ss1 ss2 pos) (sIf t d1 d2):=
 PS.imp (A9 hc h1 h2) fun D τ H ⟨Hs,σ,S,h⟩=>⟨Hs,σ,S,mG.mono (fH.bindB h) fun k H1 ⟨Hs1,g1,h1⟩=>by
  cases k with
  |true=>exact⟨Hs1,σ,S.grow g1,h1⟩
  |false=>exact⟨Hs1,σ,S.grow g1,h1⟩⟩
theorem aF{α:Type}{l:List α}{i j:Nat}{x y:α}(h:(l.set i x)[j]? = some y):(j=i∧x=y∧i<l.length)∨(j≠i∧l[j]? = some y):=by
 rw[List.getElem?_set]at h
 split at h
 ·rename_i e
  split at h
  ·exact .inl ⟨e.symm,Option.some.inj h,by omega⟩
  ·cases h
 ·rename_i e
  exact .inr ⟨fun z=>e z.symm,h⟩
theorem SR.set{K:aT}{Hs H:Hp}{σ:PSt}{τ:L2.St}{v:V}{p:PV}(S:SR K H0 Hs0 Hs H σ τ)(i:Nat)(r:Rep K Hs v p):SR K H0 Hs0 Hs H (σ.set i (some (.sh p))) (τ.set i (some v)):=by
 refine⟨S.g,fun j sv e=>?_,fun j k xs ys ad hjk e1 e2 e3=>?_,by rw[aas,aas];exact S.len⟩
 ·rcases aF e with ⟨rfl,e',hl⟩|⟨hne,e'⟩
  ·cases e'
   refine⟨v,?_,r⟩
   rw[aao (by rw[←S.len];exact hl)]
  ·obtain⟨w,e1,r1⟩:=S.slot j sv e'
   exact⟨w,by rw[aaa (fun z=>hne z.symm)];exact e1,r1⟩
 ·rcases aF e1 with ⟨_,e',_⟩|⟨hj,e1'⟩
  ·cases e'
  ·rcases aF e2 with ⟨_,e',_⟩|⟨hk,e2'⟩
   ·cases e'
   ·rw[aaa (fun z=>hj z.symm)]at e3
    rw[aaa (fun z=>hk z.symm)]
    exact S.inj j k xs ys ad hjk e1' e2' e3
theorem BO{i:Nat}{x:Str}{pos':Pos}(hN:X.N.Nodup)(hi:X.N[i]? = some x)(hx:Loc X.env.scope x)(ha:QE X H0 Hs0 a da)(hs:swapsWith a (some (.Name x pos')) pos.line X.env=pure false)(hf:X.fn x=true∨X.env.scope.names.lookup x=some .local):
  QS X H0 Hs0 (.Assign [.Name x pos'] a pos) (aO i da):=PS.imp (oN hN hi hx ha hs hf) fun D τ H ⟨Hs,σ,S,h⟩=>
 ⟨Hs,σ,S,Ret.mono (fH.bind1 h) fun v H1 ⟨Hs1,p,g1,r1,h1⟩=>h1 Hs1 H1 _ (aL.refl _) ((S.grow g1).set i r1)⟩
def wN(c:DT)(b:DS):Nat→PSt→Option (Res Fl)
 |0,_=>none
 |n+1,σ=>match c σ with
  |.ok true=>match b σ with
   |.ok (.next σ')=>wN c b n σ'
   |.ok (.cont σ')=>wN c b n σ'
   |.ok (.brk σ')=>some (.ok (.next σ'))
   |.ok (.ret p)=>some (.ok (.ret p))
   |.err e=>some (.err e)
   |.stuck=>some .stuck
  |.ok false=>some (.ok (.next σ))
  |.err e=>some (.err e)
  |.stuck=>some .stuck
open Classical in
noncomputable def bN(c:DT)(b:DS):DS:=fun σ=>if h:∃r n,wN c b n σ=some r then choose h else .stuck
theorem kI{cc:DT}{bb:DS}:∀{n:Nat}{σ:PSt}{r:Res Fl},wN cc bb n σ=some r→∀m,n≤m→wN cc bb m σ=some r
 |0,_,_,h,_,_=>by cases h
 |n+1,σ,r,h,0,hm=>by omega
 |n+1,σ,r,h,m+1,hm=>by
  unfold wN at h ⊢
  split at h
  ·split at h
   ·exact kI h m (by omega)
   ·exact kI h m (by omega)
   ·exact h
   ·exact h
   ·exact h
   ·exact h
  ·exact h
  ·exact h
  ·exact h
theorem iu{cc:DT}{bb:DS}{n:Nat}{σ:PSt}{r:Res Fl}(h:wN cc bb n σ=some r):bN cc bb σ=r:=by
 unfold bN
 have hex:∃r n,wN cc bb n σ=some r:=⟨r,n,h⟩
 rw[dif_pos hex]
 obtain⟨m,hm⟩:=Classical.choose_spec hex
 have h1:=kI h (max n m) (Nat.le_max_left _ _)
 have h2:=kI hm (max n m) (Nat.le_max_right _ _)
 rw[h1]at h2
 exact(Option.some.inj h2).symm
theorem eY(cc:DT)(bb:DS)(σ:PSt):bN cc bb σ=(cc σ).bind fun k=>if k=true then (bb σ).bind (fun f=>match f with
  |.next σ'=>bN cc bb σ'
  |.cont σ'=>bN cc bb σ'
  |.brk σ'=>.ok (.next σ')
  |.ret p=>.ok (.ret p)) else .ok (.next σ):=by
 by_cases hex:∃r n,wN cc bb n σ=some r
 ·obtain⟨r,n,h⟩:=hex
  rw[iu h]
  cases n with
  |zero=>cases h
  |succ n=>
   unfold wN at h
   split at h
   ·rename_i e
    rw[e]
    split at h
    ·rename_i σ' e';rw[e'];exact(iu h).symm
    ·rename_i σ' e';rw[e'];exact(iu h).symm
    ·rename_i σ' e';rw[e'];exact(Option.some.inj h).symm
    ·rename_i σ' e';rw[e'];exact(Option.some.inj h).symm
    ·rename_i σ' e';rw[e'];exact(Option.some.inj h).symm
    ·rename_i e';rw[e'];exact(Option.some.inj h).symm
   ·rename_i e;rw[e];exact(Option.some.inj h).symm
   ·rename_i e;rw[e];exact(Option.some.inj h).symm
   ·rename_i e;rw[e];exact(Option.some.inj h).symm
 ·have hs:bN cc bb σ=.stuck:=by unfold bN;rw[dif_neg hex]
  have no:∀n,wN cc bb n σ=none:=fun n=>by
   cases e:wN cc bb n σ with
   |none=>rfl
   |some r=>exact absurd ⟨r,n,e⟩ hex
  have sub:∀σ',(∀n,wN cc bb n σ'=none)→bN cc bb σ'=.stuck:=fun σ' h'=>by
   unfold bN
   rw[dif_neg]
   rintro⟨r,n,e⟩
   rw[h' n]at e;cases e
  rw[hs]
  have n1:=no 1
  unfold wN at n1
  split at n1
  ·rename_i e
   rw[e]
   split at n1
   ·rename_i σ' e'
    rw[e']
    refine(sub σ' fun n=>?_).symm
    have:=no (n+1)
    unfold wN at this
    rw[e]at this;simp only at this
    rw[e']at this
    exact this
   ·rename_i σ' e'
    rw[e']
    refine(sub σ' fun n=>?_).symm
    have:=no (n+1)
    unfold wN at this
    rw[e]at this;simp only at this
    rw[e']at this
    exact this
   ·cases n1
   ·cases n1
   ·cases n1
   ·cases n1
  ·cases n1
  ·cases n1
  ·cases n1
theorem wq{t:DT}(hp:PassesOwn (model X.prog X.w) X.A X.env X.xe)(hc:QT X H0 Hs0 c t)(hb:QSs X H0 Hs0 sts d1):QS X H0 Hs0 (.While c sts [] pos) (bN t d1):=PS.imp (wI hp hc hb) fun D τ H ⟨Hs,σ,S,h⟩=>by
 by_cases hex:∃r n,wN t d1 n σ=some r
 ·obtain⟨r,n,hn⟩:=hex
  rw[iu hn]at h
  refine⟨fun m τ H=>∃Hs' σ',SR X.K H0 Hs0 Hs' H σ' τ∧aL Hs Hs'∧wN t d1 m σ'=some r,⟨n,Hs,σ,S,aL.refl _,hn⟩,?_⟩
  rintro m τ1 H1 ⟨Hs1,σ1,S1,e1,w1⟩
  refine⟨Hs1,σ1,S1,?_⟩
  cases m with
  |zero=>cases w1
  |succ m=>
   unfold wN at w1
   split at w1
   ·rename_i ec
    rw[ec]
    intro Hs2 H2 g2
    refine⟨fun τ' H'=>∃Hs' σ',SR X.K H0 Hs0 Hs' H' σ' τ'∧aL Hs Hs'∧wN t d1 m σ'=some r,fun τ' H' ⟨Hs',σ',a1,a2,a3⟩=>⟨m,aaP m,Hs',σ',a1,a2,a3⟩,Hs2,σ1,S1.grow g2,?_⟩
    have e2:=e1.trans g2.s
    split at w1
    ·rename_i σ' ed
     rw[ed]
     exact fun Hs3 H3 τ3 e3 S3=>⟨Hs3,σ',S3,e2.trans e3,w1⟩
    ·rename_i σ' ed
     rw[ed]
     exact fun Hs3 H3 τ3 e3 S3=>⟨Hs3,σ',S3,e2.trans e3,w1⟩
    ·rename_i σ' ed
     rw[ed]
     cases w1
     exact fun Hs3 H3 τ3 e3 S3=>h Hs3 H3 τ3 (e2.trans e3) S3
    ·rename_i p ed
     rw[ed]
     cases w1
     exact h
    ·rename_i e ed
     rw[ed]
     cases w1
     exact h
    ·rename_i ed
     cases w1
     exact h.elim
   ·rename_i ec
    rw[ec]
    intro Hs2 H2 g2
    cases w1
    exact h Hs2 H2 τ1 (e1.trans g2.s) (S1.grow g2)
   ·rename_i ec
    rw[ec]
    cases w1
    exact h
   ·rename_i ec
    cases w1
    exact h.elim
 ·unfold bN at h
  rw[dif_neg hex]at h
  exact h.elim
end
def Its(lo c:Int)(n:Nat):It:=⟨fun i _=>i<n,fun i H x H'=>H'=H∧x=.int (lo+i*c),fun i _=>n≤i⟩
theorem pP{P:Program}{w:World}{K:aT}{tg:Expr}(it:Addr)(lo c:Int)(n:Nat):Turn P w K tg (Its lo c n) [it] it (fun i h=>IsRangeIter h it (lo+(i:Nat)*c) ((n:Int)-(i:Nat)) c) where
 mem:=by simp
 obj:=fun i h st b hb=>by
  have e:b=it:=by simpa using hb
  subst e
  exact⟨_,st,fun v z=>by
   have z':Data.fields _=Data.cell v:=z
   cases z'⟩
 keep:=fun i h h' st k=>k it (by simp) _ st
 item:=by
  intro X hP hw hK hc i pins s σ H E I hf st hg
  subst hP hw hK
  obtain⟨f0,f1,f2,f3,f4,f5⟩:=hf it (by simp)
  have W:=Walks.range (prog:=X.prog) (w:=X.w) (I.ok.hd hc) it lo c n
  refine W.item i s _ _ hg st fun v h' tk hv st' kk=>?_
  obtain⟨t,rfl⟩:=hv
  have I1:Inv X pins σ H { s with heap:=h',toks:=tk }:=I.turned (fun b o hb e=>kk b o (by simpa using hb) e) f0 f1 f3 f4 f5
  exact⟨_,rfl,qA (s:={ s with heap:=h',toks:=tk }) (n:="range_iterator") st' rfl rfl (by decide) ⟨.int (lo+i*c),H,I1,⟨t,rfl⟩,⟨rfl,rfl⟩,st',fun b hb=>(hf b hb).1⟩⟩
 done:=by
  intro X hP hw hK hc i pins s σ H E I hf st hg
  subst hP hw hK
  obtain⟨f0,f1,f2,f3,f4,f5⟩:=hf it (by simp)
  exact wpAny_pyNext_range_end (I.ok.hd hc) st (by have:n≤i:=hg;omega) fun h' eb=>⟨rfl,I.turned (t':=s.toks) (fun b o hb e=>eb b o hb e) f0 f1 f3 f4 f5⟩
 self:=fun _ _ _ _ _ st h=>wpAny_pyIter_rangeiter st h
def dM(lo hi c:Int):Nat:=(if lo<hi then (hi-lo-1) / c+1 else 0).toNat
theorem jP{lo hi c:Int}(hc:0<c):Builtin.Range.rangeSize lo hi c=((dM lo hi c:Nat):Int):=by
 unfold Builtin.Range.rangeSize dM
 rw[if_pos hc]
 split
 ·have:=Int.ediv_nonneg (show 0≤hi-lo-1 by omega) (aaG hc)
  omega
 ·rfl
theorem v8{lo hi c:Int}(hc:0<c):((dM lo hi c:Nat):Int)≤(if lo<hi then hi-lo else 0):=by
 rw[←jP hc]
 unfold Builtin.Range.rangeSize
 rw[if_pos hc]
 split
 ·have h1:(hi-lo-1) / c≤hi-lo-1:=Int.ediv_le_self c (by omega)
  omega
 ·exact Int.le_refl _
theorem q8{a b c:Int}(ha:-(2 ^ 61)≤a)(ha':a<2 ^ 61)(hb:-(2 ^ 61)≤b)(hb':b<2 ^ 61)(hc:0<c)(hc':c<2 ^ 61):Builtin.Range.small a b c=true:=by
 unfold Builtin.Range.small
 rw[jP hc]
 have h:=v8 (lo:=a) (hi:=b) hc
 have h0:(0:Int)≤((dM a b c:Nat):Int):=Int.natCast_nonneg _
 generalize ((dM a b c:Nat):Int)=z at h h0 ⊢
 simp only[Builtin.Range.rangeFitsLong,aay,Bool.or_eq_true,decide_eq_true_eq,beq_iff_eq,if_pos hc]
 split at h<;>omega
section
variable {X:Cx}{tg:Expr}
def E3(ta:TA):TI:=fun σ H R=>ta σ H fun vs H1=>∃i j c:Int,vs=[.int i,.int j,.int c]∧(-(2 ^ 61)≤i∧i<2 ^ 61∧-(2 ^ 61)≤j∧j<2 ^ 61∧0<c∧c<2 ^ 29)∧R (Its i c (dM i j c)) H1
theorem uL{pins:List (Addr×Obj)}{σ:L2.St}{H:Hp}{s:Shared}{R:It→Hp→Prop}{E:Value→Shared→Prop}{lo hi c:Int}{t u v:Tok}{tk:Nat}(I:Inv X pins σ H s)(h1:-(2 ^ 61)≤lo)(h2:lo<2 ^ 61)(h3:-(2 ^ 61)≤hi)(h4:hi<2 ^ 61)(h5:0<c)(h6:c<2 ^ 61)
  (q:R (Its lo c (dM lo hi c)) H):wpAny (model X.prog X.w) X.A (pyIter (.ref s.heap.objs.size)) (PIE X pins σ tg R) E { s with heap:=s.heap.push { cls:=.type "range",data:=.fields #[.int lo t,.int hi u,.int c v] },toks:=tk }:=by
 refine wpAny_pyIter_range (IsRange.new ..) (q8 h1 h2 h3 h4 h5 h6) ?_
 have I1:Inv X pins σ H { s with heap:=s.heap.push { cls:=.type "range",data:=.fields #[.int lo t,.int hi u,.int c v] },toks:=tk }:=I.kept fun b o e=>bY _ e
 refine⟨(s.heap.push { cls:=.type "range",data:=.fields #[.int lo t,.int hi u,.int c v] }).objs.size,[(s.heap.push { cls:=.type "range",data:=.fields #[.int lo t,.int hi u,.int c v] }).objs.size],_,_,H,rfl,
  I1.kept (t':=tk) fun b o e=>bY _ e,pP _ lo c (dM lo hi c),?_,fun b hb=>?_,q⟩
 ·have e1:lo+((0:Nat):Int)*c=lo:=by simp
  have e2:((dM lo hi c:Nat):Int)-((0:Nat):Int)=Builtin.Range.rangeSize lo hi c:=by rw[jP h5];simp
  show IsRangeIter _ _ (lo+((0:Nat):Int)*c) (((dM lo hi c:Nat):Int)-((0:Nat):Int)) c
  rw[e1,e2]
  exact lE _ rfl
 ·have e:b=(s.heap.push { cls:=.type "range",data:=.fields #[.int lo t,.int hi u,.int c v] }).objs.size:=by simpa using hb
  subst e
  exact I1.fpOk (gO _) (I1.hok.fresh (gO _))
theorem uR {a b c:Expr} {ta:TA} {p pos:Pos} (hg:Gl X "range") (hm:X.mg "range" = none) (ha:PA X [a,b,c] ta) (hs:starEach [a,b,c] X.env=[(false,eval a X.env),(false,eval b X.env),(false,eval c X.env)])
  (hs2:starEach [b,c] X.env=[(false,eval b X.env),(false,eval c X.env)]):PI X tg (.Call (.Name "range" p) [a,b,c] [] pos) (E3 ta):=by
 intro pins s σ H R I h
 refine Call_ (hJ I hg hm boot_range (PyProof.Rows.callWith_type1 (thn (ha pos pins s σ H _ I h) fun us s1 ⟨vs,H1,I1,r1,q1⟩=>?_) (by rw[hs,hs2]) (by rw[hs2];rfl)))
 obtain⟨i,j,k,e,⟨q1,q2,q3,q4,q5,q6⟩,q⟩:=q1
 subst e
 cases r1 with
 |cons r rr=>
  cases rr with
  |cons r' rr=>
   cases rr with
   |cons r'' rr=>
    cases rr
    obtain⟨t,rfl⟩:=r
    obtain⟨t',rfl⟩:=r'
    obtain⟨t'',rfl⟩:=r''
    exact call_range_3 (by omega) (uL I1 q1 q2 q3 q4 q5 (by omega) q) (.inl (PyProof.noPylong_small (by omega)))
end
abbrev DI:=PSt→Res (List PV)
def JOk(K:aT)(J:It)(Hs:Hp)(ps:List PV):Prop:=∀(i:Nat)(H Hs':Hp),aL Hs Hs'→aL Hs' H →
 (i<ps.length→J.go i H∧∀x H',J.yld i H x H'→H'=H∧∃p,ps[i]? = some p∧Rep K Hs x p)∧(ps.length≤i→J.stop i H)
section
variable (X:Cx)(H0 Hs0:Hp)
def RI(d:DI):TI:=fun τ H R=>∃Hs σ,SR X.K H0 Hs0 Hs H σ τ∧match d σ with
 |.ok ps=>∀J Hs' H',Grow Hs H Hs' H'→JOk X.K J Hs' ps→R J H'
 |.err c=>a8 X H0 Hs0 c
 |.stuck=>False
def QI(tg e:Expr)(d:DI):Prop:=PI X tg e (RI X H0 Hs0 d)
abbrev DG:=PV→PSt→Res PSt
def RG(g:DG):TG:=fun v τ H Q=>∃Hs σ p,SR X.K H0 Hs0 Hs H σ τ∧Rep X.K Hs v p∧match g p σ with
 |.ok σ'=>∀Hs' H' τ',aL Hs Hs'→SR X.K H0 Hs0 Hs' H' σ' τ'→Q τ' H'
 |_=>False
def QG(e:Expr)(g:DG):Prop:=PG X e (RG X H0 Hs0 g)
end
theorem PI.imp{X:Cx}{tg e:Expr}{t t':TI}(h:PI X tg e t)(m:∀τ H Q,t' τ H Q→t τ H Q):PI X tg e t':=fun pins s σ H Q I q=>h pins s σ H Q I (m _ _ _ q)
theorem PG.imp{X:Cx}{e:Expr}{t t':TG}(h:PG X e t)(m:∀v τ H Q,t' v τ H Q→t v τ H Q):PG X e t':=fun pins s σ H v u Q I r q=>h pins s σ H v u Q I r (m _ _ _ _ q)
def fT:PV→Res (List PV)
 |.tup ps=>.ok ps
 |.lst ps=>.ok ps
 |.scr ns=>.ok (ns.map PV.int)
 |_=>.stuck
def itE(d:DE):DI:=fun σ=>(d σ).bind fT
def dn(lo c:Int)(n:Nat):List PV:=(aaN n).map fun (i:Nat)=>PV.int (lo+i*c)
def fV:List PV→Res (List PV)
 |[.int j]=>if -(2 ^ 61)≤j∧j<2 ^ 61 then .ok (dn 0 1 j.toNat) else .stuck
 |_=>.stuck
def fU:List PV→Res (List PV)
 |[.int i,.int j,.int c]=>if -(2 ^ 61)≤i∧i<2 ^ 61∧-(2 ^ 61)≤j∧j<2 ^ 61∧0<c∧c<2 ^ 29 then .ok (dn i c (dM i j c)) else .stuck
 |_=>.stuck
def itR(f:List PV→Res (List PV))(a:DA):DI:=fun σ=>(a σ).bind f
section
variable {X:Cx}{H0 Hs0:Hp}{tg a b c:Expr}{da:DE}{ra:DA}{pos p:Pos}
theorem qr{K:aT}{Hs:Hp}{ad:Addr}{vs:List V}{ps:List PV}(h:SqL K Hs ad vs)(r:Reps K Hs vs ps):JOk K (Itl K ad) Hs ps:=by
 intro i H Hs' e1 e2
 have hq:SqL K H ad vs:=(e1.trans e2).seq h
 refine⟨fun hi=>?_,fun hi=>⟨vs,hq,by rw[r.length];exact hi⟩⟩
 have hp:ps[i]? = some ps[i]:=dO hi
 obtain⟨v,hv,rv⟩:=r.get hp
 refine⟨⟨vs,v,hq,hv⟩,fun x H' ⟨e,y⟩=>⟨e,_,hp,?_⟩⟩
 have:=y vs hq
 rw[hv]at this
 cases this
 exact rv
theorem Ac{K:aT}{Hs:Hp}{ad:Addr}{vs:List V}{ps:List PV}(h:SqT K Hs ad vs)(r:Reps K Hs vs ps):JOk K (Itt K ad) Hs ps:=by
 intro i H Hs' e1 e2
 have hq:SqT K H ad vs:=bO (e1.trans e2) h
 refine⟨fun hi=>?_,fun hi=>⟨vs,hq,by rw[r.length];exact hi⟩⟩
 have hp:ps[i]? = some ps[i]:=dO hi
 obtain⟨v,hv,rv⟩:=r.get hp
 refine⟨⟨vs,v,hq,hv⟩,fun x H' ⟨e,y⟩=>⟨e,_,hp,?_⟩⟩
 have:=y vs hq
 rw[hv]at this
 cases this
 exact rv
theorem vb{K:aT}{Hs:Hp}{lo c:Int}{n:Nat}:JOk K (Its lo c n) Hs (dn lo c n):=by
 intro i H Hs' e1 e2
 have hl:(dn lo c n).length=n:=by simp[dn]
 rw[hl]
 refine⟨fun hi=>⟨hi,fun x H' ⟨e,y⟩=>⟨e,.int (lo+i*c),?_,?_⟩⟩,fun hi=>hi⟩
 ·simp[dn,hi]
 ·rw[y];exact .int _
theorem rW{K:aT}{Hs:Hp}{lo:Int}{n:Nat}:JOk K (Itr lo n) Hs (dn lo 1 n):=by
 intro i H Hs' e1 e2
 have hl:(dn lo 1 n).length=n:=by simp[dn]
 rw[hl]
 refine⟨fun hi=>⟨hi,fun x H' ⟨e,y⟩=>⟨e,.int (lo+i),?_,?_⟩⟩,fun hi=>hi⟩
 ·simp[dn,hi]
 ·rw[y];exact .int _
theorem B0(ha:QE X H0 Hs0 a da):QI X H0 Hs0 tg a (itE da):=by
 intro pins s τ H R I ⟨Hs,σ,S,h⟩
 unfold itE at h
 cases e:da σ with
 |ok q=>
  rw[e]at h
  cases q with
  |lst ps=>
   exact oP ha pins s τ H R I ⟨Hs,σ,S,by
    rw[e]
    intro v Hs' H' g r
    obtain⟨ad,vs,rfl,hl,rr⟩:=r.lst_inv
    exact⟨ad,rfl,⟨vs,SqL.of (g.i _ _ hl)⟩,h _ Hs' H' g (qr (SqL.of hl) rr)⟩⟩
  |scr ns=>
   exact oP ha pins s τ H R I ⟨Hs,σ,S,by
    rw[e]
    intro v Hs' H' g r
    obtain⟨ad,rfl,hl⟩:=r.scr_inv
    exact⟨ad,rfl,⟨_,g.i.seq hl⟩,h _ Hs' H' g (qr hl (Reps.ints ns))⟩⟩
  |tup ps=>
   exact Cg ha pins s τ H R I ⟨Hs,σ,S,by
    rw[e]
    intro v Hs' H' g r
    obtain⟨ad,vs,rfl,hl,rr⟩:=r.tup_inv
    exact⟨ad,rfl,⟨vs,bO g.i hl⟩,h _ Hs' H' g (Ac hl rr)⟩⟩
  |_=>exact h.elim
 |err c=>
  rw[e]at h
  exact oP ha pins s τ H R I ⟨Hs,σ,S,by rw[e];exact h⟩
 |stuck=>rw[e]at h;exact h.elim
theorem lM{f:List PV→Res (List PV)}{τ:L2.St}{H:Hp}{R:It→Hp→Prop}(h:RI X H0 Hs0 (itR f ra) τ H R):
  RA X H0 Hs0 ra τ H fun vs H1=>∃Hs ps,aL Hs H1∧Reps X.K Hs vs ps∧match f ps with
   |.ok qs=>∀J Hs' H',Grow Hs H1 Hs' H'→JOk X.K J Hs' qs→R J H'
   |.err c=>a8 X H0 Hs0 c
   |.stuck=>False:=by
 obtain⟨Hs,σ,S,h⟩:=h
 refine⟨Hs,σ,S,?_⟩
 unfold itR at h
 generalize ra σ=r at h ⊢
 cases r with
 |ok ps=>
  intro vs Hs' H' g r
  refine⟨Hs',ps,g.i,r,?_⟩
  have h:(match f ps with
   |.ok ps=>∀J Hs' H',Grow Hs H Hs' H'→JOk X.K J Hs' ps→R J H'
   |.err c=>a8 X H0 Hs0 c
   |.stuck=>False):=h
  cases e:f ps with
  |ok qs=>rw[e]at h;exact fun J Hs2 H2 g2 j=>h J Hs2 H2 (g.trans g2) j
  |err c=>rw[e]at h;exact h
  |stuck=>rw[e]at h;exact h
 |err c=>exact h
 |stuck=>exact h
theorem uO (hg:Gl X "range") (hm:X.mg "range" = none) (ha:QA X H0 Hs0 [a] ra) (hs:starEach [a] X.env=[(false,eval a X.env)]):QI X H0 Hs0 tg (.Call (.Name "range" p) [a] [] pos) (itR fV ra):=
 PI.imp (uS hg hm ha hs) fun τ H R h=>RA.mono (lM h) fun vs H1 ⟨Hs,ps,i,r,h1⟩=>by
  unfold fV at h1
  split at h1
  ·rename_i e
   split at e
   ·rename_i j
    obtain⟨v,rfl,r1⟩:=r.one_inv
    cases r1.int_inv
    split at e
    ·rename_i hb
     cases e
     exact⟨j,rfl,by omega,by omega,h1 _ Hs H1 (.refl i) rW⟩
    ·cases e
   ·cases e
  ·rename_i e
   split at e
   ·split at e<;>cases e
   ·cases e
  ·exact h1.elim
theorem uN (hg:Gl X "range") (hm:X.mg "range" = none) (ha:QA X H0 Hs0 [a,b,c] ra) (hs:starEach [a,b,c] X.env=[(false,eval a X.env),(false,eval b X.env),(false,eval c X.env)])
  (hs2:starEach [b,c] X.env=[(false,eval b X.env),(false,eval c X.env)]):QI X H0 Hs0 tg (.Call (.Name "range" p) [a,b,c] [] pos) (itR fU ra):=
 PI.imp (uR hg hm ha hs hs2) fun τ H R h=>RA.mono (lM h) fun vs H1 ⟨Hs,ps,i,r,h1⟩=>by
  unfold fU at h1
  split at h1
  ·rename_i e
   split at e
   ·rename_i j k m
    obtain⟨v,ws,rfl,r1,r2⟩:=r.cons_inv
    obtain⟨w,z,rfl,r3,r4⟩:=r2.two_inv
    cases r1.int_inv;cases r3.int_inv;cases r4.int_inv
    split at e
    ·rename_i hb
     cases e
     exact⟨j,k,m,rfl,hb,h1 _ Hs H1 (.refl i) vb⟩
    ·cases e
   ·cases e
  ·rename_i e
   split at e
   ·split at e<;>cases e
   ·cases e
  ·exact h1.elim
def gN(i:Nat):DG:=fun p σ=>.ok (σ.set i (some (.sh p)))
theorem zw{i:Nat}{x:Str}(hN:X.N.Nodup)(hi:X.N[i]? = some x)(hx:Loc X.env.scope x)(hf:X.fn x=true∨X.env.scope.names.lookup x=some .local):QG X H0 Hs0 (.Name x pos) (gN i):=
 PG.imp (kM hN hi hx hf) fun v τ H Q ⟨Hs,σ,p,S,r,h⟩=>h Hs H _ (aL.refl _) (S.set i r)
def fz:List Nat→List PV→PSt→Res PSt
 |[],[],σ=>.ok σ
 |i::is,p::ps,σ=>fz is ps (σ.set i (some (.sh p)))
 |_,_,_=>.stuck
def gT(is:List Nat):DG:=fun p σ=>match p with
 |.tup ps=>fz is ps σ
 |_=>.stuck
def RGs(X:Cx)(H0 Hs0:Hp)(is:List Nat):TGs:=fun vs τ H Q=>∃Hs σ ps,SR X.K H0 Hs0 Hs H σ τ∧Reps X.K Hs vs ps∧match fz is ps σ with
 |.ok σ'=>∀Hs' H' τ',aL Hs Hs'→SR X.K H0 Hs0 Hs' H' σ' τ'→Q τ' H'
 |_=>False
def QGs(X:Cx)(H0 Hs0:Hp)(es:List Expr)(is:List Nat):Prop:=PGs X es (RGs X H0 Hs0 is)
theorem PGs.imp{es:List Expr}{t t':TGs}(h:PGs X es t)(m:∀v τ H Q,t' v τ H Q→t v τ H Q):PGs X es t':=fun pins s σ H v u Q I r q=>h pins s σ H v u Q I r (m _ _ _ _ q)
theorem zv:QGs X H0 Hs0 [] []:=PGs.imp zI fun vs τ H Q ⟨Hs,σ,ps,S,r,h⟩=>by
 cases r with
 |nil=>exact⟨rfl,h Hs H τ (aL.refl _) S⟩
 |cons _ _=>exact h.elim
theorem wA{i:Nat}{is:List Nat}{x:Str}{es:List Expr}(hN:X.N.Nodup)(hi:X.N[i]? = some x)(hx:Loc X.env.scope x)(hf:X.fn x=true∨X.env.scope.names.lookup x=some .local)(h2:QGs X H0 Hs0 es is)
  (hs:(assignEach (.Name x pos::es) X.env).map (·.2)=assign (.Name x pos) X.env::(assignEach es X.env).map (·.2)):QGs X H0 Hs0 (.Name x pos::es) (i::is):=
 PGs.imp (wL (kM hN hi hx hf) h2 hs) fun vs τ H Q ⟨Hs,σ,ps,S,r,h⟩=>by
  cases r with
  |nil=>exact h.elim
  |cons r t=>exact⟨_,_,rfl,Hs,_,_,S.set i r,t,h⟩
theorem i4:∀{is:List Nat}{ps:List PV}{σ σ':PSt},fz is ps σ=.ok σ'→ps.length=is.length
 |[],[],_,_,_=>rfl
 |_::is,_::ps,_,_,h=>congrArg (· + 1) (i4 (is:=is) (ps:=ps) h)
theorem B2{es:List Expr}{is:List Nat}{k:Nat}(hc:X.calm=true)(h:QGs X H0 Hs0 es is)(hn:(assignEach es X.env).length=is.length)(hst:(assignEach es X.env).findIdx? (·.1)=none):QG X H0 Hs0 (.Tuple es k pos) (gT is):=
 PG.imp (Cj hc h hn hst) fun v τ H Q ⟨Hs,σ,p,S,r,h⟩=>by
  unfold gT at h
  split at h
  ·rename_i σ' e
   split at e
   ·rename_i ps
    obtain⟨ad,vs,rfl,ht,rr⟩:=r.tup_inv
    refine⟨ad,vs,rfl,bO S.g.i ht,by rw[rr.length];exact i4 e,Hs,σ,ps,S,rr,?_⟩
    rw[e];exact h
   ·cases e
  ·exact h.elim
def dQ(g:DG)(b:DS):List PV→DS
 |[],σ=>.ok (.next σ)
 |p::ps,σ=>match g p σ with
  |.ok σ1=>(b σ1).bind fun f=>match f with
   |.next σ'=>dQ g b ps σ'
   |.cont σ'=>dQ g b ps σ'
   |.brk σ'=>.ok (.next σ')
   |.ret p=>.ok (.ret p)
  |_=>.stuck
def gK(it:DI)(g:DG)(b:DS):DS:=fun σ=>(it σ).bind fun ps=>dQ g b ps σ
theorem BW{iter:Expr}{sts:List Stmt}{d:DI}{g:DG}{bb:DS}(hp:PassesOwn (model X.prog X.w) X.A X.env X.xe)(hc:X.calm=true)(hi:QI X H0 Hs0 tg iter d)(hg:QG X H0 Hs0 tg g)(hb:QSs X H0 Hs0 sts bb)
  (hs:∀x,foldedSetIterable iter X.env x=pure x):QS X H0 Hs0 (.For tg iter sts [] pos) (gK d g bb):=
 PS.imp (wJ hp hc hi hg hb hs) fun D τ H ⟨Hs,σ,S,h⟩=>by
  refine⟨Hs,σ,S,?_⟩
  unfold gK at h
  generalize d σ=r at h ⊢
  cases r with
  |err c=>exact h
  |stuck=>exact h
  |ok ps=>
   intro J Hs1 H1 g1 jok
   have h:fH X H0 Hs0 D Hs H (dQ g bb ps σ):=h
   refine⟨fun i m τ H=>∃Hs' σ',SR X.K H0 Hs0 Hs' H σ' τ∧aL Hs1 Hs'∧m=ps.length-i∧i≤ps.length∧fH X H0 Hs0 D Hs' H (dQ g bb (ps.drop i) σ'),⟨ps.length,Hs1,σ,S.grow g1,aL.refl _,by simp,aaH _,by simpa using h.same g1.s⟩,?_⟩
   rintro i m τ2 H2 ⟨Hs2,σ2,S2,e2,rfl,hi,h2⟩
   obtain⟨j1,j2⟩:=jok i H2 Hs2 e2 S2.g.i
   by_cases hlt:i<ps.length
   ·obtain⟨go,yl⟩:=j1 hlt
    refine .inr ⟨go,fun τ' H'=>∃Hs' σ',SR X.K H0 Hs0 Hs' H' σ' τ'∧aL Hs1 Hs'∧fH X H0 Hs0 D Hs' H' (dQ g bb (ps.drop (i+1)) σ'),fun τ' H' ⟨Hs',σ',a1,a2,a3⟩=>⟨ps.length-(i+1),by omega,Hs',σ',a1,a2,rfl,by omega,a3⟩,fun x H' y=>?_⟩
    obtain⟨rfl,p,hp',rp⟩:=yl x H' y
    rw[aar hlt]at h2
    have ep:ps[i]=p:=by rw[dO hlt]at hp';exact Option.some.inj hp'
    rw[ep]at h2
    refine⟨Hs2,σ2,p,S2,rp.mono e2,?_⟩
    unfold dQ at h2
    cases eg:g p σ2 with
    |ok σ3=>
     rw[eg]at h2
     dsimp only at h2
     intro Hs3 H3 τ3 e3 S3
     refine⟨Hs3,σ3,S3,?_⟩
     have h3:=fH.same (H':=H3) h2 e3
     revert h3
     generalize bb σ3=rb
     intro h3
     cases rb with
     |err c=>exact h3
     |stuck=>exact h3
     |ok f=>
      cases f with
      |next σ'=>exact fun Hs4 H4 τ4 e4 S4=>⟨Hs4,σ',S4,(e2.trans e3).trans e4,fH.same (H':=H4) h3 e4⟩
      |cont σ'=>exact fun Hs4 H4 τ4 e4 S4=>⟨Hs4,σ',S4,(e2.trans e3).trans e4,fH.same (H':=H4) h3 e4⟩
      |brk σ'=>exact h3
      |ret q=>exact h3
    |err c=>rw[eg]at h2;exact h2.elim
    |stuck=>rw[eg]at h2;exact h2.elim
   ·have e:i=ps.length:=by omega
    subst e
    refine .inl ⟨j2 (gO _),?_⟩
    rw[List.drop_length]at h2
    exact h2 Hs2 H2 τ2 (aL.refl _) S2
end
section
variable {prog:Program}{w:World}{A:Around}{E:Value→Shared→Prop}{s:Shared}
theorem nW{it l:Addr}{items:Array Value}(hne:l≠it):∀(n i:Nat)(s:Shared)(Q:List Value→Shared→Prop),s.heap.IsListIter it l i→s.heap.IsList l items→i+n≤items.size →
  (∀h',h'.IsListIter it l (i+n)→Heap.SameBut it s.heap h'→Q ((items.toList.drop i).take n) { s with heap:=h' })→wpAny (model prog w) A (draw (.ref it) n) Q E s
 |0,i,s,Q,hit,_,_,hQ=>by
  show wpAny _ _ (pure []) Q E s
  exact wpAny_pure (by simpa using hQ s.heap hit (Heap.SameBut.refl ..))
 |n+1,i,s,Q,hit,ht,hle,hQ=>by
  have hlt:i<items.size:=by omega
  show wpAny _ _ (pyNext (.ref it) >>= _) Q E s
  refine wpAny_bind (wpAny_pyNext_list_item hit ht (x:=items[i]) (by simp[hlt]) fun h₁ hit₁ hs₁=>?_)
  refine wpAny_bind (wpAny_holding (nW hne n (i+1) _ _ hit₁ (ht.extBut hs₁.extBut hne) (by omega) fun h₂ hit₂ hs₂=>wpAny_pure ?_))
  have hd:items.toList.drop i=items[i]::items.toList.drop (i+1):=by simp[aar,hlt]
  have:=hQ h₂ (by rw[show i+(n+1)=i+1+n by omega];exact hit₂) (hs₁.trans hs₂)
  rw[hd,List.take_succ_cons]at this
  exact this
theorem jL{l:Addr}{items:Array Value}{Q:List Value→Shared→Prop}(hh:A.handled=none)(ht:s.heap.IsList l items)
  (hQ:∀h',Heap.ExtBut s.heap.objs.size s.heap h'→Q items.toList { s with heap:=h' }):wpAny (model prog w) A (unpackItems (.ref l) items.size none) Q E s:=by
 have hlt:l≠s.heap.objs.size:=by obtain⟨o,ho,_⟩:=ht;exact aab (iD ho)
 unfold unpackItems
 refine wpAny_bind ?_
 ·unfold notIterableAtAll
  refine wpAny_bind (wpAny_specialOf ht.typeIs slot_list_iter.lookup ?_)
  refine wpAny_pure ?_
  simp only[iN,if_false]
  refine wpAny_bind (wpAny_holding (wpAny_pyIter_list ht ?_))
  have ht0:(s.heap.push { cls:=.type "list_iterator",data:=.fields #[.ref l,.int 0 0] }).IsList l items:=by
   obtain⟨o,ho,r⟩:=ht
   exact⟨o,bY _ ho,r⟩
  refine wpAny_bind (wpAny_holding (nW hlt items.size 0 _ _ ⟨_,lE _ rfl,rfl,rfl⟩ ht0 (by omega) fun h₁ hit₁ hs₁=>?_))
  have hall:List.take items.size (List.drop 0 items.toList)=items.toList:=by
   rw[List.drop_zero];exact aa4 (by simp)
  rw[hall]
  rw[if_neg (by simp)]
  have ht₁:h₁.IsList l items:=ht0.extBut hs₁.extBut hlt
  refine wpAny_bind (wpAny_holding (wpAny_pyNext_list_end hh hit₁ ht₁ (by simp) fun h₂ he₂=>?_))
  simp only[Option.isSome_none,iN,if_false]
  refine wpAny_pure (hQ h₂ fun b o hb e=>he₂ b o hb (hs₁.extBut b o hb (bY _ e)))
theorem jJ{env:Env}{elts:List Expr}{x1}{pos:Pos}{t:Addr}{items:Array Value}{Q:Unit→Shared→Prop}(hh:A.handled=none)(ht:s.heap.IsList t items)
  (hn:(assignEach elts env).length=items.size) (hstar:(assignEach elts env).findIdx? (·.1)=none)
  (h:∀h',Heap.ExtBut s.heap.objs.size s.heap h'→wpAny (model prog w) A (assignInOrder ((assignEach elts env).map (·.2)) items.toList) Q E { s with heap:=h' }):
  wpAny (model prog w) A (assign (.Tuple elts x1 pos) env (.ref t)) Q E s:=by
 rw[assign_Tuple]
 refine wpAny_bind (wpAny_standAt ?_)
 unfold unpack
 rw[hn,hstar]
 exact wpAny_bind (wpAny_holding (jL hh ht h))
end
section
variable {X:Cx}{H0 Hs0:Hp}{a b c:Expr}{da db dc:DE}{pos:Pos}
def GZ(K:aT)(n:Nat)(t:TGs):TG:=fun v σ H Q=>∃a xs,v=.ref a∧SqL K H a xs∧xs.length=n∧t xs σ H Q
theorem Ck{es:List Expr}{k:Nat}{t:TGs}{n:Nat}(hc:X.calm=true)(h:PGs X es t)(hn:(assignEach es X.env).length=n)(hst:(assignEach es X.env).findIdx? (·.1)=none):PG X (.Tuple es k pos) (GZ X.K n t):=by
 intro pins s σ H v u Q I r hw
 obtain⟨a,xs,e1,hq,hl,hw⟩:=hw
 subst e1
 cases r
 obtain⟨its,rv,ht,hz⟩:=I.list hq
 refine jJ (I.ok.hd hc) ht.isList (by simp[hn,←hl,rv.length]) hst fun h' hx=>?_
 have I1:Inv X pins σ H { s with heap:=h' }:=I.kept (t':=s.toks) fun b o e=>hx b o (aab (iD e)) e
 exact h pins _ σ H xs _ Q I1 (by simpa using rv) hw
def gU(is:List Nat):DG:=fun p σ=>match p with
 |.tup ps=>fz is ps σ
 |.lst ps=>fz is ps σ
 |_=>.stuck
theorem B1{es:List Expr}{is:List Nat}{k:Nat}(hc:X.calm=true)(h:QGs X H0 Hs0 es is)(hn:(assignEach es X.env).length=is.length)(hst:(assignEach es X.env).findIdx? (·.1)=none):QG X H0 Hs0 (.Tuple es k pos) (gU is):=by
 intro pins s τ H v u Q I rv ⟨Hs,σ,p,S,r,hh⟩
 cases p with
 |tup ps=>exact B2 hc h hn hst pins s τ H v u Q I rv ⟨Hs,σ,.tup ps,S,r,hh⟩
 |lst ps=>
  refine Ck hc h hn hst pins s τ H v u Q I rv ?_
  obtain⟨ad,vs,rfl,ht,rr⟩:=r.lst_inv
  have hh':(match fz is ps σ with
   |.ok σ'=>∀Hs' H' τ',aL Hs Hs'→SR X.K H0 Hs0 Hs' H' σ' τ'→Q τ' H'
   |_=>False):=hh
  cases e:fz is ps σ with
  |ok σ'=>exact⟨ad,vs,rfl,SqL.of (S.g.i _ _ ht),by rw[rr.length];exact i4 e,Hs,σ,ps,S,rr,hh'⟩
  |err c=>rw[e]at hh';exact hh'.elim
  |stuck=>rw[e]at hh';exact hh'.elim
 |_=>exact hh.elim
def v3(i j:Nat)(a:DA):DS:=fun σ=>(a σ).bind fun ps=>match ps with
 |[p,q]=>.ok (.next ((σ.set i (some (.sh p))).set j (some (.sh q))))
 |_=>.stuck
theorem fH.bindA{D:Ends}{Hs H:Hp}{r:Res (List PV)}{f:List PV→Res Fl}(h:fH X H0 Hs0 D Hs H (r.bind f)):
  pI X.K Hs H r (a8 X H0 Hs0) fun v H1=>∃Hs1 p,Grow Hs H Hs1 H1∧Reps X.K Hs1 v p∧fH X H0 Hs0 D Hs1 H1 (f p):=by
 cases r with
 |ok p=>exact fun v Hs' H' g r=>⟨Hs',p,g,r,fH.same (r:=f p) h g.s⟩
 |err c=>exact h
 |stuck=>exact h
theorem BS{i j:Nat}{x y:Str}{ra:DA}{px py pt:Pos}{kt k2 pt2}(hc:X.calm=true)(hN:X.N.Nodup)(hi:X.N[i]? = some x)(hj:X.N[j]? = some y)(hij:i≠j)
  (hx:X.env.scope.names.lookup x=some .local) (hy:X.env.scope.names.lookup y=some .local) (ha:QA X H0 Hs0 [a,b] ra)
  (hw:swappedStores [.Tuple [.Name x px,.Name y py] kt pt] (.Tuple [a,b] k2 pt2) X.env=pure (some [x,y]))
  (hs:swapsWithSole [.Tuple [.Name x px,.Name y py] kt pt] (.Tuple [a,b] k2 pt2) pos.line X.env=pure false):
  QS X H0 Hs0 (.Assign [.Tuple [.Name x px,.Name y py] kt pt] (.Tuple [a,b] k2 pt2) pos) (v3 i j ra):=PS.imp (Cd hc hN hi hj hij hx hy ha hw hs) fun D τ H ⟨Hs,σ,S,h⟩=>
 ⟨Hs,σ,S,pI.mono (fH.bindA h) fun vs H1 ⟨Hs1,ps,g1,r1,h1⟩=>by
  split at h1
  ·obtain⟨v,w,rfl,rp,rq⟩:=r1.two_inv
   exact⟨v,w,rfl,h1 Hs1 H1 _ (aL.refl _) (((S.grow g1).set i rp).set j rq)⟩
  ·exact h1.elim⟩
theorem SR.setOwn{K:aT}{Hs H:Hp}{σ:PSt}{τ:L2.St}{p:Addr}{vs:List V}{xs:List PV}(S:SR K H0 Hs0 Hs H σ τ)(i:Nat)(hp:H p=none)(r:Reps K Hs vs xs):
  SR K H0 Hs0 Hs (upd H p (.lst vs)) (σ.set i (some (.own xs))) (τ.set i (some (.ref p))):=by
 have g:Grow Hs H Hs (upd H p (.lst vs)):=.newOwn S.g.i hp
 have far:∀(j:Nat)(ys:List PV)(ad:Addr),σ[j]? = some (some (.own ys))→τ[j]? = some (some (.ref ad))→ad≠p:=fun j ys ad e1 e2 z=>by
  obtain⟨v,e3,a',vs',rfl,h1,_⟩:=S.slot j _ e1
  rw[e2]at e3
  cases e3
  subst z
  rw[hp]at h1;cases h1
 refine⟨S.g.trans g,fun j sv e=>?_,fun j k xs' ys' ad hjk e1 e2 e3=>?_,by rw[aas,aas];exact S.len⟩
 ·rcases aF e with ⟨rfl,e',hl⟩|⟨hne,e'⟩
  ·cases e'
   refine⟨.ref p,by rw[aao (by rw[←S.len];exact hl)],p,vs,rfl,ak,S.g.i.free hp,S.g.h.free hp,r⟩
  ·obtain⟨w,e1,r1⟩:=S.slot j sv e'
   exact⟨w,by rw[aaa (fun z=>hne z.symm)];exact e1,r1.grow g⟩
 ·rcases aF e1 with ⟨rfl,e',hl⟩|⟨hj,e1'⟩
  ·rw[aao (by rw[←S.len];exact hl)]at e3
   cases e3
   rcases aF e2 with ⟨rfl,_,_⟩|⟨hk,e2'⟩
   ·exact absurd rfl hjk
   ·rw[aaa (fun z=>hk z.symm)]
    exact fun z=>far k _ _ e2' z rfl
  ·rw[aaa (fun z=>hj z.symm)]at e3
   rcases aF e2 with ⟨rfl,e',hl⟩|⟨hk,e2'⟩
   ·rw[aao (by rw[←S.len];exact hl)]
    intro z
    cases z
    exact far j _ _ e1' e3 rfl
   ·rw[aaa (fun z=>hk z.symm)]
    exact S.inj j k _ _ ad hjk e1' e2' e3
def lH(i:Nat)(a:DA):DS:=fun σ=>(a σ).bind fun ps=>if ps.length≤10000000 then .ok (.next (σ.set i (some (.own ps)))) else .stuck
theorem BU{i:Nat}{x:Str}{es:List Expr}{lp pos':Pos}{ra:DA}(hN:X.N.Nodup)(hi:X.N[i]? = some x)(hx:Loc X.env.scope x)(ha:QA X H0 Hs0 es ra)(hs:swapsWith (.List es lp) (some (.Name x pos')) pos.line X.env=pure false)
  (hf:X.fn x=true∨X.env.scope.names.lookup x=some .local):QS X H0 Hs0 (.Assign [.Name x pos'] (.List es lp) pos) (lH i ra):=PS.imp (oN hN hi hx (wV ha) hs hf) fun D τ H ⟨Hs,σ,S,h⟩=>
 ⟨Hs,σ,S,pI.mono (fH.bindA h) fun vs H1 ⟨Hs1,ps,g1,r1,h1⟩=>by
  split at h1
  ·rename_i hl
   exact⟨k9 (by rw[r1.length];exact hl),fun p hp=>h1 Hs1 _ _ (aL.refl _) ((S.grow g1).setOwn i hp r1)⟩
  ·exact h1.elim⟩
theorem SR.write{K:aT}{Hs H:Hp}{σ:PSt}{τ:L2.St}{ad:Addr}{vs':List V}{xs xs':List PV}(S:SR K H0 Hs0 Hs H σ τ)(i:Nat)(e:σ[i]? = some (some (.own xs)))(et:τ[i]? = some (some (.ref ad)))(hHs:Hs ad=none)(hH0:H0 ad=none)(r:Reps K Hs vs' xs'):
  SR K H0 Hs0 Hs (upd H ad (.lst vs')) (σ.set i (some (.own xs'))) τ:=by
 have sm:∀{b:Addr},b≠ad→upd H ad (.lst vs') b=H b:=fun h=>aj h
 refine⟨⟨S.g.s,fun b o h=>?_,fun b o h=>?_,S.g.o⟩,fun j sv ej=>?_,fun j k xs1 ys1 a1 hjk e1 e2 e3=>?_,by rw[aas];exact S.len⟩
 ·rw[sm (bh h hHs)];exact S.g.i b o h
 ·rw[sm (bh h hH0)];exact S.g.h b o h
 ·rcases aF ej with ⟨rfl,e',hl⟩|⟨hne,e'⟩
  ·cases e'
   exact⟨_,et,ad,vs',rfl,ak,hHs,hH0,r⟩
  ·obtain⟨w,e1,r1⟩:=S.slot j sv e'
   refine⟨w,e1,?_⟩
   cases sv with
   |sh p=>exact r1
   |own ys=>
    obtain⟨b,ws,rfl,h1,h2,h3,h4⟩:=r1
    refine⟨b,ws,rfl,?_,h2,h3,h4⟩
    rw[sm]
    ·exact h1
    ·intro z
     subst z
     exact S.inj j i ys xs b hne e' e e1 et
   |flo tg now ns ps=>
    obtain⟨w0,f0,ad0,ws0,z0,hl0,_⟩:=S.slot i _ e
    rw[et]at f0
    cases f0
    cases z0
    obtain⟨b,C,dx,r0,vn,vs0,rfl,tt,f⟩:=r1
    exact⟨b,C,dx,r0,vn,vs0,rfl,tt,(sm fun z=>by have:=f.ins;rw[z,hl0]at this;cases this).trans f.ins,f.cls,(sm fun z=>by have:=f.dct;rw[z,hl0]at this;cases this).trans f.dct,(sm fun z=>by have:=f.row;rw[z,hl0]at this;cases this).trans f.row,f.len,f.sa,f.sd,f.sr,f.oa,f.od,f.or,f.now,f.rows⟩
 ·have o1:∃z,σ[j]? = some (some (.own z)):=by
   rcases aF e1 with ⟨rfl,_,_⟩|⟨_,e'⟩
   ·exact⟨xs,e⟩
   ·exact⟨_,e'⟩
  have o2:∃z,σ[k]? = some (some (.own z)):=by
   rcases aF e2 with ⟨rfl,_,_⟩|⟨_,e'⟩
   ·exact⟨xs,e⟩
   ·exact⟨_,e'⟩
  obtain⟨z1,o1⟩:=o1
  obtain⟨z2,o2⟩:=o2
  exact S.inj j k z1 z2 a1 hjk o1 o2 e3
def oI(i:Nat)(d:DE):DS:=fun σ=>match σ[i]? with
 |some (some (.own xs))=>if xs.length<10000000 then (d σ).bind fun p=>.ok (.next (σ.set i (some (.own (xs++[p]))))) else .stuck
 |_=>.stuck
theorem BX {i:Nat} {x:Str} {np apos cpos:Pos} (hN:X.N[i]? = some x) (hv:Vis X.env.scope x) (hd:(x==("__debug__":Str))=false) (hcd:(x==("__classdict__":Str))=false) (ha:QE X H0 Hs0 a da)
  (hbase:attributeBase (.Name x np) "append" X.env (eval (.Name x np) X.env)=eval (.Name x np) X.env)
  (hfew:((backTo cpos (starEach [a] X.env)).all (fun x=>!x.1)&&(backToKw cpos (keywordEach [] X.env)).all (fun x=>x.1.isSome)
   && decide ([a].length+([]:List Keyword).length+(if ([]:List Keyword).isEmpty then 0 else 1)<30))=true)
  (hline:(apos.endLine==cpos.line)=true) (hs:starEach [a] X.env=[(false,eval a X.env)]) (hplain:(backTo cpos (starEach [] X.env)).any (·.1)=false)
  (hsw:swapsWith (.Call (.Attribute (.Name x np) "append" apos) [a] [] cpos) none pos.line X.env=pure false):
  QS X H0 Hs0 (.Expr (.Call (.Attribute (.Name x np) "append" apos) [a] [] cpos) pos) (oI i da):=by
 intro pins s τ H D I ⟨Hs,σ,S,h⟩
 refine jo (Bb PySem.F.plainAttrs_list PySem.F.slot_list_append PySem.F.type_list_append iE (dJ hN hv hd hcd) (bX ha eB hs) hbase hfew hline hs hplain) hsw pins s τ H D I ?_
 unfold oI at h
 split at h
 ·rename_i xs e
  split at h
  ·rename_i hl
   obtain⟨v,e1,ad,vs,rfl,h1,h2,h3,h4⟩:=S.slot i _ e
   refine⟨_,e1,.inl ⟨rfl,vs,SqL.of h1⟩,Hs,σ,S,Ret.mono (fH.bind1 h) fun y H1 ⟨Hs1,p,g1,r1,hh⟩=>?_⟩
   have S1:=S.grow g1
   obtain⟨v',e1',ad',vs',e2',h1',h2',h3',h4'⟩:=S1.slot i _ e
   rw[e1]at e1'
   cases e1'
   cases e2'
   refine⟨ad,vs',y,rfl,rfl,h1',by rw[h4'.length,sizeLine_eq];omega,hh Hs1 _ τ (aL.refl _) (S1.write i e e1 h2' h3' (h4'.append (.cons r1 .nil)))⟩
  ·exact h.elim
 ·exact h.elim
def uI(i:Nat):DS:=fun σ=>match σ[i]? with
 |some (some (.own xs))=>if xs=[] then .stuck else .ok (.next (σ.set i (some (.own xs.dropLast))))
 |_=>.stuck
theorem Reps.dropLast{K:aT}{H:Hp}{vs:List V}{ps:List PV}(r:Reps K H vs ps):Reps K H vs.dropLast ps.dropLast:=by
 rw[List.dropLast_eq_take,List.dropLast_eq_take,r.length]
 exact r.take _
end
section
variable {X:Cx}{H0 Hs0:Hp}{pos:Pos}
end
def cM(m:Nat)(ps:List PV):PSt:=ps.map (fun p=>some (.sh p))++aaS (m-ps.length) none
def fin:Res Fl→Res PV
 |.ok (.ret p)=>.ok p
 |.ok (.next _)=>.ok .non
 |_=>.stuck
def bz(n m:Nat)(d:DS)(ps:List PV):Res PV:=if ps.length=n then fin (d (cM m ps)) else .stuck
theorem iz{n m:Nat}{d:DS}{ps:List PV}(h:ps.length=n):bz n m d ps=fin (d (cM m ps)):=if_pos h
theorem oM{n m:Nat}{d:DS}{ps:List PV}(h:ps.length≠n):bz n m d ps=.stuck:=if_neg h
theorem SR.start{K:aT}{Hs H:Hp}{vs:List V}{ps:List PV}{N:List Str}(i:aL Hs H)(r:Reps K Hs vs ps)(hl:vs.length≤N.length):SR K H Hs Hs H (cM N.length ps) (start N vs):=by
 have hlen:=r.length
 have get:∀(j:Nat)(sv:SV),(cM N.length ps)[j]? = some (some sv)→∃p,sv=.sh p∧ps[j]? = some p:=by
  intro j sv e
  unfold cM at e
  by_cases hj:j<ps.length
  ·rw[aax (by simpa using hj),aae]at e
   cases q:ps[j]? with
   |none=>rw[q]at e;cases e
   |some p=>rw[q]at e;cases e;exact⟨p,rfl,rfl⟩
  ·rw[aaB (by simpa using hj),aby]at e
   split at e<;>cases e
 refine⟨.refl i,fun j sv e=>?_,fun j k xs ys a _ e1=>?_,?_⟩
 ·obtain⟨p,rfl,hp⟩:=get j sv e
  obtain⟨v,hv,rv⟩:=r.get hp
  refine⟨v,?_,rv⟩
  have hj:j<vs.length:=(List.getElem?_eq_some_iff.mp hv).1
  unfold L2.start
  rw[aax (by simpa using hj),aae,hv];rfl
 ·obtain⟨p,z,_⟩:=get j _ e1
  cases z
 ·unfold cM L2.start
  simp only[aai,aad,aa5]
  omega
section
variable {P:Program}{w:World}{K:aT}{mg:Str→Option Value}{base:Heap}
theorem jB{CX:CXT}{x qual:Str}{st:Stmt}{f:Addr}{fd:FuncData}{N ps:List Str}{k:Nat}{sp:Sp}(F:Fun K x qual st f fd)(S:FnScope N ps (af st))(len:∀vs H Q E,sp vs H Q E→vs.length=ps.length)
  (hbody:∀(cdv:Value)(A:Around)(outer:List Env)(s:Shared)(H:Hp)(vs:List V)(Q:VK)(E:XK),Room k (A.deeper (envOfC qual (af st) s.heap.objs.size f cdv))→sp vs H Q E →
   ∃t,PSs (gP CX P w K mg base N qual (af st) f cdv A outer s H E) (aS st) t∧t { nx:=fun _ H'=>Q .non H',rt:=Q } (start N vs) H):FnOk P w K mg base CX (k+1) f fd ps sp:=by
 obtain⟨oc,od,kV,doc,pm,an,cdv,ct,osl,rfl,lk,hcd⟩:=F.ex
 exact Fb lk hcd S len fun A outer s H vs Q E hr hsp=>hbody cdv A outer s H vs Q E hr hsp
theorem xW{x qual:Str}{st:Stmt}{f:Addr}{fd:FuncData}{N ps:List Str}{k:Nat}{d:DS}(F:Fun K x qual st f fd)(S:FnScope N ps (af st))
  (hbody:∀(cdv:Value)(A:Around)(outer:List Env)(s:Shared)(H Hs:Hp)(E:XK),Room k (A.deeper (envOfC qual (af st) s.heap.objs.size f cdv)) →
   QSs (gP (CXG P w) P w K mg base N qual (af st) f cdv A outer s H E).nox H Hs (aS st) d):
  FnOk P w K mg base (CXG P w) (k+1) f fd ps (Fsp K ps.length (bz ps.length N.length d)):=by
 have hpl:ps.length≤N.length:=by have:=congrArg List.length S.pre;rw[aaD]at this;omega
 refine jB F S (fun vs H Q E h=>h.1) (fun cdv A outer s H vs Q E hr h=>?_)
 obtain⟨hl,Hs,qs,i,r,h⟩:=h
 refine⟨_,PSs.nox (hbody cdv A outer s H Hs E hr),Hs,cM N.length qs,SR.start i r (by omega),?_⟩
 rw[iz (by rw[←r.length,hl])]at h
 generalize d (cM N.length qs)=rr at h ⊢
 cases rr with
 |ok fl=>
  cases fl with
  |next σ'=>exact fun Hs' H' τ' _ S'=>h _ Hs' H' S'.g .non
  |ret p=>exact fun v Hs' H' g rv=>h v Hs' H' g rv
  |brk σ'=>exact h.elim
  |cont σ'=>exact h.elim
 |err c=>exact h.elim
 |stuck=>exact h
structure FunIn (P:Program) (w:World) (K:aT) (mg:Str→Option Value) (base:Heap) (x:Str) (k:Nat) (m:List PV→Res PV):Prop where
 ex:∃(a:Addr)(fd:FuncData)(ps:List Str),mg x=some (.ref a)∧aaE K (.ref a)=true∧Binds K fd ps []∧(∀qs,qs.length≠ps.length→m qs=.stuck)∧FnOk P w K mg base (CXG P w) k a fd ps (Fsp K ps.length m)
theorem Dc{x:Str}{st:Stmt}{f:Addr}{fd:FuncData}{N ps:List Str}{k:Nat}{d:DS}(F:Fun K x x st f fd)(hm:mg x=some (.ref f))(S:FnScope N ps (af st))
  (hb:∀(kV doc pm:Value)(an:Option Addr)(cdv ct:Value)(us:List Value),us.length=ps.length→bindArgs (aaF x x (ck st) (aS st) (af st) .none kV doc pm an cdv ct) ⟨us,[]⟩=pure (ps.zip us))
  (hbody:∀(cdv:Value)(A:Around)(outer:List Env)(s:Shared)(H Hs:Hp)(E:XK),Room k (A.deeper (envOfC x (af st) s.heap.objs.size f cdv)) →
   QSs (gP (CXG P w) P w K mg base N x (af st) f cdv A outer s H E).nox H Hs (aS st) d):
  FunIn P w K mg base x (k+1) (bz ps.length N.length d):=
 ⟨f,fd,ps,hm,F.kp,F.binds hb,fun qs h=>oM h,xW F S hbody⟩
theorem FunIn.is{x:Str}{j:Nat}{m:List PV→Res PV}{X:Cx}{k:Nat}(F:FunIn X.prog X.w X.K X.mg X.base x j m)(hr:Room k X.A)(h:j≤k:=by decide):FunIs X x m:=by
 obtain⟨a,fd,ps,h1,h2,h3,h4,h5⟩:=F.ex
 exact⟨a,fd,ps,j,h1,h2,h3,hr.mono h,h4,h5⟩
structure DefAt (K:aT) (x:Str) (st:Stmt):Prop where
 ex:∃(f:Addr)(fd:FuncData),aak K mainGlobals x=some (some (.ref f))∧Fun K x x st f fd
theorem aW{x:Str}{st:Stmt}{f:Addr}{oc:Value}{od an:Option Addr}{osl:Array (Option Value)}{kV doc pm cdv ct:Value}(a:aak K mainGlobals x=some (some (.ref f)))
  (l:K.lookup f=some ⟨oc,od,.func (aaF x x (ck st) (aS st) (af st) .none kV doc pm an cdv ct),osl⟩) (c:abo K cdv x=true) (k:aaE K (.ref f)=true):DefAt K x st:=
 ⟨f,_,a,sy l c k⟩
theorem xA{l:PySem.W.OpenLaw}{q:Program}{loose:List Str}{XP:(Str→Option Value)→Heap→Prop}{YP:World→Heap→Prop}{d:DefRec}{K:Params→aT}{k:Nat}{m:List PV→Res PV}(hn:l.most=some 63)(hdf:d.params.defaults=[])
  (hr:Room k callerA) (hY:∀(w:World) (h:Heap),YP w h→(K w.params).In h) (hd:d.name = "law")
  (F:∀(w:World)(mg:Str→Option Value)(h:Heap),(K w.params).In h→h.Ns mainGlobals mg →
   ∃(a:Addr) (fd:FuncData),mg "law" = some (.ref a)∧(∀(s:Shared) (u:Value),BindsTo s fd ⟨[u],[]⟩ [("script",u)])∧∀base:Heap,(K w.params).In base→base.Ns mainGlobals mg→FnOk l.prog w (K w.params) mg base (CXG l.prog w) k a fd ["script"] (Fsp (K w.params) 1 m))
  (hm:∀ns:List Int,ns.length≤63→m [.scr ns]=.ok (.bl true)):
  PySem.W.WalkO q loose XP YP l.row.toRowW d [] (fun f vs=>PySem.call f vs):=by
 refine L2.yU (n:=63) (k:=k) (x:="script") (CX:=fun w=>CXG l.prog w) (sp:=fun w=>Fsp (K w.params) 1 m) hn (by decide) hdf hr hY (fun w mg fa h KX G hmg=>?_) (fun w H a ns hl _ hS=>?_) fun _ _ _ _ _ ⟨_,_,_,_,_,_,_,_,_,_,_,z⟩=>z
 ·obtain⟨a,fd,h1,h2,h3⟩:=F w mg h KX G
  rw[hd,h1]at hmg
  cases hmg
  exact⟨fd,h2,h3⟩
 ·refine⟨rfl,H,[.scr ns],aL.refl _,.cons (.scr hS) .nil,?_⟩
  rw[hm ns hl]
  exact fun v Hs' H' g r=>r.bl_inv
end
def noStar:Expr→Bool
 |.Starred _ _=>false
 |_=>true
def jU:Expr→Bool
 |.ListComp ..=>false
 |.SetComp ..=>false
 |.DictComp ..=>false
 |_=>true
def fN:Expr→Bool
 |.Set ..=>false
 |_=>true
def oY:Expr→Bool
 |.Slice ..=>false
 |_=>true
def sW:Expr→Bool
 |.UnaryOp ..=>false
 |.BoolOp ..=>false
 |.IfExp ..=>false
 |.Compare ..=>false
 |_=>true
theorem aA{a:Expr}{es:List Expr}{env:Env}(h:noStar a=true):starEach (a::es) env=(false,eval a env)::starEach es env:=by
 cases a<;>first|rfl|cases h
theorem fc{es:List Expr}{env:Env}{pos:Pos}(h:es.all noStar=true):(backTo pos (starEach es env)).any (·.1)=false:=by
 induction es with
 |nil=>rfl
 |cons a es ih=>
  rw[List.all_cons,aay]at h
  rw[aA h.1]
  show((false||(backTo pos (starEach es env)).any (·.1))=false)
  rw[ih h.2];rfl
theorem f9{a:Expr}{t:Option Expr}{n:Nat}{env:Env}(h:jU a=true):swapsWith a t n env=pure false:=by
 cases a<;>first|rfl|cases h
theorem pR{a t:Expr}{n:Nat}{env:Env}(h:jU a=true):swapsWithSole [t] a n env=pure false:=f9 h
theorem jC{a:Expr}{env:Env}(h:fN a=true):∀x,foldedSetIterable a env x=pure x:=by
 intro x
 cases a<;>first|rfl|cases h
theorem p9{b:Expr}(h:oY b=true):kU b:=by
 intro o i
 cases b<;>first|rfl|cases h
theorem vL{a:Expr}{env:Env}(h:sW a=true):∀whole,isTrue a env whole=(do let v ←whole;standAt a.pos;holding [v] (truthy v)):=by
 intro whole
 cases a<;>first | (cases h;done) | (unfold isTrue;rfl)|rfl
theorem jr{op:CmpOp}{b:Expr}(h:fN b=true):behindInMarks op b=false:=by
 cases b<;>first|rfl|cases h
section
variable (X:Cx)(H0 Hs0:Hp)
structure XE (e:Expr) (d:DE):Prop where h:QE X H0 Hs0 e d
structure XA (e:List Expr) (d:DA):Prop where h:QA X H0 Hs0 e d
structure XT (e:Expr) (d:DT):Prop where h:QT X H0 Hs0 e d
structure XW (e:Expr) (d:DT):Prop where h:QW X H0 Hs0 e d
structure XS (e:Stmt) (d:DS):Prop where h:QS X H0 Hs0 e d
structure XB (e:List Stmt) (d:DS):Prop where h:QSs X H0 Hs0 e d
structure XI (tg e:Expr) (d:DI):Prop where h:QI X H0 Hs0 tg e d
structure XG (e:Expr) (d:DG):Prop where h:QG X H0 Hs0 e d
structure XGs (e:List Expr) (d:List Nat):Prop where h:QGs X H0 Hs0 e d
structure XO (e:Option Expr) (d:DO):Prop where h:QO X H0 Hs0 e d
end
theorem aB{A:Around}{k:Nat}(hr:Room k A):A.units+20<cLine:=by have:=hr.un;omega
theorem pD:bootBuiltins "abs" = some (.builtin "abs"):=by decide +kernel
theorem Dx:bootBuiltins "max" = some (.builtin "max"):=by decide +kernel
theorem Dw:bootBuiltins "min" = some (.builtin "min"):=by decide +kernel
theorem yz:bootBuiltins "int" = some (.type "int"):=by decide +kernel
theorem ur:bootBuiltins "bool" = some (.type "bool"):=by decide +kernel
theorem uq:bootBuiltins "list" = some (.type "list"):=by decide +kernel
theorem yy:bootBuiltins "str" = some (.type "str"):=by decide +kernel
theorem xE:"int"∈cG:=by decide
theorem tW:"bool"∈cG:=by decide
theorem xD:"str"∈cG:=by decide
structure Bi (mg:Str→Option Value):Prop where
 abs:mg "abs" = none
 len:mg "len" = none
 range:mg "range" = none
 max:mg "max" = none
 min:mg "min" = none
 isinstance:mg "isinstance" = none
 int:mg "int" = none
 bool:mg "bool" = none
 tuple:mg "tuple" = none
 list:mg "list" = none
 str:mg "str" = none
 dict:mg "dict" = none
 sorted:mg "sorted" = none
 set:mg "set" = none
 reversed:mg "reversed" = none
 zip:mg "zip" = none
 enumerate:mg "enumerate" = none
 all:mg "all" = none
 any:mg "any" = none
section
variable {X:Cx}{H0 Hs0:Hp}{a b c:Expr}{da db dc:DE}{pos:Pos}{ta tb:DT}{es rest:List Expr}{ra:DA}{st:Stmt}{sts ss2:List Stmt}{d1 d2:DS}
theorem xv (i:Nat) {x:Str} (hN:X.N[i]? = some x:=by rfl) (hv:Vis X.env.scope x:=by first|exact Or.inl rfl|exact Or.inr (Or.inl rfl)|exact Or.inr (Or.inr rfl)) (hd:(x==("__debug__":Str))=false:=by decide)
  (hcd:(x==("__classdict__":Str))=false:=by decide):XE X H0 Hs0 (.Name x pos) (ae i):=⟨wC hN hv hd hcd⟩
theorem ah{i j}:XE X H0 Hs0 (.Constant (.int i) j pos) (eC (.int i)):=⟨EG⟩
theorem xbl{b j}:XE X H0 Hs0 (.Constant (.bool b) j pos) (eC (.bl b)):=⟨Gs⟩
theorem mI{j}:XE X H0 Hs0 (.Constant .none j pos) (eC .non):=⟨EA⟩
theorem vF{x j}:XE X H0 Hs0 (.Constant (.str x) j pos) (eC (.str x)):=⟨Ew⟩
theorem xop{op:Operator}{g:PV→PV→Res PV}(ho:OpP X (binaryOp op) g)(ha:XE X H0 Hs0 a da)(hb:XE X H0 Hs0 b db):XE X H0 Hs0 (.BinOp a op b pos) (e2 g da db):=⟨Gr ho ha.h hb.h⟩
theorem uv(ha:XE X H0 Hs0 a da):XE X H0 Hs0 (.UnaryOp .USub a pos) (e1 ky da):=⟨EB ha.h⟩
theorem Bo(ha:XE X H0 Hs0 a da):XE X H0 Hs0 (.UnaryOp .Not a pos) (e1 uW da):=⟨Ez ha.h⟩
theorem vJ{op:CmpOp}{g:PV→PV→Res PV}(ho:OpP X (compareOp op) g)(ha:XE X H0 Hs0 a da)(hb:XE X H0 Hs0 b db)(hm:fN b=true:=by rfl):XE X H0 Hs0 (.Compare a [op] [b] pos) (e2 g da db):=⟨EI ho ha.h hb.h (jr hm)⟩
theorem Bn{op:BoolOp}(ha:XE X H0 Hs0 a da):XE X H0 Hs0 (.BoolOp op [a] pos) da:=⟨Ey ha.h⟩
theorem Br(ha:XE X H0 Hs0 a da)(hb:XE X H0 Hs0 (.BoolOp .And (b::rest) pos) db):XE X H0 Hs0 (.BoolOp .And (a::b::rest) pos) (qF da db):=⟨EJ ha.h hb.h⟩
theorem xa0:XA X H0 Hs0 [] ag:=⟨wB⟩
theorem xa(ha:XE X H0 Hs0 a da)(hr:XA X H0 Hs0 es ra)(hs:noStar a=true:=by rfl):XA X H0 Hs0 (a::es) (aa da ra):=⟨ti ha.h hr.h (aA hs)⟩
theorem b7{x1}(h:XA X H0 Hs0 es ra):XE X H0 Hs0 (.Tuple es x1 pos) (eA bB ra):=⟨Eu h.h⟩
theorem d4(h:XA X H0 Hs0 es ra):XE X H0 Hs0 (.List es pos) (eA cb ra):=⟨EC h.h⟩
theorem xcB{x:Str}{id:String}{p:Pos}{e:Expr}{g:List PV→Res PV}(hc:f6 X (.builtin id) g)(hm:X.mg x=none)(hv:bootBuiltins x=some (.builtin id))(ha:XA X H0 Hs0 (e::es) ra)(hg:Gl X x:=by rfl)
  (hn:x≠"__name__":=by decide) (hdb:(x==("__debug__":Str))=false:=by decide) (he:noStar e=true:=by rfl) (hpl:es.all noStar=true:=by rfl):
  XE X H0 Hs0 (.Call (.Name x p) (e::es) [] pos) (eA g ra):=⟨tj hc hg hm hv ha.h hn hdb (aA he) (fc hpl)⟩
theorem xcT{x:Str}{T:String}{p:Pos}{e:Expr}{g:List PV→Res PV}(hc:f6 X (.type T) g)(hm:X.mg x=none)(hv:bootBuiltins x=some (.type T))(ha:XA X H0 Hs0 (e::es) ra)(hg:Gl X x:=by rfl)
  (hn:x≠"__name__":=by decide) (hdb:(x==("__debug__":Str))=false:=by decide) (he:noStar e=true:=by rfl) (hpl:es.all noStar=true:=by rfl):
  XE X H0 Hs0 (.Call (.Name x p) (e::es) [] pos) (eA g ra):=⟨wD hc hg hm hv ha.h hn hdb (aA he) (fc hpl)⟩
theorem xcF{x:Str}{p:Pos}{e:Expr}{m:List PV→Res PV}(F:FunIs X x m)(ha:XA X H0 Hs0 (e::es) ra)(hg:Gl X x:=by rfl)
  (hdb:(x==("__debug__":Str))=false:=by decide) (he:noStar e=true:=by rfl) (hpl:es.all noStar=true:=by rfl):
  XE X H0 Hs0 (.Call (.Name x p) (e::es) [] pos) (eA (fun ps=>G.noErr (m ps)) ra):=⟨B8 F hg ha.h hdb (aA he) (fc hpl)⟩
theorem xcI {T:String} {x:Str} {p1 p2:Pos} (ha:XE X H0 Hs0 a da) (hT:T∈cG) (hx:bootBuiltins x=some (.type T)) (hm:X.mg "isinstance" = none) (hm2:X.mg x=none) (hg:Gl X "isinstance":=by rfl) (hg2:Gl X x:=by rfl) (hn:x≠"__name__":=by decide)
  (hdb:(x==("__debug__":Str))=false:=by decide) (h1:noStar a=true:=by rfl):XE X H0 Hs0 (.Call (.Name "isinstance" p1) [a,.Name x p2] [] pos) (e1 (gM T) da):=⟨EF ha.h hT hx hg hm hg2 hm2 hn hdb (aA h1) rfl rfl⟩
theorem xiV (k:Nat) {x:Str} {np:Pos} (hb:XE X H0 Hs0 b db) (hN:X.N[k]? = some x:=by rfl) (hv:Vis X.env.scope x:=by first|exact Or.inl rfl|exact Or.inr (Or.inl rfl)|exact Or.inr (Or.inr rfl)) (hd:(x==("__debug__":Str))=false:=by decide)
  (hcd:(x==("__classdict__":Str))=false:=by decide) (hs:oY b=true:=by rfl):XE X H0 Hs0 (.Subscript (.Name x np) b pos) (aw k db):=⟨ED hN hv hd hcd hb.h (p9 hs)⟩
theorem xiX(ha:XE X H0 Hs0 a da)(hb:XE X H0 Hs0 b db)(hs:oY b=true:=by rfl):XE X H0 Hs0 (.Subscript a b pos) (e2 pIx da db):=⟨EE ha.h hb.h (p9 hs)⟩
theorem xlV (k:Nat) {x:Str} {np p:Pos} (hm:X.mg "len" = none) (hN:X.N[k]? = some x:=by rfl) (hv:Vis X.env.scope x:=by first|exact Or.inl rfl|exact Or.inr (Or.inl rfl)|exact Or.inr (Or.inr rfl)) (hd:(x==("__debug__":Str))=false:=by decide)
  (hcd:(x==("__classdict__":Str))=false:=by decide) (hg:Gl X "len":=by rfl):XE X H0 Hs0 (.Call (.Name "len" p) [.Name x np] [] pos) (gG k):=⟨B4 hN hv hd hcd hg hm rfl rfl⟩
theorem xo0:XO X H0 Hs0 none oNo:=⟨zu⟩
theorem xo(ha:XE X H0 Hs0 a da):XO X H0 Hs0 (some a) (oE da):=⟨zt ha.h⟩
theorem xsl{lo hi:Option Expr}{dl dh:DO}{p2:Pos}(ha:XE X H0 Hs0 a da)(hl:XO X H0 Hs0 lo dl)(hh:XO X H0 Hs0 hi dh):XE X H0 Hs0 (.Subscript a (.Slice lo hi none p2) pos) (eSl da dl dh):=⟨zy ha.h hl.h hh.h⟩
theorem xtc{op:CmpOp}{g:PV→PV→Res PV}(ho:OpP X (compareOp op) g)(ha:XE X H0 Hs0 a da)(hb:XE X H0 Hs0 b db)(hm:fN b=true:=by rfl):XT X H0 Hs0 (.Compare a [op] [b] pos) (tV (e2 g da db)):=⟨BN ho ha.h hb.h (jr hm)⟩
theorem xtv(ha:XE X H0 Hs0 a da)(he:sW a=true:=by rfl):XT X H0 Hs0 a (tV da):=⟨BL ha.h (vL he)⟩
theorem xtn(ha:XT X H0 Hs0 a ta):XT X H0 Hs0 (.UnaryOp .Not a pos) (G.dm ta):=⟨BM ha.h⟩
theorem sU(ha:XT X H0 Hs0 a ta):XW X H0 Hs0 (.BoolOp .And [a] pos) ta:=⟨zm ha.h⟩
theorem qT(ha:XT X H0 Hs0 a ta):XW X H0 Hs0 (.BoolOp .Or [a] pos) ta:=⟨BJ ha.h⟩
theorem sT(ha:XT X H0 Hs0 a ta)(hb:XW X H0 Hs0 (.BoolOp .And (b::rest) pos) tb):XW X H0 Hs0 (.BoolOp .And (a::b::rest) pos) (G.kq ta tb):=⟨BK ha.h hb.h⟩
theorem ko(ha:XT X H0 Hs0 a ta)(hb:XW X H0 Hs0 (.BoolOp .Or (b::rest) pos) tb):XW X H0 Hs0 (.BoolOp .Or (a::b::rest) pos) (G.tOr ta tb):=⟨Es ha.h hb.h⟩
theorem xw(h:XW X H0 Hs0 a ta):XT X H0 Hs0 a ta:=⟨QW.qt h.h⟩
theorem xb0:XB X H0 Hs0 [] bo:=⟨zp⟩
theorem xb1(h1:XS X H0 Hs0 st d1):XB X H0 Hs0 [st] d1:=⟨zo h1.h⟩
theorem xb(h1:XS X H0 Hs0 st d1)(h2:XB X H0 Hs0 sts d2):XB X H0 Hs0 (st::sts) (az d1 d2):=⟨wo h1.h h2.h⟩
theorem bu(ha:XE X H0 Hs0 a da):XS X H0 Hs0 (.Return (some a) pos) (aY da):=⟨BQ ha.h⟩
theorem iW:XS X H0 Hs0 st (fun _=>.stuck):=⟨QS.stuck⟩
theorem eL(hc:XT X H0 Hs0 c ta)(h1:XB X H0 Hs0 sts d1)(h2:XB X H0 Hs0 ss2 d2):XS X H0 Hs0 (.If c sts ss2 pos) (sIf ta d1 d2):=⟨Et hc.h h1.h h2.h⟩
theorem br(i:Nat){x:Str}{pos':Pos}(ha:XE X H0 Hs0 a da)(hN:X.N.Nodup:=by assumption)(hi:X.N[i]? = some x:=by rfl)(hx:Loc X.env.scope x:=by first|exact Or.inl rfl|exact Or.inr rfl)(hs:jU a=true:=by rfl)
  (hf:X.fn x=true∨X.env.scope.names.lookup x=some .local:=by first|exact Or.inl rfl|exact Or.inr rfl):XS X H0 Hs0 (.Assign [.Name x pos'] a pos) (aO i da):=⟨BO hN hi hx ha.h (f9 hs) hf⟩
theorem vH(i:Nat){x:Str}{lp pos':Pos}(ha:XA X H0 Hs0 es ra)(hN:X.N.Nodup:=by assumption)(hi:X.N[i]? = some x:=by rfl)(hx:Loc X.env.scope x:=by first|exact Or.inl rfl|exact Or.inr rfl)
  (hf:X.fn x=true∨X.env.scope.names.lookup x=some .local:=by first|exact Or.inl rfl|exact Or.inr rfl):XS X H0 Hs0 (.Assign [.Name x pos'] (.List es lp) pos) (lH i ra):=⟨BU hN hi hx ha.h (f9 rfl) hf⟩
theorem FW(i j:Nat){x y:Str}{px py pt:Pos}{kt k2 pt2}(ha:XA X H0 Hs0 [a,b] ra)(hN:X.N.Nodup:=by assumption)(hc:X.calm=true:=by rfl)(hi:X.N[i]? = some x:=by rfl)(hj:X.N[j]? = some y:=by rfl)(hij:i≠j:=by decide)
  (hx:X.env.scope.names.lookup x=some .local:=by rfl) (hy:X.env.scope.names.lookup y=some .local:=by rfl)
  (hw:swappedStores [.Tuple [.Name x px,.Name y py] kt pt] (.Tuple [a,b] k2 pt2) X.env=pure (some [x,y]):=by rfl):
  XS X H0 Hs0 (.Assign [.Tuple [.Name x px,.Name y py] kt pt] (.Tuple [a,b] k2 pt2) pos) (v3 i j ra):=⟨BS hc hN hi hj hij hx hy ha.h hw (pR (a:=.Tuple [a,b] k2 pt2) rfl)⟩
theorem om(hp:PassesOwn (model X.prog X.w) X.A X.env X.xe)(hc:XT X H0 Hs0 c ta)(hb:XB X H0 Hs0 sts d1):XS X H0 Hs0 (.While c sts [] pos) (bN ta d1):=⟨wq hp hc.h hb.h⟩
theorem xgn(i:Nat){x:Str}(hN:X.N.Nodup:=by assumption)(hi:X.N[i]? = some x:=by rfl)(hx:Loc X.env.scope x:=by first|exact Or.inl rfl|exact Or.inr rfl)(hf:X.fn x=true∨X.env.scope.names.lookup x=some .local:=by first|exact Or.inl rfl|exact Or.inr rfl):XG X H0 Hs0 (.Name x pos) (gN i):=⟨zw hN hi hx hf⟩
theorem gQ{tg:Expr}(ha:XE X H0 Hs0 a da):XI X H0 Hs0 tg a (itE da):=⟨B0 ha.h⟩
theorem xr1 {tg:Expr} {p:Pos} (hm:X.mg "range" = none) (ha:XA X H0 Hs0 [a] ra) (hg:Gl X "range":=by rfl) (hs:noStar a=true:=by rfl):XI X H0 Hs0 tg (.Call (.Name "range" p) [a] [] pos) (itR fV ra):=⟨uO hg hm ha.h (aA hs)⟩
theorem xr3 {tg:Expr} {p:Pos} (hm:X.mg "range" = none) (ha:XA X H0 Hs0 [a,b,c] ra) (hg:Gl X "range":=by rfl) (hs:noStar a=true:=by rfl) (hs2:noStar b=true:=by rfl) (hs3:noStar c=true:=by rfl):
  XI X H0 Hs0 tg (.Call (.Name "range" p) [a,b,c] [] pos) (itR fU ra):=⟨uN hg hm ha.h (by rw[aA hs,aA hs2,aA hs3];rfl) (by rw[aA hs2,aA hs3];rfl)⟩
theorem mJ{tg iter:Expr}{d:DI}{g:DG}{bb:DS}(hp:PassesOwn (model X.prog X.w) X.A X.env X.xe)(hi:XI X H0 Hs0 tg iter d)(hg:XG X H0 Hs0 tg g)(hb:XB X H0 Hs0 sts bb)(hc:X.calm=true:=by rfl)(hs:fN iter=true:=by rfl):
  XS X H0 Hs0 (.For tg iter sts [] pos) (gK d g bb):=⟨BW hp hc hi.h hg.h hb.h (jC hs)⟩
end
section
variable {P:Program}{w:World}{K:aT}{mg:Str→Option Value}{base h:Heap}
theorem a6{x:Str}{st:Stmt}{N ps:List Str}{k:Nat}{d:DS}(D:DefAt K x st)(KI:K.In h)(GN:h.Ns mainGlobals mg)(S:FnScope N ps (af st))
  (hb:∀(kV doc pm:Value)(an:Option Addr)(cdv ct:Value)(us:List Value),us.length=ps.length→bindArgs (aaF x x (ck st) (aS st) (af st) .none kV doc pm an cdv ct) ⟨us,[]⟩=pure (ps.zip us))
  (hbody:∀(f:Addr)(cdv:Value)(A:Around)(outer:List Env)(s:Shared)(H Hs:Hp)(E:XK),Room k (A.deeper (envOfC x (af st) s.heap.objs.size f cdv)) →
   XB (gP (CXG P w) P w K mg base N x (af st) f cdv A outer s H E).nox H Hs (aS st) d):FunIn P w K mg base x (k+1) (bz ps.length N.length d):=by
 obtain⟨f,fd,a,F⟩:=D.ex
 exact Dc F (abI KI GN a) S hb fun cdv A outer s H Hs E hr=>(hbody f cdv A outer s H Hs E hr).h
end
theorem CU {P:Program} {w:World} {K:aT} {mg:Str→Option Value} {h:Heap} {st:Stmt} {k:Nat} {m:List PV→Res PV} (D:DefAt K "law" st) (KI:K.In h) (GN:h.Ns mainGlobals mg)
  (hb:∀(kV doc pm:Value) (an:Option Addr) (cdv ct:Value) (us:List Value),us.length=(["script"]:List Str).length→bindArgs (aaF "law" "law" (ck st) (aS st) (af st) .none kV doc pm an cdv ct) ⟨us,[]⟩=pure ((["script"]:List Str).zip us))
  (all:∀(base:Heap) (f:Addr) (fd:FuncData),Fun K "law" "law" st f fd→FnOk P w K mg base (CXG P w) k f fd ["script"] (Fsp K 1 m)):
  ∃(a:Addr) (fd:FuncData),mg "law" = some (.ref a)∧(∀(s:Shared) (u:Value),BindsTo s fd ⟨[u],[]⟩ [("script",u)])∧∀base:Heap,K.In base→base.Ns mainGlobals mg→FnOk P w K mg base (CXG P w) k a fd ["script"] (Fsp K 1 m):=by
 obtain⟨f,fd,a,F⟩:=D.ex
 have hm:=abI KI GN a
 have F0:=F
 obtain⟨oc,od,kV,doc,pm,an,cdv,ct,osl,rfl,lk,hcd⟩:=F.ex
 exact⟨f,_,hm,fun s u=>.of_eq (hb kV doc pm an cdv ct [u] rfl),fun base _ _=>all base f _ F0⟩
theorem CV {P:Program} {w:World} {K:aT} {mg:Str→Option Value} {base:Heap} {st:Stmt} {f:Addr} {fd:FuncData} {N:List Str} {k:Nat} {d:DS} (F:Fun K "law" "law" st f fd) (S:FnScope N ["script"] (af st))
  (hbody:∀(cdv:Value) (A:Around) (outer:List Env) (s:Shared) (H Hs:Hp) (E:XK),Room k (A.deeper (envOfC "law" (af st) s.heap.objs.size f cdv)) →
   XB (gP (CXG P w) P w K mg base N "law" (af st) f cdv A outer s H E).nox H Hs (aS st) d):FnOk P w K mg base (CXG P w) (k+1) f fd ["script"] (Fsp K 1 (bz 1 N.length d)):=
 xW F S fun cdv A outer s H Hs E hr=>(hbody cdv A outer s H Hs E hr).h
def eJ(cells:List (Str×Addr)):List (Str×NameKind)→List (Str×Addr)→Option (List (Str×Addr))
 |[],acc=>some acc
 | (n,k)::r,acc=>if k = .free then (match cells.lookup n with
   |some a=>eJ cells r ((n,a)::acc)
   |none=>none) else eJ cells r acc
theorem j0{env:Env}:∀(names:List (Str×NameKind))(acc cl:List (Str×Addr)),eJ env.cells names acc=some cl →
  (forIn names acc fun x r=>(match x with | (name,kind)=>if (kind==NameKind.free)=true then do let a ←cellOf env name;pure (ForInStep.yield ((name,a)::r)) else pure (ForInStep.yield r):Sem (ForInStep (List (Str×Addr)))))=pure cl
 |[],acc,cl,h=>by
  have:acc=cl:=Option.some.inj h
  subst this
  rfl
 | (n,k)::r,acc,cl,h=>by
  rw[List.forIn_cons]
  unfold eJ at h
  by_cases hk:k=.free
  ·subst hk
   rw[if_pos rfl]at h
   split at h
   ·rename_i a ha
    have ih:=j0 r ((n,a)::acc) cl h
    simp only[beq_self_eq_true,if_true,cellOf,ha,pure_bind]
    exact ih
   ·cases h
  ·rw[if_neg hk]at h
   have hk':(k==NameKind.free)=false:=by simpa using hk
   have ih:=j0 r acc cl h
   simp only[hk',iN,if_false,pure_bind]
   exact ih
theorem my{env:Env}{scope:Scope}{cl:List (Str×Addr)}(h:eJ env.cells scope.names []=some cl):closureFor scope env=pure cl:=by
 unfold closureFor
 have:=j0 (env:=env) scope.names [] cl h
 exact(congrArg (fun t=>t >>= fun cs=>pure cs) this).trans (by rfl)
theorem ie{cells:List (Str×Addr)}:∀(names:List (Str×NameKind))(acc cl:List (Str×Addr)),(∀x c,acc.lookup x=some c→cells.lookup x=some c)→eJ cells names acc=some cl→∀x c,cl.lookup x=some c→cells.lookup x=some c
 |[],acc,cl,ha,h,x,c,e=>by
  have:acc=cl:=Option.some.inj h
  subst this
  exact ha x c e
 | (n,k)::r,acc,cl,ha,h,x,c,e=>by
  unfold eJ at h
  split at h
  ·split at h
   ·rename_i a hn
    refine ie r _ cl (fun y d hy=>?_) h x c e
    rw[aam]at hy
    split at hy
    ·rename_i hb
     have:y=n:=by simpa using hb
     subst this
     cases hy
     exact hn
    ·exact ha y d hy
   ·cases h
  ·exact ie r acc cl ha h x c e
@[reducible] def cxC(X:Cx)(pins:List (Addr×Obj))(scope:Scope)(cl:List (Str×Addr))(C:Addr)(N:List Str)(fp:List Addr)(s:Shared)(H:Hp):Cx:=
 { X with env:=compEnvC scope cl C X.env,N:=N,s₀:=s,H₀:=H,outer:=X.stack,stack:=X.stack,ex:=fp,fn:=fun _=>false,pn:=X.pn++pins,xe:=fun _ _=>False }
def inn(k:Nat)(ix:List Nat)(σ:PSt):PSt:=aaS k none++ix.map fun i=>match σ[i]? with
 |some (some (.sh p))=>some (.sh p)
 |_=>none
def jX(k:Nat)(ix:List Nat)(τ:L2.St):L2.St:=aaS k none++ix.map fun i=>(τ[i]?).join
theorem nD{α:Type}{k j:Nat}{x:α}(h:(aaS k (none:Option α))[j]? = some (some x)):False:=by
 rw[aby]at h
 split at h<;>cases h
theorem kQ{k:Nat}{ix:List Nat}{σ:PSt}{j:Nat}{sv:SV}(h:(inn k ix σ)[j]? = some (some sv)):∃i p,k≤j∧ix[j-k]? = some i∧σ[i]? = some (some (.sh p))∧sv=.sh p:=by
 unfold inn at h
 by_cases hj:j<k
 ·rw[aax (by simpa using hj)]at h
  exact(nD h).elim
 ·rw[aaB (by simpa using hj),aa5,aae]at h
  cases e:ix[j-k]? with
  |none=>rw[e]at h;cases h
  |some i=>
   rw[e]at h
   have h':(match σ[i]? with
    |some (some (.sh p))=>some (.sh p)
    |_=>none)=some sv:=Option.some.inj h
   split at h'
   ·rename_i p ep
    cases h'
    exact⟨i,p,by omega,rfl,ep,rfl⟩
   ·cases h'
theorem Al{k:Nat}{ix:List Nat}{τ:L2.St}{j i:Nat}{v:V}(hj:k≤j)(e:ix[j-k]? = some i)(h:τ[i]? = some (some v)):(jX k ix τ)[j]? = some (some v):=by
 unfold jX
 rw[aaB (by simpa using hj),aa5,aae,e]
 show some ((τ[i]?).join)=_
 rw[h];rfl
theorem xN{k:Nat}{ix:List Nat}{τ:L2.St}{j:Nat}{v:V}(h:(jX k ix τ)[j]? = some (some v)):∃i,k≤j∧ix[j-k]? = some i∧τ[i]? = some (some v):=by
 unfold jX at h
 by_cases hj:j<k
 ·rw[aax (by simpa using hj)]at h
  exact(nD h).elim
 ·rw[aaB (by simpa using hj),aa5,aae]at h
  cases e:ix[j-k]? with
  |none=>rw[e]at h;cases h
  |some i=>
   rw[e]at h
   have h':(τ[i]?).join=some v:=Option.some.inj h
   refine⟨i,by omega,rfl,?_⟩
   cases q:τ[i]? with
   |none=>rw[q]at h';cases h'
   |some z=>rw[q]at h';exact congrArg some h'
theorem SR.inn{K:aT}{H0 Hs0 Hs H:Hp}{σ:PSt}{τ:L2.St}(S:SR K H0 Hs0 Hs H σ τ)(k:Nat)(ix:List Nat):SR K H Hs Hs H (G.inn k ix σ) (jX k ix τ):=by
 refine⟨.refl S.g.i,fun j sv e=>?_,fun j l xs ys a _ e1=>?_,by simp[G.inn,jX]⟩
 ·obtain⟨i,p,hj,e1,e2,rfl⟩:=kQ e
  obtain⟨v,e3,r⟩:=S.slot i _ e2
  exact⟨v,Al hj e1 e3,r⟩
 ·obtain⟨_,_,_,_,_,z⟩:=kQ e1
  cases z
structure CompOk (X:Cx) (scope:Scope) (cl:List (Str×Addr)) (N:List Str) (k:Nat) (ix:List Nat):Prop where
 kind:scope.kind=.function
 nocell:∀y∈scope.names,y.2≠.cell
 names:∀y∈scope.names,y.2=.local→scope.names.lookup y.1=some .local
 clos:eJ X.env.cells scope.names []=some cl
 has:∀x,((relabel scope X.env).names.lookup x=some .cell∨(relabel scope X.env).names.lookup x=some .free)→∃c,cl.lookup x=some c
 nd:N.Nodup
 len:N.length=k+ix.length
 at':∀(j i:Nat)(x:Str),ix[j]? = some i→N[k+j]? = some x→X.N[i]? = some x∧X.env.kindOf x=some .cell∧((relabel scope X.env).names.lookup x=some .cell∨(relabel scope X.env).names.lookup x=some .free)
section
variable {X:Cx}{pins:List (Addr×Obj)}{H0 Hs0 Hs H:Hp}{σ:PSt}{τ:L2.St}{s:Shared}
theorem kK(I:Inv X pins τ H s){p:Addr}(h1:p≠X.env.locals)(h2:p∉X.fs):p∉frs X.stack:=fun h=>(List.mem_cons.mp (I.stkSub p h)).elim h1 h2
theorem qv{scope:Scope}{cl:List (Str×Addr)}{N:List Str}{k:Nat}{ix:List Nat}{fp:List Addr}{h4:Heap}{t4:Nat}(I:Inv X pins τ H s)(O:CompOk X scope cl N k ix)(hcalm:X.calm=true)
  (hfp:∀b∈fp,fG X pins H b) (hfl:∀b∈fp,b<s.heap.objs.size) (hns:h4.Ns s.heap.objs.size (fun _=>none)) (hk:∀b o,s.heap.get? b=some o→h4.get? b=some o):
  Inv (cxC X pins scope cl s.heap.objs.size N fp s H) [] (jX k ix τ) H { s with heap:=h4,toks:=t4 }:=by
 have sub:=ie (cells:=X.env.cells) scope.names [] cl (fun x c e=>by cases e) O.clos
 have lt:∀{b:Addr}{o:Obj},s.heap.get? b=some o→b≠s.heap.objs.size:=fun e=>aab (iD e)
 have celln:∀x c,cl.lookup x=some c→c≠s.heap.objs.size:=fun x c e=>by
  obtain⟨v,o,ho,_⟩:=I.cell x c (sub x c e)
  exact lt ho
 refine⟨⟨I.ok.mod,?_,I.ok.glob,I.ok.blt,gO _,fun x y c e1 e2=>I.ok.inj x y c (sub x c e1) (sub y c e2),fun x hx=>O.has x hx,fun x c hf=>?_,I.ok.hd,I.ok.frames,.inl rfl,fun b hb=>⟨?_,fun x c e=>(hfp b hb).2.2.2.2.1 x c (sub x c e)⟩,I.bs,iS I.ok.bsz I.sz,fun b o e hb=>?_,fun b hb=>kK I (hfp b hb).2.1 (hfp b hb).2.2.1,I.stack,I.stkFree⟩,
  rfl,I.bare,Un.kept hk,⟨_,hns,fun j x v e1 e2 e3=>?_⟩,fun x c e=>?_,I.hok.fresh (gO _),fun x c e=>I.freeC x c (sub x c e),fun p hp=>?_,I.hok.kept hk,?_⟩
 ·show(relabel scope X.env).kind=.function
  exact O.kind
 ·cases hf
 ·exact aab (hfl b hb)
 ·have e':=I.bs b o e
  obtain⟨f0,f1,f2,f3,_⟩:=hfp b hb
  rcases f3 with z|z
  ·exact I.ok.noex b o e z
  ·have:=(I.ok.bs b o e).1
   exact absurd (aal (iD this) z) (aaR _)
 ·obtain⟨i,hj,ei,eτ⟩:=xN e2
  have ex:N[k+(j-k)]? = some x:=by rw[show k+(j-k)=j by omega];exact e1
  obtain⟨a1,a2,a3⟩:=O.at' (j-k) i x ei ex
  obtain⟨m,hn,hl⟩:=I.loc
  obtain⟨u,r,l⟩:=hl i x v a1 eτ (.inr (.inl a2))
  refine⟨u,r,?_⟩
  rcases l with ⟨q,_⟩|⟨q,c,ec,z⟩
  ·rw[a2]at q;cases q
  ·obtain⟨c',ec'⟩:=O.has x a3
   have:c'=c:=Option.some.inj ((sub x c' ec').symm.trans ec)
   subst this
   obtain⟨o,ho,hd⟩:=z
   exact .inr ⟨a3,c',ec',o,hk _ _ ho,hd⟩
 ·obtain⟨v,o,ho,hd⟩:=I.cell x c (sub x c e)
  exact⟨v,o,hk _ _ ho,hd⟩
 ·have hp':p∈X.pn++pins:=by simpa[cxC] using hp
  obtain⟨e,n,ne,nf,d⟩:=I.pin p hp'
  exact⟨hk _ _ e,n,lt e,kK I ne nf,d⟩
 ·show(jX k ix τ).length=N.length
  rw[O.len];simp[jX]
end
theorem SR.weak{K:aT}{H0 Hs0 Hs H:Hp}{σ σ':PSt}{τ:L2.St}(S:SR K H0 Hs0 Hs H σ τ)(w:∀(j:Nat)(sv:SV),σ'[j]? = some (some sv)→σ[j]? = some (some sv))(hl:σ'.length=σ.length):SR K H0 Hs0 Hs H σ' τ:=
 ⟨S.g,fun j sv e=>S.slot j sv (w j sv e),fun i j xs ys a hij e1 e2=>S.inj i j xs ys a hij (w i _ e1) (w j _ e2),hl.trans S.len⟩
theorem SR.hid{K:aT}{H0 Hs0 Hs H:Hp}{σ:PSt}{τ:L2.St}{D:Addr}{o:HO}(S:SR K H0 Hs0 Hs H σ τ)(h1:Hs D=none)(h2:H0 D=none)(no:∀(i:Nat)(sv:SV),σ[i]? = some (some sv)→∃p,sv=.sh p):SR K H0 Hs0 Hs (upd H D o) σ τ:=by
 have sm:∀{b:Addr},b≠D→upd H D o b=H b:=fun h=>aj h
 refine⟨⟨S.g.s,fun b u h=>?_,fun b u h=>?_,S.g.o⟩,fun j sv e=>?_,S.inj,S.len⟩
 ·rw[sm (bh h h1)];exact S.g.i b u h
 ·rw[sm (bh h h2)];exact S.g.h b u h
 ·obtain⟨v,e1,r⟩:=S.slot j sv e
  obtain⟨p,rfl⟩:=no j sv e
  exact⟨v,e1,r⟩
theorem gu{k:Nat}{ix:List Nat}{σ:PSt}(i:Nat)(sv:SV)(h:(inn k ix σ)[i]? = some (some sv)):∃p,sv=.sh p:=by
 obtain⟨_,p,_,_,_,z⟩:=kQ h
 exact⟨p,z⟩
theorem SR.base'{K:aT}{A B H0 Hs0 Hs H:Hp}{σ:PSt}{τ:L2.St}(S:SR K A B Hs H σ τ)(no:∀(i:Nat)(sv:SV),σ[i]? = some (some sv)→∃p,sv=.sh p)(g:Grow Hs0 H0 Hs H):SR K H0 Hs0 Hs H σ τ:=
 ⟨g,fun j sv e=>by
  obtain⟨v,e1,r⟩:=S.slot j sv e
  obtain⟨p,rfl⟩:=no j sv e
  exact⟨v,e1,r⟩,fun i j xs ys a _ e1=>(by obtain⟨p,z⟩:=no i _ e1;cases z),S.len⟩
theorem qf{r:Res PV}{q:PV}(h:noErr r=.ok q):r=.ok q:=by
 cases r with
 |ok p=>exact h
 |err c=>cases h
 |stuck=>cases h
def mapR(f:PV→Res PV):List PV→Res (List PV)
 |[]=>.ok []
 |p::ps=>(f p).bind fun q=>(mapR f ps).bind fun qs=>.ok (q::qs)
def fb(g:DG)(de:DE)(σ0:PSt)(p:PV):Res PV:=match g p σ0 with
 |.ok σ1=>noErr (de σ1)
 |_=>.stuck
def vB(d:DI)(g:DG)(de:DE)(k:Nat)(ix:List Nat):PSt→Res (List PV):=fun σ=>(d σ).bind fun ps=>match mapR (fb g de (inn k ix σ)) ps with
 |.ok qs=>if qs.length≤10000000 then .ok qs else .stuck
 |_=>.stuck
def df(d:DI)(g:DG)(de:DE)(k:Nat)(ix:List Nat):DE:=fun σ=>(vB d g de k ix σ).bind fun qs=>.ok (.lst qs)
def g8(i:Nat)(d:DI)(g:DG)(de:DE)(k:Nat)(ix:List Nat):DS:=fun σ=>(vB d g de k ix σ).bind fun qs=>.ok (.next (σ.set i (some (.own qs))))
theorem qj{f:PV→Res PV}:∀{ps qs:List PV},mapR f ps=.ok qs→qs.length=ps.length
 |[],qs,h=>by cases h;rfl
 |p::ps,qs,h=>by
  unfold mapR at h
  cases e:f p with
  |ok q=>
   rw[e]at h
   simp only[Res.bind_ok]at h
   cases e2:mapR f ps with
   |ok rs=>
    rw[e2]at h
    cases h
    rw[iF,iF,qj e2]
   |err c=>rw[e2]at h;cases h
   |stuck=>rw[e2]at h;cases h
  |err c=>rw[e]at h;cases h
  |stuck=>rw[e]at h;cases h
theorem tL{f:PV→Res PV}:∀{ps qs:List PV},mapR f ps=.ok qs→∀(i:Nat)(p:PV),ps[i]? = some p→∃q,qs[i]? = some q∧f p=.ok q
 |[],qs,h,i,p,e=>by simp at e
 |p0::ps,qs,h,i,p,e=>by
  unfold mapR at h
  cases e1:f p0 with
  |ok q=>
   rw[e1]at h
   simp only[Res.bind_ok]at h
   cases e2:mapR f ps with
   |ok rs=>
    rw[e2]at h
    cases h
    cases i with
    |zero=>simp at e;subst e;exact⟨q,rfl,e1⟩
    |succ i=>
     obtain⟨q',h1,h2⟩:=tL e2 i p (by simpa using e)
     exact⟨q',by simpa using h1,h2⟩
   |err c=>rw[e2]at h;cases h
   |stuck=>rw[e2]at h;cases h
  |err c=>rw[e1]at h;cases h
  |stuck=>rw[e1]at h;cases h
section
variable {X:Cx}{pins:List (Addr×Obj)}{H0 Hs0:Hp}{σ:PSt}{τ:L2.St}{tg elt iter:Expr}{scope:Scope}{pos:Pos}{cl:List (Str×Addr)}{N:List Str}{k:Nat}{ix:List Nat}{g:DG}{de:DE}
theorem ym{Hs2 H2:Hp}{s2:Shared}{it:Addr}{fp:List Addr}{tn:Nat→Heap→Prop}{J:It}{ps qs:List PV}{h4:Heap}{t4:Nat}{RR:Result→Shared→Prop}
  (I2:Inv X pins τ H2 s2) (S2:SR X.K H0 Hs0 Hs2 H2 σ τ) (O:CompOk X scope cl N k ix) (hcalm:X.calm=true) (T:Turn X.prog X.w X.K tg J fp it tn) (st:tn 0 s2.heap) (fpok:∀b∈fp,fG X pins H2 b) (jok:JOk X.K J Hs2 ps)
  (hg:∀(C:Addr)(s:Shared)(H A B:Hp),QG (cxC X pins scope cl C N fp s H) A B tg g)
  (he:∀(C:Addr)(s:Shared)(H A B:Hp),QE (cxC X pins scope cl C N fp s H) A B elt de)
  (gk:∀p σ1,g p (inn k ix σ)=.ok σ1→(∀(j:Nat)(sv:SV),(inn k ix σ)[j]? = some (some sv)→σ1[j]? = some (some sv))∧σ1.length=(inn k ix σ).length)
  (hm:mapR (fb g de (inn k ix σ)) ps=.ok qs) (hl:qs.length≤10000000)
  (hns:h4.Ns (s2.heap.objs.size+1) (fun _=>none)) (hsb:∀b o,(s2.heap.push { cls:=.type "list",data:=.seq ([]:List Value).toArray }).get? b=some o→h4.get? b=some o)
  (hR:∀(s':Shared)(Hs' H':Hp)(vs:List V)(m:Str→Option Value),Inv X pins τ H' s'→SR X.K H0 Hs0 Hs' H' σ τ→aL Hs2 Hs'→Grow Hs2 H2 Hs' H'→H' s2.heap.objs.size=some (.lst vs)→Hs' s2.heap.objs.size=none→H2 s2.heap.objs.size=none→Reps X.K Hs' vs qs→s'.heap.Ns (s2.heap.objs.size+1) m →
   H' (s2.heap.objs.size+1)=none→RR (.ok .next) s'):
  codeAny (model X.prog X.w) X.A (.compStart (.ListComp elt [⟨tg,iter,[],0⟩] scope pos) 0 (.ref it) (.ref s2.heap.objs.size) (compEnvC scope cl (s2.heap.objs.size+1) X.env)) RR { s2 with heap:=h4,toks:=t4 }:=by
 have hD:H2 s2.heap.objs.size=none:=I2.hok.fresh (gO _)
 have hDs:Hs2 s2.heap.objs.size=none:=S2.g.i.free hD
 have I3:Inv X pins τ (upd H2 s2.heap.objs.size (.lst [])) { s2 with heap:=s2.heap.push { cls:=.type "list",data:=.seq ([]:List Value).toArray } }:=I2.lnew (its:=[]) (ys:=[]) (t':=s2.toks) .nil (by show 0≤sizeLine;exact aaH _)
 have hsz:(s2.heap.push { cls:=.type "list",data:=.seq ([]:List Value).toArray }).objs.size=s2.heap.objs.size+1:=aaT ..
 have fpl:∀b∈fp,∃o,s2.heap.get? b=some o:=fun b hb=>by obtain⟨o,e,_⟩:=T.obj _ _ st b hb;exact⟨o,e⟩
 have fpD:∀b∈fp,b≠s2.heap.objs.size:=fun b hb=>by obtain⟨o,e⟩:=fpl b hb;exact aab (iD e)
 have fpok3:∀b∈fp,fG X pins (upd H2 s2.heap.objs.size (.lst [])) b:=fun b hb=>⟨by rw[aj (fpD b hb)];exact(fpok b hb).1,(fpok b hb).2⟩
 have I4:=qv (h4:=h4) (t4:=t4) (fp:=fp) I3 O hcalm fpok3 (fun b hb=>by obtain⟨o,e⟩:=fpl b hb;exact abF (iD e) (by rw[hsz];exact aaP _)) (by rw[hsz];exact hns) hsb
 rw[hsz]at I4
 generalize hX:cxC X pins scope cl (s2.heap.objs.size+1) N fp { s2 with heap:=s2.heap.push { cls:=.type "list",data:=.seq ([]:List Value).toArray } } (upd H2 s2.heap.objs.size (.lst []))=X' at I4
 have eA:X'.A=X.A:=by rw[←hX]
 have eP:X'.prog=X.prog:=by rw[←hX]
 have ew:X'.w=X.w:=by rw[←hX]
 have eK:X'.K=X.K:=by rw[←hX]
 have eE:X'.env=compEnvC scope cl (s2.heap.objs.size+1) X.env:=by rw[←hX]
 have exe:X'.xe=fun _ _=>False:=by rw[←hX]
 have ecalm:X'.calm=true:=by rw[←hX];exact hcalm
 have emg:X'.mg=X.mg:=by rw[←hX]
 have ebase:X'.base=X.base:=by rw[←hX]
 have eN:X'.N=N:=by rw[←hX]
 have stat:∀{H':Hp},(∀b∈fp,H' b=none)→∀b∈fp,fG X' [] H' b:=fun {H'} hn b hb=>by
  obtain⟨f0,f1,f2,f3,f4,f5⟩:=fpok b hb
  have sub:=ie (cells:=X.env.cells) scope.names [] cl (fun x c e=>by cases e) O.clos
  obtain⟨o,e⟩:=fpl b hb
  refine⟨hn b hb,?_,?_,?_,fun x c ec=>?_,fun p hp=>?_⟩
  ·rw[eE];exact aab (aba (iD e))
  ·have:X'.fs=frs X.stack:=by rw[←hX]
   rw[this];exact kK I2 f1 f2
  ·exact .inl (by rw[←hX];exact hb)
  ·rw[eE]at ec;exact f4 x c (sub x c ec)
  ·have:p∈X.pn++pins:=by rw[←hX]at hp;simpa[cxC] using hp
   exact f5 p this
 have st4:tn 0 h4:=T.keep _ _ _ st fun b hb o e=>hsb _ _ (bY _ e)
 have S4:SR X.K H2 Hs2 Hs2 (upd H2 s2.heap.objs.size (.lst [])) (inn k ix σ) (jX k ix τ):=(S2.inn k ix).hid hDs hD gu
 have hlen:=qj hm
 have loop:∀s5:Shared,s5 = { s2 with heap:=h4,toks:=t4 }→codeAny (model X.prog X.w) X.A (.compLoop (.ListComp elt [⟨tg,iter,[],0⟩] scope pos) 0 (.ref it) (.ref s2.heap.objs.size) (compEnvC scope cl (s2.heap.objs.size+1) X.env)) RR s5:=by
  intro s5 hs5
  refine codeAny_loop rfl (fun n s'=>∃i τ' Hs' H' vs,n+i=ps.length∧Inv X' [] τ' H' s'∧tn i s'.heap∧(∀b∈fp,H' b=none)∧SR X.K H2 Hs2 Hs' H' (inn k ix σ) τ'∧H' s2.heap.objs.size=some (.lst vs)∧Hs' s2.heap.objs.size=none∧Reps X.K Hs' vs (qs.take i)) ?_ ps.length
   ⟨0,jX k ix τ,Hs2,_,[],rfl,hs5▸I4,hs5▸st4,fun b hb=>by rw[aj (fpD b hb)];exact(fpok b hb).1,S4,ak,hDs,.nil⟩
  rintro n s6 ⟨i,τ6,Hs6,H6,vs,hni,I6,st6,fr6,S6,hD6,hDs6,R6⟩
  show wpAny _ _ ((compTurn (.ListComp elt [⟨tg,iter,[],0⟩] scope pos) 0 (.ref it) (.ref s2.heap.objs.size) (compEnvC scope cl (s2.heap.objs.size+1) X.env)).onRaise (fun x=>do noteFrame x (compEnvC scope cl (s2.heap.objs.size+1) X.env);theTreesLotGoes x)) _ _ s6
  refine wpAny_noted ?_
  rw[compTurn_list1]
  refine wpAny_bind (wpAny_standAt ?_)
  refine wpAny_noRaise ?_
  obtain⟨j1,j2⟩:=jok i H6 Hs6 S6.g.s S6.g.i
  change wpAny (model X.prog X.w) X.A _ _ _ s6
  by_cases hlt:i<ps.length
  ·obtain⟨go,yl⟩:=j1 hlt
   have hp':ps[i]? = some ps[i]:=dO hlt
   obtain⟨q,hq,hf⟩:=tL hm i ps[i] hp'
   have TI:=T.item X' eP ew eK ecalm i [] s6 τ6 H6 (fun _ _=>False) I6 (stat fr6) st6 go
   rw[eA]at TI
   refine wpAny_bind (thn TI fun r s7 ⟨u,hr,h7⟩=>?_)
   subst hr
   refine wpAny_bind (thn h7 fun _ s8 ⟨x,H8,I8,r8,y8,st8,fr8⟩=>?_)
   obtain⟨rfl,p,ep,rp⟩:=yl x H8 y8
   have ep':ps[i]=p:=by rw[hp']at ep;exact Option.some.inj ep
   subst ep'
   have I8':=I8.pinned (stat fr8) (T.obj _ _ st8)
   unfold fb at hf
   have hg':QG X' H8 Hs6 tg g:=hX▸hg _ _ _ H8 Hs6
   have he':QE X' H8 Hs6 elt de:=hX▸he _ _ _ H8 Hs6
   have S8:SR X.K H8 Hs6 Hs6 H8 (inn k ix σ) τ6:=S6.base' gu (.refl S6.g.i)
   cases eg:g ps[i] (inn k ix σ) with
   |ok σ1=>
    rw[eg]at hf
    have hf:noErr (de σ1)=.ok q:=hf
    obtain⟨w1,w2⟩:=gk _ _ eg
    have hgr:=hg' _ s8 τ6 H8 x u (fun τ9 H9=>∃Hs9,SR X.K H8 Hs6 Hs9 H9 σ1 τ9) I8' r8 ⟨Hs6,inn k ix σ,ps[i],eK▸S8,eK▸(rp.mono S6.g.s),by
     rw[eg]
     exact fun Hs' H' τ' e S'=>⟨Hs',eK▸S'⟩⟩
    rw[eP,ew,eA,eE,exe]at hgr
    refine wpAny_bind (thn hgr fun _ s9 ⟨τ9,H9,I9,Hs9,S9⟩=>?_)
    have her:=he' _ s9 τ9 H9 (fun y H10=>∃Hs10,Grow Hs9 H9 Hs10 H10∧Rep X.K Hs10 y q) I9 ⟨Hs9,σ1,eK▸S9,by
     rw[qf hf]
     exact fun v Hs' H' g' r'=>⟨Hs',g',eK▸r'⟩⟩
    rw[eP,ew,eA,eE,exe]at her
    refine wpAny_bind (wpAny_bind (thn her fun y s10 ⟨y',H10,I10,ry,Hs10,g10,rq⟩=>?_))
    have g6:Grow Hs6 H8 Hs10 H10:=S9.g.trans g10
    have hD10:H10 s2.heap.objs.size=some (.lst vs):=g6.h _ _ hD6
    have hDs10:Hs10 s2.heap.objs.size=none:=g6.o _ (by rw[hD6];exact fun z=>by cases z) hDs6
    have hvl:vs.length<sizeLine:=by
     rw[R6.length,sizeLine_eq,aaD]
     omega
    have hap:=iE (X:=X') _ s10 τ9 H10 (.ref s2.heap.objs.size) [y'] (.ref s2.heap.objs.size) [y] (fun _ H'=>H'=upd H10 s2.heap.objs.size (.lst (vs++[y']))) I10 rfl (.cons ry .nil) ⟨_,vs,y',rfl,rfl,hD10,hvl,rfl⟩
    rw[eP,ew,eA,exe]at hap
    refine wpAny_bind (thn hap fun _ s11 ⟨_,H11,I11,_,eH⟩=>wpAny_pure (wpAny_pure ⟨rfl,n-1,by omega,i+1,τ9,Hs10,H11,vs++[y'],by omega,I11.unpinned,?_,?_,?_,?_,hDs10,?_⟩))
    ·exact T.keep _ _ _ st8 fun b hb o e=>(I11.pin (b,o) (tO _ (tO _ (bS hb e)))).1
    ·intro b hb
     obtain⟨o,e,_⟩:=T.obj _ _ st8 b hb
     exact(I11.pin (b,o) (tO _ (tO _ (bS hb e)))).2.1
    ·subst eH
     exact(((S9.weak w1 w2.symm).grow g10).base' gu (S6.g.trans g6)).hid hDs10 hD gu
    ·subst eH;exact ak
    ·rw[List.take_add_one,hq]
     exact(R6.mono g6.s).append (.cons rq .nil)
   |err c=>rw[eg]at hf;cases hf
   |stuck=>rw[eg]at hf;cases hf
  ·have TD:=T.done X' eP ew eK ecalm i [] s6 τ6 H6 (fun _ _=>False) I6 (stat fr6) st6 (j2 (by omega))
   rw[eA]at TD
   refine wpAny_bind (thn TD fun r s7 ⟨hr,I7⟩=>?_)
   subst hr
   refine wpAny_pure ?_
   have hfull:qs.take i=qs:=aa4 (by omega)
   rw[hfull]at R6
   obtain⟨m,hm7,_⟩:=I7.loc
   have hfree:=I7.free
   have hos:=I7.os
   have hun:=I7.base
   have hok:=I7.hok
   rw[eE]at hm7 hfree
   rw[eP,ew]at hok
   rw[←hX]at hos hun
   have I9:Inv X pins τ H6 s7:=I3.call' (ch:=fp) hos hun hok I7.bare fun b hb=>by
    obtain⟨f0,f1,f2,f3,f4,f5⟩:=fpok b hb
    exact⟨f3,f1,f4,f5⟩
   exact hR s7 Hs6 H6 vs m I9 (S2.grow S6.g) S6.g.s S6.g hD6 hDs6 hD R6 hm7 hfree
 exact codeAny_compStart_list (loop _ rfl) (T.self _ _ _ _ _ st4 (loop _ rfl))
end
section
variable {X:Cx}{pins:List (Addr×Obj)}{H0 Hs0:Hp}{σ:PSt}{τ:L2.St}{tg elt iter:Expr}{scope:Scope}{pos:Pos}{cl:List (Str×Addr)}{N:List Str}{k:Nat}{ix:List Nat}{g:DG}{de:DE}{d:DI}
theorem o6{H:Hp}{s:Shared}{C:Addr}{h':Heap}(I:Inv X pins τ H s)(f:fG X pins H C)(sb:Heap.SameBut C s.heap h'):Inv X pins τ H { s with heap:=h' }:=by
 obtain⟨f0,f1,f2,f3,f4,f5⟩:=f
 have k:∀b u,b≠C→s.heap.get? b=some u→h'.get? b=some u:=fun b u hb e=>(sb.2 b hb).trans e
 refine I.call' (ch:=[C]) rfl ⟨fun b o e _ _ hc=>k b o (by simpa using hc) e,fun b o e _ _ hc=>⟨o.slots,k b o (by simpa using hc) e⟩,fun _ _ _ n _=>n,fun b o e hc=>⟨o,k b o (by simpa using hc) e⟩,fun _ _ q=>q,fun _ _ _ q=>q,fun _ ps q=>⟨#[],by rw[q];simp⟩⟩ (fun a o e=>?_) I.bare fun b hb=>?_
 ·refine(I.hok a o e).stay (fun b u hb q=>k b u (fun z=>?_) q) (fun _ q=>q) fun _ _ q=>q
  subst z
  rcases hb with rfl|hb
  ·rw[e]at f0;cases f0
  ·rw[hb]at f0;cases f0
 ·have:b=C:=by simpa using hb
  subst this
  exact⟨f3,f1,f4,f5⟩
structure BlkOk (X:Cx) (tg elt:Expr) (scope:Scope) (cl:List (Str×Addr)) (N:List Str) (k:Nat) (ix:List Nat) (g:DG) (de:DE):Prop where
 O:CompOk X scope cl N k ix
 calm:X.calm=true
 hg:∀(pins:List (Addr×Obj))(fp:List Addr)(C:Addr)(s:Shared)(H A B:Hp),QG (cxC X pins scope cl C N fp s H) A B tg g
 he:∀(pins:List (Addr×Obj))(fp:List Addr)(C:Addr)(s:Shared)(H A B:Hp),QE (cxC X pins scope cl C N fp s H) A B elt de
 gk:∀σ p σ1,g p (inn k ix σ)=.ok σ1→(∀(j:Nat)(sv:SV),(inn k ix σ)[j]? = some (some sv)→σ1[j]? = some (some sv))∧σ1.length=(inn k ix σ).length
theorem blk{E:Value→Shared→Prop}{Hs2 H2:Hp}{s2:Shared}{it:Addr}{fp:List Addr}{tn:Nat→Heap→Prop}{J:It}{ps qs:List PV}{RR:Value→Addr→Result→Shared→Prop}
  (B:BlkOk X tg elt scope cl N k ix g de) (I2:Inv X pins τ H2 s2) (S2:SR X.K H0 Hs0 Hs2 H2 σ τ) (T:Turn X.prog X.w X.K tg J fp it tn) (st:tn 0 s2.heap) (fpok:∀b∈fp,fG X pins H2 b) (jok:JOk X.K J Hs2 ps)
  (hm:mapR (fb g de (inn k ix σ)) ps=.ok qs) (hl:qs.length≤10000000)
  (hR:∀(s':Shared)(Hs' H':Hp)(vs:List V)(D C:Addr)(m:Str→Option Value),Inv X pins τ H' s'→SR X.K H0 Hs0 Hs' H' σ τ→aL Hs2 Hs'→Grow Hs2 H2 Hs' H'→H' D=some (.lst vs)→Hs' D=none→H2 D=none→Reps X.K Hs' vs qs→s'.heap.Ns C m →
   fG X pins H' C→RR (.ref D) C (.ok .next) s'):
  wpAny (model X.prog X.w) X.A (newList []) (fun acc s3=>wpAny (model X.prog X.w) X.A (newFunctionEnv scope X.env.globals cl [] X.env.qual none .none (some X.env)) (fun cenv s4=>
   codeAny (model X.prog X.w) X.A (.compStart (.ListComp elt [⟨tg,iter,[],0⟩] scope pos) 0 (.ref it) acc { cenv with scope:=relabel scope X.env }) (RR acc cenv.locals) s4) E s3) E s2:=by
 refine wpAny_newObj_type (wpAny_newFunctionEnv B.O.nocell (by intro y hy;simp at hy) (fun h1 hns1 hsb1=>?_) B.O.kind)
 dsimp only at hns1 hsb1 ⊢
 have hsz:(s2.heap.push { cls:=.type "list",dict:=none,data:=.seq ([]:List Value).toArray }).objs.size=s2.heap.objs.size+1:=aaT ..
 rw[hsz]at hns1 hsb1 ⊢
 refine ym (t4:=s2.toks+0) I2 S2 B.O B.calm T st fpok jok (B.hg pins fp) (B.he pins fp) (B.gk σ) hm hl hns1 (fun b o e=>?_) (fun s' Hs' H' vs m I' S' e' gr h1' h2' h3' h4' h5' h6'=>?_)
 ·exact hsb1.extBut b o (aab (by have:=iD e;rw[hsz]at this;exact this)) (bY _ e)
 ·exact hR s' Hs' H' vs _ _ m I' S' e' gr h1' h2' h3' h4' h5' (I2.fpOk (Nat.le_succ _) h6')
theorem cP{Hs:Hp}{D:Addr}{o:HO}(h:Hs D=none):aL Hs (upd Hs D o):=fun b u e=>by rw[aj (bh e h)];exact e
theorem Grow.lay{Hs H Hs' H':Hp}{D:Addr}{o:HO}(g:Grow Hs H Hs' H')(h1:H' D=some o)(h2:Hs' D=none)(h3:H D=none):Grow Hs H (upd Hs' D o) H':=
 ⟨g.s.trans (cP h2),fun b u e=>by
  by_cases hb:b=D
  ·subst hb;rw[ak]at e;cases e;exact h1
  ·rw[aj hb]at e;exact g.i b u e,g.h,fun x hx hn=>by
  have:x≠D:=fun z=>hx (z▸h3)
  rw[aj this];exact g.o x hx hn⟩
theorem AL{r:Res (List PV)}{f:List PV→Res (List PV)}{EO:Str→Prop}{K:aT}{Hs H:Hp}{Q:VK}(h:Ret K Hs H ((r.bind f).bind fun qs=>.ok (.lst qs)) EO Q):(∃c,r=.err c∧EO c)∨∃ps,r=.ok ps∧Ret K Hs H ((f ps).bind fun qs=>.ok (.lst qs)) EO Q:=by
 cases r with
 |ok ps=>exact .inr ⟨ps,rfl,h⟩
 |err c=>exact .inl ⟨c,rfl,h⟩
 |stuck=>exact h.elim
theorem zx(B:BlkOk X tg elt scope cl N k ix g de)(hi:QI X H0 Hs0 tg iter d)(hs:∀x,foldedSetIterable iter X.env x=pure x):
  QE X H0 Hs0 (.ListComp elt [⟨tg,iter,[],0⟩] scope pos) (df d g de k ix):=by
 intro pins s τ H Q I ⟨Hs,σ,S,h⟩
 rw[eval_ListComp]
 have h0:wpAny (model X.prog X.w) X.A (eval iter X.env) (fun v s1=>wpAny (model X.prog X.w) X.A (pyIter v) (PIE X pins τ tg fun J H2=>∃Hs2 ps qs,Grow Hs H Hs2 H2∧JOk X.K J Hs2 ps∧mapR (fb g de (inn k ix σ)) ps=.ok qs∧qs.length≤10000000∧Ret X.K Hs H (.ok (.lst qs)) (a8 X H0 Hs0) Q) X.xe s1) X.xe s:=by
  refine hi pins s τ H _ I ⟨Hs,σ,S,?_⟩
  rcases AL h with ⟨c,e,ec⟩|⟨ps,e,h1⟩
  ·rw[e];exact ec
  ·rw[e]
   intro J Hs2 H2 g2 j2
   cases em:mapR (fb g de (inn k ix σ)) ps with
   |ok qs=>
    simp only[em]at h1
    by_cases hl:qs.length≤10000000
    ·rw[if_pos hl]at h1
     exact⟨Hs2,ps,qs,g2,j2,em,hl,h1⟩
    ·rw[if_neg hl]at h1
     exact h1.elim
   |err c=>simp only[em]at h1;exact h1.elim
   |stuck=>simp only[em]at h1;exact h1.elim
 refine wpAny_comprehension_free (use:=none) rfl hs (my B.O.clos) B.O.kind B.O.names (wpAny_mono h0 (fun v s1 h1=>wpAny_mono h1 (fun itv s2 h2=>?_) fun _ _ e=>e) fun _ _ e=>e)
 obtain⟨it,fp,tn,J,H2,rfl,I2,T,st,fpok,Hs2,ps,qs,g2,jok,hm,hl,hq⟩:=h2
 refine blk B I2 (S.grow g2) T st fpok jok hm hl fun s' Hs' H' vs D C m I' S' e' gr h1 h2 h3 h4 h5 h6=>?_
 refine⟨m,h5,fun h' sb=>⟨.ref D,H',o6 I' h6 sb,rfl,?_⟩⟩
 exact hq (.ref D) (upd Hs' D (.lst vs)) H' ((g2.trans gr).lay h1 h2 (g2.h.free h3)) (.lst ak (h4.mono (cP h2)))
theorem wz{i:Nat}{x:Str}{pos' spos:Pos}{ds:DS}(B:BlkOk X tg elt scope cl N k ix g de)(hi:QI X H0 Hs0 tg iter d)(hs:∀x,foldedSetIterable iter X.env x=pure x)
  (hN:X.N.Nodup) (hiN:X.N[i]? = some x) (hx:Loc X.env.scope x) (hf:X.fn x=true∨X.env.scope.names.lookup x=some .local)
  (hsw:swapsWith (.ListComp elt [⟨tg,iter,[],0⟩] scope pos) (some (.Name x pos')) spos.line X.env=pure true)
  (hd:∀D σ τ Hs H,SR X.K H0 Hs0 Hs H σ τ→fH X H0 Hs0 D Hs H (ds σ)→(∃c,d σ=.err c∧a8 X H0 Hs0 c)∨∃ps,d σ=.ok ps∧∃qs,mapR (fb g de (inn k ix σ)) ps=.ok qs∧qs.length≤10000000 ∧
   ∀(Hs' H':Hp)(vs:List V)(a:Addr),SR X.K H0 Hs0 Hs' H' σ τ→Grow Hs H Hs' H'→H' a=some (.lst vs)→Hs' a=none→H a=none→Reps X.K Hs' vs qs→D.nx (τ.set i (some (.ref a))) H'):
  QS X H0 Hs0 (.Assign [.Name x pos'] (.ListComp elt [⟨tg,iter,[],0⟩] scope pos) spos) ds:=by
 intro pins s τ H D I ⟨Hs,σ,S,h⟩
 have h0:wpAny (model X.prog X.w) X.A (eval iter X.env) (fun v s1=>wpAny (model X.prog X.w) X.A (pyIter v) (PIE X pins τ tg fun J H2=>∃Hs2 ps qs,Grow Hs H Hs2 H2∧JOk X.K J Hs2 ps∧mapR (fb g de (inn k ix σ)) ps=.ok qs∧qs.length≤10000000 ∧
   ∀(Hs' H':Hp)(vs:List V)(a:Addr),SR X.K H0 Hs0 Hs' H' σ τ→Grow Hs H Hs' H'→H' a=some (.lst vs)→Hs' a=none→H a=none→Reps X.K Hs' vs qs→D.nx (τ.set i (some (.ref a))) H') X.xe s1) X.xe s:=by
  refine hi pins s τ H _ I ⟨Hs,σ,S,?_⟩
  rcases hd D σ τ Hs H S h with ⟨c,e,ec⟩|⟨ps,e,qs,em,hl,h1⟩
  ·rw[e];exact ec
  ·rw[e]
   exact fun J Hs2 H2 g2 j2=>⟨Hs2,ps,qs,g2,j2,em,hl,h1⟩
 rw[exec_Assign_Name_used _ _ _ _ hsw]
 refine wpAny_bind (wpAny_standAt (wpAny_bind ?_))
 show wpAny _ X.A (do let _ ←comprehension (.ListComp elt [⟨tg,iter,[],0⟩] scope pos) scope X.env _ (newList []) false (eval iter X.env) (some (assign (.Name x pos') X.env))) _ _ s
 refine wpAny_bind (wpAny_mono (wpAny_comprehension_free (use:=some (assign (.Name x pos') X.env)) (Q:=fun _ s'=>SP X pins D .next s') rfl hs (my B.O.clos) B.O.kind B.O.names
  (wpAny_mono h0 (fun v s1 h1=>wpAny_mono h1 (fun itv s2 h2=>?_) fun _ _ e=>e) fun _ _ e=>e)) (fun _ s' hq=>wpAny_pure (wpAny_pure hq)) fun _ _ e=>e)
 obtain⟨it,fp,tn,J,H2,rfl,I2,T,st,fpok,Hs2,ps,qs,g2,jok,hm,hl,hq⟩:=h2
 refine blk B I2 (S.grow g2) T st fpok jok hm hl fun s' Hs' H' vs a C m I' S' e' gr h1 h2 h3 h4 h5 h6=>?_
 show wpAny _ X.A (assign (.Name x pos') X.env (.ref a)) _ _ s'
 have h5':=h5
 obtain⟨o,es,ep,ho,hdt,hrest⟩:=h5'
 have I'':=I'.pinned (fp:=[C]) (fun b hb=>by have:b=C:=(by simpa using hb);subst this;exact h6)
  (fun b hb=>by
  have:b=C:=by simpa using hb
  subst this
  exact⟨o,ho,fun v z=>by rw[hdt]at z;cases z⟩)
 refine thn (kM hN hiN hx hf _ s' τ H' (.ref a) (.ref a) (fun τ' H''=>τ'=τ.set i (some (.ref a))∧H''=H') I'' rfl ⟨rfl,rfl⟩) fun _ s'' ⟨τ',H'',I3,e1,e2⟩=>?_
 subst e1 e2
 have hC:=(I3.pin (C,o) (tO _ (tO _ (bS (by simp) ho)))).1
 have I4:=I3.unpinned
 refine⟨m,⟨o,es,ep,hC,hdt,hrest⟩,fun h' sb=>?_⟩
 exact⟨_,_,o6 I4 h6 sb,hq Hs' H'' vs a S' (g2.trans gr) h1 h2 (g2.h.free h3) h4⟩
theorem SR.ownAt{Hs H Hs' H':Hp}{σ:PSt}{τ:L2.St}{a:Addr}{vs:List V}{xs:List PV}(S:SR X.K H0 Hs0 Hs H σ τ)(g:Grow Hs H Hs' H')(i:Nat)(h1:H' a=some (.lst vs))(h2:Hs' a=none)(h3:H a=none)(r:Reps X.K Hs' vs xs):
  SR X.K H0 Hs0 Hs' H' (σ.set i (some (.own xs))) (τ.set i (some (.ref a))):=by
 have far:∀(j:Nat)(ys:List PV)(ad:Addr),σ[j]? = some (some (.own ys))→τ[j]? = some (some (.ref ad))→ad≠a:=fun j ys ad e1 e2 z=>by
  obtain⟨v,e3,a',vs',rfl,q1,_⟩:=S.slot j _ e1
  rw[e2]at e3
  cases e3
  subst z
  rw[h3]at q1;cases q1
 refine⟨S.g.trans g,fun j sv e=>?_,fun j k xs' ys' ad hjk e1 e2 e3=>?_,by rw[aas,aas];exact S.len⟩
 ·rcases aF e with ⟨rfl,e',hl⟩|⟨hne,e'⟩
  ·cases e'
   refine⟨.ref a,by rw[aao (by rw[←S.len];exact hl)],a,vs,rfl,h1,h2,S.g.h.free h3,r⟩
  ·obtain⟨w,e1,r1⟩:=S.slot j sv e'
   exact⟨w,by rw[aaa (fun z=>hne z.symm)];exact e1,r1.grow g⟩
 ·rcases aF e1 with ⟨rfl,e',hl⟩|⟨hj,e1'⟩
  ·rw[aao (by rw[←S.len];exact hl)]at e3
   cases e3
   rcases aF e2 with ⟨rfl,_,_⟩|⟨hk,e2'⟩
   ·exact absurd rfl hjk
   ·rw[aaa (fun z=>hk z.symm)]
    exact fun z=>far k _ _ e2' z rfl
  ·rw[aaa (fun z=>hj z.symm)]at e3
   rcases aF e2 with ⟨rfl,_,hl⟩|⟨hk,e2'⟩
   ·rw[aao (by rw[←S.len];exact hl)]
    exact fun z=>by cases z;exact far j _ _ e1' e3 rfl
   ·rw[aaa (fun z=>hk z.symm)]
    exact S.inj j k _ _ _ hjk e1' e2' e3
theorem Du{D:Ends}{Hs H:Hp}{f:List PV→Fl}{σ:PSt}(h:fH X H0 Hs0 D Hs H ((vB d g de k ix σ).bind fun qs=>.ok (f qs))):(∃c,d σ=.err c∧a8 X H0 Hs0 c)∨∃ps,d σ=.ok ps∧∃qs,mapR (fb g de (inn k ix σ)) ps=.ok qs∧qs.length≤10000000∧fH X H0 Hs0 D Hs H (.ok (f qs)):=by
 unfold vB at h
 cases e:d σ with
 |err c=>rw[e]at h;exact .inl ⟨c,rfl,h⟩
 |stuck=>rw[e]at h;exact h.elim
 |ok ps=>
  rw[e]at h
  refine .inr ⟨ps,rfl,?_⟩
  cases em:mapR (fb g de (inn k ix σ)) ps with
  |ok qs=>
   simp only[Res.bind_ok,em]at h
   by_cases hl:qs.length≤10000000
   ·rw[if_pos hl]at h
    exact⟨qs,rfl,hl,h⟩
   ·rw[if_neg hl]at h
    exact h.elim
  |err c=>simp only[Res.bind_ok,em]at h;exact h.elim
  |stuck=>simp only[Res.bind_ok,em]at h;exact h.elim
variable {i:Nat}{x:Str}{pos' spos:Pos}
theorem wx(B:BlkOk X tg elt scope cl N k ix g de)(hi:QI X H0 Hs0 tg iter d)(hs:∀x,foldedSetIterable iter X.env x=pure x)
  (hN:X.N.Nodup) (hiN:X.N[i]? = some x) (hx:Loc X.env.scope x) (hf:X.fn x=true∨X.env.scope.names.lookup x=some .local)
  (hsw:swapsWith (.ListComp elt [⟨tg,iter,[],0⟩] scope pos) (some (.Name x pos')) spos.line X.env=pure true):
  QS X H0 Hs0 (.Assign [.Name x pos'] (.ListComp elt [⟨tg,iter,[],0⟩] scope pos) spos) (g8 i d g de k ix):=
 wz B hi hs hN hiN hx hf hsw fun D σ τ Hs H S h=>(Du h).imp id fun ⟨ps,e,qs,em,hl,q⟩=>⟨ps,e,qs,em,hl,fun Hs' H' vs a S' gr h1 h2 h3 h4=>
  q Hs' H' _ gr.s (S.ownAt gr i h1 h2 h3 h4)⟩
end
theorem j3{cells:List (Str×Addr)}{x:Str}:∀(names:List (Str×NameKind))(acc cl:List (Str×Addr)),eJ cells names acc=some cl→((x,.free)∈names∨∃c,acc.lookup x=some c)→∃c,cl.lookup x=some c
 |[],acc,cl,h,hx=>by
  have:acc=cl:=Option.some.inj h
  subst this
  exact hx.elim (fun z=>by cases z) id
 | (n,k)::r,acc,cl,h,hx=>by
  unfold eJ at h
  split at h
  ·rename_i hk
   split at h
   ·rename_i a hn
    refine j3 r _ cl h ?_
    rcases hx with hx|⟨c,hx⟩
    ·rcases List.mem_cons.mp hx with e|hx
     ·cases e
      exact .inr ⟨a,by simp[aam]⟩
     ·exact .inl hx
    ·refine .inr ?_
     rw[aam]
     split
     ·exact⟨a,rfl⟩
     ·exact⟨c,hx⟩
   ·cases h
  ·rename_i hk
   refine j3 r acc cl h ?_
   rcases hx with hx|hx
   ·rcases List.mem_cons.mp hx with e|hx
    ·cases e
     exact absurd rfl hk
    ·exact .inl hx
   ·exact .inr hx
theorem kd{x:Str}{q:NameKind}:∀{names:List (Str×NameKind)},names.lookup x=some q→(x,q)∈names
 |[],h=>by simp at h
 | (n,k)::r,h=>by
  rw[aam]at h
  split at h
  ·rename_i hb
   have:x=n:=by simpa using hb
   subst this
   cases h
   exact aaL
  ·exact aan _ (kd h)
theorem j7{scope:Scope}{env:Env}{x:Str}{q:NameKind}(h:(relabel scope env).names.lookup x=some q):∃k,(x,k)∈scope.names∧(q=k∨k=.free):=by
 have:=kd h
 unfold relabel at this
 obtain⟨⟨n,k⟩,h1,h2⟩:=List.mem_map.mp this
 dsimp only at h2
 split at h2
 ·rename_i hc
  cases h2
  simp only[aay,beq_iff_eq]at hc
  exact⟨k,h1,.inr hc.1.1⟩
 ·cases h2
  exact⟨_,h1,.inl rfl⟩
theorem jl{env:Env}{x:Str}:∀{names:List (Str×NameKind)},names.lookup x=some .free→env.scope.kind=.function→env.kindOf x=some .cell →
  (names.map fun (n,k)=>if (k==NameKind.free&&env.scope.kind==.function&&env.kindOf n==some .cell) then (n,NameKind.cell) else (n,k)).lookup x=some .cell
 |[],h,_,_=>by simp at h
 | (n,k)::r,h,h1,h2=>by
  have ih:=@jl env x r
  rw[aam]at h
  rw[aau]
  dsimp only
  split at h
  ·rename_i hb
   have:x=n:=by simpa using hb
   subst this
   cases h
   rw[if_pos (by simp[h1,h2])]
   simp[aam]
  ·rename_i hb
   split
   ·rw[aam,hb];exact ih h h1 h2
   ·rw[aam,hb];exact ih h h1 h2
inductive CapOk (X:Cx) (scope:Scope):List Nat→List Str→Prop
 |nil:CapOk X scope [] []
 |cons {i:Nat} {x:Str} {ix:List Nat} {xs:List Str}:X.N[i]? = some x→X.env.kindOf x=some .cell→scope.names.lookup x=some .free→CapOk X scope ix xs→CapOk X scope (i::ix) (x::xs)
theorem m8{X:Cx}{scope:Scope}:CapOk X scope [] []:=.nil
theorem cap{X:Cx}{scope:Scope}{ix:List Nat}{xs:List Str}(i:Nat)(x:Str)(c:CapOk X scope ix xs)(h1:X.N[i]? = some x:=by rfl)(h2:X.env.kindOf x=some .cell:=by rfl)(h3:scope.names.lookup x=some .free:=by rfl):CapOk X scope (i::ix) (x::xs):=.cons h1 h2 h3 c
theorem CapOk.len{X:Cx}{scope:Scope}{ix:List Nat}{xs:List Str}(c:CapOk X scope ix xs):xs.length=ix.length:=by
 induction c with
 |nil=>rfl
 |cons _ _ _ _ ih=>rw[iF,iF,ih]
theorem CapOk.at'{X:Cx}{scope:Scope}{ix:List Nat}{xs:List Str}(c:CapOk X scope ix xs):∀(j i:Nat)(x:Str),ix[j]? = some i→xs[j]? = some x→X.N[i]? = some x∧X.env.kindOf x=some .cell∧scope.names.lookup x=some .free:=by
 induction c with
 |nil=>intro j i x h;simp at h
 |cons h1 h2 h3 _ ih=>
  intro j i x e1 e2
  cases j with
  |zero=>simp at e1 e2;subst e1 e2;exact⟨h1,h2,h3⟩
  |succ j=>exact ih j i x (by simpa using e1) (by simpa using e2)
def jc(X:Cx)(scope:Scope):List (Str×Addr):=(eJ X.env.cells scope.names []).getD []
def jj(scope:Scope):Prop:=(∀y∈scope.names,y.2≠.cell)∧(∀y∈scope.names,y.2=.local→scope.names.lookup y.1=some .local)
instance {scope:Scope}:Decidable (jj scope):=by unfold jj;exact inferInstance
theorem yn{X:Cx}{scope:Scope}{own xs:List Str}{ix:List Nat}(hk:scope.kind=.function)(hs:jj scope)(hX:X.env.scope.kind=.function)(hc:(eJ X.env.cells scope.names []).isSome=true)(hn:(own++xs).Nodup)(c:CapOk X scope ix xs):CompOk X scope (jc X scope) (own++xs) own.length ix:=by
 have hcl:eJ X.env.cells scope.names []=some (jc X scope):=by
  unfold jc
  cases e:eJ X.env.cells scope.names [] with
  |none=>rw[e]at hc;cases hc
  |some cl=>rfl
 refine⟨hk,hs.1,hs.2,hcl,fun x hx=>?_,hn,by rw[aai,c.len],fun j i x e1 e2=>?_⟩
 ·have:(x,NameKind.free)∈scope.names:=by
   rcases hx with hx|hx
   ·obtain⟨k,h1,h2⟩:=j7 hx
    rcases h2 with rfl|rfl
    ·exact absurd rfl (hs.1 _ h1)
    ·exact h1
   ·obtain⟨k,h1,h2⟩:=j7 hx
    rcases h2 with rfl|rfl<;>exact h1
  exact j3 _ _ _ hcl (.inl this)
 ·rw[aaB (abq _ _),Nat.add_sub_cancel_left]at e2
  obtain⟨a1,a2,a3⟩:=c.at' j i x e1 e2
  exact⟨a1,a2,.inl (jl a3 hX a2)⟩
structure GK (k:Nat) (g:DG):Prop where
 h:∀(ix:List Nat)(σ:PSt)(p:PV)(σ1:PSt),g p (inn k ix σ)=.ok σ1→(∀(j:Nat)(sv:SV),(inn k ix σ)[j]? = some (some sv)→σ1[j]? = some (some sv))∧σ1.length=(inn k ix σ).length
theorem tZ{k i:Nat}{ix:List Nat}{σ:PSt}(h:i<k){sv:SV}:(inn k ix σ)[i]?≠some (some sv):=fun e=>by
 obtain⟨_,_,h1,_⟩:=kQ e
 omega
theorem vi{k i:Nat}(h:i<k:=by decide):GK k (gN i):=⟨fun ix σ p σ1 e=>by
 have e:σ1=(inn k ix σ).set i (some (.sh p)):=by
  unfold gN at e
  first | (injection e with e; exact e.symm) | (cases e; rfl)
 subst e
 refine⟨fun j sv hj=>?_,aas⟩
 rw[aaa (fun z=>tZ (h) (z▸hj))]
 exact hj⟩
section
variable {X:Cx}{H0 Hs0:Hp}{tg elt iter:Expr}{scope:Scope}{pos:Pos}{g:DG}{de:DE}{d:DI}{ix:List Nat}{xs:List Str}
theorem oo(own:List Str)(c:CapOk X scope ix xs)(k:GK own.length g)(hg:∀(pins:List (Addr×Obj))(fp:List Addr)(C:Addr)(s:Shared)(H A B:Hp),(cxC X pins scope (jc X scope) C (own++xs) fp s H).N.Nodup→XG (cxC X pins scope (jc X scope) C (own++xs) fp s H) A B tg g)
  (he:∀(pins:List (Addr×Obj))(fp:List Addr)(C:Addr)(s:Shared)(H A B:Hp),(cxC X pins scope (jc X scope) C (own++xs) fp s H).N.Nodup→XE (cxC X pins scope (jc X scope) C (own++xs) fp s H) A B elt de)
  (hk:scope.kind=.function:=by rfl) (hs:jj scope:=by decide +kernel) (hX:X.env.scope.kind=.function:=by rfl) (hc:(eJ X.env.cells scope.names []).isSome=true:=by rfl) (hn:(own++xs).Nodup:=by decide) (hcalm:X.calm=true:=by rfl):
  BlkOk X tg elt scope (jc X scope) (own++xs) own.length ix g de:=
 ⟨yn hk hs hX hc hn c,hcalm,fun pins fp C s H A B=>(hg pins fp C s H A B hn).h,fun pins fp C s H A B=>(he pins fp C s H A B hn).h,fun σ p σ1 e=>k.h ix σ p σ1 e⟩
theorem kX{cl:List (Str×Addr)}{N:List Str}{k:Nat}(B:BlkOk X tg elt scope cl N k ix g de)(hi:XI X H0 Hs0 tg iter d)(hs:fN iter=true:=by rfl):XE X H0 Hs0 (.ListComp elt [⟨tg,iter,[],0⟩] scope pos) (df d g de k ix):=⟨zx B hi.h (jC hs)⟩
theorem sS(i:Nat){x:Str}{pos' spos:Pos}{cl:List (Str×Addr)}{N:List Str}{k:Nat}(B:BlkOk X tg elt scope cl N k ix g de)(hi:XI X H0 Hs0 tg iter d)(hN:X.N.Nodup:=by assumption)(hiN:X.N[i]? = some x:=by rfl)(hx:Loc X.env.scope x:=by first|exact Or.inl rfl|exact Or.inr rfl)
  (hf:X.fn x=true∨X.env.scope.names.lookup x=some .local:=by first|exact Or.inl rfl|exact Or.inr rfl) (hs:fN iter=true:=by rfl)
  (hsw:swapsWith (.ListComp elt [⟨tg,iter,[],0⟩] scope pos) (some (.Name x pos')) spos.line X.env=pure true:=by rfl):
  XS X H0 Hs0 (.Assign [.Name x pos'] (.ListComp elt [⟨tg,iter,[],0⟩] scope pos) spos) (g8 i d g de k ix):=⟨wx B hi.h (jC hs) hN hiN hx hf hsw⟩
end
theorem Au{l:List Env}:∀env∈l,∀a,env.frame=some a→a∈frs l:=fun env he a hf=>List.mem_filterMap.mpr ⟨env,he,hf⟩
theorem lY{M:Model}{A:Around}{E:Value→Shared→Prop}{Q:Unit→Shared→Prop}{s:Shared}{env:Env}{L ea T:Addr}{oe oT:Obj}{vs ts:Array Value}{fl:Value}(hf:env.frame=some L)(he:s.heap.get? ea=some oe)(hd:oe.data=.fields vs)
  (h1:vs[1]? = some (.ref T)) (hTe:T≠ea) (hT:s.heap.get? T=some oT) (hdT:oT.data=.fields ts) (h3:ts[3]? = some fl) (hfl:fl≠rawInt L)
  (h:wpAny M A (leaving env (.ref ea)) Q E { s with heap:=s.heap.update T (Obj.mapFields (·.setIfInBounds 3 .none)) }):wpAny M A (leaving env (.ref ea)) Q E s:=by
 intro Γ p hΓ
 have h0:=h Γ p hΓ
 have hT1:=aaA (Obj.mapFields (·.setIfInBounds 3 .none)) hT (Obj.isFreed_of_fields (Obj.data_mapFields hdT _))
 have hlt:3<ts.size:=(Array.getElem?_eq_some_iff.mp h3).1
 unfold leaving noteFrame at h0 ⊢
 simp only[hf]at h0 ⊢
 rw[Sem.wp_bind',Sem.wp_bind',wp_field_iff]at h0 ⊢
 obtain⟨a,o,vs',x,e1,e2,e3,e4,h0⟩:=h0
 cases e1
 rw[aaQ _ _ hTe,he]at e2
 cases e2
 rw[hd]at e3;cases e3
 rw[h1]at e4;cases e4
 refine⟨ea,oe,vs,_,rfl,he,hd,h1,?_⟩
 have hb:(Value.ref T != Value.none)=true:=by simp
 simp only[hb,if_true]at h0 ⊢
 rw[Sem.wp_bind',wp_field_iff]at h0 ⊢
 obtain⟨a,o,vs',x,e1,e2,e3,e4,h0⟩:=h0
 cases e1
 rw[hT1]at e2;cases e2
 rw[Obj.data_mapFields hdT]at e3;cases e3
 have ex:x=.none:=by simpa[abd,hlt] using e4.symm
 subst ex
 refine⟨T,oT,ts,fl,rfl,hT,hdT,h3,?_⟩
 have hb1:(fl==rawInt L)=false:=by simpa using hfl
 have hb2:(Value.none==rawInt L)=false:=by simp[rawInt]
 simp only[hb1,hb2,iN,if_false]at h0 ⊢
 rw[Sem.wp_bind',wp_setField_iff]at h0 ⊢
 obtain⟨a,o,vs',e1,e2,e3,e4,h0⟩:=h0
 cases e1
 refine⟨T,oT,ts,rfl,hT,hdT,hlt,?_⟩
 rw[Heap.update_setField_twice]at h0
 exact h0
theorem rV{M:Model}{A:Around}{E:Value→Shared→Prop}{Q:Unit→Shared→Prop}{s:Shared}{B:Heap}{env:Env}{outer:List Env}{L ea:Addr}{cls a0 fl:Value}(hfr:A.frames=some (env::outer))(hf:env.frame=some L)
  (k1:B.StaysIn s.heap) (k2:B.get? ea=none) (k3:s.heap.FunFrames B (env::outer)) (k4:s.heap.TracedAtW B ea cls a0 fl) (hQ:∀h',Heap.FlyingW B outer ea cls a0 h'→s.heap.UpToSlots h'→Q () { s with heap:=h' }):
  wpAny M A (leaving env (.ref ea)) Q E s:=by
 by_cases hfl:fl=rawInt L
 ·subst hfl
  exact wpAny_bind (wpAny_noteFrame_againW hf k4 (wpAny_landsW ⟨k1,k2,k3,k4⟩ fun h' ⟨a1,a2,⟨_,_,a3⟩,a4⟩ sm=>hQ h' ⟨a1,a2,a3,a4⟩ sm))
 ·obtain⟨oe,vs,T,oT,ts,he,hc,hd,h1,hnT,hTe,hT,hdT,h3⟩:=k4
  have hlt:3<ts.size:=(Array.getElem?_eq_some_iff.mp h3).1
  have far:∀b,b≠T→(s.heap.update T (Obj.mapFields (·.setIfInBounds 3 .none))).get? b=s.heap.get? b:=fun b hb=>aaQ _ _ (Ne.symm hb)
  have nf:∀b o,s.heap.get? b=some o→(∀us,o.data≠.fields us)→b≠T:=fun b o e n z=>by
   rw[z,hT]at e;cases e;exact n ts hdT
  refine lY hf he hd h1 hTe hT hdT h3 hfl (wpAny_leaves_onW hfr hf ⟨fun b o e=>(far b fun z=>?_).trans (k1 b o e),k2,k3.of_keeps fun b o e n=>⟨o,(far b (nf b o e n)).trans e,rfl⟩,oe,vs,T,_,_,(far ea (Ne.symm hTe)).trans he,hc,hd,h1,hnT,hTe,aaA _ hT (Obj.isFreed_of_fields (Obj.data_mapFields hdT _)),Obj.data_mapFields hdT _,?_⟩
   fun h' fl' sm=>hQ h' fl' fun b o e n=>sm b o ((far b (nf b o e n)).trans e) n)
  ·rw[z,hnT]at e;cases e
  ·simp[abd,hlt]
section
variable {P:Program}{w:World}{K:aT}{mg:Str→Option Value}{base:Heap}{N:List Str}{qual:Str}{scope:Scope}{f:Addr}{cd:Value}{A:Around}{outer:List Env}{s:Shared}{H Hs:Hp}{E:XK}{c:Str}
theorem Di(hE:∀(C:Addr)(Hs1 H1:Hp),aC K c C→Grow Hs H Hs1 H1→E (.ref C) none H1):a8 (gP (CXG P w) P w K mg base N qual scope f cd A outer s H E) H Hs c:=by
 intro e s' ⟨pins,τ,H',s1,I,h⟩
 show wpAny (model P w) (A.deeper (envOfC qual scope s.heap.objs.size f cd)) (leaving (envOfC qual scope s.heap.objs.size f cd) e) (fun _ s''=>CXG P w outer H s E e s'') (fun e' s''=>CXG P w outer H s E e' s'') s'
 have u:Un (frs outer) [] H H' s.heap s1.heap:=I.base
 have hfr:(A.deeper (envOfC qual scope s.heap.objs.size f cd)).frames=some (envOfC qual scope s.heap.objs.size f cd::outer):=I.ok.frames
 have funs:s.heap.FunFrames base outer:=I.ok.funs
 have frf:∀b∈frs outer,H b=none:=I.ok.frf
 have stk:s1.heap.FunFrames base (envOfC qual scope s.heap.objs.size f cd::outer):=I.stack
 have stf:∀b∈frs (envOfC qual scope s.heap.objs.size f cd::outer),H' b=none:=I.stkFree
 have fcons:frs (envOfC qual scope s.heap.objs.size f cd::outer)=s.heap.objs.size::frs outer:=rfl
 have off:∀{b:Addr}{o:Obj},s.heap.get? b=some o→b∉frs outer→b∉frs (envOfC qual scope s.heap.objs.size f cd::outer):=fun e n z=>by
  rw[fcons]at z
  rcases List.mem_cons.mp z with z|z
  ·exact absurd (iD e) (by rw[z];exact aaR _)
  ·exact n z
 have nofield:∀{b:Addr}{o:Obj},b∈frs outer→s.heap.get? b=some o→∀vs,o.data≠.fields vs:=fun hb e vs z=>by
  obtain⟨_,o',ho,hd⟩:=funs.mem hb
  rw[e]at ho;cases ho
  exact hd vs z
 have fin:∀(ea C:Addr)(B:Heap)(a0:Value)(H1 Hs1:Hp),s'.os=s1.os→AllBare s'.gens→UnX (envOfC qual scope s.heap.objs.size f cd::outer) H' H1 s1.heap B s'.heap→HOk P w H1 B→aC K c C→Grow Hs H Hs1 H1 →
   ∀h'',Heap.FlyingW B outer ea (.ref C) a0 h''→s'.heap.UpToSlots h''→CXG P w outer H s E (.ref ea) { s' with heap:=h'' }:=by
  intro ea C B a0 H1 Hs1 hos hbare ux hok hc g h'' x1 x2
  refine⟨ea,C,B,a0,H1,rfl,hos.trans I.os,hbare,x1,⟨fun b o e n nf=>?_,fun b o e n nf=>?_,fun b o e n=>?_,fun b o e n=>?_,fun b xs q=>ux.tups b xs (u.tups b xs q),fun b o v q=>ux.frzs b o v (u.frzs b o v q),fun b ps q=>?_⟩,hok,hE C Hs1 H1 hc g⟩
  ·exact ux.keep b o (u.keep b o e n nf (by simp)) (u.free b o e n (by simp)) (off e nf)
  ·obtain⟨sl,e1⟩:=u.slot b o e n nf (by simp)
   obtain⟨sl2,e2⟩:=ux.slot b _ e1 (u.free b o e n (by simp)) (by show b∈frs (_::outer);rw[fcons];exact aan _ nf)
   obtain⟨sl3,e3⟩:=x2 b _ e2 (fun vs z=>nofield nf e vs z)
   exact⟨sl3,e3⟩
  ·obtain⟨sl,e1⟩:=u.any e n (by simp)
   exact ux.free b _ e1 (u.free b o e n (by simp))
  ·obtain⟨o',e1⟩:=u.there b o e (by simp)
   cases hn:H' b with
   |none=>exact⟨o',ux.keep b o' e1 hn (off e fun z=>n (frf b z))⟩
   |some v=>exact ux.there b o' e1 (by rw[hn];exact fun z=>by cases z)
  ·obtain⟨m1,q1⟩:=u.tbls b ps q
   obtain⟨m2,q2⟩:=ux.tbls b _ q1
   exact⟨m1++m2,by rw[q2,Array.append_assoc]⟩
 rcases h with ⟨_,ea,C,vs,h',Hs',rfl,hc,g,mk,rfl⟩|⟨ea,C,B,a0,H1,rfl,hos,hbare,fl,ux,hok,C',Hs1,ecls,hc,g⟩|⟨_,ea,C,B,a0,fl,H1,rfl,hos,hbare,⟨k1,k2,k3,k4⟩,ux,hok,C',Hs1,ecls,hc,g⟩
 ·have hB:∀b∉frs (envOfC qual scope s.heap.objs.size f cd::outer),∀o,s1.heap.get? b=some o→(PySem.W.hideAll s1.heap (frs (envOfC qual scope s.heap.objs.size f cd::outer))).get? b=some o:=fun b hb o e=>PySem.W.hideAll_get _ e hb
  refine wpAny_leaves_madeW (base:=PySem.W.hideAll s1.heap (frs (envOfC qual scope s.heap.objs.size f cd::outer))) (h:=s1.heap) hfr rfl (fun b o q=>PySem.W.of_hideAll _ q) (PySem.W.funFrames_hide stk fun env he a hf=>Au env he a hf) mk fun h'' t x1 x2 x3 x4=>?_
  refine⟨ea,C,_,.ref t,H',rfl,I.os,I.bare,x1,⟨fun b o e n nf=>?_,fun b o e n nf=>?_,fun b o e n=>u.free b o e n (by simp),fun b o e n=>?_,u.tups,u.frzs,u.tbls⟩,fun a o e=>?_,hE C Hs' H' hc g⟩
  ·exact hB b (off e nf) o (u.keep b o e n nf (by simp))
  ·obtain⟨sl,e1⟩:=u.slot b o e n nf (by simp)
   obtain⟨sl2,e2⟩:=x4 b _ (mk.keeps b _ e1) (fun vs z=>nofield nf e vs z)
   exact⟨sl2,e2⟩
  ·obtain⟨o',e1⟩:=u.there b o e (by simp)
   exact⟨o',hB b (off e fun z=>n (frf b z)) o' e1⟩
  ·refine(I.hok a o e).stay (fun b v hb q=>hB b (fun z=>?_) v q) (fun _ q=>q) fun _ _ q=>q
   have:=stf b z
   rcases hb with rfl|hb
   ·rw[e]at this;cases this
   ·rw[hb]at this;cases this
 ·cases ecls
  exact wpAny_leaves_onW hfr rfl fl (fin ea C B a0 H1 Hs1 hos hbare ux hok hc g)
 ·cases ecls
  exact rV hfr rfl k1 k2 k3 k4 (fin ea C B a0 H1 Hs1 hos hbare ux hok hc g)
end
structure ExcAt (K:aT) (x:Str):Prop where
 ex:∃C:Addr,aC K x C∧abJ K C [.type "ValueError",.type "Exception",.type "BaseException",.type "object"] "ValueError.__new__" = true
def oG(c:Str):DS:=fun _=>.err c
section
variable {X:Cx}{H0 Hs0:Hp}{x t:Str}{pos np cpos cp:Pos}{j}
theorem Dh{K:aT}{h₀:Heap}{mg:Str→Option Value}{C:Addr}{bmB:List Value}{newId:String}(XI:K.In h₀)(G:h₀.Ns mainGlobals mg)(e:aak K mainGlobals x=some (some (.ref C)))(q:abJ K C bmB newId=true):OwnCls x C bmB newId mg h₀:=by
 refine⟨abI XI G e,?_⟩
 unfold abJ at q
 split at q
 ·rename_i dd cd sl ho
  split at q
  ·rename_i C' bm k0 k1 k2 k3 n k5 hm hs
   simp only[aay,beq_iff_eq,Bool.not_eq_true']at q
   obtain⟨⟨⟨⟨⟨rfl,rfl⟩,hdel⟩,ht⟩,hok⟩,hni⟩:=q
   obtain⟨nm,bs,mro,ns,qn,hd,sn,sub,ab,col,del⟩:=cd
   dsimp only at hm hdel hok hni
   subst hm hdel
   have hsl:sl = #[k0,k1,k2,k3,some (.builtin n),k5]:=by
    obtain⟨l⟩:=sl
    simp only at hs
    rw[hs]
   subst hsl
   exact⟨bm,ns,nm,qn,bs,hd,sn,sub,ab,col,dd,k0,k1,k2,k3,k5,_,XI _ _ ho,.of_isNs (PySem.W.isNs_of_in XI hok),PySem.W.nsMap_none_of_in XI hok hni,PySem.W.tail_of_in XI ht⟩
  ·cases q
 ·cases q
theorem wu (hx:ExcAt X.K x) (hc:X.calm=true) (hg:Gl X x) (hd:(x==("__debug__":Str))=false) (hst:X.stack=X.env::X.outer) (he:starEach [.Constant (.str t) j cp] X.env=[(false,eval (.Constant (.str t) j cp) X.env)]):
  QS X H0 Hs0 (.Raise (some (.Call (.Name x np) [.Constant (.str t) j cp] [] cpos)) none pos) (oG x):=by
 obtain⟨C,hcl,hin⟩:=hx.ex
 intro pins s τ H D I ⟨Hs,σ,S,h⟩
 have GN:s.heap.Ns mainGlobals X.mg:=I.mod.glob.keeps I.bk
 have O:=Dh I.kIn GN hcl hin
 obtain⟨tl,NN,nm,q,bs,hdct,sn,sub,ab,col,dd,k0,k1,k2,k3,k5,mN,hC,hN,hni,T⟩:=O.obj
 refine wpAny_Raise_call_subT (C:=C) (nm:=nm) (q:=q) (N:=NN) (bs:=bs) (bm:=tl) (hdct:=hdct) (sn:=sn) (sub:=sub) (ab:=ab) (col:=col) (dd:=dd) (k0:=k0) (k1:=k1) (k2:=k2) (k3:=k3) (k5:=k5)
  PySem.F.excBase_ValueError (mN:=mN) (T.hasType PySem.F.excBase_ValueError.hasBase) (I.ok.hd hc) (by rw[he];rfl) hni (jw I hg O.bound ⟨rfl,?_⟩ hd)
 rw[he]
 refine Calls.evalArgs_plain (Calls.spliced_cons (@Calls.Constant_str _ _ _ _ _ t j cp _ (Calls.spliced_nil ⟨rfl,(show 1≤sizeLine from k9 (by decide)),hC,hN,T,fun h' e mk=>?_⟩)))
 exact h (.ref e) _ ⟨pins,τ,H,_,I.tok _,.inl ⟨hst,e,C,_,h',Hs,rfl,hcl,S.g,mk,rfl⟩⟩
end
section
variable {X:Cx}{pins:List (Addr×Obj)}{H0 Hs0 Hs H:Hp}{σ:PSt}{τ:L2.St}{s:Shared}
theorem Ar{M:Model}{A:Around}{E:Value→Shared→Prop}{i:Nat}{x:Str}{pos:Pos}{Q:Unit→Shared→Prop}(I:Inv X pins τ H s)(hN:X.N.Nodup)(hi:X.N[i]? = some x)(hk:X.env.scope.names.lookup x=some .local)
  (h:∀s',Inv X pins (τ.set i none) H s'→Q () s'):wpAny M A (do bindName X.env x .none;unbindBehindTheSuite X.env x pos) Q E s:=by
 obtain⟨m,hn,hl⟩:=id I.loc
 have hcls:(X.env.scope.kind==.class||(X.env.scope.kind==.module&&X.env.locals != X.env.globals))=false:=by rw[I.ok.kind];rfl
 have hiσ:i<τ.length:=by rw[I.len];exact(List.getElem?_eq_some_iff.mp hi).1
 have cne:=I.cne
 refine wpAny_nameGoes_keeps hk hn hcls fun h' w hn' hs=>?_
 obtain⟨oL,_,_,hoL,_⟩:=id hn
 have tracked:HOk X.prog X.w H h':=fun b ob e=>by
  refine(I.hok b ob e).stay (fun c w' hc q=>(hs.2 c ?_).trans q) (fun _ q=>q) fun _ _ q=>q
  rintro rfl
  have hfree:=I.free
  rcases hc with rfl|hc
  ·rw[hfree]at e;cases e
  ·rw[hfree]at hc;cases hc
 refine h _ ⟨I.ok,I.os,I.bare,⟨fun b o e n hb hx=>?_,fun b o e n hb hx=>?_,I.base.free,fun b o e hx=>?_,I.base.tups,I.base.frzs,I.base.tbls⟩,⟨_,hn',fun j y v' e1 e2 e3=>?_⟩,fun y c e=>?_,I.free,I.freeC,fun p hp=>?_,tracked,by simpa using I.len⟩
 ·exact(hs.2 b (aab (aal (iD e) I.ok.above))).trans (I.base.keep b o e n hb hx)
 ·obtain⟨sl,e1⟩:=I.base.slot b o e n hb hx
  exact⟨sl,(hs.2 b (aab (aal (iD e) I.ok.above))).trans e1⟩
 ·obtain⟨o',e1⟩:=I.base.there b o e hx
  exact⟨o',(hs.2 b (aab (aal (iD e) I.ok.above))).trans e1⟩
 ·by_cases hj:j=i
  ·subst hj
   rw[aao hiσ]at e2
   cases e2
  ·rw[aaa (Ne.symm hj)]at e2
   obtain⟨u',r',q⟩:=hl j y v' e1 e2 e3
   refine⟨u',r',?_⟩
   rcases q with ⟨k,e⟩|⟨k,c,e,z⟩
   ·refine .inl ⟨k,?_⟩
    have:y≠x:=fun e=>hj (lR hN e1 (e▸hi))
    simp[this,e]
   ·exact .inr ⟨k,c,e,z.sameBut hs (cne y c e)⟩
 ·obtain⟨w',z⟩:=I.cell y c e
  exact⟨w',z.sameBut hs (cne y c e)⟩
 ·obtain⟨e,n,ne,nf,d⟩:=I.pin p hp
  exact⟨(hs.2 p.1 ne).trans e,n,ne,nf,d⟩
theorem qe{P:Program}{w:World}{h:Heap}{a:Addr}{o:HO}(x:cv P w H h a o):∃ob,h.get? a=some ob:=by
 cases o with
 |lst xs=>obtain⟨_,_,_,_,e⟩:=x;exact⟨_,e⟩
 |tup xs=>obtain⟨_,_,_,p⟩:=x;obtain⟨ob,e,_⟩:=p;exact⟨ob,e⟩
 |dK kvs=>obtain⟨_,_,_,_,o,_,_,e,_⟩:=x;exact⟨_,e⟩
 |dT kvs=>obtain⟨_,_,_,_,o,_,_,e,_⟩:=x;exact⟨_,e⟩
 |set S n=>obtain⟨o,_,_,_,e,_⟩:=x;exact⟨_,e⟩
 |ins C dx fs=>obtain⟨_,_,_,e,_⟩:=x;exact⟨_,e⟩
 |own y=>exact x
 |xd fs=>obtain⟨_,⟨_,_,_,e,_⟩,_⟩:=x;exact⟨_,e⟩
 |rng lo hi=>obtain⟨_,_,_,e⟩:=x;exact⟨_,e⟩
 |frz ob u=>obtain⟨e,_⟩:=x;exact⟨_,e⟩
 |tbl ps=>exact⟨_,(show h.get? a=some _ from x)⟩
 |met f y=>exact⟨_,(show h.get? a=some _ from x)⟩
 |ext φ=>obtain⟨_,e,_⟩:=x;exact e
theorem landed{s':Shared}{H2:Hp}{B h5:Heap}{ea C:Addr}{a0:Value}(I:Inv X pins τ H s)(hos:s'.os=s.os)(hbare:AllBare s'.gens)(ux:UnX X.stack H H2 s.heap B s'.heap)(hok:HOk X.prog X.w H2 B)(fl:Heap.FlyingW B X.stack ea (.ref C) a0 h5)(sm:s'.heap.UpToSlots h5):
  H2 ea=none∧Inv X pins τ (upd H2 ea (.ext (vo ea C))) { s' with heap:=h5 }:=by
 obtain⟨f1,f2,f3,oe,vs,T,oT,ts,he,⟨hc,h0⟩,hd,_⟩:=fl
 have h2:H2 ea=none:=by
  cases e:H2 ea with
  |none=>rfl
  |some o=>
   obtain⟨ob,q⟩:=qe (hok ea o e)
   rw[f2]at q;cases q
 have nofield:∀{b:Addr}{o:Obj},b∈frs X.stack→s.heap.get? b=some o→∀vs,o.data≠.fields vs:=fun hb e vs z=>by
  obtain⟨_,o',ho,hdd⟩:=I.stack.mem hb
  rw[e]at ho;cases ho
  exact hdd vs z
 have slot5:∀b o,s.heap.get? b=some o→H b=none→b∈frs X.stack→∃sl,h5.get? b=some { o with slots:=sl }:=fun b o e n hb=>by
  obtain⟨sl,e1⟩:=ux.slot b o e n hb
  obtain⟨sl2,e2⟩:=sm b _ e1 (fun vs z=>nofield hb e vs z)
  exact⟨sl2,e2⟩
 have ne:∀b o,s.heap.get? b=some o→H b=none→b≠ea:=fun b o e n z=>by
  subst z
  by_cases hb:b∈frs X.stack
  ·obtain⟨sl,e1⟩:=slot5 b o e n hb
   rw[he]at e1
   have:=Option.some.inj e1
   subst this
   exact nofield hb e vs hd
  ·have:=ux.keep b o e n hb
   rw[f2]at this;cases this
 have neB:∀{b:Addr}{o:HO},H2 b=some o→b≠ea:=fun e z=>by rw[z,h2]at e;cases e
 have up:∀{b:Addr}{o:HO},H2 b=some o→upd H2 ea (.ext (vo ea C)) b=some o:=fun e=>by rw[aj (neB e)];exact e
 refine⟨h2,I.call' (ch:=[]) hos ⟨fun b o e n hb _=>f1 b o (ux.keep b o e n hb),fun b o e n hb _=>slot5 b o e n hb,fun b o e n _=>?_,fun b o e _=>?_,fun b xs q=>up (ux.tups b xs q),fun b o u q=>up (ux.frzs b o u q),fun b ps q=>?_⟩ (fun a o e=>?_) hbare (fun b hb=>by cases hb)⟩
 ·rw[aj (ne b o e n)];exact ux.free b o e n
 ·cases n:H b with
  |none=>
   by_cases hb:b∈frs X.stack
   ·obtain⟨sl,e1⟩:=slot5 b o e n hb;exact⟨_,e1⟩
   ·exact⟨o,f1 b o (ux.keep b o e n hb)⟩
  |some v=>
   obtain⟨o',e1⟩:=ux.there b o e (by rw[n];exact fun z=>by cases z)
   exact⟨o',f1 b o' e1⟩
 ·obtain⟨m,e1⟩:=ux.tbls b ps q
  exact⟨m,up e1⟩
 ·by_cases ha:a=ea
  ·subst ha
   rw[ak]at e
   cases e
   exact⟨⟨oe,vs,he,hc,hd⟩,⟨oe,he⟩,fun h1 h2 ⟨o,vs,q1,q2,q3⟩ k=>⟨o,vs,k o q1,q2,q3⟩⟩
  ·rw[aj ha]at e
   exact(hok a o e).stay (fun b u _ q=>f1 b u q) (fun b q=>up q) fun b xs q=>up q
end
@[reducible] def cxM(X:Cx)(ea:Addr):Cx:={ X with A:=X.A.mark (some (.ref ea)),calm:=false,xe:=fun _ _=>False }
section
variable {X:Cx}{pins:List (Addr×Obj)}{H0 Hs0 Hs H:Hp}{σ:PSt}{τ:L2.St}{s:Shared}{ea:Addr}
theorem qu(I:Inv X pins τ H s):Inv (cxM X ea) pins τ H s:=
 ⟨⟨I.ok.mod,I.ok.kind,I.ok.glob,I.ok.blt,I.ok.above,I.ok.inj,I.ok.has,I.ok.cab,(fun z=>nomatch z),I.ok.frames,I.ok.stk,I.ok.exf,I.ok.bs,I.ok.bsz,I.ok.noex,I.ok.exfs,I.ok.funs,I.ok.frf⟩,I.os,I.bare,I.base,I.loc,I.cell,I.free,I.freeC,I.pin,I.hok,I.len⟩
theorem rZ(hX:X.Ok)(I:Inv (cxM X ea) pins τ H s):Inv X pins τ H s:=⟨hX,I.os,I.bare,I.base,I.loc,I.cell,I.free,I.freeC,I.pin,I.hok,I.len⟩
theorem SR.unset{K:aT}(S:SR K H0 Hs0 Hs H σ τ)(i:Nat):SR K H0 Hs0 Hs H (σ.set i none) (τ.set i none):=by
 have get:∀{j:Nat}{sv:SV},(σ.set i none)[j]? = some (some sv)→j≠i∧σ[j]? = some (some sv):=fun {j sv} e=>by
  rcases aF e with ⟨_,z,_⟩|⟨h,e'⟩
  ·cases z
  ·exact⟨h,e'⟩
 refine⟨S.g,fun j sv e=>?_,fun j k xs ys ad hjk e1 e2 e3=>?_,by rw[aas,aas];exact S.len⟩
 ·obtain⟨hj,e'⟩:=get e
  obtain⟨v,e1,r⟩:=S.slot j sv e'
  exact⟨v,by rw[aaa (Ne.symm hj)];exact e1,r⟩
 ·obtain⟨hj,e1'⟩:=get e1
  obtain⟨hk,e2'⟩:=get e2
  rw[aaa (Ne.symm hj)]at e3
  rw[aaa (Ne.symm hk)]
  exact S.inj j k xs ys ad hjk e1' e2' e3
end
def BD(m:List PV→Res PV)(ra:DA)(cs:List Str)(i:Nat)(ds:DS):DS:=fun σ=>match ra σ with
 |.ok qs=>match m qs with
  |.ok _=>.ok (.next σ)
  |.err c=>if cs.contains c=true then (match ds (σ.set i (some (.sh (.exc c)))) with
    |.ok (.next σ')=>.ok (.next (σ'.set i none))
    |_=>.stuck) else .stuck
  |.stuck=>.stuck
 |_=>.stuck
structure Caught (K:aT) (g:Str) (cs:List Str):Prop where
 h:∀c∈cs,∃(G C:Addr),aC K g G∧aC K c C∧PySem.W.exmOne K (.ref C) (.ref G)=some true
section
variable {X:Cx}{H0 Hs0:Hp}
end
section
open PySem.W PySem.Calls Builtin Builtin.ObjectAttr Builtin.Getset_descriptor
variable {prog:Program}{w:World}{A:Around}{s:Shared}{K:Frag}{x C:Addr}{R:Result→Shared→Prop}
theorem sE {tp:Value} (X:K.In s.heap) (L0:Looks (model prog w) s.heap (typeOf (.ref x)) (.ref C)) (hm:mroIn K C (.type "object")=some true)
  (h:R (.ok (.ret (.ref C))) s):codeAny (model prog w) A (.call (.builtin "getset_descriptor.__get__") ⟨[.builtin "object.__class__",.ref x,tp],[]⟩) R s:=by
 obtain⟨hh,g,dr,t,os⟩:=s
 have L1:=looks_mroIn (M:=model prog w) X hm
 refine codeAny_call_builtin KF.slot_gs.plain KF.entry_gs (KF.slot_gs.check _ _ _ _ _ _ _ _ KF.type_class (KF.args_gs _ _ _) ?_)
 unfold Builtin.«getset_descriptor.__get__» descrGet
 rw[dga_obj]
 refine wpAny_bind (wpAny_pure ?_)
 unfold descrGetter descrCheckInstance descrNameAndClass isInstance
 simp only[KF.owner_class]
 repeat lk
 refine⟨Code.quiet_builtin _ (by decide +kernel),codeAny_builtin KF.entry_class ?_⟩
 unfold Builtin.«object.__class__» shownTypeOf
 repeat lk
 exact h
theorem vk {M:Model} {h:Heap} {name:Str} {a g:Value} (X:K.In h) (ha:findIn K (.ref C) name=some (some a)) (hg:specialIn K a "__get__" = some (some g)) (ht:takesIn K a=some true):Looks M h (find (.ref x) (.ref C) name) (.bind g a):=by
 have L1:=looks_findIn (M:=M) X ha
 have L2:Looks M h (getOf (some a)) (some g):=looks_specialIn X hg
 have L3:=looks_takesIn (M:=M) X ht
 exact L1.andThen (L2.andThen ((show Looks M h (dataDescriptor? (some a) (some g)) (some (g,a)) from L3.andThen .now).andThen (Looks.tag .now)))
end
section
variable {prog:Program}{w:World}{A:Around}{E:Value→Shared→Prop}{s:Shared}{K:aT}{x C:Addr}{ox:Obj}
theorem vp {Q:Option Value→Shared→Prop} (hc:(PySem.W.clsIn K C).isSome=true) (hga:aaw K (.ref C) "__getattribute__" = some (some (.builtin "BaseException.__getattribute__"))) (hk:aaw K (.ref C) "__getattr__" = some none)
  (ha:aaw K (.ref C) "__class__" = some (some (.builtin "object.__class__"))) (hn:PySem.W.specialIn K (.builtin "object.__class__") "__get__" = some (some (.builtin "getset_descriptor.__get__"))) (htk:PySem.W.takesIn K (.builtin "object.__class__")=some true) (hm:PySem.W.mroIn K C (.type "object")=some true)
  (hb:PySem.W.mroIn K C (.type "BaseException")=some true)
  (X:K.In s.heap) (L0:PySem.W.Looks (model prog w) s.heap (typeOf (.ref x)) (.ref C)) (h:Q (some (.ref C)) { s with toks:=s.toks+1 }):wpAny (model prog w) A (getAttr? (.ref x) "__class__") Q E s:=by
 obtain⟨hh,g,d,t,os⟩:=s
 have L1:=PySem.W.looks_findIn (M:=model prog w) X hga
 have L2:=PySem.W.looks_findIn (M:=model prog w) X hk
 have LF:=vk (M:=model prog w) X ha hn htk (x:=x)
 have LB:=PySem.W.looks_mroIn (M:=model prog w) X hb
 have hx2:(Value.builtin "BaseException.__getattribute__" == Value.builtin "object.__getattribute__")=false:=by decide +kernel
 unfold getAttr? getAttrBy? getAttrBy
 refine wpAny_bind (wpAny_mkText (wpAny_bind (wpAny_attempt (wpAny_holding (wpAny_bind (L0.at (wpAny_bind (L1.at ?_))))))))
 dsimp only
 rw[hx2,Bool.and_false,if_neg aa7]
 unfold getAttrByItsOwn
 refine wpAny_bind (show wpAny _ _ (typeLookup (.ref C) "__getattr__") _ _ _ from L2.at ?_)
 refine wpAny_bind (wpAny_attempt (wpAny_holding ?_))
 show wpAny _ _ (boundAndCalled _ _ _) _ _ _
 unfold boundAndCalled
 refine wpAny_bind (wpAny_of_eq (PySem.F.attr_ValueError.ga.bind (.ref x)) ?_)
 refine wpAny_call (codeAny_call_builtin PySem.F.attr_ValueError.ga.plain PySem.F.entry_bexc_ga ?_)
 have hk1:builtinKind "BaseException.__getattribute__" = some .slot:=by decide +kernel
 have hsplit:splitId "BaseException.__getattribute__" = some ("BaseException","__getattribute__"):=by decide +kernel
 have hargs:=PySem.F.args_bexc_ga (.ref x) (.str "__class__" t)
 have LI:PySem.W.Looks (model prog w) hh (isInstance (.ref x) (.type "BaseException")) true:=L0.andThen LB
 simp only[List.singleton_append,checkBuiltinCall,hk1,hsplit]
 refine wpAny_bind ?_
 refine LI.at ?_
 simp only[aaW,iN,if_false]
 refine wpAny_of_eq hargs ?_
 show wpAny _ _ (Builtin.«object.__getattribute__» _) _ _ _
 unfold Builtin.«object.__getattribute__»
 repeat (any_goals (first | assumption | with_reducible refine L0.at ?_ | with_reducible refine LF.at ?_ | wp_step))
 refine sE X L0 hm ?_
 exact wpAny_pure (PySem.W.handed_on rfl (wpAny_pure h))
end
open PySem.W (clsIn findIn specialIn takesIn mroIn kitOne kitAny KitX Looks)
def qD (K:aT) (C:Addr):Bool:=(clsIn K C).isSome&&findIn K (.ref C) "__getattribute__" == some (some (.builtin "BaseException.__getattribute__"))&&findIn K (.ref C) "__getattr__" == some none
 && findIn K (.ref C) "__class__" == some (some (.builtin "object.__class__"))&&specialIn K (.builtin "object.__class__") "__get__" == some (some (.builtin "getset_descriptor.__get__"))&&takesIn K (.builtin "object.__class__")==some true
 && mroIn K C (.type "object")==some true&&mroIn K C (.type "BaseException")==some true
def pL(x C:Addr)(h:Heap):Prop:=∃o,h.get? x=some o∧o.cls=.ref C
theorem pL.ty{M:Model}{x C:Addr}{h:Heap}(p:pL x C h):Looks M h (typeOf (.ref x)) (.ref C):=by
 obtain⟨o,h1,h2⟩:=p
 exact h2▸(Looks.ld h1).andThen .now
theorem qq{K:aT}{x C:Addr}(q:qD K C=true):KitX K (.ref x) (.ref C) (pL x C):=by
 unfold qD at q
 simp only[aay,beq_iff_eq]at q
 obtain⟨⟨⟨⟨⟨⟨⟨hc,hga⟩,hk⟩,ha⟩,hn⟩,htk⟩,hm⟩,hb⟩:=q
 refine⟨fun M h _ p=>p.ty,fun M h X _=>?_,fun h tp dd its n sl X htp=>?_,fun {_ _ _ _ _ s} X p k=>vp hc hga hk ha hn htk hm hb X p.ty k⟩
 ·obtain⟨cd,hcd⟩:=Option.isSome_iff_exists.mp hc
  unfold clsIn at hcd
  split at hcd
  ·rename_i c' d' cd' sl' ho
   intro A' Q' E' s' k q
   unfold isType loadHead
   exact wpAny_bind (wpAny_loadPart (k _ _ (X _ _ ho)) (wpAny_pure q))
  ·cases hcd
 ·obtain⟨cd,hcd⟩:=Option.isSome_iff_exists.mp hc
  refine Bool.eq_false_iff.mpr fun q=>?_
  have e:C=tp:=Value.ref.inj (beq_iff_eq.mp q)
  subst e
  unfold clsIn at hcd
  split at hcd
  ·rename_i c' d' cd' sl' ho
   have z:=(X _ _ ho).symm.trans htp
   cases z
  ·cases hcd
structure IsTab (K:aT) (t:List Value) (tab:List (Str×Bool)):Prop where
 non:kitAny K (.type "NoneType") t=some false
 exc:∀c b,tab.lookup c=some b→∃C:Addr,aC K c C∧qD K C=true∧kitAny K (.ref C) t=some b
def dt(tab:List (Str×Bool)):PV→Res PV
 |.non=>.ok (.bl false)
 |.exc c=>match tab.lookup c with
  |some b=>.ok (.bl b)
  |none=>.stuck
 |_=>.stuck
theorem tF{tab:List (Str×Bool)}{c:Str}:dt tab (.exc c)=(match tab.lookup c with
  |some b=>Res.ok (PV.bl b)
  |none=>Res.stuck):=rfl
theorem l7{K:aT}{t c:Value}{b:Bool}(h:kitAny K t [c]=some b):kitOne K t c=some b:=by
 unfold kitAny at h
 split at h
 ·rename_i e;rw[e];cases h;rfl
 ·rename_i e;rw[e];cases h;rfl
 ·cases h
section
variable {X:Cx}{pins:List (Addr×Obj)}{τ:L2.St}{Hs H:Hp}{s:Shared}{Q:Value→Shared→Prop}{E:Value→Shared→Prop}{x:V}{u:Value}{p:PV}{tab:List (Str×Bool)}{b:Bool}
theorem qC{a C:Addr}(I:Inv X pins τ H s)(h:H a=some (.ext (vo a C))):pL a C s.heap:=by
 obtain⟨⟨o,vs,h1,h2,_⟩,_⟩:=I.hok a _ h
 exact⟨o,h1,h2⟩
theorem Ak{t:Value}(I:Inv X pins τ H s)(i:aL Hs H)(rx:RelV x u)(r:Rep X.K Hs x p)(T:IsTab X.K [t] tab)(hb:dt tab p=.ok (.bl b))(h:∀tk,Q (.bool b) { s with toks:=tk }):
  wpAny (model X.prog X.w) X.A (call (.builtin "isinstance") [u,t]) Q E s:=by
 cases r with
 |non=>
  cases hb
  cases (show u=Value.none from rx)
  exact aat PySem.W.kitx_none I.kIn True.intro (l7 T.non) (fun z=>nomatch z) h
 | @exc a C c hl hc=>
  have hb:(match tab.lookup c with
   |some b=>Res.ok (PV.bl b)
   |none=>Res.stuck)=Res.ok (PV.bl b):=hb
  cases e:tab.lookup c with
  |none=>rw[e]at hb;cases hb
  |some b'=>
   rw[e]at hb
   cases hb
   obtain⟨C',h1,h2,h3⟩:=T.exc c b e
   have eC:C'=C:=by
    have:=h1.symm.trans hc
    injection this with this
    injection this with this
    injection this
   subst eC
   cases (show u=Value.ref a from rx)
   exact aat (qq h2) I.kIn (qC I (i _ _ hl)) (l7 h3) (fun z=>nomatch z) h
 |_=>cases hb
theorem Aj{tp:Addr}{ts:List Value}(I:Inv X pins τ H s)(i:aL Hs H)(rx:RelV x u)(r:Rep X.K Hs x p)(ht:IsTup s.heap tp ts.toArray)(T:IsTab X.K ts tab)(hb:dt tab p=.ok (.bl b))(h:∀tk,Q (.bool b) { s with toks:=tk }):
  wpAny (model X.prog X.w) X.A (call (.builtin "isinstance") [u,.ref tp]) Q E s:=by
 obtain⟨o,ho,hoc,n,hod⟩:=ht
 obtain⟨oc,od,oda,osl⟩:=o
 dsimp only at hoc hod
 subst hoc hod
 cases r with
 |non=>
  cases hb
  cases (show u=Value.none from rx)
  exact PySem.W.kia_tup PySem.W.kitx_none I.kIn True.intro ho T.non (fun z=>nomatch z) h
 | @exc a C c hl hc=>
  have hb:(match tab.lookup c with
   |some b=>Res.ok (PV.bl b)
   |none=>Res.stuck)=Res.ok (PV.bl b):=hb
  cases e:tab.lookup c with
  |none=>rw[e]at hb;cases hb
  |some b'=>
   rw[e]at hb
   cases hb
   obtain⟨C',h1,h2,h3⟩:=T.exc c b e
   have eC:C'=C:=by
    have:=h1.symm.trans hc
    injection this with this
    injection this with this
    injection this
   subst eC
   cases (show u=Value.ref a from rx)
   exact PySem.W.kia_tup (qq h2) I.kIn (qC I (i _ _ hl)) ho h3 (fun z=>nomatch z) h
 |_=>cases hb
end
section
variable {X:Cx}{H0 Hs0:Hp}{a:Expr}{da:DE}{pos p1 p2:Pos}{tab:List (Str×Bool)}
theorem xJ{p:PV}{Hs H:Hp}{Q:VK}(h:Ret X.K Hs H (dt tab p) (a8 X H0 Hs0) Q)(i:aL Hs H):∃b,dt tab p=.ok (.bl b)∧Q (.bl b) H:=by
 have key:(∃b,dt tab p=.ok (.bl b))∨dt tab p=.stuck:=by
  cases p with
  |non=>exact .inl ⟨false,rfl⟩
  |exc c=>
   cases e:tab.lookup c with
   |none=>exact .inr (by rw[tF,e])
   |some b=>exact .inl ⟨b,by rw[tF,e]⟩
  |_=>exact .inr rfl
 rcases key with ⟨b,e⟩|e
 ·rw[e]at h;exact⟨b,e,eu h i⟩
 ·rw[e]at h;exact h.elim
theorem A7 {x:Str} {t:V} {tv:Value} (ha:QE X H0 Hs0 a da) (hc:PE X (.Name x p2) (tC t)) (rt:RelV t tv) (ut:∀u,RelV t u→u=tv) (T:IsTab X.K [tv] tab) (hg:Gl X "isinstance") (hm:X.mg "isinstance" = none)
  (h1:starEach [a,.Name x p2] X.env=(false,eval a X.env)::starEach [.Name x p2] X.env) (h2:starEach [.Name x p2] X.env=[(false,eval (.Name x p2) X.env)])
  (hpl:(backTo pos (starEach [.Name x p2] X.env)).any (·.1)=false):QE X H0 Hs0 (.Call (.Name "isinstance" p1) [a,.Name x p2] [] pos) (e1 (dt tab) da):=by
 have cr:gH X (.builtin "isinstance") (fun xs H Q=>∃Hs y p b,xs=[y,t]∧aL Hs H∧Rep X.K Hs y p∧dt tab p=.ok (.bl b)∧Q (.bl b) H):=by
  intro pins s σ H xs us Q I r ⟨Hs,y,p,b,e,i,rp,hb,q⟩
  subst e
  cases r with
  |cons r1 r2=>
   cases r2 with
   |cons r3 r4=>
    cases r4
    cases ut _ r3
    exact Ak I i r1 rp T hb fun tk=>⟨.bl _,H,I.tok tk,rfl,q⟩
 exact PE.imp (hI cr hg hm mz (bX ha (bX hc eB h2) h1) (by decide) (by decide) h1 hpl) fun τ H Q h=>
  RE.mono (one h) fun y H1 ⟨Hs,p,i,r,h1⟩=>by
   obtain⟨b,e,q⟩:=xJ h1 i
   exact⟨Hs,y,p,b,rfl,i,r,e,q⟩
inductive ClsL (K:aT):List Str→List Addr→Prop
 |nil:ClsL K [] []
 |cons {x:Str} {C:Addr} {xs:List Str} {Cs:List Addr}:aC K x C→ClsL K xs Cs→ClsL K (x::xs) (C::Cs)
theorem nk:∀{Cs:List Addr}{us:List Value},Vals (Cs.map V.ref) us→us=Cs.map Value.ref
 |[],_,.nil=>rfl
 |C::Cs,_,.cons r t=>by
  cases (show _=Value.ref C from r)
  rw[nk t]
  rfl
def A3(Cs:List Addr):TA:=fun _ H Q=>Q (Cs.map V.ref) H
theorem tE:∀{es:List Expr}{Cs:List Addr},(∀(i:Nat)(e:Expr)(C:Addr),es[i]? = some e→Cs[i]? = some C→PE X e (tC (.ref C)))→es.length=Cs.length→(∀i,starEach (es.drop i) X.env=(es.drop i).map fun e=>(false,eval e X.env))→PA X es (A3 Cs)
 |[],[],_,_,_=>eB
 |e::es,C::Cs,h,hl,hs=>by
  have h1:=h 0 e C rfl rfl
  have h2:=tE (es:=es) (Cs:=Cs) (fun i e' C' a b=>h (i+1) e' C' (by simpa using a) (by simpa using b)) (by simpa using hl) (fun i=>by have:=hs (i+1);simpa using this)
  have s0:=hs 0
  have s1:=hs 1
  simp only[List.drop_zero,aau]at s0
  simp only[List.drop_succ_cons,List.drop_zero]at s1
  exact fun pos pins s σ H Q I q=>bX h1 h2 (by rw[s0,s1]) pos pins s σ H Q I q
theorem B6 {es:List Expr} {Cs:List Addr} {k:Nat} {tp:Pos} (ha:QE X H0 Hs0 a da) (hc:PA X es (A3 Cs)) (hz:Cs.length≤1000) (T:IsTab X.K (Cs.map Value.ref) tab) (hg:Gl X "isinstance") (hm:X.mg "isinstance" = none)
  (h1:starEach [a,.Tuple es k tp] X.env=(false,eval a X.env)::starEach [.Tuple es k tp] X.env) (h2:starEach [.Tuple es k tp] X.env=[(false,eval (.Tuple es k tp) X.env)])
  (hpl:(backTo pos (starEach [.Tuple es k tp] X.env)).any (·.1)=false):QE X H0 Hs0 (.Call (.Name "isinstance" p1) [a,.Tuple es k tp] [] pos) (e1 (dt tab) da):=by
 have cr:gH X (.builtin "isinstance") (fun xs H Q=>∃Hs y q p b,xs=[y,.ref q]∧aL Hs H∧Rep X.K Hs y p∧H q=some (.tup (Cs.map V.ref))∧dt tab p=.ok (.bl b)∧Q (.bl b) H):=by
  intro pins s σ H xs us Q I r ⟨Hs,y,q,p,b,e,i,rp,hq,hb,k⟩
  subst e
  cases r with
  |cons r1 r2=>
   cases r2 with
   |cons r3 r4=>
    cases r4
    cases (show _=Value.ref q from r3)
    obtain⟨z,its,rv,ht⟩:=I.hok q _ hq
    cases nk rv
    exact Aj I i r1 rp ht T hb fun tk=>⟨.bl _,H,I.tok tk,rfl,k⟩
 exact PE.imp (hI cr hg hm mz (bX ha (bX (rJ hc) eB h2) h1) (by decide) (by decide) h1 hpl) fun τ H Q h=>
  RE.mono (one h) fun y H1 ⟨Hs,p,i,r,h1⟩=>by
   obtain⟨b,e,_⟩:=xJ h1 i
   refine⟨k9 (by rw[aad];omega),fun q hq=>⟨Hs,y,q,p,b,rfl,i.trans (aX hq),r,ak,e,?_⟩⟩
   rw[e]at h1
   exact h1 _ (upd Hs q _) _ (.new i hq) (.bl b)
end
open PySem.W (kitAny)
def Ax:Res Fl→Res PV
 |.ok (.ret p)=>.ok p
 |.ok (.next _)=>.ok .non
 |.err c=>.err c
 |_=>.stuck
def uK(n m:Nat)(d:DS)(ps:List PV):Res PV:=if ps.length=n then Ax (d (cM m ps)) else .stuck
theorem sZ{n m:Nat}{d:DS}{ps:List PV}(h:ps.length=n):uK n m d ps=Ax (d (cM m ps)):=if_pos h
theorem zh{n m:Nat}{d:DS}{ps:List PV}(h:ps.length≠n):uK n m d ps=.stuck:=if_neg h
section
variable {P:Program}{w:World}{K:aT}{mg:Str→Option Value}{base h:Heap}
theorem De{x qual:Str}{st:Stmt}{f:Addr}{fd:FuncData}{N ps:List Str}{k:Nat}{d:DS}(F:Fun K x qual st f fd)(S:FnScope N ps (af st))
  (hbody:∀(cdv:Value)(A:Around)(outer:List Env)(s:Shared)(H Hs:Hp)(E:XK),Room k (A.deeper (envOfC qual (af st) s.heap.objs.size f cdv)) →
   QSs (gP (CXG P w) P w K mg base N qual (af st) f cdv A outer s H E) H Hs (aS st) d):
  FnOk P w K mg base (CXG P w) (k+1) f fd ps (Fsp K ps.length (uK ps.length N.length d)):=by
 have hpl:ps.length≤N.length:=by have:=congrArg List.length S.pre;rw[aaD]at this;omega
 refine jB F S (fun vs H Q E h=>h.1) (fun cdv A outer s H vs Q E hr h=>?_)
 obtain⟨hl,Hs,qs,i,r,h⟩:=h
 refine⟨_,hbody cdv A outer s H Hs E hr,Hs,cM N.length qs,SR.start i r (by omega),?_⟩
 rw[sZ (by rw[←r.length,hl])]at h
 generalize d (cM N.length qs)=rr at h ⊢
 cases rr with
 |ok fl=>
  cases fl with
  |next σ'=>exact fun Hs' H' τ' _ S'=>h _ Hs' H' S'.g .non
  |ret p=>exact fun v Hs' H' g rv=>h v Hs' H' g rv
  |brk σ'=>exact h.elim
  |cont σ'=>exact h.elim
 |err c=>exact Di fun C Hs1 H1 hc g=>h C Hs1 H1 hc g
 |stuck=>exact h
end
section
variable {K:aT}{x g c:Str}{C G:Addr}
theorem Dg (a:aC K x C) (q:abJ K C [.type "ValueError",.type "Exception",.type "BaseException",.type "object"] "ValueError.__new__" = true):ExcAt K x:=⟨C,a,q⟩
theorem AJ:Caught K g []:=⟨fun c h=>nomatch h⟩
theorem AI{cs:List Str}(a:aC K g G)(b:aC K c C)(e:PySem.W.exmOne K (.ref C) (.ref G)=some true)(r:Caught K g cs):Caught K g (c::cs):=⟨fun d hd=>by
 rcases List.mem_cons.mp hd with rfl|hd
 ·exact⟨G,C,a,b,e⟩
 ·exact r.h d hd⟩
theorem rY {t:List Value} (n:kitAny K (.type "NoneType") t=some false):IsTab K t []:=⟨n,fun c b h=>nomatch h⟩
theorem rX{t:List Value}{v:Bool}{tab:List (Str×Bool)}(b:aC K c C)(q:qD K C=true)(e:kitAny K (.ref C) t=some v)(r:IsTab K t tab):IsTab K t ((c,v)::tab):=⟨r.non,fun d w hd=>by
 rw[aam]at hd
 split at hd
 ·rename_i hb
  have:d=c:=by simpa using hb
  subst this
  cases hd
  exact⟨C,b,q,e⟩
 ·exact r.exc d w hd⟩
structure IsOwn (K:aT) (g:Str) (tab:List (Str×Bool)):Prop where
 ex:∃G:Addr,aC K g G∧IsTab K [.ref G] tab
structure IsMany (K:aT) (gs:List Str) (tab:List (Str×Bool)):Prop where
 ex:∃Cs:List Addr,ClsL K gs Cs∧IsTab K (Cs.map Value.ref) tab
end
section
variable {X:Cx}{H0 Hs0:Hp}{a:Expr}{da:DE}{es:List Expr}{ra:DA}{pos p1 p2 p:Pos}{tab:List (Str×Bool)}{x g t:Str}
def KGl(X:Cx):Prop:=∀(y:Str)(C:Addr),aC X.K y C→X.mg y=some (.ref C)
theorem ClsL.get{K:aT}{gs:List Str}{Cs:List Addr}(h:ClsL K gs Cs):gs.length=Cs.length∧∀(i:Nat)(y:Str)(C:Addr),gs[i]? = some y→Cs[i]? = some C→aC K y C:=by
 induction h with
 |nil=>exact⟨rfl,fun i y C h=>by simp at h⟩
 |cons a _ ih=>
  refine⟨by simp[ih.1],fun i y C e1 e2=>?_⟩
  cases i with
  |zero=>simp at e1 e2;subst e1 e2;exact a
  |succ i=>exact ih.2 i y C (by simpa using e1) (by simpa using e2)
theorem Bm {np cpos cp:Pos} {j} (hx:ExcAt X.K x) (hc:X.calm=true:=by rfl) (hg:Gl X x:=by rfl) (hd:(x==("__debug__":Str))=false:=by decide) (hst:X.stack=X.env::X.outer:=by rfl):
  XS X H0 Hs0 (.Raise (some (.Call (.Name x np) [.Constant (.str t) j cp] [] cpos)) none pos) (oG x):=⟨wu hx hc hg hd hst rfl⟩
theorem F2 {T:String} (ha:XE X H0 Hs0 a da) (hx:bootBuiltins x=some (.type T)) (I:IsTab X.K [.type T] tab) (hm:X.mg "isinstance" = none) (hm2:X.mg x=none) (hg:Gl X "isinstance":=by rfl) (hg2:Gl X x:=by rfl) (hn:x≠"__name__":=by decide)
  (hdb:(x==("__debug__":Str))=false:=by decide) (h1:noStar a=true:=by rfl):XE X H0 Hs0 (.Call (.Name "isinstance" p1) [a,.Name x p2] [] pos) (e1 (dt tab) da):=
 ⟨A7 ha.h (tD (v:=.ty T) hg2 hm2 hx rfl hn hdb) rfl (fun u r=>r) I hg hm (aA h1) rfl rfl⟩
theorem F1 (ha:XE X H0 Hs0 a da) (I:IsOwn X.K g tab) (KG:KGl X) (hm:X.mg "isinstance" = none) (hg:Gl X "isinstance":=by rfl) (hg2:Gl X g:=by rfl)
  (hdb:(g==("__debug__":Str))=false:=by decide) (h1:noStar a=true:=by rfl):XE X H0 Hs0 (.Call (.Name "isinstance" p1) [a,.Name g p2] [] pos) (e1 (dt tab) da):=by
 obtain⟨G,hG,T⟩:=I.ex
 exact⟨A7 ha.h (tw (v:=.ref G) hg2 (KG g G hG) rfl hdb) rfl (fun u r=>r) T hg hm (aA h1) rfl rfl⟩
def namesOf:List Expr→Option (List Str)
 |[]=>some []
 |.Name x _::r=>(namesOf r).map (x::·)
 |_=>none
theorem j8:∀{es:List Expr}{gs:List Str},namesOf es=some gs→es.length=gs.length∧∀(i:Nat)(e:Expr),es[i]? = some e→∃y q,e=.Name y q∧gs[i]? = some y
 |[],gs,h=>by cases h;exact⟨rfl,fun i e h=>by simp at h⟩
 |.Name x q::r,gs,h=>by
  unfold namesOf at h
  cases e:namesOf r with
  |none=>rw[e]at h;cases h
  |some ys=>
   rw[e]at h
   cases h
   obtain⟨h1,h2⟩:=j8 e
   refine⟨by simp[h1],fun i e' he=>?_⟩
   cases i with
   |zero=>simp at he;subst he;exact⟨x,q,rfl,rfl⟩
   |succ i=>obtain⟨y,q',a,b⟩:=h2 i e' (by simpa using he);exact⟨y,q',a,by simpa using b⟩
def E7 (X:Cx) (gs:List Str):Bool:=gs.all fun y=>X.env.kindOf y==some .globalImplicit&&!(y==("__debug__":Str))
theorem pS{env:Env}:∀{es:List Expr},es.all noStar=true→starEach es env=es.map fun e=>(false,eval e env)
 |[],_=>rfl
 |e::es,h=>by
  rw[List.all_cons,aay]at h
  rw[aA h.1,pS h.2]
  rfl
theorem yI{es:List Expr}(h:es.all noStar=true)(i:Nat):(es.drop i).all noStar=true:=List.all_eq_true.mpr fun e he=>List.all_eq_true.mp h e (List.mem_of_mem_drop he)
theorem FY {k:Nat} {tp:Pos} {gs:List Str} (ha:XE X H0 Hs0 a da) (I:IsMany X.K gs tab) (KG:KGl X) (hm:X.mg "isinstance" = none) (hn:namesOf es=some gs:=by rfl) (hgl:E7 X gs=true:=by rfl) (hz:gs.length≤1000:=by decide) (hst:es.all noStar=true:=by rfl)
  (hg:Gl X "isinstance":=by rfl) (h1:noStar a=true:=by rfl):XE X H0 Hs0 (.Call (.Name "isinstance" p1) [a,.Tuple es k tp] [] pos) (e1 (dt tab) da):=by
 obtain⟨Cs,hL,T⟩:=I.ex
 obtain⟨l1,l2⟩:=hL.get
 obtain⟨l3,l4⟩:=j8 hn
 refine⟨B6 ha.h (tE (fun i e C he hC=>?_) (l3.trans l1) fun i=>pS (yI hst i)) (by omega) T hg hm (aA h1) rfl rfl⟩
 obtain⟨y,q,rfl,hy⟩:=l4 i e he
 have hq:=List.all_eq_true.mp hgl y (aaf hy)
 rw[aay,beq_iff_eq,Bool.not_eq_true']at hq
 exact tw (v:=.ref C) hq.1 (KG y C (l2 i y C hy hC)) rfl hq.2
end
section
variable {g:PV→PV→Res PV}{h:PV→Res PV}{a b:DE}{r:DA}{σ:PSt}{s t:DT}{c d:DS}{i j:Int}
@[simp] theorem aU{α β:Type}(x:α)(f:α→Res β):(Res.ok x).bind f=f x:=rfl
@[simp] theorem DX{α β:Type}(x:Str)(f:α→Res β):(Res.err x:Res α).bind f=.err x:=rfl
@[simp] theorem Bj{α β:Type}(f:α→Res β):(Res.stuck:Res α).bind f=.stuck:=rfl
@[simp] theorem pq:e2 g a b σ=(a σ).bind fun p=>(b σ).bind fun q=>g p q:=rfl
@[simp] theorem Fe:e1 h a σ=(a σ).bind h:=rfl
@[simp] theorem pk{p:PV}:eC p σ=.ok p:=rfl
@[simp] theorem Dm{f:List PV→Res PV}:eA f r σ=(r σ).bind f:=rfl
@[simp] theorem sO:ag σ=.ok []:=rfl
@[simp] theorem pG:aa a r σ=(a σ).bind fun p=>(r σ).bind fun ps=>.ok (p::ps):=rfl
@[simp] theorem Hd:qF a b σ=(a σ).bind fun p=>(asB p).bind fun c=>if c=true then b σ else .ok (.bl false):=rfl
@[simp] theorem qR{k:Bool}:asB (.bl k)=.ok k:=rfl
@[simp] theorem Gx{k:Bool}:uW (.bl k)=.ok (.bl (!k)):=rfl
@[simp] theorem uB:tV a σ=(a σ).bind asB:=rfl
@[simp] theorem Bx:G.kq s t σ=(s σ).bind fun c=>if c=true then t σ else .ok false:=rfl
@[simp] theorem Hr:G.tOr s t σ=(s σ).bind fun c=>if c=true then .ok true else t σ:=rfl
@[simp] theorem Bv:G.dm s σ=(s σ).bind fun c=>.ok (!c):=rfl
@[simp] theorem GL:dG (.int i) (.int j)=.ok (.int (i+j)):=rfl
@[simp] theorem wZ:eO (.int i) (.int j)=.ok (.int (i-j)):=rfl
theorem oS(h:IntMulOk i j):bc (.int i) (.int j)=.ok (.int (i*j)):=if_pos h
theorem cF(h:j≠0)(h':Builtin.Int.intBits j≤9000):a9 (.int i) (.int j)=.ok (.int (i.fdiv j)):=if_pos ⟨h,h'⟩
theorem rN(h:j≠0):bA (.int i) (.int j)=.ok (.int (i.fmod j)):=if_pos h
theorem Cw(h:0≤j)(h':j≤1000000)(h'':i.natAbs<2 ^ 64):jq (.int i) (.int j)=.ok (.int (i ^ j.toNat)):=if_pos ⟨h,h',h''⟩
@[simp] theorem w5:ky (.int i)=.ok (.int (-i)):=rfl
@[simp] theorem Cy{f:Int→Int→Bool}:eQ f (.int i) (.int j)=.ok (.bl (f i j)):=rfl
@[simp] theorem tG:pEq (.int i) (.int j)=.ok (.bl (decide (i=j))):=by
 show Res.ok (PV.bl (peq (.int i) (.int j)))=_
 rw[show peq (.int i) (.int j)=(i==j) by rw[peq],abi]
@[simp] theorem Ht:pNe (.int i) (.int j)=.ok (.bl (!decide (i=j))):=by
 show Res.ok (PV.bl (!peq (.int i) (.int j)))=_
 rw[show peq (.int i) (.int j)=(i==j) by rw[peq],abi]
@[simp] theorem Hx{i j:Bool}:pEq (.bl i) (.bl j)=.ok (.bl (decide (i=j))):=by
 show Res.ok (PV.bl (peq (.bl i) (.bl j)))=_
 rw[show peq (.bl i) (.bl j)=(i==j) by rw[peq],abi]
@[simp] theorem Hu{i j:Bool}:pNe (.bl i) (.bl j)=.ok (.bl (!decide (i=j))):=by
 show Res.ok (PV.bl (!peq (.bl i) (.bl j)))=_
 rw[show peq (.bl i) (.bl j)=(i==j) by rw[peq],abi]
@[simp] theorem GD{T:String}:gM T .non=.ok (.bl (d6 (tyName .non) T)):=rfl
@[simp] theorem GJ{T:String}{x:Bool}:gM T (.bl x)=.ok (.bl (d6 (tyName (.bl x)) T)):=rfl
@[simp] theorem GG{T:String}{x:Int}:gM T (.int x)=.ok (.bl (d6 (tyName (.int x)) T)):=rfl
@[simp] theorem GC{T:String}{x:Str}:gM T (.str x)=.ok (.bl (d6 (tyName (.str x)) T)):=rfl
@[simp] theorem GB{T:String}{x:List PV}:gM T (.tup x)=.ok (.bl (d6 (tyName (.tup x)) T)):=rfl
@[simp] theorem GF{T:String}{x:List PV}:gM T (.lst x)=.ok (.bl (d6 (tyName (.lst x)) T)):=rfl
@[simp] theorem GI{T:String}{x:List Int}:gM T (.scr x)=.ok (.bl (d6 (tyName (.scr x)) T)):=rfl
@[simp] theorem GH{T:String}:gM T .dic=.ok (.bl (d6 (tyName .dic) T)):=rfl
@[simp] theorem Fv{T:String}{ns:List Str}{ps:List PV}:gM T (.dct ns ps)=.ok (.bl (d6 (tyName (.dct ns ps)) T)):=rfl
@[simp] theorem Hh:sI [.int i]=.ok (.int (if i<0 then -i else i)):=rfl
@[simp] theorem DD:yD [.int i,.int j]=.ok (.int (if j>i then j else i)):=rfl
@[simp] theorem DC:yC [.int i,.int j]=.ok (.int (if j<i then j else i)):=rfl
@[simp] theorem tJ{p:PV}:noErr (.ok p)=.ok p:=rfl
@[simp] theorem Fs:bo σ=.ok (.next σ):=rfl
@[simp] theorem fA:az c d σ=(c σ).bind fun f=>match f with
 |.next σ'=>d σ'
 |f=>.ok f:=rfl
@[simp] theorem vY:aY a σ=(a σ).bind fun p=>.ok (.ret p):=rfl
@[simp] theorem g5:sIf t c d σ=(t σ).bind fun k=>if k=true then c σ else d σ:=rfl
@[simp] theorem jN{k:Nat}:aO k a σ=(a σ).bind fun p=>.ok (.next (σ.set k (some (.sh p)))):=rfl
@[simp] theorem lI{it:DI}{gg:DG}:gK it gg c σ=(it σ).bind fun ps=>dQ gg c ps σ:=rfl
@[simp] theorem tX:itE a σ=(a σ).bind fT:=rfl
@[simp] theorem E2{f:List PV→Res (List PV)}:itR f r σ=(r σ).bind f:=rfl
@[simp] theorem EV:oNo σ=.ok none:=rfl
@[simp] theorem GP:oE a σ=(a σ).bind asI:=rfl
@[simp] theorem Fi:asI (.int i)=.ok (some i):=rfl
@[simp] theorem Fd{lo hi:DO}:eSl a lo hi σ=(a σ).bind fun p=>(lo σ).bind fun l=>(hi σ).bind fun h=>pSl p l h:=rfl
@[simp] theorem E9{gg:DG}:dQ gg c [] σ=.ok (.next σ):=rfl
theorem dP{gg:DG}{p:PV}{ps:List PV}{σ1:PSt}(h:gg p σ=.ok σ1):dQ gg c (p::ps) σ=(c σ1).bind fun f=>match f with
   |.next σ'=>dQ gg c ps σ'
   |.cont σ'=>dQ gg c ps σ'
   |.brk σ'=>.ok (.next σ')
   |.ret p=>.ok (.ret p):=by
 show(match gg p σ with | .ok σ1=>_|_=>_)=_
 rw[h]
 all_goals rfl
@[simp] theorem Gv{p q:PV}:bB [p,q]=.ok (.tup [p,q]):=rfl
@[simp] theorem Gu{p q r:PV}:bB [p,q,r]=.ok (.tup [p,q,r]):=rfl
@[simp] theorem Aw{p:PV}:fin (.ok (.ret p))=.ok p:=rfl
end
theorem iQ{m:Nat}{d:DS}{p:PV}:bz 1 m d [p]=fin (d (some (.sh p)::aaS (m-1) none)):=(iz rfl).trans rfl
theorem gL{m:Nat}{d:DS}{p q:PV}:bz 2 m d [p,q]=fin (d (some (.sh p)::some (.sh q)::aaS (m-2) none)):=(iz rfl).trans rfl
theorem rA{m:Nat}{d:DS}{p q r:PV}:bz 3 m d [p,q,r]=fin (d (some (.sh p)::some (.sh q)::some (.sh r)::aaS (m-3) none)):=(iz rfl).trans rfl
theorem Gk{m:Nat}{d:DS}{p q r s t:PV}:bz 5 m d [p,q,r,s,t]=fin (d (some (.sh p)::some (.sh q)::some (.sh r)::some (.sh s)::some (.sh t)::aaS (m-5) none)):=(iz rfl).trans rfl
theorem uf{gg:DG}{c:DS}(I:PSt→Prop)(P:PV→Prop)(h:∀p σ,P p→I σ→∃σ1 σ',gg p σ=.ok σ1∧c σ1=.ok (.next σ')∧I σ'):
  ∀(ps:List PV),(∀p∈ps,P p)→∀σ,I σ→∃σ',dQ gg c ps σ=.ok (.next σ')∧I σ'
 |[],_,σ,i=>⟨σ,rfl,i⟩
 |p::ps,hp,σ,i=>by
  obtain⟨σ1,σ2,h1,h2,h3⟩:=h p σ (hp p aaL) i
  obtain⟨σ3,h4,h5⟩:=uf I P h ps (fun q hq=>hp q (aan _ hq)) σ2 h3
  refine⟨σ3,?_,h5⟩
  rw[dP h1,h2]
  exact h4
theorem rD{lo c:Int}{n:Nat}{p:PV}(h:p∈dn lo c n):∃i:Nat,i<n∧p=.int (lo+i*c):=by
 unfold dn at h
 obtain⟨i,hi,rfl⟩:=List.mem_map.mp h
 exact⟨i,List.mem_range.mp hi,rfl⟩
open Builtin.Int (intBits) in
theorem mulR{i j:Int}(h1:-(2 ^ 64)<j)(h2:j<2 ^ 64):IntMulOk i j:=.of_right (intBits_le_64 h1 h2)
open Builtin.Int (intBits) in
theorem mulL{i j:Int}(h1:-(2 ^ 64)<i)(h2:i<2 ^ 64):IntMulOk i j:=.of_left (intBits_le_64 h1 h2)
theorem DJ{α:Type}{xs:List α}{k:Int}(h0:0≤k)(h:k<xs.length):∃x,atI xs k=some x∧x∈xs:=by
 have hk:k.toNat<xs.length:=by omega
 refine⟨xs[k.toNat],?_,abH _⟩
 have e:k=((k.toNat:Nat):Int):=by omega
 have q:atI xs ((k.toNat:Nat):Int)=some xs[k.toNat]:=AQ (by simp[hk])
 rw[←e]at q
 exact q
section
variable {p:PV}{σ:PSt}{db:DE}{xs:List PV}{x0 x1 x2 x3 x4 x5 x6 x7 x8 x9 x10 x11 x12 x13 x14 x15 x16 x17 x18 x19 x20 x21 x22 x23 x24 x25:Option SV}
@[simp] theorem ja:ae 0 (some (.sh p)::σ)=.ok p:=rfl
@[simp] theorem Hc:aw 0 db (some (.sh p)::σ)=(db (some (.sh p)::σ)).bind fun q=>pIx p q:=rfl
@[simp] theorem Az:gG 0 (some (.sh p)::σ)=qQ [p]:=rfl
@[simp] theorem Dk:ae 1 (x0::some (.sh p)::σ)=.ok p:=rfl
@[simp] theorem Hb:aw 1 db (x0::some (.sh p)::σ)=(db (x0::some (.sh p)::σ)).bind fun q=>pIx p q:=rfl
@[simp] theorem Dl:aw 1 db (x0::some (.own xs)::σ)=(db (x0::some (.own xs)::σ)).bind fun q=>pIx (.lst xs) q:=rfl
@[simp] theorem AA:gG 1 (x0::some (.own xs)::σ)=.ok (.int xs.length):=rfl
@[simp] theorem xZ:ae 2 (x0::x1::some (.sh p)::σ)=.ok p:=rfl
@[simp] theorem Ha:aw 2 db (x0::x1::some (.sh p)::σ)=(db (x0::x1::some (.sh p)::σ)).bind fun q=>pIx p q:=rfl
@[simp] theorem Dj:ae 3 (x0::x1::x2::some (.sh p)::σ)=.ok p:=rfl
@[simp] theorem G9:aw 3 db (x0::x1::x2::some (.sh p)::σ)=(db (x0::x1::x2::some (.sh p)::σ)).bind fun q=>pIx p q:=rfl
@[simp] theorem G6:ae 4 (x0::x1::x2::x3::some (.sh p)::σ)=.ok p:=rfl
@[simp] theorem G8:aw 4 db (x0::x1::x2::x3::some (.sh p)::σ)=(db (x0::x1::x2::x3::some (.sh p)::σ)).bind fun q=>pIx p q:=rfl
@[simp] theorem FA:gG 4 (x0::x1::x2::x3::some (.sh p)::σ)=qQ [p]:=rfl
@[simp] theorem G5:ae 5 (x0::x1::x2::x3::x4::some (.sh p)::σ)=.ok p:=rfl
@[simp] theorem G4:ae 6 (x0::x1::x2::x3::x4::x5::some (.sh p)::σ)=.ok p:=rfl
@[simp] theorem G7:aw 6 db (x0::x1::x2::x3::x4::x5::some (.sh p)::σ)=(db (x0::x1::x2::x3::x4::x5::some (.sh p)::σ)).bind fun q=>pIx p q:=rfl
@[simp] theorem G3:ae 7 (x0::x1::x2::x3::x4::x5::x6::some (.sh p)::σ)=.ok p:=rfl
@[simp] theorem G1:ae 8 (x0::x1::x2::x3::x4::x5::x6::x7::some (.sh p)::σ)=.ok p:=rfl
@[simp] theorem G0:ae 9 (x0::x1::x2::x3::x4::x5::x6::x7::x8::some (.sh p)::σ)=.ok p:=rfl
@[simp] theorem Fz:ae 10 (x0::x1::x2::x3::x4::x5::x6::x7::x8::x9::some (.sh p)::σ)=.ok p:=rfl
@[simp] theorem Fy:ae 11 (x0::x1::x2::x3::x4::x5::x6::x7::x8::x9::x10::some (.sh p)::σ)=.ok p:=rfl
@[simp] theorem FC:aw 11 db (x0::x1::x2::x3::x4::x5::x6::x7::x8::x9::x10::some (.sh p)::σ)=(db (x0::x1::x2::x3::x4::x5::x6::x7::x8::x9::x10::some (.sh p)::σ)).bind fun q=>pIx p q:=rfl
@[simp] theorem Fx:ae 12 (x0::x1::x2::x3::x4::x5::x6::x7::x8::x9::x10::x11::some (.sh p)::σ)=.ok p:=rfl
end
@[simp] theorem F6:tyName .non = "NoneType":=rfl
@[simp] theorem Hq {b}:tyName (.bl b) = "bool":=rfl
@[simp] theorem ty_int {b}:tyName (.int b) = "int":=rfl
@[simp] theorem ty_str {b}:tyName (.str b) = "str":=rfl
@[simp] theorem F4 {b}:tyName (.tup b) = "tuple":=rfl
@[simp] theorem F7 {b}:tyName (.lst b) = "list":=rfl
@[simp] theorem F5 {b}:tyName (.scr b) = "list":=rfl
@[simp] theorem F8:tyName .dic = "dict":=rfl
@[simp] theorem F9 {ns:List Str} {ps:List PV}:tyName (.dct ns ps) = "dict":=rfl
@[simp] theorem Hv{xs:List PV}{i:Int}:pIx (.tup xs) (.int i)=atR xs i id:=rfl
@[simp] theorem Bc{xs:List PV}{i:Int}:pIx (.lst xs) (.int i)=atR xs i id:=rfl
@[simp] theorem Hw{xs:List Int}{i:Int}:pIx (.scr xs) (.int i)=atR xs i PV.int:=rfl
@[simp] theorem Hg{xs:List PV}:qQ [.lst xs]=.ok (.int xs.length):=rfl
@[simp] theorem DF{xs:List Int}:qQ [.scr xs]=.ok (.int xs.length):=rfl
@[simp] theorem AS{xs:List PV}:fT (.lst xs)=.ok xs:=rfl
theorem sJ{α:Type}{xs:List α}{i:Int}{f:α→PV}{x:α}(h:atI xs i=some x):atR xs i f=.ok (f x):=by unfold atR;rw[h]
@[simp] theorem Gy{p q r:PV}:cb [p,q,r]=.ok (.lst [p,q,r]):=rfl
@[simp] theorem Gz{p:PV}:cb [p]=.ok (.lst [p]):=rfl
@[simp] theorem GA:cb []=.ok (.lst []):=rfl
@[simp] theorem FT{α:Type}{f:α→PV}{y0:α}:atR [y0] (-1) f=.ok (f y0):=rfl
@[simp] theorem FQ{α:Type}{f:α→PV}{y0 y1:α}:atR [y0,y1] 0 f=.ok (f y0):=rfl
@[simp] theorem FP{α:Type}{f:α→PV}{y0 y1:α}:atR [y0,y1] 1 f=.ok (f y1):=rfl
@[simp] theorem FN{α:Type}{f:α→PV}{y0 y1 y2:α}:atR [y0,y1,y2] 0 f=.ok (f y0):=rfl
@[simp] theorem FL{α:Type}{f:α→PV}{y0 y1 y2:α}:atR [y0,y1,y2] 1 f=.ok (f y1):=rfl
@[simp] theorem FK{α:Type}{f:α→PV}{y0 y1 y2:α}:atR [y0,y1,y2] 2 f=.ok (f y2):=rfl
@[simp] theorem FJ{α:Type}{f:α→PV}{y0 y1 y2 y3:α}:atR [y0,y1,y2,y3] 0 f=.ok (f y0):=rfl
@[simp] theorem FH{α:Type}{f:α→PV}{y0 y1 y2 y3:α}:atR [y0,y1,y2,y3] 1 f=.ok (f y1):=rfl
@[simp] theorem FG{α:Type}{f:α→PV}{y0 y1 y2 y3:α}:atR [y0,y1,y2,y3] 2 f=.ok (f y2):=rfl
@[simp] theorem FF{α:Type}{f:α→PV}{y0 y1 y2 y3:α}:atR [y0,y1,y2,y3] 3 f=.ok (f y3):=rfl
section
variable {i j:Int}
@[simp] theorem Ft(n:Nat)(h:n<18446744073709551616):bc (.int i) (.int (no_index (OfNat.ofNat n)))=.ok (.int (i*OfNat.ofNat n)):=oS (mulR (by show -(2 ^ 64)<((n:Nat):Int);omega) (by show((n:Nat):Int)<2 ^ 64;omega))
@[simp] theorem Fu(n:Nat)(h:n<18446744073709551616):bc (.int (no_index (OfNat.ofNat n))) (.int j)=.ok (.int (OfNat.ofNat n*j)):=oS (mulL (by show -(2 ^ 64)<((n:Nat):Int);omega) (by show((n:Nat):Int)<2 ^ 64;omega))
@[simp] theorem jT(n:Nat)(h:0<n):bA (.int i) (.int (no_index (OfNat.ofNat n)))=.ok (.int (i % OfNat.ofNat n)):=by
 have h0:(0:Int)<(OfNat.ofNat n:Int):=by show(0:Int)<((n:Nat):Int);omega
 rw[rN (by omega),abk _ (by omega)]
@[simp] theorem iB(n:Nat)(h:0<n)(h':n<18446744073709551616):a9 (.int i) (.int (no_index (OfNat.ofNat n)))=.ok (.int (i / OfNat.ofNat n)):=by
 have h0:(0:Int)<(OfNat.ofNat n:Int):=by show(0:Int)<((n:Nat):Int);omega
 have h1:(OfNat.ofNat n:Int)<2 ^ 64:=by show((n:Nat):Int)<2 ^ 64;omega
 rw[cF (by omega) (iS (intBits_le_64 (by omega) h1) (by decide)),Int.fdiv_eq_ediv_of_nonneg _ (by omega)]
@[simp] theorem Gw(n m:Nat)(h:n<18446744073709551616)(h':m≤1000000):jq (.int (no_index (OfNat.ofNat n))) (.int (no_index (OfNat.ofNat m)))=.ok (.int (OfNat.ofNat n ^ m)):=by
 have e:((OfNat.ofNat m:Int)).toNat=m:=by show(((m:Nat):Int)).toNat=m;omega
 rw[Cw (by show(0:Int)≤((m:Nat):Int);omega) (by show((m:Nat):Int)≤1000000;omega) (by show(((n:Nat):Int)).natAbs<2 ^ 64;omega),e]
end
section
variable {σ:PSt}
@[simp] theorem Fc{c:Str}:Ax (.err c)=.err c:=rfl
@[simp] theorem Ek{c:Str}:oG c σ=.err c:=rfl
end
theorem re2{m:Nat}{d:DS}{p q:PV}:uK 2 m d [p,q]=Ax (d (some (.sh p)::some (.sh q)::aaS (m-2) none)):=(sZ rfl).trans rfl
def cO(i:Nat)(d:DS):DS:=fun σ=>match σ[i]? with
 |some (some (.own xs))=>d (σ.set i (some (.sh (.lst xs))))
 |_=>d σ
section
variable {X:Cx}{H0 Hs0 Hs H:Hp}{σ:PSt}{τ:L2.St}{a b:Expr}{da db:DE}{pos pos' np:Pos}{i:Nat}{x:Str}
theorem SR.share{K:aT}{xs:List PV}(S:SR K H0 Hs0 Hs H σ τ)(e:σ[i]? = some (some (.own xs))):∃Hs',aL Hs Hs'∧SR K H0 Hs0 Hs' H (σ.set i (some (.sh (.lst xs)))) τ:=by
 obtain⟨v,e1,ad,vs,rfl,h1,h2,h3,h4⟩:=S.slot i _ e
 refine⟨upd Hs ad (.lst vs),cP h2,S.g.lay h1 h2 h3,fun j sv ej=>?_,fun j k xs' ys' a hjk e2 e3 e4=>?_,by rw[aas];exact S.len⟩
 ·rcases aF ej with ⟨rfl,e',_⟩|⟨hne,e'⟩
  ·cases e'
   exact⟨.ref ad,e1,.lst ak (h4.mono (cP h2))⟩
  ·obtain⟨w,w1,w2⟩:=S.slot j sv e'
   refine⟨w,w1,?_⟩
   cases sv with
   |sh p=>exact Rep.mono (cP h2) w2
   |own ys=>
    obtain⟨a',vs',rfl,q1,q2,q3,q4⟩:=w2
    have:a'≠ad:=fun z=>S.inj i j xs ys ad (Ne.symm hne) e e' e1 (by rw[←z];exact w1)
    exact⟨a',vs',rfl,q1,by rw[aj this];exact q2,q3,q4.mono (cP h2)⟩
   |flo tg now ns ps=>
    obtain⟨b,C,dx,r0,vn,vs0,rfl,tt,f⟩:=w2
    exact⟨b,C,dx,r0,vn,vs0,rfl,tt,f.ins,f.cls,f.dct,f.row,f.len,(aj fun z=>by have:=f.ins;rw[z,h1]at this;cases this).trans f.sa,(aj fun z=>by have:=f.dct;rw[z,h1]at this;cases this).trans f.sd,(aj fun z=>by have:=f.row;rw[z,h1]at this;cases this).trans f.sr,f.oa,f.od,f.or,f.now.mono (cP h2),f.rows.mono (cP h2)⟩
 ·rcases aF e2 with ⟨_,z,_⟩|⟨_,e2'⟩
  ·cases z
  ·rcases aF e3 with ⟨_,z,_⟩|⟨_,e3'⟩
   ·cases z
   ·exact S.inj j k _ _ _ hjk e2' e3' e4
theorem wt{st:Stmt}{d:DS}(i:Nat)(h:QS X H0 Hs0 st d):QS X H0 Hs0 st (cO i d):=PS.imp h fun D τ H ⟨Hs,σ,S,q⟩=>by
 unfold cO at q
 split at q
 ·rename_i xs e
  obtain⟨Hs',e',S'⟩:=S.share e
  exact⟨Hs',_,S',fH.same q e'⟩
 ·exact⟨Hs,σ,S,q⟩
theorem iX{st:Stmt}{d:DS}(i:Nat)(h:XS X H0 Hs0 st d):XS X H0 Hs0 st (cO i d):=⟨wt i h.h⟩
theorem uw:XGs X H0 Hs0 [] []:=⟨zv⟩
theorem xgs(i:Nat){is:List Nat}{es:List Expr}(h:XGs X H0 Hs0 es is)(hN:X.N.Nodup:=by assumption)(hi:X.N[i]? = some x:=by rfl)(hx:Loc X.env.scope x:=by first|exact Or.inl rfl|exact Or.inr rfl)(hf:X.fn x=true∨X.env.scope.names.lookup x=some .local:=by first|exact Or.inl rfl|exact Or.inr rfl)
  (hs:(assignEach (.Name x pos::es) X.env).map (·.2)=assign (.Name x pos) X.env::(assignEach es X.env).map (·.2):=by rfl):XGs X H0 Hs0 (.Name x pos::es) (i::is):=⟨wA hN hi hx hf h.h hs⟩
theorem xgu{is:List Nat}{es:List Expr}{k:Nat}(h:XGs X H0 Hs0 es is)(hc:X.calm=true:=by rfl)(hn:(assignEach es X.env).length=is.length:=by rfl)(hst:(assignEach es X.env).findIdx? (·.1)=none:=by rfl):XG X H0 Hs0 (.Tuple es k pos) (gU is):=⟨B1 hc h.h hn hst⟩
end
end G
namespace GS
open PySem PySem.SetTable
def kG(m:Nat)(p:Probe):Probe:=
 if p.more>0 then { p with j:=p.j+1,more:=p.more-1 } else
 { p with j:=(leap m p.i p.perturb).1,more:=runEnd m (leap m p.i p.perturb).1-(leap m p.i p.perturb).1,i:=(leap m p.i p.perturb).1,perturb:=(leap m p.i p.perturb).2 }
theorem mF(t:SetTable)(p:Probe):t.advance p=kG t.mask p:=rfl
def startM(m:Nat)(h:Int):Probe:={ j:=bits h % (m+1),more:=runEnd m (bits h % (m+1))-bits h % (m+1),i:=bits h % (m+1),perturb:=bits h,dummy:=none }
theorem Ej(t:SetTable)(h:Int):t.probeStart h=startM t.mask h:=rfl
def steps(m:Nat):Nat→Probe→Probe
 |0,p=>p
 |n+1,p=>steps m n (kG m p)
theorem fK(m:Nat):∀(a b:Nat)(p:Probe),steps m (a+b) p=steps m b (steps m a p)
 |0,b,p=>by rw[Nat.zero_add];rfl
 |a+1,b,p=>by rw[Nat.add_right_comm];exact fK m a b (kG m p)
theorem i0(m n:Nat)(p:Probe):steps m (n+1) p=kG m (steps m n p):=fK m n 1 p
structure PInv (m:Nat) (p:Probe):Prop where
 i:p.i≤m
 j:p.j+p.more≤m
 more:p.more≤9
 pert:p.perturb<2 ^ 64
 dummy:p.dummy=none
theorem jO(m i:Nat)(h:i≤m):i+(runEnd m i-i)≤m∧runEnd m i-i≤9:=by
 unfold runEnd;split<;>omega
theorem PInv.start(m:Nat)(h:Int):PInv m (startM m h):=by
 have hi:bits h % (m+1)≤m:=abb (abr _ (Nat.succ_pos _))
 have hp:bits h<2 ^ 64:=by
  unfold bits
  have h1:0≤h % (2 ^ 64:Int):=Int.emod_nonneg _ (by decide)
  have h2:h % (2 ^ 64:Int)<2 ^ 64:=Int.emod_lt_of_pos _ (by decide)
  omega
 exact⟨hi,(jO m _ hi).1,(jO m _ hi).2,hp,rfl⟩
theorem PInv.adv{m:Nat}{p:Probe}(h:PInv m p):PInv m (kG m p):=by
 unfold kG
 split
 ·exact⟨h.i,by have:=h.j;show p.j+1+(p.more-1)≤m;omega,by have:=h.more;show p.more-1≤9;omega,h.pert,h.dummy⟩
 ·have hi:(leap m p.i p.perturb).1≤m:=abb (abr _ (Nat.succ_pos _))
  exact⟨hi,(jO m _ hi).1,(jO m _ hi).2,by have:=h.pert;show p.perturb / 32<2 ^ 64;omega,h.dummy⟩
theorem PInv.steps{m:Nat}:∀(n:Nat){p:Probe},PInv m p→PInv m (steps m n p)
 |0,_,h=>h
 |n+1,_,h=>PInv.steps n h.adv
def eF(m i pert:Nat):Probe:={ j:=i,more:=runEnd m i-i,i:=i,perturb:=pert,dummy:=none }
theorem oJ(m:Nat):∀(k:Nat)(p:Probe),p.more=k→p.dummy=none→steps m (k+1) p=eF m (leap m p.i p.perturb).1 (leap m p.i p.perturb).2
 |0,p,hk,hd=>by
  show kG m p=_
  unfold kG
  rw[if_neg (by omega)]
  unfold eF;rw[hd]
 |k+1,p,hk,hd=>by
  show steps m (k+1) (kG m p)=_
  have e:kG m p = { p with j:=p.j+1,more:=p.more-1 }:=by unfold kG;rw[if_pos (by omega)]
  rw[e]
  exact oJ m k { p with j:=p.j+1,more:=p.more-1 } (by show p.more-1=k;omega) hd
def c8(m:Nat):Nat→Nat×Nat→Nat×Nat
 |0,x=>x
 |n+1,x=>c8 m n (leap m x.1 x.2)
theorem i7(m:Nat):∀(n:Nat)(x:Nat×Nat),c8 m (n+1) x=leap m (c8 m n x).1 (c8 m n x).2
 |0,x=>rfl
 |n+1,x=>i7 m n (leap m x.1 x.2)
theorem l5(m:Nat):∀(n:Nat)(x:Nat×Nat),(c8 m n x).2=x.2 / 32 ^ n
 |0,x=>by simp[c8]
 |n+1,x=>by
  rw[i7]
  show(c8 m n x).2 / 32=_
  rw[l5 m n x,Nat.div_div_eq_div_mul,Nat.pow_succ]
theorem nM(m:Nat):∀(a b:Nat)(x:Nat×Nat),c8 m (a+b) x=c8 m b (c8 m a x)
 |0,b,x=>by rw[Nat.zero_add];rfl
 |a+1,b,x=>by rw[Nat.add_right_comm];exact nM m a b _
theorem l6(m:Nat):∀(L:Nat)(i pert:Nat),i≤m→∃n,n≤10*L∧steps m n (eF m i pert)=eF m (c8 m L (i,pert)).1 (c8 m L (i,pert)).2
 |0,i,pert,_=>⟨0,by omega,rfl⟩
 |L+1,i,pert,hi=>by
  have hr:=(jO m i hi).2
  have h1:=oJ m (runEnd m i-i) (eF m i pert) rfl rfl
  have hi':(leap m i pert).1≤m:=abb (abr _ (Nat.succ_pos _))
  obtain⟨n,hn,e⟩:=l6 m L (leap m i pert).1 (leap m i pert).2 hi'
  refine⟨(runEnd m i-i+1)+n,by omega,?_⟩
  rw[fK,h1]
  exact e
def itf(m:Nat):Nat→Nat→Nat
 |0,i=>i
 |n+1,i=>itf m n ((i*5+1) % (m+1))
theorem kO(m:Nat):∀(a b:Nat)(i:Nat),itf m (a+b) i=itf m b (itf m a i)
 |0,b,i=>by rw[Nat.zero_add];rfl
 |a+1,b,i=>by rw[Nat.add_right_comm];exact kO m a b _
theorem lZ(m:Nat):∀(n i:Nat),c8 m n (i,0)=(itf m n i,0)
 |0,i=>rfl
 |n+1,i=>by
  show c8 m n (leap m i 0)=_
  have e:leap m i 0=((i*5+1) % (m+1),0):=rfl
  rw[e,lZ m n];rfl
def itl(m:Nat):Nat→Nat→List Nat
 |0,_=>[]
 |n+1,i=>i::itl m n ((i*5+1) % (m+1))
theorem o5(m:Nat):∀(n i s:Nat),s∈itl m n i→∃k,k<n∧itf m k i=s
 |0,_,_,h=>by simp[itl]at h
 |n+1,i,s,h=>by
  rcases List.mem_cons.mp h with rfl|h
  ·exact⟨0,by omega,rfl⟩
  ·obtain⟨k,hk,e⟩:=o5 m n _ s h
   exact⟨k+1,by omega,e⟩
def ff(m:Nat):Prop:=m=7∨m=31∨m=127
theorem full{m:Nat}(hm:ff m):itf m (m+1) 0=0∧∀s,s<m+1→s∈itl m (m+1) 0:=by
 rcases hm with rfl|rfl|rfl<;>exact⟨by decide +kernel,by decide +kernel⟩
theorem cover{m:Nat}(hm:ff m){i s:Nat}(hi:i≤m)(hs:s≤m):∃k,k≤m∧itf m k i=s:=by
 obtain⟨hz,hf⟩:=full hm
 obtain⟨a,ha,ea⟩:=o5 m _ 0 i (hf i (by omega))
 obtain⟨b,hb,eb⟩:=o5 m _ 0 s (hf s (by omega))
 by_cases h:a≤b
 ·refine⟨b-a,by omega,?_⟩
  rw[←ea,←kO,show a+(b-a)=b by omega];exact eb
 ·refine⟨m+1-a+b,by omega,?_⟩
  rw[←ea,←kO,show a+(m+1-a+b)=m+1+b by omega,kO,hz];exact eb
theorem kg{m:Nat}(hm:ff m){i pert s:Nat}(hp:pert<2 ^ 64)(hs:s≤m):∃L,L<m+14∧(c8 m L (i,pert)).1=s:=by
 have h13:(c8 m 13 (i,pert)).2=0:=by rw[l5];show pert / 32 ^ 13=0;exact Nat.div_eq_of_lt (abF hp (by decide))
 have hi:(c8 m 13 (i,pert)).1≤m:=by
  rw[i7];exact abb (abr _ (Nat.succ_pos _))
 obtain⟨k,hk,e⟩:=cover hm hi hs
 refine⟨13+k,by omega,?_⟩
 rw[nM]
 have:c8 m 13 (i,pert)=((c8 m 13 (i,pert)).1,0):=by rw[←h13]
 rw[this,lZ];exact e
theorem qU{m:Nat}(hm:ff m)(h:Int){s:Nat}(hs:s≤m):∃n,n<10*(m+15)∧(steps m n (startM m h)).j=s:=by
 have hP:=PInv.start m h
 obtain⟨L,hL,e⟩:=kg hm (i:=bits h % (m+1)) (pert:=bits h) hP.pert hs
 obtain⟨n,hn,e2⟩:=l6 m L (bits h % (m+1)) (bits h) hP.i
 refine⟨n,by omega,?_⟩
 have:startM m h=eF m (bits h % (m+1)) (bits h):=rfl
 rw[this,e2];exact e
def pH(xs:Array Nat):Prop:=∀i j a b:Nat,i<j→xs[i]? = some a→xs[j]? = some b→a<b
theorem yB(xs:Array Nat)(j:Nat)(hr:pH xs):∀(fuel lo hi:Nat),hi-lo≤fuel→lo≤hi→hi≤xs.size →
  (∀i a:Nat,i<lo→xs[i]? = some a→a<j)→(∀i a:Nat,hi≤i→xs[i]? = some a→j≤a) →
  (∀i a:Nat,i<below.go xs j fuel lo hi→xs[i]? = some a→a<j)∧(∀i a:Nat,below.go xs j fuel lo hi≤i→xs[i]? = some a→j≤a)∧below.go xs j fuel lo hi≤xs.size:=by
 intro fuel
 induction fuel with
 |zero=>
  intro lo hi h1 h2 h3 hl hh
  have e:lo=hi:=by omega
  subst e
  exact⟨hl,hh,h3⟩
 |succ fuel ih=>
  intro lo hi h1 h2 h3 hl hh
  unfold below.go
  by_cases hlt:lo<hi
  ·rw[if_pos hlt]
   have hm1:lo≤(lo+hi) / 2:=by omega
   have hm2:(lo+hi) / 2<hi:=by omega
   have hms:(lo+hi) / 2<xs.size:=by omega
   have hg:xs[(lo+hi) / 2]? = some (xs.getD ((lo+hi) / 2) j):=by
    simp[abK,hms]
   show(∀i a:Nat,i<(if xs.getD ((lo+hi) / 2) j<j then _ else _)→_)∧_∧_
   by_cases hc:xs.getD ((lo+hi) / 2) j<j
   ·simp only[hc,if_true]
    refine ih ((lo+hi) / 2+1) hi (by omega) (by omega) h3 ?_ hh
    intro i a hi' ha
    by_cases hle:i<(lo+hi) / 2
    ·exact abF (hr i _ a _ hle ha hg) hc
    ·have:i=(lo+hi) / 2:=by omega
     subst this
     rw[ha]at hg
     rw[Option.some.inj hg];exact hc
   ·simp only[hc,if_false]
    refine ih lo ((lo+hi) / 2) (by omega) (by omega) (by omega) hl ?_
    intro i a hi' ha
    by_cases hle:(lo+hi) / 2<i
    ·exact iS (Nat.not_lt.mp hc) (abG (hr _ i _ a hle hg ha))
    ·have:i=(lo+hi) / 2:=by omega
     subst this
     rw[ha]at hg
     rw[Option.some.inj hg];exact Nat.not_lt.mp hc
  ·rw[if_neg hlt]
   have e:lo=hi:=by omega
   subst e
   exact⟨hl,hh,h3⟩
theorem c5(xs:Array Nat)(j:Nat)(hr:pH xs):
  (∀i a:Nat,i<below xs j→xs[i]? = some a→a<j)∧(∀i a:Nat,below xs j≤i→xs[i]? = some a→j≤a)∧below xs j≤xs.size:=
 yB xs j hr xs.size 0 xs.size (by omega) (by omega) (gO _) (fun _ _ h=>absurd h (Nat.not_lt_zero _)) (fun i a h ha=>by
  have:i<xs.size:=by
   rcases aaj i xs.size with q|q
   ·exact q
   ·rw[aap q]at ha;cases ha
  omega)
theorem below_at{xs:Array Nat}(hr:pH xs){i j:Nat}(h:xs[i]? = some j):below xs j=i:=by
 obtain⟨h1,h2,h3⟩:=c5 xs j hr
 have ni:¬i<below xs j:=fun q=>aaR _ (h1 i j q h)
 rcases aaj (below xs j) i with q|q
 ·have hb:below xs j<xs.size:=by
   have:i<xs.size:=by
    rcases aaj i xs.size with q|q
    ·exact q
    ·rw[aap q]at h;cases h
   omega
  have g:xs[below xs j]? = some xs[below xs j]:=aac hb
  have:=hr _ i _ j q g h
  have:=h2 _ _ (gO _) g
  omega
 ·omega
theorem eX{t:SetTable}(hr:pH t.place){i j:Nat}(h:t.place[i]? = some j):t.slot j=.live i:=by
 unfold SetTable.slot
 simp only[below_at hr h,h,beq_self_eq_true,if_true]
theorem q9{t:SetTable}(hd:t.dummies = #[]){j:Nat}(h:∀i:Nat,t.place[i]?≠some j):t.slot j=.empty:=by
 unfold SetTable.slot
 have:(t.place[below t.place j]? == some j)=false:=by
  cases hb:(t.place[below t.place j]? == some j) with
  |false=>rfl
  |true=>exact absurd (by simpa using hb) (h _)
 have h2:has #[] j=false:=by unfold has;simp
 simp only[this,hd,h2,iN,if_false]
def fi(xs:Array Nat)(j:Nat):Prop:=∃i:Nat,xs[i]? = some j
def Reach(m:Nat)(xs:Array Nat)(h:Int)(j:Nat):Prop:=∃n,(steps m n (startM m h)).j=j∧∀k,k<n→fi xs (steps m k (startM m h)).j
theorem Reach.mono{m:Nat}{xs ys:Array Nat}{h:Int}{j:Nat}(r:Reach m xs h j)(q:∀k,fi xs k→fi ys k):Reach m ys h j:=
 let⟨n,e,a⟩:=r;⟨n,e,fun k hk=>q _ (a k hk)⟩
structure TInv (t:SetTable) (hs:List Int):Prop where
 mask:ff t.mask
 nd:t.dummies = #[]
 size:t.place.size=hs.length
 rise:pH t.place
 le:∀j,fi t.place j→j≤t.mask
 room:t.place.size*5<t.mask*3
 reach:∀(i j:Nat)(h:Int),t.place[i]? = some j→hs[i]? = some h→Reach t.mask t.place h j
theorem ny(m:Nat)(xs:Array Nat)(h:xs.size≤m):∃s,s≤m∧¬fi xs s:=by
 apply Classical.byContradiction
 intro hc
 have hall:∀s,s<m+1→s∈xs.toList:=fun s hs=>Classical.byContradiction fun hn=>hc ⟨s,by omega,fun ⟨i,hi⟩=>hn (by
  rw[←oR]at hi;exact aaf hi)⟩
 have:(aaN (m+1)).length≤xs.toList.length:=by
  have key:∀(l:List Nat),l.Nodup→∀(r:List Nat),(∀x∈l,x∈r)→l.length≤r.length:=by
   intro l
   induction l with
   |nil=>intro _ r _;exact aaH _
   |cons a l ih=>
    intro hn r hr
    have ha:=hr a (.head _)
    have h2:=ih (List.nodup_cons.mp hn).2 (r.erase a) (fun x hx=>by
     have hxa:x≠a:=fun e=>(List.nodup_cons.mp hn).1 (e▸hx)
     exact(List.mem_erase_of_ne hxa).mpr (hr x (.tail _ hx)))
    rw[List.length_erase_of_mem ha]at h2
    have:0<r.length:=List.length_pos_of_mem ha
    simp only[iF];omega
  exact key _ List.nodup_range _ fun x hx=>hall x (List.mem_range.mp hx)
 rw[abA,aag]at this
 omega
theorem sA{t:SetTable}{hs:List Int}(T:TInv t hs)(h:Int):∃N,N<10*(t.mask+15)∧¬fi t.place (steps t.mask N (startM t.mask h)).j∧∀k,k<N→fi t.place (steps t.mask k (startM t.mask h)).j:=by
 obtain⟨s,hs',hf⟩:=ny t.mask t.place (by have:=T.room;omega)
 obtain⟨n,hn,e⟩:=qU T.mask h hs'
 have key:∀n,¬fi t.place (steps t.mask n (startM t.mask h)).j→∃N,N≤n∧¬fi t.place (steps t.mask N (startM t.mask h)).j∧∀k,k<N→fi t.place (steps t.mask k (startM t.mask h)).j:=by
  intro n
  induction n using Nat.strongRecOn with
  |_ n ih=>
   intro hn
   by_cases hk:∀k,k<n→fi t.place (steps t.mask k (startM t.mask h)).j
   ·exact⟨n,gO _,hn,hk⟩
   ·obtain⟨k,hk2⟩:=Classical.not_forall.mp hk
    obtain⟨hk3,hk4⟩:=Classical.not_imp.mp hk2
    obtain⟨N,hN,a,b⟩:=ih k hk3 hk4
    exact⟨N,by omega,a,b⟩
 obtain⟨N,hN,a,b⟩:=key n (by rw[e];exact hf)
 exact⟨N,by omega,a,b⟩
theorem rG{t:SetTable}{hs:List Int}(T:TInv t hs)(hashAt:Nat→Int)(h:Int){N:Nat}
  (hN:¬fi t.place (steps t.mask N (startM t.mask h)).j) (hb:∀k,k<N→fi t.place (steps t.mask k (startM t.mask h)).j):
  ∀(fuel n:Nat),n≤N→N-n<fuel →
   SetTable.probe.go t hashAt h fuel (steps t.mask n (startM t.mask h))=some (.empty (steps t.mask N (startM t.mask h)).j none)∧(∀k i:Nat,n≤k→k<N→t.place[i]? = some (steps t.mask k (startM t.mask h)).j→hashAt i≠h)
   ∨ ∃k i:Nat,n≤k∧k<N∧t.place[i]? = some (steps t.mask k (startM t.mask h)).j∧hashAt i=h ∧
    (∀k' i':Nat,n≤k'→k'<k→t.place[i']? = some (steps t.mask k' (startM t.mask h)).j→hashAt i'≠h) ∧
    SetTable.probe.go t hashAt h fuel (steps t.mask n (startM t.mask h))=some (.candidate (steps t.mask k (startM t.mask h)).j i (steps t.mask (k+1) (startM t.mask h))):=by
 intro fuel
 induction fuel with
 |zero=>intro n h1 h2;omega
 |succ fuel ih=>
  intro n h1 h2
  have hP:=PInv.steps n (PInv.start t.mask h)
  unfold SetTable.probe.go
  rcases aaj n N with hlt|hge
  ·obtain⟨i,hi⟩:=hb n hlt
   rw[eX T.rise hi]
   dsimp only
   by_cases hh:hashAt i=h
   ·refine .inr ⟨n,i,gO _,hlt,hi,hh,fun k' _ a b=>by omega,?_⟩
    rw[if_pos (by simpa using hh),mF,←i0]
   ·rw[if_neg (by simpa using hh),mF,←i0]
    have uniq:∀i':Nat,t.place[i']? = some (steps t.mask n (startM t.mask h)).j→hashAt i'≠h:=fun i' hi'=>by
     have:=eX T.rise hi
     have h2:=eX T.rise hi'
     rw[this]at h2
     cases h2
     exact hh
    rcases ih (n+1) hlt (by omega) with ⟨e,a⟩|⟨k,i',h3,h4,h5,h6,h7,e⟩
    ·refine .inl ⟨e,fun k i' hk hk2 hp=>?_⟩
     rcases aaj n k with q|q
     ·exact a k i' q hk2 hp
     ·have:k=n:=by omega
      subst this;exact uniq i' hp
    ·refine .inr ⟨k,i',by omega,h4,h5,h6,fun k' i2 hk hk2 hp=>?_,e⟩
     rcases aaj n k' with q|q
     ·exact h7 k' i2 q hk2 hp
     ·have:k'=n:=by omega
      subst this;exact uniq i2 hp
  ·have:n=N:=by omega
   subst this
   rw[q9 T.nd (fun i hi=>hN ⟨i,hi⟩)]
   refine .inl ⟨?_,fun k _ a b=>by omega⟩
   dsimp only
   rw[hP.dummy]
theorem cq{α:Type}(xs:Array α)(p:Nat)(x:α):(insertAt xs p x).toList=xs.toList.take p++x::xs.toList.drop p:=by
 unfold insertAt
 simp[aa4]
theorem cQ{α:Type}(xs:Array α){p:Nat}(hp:p≤xs.size)(x:α):(insertAt xs p x).size=xs.size+1:=by
 rw[←aag,cq,aai,iF,aaD,List.length_drop,aag];omega
theorem cg{α:Type}(xs:Array α){p:Nat}(hp:p≤xs.size)(x:α)(i:Nat):(insertAt xs p x)[i]? = if i<p then xs[i]? else if i=p then some x else xs[i-1]?:=by
 rw[←oR,cq,List.getElem?_append,aaD,aag,Nat.min_eq_left hp]
 by_cases h1:i<p
 ·rw[if_pos h1,if_pos h1,List.getElem?_take_of_lt h1,oR]
 ·rw[if_neg h1,if_neg h1]
  by_cases h2:i=p
  ·subst h2;simp
  ·rw[if_neg h2]
   obtain⟨k,hk⟩:∃k,i-p=k+1:=⟨i-p-1,by omega⟩
   rw[hk,aaV,List.getElem?_drop,oR]
   congr 1;omega
theorem insertAt_perm{α:Type}(xs:Array α){p:Nat}(x:α):(insertAt xs p x).toList.Perm (x::xs.toList):=by
 rw[cq]
 refine List.perm_middle.trans (List.Perm.cons _ ?_)
 rw[abf]
theorem i6{α:Type}{xs:Array α}{i:Nat}{a:α}(h:xs[i]? = some a):i<xs.size:=by
 rcases aaj i xs.size with q|q
 ·exact q
 ·rw[aap q]at h;cases h
theorem mV{xs:Array Nat}(hr:pH xs){j:Nat}(hn:¬fi xs j):pH (insertAt xs (below xs j) j):=by
 obtain⟨h1,h2,h3⟩:=c5 xs j hr
 intro a b x y hab ha hb
 rw[cg xs h3]at ha hb
 have hge:∀i v:Nat,below xs j≤i→xs[i]? = some v→j<v:=fun i v hi hv=>by
  have:=h2 i v hi hv
  rcases aaj j v with q|q
  ·exact q
  ·exact absurd ⟨i,by rw[hv];congr 1;omega⟩ hn
 split at ha
 ·rename_i ha1
  have hx:=h1 a x ha1 ha
  split at hb
  ·exact hr a b x y hab ha hb
  ·split at hb
   ·cases hb;exact hx
   ·exact abF hx (hge (b-1) y (by omega) hb)
 ·split at ha
  ·cases ha
   split at hb
   ·omega
   ·split at hb
    ·omega
    ·exact hge (b-1) y (by omega) hb
  ·split at hb
   ·omega
   ·split at hb
    ·omega
    ·exact hr (a-1) (b-1) x y (by omega) ha hb
theorem mW{xs:Array Nat}{p:Nat}(hp:p≤xs.size)(j k:Nat):fi (insertAt xs p j) k↔k=j∨fi xs k:=by
 constructor
 ·rintro⟨i,hi⟩
  rw[cg xs hp]at hi
  split at hi
  ·exact .inr ⟨i,hi⟩
  ·split at hi
   ·cases hi;exact .inl rfl
   ·exact .inr ⟨_,hi⟩
 ·rintro(rfl|⟨i,hi⟩)
  ·exact⟨p,by rw[cg xs hp,if_neg (aaR _),if_pos rfl]⟩
  ·rcases aaj i p with q|q
   ·exact⟨i,by rw[cg xs hp,if_pos q];exact hi⟩
   ·exact⟨i+1,by rw[cg xs hp,if_neg (by omega),if_neg (by omega)];exact hi⟩
structure TPre (t:SetTable) (hs:List Int):Prop where
 mask:ff t.mask
 nd:t.dummies = #[]
 size:t.place.size=hs.length
 rise:pH t.place
 le:∀j,fi t.place j→j≤t.mask
 reach:∀(i j:Nat)(h:Int),t.place[i]? = some j→hs[i]? = some h→Reach t.mask t.place h j
theorem TPre.full{t:SetTable}{hs:List Int}(T:TPre t hs)(h:t.place.size*5<t.mask*3):TInv t hs:=⟨T.mask,T.nd,T.size,T.rise,T.le,h,T.reach⟩
theorem Ca{t:SetTable}(hd:t.dummies = #[])(j:Nat):t.put j=({ t with place:=insertAt t.place (below t.place j) j },below t.place j):=by
 unfold SetTable.put
 have h2:has t.dummies j=false:=by rw[hd];unfold has;simp
 rw[h2];simp
theorem zC{t:SetTable}{es:Array Int}(T:TInv t es.toList)(h:Int){N:Nat}(hN:¬fi t.place (steps t.mask N (startM t.mask h)).j)
  (hb:∀k,k<N→fi t.place (steps t.mask k (startM t.mask h)).j):
  TPre { t with place:=insertAt t.place (below t.place (steps t.mask N (startM t.mask h)).j) (steps t.mask N (startM t.mask h)).j } (insertAt es (below t.place (steps t.mask N (startM t.mask h)).j) h).toList:=by
 have h3:=(c5 t.place (steps t.mask N (startM t.mask h)).j T.rise).2.2
 have hsz:t.place.size=es.size:=by rw[T.size,aag]
 have lv:=mW h3 (steps t.mask N (startM t.mask h)).j
 refine⟨T.mask,T.nd,?_,mV T.rise hN,?_,?_⟩
 ·show(insertAt t.place _ _).size=_
  rw[aag,cQ _ h3,cQ _ (by rw[←hsz];exact h3),hsz]
 ·intro k hk
  rcases(lv k).mp hk with rfl|hk
  ·have:=(PInv.steps N (PInv.start t.mask h)).j;show _≤t.mask;omega
  ·exact T.le k hk
 ·intro i j h' hi hh
  rw[oR]at hh
  show Reach t.mask (insertAt t.place _ _) h' j
  replace hi:(insertAt t.place (below t.place (steps t.mask N (startM t.mask h)).j) (steps t.mask N (startM t.mask h)).j)[i]? = some j:=hi
  rw[cg _ h3]at hi
  rw[cg _ (by rw[←hsz];exact h3)]at hh
  split at hi
  ·rename_i q
   rw[if_pos q]at hh
   exact(T.reach i j h' hi (by rw[oR];exact hh)).mono fun k hk=>(lv k).mpr (.inr hk)
  ·rename_i q
   rw[if_neg q]at hh
   split at hi
   ·rename_i q2
    rw[if_pos q2]at hh
    cases hi;cases hh
    exact⟨N,rfl,fun k hk=>(lv _).mpr (.inr (hb k hk))⟩
   ·rename_i q2
    rw[if_neg q2]at hh
    exact(T.reach _ j h' hi (by rw[oR];exact hh)).mono fun k hk=>(lv k).mpr (.inr hk)
def pK(owner:Array (Option Nat))(j:Nat):Prop:=owner[j]? = some none
def Occ(owner:Array (Option Nat))(j:Nat):Prop:=∃k,owner[j]? = some (some k)
theorem hV{owner:Array (Option Nat)}{j:Nat}(h:j<owner.size):pK owner j∨Occ owner j:=by
 unfold pK Occ
 rw[aac h]
 cases owner[j] with
 |none=>exact .inl rfl
 |some k=>exact .inr ⟨k,rfl⟩
theorem C7{owner:Array (Option Nat)}{j:Nat}:(owner.getD j (some 0)).isNone=true↔pK owner j:=by
 unfold pK
 rw[aaz]
 cases owner[j]? with
 |none=>simp
 |some o=>cases o<;>simp
theorem oK(m i pert:Nat):∀k,k≤runEnd m i-i→steps m k (eF m i pert) = { j:=i+k,more:=runEnd m i-i-k,i:=i,perturb:=pert,dummy:=none }
 |0,_=>rfl
 |k+1,h=>by
  rw[i0,oK m i pert k (by omega)]
  unfold kG
  rw[if_pos (by show runEnd m i-i-k>0;omega)]
  rfl
theorem vj(m:Nat)(owner:Array (Option Nat))(hz:owner.size=m+1):∀(fuel i pert:Nat),i≤m→(∃L,L<fuel∧pK owner (c8 m L (i,pert)).1) →
  ∃j n,layClean.free m owner fuel i pert=some j∧(steps m n (eF m i pert)).j=j∧pK owner j∧∀k,k<n→Occ owner (steps m k (eF m i pert)).j:=by
 intro fuel
 induction fuel with
 |zero=>rintro i pert _ ⟨L,hL,_⟩;omega
 |succ fuel ih=>
  rintro i pert hi ⟨L,hL,hf⟩
  have hrun:=jO m i hi
  have hge:i≤runEnd m i:=by unfold runEnd;split<;>omega
  unfold layClean.free
  cases hq:(aaN (runEnd m i+1-i)).find? (fun k=>(owner.getD (i+k) (some 0)).isNone) with
  |some k=>
   obtain⟨h1,h2,h3⟩:=List.find?_range_eq_some.mp hq
   have hk:k≤runEnd m i-i:=by have:=List.mem_range.mp h2;omega
   refine⟨i+k,k,rfl,?_,C7.mp h1,fun k' hk'=>?_⟩
   ·rw[oK m i pert k hk]
   ·rw[oK m i pert k' (by omega)]
    have hn:=h3 k' hk'
    rcases hV (owner:=owner) (j:=i+k') (by omega) with q|q
    ·rw[C7.mpr q]at hn;simp at hn
    ·exact q
  |none=>
   have hall:∀k,k≤runEnd m i-i→Occ owner (i+k):=fun k hk=>by
    have:=List.find?_eq_none.mp hq k (List.mem_range.mpr (by omega))
    rcases hV (owner:=owner) (j:=i+k) (by omega) with q|q
    ·exact absurd (C7.mpr q) this
    ·exact q
   have hi':(leap m i pert).1≤m:=abb (abr _ (Nat.succ_pos _))
   obtain⟨L',hL'⟩:∃L',L=L'+1:=by
    cases L with
    |zero=>
     have h0:=hall 0 (aaH _)
     obtain⟨q,hq⟩:=h0
     have hf':owner[i]? = some none:=hf
     rw[Nat.add_zero,hf']at hq;cases hq
    |succ L'=>exact⟨L',rfl⟩
   subst hL'
   obtain⟨j,n,e1,e2,e3,e4⟩:=ih (leap m i pert).1 (leap m i pert).2 hi' ⟨L',by omega,hf⟩
   have hre:steps m (runEnd m i-i+1) (eF m i pert)=eF m (leap m i pert).1 (leap m i pert).2:=oJ m (runEnd m i-i) (eF m i pert) rfl rfl
   refine⟨j,(runEnd m i-i+1)+n,e1,?_,e3,fun k hk=>?_⟩
   ·rw[fK,hre];exact e2
   ·rcases aaj k (runEnd m i-i+1) with q|q
    ·rw[oK m i pert k (by omega)];exact hall k (by omega)
    ·obtain⟨d,rfl⟩:∃d,k=(runEnd m i-i+1)+d:=⟨k-(runEnd m i-i+1),by omega⟩
     rw[fK,hre];exact e4 d (by omega)
structure OInv (m:Nat) (owner:Array (Option Nat)) (sl:List Nat) (done:List Int):Prop where
 size:owner.size=m+1
 len:sl.length=done.length
 at_:∀k j:Nat,sl[k]? = some j↔owner[j]? = some (some k)
 reach:∀(j k:Nat)(h:Int),owner[j]? = some (some k)→done[k]? = some h→∃n,(steps m n (startM m h)).j=j∧∀q,q<n→Occ owner (steps m q (startM m h)).j
theorem OInv.nil(m:Nat):OInv m (Array.replicate (m+1) none) [] []:=by
 refine⟨by simp,rfl,fun k j=>?_,fun j k h hj=>?_⟩
 ·simp[Array.getElem?_replicate]
 ·simp[Array.getElem?_replicate]at hj
theorem OInv.step{m:Nat}(hm:ff m){owner:Array (Option Nat)}{sl:List Nat}{done:List Int}(O:OInv m owner sl done)(hr:done.length≤m)(h:Int):
  ∃j,layClean.free m owner (turns m) (bits h % (m+1)) (bits h)=some j∧OInv m (owner.setIfInBounds j (some done.length)) (sl++[j]) (done++[h]):=by
 have hP:=PInv.start m h
 obtain⟨s,hs,hn⟩:=ny m sl.toArray (by rw[oF,O.len];exact hr)
 have hfs:pK owner s:=by
  rcases hV (owner:=owner) (j:=s) (by rw[O.size];omega) with q|⟨k,q⟩
  ·exact q
  ·exact absurd ⟨k,by rw[aa6];exact(O.at_ k s).mpr q⟩ hn
 obtain⟨L,hL,e⟩:=kg hm (i:=bits h % (m+1)) (pert:=bits h) hP.pert hs
 obtain⟨j,n,e1,e2,e3,e4⟩:=vj m owner O.size (turns m) (bits h % (m+1)) (bits h) hP.i ⟨L,by unfold turns;omega,by rw[e];exact hfs⟩
 have hj:j<owner.size:=by
  unfold pK at e3
  rcases aaj j owner.size with q|q
  ·exact q
  ·rw[aap q]at e3;cases e3
 have get:∀j':Nat,(owner.setIfInBounds j (some done.length))[j']? = if j'=j then some (some done.length) else owner[j']?:=fun j'=>by
  rw[abd]
  by_cases h1:j=j'
  ·subst h1;rw[if_pos rfl,if_pos rfl,if_pos hj]
  ·rw[if_neg h1,if_neg (fun q=>h1 q.symm)]
 have occ:∀q,Occ owner q→Occ (owner.setIfInBounds j (some done.length)) q:=fun q ⟨k,hk⟩=>by
  by_cases h1:q=j
  ·exact⟨done.length,by rw[get,if_pos h1]⟩
  ·exact⟨k,by rw[get,if_neg h1];exact hk⟩
 refine⟨j,e1,by simp[O.size],by simp[O.len],fun k j'=>?_,fun j' k h' hk hd=>?_⟩
 ·rw[get]
  constructor
  ·intro hk
   rw[List.getElem?_append]at hk
   split at hk
   ·rename_i hlt
    have ho:=(O.at_ k j').mp hk
    have hne:j'≠j:=fun q=>by subst q;unfold pK at e3;rw[e3]at ho;cases ho
    rw[if_neg hne];exact ho
   ·rename_i hge
    have h0:k-sl.length=0:=by
     rcases Nat.eq_zero_or_pos (k-sl.length) with q|q
     ·exact q
     ·rw[aav (by simp;omega)]at hk;cases hk
    rw[h0]at hk
    have:j=j':=by simpa using hk
    subst this
    rw[if_pos rfl,←O.len,show sl.length=k by omega]
  ·intro hk
   split at hk
   ·rename_i q
    subst q
    have:done.length=k:=by simpa using hk
    subst this
    rw[←O.len];simp
   ·have:=(O.at_ k j').mpr hk
    rw[aax]
    ·exact this
    ·rcases aaj k sl.length with q|q
     ·exact q
     ·rw[aav q]at this;cases this
 ·rw[get]at hk
  split at hk
  ·rename_i q
   subst q
   have:done.length=k:=by simpa using hk
   subst this
   have:h=h':=by simpa using hd
   subst this
   exact⟨n,e2,fun q hq=>occ _ (e4 q hq)⟩
  ·have hlt:k<done.length:=by
    have:=(O.at_ k j').mpr hk
    rw[←O.len]
    rcases aaj k sl.length with q|q
    ·exact q
    ·rw[aav q]at this;cases this
   rw[aax hlt]at hd
   obtain⟨n',a,b⟩:=O.reach j' k h' hk hd
   exact⟨n',a,fun q hq=>occ _ (b q hq)⟩
theorem qp{m:Nat}(hm:ff m)(hs:List Int)(hl:hs.length≤m+1):∃owner sl,layClean m hs.toArray=some owner∧OInv m owner sl hs:=by
 have key:∀(rest done:List Int)(owner:Array (Option Nat))(sl:List Nat),OInv m owner sl done→(done++rest).length≤m+1 →
   ∃owner' sl',rest.foldl (fun acc h=>do
    let(owner,k) ←acc
    let j ←layClean.free m owner (turns m) (bits h % (m+1)) (bits h)
    pure (owner.setIfInBounds j (some k),k+1)) (some (owner,done.length))=some (owner',(done++rest).length)∧OInv m owner' sl' (done++rest):=by
  intro rest
  induction rest with
  |nil=>intro done owner sl O _;exact⟨owner,sl,by simp,by simpa using O⟩
  |cons h rest ih=>
   intro done owner sl O hlen
   obtain⟨j,e,O'⟩:=O.step hm (by rw[aai,iF]at hlen;omega) h
   obtain⟨o2,s2,e2,O2⟩:=ih (done++[h]) _ _ O' (by rw[abB];exact hlen)
   refine⟨o2,s2,?_,by rw[abB]at O2;exact O2⟩
   rw[List.foldl_cons]
   rw[abB]at e2
   rw[show(done++[h]).length=done.length+1 by simp]at e2
   rw[←show done++([h]++rest)=done++h::rest from rfl,←e2]
   congr 1
   show(do let j ←layClean.free m owner (turns m) (bits h % (m+1)) (bits h);pure (owner.setIfInBounds j (some done.length),done.length+1))=_
   rw[e];rfl
 obtain⟨o,s,e,O⟩:=key hs [] _ _ (OInv.nil m) (by simpa using hl)
 refine⟨o,s,?_,by simpa using O⟩
 unfold layClean
 rw[←Array.foldl_toList]
 have e':=e
 rw[aaU]at e'
 show Option.map _ (List.foldl _ (some (Array.replicate (m+1) none,0)) hs)=_
 rw[e'];rfl
theorem mT{l r:List Nat}(hl:l.Nodup)(hr:r.Nodup)(h:∀x,x∈l↔x∈r):l.Perm r:=by
 rw[List.perm_iff_count]
 intro a
 rw[hl.count,hr.count]
 simp[h a]
theorem jQ{l:List Nat}(h:l.Pairwise (· < ·)):pH l.toArray:=by
 intro i j a b hij ha hb
 rw[aa6]at ha hb
 obtain⟨hi,rfl⟩:=List.getElem?_eq_some_iff.mp ha
 obtain⟨hj,rfl⟩:=List.getElem?_eq_some_iff.mp hb
 exact List.pairwise_iff_getElem.mp h i j hi hj hij
theorem Ab{m:Nat}(hm:ff m)(finger moves:Nat)(led plain:Bool)(hs:List Int)(hl:hs.length≤m+1):
  ∃t order,laid m finger moves led plain hs.toArray=some (t,order)∧t.mask=m∧t.led=led∧t.plain=plain∧order.toList.Perm (aaN hs.length) ∧
   TPre t (order.toList.map fun k=>hs.getD k 0):=by
 obtain⟨owner,sl,e,O⟩:=qp hm hs hl
 let live:=(aaN (m+1)).filterMap fun j=>(owner.getD j none).map (j,·)
 have hlive:∀(x:Nat×Nat),x∈live↔owner[x.1]? = some (some x.2):=by
  rintro⟨j,k⟩
  simp only[live,List.mem_filterMap,List.mem_range,aaz]
  constructor
  ·rintro⟨j',hj',hx⟩
   cases ho:owner[j']? with
   |none=>rw[ho]at hx;simp at hx
   |some o=>
    cases o with
    |none=>rw[ho]at hx;simp at hx
    |some q=>
     rw[ho]at hx
     simp at hx
     obtain⟨rfl,rfl⟩:=hx
     exact ho
  ·intro hx
   refine⟨j,?_,?_⟩
   ·rcases aaj j (m+1) with q|q
    ·exact q
    ·rw[aap (by rw[O.size];exact q)]at hx;cases hx
   ·replace hx:owner[j]? = some (some k):=hx
    rw[hx];simp
 have hpw:live.Pairwise fun a b=>a.1<b.1:=by
  refine List.Pairwise.filterMap _ (R:=fun a b:Nat=>a<b) ?_ List.pairwise_lt_range
  intro a a' haa b hb b' hb'
  simp only[Option.map_eq_some_iff]at hb hb'
  obtain⟨_,_,rfl⟩:=hb
  obtain⟨_,_,rfl⟩:=hb'
  exact haa
 refine⟨{ mask:=m,place:=(live.map (·.1)).toArray,dummies:=#[],finger,led,moves,plain },(live.map (·.2)).toArray,?_,rfl,rfl,rfl,?_,?_⟩
 ·unfold laid;rw[e];rfl
 ·refine mT ?_ List.nodup_range fun k=>?_
  ·show(live.map (·.2)).Nodup
   refine List.Pairwise.map _ (R:=fun a b:Nat×Nat=>a∈live∧b∈live∧a.1<b.1) ?_ ?_
   ·rintro⟨j,k⟩ ⟨j',k'⟩ ⟨ha,hb,hlt⟩ hkk
    simp only at hkk hlt
    subst hkk
    have h1:=(O.at_ k j).mpr ((hlive _).mp ha)
    have h2:=(O.at_ k j').mpr ((hlive _).mp hb)
    rw[h1]at h2
    have:j=j':=by simpa using h2
    omega
   ·exact(List.Pairwise.and_mem.mp hpw).imp fun h=>⟨h.1,h.2.1,h.2.2⟩
  ·show k∈live.map (·.2)↔_
   rw[List.mem_map,List.mem_range]
   constructor
   ·rintro⟨⟨j,k'⟩,hx,rfl⟩
    have:=(O.at_ k' j).mpr ((hlive _).mp hx)
    rw[←O.len]
    rcases aaj k' sl.length with q|q
    ·exact q
    ·rw[aav q]at this;cases this
   ·intro hk
    rw[←O.len]at hk
    exact⟨(sl[k],k),(hlive _).mpr ((O.at_ k _).mp (dO hk)),rfl⟩
 ·have hL:∀j,fi (live.map (·.1)).toArray j↔Occ owner j:=by
   intro j
   constructor
   ·rintro⟨i,hi⟩
    rw[aa6]at hi
    obtain⟨⟨j',k⟩,hx,rfl⟩:=List.mem_map.mp (aaf hi)
    exact⟨k,(hlive _).mp hx⟩
   ·rintro⟨k,hk⟩
    have:j∈live.map (·.1):=List.mem_map.mpr ⟨(j,k),(hlive _).mpr hk,rfl⟩
    obtain⟨i,hi⟩:=List.mem_iff_getElem?.mp this
    exact⟨i,by rw[aa6];exact hi⟩
  refine⟨hm,rfl,by simp,jQ (List.pairwise_map.mpr hpw),fun j hj=>?_,fun i j h hi hh=>?_⟩
  ·obtain⟨k,hk⟩:=(hL j).mp hj
   rcases aaj j (m+1) with q|q
   ·show j≤m;omega
   ·rw[aap (by rw[O.size];exact q)]at hk;cases hk
  ·replace hi:(live.map (·.1)).toArray[i]? = some j:=hi
   rw[aa6,aae]at hi
   rw[show((live.map (·.2)).toArray.toList.map fun k=>hs.getD k 0)=live.map fun x=>hs.getD x.2 0 by simp[List.map_map,Function.comp_def],aae]at hh
   cases hx:live[i]? with
   |none=>rw[hx]at hi;cases hi
   |some x=>
    rw[hx]at hi hh
    obtain⟨j',k⟩:=x
    have:j'=j:=by simpa using hi
    subst this
    have hd:hs.getD k 0=h:=by simpa using hh
    have ho:=(hlive _).mp (aaf hx)
    have hk:=(O.at_ k j').mpr ho
    have hkl:k<hs.length:=by
     rw[←O.len]
     rcases aaj k sl.length with q|q
     ·exact q
     ·rw[aav q]at hk;cases hk
    have hg:hs[k]? = some h:=by
     rw[dO hkl,←hd];simp[List.getD,dO hkl]
    obtain⟨n,a,b⟩:=O.reach j' k h ho hg
    exact⟨n,a,fun q hq=>(hL _).mpr (b q hq)⟩
theorem kE{α:Type}(es:Array α)(order:Array Nat)(hp:order.toList.Perm (aaN es.size)):
  (order.filterMap (es[·]?)).toList.Perm es.toList∧∀i:Nat,(order.filterMap (es[·]?))[i]? = (order[i]?).bind (es[·]?):=by
 have hall:∀k∈order.toList,k<es.size:=fun k hk=>List.mem_range.mp (hp.mem_iff.mp hk)
 have e0:(order.filterMap (es[·]?)).toList=order.toList.filterMap (es[·]?):=by simp
 constructor
 ·rw[e0]
  refine(hp.filterMap _).trans ?_
  have:(aaN es.size).filterMap (es[·]?)=es.toList:=by
   rw[show es.size=es.toList.length by simp]
   apply aaY
   intro i
   have key:∀(l:List α),(aaN l.length).filterMap (fun k=>l[k]?)=l:=by
    intro l
    induction l with
    |nil=>rfl
    |cons a l ih=>
     rw[iF,List.range_succ_eq_map,aa2]
     simp only[List.getElem?_cons_zero,List.filterMap_map]
     congr 1
   have e:=key es.toList
   simp only[oR]at e
   rw[e]
  rw[this]
 ·intro i
  rw[←oR,e0,←oR (xs:=order)]
  have key:∀(l:List Nat),(∀k∈l,k<es.size)→∀i:Nat,(l.filterMap (es[·]?))[i]? = (l[i]?).bind (es[·]?):=by
   intro l
   induction l with
   |nil=>intro _ i;simp
   |cons a l ih=>
    intro h i
    have ha:=h a (.head _)
    rw[aa2]
    simp only[aac ha]
    cases i with
    |zero=>simp[aac ha]
    |succ i=>simpa using ih (fun k hk=>h k (.tail _ hk)) i
  exact key _ hall i
section
variable {prog:Program}{w:World}{A:Around}{E:Value→Shared→Prop}{s:Shared}
abbrev TK(prog:Program)(w:World)(h:Heap)(k:List Int)(b:Addr):Prop:=IsTupleKey (intKind prog w) h k b
abbrev hk(prog:Program)(w:World)(k:List Int):Int:=tupleKeyHash (intKind prog w) k
def Ent(prog:Program)(w:World)(h:Heap)(e:Int×Value)(k:List Int):Prop:=∃b,e.2=.ref b∧TK prog w h k b∧e.1=hk prog w k
theorem Ent.inj{h:Heap}{e:Int×Value}{k k':List Int}(x:Ent prog w h e k)(y:Ent prog w h e k'):k=k':=by
 obtain⟨b,e1,t1,_⟩:=x
 obtain⟨b',e2,t2,_⟩:=y
 rw[e1]at e2
 cases e2
 exact t1.inj t2
theorem kh{ks:List Int}{vs:List Value}(h:ItemsAre (intKind prog w) ks vs):∀v∈vs,∃i t,v=.int i t:=by
 induction h with
 |nil=>intro v hv;simp at hv
 | @cons k v' ks vs h1 _ ih=>
  intro v hv
  rcases List.mem_cons.mp hv with rfl|hv
  ·cases v<;>first|exact⟨_,_,rfl⟩ | (simp[intKind,Value.isInt]at h1)
  ·exact ih v hv
theorem lQ{k:List Int}{b:Addr}{Q:Bool→Shared→Prop}(hx:TK prog w s.heap k b)(h:Q false s):wpAny (model prog w) A (ofAClassStatement 8 (.ref b)) Q E s:=by
 have hT:=hx.typeIs
 obtain⟨o,items,n,ho,_,hd,hi⟩:=hx
 have hp:=kh hi
 unfold ofAClassStatement
 refine wpAny_bind (wpAny_typeOf hT ?_)
 dsimp only
 have e1:((("tuple":String) == "tuple")=true):=by decide
 rw[if_pos e1]
 refine wpAny_bind (wpAny_pure ?_)
 simp only[aaW,iN,if_false]
 refine wpAny_bind (wpAny_seqItems ho hd ?_)
 dsimp only
 refine wpAny_bind ?_
 rw[←Array.forIn_toList]
 refine wpAny_forIn_list _ (fun rest r s'=>r.1=none∧s'=s∧∀v∈rest,∃i t,v=Value.int i t) _ ?_ ?_ _ _ ⟨rfl,rfl,hp⟩
 ·rintro v rest r s' ⟨hr,rfl,hall⟩
  obtain⟨i,t,rfl⟩:=hall v aaL
  refine wpAny_bind (m:=ofAClassStatement 7 (.int i t)) (wpAny_pure ?_)
  simp only[iN,if_false]
  exact wpAny_pure ⟨rfl,rfl,fun u hu=>hall u (aan _ hu)⟩
 ·rintro⟨r1,r2⟩ s' ⟨hr,rfl,_⟩
  simp only at hr
  subst hr
  exact wpAny_pure h
theorem zc{k:List Int}{x:Addr}{stored:List Value}{Q:Bool→Shared→Prop}(hx:TK prog w s.heap k x)(hs:∀v∈stored,∃k' b,v=.ref b∧TK prog w s.heap k' b)(h:Q false s):
  wpAny (model prog w) A (searchCouldBeSeen (.ref x) stored) Q E s:=by
 unfold searchCouldBeSeen
 refine wpAny_bind ?_
 refine wpAny_forIn_list _ (fun rest r s'=>r.1=none∧s'=s∧∀v∈rest,∃k' b,v=.ref b∧TK prog w s.heap k' b) _ ?_ ?_ _ _ ⟨rfl,rfl,hs⟩
 ·rintro v rest r s' ⟨hr,rfl,hall⟩
  obtain⟨k',b,rfl,hb⟩:=hall v aaL
  have hrest:∀u∈rest,∃k' b,u=.ref b∧TK prog w s'.heap k' b:=fun u hu=>hall u (aan _ hu)
  dsimp only
  by_cases e:(x==b)=true
  ·rw[if_pos (by rw[e];rfl)]
   exact wpAny_pure ⟨rfl,rfl,hrest⟩
  ·rw[if_neg (by simp[carriedByValue];simpa using e)]
   refine wpAny_bind (wpAny_eqIsQuiet_tuple hx ?_)
   simp only[aaW,iN,if_false]
   refine wpAny_bind (wpAny_eqIsQuiet_tuple hb ?_)
   simp only[aaW,iN,if_false]
   refine wpAny_bind (lQ hx ?_)
   simp only[iN,if_false]
   refine wpAny_bind (lQ hb ?_)
   simp only[iN,if_false]
   exact wpAny_pure ⟨rfl,rfl,hrest⟩
 ·rintro⟨r1,r2⟩ s' ⟨hr,rfl,_⟩
  simp only at hr
  subst hr
  exact wpAny_pure h
theorem qO{k:List Int}{x:Addr}{Q:Bool→Shared→Prop}(hx:TK prog w s.heap k x)(h:Q true s):wpAny (model prog w) A (hashByValue 8 (.ref x)) Q E s:=by
 have hT:=hx.typeIs
 obtain⟨o,items,n,ho,_,hd,hi⟩:=hx
 have hp:=kh hi
 unfold hashByValue
 refine wpAny_bind (wpAny_specialOf hT F.slot_tuple_hash.lookup ?_)
 dsimp only
 refine wpAny_bind (wpAny_seqItems ho hd ?_)
 refine wpAny_bind ?_
 show wpAny _ _ (forIn items _ _) _ _ s
 rw[←Array.forIn_toList]
 refine wpAny_forIn_list _ (fun rest r s'=>r.1=none∧s'=s∧∀v∈rest,∃i t,v=Value.int i t) _ ?_ ?_ _ _ ⟨rfl,rfl,hp⟩
 ·rintro v rest r s' ⟨hr,rfl,hall⟩
  obtain⟨i,t,rfl⟩:=hall v aaL
  refine wpAny_bind (m:=hashByValue 7 (.int i t)) (wpAny_pure ?_)
  simp only[aaW,iN,if_false]
  exact wpAny_pure ⟨rfl,rfl,fun u hu=>hall u (aan _ hu)⟩
 ·rintro⟨r1,r2⟩ s' ⟨hr,rfl,_⟩
  simp only at hr
  subst hr
  exact wpAny_pure h
theorem TInv.fits{t:SetTable}{es:Array (Int×Value)}(T:TInv t (es.toList.map (·.1))):t.fits es.size=true:=by
 unfold SetTable.fits SetTable.fill
 rw[T.nd]
 have h1:=T.size
 have h2:=T.room
 simp only[aad,aag]at h1
 simp[h1]
 rcases T.mask with e|e|e<;>(rw[e]at h2 ⊢;rw[h1]at h2;omega)
theorem TInv.stays{t:SetTable}{hs:List Int}(T:TInv t hs):t.gaveWay=false:=by
 unfold SetTable.gaveWay
 rcases T.mask with e|e|e<;>(rw[e];decide)
theorem uE{a x:Addr}{k:List Int}{o:Obj}{es:Array (Int×Value)}{ep:Nat}{t:SetTable}(hu:A.units<cLine)(hx:TK prog w s.heap k x)(ho:s.heap.get? a=some o)(hd:o.data=.set es ep t)(T:TInv t (es.toList.map (·.1)))
  (he:∀e∈es.toList,∃k',Ent prog w s.heap e k') {N:Nat} (hN:¬fi t.place (steps t.mask N (startM t.mask (hk prog w k))).j) (hb:∀i,i<N→fi t.place (steps t.mask i (startM t.mask (hk prog w k))).j) (hN2:N<10*(t.mask+15))
  {Q:SetFound→Shared→Prop} (hf:(∃e∈es.toList,Ent prog w s.heap e k)→Q (.there none) s):
  ∀(fuel n:Nat)(stand:Option Probe),n≤N→N-n<fuel→stand.getD (t.probeStart (hk prog w k))=steps t.mask n (startM t.mask (hk prog w k)) →
   ((∀(m i:Nat)(e:Int×Value),n≤m→m<N→t.place[i]? = some (steps t.mask m (startM t.mask (hk prog w k))).j→es[i]? = some e→¬Ent prog w s.heap e k)→Q (.free (steps t.mask N (startM t.mask (hk prog w k))).j false) s) →
   wpAny (model prog w) A (setSearchFrom a (.ref x) (hk prog w k) true fuel stand) Q E s:=by
 intro fuel
 induction fuel with
 |zero=>intro n stand h1 h2;omega
 |succ fuel ih=>
  intro n stand h1 h2 hst hq
  unfold setSearchFrom
  refine wpAny_bind (wpAny_setState_of ho hd T.fits ?_)
  dsimp only
  rw[T.stays]
  simp only[iN,if_false]
  rw[hst]
  have P:=rG T (fun i=>(es[i]?.map (·.1)).getD 0) (hk prog w k) hN hb (10*turns t.mask) n h1 (by unfold turns;omega)
  have esz:t.place.size=es.size:=by have:=T.size;simpa using this
  have ent:∀{i j:Nat},t.place[i]? = some j→∃e,es[i]? = some e:=fun {i j} hi=>⟨_,aac (by rw[←esz];exact i6 hi)⟩
  have notk:∀{i:Nat}{e:Int×Value},(fun i:Nat=>(es[i]?.map (·.1)).getD 0) i≠hk prog w k→es[i]? = some e→¬Ent prog w s.heap e k:=fun {i e} hne hi ⟨_,_,_,q⟩=>hne (by
   show(es[i]?.map (·.1)).getD 0=_
   rw[hi];exact q)
  rcases P with ⟨ep1,hall⟩|⟨m,i,hm1,hm2,hp,hh,hbef,ep1⟩
  ·have ep2:t.probe (fun i=>(es[i]?.map (·.1)).getD 0) (hk prog w k) (steps t.mask n (startM t.mask (hk prog w k)))=_:=ep1
   erw [ep2]
   dsimp only
   exact wpAny_pure (hq fun m i e h3 h4 h5 h6=>notk (hall m i h3 h4 h5) h6)
  ·have ep2:t.probe (fun i=>(es[i]?.map (·.1)).getD 0) (hk prog w k) (steps t.mask n (startM t.mask (hk prog w k)))=_:=ep1
   erw [ep2]
   dsimp only
   obtain⟨e,hei⟩:=ent hp
   have hem:e∈es.toList:=by rw[←oR]at hei;exact aaf hei
   obtain⟨k',b,eb,hbk,eh⟩:=he e hem
   have tail:wpAny (model prog w) A (do
     let some (_,y):=es[i]? | unsupported "internal:set-entry"
     let equal ←holding [y] (eqBool y (.ref x))
     let(es',_,t') ←setState a
     if true&&equal then return .there none
     let some same:=t'.sameMemory t.moves t.mask|unsupported "set.changed-during-lookup:is-the-new-block-at-the-old-address"
     let still ←match (if same then t'.slot (steps t.mask m (startM t.mask (hk prog w k))).j else .empty) with
      |.live i'=>match es'[i']? with
       |some (_,y')=>do pure (if ←isSame y' y then some i' else none)
       |none=>pure none
      |_=>pure none
     match still with
     |none=>rule "set.search.anew";setSearchFrom a (.ref x) (hk prog w k) true fuel none
     |some i'=>if equal then return .there (some i') else setSearchFrom a (.ref x) (hk prog w k) true fuel (some (steps t.mask (m+1) (startM t.mask (hk prog w k))))) Q E s:=by
    rw[hei]
    obtain⟨eh',ev⟩:=e
    simp only at eb
    subst eb
    dsimp only
    refine wpAny_bind (wpAny_holding (wpAny_eqBool_tuple hu hbk hx ?_))
    refine wpAny_bind (wpAny_setState_of ho hd T.fits ?_)
    dsimp only
    by_cases ek:k'=k
    ·subst ek
     simp only[decide_true,Bool.and_self,if_true]
     exact wpAny_pure (hf ⟨_,hem,b,rfl,hbk,eh⟩)
    ·simp only[decide_eq_false ek,Bool.and_false,iN,if_false]
     have em:t.sameMemory t.moves t.mask=some true:=by unfold SetTable.sameMemory;simp
     rw[em]
     dsimp only
     simp only[if_true]
     rw[eX T.rise hp]
     dsimp only
     rw[hei]
     dsimp only
     refine wpAny_bind (wpAny_isSame_ref_self (wpAny_bind (wpAny_pure ?_)))
     simp only[if_true]
     refine ih (m+1) _ hm2 (by omega) rfl fun hfree=>hq fun m' i' e' h3 h4 h5 h6=>?_
     rcases aaj m' m with q|q
     ·exact notk (hbef m' i' h3 q h5) h6
     ·by_cases q2:m'=m
      ·subst q2
       have:i'=i:=by
        have z1:=eX T.rise hp
        have z2:=eX T.rise h5
        rw[z1]at z2;cases z2;rfl
       subst this
       rw[hei]at h6
       cases h6
       exact fun z=>ek ((Ent.inj (prog:=prog) (w:=w) ⟨b,rfl,hbk,eh⟩ z))
      ·exact hfree m' i' e' (by omega) h4 h5 h6
   by_cases hl:t.led=true
   ·rw[hl]
    simp only[aaW,iN,if_false]
    exact tail
   ·have hl':t.led=false:=by simpa using hl
    rw[hl']
    simp only[abD,if_true]
    refine wpAny_bind (zc hx (fun v hv=>?_) ?_)
    ·obtain⟨e',he',rfl⟩:=List.mem_map.mp hv
     have:e'∈es.toList:=by
      rw[Array.toList_filter]at he'
      exact(List.mem_filter.mp he').1
     obtain⟨k2,b2,e2,t2,_⟩:=he e' this
     exact⟨k2,b2,e2,t2⟩
    ·simp only[iN,if_false]
     exact tail
end
end GS
namespace GS
open PySem PySem.W PyProof.Rows
def kwp{α:Type}(lt:Nat→Nat→Bool)(n:Nat)(R:α→Prop):KasT α→Prop
 |.ret a=>R a
 |.ask i j k=>i<n∧j<n∧kwp lt n R (k (lt i j))
theorem fR{α β:Type}{lt:Nat→Nat→Bool}{n:Nat}{R:β→Prop}{f:α→KasT β}:∀(t:KasT α),kwp lt n (fun a=>kwp lt n R (f a)) t→kwp lt n R (t.bind f)
 |.ret a,h=>h
 |.ask i j k,h=>⟨h.1,h.2.1,fR (k (lt i j)) h.2.2⟩
theorem d5{α:Type}{lt:Nat→Nat→Bool}{n:Nat}{R R':α→Prop}(m:∀a,R a→R' a):∀(t:KasT α),kwp lt n R t→kwp lt n R' t
 |.ret a,h=>m a h
 |.ask i j k,h=>⟨h.1,h.2.1,d5 m (k (lt i j)) h.2.2⟩
theorem xC{α:Type}{lt:Nat→Nat→Bool}{n:Nat}{cmp:Nat→Nat→(Bool→Shared→Prop)→Shared→Prop}{s:Shared}{R:α→Prop}{Q:α→Shared→Prop}
  (hc:∀i j C,i<n→j<n→C (lt i j) s→cmp i j C s) (hq:∀a,R a→Q a s):∀(t:KasT α),kwp lt n R t→t.kasWp cmp Q s
 |.ret a,h=>hq a h
 |.ask i j k,h=>hc i j _ h.1 h.2.1 (xC hc hq (k (lt i j)) h.2.2)
structure SOrd (lt:Nat→Nat→Bool) (n:Nat):Prop where
 irr:∀a,a<n→lt a a=false
 tr:∀a b c,a<n→b<n→c<n→lt b a=false→lt c b=false→lt c a=false
 tot:∀a b,a<n→b<n→a≠b→lt a b=false→lt b a=true
 asy:∀a b,a<n→b<n→lt a b=true→lt b a=false
abbrev gt(p:Array Nat)(i:Nat):Nat:=p.getD i 0
structure PIn (n:Nat) (p:Array Nat):Prop where
 perm:p.toList.Perm (aaN n)
 pos:0<n
theorem PIn.size{n:Nat}{p:Array Nat}(h:PIn n p):p.size=n:=by
 have:=h.perm.length_eq;simpa using this
theorem PIn.lt{n:Nat}{p:Array Nat}(h:PIn n p)(i:Nat):gt p i<n:=by
 unfold gt
 rcases aaj i p.size with q|q
 ·have:p[i]∈p.toList:=by simp
  have:=List.mem_range.mp (h.perm.mem_iff.mp this)
  simpa[abK,q] using this
 ·simpa[abK,Nat.not_lt.mpr q] using h.pos
theorem PIn.ne{n:Nat}{p:Array Nat}(h:PIn n p){i j:Nat}(hi:i<n)(hj:j<n)(hij:i≠j):gt p i≠gt p j:=by
 have hn:p.toList.Nodup:=h.perm.nodup_iff.mpr List.nodup_range
 have hs:=h.size
 intro e
 have e1:gt p i=p.toList[i]'(by simpa[hs] using hi):=by simp[gt,abK,hs,hi]
 have e2:gt p j=p.toList[j]'(by simpa[hs] using hj):=by simp[gt,abK,hs,hj]
 rw[e1,e2]at e
 have h1:i<p.toList.length:=by simpa[hs] using hi
 have h2:j<p.toList.length:=by simpa[hs] using hj
 rcases aaj i j with q|q
 ·exact List.pairwise_iff_getElem.mp hn i j h1 h2 q e
 ·exact List.pairwise_iff_getElem.mp hn j i h2 h1 (by omega) e.symm
def SS(lt:Nat→Nat→Bool)(p:Array Nat)(k:Nat):Prop:=∀i j,i<j→j<k→lt (gt p i) (gt p j)=true
def SD(lt:Nat→Nat→Bool)(p:Array Nat)(k:Nat):Prop:=∀i j,i<j→j<k→lt (gt p j) (gt p i)=true
section
variable {lt:Nat→Nat→Bool}{n:Nat}
theorem SOrd.trans(O:SOrd lt n){a b c:Nat}(ha:a<n)(hb:b<n)(hc:c<n)(h1:lt a b=true)(h2:lt b c=true):lt a c=true:=by
 have h3:=O.asy a b ha hb h1
 have h4:=O.asy b c hb hc h2
 have h5:=O.tr a b c ha hb hc h3 h4
 by_cases e:a=c
 ·subst e;rw[h1]at h4;cases h4
 ·exact O.tot c a hc ha (fun q=>e q.symm) h5
theorem SS.snoc(O:SOrd lt n){p:Array Nat}(P:PIn n p){k:Nat}(hk:1≤k)(h:SS lt p k)(hl:lt (gt p (k-1)) (gt p k)=true):SS lt p (k+1):=by
 intro i j hij hj
 rcases aaj j k with q|q
 ·exact h i j hij q
 ·have:j=k:=by omega
  subst this
  by_cases e:i=j-1
  ·subst e;exact hl
  ·exact O.trans (P.lt _) (P.lt _) (P.lt _) (h i (j-1) (by omega) (by omega)) hl
theorem SD.snoc(O:SOrd lt n){p:Array Nat}(P:PIn n p){k:Nat}(hk:1≤k)(h:SD lt p k)(hl:lt (gt p k) (gt p (k-1))=true):SD lt p (k+1):=by
 intro i j hij hj
 rcases aaj j k with q|q
 ·exact h i j hij q
 ·have:j=k:=by omega
  subst this
  by_cases e:i=j-1
  ·subst e;exact hl
  ·exact O.trans (P.lt _) (P.lt _) (P.lt _) hl (h i (j-1) (by omega) (by omega))
theorem sL(O:SOrd lt n){p:Array Nat}(P:PIn n p):∀(f a:Nat),1≤a→a+f≤n→SS lt p a →
  kwp lt n (fun m=>a≤m∧m≤a+f∧SS lt p m∧(m=a+f∨lt (gt p m) (gt p (m-1))=true)) (kas_asc p f a)
 |0,a,_,_,h=>⟨gO _,gO _,h,.inl rfl⟩
 |f+1,a,h1,h2,h=>by
  refine⟨P.lt _,P.lt _,?_⟩
  cases hc:lt (p.getD a 0) (p.getD (a-1) 0) with
  |true=>exact⟨gO _,by omega,h,.inr hc⟩
  |false=>
   have hl:lt (gt p (a-1)) (gt p a)=true:=O.tot _ _ (P.lt _) (P.lt _) (P.ne (by omega) (by omega) (by omega)) hc
   refine d5 (fun m hm=>?_) _ (sL O P f (a+1) (by omega) (by omega) (h.snoc O P h1 hl))
   exact⟨by omega,by omega,hm.2.2.1,hm.2.2.2.elim (fun q=>.inl (by omega)) .inr⟩
theorem uh(O:SOrd lt n){p:Array Nat}(P:PIn n p):∀(f a:Nat),1≤a→a+f≤n→SD lt p a →
  kwp lt n (fun r=>r.1=p∧r.2.2=0∧a≤r.2.1∧r.2.1≤a+f∧SD lt p r.2.1) (kas_desc f p a 0)
 |0,a,_,_,h=>⟨rfl,rfl,gO _,gO _,h⟩
 |f+1,a,h1,h2,h=>by
  refine⟨P.lt _,P.lt _,?_⟩
  cases hc:lt (p.getD a 0) (p.getD (a-1) 0) with
  |true=>
   dsimp only
   rw[if_pos rfl,if_neg (by omega)]
   refine d5 (fun m hm=>?_) _ (uh O P f (a+1) (by omega) (by omega) (h.snoc O P h1 hc))
   exact⟨hm.1,hm.2.1,by omega,by omega,hm.2.2.2.2⟩
  |false=>
   dsimp only
   rw[if_neg (by simp)]
   refine⟨P.lt _,P.lt _,?_⟩
   have hl:lt (gt p (a-1)) (gt p a)=true:=O.tot _ _ (P.lt _) (P.lt _) (P.ne (by omega) (by omega) (by omega)) hc
   have hl':lt (p.getD (a-1) 0) (p.getD a 0)=true:=hl
   rw[hl']
   dsimp only
   rw[if_pos rfl]
   exact⟨rfl,rfl,gO _,abq _ _,h⟩
theorem t9{p q:Array Nat}{i j:Nat}(h:p[i]? = q[j]?):gt p i=gt q j:=by
 unfold gt;rw[aaz,aaz,h]
theorem wc{p:Array Nat}(P:PIn n p)(i j:Nat):PIn n (kas_rev p i j):=
 ⟨(Array.perm_iff_toList_perm.mp (mirror_perm p i j _)).trans P.perm,P.pos⟩
theorem rB{p:Array Nat}(P:PIn n p){m:Nat}(hm:m≤n)(h:SD lt p m):SS lt (kas_rev p 0 m) m:=by
 intro i j hij hj
 have e:∀k,k<m→gt (kas_rev p 0 m) k=gt p (m-1-k):=fun k hk=>t9 (by
  unfold kas_rev
  rw[getElem?_mirror_all (by rw[P.size];exact hm),if_pos ⟨aaH _,hk⟩,Nat.zero_add])
 rw[e i (by omega),e j (by omega)]
 exact h _ _ (by omega) (by omega)
theorem yk(O:SOrd lt n){p:Array Nat}(P:PIn n p)(h2:2≤n):
  kwp lt n (fun r=>PIn n r.2∧1≤r.1∧r.1≤n∧SS lt r.2 r.1) (kas_count n p):=by
 unfold kas_count
 refine fR _ (d5 (fun m hm=>?_) _ (sL O P (n-1) 1 (gO _) (by omega) (fun i j h1 h2=>by omega)))
 obtain⟨m1,m2,ms,mx⟩:=hm
 by_cases e:(m==n)=true
 ·rw[if_pos e]
  exact⟨P,m1,by omega,ms⟩
 ·rw[if_neg e]
  have hne:m≠n:=by simpa using e
  by_cases g:m>1
  ·rw[if_pos g]
   refine⟨P.lt _,P.lt _,?_⟩
   have hl:lt (p.getD 0 0) (p.getD (m-1) 0)=true:=ms 0 (m-1) (by omega) (by omega)
   rw[hl]
   dsimp only
   rw[if_pos rfl]
   exact⟨P,m1,by omega,ms⟩
  ·rw[if_neg g]
   have:m=1:=by omega
   subst this
   have hd:lt (gt p 1) (gt p 0)=true:=by
    rcases mx with q|q
    ·omega
    ·exact q
   unfold kas_descPart
   refine fR _ (d5 (fun r hr=>?_) _ (uh O P (n-(1+1)) (1+1) (by omega) (by omega) ?_))
   ·obtain⟨r1,r2,r3,r4,r5⟩:=hr
    rw[if_neg (by omega)]
    unfold kas_tail3
    rw[r1]
    refine fR _ (d5 (fun k hk=>?_) _ (sL O (wc P 0 r.2.1) (n-r.2.1) r.2.1 (by omega) (by omega) (rB P (by omega) r5)))
    exact⟨wc P 0 r.2.1,by omega,by omega,hk.2.2.1⟩
   ·intro i j hij hj
    have:i=0∧j=1:=by omega
    rw[this.1,this.2];exact hd
theorem lN(O:SOrd lt n){p:Array Nat}(P:PIn n p){k:Nat}(hk:k<n)(h:SS lt p k):∀(f l r:Nat),r-l≤f→l≤r→r≤k →
  (∀i,i<l→lt (gt p i) (gt p k)=true)→(∀i,r≤i→i<k→lt (gt p k) (gt p i)=true) →
  kwp lt n (fun m=>m≤k∧(∀i,i<m→lt (gt p i) (gt p k)=true)∧∀i,m≤i→i<k→lt (gt p k) (gt p i)=true) (kas_place p k f l r)
 |0,l,r,h1,h2,h3,hlo,hhi=>by
  have:l=r:=by omega
  subst this
  exact⟨h3,hlo,hhi⟩
 |f+1,l,r,h1,h2,h3,hlo,hhi=>by
  unfold kas_place
  by_cases g:l≥r
  ·rw[if_pos g]
   have:l=r:=by omega
   subst this
   exact⟨h3,hlo,hhi⟩
  ·rw[if_neg g]
   refine⟨P.lt _,P.lt _,?_⟩
   cases hc:lt (p.getD k 0) (p.getD ((l+r) / 2) 0) with
   |true=>
    dsimp only
    rw[if_pos rfl]
    refine lN O P hk h f l ((l+r) / 2) (by omega) (by omega) (by omega) hlo fun i hi hik=>?_
    by_cases e:i=(l+r) / 2
    ·subst e;exact hc
    ·exact O.trans (P.lt _) (P.lt _) (P.lt _) hc (h _ _ (by omega) hik)
   |false=>
    dsimp only
    rw[if_neg (by simp)]
    have hl:lt (gt p ((l+r) / 2)) (gt p k)=true:=O.tot _ _ (P.lt _) (P.lt _) (P.ne (by omega) (by omega) (by omega)) hc
    refine lN O P hk h f ((l+r) / 2+1) r (by omega) (by omega) h3 (fun i hi=>?_) hhi
    by_cases e:i=(l+r) / 2
    ·subst e;exact hl
    ·exact O.trans (P.lt _) (P.lt _) (P.lt _) (h i _ (by omega) (by omega)) hl
theorem yA(O:SOrd lt n):∀(f k:Nat)(p:Array Nat),PIn n p→k+f=n→SS lt p k→kwp lt n (fun q=>PIn n q∧SS lt q n) (kas_bin f p k)
 |0,k,p,P,e,h=>by
  have:k=n:=by omega
  subst this
  exact⟨P,h⟩
 |f+1,k,p,P,e,h=>by
  have hk:k<n:=by omega
  refine fR _ (d5 (fun l hl=>?_) _ (lN O P hk h k 0 k (by omega) (by omega) (gO _) (fun i hi=>by omega) (fun i h1 h2=>by omega)))
  obtain⟨h1,h2,h3⟩:=hl
  refine yA O f (k+1) _ ⟨(Array.perm_iff_toList_perm.mp (bubble_perm p k _)).trans P.perm,P.pos⟩ (by omega) ?_
  have eb:∀i:Nat,gt (bubble p k (k-l)) i=if i=l then gt p k else if l<i∧i≤k then gt p (i-1) else gt p i:=fun i=>by
   have:=getElem?_bubble (xs:=p) (src:=k) (by rw[P.size];exact hk) (k-l) (by omega) i
   rw[show k-(k-l)=l by omega]at this
   by_cases q1:i=l
   ·rw[if_pos q1]at this ⊢;exact t9 this
   ·rw[if_neg q1]at this ⊢
    by_cases q2:l<i∧i≤k
    ·rw[if_pos q2]at this ⊢;exact t9 this
    ·rw[if_neg q2]at this ⊢;exact t9 this
  intro i j hij hj
  rw[eb i,eb j]
  repeat' split
  all_goals first
   | (exfalso; omega)
   |exact h2 _ (by omega)
   |exact h3 _ (by omega) (by omega)
   |exact h _ _ (by omega) (by omega)
theorem za(O:SOrd lt n)(h2:2≤n):kwp lt n (fun q=>PIn n q∧SS lt q n) (kas_sort n):=by
 unfold kas_sort
 refine fR _ (d5 (fun r hr=>?_) _ (yk O ⟨by simp,by omega⟩ h2))
 obtain⟨P,r1,r2,rs⟩:=hr
 by_cases g:r.1<n
 ·rw[if_pos g]
  have:max r.1 1=r.1:=by omega
  rw[this]
  exact yA O _ _ _ P (by omega) rs
 ·rw[if_neg g]
  have:r.1=n:=by omega
  rw[this]at rs
  exact⟨P,rs⟩
end
end GS
namespace GS
open PySem PySem.SetTable
section
variable {prog:Program}{w:World}{A:Around}{E:Value→Shared→Prop}{s:Shared}{U:Value→Prop}
theorem TK.same{h h':Heap}{k:List Int}{b a:Addr}{o:Obj}{es:Array (Int×Value)}{ep:Nat}{t:SetTable}(x:TK prog w h k b)(ho:h.get? a=some o)(hd:o.data=.set es ep t)(hs:Heap.SameBut a h h'):TK prog w h' k b:=by
 obtain⟨o',items,n,ho',hc,hd',hi⟩:=x
 have hne:b≠a:=by
  rintro rfl
  rw[ho']at ho
  cases ho
  rw[hd]at hd';exact nomatch hd'
 exact⟨o',items,n,(hs.2 b hne).trans ho',hc,hd',hi⟩
theorem Ent.same{h h':Heap}{e:Int×Value}{k:List Int}{a:Addr}{o:Obj}{es:Array (Int×Value)}{ep:Nat}{t:SetTable}(x:Ent prog w h e k)(ho:h.get? a=some o)(hd:o.data=.set es ep t)(hs:Heap.SameBut a h h'):Ent prog w h' e k:=
 let⟨b,e1,t1,e2⟩:=x;⟨b,e1,TK.same t1 ho hd hs,e2⟩
def cN (es:Array (Int×Value)) (ep:Nat) (t:SetTable):Obj:={ cls:=.type "set",dict:=none,data:=.set es ep t }
structure SGI (prog:Program) (w:World) (U:Value→Prop) (h:Heap) (es:Array (Int×Value)) (t:SetTable) (M:List (List Int)):Prop where
 tab:TInv t (es.toList.map (·.1))
 led:t.led = !w.params.followText "set-order"
 plain:t.plain=true
 size:es.size≤M.length
 sub:∀e∈es.toList,∃k,k∈M∧Ent prog w h e k
 all:∀k∈M,∃e,e∈es.toList∧Ent prog w h e k
 dist:es.toList.Pairwise fun e e'=>∀k,Ent prog w h e k→¬Ent prog w h e' k
 good:∀e∈es.toList,U e.2
def SG(prog:Program)(w:World)(U:Value→Prop)(h:Heap)(a:Addr)(M:List (List Int)):Prop:=∃es ep t,h.get? a=some (cN es ep t)∧SGI prog w U h es t M
theorem SGI.same{h h':Heap}{es:Array (Int×Value)}{t:SetTable}{M:List (List Int)}{a:Addr}{o:Obj}{es0:Array (Int×Value)}{ep:Nat}{t0:SetTable}(S:SGI prog w U h es t M)(ho:h.get? a=some o)(hd:o.data=.set es0 ep t0)(hs:Heap.SameBut a h h')(ho':∃o',h'.get? a=some o'∧∃es1 ep1 t1,o'.data=.set es1 ep1 t1):SGI prog w U h' es t M:=by
 obtain⟨o',ho',es1,ep1,t1,hd'⟩:=ho'
 have back:∀{e k},Ent prog w h' e k→Ent prog w h e k:=fun {e k} x=>x.same ho' hd' ⟨hs.1.symm,fun b hb=>(hs.2 b hb).symm⟩
 exact⟨S.tab,S.led,S.plain,S.size,fun e he=>let⟨k,a,b⟩:=S.sub e he;⟨k,a,b.same ho hd hs⟩,fun k hk=>let⟨e,a,b⟩:=S.all k hk;⟨e,a,b.same ho hd hs⟩,
  S.dist.imp fun q k x y=>q k (back x) (back y),S.good⟩
theorem stored{h:Heap}{a:Addr}{es:Array (Int×Value)}{ep:Nat}{t:SetTable}(ho:h.get? a=some (cN es ep t))(es':Array (Int×Value))(t':SetTable):
  (h.update a (Obj.putSet es' t')).get? a=some (cN es' (ep+1) t'):=by
 have:=aaA (Obj.putSet es' t') ho (by rw[putSet_of (ep:=ep) (es:=es) (t:=t) es' t' rfl];rfl)
 rw[putSet_of (ep:=ep) (es:=es) (t:=t) es' t' rfl]at this
 exact this
theorem r6(es:Array (Int×Value))(p:Nat)(e:Int×Value):(insertAt es p e).toList.map (·.1)=(insertAt (es.map (·.1)) p e.1).toList:=by
 rw[cq,cq]
 simp[List.map_take,List.map_drop]
theorem sq{m n:Nat}(hm:ff m)(h1:n*5<m*3)(h2:m*3≤(n+1)*5)(h3:n<63):
  ff (sizeAbove (grown (n+1))-1)∧(n+1)*5<(sizeAbove (grown (n+1))-1)*3∧sizeAbove (grown (n+1))≤sizeLine:=by
 rcases hm with rfl|rfl|rfl
 ·have:n=4:=by omega
  subst this
  exact⟨.inr (.inl (by decide)),by decide,by decide⟩
 ·have:n=18:=by omega
  subst this
  exact⟨.inr (.inr (by decide)),by decide,by decide⟩
 ·omega
theorem DL{a x:Addr}{k:List Int}{M:List (List Int)}{Q:Bool→Shared→Prop}(hu:A.units<cLine)(hS:SG prog w U s.heap a M)(hU:U (.ref x))(hx:TK prog w s.heap k x)(hM:M.length<63)
  (hQ:∀(b:Bool)(h':Heap),Heap.SameBut a s.heap h'→SG prog w U h' a (M++[k])→Q b { s with heap:=h' }):wpAny (model prog w) A (setAddHashed a (.ref x) (hk prog w k)) Q E s:=by
 obtain⟨es,ep,t,ho,S⟩:=hS
 have T:=S.tab
 have hd:(cN es ep t).data=.set es ep t:=rfl
 have esz:t.place.size=es.size:=by have:=T.size;simpa using this
 obtain⟨N,hN2,hN,hb⟩:=sA T (hk prog w k)
 have hmask:t.mask≤127:=by rcases T.mask with e|e|e<;>omega
 unfold setAddHashed setAddHashedIn
 refine wpAny_holding (wpAny_bind (wpAny_setState_of ho hd T.fits ?_))
 dsimp only
 have hsc:byScan (.ref x) es=false:=rfl
 rw[hsc]
 simp only[iN,if_false]
 unfold setSearch
 refine wpAny_bind (uE hu hx ho hd T (fun e he=>let⟨k',_,q⟩:=S.sub e he;⟨k',q⟩) hN hb hN2 (fun hf=>?_) 100000 0 none (aaH _) (by omega) rfl fun hfree=>?_)
 ·-- it is there
  dsimp only
  obtain⟨e,he,hek⟩:=hf
  refine wpAny_pure ?_
  have:=hQ false s.heap (Heap.SameBut.refl a s.heap) ⟨es,ep,t,ho,T,S.led,S.plain,by rw[aai];exact iS S.size (abq _ _),fun e he=>let⟨k',q1,q2⟩:=S.sub e he;⟨k',aa9 _ q1,q2⟩,fun k' hk'=>by
   rcases List.mem_append.mp hk' with q|q
   ·exact S.all k' q
   ·simp at q;subst q;exact⟨e,he,hek⟩,S.dist,S.good⟩
  exact this
 ·-- it is new
  dsimp only
  have hnew:∀e∈es.toList,¬Ent prog w s.heap e k:=fun e he hek=>by
   obtain⟨i,hi⟩:=List.mem_iff_getElem?.mp he
   rw[oR]at hi
   have hil:=i6 hi
   obtain⟨j,hj⟩:∃j,t.place[i]? = some j:=⟨_,aac (by rw[esz];exact hil)⟩
   obtain⟨_,_,_,eh⟩:=id hek
   obtain⟨n,hn,hlive⟩:=T.reach i j (hk prog w k) hj (by rw[aae,oR,hi];exact congrArg some eh)
   have hlt:n<N:=by
    rcases Nat.lt_trichotomy n N with q|q|q
    ·exact q
    ·subst q;exact absurd ⟨i,by rw[hn];exact hj⟩ hN
    ·exact absurd (hlive N q) hN
   exact hfree n i e (aaH _) hlt (by rw[hn];exact hj) hi hek
  refine wpAny_bind (wpAny_setState_of ho hd T.fits ?_)
  dsimp only
  rw[Ca T.nd]
  dsimp only
  rw[if_pos S.plain]
  refine wpAny_bind (qO hx ?_)
  try dsimp only
  simp only[if_true]
  generalize hj:(steps t.mask N (startM t.mask (hk prog w k))).j=j at *
  have hbs:=(c5 t.place j T.rise).2.2
  have TP:TPre { t with place:=insertAt t.place (below t.place j) j } ((insertAt es (below t.place j) (hk prog w k,Value.ref x)).toList.map (·.1)):=by
   rw[r6]
   have T':TInv t (es.map (·.1)).toList:=by rw[Array.toList_map];exact T
   have:=zC T' (hk prog w k) (N:=N) (by rw[hj];exact hN) hb
   rw[hj]at this
   exact this
  have hsz':(insertAt es (below t.place j) (hk prog w k,Value.ref x)).size=es.size+1:=cQ es (by rw[←esz];exact hbs) _
  have hperm:=insertAt_perm es (p:=below t.place j) (hk prog w k,Value.ref x)
  have hsl:es.size+1≤sizeLine:=by have:=S.size;rw[sizeLine_eq];omega
  have hsb:=Heap.SameBut.update s.heap a (Obj.putSet (insertAt es (below t.place j) (hk prog w k,Value.ref x)) { t with place:=insertAt t.place (below t.place j) j })
  have entk:Ent prog w s.heap (hk prog w k,Value.ref x) k:=⟨x,rfl,hx,rfl⟩
  have good:∀(es2:Array (Int×Value))(t2:SetTable),es2.toList.Perm (insertAt es (below t.place j) (hk prog w k,Value.ref x)).toList→TInv t2 (es2.toList.map (·.1))→t2.led=t.led→t2.plain=true→SGI prog w U s.heap es2 t2 (M++[k]):=by
   intro es2 t2 hp T2 hl2 hpl2
   have hp2:=hp.trans hperm
   refine⟨T2,hl2.trans S.led,hpl2,?_,fun e he=>?_,fun k' hk'=>?_,?_,fun e he=>?_⟩
   ·have:=hp2.length_eq
    simp only[aag,iF]at this
    rw[aai,abg,this]
    have:=S.size;omega
   ·rcases List.mem_cons.mp (hp2.mem_iff.mp he) with rfl|he
    ·exact⟨k,by simp,entk⟩
    ·obtain⟨k',q1,q2⟩:=S.sub e he
     exact⟨k',aa9 _ q1,q2⟩
   ·rcases List.mem_append.mp hk' with q|q
    ·obtain⟨e,he,q2⟩:=S.all k' q
     exact⟨e,hp2.mem_iff.mpr (aan _ he),q2⟩
    ·simp at q;subst q
     exact⟨_,hp2.mem_iff.mpr aaL,entk⟩
   ·refine(hp2.pairwise_iff (fun {e e'} q k' x1 x2=>q k' x2 x1)).mpr (List.pairwise_cons.mpr ⟨fun e he k' x1 x2=>?_,S.dist⟩)
    have:=entk.inj x1
    subst this
    exact hnew e he x2
   ·rcases List.mem_cons.mp (hp2.mem_iff.mp he) with rfl|he
    ·exact hU
    ·exact S.good e he
  refine wpAny_bind (wpAny_storeSet_of ho hd ?_ (by rw[hsz'];exact hsl))
  have ho1:=stored ho (insertAt es (below t.place j) (hk prog w k,Value.ref x)) { t with place:=insertAt t.place (below t.place j) j }
  by_cases hfull:({ t with place:=insertAt t.place (below t.place j) j }:SetTable).tooFull=true
  ·rw[hfull]
   simp only[abD,Bool.and_self,if_true]
   have hfu:t.mask*3≤(es.size+1)*5:=by
    unfold SetTable.tooFull SetTable.fill at hfull
    simp only[T.nd,oF,aaU,Nat.add_zero,ge_iff_le,decide_eq_true_eq]at hfull
    rw[cQ _ hbs,esz]at hfull
    exact hfull
   obtain⟨gm1,gm2,gm3⟩:=sq T.mask (by rw[←esz];exact T.room) hfu (by have:=S.size;omega)
   have hlen:((insertAt es (below t.place j) (hk prog w k,Value.ref x)).toList.map (·.1)).length=es.size+1:=by rw[aad,aag,hsz']
   obtain⟨t2,order,el,em,eled,epl,eperm,TP2⟩:=Ab gm1 t.finger (({ t with place:=insertAt t.place (below t.place j) j }:SetTable).movedTo (sizeAbove (grown (es.size+1))-1)) t.led t.plain ((insertAt es (below t.place j) (hk prog w k,Value.ref x)).toList.map (·.1)) (by rw[hlen];omega)
   rw[hlen]at eperm
   have hf1:({ t with place:=insertAt t.place (below t.place j) j }:SetTable).fits (insertAt es (below t.place j) (hk prog w k,Value.ref x)).size=true:=by
    have hmm:es.size*5<t.mask*3:=by rw[←esz];exact T.room
    unfold SetTable.fits SetTable.fill
    simp only[T.nd,oF,aaU,Nat.add_zero,aay,beq_iff_eq,decide_eq_true_eq]
    rw[cQ _ hbs,hsz',esz]
    refine⟨rfl,?_⟩
    rcases T.mask with e|e|e<;>omega
   unfold setRelay
   refine wpAny_bind (wpAny_bind (wpAny_setState_of ho1 rfl hf1 ?_))
   dsimp only
   rw[if_neg (Nat.not_lt.mpr gm3)]
   have hrel:({ t with place:=insertAt t.place (below t.place j) j }:SetTable).relaid ((insertAt es (below t.place j) (hk prog w k,Value.ref x)).map (·.1)) (grown (es.size+1))=some (t2,order):=by
    unfold SetTable.relaid
    rw[←el]
    congr 1
    rw[←Array.toList_map,Array.toArray_toList]
   rw[hrel]
   obtain⟨fp1,fp2⟩:=kE (insertAt es (below t.place j) (hk prog w k,Value.ref x)) order (by rw[hsz'];exact eperm)
   have fsz:(order.filterMap ((insertAt es (below t.place j) (hk prog w k,Value.ref x))[·]?)).size=es.size+1:=by
    have:=fp1.length_eq
    rw[aag,aag,hsz']at this
    exact this
   have hhs:(order.filterMap ((insertAt es (below t.place j) (hk prog w k,Value.ref x))[·]?)).toList.map (·.1)=order.toList.map fun q=>((insertAt es (below t.place j) (hk prog w k,Value.ref x)).toList.map (·.1)).getD q 0:=by
    apply aaY
    intro i
    rw[aae,oR,fp2 i,aae,oR]
    cases hoi:order[i]? with
    |none=>rfl
    |some q=>
     have hq:q<es.size+1:=by
      have:q∈order.toList:=by rw[←oR]at hoi;exact aaf hoi
      exact List.mem_range.mp (eperm.mem_iff.mp this)
     show Option.map _ ((insertAt es (below t.place j) (hk prog w k,Value.ref x))[q]?)=some _
     have hq2:q<(insertAt es (below t.place j) (hk prog w k,Value.ref x)).size:=by rw[hsz'];exact hq
     dsimp only
     rw[aac hq2,aaJ,aae,oR,aac hq2]
     rfl
   have T2:TInv t2 ((order.filterMap ((insertAt es (below t.place j) (hk prog w k,Value.ref x))[·]?)).toList.map (·.1)):=by
    rw[hhs]
    refine TP2.full ?_
    have h1:=TP2.size
    rw[aad,eperm.length_eq,abA]at h1
    rw[h1,em];exact gm2
   show wpAny _ _ (do
    let(es,t) ←(do
     if ((order.filterMap ((insertAt es (below t.place j) (hk prog w k,Value.ref x))[·]?)).size != (insertAt es (below t.place j) (hk prog w k,Value.ref x)).size)=true then unsupported "internal:set-table-lost-an-element"
     pure ((order.filterMap ((insertAt es (below t.place j) (hk prog w k,Value.ref x))[·]?)),t2))
    storeSet a es t) _ _ _
   rw[fsz,hsz']
   simp only[bne_self_eq_false,iN,if_false]
   refine wpAny_bind (wpAny_bind (wpAny_pure (wpAny_pure ?_)))
   dsimp only
   refine wpAny_storeSet_of ho1 rfl ?_ (by rw[fsz];exact hsl)
   refine wpAny_pure ?_
   have hsb2:=hsb.trans (Heap.SameBut.update _ a (Obj.putSet (order.filterMap ((insertAt es (below t.place j) (hk prog w k,Value.ref x))[·]?)) t2))
   have ho2:=stored ho1 (order.filterMap ((insertAt es (below t.place j) (hk prog w k,Value.ref x))[·]?)) t2
   exact hQ true _ hsb2 ⟨_,_,_,ho2,(good _ t2 fp1 T2 eled (epl.trans S.plain)).same ho hd hsb2 ⟨_,ho2,_,_,_,rfl⟩⟩
  ·have hfull':({ t with place:=insertAt t.place (below t.place j) j }:SetTable).tooFull=false:=by simpa using hfull
   rw[hfull']
   simp only[Bool.and_false,iN,if_false]
   refine wpAny_pure ?_
   have T1:TInv { t with place:=insertAt t.place (below t.place j) j } ((insertAt es (below t.place j) (hk prog w k,Value.ref x)).toList.map (·.1)):=by
    refine TP.full ?_
    unfold SetTable.tooFull SetTable.fill at hfull
    simp only[T.nd,oF,aaU,Nat.add_zero,ge_iff_le,decide_eq_true_eq]at hfull
    exact Nat.not_le.mp hfull
   exact hQ true _ hsb ⟨_,_,_,ho1,(good _ _ (List.Perm.refl _) T1 rfl S.plain).same ho hd hsb ⟨_,ho1,_,_,_,rfl⟩⟩
end
section
variable {prog:Program}{w:World}{A:Around}{E:Value→Shared→Prop}{s:Shared}{U:Value→Prop}
theorem TK.keep {h h':Heap} {k:List Int} {b:Addr} {wr:List Addr} (x:TK prog w h k b) (hk:∀c o,c∉wr→h.get? c=some o→h'.get? c=some o) (hw:∀c∈wr,∃o,h.get? c=some o∧o.cls≠.type "tuple"):TK prog w h' k b:=by
 obtain⟨o,items,n,ho,hc,hd,hi⟩:=x
 refine⟨o,items,n,hk b o (fun hb=>?_) ho,hc,hd,hi⟩
 obtain⟨o',ho',hne⟩:=hw b hb
 rw[ho]at ho'
 cases ho'
 exact hne hc
theorem SGI.keep {h h':Heap} {es:Array (Int×Value)} {t:SetTable} {M:List (List Int)} {wr:List Addr} (S:SGI prog w U h es t M) (hk:∀c o,c∉wr→h.get? c=some o→h'.get? c=some o) (hw:∀c∈wr,∃o,h.get? c=some o∧o.cls≠.type "tuple"):SGI prog w U h' es t M:=by
 have fwd:∀{e k},Ent prog w h e k→Ent prog w h' e k:=fun {e k} ⟨b,e1,t1,e2⟩=>⟨b,e1,t1.keep hk hw,e2⟩
 refine⟨S.tab,S.led,S.plain,S.size,fun e he=>let⟨k,a,b⟩:=S.sub e he;⟨k,a,fwd b⟩,fun k hk'=>let⟨e,a,b⟩:=S.all k hk';⟨e,a,fwd b⟩,?_,S.good⟩
 refine(List.Pairwise.and_mem.mp S.dist).imp fun {e e'} q k x y=>?_
 obtain⟨k1,_,z1⟩:=S.sub e q.1
 obtain⟨k2,_,z2⟩:=S.sub e' q.2.1
 have i1:=(fwd z1).inj x
 have i2:=(fwd z2).inj y
 subst i1;subst i2
 exact q.2.2 _ z1 z2
theorem SG.keep {h h':Heap} {a:Addr} {M:List (List Int)} {wr:List Addr} (S:SG prog w U h a M) (ha:a∉wr) (hk:∀c o,c∉wr→h.get? c=some o→h'.get? c=some o) (hw:∀c∈wr,∃o,h.get? c=some o∧o.cls≠.type "tuple"):SG prog w U h' a M:=
 let⟨es,ep,t,ho,S⟩:=S;⟨es,ep,t,hk a _ ha ho,S.keep hk hw⟩
theorem SG.new (h:Heap):SG prog w U (h.push (cN #[] 0 (.fresh 0 0 (!w.params.followText "set-order")))) h.objs.size []:=by
 refine⟨#[],0,_,lE _ rfl,⟨⟨.inl rfl,rfl,rfl,fun i j a b _ ha=>by simp[SetTable.fresh]at ha,fun j ⟨i,hi⟩=>by simp[SetTable.fresh]at hi,by show 0*5<7*3;decide,fun i j h hi=>by simp[SetTable.fresh]at hi⟩,rfl,rfl,gO _,fun e he=>by simp at he,fun k hk=>by simp at hk,by simp,fun e he=>by simp at he⟩⟩
theorem vm{R:Result→Shared→Prop}{it S:Addr}{fp wr:List Addr}{G:Array GenState→Array GenState→Prop}{n:Nat}{P:Nat→Value→Prop}{St:Nat→Shared→Prop}(W:WalksS prog w A.in1 it fp wr G n P St)(hu:A.in1.units<cLine)
  (hSf:S∉fp) (hw:∀i s,St i s→∀c∈wr,∃o,s.heap.get? c=some o∧o.cls≠.type "tuple") {ks:List (List Int)} (hl:ks.length=n) (h63:n≤63)
  (TT:Heap→Prop) (hTT:∀h,TT h→∀i v,P i v→U v∧∃b k,v=.ref b∧ks[i]? = some k∧TK prog w h k b)
  (hTk:∀(h h':Heap) (wr':List Addr),TT h→(∀c o,c∉wr'→h.get? c=some o→h'.get? c=some o)→(∀c∈wr',∃o,h.get? c=some o∧o.cls≠.type "tuple")→TT h'):
  ∀(m i:Nat)(s:Shared),n-i=m→i≤n→St i s→TT s.heap→SG prog w U s.heap S (ks.take i)→(∀s',Moved (S::wr) G s s'→SG prog w U s'.heap S ks→R (.ok (.ret .none)) s') →
   codeAny (model prog w) A (.builtin "set.update.loop" ⟨[.ref S,.ref it],[]⟩) R s:=by
 have hSw:S∉wr:=fun q=>hSf (W.sub _ q)
 have sb:∀c∈wr,c∈S::wr:=fun c hc=>aan _ hc
 intro m
 induction m with
 |zero=>
  intro i s e1 e2 st _ hS hR
  obtain rfl:i=n:=by omega
  refine codeAny_builtin PyProof.Rows.F.entry_set_update_loop ?_
  rw[Around.under_plainId PyProof.Rows.F.plain_set_update_loop _]
  refine wpAny_bind (m:=pyNext (.ref it)) (W.done s _ _ st fun s' mv=>?_)
  rw[aa4 (by omega)]at hS
  exact wpAny_pure (hR s' (mv.mono sb) (hS.keep hSw mv.heap (hw _ s st)))
 |succ m ih=>
  intro i s e1 e2 st tt hS hR
  have hi:i<n:=by omega
  refine codeAny_builtin PyProof.Rows.F.entry_set_update_loop ?_
  rw[Around.under_plainId PyProof.Rows.F.plain_set_update_loop _]
  refine wpAny_bind (m:=pyNext (.ref it)) (W.item i s _ _ hi st fun v s' hP st' mv=>?_)
  have tt':=hTk _ _ wr tt mv.heap (hw _ s st)
  obtain⟨hUv,b,k,rfl,hki,hb⟩:=hTT _ tt' i v hP
  have hS':=hS.keep hSw mv.heap (hw _ s st)
  refine wpAny_bind (m:=holding [Value.ref b] (setAdd S (.ref b))) (wpAny_holding ?_)
  unfold setAdd
  refine wpAny_holding (wpAny_bind (wpAny_pyHash_tuple hu hb ?_))
  refine DL (s:={ s' with toks:=s'.toks+(k.length+1) }) hu hS' hUv hb (by rw[aaD];omega) fun bb h' sbt hS2=>?_
  have ek:ks.take i++[k]=ks.take (i+1):=by
   rw[List.take_add_one,hki];rfl
  rw[ek]at hS2
  obtain⟨es,ep,t,ho,_⟩:=hS'
  have keepS:∀c o,c∉[S]→s'.heap.get? c=some o→h'.get? c=some o:=fun c o hc e=>by
   rw[sbt.2 c (fun q=>hc (by simp[q]))];exact e
  refine wpAny_pure ⟨plainId_quiet PyProof.Rows.F.plain_set_update_loop _,ih (i+1) _ (by omega) hi (W.frame _ s' _ _ st' (abq _ _) fun c hc o e=>keepS c o (fun q=>hSf (by simp at q;rw[←q];exact hc)) e) ?_ hS2 fun s'' mv'' hS''=>?_⟩
  ·exact hTk _ _ [S] tt' keepS fun c hc=>by
    simp at hc;subst hc
    exact⟨_,ho,by simp[cN]⟩
  ·refine hR s'' (Moved.trans W.gtrans ((mv.mono sb).then_heap (abq _ _) fun c o hc e=>keepS c o (fun q=>hc (by simp at q;simp[q])) e) mv'') hS''
theorem yq (a:Value) {Q₁:Value→Shared→Prop} (h:Q₁ (.ref s.heap.objs.size) { s with heap:=s.heap.push (cN #[] 0 (.fresh 0 0 (!w.params.followText "set-order"))) }):
  codeAny (model prog w) A (.call (.builtin "set.__new__") ⟨[.type "set",a],[]⟩) (wants Q₁ E) s:=by
 refine codeAny_of_tree (wpAny_bind (m:=checkBuiltinCall "set.__new__" ⟨[.type "set",a],[]⟩) (wpAny_of_eq (F.newCall_set_1 a) (wpAny_pure ⟨plainId_quiet F.plain_set_new _,codeAny_builtin F.entry_set_new ?_⟩)))
 rw[Around.under_plainId F.plain_set_new _]
 unfold Builtin.«set.__new__» Builtin.Frozenset.newClass
 have sset:=sub_set_self
 obtain⟨hp,g,d,tk,os⟩:=s
 dsimp only
 wp_walk
 refine wpAny_askSetting (wpAny_pure ?_)
 dsimp only
 simp only[newObj]
 refine wpAny_bind (wpAny_alloc (wpAny_pure (wpAny_pure ?_)))
 exact h
theorem yu{l:Addr}{items:Array Value}{ks:List (List Int)}{Q:Value→Shared→Prop}(hh:A.handled=none)(hu:A.units+10<cLine)(hl:s.heap.IsList l items)(hz:ks.length=items.size)(h63:items.size≤63)
  (hT:∀(i:Nat)(v:Value),items[i]? = some v→∃b k,v=.ref b∧ks[i]? = some k∧TK prog w s.heap k b)
  (hU:∀v∈items.toList,U v)
  (h:∀(h':Heap)(tk:Nat),SG prog w U h' s.heap.objs.size ks→(∀b o,s.heap.get? b=some o→h'.get? b=some o)→Q (.ref s.heap.objs.size) { s with heap:=h',toks:=tk }):
  wpAny (model prog w) A (call (.type "set") [.ref l]) Q E s:=by
 obtain⟨c0,tl0,mro0⟩:=F.called_set.mro
 have made0:=F.called_set.made
 have sub0:=F.called_set.sub
 have q1:=F.called_set.notType
 have q2:=F.called_set.canCreate
 have q3:=F.typeCall_set_1 (.ref l)
 refine wpAny_call (codeAny_of_tree ?_)
 change wpAny _ _ (callAny (.type "set") _) _ _ _
 refine wpAny_pure ⟨Code.quiet_builtin _ (by decide +kernel),codeAny_builtin F.entry_type_call ?_⟩
 rw[Around.under_plain (weight_type_call_type "set" [.ref l] []) rfl]
 repeat (any_goals (first | assumption | wp_step))
 have hS0:SG prog w U (s.heap.push (cN #[] 0 (.fresh 0 0 (!w.params.followText "set-order")))) s.heap.objs.size []:=SG.new s.heap
 generalize hob:(!w.params.followText "set-order")=led at hS0
 change SG prog w U (s.heap.push { cls:=.type "set",dict:=none,data:=.set #[] 0 (.fresh 0 0 led) }) _ _ at hS0
 refine codeAny_mono (yq (.ref l) (E:=E) (Q₁:=fun obj s₁=>obj=.ref s.heap.objs.size∧s₁ = { s with heap:=s.heap.push { cls:=.type "set",dict:=none,data:=.set #[] 0 (.fresh 0 0 led) } }) (by rw[hob];exact⟨rfl,rfl⟩)) fun r s₁ hr=>?_
 cases r with
 |error e=>exact hr
 |ok fl=>
  cases fl with
  |ret obj=>
   obtain⟨rfl,rfl⟩:=hr
   have gS:(s.heap.push { cls:=.type "set",dict:=none,data:=.set #[] 0 (.fresh 0 0 led) }).get? s.heap.objs.size=some { cls:=.type "set",dict:=none,data:=.set #[] 0 (.fresh 0 0 led) }:=lE _ rfl
   have tS:Shared.TypeIs { s with heap:=s.heap.push { cls:=.type "set",dict:=none,data:=.set #[] 0 (.fresh 0 0 led) } } (.ref s.heap.objs.size) "set":=⟨_,gS,rfl⟩
   have li:=F.called_set.init.lookup
   have bi:=F.called_set.init.bind (.ref s.heap.objs.size)
   repeat (any_goals (first | assumption | wp_step))
   refine codeAny_mono (codeAny_call_builtin (R:=wants (fun r s₂=>r=.none∧∃h' tk,s₂ = { s with heap:=h',toks:=tk }∧SG prog w U h' s.heap.objs.size ks∧(∀b o,s.heap.get? b=some o→h'.get? b=some o)) E) F.called_set.init.plain F.entry_set_init (check_set_init_1 tS ?_)) fun r₂ s₂ hr₂=>?_
   ·have hl1:(s.heap.push { cls:=.type "set",dict:=none,data:=.set #[] 0 (.fresh 0 0 led) }).IsList l items:=hl.push _
    obtain⟨ol,gl,cl,nl,dl⟩:=hl
    obtain⟨ocl,odi,oda,osl⟩:=ol
    simp only at cl dl
    subst cl;subst dl
    have gl':(s.heap.push { cls:=.type "set",dict:=none,data:=.set #[] 0 (.fresh 0 0 led) }).get? l=some { cls:=.type "list",dict:=odi,data:=.seq items nl,slots:=osl }:=bY _ gl
    have n1:=F.sub_list_set
    have n2:=F.sub_list_frozenset
    have n3:(Value.type "list" == Value.type "dict")=false:=by decide
    unfold Builtin.«set.__init__» noKeywords Builtin.Frozenset.updateFrom
    generalize hPI:pyIter=PI
    wp_walk
    subst hPI
    refine wpAny_pyIter_list hl1 ?_
    refine wpAny_bind (wpAny_runValue ?_)
    have lS:l<s.heap.objs.size:=iD gl
    have szp:(s.heap.push { cls:=.type "set",dict:=none,data:=.set #[] 0 (.fresh 0 0 led) }).objs.size=s.heap.objs.size+1:=aaT _ _
    have neI:l≠(s.heap.push { cls:=.type "set",dict:=none,data:=.set #[] 0 (.fresh 0 0 led) }).objs.size  :=by rw[szp];exact aab (aba lS)
    refine vm (TT:=fun h=>∀(i:Nat)(v:Value),items[i]? = some v→∃b k,v=.ref b∧ks[i]? = some k∧TK prog w h k b) ((Walks.list (by simp[hh]) _ l neI items).toS) (S:=s.heap.objs.size) (by simp only[Around.in1_units];omega)
     (by rw[szp];simp only[abx,List.not_mem_nil,or_false,not_or];exact⟨aab (aaP _),Nat.ne_of_gt lS⟩) (fun i s' st c hc=>?_) hz h63 (fun h tt i v hv=>⟨hU v (by rw[←oR]at hv;exact aaf hv),tt i v hv⟩) (fun h h' wr tt hk hw i v hv=>let⟨b,k,e1,e2,e3⟩:=tt i v hv;⟨b,k,e1,e2,e3.keep hk hw⟩) (items.size-0) 0 _ (by omega) (aaH _)
     ⟨⟨_,lE _ rfl,rfl,rfl⟩,hl1.push _⟩ (fun i v hv=>?_) ?_ fun s' mv hS'=>?_
    ·obtain rfl:=List.mem_singleton.mp hc
     obtain⟨⟨o,go,co,_⟩,_⟩:=st
     exact⟨o,go,by rw[co];decide⟩
    ·obtain⟨b,k,e1,e2,e3⟩:=hT i v hv
     exact⟨b,k,e1,e2,e3.keep (wr:=[]) (fun c o _ e=>bY _ (bY _ e)) (fun c hc=>by simp at hc)⟩
    ·rw[List.take_zero]
     exact hS0.keep (wr:=[]) (by simp) (fun c o _ e=>bY _ e) (fun c hc=>by simp at hc)
    ·obtain⟨h',g',d',tk',os'⟩:=s'
     have eg:g'=s.gens:=mv.gens
     have ed:d'=s.drawn:=mv.drawn
     have eo:os'=s.os:=mv.os
     subst eg;subst ed;subst eo
     change wpAny _ _ _ _ _ _
     refine wpAny_pure (wpAny_pure (a:=_) ⟨rfl,h',tk',rfl,hS',fun b o e=>?_⟩)
     have bl:b<s.heap.objs.size:=iD e
     exact mv.heap b o (by rw[szp];simp only[abx,List.not_mem_nil,or_false,not_or];exact⟨aab bl,aab (aba bl)⟩) (bY _ (bY _ e))
   ·cases r₂ with
    |error e=>exact hr₂
    |ok fl₂=>
     cases fl₂ with
     |ret r=>
      obtain⟨rfl,h',tk,rfl,hS',hk'⟩:=hr₂
      repeat (any_goals (first | assumption | wp_step))
      exact h _ _ hS' hk'
     |_=>exact hr₂.elim
  |_=>exact hr.elim
end
namespace FI
theorem w8:Manifest.owners.lookup (String.ofList ['r','o','t','a','r','e','t','i','_','t','e','s'].reverse)=some Manifest.sig_set_iterator:=by kernel_rfl
theorem sl_next:Slot "set_iterator" "__next__" "set_iterator.__next__":=
 .of (owner:="set_iterator") (n:="__next__") (by rw[typeLookup_type,builtinLookup_eq_fast];kernel_rfl) (by decide +kernel) (by decide +kernel) (by decide +kernel) (by first|exact .inl (by decide +kernel)|exact .inr (by decide +kernel)) (by rw[isSubtype_type];kernel_rfl)
theorem en_next:entryFor table "set_iterator.__next__" = some Builtin.«set_iterator.__next__»:=entryFor_of_tree (by kernel_rfl)
theorem ar_next (a:Value):argsOk "set_iterator.__next__" ⟨[a],[]⟩:=by
 unfold argsOk;rw[signature?_of (id:="set_iterator.__next__") (n:="__next__".toList.reverse) (o:="set_iterator".toList.reverse) (by kernel_rfl) w8];kernel_rfl
theorem sl_iter:Slot "set_iterator" "__iter__" "set_iterator.__iter__":=
 .of (owner:="set_iterator") (n:="__iter__") (by rw[typeLookup_type,builtinLookup_eq_fast];kernel_rfl) (by decide +kernel) (by decide +kernel) (by decide +kernel) (by first|exact .inl (by decide +kernel)|exact .inr (by decide +kernel)) (by rw[isSubtype_type];kernel_rfl)
theorem en_iter:entryFor table "set_iterator.__iter__" = some Builtin.«dict_keyiterator.__iter__»:=entryFor_alias (id':="dict_keyiterator.__iter__") (by kernel_rfl) rfl (by decide +kernel) (by kernel_rfl)
theorem ar_iter (a:Value):argsOk "set_iterator.__iter__" ⟨[a],[]⟩:=by
 unfold argsOk;rw[signature?_of (id:="set_iterator.__iter__") (n:="__iter__".toList.reverse) (o:="set_iterator".toList.reverse) (by kernel_rfl) w8];kernel_rfl
theorem en_siter:entryFor table "set.__iter__" = some Builtin.«frozenset.__iter__»:=entryFor_alias (id':="frozenset.__iter__") (by kernel_rfl) rfl (by decide +kernel) (by kernel_rfl)
end FI
theorem nG{α:Type}(next:Nat→Nat):∀(fuel k:Nat)(left:List α)(out:Array α),fuel=left.length→(pickOrder.go next fuel k left out).toList.Perm (out.toList++left)
 |0,k,left,out,h=>by
  have:left=[]:=List.length_eq_zero_iff.mp h.symm
  subst this
  unfold pickOrder.go;simp
 |fuel+1,k,left,out,h=>by
  unfold pickOrder.go
  have hlt:next k % left.length<left.length:=abr _ (by omega)
  rw[dO hlt]
  dsimp only
  refine(nG next fuel (k+1) _ _ (by rw[List.length_eraseIdx,if_pos hlt];omega)).trans ?_
  rw[Array.toList_push,abB]
  refine List.Perm.append_left _ ?_
  show(left[next k % left.length]::left.eraseIdx (next k % left.length)).Perm left
  rw[List.eraseIdx_eq_take_drop_succ]
  refine List.perm_middle.symm.trans ?_
  rw[←aar hlt,abf]
theorem g9{α:Type}(next:Nat→Nat)(xs:Array α):(pickOrder next xs).toList.Perm xs.toList:=by
 have:=nG next xs.size 0 xs.toList #[] (by simp)
 simpa[pickOrder] using this
section
variable {prog:Program}{w:World}{A:Around}{E:Value→Shared→Prop}{s:Shared}
def c6 (w:World) (a:Addr) (es:Array (Int×Value)) (ep:Nat):Array (Int×Value):=if w.params.followText "set-order" = true then pickOrder (w.params.setOrder a ep) es else es
theorem kY(w:World)(a:Addr)(es:Array (Int×Value))(ep:Nat):(c6 w a es ep).toList.Perm es.toList:=by
 unfold c6;split
 ·exact g9 _ _
 ·exact List.Perm.refl _
theorem iZ(w:World)(a:Addr)(es:Array (Int×Value))(ep:Nat):(c6 w a es ep).size=es.size:=by
 have:=(kY w a es ep).length_eq;simpa using this
def slotAt (w:World) (t:SetTable) (i:Nat):Nat:=if w.params.followText "set-order" = true then 0 else if i=0 then 0 else t.place.getD (i-1) 0+1
theorem next_item {a:Addr} {es:Array (Int×Value)} {ep:Nat} {t:SetTable} {i:Nat} {e:Int×Value} {Q:Option (Value×Nat)→Shared→Prop} (ho:s.heap.get? a=some (cN es ep t)) (T:TInv t (es.toList.map (·.1))) (hl:t.led = !w.params.followText "set-order") (hp:t.plain=true)
  (hi:(c6 w a es ep)[i]? = some e) (h:Q (some (e.2,slotAt w t (i+1))) s):wpAny (model prog w) A (setNext a (slotAt w t i) i ep) Q E s:=by
 have esz:t.place.size=es.size:=by have:=T.size;simpa using this
 have hil:i<es.size:=by rw[←iZ w a es ep];exact i6 hi
 unfold setNext
 refine wpAny_bind (wpAny_setState_of ho rfl T.fits ?_)
 dsimp only
 unfold setsByText
 refine wpAny_bind (wpAny_bind (wpAny_askSetting (wpAny_pure ?_)))
 show wpAny _ _ (if w.params.followText "set-order" = true then _ else _) _ _ _
 by_cases hb:w.params.followText "set-order" = true
 ·rw[if_pos hb]
  simp only[bne_self_eq_false,iN,if_false]
  unfold setWalk setsByText
  refine wpAny_bind (wpAny_bind (wpAny_setState_of ho rfl T.fits ?_))
  dsimp only
  refine wpAny_bind (wpAny_bind (wpAny_askSetting (wpAny_pure ?_)))
  show wpAny _ _ (if w.params.followText "set-order" = true then _ else _) _ _ _
  rw[if_pos hb]
  refine wpAny_bind (wpAny_askSetting (wpAny_pure ?_))
  have e1:c6 w a es ep=pickOrder (w.params.setOrder a ep) es:=by unfold c6;rw[if_pos hb]
  show wpAny _ _ (pure (((pickOrder (w.params.setOrder a ep) es)[i]?).map fun e=>(e.2,slotAt w t i))) _ _ _
  rw[←e1,hi]
  have e2:slotAt w t i=slotAt w t (i+1):=by unfold slotAt;rw[if_pos hb,if_pos hb]
  rw[e2]
  exact wpAny_pure h
 ·rw[if_neg hb]
  have hb':w.params.followText "set-order" = false:=by simpa using hb
  have e1:c6 w a es ep=es:=by unfold c6;rw[if_neg hb]
  rw[e1]at hi
  show wpAny _ _ (if (!t.plain&&decide (es.size>1))=true then _ else _) _ _ _
  rw[hp]
  simp only[aaW,abE,iN,if_false]
  refine wpAny_bind ?_
  show wpAny _ _ (if (!t.led&&!es.isEmpty)=true then _ else _) _ _ _
  rw[hl,hb']
  simp only[abD,aaW,abE,iN,if_false]
  refine wpAny_pure ?_
  obtain⟨j,hj⟩:∃j,t.place[i]? = some j:=⟨_,aac (by rw[esz];exact hil)⟩
  have hbw:below t.place (slotAt w t i)=i:=by
   by_cases hz:i=0
   ·have e3:slotAt w t i=0:=by unfold slotAt;rw[if_neg hb,if_pos hz]
    rw[e3]
    obtain⟨b1,b2,b3⟩:=c5 t.place 0 T.rise
    subst hz
    rcases Nat.eq_zero_or_pos (below t.place 0) with q|q
    ·exact q
    ·have:=b1 0 j q hj;omega
   ·obtain⟨j',hj'⟩:∃j',t.place[i-1]? = some j':=⟨_,aac (by rw[esz];omega)⟩
    have e3:slotAt w t i=j'+1:=by unfold slotAt;rw[if_neg hb,if_neg hz,aaz,hj'];rfl
    rw[e3]
    obtain⟨b1,b2,b3⟩:=c5 t.place (j'+1) T.rise
    have hlt:=T.rise (i-1) i j' j (by omega) hj' hj
    rcases Nat.lt_trichotomy (below t.place (j'+1)) i with q|q|q
    ·have:=b2 (i-1) j' (by omega) hj';omega
    ·exact q
    ·have:=b1 i j q hj;omega
  simp only[hbw,hi,hj]
  have e2:slotAt w t (i+1)=j+1:=by
   unfold slotAt
   rw[if_neg hb,if_neg (by omega),Nat.add_sub_cancel,aaz,hj];rfl
  rw[e2]at h
  exact wpAny_pure h
theorem next_end {a:Addr} {es:Array (Int×Value)} {ep:Nat} {t:SetTable} {Q:Option (Value×Nat)→Shared→Prop} (ho:s.heap.get? a=some (cN es ep t)) (T:TInv t (es.toList.map (·.1))) (hl:t.led = !w.params.followText "set-order") (hp:t.plain=true)
  (h:Q none s):wpAny (model prog w) A (setNext a (slotAt w t es.size) es.size ep) Q E s:=by
 have esz:t.place.size=es.size:=by have:=T.size;simpa using this
 unfold setNext
 refine wpAny_bind (wpAny_setState_of ho rfl T.fits ?_)
 dsimp only
 unfold setsByText
 refine wpAny_bind (wpAny_bind (wpAny_askSetting (wpAny_pure ?_)))
 show wpAny _ _ (if w.params.followText "set-order" = true then _ else _) _ _ _
 by_cases hb:w.params.followText "set-order" = true
 ·rw[if_pos hb]
  simp only[bne_self_eq_false,iN,if_false]
  unfold setWalk setsByText
  refine wpAny_bind (wpAny_bind (wpAny_setState_of ho rfl T.fits ?_))
  dsimp only
  refine wpAny_bind (wpAny_bind (wpAny_askSetting (wpAny_pure ?_)))
  show wpAny _ _ (if w.params.followText "set-order" = true then _ else _) _ _ _
  rw[if_pos hb]
  refine wpAny_bind (wpAny_askSetting (wpAny_pure ?_))
  show wpAny _ _ (pure (((pickOrder (w.params.setOrder a ep) es)[es.size]?).map fun e=>(e.2,slotAt w t es.size))) _ _ _
  have hz:(pickOrder (w.params.setOrder a ep) es).size=es.size:=by have:=(g9 (w.params.setOrder a ep) es).length_eq;simpa using this
  rw[aap (by rw[hz];exact gO _)]
  exact wpAny_pure h
 ·rw[if_neg hb]
  have hb':w.params.followText "set-order" = false:=by simpa using hb
  show wpAny _ _ (if (!t.plain&&decide (es.size>1))=true then _ else _) _ _ _
  rw[hp]
  simp only[aaW,abE,iN,if_false]
  refine wpAny_bind ?_
  show wpAny _ _ (if (!t.led&&!es.isEmpty)=true then _ else _) _ _ _
  rw[hl,hb']
  simp only[abD,aaW,abE,iN,if_false]
  refine wpAny_pure ?_
  have hbw:below t.place (slotAt w t es.size)=es.size:=by
   obtain⟨b1,b2,b3⟩:=c5 t.place (slotAt w t es.size) T.rise
   rcases aaj (below t.place (slotAt w t es.size)) es.size with q|q
   ·exfalso
    have hpos:es.size≠0:=by omega
    obtain⟨j',hj'⟩:∃j',t.place[es.size-1]? = some j':=⟨_,aac (by rw[esz];omega)⟩
    have hh:=b2 (es.size-1) j' (by omega) hj'
    unfold slotAt at hh
    rw[if_neg hb,if_neg hpos,aaz,hj']at hh
    simp at hh
    omega
   ·omega
  simp only[hbw,aap (gO es.size)]
  exact wpAny_pure h
def fZ(w:World)(h:Heap)(it a:Addr)(t:SetTable)(i n ep:Nat):Prop:=
 ∃o,h.get? it=some o∧o.cls=.type "set_iterator"∧o.data=.fields #[.int (slotAt w t i) 0,.int i 0,.ref a,.int n 0,.int ep 0]
theorem fZ.typeIs {s:Shared} {it a:Addr} {t:SetTable} {i n ep:Nat} (x:fZ w s.heap it a t i n ep):s.TypeIs (.ref it) "set_iterator":=let⟨o,ho,hc,_⟩:=x;⟨o,ho,hc⟩
theorem xH{a:Addr}{es:Array (Int×Value)}{ep:Nat}{t:SetTable}{Q:Value→Shared→Prop}(ho:s.heap.get? a=some (cN es ep t))(T:TInv t (es.toList.map (·.1)))(hp:t.plain=true)
  (hQ:Q (.ref s.heap.objs.size) { s with heap:=s.heap.push { cls:=.type "set_iterator",data:=.fields #[.int 0 0,.int 0 0,.ref a,.int es.size 0,.int ep 0] } }):wpAny (model prog w) A (pyIter (.ref a)) Q E s:=by
 have hT:s.TypeIs (.ref a) "set":=⟨_,ho,rfl⟩
 refine wpAny_pyIter_slot hT F.slot_set_iter (wpAny_call_entry F.slot_set_iter hT FI.en_siter ?_ (F.args_set_iter_1 _))
 unfold Builtin.«frozenset.__iter__»
 refine wpAny_bind (m:=Builtin.Frozenset.slot0 "__iter__" ⟨[.ref a],[]⟩) (wpAny_pure ?_)
 unfold Builtin.Frozenset.sizeOf
 refine wpAny_bind (wpAny_bind (wpAny_setEntries_of ho rfl T.fits (wpAny_pure ?_)))
 unfold setDrawn setsByText
 refine wpAny_bind (wpAny_bind (wpAny_setState_of ho rfl T.fits ?_))
 dsimp only
 refine wpAny_bind (wpAny_bind (wpAny_askSetting (wpAny_pure ?_)))
 have hdr:(!(model prog w).w.params.followText "set-order" && (!t.plain&&decide (es.size>1)))=false:=by rw[hp];simp
 show wpAny _ _ (pure (!(model prog w).w.params.followText "set-order" && (!t.plain&&decide (es.size>1)))) _ _ _
 rw[hdr]
 refine wpAny_pure ?_
 simp only[iN,if_false]
 refine wpAny_bind (wpAny_pure ?_)
 refine wpAny_bind (wpAny_setEpoch_of ho rfl T.fits ?_)
 exact wpAny_bind (wpAny_newObj_type (wpAny_pure ⟨_,rfl,"set_iterator",_,⟨_,lE _ rfl,rfl⟩,FI.sl_next.lookup,hQ⟩))
theorem Ah {it a:Addr} {es:Array (Int×Value)} {ep i:Nat} {t:SetTable} {e:Int×Value} {Q:Option Value→Shared→Prop} (ho:s.heap.get? a=some (cN es ep t)) (T:TInv t (es.toList.map (·.1))) (hl:t.led = !w.params.followText "set-order") (hp:t.plain=true)
  (hit:fZ w s.heap it a t i es.size ep) (hi:(c6 w a es ep)[i]? = some e) (hne:a≠it)
  (hQ:∀h',fZ w h' it a t (i+1) es.size ep→Heap.SameBut it s.heap h'→Q (some e.2) { s with heap:=h' }):wpAny (model prog w) A (pyNext (.ref it)) Q E s:=by
 obtain⟨o,go,hc,hd⟩:=id hit
 unfold pyNext
 refine wpAny_bind (wpAny_attempt (wpAny_callSpecial?_slot (name:=Str.ofString "__next__") hit.typeIs FI.sl_next (wpAny_call_entry FI.sl_next hit.typeIs FI.en_next ?_ (FI.ar_next _))))
 unfold Builtin.«set_iterator.__next__»
 refine wpAny_bind (m:=slotArgs "__next__" 0 ⟨[.ref it],[]⟩) (wpAny_pure ?_)
 dsimp only
 refine wpAny_bind (wpAny_fieldsOf go hd ?_)
 dsimp only
 refine wpAny_bind (wpAny_setEntries_of ho rfl T.fits ?_)
 simp only[bne_self_eq_false,iN,if_false,abC]
 refine wpAny_bind (next_item ho T hl hp hi ?_)
 dsimp only
 have g1:(s.heap.update it (Obj.mapFields (·.setIfInBounds 0 (rawInt (slotAt w t (i+1)))))).get? it=some (Obj.mapFields (·.setIfInBounds 0 (rawInt (slotAt w t (i+1)))) o):=aaA _ go (Obj.isFreed_of_fields (Obj.data_mapFields hd _))
 refine wpAny_bind (wpAny_setField go hd (by simp) ?_)
 refine wpAny_bind (wpAny_setField g1 (Obj.data_mapFields hd _) (by simp) ?_)
 refine wpAny_pure ⟨_,rfl,wpAny_pure (hQ _ ⟨_,aaA _ g1 (Obj.isFreed_of_fields (Obj.data_mapFields (Obj.data_mapFields hd _) _)),(Obj.cls_mapFields ..).trans ((Obj.cls_mapFields ..).trans hc),?_⟩ ((Heap.SameBut.update ..).trans (Heap.SameBut.update ..)))⟩
 rw[Obj.data_mapFields (Obj.data_mapFields hd _)]
 simp[rawInt]
theorem C6 {it a:Addr} {es:Array (Int×Value)} {ep:Nat} {t:SetTable} {Q:Option Value→Shared→Prop} (hh:A.handled=none) (ho:s.heap.get? a=some (cN es ep t)) (T:TInv t (es.toList.map (·.1))) (hl:t.led = !w.params.followText "set-order") (hp:t.plain=true)
  (hit:fZ w s.heap it a t es.size es.size ep)
  (hQ:∀h',Heap.ExtBut it s.heap h'→Q none { s with heap:=h' }):wpAny (model prog w) A (pyNext (.ref it)) Q E s:=by
 obtain⟨o,go,hc,hd⟩:=id hit
 unfold pyNext
 refine wpAny_bind (wpAny_attempt (wpAny_callSpecial?_slot (name:=Str.ofString "__next__") hit.typeIs FI.sl_next (wpAny_call_entry FI.sl_next hit.typeIs FI.en_next ?_ (FI.ar_next _))))
 unfold Builtin.«set_iterator.__next__»
 refine wpAny_bind (m:=slotArgs "__next__" 0 ⟨[.ref it],[]⟩) (wpAny_pure ?_)
 dsimp only
 refine wpAny_bind (wpAny_fieldsOf go hd ?_)
 dsimp only
 refine wpAny_bind (wpAny_setEntries_of ho rfl T.fits ?_)
 simp only[bne_self_eq_false,iN,if_false,abC]
 refine wpAny_bind (next_end ho T hl hp ?_)
 dsimp only
 refine wpAny_bind (wpAny_setField go hd (by simp) ?_)
 refine wpAny_bind (m:=newExc (.type "StopIteration") []) ?_
 simp only[newExc,newTuple]
 refine wpAny_bind (wpAny_newObj_type ?_ (by size_fits))
 refine wpAny_bind (m:=firstArgMember _ _) (wpAny_of_eq (a:=Value.none) (by first|rfl | (simp only[firstArgMember];rfl)) (wpAny_newObj_type ?_ (by size_fits)))
 simp only[raiseNew]
 refine wpAny_bind (wpAny_handled ?_)
 rw[show A.in1.handled=none from hh]
 refine wpAny_bind (wpAny_pure (wpAny_throw ?_))
 refine wpAny_bind (wpAny_isInstance (b:=true) (T:="StopIteration") ⟨_,lE _ rfl,rfl⟩ isSubtype_stop ?_)
 exact wpAny_pure (hQ _ (((Heap.SameBut.update ..).extBut.push _).push _))
theorem uy (hh:A.handled=none) (it a:Addr) (hne:a≠it) (es:Array (Int×Value)) (ep:Nat) (t:SetTable) (T:TInv t (es.toList.map (·.1))) (hl:t.led = !w.params.followText "set-order") (hp:t.plain=true):
  Walks prog w A it [it,a] [it] es.size (fun i v=>∃e,(c6 w a es ep)[i]? = some e∧v=e.2) (fun i h=>fZ w h it a t i es.size ep∧h.get? a=some (cN es ep t)) where
 sub:=fun b hb=>by simp at hb;simp[hb]
 frame:=fun _ _ _ st hk=>⟨let⟨o,ho,r⟩:=st.1;⟨o,hk it (by simp) o ho,r⟩,hk a (by simp) _ st.2⟩
 item:=fun i s Q E hi st hQ=>by
  obtain⟨e,he⟩:∃e,(c6 w a es ep)[i]? = some e:=⟨_,aac (by rw[iZ];exact hi)⟩
  refine Ah st.2 T hl hp st.1 he hne fun h' hit' hs'=>?_
  exact hQ _ h' s.toks ⟨e,he,rfl⟩ ⟨hit',(hs'.2 a hne).trans st.2⟩ fun b o hb q=>(hs'.2 b (fun z=>hb (by simp[z]))).trans q
 done:=fun s Q E st hQ=>C6 hh st.2 T hl hp st.1 fun h' he'=>hQ h' s.toks fun b o hb q=>he' b o (fun z=>hb (by simp[z])) q
 self:=fun _ _ _ _ st hQ=>by
  refine wpAny_pyIter_slot st.1.typeIs FI.sl_iter (wpAny_call_entry FI.sl_iter st.1.typeIs FI.en_iter ?_ (FI.ar_iter _))
  exact wpAny_pure ⟨_,rfl,"set_iterator",_,st.1.typeIs,FI.sl_next.lookup,hQ⟩
end
end GS
namespace HM
abbrev Pt:=Int×Int
def cr(P Q R:Pt):Int:=(Q.1-P.1)*(R.2-P.2)-(Q.2-P.2)*(R.1-P.1)
def lx(P Q:Pt):Prop:=P.1<Q.1∨(P.1=Q.1∧P.2<Q.2)
instance (P Q:Pt):Decidable (lx P Q):=by unfold lx;infer_instance
theorem rT(P Q:Pt):lx P Q∨P=Q∨lx Q P:=by
 unfold lx
 rcases Int.lt_trichotomy P.1 Q.1 with h|h|h
 ·exact .inl (.inl h)
 ·rcases Int.lt_trichotomy P.2 Q.2 with g|g|g
  ·exact .inl (.inr ⟨h,g⟩)
  ·exact .inr (.inl (Prod.ext h g))
  ·exact .inr (.inr (.inr ⟨h.symm,g⟩))
 ·exact .inr (.inr (.inl h))
theorem qm{P Q R:Pt}(h:lx P Q)(g:lx Q R):lx P R:=by unfold lx at *;omega
theorem gq{P:Pt}(h:lx P P):False:=by unfold lx at h;omega
theorem fm{P Q:Pt}(h:lx P Q)(g:lx Q P):False:=gq (qm h g)
theorem nn{a b:Int}(hb:0<b)(h:0≤a*b):0≤a:=by
 rcases aaX a 0 with q|q
 ·have:=aa8 q hb;omega
 ·exact q
theorem pp{a b:Int}(hb:0<b)(h:0<a*b):0<a:=by
 rcases aaX 0 a with q|q
 ·exact q
 ·have:=Int.mul_nonpos_of_nonpos_of_nonneg q (aaG hb);omega
def Rt(x y:Int):Prop:=0<x∨(x=0∧0<y)
section
variable {a b c d e f:Int}
theorem id1:(a*f-b*e)*c=(a*d-b*c)*e+(c*f-d*e)*a:=by grind
theorem F3(u:Rt a b)(v:Rt c d)(w:Rt e f)(h1:0≤a*d-b*c)(h2:0≤c*f-d*e):0≤a*f-b*e:=by
 have he:0≤e:=by unfold Rt at w;omega
 have ha:0≤a:=by unfold Rt at u;omega
 rcases v with hc|⟨rfl,hd⟩
 ·refine nn hc ?_
  rw[id1 (d:=d)]
  exact Int.add_nonneg (aaq h1 he) (aaq h2 ha)
 ·have hz:e=0:=by
   rcases aaX 0 e with q|q
   ·have:=aaK hd q;omega
   ·omega
  subst hz
  have hf:0<f:=by unfold Rt at w;omega
  have:=aaq ha (aaG hf)
  omega
theorem A0(u:Rt a b)(v:Rt c d)(w:Rt e f)(h1:0≤a*d-b*c)(h2:0<c*f-d*e):0<a*f-b*e:=by
 have he:0≤e:=by unfold Rt at w;omega
 have ha:0≤a:=by unfold Rt at u;omega
 rcases v with hc|⟨rfl,hd⟩
 ·have ha':0<a:=by
   rcases u with q|⟨rfl,hb⟩
   ·exact q
   ·have:=aaK hb hc;omega
  refine pp hc ?_
  rw[id1 (d:=d)]
  have:=aaK h2 ha'
  have:=aaq h1 he
  omega
 ·have:=aaq (aaG hd) he;omega
end
theorem fP{P Q:Pt}(h:lx P Q):Rt (Q.1-P.1) (Q.2-P.2):=by unfold lx at h;unfold Rt;omega
theorem rC{α:Type}{P:List α→Prop}(nil:P [])(snoc:∀l a,P l→P (l++[a]))(l:List α):P l:=by
 have key:∀r:List α,P r.reverse:=fun r=>by
  induction r with
  |nil=>exact nil
  |cons a r ih=>rw[abj];exact snoc _ _ ih
 have:=key l.reverse
 rwa [abl]at this
def bp(p:Pt):List Pt→List Pt
 |b::a::r=>if 0<cr a b p then b::a::r else bp p (a::r)
 |st=>st
def bK(ps:List Pt):List Pt:=ps.foldl (fun st p=>p::bp p st) []
theorem ig(ps:List Pt)(p:Pt):bK (ps++[p])=p::bp p (bK ps):=by unfold bK;rw[List.foldl_append];rfl
structure CI (st l:List Pt):Prop where
 sub:∀p∈st,p∈l
 up:st.Pairwise fun b a=>lx a b
 edge:∀pre b a r,st=pre++b::a::r→∀q∈l,0≤cr a b q
 turn:∀pre c b a r,st=pre++c::b::a::r→0<cr a b c
 top:∀t r,st=t::r→∀q∈l,q=t∨lx q t
 bot:∀pre t,st=pre++[t]→∀q∈l,q=t∨lx t q
theorem CI.nil:CI [] []:=⟨fun _ h=>h,.nil,fun _ _ _ _ _ q h=>by simp at h,fun pre _ _ _ _ h=>by simp at h,fun _ _ h=>by simp at h,fun _ _ h=>by simp at h⟩
theorem qJ(P Q:Pt):cr P Q P=0:=by unfold cr;grind
theorem yh(P Q:Pt):cr P Q Q=0:=by unfold cr;grind
theorem AF(P Q R:Pt):cr P Q R = - cr Q P R:=by unfold cr;grind
theorem u5{a b c p:Pt}(h1:lx a b)(h2:lx b c)(h3:lx c p)(t1:0<cr a b c)(t2:0<cr b c p):0<cr a b p:=by
 have e1:cr a b c=(b.1-a.1)*(c.2-b.2)-(b.2-a.2)*(c.1-b.1):=by unfold cr;grind
 have e2:cr b c p=(c.1-b.1)*(p.2-c.2)-(c.2-b.2)*(p.1-c.1):=by unfold cr;grind
 rw[e1]at t1;rw[e2]at t2
 have:=A0 (fP h1) (fP h2) (fP h3) (aaG t1) t2
 have e3:cr a b p=((b.1-a.1)*(c.2-b.2)-(b.2-a.2)*(c.1-b.1))+((b.1-a.1)*(p.2-c.2)-(b.2-a.2)*(p.1-c.1)):=by unfold cr;grind
 omega
theorem u7{a b p q:Pt}(h1:lx a b)(h2:lx b p)(h3:lx q b)(t1:0<cr a b p)(t2:0≤cr a b q):0≤cr b p q:=by
 have e1:cr a b q=(b.1-q.1)*(b.2-a.2)-(b.2-q.2)*(b.1-a.1):=by unfold cr;grind
 have e2:cr a b p=(b.1-a.1)*(p.2-b.2)-(b.2-a.2)*(p.1-b.1):=by unfold cr;grind
 have e3:cr b p q=(b.1-q.1)*(p.2-b.2)-(b.2-q.2)*(p.1-b.1):=by unfold cr;grind
 rw[e3];rw[e1]at t2;rw[e2]at t1
 exact aaG (A0 (fP h3) (fP h1) (fP h2) t2 t1)
theorem u6{a b p q:Pt}(h1:lx a b)(h2:lx a p)(h3:lx a q)(t1:cr a b p≤0)(t2:0≤cr a b q):0≤cr a p q:=by
 have e1:cr a b p = -((p.1-a.1)*(b.2-a.2)-(p.2-a.2)*(b.1-a.1)):=by unfold cr;grind
 exact F3 (fP h2) (fP h1) (fP h3) (by omega) t2
theorem Ce{l:List Pt}{p:Pt}(hp:∀q∈l,lx q p):∀{st:List Pt},CI st l→st≠[] →
  ∃t r pre,bp p st=t::r∧st=pre++t::r∧(∀q∈l,lx t q→0≤cr t p q)∧(∀a r',r=a::r'→0<cr a t p):=by
 have key:∀(n:Nat)(st pre0:List Pt),st.length=n→CI (pre0++st) l→st≠[]→(∀t r,st=t::r→∀q∈l,lx t q→0≤cr t p q) →
   ∃t r pre,bp p st=t::r∧st=pre++t::r∧(∀q∈l,lx t q→0≤cr t p q)∧(∀a r',r=a::r'→0<cr a t p):=by
  intro n
  induction n with
  |zero=>intro st _ hn _ hne;exact absurd (List.length_eq_zero_iff.mp hn) hne
  |succ n ih=>
   intro st pre0 hn C hne ht
   match st,hn,hne with
   |[t],_,_=>exact⟨t,[],[],rfl,rfl,ht t [] rfl,fun _ _ h=>by simp at h⟩
   |b::a::r,hn,_=>
    by_cases hc:0<cr a b p
    ·refine⟨b,a::r,[],by unfold bp;rw[if_pos hc],rfl,ht b _ rfl,fun a' r' h=>?_⟩
     cases h;exact hc
    ·have hab:lx a b:=(List.pairwise_cons.mp (List.pairwise_append.mp C.up).2.1).1 a (.head _)
     have hal:a∈l:=C.sub a (by simp)
     have hap:=hp a hal
     have e:pre0++b::a::r=(pre0++[b])++a::r:=by simp
     obtain⟨t,r1,pre,h1,h2,h3,h4⟩:=ih (a::r) (pre0++[b]) (by simpa using hn) (by rw[←e];exact C) (by simp) (fun t r' h q hq htq=>by
      cases h
      exact u6 hab hap htq (Int.not_lt.mp hc) (C.edge pre0 b a r rfl q hq))
     exact⟨t,r1,b::pre,by unfold bp;rw[if_neg hc];exact h1,by rw[h2];rfl,h3,h4⟩
 intro st C hne
 refine key st.length st [] rfl C hne fun t r h q hq htq=>?_
 rcases C.top t r h q hq with e|e
 ·subst e;exact absurd htq (fun z=>gq z)
 ·exact absurd htq (fun z=>fm z e)
theorem CI.snoc{st l:List Pt}{p:Pt}(C:CI st l)(hp:∀q∈l,lx q p)(hne:l=[]↔st=[]):CI (p::bp p st) (l++[p]):=by
 by_cases hst:st=[]
 ·have hl:=hne.mpr hst
  subst hst;subst hl
  refine⟨fun q h=>?_,abw _ _,fun pre b a r h=>?_,fun pre c b a r h=>?_,fun t r h q hq=>?_,fun pre t h q hq=>?_⟩
  ·simpa[bp] using h
  ·rcases pre with _|⟨_,pre⟩<;>simp[bp]at h
  ·rcases pre with _|⟨_,pre⟩<;>simp[bp]at h
  ·simp[bp]at h;simp at hq;exact .inl (by rw[hq,h.1])
  ·have:pre=[]∧p=t:=by
    rcases pre with _|⟨x,pre⟩
    ·simpa[bp] using h
    ·simp[bp]at h
   simp at hq;exact .inl (by rw[hq,this.2])
 ·obtain⟨t,r,pre,e1,e2,h3,h4⟩:=Ce hp C hst
  rw[e1]
  have htl:t∈l:=C.sub t (by rw[e2];simp)
  have htp:=hp t htl
  have hup:(t::r).Pairwise fun b a=>lx a b:=by
   have:=C.up;rw[e2]at this;exact(List.pairwise_append.mp this).2.1
  have hsub:∀q∈t::r,q∈l:=fun q hq=>C.sub q (by rw[e2];exact tO _ hq)
  have newedge:∀q∈l,0≤cr t p q:=fun q hq=>by
   rcases rT q t with g|g|g
   ·cases r with
    |nil=>
     rcases C.bot pre t (by rw[e2]) q hq with z|z
     ·subst z;exact absurd g (fun z=>gq z)
     ·exact absurd g (fun y=>fm z y)
    |cons a r'=>
     have hat:lx a t:=(List.pairwise_cons.mp hup).1 a (.head _)
     exact u7 hat htp g (h4 a r' rfl) (C.edge pre t a r' e2 q hq)
   ·subst g;rw[qJ];exact Int.le_refl _
   ·exact h3 q hq g
  refine⟨fun q h=>?_,?_,fun pre' b a r' h q hq=>?_,fun pre' c b a r' h=>?_,fun t' r' h q hq=>?_,fun pre' t' h q hq=>?_⟩
  ·rcases List.mem_cons.mp h with rfl|h
   ·simp
   ·exact aa9 _ (hsub q h)
  ·refine List.pairwise_cons.mpr ⟨fun q hq=>hp q (hsub q hq),hup⟩
  ·-- edges
   rcases pre' with _|⟨x,pre'⟩
   ·simp only[List.nil_append,List.cons.injEq]at h
    obtain⟨rfl,rfl,rfl⟩:=h
    rcases List.mem_append.mp hq with hq|hq
    ·exact newedge q hq
    ·simp at hq;subst hq;rw[yh];exact Int.le_refl _
   ·simp only[List.cons_append,List.cons.injEq]at h
    obtain⟨rfl,h⟩:=h
    rcases List.mem_append.mp hq with hq|hq
    ·exact C.edge (pre++pre') b a r' (by rw[e2,h];simp) q hq
    ·simp at hq;subst hq
     have conv:∀(pre':List Pt)(b a:Pt)(r':List Pt),t::r=pre'++b::a::r'→0<cr a b q:=by
      intro pre'
      induction pre' using rC with
      |nil=>
       intro b a r' h
       simp only[List.nil_append,List.cons.injEq]at h
       obtain⟨rfl,rfl⟩:=h
       exact h4 a r' rfl
      |snoc pre' c ih=>
       intro b a r' h
       have h':t::r=pre'++c::b::(a::r'):=by rw[h];simp
       have hc:=ih c b (a::r') h'
       have up2:(c::b::a::r').Pairwise fun b a=>lx a b:=by
        have:=hup;rw[h']at this;exact(List.pairwise_append.mp this).2.1
       have hbc:lx b c:=(List.pairwise_cons.mp up2).1 b (.head _)
       have hab:lx a b:=(List.pairwise_cons.mp (List.pairwise_cons.mp up2).2).1 a (.head _)
       have hcl:c∈l:=hsub c (by rw[h'];simp)
       have tn:0<cr a b c:=C.turn (pre++pre') c b a r' (by rw[e2,h'];simp)
       exact u5 hab hbc (hp c hcl) tn hc
     exact aaG (conv pre' b a r' h)
  ·rcases pre' with _|⟨x,pre'⟩
   ·simp only[List.nil_append,List.cons.injEq]at h
    obtain⟨rfl,rfl,h⟩:=h
    exact h4 a r' h
   ·simp only[List.cons_append,List.cons.injEq]at h
    obtain⟨rfl,h⟩:=h
    exact C.turn (pre++pre') c b a r' (by rw[e2,h];simp)
  ·cases h
   rcases List.mem_append.mp hq with hq|hq
   ·exact .inr (hp q hq)
   ·simp at hq;exact .inl hq
  ·rcases pre' with _|⟨x,pre'⟩
   ·simp at h
   ·simp only[List.cons_append,List.cons.injEq]at h
    obtain⟨rfl,h⟩:=h
    have hb:st=(pre++pre')++[t']:=by rw[e2,h];simp
    have ht':t'∈l:=C.sub t' (by rw[hb];simp)
    rcases List.mem_append.mp hq with hq|hq
    ·exact C.bot _ t' hb q hq
    ·simp at hq;subst hq;exact .inr (hp t' ht')
theorem yr:∀(l:List Pt),l.Pairwise lx→CI (bK l) l∧(l=[]↔bK l=[]):=by
 intro l
 induction l using rC with
 |nil=>exact fun _=>⟨CI.nil,by simp[bK]⟩
 |snoc l p ih=>
  intro h
  obtain⟨h1,_,h3⟩:=List.pairwise_append.mp h
  obtain⟨C,hne⟩:=ih h1
  rw[ig]
  exact⟨C.snoc (fun q hq=>h3 q hq p (by simp)) hne,by simp⟩
end HM
namespace HM
def neg(p:Pt):Pt:=(-p.1,-p.2)
theorem neg_neg(p:Pt):neg (neg p)=p:=by unfold neg;simp
theorem sD(a b c:Pt):cr (neg a) (neg b) (neg c)=cr a b c:=by unfold cr neg;grind
theorem GQ{a b:Pt}:lx (neg a) (neg b)↔lx b a:=by unfold lx neg;constructor<;>intro h<;>(simp only at h ⊢;omega)
theorem tu(p:Pt):∀st:List Pt,bp (neg p) (st.map neg)=(bp p st).map neg
 |[]=>rfl
 |[_]=>rfl
 |b::a::r=>by
  show bp (neg p) (neg b::neg a::r.map neg)=_
  unfold bp
  rw[sD]
  split
  ·rfl
  ·exact tu p (a::r)
theorem vy(l:List Pt):bK (l.map neg)=(bK l).map neg:=by
 induction l using rC with
 |nil=>rfl
 |snoc l p ih=>rw[List.map_append,List.map_singleton,ig,ig,ih,tu,aau]
structure Chn (lt:Pt→Pt→Prop) (L l:List Pt):Prop where
 sub:∀p∈L,p∈l
 up:L.Pairwise lt
 edge:∀(k:Nat)(a b:Pt),L[k]? = some a→L[k+1]? = some b→∀q∈l,0≤cr a b q
 turn:∀(k:Nat)(a b c:Pt),L[k]? = some a→L[k+1]? = some b→L[k+2]? = some c→0<cr a b c
 fst:∀f,L[0]? = some f→∀q∈l,q=f∨lt f q
 lst:∀m,L[L.length-1]? = some m→∀q∈l,q=m∨lt q m
 ne:l≠[]→L≠[]
theorem BA{L:List Pt}{k:Nat}{a b:Pt}(h1:L[k]? = some a)(h2:L[k+1]? = some b):∃pre r,L.reverse=pre++b::a::r:=by
 have e:L=L.take k++a::b::L.drop (k+2):=by
  obtain⟨hk,rfl⟩:=List.getElem?_eq_some_iff.mp h1
  obtain⟨hk2,rfl⟩:=List.getElem?_eq_some_iff.mp h2
  rw[←aar,←aar,abf]
 refine⟨(L.drop (k+2)).reverse,(L.take k).reverse,?_⟩
 conv=>lhs;rw[e]
 simp
theorem Bz{L:List Pt}{k:Nat}{a b c:Pt}(h1:L[k]? = some a)(h2:L[k+1]? = some b)(h3:L[k+2]? = some c):∃pre r,L.reverse=pre++c::b::a::r:=by
 have e:L=L.take k++a::b::c::L.drop (k+3):=by
  obtain⟨hk,rfl⟩:=List.getElem?_eq_some_iff.mp h1
  obtain⟨hk2,rfl⟩:=List.getElem?_eq_some_iff.mp h2
  obtain⟨hk3,rfl⟩:=List.getElem?_eq_some_iff.mp h3
  rw[←aar,←aar,←aar,abf]
 refine⟨(L.drop (k+3)).reverse,(L.take k).reverse,?_⟩
 conv=>lhs;rw[e]
 simp
theorem qP{l:List Pt}(h:l.Pairwise lx):Chn lx (bK l).reverse l:=by
 obtain⟨C,hne⟩:=yr l h
 refine⟨fun p hp=>C.sub p (List.mem_reverse.mp hp),List.pairwise_reverse.mpr C.up,fun k a b h1 h2 q hq=>?_,fun k a b c h1 h2 h3=>?_,fun f hf q hq=>?_,fun m hm q hq=>?_,fun z w=>z (hne.mpr (by simpa using w))⟩
 ·obtain⟨pre,r,e⟩:=BA h1 h2
  rw[abl]at e
  exact C.edge pre b a r e q hq
 ·obtain⟨pre,r,e⟩:=Bz h1 h2 h3
  rw[abl]at e
  exact C.turn pre c b a r e
 ·cases hr:(bK l).reverse with
  |nil=>rw[hr]at hf;simp at hf
  |cons x r=>
   rw[hr]at hf
   have:x=f:=by simpa using hf
   subst this
   exact C.bot r.reverse x (by rw[←abl (bK l),hr];simp) q hq
 ·cases hc:bK l with
  |nil=>rw[hc]at hm;simp at hm
  |cons t r=>
   rw[hc]at hm
   have:t=m:=by simpa using hm
   subst this
   exact C.top t r hc q hq
theorem yJ{l:List Pt}(h:l.Pairwise lx):Chn (fun a b=>lx b a) (bK l.reverse).reverse l:=by
 have hp:(l.reverse.map neg).Pairwise lx:=List.pairwise_map.mpr ((List.pairwise_reverse.mpr h).imp fun g=>GQ.mpr g)
 have B:=qP hp
 rw[vy,←List.map_reverse]at B
 have get:∀{k:Nat}{a:Pt},(bK l.reverse).reverse[k]? = some a→((bK l.reverse).reverse.map neg)[k]? = some (neg a):=fun {k a} e=>by rw[aae,e];rfl
 have mem:∀{q:Pt},q∈l→neg q∈l.reverse.map neg:=fun {q} hq=>List.mem_map.mpr ⟨q,List.mem_reverse.mpr hq,rfl⟩
 have inj:∀{a b:Pt},neg a=neg b→a=b:=fun {a b} e=>by rw[←neg_neg a,e,neg_neg]
 refine⟨fun p hp=>?_,(List.pairwise_map.mp B.up).imp fun g=>GQ.mp g,fun k a b h1 h2 q hq=>?_,fun k a b c h1 h2 h3=>?_,fun f hf q hq=>?_,fun m hm q hq=>?_,fun z w=>B.ne (by simpa using z) (by rw[w];rfl)⟩
 ·obtain⟨x,hx,e⟩:=List.mem_map.mp (B.sub (neg p) (List.mem_map.mpr ⟨p,hp,rfl⟩))
  rw[←inj e];exact List.mem_reverse.mp hx
 ·rw[←sD];exact B.edge k _ _ (get h1) (get h2) _ (mem hq)
 ·rw[←sD];exact B.turn k _ _ _ (get h1) (get h2) (get h3)
 ·rcases B.fst (neg f) (get hf) (neg q) (mem hq) with e|e
  ·exact .inl (inj e)
  ·exact .inr (GQ.mp e)
 ·rcases B.lst (neg m) (by rw[aad];exact get hm) (neg q) (mem hq) with e|e
  ·exact .inl (inj e)
  ·exact .inr (GQ.mp e)
def Col(l:List Pt):Prop:=∀x∈l,∀y∈l,∀z∈l,cr x y z=0
theorem par{a1 a2 y1 y2 z1 z2:Int}(ha:a1≠0∨a2≠0)(h1:a1*y2-a2*y1=0)(h2:a1*z2-a2*z1=0):y1*z2-y2*z1=0:=by
 rcases ha with h|h
 ·have:a1*(y1*z2-y2*z1)=0:=by
   have e:a1*(y1*z2-y2*z1)=y1*(a1*z2-a2*z1)-z1*(a1*y2-a2*y1):=by grind
   rw[e,h1,h2];simp
  exact(Int.mul_eq_zero.mp this).resolve_left h
 ·have:a2*(y1*z2-y2*z1)=0:=by
   have e:a2*(y1*z2-y2*z1)=y2*(a1*z2-a2*z1)-z2*(a1*y2-a2*y1):=by grind
   rw[e,h1,h2];simp
  exact(Int.mul_eq_zero.mp this).resolve_left h
theorem kl{l:List Pt}{a b:Pt}(hab:a≠b)(h:∀q∈l,cr a b q=0):Col l:=by
 intro x hx y hy z hz
 have ha:b.1-a.1≠0∨b.2-a.2≠0:=by
  by_cases e1:b.1-a.1=0
  ·by_cases e2:b.2-a.2=0
   ·exact absurd (Prod.ext (by omega) (by omega)) hab
   ·exact .inr e2
  ·exact .inl e1
 have g1:=par ha (h x hx) (h y hy)
 have g2:=par ha (h y hy) (h z hz)
 have g3:=par ha (h x hx) (h z hz)
 have e:cr x y z=((y.1-a.1)*(z.2-a.2)-(y.2-a.2)*(z.1-a.1))-((x.1-a.1)*(z.2-a.2)-(x.2-a.2)*(z.1-a.1))+((x.1-a.1)*(y.2-a.2)-(x.2-a.2)*(y.1-a.1)):=by unfold cr;grind
 rw[e,g1,g2,g3];rfl
theorem A5{l:List Pt}{a m c:Pt}(h:(lx a m∧lx c m)∨(lx m a∧lx m c))(e1:∀q∈l,0≤cr a m q)(e2:∀q∈l,0≤cr m c q)(hc:c∈l)(hz:¬0<cr a m c):Col l:=by
 have h0:cr a m c=0:=by have:=e1 c hc;omega
 have ham:a≠m:=by rintro rfl;rcases h with ⟨h,_⟩|⟨h,_⟩<;>exact gq h
 refine kl ham fun q hq=>?_
 have g1:=e1 q hq
 have g2:=e2 q hq
 have k1:cr a m q*(m.1-c.1) = - cr m c q*(m.1-a.1)+cr a m c*(m.1-q.1):=by unfold cr;grind
 have k2:cr a m q*(m.2-c.2) = - cr m c q*(m.2-a.2)+cr a m c*(m.2-q.2):=by unfold cr;grind
 have k0:(m.1-a.1)*(m.2-c.2)-(m.2-a.2)*(m.1-c.1) = - cr a m c:=by unfold cr;grind
 rw[h0]at k0 k1 k2
 have zero:∀{u v s t:Int},0≤u→0≤v→0<s→0<t→u*s = - v*t+0*0→u=0:=fun {u v s t} hu hv hs ht e=>by
  have h1:0≤u*s:=aaq hu (aaG hs)
  have h2:0≤v*t:=aaq hv (aaG ht)
  have h3:-v*t = -(v*t):=by grind
  have:u*s=0:=by omega
  exact(Int.mul_eq_zero.mp this).resolve_right (by omega)
 rcases h with ⟨ha,hcm⟩|⟨ha,hcm⟩
 ·have ra:=fP ha
  have rc:=fP hcm
  rcases ra with p1|⟨z1,p1⟩
  ·have p2:0<m.1-c.1:=by
    rcases rc with p|⟨z,p⟩
    ·exact p
    ·rw[z]at k0;have:=aaK p1 p;omega
   exact zero g1 g2 p2 p1 (by rw[k1];simp)
  ·have p2:0<m.2-c.2:=by
    rcases rc with p|⟨z,p⟩
    ·rw[z1]at k0;have:=aaK p1 p;omega
    ·exact p
   exact zero g1 g2 p2 p1 (by rw[k2];simp)
 ·have ra:=fP ha
  have rc:=fP hcm
  rcases ra with p1|⟨z1,p1⟩
  ·have p2:0<c.1-m.1:=by
    rcases rc with p|⟨z,p⟩
    ·exact p
    ·have:=aaK p1 p
     have e:(m.1-a.1)*(m.2-c.2)=(a.1-m.1)*(c.2-m.2):=by grind
     have e2:(m.2-a.2)*(m.1-c.1)=(m.2-a.2)*0:=by congr 1;omega
     rw[e,e2]at k0;omega
   have k1':cr a m q*(c.1-m.1) = - cr m c q*(a.1-m.1):=by grind
   exact zero g1 g2 p2 p1 (by rw[k1'];simp)
  ·have p2:0<c.2-m.2:=by
    rcases rc with p|⟨z,p⟩
    ·have:=aaK p1 p
     have e:(m.2-a.2)*(m.1-c.1)=(a.2-m.2)*(c.1-m.1):=by grind
     have e2:(m.1-a.1)*(m.2-c.2)=0*(m.2-c.2):=by congr 1;omega
     rw[e,e2]at k0;omega
    ·exact p
   have k2':cr a m q*(c.2-m.2) = - cr m c q*(a.2-m.2):=by grind
   exact zero g1 g2 p2 p1 (by rw[k2'];simp)
end HM
namespace HM
def jz(l:List Pt):List Pt:=(bK l).reverse.dropLast++(bK l.reverse).reverse.dropLast
structure Poly (cs l:List Pt):Prop where
 three:3≤cs.length
 sub:∀p∈cs,p∈l
 edge:∀(k:Nat)(a b:Pt),cs[k % cs.length]? = some a→cs[(k+1) % cs.length]? = some b→∀q∈l,0≤cr a b q
 turn:∀(k:Nat)(a b c:Pt),cs[k % cs.length]? = some a→cs[(k+1) % cs.length]? = some b→cs[(k+2) % cs.length]? = some c→0<cr a b c
 fst:∀f,cs[0]? = some f→∀q∈l,q=f∨lx f q
 uniq:∀k:Nat,0<k→k<cs.length→cs[k]?≠cs[0]?
section
variable {B A l:List Pt}
theorem xG(hB:B≠[])(hA:A≠[])(ends:B[0]? = A[A.length-1]?∧A[0]? = B[B.length-1]?)(hd:1≤B.length-1)(hu:1≤A.length-1):
  (∀k,k≤B.length-1→(B.dropLast++A.dropLast)[k % (B.dropLast++A.dropLast).length]? = B[k]?) ∧
  (∀j,j≤A.length-1→(B.dropLast++A.dropLast)[(B.length-1+j) % (B.dropLast++A.dropLast).length]? = A[j]?):=by
 have hn:(B.dropLast++A.dropLast).length=(B.length-1)+(A.length-1):=by simp
 rw[hn]
 have g1:∀k,k<B.length-1→(B.dropLast++A.dropLast)[k]? = B[k]?:=fun k hk=>by
  rw[aax (by simpa using hk),List.getElem?_dropLast,if_pos hk]
 have g2:∀j,j<A.length-1→(B.dropLast++A.dropLast)[B.length-1+j]? = A[j]?:=fun j hj=>by
  rw[aaB (by simp),abm,Nat.add_sub_cancel_left,List.getElem?_dropLast,if_pos hj]
 constructor
 ·intro k hk
  by_cases h:k<B.length-1
  ·rw[aaC (by omega)];exact g1 k h
  ·have:k=B.length-1:=by omega
   subst this
   rw[aaC (by omega)]
   have:=g2 0 (by omega)
   rw[Nat.add_zero]at this
   rw[this];exact ends.2
 ·intro j hj
  by_cases h:j<A.length-1
  ·rw[aaC (by omega)];exact g2 j h
  ·have:j=A.length-1:=by omega
   subst this
   rw[Nat.mod_self,g1 0 (by omega)];exact ends.1
end
theorem get_mem{α:Type}{L:List α}{k:Nat}{a:α}(h:L[k]? = some a):a∈L:=aaf h
theorem jR{α:Type}{R:α→α→Prop}{L:List α}(h:L.Pairwise R){i j:Nat}{a b:α}(hij:i<j)(ha:L[i]? = some a)(hb:L[j]? = some b):R a b:=by
 obtain⟨hi,rfl⟩:=List.getElem?_eq_some_iff.mp ha
 obtain⟨hj,rfl⟩:=List.getElem?_eq_some_iff.mp hb
 exact List.pairwise_iff_getElem.mp h i j hi hj hij
theorem jY{l:List Pt}(h:l.Pairwise lx)(hc:¬Col l):Poly (jz l) l:=by
 have CB:=qP h
 have CA:=yJ h
 unfold jz
 generalize (bK l).reverse=B at CB ⊢
 generalize (bK l.reverse).reverse=A at CA ⊢
 have hl:l≠[]:=by rintro rfl;exact hc fun x hx=>by simp at hx
 have hB:=CB.ne hl
 have hA:=CA.ne hl
 have lB:0<B.length:=List.length_pos_iff.mpr hB
 have lA:0<A.length:=List.length_pos_iff.mpr hA
 obtain⟨f,hf⟩:∃f,B[0]? = some f:=⟨_,dO lB⟩
 obtain⟨m,hm⟩:∃m,B[B.length-1]? = some m:=⟨_,dO (by omega)⟩
 obtain⟨m',hm'⟩:∃m,A[0]? = some m:=⟨_,dO lA⟩
 obtain⟨f',hf'⟩:∃m,A[A.length-1]? = some m:=⟨_,dO (by omega)⟩
 have ef:f=f':=by
  have h1:=CB.fst f hf f' (CA.sub _ (get_mem hf'))
  have h2:=CA.lst f' hf' f (CB.sub _ (get_mem hf))
  rcases h1 with e|e
  ·exact e.symm
  ·rcases h2 with e2|e2
   ·exact e2
   ·exact(fm e e2).elim
 have em:m=m':=by
  have h1:=CB.lst m hm m' (CA.sub _ (get_mem hm'))
  have h2:=CA.fst m' hm' m (CB.sub _ (get_mem hm))
  rcases h1 with e|e
  ·exact e.symm
  ·rcases h2 with e2|e2
   ·exact e2
   ·exact(fm e e2).elim
 subst ef;subst em
 have hfm:f≠m:=by
  rintro rfl
  refine hc fun x hx y hy z hz=>?_
  have same:∀q∈l,q=f:=fun q hq=>by
   rcases CB.fst f hf q hq with e|e
   ·exact e
   ·rcases CB.lst f hm q hq with e2|e2
    ·exact e2
    ·exact(fm e e2).elim
  rw[same x hx,same y hy,same z hz];exact qJ _ _
 have hd:1≤B.length-1:=by
  rcases aaj (B.length-1) 1 with q|q
  ·rw[show B.length-1=0 by omega,hf]at hm;exact absurd (Option.some.inj hm) hfm
  ·exact q
 have hu:1≤A.length-1:=by
  rcases aaj (A.length-1) 1 with q|q
  ·rw[show A.length-1=0 by omega,hm']at hf';exact absurd (Option.some.inj hf').symm hfm
  ·exact q
 obtain⟨gB,gA⟩:=xG hB hA ⟨by rw[hf,hf'],by rw[hm,hm']⟩ hd hu
 have hn:(B.dropLast++A.dropLast).length=(B.length-1)+(A.length-1):=by simp
 have three:3≤(B.dropLast++A.dropLast).length:=by
  rcases aaj (B.dropLast++A.dropLast).length 3 with q|q
  ·exfalso
   refine hc (kl hfm fun q hq=>?_)
   have h1:=CB.edge 0 f m hf (by rw[show 0+1=B.length-1 by omega];exact hm) q hq
   have h2:=CA.edge 0 m f hm' (by rw[show 0+1=A.length-1 by omega];exact hf') q hq
   rw[AF]at h2;omega
  ·exact q
 have red:∀(k t:Nat),(k+t) % (B.dropLast++A.dropLast).length=(k % (B.dropLast++A.dropLast).length+t) % (B.dropLast++A.dropLast).length:=fun k t=>by rw[Nat.mod_add_mod]
 refine⟨three,fun p hp=>?_,fun k a b h1 h2 q hq=>?_,fun k a b c h1 h2 h3=>?_,fun f0 hf0 q hq=>?_,fun k hk hkn he=>?_⟩
 ·rcases List.mem_append.mp hp with hp|hp
  ·exact CB.sub p ((List.dropLast_subset _ hp))
  ·exact CA.sub p ((List.dropLast_subset _ hp))
 ·rw[red k 1]at h2
  have hk:k % (B.dropLast++A.dropLast).length<(B.length-1)+(A.length-1):=by rw[←hn];exact abr _ (by omega)
  generalize k % (B.dropLast++A.dropLast).length=k' at h1 h2 hk
  by_cases c1:k'<B.length-1
  ·have e1:=gB k' (by omega);have e2:=gB (k'+1) (by omega)
   rw[aaC (by rw[hn];exact hk)]at e1
   rw[e1]at h1;rw[e2]at h2
   exact CB.edge k' a b h1 h2 q hq
  ·obtain⟨j,rfl⟩:∃j,k'=B.length-1+j:=⟨k'-(B.length-1),by omega⟩
   have e1:=gA j (by omega);have e2:=gA (j+1) (by omega)
   rw[aaC (by rw[hn];exact hk)]at e1
   rw[e1]at h1;rw[show B.length-1+j+1=B.length-1+(j+1) by omega,e2]at h2
   exact CA.edge j a b h1 h2 q hq
 ·rw[red k 1]at h2;rw[red k 2]at h3
  have hk:k % (B.dropLast++A.dropLast).length<(B.length-1)+(A.length-1):=by rw[←hn];exact abr _ (by omega)
  generalize k % (B.dropLast++A.dropLast).length=k' at h1 h2 h3 hk
  by_cases c1:k'<B.length-1
  ·have e1:=gB k' (by omega);have e2:=gB (k'+1) (by omega)
   rw[aaC (by rw[hn];exact hk)]at e1
   rw[e1]at h1;rw[e2]at h2
   by_cases c2:k'+2≤B.length-1
   ·rw[gB (k'+2) c2]at h3
    exact CB.turn k' a b c h1 h2 h3
   ·have hk2:k'+1=B.length-1:=by omega
    have e3:=gA 1 hu
    rw[show k'+2=B.length-1+1 by omega,e3]at h3
    rw[hk2,hm]at h2
    have hb:m=b:=Option.some.inj h2
    subst hb
    rcases aaX 0 (cr a m c) with g|g
    ·exact g
    ·exfalso
     refine hc (A5 (a:=a) (m:=m) (c:=c) (.inl ⟨jR CB.up (by omega) h1 hm,jR CA.up (by omega) hm' h3⟩) (CB.edge k' a m h1 (by rw[hk2];exact hm)) (CA.edge 0 m c hm' h3) (CA.sub _ (get_mem h3)) (Int.not_lt.mpr g))
  ·obtain⟨j,rfl⟩:∃j,k'=B.length-1+j:=⟨k'-(B.length-1),by omega⟩
   have e1:=gA j (by omega);have e2:=gA (j+1) (by omega)
   rw[aaC (by rw[hn];exact hk)]at e1
   rw[e1]at h1;rw[show B.length-1+j+1=B.length-1+(j+1) by omega,e2]at h2
   by_cases c2:j+2≤A.length-1
   ·rw[show B.length-1+j+2=B.length-1+(j+2) by omega,gA (j+2) c2]at h3
    exact CA.turn j a b c h1 h2 h3
   ·have hj2:j+1=A.length-1:=by omega
    rw[show B.length-1+j+2=(B.dropLast++A.dropLast).length+1 by rw[hn];omega,Nat.add_mod_left,gB 1 hd]at h3
    rw[hj2,hf']at h2
    have hb:f=b:=Option.some.inj h2
    subst hb
    rcases aaX 0 (cr a f c) with g|g
    ·exact g
    ·exfalso
     refine hc (A5 (a:=a) (m:=f) (c:=c) (.inr ⟨jR CA.up (by omega) h1 hf',jR CB.up (by omega) hf h3⟩) (CA.edge j a f h1 (by rw[hj2];exact hf')) (CB.edge 0 f c hf h3) (CB.sub _ (get_mem h3)) (Int.not_lt.mpr g))
 ·have:=gB 0 (by omega)
  rw[Nat.zero_mod,hf]at this
  rw[this]at hf0
  have e:f=f0:=Option.some.inj hf0
  subst e
  exact CB.fst f hf q hq
 ·have g0:=gB 0 (by omega)
  rw[Nat.zero_mod,hf]at g0
  rw[g0]at he
  by_cases c1:k≤B.length-1
  ·have e1:=gB k c1
   rw[aaC hkn,he]at e1
   exact gq (jR CB.up hk hf e1.symm)
  ·obtain⟨j,rfl⟩:∃j,k=B.length-1+j:=⟨k-(B.length-1),by omega⟩
   have e1:=gA j (by omega)
   rw[aaC hkn,he]at e1
   exact gq (jR CA.up (by omega) e1.symm hf')
end HM
namespace GS
open PySem PySem.W PyProof.Rows HM
section
variable {prog:Program}{w:World}{A:Around}{E:Value→Shared→Prop}{s:Shared}
def fx(prog:Program)(w:World)(h:Heap)(vs:List Value)(ps:List Pt):Prop:=
 vs.length=ps.length∧∀(i:Nat)(v:Value)(p:Pt),vs[i]? = some v→ps[i]? = some p→∃b,v=.ref b∧TK prog w h [p.1,p.2] b
theorem pair_items {h:Heap} {x y:Int} {b:Addr} (k:TK prog w h [x,y] b):∃o n t u,h.get? b=some o∧o.cls=.type "tuple"∧o.data=.seq #[.int x t,.int y u] n:=by
 obtain⟨o,items,n,ho,hc,hd,hi⟩:=k
 obtain⟨l⟩:=items
 have one:∀{z:Int}{v:Value},(intKind prog w).is z v=true→∃t,v=.int z t:=fun {z v} hz=>by
  cases v<;>simp[intKind,Value.isInt]at hz
  exact⟨_,by rw[hz]⟩
 cases hi with
 |cons h1 r1=>
  cases r1 with
  |cons h2 r2=>
   cases r2
   obtain⟨t,rfl⟩:=one h1
   obtain⟨u,rfl⟩:=one h2
   exact⟨o,n,t,u,ho,hc,hd⟩
theorem zM{p q:Pt}{a b:Addr}{Q:Bool→Shared→Prop}(hp:TK prog w s.heap [p.1,p.2] a)(hq:TK prog w s.heap [q.1,q.2] b)(h:Q (decide (lx p q)) s):
  wpAny (model prog w) A (keyLt' (tuples' true) (.ref a) (.ref b)) Q E s:=by
 obtain⟨o1,n1,t1,u1,g1,_,d1⟩:=pair_items hp
 obtain⟨o2,n2,t2,u2,g2,_,d2⟩:=pair_items hq
 refine kat_lt g1 d1 g2 d2 (kat_cons (wpAny_eqBool_int (kat_go (fun e1=>kat_yes (kat_cons (wpAny_eqBool_int (kat_go (fun e2=>kat_yes (kat_nil ?_)) fun e2=>kat_no (kat_one _ _ ?_))))) fun e1=>kat_no ?_)))
 ·have z1:p.1=q.1:=by simpa using e1
  have z2:p.2=q.2:=by simpa using e2
  have:decide (lx p q)=false:=decide_eq_false (by unfold lx;omega)
  rw[this]at h
  simpa using h
 ·have z1:p.1=q.1:=by simpa using e1
  have:decide (lx p q)=decide (p.2<q.2):=decide_eq_decide.mpr (by unfold lx;omega)
  rw[this]at h
  exact lt_int h
 ·have z1:p.1≠q.1:=by simpa using e1
  have:decide (lx p q)=decide (p.1<q.1):=decide_eq_decide.mpr (by unfold lx;omega)
  rw[this]at h
  simp only[Bool.true_and,beq_self_eq_true]
  exact oneLt_int h
theorem fx.keep {h h':Heap} {vs:List Value} {ps:List Pt} {a:Addr} {o:Obj} (x:fx prog w h vs ps) (ho:h.get? a=some o) (hc:o.cls≠.type "tuple") (hk:∀b o,b≠a→h.get? b=some o→h'.get? b=some o):fx prog w h' vs ps:=
 ⟨x.1,fun i v p h1 h2=>by
  obtain⟨b,e,o',items,n,ho',hc',hd',hi⟩:=x.2 i v p h1 h2
  refine⟨b,e,o',items,n,hk b o' ?_ ho',hc',hd',hi⟩
  rintro rfl
  rw[ho']at ho
  cases ho
  exact hc hc'⟩
theorem qZ {a:Addr} {vs:List Value} {n:Nat} {P:PySem.Fin→Shared→Prop} {ps:List Pt} (ho:s.heap.get? a=some (seqObj "list" vs.toArray n)) (h64:vs.length<64) (hp:fx prog w s.heap vs ps) (hn:ps.Nodup)
  (h:∀(h':Heap) (vs':List Value) (ps':List Pt) (n':Nat),h'.get? a=some (seqObj "list" vs'.toArray n')→(∀b o,b≠a→s.heap.get? b=some o→h'.get? b=some o)→ps'.Perm ps→ps'.Pairwise lx→fx prog w h' vs' ps'→(∀v∈vs',v∈vs)→P (.done (.ret .none)) { s with heap:=h' }):
  wpAny (model prog w) A (Builtin.«list.sort» ⟨[.ref a],[]⟩) P E s:=by
 have hal:a<s.heap.objs.size:=iD ho
 have hcl:(seqObj "list" vs.toArray n).cls≠.type "tuple":=by show Value.type "list"≠_;decide
 rw[list_sort_plain]
 refine wpAny_bind (listItems_at ho rfl (wpAny_bind (listUpdate_at ho rfl ?_ (by rw[oF,sizeLine_eq];omega) (aaH _))))
 obtain⟨e1,ho1⟩:∃e1,(s.heap.update a (Obj.mapSeq fun _=>(#[]:Array Value))).get? a=some (seqObj "list" #[] e1):=⟨_,get?_update_seq ho fun _=>#[]⟩
 refine wpAny_bind (seqEpoch_at ho1 rfl (wpAny_bind (wpAny_newTuple (wpAny_bind (wpAny_newList (wpAny_holding ?_) (aaH _))) (by show vs.length≤_;rw[sizeLine_eq];omega))))
 generalize hH:(((s.heap.update a (Obj.mapSeq fun _=>(#[]:Array Value))).push (seqObj "tuple" vs.toArray 0)).push (seqObj "list" #[] 0))=h3
 have k3:∀b o,b≠a→s.heap.get? b=some o→h3.get? b=some o:=fun b o hb e=>by
  rw[←hH]
  exact bY _ (bY _ (((Heap.SameBut.update s.heap a _).2 b hb).trans e))
 have o3:h3.get? a=some (seqObj "list" #[] e1):=by rw[←hH];exact bY _ (bY _ ho1)
 change wpAny (model prog w) A _ P E { s with heap:=h3 }
 have hp3:=hp.keep ho hcl k3
 dsimp only
 have last:∀(st:SortSt)(vs':List Value)(ps':List Pt),(arrOf st).map (·.2)=vs'.toArray→failedOf st=none→vs'.length<64→ps'.Perm ps→ps'.Pairwise lx→fx prog w h3 vs' ps'→(∀v∈vs',v∈vs) →
   wpAny (model prog w) A (do
    let touched:=(←seqEpoch a) != e1
    Builtin.List.listUpdate (.ref a) fun _=>(arrOf st).map (·.2)
    if let some e:=failedOf st then rule "list.sort.comparison-raised";throw e
    if touched then rule "list.sort.modified";raiseError "ValueError" "list modified during sort"
    ret .none) P E { s with heap:=h3 }:=by
  intro st vs' ps' ha hf hl q1 q2 q3 q4
  refine wpAny_bind (seqEpoch_at o3 rfl (wpAny_bind (listUpdate_at o3 rfl ?_ (aaH _) (by show((arrOf st).map (·.2)).size≤_;rw[ha,oF,sizeLine_eq];omega))))
  rw[hf]
  simp only[bne_self_eq_false,iN,if_false]
  refine wpAny_pure ?_
  obtain⟨c2,hc2⟩:∃c2,(h3.update a (Obj.mapSeq fun _=>(arrOf st).map (·.2))).get? a=some (seqObj "list" ((arrOf st).map (·.2)) c2):=⟨_,get?_update_seq o3 fun _=>(arrOf st).map (·.2)⟩
  rw[ha]at hc2 ⊢
  have k4:∀b o,b≠a→h3.get? b=some o→(h3.update a (Obj.mapSeq fun _=>vs'.toArray)).get? b=some o:=fun b o hb e=>((Heap.SameBut.update h3 a _).2 b hb).trans e
  exact h _ vs' ps' c2 hc2 (fun b o hb e=>k4 b o hb (k3 b o hb e)) q1 q2 (q3.keep o3 (by show Value.type "list"≠_;decide) k4) q4
 by_cases h2:vs.toArray.size<2
 ·rw[if_pos h2,if_pos h2]
  refine wpAny_bind (wpAny_pure ?_)
  rw[StateT.run_pure]
  refine wpAny_bind (wpAny_pure ?_)
  refine last (SortSt.mk' general' (vs.toArray.zip vs.toArray) #[] 7 none) vs ps ?_ rfl h64 (List.Perm.refl _) ?_ hp3 (fun v hv=>hv)
  ·show(vs.toArray.zip vs.toArray).map (·.2)=_
   apply Array.toList_inj.mp
   simp[List.map_snd_zip]
  ·have hl:ps.length<2:=by rw[←hp.1];simpa using h2
   match ps,hl with
   |[],_=>exact .nil
   |[_],_=>exact abw _ _
 ·rw[if_neg h2,if_neg h2]
  have hvn:2≤vs.length:=by have:vs.toArray.size=vs.length:=(by simp);omega
  have at_:∀i,i<vs.length→∃b,vs.getD i Value.none=.ref b∧TK prog w h3 [(ps.getD i (0,0)).1,(ps.getD i (0,0)).2] b:=fun i hi=>by
   have e1:vs[i]? = some (vs.getD i Value.none):=by simp[List.getD,dO hi]
   have e2:ps[i]? = some (ps.getD i (0,0)):=by simp[List.getD,dO (show i<ps.length by rw[←hp.1];exact hi)]
   exact hp3.2 i _ _ e1 e2
  obtain⟨fs,hfl,hfT,hfi⟩:∃fs:List Value,fs.length=vs.length∧KatTups h3 vs fs∧∀v∈fs,∃x t,v=Value.int x t:=by
   have key:∀(vs:List Value)(ps:List Pt),fx prog w h3 vs ps→∃fs:List Value,fs.length=vs.length∧KatTups h3 vs fs∧∀v∈fs,∃x t,v=Value.int x t:=by
    intro vs
    induction vs with
    |nil=>intro ps _;exact⟨[],rfl,KatTups.nil,fun v hv=>by simp at hv⟩
    |cons v vs ih=>
     intro ps hq
     match ps,hq with
     |[],hq=>exact absurd hq.1 (by simp)
     |p::ps,hq=>
      obtain⟨fs,l1,l2,l3⟩:=ih ps ⟨by simpa using hq.1,fun i v p a b=>hq.2 (i+1) v p (by simpa using a) (by simpa using b)⟩
      obtain⟨b,rfl,tk⟩:=hq.2 0 v p rfl rfl
      obtain⟨o,m,t,u,g1,g2,g3⟩:=pair_items tk
      exact⟨.int p.1 t::fs,by simp[l1],KatTups.cons g1 g2 g3 rfl l2,fun v hv=>by
       rcases List.mem_cons.mp hv with rfl|hv
       ·exact⟨_,_,rfl⟩
       ·exact l3 v hv⟩
   exact key vs ps hp3
  refine wpAny_bind (kat_kind (s:={ s with heap:=h3 }) (T:=.type "int") hfT (by omega) (fun v hv=>?_) (by decide) ?_)
  ·obtain⟨x,t,rfl⟩:=hfi v hv
   exact Looks.of_pure rfl
  have O:SOrd (fun i j=>decide (lx (ps.getD i (0,0)) (ps.getD j (0,0)))) vs.length:=by
   refine⟨fun i _=>decide_eq_false (fun z=>gq z),fun i j k _ _ _ z1 z2=>?_,fun i j hi hj hij z=>?_,fun i j _ _ z=>?_⟩
   ·have z1':=of_decide_eq_false z1
    have z2':=of_decide_eq_false z2
    refine decide_eq_false fun z=>?_
    unfold lx at *
    omega
   ·have z':=of_decide_eq_false z
    rcases rT (ps.getD i (0,0)) (ps.getD j (0,0)) with q|q|q
    ·exact absurd q z'
    ·exfalso
     have hi':i<ps.length:=by rw[←hp.1];exact hi
     have hj':j<ps.length:=by rw[←hp.1];exact hj
     have q':ps[i]=ps[j]:=by simpa[List.getD,dO hi',dO hj'] using q
     rcases aaj i j with g|g
     ·exact List.pairwise_iff_getElem.mp hn i j hi' hj' g q'
     ·exact List.pairwise_iff_getElem.mp hn j i hj' hi' (by omega) q'.symm
    ·exact decide_eq_true q
   ·have z':=of_decide_eq_true z
    exact decide_eq_false fun y=>fm z' y
  have eb:(Value.type "int" != Value.type "tuple")=true:=by decide
  rw[eb]
  refine wpAny_bind (wpAny_mono (kat_run (s:={ s with heap:=h3 }) (vs:=vs) (ks:=vs) (Q:=fun st' s'=>s' = { s with heap:=h3 }∧∃p:Array Nat,p.size=vs.length∧arrOf st'=p.map (kas_item (vs.toArray.zip vs.toArray))∧failedOf st'=none∧PIn vs.length p∧SS (fun i j=>decide (lx (ps.getD i (0,0)) (ps.getD j (0,0)))) p vs.length) (G:=fun p s'=>s' = { s with heap:=h3 }∧PIn vs.length p∧SS (fun i j=>decide (lx (ps.getD i (0,0)) (ps.getD j (0,0)))) p vs.length) rfl hvn h64 (fun p st' s' z1 z2 z3 z4=>⟨z4.1,p,z1,z2,z3,z4.2⟩)
   (xC (fun i j C hi hj hC=>?_) (fun p hpp=>⟨rfl,hpp.1,hpp.2⟩) _ (za O hvn))) ?_ fun _ _ e=>e)
  rotate_left
  ·rintro⟨⟨⟩,st'⟩ s' ⟨rfl,p,z1,z2,z3,PI,ss⟩
   dsimp only
   refine last st' (p.toList.map fun i=>vs.getD i Value.none) (p.toList.map fun i=>ps.getD i (0,0)) (kat_snds rfl z2) z3 (by rw[aad,aag,z1];exact h64) ?_ ?_ ?_ ?_
   ·refine(PI.perm.map _).trans (List.Perm.of_eq ?_)
    rw[hp.1]
    apply aaY
    intro i
    rw[aae]
    rcases aaj i ps.length with q|q
    ·rw[dO (by simpa using q),List.getElem_range,dO q]
     simp[List.getD,dO q]
    ·rw[aav (by simpa using q),aav q];rfl
   ·rw[List.pairwise_map,List.pairwise_iff_getElem]
    intro i j hi hj hij
    have:=ss i j hij (by rw[←z1];simpa using hj)
    have gi:gt p i=p.toList[i]:=by
     have:i<p.size:=by simpa using hi
     simp[gt,abK,this]
    have gj:gt p j=p.toList[j]:=by
     have:j<p.size:=by simpa using hj
     simp[gt,abK,this]
    rw[gi,gj]at this
    exact of_decide_eq_true this
   ·refine⟨by simp,fun i v q g1 g2=>?_⟩
    rw[aae]at g1 g2
    cases hpi:p.toList[i]? with
    |none=>rw[hpi]at g1;cases g1
    |some m=>
     rw[hpi]at g1 g2
     have hm:m<vs.length:=List.mem_range.mp (PI.perm.mem_iff.mp (aaf hpi))
     have e1:vs.getD m Value.none=v:=Option.some.inj g1
     have e2:ps.getD m (0,0)=q:=Option.some.inj g2
     subst e2;subst e1
     exact at_ m hm
   ·intro v hv
    obtain⟨m,hm,rfl⟩:=List.mem_map.mp hv
    have hm':m<vs.length:=List.mem_range.mp (PI.perm.mem_iff.mp hm)
    simp[List.getD,dO hm']
  ·unfold kas_ask
   obtain⟨b1,e1,t1⟩:=at_ i hi
   obtain⟨b2,e2,t2⟩:=at_ j hj
   rw[e1,e2]
   exact zM (s:={ s with heap:=h3 }) t1 t2 hC
end
end GS
namespace GS
open PySem PySem.W PySem.Calls PyProof.Rows HM
section
variable {prog:Program}{w:World}{A:Around}{E:Value→Shared→Prop}{s:Shared}{U:Value→Prop}
theorem xS {r:Addr} {Q:Bool→Shared→Prop} (hT:s.TypeIs (.ref r) "set") (h:Q false s):wpAny (model prog w) A (Builtin.List.listLengthHint (.ref r)) Q E s:=by
 unfold Builtin.List.listLengthHint
 refine wpAny_bind (wpAny_specialOf hT PySem.F.slot_set_len.lookup ?_)
 generalize hid:("set.__len__":String)=lenId
 wp_delta
 rw[show splitId lenId=some ("set","__len__") from by subst hid;decide +kernel]
 subst hid
 refine wpAny_bind (wpAny_isInstance (b:=true) (T:="set") hT (by rw[isSubtype_type];kernel_rfl) (wpAny_ite_split (fun z=>absurd z (by decide)) fun _=>wpAny_ite_split (fun _=>?_) fun z=>absurd (by decide +kernel) z))
 exact wpAny_bind (wpAny_typeOf hT (wpAny_pure h))
theorem y7 {a:Addr} {es:Array (Int×Value)} {ep:Nat} {t:SetTable} (T:TInv t (es.toList.map (·.1))) (hl:t.led = !w.params.followText "set-order") (hp:t.plain=true):
  KdlSrc prog w "set" a a es.size (fun i v=>∃e,(c6 w a es ep)[i]? = some e∧v=e.2) (fun h=>h.get? a=some (cN es ep t)) where
 type:=fun _ hm=>⟨_,hm,rfl⟩
 there:=fun _ hm=>⟨iD hm,iD hm⟩
 keep:=fun _ _ hm hk=>hk a (.inl rfl) _ hm
 notList:=by decide
 notTuple:=by decide
 hint:=fun _ _ _ _ hm hq=>xS ⟨_,hm,rfl⟩ hq
 iter:=fun A' s' hh hm=>⟨_,_,(fun _ _ hq=>xH hm T hp hq),uy hh _ a (aab (iD hm)) es ep t T hl hp,⟨⟨_,lE _ rfl,rfl,by unfold slotAt;split<;>rfl⟩,bY _ hm⟩⟩
theorem qM{a:Addr}{es:Array (Int×Value)}{ep:Nat}{t:SetTable}{M:List Pt}{Q:Value→Shared→Prop}(hh:A.handled=none)(ho:s.heap.get? a=some (cN es ep t))(S:SGI prog w U s.heap es t (M.map fun p=>[p.1,p.2]))(hM:M.length<64)
  (h:∀(h1 h':Heap) (tk n':Nat) (vs':List Value) (ps':List Pt),(∀b o,s.heap.get? b=some o→h1.get? b=some o)→h'.get? h1.objs.size=some (seqObj "list" vs'.toArray n')→(∀b o,h1.get? b=some o→h'.get? b=some o)→ps'.Pairwise lx→(∀p,p∈ps'↔p∈M)→fx prog w h' vs' ps'→(∀v∈vs',U v)→Q (.ref h1.objs.size) { s with heap:=h',toks:=tk }):
  wpAny (model prog w) A (call (.builtin "sorted") [.ref a]) Q E s:=by
 have hes:es.size<64:=by have:=S.size;rw[aad]at this;omega
 refine call_function_entry kind_sorted plain_sorted entry_sorted (args_sorted1 _) ?_
 unfold Builtin.«sorted»
 refine wpAny_bind (m:=checkCount "sorted" 1 1 _) (wpAny_pure (wpAny_bind (kdu_collect (A:=A.in1) (y7 (ep:=ep) S.tab S.led S.plain) hh ho (by rw[sizeLine_eq];omega) fun h1 tk acc hk hacc=>?_)))
 have hal:acc.toList.length=es.size:=by rw[aag];exact hacc.1
 refine wpAny_bind (wpAny_newList ?_ (by rw[hal,sizeLine_eq];omega))
 have hperm:=kY w a es ep
 have hacl:acc.toList=(c6 w a es ep).toList.map (·.2):=by
  apply aaY
  intro i
  rw[aae,oR,oR]
  cases hi:acc[i]? with
  |none=>
   have:acc.size≤i:=by
    rcases aaj i acc.size with q|q
    ·rw[aac q]at hi;cases hi
    ·exact q
   rw[aap (by rw[iZ,←hacc.1];exact this)];rfl
  |some v=>
   obtain⟨e,he,rfl⟩:=hacc.2 i v hi
   rw[he];rfl
 have tkkeep:∀{k b},TK prog w s.heap k b→TK prog w h1 k b:=fun {k b} ⟨o,items,n,g,r⟩=>⟨o,items,n,hk b o g,r⟩
 obtain⟨ps,hlen,hps⟩:∃ps:List Pt,ps.length=(c6 w a es ep).toList.length∧∀(i:Nat)(e:Int×Value)(p:Pt),(c6 w a es ep).toList[i]? = some e→ps[i]? = some p→p∈M∧Ent prog w s.heap e [p.1,p.2]:=by
  have key:∀(L:List (Int×Value)),(∀e∈L,e∈es.toList)→∃ps:List Pt,ps.length=L.length∧∀(i:Nat)(e:Int×Value)(p:Pt),L[i]? = some e→ps[i]? = some p→p∈M∧Ent prog w s.heap e [p.1,p.2]:=by
   intro L
   induction L with
   |nil=>intro _;exact⟨[],rfl,fun i e p z=>by simp at z⟩
   |cons e L ih=>
    intro hL
    obtain⟨ps,l1,l2⟩:=ih fun e' he'=>hL e' (.tail _ he')
    obtain⟨k,hkM,hek⟩:=S.sub e (hL e (.head _))
    obtain⟨p,hpM,rfl⟩:=List.mem_map.mp hkM
    refine⟨p::ps,by simp[l1],fun i e' p' z1 z2=>?_⟩
    cases i with
    |zero=>
     have e1:e=e':=by simpa using z1
     have e2:p=p':=by simpa using z2
     subst e1;subst e2;exact⟨hpM,hek⟩
    |succ i=>exact l2 i e' p' (by simpa using z1) (by simpa using z2)
  exact key _ fun e he=>hperm.mem_iff.mp he
 have hP:fx prog w (h1.push { cls:=.type "list",data:=.seq acc.toList.toArray }) acc.toList ps:=by
  refine⟨by rw[hacl,aad,hlen],fun i v p z1 z2=>?_⟩
  rw[hacl,aae]at z1
  cases hi:(c6 w a es ep).toList[i]? with
  |none=>rw[hi]at z1;cases z1
  |some e=>
   rw[hi]at z1
   have:e.2=v:=Option.some.inj z1
   subst this
   obtain⟨_,b,e1,tk1,_⟩:=hps i e p hi z2
   obtain⟨o,items,n,g,r⟩:=tkkeep tk1
   exact⟨b,e1,o,items,n,bY _ g,r⟩
 have hN:ps.Nodup:=by
  have hd:(c6 w a es ep).toList.Pairwise fun e e'=>∀k,Ent prog w s.heap e k→¬Ent prog w s.heap e' k:=(hperm.pairwise_iff (fun {e e'} q k' x1 x2=>q k' x2 x1)).mpr S.dist
  rw[List.nodup_iff_pairwise_ne,List.pairwise_iff_getElem]
  intro i j hi hj hij e
  have hi':i<(c6 w a es ep).toList.length:=by rw[←hlen];exact hi
  have hj':j<(c6 w a es ep).toList.length:=by rw[←hlen];exact hj
  have z1:=hps i _ _ (dO hi') (dO hi)
  have z2:=hps j _ _ (dO hj') (dO hj)
  rw[←e]at z2
  exact List.pairwise_iff_getElem.mp hd i j hi' hj' hij _ z1.2 z2.2
 have hmem:∀p,p∈ps↔p∈M:=fun p=>by
  constructor
  ·intro hp
   obtain⟨i,hi⟩:=List.mem_iff_getElem?.mp hp
   have hil:i<(c6 w a es ep).toList.length:=by rw[←hlen];exact(List.getElem?_eq_some_iff.mp hi).1
   exact(hps i _ p (dO hil) hi).1
  ·intro hp
   obtain⟨e,he,hek⟩:=S.all [p.1,p.2] (List.mem_map.mpr ⟨p,hp,rfl⟩)
   obtain⟨i,hi⟩:=List.mem_iff_getElem?.mp (hperm.mem_iff.mpr he)
   have hil:i<ps.length:=by rw[hlen];exact(List.getElem?_eq_some_iff.mp hi).1
   have z:=(hps i e _ hi (dO hil)).2
   have:=hek.inj z
   have e2:p=ps[i]:=by
    have q1:p.1=ps[i].1:=by injection this
    have q2:p.2=ps[i].2:=by injection this with _ q;injection q
    exact Prod.ext q1 q2
   rw[e2];exact abH hil
 have hoL:(h1.push { cls:=.type "list",data:=.seq acc.toList.toArray }).get? h1.objs.size=some (seqObj "list" acc.toList.toArray 0):=lE _ rfl
 refine wpAny_bind (wpAny_holding (wpAny_call_entry slot_list_sort ⟨_,hoL,rfl⟩ entry_list_sort (qZ (s:={ s with heap:=h1.push { cls:=.type "list",data:=.seq acc.toList.toArray },toks:=tk }) hoL (by rw[hal];exact hes) hP hN fun h' vs' ps' n' g k' p1 p2 p3 p4=>⟨_,rfl,?_⟩) (args_list_sort _)))
 refine wpAny_pure ⟨_,rfl,h h1 h' tk n' vs' ps' hk g (fun b o e=>k' b o (aab (iD e)) (bY _ e)) p2 (fun p=>(p1.mem_iff).trans (hmem p)) p3 fun v hv=>?_⟩
 have:=p4 v hv
 rw[hacl]at this
 obtain⟨e,he,rfl⟩:=List.mem_map.mp this
 exact S.good e (hperm.mem_iff.mp he)
end
end GS
namespace GS
open PySem PySem.W PySem.Calls PyProof.Rows
section
variable {prog:Program}{w:World}{A:Around}{E:Value→Shared→Prop}{s:Shared}{T:String}{I:Addr}{fp wr:List Addr}{n:Nat}{P:Nat→Value→Prop}{St:Nat→Heap→Prop}
structure ItS (prog:Program) (w:World) (T:String) (I:Addr) (fp wr:List Addr) (n:Nat) (P:Nat→Value→Prop) (St:Nat→Heap→Prop):Prop where
 walk:∀A:Around,A.handled=none→Walks prog w A I fp wr n P St
 ty:∀(i:Nat)(s:Shared),St i s.heap→s.TypeIs (.ref I) T
 nl:(Value.type T==Value.type "list")=false
 nt:(Value.type T==Value.type "tuple")=false
 hint:∀(A:Around)(E:Value→Shared→Prop)(s:Shared)(Q:Bool→Shared→Prop),St 0 s.heap→(∀b,Q b s)→wpAny (model prog w) A (Builtin.List.listLengthHint (.ref I)) Q E s
 mem:I∈fp
theorem vc {R:Result→Shared→Prop} (K:ItS prog w T I fp wr n P St) (hh:A.handled=none) (S:Addr) (hSf:S∉fp) (res:Value) (c₀:Nat) (st:St 0 s.heap) (hS:s.heap.get? S=some { cls:=.type "list",data:=.seq #[] c₀ })
  (hR:∀h' tk acc' c',(∀b o,b∉S::wr→s.heap.get? b=some o→h'.get? b=some o)→h'.get? S=some { cls:=.type "list",dict:=none,data:=.seq acc' c',slots:=#[] }→ItemsOf P acc' n→R (.ok (.ret res)) { s with heap:=h',toks:=tk }) (hn:n≤sizeLine):
  wpAny (model prog w) A.in1 (Builtin.List.listExtendWith (.ref S) (.ref I) res)
   (fun fin s'=>match fin with | .done f=>R (.ok f) s' | .again c'=>c'.quiet=true∧codeAny (model prog w) A c' R s') (fun e s'=>R (.error e) s') s:=by
 have W:=K.walk A.in1 hh
 have hSI:S≠I:=fun e=>hSf (by rw[e];exact K.mem)
 have key:∀(h:Heap) (c₁ tk:Nat),St 0 h→(∀b o,b≠S→s.heap.get? b=some o→h.get? b=some o)→h.get? S=some { cls:=.type "list",data:=.seq #[] c₁ } →
   codeAny (model prog w) A (.builtin "list.extend.loop" ⟨[.ref S,.ref I,res],[]⟩) R { s with heap:=h,toks:=tk }:=fun h c₁ tk hst hk hS₁=>by
  refine codeAny_extend_loopS W.toS hn S hSf res n 0 _ #[] c₁ rfl (aaH _) hst hS₁ (ItemsOf.nil _) fun s' acc' c' mv hS' hacc=>?_
  rw[Moved.eq_with mv]
  exact hR s'.heap s'.toks acc' c' (fun b o hb e=>mv.heap b o hb (hk b o (fun z=>hb (by rw[z];exact .head _)) e)) hS' hacc
 unfold Builtin.List.listExtendWith
 refine wpAny_bind (wpAny_typeOf (T:=T) (K.ty 0 s st) ?_)
 have z1:Builtin.List.listSameRef (.ref S) (.ref I)=false:=by simp[Builtin.List.listSameRef,hSI]
 simp only[z1,K.nl,K.nt,Bool.or_false,iN,if_false]
 refine wpAny_bind (W.self 0 _ _ _ st (wpAny_bind (wpAny_holding (K.hint _ _ _ _ st fun room=>?_))))
 refine wpAny_ite_split (fun _=>?_) (fun _=>wpAny_pure ⟨plainId_quiet PySem.F.plain_extend_loop _,key _ c₀ _ st (fun b o _ e=>e) hS⟩)
 refine wpAny_bind (wpAny_rule (wpAny_bind ?_))
 change wpAny _ _ (updateSeq S (·.push .none) >>= fun _=>updateSeq S (·.pop)) _ _ _
 refine wpAny_bind (wpAny_updateSeq hS rfl ?_)
 have hS2:=aaA (Obj.mapSeq (·.push Value.none)) hS rfl
 refine wpAny_updateSeq (hz:=by seq_fits) hS2 rfl ?_
 have hS3:=aaA (Obj.mapSeq (·.pop)) hS2 rfl
 have oth:∀b o,b≠S→s.heap.get? b=some o→((s.heap.update S (Obj.mapSeq (·.push Value.none))).update S (Obj.mapSeq (·.pop))).get? b=some o:=fun b o hb e=>
  (aaQ _ _ (Ne.symm hb)).trans ((aaQ _ _ (Ne.symm hb)).trans e)
 exact wpAny_pure ⟨plainId_quiet PySem.F.plain_extend_loop _,key _ _ _ (W.frame 0 _ _ st fun b hb o e=>oth b o (fun z=>hSf (z▸hb)) e) oth hS3⟩
theorem Ai{Q:Value→Shared→Prop}(K:ItS prog w T I fp wr n P St)(hh:A.handled=none)(st:St 0 s.heap)(hfp:∀b∈fp,b<s.heap.objs.size)(hn:n≤sizeLine)
  (hQ:∀h' tk acc' c',(∀b o,b∉wr→s.heap.get? b=some o→h'.get? b=some o)→h'.get? s.heap.objs.size=some { cls:=.type "list",dict:=none,data:=.seq acc' c',slots:=#[] }→ItemsOf P acc' n→Q (.ref s.heap.objs.size) { s with heap:=h',toks:=tk }):
  wpAny (model prog w) A (call (.type "list") [.ref I]) Q E s:=by
 refine callType_codes (Q₁:=fun obj s₁=>obj=.ref s.heap.objs.size∧s₁ = { s with heap:=s.heap.push { cls:=.type "list",data:=.seq #[] } }) PySem.F.called_list (PySem.F.typeCall_list_1 _) PySem.F.entry_list_init (code_list_new _ ⟨rfl,rfl⟩) fun obj s₁ h₁=>?_
 obtain⟨rfl,rfl⟩:=h₁
 have gS:(s.heap.push { cls:=.type "list",data:=.seq #[] }).get? s.heap.objs.size=some { cls:=.type "list",data:=.seq #[] }:=lE _ rfl
 have hSf:s.heap.objs.size∉fp:=fun z=>aaR _ (hfp _ z)
 have W:=K.walk A hh
 refine⟨⟨_,gS,rfl⟩,PySem.F.args_list_init_2 _ _,?_⟩
 change wpAny _ _ (do let old ←Builtin.List.listItems (.ref s.heap.objs.size);Builtin.List.listUpdate (.ref s.heap.objs.size) (fun _=>#[]);letGo old.toList.reverse;Builtin.List.listExtendWith (.ref s.heap.objs.size) (.ref I) .none) _ _ _
 refine wpAny_bind ?_
 unfold Builtin.List.listItems
 refine wpAny_bind (wpAny_seqItems gS rfl (wpAny_pure ?_))
 change wpAny _ _ (updateSeq s.heap.objs.size (fun _=>#[]) >>= fun _=>letGo (#[]:Array Value).toList.reverse >>= fun _=>Builtin.List.listExtendWith (.ref s.heap.objs.size) (.ref I) .none) _ _ _
 refine wpAny_bind (wpAny_updateSeq gS rfl (wpAny_bind (wpAny_letGo ?_)))
 have g2:=aaA (Obj.mapSeq (fun _=>(#[]:Array Value))) gS rfl
 have oth:∀b o,b≠s.heap.objs.size→(s.heap.push { cls:=.type "list",data:=.seq #[] }).get? b=some o→((s.heap.push { cls:=.type "list",data:=.seq #[] }).update s.heap.objs.size (Obj.mapSeq (fun _=>(#[]:Array Value)))).get? b=some o:=fun b o hb e=>(aaQ _ _ (Ne.symm hb)).trans e
 refine vc (A:=A.in1) K hh _ hSf .none _ (W.frame 0 _ _ st fun b hb o e=>oth b o (fun z=>hSf (z▸hb)) (bY _ e)) g2 (fun h' tk acc' c' hk hS' hacc=>?_) hn
 exact⟨rfl,hQ h' tk acc' c' (fun b o hb e=>hk b o (fun z=>by
  rcases List.mem_cons.mp z with z|z
  ·exact aaR _ (z▸iD e)
  ·exact hb z) (oth b o (aab (iD e)) (bY _ e))) hS' hacc⟩
namespace FR
theorem no_len:typeLookup (.type "list_reverseiterator") "__len__" = pure none:=by rw[typeLookup_type,builtinLookup_eq_fast];kernel_rfl
theorem has_hint:typeLookup (.type "list_reverseiterator") "__length_hint__" = pure (some (.builtin "list_reverseiterator.__length_hint__")):=by rw[typeLookup_type,builtinLookup_eq_fast];kernel_rfl
end FR
theorem wd {r:Addr} {Q:Bool→Shared→Prop} (hT:s.TypeIs (.ref r) "list_reverseiterator") (h:∀b,Q b s):wpAny (model prog w) A (Builtin.List.listLengthHint (.ref r)) Q E s:=by
 unfold Builtin.List.listLengthHint
 refine wpAny_bind (wpAny_specialOf hT FR.no_len ?_)
 change wpAny _ _ (specialOf (Value.ref r) (Str.ofString "__length_hint__") >>= _) _ _ _
 refine wpAny_bind (wpAny_specialOf hT FR.has_hint ?_)
 generalize hid:("list_reverseiterator.__length_hint__":String)=hintId
 wp_delta
 rw[show splitId hintId=some ("list_reverseiterator","__length_hint__") from by subst hid;decide +kernel]
 subst hid
 refine wpAny_bind (wpAny_isInstance (b:=true) (T:="list_reverseiterator") hT (by rw[isSubtype_type];kernel_rfl) (wpAny_ite_split (fun z=>absurd z (by decide)) fun _=>wpAny_ite_split (fun _=>?_) fun z=>absurd (by decide +kernel) z))
 exact wpAny_ite_split (fun z=>absurd z (by decide)) fun _=>wpAny_pure (h false)
theorem zi (I l:Addr) (hne:l≠I) (items:Array Value):ItS prog w "list_reverseiterator" I [I,l] [I] items.size (fun i v=>items[items.size-1-i]? = some v) (fun i h=>i≤items.size∧h.IsRevIter I l ((items.size:Int)-1-(i:Int))∧h.IsList l items) where
 walk:=fun A hh=>Walks.listRev hh I l hne items
 ty:=fun i s st=>st.2.1.typeIs
 nl:=by decide
 nt:=by decide
 hint:=fun _ _ _ _ st h=>wd st.2.1.typeIs h
 mem:=by simp
theorem mU{l:Addr}{items:Array Value}{Q:Value→Shared→Prop}(hh:A.handled=none)(hl:s.heap.IsList l items)(hn:items.size≤sizeLine)
  (h:∀(h1 h':Heap) (tk c:Nat),(∀b o,s.heap.get? b=some o→h1.get? b=some o)→(∀b o,b≠s.heap.objs.size→h1.get? b=some o→h'.get? b=some o)→s.heap.objs.size<h1.objs.size→h'.get? h1.objs.size=some { cls:=.type "list",dict:=none,data:=.seq items.toList.reverse.toArray c,slots:=#[] }→Q (.ref h1.objs.size) { s with heap:=h',toks:=tk }):
  wpAny (model prog w) A (call (.type "reversed") [.ref l]) (fun u s1=>wpAny (model prog w) A (call (.type "list") [u]) Q E s1) E s:=by
 refine call_reversed_list hl ?_
 have hls:l<s.heap.objs.size:=by obtain⟨o,ho,_⟩:=hl;exact iD ho
 have szp:(s.heap.push (revObj l ((items.size:Int)-1))).objs.size=s.heap.objs.size+1:=aaT _ _
 refine Ai (s:={ s with heap:=s.heap.push (revObj l ((items.size:Int)-1)) }) (zi s.heap.objs.size l (aab hls) items) hh ⟨aaH _,⟨_,lE _ rfl,rfl,by simp[revObj]⟩,hl.push _⟩ (fun b hb=>?_) hn fun h' tk acc c hk hD hacc=>?_
 ·show b<(s.heap.push _).objs.size
  rw[szp]
  rcases List.mem_cons.mp hb with rfl|hb
  ·exact aaP _
  ·rw[List.mem_singleton.mp hb];exact aba hls
 ·have ea:acc=items.toList.reverse.toArray:=by
   apply Array.toList_inj.mp
   show acc.toList=items.toList.reverse
   apply aaY
   intro i
   rw[oR]
   rcases aaj i items.size with q|q
   ·have hi:i<acc.size:=by rw[hacc.1];exact q
    have z:=hacc.2 i _ (aac hi)
    rw[aac hi,List.getElem?_reverse (by simpa using q),aag,oR,z]
   ·rw[aap (by rw[hacc.1];exact q),aav (by simpa using q)]
  rw[ea]at hD
  exact h _ h' tk c (fun b o e=>bY _ e) (fun b o hb e=>hk b o (by simp;exact hb) e) (by rw[szp];exact aaP _) hD
end
end GS
namespace G
open PySem PySem.Spec PyProof.Rows L2 GS HM
section
variable {X:Cx}
def sP(X:Cx)(f g:Value)(r:List V→Hp→VK→Prop):Prop:=
 ∀(pins:List (Addr×Obj))(s:Shared)(σ:L2.St)(H:Hp)(xs:List V)(us:List Value)(Q:VK),Inv X pins σ H s→Vals xs us→r xs H Q →
  wpAny (model X.prog X.w) X.A (call g us) (fun u s1=>wpAny (model X.prog X.w) X.A (call f [u]) (EP X pins σ Q) X.xe s1) X.xe s
inductive Blt:Value→Prop where
 |fn (id:String):Blt (.builtin id)
 |ty (T:String):Blt (.type T)
theorem with1{f:Value}(hf:Blt f){A:Around}{env:Env}{E:Value→Shared→Prop}{M:Model}{s:Shared}{pos:Pos}{e:Expr}{rest:List Expr}{Q:Value→Shared→Prop}
  (h:wpAny M A (spliced (backTo pos (starEach (e::rest) env))) (fun vs s₁=>wpAny M A (call f vs) Q E s₁) E s)
  (he:starEach (e::rest) env=(false,eval e env)::starEach rest env) (hp:(backTo pos (starEach rest env)).any (·.1)=false):
  wpAny M A (callWith pos f [] (backTo pos (starEach (e::rest) env)) []) Q E s:=by
 cases hf with
 |fn id=>exact callWith_builtin1 h he hp
 |ty T=>exact callWith_type1 h he hp
theorem wO{f g:Value}{x y:Str}{p p2 pos pos2:Pos}{e:Expr}{es:List Expr}{r:List V→Hp→VK→Prop}{t:TA}(bf:Blt f)(bg:Blt g)(hc:sP X f g r)(hgx:Gl X x)(hmx:X.mg x=none)(hvx:bootBuiltins x=some f)(hgy:Gl X y)(hmy:X.mg y=none)(hvy:bootBuiltins y=some g)
  (ha:PA X (e::es) t) (hnx:x≠"__name__") (hny:y≠"__name__") (hdx:(x==("__debug__":Str))=false) (hdy:(y==("__debug__":Str))=false)
  (he:starEach (e::es) X.env=(false,eval e X.env)::starEach es X.env) (hpl:(backTo pos2 (starEach es X.env)).any (·.1)=false)
  (he2:starEach [.Call (.Name y p2) (e::es) [] pos2] X.env=[(false,eval (.Call (.Name y p2) (e::es) [] pos2) X.env)]):
  PE X (.Call (.Name x p) [.Call (.Name y p2) (e::es) [] pos2] [] pos) (tCB r t):=by
 intro pins s σ H Q I h
 refine wpAny_Call_Name_kw (hJ I hgx hmx hvx ?_ hnx hdx)
 refine with1 bf ?_ he2 rfl
 rw[he2]
 change wpAny _ _ (spliced ((false,eval (.Call (.Name y p2) (e::es) [] pos2) X.env)::[])) _ _ s
 refine Calls.spliced_cons ?_
 refine wpAny_Call_Name_kw (hJ I hgy hmy hvy ?_ hny hdy)
 exact with1 bg (thn (ha pos2 pins s σ H _ I h) fun us s1 ⟨vs,H1,I1,r1,q1⟩=>thn (hc pins s1 σ H1 vs us Q I1 r1 q1) fun u s2 q=>Calls.spliced_nil q) he hpl
end
def ptP(p:Pt):PV:=.tup [.int p.1,.int p.2]
def DK:PV→Option Pt
 |.tup [.int x,.int y]=>some (x,y)
 |_=>none
def mD:List PV→Option (List Pt)
 |[]=>some []
 |p::ps=>match DK p,mD ps with
  |some q,some qs=>some (q::qs)
  |_,_=>none
theorem yG{p:PV}{q:Pt}(h:DK p=some q):p=ptP q:=by
 unfold DK at h
 split at h
 ·cases h;rfl
 ·cases h
theorem oi:∀{ps:List PV}{qs:List Pt},mD ps=some qs→ps=qs.map ptP
 |[],qs,h=>by cases h;rfl
 |p::ps,qs,h=>by
  unfold mD at h
  split at h
  ·rename_i q qs' h1 h2
   cases h
   rw[yG h1,oi h2];rfl
  ·cases h
theorem oh:∀(qs:List Pt),mD (qs.map ptP)=some qs
 |[]=>rfl
 |q::qs=>by
  show mD (ptP q::qs.map ptP)=_
  unfold mD
  rw[oh qs]
  rfl
def jx(p:Pt):List Pt→List Pt
 |[]=>[p]
 |q::r=>if lx p q then p::q::r else if p=q then q::r else q::jx p r
def bj(ps:List Pt):List Pt:=ps.foldr jx []
theorem ma(p:Pt):∀(l:List Pt)(x:Pt),x∈jx p l↔x=p∨x∈l
 |[],x=>by simp[jx]
 |q::r,x=>by
  unfold jx
  split
  ·simp
  ·split
   ·rename_i h;subst h;simp
   ·rw[abx,ma p r x,abx]
    constructor
    ·rintro(h|h|h)
     ·exact .inr (.inl h)
     ·exact .inl h
     ·exact .inr (.inr h)
    ·rintro(h|h|h)
     ·exact .inr (.inl h)
     ·exact .inl h
     ·exact .inr (.inr h)
theorem tY(p:Pt):∀(l:List Pt),l.Pairwise lx→(jx p l).Pairwise lx
 |[],_=>abw _ _
 |q::r,h=>by
  obtain⟨h1,h2⟩:=List.pairwise_cons.mp h
  unfold jx
  split
  ·rename_i hp
   refine List.pairwise_cons.mpr ⟨fun x hx=>?_,h⟩
   rcases List.mem_cons.mp hx with rfl|hx
   ·exact hp
   ·exact qm hp (h1 x hx)
  ·rename_i hp
   split
   ·exact h
   ·rename_i hne
    refine List.pairwise_cons.mpr ⟨fun x hx=>?_,tY p r h2⟩
    rcases(ma p r x).mp hx with rfl|hx
    ·rcases rT x q with g|g|g
     ·exact absurd g hp
     ·exact absurd g hne
     ·exact g
    ·exact h1 x hx
theorem gZ:∀(ps:List Pt),(bj ps).Pairwise lx
 |[]=>.nil
 |p::ps=>tY p _ (gZ ps)
theorem dI:∀(ps:List Pt)(x:Pt),x∈bj ps↔x∈ps
 |[],x=>by simp[bj]
 |p::ps,x=>by
  show x∈jx p (bj ps)↔_
  rw[ma,dI ps,abx]
theorem nE:∀{a b:List Pt},a.Pairwise lx→b.Pairwise lx→(∀x,x∈a↔x∈b)→a=b
 |[],[],_,_,_=>rfl
 |[],q::b,_,_,h=>by have:=(h q).mpr (.head _);simp at this
 |p::a,[],_,_,h=>by have:=(h p).mp (.head _);simp at this
 |p::a,q::b,ha,hb,h=>by
  obtain⟨a1,a2⟩:=List.pairwise_cons.mp ha
  obtain⟨b1,b2⟩:=List.pairwise_cons.mp hb
  have e:p=q:=by
   rcases List.mem_cons.mp ((h p).mp (.head _)) with e|hp
   ·exact e
   ·rcases List.mem_cons.mp ((h q).mpr (.head _)) with e|hq
    ·exact e.symm
    ·exact(fm (a1 q hq) (b1 p hp)).elim
  subst e
  rw[nE a2 b2 fun x=>?_]
  constructor
  ·intro hx
   rcases List.mem_cons.mp ((h x).mp (.tail _ hx)) with e|hx'
   ·subst e;exact(gq (a1 x hx)).elim
   ·exact hx'
  ·intro hx
   rcases List.mem_cons.mp ((h x).mpr (.tail _ hx)) with e|hx'
   ·subst e;exact(gq (b1 x hx)).elim
   ·exact hx'
def AV(K:aT)(H:Hp)(v:V)(p:Pt):Prop:=∃b,v=.ref b∧SqT K H b [.int p.1,.int p.2]
section
variable {X:Cx}{pins:List (Addr×Obj)}{τ:L2.St}{H:Hp}{s:Shared}
theorem A1(I:Inv X pins τ H s){b:Addr}{x y:Int}(h:SqT X.K H b [.int x,.int y]):TK X.prog X.w s.heap [x,y] b:=by
 obtain⟨its,r,o,e,c,n,d⟩:=tup_is I h
 obtain⟨u,w',rfl,⟨t1,rfl⟩,⟨t2,rfl⟩⟩:=vals2 r
 exact⟨o,_,n,e,c,d,.cons (by simp[intKind,Value.isInt]) (.cons (by simp[intKind,Value.isInt]) .nil)⟩
theorem Bt{h:Heap}{p q:Pt}{b:Addr}(h1:TK X.prog X.w h [p.1,p.2] b)(h2:TK X.prog X.w h [q.1,q.2] b):p=q:=by
 have:=h1.inj h2
 have e1:p.1=q.1:=by injection this
 have e2:p.2=q.2:=by injection this with _ z;injection z
 exact Prod.ext e1 e2
theorem jK:∀{xs:List V}{us:List Value}{i:Nat}{u:Value},Vals xs us→us[i]? = some u→∃x,xs[i]? = some x∧RelV x u
 |_,_,i,_,.nil,e=>by simp at e
 |_,_,0,_,.cons r _,e=>by simp at e;subst e;exact⟨_,rfl,r⟩
 |_,_,i+1,u,.cons _ t,e=>by
  obtain⟨x,h1,h2⟩:=jK (i:=i) (u:=u) t (by simpa using e)
  exact⟨x,by simpa using h1,h2⟩
def toV:Value→V
 |.ref b=>.ref b
 |_=>.non
theorem sH (hc:X.calm=true) (hu:X.A.units+20<cLine):sP X (.builtin "sorted") (.type "set") (fun xs H Q=>∃l vs ps,xs=[.ref l]∧SqL X.K H l vs∧ps.length≤63∧vs.length=ps.length∧(∀(i:Nat) (v:V) (p:Pt),vs[i]? = some v→ps[i]? = some p→AV X.K H v p) ∧
  ∀D vs',H D=none→vs'.length=(bj ps).length→(∀(i:Nat)(v:V)(q:Pt),vs'[i]? = some v→(bj ps)[i]? = some q→∃j:Nat,vs[j]? = some v∧ps[j]? = some q)→Q (.ref D) (upd H D (.lst vs'))):=by
 intro pins s σ H xs us Q I r h
 obtain⟨l,vs,ps,rfl,hl,h63,hlen,hpr,q⟩:=h
 obtain⟨u,rfl,ru⟩:=vals1 r
 cases ru
 obtain⟨its,rv,pl,hz⟩:=I.list hl
 have hh:=I.ok.hd hc
 have il:s.heap.IsList l its.toArray:=pl.isList
 have lits:its.length=ps.length:=by rw[←rv.length];exact hlen
 refine yu (U:=fun u=>∃v∈vs,RelV v u) (ks:=ps.map fun p=>[p.1,p.2]) hh (by omega) il (by simp[lits]) (by simp[lits];exact h63) (fun i v hv=>?_) (fun v hv=>?_) fun h1 tk1 hS k1=>?_
 ·have hv':its[i]? = some v:=by simpa using hv
  obtain⟨x,hx,rx⟩:=jK rv hv'
  have hi:i<ps.length:=by rw[←lits];exact(List.getElem?_eq_some_iff.mp hv').1
  obtain⟨b,rfl,hb⟩:=hpr i x ps[i] hx (dO hi)
  cases rx
  exact⟨b,[ps[i].1,ps[i].2],rfl,by rw[aae,dO hi];rfl,A1 I hb⟩
 ·have hv':v∈its:=by simpa using hv
  obtain⟨i,hi⟩:=List.mem_iff_getElem?.mp hv'
  obtain⟨x,hx,rx⟩:=jK rv hi
  exact⟨x,aaf hx,rx⟩
 obtain⟨es,ep,t,ho,S⟩:=hS
 refine qM (s:={ s with heap:=h1,toks:=tk1 }) hh ho S (by omega) fun h2 h' tk n' vs' ps' k2 hD k3 hpw hmem hat hU=>?_
 have e:ps'=bj ps:=nE hpw (gZ ps) fun x=>(hmem x).trans (dI ps x).symm
 subst e
 have kk:∀b o,s.heap.get? b=some o→h'.get? b=some o:=fun b o z=>k3 b o (k2 b o (k1 b o z))
 have I2:Inv X pins σ H { s with heap:=h2,toks:=tk1 }:=I.kept fun b o z=>k2 b o (k1 b o z)
 have hvals:Vals (vs'.map toV) vs':=by
  have key:∀(L:List Value),(∀v∈L,∃b,v=Value.ref b)→Vals (L.map toV) L:=by
   intro L
   induction L with
   |nil=>intro _;exact .nil
   |cons v L ih=>
    intro hL
    obtain⟨b,rfl⟩:=hL v (.head _)
    exact .cons rfl (ih fun v' hv'=>hL v' (.tail _ hv'))
  refine key vs' fun v hv=>?_
  obtain⟨i,hi⟩:=List.mem_iff_getElem?.mp hv
  have hil:i<(bj ps).length:=by rw[←hat.1];exact(List.getElem?_eq_some_iff.mp hi).1
  obtain⟨b,e,_⟩:=hat.2 i v _ hi (dO hil)
  exact⟨b,e⟩
 have hvl:vs'.length≤63:=by
  have:=hat.1
  have h3:(bj ps).length≤ps.length:=by
   have:∀(L:List Pt),(bj L).length≤L.length:=by
    intro L
    induction L with
    |nil=>exact gO _
    |cons p L ih=>
     have ins:∀(M:List Pt),(jx p M).length≤M.length+1:=by
      intro M
      induction M with
      |nil=>exact gO _
      |cons m M ihm=>
       unfold jx
       split
       ·simp
       ·split
        ·simp
        ·simp only[iF];omega
     have:=ins (bj L)
     show(jx p (bj L)).length≤_
     simp only[iF];omega
   exact this ps
  omega
 refine⟨.ref h2.objs.size,upd H h2.objs.size (.lst (vs'.map toV)),?_,rfl,q _ _ (I2.hok.fresh (gO _)) (by rw[aad];exact hat.1) fun i v p hv hp=>?_⟩
 ·exact I2.laid (t':=tk) (o:=.lst (vs'.map toV)) k3 (gO _) ⟨by rw[aad,sizeLine_eq];omega,vs',n',hvals,hD⟩
 ·rw[aae]at hv
  cases hi:vs'[i]? with
  |none=>rw[hi]at hv;cases hv
  |some u=>
   rw[hi]at hv
   obtain⟨b,rfl,tkb⟩:=hat.2 i u p hi hp
   have ev:v=.ref b:=(Option.some.inj hv).symm
   subst ev
   obtain⟨v0,hv0,rv0⟩:=hU _ (aaf hi)
   have e0:v0=.ref b:=by
    cases v0 with
    |ref b'=>have z:Value.ref b=Value.ref b':=rv0;injection z with z;rw[z]
    |non=>exact absurd rv0 (by intro z;cases z)
    |bl _=>exact absurd rv0 (by intro z;cases z)
    |int _=>obtain⟨_,z⟩:=rv0;cases z
    |str _=>obtain⟨_,z⟩:=rv0;cases z
    |byt _=>obtain⟨_,z⟩:=rv0;cases z
    |flt _=>obtain⟨_,z⟩:=rv0;cases z
    |ty _=>exact absurd rv0 (by intro z;cases z)
   subst e0
   obtain⟨j,hj⟩:=List.mem_iff_getElem?.mp hv0
   have hjl:j<ps.length:=by rw[←hlen];exact(List.getElem?_eq_some_iff.mp hj).1
   obtain⟨b',eb,hb'⟩:=hpr j _ ps[j] hj (dO hjl)
   cases eb
   have t1:=A1 I hb'
   have t2:TK X.prog X.w h' [ps[j].1,ps[j].2] b:=by
    obtain⟨o,items,n,g,z⟩:=t1
    exact⟨o,items,n,kk b o g,z⟩
   have:=Bt t2 tkb
   rw[←this]
   exact⟨j,hj,dO hjl⟩
end
section
variable {X:Cx}{H0 Hs0:Hp}{a b:Expr}{da db:DE}{p p2 pos pos2:Pos}
theorem j6{K:aT}{H:Hp}:∀{vs:List V}{ps:List PV},vs.length=ps.length→(∀(i:Nat)(v:V)(p:PV),vs[i]? = some v→ps[i]? = some p→Rep K H v p)→Reps K H vs ps
 |[],[],_,_=>.nil
 |[],_::_,h,_=>by simp at h
 |_::_,[],h,_=>by simp at h
 |v::vs,p::ps,h,g=>.cons (g 0 v p rfl rfl) (j6 (by simpa using h) fun i v p a b=>g (i+1) v p (by simpa using a) (by simpa using b))
def fe:PV→Res PV
 |.lst xs=>match mD xs with
  |some ps=>if ps.length≤63 then .ok (.lst ((bj ps).map ptP)) else .stuck
  |none=>.stuck
 |_=>.stuck
theorem BI{K:aT}{H:Hp}{v:V}{q:Pt}(r:Rep K H v (ptP q)):AV K H v q:=by
 obtain⟨b,xs,rfl,ht,rs⟩:=r.tup_inv
 obtain⟨v1,v2,rfl,r1,r2⟩:=rs.two_inv
 cases r1.int_inv;cases r2.int_inv
 exact⟨b,rfl,ht⟩
theorem AV.mono{K:aT}{H H':Hp}{v:V}{q:Pt}(e:aL H H')(h:AV K H v q):AV K H' v q:=let⟨b,z,t⟩:=h;⟨b,z,bO e t⟩
theorem uP (hc:X.calm=true) (hu:X.A.units+20<cLine) (ha:QE X H0 Hs0 a da) (hg1:Gl X "sorted") (hm1:X.mg "sorted" = none) (hg2:Gl X "set") (hm2:X.mg "set" = none)
  (he:starEach [a] X.env=[(false,eval a X.env)]) (he2:starEach [.Call (.Name "set" p2) [a] [] pos2] X.env=[(false,eval (.Call (.Name "set" p2) [a] [] pos2) X.env)]):
  QE X H0 Hs0 (.Call (.Name "sorted" p) [.Call (.Name "set" p2) [a] [] pos2] [] pos) (e1 fe da):=by
 refine PE.imp (wO (.fn _) (.ty _) (sH hc hu) hg1 hm1 (by decide +kernel) hg2 hm2 (by decide +kernel) (bX ha eB he) (by decide) (by decide) (by decide) (by decide) he rfl he2) fun τ H Q h=>?_
 refine RE.mono (one h) fun x H1 ⟨Hs,q,i,r,h1⟩=>?_
 unfold fe at h1
 split at h1
 ·rename_i xs
  split at h1
  ·rename_i ps hps
   split at h1
   ·rename_i h63
    obtain⟨ad,vs,rfl,hl,rs⟩:=r.lst_inv
    have exs:=oi hps
    subst exs
    have lv:vs.length=ps.length:=by rw[rs.length,aad]
    have each:∀(j:Nat)(v:V)(p:Pt),vs[j]? = some v→ps[j]? = some p→Rep X.K Hs v (ptP p):=fun j v p h2 h3=>by
     obtain⟨v',h4,r4⟩:=rs.get (i:=j) (p:=ptP p) (by rw[aae,h3];rfl)
     rw[h2]at h4;cases h4;exact r4
    refine⟨ad,vs,ps,rfl,SqL.of (i _ _ hl),h63,lv,fun j v p h2 h3=>(BI (each j v p h2 h3)).mono i,fun D vs' hD hlen hv=>?_⟩
    refine h1 _ _ _ (.new i hD) (.lst ak (Reps.mono (aX (i.free hD)) (j6 (by rw[aad];exact hlen) fun j v p h2 h3=>?_)))
    rw[aae]at h3
    cases hj:(bj ps)[j]? with
    |none=>rw[hj]at h3;cases h3
    |some q=>
     rw[hj]at h3
     have:ptP q=p:=Option.some.inj h3
     subst this
     obtain⟨k,h4,h5⟩:=hv j v q h2 hj
     exact each k v q h4 h5
   ·exact h1.elim
  ·exact h1.elim
 ·exact h1.elim
end
section
variable {X:Cx}{H0 Hs0:Hp}{a b:Expr}{da db:DE}{pos np apos cpos p p2 pos2:Pos}{x:Str}
theorem BR {i:Nat} (hN:X.N[i]? = some x) (hv:Vis X.env.scope x) (hd:(x==("__debug__":Str))=false) (hcd:(x==("__classdict__":Str))=false)
  (hbase:attributeBase (.Name x np) "pop" X.env (eval (.Name x np) X.env)=eval (.Name x np) X.env) (hline:(apos.endLine==cpos.line)=true)
  (hsw:swapsWith (.Call (.Attribute (.Name x np) "pop" apos) [] [] cpos) none pos.line X.env=pure false):
  QS X H0 Hs0 (.Expr (.Call (.Attribute (.Name x np) "pop" apos) [] [] cpos) pos) (uI i):=by
 intro pins s τ H D I ⟨Hs,σ,S,h⟩
 refine jo (Cr PySem.F.plainAttrs_list PySem.F.slot_list_pop PySem.F.type_list_pop CN (dJ hN hv hd hcd) hbase hline) hsw pins s τ H D I ?_
 unfold uI at h
 split at h
 ·rename_i xs e
  split at h
  ·exact h.elim
  ·rename_i hne
   obtain⟨v,e1,ad,vs,rfl,h1,h2,h3,h4⟩:=S.slot i _ e
   have hl:vs.length≠0:=by rw[h4.length];exact fun z=>hne (List.length_eq_zero_iff.mp z)
   refine⟨_,e1,.inl ⟨rfl,vs,SqL.of h1⟩,ad,vs,vs[vs.length-1]'(by omega),rfl,rfl,h1,dO (by omega),?_⟩
   exact h Hs _ τ (aL.refl _) (S.write i e e1 h2 h3 h4.dropLast)
 ·exact h.elim
theorem yT (i:Nat) (ha:XE X H0 Hs0 a da) (hN:X.N[i]? = some x:=by rfl) (hv:Vis X.env.scope x:=by first|exact Or.inl rfl|exact Or.inr (Or.inl rfl)|exact Or.inr (Or.inr rfl)) (hd:(x==("__debug__":Str))=false:=by decide) (hcd:(x==("__classdict__":Str))=false:=by decide)
  (hbase:attributeBase (.Name x np) "append" X.env (eval (.Name x np) X.env)=eval (.Name x np) X.env:=by rfl)
  (hfew:((backTo cpos (starEach [a] X.env)).all (fun x=>!x.1)&&(backToKw cpos (keywordEach [] X.env)).all (fun x=>x.1.isSome)&&decide ([a].length+([]:List Keyword).length+(if ([]:List Keyword).isEmpty then 0 else 1)<30))=true:=by rfl)
  (hline:(apos.endLine==cpos.line)=true:=by rfl) (hs:noStar a=true:=by rfl) (hsw:jU (.Call (.Attribute (.Name x np) "append" apos) [a] [] cpos)=true:=by rfl):
  XS X H0 Hs0 (.Expr (.Call (.Attribute (.Name x np) "append" apos) [a] [] cpos) pos) (oI i da):=⟨BX hN hv hd hcd ha.h hbase hfew hline (aA hs) rfl (f9 hsw)⟩
theorem FV (i:Nat) (hN:X.N[i]? = some x:=by rfl) (hv:Vis X.env.scope x:=by first|exact Or.inl rfl|exact Or.inr (Or.inl rfl)|exact Or.inr (Or.inr rfl)) (hd:(x==("__debug__":Str))=false:=by decide) (hcd:(x==("__classdict__":Str))=false:=by decide)
  (hbase:attributeBase (.Name x np) "pop" X.env (eval (.Name x np) X.env)=eval (.Name x np) X.env:=by rfl) (hline:(apos.endLine==cpos.line)=true:=by rfl)
  (hsw:jU (.Call (.Attribute (.Name x np) "pop" apos) [] [] cpos)=true:=by rfl):XS X H0 Hs0 (.Expr (.Call (.Attribute (.Name x np) "pop" apos) [] [] cpos) pos) (uI i):=⟨BR hN hv hd hcd hbase hline (f9 hsw)⟩
theorem xss (ha:XE X H0 Hs0 a da) (hu:X.A.units+20<cLine) (hm1:X.mg "sorted" = none) (hm2:X.mg "set" = none) (hc:X.calm=true:=by rfl) (hg1:Gl X "sorted":=by rfl) (hg2:Gl X "set":=by rfl) (h1:noStar a=true:=by rfl):
  XE X H0 Hs0 (.Call (.Name "sorted" p) [.Call (.Name "set" p2) [a] [] pos2] [] pos) (e1 fe da):=⟨uP hc hu ha.h hg1 hm1 hg2 hm2 (aA h1) (aA rfl)⟩
def uV:PV→Res PV
 |.lst xs=>if xs.length≤10000000 then .ok (.lst xs.reverse) else .stuck
 |_=>.stuck
theorem vK{xs:List V}{us:List Value}(r:Vals xs us):Vals xs.reverse us.reverse:=by
 induction r with
 |nil=>exact .nil
 |cons r t ih=>rw[abj,abj];exact L2.Vals.append ih (.cons r .nil)
theorem Dv (hc:X.calm=true):sP X (.type "list") (.type "reversed") (fun xs H Q=>∃l vs,xs=[.ref l]∧SqL X.K H l vs∧∀D,H D=none→Q (.ref D) (upd H D (.lst vs.reverse))):=by
 intro pins s σ H xs us Q I r h
 obtain⟨l,vs,rfl,hl,q⟩:=h
 obtain⟨u,rfl,ru⟩:=vals1 r
 cases ru
 obtain⟨its,rv,pl,hz⟩:=I.list hl
 refine mU (items:=its.toArray) (I.ok.hd hc) pl.isList (by rw[oF,←rv.length];exact hz) fun h1 h' tk c k1 k2 hlt hD=>?_
 have I1:Inv X pins σ H { s with heap:=h1,toks:=tk }:=I.kept k1
 have hD':h'.get? h1.objs.size=some { cls:=.type "list",data:=.seq its.reverse.toArray c }:=hD
 have k3:∀b o,s.heap.get? b=some o→h'.get? b=some o:=fun b o e=>k2 b o (aab (iD e)) (k1 b o e)
 have I0:Inv X pins σ H { s with heap:=h',toks:=tk }:=I.kept k3
 refine⟨.ref h1.objs.size,upd H h1.objs.size (.lst vs.reverse),?_,rfl,q _ (I.hok.fresh (abG hlt))⟩
 exact I.laid (t':=tk) (o:=.lst vs.reverse) k3 (abG hlt) ⟨by rw[aa1];exact hz,its.reverse,c,vK rv,hD'⟩
theorem Ex (hc:X.calm=true) (ha:QE X H0 Hs0 a da) (hg1:Gl X "list") (hm1:X.mg "list" = none) (hg2:Gl X "reversed") (hm2:X.mg "reversed" = none)
  (he:starEach [a] X.env=[(false,eval a X.env)]) (he2:starEach [.Call (.Name "reversed" p2) [a] [] pos2] X.env=[(false,eval (.Call (.Name "reversed" p2) [a] [] pos2) X.env)]):
  QE X H0 Hs0 (.Call (.Name "list" p) [.Call (.Name "reversed" p2) [a] [] pos2] [] pos) (e1 uV da):=by
 refine PE.imp (wO (.ty _) (.ty _) (Dv hc) hg1 hm1 (by decide +kernel) hg2 hm2 (by decide +kernel) (bX ha eB he) (by decide) (by decide) (by decide) (by decide) he rfl he2) fun τ H Q h=>?_
 refine RE.mono (one h) fun x H1 ⟨Hs,q,i,r,h1⟩=>?_
 unfold uV at h1
 split at h1
 ·split at h1
  ·obtain⟨ad,vs,rfl,hl,rs⟩:=r.lst_inv
   exact⟨ad,vs,rfl,SqL.of (i _ _ hl),fun D hD=>h1 _ _ _ (.new i hD) (.lst ak (Reps.mono (aX (i.free hD)) rs.reverse))⟩
  ·exact h1.elim
 ·exact h1.elim
theorem FU (ha:XE X H0 Hs0 a da) (hm1:X.mg "list" = none) (hm2:X.mg "reversed" = none) (hc:X.calm=true:=by rfl) (hg1:Gl X "list":=by rfl) (hg2:Gl X "reversed":=by rfl) (h1:noStar a=true:=by rfl):
  XE X H0 Hs0 (.Call (.Name "list" p) [.Call (.Name "reversed" p2) [a] [] pos2] [] pos) (e1 uV da):=⟨Ex hc ha.h hg1 hm1 hg2 hm2 (aA h1) (aA rfl)⟩
def n9:List PV→Res PV
 |[.lst xs]=>.ok (.lst xs)
 |[.tup xs]=>.ok (.lst xs)
 |_=>.stuck
theorem uj:f6 X (.type "list") n9:=by
 intro EO pins s σ H xs us Q I r h
 obtain⟨Hs,ps,i,rp,h⟩:=h
 unfold n9 at h
 split at h
 ·obtain⟨v,rfl,r1⟩:=rp.one_inv
  obtain⟨ad,vs,rfl,hl,rs⟩:=r1.lst_inv
  exact jG pins s σ H _ us Q I r ⟨ad,vs,rfl,.inl (SqL.of (i _ _ hl)),fun D hD=>h _ _ _ (.new i hD) (.lst ak (Reps.mono (aX (i.free hD)) rs))⟩
 ·obtain⟨v,rfl,r1⟩:=rp.one_inv
  obtain⟨ad,vs,rfl,hl,rs⟩:=r1.tup_inv
  exact jG pins s σ H _ us Q I r ⟨ad,vs,rfl,.inr (bO i hl),fun D hD=>h _ _ _ (.new i hD) (.lst ak (Reps.mono (aX (i.free hD)) rs))⟩
 ·exact h.elim
end
theorem lb:∀{is:List Nat}{ps:List PV}{σ σ':PSt},fz is ps σ=.ok σ'→(∀j,j∉is→σ'[j]? = σ[j]?)∧σ'.length=σ.length
 |[],[],σ,σ',h=>by cases h;exact⟨fun _ _=>rfl,rfl⟩
 |i::is,p::ps,σ,σ',h=>by
  obtain⟨h1,h2⟩:=lb (is:=is) (ps:=ps) h
  refine⟨fun j hj=>?_,by rw[h2,aas]⟩
  rw[h1 j (fun z=>hj (.tail _ z)),aaa (fun z=>hj (by rw[z];exact .head _))]
theorem As{k:Nat}{is:List Nat}(h:(is.all fun i=>decide (i<k))=true:=by rfl):GK k (gU is):=⟨fun ix σ p σ1 e=>by
 have e':∃ps,fz is ps (inn k ix σ)=.ok σ1:=by
  unfold gU at e
  split at e
  ·exact⟨_,e⟩
  ·exact⟨_,e⟩
  ·cases e
 obtain⟨ps,e'⟩:=e'
 obtain⟨h1,h2⟩:=lb e'
 refine⟨fun j sv hj=>?_,h2⟩
 rw[h1 j (fun z=>tZ (of_decide_eq_true (List.all_eq_true.mp h j z)) hj)]
 exact hj⟩
end G
namespace G
open PySem PySem.Spec PyProof.Rows L2 HM
theorem zT{α:Type}{f:PV→Res PV}{u v:α→PV}{xs:List α}(h:∀x∈xs,f (u x)=.ok (v x)):mapR f (xs.map u)=.ok (xs.map v):=by
 induction xs with
 |nil=>rfl
 |cons x xs ih=>
  show(f (u x)).bind _=_
  rw[h x (.head _),Res.bind_ok,show mapR f (List.map u xs)=_ from ih fun y hy=>h y (.tail _ hy)]
  rfl
theorem um{α:Type}{d:DI}{g:DG}{de:DE}{k:Nat}{ix:List Nat}{σ:PSt}{u v:α→PV}{xs:List α}(h1:d σ=.ok (xs.map u))(h2:∀x∈xs,fb g de (inn k ix σ) (u x)=.ok (v x))(h3:xs.length≤10000000):vB d g de k ix σ=.ok (xs.map v):=by
 unfold vB
 rw[h1,Res.bind_ok,zT h2]
 show(if (xs.map v).length≤10000000 then _ else _)=_
 rw[if_pos (by rw[aad];exact h3)]
theorem d9{α:Type}{d:DI}{g:DG}{de:DE}{k:Nat}{ix:List Nat}{σ:PSt}{u v:α→PV}{xs:List α}(h1:d σ=.ok (xs.map u))(h2:∀x∈xs,fb g de (inn k ix σ) (u x)=.ok (v x))(h3:xs.length≤10000000):df d g de k ix σ=.ok (.lst (xs.map v)):=by
 unfold df;rw[um h1 h2 h3];rfl
theorem nB{α:Type}{i:Nat}{d:DI}{g:DG}{de:DE}{k:Nat}{ix:List Nat}{σ:PSt}{u v:α→PV}{xs:List α}(h1:d σ=.ok (xs.map u))(h2:∀x∈xs,fb g de (inn k ix σ) (u x)=.ok (v x))(h3:xs.length≤10000000):g8 i d g de k ix σ=.ok (.next (σ.set i (some (.own (xs.map v))))):=by
 unfold g8;rw[um h1 h2 h3];rfl
theorem vO{k:Nat}{de:DE}{σ:PSt}{p:PV}:fb (gN k) de σ p=noErr (de (σ.set k (some (.sh p)))):=rfl
theorem qY{i j:Nat}{de:DE}{σ:PSt}{p q:PV}:fb (gU [i,j]) de σ (.tup [p,q])=noErr (de ((σ.set i (some (.sh p))).set j (some (.sh q)))):=rfl
theorem w4{xs:List PV}:pSl (.lst xs) none (some (-1))=.ok (.lst xs.dropLast):=by
 show Res.ok (PV.lst (qI xs none (some (-1))))=_
 congr 2
 unfold qI
 have e1:HT.sIx xs.length 0 none=0:=rfl
 have e2:HT.sIx xs.length xs.length (some (-1))=xs.length-1:=by
  show(if (-1:Int)<0 then ((-1:Int)+(xs.length:Int)).toNat else min (-1:Int).toNat xs.length)=_
  rw[if_pos (by decide)];omega
 rw[e1,e2,List.drop_zero,Nat.sub_zero,List.dropLast_eq_take]
theorem yF{α:Type}(l:List α)(b:α):atI (l++[b]) (-1)=some b:=by
 unfold atI ixN
 rw[if_neg (by decide),if_pos (by rw[aai];simp;omega)]
 show(l++[b])[((-1:Int)+((l++[b]).length:Int)).toNat]? = _
 have:((-1:Int)+((l++[b]).length:Int)).toNat=l.length:=by rw[aai,abg];omega
 rw[this];simp
theorem vD{α:Type}(l:List α)(a b:α):atI (l++[a,b]) (-2)=some a:=by
 unfold atI ixN
 rw[if_neg (by decide),if_pos (by rw[aai];simp;omega)]
 show(l++[a,b])[((-2:Int)+((l++[a,b]).length:Int)).toNat]? = _
 have:((-2:Int)+((l++[a,b]).length:Int)).toNat=l.length:=by rw[aai];simp;omega
 rw[this];simp
@[simp] theorem rl{i:Nat}{d:DE}{σ:PSt}{xs:List PV}{p:PV}(h:σ[i]? = some (some (.own xs)))(hl:xs.length<10000000)(hd:d σ=.ok p):oI i d σ=.ok (.next (σ.set i (some (.own (xs++[p]))))):=by
 unfold oI;rw[h];simp only[hl,if_true,hd];rfl
theorem BE{i:Nat}{σ:PSt}{xs:List PV}(h:σ[i]? = some (some (.own xs)))(hl:xs≠[]):uI i σ=.ok (.next (σ.set i (some (.own xs.dropLast)))):=by
 unfold uI;rw[h];simp only[hl,if_false]
@[simp] theorem lD{i:Nat}{σ:PSt}{d:DS}{xs:List PV}(h:σ[i]? = some (some (.own xs))):cO i d σ=d (σ.set i (some (.sh (.lst xs)))):=by unfold cO;rw[h]
theorem BF{i:Nat}{σ:PSt}:lH i ag σ=.ok (.next (σ.set i (some (.own [])))):=rfl
theorem Cv{xs:List PV}(h:xs.length≤10000000):uV (.lst xs)=.ok (.lst xs.reverse):=if_pos h
theorem rM{ps:List Pt}(h:ps.length≤63):fe (.lst (ps.map ptP))=.ok (.lst ((bj ps).map ptP)):=by
 simp only[fe,oh,h,if_true]
theorem Cz{xs ys:List PV}(h:xs.length+ys.length≤10000000):dG (.lst xs) (.lst ys)=.ok (.lst (xs++ys)):=if_pos h
@[simp] theorem FE{xs:List PV}:n9 [.lst xs]=.ok (.lst xs):=rfl
theorem Cm(p q:Pt):peq (ptP p) (ptP q)=decide (p=q):=by
 unfold ptP
 simp only[peq,dq,Bool.and_true]
 obtain⟨a,b⟩:=p
 obtain⟨c,d⟩:=q
 by_cases h1:a=c
 ·by_cases h2:b=d
  ·subst h1;subst h2;simp
  ·simp[h1,h2]
 ·simp[h1]
theorem qa:∀(ps qs:List Pt),dq (ps.map ptP) (qs.map ptP)=decide (ps=qs)
 |[],[]=>by simp[dq]
 |[],_::_=>by simp[dq]
 |_::_,[]=>by simp[dq]
 |p::ps,q::qs=>by
  show(peq (ptP p) (ptP q)&&dq (ps.map ptP) (qs.map ptP))=_
  rw[Cm,qa]
  by_cases h1:p=q
  ·by_cases h2:ps=qs
   ·simp[h1,h2]
   ·simp[h1,h2]
  ·simp[h1]
theorem Ay(n:Nat)(p:Pt):d8 (n+2) (ptP p)=true:=by simp[ptP,d8]
theorem qE(n:Nat)(ps:List Pt):d8 (n+3) (.lst (ps.map ptP))=true:=by
 show(ps.map ptP).all (d8 (n+2))=true
 rw[List.all_eq_true]
 intro x hx
 obtain⟨p,_,rfl⟩:=List.mem_map.mp hx
 exact Ay n p
theorem zN{ps qs:List Pt}:pNe (.lst (ps.map ptP)) (.lst (qs.map ptP))=.ok (.bl (!decide (ps=qs))):=by
 unfold pNe;rw[if_pos ⟨qE 17 ps,qE 17 qs⟩];show Res.ok (PV.bl (!dq _ _))=_;rw[qa]
theorem nv(L:List Pt):(bj L).length≤L.length:=by
 induction L with
 |nil=>exact gO _
 |cons p L ih=>
  have ins:∀(M:List Pt),(jx p M).length≤M.length+1:=by
   intro M
   induction M with
   |nil=>exact gO _
   |cons m M ihm=>
    unfold jx
    split
    ·simp
    ·split
     ·simp
     ·simp only[iF];omega
  have:=ins (bj L)
  show(jx p (bj L)).length≤_
  simp only[iF];omega
end G
namespace GS
open PySem PySem.W PySem.Calls PyProof.Rows
section
variable {prog:Program}{w:World}{A:Around}{E:Value→Shared→Prop}{s:Shared}
end
structure ZG (xs ys:Array Value) (lo:Addr) (h:Heap) (as:List Addr):Prop where
 rise:as.Pairwise (· < ·)
 above:∀a∈as,lo<a
 pairs:∀(j:Nat)(a:Addr),as[j]? = some a→∃x y,xs[j]? = some x∧ys[j]? = some y∧IsPair h a x y
section
variable {prog:Program}{w:World}{A:Around}{s:Shared}{R:Result→Shared→Prop}{xs ys:Array Value}
namespace FZ
end FZ
end
end GS
namespace G
open PySem PySem.Spec PyProof.Rows L2 GS HM
section
variable {X:Cx}{pins:List (Addr×Obj)}{σ:L2.St}{H:Hp}{s:Shared}{h':Heap}
end
section
variable {X:Cx}
end
section
variable {X:Cx}{H0 Hs0:Hp}{a b:Expr}{da db:DE}{p p2 pos pos2:Pos}
end
end G
namespace HM
theorem xy{d1 d2 w1 w2:Int}(h:d1*w2-d2*w1=0):(d1*d1+d2*d2)*w1=(w1*d1+w2*d2)*d1∧(d1*d1+d2*d2)*w2=(w1*d1+w2*d2)*d2:=by
 constructor<;>grind
theorem yj{a b c p:Pt}{D u:Int}(h1:D*(c.1-a.1)=u*(b.1-a.1))(h2:D*(c.2-a.2)=u*(b.2-a.2)):D*cr p a c=u*cr p a b:=by
 unfold cr;grind
theorem vv{a b c n:Pt}{D u:Int}(h1:D*(c.1-a.1)=u*(b.1-a.1))(h2:D*(c.2-a.2)=u*(b.2-a.2)):D*cr b n c=(D-u)*cr a b n:=by
 unfold cr;grind
theorem sq_pos{d1 d2:Int}(h:d1≠0∨d2≠0):0<d1*d1+d2*d2:=by
 have a1:0≤d1*d1:=by rcases Int.le_total 0 d1 with z|z;exact aaq z z;exact Int.mul_nonneg_of_nonpos_of_nonpos z z
 have a2:0≤d2*d2:=by rcases Int.le_total 0 d2 with z|z;exact aaq z z;exact Int.mul_nonneg_of_nonpos_of_nonpos z z
 rcases h with h|h
 ·have:d1*d1≠0:=fun z=>by rcases Int.mul_eq_zero.mp z with z|z<;>exact h z
  omega
 ·have:d2*d2≠0:=fun z=>by rcases Int.mul_eq_zero.mp z with z|z<;>exact h z
  omega
end HM
namespace G
open PySem PySem.Spec PyProof.Rows L2 HM
end G
namespace G
open PySem PySem.Spec PyProof.Rows L2 GS HM
section
variable {X:Cx}
end
section
variable {X:Cx}{H0 Hs0:Hp}{a b:Expr}{da db:DE}{pos np apos cpos p p2 pos2:Pos}{x:Str}
end
end G
namespace HM
theorem ui(a b c:Pt):cr a b c = - cr a c b:=by unfold cr;grind
theorem AE(a c:Pt):cr a a c=0:=by unfold cr;grind
theorem tI{a b c:Pt}(h:cr a b c=0):((b.1-a.1)*(b.1-a.1)+(b.2-a.2)*(b.2-a.2))*(c.1-a.1)=((c.1-a.1)*(b.1-a.1)+(c.2-a.2)*(b.2-a.2))*(b.1-a.1) ∧
  ((b.1-a.1)*(b.1-a.1)+(b.2-a.2)*(b.2-a.2))*(c.2-a.2)=((c.1-a.1)*(b.1-a.1)+(c.2-a.2)*(b.2-a.2))*(b.2-a.2):=
 xy (d1:=b.1-a.1) (d2:=b.2-a.2) (w1:=c.1-a.1) (w2:=c.2-a.2) (by unfold cr at h;omega)
theorem w9{a b:Pt}(h:a≠b):0<(b.1-a.1)*(b.1-a.1)+(b.2-a.2)*(b.2-a.2):=by
 refine sq_pos ?_
 by_cases z1:b.1-a.1=0
 ·by_cases z2:b.2-a.2=0
  ·exact absurd (Prod.ext (by omega) (by omega)) h
  ·exact .inr z2
 ·exact .inl z1
section
variable {cs cs' l:List Pt}(P:Poly cs l)(P':Poly cs' l)
include P
theorem Poly.get(k:Nat):∃a,cs[k % cs.length]? = some a:=⟨_,dO (abr _ (by have:=P.three;omega))⟩
theorem Poly.ne{k:Nat}{a b:Pt}(ha:cs[k % cs.length]? = some a)(hb:cs[(k+1) % cs.length]? = some b):a≠b:=fun e=>by
 obtain⟨c,hc⟩:=P.get (k+2)
 have:=P.turn k a b c ha hb hc
 rw[e,AE]at this
 omega
theorem Poly.end{k:Nat}{a b q:Pt}(ha:cs[k % cs.length]? = some a)(hb:cs[(k+1) % cs.length]? = some b)(hq:q∈l){D u:Int}(hD:0<D)(h1:D*(q.1-a.1)=u*(b.1-a.1))(h2:D*(q.2-a.2)=u*(b.2-a.2)):0≤u∧u≤D:=by
 have n3:=P.three
 obtain⟨n',hn'⟩:=P.get (k+2)
 obtain⟨p',hp'⟩:=P.get (k+(cs.length-1))
 have prev:(k+(cs.length-1)+1) % cs.length=k % cs.length:=by
  rw[show k+(cs.length-1)+1=k+cs.length by omega,Nat.add_mod_right]
 have prev2:(k+(cs.length-1)+2) % cs.length=(k+1) % cs.length:=by
  rw[show k+(cs.length-1)+2=(k+1)+cs.length by omega,Nat.add_mod_right]
 have t1:0<cr p' a b:=P.turn (k+(cs.length-1)) p' a b hp' (by rw[prev];exact ha) (by rw[prev2];exact hb)
 have t2:0<cr a b n':=P.turn k a b n' ha hb hn'
 have e1:0≤cr p' a q:=P.edge (k+(cs.length-1)) p' a hp' (by rw[prev];exact ha) q hq
 have e2:0≤cr b n' q:=P.edge (k+1) b n' hb hn' q hq
 have q1:=yj (p:=p') h1 h2
 have q2:=vv (n:=n') h1 h2
 have pos1:0≤D*cr p' a q:=aaq (by omega) e1
 have pos2:0≤D*cr b n' q:=aaq (by omega) e2
 constructor
 ·rcases aaX u 0 with z|z
  ·have:=aa8 z t1
   omega
  ·exact z
 ·rcases aaX D u with z|z
  ·have:=aa8 (show D-u<0 by omega) t2
   omega
  ·exact z
include P'
theorem Poly.same_next{k k':Nat}{a b b':Pt}(ha:cs[k % cs.length]? = some a)(ha':cs'[k' % cs'.length]? = some a)(hb:cs[(k+1) % cs.length]? = some b)(hb':cs'[(k'+1) % cs'.length]? = some b'):b=b':=by
 have mb:b∈l:=P.sub b (aaf hb)
 have mb':b'∈l:=P'.sub b' (aaf hb')
 have e1:=P.edge k a b ha hb b' mb'
 have e2:=P'.edge k' a b' ha' hb' b mb
 rw[ui]at e2
 have z:cr a b b'=0:=by omega
 have z':cr a b' b=0:=by rw[ui];omega
 obtain⟨w1,w2⟩:=tI z
 obtain⟨v1,v2⟩:=tI z'
 have hD:=w9 (P.ne ha hb)
 have hD':=w9 (P'.ne ha' hb')
 have u:=P.end ha hb mb' hD w1 w2
 have u':=P'.end ha' hb' mb hD' v1 v2
 have hc:(b'.1-a.1)*(b.1-a.1)+(b'.2-a.2)*(b.2-a.2)=(b.1-a.1)*(b'.1-a.1)+(b.2-a.2)*(b'.2-a.2):=by grind
 have hsq:(b.1-b'.1)*(b.1-b'.1)+(b.2-b'.2)*(b.2-b'.2)=((b.1-a.1)*(b.1-a.1)+(b.2-a.2)*(b.2-a.2))+((b'.1-a.1)*(b'.1-a.1)+(b'.2-a.2)*(b'.2-a.2))-2*((b'.1-a.1)*(b.1-a.1)+(b'.2-a.2)*(b.2-a.2)):=by grind
 have hprod:((b.1-a.1)*(b.1-a.1)+(b.2-a.2)*(b.2-a.2))*((b'.1-a.1)*(b'.1-a.1)+(b'.2-a.2)*(b'.2-a.2))=((b'.1-a.1)*(b.1-a.1)+(b'.2-a.2)*(b.2-a.2))*((b'.1-a.1)*(b.1-a.1)+(b'.2-a.2)*(b.2-a.2)):=by grind
 rw[←hc]at u'
 generalize (b.1-a.1)*(b.1-a.1)+(b.2-a.2)*(b.2-a.2)=D at *
 generalize (b'.1-a.1)*(b'.1-a.1)+(b'.2-a.2)*(b'.2-a.2)=D' at *
 generalize (b'.1-a.1)*(b.1-a.1)+(b'.2-a.2)*(b.2-a.2)=U at *
 have hU:0<U:=by
  rcases aaX 0 U with h|h
  ·exact h
  ·have:U=0:=by omega
   rw[this]at hprod
   have:=aaK hD hD'
   omega
 have a1:D≤U:=by
  rcases aaX U D with h|h
  ·have:=Int.mul_lt_mul_of_pos_right h hD'
   have:=Int.mul_le_mul_of_nonneg_left (show U≤D' by omega) (show 0≤U by omega)
   omega
  ·exact h
 have a2:D'≤U:=by
  rcases aaX U D' with h|h
  ·have:=Int.mul_lt_mul_of_pos_left h hD
   have:=Int.mul_le_mul_of_nonneg_right (show U≤D by omega) (show 0≤U by omega)
   omega
  ·exact h
 have zero:(b.1-b'.1)*(b.1-b'.1)+(b.2-b'.2)*(b.2-b'.2)≤0:=by omega
 by_cases hne:b'=b
 ·exact hne.symm
 ·have:=w9 hne
  omega
theorem Poly.same_all:∀k:Nat,cs[k % cs.length]? = cs'[k % cs'.length]?
 |0=>by
  obtain⟨a,ha⟩:=P.get 0
  obtain⟨a',ha'⟩:=P'.get 0
  rw[ha,ha']
  rw[Nat.zero_mod]at ha ha'
  rcases P.fst a ha a' (P'.sub a' (aaf ha')) with h|h
  ·rw[h]
  ·rcases P'.fst a' ha' a (P.sub a (aaf ha)) with h' | h'
   ·rw[h']
   ·exact(fm h h').elim
 |k+1=>by
  have ih:=Poly.same_all k
  obtain⟨a,ha⟩:=P.get k
  obtain⟨b,hb⟩:=P.get (k+1)
  obtain⟨b',hb'⟩:=P'.get (k+1)
  rw[hb,hb',P.same_next P' ha (by rw[←ih];exact ha) hb hb']
theorem Poly.unique:cs=cs':=by
 have n1:=P.three
 have n2:=P'.three
 have all:=P.same_all P'
 have one:∀{a b:List Pt},3≤a.length→3≤b.length→(∀k:Nat,a[k % a.length]? = b[k % b.length]?)→(∀k:Nat,0<k→k<b.length→b[k]?≠b[0]?)→b.length≤a.length:=fun {a b} h1 h2 h u=>by
  rcases aaj a.length b.length with q|q
  ·exfalso
   have e:=h a.length
   rw[Nat.mod_self,aaC q]at e
   have e0:=h 0
   rw[Nat.zero_mod,Nat.zero_mod]at e0
   exact u a.length (by omega) q (e.symm.trans e0)
  ·exact q
 have l1:=one n1 n2 all P'.uniq
 have l2:=one n2 n1 (fun k=>(all k).symm) P.uniq
 have e:cs.length=cs'.length:=by omega
 apply aaY
 intro k
 rcases aaj k cs.length with q|q
 ·have:=all k
  rwa [aaC q,aaC (by omega)]at this
 ·rw[aav q,aav (by omega)]
end
end HM
namespace HM
section
variable {cs l l':List Pt}
theorem Poly.nocol(P:Poly cs l):¬Col l:=fun hc=>by
 obtain⟨a,ha⟩:=P.get 0
 obtain⟨b,hb⟩:=P.get 1
 obtain⟨c,hd⟩:=P.get 2
 have:=P.turn 0 a b c ha hb hd
 have:=hc a (P.sub a (aaf ha)) b (P.sub b (aaf hb)) c (P.sub c (aaf hd))
 omega
theorem Poly.on(P:Poly cs l)(h1:∀q∈l',q∈l)(h2:∀p∈cs,p∈l'):Poly cs l':=
 ⟨P.three,h2,fun k a b ha hb q hq=>P.edge k a b ha hb q (h1 q hq),P.turn,fun f hf q hq=>P.fst f hf q (h1 q hq),P.uniq⟩
end
end HM
namespace G
open PySem PySem.Spec PyProof.Rows L2 GS HM
section
variable {X:Cx}{pins:List (Addr×Obj)}{τ:L2.St}{H:Hp}{s:Shared}
end
section
variable {X:Cx}
end
def eCh(g g':PV→PV→Res PV)(a b c:DE):DE:=fun σ=>(a σ).bind fun p=>(b σ).bind fun q=>(g p q).bind fun r=>(asB r).bind fun k=>if k=true then (c σ).bind fun t=>g' q t else .ok (.bl false)
section
variable {X:Cx}{H0 Hs0:Hp}{a b c:Expr}{da db dc:DE}{pos:Pos}
theorem yt{g g':PV→PV→Res PV}{τ:L2.St}{H:Hp}{Q:VK}(h:RE X H0 Hs0 (eCh g g' da db dc) τ H Q):
  RE X H0 Hs0 da τ H fun x H1=>RE X H0 Hs0 db τ H1 fun y H2=>∃Hs p q,aL Hs H2∧Rep X.K Hs x p∧Rep X.K Hs y q∧Ret X.K Hs H2 (g p q) (a8 X H0 Hs0) fun z H3=>∃k,z=.bl k ∧
   (if k=true then RE X H0 Hs0 dc τ H3 fun w H4=>∃Hs p q,aL Hs H4∧Rep X.K Hs y p∧Rep X.K Hs w q∧Ret X.K Hs H4 (g' p q) (a8 X H0 Hs0) Q else Q (.bl false) H3):=by
 obtain⟨Hs,σ,S,h⟩:=h
 refine⟨Hs,σ,S,Ret.mono (Ret.bind h) fun x H1 ⟨Hs1,p,g1,r1,h1⟩=>?_⟩
 refine⟨Hs1,σ,S.grow g1,Ret.mono (Ret.bind h1) fun y H2 ⟨Hs2,q,g2,r2,h2⟩=>?_⟩
 refine⟨Hs2,p,q,g2.i,r1.mono g2.s,r2,Ret.mono (Ret.bind h2) fun z H3 ⟨Hs3,rz,g3,r3,h3⟩=>?_⟩
 cases rz with
 |bl k=>
  refine⟨k,r3.bl_inv,?_⟩
  cases k with
  |true=>
   rw[if_pos rfl]
   have h4:Ret X.K Hs3 H3 ((dc σ).bind fun t=>g' q t) (a8 X H0 Hs0) Q:=h3
   exact⟨Hs3,σ,((S.grow g1).grow g2).grow g3,Ret.mono (Ret.bind h4) fun w H4 ⟨Hs4,t,g4,r4,h5⟩=>⟨Hs4,q,t,g4.i,(r2.mono g3.s).mono g4.s,r4,h5⟩⟩
  |false=>
   rw[if_neg (by decide)]
   have h4:Ret X.K Hs3 H3 (.ok (.bl false)) (a8 X H0 Hs0) Q:=h3
   exact h4 _ Hs3 H3 (.refl g3.i) (.bl false)
 |_=>exact h3.elim
theorem zA{op op':CmpOp}{g g':PV→PV→Res PV}(ho:OpP X (compareOp op) g)(ho':OpP X (compareOp op') g')(ha:QE X H0 Hs0 a da)(hb:QE X H0 Hs0 b db)(hc:QE X H0 Hs0 c dc)(hm:lastMarks [op,op'] [b,c]=false):
  QE X H0 Hs0 (.Compare a [op,op'] [b,c] pos) (eCh g g' da db dc):=PE.imp (wY (ho (a8 X H0 Hs0)) (ho' (a8 X H0 Hs0)) ha hb hc hm) fun τ H Q h=>yt h
theorem wm{op op':CmpOp}{g g':PV→PV→Res PV}(ho:OpP X (compareOp op) g)(ho':OpP X (compareOp op') g')(ha:QE X H0 Hs0 a da)(hb:QE X H0 Hs0 b db)(hc:QE X H0 Hs0 c dc)(hm:lastMarks [op,op'] [b,c]=false):
  QT X H0 Hs0 (.Compare a [op,op'] [b,c] pos) (tV (eCh g g' da db dc)):=PT.imp (wH (ho (a8 X H0 Hs0)) (ho' (a8 X H0 Hs0)) ha hb hc hm) fun τ H Q h=>yt (k7 h)
theorem xi{op op':CmpOp}(h:fN c=true):lastMarks [op,op'] [b,c]=false:=jr (op:=op') h
theorem Bq{op op':CmpOp}{g g':PV→PV→Res PV}(ho:OpP X (compareOp op) g)(ho':OpP X (compareOp op') g')(ha:XE X H0 Hs0 a da)(hb:XE X H0 Hs0 b db)(hc:XE X H0 Hs0 c dc)(hm:fN c=true:=by rfl):
  XE X H0 Hs0 (.Compare a [op,op'] [b,c] pos) (eCh g g' da db dc):=⟨zA ho ho' ha.h hb.h hc.h (xi hm)⟩
theorem yO{op op':CmpOp}{g g':PV→PV→Res PV}(ho:OpP X (compareOp op) g)(ho':OpP X (compareOp op') g')(ha:XE X H0 Hs0 a da)(hb:XE X H0 Hs0 b db)(hc:XE X H0 Hs0 c dc)(hm:fN c=true:=by rfl):
  XT X H0 Hs0 (.Compare a [op,op'] [b,c] pos) (tV (eCh g g' da db dc)):=⟨wm ho ho' ha.h hb.h hc.h (xi hm)⟩
end
section
variable {X:Cx}{H0 Hs0:Hp}{pos np apos cpos:Pos}{x:Str}
end
section
variable {prog:Program}{w:World}{A:Around}{R:Result→Shared→Prop}{s:Shared}{I l S:Addr}{items:Array Value}{ps:List Pt}{h₀:Heap}
end
section
variable {X:Cx}
end
def d7(f:PV→Res (Option PV)):List PV→Res (List PV)
 |[]=>.ok []
 |p::ps=>match f p,d7 f ps with
  |.ok o,.ok qs=>.ok (o.toList++qs)
  |_,_=>.stuck
def gF(g:DG)(tc:DT)(de:DE)(σ0:PSt)(p:PV):Res (Option PV):=match g p σ0 with
 |.ok σ1=>match tc σ1 with
  |.ok true=>match noErr (de σ1) with
   |.ok q=>.ok (some q)
   |_=>.stuck
  |.ok false=>.ok none
  |_=>.stuck
 |_=>.stuck
theorem jZ{f:PV→Res (Option PV)}{p:PV}{ps qs:List PV}(h:d7 f (p::ps)=.ok qs):∃o rs,f p=.ok o∧d7 f ps=.ok rs∧qs=o.toList++rs:=by
 unfold d7 at h
 split at h
 ·rename_i o rs h1 h2
  cases h
  exact⟨o,rs,h1,h2,rfl⟩
 ·cases h
theorem mq{f:PV→Res (Option PV)}:∀{ps qs:List PV},d7 f ps=.ok qs→qs.length≤ps.length
 |[],qs,h=>by cases h;exact gO _
 |p::ps,qs,h=>by
  obtain⟨o,rs,h1,h2,rfl⟩:=jZ h
  have:=mq h2
  rw[aai,iF]
  cases o with
  |none=>simp;omega
  |some q=>simp;omega
theorem ug{f:PV→Res (Option PV)}:∀{ps qs:List PV},d7 f ps=.ok qs→∀(i:Nat)(p:PV),ps[i]? = some p→∃o,f p=.ok o
 |[],qs,h,i,p,e=>by simp at e
 |p0::ps,qs,h,i,p,e=>by
  obtain⟨o,rs,h1,h2,rfl⟩:=jZ h
  cases i with
  |zero=>simp at e;subst e;exact⟨o,h1⟩
  |succ i=>exact ug h2 i p (by simpa using e)
theorem nR{f:PV→Res (Option PV)}{p:PV}{o:Option PV}(hf:f p=.ok o):∀{ps qs:List PV},d7 f ps=.ok qs→d7 f (ps++[p])=.ok (qs++o.toList)
 |[],qs,h=>by
  cases h
  show d7 f [p]=_
  unfold d7
  rw[hf]
  show Res.ok (o.toList++[])=_
  simp
 |p0::ps,qs,h=>by
  obtain⟨o',rs,h1,h2,rfl⟩:=jZ h
  have ih:=nR hf h2
  show d7 f (p0::(ps++[p]))=_
  unfold d7
  rw[h1,ih]
  simp
section
variable {X:Cx}{pins:List (Addr×Obj)}{H0 Hs0:Hp}{σ:PSt}{τ:L2.St}{tg elt iter cd:Expr}{scope:Scope}{pos:Pos}{cl:List (Str×Addr)}{N:List Str}{k:Nat}{ix:List Nat}{g:DG}{de:DE}{tc:DT}
theorem vx{Hs2 H2:Hp}{s2:Shared}{it:Addr}{fp:List Addr}{tn:Nat→Heap→Prop}{J:It}{ps qs:List PV}{h4:Heap}{t4:Nat}{RR:Result→Shared→Prop}
  (I2:Inv X pins τ H2 s2) (S2:SR X.K H0 Hs0 Hs2 H2 σ τ) (O:CompOk X scope cl N k ix) (hcalm:X.calm=true) (T:Turn X.prog X.w X.K tg J fp it tn) (st:tn 0 s2.heap) (fpok:∀b∈fp,fG X pins H2 b) (jok:JOk X.K J Hs2 ps)
  (hg:∀(C:Addr)(s:Shared)(H A B:Hp),QG (cxC X pins scope cl C N fp s H) A B tg g)
  (he:∀(C:Addr)(s:Shared)(H A B:Hp),QE (cxC X pins scope cl C N fp s H) A B elt de)
  (ht:∀(C:Addr)(s:Shared)(H A B:Hp),QT (cxC X pins scope cl C N fp s H) A B cd tc)
  (gk:∀p σ1,g p (inn k ix σ)=.ok σ1→(∀(j:Nat)(sv:SV),(inn k ix σ)[j]? = some (some sv)→σ1[j]? = some (some sv))∧σ1.length=(inn k ix σ).length)
  (hm:d7 (gF g tc de (inn k ix σ)) ps=.ok qs) (hl:ps.length≤10000000)
  (hns:h4.Ns (s2.heap.objs.size+1) (fun _=>none)) (hsb:∀b o,(s2.heap.push { cls:=.type "list",data:=.seq ([]:List Value).toArray }).get? b=some o→h4.get? b=some o)
  (hR:∀(s':Shared)(Hs' H':Hp)(vs:List V)(m:Str→Option Value),Inv X pins τ H' s'→SR X.K H0 Hs0 Hs' H' σ τ→aL Hs2 Hs'→Grow Hs2 H2 Hs' H'→H' s2.heap.objs.size=some (.lst vs)→Hs' s2.heap.objs.size=none→H2 s2.heap.objs.size=none→Reps X.K Hs' vs qs→s'.heap.Ns (s2.heap.objs.size+1) m →
   H' (s2.heap.objs.size+1)=none→RR (.ok .next) s'):
  codeAny (model X.prog X.w) X.A (.compStart (.ListComp elt [⟨tg,iter,[cd],0⟩] scope pos) 0 (.ref it) (.ref s2.heap.objs.size) (compEnvC scope cl (s2.heap.objs.size+1) X.env)) RR { s2 with heap:=h4,toks:=t4 }:=by
 have hD:H2 s2.heap.objs.size=none:=I2.hok.fresh (gO _)
 have hDs:Hs2 s2.heap.objs.size=none:=S2.g.i.free hD
 have I3:Inv X pins τ (upd H2 s2.heap.objs.size (.lst [])) { s2 with heap:=s2.heap.push { cls:=.type "list",data:=.seq ([]:List Value).toArray } }:=I2.lnew (its:=[]) (ys:=[]) (t':=s2.toks) .nil (by show 0≤sizeLine;exact aaH _)
 have hsz:(s2.heap.push { cls:=.type "list",data:=.seq ([]:List Value).toArray }).objs.size=s2.heap.objs.size+1:=aaT ..
 have fpl:∀b∈fp,∃o,s2.heap.get? b=some o:=fun b hb=>by obtain⟨o,e,_⟩:=T.obj _ _ st b hb;exact⟨o,e⟩
 have fpD:∀b∈fp,b≠s2.heap.objs.size:=fun b hb=>by obtain⟨o,e⟩:=fpl b hb;exact aab (iD e)
 have fpok3:∀b∈fp,fG X pins (upd H2 s2.heap.objs.size (.lst [])) b:=fun b hb=>⟨by rw[aj (fpD b hb)];exact(fpok b hb).1,(fpok b hb).2⟩
 have I4:=qv (h4:=h4) (t4:=t4) (fp:=fp) I3 O hcalm fpok3 (fun b hb=>by obtain⟨o,e⟩:=fpl b hb;exact abF (iD e) (by rw[hsz];exact aaP _)) (by rw[hsz];exact hns) hsb
 rw[hsz]at I4
 generalize hX:cxC X pins scope cl (s2.heap.objs.size+1) N fp { s2 with heap:=s2.heap.push { cls:=.type "list",data:=.seq ([]:List Value).toArray } } (upd H2 s2.heap.objs.size (.lst []))=X' at I4
 have eA:X'.A=X.A:=by rw[←hX]
 have eP:X'.prog=X.prog:=by rw[←hX]
 have ew:X'.w=X.w:=by rw[←hX]
 have eK:X'.K=X.K:=by rw[←hX]
 have eE:X'.env=compEnvC scope cl (s2.heap.objs.size+1) X.env:=by rw[←hX]
 have exe:X'.xe=fun _ _=>False:=by rw[←hX]
 have ecalm:X'.calm=true:=by rw[←hX];exact hcalm
 have emg:X'.mg=X.mg:=by rw[←hX]
 have ebase:X'.base=X.base:=by rw[←hX]
 have eN:X'.N=N:=by rw[←hX]
 have stat:∀{H':Hp},(∀b∈fp,H' b=none)→∀b∈fp,fG X' [] H' b:=fun {H'} hn b hb=>by
  obtain⟨f0,f1,f2,f3,f4,f5⟩:=fpok b hb
  have sub:=ie (cells:=X.env.cells) scope.names [] cl (fun x c e=>by cases e) O.clos
  obtain⟨o,e⟩:=fpl b hb
  refine⟨hn b hb,?_,?_,?_,fun x c ec=>?_,fun p hp=>?_⟩
  ·rw[eE];exact aab (aba (iD e))
  ·have:X'.fs=frs X.stack:=by rw[←hX]
   rw[this];exact kK I2 f1 f2
  ·exact .inl (by rw[←hX];exact hb)
  ·rw[eE]at ec;exact f4 x c (sub x c ec)
  ·have:p∈X.pn++pins:=by rw[←hX]at hp;simpa[cxC] using hp
   exact f5 p this
 have st4:tn 0 h4:=T.keep _ _ _ st fun b hb o e=>hsb _ _ (bY _ e)
 have S4:SR X.K H2 Hs2 Hs2 (upd H2 s2.heap.objs.size (.lst [])) (inn k ix σ) (jX k ix τ):=(S2.inn k ix).hid hDs hD gu
 have hlen:=mq hm
 have loop:∀s5:Shared,s5 = { s2 with heap:=h4,toks:=t4 }→codeAny (model X.prog X.w) X.A (.compLoop (.ListComp elt [⟨tg,iter,[cd],0⟩] scope pos) 0 (.ref it) (.ref s2.heap.objs.size) (compEnvC scope cl (s2.heap.objs.size+1) X.env)) RR s5:=by
  intro s5 hs5
  refine codeAny_loop rfl (fun n s'=>∃i τ' Hs' H' vs,n+i=ps.length∧Inv X' [] τ' H' s'∧tn i s'.heap∧(∀b∈fp,H' b=none)∧SR X.K H2 Hs2 Hs' H' (inn k ix σ) τ'∧H' s2.heap.objs.size=some (.lst vs)∧Hs' s2.heap.objs.size=none∧∃pre,d7 (gF g tc de (inn k ix σ)) (ps.take i)=.ok pre∧Reps X.K Hs' vs pre) ?_ ps.length
   ⟨0,jX k ix τ,Hs2,_,[],rfl,hs5▸I4,hs5▸st4,fun b hb=>by rw[aj (fpD b hb)];exact(fpok b hb).1,S4,ak,hDs,[],rfl,.nil⟩
  rintro n s6 ⟨i,τ6,Hs6,H6,vs,hni,I6,st6,fr6,S6,hD6,hDs6,pre,hpre,R6⟩
  show wpAny _ _ ((compTurn (.ListComp elt [⟨tg,iter,[cd],0⟩] scope pos) 0 (.ref it) (.ref s2.heap.objs.size) (compEnvC scope cl (s2.heap.objs.size+1) X.env)).onRaise (fun x=>do noteFrame x (compEnvC scope cl (s2.heap.objs.size+1) X.env);theTreesLotGoes x)) _ _ s6
  refine wpAny_noted ?_
  rw[compTurn_list]
  refine wpAny_bind (wpAny_standAt ?_)
  refine wpAny_noRaise ?_
  obtain⟨j1,j2⟩:=jok i H6 Hs6 S6.g.s S6.g.i
  change wpAny (model X.prog X.w) X.A _ _ _ s6
  by_cases hlt:i<ps.length
  ·obtain⟨go,yl⟩:=j1 hlt
   have hp':ps[i]? = some ps[i]:=dO hlt
   obtain⟨o,hf⟩:=ug hm i ps[i] hp'
   have hsnoc:d7 (gF g tc de (inn k ix σ)) (ps.take (i+1))=.ok (pre++o.toList):=by rw[List.take_add_one,hp'];exact nR hf hpre
   have hprel:=mq hpre
   have TI:=T.item X' eP ew eK ecalm i [] s6 τ6 H6 (fun _ _=>False) I6 (stat fr6) st6 go
   rw[eA]at TI
   refine wpAny_bind (thn TI fun r s7 ⟨u,hr,h7⟩=>?_)
   subst hr
   refine wpAny_bind (thn h7 fun _ s8 ⟨x,H8,I8,r8,y8,st8,fr8⟩=>?_)
   obtain⟨rfl,p,ep,rp⟩:=yl x H8 y8
   have ep':ps[i]=p:=by rw[hp']at ep;exact Option.some.inj ep
   subst ep'
   have I8':=I8.pinned (stat fr8) (T.obj _ _ st8)
   unfold gF at hf
   have hg':QG X' H8 Hs6 tg g:=hX▸hg _ _ _ H8 Hs6
   have he':QE X' H8 Hs6 elt de:=hX▸he _ _ _ H8 Hs6
   have ht':QT X' H8 Hs6 cd tc:=hX▸ht _ _ _ H8 Hs6
   have S8:SR X.K H8 Hs6 Hs6 H8 (inn k ix σ) τ6:=S6.base' gu (.refl S6.g.i)
   cases eg:g ps[i] (inn k ix σ) with
   |ok σ1=>
    rw[eg]at hf
    dsimp only at hf
    obtain⟨w1,w2⟩:=gk _ _ eg
    have hgr:=hg' _ s8 τ6 H8 x u (fun τ9 H9=>∃Hs9,SR X.K H8 Hs6 Hs9 H9 σ1 τ9) I8' r8 ⟨Hs6,inn k ix σ,ps[i],eK▸S8,eK▸(rp.mono S6.g.s),by
     rw[eg]
     exact fun Hs' H' τ' e S'=>⟨Hs',eK▸S'⟩⟩
    rw[eP,ew,eA,eE,exe]at hgr
    refine wpAny_bind (thn hgr fun _ s9 ⟨τ9,H9,I9,Hs9,S9⟩=>?_)
    cases et:tc σ1 with
    |ok b=>
     rw[et]at hf
     have htr:=ht' _ s9 τ9 H9 (fun b' H10=>b'=b∧∃Hs10,Grow Hs9 H9 Hs10 H10) I9 ⟨Hs9,σ1,eK▸S9,by
      rw[et]
      exact fun Hs' H' g'=>⟨rfl,Hs',g'⟩⟩
     rw[eP,ew,eA,eE,exe]at htr
     refine wpAny_bind (wpAny_tests_one (thn htr fun b' s10 ⟨H10,I10,eb,Hs10,g10⟩=>?_))
     subst eb
     have g6:Grow Hs6 H8 Hs10 H10:=S9.g.trans g10
     have hD10:H10 s2.heap.objs.size=some (.lst vs):=g6.h _ _ hD6
     have hDs10:Hs10 s2.heap.objs.size=none:=g6.o _ (by rw[hD6];exact fun z=>by cases z) hDs6
     cases b' with
     |true=>
      dsimp only at hf
      cases ev:noErr (de σ1) with
      |ok q=>
       rw[ev]at hf
       have ho:o=some q:=by cases hf;rfl
       subst ho
       have he2:QE X' H8 Hs6 elt de:=he'
       have S10:SR X.K H8 Hs6 Hs10 H10 σ1 τ9:=S9.grow g10
       have her:=he2 _ s10 τ9 H10 (fun y H11=>∃Hs11,Grow Hs10 H10 Hs11 H11∧Rep X.K Hs11 y q) I10 ⟨Hs10,σ1,eK▸S10,by
        rw[qf ev]
        exact fun v Hs' H' g' r'=>⟨Hs',g',eK▸r'⟩⟩
       rw[eP,ew,eA,eE,exe]at her
       simp only[if_true]
       refine wpAny_bind (wpAny_bind (thn her fun y s11 ⟨y',H11,I11,ry,Hs11,g11,rq⟩=>?_))
       have g7:Grow Hs6 H8 Hs11 H11:=g6.trans g11
       have hD11:H11 s2.heap.objs.size=some (.lst vs):=g7.h _ _ hD6
       have hDs11:Hs11 s2.heap.objs.size=none:=g7.o _ (by rw[hD6];exact fun z=>by cases z) hDs6
       have hvl:vs.length<sizeLine:=by
        rw[R6.length,sizeLine_eq]
        rw[aaD]at hprel
        omega
       have hap:=iE (X:=X') _ s11 τ9 H11 (.ref s2.heap.objs.size) [y'] (.ref s2.heap.objs.size) [y] (fun _ H'=>H'=upd H11 s2.heap.objs.size (.lst (vs++[y']))) I11 rfl (.cons ry .nil) ⟨_,vs,y',rfl,rfl,hD11,hvl,rfl⟩
       rw[eP,ew,eA,exe]at hap
       refine wpAny_bind (thn hap fun _ s12 ⟨_,H12,I12,_,eH⟩=>wpAny_pure (wpAny_pure ⟨rfl,n-1,by omega,i+1,τ9,Hs11,H12,vs++[y'],by omega,I12.unpinned,?_,?_,?_,?_,hDs11,_,hsnoc,?_⟩))
       ·exact T.keep _ _ _ st8 fun b hb o e=>(I12.pin (b,o) (tO _ (tO _ (bS hb e)))).1
       ·intro b hb
        obtain⟨o,e,_⟩:=T.obj _ _ st8 b hb
        exact(I12.pin (b,o) (tO _ (tO _ (bS hb e)))).2.1
       ·subst eH
        exact(((S10.weak w1 w2.symm).grow g11).base' gu (S6.g.trans g7)).hid hDs11 hD gu
       ·subst eH;exact ak
       ·exact(R6.mono g7.s).append (.cons rq .nil)
      |err c=>rw[ev]at hf;cases hf
      |stuck=>rw[ev]at hf;cases hf
     |false=>
      have ho:o=none:=by cases hf;rfl
      subst ho
      simp only[iN,if_false]
      refine wpAny_bind (wpAny_pure (wpAny_pure ⟨rfl,n-1,by omega,i+1,τ9,Hs10,H10,vs,by omega,I10.unpinned,?_,?_,?_,hD10,hDs10,_,hsnoc,?_⟩))
      ·exact T.keep _ _ _ st8 fun b hb o e=>(I10.pin (b,o) (tO _ (tO _ (bS hb e)))).1
      ·intro b hb
       obtain⟨o,e,_⟩:=T.obj _ _ st8 b hb
       exact(I10.pin (b,o) (tO _ (tO _ (bS hb e)))).2.1
      ·exact((S9.weak w1 w2.symm).grow g10).base' gu (S6.g.trans g6)
      ·simpa using R6.mono g6.s
    |err c=>rw[et]at hf;cases hf
    |stuck=>rw[et]at hf;cases hf
   |err c=>rw[eg]at hf;cases hf
   |stuck=>rw[eg]at hf;cases hf
  ·have TD:=T.done X' eP ew eK ecalm i [] s6 τ6 H6 (fun _ _=>False) I6 (stat fr6) st6 (j2 (by omega))
   rw[eA]at TD
   refine wpAny_bind (thn TD fun r s7 ⟨hr,I7⟩=>?_)
   subst hr
   refine wpAny_pure ?_
   have hfull:ps.take i=ps:=aa4 (by omega)
   rw[hfull,hm]at hpre
   have epre:qs=pre:=by cases hpre;rfl
   subst epre
   obtain⟨m,hm7,_⟩:=I7.loc
   have hfree:=I7.free
   have hos:=I7.os
   have hun:=I7.base
   have hok:=I7.hok
   rw[eE]at hm7 hfree
   rw[eP,ew]at hok
   rw[←hX]at hos hun
   have I9:Inv X pins τ H6 s7:=I3.call' (ch:=fp) hos hun hok I7.bare fun b hb=>by
    obtain⟨f0,f1,f2,f3,f4,f5⟩:=fpok b hb
    exact⟨f3,f1,f4,f5⟩
   exact hR s7 Hs6 H6 vs m I9 (S2.grow S6.g) S6.g.s S6.g hD6 hDs6 hD R6 hm7 hfree
 exact codeAny_compStart_list (loop _ rfl) (T.self _ _ _ _ _ st4 (loop _ rfl))
variable {d:DI}
structure BlkOkI (X:Cx) (tg elt cd:Expr) (scope:Scope) (cl:List (Str×Addr)) (N:List Str) (k:Nat) (ix:List Nat) (g:DG) (tc:DT) (de:DE):Prop where
 O:CompOk X scope cl N k ix
 calm:X.calm=true
 hg:∀(pins:List (Addr×Obj))(fp:List Addr)(C:Addr)(s:Shared)(H A B:Hp),QG (cxC X pins scope cl C N fp s H) A B tg g
 he:∀(pins:List (Addr×Obj))(fp:List Addr)(C:Addr)(s:Shared)(H A B:Hp),QE (cxC X pins scope cl C N fp s H) A B elt de
 ht:∀(pins:List (Addr×Obj))(fp:List Addr)(C:Addr)(s:Shared)(H A B:Hp),QT (cxC X pins scope cl C N fp s H) A B cd tc
 gk:∀σ p σ1,g p (inn k ix σ)=.ok σ1→(∀(j:Nat)(sv:SV),(inn k ix σ)[j]? = some (some sv)→σ1[j]? = some (some sv))∧σ1.length=(inn k ix σ).length
def uo(d:DI)(g:DG)(tc:DT)(de:DE)(k:Nat)(ix:List Nat):PSt→Res (List PV):=fun σ=>(d σ).bind fun ps=>match d7 (gF g tc de (inn k ix σ)) ps with
 |.ok qs=>if ps.length≤10000000 then .ok qs else .stuck
 |_=>.stuck
theorem Hf{E:Value→Shared→Prop}{Hs2 H2:Hp}{s2:Shared}{it:Addr}{fp:List Addr}{tn:Nat→Heap→Prop}{J:It}{ps qs:List PV}{RR:Value→Addr→Result→Shared→Prop}
  (B:BlkOkI X tg elt cd scope cl N k ix g tc de) (I2:Inv X pins τ H2 s2) (S2:SR X.K H0 Hs0 Hs2 H2 σ τ) (T:Turn X.prog X.w X.K tg J fp it tn) (st:tn 0 s2.heap) (fpok:∀b∈fp,fG X pins H2 b) (jok:JOk X.K J Hs2 ps)
  (hm:d7 (gF g tc de (inn k ix σ)) ps=.ok qs) (hl:ps.length≤10000000)
  (hR:∀(s':Shared)(Hs' H':Hp)(vs:List V)(D C:Addr)(m:Str→Option Value),Inv X pins τ H' s'→SR X.K H0 Hs0 Hs' H' σ τ→aL Hs2 Hs'→Grow Hs2 H2 Hs' H'→H' D=some (.lst vs)→Hs' D=none→H2 D=none→Reps X.K Hs' vs qs→s'.heap.Ns C m →
   fG X pins H' C→RR (.ref D) C (.ok .next) s'):
  wpAny (model X.prog X.w) X.A (newList []) (fun acc s3=>wpAny (model X.prog X.w) X.A (newFunctionEnv scope X.env.globals cl [] X.env.qual none .none (some X.env)) (fun cenv s4=>
   codeAny (model X.prog X.w) X.A (.compStart (.ListComp elt [⟨tg,iter,[cd],0⟩] scope pos) 0 (.ref it) acc { cenv with scope:=relabel scope X.env }) (RR acc cenv.locals) s4) E s3) E s2:=by
 refine wpAny_newObj_type (wpAny_newFunctionEnv B.O.nocell (by intro y hy;simp at hy) (fun h1 hns1 hsb1=>?_) B.O.kind)
 dsimp only at hns1 hsb1 ⊢
 have hsz:(s2.heap.push { cls:=.type "list",dict:=none,data:=.seq ([]:List Value).toArray }).objs.size=s2.heap.objs.size+1:=aaT ..
 rw[hsz]at hns1 hsb1 ⊢
 refine vx (t4:=s2.toks+0) I2 S2 B.O B.calm T st fpok jok (B.hg pins fp) (B.he pins fp) (B.ht pins fp) (B.gk σ) hm hl hns1 (fun b o e=>?_) (fun s' Hs' H' vs m I' S' e' gr h1' h2' h3' h4' h5' h6'=>?_)
 ·exact hsb1.extBut b o (aab (by have:=iD e;rw[hsz]at this;exact this)) (bY _ e)
 ·exact hR s' Hs' H' vs _ _ m I' S' e' gr h1' h2' h3' h4' h5' (I2.fpOk (Nat.le_succ _) h6')
theorem D5{xs:List Str}(own:List Str)(c:CapOk X scope ix xs)(k:GK own.length g)(hg:∀(pins:List (Addr×Obj))(fp:List Addr)(C:Addr)(s:Shared)(H A B:Hp),(cxC X pins scope (jc X scope) C (own++xs) fp s H).N.Nodup→XG (cxC X pins scope (jc X scope) C (own++xs) fp s H) A B tg g)
  (he:∀(pins:List (Addr×Obj))(fp:List Addr)(C:Addr)(s:Shared)(H A B:Hp),(cxC X pins scope (jc X scope) C (own++xs) fp s H).N.Nodup→XE (cxC X pins scope (jc X scope) C (own++xs) fp s H) A B elt de)
  (ht:∀(pins:List (Addr×Obj))(fp:List Addr)(C:Addr)(s:Shared)(H A B:Hp),(cxC X pins scope (jc X scope) C (own++xs) fp s H).N.Nodup→XT (cxC X pins scope (jc X scope) C (own++xs) fp s H) A B cd tc)
  (hk:scope.kind=.function:=by rfl) (hs:jj scope:=by decide +kernel) (hX:X.env.scope.kind=.function:=by rfl) (hc:(eJ X.env.cells scope.names []).isSome=true:=by rfl) (hn:(own++xs).Nodup:=by decide) (hcalm:X.calm=true:=by rfl):
  BlkOkI X tg elt cd scope (jc X scope) (own++xs) own.length ix g tc de:=
 ⟨yn hk hs hX hc hn c,hcalm,fun pins fp C s H A B=>(hg pins fp C s H A B hn).h,fun pins fp C s H A B=>(he pins fp C s H A B hn).h,fun pins fp C s H A B=>(ht pins fp C s H A B hn).h,fun σ p σ1 e=>k.h ix σ p σ1 e⟩
theorem Fw{α:Type}{f:PV→Res (Option PV)}{u:α→PV}{v:α→Option PV}{xs:List α}(h:∀x∈xs,f (u x)=.ok (v x)):d7 f (xs.map u)=.ok (xs.filterMap v):=by
 induction xs with
 |nil=>rfl
 |cons x xs ih=>
  show d7 f (u x::xs.map u)=_
  unfold d7
  rw[h x (.head _),ih fun y hy=>h y (.tail _ hy)]
  show Res.ok ((v x).toList++xs.filterMap v)=_
  rw[aa2]
  cases v x with
  |none=>rfl
  |some q=>rfl
end
def Bf:List Value→List Int→Bool
 |[],[]=>true
 |.int i _::us,n::ns=>decide (i=n)&&Bf us ns
 |_,_=>false
def Fh(K:aT)(C:Addr)(ns:List Int):Bool:=match K.lookup C with
 |some ⟨.type "tuple",_,.seq its _,_⟩=>decide (its.size≤100)&&Bf its.toList ns
 |_=>false
structure ConAt (K:aT) (x:Str) (ns:List Int):Prop where
 ex:∃C:Addr,aC K x C∧Fh K C ns=true
section
variable {X:Cx}{H0 Hs0:Hp}{x:Str}{pos:Pos}{ns:List Int}
end
end G
namespace GS
open PySem
namespace FD
end FD
section
variable {prog:Program}{w:World}{A:Around}{E:Value→Shared→Prop}{s:Shared}
end
end GS
namespace GS
open PySem PySem.W PySem.Calls PyProof.Rows
def nh(h:Heap)(d:Addr)(es:Array DictEntry)(ep:Nat):Prop:=∃o,h.get? d=some o∧o.ExactDict∧o.data=.dict es ep
theorem nh.ty {s:Shared} {d:Addr} {es:Array DictEntry} {ep:Nat} (x:nh s.heap d es ep):s.TypeIs (.ref d) "dict":=let⟨o,ho,hc,_⟩:=x;⟨o,ho,hc.1⟩
theorem nh.lt{h:Heap}{d:Addr}{es:Array DictEntry}{ep:Nat}(x:nh h d es ep):d<h.objs.size:=let⟨_,ho,_⟩:=x;iD ho
theorem nh.at{h h':Heap}{d:Addr}{es:Array DictEntry}{ep:Nat}(x:nh h d es ep)(hk:∀o,h.get? d=some o→h'.get? d=some o):nh h' d es ep:=let⟨o,ho,r⟩:=x;⟨o,hk o ho,r⟩
section
variable {prog:Program}{w:World}{A:Around}{E:Value→Shared→Prop}{s:Shared}{it d:Addr}{es:Array DictEntry}{ep i:Nat}
theorem wg{Q:Value→Shared→Prop}(hd:(d==sysModules)=false)(hm:nh s.heap d es ep)
  (hQ:Q (.ref s.heap.objs.size) { s with heap:=s.heap.push { cls:=.type "dict_keyiterator",data:=.fields #[.ref d,.int 0 0,.int es.size 0,.int ep 0] } }):wpAny (model prog w) A (pyIter (.ref d)) Q E s:=by
 have hT:=hm.ty
 obtain⟨o,ho,hc,hdat⟩:=id hm
 refine wpAny_pyIter_slot hT PySem.F.slot_dict_iter (wpAny_call_entry PySem.F.slot_dict_iter hT PySem.F.entry_dict_iter ?_ (PySem.F.args_dict_iter_1 _))
 unfold Builtin.«dict.__iter__» Builtin.Dict.dictSlotNone
 refine wpAny_bind (wpAny_bind (wpAny_notOrdered_dict hT ?_))
 change wpAny _ _ (pure (Value.ref d)) _ _ s
 refine wpAny_pure ?_
 change wpAny _ _ (Builtin.Dict.showsAll d >>= _) _ _ s
 unfold Builtin.Dict.showsAll
 rw[if_neg (by rw[hd];exact aa7)]
 refine wpAny_bind (wpAny_pure (wpAny_bind (wpAny_dictEntries ho hdat (wpAny_bind (wpAny_dictEpoch ho hdat ?_)))))
 exact wpAny_bind (wpAny_newObj_type (wpAny_pure ⟨_,rfl,"dict_keyiterator",_,⟨_,lE _ rfl,rfl⟩,PySem.F.slot_dict_keyiterator_next.lookup,hQ⟩))
theorem wj{e:DictEntry}{Q:Option Value→Shared→Prop}(hit:s.heap.IsKeyIter it d i es.size ep)(hm:nh s.heap d es ep)(hx:es[i]? = some e)
  (hQ:∀h',h'.IsKeyIter it d (i+1) es.size ep→Heap.SameBut it s.heap h'→Q (some e.key) { s with heap:=h' }):wpAny (model prog w) A (pyNext (.ref it)) Q E s:=by
 obtain⟨o,ho,hc,hd⟩:=id hit
 obtain⟨od,hod,hcd,hdd⟩:=id hm
 have T:=hit.typeIs
 unfold pyNext
 refine wpAny_bind (wpAny_attempt (wpAny_callSpecial?_slot (name:=Str.ofString "__next__") T PySem.F.slot_dict_keyiterator_next (wpAny_call_entry PySem.F.slot_dict_keyiterator_next T PySem.F.entry_dict_keyiterator_next ?_ (PySem.F.args_dict_keyiterator_next_1 _))))
 refine wpAny_bind (wpAny_pure (wpAny_bind (wpAny_bind ?_)))
 first | refine wpAny_bind (wpAny_typeNameOfWhole_keyiter T (wpAny_pure (wpAny_bind (wpAny_fieldsOf ho hd ?_)))) | refine wpAny_bind (wpAny_typeNameOf_keyiter T (wpAny_pure (wpAny_bind (wpAny_fieldsOf ho hd ?_))))
 simp only[show Builtin.Dict_items.ownsTuple "dict_keyiterator" = false by decide,iN,if_false]
 change wpAny _ _ (if (Value.ref d==Value.none)=true then _ else _) _ _ s
 rw[if_neg (fun z=>absurd z (by exact aa7))]
 refine wpAny_bind (wpAny_pure (wpAny_bind (wpAny_dictEntries hod hdd ?_)))
 rw[if_neg (by simp)]
 refine wpAny_bind (wpAny_pure (wpAny_bind (wpAny_dictEpoch hod hdd ?_)))
 rw[if_neg (by simp)]
 refine wpAny_pure ?_
 have lt:i<es.size:=(Array.getElem?_eq_some_iff.mp hx).1
 simp only[show ¬((i:Int)<0) from by omega,if_false,abC,hx]
 refine wpAny_bind ?_
 first | refine wpAny_bind (wpAny_typeNameOfWhole_keyiter T (wpAny_pure (wpAny_bind (wpAny_isOneOf_keyiter T ?_)))) | refine wpAny_bind (wpAny_typeNameOf_keyiter T (wpAny_pure (wpAny_bind (wpAny_isOneOf_keyiter T ?_))))
 change wpAny _ _ (setField (.ref it) 1 (rawInt ((i:Int)+1)) >>= _) _ _ s
 have next:(s.heap.update it (Obj.mapFields (·.setIfInBounds 1 (rawInt ((i:Int)+1))))).IsKeyIter it d (i+1) es.size ep:=
  ⟨_,aaA _ ho (Obj.isFreed_of_fields (Obj.data_mapFields hd _)),(Obj.cls_mapFields ..).trans hc,by rw[Obj.data_mapFields hd];simp[rawInt]⟩
 refine wpAny_bind (wpAny_setField ho hd (by simp) (wpAny_bind (wpAny_holding ?_)))
 refine wpAny_bind (wpAny_isOneOf_keyiter (s:={ s with heap:=s.heap.update it (Obj.mapFields (·.setIfInBounds 1 (rawInt ((i:Int)+1)))) }) next.typeIs ?_)
 change wpAny _ _ (pure e.key) _ _ _
 exact wpAny_pure (wpAny_pure ⟨_,rfl,wpAny_pure (hQ _ next (Heap.SameBut.update ..))⟩)
theorem zk{Q:Option Value→Shared→Prop}(hh:A.handled=none)(hit:s.heap.IsKeyIter it d es.size es.size ep)(hm:nh s.heap d es ep)(hQ:∀h',Heap.ExtBut it s.heap h'→Q none { s with heap:=h' }):wpAny (model prog w) A (pyNext (.ref it)) Q E s:=by
 obtain⟨o,ho,hc,hd⟩:=id hit
 obtain⟨od,hod,hcd,hdd⟩:=id hm
 have T:=hit.typeIs
 unfold pyNext
 refine wpAny_bind (wpAny_attempt (wpAny_callSpecial?_slot (name:=Str.ofString "__next__") T PySem.F.slot_dict_keyiterator_next (wpAny_call_entry PySem.F.slot_dict_keyiterator_next T PySem.F.entry_dict_keyiterator_next ?_ (PySem.F.args_dict_keyiterator_next_1 _))))
 refine wpAny_bind (wpAny_pure (wpAny_bind (wpAny_bind ?_)))
 first | refine wpAny_bind (wpAny_typeNameOfWhole_keyiter T (wpAny_pure (wpAny_bind (wpAny_fieldsOf ho hd ?_)))) | refine wpAny_bind (wpAny_typeNameOf_keyiter T (wpAny_pure (wpAny_bind (wpAny_fieldsOf ho hd ?_))))
 simp only[show Builtin.Dict_items.ownsTuple "dict_keyiterator" = false by decide,iN,if_false]
 change wpAny _ _ (if (Value.ref d==Value.none)=true then _ else _) _ _ s
 rw[if_neg (fun z=>absurd z (by exact aa7))]
 refine wpAny_bind (wpAny_pure (wpAny_bind (wpAny_dictEntries hod hdd ?_)))
 rw[if_neg (by simp)]
 refine wpAny_bind (wpAny_pure (wpAny_bind (wpAny_dictEpoch hod hdd ?_)))
 rw[if_neg (by simp)]
 refine wpAny_pure ?_
 simp only[show ¬((es.size:Int)<0) from by omega,if_false,abC,aap (gO _)]
 refine wpAny_bind ?_
 first | refine wpAny_bind (wpAny_typeNameOfWhole_keyiter T (wpAny_pure ?_)) | refine wpAny_bind (wpAny_typeNameOf_keyiter T (wpAny_pure ?_))
 change wpAny _ _ (setField (.ref it) 0 .none >>= _) _ _ s
 refine wpAny_bind (wpAny_setField ho hd (by simp) ?_)
 change wpAny _ _ (newExc (.type "StopIteration") [] >>= _) _ _ _
 refine wpAny_bind ?_
 simp only[newExc,newTuple]
 refine wpAny_bind (wpAny_newObj_type (wpAny_bind (m:=firstArgMember _ _) (wpAny_of_eq (a:=Value.none) (by first|rfl | (simp only[firstArgMember];rfl)) (wpAny_newObj_type ?_ (by size_fits)))) (by size_fits))
 simp only[raiseNew]
 refine wpAny_bind (wpAny_handled ?_)
 rw[show A.in1.handled=none from hh]
 refine wpAny_bind (wpAny_pure (wpAny_throw ?_))
 refine wpAny_bind (wpAny_isInstance (T:="StopIteration") (b:=true) ⟨_,lE _ rfl,rfl⟩ isSubtype_stop ?_)
 exact wpAny_pure (hQ _ (((Heap.SameBut.update ..).extBut.push _).push _))
theorem we(hh:A.handled=none)(I d:Addr)(hne:d≠I)(es:Array DictEntry)(ep:Nat):
  Walks prog w A I [I,d] [I] es.size (fun i v=>∃e,es[i]? = some e∧v=e.key) (fun i h=>h.IsKeyIter I d i es.size ep∧nh h d es ep) where
 sub:=fun b hb=>by simp at hb;simp[hb]
 frame:=fun _ _ _ st hk=>⟨st.1.at fun o e=>hk I (by simp) o e,st.2.at fun o e=>hk d (by simp) o e⟩
 item:=fun i s Q E hi st hQ=>by
  refine wj st.1 st.2 (aac hi) fun h' hit' hs'=>?_
  exact hQ _ h' s.toks ⟨_,aac hi,rfl⟩ ⟨hit',st.2.at fun o e=>hs'.extBut d o hne e⟩ fun b o hb e=>hs'.extBut b o (fun h=>hb (by simp[h])) e
 done:=fun s Q E st hQ=>zk hh st.1 st.2 fun h' he'=>hQ h' s.toks fun b o hb e=>he' b o (fun h=>hb (by simp[h])) e
 self:=fun _ _ _ _ st hQ=>wpAny_pyIter_keyiter st.1 hQ
theorem zj (lo:(d==sysModules)=false):KdlSrc prog w "dict" d d es.size (fun i v=>∃e,es[i]? = some e∧v=e.key) (fun h=>nh h d es ep) where
 type:=fun _ hm=>hm.ty
 there:=fun _ hm=>⟨hm.lt,hm.lt⟩
 keep:=fun _ _ hm hk=>hm.at fun o e=>hk d (.inl rfl) o e
 notList:=by decide
 notTuple:=by decide
 hint:=fun _ _ _ _ hm hq=>kdl_hint_dict hm.ty hq
 iter:=fun _ _ hh hm=>⟨_,_,(fun _ _ hq=>wg lo hm hq),we hh _ d (aab hm.lt) es ep,⟨⟨_,lE _ rfl,rfl,rfl⟩,hm.at fun o e=>bY _ e⟩⟩
end
end GS
namespace G
open PySem PySem.Spec PyProof.Rows L2 GS HM
section
variable {X:Cx}{pins:List (Addr×Obj)}{τ:L2.St}{H:Hp}{s:Shared}
end
section
variable {X:Cx}{H0 Hs0:Hp}{a:Expr}{da:DE}{p p2 pos pos2:Pos}
end
section
variable {X:Cx}{H0 Hs0:Hp}{a:Expr}{da:DE}{pos pos':Pos}{x:Str}
end
end G
namespace HM
inductive Comb (L:List (Int×Int×Int)):Int→Int→Int→Prop where
 |mem {a b c:Int}:(a,b,c)∈L→Comb L a b c
 |add {a b c a' b' c' k k':Int}:0<k→0<k'→Comb L a b c→Comb L a' b' c'→Comb L (k*a+k'*a') (k*b+k'*b') (k*c+k'*c')
end HM
namespace G
open PySem PySem.Spec PyProof.Rows L2 GS HM
section
variable {X:Cx}{H0 Hs0:Hp}{a b:Expr}{da db:DE}{pos:Pos}
def og:List PV→Res PV
 |[.str x]=>if x.length≤10000000 then .ok (.int x.length) else .stuck
 |_=>.stuck
theorem AG:f6 X (.builtin "len") og:=by
 intro EO pins s σ H xs us Q I r h
 obtain⟨Hs,ps,i,rp,h⟩:=h
 unfold og at h
 split at h
 ·split at h
  ·rename_i hl
   obtain⟨v,rfl,r1⟩:=rp.one_inv
   cases r1.str_inv
   exact pC pins s σ H _ us Q I r ⟨_,rfl,by rw[sizeLine_eq];omega,b8 h i⟩
  ·exact h.elim
 ·exact h.elim
end
section
variable {X:Cx}{H0 Hs0:Hp}{a b:Expr}{da db:DE}{pos:Pos}
end
section
variable {X:Cx}{H0 Hs0:Hp}{a b:Expr}{da db:DE}{pos apos cpos:Pos}
theorem nC{K:aT}{H:Hp}:∀xs:List Str,Reps K H (xs.map V.str) (xs.map PV.str)
 |[]=>.nil
 |x::xs=>.cons (.str x) (nC xs)
end
def Itx(x:Str):It where
 go:=fun i _=>i<x.cps.size
 yld:=fun i H v H'=>H'=H∧∃c,x.cps[i]? = some c∧v=.str ⟨#[c]⟩
 stop:=fun i _=>x.cps.size≤i
theorem nr {P:Program} {w:World} {K:aT} {tg:Expr} (it:Addr) (x:Str) (t:Tok) (T:String) (hn:["enumerate","zip","dict_itemiterator","dict_reverseitemiterator","odict_iterator","itertools.zip_longest","itertools.pairwise"].contains T=false)
  (W:∀A:Around,A.handled=none→Walks P w A it [it] [it] x.cps.size (SignAt x) (fun i h=>h.IsStrIter it T x t i))
  (hend:∀(A:Around)(s:Shared)(i:Nat)(Q:Option Value→Shared→Prop)(E:Value→Shared→Prop),A.handled=none→s.heap.IsStrIter it T x t i→x.cps[i]? = none→(∀h',Heap.ExtBut it s.heap h'→Q none { s with heap:=h' })→wpAny (model P w) A (pyNext (.ref it)) Q E s)
  (hself:∀(A:Around)(i:Nat)(s:Shared)(Q:Value→Shared→Prop)(E:Value→Shared→Prop),s.heap.IsStrIter it T x t i→Q (.ref it) s→wpAny (model P w) A (pyIter (.ref it)) Q E s):
  Turn P w K tg (Itx x) [it] it (fun i h=>h.IsStrIter it T x t i) where
 mem:=by simp
 obj:=fun i h st b hb=>by
  have e:b=it:=by simpa using hb
  subst e
  obtain⟨o,ho,hc,hd⟩:=st
  exact⟨o,ho,fun v z=>by rw[hd]at z;cases z⟩
 keep:=fun i h h' st k=>by
  obtain⟨o,ho,hc,hd⟩:=st
  exact⟨o,k it (by simp) _ ho,hc,hd⟩
 item:=by
  intro X hP hw hK hc i pins s σ H E I hf st hg
  subst hP hw hK
  obtain⟨f0,f1,f2,f3,f4,f5⟩:=hf it (by simp)
  refine(W X.A (I.ok.hd hc)).item i s _ _ hg st fun v h' tk hv st' kk=>?_
  obtain⟨c,u,hcx,rfl⟩:=hv
  have I1:Inv X pins σ H { s with heap:=h',toks:=tk }:=I.turned (fun b o hb e=>kk b o (by simpa using hb) e) f0 f1 f3 f4 f5
  obtain⟨o,ho,hcl,hd⟩:=id st'
  exact⟨_,rfl,qA (s:={ s with heap:=h',toks:=tk }) (n:=T) ho hcl hd hn ⟨.str ⟨#[c]⟩,H,I1,⟨u,rfl⟩,⟨rfl,c,hcx,rfl⟩,st',fun b hb=>(hf b hb).1⟩⟩
 done:=by
  intro X hP hw hK hc i pins s σ H E I hf st hg
  subst hP hw hK
  obtain⟨f0,f1,f2,f3,f4,f5⟩:=hf it (by simp)
  exact hend X.A s i _ _ (I.ok.hd hc) st (by have:x.cps.size≤i:=hg;simp[this]) fun h' eb=>⟨rfl,I.turned (t':=s.toks) (fun b o hb e=>eb b o hb e) f0 f1 f3 f4 f5⟩
 self:=fun A i s Q E st h=>hself A i s Q E st h
section
variable {X:Cx}{H0 Hs0:Hp}{a tg:Expr}{da:DE}
def GW(tl:TE):TI:=fun σ H R=>tl σ H fun x H1=>∃z,x=.str z∧R (Itx z) H1
theorem Ci{l:Expr}{tl:TE}(hl:PE X l tl):PI X tg l (GW tl):=by
 intro pins s σ H R I h
 refine thn (hl pins s σ H _ I h) fun v s1 ⟨x,H1,I1,r1,q1⟩=>?_
 obtain⟨z,rfl,q⟩:=q1
 obtain⟨t,rfl⟩:=r1
 cases ha:z.cps.all (· < 128)
 ·refine wpAny_pyIter_wide ha ?_
  refine⟨s1.heap.objs.size,[s1.heap.objs.size],_,_,H1,rfl,I1.kept (t':=s1.toks) fun b o e=>bY _ e,nr _ z t "str_iterator" (by decide) (fun A hA=>Walks.strWide hA _ z t) (fun A s i Q E hh st hx hQ=>wpAny_pyNext_wide_end hh st hx hQ) (fun A i s Q E st h=>wpAny_pyIter_striter_wide st h),⟨_,lE _ rfl,rfl,rfl⟩,fun b hb=>?_,q⟩
  have e:b=s1.heap.objs.size:=by simpa using hb
  subst e
  exact I1.fpOk (gO _) (I1.hok.fresh (gO _))
 ·refine wpAny_pyIter_ascii ha ?_
  refine⟨s1.heap.objs.size,[s1.heap.objs.size],_,_,H1,rfl,I1.kept (t':=s1.toks) fun b o e=>bY _ e,nr _ z t "str_ascii_iterator" (by decide) (fun A hA=>Walks.strAscii hA _ z t) (fun A s i Q E hh st hx hQ=>wpAny_pyNext_ascii_end hh st hx hQ) (fun A i s Q E st h=>wpAny_pyIter_striter_ascii st h),⟨_,lE _ rfl,rfl,rfl⟩,fun b hb=>?_,q⟩
  have e:b=s1.heap.objs.size:=by simpa using hb
  subst e
  exact I1.fpOk (gO _) (I1.hok.fresh (gO _))
def signs(z:Str):List PV:=z.cps.toList.map fun c=>PV.str ⟨#[c]⟩
theorem Ae{K:aT}{Hs:Hp}{z:Str}:JOk K (Itx z) Hs (signs z):=by
 intro i H Hs' e1 e2
 have hl:(signs z).length=z.cps.size:=by simp[signs]
 rw[hl]
 refine⟨fun hi=>⟨hi,fun x H' ⟨e,c,hc,y⟩=>⟨e,.str ⟨#[c]⟩,?_,?_⟩⟩,fun hi=>hi⟩
 ·unfold signs
  rw[aae,oR,hc];rfl
 ·rw[y];exact .str _
def AR:PV→Res (List PV)
 |.str z=>.ok (signs z)
 |_=>.stuck
def itS(d:DE):DI:=fun σ=>(d σ).bind AR
theorem BZ(ha:QE X H0 Hs0 a da):QI X H0 Hs0 tg a (itS da):=by
 intro pins s τ H R I ⟨Hs,σ,S,h⟩
 refine Ci ha pins s τ H R I ⟨Hs,σ,S,?_⟩
 unfold itS at h
 cases e:da σ with
 |err c=>rw[e]at h;exact h
 |stuck=>rw[e]at h;exact h
 |ok p=>
  rw[e]at h
  cases p with
  |str z=>
   intro v Hs1 H1 g1 r1
   cases r1.str_inv
   exact⟨z,rfl,h _ _ _ g1 Ae⟩
  |_=>exact h.elim
theorem D0(ha:XE X H0 Hs0 a da):XI X H0 Hs0 tg a (itS da):=⟨BZ ha.h⟩
end
section
variable {X:Cx}{pins:List (Addr×Obj)}{H0 Hs0 H1:Hp}{τ:L2.St}{s1 s':Shared}{c:Str}{C:Addr}{m:Str→Option Value}{e:Value}{cenv':Env}
end
@[reducible] def cxE(X:Cx)(pins:List (Addr×Obj))(scope:Scope)(cl:List (Str×Addr))(C:Addr)(N:List Str)(fp:List Addr)(s:Shared)(H:Hp)(xe:Value→Shared→Prop):Cx:=
 { cxC X pins scope cl C N fp s H with xe:=xe }
section
variable {X:Cx}{pins:List (Addr×Obj)}{H0 Hs0:Hp}{σ:PSt}{τ:L2.St}{tg elt iter:Expr}{scope:Scope}{pos:Pos}{cl:List (Str×Addr)}{N:List Str}{k:Nat}{ix:List Nat}{g:DG}{de:DE}{d:DI}
structure BlkE (X:Cx) (tg elt:Expr) (scope:Scope) (cl:List (Str×Addr)) (N:List Str) (k:Nat) (ix:List Nat) (g:DG) (de:DE):Prop where
 O:CompOk X scope cl N k ix
 calm:X.calm=true
 st:X.stack=X.env::X.outer
 hg:∀(pins:List (Addr×Obj))(fp:List Addr)(C:Addr)(s:Shared)(H A B:Hp)(xe:Value→Shared→Prop),QG (cxE X pins scope cl C N fp s H xe) A B tg g
 he:∀(pins:List (Addr×Obj))(fp:List Addr)(C:Addr)(s:Shared)(H A B:Hp)(xe:Value→Shared→Prop),QE (cxE X pins scope cl C N fp s H xe) A B elt de
 gk:∀σ p σ1,g p (inn k ix σ)=.ok σ1→(∀(j:Nat)(sv:SV),(inn k ix σ)[j]? = some (some sv)→σ1[j]? = some (some sv))∧σ1.length=(inn k ix σ).length
variable {i:Nat}{x:Str}{pos' spos:Pos}
end
section
variable {X:Cx}{H0 Hs0:Hp}{tg elt iter:Expr}{scope:Scope}{pos:Pos}{g:DG}{de:DE}{d:DI}{ix:List Nat}{xs:List Str}
end
section
variable {X:Cx}{H0 Hs0:Hp}{a b:Expr}{da db:DE}{pos:Pos}
def fw:List PV→Option (List Bool)
 |[]=>some []
 |.bl b::ps=>(fw ps).map (b::·)
 |_=>none
theorem kn:∀{ps:List PV}{bs:List Bool},fw ps=some bs→ps=bs.map PV.bl
 |[],bs,h=>by cases h;rfl
 |.bl b::ps,bs,h=>by
  unfold fw at h
  cases e:fw ps with
  |none=>rw[e]at h;cases h
  |some cs=>rw[e]at h;cases h;rw[kn e];rfl
 |.non::ps,bs,h=>by cases h
 |.int _::ps,bs,h=>by cases h
 |.str _::ps,bs,h=>by cases h
 |.tup _::ps,bs,h=>by cases h
 |.lst _::ps,bs,h=>by cases h
 |.dic::ps,bs,h=>by cases h
 |.dct _ _::ps,bs,h=>by cases h
 |.scr _::ps,bs,h=>by cases h
 |.exc _::ps,bs,h=>by cases h
 |.ob _ _ _::ps,bs,h=>by cases h
theorem km:∀bs:List Bool,fw (bs.map PV.bl)=some bs
 |[]=>rfl
 |b::bs=>by show(fw (bs.map PV.bl)).map (b::·)=_;rw[km bs];rfl
def yE:List PV→Res PV
 |[.lst ps]=>(match fw ps with
  |some bs=>.ok (.bl (bs.all id))
  |none=>.stuck)
 |_=>.stuck
theorem lL{K:aT}{H:Hp}:∀{bs:List Bool}{vs:List V},Reps K H vs (bs.map PV.bl)→vs=bs.map V.bl
 |[],vs,r=>r.nil_inv
 |b::bs,vs,r=>by
  obtain⟨v,ws,rfl,r1,r2⟩:=Reps.cons_inv r
  cases r1.bl_inv
  rw[lL r2];rfl
theorem kZ:∀{bs:List Bool}{us:List Value},Vals (bs.map V.bl) us→us=bs.map Value.bool
 |[],us,r=>by cases r;rfl
 |b::bs,us,r=>by
  cases r with
  |cons r1 r2=>cases r1;rw[kZ r2];rfl
theorem all_range:∀(bs:List Bool),(aaN bs.length).all (fun i=>bs.getD i false)=bs.all id:=by
 intro bs
 rw[Bool.eq_iff_iff,List.all_eq_true,List.all_eq_true]
 constructor
 ·intro h x hx
  obtain⟨i,hi,rfl⟩:=List.mem_iff_getElem.mp hx
  have:=h i (List.mem_range.mpr hi)
  simpa[aaJ,dO hi] using this
 ·intro h i hi
  have hi':=List.mem_range.mp hi
  have:=h bs[i] (abH hi')
  simpa[aaJ,dO hi'] using this
theorem Dt (hc:X.calm=true):f6 X (.builtin "all") yE:=by
 intro EO pins s σ H xs us Q I r h
 obtain⟨Hs,ps,i,rp,h⟩:=h
 unfold yE at h
 split at h
 ·split at h
  ·rename_i bs hb
   obtain⟨v,rfl,r1⟩:=rp.one_inv
   obtain⟨ad,vs,rfl,hl,rs⟩:=r1.lst_inv
   cases kn hb
   cases lL rs
   obtain⟨u,rfl,rfl⟩:=vals1 r
   obtain⟨its,rv,hl'⟩:=lst_is I (i _ _ hl)
   cases kZ rv
   have hne:ad≠s.heap.objs.size:=by
    obtain⟨o,e,_⟩:=hl'
    exact aab (iD e)
   refine call_all_walk (wpAny_pyIter_list hl' ⟨_,_,_,_,_,_,fun j=>bs.getD j false,rfl,Walks.list (A:=X.A.in1) (by first|exact I.ok.hd hc|rfl) s.heap.objs.size ad hne (bs.map Value.bool).toArray,⟨⟨_,lE _ rfl,rfl,rfl⟩,hl'.at fun o e=>bY _ e⟩,fun j v s Q E hv hQ=>?_,fun h' tk k=>?_⟩)
   ·have e:(bs.map Value.bool)[j]? = some v:=by simpa using hv
    rw[aae]at e
    cases e2:bs[j]? with
    |none=>rw[e2]at e;cases e
    |some b=>
     rw[e2]at e
     cases e
     have:bs.getD j false=b:=by rw[aaJ,e2];rfl
     have hQ':Q (bs.getD j false) s:=hQ
     rw[this]at hQ'
     exact wpAny_pure hQ'
   ·have e:(aaN (bs.map Value.bool).toArray.size).all (fun j=>bs.getD j false)=bs.all id:=by
     rw[oF,aad];exact all_range bs
    rw[e]
    exact⟨.bl _,H,I.kept fun b o e=>k b o (by simpa using aab (iD e)) (bY _ e),rfl,eu h i⟩
  ·exact h.elim
 ·exact h.elim
theorem DH{bs:List Bool}:yE [.lst (bs.map PV.bl)]=.ok (.bl (bs.all id)):=by
 show(match fw (bs.map PV.bl) with
  |some bs=>Res.ok (PV.bl (bs.all id))
  |none=>.stuck)=_
 rw[km]
theorem Dz:bootBuiltins "all" = some (.builtin "all"):=by decide +kernel
structure TxtAt (K:aT) (x y:Str):Prop where
 ex:∃t:Tok,aak K mainGlobals x=some (some (.str y t))
end
section
variable {X:Cx}{H0 Hs0:Hp}
variable {es:List Expr}{ra:DA}{pos:Pos}{x g:Str}
variable {σ:PSt}{m:List PV→Res PV}{cs:List Str}{i j:Nat}{ds:DS}{qs:List PV}
end
end G
namespace TX
open PySem PySem.Builtin.Str PySem.StrLaws
def T(cs:List Nat):Str:=⟨cs.toArray⟩
theorem Hy{cs:List Nat}:(T cs).cps.toList=cs:=rfl
theorem Fm{cs:List Nat}:(T cs).length=cs.length:=by simp[T,Str.length]
theorem Hj(x:Str):T x.cps.toList=x:=by
 cases x with
 |mk a=>simp[T]
theorem iq(s:String):Str.ofString s=T (s.toList.map Char.toNat):=by
 rw[←Hj (Str.ofString s),PyProof.Rows.signs_ofString]
end TX
namespace TX
open PySem PySem.Builtin.Str PySem.StrLaws PySem.NumText
def isNeg(cs:List Nat):Bool:=decide (cs.head? = some 45)
def fig(cs:List Nat):List Nat:=if isNeg cs then cs.drop 1 else cs
structure Ok (cs:List Nat):Prop where
 len1:1≤(fig cs).length
 len2:(fig cs).length≤60
 digs:AllDigits (fig cs)
 lead:cs=[48]∨(fig cs).head?≠some 48
end TX
namespace G
open PySem PySem.Spec PyProof.Rows L2 GS HM
open PySem.W (findIn specialIn takesIn mroIn kitOne kitAny)
def fM (K:aT) (C:Addr):Bool:=abp K C Str.empty&&abz K C&&PySem.W.plainOver K C&&findIn K (.ref C) "__setattr__" == some (some (.builtin "object.__setattr__"))
 && findIn K (.ref C) "__class__" == some (some (.builtin "object.__class__"))&&specialIn K (.builtin "object.__class__") "__get__" == some (some (.builtin "getset_descriptor.__get__"))&&takesIn K (.builtin "object.__class__")==some true
 && mroIn K C (.type "object")==some true
structure ObjC (K:aT) (C:Addr):Prop where
 cl:Cls K C
 ha:findIn K (.ref C) "__class__" = some (some (.builtin "object.__class__"))
 hn:specialIn K (.builtin "object.__class__") "__get__" = some (some (.builtin "getset_descriptor.__get__"))
 ht:takesIn K (.builtin "object.__class__")=some true
 hm:mroIn K C (.type "object")=some true
theorem dW{K:aT}{C:Addr}(q:fM K C=true):ObjC K C:=by
 unfold fM at q
 simp only[aay,beq_iff_eq]at q
 obtain⟨⟨⟨⟨⟨⟨⟨h1,h2⟩,h3⟩,h4⟩,h5⟩,h6⟩,h7⟩,h8⟩:=q
 exact⟨⟨h1,h2,h3,h4⟩,h5,h6,h7,h8⟩
theorem aC.inj{K:aT}{c:Str}{C D:Addr}(a:aC K c C)(b:aC K c D):C=D:=by
 have:=a.symm.trans b
 injection this with this
 injection this with this
 injection this
section
variable {K:aT}{H:Hp}{v:V}{c f:Str}{ns:List Str}{ps:List PV}
theorem Rep.ob_inv(r:Rep K H v (.ob c ns ps)):∃a C dx vs,v=.ref a∧H a=some (.ins C dx (ns.zip vs))∧aC K c C∧ns.length=vs.length∧Reps K H vs ps:=by
 cases r with
 |ob h1 h2 h3 h4 h5=>exact⟨_,_,_,_,rfl,by rw[h1,h3],h2,h4,h5⟩
theorem qo{p:PV}:∀(ns:List Str)(vs:List V)(ps:List PV),ns.length=vs.length→Reps K H vs ps→(ns.zip ps).lookup f=some p→∃v,(ns.zip vs).lookup f=some v∧Rep K H v p
 |[],_,_,_,_,h=>by simp at h
 |n::ns,[],_,hl,_,_=>by simp at hl
 |n::ns,v::vs,p'::ps,hl,.cons r rs,h=>by
  rw[abc,aam]at h ⊢
  cases e:(f==n) with
  |true=>rw[e]at h;cases h;exact⟨v,rfl,r⟩
  |false=>
   rw[e]at h
   exact qo ns vs ps (by simpa using hl) rs h
theorem ju:∀(ns:List Str)(vs:List V),ns.contains f=false→(ns.zip vs).lookup f=none
 |[],_,_=>by simp
 |n::ns,[],_=>by simp
 |n::ns,v::vs,h=>by
  rw[List.contains_cons,Bool.or_eq_false_iff]at h
  rw[abc,aam,h.1]
  exact ju ns vs h.2
end
def du(c f:Str):PV→Res PV
 |.ob c' ns ps=>if c'=c then (match (ns.zip ps).lookup f with
  |some p=>.ok p
  |none=>.stuck) else .stuck
 |_=>.stuck
structure FldAt (K:aT) (c f:Str):Prop where
 ex:∃C,aC K c C∧fM K C=true∧jd K C f
section
variable {X:Cx}{H0 Hs0:Hp}{a:Expr}{da:DE}{c f m:Str}{pos apos p:Pos}
theorem EH(T:FldAt X.K c f)(ha:QE X H0 Hs0 a da)(hb:attributeBase a f X.env (eval a X.env)=eval a X.env):QE X H0 Hs0 (.Attribute a f pos) (e1 (du c f) da):=
 PE.imp (rL ha hb) fun τ H Q h=>RE.mono (one h) fun x H1 ⟨Hs,p,i,r,h1⟩=>by
  cases p with
  |ob c' ns ps=>
   unfold du at h1
   simp only at h1
   split at h1
   ·rename_i ec
    subst ec
    split at h1
    ·rename_i q hq
     obtain⟨ad,C,dx,vs,rfl,e1,e2,e3,e4⟩:=r.ob_inv
     obtain⟨C',t1,t2,t3⟩:=T.ex
     cases t1.inj e2
     obtain⟨v,hv,rv⟩:=qo ns vs ps e3 e4 hq
     exact⟨ad,_,dx,_,v,rfl,i _ _ e1,(dW t2).cl,t3,hv,h1 v Hs H1 (.refl i) rv⟩
    ·exact h1.elim
   ·exact h1.elim
  |_=>exact h1.elim
theorem jf(T:FldAt X.K c f)(ha:XE X H0 Hs0 a da)(hb:attributeBase a f X.env (eval a X.env)=eval a X.env:=by rfl):XE X H0 Hs0 (.Attribute a f pos) (e1 (du c f) da):=⟨EH T ha.h hb⟩
def aD(m:Str)(tab:List (Str×(List PV→Res PV)))(da:DE)(ra:DA):DE:=fun σ=>match da σ with
 |.ok (.ob c ns ps)=>match tab.lookup c,ns.contains m with
  |some M,false=>(match ra σ with
   |.ok qs=>noErr (M (.ob c ns ps::qs))
   |_=>.stuck)
  |_,_=>.stuck
 |_=>.stuck
structure MethIs (X:Cx) (m:Str) (tab:List (Str×(List PV→Res PV))):Prop where
 h:∀c M,tab.lookup c=some M→∃(C g:Addr)(fd:FuncData)(ps:List Str)(k:Nat),aC X.K c C∧fM X.K C=true∧Meth X.K C m g∧Binds X.K fd ps []∧Room k X.A∧(∀qs,qs.length≠ps.length→M qs=.stuck) ∧
  FnOk X.prog X.w X.K X.mg X.base (CXG X.prog X.w) k g fd ps (Fsp X.K ps.length M)
theorem qi{M:List PV→Res PV}{ps:List Str}{qs:List PV}{Hs H:Hp}{Q:VK}{EO:Str→Prop}(har:∀qs,qs.length≠ps.length→M qs=.stuck)(h:Ret X.K Hs H (noErr (M qs)) EO Q):qs.length=ps.length:=by
 by_cases hl:qs.length=ps.length
 ·exact hl
 ·rw[har qs hl]at h;exact h.elim
theorem B3{tab:List (Str×(List PV→Res PV))}{pl:Sem Bool}{e:Expr}{es:List Expr}{ra:DA}(T:MethIs X m tab)(he:QE X H0 Hs0 a da)(ha:QA X H0 Hs0 (e::es) ra)
  (hst:starEach (e::es) X.env=(false,eval e X.env)::starEach es X.env) (hpl:(backTo pos (starEach es X.env)).any (·.1)=false)
  (ht:eval (.Call (.Attribute a m apos) (e::es) [] pos) X.env=(do
   let ov ←eval a X.env
   standAt apos.atName
   let(f,first) ←holding [ov] (getMethod ov m pl)
   callWith pos f first (backTo pos (starEach (e::es) X.env)) (backToKw pos (keywordEach [] X.env)))):
  QE X H0 Hs0 (.Call (.Attribute a m apos) (e::es) [] pos) (aD m tab da ra):=by
 intro pins s τ H Q I ⟨Hs,σ,S,h⟩
 unfold aD at h
 split at h
 ·rename_i c ns ps hd
  split at h
  ·rename_i M hM hc
   split at h
   ·rename_i qs hq
    obtain⟨C,g,fd,bs,k,t1,t2,t3,t4,t5,t6,t7⟩:=T.h c M hM
    have hl:=qi t6 h
    refine oQ he (dW t2).cl t3 t7 t5 t4 .nil nH ha hst hpl ht pins s τ H Q I ⟨Hs,σ,S,?_⟩
    rw[hd]
    intro v Hs1 H1 g1 r1
    obtain⟨ad,C',dx,vs,rfl,e1,e2,e3,e4⟩:=r1.ob_inv
    cases t1.inj e2
    refine⟨ad,dx,_,rfl,g1.i _ _ e1,ju ns vs hc,Hs1,σ,S.grow g1,?_⟩
    rw[hq]
    intro us Hs2 H2 g2 r2
    rw[aa3]
    refine⟨?_,Hs2,.ob c ns ps::qs,g2.i,.cons (r1.mono g2.s) r2,(Ret.grow h (g1.trans g2)).noErr⟩
    rw[iF,r2.length,←hl,iF]
   ·exact h.elim
  ·exact h.elim
 ·exact h.elim
theorem zz{tab:List (Str×(List PV→Res PV))}{pl:Sem Bool}(T:MethIs X m tab)(he:QE X H0 Hs0 a da)
  (ht:eval (.Call (.Attribute a m apos) [] [] pos) X.env=(do
   let ov ←eval a X.env
   standAt apos.atName
   let(f,first) ←holding [ov] (getMethod ov m pl)
   callWith pos f first (backTo pos (starEach [] X.env)) (backToKw pos (keywordEach [] X.env)))):
  QE X H0 Hs0 (.Call (.Attribute a m apos) [] [] pos) (aD m tab da ag):=by
 intro pins s τ H Q I ⟨Hs,σ,S,h⟩
 unfold aD at h
 split at h
 ·rename_i c ns ps hd
  split at h
  ·rename_i M hM hc
   split at h
   ·rename_i qs hq
    cases (show Res.ok []=Res.ok qs from hq)
    obtain⟨C,g,fd,bs,k,t1,t2,t3,t4,t5,t6,t7⟩:=T.h c M hM
    have hl:=qi t6 h
    refine wR he (dW t2).cl t3 t7 t5 t4 .nil nH ht pins s τ H Q I ⟨Hs,σ,S,?_⟩
    rw[hd]
    intro v Hs1 H1 g1 r1
    obtain⟨ad,C',dx,vs,rfl,e1,e2,e3,e4⟩:=r1.ob_inv
    cases t1.inj e2
    refine⟨ad,dx,_,rfl,g1.i _ _ e1,ju ns vs hc,?_⟩
    refine⟨?_,Hs1,[.ob c ns ps],g1.i,.cons r1 .nil,(Ret.grow h g1).noErr⟩
    rw[←hl];rfl
   ·exact h.elim
  ·exact h.elim
 ·exact h.elim
theorem iU{tab:List (Str×(List PV→Res PV))}{pl:Sem Bool}{e:Expr}{es:List Expr}{ra:DA}(T:MethIs X m tab)(he:XE X H0 Hs0 a da)(ha:XA X H0 Hs0 (e::es) ra)(hst:noStar e=true:=by rfl)(hpl:es.all noStar=true:=by rfl)
  (ht:eval (.Call (.Attribute a m apos) (e::es) [] pos) X.env=(do
   let ov ←eval a X.env
   standAt apos.atName
   let(f,first) ←holding [ov] (getMethod ov m pl)
   callWith pos f first (backTo pos (starEach (e::es) X.env)) (backToKw pos (keywordEach [] X.env))):=by rfl):
  XE X H0 Hs0 (.Call (.Attribute a m apos) (e::es) [] pos) (aD m tab da ra):=⟨B3 T he.h ha.h (aA hst) (fc hpl) ht⟩
theorem dH{tab:List (Str×(List PV→Res PV))}{pl:Sem Bool}(T:MethIs X m tab)(he:XE X H0 Hs0 a da)
  (ht:eval (.Call (.Attribute a m apos) [] [] pos) X.env=(do
   let ov ←eval a X.env
   standAt apos.atName
   let(f,first) ←holding [ov] (getMethod ov m pl)
   callWith pos f first (backTo pos (starEach [] X.env)) (backToKw pos (keywordEach [] X.env))):=by rfl):
  XE X H0 Hs0 (.Call (.Attribute a m apos) [] [] pos) (aD m tab da ag):=⟨zz T he.h ht⟩
end
structure MethOne (P:Program) (w:World) (K:aT) (mg:Str→Option Value) (base:Heap) (c m:Str) (k:Nat) (M:List PV→Res PV):Prop where
 ex:∃(C g:Addr)(fd:FuncData)(ps:List Str),aC K c C∧fM K C=true∧Meth K C m g∧Binds K fd ps []∧(∀qs,qs.length≠ps.length→M qs=.stuck)∧FnOk P w K mg base (CXG P w) k g fd ps (Fsp K ps.length M)
structure MethAt (K:aT) (c m qual:Str) (st:Stmt):Prop where
 ex:∃(C g:Addr)(fd:FuncData),aC K c C∧fM K C=true∧Meth K C m g∧Fun K m qual st g fd
theorem b5{K:aT}{c m qual:Str}{st:Stmt}{C f:Addr}{oc:Value}{od an:Option Addr}{osl:Array (Option Value)}{kV doc pm cdv ct:Value}(hc:aC K c C)(q:fM K C=true)(a:findIn K (.ref C) m=some (some (.ref f)))(i:abM K (.ref f)=true)
  (l:K.lookup f=some ⟨oc,od,.func (aaF m qual (ck st) (aS st) (af st) .none kV doc pm an cdv ct),osl⟩) (cd:abo K cdv qual=true) (k:aaE K (.ref f)=true):MethAt K c m qual st:=
 ⟨C,f,_,hc,q,⟨a,i,k⟩,sy l cd k⟩
section
variable {P:Program}{w:World}{K:aT}{mg:Str→Option Value}{base h:Heap}
theorem fk{c m qual:Str}{st:Stmt}{N ps:List Str}{k:Nat}{d:DS}(D:MethAt K c m qual st)(S:FnScope N ps (af st))
  (hb:∀(kV doc pm:Value)(an:Option Addr)(cdv ct:Value)(us:List Value),us.length=ps.length→bindArgs (aaF m qual (ck st) (aS st) (af st) .none kV doc pm an cdv ct) ⟨us,[]⟩=pure (ps.zip us))
  (hbody:∀(f:Addr)(cdv:Value)(A:Around)(outer:List Env)(s:Shared)(H Hs:Hp)(E:XK),Room k (A.deeper (envOfC qual (af st) s.heap.objs.size f cdv)) →
   XB (gP (CXG P w) P w K mg base N qual (af st) f cdv A outer s H E).nox H Hs (aS st) d):MethOne P w K mg base c m (k+1) (bz ps.length N.length d):=by
 obtain⟨C,g,fd,h1,h2,h3,F⟩:=D.ex
 exact⟨C,g,fd,ps,h1,h2,h3,F.binds hb,fun qs h=>oM h,xW F S fun cdv A outer s H Hs E hr=>(hbody g cdv A outer s H Hs E hr).h⟩
end
theorem cA{X:Cx}{m:Str}:MethIs X m []:=⟨fun c M h=>nomatch h⟩
theorem cz{X:Cx}{m c:Str}{j k:Nat}{M:List PV→Res PV}{tab:List (Str×(List PV→Res PV))}(o:MethOne X.prog X.w X.K X.mg X.base c m j M)(hr:Room k X.A)(r:MethIs X m tab)(h:j≤k:=by decide):MethIs X m ((c,M)::tab):=⟨fun d N hd=>by
 rw[aam]at hd
 split at hd
 ·rename_i hb
  have:d=c:=by simpa using hb
  subst this
  cases hd
  obtain⟨C,g,fd,ps,h1,h2,h3,h4,h5,h6⟩:=o.ex
  exact⟨C,g,fd,ps,j,h1,h2,h3,h4,hr.mono h,h5,h6⟩
 ·exact r.h d N hd⟩
def Isp(C:Addr)(ns:List Str):Sp:=fun vs H Q _=>∃(x dx:Addr)(us:List V),vs=.ref x::us∧us.length=ns.length∧H x=some (.ins C dx [])∧Q .non (upd H x (.ins C dx (ns.zip us)))
structure MakeIn (P:Program) (w:World) (K:aT) (mg:Str→Option Value) (base:Heap) (c:Str) (ns:List Str) (k:Nat):Prop where
 ex:∃(C g:Addr)(fd:FuncData)(ps:List Str),aC K c C∧Mk K C g∧Binds K fd ps []∧FnOk P w K mg base (CXG P w) k g fd ps (Isp C ns)
theorem Grow.newIns{Hs H:Hp}{x dx:Addr}{o o':HO}(i:aL Hs H)(hx:H x=none)(hd:H dx=none)(hn:dx≠x):Grow Hs H (upd Hs x o) (upd (upd H dx o') x o):=
 ⟨aX (i.free hx),nz (i.trans (aX hd)),fun b u q=>by rw[aj (bh q hx),aj (bh q hd)];exact q,fun y hy hz=>by rw[aj (fun e=>hy (by rw[e];exact hx))];exact hz⟩
section
variable {X:Cx}{H0 Hs0:Hp}{c:Str}{ns:List Str}{p pos:Pos}
structure ObTab (K:aT) (g:Str) (tab:List (Str×Bool)):Prop where
 ex:∃D:Addr,aC K g D∧∀c b,tab.lookup c=some b→∃C:Addr,aC K c C∧fM K C=true∧kitOne K (.ref C) (.ref D)=some b
structure MakeNo (K:aT) (c:Str):Prop where
 ex:∃C,aC K c C∧abL K C=true∧findIn K (.ref C) "__init__" = some (some (.builtin "object.__init__"))∧aaE K (.ref C)=true
end
structure InitAt (K:aT) (c qual:Str) (st:Stmt):Prop where
 ex:∃(C g:Addr) (fd:FuncData),aC K c C∧fM K C=true∧Mk K C g∧Fun K "__init__" qual st g fd
theorem Am{K:aT}{c qual:Str}{st:Stmt}{C f:Addr}{oc:Value}{od an:Option Addr}{osl:Array (Option Value)}{kV doc pm cdv ct:Value}(hc:aC K c C)(q:fM K C=true)(mk:abL K C=true)(kc:aaE K (.ref C)=true)
  (a:findIn K (.ref C) "__init__" = some (some (.ref f))) (i:abM K (.ref f)=true)
  (l:K.lookup f=some ⟨oc,od,.func (aaF "__init__" qual (ck st) (aS st) (af st) .none kV doc pm an cdv ct),osl⟩) (cd:abo K cdv qual=true) (k:aaE K (.ref f)=true):InitAt K c qual st:=
 ⟨C,f,_,hc,q,⟨mk,a,i,kc⟩,sy l cd k⟩
theorem FldAt.no{K:aT}{c f:Str}{C:Addr}(T:FldAt K c f)(h:aC K c C):jd K C f:=by
 obtain⟨C',t1,_,t3⟩:=T.ex
 cases t1.inj h
 exact t3
theorem p7{f:Str}{v:V}:∀(fs:List (Str×V)),(fs.map (·.1)).contains f=false→fB f v fs=fs++[(f,v)]
 |[],_=>rfl
 | (g,x)::r,h=>by
  rw[aau,List.contains_cons,Bool.or_eq_false_iff]at h
  show(if g=f then _ else (g,x)::fB f v r)=_
  rw[if_neg (fun e=>by rw[e]at h;simp at h),p7 r h.2]
  rfl
def Hk(K:aT)(Hs H:Hp)(r:Res PV)(Q:VK):Prop:=match r with
 |.ok (.lst xs)=>∀a Hs' H',Grow Hs H Hs' H'→H a=none→Rep K Hs' (.ref a) (.lst xs)→Q (.ref a) H'
 |_=>False
def DR(K:aT)(n:Nat)(m:List PV→Res PV):Sp:=fun vs H Q _=>vs.length=n∧∃Hs ps,aL Hs H∧Reps K Hs vs ps∧Hk K Hs H (m ps) Q
section
variable (X:Cx)(H0 Hs0:Hp)
def Fp(D:Ends):Res Fl→Prop
 |.ok (.ret (.lst xs))=>∀a Hs' H',Grow Hs0 H0 Hs' H'→H0 a=none→Rep X.K Hs' (.ref a) (.lst xs)→D.rt (.ref a) H'
 |_=>False
def RSN(d:DS):TS:=fun D τ H=>∃Hs σ,SR X.K H0 Hs0 Hs H σ τ∧Fp X H0 Hs0 D (d σ)
structure XN (ss:List Stmt) (d:DS):Prop where
 h:PSs X ss (RSN X H0 Hs0 d)
end
def lG(d1 d2:DS):DS:=fun σ=>match d1 σ with
 |.ok (.next σ')=>d2 σ'
 |_=>.stuck
theorem lF{d1 d2:DS}{σ σ1:PSt}{r:Res Fl}(h1:d1 σ=.ok (.next σ1))(h2:d2 σ1=r):lG d1 d2 σ=r:=by
 unfold lG;rw[h1];exact h2
def pX(i:Nat):DS:=fun σ=>match σ[i]? with
 |some (some (.own xs))=>.ok (.ret (.lst xs))
 |_=>.stuck
theorem vZ{i:Nat}{σ:PSt}{xs:List PV}(h:σ[i]? = some (some (.own xs))):pX i σ=.ok (.ret (.lst xs)):=by unfold pX;rw[h]
section
variable {X:Cx}{H0 Hs0:Hp}{st:Stmt}{sts:List Stmt}{d1 d2:DS}{x:Str}{pos pos' np p:Pos}
theorem xn(h1:XS X H0 Hs0 st d1)(h2:XN X H0 Hs0 sts d2):XN X H0 Hs0 (st::sts) (lG d1 d2):=⟨PSs.imp (jn h1.h h2.h) fun D τ H ⟨Hs,σ,S,h⟩=>⟨Hs,σ,S,by
 unfold lG at h
 split at h
 ·rename_i σ' e
  rw[e]
  exact fun Hs' H' τ' _ S'=>⟨Hs',σ',S',h⟩
 ·exact h.elim⟩⟩
theorem D2 (i:Nat) (hN:X.N[i]? = some x:=by rfl) (hv:Vis X.env.scope x:=by first|exact Or.inl rfl|exact Or.inr (Or.inl rfl)|exact Or.inr (Or.inr rfl)) (hd:(x==("__debug__":Str))=false:=by decide) (hcd:(x==("__classdict__":Str))=false:=by decide):
  XN X H0 Hs0 [.Return (some (.Name x np)) pos] (pX i):=⟨PSs.imp (jm (rE (dJ hN hv hd hcd))) fun D τ H ⟨Hs,σ,S,h⟩=>by
 unfold pX at h
 split at h
 ·rename_i xs e
  obtain⟨v,e1,ad,vs,rfl,hH,hHs,hH0,r⟩:=S.slot i _ e
  obtain⟨Hs',sm,S'⟩:=S.share e
  obtain⟨v',e2,r'⟩:=S'.slot i (.sh (.lst xs)) (by rw[aao (List.getElem?_eq_some_iff.mp e).1])
  rw[e1]at e2
  cases e2
  exact⟨.ref ad,e1,h ad Hs' H S'.g hH0 r'⟩
 ·exact h.elim⟩
structure FunNew (X:Cx) (f:Str) (m:List PV→Res PV):Prop where
 ex:∃(a:Addr)(fd:FuncData)(ps:List Str)(k:Nat),X.mg f=some (.ref a)∧aaE X.K (.ref a)=true∧Binds X.K fd ps []∧Room k X.A∧ps.length=1∧FnOk X.prog X.w X.K X.mg X.base (CXG X.prog X.w) k a fd ps (DR X.K ps.length m)
end
structure NewIn (P:Program) (w:World) (K:aT) (mg:Str→Option Value) (base:Heap) (x:Str) (k:Nat) (m:List PV→Res PV):Prop where
 ex:∃(a:Addr)(fd:FuncData)(ps:List Str),mg x=some (.ref a)∧aaE K (.ref a)=true∧Binds K fd ps []∧ps.length=1∧FnOk P w K mg base (CXG P w) k a fd ps (DR K ps.length m)
section
variable {P:Program}{w:World}{K:aT}{mg:Str→Option Value}{base h:Heap}
end
section
variable {X:Cx}{pins:List (Addr×Obj)}{H0 Hs0:Hp}{tg elt iter cd:Expr}{scope:Scope}{pos:Pos}{cl:List (Str×Addr)}{N:List Str}{k:Nat}{ix:List Nat}{g:DG}{tc:DT}{de:DE}{d:DI}{i:Nat}{x:Str}{pos' spos:Pos}
def lJ(i:Nat)(d:DI)(g:DG)(tc:DT)(de:DE)(k:Nat)(ix:List Nat):DS:=fun σ=>(uo d g tc de k ix σ).bind fun qs=>.ok (.next (σ.set i (some (.sh (.lst qs)))))
theorem AM{D:Ends}{Hs H:Hp}{f:List PV→Fl}{σ:PSt}(h:fH X H0 Hs0 D Hs H ((uo d g tc de k ix σ).bind fun qs=>.ok (f qs))):(∃c,d σ=.err c∧a8 X H0 Hs0 c)∨∃ps,d σ=.ok ps∧∃qs,d7 (gF g tc de (inn k ix σ)) ps=.ok qs∧ps.length≤10000000∧fH X H0 Hs0 D Hs H (.ok (f qs)):=by
 unfold uo at h
 cases e:d σ with
 |err c=>rw[e]at h;exact .inl ⟨c,rfl,h⟩
 |stuck=>rw[e]at h;exact h.elim
 |ok ps=>
  rw[e]at h
  refine .inr ⟨ps,rfl,?_⟩
  cases em:d7 (gF g tc de (inn k ix σ)) ps with
  |ok qs=>
   simp only[Res.bind_ok,em]at h
   by_cases hl:ps.length≤10000000
   ·rw[if_pos hl]at h
    exact⟨qs,rfl,hl,h⟩
   ·rw[if_neg hl]at h
    exact h.elim
  |err c=>simp only[Res.bind_ok,em]at h;exact h.elim
  |stuck=>simp only[Res.bind_ok,em]at h;exact h.elim
theorem wy(B:BlkOkI X tg elt cd scope cl N k ix g tc de)(hi:QI X H0 Hs0 tg iter d)(hs:∀x,foldedSetIterable iter X.env x=pure x)
  (hN:X.N.Nodup) (hiN:X.N[i]? = some x) (hx:Loc X.env.scope x) (hf:X.fn x=true∨X.env.scope.names.lookup x=some .local)
  (hsw:swapsWith (.ListComp elt [⟨tg,iter,[cd],0⟩] scope pos) (some (.Name x pos')) spos.line X.env=pure true):
  QS X H0 Hs0 (.Assign [.Name x pos'] (.ListComp elt [⟨tg,iter,[cd],0⟩] scope pos) spos) (lJ i d g tc de k ix):=by
 intro pins s τ H D I ⟨Hs,σ,S,h⟩
 have h0:wpAny (model X.prog X.w) X.A (eval iter X.env) (fun v s1=>wpAny (model X.prog X.w) X.A (pyIter v) (PIE X pins τ tg fun J H2=>∃Hs2 ps qs,Grow Hs H Hs2 H2∧JOk X.K J Hs2 ps∧d7 (gF g tc de (inn k ix σ)) ps=.ok qs∧ps.length≤10000000 ∧
   fH X H0 Hs0 D Hs H (.ok (.next (σ.set i (some (.sh (.lst qs))))))) X.xe s1) X.xe s:=by
  refine hi pins s τ H _ I ⟨Hs,σ,S,?_⟩
  rcases AM h with ⟨c,e,ec⟩|⟨ps,e,qs,em,hl,h1⟩
  ·rw[e];exact ec
  ·rw[e]
   exact fun J Hs2 H2 g2 j2=>⟨Hs2,ps,qs,g2,j2,em,hl,h1⟩
 rw[exec_Assign_Name_used _ _ _ _ hsw]
 refine wpAny_bind (wpAny_standAt (wpAny_bind ?_))
 show wpAny _ X.A (do let _ ←comprehension (.ListComp elt [⟨tg,iter,[cd],0⟩] scope pos) scope X.env _ (newList []) false (eval iter X.env) (some (assign (.Name x pos') X.env))) _ _ s
 refine wpAny_bind (wpAny_mono (wpAny_comprehension_free (use:=some (assign (.Name x pos') X.env)) (Q:=fun _ s'=>SP X pins D .next s') rfl hs (my B.O.clos) B.O.kind B.O.names
  (wpAny_mono h0 (fun v s1 h1=>wpAny_mono h1 (fun itv s2 h2=>?_) fun _ _ e=>e) fun _ _ e=>e)) (fun _ s' hq=>wpAny_pure (wpAny_pure hq)) fun _ _ e=>e)
 obtain⟨it,fp,tn,J,H2,rfl,I2,T,st,fpok,Hs2,ps,qs,g2,jok,hm,hl,hq⟩:=h2
 refine Hf B I2 (S.grow g2) T st fpok jok hm hl fun s' Hs' H' vs a C m I' S' e' gr h1 h2 h3 h4 h5 h6=>?_
 show wpAny _ X.A (assign (.Name x pos') X.env (.ref a)) _ _ s'
 have h5':=h5
 obtain⟨o,es,ep,ho,hdt,hrest⟩:=h5'
 have I'':=I'.pinned (fp:=[C]) (fun b hb=>by have:b=C:=(by simpa using hb);subst this;exact h6)
  (fun b hb=>by
  have:b=C:=by simpa using hb
  subst this
  exact⟨o,ho,fun v z=>by rw[hdt]at z;cases z⟩)
 refine thn (kM hN hiN hx hf _ s' τ H' (.ref a) (.ref a) (fun τ' H''=>τ'=τ.set i (some (.ref a))∧H''=H') I'' rfl ⟨rfl,rfl⟩) fun _ s'' ⟨τ',H'',I3,e1,e2⟩=>?_
 subst e1 e2
 have hC:=(I3.pin (C,o) (tO _ (tO _ (bS (by simp) ho)))).1
 have I4:=I3.unpinned
 refine⟨m,⟨o,es,ep,hC,hdt,hrest⟩,fun h' sb=>?_⟩
 have gr':=g2.trans gr
 exact⟨_,_,o6 I4 h6 sb,hq (upd Hs' a (.lst vs)) H'' _ (gr'.s.trans (cP h2)) ((S.grow (gr'.lay h1 h2 (g2.h.free h3))).set i (.lst ak (h4.mono (cP h2))))⟩
theorem yQ(i:Nat){x:Str}{pos' spos:Pos}{cl:List (Str×Addr)}{N:List Str}{k:Nat}(B:BlkOkI X tg elt cd scope cl N k ix g tc de)(hi:XI X H0 Hs0 tg iter d)(hN:X.N.Nodup:=by assumption)(hiN:X.N[i]? = some x:=by rfl)(hx:Loc X.env.scope x:=by first|exact Or.inl rfl|exact Or.inr rfl)
  (hf:X.fn x=true∨X.env.scope.names.lookup x=some .local:=by first|exact Or.inl rfl|exact Or.inr rfl) (hs:fN iter=true:=by rfl)
  (hsw:swapsWith (.ListComp elt [⟨tg,iter,[cd],0⟩] scope pos) (some (.Name x pos')) spos.line X.env=pure true:=by rfl):
  XS X H0 Hs0 (.Assign [.Name x pos'] (.ListComp elt [⟨tg,iter,[cd],0⟩] scope pos) spos) (lJ i d g tc de k ix):=⟨wy B hi.h (jC hs) hN hiN hx hf hsw⟩
end
section
variable {X:Cx}{H0 Hs0:Hp}{b:Expr}{db:DE}{x:Str}{np apos cpos:Pos}
end
def au (now:PV) (ns:List Str) (ps:List PV):PV:=.ob "Floor" ["now","rows"] [now,.dct ns ps]
mutual
def ez:PV→Bool
 |.non=>true
 |.bl _=>true
 |.int _=>true
 |.str _=>true
 |.tup xs=>cy xs
 |.lst xs=>cy xs
 |_=>false
def cy:List PV→Bool
 |[]=>true
 |p::ps=>ez p&&cy ps
end
def ba:PSt→Bool
 |[]=>true
 |some (.flo _ _ _ _)::_=>false
 |_::r=>ba r
theorem lU:∀{σ:PSt}{j:Nat}{ad:Option (Addr×Addr×Addr)}{n:PV}{a:List Str}{b:List PV},ba σ=true→σ[j]?≠some (some (.flo ad n a b))
 |[],j,ad,n,a,b,_=>by simp
 |x::r,0,ad,n,a,b,h=>by
  intro e
  simp at e
  subst e
  cases h
 |x::r,j+1,ad,n,a,b,h=>by
  rw[aaV]
  refine lU ?_
  unfold ba at h
  split at h
  ·rename_i z;cases z
  ·cases h
  ·rename_i z;cases z;exact h
def lX(Hs:Hp)(a r:Addr):Hp:=fun x=>if x=a∨x=r then none else Hs x
theorem fQ{Hs:Hp}{a r x:Addr}(h1:x≠a)(h2:x≠r):lX Hs a r x=Hs x:=if_neg (fun z=>z.elim h1 h2)
theorem tU{Hs:Hp}{a r:Addr}:lX Hs a r a=none:=if_pos (.inl rfl)
theorem tT{Hs:Hp}{a r:Addr}:lX Hs a r r=none:=if_pos (.inr rfl)
section
variable {K:aT}{Hs:Hp}{a r C dx:Addr}{fs:List (Str×V)}{kvs:List (Key×V)}
theorem vS(h1:Hs a=some (.ins C dx fs))(h2:Hs r=some (.dK kvs)){x:Addr}{xs:List V}(h:SqT K Hs x xs):SqT K (lX Hs a r) x xs:=by
 rcases h with (h|⟨o,h⟩)|h
 ·exact .inl (.inl ((fQ (fun z=>by rw[z,h1]at h;cases h) (fun z=>by rw[z,h2]at h;cases h)).trans h))
 ·exact .inl (.inr ⟨o,(fQ (fun z=>by rw[z,h1]at h;cases h) (fun z=>by rw[z,h2]at h;cases h)).trans h⟩)
 ·exact .inr h
mutual
theorem Rep.less(h1:Hs a=some (.ins C dx fs))(h2:Hs r=some (.dK kvs)):∀{v:V}{p:PV},Rep K Hs v p→ez p=true→Rep K (lX Hs a r) v p
 |_,_,.non,_=>.non
 |_,_,.bl b,_=>.bl b
 |_,_,.int i,_=>.int i
 |_,_,.str x,_=>.str x
 |_,_,.tup h t,hp=>.tup (vS h1 h2 h) (Reps.less h1 h2 t (by unfold ez at hp;exact hp))
 |_,_,.lst h t,hp=>.lst ((fQ (fun z=>by rw[z,h1]at h;cases h) (fun z=>by rw[z,h2]at h;cases h)).trans h) (Reps.less h1 h2 t (by unfold ez at hp;exact hp))
 |_,_,.scr _,hp=>by cases hp
 |_,_,.dic _,hp=>by cases hp
 |_,_,.dct _ _ _ _,hp=>by cases hp
 |_,_,.exc _ _,hp=>by cases hp
 |_,_,.ob _ _ _ _ _,hp=>by cases hp
theorem Reps.less(h1:Hs a=some (.ins C dx fs))(h2:Hs r=some (.dK kvs)):∀{vs:List V}{ps:List PV},Reps K Hs vs ps→cy ps=true→Reps K (lX Hs a r) vs ps
 |_,_,.nil,_=>.nil
 |_,_,.cons x t,hp=>by
  unfold cy at hp
  rw[aay]at hp
  exact .cons (Rep.less h1 h2 x hp.1) (Reps.less h1 h2 t hp.2)
end
end
section
variable {K:aT}{H0 Hs0 Hs H:Hp}{σ:PSt}{τ:L2.St}{i:Nat}{ad:Option (Addr×Addr×Addr)}{now:PV}{ns:List Str}{ps:List PV}
theorem SR.lend(S:SR K H0 Hs0 Hs H σ τ)(e:σ[i]? = some (some (.flo ad now ns ps)))(no:ba (σ.set i none)=true):∃(a r C dx:Addr)(fs:List (Str×V))(kvs:List (Key×V))(Hs1:Hp),Hs a=none∧Hs r=none∧Hs1 a=some (.ins C dx fs)∧Hs1 r=some (.dK kvs) ∧
  (∀x,x≠a→x≠r→Hs1 x=Hs x)∧SR K H0 Hs0 Hs1 H (σ.set i (some (.sh (au now ns ps)))) τ:=by
 obtain⟨v,e1,a,C,dx,r,vn,vs,rfl,_,f⟩:=S.slot i _ e
 have har:a≠r:=fun z=>by have:=f.ins;rw[z,f.row]at this;cases this
 refine⟨a,r,C,dx,_,_,upd (upd Hs r (.dK ((ns.map Sum.inr).zip vs))) a (.ins C dx [("now",vn),("rows",.ref r)]),f.sa,f.sr,ak,by rw[aj (Ne.symm har),ak],fun x h1 h2=>by rw[aj h1,aj h2],?_⟩
 generalize hH:upd (upd Hs r (.dK ((ns.map Sum.inr).zip vs))) a (.ins C dx [("now",vn),("rows",.ref r)])=Hs1
 have at_a:Hs1 a=some (.ins C dx [("now",vn),("rows",.ref r)]):=by rw[←hH];exact ak
 have at_r:Hs1 r=some (.dK ((ns.map Sum.inr).zip vs)):=by rw[←hH,aj (Ne.symm har)];exact ak
 have at_x:∀x,x≠a→x≠r→Hs1 x=Hs x:=fun x h1 h2=>by rw[←hH,aj h1,aj h2]
 have sm:aL Hs Hs1:=fun b u h=>by rw[at_x b (fun z=>by rw[z,f.sa]at h;cases h) (fun z=>by rw[z,f.sr]at h;cases h)];exact h
 refine⟨⟨S.g.s.trans sm,fun b u h=>?_,S.g.h,fun x hx hn=>?_⟩,fun j sv ej=>?_,fun j k xs' ys' a' hjk e2 e3 e4=>?_,by rw[aas];exact S.len⟩
 ·by_cases h1:b=a
  ·rw[h1,at_a]at h;cases h;rw[h1];exact f.ins
  ·by_cases h2:b=r
   ·rw[h2,at_r]at h;cases h;rw[h2];exact f.row
   ·rw[at_x b h1 h2]at h;exact S.g.i b u h
 ·rw[at_x x (fun z=>hx (by rw[z];exact f.oa)) (fun z=>hx (by rw[z];exact f.or))]
  exact S.g.o x hx hn
 ·rcases aF ej with ⟨rfl,e',_⟩|⟨hne,e'⟩
  ·cases e'
   exact⟨.ref a,e1,.ob at_a f.cls rfl rfl (.cons (f.now.mono sm) (.cons (.dct at_r rfl f.len (f.rows.mono sm)) .nil))⟩
  ·obtain⟨w,w1,w2⟩:=S.slot j sv e'
   refine⟨w,w1,?_⟩
   cases sv with
   |sh p=>exact Rep.mono sm w2
   |own ys=>
    obtain⟨a',vs',rfl,q1,q2,q3,q4⟩:=w2
    exact⟨a',vs',rfl,q1,(at_x a' (fun z=>by rw[z,f.ins]at q1;cases q1) (fun z=>by rw[z,f.row]at q1;cases q1)).trans q2,q3,q4.mono sm⟩
   |flo tg n2 m2 p2=>exact absurd (by rw[aaa (Ne.symm hne)];exact e') (lU (j:=j) no)
 ·rcases aF e2 with ⟨_,z,_⟩|⟨_,e2'⟩
  ·cases z
  ·rcases aF e3 with ⟨_,z,_⟩|⟨_,e3'⟩
   ·cases z
   ·exact S.inj j k _ _ _ hjk e2' e3' e4
end
def bJ(i:Nat)(d:DE):DE:=fun σ=>match σ[i]? with
 |some (some (.flo _ now ns ps))=>if ba (σ.set i none)=true then (match d (σ.set i (some (.sh (au now ns ps)))) with
  |.ok p=>if ez p=true then .ok p else .stuck
  |_=>.stuck) else .stuck
 |_=>.stuck
section
variable {X:Cx}{H0 Hs0:Hp}{e:Expr}{d:DE}{i:Nat}
theorem B5(h:QE X H0 Hs0 e d):QE X H0 Hs0 e (bJ i d):=PE.imp h fun τ H Q ⟨Hs,σ,S,q⟩=>by
 unfold bJ at q
 split at q
 ·rename_i ad now ns ps es
  split at q
  ·rename_i no
   obtain⟨a,r,C,dx,fs,kvs,Hs1,ha,hr,h1,h2,h3,S1⟩:=S.lend es no
   refine⟨Hs1,_,S1,?_⟩
   split at q
   ·rename_i p ed
    split at q
    ·rename_i hp
     rw[ed]
     intro v Hs' H' g rv
     have sm:aL Hs Hs1:=fun b u z=>by rw[h3 b (fun y=>by rw[y,ha]at z;cases z) (fun y=>by rw[y,hr]at z;cases z)];exact z
     refine q v (lX Hs' a r) H' ⟨fun b u z=>?_,fun b u z=>?_,g.h,fun x hx hn=>?_⟩ (Rep.less (g.s _ _ h1) (g.s _ _ h2) rv hp)
     ·rw[fQ (fun y=>by rw[y,ha]at z;cases z) (fun y=>by rw[y,hr]at z;cases z)]
      exact g.s _ _ (sm _ _ z)
     ·by_cases y1:b=a
      ·rw[y1,tU]at z;cases z
      ·by_cases y2:b=r
       ·rw[y2,tT]at z;cases z
       ·rw[fQ y1 y2]at z;exact g.i _ _ z
     ·by_cases y1:x=a
      ·rw[y1];exact tU
      ·by_cases y2:x=r
       ·rw[y2];exact tT
       ·rw[fQ y1 y2];exact g.o x hx (by rw[h3 x y1 y2];exact hn)
    ·exact q.elim
   ·exact q.elim
  ·exact q.elim
 ·exact q.elim
theorem e9(i:Nat)(h:XE X H0 Hs0 e d):XE X H0 Hs0 e (bJ i d):=⟨B5 h.h⟩
theorem dw{σ:PSt}{ad:Option (Addr×Addr×Addr)}{now p:PV}{ns:List Str}{ps:List PV}(h1:σ[i]? = some (some (.flo ad now ns ps)))(h2:ba (σ.set i none)=true)(h3:d (σ.set i (some (.sh (au now ns ps))))=.ok p)(h4:ez p=true):bJ i d σ=.ok p:=by
 unfold bJ
 rw[h1]
 simp only[h2,if_true,h3,h4]
end
def lO:PV→PV→Res PV
 |.dct ns ps,.str x=>(match (ns.zip ps).lookup x with
  |some p=>.ok p
  |none=>.stuck)
 |_,_=>.stuck
def w6:PV→PV→Res Bool
 |.str x,.dct ns _=>.ok (ns.contains x)
 |_,_=>.stuck
theorem Rep.dct_inv{K:aT}{H:Hp}{v:V}{ns:List Str}{ps:List PV}(r:Rep K H v (.dct ns ps)):∃a vs,v=.ref a∧H a=some (.dK ((ns.map Sum.inr).zip vs))∧ns.length=vs.length∧Reps K H vs ps:=by
 cases r with
 |dct h1 h2 h3 h4=>exact⟨_,_,rfl,by rw[h1,h2],h3,h4⟩
theorem jg{K:aT}{H:Hp}{x:Str}:∀(ns:List Str)(vs:List V)(ps:List PV),ns.length=vs.length→Reps K H vs ps→(gW ((ns.map (Sum.inr:Str→Key)).zip vs) (Sum.inr x)).isSome=ns.contains x∧∀p,(ns.zip ps).lookup x=some p→∃v,gW ((ns.map (Sum.inr:Str→Key)).zip vs) (Sum.inr x)=some v∧Rep K H v p
 |[],vs,ps,_,_=>⟨by cases vs<;>rfl,fun p h=>by simp at h⟩
 |n::ns,[],ps,hl,_=>by simp at hl
 |n::ns,v::vs,p::ps,hl,.cons r rs=>by
  have ih:=jg (x:=x) ns vs ps (by simpa using hl) rs
  rw[aau,abc,abc]
  by_cases h:n=x
  ·subst h
   rw[jh rfl]
   refine⟨by simp,fun q hq=>⟨v,rfl,?_⟩⟩
   have:p=q:=by simpa[aam] using hq
   exact this▸r
  ·have h':(x==n)=false:=by simpa using fun z:x=n=>h z.symm
   rw[ji (fun z=>h (Sum.inr.inj z))]
   refine⟨by rw[ih.1,List.contains_cons,h',Bool.false_or],fun q hq=>ih.2 q ?_⟩
   rw[aam,h']at hq
   exact hq
section
variable {X:Cx}{H0 Hs0:Hp}{a b:Expr}{da db:DE}{pos:Pos}
theorem B7(hu:X.A.units+1<cLine)(ha:QE X H0 Hs0 a da)(hb:QE X H0 Hs0 b db)(hs:AW b):QE X H0 Hs0 (.Subscript a b pos) (e2 lO da db):=
 PE.imp (zJ hu ha hb hs) fun τ H Q h=>RE.mono (two h) fun x H1 h1=>RE.mono h1 fun y H2 ⟨Hs,p,q,i,rp,rq,h2⟩=>by
  unfold lO at h2
  split at h2
  ·split at h2
   ·rename_i ns ps z ro w hw
    obtain⟨ad,vs,rfl,e1,e2,e3⟩:=rp.dct_inv
    cases rq.str_inv
    obtain⟨v,hv,rv⟩:=(jg ns vs ps e2 e3).2 w hw
    exact⟨ad,v,rfl,by rw[←hv];exact qS.k (k:=Sum.inr z) (i _ _ e1),h2 v Hs H2 (.refl i) rv⟩
   ·exact h2.elim
  ·exact h2.elim
theorem AZ(ha:XE X H0 Hs0 a da)(hb:XE X H0 Hs0 b db)(hu:X.A.units+20<cLine)(hs:AW b:=by exact fun _ _=>rfl):XE X H0 Hs0 (.Subscript a b pos) (e2 lO da db):=⟨B7 (by omega) ha.h hb.h hs⟩
def pQ(neg:Bool)(da db:DE):DT:=fun σ=>(da σ).bind fun p=>(db σ).bind fun q=>(w6 p q).bind fun c=>.ok (c ^^ neg)
theorem D8{g:PV→PV→Res Bool}{τ:L2.St}{H:Hp}{Q:Bool→Hp→Prop}(h:RT X H0 Hs0 (fun σ=>(da σ).bind fun p=>(db σ).bind fun q=>g p q) τ H Q):
  RE X H0 Hs0 da τ H fun x H1=>RE X H0 Hs0 db τ H1 fun y H2=>∃Hs p q,aL Hs H2∧Rep X.K Hs x p∧Rep X.K Hs y q∧mG Hs H2 (g p q) (a8 X H0 Hs0) Q:=by
 obtain⟨Hs,σ,S,h⟩:=h
 have h:mG Hs H ((da σ).bind fun p=>(db σ).bind fun q=>g p q) (a8 X H0 Hs0) Q:=h
 refine⟨Hs,σ,S,?_⟩
 cases e1:da σ with
 |err c=>rw[e1]at h;exact h
 |stuck=>rw[e1]at h;exact h
 |ok p=>
  rw[e1]at h
  intro x Hs1 H1 g1 r1
  refine⟨Hs1,σ,S.grow g1,?_⟩
  cases e2:db σ with
  |err c=>simp only[Res.bind_ok,e2]at h;exact h
  |stuck=>simp only[Res.bind_ok,e2]at h;exact h
  |ok q=>
   simp only[Res.bind_ok,e2]at h
   intro y Hs2 H2 g2 r2
   exact⟨Hs2,p,q,g2.i,r1.mono g2.s,r2,mG.grow h (g1.trans g2)⟩
theorem DZ(ha:XE X H0 Hs0 a da)(hb:XE X H0 Hs0 b db)(hu:X.A.units+20<cLine)(hm:behindInMarks .In b=false:=by rfl):XT X H0 Hs0 (.Compare a [.In] [b] pos) (pQ false da db):=
 ⟨PT.imp (wG (Cu (by omega) ha.h hb.h) hm) fun τ H Q h=>RE.mono (D8 h) fun y H1 h1=>RE.mono h1 fun x H2 ⟨Hs,p,q,i,rp,rq,h2⟩=>by
  unfold w6 at h2
  split at h2
  ·rename_i z ns ps
   cases rp.str_inv
   obtain⟨ad,vs,rfl,e1,e2,e3⟩:=rq.dct_inv
   refine⟨ad,_,rfl,qS.k (k:=Sum.inr z) (i _ _ e1),_,rfl,?_⟩
   rw[(jg ns vs ps e2 e3).1]
   have h2:∀Hs' H',Grow Hs H2 Hs' H'→Q (ns.contains z ^^ false) H':=h2
   rw[Bool.xor_false]at h2
   exact h2 Hs H2 (.refl i)
  ·exact h2.elim⟩
theorem vE(ha:XE X H0 Hs0 a da)(hb:XE X H0 Hs0 b db)(hu:X.A.units+20<cLine)(hm:behindInMarks .NotIn b=false:=by rfl):XT X H0 Hs0 (.Compare a [.NotIn] [b] pos) (pQ true da db):=
 ⟨PT.imp (wG (uU (by omega) ha.h hb.h) hm) fun τ H Q h=>RE.mono (D8 h) fun y H1 h1=>RE.mono h1 fun x H2 ⟨Hs,p,q,i,rp,rq,h2⟩=>by
  unfold w6 at h2
  split at h2
  ·rename_i z ns ps
   cases rp.str_inv
   obtain⟨ad,vs,rfl,e1,e2,e3⟩:=rq.dct_inv
   refine⟨ad,_,rfl,qS.k (k:=Sum.inr z) (i _ _ e1),_,rfl,?_⟩
   rw[(jg ns vs ps e2 e3).1]
   have h2:∀Hs' H',Grow Hs H2 Hs' H'→Q (ns.contains z ^^ true) H':=h2
   rw[Bool.xor_true]at h2
   exact h2 Hs H2 (.refl i)
  ·exact h2.elim⟩
end
section
variable {K:aT}{H0 Hs0 Hs H Hs' H':Hp}{σ:PSt}{τ:L2.St}{i:Nat}{ad:Option (Addr×Addr×Addr)}{now now':PV}{ns ns':List Str}{ps ps':List PV}{a C dx r:Addr}{vn vn':V}{vs vs':List V}
theorem SR.writeFlo(S:SR K H0 Hs0 Hs H σ τ)(e:σ[i]? = some (some (.flo ad now ns ps)))(no:ba (σ.set i none)=true)(eτ:τ[i]? = some (some (.ref a)))(t:∀z,ad=some z→z=(a,dx,r))(f:FloAt K H0 Hs H a C dx r vn vs now ns ps)
  (s:aL Hs Hs') (i':aL Hs' H') (h:∀x u,x≠a→x≠dx→x≠r→H x=some u→H' x=some u) (o:∀x,H x≠none→Hs x=none→Hs' x=none) (f':FloAt K H0 Hs' H' a C dx r vn' vs' now' ns' ps'):
  SR K H0 Hs0 Hs' H' (σ.set i (some (.flo ad now' ns' ps'))) τ:=by
 refine⟨⟨S.g.s.trans s,i',fun b u q=>?_,fun x hx hn=>?_⟩,fun j sv ej=>?_,fun j k xs ys a' hjk e1 e2 e3=>?_,by rw[aas];exact S.len⟩
 ·exact h b u (fun z=>by rw[z,f.oa]at q;cases q) (fun z=>by rw[z,f.od]at q;cases q) (fun z=>by rw[z,f.or]at q;cases q) (S.g.h b u q)
 ·refine o x (fun z=>?_) (S.g.o x hx hn)
  cases q:H0 x with
  |none=>exact hx q
  |some u=>rw[S.g.h x u q]at z;cases z
 ·rcases aF ej with ⟨rfl,e',_⟩|⟨hne,e'⟩
  ·cases e'
   exact⟨.ref a,eτ,a,C,dx,r,vn',vs',rfl,t,f'⟩
  ·obtain⟨w,w1,w2⟩:=S.slot j sv e'
   refine⟨w,w1,?_⟩
   cases sv with
   |sh p=>exact Rep.mono s w2
   |own ys=>
    obtain⟨b,ws,rfl,q1,q2,q3,q4⟩:=w2
    exact⟨b,ws,rfl,h b _ (fun z=>by rw[z,f.ins]at q1;cases q1) (fun z=>by rw[z,f.dct]at q1;cases q1) (fun z=>by rw[z,f.row]at q1;cases q1) q1,o b (by rw[q1];exact fun z=>nomatch z) q2,q3,q4.mono s⟩
   |flo tg n2 m2 p2=>exact absurd (by rw[aaa (Ne.symm hne)];exact e') (lU (j:=j) no)
 ·rcases aF e1 with ⟨_,z,_⟩|⟨_,e1'⟩
  ·cases z
  ·rcases aF e2 with ⟨_,z,_⟩|⟨_,e2'⟩
   ·cases z
   ·exact S.inj j k _ _ _ hjk e1' e2' e3
theorem FloAt.ar(f:FloAt K H0 Hs H a C dx r vn vs now ns ps):a≠r:=fun z=>by have:=f.ins;rw[z,f.row]at this;cases this
theorem FloAt.nad(f:FloAt K H0 Hs H a C dx r vn vs now ns ps):a≠dx:=fun z=>by have:=f.ins;rw[z,f.dct]at this;cases this
theorem FloAt.dr(f:FloAt K H0 Hs H a C dx r vn vs now ns ps):dx≠r:=fun z=>by have:=f.dct;rw[z,f.row]at this;cases this
theorem FloAt.setNow (f:FloAt K H0 Hs H a C dx r vn vs now ns ps) (rn:Rep K Hs vn' now'):FloAt K H0 Hs (upd H a (.ins C dx [("now",vn'),("rows",.ref r)])) a C dx r vn' vs now' ns ps:=
 ⟨ak,f.cls,(aj (Ne.symm f.nad)).trans f.dct,(aj (Ne.symm f.ar)).trans f.row,f.len,f.sa,f.sd,f.sr,f.oa,f.od,f.or,rn,f.rows⟩
theorem FloAt.setRows(f:FloAt K H0 Hs H a C dx r vn vs now ns ps)(hl:ns'.length=vs'.length)(rr:Reps K Hs vs' ps'):FloAt K H0 Hs (upd H r (.dK ((ns'.map Sum.inr).zip vs'))) a C dx r vn vs' now ns' ps':=
 ⟨(aj f.ar).trans f.ins,f.cls,(aj f.dr).trans f.dct,ak,hl,f.sa,f.sd,f.sr,f.oa,f.od,f.or,f.now,rr⟩
end
def zg(i:Nat)(da:DE):DS:=fun σ=>(da σ).bind fun p=>match σ[i]? with
 |some (some (.flo ad _ ns ps))=>if ba (σ.set i none)=true then .ok (.next (σ.set i (some (.flo ad p ns ps)))) else .stuck
 |_=>.stuck
def jS(x:Str)(p:PV):List Str→List PV→Option (List Str×List PV)
 |[],[]=>some ([x],[p])
 |[n],[_]=>if n=x then some ([x],[p]) else none
 |_,_=>none
def v9(i:Nat)(σ:PSt)(p:PV)(q:PV):Res Fl:=match q,σ[i]? with
 |.str x,some (some (.flo ad now ns ps))=>(match jS x p ns ps,ba (σ.set i none) with
  |some (ns',ps'),true=>.ok (.next (σ.set i (some (.flo ad now ns' ps'))))
  |_,_=>.stuck)
 |_,_=>.stuck
def oC(i:Nat)(dk dv:DE):DS:=fun σ=>(dv σ).bind fun p=>match σ[i]? with
 |some (some (.flo _ _ _ _))=>(dk σ).bind fun q=>v9 i σ p q
 |_=>.stuck
def Cf(i:Nat)(σ:PSt)(q:PV):Res Fl:=match q,σ[i]? with
 |.str x,some (some (.flo ad now [n] [_]))=>if n=x∧ba (σ.set i none)=true then .ok (.next (σ.set i (some (.flo ad now [] [])))) else .stuck
 |_,_=>.stuck
def iw(i:Nat)(dk:DE):DS:=fun σ=>match σ[i]? with
 |some (some (.flo _ _ _ _))=>(dk σ).bind fun q=>Cf i σ q
 |_=>.stuck
section
variable {X:Cx}{H0 Hs0:Hp}{a b:Expr}{da db:DE}{pos pos' np apos cpos:Pos}{i:Nat}{x:Str}
theorem BV (T:FldAt X.K "Floor" "now") (hN:X.N[i]? = some x) (hv:Vis X.env.scope x) (hd:(x==("__debug__":Str))=false) (hcd:(x==("__classdict__":Str))=false) (ha:QE X H0 Hs0 a da)
  (hs:swapsWith a (some (.Attribute (.Name x np) "now" pos')) pos.line X.env=pure false):QS X H0 Hs0 (.Assign [.Attribute (.Name x np) "now" pos'] a pos) (zg i da):=
 PS.imp (rF (dJ hN hv hd hcd) ha hs) fun D τ H ⟨Hs,σ,S,h⟩=>⟨Hs,σ,S,Ret.mono (fH.bind1 h) fun v H1 ⟨Hs1,p,g1,r1,h1⟩=>by
  split at h1
  ·rename_i ad now ns ps e
   split at h1
   ·rename_i no
    have S1:=S.grow g1
    obtain⟨w,e1,ad',C,dx,r,vn,vs,rfl,t,f⟩:=S1.slot i _ e
    obtain⟨C',t1,t2,t3⟩:=T.ex
    cases t1.inj f.cls
    refine⟨.ref ad',e1,ad',_,dx,_,rfl,f.ins,(dW t2).cl,t3,(show(2:Nat)<1000 by decide),?_⟩
    have ep:fB "now" v ([("now",vn),("rows",V.ref r)]:List (Str×V))=([("now",v),("rows",V.ref r)]:List (Str×V)):=by simp[fB]
    rw[ep]
    exact h1 Hs1 _ τ (aL.refl _) (S1.writeFlo e no e1 t f (aL.refl _) (fun b u z=>by rw[aj (fun y=>by rw[y,f.sa]at z;cases z)];exact g1.i _ _ z) (fun y u h _ _ z=>by rw[aj h];exact z) (fun _ _ z=>z) (f.setNow r1))
   ·exact h1.elim
  ·exact h1.elim⟩
theorem FX (i:Nat) (T:FldAt X.K "Floor" "now") (ha:XE X H0 Hs0 a da) (hN:X.N[i]? = some x:=by rfl) (hv:Vis X.env.scope x:=by first|exact Or.inl rfl|exact Or.inr (Or.inl rfl)|exact Or.inr (Or.inr rfl)) (hd:(x==("__debug__":Str))=false:=by decide) (hcd:(x==("__classdict__":Str))=false:=by decide)
  (hs:swapsWith a (some (.Attribute (.Name x np) "now" pos')) pos.line X.env=pure false:=by rfl):XS X H0 Hs0 (.Assign [.Attribute (.Name x np) "now" pos'] a pos) (zg i da):=⟨BV T hN hv hd hcd ha.h hs⟩
theorem BP (T:FldAt X.K "Floor" "rows") (hu:X.A.units+1<cLine) (hN:X.N[i]? = some x) (hv:Vis X.env.scope x) (hd:(x==("__debug__":Str))=false) (hcd:(x==("__classdict__":Str))=false) (hb:QE X H0 Hs0 b db) (ha:QE X H0 Hs0 a da)
  (hbase:attributeBase (.Name x np) "rows" X.env (eval (.Name x np) X.env)=eval (.Name x np) X.env)
  (hs:swapsWith a (some (.Subscript (.Attribute (.Name x np) "rows" apos) b pos')) pos.line X.env=pure false):QS X H0 Hs0 (.Assign [.Subscript (.Attribute (.Name x np) "rows" apos) b pos'] a pos) (oC i db da):=
 PS.imp (zE hu (rL (dJ hN hv hd hcd) hbase) hb ha hs) fun D τ H ⟨Hs,σ,S,h⟩=>⟨Hs,σ,S,Ret.mono (fH.bind1 h) fun v H1 ⟨Hs1,p,g1,r1,h1⟩=>by
  split at h1
  ·rename_i ad0 now0 ns0 ps0 e
   have S1:=S.grow g1
   obtain⟨w,e1,ad1,C1,dx1,r01,vn1,vs1,rfl,t',f1⟩:=S1.slot i _ e
   obtain⟨C',t1,t2,t3⟩:=T.ex
   cases t1.inj f1.cls
   refine⟨.ref ad1,e1,ad1,_,dx1,_,.ref r01,rfl,f1.ins,(dW t2).cl,t3,rfl,Hs1,σ,S1,Ret.mono (fH.bind1 h1) fun y H2 ⟨Hs2,q,g2,rq,h2⟩=>?_⟩
   have S2:=S1.grow g2
   have f:=f1.grow g2
   have r1':=r1.mono g2.s
   unfold v9 at h2
   split at h2
   ·rename_i z ad now ns ps e'
    rw[e]at e'
    cases e'
    split at h2
    ·rename_i ns' ps' hput no
     cases rq.str_inv
     refine⟨r01,_,rfl,DU.k (k:=Sum.inr z) f.row ?_,?_⟩
     ·rw[List.length_zip,aad,←f.len,Nat.min_self,sizeLine_eq]
      have:=f.rows.length
      revert hput
      unfold jS
      split<;>intro hput
      ·decide
      ·show(1:Nat)<_
       decide
      ·cases hput
     ·have key:∃vs',ns'.length=vs'.length∧Reps X.K Hs2 vs' ps'∧putK ((ns0.map Sum.inr).zip vs1) (Sum.inr z) v=(ns'.map (Sum.inr:Str→Key)).zip vs':=by
       revert hput
       unfold jS
       split
       ·intro hput
        cases hput
        have:vs1=[]:=by have:=f.len;simpa using this.symm
        subst this
        exact⟨[v],rfl,.cons r1' .nil,by simp[putK]⟩
       ·split
        ·rename_i hz
         intro hput
         cases hput
         subst hz
         have hl:=f.len
         match vs1,hl with
         |[v0],_=>exact⟨[v],rfl,.cons r1' .nil,by simp[putK]⟩
        ·intro hput;cases hput
       ·intro hput;cases hput
      obtain⟨vs',k1,k2,k3⟩:=key
      rw[k3]
      exact h2 Hs2 _ τ (aL.refl _) (S2.writeFlo e no e1 t' f (aL.refl _) (fun b u z=>by rw[aj (fun y=>by rw[y,f.sr]at z;cases z)];exact g2.i _ _ z) (fun y u _ _ h z=>by rw[aj h];exact z) (fun _ _ z=>z) (f.setRows k1 k2))
    ·exact h2.elim
   ·exact h2.elim
  ·exact h1.elim⟩
theorem Bl (i:Nat) (T:FldAt X.K "Floor" "rows") (hb:XE X H0 Hs0 b db) (ha:XE X H0 Hs0 a da) (hu:X.A.units+20<cLine) (hN:X.N[i]? = some x:=by rfl) (hv:Vis X.env.scope x:=by first|exact Or.inl rfl|exact Or.inr (Or.inl rfl)|exact Or.inr (Or.inr rfl)) (hd:(x==("__debug__":Str))=false:=by decide) (hcd:(x==("__classdict__":Str))=false:=by decide)
  (hbase:attributeBase (.Name x np) "rows" X.env (eval (.Name x np) X.env)=eval (.Name x np) X.env:=by rfl)
  (hs:swapsWith a (some (.Subscript (.Attribute (.Name x np) "rows" apos) b pos')) pos.line X.env=pure false:=by rfl):XS X H0 Hs0 (.Assign [.Subscript (.Attribute (.Name x np) "rows" apos) b pos'] a pos) (oC i db da):=⟨BP T (by omega) hN hv hd hcd hb.h ha.h hbase hs⟩
theorem uM {cp:Pos} (T:FldAt X.K "Floor" "rows") (hN:X.N[i]? = some x) (hv:Vis X.env.scope x) (hd:(x==("__debug__":Str))=false) (hcd:(x==("__classdict__":Str))=false) (hb:QE X H0 Hs0 b db)
  (hbase:attributeBase (.Name x np) "rows" X.env (eval (.Name x np) X.env)=eval (.Name x np) X.env) (m:M1 X (.Attribute (.Name x np) "rows" apos) "pop" pos' b cpos) (hs:swapsWith (.Call (.Attribute (.Attribute (.Name x np) "rows" apos) "pop" pos') [b] [] cpos) none cp.line X.env=pure false):
  QS X H0 Hs0 (.Expr (.Call (.Attribute (.Attribute (.Name x np) "rows" apos) "pop" pos') [b] [] cpos) cp) (iw i db):=
 PS.imp (jo (wW (rL (dJ hN hv hd hcd) hbase) hb m) hs) fun D τ H ⟨Hs,σ,S,h⟩=>by
  unfold iw at h
  split at h
  ·rename_i ad0 now0 ns0 ps0 e
   obtain⟨w,e1,ad1,C1,dx1,r01,vn1,vs1,rfl,t',f1⟩:=S.slot i _ e
   obtain⟨C',t1,t2,t3⟩:=T.ex
   cases t1.inj f1.cls
   refine⟨.ref ad1,e1,ad1,_,dx1,_,.ref r01,rfl,f1.ins,(dW t2).cl,t3,rfl,r01,rfl,.inl ⟨_,.inl f1.row⟩,Hs,σ,S,Ret.mono (fH.bind1 h) fun y H2 ⟨Hs2,q,g2,rq,h2⟩=>?_⟩
   have S2:=S.grow g2
   have f:=f1.grow g2
   unfold Cf at h2
   split at h2
   ·rename_i z ad now n q0 e'
    rw[e]at e'
    cases e'
    split at h2
    ·rename_i hc
     obtain⟨rfl,no⟩:=hc
     cases rq.str_inv
     have hl:=f.len
     match vs1,hl,f with
     |[v0],_,f=>
      refine⟨_,Sum.inr n,v0,f.row,rfl,by simp[gW],?_⟩
      have k3:mr (([n].map (Sum.inr:Str→Key)).zip [v0]) (Sum.inr n)=(([]:List Str).map (Sum.inr:Str→Key)).zip ([]:List V):=by simp[mr]
      rw[k3]
      exact h2 Hs2 _ τ (aL.refl _) (S2.writeFlo e no e1 t' f (aL.refl _) (fun b u z=>by rw[aj (fun y=>by rw[y,f.sr]at z;cases z)];exact g2.i _ _ z) (fun y u _ _ h z=>by rw[aj h];exact z) (fun _ _ z=>z) (f.setRows rfl .nil))
    ·exact h2.elim
   ·exact h2.elim
  ·exact h.elim
theorem yR (i:Nat) {cp:Pos} (T:FldAt X.K "Floor" "rows") (hb:XE X H0 Hs0 b db) (hN:X.N[i]? = some x:=by rfl) (hv:Vis X.env.scope x:=by first|exact Or.inl rfl|exact Or.inr (Or.inl rfl)|exact Or.inr (Or.inr rfl)) (hd:(x==("__debug__":Str))=false:=by decide) (hcd:(x==("__classdict__":Str))=false:=by decide)
  (hbase:attributeBase (.Name x np) "rows" X.env (eval (.Name x np) X.env)=eval (.Name x np) X.env:=by rfl) (m:M1 X (.Attribute (.Name x np) "rows" apos) "pop" pos' b cpos:=by exact⟨rfl,rfl,rfl,rfl⟩) (hs:swapsWith (.Call (.Attribute (.Attribute (.Name x np) "rows" apos) "pop" pos') [b] [] cpos) none cp.line X.env=pure false:=by rfl):
  XS X H0 Hs0 (.Expr (.Call (.Attribute (.Attribute (.Name x np) "rows" apos) "pop" pos') [b] [] cpos) cp) (iw i db):=⟨uM T hN hv hd hcd hb.h hbase m hs⟩
end
structure FO where
 now:PV
 ns:List Str
 ps:List PV
abbrev Ad:=Addr×Addr×Addr
abbrev DW:=PSt→Res (PV×PSt)
abbrev MW:=Ad→FO→List PV→Res (PV×FO)
def hole(H:Hp)(a dx r:Addr):Hp:=fun x=>if x=a∨x=dx∨x=r then none else H x
theorem t8{H:Hp}{a dx r x:Addr}(h1:x≠a)(h2:x≠dx)(h3:x≠r):hole H a dx r x=H x:=if_neg (fun z=>z.elim h1 fun z=>z.elim h2 h3)
theorem vf{H:Hp}{a dx r x:Addr}{u:HO}(h:hole H a dx r x=some u):x≠a∧x≠dx∧x≠r∧H x=some u:=by
 unfold hole at h
 split at h
 ·cases h
 ·rename_i z
  exact⟨fun y=>z (.inl y),fun y=>z (.inr (.inl y)),fun y=>z (.inr (.inr y)),h⟩
section
variable (X:Cx)(H0 Hs0:Hp)
def Hn(D:Ends):Res (PV×PSt)→Prop
 |.ok (p,σ')=>(∀v Hs' H' τ',SR X.K H0 Hs0 Hs' H' σ' τ'→Rep X.K Hs' v p→D.rt v H')∧(p=.non→∀Hs' H' τ',SR X.K H0 Hs0 Hs' H' σ' τ'→D.nx τ' H')
 |_=>False
def RSW(d:DW):TS:=fun D τ H=>∃Hs σ,SR X.K H0 Hs0 Hs H σ τ∧Hn X H0 Hs0 D (d σ)
structure XWs (ss:List Stmt) (d:DW):Prop where
 h:PSs X ss (RSW X H0 Hs0 d)
def DN(Hs:Hp)(τ:L2.St)(Q:VK):Res (PV×PSt)→Prop
 |.ok (p,σ')=>∀v Hs' H',aL Hs Hs'→SR X.K H0 Hs0 Hs' H' σ' τ→Rep X.K Hs' v p→Q v H'
 |.err c=>a8 X H0 Hs0 c
 |.stuck=>False
def REW(d:DW):TE:=fun τ H Q=>∃Hs σ,SR X.K H0 Hs0 Hs H σ τ∧DN X H0 Hs0 Hs τ Q (d σ)
structure XEW (e:Expr) (d:DW):Prop where
 h:PE X e (REW X H0 Hs0 d)
def Fn(Hs:Hp)(τ:L2.St)(Q:Bool→Hp→Prop):Res (Bool×PSt)→Prop
 |.ok (b,σ')=>∀Hs' H',aL Hs Hs'→SR X.K H0 Hs0 Hs' H' σ' τ→Q b H'
 |.err c=>a8 X H0 Hs0 c
 |.stuck=>False
def RTW(d:PSt→Res (Bool×PSt)):TT:=fun τ H Q=>∃Hs σ,SR X.K H0 Hs0 Hs H σ τ∧Fn X H0 Hs0 Hs τ Q (d σ)
structure XTW (e:Expr) (d:PSt→Res (Bool×PSt)):Prop where
 h:PT X e (RTW X H0 Hs0 d)
end
def gJ(d1:DS)(d2:DW):DW:=fun σ=>match d1 σ with
 |.ok (.next σ')=>d2 σ'
 |_=>.stuck
def pM(d1:DS):DW:=fun σ=>match d1 σ with
 |.ok (.next σ')=>.ok (.non,σ')
 |_=>.stuck
def oq(da:DE):DW:=fun σ=>match da σ with
 |.ok p=>.ok (p,σ)
 |_=>.stuck
def qV(i:Nat)(d:DW):DW:=fun σ=>match σ[i]? with
 |some (some (.own xs))=>d (σ.set i (some (.sh (.lst xs))))
 |_=>d σ
def gb(d:DW):DS:=fun σ=>match d σ with
 |.ok (_,σ')=>.ok (.next σ')
 |.err c=>.err c
 |.stuck=>.stuck
def tcW(g:PV→PV→Res PV)(da:DW)(db:DE):PSt→Res (Bool×PSt):=fun σ=>match da σ with
 |.ok (p,σ')=>(match (db σ').bind fun q=>(g p q).bind asB with
  |.ok b=>.ok (b,σ')
  |_=>.stuck)
 |_=>.stuck
def orW(ta:PSt→Res (Bool×PSt))(tb:DT):PSt→Res (Bool×PSt):=fun σ=>match ta σ with
 |.ok (true,σ')=>.ok (true,σ')
 |.ok (false,σ')=>(match tb σ' with
  |.ok b=>.ok (b,σ')
  |_=>.stuck)
 |_=>.stuck
def oH(t:PSt→Res (Bool×PSt))(d1 d2:DS):DS:=fun σ=>match t σ with
 |.ok (b,σ')=>if b=true then d1 σ' else d2 σ'
 |_=>.stuck
def pZ(i:Nat)(d:DW):DS:=fun σ=>match σ[i]? with
 |some (some (.own _))=>(match d σ with
  |.ok (p,σ')=>(match σ'[i]? with
   |some (some (.own xs))=>if xs.length<10000000 then .ok (.next (σ'.set i (some (.own (xs++[p]))))) else .stuck
   |_=>.stuck)
  |_=>.stuck)
 |_=>.stuck
section
variable {X:Cx}{H0 Hs0:Hp}{st:Stmt}{sts ss1 ss2:List Stmt}{d1 d2:DS}{d:DW}{a b e c:Expr}{da db:DE}{wa:DW}{pos np apos cpos:Pos}{i:Nat}{x:Str}{t:PSt→Res (Bool×PSt)}{tb:DT}
theorem xws(h1:XS X H0 Hs0 st d1)(h2:XWs X H0 Hs0 sts d):XWs X H0 Hs0 (st::sts) (gJ d1 d):=⟨PSs.imp (jn h1.h h2.h) fun D τ H ⟨Hs,σ,S,h⟩=>⟨Hs,σ,S,by
 unfold gJ at h
 split at h
 ·rename_i σ' e
  rw[e]
  exact fun Hs' H' τ' _ S'=>⟨Hs',σ',S',h⟩
 ·exact h.elim⟩⟩
theorem sQ(h1:XS X H0 Hs0 st d1):XWs X H0 Hs0 [st] (pM d1):=⟨PSs.imp (jm h1.h) fun D τ H ⟨Hs,σ,S,h⟩=>⟨Hs,σ,S,by
 unfold pM at h
 split at h
 ·rename_i σ' e
  rw[e]
  exact fun Hs' H' τ' _ S'=>h.2 rfl Hs' H' τ' S'
 ·exact h.elim⟩⟩
theorem AX(ha:XE X H0 Hs0 a da):XWs X H0 Hs0 [.Return (some a) pos] (oq da):=⟨PSs.imp (jm (rE ha.h)) fun D τ H ⟨Hs,σ,S,h⟩=>⟨Hs,σ,S,by
 unfold oq at h
 split at h
 ·rename_i p e
  rw[e]
  exact fun v Hs' H' g r=>h.1 v Hs' H' τ (S.grow g) r
 ·exact h.elim⟩⟩
theorem yN(i:Nat)(h:XWs X H0 Hs0 sts d):XWs X H0 Hs0 sts (qV i d):=⟨PSs.imp h.h fun D τ H ⟨Hs,σ,S,q⟩=>by
 unfold qV at q
 split at q
 ·rename_i xs e
  obtain⟨Hs',_,S'⟩:=S.share e
  exact⟨Hs',_,S',q⟩
 ·exact⟨Hs,σ,S,q⟩⟩
theorem kW(h:XEW X H0 Hs0 e d)(hs:swapsWith e none pos.line X.env=pure false:=by rfl):XS X H0 Hs0 (.Expr e pos) (gb d):=⟨PS.imp (jo h.h hs) fun D τ H ⟨Hs,σ,S,q⟩=>⟨Hs,σ,S,by
 unfold gb at q
 cases ed:d σ with
 |ok r=>
  obtain⟨p,σ'⟩:=r
  rw[ed]at q
  exact fun v Hs' H' s S' _=>q Hs' H' τ s S'
 |err c=>rw[ed]at q;exact q
 |stuck=>rw[ed]at q;exact q⟩⟩
theorem Bk{op:CmpOp}{g:PV→PV→Res PV}(ho:OpP X (compareOp op) g)(ha:XEW X H0 Hs0 a wa)(hb:XE X H0 Hs0 b db)(hm:fN b=true:=by rfl):XTW X H0 Hs0 (.Compare a [op] [b] pos) (tcW g wa db):=
 ⟨PT.imp (tm (ho (a8 X H0 Hs0)) ha.h hb.h (jr hm)) fun τ H Q ⟨Hs,σ,S,q⟩=>by
  refine⟨Hs,σ,S,?_⟩
  unfold tcW at q
  split at q
  ·rename_i p σ' e
   rw[e]
   intro v Hs1 H1 s1 S1 r1
   split at q
   ·rename_i k ek
    refine⟨Hs1,σ',S1,?_⟩
    cases e2:db σ' with
    |err c=>rw[e2]at ek;cases ek
    |stuck=>rw[e2]at ek;cases ek
    |ok y=>
     rw[e2]at ek
     intro w Hs2 H2 g2 r2
     refine⟨Hs2,p,y,g2.i,r1.mono g2.s,r2,?_⟩
     have ek:(g p y).bind asB=.ok k:=ek
     cases e3:g p y with
     |err c=>rw[e3]at ek;cases ek
     |stuck=>rw[e3]at ek;cases ek
     |ok z=>
      rw[e3]at ek
      have ek:asB z=.ok k:=ek
      intro u Hs3 H3 g3 r3
      cases z with
      |bl kk=>
       cases ek
       cases r3.bl_inv
       exact⟨_,rfl,q Hs3 H3 ((s1.trans g2.s).trans g3.s) ((S1.grow g2).grow g3)⟩
      |_=>cases ek
   ·exact q.elim
  ·exact q.elim⟩
theorem D1{ta:PSt→Res (Bool×PSt)}(ha:XTW X H0 Hs0 a ta)(hb:XT X H0 Hs0 b tb):XTW X H0 Hs0 (.BoolOp .Or [a,b] pos) (orW ta tb):=
 ⟨PT.imp (PW.pt (A8 ha.h (wF hb.h))) fun τ H Q ⟨Hs,σ,S,q⟩=>by
  refine⟨Hs,σ,S,?_⟩
  unfold orW at q
  split at q
  ·rename_i σ' e
   rw[e]
   exact fun Hs1 H1 s1 S1=>q Hs1 H1 s1 S1
  ·rename_i σ' e
   rw[e]
   intro Hs1 H1 s1 S1
   refine⟨Hs1,σ',S1,?_⟩
   split at q
   ·rename_i k ek
    rw[ek]
    exact fun Hs2 H2 g2=>q Hs2 H2 (s1.trans g2.s) (S1.grow g2)
   ·exact q.elim
  ·exact q.elim⟩
theorem vG(hc:XTW X H0 Hs0 c t)(h1:XB X H0 Hs0 ss1 d1)(h2:XB X H0 Hs0 ss2 d2):XS X H0 Hs0 (.If c ss1 ss2 pos) (oH t d1 d2):=
 ⟨PS.imp (A9 hc.h h1.h h2.h) fun D τ H ⟨Hs,σ,S,q⟩=>by
  refine⟨Hs,σ,S,?_⟩
  unfold oH at q
  split at q
  ·rename_i k σ' e
   rw[e]
   intro Hs1 H1 s1 S1
   cases k with
   |true=>exact⟨Hs1,σ',S1,fH.same q s1⟩
   |false=>exact⟨Hs1,σ',S1,fH.same q s1⟩
  ·exact q.elim⟩
theorem D6 (i:Nat) (ha:XEW X H0 Hs0 a d) (hN:X.N[i]? = some x:=by rfl) (hv:Vis X.env.scope x:=by first|exact Or.inl rfl|exact Or.inr (Or.inl rfl)|exact Or.inr (Or.inr rfl)) (hd:(x==("__debug__":Str))=false:=by decide) (hcd:(x==("__classdict__":Str))=false:=by decide)
  (hbase:attributeBase (.Name x np) "append" X.env (eval (.Name x np) X.env)=eval (.Name x np) X.env:=by rfl)
  (hfew:((backTo cpos (starEach [a] X.env)).all (fun x=>!x.1)&&(backToKw cpos (keywordEach [] X.env)).all (fun x=>x.1.isSome)
   && decide ([a].length+([]:List Keyword).length+(if ([]:List Keyword).isEmpty then 0 else 1)<30))=true:=by rfl)
  (hline:(apos.endLine==cpos.line)=true:=by rfl) (hs:noStar a=true:=by rfl)
  (hsw:swapsWith (.Call (.Attribute (.Name x np) "append" apos) [a] [] cpos) none pos.line X.env=pure false:=by rfl):
  XS X H0 Hs0 (.Expr (.Call (.Attribute (.Name x np) "append" apos) [a] [] cpos) pos) (pZ i d):=⟨by
 intro pins s τ H D I ⟨Hs,σ,S,h⟩
 refine jo (Bb PySem.F.plainAttrs_list PySem.F.slot_list_append PySem.F.type_list_append iE (dJ hN hv hd hcd) (bX ha.h eB (aA hs)) hbase hfew hline (aA hs) rfl) hsw pins s τ H D I ?_
 unfold pZ at h
 split at h
 ·rename_i xs0 e
  obtain⟨v,e1,ad,vs,rfl,h1,h2,h3,h4⟩:=S.slot i _ e
  refine⟨_,e1,.inl ⟨rfl,vs,SqL.of h1⟩,Hs,σ,S,?_⟩
  split at h
  ·rename_i p σ' ed
   rw[ed]
   intro y Hs1 H1 s1 S1 r1
   split at h
   ·rename_i xs es
    split at h
    ·rename_i hl
     obtain⟨v',e1',ad',vs',e2',h1',h2',h3',h4'⟩:=S1.slot i _ es
     rw[e1]at e1'
     cases e1'
     cases e2'
     exact⟨ad,vs',y,rfl,rfl,h1',by rw[h4'.length,sizeLine_eq];omega,h Hs1 _ τ s1 (S1.write i es e1 h2' h3' (h4'.append (.cons r1 .nil)))⟩
    ·exact h.elim
   ·exact h.elim
  ·exact h.elim
 ·exact h.elim⟩
end
def Hl(K:aT)(Hs H:Hp)(a C dx r:Addr)(Q:VK):Res (PV×FO)→Prop
 |.ok (p,o')=>∀v Hs' H' vn' ws',aL Hs Hs'→aL Hs' H'→(∀x u,x≠a→x≠dx→x≠r→H x=some u→H' x=some u)→(∀x,H x≠none→Hs x=none→Hs' x=none) →
   FloAt K (fun _=>none) Hs' H' a C dx r vn' ws' o'.now o'.ns o'.ps→Rep K Hs' v p→Q v H'
 |_=>False
def DQ(K:aT)(n:Nat)(M:MW):Sp:=fun vs H Q _=>∃(a C dx r:Addr)(vn:V)(ws us:List V)(Hs:Hp)(o:FO)(qs:List PV),vs=.ref a::us∧vs.length=n∧aL Hs H ∧
 FloAt K (fun _=>none) Hs H a C dx r vn ws o.now o.ns o.ps∧Reps K Hs us qs∧Hl K Hs H a C dx r Q (M (a,dx,r) o qs)
def startW(m:Nat)(ad:Ad)(o:FO)(qs:List PV):PSt:=some (.flo (some ad) o.now o.ns o.ps)::cM (m-1) qs
def Df(ad:Ad):Res (PV×PSt)→Res (PV×FO)
 |.ok (p,some (.flo (some ad') now ns ps)::_)=>if ad'=ad then .ok (p,⟨now,ns,ps⟩) else .stuck
 |_=>.stuck
def lK(n m:Nat)(d:DW):MW:=fun ad o qs=>if qs.length+1=n then Df ad (d (startW m ad o qs)) else .stuck
theorem FloAt.base{K:aT}{A B Hs H:Hp}{a C dx r:Addr}{vn:V}{vs:List V}{now:PV}{ns:List Str}{ps:List PV}(f:FloAt K A Hs H a C dx r vn vs now ns ps)(h1:B a=none)(h2:B dx=none)(h3:B r=none):FloAt K B Hs H a C dx r vn vs now ns ps:=
 ⟨f.ins,f.cls,f.dct,f.row,f.len,f.sa,f.sd,f.sr,h1,h2,h3,f.now,f.rows⟩
theorem SR.startW{K:aT}{Hs H:Hp}{a C dx r:Addr}{vn:V}{ws us:List V}{o:FO}{qs:List PV}{N:List Str}(i:aL Hs H)(f:FloAt K (fun _=>none) Hs H a C dx r vn ws o.now o.ns o.ps)(rq:Reps K Hs us qs)(hl:us.length+1≤N.length):
  SR K (hole H a dx r) Hs Hs H (G.startW N.length (a,dx,r) o qs) (L2.start N (.ref a::us)):=by
 have hlen:=rq.length
 obtain⟨n0,N',rfl⟩:∃n0 N',N=n0::N':=by
  cases N with
  |nil=>simp at hl
  |cons n0 N'=>exact⟨n0,N',rfl⟩
 have S:=SR.start (N:=N') i rq (by simpa using hl)
 have eτ:L2.start (n0::N') (.ref a::us)=some (.ref a)::L2.start N' us:=by
  unfold L2.start
  simp
 have eσ:G.startW (n0::N').length (a,dx,r) o qs=some (.flo (some (a,dx,r)) o.now o.ns o.ps)::cM N'.length qs:=by
  unfold G.startW
  simp
 rw[eτ,eσ]
 refine⟨⟨aL.refl _,i,fun b u h=>(vf h).2.2.2,fun x _ h=>h⟩,fun j sv e=>?_,fun j k xs ys a' hjk e1 e2 e3=>?_,by rw[iF,iF,S.len]⟩
 ·cases j with
  |zero=>
   simp at e
   subst e
   exact⟨.ref a,rfl,a,C,dx,r,vn,ws,rfl,fun z h=>by cases h;rfl,f.base (if_pos (.inl rfl)) (if_pos (.inr (.inl rfl))) (if_pos (.inr (.inr rfl)))⟩
  |succ j=>
   rw[aaV]at e
   obtain⟨v,h1,h2⟩:=S.slot j sv e
   refine⟨v,by rw[aaV];exact h1,?_⟩
   cases sv with
   |sh p=>exact h2
   |own xs=>
    obtain⟨b,vs,z1,z2,z3,z4,z5⟩:=h2
    rw[z4]at z2;cases z2
   |flo tg n m p=>
    obtain⟨b,C',dx',r',vn',vs',z1,z2,z3⟩:=h2
    have:=z3.oa
    rw[z3.ins]at this;cases this
 ·cases j with
  |zero=>simp at e1
  |succ j=>
   cases k with
   |zero=>simp at e2
   |succ k=>
    rw[aaV]at e1 e2 e3 ⊢
    exact S.inj j k xs ys a' (by omega) e1 e2 e3
section
variable {P:Program}{w:World}{K:aT}{mg:Str→Option Value}{base:Heap}
theorem Dd{x qual:Str}{st:Stmt}{f:Addr}{fd:FuncData}{N ps:List Str}{k:Nat}{d:DW}(F:Fun K x qual st f fd)(S:FnScope N ps (af st))
  (hbody:∀(cdv:Value)(A:Around)(outer:List Env)(s:Shared)(H H0 Hs:Hp)(E:XK),Room k (A.deeper (envOfC qual (af st) s.heap.objs.size f cdv)) →
   XWs (gP (CXG P w) P w K mg base N qual (af st) f cdv A outer s H E).nox H0 Hs (aS st) d):
  FnOk P w K mg base (CXG P w) (k+1) f fd ps (DQ K ps.length (lK ps.length N.length d)):=by
 have hpl:ps.length≤N.length:=by have:=congrArg List.length S.pre;rw[aaD]at this;omega
 refine jB F S (fun vs H Q E h=>?_) (fun cdv A outer s H vs Q E hr h=>?_)
 ·obtain⟨_,_,_,_,_,_,_,_,_,_,_,h,_⟩:=h
  exact h
 ·obtain⟨a,C,dx,r,vn,ws,us,Hs,o,qs,rfl,hl,i,fl,rq,h⟩:=h
  rw[iF]at hl
  refine⟨_,PSs.nox (hbody cdv A outer s H (hole H a dx r) Hs E hr).h,Hs,G.startW N.length (a,dx,r) o qs,SR.startW i fl rq (by omega),?_⟩
  unfold lK at h
  rw[if_pos (by rw[←rq.length];exact hl)]at h
  generalize d (G.startW N.length (a,dx,r) o qs)=rr at h
  unfold Df at h
  split at h
  ·rename_i p ad' now ns ps' rest
   split at h
   ·rename_i had
    subst had
    have fin:∀v Hs' H' τ',SR K (hole H a dx r) Hs Hs' H' (some (.flo (some (a,dx,r)) now ns ps')::rest) τ'→Rep K Hs' v p→Q v H':=fun v Hs' H' τ' S' rv=>by
     obtain⟨v0,_,a',C',dx',r',vn',ws',_,t,f'⟩:=S'.slot 0 _ rfl
     have:=t _ rfl
     cases this
     have ec:C'=C:=f'.cls.inj fl.cls
     subst ec
     exact h v Hs' H' vn' ws' S'.g.s S'.g.i (fun y u h1 h2 h3 z=>S'.g.h y u (by rw[t8 h1 h2 h3];exact z)) (fun y hy hn=>by
      by_cases h1:y=a
      ·rw[h1];exact f'.sa
      ·by_cases h2:y=dx
       ·rw[h2];exact f'.sd
       ·by_cases h3:y=r
        ·rw[h3];exact f'.sr
        ·exact S'.g.o y (by rw[t8 h1 h2 h3];exact hy) hn) (f'.base rfl rfl rfl) rv
    exact⟨fun v Hs' H' τ' S' rv=>fin v Hs' H' τ' S' rv,fun hp Hs' H' τ' S'=>fin .non Hs' H' τ' S' (hp▸.non)⟩
   ·exact h.elim
  ·exact h.elim
end
open Classical in
noncomputable def qN(M:MW)(ad:Option Ad)(o:FO)(qs:List PV):Res (PV×FO):=match ad with
 |some z=>M z o qs
 |none=>if ∀z,M z o qs=M (0,0,0) o qs then M (0,0,0) o qs else .stuck
noncomputable def bG(i:Nat)(M:MW)(ra:DA):DW:=fun σ=>match ra σ with
 |.ok qs=>(match σ[i]? with
  |some (some (.flo ad now ns ps))=>if ba (σ.set i none)=true then (match qN M ad ⟨now,ns,ps⟩ qs with
   |.ok (p,o')=>.ok (p,σ.set i (some (.flo ad o'.now o'.ns o'.ps)))
   |_=>.stuck) else .stuck
  |_=>.stuck)
 |_=>.stuck
theorem sG{M:MW}{ad:Option Ad}{o:FO}{qs:List PV}{r:PV×FO}(h:qN M ad o qs=.ok r):∀z,(∀y,ad=some y→y=z)→M z o qs=.ok r:=fun z hz=>by
 unfold qN at h
 cases ad with
 |some y=>cases hz y rfl;exact h
 |none=>
  simp only at h
  split at h
  ·rename_i hall
   rw[hall z];exact h
  ·cases h
theorem yx{M:MW}{ad:Option Ad}{o:FO}{qs:List PV}{r:PV×FO}(h:∀z,M z o qs=.ok r):qN M ad o qs=.ok r:=by
 unfold qN
 cases ad with
 |some y=>exact h y
 |none=>
  simp only
  rw[if_pos (fun z=>by rw[h,h])]
  exact h _
theorem dR{i:Nat}{M:MW}{ra:DA}{σ:PSt}{qs:List PV}{ad:Option Ad}{now p:PV}{ns:List Str}{ps:List PV}{o':FO}(h1:ra σ=.ok qs)(h2:σ[i]? = some (some (.flo ad now ns ps)))(h3:ba (σ.set i none)=true)(h4:∀z,M z ⟨now,ns,ps⟩ qs=.ok (p,o')):
  bG i M ra σ=.ok (p,σ.set i (some (.flo ad o'.now o'.ns o'.ps))):=by
 unfold bG
 rw[h1]
 simp only[h2,h3,if_true,yx h4]
structure MethW (P:Program) (w:World) (K:aT) (mg:Str→Option Value) (base:Heap) (m:Str) (k:Nat) (M:MW):Prop where
 ex:∃(C g:Addr) (fd:FuncData) (ps:List Str),aC K "Floor" C∧fM K C=true∧Meth K C m g∧Binds K fd ps []∧(∀ad o qs,qs.length+1≠ps.length→M ad o qs=.stuck)∧FnOk P w K mg base (CXG P w) k g fd ps (DQ K ps.length M)
section
variable {X:Cx}{H0 Hs0:Hp}{np apos pos:Pos}{i j k:Nat}{x m:Str}{M:MW}
theorem xg {ra:DA} {qs:List PV} {us:List V} {τ:L2.St} {σ:PSt} {Hs H Hs2 H2:Hp} {Q:VK} {E:XK} {C:Addr} {n:Nat} {v0:V} (S:SR X.K H0 Hs0 Hs H σ τ) (q:DN X H0 Hs0 Hs τ Q (bG i M ra σ)) (hq:ra σ=.ok qs) (hC:aC X.K "Floor" C) (eτ:τ[i]? = some (some v0)) (g2:Grow Hs H Hs2 H2) (r2:Reps X.K Hs2 us qs)
  (har:∀ad o qs,qs.length+1≠n→M ad o qs=.stuck):DQ X.K n M (v0::us) H2 Q E:=by
 unfold bG at q
 rw[hq]at q
 simp only at q
 split at q
 ·rename_i ad now ns ps es
  split at q
  ·rename_i no
   split at q
   ·rename_i p o' ec
    have S2:=S.grow g2
    obtain⟨v1,e1,a,C',dx,r,vn,ws,rfl,t,f⟩:=S2.slot i _ es
    rw[eτ]at e1
    cases e1
    cases hC.inj f.cls
    have hM:=sG ec (a,dx,r) (fun y hy=>t y hy)
    have hl:qs.length+1=n:=by
     by_cases z:qs.length+1=n
     ·exact z
     ·rw[har _ _ _ z]at hM;cases hM
    refine⟨a,C,dx,r,vn,ws,us,Hs2,⟨now,ns,ps⟩,qs,rfl,by rw[iF,r2.length];exact hl,g2.i,f.base rfl rfl rfl,r2,?_⟩
    rw[hM]
    intro v Hs3 H3 vn' ws' s3 i3 h3 o3 f3 rv
    exact q v Hs3 H3 (g2.s.trans s3) (S2.writeFlo es no eτ t f s3 i3 h3 o3 (f3.base f.oa f.od f.or)) rv
   ·exact q.elim
  ·exact q.elim
 ·exact q.elim
theorem Av{τ:L2.St}{σ:PSt}{Hs H:Hp}{ra:DA}{Q:VK}(S:SR X.K H0 Hs0 Hs H σ τ)(q:DN X H0 Hs0 Hs τ Q (bG i M ra σ)):∃qs ad now ns ps,ra σ=.ok qs∧σ[i]? = some (some (.flo ad now ns ps)):=by
 unfold bG at q
 split at q
 ·rename_i qs hq
  split at q
  ·rename_i ad now ns ps es
   exact⟨qs,ad,now,ns,ps,hq,es⟩
  ·exact q.elim
 ·exact q.elim
theorem gR (i:Nat) {pl:Sem Bool} {e:Expr} {es:List Expr} {ra:DA} (T:MethW X.prog X.w X.K X.mg X.base m j M) (hr:Room k X.A) (ha:XA X H0 Hs0 (e::es) ra) (hjk:j≤k:=by decide) (hN:X.N[i]? = some x:=by rfl) (hv:Vis X.env.scope x:=by first|exact Or.inl rfl|exact Or.inr (Or.inl rfl)|exact Or.inr (Or.inr rfl)) (hd:(x==("__debug__":Str))=false:=by decide) (hcd:(x==("__classdict__":Str))=false:=by decide)
  (hm:(m==("now":Str))=false∧(m==("rows":Str))=false:=by exact⟨by decide,by decide⟩) (hst:noStar e=true:=by rfl) (hpl:es.all noStar=true:=by rfl)
  (ht:eval (.Call (.Attribute (.Name x np) m apos) (e::es) [] pos) X.env=(do
   let ov ←eval (.Name x np) X.env
   standAt apos.atName
   let(f,first) ←holding [ov] (getMethod ov m pl)
   callWith pos f first (backTo pos (starEach (e::es) X.env)) (backToKw pos (keywordEach [] X.env))):=by rfl):
  XEW X H0 Hs0 (.Call (.Attribute (.Name x np) m apos) (e::es) [] pos) (bG i M ra):=⟨by
 obtain⟨C,g,fd,bs,t1,t2,t3,t4,t6,t7⟩:=T.ex
 refine PE.imp (oQ (dJ hN hv hd hcd) (dW t2).cl t3 t7 (hr.mono hjk) t4 .nil nH ha.h (aA hst) (fc hpl) ht) fun τ H Q ⟨Hs,σ,S,q⟩=>?_
 obtain⟨qs,ad,now,ns,ps,hq,es⟩:=Av S q
 obtain⟨v1,e1,a,C',dx,r,vn,ws,rfl,t,f⟩:=S.slot i _ es
 cases t1.inj f.cls
 refine⟨.ref a,e1,a,dx,_,rfl,f.ins,by simp[aam,hm.1,hm.2],Hs,σ,S,?_⟩
 rw[hq]
 intro us Hs2 H2 g2 r2
 rw[aa3]
 exact xg S q hq t1 e1 g2 r2 t6⟩
end
section
variable {P:Program}{w:World}{K:aT}{mg:Str→Option Value}{base h:Heap}
theorem fO {m qual:Str} {st:Stmt} {N ps:List Str} {k:Nat} {d:DW} (D:MethAt K "Floor" m qual st) (S:FnScope N ps (af st))
  (hb:∀(kV doc pm:Value)(an:Option Addr)(cdv ct:Value)(us:List Value),us.length=ps.length→bindArgs (aaF m qual (ck st) (aS st) (af st) .none kV doc pm an cdv ct) ⟨us,[]⟩=pure (ps.zip us))
  (hbody:∀(f:Addr)(cdv:Value)(A:Around)(outer:List Env)(s:Shared)(H H0 Hs:Hp)(E:XK),Room k (A.deeper (envOfC qual (af st) s.heap.objs.size f cdv)) →
   XWs (gP (CXG P w) P w K mg base N qual (af st) f cdv A outer s H E).nox H0 Hs (aS st) d):MethW P w K mg base m (k+1) (lK ps.length N.length d):=by
 obtain⟨C,g,fd,h1,h2,h3,F⟩:=D.ex
 exact⟨C,g,fd,ps,h1,h2,h3,F.binds hb,fun ad o qs hq=>if_neg hq,Dd F S fun cdv A outer s H H0 Hs E hr=>hbody g cdv A outer s H H0 Hs E hr⟩
end
theorem xM{X:Cx}{pins:List (Addr×Obj)}{τ:L2.St}{H:Hp}{s:Shared}{h':Heap}{t':Nat}{ch:List Addr}(I:Inv X pins τ H s)(f:∀b∈ch,fG X pins H b)(k:∀b u,b∉ch→s.heap.get? b=some u→h'.get? b=some u)(there:∀b∈ch,∃o,h'.get? b=some o):Inv X pins τ H { s with heap:=h',toks:=t' }:=by
 refine I.call' (ch:=ch) rfl ⟨fun b o e _ _ hc=>k b o hc e,fun b o e _ _ hc=>⟨o.slots,k b o hc e⟩,fun _ _ _ n _=>n,fun b o e hc=>⟨o,k b o hc e⟩,fun _ _ q=>q,fun _ _ _ q=>q,fun _ ps q=>⟨#[],by rw[q];simp⟩⟩ (fun a o e=>?_) I.bare fun b hb=>?_
 ·refine(I.hok a o e).stay (fun b u hb q=>k b u (fun z=>?_) q) (fun _ q=>q) fun _ _ q=>q
  have f0:=(f b z).1
  rcases hb with rfl|hb
  ·rw[e]at f0;cases f0
  ·rw[hb]at f0;cases f0
 ·obtain⟨f0,f1,f2,f3,f4,f5⟩:=f b hb
  exact⟨f3,f1,f4,f5⟩
theorem qB{h:Heap}{o o':Obj}{b:Addr}(hb:b<h.objs.size)(e:(h.push o).get? b=some o'):h.get? b=some o':=by
 obtain⟨e1,e2⟩:=Heap.get?_some_iff.mp e
 refine Heap.get?_some_iff.mpr ⟨?_,e2⟩
 have hn:=aab hb
 cases h
 simpa[Heap.push,Array.getElem?_push,hn] using e1
def Ite(K:aT)(a:Addr):It:=
 ⟨fun i H=>∃xs x,SqL K H a xs∧xs[i]? = some x,fun i H v H'=>∃p x,v=.ref p∧H p=none∧(∀xs,SqL K H a xs→xs[i]? = some x)∧H'=upd H p (.tup [.int i,x]),fun i H=>∃xs,SqL K H a xs∧xs.length≤i⟩
theorem uA{P:Program}{w:World}{K:aT}{elts:List Expr}{x1}{tp:Pos}(a e it:Addr)(hne:e≠it):Turn P w K (.Tuple elts x1 tp) (Ite K a) [e,it] e (fun i h=>∃old,IsEnum h e it i old∧h.IsListIter it a i) where
 mem:=by simp
 obj:=fun i h st b hb=>by
  obtain⟨old,h1,h2⟩:=st
  rcases List.mem_cons.mp hb with rfl|hb
  ·exact⟨_,h1,fun v z=>by cases z⟩
  ·have e:b=it:=by simpa using hb
   subst e
   obtain⟨o,e,c,d⟩:=h2
   exact⟨o,e,fun v z=>by rw[d]at z;cases z⟩
 keep:=fun i h h' st k=>by
  obtain⟨old,h1,h2⟩:=st
  exact⟨old,k e (by simp) _ h1,h2.at fun o e=>k it (by simp) o e⟩
 item:=by
  intro X hP hw hK hc i pins s σ H E I hf st hg
  subst hP hw hK
  obtain⟨xs,x,hq,hx⟩:=hg
  obtain⟨old,st1,st2⟩:=st
  obtain⟨its,rv,p,hz⟩:=I.list hq
  obtain⟨u,hu,ru⟩:=rv.get hx
  have lt1:e<s.heap.objs.size:=iD st1
  have lt2:it<s.heap.objs.size:=by obtain⟨o,ho,_⟩:=st2;exact iD ho
  refine wpAny_pyNext_enum_item st1 st2 p.isList (x:=u) (by simpa using hu) hne fun h' heo hit' htup hsz hk=>?_
  refine⟨_,rfl,wpAny_letOwnedTupleGo_enum heo fun h2 he2 hs2=>?_⟩
  have hn:H s.heap.objs.size=none:=I.hok.fresh (gO _)
  have I1:Inv X pins σ (upd H s.heap.objs.size (.tup [.int i,x])) { s with heap:=s.heap.push { cls:=.type "tuple",data:=.seq #[.int i s.toks,u] },toks:=s.toks }:=
   I.laid (fun b u e=>bY _ e) (gO _) ⟨by show 2≤sizeLine;decide,[.int i s.toks,u],.cons ⟨_,rfl⟩ (.cons ru .nil),⟨_,lE _ rfl,rfl,_,rfl⟩⟩
  have hf1:∀b∈[e,it],fG X pins (upd H s.heap.objs.size (.tup [.int i,x])) b:=fun b hb=>by
   have hb':b≠s.heap.objs.size:=by
    rcases List.mem_cons.mp hb with rfl|hb
    ·exact aab lt1
    ·have e:b=it:=by simpa using hb
     rw[e];exact aab lt2
   exact⟨by rw[aj hb'];exact(hf b hb).1,(hf b hb).2⟩
  have hit2:h2.IsListIter it a (i+1):=hit'.at fun o ho=>(hs2.2 it (Ne.symm hne)).trans ho
  have I2:Inv X pins σ (upd H s.heap.objs.size (.tup [.int i,x])) { s with heap:=h2,toks:=s.toks+1 }:=xM (s:={ s with heap:=s.heap.push { cls:=.type "tuple",data:=.seq #[.int i s.toks,u] },toks:=s.toks }) (ch:=[e,it]) I1 hf1 (fun b o hb ho=>by
   have n1:b≠e:=fun z=>hb (by simp[z])
   have n2:b≠it:=fun z=>hb (by simp[z])
   refine(hs2.2 b n1).trans ?_
   by_cases hbs:b=s.heap.objs.size
   ·rw[hbs]at ho ⊢
    rw[lE _ rfl]at ho
    rw[←ho];exact htup
   ·have hlt:b<s.heap.objs.size:=by
     have h1:=iD ho
     have h2:(s.heap.push { cls:=.type "tuple",data:=.seq #[.int i s.toks,u] }).objs.size=s.heap.objs.size+1:=aaT ..
     have h3:b<s.heap.objs.size+1:=by rw[←h2];exact h1
     exact Nat.lt_of_le_of_ne (abb h3) hbs
    have ho:s.heap.get? b=some o:=qB hlt ho
    exact hk b o n1 n2 ho) (fun b hb=>by
   rcases List.mem_cons.mp hb with rfl|hb
   ·exact⟨_,he2⟩
   ·have e:b=it:=by simpa using hb
    subst e
    obtain⟨o,ho,_⟩:=hit2
    exact⟨o,ho⟩)
  refine⟨.ref s.heap.objs.size,_,I2,rfl,⟨s.heap.objs.size,x,rfl,hn,fun ys hy=>by rw[I.list_inj hy hq];exact hx,rfl⟩,⟨_,he2,hit2⟩,fun b hb=>(hf1 b hb).1⟩
 done:=by
  intro X hP hw hK hc i pins s σ H E I hf st hg
  subst hP hw hK
  obtain⟨xs,hq,hx⟩:=hg
  obtain⟨old,st1,st2⟩:=st
  obtain⟨its,rv,p,hz⟩:=I.list hq
  have hl:=rv.length
  obtain⟨f0,f1,f2,f3,f4,f5⟩:=hf it (by simp)
  exact wpAny_pyNext_enum_end (I.ok.hd hc) st1 st2 p.isList (by simp;omega) fun h' eb=>⟨rfl,I.turned (t':=s.toks) (fun b o hb e=>eb b o hb e) f0 f1 f3 f4 f5⟩
 self:=fun A i s Q E st h=>by
  obtain⟨old,st1,st2⟩:=st
  exact wpAny_pyIter_enum st1 h
def E6(K:aT)(ta:TA):TI:=fun σ H R=>ta σ H fun vs H1=>∃a xs,vs=[.ref a]∧SqL K H1 a xs∧R (Ite K a) H1
section
variable {X:Cx}{H0 Hs0:Hp}{a:Expr}{da:DE}{pos p tp:Pos}{elts:List Expr}{x1:Nat}
theorem vC:bootBuiltins "enumerate" = some (.type "enumerate"):=by decide +kernel
theorem zH {ta:TA} (hg:Gl X "enumerate") (hm:X.mg "enumerate" = none) (ha:PA X [a] ta) (hs:starEach [a] X.env=[(false,eval a X.env)]):PI X (.Tuple elts x1 tp) (.Call (.Name "enumerate" p) [a] [] pos) (E6 X.K ta):=by
 intro pins s σ H R I h
 refine Call_ (hJ I hg hm vC (PyProof.Rows.callWith_type1 (thn (ha pos pins s σ H _ I h) fun us s1 ⟨vs,H1,I1,r1,q1⟩=>?_) hs rfl))
 obtain⟨l,xs,rfl,hq,q⟩:=q1
 obtain⟨u,rfl,rfl⟩:=vals1 r1
 obtain⟨its,rv,pl,hz⟩:=I1.list hq
 refine call_enumerate_list pl.isList fun h' he hit hsz hk=>?_
 refine wpAny_pyIter_enum he ?_
 have f:∀b∈[s1.heap.objs.size+1,s1.heap.objs.size],fG X pins H1 b:=fun b hb=>by
  have hb':s1.heap.objs.size≤b:=by
   rcases List.mem_cons.mp hb with rfl|hb
   ·exact Nat.le_succ _
   ·have e:b=s1.heap.objs.size:=by simpa using hb
    rw[e];exact gO _
  exact I1.fpOk hb' (I1.hok.fresh hb')
 exact⟨s1.heap.objs.size+1,[s1.heap.objs.size+1,s1.heap.objs.size],_,_,H1,rfl,I1.kept (t':=s1.toks) hk,uA l _ _ (Nat.ne_of_gt (aaP _)),⟨_,he,hit⟩,f,q⟩
def hZ:Nat→List PV→List PV
 |_,[]=>[]
 |k,q::qs=>.tup [.int k,q]::hZ (k+1) qs
theorem nT:∀(ps:List PV)(k i:Nat),(hZ k ps)[i]? = (ps[i]?).map fun q=>PV.tup [.int ((k+i:Nat):Int),q]
 |[],k,i=>by simp[hZ]
 |q::ps,k,0=>by simp[hZ]
 |q::ps,k,i+1=>by
  show(hZ (k+1) ps)[i]? = _
  rw[nT ps (k+1) i]
  simp[Nat.add_comm,Nat.add_left_comm]
theorem nS:∀(ps:List PV)(k:Nat),(hZ k ps).length=ps.length
 |[],_=>rfl
 |q::ps,k=>by show(hZ (k+1) ps).length+1=_;rw[nS ps (k+1)];rfl
def Fo(K:aT)(J:It)(Hs:Hp)(ps:List PV):Prop:=∀(i:Nat)(H Hs':Hp),aL Hs Hs'→aL Hs' H →
 (i<ps.length→J.go i H∧∀x H',J.yld i H x H'→∃Hs'' p,Grow Hs' H Hs'' H'∧ps[i]? = some p∧Rep K Hs'' x p)∧(ps.length≤i→J.stop i H)
theorem xF{K:aT}{ad:Addr}{vs:List V}{ps:List PV}{Hs:Hp}(hl:Hs ad=some (.lst vs))(r:Reps K Hs vs ps):Fo K (Ite K ad) Hs (hZ 0 ps):=by
 intro i H Hs' e1 e2
 have hH:SqL K H ad vs:=SqL.of (e2 _ _ (e1 _ _ hl))
 rw[nS]
 refine⟨fun hi=>?_,fun hi=>⟨vs,hH,by rw[r.length];exact hi⟩⟩
 obtain⟨v,hv,rv⟩:=r.get (dO hi)
 refine⟨⟨vs,v,hH,hv⟩,fun x H' ⟨p,y,ex,hp,hy,eH⟩=>?_⟩
 subst ex eH
 have hy':v=y:=by have:=hy vs hH;rw[hv]at this;exact Option.some.inj this
 subst hy'
 refine⟨upd Hs' p (.tup [.int i,v]),.tup [.int i,ps[i]],.new e2 hp,?_,.tup (.inl (.inl ak)) (.cons (.int _) (.cons ((rv.mono e1).mono (aX (e2.free hp))) .nil))⟩
 rw[nT,dO hi]
 simp
def RIE(X:Cx)(H0 Hs0:Hp)(d:DI):TI:=fun τ H R=>∃Hs σ,SR X.K H0 Hs0 Hs H σ τ∧match d σ with
 |.ok ps=>∀J Hs' H',Grow Hs H Hs' H'→Fo X.K J Hs' ps→R J H'
 |.err c=>a8 X H0 Hs0 c
 |.stuck=>False
structure XIE (X:Cx) (H0 Hs0:Hp) (tg e:Expr) (d:DI):Prop where
 h:PI X tg e (RIE X H0 Hs0 d)
def sM:PV→Res (List PV)
 |.lst ps=>.ok (hZ 0 ps)
 |_=>.stuck
def xI(d:DE):DI:=fun σ=>(d σ).bind sM
theorem D4 (hm:X.mg "enumerate" = none) (ha:XE X H0 Hs0 a da) (hg:Gl X "enumerate":=by rfl) (hs:noStar a=true:=by rfl):XIE X H0 Hs0 (.Tuple elts x1 tp) (.Call (.Name "enumerate" p) [a] [] pos) (xI da):=⟨by
 intro pins s τ H R I ⟨Hs,σ,S,h⟩
 refine zH hg hm (bX ha.h eB (aA hs)) (aA hs) pins s τ H R I ⟨Hs,σ,S,?_⟩
 unfold xI at h
 cases e:da σ with
 |err c=>rw[e]at h;exact h
 |stuck=>rw[e]at h;exact h
 |ok q=>
  rw[e]at h
  cases q with
  |lst ps=>
   intro v Hs1 H1 g1 r1
   obtain⟨ad,vs,rfl,hl,rr⟩:=r1.lst_inv
   exact⟨ad,vs,rfl,SqL.of (g1.i _ _ hl),h _ Hs1 H1 g1 (xF hl rr)⟩
  |_=>exact h.elim⟩
theorem D3{tg iter:Expr}{sts:List Stmt}{d:DI}{g:DG}{bb:DS}(hp:PassesOwn (model X.prog X.w) X.A X.env X.xe)(hi:XIE X H0 Hs0 tg iter d)(hg:XG X H0 Hs0 tg g)(hb:XB X H0 Hs0 sts bb)(hc:X.calm=true:=by rfl)(hs:fN iter=true:=by rfl):
  XS X H0 Hs0 (.For tg iter sts [] pos) (gK d g bb):=
 ⟨PS.imp (wJ hp hc hi.h hg.h hb.h (jC hs)) fun D τ H ⟨Hs,σ,S,h⟩=>by
  refine⟨Hs,σ,S,?_⟩
  unfold gK at h
  generalize d σ=r at h ⊢
  cases r with
  |err c=>exact h
  |stuck=>exact h
  |ok ps=>
   intro J Hs1 H1 g1 jok
   have h:fH X H0 Hs0 D Hs H (dQ g bb ps σ):=h
   refine⟨fun i m τ H=>∃Hs' σ',SR X.K H0 Hs0 Hs' H σ' τ∧aL Hs1 Hs'∧m=ps.length-i∧i≤ps.length∧fH X H0 Hs0 D Hs' H (dQ g bb (ps.drop i) σ'),⟨ps.length,Hs1,σ,S.grow g1,aL.refl _,by simp,aaH _,by simpa using h.same g1.s⟩,?_⟩
   rintro i m τ2 H2 ⟨Hs2,σ2,S2,e2,rfl,hi,h2⟩
   obtain⟨j1,j2⟩:=jok i H2 Hs2 e2 S2.g.i
   by_cases hlt:i<ps.length
   ·obtain⟨go,yl⟩:=j1 hlt
    refine .inr ⟨go,fun τ' H'=>∃Hs' σ',SR X.K H0 Hs0 Hs' H' σ' τ'∧aL Hs1 Hs'∧fH X H0 Hs0 D Hs' H' (dQ g bb (ps.drop (i+1)) σ'),fun τ' H' ⟨Hs',σ',a1,a2,a3⟩=>⟨ps.length-(i+1),by omega,Hs',σ',a1,a2,rfl,by omega,a3⟩,fun x H' y=>?_⟩
    obtain⟨Hs2',p,gy,hp',rp⟩:=yl x H' y
    rw[aar hlt]at h2
    have ep:ps[i]=p:=by rw[dO hlt]at hp';exact Option.some.inj hp'
    rw[ep]at h2
    refine⟨Hs2',σ2,p,S2.grow gy,rp,?_⟩
    unfold dQ at h2
    cases eg:g p σ2 with
    |ok σ3=>
     rw[eg]at h2
     dsimp only at h2
     intro Hs3 H3 τ3 e3 S3
     refine⟨Hs3,σ3,S3,?_⟩
     have h3:=fH.same (H':=H3) h2 (gy.s.trans e3)
     revert h3
     generalize bb σ3=rb
     intro h3
     cases rb with
     |err c=>exact h3
     |stuck=>exact h3
     |ok f=>
      cases f with
      |next σ'=>exact fun Hs4 H4 τ4 e4 S4=>⟨Hs4,σ',S4,((e2.trans gy.s).trans e3).trans e4,fH.same (H':=H4) h3 e4⟩
      |cont σ'=>exact fun Hs4 H4 τ4 e4 S4=>⟨Hs4,σ',S4,((e2.trans gy.s).trans e3).trans e4,fH.same (H':=H4) h3 e4⟩
      |brk σ'=>exact h3
      |ret q=>exact h3
    |err c=>rw[eg]at h2;exact h2.elim
    |stuck=>rw[eg]at h2;exact h2.elim
   ·have e:i=ps.length:=by omega
    subst e
    refine .inl ⟨j2 (gO _),?_⟩
    rw[List.drop_length]at h2
    exact h2 Hs2 H2 τ2 (aL.refl _) S2⟩
end
section
variable {X:Cx}{H0 Hs0:Hp}{e c:Expr}{d:DE}{i j:Nat}{t:DT}{pos pos':Pos}
def rO:PV→PV→Res PV
 |.str x,.str y=>.ok (.bl (!(y.cps.toList<x.cps.toList)))
 |p,q=>eQ (fun i j=>decide (i≤j)) p q
theorem tH:OpP X (compareOp .LtE) rO:=by
 intro EO pins s σ H x y v u Q I rx ry h
 obtain⟨Hs,p,q,i,rp,rq,h⟩:=h
 unfold rO at h
 split at h
 ·cases rp.str_inv;cases rq.str_inv
  obtain⟨t1,rfl⟩:=rx
  obtain⟨t2,rfl⟩:=ry
  exact PySem.P.le_str ⟨.bl _,H,I,rfl,eu h i⟩
 ·exact rP EO pins s σ H x y v u Q I rx ry ⟨Hs,_,_,i,rp,rq,h⟩
def AN:List PV→Res PV
 |[.lst []]=>.ok (.bl false)
 |_=>.stuck
theorem Dy:bootBuiltins "any" = some (.builtin "any"):=by decide +kernel
theorem Ds (hc:X.calm=true):f6 X (.builtin "any") AN:=by
 intro EO pins s σ H xs us Q I r h
 obtain⟨Hs,ps,i,rp,h⟩:=h
 unfold AN at h
 split at h
 ·obtain⟨v,rfl,r1⟩:=rp.one_inv
  obtain⟨ad,vs,rfl,hl,rs⟩:=r1.lst_inv
  cases rs.nil_inv
  obtain⟨u,rfl,rfl⟩:=vals1 r
  obtain⟨its,rv,hl'⟩:=lst_is I (i _ _ hl)
  cases rv
  have hne:ad≠s.heap.objs.size:=by
   obtain⟨o,e,_⟩:=hl'
   exact aab (iD e)
  refine call_any_walk (wpAny_pyIter_list hl' ⟨_,_,_,_,_,_,fun j=>false,rfl,Walks.list (A:=X.A.in1) (by first|exact I.ok.hd hc|rfl) s.heap.objs.size ad hne #[],⟨⟨_,lE _ rfl,rfl,rfl⟩,hl'.at fun o e=>bY _ e⟩,fun j v s Q E hv hQ=>?_,fun h' tk k=>?_⟩)
  ·simp at hv
  ·exact⟨.bl _,H,I.kept fun b o e=>k b o (by simpa using aab (iD e)) (bY _ e),rfl,eu h i⟩
 ·exact h.elim
def nI:PV→PV→Res PV
 |.tup (p::ps),.tup (q::qs)=>if ps.length+qs.length<1000 then .ok (.tup ((p::ps)++(q::qs))) else .stuck
 |_,_=>.stuck
theorem qd:OpP X (binaryOp .Add) nI:=by
 intro EO pins s σ H x y v u Q I rx ry h
 obtain⟨Hs,p,q,i,rp,rq,h⟩:=h
 unfold nI at h
 split at h
 ·split at h
  ·rename_i p ps q qs hl
   obtain⟨a,vs,rfl,ha,ra⟩:=rp.tup_inv
   obtain⟨b,ws,rfl,hb,rb⟩:=rq.tup_inv
   have l1:=ra.length;have l2:=rb.length
   simp only[iF]at l1 l2
   refine zR pins s σ H _ _ v u Q I rx ry ⟨a,b,vs,ws,rfl,rfl,bO i ha,bO i hb,fun z=>by rw[z]at l1;simp at l1,by rw[sizeLine_eq];omega,fun z=>by rw[z]at l2;simp at l2,fun _ p hp=>h _ _ _ (.new i hp) (.tup (.inl (.inl ak)) (Reps.mono (aX (i.free hp)) (ra.append rb)))⟩
  ·exact h.elim
 ·exact h.elim
def c7(i:Nat)(t:DT):DT:=fun σ=>match σ[i]? with
 |some (some (.flo _ now ns ps))=>if ba (σ.set i none)=true then (match t (σ.set i (some (.sh (au now ns ps)))) with
  |.ok b=>.ok b
  |_=>.stuck) else .stuck
 |_=>.stuck
theorem iY(i:Nat)(h:XT X H0 Hs0 e t):XT X H0 Hs0 e (c7 i t):=⟨PT.imp h.h fun τ H Q ⟨Hs,σ,S,q⟩=>by
 unfold c7 at q
 split at q
 ·rename_i ad now ns ps es
  split at q
  ·rename_i no
   obtain⟨a,r,C,dx,fs,kvs,Hs1,ha,hr,h1,h2,h3,S1⟩:=S.lend es no
   refine⟨Hs1,_,S1,?_⟩
   split at q
   ·rename_i b ed
    rw[ed]
    intro Hs' H' g
    have sm:aL Hs Hs1:=fun b u z=>by rw[h3 b (fun y=>by rw[y,ha]at z;cases z) (fun y=>by rw[y,hr]at z;cases z)];exact z
    exact q Hs H' ⟨aL.refl _,S.g.i.trans g.h,g.h,fun _ _ z=>z⟩
   ·exact q.elim
  ·exact q.elim
 ·exact q.elim⟩
theorem fJ{σ:PSt}{ad:Option Ad}{now:PV}{ns:List Str}{ps:List PV}{b:Bool}(h1:σ[i]? = some (some (.flo ad now ns ps)))(h2:ba (σ.set i none)=true)(h3:t (σ.set i (some (.sh (au now ns ps))))=.ok b):c7 i t σ=.ok b:=by
 unfold c7
 rw[h1]
 simp only[h2,if_true,h3]
def yM(Hs H:Hp)(Q:VK):Res PV→Prop
 |.ok (.lst [])=>∀a Hs' H',Grow Hs H Hs' H'→H a=none→H' a=some (.lst [])→Q (.ref a) H'
 |_=>False
def REN(X:Cx)(H0 Hs0:Hp)(d:DE):TE:=fun τ H Q=>∃Hs σ,SR X.K H0 Hs0 Hs H σ τ∧yM Hs H Q (d σ)
structure XEN (X:Cx) (H0 Hs0:Hp) (e:Expr) (d:DE):Prop where
 h:PE X e (REN X H0 Hs0 d)
def nK(i:Nat)(d:DE):DE:=fun σ=>match σ[i]? with
 |some (some (.flo _ now ns ps))=>if ba (σ.set i none)=true then d (σ.set i (some (.sh (au now ns ps)))) else .stuck
 |_=>.stuck
theorem yM.inv{Hs H:Hp}{Q:VK}{r:Res PV}(h:yM Hs H Q r):r=.ok (.lst []):=by
 unfold yM at h
 split at h
 ·rfl
 ·exact h.elim
theorem Bp(i:Nat)(h:XEN X H0 Hs0 e d):XEN X H0 Hs0 e (nK i d):=⟨PE.imp h.h fun τ H Q ⟨Hs,σ,S,q⟩=>by
 have hq:=q.inv
 rw[hq]at q
 unfold nK at hq
 split at hq
 ·rename_i ad now ns ps es
  split at hq
  ·rename_i no
   obtain⟨a,r,C,dx,fs,kvs,Hs1,ha,hr,h1,h2,h3,S1⟩:=S.lend es no
   refine⟨Hs1,_,S1,?_⟩
   rw[hq]
   intro b Hs' H' g hb hb'
   exact q b Hs H' ⟨aL.refl _,S.g.i.trans g.h,g.h,fun _ _ z=>z⟩ hb hb'
  ·cases hq
 ·cases hq⟩
theorem xc{σ:PSt}{ad:Option Ad}{now:PV}{ns:List Str}{ps:List PV}{r:Res PV}(h1:σ[i]? = some (some (.flo ad now ns ps)))(h2:ba (σ.set i none)=true)(h3:d (σ.set i (some (.sh (au now ns ps))))=r):nK i d σ=r:=by
 unfold nK
 rw[h1]
 simp only[h2,if_true,h3]
def nA(j:Nat)(d:DE):DS:=fun σ=>match d σ with
 |.ok (.lst [])=>.ok (.next (σ.set j (some (.own []))))
 |_=>.stuck
theorem pY{σ:PSt}(h:d σ=.ok (.lst [])):nA j d σ=.ok (.next (σ.set j (some (.own [])))):=by unfold nA;rw[h]
def tR(H:Hp)(a:Addr):Hp:=fun x=>if x=a then none else H x
theorem AY(j:Nat){x:Str}(h:XEN X H0 Hs0 e d)(hN:X.N.Nodup:=by assumption)(hj:X.N[j]? = some x:=by rfl)(hx:Loc X.env.scope x:=by first|exact Or.inl rfl|exact Or.inr rfl)(hs:jU e=true:=by rfl)
  (hf:X.fn x=true∨X.env.scope.names.lookup x=some .local:=by first|exact Or.inl rfl|exact Or.inr rfl):XS X H0 Hs0 (.Assign [.Name x pos'] e pos) (nA j d):=
 ⟨PS.imp (oN hN hj hx h.h (f9 hs) hf) fun D τ H ⟨Hs,σ,S,q⟩=>by
  refine⟨Hs,σ,S,?_⟩
  unfold nA at q
  split at q
  ·rename_i ed
   rw[ed]
   intro a Hs' H' g ha ha'
   have g2:Grow Hs H Hs (tR H' a):=⟨aL.refl _,fun b u z=>by
     rw[show tR H' a b=H' b from if_neg (fun y=>by rw[y,S.g.i.free ha]at z;cases z)]
     exact g.h _ _ (S.g.i _ _ z),fun b u z=>by
     rw[show tR H' a b=H' b from if_neg (fun y=>by rw[y,ha]at z;cases z)]
     exact g.h _ _ z,fun _ _ z=>z⟩
   have S2:=(S.grow g2).setOwn j (p:=a) (vs:=[]) (xs:=[]) (if_pos rfl) .nil
   have eH:upd (tR H' a) a (.lst [])=H':=by
    funext b
    by_cases z:b=a
    ·rw[z,ak,ha']
    ·rw[aj z];exact if_neg z
   rw[eH]at S2
   exact q Hs H' _ (aL.refl _) S2
  ·exact q.elim⟩
end
structure MethN (P:Program) (w:World) (K:aT) (mg:Str→Option Value) (base:Heap) (c m:Str) (k:Nat) (M:List PV→Res PV):Prop where
 ex:∃(C g:Addr)(fd:FuncData)(ps:List Str),aC K c C∧fM K C=true∧Meth K C m g∧Binds K fd ps []∧(∀qs,qs.length≠ps.length→M qs=.stuck)∧FnOk P w K mg base (CXG P w) k g fd ps (DR K ps.length M)
def ib(m c:Str)(M:List PV→Res PV)(da:DE)(ra:DA):DE:=fun σ=>match da σ with
 |.ok (.ob c' ns ps)=>if c'=c∧ns.contains m=false then (match ra σ with
  |.ok qs=>M (.ob c' ns ps::qs)
  |_=>.stuck) else .stuck
 |_=>.stuck
theorem nU{m c:Str}{M:List PV→Res PV}{da:DE}{ra:DA}{σ:PSt}{ns:List Str}{ps qs:List PV}{r:Res PV}(h1:da σ=.ok (.ob c ns ps))(h2:ns.contains m=false)(h3:ra σ=.ok qs)(h4:M (.ob c ns ps::qs)=r):ib m c M da ra σ=r:=by
 unfold ib
 rw[h1]
 simp only[h2,h3,true_and,if_true,h4]
section
variable {X:Cx}{H0 Hs0:Hp}{a:Expr}{da:DE}{apos pos:Pos}{j k:Nat}{m c:Str}{M:List PV→Res PV}
theorem vI{pl:Sem Bool}{e:Expr}{es:List Expr}{ra:DA}(T:MethN X.prog X.w X.K X.mg X.base c m j M)(hr:Room k X.A)(he:XE X H0 Hs0 a da)(ha:XA X H0 Hs0 (e::es) ra)(hjk:j≤k:=by decide)(hst:noStar e=true:=by rfl)(hpl:es.all noStar=true:=by rfl)
  (ht:eval (.Call (.Attribute a m apos) (e::es) [] pos) X.env=(do
   let ov ←eval a X.env
   standAt apos.atName
   let(f,first) ←holding [ov] (getMethod ov m pl)
   callWith pos f first (backTo pos (starEach (e::es) X.env)) (backToKw pos (keywordEach [] X.env))):=by rfl):
  XEN X H0 Hs0 (.Call (.Attribute a m apos) (e::es) [] pos) (ib m c M da ra):=⟨by
 intro pins s τ H Q I ⟨Hs,σ,S,h⟩
 have hq:=h.inv
 rw[hq]at h
 unfold ib at hq
 split at hq
 ·rename_i c' ns ps hd
  split at hq
  ·rename_i hc
   obtain⟨rfl,hc⟩:=hc
   split at hq
   ·rename_i qs hqs
    obtain⟨C,g,fd,bs,t1,t2,t3,t4,t6,t7⟩:=T.ex
    have hl:(PV.ob c' ns ps::qs).length=bs.length:=by
     by_cases z:(PV.ob c' ns ps::qs).length=bs.length
     ·exact z
     ·rw[t6 _ z]at hq;cases hq
    refine oQ he.h (dW t2).cl t3 t7 (hr.mono hjk) t4 .nil nH ha.h (aA hst) (fc hpl) ht pins s τ H Q I ⟨Hs,σ,S,?_⟩
    rw[hd]
    intro v Hs1 H1 g1 r1
    obtain⟨ad,C',dx,vs,rfl,e1,e2,e3,e4⟩:=r1.ob_inv
    cases t1.inj e2
    refine⟨ad,dx,_,rfl,g1.i _ _ e1,ju ns vs hc,Hs1,σ,S.grow g1,?_⟩
    rw[hqs]
    intro us Hs2 H2 g2 r2
    rw[aa3]
    refine⟨?_,Hs2,.ob c' ns ps::qs,g2.i,.cons (r1.mono g2.s) r2,?_⟩
    ·rw[iF,r2.length,←hl,iF]
    ·rw[hq]
     intro b Hs3 H3 g3 hb rb
     obtain⟨b',ws,z,hw,rws⟩:=rb.lst_inv
     cases z
     cases rws.nil_inv
     have hb0:H b=none:=by
      cases z:H b with
      |none=>rfl
      |some u=>rw[(g1.trans g2).h _ _ z]at hb;cases hb
     exact h b Hs3 H3 ((g1.trans g2).trans g3) hb0 (g3.i _ _ hw)
   ·cases hq
  ·cases hq
 ·cases hq⟩
end
section
variable {P:Program}{w:World}{K:aT}{mg:Str→Option Value}{base h:Heap}
theorem xh{c m qual:Str}{st:Stmt}{N ps:List Str}{k:Nat}{d:DS}(D:MethAt K c m qual st)(S:FnScope N ps (af st))
  (hb:∀(kV doc pm:Value)(an:Option Addr)(cdv ct:Value)(us:List Value),us.length=ps.length→bindArgs (aaF m qual (ck st) (aS st) (af st) .none kV doc pm an cdv ct) ⟨us,[]⟩=pure (ps.zip us))
  (hbody:∀(f:Addr)(cdv:Value)(A:Around)(outer:List Env)(s:Shared)(H Hs:Hp)(E:XK),Room k (A.deeper (envOfC qual (af st) s.heap.objs.size f cdv)) →
   XN (gP (CXG P w) P w K mg base N qual (af st) f cdv A outer s H E).nox H Hs (aS st) d):MethN P w K mg base c m (k+1) (bz ps.length N.length d):=by
 obtain⟨C,g,fd,h1,h2,h3,F⟩:=D.ex
 refine⟨C,g,fd,ps,h1,h2,h3,F.binds hb,fun qs h=>oM h,?_⟩
 have hpl:ps.length≤N.length:=by have:=congrArg List.length S.pre;rw[aaD]at this;omega
 refine jB F S (fun vs H Q E h=>h.1) (fun cdv A outer s H vs Q E hr h=>?_)
 obtain⟨hl,Hs,qs,i,r,h⟩:=h
 refine⟨_,PSs.nox (hbody g cdv A outer s H Hs E hr).h,Hs,cM N.length qs,SR.start i r (by omega),?_⟩
 rw[iz (by rw[←r.length,hl])]at h
 generalize d (cM N.length qs)=rr at h ⊢
 cases rr with
 |ok fl=>
  cases fl with
  |next σ'=>exact h.elim
  |ret p=>
   cases p with
   |lst xs=>exact fun a Hs' H' g h0 rv=>h a Hs' H' g h0 rv
   |_=>exact h.elim
  |brk σ'=>exact h.elim
  |cont σ'=>exact h.elim
 |err c=>exact h.elim
 |stuck=>exact h.elim
end
section
variable {X:Cx}{H0 Hs0:Hp}{e:Expr}{sts:List Stmt}
theorem sR:XE X H0 Hs0 e (fun _=>.stuck):=⟨fun _ _ _ _ _ _ ⟨_,_,_,h⟩=>h.elim⟩
theorem yP:XT X H0 Hs0 e (fun _=>.stuck):=⟨fun _ _ _ _ _ _ ⟨_,_,_,h⟩=>h.elim⟩
theorem je:XB X H0 Hs0 sts (fun _=>.stuck):=⟨fun _ _ _ _ _ _ ⟨_,_,_,h⟩=>h.elim⟩
end
end G
namespace GS
open PySem PySem.W PySem.Calls PyProof.Rows
section
variable {prog:Program}{w:World}{A:Around}{E:Value→Shared→Prop}{s:Shared}
theorem sF{a:Addr}{es:Array DictEntry}{ep:Nat}{ks:List Str}{Q:Value→Shared→Prop}(hh:A.handled=none)(lo:(a==sysModules)=false)(hm:nh s.heap a es ep)(hk:StrsAre (es.toList.map (·.key)) ks)(hn1:ks.length≤1)
  (h:∀(h1 h':Heap) (tk n':Nat) (vs':List Value),(∀b o,s.heap.get? b=some o→h1.get? b=some o)→h'.get? h1.objs.size=some (seqObj "list" vs'.toArray n')→(∀b o,h1.get? b=some o→h'.get? b=some o)→StrsAre vs' ks→Q (.ref h1.objs.size) { s with heap:=h',toks:=tk }):
  wpAny (model prog w) A (call (.builtin "sorted") [.ref a]) Q E s:=by
 have hlen:es.size=ks.length:=by rw[←hk.length,aad,aag]
 refine call_function_entry kind_sorted plain_sorted entry_sorted (args_sorted1 _) ?_
 unfold Builtin.«sorted»
 refine wpAny_bind (m:=checkCount "sorted" 1 1 _) (wpAny_pure (wpAny_bind (kdu_collect (A:=A.in1) (zj (ep:=ep) lo) hh hm (by rw[sizeLine_eq];omega) fun h1 tk acc hkk hacc=>?_)))
 have hal:acc.toList.length=es.size:=by rw[aag];exact hacc.1
 have hacl:acc.toList=es.toList.map (·.key):=by
  apply aaY
  intro i
  rw[aae,oR,oR]
  cases hi:acc[i]? with
  |none=>
   have:acc.size≤i:=by
    rcases aaj i acc.size with q|q
    ·rw[aac q]at hi;cases hi
    ·exact q
   rw[aap (by rw[←hacc.1];exact this)];rfl
  |some v=>
   obtain⟨e,he,rfl⟩:=hacc.2 i v hi
   rw[he];rfl
 have hS:StrsAre acc.toList ks:=by rw[hacl];exact hk
 refine wpAny_bind (wpAny_newList ?_ (by rw[hal,sizeLine_eq];omega))
 have hoL:(h1.push { cls:=.type "list",data:=.seq acc.toList.toArray }).get? h1.objs.size=some (seqObj "list" acc.toList.toArray 0):=lE _ rfl
 refine wpAny_bind (wpAny_holding (wpAny_call_entry slot_list_sort ⟨_,hoL,rfl⟩ entry_list_sort (list_sort_treeK (s:={ s with heap:=h1.push { cls:=.type "list",data:=.seq acc.toList.toArray },toks:=tk }) strKind_oneLt hoL hS.keysOf (fun v₁ v₂ rest e=>keyKind_strs (by rw[←e];exact hS)) (by omega) fun st' hp hs=>⟨_,rfl,?_⟩) (args_list_sort _)))
 obtain⟨ss',z1,z2,_⟩:=sorted_out_str hS hp hs
 have e:ss'=ks:=by
  match ks,hn1,z2 with
  |[],_,z2=>exact List.perm_nil.mp z2
  |[k],_,z2=>exact List.perm_singleton.mp z2
 subst e
 obtain⟨n',hn⟩:=sortedHeap_at (out:=(arrOf st').map (·.2)) hoL
 refine wpAny_pure ⟨_,rfl,h h1 _ tk n' ((arrOf st').map (·.2)).toList hkk (by rw[Array.toArray_toList];exact hn) (fun b o e=>?_) z1⟩
 have lt:=iD e
 rw[sortedHeap_old (aab lt) (by rw[aaT];exact aba lt)]
 exact bY _ e
end
end GS
namespace G
open PySem PySem.Spec PyProof.Rows L2 GS HM
section
variable {X:Cx}{H0 Hs0:Hp}
def fF:List PV→Res PV
 |[.dct [] _]=>.ok (.lst [])
 |[.dct [n] _]=>.ok (.lst [.str n])
 |_=>.stuck
theorem k8{P:Program}{w:World}:∀{ns:List Str}{vs:List V}{kvs:List (Key×Value)}{es:List DictEntry},ns.length=vs.length→KV ((ns.map (Sum.inr:Str→Key)).zip vs) kvs→Pairs (bZ P w) es kvs→StrsAre (es.map (·.key)) ns
 |[],vs,kvs,es,hl,hk,hp=>by
  have:vs=[]:=by simpa using hl.symm
  subst this
  cases hk
  cases hp
  exact .nil
 |n::ns,[],kvs,es,hl,hk,hp=>by simp at hl
 |n::ns,v::vs,kvs,es,hl,hk,hp=>by
  rw[aau,abc]at hk
  cases hk with
  |cons r rs=>
   cases hp with
   |cons k1 k2 k3=>
    rename_i kv kvs' e es'
    have e1:kv.1=Sum.inr n:=r.1.symm
    rw[rQ]at k1
    rw[e1]at k1
    rcases bH k1 with ⟨i,t,z,_⟩|⟨x,t,z,z2⟩
    ·cases z
    ·cases z
     rw[aau,z2]
     exact .cons _ _ (k8 (by simpa using hl) rs k3)
theorem nu:∀{vs:List Value}{ns:List Str},StrsAre vs ns→Vals (ns.map V.str) vs
 |_,_,.nil=>.nil
 |_,_,.cons y t h=>.cons ⟨t,rfl⟩ (nu h)
theorem qK (hc:X.calm=true):f6 X (.builtin "sorted") fF:=by
 intro EO pins s σ H xs us Q I r h
 obtain⟨Hs,ps,i,rp,h⟩:=h
 have key:∃ns qs,ps=[.dct ns qs]∧ns.length≤1∧fF ps=.ok (.lst (ns.map PV.str)):=by
  unfold fF at h
  split at h
  ·exact⟨[],_,rfl,by decide,rfl⟩
  ·exact⟨[_],_,rfl,gO _,rfl⟩
  ·exact h.elim
 obtain⟨ns,qs,rfl,hn,eb⟩:=key
 rw[eb]at h
 obtain⟨v,rfl,r1⟩:=rp.one_inv
 obtain⟨ad,vs,rfl,hl,h3,rs⟩:=r1.dct_inv
 obtain⟨u,rfl,rfl⟩:=vals1 r
 obtain⟨z,hd,kvs,rel,o,es,ep,q1,q2,q3,q4,q5,q6⟩:=yd I.hok (i _ _ hl)
 refine sF (I.ok.hd hc) hd ⟨o,q1,q2,q3⟩ (k8 h3 rel q5) hn fun h1 h' tk n' vs' k1 hD k2 hS=>?_
 have I2:Inv X pins σ H { s with heap:=h1,toks:=s.toks }:=I.kept k1
 have hf:H h1.objs.size=none:=I2.hok.fresh (gO _)
 refine⟨.ref h1.objs.size,upd H h1.objs.size (.lst (ns.map V.str)),I2.laid (t':=tk) (o:=.lst (ns.map V.str)) k2 (gO _) ⟨by rw[aad,sizeLine_eq];omega,vs',n',nu hS,hD⟩,rfl,?_⟩
 exact h _ _ _ (.new i hf) (.lst ak (nC ns))
theorem nZ:bootBuiltins "sorted" = some (.builtin "sorted"):=by decide +kernel
end
theorem SR.setFlo{K:aT}{H0 Hs0 Hs H Hs' H':Hp}{σ:PSt}{τ:L2.St}{a C dx r:Addr}{vn:V}{vs:List V}{now:PV}{ns:List Str}{ps:List PV}(S:SR K H0 Hs0 Hs H σ τ)(i:Nat)(g:Grow Hs H Hs' H')(f:FloAt K H0 Hs' H' a C dx r vn vs now ns ps):
  SR K H0 Hs0 Hs' H' (σ.set i (some (.flo none now ns ps))) (τ.set i (some (.ref a))):=by
 refine⟨S.g.trans g,fun j sv e=>?_,fun j k xs' ys' ad hjk e1 e2 e3=>?_,by rw[aas,aas];exact S.len⟩
 ·rcases aF e with ⟨rfl,e',hl⟩|⟨hne,e'⟩
  ·cases e'
   exact⟨.ref a,by rw[aao (by rw[←S.len];exact hl)],a,C,dx,r,vn,vs,rfl,(fun z hz=>nomatch hz),f⟩
  ·obtain⟨w,e1,r1⟩:=(S.grow g).slot j sv e'
   exact⟨w,by rw[aaa (fun z=>hne z.symm)];exact e1,r1⟩
 ·rcases aF e1 with ⟨_,e',_⟩|⟨hj,e1'⟩
  ·cases e'
  ·rcases aF e2 with ⟨_,e',_⟩|⟨hk,e2'⟩
   ·cases e'
   ·rw[aaa (fun z=>hj z.symm)]at e3
    rw[aaa (fun z=>hk z.symm)]
    exact S.inj j k _ _ ad hjk e1' e2' e3
def Hm(C:Addr):Sp:=fun vs H Q _=>∃(x dx:Addr),vs=[.ref x]∧H x=some (.ins C dx [])∧∀p r,H p=none→H r=none→r≠p →
 Q .non (upd (upd (upd (upd H p (.tup [.int 0,.int 1])) x (.ins C dx [("now",.ref p)])) r (.dK [])) x (.ins C dx [("now",.ref p),("rows",.ref r)]))
structure MakeF (P:Program) (w:World) (K:aT) (mg:Str→Option Value) (base:Heap) (k:Nat):Prop where
 ex:∃(C g:Addr) (fd:FuncData) (ps:List Str),aC K "Floor" C∧Mk K C g∧Binds K fd ps []∧FnOk P w K mg base (CXG P w) k g fd ps (Hm C)
def sY(j:Nat):DS:=fun σ=>.ok (.next (σ.set j (some (.flo none (.tup [.int 0,.int 1]) [] []))))
section
variable {X:Cx}{H0 Hs0:Hp}{p pos pos' cpos:Pos}{x:Str}
theorem yS(i:Nat){j k:Nat}(M:MakeF X.prog X.w X.K X.mg X.base j)(hr:Room k X.A)(KG:KGl X)(hjk:j+1≤k:=by decide)(hN:X.N.Nodup:=by assumption)(hi:X.N[i]? = some x:=by rfl)(hx:Loc X.env.scope x:=by first|exact Or.inl rfl|exact Or.inr rfl)
  (hg:Gl X "Floor":=by rfl) (hf:X.fn x=true∨X.env.scope.names.lookup x=some .local:=by first|exact Or.inl rfl|exact Or.inr rfl):XS X H0 Hs0 (.Assign [.Name x pos'] (.Call (.Name "Floor" p) [] [] cpos) pos) (sY i):=by
 obtain⟨C,g,fd,ps,h1,h2,h3,h4⟩:=M.ex
 refine⟨PS.imp (oN hN hi hx (wU h2 h4 (hr.mono hjk) hg (KG "Floor" C h1) h3 .nil nH (by decide)) (f9 rfl) hf) fun D τ H ⟨Hs,σ,S,q⟩=>?_⟩
 intro x dx hx hd hn
 refine⟨x,dx,rfl,ak,fun p r hp hr hpr=>⟨rfl,?_⟩⟩
 have nx:∀b,upd (upd H dx (.own x)) x (.ins C dx []) b=none→H b=none∧b≠x∧b≠dx:=fun b hb=>by
  have b1:b≠x:=fun z=>by rw[z,ak]at hb;cases hb
  rw[aj b1]at hb
  have b2:b≠dx:=fun z=>by rw[z,ak]at hb;cases hb
  rw[aj b2]at hb
  exact⟨hb,b1,b2⟩
 obtain⟨p0,p1,p2⟩:=nx p hp
 obtain⟨r0,r1,r2⟩:=nx r hr
 generalize hH:upd (upd (upd (upd (upd (upd H dx (.own x)) x (.ins C dx [])) p (.tup [.int 0,.int 1])) x (.ins C dx [("now",.ref p)])) r (.dK [])) x (.ins C dx [("now",.ref p),("rows",.ref r)])=H'
 have ax:H' x=some (.ins C dx [("now",.ref p),("rows",.ref r)]):=by rw[←hH];exact ak
 have ar:H' r=some (.dK []):=by rw[←hH,aj r1];exact ak
 have ap:H' p=some (.tup [.int 0,.int 1]):=by rw[←hH,aj p1,aj (Ne.symm hpr),aj p1];exact ak
 have ad:H' dx=some (.own x):=by rw[←hH,aj hn,aj (Ne.symm r2),aj hn,aj (Ne.symm p2),aj hn];exact ak
 have ao:∀b,b≠x→b≠dx→b≠p→b≠r→H' b=H b:=fun b b1 b2 b3 b4=>by rw[←hH,aj b1,aj b4,aj b1,aj b3,aj b1,aj b2]
 have gh:aL H H':=fun b u z=>by
  rw[ao b (fun y=>by rw[y,hx]at z;cases z) (fun y=>by rw[y,hd]at z;cases z) (fun y=>by rw[y,p0]at z;cases z) (fun y=>by rw[y,r0]at z;cases z)]
  exact z
 have G2:Grow Hs H (upd Hs p (.tup [.int 0,.int 1])) H':=⟨aX (S.g.i.free p0),fun b u z=>by
   by_cases y:b=p
   ·rw[y,ak]at z;cases z;rw[y];exact ap
   ·rw[aj y]at z;exact gh _ _ (S.g.i _ _ z),gh,fun b hb hn'=>by
   rw[aj (fun y=>hb (by rw[y];exact p0))];exact hn'⟩
 have f:FloAt X.K H0 (upd Hs p (.tup [.int 0,.int 1])) H' x C dx r (.ref p) [] (.tup [.int 0,.int 1]) [] []:=
  ⟨ax,h1,ad,ar,rfl,by rw[aj (Ne.symm p1)];exact S.g.i.free hx,by rw[aj (Ne.symm p2)];exact S.g.i.free hd,by rw[aj hpr];exact S.g.i.free r0,S.g.h.free hx,S.g.h.free hd,S.g.h.free r0,
   .tup (SqT.of ak) (.cons (.int 0) (.cons (.int 1) .nil)),.nil⟩
 exact q _ H' _ (aX (S.g.i.free p0)) (S.setFlo i G2 f)
end
section
variable {P:Program}{w:World}{K:aT}{mg:Str→Option Value}{base:Heap}
theorem xk {qual self:Str} {st:Stmt} (D:InitAt K "Floor" qual st) (S:FnScope [self] [self] (af st)) (T1:FldAt K "Floor" "now") (T2:FldAt K "Floor" "rows")
  (hb:∀(kV doc pm:Value) (an:Option Addr) (cdv ct:Value) (us:List Value),us.length=[self].length→bindArgs (aaF "__init__" qual (ck st) (aS st) (af st) .none kV doc pm an cdv ct) ⟨us,[]⟩=pure ([self].zip us))
  (hbody:∀(f:Addr)(cdv:Value)(A:Around)(outer:List Env)(s:Shared)(H:Hp)(E:XK),
   PSs (gP (CXG P w) P w K mg base [self] qual (af st) f cdv A outer s H E) (aS st) (Ea (BH K (yX 0) (D9 (sX (tC (.int 0)) (sX (tC (.int 1)) yZ))) "now") (BH K (yX 0) vQ "rows"))):MakeF P w K mg base 1:=by
 obtain⟨C,g,fd,h1,h2,M,F⟩:=D.ex
 refine⟨C,g,fd,[self],h1,M,F.binds hb,?_⟩
 have cl:=(dW h2).cl
 refine jB (k:=0) F S (fun vs H Q E h=>?_) (fun cdv A outer s H vs Q E hr h=>?_)
 ·obtain⟨x,dx,rfl,_⟩:=h
  rfl
 ·obtain⟨x,dx,rfl,hx,q⟩:=h
  refine⟨_,hbody g cdv A outer s H E,?_⟩
  refine⟨by decide,fun p hp=>?_⟩
  have px:p≠x:=fun z=>by rw[z,hx]at hp;cases hp
  refine⟨.ref x,rfl,x,C,dx,[],rfl,by rw[aj (Ne.symm px)];exact hx,cl,T1.no h1,by decide,?_⟩
  intro r hr'
  have rx:r≠x:=fun z=>by rw[z,ak]at hr';cases hr'
  rw[aj rx]at hr'
  have rp:r≠p:=fun z=>by rw[z,ak]at hr';cases hr'
  rw[aj rp]at hr'
  refine⟨.ref x,rfl,x,C,dx,[("now",.ref p)],rfl,by rw[aj (Ne.symm rx)];exact ak,cl,T2.no h1,(by show(1:Nat)<1000;decide),?_⟩
  have e1:fB "rows" (V.ref r) ([("now",V.ref p)]:List (Str×V))=([("now",V.ref p),("rows",V.ref r)]:List (Str×V)):=p7 _ (by show(["now"]:List Str).contains "rows" = false;decide +kernel)
  rw[e1]
  exact q p r hp hr' rp
end
section
variable {X:Cx}{H0 Hs0:Hp}
theorem uJ{x m c:Str}{np apos pos:Pos}{e:Expr}{es:List Expr}{M:List PV→Res PV}{ra:DA}{qs ps:List PV}{ns:List Str}{i:Nat}{Q:VK}{E:XK}{pl:Sem Bool}{pins:List (Addr×Obj)}{τ:L2.St}{σ:PSt}{Hs H:Hp}{s:Shared}(T:MethIs X m [(c,M)])(ha:QA X.nox H0 Hs0 (e::es) ra)
  (hN:X.N[i]? = some x) (hv:Vis X.env.scope x) (hd:(x==("__debug__":Str))=false) (hcd:(x==("__classdict__":Str))=false)
  (hst:starEach (e::es) X.env=(false,eval e X.env)::starEach es X.env) (hpl:(backTo pos (starEach es X.env)).any (·.1)=false)
  (ht:eval (.Call (.Attribute (.Name x np) m apos) (e::es) [] pos) X.env=(do
   let ov ←eval (.Name x np) X.env
   standAt apos.atName
   let(f,first) ←holding [ov] (getMethod ov m pl)
   callWith pos f first (backTo pos (starEach (e::es) X.env)) (backToKw pos (keywordEach [] X.env))))
  (I:Inv X pins τ H s) (S:SR X.K H0 Hs0 Hs H σ τ) (hσ:σ[i]? = some (some (.sh (.ob c ns ps)))) (hns:ns.contains m=false) (hps:ra σ=.ok qs)
  (hq:∀vs Hs1 H1,Grow Hs H Hs1 H1→Reps X.K Hs1 vs (.ob c ns ps::qs)→Ret X.K Hs1 H1 (M (.ob c ns ps::qs)) (fun c=>∀(C:Addr)(Hs2 H2:Hp),aC X.K c C→Grow Hs1 H1 Hs2 H2→E (.ref C) none H2) Q):
  wpAny (model X.prog X.w) X.A (eval (.Call (.Attribute (.Name x np) m apos) (e::es) [] pos) X.env) (EP X pins τ Q) (fun e s'=>∃H1 s1,Inv X pins τ H1 s1∧CXG X.prog X.w X.stack H1 s1 E e s') s:=by
 obtain⟨C,g,fd,bs,k,t1,t2,t3,t4,t5,t6,t7⟩:=T.h c M (by simp)
 obtain⟨v,e1,rv⟩:=S.slot i _ hσ
 have rv:Rep X.K Hs v (.ob c ns ps):=rv
 obtain⟨ad,C',dx,vs,rfl,a1,a2,a3,a4⟩:=rv.ob_inv
 cases t1.inj a2
 refine abe (pl:=pl) (wpAny_mono (dJ (X:=X.nox) hN hv hd hcd pins s τ H (fun v H1=>v=.ref ad∧H1=H) (I.wish _) ⟨_,e1,rfl,rfl⟩) (fun u s1 ⟨y,H1,I1,ry,ey,eH⟩=>?_) fun _ _ z=>z.elim) ht
 subst ey eH
 obtain rfl:u=Value.ref ad:=ry
 have I1:=I1.unwish
 refine gv I1 (S.g.i _ _ a1) (dW t2).cl t3 (ju ns vs hns) ?_
 refine PySem.W.callWith_K (first:=[.ref ad]) (h₀:=X.base) I.ok.mod.kin t3.kp (wpAny_mono (ha pos pins s1 τ H1 (fun vs H2=>∃Hs2,Grow Hs H1 Hs2 H2∧Reps X.K Hs2 vs qs) (I1.wish _) ⟨Hs,σ,S,by rw[hps];exact fun vs Hs' H' g r=>⟨Hs',g,r⟩⟩)
  (fun us s2 ⟨ws,H2,I2,r,Hs2,g2,r2⟩=>⟨I2.unwish.kIn,?_⟩) fun _ _ z=>z.elim) hst hpl
 have I2:=I2.unwish
 have rr:Reps X.K Hs2 (.ref ad::ws) (.ob c ns ps::qs):=.cons (rv.mono g2.s) r2
 have hq1:=hq (.ref ad::ws) Hs2 H2 g2 rr
 have hl:(PV.ob c ns ps::qs).length=bs.length:=by
  by_cases hl:(PV.ob c ns ps::qs).length=bs.length
  ·exact hl
  ·rw[t6 _ hl]at hq1;exact hq1.elim
 have rs:Vals ((.ref ad::ws)++[]) ((Value.ref ad::us)++[]):=Vals.append (.cons rfl r) .nil
 have hul:((Value.ref ad::us)++[]).length=bs.length:=by rw[←rs.length,aa3,rr.length,hl]
 refine wpAny_call (codeAny_mono (t7.run X.A X.stack s2 H2 ⟨Value.ref ad::us,[]⟩ ((Value.ref ad::us)++[]) ((.ref ad::ws)++[]) Q E t5 I2.env0 (t4 s2 (Value.ref ad::us) I2.kIn hul) rs ⟨by rw[aa3,rr.length,hl],Hs2,_,g2.i,by rw[aa3];exact rr,hq1⟩) fun r s' hq=>?_)
 cases r with
 |error e=>exact⟨H2,s2,I2,hq⟩
 |ok fl=>
  cases fl with
  |ret u=>exact I2.after hq
  |next=>exact False.elim hq
  |brk=>exact False.elim hq
  |cont=>exact False.elim hq
def lC(j:Nat)(mt c:Str)(M:List PV→Res PV)(ra:DA)(cs:List Str)(i:Nat)(ds:DS):DS:=fun σ=>match σ[j]? with
 |some (some (.sh (.ob c' ns ps)))=>if c'=c∧ns.contains mt=false then BD (fun qs=>M (.ob c ns ps::qs)) ra cs i ds σ else .stuck
 |_=>.stuck
theorem zr{x mt c g n:Str}{i j:Nat}{np apos cpos bpos gp hpos pos:Pos}{e b0:Expr}{es:List Expr}{st:Stmt}{sts:List Stmt}{M:List PV→Res PV}{ra:DA}{cs:List Str}{ds:DS}{pl:Sem Bool}(T:MethIs X mt [(c,M)])(ha:QA X.nox H0 Hs0 (e::es) ra)
  (hjN:X.N[j]? = some x) (hv:Vis X.env.scope x) (hd:(x==("__debug__":Str))=false) (hcd:(x==("__classdict__":Str))=false) (he:starEach (e::es) X.env=(false,eval e X.env)::starEach es X.env) (hpl:(backTo cpos (starEach es X.env)).any (·.1)=false)
  (ht:eval (.Call (.Attribute (.Name x np) mt apos) (e::es) [] cpos) X.env=(do
   let ov ←eval (.Name x np) X.env
   standAt apos.atName
   let(f,first) ←holding [ov] (getMethod ov mt pl)
   callWith cpos f first (backTo cpos (starEach (e::es) X.env)) (backToKw cpos (keywordEach [] X.env))))
  (hsw:swapsWith (.Call (.Attribute (.Name x np) mt apos) (e::es) [] cpos) none bpos.line X.env=pure false)
  (hst:X.stack=X.env::X.outer) (hfm:X.env.frame=some X.env.locals) (hgg:Gl X g) (hgd:(g==("__debug__":Str))=false) (hC:Caught X.K g cs) (hN:X.N.Nodup) (hi:X.N[i]? = some n) (hk:X.env.scope.names.lookup n=some .local)
  (hs:∀ea,QSs (cxM X ea) H0 Hs0 (st::sts) ds):
  QS X H0 Hs0 (.Try [.Expr (.Call (.Attribute (.Name x np) mt apos) (e::es) [] cpos) bpos] [.ExceptHandler (some (.Name g gp)) (some n) (st::sts) hpos] [] [] pos) (lC j mt c M ra cs i ds):=by
 intro pins s τ H D I ⟨Hs,σ,S,h⟩
 unfold lC at h
 split at h
 case h_2=>exact h.elim
 rename_i c' ns ps hσ
 split at h
 case isFalse=>exact h.elim
 rename_i hcc
 obtain⟨rfl,hns⟩:=hcc
 unfold BD at h
 cases ea':ra σ with
 |err c=>rw[ea']at h;exact h.elim
 |stuck=>rw[ea']at h;exact h.elim
 |ok qs=>
 rw[ea']at h
 refine wpAny_Try_except ?_
 have hrun:=uJ (Q:=fun _ H1=>∃v Hs1,M (.ob c' ns ps::qs)=.ok v∧Grow Hs H Hs1 H1) (E:=fun cls _ H2=>∃c C Hs2,cls=.ref C∧M (.ob c' ns ps::qs)=.err c∧aC X.K c C∧Grow Hs H Hs2 H2) (pos:=cpos) (np:=np) T ha hjN hv hd hcd he hpl ht I S hσ hns ea' (fun vs Hs1 H1 g1 r1=>by
  cases em:M (.ob c' ns ps::qs) with
  |ok v=>exact fun v' Hs' H' g' r'=>⟨v,Hs',rfl,g1.trans g'⟩
  |err c=>exact fun C Hs2 H2 hc g2=>⟨c,C,Hs2,rfl,rfl,hc,g1.trans g2⟩
  |stuck=>simp only[em]at h;exact h.elim)
 refine wpAny_execs_cons (wpAny_Expr_any (wpAny_mono hrun (fun v s1 ⟨_,H1,I1,_,v',Hs1,em,g1⟩=>wpAny_execs_nil ?_) fun e' s' ⟨H1,s1,I1,ea,C,B,a0,H2,eq1,hos,hbare,fl,ux,hok,c,C',Hs2,ecls,em,hcl,g2⟩=>?_) I.quiet hsw)
 ·simp only[em]at h
  exact wpAny_execs_nil ⟨τ,H1,I1,h Hs1 H1 τ g1.s (S.grow g1)⟩
 ·subst eq1
  cases ecls
  simp only[em]at h
  split at h
  ·rename_i hin
   have hin:c∈cs:=by simpa using hin
   obtain⟨G,C2,hG,hC2,hex⟩:=hC.h c hin
   have eC:C2=C:=by
    have:=hC2.symm.trans hcl
    injection this with this
    injection this with this
    injection this
   subst eC
   have hfr:X.A.frames=some (X.env::X.outer):=by rw[←hst];exact I1.ok.frames
   rw[hst]at fl
   refine wpAny_looks_onW hfr hfm fl fun h4 held4 sm4=>?_
   refine wpAny_landsW held4 fun h5 fl5 sm5=>?_
   have sm45:=sm4.trans sm5
   rw[←hst]at fl5
   obtain⟨hn5,I5⟩:=landed I1 hos hbare ux hok fl5 sm45
   have I5m:=qu (ea:=ea) I5
   refine wpAny_handleBy_cons (codeAny_handlers_test (jw (X:=cxM X ea) I5m hgg (abI I5.kIn (I5.mod.glob.keeps I5.bk) hG) ?_ hgd)) (by intro q;cases q)
   obtain⟨ob,hob,hobc⟩:=fl5.there
   have lt:PySem.W.Looks (model X.prog X.w) h5 (typeOf (.ref ea)) ob.cls:=(PySem.W.Looks.ld hob).andThen .now
   rw[hobc]at lt
   refine(PySem.W.exm_one (K:=X.K) I5.kIn lt hex).at ?_
   show codeAny _ _ _ _ _
   refine codeAny_handlers_suite_as ?_
   refine lands_againW fl5 fun h6 fl6 sm6=>?_
   obtain⟨hn6,I6⟩:=landed I1 hos hbare ux hok fl6 (sm45.trans sm6)
   have g3:Grow Hs H (upd Hs2 ea (.ext (vo ea C2))) (upd H2 ea (.ext (vo ea C2))):=g2.trans (.new g2.i hn6)
   refine gY (X:=cxM X ea) (qu I6) hN hi (.inl hk) (v:=.ref ea) rfl (fun s7 I7=>?_) (.inr hk)
   have S3:=(S.grow g3).set i (v:=.ref ea) (p:=.exc c) (.exc ak hcl)
   cases eds:ds (σ.set i (some (.sh (.exc c)))) with
   |err c'=>rw[eds]at h;exact h.elim
   |stuck=>rw[eds]at h;exact h.elim
   |ok fl=>
    rw[eds]at h
    cases fl with
    |brk σ'=>exact h.elim
    |cont σ'=>exact h.elim
    |ret p=>exact h.elim
    |next σ'=>
     refine wpAny_mono (hs ea pins s7 _ _ { nx:=fun τ' H'=>∃Hs',aL Hs Hs'∧SR X.K H0 Hs0 Hs' H' σ' τ',rt:=fun _ _=>False } I7 ⟨_,_,S3,by
      rw[eds]
      exact fun Hs' H' τ' e S'=>⟨Hs',g3.s.trans e,S'⟩⟩) (fun f s8 q=>?_) fun _ _ z=>z.elim
     cases f with
     |brk=>obtain⟨_,_,_,z⟩:=q;exact z.elim
     |cont=>obtain⟨_,_,_,z⟩:=q;exact z.elim
     |ret u=>obtain⟨_,_,_,_,_,z⟩:=q;exact z.elim
     |next=>
      obtain⟨τ8,H8,I8,Hs8,e8,S8⟩:=q
      refine Ar (rZ I.ok I8) hN hi hk fun s9 I9=>⟨_,H8,I9,?_⟩
      exact h Hs8 H8 _ e8 (S8.unset i)
  ·exact h.elim
variable {es:List Expr}{ra:DA}{pos:Pos}{x g:Str}
theorem DY(j i:Nat){n mt c:Str}{np apos cpos bpos gp hpos:Pos}{e:Expr}{st:Stmt}{sts:List Stmt}{M:List PV→Res PV}{cs:List Str}{ds:DS}{pl:Sem Bool}(T:MethIs X mt [(c,M)])(ha:XA X.nox H0 Hs0 (e::es) ra)(hC:Caught X.K g cs)(hs:∀ea,XB (cxM X ea) H0 Hs0 (st::sts) ds)
  (hN:X.N.Nodup:=by assumption) (hjN:X.N[j]? = some x:=by rfl) (hv:Vis X.env.scope x:=by first|exact Or.inl rfl|exact Or.inr (Or.inl rfl)|exact Or.inr (Or.inr rfl)) (hd:(x==("__debug__":Str))=false:=by decide) (hcd:(x==("__classdict__":Str))=false:=by decide) (he:noStar e=true:=by rfl) (hpl:es.all noStar=true:=by rfl)
  (ht:eval (.Call (.Attribute (.Name x np) mt apos) (e::es) [] cpos) X.env=(do
   let ov ←eval (.Name x np) X.env
   standAt apos.atName
   let(f,first) ←holding [ov] (getMethod ov mt pl)
   callWith cpos f first (backTo cpos (starEach (e::es) X.env)) (backToKw cpos (keywordEach [] X.env))):=by rfl)
  (hst:X.stack=X.env::X.outer:=by rfl) (hfm:X.env.frame=some X.env.locals:=by rfl) (hgg:Gl X g:=by rfl) (hgd:(g==("__debug__":Str))=false:=by decide) (hi:X.N[i]? = some n:=by rfl) (hk:X.env.scope.names.lookup n=some .local:=by rfl):
  XS X H0 Hs0 (.Try [.Expr (.Call (.Attribute (.Name x np) mt apos) (e::es) [] cpos) bpos] [.ExceptHandler (some (.Name g gp)) (some n) (st::sts) hpos] [] [] pos) (lC j mt c M ra cs i ds):=
 ⟨zr (b0:=e) T ha.h hjN hv hd hcd (aA he) (fc hpl) ht rfl hst hfm hgg hgd hC hN hi hk fun ea=>(hs ea).h⟩
theorem uH{σ:PSt}{mt c c':Str}{M:List PV→Res PV}{cs ns:List Str}{i j:Nat}{ds:DS}{qs ps:List PV}{σ':PSt}(h0:σ[j]? = some (some (.sh (.ob c ns ps))))(h00:ns.contains mt=false)(h1:ra σ=.ok qs)(h2:M (.ob c ns ps::qs)=.err c')(h3:cs.contains c'=true)(h4:ds (σ.set i (some (.sh (.exc c'))))=.ok (.next σ')):lC j mt c M ra cs i ds σ=.ok (.next (σ'.set i none)):=by
 unfold lC
 rw[h0]
 simp only[h00,true_and,if_true]
 unfold BD
 simp only[h1,h2,h3,if_true,h4]
end
section
variable {P:Program}{w:World}{K:aT}{mg:Str→Option Value}{base h:Heap}
theorem xf{c m qual:Str}{st:Stmt}{N ps:List Str}{k:Nat}{d:DS}(D:MethAt K c m qual st)(S:FnScope N ps (af st))
  (hb:∀(kV doc pm:Value)(an:Option Addr)(cdv ct:Value)(us:List Value),us.length=ps.length→bindArgs (aaF m qual (ck st) (aS st) (af st) .none kV doc pm an cdv ct) ⟨us,[]⟩=pure (ps.zip us))
  (hbody:∀(f:Addr)(cdv:Value)(A:Around)(outer:List Env)(s:Shared)(H Hs:Hp)(E:XK),Room k (A.deeper (envOfC qual (af st) s.heap.objs.size f cdv)) →
   XB (gP (CXG P w) P w K mg base N qual (af st) f cdv A outer s H E) H Hs (aS st) d):MethOne P w K mg base c m (k+1) (uK ps.length N.length d):=by
 obtain⟨C,g,fd,h1,h2,h3,F⟩:=D.ex
 exact⟨C,g,fd,ps,h1,h2,h3,F.binds hb,fun qs h=>zh h,De F S fun cdv A outer s H Hs E hr=>(hbody g cdv A outer s H Hs E hr).h⟩
end
section
variable {X:Cx}{H0 Hs0:Hp}{e:Expr}{d:DE}
theorem xeW(h:XE X H0 Hs0 e d):XEW X H0 Hs0 e (oq d):=⟨PE.imp h.h fun τ H Q ⟨Hs,σ,S,q⟩=>⟨Hs,σ,S,by
 unfold oq at q
 split at q
 ·rename_i p ed
  rw[ed]
  exact fun v Hs' H' g r=>q v Hs' H' g.s (S.grow g) r
 ·exact q.elim⟩⟩
end
end G
namespace Law
open PySem PySem.Spec PyProof.Rows L2 G HM
def top(i:Nat):Stmt:=PySem.Challenge.pw_glide_k35_gliding_alone.main.body.getD i (.Pass ⟨0,0,0,0⟩)
noncomputable def fE:DS:=(aO 2 (e2 dG (e2 bc (ae 2) (eC (.int 1009))) (e2 bA (ae 3) (eC (.int 1000003)))))
noncomputable def en:DS:=(az (sIf (tV (e2 (eQ fun i j=>decide (i<j)) (ae 1) (gG 0))) (aY (e2 bA (aw 0 (ae 1)) (e2 jq (eC (.int 10)) (eC (.int 60))))) bo)
  (az (aO 2 (e2 dG (e2 bc (ae 1) (eC (.int 7907))) (eC (.int 3571))))
  (az (gK (itE (eSl (ae 0) oNo (oE (eC (.int 3))))) (gN 3) fE)
  (az (aO 2 (e2 bA (ae 2) (eC (.int 2147483647))))
  (aY (e2 bA (e2 bc (ae 2) (ae 2)) (eC (.int 2147483629))))))))
noncomputable def aN:List PV→Res PV:=bz 2 4 en
noncomputable def eG:DT:=(tV (e2 (eQ fun i j=>decide (j<i)) (ae 0) (eC (.int 0))))
theorem fv(σ:PSt):eG σ=(tV (e2 (eQ fun i j=>decide (j<i)) (ae 0) (eC (.int 0)))) σ:=rfl
noncomputable def eI:DS:=(v3 0 1 (aa (e2 bA (ae 1) (ae 0)) (aa (ae 0) ag)))
theorem jI(σ:PSt):eI σ=(v3 0 1 (aa (e2 bA (ae 1) (ae 0)) (aa (ae 0) ag))) σ:=rfl
noncomputable def dZ:DS:=(az (aO 0 (eA sI (aa (ae 0) ag)))
  (az (aO 1 (eA sI (aa (ae 1) ag)))
  (az (bN eG eI)
  (aY (ae 1)))))
noncomputable def bI:List PV→Res PV:=bz 2 2 dZ
noncomputable def dz:DS:=(az (aO 3 (eA (fun ps=>noErr (bI ps)) (aa (eA (fun ps=>noErr (bI ps)) (aa (ae 0) (aa (ae 1) ag))) (aa (ae 2) ag))))
  (aY (eA bB (aa (e2 a9 (ae 0) (ae 3)) (aa (e2 a9 (ae 1) (ae 3)) (aa (e2 a9 (ae 2) (ae 3)) ag))))))
noncomputable def cE:List PV→Res PV:=bz 3 4 dz
noncomputable def ft:DS:=(az (aO 3 (e2 dG (e2 bc (aw 0 (eC (.int 0))) (aw 2 (eC (.int 1)))) (e2 bc (e2 bc (aw 1 (eC (.int 0))) (aw 2 (eC (.int 0)))) (aw 0 (eC (.int 2))))))
  (aY (eA (fun ps=>noErr (cE ps)) (aa (ae 3) (aa (e2 dG (e2 bc (aw 0 (eC (.int 1))) (aw 2 (eC (.int 1)))) (e2 bc (e2 bc (aw 1 (eC (.int 1))) (aw 2 (eC (.int 0)))) (aw 0 (eC (.int 2))))) (aa (e2 bc (aw 0 (eC (.int 2))) (aw 2 (eC (.int 1)))) ag))))))
noncomputable def di:List PV→Res PV:=bz 3 4 ft
noncomputable def dY:DS:=(az (aO 2 (eA (fun ps=>noErr (bI ps)) (aa (ae 0) (aa (ae 1) ag))))
  (aY (eA bB (aa (e2 a9 (ae 0) (ae 2)) (aa (e2 a9 (ae 1) (ae 2)) ag)))))
noncomputable def aV:List PV→Res PV:=bz 2 3 dY
noncomputable def kR:DS:=(aY (e2 (eQ fun i j=>decide (i<j)) (e2 bc (aw 0 (eC (.int 0))) (aw 1 (eC (.int 1)))) (e2 bc (aw 1 (eC (.int 0))) (aw 0 (eC (.int 1))))))
noncomputable def cJ:List PV→Res PV:=bz 2 2 kR
noncomputable def fu:DS:=(az (sIf (tV (eA (fun ps=>noErr (cJ ps)) (aa (ae 1) (aa (e1 (du "Floor" "now") (ae 0)) ag)))) (oG "Past") bo) (fun _=>.stuck))
noncomputable def dj:List PV→Res PV:=uK 2 3 fu
noncomputable def fq:DS:=(az (aO 2 (eC .non))
  (az (lC 0 "go" "Floor" dj (aa (ae 1) ag) ["Past"] 3 (aO 2 (ae 3)))
  (az (sIf (G.tOr (G.dm (tV (e1 (dt [("Past",true)]) (ae 2)))) (G.dm (tV (e1 (dt [("Past",true)]) (ae 2))))) (aY (eC (.bl false))) bo)
  (aY (e1 uW (e1 (dt [("Past",false)]) (ae 2)))))))
noncomputable def b6:List PV→Res PV:=bz 2 4 fq
noncomputable def cZ:DS:=(az (oI 6 (eA bB (aa (e2 eO (e2 bA (ae 1) (eC (.int 9))) (eC (.int 2))) (aa (e2 eO (e2 bA (e2 a9 (ae 1) (eC (.int 9))) (eC (.int 9))) (eC (.int 2))) ag))))
  (aO 1 (e2 a9 (ae 1) (eC (.int 81)))))
noncomputable def cY:DE:=(eA bB (aa (ae 1) (aa (ae 0) ag)))
noncomputable def cX:DE:=(eA bB (aa (e2 eO (eC (.int 0)) (ae 0)) (aa (ae 1) ag)))
noncomputable def cW:DE:=(eA bB (aa (e2 bc (ae 2) (e2 dG (ae 0) (ae 3))) (aa (e2 bc (ae 2) (e2 dG (ae 1) (ae 4))) ag)))
noncomputable def cR:DS:=(az (aO 3 (e2 dG (eC (.int 1)) (e2 bA (ae 0) (eC (.int 5)))))
  (az (aO 4 (e2 dG (eC (.int 1)) (e2 bA (e2 a9 (ae 0) (eC (.int 5))) (eC (.int 5)))))
  (az (aO 5 (e2 eO (e2 bA (e2 a9 (ae 0) (eC (.int 25))) (eC (.int 9))) (eC (.int 2))))
  (az (lH 6 (aa (eA bB (aa (eC (.int 0)) (aa (eC (.int 0)) ag))) (aa (eA bB (aa (ae 3) (aa (eC (.int 0)) ag))) (aa (eA bB (aa (ae 5) (aa (ae 4) ag))) ag))))
  (az (gK (itR fV (aa (e2 bA (e2 a9 (ae 0) (eC (.int 225))) (eC (.int 4))) ag)) (gN 7) cZ)
  (az (sIf (tV (e2 pEq (e2 bA (e2 a9 (ae 0) (eC (.int 900))) (eC (.int 2))) (eC (.int 1)))) (cO 6 (g8 6 (itE (ae 6)) (gU [0,1]) cY 2 [])) bo)
  (az (sIf (tV (e2 pEq (e2 bA (e2 a9 (ae 0) (eC (.int 1800))) (eC (.int 2))) (eC (.int 1)))) (cO 6 (g8 6 (itE (ae 6)) (gU [0,1]) cX 2 [])) bo)
  (az (aO 8 (e2 eO (e2 bA (e2 a9 (ae 0) (eC (.int 3600))) (eC (.int 61))) (eC (.int 30))))
  (az (aO 9 (e2 eO (e2 bA (e2 a9 (ae 0) (eC (.int 219600))) (eC (.int 61))) (eC (.int 30))))
  (cO 6 (aY (df (itE (ae 6)) (gU [0,1]) cW 2 [2,8,9]))))))))))))
noncomputable def cw:List PV→Res PV:=bz 3 10 cR
noncomputable def dA:DS:=(az (sIf (tV (e2 pEq (e2 bA (ae 0) (eC (.int 2))) (eC (.int 0)))) (aY (eA bB (aa (e2 eO (e2 bA (e2 a9 (ae 0) (eC (.int 2))) (eC (.int 7))) (eC (.int 3))) (aa (e2 eO (e2 bA (e2 a9 (ae 0) (eC (.int 14))) (eC (.int 7))) (eC (.int 3))) ag)))) bo)
  (aY (eA bB (aa (e2 eO (e2 bA (e2 a9 (ae 0) (eC (.int 2))) (e2 jq (eC (.int 10)) (eC (.int 10)))) (e2 bc (eC (.int 5)) (e2 jq (eC (.int 10)) (eC (.int 9))))) (aa (e2 eO (e2 bA (e2 a9 (ae 0) (eC (.int 3))) (e2 jq (eC (.int 10)) (eC (.int 10)))) (e2 bc (eC (.int 5)) (e2 jq (eC (.int 10)) (eC (.int 9))))) ag)))))
noncomputable def cL:List PV→Res PV:=bz 1 1 dA
noncomputable def eU:DS:=(aY (qF (e1 (gM "int") (ae 0)) (e1 uW (e1 (gM "bool") (ae 0)))))
noncomputable def cK:List PV→Res PV:=bz 1 1 eU
noncomputable def cT:DS:=(aY (e1 (du "Floor" "now") (ae 0)))
noncomputable def aM:List PV→Res PV:=bz 1 1 cT
noncomputable def cS:DS:=(aY (eA fF (aa (e1 (du "Floor" "rows") (ae 0)) ag)))
noncomputable def aR:List PV→Res PV:=bz 1 1 cS
noncomputable def dB:DS:=(az (sIf (G.tOr (G.dm (tV (e1 (gM "str") (ae 1)))) (pQ true (ae 1) (e1 (du "Floor" "rows") (ae 0)))) (fun _=>.stuck) bo)
  (aY (e2 lO (e1 (du "Floor" "rows") (ae 0)) (ae 1))))
noncomputable def av:List PV→Res PV:=bz 2 2 dB
noncomputable def d3:DS:=(aY (e2 pIx (aD "row_of" [("Floor",av)] (ae 0) (aa (ae 1) ag)) (eC (.int 2))))
noncomputable def bV:List PV→Res PV:=bz 2 2 d3
noncomputable def d0:DS:=(aY (e2 pIx (aD "row_of" [("Floor",av)] (ae 0) (aa (ae 1) ag)) (eC (.int 3))))
noncomputable def bU:List PV→Res PV:=bz 2 2 d0
noncomputable def bP:DS:=(sIf (G.dm (tV (eA (fun ps=>noErr (cK ps)) (aa (ae 5) ag)))) (aY (eC (.bl false))) bo)
theorem gD(σ:PSt):bP σ=(sIf (G.dm (tV (eA (fun ps=>noErr (cK ps)) (aa (ae 5) ag)))) (aY (eC (.bl false))) bo) σ:=rfl
noncomputable def cm:DS:=(az (sIf (G.tOr (tV (e2 pNe (aD "clock" [("Floor",aM)] (ae 0) ag) (ae 2))) (G.tOr (tV (e2 pNe (aD "shift" [("Floor",bV)] (ae 0) (aa (ae 1) ag)) (ae 3))) (G.tOr (tV (e2 pNe (aD "speed" [("Floor",bU)] (ae 0) (aa (ae 1) ag)) (ae 4))) (tV (e2 pNe (aD "names" [("Floor",aR)] (ae 0) ag) (eA cb (aa (ae 1) ag))))))) (aY (eC (.bl false))) bo)
  (az (gK (itE (e2 nI (e2 nI (aD "clock" [("Floor",aM)] (ae 0) ag) (aD "shift" [("Floor",bV)] (ae 0) (aa (ae 1) ag))) (aD "speed" [("Floor",bU)] (ae 0) (aa (ae 1) ag)))) (gN 5) bP)
  (aY (eC (.bl true)))))
noncomputable def aQ:List PV→Res PV:=bz 5 6 cm
noncomputable def iG:DS:=(az (aO 3 (e2 eO (aw 2 (eC (.int 0))) (e2 bc (aw 0 (eC (.int 0))) (aw 2 (eC (.int 2))))))
  (az (aO 4 (e2 eO (aw 2 (eC (.int 1))) (e2 bc (aw 0 (eC (.int 1))) (aw 2 (eC (.int 2))))))
  (aY (e2 eO (e2 bc (e2 eO (aw 1 (eC (.int 0))) (aw 0 (eC (.int 0)))) (ae 4)) (e2 bc (e2 eO (aw 1 (eC (.int 1))) (aw 0 (eC (.int 1)))) (ae 3))))))
noncomputable def fX:List PV→Res PV:=bz 3 5 iG
noncomputable def eT:DS:=(aY (e2 (eQ fun i j=>decide (j<i)) (eA (fun ps=>noErr (fX ps)) (aa (ae 0) (aa (ae 1) (aa (eA bB (aa (aw 2 (eC (.int 0))) (aa (aw 2 (eC (.int 1))) (aa (eC (.int 1)) ag)))) ag)))) (eC (.int 0))))
noncomputable def dE:List PV→Res PV:=bz 3 3 eT
noncomputable def eZ:DT:=(G.kq (tV (e2 (eQ fun i j=>decide (j<i)) (gG 1) (eC (.int 1)))) (G.dm (tV (eA (fun ps=>noErr (dE ps)) (aa (aw 1 (e1 ky (eC (.int 2)))) (aa (aw 1 (e1 ky (eC (.int 1)))) (aa (ae 2) ag)))))))
noncomputable def iM:DS:=(uI 1)
noncomputable def e5:DS:=(az (bN eZ iM)
  (oI 1 (ae 2)))
noncomputable def kT:DS:=(az (lH 1 ag)
  (az (gK (itE (ae 0)) (gN 2) e5)
  (cO 1 (aY (ae 1)))))
noncomputable def fy:List PV→Res PV:=bz 1 3 kT
noncomputable def ia:DE:=(eA bB (aa (aw 0 (eC (.int 0))) (aa (aw 0 (eC (.int 1))) ag)))
noncomputable def mw:DS:=(az (aO 1 (e1 fe (df (itE (ae 0)) (gN 0) ia 1 [])))
  (az (aO 2 (eA (fun ps=>noErr (fy ps)) (aa (ae 1) ag)))
  (az (aO 3 (eA (fun ps=>noErr (fy ps)) (aa (e1 uV (ae 1)) ag)))
  (az (aO 4 (e2 dG (eSl (ae 2) oNo (oE (e1 ky (eC (.int 1))))) (eSl (ae 3) oNo (oE (e1 ky (eC (.int 1)))))))
  (az (sIf (tV (e2 (eQ fun i j=>decide (i<j)) (gG 4) (eC (.int 3)))) (fun _=>.stuck) bo)
  (aY (ae 4)))))))
noncomputable def fh:List PV→Res PV:=bz 1 5 mw
noncomputable def eV:DS:=(aY (eA n9 (aa (e2 pIx (aD "row_of" [("Floor",av)] (ae 0) (aa (ae 1) ag)) (eC (.int 1))) ag)))
noncomputable def cn:List PV→Res PV:=bz 2 2 eV
noncomputable def mC:DS:=(oI 1 (eA bB (aa (ae 3) (aa (ae 4) ag))))
noncomputable def dD:DS:=(gK (itE (eSl (ae 0) (oE (e2 dG (ae 2) (eC (.int 1)))) oNo)) (gN 4) mC)
noncomputable def dy:DS:=(az (lH 1 ag)
  (az (gK (xI (ae 0)) (gU [2,3]) dD)
  (cO 1 (aY (ae 1)))))
noncomputable def bQ:List PV→Res PV:=bz 1 5 dy
noncomputable def jE:DE:=(fun _=>.stuck)
noncomputable def gw:DS:=(aY (df (itE (eA (fun ps=>noErr (bQ ps)) (aa (ae 0) ag))) (gU [0,1]) jE 2 []))
noncomputable def cD:List PV→Res PV:=bz 2 2 gw
noncomputable def cj:DE:=(e2 lO (e1 (du "Floor" "rows") (ae 1)) (ae 0))
noncomputable def cH:DS:=(aY (df (itE (eA fF (aa (e1 (du "Floor" "rows") (ae 0)) ag))) (gN 0) cj 1 [0]))
noncomputable def ai:List PV→Res PV:=bz 1 1 cH
noncomputable def kF:DS:=(fun _=>.stuck)
noncomputable def dX:DS:=(az (aO 1 (eC .non))
  (az (lH 2 ag)
  (az (gK (itE (eA (fun ps=>noErr (bQ ps)) (aa (ae 0) ag))) (gU [3,4]) kF)
  (az (sIf (tV (e2 pIs (ae 1) (eC .non))) (aY (eC .non)) bo)
  (cO 2 (aY (eA bB (aa (ae 1) (aa (ae 2) ag)))))))))
noncomputable def cU:List PV→Res PV:=bz 1 6 dX
noncomputable def bC:DT:=(G.kq (tV (e2 oU (ae 3) (eC .non))) (fun _=>.stuck))
noncomputable def cu:DS:=(fun _=>.stuck)
noncomputable def aP:DS:=(lG (lH 2 ag)
  (lG (aO 3 (eA (fun ps=>noErr (cU ps)) (aa (aD "standing" [("Floor",ai)] (ae 0) ag) ag)))
  (lG (bN bC cu)
  (pX 2))))
noncomputable def aq:List PV→Res PV:=bz 2 4 aP
noncomputable def cC:DS:=(az (nA 1 (ib "stretches_ahead_of" "Floor" aq (ae 0) (aa (eC .non) ag)))
  (az (oI 1 (eA bB (aa (e1 (du "Floor" "now") (ae 0)) (aa (eC .non) (aa (eA (fun ps=>noErr (cD ps)) (aa (aD "standing" [("Floor",ai)] (ae 0) ag) (aa (eC .non) ag))) (aa (eA cb ag) (aa (eA cb ag) ag)))))))
  (cO 1 (aY (ae 1)))))
noncomputable def a7:List PV→Res PV:=bz 1 2 cC
noncomputable def ij:DT:=(tV (e2 pNe (ae 1) (eC (.int 0))))
theorem iV(σ:PSt):ij σ=(tV (e2 pNe (ae 1) (eC (.int 0)))) σ:=rfl
noncomputable def ik:DS:=(az (aO 2 (e2 bA (ae 0) (ae 1)))
  (az (aO 0 (ae 1))
  (aO 1 (ae 2))))
theorem m9(σ:PSt):ik σ=(az (aO 2 (e2 bA (ae 0) (ae 1)))
  (az (aO 0 (ae 1))
  (aO 1 (ae 2)))) σ:=rfl
noncomputable def iK:DS:=(az (aO 0 (eA sI (aa (ae 0) ag)))
  (az (aO 1 (eA sI (aa (ae 1) ag)))
  (az (bN ij ik)
  (aY (ae 0)))))
noncomputable def dg:List PV→Res PV:=bz 2 3 iK
noncomputable def gz:DS:=(aY (qF (e1 (gM "int") (ae 0)) (e1 uW (e1 (gM "bool") (ae 0)))))
noncomputable def bT:List PV→Res PV:=bz 1 1 gz
noncomputable def fS:DS:=(az (sIf (G.tOr (G.dm (tV (eA (fun ps=>noErr (bT ps)) (aa (ae 0) ag)))) (G.tOr (G.dm (tV (eA (fun ps=>noErr (bT ps)) (aa (ae 1) ag)))) (tV (e2 pEq (ae 1) (eC (.int 0)))))) (fun _=>.stuck) bo)
  (az (aO 2 (eA (fun ps=>noErr (dg ps)) (aa (ae 0) (aa (ae 1) ag))))
  (az (sIf (tV (e2 (eQ fun i j=>decide (i<j)) (ae 1) (eC (.int 0)))) (aO 2 (e1 ky (ae 2))) bo)
  (aY (eA bB (aa (e2 a9 (ae 0) (ae 2)) (aa (e2 a9 (ae 1) (ae 2)) ag)))))))
noncomputable def dS:List PV→Res PV:=bz 2 3 fS
noncomputable def kS:DS:=(aY (eA (fun ps=>noErr (dS ps)) (aa (e2 eO (e2 bc (aw 0 (eC (.int 0))) (aw 1 (eC (.int 1)))) (e2 bc (aw 1 (eC (.int 0))) (aw 0 (eC (.int 1))))) (aa (e2 bc (aw 0 (eC (.int 1))) (aw 1 (eC (.int 1)))) ag))))
noncomputable def gE:List PV→Res PV:=bz 2 2 kS
noncomputable def jF:DS:=(aY (e2 pNe (aw 0 (eC (.int 3))) (eA bB (aa (eC (.int 0)) (aa (eC (.int 0)) ag)))))
noncomputable def ir:List PV→Res PV:=bz 1 1 jF
noncomputable def ki:DE:=(fun _=>.stuck)
noncomputable def iI:DS:=(aY (eA AN (aa (df (itE (ae 1)) (gN 0) ki 1 []) ag)))
noncomputable def fY:List PV→Res PV:=bz 2 2 iI
noncomputable def pz:DS:=(az (sIf (G.tOr (G.dm (tV (eA (fun ps=>noErr (bT ps)) (aa (ae 0) ag)))) (G.tOr (G.dm (tV (eA (fun ps=>noErr (bT ps)) (aa (ae 1) ag)))) (G.tOr (G.dm (tV (eA (fun ps=>noErr (bT ps)) (aa (ae 2) ag)))) (tV (e2 pEq (ae 2) (eC (.int 0))))))) (fun _=>.stuck) bo)
  (az (aO 3 (eA (fun ps=>noErr (dg ps)) (aa (eA (fun ps=>noErr (dg ps)) (aa (ae 0) (aa (ae 1) ag))) (aa (ae 2) ag))))
  (az (sIf (tV (e2 (eQ fun i j=>decide (i<j)) (ae 2) (eC (.int 0)))) (aO 3 (e1 ky (ae 3))) bo)
  (aY (eA bB (aa (e2 a9 (ae 0) (ae 3)) (aa (e2 a9 (ae 1) (ae 3)) (aa (e2 a9 (ae 2) (ae 3)) ag))))))))
noncomputable def mH:List PV→Res PV:=bz 3 4 pz
noncomputable def iJ:DS:=(az (aO 3 (e2 dG (e2 bc (aw 0 (eC (.int 0))) (aw 2 (eC (.int 1)))) (e2 bc (e2 bc (aw 1 (eC (.int 0))) (aw 2 (eC (.int 0)))) (aw 0 (eC (.int 2))))))
  (az (aO 4 (e2 dG (e2 bc (aw 0 (eC (.int 1))) (aw 2 (eC (.int 1)))) (e2 bc (e2 bc (aw 1 (eC (.int 1))) (aw 2 (eC (.int 0)))) (aw 0 (eC (.int 2))))))
  (aY (eA (fun ps=>noErr (mH ps)) (aa (ae 3) (aa (ae 4) (aa (e2 bc (aw 0 (eC (.int 2))) (aw 2 (eC (.int 1)))) ag)))))))
noncomputable def e7:List PV→Res PV:=bz 3 5 iJ
noncomputable def gx:DS:=(aY (eA bB (aa (aw 0 (eC (.int 0))) (aa (aw 0 (eC (.int 1))) (aa (eA (fun ps=>noErr (e7 ps)) (aa (aw 0 (eC (.int 2))) (aa (aw 0 (eC (.int 3))) (aa (ae 1) ag)))) (aa (aw 0 (eC (.int 3))) ag))))))
noncomputable def fg:List PV→Res PV:=bz 2 2 gx
noncomputable def pA:DS:=(aY (eA (fun ps=>noErr (dS ps)) (aa (e2 dG (e2 bc (aw 0 (eC (.int 0))) (aw 1 (eC (.int 1)))) (e2 bc (aw 1 (eC (.int 0))) (aw 0 (eC (.int 1))))) (aa (e2 bc (aw 0 (eC (.int 1))) (aw 1 (eC (.int 1)))) ag))))
noncomputable def j4:List PV→Res PV:=bz 2 2 pA
noncomputable def bE:DS:=(oC 0 (aw 2 (eC (.int 0))) (eA (fun ps=>noErr (fg ps)) (aa (ae 2) (aa (ae 1) ag))))
noncomputable def dC:DW:=(gJ (gK (itE (bJ 0 (aD "standing" [("Floor",ai)] (ae 0) ag))) (gN 2) bE)
  (pM (zg 0 (bJ 0 (eA (fun ps=>noErr (j4 ps)) (aa (e1 (du "Floor" "now") (ae 0)) (aa (ae 1) ag)))))))
noncomputable def bR:MW:=lK 2 3 dC
noncomputable def aZ:DE:=(ae 0)
noncomputable def aG:DT:=(G.kq (tV (eA (fun ps=>noErr (ir ps)) (aa (ae 0) ag))) (tV (eA (fun ps=>noErr (fY ps)) (aa (aw 0 (eC (.int 0))) (aa (ae 1) ag)))))
noncomputable def ip:DS:=(fun _=>.stuck)
noncomputable def cB:DE:=(aw 0 (eC (.int 0)))
noncomputable def c4:DW:=(gJ (aO 3 (bJ 0 (e1 (du "Floor" "now") (ae 0))))
  (gJ (aO 4 (bJ 0 (eA (fun ps=>noErr (cD ps)) (aa (aD "standing" [("Floor",ai)] (ae 0) ag) (aa (ae 1) ag)))))
  (gJ (gb (bG 0 bR (aa (ae 1) ag)))
  (gJ (lJ 5 (itE (bJ 0 (aD "standing" [("Floor",ai)] (ae 0) ag))) (gN 0) aG aZ 1 [2])
  (gJ (gK (itE (ae 5)) (gN 6) ip)
  (oq (bJ 0 (eA bB (aa (ae 3) (aa (e1 (du "Floor" "now") (ae 0)) (aa (ae 4) (aa (ae 2) (aa (df (itE (ae 5)) (gN 0) cB 1 []) ag)))))))))))))
noncomputable def bL:MW:=lK 3 7 c4
noncomputable def jb:DW:=(gJ (sIf (c7 0 (tV (eA (fun ps=>noErr (cJ ps)) (aa (ae 1) (aa (e1 (du "Floor" "now") (ae 0)) ag))))) (fun _=>.stuck) bo)
  (gJ (nA 2 (nK 0 (ib "stretches_ahead_of" "Floor" aq (ae 0) (aa (ae 1) ag))))
  (gJ (pZ 2 (bG 0 bL (aa (bJ 0 (eA (fun ps=>noErr (gE ps)) (aa (ae 1) (aa (e1 (du "Floor" "now") (ae 0)) ag)))) (aa (eA cb ag) ag))))
  (qV 2 (oq (ae 2))))))
noncomputable def bW:MW:=lK 2 3 jb
noncomputable def fo:DE:=(eCh rO rO (eC (.str (PySem.Str.ofString "a"))) (ae 0) (eC (.str (PySem.Str.ofString "z"))))
noncomputable def iH:DS:=(az (sIf (G.tOr (G.dm (tV (e1 (gM "str") (ae 0)))) (G.dm (tV (eCh (eQ fun i j=>decide (i≤j)) (eQ fun i j=>decide (i≤j)) (eC (.int 1)) (eA og (aa (ae 0) ag)) (eC (.int 12)))))) (aY (eC (.bl false))) bo)
  (aY (eA yE (aa (df (itS (ae 0)) (gN 0) fo 1 []) ag))))
noncomputable def e6:List PV→Res PV:=bz 1 1 iH
noncomputable def ng:DS:=(fun _=>.stuck)
noncomputable def ic:DW:=(gJ (sIf (G.dm (tV (eA (fun ps=>noErr (e6 ps)) (aa (ae 1) ag)))) (fun _=>.stuck) bo)
  (gJ (sIf (c7 0 (pQ false (ae 1) (e1 (du "Floor" "rows") (ae 0)))) (fun _=>.stuck) bo)
  (gJ (aO 5 (eA bB (aa (ae 1) (aa (eA (fun ps=>noErr (fh ps)) (aa (ae 2) ag)) (aa (eA bB (aa (aw 3 (eC (.int 0))) (aa (aw 3 (eC (.int 1))) (aa (eC (.int 1)) ag)))) (aa (eA bB (aa (aw 4 (eC (.int 0))) (aa (aw 4 (eC (.int 1))) ag))) ag))))))
  (gJ (gK (itE (bJ 0 (aD "standing" [("Floor",ai)] (ae 0) ag))) (gN 6) ng)
  (pM (oC 0 (ae 1) (ae 5)))))))
noncomputable def er:MW:=lK 5 7 ic
noncomputable def eS:DS:=(aY (eA bB (aa (aw 0 (eC (.int 0))) (aa (aw 0 (eC (.int 1))) (aa (aw 0 (eC (.int 2))) (aa (eA bB (aa (aw 1 (eC (.int 0))) (aa (aw 1 (eC (.int 1))) ag))) ag))))))
noncomputable def cI:List PV→Res PV:=bz 2 2 eS
noncomputable def fD:DW:=(pM (oC 0 (ae 1) (bJ 0 (eA (fun ps=>noErr (cI ps)) (aa (aD "row_of" [("Floor",av)] (ae 0) (aa (ae 1) ag)) (aa (ae 2) ag))))))
noncomputable def cV:MW:=lK 3 3 fD
noncomputable def gC:DW:=(gJ (gb (oq (bJ 0 (aD "row_of" [("Floor",av)] (ae 0) (aa (ae 1) ag)))))
  (pM (iw 0 (ae 1))))
noncomputable def dF:MW:=lK 2 2 gC
noncomputable def jH:DS:=(az (aO 9 (eA (fun ps=>noErr (aN ps)) (aa (ae 0) (aa (ae 8) ag))))
  (az (aO 10 (eA (fun ps=>noErr (aN ps)) (aa (ae 0) (aa (e2 dG (ae 8) (eC (.int 1))) ag))))
  (az (sIf (tV (e2 pEq (e2 bA (ae 9) (eC (.int 5))) (eC (.int 1)))) (az (aO 3 (eA (fun ps=>noErr (cL ps)) (aa (e2 a9 (ae 9) (eC (.int 5))) ag)))
  (gb (bG 5 cV (aa (ae 4) (aa (ae 3) ag))))) (sIf (G.kq (tV (e2 pEq (e2 bA (ae 9) (eC (.int 5))) (eC (.int 2)))) (tV (e2 (eQ fun i j=>decide (j<i)) (aw 6 (eC (.int 0))) (eC (.int 0))))) (sIf (c7 5 (G.dm (tV (eA (fun ps=>noErr (b6 ps)) (aa (ae 5) (aa (eA (fun ps=>noErr (aV ps)) (aa (e2 bc (aw 6 (eC (.int 0))) (e2 bA (ae 10) (eC (.int 9)))) (aa (e2 bc (aw 6 (eC (.int 1))) (eC (.int 9))) ag))) ag)))))) (aY (eC (.bl false))) bo) (az (aO 11 (eA (fun ps=>noErr (aV ps)) (aa (e2 bc (e2 bA (e2 a9 (ae 9) (eC (.int 5))) (eC (.int 30))) (e2 bA (ae 10) (eC (.int 4)))) (aa (e2 dG (eC (.int 1)) (e2 bA (e2 a9 (ae 10) (eC (.int 4))) (eC (.int 6)))) ag))))
  (az (aO 12 (eA (fun ps=>noErr (aV ps)) (aa (e2 dG (e2 bc (aw 6 (eC (.int 0))) (aw 11 (eC (.int 1)))) (e2 bc (aw 11 (eC (.int 0))) (aw 6 (eC (.int 1))))) (aa (e2 bc (aw 6 (eC (.int 1))) (aw 11 (eC (.int 1)))) ag))))
  (az (oH (tcW pNe (bG 5 bW (aa (ae 12) ag)) (eA cb (aa (eA bB (aa (ae 6) (aa (ae 12) (aa (eA cb ag) (aa (eA cb ag) (aa (eA cb ag) ag)))))) ag))) (aY (eC (.bl false))) bo)
  (az (aO 6 (ae 12))
  (aO 7 (eA (fun ps=>noErr (di ps)) (aa (ae 7) (aa (ae 3) (aa (ae 11) ag)))))))))))
  (sIf (c7 5 (G.dm (tV (eA (fun ps=>noErr (aQ ps)) (aa (ae 5) (aa (ae 4) (aa (ae 6) (aa (ae 7) (aa (ae 3) ag))))))))) (aY (eC (.bl false))) bo))))
noncomputable def nY:DS:=(az (aO 1 (eA (fun ps=>noErr (fh ps)) (aa (eA (fun ps=>noErr (cw ps)) (aa (eA (fun ps=>noErr (aN ps)) (aa (ae 0) (aa (eC (.int 0)) ag))) (aa (eA (fun ps=>noErr (aN ps)) (aa (ae 0) (aa (eC (.int 1)) ag))) (aa (e2 dG (eC (.int 1)) (e2 bA (eA (fun ps=>noErr (aN ps)) (aa (ae 0) (aa (eC (.int 2)) ag))) (e2 jq (eC (.int 10)) (eC (.int 9))))) ag)))) ag)))
  (az (aO 2 (eA bB (aa (e2 eO (e2 bA (eA (fun ps=>noErr (aN ps)) (aa (ae 0) (aa (eC (.int 3)) ag))) (e2 jq (eC (.int 10)) (eC (.int 30)))) (e2 bc (eC (.int 5)) (e2 jq (eC (.int 10)) (eC (.int 29))))) (aa (e2 eO (e2 bA (eA (fun ps=>noErr (aN ps)) (aa (ae 0) (aa (eC (.int 4)) ag))) (e2 jq (eC (.int 10)) (eC (.int 30)))) (e2 bc (eC (.int 5)) (e2 jq (eC (.int 10)) (eC (.int 29))))) ag))))
  (az (aO 3 (eA (fun ps=>noErr (cL ps)) (aa (eA (fun ps=>noErr (aN ps)) (aa (ae 0) (aa (eC (.int 5)) ag))) ag)))
  (az (aO 4 (e2 pIx (eA cb (aa (eC (.str (PySem.Str.ofString "a"))) (aa (eC (.str (PySem.Str.ofString "zq"))) (aa (eC (.str (PySem.Str.ofString "abcdefghijkl"))) ag)))) (e2 bA (eA (fun ps=>noErr (aN ps)) (aa (ae 0) (aa (eC (.int 6)) ag))) (eC (.int 3)))))
  (az (sY 5)
  (az (oH (orW (tcW pNe (bG 5 bW (aa (eA bB (aa (eC (.int 0)) (aa (eC (.int 1)) ag))) ag)) (eA cb (aa (eA bB (aa (eA bB (aa (eC (.int 0)) (aa (eC (.int 1)) ag))) (aa (eA bB (aa (eC (.int 0)) (aa (eC (.int 1)) ag))) (aa (eA cb ag) (aa (eA cb ag) (aa (eA cb ag) ag)))))) ag))) (c7 5 (tV (e2 pNe (aD "settle" [("Floor",a7)] (ae 5) ag) (eA cb (aa (eA bB (aa (eA bB (aa (eC (.int 0)) (aa (eC (.int 1)) ag))) (aa (eC .non) (aa (eA cb ag) (aa (eA cb ag) (aa (eA cb ag) ag)))))) ag)))))) (aY (eC (.bl false))) bo)
  (az (gb (bG 5 er (aa (ae 4) (aa (eA n9 (aa (ae 1) ag)) (aa (ae 2) (aa (ae 3) ag))))))
  (az (aO 6 (eA bB (aa (eC (.int 0)) (aa (eC (.int 1)) ag))))
  (az (aO 7 (eA bB (aa (aw 2 (eC (.int 0))) (aa (aw 2 (eC (.int 1))) (aa (eC (.int 1)) ag)))))
  (az (gK (itR fU (aa (eC (.int 8)) (aa (eA yD (aa (eC (.int 10)) (aa (eA yC (aa (gG 0) (aa (eC (.int 58)) ag))) ag))) (aa (eC (.int 2)) ag)))) (gN 8) jH)
  (az (sIf (c7 5 (G.tOr (tV (e2 pNe (aD "body" [("Floor",cn)] (ae 5) (aa (ae 4) ag)) (ae 1))) (G.dm (tV (eA (fun ps=>noErr (b6 ps)) (aa (ae 5) (aa (eA bB (aa (e2 eO (eC (.int 0)) (eC (.int 1))) (aa (eC (.int 2)) ag))) ag))))))) (aY (eC (.bl false))) bo)
  (az (gb (bG 5 dF (aa (ae 4) ag)))
  (az (aO 12 (eA (fun ps=>noErr (aV ps)) (aa (e2 dG (e2 bc (eC (.int 2)) (aw 6 (eC (.int 0)))) (aw 6 (eC (.int 1)))) (aa (e2 bc (eC (.int 2)) (aw 6 (eC (.int 1)))) ag))))
  (az (oH (orW (tcW pNe (bG 5 bW (aa (ae 12) ag)) (eA cb (aa (eA bB (aa (ae 6) (aa (ae 12) (aa (eA cb ag) (aa (eA cb ag) (aa (eA cb ag) ag)))))) ag))) (c7 5 (tV (e2 pNe (aD "settle" [("Floor",a7)] (ae 5) ag) (eA cb (aa (eA bB (aa (ae 12) (aa (eC .non) (aa (eA cb ag) (aa (eA cb ag) (aa (eA cb ag) ag)))))) ag)))))) (aY (eC (.bl false))) bo)
  (aY (bJ 5 (qF (e2 pEq (aD "names" [("Floor",aR)] (ae 5) ag) (eA cb ag)) (e2 pEq (aD "clock" [("Floor",aM)] (ae 5) ag) (ae 12)))))))))))))))))))
noncomputable def oj:List PV→Res PV:=bz 1 13 nY
section
variable {P:Program}{w:World}{K:aT}{mg:Str→Option Value}{base h:Heap}
theorem ou:FnScope ["self"] ["self"] (af (inClass (top 62) 0)):=⟨rfl,rfl,rfl,by decide +kernel,rfl,by decide +kernel,by decide +kernel⟩
theorem o7 (D:InitAt K "Floor" "Floor.__init__" (inClass (top 62) 0)) (A_Floor_now:FldAt K "Floor" "now") (A_Floor_rows:FldAt K "Floor" "rows"):MakeF P w K mg base 1:=
 xk D ou A_Floor_now A_Floor_rows (fun _ _ _ _ _ _ us hl=>match us,hl with | [_],_=>rfl) (fun f cdv A outer s H E=>jn (rF (pv 0) (rJ (bX rK (bX rK eB))) rfl) (jm (rF (pv 0) wX rfl)))
theorem oz:FnScope ["script","k","number","cell"] ["script","k"] (af (top 64)):=⟨rfl,rfl,rfl,by decide +kernel,rfl,by decide +kernel,by decide +kernel⟩
theorem pd (D:DefAt K "_law_cell" (top 64)) (KI:K.In h) (GN:h.Ns mainGlobals mg) (B:Bi mg) :FunIn P w K mg base "_law_cell" 1 aN:=by
 have nd:=oz.nd
 refine a6 D KI GN oz (fun _ _ _ _ _ _ us hl=>match us,hl with | [_,_],_=>rfl) (fun f cdv A outer s H Hs E hr=>?_)
 have hu:=aB hr
 exact(xb (eL (xtc lP (xv 1) (xlV 0 B.len)) (xb1 (bu (xop aJ (xiV 0 (xv 1)) (xop dU ah ah)))) xb0)
  (xb (br 2 (xop bM (xop ay (xv 1) ah) ah))
  (xb (mJ PassesOwn.never (gQ (xsl (xv 0) xo0 (xo ah))) (xgn 3) (xb1 (br 2 (xop bM (xop ay (xv 2) ah) (xop aJ (xv 3) ah)))))
  (xb (br 2 (xop aJ (xv 2) ah))
  (xb1 (bu (xop aJ (xop ay (xv 2) (xv 2)) ah)))))))
theorem ll:FnScope ["one","other"] ["one","other"] (af (top 66)):=⟨rfl,rfl,rfl,by decide +kernel,rfl,by decide +kernel,by decide +kernel⟩
theorem mh (D:DefAt K "_law_common" (top 66)) (KI:K.In h) (GN:h.Ns mainGlobals mg) (B:Bi mg) :FunIn P w K mg base "_law_common" 1 bI:=by
 have nd:=ll.nd
 refine a6 D KI GN ll (fun _ _ _ _ _ _ us hl=>match us,hl with | [_,_],_=>rfl) (fun f cdv A outer s H Hs E hr=>?_)
 have hu:=aB hr
 exact(xb (br 0 (xcB pB B.abs pD (xa (xv 0) xa0)))
  (xb (br 1 (xcB pB B.abs pD (xa (xv 1) xa0)))
  (xb (om PassesOwn.never (xtc oV (xv 0) ah) (xb1 (FW 0 1 (xa (xop aJ (xv 1) (xv 0)) (xa (xv 0) xa0)))))
  (xb1 (bu (xv 1))))))
theorem kr:FnScope ["x","y","w","many"] ["x","y","w"] (af (top 69)):=⟨rfl,rfl,rfl,by decide +kernel,rfl,by decide +kernel,by decide +kernel⟩
theorem kB (D:DefAt K "_law_spot_of" (top 69)) (KI:K.In h) (GN:h.Ns mainGlobals mg) (B:Bi mg) (IH:FunIn P w K mg base "_law_common" 1 bI):FunIn P w K mg base "_law_spot_of" 2 cE:=by
 have nd:=kr.nd
 refine a6 D KI GN kr (fun _ _ _ _ _ _ us hl=>match us,hl with | [_,_,_],_=>rfl) (fun f cdv A outer s H Hs E hr=>?_)
 have hu:=aB hr
 exact(xb (br 3 (xcF (IH.is hr) (xa (xcF (IH.is hr) (xa (xv 0) (xa (xv 1) xa0))) (xa (xv 2) xa0))))
  (xb1 (bu (b7 (xa (xop aH (xv 0) (xv 3)) (xa (xop aH (xv 1) (xv 3)) (xa (xop aH (xv 2) (xv 3)) xa0)))))))
theorem oy:FnScope ["shift","speed","time","x"] ["shift","speed","time"] (af (top 71)):=⟨rfl,rfl,rfl,by decide +kernel,rfl,by decide +kernel,by decide +kernel⟩
theorem o9 (D:DefAt K "_law_gone" (top 71)) (KI:K.In h) (GN:h.Ns mainGlobals mg) (B:Bi mg) (IP:FunIn P w K mg base "_law_spot_of" 2 cE):FunIn P w K mg base "_law_gone" 3 di:=by
 have nd:=oy.nd
 refine a6 D KI GN oy (fun _ _ _ _ _ _ us hl=>match us,hl with | [_,_,_],_=>rfl) (fun f cdv A outer s H Hs E hr=>?_)
 have hu:=aB hr
 exact(xb (br 3 (xop bM (xop ay (xiV 0 ah) (xiV 2 ah)) (xop ay (xop ay (xiV 1 ah) (xiV 2 ah)) (xiV 0 ah))))
  (xb1 (bu (xcF (IP.is hr) (xa (xv 3) (xa (xop bM (xop ay (xiV 0 ah) (xiV 2 ah)) (xop ay (xop ay (xiV 1 ah) (xiV 2 ah)) (xiV 0 ah))) (xa (xop ay (xiV 0 ah) (xiV 2 ah)) xa0)))))))
theorem lj:FnScope ["top","bottom","many"] ["top","bottom"] (af (top 68)):=⟨rfl,rfl,rfl,by decide +kernel,rfl,by decide +kernel,by decide +kernel⟩
theorem mf (D:DefAt K "_law_lowest" (top 68)) (KI:K.In h) (GN:h.Ns mainGlobals mg) (B:Bi mg) (IH:FunIn P w K mg base "_law_common" 1 bI):FunIn P w K mg base "_law_lowest" 2 aV:=by
 have nd:=lj.nd
 refine a6 D KI GN lj (fun _ _ _ _ _ _ us hl=>match us,hl with | [_,_],_=>rfl) (fun f cdv A outer s H Hs E hr=>?_)
 have hu:=aB hr
 exact(xb (br 2 (xcF (IH.is hr) (xa (xv 0) (xa (xv 1) xa0))))
  (xb1 (bu (b7 (xa (xop aH (xv 0) (xv 2)) (xa (xop aH (xv 1) (xv 2)) xa0))))))
theorem vV:FnScope ["one","other"] ["one","other"] (af (top 20)):=⟨rfl,rfl,rfl,by decide +kernel,rfl,by decide +kernel,by decide +kernel⟩
theorem xO (D:DefAt K "under" (top 20)) (KI:K.In h) (GN:h.Ns mainGlobals mg) (B:Bi mg) :FunIn P w K mg base "under" 1 cJ:=by
 have nd:=vV.nd
 refine a6 D KI GN vV (fun _ _ _ _ _ _ us hl=>match us,hl with | [_,_],_=>rfl) (fun f cdv A outer s H Hs E hr=>?_)
 have hu:=aB hr
 exact(xb1 (bu (vJ lP (xop ay (xiV 0 ah) (xiV 1 ah)) (xop ay (xiV 1 ah) (xiV 0 ah)))))
theorem oB:FnScope ["self","time","stretches"] ["self","time"] (af (inClass (top 62) 9)):=⟨rfl,rfl,rfl,by decide +kernel,rfl,by decide +kernel,by decide +kernel⟩
theorem pf (D:MethAt K "Floor" "go" "Floor.go" (inClass (top 62) 9)) (B:Bi mg) (Jm:FunIn P w K mg base "under" 1 cJ) (A_Floor_now:FldAt K "Floor" "now") (X_Past:ExcAt K "Past") (KG:∀(y:Str) (C:Addr),aC K y C→mg y=some (.ref C)):MethOne P w K mg base "Floor" "go" 2 dj:=by
 have nd:=oB.nd
 refine xf D oB (fun _ _ _ _ _ _ us hl=>match us,hl with | [_,_],_=>rfl) (fun f cdv A outer s H Hs E hr=>?_)
 have hu:=aB hr
 exact(xb (eL (xtv (xcF (Jm.is hr) (xa (xv 1) (xa (jf A_Floor_now (xv 0)) xa0)))) (xb1 (Bm X_Past)) xb0) je)
theorem ow:FnScope ["floor","time","error","e"] ["floor","time"] (af (top 72)):=⟨rfl,rfl,rfl,by decide +kernel,rfl,by decide +kernel,by decide +kernel⟩
theorem o8 (D:DefAt K "_law_past" (top 72)) (KI:K.In h) (GN:h.Ns mainGlobals mg) (B:Bi mg)  (Jr:MethOne P w K mg base "Floor" "go" 2 dj) (C__law_past_1:Caught K "GlideError" ["Past"]) (T__law_past_2:IsOwn K "Past" [("Past",true)]) (T__law_past_3:IsTab K [.type "ValueError"] [("Past",true)]) (Z_ValueError:mg "ValueError" = none) (T__law_past_4:IsMany K ["Crowded","NoName"] [("Past",false)]) (KG:∀(y:Str) (C:Addr),aC K y C→mg y=some (.ref C)):FunIn P w K mg base "_law_past" 3 b6:=by
 have nd:=ow.nd
 refine a6 D KI GN ow (fun _ _ _ _ _ _ us hl=>match us,hl with | [_,_],_=>rfl) (fun f cdv A outer s H Hs E hr=>?_)
 have hu:=aB hr
 exact(xb (br 2 mI)
  (xb (DY 0 3 (cz Jr hr cA) (xa (xv 1) xa0) C__law_past_1 (fun _=>(xb1 (br 2 (xv 3)))))
  (xb (eL (xw (ko (xtn (xtv (F1 (xv 2) T__law_past_2 KG B.isinstance))) (qT (xtn (xtv (F2 (xv 2) PyProof.Rows.Boot.«ValueError» T__law_past_3 B.isinstance Z_ValueError)))))) (xb1 (bu xbl)) xb0)
  (xb1 (bu (Bo (FY (xv 2) T__law_past_4 KG B.isinstance)))))))
theorem lh:FnScope ["cell","more","big","a","b","c","points","k","aside","upward"] ["cell","more","big"] (af (top 67)):=⟨rfl,rfl,rfl,by decide +kernel,rfl,by decide +kernel,by decide +kernel⟩
theorem me (D:DefAt K "_law_points" (top 67)) (KI:K.In h) (GN:h.Ns mainGlobals mg) (B:Bi mg) :FunIn P w K mg base "_law_points" 1 cw:=by
 have nd:=lh.nd
 refine a6 D KI GN lh (fun _ _ _ _ _ _ us hl=>match us,hl with | [_,_,_],_=>rfl) (fun f cdv A outer s H Hs E hr=>?_)
 have hu:=aB hr
 exact(xb (br 3 (xop bM ah (xop aJ (xv 0) ah)))
  (xb (br 4 (xop bM ah (xop aJ (xop aH (xv 0) ah) ah)))
  (xb (br 5 (xop bF (xop aJ (xop aH (xv 0) ah) ah) ah))
  (xb (vH 6 (xa (b7 (xa ah (xa ah xa0))) (xa (b7 (xa (xv 3) (xa ah xa0))) (xa (b7 (xa (xv 5) (xa (xv 4) xa0))) xa0))))
  (xb (mJ PassesOwn.never (xr1 B.range (xa (xop aJ (xop aH (xv 0) ah) ah) xa0)) (xgn 7) (xb (yT 6 (b7 (xa (xop bF (xop aJ (xv 1) ah) ah) (xa (xop bF (xop aJ (xop aH (xv 1) ah) ah) ah) xa0))))
  (xb1 (br 1 (xop aH (xv 1) ah)))))
  (xb (eL (xtc (gd hu) (xop aJ (xop aH (xv 0) ah) ah) ah) (xb1 (iX 6 (sS 6 (oo ["x","y"] m8 As (fun _ _ _ _ _ _ _ nd2=>(xgu (xgs 0 (xgs 1 uw)))) (fun _ _ _ _ _ _ _ nd2=>(b7 (xa (xv 1) (xa (xv 0) xa0))))) (gQ (xv 6))))) xb0)
  (xb (eL (xtc (gd hu) (xop aJ (xop aH (xv 0) ah) ah) ah) (xb1 (iX 6 (sS 6 (oo ["x","y"] m8 As (fun _ _ _ _ _ _ _ nd2=>(xgu (xgs 0 (xgs 1 uw)))) (fun _ _ _ _ _ _ _ nd2=>(b7 (xa (xop bF ah (xv 0)) (xa (xv 1) xa0))))) (gQ (xv 6))))) xb0)
  (xb (br 8 (xop bF (xop aJ (xop aH (xv 0) ah) ah) ah))
  (xb (br 9 (xop bF (xop aJ (xop aH (xv 0) ah) ah) ah))
  (xb1 (iX 6 (bu (kX (oo ["x","y"] (cap 2 "big" (cap 8 "aside" (cap 9 "upward" m8))) As (fun _ _ _ _ _ _ _ nd2=>(xgu (xgs 0 (xgs 1 uw)))) (fun _ _ _ _ _ _ _ nd2=>(b7 (xa (xop ay (xv 2) (xop bM (xv 0) (xv 3))) (xa (xop ay (xv 2) (xop bM (xv 1) (xv 4))) xa0))))) (gQ (xv 6)))))))))))))))
theorem mQ:FnScope ["cell"] ["cell"] (af (top 70)):=⟨rfl,rfl,rfl,by decide +kernel,rfl,by decide +kernel,by decide +kernel⟩
theorem m4 (D:DefAt K "_law_speed" (top 70)) (KI:K.In h) (GN:h.Ns mainGlobals mg) (B:Bi mg) :FunIn P w K mg base "_law_speed" 1 cL:=by
 have nd:=mQ.nd
 refine a6 D KI GN mQ (fun _ _ _ _ _ _ us hl=>match us,hl with | [_],_=>rfl) (fun f cdv A outer s H Hs E hr=>?_)
 have hu:=aB hr
 exact(xb (eL (xtc (gd hu) (xop aJ (xv 0) ah) ah) (xb1 (bu (b7 (xa (xop bF (xop aJ (xop aH (xv 0) ah) ah) ah) (xa (xop bF (xop aJ (xop aH (xv 0) ah) ah) ah) xa0))))) xb0)
  (xb1 (bu (b7 (xa (xop bF (xop aJ (xop aH (xv 0) ah) (xop dU ah ah)) (xop ay ah (xop dU ah ah))) (xa (xop bF (xop aJ (xop aH (xv 0) ah) (xop dU ah ah)) (xop ay ah (xop dU ah ah))) xa0))))))
theorem mP:FnScope ["found"] ["found"] (af (top 65)):=⟨rfl,rfl,rfl,by decide +kernel,rfl,by decide +kernel,by decide +kernel⟩
theorem m3 (D:DefAt K "_law_whole" (top 65)) (KI:K.In h) (GN:h.Ns mainGlobals mg) (B:Bi mg) :FunIn P w K mg base "_law_whole" 1 cK:=by
 have nd:=mP.nd
 refine a6 D KI GN mP (fun _ _ _ _ _ _ us hl=>match us,hl with | [_],_=>rfl) (fun f cdv A outer s H Hs E hr=>?_)
 have hu:=aB hr
 exact(xb1 (bu (Br (xcI (xv 0) xE yz B.isinstance B.int) (Bn (Bo (xcI (xv 0) tW ur B.isinstance B.bool))))))
theorem lz:FnScope ["self"] ["self"] (af (inClass (top 62) 11)):=⟨rfl,rfl,rfl,by decide +kernel,rfl,by decide +kernel,by decide +kernel⟩
theorem mn (D:MethAt K "Floor" "clock" "Floor.clock" (inClass (top 62) 11)) (B:Bi mg)  (A_Floor_now:FldAt K "Floor" "now") (KG:∀(y:Str) (C:Addr),aC K y C→mg y=some (.ref C)):MethOne P w K mg base "Floor" "clock" 1 aM:=by
 have nd:=lz.nd
 refine fk D lz (fun _ _ _ _ _ _ us hl=>match us,hl with | [_],_=>rfl) (fun f cdv A outer s H Hs E hr=>?_)
 have hu:=aB hr
 exact(xb1 (bu (jf A_Floor_now (xv 0))))
theorem ly:FnScope ["self"] ["self"] (af (inClass (top 62) 12)):=⟨rfl,rfl,rfl,by decide +kernel,rfl,by decide +kernel,by decide +kernel⟩
theorem mm (D:MethAt K "Floor" "names" "Floor.names" (inClass (top 62) 12)) (B:Bi mg)  (A_Floor_rows:FldAt K "Floor" "rows") (KG:∀(y:Str) (C:Addr),aC K y C→mg y=some (.ref C)):MethOne P w K mg base "Floor" "names" 1 aR:=by
 have nd:=ly.nd
 refine fk D ly (fun _ _ _ _ _ _ us hl=>match us,hl with | [_],_=>rfl) (fun f cdv A outer s H Hs E hr=>?_)
 have hu:=aB hr
 exact(xb1 (bu (xcB (qK rfl) B.sorted nZ (xa (jf A_Floor_rows (xv 0)) xa0))))
theorem kx:FnScope ["self","name"] ["self","name"] (af (inClass (top 62) 1)):=⟨rfl,rfl,rfl,by decide +kernel,rfl,by decide +kernel,by decide +kernel⟩
theorem kD (D:MethAt K "Floor" "row_of" "Floor.row_of" (inClass (top 62) 1)) (B:Bi mg)  (A_Floor_rows:FldAt K "Floor" "rows") (KG:∀(y:Str) (C:Addr),aC K y C→mg y=some (.ref C)):MethOne P w K mg base "Floor" "row_of" 1 av:=by
 have nd:=kx.nd
 refine fk D kx (fun _ _ _ _ _ _ us hl=>match us,hl with | [_,_],_=>rfl) (fun f cdv A outer s H Hs E hr=>?_)
 have hu:=aB hr
 exact(xb (eL (xw (ko (xtn (xtv (xcI (xv 1) xD yy B.isinstance B.str))) (qT (vE (xv 1) (jf A_Floor_rows (xv 0)) hu)))) (xb1 iW) xb0)
  (xb1 (bu (AZ (jf A_Floor_rows (xv 0)) (xv 1) hu))))
theorem lu:FnScope ["self","name"] ["self","name"] (af (inClass (top 62) 14)):=⟨rfl,rfl,rfl,by decide +kernel,rfl,by decide +kernel,by decide +kernel⟩
theorem ml (D:MethAt K "Floor" "shift" "Floor.shift" (inClass (top 62) 14)) (B:Bi mg)  (Jt:MethOne P w K mg base "Floor" "row_of" 1 av):MethOne P w K mg base "Floor" "shift" 2 bV:=by
 have nd:=lu.nd
 refine fk D lu (fun _ _ _ _ _ _ us hl=>match us,hl with | [_,_],_=>rfl) (fun f cdv A outer s H Hs E hr=>?_)
 have hu:=aB hr
 exact(xb1 (bu (xiX (iU (cz Jt hr cA) (xv 0) (xa (xv 1) xa0)) ah)))
theorem lr:FnScope ["self","name"] ["self","name"] (af (inClass (top 62) 15)):=⟨rfl,rfl,rfl,by decide +kernel,rfl,by decide +kernel,by decide +kernel⟩
theorem mj (D:MethAt K "Floor" "speed" "Floor.speed" (inClass (top 62) 15)) (B:Bi mg)  (Jt:MethOne P w K mg base "Floor" "row_of" 1 av):MethOne P w K mg base "Floor" "speed" 2 bU:=by
 have nd:=lr.nd
 refine fk D lr (fun _ _ _ _ _ _ us hl=>match us,hl with | [_,_],_=>rfl) (fun f cdv A outer s H Hs E hr=>?_)
 have hu:=aB hr
 exact(xb1 (bu (xiX (iU (cz Jt hr cA) (xv 0) (xa (xv 1) xa0)) ah)))
theorem iO:FnScope ["floor","name","now","shift","speed","number"] ["floor","name","now","shift","speed"] (af (top 73)):=⟨rfl,rfl,rfl,by decide +kernel,rfl,by decide +kernel,by decide +kernel⟩
theorem iR (D:DefAt K "_law_state_right" (top 73)) (KI:K.In h) (GN:h.Ns mainGlobals mg) (B:Bi mg) (IT:FunIn P w K mg base "_law_whole" 1 cK) (Jq:MethOne P w K mg base "Floor" "clock" 1 aM) (Js:MethOne P w K mg base "Floor" "names" 1 aR) (Jv:MethOne P w K mg base "Floor" "shift" 2 bV) (Jw:MethOne P w K mg base "Floor" "speed" 2 bU):FunIn P w K mg base "_law_state_right" 3 aQ:=by
 have nd:=iO.nd
 refine a6 D KI GN iO (fun _ _ _ _ _ _ us hl=>match us,hl with | [_,_,_,_,_],_=>rfl) (fun f cdv A outer s H Hs E hr=>?_)
 have hu:=aB hr
 exact(xb (eL (xw (ko (xtc (eD hu) (dH (cz Jq hr cA) (xv 0)) (xv 2)) (ko (xtc (eD hu) (iU (cz Jv hr cA) (xv 0) (xa (xv 1) xa0)) (xv 3)) (ko (xtc (eD hu) (iU (cz Jw hr cA) (xv 0) (xa (xv 1) xa0)) (xv 4)) (qT (xtc (eD hu) (dH (cz Js hr cA) (xv 0)) (d4 (xa (xv 1) xa0)))))))) (xb1 (bu xbl)) xb0)
  (xb (mJ PassesOwn.never (gQ (xop qd (xop qd (dH (cz Jq hr cA) (xv 0)) (iU (cz Jv hr cA) (xv 0) (xa (xv 1) xa0))) (iU (cz Jw hr cA) (xv 0) (xa (xv 1) xa0)))) (xgn 5) (xb1 (eL (xtn (xtv (xcF (IT.is hr) (xa (xv 5) xa0)))) (xb1 (bu xbl)) xb0)))
  (xb1 (bu xbl))))
theorem rg:FnScope ["P","Q","S","right","up"] ["P","Q","S"] (af (top 10)):=⟨rfl,rfl,rfl,by decide +kernel,rfl,by decide +kernel,by decide +kernel⟩
theorem sf (D:DefAt K "left_by" (top 10)) (KI:K.In h) (GN:h.Ns mainGlobals mg) (B:Bi mg) :FunIn P w K mg base "left_by" 1 fX:=by
 have nd:=rg.nd
 refine a6 D KI GN rg (fun _ _ _ _ _ _ us hl=>match us,hl with | [_,_,_],_=>rfl) (fun f cdv A outer s H Hs E hr=>?_)
 have hu:=aB hr
 exact(xb (br 3 (xop bF (xiV 2 ah) (xop ay (xiV 0 ah) (xiV 2 ah))))
  (xb (br 4 (xop bF (xiV 2 ah) (xop ay (xiV 0 ah) (xiV 2 ah))))
  (xb1 (bu (xop bF (xop ay (xop bF (xiV 1 ah) (xiV 0 ah)) (xv 4)) (xop ay (xop bF (xiV 1 ah) (xiV 0 ah)) (xv 3)))))))
theorem mO:FnScope ["P","Q","R"] ["P","Q","R"] (af (top 11)):=⟨rfl,rfl,rfl,by decide +kernel,rfl,by decide +kernel,by decide +kernel⟩
theorem mZ (D:DefAt K "turns_left" (top 11)) (KI:K.In h) (GN:h.Ns mainGlobals mg) (B:Bi mg) (Je:FunIn P w K mg base "left_by" 1 fX):FunIn P w K mg base "turns_left" 2 dE:=by
 have nd:=mO.nd
 refine a6 D KI GN mO (fun _ _ _ _ _ _ us hl=>match us,hl with | [_,_,_],_=>rfl) (fun f cdv A outer s H Hs E hr=>?_)
 have hu:=aB hr
 exact(xb1 (bu (vJ oV (xcF (Je.is hr) (xa (xv 0) (xa (xv 1) (xa (b7 (xa (xiV 2 ah) (xa (xiV 2 ah) (xa ah xa0)))) xa0)))) ah)))
theorem vX:FnScope ["points","kept","point"] ["points"] (af (top 12)):=⟨rfl,rfl,rfl,by decide +kernel,rfl,by decide +kernel,by decide +kernel⟩
theorem xQ (D:DefAt K "chain" (top 12)) (KI:K.In h) (GN:h.Ns mainGlobals mg) (B:Bi mg) (Jk:FunIn P w K mg base "turns_left" 2 dE):FunIn P w K mg base "chain" 3 fy:=by
 have nd:=vX.nd
 refine a6 D KI GN vX (fun _ _ _ _ _ _ us hl=>match us,hl with | [_],_=>rfl) (fun f cdv A outer s H Hs E hr=>?_)
 have hu:=aB hr
 exact(xb (vH 1 xa0)
  (xb (mJ PassesOwn.never (gQ (xv 0)) (xgn 2) (xb (om PassesOwn.never (xw (sT (xtc oV (xlV 1 B.len) ah) (sU (xtn (xtv (xcF (Jk.is hr) (xa (xiV 1 (uv ah)) (xa (xiV 1 (uv ah)) (xa (xv 2) xa0))))))))) (xb1 (FV 1)))
  (xb1 (yT 1 (xv 2)))))
  (xb1 (iX 1 (bu (xv 1))))))
theorem zf:FnScope ["points","unlike","below","above","corners"] ["points"] (af (top 13)):=⟨rfl,rfl,rfl,by decide +kernel,rfl,by decide +kernel,by decide +kernel⟩
theorem Ap (D:DefAt K "hull" (top 13)) (KI:K.In h) (GN:h.Ns mainGlobals mg) (B:Bi mg) (IU:FunIn P w K mg base "chain" 3 fy):FunIn P w K mg base "hull" 4 fh:=by
 have nd:=zf.nd
 refine a6 D KI GN zf (fun _ _ _ _ _ _ us hl=>match us,hl with | [_],_=>rfl) (fun f cdv A outer s H Hs E hr=>?_)
 have hu:=aB hr
 exact(xb (br 1 (xss (kX (oo ["point"] m8 vi (fun _ _ _ _ _ _ _ nd2=>(xgn 0)) (fun _ _ _ _ _ _ _ nd2=>(b7 (xa (xiV 0 ah) (xa (xiV 0 ah) xa0))))) (gQ (xv 0))) hu B.sorted B.set))
  (xb (br 2 (xcF (IU.is hr) (xa (xv 1) xa0)))
  (xb (br 3 (xcF (IU.is hr) (xa (FU (xv 1) B.list B.reversed) xa0)))
  (xb (br 4 (xop bM (xsl (xv 2) xo0 (xo (uv ah))) (xsl (xv 3) xo0 (xo (uv ah)))))
  (xb (eL (xtc lP (xlV 4 B.len) ah) (xb1 iW) xb0)
  (xb1 (bu (xv 4))))))))
theorem mS:FnScope ["self","name"] ["self","name"] (af (inClass (top 62) 13)):=⟨rfl,rfl,rfl,by decide +kernel,rfl,by decide +kernel,by decide +kernel⟩
theorem m7 (D:MethAt K "Floor" "body" "Floor.body" (inClass (top 62) 13)) (B:Bi mg)  (Jt:MethOne P w K mg base "Floor" "row_of" 1 av):MethOne P w K mg base "Floor" "body" 2 cn:=by
 have nd:=mS.nd
 refine fk D mS (fun _ _ _ _ _ _ us hl=>match us,hl with | [_,_],_=>rfl) (fun f cdv A outer s H Hs E hr=>?_)
 have hu:=aB hr
 exact(xb1 (bu (xcT uj B.list uq (xa (xiX (iU (cz Jt hr cA) (xv 0) (xa (xv 1) xa0)) ah) xa0))))
theorem mM:FnScope ["standing","found","k","one","other"] ["standing"] (af (top 50)):=⟨rfl,rfl,rfl,by decide +kernel,rfl,by decide +kernel,by decide +kernel⟩
theorem mY (D:DefAt K "two_by_two" (top 50)) (KI:K.In h) (GN:h.Ns mainGlobals mg) (B:Bi mg) :FunIn P w K mg base "two_by_two" 1 bQ:=by
 have nd:=mM.nd
 refine a6 D KI GN mM (fun _ _ _ _ _ _ us hl=>match us,hl with | [_],_=>rfl) (fun f cdv A outer s H Hs E hr=>?_)
 have hu:=aB hr
 exact(xb (vH 1 xa0)
  (xb (D3 PassesOwn.never (D4 B.enumerate (xv 0)) (xgu (xgs 2 (xgs 3 uw))) (xb1 (mJ PassesOwn.never (gQ (xsl (xv 0) (xo (xop bM (xv 2) ah)) xo0)) (xgn 4) (xb1 (yT 1 (b7 (xa (xv 3) (xa (xv 4) xa0))))))))
  (xb1 (iX 1 (bu (xv 1))))))
theorem pT:FnScope ["standing","t"] ["standing","t"] (af (top 55)):=⟨rfl,rfl,rfl,by decide +kernel,rfl,by decide +kernel,by decide +kernel⟩
theorem qw (D:DefAt K "lines_of" (top 55)) (KI:K.In h) (GN:h.Ns mainGlobals mg) (B:Bi mg) (Jl:FunIn P w K mg base "two_by_two" 1 bQ):FunIn P w K mg base "lines_of" 2 cD:=by
 have nd:=pT.nd
 refine a6 D KI GN pT (fun _ _ _ _ _ _ us hl=>match us,hl with | [_,_],_=>rfl) (fun f cdv A outer s H Hs E hr=>?_)
 have hu:=aB hr
 exact(xb1 (bu (kX (oo ["one","other"] m8 As (fun _ _ _ _ _ _ _ nd2=>(xgu (xgs 0 (xgs 1 uw)))) (fun _ _ _ _ _ _ _ nd2=>sR)) (gQ (xcF (Jl.is hr) (xa (xv 0) xa0))))))
theorem jk:FnScope ["self"] ["self"] (af (inClass (top 62) 2)):=⟨rfl,rfl,rfl,by decide +kernel,rfl,by decide +kernel,by decide +kernel⟩
theorem jy (D:MethAt K "Floor" "standing" "Floor.standing" (inClass (top 62) 2)) (B:Bi mg)  (A_Floor_rows:FldAt K "Floor" "rows") (KG:∀(y:Str) (C:Addr),aC K y C→mg y=some (.ref C)):MethOne P w K mg base "Floor" "standing" 1 ai:=by
 have nd:=jk.nd
 refine fk D jk (fun _ _ _ _ _ _ us hl=>match us,hl with | [_],_=>rfl) (fun f cdv A outer s H Hs E hr=>?_)
 have hu:=aB hr
 exact(xb1 (bu (kX (oo ["name"] (cap 0 "self" m8) vi (fun _ _ _ _ _ _ _ nd2=>(xgn 0)) (fun _ _ _ _ _ _ _ nd2=>(AZ (jf A_Floor_rows (xv 1)) (xv 0) hu))) (gQ (xcB (qK rfl) B.sorted nZ (xa (jf A_Floor_rows (xv 0)) xa0))))))
theorem lg:FnScope ["standing","first","pairs","one","other","t"] ["standing"] (af (top 53)):=⟨rfl,rfl,rfl,by decide +kernel,rfl,by decide +kernel,by decide +kernel⟩
theorem md (D:DefAt K "first_clash" (top 53)) (KI:K.In h) (GN:h.Ns mainGlobals mg) (B:Bi mg) (Jl:FunIn P w K mg base "two_by_two" 1 bQ):FunIn P w K mg base "first_clash" 2 cU:=by
 have nd:=lg.nd
 refine a6 D KI GN lg (fun _ _ _ _ _ _ us hl=>match us,hl with | [_],_=>rfl) (fun f cdv A outer s H Hs E hr=>?_)
 have hu:=aB hr
 exact(xb (br 1 mI)
  (xb (vH 2 xa0)
  (xb (mJ PassesOwn.never (gQ (xcF (Jl.is hr) (xa (xv 0) xa0))) (xgu (xgs 3 (xgs 4 uw))) je)
  (xb (eL (xtc CD (xv 1) mI) (xb1 (bu mI)) xb0)
  (xb1 (iX 2 (bu (b7 (xa (xv 1) (xa (xv 2) xa0))))))))))
theorem eM:FnScope ["self","time","stretches","found"] ["self","time"] (af (inClass (top 62) 8)):=⟨rfl,rfl,rfl,by decide +kernel,rfl,by decide +kernel,by decide +kernel⟩
theorem eR (D:MethAt K "Floor" "stretches_ahead_of" "Floor.stretches_ahead_of" (inClass (top 62) 8)) (B:Bi mg) (IW:FunIn P w K mg base "first_clash" 2 cU) (Jx:MethOne P w K mg base "Floor" "standing" 1 ai):MethN P w K mg base "Floor" "stretches_ahead_of" 3 aq:=by
 have nd:=eM.nd
 refine xh D eM (fun _ _ _ _ _ _ us hl=>match us,hl with | [_,_],_=>rfl) (fun f cdv A outer s H Hs E hr=>?_)
 have hu:=aB hr
 exact(xn (vH 2 xa0)
  (xn (br 3 (xcF (IW.is hr) (xa (dH (cz Jx hr cA) (xv 0)) xa0)))
  (xn (om PassesOwn.never (xw (sT (xtc uX (xv 3) mI) (sU yP))) je)
  (D2 2))))
theorem ku:FnScope ["self","stretches"] ["self"] (af (inClass (top 62) 10)):=⟨rfl,rfl,rfl,by decide +kernel,rfl,by decide +kernel,by decide +kernel⟩
theorem kC (D:MethAt K "Floor" "settle" "Floor.settle" (inClass (top 62) 10)) (B:Bi mg) (Jf:FunIn P w K mg base "lines_of" 2 cD) (Jx:MethOne P w K mg base "Floor" "standing" 1 ai) (N_Floor_stretches_ahead_of:MethN P w K mg base "Floor" "stretches_ahead_of" 3 aq) (A_Floor_now:FldAt K "Floor" "now") (KG:∀(y:Str) (C:Addr),aC K y C→mg y=some (.ref C)):MethOne P w K mg base "Floor" "settle" 4 a7:=by
 have nd:=ku.nd
 refine fk D ku (fun _ _ _ _ _ _ us hl=>match us,hl with | [_],_=>rfl) (fun f cdv A outer s H Hs E hr=>?_)
 have hu:=aB hr
 exact(xb (AY 1 (vI N_Floor_stretches_ahead_of hr (xv 0) (xa mI xa0)))
  (xb (yT 1 (b7 (xa (jf A_Floor_now (xv 0)) (xa mI (xa (xcF (Jf.is hr) (xa (dH (cz Jx hr cA) (xv 0)) (xa mI xa0))) (xa (d4 xa0) (xa (d4 xa0) xa0)))))))
  (xb1 (iX 1 (bu (xv 1))))))
theorem rk:FnScope ["one","other","rest"] ["one","other"] (af (top 16)):=⟨rfl,rfl,rfl,by decide +kernel,rfl,by decide +kernel,by decide +kernel⟩
theorem so (D:DefAt K "divisor" (top 16)) (KI:K.In h) (GN:h.Ns mainGlobals mg) (B:Bi mg) :FunIn P w K mg base "divisor" 1 dg:=by
 have nd:=rk.nd
 refine a6 D KI GN rk (fun _ _ _ _ _ _ us hl=>match us,hl with | [_,_],_=>rfl) (fun f cdv A outer s H Hs E hr=>?_)
 have hu:=aB hr
 exact(xb (br 0 (xcB pB B.abs pD (xa (xv 0) xa0)))
  (xb (br 1 (xcB pB B.abs pD (xa (xv 1) xa0)))
  (xb (om PassesOwn.never (xtc (eD hu) (xv 1) ah) (xb (br 2 (xop aJ (xv 0) (xv 1)))
  (xb (br 0 (xv 1))
  (xb1 (br 1 (xv 2))))))
  (xb1 (bu (xv 0))))))
theorem pV:FnScope ["thing"] ["thing"] (af (top 15)):=⟨rfl,rfl,rfl,by decide +kernel,rfl,by decide +kernel,by decide +kernel⟩
theorem qy (D:DefAt K "is_whole" (top 15)) (KI:K.In h) (GN:h.Ns mainGlobals mg) (B:Bi mg) :FunIn P w K mg base "is_whole" 1 bT:=by
 have nd:=pV.nd
 refine a6 D KI GN pV (fun _ _ _ _ _ _ us hl=>match us,hl with | [_],_=>rfl) (fun f cdv A outer s H Hs E hr=>?_)
 have hu:=aB hr
 exact(xb1 (bu (Br (xcI (xv 0) xE yz B.isinstance B.int) (Bn (Bo (xcI (xv 0) tW ur B.isinstance B.bool))))))
theorem rf:FnScope ["top","bottom","common"] ["top","bottom"] (af (top 17)):=⟨rfl,rfl,rfl,by decide +kernel,rfl,by decide +kernel,by decide +kernel⟩
theorem se (D:DefAt K "portion" (top 17)) (KI:K.In h) (GN:h.Ns mainGlobals mg) (B:Bi mg) (IV:FunIn P w K mg base "divisor" 1 dg) (Jc:FunIn P w K mg base "is_whole" 1 bT):FunIn P w K mg base "portion" 2 dS:=by
 have nd:=rf.nd
 refine a6 D KI GN rf (fun _ _ _ _ _ _ us hl=>match us,hl with | [_,_],_=>rfl) (fun f cdv A outer s H Hs E hr=>?_)
 have hu:=aB hr
 exact(xb (eL (xw (ko (xtn (xtv (xcF (Jc.is hr) (xa (xv 0) xa0)))) (ko (xtn (xtv (xcF (Jc.is hr) (xa (xv 1) xa0)))) (qT (xtc (gd hu) (xv 1) ah))))) (xb1 iW) xb0)
  (xb (br 2 (xcF (IV.is hr) (xa (xv 0) (xa (xv 1) xa0))))
  (xb (eL (xtc lP (xv 1) ah) (xb1 (br 2 (uv (xv 2)))) xb0)
  (xb1 (bu (b7 (xa (xop aH (xv 0) (xv 2)) (xa (xop aH (xv 1) (xv 2)) xa0))))))))
theorem vW:FnScope ["one","other"] ["one","other"] (af (top 19)):=⟨rfl,rfl,rfl,by decide +kernel,rfl,by decide +kernel,by decide +kernel⟩
theorem xP (D:DefAt K "minus" (top 19)) (KI:K.In h) (GN:h.Ns mainGlobals mg) (B:Bi mg) (Ji:FunIn P w K mg base "portion" 2 dS):FunIn P w K mg base "minus" 3 gE:=by
 have nd:=vW.nd
 refine a6 D KI GN vW (fun _ _ _ _ _ _ us hl=>match us,hl with | [_,_],_=>rfl) (fun f cdv A outer s H Hs E hr=>?_)
 have hu:=aB hr
 exact(xb1 (bu (xcF (Ji.is hr) (xa (xop bF (xop ay (xiV 0 ah) (xiV 1 ah)) (xop ay (xiV 1 ah) (xiV 0 ah))) (xa (xop ay (xiV 0 ah) (xiV 1 ah)) xa0)))))
theorem uG:FnScope ["row"] ["row"] (af (top 60)):=⟨rfl,rfl,rfl,by decide +kernel,rfl,by decide +kernel,by decide +kernel⟩
theorem ve (D:DefAt K "glides" (top 60)) (KI:K.In h) (GN:h.Ns mainGlobals mg) (B:Bi mg) :FunIn P w K mg base "glides" 1 ir:=by
 have nd:=uG.nd
 refine a6 D KI GN uG (fun _ _ _ _ _ _ us hl=>match us,hl with | [_],_=>rfl) (fun f cdv A outer s H Hs E hr=>?_)
 have hu:=aB hr
 exact(xb1 (bu (vJ (eD hu) (xiV 0 ah) (b7 (xa ah (xa ah xa0))))))
theorem ri:FnScope ["name","pairs"] ["name","pairs"] (af (top 61)):=⟨rfl,rfl,rfl,by decide +kernel,rfl,by decide +kernel,by decide +kernel⟩
theorem sj (D:DefAt K "in_some" (top 61)) (KI:K.In h) (GN:h.Ns mainGlobals mg) (B:Bi mg) :FunIn P w K mg base "in_some" 1 fY:=by
 have nd:=ri.nd
 refine a6 D KI GN ri (fun _ _ _ _ _ _ us hl=>match us,hl with | [_,_],_=>rfl) (fun f cdv A outer s H Hs E hr=>?_)
 have hu:=aB hr
 exact(xb1 (bu (xcB (Ds rfl) B.any Dy (xa (kX (oo ["pair"] m8 vi (fun _ _ _ _ _ _ _ nd2=>(xgn 0)) (fun _ _ _ _ _ _ _ nd2=>sR)) (gQ (xv 1))) xa0))))
theorem zd:FnScope ["x","y","w","common"] ["x","y","w"] (af (top 22)):=⟨rfl,rfl,rfl,by decide +kernel,rfl,by decide +kernel,by decide +kernel⟩
theorem An (D:DefAt K "spot" (top 22)) (KI:K.In h) (GN:h.Ns mainGlobals mg) (B:Bi mg) (IV:FunIn P w K mg base "divisor" 1 dg) (Jc:FunIn P w K mg base "is_whole" 1 bT):FunIn P w K mg base "spot" 2 mH:=by
 have nd:=zd.nd
 refine a6 D KI GN zd (fun _ _ _ _ _ _ us hl=>match us,hl with | [_,_,_],_=>rfl) (fun f cdv A outer s H Hs E hr=>?_)
 have hu:=aB hr
 exact(xb (eL (xw (ko (xtn (xtv (xcF (Jc.is hr) (xa (xv 0) xa0)))) (ko (xtn (xtv (xcF (Jc.is hr) (xa (xv 1) xa0)))) (ko (xtn (xtv (xcF (Jc.is hr) (xa (xv 2) xa0)))) (qT (xtc (gd hu) (xv 2) ah)))))) (xb1 iW) xb0)
  (xb (br 3 (xcF (IV.is hr) (xa (xcF (IV.is hr) (xa (xv 0) (xa (xv 1) xa0))) (xa (xv 2) xa0))))
  (xb (eL (xtc lP (xv 2) ah) (xb1 (br 3 (uv (xv 3)))) xb0)
  (xb1 (bu (b7 (xa (xop aH (xv 0) (xv 3)) (xa (xop aH (xv 1) (xv 3)) (xa (xop aH (xv 2) (xv 3)) xa0)))))))))
theorem rj:FnScope ["S","V","t","x","y"] ["S","V","t"] (af (top 23)):=⟨rfl,rfl,rfl,by decide +kernel,rfl,by decide +kernel,by decide +kernel⟩
theorem sk (D:DefAt K "gone_on" (top 23)) (KI:K.In h) (GN:h.Ns mainGlobals mg) (B:Bi mg) (Jj:FunIn P w K mg base "spot" 2 mH):FunIn P w K mg base "gone_on" 3 e7:=by
 have nd:=rj.nd
 refine a6 D KI GN rj (fun _ _ _ _ _ _ us hl=>match us,hl with | [_,_,_],_=>rfl) (fun f cdv A outer s H Hs E hr=>?_)
 have hu:=aB hr
 exact(xb (br 3 (xop bM (xop ay (xiV 0 ah) (xiV 2 ah)) (xop ay (xop ay (xiV 1 ah) (xiV 2 ah)) (xiV 0 ah))))
  (xb (br 4 (xop bM (xop ay (xiV 0 ah) (xiV 2 ah)) (xop ay (xop ay (xiV 1 ah) (xiV 2 ah)) (xiV 0 ah))))
  (xb1 (bu (xcF (Jj.is hr) (xa (xv 3) (xa (xv 4) (xa (xop ay (xiV 0 ah) (xiV 2 ah)) xa0))))))))
theorem pU:FnScope ["row","t"] ["row","t"] (af (top 59)):=⟨rfl,rfl,rfl,by decide +kernel,rfl,by decide +kernel,by decide +kernel⟩
theorem qx (D:DefAt K "later_on" (top 59)) (KI:K.In h) (GN:h.Ns mainGlobals mg) (B:Bi mg) (IY:FunIn P w K mg base "gone_on" 3 e7):FunIn P w K mg base "later_on" 4 fg:=by
 have nd:=pU.nd
 refine a6 D KI GN pU (fun _ _ _ _ _ _ us hl=>match us,hl with | [_,_],_=>rfl) (fun f cdv A outer s H Hs E hr=>?_)
 have hu:=aB hr
 exact(xb1 (bu (b7 (xa (xiV 0 ah) (xa (xiV 0 ah) (xa (xcF (IY.is hr) (xa (xiV 0 ah) (xa (xiV 0 ah) (xa (xv 1) xa0)))) (xa (xiV 0 ah) xa0)))))))
theorem ze:FnScope ["one","other"] ["one","other"] (af (top 18)):=⟨rfl,rfl,rfl,by decide +kernel,rfl,by decide +kernel,by decide +kernel⟩
theorem Ao (D:DefAt K "plus" (top 18)) (KI:K.In h) (GN:h.Ns mainGlobals mg) (B:Bi mg) (Ji:FunIn P w K mg base "portion" 2 dS):FunIn P w K mg base "plus" 3 j4:=by
 have nd:=ze.nd
 refine a6 D KI GN ze (fun _ _ _ _ _ _ us hl=>match us,hl with | [_,_],_=>rfl) (fun f cdv A outer s H Hs E hr=>?_)
 have hu:=aB hr
 exact(xb1 (bu (xcF (Ji.is hr) (xa (xop bM (xop ay (xiV 0 ah) (xiV 1 ah)) (xop ay (xiV 1 ah) (xiV 0 ah))) (xa (xop ay (xiV 0 ah) (xiV 1 ah)) xa0)))))
theorem i5:FnScope ["self","t","row"] ["self","t"] (af (inClass (top 62) 6)):=⟨rfl,rfl,rfl,by decide +kernel,rfl,by decide +kernel,by decide +kernel⟩
theorem i8 (D:MethAt K "Floor" "pass_time" "Floor.pass_time" (inClass (top 62) 6)) (B:Bi mg) (Jd:FunIn P w K mg base "later_on" 4 fg) (Jh:FunIn P w K mg base "plus" 3 j4) (Jx:MethOne P w K mg base "Floor" "standing" 1 ai) (A_Floor_rows:FldAt K "Floor" "rows") (A_Floor_now:FldAt K "Floor" "now") (KG:∀(y:Str) (C:Addr),aC K y C→mg y=some (.ref C)):MethW P w K mg base "pass_time" 5 bR:=by
 have nd:=i5.nd
 refine fO D i5 (fun _ _ _ _ _ _ us hl=>match us,hl with | [_,_],_=>rfl) (fun f cdv A outer s H H0 Hs E hr=>?_)
 have hu:=aB hr
 exact(xws (mJ PassesOwn.never (gQ (e9 0 (dH (cz Jx hr cA) (xv 0)))) (xgn 2) (xb1 (Bl 0 A_Floor_rows (xiV 2 ah) (xcF (Jd.is hr) (xa (xv 2) (xa (xv 1) xa0))) hu)))
  (sQ (FX 0 A_Floor_now (e9 0 (xcF (Jh.is hr) (xa (jf A_Floor_now (xv 0)) (xa (xv 1) xa0)))))))
theorem iP:FnScope ["self","t","pairs","begin","lines","halted","row"] ["self","t","pairs"] (af (inClass (top 62) 7)):=⟨rfl,rfl,rfl,by decide +kernel,rfl,by decide +kernel,by decide +kernel⟩
theorem iT (D:MethAt K "Floor" "stretch_to" "Floor.stretch_to" (inClass (top 62) 7)) (B:Bi mg) (IX:FunIn P w K mg base "glides" 1 ir) (Ja:FunIn P w K mg base "in_some" 1 fY) (Jf:FunIn P w K mg base "lines_of" 2 cD) (Jx:MethOne P w K mg base "Floor" "standing" 1 ai) (Jz:MethW P w K mg base "pass_time" 5 bR) (A_Floor_now:FldAt K "Floor" "now") (KG:∀(y:Str) (C:Addr),aC K y C→mg y=some (.ref C)):MethW P w K mg base "stretch_to" 6 bL:=by
 have nd:=iP.nd
 refine fO D iP (fun _ _ _ _ _ _ us hl=>match us,hl with | [_,_,_],_=>rfl) (fun f cdv A outer s H H0 Hs E hr=>?_)
 have hu:=aB hr
 exact(xws (br 3 (e9 0 (jf A_Floor_now (xv 0))))
  (xws (br 4 (e9 0 (xcF (Jf.is hr) (xa (dH (cz Jx hr cA) (xv 0)) (xa (xv 1) xa0)))))
  (xws (kW (gR 0 Jz hr (xa (xv 1) xa0)))
  (xws (yQ 5 (D5 ["row"] (cap 2 "pairs" m8) vi (fun _ _ _ _ _ _ _ nd2=>(xgn 0)) (fun _ _ _ _ _ _ _ nd2=>(xv 0)) (fun _ _ _ _ _ _ _ nd2=>(xw (sT (xtv (xcF (IX.is hr) (xa (xv 0) xa0))) (sU (xtv (xcF (Ja.is hr) (xa (xiV 0 ah) (xa (xv 1) xa0))))))))) (gQ (e9 0 (dH (cz Jx hr cA) (xv 0)))))
  (xws (mJ PassesOwn.never (gQ (xv 5)) (xgn 6) je)
  (AX (e9 0 (b7 (xa (xv 3) (xa (jf A_Floor_now (xv 0)) (xa (xv 4) (xa (xv 2) (xa (kX (oo ["row"] m8 vi (fun _ _ _ _ _ _ _ nd2=>(xgn 0)) (fun _ _ _ _ _ _ _ nd2=>(xiV 0 ah))) (gQ (xv 5))) xa0)))))))))))))
theorem pW:FnScope ["self","time","stretches"] ["self","time"] (af (inClass (top 62) 9)):=⟨rfl,rfl,rfl,by decide +kernel,rfl,by decide +kernel,by decide +kernel⟩
theorem qz (D:MethAt K "Floor" "go" "Floor.go" (inClass (top 62) 9)) (B:Bi mg) (Jg:FunIn P w K mg base "minus" 3 gE) (Jm:FunIn P w K mg base "under" 1 cJ) (N_Floor_stretches_ahead_of:MethN P w K mg base "Floor" "stretches_ahead_of" 3 aq) (JC:MethW P w K mg base "stretch_to" 6 bL) (A_Floor_now:FldAt K "Floor" "now") (KG:∀(y:Str) (C:Addr),aC K y C→mg y=some (.ref C)):MethW P w K mg base "go" 7 bW:=by
 have nd:=pW.nd
 refine fO D pW (fun _ _ _ _ _ _ us hl=>match us,hl with | [_,_],_=>rfl) (fun f cdv A outer s H H0 Hs E hr=>?_)
 have hu:=aB hr
 exact(xws (eL (iY 0 (xtv (xcF (Jm.is hr) (xa (xv 1) (xa (jf A_Floor_now (xv 0)) xa0))))) (xb1 iW) xb0)
  (xws (AY 2 (Bp 0 (vI N_Floor_stretches_ahead_of hr (xv 0) (xa (xv 1) xa0))))
  (xws (D6 2 (gR 0 JC hr (xa (e9 0 (xcF (Jg.is hr) (xa (xv 1) (xa (jf A_Floor_now (xv 0)) xa0)))) (xa (d4 xa0) xa0))))
  (yN 2 (AX (xv 2))))))
theorem rh:FnScope ["thing"] ["thing"] (af (top 57)):=⟨rfl,rfl,rfl,by decide +kernel,rfl,by decide +kernel,by decide +kernel⟩
theorem si (D:DefAt K "is_name" (top 57)) (KI:K.In h) (GN:h.Ns mainGlobals mg) (B:Bi mg) :FunIn P w K mg base "is_name" 1 e6:=by
 have nd:=rh.nd
 refine a6 D KI GN rh (fun _ _ _ _ _ _ us hl=>match us,hl with | [_],_=>rfl) (fun f cdv A outer s H Hs E hr=>?_)
 have hu:=aB hr
 exact(xb (eL (xw (ko (xtn (xtv (xcI (xv 0) xD yy B.isinstance B.str))) (qT (xtn (yO rP rP ah (xcB AG B.len PySem.boot_len (xa (xv 0) xa0)) ah))))) (xb1 (bu xbl)) xb0)
  (xb1 (bu (xcB (Dt rfl) B.all Dz (xa (kX (oo ["sign"] m8 vi (fun _ _ _ _ _ _ _ nd2=>(xgn 0)) (fun _ _ _ _ _ _ _ nd2=>(Bq tH tH vF (xv 0) vF))) (D0 (xv 0))) xa0)))))
theorem oA:FnScope ["self","name","points","shift","V","row","other"] ["self","name","points","shift","V"] (af (inClass (top 62) 3)):=⟨rfl,rfl,rfl,by decide +kernel,rfl,by decide +kernel,by decide +kernel⟩
theorem pe (D:MethAt K "Floor" "put" "Floor.put" (inClass (top 62) 3)) (B:Bi mg) (IZ:FunIn P w K mg base "hull" 4 fh) (Jb:FunIn P w K mg base "is_name" 1 e6) (Jx:MethOne P w K mg base "Floor" "standing" 1 ai) (A_Floor_rows:FldAt K "Floor" "rows") (KG:∀(y:Str) (C:Addr),aC K y C→mg y=some (.ref C)):MethW P w K mg base "put" 5 er:=by
 have nd:=oA.nd
 refine fO D oA (fun _ _ _ _ _ _ us hl=>match us,hl with | [_,_,_,_,_],_=>rfl) (fun f cdv A outer s H H0 Hs E hr=>?_)
 have hu:=aB hr
 exact(xws (eL (xtn (xtv (xcF (Jb.is hr) (xa (xv 1) xa0)))) (xb1 iW) xb0)
  (xws (eL (iY 0 (DZ (xv 1) (jf A_Floor_rows (xv 0)) hu)) (xb1 iW) xb0)
  (xws (br 5 (b7 (xa (xv 1) (xa (xcF (IZ.is hr) (xa (xv 2) xa0)) (xa (b7 (xa (xiV 3 ah) (xa (xiV 3 ah) (xa ah xa0)))) (xa (b7 (xa (xiV 4 ah) (xa (xiV 4 ah) xa0))) xa0))))))
  (xws (mJ PassesOwn.never (gQ (e9 0 (dH (cz Jx hr cA) (xv 0)))) (xgn 6) je)
  (sQ (Bl 0 A_Floor_rows (xv 1) (xv 5) hu))))))
theorem mL:FnScope ["row","V"] ["row","V"] (af (top 58)):=⟨rfl,rfl,rfl,by decide +kernel,rfl,by decide +kernel,by decide +kernel⟩
theorem mX (D:DefAt K "with_speed" (top 58)) (KI:K.In h) (GN:h.Ns mainGlobals mg) (B:Bi mg) :FunIn P w K mg base "with_speed" 1 cI:=by
 have nd:=mL.nd
 refine a6 D KI GN mL (fun _ _ _ _ _ _ us hl=>match us,hl with | [_,_],_=>rfl) (fun f cdv A outer s H Hs E hr=>?_)
 have hu:=aB hr
 exact(xb1 (bu (b7 (xa (xiV 0 ah) (xa (xiV 0 ah) (xa (xiV 0 ah) (xa (b7 (xa (xiV 1 ah) (xa (xiV 1 ah) xa0))) xa0)))))))
theorem lq:FnScope ["self","name","V"] ["self","name","V"] (af (inClass (top 62) 5)):=⟨rfl,rfl,rfl,by decide +kernel,rfl,by decide +kernel,by decide +kernel⟩
theorem mi (D:MethAt K "Floor" "steer" "Floor.steer" (inClass (top 62) 5)) (B:Bi mg) (Jn:FunIn P w K mg base "with_speed" 1 cI) (Jt:MethOne P w K mg base "Floor" "row_of" 1 av) (A_Floor_rows:FldAt K "Floor" "rows") (KG:∀(y:Str) (C:Addr),aC K y C→mg y=some (.ref C)):MethW P w K mg base "steer" 2 cV:=by
 have nd:=lq.nd
 refine fO D lq (fun _ _ _ _ _ _ us hl=>match us,hl with | [_,_,_],_=>rfl) (fun f cdv A outer s H H0 Hs E hr=>?_)
 have hu:=aB hr
 exact(sQ (Bl 0 A_Floor_rows (xv 1) (e9 0 (xcF (Jn.is hr) (xa (iU (cz Jt hr cA) (xv 0) (xa (xv 1) xa0)) (xa (xv 2) xa0)))) hu))
theorem mR:FnScope ["self","name"] ["self","name"] (af (inClass (top 62) 4)):=⟨rfl,rfl,rfl,by decide +kernel,rfl,by decide +kernel,by decide +kernel⟩
theorem m6 (D:MethAt K "Floor" "take" "Floor.take" (inClass (top 62) 4)) (B:Bi mg)  (Jt:MethOne P w K mg base "Floor" "row_of" 1 av) (A_Floor_rows:FldAt K "Floor" "rows") (KG:∀(y:Str) (C:Addr),aC K y C→mg y=some (.ref C)):MethW P w K mg base "take" 2 dF:=by
 have nd:=mR.nd
 refine fO D mR (fun _ _ _ _ _ _ us hl=>match us,hl with | [_,_],_=>rfl) (fun f cdv A outer s H H0 Hs E hr=>?_)
 have hu:=aB hr
 exact(xws (kW (xeW (e9 0 (iU (cz Jt hr cA) (xv 0) (xa (xv 1) xa0)))))
  (sQ (yR 0 A_Floor_rows (xv 1))))
theorem BC:FnScope ["script","corners","at","speed","name","floor","now","shift","k","cell","more","far","time"] ["script"] (af (top 74)):=⟨rfl,rfl,rfl,by decide +kernel,rfl,by decide +kernel,by decide +kernel⟩
theorem C9 {f:Addr} {fd:FuncData} (F:Fun K "law" "law" (top 74) f fd) (B:Bi mg) (IG:FunIn P w K mg base "_law_cell" 1 aN) (II:FunIn P w K mg base "_law_gone" 3 di) (IJ:FunIn P w K mg base "_law_lowest" 2 aV) (IK:FunIn P w K mg base "_law_past" 3 b6) (IL:FunIn P w K mg base "_law_points" 1 cw) (IM:FunIn P w K mg base "_law_speed" 1 cL) (IQ:FunIn P w K mg base "_law_state_right" 3 aQ) (IZ:FunIn P w K mg base "hull" 4 fh) (Jp:MethOne P w K mg base "Floor" "body" 2 cn) (Jq:MethOne P w K mg base "Floor" "clock" 1 aM) (Js:MethOne P w K mg base "Floor" "names" 1 aR) (Ju:MethOne P w K mg base "Floor" "settle" 4 a7) (Jo:MakeF P w K mg base 1) (Jy:MethW P w K mg base "go" 7 bW) (JA:MethW P w K mg base "put" 5 er) (JB:MethW P w K mg base "steer" 2 cV) (JD:MethW P w K mg base "take" 2 dF) (A_Floor_now:FldAt K "Floor" "now") (A_Floor_rows:FldAt K "Floor" "rows") (KG:∀(y:Str) (C:Addr),aC K y C→mg y=some (.ref C)):FnOk P w K mg base (CXG P w) 8 f fd ["script"] (Fsp K 1 oj):=by
 have nd:=BC.nd
 refine CV F BC (fun cdv A outer s H Hs E hr=>?_)
 have hu:=aB hr
 exact(xb (br 1 (xcF (IZ.is hr) (xa (xcF (IL.is hr) (xa (xcF (IG.is hr) (xa (xv 0) (xa ah xa0))) (xa (xcF (IG.is hr) (xa (xv 0) (xa ah xa0))) (xa (xop bM ah (xop aJ (xcF (IG.is hr) (xa (xv 0) (xa ah xa0))) (xop dU ah ah))) xa0)))) xa0)))
  (xb (br 2 (b7 (xa (xop bF (xop aJ (xcF (IG.is hr) (xa (xv 0) (xa ah xa0))) (xop dU ah ah)) (xop ay ah (xop dU ah ah))) (xa (xop bF (xop aJ (xcF (IG.is hr) (xa (xv 0) (xa ah xa0))) (xop dU ah ah)) (xop ay ah (xop dU ah ah))) xa0))))
  (xb (br 3 (xcF (IM.is hr) (xa (xcF (IG.is hr) (xa (xv 0) (xa ah xa0))) xa0)))
  (xb (br 4 (xiX (d4 (xa vF (xa vF (xa vF xa0)))) (xop aJ (xcF (IG.is hr) (xa (xv 0) (xa ah xa0))) ah)))
  (xb (yS 5 Jo hr KG)
  (xb (vG (D1 (Bk (eD hu) (gR 5 Jy hr (xa (b7 (xa ah (xa ah xa0))) xa0)) (d4 (xa (b7 (xa (b7 (xa ah (xa ah xa0))) (xa (b7 (xa ah (xa ah xa0))) (xa (d4 xa0) (xa (d4 xa0) (xa (d4 xa0) xa0)))))) xa0))) (iY 5 (xtc (eD hu) (dH (cz Ju hr cA) (xv 5)) (d4 (xa (b7 (xa (b7 (xa ah (xa ah xa0))) (xa mI (xa (d4 xa0) (xa (d4 xa0) (xa (d4 xa0) xa0)))))) xa0))))) (xb1 (bu xbl)) xb0)
  (xb (kW (gR 5 JA hr (xa (xv 4) (xa (xcT uj B.list uq (xa (xv 1) xa0)) (xa (xv 2) (xa (xv 3) xa0))))))
  (xb (br 6 (b7 (xa ah (xa ah xa0))))
  (xb (br 7 (b7 (xa (xiV 2 ah) (xa (xiV 2 ah) (xa ah xa0)))))
  (xb (mJ PassesOwn.never (xr3 B.range (xa ah (xa (xcB (Dq rfl) B.max Dx (xa ah (xa (xcB (Dp rfl) B.min Dw (xa (xlV 0 B.len) (xa ah xa0))) xa0))) (xa ah xa0)))) (xgn 8) (xb (br 9 (xcF (IG.is hr) (xa (xv 0) (xa (xv 8) xa0))))
  (xb (br 10 (xcF (IG.is hr) (xa (xv 0) (xa (xop bM (xv 8) ah) xa0))))
  (xb (eL (xtc (gd hu) (xop aJ (xv 9) ah) ah) (xb (br 3 (xcF (IM.is hr) (xa (xop aH (xv 9) ah) xa0)))
  (xb1 (kW (gR 5 JB hr (xa (xv 4) (xa (xv 3) xa0)))))) (xb1 (eL (xw (sT (xtc (gd hu) (xop aJ (xv 9) ah) ah) (sU (xtc oV (xiV 6 ah) ah)))) (xb1 (eL (iY 5 (xtn (xtv (xcF (IK.is hr) (xa (xv 5) (xa (xcF (IJ.is hr) (xa (xop ay (xiV 6 ah) (xop aJ (xv 10) ah)) (xa (xop ay (xiV 6 ah) ah) xa0))) xa0)))))) (xb1 (bu xbl)) xb0)) (xb (br 11 (xcF (IJ.is hr) (xa (xop ay (xop aJ (xop aH (xv 9) ah) ah) (xop aJ (xv 10) ah)) (xa (xop bM ah (xop aJ (xop aH (xv 10) ah) ah)) xa0))))
  (xb (br 12 (xcF (IJ.is hr) (xa (xop bM (xop ay (xiV 6 ah) (xiV 11 ah)) (xop ay (xiV 11 ah) (xiV 6 ah))) (xa (xop ay (xiV 6 ah) (xiV 11 ah)) xa0))))
  (xb (vG (Bk (eD hu) (gR 5 Jy hr (xa (xv 12) xa0)) (d4 (xa (b7 (xa (xv 6) (xa (xv 12) (xa (d4 xa0) (xa (d4 xa0) (xa (d4 xa0) xa0)))))) xa0))) (xb1 (bu xbl)) xb0)
  (xb (br 6 (xv 12))
  (xb1 (br 7 (xcF (II.is hr) (xa (xv 7) (xa (xv 3) (xa (xv 11) xa0)))))))))))))
  (xb1 (eL (iY 5 (xtn (xtv (xcF (IQ.is hr) (xa (xv 5) (xa (xv 4) (xa (xv 6) (xa (xv 7) (xa (xv 3) xa0))))))))) (xb1 (bu xbl)) xb0))))))
  (xb (eL (iY 5 (xw (ko (xtc (eD hu) (iU (cz Jp hr cA) (xv 5) (xa (xv 4) xa0)) (xv 1)) (qT (xtn (xtv (xcF (IK.is hr) (xa (xv 5) (xa (b7 (xa (xop bF ah ah) (xa ah xa0))) xa0))))))))) (xb1 (bu xbl)) xb0)
  (xb (kW (gR 5 JD hr (xa (xv 4) xa0)))
  (xb (br 12 (xcF (IJ.is hr) (xa (xop bM (xop ay ah (xiV 6 ah)) (xiV 6 ah)) (xa (xop ay ah (xiV 6 ah)) xa0))))
  (xb (vG (D1 (Bk (eD hu) (gR 5 Jy hr (xa (xv 12) xa0)) (d4 (xa (b7 (xa (xv 6) (xa (xv 12) (xa (d4 xa0) (xa (d4 xa0) (xa (d4 xa0) xa0)))))) xa0))) (iY 5 (xtc (eD hu) (dH (cz Ju hr cA) (xv 5)) (d4 (xa (b7 (xa (xv 12) (xa mI (xa (d4 xa0) (xa (d4 xa0) (xa (d4 xa0) xa0)))))) xa0))))) (xb1 (bu xbl)) xb0)
  (xb1 (bu (e9 5 (Br (vJ (gd hu) (dH (cz Js hr cA) (xv 5)) (d4 xa0)) (Bn (vJ (gd hu) (dH (cz Jq hr cA) (xv 5)) (xv 12)))))))))))))))))))))
end
abbrev Y(p:PV):Option SV:=some (.sh p)
abbrev YI(i:Int):Option SV:=some (.sh (.int i))
abbrev YL(l:List PV):Option SV:=some (.sh (.lst l))
abbrev YT(x y w:Int):PV:=.tup [.int x,.int y,.int w]
abbrev YN(s:PSt):Res Fl:=.ok (.next s)
def gI(x y:Int):Int:=((Nat.gcd x.natAbs y.natAbs:Nat):Int)
theorem ud{x y:Int}(hx:0≤x)(hy:0<y):gI y (x % y)=gI x y:=by
 unfold gI
 congr 1
 have e:(x % y).natAbs=x.natAbs % y.natAbs:=by
  obtain⟨a,rfl⟩:=Int.eq_ofNat_of_zero_le hx
  obtain⟨b,rfl⟩:=Int.eq_ofNat_of_zero_le (aaG hy)
  rw[←Int.natCast_emod];rfl
 rw[e,Nat.gcd_comm y.natAbs,Nat.gcd_comm x.natAbs]
 exact(Nat.gcd_rec y.natAbs x.natAbs).symm
theorem uc{x:Int}(hx:0≤x):gI x 0=x:=by
 unfold gI;simp;omega
def aI(x:Int):Int:=if x<0 then -x else x
theorem uu(x:Int):0≤aI x:=by unfold aI;split<;>omega
theorem yK(x:Int):(aI x).natAbs=x.natAbs:=by unfold aI;split<;>omega
theorem xV(x y:Int):gI (aI x) (aI y)=gI x y:=by unfold gI;rw[yK,yK]
theorem Bh(x y:Int):0≤gI x y:=Int.natCast_nonneg _
theorem pj(x y:Int):gI x y=gI y x:=by unfold gI;rw[Nat.gcd_comm]
theorem sx(a b:Int):gI a b ∣ a∧gI a b ∣ b:=by
 unfold gI
 exact⟨Int.ofNat_dvd_left.mpr (Nat.gcd_dvd_left _ _),Int.ofNat_dvd_left.mpr (Nat.gcd_dvd_right _ _)⟩
theorem yg:∀(n:Nat)(x y:Int)(z:Option SV),y.natAbs=n→0≤x→0≤y→∃z',bN ij ik
  [YI x,YI y,z]=YN [YI (gI x y),YI 0,z']:=by
 intro n
 induction n using Nat.strongRecOn with
 |ind n ih=>
  intro x y z hn hx hy
  rw[eY]
  by_cases h:y=0
  ·subst h
   exact⟨z,by simp[iV,uc hx]⟩
  ·have h0:0<y:=by omega
   have e:x.fmod y=x % y:=abk x hy
   have h1:=Int.emod_nonneg x h
   have h2:=Int.emod_lt_of_pos x h0
   obtain⟨z',hz⟩:=ih (x % y).natAbs (by omega) y (x % y) (YI (x % y)) rfl hy h1
   refine⟨z',?_⟩
   simp[iV,m9,h,rN h,e]
   rw[hz,ud hx h0]
theorem jV(a b:Int):dg [.int a,.int b]=.ok (.int (gI a b)):=by
 unfold dg
 rw[gL]
 obtain⟨z',h⟩:=yg _ (aI a) (aI b) none rfl (uu a) (uu b)
 simp[iK]
 change fin (Res.bind (bN _ _ [YI (aI a),YI (aI b),none]) _)=_
 rw[h]
 simp[xV]
theorem yo:∀(n:Nat)(x y:Int),x.natAbs=n→0≤x→0≤y→bN eG eI
  [YI x,YI y]=YN [YI 0,YI (gI x y)]:=by
 intro n
 induction n using Nat.strongRecOn with
 |ind n ih=>
  intro x y hn hx hy
  rw[eY]
  by_cases h:x=0
  ·subst h
   simp[fv]
   rw[pj,uc hy]
  ·have h0:0<x:=by omega
   have e:y.fmod x=y % x:=abk y hx
   have h1:=Int.emod_nonneg y h
   have h2:=Int.emod_lt_of_pos y h0
   have hz:=ih (y % x).natAbs (by omega) (y % x) x rfl h1 hx
   simp[fv,jI,h0,rN h,e,v3]
   rw[hz,pj,ud hy h0,pj]
theorem qk(a b:Int):bI [.int a,.int b]=.ok (.int (gI a b)):=by
 unfold bI
 rw[gL]
 have h:=yo _ (aI a) (aI b) rfl (uu a) (uu b)
 simp[dZ]
 change fin (Res.bind (bN _ _ [YI (aI a),YI (aI b)]) _)=_
 rw[h]
 simp[xV]
theorem zU(i:Int):cK [.int i]=.ok (.bl true):=by
 unfold cK;rw[iQ];simp[eU,d6]
theorem lV(i:Int):bT [.int i]=.ok (.bl true):=by
 unfold bT;rw[iQ];simp[gz,d6]
theorem gm(ns:List Int)(k:Int)(hk:0≤k):∃n,aN [.scr ns,.int k]=.ok (.int n):=by
 unfold aN;rw[gL]
 by_cases h:k<ns.length
 ·obtain⟨x,hx,_⟩:=DJ hk h
  simp[en,h,sJ hx]
 ·obtain⟨σ',h1,n,z,rfl⟩:=uf (gg:=gN 3) (c:=fE) (fun σ=>∃n z,σ=[Y (.scr ns),YI k,YI n,z]) (fun p=>∃i,p=.int i)
   (by
    rintro p σ ⟨i,rfl⟩ ⟨n,z,rfl⟩
    refine⟨[Y (.scr ns),YI k,YI n,YI i],[Y (.scr ns),YI k,YI (n*1009+i % 1000003),YI i],rfl,?_,_,_,rfl⟩
    simp[fE])
   (qI (ns.map PV.int) none (some 3)) (by
    intro p hp
    have hp:=List.mem_of_mem_drop (List.mem_of_mem_take hp)
    obtain⟨i,_,rfl⟩:=List.mem_map.mp hp
    exact⟨i,rfl⟩) [Y (.scr ns),YI k,YI (k*7907+3571),none] ⟨_,_,rfl⟩
  simp[en,h,pSl]
  rw[h1]
  simp[oS (mulR (i:=n % 2147483647) (j:=n % 2147483647) (by omega) (by omega))]
open Builtin.Int (intBits)
theorem a5{x:Int}{n:Nat}(h:x.natAbs<2 ^ n):intBits x≤n:=by
 unfold intBits
 split
 ·exact aaH _
 ·rename_i e
  have h0:x.natAbs≠0:=by
   intro z
   have:x=0:=by omega
   exact e (by simp[this])
  have:=(Nat.log2_lt h0).mpr h
  omega
theorem bits_le{x y:Int}{n:Nat}(h:x.natAbs≤y.natAbs)(hy:intBits y≤n):intBits x≤n:=PyProof.Rows.bits_of_natAbs_le h hy
theorem aK{x y:Int}{m n:Nat}(hx:intBits x≤m)(hy:intBits y≤n)(h:m+n≤134217728):bc (.int x) (.int y)=.ok (.int (x*y)):=oS (PyProof.Rows.mulOk_of_bits hx hy h)
def sg(b:Int)(g:Int):Int:=if b<0 then -g else g
structure Low (t b q r:Int):Prop where
 pos:0<r
 one:gI q r=1
 eq:q*b=t*r
 qb:∀n,intBits t≤n→intBits q≤n
 rb:∀n,intBits b≤n→intBits r≤n
theorem xt{t b:Int}(hb:b≠0):sg b (gI t b)≠0∧(∀n,intBits b≤n→intBits (sg b (gI t b))≤n)∧Low t b (t.fdiv (sg b (gI t b))) (b.fdiv (sg b (gI t b))):=by
 obtain⟨⟨u,hu⟩,⟨v,hv⟩⟩:=sx t b
 have g0:gI t b≠0:=fun z=>by rw[z]at hv;simp at hv;exact hb hv
 have gp:0<gI t b:=by have:=Bh t b;omega
 have hne:sg b (gI t b)≠0:=by unfold sg;split<;>omega
 have eq1:t.fdiv (sg b (gI t b))=(if b<0 then -u else u):=by
  have:t=sg b (gI t b)*(if b<0 then -u else u):=by
   unfold sg
   split<;>grind
  conv=>lhs;lhs;rw[this]
  exact abt _ hne
 have eq2:b.fdiv (sg b (gI t b))=(if b<0 then -v else v):=by
  have:b=sg b (gI t b)*(if b<0 then -v else v):=by
   unfold sg
   split<;>grind
  conv=>lhs;lhs;rw[this]
  exact abt _ hne
 have hvb:v.natAbs≤b.natAbs∧(gI t b).natAbs≤b.natAbs:=by
  have e:b.natAbs=(gI t b).natAbs*v.natAbs:=by rw[←aaO,←hv]
  have v0:v≠0:=fun z=>by rw[z]at hv;simp at hv;exact hb hv
  have h1:1≤(gI t b).natAbs:=by omega
  have h2:1≤v.natAbs:=by omega
  exact⟨by rw[e];exact Nat.le_mul_of_pos_left _ h1,by rw[e];exact Nat.le_mul_of_pos_right _ h2⟩
 have hut:u.natAbs≤t.natAbs:=by
  have e:t.natAbs=(gI t b).natAbs*u.natAbs:=by rw[←aaO,←hu]
  have h1:1≤(gI t b).natAbs:=by omega
  rw[e];exact Nat.le_mul_of_pos_left _ h1
 have huv:Nat.gcd u.natAbs v.natAbs=1:=by
  have e1:t.natAbs=(gI t b).natAbs*u.natAbs:=by rw[←aaO,←hu]
  have e2:b.natAbs=(gI t b).natAbs*v.natAbs:=by rw[←aaO,←hv]
  have e3:Nat.gcd t.natAbs b.natAbs=(gI t b).natAbs:=by unfold gI;simp
  rw[e1,e2,Nat.gcd_mul_left]at e3
  have h1:0<(gI t b).natAbs:=by omega
  have e4:(gI t b).natAbs*Nat.gcd u.natAbs v.natAbs=(gI t b).natAbs*1:=by rw[Nat.mul_one];exact e3
  exact Nat.eq_of_mul_eq_mul_left h1 e4
 refine⟨hne,fun n hn=>bits_le ?_ hn,?_⟩
 ·unfold sg;split<;>omega
 ·rw[eq1,eq2]
  refine⟨?_,?_,?_,fun n hn=>bits_le ?_ hn,fun n hn=>bits_le ?_ hn⟩
  ·have:v=0∨0<v∨v<0:=by omega
   rcases this with z|z|z
   ·rw[z]at hv;simp at hv;exact absurd hv hb
   ·have:0<gI t b*v:=aaK gp z
    rw[if_neg (by omega)];exact z
   ·have:gI t b*v<0:=Int.mul_neg_of_pos_of_neg gp z
    rw[if_pos (by omega)];omega
  ·unfold gI
   split<;>simp[huv]
  ·split<;>grind
  ·split<;>omega
  ·split<;>omega
structure Low3 (x y w p q r:Int):Prop where
 pos:0<r
 one:gI (gI p q) r=1
 ex:p*w=x*r
 ey:q*w=y*r
 pb:∀n,intBits x≤n→intBits p≤n
 qb:∀n,intBits y≤n→intBits q≤n
 rb:∀n,intBits w≤n→intBits r≤n
theorem ue(x y w:Int):gI (gI x y) w=((Nat.gcd (Nat.gcd x.natAbs y.natAbs) w.natAbs:Nat):Int):=by unfold gI;simp
theorem z7{x y w:Int}(hw:w≠0):sg w (gI (gI x y) w)≠0∧(∀n,intBits w≤n→intBits (sg w (gI (gI x y) w))≤n) ∧
  Low3 x y w (x.fdiv (sg w (gI (gI x y) w))) (y.fdiv (sg w (gI (gI x y) w))) (w.fdiv (sg w (gI (gI x y) w))):=by
 have d1:=sx (gI x y) w
 have d2:=sx x y
 obtain⟨a,ha⟩:=Int.dvd_trans d1.1 d2.1
 obtain⟨b,hb⟩:=Int.dvd_trans d1.1 d2.2
 obtain⟨c,hc⟩:=d1.2
 have hN:Nat.gcd (Nat.gcd x.natAbs y.natAbs) w.natAbs=(gI (gI x y) w).natAbs:=by rw[ue];rfl
 have gn:=Bh (gI x y) w
 generalize gI (gI x y) w=g at ha hb hc hN gn ⊢
 have g0:g≠0:=fun z=>by rw[z]at hc;simp at hc;exact hw hc
 have gp:0<g:=by omega
 have c0:c≠0:=fun z=>by rw[z]at hc;simp at hc;exact hw hc
 have hne:sg w g≠0:=by unfold sg;split<;>omega
 have div:∀z u:Int,z=g*u→z.fdiv (sg w g)=(if w<0 then -u else u):=fun z u h=>by
  have:z=sg w g*(if w<0 then -u else u):=by
   unfold sg
   split<;>grind
  conv=>lhs;lhs;rw[this]
  exact abt _ hne
 have ab:∀z u:Int,z=g*u→u.natAbs≤z.natAbs:=fun z u h=>by
  rw[h,aaO]
  exact Nat.le_mul_of_pos_left _ (by omega)
 have habc:Nat.gcd (Nat.gcd a.natAbs b.natAbs) c.natAbs=1:=by
  have e1:x.natAbs=g.natAbs*a.natAbs:=by rw[←aaO,←ha]
  have e2:y.natAbs=g.natAbs*b.natAbs:=by rw[←aaO,←hb]
  have e3:w.natAbs=g.natAbs*c.natAbs:=by rw[←aaO,←hc]
  rw[e1,e2,e3,Nat.gcd_mul_left,Nat.gcd_mul_left]at hN
  exact Nat.eq_of_mul_eq_mul_left (show 0<g.natAbs by omega) (by rw[hN,Nat.mul_one])
 refine⟨hne,fun n hn=>bits_le ?_ hn,?_⟩
 ·have:g.natAbs≤w.natAbs:=by rw[hc,aaO];exact Nat.le_mul_of_pos_right _ (by omega)
  unfold sg;split<;>omega
 ·rw[div x a ha,div y b hb,div w c hc]
  have na:=ab x a ha
  have nb:=ab y b hb
  have nc:=ab w c hc
  refine⟨?_,?_,?_,?_,fun n hn=>bits_le ?_ hn,fun n hn=>bits_le ?_ hn,fun n hn=>bits_le ?_ hn⟩
  ·have:0<c∨c<0:=by omega
   rcases this with z|z
   ·have:0<g*c:=aaK gp z
    rw[if_neg (by omega)];exact z
   ·have:g*c<0:=Int.mul_neg_of_pos_of_neg gp z
    rw[if_pos (by omega)];omega
  ·rw[ue]
   split<;>simp[habc]
  ·split<;>grind
  ·split<;>grind
  ·split<;>omega
  ·split<;>omega
  ·split<;>omega
theorem nL{t b:Int}(hb:b≠0)(h9:intBits b≤9000):∃q r,dS [.int t,.int b]=.ok (.tup [.int q,.int r])∧Low t b q r:=by
 obtain⟨hne,hbits,low⟩:=xt (t:=t) hb
 refine⟨_,_,?_,low⟩
 unfold dS;first|rw[gL]|rw[re2]
 by_cases h:b<0
 ·simp[fS,lV,hb,jV,h]
  have e:sg b (gI t b) = -gI t b:=if_pos h
  rw[e]at hne hbits low ⊢
  simp[cF (i:=t) hne (hbits 9000 h9),cF (i:=b) hne (hbits 9000 h9)]
 ·simp[fS,lV,hb,jV,h]
  have e:sg b (gI t b)=gI t b:=if_neg h
  rw[e]at hne hbits low ⊢
  simp[cF (i:=t) hne (hbits 9000 h9),cF (i:=b) hne (hbits 9000 h9)]
def PB(n:Nat)(p:Pt):Prop:=intBits p.1≤n∧intBits p.2≤n
theorem b1:intBits (1:Int)≤1:=a5 (by decide)
theorem CS{P Q:Pt}{x y w:Int}(hP:PB 400 P)(hQ:PB 400 Q)(hx:intBits x≤4000)(hy:intBits y≤4000)(hw:intBits w≤4000):
  fX [ptP P,ptP Q,YT x y w]=.ok (.int ((Q.1-P.1)*(y-P.2*w)-(Q.2-P.2)*(x-P.1*w))):=by
 have a1:=bits_sub hQ.1 hP.1
 have a2:=bits_sub hQ.2 hP.2
 have a3:=bits_sub (iS hy (show 4000≤4400 by decide)) (bits_mul hP.2 hw)
 have a4:=bits_sub (iS hx (show 4000≤4400 by decide)) (bits_mul hP.1 hw)
 unfold fX;rw[rA]
 simp[iG,ptP,aK hP.1 hw (by decide),aK hP.2 hw (by decide),aK a1 a3 (by decide),aK a2 a4 (by decide)]
theorem zV{P Q R:Pt}(hP:PB 400 P)(hQ:PB 400 Q)(hR:PB 400 R):dE [ptP P,ptP Q,ptP R]=.ok (.bl (decide (0<cr P Q R))):=by
 have h:=CS hP hQ (iS hR.1 (by decide)) (iS hR.2 (by decide)) (iS b1 (by decide))
 unfold dE;rw[rA]
 have e:cr P Q R=(Q.1-P.1)*(R.2-P.2*1)-(Q.2-P.2)*(R.1-P.1*1):=by unfold cr;simp
 rw[e]
 unfold ptP at h ⊢
 simp[eT,h]
theorem nj{p:Pt}(hp:PB 400 p)(x0:Option SV):∀(st:List Pt),(∀q∈st,PB 400 q) →
  bN eZ iM [x0,some (.own (st.reverse.map ptP)),Y (ptP p)]=YN [x0,some (.own ((bp p st).reverse.map ptP)),Y (ptP p)]
 |[],_=>by rw[eY];simp[eZ,bp]
 |[a],_=>by rw[eY];simp[eZ,bp]
 |b::a::r,h=>by
  have hb:=h b (.head _)
  have ha:=h a (.tail _ (.head _))
  have e:(b::a::r).reverse.map ptP=r.reverse.map ptP++[ptP a,ptP b]:=by simp
  have g2:atR (r.reverse.map ptP++[ptP a,ptP b]) (-2) id=.ok (ptP a):=sJ (G.vD _ _ _)
  have g1:atR (r.reverse.map ptP++[ptP a,ptP b]) (-1) id=.ok (ptP b):=sJ (by
   have:r.reverse.map ptP++[ptP a,ptP b]=(r.reverse.map ptP++[ptP a])++[ptP b]:=by simp
   rw[this];exact G.yF _ _)
  rw[e,eY]
  have hlen:(1:Int)<((r.reverse.map ptP++[ptP a,ptP b]).length:Int):=by rw[aai];simp;omega
  have hc:eZ [x0,some (.own (r.reverse.map ptP++[ptP a,ptP b])),Y (ptP p)]=.ok (!decide (0<cr a b p)):=by
   simp only[eZ,Bx,Bv,uB,pq,Fe,pk,AA,Dm,pG,sO,Dl,xZ,w5,aU,Cy,qR,Bc,g1,g2,zV ha hb hp,tJ,hlen,decide_true,if_true]
  rw[hc]
  by_cases hcr:0<cr a b p
  ·have:bp p (b::a::r)=b::a::r:=by unfold bp;rw[if_pos hcr]
   rw[this,e]
   simp[hcr]
  ·have:bp p (b::a::r)=bp p (a::r):=by
    conv=>lhs;unfold bp
    rw[if_neg hcr]
   rw[this]
   have hpop:iM [x0,some (.own (r.reverse.map ptP++[ptP a,ptP b])),Y (ptP p)]=YN [x0,some (.own ((a::r).reverse.map ptP)),Y (ptP p)]:=by
    rw[iM,BE (i:=1) (xs:=r.reverse.map ptP++[ptP a,ptP b]) rfl (by simp)]
    have:(r.reverse.map ptP++[ptP a,ptP b]).dropLast=(a::r).reverse.map ptP:=by
     rw[show r.reverse.map ptP++[ptP a,ptP b]=(r.reverse.map ptP++[ptP a])++[ptP b] by simp,List.dropLast_concat];simp
    rw[this];rfl
   simp only[hcr,decide_false,abD,aU,if_true,hpop]
   exact nj hp x0 (a::r) fun q hq=>h q (.tail _ hq)
theorem tq(p:Pt):∀(st:List Pt),∀q∈bp p st,q∈st
 |[],q,h=>h
 |[_],q,h=>h
 |b::a::r,q,h=>by
  unfold bp at h
  split at h
  ·exact h
  ·exact .tail _ (tq p (a::r) q h)
theorem kL(p:Pt):∀(st:List Pt),(bp p st).length≤st.length
 |[]=>gO _
 |[_]=>gO _
 |b::a::r=>by
  unfold bp
  split
  ·exact gO _
  ·exact iS (kL p (a::r)) (by simp)
theorem nQ(x0:Option SV):∀(ps st:List Pt)(z:Option SV),(∀q∈ps,PB 400 q)→(∀q∈st,PB 400 q)→st.length+ps.length<1000 →
  ∃z',dQ (gN 2) e5 (ps.map ptP) [x0,some (.own (st.reverse.map ptP)),z]=YN [x0,some (.own ((ps.foldl (fun st p=>p::bp p st) st).reverse.map ptP)),z']
 |[],st,z,_,_,_=>⟨z,rfl⟩
 |p::ps,st,z,h1,h2,h3=>by
  have hp:=h1 p (.head _)
  have hw:=nj hp x0 st h2
  have hl:((bp p st).reverse.map ptP).length<10000000:=by
   have:=kL p st
   simp only[iF]at h3
   rw[aad,aa1];omega
  have hb:e5 [x0,some (.own (st.reverse.map ptP)),Y (ptP p)]=YN [x0,some (.own ((p::bp p st).reverse.map ptP)),Y (ptP p)]:=by
   rw[e5,fA,hw]
   simp only[aU]
   rw[rl (i:=1) (p:=ptP p) rfl hl rfl]
   simp
  obtain⟨z',hz⟩:=nQ x0 ps (p::bp p st) (Y (ptP p)) (fun q hq=>h1 q (.tail _ hq)) (fun q hq=>by
   rcases List.mem_cons.mp hq with rfl|hq
   ·exact hp
   ·exact h2 q (tq p st q hq)) (by
   have:=kL p st
   simp only[iF]at h3 ⊢;omega)
  refine⟨z',?_⟩
  rw[aau,dP (σ1:=[x0,some (.own (st.reverse.map ptP)),Y (ptP p)]) rfl,hb]
  exact hz
theorem tP{ps:List Pt}(h:∀q∈ps,PB 400 q)(hl:ps.length<1000):fy [.lst (ps.map ptP)]=.ok (.lst ((bK ps).reverse.map ptP)):=by
 obtain⟨z,hz⟩:=nQ (YL (ps.map ptP)) ps [] none h (fun q hq=>by simp at hq) (by simpa using hl)
 unfold fy;rw[iQ]
 have hz':dQ (gN 2) e5 (ps.map ptP) [YL (ps.map ptP),some (.own []),none]=_:=hz
 simp only[kT,fA,BF,aU,lI,tX]
 show fin (((ae 0 [YL (ps.map ptP),some (.own []),none]).bind fT).bind (fun ps'=>dQ (gN 2) e5 ps' [YL (ps.map ptP),some (.own []),none]) |>.bind _)=_
 simp only[ja,aU,AS,hz']
 rfl
theorem iL(ps:List Pt):(bK ps).length≤ps.length:=by
 have key:∀(ps st:List Pt),(ps.foldl (fun st p=>p::bp p st) st).length≤st.length+ps.length:=by
  intro ps
  induction ps with
  |nil=>intro st;exact gO _
  |cons p ps ih=>
   intro st
   have:=ih (p::bp p st)
   have:=kL p st
   simp only[List.foldl_cons,iF]at *
   omega
 have:=key ps []
 rw[aaU,Nat.zero_add]at this
 exact this
theorem xR{ps:List Pt}(h:∀q∈ps,PB 400 q)(hl:ps.length≤63)(rest:DS):
  ∃x0 x1 x2 x3,(az (aO 1 (e1 fe (df (itE (ae 0)) (gN 0) ia 1 []))) (az (aO 2 (eA (fun ps=>noErr (fy ps)) (aa (ae 1) ag)))
  (az (aO 3 (eA (fun ps=>noErr (fy ps)) (aa (e1 uV (ae 1)) ag)))
  (az (aO 4 (e2 dG (eSl (ae 2) oNo (oE (e1 ky (eC (.int 1))))) (eSl (ae 3) oNo (oE (e1 ky (eC (.int 1))))))) rest)))) [YL (ps.map ptP),none,none,none,none]=rest [x0,x1,x2,x3,YL ((jz (bj ps)).map ptP)]:=by
 have hs:∀q∈bj ps,PB 400 q:=fun q hq=>h q ((dI ps q).mp hq)
 have hsl:=nv ps
 have c1:=tP hs (by omega)
 have c2:=tP (ps:=(bj ps).reverse) (fun q hq=>hs q (List.mem_reverse.mp hq)) (by rw[aa1];omega)
 have hc:df (itE (ae 0)) (gN 0) ia 1 [] [YL (ps.map ptP),none,none,none,none]=.ok (.lst (ps.map ptP)):=
  d9 (xs:=ps) (u:=ptP) (v:=ptP) rfl (fun x _=>by rw[vO];show noErr (ia [Y (ptP x)])=_;unfold ptP;simp[ia]) (by omega)
 have l1:=iL (bj ps)
 have l2:=iL (bj ps).reverse
 rw[aa1]at l2
 refine⟨YL (ps.map ptP),YL ((bj ps).map ptP),YL ((bK (bj ps)).reverse.map ptP),YL ((bK (bj ps).reverse).reverse.map ptP),?_⟩
 simp only[fA,jN,Fe,hc,aU,rM hl,abv,abu,Dm,pG,sO,Dk,c1,tJ,Cv (xs:=(bj ps).map ptP) (by rw[aad];omega),←List.map_reverse,c2,pq,Fd,EV,GP,xZ,Dj,pk,w5,Fi,w4]
 rw[Cz (by simp only[abm,aad,aa1];omega)]
 simp[jz,List.map_dropLast]
theorem xq{ps:List Pt}(h:∀q∈ps,PB 400 q)(hl:ps.length≤63)(hc:¬Col (bj ps)):fh [.lst (ps.map ptP)]=.ok (.lst ((jz (bj ps)).map ptP)):=by
 have h3:=(jY (gZ ps) hc).three
 unfold fh;rw[iQ]
 obtain⟨x0,x1,x2,x3,e⟩:=xR h hl (az (sIf (tV (e2 (eQ fun i j=>decide (i<j)) (gG 4) (eC (.int 3)))) (fun _=>.stuck) bo) (aY (ae 4)))
 show fin (mw [YL (ps.map ptP),none,none,none,none])=_
 rw[show mw [YL (ps.map ptP),none,none,none,none]=_ from e]
 have hn:¬((jz (bj ps)).length:Int)<3:=by omega
 simp[hn]
def kH(n:Int)(q:Pt):Prop:=-n≤q.1∧q.1≤n∧-n≤q.2∧q.2≤n
theorem p8(c m0 g a b c3:Int):∀(l:List PV)(L:List Pt)(m:Int)(z:Option SV),(∀p∈l,∃i:Int,p=.int i)→(∀q∈L,kH 10 q)→L.length+l.length≤100 →
  ∃(L':List Pt)(m':Int)(z':Option SV),dQ (gN 7) cZ l [YI c,YI m,YI g,YI a,YI b,YI c3,some (.own (L.map ptP)),z,none,none] =
   YN [YI c,YI m',YI g,YI a,YI b,YI c3,some (.own ((L++L').map ptP)),z',none,none]∧L'.length=l.length∧∀q∈L',kH 10 q
 |[],L,m,z,_,_,_=>⟨[],m,z,by simp,rfl,fun q h=>by simp at h⟩
 |p::l,L,m,z,h1,h2,h3=>by
  obtain⟨i,rfl⟩:=h1 p (.head _)
  have hq:kH 10 (m % 9-2,m / 9 % 9-2):=by unfold kH;simp only;omega
  have hstep:cZ [YI c,YI m,YI g,YI a,YI b,YI c3,some (.own (L.map ptP)),YI i,none,none] =
    YN [YI c,YI (m / 81),YI g,YI a,YI b,YI c3,some (.own ((L++[(m % 9-2,m / 9 % 9-2)]).map ptP)),YI i,none,none]:=by
   rw[cZ,fA,rl (i:=6) (p:=ptP (m % 9-2,m / 9 % 9-2)) rfl (by simp only[aad];simp only[iF]at h3;omega) (by simp[ptP])]
   simp
  obtain⟨L',m',z',e,hl,hn⟩:=p8 c m0 g a b c3 l (L++[(m % 9-2,m / 9 % 9-2)]) (m / 81) (YI i) (fun p hp=>h1 p (.tail _ hp)) (fun q hq'=>by
   rcases List.mem_append.mp hq' with h|h
   ·exact h2 q h
   ·simp at h;subst h;exact hq) (by simp only[aai,abg,iF,aaU]at *;omega)
  refine⟨(m % 9-2,m / 9 % 9-2)::L',m',z',?_,by simp[hl],fun q hq'=>?_⟩
  ·rw[dP (σ1:=[YI c,YI m,YI g,YI a,YI b,YI c3,some (.own (L.map ptP)),YI i,none,none]) rfl,hstep]
   simp only[aU]
   rw[e]
   simp
  ·rcases List.mem_cons.mp hq' with rfl|h
   ·exact hq
   ·exact hn q h
def gX(q:Pt):Pt:=(q.2,q.1)
def hW(q:Pt):Pt:=(0-q.1,q.2)
def p6(g a u:Int)(q:Pt):Pt:=(g*(q.1+a),g*(q.2+u))
theorem AD(P Q R:Pt):cr (gX P) (gX Q) (gX R) = - cr P Q R:=by unfold cr gX;simp only;grind
theorem yi(P Q R:Pt):cr (hW P) (hW Q) (hW R) = - cr P Q R:=by unfold cr hW;simp only;grind
theorem Dn(g a u:Int)(P Q R:Pt):cr (p6 g a u P) (p6 g a u Q) (p6 g a u R)=g*g*cr P Q R:=by unfold cr p6;simp only;grind
theorem nJ{n:Nat}{x m:Int}(h:-m≤x∧x≤m)(hm:m<2 ^ n):intBits x≤n:=a5 (by
 have:((2 ^ n:Nat):Int)=2 ^ n:=by simp
 omega)
theorem yp{l r:List Pt}(h:Col l)(s:∀p∈r,p∈l):Col r:=fun x hx y hy z hz=>h x (s x hx) y (s y hy) z (s z hz)
theorem xm(cell more g:Int)(hg:0<g)(hb:intBits g≤100):∃ps:List Pt,cw [.int cell,.int more,.int g]=.ok (.lst (ps.map ptP))∧ps.length≤6∧(∀q∈ps,PB 120 q)∧¬Col ps:=by
 unfold cw;rw[rA]
 have hl0:∃l,fV [.int (cell / 225 % 4)]=.ok l∧(∀p∈l,∃i:Int,p=.int i)∧l.length≤3:=by
  refine⟨dn 0 1 (cell / 225 % 4).toNat,if_pos ⟨by omega,by omega⟩,fun p hp=>?_,?_⟩
  ·obtain⟨i,_,rfl⟩:=rD hp;exact⟨_,rfl⟩
  ·unfold dn;rw[aad,abA];omega
 obtain⟨l,hl,hli,hl3⟩:=hl0
 have hbase:∀q∈[((0:Int),(0:Int)),(1+cell % 5,0),(cell / 25 % 9-2,1+cell / 5 % 5)],kH 10 q:=by
  intro q hq
  simp only[abx,List.not_mem_nil,or_false]at hq
  rcases hq with rfl|rfl|rfl<;>(unfold kH;simp only;omega)
 obtain⟨L',m',z',e,hlen,hn⟩:=p8 cell more g (1+cell % 5) (1+cell / 5 % 5) (cell / 25 % 9-2) l [((0:Int),(0:Int)),(1+cell % 5,0),(cell / 25 % 9-2,1+cell / 5 % 5)] more none hli hbase (by simp only[iF,aaU];omega)
 generalize hL:[((0:Int),(0:Int)),(1+cell % 5,0),(cell / 25 % 9-2,1+cell / 5 % 5)]++L'=L at e
 have hLn:∀q∈L,kH 10 q:=fun q hq=>by
  rw[←hL]at hq
  rcases List.mem_append.mp hq with h|h
  ·exact hbase q h
  ·exact hn q h
 have hLl:L.length≤6:=by rw[←hL,aai];simp only[iF,aaU];omega
 have hLc:¬Col L:=fun hc=>by
  have z:=hc (0,0) (by rw[←hL];simp) (1+cell % 5,0) (by rw[←hL];simp) (cell / 25 % 9-2,1+cell / 5 % 5) (by rw[←hL];simp)
  unfold cr at z
  simp only at z
  have:0<(1+cell % 5-0)*(1+cell / 5 % 5-0):=aaK (by omega) (by omega)
  have z2:(0-0:Int)*(cell / 25 % 9-2-0)=0:=by simp
  omega
 have turn1:∃L1:List Pt,(sIf (tV (e2 pEq (e2 bA (e2 a9 (ae 0) (eC (.int 900))) (eC (.int 2))) (eC (.int 1)))) (cO 6 (g8 6 (itE (ae 6)) (gU [0,1]) cY 2 [])) bo)
   [YI cell,YI m',YI g,YI (1+cell % 5),YI (1+cell / 5 % 5),YI (cell / 25 % 9-2),some (.own (L.map ptP)),z',none,none] =
   YN [YI cell,YI m',YI g,YI (1+cell % 5),YI (1+cell / 5 % 5),YI (cell / 25 % 9-2),some (.own (L1.map ptP)),z',none,none]∧(∀q∈L1,kH 10 q)∧L1.length=L.length∧¬Col L1:=by
  by_cases h:cell / 900 % 2=1
  ·refine⟨L.map gX,?_,fun q hq=>?_,by simp,fun hc=>hLc fun x hx y hy z hz=>?_⟩
   ·simp only[g5,uB,pq,ja,pk,aU,iB _ (show 0<900 by decide) (by decide),jT _ (show 0<2 by decide),tG,qR,h,decide_true,if_true]
    rw[lD (i:=6) (xs:=L.map ptP) rfl,nB (xs:=L) (u:=ptP) (v:=fun q=>ptP (gX q)) rfl (fun x _=>by unfold ptP;rw[qY];show noErr (cY [YI x.1,YI x.2])=_;simp[cY,gX]) (by omega)]
    simp
   ·obtain⟨x,hx,rfl⟩:=List.mem_map.mp hq
    have:=hLn x hx
    unfold kH gX at *;simp only at *;omega
   ·have:=hc (gX x) (aaI hx) (gX y) (aaI hy) (gX z) (aaI hz)
    rw[AD]at this;omega
  ·refine⟨L,?_,hLn,rfl,hLc⟩
   simp only[g5,uB,pq,ja,pk,aU,iB _ (show 0<900 by decide) (by decide),jT _ (show 0<2 by decide),tG,qR,h,decide_false]
   rfl
 obtain⟨L1,e1,hn1,hl1,hc1⟩:=turn1
 have turn2:∃L2:List Pt,(sIf (tV (e2 pEq (e2 bA (e2 a9 (ae 0) (eC (.int 1800))) (eC (.int 2))) (eC (.int 1)))) (cO 6 (g8 6 (itE (ae 6)) (gU [0,1]) cX 2 [])) bo)
   [YI cell,YI m',YI g,YI (1+cell % 5),YI (1+cell / 5 % 5),YI (cell / 25 % 9-2),some (.own (L1.map ptP)),z',none,none] =
   YN [YI cell,YI m',YI g,YI (1+cell % 5),YI (1+cell / 5 % 5),YI (cell / 25 % 9-2),some (.own (L2.map ptP)),z',none,none]∧(∀q∈L2,kH 10 q)∧L2.length=L.length∧¬Col L2:=by
  by_cases h:cell / 1800 % 2=1
  ·refine⟨L1.map hW,?_,fun q hq=>?_,by simp[hl1],fun hc=>hc1 fun x hx y hy z hz=>?_⟩
   ·simp only[g5,uB,pq,ja,pk,aU,iB _ (show 0<1800 by decide) (by decide),jT _ (show 0<2 by decide),tG,qR,h,decide_true,if_true]
    rw[lD (i:=6) (xs:=L1.map ptP) rfl,nB (xs:=L1) (u:=ptP) (v:=fun q=>ptP (hW q)) rfl (fun x _=>by unfold ptP;rw[qY];show noErr (cX [YI x.1,YI x.2])=_;simp[cX,hW]) (by omega)]
    simp
   ·obtain⟨x,hx,rfl⟩:=List.mem_map.mp hq
    have:=hn1 x hx
    unfold kH hW at *;simp only at *;omega
   ·have:=hc (hW x) (aaI hx) (hW y) (aaI hy) (hW z) (aaI hz)
    rw[yi]at this;omega
  ·refine⟨L1,?_,hn1,hl1,hc1⟩
   simp only[g5,uB,pq,ja,pk,aU,iB _ (show 0<1800 by decide) (by decide),jT _ (show 0<2 by decide),tG,qR,h,decide_false]
   rfl
 obtain⟨L2,e2',hn2,hl2,hc2⟩:=turn2
 have hco:∀x∈L2,intBits (x.1+(cell / 3600 % 61-30))≤8∧intBits (x.2+(cell / 219600 % 61-30))≤8:=fun x hx=>by
  have:=hn2 x hx
  unfold kH at this
  exact⟨nJ (m:=60) (by omega) (by decide),nJ (m:=60) (by omega) (by decide)⟩
 refine⟨L2.map (p6 g (cell / 3600 % 61-30) (cell / 219600 % 61-30)),?_,by rw[aad,hl2];exact hLl,fun q hq=>?_,fun hc=>hc2 fun x hx y hy z hz=>?_⟩
 ·have hlast:df (itE (ae 6)) (gU [0,1]) cW 2 [2,8,9] [YI cell,YI m',YI g,YI (1+cell % 5),YI (1+cell / 5 % 5),YI (cell / 25 % 9-2),YL (L2.map ptP),z',YI (cell / 3600 % 61-30),YI (cell / 219600 % 61-30)] =
    .ok (.lst (L2.map fun x=>ptP (p6 g (cell / 3600 % 61-30) (cell / 219600 % 61-30) x))):=
   d9 (xs:=L2) (u:=ptP) (v:=fun x=>ptP (p6 g (cell / 3600 % 61-30) (cell / 219600 % 61-30) x)) rfl (fun x hx=>by
    have hm1:=aK hb (hco x hx).1 (by decide)
    have hm2:=aK hb (hco x hx).2 (by decide)
    unfold ptP
    rw[qY]
    show noErr (cW [YI x.1,YI x.2,YI g,YI (cell / 3600 % 61-30),YI (cell / 219600 % 61-30)])=_
    simp[cW,hm1,hm2,p6]) (by omega)
  have pre:∀rest:DS,(az (aO 3 (e2 dG (eC (.int 1)) (e2 bA (ae 0) (eC (.int 5))))) (az (aO 4 (e2 dG (eC (.int 1)) (e2 bA (e2 a9 (ae 0) (eC (.int 5))) (eC (.int 5)))))
    (az (aO 5 (e2 eO (e2 bA (e2 a9 (ae 0) (eC (.int 25))) (eC (.int 9))) (eC (.int 2))))
    (az (lH 6 (aa (eA bB (aa (eC (.int 0)) (aa (eC (.int 0)) ag))) (aa (eA bB (aa (ae 3) (aa (eC (.int 0)) ag))) (aa (eA bB (aa (ae 5) (aa (ae 4) ag))) ag)))) rest))))
    [YI cell,YI more,YI g,none,none,none,none,none,none,none] =
    rest [YI cell,YI more,YI g,YI (1+cell % 5),YI (1+cell / 5 % 5),YI (cell / 25 % 9-2),some (.own ([((0:Int),(0:Int)),(1+cell % 5,0),(cell / 25 % 9-2,1+cell / 5 % 5)].map ptP)),none,none,none]:=by
   intro rest
   simp[lH,ptP]
  change fin (cR [YI cell,YI more,YI g,none,none,none,none,none,none,none])=_
  rw[show cR [YI cell,YI more,YI g,none,none,none,none,none,none,none]=_ from pre _]
  have hit:(itR fV (aa (e2 bA (e2 a9 (ae 0) (eC (.int 225))) (eC (.int 4))) ag)) [YI cell,YI more,YI g,YI (1+cell % 5),YI (1+cell / 5 % 5),YI (cell / 25 % 9-2),some (.own ([((0:Int),(0:Int)),(1+cell % 5,0),(cell / 25 % 9-2,1+cell / 5 % 5)].map ptP)),none,none,none]=.ok l:=by
   simp[hl]
  rw[fA,lI,hit,aU,e,aU]
  dsimp only
  rw[fA,e1,aU]
  dsimp only
  rw[fA,e2',aU]
  dsimp only
  rw[fA]
  simp only[jN,pq,ja,pk,aU,iB _ (show 0<3600 by decide) (by decide),jT _ (show 0<61 by decide),wZ,abv,abu]
  rw[fA]
  simp only[jN,pq,ja,pk,aU,iB _ (show 0<219600 by decide) (by decide),jT _ (show 0<61 by decide),wZ,abv,abu]
  rw[lD (i:=6) (xs:=L2.map ptP) rfl]
  simp only[vY,abv,abu,hlast,aU,Aw,List.map_map]
  rfl
 ·obtain⟨x,hx,rfl⟩:=List.mem_map.mp hq
  exact⟨iS (bits_mul hb (hco x hx).1) (by decide),iS (bits_mul hb (hco x hx).2) (by decide)⟩
 ·have:=hc _ (aaI hx) _ (aaI hy) _ (aaI hz)
  rw[Dn]at this
  rcases Int.mul_eq_zero.mp this with h|h
  ·have:=aaK hg hg;omega
  ·exact h
theorem bq(F R:DS){σ σ1:PSt}{r:Res Fl}(h1:F σ=YN σ1)(h2:R σ1=r):(az F R) σ=r:=by
 rw[fA,h1]
 exact h2
theorem xr{a b c d:Int}(ha:0≤a)(hb:0<b)(hc:0≤c)(hd:0<d)(h1:gI a b=1)(h2:gI c d=1)(e:a*d=c*b):a=c∧b=d:=by
 have k1:Nat.Coprime b.natAbs a.natAbs:=by
  unfold gI at h1;unfold Nat.Coprime;rw[Nat.gcd_comm];exact Int.ofNat_inj.mp h1
 have k2:Nat.Coprime d.natAbs c.natAbs:=by
  unfold gI at h2;unfold Nat.Coprime;rw[Nat.gcd_comm];exact Int.ofNat_inj.mp h2
 have e':a.natAbs*d.natAbs=c.natAbs*b.natAbs:=by rw[←aaO,←aaO,e]
 have d1:b.natAbs ∣ d.natAbs:=k1.dvd_of_dvd_mul_left ⟨c.natAbs,by rw[e',Nat.mul_comm]⟩
 have d2:d.natAbs ∣ b.natAbs:=k2.dvd_of_dvd_mul_left ⟨a.natAbs,by rw[←e',Nat.mul_comm]⟩
 have hbd:b.natAbs=d.natAbs:=Nat.dvd_antisymm d1 d2
 have e2:b=d:=by omega
 subst e2
 exact⟨Int.eq_of_mul_eq_mul_right (by omega) e,rfl⟩
structure Ti (B:Nat) (a b:Int):Prop where
 nn:0≤a
 pos:0<b
 one:gI a b=1
 ab:intBits a≤B
 bb:intBits b≤B
theorem Ti.up{B C:Nat}{a b:Int}(t:Ti B a b)(h:B≤C):Ti C a b:=⟨t.nn,t.pos,t.one,iS t.ab h,iS t.bb h⟩
theorem xu{t b q r:Int}(l:Low t b q r)(ht:0≤t)(hb:0<b):0≤q:=by
 rcases aaX q 0 with h|h
 ·have h1:q*b<0:=aa8 h hb
  have h2:0≤t*r:=aaq ht (aaG l.pos)
  have:=l.eq
  omega
 ·exact h
theorem Ti.of{B:Nat}{t b q r:Int}(l:Low t b q r)(ht:0≤t)(hb:0<b)(h1:intBits t≤B)(h2:intBits b≤B):Ti B q r:=⟨xu l ht hb,l.pos,l.one,l.qb _ h1,l.rb _ h2⟩
theorem xx{B:Nat}{t b q r c d:Int}(l:Low t b q r)(ht:0≤t)(hb:0<b)(T:Ti B c d)(e:t*d=c*b):q=c∧r=d:=by
 refine xr (xu l ht hb) l.pos T.nn T.pos l.one T.one ?_
 have h:=l.eq
 have h1:(q*d)*b=(c*r)*b:=by
  rw[show(q*d)*b=(q*b)*d by grind,h,show t*r*d=(t*d)*r by grind,e];grind
 exact Int.eq_of_mul_eq_mul_right (by omega) h1
theorem jt{t b:Int}(hb:0<b)(h9:intBits b≤9000):∃q r,aV [.int t,.int b]=.ok (.tup [.int q,.int r])∧Low t b q r:=by
 obtain⟨hne,hbits,low⟩:=xt (t:=t) (b:=b) (by omega)
 have e:sg b (gI t b)=gI t b:=if_neg (by omega)
 rw[e]at hne hbits low
 refine⟨_,_,?_,low⟩
 unfold aV;rw[gL]
 simp[dY,qk,cF (i:=t) hne (hbits 9000 h9),cF (i:=b) hne (hbits 9000 h9)]
structure Stp (n0 n1 f0 f1 T0 T1:Int):Prop where
 n:Ti 2000 n0 n1
 f:Ti 2000 f0 f1
 t:Ti 2000 T0 T1
 eq:T0*(n1*f1)=(n0*f1+f0*n1)*T1
abbrev P2(a b:Int):PV:=.tup [.int a,.int b]
abbrev P3(a b c:Int):PV:=YT a b c
theorem oZ{a b c d:Int}(ha:intBits a≤2000)(hb:intBits b≤2000)(hc:intBits c≤2000)(hd:intBits d≤2000):cJ [P2 a b,P2 c d]=.ok (.bl (decide (a*d<c*b))):=by
 unfold cJ;rw[gL]
 simp[kR,aK ha hd (by decide),aK hc hb (by decide)]
section
variable {n0 n1 f0 f1 T0 T1:Int}(S:Stp n0 n1 f0 f1 T0 T1)
include S
theorem Stp.ge:¬T0*n1<n0*T1:=fun h=>by
 have h1:=S.eq
 have h2:0≤f0*n1*T1:=aaq (aaq S.f.nn (aaG S.n.pos)) (aaG S.t.pos)
 have h3:(T0*n1)*f1<(n0*T1)*f1:=Int.mul_lt_mul_of_pos_right h S.f.pos
 have h4:(T0*n1)*f1=(n0*T1)*f1+f0*n1*T1:=by grind
 omega
theorem Stp.under:cJ [P2 T0 T1,P2 n0 n1]=.ok (.bl false):=by
 rw[oZ S.t.ab S.t.bb S.n.ab S.n.bb,decide_eq_false S.ge]
theorem Stp.minus:gE [P2 T0 T1,P2 n0 n1]=.ok (P2 f0 f1):=by
 have hp:0<T1*n1:=aaK S.t.pos S.n.pos
 obtain⟨q,r,h,low⟩:=nL (t:=T0*n1-n0*T1) (b:=T1*n1) (by omega) (iS (bits_mul S.t.bb S.n.bb) (by decide))
 obtain⟨rfl,rfl⟩:=xx low (by have:=S.ge;omega) hp S.f (by have:=S.eq;grind)
 unfold gE;rw[gL]
 simp[kS,aK S.t.ab S.n.bb (by decide),aK S.n.ab S.t.bb (by decide),aK S.t.bb S.n.bb (by decide),h]
theorem Stp.plus:j4 [P2 n0 n1,P2 f0 f1]=.ok (P2 T0 T1):=by
 have hp:0<n1*f1:=aaK S.n.pos S.f.pos
 have h1:0≤n0*f1:=aaq S.n.nn (aaG S.f.pos)
 have h2:0≤f0*n1:=aaq S.f.nn (aaG S.n.pos)
 obtain⟨q,r,h,low⟩:=nL (t:=n0*f1+f0*n1) (b:=n1*f1) (by omega) (iS (bits_mul S.n.bb S.f.bb) (by decide))
 obtain⟨rfl,rfl⟩:=xx low (by omega) hp S.t S.eq.symm
 unfold j4;rw[gL]
 simp[pA,aK S.n.ab S.f.bb (by decide),aK S.f.ab S.n.bb (by decide),aK S.n.bb S.f.bb (by decide),h]
end
structure Sp (B:Nat) (x y w:Int):Prop where
 pos:0<w
 xb:intBits x≤B
 yb:intBits y≤B
 wb:intBits w≤B
theorem Sp.up{B C:Nat}{x y w:Int}(t:Sp B x y w)(h:B≤C):Sp C x y w:=⟨t.pos,iS t.xb h,iS t.yb h,iS t.wb h⟩
theorem zY{x y w:Int}(hw:0<w)(h9:intBits w≤9000):∃p q r,mH [.int x,.int y,.int w]=.ok (P3 p q r)∧cE [.int x,.int y,.int w]=.ok (P3 p q r)∧Low3 x y w p q r:=by
 obtain⟨hne,hbits,low⟩:=z7 (x:=x) (y:=y) (w:=w) (by omega)
 have e:sg w (gI (gI x y) w)=gI (gI x y) w:=if_neg (by omega)
 have hb9:=hbits 9000 h9
 rw[e]at hne hb9 low
 have hw0:¬w<0:=by omega
 have hw1:w≠0:=by omega
 refine⟨_,_,_,?_,?_,low⟩
 ·unfold mH;rw[rA]
  simp[pz,lV,hw1,jV,hw0,cF (i:=x) hne hb9,cF (i:=y) hne hb9,cF (i:=w) hne hb9]
 ·unfold cE;rw[rA]
  simp[dz,qk,cF (i:=x) hne hb9,cF (i:=y) hne hb9,cF (i:=w) hne hb9]
theorem zZ{B:Nat}{x y w v0 v1 t0 t1:Int}(hB:B≤1900)(s:Sp B x y w)(h0:intBits v0≤40)(h1:intBits v1≤40)(ha:intBits t0≤7)(hb:intBits t1≤3)(ht:0<t1):
  ∃p q r,e7 [P3 x y w,P2 v0 v1,P2 t0 t1]=.ok (P3 p q r)∧di [P3 x y w,P2 v0 v1,P2 t0 t1]=.ok (P3 p q r)∧Sp (B+50) p q r:=by
 have hp:0<w*t1:=aaK s.pos ht
 have bw:=bits_mul s.wb hb
 obtain⟨p,q,r,h,h',low⟩:=zY (x:=x*t1+v0*t0*w) (y:=y*t1+v1*t0*w) (w:=w*t1) hp (iS bw (by omega))
 have bx:=bits_add (bits_mul s.xb hb) (bits_mul (bits_mul h0 ha) s.wb)
 have by':=bits_add (bits_mul s.yb hb) (bits_mul (bits_mul h1 ha) s.wb)
 refine⟨p,q,r,?_,?_,low.pos,low.pb _ (iS bx (by omega)),low.qb _ (iS by' (by omega)),low.rb _ (iS bw (by omega))⟩
 ·unfold e7;rw[rA]
  simp[iJ,aK s.xb hb (by omega),aK s.yb hb (by omega),aK s.wb hb (by omega),aK h0 ha (by decide),aK h1 ha (by decide),aK (bits_mul h0 ha) s.wb (by omega),aK (bits_mul h1 ha) s.wb (by omega),h]
 ·unfold di;rw[rA]
  simp[ft,aK s.xb hb (by omega),aK s.yb hb (by omega),aK s.wb hb (by omega),aK h0 ha (by decide),aK h1 ha (by decide),aK (bits_mul h0 ha) s.wb (by omega),aK (bits_mul h1 ha) s.wb (by omega),h']
theorem tM(c:Int):∃v0 v1,cL [.int c]=.ok (P2 v0 v1)∧intBits v0≤40∧intBits v1≤40:=by
 unfold cL;rw[iQ]
 have m5:=aK (a5 (n:=4) (by decide):intBits (5:Int)≤4) (a5 (n:=40) (by decide):intBits (1000000000:Int)≤40) (by decide)
 by_cases h:c % 2=0
 ·refine⟨c / 2 % 7-3,c / 14 % 7-3,?_,a5 (by omega),a5 (by omega)⟩
  simp[dA,h]
 ·refine⟨c / 2 % 10000000000-5000000000,c / 3 % 10000000000-5000000000,?_,a5 (by omega),a5 (by omega)⟩
  simp[dA,h,m5]
theorem ya{m c:Str}{tab:List (Str×(List PV→Res PV))}{da:DE}{ra:DA}{σ:PSt}{ns:List Str}{ps qs:List PV}{M:List PV→Res PV}{p:PV}(h1:da σ=.ok (.ob c ns ps))(h2:tab.lookup c=some M)(h3:ns.contains m=false)(h4:ra σ=.ok qs)(h5:M (.ob c ns ps::qs)=.ok p):aD m tab da ra σ=.ok p:=by
 unfold aD
 rw[h1]
 simp only[h2,h3,h4,h5]
 rfl
theorem jv{α:Type}{c:Str}{a:α}{r:List (Str×α)}:aa0 c ((c,a)::r)=some a:=by rw[aam,beq_self_eq_true]
theorem Aa{α:Type}{c d:Str}{a:α}{r:List (Str×α)}(h:(c==d)=false):aa0 c ((d,a)::r)=aa0 c r:=by rw[aam,h]
theorem xX{c f:Str}{ns:List Str}{ps:List PV}{p:PV}(h:(ns.zip ps).lookup f=some p):du c f (.ob c ns ps)=.ok p:=by
 unfold du
 simp only[if_true,h]
theorem cx{d1:DS}{d2:DW}{σ σ1:PSt}{r:Res (PV×PSt)}(h1:d1 σ=YN σ1)(h2:d2 σ1=r):gJ d1 d2 σ=r:=by unfold gJ;rw[h1];exact h2
theorem kJ{d1:DS}{σ σ1:PSt}(h1:d1 σ=YN σ1):pM d1 σ=.ok (.non,σ1):=by unfold pM;rw[h1]
theorem sV{da:DE}{σ:PSt}{p:PV}(h:da σ=.ok p):oq da σ=.ok (p,σ):=by unfold oq;rw[h]
theorem fL{d:DW}{σ σ1:PSt}{p:PV}(h:d σ=.ok (p,σ1)):gb d σ=YN σ1:=by unfold gb;rw[h]
theorem iy{n m:Nat}{d:DW}{ad:Ad}{o:FO}{qs:List PV}{p now:PV}{ns:List Str}{ps:List PV}{rest:PSt}(hn:qs.length+1=n)(h:d (startW m ad o qs)=.ok (p,some (.flo (some ad) now ns ps)::rest)):lK n m d ad o qs=.ok (p,⟨now,ns,ps⟩):=by
 unfold lK
 rw[if_pos hn,h]
 unfold Df
 simp only[if_true]
theorem CC{i:Nat}{σ:PSt}:lH i ag σ=YN (σ.set i (some (.own []))):=rfl
section
variable {now:PV}{ns:List Str}{ps:List PV}
theorem jD:du "Floor" "now" (au now ns ps)=.ok now:=xX jv
theorem i9:du "Floor" "rows" (au now ns ps)=.ok (.dct ns ps):=xX ((Aa (by decide +kernel)).trans jv)
theorem bD {m:Str} {M:List PV→Res PV} {da:DE} {ra:DA} {σ:PSt} {qs:List PV} {p:PV} (h3:(["now","rows"]:List Str).contains m=false) (h1:da σ=.ok (au now ns ps)) (h4:ra σ=.ok qs) (h5:M (au now ns ps::qs)=.ok p):aD m [("Floor",M)] da ra σ=.ok p:=ya h1 jv h3 h4 h5
theorem fj:(["now","rows"]:List Str).contains "standing" = false:=by decide +kernel
theorem iC:(["now","rows"]:List Str).contains "row_of" = false:=by decide +kernel
inductive Rw:List Str→List PV→Prop where
 |no:Rw [] []
 |one (n:Str) (p:PV):ez p=true→Rw [n] [p]
theorem Rw.plain(R:Rw ns ps):ez (.lst ps)=true:=by
 cases R with
 |no=>rfl
 |one n p h=>show(ez p&&true)=true;rw[h];rfl
theorem gf(R:Rw ns ps):ai [au now ns ps]=.ok (.lst ps):=by
 unfold ai;rw[iQ]
 have e:df (itE (eA fF (aa (e1 (du "Floor" "rows") (ae 0)) ag))) (gN 0) cj 1 [0] [Y (au now ns ps)]=.ok (.lst ps):=by
  cases R with
  |no=>exact d9 (xs:=([]:List Str)) (u:=PV.str) (v:=PV.str) (by simp[i9,fF,fT]) (fun q hq=>by simp at hq) (by decide)
  |one n p _=>
   exact d9 (xs:=[n]) (u:=PV.str) (v:=fun _=>p) (by simp[i9,fF,fT]) (fun q hq=>by
    have:q=n:=by simpa using hq
    subst this
    rw[vO]
    show noErr (cj [Y (.str q),Y (au now [q] [p])])=_
    simp[cj,i9,lO,aam]) (by show(1:Nat)≤10000000;decide)
 simp[cH,e]
theorem Be(R:Rw ns ps):bQ [.lst ps]=.ok (.lst []):=by
 unfold bQ;rw[iQ]
 cases R with
 |no=>
  have h3:cO 1 (aY (ae 1)) [YL [],some (.own []),none,none,none]=.ok (.ret (.lst [])):=rfl
  simp[dy,CC,xI,sM,hZ,h3]
 |one n p _=>
  have e:pSl (.lst [p]) (some 1) none=.ok (.lst []):=rfl
  have h:dQ (gU [2,3]) dD (hZ 0 [p]) [YL [p],some (.own []),none,none,none]=YN [YL [p],some (.own []),YI 0,Y p,none]:=by
   show dQ (gU [2,3]) dD [.tup [.int 0,p]] _=_
   rw[dP (σ1:=[YL [p],some (.own []),YI 0,Y p,none]) rfl]
   simp[dD,e,fT]
  have h3:cO 1 (aY (ae 1)) [YL [p],some (.own []),YI 0,Y p,none]=.ok (.ret (.lst [])):=rfl
  simp[dy,CC,xI,sM,h,h3]
theorem tN(R:Rw ns ps)(t:PV):cD [.lst ps,t]=.ok (.lst []):=by
 unfold cD;rw[gL]
 have e:df (itE (eA (fun ps=>noErr (bQ ps)) (aa (ae 0) ag))) (gU [0,1]) jE 2 [] [YL ps,Y t]=.ok (.lst []):=
  d9 (xs:=([]:List Str)) (u:=PV.str) (v:=PV.str) (by simp[Be R,fT]) (fun q hq=>by simp at hq) (by decide)
 simp[gw,e]
theorem z6(R:Rw ns ps):cU [.lst ps]=.ok .non:=by
 unfold cU;rw[iQ]
 simp[dX,CC,Be R,fT,pIs,nP]
theorem tQ(R:Rw ns ps)(t:PV):aq [au now ns ps,t]=.ok (.lst []):=by
 unfold aq;rw[gL]
 have h1:aD "standing" [("Floor",ai)] (ae 0) ag [Y (au now ns ps),Y t,some (.own []),none]=.ok (.lst ps):=bD fj rfl rfl (gf R)
 have h2:bN bC cu [Y (au now ns ps),Y t,some (.own []),Y .non]=YN [Y (au now ns ps),Y t,some (.own []),Y .non]:=by
  rw[eY];simp[bC,oU,nP]
 have h3:aP [Y (au now ns ps),Y t,none,none]=.ok (.ret (.lst [])):=by
  unfold aP
  refine lF (σ1:=[Y (au now ns ps),Y t,some (.own []),none]) rfl ?_
  refine lF (σ1:=[Y (au now ns ps),Y t,some (.own []),Y .non]) (by simp[h1,z6 R]) ?_
  exact lF h2 (vZ rfl)
 exact congrArg fin h3
theorem xl(R:Rw ns ps):a7 [au now ns ps]=.ok (.lst [.tup [now,.non,.lst [],.lst [],.lst []]]):=by
 unfold a7;rw[iQ]
 have h0:ib "stretches_ahead_of" "Floor" aq (ae 0) (aa (eC .non) ag) [Y (au now ns ps),none]=.ok (.lst []):=nU (show ae 0 _=.ok (au now ns ps) from rfl) (by decide +kernel) rfl (tQ R .non)
 have h1:aD "standing" [("Floor",ai)] (ae 0) ag [Y (au now ns ps),some (.own [])]=.ok (.lst ps):=bD fj rfl rfl (gf R)
 have s1:=pY (j:=1) h0
 have h3:cC [Y (au now ns ps),none]=.ok (.ret (.lst [.tup [now,.non,.lst [],.lst [],.lst []]])):=by
  unfold cC
  refine bq _ _ s1 ?_
  refine bq _ _ (σ1:=[Y (au now ns ps),some (.own [.tup [now,.non,.lst [],.lst [],.lst []]])]) ?_ ?_
  ·exact rl (i:=1) (xs:=[]) (p:=.tup [now,.non,.lst [],.lst [],.lst []]) rfl (by decide) (by
    show eA bB _ [Y (au now ns ps),some (.own [])]=_
    simp[jD,h1,tN R]
    rfl)
  ·rfl
 exact congrArg fin h3
end
abbrev aE(n:Str)(C:List PV)(x y w v0 v1:Int):PV:=.tup [.str n,.lst C,P3 x y w,P2 v0 v1]
theorem iA{n:Str}{C:List PV}{x y w v0 v1:Int}(h:cy C=true):ez (aE n C x y w v0 v1)=true:=by
 show(true&&(cy C&&(true&&(true&&true))))=true
 rw[h];rfl
inductive Mvd (far:PV):List Str→List PV→List PV→Prop where
 |no:Mvd far [] [] []
 |one (n:Str) (C:List PV) (x y w x' y' w' v0 v1:Int):cy C=true→e7 [P3 x y w,P2 v0 v1,far]=.ok (P3 x' y' w')→Mvd far [n] [aE n C x y w v0 v1] [aE n C x' y' w' v0 v1]
section
variable {now far:PV}{ns:List Str}{ps ps':List PV}{z:Ad}
theorem Mvd.a(m:Mvd far ns ps ps'):Rw ns ps:=by
 cases m with
 |no=>exact .no
 |one n C x y w x' y' w' v0 v1 h _=>exact .one _ _ (iA h)
theorem Mvd.b(m:Mvd far ns ps ps'):Rw ns ps':=by
 cases m with
 |no=>exact .no
 |one n C x y w x' y' w' v0 v1 h _=>exact .one _ _ (iA h)
theorem fC{i:Nat}{σ:PSt}{ad:Option Ad}(R:Rw ns ps)(h1:σ[i]? = some (some (.flo ad now ns ps)))(h2:ba (σ.set i none)=true)(h3:ae i (σ.set i (Y (au now ns ps)))=.ok (au now ns ps)):
  bJ i (aD "standing" [("Floor",ai)] (ae i) ag) σ=.ok (.lst ps):=dw h1 h2 (bD fj h3 rfl (gf R)) R.plain
theorem CQ{n0 n1 f0 f1 T0 T1:Int}(S:Stp n0 n1 f0 f1 T0 T1)(m:Mvd (P2 f0 f1) ns ps ps'):bR z ⟨P2 n0 n1,ns,ps⟩ [P2 f0 f1]=.ok (.non,⟨P2 T0 T1,ns,ps'⟩):=by
 have key:∃z2,ba [z2]=true∧gK (itE (bJ 0 (aD "standing" [("Floor",ai)] (ae 0) ag))) (gN 2) bE [some (.flo (some z) (P2 n0 n1) ns ps),Y (P2 f0 f1),none]=YN [some (.flo (some z) (P2 n0 n1) ns ps'),Y (P2 f0 f1),z2]:=by
  have h1:bJ 0 (aD "standing" [("Floor",ai)] (ae 0) ag) [some (.flo (some z) (P2 n0 n1) ns ps),Y (P2 f0 f1),none]=.ok (.lst ps):=fC m.a rfl rfl rfl
  cases m with
  |no=>exact⟨none,rfl,by simp[h1,fT]⟩
  |one n C x y w x' y' w' v0 v1 h hg=>
   refine⟨Y (aE n C x y w v0 v1),rfl,?_⟩
   have h2:dQ (gN 2) bE [aE n C x y w v0 v1] [some (.flo (some z) (P2 n0 n1) [n] [aE n C x y w v0 v1]),Y (P2 f0 f1),none]=YN [some (.flo (some z) (P2 n0 n1) [n] [aE n C x' y' w' v0 v1]),Y (P2 f0 f1),Y (aE n C x y w v0 v1)]:=by
    rw[dP (σ1:=[some (.flo (some z) (P2 n0 n1) [n] [aE n C x y w v0 v1]),Y (P2 f0 f1),Y (aE n C x y w v0 v1)]) rfl]
    have e1:fg [aE n C x y w v0 v1,P2 f0 f1]=.ok (aE n C x' y' w' v0 v1):=by
     unfold fg;rw[gL]
     simp[gx,hg]
     rfl
    have e2:bE [some (.flo (some z) (P2 n0 n1) [n] [aE n C x y w v0 v1]),Y (P2 f0 f1),Y (aE n C x y w v0 v1)]=YN [some (.flo (some z) (P2 n0 n1) [n] [aE n C x' y' w' v0 v1]),Y (P2 f0 f1),Y (aE n C x y w v0 v1)]:=by
     rw[bE]
     unfold oC
     simp[e1,v9,jS,ba]
    rw[e2]
    rfl
   simp only[lI,tX,h1,aU]
   exact h2
 obtain⟨z2,hz,h1⟩:=key
 have h2:bJ 0 (eA (fun ps=>noErr (j4 ps)) (aa (e1 (du "Floor" "now") (ae 0)) (aa (ae 1) ag))) [some (.flo (some z) (P2 n0 n1) ns ps'),Y (P2 f0 f1),z2]=.ok (P2 T0 T1):=
  dw (p:=P2 T0 T1) rfl hz (by
   show eA _ _ [Y (au (P2 n0 n1) ns ps'),Y (P2 f0 f1),z2]=_
   simp[jD,S.plus]) rfl
 refine iy rfl (rest:=[Y (P2 f0 f1),z2]) ?_
 refine cx h1 (kJ ?_)
 unfold zg
 rw[h2]
 exact if_pos hz
theorem CP(p:PV):fY [p,.lst []]=.ok (.bl false):=by
 unfold fY;rw[gL]
 have e:df (itE (ae 1)) (gN 0) ki 1 [] [Y p,YL []]=.ok (.lst []):=d9 (xs:=([]:List Str)) (u:=PV.str) (v:=PV.str) (by simp[fT]) (fun q hq=>by simp at hq) (by decide)
 simp[iI,e,AN]
theorem uZ{n0 n1 f0 f1 T0 T1:Int}(S:Stp n0 n1 f0 f1 T0 T1)(m:Mvd (P2 f0 f1) ns ps ps'):bL z ⟨P2 n0 n1,ns,ps⟩ [P2 f0 f1,.lst []]=.ok (.tup [P2 n0 n1,P2 T0 T1,.lst [],.lst [],.lst []],⟨P2 T0 T1,ns,ps'⟩):=by
 have h1:bJ 0 (e1 (du "Floor" "now") (ae 0)) [some (.flo (some z) (P2 n0 n1) ns ps),Y (P2 f0 f1),YL [],none,none,none,none]=.ok (P2 n0 n1):=
  dw (p:=P2 n0 n1) rfl rfl (by
   show e1 _ _ [Y (au (P2 n0 n1) ns ps),Y (P2 f0 f1),YL [],none,none,none,none]=_
   simp[jD]) rfl
 have h2:bJ 0 (eA (fun ps=>noErr (cD ps)) (aa (aD "standing" [("Floor",ai)] (ae 0) ag) (aa (ae 1) ag))) [some (.flo (some z) (P2 n0 n1) ns ps),Y (P2 f0 f1),YL [],Y (P2 n0 n1),none,none,none]=.ok (.lst []):=
  dw (p:=.lst []) rfl rfl (by
   have e:aD "standing" [("Floor",ai)] (ae 0) ag [Y (au (P2 n0 n1) ns ps),Y (P2 f0 f1),YL [],Y (P2 n0 n1),none,none,none]=.ok (.lst ps):=bD fj rfl rfl (gf m.a)
   show eA _ _ [Y (au (P2 n0 n1) ns ps),Y (P2 f0 f1),YL [],Y (P2 n0 n1),none,none,none]=_
   simp[e,tN m.a]) rfl
 have h3:bG 0 bR (aa (ae 1) ag) [some (.flo (some z) (P2 n0 n1) ns ps),Y (P2 f0 f1),YL [],Y (P2 n0 n1),YL [],none,none]=.ok (.non,[some (.flo (some z) (P2 T0 T1) ns ps'),Y (P2 f0 f1),YL [],Y (P2 n0 n1),YL [],none,none]):=
  dR (p:=.non) (o':=⟨P2 T0 T1,ns,ps'⟩) rfl rfl rfl (fun z=>CQ S m)
 have h4:lJ 5 (itE (bJ 0 (aD "standing" [("Floor",ai)] (ae 0) ag))) (gN 0) aG aZ 1 [2] [some (.flo (some z) (P2 T0 T1) ns ps'),Y (P2 f0 f1),YL [],Y (P2 n0 n1),YL [],none,none]=YN [some (.flo (some z) (P2 T0 T1) ns ps'),Y (P2 f0 f1),YL [],Y (P2 n0 n1),YL [],YL [],none]:=by
  have e0:bJ 0 (aD "standing" [("Floor",ai)] (ae 0) ag) [some (.flo (some z) (P2 T0 T1) ns ps'),Y (P2 f0 f1),YL [],Y (P2 n0 n1),YL [],none,none]=.ok (.lst ps'):=fC m.b rfl rfl rfl
  have e1:d7 (gF (gN 0) aG aZ [none,YL []]) ps'=.ok []:=by
   cases m with
   |no=>rfl
   |one n C x y w x' y' w' v0 v1 h hg=>
    have g:∃b,ir [aE n C x' y' w' v0 v1]=.ok (.bl b):=by
     unfold ir;rw[iQ]
     exact⟨_,by simp[jF];rfl⟩
    obtain⟨b,g⟩:=g
    have e2:aG [Y (aE n C x' y' w' v0 v1),YL []]=.ok false:=by
     rw[aG]
     cases b<;>simp[g,CP]
    have e3:gF (gN 0) aG aZ [none,YL []] (aE n C x' y' w' v0 v1)=.ok none:=by
     show(match aG [Y (aE n C x' y' w' v0 v1),YL []] with
      |.ok true=>match noErr (aZ [Y (aE n C x' y' w' v0 v1),YL []]) with
       |.ok q=>Res.ok (some q)
       |_=>.stuck
      |.ok false=>.ok none
      |_=>.stuck)=_
     rw[e2]
    unfold d7
    rw[e3]
    rfl
  have hl:ps'.length≤10000000:=by
   cases m.b with
   |no=>decide
   |one n p _=>show(1:Nat)≤10000000;decide
  unfold lJ uo
  rw[tX,e0]
  show Res.bind (match d7 (gF (gN 0) aG aZ [none,YL []]) ps' with
   |.ok qs=>if ps'.length≤10000000 then .ok qs else .stuck
   |_=>.stuck) _=_
  rw[e1]
  show Res.bind (if ps'.length≤10000000 then .ok [] else .stuck) _=_
  rw[if_pos hl]
  rfl
 have h5:bJ 0 (eA bB (aa (ae 3) (aa (e1 (du "Floor" "now") (ae 0)) (aa (ae 4) (aa (ae 2) (aa (df (itE (ae 5)) (gN 0) cB 1 []) ag)))))) [some (.flo (some z) (P2 T0 T1) ns ps'),Y (P2 f0 f1),YL [],Y (P2 n0 n1),YL [],YL [],none]=.ok (.tup [P2 n0 n1,P2 T0 T1,.lst [],.lst [],.lst []]):=
  dw (p:=.tup [P2 n0 n1,P2 T0 T1,.lst [],.lst [],.lst []]) rfl rfl (by
   have e:df (itE (ae 5)) (gN 0) cB 1 [] [Y (au (P2 T0 T1) ns ps'),Y (P2 f0 f1),YL [],Y (P2 n0 n1),YL [],YL [],none]=.ok (.lst []):=d9 (xs:=([]:List Str)) (u:=PV.str) (v:=PV.str) (by simp[fT]) (fun q hq=>by simp at hq) (by decide)
   show eA _ _ [Y (au (P2 T0 T1) ns ps'),Y (P2 f0 f1),YL [],Y (P2 n0 n1),YL [],YL [],none]=_
   simp[jD,e]
   rfl) rfl
 refine iy rfl (rest:=[Y (P2 f0 f1),YL [],Y (P2 n0 n1),YL [],YL [],none]) ?_
 refine cx (σ1:=[some (.flo (some z) (P2 n0 n1) ns ps),Y (P2 f0 f1),YL [],Y (P2 n0 n1),none,none,none]) (by show aO 3 _ [some (.flo (some z) (P2 n0 n1) ns ps),Y (P2 f0 f1),YL [],none,none,none,none]=_;rw[jN,h1];rfl) ?_
 refine cx (σ1:=[some (.flo (some z) (P2 n0 n1) ns ps),Y (P2 f0 f1),YL [],Y (P2 n0 n1),YL [],none,none]) (by rw[jN,h2];rfl) ?_
 refine cx (fL h3) (cx h4 ?_)
 refine cx (σ1:=[some (.flo (some z) (P2 T0 T1) ns ps'),Y (P2 f0 f1),YL [],Y (P2 n0 n1),YL [],YL [],none]) (by simp[fT]) ?_
 exact sV h5
theorem E1{n0 n1 f0 f1 T0 T1:Int}(S:Stp n0 n1 f0 f1 T0 T1)(m:Mvd (P2 f0 f1) ns ps ps'):bW z ⟨P2 n0 n1,ns,ps⟩ [P2 T0 T1]=.ok (.lst [.tup [P2 n0 n1,P2 T0 T1,.lst [],.lst [],.lst []]],⟨P2 T0 T1,ns,ps'⟩):=by
 have h1:c7 0 (tV (eA (fun ps=>noErr (cJ ps)) (aa (ae 1) (aa (e1 (du "Floor" "now") (ae 0)) ag)))) [some (.flo (some z) (P2 n0 n1) ns ps),Y (P2 T0 T1),none]=.ok false:=
  fJ rfl rfl (by
   show tV _ [Y (au (P2 n0 n1) ns ps),Y (P2 T0 T1),none]=_
   simp[jD,S.under])
 have h2:nK 0 (ib "stretches_ahead_of" "Floor" aq (ae 0) (aa (ae 1) ag)) [some (.flo (some z) (P2 n0 n1) ns ps),Y (P2 T0 T1),none]=.ok (.lst []):=
  xc rfl rfl (nU (show ae 0 _=.ok (au (P2 n0 n1) ns ps) from rfl) (by decide +kernel) rfl (tQ m.a _))
 have h3:bJ 0 (eA (fun ps=>noErr (gE ps)) (aa (ae 1) (aa (e1 (du "Floor" "now") (ae 0)) ag))) [some (.flo (some z) (P2 n0 n1) ns ps),Y (P2 T0 T1),some (.own [])]=.ok (P2 f0 f1):=
  dw (p:=P2 f0 f1) rfl rfl (by
   show eA _ _ [Y (au (P2 n0 n1) ns ps),Y (P2 T0 T1),some (.own [])]=_
   simp[jD,S.minus]) rfl
 have h4:bG 0 bL (aa (bJ 0 (eA (fun ps=>noErr (gE ps)) (aa (ae 1) (aa (e1 (du "Floor" "now") (ae 0)) ag)))) (aa (eA cb ag) ag)) [some (.flo (some z) (P2 n0 n1) ns ps),Y (P2 T0 T1),some (.own [])]=.ok (.tup [P2 n0 n1,P2 T0 T1,.lst [],.lst [],.lst []],[some (.flo (some z) (P2 T0 T1) ns ps'),Y (P2 T0 T1),some (.own [])]):=
  dR (p:=.tup [P2 n0 n1,P2 T0 T1,.lst [],.lst [],.lst []]) (o':=⟨P2 T0 T1,ns,ps'⟩) (qs:=[P2 f0 f1,.lst []]) (by simp[h3]) rfl rfl (fun z=>uZ S m)
 refine iy rfl (rest:=[Y (P2 T0 T1),YL [.tup [P2 n0 n1,P2 T0 T1,.lst [],.lst [],.lst []]]]) ?_
 refine cx (σ1:=[some (.flo (some z) (P2 n0 n1) ns ps),Y (P2 T0 T1),none]) (by show sIf _ _ _ [some (.flo (some z) (P2 n0 n1) ns ps),Y (P2 T0 T1),none]=_;simp[h1]) ?_
 refine cx (pY h2) ?_
 refine cx (σ1:=[some (.flo (some z) (P2 T0 T1) ns ps'),Y (P2 T0 T1),some (.own [.tup [P2 n0 n1,P2 T0 T1,.lst [],.lst [],.lst []]])]) ?_ rfl
 show pZ 2 _ [some (.flo (some z) (P2 n0 n1) ns ps),Y (P2 T0 T1),some (.own [])]=_
 unfold pZ
 rw[h4]
 rfl
theorem js{n:Str}{p:PV}:av [au now [n] [p],.str n]=.ok p:=by
 unfold av;rw[gL]
 simp[dB,i9,d6,pQ,w6,lO,aam]
theorem zW{n:Str}{C:List PV}{x y w v0 v1 u0 u1:Int}(hC:cy C=true):cV z ⟨now,[n],[aE n C x y w v0 v1]⟩ [.str n,P2 u0 u1]=.ok (.non,⟨now,[n],[aE n C x y w u0 u1]⟩):=by
 have h0:cI [aE n C x y w v0 v1,P2 u0 u1]=.ok (aE n C x y w u0 u1):=by
  unfold cI;rw[gL]
  simp[eS]
  rfl
 have h1:bJ 0 (eA (fun ps=>noErr (cI ps)) (aa (aD "row_of" [("Floor",av)] (ae 0) (aa (ae 1) ag)) (aa (ae 2) ag))) [some (.flo (some z) now [n] [aE n C x y w v0 v1]),Y (.str n),Y (P2 u0 u1)]=.ok (aE n C x y w u0 u1):=
  dw (p:=aE n C x y w u0 u1) rfl rfl (by
   have e:aD "row_of" [("Floor",av)] (ae 0) (aa (ae 1) ag) [Y (au now [n] [aE n C x y w v0 v1]),Y (.str n),Y (P2 u0 u1)]=.ok (aE n C x y w v0 v1):=bD iC rfl rfl js
   show eA _ _ [Y (au now [n] [aE n C x y w v0 v1]),Y (.str n),Y (P2 u0 u1)]=_
   simp[e,h0]) (iA hC)
 refine iy rfl (rest:=[Y (.str n),Y (P2 u0 u1)]) (kJ ?_)
 show oC 0 _ _ [some (.flo (some z) now [n] [aE n C x y w v0 v1]),Y (.str n),Y (P2 u0 u1)]=_
 unfold oC
 rw[h1]
 simp[v9,jS,ba]
theorem CO{n:Str}{p:PV}(hp:ez p=true):dF z ⟨now,[n],[p]⟩ [.str n]=.ok (.non,⟨now,[],[]⟩):=by
 have h1:bJ 0 (aD "row_of" [("Floor",av)] (ae 0) (aa (ae 1) ag)) [some (.flo (some z) now [n] [p]),Y (.str n)]=.ok p:=dw rfl rfl (bD iC rfl rfl js) hp
 refine iy rfl (rest:=[Y (.str n)]) (cx (fL (sV h1)) (kJ ?_))
 show iw 0 _ [some (.flo (some z) now [n] [p]),Y (.str n)]=_
 unfold iw
 simp[Cf,ba]
end
open TX
theorem vT{c:Nat}(h:97≤c∧c≤122):rO (.str (T [97])) (.str (T [c]))=.ok (.bl true)∧rO (.str (T [c])) (.str (T [122]))=.ok (.bl true):=by
 have h1:¬([c]:List Nat)<[97]:=by
  rw[List.cons_lt_cons_iff];simp;omega
 have h2:¬([122]:List Nat)<[c]:=by
  rw[List.cons_lt_cons_iff];simp;omega
 unfold rO
 refine⟨?_,?_⟩
 ·show Res.ok (PV.bl (!decide (([c]:List Nat)<[97])))=_
  rw[decide_eq_false h1];rfl
 ·show Res.ok (PV.bl (!decide (([122]:List Nat)<[c])))=_
  rw[decide_eq_false h2];rfl
theorem u3{cs:List Nat}(h:∀c∈cs,97≤c∧c≤122)(h1:1≤cs.length)(h2:cs.length≤12):e6 [.str (T cs)]=.ok (.bl true):=by
 unfold e6;rw[iQ]
 have ka:PySem.Str.ofString "a" = T [97]:=by rw[iq];rfl
 have kz:PySem.Str.ofString "z" = T [122]:=by rw[iq];rfl
 have e:df (itS (ae 0)) (gN 0) fo 1 [] [Y (.str (T cs))]=.ok (.lst (cs.map fun _=>PV.bl true)):=
  d9 (xs:=cs) (u:=fun c=>PV.str (T [c])) (v:=fun _=>PV.bl true) rfl (fun c hc=>by
   obtain⟨l1,l2⟩:=vT (h c hc)
   rw[vO]
   show noErr (fo [Y (.str (T [c]))])=_
   rw[fo,ka,kz]
   unfold eCh
   simp[l1,l2]) (by omega)
 have e2:yE [.lst (cs.map fun _=>PV.bl true)]=.ok (.bl true):=by
  have:=DH (bs:=cs.map fun _=>true)
  rw[List.map_map]at this
  rw[show(fun _:Nat=>PV.bl true)=PV.bl∘(fun _=>true) from rfl,this]
  simp
 have e3:og [.str (T cs)]=.ok (.int cs.length):=by
  have:cs.length≤10000000:=by omega
  unfold og
  simp only[Fm,this,if_true]
 have g1:(1:Int)≤cs.length:=by omega
 have g2:(cs.length:Int)≤12:=by omega
 have e4:eCh (eQ fun i j=>decide (i≤j)) (eQ fun i j=>decide (i≤j)) (eC (.int 1)) (eA og (aa (ae 0) ag)) (eC (.int 12)) [Y (.str (T cs))]=.ok (.bl true):=by
  unfold eCh
  simp[e3,g1,g2]
 simp[iH,e,e2,e4,d6]
section
variable {ns:List Str}{ps:List PV}
theorem E0 {n0 n1 a b:Int} (h:cJ [P2 a b,P2 n0 n1]=.ok (.bl true)):dj [au (P2 n0 n1) ns ps,P2 a b]=.err "Past":=by
 unfold dj;rw[re2]
 simp[fu,jD,h]
theorem xp{n0 n1 a b:Int}(h:cJ [P2 a b,P2 n0 n1]=.ok (.bl true)):b6 [au (P2 n0 n1) ns ps,P2 a b]=.ok (.bl true):=by
 unfold b6;rw[gL]
 have e:lC 0 "go" "Floor" dj (aa (ae 1) ag) ["Past"] 3 (aO 2 (ae 3)) [Y (au (P2 n0 n1) ns ps),Y (P2 a b),Y .non,none]=YN [Y (au (P2 n0 n1) ns ps),Y (P2 a b),Y (.exc "Past"),none]:=
  uH (c':="Past") (qs:=[P2 a b]) (σ':=[Y (au (P2 n0 n1) ns ps),Y (P2 a b),Y (.exc "Past"),Y (.exc "Past")]) (c:="Floor") rfl (by decide +kernel) rfl (E0 h) (by decide +kernel) rfl
 have t1:dt [("Past",true)] (.exc "Past")=.ok (.bl true):=by
  show(match aa0 (PySem.Str.ofString "Past") [("Past",true)] with
   |some b=>Res.ok (PV.bl b)
   |none=>.stuck)=_
  rw[jv]
 have t2:dt [("Past",false)] (.exc "Past")=.ok (.bl false):=by
  show(match aa0 (PySem.Str.ofString "Past") [("Past",false)] with
   |some b=>Res.ok (PV.bl b)
   |none=>.stuck)=_
  rw[jv]
 simp[fq,e,t1,t2]
end
theorem zX{n:Str}{C:List PV}{n0 n1 x y w v0 v1:Int}:aQ [au (P2 n0 n1) [n] [aE n C x y w v0 v1],.str n,P2 n0 n1,P3 x y w,P2 v0 v1]=.ok (.bl true):=by
 generalize hr:aE n C x y w v0 v1=row
 have c0:aM [au (P2 n0 n1) [n] [row]]=.ok (P2 n0 n1):=by unfold aM;rw[iQ];simp[cT,jD]
 have c1:aR [au (P2 n0 n1) [n] [row]]=.ok (.lst [.str n]):=by unfold aR;rw[iQ];simp[cS,i9,fF]
 have m0:∀σ,aD "row_of" [("Floor",av)] (ae 0) (aa (ae 1) ag) (Y (au (P2 n0 n1) [n] [row])::Y (.str n)::σ)=.ok row:=fun σ=>bD iC rfl rfl js
 have c2:bV [au (P2 n0 n1) [n] [row],.str n]=.ok (P3 x y w):=by unfold bV;rw[gL];simp[d3,m0];rw[←hr];rfl
 have c3:bU [au (P2 n0 n1) [n] [row],.str n]=.ok (P2 v0 v1):=by unfold bU;rw[gL];simp[d0,m0];rw[←hr];rfl
 have k0:∀σ,aD "clock" [("Floor",aM)] (ae 0) ag (Y (au (P2 n0 n1) [n] [row])::Y (.str n)::σ)=.ok (P2 n0 n1):=fun σ=>bD (by decide +kernel) rfl rfl c0
 have k1:∀σ,aD "names" [("Floor",aR)] (ae 0) ag (Y (au (P2 n0 n1) [n] [row])::Y (.str n)::σ)=.ok (.lst [.str n]):=fun σ=>bD (by decide +kernel) rfl rfl c1
 have k2:∀σ,aD "shift" [("Floor",bV)] (ae 0) (aa (ae 1) ag) (Y (au (P2 n0 n1) [n] [row])::Y (.str n)::σ)=.ok (P3 x y w):=fun σ=>bD (by decide +kernel) rfl rfl c2
 have k3:∀σ,aD "speed" [("Floor",bU)] (ae 0) (aa (ae 1) ag) (Y (au (P2 n0 n1) [n] [row])::Y (.str n)::σ)=.ok (P2 v0 v1):=fun σ=>bD (by decide +kernel) rfl rfl c3
 have q0:pNe (P2 n0 n1) (P2 n0 n1)=.ok (.bl false):=by simp[pNe,d8,peq,dq]
 have q1:pNe (.lst [.str n]) (.lst [.str n])=.ok (.bl false):=by simp[pNe,d8,peq,dq]
 have q2:pNe (P3 x y w) (P3 x y w)=.ok (.bl false):=by simp[pNe,d8,peq,dq]
 have q3:pNe (P2 v0 v1) (P2 v0 v1)=.ok (.bl false):=by simp[pNe,d8,peq,dq]
 have a1:nI (P2 n0 n1) (P3 x y w)=.ok (.tup [.int n0,.int n1,.int x,.int y,.int w]):=rfl
 have a2:nI (.tup [.int n0,.int n1,.int x,.int y,.int w]) (P2 v0 v1)=.ok (.tup [.int n0,.int n1,.int x,.int y,.int w,.int v0,.int v1]):=rfl
 unfold aQ;rw[Gk]
 have fr:∀(l:List Int)(z:Option SV),∃z',dQ (gN 5) bP (l.map PV.int) [Y (au (P2 n0 n1) [n] [row]),Y (.str n),Y (P2 n0 n1),Y (P3 x y w),Y (P2 v0 v1),z]=YN [Y (au (P2 n0 n1) [n] [row]),Y (.str n),Y (P2 n0 n1),Y (P3 x y w),Y (P2 v0 v1),z']:=by
  intro l
  induction l with
  |nil=>intro z;exact⟨z,rfl⟩
  |cons i l ih=>
   intro z
   obtain⟨z',h⟩:=ih (YI i)
   refine⟨z',?_⟩
   rw[aau,dP (σ1:=[Y (au (P2 n0 n1) [n] [row]),Y (.str n),Y (P2 n0 n1),Y (P3 x y w),Y (P2 v0 v1),YI i]) rfl]
   simp[gD,zU,h]
 obtain⟨z',hf⟩:=fr [n0,n1,x,y,w,v0,v1] none
 have hf':dQ (gN 5) bP [.int n0,.int n1,.int x,.int y,.int w,.int v0,.int v1] [Y (au (P2 n0 n1) [n] [row]),Y (.str n),Y (P2 n0 n1),Y (P3 x y w),Y (P2 v0 v1),none]=_:=hf
 simp[cm,k0,k1,k2,k3,q0,q1,q2,q3,a1,a2,fT,hf']
theorem EY{cs:List Nat}{C C':List PV}{x y v0 v1:Int}{now:PV}{z:Ad}(hn:e6 [.str (T cs)]=.ok (.bl true))(hh:fh [.lst C]=.ok (.lst C')):
  er z ⟨now,[],[]⟩ [.str (T cs),.lst C,P2 x y,P2 v0 v1]=.ok (.non,⟨now,[T cs],[aE (T cs) C' x y 1 v0 v1]⟩):=by
 have h1:c7 0 (pQ false (ae 1) (e1 (du "Floor" "rows") (ae 0))) [some (.flo (some z) now [] []),Y (.str (T cs)),YL C,Y (P2 x y),Y (P2 v0 v1),none,none]=.ok false:=
  fJ rfl rfl (by
   show pQ false _ _ [Y (au now [] []),Y (.str (T cs)),YL C,Y (P2 x y),Y (P2 v0 v1),none,none]=_
   unfold pQ
   simp[i9,w6])
 have h2:bJ 0 (aD "standing" [("Floor",ai)] (ae 0) ag) [some (.flo (some z) now [] []),Y (.str (T cs)),YL C,Y (P2 x y),Y (P2 v0 v1),Y (aE (T cs) C' x y 1 v0 v1),none]=.ok (.lst []):=fC .no rfl rfl rfl
 refine iy rfl (rest:=[Y (.str (T cs)),YL C,Y (P2 x y),Y (P2 v0 v1),Y (aE (T cs) C' x y 1 v0 v1),none]) ?_
 refine cx (σ1:=[some (.flo (some z) now [] []),Y (.str (T cs)),YL C,Y (P2 x y),Y (P2 v0 v1),none,none]) (by
  show sIf _ _ _ [some (.flo (some z) now [] []),Y (.str (T cs)),YL C,Y (P2 x y),Y (P2 v0 v1),none,none]=_
  simp[hn]) ?_
 refine cx (σ1:=[some (.flo (some z) now [] []),Y (.str (T cs)),YL C,Y (P2 x y),Y (P2 v0 v1),none,none]) (by simp[h1]) ?_
 refine cx (σ1:=[some (.flo (some z) now [] []),Y (.str (T cs)),YL C,Y (P2 x y),Y (P2 v0 v1),Y (aE (T cs) C' x y 1 v0 v1),none]) (by
  simp[hh]
  rfl) ?_
 refine cx (σ1:=[some (.flo (some z) now [] []),Y (.str (T cs)),YL C,Y (P2 x y),Y (P2 v0 v1),Y (aE (T cs) C' x y 1 v0 v1),none]) (by simp only[lI,tX,h2,aU];rfl) ?_
 refine kJ ?_
 unfold oC
 simp[v9,jS,ba]
theorem vP{g:PV→PV→Res PV}{da:DW}{db:DE}{σ σ1:PSt}{p q:PV}{b:Bool}(h1:da σ=.ok (p,σ1))(h2:db σ1=.ok q)(h3:g p q=.ok (.bl b)):tcW g da db σ=.ok (b,σ1):=by
 unfold tcW
 rw[h1]
 simp only[h2,aU,h3]
 rfl
theorem v5{t:PSt→Res (Bool×PSt)}{d1 d2:DS}{σ σ1:PSt}{r:Res Fl}(h:t σ=.ok (false,σ1))(h2:d2 σ1=r):oH t d1 d2 σ=r:=by
 unfold oH
 rw[h]
 exact h2
abbrev LS(ns:List Int)(C:List PV)(A:PV)(v0 v1:Int)(nm:Str)(n0 n1:Int)(nms:List Str)(rs:List PV)(x y w:Int)(z8 z9 z10 z11 z12:Option SV):PSt:=
 [Y (.scr ns),YL C,Y A,Y (P2 v0 v1),Y (.str nm),some (.flo none (P2 n0 n1) nms rs),Y (P2 n0 n1),Y (P3 x y w),z8,z9,z10,z11,z12]
abbrev j5(n0 n1 T0 T1:Int):PV:=.lst [.tup [P2 n0 n1,P2 T0 T1,.lst [],.lst [],.lst []]]
theorem tK{n0 n1 T0 T1:Int}:pNe (j5 n0 n1 T0 T1) (j5 n0 n1 T0 T1)=.ok (.bl false):=by simp[pNe,d8,peq,dq]
section
variable {ns:List Int}{C:List PV}{A:PV}{nm:Str}
theorem vN{v0 v1 n0 n1 x y w:Int}{z8 z9 z10 z11 z12:Option SV}(hz:ba [z8,z9,z10,z11,z12]=true):
  sIf (c7 5 (G.dm (tV (eA (fun ps=>noErr (aQ ps)) (aa (ae 5) (aa (ae 4) (aa (ae 6) (aa (ae 7) (aa (ae 3) ag))))))))) (aY (eC (.bl false))) bo (LS ns C A v0 v1 nm n0 n1 [nm] [aE nm C x y w v0 v1] x y w z8 z9 z10 z11 z12)=YN (LS ns C A v0 v1 nm n0 n1 [nm] [aE nm C x y w v0 v1] x y w z8 z9 z10 z11 z12):=by
 have h:c7 5 (G.dm (tV (eA (fun ps=>noErr (aQ ps)) (aa (ae 5) (aa (ae 4) (aa (ae 6) (aa (ae 7) (aa (ae 3) ag)))))))) (LS ns C A v0 v1 nm n0 n1 [nm] [aE nm C x y w v0 v1] x y w z8 z9 z10 z11 z12)=.ok false:=
  fJ rfl hz (by
   show G.dm _ [Y (.scr ns),YL C,Y A,Y (P2 v0 v1),Y (.str nm),Y (au (P2 n0 n1) [nm] [aE nm C x y w v0 v1]),Y (P2 n0 n1),Y (P3 x y w),z8,z9,z10,z11,z12]=_
   have:=zX (n:=nm) (C:=C) (n0:=n0) (n1:=n1) (x:=x) (y:=y) (w:=w) (v0:=v0) (v1:=v1)
   simp[this])
 simp[h]
structure Tn (B:Nat) (n0 n1 x y w v0 v1:Int):Prop where
 n:Ti B n0 n1
 s:Sp B x y w
 v0:intBits v0≤40
 v1:intBits v1≤40
theorem yV(hC:cy C=true){B:Nat}(hB:B≤1900){v0 v1 n0 n1 x y w c d k:Int}(t:Tn B n0 n1 x y w v0 v1){z11 z12:Option SV}:
  ∃T0 T1 x' y' w' z11' z12',ba [z11',z12']=true∧Tn (B+50) T0 T1 x' y' w' v0 v1 ∧
  (az (aO 11 (eA (fun ps=>noErr (aV ps)) (aa (e2 bc (e2 bA (e2 a9 (ae 9) (eC (.int 5))) (eC (.int 30))) (e2 bA (ae 10) (eC (.int 4)))) (aa (e2 dG (eC (.int 1)) (e2 bA (e2 a9 (ae 10) (eC (.int 4))) (eC (.int 6)))) ag))))
  (az (aO 12 (eA (fun ps=>noErr (aV ps)) (aa (e2 dG (e2 bc (aw 6 (eC (.int 0))) (aw 11 (eC (.int 1)))) (e2 bc (aw 11 (eC (.int 0))) (aw 6 (eC (.int 1))))) (aa (e2 bc (aw 6 (eC (.int 1))) (aw 11 (eC (.int 1)))) ag))))
  (az (oH (tcW pNe (bG 5 bW (aa (ae 12) ag)) (eA cb (aa (eA bB (aa (ae 6) (aa (ae 12) (aa (eA cb ag) (aa (eA cb ag) (aa (eA cb ag) ag)))))) ag))) (aY (eC (.bl false))) bo)
  (az (aO 6 (ae 12))
  (aO 7 (eA (fun ps=>noErr (di ps)) (aa (ae 7) (aa (ae 3) (aa (ae 11) ag)))))))))
   (LS ns C A v0 v1 nm n0 n1 [nm] [aE nm C x y w v0 v1] x y w (YI k) (YI c) (YI d) z11 z12) =
   YN (LS ns C A v0 v1 nm T0 T1 [nm] [aE nm C x' y' w' v0 v1] x' y' w' (YI k) (YI c) (YI d) z11' z12'):=by
 have b1:intBits (c / 5 % 30)≤5:=a5 (by omega)
 have b2:intBits (d % 4)≤2:=a5 (by omega)
 have b3:intBits (1+d / 4 % 6)≤3:=a5 (by omega)
 obtain⟨f0,f1,hf,lf⟩:=jt (t:=c / 5 % 30*(d % 4)) (b:=1+d / 4 % 6) (by omega) (iS b3 (by decide))
 have f7:intBits f0≤7:=lf.qb _ (bits_mul b1 b2)
 have f3:intBits f1≤3:=lf.rb _ b3
 have TF:Ti 7 f0 f1:=Ti.of lf (aaq (by omega) (by omega)) (by omega) (bits_mul b1 b2) (iS b3 (by decide))
 have n1p:=t.n.pos
 have f1p:=lf.pos
 have hp:0<n1*f1:=aaK n1p f1p
 have bb:=bits_mul t.n.bb f3
 have bt:=bits_add (bits_mul t.n.ab f3) (bits_mul f7 t.n.bb)
 have tn:0≤n0*f1+f0*n1:=Int.add_nonneg (aaq t.n.nn (aaG f1p)) (aaq TF.nn (aaG n1p))
 obtain⟨T0,T1,hT,lT⟩:=jt (t:=n0*f1+f0*n1) (b:=n1*f1) hp (iS bb (by omega))
 have TT:Ti (B+50) T0 T1:=Ti.of lT tn hp (iS bt (by omega)) (iS bb (by omega))
 obtain⟨x',y',w',g1,g2,S'⟩:=zZ (t0:=f0) (t1:=f1) hB t.s t.v0 t.v1 f7 f3 f1p
 have S:Stp n0 n1 f0 f1 T0 T1:=⟨t.n.up (by omega),TF.up (by decide),TT.up (by omega),lT.eq⟩
 refine⟨T0,T1,x',y',w',Y (P2 f0 f1),Y (P2 T0 T1),rfl,⟨TT,S',t.v0,t.v1⟩,?_⟩
 refine bq _ _ (σ1:=LS ns C A v0 v1 nm n0 n1 [nm] [aE nm C x y w v0 v1] x y w (YI k) (YI c) (YI d) (Y (P2 f0 f1)) z12) (by
  simp[aK b1 b2 (by decide),hf]) ?_
 refine bq _ _ (σ1:=LS ns C A v0 v1 nm n0 n1 [nm] [aE nm C x y w v0 v1] x y w (YI k) (YI c) (YI d) (Y (P2 f0 f1)) (Y (P2 T0 T1))) (by
  simp[aK t.n.ab f3 (by omega),aK f7 t.n.bb (by omega),aK t.n.bb f3 (by omega),hT]) ?_
 have hg:bG 5 bW (aa (ae 12) ag) (LS ns C A v0 v1 nm n0 n1 [nm] [aE nm C x y w v0 v1] x y w (YI k) (YI c) (YI d) (Y (P2 f0 f1)) (Y (P2 T0 T1)))=.ok (j5 n0 n1 T0 T1,[Y (.scr ns),YL C,Y A,Y (P2 v0 v1),Y (.str nm),some (.flo none (P2 T0 T1) [nm] [aE nm C x' y' w' v0 v1]),Y (P2 n0 n1),Y (P3 x y w),(YI k),YI c,YI d,Y (P2 f0 f1),Y (P2 T0 T1)]):=
  dR (p:=j5 n0 n1 T0 T1) (o':=⟨P2 T0 T1,[nm],[aE nm C x' y' w' v0 v1]⟩) rfl rfl (by
   rfl) (fun z=>E1 S (.one nm C x y w x' y' w' v0 v1 hC g1))
 refine bq _ _ (v5 (vP (q:=j5 n0 n1 T0 T1) hg ?_ tK) rfl) ?_
 ·simp
  rfl
 refine bq _ _ (σ1:=[Y (.scr ns),YL C,Y A,Y (P2 v0 v1),Y (.str nm),some (.flo none (P2 T0 T1) [nm] [aE nm C x' y' w' v0 v1]),Y (P2 T0 T1),Y (P3 x y w),(YI k),YI c,YI d,Y (P2 f0 f1),Y (P2 T0 T1)]) rfl ?_
 simp[g2]
end
theorem cf{z:Option SV}{r:PSt}(h:ba (z::r)=true):ba r=true:=by
 unfold ba at h
 split at h
 ·rename_i e;cases e
 ·cases h
 ·rename_i e;cases e;exact h
section
variable {ns:List Int}{C:List PV}{A:PV}{nm:Str}
theorem turn(hC:cy C=true){B:Nat}(hB:B≤1900){v0 v1 n0 n1 x y w k:Int}(t:Tn B n0 n1 x y w v0 v1)(hk:0≤k){z9 z10 z11 z12:Option SV}(hz:ba [z11,z12]=true):
  ∃m0 m1 x' y' w' u0 u1 y9 y10 y11 y12,ba [YI k,y9,y10,y11,y12]=true∧Tn (B+50) m0 m1 x' y' w' u0 u1 ∧
  jH (LS ns C A v0 v1 nm n0 n1 [nm] [aE nm C x y w v0 v1] x y w (YI k) z9 z10 z11 z12)=YN (LS ns C A u0 u1 nm m0 m1 [nm] [aE nm C x' y' w' u0 u1] x' y' w' (YI k) y9 y10 y11 y12):=by
 obtain⟨c,hc⟩:=gm ns k hk
 obtain⟨d,hd⟩:=gm ns (k+1) (by omega)
 have t0:Tn (B+50) n0 n1 x y w v0 v1:=⟨t.n.up (by omega),t.s.up (by omega),t.v0,t.v1⟩
 have key:∃m0 m1 x' y' w' u0 u1 y11 y12,ba [y11,y12]=true∧Tn (B+50) m0 m1 x' y' w' u0 u1 ∧
  jH (LS ns C A v0 v1 nm n0 n1 [nm] [aE nm C x y w v0 v1] x y w (YI k) z9 z10 z11 z12)=sIf (c7 5 (G.dm (tV (eA (fun ps=>noErr (aQ ps)) (aa (ae 5) (aa (ae 4) (aa (ae 6) (aa (ae 7) (aa (ae 3) ag))))))))) (aY (eC (.bl false))) bo (LS ns C A u0 u1 nm m0 m1 [nm] [aE nm C x' y' w' u0 u1] x' y' w' (YI k) (YI c) (YI d) y11 y12):=by
  have s1:∀{F R:DS},F=aO 9 (eA (fun ps=>noErr (aN ps)) (aa (ae 0) (aa (ae 8) ag)))→az F R (LS ns C A v0 v1 nm n0 n1 [nm] [aE nm C x y w v0 v1] x y w (YI k) z9 z10 z11 z12)=R (LS ns C A v0 v1 nm n0 n1 [nm] [aE nm C x y w v0 v1] x y w (YI k) (YI c) z10 z11 z12):=fun e=>bq _ _ (by rw[e];simp[hc]) rfl
  have s2:∀{F R:DS},F=aO 10 (eA (fun ps=>noErr (aN ps)) (aa (ae 0) (aa (e2 dG (ae 8) (eC (.int 1))) ag)))→az F R (LS ns C A v0 v1 nm n0 n1 [nm] [aE nm C x y w v0 v1] x y w (YI k) (YI c) z10 z11 z12)=R (LS ns C A v0 v1 nm n0 n1 [nm] [aE nm C x y w v0 v1] x y w (YI k) (YI c) (YI d) z11 z12):=fun e=>bq _ _ (by rw[e];simp[hd]) rfl
  rw[jH,s1 rfl,s2 rfl]
  by_cases h1:c % 5=1
  ·obtain⟨u0,u1,hu,b0,b1⟩:=tM (c / 5)
   refine⟨n0,n1,x,y,w,u0,u1,z11,z12,hz,⟨t0.n,t0.s,b0,b1⟩,bq _ _ ?_ rfl⟩
   have hs:bG 5 cV (aa (ae 4) (aa (ae 3) ag)) [Y (.scr ns),YL C,Y A,Y (P2 u0 u1),Y (.str nm),some (.flo none (P2 n0 n1) [nm] [aE nm C x y w v0 v1]),Y (P2 n0 n1),Y (P3 x y w),YI k,YI c,YI d,z11,z12]=.ok (.non,LS ns C A u0 u1 nm n0 n1 [nm] [aE nm C x y w u0 u1] x y w (YI k) (YI c) (YI d) z11 z12):=
    dR (p:=.non) (o':=⟨P2 n0 n1,[nm],[aE nm C x y w u0 u1]⟩) rfl rfl hz (fun z=>zW hC)
   rw[g5]
   have e1:tV (e2 pEq (e2 bA (ae 9) (eC (.int 5))) (eC (.int 1))) (LS ns C A v0 v1 nm n0 n1 [nm] [aE nm C x y w v0 v1] x y w (YI k) (YI c) (YI d) z11 z12)=.ok true:=by simp[h1]
   rw[e1]
   refine bq _ _ (σ1:=[Y (.scr ns),YL C,Y A,Y (P2 u0 u1),Y (.str nm),some (.flo none (P2 n0 n1) [nm] [aE nm C x y w v0 v1]),Y (P2 n0 n1),Y (P3 x y w),YI k,YI c,YI d,z11,z12]) (by simp[hu]) (fL hs)
  ·have e1:tV (e2 pEq (e2 bA (ae 9) (eC (.int 5))) (eC (.int 1))) (LS ns C A v0 v1 nm n0 n1 [nm] [aE nm C x y w v0 v1] x y w (YI k) (YI c) (YI d) z11 z12)=.ok false:=by simp[h1]
   by_cases h2:c % 5=2∧0<n0
   ·refine⟨n0,n1,x,y,w,v0,v1,z11,z12,hz,t0,bq _ _ ?_ rfl⟩
    have e2':G.kq (tV (e2 pEq (e2 bA (ae 9) (eC (.int 5))) (eC (.int 2)))) (tV (e2 (eQ fun i j=>decide (j<i)) (aw 6 (eC (.int 0))) (eC (.int 0)))) (LS ns C A v0 v1 nm n0 n1 [nm] [aE nm C x y w v0 v1] x y w (YI k) (YI c) (YI d) z11 z12)=.ok true:=by simp[h2.1,h2.2]
    have b9:intBits (d % 9)≤4:=a5 (by omega)
    have c9:intBits (9:Int)≤4:=a5 (by decide)
    have hp:0<n1*9:=by have:=t.n.pos;omega
    obtain⟨a,b,hl,low⟩:=jt (t:=n0*(d % 9)) (b:=n1*9) hp (iS (bits_mul t.n.bb c9) (by omega))
    have hlt:a*n1<n0*b:=by
     have h3:=low.eq
     have hY:0<n0*b:=aaK h2.2 low.pos
     have h4:(d % 9)*(n0*b)≤8*(n0*b):=Int.mul_le_mul_of_nonneg_right (by omega) (by omega)
     have h5:9*(a*n1)=(d % 9)*(n0*b):=by grind
     omega
    have hu:cJ [P2 a b,P2 n0 n1]=.ok (.bl true):=by
     rw[oZ (low.qb _ (iS (bits_mul t.n.ab b9) (by omega))) (low.rb _ (iS (bits_mul t.n.bb c9) (by omega))) (iS t.n.ab (by omega)) (iS t.n.bb (by omega)),decide_eq_true hlt]
    have hq:c7 5 (G.dm (tV (eA (fun ps=>noErr (b6 ps)) (aa (ae 5) (aa (eA (fun ps=>noErr (aV ps)) (aa (e2 bc (aw 6 (eC (.int 0))) (e2 bA (ae 10) (eC (.int 9)))) (aa (e2 bc (aw 6 (eC (.int 1))) (eC (.int 9))) ag))) ag))))) (LS ns C A v0 v1 nm n0 n1 [nm] [aE nm C x y w v0 v1] x y w (YI k) (YI c) (YI d) z11 z12)=.ok false:=
     fJ rfl hz (by
      show G.dm _ [Y (.scr ns),YL C,Y A,Y (P2 v0 v1),Y (.str nm),Y (au (P2 n0 n1) [nm] [aE nm C x y w v0 v1]),Y (P2 n0 n1),Y (P3 x y w),YI k,YI c,YI d,z11,z12]=_
      have hp:=xp (ns:=[nm]) (ps:=[aE nm C x y w v0 v1]) hu
      simp[aK t.n.ab b9 (by omega),aK t.n.bb c9 (by omega),hl,hp])
    rw[g5,e1]
    show sIf _ _ _ _=_
    rw[g5,e2']
    show sIf _ _ _ _=_
    rw[g5,hq]
    rfl
   ·obtain⟨T0,T1,x',y',w',y11,y12,g1,g2,g3⟩:=yV (ns:=ns) (A:=A) (nm:=nm) (c:=c) (d:=d) (k:=k) (z11:=z11) (z12:=z12) hC hB t
    refine⟨T0,T1,x',y',w',v0,v1,y11,y12,g1,g2,bq _ _ ?_ rfl⟩
    have e2':G.kq (tV (e2 pEq (e2 bA (ae 9) (eC (.int 5))) (eC (.int 2)))) (tV (e2 (eQ fun i j=>decide (j<i)) (aw 6 (eC (.int 0))) (eC (.int 0)))) (LS ns C A v0 v1 nm n0 n1 [nm] [aE nm C x y w v0 v1] x y w (YI k) (YI c) (YI d) z11 z12)=.ok false:=by
     by_cases h3:c % 5=2
     ·have h4:¬0<n0:=fun z=>h2 ⟨h3,z⟩
      simp[h3,h4]
     ·simp[h3]
    rw[g5,e1]
    show sIf _ _ _ _=_
    rw[g5,e2']
    exact g3
 obtain⟨m0,m1,x',y',w',u0,u1,y11,y12,hz',t',e⟩:=key
 exact⟨m0,m1,x',y',w',u0,u1,YI c,YI d,y11,y12,hz',t',e.trans (vN hz')⟩
theorem turns(hC:cy C=true):∀(l:List Int){B:Nat}{v0 v1 n0 n1 x y w:Int}{z8 z9 z10 z11 z12:Option SV},(∀k∈l,0≤k)→B+50*l.length≤1900→Tn B n0 n1 x y w v0 v1→ba [z8,z9,z10,z11,z12]=true →
  ∃m0 m1 x' y' w' u0 u1 y8 y9 y10 y11 y12,ba [y8,y9,y10,y11,y12]=true∧Tn 1900 m0 m1 x' y' w' u0 u1 ∧
  dQ (gN 8) jH (l.map PV.int) (LS ns C A v0 v1 nm n0 n1 [nm] [aE nm C x y w v0 v1] x y w z8 z9 z10 z11 z12)=YN (LS ns C A u0 u1 nm m0 m1 [nm] [aE nm C x' y' w' u0 u1] x' y' w' y8 y9 y10 y11 y12)
 |[],B,v0,v1,n0,n1,x,y,w,z8,z9,z10,z11,z12,_,hB,t,hz=>⟨n0,n1,x,y,w,v0,v1,z8,z9,z10,z11,z12,hz,⟨t.n.up (by simpa using hB),t.s.up (by simpa using hB),t.v0,t.v1⟩,rfl⟩
 |k::l,B,v0,v1,n0,n1,x,y,w,z8,z9,z10,z11,z12,hk,hB,t,hz=>by
  rw[iF]at hB
  obtain⟨m0,m1,x',y',w',u0,u1,y9,y10,y11,y12,hz',t',e⟩:=turn (ns:=ns) (A:=A) (nm:=nm) (z9:=z9) (z10:=z10) hC (by omega) t (hk k (.head _)) (cf (cf (cf hz)))
  obtain⟨p0,p1,x2,y2,w2,q0,q1,r8,r9,r10,r11,r12,hz2,t2,e2⟩:=turns hC l (fun j hj=>hk j (.tail _ hj)) (by omega) t' hz'
  refine⟨p0,p1,x2,y2,w2,q0,q1,r8,r9,r10,r11,r12,hz2,t2,?_⟩
  rw[aau,dP (σ1:=LS ns C A v0 v1 nm n0 n1 [nm] [aE nm C x y w v0 v1] x y w (YI k) z9 z10 z11 z12) rfl,e]
  exact e2
end
theorem EN{ta:PSt→Res (Bool×PSt)}{tb:DT}{σ σ1:PSt}{b:Bool}(h1:ta σ=.ok (false,σ1))(h2:tb σ1=.ok b):orW ta tb σ=.ok (b,σ1):=by
 unfold orW
 rw[h1]
 simp only[h2]
theorem nF:∀(cs:List Pt),cy (cs.map ptP)=true
 |[]=>rfl
 |p::cs=>by
  show(ez (ptP p)&&cy (cs.map ptP))=true
  rw[nF cs];rfl
theorem Aq{cs M:List Pt}(P:Poly cs (bj M))(hb:∀q∈M,PB 400 q)(hl:M.length≤63):fh [.lst (M.map ptP)]=.ok (.lst (cs.map ptP)):=by
 have hc:=P.nocol
 rw[xq hb hl hc,(jY (gZ M) hc).unique P]
abbrev uD(T0 T1:Int):PV:=.lst [.tup [P2 T0 T1,.non,.lst [],.lst [],.lst []]]
theorem CM{T0 T1:Int}:pNe (uD T0 T1) (uD T0 T1)=.ok (.bl false):=by simp[pNe,d8,peq,dq]
theorem DM (k:Int):∃cs:List Nat,(∀c∈cs,97≤c∧c≤122)∧1≤cs.length∧cs.length≤12∧pIx (.lst [.str (PySem.Str.ofString "a"),.str (PySem.Str.ofString "zq"),.str (PySem.Str.ofString "abcdefghijkl")]) (.int (k % 3))=.ok (.str (T cs)):=by
 have h:k % 3=0∨k % 3=1∨k % 3=2:=by omega
 rcases h with h|h|h
 ·exact⟨[97],by decide,by decide,by decide,by rw[h,iq,iq,iq];rfl⟩
 ·exact⟨[122,113],by decide,by decide,by decide,by rw[h,iq,iq,iq];rfl⟩
 ·exact⟨[97,98,99,100,101,102,103,104,105,106,107,108],by decide,by decide,by decide,by rw[h,iq,iq,iq];rfl⟩
theorem AH(cell more g:Int)(hg:0<g)(hb:intBits g≤100):∃ps cs:List Pt,cw [.int cell,.int more,.int g]=.ok (.lst (ps.map ptP))∧fh [.lst (ps.map ptP)]=.ok (.lst (cs.map ptP))∧fh [.lst (cs.map ptP)]=.ok (.lst (cs.map ptP)):=by
 obtain⟨ps,q1,ql,qb,qc⟩:=xm cell more g hg hb
 have up:∀{q:Pt}{n:Nat},n≤400→PB n q→PB 400 q:=fun hn h=>⟨iS h.1 hn,iS h.2 hn⟩
 have P0:=jY (gZ ps) (fun z=>qc (yp z fun p hp=>(dI ps p).mpr hp))
 have hd:=xq (fun q hq=>up (by decide) (qb q hq)) (by omega) P0.nocol
 have cl:(jz (bj ps)).length≤63:=by
  have h1:=iL (bj ps)
  have h2:=iL (bj ps).reverse
  have h3:=nv ps
  unfold jz
  simp only[aai,abm,aa1]at *
  omega
 generalize jz (bj ps)=cs at P0 hd cl
 have P3:Poly cs (bj cs):=P0.on (fun q hq=>P0.sub q ((dI cs q).mp hq)) (fun q hq=>(dI cs q).mpr hq)
 exact⟨ps,cs,q1,hd,Aq P3 (fun q hq=>up (by decide) (qb q ((dI ps q).mp (P0.sub q hq)))) cl⟩
theorem pO(m:Nat):∃l:List Int,fU [PV.int 8,PV.int (if (if (58:Int)<(m:Int) then 58 else (m:Int))>10 then (if (58:Int)<(m:Int) then 58 else (m:Int)) else 10),PV.int 2]=.ok (l.map PV.int)∧(∀k∈l,0≤k)∧l.length≤25:=by
 obtain⟨j,hj⟩:∃j,j=(if (if (58:Int)<(m:Int) then 58 else (m:Int))>10 then (if (58:Int)<(m:Int) then 58 else (m:Int)) else 10):=⟨_,rfl⟩
 have j1:10≤j∧j≤58:=by rw[hj];split<;>split<;>omega
 rw[←hj]
 refine⟨(aaN (dM 8 j 2)).map fun (i:Nat)=>(8:Int)+i*2,?_,fun k hk=>?_,?_⟩
 ·rw[List.map_map]
  exact if_pos ⟨by decide,by decide,by omega,by omega,by decide,by decide⟩
 ·obtain⟨i,_,rfl⟩:=List.mem_map.mp hk
  omega
 ·rw[aad,abA]
  unfold dM
  rw[if_pos (by omega)]
  omega
section
variable {n0 n1:Int}{s0 s1 s2 s3 s4 s6 s7 s8 s9 s10 s11 s12:Option SV}
theorem ua{f0 f1 T0 T1:Int}{d1 d2:DE}{ra:DA}{f:DS}(S:Stp n0 n1 f0 f1 T0 T1)(hz:ba [s0,s1,s2,s3,s4,none,s6,s7,s8,s9,s10,s11,s12]=true)(h0:ra [s0,s1,s2,s3,s4,some (.flo none (P2 n0 n1) [] []),s6,s7,s8,s9,s10,s11,s12]=.ok [P2 T0 T1])
  (h1:d1 [s0,s1,s2,s3,s4,some (.flo none (P2 T0 T1) [] []),s6,s7,s8,s9,s10,s11,s12]=.ok (j5 n0 n1 T0 T1)) (h2:d2 [s0,s1,s2,s3,s4,Y (au (P2 T0 T1) [] []),s6,s7,s8,s9,s10,s11,s12]=.ok (uD T0 T1)):
  oH (orW (tcW pNe (bG 5 bW ra) d1) (c7 5 (tV (e2 pNe (aD "settle" [("Floor",a7)] (ae 5) ag) d2)))) f bo [s0,s1,s2,s3,s4,some (.flo none (P2 n0 n1) [] []),s6,s7,s8,s9,s10,s11,s12]=YN [s0,s1,s2,s3,s4,some (.flo none (P2 T0 T1) [] []),s6,s7,s8,s9,s10,s11,s12]:=by
 have hg:bG 5 bW ra [s0,s1,s2,s3,s4,some (.flo none (P2 n0 n1) [] []),s6,s7,s8,s9,s10,s11,s12]=.ok (j5 n0 n1 T0 T1,[s0,s1,s2,s3,s4,some (.flo none (P2 T0 T1) [] []),s6,s7,s8,s9,s10,s11,s12]):=
  dR (p:=j5 n0 n1 T0 T1) (o':=⟨P2 T0 T1,[],[]⟩) h0 rfl hz (fun z=>E1 S .no)
 have hs:c7 5 (tV (e2 pNe (aD "settle" [("Floor",a7)] (ae 5) ag) d2)) [s0,s1,s2,s3,s4,some (.flo none (P2 T0 T1) [] []),s6,s7,s8,s9,s10,s11,s12]=.ok false:=
  fJ rfl hz (by
   have e:aD "settle" [("Floor",a7)] (ae 5) ag [s0,s1,s2,s3,s4,Y (au (P2 T0 T1) [] []),s6,s7,s8,s9,s10,s11,s12]=.ok (uD T0 T1):=bD (by decide +kernel) rfl rfl (xl .no)
   show tV (e2 pNe _ d2) [s0,s1,s2,s3,s4,Y (au (P2 T0 T1) [] []),s6,s7,s8,s9,s10,s11,s12]=_
   rw[uB,pq,e,h2]
   show(pNe (uD T0 T1) (uD T0 T1)).bind asB=_
   rw[CM]
   rfl)
 exact v5 (EN (vP hg h1 tK) hs) rfl
end
theorem yW{B:Nat}(h:2≤B):Ti B 0 1:=⟨by decide,by decide,by decide,iS (a5 (n:=1) (by decide)) (by omega),iS (a5 (n:=1) (by decide)) (by omega)⟩
theorem kN{z:Option SV}{r s:PSt}(h:ba (z::r)=true)(h':ba s=true):ba (z::s)=true:=by
 cases z with
 |none=>exact h'
 |some v=>
  cases v with
  |sh p=>exact h'
  |own xs=>exact h'
  |flo a b c d=>cases h
theorem CT{now:PV}{n:Str}{C:List PV}{x y w v0 v1:Int}:cn [au now [n] [aE n C x y w v0 v1],.str n]=.ok (.lst C):=by
 have m0:aD "row_of" [("Floor",av)] (ae 0) (aa (ae 1) ag) [Y (au now [n] [aE n C x y w v0 v1]),Y (.str n)]=.ok (aE n C x y w v0 v1):=bD iC rfl rfl js
 unfold cn;rw[gL]
 simp[eV,m0]
theorem EZ(ns:List Int)(hl:ns.length≤63):oj [.scr ns]=.ok (.bl true):=by
 obtain⟨k0,h0⟩:=gm ns 0 (by decide)
 obtain⟨k1,h1⟩:=gm ns 1 (by decide)
 obtain⟨k2,h2⟩:=gm ns 2 (by decide)
 obtain⟨k3,h3⟩:=gm ns 3 (by decide)
 obtain⟨k4,h4⟩:=gm ns 4 (by decide)
 obtain⟨k5,h5⟩:=gm ns 5 (by decide)
 obtain⟨k6,h6⟩:=gm ns 6 (by decide)
 obtain⟨ps,cs,q1,q2,q3⟩:=AH k0 k1 (1+k2 % 1000000000) (by omega) (iS (a5 (n:=40) (by omega)) (by decide))
 obtain⟨v0,v1,hv,bv0,bv1⟩:=tM k5
 obtain⟨nm,n1,n2,n3,hn⟩:=DM k6
 have hname:=u3 n1 n2 n3
 have hC:=nF cs
 have same:pNe (.lst (cs.map ptP)) (.lst (cs.map ptP))=.ok (.bl false):=by rw[zN];simp
 generalize ps.map ptP=D at q1 q2
 generalize cs.map ptP=C at q2 q3 hC same
 have m5:=aK (a5 (n:=4) (by decide):intBits (5:Int)≤4) (a5 (n:=100) (by decide):intBits (100000000000000000000000000000:Int)≤100) (by decide)
 obtain⟨x,hx⟩:∃x,x=k3 % 1000000000000000000000000000000-500000000000000000000000000000:=⟨_,rfl⟩
 obtain⟨y,hy⟩:∃y,y=k4 % 1000000000000000000000000000000-500000000000000000000000000000:=⟨_,rfl⟩
 have xb:intBits x≤110:=by rw[hx];exact a5 (by omega)
 have yb:intBits y≤110:=by rw[hy];exact a5 (by omega)
 have t0:Tn 110 0 1 x y 1 v0 v1:=⟨yW (by decide),⟨by decide,xb,yb,iS (a5 (n:=1) (by decide)) (by decide)⟩,bv0,bv1⟩
 obtain⟨l,hr,l0,l25⟩:=pO ns.length
 obtain⟨m0,m1,x',y',w',u0,u1,z8,z9,z10,z11,z12,hz,t',hf⟩:=turns (ns:=ns) (A:=P2 x y) (nm:=T nm) (z8:=none) (z9:=none) (z10:=none) (z11:=none) (z12:=none) hC l l0 (by omega) t0 rfl
 have mp:=t'.n.pos
 have c2:intBits (2:Int)≤2:=a5 (by decide)
 have hp:0<2*m1:=by omega
 have b1:=bits_mul c2 t'.n.bb
 have b2:=bits_add (bits_mul c2 t'.n.ab) t'.n.bb
 obtain⟨T0,T1,hT,low⟩:=jt (t:=2*m0+m1) (b:=2*m1) hp (iS b1 (by decide))
 have TT:Ti 2000 T0 T1:=Ti.of low (by have:=t'.n.nn;omega) hp (iS b2 (by decide)) (iS b1 (by decide))
 have S1:Stp 0 1 0 1 0 1:=⟨yW (by decide),yW (by decide),yW (by decide),by decide⟩
 have S2:Stp m0 m1 1 2 T0 T1:=⟨t'.n.up (by decide),⟨by decide,by decide,by decide,iS (a5 (n:=1) (by decide)) (by decide),iS c2 (by decide)⟩,TT,by have:=low.eq;grind⟩
 have hu:cJ [P2 (-1) 2,P2 m0 m1]=.ok (.bl true):=by
  rw[oZ (iS (a5 (n:=1) (by decide)) (by decide)) (iS c2 (by decide)) (t'.n.up (by decide)).ab (t'.n.up (by decide)).bb,decide_eq_true (by have:=t'.n.nn;omega)]
 have hd:nY [Y (.scr ns),none,none,none,none,none,none,none,none,none,none,none,none]=.ok (.ret (.bl true)):=by
  unfold nY
  refine bq _ _ (σ1:=[Y (.scr ns),YL C,none,none,none,none,none,none,none,none,none,none,none]) (by simp[h0,h1,h2,q1,q2]) ?_
  refine bq _ _ (σ1:=[Y (.scr ns),YL C,Y (P2 x y),none,none,none,none,none,none,none,none,none,none]) (by rw[hx,hy];simp[h3,h4,m5]) ?_
  refine bq _ _ (σ1:=[Y (.scr ns),YL C,Y (P2 x y),Y (P2 v0 v1),none,none,none,none,none,none,none,none,none]) (by simp[h5,hv]) ?_
  refine bq _ _ (σ1:=[Y (.scr ns),YL C,Y (P2 x y),Y (P2 v0 v1),Y (.str (T nm)),none,none,none,none,none,none,none,none]) (by
   rw[jN]
   have e:e2 pIx (eA cb (aa (eC (.str (PySem.Str.ofString "a"))) (aa (eC (.str (PySem.Str.ofString "zq"))) (aa (eC (.str (PySem.Str.ofString "abcdefghijkl"))) ag)))) (e2 bA (eA (fun ps=>noErr (aN ps)) (aa (ae 0) (aa (eC (.int 6)) ag))) (eC (.int 3))) [Y (.scr ns),YL C,Y (P2 x y),Y (P2 v0 v1),none,none,none,none,none,none,none,none,none]=.ok (.str (T nm)):=by
    rw[←hn]
    simp[h6,-Bc]
   rw[e]
   rfl) ?_
  refine bq _ _ (σ1:=[Y (.scr ns),YL C,Y (P2 x y),Y (P2 v0 v1),Y (.str (T nm)),some (.flo none (P2 0 1) [] []),none,none,none,none,none,none,none]) rfl ?_
  refine bq _ _ (ua S1 rfl rfl rfl rfl) ?_
  have hput:bG 5 er (aa (ae 4) (aa (eA n9 (aa (ae 1) ag)) (aa (ae 2) (aa (ae 3) ag)))) [Y (.scr ns),YL C,Y (P2 x y),Y (P2 v0 v1),Y (.str (T nm)),some (.flo none (P2 0 1) [] []),none,none,none,none,none,none,none]=.ok (.non,[Y (.scr ns),YL C,Y (P2 x y),Y (P2 v0 v1),Y (.str (T nm)),some (.flo none (P2 0 1) [T nm] [aE (T nm) C x y 1 v0 v1]),none,none,none,none,none,none,none]):=
   dR (p:=.non) (o':=⟨P2 0 1,[T nm],[aE (T nm) C x y 1 v0 v1]⟩) (qs:=[.str (T nm),.lst C,P2 x y,P2 v0 v1]) rfl rfl rfl (fun z=>EY hname q3)
  refine bq _ _ (fL hput) ?_
  refine bq _ _ (σ1:=[Y (.scr ns),YL C,Y (P2 x y),Y (P2 v0 v1),Y (.str (T nm)),some (.flo none (P2 0 1) [T nm] [aE (T nm) C x y 1 v0 v1]),Y (P2 0 1),none,none,none,none,none,none]) rfl ?_
  refine bq _ _ (σ1:=LS ns C (P2 x y) v0 v1 (T nm) 0 1 [T nm] [aE (T nm) C x y 1 v0 v1] x y 1 none none none none none) (by simp) ?_
  refine bq _ _ (σ1:=LS ns C (P2 x y) u0 u1 (T nm) m0 m1 [T nm] [aE (T nm) C x' y' w' u0 u1] x' y' w' z8 z9 z10 z11 z12) (by
   rw[←hf,lI]
   have e:itR fU (aa (eC (.int 8)) (aa (eA yD (aa (eC (.int 10)) (aa (eA yC (aa (gG 0) (aa (eC (.int 58)) ag))) ag))) (aa (eC (.int 2)) ag))) (LS ns C (P2 x y) v0 v1 (T nm) 0 1 [T nm] [aE (T nm) C x y 1 v0 v1] x y 1 none none none none none)=.ok (l.map PV.int):=by
    rw[←hr]
    simp only[E2,pG,sO,Dm,pk,aU,Az,DF,DC,DD]
   rw[e]
   rfl) ?_
  have hb:c7 5 (G.tOr (tV (e2 pNe (aD "body" [("Floor",cn)] (ae 5) (aa (ae 4) ag)) (ae 1))) (G.dm (tV (eA (fun ps=>noErr (b6 ps)) (aa (ae 5) (aa (eA bB (aa (e2 eO (eC (.int 0)) (eC (.int 1))) (aa (eC (.int 2)) ag))) ag)))))) (LS ns C (P2 x y) u0 u1 (T nm) m0 m1 [T nm] [aE (T nm) C x' y' w' u0 u1] x' y' w' z8 z9 z10 z11 z12)=.ok false:=
   fJ rfl hz (by
    have e1:aD "body" [("Floor",cn)] (ae 5) (aa (ae 4) ag) [Y (.scr ns),YL C,Y (P2 x y),Y (P2 u0 u1),Y (.str (T nm)),Y (au (P2 m0 m1) [T nm] [aE (T nm) C x' y' w' u0 u1]),Y (P2 m0 m1),Y (P3 x' y' w'),z8,z9,z10,z11,z12]=.ok (.lst C):=bD (by decide +kernel) rfl rfl CT
    have e2:=xp (ns:=[T nm]) (ps:=[aE (T nm) C x' y' w' u0 u1]) hu
    show G.tOr _ _ [Y (.scr ns),YL C,Y (P2 x y),Y (P2 u0 u1),Y (.str (T nm)),Y (au (P2 m0 m1) [T nm] [aE (T nm) C x' y' w' u0 u1]),Y (P2 m0 m1),Y (P3 x' y' w'),z8,z9,z10,z11,z12]=_
    simp[e1,same,e2])
  refine bq _ _ (σ1:=LS ns C (P2 x y) u0 u1 (T nm) m0 m1 [T nm] [aE (T nm) C x' y' w' u0 u1] x' y' w' z8 z9 z10 z11 z12) (by rw[g5,hb];rfl) ?_
  have htake:bG 5 dF (aa (ae 4) ag) (LS ns C (P2 x y) u0 u1 (T nm) m0 m1 [T nm] [aE (T nm) C x' y' w' u0 u1] x' y' w' z8 z9 z10 z11 z12)=.ok (.non,LS ns C (P2 x y) u0 u1 (T nm) m0 m1 [] [] x' y' w' z8 z9 z10 z11 z12):=
   dR (p:=.non) (o':=⟨P2 m0 m1,[],[]⟩) (qs:=[.str (T nm)]) rfl rfl hz (fun z=>CO (iA hC))
  refine bq _ _ (fL htake) ?_
  refine bq _ _ (σ1:=LS ns C (P2 x y) u0 u1 (T nm) m0 m1 [] [] x' y' w' z8 z9 z10 z11 (Y (P2 T0 T1))) (by simp[aK c2 t'.n.ab (by decide),aK c2 t'.n.bb (by decide),hT]) ?_
  have hz':ba [z8,z9,z10,z11,Y (P2 T0 T1)]=true:=kN hz (kN (cf hz) (kN (cf (cf hz)) (kN (cf (cf (cf hz))) rfl)))
  refine bq _ _ (ua S2 hz' rfl rfl rfl) ?_
  have hend:bJ 5 (qF (e2 pEq (aD "names" [("Floor",aR)] (ae 5) ag) (eA cb ag)) (e2 pEq (aD "clock" [("Floor",aM)] (ae 5) ag) (ae 12))) [Y (.scr ns),YL C,Y (P2 x y),Y (P2 u0 u1),Y (.str (T nm)),some (.flo none (P2 T0 T1) [] []),Y (P2 m0 m1),Y (P3 x' y' w'),z8,z9,z10,z11,Y (P2 T0 T1)]=.ok (.bl true):=
   dw (p:=.bl true) rfl hz' (by
    have c0:aM [au (P2 T0 T1) [] []]=.ok (P2 T0 T1):=by unfold aM;rw[iQ];simp[cT,jD]
    have c1:aR [au (P2 T0 T1) [] []]=.ok (.lst []):=by unfold aR;rw[iQ];simp[cS,i9,fF]
    have e0:aD "clock" [("Floor",aM)] (ae 5) ag [Y (.scr ns),YL C,Y (P2 x y),Y (P2 u0 u1),Y (.str (T nm)),Y (au (P2 T0 T1) [] []),Y (P2 m0 m1),Y (P3 x' y' w'),z8,z9,z10,z11,Y (P2 T0 T1)]=.ok (P2 T0 T1):=bD (by decide +kernel) rfl rfl c0
    have e1:aD "names" [("Floor",aR)] (ae 5) ag [Y (.scr ns),YL C,Y (P2 x y),Y (P2 u0 u1),Y (.str (T nm)),Y (au (P2 T0 T1) [] []),Y (P2 m0 m1),Y (P3 x' y' w'),z8,z9,z10,z11,Y (P2 T0 T1)]=.ok (.lst []):=bD (by decide +kernel) rfl rfl c1
    have p0:pEq (P2 T0 T1) (P2 T0 T1)=.ok (.bl true):=by simp[pEq,d8,peq,dq]
    have p1:pEq (.lst []) (.lst [])=.ok (.bl true):=by simp[pEq,d8,peq,dq]
    show qF _ _ [Y (.scr ns),YL C,Y (P2 x y),Y (P2 u0 u1),Y (.str (T nm)),Y (au (P2 T0 T1) [] []),Y (P2 m0 m1),Y (P3 x' y' w'),z8,z9,z10,z11,Y (P2 T0 T1)]=_
    simp[e0,e1,p0,p1]) rfl
  rw[vY,hend]
  rfl
 have hm:oj [.scr ns]=fin (nY [Y (.scr ns),none,none,none,none,none,none,none,none,none,none,none,none]):=by unfold oj;rw[iQ];rfl
 rw[hm,hd]
 rfl
end Law
namespace Law
open PySem PySem.Spec PyProof.Rows L2 G
theorem all_mk {P:Program}{w:World}{K:aT}{h:Heap}{mg:Str→Option Value}{C_Floor C_Past C_GlideError C_Crowded C_NoName:Addr}(KI:K.In h)(GN:h.Ns mainGlobals mg)(HR:DefAt K "_law_cell" (top 64))(HS:DefAt K "_law_common" (top 66))(HZ:DefAt K "_law_spot_of" (top 69))(HU:DefAt K "_law_gone" (top 71))(HV:DefAt K "_law_lowest" (top 68))(IC:DefAt K "under" (top 20))(HC:MethAt K "Floor" "go" "Floor.go" (inClass (top 62) 9))(HW:DefAt K "_law_past" (top 72))(HX:DefAt K "_law_points" (top 67))(HY:DefAt K "_law_speed" (top 70))(Ib:DefAt K "_law_whole" (top 65))(HA:MethAt K "Floor" "clock" "Floor.clock" (inClass (top 62) 11))(HD:MethAt K "Floor" "names" "Floor.names" (inClass (top 62) 12))(HG:MethAt K "Floor" "row_of" "Floor.row_of" (inClass (top 62) 1))(HI:MethAt K "Floor" "shift" "Floor.shift" (inClass (top 62) 14))(HJ:MethAt K "Floor" "speed" "Floor.speed" (inClass (top 62) 15))(Ia:DefAt K "_law_state_right" (top 73))(Iq:DefAt K "left_by" (top 10))(IA:DefAt K "turns_left" (top 11))(Ic:DefAt K "chain" (top 12))(Ij:DefAt K "hull" (top 13))(Hz:MethAt K "Floor" "body" "Floor.body" (inClass (top 62) 13))(IB:DefAt K "two_by_two" (top 50))(Ir:DefAt K "lines_of" (top 55))(HK:MethAt K "Floor" "standing" "Floor.standing" (inClass (top 62) 2))(Ig:DefAt K "first_clash" (top 53))(HP:MethAt K "Floor" "stretches_ahead_of" "Floor.stretches_ahead_of" (inClass (top 62) 8))(HH:MethAt K "Floor" "settle" "Floor.settle" (inClass (top 62) 10))(Ie:DefAt K "divisor" (top 16))(Im:DefAt K "is_whole" (top 15))(Iy:DefAt K "portion" (top 17))(Iu:DefAt K "minus" (top 19))(Ih:DefAt K "glides" (top 60))(Ik:DefAt K "in_some" (top 61))(Iz:DefAt K "spot" (top 22))(Ii:DefAt K "gone_on" (top 23))(Io:DefAt K "later_on" (top 59))(Iw:DefAt K "plus" (top 18))(HE:MethAt K "Floor" "pass_time" "Floor.pass_time" (inClass (top 62) 6))(HN:MethAt K "Floor" "stretch_to" "Floor.stretch_to" (inClass (top 62) 7))(HB:MethAt K "Floor" "go" "Floor.go" (inClass (top 62) 9))(Il:DefAt K "is_name" (top 57))(HF:MethAt K "Floor" "put" "Floor.put" (inClass (top 62) 3))(IE:DefAt K "with_speed" (top 58))(HL:MethAt K "Floor" "steer" "Floor.steer" (inClass (top 62) 5))(HQ:MethAt K "Floor" "take" "Floor.take" (inClass (top 62) 4))(Ip:DefAt K "law" (top 74))(Iv:InitAt K "Floor" "Floor.__init__" (inClass (top 62) 0))(NQ:aak K mainGlobals "abs"=some none)(NY:aak K mainGlobals "len"=some none)(N2:aak K mainGlobals "range"=some none)(N0:aak K mainGlobals "max"=some none)(N1:aak K mainGlobals "min"=some none)(NX:aak K mainGlobals "isinstance"=some none)(NW:aak K mainGlobals "int"=some none)(NT:aak K mainGlobals "bool"=some none)(N7:aak K mainGlobals "tuple"=some none)(NZ:aak K mainGlobals "list"=some none)(N6:aak K mainGlobals "str"=some none)(NU:aak K mainGlobals "dict"=some none)(N5:aak K mainGlobals "sorted"=some none)(N4:aak K mainGlobals "set"=some none)(N3:aak K mainGlobals "reversed"=some none)(N8:aak K mainGlobals "zip"=some none)(NV:aak K mainGlobals "enumerate"=some none)(NR:aak K mainGlobals "all"=some none)(NS:aak K mainGlobals "any"=some none)(NP:aak K mainGlobals "ValueError"=some none)(Kr:aak K mainGlobals "Floor"=some (some (.ref C_Floor)))(Ku:aak K mainGlobals "Past"=some (some (.ref C_Past)))(Ks:aak K mainGlobals "GlideError"=some (some (.ref C_GlideError)))(Kq:aak K mainGlobals "Crowded"=some (some (.ref C_Crowded)))(Kt:aak K mainGlobals "NoName"=some (some (.ref C_NoName)))(NM:abJ K C_Past [.type "ValueError",.type "Exception",.type "BaseException",.type "object"] "ValueError.__new__"=true)(LQ:fM K C_Floor=true)(Ls:aaw K (.ref C_Floor) "now"=some none)(Lu:aaw K (.ref C_Floor) "rows"=some none)(NK:qD K C_Past=true)(NG:PySem.W.exmOne K (.ref C_Past) (.ref C_GlideError)=some true)(NH:abn K (.type "NoneType") [.ref C_Past]=some false)(Md:abn K (.ref C_Past) [.ref C_Past]=some true)(NI:abn K (.type "NoneType") [.type "ValueError"]=some false)(Me:abn K (.ref C_Past) [.type "ValueError"]=some true)(NJ:abn K (.type "NoneType") [.ref C_Crowded,.ref C_NoName]=some false)(Mf:abn K (.ref C_Past) [.ref C_Crowded,.ref C_NoName]=some false):
    ∃(a:Addr) (fd:FuncData),mg "law"=some (.ref a)∧(∀(s:Shared) (u:Value),BindsTo s fd ⟨[u],[]⟩ [("script",u)])∧∀base:Heap,K.In base→base.Ns mainGlobals mg→FnOk P w K mg base (CXG P w) 8 a fd ["script"] (Fsp K 1 oj):=by
 have B:Bi mg:=⟨aah KI GN NQ,aah KI GN NY,aah KI GN N2,aah KI GN N0,aah KI GN N1,aah KI GN NX,aah KI GN NW,aah KI GN NT,aah KI GN N7,aah KI GN NZ,aah KI GN N6,aah KI GN NU,aah KI GN N5,aah KI GN N4,aah KI GN N3,aah KI GN N8,aah KI GN NV,aah KI GN NR,aah KI GN NS⟩
 have KG:∀(y:Str)(C:Addr),aC K y C→mg y=some (.ref C):=fun y C hc=>abI KI GN hc
 have A_Floor_now:FldAt K "Floor" "now":=⟨_,Kr,LQ,Ls⟩
 have X_Past:ExcAt K "Past":=Dg Ku NM
 have C__law_past_1:Caught K "GlideError" ["Past"]:=(AI Ks Ku NG AJ)
 have T__law_past_2:IsOwn K "Past" [("Past",true)]:=⟨_,Ku,(rX Ku NK Md (rY NH))⟩
 have T__law_past_3:IsTab K [.type "ValueError"] [("Past",true)]:=(rX Ku NK Me (rY NI))
 have Z_ValueError:mg "ValueError"=none:=aah KI GN NP
 have T__law_past_4:IsMany K ["Crowded","NoName"] [("Past",false)]:=⟨[C_Crowded,C_NoName],(.cons Kq (.cons Kt .nil)),(rX Ku NK Mf (rY NJ))⟩
 have A_Floor_rows:FldAt K "Floor" "rows":=⟨_,Kr,LQ,Lu⟩
 refine CU Ip KI GN (fun _ _ _ _ _ _ us hl=>match us,hl with | [_],_=>rfl) (fun base f fd F=>?_)
 have Jo:=o7 (P:=P) (w:=w) (mg:=mg) (base:=base) Iv A_Floor_now A_Floor_rows
 have IG:=pd (P:=P) (w:=w) (base:=base) HR KI GN B
 have IH:=mh (P:=P) (w:=w) (base:=base) HS KI GN B
 have IP:=kB HZ KI GN B IH
 have II:=o9 HU KI GN B IP
 have IJ:=mf HV KI GN B IH
 have Jm:=xO (P:=P) (w:=w) (base:=base) IC KI GN B
 have Jr:=pf (P:=P) (w:=w) (base:=base) HC B Jm A_Floor_now X_Past KG
 have IK:=o8 (P:=P) (w:=w) (base:=base) HW KI GN B Jr C__law_past_1 T__law_past_2 T__law_past_3 Z_ValueError T__law_past_4 KG
 have IL:=me (P:=P) (w:=w) (base:=base) HX KI GN B
 have IM:=m4 (P:=P) (w:=w) (base:=base) HY KI GN B
 have IT:=m3 (P:=P) (w:=w) (base:=base) Ib KI GN B
 have Jq:=mn (P:=P) (w:=w) (base:=base) HA B A_Floor_now KG
 have Js:=mm (P:=P) (w:=w) (base:=base) HD B A_Floor_rows KG
 have Jt:=kD (P:=P) (w:=w) (base:=base) HG B A_Floor_rows KG
 have Jv:=ml (P:=P) (w:=w) (base:=base) HI B Jt
 have Jw:=mj (P:=P) (w:=w) (base:=base) HJ B Jt
 have IQ:=iR Ia KI GN B IT Jq Js Jv Jw
 have Je:=sf (P:=P) (w:=w) (base:=base) Iq KI GN B
 have Jk:=mZ IA KI GN B Je
 have IU:=xQ Ic KI GN B Jk
 have IZ:=Ap Ij KI GN B IU
 have Jp:=m7 (P:=P) (w:=w) (base:=base) Hz B Jt
 have Jl:=mY (P:=P) (w:=w) (base:=base) IB KI GN B
 have Jf:=qw Ir KI GN B Jl
 have Jx:=jy (P:=P) (w:=w) (base:=base) HK B A_Floor_rows KG
 have IW:=md Ig KI GN B Jl
 have N_Floor_stretches_ahead_of:=eR (P:=P) (w:=w) (base:=base) HP B IW Jx
 have Ju:=kC (P:=P) (w:=w) (base:=base) HH B Jf Jx N_Floor_stretches_ahead_of A_Floor_now KG
 have IV:=so (P:=P) (w:=w) (base:=base) Ie KI GN B
 have Jc:=qy (P:=P) (w:=w) (base:=base) Im KI GN B
 have Ji:=se Iy KI GN B IV Jc
 have Jg:=xP Iu KI GN B Ji
 have IX:=ve (P:=P) (w:=w) (base:=base) Ih KI GN B
 have Ja:=sj (P:=P) (w:=w) (base:=base) Ik KI GN B
 have Jj:=An Iz KI GN B IV Jc
 have IY:=sk Ii KI GN B Jj
 have Jd:=qx Io KI GN B IY
 have Jh:=Ao Iw KI GN B Ji
 have Jz:=i8 (P:=P) (w:=w) (base:=base) HE B Jd Jh Jx A_Floor_rows A_Floor_now KG
 have JC:=iT (P:=P) (w:=w) (base:=base) HN B IX Ja Jf Jx Jz A_Floor_now KG
 have Jy:=qz (P:=P) (w:=w) (base:=base) HB B Jg Jm N_Floor_stretches_ahead_of JC A_Floor_now KG
 have Jb:=si (P:=P) (w:=w) (base:=base) Il KI GN B
 have JA:=pe (P:=P) (w:=w) (base:=base) HF B IZ Jb Jx A_Floor_rows KG
 have Jn:=mX (P:=P) (w:=w) (base:=base) IE KI GN B
 have JB:=mi (P:=P) (w:=w) (base:=base) HL B Jn Jt A_Floor_rows KG
 have JD:=m6 (P:=P) (w:=w) (base:=base) HQ B Jt A_Floor_rows KG
 exact C9 F B IG II IJ IK IL IM IQ IZ Jp Jq Js Ju Jo Jy JA JB JD A_Floor_now A_Floor_rows KG
end Law
def PySem.W.Fast.tw11532356925217815098:=0
def PySem.W.Fast.tw15790416450486710394:=0
def PySem.W.Fast.tw3537190597115424525:=0
def PySem.W.Fast.tw112036630724974294:=0
def PySem.W.Fast.tw14502270463391743355:=0
def PySem.W.Fast.tw7873021044217494667:=0
def PySem.W.Fast.tw15438613010709823585:=0
def PySem.W.Fast.tw17356189623095776914:=0
def PySem.W.Fast.tw14579158724497477391:=0
def PySem.W.Fast.tw1078613668038527430:=0
def PySem.W.Fast.tw14160801964182087009:=0
def PySem.W.Fast.tw12358191732867400391:=0
def PySem.W.Fast.tw8657582001749867503:=0
def PySem.W.Fast.tw11979232939856497683:=0
def PySem.W.Fast.tw11864274609816853670:=0
def PySem.W.Fast.tw17346485280128764209:=0
def PySem.W.Fast.tw10566917913863006729:=0
def PySem.W.Fast.tw13853260341137723479:=0
def PySem.W.Fast.tw13395359489541445458:=0
def PySem.W.Fast.tw12262385967196500669:=0
def PySem.W.Fast.tw7643009345073876707:=0
def PySem.W.Fast.tw6059947273393538179:=0
def PySem.W.Fast.tw2126835970401946311:=0
def PySem.W.Fast.tw17919849055023062062:=0
def PySem.W.Fast.tw2988788595867782536:=0
def PySem.W.Fast.tw3899360322648422064:=0
def PySem.W.Fast.tw3064001430181769589:=0
def PySem.W.Fast.tw10180557267959580306:=0
def PySem.W.Fast.tw13423414469870677584:=0
def PySem.W.Fast.tw14082809101940502825:=0
def PySem.W.Fast.tw5302093371942263205:=0
def PySem.W.Fast.tw15371070025508843053:=0
def PySem.W.Fast.tw4721353011505718731:=0
def PySem.W.Fast.tw325383047347090853 : Nat := 0
def PySem.W.Fast.tw9677729232297551530 : Nat := 0
def PySem.W.Fast.tw15780735002622500653 : Nat := 0
def PySem.W.Fast.tw10693695972429080575 : Nat := 0
def PySem.W.Fast.tw3244642654021137926 : Nat := 0
def PySem.W.Fast.tw18118854395275023898 : Nat := 0
def PySem.W.Fast.tw16699697754146915100 : Nat := 0
def PySem.W.Fast.tw10809954571249353499 : Nat := 0
def PySem.W.Fast.tw2522298676104115812 : Nat := 0
def PySem.W.Fast.tw5271257638452108505 : Nat := 0
def PySem.W.Fast.tw11230133483139052545 : Nat := 0
def PySem.W.Fast.tw324871854591121085 : Nat := 0
def PySem.W.Fast.tw6955965175262962336 : Nat := 0
def PySem.W.Fast.tw17414330085340539311 : Nat := 0
def PySem.W.Fast.tw13788115086893274213 : Nat := 0
def PySem.W.Fast.tw17423449769709351534 : Nat := 0
def PySem.W.Fast.tw260726838798571250 : Nat := 0
def PySem.W.Fast.tw12508597103840767889 : Nat := 0
def PySem.W.Fast.tw9426110092949156114 : Nat := 0
def PySem.W.Fast.tw10096859563430795123 : Nat := 0
def PySem.W.Fast.tw14062744814720421500 : Nat := 0
def PySem.W.Fast.tw15271531282140679834 : Nat := 0
def PySem.W.Fast.tw16029203154759910926 : Nat := 0
def PySem.W.Fast.tw5235051251420352027 : Nat := 0
def PySem.W.Fast.tw14750112466293572921 : Nat := 0
def PySem.W.Fast.tw6491988725939918440 : Nat := 0
def PySem.W.Fast.tw8207348838185482368 : Nat := 0
def PySem.W.Fast.tw14792846917434636514 : Nat := 0
def PySem.W.Fast.tw3841282658641438573 : Nat := 0
def PySem.W.Fast.tw6537070762297001399 : Nat := 0
def PySem.W.Fast.tw15009095927701110507 : Nat := 0
def PySem.W.Fast.tw5464291406192053005 : Nat := 0
def PySem.W.Fast.tw3291899490093985778 : Nat := 0
def PySem.W.Fast.tw18023454775007110726 : Nat := 0
def PySem.W.Fast.tw4456575155883749212 : Nat := 0
def PySem.W.Fast.tw9546463083012993755 : Nat := 0
def PySem.W.Fast.tw14443894669041866743 : Nat := 0
def PySem.W.Fast.tw17444171347561448996 : Nat := 0
def PySem.W.Fast.tw4964414555627144308 : Nat := 0
def PySem.W.Fast.tw9519156128310983689 : Nat := 0
def PySem.W.Fast.tw3492208208853097950 : Nat := 0
def PySem.W.Fast.tw15630439577758854980 : Nat := 0
def PySem.W.Fast.tw2227441723601035029 : Nat := 0
def PySem.W.Fast.tw15595390039065765868 : Nat := 0
def PySem.W.Fast.tw11104604149181051059 : Nat := 0
def PySem.W.Fast.tw8627135896359524198 : Nat := 0
def PySem.W.Fast.tw17117344445422448628 : Nat := 0
def PySem.W.Fast.tw7175443535390963733 : Nat := 0
def PySem.W.Fast.tw5251539662799362567 : Nat := 0
def PySem.W.Fast.tw16824463749865522702 : Nat := 0
def PySem.W.Fast.tw14240124225749517360 : Nat := 0
def PySem.W.Fast.tw9142152958843685879 : Nat := 0
def PySem.W.Fast.tw9343336032935570799 : Nat := 0
def PySem.W.Fast.tw761245665751767460 : Nat := 0
def PySem.W.Fast.tw5866550069647214407 : Nat := 0
def PySem.W.Fast.tw9422568697717286132 : Nat := 0
def PySem.W.Fast.tw3513818222632405830 : Nat := 0
def PySem.W.Fast.tw1397947624482361703 : Nat := 0
def PySem.W.Fast.tw18363027207595575766 : Nat := 0
def PySem.W.Fast.tw3442932800737750397 : Nat := 0
def PySem.W.Fast.tw18440228351438576905 : Nat := 0
def PySem.W.Fast.tw15023224200669231574 : Nat := 0
def PySem.W.Fast.tw1248999533488591744 : Nat := 0
def PySem.W.Fast.tw1995107488166743193 : Nat := 0
def PySem.W.Fast.tw8458286891268324472 : Nat := 0
def PySem.W.Fast.tw8969374671393094274 : Nat := 0
def PySem.W.Fast.tw14685813708567249181 : Nat := 0
def PySem.W.Fast.tw717056175802288422 : Nat := 0
def PySem.W.Fast.tw15771797799702877414 : Nat := 0
def PySem.W.Fast.tw5018553165945081490 : Nat := 0
def PySem.W.Fast.tw6018918957096024370 : Nat := 0
def PySem.W.Fast.tw3013572211102684801 : Nat := 0
def PySem.W.Fast.tw8857378222380130835 : Nat := 0
def PySem.W.Fast.tw8431608152419591259 : Nat := 0
def PySem.W.Fast.tw12884069717164551100 : Nat := 0
def PySem.W.Fast.tw5023165580794089194 : Nat := 0
def PySem.W.Fast.tw9970400353983682351 : Nat := 0
def PySem.W.Fast.tw16693548282846667557 : Nat := 0
def PySem.W.Fast.tw16420141862184793847 : Nat := 0
def PySem.W.Fast.tw2074283984688221034 : Nat := 0
def PySem.W.Fast.tw9189565171471185517 : Nat := 0
def PySem.W.Fast.tw3278395048599782787 : Nat := 0
def PySem.W.Fast.tw4010925795312903065 : Nat := 0
def PySem.W.Fast.tw9898359706778232602 : Nat := 0
def PySem.W.Fast.tw6686428561419202543 : Nat := 0
def PySem.W.Fast.tw1988321652009442683 : Nat := 0
def PySem.W.Fast.tw11060866783486231607 : Nat := 0
def PySem.W.Fast.tw14131355485807131295 : Nat := 0
def PySem.W.Fast.tw16432689477378537031 : Nat := 0
def PySem.W.Fast.tw11080195305888703161 : Nat := 0
open PySem PySem.W PyProof.Rows
set_option maxRecDepth 100000 in
set_option maxHeartbeats 0 in
theorem PySem.Challenge.cw_glide_k35_gliding_alone_holds : PySem.Challenge.rw_glide_k35_gliding_alone.Holds := by
  w_on; o_law; k_head; (case hw => w_witness2)
  k_fill
  refine G.xA (l := PySem.Challenge.rw_glide_k35_gliding_alone) (k := 8) (m := Law.oj) rfl rfl ⟨rfl, by decide, by decide⟩ (fun w h Y => PySem.W.kIn_of Y) rfl ?F Law.EZ
  case F =>
    intro w mg h KX GN
    refine' Law.all_mk KX GN (G.aW ?JU ?M6 ?KS ?Mg) (G.aW ?JV ?M7 ?KU ?Mh) (G.aW ?J1 ?Nd ?K2 ?Mo) (G.aW ?JW ?M8 ?KW ?Mi) (G.aW ?JX ?M9 ?KY ?Mj) (G.aW ?Ko ?ND ?Lq ?ML) (G.b5 ?Kr ?LQ ?JH ?Ly ?MQ ?Ky ?LW) (G.aW ?JY ?Na ?KZ ?Ml) (G.aW ?JZ ?Nb ?K0 ?Mm) (G.aW ?J0 ?Nc ?K1 ?Mn) (G.aW ?J3 ?Ng ?K4 ?Mq) (G.b5 ?Kr ?LQ ?JF ?Lw ?MO ?Kw ?LU) (G.b5 ?Kr ?LQ ?JI ?Lz ?MR ?Kz ?LX) (G.b5 ?Kr ?LQ ?JL ?LD ?MU ?KD ?L4) (G.b5 ?Kr ?LQ ?JN ?LH ?MX ?KJ ?L6) (G.b5 ?Kr ?LQ ?JO ?LJ ?MY ?KL ?L7) (G.aW ?J2 ?Nf ?K3 ?Mp) (G.aW ?Kf ?Nu ?Lh ?MC) (G.aW ?Km ?NB ?Lo ?MJ) (G.aW ?J4 ?Nh ?K5 ?Mr) (G.aW ?J9 ?Nm ?La ?Mw) (G.b5 ?Kr ?LQ ?JE ?Lv ?MN ?Kv ?LR) (G.aW ?Kn ?NC ?Lp ?MK) (G.aW ?Kg ?Nv ?Li ?MD) (G.b5 ?Kr ?LQ ?JP ?LK ?MZ ?KN ?L8) (G.aW ?J6 ?Nj ?K7 ?Mt) (G.b5 ?Kr ?LQ ?JS ?LN ?M4 ?KQ ?Mb) (G.b5 ?Kr ?LQ ?JM ?LG ?MV ?KH ?L5) (G.aW ?J5 ?Ni ?K6 ?Ms) (G.aW ?Kc ?Nq ?Ld ?Mz) (G.aW ?Kk ?Nz ?Lm ?MH) (G.aW ?Kh ?Nw ?Lj ?ME) (G.aW ?J7 ?Nk ?K8 ?Mu) (G.aW ?Ka ?Nn ?Lb ?Mx) (G.aW ?Kl ?NA ?Ln ?MI) (G.aW ?J8 ?Nl ?K9 ?Mv) (G.aW ?Kd ?Nr ?Lf ?MA) (G.aW ?Kj ?Ny ?Ll ?MG) (G.b5 ?Kr ?LQ ?JJ ?LA ?MS ?KA ?LY) (G.b5 ?Kr ?LQ ?JR ?LM ?M3 ?KP ?Ma) (G.b5 ?Kr ?LQ ?JG ?Lx ?MP ?Kx ?LV) (G.aW ?Kb ?Np ?Lc ?My) (G.b5 ?Kr ?LQ ?JK ?LC ?MT ?KC ?LZ) (G.aW ?Kp ?NF ?Lr ?MM) (G.b5 ?Kr ?LQ ?JQ ?LL ?M0 ?KO ?L9) (G.b5 ?Kr ?LQ ?JT ?LO ?M5 ?KR ?Mc) (G.aW ?Ke ?Nt ?Lg ?MB) (G.Am ?Kr ?LQ ?NL ?NO ?Ki ?LP ?Nx ?Lk ?MF) ?NQ ?NY ?N2 ?N0 ?N1 ?NX ?NW ?NT ?N7 ?NZ ?N6 ?NU ?N5 ?N4 ?N3 ?N8 ?NV ?NR ?NS ?NP ?Kr ?Ku ?Ks ?Kq ?Kt ?NM ?LQ ?Ls ?Lu ?NK ?NG ?NH ?Md ?NI ?Me ?NJ ?Mf
    (case Kr=>(try unfold G.aC); k_is);(case Ku=>(try unfold G.aC); k_is);(case Ks=>(try unfold G.aC); k_is);(case Kq=>(try unfold G.aC); k_is);(case Kt=>(try unfold G.aC); k_is);(case JU=>k_is);(case M6=>k_is);(case KS=>k_is);(case Mg=>k_is);(case JV=>k_is);(case M7=>k_is);(case KU=>k_is);(case Mh=>k_is);(case J1=>k_is);(case Nd=>k_is);(case K2=>k_is);(case Mo=>k_is);(case JW=>k_is);(case M8=>k_is);(case KW=>k_is);(case Mi=>k_is);(case JX=>k_is);(case M9=>k_is);(case KY=>k_is);(case Mj=>k_is);(case Ko=>k_is);(case ND=>k_is);(case Lq=>k_is);(case ML=>k_is);(case JH=>k_is);(case Ly=>k_is);(case MQ=>k_is);(case Ky=>k_is);(case LW=>k_is);(case JY=>k_is);(case Na=>k_is);(case KZ=>k_is);(case Ml=>k_is);(case JZ=>k_is);(case Nb=>k_is);(case K0=>k_is);(case Mm=>k_is);(case J0=>k_is);(case Nc=>k_is);(case K1=>k_is);(case Mn=>k_is);(case J3=>k_is);(case Ng=>k_is);(case K4=>k_is);(case Mq=>k_is);(case JF=>k_is);(case Lw=>k_is);(case MO=>k_is);(case Kw=>k_is);(case LU=>k_is);(case JI=>k_is);(case Lz=>k_is);(case MR=>k_is);(case Kz=>k_is);(case LX=>k_is);(case JL=>k_is);(case LD=>k_is);(case MU=>k_is);(case KD=>k_is);(case L4=>k_is);(case JN=>k_is);(case LH=>k_is);(case MX=>k_is);(case KJ=>k_is);(case L6=>k_is);(case JO=>k_is);(case LJ=>k_is);(case MY=>k_is);(case KL=>k_is);(case L7=>k_is);(case J2=>k_is);(case Nf=>k_is);(case K3=>k_is);(case Mp=>k_is);(case Kf=>k_is);(case Nu=>k_is);(case Lh=>k_is);(case MC=>k_is);(case Km=>k_is);(case NB=>k_is);(case Lo=>k_is);(case MJ=>k_is);(case J4=>k_is);(case Nh=>k_is);(case K5=>k_is);(case Mr=>k_is);(case J9=>k_is);(case Nm=>k_is);(case La=>k_is);(case Mw=>k_is);(case JE=>k_is);(case Lv=>k_is);(case MN=>k_is);(case Kv=>k_is);(case LR=>k_is);(case Kn=>k_is);(case NC=>k_is);(case Lp=>k_is);(case MK=>k_is);(case Kg=>k_is);(case Nv=>k_is);(case Li=>k_is);(case MD=>k_is);(case JP=>k_is);(case LK=>k_is);(case MZ=>k_is);(case KN=>k_is);(case L8=>k_is);(case J6=>k_is);(case Nj=>k_is);(case K7=>k_is);(case Mt=>k_is);(case JS=>k_is);(case LN=>k_is);(case M4=>k_is);(case KQ=>k_is);(case Mb=>k_is);(case JM=>k_is);(case LG=>k_is);(case MV=>k_is);(case KH=>k_is);(case L5=>k_is);(case J5=>k_is);(case Ni=>k_is);(case K6=>k_is);(case Ms=>k_is);(case Kc=>k_is);(case Nq=>k_is);(case Ld=>k_is);(case Mz=>k_is);(case Kk=>k_is);(case Nz=>k_is);(case Lm=>k_is);(case MH=>k_is);(case Kh=>k_is);(case Nw=>k_is);(case Lj=>k_is);(case ME=>k_is);(case J7=>k_is);(case Nk=>k_is);(case K8=>k_is);(case Mu=>k_is);(case Ka=>k_is);(case Nn=>k_is);(case Lb=>k_is);(case Mx=>k_is);(case Kl=>k_is);(case NA=>k_is);(case Ln=>k_is);(case MI=>k_is);(case J8=>k_is);(case Nl=>k_is);(case K9=>k_is);(case Mv=>k_is);(case Kd=>k_is);(case Nr=>k_is);(case Lf=>k_is);(case MA=>k_is);(case Kj=>k_is);(case Ny=>k_is);(case Ll=>k_is);(case MG=>k_is);(case JJ=>k_is);(case LA=>k_is);(case MS=>k_is);(case KA=>k_is);(case LY=>k_is);(case JR=>k_is);(case LM=>k_is);(case M3=>k_is);(case KP=>k_is);(case Ma=>k_is);(case JG=>k_is);(case Lx=>k_is);(case MP=>k_is);(case Kx=>k_is);(case LV=>k_is);(case Kb=>k_is);(case Np=>k_is);(case Lc=>k_is);(case My=>k_is);(case JK=>k_is);(case LC=>k_is);(case MT=>k_is);(case KC=>k_is);(case LZ=>k_is);(case Kp=>k_is);(case NF=>k_is);(case Lr=>k_is);(case MM=>k_is);(case JQ=>k_is);(case LL=>k_is);(case M0=>k_is);(case KO=>k_is);(case L9=>k_is);(case JT=>k_is);(case LO=>k_is);(case M5=>k_is);(case KR=>k_is);(case Mc=>k_is);(case Ke=>k_is);(case Nt=>k_is);(case Lg=>k_is);(case MB=>k_is);(case NL=>k_is);(case NO=>k_is);(case Ki=>k_is);(case LP=>k_is);(case Nx=>k_is);(case Lk=>k_is);(case MF=>k_is);(case NQ=>k_is);(case NY=>k_is);(case N2=>k_is);(case N0=>k_is);(case N1=>k_is);(case NX=>k_is);(case NW=>k_is);(case NT=>k_is);(case N7=>k_is);(case NZ=>k_is);(case N6=>k_is);(case NU=>k_is);(case N5=>k_is);(case N4=>k_is);(case N3=>k_is);(case N8=>k_is);(case NV=>k_is);(case NR=>k_is);(case NS=>k_is);(case NP=>k_is);(case NM=>kernel_rfl);(case LQ=>kernel_rfl);(case Ls=>k_is);(case Lu=>k_is);(case NK=>kernel_rfl);(case NG=>kernel_rfl);(case NH=>kernel_rfl);(case Md=>kernel_rfl);(case NI=>kernel_rfl);(case Me=>kernel_rfl);(case NJ=>kernel_rfl);(case Mf=>kernel_rfl)
