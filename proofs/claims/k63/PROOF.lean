import PyProof.Rows.All
import Wide.All
import OpenK.AllK
import Wide.FinOn
import Lean
import PyProof.EqAt
import PyProof.EqKinds
import PyProof.TupleCall
import KE.KTryMore
import PyProof.ExcArgs
import PyProof.ConsumeWalk
import PyProof.P3Eq
import KE.KRevIter
import PyProof.ListRange
import PyProof.Rows.SumAny
import KE.KSortTup
import PyProof.SetScanFacts
import PyProof.TupleKey
import PyProof.DictRoadsH
import PyProof.SetRoads
import KE.KTabLook
import PyProof.Rows.ListMul
import PyProof.InstStoreFacts
import PyProof.Rows.SetFrom
import PyProof.AutoListH
import PyProof.StrCalls2
import PyProof.MeetsSeq
import PyProof.DictCompW
import KE.KSortKey
import PyProof.SliceStr2
import PyProof.StrWalks
import PyProof.StrOps2
import PyProof.StrLawsIdx
import PyProof.StrLawsTight
import PyProof.StrLawsChain
import PyProof.Rows.StrSplitCount
import KE.KIntText
import PyProof.MaxThree
import PySem.Challenge.RW_heightrings_k63_least_kept
open List renaming getD_eq_getElem?_getD → agp,getElem?_eq_getElem → agq,length_map → agr,getElem?_eq_some_iff → agu,mem_cons_of_mem → agw,getElem?_append_left → agx,getElem?_map → agy,getElem?_append_right → agA,mem_cons → agC,mem_cons_self → agD,size_toArray → agE,mem_append_right → agH,mem_of_getElem? → agJ,range → agK,length_append → agL,length_cons → agM,mem_singleton → agO,getElem?_eq_none → agR,mem_range → agS,reverse_cons → agU,lookup_cons → agW,length_range → ag3,mem_append → ag5,getElem?_set_self → ag7,length_take → ag8,toArray → ag9,getElem?_range → ahb,map_cons → ahd,mem_map → ahf,map_append → ahg,mem_append_left → ahn,getElem?_set_ne → aho,append_nil → ahq,nodup_cons → ahr,getElem_of_mem → aht,getElem_mem → ahx,length_singleton → ahz,length_set → ahA,map_map → ahC,getElem?_take_of_lt → ahE,getElem?_replicate → ahK,mem_filterMap → ahN,pairwise_map → ahU,replicate → ahW,all_eq_true → ahY,filterMap_cons → ah1,pairwise_cons → ah6,take_of_length_le → aib,take_add_one → aic,length_replicate → aii,getElem_inj → aik,length_drop → ail,take_length → aio,map_take → air,map → ait,mem_filter → aiu,map_congr_left → aiy,reverse_append → aiz,getElem?_drop → aiE,nodup_nil → aiG,pairwise_iff_getElem → aiI,ext_getElem? → aiN,append_assoc → aiO,nodup_range → aiQ,getElem?_cons_succ → aiR,mem_reverse → aiS,pairwise_singleton → aiU,of_mem_zip → ai1,reverse_reverse → ajb,mem_of_mem_take → ajf,length_reverse → aji,map_drop → ajn
open PySem.W renaming Frag → ags,mg_none_of → agV,kia_one → agX,codeIn → agY,kitOne → agZ,codeHdIn → ag1,keepIn → ag4,nsIn → aha,fnOf → ahc,tabObj → ahI,findIn → ahJ,cellsFrom_some → ahP,methodObj → aiK,specialIn → aiL,kitx_list → aiM,Frag → aiZ,instObj → ai0,kla_obj → ai3,lookIn → ai8,codeHd_of_K → ajj,mg_of → ajl
open PySem.Heap renaming get?_push_of_some → agt,lt_size → agB,get?_push_size → agI,get?_update_self → ahy,get?_update_other → ahQ,SameBut → ahX,size_push → aia
open Nat renaming le_refl → agv,lt_of_lt_of_le → agG,le_of_ble_eq_true → agN,ne_of_lt → agP,zero_le → agT,le_trans → ag2,not_lt_zero → ag6,lt_succ_of_lt → ahe,sub_self → ahw,le_of_lt → ahB,lt_irrefl → ahD,zero_lt_succ → ahZ,ne_of_gt → ah8,le_of_succ_le → ah9,lt_succ_of_le → aid,lt_succ_self → ain,le_add_right → aip,pow_le_pow_right → ais,min_eq_left → aiv,lt_succ_iff → aiw,le_of_eq → aiV,lt_of_succ_lt_succ → aiW,min_le_left → ai4,not_lt → ajo,succ_pos → ajp,pow_succ → ajq
open Bool renaming false_ne_true → agz,not_true → ahk,and_eq_true → ahL,false_and → aiC,false_eq_true → aiD,not_false → ajd
open Array renaming length_toList → agF,getElem?_eq_getElem → ahj,getD_eq_getD_getElem? → ahv,getD → ahF,getElem?_eq_none → aie,getElem?_toList → aij,replicate → aix,getElem?_eq_some_iff → aiF,size_map → aja,toList_append → ajk
open Int renaming toNat_natCast → agQ,emod_lt_of_pos → ahR,mul_nonneg → aif,natAbs_mul → aiH,toNat → aiT,emod_nonneg → ai2,mul_le_mul → ajg,le_refl → ajr
open PySem renaming boot_len → ag0,mem_of_lookup → ahG
open PySem.PassesOwn renaming never → ahh
open Classical renaming byContradiction → ahi,epsilon_spec → aiY
open PySem.F renaming slot_list_append → ahl,type_list_append → ahm,plainAttrs_list → ahp,called_set → ahS,slot_set_iter → ai6,args_list_append_2 → ai9,entry_list_append → ajh
open PySem.PyData renaming depthAll → ahs,canLayAll0 → ahV,eqv → ah7
open PyProof.Rows.F renaming plain_set_update_loop → ahu
open PySem.Heap.SameBut renaming update → ahH
open PySem.SeqAt renaming eqv_refl → ahM
open False renaming elim → ahO
open PyProof.Rows renaming callWith_type1 → ahT,boot_list → aih
open Option renaming isNone_iff_eq_none → ah0,isSome_iff_exists → ah3
open PySem.Builtin.Int renaming intBits → ah2,intTooBig → ai5
open PySem.SetTable renaming toList_insertAt → ah4,fill → aiP,fits → ajm
open Ne renaming symm → ah5
open PySem.Obj renaming mapSeq → aim,mapFields → aiq,putSet → aiX,isFreed_of_fields → ai7
open PySem.Builtin.List renaming listLengthHint → aiA
open PySem.Calls renaming Name_function_global → aiB
open PySem.Builtin.SmallTypes renaming nextOf → aiJ
open PySem.KeyKind renaming is_eq_decide → ajc
open PySem.Around renaming under_plainId → aje
set_option Elab.async false
set_option linter.all false
set_option maxRecDepth 100000
set_option maxHeartbeats 4000000
section
namespace L2
open PySem PySem.Spec PyProof.Rows
noncomputable abbrev Key:=Sum Int Str
noncomputable def aeq:Key->Value->Bool
 | .inl k,v=>Value.isInt k v
 | .inr x,v=>Value.isStrOf x v
noncomputable def agc (w:World):Key->Int
 | .inl k=>hashInt k
 | .inr x=>hashStr w x
theorem zM:∀ {k:Key} {v:Value},aeq k v=true->(∃ i t,k=Sum.inl i/\v=Value.int i t) \/ (∃ x t,k=Sum.inr x/\v=Value.str x t)
 | .inl i,v,h=>by
  obtain⟨t,e⟩:=Value.isInt_shape (k:=i) (v:=v) h
  exact .inl ⟨i,t,rfl,e⟩
 | .inr x,v,h=>by
  obtain⟨t,e⟩:=Value.isStrOf_shape (x:=x) (v:=v) h
  exact .inr ⟨x,t,rfl,e⟩
theorem aeN (a b:Int):decide ((Sum.inl a:Key)=Sum.inl b)=(a == b):=by
 by_cases e:a=b
 ·subst e;simp
 ·have h:¬ (Sum.inl a:Key)=Sum.inl b:=fun q=>e (Sum.inl.inj q)
  rw [decide_eq_false h]
  exact (beq_eq_false_iff_ne.mpr e).symm
theorem aeO (a b:Str):decide ((Sum.inr a:Key)=Sum.inr b)=decide (a=b):=by
 by_cases e:a=b
 ·subst e;simp
 ·have h:¬ (Sum.inr a:Key)=Sum.inr b:=fun q=>e (Sum.inr.inj q)
  rw [decide_eq_false h,decide_eq_false e]
theorem aeP (a:Int) (b:Str):decide ((Sum.inl a:Key)=Sum.inr b)=false:=decide_eq_false (fun q=>nomatch q)
theorem aeQ (a:Str) (b:Int):decide ((Sum.inr a:Key)=Sum.inl b)=false:=decide_eq_false (fun q=>nomatch q)
noncomputable def vm (prog:Program) (w:World):PySem.KeyKind prog w Key where
 is:=aeq
 hash:=agc w
 inj:=fun v a b ha hb=>by
  rcases zM ha with⟨i,t,rfl,rfl⟩ | ⟨x,t,rfl,rfl⟩
  ·rcases zM hb with⟨j,u,rfl,e⟩ | ⟨y,u,rfl,e⟩
   ·injection e with e1 _;rw [e1]
   ·exact nomatch e
  ·rcases zM hb with⟨j,u,rfl,e⟩ | ⟨y,u,rfl,e⟩
   ·exact nomatch e
   ·injection e with e1 _;rw [e1]
 byValue:=fun k v h=>by
  rcases zM h with⟨i,t,rfl,rfl⟩ | ⟨x,t,rfl,rfl⟩ <;> rfl
 pyHash:=fun hv h=>by
  rcases zM hv with⟨i,t,rfl,rfl⟩ | ⟨x,t,rfl,rfl⟩
  ·exact wpAny_pyHash_int h
  ·exact wpAny_pyHash_str h
 eqBool:=fun hu hv h=>by
  rcases zM hu with⟨i,t,rfl,rfl⟩ | ⟨x,t,rfl,rfl⟩
  ·rcases zM hv with⟨j,u,rfl,rfl⟩ | ⟨y,u,rfl,rfl⟩
   ·rw [aeN] at h;exact wpAny_eqBool_int h
   ·rw [aeP] at h;exact SeqAt.EqAt.int_str i t y u _ _ _ _ h
  ·rcases zM hv with⟨j,u,rfl,rfl⟩ | ⟨y,u,rfl,rfl⟩
   ·rw [aeQ] at h;exact SeqAt.EqAt.str_int x t j u _ _ _ _ h
   ·rw [aeO] at h;exact wpAny_eqBool_str h
 «strs»:=fun k x t v h=>by
  rcases zM h with⟨i,u,rfl,e⟩ | ⟨y,u,rfl,e⟩
  ·exact nomatch e
  ·injection e with e1 _
   subst e1
   cases v <;> rfl
inductive V where
 | non | bl (b:Bool) | int (i:Int) | str (x:Str) | byt (b:Array UInt8) | flt (b:UInt64) | ref (a:Addr) | ty (n:String)
 deriving DecidableEq
noncomputable def RelV:V->Value->Prop
 | .non,u=>u=Value.none
 | .bl b,u=>u=Value.bool b
 | .int i,u=>∃ t,u=Value.int i t
 | .str x,u=>∃ t,u=Value.str x t
 | .byt b,u=>∃ t,u=Value.bytes b t
 | .flt b,u=>∃ t,u=Value.float b t
 | .ref a,u=>u=Value.ref a
 | .ty n,u=>u=Value.type n
noncomputable abbrev Vals:List V->List Value->Prop:=Paired RelV
theorem Vals.length {xs:List V} {us:List Value} (r:Vals xs us):xs.length=us.length:=Paired.length r
theorem Vals.get:∀ {xs:List V} {us:List Value} {i:Nat} {x:V},Vals xs us->xs[i]?=some x->∃ u,us[i]?=some u/\RelV x u
 | _,_,_,_,.nil,e=>by simp at e
 | _,_,0,_,.cons r _,e=>by simp at e;subst e;exact⟨_,rfl,r⟩
 | _,_,i+1,x,.cons _ t,e=>by
  obtain⟨u,h1,h2⟩:=Vals.get (i:=i) (x:=x) t (by simpa using e)
  exact⟨u,by simpa using h1,h2⟩
theorem Vals.set {x:V} {u:Value} (r:RelV x u):∀ {xs:List V} {us:List Value} (i:Nat),Vals xs us->Vals (xs.set i x) (us.set i u)
 | _,_,_,.nil=>.nil
 | _,_,0,.cons _ t=>.cons r t
 | _,_,i+1,.cons q t=>.cons q (Vals.set r i t)
theorem Vals.append:∀ {xs ys:List V} {us ws:List Value},Vals xs us->Vals ys ws->Vals (xs++ys) (us++ws)
 | _,_,_,_,.nil,s=>s
 | _,_,_,_,.cons r t,s=>.cons r (Vals.append t s)
theorem Vals.take:∀ {xs:List V} {us:List Value} (n:Nat),Vals xs us->Vals (xs.take n) (us.take n)
 | _,_,0,_=>.nil
 | _,_,_+1,.nil=>.nil
 | _,_,n+1,.cons r t=>.cons r (Vals.take n t)
theorem Vals.drop:∀ {xs:List V} {us:List Value} (n:Nat),Vals xs us->Vals (xs.drop n) (us.drop n)
 | _,_,0,r=>r
 | _,_,_+1,.nil=>.nil
 | _,_,n+1,.cons _ t=>Vals.drop n t
noncomputable def aeR:Option V->Option Value->Prop
 | some v,some u=>RelV v u
 | none,none=>True
 | _,_=>False
noncomputable def KV {κ:Type}:List (κ×V)->List (κ×Value)->Prop:=Paired fun (p:κ×V) (q:κ×Value)=>p.1=q.1/\RelV p.2 q.2
noncomputable def kV:Key->V
 | .inl i=>.int i
 | .inr x=>.str x
inductive HO where
  | lst (xs:List V)
  | tup (xs:List V)
  | dK (kvs:List (Key×V)) | dT (kvs:List (List Key×V))
  | set (S:Int->Bool) (n:Nat)
  | ins (C dx:Addr) (fs:List (Str×V))
  | own (x:Addr)
  | xd (fs:List (Str×V))
  | met (f x:Addr)
  | rng (lo hi:Int)
  | frz (o:Obj) (u:HO)
  | tbl (q:Str)
  | ext (φ:Heap->Prop)
noncomputable abbrev Hp:=Addr->Option HO
noncomputable def upd (H:Hp) (a:Addr) (o:HO):Hp:=fun b=>if b=a then some o else H b
theorem zo {H:Hp} {a:Addr} {o:HO}:upd H a o a=some o:=by unfold upd;rw [if_pos rfl]
theorem zl {H:Hp} {a b:Addr} {o:HO} (h:b≠a):upd H a o b=H b:=by unfold upd;rw [if_neg h]
theorem zA {H:Hp} {a b:Addr} {o:HO} (h:H a=some o) (h':H b=none):a≠b:=by
 intro e;subst e;rw [h] at h';cases h'
section
variable (P:Program) (w:World)
noncomputable def ObjOk (H:Hp) (h:Heap) (a:Addr):HO->Prop
 | .lst xs=>xs.length<=sizeLine/\∃ (its:List Value) (n:Nat),Vals xs its/\h.get? a=some { cls:=.type "list",data:=.seq its.toArray n }
 | .tup xs=>xs.length<=sizeLine/\∃ its:List Value,Vals xs its/\IsTup h a its.toArray
 | .dK kvs=>kvs.length<=sizeLine/\(a == sysModules)=false/\∃ vs,KV kvs vs/\h.DictOf (vm P w) a vs
 | .dT kvs=>kvs.length<=sizeLine/\(a == sysModules)=false/\∃ xs:List (List Key×Addr×Value),
   Paired (fun (p:List Key×V) (q:List Key×Addr×Value)=>p.1=q.1/\H q.2.1=some (.tup (p.1.map kV))/\RelV p.2 q.2.2) kvs xs /\
   ∃ o es ep,h.get? a=some o/\o.ExactDict/\o.data=.dict es ep/\es.toList=xs.map (entryOfKey (tupleKind (vm P w)))/\(xs.map (·.1)).Nodup
 | .set S n=>h.SetOf (intKind P w) a S n
 | .ins C dx fs=>H dx=some (.own a)/\fs.length<=1000/\dx≠a/\h.get? a=some (ai0 C dx) /\
   ∃ mA,h.Ns1 dx mA/\(∀ f,aeR (fs.lookup f) (mA f))/\PySem.Within mA (fs.map (·.1))
 | .own _=>∃ o,h.get? a=some o
 | .xd fs=>∃ mA,h.Ns1 a mA/\∀ f,aeR (fs.lookup f) (mA f)
 | .rng lo hi=>∃ t u v,h.get? a=some { cls:=.type "range",data:=.fields #[.int lo t,.int hi u,.int 1 v] }
 | .frz o u=>h.get? a=some o/\ObjOk H h a u
 | .tbl q=>∃ ps,h.get? a=some (ahI ps)/\TriplesOk ps.toList/\∀ pos cv,codeAmong pos ps.toList=some cv->∃ c,cv=.ref c/\H c=some (.own a)/\h.CodeRec (.ref c) q
 | .met f x=>h.get? a=some (aiK (.ref f) (.ref x))
 | .ext φ=>φ h/\(∃ o,h.get? a=some o)/\∀ h1 h2:Heap,φ h1->(∀ o,h1.get? a=some o->h2.get? a=some o)->φ h2
noncomputable def HOk (H:Hp) (h:Heap):Prop:=∀ a o,H a=some o->ObjOk P w H h a o
end
section
variable {P:Program} {w:World} {H H':Hp} {h h':Heap} {a:Addr} {o:HO}
theorem ObjOk.lt (x:ObjOk P w H h a o):a<h.objs.size:=by
 cases o with
 | lst xs=>obtain⟨_,_,_,_,e⟩:=x;exact agB e
 | tup xs=>obtain⟨_,_,_,p⟩:=x;exact p.lt
 | dK kvs=>obtain⟨_,_,_,_,o,_,_,e,_⟩:=x;exact agB e
 | dT kvs=>obtain⟨_,_,_,_,o,_,_,e,_⟩:=x;exact agB e
 | set S n=>obtain⟨o,_,_,_,e,_⟩:=x;exact agB e
 | ins C dx fs=>obtain⟨_,_,_,e,_⟩:=x;exact agB e
 | own y=>obtain⟨_,e⟩:=x;exact agB e
 | xd fs=>obtain⟨_,⟨_,_,_,e,_⟩,_⟩:=x;exact agB e
 | rng lo hi=>obtain⟨_,_,_,e⟩:=x;exact agB e
 | frz ob u=>obtain⟨e,_⟩:=x;exact agB e
 | tbl q=>obtain⟨_,e,_⟩:=x;exact agB e
 | met f y=>exact agB (show h.get? a=some _ from x)
 | ext φ=>obtain⟨_,⟨_,e⟩,_⟩:=x;exact agB e
theorem Paired.mapP {α β:Type} {F G:α->β->Prop}:∀ {l₁:List α} {l₂:List β},Paired F l₁ l₂->(∀ a b,F a b->G a b)->Paired G l₁ l₂
 | _,_,.nil,_=>.nil
 | _,_,.cons r t,f=>.cons (f _ _ r) (Paired.mapP t f)
theorem ObjOk.stay (x:ObjOk P w H h a o) (k:∀ b u,(b=a \/ H b=some (.own a))->h.get? b=some u->h'.get? b=some u)
  (ho:∀ b,H b=some (.own a)->H' b=some (.own a)) (ht:∀ b xs,H b=some (.tup xs)->H' b=some (.tup xs)):ObjOk P w H' h' a o:=by
 induction o with
 | lst xs=>obtain⟨z,its,n,r,e⟩:=x;exact⟨z,its,n,r,k _ _ (.inl rfl) e⟩
 | tup xs=>obtain⟨z,its,r,ob,e,c⟩:=x;exact⟨z,its,r,ob,k _ _ (.inl rfl) e,c⟩
 | dK kvs=>obtain⟨z,y,vs,r,ob,es,ep,e,c⟩:=x;exact⟨z,y,vs,r,ob,es,ep,k _ _ (.inl rfl) e,c⟩
 | dT kvs =>
  obtain⟨z,y,xs,r,ob,es,ep,e,c⟩:=x
  exact⟨z,y,xs,Paired.mapP r fun p q z=>⟨z.1,ht _ _ z.2.1,z.2.2⟩,ob,es,ep,k _ _ (.inl rfl) e,c⟩
 | set S n=>obtain⟨ob,es,ep,t,e,c⟩:=x;exact⟨ob,es,ep,t,k _ _ (.inl rfl) e,c⟩
 | ins C dx fs =>
  obtain⟨d,z,ne,e,mA,⟨od,es,ep,e2,c⟩,r⟩:=x
  exact⟨ho _ d,z,ne,k _ _ (.inl rfl) e,mA,⟨od,es,ep,k _ _ (.inr d) e2,c⟩,r⟩
 | own y=>obtain⟨ob,e⟩:=x;exact⟨ob,k _ _ (.inl rfl) e⟩
 | xd fs=>obtain⟨mA,⟨od,es,ep,e,c⟩,r⟩:=x;exact⟨mA,⟨od,es,ep,k _ _ (.inl rfl) e,c⟩,r⟩
 | rng lo hi=>obtain⟨t,u,v,e⟩:=x;exact⟨t,u,v,k _ _ (.inl rfl) e⟩
 | frz ob u ih=>obtain⟨e,q⟩:=x;exact⟨k _ _ (.inl rfl) e,ih q⟩
 | tbl q =>
  obtain⟨ps,e,tr,r⟩:=x
  refine⟨ps,k _ _ (.inl rfl) e,tr,fun pos cv z=>?_⟩
  obtain⟨c,ec,hc,c2,oc,vs,tq,e2,e3,e4,e5⟩:=r pos cv z
  cases e2
  exact⟨c,ec,ho _ hc,c,oc,vs,tq,rfl,k _ _ (.inr hc) e3,e4,e5⟩
 | met f y =>
  have e:h.get? a=some (aiK (.ref f) (.ref y)):=x
  show h'.get? a=some (aiK (.ref f) (.ref y))
  exact k a _ (.inl rfl) e
 | ext φ=>obtain⟨p,⟨o,e⟩,st⟩:=x;exact⟨st _ _ p fun o q=>k _ _ (.inl rfl) q,⟨o,k _ _ (.inl rfl) e⟩,st⟩
theorem HOk.lt (x:HOk P w H h) (e:H a=some o):a<h.objs.size:=(x a o e).lt
theorem HOk.fresh (x:HOk P w H h) (e:h.objs.size<=a):H a=none:=by
 cases q:H a with
 | none=>rfl
 | some u=>exact absurd (agG (x.lt q) e) (ahD _)
theorem HOk.kept (x:HOk P w H h) (k:∀ b u,h.get? b=some u->h'.get? b=some u):HOk P w H h':=fun a o e =>
 (x a o e).stay (fun b u _ q=>k b u q) (fun _ q=>q) fun _ _ q=>q
theorem HOk.laid (x:HOk P w H h) (k:∀ b u,h.get? b=some u->h'.get? b=some u) (hp:h.objs.size<=a) (new:ObjOk P w (upd H a o) h' a o):HOk P w (upd H a o) h':=fun b u e=>by
 have hn:=x.fresh hp
 by_cases hb:b=a
 ·subst hb;rw [zo] at e;cases e;exact new
 ·rw [zl hb] at e
  exact (x b u e).stay (fun c v _ q=>k c v q) (fun c q=>by rw [zl (zA q hn)];exact q) fun c xs q=>by rw [zl (zA q hn)];exact q
end
noncomputable def Rd (H:Hp) (a:Addr) (u:HO):Prop:=H a=some u \/ ∃ o,H a=some (.frz o u)
theorem Rd.ok {P:Program} {w:World} {H:Hp} {h:Heap} {a:Addr} {u:HO} (r:Rd H a u) (x:HOk P w H h):ObjOk P w H h a u:=by
 rcases r with r | ⟨o,r⟩
 ·exact x a u r
 ·obtain⟨_,q⟩:=x a _ r
  exact q
noncomputable def Mut:Option HO->Prop
 | some (.lst _)=>True
 | some (.dK _)=>True
 | some (.dT _)=>True
 | some (.set _ _)=>True
 | some (.ins _ _ _)=>True
 | some (.ext _)=>True
 | _=>False
section
variable {P:Program} {w:World} {H:Hp} {h h':Heap} {x e:Addr} {o':HO}
theorem HOk.write (ok:HOk P w H h) (mu:Mut (H x)) (he:e=x \/ H e=some (.own x)) (k:∀ b u,b≠e->h.get? b=some u->h'.get? b=some u) (heo:∃ u,h'.get? e=some u)
  (new:ObjOk P w (upd H x o') h' x o'):HOk P w (upd H x o') h':=fun b u q=>by
 have nown:∀ c y,H c=some (.own y)->c≠x:=fun c y r z=>by subst z;rw [r] at mu;exact mu
 have ntup:∀ c xs,H c=some (.tup xs)->c≠x:=fun c xs r z=>by subst z;rw [r] at mu;exact mu
 by_cases hb:b=x
 ·subst hb;rw [zo] at q;cases q;exact new
 ·rw [zl hb] at q
  by_cases hbe:b=e
  ·have q':H b=some (.own x):=by
    rcases he with z | z
    ·exact absurd (hbe.trans z) hb
    ·rw [hbe];exact z
   rw [q] at q';cases q'
   obtain⟨v,hv⟩:=heo
   exact⟨v,by rw [hbe];exact hv⟩
  ·refine (ok b u q).stay (fun c v hc r=>k c v ?_ r) (fun c r=>by rw [zl (nown c b r)];exact r) fun c xs r=>by rw [zl (ntup c xs r)];exact r
   rcases hc with rfl | hc
   ·exact hbe
   ·rintro rfl
    rcases he with z | z
    ·exact nown c b hc z
    ·rw [hc] at z;cases z;exact hb rfl
end
structure Un (fs ex:List Addr) (H H':Hp) (h h':Heap):Prop where
 keep:∀ b o,h.get? b=some o->H b=none->b∉fs->b∉ex->h'.get? b=some o
 slot:∀ b o,h.get? b=some o->H b=none->b∈fs->b∉ex->∃ sl,h'.get? b=some { o with slots:=sl }
 free:∀ b o,h.get? b=some o->H b=none->b∉ex->H' b=none
 there:∀ b o,h.get? b=some o->b∉ex->∃ o',h'.get? b=some o'
 tups:∀ b xs,H b=some (.tup xs)->H' b=some (.tup xs)
 frzs:∀ b o u,H b=some (.frz o u)->H' b=some (.frz o u)
 tbls:∀ b q,H b=some (.tbl q)->H' b=some (.tbl q)
section
variable {fs fs' ex ex':List Addr} {H H1 H2:Hp} {h h1 h2 h':Heap} {a x e:Addr} {o:HO}
theorem Un.any (u:Un fs ex H H1 h h1) {b:Addr} {ob:Obj} (q:h.get? b=some ob) (n:H b=none) (hx:b∉ex):∃ sl,h1.get? b=some { ob with slots:=sl }:=by
 by_cases hb:b∈fs
 ·exact u.slot b ob q n hb hx
 ·exact⟨ob.slots,u.keep b ob q n hb hx⟩
theorem Un.kept (k:∀ b u,h.get? b=some u->h'.get? b=some u):Un fs ex H H h h' :=
 ⟨fun b ob q _ _ _=>k b ob q,fun b ob q _ _ _=>⟨ob.slots,k b ob q⟩,fun _ _ _ n _=>n,fun b ob q _=>⟨ob,k b ob q⟩,fun _ _ q=>q,fun _ _ _ q=>q,fun _ _ q=>q⟩
theorem Un.refl:Un fs ex H H h h:=Un.kept fun _ _ q=>q
theorem Un.laid (k:∀ b u,h.get? b=some u->h'.get? b=some u) (hp:h.objs.size<=a) (hn:H a=none):Un fs ex H (upd H a o) h h' where
 keep:=fun b u q _ _ _=>k b u q
 slot:=fun b u q _ _ _=>⟨u.slots,k b u q⟩
 free:=fun b u q n _=>by rw [zl (agP (agG (agB q) hp))];exact n
 there:=fun b u q _=>⟨u,k b u q⟩
 tups:=fun b xs q=>by rw [zl (zA q hn)];exact q
 frzs:=fun b u xs q=>by rw [zl (zA q hn)];exact q
 tbls:=fun b ps q=>by rw [zl (zA q hn)];exact q
theorem Un.write (mu:Mut (H x)) (he:e=x \/ H e=some (.own x)) (k:∀ b u,b≠e->h.get? b=some u->h'.get? b=some u) (heo:∃ u,h'.get? e=some u):Un fs ex H (upd H x o) h h':=by
 have hx:∀ b,H b=none->b≠x:=fun b n z=>by subst z;rw [n] at mu;exact mu
 have hb:∀ b,H b=none->b≠e:=fun b n z=>by
  subst z
  rcases he with r | r
  ·exact hx b n r
  ·rw [n] at r;cases r
 have hm:∀ b u,H b=some u->¬ Mut (some u)->b≠x:=fun b u q nm z=>by subst z;rw [q] at mu;exact nm mu
 refine⟨fun b u q n _ _=>k b u (hb b n) q,fun b u q n _ _=>⟨u.slots,k b u (hb b n) q⟩,fun b u q n _=>by rw [zl (hx b n)];exact n,fun b u q _=>?_,
  fun b xs q=>by rw [zl (hm b _ q fun z=>z)];exact q,fun b u xs q=>by rw [zl (hm b _ q fun z=>z)];exact q,fun b ps q=>by rw [zl (hm b _ q fun z=>z)];exact q⟩
 by_cases hbe:b=e
 ·subst hbe;exact heo
 ·exact⟨u,k b u hbe q⟩
end
noncomputable def trk (h:Heap) (H:Hp):List Addr:=(agK h.objs.size).filter fun a=>(H a).isSome
noncomputable def vJ (h:Heap) (H:Hp):Heap:=PySem.W.hideAll h (trk h H)
theorem abF (h:Heap) (H:Hp):(vJ h H).objs.size=h.objs.size:=PySem.W.hideAll_size _ _
theorem qu {h:Heap} {H:Hp} {b:Addr} {o:Obj} (e:h.get? b=some o) (n:H b=none):(vJ h H).get? b=some o :=
 PySem.W.hideAll_get _ e fun hm=>by
  have q:(H b).isSome=true:=(aiu.mp hm).2
  rw [n] at q;simp at q
theorem adv {h:Heap} {H:Hp} {b:Addr} {o:Obj} (e:(vJ h H).get? b=some o):h.get? b=some o/\H b=none:=by
 have e':h.get? b=some o:=PySem.W.of_hideAll (trk h H) e
 refine⟨e',?_⟩
 cases q:H b with
 | none=>rfl
 | some x =>
  have hm:b∈trk h H:=aiu.mpr ⟨agS.mpr (agB e'),by simp [q]⟩
  have z:(vJ h H).get? b=none:=PySem.W.hideAll_none (trk h H) hm
  rw [z] at e;cases e
noncomputable def jh (g h:Heap) (L:Addr):List (Addr×Obj):=(agK h.objs.size).filterMap fun a=>if a=L \/ (g.get? a).isSome=true then none else (h.get? a).map fun o=>(a,o)
theorem j6 {g h:Heap} {L a:Addr} {o:Obj} (h1:a≠L) (h2:g.get? a=none) (h3:h.get? a=some o):(a,o)∈jh g h L :=
 ahN.mpr ⟨a,agS.mpr (agB h3),by simp [h1,h2,h3]⟩
theorem qv {g h:Heap} {L:Addr} {p:Addr×Obj} (hp:p∈jh g h L):p.1≠L/\g.get? p.1=none/\h.get? p.1=some p.2:=by
 obtain⟨b,_,e⟩:=ahN.mp hp
 split at e
 ·cases e
 ·rename_i hn
  cases q:h.get? b with
  | none=>rw [q] at e;simp at e
  | some u =>
   rw [q] at e
   simp only [Option.map_some,Option.some.injEq] at e
   subst e
   refine⟨fun z=>hn (.inl z),?_,q⟩
   show g.get? b=none
   cases r:g.get? b with
   | none=>rfl
   | some v=>exact (hn (.inr (by simp [r]))).elim
noncomputable def rest (g h:Heap) (L d:Addr):List (Addr×Obj):=(jh g h L).filter fun p=>decide (p.1≠d)
theorem acj {g h:Heap} {L:Addr}:News g L h (jh g h L):=fun p hp=>let⟨a,b,c⟩:=qv hp;⟨c,a,b⟩
structure Mod (K:ags) (mg:Str->Option Value) (base:Heap):Prop where
 kin:K.In base
 glob:base.Ns mainGlobals mg
 blt:∃ mb,base.Ns builtinsNs mb/\∀ x:Str,x ≠ "__name__"->mb x=bootBuiltins x
 nolimit:base.NoLimit
 bm:∃ b o,mg "__builtins__"=some (.ref b)/\b≠builtinsNs/\base.get? b=some o/\o.cls=.type "module"/\o.dict=some builtinsNs/\o.data=.plain
structure Cx where
 prog:Program
 w:World
 K:ags
 mg:Str->Option Value
 base:Heap
 A:Around
 N:List Str
 s₀:Shared
 H₀:Hp
 env:Env
 outer:List Env
 stack:List Env
 ex:List Addr
 fn:Str->Bool
 calm:Bool
 pn:List (Addr×Obj)
 xe:Value->Shared->Prop
noncomputable def frs (l:List Env):List Addr:=l.filterMap (·.frame)
noncomputable abbrev Cx.fs (X:Cx):List Addr:=frs X.outer
noncomputable def Vis (sc:Scope) (x:Str):Prop:=sc.names.lookup x=some .local \/ sc.names.lookup x=some .cell \/ sc.names.lookup x=some .free
noncomputable def Loc (sc:Scope) (x:Str):Prop:=sc.names.lookup x=some .local \/ sc.names.lookup x=some .cell
noncomputable def Look (env:Env) (h:Heap) (m:Str->Option Value) (x:Str) (u:Value):Prop :=
 (env.kindOf x=some .local/\m x=some u) \/ ((env.kindOf x=some .cell \/ env.kindOf x=some .free)/\∃ c,env.cells.lookup x=some c/\h.IsCell c (some u))
noncomputable def lamDefs:List Str:=["least_kept","pair_beside","peaks"]
noncomputable def lamQ (q:Str):Str:=(q ++ ".<locals>.") ++ "<lambda>"
noncomputable def TabsOk (K:ags) (H:Hp):Prop:=∀ c P q,q∈lamDefs->ag1 K c P=true->agY K (.ref c) q=true->H P=some (.tbl (lamQ q))
structure Cx.Ok (X:Cx):Prop where
 mod:Mod X.K X.mg X.base
 kind:X.env.scope.kind=.function
 glob:X.env.globals=mainGlobals
 blt:X.env.builtins=builtinsNs
 above:X.s₀.heap.objs.size<=X.env.locals
 inj:∀ x y c,X.env.cells.lookup x=some c->X.env.cells.lookup y=some c->x=y
 has:∀ x,(X.env.kindOf x=some .cell \/ X.env.kindOf x=some .free)->∃ c,X.env.cells.lookup x=some c
 cab:∀ x c,X.fn x=true->X.env.cells.lookup x=some c->X.s₀.heap.objs.size<=c
 hd:X.calm=true->X.A.handled=none
 frames:X.A.frames=some X.stack
 stk:X.stack=X.outer \/ (X.stack=X.env :: X.outer/\X.env.frame=some X.env.locals)
 exf:∀ b∈X.ex,b≠X.env.locals/\∀ x c,X.env.cells.lookup x=some c->c≠b
 bs:∀ b o,X.base.get? b=some o->X.s₀.heap.get? b=some o/\X.H₀ b=none
 bsz:X.base.objs.size<=X.s₀.heap.objs.size
 noex:∀ b o,X.base.get? b=some o->b∉X.ex
 exfs:∀ b∈X.ex,b∉X.fs
 funs:X.s₀.heap.FunFrames X.base X.outer
 frf:∀ b∈X.fs,X.H₀ b=none
 tabs:TabsOk X.K X.H₀
structure Inv (X:Cx) (pins:List (Addr×Obj)) (σ:List (Option V)) (H:Hp) (s:Shared):Prop where
 ok:X.Ok
 os:s.os=X.s₀.os
 bare:AllBare s.gens
 base:Un X.fs X.ex X.H₀ H X.s₀.heap s.heap
 loc:∃ m,s.heap.Ns X.env.locals m/\∀ (i:Nat) (x:Str) (v:V),X.N[i]?=some x->σ[i]?=some (some v)->Vis X.env.scope x->∃ u,RelV v u/\Look X.env s.heap m x u
 cell:∀ x c,X.env.cells.lookup x=some c->∃ v,s.heap.IsCell c v
 free:H X.env.locals=none
 freeC:∀ x c,X.env.cells.lookup x=some c->H c=none
 pin:∀ p∈X.pn++pins,s.heap.get? p.1=some p.2/\H p.1=none/\p.1≠X.env.locals/\p.1∉X.fs/\∀ v,p.2.data≠.cell v
 hok:HOk X.prog X.w H s.heap
 len:σ.length=X.N.length
section
variable {X:Cx} {pins:List (Addr×Obj)} {σ:List (Option V)} {H H':Hp} {s:Shared} {h':Heap}
theorem Cx.Ok.nofr (ok:X.Ok) {b:Addr} {o:Obj} (e:X.base.get? b=some o):b∉X.fs:=fun hb=>by
 have:=(ok.funs.mem hb).1
 rw [e] at this;cases this
theorem Inv.bs (I:Inv X pins σ H s):∀ b o,X.base.get? b=some o->s.heap.get? b=some o/\H b=none:=fun b o e =>
 ⟨I.base.keep b o (I.ok.bs b o e).1 (I.ok.bs b o e).2 (I.ok.nofr e) (I.ok.noex b o e),I.base.free b o (I.ok.bs b o e).1 (I.ok.bs b o e).2 (I.ok.noex b o e)⟩
theorem Inv.bk (I:Inv X pins σ H s):∀ b o,X.base.get? b=some o->s.heap.get? b=some o:=fun b o e=>(I.bs b o e).1
theorem Inv.mod (I:Inv X pins σ H s):Mod X.K X.mg X.base:=I.ok.mod
theorem Inv.kIn (I:Inv X pins σ H s):X.K.In s.heap:=I.ok.mod.kin.keeps I.bk
theorem Inv.nolimit (I:Inv X pins σ H s):s.heap.NoLimit:=I.ok.mod.nolimit.keeps I.bk
theorem Inv.lt (I:Inv X pins σ H s):X.env.locals<s.heap.objs.size:=let⟨_,hn,_⟩:=I.loc;hn.lt
theorem Inv.sz (I:Inv X pins σ H s):X.s₀.heap.objs.size<=s.heap.objs.size:=ag2 I.ok.above (ahB I.lt)
theorem Inv.nofs (I:Inv X pins σ H s) {a:Addr} (h:s.heap.objs.size<=a):a∉X.fs:=fun hb=>by
 obtain⟨_,o,ho,_⟩:=I.ok.funs.mem hb
 exact absurd (agG (agB ho) (ag2 I.sz h)) (ahD _)
theorem Inv.cne (I:Inv X pins σ H s):∀ x c,X.env.cells.lookup x=some c->c≠X.env.locals:=fun x c e z=>by
 obtain⟨v,o,ho,hd⟩:=I.cell x c e
 obtain⟨m,⟨o',es,ep,ho',hd',_⟩,_⟩:=I.loc
 rw [z,ho'] at ho;cases ho;rw [hd'] at hd;cases hd
theorem Inv.funs (I:Inv X pins σ H s):s.heap.FunFrames X.base X.outer:=by
 have all:∀ (l:List Env),(∀ b∈frs l,b∈X.fs)->X.s₀.heap.FunFrames X.base l->s.heap.FunFrames X.base l:=by
  intro l
  induction l with
  | nil=>intro _ _;trivial
  | cons env r ih =>
   intro hs hl
   obtain⟨hk,⟨L,o,hf,hn,ho,hd⟩,hr⟩:=hl
   have hL:L∈X.fs:=hs L (by unfold frs;rw [ah1,hf];exact agD)
   obtain⟨sl,e⟩:=I.base.slot L o ho (I.ok.frf L hL) hL fun z=>I.ok.exfs L z hL
   exact⟨hk,⟨L,_,hf,hn,e,hd⟩,ih (fun b hb=>hs b (by unfold frs;rw [ah1,hf];exact agw _ hb)) hr⟩
 exact all X.outer (fun _ hb=>hb) I.ok.funs
theorem Inv.stack (I:Inv X pins σ H s):s.heap.FunFrames X.base X.stack:=by
 rcases I.ok.stk with e | ⟨e,hf⟩
 ·rw [e];exact I.funs
 ·rw [e]
  obtain⟨m,hn,_⟩:=I.loc
  refine .cons (by rw [I.ok.kind];decide) hf hn ?_ I.funs
  exact Heap.get?_none_of_le (ag2 I.ok.bsz I.ok.above)
theorem Inv.stkSub (I:Inv X pins σ H s):∀ b∈frs X.stack,b∈X.env.locals :: X.fs:=fun b hb=>by
 rcases I.ok.stk with e | ⟨e,hf⟩
 ·rw [e] at hb;exact agw _ hb
 ·rw [e] at hb
  unfold frs at hb
  rw [ah1,hf] at hb
  exact hb
theorem Inv.stkFree (I:Inv X pins σ H s):∀ b∈frs X.stack,H b=none:=fun b hb=>by
 rcases agC.mp (I.stkSub b hb) with e | hb
 ·rw [e];exact I.free
 ·obtain⟨_,o,ho,_⟩:=I.ok.funs.mem hb
  exact I.base.free b o ho (I.ok.frf b hb) fun z=>I.ok.exfs b z hb
theorem Inv.step {g':Array GenState} {t':Nat} {d':Drawn} {ch:List Addr} (I:Inv X pins σ H s)
  (hch:∀ b∈ch,(b∈X.ex \/ X.s₀.heap.objs.size<=b)/\b≠X.env.locals/\(∀ x c,X.env.cells.lookup x=some c->c≠b)/\∀ p∈X.pn++pins,p.1≠b)
  (keep:∀ b o,b≠X.env.locals->b∉X.fs->b∉ch->s.heap.get? b=some o->H b=none->h'.get? b=some o)
  (slot:∀ b o,b≠X.env.locals->b∈X.fs->b∉ch->s.heap.get? b=some o->H b=none->∃ sl,h'.get? b=some { o with slots:=sl }) (free:∀ b o,b∉ch->s.heap.get? b=some o->H b=none->H' b=none)
  (there:∀ b o,b∉ch->s.heap.get? b=some o->∃ o',h'.get? b=some o')
  (tups:∀ b xs,H b=some (.tup xs)->H' b=some (.tup xs)) (frzs:∀ b o u,H b=some (.frz o u)->H' b=some (.frz o u)) (tbls:∀ b q,H b=some (.tbl q)->H' b=some (.tbl q))
  (ns:∀ m,s.heap.Ns X.env.locals m->h'.Ns X.env.locals m) (hok:HOk X.prog X.w H' h') (hg:AllBare g') :
  Inv X pins σ H' { s with heap:=h',gens:=g',drawn:=d',toks:=t' }:=by
 have neL:∀ b o,X.s₀.heap.get? b=some o->b≠X.env.locals:=fun b o e=>agP (agG (agB e) I.ok.above)
 have neC:∀ b o,X.s₀.heap.get? b=some o->b∉X.ex->b∉ch:=fun b o e hx hb=>by
  rcases (hch b hb).1 with z | z
  ·exact hx z
  ·exact absurd (agG (agB e) z) (ahD _)
 have cellK:∀ x c,X.env.cells.lookup x=some c->∀ v,s.heap.IsCell c v->h'.IsCell c v:=fun x c e v ⟨o,ho,hd⟩=>by
  have nch:c∉ch:=fun z=>(hch c z).2.2.1 x c e rfl
  by_cases hc:c∈X.fs
  ·obtain⟨sl,q⟩:=slot c o (I.cne x c e) hc nch ho (I.freeC x c e)
   exact⟨_,q,hd⟩
  ·exact⟨o,keep c o (I.cne x c e) hc nch ho (I.freeC x c e),hd⟩
 refine⟨I.ok,I.os,hg,⟨fun b o e n hb hx=>?_,fun b o e n hb hx=>?_,fun b o e n hx=>?_,fun b o e hx=>?_,fun b xs e=>tups b xs (I.base.tups b xs e),fun b o xs e=>frzs b o xs (I.base.frzs b o xs e),fun b ps e=>?_⟩,?_,fun x c e=>?_,?_,fun x c e=>?_,fun p hp=>?_,hok,I.len⟩
 ·exact keep b o (neL b o e) hb (neC b o e hx) (I.base.keep b o e n hb hx) (I.base.free b o e n hx)
 ·obtain⟨sl,e1⟩:=I.base.slot b o e n hb hx
  obtain⟨sl',e2⟩:=slot b _ (neL b o e) hb (neC b o e hx) e1 (I.base.free b o e n hx)
  exact⟨sl',e2⟩
 ·obtain⟨o',e1⟩:=I.base.there b o e hx
  exact free b o' (neC b o e hx) e1 (I.base.free b o e n hx)
 ·obtain⟨o',e1⟩:=I.base.there b o e hx
  exact there b o' (neC b o e hx) e1
 ·exact tbls b _ (I.base.tbls b _ e)
 ·obtain⟨m,hn,hl⟩:=I.loc
  refine⟨m,ns m hn,fun i x v e1 e2 e3=>?_⟩
  obtain⟨u,r,l⟩:=hl i x v e1 e2 e3
  refine⟨u,r,?_⟩
  rcases l with l | ⟨k,c,e,z⟩
  ·exact .inl l
  ·exact .inr ⟨k,c,e,cellK x c e _ z⟩
 ·obtain⟨v,z⟩:=I.cell x c e
  exact⟨v,cellK x c e v z⟩
 ·obtain⟨m,⟨o,_,_,ho,_⟩,_⟩:=I.loc
  exact free _ o (fun z=>(hch _ z).2.1 rfl) ho I.free
 ·obtain⟨v,o,ho,hd⟩:=I.cell x c e
  exact free c o (fun z=>(hch c z).2.2.1 x c e rfl) ho (I.freeC x c e)
 ·obtain⟨e,n,ne,nf,d⟩:=I.pin p hp
  have nch:p.1∉ch:=fun z=>(hch p.1 z).2.2.2 p hp rfl
  exact⟨keep p.1 p.2 ne nf nch e n,free p.1 p.2 nch e n,ne,nf,d⟩
theorem Inv.un {t':Nat} (I:Inv X pins σ H s) (u:Un X.fs [] H H' s.heap h') (hok:HOk X.prog X.w H' h'):Inv X pins σ H' { s with heap:=h',toks:=t' }:=by
 obtain⟨m,⟨o,es,ep,ho,r⟩,_⟩:=id I.loc
 obtain⟨sl,hL⟩:=u.any ho I.free (by simp)
 exact I.step (g':=s.gens) (d':=s.drawn) (ch:=[]) (fun _ z=>nomatch z) (fun b o _ hb _ e n=>u.keep b o e n hb (by simp)) (fun b o _ hb _ e n=>u.slot b o e n hb (by simp)) (fun b o _ e n=>u.free b o e n (by simp)) (fun b o _ e=>u.there b o e (by simp)) u.tups u.frzs u.tbls (fun m' hm=>by
  obtain⟨o',es',ep',ho',r'⟩:=hm
  rw [ho] at ho';cases ho'
  exact⟨_,es',ep',hL,r'⟩) hok I.bare
theorem Inv.call {g':Array GenState} {t':Nat} {d':Drawn} {ch:List Addr} (I:Inv X pins σ H s) (u:Un (frs X.stack) ch H H' s.heap h') (hok:HOk X.prog X.w H' h') (hg:AllBare g')
  (hch:∀ b∈ch,(b∈X.ex \/ X.s₀.heap.objs.size<=b)/\b≠X.env.locals/\(∀ x c,X.env.cells.lookup x=some c->c≠b)/\∀ p∈X.pn++pins,p.1≠b) :
  Inv X pins σ H' { s with heap:=h',gens:=g',drawn:=d',toks:=t' }:=by
 obtain⟨m,⟨o,es,ep,ho,r⟩,_⟩:=id I.loc
 obtain⟨sl,hL⟩:=u.any ho I.free fun z=>(hch _ z).2.1 rfl
 exact I.step (ch:=ch) hch (fun b o hL hb hc e n=>u.keep b o e n (fun z=>(agC.mp (I.stkSub b z)).elim hL hb) hc) (fun b o _ _ hc e n=>u.any e n hc) (fun b o hc e n=>u.free b o e n hc) (fun b o hc e=>u.there b o e hc) u.tups u.frzs u.tbls (fun m' hm=>by
  obtain⟨o',es',ep',ho',r'⟩:=hm
  rw [ho] at ho';cases ho'
  exact⟨_,es',ep',hL,r'⟩) hok hg
theorem Inv.turned {t':Nat} {it:Addr} (I:Inv X pins σ H s) (k:∀ b o,b≠it->s.heap.get? b=some o->h'.get? b=some o) (hn:H it=none) (hL:it≠X.env.locals)
  (h1:it∈X.ex \/ X.s₀.heap.objs.size<=it) (h2:∀ x c,X.env.cells.lookup x=some c->c≠it) (h3:∀ p∈X.pn++pins,p.1≠it):Inv X pins σ H { s with heap:=h',toks:=t' }:=by
 have nit:∀ b u,H b=some u->b≠it:=fun b u e z=>by rw [z,hn] at e;cases e
 refine I.step (g':=s.gens) (d':=s.drawn) (ch:=[it]) (fun b hb=>?_) (fun b o _ _ hc e _=>k b o (fun z=>hc (by simp [z])) e) (fun b o _ _ hc e _=>⟨o.slots,k b o (fun z=>hc (by simp [z])) e⟩) (fun _ _ _ _ n=>n)
  (fun b o hc e=>⟨o,k b o (fun z=>hc (by simp [z])) e⟩) (fun _ _ e=>e) (fun _ _ _ e=>e) (fun _ _ e=>e) (fun m hm=>?_) (fun b u e=>?_) I.bare
 ·have e:b=it:=by simpa using hb
  subst e
  exact⟨h1,hL,h2,h3⟩
 ·obtain⟨o,es,ep,ho,r⟩:=hm
  exact⟨o,es,ep,k _ o (ah5 hL) ho,r⟩
 ·refine (I.hok b u e).stay (fun c v hc q=>k c v ?_ q) (fun _ q=>q) fun _ _ q=>q
  rcases hc with z | z
  ·rw [z];exact nit b u e
  ·exact nit c _ z
theorem Inv.tok (I:Inv X pins σ H s) (t:Nat):Inv X pins σ H { s with toks:=t }:=I.un (h':=s.heap) (t':=t) Un.refl I.hok
theorem Inv.kept {t':Nat} (I:Inv X pins σ H s) (k:∀ b u,s.heap.get? b=some u->h'.get? b=some u):Inv X pins σ H { s with heap:=h',toks:=t' }:=I.un (Un.kept k) (I.hok.kept k)
theorem Inv.laid {a:Addr} {o:HO} {t':Nat} (I:Inv X pins σ H s) (k:∀ b u,s.heap.get? b=some u->h'.get? b=some u) (hp:s.heap.objs.size<=a) (new:ObjOk X.prog X.w (upd H a o) h' a o) :
  Inv X pins σ (upd H a o) { s with heap:=h',toks:=t' }:=I.un (Un.laid k hp (I.hok.fresh hp)) (I.hok.laid k hp new)
theorem Inv.write {x e:Addr} {o:HO} {t':Nat} (I:Inv X pins σ H s) (mu:Mut (H x)) (he:e=x \/ H e=some (.own x)) (k:∀ b u,b≠e->s.heap.get? b=some u->h'.get? b=some u) (heo:∃ u,h'.get? e=some u)
  (new:ObjOk X.prog X.w (upd H x o) h' x o):Inv X pins σ (upd H x o) { s with heap:=h',toks:=t' }:=I.un (Un.write mu he k heo) (I.hok.write mu he k heo new)
theorem Inv.pins_of {pins':List (Addr×Obj)} (I:Inv X pins σ H s) (h:∀ p∈pins',s.heap.get? p.1=some p.2/\H p.1=none/\p.1≠X.env.locals/\p.1∉X.fs/\∀ v,p.2.data≠.cell v):Inv X pins' σ H s :=
 ⟨I.ok,I.os,I.bare,I.base,I.loc,I.cell,I.free,I.freeC,fun p hp=>(ag5.mp hp).elim (fun z=>I.pin p (ahn _ z)) (h p),I.hok,I.len⟩
theorem vK {N:List Str} (hN:N.Nodup) {i j:Nat} {x:Str} (a:N[i]?=some x) (b:N[j]?=some x):i=j:=by
 obtain⟨h1,e1⟩:=agu.mp a
 obtain⟨h2,e2⟩:=agu.mp b
 exact (aik hN).mp (e1.trans e2.symm)
theorem qT {M:Model} {A:Around} {E:Value->Shared->Prop} {i:Nat} {x:Str} {v:V} {u:Value} {Q:Unit->Shared->Prop} (I:Inv X pins σ H s) (hN:X.N.Nodup) (hi:X.N[i]?=some x) (hx:Loc X.env.scope x) (r:RelV v u)
  (h:∀ s',Inv X pins (σ.set i (some v)) H s'->(∃ a,ahX a s.heap s'.heap/\(a=X.env.locals \/ X.env.cells.lookup x=some a))->Q () s') (hf:X.fn x=true \/ X.env.scope.names.lookup x=some .local:=by first | exact .inl rfl | exact .inr rfl | assumption):wpAny M A (storeName X.env x u) Q E s:=by
 obtain⟨m,hn,hl⟩:=id I.loc
 have hcls:(X.env.scope.kind == .class || (X.env.scope.kind == .module && X.env.locals != X.env.globals))=false:=by rw [I.ok.kind];rfl
 have hiσ:i<σ.length:=by rw [I.len];exact (agu.mp hi).1
 have cne:=I.cne
 have tracked:∀ {a:Addr} {h':Heap},(∃ o,s.heap.get? a=some o/\H a=none)->ahX a s.heap h'->HOk X.prog X.w H h':=fun {a h'} ha hs b ob e=>by
  obtain⟨_,_,hfree⟩:=ha
  refine (I.hok b ob e).stay (fun c w' hc q=>(hs.2 c ?_).trans q) (fun _ q=>q) fun _ _ q=>q
  rintro rfl
  rcases hc with rfl | hc
  ·rw [hfree] at e;cases e
  ·rw [hfree] at hc;cases hc
 rcases hx with hk | hk
 ·refine wpAny_storeName_local hk hn (fun h' hn' hs=>?_) hcls
  obtain⟨oL,_,_,hoL,_⟩:=id hn
  refine h _ ⟨I.ok,I.os,I.bare,⟨fun b o e n hb hx=>?_,fun b o e n hb hx=>?_,I.base.free,fun b o e hx=>?_,I.base.tups,I.base.frzs,I.base.tbls⟩,⟨_,hn',fun j y v' e1 e2 e3=>?_⟩,fun y c e=>?_,I.free,I.freeC,fun p hp=>?_,tracked ⟨oL,hoL,I.free⟩ hs,by simpa using I.len⟩ ⟨_,hs,.inl rfl⟩
  ·exact (hs.2 b (agP (agG (agB e) I.ok.above))).trans (I.base.keep b o e n hb hx)
  ·obtain⟨sl,e1⟩:=I.base.slot b o e n hb hx
   exact⟨sl,(hs.2 b (agP (agG (agB e) I.ok.above))).trans e1⟩
  ·obtain⟨o',e1⟩:=I.base.there b o e hx
   exact⟨o',(hs.2 b (agP (agG (agB e) I.ok.above))).trans e1⟩
  ·by_cases hj:j=i
   ·subst hj
    rw [hi] at e1;cases e1
    rw [ag7 hiσ] at e2
    cases e2
    exact⟨u,r,.inl ⟨hk,by simp⟩⟩
   ·rw [aho (ah5 hj)] at e2
    obtain⟨u',r',q⟩:=hl j y v' e1 e2 e3
    refine⟨u',r',?_⟩
    rcases q with⟨k,e⟩ | ⟨k,c,e,z⟩
    ·refine .inl ⟨k,?_⟩
     have:y≠x:=fun e=>hj (vK hN e1 (e▸hi))
     simp [this,e]
    ·exact .inr ⟨k,c,e,z.sameBut hs (cne y c e)⟩
  ·obtain⟨w',z⟩:=I.cell y c e
   exact⟨w',z.sameBut hs (cne y c e)⟩
  ·obtain⟨e,n,ne,nf,d⟩:=I.pin p hp
   exact⟨(hs.2 p.1 ne).trans e,n,ne,nf,d⟩
 ·have hfn:X.fn x=true:=by
   rcases hf with z | z
   ·exact z
   ·rw [z] at hk;cases hk
  obtain⟨c,hc⟩:=I.ok.has x (.inl hk)
  obtain⟨w',z⟩:=I.cell x c hc
  refine wpAny_storeName_cell I.ok.kind hk hc z (fun h' hc' hs=>?_)
  obtain⟨oc,hoc,hocd⟩:=id z
  refine h { s with heap:=h' } ⟨I.ok,I.os,I.bare,⟨fun b o e n hb hx=>?_,fun b o e n hb hx=>?_,I.base.free,fun b o e hx=>?_,I.base.tups,I.base.frzs,I.base.tbls⟩,⟨m,hn.sameBut hs (ah5 (cne x c hc)),fun j y v' e1 e2 e3=>?_⟩,fun y c' e=>?_,I.free,I.freeC,fun p hp=>?_,tracked ⟨oc,hoc,I.freeC x c hc⟩ hs,by simpa using I.len⟩ ⟨c,hs,.inr hc⟩
  ·exact (hs.2 b (agP (agG (agB e) (I.ok.cab x c hfn hc)))).trans (I.base.keep b o e n hb hx)
  ·obtain⟨sl,e1⟩:=I.base.slot b o e n hb hx
   exact⟨sl,(hs.2 b (agP (agG (agB e) (I.ok.cab x c hfn hc)))).trans e1⟩
  ·obtain⟨o',e1⟩:=I.base.there b o e hx
   exact⟨o',(hs.2 b (agP (agG (agB e) (I.ok.cab x c hfn hc)))).trans e1⟩
  ·by_cases hj:j=i
   ·subst hj
    rw [hi] at e1;cases e1
    rw [ag7 hiσ] at e2
    cases e2
    exact⟨u,r,.inr ⟨.inl hk,c,hc,hc'⟩⟩
   ·rw [aho (ah5 hj)] at e2
    obtain⟨u',r',q⟩:=hl j y v' e1 e2 e3
    refine⟨u',r',?_⟩
    rcases q with q | ⟨k,c',e,z'⟩
    ·exact .inl q
    ·refine .inr ⟨k,c',e,z'.sameBut hs ?_⟩
     rintro rfl
     exact hj (vK hN e1 (I.ok.inj _ _ _ e hc▸hi))
  ·by_cases hcc:c'=c
   ·subst hcc;exact⟨_,hc'⟩
   ·obtain⟨w2,z2⟩:=I.cell y c' e
    exact⟨w2,z2.sameBut hs hcc⟩
  ·obtain⟨e,n,ne,nf,d⟩:=I.pin p hp
   refine⟨(hs.2 p.1 ?_).trans e,n,ne,nf,d⟩
   intro q
   rw [q,hoc] at e
   have q':oc=p.2:=Option.some.inj e
   exact d w' (by rw [<-q'];exact hocd)
theorem vL {M:Model} {A:Around} {E:Value->Shared->Prop} {i:Nat} {x:Str} {v:V} {u:Value} {Q:Unit->Shared->Prop} (I:Inv X pins σ H s) (hN:X.N.Nodup) (hi:X.N[i]?=some x) (hx:Loc X.env.scope x) (r:RelV v u)
  (h:∀ s',Inv X pins (σ.set i (some v)) H s'->Q () s') (hf:X.fn x=true \/ X.env.scope.names.lookup x=some .local:=by first | exact .inl rfl | exact .inr rfl | assumption):wpAny M A (storeName X.env x u) Q E s :=
 qT I hN hi hx r (fun s' I' _=>h s' I') hf
theorem Inv.call' {s':Shared} {ch:List Addr} (I:Inv X pins σ H s) (ho:s'.os=s.os) (u:Un (frs X.stack) ch H H' s.heap s'.heap) (hok:HOk X.prog X.w H' s'.heap) (hg:AllBare s'.gens)
  (hch:∀ b∈ch,(b∈X.ex \/ X.s₀.heap.objs.size<=b)/\b≠X.env.locals/\(∀ x c,X.env.cells.lookup x=some c->c≠b)/\∀ p∈X.pn++pins,p.1≠b):Inv X pins σ H' s':=by
 obtain⟨h',g',d',t',o'⟩:=s'
 have e:o'=s.os:=ho
 subst e
 exact I.call (g':=g') (t':=t') (d':=d') u hok hg hch
end
noncomputable abbrev XK:=Value->Option Addr->Hp->Prop
noncomputable abbrev St:=List (Option V)
noncomputable abbrev VK:=V->Hp->Prop
noncomputable abbrev TE:=St->Hp->VK->Prop
noncomputable abbrev TT:=St->Hp->(Bool->Hp->Prop)->Prop
noncomputable abbrev TA:=St->Hp->(List V->Hp->Prop)->Prop
structure Ends where
 nx:St->Hp->Prop
 rt:VK
 bk:St->Hp->Prop:=fun _ _=>False
 ct:St->Hp->Prop:=fun _ _=>False
noncomputable abbrev TS:=Ends->St->Hp->Prop
noncomputable def EP (X:Cx) (pins:List (Addr×Obj)) (σ:St) (Q:VK) (u:Value) (s':Shared):Prop:=∃ v H',Inv X pins σ H' s'/\RelV v u/\Q v H'
noncomputable def TP (X:Cx) (pins:List (Addr×Obj)) (σ:St) (Q:Bool->Hp->Prop) (b:Bool) (s':Shared):Prop:=∃ H',Inv X pins σ H' s'/\Q b H'
noncomputable def AP (X:Cx) (pins:List (Addr×Obj)) (σ:St) (Q:List V->Hp->Prop) (us:List Value) (s':Shared):Prop:=∃ vs H',Inv X pins σ H' s'/\Vals vs us/\Q vs H'
noncomputable def SP (X:Cx) (pins:List (Addr×Obj)) (D:Ends) (f:Flow) (s':Shared):Prop :=
 match f with
 | .next=>∃ σ' H',Inv X pins σ' H' s'/\D.nx σ' H'
 | .brk=>∃ σ' H',Inv X pins σ' H' s'/\D.bk σ' H'
 | .cont=>∃ σ' H',Inv X pins σ' H' s'/\D.ct σ' H'
 | .ret u=>∃ v σ' H',Inv X pins σ' H' s'/\RelV v u/\D.rt v H'
noncomputable def PE (X:Cx) (e:Expr) (t:TE):Prop :=
 ∀ (pins:List (Addr×Obj)) (s:Shared) (σ:St) (H:Hp) (Q:VK),Inv X pins σ H s->t σ H Q->wpAny (model X.prog X.w) X.A (eval e X.env) (EP X pins σ Q) X.xe s
noncomputable def PT (X:Cx) (e:Expr) (t:TT):Prop :=
 ∀ (pins:List (Addr×Obj)) (s:Shared) (σ:St) (H:Hp) (Q:Bool->Hp->Prop),Inv X pins σ H s->t σ H Q->wpAny (model X.prog X.w) X.A (isTrue e X.env (eval e X.env)) (TP X pins σ Q) X.xe s
noncomputable def PW (X:Cx) (e:Expr) (t:TT):Prop :=
 ∀ (whole:Sem Value) (pins:List (Addr×Obj)) (s:Shared) (σ:St) (H:Hp) (Q:Bool->Hp->Prop),Inv X pins σ H s->t σ H Q->wpAny (model X.prog X.w) X.A (isTrue e X.env whole) (TP X pins σ Q) X.xe s
theorem PW.pt {X:Cx} {e:Expr} {t:TT} (h:PW X e t):PT X e t:=h _
noncomputable def PA (X:Cx) (es:List Expr) (t:TA):Prop :=
 ∀ (pos:Pos) (pins:List (Addr×Obj)) (s:Shared) (σ:St) (H:Hp) (Q:List V->Hp->Prop),Inv X pins σ H s->t σ H Q->wpAny (model X.prog X.w) X.A (spliced (backTo pos (starEach es X.env))) (AP X pins σ Q) X.xe s
noncomputable def PS (X:Cx) (st:Stmt) (t:TS):Prop :=
 ∀ (pins:List (Addr×Obj)) (s:Shared) (σ:St) (H:Hp) (D:Ends),Inv X pins σ H s->t D σ H->wpAny (model X.prog X.w) X.A (exec st X.env) (SP X pins D) X.xe s
noncomputable def PSs (X:Cx) (st:List Stmt) (t:TS):Prop :=
 ∀ (pins:List (Addr×Obj)) (s:Shared) (σ:St) (H:Hp) (D:Ends),Inv X pins σ H s->t D σ H->wpAny (model X.prog X.w) X.A (execs st X.env) (SP X pins D) X.xe s
theorem thn {α:Type} {t:Sem α} {Q Q':α->Shared->Prop} {M:Model} {A:Around} {E:Value->Shared->Prop} {s:Shared} (h:wpAny M A t Q E s) (hQ:∀ a s,Q a s->Q' a s):wpAny M A t Q' E s:=wpAny_mono h hQ fun _ _ x=>x
section
variable {X:Cx}
noncomputable def yE (i:Nat):TE:=fun σ H Q=>∃ v,σ[i]?=some (some v)/\Q v H
noncomputable def tC (v:V):TE:=fun _ H Q=>Q v H
theorem aeS {i:Nat} {x:Str} {pos:Pos} (hN:X.N[i]?=some x) (hv:Vis X.env.scope x) (hd:(x == ("__debug__":Str))=false:=by decide) (hcd:(x == ("__classdict__":Str))=false:=by decide):PE X (.Name x pos) (yE i):=by
 intro pins s σ H Q I h
 obtain⟨v,e,h⟩:=h
 obtain⟨m,hn,hl⟩:=I.loc
 obtain⟨u,r,l⟩:=hl i x v hN e hv
 have fin:EP X pins σ Q u s:=⟨v,H,I,r,h⟩
 rcases l with⟨hk,hm⟩ | ⟨hk,c,hc,hcell⟩
 ·exact wpAny_Name (wpAny_loadName_local I.ok.kind hk hn hm fin) hd
 ·rcases hk with hk | hk
  ·exact wpAny_Name (wpAny_loadName_cell I.ok.kind hk hc hcell fin) hd
  ·exact wpAny_Name (wpAny_loadName_free I.ok.kind hk hc hcell fin hcd) hd
theorem zb {i j pos}:PE X (.Constant (.int i) j pos) (tC (.int i)):=fun _ _ _ H _ I h=>wpAny_Constant_int ⟨.int i,H,I.tok _,⟨_,rfl⟩,h⟩
theorem y7 {b j pos}:PE X (.Constant (.bool b) j pos) (tC (.bl b)):=fun _ _ _ H _ I h=>Constant_bool ⟨.bl b,H,I,rfl,h⟩
theorem ack {j pos}:PE X (.Constant .none j pos) (tC .non):=fun _ _ _ H _ I h=>Constant_none ⟨.non,H,I,rfl,h⟩
noncomputable def Gl (X:Cx) (x:Str):Prop:=X.env.kindOf x=some .globalImplicit
theorem adw {E:Value->Shared->Prop} {pins:List (Addr×Obj)} {s:Shared} {σ:St} {H:Hp} {x:Str} {u:Value} {pos:Pos} {Q:Value->Shared->Prop} (I:Inv X pins σ H s) (hg:Gl X x) (hm:X.mg x=some u) (h:Q u s)
  (hd:(x == ("__debug__":Str))=false:=by decide):wpAny (model X.prog X.w) X.A (eval (.Name x pos) X.env) Q E s :=
 aiB I.ok.kind hg (Calls.loadGlobal_global (by rw [I.ok.glob];exact I.mod.glob.keeps I.bk) hm h) hd
theorem jM {E:Value->Shared->Prop} {pins:List (Addr×Obj)} {s:Shared} {σ:St} {H:Hp} {x:Str} {u:Value} {pos:Pos} {Q:Value->Shared->Prop} (I:Inv X pins σ H s) (hg:Gl X x) (hm:X.mg x=none) (hv:bootBuiltins x=some u) (h:Q u s)
  (hn:x ≠ "__name__":=by decide) (hd:(x == ("__debug__":Str))=false:=by decide):wpAny (model X.prog X.w) X.A (eval (.Name x pos) X.env) Q E s:=by
 obtain⟨mb,h1,h2⟩:=I.mod.blt
 exact aiB I.ok.kind hg (Calls.loadGlobal_builtin (by rw [I.ok.glob];exact I.mod.glob.keeps I.bk) hm (by rw [I.ok.blt];exact h1.keeps I.bk) ((h2 x hn).trans hv) h) hd
theorem vn {x:Str} {v:V} {u:Value} {pos:Pos} (hg:Gl X x) (hm:X.mg x=none) (hv:bootBuiltins x=some u) (r:RelV v u) (hn:x ≠ "__name__":=by decide) (hd:(x == ("__debug__":Str))=false:=by decide):PE X (.Name x pos) (tC v) :=
 fun _ _ _ H _ I h=>jM I hg hm hv ⟨v,H,I,r,h⟩ hn hd
variable {a b:Expr} {ta tb:TE} {pos:Pos}
variable {tA tB':TT} {rest:List Expr}
noncomputable def afF (t u:TT):TT:=fun σ H Q=>t σ H fun c H1=>if c=true then u σ H1 Q else Q false H1
noncomputable def tOr (t u:TT):TT:=fun σ H Q=>t σ H fun c H1=>if c=true then Q true H1 else u σ H1 Q
noncomputable def afG (t:TT):TT:=fun σ H Q=>t σ H fun c H1=>Q (!c) H1
theorem adx (ha:PT X a tA):PW X (.BoolOp .And [a] pos) tA:=by
 intro wh pins s σ H Q I h
 refine isTrue_and (thn (ha pins s σ H Q I h) fun c s1 e=>?_)
 cases c with
 | true=>exact isTrue_and_nil e
 | false=>exact e
theorem vo (ha:PT X a tA):PW X (.BoolOp .Or [a] pos) tA:=by
 intro wh pins s σ H Q I h
 refine isTrue_or (thn (ha pins s σ H Q I h) fun c s1 e=>?_)
 cases c with
 | false=>exact isTrue_or_nil e
 | true=>exact e
theorem aeT (ha:PT X a tA) (hb:PW X (.BoolOp .And (b :: rest) pos) tB'):PW X (.BoolOp .And (a :: b :: rest) pos) (afF tA tB'):=by
 intro wh pins s σ H Q I h
 refine isTrue_and (thn (ha pins s σ H _ I h) fun c s1 ⟨H1,I1,q1⟩=>?_)
 cases c with
 | true=>exact hb wh pins s1 σ H1 Q I1 q1
 | false=>exact⟨H1,I1,q1⟩
theorem qU (ha:PT X a tA) (hb:PW X (.BoolOp .Or (b :: rest) pos) tB'):PW X (.BoolOp .Or (a :: b :: rest) pos) (tOr tA tB'):=by
 intro wh pins s σ H Q I h
 refine isTrue_or (thn (ha pins s σ H _ I h) fun c s1 ⟨H1,I1,q1⟩=>?_)
 cases c with
 | true=>exact⟨H1,I1,q1⟩
 | false=>exact hb wh pins s1 σ H1 Q I1 q1
theorem jN (ha:PT X a tA):PT X (.UnaryOp .Not a pos) (afG tA):=by
 intro pins s σ H Q I h
 exact isTrue_not (ha pins s σ H (fun c H1=>Q (!c) H1) I h)
end
noncomputable def SqL (K:ags) (H:Hp) (a:Addr) (xs:List V):Prop :=
 Rd H a (.lst xs) \/
  ∃ (o:Obj) (its:Array Value) (n:Nat),K.lookup a=some o/\o.cls=.type "list"/\o.dict=none/\o.data=.seq its n/\its.size<=sizeLine/\Vals xs its.toList
noncomputable def SqT (K:ags) (H:Hp) (a:Addr) (xs:List V):Prop :=
 Rd H a (.tup xs) \/
  ∃ (o:Obj) (its:Array Value) (n:Nat),K.lookup a=some o/\o.cls=.type "tuple"/\o.data=.seq its n/\its.size<=sizeLine/\Vals xs its.toList
noncomputable def agd:Value->Option V
 | .none=>some .non
 | .bool b=>some (.bl b)
 | .int i _=>some (.int i)
 | .str x _=>some (.str x)
 | .bytes b _=>some (.byt b)
 | .float b _=>some (.flt b)
 | .ref a=>some (.ref a)
 | .type n=>some (.ty n)
 | _=>none
theorem RelV.abs {x:V} {u:Value} (r:RelV x u):agd u=some x:=by
 cases x with
 | non=>cases r;rfl
 | bl _=>cases r;rfl
 | int _=>obtain⟨t,rfl⟩:=r;rfl
 | str _=>obtain⟨t,rfl⟩:=r;rfl
 | byt _=>obtain⟨t,rfl⟩:=r;rfl
 | flt _=>obtain⟨t,rfl⟩:=r;rfl
 | ref _=>cases r;rfl
 | ty _=>cases r;rfl
theorem RelV.inj {x y:V} {u:Value} (r:RelV x u) (q:RelV y u):x=y:=Option.some.inj (r.abs.symm.trans q.abs)
theorem Vals.inj:∀ {xs ys:List V} {us:List Value},Vals xs us->Vals ys us->xs=ys
 | _,_,_,.nil,.nil=>rfl
 | _,_,_,.cons r t,.cons r' t'=>by rw [r.inj r',Vals.inj t t']
section
variable {X:Cx} {pins:List (Addr×Obj)} {σ:St} {H:Hp} {s:Shared} {a:Addr} {xs ys:List V}
theorem SqL.of {K:ags} (h:H a=some (.lst xs)):SqL K H a xs:=.inl (.inl h)
theorem SqT.of {K:ags} (h:H a=some (.tup xs)):SqT K H a xs:=.inl (.inl h)
theorem Inv.list (I:Inv X pins σ H s) (h:SqL X.K H a xs):∃ its:List Value,Vals xs its/\PlainL s.heap a its.toArray/\xs.length<=sizeLine:=by
 rcases h with h | ⟨o,its,n,hk,hc,hd,hs,hz,r⟩
 ·obtain⟨z,its,n,r,e⟩:=h.ok I.hok
  exact⟨its,r,⟨_,n,e,rfl,rfl,rfl⟩,z⟩
 ·refine⟨its.toList,r,⟨o,n,I.kIn a o hk,hc,hd,by simpa using hs⟩,?_⟩
  have e:=r.length
  simp only [agF] at e
  omega
theorem Inv.tuple (I:Inv X pins σ H s) (h:SqT X.K H a xs):∃ its:List Value,Vals xs its/\IsTup s.heap a its.toArray/\xs.length<=sizeLine:=by
 rcases h with h | ⟨o,its,n,hk,hc,hs,hz,r⟩
 ·obtain⟨z,its,r,p⟩:=h.ok I.hok
  exact⟨its,r,p,z⟩
 ·refine⟨its.toList,r,⟨o,I.kIn a o hk,hc,n,by simpa using hs⟩,?_⟩
  have e:=r.length
  simp only [agF] at e
  omega
theorem Inv.list_inj (I:Inv X pins σ H s) (h:SqL X.K H a xs) (h':SqL X.K H a ys):xs=ys:=by
 obtain⟨its,r,⟨o,n,e,_,_,d⟩,_⟩:=I.list h
 obtain⟨its',r',⟨o',n',e',_,_,d'⟩,_⟩:=I.list h'
 rw [e] at e';cases e'
 rw [d] at d'
 injection d' with d1 _
 have:its=its':=by simpa using congrArg Array.toList d1
 subst this
 exact r.inj r'
end
noncomputable abbrev Cx.wish (X:Cx) (E:Value->Shared->Prop):Cx:={ X with xe:=E }
noncomputable abbrev Cx.nox (X:Cx):Cx:=X.wish fun _ _=>False
theorem Cx.Ok.wish {X:Cx} (ok:X.Ok) (E:Value->Shared->Prop):(X.wish E).Ok :=
 ⟨ok.mod,ok.kind,ok.glob,ok.blt,ok.above,ok.inj,ok.has,ok.cab,ok.hd,ok.frames,ok.stk,ok.exf,ok.bs,ok.bsz,ok.noex,ok.exfs,ok.funs,ok.frf,ok.tabs⟩
theorem Cx.Ok.unwish {X:Cx} {E:Value->Shared->Prop} (ok:(X.wish E).Ok):X.Ok :=
 ⟨ok.mod,ok.kind,ok.glob,ok.blt,ok.above,ok.inj,ok.has,ok.cab,ok.hd,ok.frames,ok.stk,ok.exf,ok.bs,ok.bsz,ok.noex,ok.exfs,ok.funs,ok.frf,ok.tabs⟩
section
variable {X:Cx} {pins:List (Addr×Obj)} {σ:St} {H:Hp} {s:Shared} {E:Value->Shared->Prop}
theorem Inv.wish (I:Inv X pins σ H s) (E:Value->Shared->Prop):Inv (X.wish E) pins σ H s:=⟨I.ok.wish E,I.os,I.bare,I.base,I.loc,I.cell,I.free,I.freeC,I.pin,I.hok,I.len⟩
theorem Inv.unwish (I:Inv (X.wish E) pins σ H s):Inv X pins σ H s:=⟨I.ok.unwish,I.os,I.bare,I.base,I.loc,I.cell,I.free,I.freeC,I.pin,I.hok,I.len⟩
theorem SP.unwish {D:Ends} {f:Flow} {s':Shared} (h:SP (X.wish E) pins D f s'):SP X pins D f s':=by
 cases f with
 | next=>obtain⟨σ',H',I,q⟩:=h;exact⟨σ',H',I.unwish,q⟩
 | brk=>obtain⟨σ',H',I,q⟩:=h;exact⟨σ',H',I.unwish,q⟩
 | cont=>obtain⟨σ',H',I,q⟩:=h;exact⟨σ',H',I.unwish,q⟩
 | ret u=>obtain⟨v,σ',H',I,r,q⟩:=h;exact⟨v,σ',H',I.unwish,r,q⟩
theorem PSs.nox {st:List Stmt} {t:TS} (h:PSs X.nox st t):PSs X st t:=fun pins s σ H D I hw =>
 wpAny_mono (h pins s σ H D (I.wish _) hw) (fun _ _ q=>q.unwish) fun _ _ z=>ahO z
end
section
variable {X:Cx} {st:Stmt} {rest:List Stmt} {t u:TS} {e:Expr} {te:TE} {pos:Pos}
noncomputable def aa3:TS:=fun D σ H=>D.nx σ H
noncomputable def jt (t u:TS):TS:=fun D σ H=>t { D with nx:=u D } σ H
theorem zU:PSs X [] aa3:=fun _ _ σ H _ I h=>wpAny_execs_nil ⟨σ,H,I,h⟩
theorem zd (h1:PS X st t) (h2:PSs X rest u):PSs X (st :: rest) (jt t u):=by
 intro pins s σ H D I h
 refine wpAny_execs_cons (thn (h1 pins s σ H { D with nx:=u D } I h) fun f s1 q=>?_)
 cases f with
 | next =>
  obtain⟨σ',H',I',q⟩:=q
  exact h2 pins s1 σ' H' D I' q
 | ret v=>exact q
 | brk=>exact q
 | cont=>exact q
theorem zm (h1:PS X st t):PSs X [st] t:=by
 intro pins s σ H D I h
 refine wpAny_execs_cons (thn (h1 pins s σ H D I h) fun f s1 q=>?_)
 cases f with
 | next=>exact wpAny_execs_nil q
 | ret v=>exact q
 | brk=>exact q
 | cont=>exact q
theorem Inv.quiet {pins:List (Addr×Obj)} {σ:St} {H:Hp} {s:Shared} (I:Inv X pins σ H s):interactive X.env=false:=by simp [interactive,I.ok.kind]
noncomputable def aa4 (te:TE):TS:=fun D σ H=>te σ H fun _ H1=>D.nx σ H1
theorem jB (he:PE X e te) (hs:swapsWith e none pos.line X.env=pure false:=by rfl):PS X (.Expr e pos) (aa4 te):=by
 intro pins s σ H D I h
 exact wpAny_Expr_any (thn (he pins s σ H _ I h) fun v s1 ⟨x,H1,I1,r1,q1⟩=>⟨σ,H1,I1,q1⟩) I.quiet hs
noncomputable def abG (te:TE):TS:=fun D σ H=>te σ H D.rt
theorem zF (he:PE X e te):PS X (.Return (some e) pos) (abG te):=by
 intro pins s σ H D I h
 exact wpAny_Return_some (thn (he pins s σ H _ I h) fun v s1 ⟨x,H1,I1,r1,q1⟩=>⟨x,σ,H1,I1,r1,q1⟩)
noncomputable def ady (c:TT) (t u:TS):TS:=fun D σ H=>c σ H fun b H1=>if b=true then t D σ H1 else u D σ H1
theorem yH {c:Expr} {a b:List Stmt} {tc:TT} (hc:PT X c tc) (ha:PSs X a t) (hb:PSs X b u):PS X (.If c a b pos) (ady tc t u):=by
 intro pins s σ H D I h
 refine wpAny_If (thn (hc pins s σ H _ I h) fun d s1 ⟨H1,I1,q1⟩=>?_)
 cases d with
 | true=>exact ha pins s1 σ H1 D I1 q1
 | false=>exact hb pins s1 σ H1 D I1 q1
end
noncomputable abbrev TG:=V->St->Hp->(St->Hp->Prop)->Prop
noncomputable abbrev TGs:=List V->St->Hp->(St->Hp->Prop)->Prop
noncomputable def PG (X:Cx) (target:Expr) (t:TG):Prop :=
 ∀ (pins:List (Addr×Obj)) (s:Shared) (σ:St) (H:Hp) (v:V) (u:Value) (Q:St->Hp->Prop),Inv X pins σ H s->RelV v u->t v σ H Q ->
  wpAny (model X.prog X.w) X.A (assign target X.env u) (fun _ s'=>∃ σ' H',Inv X pins σ' H' s'/\Q σ' H') X.xe s
noncomputable def PGs (X:Cx) (ts:List Expr) (t:TGs):Prop :=
 ∀ (pins:List (Addr×Obj)) (s:Shared) (σ:St) (H:Hp) (vs:List V) (us:List Value) (Q:St->Hp->Prop),Inv X pins σ H s->Vals vs us->t vs σ H Q ->
  wpAny (model X.prog X.w) X.A (assignInOrder ((assignEach ts X.env).map (·.2)) us) (fun _ s'=>∃ σ' H',Inv X pins σ' H' s'/\Q σ' H') X.xe s
noncomputable abbrev aeU:=V->V->V->Hp->(Hp->Prop)->Prop
noncomputable def afH (X:Cx) (t:aeU):Prop :=
 ∀ (pins:List (Addr×Obj)) (s:Shared) (σ:St) (H:Hp) (o i v:V) (ov iv u:Value) (Q:Hp->Prop),Inv X pins σ H s->RelV o ov->RelV i iv->RelV v u->t o i v H Q ->
  wpAny (model X.prog X.w) X.A (setItem ov iv u) (fun _ s'=>∃ H',Inv X pins σ H' s'/\Q H') X.xe s
section
variable {X:Cx} {pos:Pos}
noncomputable def yy (i:Nat):TG:=fun v σ H Q=>Q (σ.set i (some v)) H
theorem zE {i:Nat} {x:Str} (hN:X.N.Nodup) (hi:X.N[i]?=some x) (hx:Loc X.env.scope x) (hf:X.fn x=true \/ X.env.scope.names.lookup x=some .local:=by first | exact .inl rfl | exact .inr rfl | assumption):PG X (.Name x pos) (yy i):=by
 intro pins s σ H v u Q I r h
 exact wpAny_assign_Name (vL I hN hi hx r (fun s' I'=>⟨_,H,I',h⟩) hf)
noncomputable def afI:TGs:=fun vs σ H Q=>vs=[]/\Q σ H
noncomputable def aer (t:TG) (u:TGs):TGs:=fun vs σ H Q=>∃ v r,vs=v :: r/\t v σ H fun σ' H'=>u r σ' H' Q
theorem yN:PGs X [] afI:=by
 intro pins s σ H vs us Q I r h
 obtain⟨e,h⟩:=h
 subst e
 cases r
 exact assignInOrder_nil ⟨σ,H,I,h⟩
theorem zI {e:Expr} {es:List Expr} {t:TG} {u:TGs} (h1:PG X e t) (h2:PGs X es u)
  (hs:(assignEach (e :: es) X.env).map (·.2)=assign e X.env :: (assignEach es X.env).map (·.2):=by rfl):PGs X (e :: es) (aer t u):=by
 intro pins s σ H vs us Q I r h
 obtain⟨v,vr,e1,h⟩:=h
 subst e1
 cases r with
 | cons r rr =>
  rw [hs]
  refine assignInOrder_cons (thn (h1 pins s σ H _ _ _ I r h) fun _ s1 ⟨σ1,H1,I1,q1⟩=>?_)
  exact h2 pins s1 σ1 H1 _ _ Q I1 rr q1
noncomputable def aeV (K:ags) (n:Nat) (t:TGs):TG:=fun v σ H Q=>∃ a xs,v=.ref a/\SqT K H a xs/\xs.length=n/\t xs σ H Q
theorem aeW {es:List Expr} {k:Nat} {t:TGs} {n:Nat} (hc:X.calm=true) (h:PGs X es t)
  (hn:(assignEach es X.env).length=n:=by rfl) (hst:(assignEach es X.env).findIdx? (·.1)=none:=by rfl):PG X (.Tuple es k pos) (aeV X.K n t):=by
 intro pins s σ H v u Q I r hw
 obtain⟨a,xs,e1,hq,hl,hw⟩:=hw
 subst e1
 cases r
 obtain⟨its,rv,ht,hz⟩:=I.tuple hq
 refine assign_Tuple_tuple (I.ok.hd hc) ht (by simp [hn,<- hl,rv.length]) hst fun h' hx=>?_
 have I1:Inv X pins σ H { s with heap:=h' }:=I.kept (t':=s.toks) fun b o e=>hx b o (agP (agB e)) e
 exact h pins _ σ H xs _ Q I1 (by simpa using rv) hw
noncomputable def abH (to ti:TE) (t:aeU):TG:=fun v σ H Q=>to σ H fun o H1=>ti σ H1 fun i H2=>t o i v H2 fun H3=>Q σ H3
theorem aaq {o i:Expr} {to ti:TE} {t:aeU} (ho:PE X o to) (hi:PE X i ti) (hs:afH X t)
  (ha:∀ v,assign (.Subscript o i pos) X.env v=(do
   let ov <- holding [v] (eval o X.env)
   let iv <- holding [v,ov] (eval i X.env)
   standAt pos
   holding [v,ov,iv] (setItem ov iv v)
   release [v,ov,iv] []):=by intro _;rfl):PG X (.Subscript o i pos) (abH to ti t):=by
 intro pins s σ H v u Q I r h
 rw [ha]
 refine wpAny_bind (wpAny_holding (thn (ho pins s σ H _ I h) fun ov s1 ⟨x,H1,I1,r1,q1⟩=>?_))
 refine wpAny_bind (wpAny_holding (thn (hi pins s1 σ H1 _ I1 q1) fun iv s2 ⟨y,H2,I2,r2,q2⟩=>?_))
 refine wpAny_bind (wpAny_standAt (wpAny_bind (wpAny_holding (thn (hs pins s2 σ H2 x y v ov iv u _ I2 r1 r2 r q2) fun _ s3 ⟨H3,I3,q3⟩=>?_))))
 exact wpAny_release ⟨σ,H3,I3,q3⟩
noncomputable def y3 (te:TE) (g:TG):TS:=fun D σ H=>te σ H fun x H1=>g x σ H1 D.nx
theorem jO {tg e:Expr} {te:TE} {g:TG} (he:PE X e te) (hg:PG X tg g) (hs:swapsWithSole [tg] e pos.line X.env=pure false:=by rfl) (hw:swappedStores [tg] e X.env=pure none:=by rfl)
  (h1:(assignEach [tg] X.env).map (·.2)=[assign tg X.env]:=by rfl):PS X (.Assign [tg] e pos) (y3 te g):=by
 intro pins s σ H D I h
 refine wpAny_Assign_stores (thn (he pins s σ H _ I h) fun v s1 ⟨x,H1,I1,r1,q1⟩=>?_) hs hw
 rw [h1]
 exact thn (hg pins s1 σ H1 x v _ I1 r1 q1) fun _ s2 q=>q
theorem zy {i:Nat} {x:Str} {e:Expr} {te:TE} {pos':Pos} (hN:X.N.Nodup) (hi:X.N[i]?=some x) (hx:Loc X.env.scope x) (he:PE X e te) (hs:swapsWith e (some (.Name x pos')) pos.line X.env=pure false:=by rfl) (hf:X.fn x=true \/ X.env.scope.names.lookup x=some .local:=by first | exact .inl rfl | exact .inr rfl | assumption) :
  PS X (.Assign [.Name x pos'] e pos) (y3 te (yy i)):=by
 intro pins s σ H D I h
 refine wpAny_Assign_Name (thn (he pins s σ H _ I h) fun v s1 ⟨y,H1,I1,r1,q1⟩=>?_) hs
 exact vL I1 hN hi hx r1 (fun s2 I2=>⟨_,H1,I2,q1⟩) hf
end
section
variable {X:Cx} {pos:Pos}
noncomputable def acm (c:TT) (tb:TS):TS:=fun D σ H=>∃ W:Nat->St->Hp->Prop,(∃ m,W m σ H)/\∀ m σ H,W m σ H ->
 c σ H fun b H1=>if b=true then ∃ N:St->Hp->Prop,(∀ σ' H',N σ' H'->∃ m',m'<m/\W m' σ' H')/\tb { D with nx:=N,ct:=N,bk:=D.nx } σ H1 else D.nx σ H1
theorem acn {c:Expr} {body:List Stmt} {tc:TT} {tb:TS} (hp:PassesOwn (model X.prog X.w) X.A X.env X.xe) (hc:PT X c tc) (hb:PSs X body tb):PS X (.While c body [] pos) (acm tc tb):=by
 intro pins s σ H D I h
 obtain⟨W,⟨m0,w0⟩,turn⟩:=h
 refine wpAny_While (codeAny_whileLoop (fun n s'=>∃ σ' H',Inv X pins σ' H' s'/\W n σ' H') ?_ m0 ⟨σ,H,I,w0⟩)
 rintro n s1 ⟨σ1,H1,I1,w1⟩
 refine wpAny_passesOwn hp (thn (hc pins s1 σ1 H1 _ I1 (turn n σ1 H1 w1)) fun b s2 ⟨H2,I2,q2⟩=>?_)
 cases b with
 | true =>
  obtain⟨N,hN,q2⟩:=q2
  rw [if_pos rfl]
  refine wpAny_passesOwn hp (thn (hb pins s2 σ1 H2 _ I2 q2) fun f s3 q3=>?_)
  cases f with
  | next =>
   obtain⟨σ3,H3,I3,n3⟩:=q3
   obtain⟨m',hm,w3⟩:=hN σ3 H3 n3
   exact⟨m',hm,σ3,H3,I3,w3⟩
  | cont =>
   obtain⟨σ3,H3,I3,n3⟩:=q3
   obtain⟨m',hm,w3⟩:=hN σ3 H3 n3
   exact⟨m',hm,σ3,H3,I3,w3⟩
  | brk=>exact q3
  | ret v=>exact q3
 | false =>
  rw [if_neg agz]
  exact wpAny_execs_nil ⟨σ1,H2,I2,q2⟩
end
structure It where
 go:Nat->Hp->Prop
 yld:Nat->Hp->V->Hp->Prop
 stop:Nat->Hp->Prop
noncomputable def qj (X:Cx) (pins:List (Addr×Obj)) (H:Hp) (b:Addr):Prop :=
 H b=none/\b≠X.env.locals/\b∉X.fs/\(b∈X.ex \/ X.s₀.heap.objs.size<=b)/\(∀ x c,X.env.cells.lookup x=some c->c≠b)/\∀ p∈X.pn++pins,p.1≠b
theorem Inv.fpOk {X:Cx} {pins:List (Addr×Obj)} {σ:St} {H H':Hp} {s:Shared} {b:Addr} (I:Inv X pins σ H s) (hb:s.heap.objs.size<=b) (hn:H' b=none):qj X pins H' b:=by
 refine⟨hn,ah8 (agG I.lt hb),I.nofs hb,.inr (ag2 I.sz hb),fun x c e z=>?_,fun p hp z=>?_⟩
 ·obtain⟨v,q⟩:=I.cell x c e
  exact absurd (agG q.lt (by rw [z];exact hb)) (ahD _)
 ·exact absurd (agG (agB (I.pin p hp).1) (by rw [z];exact hb)) (ahD _)
structure Turn (P:Program) (w:World) (K:ags) (tg:Expr) (J:It) (fp:List Addr) (it:Addr) (tn:Nat->Heap->Prop):Prop where
 mem:it∈fp
 obj:∀ i h,tn i h->∀ b∈fp,∃ o,h.get? b=some o/\∀ v,o.data≠.cell v
 keep:∀ i h h',tn i h->(∀ b∈fp,∀ o,h.get? b=some o->h'.get? b=some o)->tn i h'
 item:∀ (X:Cx),X.prog=P->X.w=w->X.K=K->X.calm=true->∀ (i:Nat) (pins:List (Addr×Obj)) (s:Shared) (σ:St) (H:Hp) (E:Value->Shared->Prop),Inv X pins σ H s->(∀ b∈fp,qj X pins H b)->tn i s.heap->J.go i H ->
  wpAny (model P w) X.A (pyNext (.ref it)) (fun r s1=>∃ u,r=some u /\
   wpAny (model P w) X.A (letOwnedTupleGo tg (.ref it) u) (fun _ s2=>∃ x H',Inv X pins σ H' s2/\RelV x u/\J.yld i H x H'/\tn (i+1) s2.heap/\∀ b∈fp,H' b=none) E s1) E s
 done:∀ (X:Cx),X.prog=P->X.w=w->X.K=K->X.calm=true->∀ (i:Nat) (pins:List (Addr×Obj)) (s:Shared) (σ:St) (H:Hp) (E:Value->Shared->Prop),Inv X pins σ H s->(∀ b∈fp,qj X pins H b)->tn i s.heap->J.stop i H ->
  wpAny (model P w) X.A (pyNext (.ref it)) (fun r s1=>r=none/\Inv X pins σ H s1) E s
 self:∀ (A:Around) (i:Nat) (s:Shared) (Q:Value->Shared->Prop) (E:Value->Shared->Prop),tn i s.heap->Q (.ref it) s->wpAny (model P w) A (pyIter (.ref it)) Q E s
noncomputable abbrev TI:=St->Hp->(It->Hp->Prop)->Prop
noncomputable def PIE (X:Cx) (pins:List (Addr×Obj)) (σ:St) (tg:Expr) (R:It->Hp->Prop) (itv:Value) (s2:Shared):Prop :=
 ∃ (it:Addr) (fp:List Addr) (tn:Nat->Heap->Prop) (J:It) (H':Hp),itv=.ref it/\Inv X pins σ H' s2/\Turn X.prog X.w X.K tg J fp it tn/\tn 0 s2.heap/\(∀ b∈fp,qj X pins H' b)/\R J H'
noncomputable def PI (X:Cx) (tg iter:Expr) (wi:TI):Prop :=
 ∀ (pins:List (Addr×Obj)) (s:Shared) (σ:St) (H:Hp) (R:It->Hp->Prop),Inv X pins σ H s->wi σ H R ->
  wpAny (model X.prog X.w) X.A (eval iter X.env) (fun v s1=>wpAny (model X.prog X.w) X.A (pyIter v) (PIE X pins σ tg R) X.xe s1) X.xe s
theorem aes {M:Model} {A:Around} {E:Value->Shared->Prop} {s:Shared} {tg:Expr} {it:Addr} {u:Value} {o:Obj} {n:String} {vs:Array Value} {Q:Unit->Shared->Prop} (ho:s.heap.get? it=some o) (hc:o.cls=.type n) (hd:o.data=.fields vs)
  (hn:["enumerate","zip","dict_itemiterator","dict_reverseitemiterator","odict_iterator","itertools.zip_longest","itertools.pairwise"].contains n=false) (hQ:Q () s):wpAny M A (letOwnedTupleGo tg (.ref it) u) Q E s:=by
 unfold letOwnedTupleGo
 cases tg <;> first
  | exact wpAny_pure hQ
  | (cases u <;> first
    | exact wpAny_pure hQ
    | (refine wpAny_bind (wpAny_load ho ?_)
       rw [hc,hd]
       show wpAny M A (if (["enumerate","zip","dict_itemiterator","dict_reverseitemiterator","odict_iterator","itertools.zip_longest","itertools.pairwise"].contains n && vs[0]? == some (rawInt _))=true then _ else _) Q E s
       rw [if_neg (by intro h;rw [hn,aiC] at h;cases h)]
       exact wpAny_pure hQ))
noncomputable def Itl (K:ags) (a:Addr):It :=
 ⟨fun i H=>∃ xs x,SqL K H a xs/\xs[i]?=some x,fun i H x H'=>H'=H/\∀ xs,SqL K H a xs->xs[i]?=some x,fun i H=>∃ xs,SqL K H a xs/\xs.length<=i⟩
noncomputable def Itr (lo:Int) (n:Nat):It:=⟨fun i _=>i<n,fun i H x H'=>H'=H/\x=.int (lo+i),fun i _=>n<=i⟩
theorem abI {P:Program} {w:World} {K:ags} {tg:Expr} (a it:Addr):Turn P w K tg (Itl K a) [it] it (fun i h=>h.IsListIter it a i) where
 mem:=by simp
 obj:=fun i h st b hb=>by
  have e:b=it:=by simpa using hb
  subst e
  obtain⟨o,e,c,d⟩:=st
  exact⟨o,e,fun v z=>by rw [d] at z;cases z⟩
 keep:=fun i h h' st k=>st.at fun o e=>k it (by simp) o e
 item:=by
  intro X hP hw hK hc i pins s σ H E I hf st hg
  subst hP hw hK
  obtain⟨xs,x,hq,hx⟩:=hg
  obtain⟨its,rv,p,hz⟩:=I.list hq
  obtain⟨u,hu,ru⟩:=rv.get hx
  obtain⟨f0,f1,f2,f3,f4,f5⟩:=hf it (by simp)
  refine wpAny_pyNext_list_item st p.isList (x:=u) (by simpa using hu) fun h' st' sb=>?_
  have I1:Inv X pins σ H { s with heap:=h' }:=I.turned (t':=s.toks) (fun b o hb e=>(sb.2 b hb).trans e) f0 f1 f3 f4 f5
  obtain⟨o,e,c,d⟩:=id st'
  exact⟨u,rfl,aes (s:={ s with heap:=h' }) e c d (by decide) ⟨x,H,I1,ru,⟨rfl,fun ys hy=>by rw [I.list_inj hy hq];exact hx⟩,st',fun b hb=>(hf b hb).1⟩⟩
 done:=by
  intro X hP hw hK hc i pins s σ H E I hf st hg
  subst hP hw hK
  obtain⟨xs,hq,hx⟩:=hg
  obtain⟨its,rv,p,hz⟩:=I.list hq
  obtain⟨f0,f1,f2,f3,f4,f5⟩:=hf it (by simp)
  have hl:=rv.length
  exact wpAny_pyNext_list_end (I.ok.hd hc) st p.isList (by simp;omega) fun h' eb=>⟨rfl,I.turned (t':=s.toks) (fun b o hb e=>eb b o hb e) f0 f1 f3 f4 f5⟩
 self:=fun _ _ _ _ _ st h=>wpAny_pyIter_listiter st h
theorem aar {P:Program} {w:World} {K:ags} {tg:Expr} (it:Addr) (lo:Int) (n:Nat):Turn P w K tg (Itr lo n) [it] it (fun i h=>IsRangeIter h it (lo+(i:Nat) * 1) ((n:Int) - (i:Nat)) 1) where
 mem:=by simp
 obj:=fun i h st b hb=>by
  have e:b=it:=by simpa using hb
  subst e
  exact⟨_,st,fun v z=>by
   have z':Data.fields _=Data.cell v:=z
   cases z'⟩
 keep:=fun i h h' st k=>k it (by simp) _ st
 item:=by
  intro X hP hw hK hc i pins s σ H E I hf st hg
  subst hP hw hK
  obtain⟨f0,f1,f2,f3,f4,f5⟩:=hf it (by simp)
  have W:=Walks.range (prog:=X.prog) (w:=X.w) (I.ok.hd hc) it lo 1 n
  refine W.item i s _ _ hg st fun v h' tk hv st' kk=>?_
  obtain⟨t,rfl⟩:=hv
  have I1:Inv X pins σ H { s with heap:=h',toks:=tk }:=I.turned (fun b o hb e=>kk b o (by simpa using hb) e) f0 f1 f3 f4 f5
  refine⟨_,rfl,aes (s:={ s with heap:=h',toks:=tk }) (n:="range_iterator") st' rfl rfl (by decide) ⟨.int (lo+i),H,I1,⟨t,?_⟩,⟨rfl,rfl⟩,st',fun b hb=>(hf b hb).1⟩⟩
  rw [Int.mul_one]
 done:=by
  intro X hP hw hK hc i pins s σ H E I hf st hg
  subst hP hw hK
  obtain⟨f0,f1,f2,f3,f4,f5⟩:=hf it (by simp)
  exact wpAny_pyNext_range_end (I.ok.hd hc) st (by have:n<=i:=hg;omega) fun h' eb=>⟨rfl,I.turned (t':=s.toks) (fun b o hb e=>eb b o hb e) f0 f1 f3 f4 f5⟩
 self:=fun _ _ _ _ _ st h=>wpAny_pyIter_rangeiter st h
section
variable {X:Cx} {tg:Expr}
noncomputable def aco (K:ags) (tl:TE):TI:=fun σ H R=>tl σ H fun x H1=>∃ a,x=.ref a/\(∃ xs,SqL K H1 a xs)/\R (Itl K a) H1
theorem adz {l:Expr} {tl:TE} (hl:PE X l tl):PI X tg l (aco X.K tl):=by
 intro pins s σ H R I h
 refine thn (hl pins s σ H _ I h) fun v s1 ⟨x,H1,I1,r1,q1⟩=>?_
 obtain⟨a,e,⟨xs,hq⟩,q⟩:=q1
 subst e
 cases r1
 obtain⟨its,rv,p,hz⟩:=I1.list hq
 refine wpAny_pyIter_list p.isList ?_
 refine⟨s1.heap.objs.size,[s1.heap.objs.size],_,_,H1,rfl,I1.kept (t':=s1.toks) fun b o e=>agt _ e,abI a _,⟨_,agI _ rfl,rfl,rfl⟩,fun b hb=>?_,q⟩
 have e:b=s1.heap.objs.size:=by simpa using hb
 subst e
 exact I1.fpOk (agv _) (I1.hok.fresh (agv _))
theorem vM {pins:List (Addr×Obj)} {σ:St} {H:Hp} {s:Shared} {R:It->Hp->Prop} {E:Value->Shared->Prop} {lo hi:Int} {t u v:Tok} {tk:Nat} (I:Inv X pins σ H s) (h1:-(2 ^ 62)<=lo) (h2:lo<2 ^ 62) (h3:-(2 ^ 62)<=hi) (h4:hi<2 ^ 62)
  (q:R (Itr lo (hi - lo).toNat) H):wpAny (model X.prog X.w) X.A (pyIter (.ref s.heap.objs.size)) (PIE X pins σ tg R) E { s with heap:=s.heap.push { cls:=.type "range",data:=.fields #[.int lo t,.int hi u,.int 1 v] },toks:=tk }:=by
 refine wpAny_pyIter_range (IsRange.new ..) (small_one h1 h2 h3 h4) ?_
 have I1:Inv X pins σ H { s with heap:=s.heap.push { cls:=.type "range",data:=.fields #[.int lo t,.int hi u,.int 1 v] },toks:=tk }:=I.kept fun b o e=>agt _ e
 refine⟨(s.heap.push { cls:=.type "range",data:=.fields #[.int lo t,.int hi u,.int 1 v] }).objs.size,[(s.heap.push { cls:=.type "range",data:=.fields #[.int lo t,.int hi u,.int 1 v] }).objs.size],_,_,H,rfl,
  I1.kept (t':=tk) fun b o e=>agt _ e,aar _ lo (hi - lo).toNat,?_,fun b hb=>?_,q⟩
 ·have e1:lo+((0:Nat):Int) * 1=lo:=by simp
  have e2:(((hi - lo).toNat:Nat):Int) - ((0:Nat):Int)=Builtin.Range.rangeSize lo hi 1:=by rw [rangeSize_one];split <;> omega
  show IsRangeIter _ _ (lo+((0:Nat):Int) * 1) ((((hi - lo).toNat:Nat):Int) - ((0:Nat):Int)) 1
  rw [e1,e2]
  exact agI _ rfl
 ·have e:b=(s.heap.push { cls:=.type "range",data:=.fields #[.int lo t,.int hi u,.int 1 v] }).objs.size:=by simpa using hb
  subst e
  exact I1.fpOk (agv _) (I1.hok.fresh (agv _))
noncomputable def aet (ta:TA):TI:=fun σ H R=>ta σ H fun vs H1=>∃ j:Int,vs=[.int j]/\-(2 ^ 62)<=j/\j<2 ^ 62/\R (Itr 0 j.toNat) H1
noncomputable def aeu (ta:TA):TI:=fun σ H R=>ta σ H fun vs H1=>∃ i j:Int,vs=[.int i,.int j]/\(-(2 ^ 62)<=i/\i<2 ^ 62/\-(2 ^ 62)<=j/\j<2 ^ 62)/\R (Itr i (j - i).toNat) H1
theorem jP {a:Expr} {ta:TA} {p pos:Pos} (hg:Gl X "range") (hm:X.mg "range"=none) (ha:PA X [a] ta) (hs:starEach [a] X.env=[(false,eval a X.env)]:=by rfl):PI X tg (.Call (.Name "range" p) [a] [] pos) (aet ta):=by
 intro pins s σ H R I h
 refine Call_ (jM I hg hm boot_range (ahT (thn (ha pos pins s σ H _ I h) fun us s1 ⟨vs,H1,I1,r1,q1⟩=>?_) hs rfl))
 obtain⟨j,e,q1,q2,q⟩:=q1
 subst e
 cases r1 with
 | cons r rr =>
  cases rr
  obtain⟨t,rfl⟩:=r
  exact call_range_1 (vM I1 (by omega) (by omega) q1 q2 (by simpa using q))
theorem yI {a b:Expr} {ta:TA} {p pos:Pos} (hg:Gl X "range") (hm:X.mg "range"=none) (ha:PA X [a,b] ta) (hs:starEach [a,b] X.env=[(false,eval a X.env),(false,eval b X.env)]:=by rfl) (hs2:starEach [b] X.env=[(false,eval b X.env)]:=by rfl) :
  PI X tg (.Call (.Name "range" p) [a,b] [] pos) (aeu ta):=by
 intro pins s σ H R I h
 refine Call_ (jM I hg hm boot_range (ahT (thn (ha pos pins s σ H _ I h) fun us s1 ⟨vs,H1,I1,r1,q1⟩=>?_) (by rw [hs,hs2]) (by rw [hs2];rfl)))
 obtain⟨i,j,e,⟨q1,q2,q3,q4⟩,q⟩:=q1
 subst e
 cases r1 with
 | cons r rr =>
  cases rr with
  | cons r' rr =>
   cases rr
   obtain⟨t,rfl⟩:=r
   obtain⟨t',rfl⟩:=r'
   exact call_range_2 (vM I1 q1 q2 q3 q4 q)
noncomputable def adA (wi:TI) (g:TG) (tb:TS):TS:=fun D σ H=>wi σ H fun J H1=>∃ W:Nat->Nat->St->Hp->Prop,(∃ m,W 0 m σ H1)/\∀ i m σ H,W i m σ H ->
 (J.stop i H/\D.nx σ H) \/ (J.go i H/\∃ N:St->Hp->Prop,(∀ σ' H',N σ' H'->∃ m',m'<m/\W (i+1) m' σ' H')/\∀ x H',J.yld i H x H'->g x σ H' fun σ2 H2=>tb { D with nx:=N,ct:=N,bk:=D.nx } σ2 H2)
noncomputable def qw (fp:List Addr) (h:Heap):List (Addr×Obj):=fp.filterMap fun b=>(h.get? b).map fun o=>(b,o)
theorem yO {fp:List Addr} {h:Heap} {b:Addr} {o:Obj} (hb:b∈fp) (e:h.get? b=some o):(b,o)∈qw fp h:=ahN.mpr ⟨b,hb,by rw [e];rfl⟩
theorem abJ {fp:List Addr} {h:Heap} {p:Addr×Obj} (hp:p∈qw fp h):p.1∈fp/\h.get? p.1=some p.2:=by
 obtain⟨b,hb,e⟩:=ahN.mp hp
 cases q:h.get? b with
 | none=>rw [q] at e;cases e
 | some o =>
  rw [q] at e
  have e':(b,o)=p:=Option.some.inj e
  subst e'
  exact⟨hb,q⟩
theorem Inv.pinned {pins:List (Addr×Obj)} {σ:St} {H:Hp} {s:Shared} {fp:List Addr} (I:Inv X pins σ H s) (hf:∀ b∈fp,qj X pins H b) (ho:∀ b∈fp,∃ o,s.heap.get? b=some o/\∀ v,o.data≠.cell v):Inv X (pins++qw fp s.heap) σ H s :=
 I.pins_of fun p hp=>(ag5.mp hp).elim (fun z=>I.pin p (agH _ z)) fun z=>by
  obtain⟨hb,e⟩:=abJ z
  obtain⟨f0,f1,f2,_⟩:=hf p.1 hb
  obtain⟨o,e',d⟩:=ho p.1 hb
  rw [e] at e';cases e'
  exact⟨e,f0,f1,f2,d⟩
theorem Inv.unpinned {pins pl:List (Addr×Obj)} {σ:St} {H:Hp} {s:Shared} (I:Inv X (pins++pl) σ H s):Inv X pins σ H s:=I.pins_of fun p hp=>I.pin p (agH _ (ahn _ hp))
theorem y8 {iter:Expr} {body:List Stmt} {wi:TI} {g:TG} {tb:TS} {pos:Pos} (hp:PassesOwn (model X.prog X.w) X.A X.env X.xe) (hc:X.calm=true) (hi:PI X tg iter wi) (hg:PG X tg g) (hb:PSs X body tb)
  (hs:∀ x,foldedSetIterable iter X.env x=pure x:=by intro _;rfl):PS X (.For tg iter body [] pos) (adA wi g tb):=by
 intro pins s σ H D I h
 refine wpAny_For (thn (hi pins s σ H _ I h) fun v s1 h1=>thn h1 fun itv s2 h2=>?_) hs
 obtain⟨it,fp,tn,J,H2,e,I2,T,st2,f2,W,⟨m0,w0⟩,turn⟩:=h2
 subst e
 -- what stays true of the iterator's objects through the loop
 have stat:∀ {H':Hp},(∀ b∈fp,H' b=none)->∀ b∈fp,qj X pins H' b:=fun hn b hb=>⟨hn b hb,(f2 b hb).2⟩
 refine codeAny_forLoop_any (fun n s'=>∃ i σ' H',Inv X pins σ' H' s'/\tn i s'.heap/\(∀ b∈fp,H' b=none)/\W i n σ' H') ?_ m0 ⟨0,σ,H2,I2,st2,fun b hb=>(f2 b hb).1,w0⟩
 rintro n s3 ⟨i,σ3,H3,I3,st3,fr3,w3⟩
 rcases turn i n σ3 H3 w3 with⟨stop,qn⟩ | ⟨go,N,hN,step⟩
 ·refine wpAny_passesOwn hp (thn (T.done X rfl rfl rfl hc i pins s3 σ3 H3 X.xe I3 (stat fr3) st3 stop) fun r s4 ⟨hr,I4⟩=>?_)
  subst hr
  exact wpAny_execs_nil ⟨σ3,H3,I4,qn⟩
 ·refine wpAny_passesOwn hp (thn (T.item X rfl rfl rfl hc i pins s3 σ3 H3 X.xe I3 (stat fr3) st3 go) fun r s4 ⟨u,hr,h4⟩=>?_)
  subst hr
  refine wpAny_passesOwn hp (thn h4 fun _ s5 ⟨x,H5,I5,r5,y5,st5,fr5⟩=>?_)
  have I5':=I5.pinned (stat fr5) (T.obj _ _ st5)
  refine wpAny_passesOwn hp (thn (hg _ s5 σ3 H5 x u _ I5' r5 (step x H5 y5)) fun _ s6 ⟨σ6,H6,I6,q6⟩=>?_)
  refine wpAny_passesOwn hp (thn (hb _ s6 σ6 H6 _ I6 q6) fun f s7 q7=>?_)
  have again:∀ {σ7:St} {H7:Hp},Inv X (pins++qw fp s5.heap) σ7 H7 s7->N σ7 H7->∃ m,m<n/\∃ i σ' H',Inv X pins σ' H' s7/\tn i s7.heap/\(∀ b∈fp,H' b=none)/\W i m σ' H':=fun {σ7 H7} I7 n7=>by
   obtain⟨m',hm,w7⟩:=hN σ7 H7 n7
   refine⟨m',hm,i+1,σ7,H7,I7.unpinned,T.keep _ _ _ st5 fun b hb o e=>(I7.pin (b,o) (agH _ (agH _ (yO hb e)))).1,fun b hb=>?_,w7⟩
   obtain⟨o,e,d⟩:=T.obj _ _ st5 b hb
   exact (I7.pin (b,o) (agH _ (agH _ (yO hb e)))).2.1
  cases f with
  | next=>obtain⟨σ7,H7,I7,n7⟩:=q7;exact again I7 n7
  | cont=>obtain⟨σ7,H7,I7,n7⟩:=q7;exact again I7 n7
  | brk=>obtain⟨σ7,H7,I7,q7⟩:=q7;exact⟨σ7,H7,I7.unpinned,q7⟩
  | ret v=>obtain⟨x7,σ7,H7,I7,r7,q7⟩:=q7;exact⟨x7,σ7,H7,I7.unpinned,r7,q7⟩
end
noncomputable abbrev R2:=V->V->Hp->VK->Prop
noncomputable def OpR (X:Cx) (f:Value->Value->Sem Value) (r:R2):Prop :=
 ∀ (pins:List (Addr×Obj)) (s:Shared) (σ:St) (H:Hp) (x y:V) (v u:Value) (Q:VK),Inv X pins σ H s->RelV x v->RelV y u->r x y H Q ->
  wpAny (model X.prog X.w) X.A (f v u) (EP X pins σ Q) X.xe s
noncomputable def UnR (X:Cx) (f:Value->Sem Value) (r:V->Hp->VK->Prop):Prop :=
 ∀ (pins:List (Addr×Obj)) (s:Shared) (σ:St) (H:Hp) (x:V) (v:Value) (Q:VK),Inv X pins σ H s->RelV x v->r x H Q ->
  wpAny (model X.prog X.w) X.A (f v) (EP X pins σ Q) X.xe s
noncomputable def yj (X:Cx) (f:Value) (r:List V->Hp->VK->Prop):Prop :=
 ∀ (pins:List (Addr×Obj)) (s:Shared) (σ:St) (H:Hp) (xs:List V) (us:List Value) (Q:VK),Inv X pins σ H s->Vals xs us->r xs H Q ->
  wpAny (model X.prog X.w) X.A (call f us) (EP X pins σ Q) X.xe s
noncomputable def age (X:Cx) (r:V->Hp->(Bool->Hp->Prop)->Prop):Prop :=
 ∀ (pins:List (Addr×Obj)) (s:Shared) (σ:St) (H:Hp) (x:V) (v:Value) (Q:Bool->Hp->Prop),Inv X pins σ H s->RelV x v->r x H Q ->
  wpAny (model X.prog X.w) X.A (truthy v) (TP X pins σ Q) X.xe s
noncomputable def tOp (r:R2) (ta tb:TE):TE:=fun σ H Q=>ta σ H fun x H1=>tb σ H1 fun y H2=>r x y H2 Q
noncomputable def tUn (r:V->Hp->VK->Prop) (ta:TE):TE:=fun σ H Q=>ta σ H fun x H1=>r x H1 Q
noncomputable def rI (C:Int->Int->Prop) (g:Int->Int->V):R2:=fun x y H Q=>∃ i j,x=.int i/\y=.int j/\C i j/\Q (g i j) H
noncomputable def rI0 (g:Int->Int->V):R2:=fun x y H Q=>∃ i j,x=.int i/\y=.int j/\Q (g i j) H
noncomputable def rU (g:Int->V):V->Hp->VK->Prop:=fun x H Q=>∃ i,x=.int i/\Q (g i) H
section
variable {X:Cx} {a b c:Expr} {ta tb tc:TE} {pos:Pos}
theorem aeX (ha:PE X a ta) (hb:PE X b tb) {pins:List (Addr×Obj)} {s:Shared} {σ:St} {H:Hp} {R:V->V->Hp->Prop} (I:Inv X pins σ H s)
  (h:ta σ H fun x H1=>tb σ H1 fun y H2=>R x y H2) {Q:Value->Shared->Prop} {f:Value->Value->Sem Value}
  (hf:∀ v u s2 x y H2,Inv X pins σ H2 s2->RelV x v->RelV y u->R x y H2->wpAny (model X.prog X.w) X.A (f v u) Q X.xe s2) :
  wpAny (model X.prog X.w) X.A (eval a X.env) (fun v s₁=>wpAny (model X.prog X.w) X.A (eval b X.env) (fun u s₂=>wpAny (model X.prog X.w) X.A (f v u) Q X.xe s₂) X.xe s₁) X.xe s:=by
 refine thn (ha pins s σ H _ I h) fun v s1 ⟨x,H1,I1,r1,q1⟩=>?_
 refine thn (hb pins s1 σ H1 _ I1 q1) fun u s2 ⟨y,H2,I2,r2,q2⟩=>?_
 exact hf v u s2 x y H2 I2 r1 r2 q2
theorem zg {op:Operator} {r:R2} (ho:OpR X (binaryOp op) r) (ha:PE X a ta) (hb:PE X b tb):PE X (.BinOp a op b pos) (tOp r ta tb):=by
 intro pins s σ H Q I h
 exact wpAny_BinOp (aeX ha hb I h fun v u s2 x y H2 I2 rx ry q=>ho pins s2 σ H2 x y v u Q I2 rx ry q)
theorem acp {op:UnaryOp} {r:V->Hp->VK->Prop} (ho:UnR X (unaryOp op) r) (ha:PE X a ta):PE X (.UnaryOp op a pos) (tUn r ta):=by
 intro pins s σ H Q I h
 exact UnaryOp_ (thn (ha pins s σ H _ I h) fun v s1 ⟨x,H1,I1,r1,q1⟩=>ho pins s1 σ H1 x v Q I1 r1 q1)
theorem opI {f:Value->Value->Sem Value} {C:Int->Int->Prop} {g:Int->Int->Int}
  (rule:∀ (i j:Int) (t u:Tok) (s:Shared) (Q:Value->Shared->Prop) (E:Value->Shared->Prop),C i j->Q (.int (g i j) s.toks) { s with toks:=s.toks+1 }->wpAny (model X.prog X.w) X.A (f (.int i t) (.int j u)) Q E s) :
  OpR X f (rI C fun i j=>.int (g i j)):=by
 intro pins s σ H x y v u Q I rx ry h
 obtain⟨i,j,rfl,rfl,hc,q⟩:=h
 obtain⟨t,rfl⟩:=rx
 obtain⟨t',rfl⟩:=ry
 exact rule i j t t' s _ _ hc ⟨.int (g i j),H,I.tok _,⟨_,rfl⟩,q⟩
theorem afJ {f:Value->Value->Sem Value} {g:Int->Int->Int}
  (rule:∀ (i j:Int) (t u:Tok) (s:Shared) (Q:Value->Shared->Prop) (E:Value->Shared->Prop),Q (.int (g i j) s.toks) { s with toks:=s.toks+1 }->wpAny (model X.prog X.w) X.A (f (.int i t) (.int j u)) Q E s) :
  OpR X f (rI0 fun i j=>.int (g i j)):=by
 intro pins s σ H x y v u Q I rx ry h
 obtain⟨i,j,rfl,rfl,q⟩:=h
 obtain⟨t,rfl⟩:=rx
 obtain⟨t',rfl⟩:=ry
 exact rule i j t t' s _ _ ⟨.int (g i j),H,I.tok _,⟨_,rfl⟩,q⟩
theorem adB {f:Value->Value->Sem Value} {g:Int->Int->Bool}
  (rule:∀ (i j:Int) (t u:Tok) (s:Shared) (Q:Value->Shared->Prop) (E:Value->Shared->Prop),Q (.bool (g i j)) s->wpAny (model X.prog X.w) X.A (f (.int i t) (.int j u)) Q E s) :
  OpR X f (rI0 fun i j=>.bl (g i j)):=by
 intro pins s σ H x y v u Q I rx ry h
 obtain⟨i,j,rfl,rfl,q⟩:=h
 obtain⟨t,rfl⟩:=rx
 obtain⟨t',rfl⟩:=ry
 exact rule i j t t' s _ _ ⟨.bl (g i j),H,I,rfl,q⟩
noncomputable def agf (i j:Int):Prop:=0<=j/\j<=1000000/\i.natAbs<2 ^ 64
noncomputable def CMul (i j:Int):Prop:=(-(2 ^ 64)<i/\i<2 ^ 64) \/ (-(2 ^ 64)<j/\j<2 ^ 64)
theorem CMul.ok {i j:Int} (h:CMul i j):IntMulOk i j:=by
 rcases h with⟨h1,h2⟩ | ⟨h1,h2⟩
 ·exact .of_left (intBits_le_64 h1 h2)
 ·exact .of_right (intBits_le_64 h1 h2)
theorem zK:OpR X (binaryOp .Add) (rI0 fun i j=>.int (i+j)):=afJ fun _ _ _ _ _ _ _ q=>add_int q
theorem zB:OpR X (binaryOp .Sub) (rI0 fun i j=>.int (i - j)):=afJ fun _ _ _ _ _ _ _ q=>sub_int q
theorem yP:OpR X (binaryOp .Mult) (rI CMul fun i j=>.int (i * j)):=opI fun _ _ _ _ _ _ _ hc q=>mul_int q hc.ok
theorem jQ:OpR X (binaryOp .Mod) (rI (fun _ j=>0<j) fun i j=>.int (i % j)):=opI fun i j _ _ _ _ _ hc q=>by
 have h1:(0:Int)<j:=hc
 exact mod_int' (by omega) (by rw [Int.fmod_eq_emod_of_nonneg i (by omega)];exact q)
theorem qx:OpR X (binaryOp .Pow) (rI agf fun i j=>.int (i ^ j.toNat)):=opI fun _ _ _ _ _ _ _ hc q=>pow_int_small hc.1 hc.2.1 hc.2.2 q
theorem unI {f:Value->Sem Value} {g:Int->Int}
  (rule:∀ (i:Int) (t:Tok) (s:Shared) (Q:Value->Shared->Prop) (E:Value->Shared->Prop),Q (.int (g i) s.toks) { s with toks:=s.toks+1 }->wpAny (model X.prog X.w) X.A (f (.int i t)) Q E s) :
  UnR X f (rU fun i=>.int (g i)):=by
 intro pins s σ H x v Q I rx h
 obtain⟨i,rfl,q⟩:=h
 obtain⟨t,rfl⟩:=rx
 exact rule i t s _ _ ⟨.int (g i),H,I.tok _,⟨_,rfl⟩,q⟩
theorem aas:UnR X (unaryOp .USub) (rU fun i=>.int (-i)):=unI fun _ _ _ _ _ q=>neg_int q
end
section
variable {X:Cx} {a b c:Expr} {ta tb tc:TE} {pos:Pos}
theorem aeY {pins:List (Addr×Obj)} {σ:St} {H:Hp} {s:Shared} {Q:VK} {k k':Bool} (I:Inv X pins σ H s) (q:Q (.bl k) H) (e:k=k'):EP X pins σ Q (.bool k') s:=by
 subst e
 exact⟨.bl k,H,I,rfl,q⟩
theorem afK:OpR X (compareOp .Lt) (rI0 fun i j=>.bl (decide (i<j))):=adB fun _ _ _ _ _ _ _ q=>lt_int q
theorem vN:OpR X (compareOp .LtE) (rI0 fun i j=>.bl (decide (i<=j))):=adB fun _ _ _ _ _ _ _ q=>le_int q
theorem afL:OpR X (compareOp .Gt) (rI0 fun i j=>.bl (decide (j<i))):=adB fun _ _ _ _ _ _ _ q=>gt_int q
theorem aev:OpR X (compareOp .GtE) (rI0 fun i j=>.bl (decide (j<=i))):=adB fun _ _ _ _ _ _ _ q=>ge_int q
theorem adC:OpR X (compareOp .IsNot) (fun x y H Q=>y=.non/\Q (.bl (!decide (x=.non))) H):=by
 intro pins s σ H x y v u Q I rx ry h
 obtain⟨rfl,q⟩:=h
 cases ry
 refine isnot_none_gen (aeY I q ?_)
 cases x <;> first
  | (cases rx;rfl)
  | (obtain⟨t,rfl⟩:=rx;rfl)
theorem zP (b:Expr) {op:CmpOp} (h:op≠.In:=by decide) (h2:op≠.NotIn:=by decide):behindInMarks op b=false:=by
 have e1:(op == CmpOp.In)=false:=by cases op <;> first | rfl | exact absurd rfl h
 have e2:(op == CmpOp.NotIn)=false:=by cases op <;> first | rfl | exact absurd rfl h2
 cases b <;> simp [behindInMarks,e1,e2]
theorem ji {op:CmpOp} {r:R2} (ho:OpR X (compareOp op) r) (ha:PE X a ta) (hb:PE X b tb) (hm:behindInMarks op b=false):PE X (.Compare a [op] [b] pos) (tOp r ta tb):=by
 intro pins s σ H Q I h
 exact wpAny_Compare1 (aeX ha hb I h fun v u s2 x y H2 I2 rx ry q=>ho pins s2 σ H2 x y v u Q I2 rx ry q) hm
noncomputable def aew (t:TE):TT:=fun σ H Q=>t σ H fun x H'=>∃ k,x=.bl k/\Q k H'
theorem zV {op:CmpOp} {r:R2} (ho:OpR X (compareOp op) r) (ha:PE X a ta) (hb:PE X b tb) (hm:behindInMarks op b=false):PT X (.Compare a [op] [b] pos) (aew (tOp r ta tb)):=by
 intro pins s σ H Q I h
 refine wpAny_isTrue_Compare1 (thn (ha pins s σ H _ I h) fun v s1 ⟨x,H1,I1,r1,q1⟩=>thn (hb pins s1 σ H1 _ I1 q1) fun u s2 ⟨y,H2,I2,r2,q2⟩ =>
  thn (ho pins s2 σ H2 x y v u _ I2 r1 r2 q2) fun c s3 ⟨z,H3,I3,r3,k,e,q3⟩=>?_) hm
 subst e
 cases r3
 exact wpAny_truthy_bool ⟨H3,I3,q3⟩
noncomputable def aeZ (K:ags) (x:V) (H:Hp) (k:Bool):Prop :=
 match x with
 | .non=>k=false
 | .bl b=>k=b
 | .int i=>k=(i != 0)
 | .str y=>y.length<=sizeLine/\k=((y.length:Int) != 0)
 | .byt y=>y.size<=sizeLine/\k=((y.size:Int) != 0)
 | .ref p=>(∃ xs,SqL K H p xs/\k=!xs.isEmpty) \/ (∃ xs,SqT K H p xs/\k=!xs.isEmpty) \/ ∃ kvs,H p=some (.dK kvs)/\k=!kvs.isEmpty
 | _=>False
theorem aat {κ:Type} {kvs:List (κ×V)} {vs:List (κ×Value)} (r:KV kvs vs):(!vs.isEmpty)=!kvs.isEmpty:=by
 cases r <;> rfl
theorem qy {xs:List V} {its:List Value} (r:Vals xs its):(!its.toArray.isEmpty)=!xs.isEmpty:=by
 cases r <;> simp
theorem jR:(sizeLine:Nat)<2 ^ 63:=by rw [sizeLine_eq];decide
theorem ae0:age X (fun x H Q=>∃ k,aeZ X.K x H k/\Q k H):=by
 intro pins s σ H x v Q I rx h
 obtain⟨k,e,q⟩:=h
 have hl:=jR
 have hs:sizeLine=16777216:=sizeLine_eq
 cases x with
 | non =>
  cases rx
  have e':k=false:=e
  subst e'
  exact truthy_none ⟨H,I,q⟩
 | bl b =>
  cases rx
  have e':k=b:=e
  subst e'
  exact wpAny_truthy_bool ⟨H,I,q⟩
 | int i =>
  obtain⟨t,rfl⟩:=rx
  have e':k=(i != 0):=e
  subst e'
  exact PySem.P.truthy_int ⟨H,I,q⟩
 | str y =>
  obtain⟨t,rfl⟩:=rx
  obtain⟨hy,e'⟩:y.length<=sizeLine/\k=((y.length:Int) != 0):=e
  subst e'
  exact PySem.P.truthy_str (by omega) ⟨H,I.tok _,q⟩
 | byt y =>
  obtain⟨t,rfl⟩:=rx
  obtain⟨hy,e'⟩:y.size<=sizeLine/\k=((y.size:Int) != 0):=e
  subst e'
  exact PySem.W.truthy_bytes (by omega) ⟨H,I.tok _,q⟩
 | ref p =>
  cases rx
  have e':(∃ xs,SqL X.K H p xs/\k=!xs.isEmpty) \/ (∃ xs,SqT X.K H p xs/\k=!xs.isEmpty) \/ ∃ kvs,H p=some (.dK kvs)/\k=!kvs.isEmpty:=e
  rcases e' with⟨xs,hx,e'⟩ | ⟨xs,hx,e'⟩ | ⟨kvs,hx,e'⟩
  ·subst e'
   obtain⟨its,r,pl,hz⟩:=I.list hx
   have hlen:=r.length
   exact wpAny_truthy_list pl.isList (by simp only [agE];omega) ⟨H,I.tok _,by rw [qy r];exact q⟩
  ·subst e'
   obtain⟨its,r,pl,hz⟩:=I.tuple hx
   have hlen:=r.length
   exact truthy_tuple pl (by simp only [agE];omega) ⟨H,I.tok _,by rw [qy r];exact q⟩
  ·subst e'
   obtain⟨hz,hS,vs,r,m⟩:kvs.length<=sizeLine/\(p == sysModules)=false/\∃ vs,KV kvs vs/\s.heap.DictOf (vm X.prog X.w) p vs:=I.hok p _ hx
   have hlen:kvs.length=vs.length:=Paired.length r
   exact wpAny_truthy_dict hS m (by omega) ⟨H,I.tok _,by rw [aat r];exact q⟩
 | _=>exact (show False from e).elim
theorem acq (ha:PE X a ta) (he:∀ whole,isTrue a X.env whole=(do let v <- whole;standAt a.pos;holding [v] (truthy v))) :
  PT X a (fun σ H Q=>ta σ H fun x H'=>∃ k,aeZ X.K x H' k/\Q k H'):=by
 intro pins s σ H Q I h
 exact isTrue_plain (thn (ha pins s σ H _ I h) fun v s1 ⟨x,H1,I1,r1,q1⟩=>ae0 pins s1 σ H1 x v Q I1 r1 q1) (he _)
theorem vals1 {x:V} {us:List Value} (r:Vals [x] us):∃ u,us=[u]/\RelV x u:=by
 cases r with
 | cons r1 r2=>cases r2;exact⟨_,rfl,r1⟩
theorem vals2 {x y:V} {us:List Value} (r:Vals [x,y] us):∃ u w',us=[u,w']/\RelV x u/\RelV y w':=by
 cases r with
 | cons r1 r2 =>
  cases r2 with
  | cons r3 r4=>cases r4;exact⟨_,_,rfl,r1,r3⟩
theorem acr:yj X (.builtin "abs") (fun xs H Q=>∃ i,xs=[.int i]/\Q (.int (if i<0 then -i else i)) H):=by
 intro pins s σ H xs us Q I r h
 obtain⟨i,rfl,q⟩:=h
 obtain⟨u,rfl,t,rfl⟩:=vals1 r
 exact call_abs_int fun u tk=>⟨.int (if i<0 then -i else i),H,I.tok _,⟨_,rfl⟩,q⟩
theorem jS (hc:X.calm=true):yj X (.builtin "max") (fun xs H Q=>∃ i j,xs=[.int i,.int j]/\Q (.int (if j > i then j else i)) H):=by
 intro pins s σ H xs us Q I r h
 obtain⟨i,j,rfl,q⟩:=h
 obtain⟨u,w',rfl,⟨t,rfl⟩,⟨t',rfl⟩⟩:=vals2 r
 refine max_two_ints (I.ok.hd hc) fun h' tk k=>⟨_,H,I.kept k,?_,q⟩
 by_cases hj:j > i
 ·rw [if_pos hj,if_pos hj];exact⟨_,rfl⟩
 ·rw [if_neg hj,if_neg hj];exact⟨_,rfl⟩
theorem qV (hc:X.calm=true):yj X (.builtin "min") (fun xs H Q=>∃ i j,xs=[.int i,.int j]/\Q (.int (if j<i then j else i)) H):=by
 intro pins s σ H xs us Q I r h
 obtain⟨i,j,rfl,q⟩:=h
 obtain⟨u,w',rfl,⟨t,rfl⟩,⟨t',rfl⟩⟩:=vals2 r
 refine min_two_ints (I.ok.hd hc) fun h' tk k=>⟨_,H,I.kept k,?_,q⟩
 by_cases hj:j<i
 ·rw [if_pos hj,if_pos hj];exact⟨_,rfl⟩
 ·rw [if_neg hj,if_neg hj];exact⟨_,rfl⟩
theorem abK:yj X (.type "int") (fun xs H Q=>(∃ i,xs=[.int i]/\Q (.int i) H) \/ ∃ k,xs=[.bl k]/\Q (.int (if k then 1 else 0)) H):=by
 intro pins s σ H xs us Q I r h
 rcases h with⟨i,rfl,q⟩ | ⟨k,rfl,q⟩
 ·obtain⟨u,rfl,t,rfl⟩:=vals1 r
  exact call_int_int ⟨.int i,H,I,⟨_,rfl⟩,q⟩
 ·obtain⟨u,rfl,r1⟩:=vals1 r
  cases r1
  exact call_int_bool ⟨.int (if k then 1 else 0),H,I.tok _,⟨_,rfl⟩,q⟩
end
structure ObjM (h:Heap) (x dx C:Addr) (mA:Str->Option Value):Prop where
 obj:h.get? x=some (ai0 C dx)
 ns:h.Ns1 dx mA
 ne:dx≠x
theorem abL {h:Heap} {dx:Addr} {mA:Str->Option Value} (n:h.Ns1 dx mA):∃ od,h.get? dx=some od/\∀ name,ai8 name od=some (mA name):=by
 obtain⟨o,es,ep,ho,hd,hk,_,hm⟩:=n
 refine⟨o,ho,fun name=>?_⟩
 have e:=hm name
 unfold nsFind findBy at e
 rw [<-Array.find?_toList] at e
 unfold ai8
 rw [hd]
 dsimp only
 split
 ·rename_i y q
  rw [q] at e
  exact congrArg some e
 ·rename_i q
  rw [q] at e
  have a:es.toList.any (·.refKey)=false:=by
   rw [List.any_eq_false]
   intro y hy
   obtain⟨z,t,hkey⟩:=hk y (Array.mem_toList_iff.mp hy)
   simp [DictEntry.refKey,hkey]
  have a':¬ es.toList.any (·.refKey)=true:=by rw [a];exact agz
  rw [if_neg a']
  exact congrArg some e
theorem ObjM.look {h:Heap} {x dx C:Addr} {mA:Str->Option Value} (I:ObjM h x dx C mA):∃ od,PySem.W.InstAt h x (ai0 C dx) C (some od)/\∀ name,ai8 name od=some (mA name) :=
 let⟨od,ho,hl⟩:=abL I.ns
 ⟨od,⟨I.obj,rfl,rfl,ho⟩,hl⟩
section
variable {prog:Program} {w:World} {A:Around} {E:Value->Shared->Prop} {s:Shared} {K:ags} {x dx C f:Addr} {mA:Str->Option Value} {name:Str} {v:Value}
end
section
variable {P:Program} {w:World} {H H':Hp} {h h':Heap} {a C dx:Addr} {fs fs':List (Str×V)}
theorem adD (hok:HOk P w H h) (e:H a=some (.ins C dx fs)):∃ mA,ObjM h a dx C mA/\(∀ f,aeR (fs.lookup f) (mA f))/\PySem.Within mA (fs.map (·.1))/\fs.length<=1000/\H dx=some (.own a):=by
 obtain⟨d,z,ne,ob,mA,n,r,q⟩:=(show ObjOk P w H h a (.ins C dx fs) from hok a _ e)
 exact⟨mA,⟨ob,n,ne⟩,r,q,z,d⟩
end
structure Cls (K:ags) (C:Addr):Prop where
 pg:PySem.W.plainGet K C Str.empty=true
 hd:PySem.W.hasDictIn K C=true
 po:PySem.W.plainOver K C=true
 sa:ahJ K (.ref C) "__setattr__"=some (some (.builtin "object.__setattr__"))
theorem Cls.get {K:ags} {C:Addr} (c:Cls K C) (f:Str):PySem.W.plainGet K C f=true:=c.pg
structure Con (K:ags) (C:Addr) (f:Str) (v:V) (u:Value):Prop where
 at_:ahJ K (.ref C) f=some (some u)
 rel:RelV v u
 get:aiL K u "__get__"=some none
 cp:PySem.W.copiedNames.contains f=false
structure Meth (K:ags) (C:Addr) (m:Str) (f:Addr):Prop where
 at_:ahJ K (.ref C) m=some (some (.ref f))
 fn:PySem.W.isFn K (.ref f)=true
 kp:ag4 K (.ref f)=true
section
variable {X:Cx} {pins:List (Addr×Obj)} {σ:St} {H:Hp} {s:Shared} {a C dx:Addr} {fs:List (Str×V)} {f:Str} {v:V} {A:Around} {E:Value->Shared->Prop}
end
section
variable {X:Cx} {pins:List (Addr×Obj)} {σ:St} {H:Hp} {s:Shared} {A:Around} {E:Value->Shared->Prop} {Q:Value->Shared->Prop} {c:Value} {b:Bool}
inductive TyOf (K:ags) (H:Hp):V->Value->Prop where
 | non:TyOf K H .non (.type "NoneType")
 | bl (x:Bool):TyOf K H (.bl x) (.type "bool")
 | int (i:Int):TyOf K H (.int i) (.type "int")
 | str (x:Str):TyOf K H (.str x) (.type "str")
 | flt (x:UInt64):TyOf K H (.flt x) (.type "float")
 | lst {a:Addr} {xs:List V} (e:H a=some (.lst xs)):TyOf K H (.ref a) (.type "list")
 | frz {a:Addr} {o:Obj} {xs:List V} (e:H a=some (.frz o (.lst xs))):TyOf K H (.ref a) (.type "list")
 | tup {a:Addr} {xs:List V} (e:H a=some (.tup xs)):TyOf K H (.ref a) (.type "tuple")
 | dK {a:Addr} {kvs:List (Key×V)} (e:H a=some (.dK kvs)):TyOf K H (.ref a) (.type "dict")
 | dT {a:Addr} {kvs:List (List Key×V)} (e:H a=some (.dT kvs)):TyOf K H (.ref a) (.type "dict")
 | ins {a C dx:Addr} {fs:List (Str×V)} (e:H a=some (.ins C dx fs)) (cl:Cls K C) (ha:ahJ K (.ref C) "__class__"=some (some (.builtin "object.__class__")))
   (hn:aiL K (.builtin "object.__class__") "__get__"=some (some (.builtin "getset_descriptor.__get__"))) (htk:PySem.W.takesIn K (.builtin "object.__class__")=some true)
   (hm:PySem.W.mroIn K C (.type "object")=some true):TyOf K H (.ref a) (.ref C)
theorem abM {x:V} {u t:Value} (I:Inv X pins σ H s) (rx:RelV x u) (ty:TyOf X.K H x t) (e:agZ X.K t c=some b) (h:∀ tk,Q (.bool b) { s with toks:=tk }) :
  wpAny (model X.prog X.w) A (call (.builtin "isinstance") [u,c]) Q E s:=by
 cases ty with
 | non=>cases (show u=Value.none from rx);exact agX PySem.W.kitx_none I.kIn True.intro e (fun z=>nomatch z) h
 | bl y=>cases (show u=Value.bool y from rx);exact agX PySem.W.kitx_bool I.kIn True.intro e (fun z=>nomatch z) h
 | int i=>obtain⟨t,q⟩:=(show ∃ t,u=Value.int i t from rx);cases q;exact agX PySem.W.kitx_int I.kIn True.intro e (fun z=>nomatch z) h
 | str y=>obtain⟨t,q⟩:=(show ∃ t,u=Value.str y t from rx);cases q;exact agX PySem.W.kitx_str I.kIn True.intro e (fun z=>nomatch z) h
 | flt y=>obtain⟨t,q⟩:=(show ∃ t,u=Value.float y t from rx);cases q;exact agX PySem.W.kitx_float I.kIn True.intro e (fun z=>nomatch z) h
 | @lst a xs ea =>
  cases (show u=Value.ref a from rx)
  obtain⟨_,_,n,_,h1⟩:=(show ObjOk X.prog X.w H s.heap a (.lst xs) from I.hok a _ ea)
  exact agX aiM I.kIn ⟨_,h1,rfl⟩ e (fun z=>nomatch z) h
 | @frz a ob xs ea =>
  cases (show u=Value.ref a from rx)
  obtain⟨_,_,_,n,_,h1⟩:=(show ObjOk X.prog X.w H s.heap a (.frz ob (.lst xs)) from I.hok a _ ea)
  exact agX aiM I.kIn ⟨_,h1,rfl⟩ e (fun z=>nomatch z) h
 | @tup a xs ea =>
  cases (show u=Value.ref a from rx)
  obtain⟨_,_,_,p⟩:=(show ObjOk X.prog X.w H s.heap a (.tup xs) from I.hok a _ ea)
  obtain⟨o,h1,h2,_⟩:=p
  exact agX PySem.W.kitx_tuple I.kIn ⟨o,h1,h2⟩ e (fun z=>nomatch z) h
 | @dK a kvs ea =>
  cases (show u=Value.ref a from rx)
  obtain⟨_,_,vs,_,p⟩:=(show ObjOk X.prog X.w H s.heap a (.dK kvs) from I.hok a _ ea)
  obtain⟨o,es,ep,h1,h2,_⟩:=p
  exact agX PySem.W.kitx_dict I.kIn ⟨o,h1,h2.1⟩ e (fun z=>nomatch z) h
 | @dT a kvs ea =>
  cases (show u=Value.ref a from rx)
  obtain⟨_,_,xs,_,o,es,ep,h1,h2,_⟩:=(show ObjOk X.prog X.w H s.heap a (.dT kvs) from I.hok a _ ea)
  exact agX PySem.W.kitx_dict I.kIn ⟨o,h1,h2.1⟩ e (fun z=>nomatch z) h
 | @ins a C dx fs ea cl ha hn htk hm =>
  cases (show u=Value.ref a from rx)
  obtain⟨mA,O,_⟩:=adD I.hok ea
  obtain⟨od,J,_⟩:=O.look
  exact agX (PySem.W.kitx_own (cl.get _) cl.hd ha hn htk hm) I.kIn J e (fun z=>nomatch z) h
end
structure Room (k:Nat) (A:Around):Prop where
 hd:A.handled=none
 dp:A.depth+3 * k+5<recursionLimit
 un:A.units+16 * k+200<cLine
theorem Room.mono {j k:Nat} {A:Around} (r:Room k A) (h:j<=k):Room j A:=⟨r.hd,by have:=r.dp;omega,by have:=r.un;omega⟩
theorem Room.deeper {k:Nat} {A:Around} (r:Room (k+1) A) (env:Env):Room k (A.deeper env) :=
 ⟨r.hd,by have:=r.dp;show A.depth+1+3 * k+5<_;omega,by have:=r.un;show A.units+3+16 * k+200<_;omega⟩
theorem Room.in1 {k:Nat} {A:Around} (r:Room (k+1) A):Room k A.in1 :=
 ⟨r.hd,by have:=r.dp;show A.depth+3 * k+5<_;omega,by have:=r.un;show A.units+1+16 * k+200<_;omega⟩
theorem Room.depth {k:Nat} {A:Around} (r:Room k A):A.depth<recursionLimit:=by have:=r.dp;omega
theorem Room.units {k:Nat} {A:Around} (r:Room k A):A.units+64<cLine:=by have:=r.un;omega
noncomputable def ju:TA:=fun _ H Q=>Q [] H
noncomputable def zY (ta:TE) (tr:TA):TA:=fun σ H Q=>ta σ H fun x H1=>tr σ H1 fun xs H2=>Q (x :: xs) H2
section
variable {X:Cx} {e:Expr} {es:List Expr} {te:TE} {t:TA} {pos:Pos}
theorem ze:PA X [] ju:=fun _ _ _ _ H Q I h=>Calls.spliced_nil ⟨[],H,I,.nil,h⟩
theorem za (ha:PE X e te) (hr:PA X es t) (hs:starEach (e :: es) X.env=(false,eval e X.env) :: starEach es X.env:=by rfl):PA X (e :: es) (zY te t):=by
 intro pos pins s σ H Q I h
 rw [hs]
 show wpAny _ _ (spliced ((false,eval e X.env) :: backTo pos (starEach es X.env))) _ _ s
 refine Calls.spliced_cons (thn (ha pins s σ H _ I h) fun u s1 ⟨x,H1,I1,r1,q1⟩=>?_)
 exact thn (hr pos pins s1 σ H1 _ I1 q1) fun us s2 ⟨xs,H2,I2,r2,q2⟩=>⟨x :: xs,H2,I2,.cons r1 r2,q2⟩
noncomputable def adE (t:TA):TE:=fun σ H Q=>t σ H fun xs H1=>xs.length<=sizeLine/\∀ p,H1 p=none->Q (.ref p) (upd H1 p (.tup xs))
noncomputable def acs (t:TA):TE:=fun σ H Q=>t σ H fun xs H1=>xs.length<=sizeLine/\∀ p,H1 p=none->Q (.ref p) (upd H1 p (.lst xs))
theorem jT {x1} (h:PA X es t):PE X (.Tuple es x1 pos) (adE t):=by
 intro pins s σ H Q I hq
 refine wpAny_Tuple_spliced (thn (h pos pins s σ H _ I hq) fun us s1 ⟨xs,H1,I1,r,z,q⟩=>⟨by rw [<-r.length];exact z,?_⟩)
 have hf:H1 s1.heap.objs.size=none:=I1.hok.fresh (agv _)
 refine⟨.ref s1.heap.objs.size,upd H1 s1.heap.objs.size (.tup xs),I1.laid (t':=s1.toks) (fun b u e=>agt _ e) (agv _) ?_,rfl,q _ hf⟩
 exact⟨z,us,r,⟨_,agI _ rfl,rfl,_,rfl⟩⟩
theorem yg (h:PA X es t):PE X (.List es pos) (acs t):=by
 intro pins s σ H Q I hq
 refine wpAny_List_spliced (thn (h pos pins s σ H _ I hq) fun us s1 ⟨xs,H1,I1,r,z,q⟩=>⟨by rw [<-r.length];exact z,?_⟩)
 have hf:H1 s1.heap.objs.size=none:=I1.hok.fresh (agv _)
 refine⟨.ref s1.heap.objs.size,upd H1 s1.heap.objs.size (.lst xs),I1.laid (t':=s1.toks) (fun b u e=>agt _ e) (agv _) ?_,rfl,q _ hf⟩
 exact⟨z,us,0,r,agI _ rfl⟩
end
noncomputable abbrev Sp:=List V->Hp->VK->XK->Prop
noncomputable abbrev CXT:=List Env->Hp->Shared->XK->Value->Shared->Prop
structure Env0 (P:Program) (w:World) (K:ags) (mg:Str->Option Value) (base:Heap) (A:Around) (outer:List Env) (s:Shared) (H:Hp):Prop where
 frames:A.frames=some outer
 mod:Mod K mg base
 bs:∀ b o,base.get? b=some o->s.heap.get? b=some o/\H b=none
 bsz:base.objs.size<=s.heap.objs.size
 funs:s.heap.FunFrames base outer
 frf:∀ b∈frs outer,H b=none
 tabs:TabsOk K H
 hok:HOk P w H s.heap
 bare:AllBare s.gens
noncomputable def CE (outer:List Env) (P:Program) (w:World) (H:Hp) (s:Shared) (Q:VK) (u:Value) (s':Shared):Prop :=
 ∃ v H',s'.os=s.os/\AllBare s'.gens/\Un (frs outer) [] H H' s.heap s'.heap/\HOk P w H' s'.heap/\RelV v u/\Q v H'
noncomputable def CR (CX:CXT) (outer:List Env) (P:Program) (w:World) (H:Hp) (s:Shared) (Q:VK) (E:XK) (r:Result) (s':Shared):Prop :=
 match r with
 | .ok (.ret u)=>CE outer P w H s Q u s'
 | .ok _=>False
 | .error e=>CX outer H s E e s'
structure FnOk (P:Program) (w:World) (K:ags) (mg:Str->Option Value) (base:Heap) (CX:CXT) (k:Nat) (f:Addr) (fd:FuncData) (ps:List Str) (sp:Sp):Prop where
 len:∀ vs H Q E,sp vs H Q E->vs.length=ps.length
 run:∀ (A:Around) (outer:List Env) (s:Shared) (H:Hp) (args:Args) (us:List Value) (vs:List V) (Q:VK) (E:XK),Room k A->Env0 P w K mg base A outer s H->BindsTo s fd args (ps.zip us)->Vals vs us->sp vs H Q E ->
  codeAny (model P w) A (.call (.ref f) args) (CR CX outer P w H s Q E) s
theorem FnOk.mono {P:Program} {w:World} {K:ags} {mg:Str->Option Value} {base:Heap} {CX:CXT} {j k:Nat} {f:Addr} {fd:FuncData} {ps:List Str} {sp:Sp} (F:FnOk P w K mg base CX j f fd ps sp) (h:j<=k) :
  FnOk P w K mg base CX k f fd ps sp:=⟨F.len,fun A outer s H args us vs Q E hr=>F.run A outer s H args us vs Q E (hr.mono h)⟩
section
variable {X:Cx} {pins:List (Addr×Obj)} {σ:St} {H:Hp} {s s':Shared}
theorem Inv.env0 (I:Inv X pins σ H s):Env0 X.prog X.w X.K X.mg X.base X.A X.stack s H :=
 ⟨I.ok.frames,I.ok.mod,I.bs,ag2 I.ok.bsz I.sz,I.stack,I.stkFree,fun c P q h1 h2 h3=>I.base.tbls _ _ (I.ok.tabs c P q h1 h2 h3),I.hok,I.bare⟩
theorem Inv.after {Q:VK} {u:Value} (I:Inv X pins σ H s) (h:CE X.stack X.prog X.w H s Q u s'):EP X pins σ Q u s':=by
 obtain⟨v,H',os,bare,un,hok,r,q⟩:=h
 obtain⟨hh,g,d,t,os'⟩:=s'
 obtain rfl:os'=s.os:=os
 exact⟨v,H',I.call (h':=hh) (g':=g) (d':=d) (t':=t) (ch:=[]) un hok bare (fun b z=>absurd z (by simp)),r,q⟩
end
noncomputable def qz (sp:Sp) (dvs:List V) (E:XK) (t:TA):TE:=fun σ H Q=>t σ H fun vs H1=>sp (vs++dvs) H1 Q E
noncomputable def Binds (K:ags) (fd:FuncData) (ps:List Str) (ds:List Value):Prop :=
 ∀ (s:Shared) (us:List Value),K.In s.heap->(us++ds).length=ps.length->BindsTo s fd ⟨us,[]⟩ (ps.zip (us++ds))
theorem Binds.all {K:ags} {fd:FuncData} {ps:List Str} (h:∀ us:List Value,us.length=ps.length->bindArgs fd ⟨us,[]⟩=pure (ps.zip us)):Binds K fd ps []:=fun s us _ hl=>by
 rw [ahq] at hl ⊢
 exact .of_eq (h us hl)
noncomputable def Passes (CX:CXT) (X:Cx) (E:XK):Prop:=∀ (pins:List (Addr×Obj)) (σ:St) (H:Hp) (s:Shared) (e:Value) (s':Shared),Inv X pins σ H s->CX X.stack H s E e s'->X.xe e s'
section
variable {X:Cx} {CX:CXT} {k:Nat} {f C:Addr} {fd:FuncData} {ps:List Str} {sp:Sp} {dvs:List V} {ds:List Value} {E:XK} {x m:Str} {p pos apos:Pos} {e o:Expr} {es:List Expr} {ta:TE} {t:TA}
theorem ae1 {pins:List (Addr×Obj)} {σ:St} {H:Hp} {s:Shared} {Q:VK} {us:List Value} {vs:List V} (F:FnOk X.prog X.w X.K X.mg X.base CX k f fd ps sp) (hr:Room k X.A) (hb:Binds X.K fd ps ds) (hd:Vals dvs ds) (hx:Passes CX X E)
  (I:Inv X pins σ H s) (r:Vals vs us) (h:sp (vs++dvs) H Q E):wpAny (model X.prog X.w) X.A (call (.ref f) us) (EP X pins σ Q) X.xe s:=by
 have r2:Vals (vs++dvs) (us++ds):=r.append hd
 have hl:(us++ds).length=ps.length:=by rw [<-r2.length];exact F.len _ _ _ _ h
 refine wpAny_call (codeAny_mono (F.run X.A X.stack s H ⟨us,[]⟩ (us++ds) (vs++dvs) Q E hr I.env0 (hb s us I.kIn hl) r2 h) fun r s' hq=>?_)
 cases r with
 | error e=>exact hx pins σ H s e s' I hq
 | ok fl =>
  cases fl with
  | ret u=>exact I.after hq
  | next=>exact ahO hq
  | brk=>exact ahO hq
  | cont=>exact ahO hq
theorem adF (F:FnOk X.prog X.w X.K X.mg X.base CX k f fd ps sp) (hr:Room k X.A) (hg:Gl X x) (hm:X.mg x=some (.ref f)) (hk:ag4 X.K (.ref f)=true) (hb:Binds X.K fd ps ds) (hd:Vals dvs ds) (hx:Passes CX X E)
  (ha:PA X (e :: es) t) (hdb:(x == ("__debug__":Str))=false:=by decide) (he:starEach (e :: es) X.env=(false,eval e X.env) :: starEach es X.env:=by rfl) (hpl:(backTo pos (starEach es X.env)).any (·.1)=false:=by rfl) :
  PE X (.Call (.Name x p) (e :: es) [] pos) (qz sp dvs E t):=by
 intro pins s σ H Q I h
 refine wpAny_Call_Name_kw (adw I hg hm ?_ hdb)
 refine PySem.W.callWith_K (h₀:=X.base) I.ok.mod.kin hk (thn (ha pos pins s σ H _ I h) fun us s1 ⟨vs,H1,I1,r,q⟩=>⟨I1.kIn,?_⟩) he hpl
 exact ae1 F hr hb hd hx I1 r q
structure Mk (K:ags) (C f:Addr):Prop where
 makes:PySem.W.makesIn K C=true
 init:ahJ K (.ref C) "__init__"=some (some (.ref f))
 fn:PySem.W.isFn K (.ref f)=true
 kp:ag4 K (.ref C)=true
end
section
variable {X:Cx} {CX:CXT} {k:Nat} {f C:Addr} {fd:FuncData} {ps ks:List Str} {sp:Sp} {E:XK} {x m:Str} {p pos apos kpos:Pos} {e o:Expr} {es:List Expr} {kws:List Keyword} {te ta:TE} {t tk:TA} {nm:Option Str}
structure KBinds (K:ags) (fd:FuncData) (ps ks:List Str) (g:List Value->List Value->List Value) (gV:List V->List V->List V):Prop where
 to:∀ (s:Shared) (us ws:List Value),K.In s.heap->(g us ws).length=ps.length->BindsTo s fd ⟨us,ks.zip ws⟩ (ps.zip (g us ws))
 rel:∀ {vs:List V} {us:List Value} {zs:List V} {ws:List Value},Vals vs us->Vals zs ws->Vals (gV vs zs) (g us ws)
variable {g:List Value->List Value->List Value} {gV:List V->List V->List V}
end
structure FnScope (N P:List Str) (sc:Scope):Prop where
 kind:sc.kind=.function
 co:sc.isCoroutine=false
 gen:sc.isGenerator=false
 nd:N.Nodup
 pre:N.take P.length=P
 par:∀ x∈P,sc.names.lookup x=some .local \/ sc.names.lookup x=some .cell
 nofree:∀ y∈sc.names,y.2≠.free
theorem qW {kindOf:Str->Option NameKind} {x:Str}:∀ {binds:List (Str×Value)} {m:Str->Option Value},(∀ v,(x,v)∉binds)->bindL kindOf binds m x=m x
 | [],_,_=>rfl
 | (n,v) :: r,m,h=>by
  unfold bindL
  rw [qW fun w hw=>h w (agw _ hw)]
  split
  ·have:x≠n:=by rintro rfl;exact h v agD
   simp [this]
  ·rfl
theorem qX {kindOf:Str->Option NameKind} {x:Str}:∀ {binds:List (Str×Value)} {m:Str->Option Value},(∀ v,(x,v)∉binds)->bindC kindOf binds m x=m x
 | [],_,_=>rfl
 | (n,v) :: r,m,h=>by
  unfold bindC
  rw [qX fun w hw=>h w (agw _ hw)]
  split
  ·rfl
  ·have:x≠n:=by rintro rfl;exact h v agD
   simp [this]
theorem qY {kindOf:Str->Option NameKind} {x:Str} {v:Value}:∀ {P:List Str} {vs:List Value} {i:Nat} {m:Str->Option Value},P.Nodup->P[i]?=some x->vs[i]?=some v->kindOf x=some .local ->
  bindL kindOf (P.zip vs) m x=some v
 | [],_,_,_,_,h,_,_=>by simp at h
 | _ :: _,[],_,_,_,_,h,_=>by simp at h
 | p :: P,w :: vs,0,m,nd,h1,h2,hk=>by
  simp at h1 h2;subst h1;subst h2
  show bindL kindOf ((p,w) :: P.zip vs) m p=_
  unfold bindL
  rw [qW fun v hv=>(ahr.mp nd).1 (ai1 hv).1,if_pos hk]
  simp
 | p :: P,w :: vs,i+1,m,nd,h1,h2,hk=>by
  show bindL kindOf ((p,w) :: P.zip vs) m x=_
  unfold bindL
  exact qY (i:=i) (ahr.mp nd).2 (by simpa using h1) (by simpa using h2) hk
theorem qZ {kindOf:Str->Option NameKind} {x:Str} {v:Value}:∀ {P:List Str} {vs:List Value} {i:Nat} {m:Str->Option Value},P.Nodup->P[i]?=some x->vs[i]?=some v->kindOf x≠some .local ->
  bindC kindOf (P.zip vs) m x=some v
 | [],_,_,_,_,h,_,_=>by simp at h
 | _ :: _,[],_,_,_,_,h,_=>by simp at h
 | p :: P,w :: vs,0,m,nd,h1,h2,hk=>by
  simp at h1 h2;subst h1;subst h2
  show bindC kindOf ((p,w) :: P.zip vs) m p=_
  unfold bindC
  rw [qX fun v hv=>(ahr.mp nd).1 (ai1 hv).1,if_neg hk]
  simp
 | p :: P,w :: vs,i+1,m,nd,h1,h2,hk=>by
  show bindC kindOf ((p,w) :: P.zip vs) m x=_
  unfold bindC
  exact qZ (i:=i) (ahr.mp nd).2 (by simpa using h1) (by simpa using h2) hk
noncomputable def start (N:List Str) (vs:List V):St:=vs.map some++ahW (N.length - vs.length) none
noncomputable def yF (CX:CXT) (P:Program) (w:World) (K:ags) (mg:Str->Option Value) (base:Heap) (N:List Str) (qual:Str) (scope:Scope) (f:Addr) (cd:Value) (A:Around) (outer:List Env) (s:Shared) (H:Hp) (E:XK):Cx where
 prog:=P
 w:=w
 K:=K
 mg:=mg
 base:=base
 A:=A.deeper (envOfC qual scope s.heap.objs.size f cd)
 N:=N
 s₀:=s
 H₀:=H
 env:=envOfC qual scope s.heap.objs.size f cd
 outer:=outer
 stack:=envOfC qual scope s.heap.objs.size f cd :: outer
 ex:=[]
 calm:=true
 fn:=fun _=>true
 pn:=[]
 xe:=fun e s'=>wpAny (model P w) (A.deeper (envOfC qual scope s.heap.objs.size f cd)) (leaving (envOfC qual scope s.heap.objs.size f cd) e) (fun _ s''=>CX outer H s E e s'') (fun e' s''=>CX outer H s E e' s'') s'
theorem vO {sc:Scope} {n:Nat} {x:Str} (h:sc.names.lookup x=some .cell):∃ c,(cellsFrom n sc.names []).lookup x=some c:=by
 have q:=ahP sc.names n [] (.inl h)
 exact ah3.mp q
theorem abN {CX:CXT} {P:Program} {w:World} {K:ags} {mg:Str->Option Value} {base:Heap} {N ps:List Str} {qual:Str} {scope:Scope} {f:Addr} {cd:Value} {A:Around} {outer:List Env} {s s1:Shared} {H:Hp} {E:XK} {us:List Value} {vs:List V}
  (S:FnScope N ps scope) (hd:A.handled=none) (e0:Env0 P w K mg base A outer s H) (hl:vs.length=ps.length) (r:Vals vs us)
  (x:InCallC s s.heap.objs.size (bindL (envOfC qual scope s.heap.objs.size f cd).kindOf (ps.zip us) fun _=>none) (cellsFrom (s.heap.objs.size+1) scope.names []) (bindC (envOfC qual scope s.heap.objs.size f cd).kindOf (ps.zip us) fun _=>none) s1) :
  Inv (yF CX P w K mg base N qual scope f cd A outer s H E) [] (start N vs) H s1:=by
 have hpl:ps.length<=N.length:=by have:=congrArg List.length S.pre;rw [ag8] at this;omega
 obtain⟨h1,tk,rfl,hk⟩:=x.done
 have noA:∀ b:Addr,b∉(yF CX P w K mg base N qual scope f cd A outer s H E).ex:=fun b z=>absurd (show b∈([]:List Addr) from z) (by simp)
 refine⟨⟨e0.mod,S.kind,rfl,rfl,agv _,fun y z c h1 h2=>?_,fun y hy=>?_,fun y c _ h=>?_,fun _=>hd,Around.frames_deeper e0.frames,.inr ⟨rfl,rfl⟩,fun b z=>absurd z (noA b),e0.bs,e0.bsz,fun b _ _=>noA b,fun b z=>absurd z (noA b),e0.funs,e0.frf,e0.tabs⟩,
  rfl,e0.bare,Un.kept hk,⟨_,x.toInCall.ns,fun i y v h1 h2 h3=>?_⟩,fun y c h=>⟨_,x.cell y c h⟩,e0.hok.fresh (agv _),fun y c h=>?_,fun p hp=>absurd (show p∈([]:List (Addr×Obj)) from hp) (by simp),e0.hok.kept hk,?_⟩
 ·exact name_of_addr x.apart (ahG h1) (ahG h2)
 ·have hy:scope.names.lookup y=some .cell \/ scope.names.lookup y=some .free:=hy
  rcases hy with hy | hy
  ·exact vO hy
  ·exact absurd rfl (S.nofree _ (ahG hy))
 ·exact ahB (x.above y c (ahG h))
 ·have hi:i<vs.length:=by
   unfold start at h2
   by_cases hi:i<vs.length
   ·exact hi
   ·rw [agA (by simpa using hi)] at h2
    rw [ahK] at h2
    split at h2 <;> cases h2
  have ha:vs[i]?=some v:=by
   unfold start at h2
   rw [agx (by simpa using hi),agy] at h2
   cases e:vs[i]? with
   | none=>rw [e] at h2;cases h2
   | some a=>rw [e] at h2;cases h2;rfl
  obtain⟨u,hu,rv⟩:=r.get ha
  have hp:ps[i]?=some y:=by
   rw [<-S.pre,ahE (by omega)];exact h1
  have ndP:ps.Nodup:=by rw [<-S.pre];exact S.nd.sublist (List.take_sublist _ _)
  refine⟨u,rv,?_⟩
  rcases S.par y (agJ hp) with k | k
  ·exact .inl ⟨k,qY ndP hp hu k⟩
  ·obtain⟨c,e⟩:=vO (n:=s.heap.objs.size+1) k
   refine .inr ⟨.inl k,c,e,?_⟩
   have q:=x.cell y c e
   rw [qZ ndP hp hu (by show scope.names.lookup y≠_;rw [k];decide)] at q
   exact q
 ·exact e0.hok.fresh (ahB (x.above y c (ahG h)))
 ·unfold start
  show _=N.length
  rw [agL,agr,aii]
  omega
theorem aex {CX:CXT} {P:Program} {w:World} {K:ags} {mg:Str->Option Value} {base:Heap} {k:Nat} {f:Addr} {name qual:Str} {params:Arguments} {body:List Stmt} {scope:Scope} {dV kV doc pm cdv ct oc:Value} {an od:Option Addr}
  {osl:Array (Option Value)} {N ps:List Str} {sp:Sp} (lk:K.lookup f=some ⟨oc,od,.func (ahc name qual params body scope dV kV doc pm an cdv ct),osl⟩) (hcd:agY K cdv qual=true) (S:FnScope N ps scope)
  (len:∀ vs H Q E,sp vs H Q E->vs.length=ps.length)
  (hbody:∀ (A:Around) (outer:List Env) (s:Shared) (H:Hp) (vs:List V) (Q:VK) (E:XK),Room k (A.deeper (envOfC qual scope s.heap.objs.size f cdv))->sp vs H Q E ->
   ∃ t,PSs (yF CX P w K mg base N qual scope f cdv A outer s H E) body t/\t { nx:=fun _ H'=>Q .non H',rt:=Q } (start N vs) H) :
  FnOk P w K mg base CX (k+1) f (ahc name qual params body scope dV kV doc pm an cdv ct) ps sp:=by
 refine⟨len,fun A outer s H args us vs Q E hr e0 hb r hsp=>?_⟩
 have hl:=len _ _ _ _ hsp
 have KX:K.In s.heap:=e0.mod.kin.keeps fun b o e=>(e0.bs b o e).1
 have lim:s.heap.NoLimit:=e0.mod.nolimit.keeps fun b o e=>(e0.bs b o e).1
 have hkind:∀ y∈ps.zip us,scope.names.lookup y.1=some .local \/ (scope.names.lookup y.1=some .cell/\((cellsFrom (s.heap.objs.size+1) scope.names []).lookup y.1).isSome=true):=fun⟨n,v⟩ hy=>by
  rcases S.par n (ai1 hy).1 with q | q
  ·exact .inl q
  ·exact .inr ⟨q,ahP _ _ _ (.inl q)⟩
 refine codeAny_call_function hr.depth (KX _ _ lk) rfl S.co S.gen rfl (PySem.W.codeRec_of KX hcd) (hb _ _ _ _ ?_)
 refine wpAny_newFunctionEnv_cells S.kind hkind fun env he s1 x=>?_
 subst he
 refine⟨lim.keeps x.toInCall.keep,codeAny_func ?_⟩
 obtain⟨t,ht,hq⟩:=hbody A outer s H vs Q E (hr.deeper _) hsp
 have I:Inv (yF CX P w K mg base N qual scope f cdv A outer s H E) [] (start N vs) H s1:=abN S hr.hd e0 hl r x
 refine wpAny_mono (ht [] s1 (start N vs) H _ I hq) (fun fl s' hs=>?_) fun e s' hs=>hs
 have fin:∀ {σ':St} {H':Hp} {v:V} {u:Value},Inv (yF CX P w K mg base N qual scope f cdv A outer s H E) [] σ' H' s'->RelV v u->Q v H'->CE outer P w H s Q u s' :=
  fun {σ' H' v u} J rv q=>⟨v,H',J.os,J.bare,J.base,J.hok,rv,q⟩
 cases fl with
 | ret u =>
  obtain⟨v,σ',H',J,rv,q⟩:=hs
  exact fin J rv q
 | next =>
  obtain⟨σ',H',J,q⟩:=hs
  exact fin (v:=V.non) (u:=Value.none) J rfl q
 | brk =>
  obtain⟨_,_,_,q⟩:=hs
  exact ahO q
 | cont =>
  obtain⟨_,_,_,q⟩:=hs
  exact ahO q
section
variable {X:Cx} {x:Str} {p pos:Pos} {e:Expr} {es:List Expr} {t:TA} {id T:String} {r:List V->Hp->VK->Prop}
noncomputable def tCB (r:List V->Hp->VK->Prop) (t:TA):TE:=fun σ H Q=>t σ H fun vs H1=>r vs H1 Q
theorem zx (hc:yj X (.builtin id) r) (hg:Gl X x) (hm:X.mg x=none) (hv:bootBuiltins x=some (.builtin id)) (ha:PA X (e :: es) t) (hn:x ≠ "__name__":=by decide) (hdb:(x == ("__debug__":Str))=false:=by decide)
  (he:starEach (e :: es) X.env=(false,eval e X.env) :: starEach es X.env:=by rfl) (hpl:(backTo pos (starEach es X.env)).any (·.1)=false:=by rfl):PE X (.Call (.Name x p) (e :: es) [] pos) (tCB r t):=by
 intro pins s σ H Q I h
 refine wpAny_Call_Name_kw (jM I hg hm hv ?_ hn hdb)
 exact PyProof.Rows.callWith_builtin1 (thn (ha pos pins s σ H _ I h) fun us s1 ⟨vs,H1,I1,r1,q1⟩=>hc pins s1 σ H1 vs us Q I1 r1 q1) he hpl
theorem jj (hc:yj X (.type T) r) (hg:Gl X x) (hm:X.mg x=none) (hv:bootBuiltins x=some (.type T)) (ha:PA X (e :: es) t) (hn:x ≠ "__name__":=by decide) (hdb:(x == ("__debug__":Str))=false:=by decide)
  (he:starEach (e :: es) X.env=(false,eval e X.env) :: starEach es X.env:=by rfl) (hpl:(backTo pos (starEach es X.env)).any (·.1)=false:=by rfl):PE X (.Call (.Name x p) (e :: es) [] pos) (tCB r t):=by
 intro pins s σ H Q I h
 refine wpAny_Call_Name_kw (jM I hg hm hv ?_ hn hdb)
 exact ahT (thn (ha pos pins s σ H _ I h) fun us s1 ⟨vs,H1,I1,r1,q1⟩=>hc pins s1 σ H1 vs us Q I1 r1 q1) he hpl
end
end L2
namespace HT
open PySem PyProof.Rows
section
open PySem.SeqAt
open PySem.AutoSeq1 (wpAny_loadPart')
open PySem.MeetsSeq PySem.MeetsSeq2 PySem.MeetsSeq3
end
section
variable {prog:Program} {w:World} {A:Around} {E:Value->Shared->Prop} {s:Shared}
noncomputable def sIx (n d:Nat):Option Int->Nat
 | none=>d
 | some v=>if v<0 then (v+(n:Int)).toNat else min v.toNat n
theorem sIx_none (n d:Nat):sIx n d none=d:=rfl
theorem sIx_nat (n d k:Nat):sIx n d (some (k:Int))=min k n:=by
 show (if (k:Int)<0 then ((k:Int)+(n:Int)).toNat else min (k:Int).toNat n)=min k n
 rw [if_neg (by omega),agQ]
end
end HT
namespace L2
open PySem PySem.Spec PyProof.Rows
noncomputable abbrev TO:=St->Hp->(Option Int->Hp->Prop)->Prop
noncomputable def PO (X:Cx) (e:Option Expr) (t:TO):Prop :=
 ∀ (pins:List (Addr×Obj)) (s:Shared) (σ:St) (H:Hp) (Q:Option Int->Hp->Prop),Inv X pins σ H s->t σ H Q ->
  wpAny (model X.prog X.w) X.A (evalPart e X.env) (fun u s'=>∃ o H',Inv X pins σ H' s'/\IsPart u o/\Q o H') X.xe s
noncomputable def aa5:TO:=fun _ H Q=>Q none H
noncomputable def aey (t:TE):TO:=fun σ H Q=>t σ H fun x H1=>∃ i,x=.int i/\Q (some i) H1
section
variable {X:Cx} {e:Expr} {te:TE} {lo hi:Option Expr} {tl th:TO} {pos p2:Pos}
theorem adG:PO X none aa5:=by
 intro pins s σ H Q I h
 rw [evalPart_none]
 exact wpAny_pure ⟨none,H,I,.none,h⟩
theorem vp (h:PE X e te):PO X (some e) (aey te):=by
 intro pins s σ H Q I hw
 rw [evalPart_some]
 refine thn (h pins s σ H _ I hw) fun u s1 ⟨x,H1,I1,r1,q1⟩=>?_
 obtain⟨i,rfl,q⟩:=q1
 obtain⟨t,rfl⟩:=r1
 exact⟨some i,H1,I1,.int i t,q⟩
noncomputable def SlR (X:Cx) (r:V->Option Int->Option Int->Hp->VK->Prop):Prop :=
 ∀ (pins:List (Addr×Obj)) (s:Shared) (σ:St) (H:Hp) (x:V) (v vl vu:Value) (lo hi:Option Int) (sl:Addr) (Q:VK),Inv X pins σ H s->RelV x v->s.heap.IsSliceOf sl vl vu .none->IsPart vl lo->IsPart vu hi->r x lo hi H Q ->
  ∃ T id,typeLookup (.type T) "__getitem__"=pure (some (.builtin id))/\s.TypeIs v T/\wpAny (model X.prog X.w) X.A (getItem v (.ref sl)) (EP X pins σ Q) X.xe s
noncomputable def tSl (r:V->Option Int->Option Int->Hp->VK->Prop) (te:TE) (tl th:TO):TE:=fun σ H Q=>te σ H fun x H1=>tl σ H1 fun l H2=>th σ H2 fun u H3=>r x l u H3 Q
theorem vP {r:V->Option Int->Option Int->Hp->VK->Prop} (hr:SlR X r) (he:PE X e te) (hl:PO X lo tl) (hu:PO X hi th):PE X (.Subscript e (.Slice lo hi none p2) pos) (tSl r te tl th):=by
 intro pins s σ H Q I h
 refine Subscript_ (thn (he pins s σ H _ I h) fun v s1 ⟨x,H1,I1,r1,q1⟩=>?_)
 refine wpAny_Slice (thn (hl pins s1 σ H1 _ I1 q1) fun vl s2 ⟨l,H2,I2,pl,q2⟩=>thn (hu pins s2 σ H2 _ I2 q2) fun vu s3 ⟨u,H3,I3,pu,q3⟩=>?_)
 rw [evalPart_none]
 refine wpAny_pure ?_
 have I4:Inv X pins σ H3 { s3 with heap:=s3.heap.push { cls:=.type "slice",data:=.fields #[vl,vu,.none] } }:=I3.kept (t':=s3.toks) fun b ob q=>agt _ q
 obtain⟨T,id,hT,ht,hg⟩:=hr pins { s3 with heap:=s3.heap.push { cls:=.type "slice",data:=.fields #[vl,vu,.none] } } σ H3 x v vl vu l u s3.heap.objs.size Q I4 r1 (Heap.IsSliceOf.new ..) pl pu q3
 show wpAny (model X.prog X.w) X.A (subscriptTail e (.Slice lo hi none p2) v (.ref s3.heap.objs.size)) (EP X pins σ Q) X.xe { s3 with heap:=s3.heap.push { cls:=.type "slice",data:=.fields #[vl,vu,.none] } }
 exact tail_any (ops:=[.ref s3.heap.objs.size,v]) ht hT hg (by with_unfolding_all rfl)
noncomputable def aau (xs:List V) (lo hi:Option Int):List V:=(xs.drop (HT.sIx xs.length 0 lo)).take (HT.sIx xs.length xs.length hi - HT.sIx xs.length 0 lo)
theorem vQ (xs:List V) (lo hi:Option Int):(aau xs lo hi).length<=xs.length:=by
 unfold aau
 rw [ag8,ail]
 omega
end
noncomputable def ixN (n:Nat) (i:Int):Option Nat:=if 0<=i then (if i<n then some i.toNat else none) else if -(n:Int)<=i then some (i+n).toNat else none
noncomputable def atI {α:Type} (xs:List α) (i:Int):Option α:=(ixN xs.length i).bind fun j=>xs[j]?
theorem aa6 {n:Nat} {i:Int} {j:Nat} (h:ixN n i=some j):seqIndex? i n=some j/\j<n/\-(n:Int)<=i/\i<n:=by
 unfold ixN at h
 by_cases h0:0<=i
 ·rw [if_pos h0] at h
  by_cases h1:i<n
  ·rw [if_pos h1] at h
   have e:i.toNat=j:=Option.some.inj h
   exact⟨by rw [seqIndex_of h0 h1,e],by omega,by omega,h1⟩
  ·rw [if_neg h1] at h;cases h
 ·rw [if_neg h0] at h
  by_cases h1:-(n:Int)<=i
  ·rw [if_pos h1] at h
   have e:(i+n).toNat=j:=Option.some.inj h
   exact⟨by rw [seqIndex_neg (by omega) h1,e],by omega,h1,by omega⟩
  ·rw [if_neg h1] at h;cases h
theorem aa7 {α:Type} {xs:List α} {i:Int} {v:α} (h:atI xs i=some v):∃ j,seqIndex? i xs.length=some j/\xs[j]?=some v/\j<xs.length/\-(xs.length:Int)<=i/\i<xs.length:=by
 unfold atI at h
 cases e:ixN xs.length i with
 | none=>rw [e] at h;cases h
 | some j =>
  rw [e] at h
  obtain⟨h1,h2,h3,h4⟩:=aa6 e
  exact⟨j,h1,h,h2,h3,h4⟩
noncomputable def aa8 (b:Expr):Prop:=∀ o i,subscripted b false o i=operate [o,i] (getItem o i)
noncomputable def IxR (X:Cx) (r:R2):Prop :=
 ∀ (value slice:Expr) (pins:List (Addr×Obj)) (s:Shared) (σ:St) (H:Hp) (x y:V) (v u:Value) (Q:VK),Inv X pins σ H s->RelV x v->RelV y u->r x y H Q ->
  subscripted slice false v u=operate [v,u] (getItem v u)->wpAny (model X.prog X.w) X.A (subscriptTail value slice v u) (EP X pins σ Q) X.xe s
noncomputable def MtR (X:Cx) (id:String) (r:V->List V->Hp->VK->Prop):Prop :=
 ∀ (pins:List (Addr×Obj)) (s:Shared) (σ:St) (H:Hp) (x:V) (xs:List V) (v:Value) (us:List Value) (Q:VK),Inv X pins σ H s->RelV x v->Vals xs us->r x xs H Q ->
  wpAny (model X.prog X.w) X.A (call (.builtin id) (v :: us)) (EP X pins σ Q) X.xe s
section
variable {X:Cx} {a b:Expr} {ta tb:TE} {pos:Pos}
theorem zv {r:R2} (hr:IxR X r) (ha:PE X a ta) (hb:PE X b tb) (hs:aa8 b):PE X (.Subscript a b pos) (tOp r ta tb):=by
 intro pins s σ H Q I h
 exact Subscript_ (aeX ha hb I h fun v u s2 x y H2 I2 rx ry q=>hr a b pins s2 σ H2 x y v u Q I2 rx ry q (hs _ _))
noncomputable def abO (K:ags):R2:=fun x y H Q=>∃ p xs i v,x=.ref p/\y=.int i/\SqL K H p xs/\atI xs i=some v/\Q v H
noncomputable def abP (K:ags):R2:=fun x y H Q=>∃ p xs i v,x=.ref p/\y=.int i/\SqT K H p xs/\atI xs i=some v/\Q v H
theorem adH:IxR X (abO X.K):=by
 intro value slice pins s σ H x y v u Q I rx ry h hs
 obtain⟨p,xs,i,z,rfl,rfl,hq,he,q⟩:=h
 cases rx
 obtain⟨t,rfl⟩:=ry
 obtain⟨its,r,pl,hz⟩:=I.list hq
 obtain⟨j,h1,h2,h3,h4,h5⟩:=aa7 he
 obtain⟨w,ew,rw'⟩:=r.get h2
 have hl:=r.length
 have hn:=jR
 have fin:EP X pins σ Q w s:=⟨z,H,I,rw',q⟩
 by_cases h0:0<=i
 ·have hj:i.toNat=j:=by
   rw [seqIndex_of h0 h5] at h1
   exact Option.some.inj h1
  exact item_listR pl.isList h0 (by omega) (by rw [hj];simpa using ew) fin hs
 ·have hj:(i+(its.toArray.size:Int)).toNat=j:=by
   rw [seqIndex_neg (by omega) h4] at h1
   rw [agE,<- hl]
   exact Option.some.inj h1
  exact subscriptTail_builtinR (x:=w) pl.isList.typeIs slot_list_getitem.lookup
   (wpAny_getItem_list_neg (Q:=fun r s'=>r=w/\EP X pins σ Q r s') pl.isList (by omega) (by rw [agE] <;> omega) (by omega) (by rw [hj];simpa using ew) ⟨rfl,fin⟩) hs
theorem ae2:IxR X (abP X.K):=by
 intro value slice pins s σ H x y v u Q I rx ry h hs
 obtain⟨p,xs,i,z,rfl,rfl,hq,he,q⟩:=h
 cases rx
 obtain⟨t,rfl⟩:=ry
 obtain⟨its,r,pl,hz⟩:=I.tuple hq
 obtain⟨j,h1,h2,h3,h4,h5⟩:=aa7 he
 obtain⟨w,ew,rw'⟩:=r.get h2
 have hl:=r.length
 have hn:=jR
 have fin:EP X pins σ Q w s:=⟨z,H,I,rw',q⟩
 exact subscriptTail_builtinR (x:=w) pl.typeIs slot_tuple_getitem.lookup
  (getItem_tuple (j:=j) (Q:=fun r s'=>r=w/\EP X pins σ Q r s') pl (by omega) (by omega) (by rw [agE,<- hl];exact h1) (by simpa using ew) ⟨rfl,fin⟩) hs
theorem aav (its:List Value) (n j:Nat) (u:Value):aim (·.setIfInBounds j u) { cls:=.type "list",data:=.seq its.toArray n }={ cls:=.type "list",data:=.seq (its.set j u).toArray n }:=by
 simp [aim]
theorem Inv.lst {pins:List (Addr×Obj)} {σ:St} {H:Hp} {s:Shared} {p:Addr} {xs:List V} (I:Inv X pins σ H s) (h:H p=some (.lst xs)) :
  ∃ (its:List Value) (n:Nat),Vals xs its/\s.heap.get? p=some { cls:=.type "list",data:=.seq its.toArray n }/\xs.length<=sizeLine:=by
 obtain⟨z,its,n,r,e⟩:=I.hok p _ h
 exact⟨its,n,r,e,z⟩
theorem Inv.lstUpd {pins:List (Addr×Obj)} {σ:St} {H:Hp} {s:Shared} {p:Addr} {xs ys:List V} {its its':List Value} {n n':Nat} {f:Obj->Obj} (I:Inv X pins σ H s) (h:H p=some (.lst xs))
  (ho:s.heap.get? p=some { cls:=.type "list",data:=.seq its.toArray n }) (hf:f { cls:=.type "list",data:=.seq its.toArray n }={ cls:=.type "list",data:=.seq its'.toArray n' }) (r:Vals ys its') (hz:ys.length<=sizeLine) (t:Nat) :
  Inv X pins σ (upd H p (.lst ys)) { s with heap:=s.heap.update p f,toks:=t }:=by
 have e:(s.heap.update p f).get? p=some { cls:=.type "list",data:=.seq its'.toArray n' }:=by
  rw [ahy f ho (by rw [hf] <;> rfl),hf]
 refine I.write (x:=p) (e:=p) (by rw [h];trivial) (.inl rfl) (fun b u hb q=>(ahQ _ _ (ah5 hb)).trans q) ⟨_,e⟩ ?_
 exact⟨hz,its',n',r,e⟩
noncomputable def va:V->V->V->Hp->(Hp->Prop)->Prop:=fun o i v H Q=>∃ p xs k j,o=.ref p/\i=.int k/\H p=some (.lst xs)/\ixN xs.length k=some j/\Q (upd H p (.lst (xs.set j v)))
theorem set_list:afH X va:=by
 intro pins s σ H o i v ov iv u Q I ro ri rv h
 obtain⟨p,xs,k,j,rfl,rfl,hp,hj,q⟩:=h
 cases ro
 obtain⟨t,rfl⟩:=ri
 obtain⟨its,n,r,ho,hz⟩:=I.lst hp
 obtain⟨h1,h2,h3,h4⟩:=aa6 hj
 have hl:=r.length
 have hn:=jR
 have I':Inv X pins σ (upd H p (.lst (xs.set j v))) { s with heap:=s.heap.update p (aim (·.setIfInBounds j u)) } :=
  I.lstUpd hp ho (aav its n j u) (r.set rv j) (by rw [ahA];exact hz) s.toks
 by_cases h0:0<=k
 ·have hk:k.toNat=j:=by
   rw [seqIndex_of h0 h4] at h1
   exact Option.some.inj h1
  exact PySem.W.ki_setAt ho h0 (by omega) (by rw [agE,<- hl];exact h4) (by rw [hk];exact⟨_,I',q⟩)
 ·have hk:(k+(its.toArray.size:Int)).toNat=j:=by
   rw [seqIndex_neg (by omega) h3] at h1
   rw [agE,<- hl]
   exact Option.some.inj h1
  exact PySem.W.ki_setBack ho (by omega) (by rw [agE,<- hl];exact h3) (by omega) (by rw [hk];exact⟨_,I',q⟩)
theorem vq (lo hi:Option Int) (n:Nat):(sliceBounds lo hi none n).1=((HT.sIx n 0 lo:Nat):Int)/\(sliceBounds lo hi none n).2.1=((HT.sIx n n hi:Nat):Int)/\(sliceBounds lo hi none n).2.2=1:=by
 refine⟨?_,?_,rfl⟩
 ·cases lo with
  | none=>simp [sliceBounds,HT.sIx]
  | some i =>
   simp only [sliceBounds,HT.sIx,Option.getD_none,show (1:Int) > 0 by decide,if_true]
   by_cases h:i<0
   ·simp only [h,if_true] <;> omega
   ·simp only [h,if_false] <;> omega
 ·cases hi with
  | none=>simp [sliceBounds,HT.sIx]
  | some i =>
   simp only [sliceBounds,HT.sIx,Option.getD_none,show (1:Int) > 0 by decide,if_true]
   by_cases h:i<0
   ·simp only [h,if_true] <;> omega
   ·simp only [h,if_false] <;> omega
theorem qR (its:List Value) (lo hi:Option Int):slicePick its.toArray lo hi none=((its.drop (HT.sIx its.length 0 lo)).take (HT.sIx its.length its.length hi - HT.sIx its.length 0 lo)).toArray:=by
 obtain⟨h1,h2,h3⟩:=vq lo hi its.toArray.size
 unfold slicePick
 rw [h1,h2,h3]
 simp only [sliceRange_one,pick_run,agE] <;> rfl
noncomputable def adI (K:ags):V->Option Int->Option Int->Hp->VK->Prop:=fun x lo hi H Q=>∃ a xs,x=.ref a/\SqL K H a xs/\∀ p,H p=none->Q (.ref p) (upd H p (.lst (aau xs lo hi)))
theorem adJ:SlR X (adI X.K):=by
 intro pins s σ H x v vl vu lo hi sl Q I rx hs pl pu h
 obtain⟨a,xs,rfl,hx,q⟩:=h
 cases rx
 obtain⟨its,r,ht,hz⟩:=I.list hx
 have hlen:=r.length
 refine⟨"list",_,slot_list_getitem.lookup,ht.isList.typeIs,?_⟩
 refine wpAny_getItem_list_slice ht.isList hs pl pu .none (by simp) ?_ (by rw [agE] <;> omega)
 rw [qR,<- hlen]
 refine⟨.ref s.heap.objs.size,_,I.laid (t':=s.toks) (o:=.lst (aau xs lo hi)) (fun b ob q=>agt _ q) (agv _) ?_,rfl,q _ (I.hok.fresh (agv _))⟩
 exact⟨ag2 (vQ xs lo hi) hz,_,0,(r.drop (HT.sIx xs.length 0 lo)).take (HT.sIx xs.length xs.length hi - HT.sIx xs.length 0 lo),agI _ rfl⟩
theorem vt:yj X (.builtin "len") (fun xs H Q=>∃ p ys,xs=[.ref p]/\(SqL X.K H p ys \/ SqT X.K H p ys)/\Q (.int ys.length) H):=by
 intro pins s σ H xs us Q I r h
 obtain⟨p,ys,rfl,hq,q⟩:=h
 obtain⟨u,rfl,rx⟩:=vals1 r
 cases rx
 have hn:=jR
 rcases hq with hq | hq
 ·obtain⟨its,r',pl,hz⟩:=I.list hq
  have hlen:=r'.length
  exact Calls.call_len_list pl.isList (by simp only [agE] <;> omega) ⟨.int ys.length,H,I.tok _,⟨s.toks+1,by rw [agE,hlen]⟩,q⟩
 ·obtain⟨its,r',pl,hz⟩:=I.tuple hq
  have hlen:=r'.length
  exact len_tuple pl (by simp only [agE] <;> omega) ⟨.int ys.length,H,I.tok _,⟨s.toks+1,by rw [agE,hlen]⟩,q⟩
theorem vv:yj X (.type "list") (fun xs H Q=>∃ p ys,xs=[.ref p]/\(SqL X.K H p ys \/ SqT X.K H p ys)/\∀ l,H l=none->Q (.ref l) (upd H l (.lst ys))):=by
 intro pins s σ H xs us Q I r h
 obtain⟨p,ys,rfl,hq,q⟩:=h
 obtain⟨u,rfl,rx⟩:=vals1 r
 cases rx
 have fin:∀ (its:List Value),Vals ys its->ys.length<=sizeLine->∀ (h':Heap) (c':Nat),(∀ b o',s.heap.get? b=some o'->h'.get? b=some o') ->
   h'.get? s.heap.objs.size=some { cls:=.type "list",dict:=none,data:=.seq its.toArray c',slots:=#[] }->EP X pins σ Q (.ref s.heap.objs.size) { s with heap:=h' }:=fun its r' hz h' c' kp e =>
  ⟨.ref s.heap.objs.size,_,I.laid (t':=s.toks) kp (agv _) (show ObjOk X.prog X.w _ h' _ (.lst ys) from⟨hz,its,c',r',e⟩),rfl,q _ (I.hok.fresh (agv _))⟩
 rcases hq with hq | hq
 ·obtain⟨its,r',pl,hz⟩:=I.list hq
  have hlen:=r'.length
  obtain⟨o,ho,hc,n,hd⟩:=pl.isList
  exact call_list_seq p (.inl rfl) ho hc hd (fun h' c' kp e=>fin its r' hz h' c' kp e) (by simp only [agE] <;> omega)
 ·obtain⟨its,r',pl,hz⟩:=I.tuple hq
  have hlen:=r'.length
  obtain⟨o,ho,hc,n,hd⟩:=pl
  exact call_list_seq p (.inr rfl) ho hc hd (fun h' c' kp e=>fin its r' hz h' c' kp e) (by simp only [agE] <;> omega)
noncomputable def tyV (K:ags) (T:String) (x:V) (H:Hp):Prop:=match x with
 | .str _=>T="str"
 | .int _=>T="int"
 | .ref p=>(T="list"/\∃ xs,SqL K H p xs) \/ (T="tuple"/\∃ o,K.lookup p=some o/\o.cls=.type "tuple"/\o.dict=none) \/
   (T="dict"/\((∃ kvs,H p=some (.dK kvs)) \/ ∃ kvs,H p=some (.dT kvs))) \/ (T="set"/\∃ S n,H p=some (.set S n))
 | _=>False
theorem ae3 {pins:List (Addr×Obj)} {σ:St} {H:Hp} {s:Shared} {T:String} {x:V} {v:Value} (I:Inv X pins σ H s) (r:RelV x v) (ty:tyV X.K T x H) :
  s.TypeIs v T/\∀ a,v=.ref a->∃ ob,s.heap.get? a=some ob/\ob.dict=none:=by
 cases x with
 | str z =>
  obtain⟨t,rfl⟩:=r
  cases (show T="str" from ty)
  exact⟨typeIs_str s z t,fun _ e=>nomatch e⟩
 | int i =>
  obtain⟨t,rfl⟩:=r
  cases (show T="int" from ty)
  exact⟨typeIs_int s i t,fun _ e=>nomatch e⟩
 | ref p =>
  cases r
  rcases ty with⟨rfl,xs,hq⟩ | ⟨rfl,o,hk,hc,hd⟩ | ⟨rfl,hk⟩ | ⟨rfl,S,n,hk⟩
  ·obtain⟨its,_,pl,_⟩:=I.list hq
   refine⟨pl.isList.typeIs,fun a e=>?_⟩
   cases e
   obtain⟨o,n,e,c,hd,_⟩:=pl
   exact⟨o,e,hd⟩
  ·refine⟨⟨o,I.kIn p o hk,hc⟩,fun a e=>?_⟩
   cases e
   exact⟨o,I.kIn _ o hk,hd⟩
  ·have z:∃ o,s.heap.get? p=some o/\o.ExactDict:=by
    rcases hk with⟨kvs,hk⟩ | ⟨kvs,hk⟩
    ·obtain⟨_,_,_,_,o,_,_,e,ex,_⟩:=I.hok p _ hk
     exact⟨o,e,ex⟩
    ·obtain⟨_,_,_,_,o,_,_,e,ex,_⟩:=I.hok p _ hk
     exact⟨o,e,ex⟩
   obtain⟨o,e,ex⟩:=z
   refine⟨⟨o,e,ex.1⟩,fun a e2=>?_⟩
   cases e2
   exact⟨o,e,ex.2.1⟩
  ·obtain⟨o,_,_,_,e,ex,_⟩:=I.hok p _ hk
   refine⟨⟨o,e,ex.1⟩,fun a e2=>?_⟩
   cases e2
   exact⟨o,e,ex.2.1⟩
 | _=>exact ahO ty
noncomputable def tBM (K:ags) (T:String) (r:V->List V->Hp->VK->Prop) (to:TE) (t:TA):TE:=fun σ H Q=>to σ H fun x H1=>tyV K T x H1/\t σ H1 fun xs H2=>r x xs H2 Q
variable {o e:Expr} {es:List Expr} {to:TE} {t:TA} {name:Str} {apos cpos:Pos} {T id:String} {r:V->List V->Hp->VK->Prop}
theorem vR (pa:PlainAttrs T) (slot:Slot T name id) (hty:typeOf (.builtin id)=pure (.type "method_descriptor")) (hm:MtR X id r) (ho:PE X o to) (ha:PA X (e :: es) t)
  (hbase:attributeBase o name X.env (eval o X.env)=eval o X.env:=by rfl)
  (hfew:((backTo cpos (starEach (e :: es) X.env)).all (fun x=>!x.1) && (backToKw cpos (keywordEach [] X.env)).all (fun x=>x.1.isSome)
   && decide ((e :: es).length+([]:List Keyword).length+(if ([]:List Keyword).isEmpty then 0 else 1)<30))=true:=by rfl)
  (hline:(apos.endLine == cpos.line)=true:=by rfl) (hs:starEach (e :: es) X.env=(false,eval e X.env) :: starEach es X.env:=by rfl) (hplain:(backTo cpos (starEach es X.env)).any (·.1)=false:=by rfl) :
  PE X (.Call (.Attribute o name apos) (e :: es) [] cpos) (tBM X.K T r to t):=by
 intro pins s σ H Q I h
 refine wpAny_Call_method_late hbase hfew hline rfl (thn (ho pins s σ H _ I h) fun v s1 ⟨x,H1,I1,r1,ty,q1⟩=>?_)
 obtain⟨h1,h2⟩:=ae3 I1 r1 ty
 refine⟨T,id,pa,slot,hty,h1,h2,?_⟩
 have hA:=ha cpos pins s1 σ H1 _ I1 q1
 rw [hs] at hA ⊢
 refine Calls.callWith_builtin (by show (false || (backTo cpos (starEach es X.env)).any (·.1))=false;rw [hplain] <;> rfl) (Calls.evalArgs_plain ?_)
 exact thn hA fun us s2 ⟨vs,H2,I2,r2,q2⟩=>hm pins s2 σ H2 x vs v us Q I2 r1 r2 q2
/- xs.append(e),list.index on a module's tuple .. are MtR facts of 06m -/
end
noncomputable def MtM (X:Cx) (id:String) (r:V->List V->Hp->VK->Prop):Prop :=
 ∀ (pins:List (Addr×Obj)) (s:Shared) (σ:St) (H:Hp) (x:V) (xs:List V) (v:Value) (us:List Value) (Q:VK),Inv X pins σ H s->RelV x v->Vals xs us->r x xs H Q ->
  wpAny (model X.prog X.w) X.A (call (.builtin id) (v :: us)) (EP X pins σ Q) X.xe s
theorem Vals.one:∀ {x:V} {us:List Value},Vals [x] us->∃ u,us=[u]/\RelV x u
 | _,_,.cons r .nil=>⟨_,rfl,r⟩
theorem Vals.reverse {xs:List V} {us:List Value} (h:Vals xs us):Vals xs.reverse us.reverse:=by
 induction h with
 | nil=>exact .nil
 | cons r t ih=>rw [agU,agU];exact Vals.append ih (.cons r .nil)
section
variable {X:Cx} {pins:List (Addr×Obj)} {σ:St} {H:Hp} {s:Shared} {l b:Addr} {xs ys zs:List V}
theorem Inv.lset {its its':List Value} {n:Nat} {f:Array Value->Array Value} {t':Nat} (I:Inv X pins σ H s) (hH:H l=some (.lst xs))
  (e:s.heap.get? l=some { cls:=.type "list",data:=.seq its.toArray n }) (hf:f its.toArray=its'.toArray) (hv:Vals ys its') (hz:ys.length<=sizeLine) :
  Inv X pins σ (upd H l (.lst ys)) { s with heap:=s.heap.update l (aim f),toks:=t' }:=by
 have q:=PySem.IsL.update e f
 rw [hf] at q
 refine I.write (x:=l) (e:=l) (by rw [hH];exact trivial) (.inl rfl) (fun b' u hb hu=>(ahQ s.heap (aim f) (ah5 hb)).trans hu) ⟨_,q⟩ ?_
 exact⟨hz,its',_,hv,q⟩
theorem Inv.lnew {its:List Value} {t':Nat} (I:Inv X pins σ H s) (hv:Vals ys its) (hz:ys.length<=sizeLine) :
  Inv X pins σ (upd H s.heap.objs.size (.lst ys)) { s with heap:=s.heap.push { cls:=.type "list",data:=.seq its.toArray },toks:=t' } :=
 I.laid (fun _ _ q=>agt _ q) (agv _) ⟨hz,its,0,hv,agI _ rfl⟩
theorem Inv.fresh (I:Inv X pins σ H s):H s.heap.objs.size=none:=I.hok.fresh (agv _)
theorem Inv.lstM (I:Inv X pins σ H s) (hH:H l=some (.lst xs)):xs.length<=sizeLine/\∃ (its:List Value) (n:Nat),Vals xs its/\xs.length=its.length/\s.heap.get? l=some { cls:=.type "list",data:=.seq its.toArray n }:=by
 obtain⟨z,its,n,r,e⟩:=I.hok l _ hH
 exact⟨z,its,n,r,r.length,e⟩
end
section
variable {X:Cx}
noncomputable def ql:V->List V->Hp->VK->Prop:=fun x vs H Q=>∃ l xs y,x=.ref l/\vs=[y]/\H l=some (.lst xs)/\xs.length<sizeLine/\Q .non (upd H l (.lst (xs++[y])))
theorem yJ:MtM X "list.append" ql:=by
 intro pins s σ H x vs v us Q I rx rv h
 obtain⟨l,xs,y,rfl,rfl,hH,hz,q⟩:=h
 cases rx
 obtain⟨u,rfl,ru⟩:=rv.one
 obtain⟨z,its,n,r,hl,e⟩:=I.lstM hH
 refine call_meets F.slot_list_append ⟨_,e,rfl⟩ ajh (ai9 _ _) (PySem.list_append l its.toArray n u (by rw [agE];omega)) ⟨e,?_⟩
 refine⟨.non,_,I.lset (its':=its++[u]) hH e (by simp) (r.append (.cons ru .nil)) ?_,rfl,q⟩
 rw [agL,ahz]
 omega
end
end L2
namespace Att
open PySem PySem.W PySem.Calls PyProof.Rows
theorem qk {P:Params} {h:Heap}:∀ (ns:List Int) (vs:List Value),WellAll P h vs (ns.map WData.int)->IntsAre vs ns:=by
 intro ns
 induction ns with
 | nil =>
  intro vs w
  rw [List.map_nil] at w
  cases w
  exact .nil
 | cons n ns ih =>
  intro vs w
  rw [ahd] at w
  cases w with
  | cons a b =>
   cases a
   exact .cons _ _ (ih _ b)
theorem abQ {l:OpenLaw} {n:Nat} (hn:l.most=some n) {P:Params} {h:Heap} {args:List WData} {vals:List Value}
  (hpre:l.row.toRowW.claim.pre args=true) (hwl:WellAll P h vals args) :
  ∃ a vs ns,vals=[Value.ref a]/\args=[WData.list (ns.map WData.int)]/\h.get? a=some { cls:=.type "list",data:=.seq vs.toArray }/\IntsAre vs ns/\ns.length<=n:=by
 have hsh:WShape.hasAll [] args [.list .int]=true:=(pre_splitW hpre).1
 have hc:l.pre.holds [] { args:=args }=true:=(pre_splitW hpre).2
 obtain⟨d,r,rfl,h1,h2⟩:=hasAllW_cons hsh
 obtain rfl:=hasAllW_nil h2
 obtain⟨xs,rfl,h3⟩:=hasW_list h1
 obtain⟨ns,rfl⟩:=items_int h3
 have hlen:ns.length<=n:=by
  unfold OpenLaw.pre at hc
  have h4:(WTm.not (.lt (.lit (.int (n:Int))) (.len (.arg 0)))).holds [] { args:=[.list (ns.map .int)] }=true:=by
   have h4:=(holds_andW hc).1
   rw [hn] at h4
   exact h4
  have h5:=condW_of h4 (w_not (w_lt w_lit (w_len_list (w_arg rfl))))
  rw [agr] at h5
  refine Nat.le_of_not_lt fun q=>?_
  have q':(n:Int)<((ns.length:Nat):Int):=by omega
  first
   | (rw [decide_eq_true q'] at h5;exact absurd h5 (by decide))
   | (simp at h5;omega)
 cases hwl with
 | cons w1 w2 =>
  cases w2
  cases w1 with
  | list ho hall=>exact⟨_,_,ns,rfl,rfl,ho,qk ns _ hall,hlen⟩
theorem abR (l:OpenLaw) (args:List WData):l.row.toRowW.claim.post args (.bool true) args=true :=
 postW_of (r:=l.row.toRowW) (X:=(true == true))
  (show WShape.has [] (.bool true) .bool=true by first | rfl | decide | simp [WShape.has,WShape.arms,WShape.armsAll])
  (show (WTm.eq .res (.lit (.bool true))).value [] { args:=args,res:=some (.bool true),after:=args }=some (.bool (true == true)) from w_eq_bool (w_res rfl) w_lit) rfl
theorem attach_call {l:OpenLaw} {n:Nat} {q:Program} {loose:List Str} {XP:(Str->Option Value)->Heap->Prop} {YP:World->Heap->Prop} {d:DefRec}
  (hn:l.most=some n) (hdf:d.params.defaults=[])
  (call:∀ (w:World) (s₀ s₁:Shared) (mg mb:Str->Option Value) (fa:Addr) (o:Obj) (pm cd doc:Value) (a:Addr) (vs:List Value) (ns:List Int),
   Ground q loose [] XP w s₀ mg mb s₁.heap->YP w s₁.heap ->
   s₁.heap.get? fa=some o->o.data=.func (docDef d.name d.params d.body d.scope pm cd doc)->s₁.heap.CodeRec cd d.name->mg d.name=some (.ref fa) ->
   s₁.heap.get? a=some { cls:=.type "list",data:=.seq vs.toArray }->IntsAre vs ns->ns.length<=n->s₁.gens=#[] ->
   codeAny (model l.prog w) callerA (.call (.ref fa) ⟨[.ref a],[]⟩) (fun r s'=>r=.ok (.ret (.bool true))/\OldK s₁.heap s'.heap/\s'.os=s₁.os/\AllBare s'.gens) s₁) :
  WalkO q loose XP YP l.row.toRowW d [] (fun f vs=>PySem.call f vs):=by
 intro w s₀ s₁ mg mb G Y fa o pm cd doc dV kV ho hd hcd hD hmg hg args vals as hpre hlay hrd hwl hlo
 obtain rfl:dV=.none:=Dflts.none hD hdf
 obtain rfl:kV=.none:=Dflts.noKw hD
 obtain⟨a,vs,ns,rfl,rfl,hobj,hints,hlen⟩:=abQ hn hpre hwl
 refine enter_call (codeAny_mono (call w s₀ s₁ mg mb fa o pm cd doc a vs ns G Y ho (fd_plain hd) hcd hmg hobj hints hlen hg) fun r s' hq=>?_)
 obtain⟨rfl,h2,h3,h4⟩:=hq
 exact⟨.inl ⟨.bool true,.bool true,[],rfl,fun _=>rfl,.bool true,abR l _,fun _=>⟨List.Pairwise.nil,fun _ hm=>(nomatch hm)⟩⟩,h2,h3,h4⟩
section
variable {prog:Program} {w:World} {A:Around} {E:Value->Shared->Prop} {s:Shared} {K:Frag}
noncomputable def noObjs (h:Heap):Heap:={ h with objs:=#[] }
theorem noObjs_get (h:Heap) (b:Addr):(noObjs h).get? b=none:=by
 cases e:(noObjs h).get? b with
 | none=>rfl
 | some o=>exact absurd (agB e) (ag6 _)
theorem fr_all {h:Heap} {L:Addr} {m:Str->Option Value} (n:h.Ns L m):Fr (noObjs h) L h m :=
 ⟨n,fun b o e=>(by rw [noObjs_get] at e;cases e),agT _⟩
end
end Att
namespace L2
open PySem PySem.Spec PyProof.Rows
theorem jU:∀ {vs:List Value} {ns:List Int},IntsAre vs ns->Vals (ns.map V.int) vs
 | _,_,.nil=>.nil
 | _,_,.cons n t h=>.cons ⟨t,rfl⟩ (jU h)
end L2
/- THE LAST THEOREM (shape;LID,My.* are yours):
   My.Adr: a structure of the addresses that your layer names (classes,functions);My.Txt K t: a structure (Prop) of the equations over K;
   My.txt_mk:{K} {implicit addresses ..} (e1:nsIn K mainGlobals "law"=some (some (.ref f))) (e2:K.lookup f=some ⟨oc,od,.func (fnOf "law" "law" params body scope dV kV doc pm an cdv ct),sl⟩) (e3:codeIn K cdv "law"=true) ..:∃ t,My.Txt K t
set_option maxRecDepth 100000 in
set_option maxHeartbeats 0 in
theorem PySem.Challenge.cw_LID_holds : PySem.Challenge.rw_LID.Holds := by
 w_on;o_law;k_head;(case hw=>w_witness2)
 k_fill
 refine L2.walk_of (l:=PySem.Challenge.rw_LID) (n:=63) (k:=40) (x:="script") (CX:=fun w=>..) (sp:=fun _=>My.sp_law) rfl (by decide) rfl ⟨rfl,by decide,by decide⟩ (fun w h Y=>PySem.W.kIn_of Y) ?F ?S ?C
 case F =>
  intro w mg fa h KX G hmg
  have T:∃ t,My.Txt (L2.KOf KX) t:=by
   dsimp only [L2.KOf]                          -- K must stand as «<heap const> w.params» for k_is
   refine' My.txt_mk ?e1 ?e2 ?e3 ..
   (case e1=>PySem.W.k_is)                    -- in the order: a name->its address->its object->its parts
   (case e2=>PySem.W.k_is)
   ..
  obtain⟨t,T⟩:=T
  have e0:=hmg.symm.trans (ajl KX G T.law)
  cases e0                                       -- fa is the law's own address
  exact⟨_,fun s u=>.of_eq rfl,fun base kb nb=>My.law_fn T kb nb⟩     -- if «.of_eq rfl» comes too early: refine' ⟨_,?b,fun base kb nb=>My.law_fn T kb nb⟩;exact fun s u=>.of_eq rfl
 case S=>exact fun w H a ns hl hO hS=>..
 case C=>exact ..
(the tactic k_is has no namespace: write k_is) -/
namespace L2
open PySem PySem.Spec PyProof.Rows
noncomputable def z9 (s:Stmt):Arguments:=match s with
 | .FunctionDef _ a _ _ _ _ _ _ _ _=>a
 | _=>{ posonlyargs:=[],args:=[],vararg:=none,kwonlyargs:=[],kw_defaults:=[],kwarg:=none,defaults:=[] }
noncomputable def zN (s:Stmt):List Stmt:=match s with
 | .FunctionDef _ _ b _ _ _ _ _ _ _=>b
 | _=>[]
noncomputable def zh (s:Stmt):Scope:=match s with
 | .FunctionDef _ _ _ _ _ _ sc _ _ _=>sc
 | _=>{ kind:=.function,names:=[],isGenerator:=false,isCoroutine:=false }
noncomputable abbrev CX0:CXT:=fun _ _ _ _ _ _=>False
noncomputable abbrev E0:XK:=fun _ _ _=>False
theorem afM {X:Cx}:Passes CX0 X E0:=fun _ _ _ _ _ _ _ h=>h.elim
structure Fun (K:ags) (x qual:Str) (st:Stmt) (f:Addr) (fd:FuncData):Prop where
 ex:∃ (oc:Value) (od:Option Addr) (kV doc pm:Value) (an:Option Addr) (cdv ct:Value) (osl:Array (Option Value)),
  fd=ahc x qual (z9 st) (zN st) (zh st) .none kV doc pm an cdv ct/\K.lookup f=some ⟨oc,od,.func fd,osl⟩/\agY K cdv qual=true
 kp:ag4 K (.ref f)=true
section
variable {P:Program} {w:World} {K:ags} {mg:Str->Option Value} {base:Heap}
theorem Fun.ok {x qual:Str} {st:Stmt} {f:Addr} {fd:FuncData} {N ps:List Str} {k:Nat} {sp:Sp} (F:Fun K x qual st f fd) (S:FnScope N ps (zh st)) (len:∀ vs H Q E,sp vs H Q E->vs.length=ps.length)
  (hbody:∀ (cdv:Value) (A:Around) (outer:List Env) (s:Shared) (H:Hp) (vs:List V) (Q:VK) (E:XK),Room k (A.deeper (envOfC qual (zh st) s.heap.objs.size f cdv))->sp vs H Q E ->
   ∃ t,PSs (yF CX0 P w K mg base N qual (zh st) f cdv A outer s H E).nox (zN st) t/\t { nx:=fun _ H'=>Q .non H',rt:=Q } (start N vs) H):FnOk P w K mg base CX0 (k+1) f fd ps sp:=by
 obtain⟨oc,od,kV,doc,pm,an,cdv,ct,osl,rfl,lk,hcd⟩:=F.ex
 refine aex lk hcd S len fun A outer s H vs Q E hr hsp=>?_
 obtain⟨t,h,q⟩:=hbody cdv A outer s H vs Q E hr hsp
 exact⟨t,h.nox,q⟩
theorem Fun.binds {x qual:Str} {st:Stmt} {f:Addr} {fd:FuncData} {ps:List Str} (F:Fun K x qual st f fd)
  (h:∀ (kV doc pm:Value) (an:Option Addr) (cdv ct:Value) (us:List Value),us.length=ps.length->bindArgs (ahc x qual (z9 st) (zN st) (zh st) .none kV doc pm an cdv ct) ⟨us,[]⟩=pure (ps.zip us)):Binds K fd ps []:=by
 obtain⟨oc,od,kV,doc,pm,an,cdv,ct,osl,rfl,lk,hcd⟩:=F.ex
 exact .all (h kV doc pm an cdv ct)
theorem aaw {x qual:Str} {st:Stmt} {f:Addr} {oc:Value} {od an:Option Addr} {osl:Array (Option Value)} {kV doc pm cdv ct:Value} (l:K.lookup f=some ⟨oc,od,.func (ahc x qual (z9 st) (zN st) (zh st) .none kV doc pm an cdv ct),osl⟩)
  (c:agY K cdv qual=true) (k:ag4 K (.ref f)=true):Fun K x qual st f (ahc x qual (z9 st) (zN st) (zh st) .none kV doc pm an cdv ct):=⟨⟨oc,od,kV,doc,pm,an,cdv,ct,osl,rfl,l,c⟩,k⟩
end
theorem zW {n:Nat} (h:n<=1000):n<sizeLine:=Nat.lt_of_le_of_lt h (by decide)
section
variable {X:Cx}
theorem pv (i:Nat) {x:Str} {pos:Pos} (hN:X.N[i]?=some x:=by rfl) (hv:Vis X.env.scope x:=by first | exact Or.inl rfl | exact Or.inr (Or.inl rfl) | exact Or.inr (Or.inr rfl)) (hd:(x == ("__debug__":Str))=false:=by decide)
  (hcd:(x == ("__classdict__":Str))=false:=by decide):PE X (.Name x pos) (yE i):=aeS hN hv hd hcd
end
noncomputable def Same (H H':Hp):Prop:=∀ b o,H b=some o->H' b=some o
theorem Same.refl (H:Hp):Same H H:=fun _ _ h=>h
theorem Same.trans {H H1 H2:Hp} (a:Same H H1) (b:Same H1 H2):Same H H2:=fun c o h=>b c o (a c o h)
theorem Same.free {H H':Hp} (e:Same H H') {l:Addr} (h:H' l=Option.none):H l=Option.none:=by
 cases q:H l with
 | none=>rfl
 | some o =>
  rw [e l o q] at h
  cases h
theorem Same.seq {K:ags} {H H':Hp} {a:Addr} {xs:List V} (e:Same H H') (h:SqL K H a xs):SqL K H' a xs:=by
 rcases h with (h | ⟨o,h⟩) | h
 ·exact .inl (.inl (e _ _ h))
 ·exact .inl (.inr ⟨o,e _ _ h⟩)
 ·exact .inr h
noncomputable def zG (env:Env):List (Str×NameKind)->List (Str×Addr)->List (Str×Addr)
 | [],acc=>acc
 | (x,k) :: r,acc=>if k == .free then zG env r ((x,(env.cells.lookup x).getD 0) :: acc) else zG env r acc
theorem qA {sc:Scope} {env:Env} (h:∀ x,(x,NameKind.free)∈sc.names->∃ c,env.cells.lookup x=some c):closureFor sc env=pure (zG env sc.names []):=by
 have key:∀ (names:List (Str×NameKind)) (acc:List (Str×Addr)),(∀ x,(x,NameKind.free)∈names->∃ c,env.cells.lookup x=some c) ->
   (forIn names acc fun (x:Str×NameKind) (cs:List (Str×Addr))=>if (x.2 == NameKind.free)=true then (do let c <- cellOf env x.1;pure (ForInStep.yield ((x.1,c) :: cs))) else pure (ForInStep.yield cs))=(pure (zG env names acc):Sem (List (Str×Addr))):=by
  intro names
  induction names with
  | nil=>intro acc _;rfl
  | cons p r ih =>
   intro acc hh
   obtain⟨x,k⟩:=p
   rw [List.forIn_cons]
   unfold zG
   by_cases hk:(k == NameKind.free)=true
   ·have hk':k=.free:=by simpa using hk
    subst hk'
    obtain⟨c,hc⟩:=hh x agD
    simp only [beq_self_eq_true,if_true]
    rw [<-ih _ fun y hy=>hh y (agw _ hy)]
    have:cellOf env x=pure c:=by unfold cellOf;rw [hc]
    rw [this,hc]
    rfl
   ·simp only [hk,aiD,if_false]
    rw [<-ih _ fun y hy=>hh y (agw _ hy)]
    rfl
 simp only [closureFor]
 have q:=key sc.names [] h
 refine Eq.trans ?_ (Eq.trans (congrArg (fun z=>z >>= fun r=>pure r) q) ?_)
 ·rfl
 ·rfl
theorem yQ {env:Env}:∀ {names:List (Str×NameKind)} {acc:List (Str×Addr)} {p:Str×Addr},p∈zG env names acc->p∈acc \/ ((p.1,NameKind.free)∈names/\p.2=(env.cells.lookup p.1).getD 0)
 | [],acc,p,h=>.inl h
 | (x,k) :: r,acc,p,h=>by
  unfold zG at h
  split at h
  ·rename_i hk
   have hk':k=.free:=by simpa using hk
   subst hk'
   rcases yQ h with q | ⟨q,e⟩
   ·rcases agC.mp q with q | q
    ·subst q;exact .inr ⟨agD,rfl⟩
    ·exact .inl q
   ·exact .inr ⟨agw _ q,e⟩
  ·rcases yQ h with q | ⟨q,e⟩
   ·exact .inl q
   ·exact .inr ⟨agw _ q,e⟩
theorem yZ {α:Type}:∀ {l:List (Str×α)} {x:Str} {v:α},(x,v)∈l->∃ u,l.lookup x=some u
 | (y,u) :: r,x,v,h=>by
  rw [agW]
  cases hb:x == y with
  | true=>exact⟨u,rfl⟩
  | false =>
   rcases agC.mp h with e | h
   ·have:x=y:=congrArg Prod.fst e
    subst this
    simp at hb
   ·exact yZ h
theorem jv {env:Env}:∀ {names:List (Str×NameKind)} {acc:List (Str×Addr)} {x:Str},(x,NameKind.free)∈names->(x,(env.cells.lookup x).getD 0)∈zG env names acc
 | (y,k) :: r,acc,x,h=>by
  have mono:∀ (names:List (Str×NameKind)) (acc:List (Str×Addr)) (p:Str×Addr),p∈acc->p∈zG env names acc:=by
   intro names
   induction names with
   | nil=>intro acc p hp;exact hp
   | cons q r ih =>
    intro acc p hp
    obtain⟨a,b⟩:=q
    unfold zG
    split
    ·exact ih _ _ (agw _ hp)
    ·exact ih _ _ hp
  unfold zG
  rcases agC.mp h with e | h
  ·cases e
   simp only [beq_self_eq_true,if_true]
   exact mono _ _ _ agD
  ·split
   ·exact jv h
   ·exact jv h
theorem jm {env:Env} {names:List (Str×NameKind)} {x:Str} {c:Addr} (h:∀ x,(x,NameKind.free)∈names->∃ c,env.cells.lookup x=some c) (e:(zG env names []).lookup x=some c):env.cells.lookup x=some c/\(x,NameKind.free)∈names:=by
 rcases yQ (mem_of_lookup e) with q | ⟨q,e'⟩
 ·cases q
 ·obtain⟨c',hc⟩:=h _ q
  dsimp only at hc e'
  rw [hc] at e'
  exact⟨by rw [hc];exact congrArg some e'.symm,q⟩
theorem y9 {env:Env} {names:List (Str×NameKind)} {x:Str} {c:Addr} (h:∀ x,(x,NameKind.free)∈names->∃ c,env.cells.lookup x=some c) (hx:(x,NameKind.free)∈names) (e:env.cells.lookup x=some c):(zG env names []).lookup x=some c:=by
 obtain⟨u,hu⟩:=yZ (jv (env:=env) (acc:=[]) hx)
 have:=(jm h hu).1
 rw [this] at e
 rw [hu,e]
theorem ye:∀ {names:List (Str×NameKind)} {n:Nat} {acc:List (Str×Addr)} {x:Str} {c:Addr},(cellsFrom n names acc).lookup x=some c->(n<=c/\c<n+names.length/\(x,NameKind.cell)∈names) \/ (acc.lookup x=some c/\(x,NameKind.cell)∉names)
 | [],n,acc,x,c,h=>.inr ⟨h,by simp⟩
 | (y,k) :: r,n,acc,x,c,h=>by
  unfold cellsFrom at h
  split at h
  ·rename_i hk
   have hk':k=.cell:=by simpa using hk
   subst hk'
   rcases ye h with⟨q1,q2,q3⟩ | ⟨q1,q2⟩
   ·exact .inl ⟨ah9 q1,agG q2 (by rw [agM];omega),agw _ q3⟩
   ·rw [agW] at q1
    cases hb:x == y with
    | true =>
     rw [hb] at q1
     cases q1
     have:x=y:=by simpa using hb
     subst this
     exact .inl ⟨agv _,by rw [agM];exact Nat.lt_add_of_pos_right (ajp _),agD⟩
    | false =>
     rw [hb] at q1
     refine .inr ⟨q1,fun z=>?_⟩
     rcases agC.mp z with e | z
     ·have:x=y:=congrArg Prod.fst e
      subst this
      simp at hb
     ·exact q2 z
  ·rename_i hk
   rcases ye h with⟨q1,q2,q3⟩ | ⟨q1,q2⟩
   ·exact .inl ⟨q1,agG q2 (by rw [agM];omega),agw _ q3⟩
   ·refine .inr ⟨q1,fun z=>?_⟩
    rcases agC.mp z with e | z
    ·have:k=.cell:=(congrArg Prod.snd e).symm
     subst this
     simp at hk
    ·exact q2 z
theorem yh:∀ (names:List (Str×NameKind)) (n:Nat) (acc:List (Str×Addr)),(acc.Pairwise fun x y=>x.2≠y.2)->(∀ p∈acc,p.2<n)->(cellsFrom n names acc).Pairwise fun x y=>x.2≠y.2
 | [],n,acc,h,_=>h
 | (y,k) :: r,n,acc,h,hl=>by
  unfold cellsFrom
  split
  ·refine yh r (n+1) _ (ah6.mpr ⟨fun p hp=>?_,h⟩) fun p hp=>?_
   ·exact ah8 (hl p hp)
   ·rcases agC.mp hp with e | hp
    ·subst e;exact ain _
    ·exact ahe (hl p hp)
  ·exact yh r n acc h hl
theorem qS {names:List (Str×NameKind)} {n:Nat} {acc:List (Str×Addr)} {x:Str} (h:names.lookup x=some .cell):∃ c,(cellsFrom n names acc).lookup x=some c :=
 ah3.mp (ahP names n acc (.inl h))
theorem jo {names:List (Str×NameKind)} {n:Nat} {acc:List (Str×Addr)} {x:Str} (h:(acc.lookup x).isSome=true):∃ c,(cellsFrom n names acc).lookup x=some c :=
 ah3.mp (ahP names n acc (.inr h))
theorem yG:∀ (names:List (Str×NameKind)) (h:Heap) (acc:List (Str×Addr)) (x:Str) (c:Addr),(cellsFrom h.objs.size names acc).lookup x=some c->h.objs.size<=c->(∀ p∈acc,p.2<h.objs.size)->(pushCells h names).IsCell c none
 | [],h,acc,x,c,e,hc,hl=>absurd (hl _ (mem_of_lookup e)) (ajo.mpr hc)
 | (y,k) :: r,h,acc,x,c,e,hc,hl=>by
  unfold cellsFrom at e
  unfold pushCells
  split at e
  ·rename_i hk
   rw [if_pos hk]
   by_cases hcc:c=h.objs.size
   ·subst hcc
    exact⟨_,pushCells_keeps _ _ _ _ (agI _ rfl),rfl⟩
   ·have es:(h.push { cls:=.type "cell",data:=.cell none }).objs.size=h.objs.size+1:=aia ..
    refine yG r _ ((y,h.objs.size) :: acc) x c (by rw [es];exact e) (by rw [es];exact Nat.lt_of_le_of_ne hc (ah5 hcc)) fun p hp=>?_
    rw [es]
    rcases agC.mp hp with e | hp
    ·subst e;exact ain _
    ·exact ahe (hl p hp)
  ·rename_i hk
   rw [if_neg hk]
   exact yG r h acc x c e hc hl
noncomputable def zj (X:Cx) (sc:Scope) (N:List Str) (s₀:Shared) (H₀:Hp) (ex:List Addr) (pn:List (Addr×Obj)):Cx :=
 { X with N:=N,s₀:=s₀,H₀:=H₀,env:=compEnvC sc (cellsFrom (s₀.heap.objs.size+1) sc.names (zG X.env sc.names [])) s₀.heap.objs.size X.env,
          outer:=X.stack,ex:=ex,fn:=fun x=>decide (sc.names.lookup x=some .cell),pn:=pn,xe:=fun _ _=>False }
structure CompScope (NO:List Str) (scO:Scope) (N:List Str) (sc:Scope) (own:Nat) (fr:List Nat):Prop where
 kind:sc.kind=.function
 nd:N.Nodup
 snd:(sc.names.map (·.1)).Nodup
 free:∀ p∈sc.names,p.2=.free->scO.names.lookup p.1=some .cell \/ scO.names.lookup p.1=some .free
 frn:∀ p∈(N.drop own).zip fr,NO[p.2]?=some p.1/\sc.names.lookup p.1=some .free
 len:N.length=own+fr.length
noncomputable def yi (own:Nat) (fr:List Nat) (σ:St):St:=ahW own none++fr.map fun j=>(σ[j]?).getD none
theorem zL {α:Type}:∀ {l:List (Str×α)} {x:Str} {k:α},(l.map (·.1)).Nodup->(x,k)∈l->l.lookup x=some k
 | (y,u) :: r,x,k,nd,h=>by
  rw [ahd] at nd
  obtain⟨h1,h2⟩:=ahr.mp nd
  rw [agW]
  rcases agC.mp h with e | h'
  ·cases e;simp
  ·have:x≠y:=by
    intro e
    subst e
    exact h1 (ahf.mpr ⟨(x,k),h',rfl⟩)
   rw [beq_eq_false_iff_ne.mpr this]
   exact zL h2 h'
theorem yt {env:Env}:∀ {names:List (Str×NameKind)} {x:Str} {k:NameKind},names.lookup x=some k ->
  (names.map fun (n,k)=>if (k == NameKind.free && env.scope.kind == .function && env.kindOf n == some .cell) then (n,NameKind.cell) else (n,k)).lookup x=some (if (k == NameKind.free && env.scope.kind == .function && env.kindOf x == some .cell) then .cell else k)
 | (n,k') :: r,x,k,h=>by
  have ih:=@yt env r x k
  show List.lookup x ((if (k' == NameKind.free && env.scope.kind == .function && env.kindOf n == some .cell)=true then (n,NameKind.cell) else (n,k')) :: _)=_
  cases hx:x == n with
  | true =>
   have:x=n:=by simpa using hx
   subst this
   simp only [agW,hx] at h
   cases h
   split <;> simp [agW]
  | false =>
   simp only [agW,hx] at h
   split
   ·simp only [agW,hx];exact ih h
   ·simp only [agW,hx];exact ih h
theorem yk {env:Env}:∀ {names:List (Str×NameKind)} {x:Str},names.lookup x=none ->
  (names.map fun (n,k)=>if (k == NameKind.free && env.scope.kind == .function && env.kindOf n == some .cell) then (n,NameKind.cell) else (n,k)).lookup x=none
 | [],_,_=>rfl
 | (n,k') :: r,x,h=>by
  have ih:=@yk env r x
  show List.lookup x ((if (k' == NameKind.free && env.scope.kind == .function && env.kindOf n == some .cell)=true then (n,NameKind.cell) else (n,k')) :: _)=_
  cases hx:x == n with
  | true=>simp only [agW,hx] at h;cases h
  | false =>
   simp only [agW,hx] at h
   split
   ·simp only [agW,hx];exact ih h
   ·simp only [agW,hx];exact ih h
section
variable {X:Cx} {pins:List (Addr×Obj)} {σ:St} {H:Hp} {s:Shared} {NO N:List Str} {scO sc:Scope} {own:Nat} {fr:List Nat} {fp:List Addr}
theorem acu {tk:Nat} (S:CompScope NO scO N sc own fr) (hN:X.N=NO) (hsc:X.env.scope=scO) (I:Inv X pins σ H s) (hf:∀ b∈fp,qj X pins H b) (ho:∀ b∈fp,∃ o,s.heap.get? b=some o/\∀ v,o.data≠.cell v) :
  Inv (zj X sc N s H fp (X.pn++pins)) [] (yi own fr σ) H { s with heap:=pushCells (s.heap.push { cls:=.type "dict",data:=.dict #[] }) sc.names,toks:=tk }:=by
 have hfree:∀ x,(x,NameKind.free)∈sc.names->∃ c,X.env.cells.lookup x=some c:=fun x hx=>I.ok.has x (by
  show X.env.scope.names.lookup x=_ \/ X.env.scope.names.lookup x=_
  rw [hsc]
  exact S.free _ hx rfl)
 have hclt:∀ p∈zG X.env sc.names [],p.2<s.heap.objs.size:=fun p hp=>by
  rcases yQ hp with q | ⟨q,e⟩
  ·cases q
  ·obtain⟨c,hc⟩:=hfree _ q
   rw [e,hc]
   obtain⟨v,o,ho,_⟩:=I.cell _ c hc
   exact agB ho
 have hsz:(s.heap.push { cls:=.type "dict",data:=.dict #[] }).objs.size=s.heap.objs.size+1:=aia ..
 have hk:∀ b o,s.heap.get? b=some o->(pushCells (s.heap.push { cls:=.type "dict",data:=.dict #[] }) sc.names).get? b=some o:=fun b o e=>pushCells_keeps _ _ _ _ (agt _ e)
 have hcase:∀ {x:Str} {c:Addr},(cellsFrom (s.heap.objs.size+1) sc.names (zG X.env sc.names [])).lookup x=some c->(s.heap.objs.size+1<=c/\(x,NameKind.cell)∈sc.names) \/ (X.env.cells.lookup x=some c/\(x,NameKind.free)∈sc.names):=fun {x c} e=>by
  rcases ye e with⟨q1,_,q3⟩ | ⟨q1,_⟩
  ·exact .inl ⟨q1,q3⟩
  ·exact .inr (jm hfree q1)
 have clap:(zG X.env sc.names []).Pairwise fun x y=>x.2≠y.2:=by
  have key:∀ (names:List (Str×NameKind)) (acc:List (Str×Addr)),(∀ p∈acc,X.env.cells.lookup p.1=some p.2)->(∀ x,(x,NameKind.free)∈names->∃ c,X.env.cells.lookup x=some c)->(acc.Pairwise fun x y=>x.2≠y.2)->(∀ p∈acc,(p.1,NameKind.free)∉names)->(names.map (·.1)).Nodup ->
    (zG X.env names acc).Pairwise fun x y=>x.2≠y.2:=by
   intro names
   induction names with
   | nil=>intro acc _ _ h _ _;exact h
   | cons p r ih =>
    intro acc h1 h2 h3 h4 h5
    obtain⟨y,k⟩:=p
    rw [ahd] at h5
    obtain⟨n1,n2⟩:=ahr.mp h5
    unfold zG
    split
    ·rename_i hk
     have hk':k=.free:=by simpa using hk
     subst hk'
     obtain⟨c,hc⟩:=h2 y agD
     rw [hc]
     refine ih _ (fun p hp=>?_) (fun x hx=>h2 x (agw _ hx)) (ah6.mpr ⟨fun p hp=>?_,h3⟩) (fun p hp=>?_) n2
     ·rcases agC.mp hp with e | hp
      ·subst e;exact hc
      ·exact h1 p hp
     ·intro e
      have e':p.2=c:=e.symm
      have:=I.ok.inj _ _ _ hc (e'▸h1 p hp)
      exact h4 p hp (this▸agD)
     ·rcases agC.mp hp with e | hp
      ·subst e
       intro z
       exact n1 (ahf.mpr ⟨_,z,rfl⟩)
      ·intro z;exact h4 p hp (agw _ z)
    ·exact ih acc h1 (fun x hx=>h2 x (agw _ hx)) h3 (fun p hp z=>h4 p hp (agw _ z)) n2
  exact key sc.names [] (fun p hp=>by cases hp) hfree List.Pairwise.nil (fun p hp=>by cases hp) S.snd
 have apart:=yh sc.names (s.heap.objs.size+1) _ clap fun p hp=>ahe (hclt p hp)
 have hkd:∀ x,(zj X sc N s H fp (X.pn++pins)).env.kindOf x=some .cell \/ (zj X sc N s H fp (X.pn++pins)).env.kindOf x=some .free->(x,NameKind.cell)∈sc.names \/ (x,NameKind.free)∈sc.names:=fun x hx=>by
  cases q:sc.names.lookup x with
  | none =>
   have e:(zj X sc N s H fp (X.pn++pins)).env.kindOf x=none:=yk q
   rw [e] at hx
   rcases hx with z | z <;> cases z
  | some k =>
   have e:(zj X sc N s H fp (X.pn++pins)).env.kindOf x=some _:=yt (env:=X.env) q
   rw [e] at hx
   have hm:=mem_of_lookup q
   cases k <;> first | exact .inl hm | exact .inr hm | (rcases hx with z | z <;> cases z)
 have cellAt:∀ x c,(cellsFrom (s.heap.objs.size+1) sc.names (zG X.env sc.names [])).lookup x=some c->∃ v,(pushCells (s.heap.push { cls:=.type "dict",data:=.dict #[] }) sc.names).IsCell c v:=fun x c e=>by
  rcases hcase e with⟨q,_⟩ | ⟨q,_⟩
  ·exact⟨none,yG _ _ _ x c (by rw [hsz];exact e) (by rw [hsz];exact q) fun p hp=>by rw [hsz];exact ahe (hclt p hp)⟩
  ·obtain⟨v,o,ho,hd⟩:=I.cell x c q
   exact⟨v,o,hk _ _ ho,hd⟩
 have lt_of_cell:∀ x c,X.env.cells.lookup x=some c->c<s.heap.objs.size:=fun x c e=>by
  obtain⟨v,o,ho,hd⟩:=I.cell x c e
  exact agB ho
 have lt_of_fp:∀ b∈fp,b<s.heap.objs.size:=fun b hb=>by
  obtain⟨o,e,_⟩:=ho b hb
  exact agB e
 have okX:(zj X sc N s H fp (X.pn++pins)).Ok:=by
  refine⟨I.mod,S.kind,I.ok.glob,I.ok.blt,agv _,fun x y c h1 h2=>name_of_addr apart (mem_of_lookup h1) (mem_of_lookup h2),fun x hx=>?_,fun x c hx hc=>?_,I.ok.hd,I.ok.frames,.inl rfl,fun b hb=>⟨agP (lt_of_fp b hb),fun x c e=>?_⟩,I.bs,ag2 I.ok.bsz I.sz,fun b o e hb=>?_,fun b hb z=>?_,I.stack,I.stkFree,I.env0.tabs⟩
  ·rcases hkd x hx with q | q
   ·exact qS (zL S.snd q)
   ·obtain⟨c,hc⟩:=hfree x q
    exact jo (by rw [y9 hfree q hc];rfl)
  ·have hx':sc.names.lookup x=some .cell:=of_decide_eq_true hx
   rcases hcase hc with⟨q,_⟩ | ⟨_,q⟩
   ·exact ah9 q
   ·rw [zL S.snd q] at hx';cases hx'
  ·rcases hcase e with⟨q,_⟩ | ⟨q,_⟩
   ·exact ah8 (agG (lt_of_fp b hb) (ah9 q))
   ·exact (hf b hb).2.2.2.2.1 x c q
  ·rcases (hf b hb).2.2.2.1 with z | z
   ·exact I.ok.noex b o e z
   ·exact absurd (agB e) (ajo.mpr (ag2 I.ok.bsz z))
  ·rcases agC.mp (I.stkSub b z) with q | q
   ·exact (hf b hb).2.1 q
   ·exact (hf b hb).2.2.1 q
 refine⟨okX,rfl,I.bare,Un.kept hk,⟨fun _=>none,(Heap.Ns.new s.heap (.type "dict")).keeps (pushCells_keeps _ _),fun i x v h1 h2 h3=>?_⟩,cellAt,I.hok.fresh (agv _),fun x c e=>?_,fun p hp=>?_,I.hok.kept hk,?_⟩
 ·obtain⟨m,_,hl⟩:=id I.loc
  have h2':(yi own fr σ)[i]?=some (some v):=h2
  have hio:own<=i:=by
   unfold yi at h2'
   refine Nat.le_of_not_lt fun hi=>?_
   rw [agx (by simpa using hi),ahK] at h2'
   split at h2' <;> cases h2'
  obtain⟨k,rfl⟩:=Nat.exists_eq_add_of_le hio
  have h1':N[own+k]?=some x:=h1
  unfold yi at h2'
  rw [agA (by simp)] at h2'
  simp only [aii,Nat.add_sub_cancel_left,agy] at h2'
  cases hj:fr[k]? with
  | none=>rw [hj] at h2';cases h2'
  | some j =>
   rw [hj] at h2'
   have h2'':(σ[j]?).getD none=some v:=Option.some.inj h2'
   have hp:(x,j)∈(N.drop own).zip fr:=by
    refine agJ (i:=k) ?_
    rw [List.getElem?_zip_eq_some]
    exact⟨by rw [aiE];exact h1',hj⟩
   obtain⟨f1,f2⟩:=S.frn _ hp
   have hσ:σ[j]?=some (some v):=by
    cases q:σ[j]? with
    | none=>rw [q] at h2'';cases h2''
    | some w=>rw [q] at h2'';exact congrArg some h2''
   have hxf:(x,NameKind.free)∈sc.names:=mem_of_lookup f2
   have hko:=S.free _ hxf rfl
   have hvis:Vis X.env.scope x:=by rw [hsc];exact .inr hko
   obtain⟨u,ru,q⟩:=hl j x v (by rw [hN];exact f1) hσ hvis
   refine⟨u,ru,.inr ⟨?_,?_⟩⟩
   ·have e:(zj X sc N s H fp (X.pn++pins)).env.kindOf x=some _:=yt (env:=X.env) f2
    rw [e]
    split
    ·exact .inl rfl
    ·exact .inr rfl
   ·rcases q with⟨k1,_⟩ | ⟨_,c,hc,z⟩
    ·have k1':X.env.scope.names.lookup x=some .local:=k1
     rw [hsc] at k1'
     rcases hko with z | z <;> rw [z] at k1' <;> cases k1'
    ·obtain⟨o,ho,hd⟩:=z
     refine⟨c,?_,o,hk _ _ ho,hd⟩
     have hcl:=y9 hfree hxf hc
     obtain⟨c',hc'⟩:=jo (names:=sc.names) (n:=s.heap.objs.size+1) (acc:=zG X.env sc.names []) (x:=x) (by rw [hcl];rfl)
     rcases hcase hc' with⟨_,z⟩ | ⟨z,_⟩
     ·have:=zL S.snd z
      rw [f2] at this;cases this
     ·rw [hc] at z;cases z;exact hc'
 ·rcases hcase e with⟨q,_⟩ | ⟨q,_⟩
  ·exact I.hok.fresh (ah9 q)
  ·exact I.freeC x c q
 ·have hp':p∈X.pn++pins:=by simpa [zj] using hp
  obtain⟨e,n,ne,nf,d⟩:=I.pin p hp'
  refine⟨hk _ _ e,n,agP (agB e),fun z=>?_,d⟩
  rcases agC.mp (I.stkSub _ z) with q | q
  ·exact ne q
  ·exact nf q
 ·show (yi own fr σ).length=N.length
  unfold yi
  rw [S.len]
  simp
end
noncomputable abbrev TB:=St->Hp->(St->Hp->Prop)->Prop
noncomputable def PB (X:Cx) (act:Sem Unit) (t:TB):Prop :=
 ∀ (pins:List (Addr×Obj)) (s:Shared) (σ:St) (H:Hp) (Q:St->Hp->Prop),Inv X pins σ H s->t σ H Q->wpAny (model X.prog X.w) X.A act (fun _ s'=>∃ σ' H',Inv X pins σ' H' s'/\Q σ' H') X.xe s
noncomputable def PTs (X:Cx) (ifs:List Expr) (t:TT):Prop :=
 ∀ (pins:List (Addr×Obj)) (s:Shared) (σ:St) (H:Hp) (Q:Bool->Hp->Prop),Inv X pins σ H s->t σ H Q ->
  wpAny (model X.prog X.w) X.A (forIn ifs true fun c r=>if r=true then do let ok <- isTrue c X.env (eval c X.env);pure (ForInStep.yield ok) else pure (ForInStep.yield r)) (TP X pins σ Q) X.xe s
noncomputable def afN:TT:=fun _ H Q=>Q true H
theorem aa9 {X:Cx}:PTs X [] afN:=fun pins s σ H Q I h=>wpAny_tests_nil ⟨H,I,h⟩
theorem adK {X:Cx} {c:Expr} {t:TT} (hc:PT X c t):PTs X [c] t:=fun pins s σ H Q I h=>wpAny_tests_one (hc pins s σ H Q I h)
noncomputable def aba (J:It) (g:TG) (tt:TT) (tb:TB):TB:=fun σ H Q=>∃ W:Nat->Nat->St->Hp->Prop,(∃ m,W 0 m σ H)/\∀ i m σ H,W i m σ H ->
 (J.stop i H/\Q σ H) \/ (J.go i H/\∀ x H',J.yld i H x H'->g x σ H' fun σ2 H2=>tt σ2 H2 fun b H3=>if b=true then tb σ2 H3 fun σ' H'=>∃ m',m'<m/\W (i+1) m' σ' H' else ∃ m',m'<m/\W (i+1) m' σ2 H3)
section
variable {X:Cx} {pins:List (Addr×Obj)} {s:Shared} {σ:St} {H:Hp} {tg:Expr} {e:Expr} {d:Nat} {acc:Value} {ifs:List Expr} {g:TG} {tt:TT} {tb:TB} {act:Sem Unit} {pos:Pos}
theorem acv (hx:∀ e s,X.xe e s->False) (hc:X.calm=true) (hg:PG X tg g) (ht:PTs X ifs tt) (hb:PB X act tb)
  (heq:∀ it,compTurn e d it acc X.env=(do
   standAt pos
   match <- pyNext it with
   | none=>pure (.done .next)
   | some v =>
    letOwnedTupleGo tg it v
    assign tg X.env v
    let mut ok:=true
    for c in ifs do
     if ok then ok <- isTrue c X.env (eval c X.env)
    if ok then
     act
    again (.compLoop e d it acc X.env)))
  (hqt:∀ it,(Code.compLoop e d it acc X.env).quiet=true)
  (hden:∀ it,(model X.prog X.w).den (.compLoop e d it acc X.env)=(compTurn e d it acc X.env).onRaise (fun x=>do noteFrame x X.env;theTreesLotGoes x))
  (hund:∀ it,X.A.under (.compLoop e d it acc X.env)=X.A)
  {it:Addr} {fp:List Addr} {tn:Nat->Heap->Prop} {J:It} {Q:St->Hp->Prop} {R:Result->Shared->Prop} (I:Inv X pins σ H s) (T:Turn X.prog X.w X.K tg J fp it tn) (st:tn 0 s.heap) (f:∀ b∈fp,qj X pins H b)
  (h:aba J g tt tb σ H Q) (hR:∀ σ' H' s',Inv X pins σ' H' s'->(∀ b∈fp,H' b=none)->Q σ' H'->R (.ok .next) s'):codeAny (model X.prog X.w) X.A (.compLoop e d (.ref it) acc X.env) R s:=by
 obtain⟨W,⟨m0,w0⟩,turn⟩:=h
 have stat:∀ {H':Hp},(∀ b∈fp,H' b=none)->∀ b∈fp,qj X pins H' b:=fun hn b hb=>⟨hn b hb,(f b hb).2⟩
 refine codeAny_loop (hqt _) (fun n s'=>∃ i σ' H',Inv X pins σ' H' s'/\tn i s'.heap/\(∀ b∈fp,H' b=none)/\W i n σ' H') ?_ m0 ⟨0,σ,H,I,st,fun b hb=>(f b hb).1,w0⟩
 rintro n s3 ⟨i,σ3,H3,I3,st3,fr3,w3⟩
 rw [hden,hund]
 refine wpAny_noted ?_
 rw [heq]
 have nox:∀ e' s',X.xe e' s'->notedBy (model X.prog X.w) X.A X.env (fun e s'=>R (.error e) s') e' s':=fun e' s' z=>(hx e' s' z).elim
 refine wpAny_bind (wpAny_standAt (wpAny_bind ?_))
 rcases turn i n σ3 H3 w3 with⟨stop,qn⟩ | ⟨go,step⟩
 ·refine wpAny_mono (T.done X rfl rfl rfl hc i pins s3 σ3 H3 X.xe I3 (stat fr3) st3 stop) (fun r s4 hr4=>?_) nox
  obtain⟨hr,I4⟩:=hr4
  subst hr
  exact wpAny_pure (hR σ3 H3 s4 I4 fr3 qn)
 ·refine wpAny_mono (T.item X rfl rfl rfl hc i pins s3 σ3 H3 X.xe I3 (stat fr3) st3 go) (fun r s4 hr4=>?_) nox
  obtain⟨u,hr,h4⟩:=hr4
  subst hr
  refine wpAny_bind (wpAny_mono h4 (fun _ s5 h5=>?_) nox)
  obtain⟨x,H5,I5,r5,y5,st5,fr5⟩:=h5
  have I5':=I5.pinned (stat fr5) (T.obj _ _ st5)
  refine wpAny_bind (wpAny_mono (hg _ s5 σ3 H5 x u _ I5' r5 (step x H5 y5)) (fun _ s6 h6=>?_) nox)
  obtain⟨σ6,H6,I6,q6⟩:=h6
  refine wpAny_bind (wpAny_mono (ht _ s6 σ6 H6 _ I6 q6) (fun ok s7 h7=>?_) nox)
  obtain⟨H7,I7,q7⟩:=h7
  have again:∀ {σ7:St} {H7:Hp} {s7:Shared},Inv X (pins++qw fp s5.heap) σ7 H7 s7->(∃ m',m'<n/\W (i+1) m' σ7 H7)->∃ m,m<n/\∃ i σ' H',Inv X pins σ' H' s7/\tn i s7.heap/\(∀ b∈fp,H' b=none)/\W i m σ' H':=fun {σ7 H7 s7} I7 n7=>by
   obtain⟨m',hm,w7⟩:=n7
   refine⟨m',hm,i+1,σ7,H7,I7.unpinned,T.keep _ _ _ st5 fun b hb o e=>(I7.pin (b,o) (agH _ (agH _ (yO hb e)))).1,fun b hb=>?_,w7⟩
   obtain⟨o,e,d⟩:=T.obj _ _ st5 b hb
   exact (I7.pin (b,o) (agH _ (agH _ (yO hb e)))).2.1
  cases ok with
  | false =>
   rw [if_neg agz] at q7
   exact wpAny_pure ⟨rfl,again I7 q7⟩
  | true =>
   rw [if_pos rfl] at q7
   refine wpAny_bind (wpAny_mono (hb _ s7 σ6 H7 _ I7 q7) (fun _ s8 h8=>?_) nox)
   obtain⟨σ8,H8,I8,q8⟩:=h8
   exact wpAny_pure ⟨rfl,again I8 q8⟩
theorem abb {D:Addr} {elt:Expr} {te:TE} (he:PE X elt te):PB X (do let _ <- call (.builtin "list.append") [.ref D,<- eval elt X.env]) (fun σ H Q=>te σ H fun y H1=>∃ xs,H1 D=some (.lst xs)/\xs.length<sizeLine/\Q σ (upd H1 D (.lst (xs++[y])))):=by
 intro pins s σ H Q I h
 refine wpAny_bind (thn (he pins s σ H _ I h) fun v s1 h1=>?_)
 obtain⟨y,H1,I1,r1,xs,hD,hz,q⟩:=h1
 obtain⟨z,its,n,r,hl,e⟩:=I1.lstM hD
 refine wpAny_bind ?_
 refine call_meets F.slot_list_append ⟨_,e,rfl⟩ ajh (ai9 _ _) (PySem.list_append D its.toArray n v (by rw [agE];omega)) ⟨e,?_⟩
 refine wpAny_pure ⟨σ,_,I1.lset (its':=its++[v]) hD e (by simp) (r.append (.cons r1 .nil)) ?_,q⟩
 rw [agL,ahz]
 omega
theorem vS {M:Model} {A:Around} {E:Value->Shared->Prop} {sc:Scope} {gl:Addr} {cl:List (Str×Addr)} {qual:Str} {env:Env} {Q:Env->Shared->Prop} {s:Shared}
  (h:Q { scope:=sc,locals:=s.heap.objs.size,globals:=gl,cells:=cellsFrom (s.heap.objs.size+1) sc.names cl,qual:=qual,func:=none,code:=env.code,frame:=env.frame,builtins:=env.builtins } { s with heap:=pushCells (s.heap.push { cls:=.type "dict",data:=.dict #[] }) sc.names }) :
  wpAny M A (newFunctionEnv sc gl cl [] qual none .none (some env)) Q E s:=by
 simp only [newFunctionEnv,Option.isSome_some,if_true]
 refine wpAny_bind (wpAny_alloc ?_)
 refine wpAny_bind (wpAny_layCells _ (fun name kind cells=>by cases hkc:kind == NameKind.cell <;> simp [hkc]) _ _ _ _ ?_)
 rw [show ({ s with heap:=s.heap.push { cls:=.type "dict",data:=.dict #[] } }:Shared).heap.objs.size=s.heap.objs.size+1 from aia ..]
 refine wpAny_bind ?_
 rw [List.forIn_nil]
 exact wpAny_pure (wpAny_pure h)
theorem comp_back {sc:Scope} {N:List Str} {fp:List Addr} {σ':St} {H':Hp} {s':Shared} {h':Heap} (I:Inv X pins σ H s) (hf:∀ b∈fp,qj X pins H b) (J:Inv (zj X sc N s H fp (X.pn++pins)) [] σ' H' s') (hs:ahX s.heap.objs.size s'.heap h') :
  Inv X pins σ H' { s' with heap:=h' }:=by
 have u:Un (frs X.stack) fp H H' s.heap s'.heap:=J.base
 have ne:∀ b o,s.heap.get? b=some o->b≠s.heap.objs.size:=fun b o e=>agP (agB e)
 have hfree:H' s.heap.objs.size=none:=J.free
 refine I.call' (s':={ s' with heap:=h' }) (ch:=fp) J.os ⟨fun b o e n h1 h2=>(hs.2 b (ne b o e)).trans (u.keep b o e n h1 h2),fun b o e n h1 h2=>?_,u.free,fun b o e h2=>?_,u.tups,u.frzs,u.tbls⟩ (fun a o e=>?_) J.bare fun b hb=>?_
 ·obtain⟨sl,q⟩:=u.slot b o e n h1 h2
  exact⟨sl,(hs.2 b (ne b o e)).trans q⟩
 ·obtain⟨o',q⟩:=u.there b o e h2
  exact⟨o',(hs.2 b (ne b o e)).trans q⟩
 ·refine (J.hok a o e).stay (fun c v hc q=>(hs.2 c ?_).trans q) (fun _ q=>q) fun _ _ q=>q
  intro z
  subst z
  rcases hc with hc | hc
  ·rw [<-hc] at e
   rw [hfree] at e;cases e
  ·rw [hfree] at hc;cases hc
 ·exact⟨(hf b hb).2.2.2.1,(hf b hb).2.1,(hf b hb).2.2.2.2⟩
end
noncomputable def acw (D:Addr) (te:TE):TB:=fun σ H Q=>te σ H fun y H1=>∃ xs,H1 D=some (.lst xs)/\xs.length<sizeLine/\Q σ (upd H1 D (.lst (xs++[y])))
noncomputable def qB (wi:TI) (own:Nat) (fr:List Nat) (g:TG) (tt:TT) (tb:Addr->TB):TE:=fun σ H Q=>wi σ H fun J H1=>∀ D,H1 D=none ->
 aba J g tt (tb D) (yi own fr σ) (upd H1 D (.lst [])) fun _ H2=>Q (.ref D) H2
section
variable {X:Cx} {pins:List (Addr×Obj)} {s:Shared} {σ:St} {H:Hp} {tg elt iter:Expr} {ifs:List Expr} {rest:List Comprehension} {sc scO:Scope} {NO N:List Str} {own:Nat} {fr:List Nat} {wi:TI} {g:TG} {tt:TT} {tb:Addr->TB} {pos:Pos}
theorem vT {RR:Value->Addr->Result->Shared->Prop} {it:Addr} {fp:List Addr} {tn:Nat->Heap->Prop} {J:It} {Q:VK} (S:CompScope NO scO N sc own fr) (hN:X.N=NO) (hsc:X.env.scope=scO) (hc:X.calm=true)
  (hg:∀ s₀ H₀ ex pn,PG (zj X sc N s₀ H₀ ex pn) tg g) (ht:∀ s₀ H₀ ex pn,PTs (zj X sc N s₀ H₀ ex pn) ifs tt)
  (hb:∀ D s₀ H₀ ex pn,∃ act,PB (zj X sc N s₀ H₀ ex pn) act (tb D)/\∀ it,compTurn (.ListComp elt (⟨tg,iter,ifs,0⟩ :: rest) sc pos) 0 it (.ref D) (zj X sc N s₀ H₀ ex pn).env=(do
   standAt iter.pos
   match <- pyNext it with
   | none=>pure (.done .next)
   | some v =>
    letOwnedTupleGo tg it v
    assign tg (zj X sc N s₀ H₀ ex pn).env v
    let mut ok:=true
    for c in ifs do
     if ok then ok <- isTrue c (zj X sc N s₀ H₀ ex pn).env (eval c (zj X sc N s₀ H₀ ex pn).env)
    if ok then
     act
    again (.compLoop (.ListComp elt (⟨tg,iter,ifs,0⟩ :: rest) sc pos) 0 it (.ref D) (zj X sc N s₀ H₀ ex pn).env)))
  (I:Inv X pins σ H s) (T:Turn X.prog X.w X.K tg J fp it tn) (st:tn 0 s.heap) (f:∀ b∈fp,qj X pins H b)
  (h:∀ D,H D=none->aba J g tt (tb D) (yi own fr σ) (upd H D (.lst [])) fun _ H2=>Q (.ref D) H2)
  (hRR:∀ (D C:Addr) (s':Shared) (H':Hp),(∃ m,s'.heap.Ns C m)->C≠X.env.locals->(∀ x c,X.env.cells.lookup x=some c->c≠C)->H' C=none->X.s₀.heap.objs.size<=C->(∀ p∈X.pn++pins,p.1≠C)->Inv X pins σ H' s'->Q (.ref D) H'->RR (.ref D) C (.ok .next) s') :
  wpAny (model X.prog X.w) X.A (newList []) (fun acc s₃=>wpAny (model X.prog X.w) X.A (newFunctionEnv sc X.env.globals (zG X.env sc.names []) [] X.env.qual none .none (some X.env)) (fun cenv s₄ =>
   codeAny (model X.prog X.w) X.A (.compStart (.ListComp elt (⟨tg,iter,ifs,0⟩ :: rest) sc pos) 0 (.ref it) acc { cenv with scope:=relabel sc X.env }) (RR acc cenv.locals) s₄) X.xe s₃) X.xe s:=by
 refine wpAny_newObj_type (vS ?_)
 have fpsz:∀ b∈fp,b<s.heap.objs.size:=fun b hb=>by
  obtain⟨o,e,_⟩:=T.obj _ _ st b hb
  exact agB e
 have I3:=I.lnew (its:=[]) (ys:=[]) (t':=s.toks) .nil (agT _)
 have f3:∀ b∈fp,qj X pins (upd H s.heap.objs.size (.lst [])) b:=fun b hb=>⟨by rw [zl (agP (fpsz b hb))];exact (f b hb).1,(f b hb).2⟩
 have st3:tn 0 (s.heap.push { cls:=.type "list",data:=.seq ([]:List Value).toArray }):=T.keep _ _ _ st fun b _ o e=>agt _ e
 have I4:=acu (tk:=s.toks) S hN hsc I3 f3 (T.obj _ _ st3)
 obtain⟨act,pb,heq⟩:=hb s.heap.objs.size _ _ _ _
 have st4:=T.keep _ _ (pushCells ((s.heap.push { cls:=.type "list",data:=.seq ([]:List Value).toArray }).push { cls:=.type "dict",data:=.dict #[] }) sc.names) st3 fun b _ o e=>pushCells_keeps _ _ _ _ (agt _ e)
 have cells_lt:∀ x c,X.env.cells.lookup x=some c->c<s.heap.objs.size:=fun x c e=>by
  obtain⟨v,o,ho,hd⟩:=I.cell x c e
  exact agB ho
 have esz:(s.heap.push { cls:=.type "list",data:=.seq ([]:List Value).toArray }).objs.size=s.heap.objs.size+1:=aia ..
 have loop:=acv (X:=zj X sc N { s with heap:=s.heap.push { cls:=.type "list",data:=.seq ([]:List Value).toArray } } (upd H s.heap.objs.size (.lst [])) fp (X.pn++pins)) (R:=RR (.ref s.heap.objs.size) (s.heap.push { cls:=.type "list",data:=.seq ([]:List Value).toArray }).objs.size) (fun _ _ z=>z) hc (hg _ _ _ _) (ht _ _ _ _) pb heq (fun _=>rfl) (fun _=>rfl) (fun _=>rfl) I4 T st4
  (fun b hb=>⟨(f3 b hb).1,I4.ok.exf b hb |>.1,I4.ok.exfs b hb,.inl hb,I4.ok.exf b hb |>.2,fun p hp=>by
   have hp':p∈X.pn++pins:=by simpa [zj] using hp
   exact (f b hb).2.2.2.2.2 p hp'⟩) (h _ I.fresh)
  (fun σ' H' s' J' fr' q'=>hRR _ _ s' H' (let⟨m,hm,_⟩:=J'.loc;⟨m,hm⟩) (by rw [esz];exact ah8 (ahe I.lt)) (fun x c e=>by rw [esz];exact agP (ahe (cells_lt x c e))) J'.free (by rw [esz];exact Nat.le_succ_of_le I.sz) (fun p hp=>by rw [esz];exact agP (ahe (agB (I.pin p hp).1))) (comp_back (h':=s'.heap) I3 f3 J' (Heap.SameBut.refl ..)) q')
 exact codeAny_compStart_list loop (T.self X.A 0 _ _ _ st4 loop)
theorem Inv.touch {C:Addr} {h':Heap} (I:Inv X pins σ H s) (hs:ahX C s.heap h') (hn:H C=none) (h0:C≠X.env.locals) (h1:∀ x c,X.env.cells.lookup x=some c->c≠C) (h2:X.s₀.heap.objs.size<=C) (h3:∀ p∈X.pn++pins,p.1≠C) :
  Inv X pins σ H { s with heap:=h' } :=
 I.turned (t':=s.toks) (fun b o hb e=>(hs.2 b hb).trans e) hn h0 (.inr h2) h1 h3
section
variable {elt2:Expr} {te:TE} {tg2 iter2:Expr} {ifs2:List Expr} {wi2:TI} {g2:TG} {tt2:TT} {tb2:TB} {y:Str} {i:Nat} {py spos:Pos}
theorem abc (S:CompScope NO scO N sc own fr) (hsc:X.env.scope=scO) (ok:X.Ok):closureFor sc X.env=pure (zG X.env sc.names []) :=
 qA fun x hx=>ok.has x (by
  show X.env.scope.names.lookup x=_ \/ X.env.scope.names.lookup x=_
  rw [hsc]
  exact S.free _ hx rfl)
theorem adL (S:CompScope NO scO N sc own fr) (hc:X.calm=true) (hi:PI X tg iter wi) (hg:∀ s₀ H₀ ex pn,PG (zj X sc N s₀ H₀ ex pn) tg g) (ht:∀ s₀ H₀ ex pn,PTs (zj X sc N s₀ H₀ ex pn) ifs tt)
  (hb:∀ D s₀ H₀ ex pn,∃ act,PB (zj X sc N s₀ H₀ ex pn) act (tb D)/\∀ it,compTurn (.ListComp elt (⟨tg,iter,ifs,0⟩ :: rest) sc pos) 0 it (.ref D) (zj X sc N s₀ H₀ ex pn).env=(do
   standAt iter.pos
   match <- pyNext it with
   | none=>pure (.done .next)
   | some v =>
    letOwnedTupleGo tg it v
    assign tg (zj X sc N s₀ H₀ ex pn).env v
    let mut ok:=true
    for c in ifs do
     if ok then ok <- isTrue c (zj X sc N s₀ H₀ ex pn).env (eval c (zj X sc N s₀ H₀ ex pn).env)
    if ok then
     act
    again (.compLoop (.ListComp elt (⟨tg,iter,ifs,0⟩ :: rest) sc pos) 0 it (.ref D) (zj X sc N s₀ H₀ ex pn).env)))
  (hN:X.N=NO) (hsc:X.env.scope=scO) (hs:∀ x,foldedSetIterable iter X.env x=pure x) :
  PE X (.ListComp elt (⟨tg,iter,ifs,0⟩ :: rest) sc pos) (qB wi own fr g tt tb):=by
 intro pins s σ H Q I h
 rw [eval_ListComp]
 refine wpAny_comprehension_free (use:=none) rfl hs (abc S hsc I.ok) S.kind (fun p hp hl=>zL S.snd (k:=.local) (by rw [<-hl];exact hp)) (thn (hi pins s σ H _ I h) fun v s1 h1=>thn h1 fun itv s2 h2=>?_)
 obtain⟨it,fp,tn,J,H2,e,I2,T,st2,f2,q⟩:=h2
 subst e
 refine vT (RR:=fun acc C=>compPost (model X.prog X.w) X.A X.xe none (EP X pins σ Q) acc C) S hN hsc hc hg ht hb I2 T st2 f2 q ?_
 rintro D C s' H' ⟨m,hm⟩ c0 c1 c2 c3 c4 J' q'
 exact⟨m,hm,fun h' hs'=>⟨.ref D,H',J'.touch hs' c2 c0 c1 c3 c4,rfl,q'⟩⟩
theorem aax (S:CompScope NO scO N sc own fr) (hc:X.calm=true) (hNd:X.N.Nodup) (hiN:X.N[i]?=some y) (hy:Loc X.env.scope y) (hi:PI X tg iter wi) (hg:∀ s₀ H₀ ex pn,PG (zj X sc N s₀ H₀ ex pn) tg g) (ht:∀ s₀ H₀ ex pn,PTs (zj X sc N s₀ H₀ ex pn) ifs tt)
  (hb:∀ D s₀ H₀ ex pn,∃ act,PB (zj X sc N s₀ H₀ ex pn) act (tb D)/\∀ it,compTurn (.ListComp elt (⟨tg,iter,ifs,0⟩ :: rest) sc pos) 0 it (.ref D) (zj X sc N s₀ H₀ ex pn).env=(do
   standAt iter.pos
   match <- pyNext it with
   | none=>pure (.done .next)
   | some v =>
    letOwnedTupleGo tg it v
    assign tg (zj X sc N s₀ H₀ ex pn).env v
    let mut ok:=true
    for c in ifs do
     if ok then ok <- isTrue c (zj X sc N s₀ H₀ ex pn).env (eval c (zj X sc N s₀ H₀ ex pn).env)
    if ok then
     act
    again (.compLoop (.ListComp elt (⟨tg,iter,ifs,0⟩ :: rest) sc pos) 0 it (.ref D) (zj X sc N s₀ H₀ ex pn).env)))
  (hN:X.N=NO) (hsc:X.env.scope=scO) (hs:∀ x,foldedSetIterable iter X.env x=pure x) (hf:X.fn y=true \/ X.env.scope.names.lookup y=some .local)
  (hsw:swapsWith (.ListComp elt (⟨tg,iter,ifs,0⟩ :: rest) sc pos) (some (.Name y py)) spos.line X.env=pure true) :
  PS X (.Assign [.Name y py] (.ListComp elt (⟨tg,iter,ifs,0⟩ :: rest) sc pos) spos) (y3 (qB wi own fr g tt tb) (yy i)):=by
 intro pins s σ H D I h
 rw [exec_Assign_Name_used _ _ _ _ hsw]
 refine wpAny_bind (wpAny_standAt (wpAny_bind ?_))
 show wpAny _ X.A (do let _ <- comprehension (.ListComp elt (⟨tg,iter,ifs,0⟩ :: rest) sc pos) sc X.env _ (newList []) false (eval iter X.env) (some (assign (.Name y py) X.env))) _ _ s
 refine wpAny_bind (wpAny_mono (wpAny_comprehension_free (use:=some (assign (.Name y py) X.env)) (Q:=fun _ s'=>SP X pins D .next s') rfl hs (abc S hsc I.ok) S.kind (fun p hp hl=>zL S.snd (k:=.local) (by rw [<-hl];exact hp))
  (thn (hi pins s σ H _ I h) fun v s1 h1=>thn h1 fun itv s2 h2=>?_)) (fun _ s' hq=>wpAny_pure (wpAny_pure hq)) fun _ _ e=>e)
 obtain⟨it,fp,tn,J,H2,e,I2,T,st2,f2,q⟩:=h2
 subst e
 refine vT (Q:=fun x H1=>yy i x σ H1 D.nx) (RR:=fun acc C=>compPost (model X.prog X.w) X.A X.xe (some (assign (.Name y py) X.env)) (fun _ s'=>SP X pins D .next s') acc C) S hN hsc hc hg ht hb I2 T st2 f2 q ?_
 rintro A' C s' H' ⟨m,hm⟩ c0 c1 c2 c3 c4 J' q'
 show wpAny _ X.A (assign (.Name y py) X.env (.ref A')) _ _ _
 refine wpAny_assign_Name (qT (v:=.ref A') J' hNd hiN hy rfl (fun s2' I2' hsb=>?_) hf)
 obtain⟨a,hs2,ha⟩:=hsb
 have hCa:C≠a:=by
  rcases ha with ha | ha
  ·rw [ha];exact c0
  ·exact ah5 (c1 _ _ ha)
 exact⟨m,hm.sameBut hs2 hCa,fun h' hs'=>⟨_,H',I2'.touch hs' c2 c0 c1 c3 c4,q'⟩⟩
end
end
section
variable {X:Cx} {tg elt iter tg2 iter2:Expr} {ifs ifs2:List Expr} {sc scO:Scope} {NO N:List Str} {own:Nat} {fr:List Nat} {wi wi2:TI} {g g2:TG} {tt tt2:TT} {te:TE} {pos py spos:Pos} {y:Str} {i:Nat}
theorem acx (S:CompScope NO scO N sc own fr) (hc:X.calm=true) (hi:PI X tg iter wi) (hg:∀ s₀ H₀ ex pn,PG (zj X sc N s₀ H₀ ex pn) tg g) (ht:∀ s₀ H₀ ex pn,PTs (zj X sc N s₀ H₀ ex pn) ifs tt) (he:∀ s₀ H₀ ex pn,PE (zj X sc N s₀ H₀ ex pn) elt te)
  (hN:X.N=NO) (hsc:X.env.scope=scO) (hs:∀ x,foldedSetIterable iter X.env x=pure x):PE X (.ListComp elt [⟨tg,iter,ifs,0⟩] sc pos) (qB wi own fr g tt fun D=>acw D te) :=
 adL S hc hi hg ht (fun D s₀ H₀ ex pn=>⟨_,abb (D:=D) (he s₀ H₀ ex pn),fun _=>rfl⟩) hN hsc hs
theorem j7 (S:CompScope NO scO N sc own fr) (hc:X.calm=true) (hNd:X.N.Nodup) (hiN:X.N[i]?=some y) (hy:Loc X.env.scope y) (hi:PI X tg iter wi) (hg:∀ s₀ H₀ ex pn,PG (zj X sc N s₀ H₀ ex pn) tg g) (ht:∀ s₀ H₀ ex pn,PTs (zj X sc N s₀ H₀ ex pn) ifs tt) (he:∀ s₀ H₀ ex pn,PE (zj X sc N s₀ H₀ ex pn) elt te)
  (hN:X.N=NO) (hsc:X.env.scope=scO) (hs:∀ x,foldedSetIterable iter X.env x=pure x) (hf:X.fn y=true \/ X.env.scope.names.lookup y=some .local)
  (hsw:swapsWith (.ListComp elt [⟨tg,iter,ifs,0⟩] sc pos) (some (.Name y py)) spos.line X.env=pure true) :
  PS X (.Assign [.Name y py] (.ListComp elt [⟨tg,iter,ifs,0⟩] sc pos) spos) (y3 (qB wi own fr g tt fun D=>acw D te) (yy i)) :=
 aax S hc hNd hiN hy hi hg ht (fun D s₀ H₀ ex pn=>⟨_,abb (D:=D) (he s₀ H₀ ex pn),fun _=>rfl⟩) hN hsc hs hf hsw
end
end L2
end
section
namespace L2
open PySem PySem.Spec PyProof.Rows
mutual
noncomputable def Rep (K:ags) (H:Hp):PyData->V->Prop
 | .none,v=>v=.non
 | .bool b,v=>v=.bl b
 | .int i,v=>v=.int i
 | .str x,v=>v=.str x
 | .list ds,v=>∃ a xs,v=.ref a/\SqL K H a xs/\Reps K H ds xs
 | .tuple ds,v=>∃ a xs,v=.ref a/\SqT K H a xs/\Reps K H ds xs
 | .dict _,_=>False
noncomputable def Reps (K:ags) (H:Hp):List PyData->List V->Prop
 | [],xs=>xs=[]
 | d :: ds,xs=>∃ x r,xs=x :: r/\Rep K H d x/\Reps K H ds r
end
theorem Same.seqT {K:ags} {H H':Hp} {a:Addr} {xs:List V} (e:Same H H') (h:SqT K H a xs):SqT K H' a xs:=by
 rcases h with (h | ⟨o,h⟩) | h
 ·exact .inl (.inl (e _ _ h))
 ·exact .inl (.inr ⟨o,e _ _ h⟩)
 ·exact .inr h
mutual
theorem Rep.mono {K:ags} {H H':Hp} (e:Same H H'):∀ (d:PyData) (v:V),Rep K H d v->Rep K H' d v
 | .none,_,h=>by rw [Rep] at h ⊢;exact h
 | .bool _,_,h=>by rw [Rep] at h ⊢;exact h
 | .int _,_,h=>by rw [Rep] at h ⊢;exact h
 | .str _,_,h=>by rw [Rep] at h ⊢;exact h
 | .list ds,v,h=>by
  rw [Rep] at h ⊢
  obtain⟨a,xs,h1,h2,h3⟩:=h
  exact⟨a,xs,h1,e.seq h2,Reps.mono e ds xs h3⟩
 | .tuple ds,v,h=>by
  rw [Rep] at h ⊢
  obtain⟨a,xs,h1,h2,h3⟩:=h
  exact⟨a,xs,h1,e.seqT h2,Reps.mono e ds xs h3⟩
 | .dict _,_,h=>by rw [Rep] at h;exact h.elim
theorem Reps.mono {K:ags} {H H':Hp} (e:Same H H'):∀ (ds:List PyData) (xs:List V),Reps K H ds xs->Reps K H' ds xs
 | [],_,h=>by rw [Reps] at h ⊢;exact h
 | d :: ds,xs,h=>by
  rw [Reps] at h ⊢
  obtain⟨x,r,h1,h2,h3⟩:=h
  exact⟨x,r,h1,Rep.mono e d x h2,Reps.mono e ds r h3⟩
end
theorem rep_int {K:ags} {H:Hp} {i:Int} {v:V}:Rep K H (.int i) v↔v=.int i:=by rw [Rep]
theorem rep_bool {K:ags} {H:Hp} {b:Bool} {v:V}:Rep K H (.bool b) v↔v=.bl b:=by rw [Rep]
theorem rep_none {K:ags} {H:Hp} {v:V}:Rep K H .none v↔v=.non:=by rw [Rep]
theorem rep_str {K:ags} {H:Hp} {x:Str} {v:V}:Rep K H (.str x) v↔v=.str x:=by rw [Rep]
theorem rep_list {K:ags} {H:Hp} {ds:List PyData} {v:V}:Rep K H (.list ds) v↔∃ a xs,v=.ref a/\SqL K H a xs/\Reps K H ds xs:=by rw [Rep]
theorem rep_tuple {K:ags} {H:Hp} {ds:List PyData} {v:V}:Rep K H (.tuple ds) v↔∃ a xs,v=.ref a/\SqT K H a xs/\Reps K H ds xs:=by rw [Rep]
theorem reps_nil {K:ags} {H:Hp} {xs:List V}:Reps K H [] xs↔xs=[]:=by rw [Reps]
theorem reps_cons {K:ags} {H:Hp} {d:PyData} {ds:List PyData} {xs:List V}:Reps K H (d :: ds) xs↔∃ x r,xs=x :: r/\Rep K H d x/\Reps K H ds r:=by rw [Reps]
theorem Reps.nil' {K:ags} {H:Hp}:Reps K H [] []:=reps_nil.mpr rfl
theorem Reps.cons' {K:ags} {H:Hp} {d:PyData} {ds:List PyData} {x:V} {r:List V} (h:Rep K H d x) (t:Reps K H ds r):Reps K H (d :: ds) (x :: r):=reps_cons.mpr ⟨x,r,rfl,h,t⟩
theorem Reps.length {K:ags} {H:Hp}:∀ {ds:List PyData} {xs:List V},Reps K H ds xs->xs.length=ds.length
 | [],xs,h=>by rw [reps_nil.mp h];rfl
 | d :: ds,xs,h=>by
  obtain⟨x,r,rfl,_,h3⟩:=reps_cons.mp h
  rw [agM,agM,Reps.length h3]
theorem Reps.get {K:ags} {H:Hp}:∀ {ds:List PyData} {xs:List V} {i:Nat} {d:PyData},Reps K H ds xs->ds[i]?=some d->∃ x,xs[i]?=some x/\Rep K H d x
 | [],_,_,_,_,e=>by simp at e
 | d :: ds,xs,0,d',h,e=>by
  obtain⟨x,r,rfl,h2,_⟩:=reps_cons.mp h
  simp at e;subst e
  exact⟨x,rfl,h2⟩
 | d :: ds,xs,i+1,d',h,e=>by
  obtain⟨x,r,rfl,_,h3⟩:=reps_cons.mp h
  obtain⟨y,h1,h2⟩:=Reps.get (i:=i) h3 (by simpa using e)
  exact⟨y,by simpa using h1,h2⟩
theorem Reps.snoc {K:ags} {H:Hp} {d:PyData} {x:V} (h:Rep K H d x):∀ {ds:List PyData} {xs:List V},Reps K H ds xs->Reps K H (ds++[d]) (xs++[x])
 | [],xs,t=>by rw [reps_nil.mp t];exact .cons' h .nil'
 | d' :: ds,xs,t=>by
  obtain⟨y,r,rfl,h2,h3⟩:=reps_cons.mp t
  exact .cons' h2 (Reps.snoc h h3)
theorem Reps.ints {K:ags} {H:Hp}:∀ {ns:List Int} {xs:List V},Reps K H (ns.map .int) xs->xs=ns.map V.int
 | [],xs,h=>reps_nil.mp h
 | n :: ns,xs,h=>by
  obtain⟨x,r,rfl,h2,h3⟩:=reps_cons.mp h
  rw [rep_int.mp h2,Reps.ints h3];rfl
theorem Reps.ints' {K:ags} {H:Hp}:∀ (ns:List Int),Reps K H (ns.map .int) (ns.map V.int)
 | []=>.nil'
 | n :: ns=>.cons' (rep_int.mpr rfl) (Reps.ints' ns)
section
variable {X:Cx} {pins:List (Addr×Obj)} {σ:St} {H:Hp} {s:Shared}
mutual
theorem ja (I:Inv X pins σ H s):∀ (d:PyData) (v:V) (u:Value),Rep X.K H d v->RelV v u->∃ as,Reads s.heap u d as
 | .none,v,u,h,r=>by rw [rep_none.mp h] at r;cases r;exact⟨_,.none⟩
 | .bool b,v,u,h,r=>by rw [rep_bool.mp h] at r;cases r;exact⟨_,.bool b⟩
 | .int i,v,u,h,r=>by rw [rep_int.mp h] at r;obtain⟨t,rfl⟩:=r;exact⟨_,.int i t⟩
 | .str x,v,u,h,r=>by rw [rep_str.mp h] at r;obtain⟨t,rfl⟩:=r;exact⟨_,.str x t⟩
 | .list ds,v,u,h,r=>by
  obtain⟨a,xs,rfl,h2,h3⟩:=rep_list.mp h
  cases r
  obtain⟨its,rv,p,_⟩:=I.list h2
  obtain⟨o,ho,hc,n,hd⟩:=p.isList
  obtain⟨as,ra⟩:=jb I ds xs its h3 rv
  exact⟨_,.list ho hc hd (by simpa using ra)⟩
 | .tuple ds,v,u,h,r=>by
  obtain⟨a,xs,rfl,h2,h3⟩:=rep_tuple.mp h
  cases r
  obtain⟨its,rv,p,_⟩:=I.tuple h2
  obtain⟨o,ho,hc,n,hd⟩:=p
  obtain⟨as,ra⟩:=jb I ds xs its h3 rv
  exact⟨_,.tuple ho hc hd (by simpa using ra)⟩
 | .dict _,_,_,h,_=>by rw [Rep] at h;exact h.elim
theorem jb (I:Inv X pins σ H s):∀ (ds:List PyData) (xs:List V) (us:List Value),Reps X.K H ds xs->Vals xs us->∃ as,ReadsAll s.heap us ds as
 | [],xs,us,h,r=>by rw [reps_nil.mp h] at r;cases r;exact⟨_,.nil⟩
 | d :: ds,xs,us,h,r=>by
  obtain⟨x,q,rfl,h2,h3⟩:=reps_cons.mp h
  cases r with
  | cons r1 r2 =>
   obtain⟨as,ra⟩:=ja I d x _ h2 r1
   obtain⟨bs,rb⟩:=jb I ds q _ h3 r2
   exact⟨_,.cons ra rb⟩
end
noncomputable def acy (K:ags) (neg:Bool):R2:=fun x y H Q=>∃ d d',Rep K H d x/\Rep K H d' y/\d.canLay0=true/\d'.canLay0=true/\min d.depth d'.depth<=60/\Q (.bl (if neg then !ah7 d d' else ah7 d d')) H
theorem ae4 (hu:X.A.units+64<cLine):OpR X (compareOp .Eq) (acy X.K false):=by
 intro pins s σ H x y v u Q I rx ry h
 obtain⟨d,d',h1,h2,c1,c2,hm,q⟩:=h
 obtain⟨as,ra⟩:=ja I d x v h1 rx
 obtain⟨bs,rb⟩:=ja I d' y u h2 ry
 exact SeqAt.compareEq_reads ra rb c1 c2 (by omega) ⟨.bl (ah7 d d'),H,I,rfl,q⟩
theorem ae5 (hu:X.A.units+64<cLine):OpR X (compareOp .NotEq) (acy X.K true):=by
 intro pins s σ H x y v u Q I rx ry h
 obtain⟨d,d',h1,h2,c1,c2,hm,q⟩:=h
 obtain⟨as,ra⟩:=ja I d x v h1 rx
 obtain⟨bs,rb⟩:=ja I d' y u h2 ry
 exact SeqAt.compareNe_reads ra rb c1 c2 (by omega) ⟨.bl (!ah7 d d'),H,I,rfl,q⟩
end
inductive DV where
 | dat (d:PyData)
 | feed
 | own (k:Nat)
 | exc (C:Value)
 | mon (φ:Hp->V->Prop)
noncomputable abbrev zi:=List (Option DV)
structure Fx where
 f:Option Addr
 M:List Addr
noncomputable def hide (H:Hp) (f:Fx):Hp:=fun b=>if f.f=some b \/ b∈f.M then none else H b
structure FOk (f:Fx) (H:Hp):Prop where
 fd:∀ p,f.f=some p->∃ a b:Int,H p=some (.lst [.int a,.int b])/\0<=a/\0<=b/\b<2147483647
 mm:∀ b∈f.M,∃ o,H b=some o
 nm:∀ p,f.f=some p->p∉f.M
noncomputable def RepV (K:ags) (f:Fx) (H:Hp):DV->V->Prop
 | .dat d,v=>Rep K (hide H f) d v
 | .feed,v=>∃ p,f.f=some p/\v=.ref p
 | .own k,v=>∃ p,f.M.reverse[k]?=some p/\v=.ref p
 | .exc C,v=>∃ a,v=.ref a/\hide H f a=some (.ext fun h=>∃ o,h.get? a=some o/\o.cls=C)
 | .mon φ,v=>∀ H',Same (hide H f) H'->φ H' v
structure Goes (f:Fx) (H H':Hp):Prop where
 sm:Same (hide H f) (hide H' f)
 ok:FOk f H'
 kp:∀ b∈f.M,H' b=H b
structure EnvOk (K:ags) (f:Fx) (ρ:zi) (σ:St) (H:Hp):Prop where
 len:ρ.length=σ.length
 get:∀ (i:Nat) x,ρ[i]?=some (some x)->∃ v,σ[i]?=some (some v)/\RepV K f H x v
 fd:FOk f H
theorem z8 (H:Hp):hide H ⟨none,[]⟩=H:=by funext b;unfold hide;rw [if_neg (by rintro (h | h) <;> cases h)]
theorem zq (H:Hp) (f:Fx):Same (hide H f) H:=fun b o h=>by
 unfold hide at h
 split at h
 ·cases h
 ·exact h
theorem zp {H:Hp} {f:Fx} {b:Addr} {o:HO} (h:hide H f b=some o):¬ (f.f=some b \/ b∈f.M)/\H b=some o:=by
 unfold hide at h
 split at h
 ·cases h
 ·rename_i n;exact⟨n,h⟩
theorem zk {H:Hp} {f:Fx} {b:Addr} {o:HO} (n:¬ (f.f=some b \/ b∈f.M)) (h:H b=some o):hide H f b=some o:=by unfold hide;rw [if_neg n];exact h
theorem Goes.refl {f:Fx} {H:Hp} (h:FOk f H):Goes f H H:=⟨Same.refl _,h,fun _ _=>rfl⟩
theorem Goes.trans {f:Fx} {H H1 H2:Hp} (a:Goes f H H1) (b:Goes f H1 H2):Goes f H H2:=⟨a.1.trans b.1,b.2,fun x hx=>(b.kp x hx).trans (a.kp x hx)⟩
theorem Goes.of_same {f:Fx} {H H':Hp} (s:Same H H') (h:FOk f H):Goes f H H' :=
 ⟨fun b o e=>zk (zp e).1 (s b o (zp e).2),⟨fun p e=>let⟨a,b,h1,h2⟩:=h.fd p e;⟨a,b,s _ _ h1,h2⟩,fun b hb=>let⟨o,e⟩:=h.mm b hb;⟨o,s _ _ e⟩,h.nm⟩,fun b hb=>let⟨o,e⟩:=h.mm b hb;(s _ _ e).trans e.symm⟩
theorem zJ {H:Hp} {p:Addr} (h:H p=none) (o:HO):Same H (upd H p o):=fun b u q=>by rw [zl (zA q h)];exact q
theorem RepV.mono {K:ags} {f:Fx} {H H':Hp} (g:Goes f H H'):∀ {x:DV} {v:V},RepV K f H x v->RepV K f H' x v
 | .dat d,v,h=>Rep.mono g.1 d v h
 | .feed,v,h=>h
 | .own _,v,h=>h
 | .exc _,v,h=>let⟨a,e,q⟩:=h;⟨a,e,g.1 _ _ q⟩
 | .mon _,v,h=>fun H' s=>h H' (g.1.trans s)
theorem EnvOk.mono {K:ags} {f:Fx} {ρ:zi} {σ:St} {H H':Hp} (e:EnvOk K f ρ σ H) (g:Goes f H H'):EnvOk K f ρ σ H' :=
 ⟨e.len,fun i x h=>let⟨v,h1,h2⟩:=e.get i x h;⟨v,h1,h2.mono g⟩,g.2⟩
theorem EnvOk.set {K:ags} {f:Fx} {ρ:zi} {σ:St} {H:Hp} {x:DV} {v:V} (e:EnvOk K f ρ σ H) (i:Nat) (r:RepV K f H x v):EnvOk K f (ρ.set i (some x)) (σ.set i (some v)) H:=by
 refine⟨by rw [ahA,ahA];exact e.len,fun j y h=>?_,e.fd⟩
 by_cases hj:i=j
 ·subst hj
  by_cases hi:i<ρ.length
  ·rw [ag7 hi] at h
   cases h
   exact⟨v,by rw [ag7 (by rw [<-e.len];exact hi)],r⟩
  ·rw [agR (by rw [ahA];omega)] at h;cases h
 ·rw [aho hj] at h ⊢
  exact e.get j y h
theorem fresh_ne {f:Fx} {H:Hp} {p:Addr} (h:FOk f H) (n:H p=none):¬ (f.f=some p \/ p∈f.M):=fun e=>by
 rcases e with e | e
 ·obtain⟨a,b,h1,_⟩:=h.fd p e
  rw [n] at h1;cases h1
 ·obtain⟨o,h1⟩:=h.mm p e
  rw [n] at h1;cases h1
inductive RepVs (K:ags) (f:Fx) (H:Hp):List DV->List V->Prop where
 | nil:RepVs K f H [] []
 | cons {x v xs vs}:RepV K f H x v->RepVs K f H xs vs->RepVs K f H (x :: xs) (v :: vs)
theorem RepVs.mono {K:ags} {f:Fx} {H H':Hp} (g:Goes f H H'):∀ {xs:List DV} {vs:List V},RepVs K f H xs vs->RepVs K f H' xs vs
 | _,_,.nil=>.nil
 | _,_,.cons r t=>.cons (r.mono g) (t.mono g)
theorem RepVs.length {K:ags} {f:Fx} {H:Hp}:∀ {xs:List DV} {vs:List V},RepVs K f H xs vs->vs.length=xs.length
 | _,_,.nil=>rfl
 | _,_,.cons _ t=>by rw [agM,agM,t.length]
section
variable (K:ags) (f:Fx)
noncomputable def PEd (te:TE) (ρ:zi) (P:PyData->Prop):Prop:=∀ (σ:St) (H:Hp) (Q:VK),EnvOk K f ρ σ H->(∀ d v H',Goes f H H'->Rep K (hide H' f) d v->P d->Q v H')->te σ H Q
noncomputable def PTd (tt:TT) (ρ:zi) (P:Bool->Prop):Prop:=∀ (σ:St) (H:Hp) (Q:Bool->Hp->Prop),EnvOk K f ρ σ H->(∀ b H',Goes f H H'->P b->Q b H')->tt σ H Q
noncomputable def PAd (ta:TA) (ρ:zi) (P:List DV->Prop):Prop:=∀ (σ:St) (H:Hp) (Q:List V->Hp->Prop),EnvOk K f ρ σ H->(∀ xs vs H',Goes f H H'->RepVs K f H' xs vs->P xs->Q vs H')->ta σ H Q
structure DEnds where
 nx:zi->Prop
 rt:PyData->Prop
 bk:zi->Prop:=fun _=>False
 ct:zi->Prop:=fun _=>False
noncomputable def PSd (ts:TS) (ρ:zi) (D:DEnds):Prop:=∀ (σ:St) (H:Hp) (E:Ends),EnvOk K f ρ σ H->(∀ ρ' σ' H',Goes f H H'->EnvOk K f ρ' σ' H'->D.nx ρ'->E.nx σ' H')->(∀ d v H',Goes f H H'->Rep K (hide H' f) d v->D.rt d->E.rt v H') ->
 (∀ ρ' σ' H',Goes f H H'->EnvOk K f ρ' σ' H'->D.bk ρ'->E.bk σ' H')->(∀ ρ' σ' H',Goes f H H'->EnvOk K f ρ' σ' H'->D.ct ρ'->E.ct σ' H')->ts E σ H
noncomputable def spD {γ:Type} (n:Nat) (pre:γ->List DV->Prop) (post:γ->PyData->Prop):Sp:=fun vs H Q _=>∃ f xs c,RepVs K f H xs vs/\xs.length=n/\FOk f H/\pre c xs/\∀ r v H',Goes f H H'->Rep K (hide H' f) r v->post c r->Q v H'
end
section
variable {K:ags} {f:Fx} {ρ:zi} {P:PyData->Prop} {te ta tb tc:TE}
theorem zf {i:Nat} {d:PyData} (h:ρ[i]?=some (some (.dat d))) (p:P d):PEd K f (yE i) ρ P:=fun σ H Q e q=>by
 obtain⟨v,h1,h2⟩:=e.get i _ h
 exact⟨v,h1,q d v H (.refl e.fd) h2 p⟩
theorem zr {i:Int} (p:P (.int i)):PEd K f (tC (.int i)) ρ P:=fun σ H Q e q=>q (.int i) _ H (.refl e.fd) (rep_int.mpr rfl) p
theorem abS {i:Bool} (p:P (.bool i)):PEd K f (tC (.bl i)) ρ P:=fun σ H Q e q=>q (.bool i) _ H (.refl e.fd) (rep_bool.mpr rfl) p
theorem aez (p:P .none):PEd K f (tC .non) ρ P:=fun σ H Q e q=>q .none _ H (.refl e.fd) (rep_none.mpr rfl) p
theorem PEd.imp {P':PyData->Prop} (h:PEd K f te ρ P) (i:∀ d,P d->P' d):PEd K f te ρ P':=fun σ H Q e q=>h σ H Q e fun d v H' g r p=>q d v H' g r (i d p)
theorem abT {r:R2} (h:PEd K f ta ρ fun x=>PEd K f tb ρ fun y=>∀ (v w:V) (H:Hp) (Q:VK),FOk f H->Rep K (hide H f) x v->Rep K (hide H f) y w->(∀ d u H',Goes f H H'->Rep K (hide H' f) d u->P d->Q u H')->r v w H Q):PEd K f (tOp r ta tb) ρ P:=fun σ H Q e q =>
 h σ H _ e fun x v H1 g1 r1 p1=>p1 σ H1 _ (e.mono g1) fun y w H2 g2 r2 p2=>p2 v w H2 Q g2.2 (Rep.mono g2.1 x v r1) r2 fun d u H' g' r' p'=>q d u H' (g1.trans (g2.trans g')) r' p'
theorem agg {r:V->Hp->VK->Prop} (h:PEd K f ta ρ fun x=>∀ (v:V) (H:Hp) (Q:VK),FOk f H->Rep K (hide H f) x v->(∀ d u H',Goes f H H'->Rep K (hide H' f) d u->P d->Q u H')->r v H Q):PEd K f (tUn r ta) ρ P:=fun σ H Q e q =>
 h σ H _ e fun x v H1 g1 r1 p1=>p1 v H1 Q g1.2 r1 fun d u H' g' r' p'=>q d u H' (g1.trans g') r' p'
theorem ya {g:Int->Int->Int} (h:PEd K f ta ρ fun x=>∃ i,x=.int i/\PEd K f tb ρ fun y=>∃ j,y=.int j/\P (.int (g i j))):PEd K f (tOp (rI0 fun i j=>.int (g i j)) ta tb) ρ P :=
 abT (h.imp fun x ⟨i,ex,h2⟩=>h2.imp fun y ⟨j,ey,p⟩ v w H Q fo rx ry q=>by
  subst ex ey
  exact⟨i,j,rep_int.mp rx,rep_int.mp ry,q _ _ H (.refl fo) (rep_int.mpr rfl) p⟩)
theorem yu {C:Int->Int->Prop} {g:Int->Int->Int} (h:PEd K f ta ρ fun x=>∃ i,x=.int i/\PEd K f tb ρ fun y=>∃ j,y=.int j/\C i j/\P (.int (g i j))):PEd K f (tOp (rI C fun i j=>.int (g i j)) ta tb) ρ P :=
 abT (h.imp fun x ⟨i,ex,h2⟩=>h2.imp fun y ⟨j,ey,c,p⟩ v w H Q fo rx ry q=>by
  subst ex ey
  exact⟨i,j,rep_int.mp rx,rep_int.mp ry,c,q _ _ H (.refl fo) (rep_int.mpr rfl) p⟩)
theorem aeA {g:Int->Int->Bool} (h:PEd K f ta ρ fun x=>∃ i,x=.int i/\PEd K f tb ρ fun y=>∃ j,y=.int j/\P (.bool (g i j))):PEd K f (tOp (rI0 fun i j=>.bl (g i j)) ta tb) ρ P :=
 abT (h.imp fun x ⟨i,ex,h2⟩=>h2.imp fun y ⟨j,ey,p⟩ v w H Q fo rx ry q=>by
  subst ex ey
  exact⟨i,j,rep_int.mp rx,rep_int.mp ry,q _ _ H (.refl fo) (rep_bool.mpr rfl) p⟩)
theorem jC {neg:Bool} (h:PEd K f ta ρ fun x=>PEd K f tb ρ fun y=>x.canLay0=true/\y.canLay0=true/\min x.depth y.depth<=60/\P (.bool (if neg then !ah7 x y else ah7 x y))):PEd K f (tOp (acy K neg) ta tb) ρ P :=
 abT (h.imp fun x h2=>h2.imp fun y ⟨c1,c2,c3,p⟩ v w H Q fo rx ry q =>
  ⟨x,y,Rep.mono (zq _ _) x v rx,Rep.mono (zq _ _) y w ry,c1,c2,c3,q _ _ H (.refl fo) (rep_bool.mpr rfl) p⟩)
theorem yb (h:PEd K f ta ρ fun x=>∃ ds,x=.list ds/\PEd K f tb ρ fun y=>∃ k,y=.int k/\∃ d,atI ds k=some d/\P d):PEd K f (tOp (abO K) ta tb) ρ P :=
 abT (h.imp fun x ⟨ds,ex,h2⟩=>h2.imp fun y ⟨k,ey,d,a,p⟩ v w H Q fo rx ry q=>by
  subst ex ey
  obtain⟨l,xs,rfl,hs,hr⟩:=rep_list.mp rx
  unfold atI at a
  cases hi:ixN ds.length k with
  | none=>rw [hi] at a;cases a
  | some j =>
   rw [hi] at a
   obtain⟨u,hu,ru⟩:=hr.get a
   exact⟨l,xs,k,u,rfl,rep_int.mp ry,(zq H f).seq hs,by unfold atI;rw [hr.length,hi];exact hu,q d u H (.refl fo) ru p⟩)
theorem aeB (h:PEd K f ta ρ fun x=>∃ ds,x=.tuple ds/\PEd K f tb ρ fun y=>∃ k,y=.int k/\∃ d,atI ds k=some d/\P d):PEd K f (tOp (abP K) ta tb) ρ P :=
 abT (h.imp fun x ⟨ds,ex,h2⟩=>h2.imp fun y ⟨k,ey,d,a,p⟩ v w H Q fo rx ry q=>by
  subst ex ey
  obtain⟨l,xs,rfl,hs,hr⟩:=rep_tuple.mp rx
  unfold atI at a
  cases hi:ixN ds.length k with
  | none=>rw [hi] at a;cases a
  | some j =>
   rw [hi] at a
   obtain⟨u,hu,ru⟩:=hr.get a
   exact⟨l,xs,k,u,rfl,rep_int.mp ry,(zq H f).seqT hs,by unfold atI;rw [hr.length,hi];exact hu,q d u H (.refl fo) ru p⟩)
theorem afO {i:Nat} (hi:ρ[i]?=some (some .feed)) (h:PEd K f tb ρ fun y=>(y=.int 0/\∀ a:Int,0<=a->P (.int a)) \/ (y=.int 1/\∀ b:Int,0<=b->b<2147483647->P (.int b))):PEd K f (tOp (abO K) (yE i) tb) ρ P:=fun σ H Q e q=>by
 obtain⟨v,h1,p,ef,ev⟩:=e.get i _ hi
 refine⟨v,h1,h σ H _ e fun y w H' g r c=>?_⟩
 obtain⟨a,b,hf,c1,c2,c3⟩:=g.2.fd p ef
 rcases c with⟨rfl,c⟩ | ⟨rfl,c⟩
 ·exact⟨p,_,0,.int a,ev,rep_int.mp r,SqL.of hf,rfl,q (.int a) _ H' g (rep_int.mpr rfl) (c a c1)⟩
 ·exact⟨p,_,1,.int b,ev,rep_int.mp r,SqL.of hf,rfl,q (.int b) _ H' g (rep_int.mpr rfl) (c b c2 c3)⟩
theorem zz {R:List DV->Prop} (p:R []):PAd K f ju ρ R:=fun σ H Q e q=>q [] [] H (.refl e.fd) .nil p
theorem zc {R:List DV->Prop} {u:TA} (h:PEd K f te ρ fun x=>PAd K f u ρ fun xs=>R (.dat x :: xs)):PAd K f (zY te u) ρ R:=fun σ H Q e q =>
 h σ H _ e fun x v H1 g1 r1 p1=>p1 σ H1 _ (e.mono g1) fun xs vs H2 g2 r2 p2=>q (.dat x :: xs) (v :: vs) H2 (g1.trans g2) (.cons (RepV.mono (x:=.dat x) g2 r1) r2) p2
theorem aay {R:List DV->Prop} {u:TA} {i:Nat} (hi:ρ[i]?=some (some .feed)) (h:PAd K f u ρ fun xs=>R (.feed :: xs)):PAd K f (zY (yE i) u) ρ R:=fun σ H Q e q=>by
 obtain⟨v,h1,h2⟩:=e.get i _ hi
 exact⟨v,h1,h σ H _ e fun xs vs H2 g2 r2 p2=>q (.feed :: xs) (v :: vs) H2 g2 (.cons (RepV.mono (x:=.feed) g2 h2) r2) p2⟩
noncomputable def yR:List DV->Option (List PyData)
 | []=>some []
 | .dat d :: r=>(yR r).map (d :: ·)
 | .feed :: _=>none
 | .own _ :: _=>none
 | .exc _ :: _=>none
 | .mon _ :: _=>none
theorem jk {H:Hp}:∀ {xs:List DV} {vs:List V} {ds:List PyData},RepVs K f H xs vs->yR xs=some ds->Reps K (hide H f) ds vs
 | _,_,ds,.nil,e=>by cases e;exact .nil'
 | .dat d :: xs,v :: vs,ds,.cons r t,e=>by
  unfold yR at e
  cases q:yR xs with
  | none=>rw [q] at e;cases e
  | some es=>rw [q] at e;cases e;exact .cons' r (jk t q)
 | .feed :: xs,_,ds,.cons r t,e=>by cases e
 | .own _ :: xs,_,ds,.cons r t,e=>by cases e
 | .exc _ :: xs,_,ds,.cons r t,e=>by cases e
 | .mon _ :: xs,_,ds,.cons r t,e=>by cases e
theorem j8 {t:TA} (h:PAd K f t ρ fun xs=>∃ ds,yR xs=some ds/\ds.length<=1000/\P (.list ds)):PEd K f (acs t) ρ P:=fun σ H Q e q =>
 h σ H _ e fun xs vs H1 g1 r1 ⟨ds,ea,hl,p⟩=>by
  have rs:=jk r1 ea
  refine⟨by rw [rs.length];exact ahB (zW hl),fun l hn=>?_⟩
  have sm:=zJ hn (.lst vs)
  have g2:Goes f H1 (upd H1 l (.lst vs)):=.of_same sm g1.2
  exact q (.list ds) _ _ (g1.trans g2) (rep_list.mpr ⟨l,vs,rfl,.of (zk (fresh_ne g1.2 hn) zo),Reps.mono g2.1 ds vs rs⟩) p
theorem abd {t:TA} (h:PAd K f t ρ fun xs=>∃ ds,yR xs=some ds/\ds.length<=1000/\P (.tuple ds)):PEd K f (adE t) ρ P:=fun σ H Q e q =>
 h σ H _ e fun xs vs H1 g1 r1 ⟨ds,ea,hl,p⟩=>by
  have rs:=jk r1 ea
  refine⟨by rw [rs.length];exact ahB (zW hl),fun l hn=>?_⟩
  have sm:=zJ hn (.tup vs)
  have g2:Goes f H1 (upd H1 l (.tup vs)):=.of_same sm g1.2
  exact q (.tuple ds) _ _ (g1.trans g2) (rep_tuple.mpr ⟨l,vs,rfl,.of (zk (fresh_ne g1.2 hn) zo),Reps.mono g2.1 ds vs rs⟩) p
theorem zR {γ:Type} {n:Nat} {pre:γ->List DV->Prop} {post:γ->PyData->Prop} {E:XK} {t:TA} (c:γ) (h:PAd K f t ρ fun xs=>xs.length=n/\pre c xs/\∀ r,post c r->P r):PEd K f (qz (spD K n pre post) [] E t) ρ P:=fun σ H Q e q =>
 h σ H _ e fun xs vs H1 g1 r1 ⟨hl,hp,k⟩=>by
  refine⟨f,xs,c,by rw [ahq];exact r1,hl,g1.2,hp,fun r v H' g' r' p'=>q r v H' (g1.trans g') r' (k r p')⟩
theorem acz {r:List V->Hp->VK->Prop} {t:TA} (h:PAd K f t ρ fun xs=>∃ ds,yR xs=some ds/\∀ (vs:List V) (H:Hp) (Q:VK),FOk f H->Reps K (hide H f) ds vs->(∀ d u H',Goes f H H'->Rep K (hide H' f) d u->P d->Q u H')->r vs H Q):PEd K f (tCB r t) ρ P:=fun σ H Q e q =>
 h σ H _ e fun xs vs H1 g1 r1 ⟨ds,ea,k⟩=>k vs H1 Q g1.2 (jk r1 ea) fun d u H' g' r' p'=>q d u H' (g1.trans g') r' p'
end
section
variable {K:ags} {f:Fx} {ρ:zi} {P:PyData->Prop} {B:Bool->Prop} {te ta tb tc:TE} {tt tu:TT}
theorem PTd.imp {B':Bool->Prop} (h:PTd K f tt ρ B) (i:∀ d,B d->B' d):PTd K f tt ρ B':=fun σ H Q e q=>h σ H Q e fun d H' g p=>q d H' g (i d p)
theorem yv (h:PEd K f te ρ fun d=>∃ k,d=.bool k/\B k):PTd K f (aew te) ρ B:=fun σ H Q e q=>h σ H _ e fun d v H' g r ⟨k,ed,p⟩=>by
 subst ed
 exact⟨k,rep_bool.mp r,q k H' g p⟩
theorem aeC (h:PTd K f tt ρ fun c=>if c=true then PTd K f tu ρ B else B false):PTd K f (afF tt tu) ρ B:=fun σ H Q e q=>h σ H _ e fun c H1 g p=>by
 cases c with
 | true =>
  rw [if_pos rfl] at p ⊢
  exact p σ H1 Q (e.mono g) fun b H2 g2 p2=>q b H2 (g.trans g2) p2
 | false =>
  rw [if_neg agz] at p ⊢
  exact q false H1 g p
theorem aaz (h:PTd K f tt ρ fun c=>if c=true then B true else PTd K f tu ρ B):PTd K f (tOr tt tu) ρ B:=fun σ H Q e q=>h σ H _ e fun c H1 g p=>by
 cases c with
 | true =>
  rw [if_pos rfl] at p ⊢
  exact q true H1 g p
 | false =>
  rw [if_neg agz] at p ⊢
  exact p σ H1 Q (e.mono g) fun b H2 g2 p2=>q b H2 (g.trans g2) p2
theorem qC (h:PTd K f tt ρ fun c=>B (!c)):PTd K f (afG tt) ρ B:=fun σ H Q e q=>h σ H _ e fun c H1 g p=>q (!c) H1 g p
noncomputable def agh:PyData->Option Bool
 | .none=>some false
 | .bool b=>some b
 | .int i=>some (i != 0)
 | .list ds=>some (!ds.isEmpty)
 | .tuple ds=>some (!ds.isEmpty)
 | _=>none
noncomputable def ae6 (K:ags) (ta:TE):TT:=fun σ H Q=>ta σ H fun x H'=>∃ k,aeZ K x H' k/\Q k H'
theorem ae7 {X:Cx} {a:Expr} (ha:PE X a ta) (he:∀ whole,isTrue a X.env whole=(do let v <- whole;standAt a.pos;holding [v] (truthy v))):PT X a (ae6 X.K ta):=acq ha he
theorem jq (h:PEd K f ta ρ fun d=>∃ k,agh d=some k/\B k):PTd K f (ae6 K ta) ρ B:=fun σ H Q e q=>h σ H _ e fun d v H' g r ⟨k,ed,p⟩=>by
 refine⟨k,?_,q k H' g p⟩
 cases d with
 | none=>rw [rep_none.mp r];cases ed;rfl
 | bool b=>rw [rep_bool.mp r];cases ed;rfl
 | int i=>rw [rep_int.mp r];cases ed;rfl
 | str x=>cases ed
 | list ds =>
  obtain⟨a,xs,rfl,h1,h2⟩:=rep_list.mp r
  cases ed
  refine .inl ⟨xs,(zq _ _).seq h1,?_⟩
  cases ds with
  | nil=>rw [reps_nil.mp h2];rfl
  | cons d ds=>obtain⟨x,r,rfl,_⟩:=reps_cons.mp h2;rfl
 | tuple ds =>
  obtain⟨a,xs,rfl,h1,h2⟩:=rep_tuple.mp r
  cases ed
  refine .inr (.inl ⟨xs,(zq _ _).seqT h1,?_⟩)
  cases ds with
  | nil=>rw [reps_nil.mp h2];rfl
  | cons d ds=>obtain⟨x,r,rfl,_⟩:=reps_cons.mp h2;rfl
 | dict _=>cases ed
theorem jc {t:TA} (h:PAd K f t ρ fun xs=>(∃ ds,xs=[.dat (.list ds)]/\P (.int ds.length)) \/ (∃ ds,xs=[.dat (.tuple ds)]/\P (.int ds.length))) :
  PEd K f (tCB (fun xs H Q=>∃ p ys,xs=[.ref p]/\(SqL K H p ys \/ SqT K H p ys)/\Q (.int ys.length) H) t) ρ P :=
 acz fun σ H Q e q=>h σ H Q e fun xs vs H' g r p=>by
  rcases p with⟨ds,rfl,p⟩ | ⟨ds,rfl,p⟩
  ·refine q _ vs H' g r ⟨_,rfl,fun vs H Q fo rs k=>?_⟩
   obtain⟨x,r,rfl,h2,h3⟩:=reps_cons.mp rs
   rw [reps_nil.mp h3]
   obtain⟨a,ys,rfl,s1,s2⟩:=rep_list.mp h2
   exact⟨a,ys,rfl,.inl ((zq _ _).seq s1),k (.int ds.length) _ H (.refl fo) (rep_int.mpr (by rw [s2.length])) p⟩
  ·refine q _ vs H' g r ⟨_,rfl,fun vs H Q fo rs k=>?_⟩
   obtain⟨x,r,rfl,h2,h3⟩:=reps_cons.mp rs
   rw [reps_nil.mp h3]
   obtain⟨a,ys,rfl,s1,s2⟩:=rep_tuple.mp h2
   exact⟨a,ys,rfl,.inr ((zq _ _).seqT s1),k (.int ds.length) _ H (.refl fo) (rep_int.mpr (by rw [s2.length])) p⟩
theorem ae8 {g:Int->Int->Int} {t:TA} (h:PAd K f t ρ fun xs=>∃ i j,xs=[.dat (.int i),.dat (.int j)]/\P (.int (g i j))):PEd K f (tCB (fun xs H Q=>∃ i j,xs=[.int i,.int j]/\Q (.int (g i j)) H) t) ρ P :=
 acz fun σ H Q e q=>h σ H Q e fun xs vs H' g' r ⟨i,j,ex,p⟩=>by
  subst ex
  refine q _ vs H' g' r ⟨_,rfl,fun vs H Q fo rs k=>?_⟩
  obtain⟨x,r,rfl,h2,h3⟩:=reps_cons.mp rs
  obtain⟨y,r',rfl,h4,h5⟩:=reps_cons.mp h3
  rw [reps_nil.mp h5,rep_int.mp h2,rep_int.mp h4]
  exact⟨i,j,rfl,k _ _ H (.refl fo) (rep_int.mpr rfl) p⟩
theorem ae9 {g:Int->Int} {t:TA} (h:PAd K f t ρ fun xs=>∃ i,xs=[.dat (.int i)]/\P (.int (g i))):PEd K f (tCB (fun xs H Q=>∃ i,xs=[.int i]/\Q (.int (g i)) H) t) ρ P :=
 acz fun σ H Q e q=>h σ H Q e fun xs vs H' g' r ⟨i,ex,p⟩=>by
  subst ex
  refine q _ vs H' g' r ⟨_,rfl,fun vs H Q fo rs k=>?_⟩
  obtain⟨x,r,rfl,h2,h3⟩:=reps_cons.mp rs
  rw [reps_nil.mp h3,rep_int.mp h2]
  exact⟨i,rfl,k _ _ H (.refl fo) (rep_int.mpr rfl) p⟩
theorem acA {t:TA} (h:PAd K f t ρ fun xs=>(∃ ds,xs=[.dat (.list ds)]/\P (.list ds)) \/ (∃ ds,xs=[.dat (.tuple ds)]/\P (.list ds))) :
  PEd K f (tCB (fun xs H Q=>∃ p ys,xs=[.ref p]/\(SqL K H p ys \/ SqT K H p ys)/\∀ l,H l=none->Q (.ref l) (upd H l (.lst ys))) t) ρ P :=
 acz fun σ H Q e q=>h σ H Q e fun xs vs H' g r p=>by
  rcases p with⟨ds,rfl,p⟩ | ⟨ds,rfl,p⟩
  ·refine q _ vs H' g r ⟨_,rfl,fun vs H Q fo rs k=>?_⟩
   obtain⟨x,r,rfl,h2,h3⟩:=reps_cons.mp rs
   rw [reps_nil.mp h3]
   obtain⟨a,ys,rfl,s1,s2⟩:=rep_list.mp h2
   refine⟨a,ys,rfl,.inl ((zq _ _).seq s1),fun l hn=>?_⟩
   have g2:Goes f H (upd H l (.lst ys)):=.of_same (zJ hn _) fo
   exact k (.list ds) _ _ g2 (rep_list.mpr ⟨l,ys,rfl,.of (zk (fresh_ne fo hn) zo),Reps.mono g2.1 ds ys s2⟩) p
  ·refine q _ vs H' g r ⟨_,rfl,fun vs H Q fo rs k=>?_⟩
   obtain⟨x,r,rfl,h2,h3⟩:=reps_cons.mp rs
   rw [reps_nil.mp h3]
   obtain⟨a,ys,rfl,s1,s2⟩:=rep_tuple.mp h2
   refine⟨a,ys,rfl,.inr ((zq _ _).seqT s1),fun l hn=>?_⟩
   have g2:Goes f H (upd H l (.lst ys)):=.of_same (zJ hn _) fo
   exact k (.list ds) _ _ g2 (rep_list.mpr ⟨l,ys,rfl,.of (zk (fresh_ne fo hn) zo),Reps.mono g2.1 ds ys s2⟩) p
end
section
variable {K:ags} {f:Fx} {ρ:zi} {D:DEnds} {te ta tb:TE} {tt:TT} {ts tu:TS}
theorem j9 (p:D.nx ρ):PSd K f aa3 ρ D:=fun σ H E e n _ _ _=>n ρ σ H (.refl e.fd) e p
theorem yz (h:PSd K f ts ρ { D with nx:=fun ρ'=>PSd K f tu ρ' D }):PSd K f (jt ts tu) ρ D:=fun σ H E e n r b c =>
 h σ H { E with nx:=tu E } e (fun ρ' σ' H' g e' p=>p σ' H' E e' (fun ρ'' σ'' H'' g' e'' p'=>n ρ'' σ'' H'' (g.trans g') e'' p') (fun d v H'' g' r' p'=>r d v H'' (g.trans g') r' p') (fun ρ'' σ'' H'' g' e'' p'=>b ρ'' σ'' H'' (g.trans g') e'' p') (fun ρ'' σ'' H'' g' e'' p'=>c ρ'' σ'' H'' (g.trans g') e'' p')) r b c
theorem qe (h:PEd K f te ρ D.rt):PSd K f (abG te) ρ D:=fun σ H E e n r b c=>h σ H _ e r
theorem vU (h:PTd K f tt ρ fun b=>if b=true then PSd K f ts ρ D else PSd K f tu ρ D):PSd K f (ady tt ts tu) ρ D:=fun σ H E e n r b c=>h σ H _ e fun k H1 g p=>by
 cases k with
 | true =>
  rw [if_pos rfl] at p ⊢
  exact p σ H1 E (e.mono g) (fun ρ'' σ'' H'' g' e'' p'=>n ρ'' σ'' H'' (g.trans g') e'' p') (fun d v H'' g' r' p'=>r d v H'' (g.trans g') r' p') (fun ρ'' σ'' H'' g' e'' p'=>b ρ'' σ'' H'' (g.trans g') e'' p') (fun ρ'' σ'' H'' g' e'' p'=>c ρ'' σ'' H'' (g.trans g') e'' p')
 | false =>
  rw [if_neg agz] at p ⊢
  exact p σ H1 E (e.mono g) (fun ρ'' σ'' H'' g' e'' p'=>n ρ'' σ'' H'' (g.trans g') e'' p') (fun d v H'' g' r' p'=>r d v H'' (g.trans g') r' p') (fun ρ'' σ'' H'' g' e'' p'=>b ρ'' σ'' H'' (g.trans g') e'' p') (fun ρ'' σ'' H'' g' e'' p'=>c ρ'' σ'' H'' (g.trans g') e'' p')
noncomputable def PGd (K:ags) (f:Fx) (g:TG) (d:PyData) (ρ:zi) (R:zi->Prop):Prop:=∀ (σ:St) (H:Hp) (v:V) (Q:St->Hp->Prop),EnvOk K f ρ σ H->Rep K (hide H f) d v->(∀ ρ' σ' H',Goes f H H'->EnvOk K f ρ' σ' H'->R ρ'->Q σ' H')->g v σ H Q
noncomputable def adM (K:ags) (f:Fx) (g:TGs) (ds:List PyData) (ρ:zi) (R:zi->Prop):Prop:=∀ (σ:St) (H:Hp) (vs:List V) (Q:St->Hp->Prop),EnvOk K f ρ σ H->Reps K (hide H f) ds vs->(∀ ρ' σ' H',Goes f H H'->EnvOk K f ρ' σ' H'->R ρ'->Q σ' H')->g vs σ H Q
theorem zu {i:Nat} {d:PyData} {R:zi->Prop} (h:R (ρ.set i (some (.dat d)))):PGd K f (yy i) d ρ R:=fun σ H v Q e r q=>q _ _ H (.refl e.fd) (e.set i (x:=.dat d) r) h
theorem qD {R:zi->Prop} (h:R ρ):adM K f afI [] ρ R:=fun σ H vs Q e r q=>⟨reps_nil.mp r,q ρ σ H (.refl e.fd) e h⟩
theorem ym {g:TG} {gs:TGs} {d:PyData} {ds:List PyData} {R:zi->Prop} (h:PGd K f g d ρ fun ρ'=>adM K f gs ds ρ' R):adM K f (aer g gs) (d :: ds) ρ R:=fun σ H vs Q e r q=>by
 obtain⟨x,r',rfl,h2,h3⟩:=reps_cons.mp r
 exact⟨x,r',rfl,h σ H x _ e h2 fun ρ' σ' H' g' e' p=>p σ' H' r' Q e' (Reps.mono g'.1 ds r' h3) fun ρ'' σ'' H'' g'' e'' p'=>q ρ'' σ'' H'' (g'.trans g'') e'' p'⟩
theorem vV {n:Nat} {gs:TGs} {ds:List PyData} {R:zi->Prop} (hn:ds.length=n) (h:adM K f gs ds ρ R):PGd K f (aeV K n gs) (.tuple ds) ρ R:=fun σ H v Q e r q=>by
 obtain⟨a,xs,rfl,h1,h2⟩:=rep_tuple.mp r
 exact⟨a,xs,rfl,(zq _ _).seqT h1,by rw [h2.length];exact hn,h σ H xs Q e h2 q⟩
theorem y2 {g:TG} (h:PEd K f te ρ fun d=>PGd K f g d ρ D.nx):PSd K f (y3 te g) ρ D:=fun σ H E e n r b c =>
 h σ H _ e fun d v H1 g1 r1 p1=>p1 σ H1 v _ (e.mono g1) r1 fun ρ' σ' H' g' e' p'=>n ρ' σ' H' (g1.trans g') e' p'
end
end L2
end
section
namespace L2
open PySem PySem.Spec PyProof.Rows
noncomputable def frD (fr:List Nat) (ρ:zi):zi:=fr.map fun j=>(ρ[j]?).getD none
noncomputable def qE (own:Nat) (fr:List Nat) (ρ:zi):zi:=ahW own none++frD fr ρ
noncomputable abbrev Fx.with (f:Fx) (D:Addr):Fx:=⟨f.f,D :: f.M⟩
section
variable {K:ags} {f:Fx} {ρ:zi} {σ:St} {H H':Hp} {D:Addr} {o:HO}
theorem abU {own:Nat} {fr:List Nat} (e:EnvOk K f ρ σ H):EnvOk K f (qE own fr ρ) (yi own fr σ) H:=by
 refine⟨by unfold qE yi frD;simp,fun i x h=>?_,e.fd⟩
 unfold qE frD at h
 unfold yi
 by_cases hi:i<own
 ·rw [agx (by simpa using hi),ahK] at h
  split at h <;> cases h
 ·rw [agA (by simpa using hi)] at h ⊢
  simp only [aii,agy] at h ⊢
  cases hj:fr[i - own]? with
  | none=>rw [hj] at h;cases h
  | some j =>
   rw [hj] at h
   have h':(ρ[j]?).getD none=some x:=Option.some.inj h
   have hρ:ρ[j]?=some (some x):=by
    cases q:ρ[j]? with
    | none=>rw [q] at h';cases h'
    | some w=>rw [q] at h';exact congrArg some h'
   obtain⟨v,h1,h2⟩:=e.get j x hρ
   exact⟨v,by simp [h1],h2⟩
theorem z6:hide (upd H D o) (f.with D)=hide H (f.with D):=by
 funext b
 unfold hide
 by_cases hb:f.f=some b \/ b∈D :: f.M
 ·rw [if_pos hb,if_pos hb]
 ·rw [if_neg hb,if_neg hb]
  have:b≠D:=fun z=>hb (.inr (z▸agD))
  exact zl this
theorem same_with:Same (hide H (f.with D)) (hide H f):=fun b o h=>by
 obtain⟨h1,h2⟩:=zp h
 exact zk (fun z=>h1 (z.elim .inl fun z=>.inr (agw _ z))) h2
theorem jD (hn:H D=none):Same (hide H f) (hide (upd H D o) (f.with D)):=fun b u h=>by
 obtain⟨h1,h2⟩:=zp h
 have hb:b≠D:=zA h2 hn
 exact zk (fun z=>z.elim (fun z=>h1 (.inl z)) fun z=>(agC.mp z).elim hb fun z=>h1 (.inr z)) (by rw [zl hb];exact h2)
theorem afa (h:FOk f H) (hn:H D=none):FOk (f.with D) (upd H D o) :=
 ⟨fun p e=>let⟨a,b,h1,h2⟩:=h.fd p e;⟨a,b,by rw [zl (zA h1 hn)];exact h1,h2⟩,fun b hb=>by
  rcases agC.mp hb with rfl | hb
  ·exact⟨_,zo⟩
  ·obtain⟨o',h1⟩:=h.mm b hb
   exact⟨o',by rw [zl (zA h1 hn)];exact h1⟩,fun p e hp=>by
  rcases agC.mp hp with rfl | hp
  ·exact fresh_ne h hn (.inl e)
  ·exact h.nm p e hp⟩
theorem afb (e:EnvOk K f ρ σ H) (hn:H D=none):EnvOk K (f.with D) ρ σ (upd H D o) :=
 ⟨e.len,fun i x h=>let⟨v,h1,h2⟩:=e.get i x h;⟨v,h1,by
  cases x with
  | dat d=>exact Rep.mono (jD hn) d v h2
  | feed=>exact h2
  | own k =>
   obtain⟨p,h3,h4⟩:=h2
   refine⟨p,?_,h4⟩
   show (D :: f.M).reverse[k]?=some p
   rw [agU,agx (agu.mp h3).1]
   exact h3
  | exc C =>
   obtain⟨a,h3,h4⟩:=h2
   exact⟨a,h3,jD hn _ _ h4⟩
  | mon φ=>exact fun H' s=>h2 H' ((jD hn).trans s)⟩,afa e.fd hn⟩
theorem adN (hD:f.f≠some D) (e:EnvOk K (f.with D) ρ σ H):EnvOk K (f.with D) ρ σ (upd H D o) :=
 ⟨e.len,fun i x h=>let⟨v,h1,h2⟩:=e.get i x h;⟨v,h1,by
  cases x with
  | dat d =>
   have h2':Rep K (hide H (f.with D)) d v:=h2
   show Rep K (hide (upd H D o) (f.with D)) d v
   rw [z6];exact h2'
  | feed=>exact h2
  | own k=>exact h2
  | exc C =>
   obtain⟨a,h3,h4⟩:=h2
   refine⟨a,h3,?_⟩
   rw [z6]
   exact h4
  | mon φ =>
   intro H' s
   rw [z6] at s
   exact h2 H' s⟩,⟨fun p ep=>let⟨a,b,h1,h2⟩:=e.fd.fd p ep;⟨a,b,by rw [zl (fun z=>hD (by rw [<-z];exact ep))];exact h1,h2⟩,fun b hb=>by
   by_cases hb':b=D
   ·subst hb';exact⟨_,zo⟩
   ·rw [zl hb'];exact e.fd.mm b hb,e.fd.nm⟩⟩
end
section
variable {K:ags} {f:Fx} {ρ:zi} {P:PyData->Prop} {te tl:TE} {tt:TT} {g:TG} {own:Nat} {fr:List Nat}
structure CSt (K:ags) (f:Fx) (D:Addr) (H2:Hp) (ρ':zi) (es:List PyData) (σ:St) (H:Hp):Prop where
 env:EnvOk K (f.with D) ρ' σ H
 sm:Same (hide H2 (f.with D)) (hide H (f.with D))
 kp:∀ b∈f.M,H b=H2 b
 lst:∃ vs,H D=some (.lst vs)/\Reps K (hide H (f.with D)) es vs
theorem CSt.go {D:Addr} {H2 H H':Hp} {ρ':zi} {es:List PyData} {σ:St} (c:CSt K f D H2 ρ' es σ H) (gg:Goes (f.with D) H H') {ρ2:zi} {σ2:St} (e2:EnvOk K (f.with D) ρ2 σ2 H'):CSt K f D H2 ρ2 es σ2 H' :=
 ⟨e2,c.sm.trans gg.sm,fun b hb=>(gg.kp b (agw _ hb)).trans (c.kp b hb),let⟨vs,h1,h2⟩:=c.lst;⟨vs,(gg.kp D agD).trans h1,Reps.mono gg.sm es vs h2⟩⟩
theorem CSt.put {D:Addr} {H2 H:Hp} {ρ':zi} {es:List PyData} {σ:St} {d:PyData} {v:V} {vs:List V} (hD:f.f≠some D) (hM:D∉f.M) (c:CSt K f D H2 ρ' es σ H) (h1:H D=some (.lst vs)) (h2:Reps K (hide H (f.with D)) es vs) (r:Rep K (hide H (f.with D)) d v) :
  CSt K f D H2 ρ' (es++[d]) σ (upd H D (.lst (vs++[v]))) :=
 ⟨adN hD c.env,by rw [z6];exact c.sm,fun b hb=>(zl (fun (z:b=D)=>hM (z▸hb))).trans (c.kp b hb),⟨_,zo,by rw [z6];exact h2.snoc r⟩⟩
theorem acB {D:Addr} {H1 H:Hp} {ρ':zi} {es:List PyData} {σ σ':St} (hn:H1 D=none) (fo:FOk f H1) (c:CSt K f D (upd H1 D (.lst [])) ρ' es σ H):Goes f H1 H/\Rep K (hide H f) (.list es) (.ref D):=by
 obtain⟨vs,h1,h2⟩:=c.lst
 have nD:=fresh_ne fo hn
 refine⟨⟨((jD hn).trans c.sm).trans same_with,⟨c.env.fd.fd,fun b hb=>c.env.fd.mm b (agw _ hb),fun p e hp=>c.env.fd.nm p e (agw _ hp)⟩,fun b hb=>?_⟩,rep_list.mpr ⟨D,vs,rfl,.of (zk nD h1),Reps.mono same_with es vs h2⟩⟩
 rw [c.kp b hb,zl]
 obtain⟨o,h3⟩:=fo.mm b hb
 exact zA h3 hn
theorem aaA {D:Addr} {H1:Hp} {σ:St} (hn:H1 D=none) (e:EnvOk K f ρ σ H1):CSt K f D (upd H1 D (.lst [])) (qE own fr ρ) [] (yi own fr σ) (upd H1 D (.lst [])) :=
 ⟨afb (abU e) hn,Same.refl _,fun _ _=>rfl,⟨[],zo,.nil'⟩⟩
end
section
variable {K:ags} {f:Fx} {ρ:zi} {D:DEnds} {te:TE} {i:Nat}
theorem vW {σ:St} {H:Hp} {p:Addr} {a b:Int} (e:EnvOk K f ρ σ H) (ef:f.f=some p) (h0:0<=a) (h1:0<=b) (h2:b<2147483647):Goes f H (upd H p (.lst [.int a,.int b])) :=
 have hM:=e.fd.nm p ef
 ⟨fun x o h=>by
  obtain⟨n,hx⟩:=zp h
  exact zk n (by rw [zl (fun z=>n (.inl (by rw [z];exact ef)))];exact hx),
 ⟨fun q eq=>by
   rw [ef] at eq;cases eq
   exact⟨a,b,zo,h0,h1,h2⟩,fun x hx=>by
   by_cases hxp:x=p
   ·subst hxp;exact absurd hx hM
   ·rw [zl hxp];exact e.fd.mm x hx,e.fd.nm⟩,
fun x hx=>zl (fun z=>hM (z▸hx))⟩
theorem adO (hi:ρ[i]?=some (some .feed)) (h:PEd K f te ρ fun d=>∃ a:Int,d=.int a/\0<=a/\D.nx ρ):PSd K f (y3 te (abH (yE i) (tC (.int 0)) va)) ρ D:=fun σ H E e n r b c=>h σ H _ e fun d v H1 g1 r1 ⟨a,ed,h0,p⟩=>by
 subst ed
 obtain⟨u,h1,q,ef,eu⟩:=e.get i _ hi
 obtain⟨a',b',hf,c1,c2,c3⟩:=g1.2.fd q ef
 refine⟨u,h1,q,_,0,0,eu,rfl,hf,rfl,?_⟩
 rw [rep_int.mp r1]
 have g2:Goes f H1 (upd H1 q (.lst [.int a,.int b'])):=vW (e.mono g1) ef h0 c2 c3
 exact n ρ σ _ (g1.trans g2) ((e.mono g1).mono g2) p
theorem adP (hi:ρ[i]?=some (some .feed)) (h:PEd K f te ρ fun d=>∃ a:Int,d=.int a/\0<=a/\a<2147483647/\D.nx ρ):PSd K f (y3 te (abH (yE i) (tC (.int 1)) va)) ρ D:=fun σ H E e n r b c=>h σ H _ e fun d v H1 g1 r1 ⟨a,ed,h0,h0',p⟩=>by
 subst ed
 obtain⟨u,h1,q,ef,eu⟩:=e.get i _ hi
 obtain⟨a',b',hf,c1,c2,c3⟩:=g1.2.fd q ef
 refine⟨u,h1,q,_,1,1,eu,rfl,hf,rfl,?_⟩
 rw [rep_int.mp r1]
 have g2:Goes f H1 (upd H1 q (.lst [.int a',.int a])):=vW (e.mono g1) ef c1 h0 h0'
 exact n ρ σ _ (g1.trans g2) ((e.mono g1).mono g2) p
end
noncomputable def yS (N:List Str) (xs:List DV):zi:=xs.map some++ahW (N.length - xs.length) none
theorem yK {K:ags} {f:Fx} {H:Hp} {N:List Str} {xs:List DV} {vs:List V} (r:RepVs K f H xs vs) (fo:FOk f H):EnvOk K f (yS N xs) (start N vs) H:=by
 have hl:=r.length
 refine⟨by unfold yS start;simp [hl],fun i x h=>?_,fo⟩
 unfold yS at h
 unfold start
 have get:∀ {xs:List DV} {vs:List V} {i:Nat} {x:DV},RepVs K f H xs vs->xs[i]?=some x->∃ v,vs[i]?=some v/\RepV K f H x v:=by
  intro xs vs i x r
  induction r generalizing i with
  | nil=>intro h;simp at h
  | cons r1 r2 ih =>
   intro h
   cases i with
   | zero=>simp at h;subst h;exact⟨_,rfl,r1⟩
   | succ i=>simp at h;obtain⟨v,h1,h2⟩:=ih h;exact⟨v,by simpa using h1,h2⟩
 by_cases hi:i<xs.length
 ·rw [agx (by simpa using hi),agy] at h
  cases q:xs[i]? with
  | none=>rw [q] at h;cases h
  | some y =>
   rw [q] at h
   cases h
   obtain⟨v,h1,h2⟩:=get r q
   exact⟨v,by rw [agx (by simp;omega),agy,h1];rfl,h2⟩
 ·rw [agA (by simpa using hi),ahK] at h
  split at h <;> cases h
structure Def (K:ags) (mg:Str->Option Value) (x:Str) (st:Stmt) (ps:List Str):Prop where
 ex:∃ (f:Addr) (fd:FuncData),Fun K x x st f fd/\Binds K fd ps []/\mg x=some (.ref f)
structure FnIn (P:Program) (w:World) (K:ags) (mg:Str->Option Value) (base:Heap) (k:Nat) (x:Str) (ps:List Str) (sp:Sp):Prop where
 ex:∃ (f:Addr) (fd:FuncData),FnOk P w K mg base CX0 k f fd ps sp/\mg x=some (.ref f)/\ag4 K (.ref f)=true/\Binds K fd ps []
section
variable {P:Program} {w:World} {K:ags} {mg:Str->Option Value} {base:Heap} {j k n:Nat} {x:Str} {st:Stmt} {ps N:List Str} {γ:Type} {pre:γ->List DV->Prop} {post:γ->PyData->Prop} {sp:Sp}
theorem FnIn.mono (h:FnIn P w K mg base j x ps sp) (hk:j<=k):FnIn P w K mg base k x ps sp :=
 let⟨f,fd,a,b,c,d⟩:=h.ex;⟨f,fd,a.mono hk,b,c,d⟩
theorem Def.ok (F:Def K mg x st ps) (S:FnScope N ps (zh st)) (hn:ps.length=n)
  (h:∀ (fa:Addr) (cdv:Value) (A:Around) (outer:List Env) (s:Shared) (H:Hp) (E:XK),Room k (A.deeper (envOfC x (zh st) s.heap.objs.size fa cdv)) ->
   ∃ t,PSs (yF CX0 P w K mg base N x (zh st) fa cdv A outer s H E).nox (zN st) t/\∀ (f:Fx) (xs:List DV) (c:γ),xs.length=n->pre c xs->PSd K f t (yS N xs) { nx:=fun _=>post c .none,rt:=post c }) :
  FnIn P w K mg base (k+1) x ps (spD K n pre post):=by
 obtain⟨fa,fd,F1,F2,F3⟩:=F.ex
 refine⟨fa,fd,F1.ok S (fun vs H Q E h=>?_) (fun cdv A outer s H vs Q E hr hs=>?_),F3,F1.kp,F2⟩
 ·obtain⟨f,xs,c,r,hl,_⟩:=h
  rw [r.length,hl,hn]
 ·obtain⟨f,xs,c,r,hl,fo,hp,q⟩:=hs
  obtain⟨t,h1,h2⟩:=h fa cdv A outer s H E hr
  exact⟨t,h1,h2 f xs c hl hp (start N vs) H _ (yK r fo) (fun _ _ H' g _ p=>q .none _ H' g (rep_none.mpr rfl) p) (fun d v H' g r p=>q d v H' g r p) (fun _ _ _ _ _ z=>z.elim) (fun _ _ _ _ _ z=>z.elim)⟩
theorem Def.raw (F:Def K mg x st ps) (S:FnScope N ps (zh st)) (len:∀ vs H Q E,sp vs H Q E->vs.length=ps.length)
  (h:∀ (fa:Addr) (cdv:Value) (A:Around) (outer:List Env) (s:Shared) (H:Hp) (vs:List V) (Q:VK) (E:XK),Room k (A.deeper (envOfC x (zh st) s.heap.objs.size fa cdv))->sp vs H Q E ->
   ∃ t,PSs (yF CX0 P w K mg base N x (zh st) fa cdv A outer s H E).nox (zN st) t/\t { nx:=fun _ H'=>Q .non H',rt:=Q } (start N vs) H) :
  FnIn P w K mg base (k+1) x ps sp:=by
 obtain⟨fa,fd,F1,F2,F3⟩:=F.ex
 exact⟨fa,fd,F1.ok S len (fun cdv A outer s H vs Q E hr hs=>h fa cdv A outer s H vs Q E hr hs),F3,F1.kp,F2⟩
theorem zw {X:Cx} {e:Expr} {es:List Expr} {t:TA} {p pos:Pos} (G:FnIn X.prog X.w X.K X.mg X.base k x ps sp) (hr:Room k X.A) (hg:Gl X x) (ha:PA X (e :: es) t) (hdb:(x == ("__debug__":Str))=false:=by decide)
  (he:starEach (e :: es) X.env=(false,eval e X.env) :: starEach es X.env:=by rfl) (hpl:(backTo pos (starEach es X.env)).any (·.1)=false:=by rfl):PE X (.Call (.Name x p) (e :: es) [] pos) (qz sp [] E0 t):=by
 obtain⟨f,fd,a,b,c,d⟩:=G.ex
 exact adF a hr hg b c d .nil afM ha hdb he hpl
end
section
variable {K:ags} {f:Fx} {ρ:zi} {σ:St} {H:Hp} {E:Ends} {ts tu:TS} {D:DEnds}
theorem acC (h:PSd K f ts ρ D) (e:EnvOk K f ρ σ H) (hn:∀ ρ' σ' H',Goes f H H'->EnvOk K f ρ' σ' H'->D.nx ρ'->tu E σ' H') (hr:∀ d v H',Goes f H H'->Rep K (hide H' f) d v->D.rt d->E.rt v H') (hb:∀ ρ,¬ D.bk ρ) (hc:∀ ρ,¬ D.ct ρ):jt ts tu E σ H :=
 h σ H { E with nx:=tu E } e hn hr (fun ρ' _ _ _ _ p=>(hb ρ' p).elim) (fun ρ' _ _ _ _ p=>(hc ρ' p).elim)
theorem acD {ta:TA} {Q:VK} {R:List PyData->Prop} (h:PAd K f ta ρ fun xs=>∃ ds,yR xs=some ds/\ds.length<=1000/\R ds) (e:EnvOk K f ρ σ H)
  (q:∀ p ds vs H1,Goes f H H1->H1 p=none->Reps K (hide H1 f) ds vs->R ds->Q (.ref p) (upd H1 p (.lst vs))):acs ta σ H Q :=
 h σ H _ e fun xs vs H1 g1 r1 ⟨ds,ea,hl,p⟩=>by
  have rs:=jk r1 ea
  exact⟨by rw [rs.length];exact ahB (zW hl),fun l hn=>q l ds vs H1 g1 hn rs p⟩
end
section
variable {X:Cx} {e st:Expr} {te ts:TE} {pos p2:Pos}
noncomputable def afc (K:ags) (te ts:TE):TE:=fun σ H Q=>te σ H fun x H1=>ts σ H1 fun y H2=>∃ a xs,x=.ref a/\y=.int (-1)/\SqL K H2 a xs/\∀ p,H2 p=none->Q (.ref p) (upd H2 p (.lst xs.reverse))
theorem afd (he:PE X e te) (hst:PE X st ts):PE X (.Subscript e (.Slice none none (some st) p2) pos) (afc X.K te ts):=by
 intro pins s σ H Q I h
 refine Subscript_ (thn (he pins s σ H _ I h) fun v s1 ⟨x,H1,I1,r1,q1⟩=>?_)
 refine wpAny_Slice ?_
 rw [evalPart_none]
 refine wpAny_pure (wpAny_pure ?_)
 rw [evalPart_some]
 refine thn (hst pins s1 σ H1 _ I1 q1) fun vs s3 ⟨y,H3,I3,r3,a,xs,ex,ey,hq,q⟩=>?_
 subst ex ey
 cases r1
 obtain⟨t,rfl⟩:=r3
 have I4:Inv X pins σ H3 { s3 with heap:=s3.heap.push { cls:=.type "slice",data:=.fields #[.none,.none,.int (-1) t] } }:=I3.kept (t':=s3.toks) fun b ob q=>agt _ q
 show wpAny (model X.prog X.w) X.A (subscriptTail e (.Slice none none (some st) p2) (.ref a) (.ref s3.heap.objs.size)) (EP X pins σ Q) X.xe { s3 with heap:=s3.heap.push { cls:=.type "slice",data:=.fields #[.none,.none,.int (-1) t] } }
 obtain⟨its,r,ht,hz⟩:=I4.list hq
 have hlen:=r.length
 refine tail_any (ops:=[.ref a,.ref s3.heap.objs.size]) ht.isList.typeIs slot_list_getitem.lookup (wpAny_getItem_list_slice ht.isList (Heap.IsSliceOf.new ..) .none .none (.int (-1) t) (by simp) ?_ (by rw [agE] <;> omega)) (by with_unfolding_all rfl)
 rw [PySem.W.krv_pick]
 refine⟨.ref _,_,I4.laid (t':=s3.toks) (o:=.lst xs.reverse) (fun b ob q=>agt _ q) (agv _) ?_,rfl,q _ (I4.hok.fresh (agv _))⟩
 exact⟨by rw [aji];exact hz,its.reverse,0,Vals.reverse r,agI _ rfl⟩
end
section
variable {K:ags} {f:Fx} {ρ:zi}
theorem Goes.free {H H':Hp} {p:Addr} (g:Goes f H H') (fo:FOk f H) (h:H' p=none):H p=none:=by
 cases q:H p with
 | none=>rfl
 | some o =>
  by_cases hh:f.f=some p \/ p∈f.M
  ·rcases hh with hh | hh
   ·obtain⟨a,b,h1,_⟩:=g.ok.fd p hh
    rw [h] at h1;cases h1
   ·rw [g.kp p hh,q] at h;cases h
  ·have:=zp (g.sm p o (zk hh q))
   rw [h] at this;cases this.2
noncomputable def PEdL (K:ags) (f:Fx) (te:TE) (ρ:zi) (P:List PyData->Prop):Prop:=∀ (σ:St) (H:Hp) (Q:VK),EnvOk K f ρ σ H ->
 (∀ es D vs H',Goes f H H'->H D=none->H' D=some (.lst vs)->Reps K (hide H' f) es vs->P es->Q (.ref D) H')->te σ H Q
theorem PEdL.ped {te:TE} {P:PyData->Prop} (h:PEdL K f te ρ fun es=>P (.list es)):PEd K f te ρ P:=fun σ H Q e q=>h σ H Q e fun es D vs H' g n h1 r p =>
 q (.list es) _ H' g (rep_list.mpr ⟨D,vs,rfl,.of (zk (fresh_ne e.fd n) h1),r⟩) p
theorem afP {te ts:TE} {P:List PyData->Prop} (h:PEd K f te ρ fun x=>∃ ds,x=.list ds/\PEd K f ts ρ fun y=>y=.int (-1)/\P ds.reverse):PEdL K f (afc K te ts) ρ P:=fun σ H Q e q =>
 h σ H _ e fun x v H1 g1 r1 ⟨ds,ex,p1⟩=>p1 σ H1 _ (e.mono g1) fun y u H2 g2 r2 ⟨ey,p2⟩=>by
  subst ex ey
  obtain⟨a,xs,rfl,h1,h2⟩:=rep_list.mp r1
  refine⟨a,xs,rfl,rep_int.mp r2,(zq _ _).seq (g2.1.seq h1),fun l hn=>?_⟩
  have g3:Goes f H2 (upd H2 l (.lst xs.reverse)):=.of_same (zJ hn _) g2.2
  have rr:∀ {ds:List PyData} {xs:List V},Reps K (hide (upd H2 l (.lst xs.reverse)) f) ds xs->True:=fun _=>trivial
  have rev:∀ (H:Hp) (ds:List PyData) (xs:List V),Reps K H ds xs->Reps K H ds.reverse xs.reverse:=by
   intro H ds
   induction ds with
   | nil=>intro xs h;rw [reps_nil.mp h];exact .nil'
   | cons d ds ih =>
    intro xs h
    obtain⟨x,r,rfl,h2,h3⟩:=reps_cons.mp h
    rw [agU,agU]
    exact (ih r h3).snoc h2
  exact q ds.reverse l _ _ (g1.trans (g2.trans g3)) ((g1.trans g2).free e.fd hn) zo (Reps.mono g3.1 _ _ (rev _ _ _ (Reps.mono g2.1 _ _ h2))) p2
end
structure TabAt (H:Hp) (a:Addr) (as:List Addr) (rows:List (List Int)):Prop where
 top:H a=some (.lst (as.map .ref))
 nd:(a :: as).Nodup
 len:as.length=rows.length
 row:∀ (i:Nat) x r,as[i]?=some x->rows[i]?=some r->H x=some (.lst (r.map .int))
noncomputable def acE (K:ags):List V->Hp->VK->Prop:=fun xs H Q=>∃ x n b,xs=[x,.ty n]/\((∃ a ys,x=.ref a/\SqL K H a ys/\agZ K (.type "list") (.type n)=some b) \/ (∃ a ys,x=.ref a/\SqT K H a ys/\agZ K (.type "tuple") (.type n)=some b) \/ ∃ t,TyOf K H x t/\agZ K t (.type n)=some b)/\Q (.bl b) H
theorem acF {X:Cx}:yj X (.builtin "isinstance") (acE X.K):=by
 intro pins s σ H xs us Q I r h
 obtain⟨x,n,b,rfl,hx,q⟩:=h
 obtain⟨u,w',rfl,rx,rn⟩:=vals2 r
 cases rn
 rcases hx with⟨a,ys,rfl,hq,hk⟩ | ⟨a,ys,rfl,hq,hk⟩ | ⟨t,ty,hk⟩
 ·cases rx
  obtain⟨its,_,p,_⟩:=I.list hq
  obtain⟨o,ho,hc,_⟩:=p.isList
  exact agX aiM I.kIn ⟨o,ho,hc⟩ hk (fun z=>nomatch z) fun tk=>⟨.bl b,H,I.tok tk,rfl,q⟩
 ·cases rx
  obtain⟨its,_,p,_⟩:=I.tuple hq
  obtain⟨o,ho,hc,_⟩:=p
  exact agX PySem.W.kitx_tuple I.kIn ⟨o,ho,hc⟩ hk (fun z=>nomatch z) fun tk=>⟨.bl b,H,I.tok tk,rfl,q⟩
 ·exact abM I rx ty hk fun tk=>⟨.bl b,H,I.tok tk,rfl,q⟩
section
variable {K:ags} {f:Fx} {ρ:zi} {P:PyData->Prop} {te ta tb:TE}
theorem afQ {n:String} {b:Bool} (hk:agZ K (.type "list") (.type n)=some b) (h:PEd K f te ρ fun d=>∃ ds,d=.list ds/\P (.bool b)):PEd K f (tCB (acE K) (zY te (zY (tC (.ty n)) ju))) ρ P:=fun σ H Q e q=>h σ H _ e fun d v H1 g r ⟨ds,ed,p⟩=>by
 subst ed
 obtain⟨a,xs,rfl,s1,_⟩:=rep_list.mp r
 exact⟨_,n,b,rfl,.inl ⟨a,xs,rfl,(zq _ _).seq s1,hk⟩,q _ _ H1 g (rep_bool.mpr rfl) p⟩
theorem afR {n:String} {b:Bool} (hk:agZ K (.type "tuple") (.type n)=some b) (h:PEd K f te ρ fun d=>∃ ds,d=.tuple ds/\P (.bool b)):PEd K f (tCB (acE K) (zY te (zY (tC (.ty n)) ju))) ρ P:=fun σ H Q e q=>h σ H _ e fun d v H1 g r ⟨ds,ed,p⟩=>by
 subst ed
 obtain⟨a,xs,rfl,s1,_⟩:=rep_tuple.mp r
 exact⟨_,n,b,rfl,.inr (.inl ⟨a,xs,rfl,(zq _ _).seqT s1,hk⟩),q _ _ H1 g (rep_bool.mpr rfl) p⟩
end
section
variable {X:Cx} {K:ags}
theorem zt (hK:X.K=K):IxR X (abO K):=hK▸adH
theorem zC (hK:X.K=K):IxR X (abP K):=hK▸ae2
theorem zH (hK:X.K=K):yj X (.builtin "len") (fun xs H Q=>∃ p ys,xs=[.ref p]/\(SqL K H p ys \/ SqT K H p ys)/\Q (.int ys.length) H):=hK▸vt
theorem qF (hK:X.K=K):yj X (.type "list") (fun xs H Q=>∃ p ys,xs=[.ref p]/\(SqL K H p ys \/ SqT K H p ys)/\∀ l,H l=none->Q (.ref l) (upd H l (.lst ys))):=hK▸vv
theorem acG (hK:X.K=K) (hu:X.A.units+64<cLine):OpR X (compareOp .Eq) (acy K false):=hK▸ae4 hu
theorem jw (hK:X.K=K) (hu:X.A.units+64<cLine):OpR X (compareOp .NotEq) (acy K true):=hK▸ae5 hu
theorem jV (hK:X.K=K):yj X (.builtin "isinstance") (acE K):=hK▸acF
variable {tg l e st:Expr} {tl te ts:TE} {ta:TA} {p pos p2:Pos}
theorem qG (hK:X.K=K) (hl:PE X l tl):PI X tg l (aco K tl):=hK▸adz hl
theorem yn (hK:X.K=K) (ha:PE X e te) (he:∀ whole,isTrue e X.env whole=(do let v <- whole;standAt e.pos;holding [v] (truthy v))):PT X e (ae6 K te):=hK▸ae7 ha he
theorem adQ (hK:X.K=K) (he:PE X e te) (hst:PE X st ts):PE X (.Subscript e (.Slice none none (some st) p2) pos) (afc K te ts):=hK▸afd he hst
theorem yT {es:List Expr} {k:Nat} {t:TGs} {n:Nat} (hK:X.K=K) (hc:X.calm=true) (h:PGs X es t) (hn:(assignEach es X.env).length=n:=by rfl) (hst:(assignEach es X.env).findIdx? (·.1)=none:=by rfl):PG X (.Tuple es k pos) (aeV K n t):=hK▸aeW hc h hn hst
end
structure ItD (K:ags) (f:Fx) (ds:List PyData) (J:It) (H1:Hp):Prop where
 go:∀ (f':Fx) (H':Hp) (i:Nat) d,FOk f' H'->Same (hide H1 f) (hide H' f')->ds[i]?=some d->J.go i H'/\∀ x H3,J.yld i H' x H3->Goes f' H' H3/\Rep K (hide H3 f') d x
 st:∀ (f':Fx) (H':Hp),FOk f' H'->Same (hide H1 f) (hide H' f')->J.stop ds.length H'
noncomputable def PId (K:ags) (f:Fx) (wi:TI) (ρ:zi) (R:List PyData->Prop):Prop:=∀ (σ:St) (H:Hp) (C:It->Hp->Prop),EnvOk K f ρ σ H ->
 (∀ ds J H1,Goes f H H1->ItD K f ds J H1->R ds->C J H1)->wi σ H C
noncomputable def yU (n:Nat):List PyData:=(agK n).map fun (i:Nat)=>.int (i:Int)
noncomputable def zS (i j:Int):List PyData:=(agK (j - i).toNat).map fun (k:Nat)=>.int (i+(k:Int))
section
variable {K:ags} {f:Fx} {ρ:zi} {R:List PyData->Prop} {tl:TE} {t:TA}
theorem PId.imp {wi:TI} {R':List PyData->Prop} (h:PId K f wi ρ R) (i:∀ ds,R ds->R' ds):PId K f wi ρ R':=fun σ H C e q=>h σ H C e fun ds J H1 g it r=>q ds J H1 g it (i ds r)
theorem vw (h:PAd K f t ρ fun xs=>∃ j:Int,xs=[.dat (.int j)]/\-(2 ^ 62)<=j/\j<2 ^ 62/\R (yU j.toNat)):PId K f (aet t) ρ R:=fun σ H C e q=>h σ H _ e fun xs vs H1 g1 r1 ⟨j,ex,q1,q2,p⟩=>by
 subst ex
 cases r1 with
 | @cons _ v0 _ _ rx r' =>
  cases r'
  have rx':Rep K (hide H1 f) (.int j) v0:=rx
  refine⟨j,by rw [rep_int.mp rx'],q1,q2,q _ _ H1 g1 ⟨fun f' H' i d fo _ hd=>?_,fun f' H' _ _=>?_⟩ p⟩
  ·unfold yU at hd
   rw [agy] at hd
   by_cases hi:i<j.toNat
   ·rw [ahb hi] at hd
    cases hd
    refine⟨hi,fun x H3 hy=>?_⟩
    obtain⟨rfl,rfl⟩:=hy
    exact⟨.refl fo,rep_int.mpr (by rw [Int.zero_add])⟩
   ·rw [agR (by rw [ag3];omega)] at hd
    cases hd
  ·show j.toNat<=(yU j.toNat).length
   unfold yU
   rw [agr,ag3]
   exact agv _
theorem je (h:PAd K f t ρ fun xs=>∃ i j:Int,xs=[.dat (.int i),.dat (.int j)]/\(-(2 ^ 62)<=i/\i<2 ^ 62/\-(2 ^ 62)<=j/\j<2 ^ 62)/\R (zS i j)):PId K f (aeu t) ρ R:=fun σ H C e q=>h σ H _ e fun xs vs H1 g1 r1 ⟨i,j,ex,q1,p⟩=>by
 subst ex
 cases r1 with
 | @cons _ v0 _ _ rx r' =>
  cases r' with
  | @cons _ v1 _ _ ry r'' =>
   cases r''
   have rx':Rep K (hide H1 f) (.int i) v0:=rx
   have ry':Rep K (hide H1 f) (.int j) v1:=ry
   refine⟨i,j,by rw [rep_int.mp rx',rep_int.mp ry'],q1,q _ _ H1 g1 ⟨fun f' H' k d fo _ hd=>?_,fun f' H' _ _=>?_⟩ p⟩
   ·unfold zS at hd
    rw [agy] at hd
    by_cases hi:k<(j - i).toNat
    ·rw [ahb hi] at hd
     cases hd
     refine⟨hi,fun x H3 hy=>?_⟩
     obtain⟨rfl,rfl⟩:=hy
     exact⟨.refl fo,rep_int.mpr rfl⟩
    ·rw [agR (by rw [ag3];omega)] at hd
     cases hd
   ·show (j - i).toNat<=(zS i j).length
    unfold zS
    rw [agr,ag3]
    exact agv _
theorem aaB (h:PEd K f tl ρ fun x=>∃ ds,x=.list ds/\R ds):PId K f (aco K tl) ρ R:=fun σ H C e q=>h σ H _ e fun x v H1 g1 r1 ⟨ds,ex,p⟩=>by
 subst ex
 obtain⟨a,xs,rfl,h1,h2⟩:=rep_list.mp r1
 have hl:=h2.length
 refine⟨a,rfl,⟨xs,(zq _ _).seq h1⟩,q ds _ H1 g1 ⟨fun f' H' i d fo sm hd=>?_,fun f' H' _ sm=>⟨xs,(zq _ _).seq (sm.seq h1),aiV hl⟩⟩ p⟩
 obtain⟨z,hz,rz⟩:=h2.get hd
 have sq:SqL K H' a xs:=(zq _ _).seq (sm.seq h1)
 refine⟨⟨xs,z,sq,hz⟩,fun x H3 hy=>?_⟩
 obtain⟨rfl,hy⟩:=hy
 have ez:=hy xs sq
 rw [hz] at ez
 cases ez
 exact⟨.refl fo,Rep.mono sm _ _ rz⟩
end
section
variable {K:ags} {f:Fx} {ρ:zi} {D:DEnds} {wi:TI} {g:TG} {ts:TS}
theorem abe (h:PId K f wi ρ fun ds=>∃ J:Nat->zi->Prop,J 0 ρ /\
   (∀ (i:Nat) d ρ',ds[i]?=some d->J i ρ'->PGd K f g d ρ' fun ρ2=>PSd K f ts ρ2 { D with nx:=J (i+1),ct:=J (i+1),bk:=D.nx })/\∀ ρ',J ds.length ρ'->D.nx ρ') :
  PSd K f (adA wi g ts) ρ D:=fun σ H E e n r b c=>h σ H _ e fun ds J H1 g1 it ⟨Jv,j0,js,jd⟩=>by
 refine⟨fun i m σ' H'=>∃ ρ',EnvOk K f ρ' σ' H'/\Goes f H1 H'/\Jv i ρ'/\m+i=ds.length,⟨ds.length,ρ,e.mono g1,.refl g1.2,j0,rfl⟩,fun i m σ' H' ⟨ρ',e',g',p,hm⟩=>?_⟩
 by_cases hi:i<ds.length
 ·obtain⟨hgo,hy⟩:=it.go f H' i _ e'.fd g'.sm (agq hi)
  refine .inr ⟨hgo,fun σ2 H2=>∃ ρ2,EnvOk K f ρ2 σ2 H2/\Goes f H1 H2/\Jv (i+1) ρ2,fun σ2 H2 ⟨ρ2,e2,g2,p2⟩=>⟨m - 1,by omega,ρ2,e2,g2,p2,by omega⟩,fun x H3 hx=>?_⟩
  obtain⟨g3,r3⟩:=hy x H3 hx
  refine js i _ ρ' (agq hi) p σ' H3 x _ (e'.mono g3) r3 fun ρ2 σ2 H4 g4 e4 p4=>?_
  have gg:=g'.trans (g3.trans g4)
  exact p4 σ2 H4 _ e4 (fun ρ5 σ5 H5 g5 e5 p5=>⟨ρ5,e5,gg.trans g5,p5⟩) (fun d v H5 g5 r5 p5=>r d v H5 (g1.trans (gg.trans g5)) r5 p5) (fun ρ5 σ5 H5 g5 e5 p5=>n ρ5 σ5 H5 (g1.trans (gg.trans g5)) e5 p5) (fun ρ5 σ5 H5 g5 e5 p5=>⟨ρ5,e5,gg.trans g5,p5⟩)
 ·have ei:i=ds.length:=by omega
  subst ei
  exact .inl ⟨it.st f H' e'.fd g'.sm,n ρ' σ' H' (g1.trans g') e' (jd ρ' p)⟩
end
section
variable {K:ags} {f:Fx} {ρ:zi} {D:Addr} {wi:TI} {g:TG} {tt:TT} {te:TE}
theorem CSt.self {H2 H:Hp} {es:List PyData} {σ:St} (c:CSt K f D H2 ρ es σ H):CSt K f D H ρ es σ H:=⟨c.env,Same.refl _,fun _ _=>rfl,c.lst⟩
theorem CSt.trans {H2 H H':Hp} {es es':List PyData} {ρ':zi} {σ σ':St} (c:CSt K f D H2 ρ es σ H) (d:CSt K f D H ρ' es' σ' H'):CSt K f D H2 ρ' es' σ' H':=⟨d.env,c.sm.trans d.sm,fun b hb=>(d.kp b hb).trans (c.kp b hb),d.lst⟩
noncomputable def PBd (K:ags) (f:Fx) (D:Addr) (tb:TB) (ρ:zi) (es:List PyData) (R:zi->List PyData->Prop):Prop:=f.f≠some D->D∉f.M->∀ (σ:St) (H H2:Hp) (W:St->Hp->Prop),CSt K f D H2 ρ es σ H ->
 (∀ ρ2 es2 σ2 H',CSt K f D H2 ρ2 es2 σ2 H'->R ρ2 es2->W σ2 H')->tb σ H W
theorem aaC {es:List PyData} {R:zi->List PyData->Prop} (hl:es.length<1000) (h:PEd K (f.with D) te ρ fun e=>R ρ (es++[e])):PBd K f D (acw D te) ρ es R:=fun hD hM σ H H2 W c q =>
 h σ H _ c.env fun e u H5 g5 r5 p5=>by
  have c5:=c.go g5 (c.env.mono g5)
  obtain⟨vs,h1,h2⟩:=c5.lst
  exact⟨vs,h1,zW (by rw [h2.length];omega),q _ _ _ _ (c5.put hD hM h1 h2 r5) p5⟩
theorem afe {fi:Fx} {Hi H2 H:Hp} {ds es:List PyData} {J:It} {tb:TB} {σ:St} {W:St->Hp->Prop} (it:ItD K fi ds J Hi) (hD:f.f≠some D) (hM:D∉f.M) (c:CSt K f D H2 ρ es σ H) (sm:Same (hide Hi fi) (hide H (f.with D)))
  (Jv:Nat->zi->List PyData->Prop) (j0:Jv 0 ρ es)
  (js:∀ (i:Nat) d ρ' es',ds[i]?=some d->Jv i ρ' es'->PGd K (f.with D) g d ρ' fun ρ2=>PTd K (f.with D) tt ρ2 fun b=>if b=true then PBd K f D tb ρ2 es' (Jv (i+1)) else Jv (i+1) ρ2 es')
  (hW:∀ ρ' es' σ' H',CSt K f D H2 ρ' es' σ' H'->Jv ds.length ρ' es'->W σ' H'):aba J g tt tb σ H W:=by
 refine⟨fun i m σ' H'=>∃ ρ' es',CSt K f D H2 ρ' es' σ' H'/\Same (hide Hi fi) (hide H' (f.with D))/\Jv i ρ' es'/\m+i=ds.length,⟨ds.length,ρ,es,c,sm,j0,rfl⟩,fun i m σ' H' ⟨ρ',es',c',sm',p,hm⟩=>?_⟩
 by_cases hi:i<ds.length
 ·obtain⟨hgo,hy⟩:=it.go (f.with D) H' i _ c'.env.fd sm' (agq hi)
  refine .inr ⟨hgo,fun x H3 hx=>?_⟩
  obtain⟨g3,r3⟩:=hy x H3 hx
  have c3:=c'.go g3 (c'.env.mono g3)
  refine js i _ ρ' es' (agq hi) p σ' H3 x _ c3.env r3 fun ρ2 σ2 H4 g4 e4 p4=>?_
  have c4:=c3.go g4 e4
  refine p4 σ2 H4 _ e4 fun b H5 g5 p5=>?_
  have c5:=c4.go g5 (e4.mono g5)
  have sm5:=((sm'.trans g3.sm).trans g4.sm).trans g5.sm
  cases b with
  | false =>
   rw [if_neg agz] at p5 ⊢
   exact⟨m - 1,by omega,ρ2,es',c5,sm5,p5,by omega⟩
  | true =>
   rw [if_pos rfl] at p5 ⊢
   exact p5 hD hM σ2 H5 H5 _ c5.self fun ρ6 es6 σ6 H6 c6 p6=>⟨m - 1,by omega,ρ6,es6,c5.trans c6,sm5.trans c6.sm,p6,by omega⟩
 ·have ei:i=ds.length:=by omega
  subst ei
  exact .inl ⟨it.st (f.with D) H' c'.env.fd sm',hW ρ' es' σ' H' c' p⟩
noncomputable def PEdO (K:ags) (f:Fx) (te:TE) (ρ:zi) (P:List PyData->Prop):Prop:=∀ (σ:St) (H:Hp) (Q:VK),EnvOk K f ρ σ H ->
 (∀ es D vs H',Goes f H H'->H D=none->H' D=some (.lst vs)->Reps K (hide H' (f.with D)) es vs->P es->Q (.ref D) H')->te σ H Q
theorem PEdO.pedl {P:List PyData->Prop} (h:PEdO K f te ρ P):PEdL K f te ρ P:=fun σ H Q e q=>h σ H Q e fun es D vs H' g n h1 r p=>q es D vs H' g n h1 (Reps.mono same_with es vs r) p
theorem PEdO.ped {P:PyData->Prop} (h:PEdO K f te ρ fun es=>P (.list es)):PEd K f te ρ P:=h.pedl.ped
theorem aeD {P:List PyData->Prop} (h:P []):PEdO K f (acs ju) ρ P:=fun σ H Q e q=>⟨agT _,fun p hn=>q [] p [] _ (.of_same (zJ hn _) e.fd) hn zo .nil' h⟩
theorem acH {own:Nat} {fr:List Nat} {tb:Addr->TB} {P:List PyData->Prop} (h:PId K f wi ρ fun ds=>∃ Jv:Nat->zi->List PyData->Prop,Jv 0 (qE own fr ρ) [] /\
   (∀ D (i:Nat) d ρ' es',ds[i]?=some d->Jv i ρ' es'->PGd K (f.with D) g d ρ' fun ρ2=>PTd K (f.with D) tt ρ2 fun b=>if b=true then PBd K f D (tb D) ρ2 es' (Jv (i+1)) else Jv (i+1) ρ2 es') /\
   ∀ ρ' es',Jv ds.length ρ' es'->P es'):PEdO K f (qB wi own fr g tt tb) ρ P:=fun σ H Q e q =>
 h σ H _ e fun ds J H1 g1 it ⟨Jv,j0,js,jd⟩ D hn=>by
  have nD:=fresh_ne g1.2 hn
  have hD:f.f≠some D:=fun z=>nD (.inl z)
  have hM:D∉f.M:=fun z=>nD (.inr z)
  refine afe it hD hM (aaA hn (e.mono g1)) (jD hn) Jv j0 (js D) fun ρ' es' σ' H' c' p=>?_
  obtain⟨ge,rep⟩:=acB (σ':=σ') hn g1.2 c'
  obtain⟨vs,h1,h2⟩:=c'.lst
  exact q es' D vs H' (g1.trans ge) (g1.free e.fd hn) h1 h2 (jd ρ' es' p)
end
section
variable {K:ags} {f:Fx} {ρ:zi} {D:Addr} {wi:TI} {g:TG} {tt:TT} {te:TE}
noncomputable def OwnE (own:Nat) (ρ0:zi) (ρ':zi):Prop:=∃ us:zi,us.length=own/\ρ'=us++ρ0
theorem OwnE.one {ρ0 ρ':zi} (h:OwnE 1 ρ0 ρ'):∃ u,ρ'=u :: ρ0:=by
 obtain⟨us,h1,rfl⟩:=h
 match us,h1 with
 | [u],_=>exact⟨u,rfl⟩
theorem OwnE.two {ρ0 ρ':zi} (h:OwnE 2 ρ0 ρ'):∃ u v,ρ'=u :: v :: ρ0:=by
 obtain⟨us,h1,rfl⟩:=h
 match us,h1 with
 | [u,v],_=>exact⟨u,v,rfl⟩
theorem OwnE.mk1 {ρ0:zi} {u:Option DV}:OwnE 1 ρ0 (u :: ρ0):=⟨[u],rfl,rfl⟩
theorem OwnE.mk2 {ρ0:zi} {u v:Option DV}:OwnE 2 ρ0 (u :: v :: ρ0):=⟨[u,v],rfl,rfl⟩
theorem acI {B:Bool->Prop} (h:B true):PTd K f afN ρ B:=fun σ H Q e q=>q true H (.refl e.fd) h
end
structure OEnds where
 nx:zi->List PyData->Prop
 rt:PyData->Prop
 bk:zi->List PyData->Prop:=fun _ _=>False
 ct:zi->List PyData->Prop:=fun _ _=>False
noncomputable def PSo (K:ags) (f:Fx) (D:Addr) (ts:TS) (ρ:zi) (es:List PyData) (O:OEnds):Prop:=f.f≠some D->D∉f.M->∀ (σ:St) (H H2:Hp) (E:Ends),CSt K f D H2 ρ es σ H ->
 (∀ ρ' es' σ' H',CSt K f D H2 ρ' es' σ' H'->O.nx ρ' es'->E.nx σ' H')->(∀ d v ρ' es' σ' H',CSt K f D H2 ρ' es' σ' H'->Rep K (hide H' f) d v->O.rt d->E.rt v H') ->
 (∀ ρ' es' σ' H',CSt K f D H2 ρ' es' σ' H'->O.bk ρ' es'->E.bk σ' H')->(∀ ρ' es' σ' H',CSt K f D H2 ρ' es' σ' H'->O.ct ρ' es'->E.ct σ' H')->ts E σ H
section
variable {K:ags} {f:Fx} {ρ:zi} {D:Addr} {wi:TI} {g:TG} {tt:TT} {te:TE} {ts tu:TS} {es:List PyData} {O:OEnds} {i:Nat}
theorem aff (h:PSd K (f.with D) ts ρ { nx:=fun ρ'=>O.nx ρ' es,rt:=O.rt,bk:=fun ρ'=>O.bk ρ' es,ct:=fun ρ'=>O.ct ρ' es }):PSo K f D ts ρ es O:=fun hD hM σ H H2 E c n r b k =>
 h σ H E c.env (fun ρ' σ' H' g' e' p=>n ρ' es σ' H' (c.go g' e') p) (fun d v H' g' r' p=>r d v ρ es σ H' (c.go g' (c.env.mono g')) (Rep.mono same_with d v r') p) (fun ρ' σ' H' g' e' p=>b ρ' es σ' H' (c.go g' e') p) (fun ρ' σ' H' g' e' p=>k ρ' es σ' H' (c.go g' e') p)
theorem acJ (h:PSo K f D ts ρ es { O with nx:=fun ρ' es'=>PSo K f D tu ρ' es' O }):PSo K f D (jt ts tu) ρ es O:=fun hD hM σ H H2 E c n r b k =>
 h hD hM σ H H2 _ c (fun ρ' es' σ' H' c' p=>p hD hM σ' H' H2 E c' n r b k) r b k
theorem afg (h:O.nx ρ es):PSo K f D aa3 ρ es O:=fun _ _ σ H H2 E c n r b k=>n ρ es σ H c h
theorem acK {σ:St} {H H2:Hp} (hi:ρ[i]?=some (some (.own f.M.length))) (c:CSt K f D H2 ρ es σ H):σ[i]?=some (some (.ref D)):=by
 obtain⟨v,h1,p,h2,rfl⟩:=c.env.get i _ hi
 have e:(D :: f.M).reverse[f.M.length]?=some D:=by
  rw [agU,agA (by simp)]
  simp
 have h2':(D :: f.M).reverse[f.M.length]?=some p:=h2
 rw [e] at h2'
 cases h2'
 exact h1
theorem afS (hi:ρ[i]?=some (some (.own f.M.length))) (hl:es.length<1000) (h:PEd K (f.with D) te ρ fun d=>O.nx ρ (es++[d])):PSo K f D (aa4 (tBM K "list" ql (yE i) (zY te ju))) ρ es O:=fun hD hM σ H H2 E c n r b k=>by
 obtain⟨vs0,h0,_⟩:=c.lst
 refine⟨_,acK hi c,Or.inl ⟨rfl,vs0,.of h0⟩,?_⟩
 refine h σ H _ c.env fun d v H1 g1 r1 p1=>?_
 have c1:=c.go g1 (c.env.mono g1)
 obtain⟨vs,h1,h2⟩:=c1.lst
 exact⟨D,vs,v,rfl,rfl,h1,zW (by rw [h2.length];omega),n _ _ _ _ (c1.put hD hM h1 h2 r1) p1⟩
theorem afT (h:PId K (f.with D) wi ρ fun ds=>∃ J:Nat->zi->List PyData->Prop,J 0 ρ es /\
   (∀ (i:Nat) d ρ' es',ds[i]?=some d->J i ρ' es'->PGd K (f.with D) g d ρ' fun ρ2=>PSo K f D ts ρ2 es' { O with nx:=J (i+1),ct:=J (i+1),bk:=O.nx })/\∀ ρ' es',J ds.length ρ' es'->O.nx ρ' es') :
  PSo K f D (adA wi g ts) ρ es O:=fun hD hM σ H H2 E c n r b k=>h σ H _ c.env fun ds J H1 g1 it ⟨Jv,j0,js,jd⟩=>by
 have c1:=c.go g1 (c.env.mono g1)
 refine⟨fun i m σ' H'=>∃ ρ' es',CSt K f D H2 ρ' es' σ' H'/\Same (hide H1 (f.with D)) (hide H' (f.with D))/\Jv i ρ' es'/\m+i=ds.length,⟨ds.length,ρ,es,c1,Same.refl _,j0,rfl⟩,fun i m σ' H' ⟨ρ',es',c',sm',p,hm⟩=>?_⟩
 by_cases hi:i<ds.length
 ·obtain⟨hgo,hy⟩:=it.go (f.with D) H' i _ c'.env.fd sm' (agq hi)
  refine .inr ⟨hgo,fun σ2 H3=>∃ ρ2 es2,CSt K f D H2 ρ2 es2 σ2 H3/\Same (hide H1 (f.with D)) (hide H3 (f.with D))/\Jv (i+1) ρ2 es2,fun σ2 H3 ⟨ρ2,es2,e2,g2,p2⟩=>⟨m - 1,by omega,ρ2,es2,e2,g2,p2,by omega⟩,fun x H3 hx=>?_⟩
  obtain⟨g3,r3⟩:=hy x H3 hx
  have c3:=c'.go g3 (c'.env.mono g3)
  refine js i _ ρ' es' (agq hi) p σ' H3 x _ c3.env r3 fun ρ2 σ2 H4 g4 e4 p4=>?_
  have c4:=c3.go g4 e4
  have sm4:=(sm'.trans g3.sm).trans g4.sm
  exact p4 hD hM σ2 H4 H4 _ c4.self (fun ρ5 es5 σ5 H5 c5 p5=>⟨ρ5,es5,c4.trans c5,sm4.trans c5.sm,p5⟩) (fun d v ρ5 es5 σ5 H5 c5 r5 p5=>r d v ρ5 es5 σ5 H5 (c4.trans c5) r5 p5) (fun ρ5 es5 σ5 H5 c5 p5=>n ρ5 es5 σ5 H5 (c4.trans c5) p5) (fun ρ5 es5 σ5 H5 c5 p5=>⟨ρ5,es5,c4.trans c5,sm4.trans c5.sm,p5⟩)
 ·have ei:i=ds.length:=by omega
  subst ei
  exact .inl ⟨it.st (f.with D) H' c'.env.fd sm',n ρ' es' σ' H' c' (jd ρ' es' p)⟩
noncomputable def z7 (n:Nat):Option DV->Option DV
 | some (.own k)=>if k<n then some (.own k) else none
 | x=>x
theorem yo {σ:St} {H H2:Hp} (c:CSt K f D H2 ρ es σ H):EnvOk K f (ρ.map (z7 f.M.length)) σ H:=by
 refine⟨by rw [agr];exact c.env.len,fun i x h=>?_,⟨c.env.fd.fd,fun b hb=>c.env.fd.mm b (agw _ hb),fun p e hp=>c.env.fd.nm p e (agw _ hp)⟩⟩
 rw [agy] at h
 cases e:ρ[i]? with
 | none=>rw [e] at h;cases h
 | some y =>
  rw [e] at h
  cases y with
  | none=>cases h
  | some y =>
   obtain⟨v,h1,h2⟩:=c.env.get i y e
   cases y with
   | dat d =>
    cases h
    exact⟨v,h1,Rep.mono same_with d v h2⟩
   | feed =>
    cases h
    exact⟨v,h1,h2⟩
   | exc C =>
    cases h
    obtain⟨a,h3,h4⟩:=h2
    exact⟨v,h1,a,h3,same_with _ _ h4⟩
   | mon φ =>
    cases h
    exact⟨v,h1,fun H' s=>h2 H' (same_with.trans s)⟩
   | own k =>
    have h':(if k<f.M.length then some (DV.own k) else none)=some x:=Option.some.inj h
    by_cases hk:k<f.M.length
    ·rw [if_pos hk] at h'
     cases h'
     obtain⟨p,h3,h4⟩:=h2
     refine⟨v,h1,p,?_,h4⟩
     have h3':(D :: f.M).reverse[k]?=some p:=h3
     rw [agU,agx (by simpa using hk)] at h3'
     exact h3'
    ·rw [if_neg hk] at h'
     cases h'
theorem abf {σ:St} {H:Hp} {d:PyData} {v:V} (e:EnvOk K f ρ σ H) (hs:σ[i]?=some (some v)) (r:Rep K (hide H f) d v):EnvOk K f (ρ.set i (some (.dat d))) σ H:=by
 refine⟨by rw [ahA];exact e.len,fun j y h=>?_,e.fd⟩
 by_cases hj:i=j
 ·subst hj
  have hi:i<ρ.length:=by rw [e.len];exact (agu.mp hs).1
  rw [ag7 hi] at h
  cases h
  exact⟨v,hs,r⟩
 ·rw [aho hj] at h
  exact e.get j y h
theorem afU {Dn:DEnds} (h:PEdO K f te ρ fun es0=>i<ρ.length/\∀ D,PSo K f D ts (ρ.set i (some (.own f.M.length))) es0 { nx:=fun ρ' es=>ρ'[i]?=some (some (.own f.M.length))/\PSd K f tu ((ρ'.map (z7 f.M.length)).set i (some (.dat (.list es)))) Dn,rt:=Dn.rt,bk:=fun ρ' es=>Dn.bk (ρ'.map (z7 f.M.length)),ct:=fun ρ' es=>Dn.ct (ρ'.map (z7 f.M.length)) }) :
  PSd K f (jt (y3 te (yy i)) (jt ts tu)) ρ Dn:=fun σ H E e n r b k=>h σ H _ e fun es0 D vs H1 g1 hn h1 rs ⟨hil,p⟩=>by
 have nD:¬ (f.f=some D \/ D∈f.M):=fresh_ne e.fd hn
 have hD:f.f≠some D:=fun z=>nD (.inl z)
 have hM:D∉f.M:=fun z=>nD (.inr z)
 have sm0:Same (hide H f) (hide H1 (f.with D)):=fun b o hb=>by
  have hb1:=g1.sm b o hb
  refine zk (fun z=>?_) (zp hb1).2
  rcases z with z | z
  ·exact (zp hb1).1 (.inl z)
  ·rcases agC.mp z with rfl | z
   ·have:=(zp hb).2
    rw [hn] at this
    cases this
   ·exact (zp hb1).1 (.inr z)
 have fo1:FOk (f.with D) H1:=⟨g1.ok.fd,fun b hb=>by
  rcases agC.mp hb with rfl | hb
  ·exact⟨_,h1⟩
  ·exact g1.ok.mm b hb,fun q eq hq=>by
  rcases agC.mp hq with rfl | hq
  ·exact hD eq
  ·exact g1.ok.nm q eq hq⟩
 have e1:EnvOk K (f.with D) ρ σ H1:=⟨e.len,fun j x hx=>by
  obtain⟨v,a1,a2⟩:=e.get j x hx
  refine⟨v,a1,?_⟩
  cases x with
  | dat d=>exact Rep.mono sm0 d v a2
  | feed=>exact a2
  | exc C =>
   obtain⟨q,h3,h4⟩:=a2
   exact⟨q,h3,sm0 _ _ h4⟩
  | mon φ=>exact fun H' s=>a2 H' (sm0.trans s)
  | own k =>
   obtain⟨q,h3,h4⟩:=a2
   refine⟨q,?_,h4⟩
   show (D :: f.M).reverse[k]?=some q
   rw [agU,agx (agu.mp h3).1]
   exact h3,fo1⟩
 have rv:RepV K (f.with D) H1 (.own f.M.length) (.ref D):=⟨D,by
  show (D :: f.M).reverse[f.M.length]?=some D
  rw [agU,agA (by simp)]
  simp,rfl⟩
 have c1:CSt K f D H1 (ρ.set i (some (.own f.M.length))) es0 (σ.set i (some (.ref D))) H1:=⟨e1.set i rv,Same.refl _,fun _ _=>rfl,vs,h1,rs⟩
 have gg:∀ {ρ':zi} {es':List PyData} {σ':St} {H':Hp},CSt K f D H1 ρ' es' σ' H'->Goes f H H':=fun c=>by
  refine⟨fun b o hb=>?_,(yo c).fd,fun b hb=>(c.kp b hb).trans (g1.kp b hb)⟩
  exact same_with (D:=D) b o (c.sm b o (sm0 b o hb))
 refine p D hD hM _ H1 H1 _ c1 (fun ρ' es' σ' H' c' ⟨hi,p'⟩=>?_) (fun d v ρ' es' σ' H' c' r' p'=>r d v H' (gg c') r' p') (fun ρ' es' σ' H' c' p'=>b _ σ' H' (gg c') (yo c') p') (fun ρ' es' σ' H' c' p'=>k _ σ' H' (gg c') (yo c') p')
 obtain⟨vs',h1',h2'⟩:=c'.lst
 have rl:Rep K (hide H' f) (.list es') (.ref D):=rep_list.mpr ⟨D,vs',rfl,.of (zk nD h1'),Reps.mono same_with es' vs' h2'⟩
 exact p' σ' H' E (abf (yo c') (acK hi c') rl) (fun ρ2 σ2 H2 g2=>n ρ2 σ2 H2 ((gg c').trans g2)) (fun d v H2 g2=>r d v H2 ((gg c').trans g2)) (fun ρ2 σ2 H2 g2=>b ρ2 σ2 H2 ((gg c').trans g2)) (fun ρ2 σ2 H2 g2=>k ρ2 σ2 H2 ((gg c').trans g2))
end
section
variable {K:ags} {f:Fx} {ρ:zi} {P:PyData->Prop} {te ta tb:TE} {t:TA}
theorem Reps.drop {H:Hp}:∀ {ds:List PyData} {xs:List V} (n:Nat),Reps K H ds xs->Reps K H (ds.drop n) (xs.drop n)
 | _,_,0,r=>r
 | [],xs,n+1,r=>by
  rw [reps_nil.mp r]
  exact .nil'
 | d :: ds,xs,n+1,r=>by
  obtain⟨x,r',rfl,_,h⟩:=reps_cons.mp r
  exact Reps.drop n h
theorem Reps.take {H:Hp}:∀ {ds:List PyData} {xs:List V} (n:Nat),Reps K H ds xs->Reps K H (ds.take n) (xs.take n)
 | _,_,0,r=>.nil'
 | [],xs,n+1,r=>by
  rw [reps_nil.mp r]
  exact .nil'
 | d :: ds,xs,n+1,r=>by
  obtain⟨x,r',rfl,h0,h⟩:=reps_cons.mp r
  exact .cons' h0 (Reps.take n h)
noncomputable def cutD (ds:List PyData) (lo hi:Option Int):List PyData:=(ds.drop (HT.sIx ds.length 0 lo)).take (HT.sIx ds.length ds.length hi - HT.sIx ds.length 0 lo)
theorem Reps.cut {H:Hp} {ds:List PyData} {xs:List V} {lo hi:Option Int} (r:Reps K H ds xs):Reps K H (cutD ds lo hi) (aau xs lo hi):=by
 unfold cutD aau
 rw [r.length]
 exact (r.drop _).take _
theorem cut_upto {ds:List PyData} {n:Nat}:cutD ds none (some (n:Int))=ds.take n:=by
 unfold cutD
 rw [HT.sIx_nat,HT.sIx_none,List.drop_zero,Nat.sub_zero]
 by_cases h:n<=ds.length
 ·rw [aiv h]
 ·rw [Nat.min_eq_right (by omega),aib (agv _),aib (by omega)]
noncomputable def POd (K:ags) (f:Fx) (t:TO) (ρ:zi) (R:Option Int->Prop):Prop:=∀ (σ:St) (H:Hp) (Q:Option Int->Hp->Prop),EnvOk K f ρ σ H->(∀ o H',Goes f H H'->R o->Q o H')->t σ H Q
theorem aeE {R:Option Int->Prop} (h:R none):POd K f aa5 ρ R:=fun σ H Q e q=>q none H (.refl e.fd) h
theorem abg {R:Option Int->Prop} (h:PEd K f te ρ fun d=>∃ i:Int,d=.int i/\R (some i)):POd K f (aey te) ρ R:=fun σ H Q e q=>h σ H _ e fun d v H1 g1 r1 ⟨i,ed,p⟩=>by
 subst ed
 exact⟨i,rep_int.mp r1,q (some i) H1 g1 p⟩
theorem afV {tl th:TO} {P:List PyData->Prop} (h:PEd K f te ρ fun x=>∃ ds,x=.list ds/\POd K f tl ρ fun lo=>POd K f th ρ fun hi=>P (cutD ds lo hi)):PEdL K f (tSl (adI K) te tl th) ρ P:=fun σ H Q e q =>
 h σ H _ e fun x v H1 g1 r1 ⟨ds,ex,p1⟩=>p1 σ H1 _ (e.mono g1) fun lo H2 g2 p2=>p2 σ H2 _ ((e.mono g1).mono g2) fun hi H3 g3 p3=>by
  subst ex
  have gg:=g1.trans (g2.trans g3)
  obtain⟨a,xs,rfl,h1,h2⟩:=rep_list.mp (Rep.mono (g2.trans g3).sm _ _ r1)
  refine⟨a,xs,rfl,(zq _ _).seq h1,fun p hn=>?_⟩
  have g4:Goes f H3 (upd H3 p (.lst (aau xs lo hi))):=.of_same (zJ hn _) g3.ok
  exact q _ p _ _ (gg.trans g4) (gg.free e.fd hn) zo (Reps.mono g4.sm _ _ h2.cut) p3
theorem acL {tl th:TO} (h:PEd K f te ρ fun x=>∃ ds,x=.list ds/\POd K f tl ρ fun lo=>POd K f th ρ fun hi=>P (.list (cutD ds lo hi))):PEd K f (tSl (adI K) te tl th) ρ P:=(afV h).ped
theorem afh (h:PAd K f t ρ fun xs=>(∃ i,xs=[.dat (.int i)]/\P (.int i)) \/ (∃ k:Bool,xs=[.dat (.bool k)]/\P (.int (if k then 1 else 0)))) :
  PEd K f (tCB (fun xs H Q=>(∃ i,xs=[.int i]/\Q (.int i) H) \/ ∃ k:Bool,xs=[.bl k]/\Q (.int (if k then 1 else 0)) H) t) ρ P :=
 acz fun σ H Q e q=>h σ H Q e fun xs vs H' g r p=>by
  rcases p with⟨i,rfl,p⟩ | ⟨i,rfl,p⟩
  ·refine q _ vs H' g r ⟨_,rfl,fun vs H Q fo rs k=>?_⟩
   obtain⟨x,r,rfl,h2,h3⟩:=reps_cons.mp rs
   rw [reps_nil.mp h3,rep_int.mp h2]
   exact .inl ⟨i,rfl,k _ _ H (.refl fo) (rep_int.mpr rfl) p⟩
  ·refine q _ vs H' g r ⟨_,rfl,fun vs H Q fo rs k=>?_⟩
   obtain⟨x,r,rfl,h2,h3⟩:=reps_cons.mp rs
   rw [reps_nil.mp h3,rep_bool.mp h2]
   exact .inr ⟨i,rfl,k _ _ H (.refl fo) (rep_int.mpr rfl) p⟩
end
noncomputable abbrev f0:Fx:=⟨none,[]⟩
theorem fok0 (H:Hp):FOk f0 H:=⟨(fun p e=>by cases e),(fun b hb=>by cases hb),(fun p e=>by cases e)⟩
theorem afW {H H':Hp} (s:Same H H'):Goes f0 H H':=.of_same s (fok0 H)
theorem same0 {H H':Hp} (g:Goes f0 H H'):Same H H':=fun b o h=>(zp (g.sm b o (by rw [z8];exact h))).2
noncomputable def vx:Option DV->Option DV
 | some (.dat d)=>some (.dat d)
 | _=>none
section
variable {K:ags} {ρ:zi} {te:TE} {tu:TS} {i:Nat}
theorem qH {p:Addr} {σ:St} {H:Hp} (e:EnvOk K ⟨some p,[]⟩ ρ σ H):EnvOk K f0 (ρ.map vx) σ H:=by
 refine⟨by rw [agr];exact e.len,fun i x h=>?_,fok0 H⟩
 rw [agy] at h
 cases eq:ρ[i]? with
 | none=>rw [eq] at h;cases h
 | some y =>
  rw [eq] at h
  cases y with
  | none=>cases h
  | some y =>
   obtain⟨v,h1,h2⟩:=e.get i y eq
   cases y with
   | dat d =>
    cases h
    refine⟨v,h1,?_⟩
    show Rep K (hide H f0) d v
    rw [z8]
    exact Rep.mono (zq _ _) d v h2
   | feed=>cases h
   | own k=>cases h
   | exc C=>cases h
   | mon φ=>cases h
theorem afi {Dn:DEnds} (h:∀ (σ:St) (H:Hp) (Q:VK),EnvOk K f0 ρ σ H->(∀ (p:Addr) (x y:Int) (H':Hp),Same H H'->H p=none->H' p=some (.lst [.int x,.int y])->0<=x->0<=y->y<2147483647->Q (.ref p) H')->te σ H Q)
  (hr:∀ p,PSd K ⟨some p,[]⟩ tu (ρ.set i (some .feed)) { nx:=fun ρ'=>Dn.nx (ρ'.map vx),rt:=Dn.rt,bk:=fun ρ'=>Dn.bk (ρ'.map vx),ct:=fun ρ'=>Dn.ct (ρ'.map vx) }) :
  PSd K f0 (jt (y3 te (yy i)) tu) ρ Dn:=fun σ H E e n r b k=>h σ H _ e fun p x y H1 sm hn hp x0 y0 y1=>by
 have fo:FOk ⟨some p,[]⟩ H1:=⟨fun p' e=>by cases e;exact⟨x,y,hp,x0,y0,y1⟩,(fun b hb=>by cases hb),fun _ _ hb=>by cases hb⟩
 have sm0:Same H (hide H1 ⟨some p,[]⟩):=fun b o hb=>by
  have nb:b≠p:=fun e=>by rw [e,hn] at hb;cases hb
  refine zk (fun z=>?_) (sm b o hb)
  rcases z with z | z
  ·cases z;exact nb rfl
  ·cases z
 have e1:EnvOk K ⟨some p,[]⟩ ρ σ H1:=by
  refine⟨e.len,fun j z hz=>?_,fo⟩
  obtain⟨v,a1,a2⟩:=e.get j z hz
  refine⟨v,a1,?_⟩
  cases z with
  | dat d =>
   have a2':Rep K (hide H f0) d v:=a2
   rw [z8] at a2'
   exact Rep.mono sm0 d v a2'
  | feed=>obtain⟨q,hq,_⟩:=a2;cases hq
  | own k=>obtain⟨q,hq,_⟩:=a2;cases hq
  | exc C =>
   obtain⟨q,h3,h4⟩:=a2
   refine⟨q,h3,sm0 _ _ ?_⟩
   rw [z8] at h4
   exact h4
  | mon φ =>
   intro H' s
   refine a2 H' (Same.trans ?_ s)
   rw [z8]
   exact sm0
 have gg:∀ {H':Hp},Goes ⟨some p,[]⟩ H1 H'->Goes f0 H H':=fun g=>afW fun b o hb=>zq _ _ b o (g.sm b o (sm0 b o hb))
 refine hr p _ H1 E (e1.set i (x:=.feed) ⟨p,rfl,rfl⟩) (fun ρ' σ' H' g' e' p'=>n _ σ' H' (gg g') (qH e') p') (fun d v H' g' r' p'=>r d v H' (gg g') ?_ p') (fun ρ' σ' H' g' e' p'=>b _ σ' H' (gg g') (qH e') p') (fun ρ' σ' H' g' e' p'=>k _ σ' H' (gg g') (qH e') p')
 rw [z8]
 exact Rep.mono (zq _ _) d v r'
end
section
variable {X:Cx} {K:ags}
noncomputable def afX (i j:Int):Prop:=0<j/\j<1152921504606846976
theorem vX:OpR X (binaryOp .FloorDiv) (rI afX fun i j=>.int (i / j)):=opI fun i j _ _ _ _ _ hc q=>by
 obtain⟨h1,h2⟩:=hc
 rw [<-Int.fdiv_eq_ediv_of_nonneg i (Int.le_of_lt h1)] at q
 refine floordiv_int (by omega) q (.inl (PyProof.noPylong_of_log2 ?_))
 have h0:j.natAbs≠0:=by omega
 have:j.natAbs.log2<60:=(Nat.log2_lt h0).mpr (by omega)
 omega
theorem vY (hK:X.K=K):SlR X (adI K):=hK▸adJ
end
section
variable {K:ags} {f:Fx} {ρ:zi} {wi:TI} {g:TG} {tt:TT} {own:Nat} {fr:List Nat} {tb:Addr->TB} {P:List PyData->Prop}
theorem aeF {α:Type} {A B:α->PyData} (xs:List α) (h:PId K f wi ρ fun ds=>ds=xs.map A/\xs.length<=1000 /\
   (∀ D x ρ' es,x∈xs->OwnE own (frD fr ρ) ρ'->es.length<1000->PGd K (f.with D) g (A x) ρ' fun ρ2=>PTd K (f.with D) tt ρ2 fun b=>if b=true then PBd K f D (tb D) ρ2 es fun ρ3 es3=>OwnE own (frD fr ρ) ρ3/\es3=es++[B x] else False)/\P (xs.map B)) :
  PEdO K f (qB wi own fr g tt tb) ρ P :=
 acH (h.imp fun ds ⟨ed,hl,hs,hp⟩=>by
  subst ed
  refine⟨fun i ρ' es=>OwnE own (frD fr ρ) ρ'/\es=(xs.take i).map B,⟨⟨ahW own none,by simp,rfl⟩,by simp⟩,fun D i d ρ' es hd ⟨ho,he⟩=>?_,fun ρ' es ⟨_,he⟩=>?_⟩
  ·rw [agy] at hd
   cases eq:xs[i]? with
   | none=>rw [eq] at hd;cases hd
   | some x =>
    rw [eq] at hd
    cases hd
    have hi:i<xs.length:=(agu.mp eq).1
    have hb:es.length<1000:=by
     rw [he,agr,ag8]
     omega
    intro σ H v Q e r q
    refine hs D x ρ' es (agJ eq) ho hb σ H v Q e r fun ρ2 σ2 H2 g2 e2 p2=>q ρ2 σ2 H2 g2 e2 (p2.imp fun b hb2=>?_)
    cases b with
    | false =>
     rw [if_neg agz] at hb2
     exact hb2.elim
    | true =>
     rw [if_pos rfl] at hb2 ⊢
     intro h1 h2 σ3 H3 H4 W c k
     exact hb2 h1 h2 σ3 H3 H4 W c fun ρ5 es5 σ5 H5 c5 ⟨o5,p5⟩=>k ρ5 es5 σ5 H5 c5 ⟨o5,by rw [p5,he,aic,eq,ahg];rfl⟩
  ·rw [he,agr,aio]
   exact hp)
end
structure XLie (P:Program) (w:World) (outer:List Env) (H:Hp) (s:Shared) (e:Addr) (C:Value) (H':Hp) (s':Shared):Prop where
 os:s'.os=s.os
 bare:AllBare s'.gens
 un:Un (frs outer) [] H H' s.heap s'.heap
 hok:HOk P w H' s'.heap
 fly:∃ B a0,Heap.FlyingW B outer e C a0 s'.heap/\(∀ b o,s.heap.get? b=some o->b∉frs outer->∃ o',B.get? b=some o')/\∀ b o,H' b=some o->∃ o',B.get? b=some o'
 new:s.heap.get? e=none
 free:H' e=none
noncomputable def CXe (P:Program) (w:World):CXT:=fun outer H s E e s'=>∃ a C H',e=.ref a/\XLie P w outer H s a C H' s'/\E C none H'
end L2
end
section
namespace L2
open PySem PySem.Spec PyProof.Rows
end L2
end
section
namespace L2
open PySem PySem.Spec PySem.W PyProof.Rows PySem.Calls PySem.Builtin Builtin Builtin.ObjectAttr Builtin.Getset_descriptor
section
variable {prog:Program} {w:World} {A:Around} {E:Value->Shared->Prop} {s:Shared} {K:ags} {a C:Addr}
structure ExcWays (K:ags) (C:Addr):Prop where
 ga:findIn K (.ref C) "__getattribute__"=some (some (.builtin "BaseException.__getattribute__"))
 gt:findIn K (.ref C) "__getattr__"=some none
 cl:findIn K (.ref C) "__class__"=some (some (.builtin "object.__class__"))
 gs:specialIn K (.builtin "object.__class__") "__get__"=some (some (.builtin "getset_descriptor.__get__"))
 tk:takesIn K (.builtin "object.__class__")=some true
 ob:mroIn K C (.type "object")=some true
 be:mroIn K C (.type "BaseException")=some true
 iz:(clsIn K C).isSome=true
end
structure FnInX (P:Program) (w:World) (K:ags) (mg:Str->Option Value) (base:Heap) (k:Nat) (x:Str) (ps:List Str) (sp:Sp):Prop where
 ex:∃ (f:Addr) (fd:FuncData),FnOk P w K mg base (CXe P w) k f fd ps sp/\mg x=some (.ref f)/\ag4 K (.ref f)=true/\Binds K fd ps []
end L2
end
section
namespace L2
open PySem PySem.Spec PyProof.Rows
end L2
end
section
namespace L2
open PySem PySem.Spec PyProof.Rows
section
variable {K:ags} {f:Fx} {ρ:zi} {E:XK} {te:TE} {ts tu:TS} {tt:TT} {t:TA} {P:PyData->Prop} {D:DEnds}
theorem acM (h:PEd K f te ρ fun x=>∃ i,x=.int i/\P (.int (-i))):PEd K f (tUn (rU fun i=>.int (-i)) te) ρ P :=
 agg (h.imp fun x ⟨i,ex,p⟩ v H Q fo r q=>by
  subst ex
  exact⟨i,rep_int.mp r,q _ _ H (.refl fo) (rep_int.mpr rfl) p⟩)
theorem afY {n:String} {b:Bool} (hk:agZ K (.type "int") (.type n)=some b) (h:PEd K f te ρ fun d=>∃ i,d=.int i/\P (.bool b)):PEd K f (tCB (acE K) (zY te (zY (tC (.ty n)) ju))) ρ P:=fun σ H Q e q=>h σ H _ e fun d v H1 g r ⟨i,ed,p⟩=>by
 subst ed
 rw [rep_int.mp r]
 exact⟨_,n,b,rfl,.inr (.inr ⟨_,.int i,hk⟩),q _ _ H1 g (rep_bool.mpr rfl) p⟩
end
end L2
end
section
namespace L2
open PySem PySem.Spec PyProof.Rows
end L2
end
section
namespace L2
open PySem PySem.Spec PyProof.Rows
section
variable {K:ags} {f:Fx} {ρ:zi} {P:PyData->Prop} {te ta tb:TE} {t:TA}
theorem aeG {R:List PyData->Prop} (h:PAd K f t ρ fun xs=>∃ ds,yR xs=some ds/\ds.length<=1000/\R ds):PEdO K f (acs t) ρ R:=fun σ H Q e q =>
 h σ H _ e fun xs vs H1 g1 r1 ⟨ds,ea,hl,p⟩=>by
  have rs:=jk r1 ea
  refine⟨by rw [rs.length];exact ahB (zW hl),fun l hn=>?_⟩
  have g2:Goes f H1 (upd H1 l (.lst vs)):=.of_same (zJ hn _) g1.2
  have nl:=fresh_ne g1.2 hn
  refine q ds l vs _ (g1.trans g2) (g1.free e.fd hn) zo (Reps.mono (fun b o hb=>?_) _ _ rs) p
  have hb':=zp hb
  have hbl:b≠l:=fun z=>by
   have:=hb'.2
   rw [z,hn] at this
   cases this
  refine zk (fun z=>?_) (by rw [zl hbl];exact hb'.2)
  rcases z with z | z
  ·exact hb'.1 (.inl z)
  ·rcases agC.mp z with z | z
   ·exact hbl z
   ·exact hb'.1 (.inr z)
end
noncomputable def spN {γ:Type} (K:ags) (n:Nat) (pre:γ->List DV->Prop) (post:γ->List PyData->Prop):Sp:=fun vs H Q _=>∃ f xs c,RepVs K f H xs vs/\xs.length=n/\FOk f H/\pre c xs /\
 ∀ es D vs' H',Goes f H H'->H D=none->H' D=some (.lst vs')->Reps K (hide H' (f.with D)) es vs'->post c es->Q (.ref D) H'
noncomputable def PSn (K:ags) (f:Fx) (ts:TS) (ρ:zi) (R:List PyData->Prop):Prop:=∀ (σ:St) (H:Hp) (E:Ends),EnvOk K f ρ σ H ->
 (∀ es D vs H',Goes f H H'->H D=none->H' D=some (.lst vs)->Reps K (hide H' (f.with D)) es vs->R es->E.rt (.ref D) H')->ts E σ H
section
variable {K:ags} {f:Fx} {ρ:zi} {R:List PyData->Prop} {te:TE} {ts tu:TS} {tt:TT} {t:TA} {i:Nat} {D:Addr} {es:List PyData} {O:OEnds}
theorem afZ (h:PEdO K f te ρ R):PSn K f (abG te) ρ R:=fun σ H E e q=>h σ H E.rt e q
theorem afj {γ:Type} {n:Nat} {pre:γ->List DV->Prop} {post:γ->List PyData->Prop} {E:XK} (c:γ) (h:PAd K f t ρ fun xs=>xs.length=n/\pre c xs/\∀ es,post c es->R es):PEdO K f (qz (spN K n pre post) [] E t) ρ R:=fun σ H Q e q =>
 h σ H _ e fun xs vs H1 g1 r1 ⟨hl,hp,k⟩=>⟨f,xs,c,by rw [ahq];exact r1,hl,g1.2,hp,fun es D vs' H' g' hn h1 rs p=>q es D vs' H' (g1.trans g') (g1.free e.fd hn) h1 rs (k es p)⟩
theorem CSt.goF {σ:St} {H H' H2:Hp} (hD:f.f≠some D) (hM:D∉f.M) (c:CSt K f D H2 ρ es σ H) (g:Goes f H H'):CSt K f D H2 ρ es σ H':=by
 obtain⟨vs,h1,h2⟩:=c.lst
 have nD:¬ (f.f=some D \/ D∈f.M):=fun z=>z.elim hD hM
 have hD':H' D=some (.lst vs):=(zp (g.sm D _ (zk nD h1))).2
 have g2:Goes (f.with D) H H':=⟨fun b o hb=>by
   have hb':=zp hb
   have nb:b≠D:=fun z=>hb'.1 (.inr (by rw [z];exact agD))
   have:=zp (g.sm b o (zk (fun z=>hb'.1 (z.elim .inl fun z=>.inr (agw _ z))) hb'.2))
   refine zk (fun z=>?_) this.2
   rcases z with z | z
   ·exact this.1 (.inl z)
   ·rcases agC.mp z with z | z
    ·exact nb z
    ·exact this.1 (.inr z),⟨g.ok.fd,fun b hb=>by
   rcases agC.mp hb with rfl | hb
   ·exact⟨_,hD'⟩
   ·exact g.ok.mm b hb,fun q eq hq=>by
   rcases agC.mp hq with rfl | hq
   ·exact hD eq
   ·exact g.ok.nm q eq hq⟩,fun b hb=>by
   rcases agC.mp hb with rfl | hb
   ·rw [hD',h1]
   ·exact g.kp b hb⟩
 exact c.go g2 (c.env.mono g2)
end
section
variable {P:Program} {w:World} {K:ags} {mg:Str->Option Value} {base:Heap} {k:Nat} {x:Str} {st:Stmt} {ps:List Str} {N:List Str} {n:Nat} {γ:Type} {pre:γ->List DV->Prop} {post:γ->List PyData->Prop}
theorem Def.okN (F:Def K mg x st ps) (S:FnScope N ps (zh st)) (hn:ps.length=n)
  (h:∀ (fa:Addr) (cdv:Value) (A:Around) (outer:List Env) (s:Shared) (H:Hp) (E:XK),Room k (A.deeper (envOfC x (zh st) s.heap.objs.size fa cdv)) ->
   ∃ t,PSs (yF CX0 P w K mg base N x (zh st) fa cdv A outer s H E).nox (zN st) t/\∀ (f:Fx) (xs:List DV) (c:γ),xs.length=n->pre c xs->PSn K f t (yS N xs) (post c)) :
  FnIn P w K mg base (k+1) x ps (spN K n pre post):=by
 obtain⟨fa,fd,F1,F2,F3⟩:=F.ex
 refine⟨fa,fd,F1.ok S (fun vs H Q E h=>?_) (fun cdv A outer s H vs Q E hr hs=>?_),F3,F1.kp,F2⟩
 ·obtain⟨f,xs,c,r,hl,_⟩:=h
  rw [r.length,hl,hn]
 ·obtain⟨f,xs,c,r,hl,fo,hp,q⟩:=hs
  obtain⟨t,h1,h2⟩:=h fa cdv A outer s H E hr
  exact⟨t,h1,h2 f xs c hl hp (start N vs) H _ (yK r fo) (fun es D vs' H' g hn' h1' rs p=>q es D vs' H' g hn' h1' rs p)⟩
end
section
variable {X:Cx} {pins:List (Addr×Obj)} {σ:St} {H:Hp} {s:Shared} {h':Heap}
theorem Inv.keptL {t':Nat} (I:Inv X pins σ H s) (k:∀ b u,b≠X.env.locals->s.heap.get? b=some u->h'.get? b=some u) (hL:∃ o,h'.get? X.env.locals=some o) (ns:∀ m,s.heap.Ns X.env.locals m->h'.Ns X.env.locals m):Inv X pins σ H { s with heap:=h',toks:=t' }:=by
 have fL:H X.env.locals=none:=I.free
 refine I.step (g':=s.gens) (d':=s.drawn) (ch:=[]) (fun _ z=>nomatch z) (fun b o n _ _ e _=>k b o n e) (fun b o n _ _ e _=>⟨o.slots,k b o n e⟩) (fun b o _ _ e=>e) (fun b o _ e=>?_) (fun _ _ e=>e) (fun _ _ _ e=>e) (fun _ _ e=>e) ns (fun a o e=>(I.hok a o e).stay (fun b u hb q=>k b u (fun z=>?_) q) (fun _ q=>q) fun _ _ q=>q) I.bare
 ·by_cases hb:b=X.env.locals
  ·subst hb;exact hL
  ·exact⟨o,k b o hb e⟩
 ·rcases hb with hb | hb
  ·rw [<-hb,z,fL] at e;cases e
  ·rw [z,fL] at hb;cases hb
end
section
variable {X:Cx} {pins:List (Addr×Obj)} {σ:St} {H:Hp} {s:Shared} {h':Heap}
theorem Inv.laidL {t':Nat} {D:Addr} {o:HO} (I:Inv X pins σ H s) (k:∀ b u,b≠X.env.locals->s.heap.get? b=some u->h'.get? b=some u) (hL:∃ o,h'.get? X.env.locals=some o) (ns:∀ m,s.heap.Ns X.env.locals m->h'.Ns X.env.locals m)
  (nD:∀ b u,s.heap.get? b=some u->b≠D) (hD:H D=none) (new:ObjOk X.prog X.w (upd H D o) h' D o):Inv X pins σ (upd H D o) { s with heap:=h',toks:=t' }:=by
 have fL:H X.env.locals=none:=I.free
 refine I.step (g':=s.gens) (d':=s.drawn) (ch:=[]) (fun _ z=>nomatch z) (fun b o n _ _ e _=>k b o n e) (fun b o n _ _ e _=>⟨o.slots,k b o n e⟩) (fun b u _ e n=>by rw [zl (nD b u e)];exact n) (fun b o _ e=>?_) (fun b xs e=>by rw [zl (zA e hD)];exact e) (fun b u v e=>by rw [zl (zA e hD)];exact e) (fun b ps e=>by rw [zl (zA e hD)];exact e) ns (fun a u e=>?_) I.bare
 ·by_cases hb:b=X.env.locals
  ·subst hb;exact hL
  ·exact⟨o,k b o hb e⟩
 ·by_cases ha:a=D
  ·subst ha
   rw [zo] at e
   cases e
   exact new
  ·rw [zl ha] at e
   refine (I.hok a u e).stay (fun b v hb q=>k b v (fun z=>?_) q) (fun c q=>by rw [zl (zA q hD)];exact q) fun c xs q=>by rw [zl (zA q hD)];exact q
   rcases hb with hb | hb
   ·rw [<-hb,z,fL] at e;cases e
   ·rw [z,fL] at hb;cases hb
end
end L2
end
section
namespace L2
open PySem PySem.W PyProof.Rows
structure Tot (n:Nat) (lt:Nat->Nat->Bool):Prop where
 tri:∀ i j,i<n->j<n->i≠j->lt i j=!lt j i
 tra:∀ i j k,i<n->j<n->k<n->lt i j=true->lt j k=true->lt i k=true
noncomputable def Ans (cmp:Nat->Nat->(Bool->Shared->Prop)->Shared->Prop) (n:Nat) (lt:Nat->Nat->Bool) (s:Shared):Prop:=∀ i j C,i<n->j<n->C (lt i j) s->cmp i j C s
noncomputable def Pm (n:Nat) (p:Array Nat):Prop:=p.toList.Perm (agK n)
noncomputable def Up (lt:Nat->Nat->Bool) (p:Array Nat) (m:Nat):Prop:=∀ i j,i<j->j<m->lt (p.getD i 0) (p.getD j 0)=true
noncomputable def Dn (lt:Nat->Nat->Bool) (p:Array Nat) (m:Nat):Prop:=∀ i j,i<j->j<m->lt (p.getD j 0) (p.getD i 0)=true
theorem Pm.size {n:Nat} {p:Array Nat} (h:Pm n p):p.size=n:=by
 have:=h.length_eq
 rwa [agF,ag3] at this
theorem yA (p:Array Nat) (i:Nat):p.getD i 0=p.toList.getD i 0:=by
 by_cases h:i<p.size <;> simp [ahF,h,List.getD]
theorem Pm.lt {n:Nat} {p:Array Nat} (h:Pm n p) {i:Nat} (hi:i<n):p.getD i 0<n:=by
 have hs:=h.size
 have hl:i<p.toList.length:=by rw [agF,hs];exact hi
 rw [yA,agp,agq hl]
 exact agS.mp (h.mem_iff.mp (ahx hl))
theorem Pm.ne {n:Nat} {p:Array Nat} (h:Pm n p) {i j:Nat} (hi:i<n) (hj:j<n) (ne:i≠j):p.getD i 0≠p.getD j 0:=by
 have hs:=h.size
 have nd:p.toList.Nodup:=h.nodup_iff.mpr aiQ
 have li:i<p.toList.length:=by rw [agF,hs];exact hi
 have lj:j<p.toList.length:=by rw [agF,hs];exact hj
 rw [yA,yA,agp,agp,agq li,agq lj]
 intro e
 exact ne ((aik nd).mp e)
theorem Pm.range (n:Nat):Pm n (ag9 (agK n)):=List.Perm.refl _
theorem Pm.of {n:Nat} {p q:Array Nat} (h:Pm n p) (e:q.Perm p):Pm n q:=(Array.perm_iff_toList_perm.mp e).trans h
theorem abh {p q:Array Nat} {i j:Nat} (h:p[i]?=q[j]?):p.getD i 0=q.getD j 0:=by
 rw [ahv,ahv,h]
section
variable {cmp:Nat->Nat->(Bool->Shared->Prop)->Shared->Prop} {n:Nat} {lt:Nat->Nat->Bool} {s:Shared} {p:Array Nat}
theorem Up.more (T:Tot n lt) (hp:Pm n p) {m:Nat} (h1:1<=m) (hm:m<n) (u:Up lt p m) (h:lt (p.getD (m - 1) 0) (p.getD m 0)=true):Up lt p (m+1):=fun i j hij hj=>by
 by_cases e:j=m
 ·subst e
  by_cases e2:i=j - 1
  ·subst e2;exact h
  ·exact T.tra _ _ _ (hp.lt (by omega)) (hp.lt (by omega)) (hp.lt hm) (u i (j - 1) (by omega) (by omega)) h
 ·exact u i j hij (by omega)
theorem Dn.more (T:Tot n lt) (hp:Pm n p) {m:Nat} (h1:1<=m) (hm:m<n) (u:Dn lt p m) (h:lt (p.getD m 0) (p.getD (m - 1) 0)=true):Dn lt p (m+1):=fun i j hij hj=>by
 by_cases e:j=m
 ·subst e
  by_cases e2:i=j - 1
  ·subst e2;exact h
  ·exact T.tra _ _ _ (hp.lt hm) (hp.lt (by omega)) (hp.lt (by omega)) h (u i (j - 1) (by omega) (by omega))
 ·exact u i j hij (by omega)
theorem qm (T:Tot n lt) (W:Ans cmp n lt s) (hp:Pm n p) {Q:Nat->Shared->Prop}:∀ f m,1<=m->m+f<=n->Up lt p m->(∀ m',m<=m'->m'<=m+f->Up lt p m'->(m'=m+f \/ lt (p.getD m' 0) (p.getD (m' - 1) 0)=true)->Q m' s)->(kas_asc p f m).kasWp cmp Q s
 | 0,m,h1,hf,u,q=>q m (agv _) (agv _) u (.inl rfl)
 | f+1,m,h1,hf,u,q=>by
  refine W _ _ _ (hp.lt (by omega)) (hp.lt (by omega)) ?_
  cases e:lt (p.getD m 0) (p.getD (m - 1) 0) with
  | true=>exact q m (agv _) (by omega) u (.inr e)
  | false =>
   have e2:lt (p.getD (m - 1) 0) (p.getD m 0)=true:=by
    rw [T.tri _ _ (hp.lt (by omega)) (hp.lt (by omega)) (hp.ne (by omega) (by omega) (by omega)),e]
    rfl
   exact qm T W hp f (m+1) (by omega) (by omega) (u.more T hp h1 (by omega) e2) fun m' a b c d=>q m' (by omega) (by omega) c (d.imp (fun z=>by omega) id)
theorem vZ (T:Tot n lt) (W:Ans cmp n lt s) (hp:Pm n p) {Q:Array Nat×Nat×Nat->Shared->Prop}:∀ f m,1<=m->m+f<=n->Dn lt p m->(∀ m',m<=m'->m'<=m+f->Dn lt p m'->Q (p,m',0) s)->(kas_desc f p m 0).kasWp cmp Q s
 | 0,m,h1,hf,u,q=>q m (agv _) (agv _) u
 | f+1,m,h1,hf,u,q=>by
  refine W _ _ _ (hp.lt (by omega)) (hp.lt (by omega)) ?_
  cases e:lt (p.getD m 0) (p.getD (m - 1) 0) with
  | true=>exact vZ T W hp f (m+1) (by omega) (by omega) (u.more T hp h1 (by omega) e) fun m' a b c=>q m' (by omega) (by omega) c
  | false =>
   have e2:lt (p.getD (m - 1) 0) (p.getD m 0)=true:=by
    rw [T.tri _ _ (hp.lt (by omega)) (hp.lt (by omega)) (hp.ne (by omega) (by omega) (by omega)),e]
    rfl
   refine W _ _ _ (hp.lt (by omega)) (hp.lt (by omega)) ?_
   rw [e2]
   exact q m (agv _) (by omega) u
theorem afk {m:Nat} (hm:m<=p.size) (d:Dn lt p m):Up lt (kas_rev p 0 m) m:=fun i j hij hj=>by
 have g:∀ k,k<m->(kas_rev p 0 m).getD k 0=p.getD (m - 1 - k) 0:=fun k hk=>abh (by
  unfold kas_rev
  rw [getElem?_mirror_all hm,if_pos ⟨agT _,hk⟩,Nat.zero_add])
 rw [g i (by omega),g j hj]
 exact d _ _ (by omega) (by omega)
theorem abV (T:Tot n lt) (W:Ans cmp n lt s) (hp:Pm n p) (hn:1<=n) {Q:Nat×Array Nat->Shared->Prop} (q:∀ m p',1<=m->m<=n->Pm n p'->Up lt p' m->Q (m,p') s):(kas_count n p).kasWp cmp Q s:=by
 unfold kas_count
 rw [KasT.kasWp_bind]
 refine qm T W hp (n - 1) 1 (agv _) (by omega) (fun i j a b=>by omega) fun m h1 h2 u c=>?_
 by_cases e:(m == n)=true
 ·rw [if_pos e]
  exact q m p h1 (by omega) hp u
 ·rw [if_neg e]
  have hm:m<n:=by
   have:m≠n:=fun z=>e (by rw [z];exact beq_self_eq_true _)
   omega
  by_cases e2:m > 1
  ·rw [if_pos e2]
   refine W _ _ _ (hp.lt (by omega)) (hp.lt (by omega)) ?_
   rw [u 0 (m - 1) (by omega) (by omega)]
   exact q m p h1 (by omega) hp u
  ·rw [if_neg e2]
   obtain rfl:m=1:=by omega
   have c':lt (p.getD 1 0) (p.getD (1 - 1) 0)=true:=c.resolve_left (by omega)
   unfold kas_descPart
   rw [KasT.kasWp_bind]
   refine vZ T W hp (n - (1+1)) (1+1) (by omega) (by omega) (Dn.more T hp (agv 1) hm (fun i j a b=>by omega) c') fun m' a b d=>?_
   rw [if_neg (by show ¬ (0 > 0);omega)]
   unfold kas_tail3
   rw [KasT.kasWp_bind]
   have hp2:Pm n (kas_rev p 0 m'):=hp.of (mirror_perm _ _ _ _)
   exact qm T W hp2 (n - m') m' (by omega) (by omega) (afk (by rw [hp.size];omega) d) fun m2 a2 b2 u2 _=>q m2 _ (by omega) (by omega) hp2 u2
theorem jW (T:Tot n lt) (W:Ans cmp n lt s) (hp:Pm n p) {k:Nat} (hk:k<n) (u:Up lt p k) {Q:Nat->Shared->Prop}:∀ f l r,r - l<=f->l<=r->r<=k->(∀ i,i<l->lt (p.getD i 0) (p.getD k 0)=true)->(∀ i,r<=i->i<k->lt (p.getD k 0) (p.getD i 0)=true) ->
  (∀ m,m<=k->(∀ i,i<m->lt (p.getD i 0) (p.getD k 0)=true)->(∀ i,m<=i->i<k->lt (p.getD k 0) (p.getD i 0)=true)->Q m s)->(kas_place p k f l r).kasWp cmp Q s
 | 0,l,r,hf,hlr,hr,lo,hi,q=>by
  obtain rfl:l=r:=by omega
  exact q l hr lo hi
 | f+1,l,r,hf,hlr,hr,lo,hi,q=>by
  unfold kas_place
  by_cases e:l >= r
  ·rw [if_pos e]
   obtain rfl:l=r:=by omega
   exact q l hr lo hi
  ·rw [if_neg e]
   refine W _ _ _ (hp.lt hk) (hp.lt (by omega)) ?_
   have hm:(l+r) / 2<k:=by omega
   cases e2:lt (p.getD k 0) (p.getD ((l+r) / 2) 0) with
   | true =>
    refine jW T W hp hk u f l ((l+r) / 2) (by omega) (by omega) (by omega) lo (fun i h1 h2=>?_) q
    by_cases e3:i=(l+r) / 2
    ·rw [e3];exact e2
    ·exact T.tra _ _ _ (hp.lt hk) (hp.lt (by omega)) (hp.lt (by omega)) e2 (u _ _ (by omega) h2)
   | false =>
    have e4:lt (p.getD ((l+r) / 2) 0) (p.getD k 0)=true:=by
     rw [T.tri _ _ (hp.lt (by omega)) (hp.lt hk) (hp.ne (by omega) hk (by omega)),e2]
     rfl
    refine jW T W hp hk u f ((l+r) / 2+1) r (by omega) (by omega) hr (fun i h1=>?_) hi q
    by_cases e3:i=(l+r) / 2
    ·rw [e3];exact e4
    ·exact T.tra _ _ _ (hp.lt (by omega)) (hp.lt (by omega)) (hp.lt hk) (u _ _ (by omega) hm) e4
theorem afl {k m:Nat} (hk:k<p.size) (hm:m<=k) (u:Up lt p k) (lo:∀ i,i<m->lt (p.getD i 0) (p.getD k 0)=true) (hi:∀ i,m<=i->i<k->lt (p.getD k 0) (p.getD i 0)=true):Up lt (bubble p k (k - m)) (k+1):=fun i j hij hj=>by
 have g:∀ t,t<=k->(bubble p k (k - m)).getD t 0=p.getD (if t=m then k else if t<m then t else t - 1) 0:=fun t ht=>abh (by
  rw [getElem?_bubble hk (k - m) (by omega),show k - (k - m)=m by omega]
  by_cases e1:t=m
  ·rw [if_pos e1,if_pos e1]
  ·rw [if_neg e1,if_neg e1]
   by_cases e2:t<m
   ·rw [if_neg (by omega),if_pos e2]
   ·rw [if_pos (by omega),if_neg e2])
 rw [g i (by omega),g j (by omega)]
 by_cases a1:i=m
 ·rw [if_pos a1,if_neg (by omega),if_neg (by omega)]
  exact hi _ (by omega) (by omega)
 ·rw [if_neg a1]
  by_cases a2:j=m
  ·rw [if_pos a2,if_pos (by omega)]
   exact lo _ (by omega)
  ·rw [if_neg a2]
   by_cases a3:i<m
   ·rw [if_pos a3]
    by_cases a4:j<m
    ·rw [if_pos a4];exact u _ _ hij (by omega)
    ·rw [if_neg a4];exact u _ _ (by omega) (by omega)
   ·rw [if_neg a3,if_neg (by omega)]
    exact u _ _ (by omega) (by omega)
theorem abi (T:Tot n lt) (W:Ans cmp n lt s) {Q:Array Nat->Shared->Prop}:∀ f k (p:Array Nat),Pm n p->k+f=n->Up lt p k->(∀ p',Pm n p'->Up lt p' n->Q p' s)->(kas_bin f p k).kasWp cmp Q s
 | 0,k,p,hp,hf,u,q=>by
  obtain rfl:k=n:=by omega
  exact q p hp u
 | f+1,k,p,hp,hf,u,q=>by
  unfold kas_bin
  rw [KasT.kasWp_bind]
  refine jW T W hp (by omega) u k 0 k (by omega) (agT _) (agv _) (fun i hi=>by omega) (fun i a b=>by omega) fun m h1 lo hi=>?_
  exact abi T W f (k+1) _ (hp.of (bubble_perm _ _ _)) (by omega) (afl (by rw [hp.size];omega) h1 u lo hi) q
theorem acN (T:Tot n lt) (W:Ans cmp n lt s) (hn:1<=n) {Q:Array Nat->Shared->Prop} (q:∀ p,Pm n p->Up lt p n->Q p s):(kas_sort n).kasWp cmp Q s:=by
 unfold kas_sort
 rw [KasT.kasWp_bind]
 refine abV T W (Pm.range n) hn fun m p h1 h2 hp u=>?_
 by_cases e:m<n
 ·show (if m<n then _ else _:KasT (Array Nat)).kasWp cmp Q s
  rw [if_pos e,show max m 1=m by omega]
  exact abi T W (n - m) m p hp (by omega) u q
 ·show (if m<n then _ else _:KasT (Array Nat)).kasWp cmp Q s
  rw [if_neg e]
  obtain rfl:m=n:=by omega
  exact q p hp u
end
end L2
end
section
namespace L2
open PySem PySem.W PySem.Calls PyProof.Rows
theorem vb:∀ f n r,r<=1->minRun' f n r<=n+1
 | 0,n,r,h=>by show n+r<=n+1;omega
 | f+1,n,r,h=>by
  rw [minRun'_succ]
  by_cases e:n<64
  ·rw [if_pos e];omega
  ·rw [if_neg e]
   have:=vb f (n / 2) (max r (n % 2)) (by omega)
   omega
theorem aaD {n:Nat} (h:1<=n):minRun' n n 0<=n:=by
 obtain⟨f,rfl⟩:∃ f,n=f+1:=⟨n - 1,by omega⟩
 rw [minRun'_succ]
 by_cases e:f+1<64
 ·rw [if_pos e];omega
 ·rw [if_neg e]
  have:=vb f ((f+1) / 2) (max 0 ((f+1) % 2)) (by omega)
  omega
section
variable {P:Program} {w:World} {A:Around} {X:Value->Shared->Prop} {s:Shared} {κ:SortKind} {it:Array Keyed} {n:Nat} {lt:Nat->Nat->Bool} {Q:SortSt->Shared->Prop}
theorem adR (W:Ans (kas_cmp P w A κ it) n lt s) (T:Tot n lt) (h2:2<=n) (up:∀ i,i+1<n->lt (i+1) i=false)
  (q:∀ st',arrOf st'=(ag9 (agK n)).map (kas_item it)->failedOf st'=none->Q st' s):kasC (model P w) A X sortRuns' (fun _ st' s'=>Q st' s') (kas_st κ it (ag9 (agK n))) s:=by
 obtain⟨r,rfl⟩:∃ r,n=r+2:=⟨n - 2,by omega⟩
 have sz:(ag9 (agK (r+2))).size=r+2:=by simp
 have szA:(arrOf (kas_st κ it (ag9 (agK (r+2))))).size=r+2:=by
  show (Array.map _ _).size=_
  rw [aja,sz]
 have mr:=aaD (n:=r+2) (by omega)
 have at_:∀ i,i<r+2->(ag9 (agK (r+2))).getD i 0=i:=fun i hi=>by simp [ahF,hi]
 have cnt:(kas_count (r+2) (ag9 (agK (r+2)))).kasWp (kas_cmp P w A κ it) (fun z s'=>z=(r+2,ag9 (agK (r+2)))/\s'=s) s:=by
  unfold kas_count
  rw [KasT.kasWp_bind]
  refine qm T W (Pm.range _) (r+2 - 1) 1 (agv _) (by omega) (fun i j a b=>by omega) fun m a b u c=>?_
  have e:m=r+2:=by
   rcases c with c | c
   ·omega
   ·by_cases hm:m<r+2
    ·rw [at_ m hm,at_ (m - 1) (by omega)] at c
     have:=up (m - 1) (by omega)
     rw [show m - 1+1=m by omega,c] at this
     cases this
    ·omega
  subst e
  rw [if_pos (beq_self_eq_true _)]
  exact⟨rfl,rfl⟩
 rw [sortRuns'_eq]
 apply kasC_bind;apply kasC_get
 simp only [szA]
 apply kasC_bind;apply kasC_range
 change kasC _ _ _ (forIn (0 :: 1 :: List.range' 2 r) _ _) _ _ _
 apply kasC_cons
 simp only [Nat.sub_zero,Nat.zero_add,show ¬ (0 >= r+2) by omega,if_false]
 refine kasC_bind (kas_count_ (by omega) (aiV sz.symm) (fun m p' s' _ _ _ z=>?_) cnt)
 obtain⟨z,rfl⟩:=z
 cases z
 simp only [show ¬ (r+2<minRun' (r+2) (r+2) 0) by omega,if_false]
 apply kasC_bind;apply kasC_get
 change kasC _ _ _ (modify (fun st=>setPending st ((pendingOf st).push (0,r+2,0))) >>= _) _ _ _
 apply kasC_bind;apply kasC_modify;apply kasC_pure
 apply kasC_cons
 simp only [show r+2 >= r+2 from agv _,if_true]
 apply kasC_pure
 apply kasC_bind;apply kasC_range
 change kasC _ _ _ (forIn (0 :: 1 :: List.range' 2 r) _ _) _ _ _
 apply kasC_cons
 apply kasC_bind;apply kasC_get
 rw [if_pos (show (pendingOf (setPending (kas_st κ it (ag9 (agK (r+2)))) ((pendingOf (kas_st κ it (ag9 (agK (r+2))))).push (0,r+2,0)))).size<=1 from agv 1)]
 apply kasC_pure
 exact kasC_pure (q _ rfl rfl)
theorem acO (W:Ans (kas_cmp P w A κ it) n lt s) (T:Tot n lt) (h2:2<=n) (hs:n<64 \/ ∀ i,i+1<n->lt (i+1) i=false)
  (q:∀ st' p,Pm n p->Up lt p n->arrOf st'=p.map (kas_item it)->failedOf st'=none->Q st' s):kasC (model P w) A X sortRuns' (fun _ st' s'=>Q st' s') (kas_st κ it (ag9 (agK n))) s:=by
 rcases hs with hs | hs
 ·exact kas_runs h2 hs (G:=fun p s'=>s'=s/\Pm n p/\Up lt p n) (fun p st' s' _ e f ⟨z,a,b⟩=>by subst z;exact q st' p a b e f) (acN T W (by omega) fun p a b=>⟨rfl,a,b⟩)
 ·refine adR W T h2 hs fun st' e f=>q st' _ (Pm.range n) (fun i j hij hj=>?_) e f
  have at_:∀ i,i<n->(ag9 (agK n)).getD i 0=i:=fun i hi=>by simp [ahF,hi]
  rw [at_ i (by omega),at_ j hj]
  have key:∀ d,i+d+1<n->lt i (i+d+1)=true:=fun d=>by
   induction d with
   | zero=>intro hd;rw [T.tri _ _ (by omega) hd (by omega),hs i hd];rfl
   | succ d ih =>
    intro hd
    refine T.tra _ (i+d+1) _ (by omega) (by omega) hd (ih (by omega)) ?_
    rw [T.tri _ _ (by omega) hd (by omega),show i+(d+1)+1=i+d+1+1 by omega,hs (i+d+1) (by omega)]
    rfl
  have:=key (j - i - 1) (by omega)
  rwa [show i+(j - i - 1)+1=j by omega] at this
end
section
variable {P:Program} {w:World} {A:Around} {X:Value->Shared->Prop} {s:Shared} {κ:SortKind} {vs:List Value} {lt:Nat->Nat->Bool}
structure Asks (P:Program) (w:World) (A:Around) (s:Shared) (κ:SortKind) (vs:List Value) (lt:Nat->Nat->Bool):Prop where
 kind:2<=vs.length->∀ (h':Heap),(∀ b o,s.heap.get? b=some o->h'.get? b=some o)->∀ R:SortKind->Shared->Prop,R κ { s with heap:=h' }->wpAny (model P w) A (keyKind' vs.toArray) R (fun _ _=>False) { s with heap:=h' }
 less:∀ (h':Heap),(∀ b o,s.heap.get? b=some o->h'.get? b=some o)->Ans (kas_ask P w A κ vs) vs.length lt { s with heap:=h' }
 ord:Tot vs.length lt
 few:vs.length<64 \/ ∀ i,i+1<vs.length->lt (i+1) i=false
theorem adS {a:Addr} {e:Nat} {R:PySem.Fin->Shared->Prop} (hz:vs.length<=sizeLine) (ha:s.heap.get? a=some (seqObj "list" vs.toArray e)) {h0:Heap} (h0s:∀ b o,h0.get? b=some o->b≠a/\s.heap.get? b=some o) (K:Asks P w A { s with heap:=h0 } κ vs lt)
  (q:∀ (h':Heap) p c,Pm vs.length p->Up lt p vs.length->(∀ b o,b≠a->s.heap.get? b=some o->h'.get? b=some o)->h'.get? a=some (seqObj "list" (p.toList.map fun i=>vs.getD i Value.none).toArray c)->R (.done (.ret .none)) { s with heap:=h' }) :
  wpAny (model P w) A (Builtin.«list.sort» ⟨[.ref a],[]⟩) R X s:=by
 let h1:=s.heap.update a (aim fun _=>(#[]:Array Value))
 obtain⟨e1,a1⟩:∃ e1,h1.get? a=some (seqObj "list" #[] e1):=⟨_,get?_update_seq ha fun _=>#[]⟩
 let h2':=(h1.push (seqObj "tuple" vs.toArray 0)).push (seqObj "list" #[] 0)
 have a2:h2'.get? a=some (seqObj "list" #[] e1):=agt _ (agt _ a1)
 have k2:∀ b o,b≠a->s.heap.get? b=some o->h2'.get? b=some o:=fun b o nb eb=>agt _ (agt _ ((ahQ _ _ (ah5 nb)).trans eb))
 have kz:∀ b o,h0.get? b=some o->h2'.get? b=some o:=fun b o eb=>k2 b o (h0s b o eb).1 (h0s b o eb).2
 rw [list_sort_plain]
 apply wpAny_bind;apply listItems_at ha rfl
 apply wpAny_bind;refine listUpdate_at ha rfl ?_ (by simpa using hz) (agT _)
 apply wpAny_bind;apply seqEpoch_at a1 rfl
 apply wpAny_bind;refine wpAny_newTuple ?_ (by simpa using hz)
 apply wpAny_bind;refine wpAny_newList ?_ (agT _)
 apply wpAny_holding
 dsimp only
 change wpAny _ A _ _ _ { s with heap:=h2' }
 have st0:SortSt.mk' κ (vs.toArray.zip vs.toArray) #[] 7 none=kas_st κ (pairsOf vs) (ag9 (agK vs.length)):=by
  have z:=kas_range (pairsOf vs)
  rw [pairsOf_size] at z
  unfold kas_st
  rw [z]
  rfl
 have fin:∀ (st':SortSt) (p:Array Nat),Pm vs.length p->Up lt p vs.length->arrOf st'=p.map (kas_item (pairsOf vs))->failedOf st'=none->wpAny (model P w) A (do
   let sorted:=(arrOf st').map (·.2)
   let touched:=(<- seqEpoch a) != e1
   Builtin.List.listUpdate (.ref a) fun _=>sorted
   if let some e:=failedOf st' then rule "list.sort.comparison-raised";throw e
   if touched then rule "list.sort.modified";raiseError "ValueError" "list modified during sort"
   ret .none) R X { s with heap:=h2' }:=fun st' p x1 x2 x3 x4=>by
  have out:(arrOf st').map (·.2)=(p.toList.map fun i=>vs.getD i Value.none).toArray:=by
   apply Array.toList_inj.mp
   rw [x3,Array.map_map,Array.toList_map]
   refine aiy fun i _=>?_
   show (kas_item (pairsOf vs) i).2=_
   rw [kas_item_eq]
  dsimp only
  rw [out,x4]
  obtain⟨c,a3⟩:∃ c,(h2'.update a (aim fun _=>(p.toList.map fun i=>vs.getD i Value.none).toArray)).get? a=some (seqObj "list" (p.toList.map fun i=>vs.getD i Value.none).toArray c):=⟨_,get?_update_seq a2 fun _=>(p.toList.map fun i=>vs.getD i Value.none).toArray⟩
  apply wpAny_bind;apply seqEpoch_at a2 rfl
  apply wpAny_bind
  refine listUpdate_at a2 rfl ?_ (agT _) (by
   rw [agE,agr,agF,x1.size];omega)
  simp only [bne_self_eq_false,aiD,if_false]
  exact wpAny_pure (q _ p c x1 x2 (fun b o nb eb=>(ahQ _ _ (ah5 nb)).trans (k2 b o nb eb)) a3)
 by_cases h2:vs.length<2
 ·have two:vs.toArray.size<2:=by rw [agE];exact h2
  rw [if_pos two,if_pos two]
  apply wpAny_bind;apply wpAny_pure
  apply wpAny_bind
  rw [StateT.run_pure]
  apply wpAny_pure
  have z:=kas_range (pairsOf vs)
  rw [pairsOf_size] at z
  exact fin _ (ag9 (agK vs.length)) (Pm.range _) (fun i j x y=>by omega) z.symm rfl
 have two:¬ vs.toArray.size<2:=by rw [agE];exact h2
 rw [if_neg two,if_neg two]
 apply wpAny_bind
 refine wpAny_mono (K.kind (by omega) h2' kz (fun κ' s'=>κ'=κ/\s'={ s with heap:=h2' }) ⟨rfl,rfl⟩) ?_ fun _ _ z=>z.elim
 rintro κ' s' ⟨eκ,es⟩
 rw [eκ,es]
 have W:=K.less h2' kz
 rw [kas_ask_eq] at W
 rw [st0]
 apply wpAny_bind
 refine wpAny_mono (acO (Q:=fun st' s'=>s'={ s with heap:=h2' }/\∃ p,Pm vs.length p/\Up lt p vs.length/\arrOf st'=p.map (kas_item (pairsOf vs))/\failedOf st'=none) W K.ord (by omega) K.few fun st' p x1 x2 x3 x4=>⟨rfl,p,x1,x2,x3,x4⟩) ?_ fun _ _ z=>z
 rintro⟨⟨⟩,st'⟩ s' ⟨rfl,p,x1,x2,x3,x4⟩
 exact fin st' p x1 x2 x3 x4
end
mutual
noncomputable def qI:PyData->Bool
 | .int _=>true
 | .str s=>(PyData.str s).canLay0
 | .tuple xs=>acP xs
 | _=>false
noncomputable def acP:List PyData->Bool
 | []=>true
 | x :: xs=>qI x && acP xs
end
mutual
noncomputable def afm:PyData->PyData->Bool
 | .int _,.int _=>true
 | .str _,.str _=>true
 | .tuple xs,.tuple ys=>af0 xs ys
 | _,_=>false
noncomputable def af0:List PyData->List PyData->Bool
 | [],_=>true
 | _ :: _,[]=>true
 | x :: xs,y :: ys=>if ah7 x y=true then af0 xs ys else afm x y
end
end L2
end
section
namespace L2
open PySem PySem.Spec PyProof.Rows PySem.SeqAt
open PySem.AutoSeq1 (wpAny_loadPart')
open PySem.MeetsSeq PySem.MeetsSeq2 PySem.MeetsSeq3
noncomputable def agi (A:Around) (s:Shared) (y x:Value) (b:Bool):Prop :=
 ∀ (prog:Program) (w:World) (E:Value->Shared->Prop) (Q:Value->Shared->Prop),Q (.bool b) s->wpAny (model prog w) A (richCompare .Lt y x) Q E s
inductive Lex (A:Around) (s:Shared):List Value->List Value->Bool->Prop where
 | nn:Lex A s [] [] false
 | nc {w ws}:Lex A s [] (w :: ws) true
 | cn {v vs}:Lex A s (v :: vs) [] false
 | eq {v w vs ws b}:EqAt A s v w true->Lex A s vs ws b->Lex A s (v :: vs) (w :: ws) b
 | lt {v w vs ws b}:EqAt A s v w false->agi A s v w b->Lex A s (v :: vs) (w :: ws) b
end L2
end
section
namespace L2
open PySem PySem.Spec PyProof.Rows PySem.SeqAt PySem.W
noncomputable def acQ:PyData->Option String
 | .tuple (.int _ :: _)=>some "int"
 | .tuple (.str _ :: _)=>some "str"
 | .tuple (.tuple _ :: _)=>some "tuple"
 | _=>none
structure SortOk (T:String) (ds:List PyData):Prop where
 plain:∀ d∈ds,qI d=true
 head:∀ d∈ds,acQ d=some T
 cmp:∀ d∈ds,∀ e∈ds,afm d e=true
 depth:∀ d∈ds,d.depth<=50
 nd:ds.Nodup
noncomputable def pick {α:Type} (d:α) (p:Array Nat) (xs:List α):List α:=p.toList.map fun i=>xs.getD i d
theorem abW {α:Type} {d:α} {n:Nat} {p:Array Nat} {xs:List α} (h:Pm n p) (hn:n=xs.length):(pick d p xs).Perm xs:=by
 have e:(agK n).map (fun i=>xs.getD i d)=xs:=by
  subst hn
  refine aiN fun i=>?_
  rw [agy]
  by_cases hi:i<xs.length
  ·rw [ahb hi,agq hi]
   simp [hi]
  ·rw [agR (by simp;omega),agR (by omega)]
   rfl
 have:=h.map fun i=>xs.getD i d
 rw [e] at this
 exact this
end L2
end
section
namespace L2.ST
open PySem PySem.SetTable
noncomputable def v3 (xs:Array Nat):Prop:=∀ i j,i<j->j<xs.size->xs.getD i 0<xs.getD j 0
theorem acR {xs:Array Nat} {i d e:Nat} (h:i<xs.size):xs.getD i d=xs.getD i e:=by simp [ahF,h]
theorem qJ {xs:Array Nat} {j:Nat}:∀ f lo hi,hi - lo<=f->lo<=hi->hi<=xs.size->(∀ i,i<lo->xs.getD i 0<j)->(∀ i,hi<=i->i<xs.size->j<=xs.getD i 0)->v3 xs ->
  lo<=below.go xs j f lo hi/\below.go xs j f lo hi<=hi/\(∀ i,i<below.go xs j f lo hi->xs.getD i 0<j)/\(∀ i,below.go xs j f lo hi<=i->i<xs.size->j<=xs.getD i 0)
 | 0,lo,hi,hf,hl,hh,a,b,r=>by
  obtain rfl:lo=hi:=by omega
  exact⟨agv _,agv _,a,b⟩
 | f+1,lo,hi,hf,hl,hh,a,b,r=>by
  unfold below.go
  by_cases h:lo<hi
  ·rw [if_pos h]
   have hm:(lo+hi) / 2<xs.size:=by omega
   simp only
   rw [acR (e:=0) hm]
   by_cases h2:xs.getD ((lo+hi) / 2) 0<j
   ·rw [if_pos h2]
    have:=qJ f ((lo+hi) / 2+1) hi (by omega) (by omega) hh (fun i hi'=>by
     by_cases e:i=(lo+hi) / 2
     ·rw [e];exact h2
     ·exact Nat.lt_trans (r i _ (by omega) hm) h2) b r
    exact⟨by omega,this.2.1,this.2.2⟩
   ·rw [if_neg h2]
    have:=qJ f lo ((lo+hi) / 2) (by omega) (by omega) (by omega) a (fun i hi' hs=>by
     by_cases e:i=(lo+hi) / 2
     ·rw [e];omega
     ·have:=r ((lo+hi) / 2) i (by omega) hs;omega) r
    exact⟨this.1,by omega,this.2.2⟩
  ·rw [if_neg h]
   obtain rfl:lo=hi:=by omega
   exact⟨agv _,agv _,a,b⟩
theorem below_ok {xs:Array Nat} (r:v3 xs) (j:Nat):below xs j<=xs.size/\(∀ i,i<below xs j->xs.getD i 0<j)/\(∀ i,below xs j<=i->i<xs.size->j<=xs.getD i 0):=by
 have:=qJ (xs:=xs) (j:=j) xs.size 0 xs.size (by omega) (agT _) (agv _) (fun i hi=>absurd hi (ag6 _)) (fun i a b=>by omega) r
 exact this.2
theorem below_at {xs:Array Nat} (r:v3 xs) {i:Nat} (hi:i<xs.size):below xs (xs.getD i 0)=i:=by
 obtain⟨a,b,c⟩:=below_ok r (xs.getD i 0)
 by_cases h:below xs (xs.getD i 0)<i
 ·have h1:=c _ (agv _) (by omega)
  have h2:=r _ i h hi
  omega
 ·by_cases h2:i<below xs (xs.getD i 0)
  ·have:=b i h2;omega
  ·omega
noncomputable def Tk (t:SetTable) (j:Nat):Prop:=∃ i,i<t.place.size/\t.place.getD i 0=j
theorem abX {t:SetTable} (r:v3 t.place) {i:Nat} (hi:i<t.place.size):t.slot (t.place.getD i 0)=.live i:=by
 unfold slot
 simp only
 rw [below_at r hi]
 have:(t.place[i]? == some (t.place.getD i 0))=true:=by simp [ahF,hi]
 rw [if_pos this]
theorem abY {t:SetTable} (d:t.dummies=#[]) {j:Nat} (h:¬ Tk t j):t.slot j=.empty:=by
 unfold slot
 simp only
 have h1:¬ (t.place[below t.place j]? == some j)=true:=fun e=>h (by
  have e2:=eq_of_beq e
  obtain⟨hl,e3⟩:=aiF.mp e2
  exact⟨_,hl,by simp [ahF,hl,e3]⟩)
 rw [if_neg h1]
 have h2:has t.dummies j=false:=by rw [d];rfl
 rw [h2]
 rfl
noncomputable def road (mask:Nat) (h:Int):Nat->Probe
 | 0=>{ j:=bits h % (mask+1),more:=runEnd mask (bits h % (mask+1)) - bits h % (mask+1),i:=bits h % (mask+1),perturb:=bits h,dummy:=none }
 | k+1=>if (road mask h k).more > 0 then { road mask h k with j:=(road mask h k).j+1,more:=(road mask h k).more - 1 } else
  { road mask h k with j:=(leap mask (road mask h k).i (road mask h k).perturb).1,more:=runEnd mask (leap mask (road mask h k).i (road mask h k).perturb).1 - (leap mask (road mask h k).i (road mask h k).perturb).1,i:=(leap mask (road mask h k).i (road mask h k).perturb).1,perturb:=(leap mask (road mask h k).i (road mask h k).perturb).2 }
theorem jx (mask:Nat) (h:Int):∀ k,(road mask h k).dummy=none
 | 0=>rfl
 | k+1=>by
  unfold road
  split
  ·exact jx mask h k
  ·exact jx mask h k
noncomputable abbrev pos (mask:Nat) (h:Int) (k:Nat):Nat:=(road mask h k).j
noncomputable def lp (mask:Nat) (h:Int):Nat->Nat×Nat
 | 0=>(bits h % (mask+1),bits h)
 | r+1=>leap mask (lp mask h r).1 (lp mask h r).2
theorem jX (mask i:Nat) (h:i<=mask):i<=runEnd mask i/\runEnd mask i<=mask/\runEnd mask i - i<=9:=by
 unfold runEnd
 split <;> omega
theorem v5 (mask:Nat) (h:Int):∀ r,(lp mask h r).1<=mask
 | 0=>aiw.mp (Nat.mod_lt _ (ajp _))
 | r+1=>aiw.mp (Nat.mod_lt _ (ajp _))
noncomputable def At (mask:Nat) (h:Int) (k r d:Nat):Prop:=d<=runEnd mask (lp mask h r).1 - (lp mask h r).1/\road mask h k={ j:=(lp mask h r).1+d,more:=runEnd mask (lp mask h r).1 - (lp mask h r).1 - d,i:=(lp mask h r).1,perturb:=(lp mask h r).2,dummy:=none }
theorem jE (mask:Nat) (h:Int):At mask h 0 0 0:=⟨agT _,rfl⟩
theorem abj {mask:Nat} {h:Int} {k r d:Nat} (a:At mask h k r d) (hd:d<runEnd mask (lp mask h r).1 - (lp mask h r).1):At mask h (k+1) r (d+1):=by
 obtain⟨a1,a2⟩:=a
 refine⟨hd,?_⟩
 unfold road
 rw [a2]
 simp only
 rw [if_pos (by omega)]
 simp only [Probe.mk.injEq,and_true]
 omega
theorem vy {mask:Nat} {h:Int} {k r d:Nat} (a:At mask h k r d) (hd:d=runEnd mask (lp mask h r).1 - (lp mask h r).1):At mask h (k+1) (r+1) 0:=by
 obtain⟨a1,a2⟩:=a
 refine⟨agT _,?_⟩
 unfold road
 rw [a2]
 simp only
 rw [if_neg (by omega)]
 rfl
theorem vz {mask:Nat} {h:Int} {k r:Nat} (a:At mask h k r 0):∀ d,d<=runEnd mask (lp mask h r).1 - (lp mask h r).1->At mask h (k+d) r d
 | 0,_=>a
 | d+1,hd=>abj (vz a d (by omega)) (by omega)
theorem v7 (mask:Nat) (h:Int):∀ r,∃ k,k<=10 * r/\At mask h k r 0
 | 0=>⟨0,agv _,jE mask h⟩
 | r+1=>by
  obtain⟨k,hk,a⟩:=v7 mask h r
  have:=(jX mask _ (v5 mask h r)).2.2
  exact⟨_,by omega,vy (vz a _ (agv _)) rfl⟩
theorem acS (mask:Nat) (h:Int):∀ k,∃ r d,At mask h k r d
 | 0=>⟨0,0,jE mask h⟩
 | k+1=>by
  obtain⟨r,d,a⟩:=acS mask h k
  by_cases e:d<runEnd mask (lp mask h r).1 - (lp mask h r).1
  ·exact⟨r,d+1,abj a e⟩
  ·exact⟨r+1,0,vy a (Nat.le_antisymm a.1 (by omega))⟩
theorem vA (mask:Nat) (h:Int) (k:Nat):pos mask h k<=mask:=by
 obtain⟨r,d,a1,a2⟩:=acS mask h k
 unfold pos
 rw [a2]
 have:=jX mask _ (v5 mask h r)
 show (lp mask h r).1+d<=mask
 omega
noncomputable def stp (m i:Nat):Nat:=(i * 5+1) % m
noncomputable def itr (m:Nat):Nat->Nat->Nat
 | 0,i=>i
 | r+1,i=>stp m (itr m r i)
theorem jF (m:Nat) (a:Nat):∀ b i,itr m (a+b) i=itr m b (itr m a i)
 | 0,i=>rfl
 | b+1,i=>by show stp m (itr m (a+b) i)=stp m (itr m b (itr m a i));rw [jF m a b i]
noncomputable def orb (m:Nat):Nat->Nat->List Nat
 | 0,_=>[]
 | f+1,i=>i :: orb m f (stp m i)
theorem acT (m:Nat):∀ f i r,r<f->(orb m f i)[r]?=some (itr m r i)
 | 0,_,_,h=>absurd h (ag6 _)
 | f+1,i,0,_=>rfl
 | f+1,i,r+1,h=>by
  show (orb m f (stp m i))[r]?=_
  rw [acT m f (stp m i) r (by omega),show r+1=1+r by omega,jF m 1 r i]
  rfl
noncomputable def yw (m:Nat):Bool:=(agK m).all (fun j=>(orb m m 0).contains j) && itr m m 0 == 0
theorem abk:yw 8=true:=by decide +kernel
theorem v8:yw 32=true:=by decide +kernel
theorem vc:yw 128=true:=by decide +kernel
theorem vd:yw 512=true:=by decide +kernel
theorem vB (m:Nat):∀ f i,(orb m f i).length=f
 | 0,_=>rfl
 | f+1,i=>by show (orb m f (stp m i)).length+1=f+1;rw [vB m f]
theorem v9 {m:Nat} (h:yw m=true) {j:Nat} (hj:j<m):∃ r,r<m/\itr m r 0=j:=by
 unfold yw at h
 rw [ahL] at h
 have:=ahY.mp h.1 j (agS.mpr hj)
 have hm:j∈orb m m 0:=by simpa using this
 obtain⟨r,hr,e⟩:=aht hm
 rw [vB] at hr
 have e2:=acT m m 0 r hr
 rw [agq (by rw [vB];exact hr),e] at e2
 exact⟨r,hr,(Option.some.inj e2).symm⟩
theorem abl {m:Nat} (h:yw m=true) {i j:Nat} (hi:i<m) (hj:j<m):∃ r,r<m/\itr m r i=j:=by
 obtain⟨a,ha,ea⟩:=v9 h hi
 obtain⟨b,hb,eb⟩:=v9 h hj
 have e0:itr m m 0=0:=by
  unfold yw at h
  rw [ahL] at h
  exact eq_of_beq h.2
 by_cases hab:a<=b
 ·exact⟨b - a,by omega,by rw [<-ea,<- jF,show a+(b - a)=b by omega];exact eb⟩
 ·refine⟨m - a+b,by omega,?_⟩
  rw [<-ea,<- jF,show a+(m - a+b)=m+b by omega,jF,e0]
  exact eb
theorem abm (mask:Nat) (h:Int):∀ r,(lp mask h r).2=bits h / 32 ^ r
 | 0=>by simp [lp]
 | r+1=>by
  show (lp mask h r).2 / 32=_
  rw [abm mask h r,Nat.div_div_eq_div_mul,ajq]
theorem adT (h:Int):bits h<2 ^ 64:=by
 unfold bits
 have:=ahR h (show (0:Int)<2 ^ 64 by decide)
 have:=ai2 h (show (2 ^ 64:Int)≠0 by decide)
 omega
theorem adU (mask:Nat) (h:Int) (r:Nat) (hr:13<=r):(lp mask h r).2=0:=by
 rw [abm]
 refine Nat.div_eq_of_lt (agG (adT h) ?_)
 exact ag2 (show 2 ^ 64<=32 ^ 13 by decide) (ais (by decide) hr)
theorem aaE (mask:Nat) (h:Int):∀ r,(lp mask h (13+r)).1=itr (mask+1) r (lp mask h 13).1
 | 0=>rfl
 | r+1=>by
  show (leap mask (lp mask h (13+r)).1 (lp mask h (13+r)).2).1=stp (mask+1) (itr (mask+1) r (lp mask h 13).1)
  rw [adU mask h (13+r) (by omega),aaE mask h r]
  rfl
theorem acU {mask:Nat} (g:yw (mask+1)=true) (h:Int) {j:Nat} (hj:j<=mask):∃ k,k<10 * turns mask/\pos mask h k=j:=by
 obtain⟨r,hr,e⟩:=abl g (i:=(lp mask h 13).1) (j:=j) (aid (v5 mask h 13)) (aid hj)
 obtain⟨k,hk,a1,a2⟩:=v7 mask h (13+r)
 refine⟨k,by unfold turns;omega,?_⟩
 unfold pos
 rw [a2]
 show (lp mask h (13+r)).1+0=j
 rw [aaE,e]
 rfl
end L2.ST
end
section
namespace L2.ST
open PySem PySem.SetTable
structure TB (t:SetTable) (hs:List Int):Prop where
 mask:t.mask=7 \/ t.mask=31 \/ t.mask=127 \/ t.mask=511
 dum:t.dummies=#[]
 rise:v3 t.place
 le:∀ i,i<t.place.size->t.place.getD i 0<=t.mask
 size:t.place.size=hs.length
 most:hs.length<=t.mask
 reach:∀ i,i<hs.length->∃ k,pos t.mask (hs.getD i 0) k=t.place.getD i 0/\∀ k',k'<k->Tk t (pos t.mask (hs.getD i 0) k')
structure TOk (t:SetTable) (hs:List Int):Prop extends TB t hs where
 room:hs.length * 5<t.mask * 3
theorem afn {t:SetTable} {hs:List Int} (o:TB t hs):yw (t.mask+1)=true:=by
 rcases o.mask with e | e | e | e <;> rw [e]
 ·exact abk
 ·exact v8
 ·exact vc
 ·exact vd
theorem abZ {t:SetTable} (r:v3 t.place) (hs:t.place.size<=t.mask):∃ j,j<=t.mask/\¬ Tk t j:=by
 refine ahi fun no=>?_
 have all:∀ j,j<=t.mask->Tk t j:=fun j hj=>ahi fun z=>no ⟨j,hj,z⟩
 have up:∀ j,j<=t.mask->j<=below t.place j/\below t.place j<t.place.size:=fun j=>by
  induction j with
  | zero =>
   intro hj
   obtain⟨i,hi,e⟩:=all 0 hj
   have:=below_at r hi
   rw [e] at this
   exact⟨agT _,by omega⟩
  | succ j ih =>
   intro hj
   obtain⟨i,hi,e⟩:=all (j+1) hj
   obtain⟨i',hi',e'⟩:=all j (by omega)
   have b1:=below_at r hi
   have b2:=below_at r hi'
   rw [e] at b1
   rw [e'] at b2
   have lt:i'<i:=by
    by_cases h:i'<i
    ·exact h
    ·by_cases h2:i'=i
     ·subst h2;omega
     ·have:=r i i' (by omega) hi';omega
   have:=ih (by omega)
   omega
 have:=up t.mask (agv _)
 omega
structure First (t:SetTable) (h:Int) (E:Nat):Prop where
 lt:E<10 * turns t.mask
 free:¬ Tk t (pos t.mask h E)
 ahead:∀ k,k<E->Tk t (pos t.mask h k)
theorem least {p:Nat->Prop}:∀ n,p n->∃ m,m<=n/\p m/\∀ k,k<m->¬ p k:=fun n=>by
 induction n using Nat.strongRecOn with
 | ind n ih =>
  intro h
  by_cases q:∃ k,k<n/\p k
  ·obtain⟨k,hk,pk⟩:=q
   obtain⟨m,a,b⟩:=ih k hk pk
   exact⟨m,by omega,b⟩
  ·exact⟨n,agv _,h,fun k hk z=>q ⟨k,hk,z⟩⟩
theorem ab0 {t:SetTable} (g:yw (t.mask+1)=true) (r:v3 t.place) (hs:t.place.size<=t.mask) (h:Int):∃ E,First t h E:=by
 obtain⟨j,hj,nj⟩:=abZ r hs
 obtain⟨k,hk,e⟩:=acU g h hj
 obtain⟨m,a,b,c⟩:=least (p:=fun k=>¬ Tk t (pos t.mask h k)) k (by show ¬ Tk t (pos t.mask h k);rw [e];exact nj)
 exact⟨m,by omega,b,fun q hq=>ahi (c q hq)⟩
theorem first_of {t:SetTable} {hs:List Int} (o:TB t hs) (h:Int):∃ E,First t h E:=ab0 (afn o) o.rise (by have:=o.size;have:=o.most;omega) h
theorem probe_go {t:SetTable} (d:t.dummies=#[]) (r:v3 t.place) {hashAt:Nat->Int} {h:Int} {E:Nat} (F:First t h E):∀ f k,k<=E->E<k+f ->
  (probe.go t hashAt h f (road t.mask h k)=some (.empty (pos t.mask h E) none)/\∀ q i,k<=q->q<E->i<t.place.size->pos t.mask h q=t.place.getD i 0->hashAt i≠h) \/
  ∃ q i,k<=q/\q<E/\i<t.place.size/\pos t.mask h q=t.place.getD i 0/\hashAt i=h/\probe.go t hashAt h f (road t.mask h k)=some (.candidate (pos t.mask h q) i (road t.mask h (q+1)))/\∀ q' i',k<=q'->q'<q->i'<t.place.size->pos t.mask h q'=t.place.getD i' 0->hashAt i'≠h
 | 0,k,h1,h2=>by omega
 | f+1,k,h1,h2=>by
  unfold probe.go
  by_cases e:k=E
  ·subst e
   refine .inl ⟨?_,fun q i a b=>by omega⟩
   rw [abY d F.free]
   show some (Met.empty _ _)=_
   rw [jx]
  ·obtain⟨i,hi,ei⟩:=F.ahead k (by omega)
   have sl:t.slot (road t.mask h k).j=.live i:=by
    have:=abX r hi
    rw [ei] at this
    exact this
   rw [sl]
   show (if (hashAt i == h)=true then _ else _:Option Met)=_/\_ \/ _
   have uniq:∀ i',i'<t.place.size->pos t.mask h k=t.place.getD i' 0->i'=i:=fun i' hi' e'=>by
    have b1:=below_at r hi
    have b2:=below_at r hi'
    rw [ei] at b1
    rw [<-e'] at b2
    omega
   by_cases hh:(hashAt i == h)=true
   ·rw [if_pos hh]
    refine .inr ⟨k,i,agv _,by omega,hi,ei.symm,eq_of_beq hh,?_,fun q' i' a b=>by omega⟩
    show (if (hashAt i == h)=true then _ else _:Option Met)=_
    rw [if_pos hh]
    rfl
   ·rw [if_neg hh]
    have hne:hashAt i≠h:=fun z=>hh (by rw [z];exact beq_self_eq_true _)
    rcases probe_go d r (hashAt:=hashAt) F f (k+1) (by omega) (by omega) with⟨a,b⟩ | ⟨q,i2,a1,a2,a3,a4,a5,a6,a7⟩
    ·refine .inl ⟨a,fun q i' c1 c2 c3 c4=>?_⟩
     by_cases eq:q=k
     ·subst eq;rw [uniq i' c3 c4];exact hne
     ·exact b q i' (by omega) c2 c3 c4
    ·refine .inr ⟨q,i2,by omega,a2,a3,a4,a5,?_,fun q' i' c1 c2 c3 c4=>?_⟩
     ·show (if (hashAt i == h)=true then _ else _:Option Met)=_
      rw [if_neg hh]
      exact a6
     ·by_cases eq:q'=k
      ·subst eq;rw [uniq i' c3 c4];exact hne
      ·exact a7 q' i' (by omega) c2 c3 c4
end L2.ST
end
section
namespace L2.ST
open PySem PySem.SetTable
theorem jG {α:Type} (xs:Array α) (i:Nat) (d:α):xs.getD i d=xs.toList.getD i d:=by
 by_cases h:i<xs.size <;> simp [ahF,h,List.getD]
theorem aaa {α:Type} (l:List α) (p:Nat) (x d:α) (hp:p<=l.length) (i:Nat):(l.take p++x :: l.drop p).getD i d=if i<p then l.getD i d else if i=p then x else l.getD (i - 1) d:=by
 have lt:(l.take p).length=p:=by rw [ag8];omega
 by_cases h1:i<p
 ·rw [if_pos h1,agp,agx (by omega),ahE h1,agp]
 ·rw [if_neg h1,agp,agA (by omega),lt]
  by_cases h2:i=p
  ·rw [if_pos h2,h2,ahw]
   rfl
  ·rw [if_neg h2,show i - p=(i - p - 1)+1 by omega,aiR,aiE,show p+(i - p - 1)=i - 1 by omega,agp]
section
variable {t:SetTable} {hs:List Int} {h:Int} {E:Nat}
theorem put_tb (o:TB t hs) (F:First t h E) (more:hs.length+1<=t.mask):below t.place (pos t.mask h E)<=hs.length/\TB (t.put (pos t.mask h E)).1 (hs.take (below t.place (pos t.mask h E))++h :: hs.drop (below t.place (pos t.mask h E))):=by
 obtain⟨b1,b2,b3⟩:=below_ok o.rise (pos t.mask h E)
 have sz:=o.size
 generalize hp:below t.place (pos t.mask h E)=p at *
 have hpl:p<=t.place.toList.length:=by rw [agF];exact b1
 have pl:∀ i,(t.put (pos t.mask h E)).1.place.getD i 0=if i<p then t.place.getD i 0 else if i=p then pos t.mask h E else t.place.getD (i - 1) 0:=fun i=>by
  show (insertAt t.place (below t.place (pos t.mask h E)) (pos t.mask h E)).getD i 0=_
  rw [hp,jG,ah4,aaa _ _ _ _ hpl,jG,jG]
 have psz:(t.put (pos t.mask h E)).1.place.size=t.place.size+1:=by
  show (insertAt t.place (below t.place (pos t.mask h E)) (pos t.mask h E)).size=_
  rw [<-agF,ah4,hp,agL,agM,ag8,ail,agF]
  omega
 have ne:∀ i,i<t.place.size->t.place.getD i 0≠pos t.mask h E:=fun i hi e=>F.free ⟨i,hi,e⟩
 have b3':∀ i,p<=i->i<t.place.size->pos t.mask h E<t.place.getD i 0:=fun i a b=>by
  have:=b3 i a b
  have:=ne i b
  omega
 have hm:(t.put (pos t.mask h E)).1.mask=t.mask:=rfl
 have tk:∀ j,Tk t j->Tk (t.put (pos t.mask h E)).1 j:=fun j ⟨i,hi,e⟩=>by
  by_cases q:i<p
  ·exact⟨i,by omega,by rw [pl,if_pos q];exact e⟩
  ·exact⟨i+1,by omega,by rw [pl,if_neg (by omega),if_neg (by omega),Nat.add_sub_cancel];exact e⟩
 have hl:∀ i,(hs.take p++h :: hs.drop p).getD i 0=if i<p then hs.getD i 0 else if i=p then h else hs.getD (i - 1) 0:=fun i=>aaa hs p h 0 (by omega) i
 have ln:(hs.take p++h :: hs.drop p).length=hs.length+1:=by
  rw [agL,agM,ag8,ail]
  omega
 refine⟨by omega,⟨o.mask,?_,fun i j hij hj=>?_,fun i hi=>?_,by rw [psz,ln,sz],by rw [ln,hm];exact more,fun i hi=>?_⟩⟩
 ·show (if has t.dummies (pos t.mask h E)=true then _ else t.dummies)=#[]
  rw [o.dum]
  rfl
 ·rw [pl,pl]
  rw [psz] at hj
  by_cases c1:i<p
  ·rw [if_pos c1]
   by_cases c2:j<p
   ·rw [if_pos c2];exact o.rise i j hij (by omega)
   ·rw [if_neg c2]
    by_cases c3:j=p
    ·rw [if_pos c3];exact b2 i c1
    ·rw [if_neg c3];exact o.rise i (j - 1) (by omega) (by omega)
  ·rw [if_neg c1,if_neg (show ¬ j<p by omega)]
   by_cases c3:i=p
   ·rw [if_pos c3,if_neg (by omega)];exact b3' (j - 1) (by omega) (by omega)
   ·rw [if_neg c3,if_neg (by omega)];exact o.rise (i - 1) (j - 1) (by omega) (by omega)
 ·rw [pl,hm]
  rw [psz] at hi
  by_cases c1:i<p
  ·rw [if_pos c1];exact o.le i (by omega)
  ·rw [if_neg c1]
   by_cases c3:i=p
   ·rw [if_pos c3];exact vA _ _ _
   ·rw [if_neg c3];exact o.le (i - 1) (by omega)
 ·rw [hl,pl,hm]
  rw [ln] at hi
  by_cases c1:i<p
  ·rw [if_pos c1,if_pos c1]
   obtain⟨k,e,a⟩:=o.reach i (by omega)
   exact⟨k,e,fun k' hk=>tk _ (a k' hk)⟩
  ·rw [if_neg c1,if_neg c1]
   by_cases c3:i=p
   ·rw [if_pos c3,if_pos c3]
    exact⟨E,rfl,fun k' hk=>tk _ (F.ahead k' hk)⟩
   ·rw [if_neg c3,if_neg c3]
    obtain⟨k,e,a⟩:=o.reach (i - 1) (by omega)
    exact⟨k,e,fun k' hk=>tk _ (a k' hk)⟩
end
noncomputable def Occ (ow:Array (Option Nat)) (j:Nat):Prop:=ow.getD j (some 0)≠none
theorem abn {mask:Nat} {ow:Array (Option Nat)} {h:Int}:∀ f r k,At mask h k r 0->(∃ r',r<=r'/\r'<r+f/\¬ Occ ow (lp mask h r').1) ->
  ∃ E,k<=E/\(∀ q,k<=q->q<E->Occ ow (pos mask h q))/\¬ Occ ow (pos mask h E)/\layClean.free mask ow f (lp mask h r).1 (lp mask h r).2=some (pos mask h E)
 | 0,r,k,a,⟨r',h1,h2,_⟩=>by omega
 | f+1,r,k,a,⟨r',h1,h2,h3⟩=>by
  have re:=jX mask _ (v5 mask h r)
  have at_:∀ d,d<=runEnd mask (lp mask h r).1 - (lp mask h r).1->pos mask h (k+d)=(lp mask h r).1+d:=fun d hd=>by
   have:=(vz a d hd).2
   unfold pos
   rw [this]
  unfold layClean.free
  cases hf:(agK (runEnd mask (lp mask h r).1+1 - (lp mask h r).1)).find? fun k=>(ow.getD ((lp mask h r).1+k) (some 0)).isNone with
  | some d =>
   have hm:=List.mem_of_find?_eq_some hf
   have hd:=agS.mp hm
   have hs:=List.find?_some hf
   have bef:∀ d',d'<d->¬ (ow.getD ((lp mask h r).1+d') (some 0)).isNone=true:=fun d' hd'=>by
    obtain⟨_,as,bs,e,al⟩:=List.find?_eq_some_iff_append.mp hf
    have:as=agK d:=by
     have l1:(agK (runEnd mask (lp mask h r).1+1 - (lp mask h r).1))[as.length]?=some d:=by
      rw [e,agA (agv _),ahw]
      rfl
     have lt:as.length<runEnd mask (lp mask h r).1+1 - (lp mask h r).1:=by
      have:=congrArg List.length e
      simp at this
      omega
     rw [ahb lt] at l1
     have el:as.length=d:=Option.some.inj l1
     have:as=(agK (runEnd mask (lp mask h r).1+1 - (lp mask h r).1)).take as.length:=by
      rw [e,List.take_append_of_le_length (agv _),aio]
     rw [this,List.take_range,aiv (by omega),el]
    have al2:=al d' (by rw [this];exact agS.mpr hd')
    intro z
    have z2:(!(ow.getD ((lp mask h r).1+d') (some 0)).isNone)=true:=al2
    rw [z] at z2
    cases z2
   refine⟨k+d,by omega,fun q hq1 hq2=>?_,?_,?_⟩
   ·have:=bef (q - k) (by omega)
    rw [show q=k+(q - k) by omega,at_ (q - k) (by omega)]
    intro z
    rw [z] at this
    exact this rfl
   ·rw [at_ d (by omega)]
    intro z
    have hs':(ow.getD ((lp mask h r).1+d) (some 0)).isNone=true:=hs
    exact z (ah0.mp hs')
   ·rw [at_ d (by omega)]
  | none =>
   have all:∀ d,d<runEnd mask (lp mask h r).1+1 - (lp mask h r).1->Occ ow ((lp mask h r).1+d):=fun d hd z=>by
    have:=List.find?_eq_none.mp hf d (agS.mpr hd)
    simp [z] at this
   have ne:r'≠r:=fun z=>by
    rw [z] at h3
    exact h3 (by have:=all 0 (by omega);rwa [Nat.add_zero] at this)
   have a2:=vy (vz a _ (agv _)) rfl
   obtain⟨E,e1,e2,e3,e4⟩:=abn f (r+1) _ a2 ⟨r',by omega,by omega,h3⟩
   refine⟨E,by omega,fun q hq1 hq2=>?_,e3,e4⟩
   by_cases hq:q<k+(runEnd mask (lp mask h r).1 - (lp mask h r).1)+1
   ·rw [show q=k+(q - k) by omega,at_ (q - k) (by omega)]
    exact all _ (by omega)
   ·exact e2 q (by omega) hq2
end L2.ST
end
section
namespace L2.ST
open PySem PySem.SetTable
structure OwnT (mask:Nat) (ow:Array (Option Nat)) (hs:List Int) (sl:List Nat):Prop where
 size:ow.size=mask+1
 len:sl.length=hs.length
 nd:sl.Nodup
 le:∀ j∈sl,j<=mask
 own:∀ j,j<=mask->∀ i,ow.getD j none=some i↔sl[i]?=some j
 reach:∀ i,i<hs.length->∃ q,pos mask (hs.getD i 0) q=sl.getD i 0/\∀ q',q'<q->pos mask (hs.getD i 0) q'∈sl
theorem OwnT.occ {mask:Nat} {ow:Array (Option Nat)} {hs:List Int} {sl:List Nat} (o:OwnT mask ow hs sl) {j:Nat} (hj:j<=mask):Occ ow j↔j∈sl:=by
 have hs':j<ow.size:=by rw [o.size];omega
 have e:ow.getD j (some 0)=ow.getD j none:=by simp [ahF,hs']
 unfold Occ
 rw [e]
 constructor
 ·intro h
  obtain⟨i,hi⟩:=Option.ne_none_iff_exists'.mp h
  exact agJ ((o.own j hj i).mp hi)
 ·intro h z
  obtain⟨i,hi,e2⟩:=aht h
  have:=(o.own j hj i).mpr (by rw [agq hi,e2])
  rw [z] at this
  cases this
noncomputable def abo (mask:Nat):Option (Array (Option Nat)×Nat)->Int->Option (Array (Option Nat)×Nat):=fun acc h=>do
  let (owner,k) <- acc
  let j <- layClean.free mask owner (turns mask) (bits h % (mask+1)) (bits h)
  pure (owner.setIfInBounds j (some k),k+1)
theorem acV {mask:Nat} (g:yw (mask+1)=true) {ow:Array (Option Nat)} {hs:List Int} {sl:List Nat} (o:OwnT mask ow hs sl) (hm:hs.length<=mask) (h:Int) :
  ∃ ow' sl',abo mask (some (ow,hs.length)) h=some (ow',hs.length+1)/\OwnT mask ow' (hs++[h]) sl':=by
 obtain⟨j,hj,nj⟩:∃ j,j<=mask/\j∉sl:=by
  refine ahi fun no=>?_
  have sub:agK (mask+1) ⊆ sl:=fun j hj=>ahi fun z=>no ⟨j,aiw.mp (agS.mp hj),z⟩
  have:=List.Nodup.length_le_of_subset aiQ sub
  rw [ag3,o.len] at this
  omega
 obtain⟨r,hr,e⟩:=abl g (i:=(lp mask h 13).1) (j:=j) (aid (v5 mask h 13)) (aid hj)
 obtain⟨E,_,e2,e3,e4⟩:=abn (ow:=ow) (turns mask) 0 0 (jE mask h) ⟨13+r,agT _,by unfold turns;omega,by rw [aaE,e,o.occ hj];exact nj⟩
 have e3':pos mask h E∉sl:=fun z=>e3 ((o.occ (vA mask h E)).mpr z)
 have e2':∀ q,q<E->pos mask h q∈sl:=fun q hq=>(o.occ (vA mask h q)).mp (e2 q (agT _) hq)
 have e4':layClean.free mask ow (turns mask) (bits h % (mask+1)) (bits h)=some (pos mask h E):=e4
 refine⟨ow.setIfInBounds (pos mask h E) (some hs.length),sl++[pos mask h E],?_,?_⟩
 ·show (layClean.free mask ow (turns mask) (bits h % (mask+1)) (bits h) >>= fun j=>pure (ow.setIfInBounds j (some hs.length),hs.length+1))=_
  rw [e4']
  rfl
 ·have ls:∀ i,(sl++[pos mask h E])[i]?=if i<sl.length then sl[i]? else if i=sl.length then some (pos mask h E) else none:=fun i=>by
   by_cases c:i<sl.length
   ·rw [if_pos c,agx c]
   ·rw [if_neg c,agA (by omega)]
    by_cases c2:i=sl.length
    ·rw [if_pos c2,c2,ahw];rfl
    ·rw [if_neg c2];exact agR (by simp;omega)
  refine⟨by rw [Array.size_setIfInBounds];exact o.size,by simp [o.len],?_,fun j hj=>?_,fun j hj i=>?_,fun i hi=>?_⟩
  ·rw [List.nodup_append]
   refine⟨o.nd,by simp,fun a ha b hb=>?_⟩
   rw [agO.mp hb]
   intro z
   rw [z] at ha
   exact e3' ha
  ·rcases ag5.mp hj with hj | hj
   ·exact o.le j hj
   ·rw [agO.mp hj];exact vA _ _ _
  ·have hsz:j<ow.size:=by rw [o.size];omega
   rw [ls]
   by_cases c:j=pos mask h E
   ·subst c
    have:(ow.setIfInBounds (pos mask h E) (some hs.length)).getD (pos mask h E) none=some hs.length:=by simp [ahF,hsz]
    rw [this]
    constructor
    ·intro z
     have z':hs.length=i:=Option.some.inj z
     rw [if_neg (by rw [o.len];omega),if_pos (by rw [o.len];omega)]
    ·intro z
     by_cases c2:i<sl.length
     ·rw [if_pos c2] at z
      exact absurd (agJ z) e3'
     ·rw [if_neg c2] at z
      by_cases c3:i=sl.length
      ·rw [c3,o.len]
      ·rw [if_neg c3] at z;cases z
   ·have:(ow.setIfInBounds (pos mask h E) (some hs.length)).getD j none=ow.getD j none:=by
     rw [ahv,ahv,Array.getElem?_setIfInBounds_ne (ah5 c)]
    rw [this,o.own j hj i]
    by_cases c2:i<sl.length
    ·rw [if_pos c2]
    ·rw [if_neg c2]
     constructor
     ·intro z
      rw [agR (by omega)] at z
      cases z
     ·intro z
      by_cases c3:i=sl.length
      ·rw [if_pos c3] at z
       exact absurd (Option.some.inj z).symm c
      ·rw [if_neg c3] at z;cases z
  ·have gl:∀ i,(hs++[h]).getD i 0=if i<hs.length then hs.getD i 0 else if i=hs.length then h else 0:=fun i=>by
    by_cases c:i<hs.length
    ·rw [if_pos c,agp,agx c,agp]
    ·rw [if_neg c,agp,agA (by omega)]
     by_cases c2:i=hs.length
     ·rw [if_pos c2,c2,ahw];rfl
     ·rw [if_neg c2,agR (by simp;omega)];rfl
   rw [agL,ahz] at hi
   have gs:(sl++[pos mask h E]).getD i 0=((sl++[pos mask h E])[i]?).getD 0:=agp ..
   rw [gl,gs,ls]
   by_cases c:i<hs.length
   ·rw [if_pos c,if_pos (by rw [o.len];exact c)]
    obtain⟨q,a,b⟩:=o.reach i c
    exact⟨q,by rw [<-agp];exact a,fun q' hq=>ahn _ (b q' hq)⟩
   ·rw [if_neg c,if_pos (by omega),if_neg (by rw [o.len];omega),if_pos (by rw [o.len];omega)]
    exact⟨E,rfl,fun q' hq=>ahn _ (e2' q' hq)⟩
theorem abp {mask:Nat} (g:yw (mask+1)=true):∀ (l:List Int) (ow:Array (Option Nat)) (hs:List Int) (sl:List Nat),OwnT mask ow hs sl->hs.length+l.length<=mask+1 ->
  ∃ ow' sl',l.foldl (abo mask) (some (ow,hs.length))=some (ow',hs.length+l.length)/\OwnT mask ow' (hs++l) sl'
 | [],ow,hs,sl,o,_=>⟨ow,sl,rfl,by rw [ahq];exact o⟩
 | h :: l,ow,hs,sl,o,hm=>by
  rw [agM] at hm
  obtain⟨ow1,sl1,e1,o1⟩:=acV g o (by omega) h
  obtain⟨ow2,sl2,e2,o2⟩:=abp g l ow1 (hs++[h]) sl1 o1 (by rw [agL,ahz];omega)
  refine⟨ow2,sl2,?_,by rw [aiO] at o2;exact o2⟩
  rw [List.foldl_cons,e1]
  rw [agL,ahz] at e2
  rw [e2,agM,Nat.add_assoc,Nat.add_comm 1]
theorem adV (mask:Nat):OwnT mask (aix (mask+1) none) [] [] where
 size:=by simp
 len:=rfl
 nd:=.nil
 le:=fun _ h=>nomatch h
 own:=fun j hj i=>by
  have:(aix (mask+1) (none:Option Nat)).getD j none=none:=by simp [ahF]
  rw [this]
  constructor <;> intro z <;> cases z
 reach:=fun i hi=>absurd hi (ag6 _)
theorem acW {mask:Nat} (g:yw (mask+1)=true) (hs:Array Int) (hm:hs.size<=mask+1):∃ ow sl,layClean mask hs=some ow/\OwnT mask ow hs.toList sl:=by
 obtain⟨ow,sl,e,o⟩:=abp g hs.toList _ [] [] (adV mask) (by simpa using hm)
 refine⟨ow,sl,?_,by simpa using o⟩
 unfold layClean
 rw [<-Array.foldl_toList]
 have:hs.toList.foldl (abo mask) (some (aix (mask+1) none,0))=some (ow,0+hs.toList.length):=e
 show Option.map _ (hs.toList.foldl (abo mask) (some (aix (mask+1) none,0)))=_
 rw [this]
 rfl
theorem laid_ok {mask:Nat} (mk:mask=7 \/ mask=31 \/ mask=127 \/ mask=511) (hs:Array Int) (hm:hs.size<=mask) (finger moves:Nat) (led plain:Bool) :
  ∃ t ord,laid mask finger moves led plain hs=some (t,ord)/\t.mask=mask/\t.plain=plain/\t.led=led/\ord.toList.Perm (agK hs.size)/\TB t (ord.toList.map fun i=>hs.toList.getD i 0):=by
 have g:yw (mask+1)=true:=by
  rcases mk with rfl | rfl | rfl | rfl
  ·exact abk
  ·exact v8
  ·exact vc
  ·exact vd
 obtain⟨ow,sl,e,o⟩:=acW g hs (by omega)
 let live:=(agK (mask+1)).filterMap fun j=>(ow.getD j none).map (j,·)
 have mem:∀ p:Nat×Nat,p∈live↔p.1<=mask/\sl[p.2]?=some p.1:=fun⟨j,i⟩=>by
  show (j,i)∈List.filterMap _ _↔_
  rw [ahN]
  constructor
  ·rintro⟨j',hj,e⟩
   have hj':=aiw.mp (agS.mp hj)
   cases e2:ow.getD j' none with
   | none=>rw [e2] at e;cases e
   | some i' =>
    rw [e2] at e
    cases e
    exact⟨hj',(o.own _ hj' _).mp e2⟩
  ·rintro⟨h1,h2⟩
   refine⟨j,agS.mpr (by omega),?_⟩
   rw [(o.own j h1 i).mpr h2]
   rfl
 have up:(live.map (·.1)).Pairwise (·<·):=by
  rw [ahU]
  show (List.filterMap _ _).Pairwise _
  rw [List.pairwise_filterMap]
  refine List.pairwise_lt_range.imp fun {a b} hab p hp q hq=>?_
  cases e1:ow.getD a none with
  | none=>rw [e1] at hp;cases hp
  | some i =>
   cases e2:ow.getD b none with
   | none=>rw [e2] at hq;cases hq
   | some i2 =>
    rw [e1] at hp
    rw [e2] at hq
    cases hp
    cases hq
    exact hab
 have nd2:(live.map (·.2)).Nodup:=by
  show List.Pairwise _ _
  rw [ahU]
  have u2:=ahU.mp up
  refine u2.imp_of_mem fun {p q} hp hq hlt hz=>?_
  have a1:=((mem p).mp hp).2
  have a2:=((mem q).mp hq).2
  rw [hz,a2] at a1
  have:=Option.some.inj a1
  omega
 have pm:(live.map (·.2)).Perm (agK hs.size):=by
  refine (List.perm_ext_iff_of_nodup nd2 aiQ).mpr fun i=>?_
  have ls:sl.length=hs.size:=by rw [o.len,agF]
  constructor
  ·intro hi
   obtain⟨p,hp,rfl⟩:=ahf.mp hi
   have:=(agu.mp ((mem p).mp hp).2).1
   exact agS.mpr (by omega)
  ·intro hi
   have hi':=agS.mp hi
   have hl:i<sl.length:=by omega
   exact ahf.mpr ⟨(sl[i],i),(mem _).mpr ⟨o.le _ (ahx hl),agq hl⟩,rfl⟩
 refine⟨_,_,by unfold laid;rw [e];rfl,rfl,rfl,rfl,pm,?_⟩
 have ln:live.length=hs.size:=by have:=pm.length_eq;rwa [agr,ag3] at this
 have tk:∀ j,j∈sl->∃ i,i<live.length/\(live.map (·.1)).getD i 0=j:=fun j hj=>by
  obtain⟨i,hi,e2⟩:=aht hj
  have:(j,i)∈live:=(mem _).mpr ⟨o.le j hj,by rw [agq hi,e2]⟩
  obtain⟨q,hq,e3⟩:=aht this
  exact⟨q,hq,by rw [agp,agy,agq hq,e3];rfl⟩
 have gd:∀ i,(live.map (·.1)).toArray.getD i 0=(live.map (·.1)).getD i 0:=fun i=>by rw [jG]
 refine⟨mk,rfl,fun i j hij hj=>?_,fun i hi=>?_,?_,?_,fun i hi=>?_⟩
 ·show (live.map (·.1)).toArray.getD i 0<(live.map (·.1)).toArray.getD j 0
  have hj':j<(live.map (·.1)).length:=by
   have h2:j<(live.map (·.1)).toArray.size:=hj
   rwa [agE] at h2
  rw [gd,gd,agp,agp,agq hj',agq (show i<(live.map (·.1)).length by omega)]
  exact aiI.mp up i j (by omega) hj' hij
 ·show (live.map (·.1)).toArray.getD i 0<=mask
  have hi':i<(live.map (·.1)).length:=by
   have h2:i<(live.map (·.1)).toArray.size:=hi
   rwa [agE] at h2
  rw [gd,agp,agq hi']
  obtain⟨p,hp,e2⟩:=ahf.mp (ahx hi')
  show (live.map (·.1))[i]<=mask
  rw [<-e2]
  exact ((mem p).mp hp).1
 ·show (live.map (·.1)).toArray.size=_
  simp
 ·show (ait _ (live.map (·.2))).length<=mask
  rw [agr,agr,ln]
  exact hm
 ·have hi':i<live.length:=by
   have hi2:i<(ait (fun i=>hs.toList.getD i 0) (live.map (·.2))).length:=hi
   rwa [agr,agr] at hi2
  have pl:(live.map (·.1)).toArray.getD i 0=live[i].1:=by
   rw [gd,agp,agy,agq hi']
   rfl
  have hh:(ait (fun i=>hs.toList.getD i 0) (live.map (·.2))).getD i 0=hs.toList.getD live[i].2 0:=by
   rw [agp,agy,agy,agq hi']
   rfl
  have m2:=(mem live[i]).mp (ahx hi')
  have l2:=(agu.mp m2.2).1
  obtain⟨q,a,b⟩:=o.reach live[i].2 (by rw [<-o.len];exact l2)
  refine⟨q,?_,fun q' hq=>?_⟩
  ·show pos mask ((ait (fun i=>hs.toList.getD i 0) (live.map (·.2))).getD i 0) q=(live.map (·.1)).toArray.getD i 0
   rw [hh,pl,a,agp,m2.2]
   rfl
  ·show Tk _ (pos mask ((ait (fun i=>hs.toList.getD i 0) (live.map (·.2))).getD i 0) q')
   rw [hh]
   obtain⟨z,hz,ez⟩:=tk _ (b q' hq)
   exact⟨z,by show z<(live.map (·.1)).toArray.size;simpa using hz,by show (live.map (·.1)).toArray.getD z 0=_;rw [gd];exact ez⟩
end L2.ST
end
section
namespace L2
open PySem PySem.Spec PyProof.Rows
mutual
noncomputable def abq (w:World):PyData->Int
 | .int i=>hashInt i
 | .str x=>hashStr w x
 | .tuple xs=>reduceHash (Builtin.Tuple.tupleHashOf (aeH w xs))
 | _=>0
noncomputable def aeH (w:World):List PyData->List Int
 | []=>[]
 | x :: xs=>abq w x :: aeH w xs
end
noncomputable instance decPy:DecidableEq PyData:=fun a b=>Classical.propDecidable _
structure KeyAt (h:Heap) (d:PyData) (a:Addr):Prop where
 rd:∃ as,Reads h (.ref a) d as
 pl:qI d=true
 dp:d.depth<=8
end L2
end
section
namespace L2
open PySem PySem.Spec PyProof.Rows PySem.SetTable
section
variable {P:Program} {w:World} {A:Around} {E:Value->Shared->Prop} {s:Shared}
structure SetObj (w:World) (h:Heap) (a:Addr) (xs:List (PyData×Addr)) (o:Obj) (es:Array (Int×Value)) (ep:Nat) (t:SetTable):Prop where
 ob:h.get? a=some o
 ex:o.ExactSet
 da:o.data=.set es ep t
 el:es.toList=xs.map fun x=>(abq w x.1,Value.ref x.2)
 ok:ST.TOk t (xs.map fun x=>abq w x.1)
end
end L2
end
section
namespace L2
open PySem PySem.Spec PyProof.Rows PySem.SetTable
section
variable {P:Program} {w:World} {A:Around} {E:Value->Shared->Prop} {s:Shared} {a b:Addr} {d:PyData} {xs:List (PyData×Addr)} {o:Obj} {es:Array (Int×Value)} {ep:Nat} {t:SetTable}
theorem jr {α:Type} (es:Array α):∀ l:List Nat,(∀ i∈l,i<es.size)->∀ dflt:α,l.filterMap (fun i=>es[i]?)=l.map fun i=>es.toList.getD i dflt
 | [],_,_=>rfl
 | i :: l,h,dflt=>by
  have hi:=h i agD
  rw [ah1,ahj hi,ahd,jr es l (fun j hj=>h j (agw _ hj)) dflt]
  simp [hi]
end
inductive OC where
 | lst (es:List PyData)
 | set (ks:List PyData)
 | dic (kvs:List (PyData×PyData))
noncomputable def agj (w:World) (a:Addr) (xs:List (PyData×Addr)):HO:=.ext fun h=>∃ o es ep t,SetObj w h a xs o es ep t
structure DicObj (w:World) (h:Heap) (a:Addr) (xs:List (PyData×Addr×Value)) (o:Obj) (es:Array DictEntry) (ep:Nat):Prop where
 ob:h.get? a=some o
 ex:o.ExactDict
 da:o.data=.dict es ep
 el:es.toList=xs.map fun x=>(⟨abq w x.1,.ref x.2.1,x.2.2⟩:DictEntry)
 nd:(xs.map (·.1)).Nodup
 ns:(a == sysModules)=false
noncomputable def agk (w:World) (a:Addr) (xs:List (PyData×Addr×Value)):HO:=.ext fun h=>∃ o es ep,DicObj w h a xs o es ep
noncomputable def af1 (d:PyData):Prop:=qI d=true/\d.depth<=8
noncomputable def EntR (K:ags) (Hh:Hp) (x:PyData×Addr×Value) (p:PyData×PyData):Prop:=x.1=p.1/\af1 x.1/\Rep K Hh x.1 (.ref x.2.1)/\∃ v,Rep K Hh p.2 v/\RelV v x.2.2
theorem EntR.mono {K:ags} {Hh Hh':Hp} (s:Same Hh Hh'):∀ {xs:List (PyData×Addr×Value)} {kvs:List (PyData×PyData)},Paired (EntR K Hh) xs kvs->Paired (EntR K Hh') xs kvs
 | _,_,.nil=>.nil
 | _,_,.cons ⟨h1,h2,h3,v,h4,h5⟩ t=>.cons ⟨h1,h2,Rep.mono s _ _ h3,v,Rep.mono s _ _ h4,h5⟩ (EntR.mono s t)
noncomputable def OwnAt (w:World) (K:ags) (Hh H:Hp) (D:Addr):OC->Prop
 | .lst es=>∃ vs,H D=some (.lst vs)/\Reps K Hh es vs
 | .set ks=>∃ xs:List (PyData×Addr),H D=some (agj w D xs)/\(∀ x∈xs,af1 x.1/\Rep K Hh x.1 (.ref x.2))/\(∀ d,d∈xs.map (·.1)↔d∈ks)/\xs.length<=ks.length
 | .dic kvs=>∃ xs:List (PyData×Addr×Value),H D=some (agk w D xs)/\Paired (EntR K Hh) xs kvs
theorem OwnAt.mono {w:World} {K:ags} {Hh Hh' H H':Hp} {D:Addr} (e:H' D=H D) (s:Same Hh Hh'):∀ {c:OC},OwnAt w K Hh H D c->OwnAt w K Hh' H' D c
 | .lst es,⟨vs,h1,h2⟩=>⟨vs,e.trans h1,Reps.mono s es vs h2⟩
 | .set ks,⟨xs,h1,h2,h3⟩=>⟨xs,e.trans h1,fun x hx=>⟨(h2 x hx).1,Rep.mono s _ _ (h2 x hx).2⟩,h3⟩
 | .dic kvs,⟨xs,h1,h2⟩=>⟨xs,e.trans h1,EntR.mono s h2⟩
noncomputable def Fx.withs (f:Fx) (Ds:List Addr):Fx:={ f with M:=Ds.reverse++f.M }
theorem zQ (f:Fx) (Ds:List Addr) (D:Addr):f.withs (Ds++[D])=(f.withs Ds).with D:=by
 unfold Fx.withs Fx.with
 rw [aiz]
 rfl
structure CM (w:World) (K:ags) (f:Fx) (Ds:List Addr) (H2:Hp) (ρ:zi) (cs:List OC) (σ:St) (H:Hp):Prop where
 env:EnvOk K (f.withs Ds) ρ σ H
 sm:Same (hide H2 (f.withs Ds)) (hide H (f.withs Ds))
 kp:∀ b∈f.M,H b=H2 b
 len:cs.length=Ds.length
 own:∀ (i:Nat) D c,Ds[i]?=some D->cs[i]?=some c->OwnAt w K (hide H (f.withs Ds)) H D c
structure Sep (f:Fx) (Ds:List Addr):Prop where
 nd:Ds.Nodup
 nf:∀ D∈Ds,f.f≠some D
 nm:∀ D∈Ds,D∉f.M
section
variable {w:World} {K:ags} {f:Fx} {Ds:List Addr} {H H' H2:Hp} {ρ ρ2:zi} {cs:List OC} {σ σ2:St} {i:Nat} {D:Addr} {c:OC} {o:HO}
theorem yL (hD:D∈Ds):D∈(f.withs Ds).M:=ahn _ (aiS.mpr hD)
theorem zT (hD:D∈Ds):hide (upd H D o) (f.withs Ds)=hide H (f.withs Ds):=by
 funext b
 unfold hide
 by_cases h:(f.withs Ds).f=some b \/ b∈(f.withs Ds).M
 ·rw [if_pos h,if_pos h]
 ·rw [if_neg h,if_neg h,zl fun (z:b=D)=>h (.inr (z▸yL hD))]
theorem CM.go (x:CM w K f Ds H2 ρ cs σ H) (g:Goes (f.withs Ds) H H') (e2:EnvOk K (f.withs Ds) ρ2 σ2 H'):CM w K f Ds H2 ρ2 cs σ2 H' :=
 ⟨e2,x.sm.trans g.sm,fun b hb=>(g.kp b (agH _ hb)).trans (x.kp b hb),x.len,fun i D c h1 h2=>(x.own i D c h1 h2).mono (g.kp D (yL (agJ h1))) g.sm⟩
theorem CM.self (x:CM w K f Ds H2 ρ cs σ H):CM w K f Ds H ρ cs σ H:=⟨x.env,Same.refl _,fun _ _=>rfl,x.len,x.own⟩
theorem CM.trans {cs':List OC} {ρ':zi} {σ':St} (x:CM w K f Ds H2 ρ cs σ H) (y:CM w K f Ds H ρ' cs' σ' H'):CM w K f Ds H2 ρ' cs' σ' H':=⟨y.env,x.sm.trans y.sm,fun b hb=>(y.kp b hb).trans (x.kp b hb),y.len,y.own⟩
theorem adW (se:Sep f Ds) (hD:D∈Ds) (h:FOk (f.withs Ds) H):FOk (f.withs Ds) (upd H D o) :=
 ⟨fun p e=>let⟨a,b,h1,h2⟩:=h.fd p e;⟨a,b,by rw [zl (fun (z:p=D)=>se.nf D hD (z▸e))];exact h1,h2⟩,fun b hb=>by
  by_cases e:b=D
  ·exact⟨o,by rw [e];exact zo⟩
  ·obtain⟨u,hu⟩:=h.mm b hb
   exact⟨u,by rw [zl e];exact hu⟩,h.nm⟩
theorem adX (se:Sep f Ds) (hD:D∈Ds) (e:EnvOk K (f.withs Ds) ρ σ H):EnvOk K (f.withs Ds) ρ σ (upd H D o) :=
 ⟨e.len,fun i x h=>by
  obtain⟨v,h1,h2⟩:=e.get i x h
  refine⟨v,h1,?_⟩
  cases x with
  | dat d =>
   show Rep K (hide (upd H D o) (f.withs Ds)) d v
   rw [zT hD]
   exact h2
  | feed=>exact h2
  | own k=>exact h2
  | exc C =>
   obtain⟨a,e1,q⟩:=h2
   exact⟨a,e1,by rw [zT hD];exact q⟩
  | mon φ =>
   intro H' s
   rw [zT hD] at s
   exact h2 H' s,adW se hD e.fd⟩
theorem CM.put {c':OC} (se:Sep f Ds) (x:CM w K f Ds H2 ρ cs σ H) (hi:Ds[i]?=some D) (ho:OwnAt w K (hide H (f.withs Ds)) (upd H D o) D c'):CM w K f Ds H2 ρ (cs.set i c') σ (upd H D o):=by
 have hD:=agJ hi
 refine⟨adX se hD x.env,by rw [zT hD];exact x.sm,fun b hb=>(zl (fun (z:b=D)=>se.nm D hD (z▸hb))).trans (x.kp b hb),by rw [ahA];exact x.len,fun j D' c h1 h2=>?_⟩
 rw [zT hD]
 by_cases e:i=j
 ·subst e
  rw [hi] at h1
  cases h1
  have hl:i<cs.length:=by rw [x.len];exact (agu.mp hi).1
  rw [ag7 hl] at h2
  cases h2
  exact ho
 ·rw [aho e] at h2
  have ne:D'≠D:=fun z=>by
   subst z
   obtain⟨l1,e1⟩:=agu.mp hi
   obtain⟨l2,e2⟩:=agu.mp h1
   exact e ((aik se.nd).mp (e1.trans e2.symm))
  exact (x.own j D' c h1 h2).mono (zl ne) (Same.refl _)
end
structure MEnds where
 nx:zi->List OC->Prop
 rt:PyData->Prop
 bk:zi->List OC->Prop:=fun _ _=>False
 ct:zi->List OC->Prop:=fun _ _=>False
noncomputable def PSm (w:World) (K:ags) (f:Fx) (Ds:List Addr) (ts:TS) (ρ:zi) (cs:List OC) (O:MEnds):Prop:=Sep f Ds->∀ (σ:St) (H H2:Hp) (E:Ends),CM w K f Ds H2 ρ cs σ H ->
 (∀ ρ' cs' σ' H',CM w K f Ds H2 ρ' cs' σ' H'->O.nx ρ' cs'->E.nx σ' H')->(∀ d v ρ' cs' σ' H',CM w K f Ds H2 ρ' cs' σ' H'->Rep K (hide H' f) d v->O.rt d->E.rt v H') ->
 (∀ ρ' cs' σ' H',CM w K f Ds H2 ρ' cs' σ' H'->O.bk ρ' cs'->E.bk σ' H')->(∀ ρ' cs' σ' H',CM w K f Ds H2 ρ' cs' σ' H'->O.ct ρ' cs'->E.ct σ' H')->ts E σ H
noncomputable def PTm (w:World) (K:ags) (f:Fx) (Ds:List Addr) (tt:TT) (ρ:zi) (cs:List OC) (B:Bool->Prop):Prop:=Sep f Ds->∀ (σ:St) (H H2:Hp) (Q:Bool->Hp->Prop),CM w K f Ds H2 ρ cs σ H->(∀ b H',Goes (f.withs Ds) H H'->B b->Q b H')->tt σ H Q
noncomputable def PEm (w:World) (K:ags) (f:Fx) (Ds:List Addr) (te:TE) (ρ:zi) (cs:List OC) (P:PyData->Prop):Prop:=Sep f Ds->∀ (σ:St) (H H2:Hp) (Q:VK),CM w K f Ds H2 ρ cs σ H->(∀ d v H',Goes (f.withs Ds) H H'->Rep K (hide H' (f.withs Ds)) d v->P d->Q v H')->te σ H Q
noncomputable def adY (w:World) (K:ags) (f:Fx) (te:TE) (ρ:zi) (P:OC->Prop):Prop:=∀ (σ:St) (H:Hp) (Q:VK),EnvOk K f ρ σ H ->
 (∀ c D H',Goes f H H'->H D=none->OwnAt w K (hide H' (f.with D)) H' D c->P c->Q (.ref D) H')->te σ H Q
section
variable {w:World} {K:ags} {f:Fx} {Ds:List Addr} {ρ:zi} {cs:List OC} {ts tu:TS} {tt:TT} {te:TE} {wi:TI} {g:TG} {O:MEnds} {i j:Nat}
theorem same_withs {H:Hp}:Same (hide H (f.withs Ds)) (hide H f):=fun b o h=>by
 obtain⟨h1,h2⟩:=zp h
 exact zk (fun z=>h1 (z.elim .inl fun z=>.inr (agH _ z))) h2
theorem afo {D:DEnds} (h:PSm w K f [] ts ρ [] { nx:=fun ρ' _=>D.nx ρ',rt:=D.rt,bk:=fun ρ' _=>D.bk ρ',ct:=fun ρ' _=>D.ct ρ' }):PSd K f ts ρ D:=fun σ H E e n r b k=>by
 have gg:∀ {ρ':zi} {cs':List OC} {σ':St} {H':Hp},CM w K f [] H ρ' cs' σ' H'->Goes f H H':=fun x=>⟨x.sm,x.env.fd,x.kp⟩
 exact h ⟨aiG,(fun _ z=>nomatch z),(fun _ z=>nomatch z)⟩ σ H H E ⟨e,Same.refl _,fun _ _=>rfl,rfl,(fun i D c z=>nomatch z)⟩
  (fun ρ' cs' σ' H' x p=>n ρ' σ' H' (gg x) x.env p) (fun d v ρ' cs' σ' H' x r' p=>r d v H' (gg x) r' p) (fun ρ' cs' σ' H' x p=>b ρ' σ' H' (gg x) x.env p) (fun ρ' cs' σ' H' x p=>k ρ' σ' H' (gg x) x.env p)
theorem qf (h:PSm w K f Ds ts ρ cs { O with nx:=fun ρ' cs'=>PSm w K f Ds tu ρ' cs' O }):PSm w K f Ds (jt ts tu) ρ cs O:=fun se σ H H2 E x n r b k =>
 h se σ H H2 _ x (fun ρ' cs' σ' H' x' p=>p se σ' H' H2 E x' n r b k) r b k
theorem acX (h:O.nx ρ cs):PSm w K f Ds aa3 ρ cs O:=fun _ σ H H2 E x n r b k=>n ρ cs σ H x h
theorem af2 {B:Bool->Prop} (h:PTd K (f.withs Ds) tt ρ B):PTm w K f Ds tt ρ cs B:=fun se σ H H2 Q x q=>h σ H Q x.env q
theorem jz {P:PyData->Prop} (h:PEd K (f.withs Ds) te ρ P):PEm w K f Ds te ρ cs P:=fun se σ H H2 Q x q=>h σ H Q x.env q
theorem agl (h:PTm w K f Ds tt ρ cs fun b=>if b=true then PSm w K f Ds ts ρ cs O else PSm w K f Ds tu ρ cs O):PSm w K f Ds (ady tt ts tu) ρ cs O:=fun se σ H H2 E x n r b k =>
 h se σ H H2 _ x fun q H1 g1 p=>by
  have x1:=x.go g1 (x.env.mono g1)
  cases q with
  | false =>
   rw [if_neg agz] at p ⊢
   exact p se σ H1 H2 E x1 n r b k
  | true =>
   rw [if_pos rfl] at p ⊢
   exact p se σ H1 H2 E x1 n r b k
theorem acY (h:PId K (f.withs Ds) wi ρ fun ds=>∃ J:Nat->zi->List OC->Prop,J 0 ρ cs /\
   (∀ (i:Nat) d ρ' cs',ds[i]?=some d->J i ρ' cs'->PGd K (f.withs Ds) g d ρ' fun ρ2=>PSm w K f Ds ts ρ2 cs' { O with nx:=J (i+1),ct:=J (i+1),bk:=O.nx })/\∀ ρ' cs',J ds.length ρ' cs'->O.nx ρ' cs') :
  PSm w K f Ds (adA wi g ts) ρ cs O:=fun se σ H H2 E x n r b k=>h σ H _ x.env fun ds J H1 g1 it ⟨Jv,j0,js,jd⟩=>by
 have x1:=x.go g1 (x.env.mono g1)
 refine⟨fun i m σ' H'=>∃ ρ' cs',CM w K f Ds H2 ρ' cs' σ' H'/\Same (hide H1 (f.withs Ds)) (hide H' (f.withs Ds))/\Jv i ρ' cs'/\m+i=ds.length,⟨ds.length,ρ,cs,x1,Same.refl _,j0,rfl⟩,fun i m σ' H' ⟨ρ',cs',x',sm',p,hm⟩=>?_⟩
 by_cases hi:i<ds.length
 ·obtain⟨hgo,hy⟩:=it.go (f.withs Ds) H' i _ x'.env.fd sm' (agq hi)
  refine .inr ⟨hgo,fun σ2 H3=>∃ ρ2 cs2,CM w K f Ds H2 ρ2 cs2 σ2 H3/\Same (hide H1 (f.withs Ds)) (hide H3 (f.withs Ds))/\Jv (i+1) ρ2 cs2,fun σ2 H3 ⟨ρ2,cs2,e2,g2,p2⟩=>⟨m - 1,by omega,ρ2,cs2,e2,g2,p2,by omega⟩,fun v H3 hx=>?_⟩
  obtain⟨g3,r3⟩:=hy v H3 hx
  have x3:=x'.go g3 (x'.env.mono g3)
  refine js i _ ρ' cs' (agq hi) p σ' H3 v _ x3.env r3 fun ρ2 σ2 H4 g4 e4 p4=>?_
  have x4:=x3.go g4 e4
  have sm4:=(sm'.trans g3.sm).trans g4.sm
  exact p4 se σ2 H4 H4 _ x4.self (fun ρ5 cs5 σ5 H5 x5 p5=>⟨ρ5,cs5,x4.trans x5,sm4.trans x5.sm,p5⟩) (fun d v ρ5 cs5 σ5 H5 x5 r5 p5=>r d v ρ5 cs5 σ5 H5 (x4.trans x5) r5 p5) (fun ρ5 cs5 σ5 H5 x5 p5=>n ρ5 cs5 σ5 H5 (x4.trans x5) p5) (fun ρ5 cs5 σ5 H5 x5 p5=>⟨ρ5,cs5,x4.trans x5,sm4.trans x5.sm,p5⟩)
 ·have ei:i=ds.length:=by omega
  subst ei
  exact .inl ⟨it.st (f.withs Ds) H' x'.env.fd sm',n ρ' cs' σ' H' x' (jd ρ' cs' p)⟩
theorem adZ {tb:TS} (J:zi->List OC->Prop) (μ:zi->List OC->Nat) (h0:J ρ cs)
  (hs:∀ ρ' cs',J ρ' cs'->PTm w K f Ds tt ρ' cs' fun b=>if b=true then PSm w K f Ds tb ρ' cs' { O with nx:=fun r c=>J r c/\μ r c<μ ρ' cs',ct:=fun r c=>J r c/\μ r c<μ ρ' cs',bk:=O.nx } else O.nx ρ' cs'):PSm w K f Ds (acm tt tb) ρ cs O:=fun se σ H H2 E x n r b k=>by
 refine⟨fun m σ' H'=>∃ ρ' cs',CM w K f Ds H2 ρ' cs' σ' H'/\J ρ' cs'/\m=μ ρ' cs',⟨_,ρ,cs,x,h0,rfl⟩,?_⟩
 rintro m σ1 H1 ⟨ρ1,cs1,x1,j1,rfl⟩
 refine hs ρ1 cs1 j1 se σ1 H1 H2 _ x1 fun t H3 g3 p=>?_
 have x3:=x1.go g3 (x1.env.mono g3)
 cases t with
 | true =>
  rw [if_pos rfl] at p ⊢
  refine⟨fun σ' H'=>∃ ρ' cs',CM w K f Ds H2 ρ' cs' σ' H'/\J ρ' cs'/\μ ρ' cs'<μ ρ1 cs1,fun σ' H' ⟨ρ',cs',x',j',l'⟩=>⟨_,l',ρ',cs',x',j',rfl⟩,?_⟩
  exact p se σ1 H3 H2 _ x3 (fun ρ5 cs5 σ5 H5 x5 p5=>⟨ρ5,cs5,x5,p5⟩) r (fun ρ5 cs5 σ5 H5 x5 p5=>n ρ5 cs5 σ5 H5 x5 p5) (fun ρ5 cs5 σ5 H5 x5 p5=>⟨ρ5,cs5,x5,p5⟩)
 | false =>
  rw [if_neg agz] at p ⊢
  exact n ρ1 cs1 σ1 H3 x3 p
theorem qo {σ:St} {H H2:Hp} {D:Addr} (hi:ρ[i]?=some (some (.own (f.M.length+j)))) (x:CM w K f Ds H2 ρ cs σ H) (hD:Ds[j]?=some D):σ[i]?=some (some (.ref D)):=by
 obtain⟨v,h1,p,h2,rfl⟩:=x.env.get i _ hi
 have e:(f.withs Ds).M.reverse[f.M.length+j]?=some D:=by
  show (Ds.reverse++f.M).reverse[f.M.length+j]?=some D
  rw [aiz,ajb,agA (by simp)]
  simpa using hD
 rw [e] at h2
 cases h2
 exact h1
theorem acZ {es:List PyData} (hi:ρ[i]?=some (some (.own (f.M.length+j)))) (hc:cs[j]?=some (.lst es)) (hl:es.length<1000) (h:PEm w K f Ds te ρ cs fun d=>O.nx ρ (cs.set j (.lst (es++[d])))):PSm w K f Ds (aa4 (tBM K "list" ql (yE i) (zY te ju))) ρ cs O:=fun se σ H H2 E x n r b k=>by
 have hj:j<Ds.length:=by rw [<-x.len];exact (agu.mp hc).1
 have hD:Ds[j]?=some Ds[j]:=agq hj
 obtain⟨vs0,h0,_⟩:=x.own j _ _ hD hc
 refine⟨_,qo hi x hD,Or.inl ⟨rfl,vs0,.of h0⟩,?_⟩
 refine h se σ H H2 _ x fun d v H1 g1 r1 p1=>?_
 have x1:=x.go g1 (x.env.mono g1)
 obtain⟨vs,h1,h2⟩:=x1.own j _ _ hD hc
 refine⟨_,vs,v,rfl,rfl,h1,zW (by rw [h2.length];omega),n _ _ _ _ (x1.put se hD (o:=.lst (vs++[v])) (c':=.lst (es++[d])) ⟨vs++[v],zo,h2.snoc r1⟩) p1⟩
theorem CM.more {σ:St} {H H1 H2:Hp} {D:Addr} {c:OC} (x:CM w K f Ds H2 ρ cs σ H) (g:Goes (f.withs Ds) H H1) (hn:H D=none) (ho:OwnAt w K (hide H1 ((f.withs Ds).with D)) H1 D c) (hi:i<ρ.length) :
  CM w K f (Ds++[D]) H1 (ρ.set i (some (.own (f.M.length+Ds.length)))) (cs++[c]) (σ.set i (some (.ref D))) H1:=by
 have nD:¬ ((f.withs Ds).f=some D \/ D∈(f.withs Ds).M):=fresh_ne x.env.fd hn
 have sm0:Same (hide H (f.withs Ds)) (hide H1 (f.withs (Ds++[D]))):=fun b o hb=>by
  have hb1:=g.sm b o hb
  rw [zQ]
  refine zk (fun z=>?_) (zp hb1).2
  rcases z with z | z
  ·exact (zp hb1).1 (.inl z)
  ·rcases agC.mp z with rfl | z
   ·have:=(zp hb).2
    rw [hn] at this
    cases this
   ·exact (zp hb1).1 (.inr z)
 have hD1:∃ o,H1 D=some o:=by
  cases c with
  | lst es=>exact⟨_,ho.choose_spec.1⟩
  | set ks=>exact⟨_,ho.choose_spec.1⟩
  | dic kvs=>exact⟨_,ho.choose_spec.1⟩
 have fo1:FOk (f.withs (Ds++[D])) H1:=by
  rw [zQ]
  refine⟨g.ok.fd,fun b hb=>?_,fun q eq hq=>?_⟩
  ·rcases agC.mp hb with rfl | hb
   ·exact hD1
   ·exact g.ok.mm b hb
  ·rcases agC.mp hq with rfl | hq
   ·exact nD (.inl eq)
   ·exact g.ok.nm q eq hq
 have rev:(f.withs (Ds++[D])).M.reverse=(f.withs Ds).M.reverse++[D]:=by
  rw [zQ]
  show (D :: (f.withs Ds).M).reverse=_
  rw [agU]
 have lenr:(f.withs Ds).M.reverse.length=f.M.length+Ds.length:=by
  show (Ds.reverse++f.M).reverse.length=_
  simp
 have e1:EnvOk K (f.withs (Ds++[D])) ρ σ H1:=⟨x.env.len,fun q y hy=>by
  obtain⟨v,a1,a2⟩:=x.env.get q y hy
  refine⟨v,a1,?_⟩
  cases y with
  | dat d=>exact Rep.mono sm0 d v a2
  | feed=>exact a2
  | exc C =>
   obtain⟨b,h3,h4⟩:=a2
   exact⟨b,h3,sm0 _ _ h4⟩
  | mon φ=>exact fun H' s=>a2 H' (sm0.trans s)
  | own k =>
   obtain⟨b,h3,h4⟩:=a2
   refine⟨b,?_,h4⟩
   rw [rev,agx (agu.mp h3).1]
   exact h3,fo1⟩
 have rv:RepV K (f.withs (Ds++[D])) H1 (.own (f.M.length+Ds.length)) (.ref D):=⟨D,by
  rw [rev,agA (by omega),lenr,ahw]
  rfl,rfl⟩
 refine⟨e1.set i rv,Same.refl _,fun _ _=>rfl,by simp [x.len],fun q D' c' h1 h2=>?_⟩
 by_cases hq:q<Ds.length
 ·rw [agx hq] at h1
  rw [agx (by rw [x.len];exact hq)] at h2
  exact (x.own q D' c' h1 h2).mono (g.kp D' (yL (agJ h1))) sm0
 ·by_cases hq2:q=Ds.length
  ·subst hq2
   rw [agA (agv _),ahw] at h1
   rw [agA (by rw [x.len];exact agv _),x.len,ahw] at h2
   cases h1
   cases h2
   rw [zQ]
   exact ho
  ·rw [agR (by simp;omega)] at h1
   cases h1
theorem Sep.more {H:Hp} {D:Addr} (se:Sep f Ds) (fo:FOk (f.withs Ds) H) (hn:H D=none):Sep f (Ds++[D]):=by
 have nD:=fresh_ne fo hn
 refine⟨List.nodup_append.mpr ⟨se.nd,by simp,fun a ha b hb=>?_⟩,fun D' h=>?_,fun D' h=>?_⟩
 ·rw [agO.mp hb]
  intro z
  exact nD (.inr (yL (z▸ha)))
 ·rcases ag5.mp h with h | h
  ·exact se.nf D' h
  ·rw [agO.mp h];exact fun z=>nD (.inl z)
 ·rcases ag5.mp h with h | h
  ·exact se.nm D' h
  ·rw [agO.mp h];exact fun z=>nD (.inr (agH _ z))
theorem CM.less {σ σ':St} {H H1 H2 H':Hp} {D:Addr} {ρ':zi} {cs':List OC} (x:CM w K f Ds H2 ρ cs σ H) (g:Goes (f.withs Ds) H H1) (hn:H D=none) (y:CM w K f (Ds++[D]) H1 ρ' cs' σ' H') :
  CM w K f Ds H2 (ρ'.map (z7 (f.M.length+Ds.length))) (cs'.take Ds.length) σ' H':=by
 have sub:Same (hide H' (f.withs (Ds++[D]))) (hide H' (f.withs Ds)):=by rw [zQ];exact same_with
 have sm1:Same (hide H (f.withs Ds)) (hide H1 (f.withs (Ds++[D]))):=fun b o hb=>by
  have hb1:=g.sm b o hb
  rw [zQ]
  refine zk (fun z=>?_) (zp hb1).2
  rcases z with z | z
  ·exact (zp hb1).1 (.inl z)
  ·rcases agC.mp z with rfl | z
   ·have:=(zp hb).2
    rw [hn] at this
    cases this
   ·exact (zp hb1).1 (.inr z)
 have lenr:(f.withs Ds).M.reverse.length=f.M.length+Ds.length:=by
  show (Ds.reverse++f.M).reverse.length=_
  simp
 have rev:(f.withs (Ds++[D])).M.reverse=(f.withs Ds).M.reverse++[D]:=by
  rw [zQ]
  show (D :: (f.withs Ds).M).reverse=_
  rw [agU]
 have fo:FOk (f.withs Ds) H':=by
  have h:=y.env.fd
  rw [zQ] at h
  exact⟨h.fd,fun b hb=>h.mm b (agw _ hb),fun p e hp=>h.nm p e (agw _ hp)⟩
 refine⟨⟨by rw [agr];exact y.env.len,fun q z hz=>?_,fo⟩,(x.sm.trans sm1).trans (y.sm.trans sub),fun b hb=>(y.kp b hb).trans ((g.kp b (agH _ hb)).trans (x.kp b hb)),?_,fun q D' c' h1 h2=>?_⟩
 ·rw [agy] at hz
  cases e:ρ'[q]? with
  | none=>rw [e] at hz;cases hz
  | some z0 =>
   rw [e] at hz
   cases z0 with
   | none=>cases hz
   | some z0 =>
    obtain⟨v,a1,a2⟩:=y.env.get q z0 e
    cases z0 with
    | dat d =>
     cases hz
     exact⟨v,a1,Rep.mono sub d v a2⟩
    | feed =>
     cases hz
     rw [zQ] at a2
     exact⟨v,a1,a2⟩
    | exc C =>
     cases hz
     obtain⟨b,h3,h4⟩:=a2
     exact⟨v,a1,b,h3,sub _ _ h4⟩
    | mon φ =>
     cases hz
     exact⟨v,a1,fun H' s=>a2 H' (sub.trans s)⟩
    | own k =>
     have hz':(if k<f.M.length+Ds.length then some (DV.own k) else none)=some z:=Option.some.inj hz
     by_cases hk:k<f.M.length+Ds.length
     ·rw [if_pos hk] at hz'
      cases hz'
      obtain⟨b,h3,h4⟩:=a2
      refine⟨v,a1,b,?_,h4⟩
      rw [rev,agx (by omega)] at h3
      exact h3
     ·rw [if_neg hk] at hz'
      cases hz'
 ·rw [ag8,y.len]
  simp
 ·have hq:q<Ds.length:=(agu.mp h1).1
  rw [ahE hq] at h2
  exact (y.own q D' c' (by rw [agx hq];exact h1) h2).mono rfl sub
theorem af3 (h:adY w K (f.withs Ds) te ρ fun c=>i<ρ.length/\∀ D,PSm w K f (Ds++[D]) ts (ρ.set i (some (.own (f.M.length+Ds.length)))) (cs++[c]) { nx:=fun ρ' cs'=>O.nx (ρ'.map (z7 (f.M.length+Ds.length))) (cs'.take Ds.length),rt:=O.rt,bk:=fun ρ' cs'=>O.bk (ρ'.map (z7 (f.M.length+Ds.length))) (cs'.take Ds.length),ct:=fun ρ' cs'=>O.ct (ρ'.map (z7 (f.M.length+Ds.length))) (cs'.take Ds.length) }) :
  PSm w K f Ds (jt (y3 te (yy i)) ts) ρ cs O:=fun se σ H H2 E x n r b k =>
 h σ H _ x.env fun c D H1 g1 hn ho ⟨hi,p⟩ =>
  p D (se.more x.env.fd hn) _ H1 H1 E (x.more g1 hn ho hi) (fun ρ' cs' σ' H' y q=>n _ _ σ' H' (x.less g1 hn y) q) (fun d v ρ' cs' σ' H' y r' q=>r d v _ _ σ' H' (x.less g1 hn y) r' q) (fun ρ' cs' σ' H' y q=>b _ _ σ' H' (x.less g1 hn y) q) (fun ρ' cs' σ' H' y q=>k _ _ σ' H' (x.less g1 hn y) q)
theorem qp {P:OC->Prop} (h:PEdO K f te ρ fun es=>P (.lst es)):adY w K f te ρ P:=fun σ H Q e q=>h σ H Q e fun es D vs H' g hn h1 rs p=>q (.lst es) D H' g hn ⟨vs,h1,rs⟩ p
noncomputable def freed (n:Nat) (cs:List OC):Option DV->Option DV
 | some (.own k)=>if k<n then some (.own k) else match cs[k - n]? with
  | some (.lst es)=>some (.dat (.list es))
  | _=>none
 | x=>x
theorem CM.free {σ:St} {H H2:Hp} (se:Sep f Ds) (x:CM w K f Ds H2 ρ cs σ H):EnvOk K f (ρ.map (freed f.M.length cs)) σ H:=by
 have fo:FOk f H:=⟨x.env.fd.fd,fun b hb=>x.env.fd.mm b (agH _ hb),fun p e hp=>x.env.fd.nm p e (agH _ hp)⟩
 refine⟨by rw [agr];exact x.env.len,fun q z hz=>?_,fo⟩
 rw [agy] at hz
 cases e:ρ[q]? with
 | none=>rw [e] at hz;cases hz
 | some z0 =>
  rw [e] at hz
  cases z0 with
  | none=>cases hz
  | some z0 =>
   obtain⟨v,a1,a2⟩:=x.env.get q z0 e
   cases z0 with
   | dat d =>
    cases hz
    exact⟨v,a1,Rep.mono same_withs d v a2⟩
   | feed =>
    cases hz
    exact⟨v,a1,a2⟩
   | exc C =>
    cases hz
    obtain⟨b,h3,h4⟩:=a2
    exact⟨v,a1,b,h3,same_withs _ _ h4⟩
   | mon φ =>
    cases hz
    exact⟨v,a1,fun H' s=>a2 H' (same_withs.trans s)⟩
   | own k =>
    obtain⟨b,h3,h4⟩:=a2
    have h3':(Ds.reverse++f.M).reverse[k]?=some b:=h3
    rw [aiz,ajb] at h3'
    have hz':(if k<f.M.length then some (DV.own k) else match cs[k - f.M.length]? with | some (.lst es)=>some (.dat (.list es)) | _=>none)=some z:=Option.some.inj hz
    by_cases hk:k<f.M.length
    ·rw [if_pos hk] at hz'
     cases hz'
     rw [agx (by simpa using hk)] at h3'
     exact⟨v,a1,b,h3',h4⟩
    ·rw [if_neg hk] at hz'
     rw [agA (by simpa using ajo.mp hk),aji] at h3'
     cases ec:cs[k - f.M.length]? with
     | none=>rw [ec] at hz';cases hz'
     | some c =>
      rw [ec] at hz'
      cases c with
      | lst es =>
       cases hz'
       obtain⟨vs,h5,h6⟩:=x.own _ _ _ h3' ec
       have hb:=agJ h3'
       exact⟨v,a1,rep_list.mpr ⟨b,vs,h4,.of (zk (fun z=>z.elim (se.nf b hb) (se.nm b hb)) h5),Reps.mono same_withs es vs h6⟩⟩
      | set ks=>cases hz'
      | dic kvs=>cases hz'
end
noncomputable def aaF (w:World) (K:ags) (f:Fx) (Ds:List Addr) (ts:TS) (ρ:zi) (cs:List OC) (R:List PyData->Prop):Prop:=Sep f Ds->∀ (σ:St) (H H2:Hp) (E:Ends),CM w K f Ds H2 ρ cs σ H ->
 (∀ es D vs ρ' cs' σ' H0 H',CM w K f Ds H2 ρ' cs' σ' H0->Goes f H0 H'->H0 D=none->H' D=some (.lst vs)->Reps K (hide H' (f.with D)) es vs->R es->E.rt (.ref D) H')->ts E σ H
section
variable {w:World} {K:ags} {f:Fx} {Ds:List Addr} {ρ:zi} {cs:List OC} {ts tu:TS} {te:TE} {R:List PyData->Prop} {i:Nat}
theorem ad0 (h:aaF w K f [] ts ρ [] R):PSn K f ts ρ R:=fun σ H E e q=>by
 refine h ⟨aiG,(fun _ z=>nomatch z),(fun _ z=>nomatch z)⟩ σ H H E ⟨e,Same.refl _,fun _ _=>rfl,rfl,(fun i D c z=>nomatch z)⟩ fun es D vs ρ' cs' σ' H0 H' x g hn h1 rs p=>?_
 have g0:Goes f H H0:=⟨x.sm,x.env.fd,x.kp⟩
 exact q es D vs H' (g0.trans g) (g0.free e.fd hn) h1 rs p
theorem ac0 (h:PSm w K f Ds ts ρ cs { nx:=fun ρ' cs'=>aaF w K f Ds tu ρ' cs' R,rt:=fun _=>False }):aaF w K f Ds (jt ts tu) ρ cs R:=fun se σ H H2 E x q =>
 h se σ H H2 _ x (fun ρ' cs' σ' H' x' p=>p se σ' H' H2 E x' q) (fun _ _ _ _ _ _ _ _ z=>z.elim) (fun _ _ _ _ _ z=>z.elim) (fun _ _ _ _ _ z=>z.elim)
theorem afp (h:adY w K (f.withs Ds) te ρ fun c=>i<ρ.length/\∀ D,aaF w K f (Ds++[D]) ts (ρ.set i (some (.own (f.M.length+Ds.length)))) (cs++[c]) R) :
  aaF w K f Ds (jt (y3 te (yy i)) ts) ρ cs R:=fun se σ H H2 E x q =>
 h σ H _ x.env fun c D H1 g1 hn ho ⟨hi,p⟩ =>
  p D (se.more x.env.fd hn) _ H1 H1 E (x.more g1 hn ho hi) fun es D' vs ρ' cs' σ' H0 H' y g hn' h1 rs pr=>q es D' vs _ _ σ' H0 H' (x.less g1 hn y) g hn' h1 rs pr
theorem ad1 (h:PSn K f ts (ρ.map (freed f.M.length cs)) R):aaF w K f Ds ts ρ cs R:=fun se σ H H2 E x q =>
 h σ H E (x.free se) fun es D vs H' g hn h1 rs p=>q es D vs ρ cs σ H H' x g hn h1 rs p
end
theorem ab1 (led:Bool):ST.TOk (SetTable.fresh 0 0 led) [] where
 mask:=.inl rfl
 dum:=rfl
 rise:=fun i j _ hj=>absurd hj (ag6 _)
 le:=fun i hi=>absurd hi (ag6 _)
 size:=rfl
 most:=agT _
 reach:=fun i hi=>absurd hi (ag6 _)
 room:=by show 0 * 5<7 * 3;decide
section
variable {w:World} {K:ags} {f:Fx} {Ds:List Addr} {ρ:zi} {cs:List OC} {te tk:TE} {O:MEnds} {i j:Nat} {kvs:List (PyData×PyData)}
theorem af4 (h:PEm w K f Ds te ρ cs O.rt):PSm w K f Ds (abG te) ρ cs O:=fun se σ H H2 E x n r b k =>
 h se σ H H2 _ x fun d v H' g' r' p=>r d v ρ cs σ H' (x.go g' (x.env.mono g')) (Rep.mono same_withs d v r') p
end
end L2
end
section
namespace L2
open PySem PySem.Spec PyProof.Rows
structure MinAt (h0:Heap) (its:List Value) (ds:List PyData) (as:List Addr):Prop where
 ra:ReadsAll h0 its ds as
 pl:∀ d∈ds,qI d=true
 cp:∀ d∈ds,∀ e∈ds,afm d e=true
 dp:∀ d∈ds,d.depth<=50
section
variable {w:World} {K:ags} {f:Fx} {Ds:List Addr} {ρ:zi} {cs:List OC} {O:MEnds} {tt:TT} {te:TE} {i j n:Nat}
theorem ab2 {H H' H2:Hp} {σ:St} (se:Sep f Ds) (x:CM w K f Ds H2 ρ cs σ H) (g:Goes f H H'):Goes (f.withs Ds) H H':=by
 have kp:∀ D∈Ds,H' D=H D:=fun D hD=>by
  obtain⟨o,ho⟩:=x.env.fd.mm D (yL hD)
  have h1:hide H f D=some o:=zk (fun z=>z.elim (se.nf D hD) (se.nm D hD)) ho
  rw [ho,(zp (g.sm D o h1)).2]
 refine⟨fun b o hb=>?_,⟨fun p e=>?_,fun b hb=>?_,x.env.fd.nm⟩,fun b hb=>?_⟩
 ·obtain⟨n1,n2⟩:=zp hb
  have h1:hide H f b=some o:=zk (fun z=>n1 (z.elim .inl fun z=>.inr (agH _ z))) n2
  exact zk n1 (zp (g.sm b o h1)).2
 ·exact g.2.fd p e
 ·rcases ag5.mp hb with h | h
  ·rw [kp b (aiS.mp h)]
   exact x.env.fd.mm b hb
  ·exact g.2.mm b h
 ·rcases ag5.mp hb with h | h
  ·exact kp b (aiS.mp h)
  ·exact g.kp b h
theorem ad2 {B:Bool->Prop} (h:PTd K f tt (ρ.map (freed f.M.length cs)) B):PTm w K f Ds tt ρ cs B:=fun se σ H H2 Q x q =>
 h σ H Q (x.free se) fun b H' g p=>q b H' (ab2 se x g) p
end
end L2
end
section
namespace L2
open PySem PySem.Spec PyProof.Rows
structure TM (K:ags) (f:Fx) (a:Addr) (as:List Addr) (H2:Hp) (ρ:zi) (rows:List (List Int)) (σ:St) (H:Hp):Prop where
 env:EnvOk K (f.withs (a :: as)) ρ σ H
 sm:Same (hide H2 (f.withs (a :: as))) (hide H (f.withs (a :: as)))
 kp:∀ b∈f.M,H b=H2 b
 tab:TabAt H a as rows
end L2
end
section
namespace L2
open PySem PySem.Spec PyProof.Rows
section
variable {K:ags} {f:Fx} {ρ:zi} {ts tu:TS} {O:DEnds} {te:TE} {i:Nat}
theorem jf (J:zi->Prop) (h1:PSd K f ts ρ { O with nx:=J }) (h2:∀ ρ',J ρ'->PSd K f tu ρ' O):PSd K f (jt ts tu) ρ O :=
 yz fun σ H E e n r b k=>h1 σ H E e (fun ρ' σ' H' g' e' p=>n ρ' σ' H' g' e' (h2 ρ' p)) r b k
theorem abr {P:PyData->Prop} {γ:Type} {n:Nat} {pre:γ->List DV->Prop} {post:γ->PyData->Prop} {E:XK} {t:TA} (h:PAd K f t ρ fun xs=>∃ c,xs.length=n/\pre c xs/\∀ r,post c r->P r):PEd K f (qz (spD K n pre post) [] E t) ρ P:=fun σ H Q e q =>
 h σ H _ e fun xs vs H1 g1 r1 ⟨c,hl,hp,k⟩=>⟨f,xs,c,by rw [ahq];exact r1,hl,g1.2,hp,fun r v H' g' r' p'=>q r v H' (g1.trans g') r' (k r p')⟩
end
section
variable {K:ags} {f:Fx} {ρ:zi} {wi:TI} {g:TG} {tt:TT} {own:Nat} {fr:List Nat} {tb:Addr->TB} {P:List PyData->Prop}
theorem afq {α:Type} {A B:α->PyData} (p:α->Bool) (xs:List α) (h:PId K f wi ρ fun ds=>ds=xs.map A/\xs.length<=1000 /\
   (∀ D x ρ' es,x∈xs->OwnE own (frD fr ρ) ρ'->es.length<1000->PGd K (f.with D) g (A x) ρ' fun ρ2=>PTd K (f.with D) tt ρ2 fun b=>b=p x/\if b=true then PBd K f D (tb D) ρ2 es fun ρ3 es3=>OwnE own (frD fr ρ) ρ3/\es3=es++[B x] else OwnE own (frD fr ρ) ρ2)/\P ((xs.filter p).map B)) :
  PEdO K f (qB wi own fr g tt tb) ρ P :=
 acH (h.imp fun ds ⟨ed,hl,hs,hp⟩=>by
  subst ed
  refine⟨fun i ρ' es=>OwnE own (frD fr ρ) ρ'/\es=((xs.take i).filter p).map B,⟨⟨ahW own none,by simp,rfl⟩,by simp⟩,fun D i d ρ' es hd ⟨ho,he⟩=>?_,fun ρ' es ⟨_,he⟩=>?_⟩
  ·rw [agy] at hd
   cases eq:xs[i]? with
   | none=>rw [eq] at hd;cases hd
   | some x =>
    rw [eq] at hd
    cases hd
    have hi:i<xs.length:=(agu.mp eq).1
    have tk:xs.take (i+1)=xs.take i++[x]:=by rw [aic,eq];rfl
    have hb:es.length<1000:=by
     have:=List.length_filter_le p (xs.take i)
     rw [ag8] at this
     rw [he,agr]
     omega
    intro σ H v Q e r q
    refine hs D x ρ' es (agJ eq) ho hb σ H v Q e r fun ρ2 σ2 H2 g2 e2 p2=>q ρ2 σ2 H2 g2 e2 (p2.imp fun b hb2=>?_)
    obtain⟨eb,hb2⟩:=hb2
    cases b with
    | false =>
     rw [if_neg agz] at hb2 ⊢
     refine⟨hb2,?_⟩
     rw [tk,List.filter_append,ahg,List.filter_cons,<- eb,if_neg agz,he]
     simp
    | true =>
     rw [if_pos rfl] at hb2 ⊢
     intro h1 h2 σ3 H3 H4 W c k
     exact hb2 h1 h2 σ3 H3 H4 W c fun ρ5 es5 σ5 H5 c5 ⟨o5,p5⟩=>k ρ5 es5 σ5 H5 c5 ⟨o5,by rw [p5,he,tk,List.filter_append,ahg,List.filter_cons,<- eb,if_pos rfl];rfl⟩
  ·rw [he,agr,aio]
   exact hp)
end
end L2
end
section
namespace L2
open PySem PySem.Spec PyProof.Rows
end L2
end
section
namespace L2
open PySem PySem.Spec PyProof.Rows
end L2
end
section
namespace L2
open PySem PySem.Spec PyProof.Rows
open PySem.SeqAt
open PySem.AutoSeq1 (wpAny_loadPart')
noncomputable def agm (A:Around) (s:Shared) (y x:Value) (b:Bool):Prop :=
 ∀ (prog:Program) (w:World) (E:Value->Shared->Prop) (Q:Value->Shared->Prop),Q (.bool b) s->wpAny (model prog w) A (richCompare .GtE y x) Q E s
inductive Gex (A:Around) (s:Shared):List Value->List Value->Bool->Prop where
 | nn:Gex A s [] [] true
 | eq {v w vs ws b}:EqAt A s v w true->Gex A s vs ws b->Gex A s (v :: vs) (w :: ws) b
 | ge {v w vs ws b}:EqAt A s v w false->agm A s v w b->vs.length=ws.length->Gex A s (v :: vs) (w :: ws) b
noncomputable def agn (o:Obj):Option Value:=match o.data with
 | .fields vs=>vs[2]?
 | _=>none
local macro_rules | `(tactic| walk_at "kd")=>`(tactic| with_reducible first
  | assumption
  | exact kd_pure _
  | exact kd_uns _
  | exact kd_load _
  | exact kd_loadPart _ _
  | exact kd_stack
  | exact kd_alloc _
  | exact kd_reg _
  | apply kd_ite
  | apply kd_bind
  | intro _
  | split)
noncomputable def Dct (a:Addr) (o:Option Addr) (h:Heap):Prop:=∃ u,h.get? a=some u/\agn u=some .none/\∀ dx,o=some dx->u.dict=some dx
noncomputable def CXf (P:Program) (w:World):CXT:=fun outer H s E e s'=>∃ a C o H',e=.ref a/\XLie P w outer H s a C H' s'/\Dct a o s'.heap/\E C o H'
noncomputable def aeI (a:Addr) (C:Value) (o:Option Addr) (h:Heap):Prop:=∃ t,h.get? a=some { cls:=C,dict:=o,data:=.fields #[.ref t,.none,.none,.none,.bool false,.none] }
end L2
end
section
namespace L2
open PySem PySem.Spec PyProof.Rows PySem.Builtin Builtin Builtin.ObjectAttr
noncomputable def ac1 (K:ags) (C f:Addr) (bmB:List Value) (newId:String):Bool :=
 match K.lookup C with
 | some ⟨c0,_,.cls cd,sl⟩=>c0 == .type "type" && cd.mro.head? == some (.ref C) && cd.hasDel == false && cd.hasDict && PySem.W.tailIn K bmB cd.mro.tail && PySem.W.nsOkIn K cd.ns && aha K cd.ns "__init__" == some (some (.ref f))
   && sl.toList.length == 6 && sl.toList[4]? == some (some (.builtin newId))
 | _=>false
structure XCls (h:Heap) (C f:Addr) (bmB:List Value) (newId:String):Prop where
 ex:∃ nm q N bs bm sn sub ab col dd k0 k1 k2 k3 k5 mN,h.get? C=some (excClassObj nm q C N bs bm true sn sub ab col dd k0 k1 k2 k3 k5 newId)/\h.Ns N mN/\mN "__init__"=some (.ref f)/\OwnTail h bmB bm
end L2
end
section
namespace L2
open PySem PySem.Spec PySem.W PyProof.Rows PySem.Calls PySem.Builtin Builtin Builtin.ObjectAttr
noncomputable abbrev bare (C:Addr) (o:Option Addr) (t:Addr):Obj:={ cls:=.ref C,dict:=o,data:=.fields #[.ref t,.none,.none,.none,.bool false,.none] }
noncomputable abbrev bmV:List Value:=[.type "ValueError",.type "Exception",.type "BaseException",.type "object"]
structure FldC (K:ags) (C f D:Addr) (name:Str):Prop where
 wi:ac1 K C f bmV "ValueError.__new__"=true
 fn:PySem.W.typeIn K (.ref f)=some (.type "function")
 ob:PySem.W.mroIn K C (.type "object")=some true
 sa:ahJ K (.ref C) "__setattr__"=some (some (.builtin "object.__setattr__"))
 na:ahJ K (.ref C) name=some none
 rd:PySem.W.readsIn K D (.type "type")=true
 sp:aiL K (.ref D) "__getattribute__"=some (some (.builtin "type.__getattribute__"))
 kp:ag4 K (.ref C)=true
 fi:PySem.W.findCls K (.ref D) (.type "type") "__init__"=some (.val (.builtin "ValueError.__init__"))
section
variable {X:Cx} {pins:List (Addr×Obj)} {σ:St} {H H':Hp} {s s':Shared} {h':Heap} {a b dx C D f:Addr} {o:HO} {t':Nat} {name:Str}
noncomputable def afr (C:Addr) (name:Str):Sp:=fun vs H Q _=>∃ a y,vs=[.ref a,y]/\H a=some (.ext (aeI a (.ref C) none))/\∀ dx,H dx=none->dx≠a->Q .non (upd (upd H dx (.xd [(name,y)])) a (.ext (aeI a (.ref C) (some dx))))
end
end L2
end
section
namespace L2
open PySem PySem.Spec PyProof.Rows
end L2
end
section
namespace L2
open PySem PySem.Spec PySem.W PyProof.Rows PySem.Calls PySem.Builtin Builtin Builtin.ObjectAttr Builtin.Getset_descriptor
noncomputable abbrev XD:=Option (Str×PyData)
structure FnInF (P:Program) (w:World) (K:ags) (mg:Str->Option Value) (base:Heap) (k:Nat) (x:Str) (ps:List Str) (sp:Sp):Prop where
 ex:∃ (f:Addr) (fd:FuncData),FnOk P w K mg base (CXf P w) k f fd ps sp/\mg x=some (.ref f)/\ag4 K (.ref f)=true/\Binds K fd ps []
structure FCls (K:ags) (mg:Str->Option Value) (x base:Str) (C:Addr) (name:Str) (st:Stmt) (ps:List Str):Prop where
 ex:∃ (f D:Addr) (fd:FuncData),FldC K C f D name/\mg x=some (.ref C)/\mg base=some (.ref D)/\Fun K "__init__" (x ++ ".__init__") st f fd/\Binds K fd ps []
structure InitOk (P:Program) (w:World) (K:ags) (mg:Str->Option Value) (base:Heap) (k:Nat) (C:Addr) (name:Str):Prop where
 ex:∃ (f D:Addr) (fd:FuncData) (ps:List Str),FldC K C f D name/\FnOk P w K mg base CX0 k f fd ps (afr C name)/\Binds K fd ps []
theorem Reps.set {K:ags} {H:Hp}:∀ {ds:List PyData} {xs:List V},Reps K H ds xs->∀ (n:Nat) {d:PyData} {x:V},Rep K H d x->Reps K H (ds.set n d) (xs.set n x)
 | [],xs,t,n,d,x,h=>by rw [reps_nil.mp t];exact .nil'
 | e :: ds,xs,t,n,d,x,h=>by
  obtain⟨y,r,rfl,h2,h3⟩:=reps_cons.mp t
  cases n with
  | zero=>exact .cons' h h3
  | succ n=>exact .cons' h2 (Reps.set h3 n h)
section
variable {w:World} {K:ags} {f:Fx} {Ds:List Addr} {ts:TS} {te tk:TE} {ρ:zi} {cs:List OC} {O:MEnds} {i j n:Nat}
theorem qg (h:PEm w K f Ds te ρ cs fun d=>O.nx (ρ.set n (some (.dat d))) cs):PSm w K f Ds (y3 te (yy n)) ρ cs O:=fun se σ H H2 E x nn r b k =>
 h se σ H H2 _ x fun d v H1 g1 r1 p1=>by
  have x1:=x.go g1 (x.env.mono g1)
  exact nn _ cs _ H1 ⟨x1.env.set n (x:=.dat d) r1,x1.sm,x1.kp,x1.len,x1.own⟩ p1
theorem afs {es:List PyData} (hi:ρ[i]?=some (some (.own (f.M.length+j)))) (hc:cs[j]?=some (.lst es)) (h:PEm w K f Ds te ρ cs fun d=>PEm w K f Ds tk ρ cs fun y=>∃ k q,y=.int k/\ixN es.length k=some q/\O.nx ρ (cs.set j (.lst (es.set q d)))) :
  PSm w K f Ds (y3 te (abH (yE i) tk va)) ρ cs O:=fun se σ H H2 E x n r b k=>by
 have hj:j<Ds.length:=by rw [<-x.len];exact (agu.mp hc).1
 have hD:Ds[j]?=some Ds[j]:=agq hj
 refine h se σ H H2 _ x fun d v H1 g1 r1 p1=>?_
 have x1:=x.go g1 (x.env.mono g1)
 refine⟨_,qo hi x1 hD,?_⟩
 refine p1 se σ H1 H2 _ x1 fun y u H3 g3 r3 ⟨k,q,ey,hq,p3⟩=>?_
 subst ey
 have x3:=x1.go g3 (x1.env.mono g3)
 obtain⟨vs,h1,h2⟩:=x3.own j _ _ hD hc
 refine⟨_,vs,k,q,rfl,rep_int.mp r3,h1,by rw [h2.length];exact hq,n _ _ _ _ (x3.put se hD (o:=.lst (vs.set q v)) (c':=.lst (es.set q d)) ⟨vs.set q v,zo,Reps.set h2 q (Rep.mono g3.1 d v r1)⟩) p3⟩
end
structure RoomM (k:Nat) (A:Around):Prop where
 dp:A.depth+3 * k+5<recursionLimit
 un:A.units+16 * k+200<cLine
structure FnOkM (P:Program) (w:World) (K:ags) (mg:Str->Option Value) (base:Heap) (k:Nat) (f:Addr) (fd:FuncData) (ps:List Str) (sp:Addr->Sp):Prop where
 len:∀ a vs H Q E,sp a vs H Q E->vs.length=ps.length
 run:∀ (A:Around) (outer:List Env) (s:Shared) (H:Hp) (args:Args) (us:List Value) (vs:List V) (Q:VK) (a:Addr),A.handled=some (.ref a)->RoomM k A->Env0 P w K mg base A outer s H->BindsTo s fd args (ps.zip us)->Vals vs us->sp a vs H Q E0 ->
  codeAny (model P w) A (.call (.ref f) args) (CR CX0 outer P w H s Q E0) s
structure FnInM (P:Program) (w:World) (K:ags) (mg:Str->Option Value) (base:Heap) (k:Nat) (x:Str) (ps:List Str) (sp:Addr->Sp):Prop where
 ex:∃ (f:Addr) (fd:FuncData),FnOkM P w K mg base k f fd ps sp/\mg x=some (.ref f)/\ag4 K (.ref f)=true/\Binds K fd ps []
structure TN (K:ags) (f:Fx) (a:Addr) (as:List Addr) (H2:Hp) (ρ:zi) (R:Option (List (List Int))) (σ:St) (H:Hp):Prop where
 env:EnvOk K (f.withs (a :: as)) ρ σ H
 sm:Same (hide H2 (f.withs (a :: as))) (hide H (f.withs (a :: as)))
 kp:∀ b∈f.M,H b=H2 b
 tab:∀ rows,R=some rows->TabAt H a as rows
end L2
end
section
namespace L2
open PySem PySem.Spec PyProof.Rows
structure GoesW (f:Fx) (As:List Addr) (H2 H':Hp):Prop where
 sm:Same (hide H2 (f.withs As)) (hide H' f)
 ok:FOk f H'
 kp:∀ b∈f.M,H' b=H2 b
structure FnAt (P:Program) (w:World) (K:ags) (mg:Str->Option Value) (base:Heap) (CX:CXT) (k:Nat) (a:Addr) (sp:Sp):Prop where
 ex:∃ (fd:FuncData) (ps:List Str),FnOk P w K mg base CX k a fd ps sp/\ag4 K (.ref a)=true/\Binds K fd ps []
end L2
end
section
namespace L2
open PySem PySem.Spec PyProof.Rows
end L2
end
section
namespace L2
open PySem PySem.Spec PyProof.Rows
structure Src (prog:Program) (w:World) (j:Addr) (xs:Array Value) (dep:List Addr) (St:Nat->Heap->Prop):Prop where
 own:j∈dep
 keep:∀ {k:Nat} {h h':Heap},St k h->(∀ c∈dep,∀ o,h.get? c=some o->h'.get? c=some o)->St k h'
 there:∀ {k:Nat} {h:Heap},St k h->∃ o,h.get? j=some o
 item:∀ {A:Around} {E:Value->Shared->Prop} {s:Shared} {k:Nat} {x:Value} {Q:Value->Shared->Prop},St k s.heap->xs[k]?=some x->(∀ h',St (k+1) h'->ahX j s.heap h'->Q x { s with heap:=h' })->wpAny (model prog w) A (aiJ (.ref j)) Q E s
 stop:∀ {A:Around} {E:Value->Shared->Prop} {s:Shared} {k:Nat} {Q:Value->Shared->Prop},A.handled=none->St k s.heap->xs[k]?=none->(∀ h' e,Heap.ExtBut j s.heap h'->(∃ o,h'.get? e=some o/\o.cls=.type "StopIteration")->E (.ref e) { s with heap:=h' })->wpAny (model prog w) A (aiJ (.ref j)) Q E s
section
variable {prog:Program} {w:World} {A:Around} {E:Value->Shared->Prop} {s:Shared}
structure Far (z q1 q2 j1 j2:Addr) (e1 e2:List Addr):Prop where
 q1z:q1≠z
 q2z:q2≠z
 q12:q1≠q2
 j12:j1≠j2
 q1j1:q1≠j1
 q1j2:q1≠j2
 z1:z∉e1
 z2:z∉e2
 o1:q2∉e1
 o2:q2∉e2
 d12:j2∉e1
 d21:j1∉e2
end
end L2
end
section
namespace L2
open PySem PySem.Spec PyProof.Rows
noncomputable abbrev jY (led:Bool):Obj:={ cls:=.type "set",dict:=none,data:=.set #[] 0 (.fresh 0 0 led) }
noncomputable def Keeps (h0 h:Heap):Prop:=∀ b o,h0.get? b=some o->h.get? b=some o
end L2
end
section
namespace L2
open PySem PySem.Spec PyProof.Rows
section
variable {w:World} {K:ags} {f:Fx} {Ds:List Addr} {ρ:zi} {cs:List OC} {ts tu:TS} {tt:TT} {te:TE} {R:List PyData->Prop} {i j:Nat}
theorem abt {P:PyData->Prop} (h:PEd K f te ρ fun d=>(d=.none/\P (.bool false)) \/ ∃ i,d=.int i/\P (.bool true)):PEd K f (tOp (fun x y H Q=>y=.non/\Q (.bl (!decide (x=.non))) H) te (tC .non)) ρ P:=fun σ H Q e q =>
 h σ H _ e fun d v H1 g1 r1 hd=>by
  refine⟨rfl,?_⟩
  rcases hd with⟨ed,p⟩ | ⟨i,ed,p⟩
  ·subst ed
   rw [rep_none.mp r1]
   exact q _ _ H1 g1 (rep_bool.mpr rfl) p
  ·subst ed
   rw [rep_int.mp r1]
   exact q _ _ H1 g1 (rep_bool.mpr rfl) p
end
noncomputable abbrev FD (K:ags) (x:Str) (st:Stmt) (f:Addr) (od an:Option Addr) (sl:Array (Option Value)) (oc kV dc pm cd ct:Value):Prop:=aha K mainGlobals x=some (some (.ref f))/\K.lookup f=some ⟨oc,od,.func (ahc x x (z9 st) (zN st) (zh st) .none kV dc pm an cd ct),sl⟩/\agY K cd x=true/\ag4 K (.ref f)=true
theorem ad3 {K:ags} {h:Heap} {mg:Str->Option Value} {x:Str} {st:Stmt} {f:Addr} {od an:Option Addr} {sl:Array (Option Value)} {oc kV dc pm cd ct:Value} (X:K.In h) (G:h.Ns mainGlobals mg) (a:FD K x st f od an sl oc kV dc pm cd ct) {ps:List Str}
  (hb:∀ (kV doc pm:Value) (an:Option Addr) (cdv ct:Value) (us:List Value),us.length=ps.length->bindArgs (ahc x x (z9 st) (zN st) (zh st) .none kV doc pm an cdv ct) ⟨us,[]⟩=pure (ps.zip us)):Def K mg x st ps :=
 ⟨f,_,aaw a.2.1 a.2.2.1 a.2.2.2,(aaw (st:=st) a.2.1 a.2.2.1 a.2.2.2).binds hb,ajl X G a.1⟩
noncomputable def PAm (w:World) (K:ags) (f:Fx) (Ds:List Addr) (t:TA) (ρ:zi) (cs:List OC) (R:List DV->Prop):Prop:=Sep f Ds->∀ (σ:St) (H H2:Hp) (Q:List V->Hp->Prop),CM w K f Ds H2 ρ cs σ H->(∀ xs vs H',Goes (f.withs Ds) H H'->RepVs K (f.withs Ds) H' xs vs->R xs->Q vs H')->t σ H Q
section
variable {w:World} {K:ags} {f:Fx} {Ds:List Addr} {ρ:zi} {cs:List OC} {te tk:TE} {t:TA} {O:MEnds} {i j:Nat} {R:List DV->Prop} {P:PyData->Prop} {es:List PyData}
theorem ago (h:PAd K (f.withs Ds) t ρ R):PAm w K f Ds t ρ cs R:=fun se σ H H2 Q x q=>h σ H Q x.env q
theorem ac2 (hi:ρ[i]?=some (some (.own (f.M.length+j)))) (hc:cs[j]?=some (.lst es)) (h:PEm w K f Ds tk ρ cs fun y=>∃ k,y=.int k/\∃ d,atI es k=some d/\P d):PEm w K f Ds (tOp (abO K) (yE i) tk) ρ cs P:=fun se σ H H2 Q x q=>by
 have hj:j<Ds.length:=by rw [<-x.len];exact (agu.mp hc).1
 have hD:Ds[j]?=some Ds[j]:=agq hj
 refine⟨_,qo hi x hD,?_⟩
 refine h se σ H H2 _ x fun y v H1 g1 r1 ⟨k,ey,d,hd,p⟩=>?_
 subst ey
 have x1:=x.go g1 (x.env.mono g1)
 obtain⟨vs,h1,h2⟩:=x1.own j _ _ hD hc
 have:∃ u,atI vs k=some u/\Rep K (hide H1 (f.withs Ds)) d u:=by
  unfold atI at hd ⊢
  rw [h2.length]
  cases e:ixN es.length k with
  | none=>rw [e] at hd;cases hd
  | some m =>
   rw [e] at hd
   exact h2.get hd
 obtain⟨u,hu,ru⟩:=this
 exact⟨Ds[j],vs,k,u,rfl,rep_int.mp r1,.inl (.inl h1),hu,q d u H1 g1 ru p⟩
end
end L2
end
section
namespace L2
open PySem PySem.Spec PyProof.Rows
noncomputable def ab3:Nat:=2 ^ 9000
theorem qr {n m:Nat} (h:n<2 ^ m) (hm:m<=9000):n<ab3:=agG h (ais (by decide) hm)
theorem jZ {k:Int} (h:k.natAbs<ab3):ah2 k<=9000:=by
 unfold ah2
 split
 ·exact agT _
 ·have:k.natAbs.log2<9000:=by
   rcases Nat.eq_zero_or_pos k.natAbs with h0 | hp
   ·rw [h0];decide
   ·exact (Nat.log2_lt (ah8 hp)).mpr h
  omega
noncomputable def CMulH (i j:Int):Prop:=i.natAbs<ab3/\j.natAbs<ab3
theorem CMulH.ok {i j:Int} (h:CMulH i j):IntMulOk i j:=by
 have e1:=jZ h.1
 have e2:=jZ h.2
 have:ai5 ((ah2 i:Int)+(ah2 j:Int))=false:=by
  unfold ai5
  refine decide_eq_false ?_
  have:(100000:Int)<=(bitsLine:Int):=by decide +kernel
  omega
 unfold IntMulOk
 rw [this,Bool.and_false]
 exact agz
theorem zO {X:Cx}:OpR X (binaryOp .Mult) (rI CMulH fun i j=>.int (i * j)):=opI fun _ _ _ _ _ _ _ hc q=>mul_int q hc.ok
end L2
end
section
open PySem PySem.Spec PyProof.Rows
namespace L2
end L2
end
section
namespace L2
open PySem PySem.Spec PyProof.Rows
end L2
end
section
namespace L2
open PySem PySem.Spec PyProof.Rows
end L2
end
section
namespace L2
open PySem PySem.Spec PyProof.Rows
structure TQ (K:ags) (f:Fx) (a:Addr) (as:List Addr) (H2:Hp) (ρ:zi) (rows:List (List PyData)) (σ:St) (H:Hp):Prop where
 env:EnvOk K (f.withs (a :: as)) ρ σ H
 sm:Same (hide H2 (f.withs (a :: as))) (hide H (f.withs (a :: as)))
 kp:∀ b∈f.M,H b=H2 b
 top:H a=some (.lst (as.map .ref))
 nd:(a :: as).Nodup
 len:as.length=rows.length
 row:∀ (i:Nat) x r,as[i]?=some x->rows[i]?=some r->∃ vs,H x=some (.lst vs)/\Reps K (hide H (f.withs (a :: as))) r vs
end L2
end
section
namespace L2
open PySem PySem.Spec PyProof.Rows
inductive PEs (X:Cx):List (Expr×Expr)->List (TE×TE)->Prop where
 | nil:PEs X [] []
 | cons {k v:Expr} {tk tv:TE} {es:List (Expr×Expr)} {ts:List (TE×TE)}:PE X k tk->PE X v tv->PEs X es ts->PEs X ((k,v) :: es) ((tk,tv) :: ts)
inductive RelPs:List (V×V)->List (Value×Value)->Prop where
 | nil:RelPs [] []
 | cons {k v:V} {a b:Value} {l:List (V×V)} {us:List (Value×Value)}:RelV k a->RelV v b->RelPs l us->RelPs ((k,v) :: l) ((a,b) :: us)
inductive RepP (K:ags) (Hh:Hp):List (PyData×PyData)->List (V×V)->Prop where
 | nil:RepP K Hh [] []
 | cons {k v:PyData} {a b:V} {l:List (PyData×PyData)} {us:List (V×V)}:Rep K Hh k a->Rep K Hh v b->RepP K Hh l us->RepP K Hh ((k,v) :: l) ((a,b) :: us)
end L2
end
section
set_option maxHeartbeats 400000
namespace L2
open PySem PySem.Spec PyProof.Rows
structure PEw (X:Cx) (e:Expr) (t:TE):Prop where
 pe:PE X e t
structure PEsW (X:Cx) (es:List (Expr×Expr)) (ts:List (TE×TE)):Prop where
 pes:PEs X es ts
structure CSo (w:World) (K:ags) (f:Fx) (D:Addr) (H2:Hp) (ρ':zi) (kvs:List (PyData×PyData)) (σ:St) (H:Hp):Prop where
 env:EnvOk K (f.with D) ρ' σ H
 sm:Same (hide H2 (f.with D)) (hide H (f.with D))
 kp:∀ b∈f.M,H b=H2 b
 own:OwnAt w K (hide H (f.with D)) H D (.dic kvs)
end L2
end
section
namespace L2
open PySem PySem.Spec PyProof.Rows PySem.SetTable
theorem sit_next:Slot "set_iterator" "__next__" "set_iterator.__next__":=by
 refine Slot.of (owner:="set_iterator") (n:="__next__") ?_ (by decide +kernel) (by decide +kernel) (by decide +kernel) ?_ ?_
 ·rw [typeLookup_type,builtinLookup_eq_fast]
  kernel_rfl
 ·first | left;decide +kernel | right;decide +kernel
 ·rw [isSubtype_type]
  kernel_rfl
theorem ab4:entryFor table "set_iterator.__next__"=some Builtin.«set_iterator.__next__»:=entryFor_of_tree (by kernel_rfl)
theorem ve:Manifest.owners.lookup (String.ofList "set_iterator".toList.reverse.reverse)=some Manifest.sig_set_iterator:=by kernel_rfl
theorem ac3 (a:Value):argsOk "set_iterator.__next__" ⟨[a],[]⟩:=by
 unfold argsOk
 rw [signature?_of (id:="set_iterator.__next__") (n:="__next__".toList.reverse) (o:="set_iterator".toList.reverse) (by kernel_rfl) ve]
 kernel_rfl
theorem aab:Slot "set_iterator" "__iter__" "set_iterator.__iter__":=by
 refine Slot.of (owner:="set_iterator") (n:="__iter__") ?_ (by decide +kernel) (by decide +kernel) (by decide +kernel) ?_ ?_
 ·rw [typeLookup_type,builtinLookup_eq_fast]
  kernel_rfl
 ·first | left;decide +kernel | right;decide +kernel
 ·rw [isSubtype_type]
  kernel_rfl
theorem ab5 (a:Value):argsOk "set_iterator.__iter__" ⟨[a],[]⟩:=by
 unfold argsOk
 rw [signature?_of (id:="set_iterator.__iter__") (n:="__iter__".toList.reverse) (o:="set_iterator".toList.reverse) (by kernel_rfl) ve]
 kernel_rfl
theorem qK:entryFor table "set.__iter__"=some Builtin.«frozenset.__iter__»:=entryFor_alias (id':="frozenset.__iter__") (by kernel_rfl) rfl (by decide +kernel) (by kernel_rfl)
end L2
end
section
namespace L2
open PySem PySem.Spec PyProof.Rows PySem.SetTable
theorem aaG:entryFor table "set_iterator.__iter__"=some Builtin.«dict_keyiterator.__iter__»:=entryFor_alias (id':="dict_keyiterator.__iter__") (by kernel_rfl) rfl (by decide +kernel) (by kernel_rfl)
noncomputable def byT (w:World):Bool:=w.params.followText "set-order"
structure ISet (w:World) (h:Heap) (a:Addr) (xs:List (Int×Tok)) (o:Obj) (es:Array (Int×Value)) (ep:Nat) (t:SetTable):Prop where
 ob:h.get? a=some o
 ex:o.ExactSet
 da:o.data=.set es ep t
 el:es.toList=xs.map fun x=>(hashInt x.1,Value.int x.1 x.2)
 ok:ST.TOk t (xs.map fun x=>hashInt x.1)
 pl:t.plain=true
 ld:byT w=true \/ t.led=true
section
variable {P:Program} {w:World} {A:Around} {E:Value->Shared->Prop} {s:Shared} {a I:Addr} {xs:List (Int×Tok)} {o:Obj} {es:Array (Int×Value)} {ep i:Nat} {t:SetTable}
theorem ISet.size {h:Heap} (x:ISet w h a xs o es ep t):es.size=xs.length:=by
 rw [<-agF,x.el,agr]
theorem ISet.fits {h:Heap} (x:ISet w h a xs o es ep t):t.fits es.size=true:=by
 have h1:=x.ok.size
 have h2:=x.ok.most
 rw [agr] at h1 h2
 unfold ajm aiP
 rw [x.size,h1,x.ok.dum]
 simpa using h2
theorem ISet.type (S:ISet w s.heap a xs o es ep t):s.TypeIs (.ref a) "set":=⟨o,S.ob,S.ex.1⟩
noncomputable def yl (w:World) (a:Addr) (ep:Nat) (es:Array (Int×Value)):Array (Int×Value):=if byT w=true then pickOrder (w.params.setOrder a ep) es else es
theorem qL {α:Type} (f:Nat->Nat):∀ (n k:Nat) (l:List α) (out:Array α),l.length=n->(pickOrder.go f n k l out).toList.Perm (out.toList++l)
 | 0,k,l,out,h=>by
  rw [List.length_eq_zero_iff.mp h,ahq]
  exact .refl _
 | n+1,k,l,out,h=>by
  have lt:f k % l.length<l.length:=Nat.mod_lt _ (by omega)
  unfold pickOrder.go
  rw [agq lt]
  dsimp only
  refine (qL f n (k+1) _ _ (by rw [List.length_eraseIdx_of_lt lt];omega)).trans ?_
  rw [Array.toList_push,aiO]
  refine List.Perm.append_left _ ?_
  rw [List.singleton_append]
  have key:∀ (l:List α) (j:Nat) (hj:j<l.length),(l[j] :: l.eraseIdx j).Perm l:=fun l=>by
   induction l with
   | nil=>intro j hj;exact absurd hj (ag6 _)
   | cons b l ih =>
    intro j hj
    cases j with
    | zero=>exact .refl _
    | succ j =>
     show (l[j]'(aiW hj) :: b :: l.eraseIdx j).Perm (b :: l)
     exact (List.Perm.swap b _ _).trans ((ih j (aiW hj)).cons b)
  exact key l _ lt
theorem vf:(yl w a ep es).toList.Perm es.toList:=by
 unfold yl
 split
 ·unfold pickOrder
  have:=qL (w.params.setOrder a ep) es.size 0 es.toList #[] (agF ..)
  simpa using this
 ·exact .refl _
theorem j3:(yl w a ep es).size=es.size:=by
 have:=(vf (w:=w) (a:=a) (ep:=ep) (es:=es)).length_eq
 rwa [agF,agF] at this
noncomputable def slotAt (w:World) (t:SetTable) (i:Nat):Nat:=if byT w=true then 0 else if i=0 then 0 else t.place.getD (i - 1) 0+1
noncomputable def aac (a:Addr) (sl i n ep:Nat):Obj:={ cls:=.type "set_iterator",data:=.fields #[.int sl 0,.int i 0,.ref a,.int n 0,.int ep 0] }
theorem ab6 {Q:Value->Shared->Prop} (S:ISet w s.heap a xs o es ep t) (q:Q (.ref s.heap.objs.size) { s with heap:=s.heap.push (aac a 0 0 es.size ep) }):wpAny (model P w) A (pyIter (.ref a)) Q E s:=by
 have T:=S.type
 refine wpAny_pyIter_slot T ai6 (wpAny_call_entry ai6 T qK ?_ (PySem.F.args_set_iter_1 _))
 unfold Builtin.«frozenset.__iter__» Builtin.Frozenset.slot0 slotArgs
 simp only [List.isEmpty_nil,ahk,aiD,↓reduceIte,bind_assoc,List.length_nil,bne_self_eq_false]
 unfold Builtin.Frozenset.addrOf Builtin.Frozenset.sizeOf
 refine wpAny_bind (wpAny_pure ?_)
 try dsimp only
 refine wpAny_bind (wpAny_pure ?_)
 refine wpAny_bind (wpAny_bind (wpAny_setEntries_of S.ob S.da S.fits (wpAny_pure ?_)))
 unfold setDrawn
 refine wpAny_bind (wpAny_bind (wpAny_setState_of S.ob S.da S.fits ?_))
 unfold setsByText
 refine wpAny_bind (wpAny_bind (wpAny_askSetting (wpAny_pure (wpAny_pure ?_))))
 show wpAny _ _ (if (!byT w && (!t.plain && decide (es.size > 1)))=true then _ else _) _ _ _
 rw [S.pl,ahk,aiC,Bool.and_false,if_neg agz]
 refine wpAny_bind (wpAny_pure ?_)
 refine wpAny_bind (wpAny_setEpoch_of S.ob S.da S.fits ?_)
 refine wpAny_bind (wpAny_newObj_type ?_ (by size_fits))
 exact wpAny_pure ⟨_,rfl, "set_iterator",_,⟨_,agI _ rfl,rfl⟩,sit_next.lookup,q⟩
theorem aaH (k:ST.TOk t (xs.map fun x=>hashInt x.1)) (nb:byT w=false) (hi:i<=xs.length):below t.place (slotAt w t i)=i:=by
 have sz:=k.size
 rw [agr] at sz
 unfold slotAt
 rw [nb,if_neg agz]
 obtain⟨b1,b2,b3⟩:=ST.below_ok k.rise (if i=0 then 0 else t.place.getD (i - 1) 0+1)
 generalize below t.place (if i=0 then 0 else t.place.getD (i - 1) 0+1)=m at *
 by_cases h0:i=0
 ·subst h0
  by_cases hm:m=0
  ·exact hm
  ·have:=b2 0 (by omega)
   rw [if_pos rfl] at this
   omega
 ·rw [if_neg h0] at b2 b3
  by_cases h1:m<i
  ·have h2:=b3 m (agv _) (by omega)
   by_cases h3:m=i - 1
   ·subst h3;omega
   ·have:=k.rise m (i - 1) (by omega) (by omega)
    omega
  ·by_cases h2:i<m
   ·have h3:=b2 i h2
    by_cases h4:i<t.place.size
    ·have:=k.rise (i - 1) i (by omega) h4
     omega
    ·omega
   ·omega
theorem ac4 {R:Option (Value×Nat)->Shared->Prop} (S:ISet w s.heap a xs o es ep t) (hi:i<=es.size) (q1:∀ e,(yl w a ep es)[i]?=some e->R (some (e.2,slotAt w t (i+1))) s) (q2:(yl w a ep es)[i]?=none->R none s) :
  wpAny (model P w) A (setNext a (slotAt w t i) i ep) R E s:=by
 unfold setNext
 refine wpAny_bind (wpAny_setState_of S.ob S.da S.fits ?_)
 dsimp only
 unfold setsByText
 refine wpAny_bind (wpAny_bind (wpAny_askSetting (wpAny_pure ?_)))
 show wpAny _ _ (if byT w=true then _ else _) _ _ _
 by_cases hb:byT w=true
 ·rw [if_pos hb,bne_self_eq_false,if_neg agz]
  unfold setWalk
  refine wpAny_bind (wpAny_bind (wpAny_setState_of S.ob S.da S.fits ?_))
  dsimp only
  unfold setsByText
  refine wpAny_bind (wpAny_bind (wpAny_askSetting (wpAny_pure ?_)))
  show wpAny _ _ (if byT w=true then _ else _) _ _ _
  rw [if_pos hb]
  refine wpAny_bind (wpAny_askSetting (wpAny_pure (wpAny_pure ?_)))
  have e1:slotAt w t i=0:=by unfold slotAt;rw [if_pos hb]
  have e2:slotAt w t (i+1)=0:=by unfold slotAt;rw [if_pos hb]
  have e3:yl w a ep es=pickOrder (w.params.setOrder a ep) es:=by unfold yl;rw [if_pos hb]
  rw [e3] at q1 q2
  show R (((pickOrder (w.params.setOrder a ep) es)[i]?).map fun e=>(e.2,slotAt w t i)) s
  rw [e1]
  cases hx:(pickOrder (w.params.setOrder a ep) es)[i]? with
  | none=>exact q2 hx
  | some e =>
   have:=q1 e hx
   rw [e2] at this
   exact this
 ·have nb:byT w=false:=by cases h:byT w with | true=>exact absurd h hb | false=>rfl
  have led:=S.ld.resolve_left hb
  rw [if_neg hb]
  show wpAny _ _ (if (!t.plain && decide (es.size > 1))=true then _ else _) _ _ _
  rw [S.pl,ahk,aiC,if_neg agz]
  refine wpAny_bind ?_
  show wpAny _ _ (if (!t.led && !es.isEmpty)=true then _ else _) _ _ _
  rw [led,ahk,aiC,if_neg agz]
  refine wpAny_pure ?_
  have e3:yl w a ep es=es:=by unfold yl;rw [if_neg hb]
  rw [e3] at q1 q2
  have hl:i<=xs.length:=by rw [<-S.size];exact hi
  rw [aaH S.ok nb hl]
  have sz:=S.ok.size
  rw [agr] at sz
  refine wpAny_pure ?_
  cases hx:es[i]? with
  | none=>exact q2 hx
  | some e =>
   have hlt:i<t.place.size:=by
    have:=(aiF.mp hx).1
    have:=S.size
    omega
   rw [ahj hlt]
   have:=q1 e hx
   have es1:slotAt w t (i+1)=t.place[i]+1:=by
    unfold slotAt
    rw [if_neg hb,if_neg (Nat.succ_ne_zero i),Nat.add_sub_cancel]
    simp [ahF,hlt]
   rw [es1] at this
   exact this
theorem aad {Q:Option Value->Shared->Prop} (hh:A.handled=none) (ti:s.heap.get? I=some (aac a (slotAt w t i) i es.size ep)) (S:ISet w s.heap a xs o es ep t) (hi:i<=es.size)
  (q1:∀ e h',(yl w a ep es)[i]?=some e->h'.get? I=some (aac a (slotAt w t (i+1)) (i+1) es.size ep)->ahX I s.heap h'->Q (some e.2) { s with heap:=h' })
  (q2:(yl w a ep es)[i]?=none->∀ h',Heap.ExtBut I s.heap h'->Q none { s with heap:=h' }):wpAny (model P w) A (pyNext (.ref I)) Q E s:=by
 have T:s.TypeIs (.ref I) "set_iterator":=⟨_,ti,rfl⟩
 unfold pyNext
 apply wpAny_bind
 apply wpAny_attempt
 refine wpAny_callSpecial?_slot (name:=Str.ofString "__next__") T sit_next (wpAny_call_entry sit_next T ab4 ?_ (ac3 _))
 unfold Builtin.«set_iterator.__next__»
 apply wpAny_bind
 apply wpAny_pure
 apply wpAny_bind
 apply wpAny_fieldsOf ti rfl
 dsimp only
 refine wpAny_bind (wpAny_setEntries_of S.ob S.da S.fits ?_)
 rw [if_neg (by simp)]
 refine wpAny_bind ?_
 rw [agQ,agQ,agQ]
 refine ac4 S hi (fun e he=>?_) fun hn=>?_
 ·dsimp only
  apply wpAny_bind (m:=setField (.ref I) 0 (rawInt (slotAt w t (i+1))))
  refine wpAny_setField ti rfl (by simp) ?_
  apply wpAny_bind (m:=setField (.ref I) 1 (rawInt ((i:Int)+1)))
  have g1:(s.heap.update I (aiq (·.setIfInBounds 0 (rawInt (slotAt w t (i+1)))))).get? I=some (aac a (slotAt w t (i+1)) i es.size ep):=by
   have:=ahy (aiq (·.setIfInBounds 0 (rawInt (slotAt w t (i+1))))) ti (ai7 (Obj.data_mapFields (o:=aac a (slotAt w t i) i es.size ep) rfl _))
   rw [this]
   rfl
  refine wpAny_setField g1 rfl (by simp) ?_
  have g2:((s.heap.update I (aiq (·.setIfInBounds 0 (rawInt (slotAt w t (i+1)))))).update I (aiq (·.setIfInBounds 1 (rawInt ((i:Int)+1))))).get? I=some (aac a (slotAt w t (i+1)) (i+1) es.size ep):=by
   have:=ahy (aiq (·.setIfInBounds 1 (rawInt ((i:Int)+1)))) g1 (ai7 (Obj.data_mapFields (o:=aac a (slotAt w t (i+1)) i es.size ep) rfl _))
   rw [this]
   rfl
  exact wpAny_pure ⟨_,rfl,wpAny_pure (q1 e _ he g2 ((ahH ..).trans (ahH ..)))⟩
 ·dsimp only
  apply wpAny_bind (m:=setField (.ref I) 2 .none)
  refine wpAny_setField ti rfl (by simp) ?_
  apply wpAny_bind (m:=newExc (.type "StopIteration") [])
  simp only [newExc,newTuple]
  apply wpAny_bind
  refine wpAny_newObj_type ?_ (by size_fits)
  apply wpAny_bind (m:=firstArgMember _ _)
  refine wpAny_of_eq (a:=Value.none) rfl ?_
  refine wpAny_newObj_type ?_ (by size_fits)
  simp only [raiseNew]
  apply wpAny_bind
  apply wpAny_handled
  rw [show A.in1.handled=none from hh]
  refine wpAny_bind (wpAny_pure ?_)
  apply wpAny_throw
  apply wpAny_bind
  refine wpAny_isInstance (T:="StopIteration") (b:=true) ⟨_,agI _ rfl,rfl⟩ isSubtype_stop ?_
  exact wpAny_pure (q2 hn _ (((ahH ..).extBut.push _).push _))
theorem ac5 {r:Addr} {Q:Bool->Shared->Prop} (hT:s.TypeIs (.ref r) "set") (h:Q false s):wpAny (model P w) A (aiA (.ref r)) Q E s:=by
 unfold aiA
 refine wpAny_bind (wpAny_specialOf hT PySem.F.slot_set_len.lookup ?_)
 generalize hid:("set.__len__":String)=id0
 wp_delta
 rw [show splitId id0=some ("set","__len__") from by subst hid;decide +kernel]
 subst hid
 refine wpAny_bind (wpAny_isInstance (T:="set") (b:=true) hT sub_set_self ?_)
 refine wpAny_ite_split (fun z=>absurd z (by decide)) fun _=>wpAny_ite_split (fun _=>?_) fun z=>absurd (by decide +kernel) z
 exact wpAny_bind (wpAny_typeOf hT (wpAny_pure h))
theorem ac6 (hh:A.handled=none) (I:Addr) (ne:a≠I) (ex:o.ExactSet) (da:o.data=.set es ep t) (el:es.toList=xs.map fun x=>(hashInt x.1,Value.int x.1 x.2)) (ok:ST.TOk t (xs.map fun x=>hashInt x.1)) (pl:t.plain=true) (ld:byT w=true \/ t.led=true) :
  Walks P w A I [I,a] [I] es.size (fun i v=>∃ e,(yl w a ep es)[i]?=some e/\v=e.2) (fun i h=>(i<=es.size/\h.get? I=some (aac a (slotAt w t i) i es.size ep))/\h.get? a=some o) where
 sub:=fun b hb=>by rw [agO.mp hb];exact agD ..
 frame:=fun i h h' ⟨⟨l,t⟩,g⟩ k=>⟨⟨l,k I (agD ..) _ t⟩,k a (agw _ (agD ..)) o g⟩
 item:=fun i s Q E hi ⟨⟨l,ti⟩,g⟩ q=>aad hh ti ⟨g,ex,da,el,ok,pl,ld⟩ l (fun e h' he t' sb=>q e.2 h' s.toks ⟨e,he,rfl⟩ ⟨⟨hi,t'⟩,(sb.2 a ne).trans g⟩ fun b u hb hu=>(sb.2 b fun z=>hb (by rw [z];exact agD ..)).trans hu) fun z=>by
  rw [ahj (by rw [j3];exact hi)] at z
  cases z
 done:=fun s Q E ⟨⟨l,ti⟩,g⟩ q=>aad hh ti ⟨g,ex,da,el,ok,pl,ld⟩ l (fun e h' he=>by
  rw [aie (by rw [j3];exact agv _)] at he
  cases he) fun _ h' eb=>q h' s.toks fun b u hb hu=>eb b u (fun z=>hb (by rw [z];exact agD ..)) hu
 self:=fun i s Q E st q=>by
  have T:s.TypeIs (.ref I) "set_iterator":=⟨_,st.1.2,rfl⟩
  refine wpAny_pyIter_slot T aab (wpAny_call_entry aab T aaG ?_ (ab5 _))
  show wpAny _ _ (ret (.ref I)) _ _ s
  exact wpAny_pure ⟨_,rfl, "set_iterator",_,T,sit_next.lookup,q⟩
theorem ad4 (ex:o.ExactSet) (da:o.data=.set es ep t) (el:es.toList=xs.map fun x=>(hashInt x.1,Value.int x.1 x.2)) (ok:ST.TOk t (xs.map fun x=>hashInt x.1)) (pl:t.plain=true) (ld:byT w=true \/ t.led=true) :
  PySem.W.KdlSrc P w "set" a a es.size (fun i v=>∃ e,(yl w a ep es)[i]?=some e/\v=e.2) (fun h=>h.get? a=some o) where
 type:=fun s g=>⟨o,g,ex.1⟩
 there:=fun h g=>⟨agB g,agB g⟩
 keep:=fun h h' g k=>k a (.inl rfl) o g
 notList:=rfl
 notTuple:=rfl
 hint:=fun A E s Q g q=>ac5 ⟨o,g,ex.1⟩ q
 iter:=fun A s hh g=>⟨_,_,fun E Q q=>ab6 (w:=w) ⟨g,ex,da,el,ok,pl,ld⟩ q,ac6 hh _ (agP (agB g)) ex da el ok pl ld,⟨agT _,by
  rw [show slotAt w t 0=0 by unfold slotAt;split <;> rfl]
  exact agI _ rfl⟩,agt _ g⟩
end
end L2
end
section
namespace L2
open PySem PySem.Spec PyProof.Rows PySem.SetTable
section
variable {P:Program} {w:World} {A:Around} {E:Value->Shared->Prop} {s:Shared} {a:Addr} {xs:List (Int×Tok)} {o:Obj} {es:Array (Int×Value)} {ep:Nat} {t:SetTable}
theorem ad5 {h:Int} {hs:List Int} (k:ST.TB t hs) {F:Nat} (hF:ST.First t h F):t.freeSlot h=some (ST.pos t.mask h F,false):=by
 unfold SetTable.freeSlot
 have key:∀ g:Nat->Int,(∀ i,g i≠h)->t.probe g h (t.probeStart h)=some (.empty (ST.pos t.mask h F) none):=fun g hg=>by
  rcases ST.probe_go k.dum k.rise (hashAt:=g) hF (10 * turns t.mask) 0 (agT _) (by have:=hF.lt;omega) with⟨e,_⟩ | ⟨q,i,_,_,_,_,z,_⟩
  ·exact e
  ·exact absurd z (hg i)
 rw [key _ fun i=>by omega]
 rfl
theorem ISet.elems {h:Heap} (S:ISet w h a xs o es ep t):ElemsOf (intKind P w) es.toList:=fun e he=>by
 rw [S.el] at he
 obtain⟨x,_,rfl⟩:=ahf.mp he
 exact⟨⟨x.1,intKind_is P w x.1 x.2,rfl⟩,rfl⟩
theorem aft {mask wanted:Nat} (el:es.toList=xs.map fun x=>(hashInt x.1,Value.int x.1 x.2)) (tb:ST.TB t (xs.map fun x=>hashInt x.1)) (mk:mask=31 \/ mask=127 \/ mask=511) (hw:SetTable.sizeAbove wanted=mask+1)
  (room:xs.length * 5<mask * 3):∃ (xs':List (Int×Tok)) (es':Array (Int×Value)) (t':SetTable),relayAll t es wanted=(es',t',false)/\xs'.Perm xs/\es'.toList=xs'.map (fun x=>(hashInt x.1,Value.int x.1 x.2))/\ST.TOk t' (xs'.map fun x=>hashInt x.1)/\t'.plain=t.plain/\t'.led=t.led:=by
 have sz:es.size=xs.length:=by rw [<-agF,el,agr]
 have mk2:mask=7 \/ mask=31 \/ mask=127 \/ mask=511:=.inr mk
 obtain⟨t2,ord,e1,e2,e3,e4,pm,tb2⟩:=ST.laid_ok mk2 (es.map (·.1)) (by rw [aja,sz];omega) t.finger (t.movedTo mask) t.led t.plain
 rw [aja] at pm
 have hlt:∀ i∈ord.toList,i<es.size:=fun i hi=>agS.mp (pm.mem_iff.mp hi)
 let xs':=ord.toList.map fun i=>xs.getD i (0,0)
 have gd:∀ i,i<xs.length->xs.getD i (0,0)=xs[i]!:=fun i hi=>by
  rw [agp,agq hi]
  simp [hi]
 have px:xs'.Perm xs:=by
  have e:(agK es.size).map (fun i=>xs.getD i (0,0))=xs:=by
   rw [sz]
   refine aiN fun i=>?_
   rw [agy]
   by_cases hi:i<xs.length
   ·rw [ahb hi,agq hi]
    simp [hi]
   ·rw [agR (by simp;omega),agR (by omega)]
    rfl
  have:=pm.map fun i=>xs.getD i (0,0)
  rw [e] at this
  exact this
 have ee:(ord.filterMap (es[·]?)).toList=xs'.map fun x=>(hashInt x.1,Value.int x.1 x.2):=by
  rw [Array.toList_filterMap,jr es ord.toList hlt (0,Value.none),ahC]
  refine aiy fun i hi=>?_
  have h3:i<xs.length:=by have:=hlt i hi;omega
  show es.toList.getD i (0,Value.none)=(hashInt (xs.getD i (0,0)).1,Value.int (xs.getD i (0,0)).1 (xs.getD i (0,0)).2)
  rw [el,agp,agy,agp,agq h3]
  rfl
 have es_sz:(ord.filterMap (es[·]?)).size=es.size:=by rw [<-agF,ee,agr,px.length_eq,sz]
 have tok:ST.TOk t2 (xs'.map fun x=>hashInt x.1):=by
  have eh:(ord.toList.map fun i=>(es.map (·.1)).toList.getD i 0)=xs'.map fun x=>hashInt x.1:=by
   rw [ahC]
   refine aiy fun i hi=>?_
   have h3:i<xs.length:=by have:=hlt i hi;omega
   show (es.map (·.1)).toList.getD i 0=hashInt (xs.getD i (0,0)).1
   rw [Array.toList_map,el,ahC,agp,agy,agp,agq h3]
   rfl
  rw [eh] at tb2
  exact⟨tb2,by rw [agr,px.length_eq,e2];exact room⟩
 have e1':t.relaid (es.map (·.1)) wanted=some (t2,ord):=by
  unfold SetTable.relaid
  rw [hw]
  exact e1
 have fits:t2.fits (ord.filterMap (es[·]?)).size=true:=by
  have h1:=tok.size
  have h2:=tok.most
  rw [agr,px.length_eq] at h1 h2
  unfold ajm aiP
  rw [es_sz,sz,h1,tok.dum]
  simpa using h2
 have cov:coversAll ord es.size=true:=by
  unfold coversAll
  exact List.isPerm_iff.mpr pm
 refine⟨xs',ord.filterMap (es[·]?),t2,?_,px,ee,tok,e3,e4⟩
 unfold relayAll
 rw [e1']
 dsimp only
 rw [cov,fits,Bool.true_and,if_pos rfl]
theorem ad6 {Q:Shared->Prop} {n:Int} {tk:Tok} (S:ISet w s.heap a xs o es ep t) (few:xs.length<300) (old:n∈xs.map (·.1)->Q { s with toks:=s.toks+1 })
  (new:n∉xs.map (·.1)->∀ xs' o' es' ep' t' h',xs'.Perm ((n,tk) :: xs)->ahX a s.heap h'->ISet w h' a xs' o' es' ep' t'->Q { s with heap:=h',toks:=s.toks+1 }) :
  wpAny (model P w) A (setAdd a (.int n tk)) (fun _ s'=>Q s') E s:=by
 obtain⟨F,hF⟩:=ST.first_of S.ok.toTB (hashInt n)
 have room:=S.ok.room
 rw [agr] at room
 have is:=intKind_is P w n tk
 have sz:=S.size
 unfold setAdd
 apply wpAny_holding
 apply wpAny_bind
 refine (intKind P w).pyHash is ?_
 show wpAny _ _ (setAddHashed a (.int n tk) (hashInt n)) _ _ _
 unfold setAddHashed setAddHashedIn
 apply wpAny_holding
 apply wpAny_bind
 refine wpAny_setState_of (s:={ s with toks:=s.toks+1 }) S.ob S.da S.fits ?_
 dsimp only
 rw [byScan_of rfl (show es.size<scanBound by unfold scanBound;omega) (S.elems (P:=P)),if_pos rfl]
 unfold setAddByScan
 refine wpAny_bind (wpAny_bind (wpAny_rule (wpAny_bind ?_)))
 refine wpAny_setScan_of (s:={ s with toks:=s.toks+1 }) (knd:=intKind P w) is S.ob S.da S.fits S.elems ?_
 have found:∀ j,es.toList.findIdx? (fun e=>(intKind P w).is n e.2)=some j->n∈xs.map (·.1):=fun j hj=>by
  obtain⟨h1,h2,_⟩:=List.findIdx?_eq_some_iff_getElem.mp hj
  obtain⟨e,hm,h2⟩:∃ e∈es.toList,(intKind P w).is n e.2=true:=⟨_,ahx h1,h2⟩
  rw [S.el] at hm
  obtain⟨x,hx,ex⟩:=ahf.mp hm
  rw [<-ex] at h2
  have:x.1=n:=by
   have:=ajc (intKind_is P w x.1 x.2) n
   rw [h2] at this
   exact (of_decide_eq_true this.symm).symm
  exact ahf.mpr ⟨x,hx,this⟩
 cases hr:es.toList.findIdx? (fun e=>(intKind P w).is n e.2) with
 | some j=>exact wpAny_pure (wpAny_pure (old (found j hr)))
 | none =>
  have hd:n∉xs.map (·.1):=fun hm=>by
   obtain⟨x,hx,ex⟩:=ahf.mp hm
   have:=List.findIdx?_eq_none_iff.mp hr (hashInt x.1,Value.int x.1 x.2) (by rw [S.el];exact ahf.mpr ⟨x,hx,rfl⟩)
   have e2:=ajc (intKind_is P w x.1 x.2) n
   rw [decide_eq_true ex.symm] at e2
   rw [e2] at this
   cases this
  obtain⟨hp,tb⟩:=ST.put_tb S.ok.toTB hF (by rw [agr];rcases S.ok.mask with e | e | e | e <;> rw [e] at room ⊢ <;> omega)
  rw [agr] at hp
  have pl2:(t.put (ST.pos t.mask (hashInt n) F)).1.plain=true:=S.pl
  have ld2:(t.put (ST.pos t.mask (hashInt n) F)).1.led=t.led:=rfl
  have mk2:(t.put (ST.pos t.mask (hashInt n) F)).1.mask=t.mask:=rfl
  generalize hP:below t.place (ST.pos t.mask (hashInt n) F)=p at *
  have ep2:(t.put (ST.pos t.mask (hashInt n) F)).2=p:=hP
  have pm:(xs.take p++(n,tk) :: xs.drop p).Perm ((n,tk) :: xs):=by
   refine List.perm_middle.trans ?_
   rw [List.take_append_drop]
  have el:(insertAt es p (hashInt n,Value.int n tk)).toList=(xs.take p++(n,tk) :: xs.drop p).map fun x=>(hashInt x.1,Value.int x.1 x.2):=by
   rw [ah4,S.el,ahg,ahd,air,ajn]
  have eh:(xs.map fun x=>hashInt x.1).take p++hashInt n :: (xs.map fun x=>hashInt x.1).drop p=(xs.take p++(n,tk) :: xs.drop p).map fun x=>hashInt x.1:=by
   rw [ahg,ahd,air,ajn]
  rw [eh] at tb
  have ln:(xs.take p++(n,tk) :: xs.drop p).length=xs.length+1:=by rw [pm.length_eq];rfl
  have sze:(insertAt es p (hashInt n,Value.int n tk)).size=xs.length+1:=by rw [<-agF,el,agr,ln]
  have fits:(t.put (ST.pos t.mask (hashInt n) F)).1.fits (insertAt es p (hashInt n,Value.int n tk)).size=true:=by
   have h1:=tb.size
   have h2:=tb.most
   rw [agr,ln] at h1 h2
   unfold ajm aiP
   rw [sze,h1,tb.dum]
   simpa using h2
  have lay:layNew t es (hashInt n) (.int n tk)=(insertAt es p (hashInt n,Value.int n tk),(t.put (ST.pos t.mask (hashInt n) F)).1,false,false):=by
   unfold layNew
   rw [ad5 S.ok.toTB hF]
   show (insertAt es (t.put (ST.pos t.mask (hashInt n) F)).2 (hashInt n,Value.int n tk),(t.put (ST.pos t.mask (hashInt n) F)).1.orStandIn (insertAt es (t.put (ST.pos t.mask (hashInt n) F)).2 (hashInt n,Value.int n tk)).size,false,!(t.put (ST.pos t.mask (hashInt n) F)).1.fits (insertAt es (t.put (ST.pos t.mask (hashInt n) F)).2 (hashInt n,Value.int n tk)).size)=_
   rw [ep2,fits]
   unfold SetTable.orStandIn
   rw [if_pos fits]
   rfl
  generalize (t.put (ST.pos t.mask (hashInt n) F)).1=t2 at *
  dsimp only
  rw [lay]
  dsimp only
  refine wpAny_bind ?_
  show wpAny _ _ (pure ()) _ _ _
  refine wpAny_pure ?_
  rw [pl2,if_pos rfl]
  refine wpAny_bind ?_
  show wpAny _ _ (pure true) _ _ _
  refine wpAny_pure ?_
  simp only [if_true,ajd,Bool.true_and]
  refine wpAny_bind (wpAny_storeSet_of (s:={ s with toks:=s.toks+1 }) S.ob S.da ?_ (by rw [sze,sizeLine_eq];omega))
  have g:(s.heap.update a (aiX (insertAt es p (hashInt n,Value.int n tk)) t2)).get? a=some { o with data:=.set (insertAt es p (hashInt n,Value.int n tk)) (ep+1) t2 }:=by
   have:=ahy (aiX (insertAt es p (hashInt n,Value.int n tk)) t2) S.ob (by rw [putSet_of _ _ S.da];rfl)
   rw [putSet_of _ _ S.da] at this
   exact this
  have sb:=ahH s.heap a (aiX (insertAt es p (hashInt n,Value.int n tk)) t2)
  have fill:t2.tooFull=decide ((xs.length+1) * 5 >= t.mask * 3):=by
   unfold SetTable.tooFull aiP
   have h1:=tb.size
   rw [agr,ln] at h1
   rw [h1,tb.dum,mk2]
   rfl
  rw [fill]
  by_cases full:(xs.length+1) * 5 >= t.mask * 3
  ·rw [if_pos (decide_eq_true full),sze]
   have:∃ mask,(mask=31 \/ mask=127 \/ mask=511)/\SetTable.sizeAbove (SetTable.grown (xs.length+1))=mask+1/\(xs.length+1) * 5<mask * 3:=by
    rcases S.ok.mask with e | e | e | e <;> rw [e] at room full
    ·rw [show xs.length=4 by omega]
     exact⟨31,.inl rfl,by decide,by decide⟩
    ·rw [show xs.length=18 by omega]
     exact⟨127,.inr (.inl rfl),by decide,by decide⟩
    ·rw [show xs.length=76 by omega]
     exact⟨511,.inr (.inr rfl),by decide,by decide⟩
    ·omega
   obtain⟨mask,mk,hw,rm⟩:=this
   obtain⟨xs',es',t',er,px,el',tok',pl',ld'⟩:=aft el tb mk hw (by rw [ln];exact rm)
   rw [er]
   refine wpAny_bind ?_
   show wpAny _ _ (pure ()) _ _ _
   refine wpAny_pure ?_
   have sz':es'.size=xs.length+1:=by rw [<-agF,el',agr,px.length_eq,ln]
   refine wpAny_bind (wpAny_storeSet_of (s:={ s with heap:=s.heap.update a (aiX (insertAt es p (hashInt n,Value.int n tk)) t2),toks:=s.toks+1 }) (o:={ o with data:=.set (insertAt es p (hashInt n,Value.int n tk)) (ep+1) t2 }) g rfl ?_ (by rw [sz',sizeLine_eq];omega))
   refine wpAny_pure (wpAny_pure (new hd xs' { o with data:=.set es' (ep+1+1) t' } es' (ep+1+1) t' _ (px.trans pm) (sb.trans (ahH ..)) ⟨?_,S.ex,rfl,el',tok',pl'.trans pl2,S.ld.imp id fun z=>ld'.trans (ld2.trans z)⟩))
   have:=ahy (aiX es' t') g (by rw [putSet_of _ _ rfl];rfl)
   rw [putSet_of _ _ rfl] at this
   exact this
  ·rw [if_neg (by rw [decide_eq_false full];exact agz)]
   refine wpAny_pure (wpAny_pure (new hd _ _ _ _ _ _ pm sb ⟨g,S.ex,rfl,el,⟨tb,?_⟩,pl2,S.ld.imp id fun z=>ld2.trans z⟩))
   rw [agr,ln,mk2]
   omega
end
noncomputable def yx (w:World) (h:Heap) (S:Addr) (ns:List Int):Prop:=∃ xs o es ep t,ISet w h S xs o es ep t/\(xs.map (·.1)).Nodup/\(∀ d,d∈xs.map (·.1)↔d∈ns)
section
variable {prog:Program} {w:World} {A:Around} {R:Result->Shared->Prop} {I S:Addr} {fp wr:List Addr} {G:Array GenState->Array GenState->Prop} {n:Nat} {Pv:Nat->Value->Prop} {St:Nat->Shared->Prop} {h0:Heap} {ds:List Int}
theorem ab7 (W:WalksS prog w A.in1 I fp wr G n Pv St) (hSf:S∉fp) (hI:∀ b∈wr,h0.get? b=none) (hS0:h0.get? S=none) (hn:n=ds.length) (hv:∀ i v,Pv i v->∃ d tk,ds[i]?=some d/\v=.int d tk) (few:∀ us:List Int,us.Nodup->(∀ x∈us,x∈ds)->us.length<300) :
  ∀ (k i:Nat) (s:Shared),i+k=n->St i s->Keeps h0 s.heap->yx w s.heap S (ds.take i)->(∀ s',Moved (S :: wr) G s s'->Keeps h0 s'.heap->yx w s'.heap S ds->R (.ok (.ret .none)) s') ->
   codeAny (model prog w) A (.builtin "set.update.loop" ⟨[.ref S,.ref I],[]⟩) R s:=by
 have nw:S∉wr:=fun h=>hSf (W.sub _ h)
 have up:∀ b∈wr,b∈S :: wr:=fun b hb=>agw _ hb
 have kp:∀ {s s':Shared},Moved wr G s s'->Keeps h0 s.heap->Keeps h0 s'.heap:=fun {s s'} m K b o e=>m.heap b o (fun z=>by rw [hI b z] at e;cases e) (K b o e)
 have mv:∀ {s s':Shared} {ds:List Int},Moved wr G s s'->yx w s.heap S ds->yx w s'.heap S ds:=fun {s s' ds} m ⟨xs,o,es,ep,t,q,r⟩=>⟨xs,o,es,ep,t,⟨m.heap S _ nw q.ob,q.ex,q.da,q.el,q.ok,q.pl,q.ld⟩,r⟩
 have enter:∀ (s:Shared) (h:wpAny (model prog w) A.in1 (Builtin.«set.update.loop» ⟨[.ref S,.ref I],[]⟩) (fun fin s'=>match fin with | .done f=>R (.ok f) s' | .again c'=>c'.quiet=true/\codeAny (model prog w) A c' R s') (fun e s'=>R (.error e) s') s),codeAny (model prog w) A (.builtin "set.update.loop" ⟨[.ref S,.ref I],[]⟩) R s:=fun s h=>by
  refine codeAny_builtin PyProof.Rows.F.entry_set_update_loop ?_
  rw [aje ahu _]
  exact h
 intro k
 induction k with
 | zero =>
  intro i s hi st K U hR
  refine enter s ?_
  show wpAny _ A.in1 (pyNext (.ref I) >>= _) _ _ s
  obtain rfl:i=n:=hi
  refine wpAny_bind (W.done s _ _ st fun s' m=>wpAny_pure (hR s' (m.mono up) (kp m K) ?_))
  have:=mv m U
  rw [aib (by omega)] at this
  exact this
 | succ k ih =>
  intro i s hi st K U hR
  refine enter s ?_
  show wpAny _ A.in1 (pyNext (.ref I) >>= _) _ _ s
  refine wpAny_bind (W.item i s _ _ (by omega) st fun v s' hP st' m=>?_)
  obtain⟨d,tk,hd,rfl⟩:=hv i v hP
  have K':=kp m K
  obtain⟨xs,o,es,ep,t,q,nd,mm⟩:=mv m U
  have lx:xs.length<300:=by
   have:=few _ nd fun x hx=>ajf ((mm x).mp hx)
   rwa [agr] at this
  have tke:ds.take (i+1)=ds.take i++[d]:=by rw [aic,hd];rfl
  show wpAny _ A.in1 (holding [Value.int d tk] (setAdd S (.int d tk)) >>= _) _ _ s'
  refine wpAny_bind (wpAny_holding (ad6 (Q:=fun s2=>wpAny (model prog w) A.in1 (again (.builtin "set.update.loop" ⟨[.ref S,.ref I],[]⟩)) _ _ s2) q lx (fun hm=>?_) fun hm xs' o' es' ep' t' h' pm sb q'=>?_))
  ·refine wpAny_pure ⟨plainId_quiet ahu _,ih (i+1) _ (by omega) (W.frame _ s' _ _ st' (aip _ _) fun _ _ _ e=>e) K' ⟨xs,o,es,ep,t,q,nd,fun e=>?_⟩ fun s2 m2 K2 U2=>?_⟩
   ·rw [tke,ag5,mm e]
    refine⟨.inl,fun z=>z.elim id fun z=>?_⟩
    rw [agO.mp z]
    exact (mm d).mp hm
   ·exact hR s2 (Moved.trans W.gtrans ((m.mono up).then_heap (aip _ _) fun _ _ _ e=>e) m2) K2 U2
  ·refine wpAny_pure ⟨plainId_quiet ahu _,ih (i+1) _ (by omega) (W.frame _ s' _ _ st' (aip _ _) fun c hc o e=>?_) (fun c o e=>?_) ⟨xs',o',es',ep',t',q',?_,fun e=>?_⟩ fun s2 m2 K2 U2=>?_⟩
   ·exact (sb.2 c fun z:c=S=>hSf (z▸hc)).trans e
   ·exact (sb.2 c fun z:c=S=>by rw [z,hS0] at e;cases e).trans (K' c o e)
   ·rw [(pm.map (·.1)).nodup_iff,ahd]
    exact ahr.mpr ⟨hm,nd⟩
   ·rw [(pm.map (·.1)).mem_iff,ahd,agC,tke,ag5,mm e,agO,Or.comm]
   ·exact hR s2 (Moved.trans W.gtrans ((m.mono up).then_heap (aip _ _) fun c o hc e=>(sb.2 c fun z:c=S=>hc (z▸agD)).trans e) m2) K2 U2
end
end L2
end
section
namespace L2
open PySem PySem.Spec PyProof.Rows PySem.SetTable PySem.W
section
variable {prog:Program} {w:World} {A:Around} {E:Value->Shared->Prop} {s:Shared}
theorem aaI:isSubtype (.type "list") (.type "set")=pure false:=by rw [isSubtype_type];kernel_rfl
theorem aaJ:isSubtype (.type "list") (.type "frozenset")=pure false:=by rw [isSubtype_type];kernel_rfl
theorem qs:∀ {vs:List Value} {ns:List Int},IntsAre vs ns->∀ (i:Nat) (v:Value),vs[i]?=some v->∃ d t,ns[i]?=some d/\v=.int d t
 | _,_,.cons n t h,0,v,e=>by cases e;exact⟨n,t,rfl,rfl⟩
 | _,_,.cons n t h,i+1,v,e=>qs h i v e
theorem jH:∀ {vs:List Value} {ns:List Int},IntsAre vs ns->vs.length=ns.length
 | _,_,.nil=>rfl
 | _,_,.cons _ _ h=>by rw [agM,agM,jH h]
theorem ac7 {t:Addr} {items:Array Value} {ds:List Int} {led:Bool} {Q:Value->Shared->Prop} (hh:A.handled=none) (ht:s.heap.IsList t items) (hv:IntsAre items.toList ds) (few:∀ us:List Int,us.Nodup->(∀ x∈us,x∈ds)->us.length<300) (hl:byT w=true \/ led=true)
  (h:∀ h' tk,Keeps s.heap h'->yx w h' s.heap.objs.size ds->Q .none { s with heap:=h',toks:=tk }) :
  wpAny (model prog w) A.in1 (Builtin.«set.__init__» ⟨[.ref s.heap.objs.size,.ref t],[]⟩) (fun fin s'=>∃ r,fin=.done (.ret r)/\Q r s') E { s with heap:=s.heap.push (jY led) }:=by
 have pS:(s.heap.push (jY led)).get? s.heap.objs.size=some (jY led):=agI _ rfl
 have hT:Shared.TypeIs { s with heap:=s.heap.push (jY led) } (.ref s.heap.objs.size) "set":=⟨_,pS,rfl⟩
 have t1:(s.heap.push (jY led)).IsList t items:=ht.at fun o e=>agt _ e
 have hn:items.size=ds.length:=by rw [<-agF];exact jH hv
 obtain⟨oc,go,kc,nl,kd⟩:=t1
 obtain⟨c1,c2,c3,c4⟩:=oc
 simp only at kc kd
 subst kc
 subst kd
 have q1:=aaI
 have q2:=aaJ
 have q3:(Value.type "list" == Value.type "dict")=false:=by decide
 unfold Builtin.«set.__init__» noKeywords Builtin.Frozenset.updateFrom
 generalize hP:pyIter=PI
 wp_walk
 subst hP
 refine wpAny_pyIter_list ⟨_,go,rfl,nl,rfl⟩ (wpAny_bind (wpAny_runValue ?_))
 have sz:(s.heap.push (jY led)).objs.size=s.heap.objs.size+1:=aia ..
 obtain⟨ot,gt,_⟩:=ht
 have lt:=agB gt
 have none_:∀ b,s.heap.objs.size<=b->s.heap.get? b=none:=fun b hb=>by
  cases e:s.heap.get? b with
  | none=>rfl
  | some o=>exact absurd (agB e) (ajo.mpr hb)
 have pS2:∀ o,((s.heap.push (jY led)).push o).get? s.heap.objs.size=some (jY led):=fun o=>agt _ pS
 refine ab7 (w:=w) (h0:=s.heap) (ds:=ds) ((Walks.list (by simp [hh]) _ t (by rw [sz];exact agP (ahe lt)) items).toS) (S:=s.heap.objs.size) ?_ ?_ (none_ _ (agv _)) hn (fun i v e=>qs hv i v (by rw [aij];exact e)) few items.size 0 _ (by omega) ⟨⟨_,agI _ rfl,rfl,rfl⟩,?_⟩ ?_ ?_ fun s' m K U=>?_
 ·rw [sz]
  simp only [agC,List.not_mem_nil,or_false,not_or]
  exact⟨agP (ain _),ah8 lt⟩
 ·intro b hb
  rw [agO.mp hb,sz]
  exact none_ _ (Nat.le_succ _)
 ·exact⟨_,agt _ go,rfl,nl,rfl⟩
 ·exact fun b o e=>agt _ (agt _ e)
 ·exact⟨[],_,_,_,_,⟨pS2 _,⟨rfl,rfl,rfl⟩,rfl,rfl,ab1 led,rfl,hl⟩,aiG,fun d=>by rw [List.take_zero];exact Iff.rfl⟩
 ·obtain⟨h',g',d',tk',os'⟩:=s'
  have e1:g'=s.gens:=m.gens
  have e2:d'=s.drawn:=m.drawn
  have e3:os'=s.os:=m.os
  subst e1
  subst e2
  subst e3
  exact wpAny_pure (wpAny_pure ⟨_,rfl,h h' tk' K U⟩)
theorem ac8 (a:Value) {Q₁:Value->Shared->Prop} (h:Q₁ (.ref s.heap.objs.size) { s with heap:=s.heap.push (jY (!byT w)) }) :
  codeAny (model prog w) A (.call (.builtin "set.__new__") ⟨[.type "set",a],[]⟩) (wants Q₁ E) s:=by
 apply codeAny_of_tree
 show wpAny _ A.in1 (checkBuiltinCall "set.__new__" ⟨[.type "set",a],[]⟩ >>= fun _=>again (.builtin "set.__new__" ⟨[.type "set",a],[]⟩)) _ _ s
 apply wpAny_bind
 refine wpAny_of_eq (F.newCall_set_1 a) (wpAny_pure ⟨plainId_quiet F.plain_set_new _,codeAny_builtin F.entry_set_new ?_⟩)
 rw [aje F.plain_set_new _]
 have q:=sub_set_self
 unfold Builtin.«set.__new__» Builtin.Frozenset.newClass
 obtain⟨h1,h2,h3,h4,h5⟩:=s
 dsimp only
 wp_walk
 refine wpAny_askSetting (wpAny_pure ?_)
 dsimp only
 unfold newObj
 exact wpAny_bind (wpAny_alloc (wpAny_pure (wpAny_pure h)))
theorem ab8 {t:Addr} {items:Array Value} {ds:List Int} {Q:Value->Shared->Prop} (hh:A.handled=none) (ht:s.heap.IsList t items) (hv:IntsAre items.toList ds) (few:∀ us:List Int,us.Nodup->(∀ x∈us,x∈ds)->us.length<300)
  (h:∀ h' tk,Keeps s.heap h'->yx w h' s.heap.objs.size ds->Q (.ref s.heap.objs.size) { s with heap:=h',toks:=tk }) :
  wpAny (model prog w) A (call (.type "set") [.ref t]) Q E s:=by
 obtain⟨c,tl,m1⟩:=ahS.mro
 have m2:=ahS.made
 have m3:=ahS.sub
 have m4:=ahS.notType
 have m5:=ahS.canCreate
 have m6:=F.typeCall_set_1 (.ref t)
 refine wpAny_call (codeAny_of_tree (wpAny_pure ⟨Code.quiet_builtin _ (by decide +kernel),codeAny_builtin F.entry_type_call ?_⟩))
 rw [Around.under_plain (weight_type_call_type "set" [.ref t] []) rfl]
 repeat (any_goals (first | assumption | wp_step))
 refine codeAny_mono (ac8 (w:=w) (.ref t) (E:=E) (Q₁:=fun v s1=>v=.ref s.heap.objs.size/\s1={ s with heap:=s.heap.push (jY (!byT w)) }) ⟨rfl,rfl⟩) fun r s1 hr=>?_
 have hl:byT w=true \/ (!byT w)=true:=by cases byT w <;> simp
 generalize (!byT w)=led at *
 match r,hr with
 | .error e,hr=>exact hr
 | .ok (.ret v),⟨e1,e2⟩ =>
  subst e1
  subst e2
  have pS:(s.heap.push (jY led)).get? s.heap.objs.size=some (jY led):=agI _ rfl
  have hT:Shared.TypeIs { s with heap:=s.heap.push (jY led) } (.ref s.heap.objs.size) "set":=⟨_,pS,rfl⟩
  have m7:=ahS.init.lookup
  have m8:=ahS.init.bind (.ref s.heap.objs.size)
  repeat (any_goals (first | assumption | wp_step))
  have hi:=fun (R:Value->Shared->Prop) (hR:∀ h' tk,Keeps s.heap h'->yx w h' s.heap.objs.size ds->R .none { s with heap:=h',toks:=tk })=>ac7 (prog:=prog) (w:=w) (A:=A.in1) (E:=E) (led:=led) (Q:=R) (by simp [hh]) ht hv few hl hR
  refine codeAny_mono (codeAny_call_builtin (R:=wants (fun r s2=>r=.none/\∃ h' tk,s2={ s with heap:=h',toks:=tk }/\Keeps s.heap h'/\yx w h' s.heap.objs.size ds) E) ahS.init.plain F.entry_set_init (check_set_init_1 hT ?_)) fun r2 s2 hr2=>?_
  ·refine wpAny_mono (hi (fun r s2=>r=.none/\∃ h' tk,s2={ s with heap:=h',toks:=tk }/\Keeps s.heap h'/\yx w h' s.heap.objs.size ds) fun h' tk k u=>⟨rfl,h',tk,rfl,k,u⟩) (fun fin s' z=>?_) fun e s' z=>z
   obtain⟨r,rfl,z⟩:=z
   exact z
  ·match r2,hr2 with
   | .error e,z=>exact z
   | .ok (.ret v),⟨e1,h',tk,e2,k,u⟩ =>
    subst e1
    subst e2
    repeat (any_goals (first | assumption | wp_step))
    exact h _ _ k u
theorem ac9 {vs:List Value} {ns:List Int} (hi:IntsAre vs ns) (nd:ns.Nodup) (few:ns.length<64):Asks prog w A s oneType' vs fun i j=>decide (ns.getD i 0<ns.getD j 0):=by
 have len:=jH hi
 have at_:∀ i,i<vs.length->∃ t,vs.getD i Value.none=.int (ns.getD i 0) t:=fun i h=>by
  obtain⟨d,t,h1,h2⟩:=qs hi i _ (agq h)
  refine⟨t,?_⟩
  rw [agp,agq h,agp,h1]
  exact h2
 have inj:∀ i j,i<vs.length->j<vs.length->i≠j->ns.getD i 0≠ns.getD j 0:=fun i j h1 h2 ne e=>by
  rw [agp,agp,agq (by omega),agq (by omega)] at e
  exact ne ((aik nd).mp e)
 refine⟨fun h2 h' k R q=>?_,fun h' k i j C h1 h2 q=>?_,⟨fun i j h1 h2 ne=>?_,fun i j k _ _ _ h1 h2=>?_⟩,.inl (by omega)⟩
 ·refine wpAny_of_eq (ksk_kind (kz:=ns) (by simpa using hi) (by simpa using h2)) q
 ·obtain⟨t1,e1⟩:=at_ i h1
  obtain⟨t2,e2⟩:=at_ j h2
  show wpAny _ _ (keyLt' oneType' (vs.getD i Value.none) (vs.getD j Value.none)) _ _ _
  rw [e1,e2]
  exact oneLt_int q
 ·have:=inj i j h1 h2 ne
  rw [<-decide_not]
  exact decide_eq_decide.mpr (by omega)
 ·have:=of_decide_eq_true h1
  have:=of_decide_eq_true h2
  exact decide_eq_true (by omega)
theorem ints_map:∀ (l:List (Int×Tok)),IntsAre (l.map fun x=>Value.int x.1 x.2) (l.map (·.1))
 | []=>.nil
 | x :: l=>.cons x.1 x.2 (ints_map l)
theorem aaK {vs us:List Value} {ns:List Int} (p:vs.Perm us) (h:IntsAre us ns):∃ ms,IntsAre vs ms/\ms.Perm ns:=by
 induction p generalizing ns with
 | nil=>cases h;exact⟨[],.nil,.refl _⟩
 | cons x _ ih =>
  cases h with
  | cons n t h' =>
   obtain⟨ms,h1,h2⟩:=ih h'
   exact⟨n :: ms,.cons n t h1,h2.cons n⟩
 | swap x y l =>
  cases h with
  | cons n t h' =>
   cases h' with
   | cons m u h''=>exact⟨m :: n :: _,.cons m u (.cons n t h''),.swap _ _ _⟩
 | trans _ _ ih1 ih2 =>
  obtain⟨ms,h1,h2⟩:=ih2 h
  obtain⟨ls,h3,h4⟩:=ih1 h1
  exact⟨ls,h3,h4.trans h2⟩
theorem qM {a:Addr} {xs:List (Int×Tok)} {o:Obj} {es:Array (Int×Value)} {ep:Nat} {t:SetTable} {Q:Value->Shared->Prop} (hh:A.handled=none) (S:ISet w s.heap a xs o es ep t) (nd:(xs.map (·.1)).Nodup) (few:xs.length<64)
  (q:∀ (h':Heap) tk D c us ns,IntsAre us ns->ns.Perm (xs.map (·.1))->ns.Pairwise (·<·)->(∃ h1:Heap,(∀ b u,s.heap.get? b=some u->h1.get? b=some u)/\h1.objs.size<=D)->(∀ b u,s.heap.get? b=some u->h'.get? b=some u)->h'.get? D=some (seqObj "list" us.toArray c)->Q (.ref D) { s with heap:=h',toks:=tk }) :
  wpAny (model prog w) A (call (.builtin "sorted") [.ref a]) Q E s:=by
 have sz:=S.size
 have hn:es.size<=sizeLine:=by rw [sizeLine_eq];omega
 refine Calls.call_function_entry kind_sorted plain_sorted entry_sorted (args_sorted1 _) ?_
 unfold Builtin.«sorted»
 apply wpAny_bind (m:=checkCount "sorted" 1 1 _);apply wpAny_pure
 apply wpAny_bind
 refine PySem.W.kdu_collect (A:=A.in1) (ad4 (P:=prog) S.ex S.da S.el S.ok S.pl S.ld) hh S.ob hn fun h1 tk acc k1 hacc=>?_
 have ea:acc.toList=(yl w a ep es).toList.map (·.2):=by
  refine aiN fun i=>?_
  rw [agy,aij,aij]
  by_cases hi:i<acc.size
  ·obtain⟨e,he,hv⟩:=hacc.2 i _ (ahj hi)
   rw [ahj hi,he,hv]
   rfl
  ·rw [aie (by omega),aie (by rw [j3,<- hacc.1];omega)]
   rfl
 have pw:((yl w a ep es).toList.map (·.2)).Perm (xs.map fun x=>Value.int x.1 x.2):=by
  have:=(vf (w:=w) (a:=a) (ep:=ep) (es:=es)).map (·.2)
  rw [S.el,ahC] at this
  exact this
 obtain⟨ms,im,pms⟩:=aaK pw (ints_map xs)
 rw [ea]
 generalize (yl w a ep es).toList.map (·.2)=vs at *
 have lv:=jH im
 have lm:=pms.length_eq
 rw [agr] at lm
 have hz:vs.length<=sizeLine:=by rw [sizeLine_eq];omega
 let h2':=h1.push (seqObj "list" vs.toArray 0)
 have at2:h2'.get? h1.objs.size=some (seqObj "list" vs.toArray 0):=agI _ rfl
 have keep:∀ b u,s.heap.get? b=some u->b≠h1.objs.size/\h2'.get? b=some u:=fun b u eb=>⟨agP (agB (k1 b u eb)),agt _ (k1 b u eb)⟩
 apply wpAny_bind
 refine wpAny_newList ?_ hz
 change wpAny _ _ _ _ _ { s with heap:=h2',toks:=tk }
 apply wpAny_bind
 apply wpAny_holding
 refine wpAny_call_entry slot_list_sort ⟨_,at2,rfl⟩ entry_list_sort ?_ (args_list_sort _)
 have ndm:ms.Nodup:=pms.nodup_iff.mpr nd
 refine adS (s:={ s with heap:=h2',toks:=tk }) hz at2 (h0:=s.heap) keep (ac9 im ndm (by omega)) fun h' p c x1 x2 x3 x4=>⟨_,rfl,wpAny_pure ⟨_,rfl,?_⟩⟩
 have pick_int:∀ l:List Nat,(∀ i∈l,i<vs.length)->IntsAre (l.map fun i=>vs.getD i Value.none) (l.map fun i=>ms.getD i 0):=fun l=>by
  induction l with
  | nil=>exact fun _=>.nil
  | cons i l ih =>
   intro hl
   have hi:=hl i agD
   obtain⟨d,tt,e1,e2⟩:=qs im i _ (agq hi)
   rw [ahd,ahd,agp,agq hi,agp,e1]
   show IntsAre (vs[i] :: _) (d :: _)
   rw [e2]
   exact .cons d tt (ih fun j hj=>hl j (agw _ hj))
 have mem:∀ i∈p.toList,i<vs.length:=fun i hi=>agS.mp (x1.mem_iff.mp hi)
 have pp:(p.toList.map fun i=>ms.getD i 0).Perm ms:=abW (d:=0) (xs:=ms) x1 lv
 refine q h' tk _ c _ (p.toList.map fun i=>ms.getD i 0) (pick_int _ mem) (pp.trans pms) ?_ ⟨h1,k1,agv _⟩ (fun b u eb=>x3 b u (keep b u eb).1 (keep b u eb).2) x4
 rw [ahU]
 refine aiI.mpr fun i j hi hj hij=>?_
 have hs:=x1.size
 rw [agF] at hi hj
 have:=x2 i j hij (by omega)
 have g:∀ k (hk:k<p.toList.length),p.getD k 0=p.toList[k]:=fun k hk=>by
  rw [yA,agp,agq hk]
  rfl
 rw [g i (by simpa using hi),g j (by simpa using hj)] at this
 exact of_decide_eq_true this
end
noncomputable def ISetO (w:World) (a:Addr) (ns:List Int):HO:=.ext fun h=>yx w h a ns
theorem ISetO.ok {P:Program} {w:World} {H:Hp} {h:Heap} {a:Addr} {ns:List Int} (u:yx w h a ns):ObjOk P w H h a (ISetO w a ns):=by
 refine⟨u,?_,?_⟩
 ·obtain⟨xs,o,es,ep,t,S,_⟩:=u
  exact⟨o,S.ob⟩
 ·rintro h1 h2 ⟨xs,o,es,ep,t,S,r⟩ k
  exact⟨xs,o,es,ep,t,⟨k o S.ob,S.ex,S.da,S.el,S.ok,S.pl,S.ld⟩,r⟩
theorem qN:∀ {us:List Value} {ns:List Int},Vals (ns.map V.int) us->IntsAre us ns
 | _,[],.nil=>.nil
 | _,n :: ns,.cons r t=>by
  obtain⟨tk,rfl⟩:=r
  exact .cons n tk (qN t)
noncomputable def ada (w:World) (K:ags):List V->Hp->VK->Prop:=fun xs H Q=>∃ p ns,xs=[.ref p]/\SqL K H p (ns.map V.int)/\(∀ us:List Int,us.Nodup->(∀ x∈us,x∈ns)->us.length<300)/\∀ a,H a=none->Q (.ref a) (upd H a (ISetO w a ns))
theorem ab9 {X:Cx} (hc:X.calm=true):yj X (.type "set") (ada X.w X.K):=by
 intro pins s σ H xs us Q I r h
 obtain⟨p,ns,rfl,hT,hl,q⟩:=h
 obtain⟨u,rfl,rx⟩:=vals1 r
 cases rx
 obtain⟨its,rv,pl,hz⟩:=I.list hT
 refine ab8 (ds:=ns) (I.ok.hd hc) pl.isList (qN rv) hl fun h' tk k u=>?_
 exact⟨.ref s.heap.objs.size,_,I.laid (t':=tk) k (agv _) (ISetO.ok u),rfl,q _ (I.hok.fresh (agv _))⟩
theorem aaL {X:Cx} {K:ags} {w:World} (hc:X.calm=true) (hw:X.w=w) (hK:X.K=K):yj X (.type "set") (ada w K):=hw▸hK▸ab9 hc
noncomputable def aaM (w:World):List V->Hp->VK->Prop:=fun xs H Q=>∃ a ns,xs=[.ref a]/\H a=some (ISetO w a ns)/\(∀ us:List Int,us.Nodup->(∀ x∈us,x∈ns)->us.length<64)/\∀ l (ms:List Int),H l=none->ms.Pairwise (·<·)->(∀ d,d∈ms↔d∈ns)->Q (.ref l) (upd H l (.lst (ms.map V.int)))
theorem aaN {X:Cx} (hc:X.calm=true):yj X (.builtin "sorted") (aaM X.w):=by
 intro pins s σ H xs us Q I r h
 obtain⟨a,ns,rfl,hS,few,q⟩:=h
 obtain⟨u,rfl,rx⟩:=vals1 r
 cases rx
 obtain⟨⟨zs,o,es,ep,t,S,nd,mm⟩,_⟩:=I.hok a _ hS
 have lz:zs.length<64:=by
  have:=few _ nd fun x hx=>(mm x).mp hx
  rwa [agr] at this
 refine qM (I.ok.hd hc) S nd lz fun h' tk D c us ms im pm pw x3 x4 x5=>?_
 obtain⟨h1,k1,l1⟩:=x3
 have hD:H D=none:=(I.hok.kept k1).fresh l1
 have x3:∀ b u,s.heap.get? b=some u->b≠D:=fun b u e=>agP (agG (agB (k1 b u e)) l1)
 have lm:=pm.length_eq
 rw [agr] at lm
 obtain⟨m,hm,_⟩:=I.loc
 refine⟨.ref D,upd H D (.lst (ms.map V.int)),I.laidL (t':=tk) (fun b u _ e=>x4 b u e) ?_ (fun m hm=>hm.keeps x4) x3 hD ⟨by rw [agr];exact ahB (zW (by omega)),_,c,jU im,x5⟩,rfl,q D ms hD pw fun d=>?_⟩
 ·obtain⟨o2,g2⟩:∃ o2,s.heap.get? X.env.locals=some o2:=let⟨u,_,_,hu,_⟩:=hm;⟨u,hu⟩
  exact⟨o2,x4 _ _ g2⟩
 ·rw [pm.mem_iff]
  exact mm d
theorem aae {X:Cx} {w:World} (hc:X.calm=true) (hw:X.w=w):yj X (.builtin "sorted") (aaM w):=hw▸aaN hc
theorem vg {K:ags} {H:Hp}:∀ ns:List Int,Reps K H (ns.map .int) (ns.map V.int)
 | []=>.nil'
 | n :: ns=>.cons' (rep_int.mpr rfl) (vg ns)
theorem vh {K:ags} {H:Hp}:∀ {ns:List Int} {vs:List V},Reps K H (ns.map .int) vs->vs=ns.map V.int
 | [],vs,r=>reps_nil.mp r
 | n :: ns,vs,r=>by
  obtain⟨x,xs,rfl,r1,r2⟩:=reps_cons.mp r
  rw [rep_int.mp r1,vh r2,ahd]
theorem aaO {w:World} {K:ags} {f:Fx} {ρ:zi} {te:TE} {P:PyData->Prop} (h:PEd K f te ρ fun d=>∃ ns:List Int,d=.list (ns.map .int)/\(∀ us:List Int,us.Nodup->(∀ x∈us,x∈ns)->us.length<64)/\∀ ms:List Int,ms.Pairwise (·<·)->(∀ d,d∈ms↔d∈ns)->P (.list (ms.map .int))) :
  PEd K f (tCB (aaM w) (zY (tCB (ada w K) (zY te ju)) ju)) ρ P:=fun σ H Q e q =>
 h σ H _ e fun d v H1 g1 r1 ⟨ns,ed,few,p⟩=>by
  subst ed
  obtain⟨a,ys,rfl,hT,rs⟩:=rep_list.mp (Rep.mono (zq H1 f) _ _ r1)
  rw [vh rs] at hT
  refine⟨a,ns,rfl,hT,fun us nd hs=>Nat.lt_trans (few us nd hs) (by decide),fun b hn=>?_⟩
  have g2:Goes f H1 (upd H1 b (ISetO w b ns)):=.of_same (zJ hn _) g1.2
  refine⟨b,ns,rfl,zo,few,fun l ms hl pw mm=>?_⟩
  have g3:Goes f (upd H1 b (ISetO w b ns)) (upd (upd H1 b (ISetO w b ns)) l (.lst (ms.map V.int))):=.of_same (zJ hl _) g2.2
  exact q _ _ _ (g1.trans (g2.trans g3)) (rep_list.mpr ⟨l,_,rfl,.of (zk (fresh_ne g2.2 hl) zo),vg ms⟩) (p ms pw mm)
end L2
end
section
namespace L2
open PySem PySem.Spec PyProof.Rows
end L2
end
section
namespace L2
open PySem PySem.Spec PyProof.Rows
structure TV (K:ags) (f:Fx) (H0:Hp) (a:Addr) (as:List Addr) (ρ:zi) (rows:List (List Int)) (σ:St) (H:Hp):Prop where
 env:EnvOk K (f.withs (a :: as)) ρ σ H
 go:Goes f H0 H
 na:H0 a=none
 nas:∀ x∈as,H0 x=none
 tab:TabAt H a as rows
end L2
end
section
namespace L2
open PySem PySem.Spec PyProof.Rows
theorem vC {a b:Int} {s t:Tok} {c:Value}:∀ (l:List Value),TriplesOk l->TriplesOk (l++[.int a s,.int b t,c]):=by
 intro l
 fun_induction TriplesOk l with
 | case1=>intro _;trivial
 | case2 _ _ _ _ _ r ih=>intro h;exact ih h
 | case3=>intro h;exact h.elim
theorem aaP {pos:Pos} {a b:Int} {s t:Tok} {c cv:Value}:∀ (l:List Value),TriplesOk l->codeAmong pos (l++[.int a s,.int b t,c])=some cv->codeAmong pos l=some cv \/ cv=c:=by
 intro l
 fun_induction TriplesOk l with
 | case1 =>
  intro _ h
  have h':(if a == pos.line && b == pos.col then some c else codeAmong pos [])=some cv:=h
  split at h'
  ·cases h';exact .inr rfl
  ·cases h'
 | case2 i ti j tj v r ih =>
  intro h0 h
  have h':(if i == pos.line && j == pos.col then some v else codeAmong pos (r++[.int a s,.int b t,c]))=some cv:=h
  show (if i == pos.line && j == pos.col then some v else codeAmong pos r)=some cv \/ _
  split at h'
  ·rename_i q
   rw [if_pos q]
   exact .inl h'
  ·rename_i q
   rw [if_neg q]
   exact ih h0 h'
 | case3=>intro h;exact h.elim
section
variable {X:Cx} {pins:List (Addr×Obj)} {σ:St} {H:Hp} {s:Shared}
theorem Inv.tabAt (I:Inv X pins σ H s) {c P:Addr} {q:Str} (hq:q∈lamDefs) (h1:ag1 X.K c P=true) (h2:agY X.K (.ref c) q=true):H P=some (.tbl (lamQ q)) :=
 I.env0.tabs c P q hq h1 h2
theorem Inv.bltAt (I:Inv X pins σ H s) {P:Addr} {ps:Array Value} (hP:s.heap.get? P=some (ahI ps)):s.heap.BuiltinsAt X.mg P:=by
 obtain⟨b,o,h1,h2,h3,h4,h5,h6⟩:=I.ok.mod.bm
 have h3':=I.bk _ _ h3
 refine⟨b,o,h1,h2,fun e=>?_,fun e=>?_,h3',h4,h5,h6⟩
 ·obtain⟨u,es,ep,e1,d,_⟩:=I.ok.mod.glob.keeps I.bk
  rw [e,e1] at h3';cases h3';rw [h6] at d;cases d
 ·rw [e,hP] at h3';cases h3';cases h6
theorem adb {params:Arguments} {body:Expr} {sc:Scope} {pos:Pos} {c P:Addr} {q:Str} {clos:List (Str×Addr)} {Q:Value->Shared->Prop} {E:Value->Shared->Prop} (I:Inv X pins σ H s)
  (hq:q∈lamDefs) (hc:X.env.code=.ref c) (h1:ag1 X.K c P=true) (h2:agY X.K (.ref c) q=true) (hqu:X.env.qual ++ "<lambda>"=lamQ q)
  (hcl:closureFor sc X.env=pure clos) (hdef:defaultsOf params X.env=([],[]))
  (h:∀ f c' pm ctv s' H',Inv X pins σ H' s'->Same H H'->s'.heap.get? f=some (ai3 "<lambda>" (lamQ q) params body sc clos pm c' ctv)->s'.heap.CodeRec (.ref c') (lamQ q)->Q (.ref f) s') :
  wpAny (model X.prog X.w) X.A (eval (.Lambda params body sc pos) X.env) Q E s:=by
 have hH:=I.tabAt hq h1 h2
 obtain⟨ps,hP,tr,am⟩:=I.hok P _ hH
 have gl:=I.ok.mod.glob.keeps I.bk
 have C:=ajj I.kIn h1
 refine PySem.W.kla_eval hdef ?_
 rw [hqu]
 cases hf:codeAmong pos ps.toList with
 | some cv =>
  obtain⟨c',rfl,hc',rc⟩:=am pos cv hf
  refine PySem.W.kla_makeFunctionHit hcl I.ok.glob gl hc C hP tr hf (I.bltAt hP) fun ctv h' tk k sz=>?_
  refine h _ c' _ ctv _ H (I.kept (t':=tk) fun b u e=>agt _ (k b u e)) (Same.refl _) (agI _ rfl) ?_
  obtain⟨c2,oc,vs,tq,e1,e2,e3⟩:=rc
  exact⟨c2,oc,vs,tq,e1,agt _ (k _ _ e2),e3⟩
 | none =>
  have hgP:mainGlobals≠P:=fun e=>by
   obtain⟨u,es,ep,e1,d,_⟩:=gl
   rw [e,hP] at e1;cases e1;cases d
  refine PySem.W.kla_makeFunction hcl I.ok.glob gl hc C hP tr hf hgP (I.bltAt hP) fun c' ctv h' tk hx hge hlt hrec htb=>?_
  have hn:H c'=none:=I.hok.fresh hge
  have nc:∀ b o,s.heap.get? b=some o->b≠c':=fun b o e=>agP (agG (agB e) hge)
  have hPc:P≠c':=nc _ _ hP
  have kp:∀ (ob:Obj) b o,b≠P->s.heap.get? b=some o->(h'.push ob).get? b=some o:=fun ob b o n e=>agt _ (hx b o n e)
  have tp:∀ ob:Obj,(h'.push ob).get? P=some (ahI (ps++#[rawInt pos.line,rawInt pos.col,.ref c'])):=fun ob=>agt _ htb
  have hrec':∀ ob:Obj,(h'.push ob).CodeRec (.ref c') (lamQ q):=fun ob=>by
   obtain⟨c2,oc,vs,tq,e1,e2,e3⟩:=hrec
   exact⟨c2,oc,vs,tq,e1,agt _ e2,e3⟩
  have sm:Same H (upd H c' (.own P)):=zJ hn _
  refine h _ c' _ ctv _ (upd H c' (.own P)) (I.un (t':=tk) ⟨fun b o e n _ _=>kp _ b o (fun z=>by rw [z,hH] at n;cases n) e,fun b o e n _ _=>⟨o.slots,kp _ b o (fun z=>by rw [z,hH] at n;cases n) e⟩,fun b o e n _=>by rw [zl (nc b o e)];exact n,fun b o e _=>?_,
   fun b xs e=>sm _ _ e,fun b o u e=>sm _ _ e,fun b z e=>sm _ _ e⟩ fun b o e=>?_) sm (agI _ rfl) (hrec' _)
  ·by_cases hb:b=P
   ·subst hb;exact⟨_,tp _⟩
   ·exact⟨o,kp _ b o hb e⟩
  ·by_cases hb:b=c'
   ·subst hb
    rw [zo] at e
    cases e
    obtain⟨c2,oc,vs,tq,e1,e2,e3⟩:=hrec' (ai3 "<lambda>" (lamQ q) params body sc clos ((X.mg "__name__").getD .none) b ctv)
    cases e1
    exact⟨_,e2⟩
   ·rw [zl hb] at e
    by_cases hbP:b=P
    ·subst hbP
     rw [hH] at e
     cases e
     refine⟨_,tp _,?_,fun pos' cv z=>?_⟩
     ·rw [ajk]
      exact vC _ tr
     ·rw [ajk] at z
      rcases aaP _ tr z with z | z
      ·obtain⟨c3,e1,e2,c4,oc,vs,tq,e3,e4,e5⟩:=am pos' cv z
       cases e3
       exact⟨c3,e1,sm _ _ e2,c3,oc,vs,tq,rfl,kp _ _ _ (fun w=>by rw [w,hH] at e2;cases e2) e4,e5⟩
      ·exact⟨c',z,zo,hrec' _⟩
    ·refine (I.hok b o e).stay (fun d u hd r=>kp _ d u ?_ r) (fun d r=>sm _ _ r) fun d xs r=>sm _ _ r
     rcases hd with hd | hd
     ·rw [hd];exact hbP
     ·intro w;rw [w,hH] at hd;cases hd
end
noncomputable def Reads (P:Program) (w:World) (env:Env) (h:Heap) (e:Expr) (R:Value->Prop):Prop :=
 ∀ (A:Around) (s:Shared) (Q:Value->Shared->Prop) (E:Value->Shared->Prop),s.heap=h->(∀ v tk,R v->Q v { s with toks:=tk })->wpAny (model P w) A (eval e env) Q E s
section
variable {P:Program} {w:World} {env:Env} {h:Heap} {pos:Pos}
theorem ade {x:Str} {u:Value} {m:Str->Option Value} (hk:env.scope.kind=.function) (hx:env.kindOf x=some .local) (hn:h.Ns env.locals m) (hm:m x=some u) (hd:(x == ("__debug__":Str))=false:=by decide) :
  Reads P w env h (.Name x pos) (·=u):=fun A s Q E e q=>wpAny_Name (wpAny_loadName_local hk hx (by rw [e];exact hn) hm (q u s.toks rfl)) hd
theorem ad7 {x:Str} {u:Value} {c:Addr} (hk:env.scope.kind=.function) (hx:env.kindOf x=some .free) (hc:env.cells.lookup x=some c) (hu:h.IsCell c (some u)) (hd:(x == ("__debug__":Str))=false:=by decide) (hcd:(x == ("__classdict__":Str))=false:=by decide) :
  Reads P w env h (.Name x pos) (·=u):=fun A s Q E e q=>wpAny_Name (wpAny_loadName_free hk hx hc (by rw [e];exact hu) (q u s.toks rfl) hcd) hd
theorem afu {a b:Expr} {l:Addr} {items:Array Value} {k:Int} {x:Value} (ha:Reads P w env h a (·=.ref l)) (hb:Reads P w env h b (fun v=>∃ t,v=.int k t)) (hl:h.IsList l items) (h0:0<=k) (hf:k<2 ^ 63) (hx:items[k.toNat]?=some x) (hs:aa8 b) :
  Reads P w env h (.Subscript a b pos) (·=x):=fun A s Q E e q=>by
 refine Subscript_ (ha A s _ E e fun v tk ev=>?_)
 subst ev
 refine hb A _ _ E e fun v tk ⟨t,ev⟩=>?_
 subst ev
 refine item_listR (items:=items) (by rw [<-e] at hl;exact hl) h0 hf hx ?_ (hs _ _)
 exact q x tk rfl
end
section
variable {P:Program} {w:World} {A:Around} {s:Shared} {f c:Addr} {name qual x:Str} {params:Arguments} {body:Expr} {sc:Scope} {clos:List (Str×Addr)} {pm ctv v:Value} {R:Value->Prop} {Q:Value->Shared->Prop} {E:Value->Shared->Prop}
theorem ad8 (ho:s.heap.get? f=some (ai3 name qual params body sc clos pm c ctv)) (hcd:s.heap.CodeRec (.ref c) qual) (hroom:A.depth<recursionLimit) (lim:s.heap.NoLimit)
  (hb:bindArgs (PySem.W.kla_fn name qual params body sc clos pm (.ref c) ctv) ⟨[v],[]⟩=pure [(x,v)]) (hx:sc.names.lookup x=some .local) (hcell:∀ y∈sc.names,y.2≠.cell) (hco:sc.isCoroutine=false) (hgen:sc.isGenerator=false) (hk:sc.kind=.function)
  (hr:∀ h₁:Heap,h₁.Ns s.heap.objs.size (fun y=>[(x,v)].reverse.lookup y)->(∀ b o,s.heap.get? b=some o->h₁.get? b=some o)->Reads P w (PySem.W.envX qual sc s.heap.objs.size f (.ref c) clos) h₁ body R)
  (hq:∀ (u:Value) (h₁:Heap) tk,R u->(∀ b o,s.heap.get? b=some o->h₁.get? b=some o)->Q u { s with heap:=h₁,toks:=tk }) :
  wpAny (model P w) A (call (.ref f) [v]) Q E s:=by
 refine wpAny_call (PySem.W.kla_callFunE hroom ho rfl hco hgen rfl hcd ?_)
 rw [hb]
 refine wpAny_pure (wpAny_newFunctionEnv hcell (fun y hy=>?_) (fun h₁ hns hsb=>?_) hk)
 ·rw [agO.mp hy];exact hx
 have hk₁:∀ b o,s.heap.get? b=some o->h₁.get? b=some o:=fun b o e=>hsb.extBut b o (agP (agB e)) (agt _ e)
 refine⟨lim.keeps hk₁,PySem.W.kla_codeExpr ?_⟩
 exact hr h₁ hns hk₁ _ _ _ _ rfl fun u tk ru=>hq u h₁ tk ru hk₁
end
noncomputable def ixK (ks ns:List Int) (i:Nat):Int:=ks.getD (ns.getD i 0).toNat 0
noncomputable def yp (ks ns:List Int) (M:Int):Prop:=∃ i:Nat,ns[i]?=some M/\∀ j,j<ns.length->ixK ks ns i<=ixK ks ns j/\(j<i->ixK ks ns i<ixK ks ns j)
noncomputable def aeJ (K:ags) (jy:Nat) (t:TA):TE:=fun σ H Q=>t σ H fun vs H1=>∃ l ns a ks,vs=[.ref l]/\SqL K H1 l (ns.map V.int)/\ns≠[]/\σ[jy]?=some (some (.ref a))/\SqL K H1 a (ks.map V.int)/\(∀ n∈ns,0<=n/\n.toNat<ks.length)/\∀ H' M,Same H1 H'->yp ks ns M->Q (.int M) H'
section
variable {X:Cx} {p pos lpos kpos ypos xpos spos:Pos} {e:Expr} {t:TA} {x y q:Str} {params:Arguments} {sc:Scope} {c P:Addr} {jy k:Nat}
theorem aca {K:ags} (hK:X.K=K) (hr:Room (k+1) X.A) (hg:Gl X "min") (hm:X.mg "min"=none) (ha:PA X [e] t)
  (hq:q∈lamDefs) (hc:X.env.code=.ref c) (h1:ag1 K c P=true) (h2:agY K (.ref c) q=true) (hqu:X.env.qual ++ "<lambda>"=lamQ q)
  (hfr0:∀ p∈sc.names,p.2=.free->X.env.scope.names.lookup p.1=some .cell)
  (hdef:defaultsOf params X.env=([],[]))
  (hb:∀ (pm ctv v:Value) (cd:Addr) clos,bindArgs (PySem.W.kla_fn "<lambda>" (lamQ q) params (.Subscript (.Name y ypos) (.Name x xpos) spos) sc clos pm (.ref cd) ctv) ⟨[v],[]⟩=pure [(x,v)])
  (hx:sc.names.lookup x=some .local) (hy:sc.names.lookup y=some .free) (hcell:∀ z∈sc.names,z.2≠.cell) (hco:sc.isCoroutine=false) (hgen:sc.isGenerator=false) (hk:sc.kind=.function)
  (hN:X.N[jy]?=some y) (hyo:X.env.scope.names.lookup y=some .cell)
  (hv:bootBuiltins "min"=some (.builtin "min"):=by rfl)
  (hst:starEach [e] X.env=(false,eval e X.env) :: starEach [] X.env:=by rfl) (hpl:(backTo pos (starEach [] X.env)).any (·.1)=false:=by rfl)
  (hxd:(x == ("__debug__":Str))=false:=by decide) (hyd:(y == ("__debug__":Str))=false:=by decide) (hyc:(y == ("__classdict__":Str))=false:=by decide) :
  PE X (.Call (.Name "min" p) [e] [⟨some "key",.Lambda params (.Subscript (.Name y ypos) (.Name x xpos) spos) sc lpos,kpos⟩] pos) (aeJ K jy t):=by
 subst hK
 intro pins s σ H Q I h
 have hfr:∀ z,(z,NameKind.free)∈sc.names->∃ d,X.env.cells.lookup z=some d:=fun z hz=>I.ok.has z (.inl (hfr0 _ hz rfl))
 have hcl:=qA hfr
 refine wpAny_Call_Name_kw (jM I hg hm hv ?_)
 refine callWith_kw ?_ ?_ ?_
 rotate_left
 ·rw [hst];rfl
 ·rw [hst];exact hpl
 refine thn (ha pos pins s σ H _ I h) fun us s1 ⟨vs,H1,I1,r,q1⟩=>?_
 obtain⟨l,ns,a,ks,rfl,hl,hne,ha,hks,hin,q1⟩:=q1
 obtain⟨u,rfl,ru⟩:=vals1 r
 cases ru
 refine wpAny_evalAll_cons (wpAny_bind (adb I1 hq hc h1 h2 hqu hcl hdef fun f c' pm ctv s2 H2 I2 sm ho hcd=>?_))
 refine wpAny_bind (wpAny_standAt (wpAny_pure (wpAny_evalAll_nil ?_)))
 obtain⟨its,rv,pl,_⟩:=I2.list (sm.seq hl)
 obtain⟨its2,rv2,pl2,z2⟩:=I2.list (sm.seq hks)
 obtain⟨m,hn,hlo⟩:=id I2.loc
 obtain⟨ua,rua,lk⟩:=hlo jy y (.ref a) hN ha (.inr (.inl hyo))
 cases rua
 obtain⟨cy,ecy,icy⟩:∃ cy,X.env.cells.lookup y=some cy/\s2.heap.IsCell cy (some (.ref a)):=by
  rcases lk with⟨k1,_⟩ | ⟨_,cy,h3,h4⟩
  ·have k1':X.env.scope.names.lookup y=some .local:=k1
   rw [hyo] at k1';cases k1'
  ·exact⟨cy,h3,h4⟩
 have lenV:=rv.length
 rw [agr] at lenV
 have lenV2:=rv2.length
 rw [agr] at lenV2
 have hpos:0<its.length:=by
  rw [<-lenV]
  cases ns with
  | nil=>exact absurd rfl hne
  | cons _ _=>exact ahZ _
 have lne:∀ {b:Addr} {is:Array Value},s2.heap.IsList b is->b≠X.env.locals:=fun {b is} il e=>by
  obtain⟨o,h3,h4,n5,h5⟩:=il
  obtain⟨o',es,ep,h6,h7,_⟩:=hn
  rw [e,h6] at h3;cases h3
  rw [h7] at h5;cases h5
 have fne:f≠X.env.locals:=fun e=>by
  obtain⟨o',es,ep,h6,h7,_⟩:=hn
  rw [e,h6] at ho;cases ho;cases h7
 have cne:∀ {b:Addr} {o:Obj} {vs:Array Value},s2.heap.get? b=some o->o.data=.fields vs->b≠X.env.locals:=fun {b o vs} e1 e2 e=>by
  obtain⟨o',es,ep,h6,h7,_⟩:=hn
  rw [e,h6] at e1;cases e1;rw [h7] at e2;cases e2
 have itI:∀ {i:Nat} {v:Value},its[i]?=some v->∃ n t,ns[i]?=some n/\v=.int n t:=fun {i v} e=>by
  have hi:i<ns.length:=by rw [lenV];exact (agu.mp e).1
  obtain⟨u,e1,e2⟩:=rv.get (i:=i) (x:=.int ns[i]) (by rw [agy,agq hi];rfl)
  rw [e] at e1;cases e1
  obtain⟨t,rfl⟩:=e2
  exact⟨_,t,agq hi,rfl⟩
 have itK:∀ {n:Int},n∈ns->∃ t,its2[n.toNat]?=some (.int (ks.getD n.toNat 0) t):=fun {n} hn=>by
  have hi:=(hin n hn).2
  obtain⟨u,e1,e2⟩:=rv2.get (i:=n.toNat) (x:=.int ks[n.toNat]) (by rw [agy,agq hi];rfl)
  obtain⟨t,rfl⟩:=e2
  exact⟨t,by rw [e1,agp,agq hi];rfl⟩
 have back:∀ {h:Heap} {tk:Nat} {own:List (Addr×Obj)},Fr (Att.noObjs s2.heap) X.env.locals h m->News (Att.noObjs s2.heap) X.env.locals h (jh (Att.noObjs s2.heap) s2.heap X.env.locals++own) ->
   (∀ b o,b≠X.env.locals->s2.heap.get? b=some o->h.get? b=some o)/\Inv X pins σ H2 { s2 with heap:=h,toks:=tk }:=fun {h tk own} F' N'=>by
  have kp:∀ b o,b≠X.env.locals->s2.heap.get? b=some o->h.get? b=some o:=fun b o nb e=>(N' (b,o) (ahn _ (j6 nb (Att.noObjs_get _ _) e))).1
  refine⟨kp,I2.keptL (t':=tk) kp ?_ fun m' hm'=>?_⟩
  ·obtain⟨o',es,ep,h6,_⟩:=F'.ns
   exact⟨o',h6⟩
  ·have:m'=m:=by
    obtain⟨o,es,ep,ho,hd,_,hf⟩:=hn
    obtain⟨o',es',ep',ho',hd',_,hf'⟩:=hm'
    rw [ho] at ho'
    cases ho'
    rw [hd] at hd'
    cases hd'
    funext n
    rw [<-hf n,<- hf' n]
   rw [this]
   exact F'.ns
 show wpAny _ _ (call (.builtin "min") [.ref l] [(Str.ofString "key",.ref f)]) _ _ s2
 refine kmk_min (h₀:=Att.noObjs s2.heap) (L:=X.env.locals) (m:=m) (news:=jh (Att.noObjs s2.heap) s2.heap X.env.locals) (vs:=its) (ixK ks ns) hr.hd (Att.fr_all hn) acj (fun h F' N'=>?_) hpos (fun i v hv h tk own F' N'=>?_) fun i v h' tk' hv hbest F' N'=>?_
 ·obtain⟨o,h3,h4⟩:=pl.isList
  exact⟨o,(N' (l,o) (j6 (lne pl.isList) (Att.noObjs_get _ _) h3)).1,h4⟩
 ·obtain⟨kp,I3⟩:=back (tk:=tk) F' N'
  obtain⟨n,t,en,rfl⟩:=itI hv
  have hnm:=agJ en
  obtain⟨tw,ew⟩:=itK hnm
  have ek:ixK ks ns i=ks.getD n.toNat 0:=by unfold ixK;rw [agp (l:=ns),en];rfl
  refine ad8 (x:=x) (R:=(·=.int (ks.getD n.toNat 0) tw)) (kp _ _ fne ho) ?_ hr.in1.depth I3.nolimit (hb _ _ _ _ _) hx hcell hco hgen hk (fun h₁ hns k4=>?_) fun u h₁ tk1 eu k4=>?_
  ·obtain⟨c2,oc,vs,tq,e1,e2,e3,e4⟩:=hcd
   exact⟨c2,oc,vs,tq,e1,kp _ _ (cne e2 e3) e2,e3,e4⟩
  ·refine afu (l:=a) (items:=its2.toArray) (k:=n) (ad7 (c:=cy) hk hy (y9 hfr (mem_of_lookup hy) ecy) ?_ hyd hyc) (fun A s Q E e q'=>ade (env:=PySem.W.envX (lamQ q) sc h.objs.size f (.ref c') (zG X.env sc.names [])) (u:=.int n t) hk hx hns (by simp) hxd A s Q E e fun v tk ev=>q' v tk ⟨t,ev⟩) ?_ (hin n hnm).1 ?_ (by simpa using ew) (fun _ _=>rfl)
   ·obtain⟨o,e1,e2⟩:=icy
    exact⟨o,k4 _ _ (kp _ _ (I2.cne y cy ecy) e1),e2⟩
   ·obtain⟨o,h3,h4⟩:=pl2.isList
    exact⟨o,k4 _ _ (kp _ _ (lne pl2.isList) h3),h4⟩
   ·have h3:=(hin n hnm).2
    have h4:=(hin n hnm).1
    have h5:ks.length<=sizeLine:=by rw [agr] at z2;exact z2
    have:=jR
    omega
  ·subst eu
   rw [ek]
   exact⟨h₁,tk1,tw,rfl,rfl,⟨F'.ns.keeps k4,fun b o e=>k4 _ _ (F'.keep b o e),F'.above⟩,N'.grown k4⟩
 ·obtain⟨kp,I3⟩:=back (own:=[]) (tk:=tk') F' (by rw [ahq];exact N')
  obtain⟨n,t,en,rfl⟩:=itI hv
  exact⟨.int n,H2,I3,⟨t,rfl⟩,q1 H2 n sm ⟨i,en,fun j hj=>hbest j (by rw [<-lenV];exact hj)⟩⟩
end
theorem j4 {β:Type}:∀ {l:List (Nat×β)} {x:Nat} {y:β},l.lookup x=some y->(x,y)∈l
 | [],_,_,h=>by cases h
 | (a,b) :: r,x,y,h=>by
  rw [agW] at h
  cases e:x == a with
  | true=>rw [e] at h;cases h;rw [beq_iff_eq.mp e];exact agD
  | false=>rw [e] at h;exact agw _ (j4 h)
noncomputable def jI (K:ags) (ts:List (Addr×Str)):Bool :=
 ts.all (fun p=>(K.lookup p.1).isNone && K.any fun c=>ag1 K c.1 p.1) && K.all fun x=>match x.2.data with
  | .fields vs=>(match (vs[1]?:Option Value),(vs[11]?:Option Value) with
   | some (.str q _),some (.ref P)=>!lamDefs.contains q || decide (ts.lookup P=some (lamQ q))
   | _,_=>true)
  | _=>true
theorem afv {K:ags} {h:Heap} (X:K.In h) {ts:List (Addr×Str)} (hB:jI K ts=true) {c P:Addr} {q:Str} (hq:q∈lamDefs) (h1:ag1 K c P=true) (h2:agY K (.ref c) q=true):ts.lookup P=some (lamQ q):=by
 unfold jI at hB
 rw [ahL] at hB
 obtain⟨c2,oc,us,tq,z1,z2,z3,z4⟩:=PySem.W.codeRec_of X h2
 cases z1
 unfold ag1 at h1
 split at h1
 ·rename_i vs _ hk
  have hm:=ahY.mp hB.2 _ (j4 hk)
  dsimp only at hm
  have z5:=X _ _ hk
  rw [z2] at z5
  cases z5
  cases z3
  have e11:(us[11]?:Option Value)=some (.ref P):=by
   simp only [ahL] at h1
   obtain⟨⟨⟨⟨⟨e1,_⟩,_⟩,_⟩,_⟩,_⟩:=h1
   split at e1
   ·rename_i P' h11
    rw [h11,beq_iff_eq.mp e1]
   ·cases e1
  rw [z4,e11] at hm
  simp only [Bool.or_eq_true,Bool.not_eq_true'] at hm
  rcases hm with z | z
  ·have:=List.contains_iff_mem.mpr hq
   rw [this] at z;cases z
  ·exact of_decide_eq_true z
 ·cases h1
noncomputable def vi (ts:List (Addr×Str)) (tr:Bool) (a:Addr) (o:Obj) (xs:List V):Hp:=fun b=>match ts.lookup b with
 | some q=>some (.tbl q)
 | none=>if tr=true/\b=a then some (.frz o (.lst xs)) else none
theorem acb {ts:List (Addr×Str)} {tr:Bool} {a b:Addr} {o:Obj} {xs:List V} {q:Str} (h:ts.lookup b=some q):vi ts tr a o xs b=some (.tbl q):=by unfold vi;rw [h]
theorem adf {ts:List (Addr×Str)} {tr:Bool} {a b:Addr} {o:Obj} {xs:List V} {u:HO} (h:vi ts tr a o xs b=some u):(∃ q,ts.lookup b=some q/\u=.tbl q) \/ (tr=true/\b=a/\u=.frz o (.lst xs)):=by
 unfold vi at h
 cases e:ts.lookup b with
 | some q=>rw [e] at h;cases h;exact .inl ⟨q,rfl,rfl⟩
 | none =>
  rw [e] at h
  dsimp only at h
  split at h
  ·rename_i z;cases h;exact .inr ⟨z.1,z.2,rfl⟩
  ·cases h
theorem acd {P:Program} {w:World} {K:ags} {mg mb:Str->Option Value} {CX:CXT} {k:Nat} {fa a:Addr} {fd:FuncData} {x:Str} {sp:Sp} {s₁:Shared} {vs:List Value} {ns:List Int} {ts:List (Addr×Str)}
  (hB:jI K ts=true) (hts:∀ p∈ts,s₁.heap.get? p.1=some (ahI #[])) (hbm:∃ b o,mg "__builtins__"=some (.ref b)/\b≠builtinsNs/\s₁.heap.get? b=some o/\o.cls=.type "module"/\o.dict=some builtinsNs/\o.data=.plain)
  (KX:K.In s₁.heap) (hns:s₁.heap.Ns mainGlobals mg) (hb:s₁.heap.Ns builtinsNs mb) (hbb:∀ x:Str,x ≠ "__name__"->mb x=bootBuiltins x) (hlim:s₁.heap.NoLimit) (hg:s₁.gens=#[])
  (ha:s₁.heap.get? a=some { cls:=.type "list",data:=.seq vs.toArray }) (hi:IntsAre vs ns) (hl:ns.length<=sizeLine) (hr:Room k callerA)
  (F:∀ base:Heap,K.In base->base.Ns mainGlobals mg->FnOk P w K mg base CX k fa fd [x] sp) (hbind:∀ (s:Shared) (u:Value),BindsTo s fd ⟨[u],[]⟩ [(x,u)])
  (hsp:∀ H:Hp,SqL K H a (ns.map V.int)->sp [.ref a] H (fun v _=>v=.bl true) fun _ _ _=>False)
  (hCX:∀ H e s',CX [] H s₁ (fun _ _ _=>False) e s'->False) :
  codeAny (model P w) callerA (.call (.ref fa) ⟨[.ref a],[]⟩) (fun r s'=>r=.ok (.ret (.bool true))/\OldK s₁.heap s'.heap/\s'.os=s₁.os/\AllBare s'.gens) s₁:=by
 have rv:=jU hi
 have lenV:=hi.length
 have hB1:∀ p∈ts,K.lookup p.1=none/\∃ c,ag1 K c p.1=true:=fun p hp=>by
  have h1:=ahY.mp (ahL _ _▸hB).1 p hp
  rw [ahL] at h1
  obtain⟨c,_,hc⟩:=List.any_eq_true.mp h1.2
  exact⟨ah0.mp h1.1,c.1,hc⟩
 obtain⟨tr,htr⟩:∃ tr:Bool,tr=(K.lookup a).isNone:=⟨_,rfl⟩
 generalize hH:vi ts tr a { cls:=.type "list",data:=.seq vs.toArray } (ns.map V.int)=H
 have ofH:∀ {b u},H b=some u->(∃ q,(b,q)∈ts/\u=.tbl q/\s₁.heap.get? b=some (ahI #[])) \/ (tr=true/\b=a/\u=.frz { cls:=.type "list",data:=.seq vs.toArray } (.lst (ns.map V.int))):=fun {b u} e=>by
  rw [<-hH] at e
  rcases adf e with⟨q,e1,e2⟩ | z
  ·exact .inl ⟨q,j4 e1,e2,hts _ (j4 e1)⟩
  ·exact .inr z
 have ataT:ts.lookup a=none:=by
  cases e:ts.lookup a with
  | none=>rfl
  | some q=>have:=hts _ (j4 e);rw [ha] at this;cases this
 have hok:HOk P w H s₁.heap:=fun b u e=>by
  rcases ofH e with⟨q,e1,rfl,e3⟩ | ⟨e1,rfl,rfl⟩
  ·exact⟨#[],e3,trivial,fun pos cv z=>by cases z⟩
  ·exact⟨ha,by rw [agr];exact hl,vs,_,rv,ha⟩
 have free:∀ {b:Addr} {o:Obj},s₁.heap.get? b=some o->(∀ vs,o.data≠.fields vs)->(∀ vs n,o.data≠.seq vs n)->H b=none:=fun {b o} e d1 d2=>by
  cases q:H b with
  | none=>rfl
  | some u =>
   rcases ofH q with⟨_,_,_,e3⟩ | ⟨_,rfl,_⟩
   ·rw [e] at e3;cases e3;exact absurd rfl (d1 _)
   ·rw [ha] at e;cases e;exact absurd rfl (d2 _ _)
 have nsK:∀ {b:Addr} {m:Str->Option Value},s₁.heap.Ns b m->(vJ s₁.heap H).Ns b m:=fun {b m} ⟨o,es,ep,e,d,r⟩=>⟨o,es,ep,qu e (free e (fun _ z=>by rw [d] at z;cases z) fun _ _ z=>by rw [d] at z;cases z),d,r⟩
 have hKb:K.In (vJ s₁.heap H):=fun b o e=>qu (KX b o e) (by
  cases q:H b with
  | none=>rfl
  | some u =>
   rcases ofH q with⟨_,e1,_,_⟩ | ⟨e1,rfl,_⟩
   ·rw [(hB1 _ e1).1] at e;cases e
   ·rw [htr,ah0] at e1;rw [e1] at e;cases e)
 have hM:Mod K mg (vJ s₁.heap H):=⟨hKb,nsK hns,⟨mb,nsK hb,hbb⟩,let⟨mc,h1,h2⟩:=hlim;⟨mc,nsK h1,h2⟩,by
  obtain⟨b,o,h1,h2,h3,h4,h5,h6⟩:=hbm
  exact⟨b,o,h1,h2,qu h3 (free h3 (fun _ z=>by rw [h6] at z;cases z) fun _ _ z=>by rw [h6] at z;cases z),h4,h5,h6⟩⟩
 have tabs:TabsOk K H:=fun c P q hq h1 h2=>by rw [<-hH];exact acb (afv KX hB hq h1 h2)
 have e0:Env0 P w K mg (vJ s₁.heap H) callerA [] s₁ H:=⟨rfl,hM,fun b o e=>adv e,aiV (abF _ _),trivial,(fun b z=>by cases z),tabs,hok,.of_eq hg⟩
 have hS:SqL K H a (ns.map V.int):=by
  cases hk:K.lookup a with
  | some o =>
   have e:=KX a o hk
   rw [ha] at e
   cases e
   exact .inr ⟨_,vs.toArray,_,hk,rfl,rfl,rfl,by rw [agE,lenV];exact hl,by simpa using rv⟩
  | none =>
   refine .inl (.inr ⟨{ cls:=.type "list",data:=.seq vs.toArray },?_⟩)
   rw [<-hH]
   unfold vi
   rw [ataT]
   exact if_pos ⟨by rw [htr,hk];rfl,rfl⟩
 refine codeAny_mono ((F _ hKb (nsK hns)).run callerA [] s₁ H ⟨[.ref a],[]⟩ [.ref a] [.ref a] _ _ hr e0 (hbind s₁ (.ref a)) (.cons rfl .nil) (hsp H hS)) fun r s' h=>?_
 cases r with
 | error e=>exact (hCX H e s' h).elim
 | ok fl =>
  cases fl with
  | next=>exact ahO h
  | brk=>exact ahO h
  | cont=>exact ahO h
  | ret u =>
   obtain⟨v,H',os,bare,un,hok',r',rfl⟩:=h
   obtain rfl:u=Value.bool true:=r'
   refine⟨rfl,⟨fun b o e=>?_,fun b o e=>un.there b o e (by simp)⟩,os,bare⟩
   cases q:H b with
   | none=>exact .inl (un.keep b o e q (fun z=>by cases z) (fun z=>by cases z))
   | some u =>
    rcases ofH q with⟨qq,e1,rfl,e3⟩ | ⟨_,rfl,rfl⟩
    ·rw [e] at e3
     cases e3
     obtain⟨ps,e4,_⟩:=hok' b _ (un.tbls b _ q)
     obtain⟨c,hc⟩:=(hB1 _ e1).2
     obtain⟨oc,us,_,_,_,_,_,_,_,c1,c2,c3,c4,_⟩:=ajj KX hc
     refine .inr (.inl ⟨⟨c,oc,us,c1,c2,c3,c4⟩,rfl,#[],ps,rfl,?_⟩)
     rw [Array.empty_append]
     exact e4
    ·obtain⟨e1,_⟩:=hok b _ q
     obtain⟨e2,_⟩:=hok' b _ (un.frzs b _ _ q)
     rw [e] at e1;cases e1
     exact .inl e2
theorem walk_T {l:PySem.W.OpenLaw} {n k:Nat} {q:Program} {loose:List Str} {XP:(Str->Option Value)->Heap->Prop} {YP:World->Heap->Prop} {d:DefRec} {K:Params->ags} {CX:World->CXT} {sp:World->Sp} {x:Str} (ts:List (Addr×Str))
  (hn:l.most=some n) (hn2:n<=sizeLine) (hdf:d.params.defaults=[]) (hr:Room k callerA)
  (hY:∀ (w:World) (h:Heap),YP w h->(K w.params).In h/\∀ p∈ts,h.get? p.1=some (ahI #[])) (hB:∀ w:World,jI (K w.params) ts=true)
  (F:∀ (w:World) (mg:Str->Option Value) (fa:Addr) (h:Heap),(K w.params).In h->h.Ns mainGlobals mg->mg d.name=some (.ref fa) ->
   ∃ fd:FuncData,(∀ (s:Shared) (u:Value),BindsTo s fd ⟨[u],[]⟩ [(x,u)]) /\
    ∀ base:Heap,(K w.params).In base->base.Ns mainGlobals mg->FnOk l.prog w (K w.params) mg base (CX w) k fa fd [x] (sp w))
  (hsp:∀ (w:World) (H:Hp) (a:Addr) (ns:List Int),ns.length<=n->SqL (K w.params) H a (ns.map V.int)->sp w [.ref a] H (fun v _=>v=.bl true) fun _ _ _=>False)
  (hCX:∀ (w:World) (H:Hp) (s:Shared) (e:Value) (s':Shared),CX w [] H s (fun _ _ _=>False) e s'->False) :
  PySem.W.WalkO q loose XP YP l.row.toRowW d [] (fun f vs=>PySem.call f vs):=by
 refine Att.attach_call hn hdf fun w s₀ s₁ mg mb fa o pm cd doc a vs ns G Y ho hd hcd hmg hobj hints hlen hg=>?_
 obtain⟨KX,hts⟩:=hY w _ Y
 obtain⟨fd,hb,hF⟩:=F w mg fa _ KX G.T.g hmg
 exact acd (hB w) hts G.T.bmain KX G.T.g G.T.b G.T.builtins G.T.nolimit hg hobj hints (ag2 hlen hn2) hr hF hb (fun H hS=>hsp w H a ns hlen hS) fun H e s'=>hCX w H s₁ e s'
noncomputable def abu (K:ags) (q:Str):Bool:=K.all fun x=>!agY K (.ref x.1) q || (match x.2.data with
 | .fields vs=>(match (vs[11]?:Option Value) with | some (.ref P)=>ag1 K x.1 P | _=>false)
 | _=>false)
theorem afw {K:ags} {q:Str} {cdv:Value} (h:abu K q=true) (hc:agY K cdv q=true):∃ c P,cdv=.ref c/\ag1 K c P=true/\agY K (.ref c) q=true:=by
 have hc':=hc
 unfold agY at hc'
 split at hc'
 ·rename_i c
  split at hc'
  ·rename_i a b vs d hk
   have h1:=ahY.mp h _ (j4 hk)
   dsimp only at h1
   rw [hc] at h1
   simp only [ahk,Bool.false_or] at h1
   split at h1
   ·rename_i P _
    exact⟨c,P,rfl,h1,hc⟩
   ·cases h1
  ·cases hc'
 ·cases hc'
section
variable {w:World} {K:ags} {f:Fx} {Ds:List Addr} {ρ:zi} {cs:List OC} {t:TA} {jy j:Nat} {P:PyData->Prop} {ks:List Int}
theorem ad9 (hi:ρ[jy]?=some (some (.own (f.M.length+j)))) (hc:cs[j]?=some (.lst (ks.map .int))) (h:PAm w K f Ds t ρ cs fun xs=>∃ ns:List Int,xs=[.dat (.list (ns.map .int))]/\ns≠[]/\(∀ n∈ns,0<=n/\n.toNat<ks.length)/\∀ M,yp ks ns M->P (.int M)) :
  PEm w K f Ds (aeJ K jy t) ρ cs P:=fun se σ H H2 Q x q=>h se σ H H2 _ x fun xs vs H1 g1 r1 ⟨ns,ex,hne,hin,p⟩=>by
 subst ex
 have hj:j<Ds.length:=by rw [<-x.len];exact (agu.mp hc).1
 have hD:Ds[j]?=some Ds[j]:=agq hj
 have x1:=x.go g1 (x.env.mono g1)
 obtain⟨us,h1,h2⟩:=x1.own j _ _ hD hc
 have eu:=h2.ints
 subst eu
 cases r1 with
 | cons r0 rt =>
  cases rt
  obtain⟨l,ys,rfl,s1,s2⟩:=rep_list.mp (show Rep K _ (.list (ns.map .int)) _ from r0)
  have ey:=s2.ints
  subst ey
  exact⟨l,ns,Ds[j],ks,rfl,(zq _ _).seq s1,hne,qo hi x hD,.inl (.inl h1),hin,fun H' M sm lm=>q (.int M) _ H' (g1.trans (.of_same sm g1.2)) (rep_int.mpr rfl) (p M lm)⟩
end
section
variable {X:Cx}
noncomputable def af5 (i j:Int):Prop:=j=2/\i.natAbs<2 ^ 1000
theorem yf:OpR X (binaryOp .Pow) (rI af5 fun i j=>.int (i ^ j.toNat)):=opI fun _ _ _ _ _ _ _ hc q=>pow_int (by rw [hc.1];decide) (by
 have:=jZ (qr hc.2 (by decide))
 rw [hc.1]
 omega) q
end
section
variable {w:World} {K:ags} {f:Fx} {Ds:List Addr} {ρ:zi} {cs:List OC} {ta tb:TE} {P:PyData->Prop}
theorem adg {g:Int->Int->Int} (h:PEm w K f Ds ta ρ cs fun x=>∃ i,x=.int i/\PEm w K f Ds tb ρ cs fun y=>∃ j,y=.int j/\P (.int (g i j))):PEm w K f Ds (tOp (rI0 fun i j=>.int (g i j)) ta tb) ρ cs P:=fun se σ H H2 Q x q =>
 h se σ H H2 _ x fun d v H1 g1 r1 ⟨i,ed,p1⟩=>p1 se σ H1 H2 _ (x.go g1 (x.env.mono g1)) fun d2 v2 H3 g3 r3 ⟨j,ed2,p3⟩=>by
  subst ed ed2
  exact⟨i,j,rep_int.mp r1,rep_int.mp r3,q _ _ H3 (g1.trans g3) (rep_int.mpr rfl) p3⟩
end
noncomputable def PEnt (K:ags) (f:Fx) (te:TE) (ρ:zi) (R:Int->List Int->Prop):Prop:=∀ (σ:St) (H:Hp) (Q:VK),EnvOk K f ρ σ H ->
 (∀ a ns t D H',Goes f H H'->H t=none->H D=none->t≠D->H' t=some (.tup [.int a,.ref D])->H' D=some (.lst (ns.map V.int))->R a ns->Q (.ref t) H')->te σ H Q
noncomputable def afx {γ:Type} (K:ags) (n:Nat) (pre:γ->List DV->Prop) (post:γ->Int->List Int->Prop):Sp:=fun vs H Q _=>∃ f xs c,RepVs K f H xs vs/\xs.length=n/\FOk f H/\pre c xs /\
 ∀ a ns t D H',Goes f H H'->H t=none->H D=none->t≠D->H' t=some (.tup [.int a,.ref D])->H' D=some (.lst (ns.map V.int))->post c a ns->Q (.ref t) H'
noncomputable def aea (K:ags) (f:Fx) (ts:TS) (ρ:zi) (R:Int->List Int->Prop):Prop:=∀ (σ:St) (H:Hp) (E:Ends),EnvOk K f ρ σ H ->
 (∀ a ns t D H',Goes f H H'->H t=none->H D=none->t≠D->H' t=some (.tup [.int a,.ref D])->H' D=some (.lst (ns.map V.int))->R a ns->E.rt (.ref t) H')->ts E σ H
noncomputable def aaQ (w:World) (K:ags) (f:Fx) (Ds:List Addr) (ts:TS) (ρ:zi) (cs:List OC) (R:Int->List Int->Prop):Prop:=Sep f Ds->∀ (σ:St) (H H2:Hp) (E:Ends),CM w K f Ds H2 ρ cs σ H ->
 (∀ a ns t D ρ' cs' σ' H0 H',CM w K f Ds H2 ρ' cs' σ' H0->Goes f H0 H'->H0 t=none->H0 D=none->t≠D->H' t=some (.tup [.int a,.ref D])->H' D=some (.lst (ns.map V.int))->R a ns->E.rt (.ref t) H')->ts E σ H
theorem PEdL.ints {K:ags} {f:Fx} {te:TE} {ρ:zi} {P:List PyData->Prop} (h:PEdL K f te ρ fun es=>(∃ ns:List Int,es=ns.map .int)/\P es):PEdO K f te ρ P:=fun σ H Q e q=>h σ H Q e fun es D vs H' g n h1 r ⟨⟨ns,en⟩,p⟩=>by
 subst en
 have ev:=r.ints
 subst ev
 exact q _ D _ H' g n h1 (Reps.ints' ns) p
section
variable {w:World} {K:ags} {f:Fx} {Ds:List Addr} {ρ:zi} {cs:List OC} {ts tu:TS} {te te1 te2:TE} {t:TA} {R:Int->List Int->Prop} {i:Nat}
theorem PEnt.ped {P:PyData->Prop} (h:PEnt K f te ρ fun a ns=>P (.tuple [.int a,.list (ns.map .int)])):PEd K f te ρ P:=fun σ H Q e q=>h σ H Q e fun a ns t D H' g ht hD ne h1 h2 p=>by
 have n1:=fresh_ne e.fd ht
 have n2:=fresh_ne e.fd hD
 exact q _ _ H' g (rep_tuple.mpr ⟨t,_,rfl,.of (zk n1 h1),.cons' (rep_int.mpr rfl) (.cons' (rep_list.mpr ⟨D,_,rfl,.of (zk n2 h2),Reps.ints' ns⟩) (reps_nil.mpr rfl))⟩) p
theorem afy (h:PEd K f te1 ρ fun x=>∃ a,x=.int a/\PEdO K f te2 ρ fun es=>∃ ns:List Int,es=ns.map .int/\R a ns):PEnt K f (adE (zY te1 (zY te2 ju))) ρ R:=fun σ H Q e q =>
 h σ H _ e fun x v H1 g1 r1 ⟨a,ex,h2⟩=>h2 σ H1 _ (e.mono g1) fun es D vs H2 g2 hn h1 rs ⟨ns,ees,r⟩=>by
  subst ex ees
  have ev:=rs.ints
  subst ev
  rw [rep_int.mp r1]
  refine⟨by show 2<=sizeLine;decide +kernel,fun t ht=>?_⟩
  have g3:Goes f H2 (upd H2 t (.tup [.int a,.ref D])):=.of_same (zJ ht _) g2.2
  have ne:t≠D:=fun z=>by rw [z,h1] at ht;cases ht
  exact q a ns t D _ ((g1.trans g2).trans g3) ((g1.trans g2).free e.fd ht) (g1.free e.fd hn) ne zo (by rw [zl (ah5 ne)];exact h1) r
theorem abv {γ:Type} {n:Nat} {pre:γ->List DV->Prop} {post:γ->Int->List Int->Prop} {E:XK} (c:γ) (h:PAd K f t ρ fun xs=>xs.length=n/\pre c xs/\∀ a ns,post c a ns->R a ns):PEnt K f (qz (afx K n pre post) [] E t) ρ R:=fun σ H Q e q =>
 h σ H _ e fun xs vs H1 g1 r1 ⟨hl,hp,k⟩=>⟨f,xs,c,by rw [ahq];exact r1,hl,g1.2,hp,fun a ns t D H' g' h1 h2 ne h3 h4 p=>q a ns t D H' (g1.trans g') (g1.free e.fd h1) (g1.free e.fd h2) ne h3 h4 (k a ns p)⟩
theorem afz (h:PEnt K f te ρ R):aea K f (abG te) ρ R:=fun σ H E e q=>h σ H E.rt e q
theorem aeb (h:aaQ w K f [] ts ρ [] R):aea K f ts ρ R:=fun σ H E e q=>by
 refine h ⟨aiG,(fun _ z=>nomatch z),(fun _ z=>nomatch z)⟩ σ H H E ⟨e,Same.refl _,fun _ _=>rfl,rfl,(fun i D c z=>nomatch z)⟩ fun a ns t D ρ' cs' σ' H0 H' x g h1 h2 ne h3 h4 p=>?_
 have g0:Goes f H H0:=⟨x.sm,x.env.fd,x.kp⟩
 exact q a ns t D H' (g0.trans g) (g0.free e.fd h1) (g0.free e.fd h2) ne h3 h4 p
theorem afA (h:PSm w K f Ds ts ρ cs { nx:=fun ρ' cs'=>aaQ w K f Ds tu ρ' cs' R,rt:=fun _=>False }):aaQ w K f Ds (jt ts tu) ρ cs R:=fun se σ H H2 E x q =>
 h se σ H H2 _ x (fun ρ' cs' σ' H' x' p=>p se σ' H' H2 E x' q) (fun _ _ _ _ _ _ _ _ z=>z.elim) (fun _ _ _ _ _ z=>z.elim) (fun _ _ _ _ _ z=>z.elim)
theorem adh (h:adY w K (f.withs Ds) te ρ fun c=>i<ρ.length/\∀ D,aaQ w K f (Ds++[D]) ts (ρ.set i (some (.own (f.M.length+Ds.length)))) (cs++[c]) R) :
  aaQ w K f Ds (jt (y3 te (yy i)) ts) ρ cs R:=fun se σ H H2 E x q =>
 h σ H _ x.env fun c D H1 g1 hn ho ⟨hi,p⟩ =>
  p D (se.more x.env.fd hn) _ H1 H1 E (x.more g1 hn ho hi) fun a ns t D' ρ' cs' σ' H0 H' y g h1 h2 ne h3 h4 pr=>q a ns t D' _ _ σ' H0 H' (x.less g1 hn y) g h1 h2 ne h3 h4 pr
theorem aec (h:aea K f ts (ρ.map (freed f.M.length cs)) R):aaQ w K f Ds ts ρ cs R:=fun se σ H H2 E x q =>
 h σ H E (x.free se) fun a ns t D H' g h1 h2 ne h3 h4 p=>q a ns t D ρ cs σ H H' x g h1 h2 ne h3 h4 p
end
section
variable {P:Program} {w:World} {K:ags} {mg:Str->Option Value} {base:Heap} {k n:Nat} {x:Str} {st:Stmt} {ps N:List Str} {γ:Type} {pre:γ->List DV->Prop} {post:γ->Int->List Int->Prop}
theorem Def.okLT (F:Def K mg x st ps) (S:FnScope N ps (zh st)) (hn:ps.length=n) (hl:abu K x=true)
  (h:∀ (fa c Pt:Addr) (A:Around) (outer:List Env) (s:Shared) (H:Hp) (E:XK),ag1 K c Pt=true->agY K (.ref c) x=true->Room k (A.deeper (envOfC x (zh st) s.heap.objs.size fa (.ref c))) ->
   ∃ t,PSs (yF CX0 P w K mg base N x (zh st) fa (.ref c) A outer s H E).nox (zN st) t/\∀ (f:Fx) (xs:List DV) (c:γ),xs.length=n->pre c xs->aea K f t (yS N xs) (post c)) :
  FnIn P w K mg base (k+1) x ps (afx K n pre post):=by
 obtain⟨fa,fd,F1,F2,F3⟩:=F.ex
 refine⟨fa,fd,?_,F3,F1.kp,F2⟩
 obtain⟨oc,od,kV,doc,pm,an,cdv,ct,osl,rfl,lk,hcd⟩:=F1.ex
 obtain⟨c,Pt,rfl,l1,l2⟩:=afw hl hcd
 refine aex lk hcd S (fun vs H Q E h=>?_) fun A outer s H vs Q E hr hs=>?_
 ·obtain⟨f,xs,c,r,hl,_⟩:=h
  rw [r.length,hl,hn]
 ·obtain⟨f,xs,c,r,hl,fo,hp,q⟩:=hs
  obtain⟨t,h1,h2⟩:=h fa _ Pt A outer s H E l1 l2 hr
  exact⟨t,h1.nox,h2 f xs c hl hp (start N vs) H _ (yK r fo) q⟩
end
noncomputable def aaR (a:Int) (D:Addr):DV:=.mon fun H v=>∃ t,v=.ref t/\H t=some (.tup [.int a,.ref D])
section
variable {K:ags} {f:Fx} {D:Addr} {ρ:zi} {es:List PyData} {ts tu:TS} {tt:TT} {te:TE} {O:OEnds} {i j:Nat} {a:Int}
theorem vD {σ:St} {H H2:Hp} (hi:ρ[i]?=some (some (aaR a D))) (c:CSt K f D H2 ρ es σ H):∃ t,σ[i]?=some (some (.ref t))/\hide H (f.with D) t=some (.tup [.int a,.ref D]):=by
 obtain⟨v,h1,h2⟩:=c.env.get i _ hi
 obtain⟨t,rfl,h3⟩:=h2 _ (Same.refl _)
 exact⟨t,h1,h3⟩
theorem af6 (hi:ρ[i]?=some (some (aaR a D))) (h:PTd K f tt ((ρ.map (z7 f.M.length)).set i (some (.dat (.tuple [.int a,.list es])))) fun b=>if b=true then PSo K f D ts ρ es O else PSo K f D tu ρ es O):PSo K f D (ady tt ts tu) ρ es O:=fun hD hM σ H H2 E c n r b k=>by
 have nD:¬ (f.f=some D \/ D∈f.M):=fun z=>z.elim hD hM
 obtain⟨vs,h1,h2⟩:=c.lst
 obtain⟨t,s1,s2⟩:=vD hi c
 have rl:Rep K (hide H f) (.list es) (.ref D):=rep_list.mpr ⟨D,vs,rfl,.of (zk nD h1),Reps.mono same_with es vs h2⟩
 have rt:Rep K (hide H f) (.tuple [.int a,.list es]) (.ref t):=rep_tuple.mpr ⟨t,_,rfl,.of (same_with _ _ s2),.cons' (rep_int.mpr rfl) (.cons' rl (reps_nil.mpr rfl))⟩
 refine h σ H _ (abf (yo c) s1 rt) fun q H1 g1 p=>?_
 have c1:=c.goF hD hM g1
 cases q with
 | true=>rw [if_pos rfl] at p ⊢;exact p hD hM σ H1 H2 E c1 n r b k
 | false=>rw [if_neg agz] at p ⊢;exact p hD hM σ H1 H2 E c1 n r b k
theorem adi {Dn:DEnds} (h:PEnt K f te ρ fun a ns=>i<ρ.length/\∀ D,PSo K f D ts (ρ.set i (some (aaR a D))) (ns.map .int) { nx:=fun ρ' es=>Dn.nx (ρ'.map (z7 f.M.length)),rt:=Dn.rt,bk:=fun ρ' es=>Dn.bk (ρ'.map (z7 f.M.length)),ct:=fun ρ' es=>Dn.ct (ρ'.map (z7 f.M.length)) }) :
  PSd K f (jt (y3 te (yy i)) ts) ρ Dn:=fun σ H E e n r b k=>h σ H _ e fun a ns t D H1 g1 ht hn ne h0 h1 ⟨hil,p⟩=>by
 have nD:¬ (f.f=some D \/ D∈f.M):=fresh_ne e.fd hn
 have nt:¬ (f.f=some t \/ t∈f.M):=fresh_ne e.fd ht
 have hD:f.f≠some D:=fun z=>nD (.inl z)
 have hM:D∉f.M:=fun z=>nD (.inr z)
 have sm0:Same (hide H f) (hide H1 (f.with D)):=fun b o hb=>by
  have hb1:=g1.sm b o hb
  refine zk (fun z=>?_) (zp hb1).2
  rcases z with z | z
  ·exact (zp hb1).1 (.inl z)
  ·rcases agC.mp z with rfl | z
   ·have:=(zp hb).2
    rw [hn] at this
    cases this
   ·exact (zp hb1).1 (.inr z)
 have fo1:FOk (f.with D) H1:=⟨g1.ok.fd,fun b hb=>by
  rcases agC.mp hb with rfl | hb
  ·exact⟨_,h1⟩
  ·exact g1.ok.mm b hb,fun q eq hq=>by
  rcases agC.mp hq with rfl | hq
  ·exact hD eq
  ·exact g1.ok.nm q eq hq⟩
 have e1:EnvOk K (f.with D) ρ σ H1:=⟨e.len,fun j x hx=>by
  obtain⟨v,a1,a2⟩:=e.get j x hx
  refine⟨v,a1,?_⟩
  cases x with
  | dat d=>exact Rep.mono sm0 d v a2
  | feed=>exact a2
  | exc C =>
   obtain⟨q,h3,h4⟩:=a2
   exact⟨q,h3,sm0 _ _ h4⟩
  | mon φ=>exact fun H' s=>a2 H' (sm0.trans s)
  | own k =>
   obtain⟨q,h3,h4⟩:=a2
   refine⟨q,?_,h4⟩
   show (D :: f.M).reverse[k]?=some q
   rw [agU,agx (agu.mp h3).1]
   exact h3,fo1⟩
 have ht1:hide H1 (f.with D) t=some (.tup [.int a,.ref D]):=zk (fun z=>z.elim (fun z=>nt (.inl z)) fun z=>(agC.mp z).elim ne fun z=>nt (.inr z)) h0
 have rv:RepV K (f.with D) H1 (aaR a D) (.ref t):=fun H' s=>⟨t,rfl,s _ _ ht1⟩
 have c1:CSt K f D H1 (ρ.set i (some (aaR a D))) (ns.map .int) (σ.set i (some (.ref t))) H1:=⟨e1.set i rv,Same.refl _,fun _ _=>rfl,ns.map V.int,h1,Reps.ints' ns⟩
 have gg:∀ {ρ':zi} {es':List PyData} {σ':St} {H':Hp},CSt K f D H1 ρ' es' σ' H'->Goes f H H':=fun c=>by
  refine⟨fun b o hb=>?_,(yo c).fd,fun b hb=>(c.kp b hb).trans (g1.kp b hb)⟩
  exact same_with (D:=D) b o (c.sm b o (sm0 b o hb))
 exact p D hD hM _ H1 H1 E c1 (fun ρ' es' σ' H' c' q=>n _ σ' H' (gg c') (yo c') q) (fun d v ρ' es' σ' H' c' r' q=>r d v H' (gg c') r' q) (fun ρ' es' σ' H' c' q=>b _ σ' H' (gg c') (yo c') q) (fun ρ' es' σ' H' c' q=>k _ σ' H' (gg c') (yo c') q)
theorem af7 (hi:ρ[i]?=some (some (aaR a D))) (hj:j<ρ.length) (hl:es.length<1000) (h:O.nx (ρ.set j (some (.dat (.tuple [.int a,.list es])))) es) :
  PSo K f D (y3 (adE (zY (tOp (abP K) (yE i) (tC (.int 0))) (zY (tCB (fun xs H Q=>∃ p ys,xs=[V.ref p]/\(SqL K H p ys \/ SqT K H p ys)/\∀ l,H l=none->Q (V.ref l) (upd H l (HO.lst ys))) (zY (tOp (abP K) (yE i) (tC (.int 1))) ju)) ju))) (yy j)) ρ es O:=fun hD hM σ H H2 E c n r b k=>by
 obtain⟨vs,h1,h2⟩:=c.lst
 obtain⟨t,s1,s2⟩:=vD hi c
 have s3:=(zp s2).2
 refine⟨_,s1,t,_,0,_,rfl,rfl,.of s3,rfl,?_⟩
 refine⟨_,s1,t,_,1,_,rfl,rfl,.of s3,rfl,?_⟩
 refine⟨D,vs,rfl,.inl (.of h1),fun l hl'=>?_⟩
 refine⟨by show 2<=sizeLine;decide +kernel,fun u hu=>?_⟩
 have sm1:Same H (upd H l (.lst vs)):=zJ hl' _
 have sm2:Same (upd H l (.lst vs)) (upd (upd H l (.lst vs)) u (.tup [.int a,.ref l])):=zJ hu _
 have g:Goes (f.with D) H (upd (upd H l (.lst vs)) u (.tup [.int a,.ref l])):=.of_same (sm1.trans sm2) c.env.fd
 have nl:=fresh_ne c.env.fd hl'
 have g1:Goes (f.with D) H (upd H l (.lst vs)):=.of_same sm1 c.env.fd
 have nu:=fresh_ne g1.2 hu
 have ne:l≠u:=fun z=>by rw [<-z,zo] at hu;cases hu
 have e2:=(c.env.mono g).set j (x:=.dat (.tuple [.int a,.list es])) (v:=.ref u) (rep_tuple.mpr ⟨u,_,rfl,.of (zk nu zo),.cons' (rep_int.mpr rfl) (.cons' (rep_list.mpr ⟨l,vs,rfl,.of (zk nl (by rw [zl ne];exact zo)),Reps.mono g.1 es vs h2⟩) (reps_nil.mpr rfl))⟩)
 exact n _ _ _ _ (c.go g e2) h
theorem af8 (hi:ρ[i]?=some (some (aaR a D))) (hl:es.length<1000) (h:O.nx ρ (es++[.int 0])) :
  PSo K f D (aa4 (tBM K "list" ql (tOp (abP K) (yE i) (tC (.int 1))) (zY (tC (.int 0)) ju))) ρ es O:=fun hD hM σ H H2 E c n r b k=>by
 obtain⟨vs,h1,h2⟩:=c.lst
 obtain⟨t,s1,s2⟩:=vD hi c
 have s3:=(zp s2).2
 refine⟨_,s1,t,_,1,_,rfl,rfl,.of s3,rfl,Or.inl ⟨rfl,vs,.of h1⟩,?_⟩
 exact⟨D,vs,.int 0,rfl,rfl,h1,zW (by rw [h2.length];omega),n _ _ _ _ (c.put hD hM h1 h2 (rep_int.mpr rfl)) h⟩
end
end L2
end
section
namespace My
open PySem PySem.Spec PyProof.Rows L2
noncomputable abbrev pd:List Str:=["a","b","c"]
noncomputable abbrev pf:List Str:=["_law_feed_here","_law_many"]
noncomputable abbrev ph:List Str:=["_law_points_here","_law_j","_law_k","_law_bound"]
noncomputable abbrev pj:List Str:=["point","start","end","bound"]
noncomputable abbrev pq:List Str:=["points","bound"]
noncomputable abbrev pz:List Str:=["points","start","end","bound"]
noncomputable abbrev pA:List Str:=["last_ahead"]
noncomputable abbrev pB:List Str:=["_law_script","_law_k"]
noncomputable abbrev pC:List Str:=["_law_feed_here","_law_most"]
noncomputable abbrev pD:List Str:=["_law_one","_law_other","_law_point","_law_bound"]
noncomputable abbrev pE:List Str:=["_law_points_here","_law_bound"]
noncomputable abbrev pF:List Str:=["_law_points_here","_law_bound","_law_found"]
noncomputable abbrev pG:List Str:=["_law_script"]
noncomputable abbrev pH:List Str:=["_law_x","_law_y","_law_by","_law_far"]
local macro_rules | `(tactic| walk_at "w")=>`(tactic| repeat walk_at "dl")
local macro_rules | `(tactic| walk_at "s")=>`(tactic| exact⟨rfl,rfl,rfl,by decide +kernel,rfl,by decide +kernel,by decide +kernel⟩)
noncomputable abbrev Pt:=Int×Int
noncomputable def ptD (p:Pt):PyData:=.tuple [.int p.1,.int p.2]
noncomputable def atP (ps:List Pt) (i:Nat):Pt:=ps.getD i (0,0)
noncomputable def jg (a b c:Pt):Int:=(b.1 - a.1) * (c.2 - a.2) - (b.2 - a.2) * (c.1 - a.1)
noncomputable def sqF (a b:Pt):Int:=(b.1 - a.1) * (b.1 - a.1)+(b.2 - a.2) * (b.2 - a.2)
noncomputable def alF (p a b:Pt):Int:=(p.1 - a.1) * (b.1 - a.1)+(p.2 - a.2) * (b.2 - a.2)
noncomputable def nearF (m:Int) (p a b:Pt):Bool :=
 if alF p a b<=0 then decide (sqF a p<=m * m) else if sqF a b<=alF p a b then decide (sqF b p<=m * m) else decide (jg a b p * jg a b p<=m * m * sqF a b)
noncomputable def mx (a b:Int):Int:=if b > a then b else a
noncomputable def mn (a b:Int):Int:=if b<a then b else a
noncomputable def aaS (m:Int) (a b p:Pt):Bool :=
 let W:=mx 1 ((b.1 - a.1) * (b.1 - a.1)+(b.2 - a.2) * (b.2 - a.2))
 let al:=mx 0 (mn ((p.1 - a.1) * (b.1 - a.1)+(p.2 - a.2) * (b.2 - a.2)) W)
 let r:=(p.1 - a.1) * W - al * (b.1 - a.1)
 let d:=(p.2 - a.2) * W - al * (b.2 - a.2)
 decide (r * r+d * d<=m * m * W * W)
theorem sq_nonneg (x:Int):0<=x * x:=by
 rcases Int.le_total 0 x with h | h
 ·exact aif h h
 ·exact Int.mul_nonneg_of_nonpos_of_nonpos h h
theorem aaT (a b:Pt):0<=sqF a b:=by
 have h1:=sq_nonneg (b.1 - a.1)
 have h2:=sq_nonneg (b.2 - a.2)
 unfold sqF
 omega
theorem abw {x:Int} (h:x * x=0):x=0:=by
 rcases Int.mul_eq_zero.mp h with h | h <;> exact h
theorem adj {a b:Pt} (h:sqF a b=0):b.1 - a.1=0/\b.2 - a.2=0:=by
 have h1:=sq_nonneg (b.1 - a.1)
 have h2:=sq_nonneg (b.2 - a.2)
 unfold sqF at h
 exact⟨abw (by omega),abw (by omega)⟩
theorem yM {W x y:Int} (hW:0<W):(W * x<=W * y)↔x<=y:=⟨fun h=>Int.le_of_mul_le_mul_left h hW,fun h=>Int.mul_le_mul_of_nonneg_left h (Int.le_of_lt hW)⟩
theorem adk (m:Int) (a b p:Pt):aaS m a b p=nearF m p a b:=by
 have hs:=aaT a b
 unfold aaS nearF
 have eW:(b.1 - a.1) * (b.1 - a.1)+(b.2 - a.2) * (b.2 - a.2)=sqF a b:=rfl
 have eA:(p.1 - a.1) * (b.1 - a.1)+(p.2 - a.2) * (b.2 - a.2)=alF p a b:=rfl
 dsimp only
 rw [eW,eA]
 have hW:0<mx 1 (sqF a b):=by unfold mx;split <;> omega
 by_cases h1:alF p a b<=0
 ·rw [if_pos h1]
  have e:mx 0 (mn (alF p a b) (mx 1 (sqF a b)))=0:=by unfold mx mn;split <;> split <;> omega
  rw [e]
  refine decide_eq_decide.mpr ?_
  generalize mx 1 (sqF a b)=W at *
  have e1:((p.1 - a.1) * W - 0 * (b.1 - a.1)) * ((p.1 - a.1) * W - 0 * (b.1 - a.1))+((p.2 - a.2) * W - 0 * (b.2 - a.2)) * ((p.2 - a.2) * W - 0 * (b.2 - a.2))=W * (W * sqF a p):=by unfold sqF;grind
  have e2:m * m * W * W=W * (W * (m * m)):=by grind
  rw [e1,e2,yM hW,yM hW]
 ·rw [if_neg h1]
  have h0:0<sqF a b:=by
   rcases Int.lt_or_eq_of_le hs with h | h
   ·exact h
   ·obtain⟨z1,z2⟩:=adj h.symm
    exfalso
    apply h1
    unfold alF
    rw [z1,z2]
    simp
  have eM:mx 1 (sqF a b)=sqF a b:=by unfold mx;split <;> omega
  rw [eM]
  by_cases h2:sqF a b<=alF p a b
  ·rw [if_pos h2]
   have e:mx 0 (mn (alF p a b) (sqF a b))=sqF a b:=by
    have:mn (alF p a b) (sqF a b)=sqF a b:=by unfold mn;split <;> omega
    rw [this];unfold mx;split <;> omega
   rw [e]
   refine decide_eq_decide.mpr ?_
   generalize sqF a b=W at *
   have e1:((p.1 - a.1) * W - W * (b.1 - a.1)) * ((p.1 - a.1) * W - W * (b.1 - a.1))+((p.2 - a.2) * W - W * (b.2 - a.2)) * ((p.2 - a.2) * W - W * (b.2 - a.2))=W * (W * sqF b p):=by unfold sqF;grind
   have e2:m * m * W * W=W * (W * (m * m)):=by grind
   rw [e1,e2,yM h0,yM h0]
  ·rw [if_neg h2]
   have e:mx 0 (mn (alF p a b) (sqF a b))=alF p a b:=by
    have:mn (alF p a b) (sqF a b)=alF p a b:=by unfold mn;split <;> omega
    rw [this];unfold mx;split <;> omega
   rw [e]
   refine decide_eq_decide.mpr ?_
   have e1:((p.1 - a.1) * sqF a b - alF p a b * (b.1 - a.1)) * ((p.1 - a.1) * sqF a b - alF p a b * (b.1 - a.1))+((p.2 - a.2) * sqF a b - alF p a b * (b.2 - a.2)) * ((p.2 - a.2) * sqF a b - alF p a b * (b.2 - a.2))=sqF a b * (jg a b p * jg a b p):=by unfold sqF alF jg;grind
   have e2:m * m * sqF a b * sqF a b=sqF a b * (m * m * sqF a b):=by grind
   rw [e1,e2,yM h0]
noncomputable def zD (ps:List Pt) (m:Int) (i j:Nat):Bool:=((ps.take j).drop (i+1)).all fun p=>nearF m p (atP ps i) (atP ps j)
theorem vj {ps:List Pt} {m:Int} {i j:Nat} (hj:j<=ps.length):zD ps m i j=true↔∀ t,i<t->t<j->nearF m (atP ps t) (atP ps i) (atP ps j)=true:=by
 unfold zD
 rw [ahY]
 constructor
 ·intro h t h1 h2
  refine h _ (agJ (i:=t - (i+1)) ?_)
  rw [aiE,ahE (by omega),show i+1+(t - (i+1))=t by omega]
  unfold atP
  rw [agp,agq (by omega)]
  rfl
 ·intro h p hp
  obtain⟨n,hn,rfl⟩:=aht hp
  rw [ail,ag8] at hn
  have:=h (i+1+n) (by omega) (by omega)
  rw [List.getElem_drop,List.getElem_take]
  unfold atP at this
  rw [agp,agq (by omega)] at this
  exact this
noncomputable def Ed (ps:List Pt) (m:Int) (i j:Nat):Prop:=i<j/\zD ps m i j=true
inductive Path (E:Nat->Nat->Prop) (i:Nat):Nat->Nat->Prop where
 | one:Path E i i 1
 | snoc {k j c:Nat}:Path E i k c->E k j->Path E i j (c+1)
theorem Path.cons {E:Nat->Nat->Prop} {i k j c:Nat} (e:E i k) (p:Path E k j c):Path E i j (c+1):=by
 induction p with
 | one=>exact .snoc .one e
 | snoc _ e2 ih=>exact .snoc ih e2
noncomputable def Least (E:Nat->Nat->Prop) (i j c:Nat):Prop:=Path E i j c/\∀ c',Path E i j c'->c<=c'
theorem Least.one {E:Nat->Nat->Prop} {i j c c':Nat} (a:Least E i j c) (b:Least E i j c'):c=c':=Nat.le_antisymm (a.2 _ b.1) (b.2 _ a.1)
theorem qh (g:Nat->Int):∀ n,0<n->∃ i,i<n/\∀ j,j<n->g i<=g j/\(j<i->g i<g j)
 | 0,h=>absurd h (ahD _)
 | 1,_=>⟨0,by omega,fun j hj=>by
   have z:j=0:=Nat.lt_one_iff.mp hj
   subst z
   exact⟨ajr _,fun h=>absurd h (ahD _)⟩⟩
 | n+2,_=>by
  obtain⟨i,hi,h⟩:=qh g (n+1) (by omega)
  by_cases hc:g (n+1)<g i
  ·refine⟨n+1,by omega,fun j hj=>?_⟩
   by_cases e:j=n+1
   ·subst e;exact⟨ajr _,fun h=>absurd h (ahD _)⟩
   ·have:=(h j (by omega)).1
    exact⟨by omega,fun _=>by omega⟩
  ·refine⟨i,by omega,fun j hj=>?_⟩
   by_cases e:j=n+1
   ·subst e;exact⟨by omega,fun h=>by omega⟩
   ·exact h j (by omega)
theorem adl {ks ns:List Int} (h:ns≠[]):∃ M,yp ks ns M:=by
 obtain⟨i,hi,hb⟩:=qh (ixK ks ns) ns.length (List.length_pos_iff.mpr h)
 exact⟨ns[i],i,agq hi,hb⟩
theorem aaU {ks ns:List Int} {M M':Int} (h:yp ks ns M) (h':yp ks ns M'):M=M':=by
 obtain⟨i,e,hb⟩:=h
 obtain⟨i',e',hb'⟩:=h'
 have hi:=(agu.mp e).1
 have hi':=(agu.mp e').1
 have:i=i':=by
  rcases Nat.lt_trichotomy i i' with z | z | z
  ·have h1:=(hb' i hi).2 z
   have h2:=(hb i' hi').1
   omega
  ·exact z
  ·have h1:=(hb i' hi').2 z
   have h2:=(hb' i hi).1
   omega
 subst this
 rw [e] at e'
 exact Option.some.inj e'
noncomputable def bestOf (ks ns:List Int):Int:=Classical.epsilon (yp ks ns)
theorem ace {ks ns:List Int} (h:ns≠[]):yp ks ns (bestOf ks ns):=aiY (adl h)
theorem aed {ks ns:List Int} {M:Int} (h:yp ks ns M):bestOf ks ns=M:=aaU (aiY ⟨M,h⟩) h
theorem vk {ks ns:List Int} {M:Int} (h:yp ks ns M):M∈ns/\∀ n∈ns,ks.getD M.toNat 0<=ks.getD n.toNat 0:=by
 obtain⟨i,e,hb⟩:=h
 refine⟨agJ e,fun n hn=>?_⟩
 obtain⟨j,hj,rfl⟩:=aht hn
 have:=(hb j hj).1
 unfold ixK at this
 rw [agp (l:=ns),e,agp (l:=ns),agq hj] at this
 exact this
noncomputable def usF (ps:List Pt) (m:Int) (j:Nat):List Int:=((agK j).filter fun i=>zD ps m i j).map fun i=>((i:Nat):Int)
theorem us_mem {ps:List Pt} {m:Int} {j:Nat} {n:Int}:n∈usF ps m j↔∃ i:Nat,n=i/\i<j/\zD ps m i j=true:=by
 unfold usF
 rw [ahf]
 constructor
 ·rintro⟨i,hi,rfl⟩
  rw [aiu,agS] at hi
  exact⟨i,rfl,hi.1,hi.2⟩
 ·rintro⟨i,rfl,h1,h2⟩
  exact⟨i,by rw [aiu,agS];exact⟨h1,h2⟩,rfl⟩
theorem qO (ps:List Pt) (m:Int) (j:Nat):zD ps m j (j+1)=true:=by
 unfold zD
 rw [List.drop_eq_nil_of_le (by rw [ag8];omega)]
 rfl
theorem aeK (ps:List Pt) (m:Int) (j:Nat):usF ps m (j+1)≠[]:=fun e=>by
 have:(j:Int)∈usF ps m (j+1):=us_mem.mpr ⟨j,rfl,ain j,qO ps m j⟩
 rw [e] at this
 cases this
noncomputable def dpF (ps:List Pt) (m:Int):Nat->List Int×List Int
 | 0=>([1],[])
 | j+1=>((dpF ps m j).1++[(dpF ps m j).1.getD (bestOf (dpF ps m j).1 (usF ps m (j+1))).toNat 0+1],(dpF ps m j).2++[bestOf (dpF ps m j).1 (usF ps m (j+1))])
structure DpOk (ps:List Pt) (m:Int) (j:Nat) (fw la:List Int):Prop where
 fl:fw.length=j+1
 ll:la.length=j
 least:∀ i,i<=j->∃ c:Nat,fw[i]?=some (c:Int)/\Least (Ed ps m) 0 i c
 last:∀ i,i<j->∃ b:Nat,la[i]?=some (b:Int)/\Ed ps m b (i+1)/\fw.getD (i+1) 0=fw.getD b 0+1
theorem aaf (ps:List Pt) (m:Int):∀ j,DpOk ps m j (dpF ps m j).1 (dpF ps m j).2
 | 0=>⟨rfl,rfl,fun i hi=>by
   have:i=0:=by omega
   subst this
   exact⟨1,rfl,.one,fun c' p=>by cases p with | one=>exact agv _ | snoc _ e=>exact absurd e.1 (ag6 _)⟩,fun i hi=>absurd hi (ag6 _)⟩
 | j+1=>by
  have D:=aaf ps m j
  obtain⟨fl,ll,le,la⟩:=D
  have bs:=vk (ace (ks:=(dpF ps m j).1) (aeK ps m j))
  obtain⟨b,eb,hb,sb⟩:=us_mem.mp bs.1
  have fwb:(dpF ps m (j+1)).1=(dpF ps m j).1++[(dpF ps m j).1.getD b 0+1]:=by
   show (dpF ps m j).1++[_]=_
   rw [eb,agQ]
  have lab:(dpF ps m (j+1)).2=(dpF ps m j).2++[((b:Nat):Int)]:=by
   show (dpF ps m j).2++[_]=_
   rw [eb]
  rw [fwb,lab]
  have gd:∀ i,i<=j->((dpF ps m j).1++[(dpF ps m j).1.getD b 0+1]).getD i 0=(dpF ps m j).1.getD i 0:=fun i hi=>by
   rw [agp,agx (by omega),agp]
  have gl:((dpF ps m j).1++[(dpF ps m j).1.getD b 0+1]).getD (j+1) 0=(dpF ps m j).1.getD b 0+1:=by
   rw [agp,agA (by omega),fl]
   simp
  obtain⟨cb,ecb,lb⟩:=le b (by omega)
  have gb:(dpF ps m j).1.getD b 0=cb:=by rw [agp,ecb];rfl
  refine⟨by rw [agL,fl];rfl,by rw [agL,ll];rfl,fun i hi=>?_,fun i hi=>?_⟩
  ·by_cases e:i=j+1
   ·subst e
    refine⟨cb+1,?_,.snoc lb.1 ⟨hb,sb⟩,fun c' p=>?_⟩
    ·rw [agA (by omega),fl,ahw,gb]
     rfl
    ·cases p with
     | snoc q e =>
      rename_i k c
      obtain⟨ck,eck,lk⟩:=le k (by have:=e.1;omega)
      have h1:=bs.2 (k:Int) (us_mem.mpr ⟨k,rfl,e.1,e.2⟩)
      rw [eb,agQ,agQ,gb,agp,eck] at h1
      have h2:=lk.2 _ q
      have h3:(cb:Int)<=(ck:Int):=h1
      omega
   ·obtain⟨c,e1,l1⟩:=le i (by omega)
    exact⟨c,by rw [agx (by omega)];exact e1,l1⟩
  ·by_cases e:i=j
   ·subst e
    refine⟨b,by rw [agA (by omega),ll,ahw];rfl,⟨hb,sb⟩,?_⟩
    rw [gl,gd b (by omega)]
   ·obtain⟨b',e1,e2,e3⟩:=la i (by omega)
    refine⟨b',by rw [agx (by omega)];exact e1,e2,?_⟩
    rw [gd (i+1) (by omega),gd b' (by have:=e2.1;omega)]
    exact e3
inductive Row (E:Nat->Nat->Prop):List Nat->Nat->Prop where
 | one:Row E [0] 0
 | snoc {r:List Nat} {k j:Nat}:Row E r k->E k j->Row E (r++[j]) j
theorem Row.facts {E:Nat->Nat->Prop} {r:List Nat} {j:Nat} (h:Row E r j):r[0]?=some 0/\r[r.length - 1]?=some j/\0<r.length/\∀ t,t+1<r.length->E (r.getD t 0) (r.getD (t+1) 0):=by
 induction h with
 | one=>exact⟨rfl,rfl,ahZ _,fun t ht=>by simp at ht⟩
 | snoc q e ih =>
  rename_i r k j
  obtain⟨a,b,c,d⟩:=ih
  refine⟨by rw [agx c];exact a,by rw [agL,agA (by simp)];simp,by simp,fun t ht=>?_⟩
  rw [agL] at ht
  have ht':t+1<=r.length:=Nat.le_of_lt_succ ht
  by_cases z:t+1=r.length
  ·have e1:(r++[j]).getD t 0=k:=by
    rw [agp,agx (by omega),show t=r.length - 1 by omega,b]
    rfl
   have e2:(r++[j]).getD (t+1) 0=j:=by
    rw [agp,agA (by omega),z,ahw]
    rfl
   rw [e1,e2]
   exact e
  ·have:=d t (by omega)
   rw [agp,agx (by omega),agp,agx (by omega),<- agp,<- agp]
   exact this
theorem Row.bnd {ps:List Pt} {m:Int} {r:List Nat} {j:Nat} (h:Row (Ed ps m) r j):(∀ i∈r,i<=j)/\r.length<=j+1:=by
 induction h with
 | one=>exact⟨fun i hi=>by rw [agO.mp hi];exact agv _,agv _⟩
 | snoc q e ih =>
  have:=e.1
  refine⟨fun i hi=>?_,by rw [agL];show _+1<=_;omega⟩
  rcases ag5.mp hi with hi | hi
  ·have:=ih.1 i hi;omega
  ·rw [agO.mp hi];omega
noncomputable def vE (la:List Int):Nat->Nat->List Nat
 | 0,_=>[]
 | _+1,0=>[0]
 | n+1,a+1=>vE la n (la.getD a 0).toNat++[a+1]
theorem abx {ps:List Pt} {m:Int} {j:Nat} {fw la:List Int} (D:DpOk ps m j fw la):∀ (n a:Nat),a<=j->a<n->Row (Ed ps m) (vE la n a) a/\fw.getD a 0=(vE la n a).length
 | n+1,0,_,_=>⟨.one,by
   obtain⟨c,e,l⟩:=D.least 0 (agT _)
   have e1:c=1:=by
    have h1:=l.2 1 .one
    have h2:0<c:=by
     cases l.1 with
     | one=>exact ahZ _
     | snoc _ _=>exact ahZ _
    omega
   rw [agp,e,e1]
   rfl⟩
 | n+1,a+1,h1,h2=>by
  obtain⟨b,e,ed,f⟩:=D.last a (by omega)
  have hb:=ed.1
  obtain⟨r,l⟩:=abx D n b (by omega) (by omega)
  have eg:(la.getD a 0).toNat=b:=by rw [agp,e];rfl
  show Row _ (vE la n (la.getD a 0).toNat++[a+1]) _/\_=((vE la n (la.getD a 0).toNat++[a+1]).length:Int)
  rw [eg]
  refine⟨.snoc r ed,?_⟩
  rw [f,l,agL]
  rfl
 | 0,a,_,h=>absurd h (ag6 _)
noncomputable def yc (ps:List Pt) (m:Int):List Nat:=vE (dpF ps m (ps.length - 1)).2 ps.length (ps.length - 1)
noncomputable def jJ (ps:List Pt) (m:Int):Int:=(dpF ps m (ps.length - 1)).1.getD (ps.length - 1) 0
theorem jK (ps:List Pt) (m:Int) (h:0<ps.length):Row (Ed ps m) (yc ps m) (ps.length - 1)/\jJ ps m=(yc ps m).length :=
 abx (aaf ps m (ps.length - 1)) ps.length (ps.length - 1) (agv _) (by omega)
theorem acf (ps:List Pt) (m:Int) (h:0<ps.length):Least (Ed ps m) 0 (ps.length - 1) (yc ps m).length:=by
 obtain⟨c,e,l⟩:=(aaf ps m (ps.length - 1)).least (ps.length - 1) (agv _)
 have:=(jK ps m h).2
 unfold jJ at this
 rw [agp,e] at this
 have h3:(c:Int)=((yc ps m).length:Nat):=this
 have h4:c=(yc ps m).length:=by omega
 rw [<-h4]
 exact l
noncomputable def top (i:Nat):Stmt:=PySem.Challenge.pw_heightrings_k63_least_kept.main.body.getD i (.Pass ⟨0,0,0,0⟩)
noncomputable abbrev vF:=top 1
noncomputable abbrev afB:List Str:=pd
theorem aee:FnScope afB pd (zh vF):=by walk_at "s"
noncomputable abbrev yB:=top 2
noncomputable abbrev aag:List Str:=["point","start","end","bound","x","y","a","b","c","d","squared","along"]
theorem sc_lies_near:FnScope aag pj (zh yB):=by walk_at "s"
noncomputable abbrev yq:=top 4
noncomputable abbrev vG:List Str:=["points","bound","fewest","last_ahead","at","usable","best"]
theorem sc_least_kept:FnScope vG pq (zh yq):=by walk_at "s"
noncomputable abbrev qt:=top 5
noncomputable abbrev aef:List Str:=["points","start","end","bound","point"]
theorem sc_spans:FnScope aef pz (zh qt):=by walk_at "s"
noncomputable abbrev zX:=top 6
noncomputable abbrev j5:List Str:=["last_ahead","way","at"]
theorem sc_way_to_the_end:FnScope j5 pA (zh zX):=by walk_at "s"
noncomputable abbrev yV:=top 8
noncomputable abbrev jA:List Str:=["_law_script","_law_k","_law_cell"]
theorem sc_law_feed:FnScope jA pB (zh yV):=by walk_at "s"
noncomputable abbrev yW:=top 9
noncomputable abbrev aaV:List Str:=["_law_feed_here","_law_many","_law_found"]
theorem sc_law_draw:FnScope aaV pf (zh yW):=by walk_at "s"
noncomputable abbrev yr:=top 10
noncomputable abbrev vH:List Str:=["_law_feed_here","_law_most","_law_many","_law_wide","_law_high","_law_on","_law_points_here","_law_k","_law_by","_law_far"]
theorem sc_law_points:FnScope vH pC (zh yr):=by walk_at "s"
noncomputable abbrev yX:=top 11
noncomputable abbrev aaW:List Str:=["_law_one","_law_other","_law_point","_law_bound","_law_wide","_law_high","_law_whole","_law_along","_law_over","_law_down"]
theorem sc_law_near:FnScope aaW pD (zh yX):=by walk_at "s"
noncomputable abbrev yY:=top 12
noncomputable abbrev aaX:List Str:=["_law_points_here","_law_j","_law_k","_law_bound","_law_at"]
theorem sc_law_lets:FnScope aaX ph (zh yY):=by walk_at "s"
noncomputable abbrev yC:=top 13
noncomputable abbrev aah:List Str:=["_law_points_here","_law_bound","_law_last","_law_many","_law_back","_law_j","_law_best","_law_k"]
theorem sc_law_least:FnScope aah pE (zh yC):=by walk_at "s"
noncomputable abbrev yD:=top 14
noncomputable abbrev aai:List Str:=["_law_points_here","_law_bound","_law_found","_law_many","_law_places","_law_at"]
theorem sc_law_right:FnScope aai pF (zh yD):=by walk_at "s"
noncomputable abbrev qi:=top 15
noncomputable abbrev aby:List Str:=["_law_script","_law_k","_law_feed_here","_law_by","_law_points_here","_law_bound","_law_kept","_law_found","_law_due"]
theorem sc_law:FnScope aby pG (zh qi):=by walk_at "s"
local macro_rules | `(tactic| walk_at "dl")=>`(tactic| first
 | (with_reducible show PSd _ _ (y3 _ (abH (yE _) (tC (V.int 0)) va)) _ _;refine adO rfl ?_)
 | (with_reducible show PSd _ _ (y3 _ (abH (yE _) (tC (V.int 1)) va)) _ _;refine adP rfl ?_)
 | with_reducible refine yz ?_ | with_reducible refine vU ?_ | with_reducible refine qe ?_ | with_reducible refine y2 ?_ | with_reducible refine s_drop ?_ | with_reducible refine j9 ?_
 | with_reducible refine zu ?_ | with_reducible refine vV rfl ?_ | with_reducible refine ym ?_ | with_reducible refine qD ?_
 | with_reducible refine yv ?_ | with_reducible refine t_b ?_ | with_reducible refine aeC ?_ | with_reducible refine aaz ?_ | with_reducible refine qC ?_ | with_reducible refine jq ?_
 | with_reducible refine d_chain ?_ | with_reducible refine aeA ?_ | with_reducible refine ya ?_ | with_reducible refine yu ?_ | with_reducible refine jC ?_
 | with_reducible refine d_if ?_ | with_reducible refine d_andV ?_ | with_reducible refine d_orV ?_ | with_reducible refine d_notV ?_
 | with_reducible refine zr ?_ | with_reducible refine abS ?_ | with_reducible refine d_str ?_ | with_reducible refine aez ?_
 | (with_reducible show PEd _ _ (yE _) _ _;refine zf rfl ?_)
 | (with_reducible show PEd _ _ (tOp (abO _) (yE _) _) _ _;refine afO rfl ?_)
 | with_reducible refine yb ?_ | with_reducible refine aeB ?_
 | (with_reducible show PAd _ _ (zY (yE _) _) _ _;refine aay rfl ?_)
 | with_reducible refine zc ?_ | with_reducible refine zz ?_
 | with_reducible refine d_catT ?_ | with_reducible refine acL ?_ | with_reducible refine aeE ?_ | with_reducible refine abg ?_ | with_reducible refine afh ?_ | with_reducible refine d_tupof ?_ | with_reducible refine acI ?_
 | with_reducible refine abd ?_ | with_reducible refine j8 ?_ | with_reducible refine jc ?_ | with_reducible refine d_minL ?_ | with_reducible refine d_maxL ?_ | with_reducible refine ae8 ?_ | with_reducible refine ae9 ?_
 | (with_reducible show (∃ _,_) \/ (∃ _,_);first | refine Or.inl ⟨_,rfl,?_⟩ | refine Or.inr ⟨_,rfl,?_⟩) | refine⟨_,rfl,?_⟩ | refine⟨_,_,rfl,?_⟩
 | (with_reducible show (_=_/\∀ _,_) \/ _;first | refine Or.inl ⟨rfl,fun a ha=>?_⟩ | refine Or.inr ⟨rfl,fun b hb hb'=>?_⟩)
 | (with_reducible show PyData.canLay0 _=true/\_;refine And.intro (by first | rfl | assumption | decide +kernel) ?_)
 | (with_reducible show min _ _<=60/\_;refine And.intro (by first | assumption | (simp [PyData.depth,ahs];done)) ?_)
 | refine⟨rfl,?_⟩
 | (refine And.intro ?side ?_;(case side=>first | omega | exact Int.ediv_nonneg (by omega) (by omega) | exact ai2 _ (by omega) | exact ahR _ (by omega) | decide | exact⟨by decide,by decide,by decide⟩ | exact⟨by omega,by omega⟩ | exact Or.inl ⟨by omega,by omega⟩ | exact Or.inr ⟨by omega,by omega⟩ | (refine ag2 (aiV (by rfl)) (show _<=1000 by decide)) | ((repeat' apply And.intro) <;> first | rfl | omega | decide | assumption) | (simp [PyData.depth]))))
theorem aaj {b:Bool} {p q:Prop} (h1:b=true->p) (h2:b=false->q):if b=true then p else q:=by
 cases b with
 | true=>rw [if_pos rfl];exact h1 rfl
 | false=>rw [if_neg agz];exact h2 rfl
structure Near (o p:Pt):Prop where
 a:o.1<=p.1
 b:p.1<=o.1+4398046511104
 c:o.2<=p.2
 d:p.2<=o.2+4398046511104
theorem bnd {B:Int} {x y:Int} (h1:-B<=x) (h2:x<=B) (h3:-B<=y) (h4:y<=B):-(B * B)<=x * y/\x * y<=B * B:=by
 have hB:0<=B:=by omega
 have a:x.natAbs<=B.natAbs:=by omega
 have b:y.natAbs<=B.natAbs:=by omega
 have c:(x * y).natAbs<=(B * B).natAbs:=by rw [aiH,aiH];exact Nat.mul_le_mul a b
 have d:0<=B * B:=aif hB hB
 omega
theorem aaY {o a b c:Pt} (ha:Near o a) (hb:Near o b) (hc:Near o c):-(1267650600228229401496703205376)<jg a b c/\jg a b c<1267650600228229401496703205376:=by
 obtain⟨a1,a2,a3,a4⟩:=ha
 obtain⟨b1,b2,b3,b4⟩:=hb
 obtain⟨c1,c2,c3,c4⟩:=hc
 have e1:=bnd (B:=4398046511104) (x:=b.1 - a.1) (y:=c.2 - a.2) (by omega) (by omega) (by omega) (by omega)
 have e2:=bnd (B:=4398046511104) (x:=b.2 - a.2) (y:=c.1 - a.1) (by omega) (by omega) (by omega) (by omega)
 unfold jg
 omega
section
variable {P:Program} {w:World} {K:ags} {mg:Str->Option Value} {base:Heap} {k:Nat}
noncomputable abbrev adm (K:ags):Sp:=spD K 3 (fun (c:Pt×Pt×Pt×Pt) xs=>xs=[.dat (ptD c.2.1),.dat (ptD c.2.2.1),.dat (ptD c.2.2.2)]/\Near c.1 c.2.1/\Near c.1 c.2.2.1/\Near c.1 c.2.2.2) fun c r=>r=.int (jg c.2.1 c.2.2.1 c.2.2.2)
theorem aeg (F:Def K mg "turn" vF pd):FnIn P w K mg base (k+1) "turn" pd (adm K):=by
 refine F.ok aee rfl fun fa cdv A outer s H E hr=>⟨_,(zm (zF (zg zB (zg yP (zg zB (zv (zC (K:=K) rfl) (pv 1) zb (fun _ _=>rfl)) (zv (zC (K:=K) rfl) (pv 0) zb (fun _ _=>rfl))) (zg zB (zv (zC (K:=K) rfl) (pv 2) zb (fun _ _=>rfl)) (zv (zC (K:=K) rfl) (pv 0) zb (fun _ _=>rfl)))) (zg yP (zg zB (zv (zC (K:=K) rfl) (pv 1) zb (fun _ _=>rfl)) (zv (zC (K:=K) rfl) (pv 0) zb (fun _ _=>rfl))) (zg zB (zv (zC (K:=K) rfl) (pv 2) zb (fun _ _=>rfl)) (zv (zC (K:=K) rfl) (pv 0) zb (fun _ _=>rfl))))))),?_⟩
 rintro f xs ⟨o,a,b,c⟩ hl ⟨rfl,⟨a1,a2,a3,a4⟩,⟨b1,b2,b3,b4⟩,⟨c1,c2,c3,c4⟩⟩
 try dsimp only [yF,zj]
 unfold ptD
 dsimp only at *
 walk_at "w"
 rfl
noncomputable abbrev adn (K:ags):Sp:=spD K 4 (fun (c:Pt×Pt×Pt×Pt×Int) xs=>xs=[.dat (ptD c.2.1),.dat (ptD c.2.2.1),.dat (ptD c.2.2.2.1),.dat (.int c.2.2.2.2)]/\Near c.1 c.2.1/\Near c.1 c.2.2.1/\Near c.1 c.2.2.2.1/\0<=c.2.2.2.2/\c.2.2.2.2<=10 ^ 60) fun c r=>r=.bool (nearF c.2.2.2.2 c.2.1 c.2.2.1 c.2.2.2.1)
theorem aaZ (x:Int):x ^ aiT 2=x * x:=by rw [show aiT 2=2 from rfl,Int.pow_succ,Int.pow_succ,Int.pow_zero,Int.one_mul]
theorem ado {x:Int} {n:Nat} (h0:-(2 ^ n:Nat)<x) (h1:x<(2 ^ n:Nat)) (hn:n<=1000):x.natAbs<2 ^ 1000:=by
 have:x.natAbs<2 ^ n:=by omega
 exact agG this (ais (by decide) hn)
theorem s43 {x:Int} (h0:-4398046511104<=x) (h1:x<=4398046511104):x.natAbs<2 ^ 1000:=ado (n:=43) (by show -(8796093022208:Int)<x;omega) (by show x<(8796093022208:Int);omega) (by decide)
theorem aeh (F:Def K mg "lies_near" yB pj) (uaB:FnIn P w K mg base k "turn" pd (adm K)):FnIn P w K mg base (k+1) "lies_near" pj (adn K):=by
 refine F.ok sc_lies_near rfl fun fa cdv A outer s H E hr=>⟨_,(zd (jO (jT (za (pv 0) (za (pv 1) (za (pv 2) ze)))) (yT (K:=K) (n:=3) rfl rfl (zI (yT (K:=K) (n:=2) rfl rfl (zI (zE (i:=4) sc_lies_near.nd rfl (Or.inl rfl) (Or.inr rfl)) (zI (zE (i:=5) sc_lies_near.nd rfl (Or.inl rfl) (Or.inr rfl)) yN))) (zI (yT (K:=K) (n:=2) rfl rfl (zI (zE (i:=6) sc_lies_near.nd rfl (Or.inl rfl) (Or.inr rfl)) (zI (zE (i:=7) sc_lies_near.nd rfl (Or.inl rfl) (Or.inr rfl)) yN))) (zI (yT (K:=K) (n:=2) rfl rfl (zI (zE (i:=8) sc_lies_near.nd rfl (Or.inl rfl) (Or.inr rfl)) (zI (zE (i:=9) sc_lies_near.nd rfl (Or.inl rfl) (Or.inr rfl)) yN))) yN))))) (zd (zy (i:=10) sc_lies_near.nd rfl (Or.inl rfl) (zg zK (zg yf (zg zB (pv 8) (pv 6)) zb) (zg yf (zg zB (pv 9) (pv 7)) zb))) (zd (zy (i:=11) sc_lies_near.nd rfl (Or.inl rfl) (zg zK (zg zO (zg zB (pv 4) (pv 6)) (zg zB (pv 8) (pv 6))) (zg zO (zg zB (pv 5) (pv 7)) (zg zB (pv 9) (pv 7))))) (zd (yH (zV vN (pv 11) zb (zP _)) (zm (zF (ji vN (zg zK (zg yf (zg zB (pv 4) (pv 6)) zb) (zg yf (zg zB (pv 5) (pv 7)) zb)) (zg yf (pv 3) zb) (zP _)))) zU) (zd (yH (zV aev (pv 11) (pv 10) (zP _)) (zm (zF (ji vN (zg zK (zg yf (zg zB (pv 4) (pv 8)) zb) (zg yf (zg zB (pv 5) (pv 9)) zb)) (zg yf (pv 3) zb) (zP _)))) zU) (zm (zF (ji vN (zg yf (zw uaB hr rfl (za (pv 1) (za (pv 2) (za (pv 0) ze)))) zb) (zg zO (zg yf (pv 3) zb) (pv 10)) (zP _))))))))),?_⟩
 rintro f xs ⟨o,p,a,b,m⟩ hl ⟨rfl,np,na,nb,m0,m1⟩
 have np':=np
 have na':=na
 have nb':=nb
 obtain⟨p1,p2,p3,p4⟩:=np'
 obtain⟨a1,a2,a3,a4⟩:=na'
 obtain⟨b1,b2,b3,b4⟩:=nb'
 try dsimp only [yF,zj]
 unfold ptD
 dsimp only at *
 have hm:m.natAbs<2 ^ 1000:=by
  have h1:(10:Nat) ^ 60<2 ^ 1000:=by decide +kernel
  have h2:m.natAbs<=10 ^ 60:=by
   have:((10:Int) ^ 60)=(((10:Nat) ^ 60:Nat):Int):=by decide +kernel
   omega
  omega
 have s1:∀ {x y:Int},o.1<=x->x<=o.1+4398046511104->o.1<=y->y<=o.1+4398046511104->(x - y).natAbs<2 ^ 1000:=fun h1 h2 h3 h4=>s43 (by omega) (by omega)
 have s2:∀ {x y:Int},o.2<=x->x<=o.2+4398046511104->o.2<=y->y<=o.2+4398046511104->(x - y).natAbs<2 ^ 1000:=fun h1 h2 h3 h4=>s43 (by omega) (by omega)
 have hu:∀ {x:Int},x.natAbs<2 ^ 1000->x.natAbs<ab3:=fun h=>qr h (by decide)
 have fin:∀ {r:PyData},r=.bool (if alF p a b<=0 then decide (sqF a p<=m * m) else if sqF a b<=alF p a b then decide (sqF b p<=m * m) else decide (jg a b p * jg a b p<=m * m * sqF a b))->r=.bool (nearF m p a b):=fun h=>h
 have e1:∀ x y:Int,x ^ aiT 2+y ^ aiT 2=x * x+y * y:=fun x y=>by rw [aaZ,aaZ]
 repeat (first | walk_at "dl" | (refine⟨⟨rfl,by first | assumption | exact s1 (by assumption) (by assumption) (by assumption) (by assumption) | exact s2 (by assumption) (by assumption) (by assumption) (by assumption)⟩,?_⟩) | (refine⟨⟨hu (by first | exact s1 (by assumption) (by assumption) (by assumption) (by assumption) | exact s2 (by assumption) (by assumption) (by assumption) (by assumption)),hu (by first | exact s1 (by assumption) (by assumption) (by assumption) (by assumption) | exact s2 (by assumption) (by assumption) (by assumption) (by assumption))⟩,?_⟩))
 rw [e1]
 have eA:(p.1 - a.1) * (b.1 - a.1)+(p.2 - a.2) * (b.2 - a.2)=alF p a b:=rfl
 have eS:(b.1 - a.1) * (b.1 - a.1)+(b.2 - a.2) * (b.2 - a.2)=sqF a b:=rfl
 rw [eA,eS]
 refine aaj (fun h=>?_) fun h=>?_
 ·repeat (first | walk_at "dl" | (refine⟨⟨rfl,by first | assumption | exact s1 (by assumption) (by assumption) (by assumption) (by assumption) | exact s2 (by assumption) (by assumption) (by assumption) (by assumption)⟩,?_⟩))
  refine fin ?_
  rw [if_pos (of_decide_eq_true h),e1,aaZ]
  rfl
 ·have h':=of_decide_eq_false h
  walk_at "w"
  refine aaj (fun h2=>?_) fun h2=>?_
  ·repeat (first | walk_at "dl" | (refine⟨⟨rfl,by first | assumption | exact s1 (by assumption) (by assumption) (by assumption) (by assumption) | exact s2 (by assumption) (by assumption) (by assumption) (by assumption)⟩,?_⟩))
   refine fin ?_
   rw [if_neg h',if_pos (of_decide_eq_true h2),e1,aaZ]
   rfl
  ·have h2':=of_decide_eq_false h2
   walk_at "w"
   refine zR (o,a,b,p) ?_
   walk_at "w"
   rintro _ rfl
   have ts:=aaY na nb np
   have q1:=bnd (B:=4398046511104) (x:=b.1 - a.1) (y:=b.1 - a.1) (by omega) (by omega) (by omega) (by omega)
   have q2:=bnd (B:=4398046511104) (x:=b.2 - a.2) (y:=b.2 - a.2) (by omega) (by omega) (by omega) (by omega)
   refine⟨_,rfl,zr ⟨_,rfl,⟨rfl,by dsimp only;exact ado (n:=100) (by show -(1267650600228229401496703205376:Int)<_;exact ts.1) (by show _<(1267650600228229401496703205376:Int);exact ts.2) (by decide)⟩,_,rfl,?_⟩⟩
   have cm:CMulH (m ^ aiT 2) (sqF a b):=by
    refine⟨?_,?_⟩
    ·rw [aaZ,aiH]
     have h3:(10:Nat) ^ 60<2 ^ 1000:=by decide +kernel
     exact qr (m:=2000) (Nat.lt_of_lt_of_eq (Nat.mul_lt_mul'' hm hm) (by rw [<-Nat.pow_add])) (by decide)
    ·refine hu (ado (n:=100) ?_ ?_ (by decide))
     ·show -(1267650600228229401496703205376:Int)<_
      rw [<-eS]
      omega
     ·show _<(1267650600228229401496703205376:Int)
      rw [<-eS]
      omega
   refine yu (yu (zf rfl ⟨_,rfl,zr ⟨_,rfl,⟨rfl,hm⟩,_,rfl,zf rfl ⟨_,rfl,cm,_,rfl,?_⟩⟩⟩))
   refine fin ?_
   rw [if_neg h',if_neg h2',aaZ,aaZ]
noncomputable abbrev abz (K:ags):Sp:=spD K 4 (fun (c:Pt×List Pt×Nat×Nat×Int) xs=>xs=[.dat (.list (c.2.1.map ptD)),.dat (.int c.2.2.1),.dat (.int c.2.2.2.1),.dat (.int c.2.2.2.2)]/\(∀ p∈c.2.1,Near c.1 p)/\c.2.2.1<c.2.2.2.1/\c.2.2.2.1<c.2.1.length/\c.2.1.length<=60/\0<=c.2.2.2.2/\c.2.2.2.2<=10 ^ 60) fun c r=>r=.bool (zD c.2.1 c.2.2.2.2 c.2.2.1 c.2.2.2.1)
theorem aak {ps:List Pt} {i:Nat} (hi:i<ps.length):atI (ps.map ptD) (i:Int)=some (ptD (atP ps i)):=by
 unfold atI ixN
 rw [if_pos (by omega),if_pos (by rw [agr];omega)]
 show (ps.map ptD)[_]?=_
 rw [agy,agQ,agq hi]
 unfold atP
 rw [agp,agq hi]
 rfl
theorem jL {o:Pt} {ps:List Pt} {i:Nat} (h:∀ p∈ps,Near o p) (hi:i<ps.length):Near o (atP ps i):=by
 unfold atP
 rw [agp,agq hi]
 exact h _ (ahx hi)
theorem aei {ps:List Pt} {i j:Nat} (h1:i+1<=j) (h2:j<=ps.length):L2.cutD (ps.map ptD) (some ((i:Int)+1)) (some (j:Int))=((ps.take j).drop (i+1)).map ptD:=by
 have e:((i:Int)+1)=((i+1:Nat):Int):=by omega
 rw [e]
 unfold L2.cutD
 have s1:HT.sIx (ps.map ptD).length 0 (some ((i+1:Nat):Int))=i+1:=by rw [HT.sIx_nat,agr,aiv (by omega)]
 have s2:HT.sIx (ps.map ptD).length (ps.map ptD).length (some (j:Int))=j:=by rw [HT.sIx_nat,agr,aiv (by omega)]
 rw [s1,s2,ajn,air,List.drop_take]
theorem adp (F:Def K mg "spans" qt pz) (uaC:FnIn P w K mg base k "lies_near" pj (adn K)):FnIn P w K mg base (k+1) "spans" pz (abz K):=by
 refine F.ok sc_spans rfl fun fa cdv A outer s H E hr=>⟨_,(zd (y8 ahh rfl (qG (K:=K) rfl (vP (vY (K:=K) rfl) (pv 0) (vp (zg zK (pv 1) zb)) (vp (pv 2)))) (zE (i:=4) sc_spans.nd rfl (Or.inl rfl) (Or.inr rfl)) (zm (yH (jN (yn (K:=K) rfl (zw uaC hr rfl (za (pv 4) (za (zv (zt (K:=K) rfl) (pv 0) (pv 1) (fun _ _=>rfl)) (za (zv (zt (K:=K) rfl) (pv 0) (pv 2) (fun _ _=>rfl)) (za (pv 3) ze))))) (fun _=>rfl))) (zm (zF y7)) zU))) (zm (zF y7))),?_⟩
 rintro f xs ⟨o,ps,i,j,m⟩ hl ⟨rfl,hn,hij,hj,h60,m0,m1⟩
 try dsimp only [yF,zj]
 dsimp only at *
 have ec:L2.cutD (ps.map ptD) (some ((i:Int)+1)) (some (j:Int))=((ps.take j).drop (i+1)).map ptD:=aei (by omega) (by omega)
 refine yz (abe (aaB (acL (zf rfl ⟨_,rfl,abg (ya (zf rfl ⟨_,rfl,zr ⟨_,rfl,_,rfl,abg (zf rfl ⟨_,rfl,?_⟩)⟩⟩))⟩))))
 rw [ec]
 refine⟨_,rfl,fun n ρ=>∃ x,ρ=[some (.dat (.list (ps.map ptD))),some (.dat (.int i)),some (.dat (.int j)),some (.dat (.int m)),x]/\(((ps.take j).drop (i+1)).take n).all (fun p=>nearF m p (atP ps i) (atP ps j))=true,⟨_,rfl,rfl⟩,?_,?_⟩
 ·rintro n d _ hd ⟨x,rfl,ha⟩
  rw [agy] at hd
  cases eq:((ps.take j).drop (i+1))[n]? with
  | none=>rw [eq] at hd;cases hd
  | some p =>
   rw [eq] at hd
   cases hd
   have hp:p∈ps:=ajf (List.mem_of_mem_drop (agJ eq))
   refine zu (vU (qC (jq (zR (o,p,atP ps i,atP ps j,m) (zc (zf rfl (zc (yb (zf rfl ⟨_,rfl,zf rfl ⟨_,rfl,_,aak (by omega),zc (yb (zf rfl ⟨_,rfl,zf rfl ⟨_,rfl,_,aak hj,zc (zf rfl (zz ⟨rfl,⟨rfl,hn p hp,jL hn (by omega),jL hn hj,m0,m1⟩,?_⟩))⟩⟩))⟩⟩)))))))))
   rintro _ rfl
   refine⟨_,rfl,?_⟩
   dsimp only
   cases en:nearF m p (atP ps i) (atP ps j) with
   | true =>
    rw [ahk,if_neg agz]
    refine j9 ⟨_,rfl,?_⟩
    rw [aic,eq,List.all_append,ha]
    show (true && (nearF m p (atP ps i) (atP ps j) && true))=true
    rw [en];rfl
   | false =>
    rw [ajd,if_pos rfl]
    refine qe (abS ?_)
    have:zD ps m i j=false:=by
     unfold zD
     rw [List.all_eq_false]
     exact⟨p,agJ eq,by rw [en];decide⟩
    rw [this]
 ·rintro _ ⟨x,rfl,ha⟩
  rw [agr,aio] at ha
  refine qe (abS ?_)
  show PyData.bool true=.bool (zD ps m i j)
  unfold zD
  rw [ha]
noncomputable def yd (la:List Int):List PyData:=.none :: la.map .int
theorem aej {la:List Int} {a:Nat} (h:a<la.length):atI (yd la) ((a+1:Nat):Int)=some (.int (la.getD a 0)):=by
 unfold atI ixN yd
 rw [if_pos (by omega),if_pos (by rw [agM,agr];omega)]
 show (PyData.none :: la.map .int)[_]?=_
 rw [agQ,aiR,agy,agp,agq h]
 rfl
theorem jE (la:List Int):atI (yd la) ((0:Nat):Int)=some .none:=by
 unfold atI ixN yd
 rw [if_pos (by omega),if_pos (by rw [agM];omega)]
 rfl
noncomputable def aal (la:List Int):Nat->Nat->List Nat
 | 0,_=>[]
 | _+1,0=>[0]
 | n+1,a+1=>(a+1) :: aal la n (la.getD a 0).toNat
theorem aam (la:List Int):∀ n a,(aal la n a).reverse=vE la n a
 | 0,_=>rfl
 | _+1,0=>rfl
 | n+1,a+1=>by
  show ((a+1) :: aal la n (la.getD a 0).toNat).reverse=_
  rw [agU,aam la n]
  rfl
noncomputable def af9 (ρ:zi):Nat:=match (ρ[2]?:Option (Option DV)) with | some (some (.dat (.int a)))=>a.toNat+1 | _=>0
noncomputable abbrev aeL (K:ags):Sp:=spN K 1 (fun (c:List Int) xs=>xs=[.dat (.list (yd c))]/\c.length<=60/\∀ i,i<c.length->∃ b:Nat,c[i]?=some (b:Int)/\b<=i) fun c es=>es=(vE c (c.length+1) c.length).map fun (i:Nat)=>.int i
theorem afC (F:Def K mg "way_to_the_end" zX pA) (uaa:mg "len"=none):FnIn P w K mg base (k+1) "way_to_the_end" pA (aeL K):=by
 refine F.okN sc_way_to_the_end rfl fun fa cdv A outer s H E hr=>⟨_,(zd (zy (i:=1) sc_way_to_the_end.nd rfl (Or.inl rfl) (yg ze)) (zd (zy (i:=2) sc_way_to_the_end.nd rfl (Or.inl rfl) (zg zB (zx (zH (K:=K) rfl) rfl uaa ag0 (za (pv 0) ze)) zb)) (zd (acn ahh (zV adC (pv 2) ack (zP _)) (zd (jB (vR ahp ahl ahm yJ (pv 1) (za (pv 2) ze))) (zm (zy (i:=2) sc_way_to_the_end.nd rfl (Or.inl rfl) (zv (zt (K:=K) rfl) (pv 0) (pv 2) (fun _ _=>rfl)))))) (zm (zF (adQ (K:=K) rfl (pv 1) (acp aas zb))))))),?_⟩
 rintro f xs la hl ⟨rfl,h60,hb⟩
 try dsimp only [yF,zj]
 refine ad0 (w:=w) (afp (qp (aeD ⟨show 1<3 by decide,fun D=>?_⟩)))
 show aaF w K f [D] _ [some (.dat (.list (yd la))),some (.own (f.M.length+0)),none] [OC.lst []] _
 refine ac0 (qg (jz (ya (jc (zc (zf rfl (zz (.inl ⟨_,rfl,_,rfl,zr ⟨_,rfl,?_⟩⟩))))))))
 have e0:(((yd la).length:Nat):Int) - 1=((la.length:Nat):Int):=by unfold yd;rw [agM,agr];omega
 rw [e0]
 refine ac0 (adZ (fun ρ cs=>(∃ (a n:Nat) (pre:List Nat),a<n/\a+pre.length<=la.length/\ρ=[some (.dat (.list (yd la))),some (.own (f.M.length+0)),some (.dat (.int a))]/\cs=[.lst (pre.map fun (i:Nat)=>.int i)]/\pre++aal la n a=aal la (la.length+1) la.length) \/
   (ρ=[some (.dat (.list (yd la))),some (.own (f.M.length+0)),some (.dat .none)]/\cs=[.lst ((aal la (la.length+1) la.length).map fun (i:Nat)=>.int i)]))
  (fun ρ _=>af9 ρ) (.inl ⟨la.length,la.length+1,[],by omega,by simp,rfl,rfl,rfl⟩) ?_)
 rintro _ _ (⟨a,n,pre,han,hpl,rfl,rfl,ew⟩ | ⟨rfl,rfl⟩)
 ·refine af2 (yv (abt (zf rfl (.inr ⟨_,rfl,_,rfl,?_⟩))))
  rw [if_pos rfl]
  obtain⟨n,rfl⟩:∃ n',n=n'+1:=⟨n - 1,by omega⟩
  refine qf (acZ (j:=0) rfl rfl (by rw [agr];omega) (jz (zf rfl ?_)))
  cases a with
  | zero =>
   refine qg (jz (yb (zf rfl ⟨_,rfl,zf rfl ⟨_,rfl,.none,jE la,.inr ⟨rfl,?_⟩,by show 0<_;exact ahZ _⟩⟩)))
   rw [<-ew]
   show [OC.lst (pre.map (fun (i:Nat)=>PyData.int i)++[.int ((0:Nat):Int)])]=_
   rw [ahg]
   rfl
  | succ a =>
   obtain⟨b,eb,hba⟩:=hb a (by omega)
   have eg:la.getD a 0=(b:Int):=by rw [agp,eb];rfl
   refine qg (jz (yb (zf rfl ⟨_,rfl,zf rfl ⟨_,rfl,_,aej (by omega),.inl ⟨b,n,pre++[a+1],by omega,by rw [agL];show b+(pre.length+1)<=_;omega,?_,?_,?_⟩,?_⟩⟩)))
   ·rw [eg];rfl
   ·show [OC.lst (pre.map (fun (i:Nat)=>PyData.int i)++[.int ((a+1:Nat):Int)])]=_
    rw [ahg]
    rfl
   ·rw [<-ew]
    show _=pre++((a+1) :: aal la n (la.getD a 0).toNat)
    rw [eg,aiO]
    rfl
   ·rw [eg]
    show ((b:Int)).toNat+1<((a+1:Nat):Int).toNat+1
    omega
 ·refine af2 (yv (abt (zf rfl (.inl ⟨rfl,_,rfl,?_⟩))))
  rw [if_neg agz]
  refine ad1 ?_
  generalize hfu:(aal la (la.length+1) la.length).map (fun (i:Nat)=>PyData.int i)=fu
  have ee:ait (freed f.M.length [OC.lst fu]) [some (.dat (.list (yd la))),some (.own (f.M.length+0)),some (.dat .none)]=[some (.dat (.list (yd la))),some (.dat (.list fu)),some (.dat .none)]:=by simp [freed]
  rw [ee]
  refine afZ (PEdL.ints (afP (zf rfl ⟨_,rfl,acM (zr ⟨1,rfl,rfl,?_⟩)⟩)))
  rw [<-hfu,<- List.map_reverse,aam]
  exact⟨⟨(vE la (la.length+1) la.length).map fun (i:Nat)=>(i:Int),by rw [ahC];rfl⟩,rfl⟩
noncomputable def iD (i:Nat):PyData:=.int i
noncomputable abbrev abA (K:ags):Sp:=afx K 2 (fun (c:Pt×List Pt×Int) xs=>xs=[.dat (.list (c.2.1.map ptD)),.dat (.int c.2.2)]/\(∀ p∈c.2.1,Near c.1 p)/\0<c.2.1.length/\c.2.1.length<=60/\0<=c.2.2/\c.2.2<=10 ^ 60) fun c a ns=>a=jJ c.2.1 c.2.2/\ns=(yc c.2.1 c.2.2).map fun (i:Nat)=>(i:Int)
theorem adq (F:Def K mg "least_kept" yq pq) (kl_least:abu K "least_kept"=true) (uaa:mg "len"=none) (uab:mg "range"=none) (uad:mg "min"=none) (uaD:FnIn P w K mg base (k+1) "spans" pz (abz K)) (uaE:FnIn P w K mg base (k+1) "way_to_the_end" pA (aeL K)):FnIn P w K mg base (k+2) "least_kept" pq (abA K):=by
 refine F.okLT sc_least_kept rfl kl_least fun fa cL Pt A outer s H E l1 l2 hr=>⟨_,(zd (zy (i:=2) sc_least_kept.nd rfl (Or.inr rfl) (yg (za zb ze))) (zd (zy (i:=3) sc_least_kept.nd rfl (Or.inl rfl) (yg (za ack ze))) (zd (y8 ahh rfl (yI rfl uab (za zb (za (zx (zH (K:=K) rfl) rfl uaa ag0 (za (pv 0) ze)) ze))) (zE (i:=4) sc_least_kept.nd rfl (Or.inr rfl) (Or.inl rfl)) (zd (j7 (i:=5) (N:=["start","points","bound","at"]) (own:=1) (fr:=[0,1,4]) ⟨rfl,by decide +kernel,of_decide_eq_true (by kernel_rfl),of_decide_eq_true (by kernel_rfl),of_decide_eq_true (by kernel_rfl),rfl⟩ rfl sc_least_kept.nd rfl (Or.inl rfl) (jP rfl uab (za (pv 4) ze)) (fun _ _ _ _=>(zE (i:=0) (show (["start","points","bound","at"]:List Str).Nodup by decide +kernel) rfl (Or.inl rfl) (Or.inr rfl))) (fun _ _ _ _=>(adK (yn (K:=K) rfl (zw uaD hr rfl (za (pv 1) (za (pv 0) (za (pv 3) (za (pv 2) ze))))) (fun _=>rfl)))) (fun _ _ _ _=>(pv 0)) rfl rfl (fun _=>rfl) (Or.inl rfl) rfl) (zd (zy (i:=6) sc_least_kept.nd rfl (Or.inl rfl) (aca (q:="least_kept") (c:=cL) (P:=Pt) (jy:=2) (K:=K) rfl hr rfl uad (za (pv 5) ze) (by decide +kernel) rfl l1 l2 rfl (of_decide_eq_true (by kernel_rfl)) rfl (fun _ _ _ _ _=>rfl) rfl rfl (of_decide_eq_true (by kernel_rfl)) rfl rfl rfl rfl rfl)) (zd (jB (vR ahp ahl ahm yJ (pv 2) (za (zg zK (zv (zt (K:=K) rfl) (pv 2) (pv 6) (fun _ _=>rfl)) zb) ze))) (zm (jB (vR ahp ahl ahm yJ (pv 3) (za (pv 6) ze)))))))) (zm (zF (jT (za (zv (zt (K:=K) rfl) (pv 2) (acp aas zb) (fun _ _=>rfl)) (za (zw uaE hr rfl (za (pv 3) ze)) ze)))))))),?_⟩
 rintro f xs ⟨o,ps,m⟩ hl ⟨rfl,hn,h0,h60,m0,m1⟩
 try dsimp only [yF,zj]
 dsimp only at *
 refine aeb (w:=w) (adh (qp (aeG (zc (zr (zz ⟨[.int 1],rfl,agN rfl,show 2<7 by decide,fun D1=>?_⟩))))))
 refine adh (qp (aeG (zc (aez (zz ⟨[.none],rfl,agN rfl,show 3<7 by decide,fun D2=>?_⟩)))))
 show aaQ w K f [D1,D2] _ [some (.dat (.list (ps.map ptD))),some (.dat (.int m)),some (.own (f.M.length+0)),some (.own (f.M.length+1)),none,none,none] [OC.lst [.int 1],OC.lst [.none]] _
 refine afA (acY (je (zc (zr (zc (jc (zc (zf rfl (zz (.inl ⟨_,rfl,zz ⟨1,_,rfl,?_,?_⟩⟩))))))))))
 ·rw [agr];omega
 rw [agr]
 have rl:(zS 1 (ps.length:Int)).length=ps.length - 1:=by unfold zS;simp
 refine⟨fun n ρ cs=>∃ x4 x5 x6,ρ=[some (.dat (.list (ps.map ptD))),some (.dat (.int m)),some (.own (f.M.length+0)),some (.own (f.M.length+1)),x4,x5,x6]/\cs=[OC.lst ((dpF ps m n).1.map .int),OC.lst (yd (dpF ps m n).2)],⟨_,_,_,rfl,rfl⟩,?_,?_⟩
 ·rintro n d _ _ hd ⟨x4,x5,x6,rfl,rfl⟩
  have D:=aaf ps m n
  obtain⟨hn1,rfl⟩:n+1<ps.length/\d=.int ((n+1:Nat):Int):=by
   have hl:=(agu.mp hd).1
   rw [rl] at hl
   refine⟨by omega,?_⟩
   unfold zS at hd
   rw [agy,ahb (by omega)] at hd
   cases hd
   exact congrArg PyData.int (by omega)
  refine zu (qf (qg (jz (PEdO.ped (afq (A:=iD) (B:=iD) (fun i=>zD ps m i (n+1)) (agK (n+1)) (vw (zc (zf rfl (zz ⟨_,rfl,by omega,by omega,?_,by rw [ag3];omega,?_,?_⟩)))))))))
  ·unfold yU
   rw [agQ]
   rfl
  ·rintro Dl i ρ' es hi ho hes
   obtain⟨u,rfl⟩:=ho.one
   have hi':=agS.mp hi
   refine zu (jq (zR (o,ps,i,n+1,m) (zc (zf rfl (zc (zf rfl (zc (zf rfl (zc (zf rfl (zz ⟨rfl,⟨rfl,hn,hi',hn1,h60,m0,m1⟩,?_⟩)))))))))))
   rintro _ rfl
   refine⟨_,rfl,rfl,?_⟩
   refine aaj (fun h=>aaC hes (zf rfl ⟨.mk1,rfl⟩)) fun h=>.mk1
  have eu:((agK (n+1)).filter fun i=>zD ps m i (n+1)).map iD=(usF ps m (n+1)).map .int:=by
   unfold usF
   rw [ahC]
   rfl
  rw [eu]
  refine qf (qg (ad9 (j:=0) (ks:=(dpF ps m n).1) rfl rfl (ago (zc (zf rfl (zz ⟨usF ps m (n+1),rfl,aeK ps m n,fun b hb=>?_,fun M hM=>?_⟩))))))
  ·obtain⟨i,rfl,hi,_⟩:=us_mem.mp hb
   rw [D.fl]
   omega
  have eM:=aed hM
  obtain⟨b,eb,hbn,_⟩:=us_mem.mp (vk hM).1
  subst eb
  have gb:atI ((dpF ps m n).1.map PyData.int) ((b:Nat):Int)=some (.int ((dpF ps m n).1.getD b 0)):=by
   unfold atI ixN
   have hl:=D.fl
   rw [if_pos (by omega),if_pos (by rw [agr];omega)]
   show ((dpF ps m n).1.map PyData.int)[_]?=_
   rw [agy,agQ,agp,agq (by omega)]
   rfl
  refine qf (acZ (j:=0) rfl rfl (by rw [agr,D.fl];omega) (adg (ac2 (j:=0) rfl rfl (jz (zf rfl ⟨_,rfl,_,gb,_,rfl,jz (zr ⟨_,rfl,?_⟩)⟩)))))
  refine acZ (j:=1) rfl rfl (by show (yd (dpF ps m n).2).length<1000;unfold yd;rw [agM,agr,D.ll];omega) (jz (zf rfl ⟨_,_,_,rfl,?_⟩))
  have e1:(dpF ps m (n+1)).1=(dpF ps m n).1++[(dpF ps m n).1.getD b 0+1]:=by
   show (dpF ps m n).1++[_]=_
   rw [eM,agQ]
  have e2:(dpF ps m (n+1)).2=(dpF ps m n).2++[((b:Nat):Int)]:=by
   show (dpF ps m n).2++[_]=_
   rw [eM]
  rw [e1,e2,ahg]
  show [OC.lst ((dpF ps m n).1.map PyData.int++[.int ((dpF ps m n).1.getD b 0+1)]),OC.lst (yd (dpF ps m n).2++[.int (b:Int)])]=_
  unfold yd
  rw [ahg]
  rfl
 ·rintro _ _ ⟨x4,x5,x6,rfl,rfl⟩
  rw [rl]
  have D:=aaf ps m (ps.length - 1)
  refine aec ?_
  generalize hA:(dpF ps m (ps.length - 1)).1.map PyData.int=fA
  generalize hB:yd (dpF ps m (ps.length - 1)).2=lB
  have ee:∃ y4 y5 y6,ait (freed f.M.length [OC.lst fA,OC.lst lB]) [some (.dat (.list (ps.map ptD))),some (.dat (.int m)),some (.own (f.M.length+0)),some (.own (f.M.length+1)),x4,x5,x6]=[some (.dat (.list (ps.map ptD))),some (.dat (.int m)),some (.dat (.list fA)),some (.dat (.list lB)),y4,y5,y6]:=⟨_,_,_,by simp [freed];exact⟨rfl,rfl,rfl⟩⟩
  obtain⟨y4,y5,y6,ee⟩:=ee
  rw [ee]
  subst hA hB
  have g1:atI ((dpF ps m (ps.length - 1)).1.map PyData.int) (-1)=some (.int (jJ ps m)):=by
   have hl:=D.fl
   unfold atI ixN jJ
   rw [if_neg (by decide),if_pos (by rw [agr];omega),agr]
   show ((dpF ps m (ps.length - 1)).1.map PyData.int)[_]?=_
   have e:((-1:Int)+(((dpF ps m (ps.length - 1)).1.length:Nat):Int)).toNat=ps.length - 1:=by omega
   rw [e,agy,agp,agq (by omega)]
   rfl
  refine afz (afy (yb (zf rfl ⟨_,rfl,acM (zr ⟨1,rfl,_,rfl,_,g1,_,rfl,afj (dpF ps m (ps.length - 1)).2 (zc (zf rfl (zz ⟨rfl,⟨rfl,by rw [D.ll];omega,fun i hi=>?_⟩,?_⟩)))⟩)⟩)))
  ·rw [D.ll] at hi
   obtain⟨b,h1,h2,_⟩:=D.last i hi
   exact⟨b,h1,by have:=h2.1;omega⟩
  rintro _ rfl
  rw [D.ll,show ps.length - 1+1=ps.length by omega]
  exact⟨(yc ps m).map fun (i:Nat)=>(i:Int),by rw [ahC];rfl,rfl,rfl⟩
noncomputable abbrev scr (ns:List Int):PyData:=.list (ns.map .int)
theorem abB {K:ags} {H:Hp} {a:Addr} {ns:List Int} (h:SqL K H a (ns.map V.int)):Rep K (hide H L2.f0) (scr ns) (.ref a):=by
 rw [z8]
 exact rep_list.mpr ⟨a,_,rfl,h,Reps.ints' ns⟩
theorem aek {K:ags} {H:Hp} {v:V} {ns:List Int} (h:Rep K (hide H L2.f0) (scr ns) v):∃ a,v=.ref a/\SqL K H a (ns.map V.int):=by
 rw [z8] at h
 obtain⟨a,xs,rfl,h1,h2⟩:=rep_list.mp h
 rw [h2.ints] at h1
 exact⟨a,rfl,h1⟩
noncomputable def aa0 (K:ags):Sp:=fun vs H Q _=>∃ (a:Addr) (ns:List Int) (i:Int),vs=[.ref a,.int i]/\SqL K H a (ns.map V.int)/\ns.length<=63/\0<=i/\i<=63 /\
 ∀ (p:Addr) (x y:Int) (H':Hp),Same H H'->H p=none->H' p=some (.lst [.int x,.int y])->0<=x->0<=y->y<2147483647->Q (.ref p) H'
noncomputable def abC (K:ags):Sp:=fun vs H Q _=>∃ (a:Addr) (ns:List Int),vs=[.ref a]/\SqL K H a (ns.map V.int)/\ns.length<=63/\∀ H',Q (.bl true) H'
theorem ael {K:ags} {f:Fx} {t:TA} {ρ:zi} {R R':List DV->Prop} (h:PAd K f t ρ R) (i:∀ xs,R xs->R' xs):PAd K f t ρ R':=fun σ H Q e q=>h σ H Q e fun xs vs H' g r p=>q xs vs H' g r (i xs p)
theorem afD {K:ags} {ρ:zi} {ns:List Int} {i:Int} {E2:XK} (h0:ρ[0]?=some (some (.dat (scr ns)))) (h1:ρ[1]?=some (some (.dat (.int i)))) (hl:ns.length<=63) (i0:0<=i) (i1:i<=63) :
  ∀ (σ:L2.St) (H:Hp) (Q:VK),EnvOk K L2.f0 ρ σ H->(∀ (p:Addr) (x y:Int) (H':Hp),Same H H'->H p=none->H' p=some (.lst [.int x,.int y])->0<=x->0<=y->y<2147483647->Q (.ref p) H')->qz (aa0 K) [] E2 (zY (yE 0) (zY (yE 1) ju)) σ H Q:=by
 intro σ H Q e q
 obtain⟨v0,hv0,r0⟩:=e.get 0 _ h0
 obtain⟨v1,hv1,r1⟩:=e.get 1 _ h1
 obtain⟨a,rfl,hS⟩:=aek r0
 have e1:v1=.int i:=rep_int.mp (show Rep K (hide H L2.f0) (.int i) v1 from r1)
 subst e1
 exact⟨_,hv0,_,hv1,a,ns,i,rfl,hS,hl,i0,i1,q⟩
theorem aan {n i:Nat} {d:PyData} (h:(yU n)[i]?=some d):i<n/\d=.int (i:Int):=by
 unfold yU at h
 have hl:=(agu.mp h).1
 rw [agr,ag3] at hl
 rw [agy,ahb hl] at h
 cases h
 exact⟨hl,rfl⟩
theorem jl {i j:Int} {n:Nat} {d:PyData} (h:(zS i j)[n]?=some d):d=.int (i+n)/\i+n<j:=by
 unfold zS at h
 have hl:=(agu.mp h).1
 rw [agr,ag3] at hl
 rw [agy,ahb hl] at h
 cases h
 exact⟨rfl,by omega⟩
theorem qP {ns:List Int} {k:Int} {j:Nat} (h0:(j:Int)=k) (h1:j<ns.length):atI (ns.map PyData.int) k=some (.int (ns.getD j 0)):=by
 subst h0
 unfold atI ixN
 rw [if_pos (by omega),if_pos (by rw [agr];omega)]
 show (ns.map PyData.int)[_]?=_
 rw [agQ,agy,agp,agq h1]
 rfl
noncomputable abbrev aa1 (K:ags):Sp:=spD K 2 (fun (c:Int) xs=>xs=[.feed,.dat (.int c)]/\0<c/\c<1152921504606846976) fun c r=>∃ i:Int,r=.int i/\0<=i/\i<c
theorem aem (F:Def K mg "_law_draw" yW pf):FnIn P w K mg base (k+1) "_law_draw" pf (aa1 K):=by
 refine F.ok sc_law_draw rfl fun fa cdv A outer s H E hr=>⟨_,(zd (yH (zV aev (zv (zt (K:=K) rfl) (pv 0) zb (fun _ _=>rfl)) (zg qx zb zb) (zP _)) (zd (zy (i:=2) sc_law_draw.nd rfl (Or.inl rfl) (zg jQ (zv (zt (K:=K) rfl) (pv 0) zb (fun _ _=>rfl)) (pv 1))) (zd (jO (zg vX (zv (zt (K:=K) rfl) (pv 0) zb (fun _ _=>rfl)) (pv 1)) (aaq (pv 0) zb set_list)) (zm (zF (pv 2))))) zU) (zd (jO (zg jQ (zg zK (zg zK (zg yP (zv (zt (K:=K) rfl) (pv 0) zb (fun _ _=>rfl)) zb) (zg jQ (zv (zt (K:=K) rfl) (pv 0) zb (fun _ _=>rfl)) zb)) zb) zb) (aaq (pv 0) zb set_list)) (zm (zF (zg jQ (zg vX (zg jQ (zg yP (zv (zt (K:=K) rfl) (pv 0) zb (fun _ _=>rfl)) zb) zb) zb) (pv 1)))))),?_⟩
 rintro f xs c hl ⟨rfl,c0,c1⟩
 try dsimp only [yF,zj]
 walk_at "w"
 split
 ·walk_at "w"
  exact ahR _ c0
 ·walk_at "w"
  exact ahR _ c0
theorem aen (F:Def K mg "_law_feed" yV pB) (uaa:mg "len"=none) (uah:mg "abs"=none):FnIn P w K mg base (k+1) "_law_feed" pB (aa0 K):=by
 refine F.raw sc_law_feed (fun vs H Q E h=>?_) fun fa cdv A outer s H vs Q E hr hs=>⟨_,(zd (zy (i:=2) sc_law_feed.nd rfl (Or.inl rfl) zb) (zd (yH (zV afL (zx (zH (K:=K) rfl) rfl uaa ag0 (za (pv 0) ze)) zb (zP _)) (zm (zy (i:=2) sc_law_feed.nd rfl (Or.inl rfl) (zv (zt (K:=K) rfl) (pv 0) (zg jQ (pv 1) (zx (zH (K:=K) rfl) rfl uaa ag0 (za (pv 0) ze))) (fun _ _=>rfl)))) zU) (zm (zF (yg (za (zx (acr) rfl uah PyProof.Rows.boot_abs (za (pv 2) ze)) (za (zg zK (zg yP zb (pv 1)) zb) ze))))))),?_⟩
 ·obtain⟨a,ns,i,rfl,_⟩:=h
  rfl
 obtain⟨a,ns,i,rfl,hS,h63,i0,i1,q⟩:=hs
 have e0:EnvOk K L2.f0 (yS jA [.dat (scr ns),.dat (.int i)]) (start jA [.ref a,.int i]) H:=yK (.cons (abB hS) (.cons (show RepV K L2.f0 H (.dat (.int i)) (.int i) from (rep_int (K:=K) (H:=hide H L2.f0)).mpr rfl) .nil)) (L2.fok0 H)
 refine acC (D:={ nx:=fun ρ=>ρ=[some (.dat (scr ns)),some (.dat (.int i)),some (.dat (.int 0))],rt:=fun _=>False }) ?_ e0 ?_ (fun _ _ _ _ _ z=>z.elim) (fun _ z=>z) (fun _ z=>z)
 ·walk_at "w"
  rfl
 rintro _ σ1 H1 g1 e1 rfl
 refine acC (D:={ nx:=fun ρ=>∃ c:Int,ρ=[some (.dat (scr ns)),some (.dat (.int i)),some (.dat (.int c))],rt:=fun _=>False }) ?_ e1 ?_ (fun _ _ _ _ _ z=>z.elim) (fun _ z=>z) (fun _ z=>z)
 ·walk_at "w"
  rw [agr]
  by_cases h:0<ns.length
  ·rw [if_pos (by simpa using h)]
   walk_at "w"
   rw [agr]
   have z0:=ai2 i (b:=(ns.length:Int)) (by omega)
   have z1:=ahR i (b:=(ns.length:Int)) (by omega)
   refine⟨by omega,_,rfl,_,qP (j:=(i % (ns.length:Int)).toNat) (by omega) (by omega),?_⟩
   walk_at "w"
   exact⟨_,rfl⟩
  ·rw [if_neg (by simpa using h)]
   walk_at "w"
   exact⟨_,rfl⟩
 rintro _ σ2 H2 g2 e2 ⟨c,rfl⟩
 unfold abG
 have ss:Same H H2:=(L2.same0 g1).trans (L2.same0 g2)
 refine acD (R:=fun ds=>∃ x y:Int,ds=[.int x,.int y]/\0<=x/\0<=y/\y<2147483647) ?_ e2 ?_
 ·walk_at "w"
  omega
 ·rintro p ds vs H3 g3 hn rs ⟨x,y,rfl,hx,hy,hy'⟩
  have sf:Same H H3:=ss.trans (L2.same0 g3)
  have ev:vs=[.int x,.int y]:=Reps.ints (ns:=[x,y]) rs
  subst ev
  exact q p x y _ (sf.trans (zJ hn _)) (sf.free hn) zo hx hy hy'
theorem qQ {x y:Int} {a b:Nat} (hx:x.natAbs<2 ^ a) (hy:y.natAbs<2 ^ b):(x * y).natAbs<2 ^ (a+b):=by
 rw [aiH,Nat.pow_add]
 exact Nat.mul_lt_mul'' hx hy
theorem aga {x y:Int} {a:Nat} (hx:x.natAbs<2 ^ a) (hy:y.natAbs<2 ^ a):(x+y).natAbs<2 ^ (a+1):=by
 rw [ajq]
 omega
theorem agb {x y:Int} {a:Nat} (hx:x.natAbs<2 ^ a) (hy:y.natAbs<2 ^ a):(x - y).natAbs<2 ^ (a+1):=by
 rw [ajq]
 omega
theorem nMx {x y:Int} {a:Nat} (hx:x.natAbs<2 ^ a) (hy:y.natAbs<2 ^ a):(mx x y).natAbs<2 ^ a:=by unfold mx;split <;> assumption
theorem nMn {x y:Int} {a:Nat} (hx:x.natAbs<2 ^ a) (hy:y.natAbs<2 ^ a):(mn x y).natAbs<2 ^ a:=by unfold mn;split <;> assumption
noncomputable abbrev abD (K:ags):Sp:=spD K 4 (fun (c:Pt×Pt×Pt×Pt×Int) xs=>xs=[.dat (ptD c.2.1),.dat (ptD c.2.2.1),.dat (ptD c.2.2.2.1),.dat (.int c.2.2.2.2)]/\Near c.1 c.2.1/\Near c.1 c.2.2.1/\Near c.1 c.2.2.2.1/\0<=c.2.2.2.2/\c.2.2.2.2<=10 ^ 60) fun c r=>r=.bool (nearF c.2.2.2.2 c.2.2.2.1 c.2.1 c.2.2.1)
theorem ads (F:Def K mg "_law_near" yX pD) (uad:mg "min"=none) (uae:mg "max"=none):FnIn P w K mg base (k+1) "_law_near" pD (abD K):=by
 refine F.ok sc_law_near rfl fun fa cdv A outer s H E hr=>⟨_,(zd (zy (i:=4) sc_law_near.nd rfl (Or.inl rfl) (zg zB (zv (zC (K:=K) rfl) (pv 1) zb (fun _ _=>rfl)) (zv (zC (K:=K) rfl) (pv 0) zb (fun _ _=>rfl)))) (zd (zy (i:=5) sc_law_near.nd rfl (Or.inl rfl) (zg zB (zv (zC (K:=K) rfl) (pv 1) zb (fun _ _=>rfl)) (zv (zC (K:=K) rfl) (pv 0) zb (fun _ _=>rfl)))) (zd (zy (i:=6) sc_law_near.nd rfl (Or.inl rfl) (zx (jS rfl) rfl uae boot_max (za zb (za (zg zK (zg zO (pv 4) (pv 4)) (zg zO (pv 5) (pv 5))) ze)))) (zd (zy (i:=7) sc_law_near.nd rfl (Or.inl rfl) (zg zK (zg zO (zg zB (zv (zC (K:=K) rfl) (pv 2) zb (fun _ _=>rfl)) (zv (zC (K:=K) rfl) (pv 0) zb (fun _ _=>rfl))) (pv 4)) (zg zO (zg zB (zv (zC (K:=K) rfl) (pv 2) zb (fun _ _=>rfl)) (zv (zC (K:=K) rfl) (pv 0) zb (fun _ _=>rfl))) (pv 5)))) (zd (zy (i:=7) sc_law_near.nd rfl (Or.inl rfl) (zx (jS rfl) rfl uae boot_max (za zb (za (zx (qV rfl) rfl uad boot_min (za (pv 7) (za (pv 6) ze))) ze)))) (zd (zy (i:=8) sc_law_near.nd rfl (Or.inl rfl) (zg zB (zg zO (zg zB (zv (zC (K:=K) rfl) (pv 2) zb (fun _ _=>rfl)) (zv (zC (K:=K) rfl) (pv 0) zb (fun _ _=>rfl))) (pv 6)) (zg zO (pv 7) (pv 4)))) (zd (zy (i:=9) sc_law_near.nd rfl (Or.inl rfl) (zg zB (zg zO (zg zB (zv (zC (K:=K) rfl) (pv 2) zb (fun _ _=>rfl)) (zv (zC (K:=K) rfl) (pv 0) zb (fun _ _=>rfl))) (pv 6)) (zg zO (pv 7) (pv 5)))) (zm (zF (ji vN (zg zK (zg zO (pv 8) (pv 8)) (zg zO (pv 9) (pv 9))) (zg zO (zg zO (zg zO (pv 3) (pv 3)) (pv 6)) (pv 6)) (zP _))))))))))),?_⟩
 rintro f xs ⟨o,a,b,p,m⟩ hl ⟨rfl,na,nb,np,m0,m1⟩
 obtain⟨p1,p2,p3,p4⟩:=np
 obtain⟨a1,a2,a3,a4⟩:=na
 obtain⟨b1,b2,b3,b4⟩:=nb
 try dsimp only [yF,zj]
 unfold ptD
 dsimp only at *
 have hm:m.natAbs<2 ^ 200:=by
  have h1:(10:Nat) ^ 60<2 ^ 200:=by decide +kernel
  have h2:m.natAbs<=10 ^ 60:=by
   have:((10:Int) ^ 60)=(((10:Nat) ^ 60:Nat):Int):=by decide +kernel
   omega
  omega
 have c43:(2:Nat) ^ 43=8796093022208:=rfl
 have d1:(b.1 - a.1).natAbs<2 ^ 43:=by omega
 have d2:(b.2 - a.2).natAbs<2 ^ 43:=by omega
 have d3:(p.1 - a.1).natAbs<2 ^ 43:=by omega
 have d4:(p.2 - a.2).natAbs<2 ^ 43:=by omega
 have hu:∀ {x:Int} {n:Nat},x.natAbs<2 ^ n->n<=9000->x.natAbs<ab3:=fun h hn=>qr h hn
 have cm:∀ {x y:Int} {i j:Nat},x.natAbs<2 ^ i->y.natAbs<2 ^ j->i<=9000->j<=9000->CMulH x y:=fun h1 h2 h3 h4=>⟨hu h1 h3,hu h2 h4⟩
 have q1:=cm d1 d1 (by decide) (by decide)
 have q2:=cm d2 d2 (by decide) (by decide)
 have q3:=cm d3 d1 (by decide) (by decide)
 have q4:=cm d4 d2 (by decide) (by decide)
 have hW:(mx 1 ((b.1 - a.1) * (b.1 - a.1)+(b.2 - a.2) * (b.2 - a.2))).natAbs<2 ^ 87:=nMx (by decide) (aga (qQ d1 d1) (qQ d2 d2))
 have hA:(mx 0 (mn ((p.1 - a.1) * (b.1 - a.1)+(p.2 - a.2) * (b.2 - a.2)) (mx 1 ((b.1 - a.1) * (b.1 - a.1)+(b.2 - a.2) * (b.2 - a.2))))).natAbs<2 ^ 87:=nMx (by decide) (nMn (aga (qQ d3 d1) (qQ d4 d2)) hW)
 generalize hWe:mx 1 ((b.1 - a.1) * (b.1 - a.1)+(b.2 - a.2) * (b.2 - a.2))=W at hW hA
 generalize hAe:mx 0 (mn ((p.1 - a.1) * (b.1 - a.1)+(p.2 - a.2) * (b.2 - a.2)) W)=al at hA
 have q5:=cm d3 hW (by decide) (by decide)
 have q6:=cm hA d1 (by decide) (by decide)
 have q7:=cm d4 hW (by decide) (by decide)
 have q8:=cm hA d2 (by decide) (by decide)
 have r1:((p.1 - a.1) * W - al * (b.1 - a.1)).natAbs<2 ^ 131:=agb (qQ d3 hW) (qQ hA d1)
 have r2:((p.2 - a.2) * W - al * (b.2 - a.2)).natAbs<2 ^ 131:=agb (qQ d4 hW) (qQ hA d2)
 have q9:=cm r1 r1 (by decide) (by decide)
 have qa:=cm r2 r2 (by decide) (by decide)
 have qb:=cm hm hm (by decide) (by decide)
 have qc:=cm (qQ hm hm) hW (by decide) (by decide)
 have qd:=cm (qQ (qQ hm hm) hW) hW (by decide) (by decide)
 refine jf (fun ρ=>ρ=[some (.dat (.tuple [.int a.1,.int a.2])),some (.dat (.tuple [.int b.1,.int b.2])),some (.dat (.tuple [.int p.1,.int p.2])),some (.dat (.int m)),some (.dat (.int (b.1 - a.1))),none,none,none,none,none]) ?_ ?_
 ·walk_at "w"
  rfl
 rintro _ rfl
 refine jf (fun ρ=>ρ=[some (.dat (.tuple [.int a.1,.int a.2])),some (.dat (.tuple [.int b.1,.int b.2])),some (.dat (.tuple [.int p.1,.int p.2])),some (.dat (.int m)),some (.dat (.int (b.1 - a.1))),some (.dat (.int (b.2 - a.2))),none,none,none,none]) ?_ ?_
 ·walk_at "w"
  rfl
 rintro _ rfl
 refine jf (fun ρ=>ρ=[some (.dat (.tuple [.int a.1,.int a.2])),some (.dat (.tuple [.int b.1,.int b.2])),some (.dat (.tuple [.int p.1,.int p.2])),some (.dat (.int m)),some (.dat (.int (b.1 - a.1))),some (.dat (.int (b.2 - a.2))),some (.dat (.int W)),none,none,none]) ?_ ?_
 ·repeat (first | walk_at "dl" | refine And.intro (by assumption) ?_)
  rw [<-hWe]
  rfl
 rintro _ rfl
 refine jf (fun ρ=>ρ=[some (.dat (.tuple [.int a.1,.int a.2])),some (.dat (.tuple [.int b.1,.int b.2])),some (.dat (.tuple [.int p.1,.int p.2])),some (.dat (.int m)),some (.dat (.int (b.1 - a.1))),some (.dat (.int (b.2 - a.2))),some (.dat (.int W)),some (.dat (.int ((p.1 - a.1) * (b.1 - a.1)+(p.2 - a.2) * (b.2 - a.2)))),none,none]) ?_ ?_
 ·repeat (first | walk_at "dl" | refine And.intro (by assumption) ?_)
  rfl
 rintro _ rfl
 refine jf (fun ρ=>ρ=[some (.dat (.tuple [.int a.1,.int a.2])),some (.dat (.tuple [.int b.1,.int b.2])),some (.dat (.tuple [.int p.1,.int p.2])),some (.dat (.int m)),some (.dat (.int (b.1 - a.1))),some (.dat (.int (b.2 - a.2))),some (.dat (.int W)),some (.dat (.int al)),none,none]) ?_ ?_
 ·repeat (first | walk_at "dl" | refine And.intro (by assumption) ?_)
  rw [<-hAe]
  rfl
 rintro _ rfl
 repeat (first | walk_at "dl" | refine And.intro (by assumption) ?_)
 rw [<-adk]
 unfold aaS
 dsimp only
 rw [hWe,hAe]
noncomputable abbrev aao (K:ags):Sp:=spD K 2 (fun (c:Int) xs=>xs=[.feed,.dat (.int c)]/\1<=c/\c<=39) fun c r=>∃ (b:Int) (ps:List Pt) (o:Pt),r=.tuple [.int b,.list (ps.map ptD)]/\1<=b/\b<=1000000000/\2<=ps.length/\ps.length<=40/\∀ p∈ps,Near o p
theorem acg (F:Def K mg "_law_points" yr pC) (uab:mg "range"=none) (uac:FnIn P w K mg base k "_law_draw" pf (aa1 K)):FnIn P w K mg base (k+1) "_law_points" pC (aao K):=by
 refine F.ok sc_law_points rfl fun fa cdv A outer s H E hr=>⟨_,(zd (zy (i:=2) sc_law_points.nd rfl (Or.inl rfl) (zg zK zb (zw uac hr rfl (za (pv 0) (za (zv (zt (K:=K) rfl) (yg (za zb (za zb (za zb (za (pv 1) ze))))) (zw uac hr rfl (za (pv 0) (za zb ze))) (fun _ _=>rfl)) ze))))) (zd (zy (i:=3) sc_law_points.nd rfl (Or.inl rfl) (zg zK zb (zw uac hr rfl (za (pv 0) (za zb ze))))) (zd (zy (i:=4) sc_law_points.nd rfl (Or.inl rfl) (zv (zt (K:=K) rfl) (yg (za zb (za zb (za zb (za zb ze))))) (zw uac hr rfl (za (pv 0) (za zb ze))) (fun _ _=>rfl))) (zd (zy (i:=5) sc_law_points.nd rfl (Or.inl rfl) (zw uac hr rfl (za (pv 0) (za zb ze)))) (zd (zy (i:=6) sc_law_points.nd rfl (Or.inl rfl) (yg ze)) (zd (y8 ahh rfl (jP rfl uab (za (pv 2) ze)) (zE (i:=7) sc_law_points.nd rfl (Or.inl rfl) (Or.inr rfl)) (zm (jB (vR ahp ahl ahm yJ (pv 6) (za (jT (za (zg zK (zw uac hr rfl (za (pv 0) (za (pv 3) ze))) (zg yP (pv 5) (pv 7))) (za (zw uac hr rfl (za (pv 0) (za (pv 4) ze))) ze))) ze))))) (zd (zy (i:=8) sc_law_points.nd rfl (Or.inr rfl) (zv (zt (K:=K) rfl) (yg (za zb (za zb (za zb (za (zg qx zb zb) ze))))) (zw uac hr rfl (za (pv 0) (za zb ze))) (fun _ _=>rfl))) (zd (zy (i:=9) sc_law_points.nd rfl (Or.inr rfl) (zv (zt (K:=K) rfl) (yg (za zb (za (zg zB zb zb) (za (zg qx zb zb) (za (zg zB zb (zg qx zb zb)) ze))))) (zw uac hr rfl (za (pv 0) (za zb ze))) (fun _ _=>rfl))) (zm (zF (jT (za (pv 8) (za (acx (N:=pH) (own:=2) (fr:=[8,9]) ⟨rfl,by decide +kernel,of_decide_eq_true (by kernel_rfl),of_decide_eq_true (by kernel_rfl),of_decide_eq_true (by kernel_rfl),rfl⟩ rfl (qG (K:=K) rfl (pv 6)) (fun _ _ _ _=>(yT (K:=K) (n:=2) rfl rfl (zI (zE (i:=0) (show (pH:List Str).Nodup by decide +kernel) rfl (Or.inl rfl) (Or.inr rfl)) (zI (zE (i:=1) (show (pH:List Str).Nodup by decide +kernel) rfl (Or.inl rfl) (Or.inr rfl)) yN)))) (fun _ _ _ _=>aa9) (fun _ _ _ _=>(jT (za (zg zK (zg yP (pv 0) (pv 2)) (pv 3)) (za (zg zB (zg yP (pv 1) (pv 2)) (pv 3)) ze)))) rfl rfl (fun _=>rfl)) ze))))))))))))),?_⟩
 rintro f xs c hl ⟨rfl,c0,c1⟩
 try dsimp only [yF,zj]
 refine jf (fun ρ=>∃ n:Nat,2<=n/\n<=40/\ρ=[some .feed,some (.dat (.int c)),some (.dat (.int n)),none,none,none,none,none,none,none]) ?_ ?_
 ·refine y2 (ya (zr ⟨2,rfl,abr (aay rfl (zc (yb (j8 (zc (zr (zc (zr (zc (zr (zc (zf rfl (zz ⟨_,rfl,agN rfl,_,rfl,zR 4 ?_⟩)))))))))))))⟩))
  walk_at "w"
  rintro _ ⟨q,rfl,q0,q1⟩
  obtain⟨z,hz,z0,z1⟩:∃ z:Int,atI [PyData.int 7,PyData.int 7,PyData.int 14,PyData.int c] q=some (.int z)/\1<=z/\z<=39:=by
   rcases (show q=0 \/ q=1 \/ q=2 \/ q=3 by omega) with rfl | rfl | rfl | rfl
   ·exact⟨7,rfl,by decide,by decide⟩
   ·exact⟨7,rfl,by decide,by decide⟩
   ·exact⟨14,rfl,by decide,by decide⟩
   ·exact⟨c,rfl,c0,c1⟩
  refine⟨_,rfl,_,hz,zz ⟨z,rfl,⟨rfl,by omega,by omega⟩,?_⟩⟩
  rintro _ ⟨y,rfl,y0,y1⟩
  refine⟨_,rfl,zu ⟨(2+y).toNat,by omega,by omega,?_⟩⟩
  have e:2+y=(((2+y).toNat:Nat):Int):=by omega
  rw [<-e]
  rfl
 rintro _ ⟨n,n2,n40,rfl⟩
 refine yz (y2 (ya (zr ⟨1,rfl,zR 9 ?_⟩)))
 walk_at "w"
 rintro _ ⟨wd,rfl,w0,w1⟩
 refine⟨_,rfl,zu (jf (fun ρ=>∃ hg:Int,1<=hg/\hg<=9/\ρ=[some .feed,some (.dat (.int c)),some (.dat (.int n)),some (.dat (.int (1+wd))),some (.dat (.int hg)),none,none,none,none,none]) ?_ ?_)⟩
 ·refine y2 (yb (j8 (zc (zr (zc (zr (zc (zr (zc (zr (zz ⟨_,rfl,agN rfl,_,rfl,zR 4 ?_⟩)))))))))))
  walk_at "w"
  rintro _ ⟨q,rfl,q0,q1⟩
  rcases (show q=0 \/ q=1 \/ q=2 \/ q=3 by omega) with rfl | rfl | rfl | rfl
  ·exact⟨_,rfl,_,rfl,zu ⟨1,by decide,by decide,rfl⟩⟩
  ·exact⟨_,rfl,_,rfl,zu ⟨2,by decide,by decide,rfl⟩⟩
  ·exact⟨_,rfl,_,rfl,zu ⟨4,by decide,by decide,rfl⟩⟩
  ·exact⟨_,rfl,_,rfl,zu ⟨9,by decide,by decide,rfl⟩⟩
 rintro _ ⟨hg,h0,h9,rfl⟩
 refine yz (y2 (zR 3 ?_))
 walk_at "w"
 rintro _ ⟨on,rfl,o0,o1⟩
 refine zu (afU (aeD ⟨show 6<10 by decide,fun D=>?_⟩))
 refine afT (vw (zc (zf rfl (zz ⟨_,rfl,by omega,by omega,fun q ρ es=>∃ (x7:Option DV) (ps:List Pt),ρ=[some .feed,some (.dat (.int c)),some (.dat (.int n)),some (.dat (.int (1+wd))),some (.dat (.int hg)),some (.dat (.int on)),some (.own f.M.length),x7,none,none]/\es=ps.map ptD/\ps.length=q/\∀ p∈ps,0<=p.1/\p.1<=100/\0<=p.2/\p.2<=100,⟨_,[],rfl,rfl,rfl,(fun p hp=>by cases hp)⟩,?_,?_⟩))))
 ·rintro q d _ _ hd ⟨x7,ps,rfl,rfl,hps,hnr⟩
  obtain⟨hn,rfl⟩:=aan hd
  have hq:(q:Int)<=40:=by omega
  have hoq:0<=on * (q:Int)/\on * (q:Int)<=80:=by
   rcases (show on=0 \/ on=1 \/ on=2 by omega) with rfl | rfl | rfl <;> omega
  refine zu (afS rfl (by rw [agr];omega) (abd (zc (ya (zR (1+wd) ?_)))))
  walk_at "w"
  rintro _ ⟨z,rfl,z0,z1⟩
  refine⟨_,rfl,yu (zf rfl ⟨_,rfl,zf rfl ⟨_,rfl,Or.inl ⟨by omega,by omega⟩,_,rfl,zc (zR hg ?_)⟩⟩)⟩
  walk_at "w"
  rintro _ ⟨y,rfl,y0,y1⟩
  refine zz ⟨_,rfl,agN rfl,_,ps++[(z+on * q,y)],rfl,by simp [ptD],by rw [agL,hps];rfl,fun p hp=>?_⟩
  rcases ag5.mp hp with hp | hp
  ·exact hnr p hp
  ·rw [agO.mp hp]
   exact⟨by show 0<=z+on * q;omega,by show z+on * q<=100;omega,y0,by show y<=100;omega⟩
 rintro _ _ ⟨x7,ps,rfl,rfl,hps,hnr⟩
 refine⟨rfl,?_⟩
 have hlen:(yU (n:Int).toNat).length=n:=by unfold yU;simp
 rw [hlen] at hps
 refine jf (fun ρ=>∃ (b:Int) (x7:Option DV),1<=b/\b<=1000000000/\ρ=[some .feed,some (.dat (.int c)),some (.dat (.int n)),some (.dat (.int (1+wd))),some (.dat (.int hg)),some (.dat (.int on)),some (.dat (.list (ps.map ptD))),x7,some (.dat (.int b)),none]) ?_ ?_
 ·refine y2 (yb (j8 (zc (zr (zc (zr (zc (zr (zc (yu (zr ⟨_,rfl,zr ⟨_,rfl,?_,zz ⟨_,rfl,agN rfl,_,rfl,zR 4 ?_⟩⟩⟩)))))))))))
  ·exact⟨by decide,by decide,by decide⟩
  walk_at "w"
  rintro _ ⟨q,rfl,q0,q1⟩
  rcases (show q=0 \/ q=1 \/ q=2 \/ q=3 by omega) with rfl | rfl | rfl | rfl
  ·exact⟨_,rfl,_,rfl,zu ⟨1,_,by decide,by decide,rfl⟩⟩
  ·exact⟨_,rfl,_,rfl,zu ⟨1,_,by decide,by decide,rfl⟩⟩
  ·exact⟨_,rfl,_,rfl,zu ⟨7,_,by decide,by decide,rfl⟩⟩
  ·exact⟨_,rfl,_,rfl,zu ⟨1000000000,_,by decide,by decide,rfl⟩⟩
 rintro _ ⟨b,x7',b0,b1,rfl⟩
 refine jf (fun ρ=>∃ (fr:Int) (x7:Option DV),-100000000000<=fr/\fr<=100000000000/\ρ=[some .feed,some (.dat (.int c)),some (.dat (.int n)),some (.dat (.int (1+wd))),some (.dat (.int hg)),some (.dat (.int on)),some (.dat (.list (ps.map ptD))),x7,some (.dat (.int b)),some (.dat (.int fr))]) ?_ ?_
 ·refine y2 (yb (j8 (zc (zr (zc (ya (zr ⟨_,rfl,zr ⟨_,rfl,zc (yu (zr ⟨_,rfl,zr ⟨_,rfl,?_,zc (ya (zr ⟨_,rfl,yu (zr ⟨_,rfl,zr ⟨_,rfl,?_,_,rfl,zz ⟨_,rfl,agN rfl,_,rfl,zR 4 ?_⟩⟩⟩)⟩))⟩⟩))⟩⟩)))))))
  ·exact⟨by decide,by decide,by decide⟩
  ·exact⟨by decide,by decide,by decide⟩
  walk_at "w"
  rintro _ ⟨q,rfl,q0,q1⟩
  rcases (show q=0 \/ q=1 \/ q=2 \/ q=3 by omega) with rfl | rfl | rfl | rfl
  ·exact⟨_,rfl,_,rfl,zu ⟨0,_,by decide,by decide,rfl⟩⟩
  ·exact⟨_,rfl,_,rfl,zu ⟨-5,_,by decide,by decide,rfl⟩⟩
  ·exact⟨_,rfl,_,rfl,zu ⟨100000000000,_,by decide,by decide,rfl⟩⟩
  ·exact⟨_,rfl,_,rfl,zu ⟨-100000000000,_,by decide,by decide,rfl⟩⟩
 rintro _ ⟨fr,x7',f0,f1,rfl⟩
 refine qe (abd (zc (zf rfl (zc (PEdO.ped (aeF (A:=ptD) (B:=fun p=>ptD (p.1 * b+fr,p.2 * b - fr)) ps (aaB (zf rfl ⟨_,rfl,rfl,by omega,?_,?_⟩))))))))
 ·rintro Dl z ρ' es hz ho hes
  obtain⟨u,v,rfl⟩:=ho.two
  refine vV rfl (ym (zu (ym (zu (qD (acI ?_))))))
  rw [if_pos rfl]
  refine aaC hes (abd (zc (ya (yu (zf rfl ⟨_,rfl,zf rfl ⟨_,rfl,Or.inr ⟨by omega,by omega⟩,_,rfl,zf rfl ⟨_,rfl,zc (ya (yu (zf rfl ⟨_,rfl,zf rfl ⟨_,rfl,Or.inr ⟨by omega,by omega⟩,_,rfl,zf rfl ⟨_,rfl,zz ⟨_,rfl,agN rfl,.mk2,rfl⟩⟩⟩⟩)))⟩⟩⟩)))))
 refine zz ⟨_,rfl,agN rfl,b,ps.map fun p=>(p.1 * b+fr,p.2 * b - fr),(fr,-fr),by rw [ahC];rfl,b0,b1,by rw [agr];omega,by rw [agr];omega,fun p hp=>?_⟩
 obtain⟨z,hz,rfl⟩:=ahf.mp hp
 obtain⟨a1,a2,a3,a4⟩:=hnr z hz
 have m1:0<=z.1 * b/\z.1 * b<=100 * 1000000000:=⟨aif a1 (by omega),ajg a2 b1 (by omega) (by decide)⟩
 have m2:0<=z.2 * b/\z.2 * b<=100 * 1000000000:=⟨aif a3 (by omega),ajg a4 b1 (by omega) (by decide)⟩
 exact⟨by show fr<=z.1 * b+fr;omega,by show z.1 * b+fr<=fr+4398046511104;omega,by show -fr<=z.2 * b - fr;omega,by show z.2 * b - fr<=-fr+4398046511104;omega⟩
theorem Path.inv {E:Nat->Nat->Prop} {i j c:Nat} (p:Path E i j c):(i=j/\c=1) \/ ∃ k c',E i k/\Path E k j c'/\c=c'+1:=by
 induction p with
 | one=>exact .inl ⟨rfl,rfl⟩
 | snoc q e ih =>
  rcases ih with⟨rfl,rfl⟩ | ⟨k,c',e',p',rfl⟩
  ·exact .inr ⟨_,1,e,.one,rfl⟩
  ·exact .inr ⟨k,c'+1,e',.snoc p' e,rfl⟩
theorem Path.pos {E:Nat->Nat->Prop} {i j c:Nat} (p:Path E i j c):1<=c:=by
 cases p with
 | one=>exact agv _
 | snoc _ _=>exact Nat.succ_le_succ (agT _)
theorem aeo {ps:List Pt} {m:Int} {i j c:Nat} (p:Path (Ed ps m) i j c):i<=j:=by
 induction p with
 | one=>exact agv _
 | snoc _ e ih=>exact ag2 ih (ahB e.1)
structure Back (ps:List Pt) (m:Int) (b:Nat) (l:List Int):Prop where
 len:l.length=ps.length
 ok:∀ i,ps.length - 1 - b<=i->i<ps.length->∃ c:Nat,l[i]?=some (c:Int)/\Least (Ed ps m) i (ps.length - 1) c/\c<=ps.length - i
theorem ach {ps:List Pt} {m:Int} {b:Nat} {l:List Int} (h:Back ps m b l) (hb:b+1<ps.length) {k0:Nat} {B:Int} (h1:ps.length - 1 - (b+1)<k0) (h2:k0<ps.length) (h3:zD ps m (ps.length - 1 - (b+1)) k0=true) (h4:B=l.getD k0 0+1)
  (h5:∀ k,ps.length - 1 - (b+1)<k->k<ps.length->zD ps m (ps.length - 1 - (b+1)) k=true->B<=l.getD k 0+1):Back ps m (b+1) (l.set (ps.length - 1 - (b+1)) B):=by
 refine⟨by rw [ahA];exact h.len,fun i hi hi2=>?_⟩
 by_cases e:i=ps.length - 1 - (b+1)
 ·subst e
  obtain⟨c,e1,l1,u1⟩:=h.ok k0 (by omega) h2
  have g1:l.getD k0 0=(c:Int):=by rw [agp,e1];rfl
  refine⟨c+1,by rw [ag7 (by rw [h.len];omega),h4,g1];rfl,⟨.cons ⟨h1,h3⟩ l1.1,fun c' p=>?_⟩,by omega⟩
  rcases p.inv with⟨z,_⟩ | ⟨k,c2,e2,p2,rfl⟩
  ·omega
  ·have hk:k<ps.length:=by
    have:=aeo p2
    omega
   obtain⟨ck,eck,lk,_⟩:=h.ok k (by have:=e2.1;omega) hk
   have g2:l.getD k 0=(ck:Int):=by rw [agp,eck];rfl
   have h6:=h5 k e2.1 hk e2.2
   have h7:=lk.2 _ p2
   rw [h4,g1,g2] at h6
   omega
 ·obtain⟨c,e1,l1,u1⟩:=h.ok i (by omega) hi2
  exact⟨c,by rw [aho (ah5 e)];exact e1,l1,u1⟩
noncomputable abbrev aa2 (K:ags):Sp:=spD K 4 (fun (c:Pt×List Pt×Nat×Nat×Int) xs=>xs=[.dat (.list (c.2.1.map ptD)),.dat (.int c.2.2.1),.dat (.int c.2.2.2.1),.dat (.int c.2.2.2.2)]/\(∀ p∈c.2.1,Near c.1 p)/\c.2.2.1<c.2.2.2.1/\c.2.2.2.1<c.2.1.length/\c.2.1.length<=60/\0<=c.2.2.2.2/\c.2.2.2.2<=10 ^ 60) fun c r=>r=.bool (zD c.2.1 c.2.2.2.2 c.2.2.1 c.2.2.2.1)
theorem aep (F:Def K mg "_law_lets" yY ph) (uab:mg "range"=none) (uaF:FnIn P w K mg base k "_law_near" pD (abD K)):FnIn P w K mg base (k+1) "_law_lets" ph (aa2 K):=by
 refine F.ok sc_law_lets rfl fun fa cdv A outer s H E hr=>⟨_,(zd (y8 ahh rfl (yI rfl uab (za (zg zK (pv 1) zb) (za (pv 2) ze))) (zE (i:=4) sc_law_lets.nd rfl (Or.inl rfl) (Or.inr rfl)) (zm (yH (jN (yn (K:=K) rfl (zw uaF hr rfl (za (zv (zt (K:=K) rfl) (pv 0) (pv 1) (fun _ _=>rfl)) (za (zv (zt (K:=K) rfl) (pv 0) (pv 2) (fun _ _=>rfl)) (za (zv (zt (K:=K) rfl) (pv 0) (pv 4) (fun _ _=>rfl)) (za (pv 3) ze))))) (fun _=>rfl))) (zm (zF y7)) zU))) (zm (zF y7))),?_⟩
 rintro f xs ⟨o,ps,i,j,m⟩ hl ⟨rfl,hn,hij,hj,h60,m0,m1⟩
 try dsimp only [yF,zj]
 dsimp only at *
 have l1:i<ps.length:=by omega
 refine yz (abe (je (zc (ya (zf rfl ⟨_,rfl,zr ⟨_,rfl,zc (zf rfl (zz ⟨_,_,rfl,by omega,?_⟩))⟩⟩)))))
 refine⟨fun q ρ=>∃ x4,ρ=[some (.dat (.list (ps.map ptD))),some (.dat (.int i)),some (.dat (.int j)),some (.dat (.int m)),x4]/\∀ t,i<t->t<i+1+q->nearF m (atP ps t) (atP ps i) (atP ps j)=true,⟨_,rfl,fun t h1 h2=>by omega⟩,?_,?_⟩
 ·rintro q d _ hd2 ⟨x4,rfl,hq⟩
  obtain⟨rfl,hq1⟩:=jl hd2
  have e3:(i:Int)+1+(q:Int)=((i+1+q:Nat):Int):=by omega
  rw [e3]
  refine zu (vU (qC (jq (zR (o,atP ps i,atP ps j,atP ps (i+1+q),m) (zc (yb (zf rfl ⟨_,rfl,zf rfl ⟨_,rfl,_,aak l1,zc (yb (zf rfl ⟨_,rfl,zf rfl ⟨_,rfl,_,aak hj,zc (yb (zf rfl ⟨_,rfl,zf rfl ⟨_,rfl,_,aak (by omega),zc (zf rfl (zz ⟨rfl,⟨rfl,jL hn l1,jL hn hj,jL hn (by omega),m0,m1⟩,?_⟩))⟩⟩))⟩⟩))⟩⟩)))))))
  rintro _ rfl
  refine⟨_,rfl,?_⟩
  dsimp only
  cases en:nearF m (atP ps (i+1+q)) (atP ps i) (atP ps j) with
  | true =>
   rw [ahk,if_neg agz]
   refine j9 ⟨_,rfl,fun t h1 h2=>?_⟩
   by_cases e:t=i+1+q
   ·rw [e];exact en
   ·exact hq t h1 (by omega)
  | false =>
   rw [ajd,if_pos rfl]
   refine qe (abS ?_)
   have:zD ps m i j=false:=by
    cases e:zD ps m i j with
    | false=>rfl
    | true =>
     have:=(vj (by omega)).mp e (i+1+q) (by omega) (by omega)
     rw [en] at this
     cases this
   rw [this]
 ·rintro _ ⟨x4,rfl,hq⟩
  refine qe (abS ?_)
  have:zD ps m i j=true:=(vj (by omega)).mpr fun t h1 h2=>hq t h1 (by unfold zS;simp;omega)
  rw [this]
noncomputable abbrev aap (K:ags):Sp:=spD K 2 (fun (c:Pt×List Pt×Int) xs=>xs=[.dat (.list (c.2.1.map ptD)),.dat (.int c.2.2)]/\(∀ p∈c.2.1,Near c.1 p)/\2<=c.2.1.length/\c.2.1.length<=60/\0<=c.2.2/\c.2.2<=10 ^ 60) fun c r=>r=.int (jJ c.2.1 c.2.2)
theorem aci (F:Def K mg "_law_least" yC pE) (uaa:mg "len"=none) (uab:mg "range"=none) (uai:FnIn P w K mg base k "_law_lets" ph (aa2 K)):FnIn P w K mg base (k+1) "_law_least" pE (aap K):=by
 refine F.ok sc_law_least rfl fun fa cdv A outer s H E hr=>⟨_,(zd (zy (i:=2) sc_law_least.nd rfl (Or.inl rfl) (zg zB (zx (zH (K:=K) rfl) rfl uaa ag0 (za (pv 0) ze)) zb)) (zd (j7 (i:=3) (N:=["_law_point"]) (own:=1) (fr:=[]) ⟨rfl,by decide +kernel,of_decide_eq_true (by kernel_rfl),of_decide_eq_true (by kernel_rfl),of_decide_eq_true (by kernel_rfl),rfl⟩ rfl sc_law_least.nd rfl (Or.inl rfl) (qG (K:=K) rfl (pv 0)) (fun _ _ _ _=>(zE (i:=0) (show (["_law_point"]:List Str).Nodup by decide +kernel) rfl (Or.inl rfl) (Or.inr rfl))) (fun _ _ _ _=>aa9) (fun _ _ _ _=>zb) rfl rfl (fun _=>rfl) (Or.inl rfl) rfl) (zd (y8 ahh rfl (yI rfl uab (za zb (za (zx (zH (K:=K) rfl) rfl uaa ag0 (za (pv 0) ze)) ze))) (zE (i:=4) sc_law_least.nd rfl (Or.inl rfl) (Or.inr rfl)) (zd (zy (i:=5) sc_law_least.nd rfl (Or.inl rfl) (zg zB (pv 2) (pv 4))) (zd (zy (i:=6) sc_law_least.nd rfl (Or.inl rfl) (zg zK (zx (zH (K:=K) rfl) rfl uaa ag0 (za (pv 0) ze)) zb)) (zd (y8 ahh rfl (yI rfl uab (za (zg zK (pv 5) zb) (za (zx (zH (K:=K) rfl) rfl uaa ag0 (za (pv 0) ze)) ze))) (zE (i:=7) sc_law_least.nd rfl (Or.inl rfl) (Or.inr rfl)) (zm (yH (PW.pt (aeT (zV afK (zg zK (zv (zt (K:=K) rfl) (pv 3) (pv 7) (fun _ _=>rfl)) zb) (pv 6) (zP _)) (adx (yn (K:=K) rfl (zw uai hr rfl (za (pv 0) (za (pv 5) (za (pv 7) (za (pv 1) ze))))) (fun _=>rfl))))) (zm (zy (i:=6) sc_law_least.nd rfl (Or.inl rfl) (zg zK (zv (zt (K:=K) rfl) (pv 3) (pv 7) (fun _ _=>rfl)) zb))) zU))) (zm (jO (pv 6) (aaq (pv 3) (pv 5) set_list))))))) (zm (zF (zv (zt (K:=K) rfl) (pv 3) zb (fun _ _=>rfl))))))),?_⟩
 rintro f xs ⟨o,ps,m⟩ hl ⟨rfl,hn,h2,h60,m0,m1⟩
 try dsimp only [yF,zj]
 dsimp only at *
 have elen:((ps.map ptD).length:Int) - 1=((ps.length - 1:Nat):Int):=by rw [agr];omega
 refine yz (y2 (ya (jc (zc (zf rfl (zz (.inl ⟨_,rfl,_,rfl,zr ⟨_,rfl,?_⟩⟩)))))))
 rw [elen]
 refine zu (afo (w:=w) (af3 (qp (aeF (A:=ptD) (B:=fun _=>PyData.int 1) ps (aaB (zf rfl ⟨_,rfl,rfl,by omega,?_,?_⟩))))))
 ·rintro Dl z ρ' es hz ho hes
  obtain⟨u,rfl⟩:=ho.one
  refine zu (acI ?_)
  rw [if_pos rfl]
  exact aaC hes (zr ⟨.mk1,rfl⟩)
 refine⟨show 3<8 by decide,fun D=>?_⟩
 have b0:Back ps m 0 (ps.map fun _=>(1:Int)):=⟨by rw [agr],fun i hi hi2=>⟨1,by rw [agy,agq hi2];rfl,by
   have:i=ps.length - 1:=by omega
   subst this
   exact⟨.one,fun c' p=>p.pos⟩,by omega⟩⟩
 have eb:ps.map (fun _=>PyData.int 1)=(ps.map fun _=>(1:Int)).map PyData.int:=by rw [ahC];rfl
 rw [eb]
 generalize ps.map (fun _=>(1:Int))=l0 at b0
 show PSm w K f [D] _ [some (.dat (.list (ps.map ptD))),some (.dat (.int m)),some (.dat (.int ((ps.length - 1:Nat):Int))),some (.own (f.M.length+0)),none,none,none,none] [OC.lst (l0.map .int)] _
 refine qf (acY (je (zc (zr (zc (jc (zc (zf rfl (zz (.inl ⟨_,rfl,zz ⟨1,_,rfl,?_,?_⟩⟩))))))))))
 ·rw [agr];omega
 rw [agr]
 have rl:(zS 1 (ps.length:Int)).length=ps.length - 1:=by unfold zS;simp
 refine⟨fun n ρ cs=>∃ x4 x5 x6 x7 l,ρ=[some (.dat (.list (ps.map ptD))),some (.dat (.int m)),some (.dat (.int ((ps.length - 1:Nat):Int))),some (.own (f.M.length+0)),x4,x5,x6,x7]/\cs=[OC.lst (l.map .int)]/\Back ps m n l,⟨_,_,_,_,l0,rfl,rfl,b0⟩,?_,?_⟩
 ·rintro n d _ _ hd ⟨x4,x5,x6,x7,l,rfl,rfl,hB⟩
  obtain⟨rfl,hn1⟩:=jl hd
  obtain⟨jn,hjn⟩:∃ jn,jn=ps.length - 1 - (n+1):=⟨_,rfl⟩
  have ej:((ps.length - 1:Nat):Int) - (1+(n:Int))=((jn:Nat):Int):=by omega
  have ll:=hB.len
  refine zu (qf (qg (jz (ya (zf rfl ⟨_,rfl,zf rfl ⟨_,rfl,?_⟩⟩)))))
  rw [ej]
  refine qf (qg (jz (ya (jc (zc (zf rfl (zz (.inl ⟨_,rfl,_,rfl,zr ⟨_,rfl,?_⟩⟩))))))))
  rw [agr]
  refine qf (acY (je (zc (ya (zf rfl ⟨_,rfl,zr ⟨_,rfl,zc (jc (zc (zf rfl (zz (.inl ⟨_,rfl,zz ⟨_,_,rfl,?_,?_⟩⟩)))))⟩⟩)))))
  ·rw [agr];omega
  rw [agr]
  have rl2:(zS ((jn:Int)+1) (ps.length:Int)).length=ps.length - (jn+1):=by unfold zS;simp;omega
  refine⟨fun q ρ cs=>∃ x7 B,ρ=[some (.dat (.list (ps.map ptD))),some (.dat (.int m)),some (.dat (.int ((ps.length - 1:Nat):Int))),some (.own (f.M.length+0)),some (.dat (.int (1+(n:Int)))),some (.dat (.int (jn:Int))),some (.dat (.int B)),x7]/\cs=[OC.lst (l.map .int)] /\
   ((q=0/\B=(ps.length:Int)+1) \/ ((∃ k0,jn<k0/\k0<jn+1+q/\zD ps m jn k0=true/\B=l.getD k0 0+1)/\∀ k,jn<k->k<jn+1+q->zD ps m jn k=true->B<=l.getD k 0+1)),⟨_,_,rfl,rfl,.inl ⟨rfl,rfl⟩⟩,?_,?_⟩
  ·rintro q d _ _ hd2 ⟨x7,B,rfl,rfl,hq⟩
   obtain⟨rfl,hq1⟩:=jl hd2
   have e3:(jn:Int)+1+(q:Int)=((jn+1+q:Nat):Int):=by omega
   rw [e3]
   have hkl:jn+1+q<l.length:=by omega
   have gk:=qP (ns:=l) (j:=jn+1+q) rfl hkl
   have sp:(q=0->B=(ps.length:Int)+1):=fun z=>by
    rcases hq with⟨_,h⟩ | ⟨⟨k0,a1,a2,_⟩,_⟩
    ·exact h
    ·omega
   refine zu (agl (ad2 ?_))
   generalize hfu:l.map PyData.int=fu at gk
   have ee:ait (freed f.M.length [OC.lst fu]) [some (.dat (.list (ps.map ptD))),some (.dat (.int m)),some (.dat (.int ((ps.length - 1:Nat):Int))),some (.own (f.M.length+0)),some (.dat (.int (1+(n:Int)))),some (.dat (.int (jn:Int))),some (.dat (.int B)),some (.dat (.int ((jn+1+q:Nat):Int)))]=[some (.dat (.list (ps.map ptD))),some (.dat (.int m)),some (.dat (.int ((ps.length - 1:Nat):Int))),some (.dat (.list fu)),some (.dat (.int (1+(n:Int)))),some (.dat (.int (jn:Int))),some (.dat (.int B)),some (.dat (.int ((jn+1+q:Nat):Int)))]:=by simp [freed]
   show PTd K f _ (ait (freed f.M.length [OC.lst fu]) [some (.dat (.list (ps.map ptD))),some (.dat (.int m)),some (.dat (.int ((ps.length - 1:Nat):Int))),some (.own (f.M.length+0)),some (.dat (.int (1+(n:Int)))),some (.dat (.int (jn:Int))),some (.dat (.int B)),some (.dat (.int ((jn+1+q:Nat):Int)))]) _
   rw [ee]
   refine aeC (yv (aeA (ya (yb (zf rfl ⟨_,rfl,zf rfl ⟨_,rfl,_,gk,_,rfl,zr ⟨_,rfl,_,rfl,zf rfl ⟨_,rfl,_,rfl,?_⟩⟩⟩⟩)))))
   have lb:l.getD (jn+1) 0+1<(ps.length:Int)+1:=by
    clear hq sp
    obtain⟨c,e1,_,u1⟩:=hB.ok (jn+1) (by omega) (by omega)
    rw [agp,e1]
    show (c:Int)+1<_
    omega
   have keepG:(¬ (l.getD (jn+1+q) 0+1<B) \/ zD ps m jn (jn+1+q)=false)->((∃ k0,jn<k0/\k0<jn+1+(q+1)/\zD ps m jn k0=true/\B=l.getD k0 0+1)/\∀ k,jn<k->k<jn+1+(q+1)->zD ps m jn k=true->B<=l.getD k 0+1):=fun z=>by
    rcases hq with⟨h0,hb⟩ | ⟨⟨k0,a1,a2,a3,a4⟩,h⟩
    ·exfalso
     subst h0
     rcases z with z | z
     ·exact z (by rw [hb];exact lb)
     ·have:=qO ps m jn
      rw [Nat.add_zero] at z
      rw [z] at this
      cases this
    ·refine⟨⟨k0,a1,by omega,a3,a4⟩,fun k k1 k2 k3=>?_⟩
     by_cases e:k=jn+1+q
     ·subst e
      rcases z with z | z
      ·omega
      ·rw [z] at k3;cases k3
     ·exact h k k1 (by omega) k3
   have takeG:l.getD (jn+1+q) 0+1<B->zD ps m jn (jn+1+q)=true->((∃ k0,jn<k0/\k0<jn+1+(q+1)/\zD ps m jn k0=true/\l.getD (jn+1+q) 0+1=l.getD k0 0+1)/\∀ k,jn<k->k<jn+1+(q+1)->zD ps m jn k=true->l.getD (jn+1+q) 0+1<=l.getD k 0+1):=fun z1 z2=>by
    refine⟨⟨jn+1+q,by omega,by omega,z2,rfl⟩,fun k k1 k2 k3=>?_⟩
    by_cases e:k=jn+1+q
    ·subst e;exact ajr _
    ·rcases hq with⟨h0,hb⟩ | ⟨_,h⟩
     ·omega
     ·have:=h k k1 (by omega) k3
      omega
   refine aaj (fun h=>?_) fun h=>?_
   ·refine jq (zR (o,ps,jn,jn+1+q,m) (zc (zf rfl (zc (zf rfl (zc (zf rfl (zc (zf rfl (zz ⟨rfl,⟨rfl,hn,by show jn<jn+1+q;omega,by show jn+1+q<ps.length;omega,h60,m0,m1⟩,?_⟩))))))))))
    rintro _ rfl
    refine⟨_,rfl,?_⟩
    dsimp only
    refine aaj (fun h2=>?_) fun h2=>?_
    ·subst hfu
     refine qg (adg (ac2 (j:=0) rfl rfl (jz (zf rfl ⟨_,rfl,_,gk,_,rfl,jz (zr ⟨_,rfl,_,_,rfl,rfl,.inr (takeG (of_decide_eq_true h) h2)⟩)⟩))))
    ·exact acX ⟨_,B,rfl,by first | rfl | rw [hfu],.inr (keepG (.inr h2))⟩
   ·exact acX ⟨_,B,rfl,by first | rfl | rw [hfu],.inr (keepG (.inl (of_decide_eq_false h)))⟩
  ·rintro _ _ ⟨x7,B,rfl,rfl,hq⟩
   rw [rl2] at hq
   rcases hq with⟨h0,_⟩ | ⟨⟨k0,a1,a2,a3,a4⟩,hmin⟩
   ·omega
   have hix:ixN (l.map PyData.int).length ((jn:Nat):Int)=some jn:=by
    unfold ixN
    rw [if_pos (by omega),if_pos (by rw [agr];omega),agQ]
   refine afs (j:=0) rfl rfl (jz (zf rfl (jz (zf rfl ⟨_,jn,rfl,hix,_,_,_,_,l.set jn B,rfl,?_,?_⟩))))
   ·show [OC.lst ((l.map PyData.int).set jn (.int B))]=_
    rw [List.map_set]
   ·rw [hjn] at a1 a2 a3 hmin ⊢
    exact ach hB (by omega) a1 (by omega) a3 a4 fun k k1 k2 k3=>hmin k k1 (by omega) k3
 ·rintro _ _ ⟨x4,x5,x6,x7,l,rfl,rfl,hB⟩
  rw [rl] at hB
  obtain⟨c,e1,l1,_⟩:=hB.ok 0 (by omega) (by omega)
  have ll:=hB.len
  have g0:=qP (ns:=l) (j:=0) rfl (by omega)
  have ef:l.getD 0 0=jJ ps m:=by
   rw [agp,e1,(jK ps m (by omega)).2,l1.one (acf ps m (by omega))]
   rfl
  rw [ef] at g0
  exact af4 (ac2 (j:=0) rfl rfl (jz (zr ⟨_,rfl,_,g0,rfl⟩)))
theorem getD_mem {r:List Nat} {j:Nat} (h:j<r.length):r.getD j 0∈r:=by
 rw [agp,agq h]
 exact ahx h
theorem ite_no {b:Bool} {p q:Prop} (h:b=false) (hq:q):if b=true then p else q:=by
 rw [h,if_neg agz]
 exact hq
theorem lay_ints:∀ ns:List Int,ahV (ns.map PyData.int)=true/\ahs (ns.map PyData.int)=0
 | []=>⟨rfl,rfl⟩
 | n :: ns=>⟨by show (true && ahV (ns.map PyData.int))=true;rw [(lay_ints ns).1];rfl,by show max 0 (ahs (ns.map PyData.int))=0;rw [(lay_ints ns).2];rfl⟩
theorem adt:∀ {l m:List Int},l.Pairwise (·<·)->m.Pairwise (·<·)->(∀ d,d∈l↔d∈m)->l=m
 | [],[],_,_,_=>rfl
 | [],b :: m,_,_,h=>absurd ((h b).mpr agD) (by simp)
 | a :: l,[],_,_,h=>absurd ((h a).mp agD) (by simp)
 | a :: l,b :: m,hl,hm,h=>by
  obtain⟨l1,l2⟩:=ah6.mp hl
  obtain⟨m1,m2⟩:=ah6.mp hm
  have e:a=b:=by
   rcases agC.mp ((h a).mp agD) with z | z
   ·exact z
   ·rcases agC.mp ((h b).mpr agD) with y | y
    ·exact y.symm
    ·have:=l1 b y
     have:=m1 a z
     omega
  subst e
  refine congrArg _ (adt l2 m2 fun d=>⟨fun hd=>?_,fun hd=>?_⟩)
  ·rcases agC.mp ((h d).mp (agw _ hd)) with z | z
   ·have:=l1 d hd;omega
   ·exact z
  ·rcases agC.mp ((h d).mpr (agw _ hd)) with z | z
   ·have:=m1 d hd;omega
   ·exact z
theorem aeM:∀ {us ns:List Int},us.Nodup->(∀ x∈us,x∈ns)->us.length<=ns.length
 | [],_,_,_=>agT _
 | u :: us,ns,hu,hs=>by
  obtain⟨h1,h2⟩:=ahr.mp hu
  have hm:=hs u agD
  have:=aeM (ns:=ns.erase u) h2 fun x hx=>(List.mem_erase_of_ne (fun (z:x=u)=>h1 (by rw [<-z];exact hx))).mpr (hs x (agw _ hx))
  rw [List.length_erase_of_mem hm] at this
  have:=List.length_pos_of_mem hm
  rw [agM]
  omega
theorem Row.up {ps:List Pt} {m:Int} {r:List Nat} {j:Nat} (h:Row (Ed ps m) r j):r.Pairwise (·<·):=by
 induction h with
 | one=>exact aiU _ _
 | snoc q e ih =>
  refine List.pairwise_append.mpr ⟨ih,aiU _ _,fun a ha b hb=>?_⟩
  rw [agO.mp hb]
  exact Nat.lt_of_le_of_lt (q.bnd.1 a ha) e.1
noncomputable def zZ (ps:List Pt) (m:Int):List Int:=(yc ps m).map fun (i:Nat)=>(i:Int)
noncomputable abbrev abE (K:ags):Sp:=spD K 3 (fun (c:Pt×List Pt×Int) xs=>xs=[.dat (.list (c.2.1.map ptD)),.dat (.int c.2.2),.dat (.tuple [.int (jJ c.2.1 c.2.2),.list ((zZ c.2.1 c.2.2).map .int)])]/\(∀ p∈c.2.1,Near c.1 p)/\2<=c.2.1.length/\c.2.1.length<=60/\0<=c.2.2/\c.2.2<=10 ^ 60) fun c r=>r=.bool true
theorem adu (F:Def K mg "_law_right" yD pF) (uaa:mg "len"=none) (uab:mg "range"=none) (uag:mg "isinstance"=none) (uaj:mg "tuple"=none) (uaf:mg "list"=none) (uak:mg "bool"=none) (ual:mg "sorted"=none) (uam:mg "set"=none)
  (kt1:agZ K (.type "tuple") (.type "tuple")=some true) (kt2:agZ K (.type "list") (.type "list")=some true) (kt3:agZ K (.type "int") (.type "bool")=some false)
  (uai:FnIn P w K mg base k "_law_lets" ph (aa2 K)) (uaG:FnIn P w K mg base k "_law_least" pE (aap K)):FnIn P w K mg base (k+1) "_law_right" pF (abE K):=by
 refine F.ok sc_law_right rfl fun fa cdv A outer s H E hr=>⟨_,(zd (yH (PW.pt (qU (jN (yn (K:=K) rfl (zx (jV (K:=K) rfl) rfl uag boot_isinstance (za (pv 2) (za (vn (v:=.ty "tuple") rfl uaj PyProof.Rows.boot_tuple rfl) ze))) (fun _=>rfl))) (qU (zV (jw (K:=K) rfl hr.units) (zx (zH (K:=K) rfl) rfl uaa ag0 (za (pv 2) ze)) zb (zP _)) (vo (jN (yn (K:=K) rfl (zx (jV (K:=K) rfl) rfl uag boot_isinstance (za (zv (zC (K:=K) rfl) (pv 2) zb (fun _ _=>rfl)) (za (vn (v:=.ty "list") rfl uaf aih rfl) ze))) (fun _=>rfl))))))) (zm (zF y7)) zU) (zd (jO (pv 2) (yT (K:=K) (n:=2) rfl rfl (zI (zE (i:=3) sc_law_right.nd rfl (Or.inl rfl) (Or.inr rfl)) (zI (zE (i:=4) sc_law_right.nd rfl (Or.inl rfl) (Or.inr rfl)) yN)))) (zd (yH (PW.pt (qU (yn (K:=K) rfl (zx (jV (K:=K) rfl) rfl uag boot_isinstance (za (pv 3) (za (vn (v:=.ty "bool") rfl uak PyProof.Rows.boot_bool rfl) ze))) (fun _=>rfl)) (qU (zV (jw (K:=K) rfl hr.units) (pv 3) (zx (zH (K:=K) rfl) rfl uaa ag0 (za (pv 4) ze)) (zP _)) (vo (zV (jw (K:=K) rfl hr.units) (pv 4) (zx (aae (w:=w) rfl rfl) rfl ual PyProof.Rows.boot_sorted (za (jj (aaL (w:=w) (K:=K) rfl rfl rfl) rfl uam PyProof.Rows.boot_set (za (pv 4) ze)) ze)) (zP _)))))) (zm (zF y7)) zU) (zd (yH (PW.pt (qU (zV (jw (K:=K) rfl hr.units) (vP (vY (K:=K) rfl) (pv 4) adG (vp zb)) (yg (za zb ze)) (zP _)) (vo (zV (jw (K:=K) rfl hr.units) (zv (zt (K:=K) rfl) (pv 4) (acp aas zb) (fun _ _=>rfl)) (zg zB (zx (zH (K:=K) rfl) rfl uaa ag0 (za (pv 0) ze)) zb) (zP _))))) (zm (zF y7)) zU) (zd (y8 ahh rfl (yI rfl uab (za zb (za (zx (zH (K:=K) rfl) rfl uaa ag0 (za (pv 4) ze)) ze))) (zE (i:=5) sc_law_right.nd rfl (Or.inl rfl) (Or.inr rfl)) (zm (yH (jN (yn (K:=K) rfl (zw uai hr rfl (za (pv 0) (za (zv (zt (K:=K) rfl) (pv 4) (zg zB (pv 5) zb) (fun _ _=>rfl)) (za (zv (zt (K:=K) rfl) (pv 4) (pv 5) (fun _ _=>rfl)) (za (pv 1) ze))))) (fun _=>rfl))) (zm (zF y7)) zU))) (zm (zF (ji (acG (K:=K) rfl hr.units) (pv 3) (zw uaG hr rfl (za (pv 0) (za (pv 1) ze))) (zP _))))))))),?_⟩
 rintro f xs ⟨o,ps,m⟩ hl ⟨rfl,hn,h2,h60,m0,m1⟩
 try dsimp only [yF,zj]
 dsimp only at *
 have hrow:=jK ps m (by omega)
 have hfx:=hrow.1.facts
 have hbd:=hrow.1.bnd
 refine yz (vU (aaz (qC (jq (afR kt1 (zf rfl ⟨_,rfl,_,rfl,?_⟩))))))
 rw [ahk,if_neg agz]
 refine aaz (yv (jC (jc (zc (zf rfl (zz (.inr ⟨_,rfl,zr ⟨rfl,rfl,by show min 0 0<=60;decide,_,rfl,?_⟩⟩)))))))
 rw [if_pos rfl]
 refine ite_no rfl ?_
 refine qC (jq (afQ kt2 (aeB (zf rfl ⟨_,rfl,zr ⟨1,rfl,_,rfl,_,rfl,_,rfl,?_⟩⟩))))
 rw [ahk,if_neg agz]
 refine j9 (yz (y2 (zf rfl (vV rfl (ym (zu (ym (zu (qD ?_)))))))))
 refine yz (vU (aaz (jq (afY kt3 (zf rfl ⟨_,rfl,_,rfl,?_⟩)))))
 rw [if_neg agz]
 have kl:(zZ ps m).length=(yc ps m).length:=by unfold zZ;rw [agr]
 have kup:(zZ ps m).Pairwise (·<·):=by
  unfold zZ
  rw [ahU]
  exact hrow.1.up.imp fun h=>Int.ofNat_lt.mpr h
 have lay:=lay_ints (zZ ps m)
 have lay1:(PyData.list ((zZ ps m).map .int)).canLay0=true:=lay.1
 have dep:∀ d,min (PyData.list ((zZ ps m).map .int)).depth d<=60:=fun d=>ag2 (ai4 _ _) (by show ahs ((zZ ps m).map .int)+1<=60;rw [lay.2];decide)
 refine aaz (yv (jC (zf rfl (jc (zc (zf rfl (zz (.inl ⟨_,rfl,rfl,rfl,by show min 0 0<=60;decide,_,rfl,?_⟩))))))))
 rw [if_pos rfl]
 refine ite_no (by rw [agr,kl,hrow.2,ahM _ rfl];rfl) ?_
 refine yv (jC (zf rfl (aaO (zf rfl ⟨_,rfl,fun us u1 u2=>?_,fun ms s1 s2=>⟨lay1,?_⟩⟩))))
 ·have:=aeM u1 u2
  rw [kl] at this
  omega
 rw [adt s1 kup s2]
 refine⟨lay1,dep _,_,rfl,?_⟩
 rw [if_pos rfl]
 refine ite_no (by rw [ahM _ lay1];rfl) (j9 ?_)
 have kpos:0<(zZ ps m).length:=by rw [kl];exact hfx.2.2.1
 have k0:(zZ ps m).take 1=[0]:=by
  unfold zZ
  rw [<-air]
  have:(yc ps m).take 1=[0]:=by
   have h:=hfx.1
   cases e:yc ps m with
   | nil=>rw [e] at h;cases h
   | cons a r=>rw [e] at h;cases h;rfl
  rw [this]
  rfl
 have kg:∀ t,t<(yc ps m).length->(zZ ps m).getD t 0=(((yc ps m).getD t 0:Nat):Int):=fun t ht=>by
  unfold zZ
  rw [agp,agy,agq ht,agp,agq ht]
  rfl
 have klast:atI ((zZ ps m).map PyData.int) (-1)=some (.int ((ps.length - 1:Nat):Int)):=by
  unfold atI ixN
  rw [if_neg (by decide),if_pos (by rw [agr];omega),agr]
  show ((zZ ps m).map PyData.int)[_]?=_
  have e:((-1:Int)+(((zZ ps m).length:Nat):Int)).toNat=(yc ps m).length - 1:=by omega
  rw [e,agy]
  unfold zZ
  rw [agy,hfx.2.1]
  rfl
 have ecut:L2.cutD ((zZ ps m).map PyData.int) none (some ((1:Nat):Int))=[PyData.int 0]:=by rw [L2.cut_upto,<- air,k0];rfl
 refine yz (vU (aaz (yv (jC (acL (zf rfl ⟨_,rfl,aeE (abg (zr ⟨((1:Nat):Int),rfl,?_⟩))⟩))))))
 rw [ecut]
 refine j8 (zc (zr (zz ⟨_,rfl,agN rfl,rfl,rfl,agN rfl,_,rfl,?_⟩)))
 rw [if_pos rfl]
 refine ite_no (by rw [ahM _ rfl];rfl) ?_
 refine yv (jC (yb (zf rfl ⟨_,rfl,acM (zr ⟨1,rfl,_,rfl,_,klast,ya (jc (zc (zf rfl (zz (.inl ⟨_,rfl,_,rfl,zr ⟨_,rfl,rfl,rfl,by show min 0 0<=60;decide,_,rfl,?_⟩⟩)))))⟩)⟩)))
 rw [if_pos rfl]
 have el:((ps.map ptD).length:Int) - 1=((ps.length - 1:Nat):Int):=by rw [agr];omega
 refine ite_no (by rw [el,ahM _ rfl];rfl) (j9 ?_)
 refine yz (abe (je (zc (zr (zc (jc (zc (zf rfl (zz (.inl ⟨_,rfl,zz ⟨1,_,rfl,?_,?_⟩⟩))))))))))
 ·rw [agr];omega
 rw [agr]
 refine⟨fun n ρ=>∃ x5,ρ=[some (.dat (.list (ps.map ptD))),some (.dat (.int m)),some (.dat (.tuple [.int (jJ ps m),.list ((zZ ps m).map .int)])),some (.dat (.int (jJ ps m))),some (.dat (.list ((zZ ps m).map .int))),x5],⟨_,rfl⟩,?_,?_⟩
 ·rintro n d _ hd ⟨x5,rfl⟩
  obtain⟨rfl,hn1⟩:=jl hd
  have e1:(n:Int)=1+(n:Int) - 1:=by omega
  have e2:((n+1:Nat):Int)=1+(n:Int):=by omega
  have g1:=qP e1 (ns:=zZ ps m) (by omega)
  have g2:=qP e2 (ns:=zZ ps m) (by omega)
  rw [kg n (by omega)] at g1
  rw [kg (n+1) (by omega)] at g2
  have ed:=hfx.2.2.2 n (by omega)
  have hlt:(yc ps m).getD (n+1) 0<ps.length:=by
   have:=hbd.1 _ (getD_mem (r:=yc ps m) (j:=n+1) (by omega))
   omega
  refine zu (vU (qC (jq (zR (o,ps,(yc ps m).getD n 0,(yc ps m).getD (n+1) 0,m) (zc (zf rfl (zc (yb (zf rfl ⟨_,rfl,ya (zf rfl ⟨_,rfl,zr ⟨_,rfl,_,rfl,_,g1,zc (yb (zf rfl ⟨_,rfl,zf rfl ⟨_,rfl,_,g2,zc (zf rfl (zz ⟨rfl,⟨rfl,hn,ed.1,hlt,h60,m0,m1⟩,?_⟩))⟩⟩))⟩⟩)⟩)))))))))
  rintro _ rfl
  refine⟨_,rfl,?_⟩
  refine ite_no (by rw [ed.2];rfl) (j9 ⟨_,rfl⟩)
 ·rintro _ ⟨x5,rfl⟩
  refine qe (jC (zf rfl (zR (o,ps,m) (zc (zf rfl (zc (zf rfl (zz ⟨rfl,⟨rfl,hn,h2,h60,m0,m1⟩,?_⟩))))))))
  rintro _ rfl
  refine⟨rfl,rfl,by show min 0 0<=60;decide,?_⟩
  rw [if_neg agz,ahM _ rfl]
theorem vI:∀ ps:List Pt,(PyData.list (ps.map ptD)).canLay0=true/\ahs (ps.map ptD)<=1
 | []=>⟨rfl,agT _⟩
 | p :: ps=>⟨by show (true && ahV (ps.map ptD))=true;rw [show ahV (ps.map ptD)=true from (vI ps).1];rfl,by
   show max 1 (ahs (ps.map ptD))<=1
   have:=(vI ps).2
   omega⟩
theorem afE {f:Addr} {fd:FuncData} (F:Fun K "law" "law" qi f fd) (uaa:mg "len"=none) (uab:mg "range"=none) (uae:mg "max"=none) (uad:mg "min"=none) (uaf:mg "list"=none) (uan:mg "int"=none)
  (uaH:FnIn P w K mg base k "_law_feed" pB (aa0 K)) (uac:FnIn P w K mg base k "_law_draw" pf (aa1 K)) (uaA:FnIn P w K mg base k "least_kept" pq (abA K))
  (uaI:FnIn P w K mg base k "_law_points" pC (aao K)) (uaJ:FnIn P w K mg base k "_law_right" pF (abE K)) :
  FnOk P w K mg base CX0 (k+1) f fd pG (abC K):=by
 refine F.ok sc_law (fun vs H Q E h=>?_) fun cdv A outer s H vs Q E hr hs=>⟨_,(zd (y8 ahh rfl (jP rfl uab (za (zx (jS rfl) rfl uae boot_max (za zb (za (zx (qV rfl) rfl uad boot_min (za zb (za (zx (zH (K:=K) rfl) rfl uaa ag0 (za (pv 0) ze)) ze))) ze))) ze)) (zE (i:=1) sc_law.nd rfl (Or.inl rfl) (Or.inr rfl)) (zd (zy (i:=2) sc_law.nd rfl (Or.inl rfl) (zw uaH hr rfl (za (pv 0) (za (pv 1) ze)))) (zd (jO (zw uaI hr rfl (za (pv 2) (za (zv (zt (K:=K) rfl) (yg (za zb (za zb ze))) (jj abK rfl uan PyProof.Rows.boot_int (za (ji (acG (K:=K) rfl hr.units) (pv 1) zb (zP _)) ze)) (fun _ _=>rfl)) ze))) (yT (K:=K) (n:=2) rfl rfl (zI (zE (i:=3) sc_law.nd rfl (Or.inl rfl) (Or.inr rfl)) (zI (zE (i:=4) sc_law.nd rfl (Or.inl rfl) (Or.inr rfl)) yN)))) (zd (zy (i:=5) sc_law.nd rfl (Or.inl rfl) (zv (zt (K:=K) rfl) (yg (za zb (za (pv 3) (za (zg yP (pv 3) (zg zK zb (zw uac hr rfl (za (pv 2) (za zb ze))))) (za (zg qx zb zb) ze))))) (zw uac hr rfl (za (pv 2) (za zb ze))) (fun _ _=>rfl))) (zd (zy (i:=6) sc_law.nd rfl (Or.inl rfl) (jj (qF (K:=K) rfl) rfl uaf aih (za (pv 4) ze))) (zd (zy (i:=7) sc_law.nd rfl (Or.inl rfl) (zw uaA hr rfl (za (pv 4) (za (pv 5) ze)))) (zd (yH (PW.pt (qU (jN (yn (K:=K) rfl (zw uaJ hr rfl (za (pv 6) (za (pv 5) (za (pv 7) ze)))) (fun _=>rfl))) (vo (zV (jw (K:=K) rfl hr.units) (pv 4) (pv 6) (zP _))))) (zm (zF y7)) zU) (zd (zy (i:=8) sc_law.nd rfl (Or.inl rfl) (jT (za (zv (zC (K:=K) rfl) (pv 7) zb (fun _ _=>rfl)) (za (jj (qF (K:=K) rfl) rfl uaf aih (za (zv (zC (K:=K) rfl) (pv 7) zb (fun _ _=>rfl)) ze)) ze)))) (zd (jB (vR ahp ahl ahm yJ (zv (zC (K:=K) rfl) (pv 7) zb (fun _ _=>rfl)) (za zb ze))) (zm (yH (zV (jw (K:=K) rfl hr.units) (zw uaA hr rfl (za (pv 4) (za (pv 5) ze))) (pv 8) (zP _)) (zm (zF y7)) zU))))))))))) (zm (zF y7))),?_⟩
 ·obtain⟨a,ns,rfl,_⟩:=h
  rfl
 obtain⟨a,ns,rfl,hS,h63,q⟩:=hs
 have e0:EnvOk K L2.f0 (yS aby [.dat (scr ns)]) (start aby [.ref a]) H:=yK (.cons (abB hS) .nil) (L2.fok0 H)
 suffices h:PSd K L2.f0 _ (yS aby [.dat (scr ns)]) { nx:=fun _=>False,rt:=fun d=>d=.bool true } from
  h _ H _ e0 (fun _ _ _ _ _ z=>z.elim) (fun d v H' _ r z=>by
   subst z
   rw [rep_bool.mp r]
   exact q H') (fun _ _ _ _ _ z=>z) (fun _ _ _ _ _ z=>z)
 refine yz (abe (vw (ael (R:=fun xs=>∃ j:Int,xs=[.dat (.int j)]/\0<=j/\j<=63) ?_ ?_)))
 ·walk_at "w"
  rw [agr]
  split <;> split <;> omega
 rintro _ ⟨j,rfl,j0,j1⟩
 refine⟨j,rfl,by omega,by omega,fun i ρ=>∃ x1 x2 x3 x4 x5 x6 x7 x8,ρ=[some (.dat (scr ns)),x1,x2,x3,x4,x5,x6,x7,x8],⟨_,_,_,_,_,_,_,_,rfl⟩,?_,?_⟩
 ·rintro i d _ hi ⟨x1,x2,x3,x4,x5,x6,x7,x8,rfl⟩
  obtain⟨hi,rfl⟩:=aan hi
  refine zu (afi (afD rfl rfl h63 (by omega) (by omega)) fun p=>?_)
  refine jf (fun ρ=>∃ (b:Int) (ps:List Pt) (o:Pt),ρ=[some (.dat (scr ns)),some (.dat (.int i)),some .feed,some (.dat (.int b)),some (.dat (.list (ps.map ptD))),x5,x6,x7,x8]/\1<=b/\b<=1000000000/\2<=ps.length/\ps.length<=40/\∀ p∈ps,Near o p) ?_ ?_
  ·refine y2 (abr (aay rfl (zc (yb (j8 (zc (zr (zc (zr (zz ⟨_,rfl,agN rfl,_,rfl,?_⟩))))))))))
   walk_at "w"
   rw [if_neg agz]
   split
   ·refine⟨_,rfl,zz ⟨39,rfl,⟨rfl,by decide,by decide⟩,?_⟩⟩
    rintro _ ⟨b,ps,o,rfl,h⟩
    exact vV rfl (ym (zu (ym (zu (qD ⟨b,ps,o,rfl,h⟩)))))
   ·refine⟨_,rfl,zz ⟨14,rfl,⟨rfl,by decide,by decide⟩,?_⟩⟩
    rintro _ ⟨b,ps,o,rfl,h⟩
    exact vV rfl (ym (zu (ym (zu (qD ⟨b,ps,o,rfl,h⟩)))))
  rintro _ ⟨b,ps,o,rfl,b0,b1,p2,p40,hnr⟩
  refine jf (fun ρ=>∃ m:Int,ρ=[some (.dat (scr ns)),some (.dat (.int i)),some .feed,some (.dat (.int b)),some (.dat (.list (ps.map ptD))),some (.dat (.int m)),x6,x7,x8]/\0<=m/\m<=10 ^ 60) ?_ ?_
  ·refine y2 (yb (j8 (zc (zr (zc (zf rfl (zc (yu (zf rfl ⟨_,rfl,ya (zr ⟨1,rfl,zR 4 ?_⟩)⟩)))))))))
   walk_at "w"
   rintro _ ⟨z,rfl,z0,z1⟩
   have hb:0<=b * (1+z)/\b * (1+z)<=1000000000 * 4:=⟨aif (by omega) (by omega),ajg b1 (by omega) (by omega) (by decide)⟩
   have big:(1000000000 * 4:Int)<=10 ^ 60:=by decide +kernel
   refine⟨_,rfl,_,rfl,Or.inl ⟨by omega,by omega⟩,zc (yu (zr ⟨_,rfl,zr ⟨_,rfl,?_,zz ⟨_,rfl,agN rfl,_,rfl,zR 4 ?_⟩⟩⟩))⟩
   ·exact⟨by decide,by decide,by decide⟩
   walk_at "w"
   rintro _ ⟨y,rfl,y0,y1⟩
   rcases (show y=0 \/ y=1 \/ y=2 \/ y=3 by omega) with rfl | rfl | rfl | rfl
   ·exact⟨_,rfl,_,rfl,zu ⟨0,rfl,by decide,by decide +kernel⟩⟩
   ·exact⟨_,rfl,_,rfl,zu ⟨b,rfl,by omega,Int.le_trans (by omega) big⟩⟩
   ·exact⟨_,rfl,_,rfl,zu ⟨b * (1+z),rfl,hb.1,Int.le_trans hb.2 big⟩⟩
   ·exact⟨_,rfl,_,rfl,zu ⟨10 ^ aiT 60,rfl,by decide +kernel,by decide +kernel⟩⟩
  rintro _ ⟨m,rfl,m0,m1⟩
  have p60:ps.length<=60:=by omega
  have pp:0<ps.length:=by omega
  refine yz (y2 (acA (zc (zf rfl (zz (.inl ⟨_,rfl,zu ?_⟩))))))
  have lp:=vI ps
  have dp:∀ d,min (PyData.list (ps.map ptD)).depth d<=60:=fun d=>ag2 (ai4 _ _) (by show ahs (ps.map ptD)+1<=60;have:=lp.2;omega)
  have kl:(zZ ps m).length<=60:=by
   have:=(jK ps m pp).1.bnd.2
   unfold zZ
   rw [agr]
   omega
  refine adi (abv (o,ps,m) (zc (zf rfl (zc (zf rfl (zz ⟨rfl,⟨rfl,hnr,pp,p60,m0,m1⟩,?_⟩))))))
  rintro _ _ ⟨rfl,rfl⟩
  refine⟨show 7<9 by decide,fun D=>?_⟩
  dsimp only
  show PSo K _ D _ _ ((zZ ps m).map .int) _
  refine acJ (af6 (i:=7) rfl (aaz (qC (jq (zR (o,ps,m) (zc (zf rfl (zc (zf rfl (zc (zf rfl (zz ⟨rfl,⟨rfl,hnr,p2,p60,m0,m1⟩,?_⟩))))))))))))
  rintro _ rfl
  refine⟨_,rfl,?_⟩
  rw [ahk,if_neg agz]
  refine yv (jC (zf rfl (zf rfl ⟨lp.1,lp.1,dp _,_,rfl,?_⟩)))
  rw [if_pos rfl]
  refine ite_no (by rw [ahM _ lp.1];rfl) (afg ?_)
  refine acJ (af7 (i:=7) (j:=8) rfl (show 8<9 by decide) (by rw [agr];omega) ?_)
  refine acJ (af8 (i:=7) rfl (by rw [agr];omega) ?_)
  have lay:=lay_ints (zZ ps m)
  have lt:(PyData.tuple [.int (jJ ps m),.list ((zZ ps m).map .int)]).canLay0=true:=by
   show (true && (ahV ((zZ ps m).map PyData.int) && true))=true
   rw [lay.1];rfl
  have dt:(PyData.tuple [.int (jJ ps m),.list ((zZ ps m).map .int)]).depth<=60:=by
   show max 0 (max (ahs ((zZ ps m).map PyData.int)+1) 0)+1<=60
   rw [lay.2];decide
  refine aff (vU (yv (jC (PEnt.ped (abv (o,ps,m) (zc (zf rfl (zc (zf rfl (zz ⟨rfl,⟨rfl,hnr,pp,p60,m0,m1⟩,?_⟩))))))))))
  rintro _ _ ⟨rfl,rfl⟩
  refine zf rfl ⟨lt,lt,ag2 (ai4 _ _) dt,_,rfl,?_⟩
  rw [if_pos rfl]
  refine ite_no ?_ (j9 ⟨_,_,_,_,_,_,_,_,rfl⟩)
  show (!ah7 (.tuple [.int (jJ ps m),.list ((zZ ps m).map .int)]) (.tuple [.int (jJ ps m),.list ((zZ ps m).map .int)]))=false
  rw [ahM _ lt]
  rfl
 ·rintro _ ⟨x1,x2,x3,x4,x5,x6,x7,x8,rfl⟩
  exact qe (abS rfl)
end
theorem _root_.L2.FnIn.m {P w K mg base j k x ps sp} (h:FnIn P w K mg base j x ps sp) (hk:j<=k:=by decide):FnIn P w K mg base k x ps sp:=h.mono hk
theorem xf1 {K:aiZ} {h:Heap} {mg:Str->Option Value} {x:Str} {st:Stmt} {f:Addr} {od an:Option Addr} {sl:Array (Option Value)} {oc kV dc pm cd ct:Value} (X:K.In h) (G:h.Ns mainGlobals mg) (a:FD K x st f od an sl oc kV dc pm cd ct) {p0:Str} (hb:∀ (kV doc pm:Value) (an:Option Addr) (cdv ct:Value) (u0:Value),bindArgs (ahc x x (z9 st) (zN st) (zh st) .none kV doc pm an cdv ct) ⟨[u0],[]⟩=pure ([p0].zip [u0])):Def K mg x st [p0]:=ad3 X G a (fun _ _ _ _ _ _ us hl=>match us,hl with | [u0],_=>hb _ _ _ _ _ _ u0)
theorem xf2 {K:aiZ} {h:Heap} {mg:Str->Option Value} {x:Str} {st:Stmt} {f:Addr} {od an:Option Addr} {sl:Array (Option Value)} {oc kV dc pm cd ct:Value} (X:K.In h) (G:h.Ns mainGlobals mg) (a:FD K x st f od an sl oc kV dc pm cd ct) {p0 p1:Str} (hb:∀ (kV doc pm:Value) (an:Option Addr) (cdv ct:Value) (u0 u1:Value),bindArgs (ahc x x (z9 st) (zN st) (zh st) .none kV doc pm an cdv ct) ⟨[u0,u1],[]⟩=pure ([p0,p1].zip [u0,u1])):Def K mg x st [p0,p1]:=ad3 X G a (fun _ _ _ _ _ _ us hl=>match us,hl with | [u0,u1],_=>hb _ _ _ _ _ _ u0 u1)
theorem xf3 {K:aiZ} {h:Heap} {mg:Str->Option Value} {x:Str} {st:Stmt} {f:Addr} {od an:Option Addr} {sl:Array (Option Value)} {oc kV dc pm cd ct:Value} (X:K.In h) (G:h.Ns mainGlobals mg) (a:FD K x st f od an sl oc kV dc pm cd ct) {p0 p1 p2:Str} (hb:∀ (kV doc pm:Value) (an:Option Addr) (cdv ct:Value) (u0 u1 u2:Value),bindArgs (ahc x x (z9 st) (zN st) (zh st) .none kV doc pm an cdv ct) ⟨[u0,u1,u2],[]⟩=pure ([p0,p1,p2].zip [u0,u1,u2])):Def K mg x st [p0,p1,p2]:=ad3 X G a (fun _ _ _ _ _ _ us hl=>match us,hl with | [u0,u1,u2],_=>hb _ _ _ _ _ _ u0 u1 u2)
theorem xf4 {K:aiZ} {h:Heap} {mg:Str->Option Value} {x:Str} {st:Stmt} {f:Addr} {od an:Option Addr} {sl:Array (Option Value)} {oc kV dc pm cd ct:Value} (X:K.In h) (G:h.Ns mainGlobals mg) (a:FD K x st f od an sl oc kV dc pm cd ct) {p0 p1 p2 p3:Str} (hb:∀ (kV doc pm:Value) (an:Option Addr) (cdv ct:Value) (u0 u1 u2 u3:Value),bindArgs (ahc x x (z9 st) (zN st) (zh st) .none kV doc pm an cdv ct) ⟨[u0,u1,u2,u3],[]⟩=pure ([p0,p1,p2,p3].zip [u0,u1,u2,u3])):Def K mg x st [p0,p1,p2,p3]:=ad3 X G a (fun _ _ _ _ _ _ us hl=>match us,hl with | [u0,u1,u2,u3],_=>hb _ _ _ _ _ _ u0 u1 u2 u3)
set_option autoImplicit true in
set_option relaxedAutoImplicit true in
theorem all_mk {l:PySem.W.OpenLaw} {w:World} {K:ags} {h:Heap} {mg:Str->Option Value} {fa:Addr} (X:K.In h) (G:h.Ns mainGlobals mg) (hfa:mg "law"=some (.ref fa))
  (a1:FD K "turn" vF f1 od1 an1 sl1 oc1 kV1 dc1 pm1 cd1 ct1)
  (a2:FD K "lies_near" yB f2 od2 an2 sl2 oc2 kV2 dc2 pm2 cd2 ct2)
  (a3:FD K "least_kept" yq f3 od3 an3 sl3 oc3 kV3 dc3 pm3 cd3 ct3)
  (a4:FD K "spans" qt f4 od4 an4 sl4 oc4 kV4 dc4 pm4 cd4 ct4)
  (a5:FD K "way_to_the_end" zX f5 od5 an5 sl5 oc5 kV5 dc5 pm5 cd5 ct5)
  (a6:FD K "_law_feed" yV f6 od6 an6 sl6 oc6 kV6 dc6 pm6 cd6 ct6)
  (a7:FD K "_law_draw" yW f7 od7 an7 sl7 oc7 kV7 dc7 pm7 cd7 ct7)
  (a8:FD K "_law_points" yr f8 od8 an8 sl8 oc8 kV8 dc8 pm8 cd8 ct8)
  (a9:FD K "_law_near" yX f9 od9 an9 sl9 oc9 kV9 dc9 pm9 cd9 ct9)
  (a10:FD K "_law_lets" yY f10 od10 an10 sl10 oc10 kV10 dc10 pm10 cd10 ct10)
  (a11:FD K "_law_least" yC f11 od11 an11 sl11 oc11 kV11 dc11 pm11 cd11 ct11)
  (a12:FD K "_law_right" yD f12 od12 an12 sl12 oc12 kV12 dc12 pm12 cd12 ct12)
  (a13:FD K "law" qi f13 od13 an13 sl13 oc13 kV13 dc13 pm13 cd13 ct13)
  (uao:aha K mainGlobals "len"=some none)
  (uap:aha K mainGlobals "range"=some none)
  (uaq:aha K mainGlobals "min"=some none)
  (uar:aha K mainGlobals "abs"=some none)
  (uas:aha K mainGlobals "max"=some none)
  (uat:aha K mainGlobals "isinstance"=some none)
  (uau:aha K mainGlobals "tuple"=some none)
  (uav:aha K mainGlobals "list"=some none)
  (uaw:aha K mainGlobals "bool"=some none)
  (uax:aha K mainGlobals "sorted"=some none)
  (uay:aha K mainGlobals "set"=some none)
  (uaz:aha K mainGlobals "int"=some none)
  (kl_least:abu K "least_kept"=true)
  (kt1:agZ K (.type "tuple") (.type "tuple")=some true)
  (kt2:agZ K (.type "list") (.type "list")=some true)
  (kt3:agZ K (.type "int") (.type "bool")=some false) :
  ∃ fd:FuncData,(∀ (s:Shared) (v:Value),BindsTo s fd ⟨[v],[]⟩ [("_law_script",v)])/\∀ base:Heap,K.In base->base.Ns mainGlobals mg->FnOk l.prog w K mg base CX0 6 fa fd pG (abC K):=by
 have uaK:Def K mg "turn" vF pd:=xf3 X G a1 (fun _ _ _ _ _ _ _ _ _=>rfl)
 have uaL:Def K mg "lies_near" yB pj:=xf4 X G a2 (fun _ _ _ _ _ _ _ _ _ _=>rfl)
 have uaM:Def K mg "least_kept" yq pq:=xf2 X G a3 (fun _ _ _ _ _ _ _ _=>rfl)
 have uaN:Def K mg "spans" qt pz:=xf4 X G a4 (fun _ _ _ _ _ _ _ _ _ _=>rfl)
 have uaO:Def K mg "way_to_the_end" zX pA:=xf1 X G a5 (fun _ _ _ _ _ _ _=>rfl)
 have uaP:Def K mg "_law_feed" yV pB:=xf2 X G a6 (fun _ _ _ _ _ _ _ _=>rfl)
 have uaQ:Def K mg "_law_draw" yW pf:=xf2 X G a7 (fun _ _ _ _ _ _ _ _=>rfl)
 have uaR:Def K mg "_law_points" yr pC:=xf2 X G a8 (fun _ _ _ _ _ _ _ _=>rfl)
 have uaS:Def K mg "_law_near" yX pD:=xf4 X G a9 (fun _ _ _ _ _ _ _ _ _ _=>rfl)
 have uaT:Def K mg "_law_lets" yY ph:=xf4 X G a10 (fun _ _ _ _ _ _ _ _ _ _=>rfl)
 have uaU:Def K mg "_law_least" yC pE:=xf2 X G a11 (fun _ _ _ _ _ _ _ _=>rfl)
 have uaV:Def K mg "_law_right" yD pF:=xf3 X G a12 (fun _ _ _ _ _ _ _ _ _=>rfl)
 have uaW:Def K mg "law" qi pG:=xf1 X G a13 (fun _ _ _ _ _ _ _=>rfl)
 have uaa:=agV X G uao
 have uab:=agV X G uap
 have uad:=agV X G uaq
 have uah:=agV X G uar
 have uae:=agV X G uas
 have uag:=agV X G uat
 have uaj:=agV X G uau
 have uaf:=agV X G uav
 have uak:=agV X G uaw
 have ual:=agV X G uax
 have uam:=agV X G uay
 have uan:=agV X G uaz
 have e:=hfa.symm.trans (ajl X G a13.1)
 cases e
 have F0:=aaw (st:=qi) a13.2.1 a13.2.2.1 a13.2.2.2
 refine⟨ahc "law" "law" (z9 qi) (zN qi) (zh qi) .none kV13 dc13 pm13 an13 cd13 ct13,fun s v=>.of_eq rfl,fun base _ _=>?_⟩
 have H0:=aen (P:=l.prog) (w:=w) (base:=base) (k:=0) uaP uaa uah
 have H1:=aem (P:=l.prog) (w:=w) (base:=base) (k:=0) uaQ
 have H2:=aeg (P:=l.prog) (w:=w) (base:=base) (k:=0) uaK
 have H3:=afC (P:=l.prog) (w:=w) (base:=base) (k:=0) uaO uaa
 have H4:=ads (P:=l.prog) (w:=w) (base:=base) (k:=0) uaS uad uae
 have H5:=aeh (k:=1) uaL H2.m
 have H6:=acg (k:=1) uaR uab H1.m
 have H7:=aep (k:=1) uaT uab H4.m
 have H8:=adp (k:=2) uaN H5.m
 have H9:=aci (k:=2) uaU uaa uab H7.m
 have H10:=adu (k:=3) uaV uaa uab uag uaj uaf uak ual uam kt1 kt2 kt3 H7.m H9.m
 have H11:=adq (k:=3) uaM kl_least uaa uab uad H8.m H3.m
 exact afE (k:=5) F0 uaa uab uae uad uaf uan H0.m H1.m H11.m H6.m H10.m
theorem walk {l:PySem.W.OpenLaw} {q:Program} {loose:List Str} {XP:(Str->Option Value)->Heap->Prop} {YP:World->Heap->Prop} {d:DefRec} {K:Params->ags} (ts:List (Addr×Str)) (hn:l.most=some 63) (hdf:d.params.defaults=[])
  (hY:∀ (w:World) (h:Heap),YP w h->(K w.params).In h/\∀ p∈ts,h.get? p.1=some (ahI #[])) (hB:∀ w:World,jI (K w.params) ts=true)
  (F:∀ (w:World) (mg:Str->Option Value) (fa:Addr) (h:Heap),(K w.params).In h->h.Ns mainGlobals mg->mg d.name=some (.ref fa) ->
   ∃ fd:FuncData,(∀ (s:Shared) (u:Value),BindsTo s fd ⟨[u],[]⟩ [("_law_script",u)])/\∀ base:Heap,(K w.params).In base->base.Ns mainGlobals mg->FnOk l.prog w (K w.params) mg base CX0 6 fa fd pG (abC (K w.params))) :
  PySem.W.WalkO q loose XP YP l.row.toRowW d [] (fun f vs=>PySem.call f vs) :=
 L2.walk_T (n:=63) (k:=6) (x:="_law_script") (CX:=fun _=>CX0) (sp:=fun w=>abC (K w.params)) ts hn (by decide) hdf ⟨rfl,by decide,by decide⟩ hY hB F (fun _ _ a ns hl hS=>⟨a,ns,rfl,hS,hl,fun _=>rfl⟩) fun _ _ _ _ _ z=>z
end My
noncomputable def PySem.W.Fast.tw1028826814880545912:Nat:=0
noncomputable def PySem.W.Fast.tw10677675463452569930:Nat:=0
noncomputable def PySem.W.Fast.tw11548815835355424529:Nat:=0
noncomputable def PySem.W.Fast.tw12275770077595171736:Nat:=0
noncomputable def PySem.W.Fast.tw12328682088065330781:Nat:=0
noncomputable def PySem.W.Fast.tw12743079188945126860:Nat:=0
noncomputable def PySem.W.Fast.tw13051589743876729168:Nat:=0
noncomputable def PySem.W.Fast.tw13059403801355904429:Nat:=0
noncomputable def PySem.W.Fast.tw13086851159425190241:Nat:=0
noncomputable def PySem.W.Fast.tw13425759152408892615:Nat:=0
noncomputable def PySem.W.Fast.tw14235354528167763386:Nat:=0
noncomputable def PySem.W.Fast.tw14340602431121979973:Nat:=0
noncomputable def PySem.W.Fast.tw16611214169928978356:Nat:=0
noncomputable def PySem.W.Fast.tw17115927055496209177:Nat:=0
noncomputable def PySem.W.Fast.tw2225562739004393798:Nat:=0
noncomputable def PySem.W.Fast.tw2297304420308426745:Nat:=0
noncomputable def PySem.W.Fast.tw2407434018120112124:Nat:=0
noncomputable def PySem.W.Fast.tw286443516327885591:Nat:=0
noncomputable def PySem.W.Fast.tw3119344782900429666:Nat:=0
noncomputable def PySem.W.Fast.tw3459018539310044285:Nat:=0
noncomputable def PySem.W.Fast.tw3565217631490303648:Nat:=0
noncomputable def PySem.W.Fast.tw4023484408054329270:Nat:=0
noncomputable def PySem.W.Fast.tw4118493261309402174:Nat:=0
noncomputable def PySem.W.Fast.tw4164627268734751194:Nat:=0
noncomputable def PySem.W.Fast.tw4690470254761894120:Nat:=0
noncomputable def PySem.W.Fast.tw5375823824534734801:Nat:=0
noncomputable def PySem.W.Fast.tw580786633833781298:Nat:=0
noncomputable def PySem.W.Fast.tw5927887329644839555:Nat:=0
noncomputable def PySem.W.Fast.tw5963782661006907932:Nat:=0
noncomputable def PySem.W.Fast.tw6153980813826861568:Nat:=0
noncomputable def PySem.W.Fast.tw6408641165729299353:Nat:=0
noncomputable def PySem.W.Fast.tw6427071659046214103:Nat:=0
noncomputable def PySem.W.Fast.tw7011006945947152791:Nat:=0
noncomputable def PySem.W.Fast.tw7312912975251002174:Nat:=0
noncomputable def PySem.W.Fast.tw8100008855826806359:Nat:=0
noncomputable def PySem.W.Fast.tw8769885140030804643:Nat:=0
noncomputable def PySem.W.Fast.tw9003174496963224005:Nat:=0
noncomputable def PySem.W.Fast.tw9116324593733805041:Nat:=0
noncomputable def PySem.W.Fast.tw9634672918364484969:Nat:=0
noncomputable def PySem.W.Fast.tw9928543096348866937:Nat:=0
open PySem PySem.W PyProof.Rows
set_option maxRecDepth 100000 in
set_option maxHeartbeats 0 in
theorem PySem.Challenge.cw_heightrings_k63_least_kept_holds : PySem.Challenge.rw_heightrings_k63_least_kept.Holds := by
 w_on;o_law;k_head;(case hw=>w_witness2)
 k_fill
 refine My.walk (l:=PySem.Challenge.rw_heightrings_k63_least_kept) [(30,L2.lamQ "least_kept")] rfl rfl (fun w h Y=>⟨by first | exact PySem.W.kIn_of Y | exact PySem.W.km_in_of Y,fun p hp=>PySem.W.km_tabs_of Y p.1 (List.mem_map_of_mem (f:=Prod.fst) hp)⟩) (fun w=>by kernel_rfl) ?F
 case F =>
  intro w mg fa h KX G hmg
  refine' My.all_mk KX G hmg ?a1 ?a2 ?a3 ?a4 ?a5 ?a6 ?a7 ?a8 ?a9 ?a10 ?a11 ?a12 ?a13 ?uao ?uap ?uaq ?uar ?uas ?uat ?uau ?uav ?uaw ?uax ?uay ?uaz ?kl_least ?kt1 ?kt2 ?kt3
  (case a1=>refine⟨?_,?_,?_,?_⟩ <;> k_is)
  (case a2=>refine⟨?_,?_,?_,?_⟩ <;> k_is)
  (case a3=>refine⟨?_,?_,?_,?_⟩ <;> k_is)
  (case a4=>refine⟨?_,?_,?_,?_⟩ <;> k_is)
  (case a5=>refine⟨?_,?_,?_,?_⟩ <;> k_is)
  (case a6=>refine⟨?_,?_,?_,?_⟩ <;> k_is)
  (case a7=>refine⟨?_,?_,?_,?_⟩ <;> k_is)
  (case a8=>refine⟨?_,?_,?_,?_⟩ <;> k_is)
  (case a9=>refine⟨?_,?_,?_,?_⟩ <;> k_is)
  (case a10=>refine⟨?_,?_,?_,?_⟩ <;> k_is)
  (case a11=>refine⟨?_,?_,?_,?_⟩ <;> k_is)
  (case a12=>refine⟨?_,?_,?_,?_⟩ <;> k_is)
  (case a13=>refine⟨?_,?_,?_,?_⟩ <;> k_is)
  (case uao=>k_is)
  (case uap=>k_is)
  (case uaq=>k_is)
  (case uar=>k_is)
  (case uas=>k_is)
  (case uat=>k_is)
  (case uau=>k_is)
  (case uav=>k_is)
  (case uaw=>k_is)
  (case uax=>k_is)
  (case uay=>k_is)
  (case uaz=>k_is)
  (case kl_least=>kernel_rfl)
  (case kt1=>kernel_rfl)
  (case kt2=>kernel_rfl)
  (case kt3=>kernel_rfl)
end
