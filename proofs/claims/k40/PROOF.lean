import PyProof.Rows.All
import Wide.All
import OpenK.AllK
import Wide.FinOn
import Lean
import PyProof.EqAt
import PyProof.EqKinds
import PyProof.TupleCall
import KE.KTryMore
import PyProof.ExcArgs
import PyProof.ConsumeWalk
import PyProof.P3Eq
import KE.KRevIter
import PyProof.ListRange
import PyProof.Rows.SumAny
import KE.KSortTup
import PyProof.SetScanFacts
import PyProof.TupleKey
import PyProof.DictRoadsH
import PyProof.SetRoads
import KE.KTabLook
import PyProof.Rows.ListMul
import PyProof.InstStoreFacts
import PyProof.Rows.SetFrom
import PyProof.AutoListH
import PyProof.StrCalls2
import PyProof.MeetsSeq
import PyProof.DictCompW
import KE.KSortKey
import PyProof.SliceStr2
import PyProof.StrWalks
import PyProof.StrOps2
import PyProof.StrLawsIdx
import PyProof.StrLawsTight
import PyProof.StrLawsChain
import PyProof.Rows.StrSplitCount
import KE.KIntText
import PyProof.MaxThree
import PySem.Challenge.RW_heightrings_k40_nodes_by_regions
open List renaming getElem?_eq_getElem → aqq,length_map → aqr,getElem?_eq_some_iff → aqs,mem_cons_self → aqv,mem_cons_of_mem → aqw,getD_eq_getElem?_getD → aqx,mem_of_getElem? → aqz,getElem?_map → aqA,mem_cons → aqE,mem_singleton → aqF,mem_map → aqG,getElem?_append_left → aqJ,mem_append → aqK,range → aqL,length_append → aqM,map_append → aqO,mem_append_right → aqP,map_cons → aqQ,getElem?_append_right → aqR,length_cons → aqT,size_toArray → aqU,getElem?_of_mem → aqV,mem_filter → aqW,mem_range → aqY,getElem?_eq_none → aqZ,getElem_mem → aq0,mem_append_left → aq1,take_length → aq6,length_filter_le → aq8,filter_cons → aq9,length_range → ara,mem_flatMap → arb,append_nil → arc,length_take → arf,take_add_one → arh,not_mem_nil → arj,filter_append → arl,nodup_cons → arq,length_singleton → ars,lookup_cons → art,nodup_append → aru,nodup_nil → arv,head?_eq_getElem? → arw,pairwise_map → arA,append_assoc → arB,flatMap_append → arI,toArray → arK,map_map → arR,range_succ → arS,pairwise_cons → arT,ext_getElem? → arV,getElem?_range → arW,find?_cons → arX,replicate → arZ,mem_of_head? → ar1,filter_sublist → ar2,getElem?_set_self → ar3,all_eq_true → asa,mem_reverse → asb,any_eq_true → asd,pairwise_iff_getElem → asi,getLast?_eq_getElem? → asm,length_nil → aso,getElem?_take_of_lt → asu,getElem_of_mem → asy,getElem?_replicate → asC,mem_flatten → asD,mem_filterMap → asE,zip_cons_cons → asI,forIn_cons → asJ,any_cons → asK,take_append_drop → asM,getElem?_set_ne → asO,forIn_nil → asS,mem_erase_of_ne → asT,take_zero → asU,map_nil → asV,filterMap_cons → as0,map_congr_left → as1,reverse_append → as3,findSome?_cons → as4,all_cons → as6,length_erase_of_mem → as9,length_set → ata,take_succ → ath,length_pos_of_mem → ati,length_replicate → atj,getElem_inj → atm,nodup_range → atn,getElem?_mapIdx → ato,map → atp,pairwise_append → atr,find?_eq_none → atB,map_inj_right → atG,exists_cons_of_ne_nil → atH,drop_eq_getElem_cons → atN,reverse_cons → atU,getElem?_inj → atV,map_flatMap → at5,pairwise_lt_range → at8,all_nil → auc,of_mem_zip → auf,filter_nil → aui,reverse_reverse → aut,mem_of_getLast? → auv,length_pos_iff → auz,length_reverse → auA,filter_flatMap → auD,mem_map_of_mem → auE,length → auL,filter → auM
open Bool renaming false_ne_true → aqt,and_eq_true → aqy,false_eq_true → ard,not_true → arH,true_and → asv,false_and → asP,and_true → as8,or_eq_true → atw,not_false → atD,decide_and → auj,and_false → aus,false_or → auG
open PySem.W renaming Frag → aqu,nsIn → ari,mg_none_of → arn,kia_one → arx,codeIn → ary,codeHdIn → arG,keepIn → arM,fnOf → arN,mg_of → ar9,tabObj → asz,findIn → asA,kitOne → asB,cellsFrom_some → asG,Frag → atx,methodObj → atO,specialIn → atP,kitx_list → atQ,instObj → aue,kla_obj → auh,lookIn → aun,codeHd_of_K → auB,envX → auI
open Nat renaming le_of_ble_eq_true → aqB,le_refl → aqC,le_trans → aqS,zero_le → aq2,lt_of_lt_of_le → aq4,ne_of_lt → aq5,le_of_lt → arE,lt_succ_of_lt → arJ,mul_le_mul → arP,not_lt_zero → arQ,min_le_right → arY,lt_irrefl → ar8,le_of_eq → asq,succ_pos → asW,sub_self → asX,ne_of_gt → atc,le_of_succ_le → ate,lt_succ_of_le → atg,lt_succ_iff → att,add_assoc → atX,lt_succ_iff_lt_or_eq → atZ,lt_succ_self → at3,zero_add → at7,le_succ → auq,lt_trans → auH,mul_succ → auK
open PySem.Heap renaming get?_push_of_some → aqD,lt_size → aqI,get?_push_size → aq3,get?_update_other → ar4,SameBut → asp,get?_update_self → asL,size_push → atf
open PySem.PyData renaming depthAll → aqH,eqv → aqX,canLayAll0 → asr,eqvAll → atW,depth → auJ
open Array renaming length_toList → aqN,getElem?_eq_getElem → arD,getElem?_toList → arO,getD_eq_getD_getElem? → ar5,getElem?_eq_none → ar6,getD → asH,mem_toList_iff → asQ,forIn_toList → atb,replicate → atv,getElem?_eq_some_iff → atA,size_map → aur,toList_append → auC
open PySem.PassesOwn renaming never → aq7
open PySem.F renaming plainAttrs_list → ark,slot_list_append → aro,type_list_append → arp,slot_tuple_hash → ar0,slot_dict_keyiterator_next → asf,slot_set_contains → asZ,slot_set_add → atq,slot_dict_getitem → atL,slot_dict_iter → aub,args_list_append_2 → aup,type_set_add → auw,entry_list_append → auy
open PyProof.Rows renaming boot_tuple → arz,boot_sorted → asw,callWith_type1 → asN,boot_sum → atl,boot_list → aud,boot_all → auk,boot_set → aul
open Classical renaming byContradiction → arC,propDecidable → arL
open PySem renaming boot_len → arF,mem_of_lookup → asx
open Ne renaming symm → arU
open Int renaming le_trans → ar7,emod_lt_of_pos → ase,toNat_natCast → ass,emod_nonneg → atu,eq_ofNat_of_zero_le → at6
open Prod renaming ext → ash
open PySem.Builtin.Tuple renaming tupleHashOf → asj
open Option renaming map_some → asn,isNone_iff_eq_none → asY,isSome_iff_exists → as5,getD_some → at4
open False renaming elim → asF
open PySem.Obj renaming mapSeq → asR,putSet → aua
open PySem.Heap.SameBut renaming update → as2
open PySem.SetTable renaming toList_insertAt → as7,sizeAbove → atF,fill → auF
open PySem.Calls renaming callWith_builtin → atd,Name_function_global → aty,call_function_entry → atJ,evalArgs_plain → auo
open PySem.SeqAt.ReadsAll renaming length → atk
open List.Pairwise renaming of_map → ats,sublist → aum
open PySem.SeqAt renaming eqv_refl → atz
open PySem.Builtin.Frozenset renaming oneOther → atE,addrOf → atY
open PySem.Builtin.SmallTypes renaming nextOf → atM
open PySem.Str renaming ofString → at9
open PyProof.Rows.KTD renaming datumAt → auu
set_option Elab.async false
set_option linter.all false
set_option maxRecDepth 100000
set_option maxHeartbeats 4000000
section
namespace L2
open PySem PySem.Spec PyProof.Rows
abbrev Key:=Sum Int Str
noncomputable def anw:Key->Value->Bool
 | .inl k,v=>Value.isInt k v
 | .inr x,v=>Value.isStrOf x v
noncomputable def aqi (w:World):Key->Int
 | .inl k=>hashInt k
 | .inr x=>hashStr w x
theorem yy:∀ {k:Key} {v:Value},anw k v=true->(∃ i t,k=Sum.inl i/\v=Value.int i t) \/ (∃ x t,k=Sum.inr x/\v=Value.str x t)
 | .inl i,v,h=>by
  obtain⟨t,e⟩:=Value.isInt_shape (k:=i) (v:=v) h;exact .inl ⟨i,t,rfl,e⟩
 | .inr x,v,h=>by
  obtain⟨t,e⟩:=Value.isStrOf_shape (x:=x) (v:=v) h;exact .inr ⟨x,t,rfl,e⟩
theorem anW (a b:Int):decide ((Sum.inl a:Key)=Sum.inl b)=(a == b):=by
 by_cases e:a=b
 ·subst e;simp
 ·have h:¬ (Sum.inl a:Key)=Sum.inl b:=fun q=>e (Sum.inl.inj q);rw [decide_eq_false h];exact (beq_eq_false_iff_ne.mpr e).symm
theorem anY (a b:Str):decide ((Sum.inr a:Key)=Sum.inr b)=decide (a=b):=by
 by_cases e:a=b
 ·subst e;simp
 ·have h:¬ (Sum.inr a:Key)=Sum.inr b:=fun q=>e (Sum.inr.inj q);rw [decide_eq_false h,decide_eq_false e]
theorem anZ (a:Int) (b:Str):decide ((Sum.inl a:Key)=Sum.inr b)=false:=decide_eq_false (fun q=>nomatch q)
theorem an0 (a:Str) (b:Int):decide ((Sum.inr a:Key)=Sum.inl b)=false:=decide_eq_false (fun q=>nomatch q)
noncomputable def aeg (prog:Program) (w:World):PySem.KeyKind prog w Key where
 is:=anw
 hash:=aqi w
 inj:=fun v a b ha hb=>by
  rcases yy ha with⟨i,t,rfl,rfl⟩ | ⟨x,t,rfl,rfl⟩
  ·rcases yy hb with⟨j,u,rfl,e⟩ | ⟨y,u,rfl,e⟩
   ·injection e with e1 _;rw [e1]
   ·exact nomatch e
  ·rcases yy hb with⟨j,u,rfl,e⟩ | ⟨y,u,rfl,e⟩
   ·exact nomatch e
   ·injection e with e1 _;rw [e1]
 byValue:=fun k v h=>by
  rcases yy h with⟨i,t,rfl,rfl⟩ | ⟨x,t,rfl,rfl⟩ <;> rfl
 pyHash:=fun hv h=>by
  rcases yy hv with⟨i,t,rfl,rfl⟩ | ⟨x,t,rfl,rfl⟩
  ·exact wpAny_pyHash_int h
  ·exact wpAny_pyHash_str h
 eqBool:=fun hu hv h=>by
  rcases yy hu with⟨i,t,rfl,rfl⟩ | ⟨x,t,rfl,rfl⟩
  ·rcases yy hv with⟨j,u,rfl,rfl⟩ | ⟨y,u,rfl,rfl⟩
   ·rw [anW] at h;exact wpAny_eqBool_int h
   ·rw [anZ] at h;exact SeqAt.EqAt.int_str i t y u _ _ _ _ h
  ·rcases yy hv with⟨j,u,rfl,rfl⟩ | ⟨y,u,rfl,rfl⟩
   ·rw [an0] at h;exact SeqAt.EqAt.str_int x t j u _ _ _ _ h
   ·rw [anY] at h;exact wpAny_eqBool_str h
 «strs»:=fun k x t v h=>by
  rcases yy h with⟨i,u,rfl,e⟩ | ⟨y,u,rfl,e⟩
  ·exact nomatch e
  ·injection e with e1 _;subst e1;cases v <;> rfl
inductive V where
 | non | bl (b:Bool) | int (i:Int) | str (x:Str) | byt (b:Array UInt8) | flt (b:UInt64) | ref (a:Addr) | ty (n:String)
 deriving DecidableEq
def RelV:V->Value->Prop
 | .non,u=>u=Value.none
 | .bl b,u=>u=Value.bool b
 | .int i,u=>∃ t,u=Value.int i t
 | .str x,u=>∃ t,u=Value.str x t
 | .byt b,u=>∃ t,u=Value.bytes b t
 | .flt b,u=>∃ t,u=Value.float b t
 | .ref a,u=>u=Value.ref a
 | .ty n,u=>u=Value.type n
abbrev Vals:List V->List Value->Prop:=Paired RelV
theorem Vals.length {xs:List V} {us:List Value} (r:Vals xs us):xs.length=us.length:=Paired.length r
theorem Vals.get:∀ {xs:List V} {us:List Value} {i:Nat} {x:V},Vals xs us->xs[i]?=some x->∃ u,us[i]?=some u/\RelV x u
 | _,_,_,_,.nil,e=>by simp at e
 | _,_,0,_,.cons r _,e=>by simp at e;subst e;exact⟨_,rfl,r⟩
 | _,_,i+1,x,.cons _ t,e=>by
  obtain⟨u,h1,h2⟩:=Vals.get (i:=i) (x:=x) t (by simpa using e);exact⟨u,by simpa using h1,h2⟩
theorem Vals.set {x:V} {u:Value} (r:RelV x u):∀ {xs:List V} {us:List Value} (i:Nat),Vals xs us->Vals (xs.set i x) (us.set i u)
 | _,_,_,.nil=>.nil
 | _,_,0,.cons _ t=>.cons r t
 | _,_,i+1,.cons q t=>.cons q (Vals.set r i t)
theorem Vals.append:∀ {xs ys:List V} {us ws:List Value},Vals xs us->Vals ys ws->Vals (xs++ys) (us++ws)
 | _,_,_,_,.nil,s=>s
 | _,_,_,_,.cons r t,s=>.cons r (Vals.append t s)
def aoa:Option V->Option Value->Prop
 | some v,some u=>RelV v u
 | none,none=>True
 | _,_=>False
def KV {κ:Type}:List (κ×V)->List (κ×Value)->Prop:=Paired fun (p:κ×V) (q:κ×Value)=>p.1=q.1/\RelV p.2 q.2
noncomputable def kV:Key->V
 | .inl i=>.int i
 | .inr x=>.str x
inductive HO where
  | lst (xs:List V)
  | tup (xs:List V)
  | dK (kvs:List (Key×V)) | dT (kvs:List (List Key×V))
  | set (S:Int->Bool) (n:Nat)
  | ins (C dx:Addr) (fs:List (Str×V))
  | own (x:Addr)
  | xd (fs:List (Str×V))
  | met (f x:Addr)
  | rng (lo hi:Int)
  | frz (o:Obj) (u:HO)
  | tbl (q:Str)
  | ext (φ:Heap->Prop)
abbrev Hp:=Addr->Option HO
noncomputable def upd (H:Hp) (a:Addr) (o:HO):Hp:=fun b=>if b=a then some o else H b
theorem zB {H:Hp} {a:Addr} {o:HO}:upd H a o a=some o:=by unfold upd;rw [if_pos rfl]
theorem zx {H:Hp} {a b:Addr} {o:HO} (h:b≠a):upd H a o b=H b:=by unfold upd;rw [if_neg h]
theorem zL {H:Hp} {a b:Addr} {o:HO} (h:H a=some o) (h':H b=none):a≠b:=by
 intro e;subst e;rw [h] at h';cases h'
section
variable (P:Program) (w:World)
def ObjOk (H:Hp) (h:Heap) (a:Addr):HO->Prop
 | .lst xs=>xs.length<=sizeLine/\∃ (its:List Value) (n:Nat),Vals xs its/\h.get? a=some { cls:=.type "list",data:=.seq its.toArray n }
 | .tup xs=>xs.length<=sizeLine/\∃ its:List Value,Vals xs its/\IsTup h a its.toArray
 | .dK kvs=>kvs.length<=sizeLine/\(a == sysModules)=false/\∃ vs,KV kvs vs/\h.DictOf (aeg P w) a vs
 | .dT kvs=>kvs.length<=sizeLine/\(a == sysModules)=false/\∃ xs:List (List Key×Addr×Value),
   Paired (fun (p:List Key×V) (q:List Key×Addr×Value)=>p.1=q.1/\H q.2.1=some (.tup (p.1.map kV))/\RelV p.2 q.2.2) kvs xs /\
   ∃ o es ep,h.get? a=some o/\o.ExactDict/\o.data=.dict es ep/\es.toList=xs.map (entryOfKey (tupleKind (aeg P w)))/\(xs.map (·.1)).Nodup
 | .set S n=>h.SetOf (intKind P w) a S n
 | .ins C dx fs=>H dx=some (.own a)/\fs.length<=1000/\dx≠a/\h.get? a=some (aue C dx) /\
   ∃ mA,h.Ns1 dx mA/\(∀ f,aoa (fs.lookup f) (mA f))/\PySem.Within mA (fs.map (·.1))
 | .own _=>∃ o,h.get? a=some o
 | .xd fs=>∃ mA,h.Ns1 a mA/\∀ f,aoa (fs.lookup f) (mA f)
 | .rng lo hi=>∃ t u v,h.get? a=some { cls:=.type "range",data:=.fields #[.int lo t,.int hi u,.int 1 v] }
 | .frz o u=>h.get? a=some o/\ObjOk H h a u
 | .tbl q=>∃ ps,h.get? a=some (asz ps)/\TriplesOk ps.toList/\∀ pos cv,codeAmong pos ps.toList=some cv->∃ c,cv=.ref c/\H c=some (.own a)/\h.CodeRec (.ref c) q
 | .met f x=>h.get? a=some (atO (.ref f) (.ref x))
 | .ext φ=>φ h/\(∃ o,h.get? a=some o)/\∀ h1 h2:Heap,φ h1->(∀ o,h1.get? a=some o->h2.get? a=some o)->φ h2
def HOk (H:Hp) (h:Heap):Prop:=∀ a o,H a=some o->ObjOk P w H h a o
end
section
variable {P:Program} {w:World} {H H':Hp} {h h':Heap} {a:Addr} {o:HO}
theorem ObjOk.lt (x:ObjOk P w H h a o):a<h.objs.size:=by
 cases o with
 | lst xs=>obtain⟨_,_,_,_,e⟩:=x;exact aqI e
 | tup xs=>obtain⟨_,_,_,p⟩:=x;exact p.lt
 | dK kvs=>obtain⟨_,_,_,_,o,_,_,e,_⟩:=x;exact aqI e
 | dT kvs=>obtain⟨_,_,_,_,o,_,_,e,_⟩:=x;exact aqI e
 | set S n=>obtain⟨o,_,_,_,e,_⟩:=x;exact aqI e
 | ins C dx fs=>obtain⟨_,_,_,e,_⟩:=x;exact aqI e
 | own y=>obtain⟨_,e⟩:=x;exact aqI e
 | xd fs=>obtain⟨_,⟨_,_,_,e,_⟩,_⟩:=x;exact aqI e
 | rng lo hi=>obtain⟨_,_,_,e⟩:=x;exact aqI e
 | frz ob u=>obtain⟨e,_⟩:=x;exact aqI e
 | tbl q=>obtain⟨_,e,_⟩:=x;exact aqI e
 | met f y=>exact aqI (show h.get? a=some _ from x)
 | ext φ=>obtain⟨_,⟨_,e⟩,_⟩:=x;exact aqI e
theorem Paired.mapP {α β:Type} {F G:α->β->Prop}:∀ {l₁:List α} {l₂:List β},Paired F l₁ l₂->(∀ a b,F a b->G a b)->Paired G l₁ l₂
 | _,_,.nil,_=>.nil
 | _,_,.cons r t,f=>.cons (f _ _ r) (Paired.mapP t f)
theorem ObjOk.stay (x:ObjOk P w H h a o) (k:∀ b u,(b=a \/ H b=some (.own a))->h.get? b=some u->h'.get? b=some u)
  (ho:∀ b,H b=some (.own a)->H' b=some (.own a)) (ht:∀ b xs,H b=some (.tup xs)->H' b=some (.tup xs)):ObjOk P w H' h' a o:=by
 induction o with
 | lst xs=>obtain⟨z,its,n,r,e⟩:=x;exact⟨z,its,n,r,k _ _ (.inl rfl) e⟩
 | tup xs=>obtain⟨z,its,r,ob,e,c⟩:=x;exact⟨z,its,r,ob,k _ _ (.inl rfl) e,c⟩
 | dK kvs=>obtain⟨z,y,vs,r,ob,es,ep,e,c⟩:=x;exact⟨z,y,vs,r,ob,es,ep,k _ _ (.inl rfl) e,c⟩
 | dT kvs =>
  obtain⟨z,y,xs,r,ob,es,ep,e,c⟩:=x;exact⟨z,y,xs,Paired.mapP r fun p q z=>⟨z.1,ht _ _ z.2.1,z.2.2⟩,ob,es,ep,k _ _ (.inl rfl) e,c⟩
 | set S n=>obtain⟨ob,es,ep,t,e,c⟩:=x;exact⟨ob,es,ep,t,k _ _ (.inl rfl) e,c⟩
 | ins C dx fs =>
  obtain⟨d,z,ne,e,mA,⟨od,es,ep,e2,c⟩,r⟩:=x;exact⟨ho _ d,z,ne,k _ _ (.inl rfl) e,mA,⟨od,es,ep,k _ _ (.inr d) e2,c⟩,r⟩
 | own y=>obtain⟨ob,e⟩:=x;exact⟨ob,k _ _ (.inl rfl) e⟩
 | xd fs=>obtain⟨mA,⟨od,es,ep,e,c⟩,r⟩:=x;exact⟨mA,⟨od,es,ep,k _ _ (.inl rfl) e,c⟩,r⟩
 | rng lo hi=>obtain⟨t,u,v,e⟩:=x;exact⟨t,u,v,k _ _ (.inl rfl) e⟩
 | frz ob u ih=>obtain⟨e,q⟩:=x;exact⟨k _ _ (.inl rfl) e,ih q⟩
 | tbl q =>
  obtain⟨ps,e,tr,r⟩:=x;refine⟨ps,k _ _ (.inl rfl) e,tr,fun pos cv z=>?_⟩;obtain⟨c,ec,hc,c2,oc,vs,tq,e2,e3,e4,e5⟩:=r pos cv z;cases e2;exact⟨c,ec,ho _ hc,c,oc,vs,tq,rfl,k _ _ (.inr hc) e3,e4,e5⟩
 | met f y =>
  have e:h.get? a=some (atO (.ref f) (.ref y)):=x;show h'.get? a=some (atO (.ref f) (.ref y));exact k a _ (.inl rfl) e
 | ext φ=>obtain⟨p,⟨o,e⟩,st⟩:=x;exact⟨st _ _ p fun o q=>k _ _ (.inl rfl) q,⟨o,k _ _ (.inl rfl) e⟩,st⟩
theorem HOk.lt (x:HOk P w H h) (e:H a=some o):a<h.objs.size:=(x a o e).lt
theorem HOk.fresh (x:HOk P w H h) (e:h.objs.size<=a):H a=none:=by
 cases q:H a with
 | none=>rfl
 | some u=>exact absurd (aq4 (x.lt q) e) (ar8 _)
theorem HOk.kept (x:HOk P w H h) (k:∀ b u,h.get? b=some u->h'.get? b=some u):HOk P w H h':=fun a o e =>
 (x a o e).stay (fun b u _ q=>k b u q) (fun _ q=>q) fun _ _ q=>q
theorem HOk.laid (x:HOk P w H h) (k:∀ b u,h.get? b=some u->h'.get? b=some u) (hp:h.objs.size<=a) (new:ObjOk P w (upd H a o) h' a o):HOk P w (upd H a o) h':=fun b u e=>by
 have hn:=x.fresh hp;by_cases hb:b=a
 ·subst hb;rw [zB] at e;cases e;exact new
 ·rw [zx hb] at e;exact (x b u e).stay (fun c v _ q=>k c v q) (fun c q=>by rw [zx (zL q hn)];exact q) fun c xs q=>by rw [zx (zL q hn)];exact q
end
def Rd (H:Hp) (a:Addr) (u:HO):Prop:=H a=some u \/ ∃ o,H a=some (.frz o u)
theorem Rd.ok {P:Program} {w:World} {H:Hp} {h:Heap} {a:Addr} {u:HO} (r:Rd H a u) (x:HOk P w H h):ObjOk P w H h a u:=by
 rcases r with r | ⟨o,r⟩
 ·exact x a u r
 ·obtain⟨_,q⟩:=x a _ r;exact q
def Mut:Option HO->Prop
 | some (.lst _)=>True
 | some (.dK _)=>True
 | some (.dT _)=>True
 | some (.set _ _)=>True
 | some (.ins _ _ _)=>True
 | some (.ext _)=>True
 | _=>False
section
variable {P:Program} {w:World} {H:Hp} {h h':Heap} {x e:Addr} {o':HO}
theorem HOk.write (ok:HOk P w H h) (mu:Mut (H x)) (he:e=x \/ H e=some (.own x)) (k:∀ b u,b≠e->h.get? b=some u->h'.get? b=some u) (heo:∃ u,h'.get? e=some u)
  (new:ObjOk P w (upd H x o') h' x o'):HOk P w (upd H x o') h':=fun b u q=>by
 have nown:∀ c y,H c=some (.own y)->c≠x:=fun c y r z=>by subst z;rw [r] at mu;exact mu
 have ntup:∀ c xs,H c=some (.tup xs)->c≠x:=fun c xs r z=>by subst z;rw [r] at mu;exact mu
 by_cases hb:b=x
 ·subst hb;rw [zB] at q;cases q;exact new
 ·rw [zx hb] at q;by_cases hbe:b=e
  ·have q':H b=some (.own x):=by
    rcases he with z | z
    ·exact absurd (hbe.trans z) hb
    ·rw [hbe];exact z
   rw [q] at q';cases q';obtain⟨v,hv⟩:=heo;exact⟨v,by rw [hbe];exact hv⟩
  ·refine (ok b u q).stay (fun c v hc r=>k c v ?_ r) (fun c r=>by rw [zx (nown c b r)];exact r) fun c xs r=>by rw [zx (ntup c xs r)];exact r
   rcases hc with rfl | hc
   ·exact hbe
   ·rintro rfl;rcases he with z | z
    ·exact nown c b hc z
    ·rw [hc] at z;cases z;exact hb rfl
end
structure Un (fs ex:List Addr) (H H':Hp) (h h':Heap):Prop where
 keep:∀ b o,h.get? b=some o->H b=none->b∉fs->b∉ex->h'.get? b=some o
 slot:∀ b o,h.get? b=some o->H b=none->b∈fs->b∉ex->∃ sl,h'.get? b=some { o with slots:=sl }
 free:∀ b o,h.get? b=some o->H b=none->b∉ex->H' b=none
 there:∀ b o,h.get? b=some o->b∉ex->∃ o',h'.get? b=some o'
 tups:∀ b xs,H b=some (.tup xs)->H' b=some (.tup xs)
 frzs:∀ b o u,H b=some (.frz o u)->H' b=some (.frz o u)
 tbls:∀ b q,H b=some (.tbl q)->H' b=some (.tbl q)
section
variable {fs fs' ex ex':List Addr} {H H1 H2:Hp} {h h1 h2 h':Heap} {a x e:Addr} {o:HO}
theorem Un.any (u:Un fs ex H H1 h h1) {b:Addr} {ob:Obj} (q:h.get? b=some ob) (n:H b=none) (hx:b∉ex):∃ sl,h1.get? b=some { ob with slots:=sl }:=by
 by_cases hb:b∈fs
 ·exact u.slot b ob q n hb hx
 ·exact⟨ob.slots,u.keep b ob q n hb hx⟩
theorem Un.kept (k:∀ b u,h.get? b=some u->h'.get? b=some u):Un fs ex H H h h' :=
 ⟨fun b ob q _ _ _=>k b ob q,fun b ob q _ _ _=>⟨ob.slots,k b ob q⟩,fun _ _ _ n _=>n,fun b ob q _=>⟨ob,k b ob q⟩,fun _ _ q=>q,fun _ _ _ q=>q,fun _ ps q=>by exact q⟩
theorem Un.refl:Un fs ex H H h h:=Un.kept fun _ _ q=>q
theorem Un.laid (k:∀ b u,h.get? b=some u->h'.get? b=some u) (hp:h.objs.size<=a) (hn:H a=none):Un fs ex H (upd H a o) h h' where
 keep:=fun b u q _ _ _=>k b u q
 slot:=fun b u q _ _ _=>⟨u.slots,k b u q⟩
 free:=fun b u q n _=>by rw [zx (aq5 (aq4 (aqI q) hp))];exact n
 there:=fun b u q _=>⟨u,k b u q⟩
 tups:=fun b xs q=>by rw [zx (zL q hn)];exact q
 frzs:=fun b u xs q=>by rw [zx (zL q hn)];exact q
 tbls:=fun b ps q=>by rw [zx (zL q hn)];exact q
theorem Un.write (mu:Mut (H x)) (he:e=x \/ H e=some (.own x)) (k:∀ b u,b≠e->h.get? b=some u->h'.get? b=some u) (heo:∃ u,h'.get? e=some u):Un fs ex H (upd H x o) h h':=by
 have hx:∀ b,H b=none->b≠x:=fun b n z=>by subst z;rw [n] at mu;exact mu
 have hb:∀ b,H b=none->b≠e:=fun b n z=>by
  subst z;rcases he with r | r
  ·exact hx b n r
  ·rw [n] at r;cases r
 have hm:∀ b u,H b=some u->¬ Mut (some u)->b≠x:=fun b u q nm z=>by subst z;rw [q] at mu;exact nm mu
 refine⟨fun b u q n _ _=>k b u (hb b n) q,fun b u q n _ _=>⟨u.slots,k b u (hb b n) q⟩,fun b u q n _=>by rw [zx (hx b n)];exact n,fun b u q _=>?_,
  fun b xs q=>by rw [zx (hm b _ q fun z=>z)];exact q,fun b u xs q=>by rw [zx (hm b _ q fun z=>z)];exact q,fun b ps q=>by rw [zx (hm b _ q fun z=>z)];exact q⟩
 by_cases hbe:b=e
 ·subst hbe;exact heo
 ·exact⟨u,k b u hbe q⟩
end
noncomputable def trk (h:Heap) (H:Hp):List Addr:=(aqL h.objs.size).filter fun a=>(H a).isSome
noncomputable def afd (h:Heap) (H:Hp):Heap:=PySem.W.hideAll h (trk h H)
theorem aiL (h:Heap) (H:Hp):(afd h H).objs.size=h.objs.size:=PySem.W.hideAll_size _ _
theorem acz {h:Heap} {H:Hp} {b:Addr} {o:Obj} (e:h.get? b=some o) (n:H b=none):(afd h H).get? b=some o :=
 PySem.W.hideAll_get _ e fun hm=>by
  have q:(H b).isSome=true:=(aqW.mp hm).2;rw [n] at q;simp at q
theorem alW {h:Heap} {H:Hp} {b:Addr} {o:Obj} (e:(afd h H).get? b=some o):h.get? b=some o/\H b=none:=by
 have e':h.get? b=some o:=PySem.W.of_hideAll (trk h H) e;refine⟨e',?_⟩;cases q:H b with
 | none=>rfl
 | some x =>
  have hm:b∈trk h H:=aqW.mpr ⟨aqY.mpr (aqI e'),by simp [q]⟩;have z:(afd h H).get? b=none:=PySem.W.hideAll_none (trk h H) hm;rw [z] at e;cases e
noncomputable def je (g h:Heap) (L:Addr):List (Addr×Obj):=(aqL h.objs.size).filterMap fun a=>if a=L \/ (g.get? a).isSome=true then none else (h.get? a).map fun o=>(a,o)
theorem v5 {g h:Heap} {L a:Addr} {o:Obj} (h1:a≠L) (h2:g.get? a=none) (h3:h.get? a=some o):(a,o)∈je g h L :=
 asE.mpr ⟨a,aqY.mpr (aqI h3),by simp [h1,h2,h3]⟩
theorem acA {g h:Heap} {L:Addr} {p:Addr×Obj} (hp:p∈je g h L):p.1≠L/\g.get? p.1=none/\h.get? p.1=some p.2:=by
 obtain⟨b,_,e⟩:=asE.mp hp;split at e
 ·cases e
 ·rename_i hn;cases q:h.get? b with
  | none=>rw [q] at e;simp at e
  | some u =>
   rw [q] at e;simp only [asn,Option.some.injEq] at e;subst e;refine⟨fun z=>hn (.inl z),?_,q⟩;show g.get? b=none;cases r:g.get? b with
   | none=>rfl
   | some v=>exact (hn (.inr (by simp [r]))).elim
noncomputable def rest (g h:Heap) (L d:Addr):List (Addr×Obj):=(je g h L).filter fun p=>decide (p.1≠d)
theorem ajN {g h:Heap} {L:Addr}:News g L h (je g h L):=fun p hp=>let⟨a,b,c⟩:=acA hp;⟨c,a,b⟩
structure Mod (K:aqu) (mg:Str->Option Value) (base:Heap):Prop where
 kin:K.In base
 glob:base.Ns mainGlobals mg
 blt:∃ mb,base.Ns builtinsNs mb/\∀ x:Str,x ≠ "__name__"->mb x=bootBuiltins x
 nolimit:base.NoLimit
 bm:∃ b o,mg "__builtins__"=some (.ref b)/\b≠builtinsNs/\base.get? b=some o/\o.cls=.type "module"/\o.dict=some builtinsNs/\o.data=.plain
structure Cx where
 prog:Program
 w:World
 K:aqu
 mg:Str->Option Value
 base:Heap
 A:Around
 N:List Str
 s₀:Shared
 H₀:Hp
 env:Env
 outer:List Env
 stack:List Env
 ex:List Addr
 fn:Str->Bool
 calm:Bool
 pn:List (Addr×Obj)
 xe:Value->Shared->Prop
noncomputable def frs (l:List Env):List Addr:=l.filterMap (·.frame)
noncomputable abbrev Cx.fs (X:Cx):List Addr:=frs X.outer
def Vis (sc:Scope) (x:Str):Prop:=sc.names.lookup x=some .local \/ sc.names.lookup x=some .cell \/ sc.names.lookup x=some .free
def Loc (sc:Scope) (x:Str):Prop:=sc.names.lookup x=some .local \/ sc.names.lookup x=some .cell
def Look (env:Env) (h:Heap) (m:Str->Option Value) (x:Str) (u:Value):Prop :=
 (env.kindOf x=some .local/\m x=some u) \/ ((env.kindOf x=some .cell \/ env.kindOf x=some .free)/\∃ c,env.cells.lookup x=some c/\h.IsCell c (some u))
noncomputable def lamDefs:List Str:=["least_kept","pair_beside","peaks"]
noncomputable def lamQ (q:Str):Str:=(q ++ ".<locals>.") ++ "<lambda>"
def TabsOk (K:aqu) (H:Hp):Prop:=∀ c P q,q∈lamDefs->arG K c P=true->ary K (.ref c) q=true->H P=some (.tbl (lamQ q))
structure Cx.Ok (X:Cx):Prop where
 mod:Mod X.K X.mg X.base
 kind:X.env.scope.kind=.function
 glob:X.env.globals=mainGlobals
 blt:X.env.builtins=builtinsNs
 above:X.s₀.heap.objs.size<=X.env.locals
 inj:∀ x y c,X.env.cells.lookup x=some c->X.env.cells.lookup y=some c->x=y
 has:∀ x,(X.env.kindOf x=some .cell \/ X.env.kindOf x=some .free)->∃ c,X.env.cells.lookup x=some c
 cab:∀ x c,X.fn x=true->X.env.cells.lookup x=some c->X.s₀.heap.objs.size<=c
 hd:X.calm=true->X.A.handled=none
 frames:X.A.frames=some X.stack
 stk:X.stack=X.outer \/ (X.stack=X.env :: X.outer/\X.env.frame=some X.env.locals)
 exf:∀ b∈X.ex,b≠X.env.locals/\∀ x c,X.env.cells.lookup x=some c->c≠b
 bs:∀ b o,X.base.get? b=some o->X.s₀.heap.get? b=some o/\X.H₀ b=none
 bsz:X.base.objs.size<=X.s₀.heap.objs.size
 noex:∀ b o,X.base.get? b=some o->b∉X.ex
 exfs:∀ b∈X.ex,b∉X.fs
 funs:X.s₀.heap.FunFrames X.base X.outer
 frf:∀ b∈X.fs,X.H₀ b=none
 tabs:TabsOk X.K X.H₀
structure Inv (X:Cx) (pins:List (Addr×Obj)) (σ:List (Option V)) (H:Hp) (s:Shared):Prop where
 ok:X.Ok
 os:s.os=X.s₀.os
 bare:AllBare s.gens
 base:Un X.fs X.ex X.H₀ H X.s₀.heap s.heap
 loc:∃ m,s.heap.Ns X.env.locals m/\∀ (i:Nat) (x:Str) (v:V),X.N[i]?=some x->σ[i]?=some (some v)->Vis X.env.scope x->∃ u,RelV v u/\Look X.env s.heap m x u
 cell:∀ x c,X.env.cells.lookup x=some c->∃ v,s.heap.IsCell c v
 free:H X.env.locals=none
 freeC:∀ x c,X.env.cells.lookup x=some c->H c=none
 pin:∀ p∈X.pn++pins,s.heap.get? p.1=some p.2/\H p.1=none/\p.1≠X.env.locals/\p.1∉X.fs/\∀ v,p.2.data≠.cell v
 hok:HOk X.prog X.w H s.heap
 len:σ.length=X.N.length
section
variable {X:Cx} {pins:List (Addr×Obj)} {σ:List (Option V)} {H H':Hp} {s:Shared} {h':Heap}
theorem Cx.Ok.nofr (ok:X.Ok) {b:Addr} {o:Obj} (e:X.base.get? b=some o):b∉X.fs:=fun hb=>by
 have:=(ok.funs.mem hb).1;rw [e] at this;cases this
theorem Inv.bs (I:Inv X pins σ H s):∀ b o,X.base.get? b=some o->s.heap.get? b=some o/\H b=none:=fun b o e =>
 ⟨I.base.keep b o (I.ok.bs b o e).1 (I.ok.bs b o e).2 (I.ok.nofr e) (I.ok.noex b o e),I.base.free b o (I.ok.bs b o e).1 (I.ok.bs b o e).2 (I.ok.noex b o e)⟩
theorem Inv.bk (I:Inv X pins σ H s):∀ b o,X.base.get? b=some o->s.heap.get? b=some o:=fun b o e=>(I.bs b o e).1
theorem Inv.mod (I:Inv X pins σ H s):Mod X.K X.mg X.base:=I.ok.mod
theorem Inv.kIn (I:Inv X pins σ H s):X.K.In s.heap:=I.ok.mod.kin.keeps I.bk
theorem Inv.nolimit (I:Inv X pins σ H s):s.heap.NoLimit:=I.ok.mod.nolimit.keeps I.bk
theorem Inv.fr (I:Inv X pins σ H s):∃ m,Fr X.base X.env.locals s.heap m :=
 let⟨m,hn,_⟩:=I.loc
 ⟨m,hn,I.bk,aqS I.ok.bsz I.ok.above⟩
theorem Inv.lt (I:Inv X pins σ H s):X.env.locals<s.heap.objs.size:=let⟨_,hn,_⟩:=I.loc;hn.lt
theorem Inv.sz (I:Inv X pins σ H s):X.s₀.heap.objs.size<=s.heap.objs.size:=aqS I.ok.above (arE I.lt)
theorem Inv.nofs (I:Inv X pins σ H s) {a:Addr} (h:s.heap.objs.size<=a):a∉X.fs:=fun hb=>by
 obtain⟨_,o,ho,_⟩:=I.ok.funs.mem hb;exact absurd (aq4 (aqI ho) (aqS I.sz h)) (ar8 _)
theorem Inv.cne (I:Inv X pins σ H s):∀ x c,X.env.cells.lookup x=some c->c≠X.env.locals:=fun x c e z=>by
 obtain⟨v,o,ho,hd⟩:=I.cell x c e;obtain⟨m,⟨o',es,ep,ho',hd',_⟩,_⟩:=I.loc;rw [z,ho'] at ho;cases ho;rw [hd'] at hd;cases hd
theorem Inv.funs (I:Inv X pins σ H s):s.heap.FunFrames X.base X.outer:=by
 have all:∀ (l:List Env),(∀ b∈frs l,b∈X.fs)->X.s₀.heap.FunFrames X.base l->s.heap.FunFrames X.base l:=by
  intro l
  induction l with
  | nil=>intro _ _;trivial
  | cons env r ih =>
   intro hs hl;obtain⟨hk,⟨L,o,hf,hn,ho,hd⟩,hr⟩:=hl;have hL:L∈X.fs:=hs L (by unfold frs;rw [as0,hf];exact aqv);obtain⟨sl,e⟩:=I.base.slot L o ho (I.ok.frf L hL) hL fun z=>I.ok.exfs L z hL;exact⟨hk,⟨L,_,hf,hn,e,hd⟩,ih (fun b hb=>hs b (by unfold frs;rw [as0,hf];exact aqw _ hb)) hr⟩
 exact all X.outer (fun _ hb=>hb) I.ok.funs
theorem Inv.stack (I:Inv X pins σ H s):s.heap.FunFrames X.base X.stack:=by
 rcases I.ok.stk with e | ⟨e,hf⟩
 ·rw [e];exact I.funs
 ·rw [e];obtain⟨m,hn,_⟩:=I.loc;refine .cons (by rw [I.ok.kind];decide) hf hn ?_ I.funs;exact Heap.get?_none_of_le (aqS I.ok.bsz I.ok.above)
theorem Inv.stkSub (I:Inv X pins σ H s):∀ b∈frs X.stack,b∈X.env.locals :: X.fs:=fun b hb=>by
 rcases I.ok.stk with e | ⟨e,hf⟩
 ·rw [e] at hb;exact aqw _ hb
 ·rw [e] at hb;unfold frs at hb;rw [as0,hf] at hb;exact hb
theorem Inv.stkFree (I:Inv X pins σ H s):∀ b∈frs X.stack,H b=none:=fun b hb=>by
 rcases aqE.mp (I.stkSub b hb) with e | hb
 ·rw [e];exact I.free
 ·obtain⟨_,o,ho,_⟩:=I.ok.funs.mem hb;exact I.base.free b o ho (I.ok.frf b hb) fun z=>I.ok.exfs b z hb
theorem Inv.step {g':Array GenState} {t':Nat} {d':Drawn} {ch:List Addr} (I:Inv X pins σ H s)
  (hch:∀ b∈ch,(b∈X.ex \/ X.s₀.heap.objs.size<=b)/\b≠X.env.locals/\(∀ x c,X.env.cells.lookup x=some c->c≠b)/\∀ p∈X.pn++pins,p.1≠b)
  (keep:∀ b o,b≠X.env.locals->b∉X.fs->b∉ch->s.heap.get? b=some o->H b=none->h'.get? b=some o)
  (slot:∀ b o,b≠X.env.locals->b∈X.fs->b∉ch->s.heap.get? b=some o->H b=none->∃ sl,h'.get? b=some { o with slots:=sl }) (free:∀ b o,b∉ch->s.heap.get? b=some o->H b=none->H' b=none)
  (there:∀ b o,b∉ch->s.heap.get? b=some o->∃ o',h'.get? b=some o')
  (tups:∀ b xs,H b=some (.tup xs)->H' b=some (.tup xs)) (frzs:∀ b o u,H b=some (.frz o u)->H' b=some (.frz o u)) (tbls:∀ b q,H b=some (.tbl q)->H' b=some (.tbl q))
  (ns:∀ m,s.heap.Ns X.env.locals m->h'.Ns X.env.locals m) (hok:HOk X.prog X.w H' h') (hg:AllBare g') :
  Inv X pins σ H' { s with heap:=h',gens:=g',drawn:=d',toks:=t' }:=by
 have neL:∀ b o,X.s₀.heap.get? b=some o->b≠X.env.locals:=fun b o e=>aq5 (aq4 (aqI e) I.ok.above);have neC:∀ b o,X.s₀.heap.get? b=some o->b∉X.ex->b∉ch:=fun b o e hx hb=>by
  rcases (hch b hb).1 with z | z
  ·exact hx z
  ·exact absurd (aq4 (aqI e) z) (ar8 _)
 have cellK:∀ x c,X.env.cells.lookup x=some c->∀ v,s.heap.IsCell c v->h'.IsCell c v:=fun x c e v ⟨o,ho,hd⟩=>by
  have nch:c∉ch:=fun z=>(hch c z).2.2.1 x c e rfl;by_cases hc:c∈X.fs
  ·obtain⟨sl,q⟩:=slot c o (I.cne x c e) hc nch ho (I.freeC x c e);exact⟨_,q,hd⟩
  ·exact⟨o,keep c o (I.cne x c e) hc nch ho (I.freeC x c e),hd⟩
 refine⟨I.ok,I.os,hg,⟨fun b o e n hb hx=>?_,fun b o e n hb hx=>?_,fun b o e n hx=>?_,fun b o e hx=>?_,fun b xs e=>tups b xs (I.base.tups b xs e),fun b o xs e=>frzs b o xs (I.base.frzs b o xs e),fun b ps e=>?_⟩,?_,fun x c e=>?_,?_,fun x c e=>?_,fun p hp=>?_,hok,I.len⟩
 ·exact keep b o (neL b o e) hb (neC b o e hx) (I.base.keep b o e n hb hx) (I.base.free b o e n hx)
 ·obtain⟨sl,e1⟩:=I.base.slot b o e n hb hx;obtain⟨sl',e2⟩:=slot b _ (neL b o e) hb (neC b o e hx) e1 (I.base.free b o e n hx);exact⟨sl',e2⟩
 ·obtain⟨o',e1⟩:=I.base.there b o e hx;exact free b o' (neC b o e hx) e1 (I.base.free b o e n hx)
 ·obtain⟨o',e1⟩:=I.base.there b o e hx;exact there b o' (neC b o e hx) e1
 ·exact tbls b _ (I.base.tbls b _ e)
 ·obtain⟨m,hn,hl⟩:=I.loc;refine⟨m,ns m hn,fun i x v e1 e2 e3=>?_⟩;obtain⟨u,r,l⟩:=hl i x v e1 e2 e3;refine⟨u,r,?_⟩;rcases l with l | ⟨k,c,e,z⟩
  ·exact .inl l
  ·exact .inr ⟨k,c,e,cellK x c e _ z⟩
 ·obtain⟨v,z⟩:=I.cell x c e;exact⟨v,cellK x c e v z⟩
 ·obtain⟨m,⟨o,_,_,ho,_⟩,_⟩:=I.loc;exact free _ o (fun z=>(hch _ z).2.1 rfl) ho I.free
 ·obtain⟨v,o,ho,hd⟩:=I.cell x c e;exact free c o (fun z=>(hch c z).2.2.1 x c e rfl) ho (I.freeC x c e)
 ·obtain⟨e,n,ne,nf,d⟩:=I.pin p hp;have nch:p.1∉ch:=fun z=>(hch p.1 z).2.2.2 p hp rfl;exact⟨keep p.1 p.2 ne nf nch e n,free p.1 p.2 nch e n,ne,nf,d⟩
theorem Inv.un {t':Nat} (I:Inv X pins σ H s) (u:Un X.fs [] H H' s.heap h') (hok:HOk X.prog X.w H' h'):Inv X pins σ H' { s with heap:=h',toks:=t' }:=by
 obtain⟨m,⟨o,es,ep,ho,r⟩,_⟩:=id I.loc;obtain⟨sl,hL⟩:=u.any ho I.free (by simp);exact I.step (g':=s.gens) (d':=s.drawn) (ch:=[]) (fun _ z=>nomatch z) (fun b o _ hb _ e n=>u.keep b o e n hb (by simp)) (fun b o _ hb _ e n=>u.slot b o e n hb (by simp)) (fun b o _ e n=>u.free b o e n (by simp)) (fun b o _ e=>u.there b o e (by simp)) u.tups u.frzs u.tbls (fun m' hm=>by
  obtain⟨o',es',ep',ho',r'⟩:=hm;rw [ho] at ho';cases ho';exact⟨_,es',ep',hL,r'⟩) hok I.bare
theorem Inv.call {g':Array GenState} {t':Nat} {d':Drawn} {ch:List Addr} (I:Inv X pins σ H s) (u:Un (frs X.stack) ch H H' s.heap h') (hok:HOk X.prog X.w H' h') (hg:AllBare g')
  (hch:∀ b∈ch,(b∈X.ex \/ X.s₀.heap.objs.size<=b)/\b≠X.env.locals/\(∀ x c,X.env.cells.lookup x=some c->c≠b)/\∀ p∈X.pn++pins,p.1≠b) :
  Inv X pins σ H' { s with heap:=h',gens:=g',drawn:=d',toks:=t' }:=by
 obtain⟨m,⟨o,es,ep,ho,r⟩,_⟩:=id I.loc;obtain⟨sl,hL⟩:=u.any ho I.free fun z=>(hch _ z).2.1 rfl;exact I.step (ch:=ch) hch (fun b o hL hb hc e n=>u.keep b o e n (fun z=>(aqE.mp (I.stkSub b z)).elim hL hb) hc) (fun b o _ _ hc e n=>u.any e n hc) (fun b o hc e n=>u.free b o e n hc) (fun b o hc e=>u.there b o e hc) u.tups u.frzs u.tbls (fun m' hm=>by
  obtain⟨o',es',ep',ho',r'⟩:=hm;rw [ho] at ho';cases ho';exact⟨_,es',ep',hL,r'⟩) hok hg
theorem Inv.turned {t':Nat} {it:Addr} (I:Inv X pins σ H s) (k:∀ b o,b≠it->s.heap.get? b=some o->h'.get? b=some o) (hn:H it=none) (hL:it≠X.env.locals)
  (h1:it∈X.ex \/ X.s₀.heap.objs.size<=it) (h2:∀ x c,X.env.cells.lookup x=some c->c≠it) (h3:∀ p∈X.pn++pins,p.1≠it):Inv X pins σ H { s with heap:=h',toks:=t' }:=by
 have nit:∀ b u,H b=some u->b≠it:=fun b u e z=>by rw [z,hn] at e;cases e
 refine I.step (g':=s.gens) (d':=s.drawn) (ch:=[it]) (fun b hb=>?_) (fun b o _ _ hc e _=>k b o (fun z=>hc (by simp [z])) e) (fun b o _ _ hc e _=>⟨o.slots,k b o (fun z=>hc (by simp [z])) e⟩) (fun _ _ _ _ n=>n)
  (fun b o hc e=>⟨o,k b o (fun z=>hc (by simp [z])) e⟩) (fun _ _ e=>e) (fun _ _ _ e=>e) (fun b ps e=>by exact e) (fun m hm=>?_) (fun b u e=>?_) I.bare
 ·have e:b=it:=by simpa using hb
  subst e;exact⟨h1,hL,h2,h3⟩
 ·obtain⟨o,es,ep,ho,r⟩:=hm;exact⟨o,es,ep,k _ o (arU hL) ho,r⟩
 ·refine (I.hok b u e).stay (fun c v hc q=>k c v ?_ q) (fun _ q=>q) fun _ _ q=>q;rcases hc with z | z
  ·rw [z];exact nit b u e
  ·exact nit c _ z
theorem Inv.tok (I:Inv X pins σ H s) (t:Nat):Inv X pins σ H { s with toks:=t }:=I.un (h':=s.heap) (t':=t) Un.refl I.hok
theorem Inv.kept {t':Nat} (I:Inv X pins σ H s) (k:∀ b u,s.heap.get? b=some u->h'.get? b=some u):Inv X pins σ H { s with heap:=h',toks:=t' }:=I.un (Un.kept k) (I.hok.kept k)
theorem Inv.laid {a:Addr} {o:HO} {t':Nat} (I:Inv X pins σ H s) (k:∀ b u,s.heap.get? b=some u->h'.get? b=some u) (hp:s.heap.objs.size<=a) (new:ObjOk X.prog X.w (upd H a o) h' a o) :
  Inv X pins σ (upd H a o) { s with heap:=h',toks:=t' }:=I.un (Un.laid k hp (I.hok.fresh hp)) (I.hok.laid k hp new)
theorem Inv.write {x e:Addr} {o:HO} {t':Nat} (I:Inv X pins σ H s) (mu:Mut (H x)) (he:e=x \/ H e=some (.own x)) (k:∀ b u,b≠e->s.heap.get? b=some u->h'.get? b=some u) (heo:∃ u,h'.get? e=some u)
  (new:ObjOk X.prog X.w (upd H x o) h' x o):Inv X pins σ (upd H x o) { s with heap:=h',toks:=t' }:=I.un (Un.write mu he k heo) (I.hok.write mu he k heo new)
theorem Inv.pins_of {pins':List (Addr×Obj)} (I:Inv X pins σ H s) (h:∀ p∈pins',s.heap.get? p.1=some p.2/\H p.1=none/\p.1≠X.env.locals/\p.1∉X.fs/\∀ v,p.2.data≠.cell v):Inv X pins' σ H s :=
 ⟨I.ok,I.os,I.bare,I.base,I.loc,I.cell,I.free,I.freeC,fun p hp=>(aqK.mp hp).elim (fun z=>I.pin p (aq1 _ z)) (h p),I.hok,I.len⟩
theorem afe {N:List Str} (hN:N.Nodup) {i j:Nat} {x:Str} (a:N[i]?=some x) (b:N[j]?=some x):i=j:=by
 obtain⟨h1,e1⟩:=aqs.mp a;obtain⟨h2,e2⟩:=aqs.mp b;exact (atm hN).mp (e1.trans e2.symm)
theorem adB {M:Model} {A:Around} {E:Value->Shared->Prop} {i:Nat} {x:Str} {v:V} {u:Value} {Q:Unit->Shared->Prop} (I:Inv X pins σ H s) (hN:X.N.Nodup) (hi:X.N[i]?=some x) (hx:Loc X.env.scope x) (r:RelV v u)
  (h:∀ s',Inv X pins (σ.set i (some v)) H s'->(∃ a,asp a s.heap s'.heap/\(a=X.env.locals \/ X.env.cells.lookup x=some a))->Q () s') (hf:X.fn x=true \/ X.env.scope.names.lookup x=some .local:=by first | exact .inl rfl | exact .inr rfl | assumption):wpAny M A (storeName X.env x u) Q E s:=by
 obtain⟨m,hn,hl⟩:=id I.loc;have hcls:(X.env.scope.kind == .class || (X.env.scope.kind == .module && X.env.locals != X.env.globals))=false:=by rw [I.ok.kind];rfl
 have hiσ:i<σ.length:=by rw [I.len];exact (aqs.mp hi).1
 have cne:=I.cne;have tracked:∀ {a:Addr} {h':Heap},(∃ o,s.heap.get? a=some o/\H a=none)->asp a s.heap h'->HOk X.prog X.w H h':=fun {a h'} ha hs b ob e=>by
  obtain⟨_,_,hfree⟩:=ha;refine (I.hok b ob e).stay (fun c w' hc q=>(hs.2 c ?_).trans q) (fun _ q=>q) fun _ _ q=>q;rintro rfl;rcases hc with rfl | hc
  ·rw [hfree] at e;cases e
  ·rw [hfree] at hc;cases hc
 rcases hx with hk | hk
 ·refine wpAny_storeName_local hk hn (fun h' hn' hs=>?_) hcls;obtain⟨oL,_,_,hoL,_⟩:=id hn;refine h _ ⟨I.ok,I.os,I.bare,⟨fun b o e n hb hx=>?_,fun b o e n hb hx=>?_,I.base.free,fun b o e hx=>?_,I.base.tups,I.base.frzs,I.base.tbls⟩,⟨_,hn',fun j y v' e1 e2 e3=>?_⟩,fun y c e=>?_,I.free,I.freeC,fun p hp=>?_,tracked ⟨oL,hoL,I.free⟩ hs,by simpa using I.len⟩ ⟨_,hs,.inl rfl⟩
  ·exact (hs.2 b (aq5 (aq4 (aqI e) I.ok.above))).trans (I.base.keep b o e n hb hx)
  ·obtain⟨sl,e1⟩:=I.base.slot b o e n hb hx;exact⟨sl,(hs.2 b (aq5 (aq4 (aqI e) I.ok.above))).trans e1⟩
  ·obtain⟨o',e1⟩:=I.base.there b o e hx;exact⟨o',(hs.2 b (aq5 (aq4 (aqI e) I.ok.above))).trans e1⟩
  ·by_cases hj:j=i
   ·subst hj;rw [hi] at e1;cases e1;rw [ar3 hiσ] at e2;cases e2;exact⟨u,r,.inl ⟨hk,by simp⟩⟩
   ·rw [asO (arU hj)] at e2;obtain⟨u',r',q⟩:=hl j y v' e1 e2 e3;refine⟨u',r',?_⟩;rcases q with⟨k,e⟩ | ⟨k,c,e,z⟩
    ·refine .inl ⟨k,?_⟩;have:y≠x:=fun e=>hj (afe hN e1 (e▸hi));simp [this,e]
    ·exact .inr ⟨k,c,e,z.sameBut hs (cne y c e)⟩
  ·obtain⟨w',z⟩:=I.cell y c e;exact⟨w',z.sameBut hs (cne y c e)⟩
  ·obtain⟨e,n,ne,nf,d⟩:=I.pin p hp;exact⟨(hs.2 p.1 ne).trans e,n,ne,nf,d⟩
 ·have hfn:X.fn x=true:=by
   rcases hf with z | z
   ·exact z
   ·rw [z] at hk;cases hk
  obtain⟨c,hc⟩:=I.ok.has x (.inl hk);obtain⟨w',z⟩:=I.cell x c hc;refine wpAny_storeName_cell I.ok.kind hk hc z (fun h' hc' hs=>?_);obtain⟨oc,hoc,hocd⟩:=id z;refine h { s with heap:=h' } ⟨I.ok,I.os,I.bare,⟨fun b o e n hb hx=>?_,fun b o e n hb hx=>?_,I.base.free,fun b o e hx=>?_,I.base.tups,I.base.frzs,I.base.tbls⟩,⟨m,hn.sameBut hs (arU (cne x c hc)),fun j y v' e1 e2 e3=>?_⟩,fun y c' e=>?_,I.free,I.freeC,fun p hp=>?_,tracked ⟨oc,hoc,I.freeC x c hc⟩ hs,by simpa using I.len⟩ ⟨c,hs,.inr hc⟩
  ·exact (hs.2 b (aq5 (aq4 (aqI e) (I.ok.cab x c hfn hc)))).trans (I.base.keep b o e n hb hx)
  ·obtain⟨sl,e1⟩:=I.base.slot b o e n hb hx;exact⟨sl,(hs.2 b (aq5 (aq4 (aqI e) (I.ok.cab x c hfn hc)))).trans e1⟩
  ·obtain⟨o',e1⟩:=I.base.there b o e hx;exact⟨o',(hs.2 b (aq5 (aq4 (aqI e) (I.ok.cab x c hfn hc)))).trans e1⟩
  ·by_cases hj:j=i
   ·subst hj;rw [hi] at e1;cases e1;rw [ar3 hiσ] at e2;cases e2;exact⟨u,r,.inr ⟨.inl hk,c,hc,hc'⟩⟩
   ·rw [asO (arU hj)] at e2;obtain⟨u',r',q⟩:=hl j y v' e1 e2 e3;refine⟨u',r',?_⟩;rcases q with q | ⟨k,c',e,z'⟩
    ·exact .inl q
    ·refine .inr ⟨k,c',e,z'.sameBut hs ?_⟩;rintro rfl;exact hj (afe hN e1 (I.ok.inj _ _ _ e hc▸hi))
  ·by_cases hcc:c'=c
   ·subst hcc;exact⟨_,hc'⟩
   ·obtain⟨w2,z2⟩:=I.cell y c' e;exact⟨w2,z2.sameBut hs hcc⟩
  ·obtain⟨e,n,ne,nf,d⟩:=I.pin p hp;refine⟨(hs.2 p.1 ?_).trans e,n,ne,nf,d⟩;intro q;rw [q,hoc] at e;have q':oc=p.2:=Option.some.inj e;exact d w' (by rw [<-q'];exact hocd)
theorem aa2 {M:Model} {A:Around} {E:Value->Shared->Prop} {i:Nat} {x:Str} {v:V} {u:Value} {Q:Unit->Shared->Prop} (I:Inv X pins σ H s) (hN:X.N.Nodup) (hi:X.N[i]?=some x) (hx:Loc X.env.scope x) (r:RelV v u)
  (h:∀ s',Inv X pins (σ.set i (some v)) H s'->Q () s') (hf:X.fn x=true \/ X.env.scope.names.lookup x=some .local:=by first | exact .inl rfl | exact .inr rfl | assumption):wpAny M A (storeName X.env x u) Q E s :=
 adB I hN hi hx r (fun s' I' _=>h s' I') hf
theorem Inv.call' {s':Shared} {ch:List Addr} (I:Inv X pins σ H s) (ho:s'.os=s.os) (u:Un (frs X.stack) ch H H' s.heap s'.heap) (hok:HOk X.prog X.w H' s'.heap) (hg:AllBare s'.gens)
  (hch:∀ b∈ch,(b∈X.ex \/ X.s₀.heap.objs.size<=b)/\b≠X.env.locals/\(∀ x c,X.env.cells.lookup x=some c->c≠b)/\∀ p∈X.pn++pins,p.1≠b):Inv X pins σ H' s':=by
 obtain⟨h',g',d',t',o'⟩:=s';have e:o'=s.os:=ho;subst e;exact I.call (g':=g') (t':=t') (d':=d') u hok hg hch
end
abbrev XK:=Value->Option Addr->Hp->Prop
abbrev St:=List (Option V)
abbrev VK:=V->Hp->Prop
abbrev TE:=St->Hp->VK->Prop
abbrev TT:=St->Hp->(Bool->Hp->Prop)->Prop
abbrev TA:=St->Hp->(List V->Hp->Prop)->Prop
structure Ends where
 nx:St->Hp->Prop
 rt:VK
 bk:St->Hp->Prop:=fun _ _=>False
 ct:St->Hp->Prop:=fun _ _=>False
abbrev TS:=Ends->St->Hp->Prop
def EP (X:Cx) (pins:List (Addr×Obj)) (σ:St) (Q:VK) (u:Value) (s':Shared):Prop:=∃ v H',Inv X pins σ H' s'/\RelV v u/\Q v H'
def TP (X:Cx) (pins:List (Addr×Obj)) (σ:St) (Q:Bool->Hp->Prop) (b:Bool) (s':Shared):Prop:=∃ H',Inv X pins σ H' s'/\Q b H'
def AP (X:Cx) (pins:List (Addr×Obj)) (σ:St) (Q:List V->Hp->Prop) (us:List Value) (s':Shared):Prop:=∃ vs H',Inv X pins σ H' s'/\Vals vs us/\Q vs H'
def SP (X:Cx) (pins:List (Addr×Obj)) (D:Ends) (f:Flow) (s':Shared):Prop :=
 match f with
 | .next=>∃ σ' H',Inv X pins σ' H' s'/\D.nx σ' H'
 | .brk=>∃ σ' H',Inv X pins σ' H' s'/\D.bk σ' H'
 | .cont=>∃ σ' H',Inv X pins σ' H' s'/\D.ct σ' H'
 | .ret u=>∃ v σ' H',Inv X pins σ' H' s'/\RelV v u/\D.rt v H'
def PE (X:Cx) (e:Expr) (t:TE):Prop :=
 ∀ (pins:List (Addr×Obj)) (s:Shared) (σ:St) (H:Hp) (Q:VK),Inv X pins σ H s->t σ H Q->wpAny (model X.prog X.w) X.A (eval e X.env) (EP X pins σ Q) X.xe s
def PT (X:Cx) (e:Expr) (t:TT):Prop :=
 ∀ (pins:List (Addr×Obj)) (s:Shared) (σ:St) (H:Hp) (Q:Bool->Hp->Prop),Inv X pins σ H s->t σ H Q->wpAny (model X.prog X.w) X.A (isTrue e X.env (eval e X.env)) (TP X pins σ Q) X.xe s
def PW (X:Cx) (e:Expr) (t:TT):Prop :=
 ∀ (whole:Sem Value) (pins:List (Addr×Obj)) (s:Shared) (σ:St) (H:Hp) (Q:Bool->Hp->Prop),Inv X pins σ H s->t σ H Q->wpAny (model X.prog X.w) X.A (isTrue e X.env whole) (TP X pins σ Q) X.xe s
theorem PW.pt {X:Cx} {e:Expr} {t:TT} (h:PW X e t):PT X e t:=h _
def PA (X:Cx) (es:List Expr) (t:TA):Prop :=
 ∀ (pos:Pos) (pins:List (Addr×Obj)) (s:Shared) (σ:St) (H:Hp) (Q:List V->Hp->Prop),Inv X pins σ H s->t σ H Q->wpAny (model X.prog X.w) X.A (spliced (backTo pos (starEach es X.env))) (AP X pins σ Q) X.xe s
def PS (X:Cx) (st:Stmt) (t:TS):Prop :=
 ∀ (pins:List (Addr×Obj)) (s:Shared) (σ:St) (H:Hp) (D:Ends),Inv X pins σ H s->t D σ H->wpAny (model X.prog X.w) X.A (exec st X.env) (SP X pins D) X.xe s
def PSs (X:Cx) (st:List Stmt) (t:TS):Prop :=
 ∀ (pins:List (Addr×Obj)) (s:Shared) (σ:St) (H:Hp) (D:Ends),Inv X pins σ H s->t D σ H->wpAny (model X.prog X.w) X.A (execs st X.env) (SP X pins D) X.xe s
theorem thn {α:Type} {t:Sem α} {Q Q':α->Shared->Prop} {M:Model} {A:Around} {E:Value->Shared->Prop} {s:Shared} (h:wpAny M A t Q E s) (hQ:∀ a s,Q a s->Q' a s):wpAny M A t Q' E s:=wpAny_mono h hQ fun _ _ x=>x
section
variable {X:Cx}
def zR (i:Nat):TE:=fun σ H Q=>∃ v,σ[i]?=some (some v)/\Q v H
def tC (v:V):TE:=fun _ H Q=>Q v H
theorem aob {i:Nat} {x:Str} {pos:Pos} (hN:X.N[i]?=some x) (hv:Vis X.env.scope x) (hd:(x == ("__debug__":Str))=false:=by decide) (hcd:(x == ("__classdict__":Str))=false:=by decide):PE X (.Name x pos) (zR i):=by
 intro pins s σ H Q I h;obtain⟨v,e,h⟩:=h;obtain⟨m,hn,hl⟩:=I.loc;obtain⟨u,r,l⟩:=hl i x v hN e hv;have fin:EP X pins σ Q u s:=⟨v,H,I,r,h⟩;rcases l with⟨hk,hm⟩ | ⟨hk,c,hc,hcell⟩
 ·exact wpAny_Name (wpAny_loadName_local I.ok.kind hk hn hm fin) hd
 ·rcases hk with hk | hk
  ·exact wpAny_Name (wpAny_loadName_cell I.ok.kind hk hc hcell fin) hd
  ·exact wpAny_Name (wpAny_loadName_free I.ok.kind hk hc hcell fin hcd) hd
theorem zf {i j pos}:PE X (.Constant (.int i) j pos) (tC (.int i)):=fun _ _ _ H _ I h=>wpAny_Constant_int ⟨.int i,H,I.tok _,⟨_,rfl⟩,h⟩
theorem vU {b j pos}:PE X (.Constant (.bool b) j pos) (tC (.bl b)):=fun _ _ _ H _ I h=>Constant_bool ⟨.bl b,H,I,rfl,h⟩
theorem agt {j pos}:PE X (.Constant .none j pos) (tC .non):=fun _ _ _ H _ I h=>Constant_none ⟨.non,H,I,rfl,h⟩
theorem qT {x j pos}:PE X (.Constant (.str x) j pos) (tC (.str x)):=fun _ _ _ H _ I h=>Calls.Constant_str ⟨.str x,H,I.tok _,⟨_,rfl⟩,h⟩
def Gl (X:Cx) (x:Str):Prop:=X.env.kindOf x=some .globalImplicit
theorem aeh {E:Value->Shared->Prop} {pins:List (Addr×Obj)} {s:Shared} {σ:St} {H:Hp} {x:Str} {u:Value} {pos:Pos} {Q:Value->Shared->Prop} (I:Inv X pins σ H s) (hg:Gl X x) (hm:X.mg x=some u) (h:Q u s)
  (hd:(x == ("__debug__":Str))=false:=by decide):wpAny (model X.prog X.w) X.A (eval (.Name x pos) X.env) Q E s :=
 aty I.ok.kind hg (Calls.loadGlobal_global (by rw [I.ok.glob];exact I.mod.glob.keeps I.bk) hm h) hd
theorem aaO {E:Value->Shared->Prop} {pins:List (Addr×Obj)} {s:Shared} {σ:St} {H:Hp} {x:Str} {u:Value} {pos:Pos} {Q:Value->Shared->Prop} (I:Inv X pins σ H s) (hg:Gl X x) (hm:X.mg x=none) (hv:bootBuiltins x=some u) (h:Q u s)
  (hn:x ≠ "__name__":=by decide) (hd:(x == ("__debug__":Str))=false:=by decide):wpAny (model X.prog X.w) X.A (eval (.Name x pos) X.env) Q E s:=by
 obtain⟨mb,h1,h2⟩:=I.mod.blt;exact aty I.ok.kind hg (Calls.loadGlobal_builtin (by rw [I.ok.glob];exact I.mod.glob.keeps I.bk) hm (by rw [I.ok.blt];exact h1.keeps I.bk) ((h2 x hn).trans hv) h) hd
theorem alX {x:Str} {v:V} {u:Value} {pos:Pos} (hg:Gl X x) (hm:X.mg x=some u) (r:RelV v u) (hd:(x == ("__debug__":Str))=false:=by decide):PE X (.Name x pos) (tC v) :=
 fun _ _ _ H _ I h=>aeh I hg hm ⟨v,H,I,r,h⟩ hd
theorem alY {x:Str} {v:V} {u:Value} {pos:Pos} (hg:Gl X x) (hm:X.mg x=none) (hv:bootBuiltins x=some u) (r:RelV v u) (hn:x ≠ "__name__":=by decide) (hd:(x == ("__debug__":Str))=false:=by decide):PE X (.Name x pos) (tC v) :=
 fun _ _ _ H _ I h=>aaO I hg hm hv ⟨v,H,I,r,h⟩ hn hd
variable {a b:Expr} {ta tb:TE} {pos:Pos}
variable {tA tB':TT} {rest:List Expr}
def aoc (t u:TT):TT:=fun σ H Q=>t σ H fun c H1=>if c=true then u σ H1 Q else Q false H1
def tOr (t u:TT):TT:=fun σ H Q=>t σ H fun c H1=>if c=true then Q true H1 else u σ H1 Q
def apF (t:TT):TT:=fun σ H Q=>t σ H fun c H1=>Q (!c) H1
theorem vt (ha:PT X a tA):PW X (.BoolOp .And [a] pos) tA:=by
 intro wh pins s σ H Q I h;refine isTrue_and (thn (ha pins s σ H Q I h) fun c s1 e=>?_);cases c with
 | true=>exact isTrue_and_nil e
 | false=>exact e
theorem agu (ha:PT X a tA):PW X (.BoolOp .Or [a] pos) tA:=by
 intro wh pins s σ H Q I h;refine isTrue_or (thn (ha pins s σ H Q I h) fun c s1 e=>?_);cases c with
 | false=>exact isTrue_or_nil e
 | true=>exact e
theorem v7 (ha:PT X a tA) (hb:PW X (.BoolOp .And (b :: rest) pos) tB'):PW X (.BoolOp .And (a :: b :: rest) pos) (aoc tA tB'):=by
 intro wh pins s σ H Q I h;refine isTrue_and (thn (ha pins s σ H _ I h) fun c s1 ⟨H1,I1,q1⟩=>?_);cases c with
 | true=>exact hb wh pins s1 σ H1 Q I1 q1
 | false=>exact⟨H1,I1,q1⟩
theorem ahq (ha:PT X a tA) (hb:PW X (.BoolOp .Or (b :: rest) pos) tB'):PW X (.BoolOp .Or (a :: b :: rest) pos) (tOr tA tB'):=by
 intro wh pins s σ H Q I h;refine isTrue_or (thn (ha pins s σ H _ I h) fun c s1 ⟨H1,I1,q1⟩=>?_);cases c with
 | true=>exact⟨H1,I1,q1⟩
 | false=>exact hb wh pins s1 σ H1 Q I1 q1
theorem abF (ha:PT X a tA):PT X (.UnaryOp .Not a pos) (apF tA):=by
 intro pins s σ H Q I h;exact isTrue_not (ha pins s σ H (fun c H1=>Q (!c) H1) I h)
def ajO (ta tb:TE):TE:=fun σ H Q=>ta σ H fun x H1=>∃ c,x=.bl c/\if c=true then tb σ H1 Q else Q (.bl false) H1
def anx (ta:TE):TE:=fun σ H Q=>ta σ H fun x H1=>∃ c,x=.bl c/\Q (.bl (!c)) H1
theorem aei {op} {t:TE} (h:PE X a t):PE X (.BoolOp op [a] pos) t:=fun pins s σ H Q I hw=>BoolOp_one (h pins s σ H Q I hw)
theorem acB (ha:PE X a ta) (hb:PE X (.BoolOp .And (b :: rest) pos) tb):PE X (.BoolOp .And (a :: b :: rest) pos) (ajO ta tb):=by
 intro pins s σ H Q I h;refine BoolOp_and (thn (ha pins s σ H _ I h) fun v s1 ⟨x,H1,I1,r1,q1⟩=>?_);obtain⟨c,rfl,q1⟩:=q1;cases r1;refine wpAny_truthy_bool ?_;cases c with
 | true=>exact hb pins s1 σ H1 Q I1 q1
 | false=>exact⟨.bl false,H1,I1,rfl,q1⟩
theorem aod (ha:PE X a ta):PE X (.UnaryOp .Not a pos) (anx ta):=by
 intro pins s σ H Q I h;refine UnaryOp_ (thn (ha pins s σ H _ I h) fun v s1 ⟨x,H1,I1,r1,q1⟩=>?_);obtain⟨c,rfl,q1⟩:=q1;cases r1;exact not_of (wpAny_truthy_bool ⟨.bl (!c),H1,I1,rfl,q1⟩)
def tIf (t:TT) (ta tb:TE):TE:=fun σ H Q=>t σ H fun c H1=>if c=true then ta σ H1 Q else tb σ H1 Q
theorem v8 {c:Expr} (hc:PT X c tA) (ha:PE X a ta) (hb:PE X b tb):PE X (.IfExp c a b pos) (tIf tA ta tb):=by
 intro pins s σ H Q I h;refine wpAny_IfExp (thn (hc pins s σ H _ I h) fun d s1 ⟨H1,I1,q1⟩=>?_);cases d with
 | true=>exact ha pins s1 σ H1 Q I1 q1
 | false=>exact hb pins s1 σ H1 Q I1 q1
end
def SqL (K:aqu) (H:Hp) (a:Addr) (xs:List V):Prop :=
 Rd H a (.lst xs) \/
  ∃ (o:Obj) (its:Array Value) (n:Nat),K.lookup a=some o/\o.cls=.type "list"/\o.dict=none/\o.data=.seq its n/\its.size<=sizeLine/\Vals xs its.toList
def SqT (K:aqu) (H:Hp) (a:Addr) (xs:List V):Prop :=
 Rd H a (.tup xs) \/
  ∃ (o:Obj) (its:Array Value) (n:Nat),K.lookup a=some o/\o.cls=.type "tuple"/\o.data=.seq its n/\its.size<=sizeLine/\Vals xs its.toList
noncomputable def aqj:Value->Option V
 | .none=>some .non
 | .bool b=>some (.bl b)
 | .int i _=>some (.int i)
 | .str x _=>some (.str x)
 | .bytes b _=>some (.byt b)
 | .float b _=>some (.flt b)
 | .ref a=>some (.ref a)
 | .type n=>some (.ty n)
 | _=>none
theorem RelV.abs {x:V} {u:Value} (r:RelV x u):aqj u=some x:=by
 cases x with
 | non=>cases r;rfl
 | bl _=>cases r;rfl
 | int _=>obtain⟨t,rfl⟩:=r;rfl
 | str _=>obtain⟨t,rfl⟩:=r;rfl
 | byt _=>obtain⟨t,rfl⟩:=r;rfl
 | flt _=>obtain⟨t,rfl⟩:=r;rfl
 | ref _=>cases r;rfl
 | ty _=>cases r;rfl
theorem RelV.inj {x y:V} {u:Value} (r:RelV x u) (q:RelV y u):x=y:=Option.some.inj (r.abs.symm.trans q.abs)
theorem Vals.inj:∀ {xs ys:List V} {us:List Value},Vals xs us->Vals ys us->xs=ys
 | _,_,_,.nil,.nil=>rfl
 | _,_,_,.cons r t,.cons r' t'=>by rw [r.inj r',Vals.inj t t']
section
variable {X:Cx} {pins:List (Addr×Obj)} {σ:St} {H:Hp} {s:Shared} {a:Addr} {xs ys:List V}
theorem SqL.of {K:aqu} (h:H a=some (.lst xs)):SqL K H a xs:=.inl (.inl h)
theorem SqT.of {K:aqu} (h:H a=some (.tup xs)):SqT K H a xs:=.inl (.inl h)
theorem Inv.list (I:Inv X pins σ H s) (h:SqL X.K H a xs):∃ its:List Value,Vals xs its/\PlainL s.heap a its.toArray/\xs.length<=sizeLine:=by
 rcases h with h | ⟨o,its,n,hk,hc,hd,hs,hz,r⟩
 ·obtain⟨z,its,n,r,e⟩:=h.ok I.hok;exact⟨its,r,⟨_,n,e,rfl,rfl,rfl⟩,z⟩
 ·refine⟨its.toList,r,⟨o,n,I.kIn a o hk,hc,hd,by simpa using hs⟩,?_⟩;have e:=r.length;simp only [aqN] at e;omega
theorem Inv.tuple (I:Inv X pins σ H s) (h:SqT X.K H a xs):∃ its:List Value,Vals xs its/\IsTup s.heap a its.toArray/\xs.length<=sizeLine:=by
 rcases h with h | ⟨o,its,n,hk,hc,hs,hz,r⟩
 ·obtain⟨z,its,r,p⟩:=h.ok I.hok;exact⟨its,r,p,z⟩
 ·refine⟨its.toList,r,⟨o,I.kIn a o hk,hc,n,by simpa using hs⟩,?_⟩;have e:=r.length;simp only [aqN] at e;omega
theorem Inv.list_inj (I:Inv X pins σ H s) (h:SqL X.K H a xs) (h':SqL X.K H a ys):xs=ys:=by
 obtain⟨its,r,⟨o,n,e,_,_,d⟩,_⟩:=I.list h;obtain⟨its',r',⟨o',n',e',_,_,d'⟩,_⟩:=I.list h';rw [e] at e';cases e';rw [d] at d';injection d' with d1 _;have:its=its':=by simpa using congrArg Array.toList d1
 subst this;exact r.inj r'
theorem Inv.tuple_inj (I:Inv X pins σ H s) (h:SqT X.K H a xs) (h':SqT X.K H a ys):xs=ys:=by
 obtain⟨its,r,⟨o,e,_,n,d⟩,_⟩:=I.tuple h;obtain⟨its',r',⟨o',e',_,n',d'⟩,_⟩:=I.tuple h';rw [e] at e';cases e';rw [d] at d';injection d' with d1 _;have:its=its':=by simpa using congrArg Array.toList d1
 subst this;exact r.inj r'
end
noncomputable abbrev Cx.wish (X:Cx) (E:Value->Shared->Prop):Cx:={ X with xe:=E }
noncomputable abbrev Cx.nox (X:Cx):Cx:=X.wish fun _ _=>False
theorem Cx.Ok.wish {X:Cx} (ok:X.Ok) (E:Value->Shared->Prop):(X.wish E).Ok :=
 ⟨ok.mod,ok.kind,ok.glob,ok.blt,ok.above,ok.inj,ok.has,ok.cab,ok.hd,ok.frames,ok.stk,ok.exf,ok.bs,ok.bsz,ok.noex,ok.exfs,ok.funs,ok.frf,ok.tabs⟩
theorem Cx.Ok.unwish {X:Cx} {E:Value->Shared->Prop} (ok:(X.wish E).Ok):X.Ok :=
 ⟨ok.mod,ok.kind,ok.glob,ok.blt,ok.above,ok.inj,ok.has,ok.cab,ok.hd,ok.frames,ok.stk,ok.exf,ok.bs,ok.bsz,ok.noex,ok.exfs,ok.funs,ok.frf,ok.tabs⟩
section
variable {X:Cx} {pins:List (Addr×Obj)} {σ:St} {H:Hp} {s:Shared} {E:Value->Shared->Prop}
theorem Inv.wish (I:Inv X pins σ H s) (E:Value->Shared->Prop):Inv (X.wish E) pins σ H s:=⟨I.ok.wish E,I.os,I.bare,I.base,I.loc,I.cell,I.free,I.freeC,I.pin,I.hok,I.len⟩
theorem Inv.unwish (I:Inv (X.wish E) pins σ H s):Inv X pins σ H s:=⟨I.ok.unwish,I.os,I.bare,I.base,I.loc,I.cell,I.free,I.freeC,I.pin,I.hok,I.len⟩
theorem SP.unwish {D:Ends} {f:Flow} {s':Shared} (h:SP (X.wish E) pins D f s'):SP X pins D f s':=by
 cases f with
 | next=>obtain⟨σ',H',I,q⟩:=h;exact⟨σ',H',I.unwish,q⟩
 | brk=>obtain⟨σ',H',I,q⟩:=h;exact⟨σ',H',I.unwish,q⟩
 | cont=>obtain⟨σ',H',I,q⟩:=h;exact⟨σ',H',I.unwish,q⟩
 | ret u=>obtain⟨v,σ',H',I,r,q⟩:=h;exact⟨v,σ',H',I.unwish,r,q⟩
theorem PSs.nox {st:List Stmt} {t:TS} (h:PSs X.nox st t):PSs X st t:=fun pins s σ H D I hw =>
 wpAny_mono (h pins s σ H D (I.wish _) hw) (fun _ _ q=>q.unwish) fun _ _ z=>asF z
end
section
variable {X:Cx} {st:Stmt} {rest:List Stmt} {t u:TS} {e:Expr} {te:TE} {pos:Pos}
def ahr:TS:=fun D σ H=>D.nx σ H
def vZ (t u:TS):TS:=fun D σ H=>t { D with nx:=u D } σ H
theorem zS:PSs X [] ahr:=fun _ _ σ H _ I h=>wpAny_execs_nil ⟨σ,H,I,h⟩
theorem zc (h1:PS X st t) (h2:PSs X rest u):PSs X (st :: rest) (vZ t u):=by
 intro pins s σ H D I h;refine wpAny_execs_cons (thn (h1 pins s σ H { D with nx:=u D } I h) fun f s1 q=>?_);cases f with
 | next =>
  obtain⟨σ',H',I',q⟩:=q;exact h2 pins s1 σ' H' D I' q
 | ret v=>exact q
 | brk=>exact q
 | cont=>exact q
theorem zj (h1:PS X st t):PSs X [st] t:=by
 intro pins s σ H D I h;refine wpAny_execs_cons (thn (h1 pins s σ H D I h) fun f s1 q=>?_);cases f with
 | next=>exact wpAny_execs_nil q
 | ret v=>exact q
 | brk=>exact q
 | cont=>exact q
theorem Inv.quiet {pins:List (Addr×Obj)} {σ:St} {H:Hp} {s:Shared} (I:Inv X pins σ H s):interactive X.env=false:=by simp [interactive,I.ok.kind]
def ahs (te:TE):TS:=fun D σ H=>te σ H fun _ H1=>D.nx σ H1
theorem yE (he:PE X e te) (hs:swapsWith e none pos.line X.env=pure false:=by rfl):PS X (.Expr e pos) (ahs te):=by
 intro pins s σ H D I h;exact wpAny_Expr_any (thn (he pins s σ H _ I h) fun v s1 ⟨x,H1,I1,r1,q1⟩=>⟨σ,H1,I1,q1⟩) I.quiet hs
def adq (te:TE):TS:=fun D σ H=>te σ H D.rt
theorem zu (he:PE X e te):PS X (.Return (some e) pos) (adq te):=by
 intro pins s σ H D I h;exact wpAny_Return_some (thn (he pins s σ H _ I h) fun v s1 ⟨x,H1,I1,r1,q1⟩=>⟨x,σ,H1,I1,r1,q1⟩)
def alZ (c:TT) (t u:TS):TS:=fun D σ H=>c σ H fun b H1=>if b=true then t D σ H1 else u D σ H1
theorem yF {c:Expr} {a b:List Stmt} {tc:TT} (hc:PT X c tc) (ha:PSs X a t) (hb:PSs X b u):PS X (.If c a b pos) (alZ tc t u):=by
 intro pins s σ H D I h;refine wpAny_If (thn (hc pins s σ H _ I h) fun d s1 ⟨H1,I1,q1⟩=>?_);cases d with
 | true=>exact ha pins s1 σ H1 D I1 q1
 | false=>exact hb pins s1 σ H1 D I1 q1
def aoe:TS:=fun _ _ _=>False
theorem aff:PS X st aoe:=fun _ _ _ _ _ _ h=>h.elim
end
abbrev TG:=V->St->Hp->(St->Hp->Prop)->Prop
abbrev TGs:=List V->St->Hp->(St->Hp->Prop)->Prop
def PG (X:Cx) (target:Expr) (t:TG):Prop :=
 ∀ (pins:List (Addr×Obj)) (s:Shared) (σ:St) (H:Hp) (v:V) (u:Value) (Q:St->Hp->Prop),Inv X pins σ H s->RelV v u->t v σ H Q ->
  wpAny (model X.prog X.w) X.A (assign target X.env u) (fun _ s'=>∃ σ' H',Inv X pins σ' H' s'/\Q σ' H') X.xe s
def PGs (X:Cx) (ts:List Expr) (t:TGs):Prop :=
 ∀ (pins:List (Addr×Obj)) (s:Shared) (σ:St) (H:Hp) (vs:List V) (us:List Value) (Q:St->Hp->Prop),Inv X pins σ H s->Vals vs us->t vs σ H Q ->
  wpAny (model X.prog X.w) X.A (assignInOrder ((assignEach ts X.env).map (·.2)) us) (fun _ s'=>∃ σ' H',Inv X pins σ' H' s'/\Q σ' H') X.xe s
abbrev aof:=V->V->V->Hp->(Hp->Prop)->Prop
def al0 (X:Cx) (t:aof):Prop :=
 ∀ (pins:List (Addr×Obj)) (s:Shared) (σ:St) (H:Hp) (o i v:V) (ov iv u:Value) (Q:Hp->Prop),Inv X pins σ H s->RelV o ov->RelV i iv->RelV v u->t o i v H Q ->
  wpAny (model X.prog X.w) X.A (setItem ov iv u) (fun _ s'=>∃ H',Inv X pins σ H' s'/\Q H') X.xe s
section
variable {X:Cx} {pos:Pos}
def yX (i:Nat):TG:=fun v σ H Q=>Q (σ.set i (some v)) H
theorem ze {i:Nat} {x:Str} (hN:X.N.Nodup) (hi:X.N[i]?=some x) (hx:Loc X.env.scope x) (hf:X.fn x=true \/ X.env.scope.names.lookup x=some .local:=by first | exact .inl rfl | exact .inr rfl | assumption):PG X (.Name x pos) (yX i):=by
 intro pins s σ H v u Q I r h;exact wpAny_assign_Name (aa2 I hN hi hx r (fun s' I'=>⟨_,H,I',h⟩) hf)
def aog:TGs:=fun vs σ H Q=>vs=[]/\Q σ H
def aht (t:TG) (u:TGs):TGs:=fun vs σ H Q=>∃ v r,vs=v :: r/\t v σ H fun σ' H'=>u r σ' H' Q
theorem zD:PGs X [] aog:=by
 intro pins s σ H vs us Q I r h;obtain⟨e,h⟩:=h;subst e;cases r;exact assignInOrder_nil ⟨σ,H,I,h⟩
theorem zg {e:Expr} {es:List Expr} {t:TG} {u:TGs} (h1:PG X e t) (h2:PGs X es u)
  (hs:(assignEach (e :: es) X.env).map (·.2)=assign e X.env :: (assignEach es X.env).map (·.2):=by rfl):PGs X (e :: es) (aht t u):=by
 intro pins s σ H vs us Q I r h;obtain⟨v,vr,e1,h⟩:=h;subst e1;cases r with
 | cons r rr =>
  rw [hs];refine assignInOrder_cons (thn (h1 pins s σ H _ _ _ I r h) fun _ s1 ⟨σ1,H1,I1,q1⟩=>?_);exact h2 pins s1 σ1 H1 _ _ Q I1 rr q1
def al1 (K:aqu) (n:Nat) (t:TGs):TG:=fun v σ H Q=>∃ a xs,v=.ref a/\SqT K H a xs/\xs.length=n/\t xs σ H Q
theorem aoh {es:List Expr} {k:Nat} {t:TGs} {n:Nat} (hc:X.calm=true) (h:PGs X es t)
  (hn:(assignEach es X.env).length=n:=by rfl) (hst:(assignEach es X.env).findIdx? (·.1)=none:=by rfl):PG X (.Tuple es k pos) (al1 X.K n t):=by
 intro pins s σ H v u Q I r hw;obtain⟨a,xs,e1,hq,hl,hw⟩:=hw;subst e1;cases r;obtain⟨its,rv,ht,hz⟩:=I.tuple hq;refine assign_Tuple_tuple (I.ok.hd hc) ht (by simp [hn,<- hl,rv.length]) hst fun h' hx=>?_;have I1:Inv X pins σ H { s with heap:=h' }:=I.kept (t':=s.toks) fun b o e=>hx b o (aq5 (aqI e)) e;exact h pins _ σ H xs _ Q I1 (by simpa using rv) hw
def afg (to ti:TE) (t:aof):TG:=fun v σ H Q=>to σ H fun o H1=>ti σ H1 fun i H2=>t o i v H2 fun H3=>Q σ H3
theorem aaP {o i:Expr} {to ti:TE} {t:aof} (ho:PE X o to) (hi:PE X i ti) (hs:al0 X t)
  (ha:∀ v,assign (.Subscript o i pos) X.env v=(do
   let ov <- holding [v] (eval o X.env)
   let iv <- holding [v,ov] (eval i X.env)
   standAt pos
   holding [v,ov,iv] (setItem ov iv v)
   release [v,ov,iv] []):=by intro _;rfl):PG X (.Subscript o i pos) (afg to ti t):=by
 intro pins s σ H v u Q I r h;rw [ha];refine wpAny_bind (wpAny_holding (thn (ho pins s σ H _ I h) fun ov s1 ⟨x,H1,I1,r1,q1⟩=>?_));refine wpAny_bind (wpAny_holding (thn (hi pins s1 σ H1 _ I1 q1) fun iv s2 ⟨y,H2,I2,r2,q2⟩=>?_));refine wpAny_bind (wpAny_standAt (wpAny_bind (wpAny_holding (thn (hs pins s2 σ H2 x y v ov iv u _ I2 r1 r2 r q2) fun _ s3 ⟨H3,I3,q3⟩=>?_))));exact wpAny_release ⟨σ,H3,I3,q3⟩
def qA (te:TE) (g:TG):TS:=fun D σ H=>te σ H fun x H1=>g x σ H1 D.nx
theorem yf {tg e:Expr} {te:TE} {g:TG} (he:PE X e te) (hg:PG X tg g) (hs:swapsWithSole [tg] e pos.line X.env=pure false:=by rfl) (hw:swappedStores [tg] e X.env=pure none:=by rfl)
  (h1:(assignEach [tg] X.env).map (·.2)=[assign tg X.env]:=by rfl):PS X (.Assign [tg] e pos) (qA te g):=by
 intro pins s σ H D I h;refine wpAny_Assign_stores (thn (he pins s σ H _ I h) fun v s1 ⟨x,H1,I1,r1,q1⟩=>?_) hs hw;rw [h1];exact thn (hg pins s1 σ H1 x v _ I1 r1 q1) fun _ s2 q=>q
theorem zC {i:Nat} {x:Str} {e:Expr} {te:TE} {pos':Pos} (hN:X.N.Nodup) (hi:X.N[i]?=some x) (hx:Loc X.env.scope x) (he:PE X e te) (hs:swapsWith e (some (.Name x pos')) pos.line X.env=pure false:=by rfl) (hf:X.fn x=true \/ X.env.scope.names.lookup x=some .local:=by first | exact .inl rfl | exact .inr rfl | assumption) :
  PS X (.Assign [.Name x pos'] e pos) (qA te (yX i)):=by
 intro pins s σ H D I h;refine wpAny_Assign_Name (thn (he pins s σ H _ I h) fun v s1 ⟨y,H1,I1,r1,q1⟩=>?_) hs;exact aa2 I1 hN hi hx r1 (fun s2 I2=>⟨_,H1,I2,q1⟩) hf
def apG (i j:Nat) (ta:TA):TS:=fun D σ H=>ta σ H fun vs H1=>∃ v w,vs=[v,w]/\D.nx ((σ.set i (some v)).set j (some w)) H1
theorem aoi {i j:Nat} {x y:Str} {a b:Expr} {ta:TA} {px py pt:Pos} {kt k2 pt2} (hc:X.calm=true) (hN:X.N.Nodup) (hi:X.N[i]?=some x) (hj:X.N[j]?=some y) (hij:i≠j)
  (hx:X.env.scope.names.lookup x=some .local) (hy:X.env.scope.names.lookup y=some .local) (ha:PA X [a,b] ta)
  (hw:swappedStores [.Tuple [.Name x px,.Name y py] kt pt] (.Tuple [a,b] k2 pt2) X.env=pure (some [x,y]))
  (hs:swapsWithSole [.Tuple [.Name x px,.Name y py] kt pt] (.Tuple [a,b] k2 pt2) pos.line X.env=pure false:=by rfl) :
  PS X (.Assign [.Tuple [.Name x px,.Name y py] kt pt] (.Tuple [a,b] k2 pt2) pos) (apG i j ta):=by
 intro pins s σ H D I h;rw [exec_Assign_arm];refine wpAny_bind (wpAny_standAt ?_);rw [hs];refine wpAny_bind (wpAny_pure ?_);rw [if_neg (by decide)];refine wpAny_bind (Tuple_ (thn (ha _ pins s σ H _ I h) fun us s1 ⟨vs,H1,I1,r1,q1⟩=>?_));obtain⟨v,w,e1,q1⟩:=q1;subst e1;obtain⟨u1,u2,rfl,rv,rw'⟩:∃ u1 u2,us=[u1,u2]/\RelV v u1/\RelV w u2:=by
  cases r1 with
  | cons p q =>
   cases q with
   | cons p' q' =>
    cases q';exact⟨_,_,rfl,p,p'⟩
 refine wpAny_newObj_type ?_ (by show 2<=sizeLine;decide);have I2:Inv X pins σ H1 { s1 with heap:=s1.heap.push { cls:=.type "tuple",data:=.seq [u1,u2].toArray } }:=I1.kept (t':=s1.toks) fun b o e=>aqD _ e;rw [hw];refine wpAny_bind (wpAny_pure ?_);show wpAny (model X.prog X.w) X.A (do rule "assign.swapped-stores";let items <- unpackItems (.ref s1.heap.objs.size) 2 none;assignInOrder [fun v=>bindName X.env y v,fun v=>bindName X.env x v] items.reverse;pure Flow.next) _ _ _;refine wpAny_bind (wpAny_rule (wpAny_bind (unpackItems_tuple (items:=#[u1,u2]) (I.ok.hd hc) (IsTup.new s1.heap _) fun h' hx'=>?_)));have I3:=I2.kept (h':=h') (t':=s1.toks) fun b o e=>hx' b o (aq5 (aqI e)) e;show wpAny _ _ (assignInOrder [fun v=>bindName X.env y v,fun v=>bindName X.env x v] [u2,u1] >>= fun _=>pure Flow.next) _ _ _;refine wpAny_bind (assignInOrder_cons (wpAny_bindName (aa2 I3 hN hj (.inl hy) rw' (fun s2 I4=>?_) (.inr hy))));refine assignInOrder_cons (wpAny_bindName (aa2 I4 hN hi (.inl hx) rv (fun s3 I5=>assignInOrder_nil (wpAny_pure ?_)) (.inr hx)));rw [List.set_comm _ _ (arU hij)] at I5;exact⟨_,H1,I5,q1⟩
end
section
variable {X:Cx} {pos:Pos}
def ajP (c:TT) (tb:TS):TS:=fun D σ H=>∃ W:Nat->St->Hp->Prop,(∃ m,W m σ H)/\∀ m σ H,W m σ H ->
 c σ H fun b H1=>if b=true then ∃ N:St->Hp->Prop,(∀ σ' H',N σ' H'->∃ m',m'<m/\W m' σ' H')/\tb { D with nx:=N,ct:=N,bk:=D.nx } σ H1 else D.nx σ H1
theorem afh {c:Expr} {body:List Stmt} {tc:TT} {tb:TS} (hp:PassesOwn (model X.prog X.w) X.A X.env X.xe) (hc:PT X c tc) (hb:PSs X body tb):PS X (.While c body [] pos) (ajP tc tb):=by
 intro pins s σ H D I h;obtain⟨W,⟨m0,w0⟩,turn⟩:=h;refine wpAny_While (codeAny_whileLoop (fun n s'=>∃ σ' H',Inv X pins σ' H' s'/\W n σ' H') ?_ m0 ⟨σ,H,I,w0⟩);rintro n s1 ⟨σ1,H1,I1,w1⟩;refine wpAny_passesOwn hp (thn (hc pins s1 σ1 H1 _ I1 (turn n σ1 H1 w1)) fun b s2 ⟨H2,I2,q2⟩=>?_);cases b with
 | true =>
  obtain⟨N,hN,q2⟩:=q2;rw [if_pos rfl];refine wpAny_passesOwn hp (thn (hb pins s2 σ1 H2 _ I2 q2) fun f s3 q3=>?_);cases f with
  | next =>
   obtain⟨σ3,H3,I3,n3⟩:=q3;obtain⟨m',hm,w3⟩:=hN σ3 H3 n3;exact⟨m',hm,σ3,H3,I3,w3⟩
  | cont =>
   obtain⟨σ3,H3,I3,n3⟩:=q3;obtain⟨m',hm,w3⟩:=hN σ3 H3 n3;exact⟨m',hm,σ3,H3,I3,w3⟩
  | brk=>exact q3
  | ret v=>exact q3
 | false =>
  rw [if_neg aqt];exact wpAny_execs_nil ⟨σ1,H2,I2,q2⟩
end
structure It where
 go:Nat->Hp->Prop
 yld:Nat->Hp->V->Hp->Prop
 stop:Nat->Hp->Prop
def aaD (X:Cx) (pins:List (Addr×Obj)) (H:Hp) (b:Addr):Prop :=
 H b=none/\b≠X.env.locals/\b∉X.fs/\(b∈X.ex \/ X.s₀.heap.objs.size<=b)/\(∀ x c,X.env.cells.lookup x=some c->c≠b)/\∀ p∈X.pn++pins,p.1≠b
theorem Inv.fpOk {X:Cx} {pins:List (Addr×Obj)} {σ:St} {H H':Hp} {s:Shared} {b:Addr} (I:Inv X pins σ H s) (hb:s.heap.objs.size<=b) (hn:H' b=none):aaD X pins H' b:=by
 refine⟨hn,atc (aq4 I.lt hb),I.nofs hb,.inr (aqS I.sz hb),fun x c e z=>?_,fun p hp z=>?_⟩
 ·obtain⟨v,q⟩:=I.cell x c e;exact absurd (aq4 q.lt (by rw [z];exact hb)) (ar8 _)
 ·exact absurd (aq4 (aqI (I.pin p hp).1) (by rw [z];exact hb)) (ar8 _)
structure Turn (P:Program) (w:World) (K:aqu) (tg:Expr) (J:It) (fp:List Addr) (it:Addr) (tn:Nat->Heap->Prop):Prop where
 mem:it∈fp
 obj:∀ i h,tn i h->∀ b∈fp,∃ o,h.get? b=some o/\∀ v,o.data≠.cell v
 keep:∀ i h h',tn i h->(∀ b∈fp,∀ o,h.get? b=some o->h'.get? b=some o)->tn i h'
 item:∀ (X:Cx),X.prog=P->X.w=w->X.K=K->X.calm=true->∀ (i:Nat) (pins:List (Addr×Obj)) (s:Shared) (σ:St) (H:Hp) (E:Value->Shared->Prop),Inv X pins σ H s->(∀ b∈fp,aaD X pins H b)->tn i s.heap->J.go i H ->
  wpAny (model P w) X.A (pyNext (.ref it)) (fun r s1=>∃ u,r=some u /\
   wpAny (model P w) X.A (letOwnedTupleGo tg (.ref it) u) (fun _ s2=>∃ x H',Inv X pins σ H' s2/\RelV x u/\J.yld i H x H'/\tn (i+1) s2.heap/\∀ b∈fp,H' b=none) E s1) E s
 done:∀ (X:Cx),X.prog=P->X.w=w->X.K=K->X.calm=true->∀ (i:Nat) (pins:List (Addr×Obj)) (s:Shared) (σ:St) (H:Hp) (E:Value->Shared->Prop),Inv X pins σ H s->(∀ b∈fp,aaD X pins H b)->tn i s.heap->J.stop i H ->
  wpAny (model P w) X.A (pyNext (.ref it)) (fun r s1=>r=none/\Inv X pins σ H s1) E s
 self:∀ (A:Around) (i:Nat) (s:Shared) (Q:Value->Shared->Prop) (E:Value->Shared->Prop),tn i s.heap->Q (.ref it) s->wpAny (model P w) A (pyIter (.ref it)) Q E s
abbrev TI:=St->Hp->(It->Hp->Prop)->Prop
def PIE (X:Cx) (pins:List (Addr×Obj)) (σ:St) (tg:Expr) (R:It->Hp->Prop) (itv:Value) (s2:Shared):Prop :=
 ∃ (it:Addr) (fp:List Addr) (tn:Nat->Heap->Prop) (J:It) (H':Hp),itv=.ref it/\Inv X pins σ H' s2/\Turn X.prog X.w X.K tg J fp it tn/\tn 0 s2.heap/\(∀ b∈fp,aaD X pins H' b)/\R J H'
def PI (X:Cx) (tg iter:Expr) (wi:TI):Prop :=
 ∀ (pins:List (Addr×Obj)) (s:Shared) (σ:St) (H:Hp) (R:It->Hp->Prop),Inv X pins σ H s->wi σ H R ->
  wpAny (model X.prog X.w) X.A (eval iter X.env) (fun v s1=>wpAny (model X.prog X.w) X.A (pyIter v) (PIE X pins σ tg R) X.xe s1) X.xe s
theorem ajQ {M:Model} {A:Around} {E:Value->Shared->Prop} {s:Shared} {tg:Expr} {it:Addr} {u:Value} {o:Obj} {n:String} {vs:Array Value} {Q:Unit->Shared->Prop} (ho:s.heap.get? it=some o) (hc:o.cls=.type n) (hd:o.data=.fields vs)
  (hn:["enumerate","zip","dict_itemiterator","dict_reverseitemiterator","odict_iterator","itertools.zip_longest","itertools.pairwise"].contains n=false) (hQ:Q () s):wpAny M A (letOwnedTupleGo tg (.ref it) u) Q E s:=by
 unfold letOwnedTupleGo;cases tg <;> first
  | exact wpAny_pure hQ
  | (cases u <;> first
    | exact wpAny_pure hQ
    | (refine wpAny_bind (wpAny_load ho ?_)
       rw [hc,hd];show wpAny M A (if (["enumerate","zip","dict_itemiterator","dict_reverseitemiterator","odict_iterator","itertools.zip_longest","itertools.pairwise"].contains n && vs[0]? == some (rawInt _))=true then _ else _) Q E s;rw [if_neg (by intro h;rw [hn,asP] at h;cases h)];exact wpAny_pure hQ))
noncomputable def Itl (K:aqu) (a:Addr):It :=
 ⟨fun i H=>∃ xs x,SqL K H a xs/\xs[i]?=some x,fun i H x H'=>H'=H/\∀ xs,SqL K H a xs->xs[i]?=some x,fun i H=>∃ xs,SqL K H a xs/\xs.length<=i⟩
noncomputable def Itt (K:aqu) (a:Addr):It :=
 ⟨fun i H=>∃ xs x,SqT K H a xs/\xs[i]?=some x,fun i H x H'=>H'=H/\∀ xs,SqT K H a xs->xs[i]?=some x,fun i H=>∃ xs,SqT K H a xs/\xs.length<=i⟩
noncomputable def Itr (lo:Int) (n:Nat):It:=⟨fun i _=>i<n,fun i H x H'=>H'=H/\x=.int (lo+i),fun i _=>n<=i⟩
theorem aiM {P:Program} {w:World} {K:aqu} {tg:Expr} (a it:Addr):Turn P w K tg (Itl K a) [it] it (fun i h=>h.IsListIter it a i) where
 mem:=by simp
 obj:=fun i h st b hb=>by
  have e:b=it:=by simpa using hb
  subst e;obtain⟨o,e,c,d⟩:=st;exact⟨o,e,fun v z=>by rw [d] at z;cases z⟩
 keep:=fun i h h' st k=>st.at fun o e=>k it (by simp) o e
 item:=by
  intro X hP hw hK hc i pins s σ H E I hf st hg;subst hP hw hK;obtain⟨xs,x,hq,hx⟩:=hg;obtain⟨its,rv,p,hz⟩:=I.list hq;obtain⟨u,hu,ru⟩:=rv.get hx;obtain⟨f0,f1,f2,f3,f4,f5⟩:=hf it (by simp);refine wpAny_pyNext_list_item st p.isList (x:=u) (by simpa using hu) fun h' st' sb=>?_;have I1:Inv X pins σ H { s with heap:=h' }:=I.turned (t':=s.toks) (fun b o hb e=>(sb.2 b hb).trans e) f0 f1 f3 f4 f5;obtain⟨o,e,c,d⟩:=id st';exact⟨u,rfl,ajQ (s:={ s with heap:=h' }) e c d (by decide) ⟨x,H,I1,ru,⟨rfl,fun ys hy=>by rw [I.list_inj hy hq];exact hx⟩,st',fun b hb=>(hf b hb).1⟩⟩
 done:=by
  intro X hP hw hK hc i pins s σ H E I hf st hg;subst hP hw hK;obtain⟨xs,hq,hx⟩:=hg;obtain⟨its,rv,p,hz⟩:=I.list hq;obtain⟨f0,f1,f2,f3,f4,f5⟩:=hf it (by simp);have hl:=rv.length;exact wpAny_pyNext_list_end (I.ok.hd hc) st p.isList (by simp;omega) fun h' eb=>⟨rfl,I.turned (t':=s.toks) (fun b o hb e=>eb b o hb e) f0 f1 f3 f4 f5⟩
 self:=fun _ _ _ _ _ st h=>wpAny_pyIter_listiter st h
theorem agv {P:Program} {w:World} {K:aqu} {tg:Expr} (a it:Addr):Turn P w K tg (Itt K a) [it] it (fun i h=>h.IsTupleIter it a i) where
 mem:=by simp
 obj:=fun i h st b hb=>by
  have e:b=it:=by simpa using hb
  subst e;obtain⟨o,e,c,d⟩:=st;exact⟨o,e,fun v z=>by rw [d] at z;cases z⟩
 keep:=fun i h h' st k=>st.at fun o e=>k it (by simp) o e
 item:=by
  intro X hP hw hK hc i pins s σ H E I hf st hg;subst hP hw hK;obtain⟨xs,x,hq,hx⟩:=hg;obtain⟨its,rv,p,hz⟩:=I.tuple hq;obtain⟨u,hu,ru⟩:=rv.get hx;obtain⟨f0,f1,f2,f3,f4,f5⟩:=hf it (by simp);refine wpAny_pyNext_tuple_item st (show s.heap.IsTuple a its.toArray from p) (x:=u) (by simpa using hu) fun h' st' sb=>?_;have I1:Inv X pins σ H { s with heap:=h' }:=I.turned (t':=s.toks) (fun b o hb e=>(sb.2 b hb).trans e) f0 f1 f3 f4 f5;obtain⟨o,e,c,d⟩:=id st';exact⟨u,rfl,ajQ (s:={ s with heap:=h' }) e c d (by decide) ⟨x,H,I1,ru,⟨rfl,fun ys hy=>by rw [I.tuple_inj hy hq];exact hx⟩,st',fun b hb=>(hf b hb).1⟩⟩
 done:=by
  intro X hP hw hK hc i pins s σ H E I hf st hg;subst hP hw hK;obtain⟨xs,hq,hx⟩:=hg;obtain⟨its,rv,p,hz⟩:=I.tuple hq;obtain⟨f0,f1,f2,f3,f4,f5⟩:=hf it (by simp);have hl:=rv.length;exact wpAny_pyNext_tuple_end (I.ok.hd hc) st (show s.heap.IsTuple a its.toArray from p) (by simp;omega) fun h' eb=>⟨rfl,I.turned (t':=s.toks) (fun b o hb e=>eb b o hb e) f0 f1 f3 f4 f5⟩
 self:=fun _ _ _ _ _ st h=>wpAny_pyIter_tupleiter st h
theorem agw {P:Program} {w:World} {K:aqu} {tg:Expr} (it:Addr) (lo:Int) (n:Nat):Turn P w K tg (Itr lo n) [it] it (fun i h=>IsRangeIter h it (lo+(i:Nat) * 1) ((n:Int) - (i:Nat)) 1) where
 mem:=by simp
 obj:=fun i h st b hb=>by
  have e:b=it:=by simpa using hb
  subst e;exact⟨_,st,fun v z=>by
   have z':Data.fields _=Data.cell v:=z;cases z'⟩
 keep:=fun i h h' st k=>k it (by simp) _ st
 item:=by
  intro X hP hw hK hc i pins s σ H E I hf st hg;subst hP hw hK;obtain⟨f0,f1,f2,f3,f4,f5⟩:=hf it (by simp);have W:=Walks.range (prog:=X.prog) (w:=X.w) (I.ok.hd hc) it lo 1 n;refine W.item i s _ _ hg st fun v h' tk hv st' kk=>?_;obtain⟨t,rfl⟩:=hv;have I1:Inv X pins σ H { s with heap:=h',toks:=tk }:=I.turned (fun b o hb e=>kk b o (by simpa using hb) e) f0 f1 f3 f4 f5;refine⟨_,rfl,ajQ (s:={ s with heap:=h',toks:=tk }) (n:="range_iterator") st' rfl rfl (by decide) ⟨.int (lo+i),H,I1,⟨t,?_⟩,⟨rfl,rfl⟩,st',fun b hb=>(hf b hb).1⟩⟩;rw [Int.mul_one]
 done:=by
  intro X hP hw hK hc i pins s σ H E I hf st hg;subst hP hw hK;obtain⟨f0,f1,f2,f3,f4,f5⟩:=hf it (by simp);exact wpAny_pyNext_range_end (I.ok.hd hc) st (by have:n<=i:=hg;omega) fun h' eb=>⟨rfl,I.turned (t':=s.toks) (fun b o hb e=>eb b o hb e) f0 f1 f3 f4 f5⟩
 self:=fun _ _ _ _ _ st h=>wpAny_pyIter_rangeiter st h
section
variable {X:Cx} {tg:Expr}
def adC (K:aqu) (tl:TE):TI:=fun σ H R=>tl σ H fun x H1=>∃ a,x=.ref a/\(∃ xs,SqL K H1 a xs)/\R (Itl K a) H1
def aoj (K:aqu) (tl:TE):TI:=fun σ H R=>tl σ H fun x H1=>∃ a,x=.ref a/\(∃ xs,SqT K H1 a xs)/\R (Itt K a) H1
theorem al3 {l:Expr} {tl:TE} (hl:PE X l tl):PI X tg l (adC X.K tl):=by
 intro pins s σ H R I h;refine thn (hl pins s σ H _ I h) fun v s1 ⟨x,H1,I1,r1,q1⟩=>?_;obtain⟨a,e,⟨xs,hq⟩,q⟩:=q1;subst e;cases r1;obtain⟨its,rv,p,hz⟩:=I1.list hq;refine wpAny_pyIter_list p.isList ?_;refine⟨s1.heap.objs.size,[s1.heap.objs.size],_,_,H1,rfl,I1.kept (t':=s1.toks) fun b o e=>aqD _ e,aiM a _,⟨_,aq3 _ rfl,rfl,rfl⟩,fun b hb=>?_,q⟩;have e:b=s1.heap.objs.size:=by simpa using hb
 subst e;exact I1.fpOk (aqC _) (I1.hok.fresh (aqC _))
theorem aok {l:Expr} {tl:TE} (hl:PE X l tl):PI X tg l (aoj X.K tl):=by
 intro pins s σ H R I h;refine thn (hl pins s σ H _ I h) fun v s1 ⟨x,H1,I1,r1,q1⟩=>?_;obtain⟨a,e,⟨xs,hq⟩,q⟩:=q1;subst e;cases r1;obtain⟨its,rv,p,hz⟩:=I1.tuple hq;refine wpAny_pyIter_tuple (show s1.heap.IsTuple a its.toArray from p) ?_;refine⟨s1.heap.objs.size,[s1.heap.objs.size],_,_,H1,rfl,I1.kept (t':=s1.toks) fun b o e=>aqD _ e,agv a _,⟨_,aq3 _ rfl,rfl,rfl⟩,fun b hb=>?_,q⟩;have e:b=s1.heap.objs.size:=by simpa using hb
 subst e;exact I1.fpOk (aqC _) (I1.hok.fresh (aqC _))
theorem ajR {pins:List (Addr×Obj)} {σ:St} {H:Hp} {s:Shared} {R:It->Hp->Prop} {E:Value->Shared->Prop} {lo hi:Int} {t u v:Tok} {tk:Nat} (I:Inv X pins σ H s) (h1:-(2 ^ 62)<=lo) (h2:lo<2 ^ 62) (h3:-(2 ^ 62)<=hi) (h4:hi<2 ^ 62)
  (q:R (Itr lo (hi - lo).toNat) H):wpAny (model X.prog X.w) X.A (pyIter (.ref s.heap.objs.size)) (PIE X pins σ tg R) E { s with heap:=s.heap.push { cls:=.type "range",data:=.fields #[.int lo t,.int hi u,.int 1 v] },toks:=tk }:=by
 refine wpAny_pyIter_range (IsRange.new ..) (small_one h1 h2 h3 h4) ?_;have I1:Inv X pins σ H { s with heap:=s.heap.push { cls:=.type "range",data:=.fields #[.int lo t,.int hi u,.int 1 v] },toks:=tk }:=I.kept fun b o e=>aqD _ e;refine⟨(s.heap.push { cls:=.type "range",data:=.fields #[.int lo t,.int hi u,.int 1 v] }).objs.size,[(s.heap.push { cls:=.type "range",data:=.fields #[.int lo t,.int hi u,.int 1 v] }).objs.size],_,_,H,rfl,
  I1.kept (t':=tk) fun b o e=>aqD _ e,agw _ lo (hi - lo).toNat,?_,fun b hb=>?_,q⟩
 ·have e1:lo+((0:Nat):Int) * 1=lo:=by simp
  have e2:(((hi - lo).toNat:Nat):Int) - ((0:Nat):Int)=Builtin.Range.rangeSize lo hi 1:=by rw [rangeSize_one];split <;> omega
  show IsRangeIter _ _ (lo+((0:Nat):Int) * 1) ((((hi - lo).toNat:Nat):Int) - ((0:Nat):Int)) 1;rw [e1,e2];exact aq3 _ rfl
 ·have e:b=(s.heap.push { cls:=.type "range",data:=.fields #[.int lo t,.int hi u,.int 1 v] }).objs.size:=by simpa using hb
  subst e;exact I1.fpOk (aqC _) (I1.hok.fresh (aqC _))
def ahu (ta:TA):TI:=fun σ H R=>ta σ H fun vs H1=>∃ j:Int,vs=[.int j]/\-(2 ^ 62)<=j/\j<2 ^ 62/\R (Itr 0 j.toNat) H1
theorem yM {a:Expr} {ta:TA} {p pos:Pos} (hg:Gl X "range") (hm:X.mg "range"=none) (ha:PA X [a] ta) (hs:starEach [a] X.env=[(false,eval a X.env)]:=by rfl):PI X tg (.Call (.Name "range" p) [a] [] pos) (ahu ta):=by
 intro pins s σ H R I h;refine Call_ (aaO I hg hm boot_range (asN (thn (ha pos pins s σ H _ I h) fun us s1 ⟨vs,H1,I1,r1,q1⟩=>?_) hs rfl));obtain⟨j,e,q1,q2,q⟩:=q1;subst e;cases r1 with
 | cons r rr =>
  cases rr;obtain⟨t,rfl⟩:=r;exact call_range_1 (ajR I1 (by omega) (by omega) q1 q2 (by simpa using q))
def al4 (wi:TI) (g:TG) (tb:TS):TS:=fun D σ H=>wi σ H fun J H1=>∃ W:Nat->Nat->St->Hp->Prop,(∃ m,W 0 m σ H1)/\∀ i m σ H,W i m σ H ->
 (J.stop i H/\D.nx σ H) \/ (J.go i H/\∃ N:St->Hp->Prop,(∀ σ' H',N σ' H'->∃ m',m'<m/\W (i+1) m' σ' H')/\∀ x H',J.yld i H x H'->g x σ H' fun σ2 H2=>tb { D with nx:=N,ct:=N,bk:=D.nx } σ2 H2)
noncomputable def acC (fp:List Addr) (h:Heap):List (Addr×Obj):=fp.filterMap fun b=>(h.get? b).map fun o=>(b,o)
theorem vu {fp:List Addr} {h:Heap} {b:Addr} {o:Obj} (hb:b∈fp) (e:h.get? b=some o):(b,o)∈acC fp h:=asE.mpr ⟨b,hb,by rw [e];rfl⟩
theorem aiN {fp:List Addr} {h:Heap} {p:Addr×Obj} (hp:p∈acC fp h):p.1∈fp/\h.get? p.1=some p.2:=by
 obtain⟨b,hb,e⟩:=asE.mp hp;cases q:h.get? b with
 | none=>rw [q] at e;cases e
 | some o =>
  rw [q] at e;have e':(b,o)=p:=Option.some.inj e;subst e';exact⟨hb,q⟩
theorem Inv.pinned {pins:List (Addr×Obj)} {σ:St} {H:Hp} {s:Shared} {fp:List Addr} (I:Inv X pins σ H s) (hf:∀ b∈fp,aaD X pins H b) (ho:∀ b∈fp,∃ o,s.heap.get? b=some o/\∀ v,o.data≠.cell v):Inv X (pins++acC fp s.heap) σ H s :=
 I.pins_of fun p hp=>(aqK.mp hp).elim (fun z=>I.pin p (aqP _ z)) fun z=>by
  obtain⟨hb,e⟩:=aiN z;obtain⟨f0,f1,f2,_⟩:=hf p.1 hb;obtain⟨o,e',d⟩:=ho p.1 hb;rw [e] at e';cases e';exact⟨e,f0,f1,f2,d⟩
theorem Inv.unpinned {pins pl:List (Addr×Obj)} {σ:St} {H:Hp} {s:Shared} (I:Inv X (pins++pl) σ H s):Inv X pins σ H s:=I.pins_of fun p hp=>I.pin p (aqP _ (aq1 _ hp))
theorem yG {iter:Expr} {body:List Stmt} {wi:TI} {g:TG} {tb:TS} {pos:Pos} (hp:PassesOwn (model X.prog X.w) X.A X.env X.xe) (hc:X.calm=true) (hi:PI X tg iter wi) (hg:PG X tg g) (hb:PSs X body tb)
  (hs:∀ x,foldedSetIterable iter X.env x=pure x:=by intro _;rfl):PS X (.For tg iter body [] pos) (al4 wi g tb):=by
 intro pins s σ H D I h;refine wpAny_For (thn (hi pins s σ H _ I h) fun v s1 h1=>thn h1 fun itv s2 h2=>?_) hs;obtain⟨it,fp,tn,J,H2,e,I2,T,st2,f2,W,⟨m0,w0⟩,turn⟩:=h2;subst e
 -- what stays true of the iterator's objects through the loop
 have stat:∀ {H':Hp},(∀ b∈fp,H' b=none)->∀ b∈fp,aaD X pins H' b:=fun hn b hb=>⟨hn b hb,(f2 b hb).2⟩;refine codeAny_forLoop_any (fun n s'=>∃ i σ' H',Inv X pins σ' H' s'/\tn i s'.heap/\(∀ b∈fp,H' b=none)/\W i n σ' H') ?_ m0 ⟨0,σ,H2,I2,st2,fun b hb=>(f2 b hb).1,w0⟩;rintro n s3 ⟨i,σ3,H3,I3,st3,fr3,w3⟩;rcases turn i n σ3 H3 w3 with⟨stop,qn⟩ | ⟨go,N,hN,step⟩
 ·refine wpAny_passesOwn hp (thn (T.done X rfl rfl rfl hc i pins s3 σ3 H3 X.xe I3 (stat fr3) st3 stop) fun r s4 ⟨hr,I4⟩=>?_);subst hr;exact wpAny_execs_nil ⟨σ3,H3,I4,qn⟩
 ·refine wpAny_passesOwn hp (thn (T.item X rfl rfl rfl hc i pins s3 σ3 H3 X.xe I3 (stat fr3) st3 go) fun r s4 ⟨u,hr,h4⟩=>?_);subst hr;refine wpAny_passesOwn hp (thn h4 fun _ s5 ⟨x,H5,I5,r5,y5,st5,fr5⟩=>?_);have I5':=I5.pinned (stat fr5) (T.obj _ _ st5);refine wpAny_passesOwn hp (thn (hg _ s5 σ3 H5 x u _ I5' r5 (step x H5 y5)) fun _ s6 ⟨σ6,H6,I6,q6⟩=>?_);refine wpAny_passesOwn hp (thn (hb _ s6 σ6 H6 _ I6 q6) fun f s7 q7=>?_);have again:∀ {σ7:St} {H7:Hp},Inv X (pins++acC fp s5.heap) σ7 H7 s7->N σ7 H7->∃ m,m<n/\∃ i σ' H',Inv X pins σ' H' s7/\tn i s7.heap/\(∀ b∈fp,H' b=none)/\W i m σ' H':=fun {σ7 H7} I7 n7=>by
   obtain⟨m',hm,w7⟩:=hN σ7 H7 n7;refine⟨m',hm,i+1,σ7,H7,I7.unpinned,T.keep _ _ _ st5 fun b hb o e=>(I7.pin (b,o) (aqP _ (aqP _ (vu hb e)))).1,fun b hb=>?_,w7⟩;obtain⟨o,e,d⟩:=T.obj _ _ st5 b hb;exact (I7.pin (b,o) (aqP _ (aqP _ (vu hb e)))).2.1
  cases f with
  | next=>obtain⟨σ7,H7,I7,n7⟩:=q7;exact again I7 n7
  | cont=>obtain⟨σ7,H7,I7,n7⟩:=q7;exact again I7 n7
  | brk=>obtain⟨σ7,H7,I7,q7⟩:=q7;exact⟨σ7,H7,I7.unpinned,q7⟩
  | ret v=>obtain⟨x7,σ7,H7,I7,r7,q7⟩:=q7;exact⟨x7,σ7,H7,I7.unpinned,r7,q7⟩
end
abbrev R2:=V->V->Hp->VK->Prop
def OpR (X:Cx) (f:Value->Value->Sem Value) (r:R2):Prop :=
 ∀ (pins:List (Addr×Obj)) (s:Shared) (σ:St) (H:Hp) (x y:V) (v u:Value) (Q:VK),Inv X pins σ H s->RelV x v->RelV y u->r x y H Q ->
  wpAny (model X.prog X.w) X.A (f v u) (EP X pins σ Q) X.xe s
def yC (X:Cx) (f:Value) (r:List V->Hp->VK->Prop):Prop :=
 ∀ (pins:List (Addr×Obj)) (s:Shared) (σ:St) (H:Hp) (xs:List V) (us:List Value) (Q:VK),Inv X pins σ H s->Vals xs us->r xs H Q ->
  wpAny (model X.prog X.w) X.A (call f us) (EP X pins σ Q) X.xe s
def aqk (X:Cx) (r:V->Hp->(Bool->Hp->Prop)->Prop):Prop :=
 ∀ (pins:List (Addr×Obj)) (s:Shared) (σ:St) (H:Hp) (x:V) (v:Value) (Q:Bool->Hp->Prop),Inv X pins σ H s->RelV x v->r x H Q ->
  wpAny (model X.prog X.w) X.A (truthy v) (TP X pins σ Q) X.xe s
def tOp (r:R2) (ta tb:TE):TE:=fun σ H Q=>ta σ H fun x H1=>tb σ H1 fun y H2=>r x y H2 Q
def rI (C:Int->Int->Prop) (g:Int->Int->V):R2:=fun x y H Q=>∃ i j,x=.int i/\y=.int j/\C i j/\Q (g i j) H
def rI0 (g:Int->Int->V):R2:=fun x y H Q=>∃ i j,x=.int i/\y=.int j/\Q (g i j) H
section
variable {X:Cx} {a b c:Expr} {ta tb tc:TE} {pos:Pos}
theorem aol (ha:PE X a ta) (hb:PE X b tb) {pins:List (Addr×Obj)} {s:Shared} {σ:St} {H:Hp} {R:V->V->Hp->Prop} (I:Inv X pins σ H s)
  (h:ta σ H fun x H1=>tb σ H1 fun y H2=>R x y H2) {Q:Value->Shared->Prop} {f:Value->Value->Sem Value}
  (hf:∀ v u s2 x y H2,Inv X pins σ H2 s2->RelV x v->RelV y u->R x y H2->wpAny (model X.prog X.w) X.A (f v u) Q X.xe s2) :
  wpAny (model X.prog X.w) X.A (eval a X.env) (fun v s₁=>wpAny (model X.prog X.w) X.A (eval b X.env) (fun u s₂=>wpAny (model X.prog X.w) X.A (f v u) Q X.xe s₂) X.xe s₁) X.xe s:=by
 refine thn (ha pins s σ H _ I h) fun v s1 ⟨x,H1,I1,r1,q1⟩=>?_;refine thn (hb pins s1 σ H1 _ I1 q1) fun u s2 ⟨y,H2,I2,r2,q2⟩=>?_;exact hf v u s2 x y H2 I2 r1 r2 q2
theorem zt {op:Operator} {r:R2} (ho:OpR X (binaryOp op) r) (ha:PE X a ta) (hb:PE X b tb):PE X (.BinOp a op b pos) (tOp r ta tb):=by
 intro pins s σ H Q I h;exact wpAny_BinOp (aol ha hb I h fun v u s2 x y H2 I2 rx ry q=>ho pins s2 σ H2 x y v u Q I2 rx ry q)
theorem opI {f:Value->Value->Sem Value} {C:Int->Int->Prop} {g:Int->Int->Int}
  (rule:∀ (i j:Int) (t u:Tok) (s:Shared) (Q:Value->Shared->Prop) (E:Value->Shared->Prop),C i j->Q (.int (g i j) s.toks) { s with toks:=s.toks+1 }->wpAny (model X.prog X.w) X.A (f (.int i t) (.int j u)) Q E s) :
  OpR X f (rI C fun i j=>.int (g i j)):=by
 intro pins s σ H x y v u Q I rx ry h;obtain⟨i,j,rfl,rfl,hc,q⟩:=h;obtain⟨t,rfl⟩:=rx;obtain⟨t',rfl⟩:=ry;exact rule i j t t' s _ _ hc ⟨.int (g i j),H,I.tok _,⟨_,rfl⟩,q⟩
theorem apH {f:Value->Value->Sem Value} {g:Int->Int->Int}
  (rule:∀ (i j:Int) (t u:Tok) (s:Shared) (Q:Value->Shared->Prop) (E:Value->Shared->Prop),Q (.int (g i j) s.toks) { s with toks:=s.toks+1 }->wpAny (model X.prog X.w) X.A (f (.int i t) (.int j u)) Q E s) :
  OpR X f (rI0 fun i j=>.int (g i j)):=by
 intro pins s σ H x y v u Q I rx ry h;obtain⟨i,j,rfl,rfl,q⟩:=h;obtain⟨t,rfl⟩:=rx;obtain⟨t',rfl⟩:=ry;exact rule i j t t' s _ _ ⟨.int (g i j),H,I.tok _,⟨_,rfl⟩,q⟩
theorem al5 {f:Value->Value->Sem Value} {g:Int->Int->Bool}
  (rule:∀ (i j:Int) (t u:Tok) (s:Shared) (Q:Value->Shared->Prop) (E:Value->Shared->Prop),Q (.bool (g i j)) s->wpAny (model X.prog X.w) X.A (f (.int i t) (.int j u)) Q E s) :
  OpR X f (rI0 fun i j=>.bl (g i j)):=by
 intro pins s σ H x y v u Q I rx ry h;obtain⟨i,j,rfl,rfl,q⟩:=h;obtain⟨t,rfl⟩:=rx;obtain⟨t',rfl⟩:=ry;exact rule i j t t' s _ _ ⟨.bl (g i j),H,I,rfl,q⟩
def aql (i j:Int):Prop:=0<=j/\j<=1000000/\i.natAbs<2 ^ 64
def CMul (i j:Int):Prop:=(-(2 ^ 64)<i/\i<2 ^ 64) \/ (-(2 ^ 64)<j/\j<2 ^ 64)
theorem CMul.ok {i j:Int} (h:CMul i j):IntMulOk i j:=by
 rcases h with⟨h1,h2⟩ | ⟨h1,h2⟩
 ·exact .of_left (intBits_le_64 h1 h2)
 ·exact .of_right (intBits_le_64 h1 h2)
theorem zP:OpR X (binaryOp .Add) (rI0 fun i j=>.int (i+j)):=apH fun _ _ _ _ _ _ _ q=>add_int q
theorem yh:OpR X (binaryOp .Sub) (rI0 fun i j=>.int (i - j)):=apH fun _ _ _ _ _ _ _ q=>sub_int q
theorem j8:OpR X (binaryOp .Mult) (rI CMul fun i j=>.int (i * j)):=opI fun _ _ _ _ _ _ _ hc q=>mul_int q hc.ok
theorem abG:OpR X (binaryOp .Mod) (rI (fun _ j=>0<j) fun i j=>.int (i % j)):=opI fun i j _ _ _ _ _ hc q=>by
 have h1:(0:Int)<j:=hc;exact mod_int' (by omega) (by rw [Int.fmod_eq_emod_of_nonneg i (by omega)];exact q)
theorem acD:OpR X (binaryOp .Pow) (rI aql fun i j=>.int (i ^ j.toNat)):=opI fun _ _ _ _ _ _ _ hc q=>pow_int_small hc.1 hc.2.1 hc.2.2 q
end
section
variable {X:Cx} {a b c:Expr} {ta tb tc:TE} {pos:Pos}
theorem ajS {pins:List (Addr×Obj)} {σ:St} {H:Hp} {s:Shared} {Q:VK} {k k':Bool} (I:Inv X pins σ H s) (q:Q (.bl k) H) (e:k=k'):EP X pins σ Q (.bool k') s:=by
 subst e;exact⟨.bl k,H,I,rfl,q⟩
theorem ahv:OpR X (compareOp .Lt) (rI0 fun i j=>.bl (decide (i<j))):=al5 fun _ _ _ _ _ _ _ q=>lt_int q
theorem va:OpR X (compareOp .LtE) (rI0 fun i j=>.bl (decide (i<=j))):=al5 fun _ _ _ _ _ _ _ q=>le_int q
theorem ahw:OpR X (compareOp .Gt) (rI0 fun i j=>.bl (decide (j<i))):=al5 fun _ _ _ _ _ _ _ q=>gt_int q
theorem ajT:OpR X (compareOp .GtE) (rI0 fun i j=>.bl (decide (j<=i))):=al5 fun _ _ _ _ _ _ _ q=>ge_int q
theorem aom:OpR X (compareOp .Is) (fun x y H Q=>y=.non/\Q (.bl (decide (x=.non))) H):=by
 intro pins s σ H x y v u Q I rx ry h;obtain⟨rfl,q⟩:=h;cases ry;refine is_none_gen (ajS I q ?_);cases x <;> first
  | (cases rx;rfl)
  | (obtain⟨t,rfl⟩:=rx;rfl)
theorem al6:OpR X (compareOp .IsNot) (fun x y H Q=>y=.non/\Q (.bl (!decide (x=.non))) H):=by
 intro pins s σ H x y v u Q I rx ry h;obtain⟨rfl,q⟩:=h;cases ry;refine isnot_none_gen (ajS I q ?_);cases x <;> first
  | (cases rx;rfl)
  | (obtain⟨t,rfl⟩:=rx;rfl)
theorem z8 (b:Expr) {op:CmpOp} (h:op≠.In:=by decide) (h2:op≠.NotIn:=by decide):behindInMarks op b=false:=by
 have e1:(op == CmpOp.In)=false:=by cases op <;> first | rfl | exact absurd rfl h
 have e2:(op == CmpOp.NotIn)=false:=by cases op <;> first | rfl | exact absurd rfl h2
 cases b <;> simp [behindInMarks,e1,e2]
theorem vw {op:CmpOp} {r:R2} (ho:OpR X (compareOp op) r) (ha:PE X a ta) (hb:PE X b tb) (hm:behindInMarks op b=false):PE X (.Compare a [op] [b] pos) (tOp r ta tb):=by
 intro pins s σ H Q I h;exact wpAny_Compare1 (aol ha hb I h fun v u s2 x y H2 I2 rx ry q=>ho pins s2 σ H2 x y v u Q I2 rx ry q) hm
def adD (t:TE):TT:=fun σ H Q=>t σ H fun x H'=>∃ k,x=.bl k/\Q k H'
theorem zI {op:CmpOp} {r:R2} (ho:OpR X (compareOp op) r) (ha:PE X a ta) (hb:PE X b tb) (hm:behindInMarks op b=false):PT X (.Compare a [op] [b] pos) (adD (tOp r ta tb)):=by
 intro pins s σ H Q I h;refine wpAny_isTrue_Compare1 (thn (ha pins s σ H _ I h) fun v s1 ⟨x,H1,I1,r1,q1⟩=>thn (hb pins s1 σ H1 _ I1 q1) fun u s2 ⟨y,H2,I2,r2,q2⟩ =>
  thn (ho pins s2 σ H2 x y v u _ I2 r1 r2 q2) fun c s3 ⟨z,H3,I3,r3,k,e,q3⟩=>?_) hm
 subst e;cases r3;exact wpAny_truthy_bool ⟨H3,I3,q3⟩
def agx (r r':R2) (ta tb tc:TE):TE:=fun σ H Q=>ta σ H fun x H1=>tb σ H1 fun y H2=>r x y H2 fun z H3=>∃ k,z=.bl k /\
 (if k=true then tc σ H3 fun w' H4=>r' y w' H4 Q else Q (.bl false) H3)
theorem aa3 {op op':CmpOp} {r r':R2} (ho:OpR X (compareOp op) r) (ho':OpR X (compareOp op') r') (ha:PE X a ta) (hb:PE X b tb) (hc:PE X c tc)
  (hm:lastMarks [op,op'] [b,c]=false:=by with_unfolding_all rfl):PE X (.Compare a [op,op'] [b,c] pos) (agx r r' ta tb tc):=by
 intro pins s σ H Q I h;refine Compare_chain (thn (ha pins s σ H _ I h) fun v s1 ⟨x,H1,I1,r1,q1⟩=>chain_link (thn (hb pins s1 σ H1 _ I1 q1) fun u s2 ⟨y,H2,I2,r2,q2⟩ =>
  thn (ho pins s2 σ H2 x y v u _ I2 r1 r2 q2) fun d s3 ⟨z,H3,I3,r3,k,e,q3⟩=>?_)) hm
 subst e;cases r3;refine wpAny_truthy_bool ?_;cases k with
 | false=>exact ite_ff ⟨.bl false,H3,I3,rfl,q3⟩
 | true=>exact ite_tt (chain_last (thn (hc pins s3 σ H3 _ I3 q3) fun w' s4 ⟨z',H4,I4,r4,q4⟩=>ho' pins s4 σ H4 y z' u w' Q I4 r2 r4 q4))
theorem acE {op op':CmpOp} {r r':R2} (ho:OpR X (compareOp op) r) (ho':OpR X (compareOp op') r') (ha:PE X a ta) (hb:PE X b tb) (hc:PE X c tc)
  (hm:lastMarks [op,op'] [b,c]=false:=by with_unfolding_all rfl):PT X (.Compare a [op,op'] [b,c] pos) (adD (agx r r' ta tb tc)):=by
 intro pins s σ H Q I h;refine isTrue_chain (thn (ha pins s σ H _ I h) fun v s1 ⟨x,H1,I1,r1,q1⟩=>test_link (thn (hb pins s1 σ H1 _ I1 q1) fun u s2 ⟨y,H2,I2,r2,q2⟩ =>
  thn (ho pins s2 σ H2 x y v u _ I2 r1 r2 q2) fun d s3 ⟨z,H3,I3,r3,k,e,q3⟩=>?_)) hm
 subst e;cases r3;refine wpAny_truthy_bool ?_;cases k with
 | false =>
  obtain⟨k',e',q'⟩:=q3;cases e';exact ite_ff ⟨H3,I3,q'⟩
 | true =>
  refine ite_tt (test_last (thn (hc pins s3 σ H3 _ I3 q3) fun w' s4 ⟨z',H4,I4,r4,q4⟩=>thn (ho' pins s4 σ H4 y z' u w' _ I4 r2 r4 q4) fun d' s5 ⟨z2,H5,I5,r5,k2,e2,q5⟩=>?_));subst e2;cases r5;exact wpAny_truthy_bool ⟨H5,I5,q5⟩
def aon (K:aqu) (x:V) (H:Hp) (k:Bool):Prop :=
 match x with
 | .non=>k=false
 | .bl b=>k=b
 | .int i=>k=(i != 0)
 | .str y=>y.length<=sizeLine/\k=((y.length:Int) != 0)
 | .byt y=>y.size<=sizeLine/\k=((y.size:Int) != 0)
 | .ref p=>(∃ xs,SqL K H p xs/\k=!xs.isEmpty) \/ (∃ xs,SqT K H p xs/\k=!xs.isEmpty) \/ ∃ kvs,H p=some (.dK kvs)/\k=!kvs.isEmpty
 | _=>False
theorem agy {κ:Type} {kvs:List (κ×V)} {vs:List (κ×Value)} (r:KV kvs vs):(!vs.isEmpty)=!kvs.isEmpty:=by
 cases r <;> rfl
theorem acF {xs:List V} {its:List Value} (r:Vals xs its):(!its.toArray.isEmpty)=!xs.isEmpty:=by
 cases r <;> simp
theorem abH:(sizeLine:Nat)<2 ^ 63:=by rw [sizeLine_eq];decide
theorem aoo:aqk X (fun x H Q=>∃ k,aon X.K x H k/\Q k H):=by
 intro pins s σ H x v Q I rx h;obtain⟨k,e,q⟩:=h;have hl:=abH;have hs:sizeLine=16777216:=sizeLine_eq;cases x with
 | non =>
  cases rx;have e':k=false:=e;subst e';exact truthy_none ⟨H,I,q⟩
 | bl b =>
  cases rx;have e':k=b:=e;subst e';exact wpAny_truthy_bool ⟨H,I,q⟩
 | int i =>
  obtain⟨t,rfl⟩:=rx;have e':k=(i != 0):=e;subst e';exact PySem.P.truthy_int ⟨H,I,q⟩
 | str y =>
  obtain⟨t,rfl⟩:=rx;obtain⟨hy,e'⟩:y.length<=sizeLine/\k=((y.length:Int) != 0):=e;subst e';exact PySem.P.truthy_str (by omega) ⟨H,I.tok _,q⟩
 | byt y =>
  obtain⟨t,rfl⟩:=rx;obtain⟨hy,e'⟩:y.size<=sizeLine/\k=((y.size:Int) != 0):=e;subst e';exact PySem.W.truthy_bytes (by omega) ⟨H,I.tok _,q⟩
 | ref p =>
  cases rx;have e':(∃ xs,SqL X.K H p xs/\k=!xs.isEmpty) \/ (∃ xs,SqT X.K H p xs/\k=!xs.isEmpty) \/ ∃ kvs,H p=some (.dK kvs)/\k=!kvs.isEmpty:=e;rcases e' with⟨xs,hx,e'⟩ | ⟨xs,hx,e'⟩ | ⟨kvs,hx,e'⟩
  ·subst e';obtain⟨its,r,pl,hz⟩:=I.list hx;have hlen:=r.length;exact wpAny_truthy_list pl.isList (by simp only [aqU];omega) ⟨H,I.tok _,by rw [acF r];exact q⟩
  ·subst e';obtain⟨its,r,pl,hz⟩:=I.tuple hx;have hlen:=r.length;exact truthy_tuple pl (by simp only [aqU];omega) ⟨H,I.tok _,by rw [acF r];exact q⟩
  ·subst e';obtain⟨hz,hS,vs,r,m⟩:kvs.length<=sizeLine/\(p == sysModules)=false/\∃ vs,KV kvs vs/\s.heap.DictOf (aeg X.prog X.w) p vs:=I.hok p _ hx;have hlen:kvs.length=vs.length:=Paired.length r;exact wpAny_truthy_dict hS m (by omega) ⟨H,I.tok _,by rw [agy r];exact q⟩
 | _=>exact (show False from e).elim
theorem ajU (ha:PE X a ta) (he:∀ whole,isTrue a X.env whole=(do let v <- whole;standAt a.pos;holding [v] (truthy v))) :
  PT X a (fun σ H Q=>ta σ H fun x H'=>∃ k,aon X.K x H' k/\Q k H'):=by
 intro pins s σ H Q I h;exact isTrue_plain (thn (ha pins s σ H _ I h) fun v s1 ⟨x,H1,I1,r1,q1⟩=>aoo pins s1 σ H1 x v Q I1 r1 q1) (he _)
theorem vals1 {x:V} {us:List Value} (r:Vals [x] us):∃ u,us=[u]/\RelV x u:=by
 cases r with
 | cons r1 r2=>cases r2;exact⟨_,rfl,r1⟩
theorem vals2 {x y:V} {us:List Value} (r:Vals [x,y] us):∃ u w',us=[u,w']/\RelV x u/\RelV y w':=by
 cases r with
 | cons r1 r2 =>
  cases r2 with
  | cons r3 r4=>cases r4;exact⟨_,_,rfl,r1,r3⟩
theorem ajV:yC X (.builtin "abs") (fun xs H Q=>∃ i,xs=[.int i]/\Q (.int (if i<0 then -i else i)) H):=by
 intro pins s σ H xs us Q I r h;obtain⟨i,rfl,q⟩:=h;obtain⟨u,rfl,t,rfl⟩:=vals1 r;exact call_abs_int fun u tk=>⟨.int (if i<0 then -i else i),H,I.tok _,⟨_,rfl⟩,q⟩
theorem aiO (hc:X.calm=true):yC X (.builtin "max") (fun xs H Q=>∃ i j,xs=[.int i,.int j]/\Q (.int (if j > i then j else i)) H):=by
 intro pins s σ H xs us Q I r h;obtain⟨i,j,rfl,q⟩:=h;obtain⟨u,w',rfl,⟨t,rfl⟩,⟨t',rfl⟩⟩:=vals2 r;refine max_two_ints (I.ok.hd hc) fun h' tk k=>⟨_,H,I.kept k,?_,q⟩;by_cases hj:j > i
 ·rw [if_pos hj,if_pos hj];exact⟨_,rfl⟩
 ·rw [if_neg hj,if_neg hj];exact⟨_,rfl⟩
theorem adE (hc:X.calm=true):yC X (.builtin "min") (fun xs H Q=>∃ i j,xs=[.int i,.int j]/\Q (.int (if j<i then j else i)) H):=by
 intro pins s σ H xs us Q I r h;obtain⟨i,j,rfl,q⟩:=h;obtain⟨u,w',rfl,⟨t,rfl⟩,⟨t',rfl⟩⟩:=vals2 r;refine min_two_ints (I.ok.hd hc) fun h' tk k=>⟨_,H,I.kept k,?_,q⟩;by_cases hj:j<i
 ·rw [if_pos hj,if_pos hj];exact⟨_,rfl⟩
 ·rw [if_neg hj,if_neg hj];exact⟨_,rfl⟩
end
structure ObjM (h:Heap) (x dx C:Addr) (mA:Str->Option Value):Prop where
 obj:h.get? x=some (aue C dx)
 ns:h.Ns1 dx mA
 ne:dx≠x
theorem aiP {h:Heap} {dx:Addr} {mA:Str->Option Value} (n:h.Ns1 dx mA):∃ od,h.get? dx=some od/\∀ name,aun name od=some (mA name):=by
 obtain⟨o,es,ep,ho,hd,hk,_,hm⟩:=n;refine⟨o,ho,fun name=>?_⟩;have e:=hm name;unfold nsFind findBy at e;rw [<-Array.find?_toList] at e;unfold aun;rw [hd];dsimp only;split
 ·rename_i y q;rw [q] at e;exact congrArg some e
 ·rename_i q;rw [q] at e;have a:es.toList.any (·.refKey)=false:=by
   rw [List.any_eq_false];intro y hy;obtain⟨z,t,hkey⟩:=hk y (asQ.mp hy);simp [DictEntry.refKey,hkey]
  have a':¬ es.toList.any (·.refKey)=true:=by rw [a];exact aqt
  rw [if_neg a'];exact congrArg some e
theorem ObjM.look {h:Heap} {x dx C:Addr} {mA:Str->Option Value} (I:ObjM h x dx C mA):∃ od,PySem.W.InstAt h x (aue C dx) C (some od)/\∀ name,aun name od=some (mA name) :=
 let⟨od,ho,hl⟩:=aiP I.ns
 ⟨od,⟨I.obj,rfl,rfl,ho⟩,hl⟩
section
variable {prog:Program} {w:World} {A:Around} {E:Value->Shared->Prop} {s:Shared} {K:aqu} {x dx C f:Addr} {mA:Str->Option Value} {name:Str} {v:Value}
end
section
variable {P:Program} {w:World} {H H':Hp} {h h':Heap} {a C dx:Addr} {fs fs':List (Str×V)}
theorem al7 (hok:HOk P w H h) (e:H a=some (.ins C dx fs)):∃ mA,ObjM h a dx C mA/\(∀ f,aoa (fs.lookup f) (mA f))/\PySem.Within mA (fs.map (·.1))/\fs.length<=1000/\H dx=some (.own a):=by
 obtain⟨d,z,ne,ob,mA,n,r,q⟩:=(show ObjOk P w H h a (.ins C dx fs) from hok a _ e);exact⟨mA,⟨ob,n,ne⟩,r,q,z,d⟩
end
structure Cls (K:aqu) (C:Addr):Prop where
 pg:PySem.W.plainGet K C Str.empty=true
 hd:PySem.W.hasDictIn K C=true
 po:PySem.W.plainOver K C=true
 sa:asA K (.ref C) "__setattr__"=some (some (.builtin "object.__setattr__"))
theorem Cls.get {K:aqu} {C:Addr} (c:Cls K C) (f:Str):PySem.W.plainGet K C f=true:=c.pg
structure Con (K:aqu) (C:Addr) (f:Str) (v:V) (u:Value):Prop where
 at_:asA K (.ref C) f=some (some u)
 rel:RelV v u
 get:atP K u "__get__"=some none
 cp:PySem.W.copiedNames.contains f=false
structure Meth (K:aqu) (C:Addr) (m:Str) (f:Addr):Prop where
 at_:asA K (.ref C) m=some (some (.ref f))
 fn:PySem.W.isFn K (.ref f)=true
 kp:arM K (.ref f)=true
section
variable {X:Cx} {pins:List (Addr×Obj)} {σ:St} {H:Hp} {s:Shared} {a C dx:Addr} {fs:List (Str×V)} {f:Str} {v:V} {A:Around} {E:Value->Shared->Prop}
end
section
variable {X:Cx} {pins:List (Addr×Obj)} {σ:St} {H:Hp} {s:Shared} {A:Around} {E:Value->Shared->Prop} {Q:Value->Shared->Prop} {c:Value} {b:Bool}
inductive TyOf (K:aqu) (H:Hp):V->Value->Prop where
 | non:TyOf K H .non (.type "NoneType")
 | bl (x:Bool):TyOf K H (.bl x) (.type "bool")
 | int (i:Int):TyOf K H (.int i) (.type "int")
 | str (x:Str):TyOf K H (.str x) (.type "str")
 | flt (x:UInt64):TyOf K H (.flt x) (.type "float")
 | lst {a:Addr} {xs:List V} (e:H a=some (.lst xs)):TyOf K H (.ref a) (.type "list")
 | frz {a:Addr} {o:Obj} {xs:List V} (e:H a=some (.frz o (.lst xs))):TyOf K H (.ref a) (.type "list")
 | tup {a:Addr} {xs:List V} (e:H a=some (.tup xs)):TyOf K H (.ref a) (.type "tuple")
 | dK {a:Addr} {kvs:List (Key×V)} (e:H a=some (.dK kvs)):TyOf K H (.ref a) (.type "dict")
 | dT {a:Addr} {kvs:List (List Key×V)} (e:H a=some (.dT kvs)):TyOf K H (.ref a) (.type "dict")
 | ins {a C dx:Addr} {fs:List (Str×V)} (e:H a=some (.ins C dx fs)) (cl:Cls K C) (ha:asA K (.ref C) "__class__"=some (some (.builtin "object.__class__")))
   (hn:atP K (.builtin "object.__class__") "__get__"=some (some (.builtin "getset_descriptor.__get__"))) (htk:PySem.W.takesIn K (.builtin "object.__class__")=some true)
   (hm:PySem.W.mroIn K C (.type "object")=some true):TyOf K H (.ref a) (.ref C)
theorem aiQ {x:V} {u t:Value} (I:Inv X pins σ H s) (rx:RelV x u) (ty:TyOf X.K H x t) (e:asB X.K t c=some b) (h:∀ tk,Q (.bool b) { s with toks:=tk }) :
  wpAny (model X.prog X.w) A (call (.builtin "isinstance") [u,c]) Q E s:=by
 cases ty with
 | non=>cases (show u=Value.none from rx);exact arx PySem.W.kitx_none I.kIn True.intro e (fun z=>nomatch z) h
 | bl y=>cases (show u=Value.bool y from rx);exact arx PySem.W.kitx_bool I.kIn True.intro e (fun z=>nomatch z) h
 | int i=>obtain⟨t,q⟩:=(show ∃ t,u=Value.int i t from rx);cases q;exact arx PySem.W.kitx_int I.kIn True.intro e (fun z=>nomatch z) h
 | str y=>obtain⟨t,q⟩:=(show ∃ t,u=Value.str y t from rx);cases q;exact arx PySem.W.kitx_str I.kIn True.intro e (fun z=>nomatch z) h
 | flt y=>obtain⟨t,q⟩:=(show ∃ t,u=Value.float y t from rx);cases q;exact arx PySem.W.kitx_float I.kIn True.intro e (fun z=>nomatch z) h
 | @lst a xs ea =>
  cases (show u=Value.ref a from rx);obtain⟨_,_,n,_,h1⟩:=(show ObjOk X.prog X.w H s.heap a (.lst xs) from I.hok a _ ea);exact arx atQ I.kIn ⟨_,h1,rfl⟩ e (fun z=>nomatch z) h
 | @frz a ob xs ea =>
  cases (show u=Value.ref a from rx);obtain⟨_,_,_,n,_,h1⟩:=(show ObjOk X.prog X.w H s.heap a (.frz ob (.lst xs)) from I.hok a _ ea);exact arx atQ I.kIn ⟨_,h1,rfl⟩ e (fun z=>nomatch z) h
 | @tup a xs ea =>
  cases (show u=Value.ref a from rx);obtain⟨_,_,_,p⟩:=(show ObjOk X.prog X.w H s.heap a (.tup xs) from I.hok a _ ea);obtain⟨o,h1,h2,_⟩:=p;exact arx PySem.W.kitx_tuple I.kIn ⟨o,h1,h2⟩ e (fun z=>nomatch z) h
 | @dK a kvs ea =>
  cases (show u=Value.ref a from rx);obtain⟨_,_,vs,_,p⟩:=(show ObjOk X.prog X.w H s.heap a (.dK kvs) from I.hok a _ ea);obtain⟨o,es,ep,h1,h2,_⟩:=p;exact arx PySem.W.kitx_dict I.kIn ⟨o,h1,h2.1⟩ e (fun z=>nomatch z) h
 | @dT a kvs ea =>
  cases (show u=Value.ref a from rx);obtain⟨_,_,xs,_,o,es,ep,h1,h2,_⟩:=(show ObjOk X.prog X.w H s.heap a (.dT kvs) from I.hok a _ ea);exact arx PySem.W.kitx_dict I.kIn ⟨o,h1,h2.1⟩ e (fun z=>nomatch z) h
 | @ins a C dx fs ea cl ha hn htk hm =>
  cases (show u=Value.ref a from rx);obtain⟨mA,O,_⟩:=al7 I.hok ea;obtain⟨od,J,_⟩:=O.look;exact arx (PySem.W.kitx_own (cl.get _) cl.hd ha hn htk hm) I.kIn J e (fun z=>nomatch z) h
end
structure Room (k:Nat) (A:Around):Prop where
 hd:A.handled=none
 dp:A.depth+3 * k+5<recursionLimit
 un:A.units+16 * k+200<cLine
theorem Room.mono {j k:Nat} {A:Around} (r:Room k A) (h:j<=k):Room j A:=⟨r.hd,by have:=r.dp;omega,by have:=r.un;omega⟩
theorem Room.deeper {k:Nat} {A:Around} (r:Room (k+1) A) (env:Env):Room k (A.deeper env) :=
 ⟨r.hd,by have:=r.dp;show A.depth+1+3 * k+5<_;omega,by have:=r.un;show A.units+3+16 * k+200<_;omega⟩
theorem Room.in1 {k:Nat} {A:Around} (r:Room (k+1) A):Room k A.in1 :=
 ⟨r.hd,by have:=r.dp;show A.depth+3 * k+5<_;omega,by have:=r.un;show A.units+1+16 * k+200<_;omega⟩
theorem Room.depth {k:Nat} {A:Around} (r:Room k A):A.depth<recursionLimit:=by have:=r.dp;omega
theorem Room.units {k:Nat} {A:Around} (r:Room k A):A.units+64<cLine:=by have:=r.un;omega
def yY:TA:=fun _ H Q=>Q [] H
def zN (ta:TE) (tr:TA):TA:=fun σ H Q=>ta σ H fun x H1=>tr σ H1 fun xs H2=>Q (x :: xs) H2
section
variable {X:Cx} {e:Expr} {es:List Expr} {te:TE} {t:TA} {pos:Pos}
theorem zb:PA X [] yY:=fun _ _ _ _ H Q I h=>Calls.spliced_nil ⟨[],H,I,.nil,h⟩
theorem za (ha:PE X e te) (hr:PA X es t) (hs:starEach (e :: es) X.env=(false,eval e X.env) :: starEach es X.env:=by rfl):PA X (e :: es) (zN te t):=by
 intro pos pins s σ H Q I h;rw [hs];show wpAny _ _ (spliced ((false,eval e X.env) :: backTo pos (starEach es X.env))) _ _ s;refine Calls.spliced_cons (thn (ha pins s σ H _ I h) fun u s1 ⟨x,H1,I1,r1,q1⟩=>?_);exact thn (hr pos pins s1 σ H1 _ I1 q1) fun us s2 ⟨xs,H2,I2,r2,q2⟩=>⟨x :: xs,H2,I2,.cons r1 r2,q2⟩
def acG (t:TA):TE:=fun σ H Q=>t σ H fun xs H1=>xs.length<=sizeLine/\∀ p,H1 p=none->Q (.ref p) (upd H1 p (.tup xs))
def afi (t:TA):TE:=fun σ H Q=>t σ H fun xs H1=>xs.length<=sizeLine/\∀ p,H1 p=none->Q (.ref p) (upd H1 p (.lst xs))
theorem zv {x1} (h:PA X es t):PE X (.Tuple es x1 pos) (acG t):=by
 intro pins s σ H Q I hq;refine wpAny_Tuple_spliced (thn (h pos pins s σ H _ I hq) fun us s1 ⟨xs,H1,I1,r,z,q⟩=>⟨by rw [<-r.length];exact z,?_⟩);have hf:H1 s1.heap.objs.size=none:=I1.hok.fresh (aqC _);refine⟨.ref s1.heap.objs.size,upd H1 s1.heap.objs.size (.tup xs),I1.laid (t':=s1.toks) (fun b u e=>aqD _ e) (aqC _) ?_,rfl,q _ hf⟩;exact⟨z,us,r,⟨_,aq3 _ rfl,rfl,_,rfl⟩⟩
theorem z9 (h:PA X es t):PE X (.List es pos) (afi t):=by
 intro pins s σ H Q I hq;refine wpAny_List_spliced (thn (h pos pins s σ H _ I hq) fun us s1 ⟨xs,H1,I1,r,z,q⟩=>⟨by rw [<-r.length];exact z,?_⟩);have hf:H1 s1.heap.objs.size=none:=I1.hok.fresh (aqC _);refine⟨.ref s1.heap.objs.size,upd H1 s1.heap.objs.size (.lst xs),I1.laid (t':=s1.toks) (fun b u e=>aqD _ e) (aqC _) ?_,rfl,q _ hf⟩;exact⟨z,us,0,r,aq3 _ rfl⟩
end
abbrev Sp:=List V->Hp->VK->XK->Prop
abbrev CXT:=List Env->Hp->Shared->XK->Value->Shared->Prop
structure Env0 (P:Program) (w:World) (K:aqu) (mg:Str->Option Value) (base:Heap) (A:Around) (outer:List Env) (s:Shared) (H:Hp):Prop where
 frames:A.frames=some outer
 mod:Mod K mg base
 bs:∀ b o,base.get? b=some o->s.heap.get? b=some o/\H b=none
 bsz:base.objs.size<=s.heap.objs.size
 funs:s.heap.FunFrames base outer
 frf:∀ b∈frs outer,H b=none
 tabs:TabsOk K H
 hok:HOk P w H s.heap
 bare:AllBare s.gens
def CE (outer:List Env) (P:Program) (w:World) (H:Hp) (s:Shared) (Q:VK) (u:Value) (s':Shared):Prop :=
 ∃ v H',s'.os=s.os/\AllBare s'.gens/\Un (frs outer) [] H H' s.heap s'.heap/\HOk P w H' s'.heap/\RelV v u/\Q v H'
def CR (CX:CXT) (outer:List Env) (P:Program) (w:World) (H:Hp) (s:Shared) (Q:VK) (E:XK) (r:Result) (s':Shared):Prop :=
 match r with
 | .ok (.ret u)=>CE outer P w H s Q u s'
 | .ok _=>False
 | .error e=>CX outer H s E e s'
structure FnOk (P:Program) (w:World) (K:aqu) (mg:Str->Option Value) (base:Heap) (CX:CXT) (k:Nat) (f:Addr) (fd:FuncData) (ps:List Str) (sp:Sp):Prop where
 len:∀ vs H Q E,sp vs H Q E->vs.length=ps.length
 run:∀ (A:Around) (outer:List Env) (s:Shared) (H:Hp) (args:Args) (us:List Value) (vs:List V) (Q:VK) (E:XK),Room k A->Env0 P w K mg base A outer s H->BindsTo s fd args (ps.zip us)->Vals vs us->sp vs H Q E ->
  codeAny (model P w) A (.call (.ref f) args) (CR CX outer P w H s Q E) s
theorem FnOk.mono {P:Program} {w:World} {K:aqu} {mg:Str->Option Value} {base:Heap} {CX:CXT} {j k:Nat} {f:Addr} {fd:FuncData} {ps:List Str} {sp:Sp} (F:FnOk P w K mg base CX j f fd ps sp) (h:j<=k) :
  FnOk P w K mg base CX k f fd ps sp:=⟨F.len,fun A outer s H args us vs Q E hr=>F.run A outer s H args us vs Q E (hr.mono h)⟩
section
variable {X:Cx} {pins:List (Addr×Obj)} {σ:St} {H:Hp} {s s':Shared}
theorem Inv.env0 (I:Inv X pins σ H s):Env0 X.prog X.w X.K X.mg X.base X.A X.stack s H :=
 ⟨I.ok.frames,I.ok.mod,I.bs,aqS I.ok.bsz I.sz,I.stack,I.stkFree,fun c P q h1 h2 h3=>I.base.tbls _ _ (I.ok.tabs c P q h1 h2 h3),I.hok,I.bare⟩
theorem Inv.after {Q:VK} {u:Value} (I:Inv X pins σ H s) (h:CE X.stack X.prog X.w H s Q u s'):EP X pins σ Q u s':=by
 obtain⟨v,H',os,bare,un,hok,r,q⟩:=h;obtain⟨hh,g,d,t,os'⟩:=s';obtain rfl:os'=s.os:=os;exact⟨v,H',I.call (h':=hh) (g':=g) (d':=d) (t':=t) (ch:=[]) un hok bare (fun b z=>absurd z (by simp)),r,q⟩
end
def acH (sp:Sp) (dvs:List V) (E:XK) (t:TA):TE:=fun σ H Q=>t σ H fun vs H1=>sp (vs++dvs) H1 Q E
def Binds (K:aqu) (fd:FuncData) (ps:List Str) (ds:List Value):Prop :=
 ∀ (s:Shared) (us:List Value),K.In s.heap->(us++ds).length=ps.length->BindsTo s fd ⟨us,[]⟩ (ps.zip (us++ds))
theorem Binds.all {K:aqu} {fd:FuncData} {ps:List Str} (h:∀ us:List Value,us.length=ps.length->bindArgs fd ⟨us,[]⟩=pure (ps.zip us)):Binds K fd ps []:=fun s us _ hl=>by
 rw [arc] at hl ⊢;exact .of_eq (h us hl)
def Passes (CX:CXT) (X:Cx) (E:XK):Prop:=∀ (pins:List (Addr×Obj)) (σ:St) (H:Hp) (s:Shared) (e:Value) (s':Shared),Inv X pins σ H s->CX X.stack H s E e s'->X.xe e s'
section
variable {X:Cx} {CX:CXT} {k:Nat} {f C:Addr} {fd:FuncData} {ps:List Str} {sp:Sp} {dvs:List V} {ds:List Value} {E:XK} {x m:Str} {p pos apos:Pos} {e o:Expr} {es:List Expr} {ta:TE} {t:TA}
theorem aop {pins:List (Addr×Obj)} {σ:St} {H:Hp} {s:Shared} {Q:VK} {us:List Value} {vs:List V} (F:FnOk X.prog X.w X.K X.mg X.base CX k f fd ps sp) (hr:Room k X.A) (hb:Binds X.K fd ps ds) (hd:Vals dvs ds) (hx:Passes CX X E)
  (I:Inv X pins σ H s) (r:Vals vs us) (h:sp (vs++dvs) H Q E):wpAny (model X.prog X.w) X.A (call (.ref f) us) (EP X pins σ Q) X.xe s:=by
 have r2:Vals (vs++dvs) (us++ds):=r.append hd;have hl:(us++ds).length=ps.length:=by rw [<-r2.length];exact F.len _ _ _ _ h
 refine wpAny_call (codeAny_mono (F.run X.A X.stack s H ⟨us,[]⟩ (us++ds) (vs++dvs) Q E hr I.env0 (hb s us I.kIn hl) r2 h) fun r s' hq=>?_);cases r with
 | error e=>exact hx pins σ H s e s' I hq
 | ok fl =>
  cases fl with
  | ret u=>exact I.after hq
  | next=>exact asF hq
  | brk=>exact asF hq
  | cont=>exact asF hq
theorem al8 (F:FnOk X.prog X.w X.K X.mg X.base CX k f fd ps sp) (hr:Room k X.A) (hg:Gl X x) (hm:X.mg x=some (.ref f)) (hk:arM X.K (.ref f)=true) (hb:Binds X.K fd ps ds) (hd:Vals dvs ds) (hx:Passes CX X E)
  (ha:PA X (e :: es) t) (hdb:(x == ("__debug__":Str))=false:=by decide) (he:starEach (e :: es) X.env=(false,eval e X.env) :: starEach es X.env:=by rfl) (hpl:(backTo pos (starEach es X.env)).any (·.1)=false:=by rfl) :
  PE X (.Call (.Name x p) (e :: es) [] pos) (acH sp dvs E t):=by
 intro pins s σ H Q I h;refine wpAny_Call_Name_kw (aeh I hg hm ?_ hdb);refine PySem.W.callWith_K (h₀:=X.base) I.ok.mod.kin hk (thn (ha pos pins s σ H _ I h) fun us s1 ⟨vs,H1,I1,r,q⟩=>⟨I1.kIn,?_⟩) he hpl;exact aop F hr hb hd hx I1 r q
structure Mk (K:aqu) (C f:Addr):Prop where
 makes:PySem.W.makesIn K C=true
 init:asA K (.ref C) "__init__"=some (some (.ref f))
 fn:PySem.W.isFn K (.ref f)=true
 kp:arM K (.ref C)=true
end
section
variable {X:Cx} {CX:CXT} {k:Nat} {f C:Addr} {fd:FuncData} {ps ks:List Str} {sp:Sp} {E:XK} {x m:Str} {p pos apos kpos:Pos} {e o:Expr} {es:List Expr} {kws:List Keyword} {te ta:TE} {t tk:TA} {nm:Option Str}
structure KBinds (K:aqu) (fd:FuncData) (ps ks:List Str) (g:List Value->List Value->List Value) (gV:List V->List V->List V):Prop where
 to:∀ (s:Shared) (us ws:List Value),K.In s.heap->(g us ws).length=ps.length->BindsTo s fd ⟨us,ks.zip ws⟩ (ps.zip (g us ws))
 rel:∀ {vs:List V} {us:List Value} {zs:List V} {ws:List Value},Vals vs us->Vals zs ws->Vals (gV vs zs) (g us ws)
variable {g:List Value->List Value->List Value} {gV:List V->List V->List V}
end
structure FnScope (N P:List Str) (sc:Scope):Prop where
 kind:sc.kind=.function
 co:sc.isCoroutine=false
 gen:sc.isGenerator=false
 nd:N.Nodup
 pre:N.take P.length=P
 par:∀ x∈P,sc.names.lookup x=some .local \/ sc.names.lookup x=some .cell
 nofree:∀ y∈sc.names,y.2≠.free
theorem adF {kindOf:Str->Option NameKind} {x:Str}:∀ {binds:List (Str×Value)} {m:Str->Option Value},(∀ v,(x,v)∉binds)->bindL kindOf binds m x=m x
 | [],_,_=>rfl
 | (n,v) :: r,m,h=>by
  unfold bindL;rw [adF fun w hw=>h w (aqw _ hw)];split
  ·have:x≠n:=by rintro rfl;exact h v aqv
   simp [this]
  ·rfl
theorem adG {kindOf:Str->Option NameKind} {x:Str}:∀ {binds:List (Str×Value)} {m:Str->Option Value},(∀ v,(x,v)∉binds)->bindC kindOf binds m x=m x
 | [],_,_=>rfl
 | (n,v) :: r,m,h=>by
  unfold bindC;rw [adG fun w hw=>h w (aqw _ hw)];split
  ·rfl
  ·have:x≠n:=by rintro rfl;exact h v aqv
   simp [this]
theorem adH {kindOf:Str->Option NameKind} {x:Str} {v:Value}:∀ {P:List Str} {vs:List Value} {i:Nat} {m:Str->Option Value},P.Nodup->P[i]?=some x->vs[i]?=some v->kindOf x=some .local ->
  bindL kindOf (P.zip vs) m x=some v
 | [],_,_,_,_,h,_,_=>by simp at h
 | _ :: _,[],_,_,_,_,h,_=>by simp at h
 | p :: P,w :: vs,0,m,nd,h1,h2,hk=>by
  simp at h1 h2;subst h1;subst h2;show bindL kindOf ((p,w) :: P.zip vs) m p=_;unfold bindL;rw [adF fun v hv=>(arq.mp nd).1 (auf hv).1,if_pos hk];simp
 | p :: P,w :: vs,i+1,m,nd,h1,h2,hk=>by
  show bindL kindOf ((p,w) :: P.zip vs) m x=_;unfold bindL;exact adH (i:=i) (arq.mp nd).2 (by simpa using h1) (by simpa using h2) hk
theorem adI {kindOf:Str->Option NameKind} {x:Str} {v:Value}:∀ {P:List Str} {vs:List Value} {i:Nat} {m:Str->Option Value},P.Nodup->P[i]?=some x->vs[i]?=some v->kindOf x≠some .local ->
  bindC kindOf (P.zip vs) m x=some v
 | [],_,_,_,_,h,_,_=>by simp at h
 | _ :: _,[],_,_,_,_,h,_=>by simp at h
 | p :: P,w :: vs,0,m,nd,h1,h2,hk=>by
  simp at h1 h2;subst h1;subst h2;show bindC kindOf ((p,w) :: P.zip vs) m p=_;unfold bindC;rw [adG fun v hv=>(arq.mp nd).1 (auf hv).1,if_neg hk];simp
 | p :: P,w :: vs,i+1,m,nd,h1,h2,hk=>by
  show bindC kindOf ((p,w) :: P.zip vs) m x=_;unfold bindC;exact adI (i:=i) (arq.mp nd).2 (by simpa using h1) (by simpa using h2) hk
noncomputable def start (N:List Str) (vs:List V):St:=vs.map some++arZ (N.length - vs.length) none
noncomputable def ya (CX:CXT) (P:Program) (w:World) (K:aqu) (mg:Str->Option Value) (base:Heap) (N:List Str) (qual:Str) (scope:Scope) (f:Addr) (cd:Value) (A:Around) (outer:List Env) (s:Shared) (H:Hp) (E:XK):Cx where
 prog:=P
 w:=w
 K:=K
 mg:=mg
 base:=base
 A:=A.deeper (envOfC qual scope s.heap.objs.size f cd)
 N:=N
 s₀:=s
 H₀:=H
 env:=envOfC qual scope s.heap.objs.size f cd
 outer:=outer
 stack:=envOfC qual scope s.heap.objs.size f cd :: outer
 ex:=[]
 calm:=true
 fn:=fun _=>true
 pn:=[]
 xe:=fun e s'=>wpAny (model P w) (A.deeper (envOfC qual scope s.heap.objs.size f cd)) (leaving (envOfC qual scope s.heap.objs.size f cd) e) (fun _ s''=>CX outer H s E e s'') (fun e' s''=>CX outer H s E e' s'') s'
theorem afj {sc:Scope} {n:Nat} {x:Str} (h:sc.names.lookup x=some .cell):∃ c,(cellsFrom n sc.names []).lookup x=some c:=by
 have q:=asG sc.names n [] (.inl h);exact as5.mp q
theorem aiR {CX:CXT} {P:Program} {w:World} {K:aqu} {mg:Str->Option Value} {base:Heap} {N ps:List Str} {qual:Str} {scope:Scope} {f:Addr} {cd:Value} {A:Around} {outer:List Env} {s s1:Shared} {H:Hp} {E:XK} {us:List Value} {vs:List V}
  (S:FnScope N ps scope) (hd:A.handled=none) (e0:Env0 P w K mg base A outer s H) (hl:vs.length=ps.length) (r:Vals vs us)
  (x:InCallC s s.heap.objs.size (bindL (envOfC qual scope s.heap.objs.size f cd).kindOf (ps.zip us) fun _=>none) (cellsFrom (s.heap.objs.size+1) scope.names []) (bindC (envOfC qual scope s.heap.objs.size f cd).kindOf (ps.zip us) fun _=>none) s1) :
  Inv (ya CX P w K mg base N qual scope f cd A outer s H E) [] (start N vs) H s1:=by
 have hpl:ps.length<=N.length:=by have:=congrArg auL S.pre;rw [arf] at this;omega
 obtain⟨h1,tk,rfl,hk⟩:=x.done;have noA:∀ b:Addr,b∉(ya CX P w K mg base N qual scope f cd A outer s H E).ex:=fun b z=>absurd (show b∈([]:List Addr) from z) (by simp);refine⟨⟨e0.mod,S.kind,rfl,rfl,aqC _,fun y z c h1 h2=>?_,fun y hy=>?_,fun y c _ h=>?_,fun _=>hd,Around.frames_deeper e0.frames,.inr ⟨rfl,rfl⟩,fun b z=>absurd z (noA b),e0.bs,e0.bsz,fun b _ _=>noA b,fun b z=>absurd z (noA b),e0.funs,e0.frf,e0.tabs⟩,
  rfl,e0.bare,Un.kept hk,⟨_,x.toInCall.ns,fun i y v h1 h2 h3=>?_⟩,fun y c h=>⟨_,x.cell y c h⟩,e0.hok.fresh (aqC _),fun y c h=>?_,fun p hp=>absurd (show p∈([]:List (Addr×Obj)) from hp) (by simp),e0.hok.kept hk,?_⟩
 ·exact name_of_addr x.apart (asx h1) (asx h2)
 ·have hy:scope.names.lookup y=some .cell \/ scope.names.lookup y=some .free:=hy;rcases hy with hy | hy
  ·exact afj hy
  ·exact absurd rfl (S.nofree _ (asx hy))
 ·exact arE (x.above y c (asx h))
 ·have hi:i<vs.length:=by
   unfold start at h2;by_cases hi:i<vs.length
   ·exact hi
   ·rw [aqR (by simpa using hi)] at h2;rw [asC] at h2;split at h2 <;> cases h2
  have ha:vs[i]?=some v:=by
   unfold start at h2;rw [aqJ (by simpa using hi),aqA] at h2;cases e:vs[i]? with
   | none=>rw [e] at h2;cases h2
   | some a=>rw [e] at h2;cases h2;rfl
  obtain⟨u,hu,rv⟩:=r.get ha;have hp:ps[i]?=some y:=by
   rw [<-S.pre,asu (by omega)];exact h1
  have ndP:ps.Nodup:=by rw [<-S.pre];exact S.nd.sublist (List.take_sublist _ _)
  refine⟨u,rv,?_⟩;rcases S.par y (aqz hp) with k | k
  ·exact .inl ⟨k,adH ndP hp hu k⟩
  ·obtain⟨c,e⟩:=afj (n:=s.heap.objs.size+1) k;refine .inr ⟨.inl k,c,e,?_⟩;have q:=x.cell y c e;rw [adI ndP hp hu (by show scope.names.lookup y≠_;rw [k];decide)] at q;exact q
 ·exact e0.hok.fresh (arE (x.above y c (asx h)))
 ·unfold start;show _=N.length;rw [aqM,aqr,atj];omega
theorem anz {CX:CXT} {P:Program} {w:World} {K:aqu} {mg:Str->Option Value} {base:Heap} {k:Nat} {f:Addr} {name qual:Str} {params:Arguments} {body:List Stmt} {scope:Scope} {dV kV doc pm cdv ct oc:Value} {an od:Option Addr}
  {osl:Array (Option Value)} {N ps:List Str} {sp:Sp} (lk:K.lookup f=some ⟨oc,od,.func (arN name qual params body scope dV kV doc pm an cdv ct),osl⟩) (hcd:ary K cdv qual=true) (S:FnScope N ps scope)
  (len:∀ vs H Q E,sp vs H Q E->vs.length=ps.length)
  (hbody:∀ (A:Around) (outer:List Env) (s:Shared) (H:Hp) (vs:List V) (Q:VK) (E:XK),Room k (A.deeper (envOfC qual scope s.heap.objs.size f cdv))->sp vs H Q E ->
   ∃ t,PSs (ya CX P w K mg base N qual scope f cdv A outer s H E) body t/\t { nx:=fun _ H'=>Q .non H',rt:=Q } (start N vs) H) :
  FnOk P w K mg base CX (k+1) f (arN name qual params body scope dV kV doc pm an cdv ct) ps sp:=by
 refine⟨len,fun A outer s H args us vs Q E hr e0 hb r hsp=>?_⟩;have hl:=len _ _ _ _ hsp;have KX:K.In s.heap:=e0.mod.kin.keeps fun b o e=>(e0.bs b o e).1;have lim:s.heap.NoLimit:=e0.mod.nolimit.keeps fun b o e=>(e0.bs b o e).1;have hkind:∀ y∈ps.zip us,scope.names.lookup y.1=some .local \/ (scope.names.lookup y.1=some .cell/\((cellsFrom (s.heap.objs.size+1) scope.names []).lookup y.1).isSome=true):=fun⟨n,v⟩ hy=>by
  rcases S.par n (auf hy).1 with q | q
  ·exact .inl q
  ·exact .inr ⟨q,asG _ _ _ (.inl q)⟩
 refine codeAny_call_function hr.depth (KX _ _ lk) rfl S.co S.gen rfl (PySem.W.codeRec_of KX hcd) (hb _ _ _ _ ?_);refine wpAny_newFunctionEnv_cells S.kind hkind fun env he s1 x=>?_;subst he;refine⟨lim.keeps x.toInCall.keep,codeAny_func ?_⟩;obtain⟨t,ht,hq⟩:=hbody A outer s H vs Q E (hr.deeper _) hsp;have I:Inv (ya CX P w K mg base N qual scope f cdv A outer s H E) [] (start N vs) H s1:=aiR S hr.hd e0 hl r x;refine wpAny_mono (ht [] s1 (start N vs) H _ I hq) (fun fl s' hs=>?_) fun e s' hs=>hs;have fin:∀ {σ':St} {H':Hp} {v:V} {u:Value},Inv (ya CX P w K mg base N qual scope f cdv A outer s H E) [] σ' H' s'->RelV v u->Q v H'->CE outer P w H s Q u s' :=
  fun {σ' H' v u} J rv q=>⟨v,H',J.os,J.bare,J.base,J.hok,rv,q⟩
 cases fl with
 | ret u =>
  obtain⟨v,σ',H',J,rv,q⟩:=hs;exact fin J rv q
 | next =>
  obtain⟨σ',H',J,q⟩:=hs;exact fin (v:=V.non) (u:=Value.none) J rfl q
 | brk =>
  obtain⟨_,_,_,q⟩:=hs;exact asF q
 | cont =>
  obtain⟨_,_,_,q⟩:=hs;exact asF q
section
variable {X:Cx} {x:Str} {p pos:Pos} {e:Expr} {es:List Expr} {t:TA} {id T:String} {r:List V->Hp->VK->Prop}
def tCB (r:List V->Hp->VK->Prop) (t:TA):TE:=fun σ H Q=>t σ H fun vs H1=>r vs H1 Q
theorem zz (hc:yC X (.builtin id) r) (hg:Gl X x) (hm:X.mg x=none) (hv:bootBuiltins x=some (.builtin id)) (ha:PA X (e :: es) t) (hn:x ≠ "__name__":=by decide) (hdb:(x == ("__debug__":Str))=false:=by decide)
  (he:starEach (e :: es) X.env=(false,eval e X.env) :: starEach es X.env:=by rfl) (hpl:(backTo pos (starEach es X.env)).any (·.1)=false:=by rfl):PE X (.Call (.Name x p) (e :: es) [] pos) (tCB r t):=by
 intro pins s σ H Q I h;refine wpAny_Call_Name_kw (aaO I hg hm hv ?_ hn hdb);exact PyProof.Rows.callWith_builtin1 (thn (ha pos pins s σ H _ I h) fun us s1 ⟨vs,H1,I1,r1,q1⟩=>hc pins s1 σ H1 vs us Q I1 r1 q1) he hpl
theorem yS (hc:yC X (.type T) r) (hg:Gl X x) (hm:X.mg x=none) (hv:bootBuiltins x=some (.type T)) (ha:PA X (e :: es) t) (hn:x ≠ "__name__":=by decide) (hdb:(x == ("__debug__":Str))=false:=by decide)
  (he:starEach (e :: es) X.env=(false,eval e X.env) :: starEach es X.env:=by rfl) (hpl:(backTo pos (starEach es X.env)).any (·.1)=false:=by rfl):PE X (.Call (.Name x p) (e :: es) [] pos) (tCB r t):=by
 intro pins s σ H Q I h;refine wpAny_Call_Name_kw (aaO I hg hm hv ?_ hn hdb);exact asN (thn (ha pos pins s σ H _ I h) fun us s1 ⟨vs,H1,I1,r1,q1⟩=>hc pins s1 σ H1 vs us Q I1 r1 q1) he hpl
theorem acI (hc:yC X (.type T) r) (hg:Gl X x) (hm:X.mg x=none) (hv:bootBuiltins x=some (.type T)) (hn:x ≠ "__name__":=by decide) (hdb:(x == ("__debug__":Str))=false:=by decide) :
  PE X (.Call (.Name x p) [] [] pos) (tCB r yY):=by
 intro pins s σ H Q I h;refine wpAny_Call_Name_kw (aaO I hg hm hv ?_ hn hdb);exact PyProof.Rows.callWith_type0 (hc pins s σ H [] [] Q I .nil h)
end
end L2
namespace HT
open PySem PyProof.Rows
theorem rcLt_int (A:Around) (s:Shared) (a:Int) (t:Tok) (c:Int) (u:Tok) (prog:Program) (w:World) (E:Value->Shared->Prop) (Q:Value->Shared->Prop) (h:Q (.bool (decide (a<c))) s) :
  wpAny (model prog w) A (richCompare .Lt (.int a t) (.int c u)) Q E s :=
 (PyProof.Rows.lt_int h:wpAny (model prog w) A (compareOp .Lt (.int a t) (.int c u)) Q E s)
section
open PySem.SeqAt
open PySem.AutoSeq1 (wpAny_loadPart')
open PySem.MeetsSeq PySem.MeetsSeq2 PySem.MeetsSeq3
end
section
variable {prog:Program} {w:World} {A:Around} {E:Value->Shared->Prop} {s:Shared}
end
end HT
namespace L2
open PySem PySem.Spec PyProof.Rows
abbrev TO:=St->Hp->(Option Int->Hp->Prop)->Prop
theorem intsAre_of {ns:List Int}:∀ {us:List Value},Vals (ns.map V.int) us->IntsAre us ns:=by
 induction ns with
 | nil=>intro us r;rw [asV] at r;cases r;exact .nil
 | cons n ns ih =>
  intro us r;rw [aqQ] at r;cases r with
  | cons r1 r2 =>
   obtain⟨t,e⟩:=r1;subst e;exact .cons n t (ih r2)
section
variable {X:Cx} {e:Expr} {te:TE} {lo hi:Option Expr} {tl th:TO} {pos p2:Pos}
end
noncomputable def ixN (n:Nat) (i:Int):Option Nat:=if 0<=i then (if i<n then some i.toNat else none) else if -(n:Int)<=i then some (i+n).toNat else none
noncomputable def atI {α:Type} (xs:List α) (i:Int):Option α:=(ixN xs.length i).bind fun j=>xs[j]?
theorem ahx {n:Nat} {i:Int} {j:Nat} (h:ixN n i=some j):seqIndex? i n=some j/\j<n/\-(n:Int)<=i/\i<n:=by
 unfold ixN at h;by_cases h0:0<=i
 ·rw [if_pos h0] at h;by_cases h1:i<n
  ·rw [if_pos h1] at h;have e:i.toNat=j:=Option.some.inj h;exact⟨by rw [seqIndex_of h0 h1,e],by omega,by omega,h1⟩
  ·rw [if_neg h1] at h;cases h
 ·rw [if_neg h0] at h;by_cases h1:-(n:Int)<=i
  ·rw [if_pos h1] at h;have e:(i+n).toNat=j:=Option.some.inj h;exact⟨by rw [seqIndex_neg (by omega) h1,e],by omega,h1,by omega⟩
  ·rw [if_neg h1] at h;cases h
theorem ahy {α:Type} {xs:List α} {i:Int} {v:α} (h:atI xs i=some v):∃ j,seqIndex? i xs.length=some j/\xs[j]?=some v/\j<xs.length/\-(xs.length:Int)<=i/\i<xs.length:=by
 unfold atI at h;cases e:ixN xs.length i with
 | none=>rw [e] at h;cases h
 | some j =>
  rw [e] at h;obtain⟨h1,h2,h3,h4⟩:=ahx e;exact⟨j,h1,h,h2,h3,h4⟩
theorem ahz {α:Type} {xs:List α} {j:Nat} {v:α} (h:xs[j]?=some v):atI xs (j:Int)=some v:=by
 have hj:j<xs.length:=(aqs.mp h).1;have e:ixN xs.length (j:Int)=some j:=by
  unfold ixN;rw [if_pos (by omega),if_pos (by omega)];simp
 unfold atI;rw [e];exact h
def aci (b:Expr):Prop:=∀ o i,subscripted b false o i=operate [o,i] (getItem o i)
def IxR (X:Cx) (r:R2):Prop :=
 ∀ (value slice:Expr) (pins:List (Addr×Obj)) (s:Shared) (σ:St) (H:Hp) (x y:V) (v u:Value) (Q:VK),Inv X pins σ H s->RelV x v->RelV y u->r x y H Q ->
  subscripted slice false v u=operate [v,u] (getItem v u)->wpAny (model X.prog X.w) X.A (subscriptTail value slice v u) (EP X pins σ Q) X.xe s
def MtR (X:Cx) (id:String) (r:V->List V->Hp->VK->Prop):Prop :=
 ∀ (pins:List (Addr×Obj)) (s:Shared) (σ:St) (H:Hp) (x:V) (xs:List V) (v:Value) (us:List Value) (Q:VK),Inv X pins σ H s->RelV x v->Vals xs us->r x xs H Q ->
  wpAny (model X.prog X.w) X.A (call (.builtin id) (v :: us)) (EP X pins σ Q) X.xe s
section
variable {X:Cx} {a b:Expr} {ta tb:TE} {pos:Pos}
theorem zE {r:R2} (hr:IxR X r) (ha:PE X a ta) (hb:PE X b tb) (hs:aci b):PE X (.Subscript a b pos) (tOp r ta tb):=by
 intro pins s σ H Q I h;exact Subscript_ (aol ha hb I h fun v u s2 x y H2 I2 rx ry q=>hr a b pins s2 σ H2 x y v u Q I2 rx ry q (hs _ _))
def afk (K:aqu):R2:=fun x y H Q=>∃ p xs i v,x=.ref p/\y=.int i/\SqL K H p xs/\atI xs i=some v/\Q v H
def afl (K:aqu):R2:=fun x y H Q=>∃ p xs i v,x=.ref p/\y=.int i/\SqT K H p xs/\atI xs i=some v/\Q v H
theorem al9:IxR X (afk X.K):=by
 intro value slice pins s σ H x y v u Q I rx ry h hs;obtain⟨p,xs,i,z,rfl,rfl,hq,he,q⟩:=h;cases rx;obtain⟨t,rfl⟩:=ry;obtain⟨its,r,pl,hz⟩:=I.list hq;obtain⟨j,h1,h2,h3,h4,h5⟩:=ahy he;obtain⟨w,ew,rw'⟩:=r.get h2;have hl:=r.length;have hn:=abH;have fin:EP X pins σ Q w s:=⟨z,H,I,rw',q⟩;by_cases h0:0<=i
 ·have hj:i.toNat=j:=by
   rw [seqIndex_of h0 h5] at h1;exact Option.some.inj h1
  exact item_listR pl.isList h0 (by omega) (by rw [hj];simpa using ew) fin hs
 ·have hj:(i+(its.toArray.size:Int)).toNat=j:=by
   rw [seqIndex_neg (by omega) h4] at h1;rw [aqU,<- hl];exact Option.some.inj h1
  exact subscriptTail_builtinR (x:=w) pl.isList.typeIs slot_list_getitem.lookup
   (wpAny_getItem_list_neg (Q:=fun r s'=>r=w/\EP X pins σ Q r s') pl.isList (by omega) (by rw [aqU] <;> omega) (by omega) (by rw [hj];simpa using ew) ⟨rfl,fin⟩) hs
theorem aoq:IxR X (afl X.K):=by
 intro value slice pins s σ H x y v u Q I rx ry h hs;obtain⟨p,xs,i,z,rfl,rfl,hq,he,q⟩:=h;cases rx;obtain⟨t,rfl⟩:=ry;obtain⟨its,r,pl,hz⟩:=I.tuple hq;obtain⟨j,h1,h2,h3,h4,h5⟩:=ahy he;obtain⟨w,ew,rw'⟩:=r.get h2;have hl:=r.length;have hn:=abH;have fin:EP X pins σ Q w s:=⟨z,H,I,rw',q⟩;exact subscriptTail_builtinR (x:=w) pl.typeIs slot_tuple_getitem.lookup
  (getItem_tuple (j:=j) (Q:=fun r s'=>r=w/\EP X pins σ Q r s') pl (by omega) (by omega) (by rw [aqU,<- hl];exact h1) (by simpa using ew) ⟨rfl,fin⟩) hs
theorem agz (its:List Value) (n j:Nat) (u:Value):asR (·.setIfInBounds j u) { cls:=.type "list",data:=.seq its.toArray n }={ cls:=.type "list",data:=.seq (its.set j u).toArray n }:=by
 simp [asR]
theorem Inv.lst {pins:List (Addr×Obj)} {σ:St} {H:Hp} {s:Shared} {p:Addr} {xs:List V} (I:Inv X pins σ H s) (h:H p=some (.lst xs)) :
  ∃ (its:List Value) (n:Nat),Vals xs its/\s.heap.get? p=some { cls:=.type "list",data:=.seq its.toArray n }/\xs.length<=sizeLine:=by
 obtain⟨z,its,n,r,e⟩:=I.hok p _ h;exact⟨its,n,r,e,z⟩
theorem Inv.lstUpd {pins:List (Addr×Obj)} {σ:St} {H:Hp} {s:Shared} {p:Addr} {xs ys:List V} {its its':List Value} {n n':Nat} {f:Obj->Obj} (I:Inv X pins σ H s) (h:H p=some (.lst xs))
  (ho:s.heap.get? p=some { cls:=.type "list",data:=.seq its.toArray n }) (hf:f { cls:=.type "list",data:=.seq its.toArray n }={ cls:=.type "list",data:=.seq its'.toArray n' }) (r:Vals ys its') (hz:ys.length<=sizeLine) (t:Nat) :
  Inv X pins σ (upd H p (.lst ys)) { s with heap:=s.heap.update p f,toks:=t }:=by
 have e:(s.heap.update p f).get? p=some { cls:=.type "list",data:=.seq its'.toArray n' }:=by
  rw [asL f ho (by rw [hf] <;> rfl),hf]
 refine I.write (x:=p) (e:=p) (by rw [h];trivial) (.inl rfl) (fun b u hb q=>(ar4 _ _ (arU hb)).trans q) ⟨_,e⟩ ?_;exact⟨hz,its',n',r,e⟩
def acJ:V->V->V->Hp->(Hp->Prop)->Prop:=fun o i v H Q=>∃ p xs k j,o=.ref p/\i=.int k/\H p=some (.lst xs)/\ixN xs.length k=some j/\Q (upd H p (.lst (xs.set j v)))
theorem set_list:al0 X acJ:=by
 intro pins s σ H o i v ov iv u Q I ro ri rv h;obtain⟨p,xs,k,j,rfl,rfl,hp,hj,q⟩:=h;cases ro;obtain⟨t,rfl⟩:=ri;obtain⟨its,n,r,ho,hz⟩:=I.lst hp;obtain⟨h1,h2,h3,h4⟩:=ahx hj;have hl:=r.length;have hn:=abH;have I':Inv X pins σ (upd H p (.lst (xs.set j v))) { s with heap:=s.heap.update p (asR (·.setIfInBounds j u)) } :=
  I.lstUpd hp ho (agz its n j u) (r.set rv j) (by rw [ata];exact hz) s.toks
 by_cases h0:0<=k
 ·have hk:k.toNat=j:=by
   rw [seqIndex_of h0 h4] at h1;exact Option.some.inj h1
  exact PySem.W.ki_setAt ho h0 (by omega) (by rw [aqU,<- hl];exact h4) (by rw [hk];exact⟨_,I',q⟩)
 ·have hk:(k+(its.toArray.size:Int)).toNat=j:=by
   rw [seqIndex_neg (by omega) h3] at h1;rw [aqU,<- hl];exact Option.some.inj h1
  exact PySem.W.ki_setBack ho (by omega) (by rw [aqU,<- hl];exact h3) (by omega) (by rw [hk];exact⟨_,I',q⟩)
noncomputable def ab2:V->Bool
 | .non=>true
 | .bl _=>true
 | .int _=>true
 | .str _=>true
 | _=>false
noncomputable def eqV:V->V->Bool
 | .non,.non=>true
 | .bl a,.bl b=>a == b
 | .bl a,.int b=>(if a then 1 else 0) == b
 | .int a,.bl b=>a == (if b then 1 else 0)
 | .int a,.int b=>a == b
 | .str a,.str b=>a == b
 | _,_=>false
theorem aor {A:Around} {s:Shared} {y x:V} {u v:Value} (ry:RelV y u) (rx:RelV x v) (fy:ab2 y=true) (fx:ab2 x=true):SeqAt.EqAt A s u v (eqV y x):=by
 cases y with
 | non =>
  cases ry;cases x with
  | non=>cases rx;exact SeqAt.EqAt.same _
  | bl b=>cases rx;exact SeqAt.EqAt.none_bool b
  | int b=>obtain⟨t,rfl⟩:=rx;exact SeqAt.EqAt.none_int b t
  | str b=>obtain⟨t,rfl⟩:=rx;exact SeqAt.EqAt.none_str b t
  | _=>exact absurd (show false=true from fx) aqt
 | bl a =>
  cases ry;cases x with
  | non=>cases rx;exact SeqAt.EqAt.bool_none a
  | bl b=>cases rx;exact SeqAt.EqAt.bool_bool a b
  | int b=>obtain⟨t,rfl⟩:=rx;exact SeqAt.EqAt.bool_int a b t
  | str b=>obtain⟨t,rfl⟩:=rx;exact SeqAt.EqAt.bool_str a b t
  | _=>exact absurd (show false=true from fx) aqt
 | int a =>
  obtain⟨t',rfl⟩:=ry;cases x with
  | non=>cases rx;exact SeqAt.EqAt.int_none a t'
  | bl b=>cases rx;exact SeqAt.EqAt.int_bool a t' b
  | int b=>obtain⟨t,rfl⟩:=rx;exact SeqAt.EqAt.int_int a t' b t
  | str b=>obtain⟨t,rfl⟩:=rx;exact SeqAt.EqAt.int_str a t' b t
  | _=>exact absurd (show false=true from fx) aqt
 | str a =>
  obtain⟨t',rfl⟩:=ry;cases x with
  | non=>cases rx;exact SeqAt.EqAt.str_none a t'
  | bl b=>cases rx;exact SeqAt.EqAt.str_bool a t' b
  | int b=>obtain⟨t,rfl⟩:=rx;exact SeqAt.EqAt.str_int a t' b t
  | str b=>obtain⟨t,rfl⟩:=rx;exact SeqAt.EqAt.str_str a t' b t
  | _=>exact absurd (show false=true from fx) aqt
 | _=>exact absurd (show false=true from fy) aqt
noncomputable def eqU (x:V) (u:Value):Bool:=match u with
 | .none=>eqV .non x
 | .bool b=>eqV (.bl b) x
 | .int i _=>eqV (.int i) x
 | .str z _=>eqV (.str z) x
 | _=>false
theorem ajW {x y:V} {u:Value} (r:RelV y u) (f:ab2 y=true):eqU x u=eqV y x:=by
 cases y with
 | non=>cases r;rfl
 | bl b=>cases r;rfl
 | int i=>obtain⟨t,rfl⟩:=r;rfl
 | str z=>obtain⟨t,rfl⟩:=r;rfl
 | _=>exact absurd (show false=true from f) aqt
theorem aej {x:V}:∀ {xs:List V} {us:List Value},Vals xs us->xs.all ab2=true->us.any (eqU x)=xs.any fun y=>eqV y x
 | _,_,.nil,_=>rfl
 | y :: xs,u :: us,.cons r t,f=>by
  rw [as6,aqy] at f;rw [asK,asK,ajW r f.1,aej t f.2]
theorem acK {A:Around} {s:Shared} {x:V} {v:Value} (rx:RelV x v) (fx:ab2 x=true):∀ {xs:List V} {us:List Value},Vals xs us->xs.all ab2=true->∀ u∈us,SeqAt.EqAt A s u v (eqU x u)
 | _,_,.nil,_=>fun u hu=>by cases hu
 | y :: xs,u :: us,.cons r t,f=>fun u' hu=>by
  rw [as6,aqy] at f;rcases aqE.mp hu with rfl | hu
  ·rw [ajW r f.1];exact aor r rx f.1 fx
  ·exact acK rx fx t f.2 u' hu
noncomputable def inV (x:V) (xs:List V):Bool:=xs.any fun y=>eqV y x
def rIn (K:aqu) (neg:Bool):R2:=fun x y H Q=>∃ p xs,y=.ref p/\(SqL K H p xs \/ SqT K H p xs)/\ab2 x=true/\xs.all ab2=true/\Q (.bl (if neg then !inV x xs else inV x xs)) H
theorem aek:OpR X (compareOp .NotIn) (rIn X.K true):=by
 intro pins s σ H x y v u Q I rx ry h;obtain⟨p,xs,rfl,hq,fx,fs,q⟩:=h;cases ry;rcases hq with hq | hq
 ·obtain⟨its,r,pl,hz⟩:=I.list hq;refine SeqAt.notIn_listAt (eqU x) pl.isList (fun w hw=>acK rx fx r fs w (by simpa using hw)) ⟨.bl _,H,I,rfl,?_⟩;rw [show its.toArray.any (eqU x)=its.any (eqU x) by simp,aej r fs];exact q
 ·obtain⟨its,r,pl,hz⟩:=I.tuple hq;refine SeqAt.notIn_tupleAt (eqU x) pl (fun w hw=>acK rx fx r fs w (by simpa using hw)) ⟨.bl _,H,I,rfl,?_⟩;rw [show its.toArray.any (eqU x)=its.any (eqU x) by simp,aej r fs];exact q
theorem ael:yC X (.builtin "len") (fun xs H Q=>∃ p ys,xs=[.ref p]/\(SqL X.K H p ys \/ SqT X.K H p ys)/\Q (.int ys.length) H):=by
 intro pins s σ H xs us Q I r h;obtain⟨p,ys,rfl,hq,q⟩:=h;obtain⟨u,rfl,rx⟩:=vals1 r;cases rx;have hn:=abH;rcases hq with hq | hq
 ·obtain⟨its,r',pl,hz⟩:=I.list hq;have hlen:=r'.length;exact Calls.call_len_list pl.isList (by simp only [aqU] <;> omega) ⟨.int ys.length,H,I.tok _,⟨s.toks+1,by rw [aqU,hlen]⟩,q⟩
 ·obtain⟨its,r',pl,hz⟩:=I.tuple hq;have hlen:=r'.length;exact len_tuple pl (by simp only [aqU] <;> omega) ⟨.int ys.length,H,I.tok _,⟨s.toks+1,by rw [aqU,hlen]⟩,q⟩
theorem ads:yC X (.type "tuple") (fun xs H Q=>∃ p ys,xs=[.ref p]/\((SqL X.K H p ys/\∀ l,H l=none->Q (.ref l) (upd H l (.tup ys))) \/ (SqT X.K H p ys/\Q (.ref p) H))):=by
 intro pins s σ H xs us Q I r h;obtain⟨p,ys,rfl,h⟩:=h;obtain⟨u,rfl,rx⟩:=vals1 r;cases rx;rcases h with⟨hq,q⟩ | ⟨hq,q⟩
 ·obtain⟨its,r',pl,hz⟩:=I.list hq;have hlen:=r'.length;refine call_tuple_list pl.isList (fun h' kp=>?_) (by simp only [aqU] <;> omega);have I1:Inv X pins σ H { s with heap:=h' }:=I.kept (t':=s.toks) kp;have I2:Inv X pins σ (upd H h'.objs.size (.tup ys)) { s with heap:=h'.push { cls:=.type "tuple",data:=.seq its.toArray } } :=
   I1.laid (t':=s.toks) (fun b o e=>aqD _ e) (aqC _) (show ObjOk X.prog X.w _ _ _ (.tup ys) from⟨hz,its,r',IsTup.new _ _⟩)
  exact⟨.ref h'.objs.size,_,I2,rfl,q _ (I1.hok.fresh (aqC _))⟩
 ·obtain⟨its,r',pl,hz⟩:=I.tuple hq;exact call_tuple_same pl ⟨.ref p,H,I,rfl,q⟩
def tyV (K:aqu) (T:String) (x:V) (H:Hp):Prop:=match x with
 | .str _=>T="str"
 | .int _=>T="int"
 | .ref p=>(T="list"/\∃ xs,SqL K H p xs) \/ (T="tuple"/\∃ o,K.lookup p=some o/\o.cls=.type "tuple"/\o.dict=none) \/
   (T="dict"/\((∃ kvs,H p=some (.dK kvs)) \/ ∃ kvs,H p=some (.dT kvs))) \/ (T="set"/\∃ S n,H p=some (.set S n))
 | _=>False
theorem ajX {pins:List (Addr×Obj)} {σ:St} {H:Hp} {s:Shared} {T:String} {x:V} {v:Value} (I:Inv X pins σ H s) (r:RelV x v) (ty:tyV X.K T x H) :
  s.TypeIs v T/\∀ a,v=.ref a->∃ ob,s.heap.get? a=some ob/\ob.dict=none:=by
 cases x with
 | str z =>
  obtain⟨t,rfl⟩:=r;cases (show T="str" from ty);exact⟨typeIs_str s z t,fun _ e=>nomatch e⟩
 | int i =>
  obtain⟨t,rfl⟩:=r;cases (show T="int" from ty);exact⟨typeIs_int s i t,fun _ e=>nomatch e⟩
 | ref p =>
  cases r;rcases ty with⟨rfl,xs,hq⟩ | ⟨rfl,o,hk,hc,hd⟩ | ⟨rfl,hk⟩ | ⟨rfl,S,n,hk⟩
  ·obtain⟨its,_,pl,_⟩:=I.list hq;refine⟨pl.isList.typeIs,fun a e=>?_⟩;cases e;obtain⟨o,n,e,c,hd,_⟩:=pl;exact⟨o,e,hd⟩
  ·refine⟨⟨o,I.kIn p o hk,hc⟩,fun a e=>?_⟩;cases e;exact⟨o,I.kIn _ o hk,hd⟩
  ·have z:∃ o,s.heap.get? p=some o/\o.ExactDict:=by
    rcases hk with⟨kvs,hk⟩ | ⟨kvs,hk⟩
    ·obtain⟨_,_,_,_,o,_,_,e,ex,_⟩:=I.hok p _ hk;exact⟨o,e,ex⟩
    ·obtain⟨_,_,_,_,o,_,_,e,ex,_⟩:=I.hok p _ hk;exact⟨o,e,ex⟩
   obtain⟨o,e,ex⟩:=z;refine⟨⟨o,e,ex.1⟩,fun a e2=>?_⟩;cases e2;exact⟨o,e,ex.2.1⟩
  ·obtain⟨o,_,_,_,e,ex,_⟩:=I.hok p _ hk;refine⟨⟨o,e,ex.1⟩,fun a e2=>?_⟩;cases e2;exact⟨o,e,ex.2.1⟩
 | _=>exact asF ty
def apI (K:aqu) (T:String) (r:V->List V->Hp->VK->Prop) (to:TE):TE:=fun σ H Q=>to σ H fun x H1=>tyV K T x H1/\r x [] H1 Q
def tBM (K:aqu) (T:String) (r:V->List V->Hp->VK->Prop) (to:TE) (t:TA):TE:=fun σ H Q=>to σ H fun x H1=>tyV K T x H1/\t σ H1 fun xs H2=>r x xs H2 Q
variable {o e:Expr} {es:List Expr} {to:TE} {t:TA} {name:Str} {apos cpos:Pos} {T id:String} {r:V->List V->Hp->VK->Prop}
theorem aos (pa:PlainAttrs T) (slot:Slot T name id) (hty:typeOf (.builtin id)=pure (.type "method_descriptor")) (hm:MtR X id r) (ho:PE X o to)
  (hbase:attributeBase o name X.env (eval o X.env)=eval o X.env:=by rfl) (hline:(apos.endLine == cpos.line)=true:=by rfl):PE X (.Call (.Attribute o name apos) [] [] cpos) (apI X.K T r to):=by
 intro pins s σ H Q I h;refine wpAny_Call_method0_late hbase hline (thn (ho pins s σ H _ I h) fun v s1 ⟨x,H1,I1,r1,ty,q1⟩=>?_);obtain⟨h1,h2⟩:=ajX I1 r1 ty;exact⟨T,id,pa,slot,hty,h1,h2,atd rfl (PySem.evalArgs_none (hm pins s1 σ H1 x [] v [] Q I1 r1 .nil q1))⟩
theorem aa4 (pa:PlainAttrs T) (slot:Slot T name id) (hty:typeOf (.builtin id)=pure (.type "method_descriptor")) (hm:MtR X id r) (ho:PE X o to) (ha:PA X (e :: es) t)
  (hbase:attributeBase o name X.env (eval o X.env)=eval o X.env:=by rfl)
  (hfew:((backTo cpos (starEach (e :: es) X.env)).all (fun x=>!x.1) && (backToKw cpos (keywordEach [] X.env)).all (fun x=>x.1.isSome)
   && decide ((e :: es).length+([]:List Keyword).length+(if ([]:List Keyword).isEmpty then 0 else 1)<30))=true:=by rfl)
  (hline:(apos.endLine == cpos.line)=true:=by rfl) (hs:starEach (e :: es) X.env=(false,eval e X.env) :: starEach es X.env:=by rfl) (hplain:(backTo cpos (starEach es X.env)).any (·.1)=false:=by rfl) :
  PE X (.Call (.Attribute o name apos) (e :: es) [] cpos) (tBM X.K T r to t):=by
 intro pins s σ H Q I h;refine wpAny_Call_method_late hbase hfew hline rfl (thn (ho pins s σ H _ I h) fun v s1 ⟨x,H1,I1,r1,ty,q1⟩=>?_);obtain⟨h1,h2⟩:=ajX I1 r1 ty;refine⟨T,id,pa,slot,hty,h1,h2,?_⟩;have hA:=ha cpos pins s1 σ H1 _ I1 q1;rw [hs] at hA ⊢;refine atd (by show (false || (backTo cpos (starEach es X.env)).any (·.1))=false;rw [hplain] <;> rfl) (auo ?_);exact thn hA fun us s2 ⟨vs,H2,I2,r2,q2⟩=>hm pins s2 σ H2 x vs v us Q I2 r1 r2 q2
/- xs.append(e),list.index on a module's tuple .. are MtR facts of 06m -/
end
def MtM (X:Cx) (id:String) (r:V->List V->Hp->VK->Prop):Prop :=
 ∀ (pins:List (Addr×Obj)) (s:Shared) (σ:St) (H:Hp) (x:V) (xs:List V) (v:Value) (us:List Value) (Q:VK),Inv X pins σ H s->RelV x v->Vals xs us->r x xs H Q ->
  wpAny (model X.prog X.w) X.A (call (.builtin id) (v :: us)) (EP X pins σ Q) X.xe s
theorem Vals.one:∀ {x:V} {us:List Value},Vals [x] us->∃ u,us=[u]/\RelV x u
 | _,_,.cons r .nil=>⟨_,rfl,r⟩
theorem Vals.zero:∀ {us:List Value},Vals [] us->us=[]
 | _,.nil=>rfl
theorem Vals.dropLast {xs:List V} {us:List Value} (h:Vals xs us):Vals xs.dropLast us.dropLast:=by
 induction h with
 | nil=>exact .nil
 | cons r t ih =>
  cases t with
  | nil=>exact .nil
  | cons q t'=>exact .cons r ih
theorem agA {α:Type} (l:List α):l.eraseIdx (l.length - 1)=l.dropLast:=by
 induction l with
 | nil=>rfl
 | cons a r ih =>
  cases r with
  | nil=>rfl
  | cons b r =>
   have e:(a :: b :: r).length - 1=((b :: r).length - 1)+1:=by
    have h1:(a :: b :: r).length=r.length+2:=rfl;have h2:(b :: r).length=r.length+1:=rfl;omega
   rw [e,List.eraseIdx_cons_succ,ih]
   all_goals rfl
section
variable {X:Cx} {pins:List (Addr×Obj)} {σ:St} {H:Hp} {s:Shared} {l b:Addr} {xs ys zs:List V}
theorem Inv.lset {its its':List Value} {n:Nat} {f:Array Value->Array Value} {t':Nat} (I:Inv X pins σ H s) (hH:H l=some (.lst xs))
  (e:s.heap.get? l=some { cls:=.type "list",data:=.seq its.toArray n }) (hf:f its.toArray=its'.toArray) (hv:Vals ys its') (hz:ys.length<=sizeLine) :
  Inv X pins σ (upd H l (.lst ys)) { s with heap:=s.heap.update l (asR f),toks:=t' }:=by
 have q:=PySem.IsL.update e f;rw [hf] at q;refine I.write (x:=l) (e:=l) (by rw [hH];exact trivial) (.inl rfl) (fun b' u hb hu=>(ar4 s.heap (asR f) (arU hb)).trans hu) ⟨_,q⟩ ?_;exact⟨hz,its',_,hv,q⟩
theorem Inv.lnew {its:List Value} {t':Nat} (I:Inv X pins σ H s) (hv:Vals ys its) (hz:ys.length<=sizeLine) :
  Inv X pins σ (upd H s.heap.objs.size (.lst ys)) { s with heap:=s.heap.push { cls:=.type "list",data:=.seq its.toArray },toks:=t' } :=
 I.laid (fun _ _ q=>aqD _ q) (aqC _) ⟨hz,its,0,hv,aq3 _ rfl⟩
theorem Inv.fresh (I:Inv X pins σ H s):H s.heap.objs.size=none:=I.hok.fresh (aqC _)
theorem Inv.lstM (I:Inv X pins σ H s) (hH:H l=some (.lst xs)):xs.length<=sizeLine/\∃ (its:List Value) (n:Nat),Vals xs its/\xs.length=its.length/\s.heap.get? l=some { cls:=.type "list",data:=.seq its.toArray n }:=by
 obtain⟨z,its,n,r,e⟩:=I.hok l _ hH;exact⟨z,its,n,r,r.length,e⟩
end
section
variable {X:Cx}
def ahA:V->List V->Hp->VK->Prop:=fun x vs H Q=>∃ l xs y,x=.ref l/\vs=[y]/\H l=some (.lst xs)/\xs.length<sizeLine/\Q .non (upd H l (.lst (xs++[y])))
theorem yT:MtM X "list.append" ahA:=by
 intro pins s σ H x vs v us Q I rx rv h;obtain⟨l,xs,y,rfl,rfl,hH,hz,q⟩:=h;cases rx;obtain⟨u,rfl,ru⟩:=rv.one;obtain⟨z,its,n,r,hl,e⟩:=I.lstM hH;refine call_meets F.slot_list_append ⟨_,e,rfl⟩ auy (aup _ _) (PySem.list_append l its.toArray n u (by rw [aqU];omega)) ⟨e,?_⟩;refine⟨.non,_,I.lset (its':=its++[u]) hH e (by simp) (r.append (.cons ru .nil)) ?_,rfl,q⟩;rw [aqM,ars];omega
def apJ:V->List V->Hp->VK->Prop:=fun x vs H Q=>∃ l xs y,x=.ref l/\vs=[]/\H l=some (.lst xs)/\xs[xs.length - 1]?=some y/\Q y (upd H l (.lst xs.dropLast))
theorem aot:MtM X "list.pop" apJ:=by
 intro pins s σ H x vs v us Q I rx rv h;obtain⟨l,xs,y,rfl,rfl,hH,hy,q⟩:=h;cases rx;have hus:=rv.zero;subst hus;obtain⟨z,its,n,r,hl,e⟩:=I.lstM hH;obtain⟨u,hu,ru⟩:=r.get hy;have hy':its.toArray[its.toArray.size - 1]?=some u:=by
  show its.toArray[its.length - 1]?=some u;rw [<-arO,<- hl];exact hu
 refine call_meets F.slot_list_pop ⟨_,e,rfl⟩ F.entry_list_pop (F.args_list_pop_1 _) (MeetsSeq.list_pop_last l its.toArray n u hy' (by rw [aqU];omega)) ⟨e,?_⟩;refine⟨y,_,I.lset (its':=its.dropLast) hH e ?_ r.dropLast ?_,ru,q⟩
 ·show its.toArray.eraseIdxIfInBounds (its.toArray.size - 1)=its.dropLast.toArray;rw [aqU,List.eraseIdxIfInBounds_toArray,agA]
 ·rw [List.length_dropLast];omega
end
end L2
namespace Att
open PySem PySem.W PySem.Calls PyProof.Rows
theorem ace {P:Params} {h:Heap}:∀ (ns:List Int) (vs:List Value),WellAll P h vs (ns.map WData.int)->IntsAre vs ns:=by
 intro ns
 induction ns with
 | nil =>
  intro vs w;rw [asV] at w;cases w;exact .nil
 | cons n ns ih =>
  intro vs w;rw [aqQ] at w;cases w with
  | cons a b =>
   cases a;exact .cons _ _ (ih _ b)
theorem aiS {l:OpenLaw} {n:Nat} (hn:l.most=some n) {P:Params} {h:Heap} {args:List WData} {vals:List Value}
  (hpre:l.row.toRowW.claim.pre args=true) (hwl:WellAll P h vals args) :
  ∃ a vs ns,vals=[Value.ref a]/\args=[WData.list (ns.map WData.int)]/\h.get? a=some { cls:=.type "list",data:=.seq vs.toArray }/\IntsAre vs ns/\ns.length<=n:=by
 have hsh:WShape.hasAll [] args [.list .int]=true:=(pre_splitW hpre).1;have hc:l.pre.holds [] { args:=args }=true:=(pre_splitW hpre).2;obtain⟨d,r,rfl,h1,h2⟩:=hasAllW_cons hsh;obtain rfl:=hasAllW_nil h2;obtain⟨xs,rfl,h3⟩:=hasW_list h1;obtain⟨ns,rfl⟩:=items_int h3;have hlen:ns.length<=n:=by
  unfold OpenLaw.pre at hc;have h4:(WTm.not (.lt (.lit (.int (n:Int))) (.len (.arg 0)))).holds [] { args:=[.list (ns.map .int)] }=true:=by
   have h4:=(holds_andW hc).1;rw [hn] at h4;exact h4
  have h5:=condW_of h4 (w_not (w_lt w_lit (w_len_list (w_arg rfl))));rw [aqr] at h5;refine Nat.le_of_not_lt fun q=>?_;have q':(n:Int)<((ns.length:Nat):Int):=by omega
  first
   | (rw [decide_eq_true q'] at h5;exact absurd h5 (by decide))
   | (simp at h5;omega)
 cases hwl with
 | cons w1 w2 =>
  cases w2;cases w1 with
  | list ho hall=>exact⟨_,_,ns,rfl,rfl,ho,ace ns _ hall,hlen⟩
theorem aiT (l:OpenLaw) (args:List WData):l.row.toRowW.claim.post args (.bool true) args=true :=
 postW_of (r:=l.row.toRowW) (X:=(true == true))
  (show WShape.has [] (.bool true) .bool=true by first | rfl | decide | simp [WShape.has,WShape.arms,WShape.armsAll])
  (show (WTm.eq .res (.lit (.bool true))).value [] { args:=args,res:=some (.bool true),after:=args }=some (.bool (true == true)) from w_eq_bool (w_res rfl) w_lit) rfl
theorem attach_call {l:OpenLaw} {n:Nat} {q:Program} {loose:List Str} {XP:(Str->Option Value)->Heap->Prop} {YP:World->Heap->Prop} {d:DefRec}
  (hn:l.most=some n) (hdf:d.params.defaults=[])
  (call:∀ (w:World) (s₀ s₁:Shared) (mg mb:Str->Option Value) (fa:Addr) (o:Obj) (pm cd doc:Value) (a:Addr) (vs:List Value) (ns:List Int),
   Ground q loose [] XP w s₀ mg mb s₁.heap->YP w s₁.heap ->
   s₁.heap.get? fa=some o->o.data=.func (docDef d.name d.params d.body d.scope pm cd doc)->s₁.heap.CodeRec cd d.name->mg d.name=some (.ref fa) ->
   s₁.heap.get? a=some { cls:=.type "list",data:=.seq vs.toArray }->IntsAre vs ns->ns.length<=n->s₁.gens=#[] ->
   codeAny (model l.prog w) callerA (.call (.ref fa) ⟨[.ref a],[]⟩) (fun r s'=>r=.ok (.ret (.bool true))/\OldK s₁.heap s'.heap/\s'.os=s₁.os/\AllBare s'.gens) s₁) :
  WalkO q loose XP YP l.row.toRowW d [] (fun f vs=>PySem.call f vs):=by
 intro w s₀ s₁ mg mb G Y fa o pm cd doc dV kV ho hd hcd hD hmg hg args vals as hpre hlay hrd hwl hlo;obtain rfl:dV=.none:=Dflts.none hD hdf;obtain rfl:kV=.none:=Dflts.noKw hD;obtain⟨a,vs,ns,rfl,rfl,hobj,hints,hlen⟩:=aiS hn hpre hwl;refine enter_call (codeAny_mono (call w s₀ s₁ mg mb fa o pm cd doc a vs ns G Y ho (fd_plain hd) hcd hmg hobj hints hlen hg) fun r s' hq=>?_);obtain⟨rfl,h2,h3,h4⟩:=hq;exact⟨.inl ⟨.bool true,.bool true,[],rfl,fun _=>rfl,.bool true,aiT l _,fun _=>⟨List.Pairwise.nil,fun _ hm=>(nomatch hm)⟩⟩,h2,h3,h4⟩
section
variable {prog:Program} {w:World} {A:Around} {E:Value->Shared->Prop} {s:Shared} {K:Frag}
def noObjs (h:Heap):Heap:={ h with objs:=#[] }
theorem noObjs_get (h:Heap) (b:Addr):(noObjs h).get? b=none:=by
 cases e:(noObjs h).get? b with
 | none=>rfl
 | some o=>exact absurd (aqI e) (arQ _)
theorem fr_all {h:Heap} {L:Addr} {m:Str->Option Value} (n:h.Ns L m):Fr (noObjs h) L h m :=
 ⟨n,fun b o e=>(by rw [noObjs_get] at e;cases e),aq2 _⟩
end
end Att
namespace L2
open PySem PySem.Spec PyProof.Rows
theorem adJ:∀ {vs:List Value} {ns:List Int},IntsAre vs ns->Vals (ns.map V.int) vs
 | _,_,.nil=>.nil
 | _,_,.cons n t h=>.cons ⟨t,rfl⟩ (adJ h)
end L2
/- THE LAST THEOREM (shape;LID,My.* are yours):
   My.Adr: a structure of the addresses that your layer names (classes,functions);My.Txt K t: a structure (Prop) of the equations over K;
   My.txt_mk:{K} {implicit addresses ..} (e1:nsIn K mainGlobals "law"=some (some (.ref f))) (e2:K.lookup f=some ⟨oc,od,.func (fnOf "law" "law" params body scope dV kV doc pm an cdv ct),sl⟩) (e3:codeIn K cdv "law"=true) ..:∃ t,My.Txt K t
set_option maxRecDepth 100000 in
set_option maxHeartbeats 0 in
theorem PySem.Challenge.cw_LID_holds : PySem.Challenge.rw_LID.Holds := by
 w_on;o_law;k_head;(case hw=>w_witness2)
 k_fill
 refine L2.walk_of (l:=PySem.Challenge.rw_LID) (n:=63) (k:=40) (x:="script") (CX:=fun w=>..) (sp:=fun _=>My.sp_law) rfl (by decide) rfl ⟨rfl,by decide,by decide⟩ (fun w h Y=>PySem.W.kIn_of Y) ?F ?S ?C
 case F =>
  intro w mg fa h KX G hmg;have T:∃ t,My.Txt (L2.KOf KX) t:=by
   dsimp only [L2.KOf]                          -- K must stand as «<heap const> w.params» for k_is
   refine' My.txt_mk ?e1 ?e2 ?e3 ..
   (case e1=>PySem.W.k_is)                    -- in the order: a name->its address->its object->its parts
   (case e2=>PySem.W.k_is)
   ..
  obtain⟨t,T⟩:=T;have e0:=hmg.symm.trans (ar9 KX G T.law);cases e0                                       -- fa is the law's own address;exact⟨_,fun s u=>.of_eq rfl,fun base kb nb=>My.law_fn T kb nb⟩     -- if «.of_eq rfl» comes too early: refine' ⟨_,?b,fun base kb nb=>My.law_fn T kb nb⟩;exact fun s u=>.of_eq rfl
 case S=>exact fun w H a ns hl hO hS=>..
 case C=>exact ..
(the tactic k_is has no namespace: write k_is) -/
namespace L2
open PySem PySem.Spec PyProof.Rows
noncomputable def y3 (s:Stmt):Arguments:=match s with
 | .FunctionDef _ a _ _ _ _ _ _ _ _=>a
 | _=>{ posonlyargs:=[],args:=[],vararg:=none,kwonlyargs:=[],kw_defaults:=[],kwarg:=none,defaults:=[] }
noncomputable def yw (s:Stmt):List Stmt:=match s with
 | .FunctionDef _ _ b _ _ _ _ _ _ _=>b
 | _=>[]
noncomputable def zl (s:Stmt):Scope:=match s with
 | .FunctionDef _ _ _ _ _ _ sc _ _ _=>sc
 | _=>{ kind:=.function,names:=[],isGenerator:=false,isCoroutine:=false }
abbrev CX0:CXT:=fun _ _ _ _ _ _=>False
abbrev E0:XK:=fun _ _ _=>False
theorem apK {X:Cx}:Passes CX0 X E0:=fun _ _ _ _ _ _ _ h=>h.elim
structure Fun (K:aqu) (x qual:Str) (st:Stmt) (f:Addr) (fd:FuncData):Prop where
 ex:∃ (oc:Value) (od:Option Addr) (kV doc pm:Value) (an:Option Addr) (cdv ct:Value) (osl:Array (Option Value)),
  fd=arN x qual (y3 st) (yw st) (zl st) .none kV doc pm an cdv ct/\K.lookup f=some ⟨oc,od,.func fd,osl⟩/\ary K cdv qual=true
 kp:arM K (.ref f)=true
section
variable {P:Program} {w:World} {K:aqu} {mg:Str->Option Value} {base:Heap}
theorem Fun.ok {x qual:Str} {st:Stmt} {f:Addr} {fd:FuncData} {N ps:List Str} {k:Nat} {sp:Sp} (F:Fun K x qual st f fd) (S:FnScope N ps (zl st)) (len:∀ vs H Q E,sp vs H Q E->vs.length=ps.length)
  (hbody:∀ (cdv:Value) (A:Around) (outer:List Env) (s:Shared) (H:Hp) (vs:List V) (Q:VK) (E:XK),Room k (A.deeper (envOfC qual (zl st) s.heap.objs.size f cdv))->sp vs H Q E ->
   ∃ t,PSs (ya CX0 P w K mg base N qual (zl st) f cdv A outer s H E).nox (yw st) t/\t { nx:=fun _ H'=>Q .non H',rt:=Q } (start N vs) H):FnOk P w K mg base CX0 (k+1) f fd ps sp:=by
 obtain⟨oc,od,kV,doc,pm,an,cdv,ct,osl,rfl,lk,hcd⟩:=F.ex;refine anz lk hcd S len fun A outer s H vs Q E hr hsp=>?_;obtain⟨t,h,q⟩:=hbody cdv A outer s H vs Q E hr hsp;exact⟨t,h.nox,q⟩
theorem Fun.binds {x qual:Str} {st:Stmt} {f:Addr} {fd:FuncData} {ps:List Str} (F:Fun K x qual st f fd)
  (h:∀ (kV doc pm:Value) (an:Option Addr) (cdv ct:Value) (us:List Value),us.length=ps.length->bindArgs (arN x qual (y3 st) (yw st) (zl st) .none kV doc pm an cdv ct) ⟨us,[]⟩=pure (ps.zip us)):Binds K fd ps []:=by
 obtain⟨oc,od,kV,doc,pm,an,cdv,ct,osl,rfl,lk,hcd⟩:=F.ex;exact .all (h kV doc pm an cdv ct)
theorem agB {x qual:Str} {st:Stmt} {f:Addr} {oc:Value} {od an:Option Addr} {osl:Array (Option Value)} {kV doc pm cdv ct:Value} (l:K.lookup f=some ⟨oc,od,.func (arN x qual (y3 st) (yw st) (zl st) .none kV doc pm an cdv ct),osl⟩)
  (c:ary K cdv qual=true) (k:arM K (.ref f)=true):Fun K x qual st f (arN x qual (y3 st) (yw st) (zl st) .none kV doc pm an cdv ct):=⟨⟨oc,od,kV,doc,pm,an,cdv,ct,osl,rfl,l,c⟩,k⟩
end
theorem yd {n:Nat} (h:n<=1000):n<sizeLine:=Nat.lt_of_le_of_lt h (by decide)
section
variable {X:Cx}
theorem pv (i:Nat) {x:Str} {pos:Pos} (hN:X.N[i]?=some x:=by rfl) (hv:Vis X.env.scope x:=by first | exact Or.inl rfl | exact Or.inr (Or.inl rfl) | exact Or.inr (Or.inr rfl)) (hd:(x == ("__debug__":Str))=false:=by decide)
  (hcd:(x == ("__classdict__":Str))=false:=by decide):PE X (.Name x pos) (zR i):=aob hN hv hd hcd
end
def Same (H H':Hp):Prop:=∀ b o,H b=some o->H' b=some o
theorem Same.refl (H:Hp):Same H H:=fun _ _ h=>h
theorem Same.trans {H H1 H2:Hp} (a:Same H H1) (b:Same H1 H2):Same H H2:=fun c o h=>b c o (a c o h)
theorem Same.free {H H':Hp} (e:Same H H') {l:Addr} (h:H' l=Option.none):H l=Option.none:=by
 cases q:H l with
 | none=>rfl
 | some o =>
  rw [e l o q] at h;cases h
theorem Same.seq {K:aqu} {H H':Hp} {a:Addr} {xs:List V} (e:Same H H') (h:SqL K H a xs):SqL K H' a xs:=by
 rcases h with (h | ⟨o,h⟩) | h
 ·exact .inl (.inl (e _ _ h))
 ·exact .inl (.inr ⟨o,e _ _ h⟩)
 ·exact .inr h
noncomputable def yi (env:Env):List (Str×NameKind)->List (Str×Addr)->List (Str×Addr)
 | [],acc=>acc
 | (x,k) :: r,acc=>if k == .free then yi env r ((x,(env.cells.lookup x).getD 0) :: acc) else yi env r acc
theorem acL {sc:Scope} {env:Env} (h:∀ x,(x,NameKind.free)∈sc.names->∃ c,env.cells.lookup x=some c):closureFor sc env=pure (yi env sc.names []):=by
 have key:∀ (names:List (Str×NameKind)) (acc:List (Str×Addr)),(∀ x,(x,NameKind.free)∈names->∃ c,env.cells.lookup x=some c) ->
   (forIn names acc fun (x:Str×NameKind) (cs:List (Str×Addr))=>if (x.2 == NameKind.free)=true then (do let c <- cellOf env x.1;pure (ForInStep.yield ((x.1,c) :: cs))) else pure (ForInStep.yield cs))=(pure (yi env names acc):Sem (List (Str×Addr))):=by
  intro names
  induction names with
  | nil=>intro acc _;rfl
  | cons p r ih =>
   intro acc hh;obtain⟨x,k⟩:=p;rw [asJ];unfold yi;by_cases hk:(k == NameKind.free)=true
   ·have hk':k=.free:=by simpa using hk
    subst hk';obtain⟨c,hc⟩:=hh x aqv;simp only [beq_self_eq_true,if_true];rw [<-ih _ fun y hy=>hh y (aqw _ hy)];have:cellOf env x=pure c:=by unfold cellOf;rw [hc]
    rw [this,hc];rfl
   ·simp only [hk,ard,if_false];rw [<-ih _ fun y hy=>hh y (aqw _ hy)];rfl
 simp only [closureFor];have q:=key sc.names [] h;refine Eq.trans ?_ (Eq.trans (congrArg (fun z=>z >>= fun r=>pure r) q) ?_)
 ·rfl
 ·rfl
theorem vy {env:Env}:∀ {names:List (Str×NameKind)} {acc:List (Str×Addr)} {p:Str×Addr},p∈yi env names acc->p∈acc \/ ((p.1,NameKind.free)∈names/\p.2=(env.cells.lookup p.1).getD 0)
 | [],acc,p,h=>.inl h
 | (x,k) :: r,acc,p,h=>by
  unfold yi at h;split at h
  ·rename_i hk;have hk':k=.free:=by simpa using hk
   subst hk';rcases vy h with q | ⟨q,e⟩
   ·rcases aqE.mp q with q | q
    ·subst q;exact .inr ⟨aqv,rfl⟩
    ·exact .inl q
   ·exact .inr ⟨aqw _ q,e⟩
  ·rcases vy h with q | ⟨q,e⟩
   ·exact .inl q
   ·exact .inr ⟨aqw _ q,e⟩
theorem vV {α:Type}:∀ {l:List (Str×α)} {x:Str} {v:α},(x,v)∈l->∃ u,l.lookup x=some u
 | (y,u) :: r,x,v,h=>by
  rw [art];cases hb:x == y with
  | true=>exact⟨u,rfl⟩
  | false =>
   rcases aqE.mp h with e | h
   ·have:x=y:=congrArg Prod.fst e;subst this;simp at hb
   ·exact vV h
theorem aaQ {env:Env}:∀ {names:List (Str×NameKind)} {acc:List (Str×Addr)} {x:Str},(x,NameKind.free)∈names->(x,(env.cells.lookup x).getD 0)∈yi env names acc
 | (y,k) :: r,acc,x,h=>by
  have mono:∀ (names:List (Str×NameKind)) (acc:List (Str×Addr)) (p:Str×Addr),p∈acc->p∈yi env names acc:=by
   intro names
   induction names with
   | nil=>intro acc p hp;exact hp
   | cons q r ih =>
    intro acc p hp;obtain⟨a,b⟩:=q;unfold yi;split
    ·exact ih _ _ (aqw _ hp)
    ·exact ih _ _ hp
  unfold yi;rcases aqE.mp h with e | h
  ·cases e;simp only [beq_self_eq_true,if_true];exact mono _ _ _ aqv
  ·split
   ·exact aaQ h
   ·exact aaQ h
theorem aaG {env:Env} {names:List (Str×NameKind)} {x:Str} {c:Addr} (h:∀ x,(x,NameKind.free)∈names->∃ c,env.cells.lookup x=some c) (e:(yi env names []).lookup x=some c):env.cells.lookup x=some c/\(x,NameKind.free)∈names:=by
 rcases vy (mem_of_lookup e) with q | ⟨q,e'⟩
 ·cases q
 ·obtain⟨c',hc⟩:=h _ q;dsimp only at hc e';rw [hc] at e';exact⟨by rw [hc];exact congrArg some e'.symm,q⟩
theorem v9 {env:Env} {names:List (Str×NameKind)} {x:Str} {c:Addr} (h:∀ x,(x,NameKind.free)∈names->∃ c,env.cells.lookup x=some c) (hx:(x,NameKind.free)∈names) (e:env.cells.lookup x=some c):(yi env names []).lookup x=some c:=by
 obtain⟨u,hu⟩:=vV (aaQ (env:=env) (acc:=[]) hx);have:=(aaG h hu).1;rw [this] at e;rw [hu,e]
theorem jt:∀ {names:List (Str×NameKind)} {n:Nat} {acc:List (Str×Addr)} {x:Str} {c:Addr},(cellsFrom n names acc).lookup x=some c->(n<=c/\c<n+names.length/\(x,NameKind.cell)∈names) \/ (acc.lookup x=some c/\(x,NameKind.cell)∉names)
 | [],n,acc,x,c,h=>.inr ⟨h,by simp⟩
 | (y,k) :: r,n,acc,x,c,h=>by
  unfold cellsFrom at h;split at h
  ·rename_i hk;have hk':k=.cell:=by simpa using hk
   subst hk';rcases jt h with⟨q1,q2,q3⟩ | ⟨q1,q2⟩
   ·exact .inl ⟨ate q1,aq4 q2 (by rw [aqT];omega),aqw _ q3⟩
   ·rw [art] at q1;cases hb:x == y with
    | true =>
     rw [hb] at q1;cases q1;have:x=y:=by simpa using hb
     subst this;exact .inl ⟨aqC _,by rw [aqT];exact Nat.lt_add_of_pos_right (asW _),aqv⟩
    | false =>
     rw [hb] at q1;refine .inr ⟨q1,fun z=>?_⟩;rcases aqE.mp z with e | z
     ·have:x=y:=congrArg Prod.fst e;subst this;simp at hb
     ·exact q2 z
  ·rename_i hk;rcases jt h with⟨q1,q2,q3⟩ | ⟨q1,q2⟩
   ·exact .inl ⟨q1,aq4 q2 (by rw [aqT];omega),aqw _ q3⟩
   ·refine .inr ⟨q1,fun z=>?_⟩;rcases aqE.mp z with e | z
    ·have:k=.cell:=(congrArg Prod.snd e).symm;subst this;simp at hk
    ·exact q2 z
theorem jH:∀ (names:List (Str×NameKind)) (n:Nat) (acc:List (Str×Addr)),(acc.Pairwise fun x y=>x.2≠y.2)->(∀ p∈acc,p.2<n)->(cellsFrom n names acc).Pairwise fun x y=>x.2≠y.2
 | [],n,acc,h,_=>h
 | (y,k) :: r,n,acc,h,hl=>by
  unfold cellsFrom;split
  ·refine jH r (n+1) _ (arT.mpr ⟨fun p hp=>?_,h⟩) fun p hp=>?_
   ·exact atc (hl p hp)
   ·rcases aqE.mp hp with e | hp
    ·subst e;exact at3 _
    ·exact arJ (hl p hp)
  ·exact jH r n acc h hl
theorem adt {names:List (Str×NameKind)} {n:Nat} {acc:List (Str×Addr)} {x:Str} (h:names.lookup x=some .cell):∃ c,(cellsFrom n names acc).lookup x=some c :=
 as5.mp (asG names n acc (.inl h))
theorem aaH {names:List (Str×NameKind)} {n:Nat} {acc:List (Str×Addr)} {x:Str} (h:(acc.lookup x).isSome=true):∃ c,(cellsFrom n names acc).lookup x=some c :=
 as5.mp (asG names n acc (.inr h))
theorem qU:∀ (names:List (Str×NameKind)) (h:Heap) (acc:List (Str×Addr)) (x:Str) (c:Addr),(cellsFrom h.objs.size names acc).lookup x=some c->h.objs.size<=c->(∀ p∈acc,p.2<h.objs.size)->(pushCells h names).IsCell c none
 | [],h,acc,x,c,e,hc,hl=>absurd (hl _ (mem_of_lookup e)) (Nat.not_lt.mpr hc)
 | (y,k) :: r,h,acc,x,c,e,hc,hl=>by
  unfold cellsFrom at e;unfold pushCells;split at e
  ·rename_i hk;rw [if_pos hk];by_cases hcc:c=h.objs.size
   ·subst hcc;exact⟨_,pushCells_keeps _ _ _ _ (aq3 _ rfl),rfl⟩
   ·have es:(h.push { cls:=.type "cell",data:=.cell none }).objs.size=h.objs.size+1:=atf ..;refine qU r _ ((y,h.objs.size) :: acc) x c (by rw [es];exact e) (by rw [es];exact Nat.lt_of_le_of_ne hc (arU hcc)) fun p hp=>?_;rw [es];rcases aqE.mp hp with e | hp
    ·subst e;exact at3 _
    ·exact arJ (hl p hp)
  ·rename_i hk;rw [if_neg hk];exact qU r h acc x c e hc hl
noncomputable def zi (X:Cx) (sc:Scope) (N:List Str) (s₀:Shared) (H₀:Hp) (ex:List Addr) (pn:List (Addr×Obj)):Cx :=
 { X with N:=N,s₀:=s₀,H₀:=H₀,env:=compEnvC sc (cellsFrom (s₀.heap.objs.size+1) sc.names (yi X.env sc.names [])) s₀.heap.objs.size X.env,
          outer:=X.stack,ex:=ex,fn:=fun x=>decide (sc.names.lookup x=some .cell),pn:=pn,xe:=fun _ _=>False }
structure CompScope (NO:List Str) (scO:Scope) (N:List Str) (sc:Scope) (own:Nat) (fr:List Nat):Prop where
 kind:sc.kind=.function
 nd:N.Nodup
 snd:(sc.names.map (·.1)).Nodup
 free:∀ p∈sc.names,p.2=.free->scO.names.lookup p.1=some .cell \/ scO.names.lookup p.1=some .free
 frn:∀ p∈(N.drop own).zip fr,NO[p.2]?=some p.1/\sc.names.lookup p.1=some .free
 len:N.length=own+fr.length
noncomputable def y6 (own:Nat) (fr:List Nat) (σ:St):St:=arZ own none++fr.map fun j=>(σ[j]?).getD none
theorem yp {α:Type}:∀ {l:List (Str×α)} {x:Str} {k:α},(l.map (·.1)).Nodup->(x,k)∈l->l.lookup x=some k
 | (y,u) :: r,x,k,nd,h=>by
  rw [aqQ] at nd;obtain⟨h1,h2⟩:=arq.mp nd;rw [art];rcases aqE.mp h with e | h'
  ·cases e;simp
  ·have:x≠y:=by
    intro e;subst e;exact h1 (aqG.mpr ⟨(x,k),h',rfl⟩)
   rw [beq_eq_false_iff_ne.mpr this];exact yp h2 h'
theorem j9 {env:Env}:∀ {names:List (Str×NameKind)} {x:Str} {k:NameKind},names.lookup x=some k ->
  (names.map fun (n,k)=>if (k == NameKind.free && env.scope.kind == .function && env.kindOf n == some .cell) then (n,NameKind.cell) else (n,k)).lookup x=some (if (k == NameKind.free && env.scope.kind == .function && env.kindOf x == some .cell) then .cell else k)
 | (n,k') :: r,x,k,h=>by
  have ih:=@j9 env r x k;show List.lookup x ((if (k' == NameKind.free && env.scope.kind == .function && env.kindOf n == some .cell)=true then (n,NameKind.cell) else (n,k')) :: _)=_;cases hx:x == n with
  | true =>
   have:x=n:=by simpa using hx
   subst this;simp only [art,hx] at h;cases h;split <;> simp [art]
  | false =>
   simp only [art,hx] at h;split
   ·simp only [art,hx];exact ih h
   ·simp only [art,hx];exact ih h
theorem jJ {env:Env}:∀ {names:List (Str×NameKind)} {x:Str},names.lookup x=none ->
  (names.map fun (n,k)=>if (k == NameKind.free && env.scope.kind == .function && env.kindOf n == some .cell) then (n,NameKind.cell) else (n,k)).lookup x=none
 | [],_,_=>rfl
 | (n,k') :: r,x,h=>by
  have ih:=@jJ env r x;show List.lookup x ((if (k' == NameKind.free && env.scope.kind == .function && env.kindOf n == some .cell)=true then (n,NameKind.cell) else (n,k')) :: _)=_;cases hx:x == n with
  | true=>simp only [art,hx] at h;cases h
  | false =>
   simp only [art,hx] at h;split
   ·simp only [art,hx];exact ih h
   ·simp only [art,hx];exact ih h
section
variable {X:Cx} {pins:List (Addr×Obj)} {σ:St} {H:Hp} {s:Shared} {NO N:List Str} {scO sc:Scope} {own:Nat} {fr:List Nat} {fp:List Addr}
theorem afm {tk:Nat} (S:CompScope NO scO N sc own fr) (hN:X.N=NO) (hsc:X.env.scope=scO) (I:Inv X pins σ H s) (hf:∀ b∈fp,aaD X pins H b) (ho:∀ b∈fp,∃ o,s.heap.get? b=some o/\∀ v,o.data≠.cell v) :
  Inv (zi X sc N s H fp (X.pn++pins)) [] (y6 own fr σ) H { s with heap:=pushCells (s.heap.push { cls:=.type "dict",data:=.dict #[] }) sc.names,toks:=tk }:=by
 have hfree:∀ x,(x,NameKind.free)∈sc.names->∃ c,X.env.cells.lookup x=some c:=fun x hx=>I.ok.has x (by
  show X.env.scope.names.lookup x=_ \/ X.env.scope.names.lookup x=_;rw [hsc];exact S.free _ hx rfl)
 have hclt:∀ p∈yi X.env sc.names [],p.2<s.heap.objs.size:=fun p hp=>by
  rcases vy hp with q | ⟨q,e⟩
  ·cases q
  ·obtain⟨c,hc⟩:=hfree _ q;rw [e,hc];obtain⟨v,o,ho,_⟩:=I.cell _ c hc;exact aqI ho
 have hsz:(s.heap.push { cls:=.type "dict",data:=.dict #[] }).objs.size=s.heap.objs.size+1:=atf ..;have hk:∀ b o,s.heap.get? b=some o->(pushCells (s.heap.push { cls:=.type "dict",data:=.dict #[] }) sc.names).get? b=some o:=fun b o e=>pushCells_keeps _ _ _ _ (aqD _ e);have hcase:∀ {x:Str} {c:Addr},(cellsFrom (s.heap.objs.size+1) sc.names (yi X.env sc.names [])).lookup x=some c->(s.heap.objs.size+1<=c/\(x,NameKind.cell)∈sc.names) \/ (X.env.cells.lookup x=some c/\(x,NameKind.free)∈sc.names):=fun {x c} e=>by
  rcases jt e with⟨q1,_,q3⟩ | ⟨q1,_⟩
  ·exact .inl ⟨q1,q3⟩
  ·exact .inr (aaG hfree q1)
 have clap:(yi X.env sc.names []).Pairwise fun x y=>x.2≠y.2:=by
  have key:∀ (names:List (Str×NameKind)) (acc:List (Str×Addr)),(∀ p∈acc,X.env.cells.lookup p.1=some p.2)->(∀ x,(x,NameKind.free)∈names->∃ c,X.env.cells.lookup x=some c)->(acc.Pairwise fun x y=>x.2≠y.2)->(∀ p∈acc,(p.1,NameKind.free)∉names)->(names.map (·.1)).Nodup ->
    (yi X.env names acc).Pairwise fun x y=>x.2≠y.2:=by
   intro names
   induction names with
   | nil=>intro acc _ _ h _ _;exact h
   | cons p r ih =>
    intro acc h1 h2 h3 h4 h5;obtain⟨y,k⟩:=p;rw [aqQ] at h5;obtain⟨n1,n2⟩:=arq.mp h5;unfold yi;split
    ·rename_i hk;have hk':k=.free:=by simpa using hk
     subst hk';obtain⟨c,hc⟩:=h2 y aqv;rw [hc];refine ih _ (fun p hp=>?_) (fun x hx=>h2 x (aqw _ hx)) (arT.mpr ⟨fun p hp=>?_,h3⟩) (fun p hp=>?_) n2
     ·rcases aqE.mp hp with e | hp
      ·subst e;exact hc
      ·exact h1 p hp
     ·intro e;have e':p.2=c:=e.symm;have:=I.ok.inj _ _ _ hc (e'▸h1 p hp);exact h4 p hp (this▸aqv)
     ·rcases aqE.mp hp with e | hp
      ·subst e;intro z;exact n1 (aqG.mpr ⟨_,z,rfl⟩)
      ·intro z;exact h4 p hp (aqw _ z)
    ·exact ih acc h1 (fun x hx=>h2 x (aqw _ hx)) h3 (fun p hp z=>h4 p hp (aqw _ z)) n2
  exact key sc.names [] (fun p hp=>by cases hp) hfree List.Pairwise.nil (fun p hp=>by cases hp) S.snd
 have apart:=jH sc.names (s.heap.objs.size+1) _ clap fun p hp=>arJ (hclt p hp);have hkd:∀ x,(zi X sc N s H fp (X.pn++pins)).env.kindOf x=some .cell \/ (zi X sc N s H fp (X.pn++pins)).env.kindOf x=some .free->(x,NameKind.cell)∈sc.names \/ (x,NameKind.free)∈sc.names:=fun x hx=>by
  cases q:sc.names.lookup x with
  | none =>
   have e:(zi X sc N s H fp (X.pn++pins)).env.kindOf x=none:=jJ q;rw [e] at hx;rcases hx with z | z <;> cases z
  | some k =>
   have e:(zi X sc N s H fp (X.pn++pins)).env.kindOf x=some _:=j9 (env:=X.env) q;rw [e] at hx;have hm:=mem_of_lookup q;cases k <;> first | exact .inl hm | exact .inr hm | (rcases hx with z | z <;> cases z)
 have cellAt:∀ x c,(cellsFrom (s.heap.objs.size+1) sc.names (yi X.env sc.names [])).lookup x=some c->∃ v,(pushCells (s.heap.push { cls:=.type "dict",data:=.dict #[] }) sc.names).IsCell c v:=fun x c e=>by
  rcases hcase e with⟨q,_⟩ | ⟨q,_⟩
  ·exact⟨none,qU _ _ _ x c (by rw [hsz];exact e) (by rw [hsz];exact q) fun p hp=>by rw [hsz];exact arJ (hclt p hp)⟩
  ·obtain⟨v,o,ho,hd⟩:=I.cell x c q;exact⟨v,o,hk _ _ ho,hd⟩
 have lt_of_cell:∀ x c,X.env.cells.lookup x=some c->c<s.heap.objs.size:=fun x c e=>by
  obtain⟨v,o,ho,hd⟩:=I.cell x c e;exact aqI ho
 have lt_of_fp:∀ b∈fp,b<s.heap.objs.size:=fun b hb=>by
  obtain⟨o,e,_⟩:=ho b hb;exact aqI e
 have okX:(zi X sc N s H fp (X.pn++pins)).Ok:=by
  refine⟨I.mod,S.kind,I.ok.glob,I.ok.blt,aqC _,fun x y c h1 h2=>name_of_addr apart (mem_of_lookup h1) (mem_of_lookup h2),fun x hx=>?_,fun x c hx hc=>?_,I.ok.hd,I.ok.frames,.inl rfl,fun b hb=>⟨aq5 (lt_of_fp b hb),fun x c e=>?_⟩,I.bs,aqS I.ok.bsz I.sz,fun b o e hb=>?_,fun b hb z=>?_,I.stack,I.stkFree,I.env0.tabs⟩
  ·rcases hkd x hx with q | q
   ·exact adt (yp S.snd q)
   ·obtain⟨c,hc⟩:=hfree x q;exact aaH (by rw [v9 hfree q hc];rfl)
  ·have hx':sc.names.lookup x=some .cell:=of_decide_eq_true hx;rcases hcase hc with⟨q,_⟩ | ⟨_,q⟩
   ·exact ate q
   ·rw [yp S.snd q] at hx';cases hx'
  ·rcases hcase e with⟨q,_⟩ | ⟨q,_⟩
   ·exact atc (aq4 (lt_of_fp b hb) (ate q))
   ·exact (hf b hb).2.2.2.2.1 x c q
  ·rcases (hf b hb).2.2.2.1 with z | z
   ·exact I.ok.noex b o e z
   ·exact absurd (aqI e) (Nat.not_lt.mpr (aqS I.ok.bsz z))
  ·rcases aqE.mp (I.stkSub b z) with q | q
   ·exact (hf b hb).2.1 q
   ·exact (hf b hb).2.2.1 q
 refine⟨okX,rfl,I.bare,Un.kept hk,⟨fun _=>none,(Heap.Ns.new s.heap (.type "dict")).keeps (pushCells_keeps _ _),fun i x v h1 h2 h3=>?_⟩,cellAt,I.hok.fresh (aqC _),fun x c e=>?_,fun p hp=>?_,I.hok.kept hk,?_⟩
 ·obtain⟨m,_,hl⟩:=id I.loc;have h2':(y6 own fr σ)[i]?=some (some v):=h2;have hio:own<=i:=by
   unfold y6 at h2';refine Nat.le_of_not_lt fun hi=>?_;rw [aqJ (by simpa using hi),asC] at h2';split at h2' <;> cases h2'
  obtain⟨k,rfl⟩:=Nat.exists_eq_add_of_le hio;have h1':N[own+k]?=some x:=h1;unfold y6 at h2';rw [aqR (by simp)] at h2';simp only [atj,Nat.add_sub_cancel_left,aqA] at h2';cases hj:fr[k]? with
  | none=>rw [hj] at h2';cases h2'
  | some j =>
   rw [hj] at h2';have h2'':(σ[j]?).getD none=some v:=Option.some.inj h2';have hp:(x,j)∈(N.drop own).zip fr:=by
    refine aqz (i:=k) ?_;rw [List.getElem?_zip_eq_some];exact⟨by rw [List.getElem?_drop];exact h1',hj⟩
   obtain⟨f1,f2⟩:=S.frn _ hp;have hσ:σ[j]?=some (some v):=by
    cases q:σ[j]? with
    | none=>rw [q] at h2'';cases h2''
    | some w=>rw [q] at h2'';exact congrArg some h2''
   have hxf:(x,NameKind.free)∈sc.names:=mem_of_lookup f2;have hko:=S.free _ hxf rfl;have hvis:Vis X.env.scope x:=by rw [hsc];exact .inr hko
   obtain⟨u,ru,q⟩:=hl j x v (by rw [hN];exact f1) hσ hvis;refine⟨u,ru,.inr ⟨?_,?_⟩⟩
   ·have e:(zi X sc N s H fp (X.pn++pins)).env.kindOf x=some _:=j9 (env:=X.env) f2;rw [e];split
    ·exact .inl rfl
    ·exact .inr rfl
   ·rcases q with⟨k1,_⟩ | ⟨_,c,hc,z⟩
    ·have k1':X.env.scope.names.lookup x=some .local:=k1;rw [hsc] at k1';rcases hko with z | z <;> rw [z] at k1' <;> cases k1'
    ·obtain⟨o,ho,hd⟩:=z;refine⟨c,?_,o,hk _ _ ho,hd⟩;have hcl:=v9 hfree hxf hc;obtain⟨c',hc'⟩:=aaH (names:=sc.names) (n:=s.heap.objs.size+1) (acc:=yi X.env sc.names []) (x:=x) (by rw [hcl];rfl);rcases hcase hc' with⟨_,z⟩ | ⟨z,_⟩
     ·have:=yp S.snd z;rw [f2] at this;cases this
     ·rw [hc] at z;cases z;exact hc'
 ·rcases hcase e with⟨q,_⟩ | ⟨q,_⟩
  ·exact I.hok.fresh (ate q)
  ·exact I.freeC x c q
 ·have hp':p∈X.pn++pins:=by simpa [zi] using hp
  obtain⟨e,n,ne,nf,d⟩:=I.pin p hp';refine⟨hk _ _ e,n,aq5 (aqI e),fun z=>?_,d⟩;rcases aqE.mp (I.stkSub _ z) with q | q
  ·exact ne q
  ·exact nf q
 ·show (y6 own fr σ).length=N.length;unfold y6;rw [S.len];simp
end
abbrev TB:=St->Hp->(St->Hp->Prop)->Prop
def PB (X:Cx) (act:Sem Unit) (t:TB):Prop :=
 ∀ (pins:List (Addr×Obj)) (s:Shared) (σ:St) (H:Hp) (Q:St->Hp->Prop),Inv X pins σ H s->t σ H Q->wpAny (model X.prog X.w) X.A act (fun _ s'=>∃ σ' H',Inv X pins σ' H' s'/\Q σ' H') X.xe s
def PTs (X:Cx) (ifs:List Expr) (t:TT):Prop :=
 ∀ (pins:List (Addr×Obj)) (s:Shared) (σ:St) (H:Hp) (Q:Bool->Hp->Prop),Inv X pins σ H s->t σ H Q ->
  wpAny (model X.prog X.w) X.A (forIn ifs true fun c r=>if r=true then do let ok <- isTrue c X.env (eval c X.env);pure (ForInStep.yield ok) else pure (ForInStep.yield r)) (TP X pins σ Q) X.xe s
def ajY:TT:=fun _ H Q=>Q true H
theorem yc {X:Cx}:PTs X [] ajY:=fun pins s σ H Q I h=>wpAny_tests_nil ⟨H,I,h⟩
theorem yO {X:Cx} {c:Expr} {t:TT} (hc:PT X c t):PTs X [c] t:=fun pins s σ H Q I h=>wpAny_tests_one (hc pins s σ H Q I h)
def ab3 (J:It) (g:TG) (tt:TT) (tb:TB):TB:=fun σ H Q=>∃ W:Nat->Nat->St->Hp->Prop,(∃ m,W 0 m σ H)/\∀ i m σ H,W i m σ H ->
 (J.stop i H/\Q σ H) \/ (J.go i H/\∀ x H',J.yld i H x H'->g x σ H' fun σ2 H2=>tt σ2 H2 fun b H3=>if b=true then tb σ2 H3 fun σ' H'=>∃ m',m'<m/\W (i+1) m' σ' H' else ∃ m',m'<m/\W (i+1) m' σ2 H3)
section
variable {X:Cx} {pins:List (Addr×Obj)} {s:Shared} {σ:St} {H:Hp} {tg:Expr} {e:Expr} {d:Nat} {acc:Value} {ifs:List Expr} {g:TG} {tt:TT} {tb:TB} {act:Sem Unit} {pos:Pos}
theorem acM (hx:∀ e s,X.xe e s->False) (hc:X.calm=true) (hg:PG X tg g) (ht:PTs X ifs tt) (hb:PB X act tb)
  (heq:∀ it,compTurn e d it acc X.env=(do
   standAt pos
   match <- pyNext it with
   | none=>pure (.done .next)
   | some v =>
    letOwnedTupleGo tg it v
    assign tg X.env v
    let mut ok:=true
    for c in ifs do
     if ok then ok <- isTrue c X.env (eval c X.env)
    if ok then
     act
    again (.compLoop e d it acc X.env)))
  (hqt:∀ it,(Code.compLoop e d it acc X.env).quiet=true)
  (hden:∀ it,(model X.prog X.w).den (.compLoop e d it acc X.env)=(compTurn e d it acc X.env).onRaise (fun x=>do noteFrame x X.env;theTreesLotGoes x))
  (hund:∀ it,X.A.under (.compLoop e d it acc X.env)=X.A)
  {it:Addr} {fp:List Addr} {tn:Nat->Heap->Prop} {J:It} {Q:St->Hp->Prop} {R:Result->Shared->Prop} (I:Inv X pins σ H s) (T:Turn X.prog X.w X.K tg J fp it tn) (st:tn 0 s.heap) (f:∀ b∈fp,aaD X pins H b)
  (h:ab3 J g tt tb σ H Q) (hR:∀ σ' H' s',Inv X pins σ' H' s'->(∀ b∈fp,H' b=none)->Q σ' H'->R (.ok .next) s'):codeAny (model X.prog X.w) X.A (.compLoop e d (.ref it) acc X.env) R s:=by
 obtain⟨W,⟨m0,w0⟩,turn⟩:=h;have stat:∀ {H':Hp},(∀ b∈fp,H' b=none)->∀ b∈fp,aaD X pins H' b:=fun hn b hb=>⟨hn b hb,(f b hb).2⟩;refine codeAny_loop (hqt _) (fun n s'=>∃ i σ' H',Inv X pins σ' H' s'/\tn i s'.heap/\(∀ b∈fp,H' b=none)/\W i n σ' H') ?_ m0 ⟨0,σ,H,I,st,fun b hb=>(f b hb).1,w0⟩;rintro n s3 ⟨i,σ3,H3,I3,st3,fr3,w3⟩;rw [hden,hund];refine wpAny_noted ?_;rw [heq];have nox:∀ e' s',X.xe e' s'->notedBy (model X.prog X.w) X.A X.env (fun e s'=>R (.error e) s') e' s':=fun e' s' z=>(hx e' s' z).elim;refine wpAny_bind (wpAny_standAt (wpAny_bind ?_));rcases turn i n σ3 H3 w3 with⟨stop,qn⟩ | ⟨go,step⟩
 ·refine wpAny_mono (T.done X rfl rfl rfl hc i pins s3 σ3 H3 X.xe I3 (stat fr3) st3 stop) (fun r s4 hr4=>?_) nox;obtain⟨hr,I4⟩:=hr4;subst hr;exact wpAny_pure (hR σ3 H3 s4 I4 fr3 qn)
 ·refine wpAny_mono (T.item X rfl rfl rfl hc i pins s3 σ3 H3 X.xe I3 (stat fr3) st3 go) (fun r s4 hr4=>?_) nox;obtain⟨u,hr,h4⟩:=hr4;subst hr;refine wpAny_bind (wpAny_mono h4 (fun _ s5 h5=>?_) nox);obtain⟨x,H5,I5,r5,y5,st5,fr5⟩:=h5;have I5':=I5.pinned (stat fr5) (T.obj _ _ st5);refine wpAny_bind (wpAny_mono (hg _ s5 σ3 H5 x u _ I5' r5 (step x H5 y5)) (fun _ s6 h6=>?_) nox);obtain⟨σ6,H6,I6,q6⟩:=h6;refine wpAny_bind (wpAny_mono (ht _ s6 σ6 H6 _ I6 q6) (fun ok s7 h7=>?_) nox);obtain⟨H7,I7,q7⟩:=h7;have again:∀ {σ7:St} {H7:Hp} {s7:Shared},Inv X (pins++acC fp s5.heap) σ7 H7 s7->(∃ m',m'<n/\W (i+1) m' σ7 H7)->∃ m,m<n/\∃ i σ' H',Inv X pins σ' H' s7/\tn i s7.heap/\(∀ b∈fp,H' b=none)/\W i m σ' H':=fun {σ7 H7 s7} I7 n7=>by
   obtain⟨m',hm,w7⟩:=n7;refine⟨m',hm,i+1,σ7,H7,I7.unpinned,T.keep _ _ _ st5 fun b hb o e=>(I7.pin (b,o) (aqP _ (aqP _ (vu hb e)))).1,fun b hb=>?_,w7⟩;obtain⟨o,e,d⟩:=T.obj _ _ st5 b hb;exact (I7.pin (b,o) (aqP _ (aqP _ (vu hb e)))).2.1
  cases ok with
  | false =>
   rw [if_neg aqt] at q7;exact wpAny_pure ⟨rfl,again I7 q7⟩
  | true =>
   rw [if_pos rfl] at q7;refine wpAny_bind (wpAny_mono (hb _ s7 σ6 H7 _ I7 q7) (fun _ s8 h8=>?_) nox);obtain⟨σ8,H8,I8,q8⟩:=h8;exact wpAny_pure ⟨rfl,again I8 q8⟩
theorem aem {D:Addr} {elt:Expr} {te:TE} (he:PE X elt te):PB X (do let _ <- call (.builtin "list.append") [.ref D,<- eval elt X.env]) (fun σ H Q=>te σ H fun y H1=>∃ xs,H1 D=some (.lst xs)/\xs.length<sizeLine/\Q σ (upd H1 D (.lst (xs++[y])))):=by
 intro pins s σ H Q I h;refine wpAny_bind (thn (he pins s σ H _ I h) fun v s1 h1=>?_);obtain⟨y,H1,I1,r1,xs,hD,hz,q⟩:=h1;obtain⟨z,its,n,r,hl,e⟩:=I1.lstM hD;refine wpAny_bind ?_;refine call_meets F.slot_list_append ⟨_,e,rfl⟩ auy (aup _ _) (PySem.list_append D its.toArray n v (by rw [aqU];omega)) ⟨e,?_⟩;refine wpAny_pure ⟨σ,_,I1.lset (its':=its++[v]) hD e (by simp) (r.append (.cons r1 .nil)) ?_,q⟩;rw [aqM,ars];omega
theorem ab4 {M:Model} {A:Around} {E:Value->Shared->Prop} {sc:Scope} {gl:Addr} {cl:List (Str×Addr)} {qual:Str} {env:Env} {Q:Env->Shared->Prop} {s:Shared}
  (h:Q { scope:=sc,locals:=s.heap.objs.size,globals:=gl,cells:=cellsFrom (s.heap.objs.size+1) sc.names cl,qual:=qual,func:=none,code:=env.code,frame:=env.frame,builtins:=env.builtins } { s with heap:=pushCells (s.heap.push { cls:=.type "dict",data:=.dict #[] }) sc.names }) :
  wpAny M A (newFunctionEnv sc gl cl [] qual none .none (some env)) Q E s:=by
 simp only [newFunctionEnv,Option.isSome_some,if_true];refine wpAny_bind (wpAny_alloc ?_);refine wpAny_bind (wpAny_layCells _ (fun name kind cells=>by cases hkc:kind == NameKind.cell <;> simp [hkc]) _ _ _ _ ?_);rw [show ({ s with heap:=s.heap.push { cls:=.type "dict",data:=.dict #[] } }:Shared).heap.objs.size=s.heap.objs.size+1 from atf ..];refine wpAny_bind ?_;rw [asS];exact wpAny_pure (wpAny_pure h)
theorem comp_back {sc:Scope} {N:List Str} {fp:List Addr} {σ':St} {H':Hp} {s':Shared} {h':Heap} (I:Inv X pins σ H s) (hf:∀ b∈fp,aaD X pins H b) (J:Inv (zi X sc N s H fp (X.pn++pins)) [] σ' H' s') (hs:asp s.heap.objs.size s'.heap h') :
  Inv X pins σ H' { s' with heap:=h' }:=by
 have u:Un (frs X.stack) fp H H' s.heap s'.heap:=J.base;have ne:∀ b o,s.heap.get? b=some o->b≠s.heap.objs.size:=fun b o e=>aq5 (aqI e);have hfree:H' s.heap.objs.size=none:=J.free;refine I.call' (s':={ s' with heap:=h' }) (ch:=fp) J.os ⟨fun b o e n h1 h2=>(hs.2 b (ne b o e)).trans (u.keep b o e n h1 h2),fun b o e n h1 h2=>?_,u.free,fun b o e h2=>?_,u.tups,u.frzs,u.tbls⟩ (fun a o e=>?_) J.bare fun b hb=>?_
 ·obtain⟨sl,q⟩:=u.slot b o e n h1 h2;exact⟨sl,(hs.2 b (ne b o e)).trans q⟩
 ·obtain⟨o',q⟩:=u.there b o e h2;exact⟨o',(hs.2 b (ne b o e)).trans q⟩
 ·refine (J.hok a o e).stay (fun c v hc q=>(hs.2 c ?_).trans q) (fun _ q=>q) fun _ _ q=>q;intro z;subst z;rcases hc with hc | hc
  ·rw [<-hc] at e;rw [hfree] at e;cases e
  ·rw [hfree] at hc;cases hc
 ·exact⟨(hf b hb).2.2.2.1,(hf b hb).2.1,(hf b hb).2.2.2.2⟩
end
def vb (D:Addr) (te:TE):TB:=fun σ H Q=>te σ H fun y H1=>∃ xs,H1 D=some (.lst xs)/\xs.length<sizeLine/\Q σ (upd H1 D (.lst (xs++[y])))
def jC (wi:TI) (own:Nat) (fr:List Nat) (g:TG) (tt:TT) (tb:Addr->TB):TE:=fun σ H Q=>wi σ H fun J H1=>∀ D,H1 D=none ->
 ab3 J g tt (tb D) (y6 own fr σ) (upd H1 D (.lst [])) fun _ H2=>Q (.ref D) H2
section
variable {X:Cx} {pins:List (Addr×Obj)} {s:Shared} {σ:St} {H:Hp} {tg elt iter:Expr} {ifs:List Expr} {rest:List Comprehension} {sc scO:Scope} {NO N:List Str} {own:Nat} {fr:List Nat} {wi:TI} {g:TG} {tt:TT} {tb:Addr->TB} {pos:Pos}
theorem afn {RR:Value->Addr->Result->Shared->Prop} {it:Addr} {fp:List Addr} {tn:Nat->Heap->Prop} {J:It} {Q:VK} (S:CompScope NO scO N sc own fr) (hN:X.N=NO) (hsc:X.env.scope=scO) (hc:X.calm=true)
  (hg:∀ s₀ H₀ ex pn,PG (zi X sc N s₀ H₀ ex pn) tg g) (ht:∀ s₀ H₀ ex pn,PTs (zi X sc N s₀ H₀ ex pn) ifs tt)
  (hb:∀ D s₀ H₀ ex pn,∃ act,PB (zi X sc N s₀ H₀ ex pn) act (tb D)/\∀ it,compTurn (.ListComp elt (⟨tg,iter,ifs,0⟩ :: rest) sc pos) 0 it (.ref D) (zi X sc N s₀ H₀ ex pn).env=(do
   standAt iter.pos
   match <- pyNext it with
   | none=>pure (.done .next)
   | some v =>
    letOwnedTupleGo tg it v
    assign tg (zi X sc N s₀ H₀ ex pn).env v
    let mut ok:=true
    for c in ifs do
     if ok then ok <- isTrue c (zi X sc N s₀ H₀ ex pn).env (eval c (zi X sc N s₀ H₀ ex pn).env)
    if ok then
     act
    again (.compLoop (.ListComp elt (⟨tg,iter,ifs,0⟩ :: rest) sc pos) 0 it (.ref D) (zi X sc N s₀ H₀ ex pn).env)))
  (I:Inv X pins σ H s) (T:Turn X.prog X.w X.K tg J fp it tn) (st:tn 0 s.heap) (f:∀ b∈fp,aaD X pins H b)
  (h:∀ D,H D=none->ab3 J g tt (tb D) (y6 own fr σ) (upd H D (.lst [])) fun _ H2=>Q (.ref D) H2)
  (hRR:∀ (D C:Addr) (s':Shared) (H':Hp),(∃ m,s'.heap.Ns C m)->C≠X.env.locals->(∀ x c,X.env.cells.lookup x=some c->c≠C)->H' C=none->X.s₀.heap.objs.size<=C->(∀ p∈X.pn++pins,p.1≠C)->Inv X pins σ H' s'->Q (.ref D) H'->RR (.ref D) C (.ok .next) s') :
  wpAny (model X.prog X.w) X.A (newList []) (fun acc s₃=>wpAny (model X.prog X.w) X.A (newFunctionEnv sc X.env.globals (yi X.env sc.names []) [] X.env.qual none .none (some X.env)) (fun cenv s₄ =>
   codeAny (model X.prog X.w) X.A (.compStart (.ListComp elt (⟨tg,iter,ifs,0⟩ :: rest) sc pos) 0 (.ref it) acc { cenv with scope:=relabel sc X.env }) (RR acc cenv.locals) s₄) X.xe s₃) X.xe s:=by
 refine wpAny_newObj_type (ab4 ?_);have fpsz:∀ b∈fp,b<s.heap.objs.size:=fun b hb=>by
  obtain⟨o,e,_⟩:=T.obj _ _ st b hb;exact aqI e
 have I3:=I.lnew (its:=[]) (ys:=[]) (t':=s.toks) .nil (aq2 _);have f3:∀ b∈fp,aaD X pins (upd H s.heap.objs.size (.lst [])) b:=fun b hb=>⟨by rw [zx (aq5 (fpsz b hb))];exact (f b hb).1,(f b hb).2⟩;have st3:tn 0 (s.heap.push { cls:=.type "list",data:=.seq ([]:List Value).toArray }):=T.keep _ _ _ st fun b _ o e=>aqD _ e;have I4:=afm (tk:=s.toks) S hN hsc I3 f3 (T.obj _ _ st3);obtain⟨act,pb,heq⟩:=hb s.heap.objs.size _ _ _ _;have st4:=T.keep _ _ (pushCells ((s.heap.push { cls:=.type "list",data:=.seq ([]:List Value).toArray }).push { cls:=.type "dict",data:=.dict #[] }) sc.names) st3 fun b _ o e=>pushCells_keeps _ _ _ _ (aqD _ e);have cells_lt:∀ x c,X.env.cells.lookup x=some c->c<s.heap.objs.size:=fun x c e=>by
  obtain⟨v,o,ho,hd⟩:=I.cell x c e;exact aqI ho
 have esz:(s.heap.push { cls:=.type "list",data:=.seq ([]:List Value).toArray }).objs.size=s.heap.objs.size+1:=atf ..;have loop:=acM (X:=zi X sc N { s with heap:=s.heap.push { cls:=.type "list",data:=.seq ([]:List Value).toArray } } (upd H s.heap.objs.size (.lst [])) fp (X.pn++pins)) (R:=RR (.ref s.heap.objs.size) (s.heap.push { cls:=.type "list",data:=.seq ([]:List Value).toArray }).objs.size) (fun _ _ z=>z) hc (hg _ _ _ _) (ht _ _ _ _) pb heq (fun _=>rfl) (fun _=>rfl) (fun _=>rfl) I4 T st4
  (fun b hb=>⟨(f3 b hb).1,I4.ok.exf b hb |>.1,I4.ok.exfs b hb,.inl hb,I4.ok.exf b hb |>.2,fun p hp=>by
   have hp':p∈X.pn++pins:=by simpa [zi] using hp
   exact (f b hb).2.2.2.2.2 p hp'⟩) (h _ I.fresh)
  (fun σ' H' s' J' fr' q'=>hRR _ _ s' H' (let⟨m,hm,_⟩:=J'.loc;⟨m,hm⟩) (by rw [esz];exact atc (arJ I.lt)) (fun x c e=>by rw [esz];exact aq5 (arJ (cells_lt x c e))) J'.free (by rw [esz];exact Nat.le_succ_of_le I.sz) (fun p hp=>by rw [esz];exact aq5 (arJ (aqI (I.pin p hp).1))) (comp_back (h':=s'.heap) I3 f3 J' (Heap.SameBut.refl ..)) q')
 exact codeAny_compStart_list loop (T.self X.A 0 _ _ _ st4 loop)
theorem Inv.touch {C:Addr} {h':Heap} (I:Inv X pins σ H s) (hs:asp C s.heap h') (hn:H C=none) (h0:C≠X.env.locals) (h1:∀ x c,X.env.cells.lookup x=some c->c≠C) (h2:X.s₀.heap.objs.size<=C) (h3:∀ p∈X.pn++pins,p.1≠C) :
  Inv X pins σ H { s with heap:=h' } :=
 I.turned (t':=s.toks) (fun b o hb e=>(hs.2 b hb).trans e) hn h0 (.inr h2) h1 h3
theorem adu {prog:Program} {w:World} {A:Around} {R:Result->Shared->Prop} {s:Shared} {elt':Expr} {g0:Comprehension} {tg' it':Expr} {ifs':List Expr} {sc':Scope} {pos':Pos} {itv acc:Value} {env:Env}
  (here:codeAny (model prog w) A (.compLoop (.ListComp elt' [g0,⟨tg',it',ifs',0⟩] sc' pos') 1 itv acc env) R s)
  (once:wpAny (model prog w) A (pyIter itv) (fun j s1=>codeAny (model prog w) A (.compLoop (.ListComp elt' [g0,⟨tg',it',ifs',0⟩] sc' pos') 1 j acc env) R s1) (notedBy (model prog w) A env fun x s1=>R (.error x) s1) s) :
  codeAny (model prog w) A (.compStart (.ListComp elt' [g0,⟨tg',it',ifs',0⟩] sc' pos') 1 itv acc env) R s:=by
 apply codeAny_of_tree;show wpAny _ _ ((compStart (.ListComp elt' [g0,⟨tg',it',ifs',0⟩] sc' pos') 1 itv acc env).onRaise (fun z=>do noteFrame z env;standAt theWindowsPlace)) _ _ s;apply wpAny_notedAt;unfold compStart;show wpAny _ _ (ask >>= _) _ _ s;apply wpAny_bind;apply wpAny_askSetting;apply wpAny_ite;split
 ·first
   | exact wpAny_bind (wpAny_pure (wpAny_pure (And.intro rfl here)))
   | exact wpAny_pure (And.intro rfl here)
 ·apply wpAny_bind;apply wpAny_rule;show wpAny _ _ (standAt it'.pos >>= _) _ _ s;exact wpAny_bind (wpAny_standAt (wpAny_bind (wpAny_mono once (fun j s1 q=>wpAny_pure (And.intro rfl q)) fun _ _ z=>z)))
section
variable {elt2:Expr} {te:TE} {tg2 iter2:Expr} {ifs2:List Expr} {wi2:TI} {g2:TG} {tt2:TT} {tb2:TB} {y:Str} {i:Nat} {py spos:Pos}
def tIn (wi2:TI) (g2:TG) (tt2:TT) (tb2:TB):TB:=fun σ H Q=>wi2 σ H fun J H1=>ab3 J g2 tt2 tb2 σ H1 Q
theorem anA {D:Addr} (hx:∀ e s,X.xe e s->False) (hc:X.calm=true) (hi:PI X tg2 iter2 wi2) (hg:PG X tg2 g2) (ht:PTs X ifs2 tt2) (he:PE X elt te)
  (hs:∀ x,foldedSetIterable iter2 X.env x=pure x) :
  PB X (do
   let x <- eval iter2 X.env
   standAt iter2.pos
   let x <- foldedSetIterable iter2 X.env x
   let _ <- runOwn (.compStart (.ListComp elt [⟨tg,iter,ifs,0⟩,⟨tg2,iter2,ifs2,0⟩] sc pos) 1 (<- holding [x] (pyIter x)) (.ref D) X.env) X.env) (tIn wi2 g2 tt2 (vb D te)):=by
 intro pins s σ H Q I h;refine wpAny_bind (thn (hi pins s σ H _ I h) fun v s1 h1=>?_);refine wpAny_bind (wpAny_standAt ?_);refine wpAny_bind (wpAny_of_eq (hs v) ?_);refine wpAny_bind (wpAny_holding (thn h1 fun itv s2 h2=>?_));obtain⟨it,fp,tn,J,H2,e,I2,T,st2,f2,q⟩:=h2;subst e;refine wpAny_bind (wpAny_runOwn ?_);have loop:=acM (e:=.ListComp elt [⟨tg,iter,ifs,0⟩,⟨tg2,iter2,ifs2,0⟩] sc pos) (d:=1) (pos:=iter2.pos)
  (R:=fun r s'=>match r with | .ok f=>wpAny (model X.prog X.w) X.A (pure ()) (fun _ s'=>∃ σ' H',Inv X pins σ' H' s'/\Q σ' H') X.xe s' | .error e=>cameBackBy (model X.prog X.w) X.A X.env X.xe e s')
  hx hc hg ht (aem (D:=D) he) (fun _=>rfl) (fun _=>rfl) (fun _=>rfl) (fun _=>rfl) I2 T st2 f2 q (fun σ' H' s' J' _ q'=>wpAny_pure ⟨σ',H',J',q'⟩)
 exact adu loop (T.self X.A 0 _ _ _ st2 loop)
theorem aen (S:CompScope NO scO N sc own fr) (hsc:X.env.scope=scO) (ok:X.Ok):closureFor sc X.env=pure (yi X.env sc.names []) :=
 acL fun x hx=>ok.has x (by
  show X.env.scope.names.lookup x=_ \/ X.env.scope.names.lookup x=_;rw [hsc];exact S.free _ hx rfl)
theorem ahB (S:CompScope NO scO N sc own fr) (hc:X.calm=true) (hi:PI X tg iter wi) (hg:∀ s₀ H₀ ex pn,PG (zi X sc N s₀ H₀ ex pn) tg g) (ht:∀ s₀ H₀ ex pn,PTs (zi X sc N s₀ H₀ ex pn) ifs tt)
  (hb:∀ D s₀ H₀ ex pn,∃ act,PB (zi X sc N s₀ H₀ ex pn) act (tb D)/\∀ it,compTurn (.ListComp elt (⟨tg,iter,ifs,0⟩ :: rest) sc pos) 0 it (.ref D) (zi X sc N s₀ H₀ ex pn).env=(do
   standAt iter.pos
   match <- pyNext it with
   | none=>pure (.done .next)
   | some v =>
    letOwnedTupleGo tg it v
    assign tg (zi X sc N s₀ H₀ ex pn).env v
    let mut ok:=true
    for c in ifs do
     if ok then ok <- isTrue c (zi X sc N s₀ H₀ ex pn).env (eval c (zi X sc N s₀ H₀ ex pn).env)
    if ok then
     act
    again (.compLoop (.ListComp elt (⟨tg,iter,ifs,0⟩ :: rest) sc pos) 0 it (.ref D) (zi X sc N s₀ H₀ ex pn).env)))
  (hN:X.N=NO) (hsc:X.env.scope=scO) (hs:∀ x,foldedSetIterable iter X.env x=pure x) :
  PE X (.ListComp elt (⟨tg,iter,ifs,0⟩ :: rest) sc pos) (jC wi own fr g tt tb):=by
 intro pins s σ H Q I h;rw [eval_ListComp];refine wpAny_comprehension_free (use:=none) rfl hs (aen S hsc I.ok) S.kind (fun p hp hl=>yp S.snd (k:=.local) (by rw [<-hl];exact hp)) (thn (hi pins s σ H _ I h) fun v s1 h1=>thn h1 fun itv s2 h2=>?_);obtain⟨it,fp,tn,J,H2,e,I2,T,st2,f2,q⟩:=h2;subst e;refine afn (RR:=fun acc C=>compPost (model X.prog X.w) X.A X.xe none (EP X pins σ Q) acc C) S hN hsc hc hg ht hb I2 T st2 f2 q ?_;rintro D C s' H' ⟨m,hm⟩ c0 c1 c2 c3 c4 J' q';exact⟨m,hm,fun h' hs'=>⟨.ref D,H',J'.touch hs' c2 c0 c1 c3 c4,rfl,q'⟩⟩
theorem acN (S:CompScope NO scO N sc own fr) (hc:X.calm=true) (hNd:X.N.Nodup) (hiN:X.N[i]?=some y) (hy:Loc X.env.scope y) (hi:PI X tg iter wi) (hg:∀ s₀ H₀ ex pn,PG (zi X sc N s₀ H₀ ex pn) tg g) (ht:∀ s₀ H₀ ex pn,PTs (zi X sc N s₀ H₀ ex pn) ifs tt)
  (hb:∀ D s₀ H₀ ex pn,∃ act,PB (zi X sc N s₀ H₀ ex pn) act (tb D)/\∀ it,compTurn (.ListComp elt (⟨tg,iter,ifs,0⟩ :: rest) sc pos) 0 it (.ref D) (zi X sc N s₀ H₀ ex pn).env=(do
   standAt iter.pos
   match <- pyNext it with
   | none=>pure (.done .next)
   | some v =>
    letOwnedTupleGo tg it v
    assign tg (zi X sc N s₀ H₀ ex pn).env v
    let mut ok:=true
    for c in ifs do
     if ok then ok <- isTrue c (zi X sc N s₀ H₀ ex pn).env (eval c (zi X sc N s₀ H₀ ex pn).env)
    if ok then
     act
    again (.compLoop (.ListComp elt (⟨tg,iter,ifs,0⟩ :: rest) sc pos) 0 it (.ref D) (zi X sc N s₀ H₀ ex pn).env)))
  (hN:X.N=NO) (hsc:X.env.scope=scO) (hs:∀ x,foldedSetIterable iter X.env x=pure x) (hf:X.fn y=true \/ X.env.scope.names.lookup y=some .local)
  (hsw:swapsWith (.ListComp elt (⟨tg,iter,ifs,0⟩ :: rest) sc pos) (some (.Name y py)) spos.line X.env=pure true) :
  PS X (.Assign [.Name y py] (.ListComp elt (⟨tg,iter,ifs,0⟩ :: rest) sc pos) spos) (qA (jC wi own fr g tt tb) (yX i)):=by
 intro pins s σ H D I h;rw [exec_Assign_Name_used _ _ _ _ hsw];refine wpAny_bind (wpAny_standAt (wpAny_bind ?_));show wpAny _ X.A (do let _ <- comprehension (.ListComp elt (⟨tg,iter,ifs,0⟩ :: rest) sc pos) sc X.env _ (newList []) false (eval iter X.env) (some (assign (.Name y py) X.env))) _ _ s;refine wpAny_bind (wpAny_mono (wpAny_comprehension_free (use:=some (assign (.Name y py) X.env)) (Q:=fun _ s'=>SP X pins D .next s') rfl hs (aen S hsc I.ok) S.kind (fun p hp hl=>yp S.snd (k:=.local) (by rw [<-hl];exact hp))
  (thn (hi pins s σ H _ I h) fun v s1 h1=>thn h1 fun itv s2 h2=>?_)) (fun _ s' hq=>wpAny_pure (wpAny_pure hq)) fun _ _ e=>e)
 obtain⟨it,fp,tn,J,H2,e,I2,T,st2,f2,q⟩:=h2;subst e;refine afn (Q:=fun x H1=>yX i x σ H1 D.nx) (RR:=fun acc C=>compPost (model X.prog X.w) X.A X.xe (some (assign (.Name y py) X.env)) (fun _ s'=>SP X pins D .next s') acc C) S hN hsc hc hg ht hb I2 T st2 f2 q ?_;rintro A' C s' H' ⟨m,hm⟩ c0 c1 c2 c3 c4 J' q';show wpAny _ X.A (assign (.Name y py) X.env (.ref A')) _ _ _;refine wpAny_assign_Name (adB (v:=.ref A') J' hNd hiN hy rfl (fun s2' I2' hsb=>?_) hf);obtain⟨a,hs2,ha⟩:=hsb;have hCa:C≠a:=by
  rcases ha with ha | ha
  ·rw [ha];exact c0
  ·exact arU (c1 _ _ ha)
 exact⟨m,hm.sameBut hs2 hCa,fun h' hs'=>⟨_,H',I2'.touch hs' c2 c0 c1 c3 c4,q'⟩⟩
end
end
section
variable {X:Cx} {tg elt iter tg2 iter2:Expr} {ifs ifs2:List Expr} {sc scO:Scope} {NO N:List Str} {own:Nat} {fr:List Nat} {wi wi2:TI} {g g2:TG} {tt tt2:TT} {te:TE} {pos py spos:Pos} {y:Str} {i:Nat}
theorem zX (S:CompScope NO scO N sc own fr) (hc:X.calm=true) (hi:PI X tg iter wi) (hg:∀ s₀ H₀ ex pn,PG (zi X sc N s₀ H₀ ex pn) tg g) (ht:∀ s₀ H₀ ex pn,PTs (zi X sc N s₀ H₀ ex pn) ifs tt) (he:∀ s₀ H₀ ex pn,PE (zi X sc N s₀ H₀ ex pn) elt te)
  (hN:X.N=NO) (hsc:X.env.scope=scO) (hs:∀ x,foldedSetIterable iter X.env x=pure x):PE X (.ListComp elt [⟨tg,iter,ifs,0⟩] sc pos) (jC wi own fr g tt fun D=>vb D te) :=
 ahB S hc hi hg ht (fun D s₀ H₀ ex pn=>⟨_,aem (D:=D) (he s₀ H₀ ex pn),fun _=>rfl⟩) hN hsc hs
theorem yz (S:CompScope NO scO N sc own fr) (hc:X.calm=true) (hNd:X.N.Nodup) (hiN:X.N[i]?=some y) (hy:Loc X.env.scope y) (hi:PI X tg iter wi) (hg:∀ s₀ H₀ ex pn,PG (zi X sc N s₀ H₀ ex pn) tg g) (ht:∀ s₀ H₀ ex pn,PTs (zi X sc N s₀ H₀ ex pn) ifs tt) (he:∀ s₀ H₀ ex pn,PE (zi X sc N s₀ H₀ ex pn) elt te)
  (hN:X.N=NO) (hsc:X.env.scope=scO) (hs:∀ x,foldedSetIterable iter X.env x=pure x) (hf:X.fn y=true \/ X.env.scope.names.lookup y=some .local)
  (hsw:swapsWith (.ListComp elt [⟨tg,iter,ifs,0⟩] sc pos) (some (.Name y py)) spos.line X.env=pure true) :
  PS X (.Assign [.Name y py] (.ListComp elt [⟨tg,iter,ifs,0⟩] sc pos) spos) (qA (jC wi own fr g tt fun D=>vb D te) (yX i)) :=
 acN S hc hNd hiN hy hi hg ht (fun D s₀ H₀ ex pn=>⟨_,aem (D:=D) (he s₀ H₀ ex pn),fun _=>rfl⟩) hN hsc hs hf hsw
end
theorem afo {elt tg iter tg2 iter2:Expr} {ifs ifs2:List Expr} {sc:Scope} {pos:Pos} {it acc:Value} {env:Env} :
  compTurn (.ListComp elt [⟨tg,iter,ifs,0⟩,⟨tg2,iter2,ifs2,0⟩] sc pos) 0 it acc env=(do
   standAt iter.pos
   match <- pyNext it with
   | none=>pure (.done .next)
   | some v =>
    letOwnedTupleGo tg it v
    assign tg env v
    let mut ok:=true
    for c in ifs do
     if ok then ok <- isTrue c env (eval c env)
    if ok then
     (do
      let x <- eval iter2 env
      standAt iter2.pos
      let x <- foldedSetIterable iter2 env x
      let _ <- runOwn (.compStart (.ListComp elt [⟨tg,iter,ifs,0⟩,⟨tg2,iter2,ifs2,0⟩] sc pos) 1 (<- holding [x] (pyIter x)) acc env) env)
    again (.compLoop (.ListComp elt [⟨tg,iter,ifs,0⟩,⟨tg2,iter2,ifs2,0⟩] sc pos) 0 it acc env)):=by
 unfold compTurn;simp only [bind_assoc,pure_bind];rfl
section
variable {X:Cx} {tg elt iter tg2 iter2:Expr} {ifs ifs2:List Expr} {sc scO:Scope} {NO N:List Str} {own:Nat} {fr:List Nat} {wi wi2:TI} {g g2:TG} {tt tt2:TT} {te:TE} {pos py spos:Pos} {y:Str} {i:Nat}
theorem afp (S:CompScope NO scO N sc own fr) (hc:X.calm=true) (hi:PI X tg iter wi) (hg:∀ s₀ H₀ ex pn,PG (zi X sc N s₀ H₀ ex pn) tg g) (ht:∀ s₀ H₀ ex pn,PTs (zi X sc N s₀ H₀ ex pn) ifs tt)
  (hi2:∀ s₀ H₀ ex pn,PI (zi X sc N s₀ H₀ ex pn) tg2 iter2 wi2) (hg2:∀ s₀ H₀ ex pn,PG (zi X sc N s₀ H₀ ex pn) tg2 g2) (ht2:∀ s₀ H₀ ex pn,PTs (zi X sc N s₀ H₀ ex pn) ifs2 tt2)
  (he:∀ s₀ H₀ ex pn,PE (zi X sc N s₀ H₀ ex pn) elt te) (hN:X.N=NO) (hsc:X.env.scope=scO) (hs:∀ x,foldedSetIterable iter X.env x=pure x) (hs2:∀ s₀ H₀ ex pn x,foldedSetIterable iter2 (zi X sc N s₀ H₀ ex pn).env x=pure x) :
  PE X (.ListComp elt [⟨tg,iter,ifs,0⟩,⟨tg2,iter2,ifs2,0⟩] sc pos) (jC wi own fr g tt fun D=>tIn wi2 g2 tt2 (vb D te)) :=
 ahB S hc hi hg ht (fun D s₀ H₀ ex pn=>⟨_,anA (D:=D) (fun _ _ z=>z) hc (hi2 s₀ H₀ ex pn) (hg2 s₀ H₀ ex pn) (ht2 s₀ H₀ ex pn) (he s₀ H₀ ex pn) (hs2 s₀ H₀ ex pn),fun it=>afo⟩) hN hsc hs
theorem afq (S:CompScope NO scO N sc own fr) (hc:X.calm=true) (hNd:X.N.Nodup) (hiN:X.N[i]?=some y) (hy:Loc X.env.scope y) (hi:PI X tg iter wi) (hg:∀ s₀ H₀ ex pn,PG (zi X sc N s₀ H₀ ex pn) tg g) (ht:∀ s₀ H₀ ex pn,PTs (zi X sc N s₀ H₀ ex pn) ifs tt)
  (hi2:∀ s₀ H₀ ex pn,PI (zi X sc N s₀ H₀ ex pn) tg2 iter2 wi2) (hg2:∀ s₀ H₀ ex pn,PG (zi X sc N s₀ H₀ ex pn) tg2 g2) (ht2:∀ s₀ H₀ ex pn,PTs (zi X sc N s₀ H₀ ex pn) ifs2 tt2)
  (he:∀ s₀ H₀ ex pn,PE (zi X sc N s₀ H₀ ex pn) elt te) (hN:X.N=NO) (hsc:X.env.scope=scO) (hs:∀ x,foldedSetIterable iter X.env x=pure x) (hs2:∀ s₀ H₀ ex pn x,foldedSetIterable iter2 (zi X sc N s₀ H₀ ex pn).env x=pure x)
  (hf:X.fn y=true \/ X.env.scope.names.lookup y=some .local)
  (hsw:swapsWith (.ListComp elt [⟨tg,iter,ifs,0⟩,⟨tg2,iter2,ifs2,0⟩] sc pos) (some (.Name y py)) spos.line X.env=pure true) :
  PS X (.Assign [.Name y py] (.ListComp elt [⟨tg,iter,ifs,0⟩,⟨tg2,iter2,ifs2,0⟩] sc pos) spos) (qA (jC wi own fr g tt fun D=>tIn wi2 g2 tt2 (vb D te)) (yX i)) :=
 acN S hc hNd hiN hy hi hg ht (fun D s₀ H₀ ex pn=>⟨_,anA (D:=D) (fun _ _ z=>z) hc (hi2 s₀ H₀ ex pn) (hg2 s₀ H₀ ex pn) (ht2 s₀ H₀ ex pn) (he s₀ H₀ ex pn) (hs2 s₀ H₀ ex pn),fun it=>afo⟩) hN hsc hs hf hsw
end
section
variable {X:Cx} {pins:List (Addr×Obj)} {σ:St} {H:Hp} {s:Shared} {h':Heap} {fp:List Addr}
theorem Inv.turnedAll {t':Nat} (I:Inv X pins σ H s) (hf:∀ b∈fp,aaD X pins H b) (k:∀ b o,b∉fp->s.heap.get? b=some o->h'.get? b=some o):Inv X pins σ H { s with heap:=h',toks:=t' }:=by
 refine I.step (g':=s.gens) (d':=s.drawn) (ch:=fp) (fun b hb=>⟨(hf b hb).2.2.2.1,(hf b hb).2.1,(hf b hb).2.2.2.2⟩) (fun b o _ _ hc e _=>k b o hc e) (fun b o _ _ hc e _=>⟨o.slots,k b o hc e⟩) (fun _ _ _ _ n=>n)
  (fun b o hc e=>⟨o,k b o hc e⟩) (fun _ _ e=>e) (fun _ _ _ e=>e) (fun _ _ e=>e) (fun m hm=>?_) (fun b u e=>?_) I.bare
 ·obtain⟨o,es,ep,ho,r⟩:=hm;exact⟨o,es,ep,k _ o (fun z=>(hf _ z).2.1 rfl) ho,r⟩
 ·refine (I.hok b u e).stay (fun c v hc q=>k c v (fun z=>?_) q) (fun _ q=>q) fun _ _ q=>q;have hn:=(hf c z).1;rcases hc with hc | hc
  ·subst hc;rw [e] at hn;cases hn
  ·rw [hc] at hn;cases hn
theorem Inv.turnedNew {t':Nat} {t:Addr} {o:HO} (I:Inv X pins σ H s) (hf:∀ b∈fp,aaD X pins H b) (k:∀ b o,b∉fp->s.heap.get? b=some o->h'.get? b=some o) (ht:s.heap.objs.size<=t) (new:ObjOk X.prog X.w (upd H t o) h' t o) :
  Inv X pins σ (upd H t o) { s with heap:=h',toks:=t' }:=by
 have hn:H t=none:=I.hok.fresh ht;have ne:∀ b ob,s.heap.get? b=some ob->b≠t:=fun b ob e=>aq5 (aq4 (aqI e) ht);refine I.step (g':=s.gens) (d':=s.drawn) (ch:=fp) (fun b hb=>⟨(hf b hb).2.2.2.1,(hf b hb).2.1,(hf b hb).2.2.2.2⟩) (fun b o _ _ hc e _=>k b o hc e) (fun b o _ _ hc e _=>⟨o.slots,k b o hc e⟩) (fun b ob _ e n=>by rw [zx (ne b ob e)];exact n)
  (fun b o hc e=>⟨o,k b o hc e⟩) (fun b xs e=>by rw [zx (zL e hn)];exact e) (fun b ob u e=>by rw [zx (zL e hn)];exact e) (fun b ps e=>by rw [zx (zL e hn)];exact e) (fun m hm=>?_) (fun b u e=>?_) I.bare
 ·obtain⟨o,es,ep,ho,r⟩:=hm;exact⟨o,es,ep,k _ o (fun z=>(hf _ z).2.1 rfl) ho,r⟩
 ·by_cases hb:b=t
  ·subst hb;rw [zB] at e;cases e;exact new
  ·rw [zx hb] at e;refine (I.hok b u e).stay (fun c v hc q=>k c v (fun z=>?_) q) (fun c q=>by rw [zx (zL q hn)];exact q) fun c xs q=>by rw [zx (zL q hn)];exact q
   have hn':=(hf c z).1;rcases hc with hc | hc
   ·subst hc;rw [e] at hn';cases hn'
   ·rw [hc] at hn';cases hn'
end
noncomputable def Ite (K:aqu) (a:Addr):It :=
 ⟨fun i H=>∃ xs x,SqL K H a xs/\xs[i]?=some x,fun i H x H'=>∃ t y,x=.ref t/\H t=none/\H'=upd H t (.tup [.int i,y])/\∀ xs,SqL K H a xs->xs[i]?=some y,fun i H=>∃ xs,SqL K H a xs/\xs.length<=i⟩
theorem aiU {P:Program} {w:World} {K:aqu} {es:List Expr} {k:Nat} {pos:Pos} (a e it:Addr) (hne:e≠it):Turn P w K (.Tuple es k pos) (Ite K a) [e,it] e (fun i h=>(∃ old,IsEnum h e it i old)/\h.IsListIter it a i) where
 mem:=by simp
 obj:=fun i h st b hb=>by
  obtain⟨⟨old,se⟩,o,eo,c,d⟩:=st;rcases aqE.mp hb with z | z
  ·subst z;exact⟨_,se,fun v z=>by
    have z':Data.fields _=Data.cell v:=z;cases z'⟩
  ·have z:b=it:=by simpa using z
   subst z;exact⟨o,eo,fun v z=>by rw [d] at z;cases z⟩
 keep:=fun i h h' st kk=>⟨let⟨old,se⟩:=st.1;⟨old,kk e (by simp) _ se⟩,st.2.at fun o eo=>kk it (by simp) o eo⟩
 item:=by
  intro X hP hw hK hc i pins s σ H E I hf st hg;subst hP hw hK;obtain⟨xs,x,hq,hx⟩:=hg;obtain⟨its,rv,p,hz⟩:=I.list hq;obtain⟨u,hu,ru⟩:=rv.get hx;obtain⟨⟨old,se⟩,si⟩:=st;refine wpAny_pyNext_enum_item se si p.isList (x:=u) (by simpa using hu) hne fun h' so si' tp sz kp=>?_;refine⟨_,rfl,?_⟩;refine wpAny_letOwnedTupleGo_enum (s:={ s with heap:=h',toks:=s.toks+1 }) so fun h2 se2 sb=>?_;have hlt:e<s.heap.objs.size:=aqI se;obtain⟨oi,eoi,_,_⟩:=id si;have hlt2:it<s.heap.objs.size:=aqI eoi;have kk:∀ b o,b∉[e,it]->s.heap.get? b=some o->h2.get? b=some o:=fun b o hb eb=>by
   have h1:b≠e:=fun z=>hb (by simp [z]);have h2':b≠it:=fun z=>hb (by simp [z]);exact (sb.2 b h1).trans (kp b o h1 h2' eb)
  have I2:Inv X pins σ (upd H s.heap.objs.size (.tup [.int i,x])) { s with heap:=h2,toks:=s.toks+1 }:=I.turnedNew hf kk (aqC _)
   ⟨by show 2<=sizeLine;decide,[.int i s.toks,u],.cons ⟨_,rfl⟩ (.cons ru .nil),⟨_,(sb.2 _ (atc hlt)).trans tp,rfl,_,rfl⟩⟩
  refine⟨.ref s.heap.objs.size,_,I2,rfl,⟨_,x,rfl,I.fresh,rfl,fun ys hy=>by rw [I.list_inj hy hq];exact hx⟩,⟨⟨_,se2⟩,?_⟩,fun b hb=>?_⟩
  ·exact si'.at fun o eo=>(sb.2 it (arU hne)).trans eo
  ·rw [zx]
   ·exact (hf b hb).1
   ·rcases aqE.mp hb with z | z
    ·subst z;exact aq5 hlt
    ·have z:b=it:=by simpa using z
     subst z;exact aq5 hlt2
 done:=by
  intro X hP hw hK hc i pins s σ H E I hf st hg;subst hP hw hK;obtain⟨xs,hq,hx⟩:=hg;obtain⟨its,rv,p,hz⟩:=I.list hq;obtain⟨⟨old,se⟩,si⟩:=st;have hl:=rv.length;exact wpAny_pyNext_enum_end (I.ok.hd hc) se si p.isList (by simp;omega) fun h' eb=>⟨rfl,I.turnedAll (t':=s.toks) hf fun b o hb e'=>eb b o (fun z=>hb (by simp [z])) e'⟩
 self:=fun _ _ _ _ _ st h=>let⟨_,se⟩:=st.1;wpAny_pyIter_enum se h
section
variable {X:Cx} {es:List Expr} {k:Nat} {tpos:Pos}
def ahD (K:aqu) (ta:TA):TI:=fun σ H R=>ta σ H fun vs H1=>∃ a,vs=[.ref a]/\(∃ xs,SqL K H1 a xs)/\R (Ite K a) H1
theorem ama {a:Expr} {ta:TA} {p pos:Pos} (hg:Gl X "enumerate") (hm:X.mg "enumerate"=none) (ha:PA X [a] ta) (hs:starEach [a] X.env=[(false,eval a X.env)]:=by rfl):PI X (.Tuple es k tpos) (.Call (.Name "enumerate" p) [a] [] pos) (ahD X.K ta):=by
 intro pins s σ H R I h;refine Call_ (aaO I hg hm boot_enumerate (asN (thn (ha pos pins s σ H _ I h) fun us s1 ⟨vs,H1,I1,r1,q1⟩=>?_) hs rfl));obtain⟨l,e,⟨xs,hq⟩,q⟩:=q1;subst e;cases r1 with
 | cons r rr =>
  cases rr;cases r;obtain⟨its,rv,p,hz⟩:=I1.list hq;refine call_enumerate_list p.isList fun h' he hi hsz kp=>?_;refine wpAny_pyIter_enum he ?_;have hne:s1.heap.objs.size+1≠s1.heap.objs.size:=Nat.succ_ne_self _;refine⟨s1.heap.objs.size+1,[s1.heap.objs.size+1,s1.heap.objs.size],_,_,H1,rfl,I1.kept (t':=s1.toks) kp,aiU l _ _ hne,⟨⟨_,he⟩,hi⟩,fun b hb=>?_,q⟩;rcases aqE.mp hb with z | z
  ·subst z;exact I1.fpOk (auq _) (I1.hok.fresh (auq _))
  ·have z:b=s1.heap.objs.size:=by simpa using z
   subst z;exact I1.fpOk (aqC _) (I1.hok.fresh (aqC _))
end
theorem ajZ {K:aqu} {a:Addr} {xs:List V} {g:TG} {tb:TS} {D:Ends} {σ:St} {H:Hp} (Pv:Nat->St->Hp->Prop) (h0:Pv 0 σ H) (hl:∀ i σ H,i<=xs.length->Pv i σ H->SqL K H a xs)
  (hs:∀ i x σ H t,xs[i]?=some x->Pv i σ H->H t=none->g (.ref t) σ (upd H t (.tup [.int i,x])) fun σ2 H2=>tb { D with nx:=Pv (i+1),ct:=Pv (i+1),bk:=D.nx } σ2 H2) (hd:∀ σ H,Pv xs.length σ H->D.nx σ H) :
  ∃ W:Nat->Nat->St->Hp->Prop,(∃ m,W 0 m σ H)/\∀ i m σ H,W i m σ H ->
   ((Ite K a).stop i H/\D.nx σ H) \/ ((Ite K a).go i H/\∃ N:St->Hp->Prop,(∀ σ' H',N σ' H'->∃ m',m'<m/\W (i+1) m' σ' H')/\∀ x H',(Ite K a).yld i H x H'->g x σ H' fun σ2 H2=>tb { D with nx:=N,ct:=N,bk:=D.nx } σ2 H2):=by
 refine⟨fun i m σ H=>Pv i σ H/\i<=xs.length/\m+i=xs.length,⟨xs.length,h0,aq2 _,rfl⟩,fun i m σ H ⟨p,hi,hm⟩=>?_⟩;have q:=hl i σ H hi p;by_cases hlt:i<xs.length
 ·refine .inr ⟨⟨xs,xs[i],q,aqq hlt⟩,Pv (i+1),fun σ' H' n=>⟨m - 1,by omega,n,hlt,by omega⟩,fun x H' hy=>?_⟩;obtain⟨t,y,rfl,ht,rfl,hy⟩:=hy;exact hs i y σ H t (hy xs q) p ht
 ·have e:i=xs.length:=by omega
  subst e;exact .inl ⟨⟨xs,q,aqC _⟩,hd σ H p⟩
mutual
def Rep (K:aqu) (H:Hp):PyData->V->Prop
 | .none,v=>v=.non
 | .bool b,v=>v=.bl b
 | .int i,v=>v=.int i
 | .str x,v=>v=.str x
 | .list ds,v=>∃ a xs,v=.ref a/\SqL K H a xs/\Reps K H ds xs
 | .tuple ds,v=>∃ a xs,v=.ref a/\SqT K H a xs/\Reps K H ds xs
 | .dict _,_=>False
def Reps (K:aqu) (H:Hp):List PyData->List V->Prop
 | [],xs=>xs=[]
 | d :: ds,xs=>∃ x r,xs=x :: r/\Rep K H d x/\Reps K H ds r
end
theorem Same.seqT {K:aqu} {H H':Hp} {a:Addr} {xs:List V} (e:Same H H') (h:SqT K H a xs):SqT K H' a xs:=by
 rcases h with (h | ⟨o,h⟩) | h
 ·exact .inl (.inl (e _ _ h))
 ·exact .inl (.inr ⟨o,e _ _ h⟩)
 ·exact .inr h
mutual
theorem Rep.mono {K:aqu} {H H':Hp} (e:Same H H'):∀ (d:PyData) (v:V),Rep K H d v->Rep K H' d v
 | .none,_,h=>by rw [Rep] at h ⊢;exact h
 | .bool _,_,h=>by rw [Rep] at h ⊢;exact h
 | .int _,_,h=>by rw [Rep] at h ⊢;exact h
 | .str _,_,h=>by rw [Rep] at h ⊢;exact h
 | .list ds,v,h=>by
  rw [Rep] at h ⊢;obtain⟨a,xs,h1,h2,h3⟩:=h;exact⟨a,xs,h1,e.seq h2,Reps.mono e ds xs h3⟩
 | .tuple ds,v,h=>by
  rw [Rep] at h ⊢;obtain⟨a,xs,h1,h2,h3⟩:=h;exact⟨a,xs,h1,e.seqT h2,Reps.mono e ds xs h3⟩
 | .dict _,_,h=>by rw [Rep] at h;exact h.elim
theorem Reps.mono {K:aqu} {H H':Hp} (e:Same H H'):∀ (ds:List PyData) (xs:List V),Reps K H ds xs->Reps K H' ds xs
 | [],_,h=>by rw [Reps] at h ⊢;exact h
 | d :: ds,xs,h=>by
  rw [Reps] at h ⊢;obtain⟨x,r,h1,h2,h3⟩:=h;exact⟨x,r,h1,Rep.mono e d x h2,Reps.mono e ds r h3⟩
end
theorem rep_int {K:aqu} {H:Hp} {i:Int} {v:V}:Rep K H (.int i) v↔v=.int i:=by rw [Rep]
theorem rep_bool {K:aqu} {H:Hp} {b:Bool} {v:V}:Rep K H (.bool b) v↔v=.bl b:=by rw [Rep]
theorem rep_none {K:aqu} {H:Hp} {v:V}:Rep K H .none v↔v=.non:=by rw [Rep]
theorem rep_str {K:aqu} {H:Hp} {x:Str} {v:V}:Rep K H (.str x) v↔v=.str x:=by rw [Rep]
theorem rep_list {K:aqu} {H:Hp} {ds:List PyData} {v:V}:Rep K H (.list ds) v↔∃ a xs,v=.ref a/\SqL K H a xs/\Reps K H ds xs:=by rw [Rep]
theorem rep_tuple {K:aqu} {H:Hp} {ds:List PyData} {v:V}:Rep K H (.tuple ds) v↔∃ a xs,v=.ref a/\SqT K H a xs/\Reps K H ds xs:=by rw [Rep]
theorem reps_nil {K:aqu} {H:Hp} {xs:List V}:Reps K H [] xs↔xs=[]:=by rw [Reps]
theorem reps_cons {K:aqu} {H:Hp} {d:PyData} {ds:List PyData} {xs:List V}:Reps K H (d :: ds) xs↔∃ x r,xs=x :: r/\Rep K H d x/\Reps K H ds r:=by rw [Reps]
theorem Reps.nil' {K:aqu} {H:Hp}:Reps K H [] []:=reps_nil.mpr rfl
theorem Reps.cons' {K:aqu} {H:Hp} {d:PyData} {ds:List PyData} {x:V} {r:List V} (h:Rep K H d x) (t:Reps K H ds r):Reps K H (d :: ds) (x :: r):=reps_cons.mpr ⟨x,r,rfl,h,t⟩
theorem Reps.length {K:aqu} {H:Hp}:∀ {ds:List PyData} {xs:List V},Reps K H ds xs->xs.length=ds.length
 | [],xs,h=>by rw [reps_nil.mp h];rfl
 | d :: ds,xs,h=>by
  obtain⟨x,r,rfl,_,h3⟩:=reps_cons.mp h;rw [aqT,aqT,Reps.length h3]
theorem Reps.get {K:aqu} {H:Hp}:∀ {ds:List PyData} {xs:List V} {i:Nat} {d:PyData},Reps K H ds xs->ds[i]?=some d->∃ x,xs[i]?=some x/\Rep K H d x
 | [],_,_,_,_,e=>by simp at e
 | d :: ds,xs,0,d',h,e=>by
  obtain⟨x,r,rfl,h2,_⟩:=reps_cons.mp h;simp at e;subst e;exact⟨x,rfl,h2⟩
 | d :: ds,xs,i+1,d',h,e=>by
  obtain⟨x,r,rfl,_,h3⟩:=reps_cons.mp h;obtain⟨y,h1,h2⟩:=Reps.get (i:=i) h3 (by simpa using e);exact⟨y,by simpa using h1,h2⟩
theorem Reps.snoc {K:aqu} {H:Hp} {d:PyData} {x:V} (h:Rep K H d x):∀ {ds:List PyData} {xs:List V},Reps K H ds xs->Reps K H (ds++[d]) (xs++[x])
 | [],xs,t=>by rw [reps_nil.mp t];exact .cons' h .nil'
 | d' :: ds,xs,t=>by
  obtain⟨y,r,rfl,h2,h3⟩:=reps_cons.mp t;exact .cons' h2 (Reps.snoc h h3)
theorem Reps.append {K:aqu} {H:Hp}:∀ {ds es:List PyData} {xs ys:List V},Reps K H ds xs->Reps K H es ys->Reps K H (ds++es) (xs++ys)
 | [],es,xs,ys,t,u=>by rw [reps_nil.mp t];exact u
 | d' :: ds,es,xs,ys,t,u=>by
  obtain⟨y,r,rfl,h2,h3⟩:=reps_cons.mp t;exact .cons' h2 (Reps.append h3 u)
theorem Reps.ints {K:aqu} {H:Hp}:∀ {ns:List Int} {xs:List V},Reps K H (ns.map .int) xs->xs=ns.map V.int
 | [],xs,h=>reps_nil.mp h
 | n :: ns,xs,h=>by
  obtain⟨x,r,rfl,h2,h3⟩:=reps_cons.mp h;rw [rep_int.mp h2,Reps.ints h3];rfl
theorem Reps.ints' {K:aqu} {H:Hp}:∀ (ns:List Int),Reps K H (ns.map .int) (ns.map V.int)
 | []=>.nil'
 | n :: ns=>.cons' (rep_int.mpr rfl) (Reps.ints' ns)
section
variable {X:Cx} {pins:List (Addr×Obj)} {σ:St} {H:Hp} {s:Shared}
mutual
theorem yZ (I:Inv X pins σ H s):∀ (d:PyData) (v:V) (u:Value),Rep X.K H d v->RelV v u->∃ as,Reads s.heap u d as
 | .none,v,u,h,r=>by rw [rep_none.mp h] at r;cases r;exact⟨_,.none⟩
 | .bool b,v,u,h,r=>by rw [rep_bool.mp h] at r;cases r;exact⟨_,.bool b⟩
 | .int i,v,u,h,r=>by rw [rep_int.mp h] at r;obtain⟨t,rfl⟩:=r;exact⟨_,.int i t⟩
 | .str x,v,u,h,r=>by rw [rep_str.mp h] at r;obtain⟨t,rfl⟩:=r;exact⟨_,.str x t⟩
 | .list ds,v,u,h,r=>by
  obtain⟨a,xs,rfl,h2,h3⟩:=rep_list.mp h;cases r;obtain⟨its,rv,p,_⟩:=I.list h2;obtain⟨o,ho,hc,n,hd⟩:=p.isList;obtain⟨as,ra⟩:=jD I ds xs its h3 rv;exact⟨_,.list ho hc hd (by simpa using ra)⟩
 | .tuple ds,v,u,h,r=>by
  obtain⟨a,xs,rfl,h2,h3⟩:=rep_tuple.mp h;cases r;obtain⟨its,rv,p,_⟩:=I.tuple h2;obtain⟨o,ho,hc,n,hd⟩:=p;obtain⟨as,ra⟩:=jD I ds xs its h3 rv;exact⟨_,.tuple ho hc hd (by simpa using ra)⟩
 | .dict _,_,_,h,_=>by rw [Rep] at h;exact h.elim
theorem jD (I:Inv X pins σ H s):∀ (ds:List PyData) (xs:List V) (us:List Value),Reps X.K H ds xs->Vals xs us->∃ as,ReadsAll s.heap us ds as
 | [],xs,us,h,r=>by rw [reps_nil.mp h] at r;cases r;exact⟨_,.nil⟩
 | d :: ds,xs,us,h,r=>by
  obtain⟨x,q,rfl,h2,h3⟩:=reps_cons.mp h;cases r with
  | cons r1 r2 =>
   obtain⟨as,ra⟩:=yZ I d x _ h2 r1;obtain⟨bs,rb⟩:=jD I ds q _ h3 r2;exact⟨_,.cons ra rb⟩
end
def aj0 (K:aqu) (neg:Bool):R2:=fun x y H Q=>∃ d d',Rep K H d x/\Rep K H d' y/\d.canLay0=true/\d'.canLay0=true/\min d.depth d'.depth<=60/\Q (.bl (if neg then !aqX d d' else aqX d d')) H
theorem aou (hu:X.A.units+64<cLine):OpR X (compareOp .Eq) (aj0 X.K false):=by
 intro pins s σ H x y v u Q I rx ry h;obtain⟨d,d',h1,h2,c1,c2,hm,q⟩:=h;obtain⟨as,ra⟩:=yZ I d x v h1 rx;obtain⟨bs,rb⟩:=yZ I d' y u h2 ry;exact SeqAt.compareEq_reads ra rb c1 c2 (by omega) ⟨.bl (aqX d d'),H,I,rfl,q⟩
theorem aov (hu:X.A.units+64<cLine):OpR X (compareOp .NotEq) (aj0 X.K true):=by
 intro pins s σ H x y v u Q I rx ry h;obtain⟨d,d',h1,h2,c1,c2,hm,q⟩:=h;obtain⟨as,ra⟩:=yZ I d x v h1 rx;obtain⟨bs,rb⟩:=yZ I d' y u h2 ry;exact SeqAt.compareNe_reads ra rb c1 c2 (by omega) ⟨.bl (!aqX d d'),H,I,rfl,q⟩
theorem aiV (hc:X.calm=true):yC X (.builtin "min") (fun xs H Q=>∃ a ns,xs=[.ref a]/\SqL X.K H a (ns.map V.int)/\ns≠[]/\∀ M,M∈ns->(∀ b∈ns,M<=b)->Q (.int M) H):=by
 intro pins s σ H xs us Q I r h;obtain⟨a,ns,rfl,hq,hne,q⟩:=h;obtain⟨u,rfl,r1⟩:=vals1 r;cases r1;obtain⟨its,rv,p,_⟩:=I.list hq;obtain⟨m,F⟩:=I.fr;have hi:=intsAre_of rv;obtain⟨ys,e⟩:=hi.allInts.items;have hns:ns=ys.toList.map (·.1):=by rw [<-hi.numsOf,<- nums_intItems,<- e]
 have hsz:0<ys.size:=by
  have h3:0<ns.length:=auz.mpr hne;rw [hns,aqr,aqN] at h3;exact h3
 have hl:=p.isList;rw [e] at hl;refine min_intList (I.ok.hd hc) hl hsz fun v h' tk hv hk=>?_;obtain⟨t,rfl⟩:=intItems_at hv;obtain⟨_,h2⟩:=argBest_lt (numAt ys) (ys.size - 1);refine⟨.int _,H,I.kept (t':=tk) hk,⟨t,rfl⟩,q _ ?_ fun b hb=>?_⟩
 ·rw [hns,numAt_eq];exact getD_mem (by rw [aqr,aqN];omega)
 ·rw [hns] at hb;obtain⟨j,hj,rfl⟩:=mem_getD hb;rw [aqr,aqN] at hj;rw [<-numAt_eq];exact h2 j (by omega)
theorem aiW (hc:X.calm=true):yC X (.builtin "max") (fun xs H Q=>∃ a ns,xs=[.ref a]/\SqL X.K H a (ns.map V.int)/\ns≠[]/\∀ M,M∈ns->(∀ b∈ns,b<=M)->Q (.int M) H):=by
 intro pins s σ H xs us Q I r h;obtain⟨a,ns,rfl,hq,hne,q⟩:=h;obtain⟨u,rfl,r1⟩:=vals1 r;cases r1;obtain⟨its,rv,p,_⟩:=I.list hq;have hi:=intsAre_of rv;obtain⟨ys,e⟩:=hi.allInts.items;have hns:ns=ys.toList.map (·.1):=by rw [<-hi.numsOf,<- nums_intItems,<- e]
 have hsz:0<ys.size:=by
  have h3:0<ns.length:=auz.mpr hne;rw [hns,aqr,aqN] at h3;exact h3
 have hl:=p.isList;rw [e] at hl;refine max_intList (I.ok.hd hc) hl hsz fun v h' tk hv hk=>?_;obtain⟨t,rfl⟩:=intItems_at hv;obtain⟨_,h2⟩:=argBest_gt (numAt ys) (ys.size - 1);refine⟨.int _,H,I.kept (t':=tk) hk,⟨t,rfl⟩,q _ ?_ fun b hb=>?_⟩
 ·rw [hns,numAt_eq];exact getD_mem (by rw [aqr,aqN];omega)
 ·rw [hns] at hb;obtain⟨j,hj,rfl⟩:=mem_getD hb;rw [aqr,aqN] at hj;rw [<-numAt_eq];exact h2 j (by omega)
end
inductive DV where
 | dat (d:PyData)
 | feed
 | own (k:Nat)
 | exc (C:Value)
 | mon (φ:Hp->V->Prop)
abbrev zr:=List (Option DV)
structure Fx where
 f:Option Addr
 M:List Addr
noncomputable def hide (H:Hp) (f:Fx):Hp:=fun b=>if f.f=some b \/ b∈f.M then none else H b
structure FOk (f:Fx) (H:Hp):Prop where
 fd:∀ p,f.f=some p->∃ a b:Int,H p=some (.lst [.int a,.int b])/\0<=a/\0<=b/\b<2147483647
 mm:∀ b∈f.M,∃ o,H b=some o
 nm:∀ p,f.f=some p->p∉f.M
def RepV (K:aqu) (f:Fx) (H:Hp):DV->V->Prop
 | .dat d,v=>Rep K (hide H f) d v
 | .feed,v=>∃ p,f.f=some p/\v=.ref p
 | .own k,v=>∃ p,f.M.reverse[k]?=some p/\v=.ref p
 | .exc C,v=>∃ a,v=.ref a/\hide H f a=some (.ext fun h=>∃ o,h.get? a=some o/\o.cls=C)
 | .mon φ,v=>∀ H',Same (hide H f) H'->φ H' v
structure Goes (f:Fx) (H H':Hp):Prop where
 sm:Same (hide H f) (hide H' f)
 ok:FOk f H'
 kp:∀ b∈f.M,H' b=H b
structure EnvOk (K:aqu) (f:Fx) (ρ:zr) (σ:St) (H:Hp):Prop where
 len:ρ.length=σ.length
 get:∀ (i:Nat) x,ρ[i]?=some (some x)->∃ v,σ[i]?=some (some v)/\RepV K f H x v
 fd:FOk f H
theorem y8 (H:Hp):hide H ⟨none,[]⟩=H:=by funext b;unfold hide;rw [if_neg (by rintro (h | h) <;> cases h)]
theorem zm (H:Hp) (f:Fx):Same (hide H f) H:=fun b o h=>by
 unfold hide at h;split at h
 ·cases h
 ·exact h
theorem zY {H:Hp} {f:Fx} {b:Addr} {o:HO} (h:hide H f b=some o):¬ (f.f=some b \/ b∈f.M)/\H b=some o:=by
 unfold hide at h;split at h
 ·cases h
 ·rename_i n;exact⟨n,h⟩
theorem zJ {H:Hp} {f:Fx} {b:Addr} {o:HO} (n:¬ (f.f=some b \/ b∈f.M)) (h:H b=some o):hide H f b=some o:=by unfold hide;rw [if_neg n];exact h
theorem Goes.refl {f:Fx} {H:Hp} (h:FOk f H):Goes f H H:=⟨Same.refl _,h,fun _ _=>rfl⟩
theorem Goes.trans {f:Fx} {H H1 H2:Hp} (a:Goes f H H1) (b:Goes f H1 H2):Goes f H H2:=⟨a.1.trans b.1,b.2,fun x hx=>(b.kp x hx).trans (a.kp x hx)⟩
theorem Goes.of_same {f:Fx} {H H':Hp} (s:Same H H') (h:FOk f H):Goes f H H' :=
 ⟨fun b o e=>zJ (zY e).1 (s b o (zY e).2),⟨fun p e=>let⟨a,b,h1,h2⟩:=h.fd p e;⟨a,b,s _ _ h1,h2⟩,fun b hb=>let⟨o,e⟩:=h.mm b hb;⟨o,s _ _ e⟩,h.nm⟩,fun b hb=>let⟨o,e⟩:=h.mm b hb;(s _ _ e).trans e.symm⟩
theorem yj {H:Hp} {p:Addr} (h:H p=none) (o:HO):Same H (upd H p o):=fun b u q=>by rw [zx (zL q h)];exact q
theorem RepV.mono {K:aqu} {f:Fx} {H H':Hp} (g:Goes f H H'):∀ {x:DV} {v:V},RepV K f H x v->RepV K f H' x v
 | .dat d,v,h=>Rep.mono g.1 d v h
 | .feed,v,h=>h
 | .own _,v,h=>h
 | .exc _,v,h=>let⟨a,e,q⟩:=h;⟨a,e,g.1 _ _ q⟩
 | .mon _,v,h=>fun H' s=>h H' (g.1.trans s)
theorem EnvOk.mono {K:aqu} {f:Fx} {ρ:zr} {σ:St} {H H':Hp} (e:EnvOk K f ρ σ H) (g:Goes f H H'):EnvOk K f ρ σ H' :=
 ⟨e.len,fun i x h=>let⟨v,h1,h2⟩:=e.get i x h;⟨v,h1,h2.mono g⟩,g.2⟩
theorem EnvOk.set {K:aqu} {f:Fx} {ρ:zr} {σ:St} {H:Hp} {x:DV} {v:V} (e:EnvOk K f ρ σ H) (i:Nat) (r:RepV K f H x v):EnvOk K f (ρ.set i (some x)) (σ.set i (some v)) H:=by
 refine⟨by rw [ata,ata];exact e.len,fun j y h=>?_,e.fd⟩;by_cases hj:i=j
 ·subst hj;by_cases hi:i<ρ.length
  ·rw [ar3 hi] at h;cases h;exact⟨v,by rw [ar3 (by rw [<-e.len];exact hi)],r⟩
  ·rw [aqZ (by rw [ata];omega)] at h;cases h
 ·rw [asO hj] at h ⊢;exact e.get j y h
theorem fresh_ne {f:Fx} {H:Hp} {p:Addr} (h:FOk f H) (n:H p=none):¬ (f.f=some p \/ p∈f.M):=fun e=>by
 rcases e with e | e
 ·obtain⟨a,b,h1,_⟩:=h.fd p e;rw [n] at h1;cases h1
 ·obtain⟨o,h1⟩:=h.mm p e;rw [n] at h1;cases h1
inductive RepVs (K:aqu) (f:Fx) (H:Hp):List DV->List V->Prop where
 | nil:RepVs K f H [] []
 | cons {x v xs vs}:RepV K f H x v->RepVs K f H xs vs->RepVs K f H (x :: xs) (v :: vs)
theorem RepVs.mono {K:aqu} {f:Fx} {H H':Hp} (g:Goes f H H'):∀ {xs:List DV} {vs:List V},RepVs K f H xs vs->RepVs K f H' xs vs
 | _,_,.nil=>.nil
 | _,_,.cons r t=>.cons (r.mono g) (t.mono g)
theorem RepVs.length {K:aqu} {f:Fx} {H:Hp}:∀ {xs:List DV} {vs:List V},RepVs K f H xs vs->vs.length=xs.length
 | _,_,.nil=>rfl
 | _,_,.cons _ t=>by rw [aqT,aqT,t.length]
section
variable (K:aqu) (f:Fx)
def PEd (te:TE) (ρ:zr) (P:PyData->Prop):Prop:=∀ (σ:St) (H:Hp) (Q:VK),EnvOk K f ρ σ H->(∀ d v H',Goes f H H'->Rep K (hide H' f) d v->P d->Q v H')->te σ H Q
def PTd (tt:TT) (ρ:zr) (P:Bool->Prop):Prop:=∀ (σ:St) (H:Hp) (Q:Bool->Hp->Prop),EnvOk K f ρ σ H->(∀ b H',Goes f H H'->P b->Q b H')->tt σ H Q
def PAd (ta:TA) (ρ:zr) (P:List DV->Prop):Prop:=∀ (σ:St) (H:Hp) (Q:List V->Hp->Prop),EnvOk K f ρ σ H->(∀ xs vs H',Goes f H H'->RepVs K f H' xs vs->P xs->Q vs H')->ta σ H Q
structure DEnds where
 nx:zr->Prop
 rt:PyData->Prop
 bk:zr->Prop:=fun _=>False
 ct:zr->Prop:=fun _=>False
def PSd (ts:TS) (ρ:zr) (D:DEnds):Prop:=∀ (σ:St) (H:Hp) (E:Ends),EnvOk K f ρ σ H->(∀ ρ' σ' H',Goes f H H'->EnvOk K f ρ' σ' H'->D.nx ρ'->E.nx σ' H')->(∀ d v H',Goes f H H'->Rep K (hide H' f) d v->D.rt d->E.rt v H') ->
 (∀ ρ' σ' H',Goes f H H'->EnvOk K f ρ' σ' H'->D.bk ρ'->E.bk σ' H')->(∀ ρ' σ' H',Goes f H H'->EnvOk K f ρ' σ' H'->D.ct ρ'->E.ct σ' H')->ts E σ H
def spD {γ:Type} (n:Nat) (pre:γ->List DV->Prop) (post:γ->PyData->Prop):Sp:=fun vs H Q _=>∃ f xs c,RepVs K f H xs vs/\xs.length=n/\FOk f H/\pre c xs/\∀ r v H',Goes f H H'->Rep K (hide H' f) r v->post c r->Q v H'
end
section
variable {K:aqu} {f:Fx} {ρ:zr} {P:PyData->Prop} {te ta tb tc:TE}
theorem zk {i:Nat} {d:PyData} (h:ρ[i]?=some (some (.dat d))) (p:P d):PEd K f (zR i) ρ P:=fun σ H Q e q=>by
 obtain⟨v,h1,h2⟩:=e.get i _ h;exact⟨v,h1,q d v H (.refl e.fd) h2 p⟩
theorem yb {i:Int} (p:P (.int i)):PEd K f (tC (.int i)) ρ P:=fun σ H Q e q=>q (.int i) _ H (.refl e.fd) (rep_int.mpr rfl) p
theorem afr {i:Bool} (p:P (.bool i)):PEd K f (tC (.bl i)) ρ P:=fun σ H Q e q=>q (.bool i) _ H (.refl e.fd) (rep_bool.mpr rfl) p
theorem ahE {i:Str} (p:P (.str i)):PEd K f (tC (.str i)) ρ P:=fun σ H Q e q=>q (.str i) _ H (.refl e.fd) (rep_str.mpr rfl) p
theorem anB (p:P .none):PEd K f (tC .non) ρ P:=fun σ H Q e q=>q .none _ H (.refl e.fd) (rep_none.mpr rfl) p
theorem PEd.imp {P':PyData->Prop} (h:PEd K f te ρ P) (i:∀ d,P d->P' d):PEd K f te ρ P':=fun σ H Q e q=>h σ H Q e fun d v H' g r p=>q d v H' g r (i d p)
theorem aiX {r:R2} (h:PEd K f ta ρ fun x=>PEd K f tb ρ fun y=>∀ (v w:V) (H:Hp) (Q:VK),FOk f H->Rep K (hide H f) x v->Rep K (hide H f) y w->(∀ d u H',Goes f H H'->Rep K (hide H' f) d u->P d->Q u H')->r v w H Q):PEd K f (tOp r ta tb) ρ P:=fun σ H Q e q =>
 h σ H _ e fun x v H1 g1 r1 p1=>p1 σ H1 _ (e.mono g1) fun y w H2 g2 r2 p2=>p2 v w H2 Q g2.2 (Rep.mono g2.1 x v r1) r2 fun d u H' g' r' p'=>q d u H' (g1.trans (g2.trans g')) r' p'
theorem jf {g:Int->Int->Int} (h:PEd K f ta ρ fun x=>∃ i,x=.int i/\PEd K f tb ρ fun y=>∃ j,y=.int j/\P (.int (g i j))):PEd K f (tOp (rI0 fun i j=>.int (g i j)) ta tb) ρ P :=
 aiX (h.imp fun x ⟨i,ex,h2⟩=>h2.imp fun y ⟨j,ey,p⟩ v w H Q fo rx ry q=>by
  subst ex ey;exact⟨i,j,rep_int.mp rx,rep_int.mp ry,q _ _ H (.refl fo) (rep_int.mpr rfl) p⟩)
theorem abI {C:Int->Int->Prop} {g:Int->Int->Int} (h:PEd K f ta ρ fun x=>∃ i,x=.int i/\PEd K f tb ρ fun y=>∃ j,y=.int j/\C i j/\P (.int (g i j))):PEd K f (tOp (rI C fun i j=>.int (g i j)) ta tb) ρ P :=
 aiX (h.imp fun x ⟨i,ex,h2⟩=>h2.imp fun y ⟨j,ey,c,p⟩ v w H Q fo rx ry q=>by
  subst ex ey;exact⟨i,j,rep_int.mp rx,rep_int.mp ry,c,q _ _ H (.refl fo) (rep_int.mpr rfl) p⟩)
theorem adK {g:Int->Int->Bool} (h:PEd K f ta ρ fun x=>∃ i,x=.int i/\PEd K f tb ρ fun y=>∃ j,y=.int j/\P (.bool (g i j))):PEd K f (tOp (rI0 fun i j=>.bl (g i j)) ta tb) ρ P :=
 aiX (h.imp fun x ⟨i,ex,h2⟩=>h2.imp fun y ⟨j,ey,p⟩ v w H Q fo rx ry q=>by
  subst ex ey;exact⟨i,j,rep_int.mp rx,rep_int.mp ry,q _ _ H (.refl fo) (rep_bool.mpr rfl) p⟩)
theorem jn {neg:Bool} (h:PEd K f ta ρ fun x=>PEd K f tb ρ fun y=>x.canLay0=true/\y.canLay0=true/\min x.depth y.depth<=60/\P (.bool (if neg then !aqX x y else aqX x y))):PEd K f (tOp (aj0 K neg) ta tb) ρ P :=
 aiX (h.imp fun x h2=>h2.imp fun y ⟨c1,c2,c3,p⟩ v w H Q fo rx ry q =>
  ⟨x,y,Rep.mono (zm _ _) x v rx,Rep.mono (zm _ _) y w ry,c1,c2,c3,q _ _ H (.refl fo) (rep_bool.mpr rfl) p⟩)
theorem aaI (h:PEd K f ta ρ fun x=>∃ ds,x=.list ds/\PEd K f tb ρ fun y=>∃ k,y=.int k/\∃ d,atI ds k=some d/\P d):PEd K f (tOp (afk K) ta tb) ρ P :=
 aiX (h.imp fun x ⟨ds,ex,h2⟩=>h2.imp fun y ⟨k,ey,d,a,p⟩ v w H Q fo rx ry q=>by
  subst ex ey;obtain⟨l,xs,rfl,hs,hr⟩:=rep_list.mp rx;unfold atI at a;cases hi:ixN ds.length k with
  | none=>rw [hi] at a;cases a
  | some j =>
   rw [hi] at a;obtain⟨u,hu,ru⟩:=hr.get a;exact⟨l,xs,k,u,rfl,rep_int.mp ry,(zm H f).seq hs,by unfold atI;rw [hr.length,hi];exact hu,q d u H (.refl fo) ru p⟩)
theorem jE (h:PEd K f ta ρ fun x=>∃ ds,x=.tuple ds/\PEd K f tb ρ fun y=>∃ k,y=.int k/\∃ d,atI ds k=some d/\P d):PEd K f (tOp (afl K) ta tb) ρ P :=
 aiX (h.imp fun x ⟨ds,ex,h2⟩=>h2.imp fun y ⟨k,ey,d,a,p⟩ v w H Q fo rx ry q=>by
  subst ex ey;obtain⟨l,xs,rfl,hs,hr⟩:=rep_tuple.mp rx;unfold atI at a;cases hi:ixN ds.length k with
  | none=>rw [hi] at a;cases a
  | some j =>
   rw [hi] at a;obtain⟨u,hu,ru⟩:=hr.get a;exact⟨l,xs,k,u,rfl,rep_int.mp ry,(zm H f).seqT hs,by unfold atI;rw [hr.length,hi];exact hu,q d u H (.refl fo) ru p⟩)
theorem anC {i:Nat} (hi:ρ[i]?=some (some .feed)) (h:PEd K f tb ρ fun y=>(y=.int 0/\∀ a:Int,0<=a->P (.int a)) \/ (y=.int 1/\∀ b:Int,0<=b->b<2147483647->P (.int b))):PEd K f (tOp (afk K) (zR i) tb) ρ P:=fun σ H Q e q=>by
 obtain⟨v,h1,p,ef,ev⟩:=e.get i _ hi;refine⟨v,h1,h σ H _ e fun y w H' g r c=>?_⟩;obtain⟨a,b,hf,c1,c2,c3⟩:=g.2.fd p ef;rcases c with⟨rfl,c⟩ | ⟨rfl,c⟩
 ·exact⟨p,_,0,.int a,ev,rep_int.mp r,SqL.of hf,rfl,q (.int a) _ H' g (rep_int.mpr rfl) (c a c1)⟩
 ·exact⟨p,_,1,.int b,ev,rep_int.mp r,SqL.of hf,rfl,q (.int b) _ H' g (rep_int.mpr rfl) (c b c2 c3)⟩
theorem zH {R:List DV->Prop} (p:R []):PAd K f yY ρ R:=fun σ H Q e q=>q [] [] H (.refl e.fd) .nil p
theorem zp {R:List DV->Prop} {u:TA} (h:PEd K f te ρ fun x=>PAd K f u ρ fun xs=>R (.dat x :: xs)):PAd K f (zN te u) ρ R:=fun σ H Q e q =>
 h σ H _ e fun x v H1 g1 r1 p1=>p1 σ H1 _ (e.mono g1) fun xs vs H2 g2 r2 p2=>q (.dat x :: xs) (v :: vs) H2 (g1.trans g2) (.cons (RepV.mono (x:=.dat x) g2 r1) r2) p2
theorem aj1 {R:List DV->Prop} {u:TA} {i:Nat} (hi:ρ[i]?=some (some .feed)) (h:PAd K f u ρ fun xs=>R (.feed :: xs)):PAd K f (zN (zR i) u) ρ R:=fun σ H Q e q=>by
 obtain⟨v,h1,h2⟩:=e.get i _ hi;exact⟨v,h1,h σ H _ e fun xs vs H2 g2 r2 p2=>q (.feed :: xs) (v :: vs) H2 g2 (.cons (RepV.mono (x:=.feed) g2 h2) r2) p2⟩
noncomputable def vz:List DV->Option (List PyData)
 | []=>some []
 | .dat d :: r=>(vz r).map (d :: ·)
 | .feed :: _=>none
 | .own _ :: _=>none
 | .exc _ :: _=>none
 | .mon _ :: _=>none
theorem aal {H:Hp}:∀ {xs:List DV} {vs:List V} {ds:List PyData},RepVs K f H xs vs->vz xs=some ds->Reps K (hide H f) ds vs
 | _,_,ds,.nil,e=>by cases e;exact .nil'
 | .dat d :: xs,v :: vs,ds,.cons r t,e=>by
  unfold vz at e;cases q:vz xs with
  | none=>rw [q] at e;cases e
  | some es=>rw [q] at e;cases e;exact .cons' r (aal t q)
 | .feed :: xs,_,ds,.cons r t,e=>by cases e
 | .own _ :: xs,_,ds,.cons r t,e=>by cases e
 | .exc _ :: xs,_,ds,.cons r t,e=>by cases e
 | .mon _ :: xs,_,ds,.cons r t,e=>by cases e
theorem aaa {t:TA} (h:PAd K f t ρ fun xs=>∃ ds,vz xs=some ds/\ds.length<=1000/\P (.list ds)):PEd K f (afi t) ρ P:=fun σ H Q e q =>
 h σ H _ e fun xs vs H1 g1 r1 ⟨ds,ea,hl,p⟩=>by
  have rs:=aal r1 ea;refine⟨by rw [rs.length];exact arE (yd hl),fun l hn=>?_⟩;have sm:=yj hn (.lst vs);have g2:Goes f H1 (upd H1 l (.lst vs)):=.of_same sm g1.2;exact q (.list ds) _ _ (g1.trans g2) (rep_list.mpr ⟨l,vs,rfl,.of (zJ (fresh_ne g1.2 hn) zB),Reps.mono g2.1 ds vs rs⟩) p
theorem yP {t:TA} (h:PAd K f t ρ fun xs=>∃ ds,vz xs=some ds/\ds.length<=1000/\P (.tuple ds)):PEd K f (acG t) ρ P:=fun σ H Q e q =>
 h σ H _ e fun xs vs H1 g1 r1 ⟨ds,ea,hl,p⟩=>by
  have rs:=aal r1 ea;refine⟨by rw [rs.length];exact arE (yd hl),fun l hn=>?_⟩;have sm:=yj hn (.tup vs);have g2:Goes f H1 (upd H1 l (.tup vs)):=.of_same sm g1.2;exact q (.tuple ds) _ _ (g1.trans g2) (rep_tuple.mpr ⟨l,vs,rfl,.of (zJ (fresh_ne g1.2 hn) zB),Reps.mono g2.1 ds vs rs⟩) p
theorem zq {γ:Type} {n:Nat} {pre:γ->List DV->Prop} {post:γ->PyData->Prop} {E:XK} {t:TA} (c:γ) (h:PAd K f t ρ fun xs=>xs.length=n/\pre c xs/\∀ r,post c r->P r):PEd K f (acH (spD K n pre post) [] E t) ρ P:=fun σ H Q e q =>
 h σ H _ e fun xs vs H1 g1 r1 ⟨hl,hp,k⟩=>by
  refine⟨f,xs,c,by rw [arc];exact r1,hl,g1.2,hp,fun r v H' g' r' p'=>q r v H' (g1.trans g') r' (k r p')⟩
theorem aiY {r:List V->Hp->VK->Prop} {t:TA} (h:PAd K f t ρ fun xs=>∃ ds,vz xs=some ds/\∀ (vs:List V) (H:Hp) (Q:VK),FOk f H->Reps K (hide H f) ds vs->(∀ d u H',Goes f H H'->Rep K (hide H' f) d u->P d->Q u H')->r vs H Q):PEd K f (tCB r t) ρ P:=fun σ H Q e q =>
 h σ H _ e fun xs vs H1 g1 r1 ⟨ds,ea,k⟩=>k vs H1 Q g1.2 (aal r1 ea) fun d u H' g' r' p'=>q d u H' (g1.trans g') r' p'
end
section
variable {K:aqu} {f:Fx} {ρ:zr} {P:PyData->Prop} {B:Bool->Prop} {te ta tb tc:TE} {tt tu:TT}
theorem PTd.imp {B':Bool->Prop} (h:PTd K f tt ρ B) (i:∀ d,B d->B' d):PTd K f tt ρ B':=fun σ H Q e q=>h σ H Q e fun d H' g p=>q d H' g (i d p)
theorem zT (h:PEd K f te ρ fun d=>∃ k,d=.bool k/\B k):PTd K f (adD te) ρ B:=fun σ H Q e q=>h σ H _ e fun d v H' g r ⟨k,ed,p⟩=>by
 subst ed;exact⟨k,rep_bool.mp r,q k H' g p⟩
theorem afs (h:PTd K f tt ρ fun c=>if c=true then PTd K f tu ρ B else B false):PTd K f (aoc tt tu) ρ B:=fun σ H Q e q=>h σ H _ e fun c H1 g p=>by
 cases c with
 | true =>
  rw [if_pos rfl] at p ⊢;exact p σ H1 Q (e.mono g) fun b H2 g2 p2=>q b H2 (g.trans g2) p2
 | false =>
  rw [if_neg aqt] at p ⊢;exact q false H1 g p
theorem aj2 (h:PTd K f tt ρ fun c=>if c=true then B true else PTd K f tu ρ B):PTd K f (tOr tt tu) ρ B:=fun σ H Q e q=>h σ H _ e fun c H1 g p=>by
 cases c with
 | true =>
  rw [if_pos rfl] at p ⊢;exact q true H1 g p
 | false =>
  rw [if_neg aqt] at p ⊢;exact p σ H1 Q (e.mono g) fun b H2 g2 p2=>q b H2 (g.trans g2) p2
theorem adL (h:PTd K f tt ρ fun c=>B (!c)):PTd K f (apF tt) ρ B:=fun σ H Q e q=>h σ H _ e fun c H1 g p=>q (!c) H1 g p
noncomputable def aqm:PyData->Option Bool
 | .none=>some false
 | .bool b=>some b
 | .int i=>some (i != 0)
 | .list ds=>some (!ds.isEmpty)
 | .tuple ds=>some (!ds.isEmpty)
 | _=>none
def aow (K:aqu) (ta:TE):TT:=fun σ H Q=>ta σ H fun x H'=>∃ k,aon K x H' k/\Q k H'
theorem aox {X:Cx} {a:Expr} (ha:PE X a ta) (he:∀ whole,isTrue a X.env whole=(do let v <- whole;standAt a.pos;holding [v] (truthy v))):PT X a (aow X.K ta):=ajU ha he
theorem y9 (h:PEd K f ta ρ fun d=>∃ k,aqm d=some k/\B k):PTd K f (aow K ta) ρ B:=fun σ H Q e q=>h σ H _ e fun d v H' g r ⟨k,ed,p⟩=>by
 refine⟨k,?_,q k H' g p⟩;cases d with
 | none=>rw [rep_none.mp r];cases ed;rfl
 | bool b=>rw [rep_bool.mp r];cases ed;rfl
 | int i=>rw [rep_int.mp r];cases ed;rfl
 | str x=>cases ed
 | list ds =>
  obtain⟨a,xs,rfl,h1,h2⟩:=rep_list.mp r;cases ed;refine .inl ⟨xs,(zm _ _).seq h1,?_⟩;cases ds with
  | nil=>rw [reps_nil.mp h2];rfl
  | cons d ds=>obtain⟨x,r,rfl,_⟩:=reps_cons.mp h2;rfl
 | tuple ds =>
  obtain⟨a,xs,rfl,h1,h2⟩:=rep_tuple.mp r;cases ed;refine .inr (.inl ⟨xs,(zm _ _).seqT h1,?_⟩);cases ds with
  | nil=>rw [reps_nil.mp h2];rfl
  | cons d ds=>obtain⟨x,r,rfl,_⟩:=reps_cons.mp h2;rfl
 | dict _=>cases ed
theorem aj3 (h:PTd K f tt ρ fun c=>if c=true then PEd K f ta ρ P else PEd K f tb ρ P):PEd K f (tIf tt ta tb) ρ P:=fun σ H Q e q=>h σ H _ e fun c H1 g p=>by
 cases c with
 | true=>rw [if_pos rfl] at p ⊢;exact p σ H1 Q (e.mono g) fun d v H2 g2 r2 p2=>q d v H2 (g.trans g2) r2 p2
 | false=>rw [if_neg aqt] at p ⊢;exact p σ H1 Q (e.mono g) fun d v H2 g2 r2 p2=>q d v H2 (g.trans g2) r2 p2
theorem aeo (h:PEd K f ta ρ fun x=>∃ c,x=.bool c/\if c=true then PEd K f tb ρ P else P (.bool false)):PEd K f (ajO ta tb) ρ P:=fun σ H Q e q=>h σ H _ e fun x v H1 g r ⟨c,ex,p⟩=>by
 subst ex;refine⟨c,rep_bool.mp r,?_⟩;cases c with
 | true=>rw [if_pos rfl] at p ⊢;exact p σ H1 Q (e.mono g) fun d v H2 g2 r2 p2=>q d v H2 (g.trans g2) r2 p2
 | false=>rw [if_neg aqt] at p ⊢;exact q _ _ H1 g (rep_bool.mpr rfl) p
theorem aj4 (h:PEd K f ta ρ fun x=>∃ c,x=.bool c/\P (.bool !c)):PEd K f (anx ta) ρ P:=fun σ H Q e q=>h σ H _ e fun x v H1 g r ⟨c,ex,p⟩=>by
 subst ex;exact⟨c,rep_bool.mp r,q _ _ H1 g (rep_bool.mpr rfl) p⟩
theorem aam {g g':Int->Int->Bool} (h:PEd K f ta ρ fun x=>∃ i,x=.int i/\PEd K f tb ρ fun y=>∃ j,y=.int j/\if g i j=true then PEd K f tc ρ fun z=>∃ k,z=.int k/\P (.bool (g' j k)) else P (.bool false)) :
  PEd K f (agx (rI0 fun i j=>.bl (g i j)) (rI0 fun i j=>.bl (g' i j)) ta tb tc) ρ P:=fun σ H Q e q=>h σ H _ e fun x v H1 g1 r1 ⟨i,ex,p1⟩=>p1 σ H1 _ (e.mono g1) fun y w H2 g2 r2 ⟨j,ey,p2⟩=>by
 subst ex ey;refine⟨i,j,rep_int.mp r1,rep_int.mp r2,g i j,rfl,?_⟩;by_cases hg:g i j=true
 ·rw [if_pos hg] at p2 ⊢;exact p2 σ H2 _ ((e.mono g1).mono g2) fun z u H3 g3 r3 ⟨k,ez,p3⟩=>by
   subst ez;exact⟨j,k,rep_int.mp r2,rep_int.mp r3,q _ _ H3 (g1.trans (g2.trans g3)) (rep_bool.mpr rfl) p3⟩
 ·rw [if_neg hg] at p2 ⊢;exact q _ _ H2 (g1.trans g2) (rep_bool.mpr rfl) p2
theorem aft {t:TA} (h:PAd K f t ρ fun xs=>(∃ ds,xs=[.dat (.list ds)]/\P (.int ds.length)) \/ (∃ ds,xs=[.dat (.tuple ds)]/\P (.int ds.length))) :
  PEd K f (tCB (fun xs H Q=>∃ p ys,xs=[.ref p]/\(SqL K H p ys \/ SqT K H p ys)/\Q (.int ys.length) H) t) ρ P :=
 aiY fun σ H Q e q=>h σ H Q e fun xs vs H' g r p=>by
  rcases p with⟨ds,rfl,p⟩ | ⟨ds,rfl,p⟩
  ·refine q _ vs H' g r ⟨_,rfl,fun vs H Q fo rs k=>?_⟩;obtain⟨x,r,rfl,h2,h3⟩:=reps_cons.mp rs;rw [reps_nil.mp h3];obtain⟨a,ys,rfl,s1,s2⟩:=rep_list.mp h2;exact⟨a,ys,rfl,.inl ((zm _ _).seq s1),k (.int ds.length) _ H (.refl fo) (rep_int.mpr (by rw [s2.length])) p⟩
  ·refine q _ vs H' g r ⟨_,rfl,fun vs H Q fo rs k=>?_⟩;obtain⟨x,r,rfl,h2,h3⟩:=reps_cons.mp rs;rw [reps_nil.mp h3];obtain⟨a,ys,rfl,s1,s2⟩:=rep_tuple.mp h2;exact⟨a,ys,rfl,.inr ((zm _ _).seqT s1),k (.int ds.length) _ H (.refl fo) (rep_int.mpr (by rw [s2.length])) p⟩
theorem abJ {t:TA} (h:PAd K f t ρ fun xs=>∃ ns:List Int,xs=[.dat (.list (ns.map .int))]/\ns≠[]/\∀ M,M∈ns->(∀ b∈ns,M<=b)->P (.int M)) :
  PEd K f (tCB (fun xs H Q=>∃ a ns,xs=[.ref a]/\SqL K H a (ns.map V.int)/\ns≠[]/\∀ M,M∈ns->(∀ b∈ns,M<=b)->Q (.int M) H) t) ρ P :=
 aiY fun σ H Q e q=>h σ H Q e fun xs vs H' g r ⟨ns,ex,hne,p⟩=>by
  subst ex;refine q _ vs H' g r ⟨_,rfl,fun vs H Q fo rs k=>?_⟩;obtain⟨x,r,rfl,h2,h3⟩:=reps_cons.mp rs;rw [reps_nil.mp h3];obtain⟨a,ys,rfl,s1,s2⟩:=rep_list.mp h2;rw [s2.ints] at s1;exact⟨a,ns,rfl,(zm _ _).seq s1,hne,fun M h1 h2=>k (.int M) _ H (.refl fo) (rep_int.mpr rfl) (p M h1 h2)⟩
theorem abK {t:TA} (h:PAd K f t ρ fun xs=>∃ ns:List Int,xs=[.dat (.list (ns.map .int))]/\ns≠[]/\∀ M,M∈ns->(∀ b∈ns,b<=M)->P (.int M)) :
  PEd K f (tCB (fun xs H Q=>∃ a ns,xs=[.ref a]/\SqL K H a (ns.map V.int)/\ns≠[]/\∀ M,M∈ns->(∀ b∈ns,b<=M)->Q (.int M) H) t) ρ P :=
 aiY fun σ H Q e q=>h σ H Q e fun xs vs H' g r ⟨ns,ex,hne,p⟩=>by
  subst ex;refine q _ vs H' g r ⟨_,rfl,fun vs H Q fo rs k=>?_⟩;obtain⟨x,r,rfl,h2,h3⟩:=reps_cons.mp rs;rw [reps_nil.mp h3];obtain⟨a,ys,rfl,s1,s2⟩:=rep_list.mp h2;rw [s2.ints] at s1;exact⟨a,ns,rfl,(zm _ _).seq s1,hne,fun M h1 h2=>k (.int M) _ H (.refl fo) (rep_int.mpr rfl) (p M h1 h2)⟩
theorem aj5 {g:Int->Int->Int} {t:TA} (h:PAd K f t ρ fun xs=>∃ i j,xs=[.dat (.int i),.dat (.int j)]/\P (.int (g i j))):PEd K f (tCB (fun xs H Q=>∃ i j,xs=[.int i,.int j]/\Q (.int (g i j)) H) t) ρ P :=
 aiY fun σ H Q e q=>h σ H Q e fun xs vs H' g' r ⟨i,j,ex,p⟩=>by
  subst ex;refine q _ vs H' g' r ⟨_,rfl,fun vs H Q fo rs k=>?_⟩;obtain⟨x,r,rfl,h2,h3⟩:=reps_cons.mp rs;obtain⟨y,r',rfl,h4,h5⟩:=reps_cons.mp h3;rw [reps_nil.mp h5,rep_int.mp h2,rep_int.mp h4];exact⟨i,j,rfl,k _ _ H (.refl fo) (rep_int.mpr rfl) p⟩
theorem aj6 {g:Int->Int} {t:TA} (h:PAd K f t ρ fun xs=>∃ i,xs=[.dat (.int i)]/\P (.int (g i))):PEd K f (tCB (fun xs H Q=>∃ i,xs=[.int i]/\Q (.int (g i)) H) t) ρ P :=
 aiY fun σ H Q e q=>h σ H Q e fun xs vs H' g' r ⟨i,ex,p⟩=>by
  subst ex;refine q _ vs H' g' r ⟨_,rfl,fun vs H Q fo rs k=>?_⟩;obtain⟨x,r,rfl,h2,h3⟩:=reps_cons.mp rs;rw [reps_nil.mp h3,rep_int.mp h2];exact⟨i,rfl,k _ _ H (.refl fo) (rep_int.mpr rfl) p⟩
end
section
variable {K:aqu} {f:Fx} {ρ:zr} {D:DEnds} {te ta tb:TE} {tt:TT} {ts tu:TS}
theorem aaJ (p:D.nx ρ):PSd K f ahr ρ D:=fun σ H E e n _ _ _=>n ρ σ H (.refl e.fd) e p
theorem yq (h:PSd K f ts ρ { D with nx:=fun ρ'=>PSd K f tu ρ' D }):PSd K f (vZ ts tu) ρ D:=fun σ H E e n r b c =>
 h σ H { E with nx:=tu E } e (fun ρ' σ' H' g e' p=>p σ' H' E e' (fun ρ'' σ'' H'' g' e'' p'=>n ρ'' σ'' H'' (g.trans g') e'' p') (fun d v H'' g' r' p'=>r d v H'' (g.trans g') r' p') (fun ρ'' σ'' H'' g' e'' p'=>b ρ'' σ'' H'' (g.trans g') e'' p') (fun ρ'' σ'' H'' g' e'' p'=>c ρ'' σ'' H'' (g.trans g') e'' p')) r b c
theorem yA (h:PEd K f te ρ D.rt):PSd K f (adq te) ρ D:=fun σ H E e n r b c=>h σ H _ e r
theorem aaR (h:PEd K f te ρ fun _=>D.nx ρ):PSd K f (ahs te) ρ D:=fun σ H E e n r b c=>h σ H _ e fun d v H' g _ p=>n ρ σ H' g (e.mono g) p
theorem aep (h:PTd K f tt ρ fun b=>if b=true then PSd K f ts ρ D else PSd K f tu ρ D):PSd K f (alZ tt ts tu) ρ D:=fun σ H E e n r b c=>h σ H _ e fun k H1 g p=>by
 cases k with
 | true =>
  rw [if_pos rfl] at p ⊢;exact p σ H1 E (e.mono g) (fun ρ'' σ'' H'' g' e'' p'=>n ρ'' σ'' H'' (g.trans g') e'' p') (fun d v H'' g' r' p'=>r d v H'' (g.trans g') r' p') (fun ρ'' σ'' H'' g' e'' p'=>b ρ'' σ'' H'' (g.trans g') e'' p') (fun ρ'' σ'' H'' g' e'' p'=>c ρ'' σ'' H'' (g.trans g') e'' p')
 | false =>
  rw [if_neg aqt] at p ⊢;exact p σ H1 E (e.mono g) (fun ρ'' σ'' H'' g' e'' p'=>n ρ'' σ'' H'' (g.trans g') e'' p') (fun d v H'' g' r' p'=>r d v H'' (g.trans g') r' p') (fun ρ'' σ'' H'' g' e'' p'=>b ρ'' σ'' H'' (g.trans g') e'' p') (fun ρ'' σ'' H'' g' e'' p'=>c ρ'' σ'' H'' (g.trans g') e'' p')
def PGd (K:aqu) (f:Fx) (g:TG) (d:PyData) (ρ:zr) (R:zr->Prop):Prop:=∀ (σ:St) (H:Hp) (v:V) (Q:St->Hp->Prop),EnvOk K f ρ σ H->Rep K (hide H f) d v->(∀ ρ' σ' H',Goes f H H'->EnvOk K f ρ' σ' H'->R ρ'->Q σ' H')->g v σ H Q
def aj7 (K:aqu) (f:Fx) (g:TGs) (ds:List PyData) (ρ:zr) (R:zr->Prop):Prop:=∀ (σ:St) (H:Hp) (vs:List V) (Q:St->Hp->Prop),EnvOk K f ρ σ H->Reps K (hide H f) ds vs->(∀ ρ' σ' H',Goes f H H'->EnvOk K f ρ' σ' H'->R ρ'->Q σ' H')->g vs σ H Q
theorem zh {i:Nat} {d:PyData} {R:zr->Prop} (h:R (ρ.set i (some (.dat d)))):PGd K f (yX i) d ρ R:=fun σ H v Q e r q=>q _ _ H (.refl e.fd) (e.set i (x:=.dat d) r) h
theorem zO {R:zr->Prop} (h:R ρ):aj7 K f aog [] ρ R:=fun σ H vs Q e r q=>⟨reps_nil.mp r,q ρ σ H (.refl e.fd) e h⟩
theorem zo {g:TG} {gs:TGs} {d:PyData} {ds:List PyData} {R:zr->Prop} (h:PGd K f g d ρ fun ρ'=>aj7 K f gs ds ρ' R):aj7 K f (aht g gs) (d :: ds) ρ R:=fun σ H vs Q e r q=>by
 obtain⟨x,r',rfl,h2,h3⟩:=reps_cons.mp r;exact⟨x,r',rfl,h σ H x _ e h2 fun ρ' σ' H' g' e' p=>p σ' H' r' Q e' (Reps.mono g'.1 ds r' h3) fun ρ'' σ'' H'' g'' e'' p'=>q ρ'' σ'' H'' (g'.trans g'') e'' p'⟩
theorem yk {n:Nat} {gs:TGs} {ds:List PyData} {R:zr->Prop} (hn:ds.length=n) (h:aj7 K f gs ds ρ R):PGd K f (al1 K n gs) (.tuple ds) ρ R:=fun σ H v Q e r q=>by
 obtain⟨a,xs,rfl,h1,h2⟩:=rep_tuple.mp r;exact⟨a,xs,rfl,(zm _ _).seqT h1,by rw [h2.length];exact hn,h σ H xs Q e h2 q⟩
theorem z6 {g:TG} (h:PEd K f te ρ fun d=>PGd K f g d ρ D.nx):PSd K f (qA te g) ρ D:=fun σ H E e n r b c =>
 h σ H _ e fun d v H1 g1 r1 p1=>p1 σ H1 v _ (e.mono g1) r1 fun ρ' σ' H' g' e' p'=>n ρ' σ' H' (g1.trans g') e' p'
end
section
variable {K:aqu} {f:Fx} {ρ:zr} {D:DEnds} {te ta tb:TE} {tt:TT} {ts tu:TS} {g:TG}
theorem agC {t:TA} (h:PAd K f t ρ fun xs=>∃ ds,xs=[.dat (.list ds)]/\∃ J:Nat->zr->Prop,J 0 ρ /\
   (∀ (i:Nat) d ρ',ds[i]?=some d->J i ρ'->PGd K f g (.tuple [.int i,d]) ρ' fun ρ2=>PSd K f ts ρ2 { D with nx:=J (i+1),ct:=J (i+1),bk:=D.nx })/\∀ ρ',J ds.length ρ'->D.nx ρ') :
  PSd K f (al4 (ahD K t) g ts) ρ D:=fun σ H E e n r b c=>h σ H _ e fun xs vs H1 g1 r1 ⟨ds,ex,J,j0,js,jd⟩=>by
 subst ex;cases r1 with
 | cons rx r' =>
  cases r';obtain⟨a,xs,rfl,h1,h2⟩:=rep_list.mp rx;have hl:=h2.length;refine⟨a,rfl,⟨xs,(zm _ _).seq h1⟩,ajZ (K:=K) (a:=a) (xs:=xs) (fun i σ' H'=>∃ ρ',EnvOk K f ρ' σ' H'/\Goes f H H'/\Goes f H1 H'/\J i ρ') ⟨ρ,e.mono g1,g1,.refl g1.2,j0⟩ (fun i σ' H' _ ⟨ρ',e',g',g1',p⟩=>(zm _ _).seq (g1'.1.seq h1)) (fun i y σ' H' tp hy ⟨ρ',e',g',g1',p⟩ hn=>?_) fun σ' H' ⟨ρ',e',g',_,p⟩=>n ρ' σ' H' g' e' (jd ρ' (by rw [<-hl];exact p))⟩;have hi:i<ds.length:=by rw [<-hl];exact (aqs.mp hy).1
  obtain⟨z,hz,rz⟩:=h2.get (aqq hi);rw [hy] at hz;cases hz;have gn:Goes f H' (upd H' tp (.tup [.int i,y])):=.of_same (yj hn _) e'.fd;have rt:Rep K (hide (upd H' tp (.tup [.int i,y])) f) (.tuple [.int i,ds[i]]) (.ref tp):=rep_tuple.mpr ⟨tp,_,rfl,.of (zJ (fresh_ne e'.fd hn) zB),.cons' (rep_int.mpr rfl) (.cons' (Rep.mono gn.1 _ _ (Rep.mono g1'.1 _ _ rz)) .nil')⟩;refine js i _ ρ' (aqq hi) p σ' _ _ _ (e'.mono gn) rt fun ρ2 σ2 H2 g2' e2 p2=>?_;have g2:=gn.trans g2';exact p2 σ2 H2 _ e2 (fun ρ3 σ3 H3 g3 e3 p3=>⟨ρ3,e3,g'.trans (g2.trans g3),g1'.trans (g2.trans g3),p3⟩) (fun d v H3 g3 r3 p3=>r d v H3 (g'.trans (g2.trans g3)) r3 p3) (fun ρ3 σ3 H3 g3 e3 p3=>n ρ3 σ3 H3 (g'.trans (g2.trans g3)) e3 p3) (fun ρ3 σ3 H3 g3 e3 p3=>⟨ρ3,e3,g'.trans (g2.trans g3),g1'.trans (g2.trans g3),p3⟩)
end
noncomputable def frD (fr:List Nat) (ρ:zr):zr:=fr.map fun j=>(ρ[j]?).getD none
noncomputable def vA (own:Nat) (fr:List Nat) (ρ:zr):zr:=arZ own none++frD fr ρ
noncomputable abbrev Fx.with (f:Fx) (D:Addr):Fx:=⟨f.f,D :: f.M⟩
section
variable {K:aqu} {f:Fx} {ρ:zr} {σ:St} {H H':Hp} {D:Addr} {o:HO}
theorem adM {own:Nat} {fr:List Nat} (e:EnvOk K f ρ σ H):EnvOk K f (vA own fr ρ) (y6 own fr σ) H:=by
 refine⟨by unfold vA y6 frD;simp,fun i x h=>?_,e.fd⟩;unfold vA frD at h;unfold y6;by_cases hi:i<own
 ·rw [aqJ (by simpa using hi),asC] at h;split at h <;> cases h
 ·rw [aqR (by simpa using hi)] at h ⊢;simp only [atj,aqA] at h ⊢;cases hj:fr[i - own]? with
  | none=>rw [hj] at h;cases h
  | some j =>
   rw [hj] at h;have h':(ρ[j]?).getD none=some x:=Option.some.inj h;have hρ:ρ[j]?=some (some x):=by
    cases q:ρ[j]? with
    | none=>rw [q] at h';cases h'
    | some w=>rw [q] at h';exact congrArg some h'
   obtain⟨v,h1,h2⟩:=e.get j x hρ;exact⟨v,by simp [h1],h2⟩
theorem yr:hide (upd H D o) (f.with D)=hide H (f.with D):=by
 funext b
 unfold hide;by_cases hb:f.f=some b \/ b∈D :: f.M
 ·rw [if_pos hb,if_pos hb]
 ·rw [if_neg hb,if_neg hb];have:b≠D:=fun z=>hb (.inr (z▸aqv));exact zx this
theorem same_with:Same (hide H (f.with D)) (hide H f):=fun b o h=>by
 obtain⟨h1,h2⟩:=zY h;exact zJ (fun z=>h1 (z.elim .inl fun z=>.inr (aqw _ z))) h2
theorem jN (hn:H D=none):Same (hide H f) (hide (upd H D o) (f.with D)):=fun b u h=>by
 obtain⟨h1,h2⟩:=zY h;have hb:b≠D:=zL h2 hn;exact zJ (fun z=>z.elim (fun z=>h1 (.inl z)) fun z=>(aqE.mp z).elim hb fun z=>h1 (.inr z)) (by rw [zx hb];exact h2)
theorem aoy (h:FOk f H) (hn:H D=none):FOk (f.with D) (upd H D o) :=
 ⟨fun p e=>let⟨a,b,h1,h2⟩:=h.fd p e;⟨a,b,by rw [zx (zL h1 hn)];exact h1,h2⟩,fun b hb=>by
  rcases aqE.mp hb with rfl | hb
  ·exact⟨_,zB⟩
  ·obtain⟨o',h1⟩:=h.mm b hb;exact⟨o',by rw [zx (zL h1 hn)];exact h1⟩,fun p e hp=>by
  rcases aqE.mp hp with rfl | hp
  ·exact fresh_ne h hn (.inl e)
  ·exact h.nm p e hp⟩
theorem agD (e:EnvOk K f ρ σ H) (hn:H D=none):EnvOk K (f.with D) ρ σ (upd H D o) :=
 ⟨e.len,fun i x h=>let⟨v,h1,h2⟩:=e.get i x h;⟨v,h1,by
  cases x with
  | dat d=>exact Rep.mono (jN hn) d v h2
  | feed=>exact h2
  | own k =>
   obtain⟨p,h3,h4⟩:=h2;refine⟨p,?_,h4⟩;show (D :: f.M).reverse[k]?=some p;rw [atU,aqJ (aqs.mp h3).1];exact h3
  | exc C =>
   obtain⟨a,h3,h4⟩:=h2;exact⟨a,h3,jN hn _ _ h4⟩
  | mon φ=>exact fun H' s=>h2 H' ((jN hn).trans s)⟩,aoy e.fd hn⟩
theorem ahF (hD:f.f≠some D) (e:EnvOk K (f.with D) ρ σ H):EnvOk K (f.with D) ρ σ (upd H D o) :=
 ⟨e.len,fun i x h=>let⟨v,h1,h2⟩:=e.get i x h;⟨v,h1,by
  cases x with
  | dat d =>
   have h2':Rep K (hide H (f.with D)) d v:=h2;show Rep K (hide (upd H D o) (f.with D)) d v;rw [yr];exact h2'
  | feed=>exact h2
  | own k=>exact h2
  | exc C =>
   obtain⟨a,h3,h4⟩:=h2;refine⟨a,h3,?_⟩;rw [yr];exact h4
  | mon φ =>
   intro H' s;rw [yr] at s;exact h2 H' s⟩,⟨fun p ep=>let⟨a,b,h1,h2⟩:=e.fd.fd p ep;⟨a,b,by rw [zx (fun z=>hD (by rw [<-z];exact ep))];exact h1,h2⟩,fun b hb=>by
   by_cases hb':b=D
   ·subst hb';exact⟨_,zB⟩
   ·rw [zx hb'];exact e.fd.mm b hb,e.fd.nm⟩⟩
end
section
variable {K:aqu} {f:Fx} {ρ:zr} {P:PyData->Prop} {te tl:TE} {tt:TT} {g:TG} {own:Nat} {fr:List Nat}
structure CSt (K:aqu) (f:Fx) (D:Addr) (H2:Hp) (ρ':zr) (es:List PyData) (σ:St) (H:Hp):Prop where
 env:EnvOk K (f.with D) ρ' σ H
 sm:Same (hide H2 (f.with D)) (hide H (f.with D))
 kp:∀ b∈f.M,H b=H2 b
 lst:∃ vs,H D=some (.lst vs)/\Reps K (hide H (f.with D)) es vs
theorem CSt.go {D:Addr} {H2 H H':Hp} {ρ':zr} {es:List PyData} {σ:St} (c:CSt K f D H2 ρ' es σ H) (gg:Goes (f.with D) H H') {ρ2:zr} {σ2:St} (e2:EnvOk K (f.with D) ρ2 σ2 H'):CSt K f D H2 ρ2 es σ2 H' :=
 ⟨e2,c.sm.trans gg.sm,fun b hb=>(gg.kp b (aqw _ hb)).trans (c.kp b hb),let⟨vs,h1,h2⟩:=c.lst;⟨vs,(gg.kp D aqv).trans h1,Reps.mono gg.sm es vs h2⟩⟩
theorem CSt.put {D:Addr} {H2 H:Hp} {ρ':zr} {es:List PyData} {σ:St} {d:PyData} {v:V} {vs:List V} (hD:f.f≠some D) (hM:D∉f.M) (c:CSt K f D H2 ρ' es σ H) (h1:H D=some (.lst vs)) (h2:Reps K (hide H (f.with D)) es vs) (r:Rep K (hide H (f.with D)) d v) :
  CSt K f D H2 ρ' (es++[d]) σ (upd H D (.lst (vs++[v]))) :=
 ⟨ahF hD c.env,by rw [yr];exact c.sm,fun b hb=>(zx (fun (z:b=D)=>hM (z▸hb))).trans (c.kp b hb),⟨_,zB,by rw [yr];exact h2.snoc r⟩⟩
theorem adN {D:Addr} {H2 H:Hp} {ρ':zr} {es:List PyData} {σ:St} {d:PyData} {v:V} {W:St->Hp->Prop} {R:zr->List PyData->Prop} (hD:f.f≠some D) (hM:D∉f.M) (c:CSt K f D H2 ρ' es σ H) (hl:es.length<1000) (r:Rep K (hide H (f.with D)) d v)
  (h:PGd K (f.with D) g d ρ' fun ρ2=>PTd K (f.with D) tt ρ2 fun b=>if b=true then PEd K (f.with D) te ρ2 fun e=>R ρ2 (es++[e]) else R ρ2 es)
  (hW:∀ ρ2 es2 σ2 H',CSt K f D H2 ρ2 es2 σ2 H'->R ρ2 es2->W σ2 H') :
  g v σ H fun σ2 H3=>tt σ2 H3 fun b H4=>if b=true then vb D te σ2 H4 W else W σ2 H4:=by
 refine h σ H v _ c.env r fun ρ2 σ2 H3 g3 e3 p3=>?_;have c3:=c.go g3 e3;refine p3 σ2 H3 _ e3 fun b H4 g4 p4=>?_;have c4:=c3.go g4 (e3.mono g4);cases b with
 | false =>
  rw [if_neg aqt] at p4 ⊢;exact hW _ _ _ _ c4 p4
 | true =>
  rw [if_pos rfl] at p4 ⊢;refine p4 σ2 H4 _ (e3.mono g4) fun e u H5 g5 r5 p5=>?_;have c5:=c4.go g5 ((e3.mono g4).mono g5);obtain⟨vs,h1,h2⟩:=c5.lst;exact⟨vs,h1,yd (by rw [h2.length];omega),hW _ _ _ _ (c5.put hD hM h1 h2 r5) p5⟩
theorem acO {D:Addr} {H1 H:Hp} {ρ':zr} {es:List PyData} {σ σ':St} (hn:H1 D=none) (fo:FOk f H1) (c:CSt K f D (upd H1 D (.lst [])) ρ' es σ H):Goes f H1 H/\Rep K (hide H f) (.list es) (.ref D):=by
 obtain⟨vs,h1,h2⟩:=c.lst;have nD:=fresh_ne fo hn;refine⟨⟨((jN hn).trans c.sm).trans same_with,⟨c.env.fd.fd,fun b hb=>c.env.fd.mm b (aqw _ hb),fun p e hp=>c.env.fd.nm p e (aqw _ hp)⟩,fun b hb=>?_⟩,rep_list.mpr ⟨D,vs,rfl,.of (zJ nD h1),Reps.mono same_with es vs h2⟩⟩;rw [c.kp b hb,zx];obtain⟨o,h3⟩:=fo.mm b hb;exact zL h3 hn
theorem aaS {D:Addr} {H1:Hp} {σ:St} (hn:H1 D=none) (e:EnvOk K f ρ σ H1):CSt K f D (upd H1 D (.lst [])) (vA own fr ρ) [] (y6 own fr σ) (upd H1 D (.lst [])) :=
 ⟨agD (adM e) hn,Same.refl _,fun _ _=>rfl,⟨[],zB,.nil'⟩⟩
theorem amb {t:TA} (h:PAd K f t ρ fun xs=>∃ j:Int,xs=[.dat (.int j)]/\j<=1000/\-1000<=j/\∃ R:Nat->zr->List PyData->Prop,R 0 (vA own fr ρ) [] /\
   (∀ D (i:Nat) ρ' es,(i:Int)<j->R i ρ' es->PGd K (f.with D) g (.int i) ρ' fun ρ2=>PTd K (f.with D) tt ρ2 fun b=>if b=true then PEd K (f.with D) te ρ2 fun e=>R (i+1) ρ2 (es++[e]) else R (i+1) ρ2 es) /\
   (∀ i ρ' es,R i ρ' es->es.length<=i)/\∀ ρ' es,R j.toNat ρ' es->P (.list es)) :
  PEd K f (jC (ahu t) own fr g tt fun D=>vb D te) ρ P:=fun σ H Q e q=>h σ H _ e fun xs vs H1 g1 r1 ⟨j,ex,b1,b2,R,r0,rs,rl,re⟩=>by
 subst ex;cases r1 with
 | @cons _ v0 _ _ rx r' =>
  cases r';have rx':Rep K (hide H1 f) (.int j) v0:=rx;refine⟨j,by rw [rep_int.mp rx'],by omega,by omega,fun D hn=>?_⟩;have nD:=fresh_ne g1.2 hn;have hD:f.f≠some D:=fun z=>nD (.inl z);have hM:D∉f.M:=fun z=>nD (.inr z);have e1:=e.mono g1;refine⟨fun i m σ' H'=>∃ ρ' es,CSt K f D (upd H1 D (.lst [])) ρ' es σ' H'/\R i ρ' es/\i<=j.toNat/\m+i=j.toNat,⟨j.toNat,_,[],aaS hn e1,r0,aq2 _,rfl⟩,fun i m σ' H' ⟨ρ',es,c,p,hi,hm⟩=>?_⟩;by_cases hlt:i<j.toNat
  ·refine .inr ⟨hlt,fun x H3 hy=>?_⟩;obtain⟨rfl,rfl⟩:=hy;have hz:(0:Int)+(i:Int)=(i:Int):=Int.zero_add _;rw [hz];refine adN (R:=R (i+1)) hD hM c (by have:=rl i ρ' es p;omega) ((rep_int (K:=K)).mpr rfl) (rs D i ρ' es (by omega) p) fun ρ2 es2 σ2 H4 c2 p2=>?_;exact⟨m - 1,by omega,ρ2,es2,c2,p2,by omega,by omega⟩
  ·have ei:i=j.toNat:=by omega
   subst ei;obtain⟨ge,rep⟩:=acO (σ':=σ') hn g1.2 c;exact .inl ⟨aqC _,q _ _ H' (g1.trans ge) rep (re ρ' es p)⟩
theorem aoz (h:PEd K f tl ρ fun x=>∃ ds,x=.list ds/\ds.length<=1000/\∃ R:Nat->zr->List PyData->Prop,R 0 (vA own fr ρ) [] /\
   (∀ D (i:Nat) d ρ' es,ds[i]?=some d->R i ρ' es->PGd K (f.with D) g d ρ' fun ρ2=>PTd K (f.with D) tt ρ2 fun b=>if b=true then PEd K (f.with D) te ρ2 fun e=>R (i+1) ρ2 (es++[e]) else R (i+1) ρ2 es) /\
   (∀ i ρ' es,R i ρ' es->es.length<=i)/\∀ ρ' es,R ds.length ρ' es->P (.list es)) :
  PEd K f (jC (adC K tl) own fr g tt fun D=>vb D te) ρ P:=fun σ H Q e q=>h σ H _ e fun x v H1 g1 r1 ⟨ds,ex,hz,R,r0,rs,rl,re⟩=>by
 subst ex;obtain⟨a,xs,rfl,s1,s2⟩:=rep_list.mp r1;have hl:=s2.length;refine⟨a,rfl,⟨xs,(zm _ _).seq s1⟩,fun D hn=>?_⟩;have nD:=fresh_ne g1.2 hn;have hD:f.f≠some D:=fun z=>nD (.inl z);have hM:D∉f.M:=fun z=>nD (.inr z);have e1:=e.mono g1;have keep:∀ {ρ':zr} {es:List PyData} {σ':St} {H':Hp},CSt K f D (upd H1 D (.lst [])) ρ' es σ' H'->Same (hide H1 f) (hide H' (f.with D)):=fun c=>(jN hn).trans c.sm;refine⟨fun i m σ' H'=>∃ ρ' es,CSt K f D (upd H1 D (.lst [])) ρ' es σ' H'/\R i ρ' es/\i<=ds.length/\m+i=ds.length,⟨ds.length,_,[],aaS hn e1,r0,aq2 _,rfl⟩,fun i m σ' H' ⟨ρ',es,c,p,hi,hm⟩=>?_⟩;have sq:SqL K H' a xs:=(zm _ _).seq ((keep c).seq s1);by_cases hlt:i<ds.length
 ·obtain⟨z,hzz,rz⟩:=s2.get (aqq hlt);refine .inr ⟨⟨xs,z,sq,hzz⟩,fun x H3 hy=>?_⟩;obtain⟨rfl,hy⟩:=hy;have ez:=hy xs sq;rw [hzz] at ez;cases ez;refine adN (R:=R (i+1)) hD hM c (by have:=rl i ρ' es p;omega) (Rep.mono (keep c) _ _ rz) (rs D i _ ρ' es (aqq hlt) p) fun ρ2 es2 σ2 H4 c2 p2=>?_;exact⟨m - 1,by omega,ρ2,es2,c2,p2,by omega,by omega⟩
 ·have ei:i=ds.length:=by omega
  subst ei;obtain⟨ge,rep⟩:=acO (σ':=σ') hn g1.2 c;exact .inl ⟨⟨xs,sq,by omega⟩,q _ _ H' (g1.trans ge) rep (re ρ' es p)⟩
theorem afu {t:TA} (h:PAd K f t ρ fun xs=>∃ j:Int,xs=[.dat (.int j)]/\j<=1000/\-1000<=j/\∃ R:Nat->PyData->Prop,
   (∀ D (i:Nat),(i:Int)<j->PEd K (f.with D) te (some (.dat (.int i)) :: frD fr ρ) (R i))/\∀ es:List PyData,es.length=j.toNat->(∀ (i:Nat) e,es[i]?=some e->R i e)->P (.list es)) :
  PEd K f (jC (ahu t) 1 fr (yX 0) ajY fun D=>vb D te) ρ P :=
 amb fun σ H Q e q=>h σ H Q e fun xs vs H' g' r' ⟨j,ex,b1,b2,R,rs,re⟩=>by
  refine q xs vs H' g' r' ⟨j,ex,b1,b2,fun i ρ' es=>(∃ x,ρ'=x :: frD fr ρ)/\es.length=i/\∀ (k:Nat) e,es[k]?=some e->R k e,⟨⟨none,rfl⟩,rfl,fun k e h=>by simp at h⟩,fun D i ρ' es hi p=>?_,fun i ρ' es p=>asq p.2.1,fun ρ' es p=>re es p.2.1 p.2.2⟩;obtain⟨⟨x,rfl⟩,hl,hp⟩:=p;refine zh ?_;intro σ H Q e q;refine q true H (.refl e.fd) ?_;dsimp only;rw [if_pos rfl];refine (rs D i hi).imp fun d hd=>⟨⟨_,rfl⟩,by rw [aqM,hl];rfl,fun k e hk=>?_⟩;by_cases hkl:k<es.length
  ·rw [aqJ hkl] at hk;exact hp k e hk
  ·rw [aqR (by omega)] at hk;have hk0:k - es.length=0:=by
    have:=(aqs.mp hk).1;simp at this;omega
   rw [hk0] at hk;cases hk;have:k=i:=by omega
   subst this;exact hd
theorem acj (h:PEd K f tl ρ fun x=>∃ ds,x=.list ds/\ds.length<=1000/\∃ R:Nat->PyData->Prop,
   (∀ D (i:Nat) d,ds[i]?=some d->PEd K (f.with D) te (some (.dat d) :: frD fr ρ) (R i))/\∀ es:List PyData,es.length=ds.length->(∀ (i:Nat) e,es[i]?=some e->R i e)->P (.list es)) :
  PEd K f (jC (adC K tl) 1 fr (yX 0) ajY fun D=>vb D te) ρ P :=
 aoz (h.imp fun x ⟨ds,ex,hz,R,rs,re⟩=>by
  refine⟨ds,ex,hz,fun i ρ' es=>(∃ x,ρ'=x :: frD fr ρ)/\es.length=i/\∀ (k:Nat) e,es[k]?=some e->R k e,⟨⟨none,rfl⟩,rfl,fun k e h=>by simp at h⟩,fun D i d ρ' es hi p=>?_,fun i ρ' es p=>asq p.2.1,fun ρ' es p=>re es p.2.1 p.2.2⟩;obtain⟨⟨x,rfl⟩,hl,hp⟩:=p;refine zh ?_;intro σ H Q e q;refine q true H (.refl e.fd) ?_;dsimp only;rw [if_pos rfl];refine (rs D i d hi).imp fun d hd=>⟨⟨_,rfl⟩,by rw [aqM,hl];rfl,fun k e hk=>?_⟩;by_cases hkl:k<es.length
  ·rw [aqJ hkl] at hk;exact hp k e hk
  ·rw [aqR (by omega)] at hk;have hk0:k - es.length=0:=by
    have:=(aqs.mp hk).1;simp at this;omega
   rw [hk0] at hk;cases hk;have:k=i:=by omega
   subst this;exact hd)
end
section
variable {K:aqu} {f:Fx} {ρ:zr} {D:DEnds} {te:TE} {i:Nat}
theorem afv {σ:St} {H:Hp} {p:Addr} {a b:Int} (e:EnvOk K f ρ σ H) (ef:f.f=some p) (h0:0<=a) (h1:0<=b) (h2:b<2147483647):Goes f H (upd H p (.lst [.int a,.int b])) :=
 have hM:=e.fd.nm p ef
 ⟨fun x o h=>by
  obtain⟨n,hx⟩:=zY h;exact zJ n (by rw [zx (fun z=>n (.inl (by rw [z];exact ef)))];exact hx),
 ⟨fun q eq=>by
   rw [ef] at eq;cases eq;exact⟨a,b,zB,h0,h1,h2⟩,fun x hx=>by
   by_cases hxp:x=p
   ·subst hxp;exact absurd hx hM
   ·rw [zx hxp];exact e.fd.mm x hx,e.fd.nm⟩,
fun x hx=>zx (fun z=>hM (z▸hx))⟩
theorem ahG (hi:ρ[i]?=some (some .feed)) (h:PEd K f te ρ fun d=>∃ a:Int,d=.int a/\0<=a/\D.nx ρ):PSd K f (qA te (afg (zR i) (tC (.int 0)) acJ)) ρ D:=fun σ H E e n r b c=>h σ H _ e fun d v H1 g1 r1 ⟨a,ed,h0,p⟩=>by
 subst ed;obtain⟨u,h1,q,ef,eu⟩:=e.get i _ hi;obtain⟨a',b',hf,c1,c2,c3⟩:=g1.2.fd q ef;refine⟨u,h1,q,_,0,0,eu,rfl,hf,rfl,?_⟩;rw [rep_int.mp r1];have g2:Goes f H1 (upd H1 q (.lst [.int a,.int b'])):=afv (e.mono g1) ef h0 c2 c3;exact n ρ σ _ (g1.trans g2) ((e.mono g1).mono g2) p
theorem ahH (hi:ρ[i]?=some (some .feed)) (h:PEd K f te ρ fun d=>∃ a:Int,d=.int a/\0<=a/\a<2147483647/\D.nx ρ):PSd K f (qA te (afg (zR i) (tC (.int 1)) acJ)) ρ D:=fun σ H E e n r b c=>h σ H _ e fun d v H1 g1 r1 ⟨a,ed,h0,h0',p⟩=>by
 subst ed;obtain⟨u,h1,q,ef,eu⟩:=e.get i _ hi;obtain⟨a',b',hf,c1,c2,c3⟩:=g1.2.fd q ef;refine⟨u,h1,q,_,1,1,eu,rfl,hf,rfl,?_⟩;rw [rep_int.mp r1];have g2:Goes f H1 (upd H1 q (.lst [.int a',.int a])):=afv (e.mono g1) ef c1 h0 h0';exact n ρ σ _ (g1.trans g2) ((e.mono g1).mono g2) p
end
theorem aa5 {X:Cx} {x:Str} {i:Int} {t:Tok} {pos:Pos} (hg:Gl X x) (hm:X.mg x=some (.int i t)) (hd:(x == ("__debug__":Str))=false:=by decide):PE X (.Name x pos) (tC (.int i)):=alX hg hm ⟨t,rfl⟩ hd
noncomputable def qu (N:List Str) (xs:List DV):zr:=xs.map some++arZ (N.length - xs.length) none
theorem jZ {K:aqu} {f:Fx} {H:Hp} {N:List Str} {xs:List DV} {vs:List V} (r:RepVs K f H xs vs) (fo:FOk f H):EnvOk K f (qu N xs) (start N vs) H:=by
 have hl:=r.length;refine⟨by unfold qu start;simp [hl],fun i x h=>?_,fo⟩;unfold qu at h;unfold start;have get:∀ {xs:List DV} {vs:List V} {i:Nat} {x:DV},RepVs K f H xs vs->xs[i]?=some x->∃ v,vs[i]?=some v/\RepV K f H x v:=by
  intro xs vs i x r
  induction r generalizing i with
  | nil=>intro h;simp at h
  | cons r1 r2 ih =>
   intro h;cases i with
   | zero=>simp at h;subst h;exact⟨_,rfl,r1⟩
   | succ i=>simp at h;obtain⟨v,h1,h2⟩:=ih h;exact⟨v,by simpa using h1,h2⟩
 by_cases hi:i<xs.length
 ·rw [aqJ (by simpa using hi),aqA] at h;cases q:xs[i]? with
  | none=>rw [q] at h;cases h
  | some y =>
   rw [q] at h;cases h;obtain⟨v,h1,h2⟩:=get r q;exact⟨v,by rw [aqJ (by simp;omega),aqA,h1];rfl,h2⟩
 ·rw [aqR (by simpa using hi),asC] at h;split at h <;> cases h
structure Def (K:aqu) (mg:Str->Option Value) (x:Str) (st:Stmt) (ps:List Str):Prop where
 ex:∃ (f:Addr) (fd:FuncData),Fun K x x st f fd/\Binds K fd ps []/\mg x=some (.ref f)
structure FnIn (P:Program) (w:World) (K:aqu) (mg:Str->Option Value) (base:Heap) (k:Nat) (x:Str) (ps:List Str) (sp:Sp):Prop where
 ex:∃ (f:Addr) (fd:FuncData),FnOk P w K mg base CX0 k f fd ps sp/\mg x=some (.ref f)/\arM K (.ref f)=true/\Binds K fd ps []
section
variable {P:Program} {w:World} {K:aqu} {mg:Str->Option Value} {base:Heap} {j k n:Nat} {x:Str} {st:Stmt} {ps N:List Str} {γ:Type} {pre:γ->List DV->Prop} {post:γ->PyData->Prop} {sp:Sp}
theorem FnIn.mono (h:FnIn P w K mg base j x ps sp) (hk:j<=k):FnIn P w K mg base k x ps sp :=
 let⟨f,fd,a,b,c,d⟩:=h.ex;⟨f,fd,a.mono hk,b,c,d⟩
theorem Def.ok (F:Def K mg x st ps) (S:FnScope N ps (zl st)) (hn:ps.length=n)
  (h:∀ (fa:Addr) (cdv:Value) (A:Around) (outer:List Env) (s:Shared) (H:Hp) (E:XK),Room k (A.deeper (envOfC x (zl st) s.heap.objs.size fa cdv)) ->
   ∃ t,PSs (ya CX0 P w K mg base N x (zl st) fa cdv A outer s H E).nox (yw st) t/\∀ (f:Fx) (xs:List DV) (c:γ),xs.length=n->pre c xs->PSd K f t (qu N xs) { nx:=fun _=>post c .none,rt:=post c }) :
  FnIn P w K mg base (k+1) x ps (spD K n pre post):=by
 obtain⟨fa,fd,F1,F2,F3⟩:=F.ex;refine⟨fa,fd,F1.ok S (fun vs H Q E h=>?_) (fun cdv A outer s H vs Q E hr hs=>?_),F3,F1.kp,F2⟩
 ·obtain⟨f,xs,c,r,hl,_⟩:=h;rw [r.length,hl,hn]
 ·obtain⟨f,xs,c,r,hl,fo,hp,q⟩:=hs;obtain⟨t,h1,h2⟩:=h fa cdv A outer s H E hr;exact⟨t,h1,h2 f xs c hl hp (start N vs) H _ (jZ r fo) (fun _ _ H' g _ p=>q .none _ H' g (rep_none.mpr rfl) p) (fun d v H' g r p=>q d v H' g r p) (fun _ _ _ _ _ z=>z.elim) (fun _ _ _ _ _ z=>z.elim)⟩
theorem Def.raw (F:Def K mg x st ps) (S:FnScope N ps (zl st)) (len:∀ vs H Q E,sp vs H Q E->vs.length=ps.length)
  (h:∀ (fa:Addr) (cdv:Value) (A:Around) (outer:List Env) (s:Shared) (H:Hp) (vs:List V) (Q:VK) (E:XK),Room k (A.deeper (envOfC x (zl st) s.heap.objs.size fa cdv))->sp vs H Q E ->
   ∃ t,PSs (ya CX0 P w K mg base N x (zl st) fa cdv A outer s H E).nox (yw st) t/\t { nx:=fun _ H'=>Q .non H',rt:=Q } (start N vs) H) :
  FnIn P w K mg base (k+1) x ps sp:=by
 obtain⟨fa,fd,F1,F2,F3⟩:=F.ex;exact⟨fa,fd,F1.ok S len (fun cdv A outer s H vs Q E hr hs=>h fa cdv A outer s H vs Q E hr hs),F3,F1.kp,F2⟩
theorem zd {X:Cx} {e:Expr} {es:List Expr} {t:TA} {p pos:Pos} (G:FnIn X.prog X.w X.K X.mg X.base k x ps sp) (hr:Room k X.A) (hg:Gl X x) (ha:PA X (e :: es) t) (hdb:(x == ("__debug__":Str))=false:=by decide)
  (he:starEach (e :: es) X.env=(false,eval e X.env) :: starEach es X.env:=by rfl) (hpl:(backTo pos (starEach es X.env)).any (·.1)=false:=by rfl):PE X (.Call (.Name x p) (e :: es) [] pos) (acH sp [] E0 t):=by
 obtain⟨f,fd,a,b,c,d⟩:=G.ex;exact al8 a hr hg b c d .nil apK ha hdb he hpl
end
section
variable {K:aqu} {f:Fx} {ρ:zr} {σ:St} {H:Hp} {E:Ends} {ts tu:TS} {D:DEnds}
theorem aj8 (h:PSd K f ts ρ D) (e:EnvOk K f ρ σ H) (hn:∀ ρ' σ' H',Goes f H H'->EnvOk K f ρ' σ' H'->D.nx ρ'->tu E σ' H') (hr:∀ d v H',Goes f H H'->Rep K (hide H' f) d v->D.rt d->E.rt v H') (hb:∀ ρ,¬ D.bk ρ) (hc:∀ ρ,¬ D.ct ρ):vZ ts tu E σ H :=
 h σ H { E with nx:=tu E } e hn hr (fun ρ' _ _ _ _ p=>(hb ρ' p).elim) (fun ρ' _ _ _ _ p=>(hc ρ' p).elim)
theorem aj9 {ta:TA} {Q:VK} {R:List PyData->Prop} (h:PAd K f ta ρ fun xs=>∃ ds,vz xs=some ds/\ds.length<=1000/\R ds) (e:EnvOk K f ρ σ H)
  (q:∀ p ds vs H1,Goes f H H1->H1 p=none->Reps K (hide H1 f) ds vs->R ds->Q (.ref p) (upd H1 p (.lst vs))):afi ta σ H Q :=
 h σ H _ e fun xs vs H1 g1 r1 ⟨ds,ea,hl,p⟩=>by
  have rs:=aal r1 ea;exact⟨by rw [rs.length];exact arE (yd hl),fun l hn=>q l ds vs H1 g1 hn rs p⟩
end
section
variable {K:aqu} {f:Fx} {ρ:zr}
theorem Goes.free {H H':Hp} {p:Addr} (g:Goes f H H') (fo:FOk f H) (h:H' p=none):H p=none:=by
 cases q:H p with
 | none=>rfl
 | some o =>
  by_cases hh:f.f=some p \/ p∈f.M
  ·rcases hh with hh | hh
   ·obtain⟨a,b,h1,_⟩:=g.ok.fd p hh;rw [h] at h1;cases h1
   ·rw [g.kp p hh,q] at h;cases h
  ·have:=zY (g.sm p o (zJ hh q));rw [h] at this;cases this.2
def PEdL (K:aqu) (f:Fx) (te:TE) (ρ:zr) (P:List PyData->Prop):Prop:=∀ (σ:St) (H:Hp) (Q:VK),EnvOk K f ρ σ H ->
 (∀ es D vs H',Goes f H H'->H D=none->H' D=some (.lst vs)->Reps K (hide H' f) es vs->P es->Q (.ref D) H')->te σ H Q
theorem PEdL.ped {te:TE} {P:PyData->Prop} (h:PEdL K f te ρ fun es=>P (.list es)):PEd K f te ρ P:=fun σ H Q e q=>h σ H Q e fun es D vs H' g n h1 r p =>
 q (.list es) _ H' g (rep_list.mpr ⟨D,vs,rfl,.of (zJ (fresh_ne e.fd n) h1),r⟩) p
end
structure TabAt (H:Hp) (a:Addr) (as:List Addr) (rows:List (List Int)):Prop where
 top:H a=some (.lst (as.map .ref))
 nd:(a :: as).Nodup
 len:as.length=rows.length
 row:∀ (i:Nat) x r,as[i]?=some x->rows[i]?=some r->H x=some (.lst (r.map .int))
def aoA (K:aqu):List V->Hp->VK->Prop:=fun xs H Q=>∃ x n b,xs=[x,.ty n]/\((∃ a ys,x=.ref a/\SqL K H a ys/\asB K (.type "list") (.type n)=some b) \/ (∃ a ys,x=.ref a/\SqT K H a ys/\asB K (.type "tuple") (.type n)=some b) \/ ∃ t,TyOf K H x t/\asB K t (.type n)=some b)/\Q (.bl b) H
theorem aka {X:Cx}:yC X (.builtin "isinstance") (aoA X.K):=by
 intro pins s σ H xs us Q I r h;obtain⟨x,n,b,rfl,hx,q⟩:=h;obtain⟨u,w',rfl,rx,rn⟩:=vals2 r;cases rn;rcases hx with⟨a,ys,rfl,hq,hk⟩ | ⟨a,ys,rfl,hq,hk⟩ | ⟨t,ty,hk⟩
 ·cases rx;obtain⟨its,_,p,_⟩:=I.list hq;obtain⟨o,ho,hc,_⟩:=p.isList;exact arx atQ I.kIn ⟨o,ho,hc⟩ hk (fun z=>nomatch z) fun tk=>⟨.bl b,H,I.tok tk,rfl,q⟩
 ·cases rx;obtain⟨its,_,p,_⟩:=I.tuple hq;obtain⟨o,ho,hc,_⟩:=p;exact arx PySem.W.kitx_tuple I.kIn ⟨o,ho,hc⟩ hk (fun z=>nomatch z) fun tk=>⟨.bl b,H,I.tok tk,rfl,q⟩
 ·exact aiQ I rx ty hk fun tk=>⟨.bl b,H,I.tok tk,rfl,q⟩
section
variable {K:aqu} {f:Fx} {ρ:zr} {P:PyData->Prop} {te ta tb:TE}
theorem apL {n:String} {b:Bool} (hk:asB K (.type "list") (.type n)=some b) (h:PEd K f te ρ fun d=>∃ ds,d=.list ds/\P (.bool b)):PEd K f (tCB (aoA K) (zN te (zN (tC (.ty n)) yY))) ρ P:=fun σ H Q e q=>h σ H _ e fun d v H1 g r ⟨ds,ed,p⟩=>by
 subst ed;obtain⟨a,xs,rfl,s1,_⟩:=rep_list.mp r;exact⟨_,n,b,rfl,.inl ⟨a,xs,rfl,(zm _ _).seq s1,hk⟩,q _ _ H1 g (rep_bool.mpr rfl) p⟩
end
section
variable {X:Cx} {K:aqu}
theorem zF (hK:X.K=K):IxR X (afk K):=hK▸al9
theorem zW (hK:X.K=K):IxR X (afl K):=hK▸aoq
theorem yt (hK:X.K=K):yC X (.builtin "len") (fun xs H Q=>∃ p ys,xs=[.ref p]/\(SqL K H p ys \/ SqT K H p ys)/\Q (.int ys.length) H):=hK▸ael
theorem yJ (hK:X.K=K):yC X (.type "tuple") (fun xs H Q=>∃ p ys,xs=[.ref p]/\((SqL K H p ys/\∀ l,H l=none->Q (.ref l) (upd H l (.tup ys))) \/ (SqT K H p ys/\Q (.ref p) H))):=hK▸ads
theorem vc (hK:X.K=K) (hc:X.calm=true):yC X (.builtin "min") (fun xs H Q=>∃ a ns,xs=[.ref a]/\SqL K H a (ns.map V.int)/\ns≠[]/\∀ M,M∈ns->(∀ b∈ns,M<=b)->Q (.int M) H):=hK▸aiV hc
theorem vd (hK:X.K=K) (hc:X.calm=true):yC X (.builtin "max") (fun xs H Q=>∃ a ns,xs=[.ref a]/\SqL K H a (ns.map V.int)/\ns≠[]/\∀ M,M∈ns->(∀ b∈ns,b<=M)->Q (.int M) H):=hK▸aiW hc
theorem qV (hK:X.K=K) (hu:X.A.units+64<cLine):OpR X (compareOp .Eq) (aj0 K false):=hK▸aou hu
theorem vB (hK:X.K=K) (hu:X.A.units+64<cLine):OpR X (compareOp .NotEq) (aj0 K true):=hK▸aov hu
theorem aiZ (hK:X.K=K):yC X (.builtin "isinstance") (aoA K):=hK▸aka
variable {tg l e st:Expr} {tl te ts:TE} {ta:TA} {p pos p2:Pos}
theorem zy (hK:X.K=K) (hl:PE X l tl):PI X tg l (adC K tl):=hK▸al3 hl
theorem aan (hK:X.K=K) (hl:PE X l tl):PI X tg l (aoj K tl):=hK▸aok hl
theorem acP {es:List Expr} {k:Nat} {tpos:Pos} (hK:X.K=K) (hg:Gl X "enumerate") (hm:X.mg "enumerate"=none) (ha:PA X [l] ta) (hs:starEach [l] X.env=[(false,eval l X.env)]:=by rfl):PI X (.Tuple es k tpos) (.Call (.Name "enumerate" p) [l] [] pos) (ahD K ta):=hK▸ama hg hm ha hs
theorem ym (hK:X.K=K) (ha:PE X e te) (he:∀ whole,isTrue e X.env whole=(do let v <- whole;standAt e.pos;holding [v] (truthy v))):PT X e (aow K te):=hK▸aox ha he
theorem zG {es:List Expr} {k:Nat} {t:TGs} {n:Nat} (hK:X.K=K) (hc:X.calm=true) (h:PGs X es t) (hn:(assignEach es X.env).length=n:=by rfl) (hst:(assignEach es X.env).findIdx? (·.1)=none:=by rfl):PG X (.Tuple es k pos) (al1 K n t):=hK▸aoh hc h hn hst
end
structure ItD (K:aqu) (f:Fx) (ds:List PyData) (J:It) (H1:Hp):Prop where
 go:∀ (f':Fx) (H':Hp) (i:Nat) d,FOk f' H'->Same (hide H1 f) (hide H' f')->ds[i]?=some d->J.go i H'/\∀ x H3,J.yld i H' x H3->Goes f' H' H3/\Rep K (hide H3 f') d x
 st:∀ (f':Fx) (H':Hp),FOk f' H'->Same (hide H1 f) (hide H' f')->J.stop ds.length H'
def PId (K:aqu) (f:Fx) (wi:TI) (ρ:zr) (R:List PyData->Prop):Prop:=∀ (σ:St) (H:Hp) (C:It->Hp->Prop),EnvOk K f ρ σ H ->
 (∀ ds J H1,Goes f H H1->ItD K f ds J H1->R ds->C J H1)->wi σ H C
noncomputable def aab (n:Nat):List PyData:=(aqL n).map fun (i:Nat)=>.int (i:Int)
noncomputable def aa6 (ds:List PyData):List PyData:=ds.mapIdx fun i d=>.tuple [.int (i:Int),d]
section
variable {K:aqu} {f:Fx} {ρ:zr} {R:List PyData->Prop} {tl:TE} {t:TA}
theorem PId.imp {wi:TI} {R':List PyData->Prop} (h:PId K f wi ρ R) (i:∀ ds,R ds->R' ds):PId K f wi ρ R':=fun σ H C e q=>h σ H C e fun ds J H1 g it r=>q ds J H1 g it (i ds r)
theorem qE (h:PAd K f t ρ fun xs=>∃ j:Int,xs=[.dat (.int j)]/\-(2 ^ 62)<=j/\j<2 ^ 62/\R (aab j.toNat)):PId K f (ahu t) ρ R:=fun σ H C e q=>h σ H _ e fun xs vs H1 g1 r1 ⟨j,ex,q1,q2,p⟩=>by
 subst ex;cases r1 with
 | @cons _ v0 _ _ rx r' =>
  cases r';have rx':Rep K (hide H1 f) (.int j) v0:=rx;refine⟨j,by rw [rep_int.mp rx'],q1,q2,q _ _ H1 g1 ⟨fun f' H' i d fo _ hd=>?_,fun f' H' _ _=>?_⟩ p⟩
  ·unfold aab at hd;rw [aqA] at hd;by_cases hi:i<j.toNat
   ·rw [arW hi] at hd;cases hd;refine⟨hi,fun x H3 hy=>?_⟩;obtain⟨rfl,rfl⟩:=hy;exact⟨.refl fo,rep_int.mpr (by rw [Int.zero_add])⟩
   ·rw [aqZ (by rw [ara];omega)] at hd;cases hd
  ·show j.toNat<=(aab j.toNat).length;unfold aab;rw [aqr,ara];exact aqC _
theorem zV (h:PEd K f tl ρ fun x=>∃ ds,x=.list ds/\R ds):PId K f (adC K tl) ρ R:=fun σ H C e q=>h σ H _ e fun x v H1 g1 r1 ⟨ds,ex,p⟩=>by
 subst ex;obtain⟨a,xs,rfl,h1,h2⟩:=rep_list.mp r1;have hl:=h2.length;refine⟨a,rfl,⟨xs,(zm _ _).seq h1⟩,q ds _ H1 g1 ⟨fun f' H' i d fo sm hd=>?_,fun f' H' _ sm=>⟨xs,(zm _ _).seq (sm.seq h1),asq hl⟩⟩ p⟩;obtain⟨z,hz,rz⟩:=h2.get hd;have sq:SqL K H' a xs:=(zm _ _).seq (sm.seq h1);refine⟨⟨xs,z,sq,hz⟩,fun x H3 hy=>?_⟩;obtain⟨rfl,hy⟩:=hy;have ez:=hy xs sq;rw [hz] at ez;cases ez;exact⟨.refl fo,Rep.mono sm _ _ rz⟩
theorem adO (h:PEd K f tl ρ fun x=>∃ ds,x=.tuple ds/\R ds):PId K f (aoj K tl) ρ R:=fun σ H C e q=>h σ H _ e fun x v H1 g1 r1 ⟨ds,ex,p⟩=>by
 subst ex;obtain⟨a,xs,rfl,h1,h2⟩:=rep_tuple.mp r1;have hl:=h2.length;refine⟨a,rfl,⟨xs,(zm _ _).seqT h1⟩,q ds _ H1 g1 ⟨fun f' H' i d fo sm hd=>?_,fun f' H' _ sm=>⟨xs,(zm _ _).seqT (sm.seqT h1),asq hl⟩⟩ p⟩;obtain⟨z,hz,rz⟩:=h2.get hd;have sq:SqT K H' a xs:=(zm _ _).seqT (sm.seqT h1);refine⟨⟨xs,z,sq,hz⟩,fun x H3 hy=>?_⟩;obtain⟨rfl,hy⟩:=hy;have ez:=hy xs sq;rw [hz] at ez;cases ez;exact⟨.refl fo,Rep.mono sm _ _ rz⟩
theorem akb (h:PAd K f t ρ fun xs=>∃ ds,xs=[.dat (.list ds)]/\R (aa6 ds)):PId K f (ahD K t) ρ R:=fun σ H C e q=>h σ H _ e fun xs vs H1 g1 r1 ⟨ds,ex,p⟩=>by
 subst ex;cases r1 with
 | cons rx r' =>
  cases r';obtain⟨a,xs,rfl,h1,h2⟩:=rep_list.mp rx;have hl:=h2.length;refine⟨a,rfl,⟨xs,(zm _ _).seq h1⟩,q (aa6 ds) _ H1 g1 ⟨fun f' H' i d fo sm hd=>?_,fun f' H' _ sm=>⟨xs,(zm _ _).seq (sm.seq h1),by unfold aa6;rw [List.length_mapIdx];exact asq hl⟩⟩ p⟩;unfold aa6 at hd;rw [ato] at hd;cases eq:ds[i]? with
  | none=>rw [eq] at hd;cases hd
  | some d0 =>
   rw [eq] at hd;cases hd;obtain⟨z,hz,rz⟩:=h2.get eq;have sq:SqL K H' a xs:=(zm _ _).seq (sm.seq h1);refine⟨⟨xs,z,sq,hz⟩,fun x H3 hy=>?_⟩;obtain⟨tp,y,rfl,hn,rfl,hy⟩:=hy;have ez:=hy xs sq;rw [hz] at ez;cases ez;have gn:Goes f' H' (upd H' tp (.tup [.int i,z])):=.of_same (yj hn _) fo;exact⟨gn,rep_tuple.mpr ⟨tp,_,rfl,.of (zJ (fresh_ne fo hn) zB),.cons' (rep_int.mpr rfl) (.cons' (Rep.mono gn.1 _ _ (Rep.mono sm _ _ rz)) .nil')⟩⟩
end
section
variable {K:aqu} {f:Fx} {ρ:zr} {D:DEnds} {wi:TI} {g:TG} {ts:TS}
theorem akc (h:PId K f wi ρ fun ds=>∃ J:Nat->zr->Prop,J 0 ρ /\
   (∀ (i:Nat) d ρ',ds[i]?=some d->J i ρ'->PGd K f g d ρ' fun ρ2=>PSd K f ts ρ2 { D with nx:=J (i+1),ct:=J (i+1),bk:=D.nx })/\∀ ρ',J ds.length ρ'->D.nx ρ') :
  PSd K f (al4 wi g ts) ρ D:=fun σ H E e n r b c=>h σ H _ e fun ds J H1 g1 it ⟨Jv,j0,js,jd⟩=>by
 refine⟨fun i m σ' H'=>∃ ρ',EnvOk K f ρ' σ' H'/\Goes f H1 H'/\Jv i ρ'/\m+i=ds.length,⟨ds.length,ρ,e.mono g1,.refl g1.2,j0,rfl⟩,fun i m σ' H' ⟨ρ',e',g',p,hm⟩=>?_⟩;by_cases hi:i<ds.length
 ·obtain⟨hgo,hy⟩:=it.go f H' i _ e'.fd g'.sm (aqq hi);refine .inr ⟨hgo,fun σ2 H2=>∃ ρ2,EnvOk K f ρ2 σ2 H2/\Goes f H1 H2/\Jv (i+1) ρ2,fun σ2 H2 ⟨ρ2,e2,g2,p2⟩=>⟨m - 1,by omega,ρ2,e2,g2,p2,by omega⟩,fun x H3 hx=>?_⟩;obtain⟨g3,r3⟩:=hy x H3 hx;refine js i _ ρ' (aqq hi) p σ' H3 x _ (e'.mono g3) r3 fun ρ2 σ2 H4 g4 e4 p4=>?_;have gg:=g'.trans (g3.trans g4);exact p4 σ2 H4 _ e4 (fun ρ5 σ5 H5 g5 e5 p5=>⟨ρ5,e5,gg.trans g5,p5⟩) (fun d v H5 g5 r5 p5=>r d v H5 (g1.trans (gg.trans g5)) r5 p5) (fun ρ5 σ5 H5 g5 e5 p5=>n ρ5 σ5 H5 (g1.trans (gg.trans g5)) e5 p5) (fun ρ5 σ5 H5 g5 e5 p5=>⟨ρ5,e5,gg.trans g5,p5⟩)
 ·have ei:i=ds.length:=by omega
  subst ei;exact .inl ⟨it.st f H' e'.fd g'.sm,n ρ' σ' H' (g1.trans g') e' (jd ρ' p)⟩
end
section
variable {K:aqu} {f:Fx} {ρ:zr} {D:Addr} {wi:TI} {g:TG} {tt:TT} {te:TE}
theorem CSt.self {H2 H:Hp} {es:List PyData} {σ:St} (c:CSt K f D H2 ρ es σ H):CSt K f D H ρ es σ H:=⟨c.env,Same.refl _,fun _ _=>rfl,c.lst⟩
theorem CSt.trans {H2 H H':Hp} {es es':List PyData} {ρ':zr} {σ σ':St} (c:CSt K f D H2 ρ es σ H) (d:CSt K f D H ρ' es' σ' H'):CSt K f D H2 ρ' es' σ' H':=⟨d.env,c.sm.trans d.sm,fun b hb=>(d.kp b hb).trans (c.kp b hb),d.lst⟩
def PBd (K:aqu) (f:Fx) (D:Addr) (tb:TB) (ρ:zr) (es:List PyData) (R:zr->List PyData->Prop):Prop:=f.f≠some D->D∉f.M->∀ (σ:St) (H H2:Hp) (W:St->Hp->Prop),CSt K f D H2 ρ es σ H ->
 (∀ ρ2 es2 σ2 H',CSt K f D H2 ρ2 es2 σ2 H'->R ρ2 es2->W σ2 H')->tb σ H W
theorem yl {es:List PyData} {R:zr->List PyData->Prop} (hl:es.length<1000) (h:PEd K (f.with D) te ρ fun e=>R ρ (es++[e])):PBd K f D (vb D te) ρ es R:=fun hD hM σ H H2 W c q =>
 h σ H _ c.env fun e u H5 g5 r5 p5=>by
  have c5:=c.go g5 (c.env.mono g5);obtain⟨vs,h1,h2⟩:=c5.lst;exact⟨vs,h1,yd (by rw [h2.length];omega),q _ _ _ _ (c5.put hD hM h1 h2 r5) p5⟩
theorem akd {fi:Fx} {Hi H2 H:Hp} {ds es:List PyData} {J:It} {tb:TB} {σ:St} {W:St->Hp->Prop} (it:ItD K fi ds J Hi) (hD:f.f≠some D) (hM:D∉f.M) (c:CSt K f D H2 ρ es σ H) (sm:Same (hide Hi fi) (hide H (f.with D)))
  (Jv:Nat->zr->List PyData->Prop) (j0:Jv 0 ρ es)
  (js:∀ (i:Nat) d ρ' es',ds[i]?=some d->Jv i ρ' es'->PGd K (f.with D) g d ρ' fun ρ2=>PTd K (f.with D) tt ρ2 fun b=>if b=true then PBd K f D tb ρ2 es' (Jv (i+1)) else Jv (i+1) ρ2 es')
  (hW:∀ ρ' es' σ' H',CSt K f D H2 ρ' es' σ' H'->Jv ds.length ρ' es'->W σ' H'):ab3 J g tt tb σ H W:=by
 refine⟨fun i m σ' H'=>∃ ρ' es',CSt K f D H2 ρ' es' σ' H'/\Same (hide Hi fi) (hide H' (f.with D))/\Jv i ρ' es'/\m+i=ds.length,⟨ds.length,ρ,es,c,sm,j0,rfl⟩,fun i m σ' H' ⟨ρ',es',c',sm',p,hm⟩=>?_⟩;by_cases hi:i<ds.length
 ·obtain⟨hgo,hy⟩:=it.go (f.with D) H' i _ c'.env.fd sm' (aqq hi);refine .inr ⟨hgo,fun x H3 hx=>?_⟩;obtain⟨g3,r3⟩:=hy x H3 hx;have c3:=c'.go g3 (c'.env.mono g3);refine js i _ ρ' es' (aqq hi) p σ' H3 x _ c3.env r3 fun ρ2 σ2 H4 g4 e4 p4=>?_;have c4:=c3.go g4 e4;refine p4 σ2 H4 _ e4 fun b H5 g5 p5=>?_;have c5:=c4.go g5 (e4.mono g5);have sm5:=((sm'.trans g3.sm).trans g4.sm).trans g5.sm;cases b with
  | false =>
   rw [if_neg aqt] at p5 ⊢;exact⟨m - 1,by omega,ρ2,es',c5,sm5,p5,by omega⟩
  | true =>
   rw [if_pos rfl] at p5 ⊢;exact p5 hD hM σ2 H5 H5 _ c5.self fun ρ6 es6 σ6 H6 c6 p6=>⟨m - 1,by omega,ρ6,es6,c5.trans c6,sm5.trans c6.sm,p6,by omega⟩
 ·have ei:i=ds.length:=by omega
  subst ei;exact .inl ⟨it.st (f.with D) H' c'.env.fd sm',hW ρ' es' σ' H' c' p⟩
theorem aoB {es:List PyData} {tb:TB} {R:zr->List PyData->Prop} (h:PId K (f.with D) wi ρ fun ds=>∃ Jv:Nat->zr->List PyData->Prop,Jv 0 ρ es /\
   (∀ (i:Nat) d ρ' es',ds[i]?=some d->Jv i ρ' es'->PGd K (f.with D) g d ρ' fun ρ2=>PTd K (f.with D) tt ρ2 fun b=>if b=true then PBd K f D tb ρ2 es' (Jv (i+1)) else Jv (i+1) ρ2 es') /\
   ∀ ρ' es',Jv ds.length ρ' es'->R ρ' es'):PBd K f D (tIn wi g tt tb) ρ es R:=fun hD hM σ H H2 W c q =>
 h σ H _ c.env fun ds J H1 g1 it ⟨Jv,j0,js,jd⟩ =>
  akd it hD hM (c.go g1 (c.env.mono g1)) (Same.refl _) Jv j0 js fun ρ' es' σ' H' c' p=>q ρ' es' σ' H' c' (jd ρ' es' p)
def PEdO (K:aqu) (f:Fx) (te:TE) (ρ:zr) (P:List PyData->Prop):Prop:=∀ (σ:St) (H:Hp) (Q:VK),EnvOk K f ρ σ H ->
 (∀ es D vs H',Goes f H H'->H D=none->H' D=some (.lst vs)->Reps K (hide H' (f.with D)) es vs->P es->Q (.ref D) H')->te σ H Q
theorem PEdO.pedl {P:List PyData->Prop} (h:PEdO K f te ρ P):PEdL K f te ρ P:=fun σ H Q e q=>h σ H Q e fun es D vs H' g n h1 r p=>q es D vs H' g n h1 (Reps.mono same_with es vs r) p
theorem PEdO.ped {P:PyData->Prop} (h:PEdO K f te ρ fun es=>P (.list es)):PEd K f te ρ P:=h.pedl.ped
theorem anD {P:List PyData->Prop} (h:P []):PEdO K f (afi yY) ρ P:=fun σ H Q e q=>⟨aq2 _,fun p hn=>q [] p [] _ (.of_same (yj hn _) e.fd) hn zB .nil' h⟩
theorem qW {own:Nat} {fr:List Nat} {tb:Addr->TB} {P:List PyData->Prop} (h:PId K f wi ρ fun ds=>∃ Jv:Nat->zr->List PyData->Prop,Jv 0 (vA own fr ρ) [] /\
   (∀ D (i:Nat) d ρ' es',ds[i]?=some d->Jv i ρ' es'->PGd K (f.with D) g d ρ' fun ρ2=>PTd K (f.with D) tt ρ2 fun b=>if b=true then PBd K f D (tb D) ρ2 es' (Jv (i+1)) else Jv (i+1) ρ2 es') /\
   ∀ ρ' es',Jv ds.length ρ' es'->P es'):PEdO K f (jC wi own fr g tt tb) ρ P:=fun σ H Q e q =>
 h σ H _ e fun ds J H1 g1 it ⟨Jv,j0,js,jd⟩ D hn=>by
  have nD:=fresh_ne g1.2 hn;have hD:f.f≠some D:=fun z=>nD (.inl z);have hM:D∉f.M:=fun z=>nD (.inr z);refine akd it hD hM (aaS hn (e.mono g1)) (jN hn) Jv j0 (js D) fun ρ' es' σ' H' c' p=>?_;obtain⟨ge,rep⟩:=acO (σ':=σ') hn g1.2 c';obtain⟨vs,h1,h2⟩:=c'.lst;exact q es' D vs H' (g1.trans ge) (g1.free e.fd hn) h1 h2 (jd ρ' es' p)
end
section
variable {K:aqu} {f:Fx} {ρ:zr} {D:Addr} {wi:TI} {g:TG} {tt:TT} {te:TE}
theorem abL {F:PyData->List PyData} {ds:List PyData} {i:Nat} {d:PyData} (h:ds[i]?=some d):(ds.take (i+1)).flatMap F=(ds.take i).flatMap F++F d:=by
 rw [arh,h,arI];simp
theorem amc {F:PyData->List PyData} {ds:List PyData} {i:Nat}:((ds.take i).flatMap F).length<=(ds.flatMap F).length:=by
 conv=>rhs;rw [<-asM i ds,arI,aqM]
 omega
def OwnE (own:Nat) (ρ0:zr) (ρ':zr):Prop:=∃ us:zr,us.length=own/\ρ'=us++ρ0
theorem OwnE.one {ρ0 ρ':zr} (h:OwnE 1 ρ0 ρ'):∃ u,ρ'=u :: ρ0:=by
 obtain⟨us,h1,rfl⟩:=h
 match us,h1 with
 | [u],_=>exact⟨u,rfl⟩
theorem OwnE.two {ρ0 ρ':zr} (h:OwnE 2 ρ0 ρ'):∃ u v,ρ'=u :: v :: ρ0:=by
 obtain⟨us,h1,rfl⟩:=h
 match us,h1 with
 | [u,v],_=>exact⟨u,v,rfl⟩
theorem OwnE.mk1 {ρ0:zr} {u:Option DV}:OwnE 1 ρ0 (u :: ρ0):=⟨[u],rfl,rfl⟩
theorem OwnE.mk2 {ρ0:zr} {u v:Option DV}:OwnE 2 ρ0 (u :: v :: ρ0):=⟨[u,v],rfl,rfl⟩
theorem aoC {own:Nat} {fr:List Nat} {tb:Addr->TB} {P:List PyData->Prop} (h:PId K f wi ρ fun ds=>∃ F:PyData->List PyData,(ds.flatMap F).length<=1000 /\
   (∀ D d ρ' es,d∈ds->OwnE own (frD fr ρ) ρ'->es.length+(F d).length<=1000->PGd K (f.with D) g d ρ' fun ρ2=>PTd K (f.with D) tt ρ2 fun b=>if b=true then PBd K f D (tb D) ρ2 es fun ρ3 es3=>OwnE own (frD fr ρ) ρ3/\es3=es++F d else OwnE own (frD fr ρ) ρ2/\F d=[]) /\
   P (ds.flatMap F)):PEdO K f (jC wi own fr g tt tb) ρ P :=
 qW (h.imp fun ds ⟨F,hl,hs,hp⟩=>by
  refine⟨fun i ρ' es=>OwnE own (frD fr ρ) ρ'/\es=(ds.take i).flatMap F,⟨⟨arZ own none,by simp,rfl⟩,by simp⟩,fun D i d ρ' es hd ⟨ho,he⟩=>?_,fun ρ' es ⟨_,he⟩=>?_⟩
  ·have hb:es.length+(F d).length<=1000:=by
    rw [he,<- aqM,<- abL hd];exact aqS amc hl
   have:=hs D d ρ' es (aqz hd) ho hb;intro σ H v Q e r q;refine this σ H v Q e r fun ρ2 σ2 H2 g2 e2 p2=>q ρ2 σ2 H2 g2 e2 (p2.imp fun b hb2=>?_);cases b with
   | false =>
    rw [if_neg aqt] at hb2 ⊢;exact⟨hb2.1,by rw [abL hd,hb2.2,arc];exact he⟩
   | true =>
    rw [if_pos rfl] at hb2 ⊢;intro h1 h2 σ3 H3 H4 W c k;exact hb2 h1 h2 σ3 H3 H4 W c fun ρ5 es5 σ5 H5 c5 ⟨o5,p5⟩=>k ρ5 es5 σ5 H5 c5 ⟨o5,by rw [p5,abL hd,he]⟩
  ·rw [he,aq6];exact hp)
theorem jo {B:Bool->Prop} (h:B true):PTd K f ajY ρ B:=fun σ H Q e q=>q true H (.refl e.fd) h
end
structure OEnds where
 nx:zr->List PyData->Prop
 rt:PyData->Prop
 bk:zr->List PyData->Prop:=fun _ _=>False
 ct:zr->List PyData->Prop:=fun _ _=>False
section
variable {K:aqu} {f:Fx} {ρ:zr} {D:Addr} {wi:TI} {g:TG} {tt:TT} {te:TE} {ts tu:TS} {es:List PyData} {O:OEnds} {i:Nat}
noncomputable def ack (n:Nat):Option DV->Option DV
 | some (.own k)=>if k<n then some (.own k) else none
 | x=>x
end
section
variable {K:aqu} {f:Fx} {ρ:zr} {P:PyData->Prop} {te ta tb:TE} {t:TA}
theorem vC (h:PAd K f t ρ fun xs=>(∃ ds,xs=[.dat (.list ds)]/\P (.tuple ds)) \/ (∃ ds,xs=[.dat (.tuple ds)]/\P (.tuple ds))) :
  PEd K f (tCB (fun xs H Q=>∃ p ys,xs=[.ref p]/\((SqL K H p ys/\∀ l,H l=none->Q (.ref l) (upd H l (.tup ys))) \/ (SqT K H p ys/\Q (.ref p) H))) t) ρ P :=
 aiY fun σ H Q e q=>h σ H Q e fun xs vs H' g r p=>by
  rcases p with⟨ds,rfl,p⟩ | ⟨ds,rfl,p⟩
  ·refine q _ vs H' g r ⟨_,rfl,fun vs H Q fo rs k=>?_⟩;obtain⟨x,r,rfl,h2,h3⟩:=reps_cons.mp rs;rw [reps_nil.mp h3];obtain⟨a,ys,rfl,s1,s2⟩:=rep_list.mp h2;refine⟨a,ys,rfl,.inl ⟨(zm _ _).seq s1,fun l hn=>?_⟩⟩;have g2:Goes f H (upd H l (.tup ys)):=.of_same (yj hn _) fo;exact k (.tuple ds) _ _ g2 (rep_tuple.mpr ⟨l,ys,rfl,.of (zJ (fresh_ne fo hn) zB),Reps.mono g2.1 ds ys s2⟩) p
  ·refine q _ vs H' g r ⟨_,rfl,fun vs H Q fo rs k=>?_⟩;obtain⟨x,r,rfl,h2,h3⟩:=reps_cons.mp rs;rw [reps_nil.mp h3];obtain⟨a,ys,rfl,s1,s2⟩:=rep_tuple.mp h2;exact⟨a,ys,rfl,.inr ⟨(zm _ _).seqT s1,k (.tuple ds) _ H (.refl fo) (rep_tuple.mpr ⟨a,ys,rfl,s1,s2⟩) p⟩⟩
end
noncomputable abbrev f0:Fx:=⟨none,[]⟩
theorem fok0 (H:Hp):FOk f0 H:=⟨(fun p e=>by cases e),(fun b hb=>by cases hb),(fun p e=>by cases e)⟩
theorem apM {H H':Hp} (s:Same H H'):Goes f0 H H':=.of_same s (fok0 H)
theorem same0 {H H':Hp} (g:Goes f0 H H'):Same H H':=fun b o h=>(zY (g.sm b o (by rw [y8];exact h))).2
noncomputable def aeq:Option DV->Option DV
 | some (.dat d)=>some (.dat d)
 | _=>none
section
variable {K:aqu} {ρ:zr} {te:TE} {tu:TS} {i:Nat}
theorem acQ {p:Addr} {σ:St} {H:Hp} (e:EnvOk K ⟨some p,[]⟩ ρ σ H):EnvOk K f0 (ρ.map aeq) σ H:=by
 refine⟨by rw [aqr];exact e.len,fun i x h=>?_,fok0 H⟩;rw [aqA] at h;cases eq:ρ[i]? with
 | none=>rw [eq] at h;cases h
 | some y =>
  rw [eq] at h;cases y with
  | none=>cases h
  | some y =>
   obtain⟨v,h1,h2⟩:=e.get i y eq;cases y with
   | dat d =>
    cases h;refine⟨v,h1,?_⟩;show Rep K (hide H f0) d v;rw [y8];exact Rep.mono (zm _ _) d v h2
   | feed=>cases h
   | own k=>cases h
   | exc C=>cases h
   | mon φ=>cases h
theorem aoD {Dn:DEnds} (h:∀ (σ:St) (H:Hp) (Q:VK),EnvOk K f0 ρ σ H->(∀ (p:Addr) (x y:Int) (H':Hp),Same H H'->H p=none->H' p=some (.lst [.int x,.int y])->0<=x->0<=y->y<2147483647->Q (.ref p) H')->te σ H Q)
  (hr:∀ p,PSd K ⟨some p,[]⟩ tu (ρ.set i (some .feed)) { nx:=fun ρ'=>Dn.nx (ρ'.map aeq),rt:=Dn.rt,bk:=fun ρ'=>Dn.bk (ρ'.map aeq),ct:=fun ρ'=>Dn.ct (ρ'.map aeq) }) :
  PSd K f0 (vZ (qA te (yX i)) tu) ρ Dn:=fun σ H E e n r b k=>h σ H _ e fun p x y H1 sm hn hp x0 y0 y1=>by
 have fo:FOk ⟨some p,[]⟩ H1:=⟨fun p' e=>by cases e;exact⟨x,y,hp,x0,y0,y1⟩,(fun b hb=>by cases hb),fun _ _ hb=>by cases hb⟩;have sm0:Same H (hide H1 ⟨some p,[]⟩):=fun b o hb=>by
  have nb:b≠p:=fun e=>by rw [e,hn] at hb;cases hb
  refine zJ (fun z=>?_) (sm b o hb);rcases z with z | z
  ·cases z;exact nb rfl
  ·cases z
 have e1:EnvOk K ⟨some p,[]⟩ ρ σ H1:=by
  refine⟨e.len,fun j z hz=>?_,fo⟩;obtain⟨v,a1,a2⟩:=e.get j z hz;refine⟨v,a1,?_⟩;cases z with
  | dat d =>
   have a2':Rep K (hide H f0) d v:=a2;rw [y8] at a2';exact Rep.mono sm0 d v a2'
  | feed=>obtain⟨q,hq,_⟩:=a2;cases hq
  | own k=>obtain⟨q,hq,_⟩:=a2;cases hq
  | exc C =>
   obtain⟨q,h3,h4⟩:=a2;refine⟨q,h3,sm0 _ _ ?_⟩;rw [y8] at h4;exact h4
  | mon φ =>
   intro H' s;refine a2 H' (Same.trans ?_ s);rw [y8];exact sm0
 have gg:∀ {H':Hp},Goes ⟨some p,[]⟩ H1 H'->Goes f0 H H':=fun g=>apM fun b o hb=>zm _ _ b o (g.sm b o (sm0 b o hb));refine hr p _ H1 E (e1.set i (x:=.feed) ⟨p,rfl,rfl⟩) (fun ρ' σ' H' g' e' p'=>n _ σ' H' (gg g') (acQ e') p') (fun d v H' g' r' p'=>r d v H' (gg g') ?_ p') (fun ρ' σ' H' g' e' p'=>b _ σ' H' (gg g') (acQ e') p') (fun ρ' σ' H' g' e' p'=>k _ σ' H' (gg g') (acQ e') p');rw [y8];exact Rep.mono (zm _ _) d v r'
end
section
variable {X:Cx} {K:aqu}
def apN (i j:Int):Prop:=0<j/\j<1152921504606846976
theorem afw:OpR X (binaryOp .FloorDiv) (rI apN fun i j=>.int (i / j)):=opI fun i j _ _ _ _ _ hc q=>by
 obtain⟨h1,h2⟩:=hc;rw [<-Int.fdiv_eq_ediv_of_nonneg i (Int.le_of_lt h1)] at q;refine floordiv_int (by omega) q (.inl (PyProof.noPylong_of_log2 ?_));have h0:j.natAbs≠0:=by omega
 have:j.natAbs.log2<60:=(Nat.log2_lt h0).mpr (by omega);omega
end
section
variable {K:aqu} {f:Fx} {ρ:zr} {wi:TI} {g:TG} {tt:TT} {own:Nat} {fr:List Nat} {tb:Addr->TB} {P:List PyData->Prop}
theorem ab5 {α:Type} {A B:α->PyData} (xs:List α) (h:PId K f wi ρ fun ds=>ds=xs.map A/\xs.length<=1000 /\
   (∀ D x ρ' es,x∈xs->OwnE own (frD fr ρ) ρ'->es.length<1000->PGd K (f.with D) g (A x) ρ' fun ρ2=>PTd K (f.with D) tt ρ2 fun b=>if b=true then PBd K f D (tb D) ρ2 es fun ρ3 es3=>OwnE own (frD fr ρ) ρ3/\es3=es++[B x] else False)/\P (xs.map B)) :
  PEdO K f (jC wi own fr g tt tb) ρ P :=
 qW (h.imp fun ds ⟨ed,hl,hs,hp⟩=>by
  subst ed;refine⟨fun i ρ' es=>OwnE own (frD fr ρ) ρ'/\es=(xs.take i).map B,⟨⟨arZ own none,by simp,rfl⟩,by simp⟩,fun D i d ρ' es hd ⟨ho,he⟩=>?_,fun ρ' es ⟨_,he⟩=>?_⟩
  ·rw [aqA] at hd;cases eq:xs[i]? with
   | none=>rw [eq] at hd;cases hd
   | some x =>
    rw [eq] at hd;cases hd;have hi:i<xs.length:=(aqs.mp eq).1;have hb:es.length<1000:=by
     rw [he,aqr,arf];omega
    intro σ H v Q e r q;refine hs D x ρ' es (aqz eq) ho hb σ H v Q e r fun ρ2 σ2 H2 g2 e2 p2=>q ρ2 σ2 H2 g2 e2 (p2.imp fun b hb2=>?_);cases b with
    | false =>
     rw [if_neg aqt] at hb2;exact hb2.elim
    | true =>
     rw [if_pos rfl] at hb2 ⊢;intro h1 h2 σ3 H3 H4 W c k;exact hb2 h1 h2 σ3 H3 H4 W c fun ρ5 es5 σ5 H5 c5 ⟨o5,p5⟩=>k ρ5 es5 σ5 H5 c5 ⟨o5,by rw [p5,he,arh,eq,aqO];rfl⟩
  ·rw [he,aqr,aq6];exact hp)
end
structure XLie (P:Program) (w:World) (outer:List Env) (H:Hp) (s:Shared) (e:Addr) (C:Value) (H':Hp) (s':Shared):Prop where
 os:s'.os=s.os
 bare:AllBare s'.gens
 un:Un (frs outer) [] H H' s.heap s'.heap
 hok:HOk P w H' s'.heap
 fly:∃ B a0,Heap.FlyingW B outer e C a0 s'.heap/\(∀ b o,s.heap.get? b=some o->b∉frs outer->∃ o',B.get? b=some o')/\∀ b o,H' b=some o->∃ o',B.get? b=some o'
 new:s.heap.get? e=none
 free:H' e=none
def CXe (P:Program) (w:World):CXT:=fun outer H s E e s'=>∃ a C H',e=.ref a/\XLie P w outer H s a C H' s'/\E C none H'
section
variable {P:Program} {w:World} {H H':Hp} {h h':Heap}
theorem ObjOk.is {a:Addr} {o:HO} (x:ObjOk P w H h a o):∃ u,h.get? a=some u:=by
 induction o with
 | lst xs=>obtain⟨_,_,_,_,e⟩:=x;exact⟨_,e⟩
 | tup xs=>obtain⟨_,_,_,ob,e,_⟩:=x;exact⟨_,e⟩
 | dK kvs=>obtain⟨_,_,_,_,o,_,_,e,_⟩:=x;exact⟨_,e⟩
 | dT kvs=>obtain⟨_,_,_,_,o,_,_,e,_⟩:=x;exact⟨_,e⟩
 | set S n=>obtain⟨o,_,_,_,e,_⟩:=x;exact⟨_,e⟩
 | ins C dx fs=>obtain⟨_,_,_,e,_⟩:=x;exact⟨_,e⟩
 | own y=>exact x
 | xd fs=>obtain⟨_,⟨o,_,_,e,_⟩,_⟩:=x;exact⟨_,e⟩
 | rng lo hi=>obtain⟨_,_,_,e⟩:=x;exact⟨_,e⟩
 | frz ob u ih=>exact⟨_,x.1⟩
 | tbl ps=>obtain⟨_,e,_⟩:=x;exact⟨_,e⟩
 | met f y=>exact⟨_,x⟩
 | ext φ=>exact x.2.1
end
end L2
end
section
namespace L2
open PySem PySem.Spec PyProof.Rows
end L2
end
section
namespace L2
open PySem PySem.Spec PySem.W PyProof.Rows PySem.Calls PySem.Builtin Builtin Builtin.ObjectAttr Builtin.Getset_descriptor
section
variable {prog:Program} {w:World} {A:Around} {E:Value->Shared->Prop} {s:Shared} {K:aqu} {a C:Addr}
structure ExcWays (K:aqu) (C:Addr):Prop where
 ga:findIn K (.ref C) "__getattribute__"=some (some (.builtin "BaseException.__getattribute__"))
 gt:findIn K (.ref C) "__getattr__"=some none
 cl:findIn K (.ref C) "__class__"=some (some (.builtin "object.__class__"))
 gs:specialIn K (.builtin "object.__class__") "__get__"=some (some (.builtin "getset_descriptor.__get__"))
 tk:takesIn K (.builtin "object.__class__")=some true
 ob:mroIn K C (.type "object")=some true
 be:mroIn K C (.type "BaseException")=some true
 iz:(clsIn K C).isSome=true
end
structure FnInX (P:Program) (w:World) (K:aqu) (mg:Str->Option Value) (base:Heap) (k:Nat) (x:Str) (ps:List Str) (sp:Sp):Prop where
 ex:∃ (f:Addr) (fd:FuncData),FnOk P w K mg base (CXe P w) k f fd ps sp/\mg x=some (.ref f)/\arM K (.ref f)=true/\Binds K fd ps []
end L2
end
section
namespace L2
open PySem PySem.Spec PyProof.Rows
def aoE (K:aqu):List V->Hp->VK->Prop:=fun xs H Q=>∃ (a:Addr) (bs:List Bool),xs=[.ref a]/\SqL K H a (bs.map V.bl)/\Q (.bl (bs.all id)) H
theorem afx:∀ {bs:List Bool} {us:List Value},Vals (bs.map V.bl) us->us=bs.map Value.bool
 | [],us,r=>by
  cases r;rfl
 | b :: bs,us,r=>by
  cases r with
  | cons h t =>
   rw [afx t];cases (show _=Value.bool b from h);rfl
theorem range_all (bs:List Bool):(aqL bs.length).all (fun i=>bs.getD i false)=bs.all id:=by
 rw [Bool.eq_iff_iff,asa,asa];constructor
 ·intro h b hb;obtain⟨i,hi,rfl⟩:=List.mem_iff_getElem.mp hb;have:=h i (aqY.mpr hi)
  rwa [aqx,aqq hi] at this
 ·intro h i hi;have hi':=aqY.mp hi;rw [aqx,aqq hi'];exact h _ (aq0 hi')
theorem afy (prog:Program) (w:World) (A:Around) (bs:List Bool):TruthOf prog w A (fun i v=>(bs.map Value.bool).toArray[i]?=some v) (fun i=>bs.getD i false):=by
 intro i v s Q E hv hq;rw [List.getElem?_toArray,aqA] at hv;cases eb:bs[i]? with
 | none=>rw [eb] at hv;cases hv
 | some b =>
  rw [eb] at hv;cases hv;dsimp only at hq;rw [aqx,eb] at hq;exact wpAny_pure hq
theorem ai0 {X:Cx} (hc:X.calm=true):yC X (.builtin "all") (aoE X.K):=by
 intro pins s σ H xs us Q I r h;obtain⟨a,bs,rfl,hq,q⟩:=h;obtain⟨u,rfl,r1⟩:=vals1 r;cases r1;obtain⟨its,rv,p,_⟩:=I.list hq;have hl:=p.isList;rw [afx rv] at hl;have ha:a<s.heap.objs.size:=by
  obtain⟨o,ho,_⟩:=hl;exact aqI ho
 refine call_all_walk (wpAny_pyIter_list hl ?_);have hne:a≠s.heap.objs.size:=aq5 ha;refine⟨s.heap.objs.size,_,_,_,_,_,_,rfl,Walks.list (show (X.A.in1).handled=none from I.ok.hd hc) _ a hne _,⟨?_,?_⟩,afy _ _ _ bs,fun h' tk hk=>?_⟩
 ·exact⟨_,aq3 _ rfl,rfl,rfl⟩
 ·exact hl.at fun o e=>aqD _ e
 ·have kp:∀ b o,s.heap.get? b=some o->h'.get? b=some o:=fun b o e=>hk b o (by
   intro z;have:=aqI e;rw [aqF.mp z] at this;exact ar8 _ this) (aqD _ e)
  refine⟨.bl _,H,I.kept (t':=tk) kp,?_,q⟩;show Value.bool _=Value.bool _;rw [aqU,aqr,range_all]
theorem adP {X:Cx} {K:aqu} (hK:X.K=K) (hc:X.calm=true):yC X (.builtin "all") (aoE K):=hK▸ai0 hc
section
variable {K:aqu} {f:Fx} {ρ:zr} {P:PyData->Prop} {te:TE}
theorem acR {H:Hp}:∀ {bs:List Bool} {xs:List V},Reps K H (bs.map .bool) xs->xs=bs.map V.bl
 | [],xs,r=>reps_nil.mp r
 | b :: bs,xs,r=>by
  obtain⟨x,r',rfl,h1,h2⟩:=reps_cons.mp r;rw [acR h2,rep_bool.mp h1];rfl
theorem anE (h:PEd K f te ρ fun x=>∃ bs:List Bool,x=.list (bs.map .bool)/\P (.bool (bs.all id))):PEd K f (tCB (aoE K) (zN te yY)) ρ P:=fun σ H Q e q=>h σ H _ e fun x v H1 g1 r1 ⟨bs,ex,p⟩=>by
 subst ex;obtain⟨a,xs,rfl,h1,h2⟩:=rep_list.mp r1;rw [acR h2] at h1;exact⟨a,bs,rfl,(zm _ _).seq h1,q _ _ H1 g1 (rep_bool.mpr rfl) p⟩
end
section
variable {prog:Program} {w:World} {A:Around} {E:Value->Shared->Prop}
theorem adQ {I:Addr} {fp wr:List Addr} {n:Nat} {P:Nat->Value->Prop} {St:Nat->Heap->Prop} (W:Walks prog w A I fp wr n P St):∀ (k i:Nat) (s:Shared) (Q:List Value->Shared->Prop),i+k<=n->St i s.heap ->
  (∀ vs h' tk,vs.length=k->(∀ (j:Nat) v,vs[j]?=some v->P (i+j) v)->St (i+k) h'->(∀ b o,b∉wr->s.heap.get? b=some o->h'.get? b=some o)->Q vs { s with heap:=h',toks:=tk })->wpAny (model prog w) A (draw (.ref I) k) Q E s
 | 0,i,s,Q,_,st,hQ=>wpAny_pure (hQ [] s.heap s.toks rfl (fun j v e=>by simp at e) st fun _ _ _ e=>e)
 | k+1,i,s,Q,hle,st,hQ=>by
  show wpAny _ _ (pyNext (.ref I) >>= _) Q E s;refine wpAny_bind (W.item i s _ E (by omega) st fun v h1 tk1 hv st1 k1=>?_);refine wpAny_bind (wpAny_holding (adQ W k (i+1) _ _ (by omega) st1 fun vs h2 tk2 hl hp st2 k2=>wpAny_pure ?_));refine hQ (v :: vs) h2 tk2 (by rw [aqT,hl]) (fun j u e=>?_) (by rw [show i+(k+1)=i+1+k by omega];exact st2) fun b o hb e=>k2 b o hb (k1 b o hb e);cases j with
  | zero=>cases e;exact hv
  | succ j =>
   have:=hp j u e
   rwa [show i+(j+1)=i+1+j by omega]
theorem agE {s:Shared} {a:Addr} {items:Array Value} {targets:List (Bool×(Value->Sem Unit))} {Q:Unit->Shared->Prop} (hh:A.handled=none) (hl:s.heap.IsList a items)
  (hn:targets.length=items.size) (hstar:targets.findIdx? (·.1)=none)
  (h:∀ h' tk,(∀ b o,s.heap.get? b=some o->h'.get? b=some o)->wpAny (model prog w) A (assignInOrder (targets.map (·.2)) items.toList) Q E { s with heap:=h',toks:=tk }):wpAny (model prog w) A (unpack (.ref a) targets) Q E s:=by
 have ha:a<s.heap.objs.size:=by
  obtain⟨o,ho,_⟩:=hl;exact aqI ho
 unfold unpack;rw [hn,hstar];refine wpAny_bind (wpAny_holding ?_);unfold unpackItems;refine wpAny_bind ?_;unfold notIterableAtAll;refine wpAny_bind (wpAny_specialOf hl.typeIs slot_list_iter.lookup (wpAny_pure ?_));simp only [ard,if_false];refine wpAny_bind (wpAny_holding (wpAny_pyIter_list hl ?_));have W:=Walks.list (prog:=prog) (w:=w) hh s.heap.objs.size a (aq5 ha) items;have fr:∀ b o,s.heap.get? b=some o->b∉[s.heap.objs.size]:=fun b o e z=>by
  have:=aqI e;rw [aqF.mp z] at this;exact ar8 _ this
 refine wpAny_bind (wpAny_holding (adQ W items.size 0 _ _ (by omega) ⟨⟨_,aq3 _ rfl,rfl,rfl⟩,hl.at fun o e=>aqD _ e⟩ fun vs h1 tk1 hvl hp st1 k1=>?_));have ev:vs=items.toList:=by
  refine arV fun j=>?_;by_cases hj:j<vs.length
  ·have:=hp j _ (aqq hj);rw [at7] at this;rw [aqq hj,<- this,arO]
  ·rw [aqZ (by omega),aqZ (by rw [aqN];omega)]
 subst ev;rw [if_neg (by simp)];rw [at7] at st1;refine wpAny_bind (wpAny_holding (W.done _ _ _ st1 fun h2 tk2 k2=>?_));simp only [Option.isSome_none,ard,if_false];exact wpAny_pure (h h2 tk2 fun b o e=>k2 b o (fr b o e) (k1 b o (fr b o e) (aqD _ e)))
end
def apO (K:aqu) (n:Nat) (gs:TGs):TG:=fun v σ H Q=>∃ a xs,v=.ref a/\SqL K H a xs/\xs.length=n/\gs xs σ H Q
theorem aer {X:Cx} {K:aqu} {es:List Expr} {k:Nat} {t:TGs} {n:Nat} {pos:Pos} (hK:X.K=K) (hc:X.calm=true) (h:PGs X es t)
  (hn:(assignEach es X.env).length=n:=by rfl) (hst:(assignEach es X.env).findIdx? (·.1)=none:=by rfl):PG X (.Tuple es k pos) (apO K n t):=by
 subst hK;intro pins s σ H v u Q I r hw;obtain⟨a,xs,e1,hq,hl,hw⟩:=hw;subst e1;cases r;obtain⟨its,rv,p,hz⟩:=I.list hq;rw [assign_Tuple];refine wpAny_bind (wpAny_standAt (agE (I.ok.hd hc) p.isList (by rw [hn,<- hl,rv.length,aqU]) hst fun h' tk kp=>?_));exact h pins _ σ H xs _ Q (I.kept (t':=tk) kp) rv hw
section
variable {K:aqu} {f:Fx} {ρ:zr}
theorem ahI {n:Nat} {gs:TGs} {ds:List PyData} {R:zr->Prop} (hn:ds.length=n) (h:aj7 K f gs ds ρ R):PGd K f (apO K n gs) (.list ds) ρ R:=fun σ H v Q e r q=>by
 obtain⟨a,xs,rfl,h1,h2⟩:=rep_list.mp r;exact⟨a,xs,rfl,(zm _ _).seq h1,by rw [h2.length];exact hn,h σ H xs Q e h2 q⟩
end
def aoF (K:aqu) (neg:Bool):R2:=fun x y H Q=>∃ d ds,Rep K H d x/\Rep K H (.list ds) y/\d.canLay0=true/\(∀ e∈ds,e.canLay0=true)/\d.depth<=50/\Q (.bl (if neg then !ds.any (fun e=>aqX e d) else ds.any (fun e=>aqX e d))) H
open Classical in
noncomputable def eqR (h:Heap) (d:PyData) (u:Value):Bool:=if z:∃ e as,Reads h u e as/\e.canLay0=true then aqX z.choose d else false
theorem ake {h:Heap} {d e:PyData} {u:Value} {as:List Addr} (r:Reads h u e as) (c:e.canLay0=true):eqR h d u=aqX e d:=by
 have z:∃ e as,Reads h u e as/\e.canLay0=true:=⟨e,as,r,c⟩;unfold eqR;rw [dif_pos z];obtain⟨as',r',c'⟩:=z.choose_spec;rw [SeqAt.Reads.unique _ _ _ _ _ c' r' r]
section
variable {X:Cx} {pins:List (Addr×Obj)} {σ:St} {H:Hp} {s:Shared}
theorem aes (I:Inv X pins σ H s) {d:PyData}:∀ {ds:List PyData} {xs:List V} {us:List Value},Reps X.K H ds xs->Vals xs us->(∀ e∈ds,e.canLay0=true)->us.any (eqR s.heap d)=ds.any (fun e=>aqX e d)
 | [],xs,us,r,v,_=>by
  rw [reps_nil.mp r] at v;cases v;rfl
 | e :: ds,xs,us,r,v,c=>by
  obtain⟨x,xs',rfl,h1,h2⟩:=reps_cons.mp r;cases v with
  | cons r1 r2 =>
   obtain⟨as,ra⟩:=yZ I e x _ h1 r1;rw [asK,asK,ake ra (c e aqv),aes I h2 r2 fun e he=>c e (aqw _ he)]
theorem acS (I:Inv X pins σ H s) {A:Around} {d:PyData} {v:Value} {bs:List Addr} (rb:Reads s.heap v d bs) (cd:d.canLay0=true) (dd:d.depth<=50) (hu:A.units+60<cLine):∀ {ds:List PyData} {xs:List V} {us:List Value},Reps X.K H ds xs->Vals xs us->(∀ e∈ds,e.canLay0=true)->∀ u∈us,SeqAt.EqAt A s u v (eqR s.heap d u)
 | [],xs,us,r,w,_=>by
  rw [reps_nil.mp r] at w;cases w;intro u hu;cases hu
 | e :: ds,xs,us,r,w,c=>by
  obtain⟨x,xs',rfl,h1,h2⟩:=reps_cons.mp r;cases w with
  | cons r1 r2 =>
   intro u hm;rcases aqE.mp hm with rfl | hm
   ·obtain⟨as,ra⟩:=yZ I e x _ h1 r1;rw [ake ra (c e aqv)];refine SeqAt.eqAt_reads e d A s _ v as bs ra rb (c e aqv) cd ?_;have:=arY e.depth d.depth;omega
   ·exact acS I rb cd dd hu h2 r2 (fun e he=>c e (aqw _ he)) u hm
theorem aoG (hu:X.A.units+64<cLine):OpR X (compareOp .In) (aoF X.K false):=by
 intro pins s σ H x y v u Q I rx ry h;obtain⟨d,ds,h1,h2,c1,c2,dd,q⟩:=h;obtain⟨a,xs,rfl,hq,hr⟩:=rep_list.mp h2;cases ry;obtain⟨bs,rb⟩:=yZ I d x v h1 rx;obtain⟨its,r,pl,hz⟩:=I.list hq;refine SeqAt.in_listAt (eqR s.heap d) pl.isList (fun w hw=>acS I rb c1 dd (show X.A.in1.units+60<cLine from by show X.A.units+1+60<cLine;omega) hr r c2 w (by simpa using hw)) ⟨.bl _,H,I,rfl,?_⟩;rw [show its.toArray.any (eqR s.heap d)=its.any (eqR s.heap d) by simp,aes I hr r c2];exact q
theorem ahJ {K:aqu} (hK:X.K=K) (hu:X.A.units+64<cLine):OpR X (compareOp .In) (aoF K false):=hK▸aoG hu
theorem ai1 {K:aqu} (hK:X.K=K):OpR X (compareOp .NotIn) (rIn K true):=hK▸aek
end
section
variable {K:aqu} {f:Fx} {ρ:zr} {P:PyData->Prop} {te ta tb:TE} {t:TA} {D:DEnds} {i j:Nat}
theorem anF (h:PEd K f ta ρ fun d=>PEd K f tb ρ fun y=>∃ ds,y=.list ds/\d.canLay0=true/\(∀ e∈ds,e.canLay0=true)/\d.depth<=50/\P (.bool (ds.any fun e=>aqX e d))):PEd K f (tOp (aoF K false) ta tb) ρ P:=fun σ H Q e q =>
 h σ H _ e fun d v H1 g1 r1 p1=>p1 σ H1 _ (e.mono g1) fun y w H2 g2 r2 ⟨ds,ey,c1,c2,dd,p2⟩=>by
  subst ey;exact⟨d,ds,Rep.mono (zm _ _) _ _ (Rep.mono g2.sm _ _ r1),Rep.mono (zm _ _) _ _ r2,c1,c2,dd,q _ _ H2 (g1.trans g2) (rep_bool.mpr rfl) p2⟩
theorem akf (h:PEd K f ta ρ fun d=>∃ n:Int,d=.int n/\PEd K f tb ρ fun y=>∃ ns:List Int,y=.tuple (ns.map .int)/\P (.bool (!ns.contains n))):PEd K f (tOp (rIn K true) ta tb) ρ P:=fun σ H Q e q =>
 h σ H _ e fun d v H1 g1 r1 ⟨n,ed,p1⟩=>p1 σ H1 _ (e.mono g1) fun y w H2 g2 r2 ⟨ns,ey,p2⟩=>by
  subst ed ey;obtain⟨a,xs,rfl,h1,h2⟩:=rep_tuple.mp r2;have ex:=h2.ints;subst ex;rw [rep_int.mp r1];have e1:inV (.int n) (ns.map V.int)=ns.contains n:=by
   unfold inV;rw [List.any_map,List.contains_eq_any_beq]
   congr 1
   funext m
   show (m == n)=(n == m);exact BEq.comm
  refine⟨a,_,rfl,.inr ((zm _ _).seqT h1),rfl,?_,?_⟩
  ·rw [List.all_map];exact asa.mpr fun _ _=>rfl
  ·rw [if_pos rfl,e1];exact q _ _ H2 (g1.trans g2) (rep_bool.mpr rfl) p2
theorem apP (h:PAd K f t ρ fun xs=>∃ d d',xs=[.dat d,.dat d']/\D.nx ((ρ.set i (some (.dat d))).set j (some (.dat d')))):PSd K f (apG i j t) ρ D:=fun σ H E e n r b c =>
 h σ H _ e fun xs vs H1 g1 r1 ⟨d,d',ex,p⟩=>by
  subst ex;cases r1 with
  | cons ra rs =>
   cases rs with
   | cons rb rs =>
    cases rs;exact⟨_,_,rfl,n _ _ H1 g1 (((e.mono g1).set i (x:=.dat d) ra).set j (x:=.dat d') rb) p⟩
end
end L2
end
section
namespace L2
open PySem PySem.Spec PyProof.Rows
end L2
end
section
namespace L2
open PySem PySem.Spec PyProof.Rows
end L2
end
section
namespace L2
open PySem PySem.Spec PyProof.Rows
def aoH (K:aqu):List V->Hp->VK->Prop:=fun xs H Q=>∃ (a:Addr) (ns:List Int),xs=[.ref a]/\SqL K H a (ns.map V.int)/\Q (.int ns.sum) H
theorem ai2 {X:Cx} (hc:X.calm=true):yC X (.builtin "sum") (aoH X.K):=by
 intro pins s σ H xs us Q I r h;obtain⟨a,ns,rfl,hq,q⟩:=h;obtain⟨u,rfl,r1⟩:=vals1 r;cases r1;obtain⟨its,rv,p,_⟩:=I.list hq;have hl:=p.isList;have hi:IntsAre its ns:=intsAre_of rv;obtain⟨zs,ez⟩:=hi.allInts.items;rw [ez] at hl;refine sum_intListG (show (X.A).handled=none from I.ok.hd hc) hl fun h' tk t' kp=>⟨.int _,H,I.kept (t':=tk) kp,⟨_,rfl⟩,?_⟩;have e:preSum (numAt zs) zs.size=ns.sum:=by
  rw [<-hi.numsOf,show its=its.toArray.toList from rfl,ez,nums_intItems,preSum_eq,List.take_of_length_le (by simp)]
 rw [e];exact q
theorem aaT {X:Cx} {K:aqu} (hK:X.K=K) (hc:X.calm=true):yC X (.builtin "sum") (aoH K):=hK▸ai2 hc
section
variable {K:aqu} {f:Fx} {ρ:zr} {P:PyData->Prop} {te:TE}
theorem akg (h:PEd K f te ρ fun x=>∃ ns:List Int,x=.list (ns.map .int)/\P (.int ns.sum)):PEd K f (tCB (aoH K) (zN te yY)) ρ P:=fun σ H Q e q=>h σ H _ e fun x v H1 g1 r1 ⟨ns,ex,p⟩=>by
 subst ex;obtain⟨a,xs,rfl,h1,h2⟩:=rep_list.mp r1;rw [h2.ints] at h1;exact⟨a,ns,rfl,(zm _ _).seq h1,q _ _ H1 g1 (rep_int.mpr rfl) p⟩
end
section
variable {prog:Program} {w:World} {A:Around} {E:Value->Shared->Prop} {s:Shared}
theorem amd {t b:Addr} {vs ws:List Value} {Q:Value->Shared->Prop} (ht:PlainL s.heap t vs.toArray) (hb:PlainL s.heap b ws.toArray)
  (h2:Q (.ref s.heap.objs.size) { s with heap:=s.heap.push { cls:=.type "list",data:=.seq (vs++ws).toArray } })
  (hsz:vs.length+ws.length<=sizeLine):wpAny (model prog w) A (binaryOp .Add (.ref t) (.ref b)) Q E s:=by
 obtain⟨⟨cls,dd,data,sl⟩,n,ho,hc,_,hd⟩:=ht;obtain⟨⟨cls2,dd2,data2,sl2⟩,n2,ho2,hc2,_,hd2⟩:=hb;simp only at hc hd hc2 hd2;subst hc hd hc2 hd2;have e:vs.toArray++ws.toArray=(vs++ws).toArray:=by simp
 refine concat_meets ⟨_,ho,rfl⟩ ⟨_,ho2,rfl⟩ noFill_list_add seq_list_add PySem.F.slot_list_add PySem.F.entry_list_add (PySem.F.args_list_add_2 _ _) (list_addW t b vs.toArray ws.toArray n n2 dd dd2 sl sl2 (by rw [aqU,aqU];exact hsz)) ⟨ho,ho2,?_⟩;rw [e];exact h2
end
def akh (K:aqu):R2:=fun x y H Q=>∃ l b xs zs,x=.ref l/\y=.ref b/\SqL K H l xs/\SqL K H b zs/\xs.length+zs.length<=sizeLine/\∀ p,H p=none->Q (.ref p) (upd H p (.lst (xs++zs)))
section
variable {X:Cx}
theorem ame:OpR X (binaryOp .Add) (akh X.K):=by
 intro pins s σ H x y v u Q I rx ry h;obtain⟨l,b,xs,zs,rfl,rfl,ha,hb,hz,q⟩:=h;cases rx;cases ry;obtain⟨its,r1,p1,_⟩:=I.list ha;obtain⟨its2,r2,p2,_⟩:=I.list hb;refine amd p1 p2 ?_ (by rw [<-r1.length,<- r2.length];exact hz);exact⟨.ref _,_,I.lnew (t':=s.toks) (r1.append r2) (by rw [aqM];omega),rfl,q _ I.fresh⟩
theorem acT {K:aqu} (hK:X.K=K):OpR X (binaryOp .Add) (akh K):=hK▸ame
end
section
variable {K:aqu} {f:Fx} {ρ:zr} {P:PyData->Prop} {te ta tb:TE} {t:TA}
theorem agF (h:PEd K f ta ρ fun x=>∃ ds,x=.list ds/\PEd K f tb ρ fun y=>∃ es,y=.list es/\ds.length+es.length<=1000/\P (.list (ds++es))):PEd K f (tOp (akh K) ta tb) ρ P:=fun σ H Q e q =>
 h σ H _ e fun x v H1 g1 r1 ⟨ds,ex,p1⟩=>p1 σ H1 _ (e.mono g1) fun y w H2 g2 r2 ⟨es,ey,hl,p2⟩=>by
  subst ex ey;obtain⟨a,xs,rfl,h1,h2⟩:=rep_list.mp (Rep.mono g2.sm _ _ r1);obtain⟨b,ys,rfl,h3,h4⟩:=rep_list.mp r2;have l1:=h2.length;have l2:=h4.length;refine⟨a,b,xs,ys,rfl,rfl,(zm _ _).seq h1,(zm _ _).seq h3,by rw [l1,l2];exact arE (yd hl),fun p hn=>?_⟩;have g3:Goes f H2 (upd H2 p (.lst (xs++ys))):=.of_same (yj hn _) g2.ok;exact q (.list (ds++es)) _ _ (g1.trans (g2.trans g3)) (rep_list.mpr ⟨p,_,rfl,.of (zJ (fresh_ne g2.ok hn) zB),Reps.mono g3.sm _ _ (h2.append h4)⟩) p2
theorem aac {R:List PyData->Prop} (h:PAd K f t ρ fun xs=>∃ ds,vz xs=some ds/\ds.length<=1000/\R ds):PEdO K f (afi t) ρ R:=fun σ H Q e q =>
 h σ H _ e fun xs vs H1 g1 r1 ⟨ds,ea,hl,p⟩=>by
  have rs:=aal r1 ea;refine⟨by rw [rs.length];exact arE (yd hl),fun l hn=>?_⟩;have g2:Goes f H1 (upd H1 l (.lst vs)):=.of_same (yj hn _) g1.2;have nl:=fresh_ne g1.2 hn;refine q ds l vs _ (g1.trans g2) (g1.free e.fd hn) zB (Reps.mono (fun b o hb=>?_) _ _ rs) p;have hb':=zY hb;have hbl:b≠l:=fun z=>by
   have:=hb'.2;rw [z,hn] at this;cases this
  refine zJ (fun z=>?_) (by rw [zx hbl];exact hb'.2);rcases z with z | z
  ·exact hb'.1 (.inl z)
  ·rcases aqE.mp z with z | z
   ·exact hbl z
   ·exact hb'.1 (.inr z)
end
def spN {γ:Type} (K:aqu) (n:Nat) (pre:γ->List DV->Prop) (post:γ->List PyData->Prop):Sp:=fun vs H Q _=>∃ f xs c,RepVs K f H xs vs/\xs.length=n/\FOk f H/\pre c xs /\
 ∀ es D vs' H',Goes f H H'->H D=none->H' D=some (.lst vs')->Reps K (hide H' (f.with D)) es vs'->post c es->Q (.ref D) H'
def PSn (K:aqu) (f:Fx) (ts:TS) (ρ:zr) (R:List PyData->Prop):Prop:=∀ (σ:St) (H:Hp) (E:Ends),EnvOk K f ρ σ H ->
 (∀ es D vs H',Goes f H H'->H D=none->H' D=some (.lst vs)->Reps K (hide H' (f.with D)) es vs->R es->E.rt (.ref D) H')->ts E σ H
section
variable {K:aqu} {f:Fx} {ρ:zr} {R:List PyData->Prop} {te:TE} {ts tu:TS} {tt:TT} {t:TA} {i:Nat} {D:Addr} {es:List PyData} {O:OEnds}
theorem adR (h:PEdO K f te ρ R):PSn K f (adq te) ρ R:=fun σ H E e q=>h σ H E.rt e q
theorem ve (h:PSd K f ts ρ { nx:=fun ρ'=>PSn K f tu ρ' R,rt:=fun _=>False }):PSn K f (vZ ts tu) ρ R:=fun σ H E e q =>
 h σ H _ e (fun ρ' σ' H' g' e' p=>p σ' H' E e' fun es D vs H2 g2 hn h1 rs r=>q es D vs H2 (g'.trans g2) (g'.free e.fd hn) h1 rs r) (fun _ _ _ _ _ z=>z.elim) (fun _ _ _ _ _ z=>z.elim) (fun _ _ _ _ _ z=>z.elim)
theorem aki (h:PTd K f tt ρ fun b=>if b=true then PEdO K f te ρ R else PSn K f tu ρ R):PSn K f (vZ (alZ tt (adq te) ahr) tu) ρ R:=fun σ H E e q =>
 h σ H _ e fun b H1 g1 p=>by
  have q1:∀ es D vs H',Goes f H1 H'->H1 D=none->H' D=some (.lst vs)->Reps K (hide H' (f.with D)) es vs->R es->E.rt (.ref D) H':=fun es D vs H' g' hn=>q es D vs H' (g1.trans g') (g1.free e.fd hn);cases b with
  | true=>rw [if_pos rfl] at p ⊢;exact p σ H1 E.rt (e.mono g1) q1
  | false=>rw [if_neg aqt] at p ⊢;exact p σ H1 E (e.mono g1) q1
theorem jg {γ:Type} {n:Nat} {pre:γ->List DV->Prop} {post:γ->List PyData->Prop} {E:XK} (c:γ) (h:PAd K f t ρ fun xs=>xs.length=n/\pre c xs/\∀ es,post c es->R es):PEdO K f (acH (spN K n pre post) [] E t) ρ R:=fun σ H Q e q =>
 h σ H _ e fun xs vs H1 g1 r1 ⟨hl,hp,k⟩=>⟨f,xs,c,by rw [arc];exact r1,hl,g1.2,hp,fun es D vs' H' g' hn h1 rs p=>q es D vs' H' (g1.trans g') (g1.free e.fd hn) h1 rs (k es p)⟩
theorem anG {ta tb:TE} (h:PTd K f tt ρ fun b=>if b=true then PEdO K f ta ρ R else PEdO K f tb ρ R):PEdO K f (tIf tt ta tb) ρ R:=fun σ H Q e q =>
 h σ H _ e fun b H1 g1 p=>by
  have q1:∀ es D vs H',Goes f H1 H'->H1 D=none->H' D=some (.lst vs)->Reps K (hide H' (f.with D)) es vs->R es->Q (.ref D) H':=fun es D vs H' g' hn=>q es D vs H' (g1.trans g') (g1.free e.fd hn);cases b with
  | true=>rw [if_pos rfl] at p ⊢;exact p σ H1 Q (e.mono g1) q1
  | false=>rw [if_neg aqt] at p ⊢;exact p σ H1 Q (e.mono g1) q1
end
section
variable {P:Program} {w:World} {K:aqu} {mg:Str->Option Value} {base:Heap} {k:Nat} {x:Str} {st:Stmt} {ps:List Str} {N:List Str} {n:Nat} {γ:Type} {pre:γ->List DV->Prop} {post:γ->List PyData->Prop}
theorem Def.okN (F:Def K mg x st ps) (S:FnScope N ps (zl st)) (hn:ps.length=n)
  (h:∀ (fa:Addr) (cdv:Value) (A:Around) (outer:List Env) (s:Shared) (H:Hp) (E:XK),Room k (A.deeper (envOfC x (zl st) s.heap.objs.size fa cdv)) ->
   ∃ t,PSs (ya CX0 P w K mg base N x (zl st) fa cdv A outer s H E).nox (yw st) t/\∀ (f:Fx) (xs:List DV) (c:γ),xs.length=n->pre c xs->PSn K f t (qu N xs) (post c)) :
  FnIn P w K mg base (k+1) x ps (spN K n pre post):=by
 obtain⟨fa,fd,F1,F2,F3⟩:=F.ex;refine⟨fa,fd,F1.ok S (fun vs H Q E h=>?_) (fun cdv A outer s H vs Q E hr hs=>?_),F3,F1.kp,F2⟩
 ·obtain⟨f,xs,c,r,hl,_⟩:=h;rw [r.length,hl,hn]
 ·obtain⟨f,xs,c,r,hl,fo,hp,q⟩:=hs;obtain⟨t,h1,h2⟩:=h fa cdv A outer s H E hr;exact⟨t,h1,h2 f xs c hl hp (start N vs) H _ (jZ r fo) (fun es D vs' H' g hn' h1' rs p=>q es D vs' H' g hn' h1' rs p)⟩
end
section
variable {X:Cx} {pins:List (Addr×Obj)} {σ:St} {H:Hp} {s:Shared} {h':Heap}
theorem Inv.keptL {t':Nat} (I:Inv X pins σ H s) (k:∀ b u,b≠X.env.locals->s.heap.get? b=some u->h'.get? b=some u) (hL:∃ o,h'.get? X.env.locals=some o) (ns:∀ m,s.heap.Ns X.env.locals m->h'.Ns X.env.locals m):Inv X pins σ H { s with heap:=h',toks:=t' }:=by
 have fL:H X.env.locals=none:=I.free;refine I.step (g':=s.gens) (d':=s.drawn) (ch:=[]) (fun _ z=>nomatch z) (fun b o n _ _ e _=>k b o n e) (fun b o n _ _ e _=>⟨o.slots,k b o n e⟩) (fun b o _ _ e=>e) (fun b o _ e=>?_) (fun _ _ e=>e) (fun _ _ _ e=>e) (fun _ _ e=>e) ns (fun a o e=>(I.hok a o e).stay (fun b u hb q=>k b u (fun z=>?_) q) (fun _ q=>q) fun _ _ q=>q) I.bare
 ·by_cases hb:b=X.env.locals
  ·subst hb;exact hL
  ·exact⟨o,k b o hb e⟩
 ·rcases hb with hb | hb
  ·rw [<-hb,z,fL] at e;cases e
  ·rw [z,fL] at hb;cases hb
end
section
variable {X:Cx} {pins:List (Addr×Obj)} {σ:St} {H:Hp} {s:Shared} {h':Heap}
theorem Inv.laidL {t':Nat} {D:Addr} {o:HO} (I:Inv X pins σ H s) (k:∀ b u,b≠X.env.locals->s.heap.get? b=some u->h'.get? b=some u) (hL:∃ o,h'.get? X.env.locals=some o) (ns:∀ m,s.heap.Ns X.env.locals m->h'.Ns X.env.locals m)
  (nD:∀ b u,s.heap.get? b=some u->b≠D) (hD:H D=none) (new:ObjOk X.prog X.w (upd H D o) h' D o):Inv X pins σ (upd H D o) { s with heap:=h',toks:=t' }:=by
 have fL:H X.env.locals=none:=I.free;refine I.step (g':=s.gens) (d':=s.drawn) (ch:=[]) (fun _ z=>nomatch z) (fun b o n _ _ e _=>k b o n e) (fun b o n _ _ e _=>⟨o.slots,k b o n e⟩) (fun b u _ e n=>by rw [zx (nD b u e)];exact n) (fun b o _ e=>?_) (fun b xs e=>by rw [zx (zL e hD)];exact e) (fun b u v e=>by rw [zx (zL e hD)];exact e) (fun b ps e=>by rw [zx (zL e hD)];exact e) ns (fun a u e=>?_) I.bare
 ·by_cases hb:b=X.env.locals
  ·subst hb;exact hL
  ·exact⟨o,k b o hb e⟩
 ·by_cases ha:a=D
  ·subst ha;rw [zB] at e;cases e;exact new
  ·rw [zx ha] at e;refine (I.hok a u e).stay (fun b v hb q=>k b v (fun z=>?_) q) (fun c q=>by rw [zx (zL q hD)];exact q) fun c xs q=>by rw [zx (zL q hD)];exact q
   rcases hb with hb | hb
   ·rw [<-hb,z,fL] at e;cases e
   ·rw [z,fL] at hb;cases hb
end
theorem tup_ne {h:Heap} {L a:Addr} {m:Str->Option Value} {its:Array Value} (n:h.Ns L m) (t:IsTup h a its):a≠L:=fun z=>by
 obtain⟨o,es,ep,ho,r⟩:=n;obtain⟨o2,ho2,hc,k,hd⟩:=t;rw [z,ho] at ho2;cases ho2;rw [r.1] at hd;cases hd
theorem akj {h h':Heap} {a:Addr} {its:Array Value} (t:IsTup h a its) (k:∀ u,h.get? a=some u->h'.get? a=some u):IsTup h' a its :=
 let⟨o,ho,r⟩:=t
 ⟨o,k o ho,r⟩
end L2
end
section
namespace L2
open PySem PySem.W PyProof.Rows
structure Tot (n:Nat) (lt:Nat->Nat->Bool):Prop where
 tri:∀ i j,i<n->j<n->i≠j->lt i j=!lt j i
 tra:∀ i j k,i<n->j<n->k<n->lt i j=true->lt j k=true->lt i k=true
def Ans (cmp:Nat->Nat->(Bool->Shared->Prop)->Shared->Prop) (n:Nat) (lt:Nat->Nat->Bool) (s:Shared):Prop:=∀ i j C,i<n->j<n->C (lt i j) s->cmp i j C s
def Pm (n:Nat) (p:Array Nat):Prop:=p.toList.Perm (aqL n)
def Up (lt:Nat->Nat->Bool) (p:Array Nat) (m:Nat):Prop:=∀ i j,i<j->j<m->lt (p.getD i 0) (p.getD j 0)=true
def Dn (lt:Nat->Nat->Bool) (p:Array Nat) (m:Nat):Prop:=∀ i j,i<j->j<m->lt (p.getD j 0) (p.getD i 0)=true
theorem Pm.size {n:Nat} {p:Array Nat} (h:Pm n p):p.size=n:=by
 have:=h.length_eq
 rwa [aqN,ara] at this
theorem qG (p:Array Nat) (i:Nat):p.getD i 0=p.toList.getD i 0:=by
 by_cases h:i<p.size <;> simp [asH,h,List.getD]
theorem Pm.lt {n:Nat} {p:Array Nat} (h:Pm n p) {i:Nat} (hi:i<n):p.getD i 0<n:=by
 have hs:=h.size;have hl:i<p.toList.length:=by rw [aqN,hs];exact hi
 rw [qG,aqx,aqq hl];exact aqY.mp (h.mem_iff.mp (aq0 hl))
theorem Pm.ne {n:Nat} {p:Array Nat} (h:Pm n p) {i j:Nat} (hi:i<n) (hj:j<n) (ne:i≠j):p.getD i 0≠p.getD j 0:=by
 have hs:=h.size;have nd:p.toList.Nodup:=h.nodup_iff.mpr atn;have li:i<p.toList.length:=by rw [aqN,hs];exact hi
 have lj:j<p.toList.length:=by rw [aqN,hs];exact hj
 rw [qG,qG,aqx,aqx,aqq li,aqq lj];intro e;exact ne ((atm nd).mp e)
theorem Pm.range (n:Nat):Pm n (arK (aqL n)):=List.Perm.refl _
theorem Pm.of {n:Nat} {p q:Array Nat} (h:Pm n p) (e:q.Perm p):Pm n q:=(Array.perm_iff_toList_perm.mp e).trans h
theorem ahK {p q:Array Nat} {i j:Nat} (h:p[i]?=q[j]?):p.getD i 0=q.getD j 0:=by
 rw [ar5,ar5,h]
section
variable {cmp:Nat->Nat->(Bool->Shared->Prop)->Shared->Prop} {n:Nat} {lt:Nat->Nat->Bool} {s:Shared} {p:Array Nat}
theorem Up.more (T:Tot n lt) (hp:Pm n p) {m:Nat} (h1:1<=m) (hm:m<n) (u:Up lt p m) (h:lt (p.getD (m - 1) 0) (p.getD m 0)=true):Up lt p (m+1):=fun i j hij hj=>by
 by_cases e:j=m
 ·subst e;by_cases e2:i=j - 1
  ·subst e2;exact h
  ·exact T.tra _ _ _ (hp.lt (by omega)) (hp.lt (by omega)) (hp.lt hm) (u i (j - 1) (by omega) (by omega)) h
 ·exact u i j hij (by omega)
theorem Dn.more (T:Tot n lt) (hp:Pm n p) {m:Nat} (h1:1<=m) (hm:m<n) (u:Dn lt p m) (h:lt (p.getD m 0) (p.getD (m - 1) 0)=true):Dn lt p (m+1):=fun i j hij hj=>by
 by_cases e:j=m
 ·subst e;by_cases e2:i=j - 1
  ·subst e2;exact h
  ·exact T.tra _ _ _ (hp.lt hm) (hp.lt (by omega)) (hp.lt (by omega)) h (u i (j - 1) (by omega) (by omega))
 ·exact u i j hij (by omega)
theorem acm (T:Tot n lt) (W:Ans cmp n lt s) (hp:Pm n p) {Q:Nat->Shared->Prop}:∀ f m,1<=m->m+f<=n->Up lt p m->(∀ m',m<=m'->m'<=m+f->Up lt p m'->(m'=m+f \/ lt (p.getD m' 0) (p.getD (m' - 1) 0)=true)->Q m' s)->(kas_asc p f m).kasWp cmp Q s
 | 0,m,h1,hf,u,q=>q m (aqC _) (aqC _) u (.inl rfl)
 | f+1,m,h1,hf,u,q=>by
  refine W _ _ _ (hp.lt (by omega)) (hp.lt (by omega)) ?_;cases e:lt (p.getD m 0) (p.getD (m - 1) 0) with
  | true=>exact q m (aqC _) (by omega) u (.inr e)
  | false =>
   have e2:lt (p.getD (m - 1) 0) (p.getD m 0)=true:=by
    rw [T.tri _ _ (hp.lt (by omega)) (hp.lt (by omega)) (hp.ne (by omega) (by omega) (by omega)),e];rfl
   exact acm T W hp f (m+1) (by omega) (by omega) (u.more T hp h1 (by omega) e2) fun m' a b c d=>q m' (by omega) (by omega) c (d.imp (fun z=>by omega) id)
theorem afz (T:Tot n lt) (W:Ans cmp n lt s) (hp:Pm n p) {Q:Array Nat×Nat×Nat->Shared->Prop}:∀ f m,1<=m->m+f<=n->Dn lt p m->(∀ m',m<=m'->m'<=m+f->Dn lt p m'->Q (p,m',0) s)->(kas_desc f p m 0).kasWp cmp Q s
 | 0,m,h1,hf,u,q=>q m (aqC _) (aqC _) u
 | f+1,m,h1,hf,u,q=>by
  refine W _ _ _ (hp.lt (by omega)) (hp.lt (by omega)) ?_;cases e:lt (p.getD m 0) (p.getD (m - 1) 0) with
  | true=>exact afz T W hp f (m+1) (by omega) (by omega) (u.more T hp h1 (by omega) e) fun m' a b c=>q m' (by omega) (by omega) c
  | false =>
   have e2:lt (p.getD (m - 1) 0) (p.getD m 0)=true:=by
    rw [T.tri _ _ (hp.lt (by omega)) (hp.lt (by omega)) (hp.ne (by omega) (by omega) (by omega)),e];rfl
   refine W _ _ _ (hp.lt (by omega)) (hp.lt (by omega)) ?_;rw [e2];exact q m (aqC _) (by omega) u
theorem aoI {m:Nat} (hm:m<=p.size) (d:Dn lt p m):Up lt (kas_rev p 0 m) m:=fun i j hij hj=>by
 have g:∀ k,k<m->(kas_rev p 0 m).getD k 0=p.getD (m - 1 - k) 0:=fun k hk=>ahK (by
  unfold kas_rev;rw [getElem?_mirror_all hm,if_pos ⟨aq2 _,hk⟩,at7])
 rw [g i (by omega),g j hj];exact d _ _ (by omega) (by omega)
theorem ai3 (T:Tot n lt) (W:Ans cmp n lt s) (hp:Pm n p) (hn:1<=n) {Q:Nat×Array Nat->Shared->Prop} (q:∀ m p',1<=m->m<=n->Pm n p'->Up lt p' m->Q (m,p') s):(kas_count n p).kasWp cmp Q s:=by
 unfold kas_count;rw [KasT.kasWp_bind];refine acm T W hp (n - 1) 1 (aqC _) (by omega) (fun i j a b=>by omega) fun m h1 h2 u c=>?_;by_cases e:(m == n)=true
 ·rw [if_pos e];exact q m p h1 (by omega) hp u
 ·rw [if_neg e];have hm:m<n:=by
   have:m≠n:=fun z=>e (by rw [z];exact beq_self_eq_true _);omega
  by_cases e2:m > 1
  ·rw [if_pos e2];refine W _ _ _ (hp.lt (by omega)) (hp.lt (by omega)) ?_;rw [u 0 (m - 1) (by omega) (by omega)];exact q m p h1 (by omega) hp u
  ·rw [if_neg e2];obtain rfl:m=1:=by omega
   have c':lt (p.getD 1 0) (p.getD (1 - 1) 0)=true:=c.resolve_left (by omega);unfold kas_descPart;rw [KasT.kasWp_bind];refine afz T W hp (n - (1+1)) (1+1) (by omega) (by omega) (Dn.more T hp (aqC 1) hm (fun i j a b=>by omega) c') fun m' a b d=>?_;rw [if_neg (by show ¬ (0 > 0);omega)];unfold kas_tail3;rw [KasT.kasWp_bind];have hp2:Pm n (kas_rev p 0 m'):=hp.of (mirror_perm _ _ _ _);exact acm T W hp2 (n - m') m' (by omega) (by omega) (aoI (by rw [hp.size];omega) d) fun m2 a2 b2 u2 _=>q m2 _ (by omega) (by omega) hp2 u2
theorem abM (T:Tot n lt) (W:Ans cmp n lt s) (hp:Pm n p) {k:Nat} (hk:k<n) (u:Up lt p k) {Q:Nat->Shared->Prop}:∀ f l r,r - l<=f->l<=r->r<=k->(∀ i,i<l->lt (p.getD i 0) (p.getD k 0)=true)->(∀ i,r<=i->i<k->lt (p.getD k 0) (p.getD i 0)=true) ->
  (∀ m,m<=k->(∀ i,i<m->lt (p.getD i 0) (p.getD k 0)=true)->(∀ i,m<=i->i<k->lt (p.getD k 0) (p.getD i 0)=true)->Q m s)->(kas_place p k f l r).kasWp cmp Q s
 | 0,l,r,hf,hlr,hr,lo,hi,q=>by
  obtain rfl:l=r:=by omega
  exact q l hr lo hi
 | f+1,l,r,hf,hlr,hr,lo,hi,q=>by
  unfold kas_place;by_cases e:l >= r
  ·rw [if_pos e];obtain rfl:l=r:=by omega
   exact q l hr lo hi
  ·rw [if_neg e];refine W _ _ _ (hp.lt hk) (hp.lt (by omega)) ?_;have hm:(l+r) / 2<k:=by omega
   cases e2:lt (p.getD k 0) (p.getD ((l+r) / 2) 0) with
   | true =>
    refine abM T W hp hk u f l ((l+r) / 2) (by omega) (by omega) (by omega) lo (fun i h1 h2=>?_) q;by_cases e3:i=(l+r) / 2
    ·rw [e3];exact e2
    ·exact T.tra _ _ _ (hp.lt hk) (hp.lt (by omega)) (hp.lt (by omega)) e2 (u _ _ (by omega) h2)
   | false =>
    have e4:lt (p.getD ((l+r) / 2) 0) (p.getD k 0)=true:=by
     rw [T.tri _ _ (hp.lt (by omega)) (hp.lt hk) (hp.ne (by omega) hk (by omega)),e2];rfl
    refine abM T W hp hk u f ((l+r) / 2+1) r (by omega) (by omega) hr (fun i h1=>?_) hi q;by_cases e3:i=(l+r) / 2
    ·rw [e3];exact e4
    ·exact T.tra _ _ _ (hp.lt (by omega)) (hp.lt (by omega)) (hp.lt hk) (u _ _ (by omega) hm) e4
theorem aoJ {k m:Nat} (hk:k<p.size) (hm:m<=k) (u:Up lt p k) (lo:∀ i,i<m->lt (p.getD i 0) (p.getD k 0)=true) (hi:∀ i,m<=i->i<k->lt (p.getD k 0) (p.getD i 0)=true):Up lt (bubble p k (k - m)) (k+1):=fun i j hij hj=>by
 have g:∀ t,t<=k->(bubble p k (k - m)).getD t 0=p.getD (if t=m then k else if t<m then t else t - 1) 0:=fun t ht=>ahK (by
  rw [getElem?_bubble hk (k - m) (by omega),show k - (k - m)=m by omega];by_cases e1:t=m
  ·rw [if_pos e1,if_pos e1]
  ·rw [if_neg e1,if_neg e1];by_cases e2:t<m
   ·rw [if_neg (by omega),if_pos e2]
   ·rw [if_pos (by omega),if_neg e2])
 rw [g i (by omega),g j (by omega)];by_cases a1:i=m
 ·rw [if_pos a1,if_neg (by omega),if_neg (by omega)];exact hi _ (by omega) (by omega)
 ·rw [if_neg a1];by_cases a2:j=m
  ·rw [if_pos a2,if_pos (by omega)];exact lo _ (by omega)
  ·rw [if_neg a2];by_cases a3:i<m
   ·rw [if_pos a3];by_cases a4:j<m
    ·rw [if_pos a4];exact u _ _ hij (by omega)
    ·rw [if_neg a4];exact u _ _ (by omega) (by omega)
   ·rw [if_neg a3,if_neg (by omega)];exact u _ _ (by omega) (by omega)
theorem ahL (T:Tot n lt) (W:Ans cmp n lt s) {Q:Array Nat->Shared->Prop}:∀ f k (p:Array Nat),Pm n p->k+f=n->Up lt p k->(∀ p',Pm n p'->Up lt p' n->Q p' s)->(kas_bin f p k).kasWp cmp Q s
 | 0,k,p,hp,hf,u,q=>by
  obtain rfl:k=n:=by omega
  exact q p hp u
 | f+1,k,p,hp,hf,u,q=>by
  unfold kas_bin;rw [KasT.kasWp_bind];refine abM T W hp (by omega) u k 0 k (by omega) (aq2 _) (aqC _) (fun i hi=>by omega) (fun i a b=>by omega) fun m h1 lo hi=>?_;exact ahL T W f (k+1) _ (hp.of (bubble_perm _ _ _)) (by omega) (aoJ (by rw [hp.size];omega) h1 u lo hi) q
theorem akk (T:Tot n lt) (W:Ans cmp n lt s) (hn:1<=n) {Q:Array Nat->Shared->Prop} (q:∀ p,Pm n p->Up lt p n->Q p s):(kas_sort n).kasWp cmp Q s:=by
 unfold kas_sort;rw [KasT.kasWp_bind];refine ai3 T W (Pm.range n) hn fun m p h1 h2 hp u=>?_;by_cases e:m<n
 ·show (if m<n then _ else _:KasT (Array Nat)).kasWp cmp Q s;rw [if_pos e,show max m 1=m by omega];exact ahL T W (n - m) m p hp (by omega) u q
 ·show (if m<n then _ else _:KasT (Array Nat)).kasWp cmp Q s;rw [if_neg e];obtain rfl:m=n:=by omega
  exact q p hp u
end
end L2
end
section
namespace L2
open PySem PySem.W PySem.Calls PyProof.Rows
theorem adS:∀ f n r,r<=1->minRun' f n r<=n+1
 | 0,n,r,h=>by show n+r<=n+1;omega
 | f+1,n,r,h=>by
  rw [minRun'_succ];by_cases e:n<64
  ·rw [if_pos e];omega
  ·rw [if_neg e];have:=adS f (n / 2) (max r (n % 2)) (by omega);omega
theorem agG {n:Nat} (h:1<=n):minRun' n n 0<=n:=by
 obtain⟨f,rfl⟩:∃ f,n=f+1:=⟨n - 1,by omega⟩;rw [minRun'_succ];by_cases e:f+1<64
 ·rw [if_pos e];omega
 ·rw [if_neg e];have:=adS f ((f+1) / 2) (max 0 ((f+1) % 2)) (by omega);omega
section
variable {P:Program} {w:World} {A:Around} {X:Value->Shared->Prop} {s:Shared} {κ:SortKind} {it:Array Keyed} {n:Nat} {lt:Nat->Nat->Bool} {Q:SortSt->Shared->Prop}
theorem amf (W:Ans (kas_cmp P w A κ it) n lt s) (T:Tot n lt) (h2:2<=n) (up:∀ i,i+1<n->lt (i+1) i=false)
  (q:∀ st',arrOf st'=(arK (aqL n)).map (kas_item it)->failedOf st'=none->Q st' s):kasC (model P w) A X sortRuns' (fun _ st' s'=>Q st' s') (kas_st κ it (arK (aqL n))) s:=by
 obtain⟨r,rfl⟩:∃ r,n=r+2:=⟨n - 2,by omega⟩;have sz:(arK (aqL (r+2))).size=r+2:=by simp
 have szA:(arrOf (kas_st κ it (arK (aqL (r+2))))).size=r+2:=by
  show (Array.map _ _).size=_;rw [aur,sz]
 have mr:=agG (n:=r+2) (by omega);have at_:∀ i,i<r+2->(arK (aqL (r+2))).getD i 0=i:=fun i hi=>by simp [asH,hi]
 have cnt:(kas_count (r+2) (arK (aqL (r+2)))).kasWp (kas_cmp P w A κ it) (fun z s'=>z=(r+2,arK (aqL (r+2)))/\s'=s) s:=by
  unfold kas_count;rw [KasT.kasWp_bind];refine acm T W (Pm.range _) (r+2 - 1) 1 (aqC _) (by omega) (fun i j a b=>by omega) fun m a b u c=>?_;have e:m=r+2:=by
   rcases c with c | c
   ·omega
   ·by_cases hm:m<r+2
    ·rw [at_ m hm,at_ (m - 1) (by omega)] at c;have:=up (m - 1) (by omega);rw [show m - 1+1=m by omega,c] at this;cases this
    ·omega
  subst e;rw [if_pos (beq_self_eq_true _)];exact⟨rfl,rfl⟩
 rw [sortRuns'_eq];apply kasC_bind;apply kasC_get;simp only [szA];apply kasC_bind;apply kasC_range
 change kasC _ _ _ (forIn (0 :: 1 :: List.range' 2 r) _ _) _ _ _
 apply kasC_cons;simp only [Nat.sub_zero,at7,show ¬ (0 >= r+2) by omega,if_false];refine kasC_bind (kas_count_ (by omega) (asq sz.symm) (fun m p' s' _ _ _ z=>?_) cnt);obtain⟨z,rfl⟩:=z;cases z;simp only [show ¬ (r+2<minRun' (r+2) (r+2) 0) by omega,if_false];apply kasC_bind;apply kasC_get
 change kasC _ _ _ (modify (fun st=>setPending st ((pendingOf st).push (0,r+2,0))) >>= _) _ _ _
 apply kasC_bind;apply kasC_modify;apply kasC_pure;apply kasC_cons;simp only [show r+2 >= r+2 from aqC _,if_true];apply kasC_pure;apply kasC_bind;apply kasC_range
 change kasC _ _ _ (forIn (0 :: 1 :: List.range' 2 r) _ _) _ _ _
 apply kasC_cons;apply kasC_bind;apply kasC_get;rw [if_pos (show (pendingOf (setPending (kas_st κ it (arK (aqL (r+2)))) ((pendingOf (kas_st κ it (arK (aqL (r+2))))).push (0,r+2,0)))).size<=1 from aqC 1)];apply kasC_pure;exact kasC_pure (q _ rfl rfl)
theorem akl (W:Ans (kas_cmp P w A κ it) n lt s) (T:Tot n lt) (h2:2<=n) (hs:n<64 \/ ∀ i,i+1<n->lt (i+1) i=false)
  (q:∀ st' p,Pm n p->Up lt p n->arrOf st'=p.map (kas_item it)->failedOf st'=none->Q st' s):kasC (model P w) A X sortRuns' (fun _ st' s'=>Q st' s') (kas_st κ it (arK (aqL n))) s:=by
 rcases hs with hs | hs
 ·exact kas_runs h2 hs (G:=fun p s'=>s'=s/\Pm n p/\Up lt p n) (fun p st' s' _ e f ⟨z,a,b⟩=>by subst z;exact q st' p a b e f) (akk T W (by omega) fun p a b=>⟨rfl,a,b⟩)
 ·refine amf W T h2 hs fun st' e f=>q st' _ (Pm.range n) (fun i j hij hj=>?_) e f;have at_:∀ i,i<n->(arK (aqL n)).getD i 0=i:=fun i hi=>by simp [asH,hi]
  rw [at_ i (by omega),at_ j hj];have key:∀ d,i+d+1<n->lt i (i+d+1)=true:=fun d=>by
   induction d with
   | zero=>intro hd;rw [T.tri _ _ (by omega) hd (by omega),hs i hd];rfl
   | succ d ih =>
    intro hd;refine T.tra _ (i+d+1) _ (by omega) (by omega) hd (ih (by omega)) ?_;rw [T.tri _ _ (by omega) hd (by omega),show i+(d+1)+1=i+d+1+1 by omega,hs (i+d+1) (by omega)];rfl
  have:=key (j - i - 1) (by omega)
  rwa [show i+(j - i - 1)+1=j by omega] at this
end
section
variable {P:Program} {w:World} {A:Around} {X:Value->Shared->Prop} {s:Shared} {κ:SortKind} {vs:List Value} {lt:Nat->Nat->Bool}
structure Asks (P:Program) (w:World) (A:Around) (s:Shared) (κ:SortKind) (vs:List Value) (lt:Nat->Nat->Bool):Prop where
 kind:2<=vs.length->∀ (h':Heap),(∀ b o,s.heap.get? b=some o->h'.get? b=some o)->∀ R:SortKind->Shared->Prop,R κ { s with heap:=h' }->wpAny (model P w) A (keyKind' vs.toArray) R (fun _ _=>False) { s with heap:=h' }
 less:∀ (h':Heap),(∀ b o,s.heap.get? b=some o->h'.get? b=some o)->Ans (kas_ask P w A κ vs) vs.length lt { s with heap:=h' }
 ord:Tot vs.length lt
 few:vs.length<64 \/ ∀ i,i+1<vs.length->lt (i+1) i=false
theorem ahM {a:Addr} {e:Nat} {R:PySem.Fin->Shared->Prop} (hz:vs.length<=sizeLine) (ha:s.heap.get? a=some (seqObj "list" vs.toArray e)) {h0:Heap} (h0s:∀ b o,h0.get? b=some o->b≠a/\s.heap.get? b=some o) (K:Asks P w A { s with heap:=h0 } κ vs lt)
  (q:∀ (h':Heap) p c,Pm vs.length p->Up lt p vs.length->(∀ b o,b≠a->s.heap.get? b=some o->h'.get? b=some o)->h'.get? a=some (seqObj "list" (p.toList.map fun i=>vs.getD i Value.none).toArray c)->R (.done (.ret .none)) { s with heap:=h' }) :
  wpAny (model P w) A (Builtin.«list.sort» ⟨[.ref a],[]⟩) R X s:=by
 let h1:=s.heap.update a (asR fun _=>(#[]:Array Value))
 obtain⟨e1,a1⟩:∃ e1,h1.get? a=some (seqObj "list" #[] e1):=⟨_,get?_update_seq ha fun _=>#[]⟩
 let h2':=(h1.push (seqObj "tuple" vs.toArray 0)).push (seqObj "list" #[] 0)
 have a2:h2'.get? a=some (seqObj "list" #[] e1):=aqD _ (aqD _ a1);have k2:∀ b o,b≠a->s.heap.get? b=some o->h2'.get? b=some o:=fun b o nb eb=>aqD _ (aqD _ ((ar4 _ _ (arU nb)).trans eb));have kz:∀ b o,h0.get? b=some o->h2'.get? b=some o:=fun b o eb=>k2 b o (h0s b o eb).1 (h0s b o eb).2;rw [list_sort_plain];apply wpAny_bind;apply listItems_at ha rfl;apply wpAny_bind;refine listUpdate_at ha rfl ?_ (by simpa using hz) (aq2 _);apply wpAny_bind;apply seqEpoch_at a1 rfl;apply wpAny_bind;refine wpAny_newTuple ?_ (by simpa using hz);apply wpAny_bind;refine wpAny_newList ?_ (aq2 _);apply wpAny_holding;dsimp only
 change wpAny _ A _ _ _ { s with heap:=h2' }
 have st0:SortSt.mk' κ (vs.toArray.zip vs.toArray) #[] 7 none=kas_st κ (pairsOf vs) (arK (aqL vs.length)):=by
  have z:=kas_range (pairsOf vs);rw [pairsOf_size] at z;unfold kas_st;rw [z];rfl
 have fin:∀ (st':SortSt) (p:Array Nat),Pm vs.length p->Up lt p vs.length->arrOf st'=p.map (kas_item (pairsOf vs))->failedOf st'=none->wpAny (model P w) A (do
   let sorted:=(arrOf st').map (·.2)
   let touched:=(<- seqEpoch a) != e1
   Builtin.List.listUpdate (.ref a) fun _=>sorted
   if let some e:=failedOf st' then rule "list.sort.comparison-raised";throw e
   if touched then rule "list.sort.modified";raiseError "ValueError" "list modified during sort"
   ret .none) R X { s with heap:=h2' }:=fun st' p x1 x2 x3 x4=>by
  have out:(arrOf st').map (·.2)=(p.toList.map fun i=>vs.getD i Value.none).toArray:=by
   apply Array.toList_inj.mp;rw [x3,Array.map_map,Array.toList_map];refine as1 fun i _=>?_;show (kas_item (pairsOf vs) i).2=_;rw [kas_item_eq]
  dsimp only;rw [out,x4];obtain⟨c,a3⟩:∃ c,(h2'.update a (asR fun _=>(p.toList.map fun i=>vs.getD i Value.none).toArray)).get? a=some (seqObj "list" (p.toList.map fun i=>vs.getD i Value.none).toArray c):=⟨_,get?_update_seq a2 fun _=>(p.toList.map fun i=>vs.getD i Value.none).toArray⟩;apply wpAny_bind;apply seqEpoch_at a2 rfl;apply wpAny_bind;refine listUpdate_at a2 rfl ?_ (aq2 _) (by
   rw [aqU,aqr,aqN,x1.size];omega)
  simp only [bne_self_eq_false,ard,if_false];exact wpAny_pure (q _ p c x1 x2 (fun b o nb eb=>(ar4 _ _ (arU nb)).trans (k2 b o nb eb)) a3)
 by_cases h2:vs.length<2
 ·have two:vs.toArray.size<2:=by rw [aqU];exact h2
  rw [if_pos two,if_pos two];apply wpAny_bind;apply wpAny_pure;apply wpAny_bind;rw [StateT.run_pure];apply wpAny_pure;have z:=kas_range (pairsOf vs);rw [pairsOf_size] at z;exact fin _ (arK (aqL vs.length)) (Pm.range _) (fun i j x y=>by omega) z.symm rfl
 have two:¬ vs.toArray.size<2:=by rw [aqU];exact h2
 rw [if_neg two,if_neg two];apply wpAny_bind;refine wpAny_mono (K.kind (by omega) h2' kz (fun κ' s'=>κ'=κ/\s'={ s with heap:=h2' }) ⟨rfl,rfl⟩) ?_ fun _ _ z=>z.elim;rintro κ' s' ⟨eκ,es⟩;rw [eκ,es];have W:=K.less h2' kz;rw [kas_ask_eq] at W;rw [st0];apply wpAny_bind;refine wpAny_mono (akl (Q:=fun st' s'=>s'={ s with heap:=h2' }/\∃ p,Pm vs.length p/\Up lt p vs.length/\arrOf st'=p.map (kas_item (pairsOf vs))/\failedOf st'=none) W K.ord (by omega) K.few fun st' p x1 x2 x3 x4=>⟨rfl,p,x1,x2,x3,x4⟩) ?_ fun _ _ z=>z;rintro⟨⟨⟩,st'⟩ s' ⟨rfl,p,x1,x2,x3,x4⟩;exact fin st' p x1 x2 x3 x4
theorem afA {l:Addr} {Q:Value->Shared->Prop} (hz:vs.length<=sizeLine) (hl:s.heap.IsList l vs.toArray) (K:Asks P w A.in1.in1 s κ vs lt)
  (q:∀ (h':Heap) D p c,Pm vs.length p->Up lt p vs.length->s.heap.objs.size<=D->(∀ b o,s.heap.get? b=some o->h'.get? b=some o)->h'.get? D=some (seqObj "list" (p.toList.map fun i=>vs.getD i Value.none).toArray c)->Q (.ref D) { s with heap:=h' }) :
  wpAny (model P w) A (call (.builtin "sorted") [.ref l]) Q X s:=by
 let h1:=(s.heap.push (seqObj "list" #[] 0)).update s.heap.objs.size (asR (·++vs.toArray))
 have s1:h1.objs.size=s.heap.objs.size+1:=by rw [Heap.size_update,size_push']
 let h2':=h1.push (seqObj "list" vs.toArray 0)
 have at2:h2'.get? (s.heap.objs.size+1)=some (seqObj "list" vs.toArray 0):=by rw [<-s1];exact aq3 _ rfl
 have keep:∀ b o,s.heap.get? b=some o->b≠s.heap.objs.size+1/\h2'.get? b=some o:=fun b o eb=>by
  have lb:=aqI eb;refine⟨fun z=>?_,aqD _ ((ar4 _ _ fun z=>?_).trans (aqD _ eb))⟩
  ·rw [z] at lb;exact ar8 _ (auH lb (at3 _))
  ·rw [<-z] at lb;exact ar8 _ lb
 refine atJ kind_sorted plain_sorted entry_sorted (args_sorted1 _) ?_;unfold Builtin.«sorted»;apply wpAny_bind (m:=checkCount "sorted" 1 1 _);apply wpAny_pure;apply wpAny_bind;refine collect_list hl ?_ hz;apply wpAny_bind;refine wpAny_newList ?_ hz
 change wpAny _ _ _ _ _ { s with heap:=h2' }
 rw [show Value.ref ((s.heap.push (seqObj "list" #[] 0)).update s.heap.objs.size (asR (·++vs.toArray))).objs.size=Value.ref (s.heap.objs.size+1) from congrArg Value.ref s1];apply wpAny_bind;apply wpAny_holding;refine wpAny_call_entry slot_list_sort ⟨_,at2,rfl⟩ entry_list_sort ?_ (args_list_sort _);refine ahM (s:={ s with heap:=h2' }) hz at2 (h0:=s.heap) keep K fun h' p c x1 x2 x3 x4=>⟨_,rfl,wpAny_pure ⟨_,rfl,?_⟩⟩;exact q h' _ p c x1 x2 (auq _) (fun b o eb=>x3 b o (keep b o eb).1 (keep b o eb).2) x4
end
mutual
noncomputable def zA:PyData->Bool
 | .int _=>true
 | .str s=>(PyData.str s).canLay0
 | .tuple xs=>zM xs
 | _=>false
noncomputable def zM:List PyData->Bool
 | []=>true
 | x :: xs=>zA x && zM xs
end
mutual
noncomputable def ltD:PyData->PyData->Bool
 | .int a,.int b=>decide (a<b)
 | .str a,.str b=>decide (a.cps.toList<b.cps.toList)
 | .tuple xs,.tuple ys=>ltL xs ys
 | .int _,.str _=>true
 | .int _,.tuple _=>true
 | .str _,.tuple _=>true
 | _,_=>false
noncomputable def ltL:List PyData->List PyData->Bool
 | [],[]=>false
 | [],_ :: _=>true
 | _ :: _,[]=>false
 | x :: xs,y :: ys=>if aqX x y=true then ltL xs ys else ltD x y
end
mutual
noncomputable def v3:PyData->PyData->Bool
 | .int _,.int _=>true
 | .str _,.str _=>true
 | .tuple xs,.tuple ys=>qB xs ys
 | _,_=>false
noncomputable def qB:List PyData->List PyData->Bool
 | [],_=>true
 | _ :: _,[]=>true
 | x :: xs,y :: ys=>if aqX x y=true then qB xs ys else v3 x y
end
mutual
theorem yN:∀ d:PyData,zA d=true->d.canLay0=true
 | .int _,_=>rfl
 | .str _,h=>h
 | .tuple xs,h=>by rw [PyData.canLay0];exact acU xs (by rw [zA] at h;exact h)
 | .none,h=>by cases h
 | .bool _,h=>by cases h
 | .list _,h=>by cases h
 | .dict _,h=>by cases h
theorem acU:∀ xs:List PyData,zM xs=true->asr xs=true
 | [],_=>rfl
 | x :: xs,h=>by
  rw [zM,aqy] at h;rw [asr,yN x h.1,acU xs h.2];rfl
end
mutual
theorem akm:∀ a b:PyData,zA a=true->zA b=true->aqX a b=true->a=b
 | .int a,.int b,_,_,h=>by simpa [aqX] using h
 | .str a,.str b,_,_,h=>by simpa [aqX] using h
 | .tuple xs,.tuple ys,h1,h2,h=>by rw [ahN xs ys (by rw [zA] at h1;exact h1) (by rw [zA] at h2;exact h2) (by rw [aqX] at h;exact h)]
 | .int _,.str _,_,_,h=>by simp [aqX] at h
 | .int _,.tuple _,_,_,h=>by simp [aqX] at h
 | .str _,.int _,_,_,h=>by simp [aqX] at h
 | .str _,.tuple _,_,_,h=>by simp [aqX] at h
 | .tuple _,.int _,_,_,h=>by simp [aqX] at h
 | .tuple _,.str _,_,_,h=>by simp [aqX] at h
 | .none,_,h,_,_=>by cases h
 | .bool _,_,h,_,_=>by cases h
 | .list _,_,h,_,_=>by cases h
 | .dict _,_,h,_,_=>by cases h
 | .int _,.none,_,h,_=>by cases h
 | .int _,.bool _,_,h,_=>by cases h
 | .int _,.list _,_,h,_=>by cases h
 | .int _,.dict _,_,h,_=>by cases h
 | .str _,.none,_,h,_=>by cases h
 | .str _,.bool _,_,h,_=>by cases h
 | .str _,.list _,_,h,_=>by cases h
 | .str _,.dict _,_,h,_=>by cases h
 | .tuple _,.none,_,h,_=>by cases h
 | .tuple _,.bool _,_,h,_=>by cases h
 | .tuple _,.list _,_,h,_=>by cases h
 | .tuple _,.dict _,_,h,_=>by cases h
theorem ahN:∀ xs ys:List PyData,zM xs=true->zM ys=true->atW xs ys=true->xs=ys
 | [],[],_,_,_=>rfl
 | [],_ :: _,_,_,h=>by simp [atW] at h
 | _ :: _,[],_,_,h=>by simp [atW] at h
 | x :: xs,y :: ys,h1,h2,h=>by
  rw [zM,aqy] at h1 h2;rw [atW,aqy] at h;rw [akm x y h1.1 h2.1 h.1,ahN xs ys h1.2 h2.2 h.2]
end
theorem acn {a b:PyData} (ha:zA a=true) (hb:zA b=true):aqX a b=true↔a=b :=
 ⟨akm a b ha hb,fun h=>by subst h;exact atz a (yN a ha)⟩
theorem vf {x y:PyData} {xs ys:List PyData} (hx:zA x=true) (hy:zA y=true) [Decidable (x=y)]:ltL (x :: xs) (y :: ys)=if x=y then ltL xs ys else ltD x y:=by
 rw [ltL];by_cases h:x=y
 ·rw [if_pos ((acn hx hy).mpr h),if_pos h]
 ·rw [if_neg (fun z=>h ((acn hx hy).mp z)),if_neg h]
theorem akn {a b:List Nat} (h:a≠b):decide (a<b)=!decide (b<a):=by
 by_cases h1:a<b
 ·rw [decide_eq_true h1,decide_eq_false (fun z=>List.lt_irrefl a (List.lt_trans h1 z))];rfl
 ·have h2:b<a:=by
   have:b<=a:=List.not_lt.mp h1;rcases List.le_iff_lt_or_eq.mp this with z | z
   ·exact z
   ·exact absurd z.symm h
  rw [decide_eq_false h1,decide_eq_true h2];rfl
theorem aoK {a b:Str} (h:a≠b):a.cps.toList≠b.cps.toList:=fun z=>h (by
 cases a;cases b;simp only [Str.mk.injEq] at *;exact Array.toList_inj.mp z)
mutual
theorem agH:∀ a b:PyData,zA a=true->zA b=true->a≠b->ltD a b=!ltD b a
 | .int a,b,ha,hb,ne=>by
  cases b with
  | int b =>
   rw [ltD,ltD];have:a≠b:=fun z=>ne (by rw [z]);by_cases h:a<b
   ·rw [decide_eq_true h,decide_eq_false (by omega)];rfl
   ·rw [decide_eq_false h,decide_eq_true (by omega)];rfl
  | str b=>simp [ltD]
  | tuple ys=>simp [ltD]
  | none=>cases hb
  | bool _=>cases hb
  | list _=>cases hb
  | dict _=>cases hb
 | .str a,b,ha,hb,ne=>by
  cases b with
  | int b=>simp [ltD]
  | str b =>
   rw [ltD,ltD];exact akn (aoK fun z=>ne (by rw [z]))
  | tuple ys=>simp [ltD]
  | none=>cases hb
  | bool _=>cases hb
  | list _=>cases hb
  | dict _=>cases hb
 | .tuple xs,b,ha,hb,ne=>by
  cases b with
  | int b=>simp [ltD]
  | str b=>simp [ltD]
  | tuple ys =>
   rw [ltD,ltD];rw [zA] at ha hb;exact ahO xs ys ha hb fun z=>ne (by rw [z])
  | none=>cases hb
  | bool _=>cases hb
  | list _=>cases hb
  | dict _=>cases hb
 | .none,_,h,_,_=>by cases h
 | .bool _,_,h,_,_=>by cases h
 | .list _,_,h,_,_=>by cases h
 | .dict _,_,h,_,_=>by cases h
theorem ahO:∀ xs ys:List PyData,zM xs=true->zM ys=true->xs≠ys->ltL xs ys=!ltL ys xs
 | [],[],_,_,ne=>absurd rfl ne
 | [],_ :: _,_,_,_=>by simp [ltL]
 | _ :: _,[],_,_,_=>by simp [ltL]
 | x :: xs,y :: ys,h1,h2,ne=>by
  rw [zM,aqy] at h1 h2;have:=arL (x=y);have:=arL (y=x);rw [vf h1.1 h2.1,vf h2.1 h1.1];by_cases e:x=y
  ·rw [if_pos e,if_pos e.symm];exact ahO xs ys h1.2 h2.2 fun z=>ne (by rw [e,z])
  ·rw [if_neg e,if_neg (arU e)];exact agH x y h1.1 h2.1 e
end
mutual
theorem qX:∀ a:PyData,zA a=true->ltD a a=false
 | .int a,_=>by rw [ltD];exact decide_eq_false (Int.lt_irrefl a)
 | .str a,_=>by rw [ltD];exact decide_eq_false (List.lt_irrefl _)
 | .tuple xs,h=>by rw [ltD];rw [zA] at h;exact ahP xs h
 | .none,h=>by cases h
 | .bool _,h=>by cases h
 | .list _,h=>by cases h
 | .dict _,h=>by cases h
theorem ahP:∀ xs:List PyData,zM xs=true->ltL xs xs=false
 | [],_=>by rw [ltL]
 | x :: xs,h=>by
  rw [zM,aqy] at h;have:=arL (x=x);rw [vf h.1 h.1,if_pos rfl];exact ahP xs h.2
end
theorem lt_asymm {a b:PyData} (ha:zA a=true) (hb:zA b=true) (h:ltD a b=true):a≠b:=fun z=>by
 subst z;rw [qX a ha] at h;cases h
mutual
theorem acV:∀ a b c:PyData,zA a=true->zA b=true->zA c=true->ltD a b=true->ltD b c=true->ltD a c=true
 | .int a,b,c,ha,hb,hc,h1,h2=>by
  cases b <;> first | (cases hb;done) | skip
  all_goals cases c <;> first | (cases hc;done) | skip
  all_goals first | (simp [ltD] at h1 h2 ⊢;omega) | (simp [ltD] at h1 h2 ⊢;done) | (simp [ltD] at h1;done) | (simp [ltD] at h2;done)
 | .str a,b,c,ha,hb,hc,h1,h2=>by
  cases b <;> first | (cases hb;done) | skip
  all_goals cases c <;> first | (cases hc;done) | skip
  all_goals first | (simp [ltD] at h1;done) | (simp [ltD] at h2;done) | (rw [ltD] at h1 h2 ⊢;exact decide_eq_true (List.lt_trans (of_decide_eq_true h1) (of_decide_eq_true h2))) | (simp [ltD] at h1 h2 ⊢;done)
 | .tuple xs,b,c,ha,hb,hc,h1,h2=>by
  cases b with
  | tuple ys =>
   cases c with
   | tuple zs =>
    rw [ltD] at h1 h2 ⊢;rw [zA] at ha hb hc;exact ahQ xs ys zs ha hb hc h1 h2
   | int _=>simp [ltD] at h2
   | str _=>simp [ltD] at h2
   | none=>cases hc
   | bool _=>cases hc
   | list _=>cases hc
   | dict _=>cases hc
  | int _=>simp [ltD] at h1
  | str _=>simp [ltD] at h1
  | none=>cases hb
  | bool _=>cases hb
  | list _=>cases hb
  | dict _=>cases hb
 | .none,_,_,h,_,_,_,_=>by cases h
 | .bool _,_,_,h,_,_,_,_=>by cases h
 | .list _,_,_,h,_,_,_,_=>by cases h
 | .dict _,_,_,h,_,_,_,_=>by cases h
theorem ahQ:∀ xs ys zs:List PyData,zM xs=true->zM ys=true->zM zs=true->ltL xs ys=true->ltL ys zs=true->ltL xs zs=true
 | [],ys,[],_,_,_,h1,h2=>by
  cases ys with
  | nil=>exact h1
  | cons y ys=>simp [ltL] at h2
 | [],_,_ :: _,_,_,_,_,_=>by rw [ltL]
 | _ :: _,[],_,_,_,_,h1,_=>by simp [ltL] at h1
 | _ :: _,_ :: _,[],_,_,_,_,h2=>by simp [ltL] at h2
 | x :: xs,y :: ys,z :: zs,p1,p2,p3,h1,h2=>by
  rw [zM,aqy] at p1 p2 p3;have:=arL (x=y);have:=arL (y=z);have:=arL (x=z);rw [vf p1.1 p2.1] at h1;rw [vf p2.1 p3.1] at h2;rw [vf p1.1 p3.1];by_cases e1:x=y
  ·rw [if_pos e1] at h1;by_cases e2:y=z
   ·rw [if_pos e2] at h2;rw [if_pos (e1.trans e2)];exact ahQ xs ys zs p1.2 p2.2 p3.2 h1 h2
   ·rw [if_neg e2] at h2;rw [if_neg (fun q=>e2 (e1.symm.trans q)),e1];exact h2
  ·rw [if_neg e1] at h1;by_cases e2:y=z
   ·rw [if_neg (fun q=>e1 (q.trans e2.symm)),<- e2];exact h1
   ·rw [if_neg e2] at h2;have h3:=acV x y z p1.1 p2.1 p3.1 h1 h2;rw [if_neg (lt_asymm p1.1 p3.1 h3)];exact h3
end
end L2
end
section
namespace L2
open PySem PySem.Spec PyProof.Rows PySem.SeqAt
open PySem.AutoSeq1 (wpAny_loadPart')
open PySem.MeetsSeq PySem.MeetsSeq2 PySem.MeetsSeq3
def apQ (A:Around) (s:Shared) (y x:Value) (b:Bool):Prop :=
 ∀ (prog:Program) (w:World) (E:Value->Shared->Prop) (Q:Value->Shared->Prop),Q (.bool b) s->wpAny (model prog w) A (richCompare .Lt y x) Q E s
inductive Lex (A:Around) (s:Shared):List Value->List Value->Bool->Prop where
 | nn:Lex A s [] [] false
 | nc {w ws}:Lex A s [] (w :: ws) true
 | cn {v vs}:Lex A s (v :: vs) [] false
 | eq {v w vs ws b}:EqAt A s v w true->Lex A s vs ws b->Lex A s (v :: vs) (w :: ws) b
 | lt {v w vs ws b}:EqAt A s v w false->apQ A s v w b->Lex A s (v :: vs) (w :: ws) b
theorem aet (l m:Addr) (xs ys:Array Value) (n n2:Nat) (dd dd2:Option Addr) (sl sl2:Array (Option Value)) (c:Bool) :
  Meets (Builtin.«tuple.__lt__» ⟨[.ref l,.ref m],[]⟩)
   (fun A R s=>s.heap.get? l=some { cls:=.type "tuple",dict:=dd,data:=.seq xs n,slots:=sl }/\s.heap.get? m=some { cls:=.type "tuple",dict:=dd2,data:=.seq ys n2,slots:=sl2 } /\
    Lex A.in1 s xs.toList ys.toList c/\R (.ok (.ret (.bool c))) s) :=
 .of_wp fun prog w A R s h=>by
  obtain⟨hp,g,d,tk,os⟩:=s;obtain⟨hl,hb,hx,h⟩:=h;have f2:=AutoSeq1.sub_tuple_tuple
  wp_walk using wpAny_loadPart' hl,wpAny_loadPart' hb,wpAny_forIn_list _ (fun rest b s'=>b.1=none/\s'=⟨hp,g,d,tk,os⟩/\∃ (vs ws:List Value),rest=vs.zip ws/\Lex A.in1 ⟨hp,g,d,tk,os⟩ vs ws c/\vs.length+ys.size=ws.length+xs.size) _
  case turn =>
   rintro⟨y,x⟩ rest b s' ⟨hb',rfl,vs,ws,hz,lx,hn⟩;cases lx with
   | nn=>cases hz
   | nc=>cases hz
   | cn=>cases hz
   | eq he lx' =>
    rw [asI] at hz;cases hz;refine wpAny_bind (he prog w _ _ ?_)
    wp_walk
    exact⟨rfl,rfl,_,_,rfl,lx',by simp only [aqT] at hn;omega⟩
   | lt he hlt =>
    rw [asI] at hz;cases hz;refine wpAny_bind (he prog w _ _ ?_);have hri:=hlt prog w
    wp_walk using hri
    exact⟨_,rfl,h⟩
  case fin =>
   rintro⟨b1,b2⟩ s' ⟨hb',rfl,vs,ws,hz,lx,hn⟩;simp only at hb';subst hb';have hv:decide (xs.size<ys.size)=c:=by
    cases lx with
    | nn=>simp only [aso] at hn;exact decide_eq_false (by omega)
    | nc=>simp only [aso,aqT] at hn;exact decide_eq_true (by omega)
    | cn=>simp only [aso,aqT] at hn;exact decide_eq_false (by omega)
    | eq _ _=>cases hz
    | lt _ _=>cases hz
   wp_walk
   rw [<-hv] at h;exact⟨_,rfl,by simpa [Builtin.Tuple.tupleCompareSizes] using h⟩
  case h=>exact⟨rfl,rfl,_,_,rfl,hx,by simp only [aqN];omega⟩
mutual
theorem afB:∀ (da db:PyData) (A:Around) (s:Shared) (a b:Value) (as bs:List Addr),Reads s.heap a da as->Reads s.heap b db bs->zA da=true->zA db=true->v3 da db=true ->
  A.units+max da.depth db.depth<cLine->apQ A s a b (ltD da db)
 | .int x,db,A,s,_,_,_,_,ra,rb,_,_,hc,hu=>by
  cases ra with
  | int _ t =>
   cases db with
   | int y =>
    cases rb with
    | int _ u =>
     intro prog w E Q q;exact HT.rcLt_int A s x t y u prog w E Q (by rw [ltD] at q;exact q)
   | _=>cases hc
 | .str x,db,A,s,_,_,_,_,ra,rb,_,_,hc,hu=>by
  cases ra with
  | str _ t =>
   cases db with
   | str y =>
    cases rb with
    | str _ u =>
     intro prog w E Q q;exact (PyProof.Rows.lt_str (by rw [ltD] at q;exact q):wpAny (model prog w) A (compareOp .Lt (.str x t) (.str y u)) Q E s)
   | _=>cases hc
 | .tuple xs,db,A,s,_,_,_,_,ra,rb,pa,pb,hc,hu=>by
  cases ra with
  | @tuple l o vs n _ as h1 h2 h3 h4 =>
   cases db with
   | tuple ys =>
    cases rb with
    | @tuple m o2 ws n2 _ bs k1 k2 k3 k4 =>
     intro prog w E Q q;obtain⟨cls,dd,data,sl⟩:=o;obtain⟨cls2,dd2,data2,sl2⟩:=o2;simp only at h2 h3 k2 k3;subst h2 h3 k2 k3;rw [zA] at pa pb;rw [v3] at hc;rw [ltD] at q;have hd:A.in1.units+max (aqH xs) (aqH ys)<cLine:=by
      have e1:(PyData.tuple xs).depth=aqH xs+1:=rfl;have e2:(PyData.tuple ys).depth=aqH ys+1:=rfl;have e3:A.in1.units=A.units+1:=rfl;rw [e1,e2] at hu;omega
     have lx:=adT xs ys A.in1 s _ _ _ _ h4 k4 pa pb hc hd;exact richCompare_meets_room (op:=.Lt) ⟨_,h1,rfl⟩ ⟨_,k1,rfl⟩ PySem.F.slot_tuple_lt PySem.F.entry_tuple_lt (PySem.F.args_tuple_lt_2 _ _) (aet l m vs ws n n2 dd dd2 sl sl2 (ltL xs ys))
      ⟨h1,k1,lx,show Value.bool (ltL xs ys)≠Value.notImplemented/\Q (.bool (ltL xs ys)) s from⟨(fun x=>nomatch x),q⟩⟩ (by omega)
   | _=>cases hc
 | .none,_,_,_,_,_,_,_,_,_,h,_,_,_=>by cases h
 | .bool _,_,_,_,_,_,_,_,_,_,h,_,_,_=>by cases h
 | .list _,_,_,_,_,_,_,_,_,_,h,_,_,_=>by cases h
 | .dict _,_,_,_,_,_,_,_,_,_,h,_,_,_=>by cases h
theorem adT:∀ (xs ys:List PyData) (A:Around) (s:Shared) (vs ws:List Value) (as bs:List Addr),ReadsAll s.heap vs xs as->ReadsAll s.heap ws ys bs->zM xs=true->zM ys=true->qB xs ys=true ->
  A.units+max (aqH xs) (aqH ys)<cLine->Lex A s vs ws (ltL xs ys)
 | [],[],_,_,_,_,_,_,ra,rb,_,_,_,_=>by cases ra;cases rb;rw [ltL];exact .nn
 | [],_ :: _,_,_,_,_,_,_,ra,rb,_,_,_,_=>by cases ra;cases rb;rw [ltL];exact .nc
 | _ :: _,[],_,_,_,_,_,_,ra,rb,_,_,_,_=>by cases ra;cases rb;rw [ltL];exact .cn
 | x :: xs,y :: ys,A,s,_,_,_,_,ra,rb,pa,pb,hc,hu=>by
  cases ra with
  | cons r rs =>
   cases rb with
   | cons r' rs' =>
    rw [zM,aqy] at pa pb;rw [qB] at hc;rw [ltL];have e1:aqH (x :: xs)=max x.depth (aqH xs):=rfl;have e2:aqH (y :: ys)=max y.depth (aqH ys):=rfl;rw [e1,e2] at hu;have eq:=eqAt_reads x y A s _ _ _ _ r r' (yN x pa.1) (yN y pb.1) (by omega);by_cases e:aqX x y=true
    ·rw [if_pos e] at hc ⊢;rw [e] at eq;exact .eq eq (adT xs ys A s _ _ _ _ rs rs' pa.2 pb.2 hc (by omega))
    ·rw [if_neg e] at hc ⊢;rw [Bool.not_eq_true] at e;rw [e] at eq;exact .lt eq (afB x y A s _ _ _ _ r r' pa.1 pb.1 hc (by omega))
end
end L2
end
section
namespace L2
open PySem PySem.Spec PyProof.Rows PySem.SeqAt PySem.W
section
variable {P:Program} {w:World} {A:Around} {s:Shared} {b:Bool} {Q:Bool->Shared->Prop}
theorem aeu {fin:Bool} {x y:PyData} {p q:Value} {r:List (Value×Value)} {i:Nat} {as bs:List Addr} {c:Bool} (rx:Reads s.heap p x as) (ry:Reads s.heap q y bs) (px:zA x=true) (py:zA y=true) (hu:A.units+max x.depth y.depth<cLine)
  (h1:aqX x y=true->KatLex P w A b fin Q r (i+1) s) (h2:aqX x y=false->wpAny (model P w) A (oneLt' (b && i == 0) p q) Q (fun _ _=>False) s):KatLex P w A b fin Q ((p,q) :: r) i s:=by
 refine kat_cons (eqAt_reads x y A s _ _ _ _ rx ry (yN x px) (yN y py) (by omega) P w _ _ ?_);exact kat_go (fun e=>kat_yes (h1 e)) fun e=>kat_no (h2 e)
theorem aa7 {m n:Nat}:∀ (xs ys:List PyData) (vs ws:List Value) (as bs:List Addr) (i:Nat),(1<=i \/ b=false)->ReadsAll s.heap vs xs as->ReadsAll s.heap ws ys bs->zM xs=true->zM ys=true->qB xs ys=true ->
  A.units+max (aqH xs) (aqH ys)<cLine->xs.length+n=ys.length+m->Q (ltL xs ys) s->KatLex P w A b (decide (m<n)) Q (vs.zip ws) i s
 | [],[],_,_,_,_,i,_,ra,rb,_,_,_,_,hl,q=>by
  cases ra;cases rb;rw [ltL] at q;simp only [aso] at hl;rw [decide_eq_false (show ¬ m<n by omega)];exact kat_nil q
 | [],y :: ys,_,_,_,_,i,_,ra,rb,_,_,_,_,hl,q=>by
  cases ra;cases rb;rw [ltL] at q;simp only [aso,aqT] at hl;rw [decide_eq_true (show m<n by omega)];exact kat_nil q
 | x :: xs,[],_,_,_,_,i,_,ra,rb,_,_,_,_,hl,q=>by
  cases ra;cases rb;rw [ltL] at q;simp only [aso,aqT] at hl;rw [decide_eq_false (show ¬ m<n by omega),List.zip_nil_right];exact kat_nil q
 | x :: xs,y :: ys,_,_,_,_,i,hi,ra,rb,pa,pb,hc,hu,hl,q=>by
  cases ra with
  | cons r rs =>
   cases rb with
   | cons r' rs' =>
    rw [zM,aqy] at pa pb;rw [qB] at hc;rw [ltL] at q;have e1:aqH (x :: xs)=max x.depth (aqH xs):=rfl;have e2:aqH (y :: ys)=max y.depth (aqH ys):=rfl;rw [e1,e2] at hu;simp only [aqT] at hl;rw [asI];refine aeu (c:=true) r r' pa.1 pb.1 (by omega) (fun e=>?_) fun e=>?_
    ·rw [if_pos e] at hc q;exact aa7 xs ys _ _ _ _ (i+1) (.inl (by omega)) rs rs' pa.2 pb.2 hc (by omega) (by omega) q
    ·rw [if_neg (by rw [e];exact aqt)] at hc q;have ef:(b && i == 0)=false:=by
      rcases hi with hi | hi
      ·rw [show (i == 0)=false from beq_eq_false_iff_ne.mpr (by omega),aus]
      ·rw [hi];rfl
     rw [ef];exact kat_one _ _ (afB x y A s _ _ _ _ r r' pa.1 pb.1 hc (by omega) P w _ _ q)
end
noncomputable def vg:PyData->Option String
 | .tuple (.int _ :: _)=>some "int"
 | .tuple (.str _ :: _)=>some "str"
 | .tuple (.tuple _ :: _)=>some "tuple"
 | _=>none
structure SortOk (T:String) (ds:List PyData):Prop where
 plain:∀ d∈ds,zA d=true
 head:∀ d∈ds,vg d=some T
 cmp:∀ d∈ds,∀ e∈ds,v3 d e=true
 depth:∀ d∈ds,d.depth<=50
 nd:ds.Nodup
theorem aad {d:PyData} {T:String} (h:vg d=some T):∃ x xs,d=.tuple (x :: xs)/\((T="int"/\∃ n,x=.int n) \/ (T="str"/\∃ n,x=.str n) \/ (T="tuple"/\∃ n,x=.tuple n)):=by
 unfold vg at h;split at h
 ·cases h;exact⟨_,_,rfl,.inl ⟨rfl,_,rfl⟩⟩
 ·cases h;exact⟨_,_,rfl,.inr (.inl ⟨rfl,_,rfl⟩)⟩
 ·cases h;exact⟨_,_,rfl,.inr (.inr ⟨rfl,_,rfl⟩)⟩
 ·cases h
section
variable {P:Program} {w:World} {A:Around} {s:Shared} {T:String}
theorem aoL {d e:PyData} {v u:Value} {as bs:List Addr} {C:Bool->Shared->Prop} (rd:Reads s.heap v d as) (re:Reads s.heap u e bs) (pd:zA d=true) (pe:zA e=true) (hd:vg d=some T) (he:vg e=some T) (hc:v3 d e=true)
  (hu:A.units+60<cLine) (d1:d.depth<=50) (d2:e.depth<=50) (q:C (ltD d e) s):wpAny (model P w) A (keyLt' (tuples' (Value.type T != Value.type "tuple")) v u) C (fun _ _=>False) s:=by
 obtain⟨x,xs,rfl,hx⟩:=aad hd;obtain⟨y,ys,rfl,hy⟩:=aad he;cases rd with
 | @tuple l o vs n _ as h1 h2 h3 h4 =>
  cases re with
  | @tuple m o2 ws n2 _ bs k1 k2 k3 k4 =>
   have l1:=atk _ _ _ h4;have l2:=atk _ _ _ k4;rw [aqN] at l1 l2;refine kat_lt h1 h3 k1 k3 ?_;rw [zA] at pd pe;rw [v3] at hc;rw [ltD] at q;have e1:(PyData.tuple (x :: xs)).depth=aqH (x :: xs)+1:=rfl;have e2:(PyData.tuple (y :: ys)).depth=aqH (y :: ys)+1:=rfl;have e3:aqH (x :: xs)=max x.depth (aqH xs):=rfl;have e4:aqH (y :: ys)=max y.depth (aqH ys):=rfl;rcases hx with⟨rfl,nx,rfl⟩ | ⟨rfl,nx,rfl⟩ | ⟨rfl,nx,rfl⟩
   ·obtain⟨ny,rfl⟩:∃ ny,y=.int ny:=by
     rcases hy with⟨_,h⟩ | ⟨z,_⟩ | ⟨z,_⟩
     ·exact h
     ·exact absurd z (by decide)
     ·exact absurd z (by decide)
    obtain⟨vl⟩:=vs;obtain⟨wl⟩:=ws;cases h4 with
    | cons r rs =>
     cases k4 with
     | cons r' rs' =>
      rw [zM,aqy] at pd pe;rw [qB] at hc;rw [ltL] at q;rw [asI];refine aeu (c:=true) r r' rfl rfl (by omega) (fun e=>?_) fun e=>?_
      ·rw [if_pos e] at hc q;exact aa7 xs ys _ _ _ _ 1 (.inl (aqC 1)) rs rs' pd.2 pe.2 hc (by omega) (by simp only [aqT] at l1 l2;omega) q
      ·rw [if_neg (by rw [e];exact aqt)] at q;rw [show ((Value.type "int" != Value.type "tuple") && (0 == 0))=true by decide];cases r;cases r';rw [ltD] at q;exact oneLt_int q
   ·obtain⟨ny,rfl⟩:∃ ny,y=.str ny:=by
     rcases hy with⟨z,_⟩ | ⟨_,h⟩ | ⟨z,_⟩
     ·exact absurd z (by decide)
     ·exact h
     ·exact absurd z (by decide)
    obtain⟨vl⟩:=vs;obtain⟨wl⟩:=ws;cases h4 with
    | cons r rs =>
     cases k4 with
     | cons r' rs' =>
      rw [zM,aqy] at pd pe;rw [qB] at hc;rw [ltL] at q;rw [asI];refine aeu (c:=true) r r' pd.1 pe.1 (by omega) (fun e=>?_) fun e=>?_
      ·rw [if_pos e] at hc q;exact aa7 xs ys _ _ _ _ 1 (.inl (aqC 1)) rs rs' pd.2 pe.2 hc (by omega) (by simp only [aqT] at l1 l2;omega) q
      ·rw [if_neg (by rw [e];exact aqt)] at q;rw [show ((Value.type "str" != Value.type "tuple") && (0 == 0))=true by decide];cases r;cases r';rw [ltD] at q;exact oneLt_str q
   ·exact aa7 _ _ _ _ _ _ 0 (.inr (by decide)) h4 k4 pd pe hc (by omega) (by rw [l1,l2];omega) q
theorem ReadsAll.at {h:Heap}:∀ {vs:List Value} {ds:List PyData} {as:List Addr},ReadsAll h vs ds as->∀ i,i<ds.length->∃ bs,Reads h (vs.getD i Value.none) (ds.getD i .none) bs
 | _,_,_,.nil,i,hi=>absurd hi (arQ _)
 | _,_,_,.cons r rs,0,_=>⟨_,r⟩
 | _,_,_,.cons r rs,i+1,hi=>ReadsAll.at rs i (Nat.lt_of_succ_lt_succ hi)
theorem ReadsAll.keep {h h':Heap} (k:∀ b o,h.get? b=some o->h'.get? b=some o):∀ {vs:List Value} {ds:List PyData} {as:List Addr},ReadsAll h vs ds as->ReadsAll h' vs ds as
 | _,_,_,.nil=>.nil
 | _,_,_,.cons r rs=>.cons (PyProof.Rows.Reads.keeps k r) (ReadsAll.keep k rs)
theorem ahR {h:Heap}:∀ {vs:List Value} {ds:List PyData} {as:List Addr},ReadsAll h vs ds as->(∀ d∈ds,vg d=some T)->∃ fs,KatTups h vs fs/\fs.length=vs.length/\∀ v∈fs,Looks (model P w) h (typeOf v) (.type T)
 | _,_,_,.nil,_=>⟨[],.nil,rfl,fun _ h=>nomatch h⟩
 | _,d :: ds,_,.cons r rs,hh=>by
  obtain⟨fs,h1,h2,h3⟩:=ahR rs fun d hd=>hh d (aqw _ hd);obtain⟨x,xs,rfl,hx⟩:=aad (hh d aqv);cases r with
  | @tuple l o vs n _ as k1 k2 k3 k4 =>
   obtain⟨vl⟩:=vs;cases k4 with
   | @cons v0 vs0 _ _ _ _ r0 rs0 =>
    refine⟨v0 :: fs,.cons k1 k2 k3 rfl h1,by simp [h2],fun v hv=>?_⟩;rcases aqE.mp hv with rfl | hv
    ·rcases hx with⟨rfl,nx,rfl⟩ | ⟨rfl,nx,rfl⟩ | ⟨rfl,nx,rfl⟩
     ·cases r0;exact Looks.of_pure rfl
     ·cases r0;exact Looks.of_pure rfl
     ·cases r0 with
      | tuple q1 q2 q3 q4=>rw [<-q2];exact (Looks.ld q1).andThen .now
    ·exact h3 v hv
theorem aoM {ds:List PyData} (ok:SortOk T ds):Tot ds.length fun i j=>ltD (ds.getD i .none) (ds.getD j .none):=by
 have mem:∀ i,i<ds.length->ds.getD i .none∈ds:=fun i hi=>by
  rw [aqx,aqq hi];exact aq0 hi
 refine⟨fun i j hi hj ne=>agH _ _ (ok.plain _ (mem i hi)) (ok.plain _ (mem j hj)) fun z=>ne ?_,fun i j k hi hj hk=>acV _ _ _ (ok.plain _ (mem i hi)) (ok.plain _ (mem j hj)) (ok.plain _ (mem k hk))⟩;rw [aqx,aqx,aqq hi,aqq hj] at z;exact (atm ok.nd).mp z
theorem ahS {vs:List Value} {ds:List PyData} {as:List Addr} (ra:ReadsAll s.heap vs ds as) (ok:SortOk T ds) (hu:A.units+60<cLine) (few:ds.length<64 \/ ds.Pairwise fun d e=>ltD d e=true) :
  Asks P w A s (tuples' (Value.type T != Value.type "tuple")) vs fun i j=>ltD (ds.getD i .none) (ds.getD j .none):=by
 have len:=atk _ _ _ ra;have mem:∀ i,i<ds.length->ds.getD i .none∈ds:=fun i hi=>by
  rw [aqx,aqq hi];exact aq0 hi
 refine⟨fun h2 h' k R q=>?_,fun h' k i j C hi hj q=>?_,by rw [len];exact aoM ok,?_⟩
 ·obtain⟨fs,f1,f2,f3⟩:=ahR (P:=P) (w:=w) (ReadsAll.keep k ra) ok.head;exact kat_kind f1 (by omega) f3 (beq_self_eq_true _) q
 ·rw [len] at hi hj;obtain⟨b1,r1⟩:=ReadsAll.at (ReadsAll.keep k ra) i hi;obtain⟨b2,r2⟩:=ReadsAll.at (ReadsAll.keep k ra) j hj;exact aoL r1 r2 (ok.plain _ (mem i hi)) (ok.plain _ (mem j hj)) (ok.head _ (mem i hi)) (ok.head _ (mem j hj)) (ok.cmp _ (mem i hi) _ (mem j hj)) hu (ok.depth _ (mem i hi)) (ok.depth _ (mem j hj)) q
 ·rw [len];refine few.imp id fun pw i hi=>?_;have h1:=asi.mp pw i (i+1) (by omega) hi (by omega);have g:∀ j (hj:j<ds.length),ds.getD j .none=ds[j]:=fun j hj=>by rw [aqx,aqq hj];rfl
  rw [g _ hi,g i (by omega)];have ne:=lt_asymm (ok.plain _ (aq0 _)) (ok.plain _ (aq0 _)) h1;have:=agH _ _ (ok.plain _ (aq0 _)) (ok.plain _ (aq0 _)) ne;rw [h1] at this
  revert this
  cases ltD ds[i+1] ds[i] <;> simp
end
noncomputable def pick {α:Type} (d:α) (p:Array Nat) (xs:List α):List α:=p.toList.map fun i=>xs.getD i d
theorem ahT:∀ {xs:List V} {us:List Value},Vals xs us->∀ i,RelV (xs.getD i .non) (us.getD i Value.none)
 | _,_,.nil,i=>rfl
 | _,_,.cons r t,0=>r
 | _,_,.cons r t,i+1=>ahT t i
theorem adU {xs:List V} {us:List Value} (r:Vals xs us) (p:Array Nat):Vals (pick .non p xs) (pick Value.none p us):=by
 unfold pick
 induction p.toList with
 | nil=>exact .nil
 | cons i l ih=>exact .cons (ahT r i) ih
theorem ahU {K:aqu} {H:Hp}:∀ {ds:List PyData} {xs:List V},Reps K H ds xs->∀ i,Rep K H (ds.getD i .none) (xs.getD i .non)
 | [],xs,r,i=>by
  rw [reps_nil.mp r];exact rep_none.mpr rfl
 | d :: ds,xs,r,i=>by
  obtain⟨x,xs',rfl,r1,r2⟩:=reps_cons.mp r;cases i with
  | zero=>exact r1
  | succ i=>exact ahU r2 i
theorem adV {K:aqu} {H:Hp} {ds:List PyData} {xs:List V} (r:Reps K H ds xs) (p:Array Nat):Reps K H (pick .none p ds) (pick .non p xs):=by
 unfold pick
 induction p.toList with
 | nil=>exact .nil'
 | cons i l ih=>exact .cons' (ahU r i) ih
theorem adW {α:Type} {d:α} {n:Nat} {p:Array Nat} {xs:List α} (h:Pm n p) (hn:n=xs.length):(pick d p xs).Perm xs:=by
 have e:(aqL n).map (fun i=>xs.getD i d)=xs:=by
  subst hn;refine arV fun i=>?_;rw [aqA];by_cases hi:i<xs.length
  ·rw [arW hi,aqq hi];simp [hi]
  ·rw [aqZ (by simp;omega),aqZ (by omega)];rfl
 have:=h.map fun i=>xs.getD i d;rw [e] at this;exact this
theorem ahV {n:Nat} {p:Array Nat} {ds:List PyData} (h:Pm n p) (u:Up (fun i j=>ltD (ds.getD i .none) (ds.getD j .none)) p n):(pick .none p ds).Pairwise fun d e=>ltD d e=true:=by
 unfold pick;rw [arA];refine asi.mpr fun i j hi hj hij=>?_;have hs:=h.size;rw [aqN] at hi hj;have:=u i j hij (by omega);have g:∀ k (hk:k<p.toList.length),p.getD k 0=p.toList[k]:=fun k hk=>by
  rw [qG,aqx,aqq hk];rfl
 rw [g i (by simpa using hi),g j (by simpa using hj)] at this;exact this
def aev (K:aqu):List V->Hp->VK->Prop:=fun xs H Q=>∃ (a:Addr) (vs:List V) (ds:List PyData) (T:String),xs=[.ref a]/\SqL K H a vs/\Reps K H ds vs/\SortOk T ds/\ds.length<=1000/\(ds.length<64 \/ ds.Pairwise fun d e=>ltD d e=true) /\
 ∀ l p,H l=none->Pm ds.length p->Up (fun i j=>ltD (ds.getD i .none) (ds.getD j .none)) p ds.length->Q (.ref l) (upd H l (.lst (pick .non p vs)))
theorem aew {X:Cx} (hu:X.A.units+64<cLine):yC X (.builtin "sorted") (aev X.K):=by
 intro pins s σ H xs us Q I r h;obtain⟨a,vs,ds,T,rfl,ha,rd,ok,hl,few,q⟩:=h;obtain⟨u,rfl,rx⟩:=vals1 r;cases rx;obtain⟨its,rv,pl,hz⟩:=I.list ha;have le:=rv.length;have ld:=rd.length;obtain⟨as,ra⟩:=jD I ds vs its rd rv;have e2:X.A.in1.in1.units=X.A.units+1+1:=rfl;have lt':its.length=ds.length:=by omega
 refine afA (by omega) pl.isList (ahS ra ok (by omega) few) fun h' D p c x1 x2 x3 x4 x5=>?_;rw [lt'] at x1 x2;have hD:H D=none:=I.hok.fresh x3;have lp:p.toList.length=ds.length:=by rw [aqN];exact x1.size
 exact⟨.ref D,upd H D (.lst (pick .non p vs)),I.laid (t':=s.toks) x4 x3 ⟨by unfold pick;rw [aqr];omega,pick Value.none p its,c,adU rv p,x5⟩,rfl,q D p hD x1 x2⟩
theorem vE {X:Cx} {K:aqu} (hK:X.K=K) (hu:X.A.units+64<cLine):yC X (.builtin "sorted") (aev K):=hK▸aew hu
section
variable {K:aqu} {f:Fx} {ρ:zr} {P:List PyData->Prop} {te:TE}
theorem acW (T:String) (h:PEd K f te ρ fun x=>∃ ds,x=.list ds/\SortOk T ds/\ds.length<=1000/\(ds.length<64 \/ ds.Pairwise fun d e=>ltD d e=true)/\∀ es,es.Perm ds->(es.Pairwise fun d e=>ltD d e=true)->P es) :
  PEdO K f (tCB (aev K) (zN te yY)) ρ P:=fun σ H Q e q=>h σ H _ e fun x v H1 g1 r1 ⟨ds,ex,ok,hl,few,p⟩=>by
 subst ex;obtain⟨a,xs,rfl,h1,h2⟩:=rep_list.mp r1;refine⟨a,xs,ds,T,rfl,(zm _ _).seq h1,Reps.mono (zm _ _) _ _ h2,ok,hl,few,fun l pm hn m u=>?_⟩;have g2:Goes f H1 (upd H1 l (.lst (pick .non pm xs))):=.of_same (yj hn _) g1.2;refine q (pick .none pm ds) l _ _ (g1.trans g2) (g1.free e.fd hn) zB (Reps.mono (fun b o hb=>?_) _ _ (adV h2 pm)) (p _ (adW m rfl) (ahV m u));have hb':=zY hb;have hbl:b≠l:=fun z=>by
  have:=hb'.2;rw [z,hn] at this;cases this
 refine zJ (fun z=>?_) (by rw [zx hbl];exact hb'.2);rcases z with z | z
 ·exact hb'.1 (.inl z)
 ·rcases aqE.mp z with z | z
  ·exact hbl z
  ·exact hb'.1 (.inr z)
end
end L2
end
section
namespace L2.ST
open PySem PySem.SetTable
def afC (xs:Array Nat):Prop:=∀ i j,i<j->j<xs.size->xs.getD i 0<xs.getD j 0
theorem ako {xs:Array Nat} {i d e:Nat} (h:i<xs.size):xs.getD i d=xs.getD i e:=by simp [asH,h]
theorem acX {xs:Array Nat} {j:Nat}:∀ f lo hi,hi - lo<=f->lo<=hi->hi<=xs.size->(∀ i,i<lo->xs.getD i 0<j)->(∀ i,hi<=i->i<xs.size->j<=xs.getD i 0)->afC xs ->
  lo<=below.go xs j f lo hi/\below.go xs j f lo hi<=hi/\(∀ i,i<below.go xs j f lo hi->xs.getD i 0<j)/\(∀ i,below.go xs j f lo hi<=i->i<xs.size->j<=xs.getD i 0)
 | 0,lo,hi,hf,hl,hh,a,b,r=>by
  obtain rfl:lo=hi:=by omega
  exact⟨aqC _,aqC _,a,b⟩
 | f+1,lo,hi,hf,hl,hh,a,b,r=>by
  unfold below.go;by_cases h:lo<hi
  ·rw [if_pos h];have hm:(lo+hi) / 2<xs.size:=by omega
   simp only;rw [ako (e:=0) hm];by_cases h2:xs.getD ((lo+hi) / 2) 0<j
   ·rw [if_pos h2];have:=acX f ((lo+hi) / 2+1) hi (by omega) (by omega) hh (fun i hi'=>by
     by_cases e:i=(lo+hi) / 2
     ·rw [e];exact h2
     ·exact auH (r i _ (by omega) hm) h2) b r
    exact⟨by omega,this.2.1,this.2.2⟩
   ·rw [if_neg h2];have:=acX f lo ((lo+hi) / 2) (by omega) (by omega) (by omega) a (fun i hi' hs=>by
     by_cases e:i=(lo+hi) / 2
     ·rw [e];omega
     ·have:=r ((lo+hi) / 2) i (by omega) hs;omega) r
    exact⟨this.1,by omega,this.2.2⟩
  ·rw [if_neg h];obtain rfl:lo=hi:=by omega
   exact⟨aqC _,aqC _,a,b⟩
theorem afD {xs:Array Nat} (r:afC xs) (j:Nat):below xs j<=xs.size/\(∀ i,i<below xs j->xs.getD i 0<j)/\(∀ i,below xs j<=i->i<xs.size->j<=xs.getD i 0):=by
 have:=acX (xs:=xs) (j:=j) xs.size 0 xs.size (by omega) (aq2 _) (aqC _) (fun i hi=>absurd hi (arQ _)) (fun i a b=>by omega) r;exact this.2
theorem below_at {xs:Array Nat} (r:afC xs) {i:Nat} (hi:i<xs.size):below xs (xs.getD i 0)=i:=by
 obtain⟨a,b,c⟩:=afD r (xs.getD i 0);by_cases h:below xs (xs.getD i 0)<i
 ·have h1:=c _ (aqC _) (by omega);have h2:=r _ i h hi;omega
 ·by_cases h2:i<below xs (xs.getD i 0)
  ·have:=b i h2;omega
  ·omega
def Tk (t:SetTable) (j:Nat):Prop:=∃ i,i<t.place.size/\t.place.getD i 0=j
theorem slot_live {t:SetTable} (r:afC t.place) {i:Nat} (hi:i<t.place.size):t.slot (t.place.getD i 0)=.live i:=by
 unfold slot;simp only;rw [below_at r hi];have:(t.place[i]? == some (t.place.getD i 0))=true:=by simp [asH,hi]
 rw [if_pos this]
theorem ai4 {t:SetTable} (d:t.dummies=#[]) {j:Nat} (h:¬ Tk t j):t.slot j=.empty:=by
 unfold slot;simp only;have h1:¬ (t.place[below t.place j]? == some j)=true:=fun e=>h (by
  have e2:=eq_of_beq e;obtain⟨hl,e3⟩:=atA.mp e2;exact⟨_,hl,by simp [asH,hl,e3]⟩)
 rw [if_neg h1];have h2:has t.dummies j=false:=by rw [d];rfl
 rw [h2];rfl
def road (mask:Nat) (h:Int):Nat->Probe
 | 0=>{ j:=bits h % (mask+1),more:=runEnd mask (bits h % (mask+1)) - bits h % (mask+1),i:=bits h % (mask+1),perturb:=bits h,dummy:=none }
 | k+1=>if (road mask h k).more > 0 then { road mask h k with j:=(road mask h k).j+1,more:=(road mask h k).more - 1 } else
  { road mask h k with j:=(leap mask (road mask h k).i (road mask h k).perturb).1,more:=runEnd mask (leap mask (road mask h k).i (road mask h k).perturb).1 - (leap mask (road mask h k).i (road mask h k).perturb).1,i:=(leap mask (road mask h k).i (road mask h k).perturb).1,perturb:=(leap mask (road mask h k).i (road mask h k).perturb).2 }
theorem road_start (t:SetTable) (h:Int):t.probeStart h=road t.mask h 0:=rfl
theorem aaU (mask:Nat) (h:Int):∀ k,(road mask h k).dummy=none
 | 0=>rfl
 | k+1=>by
  unfold road;split
  ·exact aaU mask h k
  ·exact aaU mask h k
abbrev pos (mask:Nat) (h:Int) (k:Nat):Nat:=(road mask h k).j
def lp (mask:Nat) (h:Int):Nat->Nat×Nat
 | 0=>(bits h % (mask+1),bits h)
 | r+1=>leap mask (lp mask h r).1 (lp mask h r).2
theorem abN (mask i:Nat) (h:i<=mask):i<=runEnd mask i/\runEnd mask i<=mask/\runEnd mask i - i<=9:=by
 unfold runEnd;split <;> omega
theorem afE (mask:Nat) (h:Int):∀ r,(lp mask h r).1<=mask
 | 0=>att.mp (Nat.mod_lt _ (asW _))
 | r+1=>att.mp (Nat.mod_lt _ (asW _))
def At (mask:Nat) (h:Int) (k r d:Nat):Prop:=d<=runEnd mask (lp mask h r).1 - (lp mask h r).1/\road mask h k={ j:=(lp mask h r).1+d,more:=runEnd mask (lp mask h r).1 - (lp mask h r).1 - d,i:=(lp mask h r).1,perturb:=(lp mask h r).2,dummy:=none }
theorem aex (mask:Nat) (h:Int):At mask h 0 0 0:=⟨aq2 _,rfl⟩
theorem ahW {mask:Nat} {h:Int} {k r d:Nat} (a:At mask h k r d) (hd:d<runEnd mask (lp mask h r).1 - (lp mask h r).1):At mask h (k+1) r (d+1):=by
 obtain⟨a1,a2⟩:=a;refine⟨hd,?_⟩;unfold road;rw [a2];simp only;rw [if_pos (by omega)];simp only [Probe.mk.injEq,and_true];omega
theorem aey {mask:Nat} {h:Int} {k r d:Nat} (a:At mask h k r d) (hd:d=runEnd mask (lp mask h r).1 - (lp mask h r).1):At mask h (k+1) (r+1) 0:=by
 obtain⟨a1,a2⟩:=a;refine⟨aq2 _,?_⟩;unfold road;rw [a2];simp only;rw [if_neg (by omega)];rfl
theorem aez {mask:Nat} {h:Int} {k r:Nat} (a:At mask h k r 0):∀ d,d<=runEnd mask (lp mask h r).1 - (lp mask h r).1->At mask h (k+d) r d
 | 0,_=>a
 | d+1,hd=>ahW (aez a d (by omega)) (by omega)
theorem afF (mask:Nat) (h:Int):∀ r,∃ k,k<=10 * r/\At mask h k r 0
 | 0=>⟨0,aqC _,aex mask h⟩
 | r+1=>by
  obtain⟨k,hk,a⟩:=afF mask h r;have:=(abN mask _ (afE mask h r)).2.2;exact⟨_,by omega,aey (aez a _ (aqC _)) rfl⟩
theorem akp (mask:Nat) (h:Int):∀ k,∃ r d,At mask h k r d
 | 0=>⟨0,0,aex mask h⟩
 | k+1=>by
  obtain⟨r,d,a⟩:=akp mask h k;by_cases e:d<runEnd mask (lp mask h r).1 - (lp mask h r).1
  ·exact⟨r,d+1,ahW a e⟩
  ·exact⟨r+1,0,aey a (Nat.le_antisymm a.1 (by omega))⟩
theorem aeA (mask:Nat) (h:Int) (k:Nat):pos mask h k<=mask:=by
 obtain⟨r,d,a1,a2⟩:=akp mask h k;unfold pos;rw [a2];have:=abN mask _ (afE mask h r);show (lp mask h r).1+d<=mask;omega
def stp (m i:Nat):Nat:=(i * 5+1) % m
def itr (m:Nat):Nat->Nat->Nat
 | 0,i=>i
 | r+1,i=>stp m (itr m r i)
theorem aa8 (m:Nat) (a:Nat):∀ b i,itr m (a+b) i=itr m b (itr m a i)
 | 0,i=>rfl
 | b+1,i=>by show stp m (itr m (a+b) i)=stp m (itr m b (itr m a i));rw [aa8 m a b i]
def orb (m:Nat):Nat->Nat->List Nat
 | 0,_=>[]
 | f+1,i=>i :: orb m f (stp m i)
theorem akq (m:Nat):∀ f i r,r<f->(orb m f i)[r]?=some (itr m r i)
 | 0,_,_,h=>absurd h (arQ _)
 | f+1,i,0,_=>rfl
 | f+1,i,r+1,h=>by
  show (orb m f (stp m i))[r]?=_;rw [akq m f (stp m i) r (by omega),show r+1=1+r by omega,aa8 m 1 r i];rfl
def qv (m:Nat):Bool:=(aqL m).all (fun j=>(orb m m 0).contains j) && itr m m 0 == 0
theorem ahX:qv 8=true:=by decide +kernel
theorem afG:qv 32=true:=by decide +kernel
theorem adX:qv 128=true:=by decide +kernel
theorem adY:qv 512=true:=by decide +kernel
theorem aeB (m:Nat):∀ f i,(orb m f i).length=f
 | 0,_=>rfl
 | f+1,i=>by show (orb m f (stp m i)).length+1=f+1;rw [aeB m f]
theorem afH {m:Nat} (h:qv m=true) {j:Nat} (hj:j<m):∃ r,r<m/\itr m r 0=j:=by
 unfold qv at h;rw [aqy] at h;have:=asa.mp h.1 j (aqY.mpr hj);have hm:j∈orb m m 0:=by simpa using this
 obtain⟨r,hr,e⟩:=asy hm;rw [aeB] at hr;have e2:=akq m m 0 r hr;rw [aqq (by rw [aeB];exact hr),e] at e2;exact⟨r,hr,(Option.some.inj e2).symm⟩
theorem ahY {m:Nat} (h:qv m=true) {i j:Nat} (hi:i<m) (hj:j<m):∃ r,r<m/\itr m r i=j:=by
 obtain⟨a,ha,ea⟩:=afH h hi;obtain⟨b,hb,eb⟩:=afH h hj;have e0:itr m m 0=0:=by
  unfold qv at h;rw [aqy] at h;exact eq_of_beq h.2
 by_cases hab:a<=b
 ·exact⟨b - a,by omega,by rw [<-ea,<- aa8,show a+(b - a)=b by omega];exact eb⟩
 ·refine⟨m - a+b,by omega,?_⟩;rw [<-ea,<- aa8,show a+(m - a+b)=m+b by omega,aa8,e0];exact eb
theorem ahZ (mask:Nat) (h:Int):∀ r,(lp mask h r).2=bits h / 32 ^ r
 | 0=>by simp [lp]
 | r+1=>by
  show (lp mask h r).2 / 32=_;rw [ahZ mask h r,Nat.div_div_eq_div_mul,Nat.pow_succ]
theorem amg (h:Int):bits h<2 ^ 64:=by
 unfold bits;have:=ase h (show (0:Int)<2 ^ 64 by decide);have:=atu h (show (2 ^ 64:Int)≠0 by decide);omega
theorem amh (mask:Nat) (h:Int) (r:Nat) (hr:13<=r):(lp mask h r).2=0:=by
 rw [ahZ];refine Nat.div_eq_of_lt (aq4 (amg h) ?_);exact aqS (show 2 ^ 64<=32 ^ 13 by decide) (Nat.pow_le_pow_right (by decide) hr)
theorem agI (mask:Nat) (h:Int):∀ r,(lp mask h (13+r)).1=itr (mask+1) r (lp mask h 13).1
 | 0=>rfl
 | r+1=>by
  show (leap mask (lp mask h (13+r)).1 (lp mask h (13+r)).2).1=stp (mask+1) (itr (mask+1) r (lp mask h 13).1);rw [amh mask h (13+r) (by omega),agI mask h r];rfl
theorem akr {mask:Nat} (g:qv (mask+1)=true) (h:Int) {j:Nat} (hj:j<=mask):∃ k,k<10 * turns mask/\pos mask h k=j:=by
 obtain⟨r,hr,e⟩:=ahY g (i:=(lp mask h 13).1) (j:=j) (atg (afE mask h 13)) (atg hj);obtain⟨k,hk,a1,a2⟩:=afF mask h (13+r);refine⟨k,by unfold turns;omega,?_⟩;unfold pos;rw [a2];show (lp mask h (13+r)).1+0=j;rw [agI,e];rfl
end L2.ST
end
section
namespace L2.ST
open PySem PySem.SetTable
structure TB (t:SetTable) (hs:List Int):Prop where
 mask:t.mask=7 \/ t.mask=31 \/ t.mask=127 \/ t.mask=511
 dum:t.dummies=#[]
 rise:afC t.place
 le:∀ i,i<t.place.size->t.place.getD i 0<=t.mask
 size:t.place.size=hs.length
 most:hs.length<=t.mask
 reach:∀ i,i<hs.length->∃ k,pos t.mask (hs.getD i 0) k=t.place.getD i 0/\∀ k',k'<k->Tk t (pos t.mask (hs.getD i 0) k')
structure TOk (t:SetTable) (hs:List Int):Prop extends TB t hs where
 room:hs.length * 5<t.mask * 3
theorem aeC {t:SetTable} {hs:List Int} (o:TB t hs):qv (t.mask+1)=true:=by
 rcases o.mask with e | e | e | e <;> rw [e]
 ·exact ahX
 ·exact afG
 ·exact adX
 ·exact adY
theorem ai5 {t:SetTable} (r:afC t.place) (hs:t.place.size<=t.mask):∃ j,j<=t.mask/\¬ Tk t j:=by
 refine arC fun no=>?_;have all:∀ j,j<=t.mask->Tk t j:=fun j hj=>arC fun z=>no ⟨j,hj,z⟩;have up:∀ j,j<=t.mask->j<=below t.place j/\below t.place j<t.place.size:=fun j=>by
  induction j with
  | zero =>
   intro hj;obtain⟨i,hi,e⟩:=all 0 hj;have:=below_at r hi;rw [e] at this;exact⟨aq2 _,by omega⟩
  | succ j ih =>
   intro hj;obtain⟨i,hi,e⟩:=all (j+1) hj;obtain⟨i',hi',e'⟩:=all j (by omega);have b1:=below_at r hi;have b2:=below_at r hi';rw [e] at b1;rw [e'] at b2;have lt:i'<i:=by
    by_cases h:i'<i
    ·exact h
    ·by_cases h2:i'=i
     ·subst h2;omega
     ·have:=r i i' (by omega) hi';omega
   have:=ih (by omega);omega
 have:=up t.mask (aqC _);omega
structure First (t:SetTable) (h:Int) (E:Nat):Prop where
 lt:E<10 * turns t.mask
 free:¬ Tk t (pos t.mask h E)
 ahead:∀ k,k<E->Tk t (pos t.mask h k)
theorem least {p:Nat->Prop}:∀ n,p n->∃ m,m<=n/\p m/\∀ k,k<m->¬ p k:=fun n=>by
 induction n using Nat.strongRecOn with
 | ind n ih =>
  intro h;by_cases q:∃ k,k<n/\p k
  ·obtain⟨k,hk,pk⟩:=q;obtain⟨m,a,b⟩:=ih k hk pk;exact⟨m,by omega,b⟩
  ·exact⟨n,aqC _,h,fun k hk z=>q ⟨k,hk,z⟩⟩
theorem ai6 {t:SetTable} (g:qv (t.mask+1)=true) (r:afC t.place) (hs:t.place.size<=t.mask) (h:Int):∃ E,First t h E:=by
 obtain⟨j,hj,nj⟩:=ai5 r hs;obtain⟨k,hk,e⟩:=akr g h hj;obtain⟨m,a,b,c⟩:=least (p:=fun k=>¬ Tk t (pos t.mask h k)) k (by show ¬ Tk t (pos t.mask h k);rw [e];exact nj);exact⟨m,by omega,b,fun q hq=>arC (c q hq)⟩
theorem first_of {t:SetTable} {hs:List Int} (o:TB t hs) (h:Int):∃ E,First t h E:=ai6 (aeC o) o.rise (by have:=o.size;have:=o.most;omega) h
theorem probe_go {t:SetTable} (d:t.dummies=#[]) (r:afC t.place) {hashAt:Nat->Int} {h:Int} {E:Nat} (F:First t h E):∀ f k,k<=E->E<k+f ->
  (probe.go t hashAt h f (road t.mask h k)=some (.empty (pos t.mask h E) none)/\∀ q i,k<=q->q<E->i<t.place.size->pos t.mask h q=t.place.getD i 0->hashAt i≠h) \/
  ∃ q i,k<=q/\q<E/\i<t.place.size/\pos t.mask h q=t.place.getD i 0/\hashAt i=h/\probe.go t hashAt h f (road t.mask h k)=some (.candidate (pos t.mask h q) i (road t.mask h (q+1)))/\∀ q' i',k<=q'->q'<q->i'<t.place.size->pos t.mask h q'=t.place.getD i' 0->hashAt i'≠h
 | 0,k,h1,h2=>by omega
 | f+1,k,h1,h2=>by
  unfold probe.go;by_cases e:k=E
  ·subst e;refine .inl ⟨?_,fun q i a b=>by omega⟩;rw [ai4 d F.free];show some (Met.empty _ _)=_;rw [aaU]
  ·obtain⟨i,hi,ei⟩:=F.ahead k (by omega);have sl:t.slot (road t.mask h k).j=.live i:=by
    have:=slot_live r hi;rw [ei] at this;exact this
   rw [sl];show (if (hashAt i == h)=true then _ else _:Option Met)=_/\_ \/ _;have uniq:∀ i',i'<t.place.size->pos t.mask h k=t.place.getD i' 0->i'=i:=fun i' hi' e'=>by
    have b1:=below_at r hi;have b2:=below_at r hi';rw [ei] at b1;rw [<-e'] at b2;omega
   by_cases hh:(hashAt i == h)=true
   ·rw [if_pos hh];refine .inr ⟨k,i,aqC _,by omega,hi,ei.symm,eq_of_beq hh,?_,fun q' i' a b=>by omega⟩;show (if (hashAt i == h)=true then _ else _:Option Met)=_;rw [if_pos hh];rfl
   ·rw [if_neg hh];have hne:hashAt i≠h:=fun z=>hh (by rw [z];exact beq_self_eq_true _);rcases probe_go d r (hashAt:=hashAt) F f (k+1) (by omega) (by omega) with⟨a,b⟩ | ⟨q,i2,a1,a2,a3,a4,a5,a6,a7⟩
    ·refine .inl ⟨a,fun q i' c1 c2 c3 c4=>?_⟩;by_cases eq:q=k
     ·subst eq;rw [uniq i' c3 c4];exact hne
     ·exact b q i' (by omega) c2 c3 c4
    ·refine .inr ⟨q,i2,by omega,a2,a3,a4,a5,?_,fun q' i' c1 c2 c3 c4=>?_⟩
     ·show (if (hashAt i == h)=true then _ else _:Option Met)=_;rw [if_neg hh];exact a6
     ·by_cases eq:q'=k
      ·subst eq;rw [uniq i' c3 c4];exact hne
      ·exact a7 q' i' (by omega) c2 c3 c4
end L2.ST
end
section
namespace L2.ST
open PySem PySem.SetTable
theorem aa9 {α:Type} (xs:Array α) (i:Nat) (d:α):xs.getD i d=xs.toList.getD i d:=by
 by_cases h:i<xs.size <;> simp [asH,h,List.getD]
theorem afI {α:Type} (l:List α) (p:Nat) (x d:α) (hp:p<=l.length) (i:Nat):(l.take p++x :: l.drop p).getD i d=if i<p then l.getD i d else if i=p then x else l.getD (i - 1) d:=by
 have lt:(l.take p).length=p:=by rw [arf];omega
 by_cases h1:i<p
 ·rw [if_pos h1,aqx,aqJ (by omega),asu h1,aqx]
 ·rw [if_neg h1,aqx,aqR (by omega),lt];by_cases h2:i=p
  ·rw [if_pos h2,h2,asX];rfl
  ·rw [if_neg h2,show i - p=(i - p - 1)+1 by omega,List.getElem?_cons_succ,List.getElem?_drop,show p+(i - p - 1)=i - 1 by omega,aqx]
section
variable {t:SetTable} {hs:List Int} {h:Int} {E:Nat}
theorem put_tb (o:TB t hs) (F:First t h E) (more:hs.length+1<=t.mask):below t.place (pos t.mask h E)<=hs.length/\TB (t.put (pos t.mask h E)).1 (hs.take (below t.place (pos t.mask h E))++h :: hs.drop (below t.place (pos t.mask h E))):=by
 obtain⟨b1,b2,b3⟩:=afD o.rise (pos t.mask h E);have sz:=o.size;generalize hp:below t.place (pos t.mask h E)=p at *;have hpl:p<=t.place.toList.length:=by rw [aqN];exact b1
 have pl:∀ i,(t.put (pos t.mask h E)).1.place.getD i 0=if i<p then t.place.getD i 0 else if i=p then pos t.mask h E else t.place.getD (i - 1) 0:=fun i=>by
  show (insertAt t.place (below t.place (pos t.mask h E)) (pos t.mask h E)).getD i 0=_;rw [hp,aa9,as7,afI _ _ _ _ hpl,aa9,aa9]
 have psz:(t.put (pos t.mask h E)).1.place.size=t.place.size+1:=by
  show (insertAt t.place (below t.place (pos t.mask h E)) (pos t.mask h E)).size=_;rw [<-aqN,as7,hp,aqM,aqT,arf,List.length_drop,aqN];omega
 have ne:∀ i,i<t.place.size->t.place.getD i 0≠pos t.mask h E:=fun i hi e=>F.free ⟨i,hi,e⟩;have b3':∀ i,p<=i->i<t.place.size->pos t.mask h E<t.place.getD i 0:=fun i a b=>by
  have:=b3 i a b;have:=ne i b;omega
 have hm:(t.put (pos t.mask h E)).1.mask=t.mask:=rfl;have tk:∀ j,Tk t j->Tk (t.put (pos t.mask h E)).1 j:=fun j ⟨i,hi,e⟩=>by
  by_cases q:i<p
  ·exact⟨i,by omega,by rw [pl,if_pos q];exact e⟩
  ·exact⟨i+1,by omega,by rw [pl,if_neg (by omega),if_neg (by omega),Nat.add_sub_cancel];exact e⟩
 have hl:∀ i,(hs.take p++h :: hs.drop p).getD i 0=if i<p then hs.getD i 0 else if i=p then h else hs.getD (i - 1) 0:=fun i=>afI hs p h 0 (by omega) i
 have ln:(hs.take p++h :: hs.drop p).length=hs.length+1:=by
  rw [aqM,aqT,arf,List.length_drop];omega
 refine⟨by omega,⟨o.mask,?_,fun i j hij hj=>?_,fun i hi=>?_,by rw [psz,ln,sz],by rw [ln,hm];exact more,fun i hi=>?_⟩⟩
 ·show (if has t.dummies (pos t.mask h E)=true then _ else t.dummies)=#[];rw [o.dum];rfl
 ·rw [pl,pl];rw [psz] at hj;by_cases c1:i<p
  ·rw [if_pos c1];by_cases c2:j<p
   ·rw [if_pos c2];exact o.rise i j hij (by omega)
   ·rw [if_neg c2];by_cases c3:j=p
    ·rw [if_pos c3];exact b2 i c1
    ·rw [if_neg c3];exact o.rise i (j - 1) (by omega) (by omega)
  ·rw [if_neg c1,if_neg (show ¬ j<p by omega)];by_cases c3:i=p
   ·rw [if_pos c3,if_neg (by omega)];exact b3' (j - 1) (by omega) (by omega)
   ·rw [if_neg c3,if_neg (by omega)];exact o.rise (i - 1) (j - 1) (by omega) (by omega)
 ·rw [pl,hm];rw [psz] at hi;by_cases c1:i<p
  ·rw [if_pos c1];exact o.le i (by omega)
  ·rw [if_neg c1];by_cases c3:i=p
   ·rw [if_pos c3];exact aeA _ _ _
   ·rw [if_neg c3];exact o.le (i - 1) (by omega)
 ·rw [hl,pl,hm];rw [ln] at hi;by_cases c1:i<p
  ·rw [if_pos c1,if_pos c1];obtain⟨k,e,a⟩:=o.reach i (by omega);exact⟨k,e,fun k' hk=>tk _ (a k' hk)⟩
  ·rw [if_neg c1,if_neg c1];by_cases c3:i=p
   ·rw [if_pos c3,if_pos c3];exact⟨E,rfl,fun k' hk=>tk _ (F.ahead k' hk)⟩
   ·rw [if_neg c3,if_neg c3];obtain⟨k,e,a⟩:=o.reach (i - 1) (by omega);exact⟨k,e,fun k' hk=>tk _ (a k' hk)⟩
end
def Occ (ow:Array (Option Nat)) (j:Nat):Prop:=ow.getD j (some 0)≠none
theorem ah0 {mask:Nat} {ow:Array (Option Nat)} {h:Int}:∀ f r k,At mask h k r 0->(∃ r',r<=r'/\r'<r+f/\¬ Occ ow (lp mask h r').1) ->
  ∃ E,k<=E/\(∀ q,k<=q->q<E->Occ ow (pos mask h q))/\¬ Occ ow (pos mask h E)/\layClean.free mask ow f (lp mask h r).1 (lp mask h r).2=some (pos mask h E)
 | 0,r,k,a,⟨r',h1,h2,_⟩=>by omega
 | f+1,r,k,a,⟨r',h1,h2,h3⟩=>by
  have re:=abN mask _ (afE mask h r);have at_:∀ d,d<=runEnd mask (lp mask h r).1 - (lp mask h r).1->pos mask h (k+d)=(lp mask h r).1+d:=fun d hd=>by
   have:=(aez a d hd).2;unfold pos;rw [this]
  unfold layClean.free;cases hf:(aqL (runEnd mask (lp mask h r).1+1 - (lp mask h r).1)).find? fun k=>(ow.getD ((lp mask h r).1+k) (some 0)).isNone with
  | some d =>
   have hm:=List.mem_of_find?_eq_some hf;have hd:=aqY.mp hm;have hs:=List.find?_some hf;have bef:∀ d',d'<d->¬ (ow.getD ((lp mask h r).1+d') (some 0)).isNone=true:=fun d' hd'=>by
    obtain⟨_,as,bs,e,al⟩:=List.find?_eq_some_iff_append.mp hf;have:as=aqL d:=by
     have l1:(aqL (runEnd mask (lp mask h r).1+1 - (lp mask h r).1))[as.length]?=some d:=by
      rw [e,aqR (aqC _),asX];rfl
     have lt:as.length<runEnd mask (lp mask h r).1+1 - (lp mask h r).1:=by
      have:=congrArg auL e;simp at this;omega
     rw [arW lt] at l1;have el:as.length=d:=Option.some.inj l1;have:as=(aqL (runEnd mask (lp mask h r).1+1 - (lp mask h r).1)).take as.length:=by
      rw [e,List.take_append_of_le_length (aqC _),aq6]
     rw [this,List.take_range,Nat.min_eq_left (by omega),el]
    have al2:=al d' (by rw [this];exact aqY.mpr hd');intro z;have z2:(!(ow.getD ((lp mask h r).1+d') (some 0)).isNone)=true:=al2;rw [z] at z2;cases z2
   refine⟨k+d,by omega,fun q hq1 hq2=>?_,?_,?_⟩
   ·have:=bef (q - k) (by omega);rw [show q=k+(q - k) by omega,at_ (q - k) (by omega)];intro z;rw [z] at this;exact this rfl
   ·rw [at_ d (by omega)];intro z;have hs':(ow.getD ((lp mask h r).1+d) (some 0)).isNone=true:=hs;exact z (asY.mp hs')
   ·rw [at_ d (by omega)]
  | none =>
   have all:∀ d,d<runEnd mask (lp mask h r).1+1 - (lp mask h r).1->Occ ow ((lp mask h r).1+d):=fun d hd z=>by
    have:=atB.mp hf d (aqY.mpr hd);simp [z] at this
   have ne:r'≠r:=fun z=>by
    rw [z] at h3;exact h3 (by have:=all 0 (by omega);rwa [Nat.add_zero] at this)
   have a2:=aey (aez a _ (aqC _)) rfl;obtain⟨E,e1,e2,e3,e4⟩:=ah0 f (r+1) _ a2 ⟨r',by omega,by omega,h3⟩;refine⟨E,by omega,fun q hq1 hq2=>?_,e3,e4⟩;by_cases hq:q<k+(runEnd mask (lp mask h r).1 - (lp mask h r).1)+1
   ·rw [show q=k+(q - k) by omega,at_ (q - k) (by omega)];exact all _ (by omega)
   ·exact e2 q (by omega) hq2
end L2.ST
end
section
namespace L2.ST
open PySem PySem.SetTable
structure OwnT (mask:Nat) (ow:Array (Option Nat)) (hs:List Int) (sl:List Nat):Prop where
 size:ow.size=mask+1
 len:sl.length=hs.length
 nd:sl.Nodup
 le:∀ j∈sl,j<=mask
 own:∀ j,j<=mask->∀ i,ow.getD j none=some i↔sl[i]?=some j
 reach:∀ i,i<hs.length->∃ q,pos mask (hs.getD i 0) q=sl.getD i 0/\∀ q',q'<q->pos mask (hs.getD i 0) q'∈sl
theorem OwnT.occ {mask:Nat} {ow:Array (Option Nat)} {hs:List Int} {sl:List Nat} (o:OwnT mask ow hs sl) {j:Nat} (hj:j<=mask):Occ ow j↔j∈sl:=by
 have hs':j<ow.size:=by rw [o.size];omega
 have e:ow.getD j (some 0)=ow.getD j none:=by simp [asH,hs']
 unfold Occ;rw [e];constructor
 ·intro h;obtain⟨i,hi⟩:=Option.ne_none_iff_exists'.mp h;exact aqz ((o.own j hj i).mp hi)
 ·intro h z;obtain⟨i,hi,e2⟩:=asy h;have:=(o.own j hj i).mpr (by rw [aqq hi,e2]);rw [z] at this;cases this
def ah1 (mask:Nat):Option (Array (Option Nat)×Nat)->Int->Option (Array (Option Nat)×Nat):=fun acc h=>do
  let (owner,k) <- acc
  let j <- layClean.free mask owner (turns mask) (bits h % (mask+1)) (bits h)
  pure (owner.setIfInBounds j (some k),k+1)
theorem aks {mask:Nat} (g:qv (mask+1)=true) {ow:Array (Option Nat)} {hs:List Int} {sl:List Nat} (o:OwnT mask ow hs sl) (hm:hs.length<=mask) (h:Int) :
  ∃ ow' sl',ah1 mask (some (ow,hs.length)) h=some (ow',hs.length+1)/\OwnT mask ow' (hs++[h]) sl':=by
 obtain⟨j,hj,nj⟩:∃ j,j<=mask/\j∉sl:=by
  refine arC fun no=>?_;have sub:aqL (mask+1) ⊆ sl:=fun j hj=>arC fun z=>no ⟨j,att.mp (aqY.mp hj),z⟩;have:=List.Nodup.length_le_of_subset atn sub;rw [ara,o.len] at this;omega
 obtain⟨r,hr,e⟩:=ahY g (i:=(lp mask h 13).1) (j:=j) (atg (afE mask h 13)) (atg hj);obtain⟨E,_,e2,e3,e4⟩:=ah0 (ow:=ow) (turns mask) 0 0 (aex mask h) ⟨13+r,aq2 _,by unfold turns;omega,by rw [agI,e,o.occ hj];exact nj⟩;have e3':pos mask h E∉sl:=fun z=>e3 ((o.occ (aeA mask h E)).mpr z);have e2':∀ q,q<E->pos mask h q∈sl:=fun q hq=>(o.occ (aeA mask h q)).mp (e2 q (aq2 _) hq);have e4':layClean.free mask ow (turns mask) (bits h % (mask+1)) (bits h)=some (pos mask h E):=e4;refine⟨ow.setIfInBounds (pos mask h E) (some hs.length),sl++[pos mask h E],?_,?_⟩
 ·show (layClean.free mask ow (turns mask) (bits h % (mask+1)) (bits h) >>= fun j=>pure (ow.setIfInBounds j (some hs.length),hs.length+1))=_;rw [e4'];rfl
 ·have ls:∀ i,(sl++[pos mask h E])[i]?=if i<sl.length then sl[i]? else if i=sl.length then some (pos mask h E) else none:=fun i=>by
   by_cases c:i<sl.length
   ·rw [if_pos c,aqJ c]
   ·rw [if_neg c,aqR (by omega)];by_cases c2:i=sl.length
    ·rw [if_pos c2,c2,asX];rfl
    ·rw [if_neg c2];exact aqZ (by simp;omega)
  refine⟨by rw [Array.size_setIfInBounds];exact o.size,by simp [o.len],?_,fun j hj=>?_,fun j hj i=>?_,fun i hi=>?_⟩
  ·rw [aru];refine⟨o.nd,by simp,fun a ha b hb=>?_⟩;rw [aqF.mp hb];intro z;rw [z] at ha;exact e3' ha
  ·rcases aqK.mp hj with hj | hj
   ·exact o.le j hj
   ·rw [aqF.mp hj];exact aeA _ _ _
  ·have hsz:j<ow.size:=by rw [o.size];omega
   rw [ls];by_cases c:j=pos mask h E
   ·subst c;have:(ow.setIfInBounds (pos mask h E) (some hs.length)).getD (pos mask h E) none=some hs.length:=by simp [asH,hsz]
    rw [this];constructor
    ·intro z;have z':hs.length=i:=Option.some.inj z;rw [if_neg (by rw [o.len];omega),if_pos (by rw [o.len];omega)]
    ·intro z;by_cases c2:i<sl.length
     ·rw [if_pos c2] at z;exact absurd (aqz z) e3'
     ·rw [if_neg c2] at z;by_cases c3:i=sl.length
      ·rw [c3,o.len]
      ·rw [if_neg c3] at z;cases z
   ·have:(ow.setIfInBounds (pos mask h E) (some hs.length)).getD j none=ow.getD j none:=by
     rw [ar5,ar5,Array.getElem?_setIfInBounds_ne (arU c)]
    rw [this,o.own j hj i];by_cases c2:i<sl.length
    ·rw [if_pos c2]
    ·rw [if_neg c2];constructor
     ·intro z;rw [aqZ (by omega)] at z;cases z
     ·intro z;by_cases c3:i=sl.length
      ·rw [if_pos c3] at z;exact absurd (Option.some.inj z).symm c
      ·rw [if_neg c3] at z;cases z
  ·have gl:∀ i,(hs++[h]).getD i 0=if i<hs.length then hs.getD i 0 else if i=hs.length then h else 0:=fun i=>by
    by_cases c:i<hs.length
    ·rw [if_pos c,aqx,aqJ c,aqx]
    ·rw [if_neg c,aqx,aqR (by omega)];by_cases c2:i=hs.length
     ·rw [if_pos c2,c2,asX];rfl
     ·rw [if_neg c2,aqZ (by simp;omega)];rfl
   rw [aqM,ars] at hi;have gs:(sl++[pos mask h E]).getD i 0=((sl++[pos mask h E])[i]?).getD 0:=aqx ..;rw [gl,gs,ls];by_cases c:i<hs.length
   ·rw [if_pos c,if_pos (by rw [o.len];exact c)];obtain⟨q,a,b⟩:=o.reach i c;exact⟨q,by rw [<-aqx];exact a,fun q' hq=>aq1 _ (b q' hq)⟩
   ·rw [if_neg c,if_pos (by omega),if_neg (by rw [o.len];omega),if_pos (by rw [o.len];omega)];exact⟨E,rfl,fun q' hq=>aq1 _ (e2' q' hq)⟩
theorem ah2 {mask:Nat} (g:qv (mask+1)=true):∀ (l:List Int) (ow:Array (Option Nat)) (hs:List Int) (sl:List Nat),OwnT mask ow hs sl->hs.length+l.length<=mask+1 ->
  ∃ ow' sl',l.foldl (ah1 mask) (some (ow,hs.length))=some (ow',hs.length+l.length)/\OwnT mask ow' (hs++l) sl'
 | [],ow,hs,sl,o,_=>⟨ow,sl,rfl,by rw [arc];exact o⟩
 | h :: l,ow,hs,sl,o,hm=>by
  rw [aqT] at hm;obtain⟨ow1,sl1,e1,o1⟩:=aks g o (by omega) h;obtain⟨ow2,sl2,e2,o2⟩:=ah2 g l ow1 (hs++[h]) sl1 o1 (by rw [aqM,ars];omega);refine⟨ow2,sl2,?_,by rw [arB] at o2;exact o2⟩;rw [List.foldl_cons,e1];rw [aqM,ars] at e2;rw [e2,aqT,atX,Nat.add_comm 1]
theorem ami (mask:Nat):OwnT mask (atv (mask+1) none) [] [] where
 size:=by simp
 len:=rfl
 nd:=.nil
 le:=fun _ h=>nomatch h
 own:=fun j hj i=>by
  have:(atv (mask+1) (none:Option Nat)).getD j none=none:=by simp [asH]
  rw [this];constructor <;> intro z <;> cases z
 reach:=fun i hi=>absurd hi (arQ _)
theorem akt {mask:Nat} (g:qv (mask+1)=true) (hs:Array Int) (hm:hs.size<=mask+1):∃ ow sl,layClean mask hs=some ow/\OwnT mask ow hs.toList sl:=by
 obtain⟨ow,sl,e,o⟩:=ah2 g hs.toList _ [] [] (ami mask) (by simpa using hm);refine⟨ow,sl,?_,by simpa using o⟩;unfold layClean;rw [<-Array.foldl_toList];have:hs.toList.foldl (ah1 mask) (some (atv (mask+1) none,0))=some (ow,0+hs.toList.length):=e;show Option.map _ (hs.toList.foldl (ah1 mask) (some (atv (mask+1) none,0)))=_;rw [this];rfl
theorem laid_ok {mask:Nat} (mk:mask=7 \/ mask=31 \/ mask=127 \/ mask=511) (hs:Array Int) (hm:hs.size<=mask) (finger moves:Nat) (led plain:Bool) :
  ∃ t ord,laid mask finger moves led plain hs=some (t,ord)/\t.mask=mask/\t.plain=plain/\t.led=led/\ord.toList.Perm (aqL hs.size)/\TB t (ord.toList.map fun i=>hs.toList.getD i 0):=by
 have g:qv (mask+1)=true:=by
  rcases mk with rfl | rfl | rfl | rfl
  ·exact ahX
  ·exact afG
  ·exact adX
  ·exact adY
 obtain⟨ow,sl,e,o⟩:=akt g hs (by omega)
 let live:=(aqL (mask+1)).filterMap fun j=>(ow.getD j none).map (j,·)
 have mem:∀ p:Nat×Nat,p∈live↔p.1<=mask/\sl[p.2]?=some p.1:=fun⟨j,i⟩=>by
  show (j,i)∈List.filterMap _ _↔_;rw [asE];constructor
  ·rintro⟨j',hj,e⟩;have hj':=att.mp (aqY.mp hj);cases e2:ow.getD j' none with
   | none=>rw [e2] at e;cases e
   | some i' =>
    rw [e2] at e;cases e;exact⟨hj',(o.own _ hj' _).mp e2⟩
  ·rintro⟨h1,h2⟩;refine⟨j,aqY.mpr (by omega),?_⟩;rw [(o.own j h1 i).mpr h2];rfl
 have up:(live.map (·.1)).Pairwise (·<·):=by
  rw [arA];show (List.filterMap _ _).Pairwise _;rw [List.pairwise_filterMap];refine at8.imp fun {a b} hab p hp q hq=>?_;cases e1:ow.getD a none with
  | none=>rw [e1] at hp;cases hp
  | some i =>
   cases e2:ow.getD b none with
   | none=>rw [e2] at hq;cases hq
   | some i2 =>
    rw [e1] at hp;rw [e2] at hq;cases hp;cases hq;exact hab
 have nd2:(live.map (·.2)).Nodup:=by
  show List.Pairwise _ _;rw [arA];have u2:=arA.mp up;refine u2.imp_of_mem fun {p q} hp hq hlt hz=>?_;have a1:=((mem p).mp hp).2;have a2:=((mem q).mp hq).2;rw [hz,a2] at a1;have:=Option.some.inj a1;omega
 have pm:(live.map (·.2)).Perm (aqL hs.size):=by
  refine (List.perm_ext_iff_of_nodup nd2 atn).mpr fun i=>?_;have ls:sl.length=hs.size:=by rw [o.len,aqN]
  constructor
  ·intro hi;obtain⟨p,hp,rfl⟩:=aqG.mp hi;have:=(aqs.mp ((mem p).mp hp).2).1;exact aqY.mpr (by omega)
  ·intro hi;have hi':=aqY.mp hi;have hl:i<sl.length:=by omega
   exact aqG.mpr ⟨(sl[i],i),(mem _).mpr ⟨o.le _ (aq0 hl),aqq hl⟩,rfl⟩
 refine⟨_,_,by unfold laid;rw [e];rfl,rfl,rfl,rfl,pm,?_⟩;have ln:live.length=hs.size:=by have:=pm.length_eq;rwa [aqr,ara] at this
 have tk:∀ j,j∈sl->∃ i,i<live.length/\(live.map (·.1)).getD i 0=j:=fun j hj=>by
  obtain⟨i,hi,e2⟩:=asy hj;have:(j,i)∈live:=(mem _).mpr ⟨o.le j hj,by rw [aqq hi,e2]⟩;obtain⟨q,hq,e3⟩:=asy this;exact⟨q,hq,by rw [aqx,aqA,aqq hq,e3];rfl⟩
 have gd:∀ i,(live.map (·.1)).toArray.getD i 0=(live.map (·.1)).getD i 0:=fun i=>by rw [aa9]
 refine⟨mk,rfl,fun i j hij hj=>?_,fun i hi=>?_,?_,?_,fun i hi=>?_⟩
 ·show (live.map (·.1)).toArray.getD i 0<(live.map (·.1)).toArray.getD j 0;have hj':j<(live.map (·.1)).length:=by
   have h2:j<(live.map (·.1)).toArray.size:=hj
   rwa [aqU] at h2
  rw [gd,gd,aqx,aqx,aqq hj',aqq (show i<(live.map (·.1)).length by omega)];exact asi.mp up i j (by omega) hj' hij
 ·show (live.map (·.1)).toArray.getD i 0<=mask;have hi':i<(live.map (·.1)).length:=by
   have h2:i<(live.map (·.1)).toArray.size:=hi
   rwa [aqU] at h2
  rw [gd,aqx,aqq hi'];obtain⟨p,hp,e2⟩:=aqG.mp (aq0 hi');show (live.map (·.1))[i]<=mask;rw [<-e2];exact ((mem p).mp hp).1
 ·show (live.map (·.1)).toArray.size=_;simp
 ·show (atp _ (live.map (·.2))).length<=mask;rw [aqr,aqr,ln];exact hm
 ·have hi':i<live.length:=by
   have hi2:i<(atp (fun i=>hs.toList.getD i 0) (live.map (·.2))).length:=hi
   rwa [aqr,aqr] at hi2
  have pl:(live.map (·.1)).toArray.getD i 0=live[i].1:=by
   rw [gd,aqx,aqA,aqq hi'];rfl
  have hh:(atp (fun i=>hs.toList.getD i 0) (live.map (·.2))).getD i 0=hs.toList.getD live[i].2 0:=by
   rw [aqx,aqA,aqA,aqq hi'];rfl
  have m2:=(mem live[i]).mp (aq0 hi');have l2:=(aqs.mp m2.2).1;obtain⟨q,a,b⟩:=o.reach live[i].2 (by rw [<-o.len];exact l2);refine⟨q,?_,fun q' hq=>?_⟩
  ·show pos mask ((atp (fun i=>hs.toList.getD i 0) (live.map (·.2))).getD i 0) q=(live.map (·.1)).toArray.getD i 0;rw [hh,pl,a,aqx,m2.2];rfl
  ·show Tk _ (pos mask ((atp (fun i=>hs.toList.getD i 0) (live.map (·.2))).getD i 0) q');rw [hh];obtain⟨z,hz,ez⟩:=tk _ (b q' hq);exact⟨z,by show z<(live.map (·.1)).toArray.size;simpa using hz,by show (live.map (·.1)).toArray.getD z 0=_;rw [gd];exact ez⟩
end L2.ST
end
section
namespace L2
open PySem PySem.Spec PyProof.Rows
mutual
noncomputable def zw (w:World):PyData->Int
 | .int i=>hashInt i
 | .str x=>hashStr w x
 | .tuple xs=>reduceHash (asj (vW w xs))
 | _=>0
noncomputable def vW (w:World):List PyData->List Int
 | []=>[]
 | x :: xs=>zw w x :: vW w xs
end
mutual
noncomputable def yg:PyData->Nat
 | .int _=>1
 | .str _=>1
 | .tuple xs=>acY xs+1
 | _=>0
noncomputable def acY:List PyData->Nat
 | []=>0
 | x :: xs=>yg x+acY xs
end
mutual
theorem acZ {P:Program} {w:World}:∀ (d:PyData) (A:Around) (s:Shared) (v:Value) (as:List Addr) (E:Value->Shared->Prop) (Q:Int->Shared->Prop),Reads s.heap v d as->zA d=true->A.units+4 * d.depth<cLine ->
  Q (zw w d) { s with toks:=s.toks+yg d }->wpAny (model P w) A (pyHash v) Q E s
 | .int i,A,s,_,_,E,Q,r,_,_,q=>by
  cases r;rw [zw,yg] at q;exact wpAny_pyHash_int q
 | .str x,A,s,_,_,E,Q,r,_,_,q=>by
  cases r;rw [zw,yg] at q;exact wpAny_pyHash_str q
 | .tuple xs,A,s,_,_,E,Q,r,p,hu,q=>by
  cases r with
  | @tuple a o vs n _ as h1 h2 h3 h4 =>
   rw [zA] at p;rw [zw,yg] at q;have hT:s.TypeIs (.ref a) "tuple":=⟨o,h1,h2⟩;have e1:(PyData.tuple xs).depth=aqH xs+1:=rfl;rw [e1] at hu;show wpAny _ A (pyHashByItsType (.ref a)) Q E s;unfold pyHashByItsType;apply wpAny_bind;apply wpAny_cRoomFor_or (.inr (by omega));apply wpAny_bind;apply wpAny_specialOf hT ar0.lookup;show wpAny _ _ (if (some (Value.builtin "tuple.__hash__") == some Value.none)=true then _ else _) Q E s;rw [if_neg (by rw [beq_builtin_none];exact aqt)];apply wpAny_bind;apply wpAny_specialOf hT ar0.lookup;show wpAny _ _ (callSpecialIfBoundUnlessNone? (.ref a) "__hash__" _ >>= _) Q E s;apply wpAny_bind;refine wpAny_callSpecialIfBoundUnlessNone?_slot hT ar0 (wpAny_call_entry ar0 hT PySem.F.entry_tuple_hash ?_ (PySem.F.args_tuple_hash_1 _));show wpAny _ _ (Builtin.Tuple.tupleItemsOf (.ref a) >>= _) _ _ s;apply wpAny_bind;apply wpAny_tupleItemsOf h1 h3;apply wpAny_bind;rw [<-atb];have hu1:A.in1.units=A.units+1:=rfl;refine ac0 xs A.in1 s vs.toList _ #[] _ _ h4 p (by omega) ?_;simp only [arc,List.nil_append];show wpAny _ _ (retInt (asj (#[]++(vW w xs).toArray).toList)) _ _ _;rw [show (#[]++(vW w xs).toArray:Array Int).toList=vW w xs by simp];refine wpAny_ret_mkInt ?_;show wpAny _ _ (pyHashByItsType.reduced _) Q E _;unfold reduceHash at q;unfold pyHashByItsType.reduced;by_cases hr:(decide (-(2:Int) ^ 63<=asj (vW w xs)) && decide (asj (vW w xs)<2 ^ 63))=true
   ·rw [if_pos hr] at q ⊢;exact wpAny_pure (by simpa [atX] using q)
   ·rw [if_neg hr] at q ⊢;exact wpAny_bind (wpAny_rule (wpAny_pure (by simpa [atX] using q)))
 | .none,_,_,_,_,_,_,_,h,_,_=>by cases h
 | .bool _,_,_,_,_,_,_,_,h,_,_=>by cases h
 | .list _,_,_,_,_,_,_,_,h,_,_=>by cases h
 | .dict _,_,_,_,_,_,_,_,h,_,_=>by cases h
theorem ac0 {P:Program} {w:World}:∀ (xs:List PyData) (A:Around) (s:Shared) (vs:List Value) (as:List Addr) (acc:Array Int) (E:Value->Shared->Prop) (Q:Array Int->Shared->Prop),ReadsAll s.heap vs xs as->zM xs=true->A.units+4 * aqH xs<cLine ->
  Q (acc++(vW w xs).toArray) { s with toks:=s.toks+acY xs }->wpAny (model P w) A (forIn vs acc fun x r=>do
   let h <- pyHash x
   pure (ForInStep.yield (r.push h))) Q E s
 | [],A,s,_,_,acc,E,Q,r,_,_,q=>by
  cases r;rw [asS];rw [vW,acY] at q;exact wpAny_pure (by simpa using q)
 | x :: xs,A,s,_,_,acc,E,Q,r,p,hu,q=>by
  cases r with
  | cons r1 r2 =>
   rw [zM,aqy] at p;rw [vW,acY] at q;have e1:aqH (x :: xs)=max x.depth (aqH xs):=rfl;rw [e1] at hu;rw [asJ];apply wpAny_bind;apply wpAny_bind;refine acZ x A s _ _ _ _ r1 p.1 (by omega) (wpAny_pure ?_);refine ac0 xs A { s with toks:=s.toks+yg x } _ _ _ _ _ r2 p.2 (by omega) ?_;have e2:acc.push (zw w x)++(vW w xs).toArray=acc++(zw w x :: vW w xs).toArray:=by simp
   rw [e2];rw [<-atX] at q;exact q
end
mutual
theorem qH {P:Program} {w:World}:∀ (d:PyData) (n:Nat) (A:Around) (s:Shared) (v:Value) (as:List Addr) (E:Value->Shared->Prop) (Q:Bool->Shared->Prop),Reads s.heap v d as->zA d=true->d.depth<=n->Q true s->wpAny (model P w) A (eqIsQuiet n v) Q E s
 | .int i,n,A,s,_,_,E,Q,r,_,_,q=>by
  cases r;rw [eqIsQuiet_byValue n rfl];exact wpAny_pure q
 | .str x,n,A,s,_,_,E,Q,r,_,_,q=>by
  cases r;rw [eqIsQuiet_byValue n rfl];exact wpAny_pure q
 | .tuple xs,n,A,s,_,_,E,Q,r,p,hn,q=>by
  cases r with
  | @tuple a o vs n' _ as h1 h2 h3 h4 =>
   rw [zA] at p;have e1:(PyData.tuple xs).depth=aqH xs+1:=rfl;rw [e1] at hn;obtain⟨m,rfl⟩:∃ m,n=m+1:=⟨n - 1,by omega⟩;have hT:s.TypeIs (.ref a) "tuple":=⟨o,h1,h2⟩;unfold eqIsQuiet;apply wpAny_bind;apply wpAny_specialOf hT PySem.F.slot_tuple_eq.lookup;show wpAny _ _ (isInstance (.ref a) (.type "tuple") >>= _) _ _ s;apply wpAny_bind;apply wpAny_isInstance hT isSubtype_tuple_tuple;simp only [arH,ard,if_false];apply wpAny_bind;apply wpAny_seqItems h1 h3;apply wpAny_bind;show wpAny _ _ (forIn vs _ _) _ _ s;rw [<-atb];exact ab6 xs m A s _ _ _ _ h4 p (by omega) (wpAny_pure q)
 | .none,_,_,_,_,_,_,_,_,h,_,_=>by cases h
 | .bool _,_,_,_,_,_,_,_,_,h,_,_=>by cases h
 | .list _,_,_,_,_,_,_,_,_,h,_,_=>by cases h
 | .dict _,_,_,_,_,_,_,_,_,h,_,_=>by cases h
theorem ab6 {P:Program} {w:World}:∀ (xs:List PyData) (m:Nat) (A:Around) (s:Shared) (vs:List Value) (as:List Addr) (E:Value->Shared->Prop) (Q:Option Bool×Unit->Shared->Prop),ReadsAll s.heap vs xs as->zM xs=true->aqH xs<=m->Q (none,()) s ->
  wpAny (model P w) A (forIn vs ((none,()):Option Bool×Unit) fun y _=>do
   let b <- eqIsQuiet m y
   if (!b)=true then pure (ForInStep.done (some false,())) else pure (ForInStep.yield (none,()))) Q E s
 | [],m,A,s,_,_,E,Q,r,_,_,q=>by
  cases r;rw [asS];exact wpAny_pure q
 | x :: xs,m,A,s,_,_,E,Q,r,p,hn,q=>by
  cases r with
  | cons r1 r2 =>
   rw [zM,aqy] at p;have e1:aqH (x :: xs)=max x.depth (aqH xs):=rfl;rw [e1] at hn;rw [asJ];apply wpAny_bind;apply wpAny_bind;refine qH x m A s _ _ _ _ r1 p.1 (by omega) ?_;simp only [arH,ard,if_false];exact wpAny_pure (ab6 xs m A s _ _ _ _ r2 p.2 (by omega) q)
end
mutual
theorem abO {P:Program} {w:World}:∀ (d:PyData) (n:Nat) (A:Around) (s:Shared) (v:Value) (as:List Addr) (E:Value->Shared->Prop) (Q:Bool->Shared->Prop),Reads s.heap v d as->zA d=true->d.depth<=n->Q false s->wpAny (model P w) A (ofAClassStatement n v) Q E s
 | .int i,n,A,s,_,_,E,Q,r,_,_,q=>by
  cases r;unfold ofAClassStatement;exact wpAny_pure q
 | .str x,n,A,s,_,_,E,Q,r,_,_,q=>by
  cases r;unfold ofAClassStatement;exact wpAny_pure q
 | .tuple xs,n,A,s,_,_,E,Q,r,p,hn,q=>by
  cases r with
  | @tuple a o vs n' _ as h1 h2 h3 h4 =>
   rw [zA] at p;have e1:(PyData.tuple xs).depth=aqH xs+1:=rfl;rw [e1] at hn;obtain⟨m,rfl⟩:∃ m,n=m+1:=⟨n - 1,by omega⟩;have hT:s.TypeIs (.ref a) "tuple":=⟨o,h1,h2⟩;unfold ofAClassStatement;apply wpAny_bind;apply wpAny_typeOf hT;dsimp only;rw [if_pos (show ("tuple" == "tuple")=true from rfl)];apply wpAny_bind;apply wpAny_pure;simp only [arH,ard,if_false];apply wpAny_bind;apply wpAny_seqItems h1 h3;dsimp only;apply wpAny_bind;rw [<-atb];exact adZ xs m A s _ _ _ _ h4 p (by omega) (wpAny_pure q)
 | .none,_,_,_,_,_,_,_,_,h,_,_=>by cases h
 | .bool _,_,_,_,_,_,_,_,_,h,_,_=>by cases h
 | .list _,_,_,_,_,_,_,_,_,h,_,_=>by cases h
 | .dict _,_,_,_,_,_,_,_,_,h,_,_=>by cases h
theorem adZ {P:Program} {w:World}:∀ (xs:List PyData) (m:Nat) (A:Around) (s:Shared) (vs:List Value) (as:List Addr) (E:Value->Shared->Prop) (Q:Option Bool×Unit->Shared->Prop),ReadsAll s.heap vs xs as->zM xs=true->aqH xs<=m->Q (none,()) s ->
  wpAny (model P w) A (forIn vs ((none,()):Option Bool×Unit) fun y _=>do
   let b <- ofAClassStatement m y
   if b=true then pure (ForInStep.done (some true,())) else pure (ForInStep.yield (none,()))) Q E s
 | [],m,A,s,_,_,E,Q,r,_,_,q=>by
  cases r;rw [asS];exact wpAny_pure q
 | x :: xs,m,A,s,_,_,E,Q,r,p,hn,q=>by
  cases r with
  | cons r1 r2 =>
   rw [zM,aqy] at p;have e1:aqH (x :: xs)=max x.depth (aqH xs):=rfl;rw [e1] at hn;rw [asJ];apply wpAny_bind;apply wpAny_bind;refine abO x m A s _ _ _ _ r1 p.1 (by omega) ?_;simp only [ard,if_false];exact wpAny_pure (adZ xs m A s _ _ _ _ r2 p.2 (by omega) q)
end
mutual
theorem ab7 {P:Program} {w:World}:∀ (d:PyData) (n:Nat) (A:Around) (s:Shared) (v:Value) (as:List Addr) (E:Value->Shared->Prop) (Q:Bool->Shared->Prop),Reads s.heap v d as->zA d=true->(∀ b,Q b s)->wpAny (model P w) A (hashByValue n v) Q E s
 | .int i,n,A,s,_,_,E,Q,r,_,q=>by
  cases r;unfold hashByValue;exact wpAny_pure (q _)
 | .str x,n,A,s,_,_,E,Q,r,_,q=>by
  cases r;unfold hashByValue;exact wpAny_pure (q _)
 | .tuple xs,n,A,s,_,_,E,Q,r,p,q=>by
  cases r with
  | @tuple a o vs n' _ as h1 h2 h3 h4 =>
   rw [zA] at p;have hT:s.TypeIs (.ref a) "tuple":=⟨o,h1,h2⟩;cases n with
   | zero =>
    unfold hashByValue;exact wpAny_pure (q _)
   | succ m =>
    unfold hashByValue;apply wpAny_bind;apply wpAny_specialOf hT ar0.lookup;show wpAny _ _ (seqItems? (.ref a) >>= _) _ _ s;apply wpAny_bind;apply wpAny_seqItems h1 h3;apply wpAny_bind;show wpAny _ _ (forIn vs _ _) _ _ s;rw [<-atb];exact ab8 xs m A s _ _ _ _ h4 p (wpAny_pure (q _)) fun b=>wpAny_pure (q b)
 | .none,_,_,_,_,_,_,_,_,h,_=>by cases h
 | .bool _,_,_,_,_,_,_,_,_,h,_=>by cases h
 | .list _,_,_,_,_,_,_,_,_,h,_=>by cases h
 | .dict _,_,_,_,_,_,_,_,_,h,_=>by cases h
theorem ab8 {P:Program} {w:World}:∀ (xs:List PyData) (m:Nat) (A:Around) (s:Shared) (vs:List Value) (as:List Addr) (E:Value->Shared->Prop) (Q:Option Bool×Unit->Shared->Prop),ReadsAll s.heap vs xs as->zM xs=true->Q (none,()) s->(∀ b,Q (some b,()) s) ->
  wpAny (model P w) A (forIn vs ((none,()):Option Bool×Unit) fun y _=>do
   let b <- hashByValue m y
   if (!b)=true then pure (ForInStep.done (some false,())) else pure (ForInStep.yield (none,()))) Q E s
 | [],m,A,s,_,_,E,Q,r,_,q,_=>by
  cases r;rw [asS];exact wpAny_pure q
 | x :: xs,m,A,s,_,_,E,Q,r,p,q,q2=>by
  cases r with
  | cons r1 r2 =>
   rw [zM,aqy] at p;rw [asJ];apply wpAny_bind;apply wpAny_bind;refine ab7 x m A s _ _ _ _ r1 p.1 fun b=>?_;cases b with
   | true =>
    simp only [arH,ard,if_false];exact wpAny_pure (ab8 xs m A s _ _ _ _ r2 p.2 q q2)
   | false =>
    simp only [atD,if_true];exact wpAny_pure (wpAny_pure (q2 false))
end
noncomputable instance decPy:DecidableEq PyData:=fun a b=>arL _
structure KeyAt (h:Heap) (d:PyData) (a:Addr):Prop where
 rd:∃ as,Reads h (.ref a) d as
 pl:zA d=true
 dp:d.depth<=8
theorem KeyAt.keep {h h':Heap} {d:PyData} {a:Addr} (x:KeyAt h d a) (k:∀ b o,h.get? b=some o->(∀ es ep,o.data≠.dict es ep)->(∀ es ep t,o.data≠.set es ep t)->h'.get? b=some o):KeyAt h' d a:=by
 obtain⟨⟨as,r⟩,p,q⟩:=x;refine⟨?_,p,q⟩;have go:(∀ (d:PyData) (v:Value) (as:List Addr),Reads h v d as->zA d=true->Reads h' v d as):=by
  intro d v as r;refine Reads.rec (motive_1:=fun v d as _=>zA d=true->Reads h' v d as) (motive_2:=fun vs ds as _=>zM ds=true->ReadsAll h' vs ds as) ?_ ?_ ?_ ?_ ?_ ?_ ?_ ?_ ?_ r
  ·intro p;cases p
  ·intro b p;cases p
  ·intro i t p;exact .int i t
  ·intro x t p;exact .str x t
  ·intro a o vs n xs as h1 h2 h3 h4 ih p;cases p
  ·intro a o vs n xs as h1 h2 h3 h4 ih p;rw [zA] at p;exact .tuple (k a o h1 (fun es ep z=>by rw [h3] at z;cases z) (fun es ep t z=>by rw [h3] at z;cases z)) h2 h3 (ih p)
  ·intros;rename_i p;cases p
  ·intro p;exact .nil
  ·intro v vs d ds as bs r rs ih1 ih2 p;rw [zM,aqy] at p;exact .cons (ih1 p.1) (ih2 p.2)
 exact⟨as,go d _ as r p⟩
noncomputable def aco (P:Program) (w:World):HeapKind P w PyData where
 is:=KeyAt
 hash:=zw w
 draws:=yg
 room:=fun A=>A.units+40<cLine
 inj:=fun {h a x y} hx hy=>by
  obtain⟨⟨as,r⟩,p,_⟩:=hx;obtain⟨⟨bs,r'⟩,p',_⟩:=hy;exact SeqAt.Reads.unique _ _ _ _ _ (yN x p) r r'
 keeps:=fun {h h' k a d o es ep} x ho hd sb=>x.keep fun b u hb n1 n2=>by
  have:b≠d:=fun z=>by
   rw [z,ho] at hb;cases hb;exact n1 es ep hd
  exact (sb.2 b this).trans hb
 pyHash:=fun {A E s k a Q} hu x q=>by
  obtain⟨⟨as,r⟩,p,hd⟩:=x;exact acZ k A s _ as E Q r p (by omega) q
 eqBool:=fun {A E s x y a b Q} hu hx hy q=>by
  obtain⟨⟨as,r⟩,p,hd⟩:=hx;obtain⟨⟨bs,r'⟩,p',hd'⟩:=hy;refine SeqAt.eqAt_reads x y A s _ _ _ _ r r' (yN x p) (yN y p') (by omega) P w E Q ?_;have:aqX x y=decide (x=y):=by
   by_cases e:x=y
   ·rw [decide_eq_true e];exact (acn p p').mpr e
   ·rw [decide_eq_false e];cases z:aqX x y with
    | false=>rfl
    | true=>exact absurd ((acn p p').mp z) e
  rw [this];exact q
 quiet:=fun {A E s k a Q} x q=>by
  obtain⟨⟨as,r⟩,p,hd⟩:=x;exact qH k 8 A s _ as E Q r p hd q
end L2
end
section
namespace L2
open PySem PySem.Spec PyProof.Rows PySem.SetTable
section
variable {P:Program} {w:World} {A:Around} {E:Value->Shared->Prop} {s:Shared}
theorem amj {b:Addr} {d:PyData} {Q:Bool->Shared->Prop} (kb:KeyAt s.heap d b):∀ l:List Value,(∀ y∈l,∃ d' b',y=.ref b'/\KeyAt s.heap d' b')->Q false s->wpAny (model P w) A (searchCouldBeSeen (.ref b) l) Q E s:=by
 intro l hl q;unfold searchCouldBeSeen;apply wpAny_bind;refine wpAny_forIn_list _ (fun rest r s'=>r=(none,())/\s'=s/\∀ y∈rest,y∈l) _ ?_ ?_ _ _ ⟨rfl,rfl,fun _ h=>h⟩
 ·rintro y rest r s' ⟨rfl,rfl,hm⟩;obtain⟨d',b',rfl,kb'⟩:=hl y (hm y aqv);obtain⟨⟨as,rd⟩,pd,dd⟩:=id kb;obtain⟨⟨bs,rd'⟩,pd',dd'⟩:=id kb';have more:∀ z∈rest,z∈l:=fun z hz=>hm z (aqw _ hz);dsimp only;split
  ·exact wpAny_pure ⟨rfl,rfl,more⟩
  ·apply wpAny_bind;refine qH d 8 A _ _ as _ _ rd pd dd ?_;simp only [arH,ard,if_false];apply wpAny_bind;refine qH d' 8 A _ _ bs _ _ rd' pd' dd' ?_;simp only [arH,ard,if_false];apply wpAny_bind;refine abO d 8 A _ _ as _ _ rd pd dd ?_;simp only [ard,if_false];apply wpAny_bind;refine abO d' 8 A _ _ bs _ _ rd' pd' dd' ?_;simp only [ard,if_false];exact wpAny_pure ⟨rfl,rfl,more⟩
 ·rintro r s' ⟨rfl,rfl,_⟩;exact wpAny_pure q
structure SetObj (w:World) (h:Heap) (a:Addr) (xs:List (PyData×Addr)) (o:Obj) (es:Array (Int×Value)) (ep:Nat) (t:SetTable):Prop where
 ob:h.get? a=some o
 ex:o.ExactSet
 da:o.data=.set es ep t
 el:es.toList=xs.map fun x=>(zw w x.1,Value.ref x.2)
 ok:ST.TOk t (xs.map fun x=>zw w x.1)
theorem SetObj.size {h:Heap} {a:Addr} {xs:List (PyData×Addr)} {o:Obj} {es:Array (Int×Value)} {ep:Nat} {t:SetTable} (x:SetObj w h a xs o es ep t):es.size=xs.length:=by
 rw [<-aqN,x.el,aqr]
theorem SetObj.fits {h:Heap} {a:Addr} {xs:List (PyData×Addr)} {o:Obj} {es:Array (Int×Value)} {ep:Nat} {t:SetTable} (x:SetObj w h a xs o es ep t):t.fits es.size=true:=by
 unfold SetTable.fits auF;have h1:=x.ok.size;have h2:=x.ok.most;rw [aqr] at h1 h2;rw [x.size,h1,x.ok.dum];simp;exact h2
theorem SetObj.at {h:Heap} {a:Addr} {xs:List (PyData×Addr)} {o:Obj} {es:Array (Int×Value)} {ep:Nat} {t:SetTable} (x:SetObj w h a xs o es ep t) {i:Nat} (hi:i<xs.length):es[i]?=some (zw w xs[i].1,Value.ref xs[i].2):=by
 rw [<-arO,x.el,aqA,aqq hi];rfl
theorem aku {t:SetTable} {hs:List Int} (o:ST.TOk t hs):t.gaveWay=false:=by
 unfold SetTable.gaveWay;rcases o.mask with e | e | e | e <;> rw [e] <;> rfl
theorem akv {α:Type} {M:Model} {c:Bool} {m:Sem Bool} {u:Sem Unit} {r:Sem α} {Q:α->Shared->Prop} (hr:wpAny M A r Q E s) (hm:∀ R:Bool->Shared->Prop,R false s->wpAny M A m R E s) :
  wpAny M A (if c=true then (do
   let b <- m
   if b=true then do
    u
    r
   else r) else r) Q E s:=by
 cases c with
 | false=>rw [if_neg aqt];exact hr
 | true =>
  rw [if_pos rfl];apply wpAny_bind;refine hm _ ?_;rw [if_neg aqt];exact hr
theorem afJ {M:Model} {a:Addr} {Q:Bool->Shared->Prop} (q:Q true s):wpAny M A (isSame (.ref a) (.ref a)) Q E s:=by
 unfold isSame;simp only [beq_self_eq_true];exact wpAny_pure q
theorem abP {a b:Addr} {d:PyData} {xs:List (PyData×Addr)} {o:Obj} {es:Array (Int×Value)} {ep:Nat} {t:SetTable} {adding:Bool} {Q:SetFound->Shared->Prop} (S:SetObj w s.heap a xs o es ep t) (ks:∀ x∈xs,KeyAt s.heap x.1 x.2)
  (kb:KeyAt s.heap d b) (hu:A.units+40<cLine) {F:Nat} (hF:ST.First t (zw w d) F) (yes:d∈xs.map (·.1)->∀ r:Option Nat,(adding=false->r.isSome=true)->Q (.there r) s) (no:d∉xs.map (·.1)->Q (.free (ST.pos t.mask (zw w d) F) false) s) :
  ∀ f k stand,k<=F->F<k+f->stand.getD (t.probeStart (zw w d))=ST.road t.mask (zw w d) k ->
   (∀ q i,q<k->i<xs.length->ST.pos t.mask (zw w d) q=t.place.getD i 0->(xs.getD i (.none,0)).1≠d) ->
   wpAny (model P w) A (setSearchFrom a (.ref b) (zw w d) adding f stand) Q E s
 | 0,k,stand,h1,h2,_,_=>by omega
 | f+1,k,stand,h1,h2,hst,past=>by
  have sz:=S.ok.size;rw [aqr] at sz;have key:∀ g:Nat->Int,(∀ i,g i=(es[i]?.map (·.1)).getD 0) ->
    (t.probe g (zw w d) (ST.road t.mask (zw w d) k)=some (.empty (ST.pos t.mask (zw w d) F) none)/\∀ q i,k<=q->q<F->i<t.place.size->ST.pos t.mask (zw w d) q=t.place.getD i 0->g i≠zw w d) \/
    ∃ q i,k<=q/\q<F/\i<t.place.size/\ST.pos t.mask (zw w d) q=t.place.getD i 0/\g i=zw w d/\t.probe g (zw w d) (ST.road t.mask (zw w d) k)=some (.candidate (ST.pos t.mask (zw w d) q) i (ST.road t.mask (zw w d) (q+1)))/\∀ q' i',k<=q'->q'<q->i'<t.place.size->ST.pos t.mask (zw w d) q'=t.place.getD i' 0->g i'≠zw w d :=
   fun g _=>ST.probe_go S.ok.dum S.ok.rise hF (10 * turns t.mask) k h1 (by have:=hF.lt;omega)
  have gat:∀ i (hi:i<xs.length),(es[i]?.map (·.1)).getD 0=zw w xs[i].1:=fun i hi=>by rw [S.at hi];rfl
  unfold setSearchFrom;apply wpAny_bind;refine wpAny_setState_of S.ob S.da S.fits ?_;dsimp only;rw [aku S.ok,if_neg aqt,hst];have reach:∀ i (hi:i<xs.length),xs[i].1=d->∃ q,q<F/\ST.pos t.mask (zw w d) q=t.place.getD i 0:=fun i hi ed=>by
   obtain⟨q,a1,a2⟩:=S.ok.reach i (by rw [aqr];exact hi);have eh:(xs.map fun x=>zw w x.1).getD i 0=zw w d:=by
    rw [aqx,aqA,aqq hi,<- ed];rfl
   rw [eh] at a1 a2;refine⟨q,?_,a1⟩;by_cases c:q<F
   ·exact c
   ·by_cases c2:q=F
    ·subst c2;exact absurd ⟨i,by omega,a1.symm⟩ hF.free
    ·exact absurd (a2 F (by omega)) hF.free
  have ggd:∀ i (hi:i<xs.length),xs.getD i (.none,0)=xs[i]:=fun i hi=>by rw [aqx,aqq hi];rfl
  rcases key (fun i=>(es[i]?.map (·.1)).getD 0) (fun i=>rfl) with⟨e,none_⟩ | ⟨q,i,q1,q2,q3,q4,q5,e,none_⟩
  ·have ee:∀ g:Nat->Int,(∀ i,g i=(es[i]?.map (·.1)).getD 0)->t.probe g (zw w d) (ST.road t.mask (zw w d) k)=some (.empty (ST.pos t.mask (zw w d) F) none):=fun g hg=>by
    rw [show g=fun i=>(es[i]?.map (·.1)).getD 0 from funext hg];exact e
   rw [ee]
   rotate_left
   ·exact fun i=>rfl
   dsimp only;refine wpAny_pure (no fun hd=>?_);obtain⟨x,hx,ex⟩:=aqG.mp hd;obtain⟨i,hi,ei⟩:=asy hx;have ed:xs[i].1=d:=by rw [ei];exact ex
   obtain⟨q,qF,qp⟩:=reach i hi ed;by_cases c:q<k
   ·exact past q i c hi qp (by rw [ggd i hi];exact ed)
   ·exact none_ q i (by omega) qF (by omega) qp (by rw [gat i hi,ed])
  ·have ee:∀ g:Nat->Int,(∀ i,g i=(es[i]?.map (·.1)).getD 0)->t.probe g (zw w d) (ST.road t.mask (zw w d) k)=some (.candidate (ST.pos t.mask (zw w d) q) i (ST.road t.mask (zw w d) (q+1))):=fun g hg=>by
    rw [show g=fun i=>(es[i]?.map (·.1)).getD 0 from funext hg];exact e
   have hi:i<xs.length:=by omega
   have mi:xs[i]∈xs:=aq0 hi;have ki:=ks _ mi;rw [ee]
   rotate_left
   ·exact fun i=>rfl
   dsimp only;refine akv ?_ fun R hR=>amj kb _ (fun y hy=>?_) hR
   rotate_left
   ·obtain⟨p,hp,rfl⟩:=aqG.mp hy;have hp2:p∈es.toList:=by
     have:=asQ.mp hp;exact asQ.mpr (Array.mem_filter.mp this).1
    rw [S.el] at hp2;obtain⟨x,hx,rfl⟩:=aqG.mp hp2;exact⟨x.1,x.2,rfl,ks x hx⟩
   rw [S.at hi];dsimp only;apply wpAny_bind;apply wpAny_holding;refine (aco P w).eqBool (A:=A) hu ki kb ?_;apply wpAny_bind;refine wpAny_setState_of S.ob S.da S.fits ?_;dsimp only;have same:t.sameMemory t.moves t.mask=some true:=by
    unfold SetTable.sameMemory;rw [if_pos (beq_self_eq_true _)]
   have live:t.slot (ST.pos t.mask (zw w d) q)=.live i:=by rw [q4];exact ST.slot_live S.ok.rise q3
   by_cases ed:xs[i].1=d
   ·have y2:=yes (aqG.mpr ⟨_,mi,ed⟩);rw [decide_eq_true ed];cases adding with
    | true=>exact wpAny_pure (y2 _ fun z=>nomatch z)
    | false =>
     rw [asP,if_neg aqt,same];dsimp only;rw [if_pos rfl,live];dsimp only;rw [S.at hi];dsimp only;apply wpAny_bind;refine afJ ?_;apply wpAny_bind;apply wpAny_pure;rw [if_pos rfl];dsimp only;rw [if_pos rfl];exact wpAny_pure (y2 _ fun _=>rfl)
   ·rw [decide_eq_false ed,aus,if_neg aqt,same];dsimp only;rw [if_pos rfl,live];dsimp only;rw [S.at hi];dsimp only;apply wpAny_bind;refine afJ ?_;apply wpAny_bind;apply wpAny_pure;rw [if_pos rfl];dsimp only;rw [if_neg aqt];refine abP S ks kb hu hF yes no f (q+1) _ (by omega) (by omega) rfl fun q' i' c1 c2 c3=>?_;rw [ggd i' c2];intro z;by_cases c4:q'<k
    ·exact past q' i' c4 c2 c3 (by rw [ggd i' c2];exact z)
    ·by_cases c5:q'=q
     ·subst c5;have ii:i'=i:=by
       have b1:=ST.below_at S.ok.rise (i:=i) (by omega);have b2:=ST.below_at S.ok.rise (i:=i') (by omega);rw [<-q4] at b1;rw [<-c3] at b2;omega
      subst ii;exact ed z
     ·exact none_ q' i' (by omega) (by omega) (by omega) c3 (by rw [gat i' c2,z])
end
end L2
end
section
namespace L2
open PySem PySem.Spec PyProof.Rows PySem.SetTable
section
variable {P:Program} {w:World} {A:Around} {E:Value->Shared->Prop} {s:Shared} {a b:Addr} {d:PyData} {xs:List (PyData×Addr)} {o:Obj} {es:Array (Int×Value)} {ep:Nat} {t:SetTable}
theorem SetObj.type (S:SetObj w s.heap a xs o es ep t):s.TypeIs (.ref a) "set":=⟨o,S.ob,S.ex.1⟩
theorem ah3 (b:Addr) (es:Array (Int×Value)):byScan (.ref b) es=false:=rfl
theorem afK {Q:Bool->Shared->Prop} (S:SetObj w s.heap a xs o es ep t) (ks:∀ x∈xs,KeyAt s.heap x.1 x.2) (kb:KeyAt s.heap d b) (hu:A.units+60<cLine) (q:Q (decide (d∈xs.map (·.1))) { s with toks:=s.toks+yg d }) :
  wpAny (model P w) A (contains (.ref a) (.ref b)) Q E s:=by
 obtain⟨F,hF⟩:=ST.first_of S.ok.toTB (zw w d);have hl:=hF.lt;have ht:turns t.mask<=526:=by
  unfold turns;rcases S.ok.mask with e | e | e | e <;> omega
 unfold contains
 try with_reducible refine wpAny_holding ?_
 apply wpAny_bind;apply wpAny_specialOf S.type asZ.lookup;show wpAny _ _ (if (some (Value.builtin "set.__contains__") == some Value.none)=true then _ else _) _ E s;rw [if_neg (by rw [beq_builtin_none];exact aqt)];apply wpAny_bind;refine wpAny_callSpecialUnlessNone?_slot (name:=at9 "__contains__") S.type asZ (wpAny_call_entry asZ S.type entry_set_contains ?_ (PySem.F.args_set_contains_2 _ _));unfold Builtin.«frozenset.__contains__» atE;simp only [List.isEmpty_nil,bind_assoc];unfold atY Builtin.Frozenset.withSetAsKey setContains;apply wpAny_bind;apply wpAny_pure;dsimp only;apply wpAny_bind;apply wpAny_pure;dsimp only;apply wpAny_bind;apply wpAny_tryCatch;apply wpAny_holding;apply wpAny_bind;have hu1:A.in1.units=A.units+1:=rfl;have hu2:A.in1.in1.units=A.units+1+1:=rfl;refine (aco P w).pyHash (by show _+40<cLine;omega) kb ?_;apply wpAny_bind;unfold setFind setFindIn;apply wpAny_bind;refine wpAny_setState_of (s:={ s with toks:=s.toks+yg d }) S.ob S.da S.fits ?_;dsimp only;rw [ah3,if_neg aqt];apply wpAny_bind;unfold setSearch;have fin:∀ r:Option Nat,r.isSome=decide (d∈xs.map (·.1))->∀ R:Value->Shared->Prop,R (.bool (decide (d∈xs.map (·.1)))) { s with toks:=s.toks+yg d }->R (.bool r.isSome) { s with toks:=s.toks+yg d }:=fun r e R hR=>by rw [e];exact hR
 refine abP (s:={ s with toks:=s.toks+yg d }) (adding:=false) S ks kb (by omega) hF (fun hd r hr=>?_) (fun hd=>?_) 100000 0 none (aq2 _) (by omega) (ST.road_start t _) (fun q i c=>by omega)
 ·refine wpAny_pure (wpAny_pure ?_);show wpAny _ _ (ret (Value.bool r.isSome)) _ _ _;rw [hr rfl];rw [decide_eq_true hd] at q;exact wpAny_pure ⟨_,rfl,wpAny_truthy_bool q⟩
 ·refine wpAny_pure (wpAny_pure ?_);show wpAny _ _ (ret (Value.bool false)) _ _ _;rw [decide_eq_false hd] at q;exact wpAny_pure ⟨_,rfl,wpAny_truthy_bool q⟩
noncomputable def ah4 (es:Array (Int×Value)) (laid:Option (SetTable×Array Nat)):Sem (Array (Int×Value)×SetTable):=do
 let some (t,order):=laid | unsupported "internal:set-table-without-room"
 let es':=order.filterMap (es[·]?)
 if es'.size != es.size then unsupported "internal:set-table-lost-an-element"
 pure (es',t)
theorem akw (a:Addr) (wanted:Nat):setRelay a wanted=(do
  let (es,_,t) <- setState a
  if atF wanted > sizeLine then unsupported "set:memory"
  let (es,t) <- ah4 es (t.relaid (es.map (·.1)) wanted)
  storeSet a es t):=rfl
theorem aaK {α:Type} (es:Array α):∀ l:List Nat,(∀ i∈l,i<es.size)->∀ dflt:α,l.filterMap (fun i=>es[i]?)=l.map fun i=>es.toList.getD i dflt
 | [],_,_=>rfl
 | i :: l,h,dflt=>by
  have hi:=h i aqv;rw [as0,arD hi,aqQ,aaK es l (fun j hj=>h j (aqw _ hj)) dflt];simp [hi]
theorem akx {Q:Unit->Shared->Prop} {mask wanted:Nat} (S0:s.heap.get? a=some o) (ex:o.ExactSet) (da:o.data=.set es ep t) (el:es.toList=xs.map fun x=>(zw w x.1,Value.ref x.2)) (tb:ST.TB t (xs.map fun x=>zw w x.1)) (mk:mask=31 \/ mask=127 \/ mask=511) (hw:atF wanted=mask+1)
  (room:xs.length * 5<mask * 3) (q:∀ xs' o' es' ep' t' h',xs'.Perm xs->asp a s.heap h'->SetObj w h' a xs' o' es' ep' t'->Q () { s with heap:=h' }):wpAny (model P w) A (setRelay a wanted) Q E s:=by
 have sz:es.size=xs.length:=by rw [<-aqN,el,aqr]
 have fits:t.fits es.size=true:=by
  unfold SetTable.fits auF;have h1:=tb.size;have h2:=tb.most;rw [aqr] at h1 h2;rw [sz,h1,tb.dum];simp;exact h2
 have mk2:mask=7 \/ mask=31 \/ mask=127 \/ mask=511:=.inr mk;obtain⟨t2,ord,e1,e2,_,_,pm,tb2⟩:=ST.laid_ok mk2 (es.map (·.1)) (by rw [aur,sz];omega) t.finger (t.movedTo mask) t.led t.plain;rw [aur] at pm;have hlt:∀ i∈ord.toList,i<es.size:=fun i hi=>aqY.mp (pm.mem_iff.mp hi)
 let xs':=ord.toList.map fun i=>xs.getD i (.none,0)
 have px:xs'.Perm xs:=by
  have e:(aqL es.size).map (fun i=>xs.getD i (.none,0))=xs:=by
   rw [sz];refine arV fun i=>?_;rw [aqA];by_cases hi:i<xs.length
   ·rw [arW hi,aqq hi];simp [hi]
   ·rw [aqZ (by simp;omega),aqZ (by omega)];rfl
  have:=pm.map fun i=>xs.getD i (.none,0);rw [e] at this;exact this
 have ee:(ord.filterMap (es[·]?)).toList=xs'.map fun x=>(zw w x.1,Value.ref x.2):=by
  rw [Array.toList_filterMap,aaK es ord.toList hlt (0,Value.none),arR];refine as1 fun i hi=>?_;have h2:=hlt i hi;have h3:i<xs.length:=by omega
  rw [el,aqx,aqA,aqq h3];show _=(zw w (xs.getD i (.none,0)).1,Value.ref (xs.getD i (.none,0)).2);rw [aqx,aqq h3];rfl
 have es_sz:(ord.filterMap (es[·]?)).size=es.size:=by
  rw [<-aqN,ee,aqr,px.length_eq,sz]
 have tok:ST.TOk t2 (xs'.map fun x=>zw w x.1):=by
  have eh:(ord.toList.map fun i=>(es.map (·.1)).toList.getD i 0)=xs'.map fun x=>zw w x.1:=by
   rw [arR];refine as1 fun i hi=>?_;have h3:i<xs.length:=by have:=hlt i hi;omega
   rw [Array.toList_map,el,arR,aqx,aqA,aqq h3];show zw w xs[i].1=zw w (xs.getD i (.none,0)).1;rw [aqx,aqq h3];rfl
  rw [eh] at tb2;refine⟨tb2,?_⟩;rw [aqr,px.length_eq,e2];exact room
 rw [akw];apply wpAny_bind;refine wpAny_setState_of S0 da fits ?_;dsimp only;rw [hw,if_neg (by rw [sizeLine_eq];omega)];have e1':t.relaid (es.map (·.1)) wanted=some (t2,ord):=by
  unfold SetTable.relaid;rw [hw];exact e1
 unfold ah4;rw [e1'];apply wpAny_bind;dsimp only;rw [es_sz,bne_self_eq_false,if_neg aqt];apply wpAny_pure;dsimp only;refine wpAny_storeSet_of S0 da ?_ (by rw [es_sz,sz,sizeLine_eq];omega);refine q xs' { o with data:=.set (ord.filterMap (es[·]?)) (ep+1) t2 } (ord.filterMap (es[·]?)) (ep+1) t2 _ px (as2 _ _ _) ⟨?_,ex,rfl,ee,tok⟩;have:=asL (aua (ord.filterMap (es[·]?)) t2) S0 (by rw [putSet_of _ _ da];rfl);rw [putSet_of _ _ da] at this;exact this
theorem aky {t:SetTable} {hs:List Int} {p:Bool} (x:ST.TB t hs):ST.TB { t with plain:=p } hs:=⟨x.mask,x.dum,x.rise,x.le,x.size,x.most,x.reach⟩
theorem amk {Q:Shared->Prop} (S:SetObj w s.heap a xs o es ep t) (ks:∀ x∈xs,KeyAt s.heap x.1 x.2) (kb:KeyAt s.heap d b) (hu:A.units+59<cLine) (few:xs.length<300)
  (old:d∈xs.map (·.1)->Q { s with toks:=s.toks+yg d })
  (new:d∉xs.map (·.1)->∀ xs' o' es' ep' t' h',xs'.Perm ((d,b) :: xs)->asp a s.heap h'->SetObj w h' a xs' o' es' ep' t'->Q { s with heap:=h',toks:=s.toks+yg d }) :
  wpAny (model P w) A (setAdd a (.ref b)) (fun _ s'=>Q s') E s:=by
 obtain⟨F,hF⟩:=ST.first_of S.ok.toTB (zw w d);have hl:=hF.lt;have ht:turns t.mask<=526:=by
  unfold turns;rcases S.ok.mask with e | e | e | e <;> omega
 have room:=S.ok.room;rw [aqr] at room;unfold setAdd;apply wpAny_holding;apply wpAny_bind;refine (aco P w).pyHash (by show _+40<cLine;omega) kb ?_;show wpAny _ _ (setAddHashed a (.ref b) (zw w d)) _ _ _;unfold setAddHashed setAddHashedIn;apply wpAny_holding;apply wpAny_bind;refine wpAny_setState_of (s:={ s with toks:=s.toks+yg d }) S.ob S.da S.fits ?_;dsimp only;rw [ah3,if_neg aqt];apply wpAny_bind;unfold setSearch;refine abP (s:={ s with toks:=s.toks+yg d }) (adding:=true) S ks kb (by omega) hF (fun hd r _=>?_) (fun hd=>?_) 100000 0 none (aq2 _) (by omega) (ST.road_start t _) (fun q i c=>by omega)
 ·exact wpAny_pure (old hd)
 ·dsimp only;apply wpAny_bind;refine wpAny_setState_of (s:={ s with toks:=s.toks+yg d }) S.ob S.da S.fits ?_;dsimp only;obtain⟨hp,tb⟩:=ST.put_tb S.ok.toTB hF (by rw [aqr];rcases S.ok.mask with e | e | e | e <;> rw [e] at room ⊢ <;> omega);rw [aqr] at hp;have ep2:(t.put (ST.pos t.mask (zw w d) F)).2=below t.place (ST.pos t.mask (zw w d) F):=rfl;rw [ep2];generalize below t.place (ST.pos t.mask (zw w d) F)=p at *;have pm:(xs.take p++(d,b) :: xs.drop p).Perm ((d,b) :: xs):=by
   refine List.perm_middle.trans ?_;rw [asM]
  have el:(insertAt es p (zw w d,Value.ref b)).toList=(xs.take p++(d,b) :: xs.drop p).map fun x=>(zw w x.1,Value.ref x.2):=by
   rw [as7,S.el,aqO,aqQ,List.map_take,List.map_drop]
  have eh:(xs.map fun x=>zw w x.1).take p++zw w d :: (xs.map fun x=>zw w x.1).drop p=(xs.take p++(d,b) :: xs.drop p).map fun x=>zw w x.1:=by
   rw [aqO,aqQ,List.map_take,List.map_drop]
  rw [eh] at tb;have ln:(xs.take p++(d,b) :: xs.drop p).length=xs.length+1:=by rw [pm.length_eq];rfl
  have sze:(insertAt es p (zw w d,Value.ref b)).size=xs.length+1:=by rw [<-aqN,el,aqr,ln]
  have step:∀ bv:Bool,∀ t2,t2=(if bv=true then (t.put (ST.pos t.mask (zw w d) F)).1 else { (t.put (ST.pos t.mask (zw w d) F)).1 with plain:=false }) ->
    ST.TB t2 ((xs.take p++(d,b) :: xs.drop p).map fun x=>zw w x.1)/\t2.mask=t.mask:=fun bv t2 e=>by
   subst e;cases bv with
   | true=>exact⟨tb,rfl⟩
   | false=>exact⟨aky tb,rfl⟩
  have tail:∀ bv:Bool,wpAny (model P w) A (do
    storeSet a (insertAt es p (zw w d,Value.ref b)) (if bv=true then (t.put (ST.pos t.mask (zw w d) F)).1 else { (t.put (ST.pos t.mask (zw w d) F)).1 with plain:=false })
    if (!false && (if bv=true then (t.put (ST.pos t.mask (zw w d) F)).1 else { (t.put (ST.pos t.mask (zw w d) F)).1 with plain:=false }).tooFull)=true then do
     setRelay a (SetTable.grown (es.size+1))
     pure true
    else pure true) (fun _ s'=>Q s') E { s with toks:=s.toks+yg d }:=fun bv=>by
   obtain⟨tb2,em⟩:=step bv _ rfl;generalize (if bv=true then (t.put (ST.pos t.mask (zw w d) F)).1 else { (t.put (ST.pos t.mask (zw w d) F)).1 with plain:=false })=t2 at *;apply wpAny_bind;refine wpAny_storeSet_of (s:={ s with toks:=s.toks+yg d }) S.ob S.da ?_ (by rw [sze,sizeLine_eq];omega);have g:(s.heap.update a (aua (insertAt es p (zw w d,Value.ref b)) t2)).get? a=some { o with data:=.set (insertAt es p (zw w d,Value.ref b)) (ep+1) t2 }:=by
    have:=asL (aua (insertAt es p (zw w d,Value.ref b)) t2) S.ob (by rw [putSet_of _ _ S.da];rfl);rw [putSet_of _ _ S.da] at this;exact this
   have sb:=as2 s.heap a (aua (insertAt es p (zw w d,Value.ref b)) t2);have fill:t2.tooFull=decide ((xs.length+1) * 5 >= t.mask * 3):=by
    unfold SetTable.tooFull auF;have h1:=tb2.size;rw [aqr,ln] at h1;rw [h1,tb2.dum,em];rfl
   rw [atD,asv,fill];by_cases full:(xs.length+1) * 5 >= t.mask * 3
   ·rw [if_pos (decide_eq_true full),S.size];have:∃ mask,(mask=31 \/ mask=127 \/ mask=511)/\atF (SetTable.grown (xs.length+1))=mask+1/\(xs.length+1) * 5<mask * 3:=by
     rcases S.ok.mask with e | e | e | e
     ·rw [e] at room full;have:xs.length=4:=by omega
      rw [this];exact⟨31,.inl rfl,by decide,by decide⟩
     ·rw [e] at room full;have:xs.length=18:=by omega
      rw [this];exact⟨127,.inr (.inl rfl),by decide,by decide⟩
     ·rw [e] at room full;have:xs.length=76:=by omega
      rw [this];exact⟨511,.inr (.inr rfl),by decide,by decide⟩
     ·rw [e] at room full;omega
    obtain⟨mask,mk,hw,rm⟩:=this;apply wpAny_bind;refine akx (s:={ s with heap:=s.heap.update a (aua (insertAt es p (zw w d,Value.ref b)) t2),toks:=s.toks+yg d }) (o:={ o with data:=.set (insertAt es p (zw w d,Value.ref b)) (ep+1) t2 }) g S.ex rfl el tb2 mk hw (by rw [ln];exact rm) fun xs' o' es' ep' t' h' px sb' S'=>wpAny_pure ?_;exact new hd xs' o' es' ep' t' h' (px.trans pm) (sb.trans sb') S'
   ·rw [if_neg (by rw [decide_eq_false full];exact aqt)];refine wpAny_pure (new hd _ _ _ _ _ _ pm sb ⟨g,S.ex,rfl,el,⟨tb2,?_⟩⟩);rw [aqr,ln,em];omega
  obtain⟨as,rd⟩:=kb.rd;split
  ·apply wpAny_bind;exact ab7 d 8 _ { s with toks:=s.toks+yg d } _ as _ _ rd kb.pl fun bv=>tail bv
  ·apply wpAny_bind;apply wpAny_pure;exact tail true
theorem aoN {Q:Value->Shared->Prop} (S:SetObj w s.heap a xs o es ep t) (ks:∀ x∈xs,KeyAt s.heap x.1 x.2) (kb:KeyAt s.heap d b) (hu:A.units+60<cLine) (few:xs.length<300)
  (old:d∈xs.map (·.1)->Q .none { s with toks:=s.toks+yg d })
  (new:d∉xs.map (·.1)->∀ xs' o' es' ep' t' h',xs'.Perm ((d,b) :: xs)->asp a s.heap h'->SetObj w h' a xs' o' es' ep' t'->Q .none { s with heap:=h',toks:=s.toks+yg d }) :
  wpAny (model P w) A (call (.builtin "set.add") [.ref a,.ref b]) Q E s:=by
 refine wpAny_call_entry atq S.type PySem.F.entry_set_add ?_ (PySem.F.args_set_add_2 _ _);unfold Builtin.«set.add» atE;simp only [List.isEmpty_nil,bind_assoc];unfold atY;apply wpAny_bind;apply wpAny_pure
 try dsimp only
 apply wpAny_bind;apply wpAny_pure
 try dsimp only
 apply wpAny_bind;have hu1:A.in1.units=A.units+1:=rfl;refine amk (Q:=fun s'=>wpAny (model P w) A.in1 (ret Value.none) (fun fin s'=>∃ r,fin=.done (.ret r)/\Q r s') E s') S ks kb (by omega) few (fun hd=>wpAny_pure ⟨_,rfl,old hd⟩) fun hd xs' o' es' ep' t' h' p1 p2 p3=>wpAny_pure ⟨_,rfl,new hd xs' o' es' ep' t' h' p1 p2 p3⟩
end
inductive OC where
 | lst (es:List PyData)
 | set (ks:List PyData)
 | dic (kvs:List (PyData×PyData))
noncomputable def SetO (w:World) (a:Addr) (xs:List (PyData×Addr)):HO:=.ext fun h=>∃ o es ep t,SetObj w h a xs o es ep t
structure DicObj (w:World) (h:Heap) (a:Addr) (xs:List (PyData×Addr×Value)) (o:Obj) (es:Array DictEntry) (ep:Nat):Prop where
 ob:h.get? a=some o
 ex:o.ExactDict
 da:o.data=.dict es ep
 el:es.toList=xs.map fun x=>(⟨zw w x.1,.ref x.2.1,x.2.2⟩:DictEntry)
 nd:(xs.map (·.1)).Nodup
 ns:(a == sysModules)=false
noncomputable def DicO (w:World) (a:Addr) (xs:List (PyData×Addr×Value)):HO:=.ext fun h=>∃ o es ep,DicObj w h a xs o es ep
def aaV (d:PyData):Prop:=zA d=true/\d.depth<=8
def EntR (K:aqu) (Hh:Hp) (x:PyData×Addr×Value) (p:PyData×PyData):Prop:=x.1=p.1/\aaV x.1/\Rep K Hh x.1 (.ref x.2.1)/\∃ v,Rep K Hh p.2 v/\RelV v x.2.2
theorem EntR.mono {K:aqu} {Hh Hh':Hp} (s:Same Hh Hh'):∀ {xs:List (PyData×Addr×Value)} {kvs:List (PyData×PyData)},Paired (EntR K Hh) xs kvs->Paired (EntR K Hh') xs kvs
 | _,_,.nil=>.nil
 | _,_,.cons ⟨h1,h2,h3,v,h4,h5⟩ t=>.cons ⟨h1,h2,Rep.mono s _ _ h3,v,Rep.mono s _ _ h4,h5⟩ (EntR.mono s t)
def OwnAt (w:World) (K:aqu) (Hh H:Hp) (D:Addr):OC->Prop
 | .lst es=>∃ vs,H D=some (.lst vs)/\Reps K Hh es vs
 | .set ks=>∃ xs:List (PyData×Addr),H D=some (SetO w D xs)/\(∀ x∈xs,aaV x.1/\Rep K Hh x.1 (.ref x.2))/\(∀ d,d∈xs.map (·.1)↔d∈ks)/\xs.length<=ks.length
 | .dic kvs=>∃ xs:List (PyData×Addr×Value),H D=some (DicO w D xs)/\Paired (EntR K Hh) xs kvs
theorem OwnAt.mono {w:World} {K:aqu} {Hh Hh' H H':Hp} {D:Addr} (e:H' D=H D) (s:Same Hh Hh'):∀ {c:OC},OwnAt w K Hh H D c->OwnAt w K Hh' H' D c
 | .lst es,⟨vs,h1,h2⟩=>⟨vs,e.trans h1,Reps.mono s es vs h2⟩
 | .set ks,⟨xs,h1,h2,h3⟩=>⟨xs,e.trans h1,fun x hx=>⟨(h2 x hx).1,Rep.mono s _ _ (h2 x hx).2⟩,h3⟩
 | .dic kvs,⟨xs,h1,h2⟩=>⟨xs,e.trans h1,EntR.mono s h2⟩
noncomputable def Fx.withs (f:Fx) (Ds:List Addr):Fx:={ f with M:=Ds.reverse++f.M }
theorem yL (f:Fx) (Ds:List Addr) (D:Addr):f.withs (Ds++[D])=(f.withs Ds).with D:=by
 unfold Fx.withs Fx.with;rw [as3];rfl
structure CM (w:World) (K:aqu) (f:Fx) (Ds:List Addr) (H2:Hp) (ρ:zr) (cs:List OC) (σ:St) (H:Hp):Prop where
 env:EnvOk K (f.withs Ds) ρ σ H
 sm:Same (hide H2 (f.withs Ds)) (hide H (f.withs Ds))
 kp:∀ b∈f.M,H b=H2 b
 len:cs.length=Ds.length
 own:∀ (i:Nat) D c,Ds[i]?=some D->cs[i]?=some c->OwnAt w K (hide H (f.withs Ds)) H D c
structure Sep (f:Fx) (Ds:List Addr):Prop where
 nd:Ds.Nodup
 nf:∀ D∈Ds,f.f≠some D
 nm:∀ D∈Ds,D∉f.M
section
variable {w:World} {K:aqu} {f:Fx} {Ds:List Addr} {H H' H2:Hp} {ρ ρ2:zr} {cs:List OC} {σ σ2:St} {i:Nat} {D:Addr} {c:OC} {o:HO}
theorem j7 (hD:D∈Ds):D∈(f.withs Ds).M:=aq1 _ (asb.mpr hD)
theorem yH (hD:D∈Ds):hide (upd H D o) (f.withs Ds)=hide H (f.withs Ds):=by
 funext b
 unfold hide;by_cases h:(f.withs Ds).f=some b \/ b∈(f.withs Ds).M
 ·rw [if_pos h,if_pos h]
 ·rw [if_neg h,if_neg h,zx fun (z:b=D)=>h (.inr (z▸j7 hD))]
theorem CM.go (x:CM w K f Ds H2 ρ cs σ H) (g:Goes (f.withs Ds) H H') (e2:EnvOk K (f.withs Ds) ρ2 σ2 H'):CM w K f Ds H2 ρ2 cs σ2 H' :=
 ⟨e2,x.sm.trans g.sm,fun b hb=>(g.kp b (aqP _ hb)).trans (x.kp b hb),x.len,fun i D c h1 h2=>(x.own i D c h1 h2).mono (g.kp D (j7 (aqz h1))) g.sm⟩
theorem CM.self (x:CM w K f Ds H2 ρ cs σ H):CM w K f Ds H ρ cs σ H:=⟨x.env,Same.refl _,fun _ _=>rfl,x.len,x.own⟩
theorem CM.trans {cs':List OC} {ρ':zr} {σ':St} (x:CM w K f Ds H2 ρ cs σ H) (y:CM w K f Ds H ρ' cs' σ' H'):CM w K f Ds H2 ρ' cs' σ' H':=⟨y.env,x.sm.trans y.sm,fun b hb=>(y.kp b hb).trans (x.kp b hb),y.len,y.own⟩
theorem aml (se:Sep f Ds) (hD:D∈Ds) (h:FOk (f.withs Ds) H):FOk (f.withs Ds) (upd H D o) :=
 ⟨fun p e=>let⟨a,b,h1,h2⟩:=h.fd p e;⟨a,b,by rw [zx (fun (z:p=D)=>se.nf D hD (z▸e))];exact h1,h2⟩,fun b hb=>by
  by_cases e:b=D
  ·exact⟨o,by rw [e];exact zB⟩
  ·obtain⟨u,hu⟩:=h.mm b hb;exact⟨u,by rw [zx e];exact hu⟩,h.nm⟩
theorem amm (se:Sep f Ds) (hD:D∈Ds) (e:EnvOk K (f.withs Ds) ρ σ H):EnvOk K (f.withs Ds) ρ σ (upd H D o) :=
 ⟨e.len,fun i x h=>by
  obtain⟨v,h1,h2⟩:=e.get i x h;refine⟨v,h1,?_⟩;cases x with
  | dat d =>
   show Rep K (hide (upd H D o) (f.withs Ds)) d v;rw [yH hD];exact h2
  | feed=>exact h2
  | own k=>exact h2
  | exc C =>
   obtain⟨a,e1,q⟩:=h2;exact⟨a,e1,by rw [yH hD];exact q⟩
  | mon φ =>
   intro H' s;rw [yH hD] at s;exact h2 H' s,aml se hD e.fd⟩
theorem CM.put {c':OC} (se:Sep f Ds) (x:CM w K f Ds H2 ρ cs σ H) (hi:Ds[i]?=some D) (ho:OwnAt w K (hide H (f.withs Ds)) (upd H D o) D c'):CM w K f Ds H2 ρ (cs.set i c') σ (upd H D o):=by
 have hD:=aqz hi;refine⟨amm se hD x.env,by rw [yH hD];exact x.sm,fun b hb=>(zx (fun (z:b=D)=>se.nm D hD (z▸hb))).trans (x.kp b hb),by rw [ata];exact x.len,fun j D' c h1 h2=>?_⟩;rw [yH hD];by_cases e:i=j
 ·subst e;rw [hi] at h1;cases h1;have hl:i<cs.length:=by rw [x.len];exact (aqs.mp hi).1
  rw [ar3 hl] at h2;cases h2;exact ho
 ·rw [asO e] at h2;have ne:D'≠D:=fun z=>by
   subst z;obtain⟨l1,e1⟩:=aqs.mp hi;obtain⟨l2,e2⟩:=aqs.mp h1;exact e ((atm se.nd).mp (e1.trans e2.symm))
  exact (x.own j D' c h1 h2).mono (zx ne) (Same.refl _)
end
structure MEnds where
 nx:zr->List OC->Prop
 rt:PyData->Prop
 bk:zr->List OC->Prop:=fun _ _=>False
 ct:zr->List OC->Prop:=fun _ _=>False
def PSm (w:World) (K:aqu) (f:Fx) (Ds:List Addr) (ts:TS) (ρ:zr) (cs:List OC) (O:MEnds):Prop:=Sep f Ds->∀ (σ:St) (H H2:Hp) (E:Ends),CM w K f Ds H2 ρ cs σ H ->
 (∀ ρ' cs' σ' H',CM w K f Ds H2 ρ' cs' σ' H'->O.nx ρ' cs'->E.nx σ' H')->(∀ d v ρ' cs' σ' H',CM w K f Ds H2 ρ' cs' σ' H'->Rep K (hide H' f) d v->O.rt d->E.rt v H') ->
 (∀ ρ' cs' σ' H',CM w K f Ds H2 ρ' cs' σ' H'->O.bk ρ' cs'->E.bk σ' H')->(∀ ρ' cs' σ' H',CM w K f Ds H2 ρ' cs' σ' H'->O.ct ρ' cs'->E.ct σ' H')->ts E σ H
def PTm (w:World) (K:aqu) (f:Fx) (Ds:List Addr) (tt:TT) (ρ:zr) (cs:List OC) (B:Bool->Prop):Prop:=Sep f Ds->∀ (σ:St) (H H2:Hp) (Q:Bool->Hp->Prop),CM w K f Ds H2 ρ cs σ H->(∀ b H',Goes (f.withs Ds) H H'->B b->Q b H')->tt σ H Q
def PEm (w:World) (K:aqu) (f:Fx) (Ds:List Addr) (te:TE) (ρ:zr) (cs:List OC) (P:PyData->Prop):Prop:=Sep f Ds->∀ (σ:St) (H H2:Hp) (Q:VK),CM w K f Ds H2 ρ cs σ H->(∀ d v H',Goes (f.withs Ds) H H'->Rep K (hide H' (f.withs Ds)) d v->P d->Q v H')->te σ H Q
def ac1 (w:World) (K:aqu) (f:Fx) (te:TE) (ρ:zr) (P:OC->Prop):Prop:=∀ (σ:St) (H:Hp) (Q:VK),EnvOk K f ρ σ H ->
 (∀ c D H',Goes f H H'->H D=none->OwnAt w K (hide H' (f.with D)) H' D c->P c->Q (.ref D) H')->te σ H Q
section
variable {w:World} {K:aqu} {f:Fx} {Ds:List Addr} {ρ:zr} {cs:List OC} {ts tu:TS} {tt:TT} {te:TE} {wi:TI} {g:TG} {O:MEnds} {i j:Nat}
theorem same_withs {H:Hp}:Same (hide H (f.withs Ds)) (hide H f):=fun b o h=>by
 obtain⟨h1,h2⟩:=zY h;exact zJ (fun z=>h1 (z.elim .inl fun z=>.inr (aqP _ z))) h2
theorem aae {D:DEnds} (h:PSm w K f [] ts ρ [] { nx:=fun ρ' _=>D.nx ρ',rt:=D.rt,bk:=fun ρ' _=>D.bk ρ',ct:=fun ρ' _=>D.ct ρ' }):PSd K f ts ρ D:=fun σ H E e n r b k=>by
 have gg:∀ {ρ':zr} {cs':List OC} {σ':St} {H':Hp},CM w K f [] H ρ' cs' σ' H'->Goes f H H':=fun x=>⟨x.sm,x.env.fd,x.kp⟩;exact h ⟨arv,(fun _ z=>nomatch z),(fun _ z=>nomatch z)⟩ σ H H E ⟨e,Same.refl _,fun _ _=>rfl,rfl,(fun i D c z=>nomatch z)⟩
  (fun ρ' cs' σ' H' x p=>n ρ' σ' H' (gg x) x.env p) (fun d v ρ' cs' σ' H' x r' p=>r d v H' (gg x) r' p) (fun ρ' cs' σ' H' x p=>b ρ' σ' H' (gg x) x.env p) (fun ρ' cs' σ' H' x p=>k ρ' σ' H' (gg x) x.env p)
theorem ac2 (h:PSd K (f.withs Ds) ts ρ { nx:=fun ρ'=>O.nx ρ' cs,rt:=O.rt,bk:=fun ρ'=>O.bk ρ' cs,ct:=fun ρ'=>O.ct ρ' cs }):PSm w K f Ds ts ρ cs O:=fun se σ H H2 E x n r b k =>
 h σ H E x.env (fun ρ' σ' H' g' e' p=>n ρ' cs σ' H' (x.go g' e') p) (fun d v H' g' r' p=>r d v ρ cs σ H' (x.go g' (x.env.mono g')) (Rep.mono same_withs d v r') p) (fun ρ' σ' H' g' e' p=>b ρ' cs σ' H' (x.go g' e') p) (fun ρ' σ' H' g' e' p=>k ρ' cs σ' H' (x.go g' e') p)
theorem yD (h:PSm w K f Ds ts ρ cs { O with nx:=fun ρ' cs'=>PSm w K f Ds tu ρ' cs' O }):PSm w K f Ds (vZ ts tu) ρ cs O:=fun se σ H H2 E x n r b k =>
 h se σ H H2 _ x (fun ρ' cs' σ' H' x' p=>p se σ' H' H2 E x' n r b k) r b k
theorem qY (h:O.nx ρ cs):PSm w K f Ds ahr ρ cs O:=fun _ σ H H2 E x n r b k=>n ρ cs σ H x h
theorem agJ {B:Bool->Prop} (h:PTd K (f.withs Ds) tt ρ B):PTm w K f Ds tt ρ cs B:=fun se σ H H2 Q x q=>h σ H Q x.env q
theorem ju {P:PyData->Prop} (h:PEd K (f.withs Ds) te ρ P):PEm w K f Ds te ρ cs P:=fun se σ H H2 Q x q=>h σ H Q x.env q
theorem adv (h:PTm w K f Ds tt ρ cs fun b=>if b=true then PSm w K f Ds ts ρ cs O else PSm w K f Ds tu ρ cs O):PSm w K f Ds (alZ tt ts tu) ρ cs O:=fun se σ H H2 E x n r b k =>
 h se σ H H2 _ x fun q H1 g1 p=>by
  have x1:=x.go g1 (x.env.mono g1);cases q with
  | false =>
   rw [if_neg aqt] at p ⊢;exact p se σ H1 H2 E x1 n r b k
  | true =>
   rw [if_pos rfl] at p ⊢;exact p se σ H1 H2 E x1 n r b k
theorem jK (h:PId K (f.withs Ds) wi ρ fun ds=>∃ J:Nat->zr->List OC->Prop,J 0 ρ cs /\
   (∀ (i:Nat) d ρ' cs',ds[i]?=some d->J i ρ' cs'->PGd K (f.withs Ds) g d ρ' fun ρ2=>PSm w K f Ds ts ρ2 cs' { O with nx:=J (i+1),ct:=J (i+1),bk:=O.nx })/\∀ ρ' cs',J ds.length ρ' cs'->O.nx ρ' cs') :
  PSm w K f Ds (al4 wi g ts) ρ cs O:=fun se σ H H2 E x n r b k=>h σ H _ x.env fun ds J H1 g1 it ⟨Jv,j0,js,jd⟩=>by
 have x1:=x.go g1 (x.env.mono g1);refine⟨fun i m σ' H'=>∃ ρ' cs',CM w K f Ds H2 ρ' cs' σ' H'/\Same (hide H1 (f.withs Ds)) (hide H' (f.withs Ds))/\Jv i ρ' cs'/\m+i=ds.length,⟨ds.length,ρ,cs,x1,Same.refl _,j0,rfl⟩,fun i m σ' H' ⟨ρ',cs',x',sm',p,hm⟩=>?_⟩;by_cases hi:i<ds.length
 ·obtain⟨hgo,hy⟩:=it.go (f.withs Ds) H' i _ x'.env.fd sm' (aqq hi);refine .inr ⟨hgo,fun σ2 H3=>∃ ρ2 cs2,CM w K f Ds H2 ρ2 cs2 σ2 H3/\Same (hide H1 (f.withs Ds)) (hide H3 (f.withs Ds))/\Jv (i+1) ρ2 cs2,fun σ2 H3 ⟨ρ2,cs2,e2,g2,p2⟩=>⟨m - 1,by omega,ρ2,cs2,e2,g2,p2,by omega⟩,fun v H3 hx=>?_⟩;obtain⟨g3,r3⟩:=hy v H3 hx;have x3:=x'.go g3 (x'.env.mono g3);refine js i _ ρ' cs' (aqq hi) p σ' H3 v _ x3.env r3 fun ρ2 σ2 H4 g4 e4 p4=>?_;have x4:=x3.go g4 e4;have sm4:=(sm'.trans g3.sm).trans g4.sm;exact p4 se σ2 H4 H4 _ x4.self (fun ρ5 cs5 σ5 H5 x5 p5=>⟨ρ5,cs5,x4.trans x5,sm4.trans x5.sm,p5⟩) (fun d v ρ5 cs5 σ5 H5 x5 r5 p5=>r d v ρ5 cs5 σ5 H5 (x4.trans x5) r5 p5) (fun ρ5 cs5 σ5 H5 x5 p5=>n ρ5 cs5 σ5 H5 (x4.trans x5) p5) (fun ρ5 cs5 σ5 H5 x5 p5=>⟨ρ5,cs5,x4.trans x5,sm4.trans x5.sm,p5⟩)
 ·have ei:i=ds.length:=by omega
  subst ei;exact .inl ⟨it.st (f.withs Ds) H' x'.env.fd sm',n ρ' cs' σ' H' x' (jd ρ' cs' p)⟩
theorem ah5 {tb:TS} (J:zr->List OC->Prop) (μ:zr->List OC->Nat) (h0:J ρ cs)
  (hs:∀ ρ' cs',J ρ' cs'->PTm w K f Ds tt ρ' cs' fun b=>if b=true then PSm w K f Ds tb ρ' cs' { O with nx:=fun r c=>J r c/\μ r c<μ ρ' cs',ct:=fun r c=>J r c/\μ r c<μ ρ' cs',bk:=O.nx } else O.nx ρ' cs'):PSm w K f Ds (ajP tt tb) ρ cs O:=fun se σ H H2 E x n r b k=>by
 refine⟨fun m σ' H'=>∃ ρ' cs',CM w K f Ds H2 ρ' cs' σ' H'/\J ρ' cs'/\m=μ ρ' cs',⟨_,ρ,cs,x,h0,rfl⟩,?_⟩;rintro m σ1 H1 ⟨ρ1,cs1,x1,j1,rfl⟩;refine hs ρ1 cs1 j1 se σ1 H1 H2 _ x1 fun t H3 g3 p=>?_;have x3:=x1.go g3 (x1.env.mono g3);cases t with
 | true =>
  rw [if_pos rfl] at p ⊢;refine⟨fun σ' H'=>∃ ρ' cs',CM w K f Ds H2 ρ' cs' σ' H'/\J ρ' cs'/\μ ρ' cs'<μ ρ1 cs1,fun σ' H' ⟨ρ',cs',x',j',l'⟩=>⟨_,l',ρ',cs',x',j',rfl⟩,?_⟩;exact p se σ1 H3 H2 _ x3 (fun ρ5 cs5 σ5 H5 x5 p5=>⟨ρ5,cs5,x5,p5⟩) r (fun ρ5 cs5 σ5 H5 x5 p5=>n ρ5 cs5 σ5 H5 x5 p5) (fun ρ5 cs5 σ5 H5 x5 p5=>⟨ρ5,cs5,x5,p5⟩)
 | false =>
  rw [if_neg aqt] at p ⊢;exact n ρ1 cs1 σ1 H3 x3 p
theorem jh {σ:St} {H H2:Hp} {D:Addr} (hi:ρ[i]?=some (some (.own (f.M.length+j)))) (x:CM w K f Ds H2 ρ cs σ H) (hD:Ds[j]?=some D):σ[i]?=some (some (.ref D)):=by
 obtain⟨v,h1,p,h2,rfl⟩:=x.env.get i _ hi;have e:(f.withs Ds).M.reverse[f.M.length+j]?=some D:=by
  show (Ds.reverse++f.M).reverse[f.M.length+j]?=some D;rw [as3,aut,aqR (by simp)];simpa using hD
 rw [e] at h2;cases h2;exact h1
theorem aba {es:List PyData} (hi:ρ[i]?=some (some (.own (f.M.length+j)))) (hc:cs[j]?=some (.lst es)) (hl:es.length<1000) (h:PEm w K f Ds te ρ cs fun d=>O.nx ρ (cs.set j (.lst (es++[d])))):PSm w K f Ds (ahs (tBM K "list" ahA (zR i) (zN te yY))) ρ cs O:=fun se σ H H2 E x n r b k=>by
 have hj:j<Ds.length:=by rw [<-x.len];exact (aqs.mp hc).1
 have hD:Ds[j]?=some Ds[j]:=aqq hj;obtain⟨vs0,h0,_⟩:=x.own j _ _ hD hc;refine⟨_,jh hi x hD,Or.inl ⟨rfl,vs0,.of h0⟩,?_⟩;refine h se σ H H2 _ x fun d v H1 g1 r1 p1=>?_;have x1:=x.go g1 (x.env.mono g1);obtain⟨vs,h1,h2⟩:=x1.own j _ _ hD hc;refine⟨_,vs,v,rfl,rfl,h1,yd (by rw [h2.length];omega),n _ _ _ _ (x1.put se hD (o:=.lst (vs++[v])) (c':=.lst (es++[d])) ⟨vs++[v],zB,h2.snoc r1⟩) p1⟩
theorem CM.more {σ:St} {H H1 H2:Hp} {D:Addr} {c:OC} (x:CM w K f Ds H2 ρ cs σ H) (g:Goes (f.withs Ds) H H1) (hn:H D=none) (ho:OwnAt w K (hide H1 ((f.withs Ds).with D)) H1 D c) (hi:i<ρ.length) :
  CM w K f (Ds++[D]) H1 (ρ.set i (some (.own (f.M.length+Ds.length)))) (cs++[c]) (σ.set i (some (.ref D))) H1:=by
 have nD:¬ ((f.withs Ds).f=some D \/ D∈(f.withs Ds).M):=fresh_ne x.env.fd hn;have sm0:Same (hide H (f.withs Ds)) (hide H1 (f.withs (Ds++[D]))):=fun b o hb=>by
  have hb1:=g.sm b o hb;rw [yL];refine zJ (fun z=>?_) (zY hb1).2;rcases z with z | z
  ·exact (zY hb1).1 (.inl z)
  ·rcases aqE.mp z with rfl | z
   ·have:=(zY hb).2;rw [hn] at this;cases this
   ·exact (zY hb1).1 (.inr z)
 have hD1:∃ o,H1 D=some o:=by
  cases c with
  | lst es=>exact⟨_,ho.choose_spec.1⟩
  | set ks=>exact⟨_,ho.choose_spec.1⟩
  | dic kvs=>exact⟨_,ho.choose_spec.1⟩
 have fo1:FOk (f.withs (Ds++[D])) H1:=by
  rw [yL];refine⟨g.ok.fd,fun b hb=>?_,fun q eq hq=>?_⟩
  ·rcases aqE.mp hb with rfl | hb
   ·exact hD1
   ·exact g.ok.mm b hb
  ·rcases aqE.mp hq with rfl | hq
   ·exact nD (.inl eq)
   ·exact g.ok.nm q eq hq
 have rev:(f.withs (Ds++[D])).M.reverse=(f.withs Ds).M.reverse++[D]:=by
  rw [yL];show (D :: (f.withs Ds).M).reverse=_;rw [atU]
 have lenr:(f.withs Ds).M.reverse.length=f.M.length+Ds.length:=by
  show (Ds.reverse++f.M).reverse.length=_;simp
 have e1:EnvOk K (f.withs (Ds++[D])) ρ σ H1:=⟨x.env.len,fun q y hy=>by
  obtain⟨v,a1,a2⟩:=x.env.get q y hy;refine⟨v,a1,?_⟩;cases y with
  | dat d=>exact Rep.mono sm0 d v a2
  | feed=>exact a2
  | exc C =>
   obtain⟨b,h3,h4⟩:=a2;exact⟨b,h3,sm0 _ _ h4⟩
  | mon φ=>exact fun H' s=>a2 H' (sm0.trans s)
  | own k =>
   obtain⟨b,h3,h4⟩:=a2;refine⟨b,?_,h4⟩;rw [rev,aqJ (aqs.mp h3).1];exact h3,fo1⟩
 have rv:RepV K (f.withs (Ds++[D])) H1 (.own (f.M.length+Ds.length)) (.ref D):=⟨D,by
  rw [rev,aqR (by omega),lenr,asX]
  rfl,rfl⟩
 refine⟨e1.set i rv,Same.refl _,fun _ _=>rfl,by simp [x.len],fun q D' c' h1 h2=>?_⟩;by_cases hq:q<Ds.length
 ·rw [aqJ hq] at h1;rw [aqJ (by rw [x.len];exact hq)] at h2;exact (x.own q D' c' h1 h2).mono (g.kp D' (j7 (aqz h1))) sm0
 ·by_cases hq2:q=Ds.length
  ·subst hq2;rw [aqR (aqC _),asX] at h1;rw [aqR (by rw [x.len];exact aqC _),x.len,asX] at h2;cases h1;cases h2;rw [yL];exact ho
  ·rw [aqZ (by simp;omega)] at h1;cases h1
theorem Sep.more {H:Hp} {D:Addr} (se:Sep f Ds) (fo:FOk (f.withs Ds) H) (hn:H D=none):Sep f (Ds++[D]):=by
 have nD:=fresh_ne fo hn;refine⟨aru.mpr ⟨se.nd,by simp,fun a ha b hb=>?_⟩,fun D' h=>?_,fun D' h=>?_⟩
 ·rw [aqF.mp hb];intro z;exact nD (.inr (j7 (z▸ha)))
 ·rcases aqK.mp h with h | h
  ·exact se.nf D' h
  ·rw [aqF.mp h];exact fun z=>nD (.inl z)
 ·rcases aqK.mp h with h | h
  ·exact se.nm D' h
  ·rw [aqF.mp h];exact fun z=>nD (.inr (aqP _ z))
theorem CM.less {σ σ':St} {H H1 H2 H':Hp} {D:Addr} {ρ':zr} {cs':List OC} (x:CM w K f Ds H2 ρ cs σ H) (g:Goes (f.withs Ds) H H1) (hn:H D=none) (y:CM w K f (Ds++[D]) H1 ρ' cs' σ' H') :
  CM w K f Ds H2 (ρ'.map (ack (f.M.length+Ds.length))) (cs'.take Ds.length) σ' H':=by
 have sub:Same (hide H' (f.withs (Ds++[D]))) (hide H' (f.withs Ds)):=by rw [yL];exact same_with
 have sm1:Same (hide H (f.withs Ds)) (hide H1 (f.withs (Ds++[D]))):=fun b o hb=>by
  have hb1:=g.sm b o hb;rw [yL];refine zJ (fun z=>?_) (zY hb1).2;rcases z with z | z
  ·exact (zY hb1).1 (.inl z)
  ·rcases aqE.mp z with rfl | z
   ·have:=(zY hb).2;rw [hn] at this;cases this
   ·exact (zY hb1).1 (.inr z)
 have lenr:(f.withs Ds).M.reverse.length=f.M.length+Ds.length:=by
  show (Ds.reverse++f.M).reverse.length=_;simp
 have rev:(f.withs (Ds++[D])).M.reverse=(f.withs Ds).M.reverse++[D]:=by
  rw [yL];show (D :: (f.withs Ds).M).reverse=_;rw [atU]
 have fo:FOk (f.withs Ds) H':=by
  have h:=y.env.fd;rw [yL] at h;exact⟨h.fd,fun b hb=>h.mm b (aqw _ hb),fun p e hp=>h.nm p e (aqw _ hp)⟩
 refine⟨⟨by rw [aqr];exact y.env.len,fun q z hz=>?_,fo⟩,(x.sm.trans sm1).trans (y.sm.trans sub),fun b hb=>(y.kp b hb).trans ((g.kp b (aqP _ hb)).trans (x.kp b hb)),?_,fun q D' c' h1 h2=>?_⟩
 ·rw [aqA] at hz;cases e:ρ'[q]? with
  | none=>rw [e] at hz;cases hz
  | some z0 =>
   rw [e] at hz;cases z0 with
   | none=>cases hz
   | some z0 =>
    obtain⟨v,a1,a2⟩:=y.env.get q z0 e;cases z0 with
    | dat d =>
     cases hz;exact⟨v,a1,Rep.mono sub d v a2⟩
    | feed =>
     cases hz;rw [yL] at a2;exact⟨v,a1,a2⟩
    | exc C =>
     cases hz;obtain⟨b,h3,h4⟩:=a2;exact⟨v,a1,b,h3,sub _ _ h4⟩
    | mon φ =>
     cases hz;exact⟨v,a1,fun H' s=>a2 H' (sub.trans s)⟩
    | own k =>
     have hz':(if k<f.M.length+Ds.length then some (DV.own k) else none)=some z:=Option.some.inj hz;by_cases hk:k<f.M.length+Ds.length
     ·rw [if_pos hk] at hz';cases hz';obtain⟨b,h3,h4⟩:=a2;refine⟨v,a1,b,?_,h4⟩;rw [rev,aqJ (by omega)] at h3;exact h3
     ·rw [if_neg hk] at hz';cases hz'
 ·rw [arf,y.len];simp
 ·have hq:q<Ds.length:=(aqs.mp h1).1;rw [asu hq] at h2;exact (y.own q D' c' (by rw [aqJ hq];exact h1) h2).mono rfl sub
theorem abb (h:ac1 w K (f.withs Ds) te ρ fun c=>i<ρ.length/\∀ D,PSm w K f (Ds++[D]) ts (ρ.set i (some (.own (f.M.length+Ds.length)))) (cs++[c]) { nx:=fun ρ' cs'=>O.nx (ρ'.map (ack (f.M.length+Ds.length))) (cs'.take Ds.length),rt:=O.rt,bk:=fun ρ' cs'=>O.bk (ρ'.map (ack (f.M.length+Ds.length))) (cs'.take Ds.length),ct:=fun ρ' cs'=>O.ct (ρ'.map (ack (f.M.length+Ds.length))) (cs'.take Ds.length) }) :
  PSm w K f Ds (vZ (qA te (yX i)) ts) ρ cs O:=fun se σ H H2 E x n r b k =>
 h σ H _ x.env fun c D H1 g1 hn ho ⟨hi,p⟩ =>
  p D (se.more x.env.fd hn) _ H1 H1 E (x.more g1 hn ho hi) (fun ρ' cs' σ' H' y q=>n _ _ σ' H' (x.less g1 hn y) q) (fun d v ρ' cs' σ' H' y r' q=>r d v _ _ σ' H' (x.less g1 hn y) r' q) (fun ρ' cs' σ' H' y q=>b _ _ σ' H' (x.less g1 hn y) q) (fun ρ' cs' σ' H' y q=>k _ _ σ' H' (x.less g1 hn y) q)
theorem jO {P:OC->Prop} (h:PEdO K f te ρ fun es=>P (.lst es)):ac1 w K f te ρ P:=fun σ H Q e q=>h σ H Q e fun es D vs H' g hn h1 rs p=>q (.lst es) D H' g hn ⟨vs,h1,rs⟩ p
noncomputable def freed (n:Nat) (cs:List OC):Option DV->Option DV
 | some (.own k)=>if k<n then some (.own k) else match cs[k - n]? with
  | some (.lst es)=>some (.dat (.list es))
  | _=>none
 | x=>x
theorem CM.free {σ:St} {H H2:Hp} (se:Sep f Ds) (x:CM w K f Ds H2 ρ cs σ H):EnvOk K f (ρ.map (freed f.M.length cs)) σ H:=by
 have fo:FOk f H:=⟨x.env.fd.fd,fun b hb=>x.env.fd.mm b (aqP _ hb),fun p e hp=>x.env.fd.nm p e (aqP _ hp)⟩;refine⟨by rw [aqr];exact x.env.len,fun q z hz=>?_,fo⟩;rw [aqA] at hz;cases e:ρ[q]? with
 | none=>rw [e] at hz;cases hz
 | some z0 =>
  rw [e] at hz;cases z0 with
  | none=>cases hz
  | some z0 =>
   obtain⟨v,a1,a2⟩:=x.env.get q z0 e;cases z0 with
   | dat d =>
    cases hz;exact⟨v,a1,Rep.mono same_withs d v a2⟩
   | feed =>
    cases hz;exact⟨v,a1,a2⟩
   | exc C =>
    cases hz;obtain⟨b,h3,h4⟩:=a2;exact⟨v,a1,b,h3,same_withs _ _ h4⟩
   | mon φ =>
    cases hz;exact⟨v,a1,fun H' s=>a2 H' (same_withs.trans s)⟩
   | own k =>
    obtain⟨b,h3,h4⟩:=a2;have h3':(Ds.reverse++f.M).reverse[k]?=some b:=h3;rw [as3,aut] at h3';have hz':(if k<f.M.length then some (DV.own k) else match cs[k - f.M.length]? with | some (.lst es)=>some (.dat (.list es)) | _=>none)=some z:=Option.some.inj hz;by_cases hk:k<f.M.length
    ·rw [if_pos hk] at hz';cases hz';rw [aqJ (by simpa using hk)] at h3';exact⟨v,a1,b,h3',h4⟩
    ·rw [if_neg hk] at hz';rw [aqR (by simpa using Nat.not_lt.mp hk),auA] at h3';cases ec:cs[k - f.M.length]? with
     | none=>rw [ec] at hz';cases hz'
     | some c =>
      rw [ec] at hz';cases c with
      | lst es =>
       cases hz';obtain⟨vs,h5,h6⟩:=x.own _ _ _ h3' ec;have hb:=aqz h3';exact⟨v,a1,rep_list.mpr ⟨b,vs,h4,.of (zJ (fun z=>z.elim (se.nf b hb) (se.nm b hb)) h5),Reps.mono same_withs es vs h6⟩⟩
      | set ks=>cases hz'
      | dic kvs=>cases hz'
theorem CM.goF {σ:St} {H H2 H':Hp} (se:Sep f Ds) (x:CM w K f Ds H2 ρ cs σ H) (g:Goes f H H'):CM w K f Ds H2 ρ cs σ H':=by
 have keep:∀ b∈Ds,H' b=H b:=fun b hb=>by
  obtain⟨o,ho⟩:=x.env.fd.mm b (j7 hb);rw [ho];exact (zY (g.sm b o (zJ (fun z=>z.elim (se.nf b hb) (se.nm b hb)) ho))).2
 have g2:Goes (f.withs Ds) H H':=⟨fun b o hb=>by
   have hb':=zY hb;have:=zY (g.sm b o (same_withs b o hb));exact zJ hb'.1 this.2,⟨g.ok.fd,fun b hb=>by
   rcases aqK.mp hb with hb | hb
   ·obtain⟨o,ho⟩:=x.env.fd.mm b (aq1 _ hb);exact⟨o,by rw [keep b (asb.mp hb)];exact ho⟩
   ·exact g.ok.mm b hb,x.env.fd.nm⟩,fun b hb=>by
   rcases aqK.mp hb with hb | hb
   ·exact keep b (asb.mp hb)
   ·exact g.kp b hb⟩
 exact x.go g2 (x.env.mono g2)
theorem ac3 (h:PSd K f ts (ρ.map (freed f.M.length cs)) { nx:=fun _=>False,rt:=O.rt }):PSm w K f Ds ts ρ cs O:=fun se σ H H2 E x n r b k =>
 h σ H E (x.free se) (fun _ _ _ _ _ z=>z.elim) (fun d v H' g' r' p=>r d v ρ cs σ H' (x.goF se g') r' p) (fun _ _ _ _ _ z=>z.elim) (fun _ _ _ _ _ z=>z.elim)
end
def agK (w:World) (K:aqu) (f:Fx) (Ds:List Addr) (ts:TS) (ρ:zr) (cs:List OC) (R:List PyData->Prop):Prop:=Sep f Ds->∀ (σ:St) (H H2:Hp) (E:Ends),CM w K f Ds H2 ρ cs σ H ->
 (∀ es D vs ρ' cs' σ' H0 H',CM w K f Ds H2 ρ' cs' σ' H0->Goes f H0 H'->H0 D=none->H' D=some (.lst vs)->Reps K (hide H' (f.with D)) es vs->R es->E.rt (.ref D) H')->ts E σ H
section
variable {w:World} {K:aqu} {f:Fx} {Ds:List Addr} {ρ:zr} {cs:List OC} {ts tu:TS} {te:TE} {R:List PyData->Prop} {i:Nat}
theorem ah6 (h:agK w K f [] ts ρ [] R):PSn K f ts ρ R:=fun σ H E e q=>by
 refine h ⟨arv,(fun _ z=>nomatch z),(fun _ z=>nomatch z)⟩ σ H H E ⟨e,Same.refl _,fun _ _=>rfl,rfl,(fun i D c z=>nomatch z)⟩ fun es D vs ρ' cs' σ' H0 H' x g hn h1 rs p=>?_;have g0:Goes f H H0:=⟨x.sm,x.env.fd,x.kp⟩;exact q es D vs H' (g0.trans g) (g0.free e.fd hn) h1 rs p
theorem akz (h:PSm w K f Ds ts ρ cs { nx:=fun ρ' cs'=>agK w K f Ds tu ρ' cs' R,rt:=fun _=>False }):agK w K f Ds (vZ ts tu) ρ cs R:=fun se σ H H2 E x q =>
 h se σ H H2 _ x (fun ρ' cs' σ' H' x' p=>p se σ' H' H2 E x' q) (fun _ _ _ _ _ _ _ _ z=>z.elim) (fun _ _ _ _ _ z=>z.elim) (fun _ _ _ _ _ z=>z.elim)
theorem agL (h:ac1 w K (f.withs Ds) te ρ fun c=>i<ρ.length/\∀ D,agK w K f (Ds++[D]) ts (ρ.set i (some (.own (f.M.length+Ds.length)))) (cs++[c]) R) :
  agK w K f Ds (vZ (qA te (yX i)) ts) ρ cs R:=fun se σ H H2 E x q =>
 h σ H _ x.env fun c D H1 g1 hn ho ⟨hi,p⟩ =>
  p D (se.more x.env.fd hn) _ H1 H1 E (x.more g1 hn ho hi) fun es D' vs ρ' cs' σ' H0 H' y g hn' h1 rs pr=>q es D' vs _ _ σ' H0 H' (x.less g1 hn y) g hn' h1 rs pr
theorem ah7 (h:PSn K f ts (ρ.map (freed f.M.length cs)) R):agK w K f Ds ts ρ cs R:=fun se σ H H2 E x q =>
 h σ H E (x.free se) fun es D vs H' g hn h1 rs p=>q es D vs ρ cs σ H H' x g hn h1 rs p
end
theorem SetO.ok {P:Program} {w:World} {H:Hp} {h:Heap} {a:Addr} {xs:List (PyData×Addr)} {o:Obj} {es:Array (Int×Value)} {ep:Nat} {t:SetTable} (S:SetObj w h a xs o es ep t):ObjOk P w H h a (SetO w a xs) :=
 ⟨⟨o,es,ep,t,S⟩,⟨o,S.ob⟩,fun h1 h2 ⟨o,es,ep,t,S⟩ k=>⟨o,es,ep,t,⟨k o S.ob,S.ex,S.da,S.el,S.ok⟩⟩⟩
theorem ai7 (led:Bool):ST.TOk (SetTable.fresh 0 0 led) [] where
 mask:=.inl rfl
 dum:=rfl
 rise:=fun i j _ hj=>absurd hj (arQ _)
 le:=fun i hi=>absurd hi (arQ _)
 size:=rfl
 most:=aq2 _
 reach:=fun i hi=>absurd hi (arQ _)
 room:=by show 0 * 5<7 * 3;decide
def aeD (w:World):List V->Hp->VK->Prop:=fun xs H Q=>xs=[]/\∀ a,H a=none->Q (.ref a) (upd H a (SetO w a []))
theorem afL {X:Cx}:yC X (.type "set") (aeD X.w):=by
 intro pins s σ H xs us Q I r h;obtain⟨rfl,q⟩:=h;cases r;refine call_set_0 fun led=>?_;refine⟨.ref s.heap.objs.size,_,I.laid (t':=s.toks) (fun b u e=>aqD _ e) (aqC _) (SetO.ok (xs:=[]) (o:={ cls:=.type "set",dict:=none,data:=.set #[] 0 (.fresh 0 0 led) }) (es:=#[]) (ep:=0) (t:=.fresh 0 0 led) ⟨aq3 _ rfl,⟨rfl,rfl,rfl⟩,rfl,rfl,ai7 led⟩),rfl,q _ (I.hok.fresh (aqC _))⟩
def acf (d:PyData):Prop:=aaV d/\∃ xs,d=.tuple xs
theorem qI {K:aqu} {H:Hp} {d:PyData} {v:V} (k:acf d) (r:Rep K H d v):∃ b,v=.ref b:=by
 obtain⟨_,xs,rfl⟩:=k;obtain⟨a,_,e,_⟩:=rep_tuple.mp r;exact⟨a,e⟩
theorem qZ {X:Cx} {pins:List (Addr×Obj)} {σ:St} {H:Hp} {s:Shared} {d:PyData} {b:Addr} (I:Inv X pins σ H s) (k:aaV d) (r:Rep X.K H d (.ref b)):KeyAt s.heap d b:=by
 obtain⟨as,ra⟩:=yZ I d (.ref b) (.ref b) r rfl;exact⟨⟨as,ra⟩,k.1,k.2⟩
def aoO (w:World) (K:aqu) (neg:Bool):R2:=fun x y H Q=>∃ a b d xs,x=.ref b/\y=.ref a/\H a=some (SetO w a xs)/\(∀ z∈xs,aaV z.1/\Rep K H z.1 (.ref z.2))/\aaV d/\Rep K H d (.ref b)/\Q (.bl (if neg then !decide (d∈xs.map (·.1)) else decide (d∈xs.map (·.1)))) H
theorem amn {X:Cx} (hu:X.A.units+64<cLine) {pins:List (Addr×Obj)} {s:Shared} {σ:St} {H:Hp} {a b:Addr} {d:PyData} {xs:List (PyData×Addr)} (I:Inv X pins σ H s) (hS:H a=some (SetO X.w a xs)) (ks:∀ z∈xs,aaV z.1/\Rep X.K H z.1 (.ref z.2)) (kd:aaV d) (rd:Rep X.K H d (.ref b)) {Q:Bool->Shared->Prop} {E:Value->Shared->Prop}
  (q:Q (decide (d∈xs.map (·.1))) { s with toks:=s.toks+yg d }):wpAny (model X.prog X.w) X.A (contains (.ref a) (.ref b)) Q E s:=by
 obtain⟨⟨o,es,ep,t,S⟩,_⟩:=I.hok a _ hS;exact afK S (fun x hx=>qZ I (ks x hx).1 (ks x hx).2) (qZ I kd rd) (by omega) q
theorem ai8 {X:Cx} (hu:X.A.units+64<cLine):OpR X (compareOp .NotIn) (aoO X.w X.K true):=by
 intro pins s σ H x y v u Q I rx ry h;obtain⟨a,b,d,xs,rfl,rfl,hS,ks,kd,rd,q⟩:=h;cases rx;cases ry;show wpAny _ _ (do return Value.bool (!(<- contains (.ref a) (.ref b)))) _ _ s;apply wpAny_bind;exact amn hu I hS ks kd rd (wpAny_pure ⟨.bl _,H,I.tok _,rfl,q⟩)
theorem ac4 {X:Cx} {K:aqu} {w:World} (hw:X.w=w) (hK:X.K=K) (hu:X.A.units+64<cLine):OpR X (compareOp .NotIn) (aoO w K true):=hw▸hK▸ai8 hu
def akA (w:World) (K:aqu):V->List V->Hp->VK->Prop:=fun x ys H Q=>∃ a b d xs,x=.ref a/\ys=[.ref b]/\H a=some (SetO w a xs)/\(∀ z∈xs,aaV z.1/\Rep K H z.1 (.ref z.2))/\aaV d/\Rep K H d (.ref b)/\xs.length<300 /\
 (d∈xs.map (·.1)->Q .non H)/\(d∉xs.map (·.1)->∀ xs',xs'.Perm ((d,b) :: xs)->Q .non (upd H a (SetO w a xs')))
theorem amo {X:Cx} (hu:X.A.units+64<cLine):MtR X "set.add" (akA X.w X.K):=by
 intro pins s σ H x ys v us Q I rx ry h;obtain⟨a,b,d,xs,rfl,rfl,hS,ks,kd,rd,few,q1,q2⟩:=h;obtain⟨u,rfl,ru⟩:=vals1 ry;cases rx;cases ru;obtain⟨⟨o,es,ep,t,S⟩,_⟩:=I.hok a _ hS;refine aoN S (fun x hx=>qZ I (ks x hx).1 (ks x hx).2) (qZ I kd rd) (by omega) few (fun hd=>⟨.non,H,I.tok _,rfl,q1 hd⟩) fun hd xs' o' es' ep' t' h' pm sb S'=>?_;refine⟨.non,_,I.write (t':=s.toks+yg d) (x:=a) (e:=a) (by rw [hS];exact trivial) (.inl rfl) (fun b u nb e=>(sb.2 b nb).trans e) ⟨o',S'.ob⟩ (SetO.ok S'),rfl,q2 hd xs' pm⟩
theorem afM {X:Cx} {K:aqu} {w:World} (hw:X.w=w) (hK:X.K=K) (hu:X.A.units+64<cLine):MtR X "set.add" (akA w K):=hw▸hK▸amo hu
theorem abc {X:Cx} {w:World} (hw:X.w=w):yC X (.type "set") (aeD w):=hw▸afL
def apR (w:World) (r:V->List V->Hp->VK->Prop) (to:TE) (t:TA):TE:=fun σ H Q=>to σ H fun x H1=>(∃ a xs,x=.ref a/\H1 a=some (SetO w a xs))/\t σ H1 fun xs H2=>r x xs H2 Q
theorem akB {X:Cx} {w:World} {o e:Expr} {es:List Expr} {to:TE} {t:TA} {name:Str} {apos cpos:Pos} {id:String} {r:V->List V->Hp->VK->Prop} (hw:X.w=w) (slot:Slot "set" name id) (hty:typeOf (.builtin id)=pure (.type "method_descriptor")) (hm:MtR X id r) (ho:PE X o to) (ha:PA X (e :: es) t)
  (hbase:attributeBase o name X.env (eval o X.env)=eval o X.env:=by rfl)
  (hfew:((backTo cpos (starEach (e :: es) X.env)).all (fun x=>!x.1) && (backToKw cpos (keywordEach [] X.env)).all (fun x=>x.1.isSome)
   && decide ((e :: es).length+([]:List Keyword).length+(if ([]:List Keyword).isEmpty then 0 else 1)<30))=true:=by rfl)
  (hline:(apos.endLine == cpos.line)=true:=by rfl) (hs:starEach (e :: es) X.env=(false,eval e X.env) :: starEach es X.env:=by rfl) (hplain:(backTo cpos (starEach es X.env)).any (·.1)=false:=by rfl) :
  PE X (.Call (.Attribute o name apos) (e :: es) [] cpos) (apR w r to t):=by
 subst hw;intro pins s σ H Q I h;refine wpAny_Call_method_late hbase hfew hline rfl (thn (ho pins s σ H _ I h) fun v s1 ⟨x,H1,I1,r1,ty,q1⟩=>?_);obtain⟨a,xs,rfl,hS⟩:=ty;cases r1;obtain⟨⟨ob,es',ep,t',S⟩,_⟩:=I1.hok a _ hS;refine⟨"set",id,PySem.F.plainAttrs_set,slot,hty,⟨ob,S.ob,S.ex.1⟩,fun b e=>?_,?_⟩
 ·cases e;exact⟨ob,S.ob,S.ex.2.1⟩
 have hA:=ha cpos pins s1 σ H1 _ I1 q1;rw [hs] at hA ⊢;refine atd (by show (false || (backTo cpos (starEach es X.env)).any (·.1))=false;rw [hplain] <;> rfl) (auo ?_);exact thn hA fun us s2 ⟨vs,H2,I2,r2,q2⟩=>hm pins s2 σ H2 (.ref a) vs (.ref a) us Q I2 rfl r2 q2
section
variable {w:World} {K:aqu} {f:Fx} {Ds:List Addr} {ρ:zr} {cs:List OC} {te:TE} {O:MEnds} {i j:Nat} {ks:List PyData}
theorem akC {P:OC->Prop} (p:P (.set [])):ac1 w K f (tCB (aeD w) yY) ρ P:=fun σ H Q e q =>
 ⟨rfl,fun a hn=>q (.set []) a _ (.of_same (yj hn _) e.fd) hn ⟨[],zB,(fun _ z=>nomatch z),(fun d=>Iff.rfl),aqC 0⟩ p⟩
theorem anH {neg:Bool} {B:Bool->Prop} (hi:ρ[i]?=some (some (.own (f.M.length+j)))) (hc:cs[j]?=some (.set ks)) (h:PEm w K f Ds te ρ cs fun d=>acf d/\B (if neg then !decide (d∈ks) else decide (d∈ks))) :
  PTm w K f Ds (adD (tOp (aoO w K neg) te (zR i))) ρ cs B:=fun se σ H H2 Q x q=>by
 have hj:j<Ds.length:=by rw [<-x.len];exact (aqs.mp hc).1
 have hD:Ds[j]?=some Ds[j]:=aqq hj;refine h se σ H H2 _ x fun d v H1 g1 r1 ⟨kd,p⟩=>?_;have x1:=x.go g1 (x.env.mono g1);obtain⟨b,rfl⟩:=qI kd r1;obtain⟨xs,h1,h2,h3,_⟩:=x1.own j _ _ hD hc;refine⟨_,jh hi x1 hD,Ds[j],b,d,xs,rfl,rfl,h1,fun z hz=>⟨(h2 z hz).1,Rep.mono (zm _ _) _ _ (h2 z hz).2⟩,kd.1,Rep.mono (zm _ _) _ _ r1,_,rfl,?_⟩;have:decide (d∈xs.map (·.1))=decide (d∈ks):=decide_eq_decide.mpr (h3 d);rw [this];exact q _ H1 g1 p
theorem anI (hi:ρ[i]?=some (some (.own (f.M.length+j)))) (hc:cs[j]?=some (.set ks)) (hl:ks.length<300) (h:PEm w K f Ds te ρ cs fun d=>acf d/\(d∈ks->O.nx ρ cs)/\(d∉ks->O.nx ρ (cs.set j (.set (d :: ks))))) :
  PSm w K f Ds (ahs (apR w (akA w K) (zR i) (zN te yY))) ρ cs O:=fun se σ H H2 E x n r b k=>by
 have hj:j<Ds.length:=by rw [<-x.len];exact (aqs.mp hc).1
 have hD:Ds[j]?=some Ds[j]:=aqq hj;obtain⟨xs0,h0,_⟩:=x.own j _ _ hD hc;refine⟨_,jh hi x hD,⟨Ds[j],xs0,rfl,h0⟩,?_⟩;refine h se σ H H2 _ x fun d v H1 g1 r1 ⟨kd,p1,p2⟩=>?_;have x1:=x.go g1 (x.env.mono g1);obtain⟨b,rfl⟩:=qI kd r1;obtain⟨xs,h1,h2,h3,h4⟩:=x1.own j _ _ hD hc;refine⟨Ds[j],b,d,xs,rfl,rfl,h1,fun z hz=>⟨(h2 z hz).1,Rep.mono (zm _ _) _ _ (h2 z hz).2⟩,kd.1,Rep.mono (zm _ _) _ _ r1,by omega,fun hd=>n _ _ _ _ x1 (p1 ((h3 d).mp hd)),fun hd xs' pm=>n _ _ _ _ (x1.put se hD (c':=.set (d :: ks)) ⟨xs',zB,fun z hz=>?_,fun e=>?_,?_⟩) (p2 fun z=>hd ((h3 d).mpr z))⟩
 ·rcases aqE.mp (pm.mem_iff.mp hz) with rfl | hz
  ·exact⟨kd.1,r1⟩
  ·exact h2 z hz
 ·rw [(pm.map (·.1)).mem_iff,aqQ,aqE,aqE,h3 e]
 ·rw [pm.length_eq,aqT,aqT];omega
end
theorem DicO.ok {P:Program} {w:World} {H:Hp} {h:Heap} {a:Addr} {xs:List (PyData×Addr×Value)} {o:Obj} {es:Array DictEntry} {ep:Nat} (S:DicObj w h a xs o es ep):ObjOk P w H h a (DicO w a xs) :=
 ⟨⟨o,es,ep,S⟩,⟨o,S.ob⟩,fun h1 h2 ⟨o,es,ep,S⟩ k=>⟨o,es,ep,⟨k o S.ob,S.ex,S.da,S.el,S.nd,S.ns⟩⟩⟩
theorem aeE {X:Cx} {pins:List (Addr×Obj)} {σ:St} {H:Hp} {s:Shared} (I:Inv X pins σ H s):sysModules<s.heap.objs.size :=
 auH (by decide) (I.ok.mod.glob.keeps I.bk).lt
def ah8 (w:World):TE:=fun _ H Q=>∀ p,H p=none->Q (.ref p) (upd H p (DicO w p []))
theorem abQ {X:Cx} {w:World} {pos:Pos} (hw:X.w=w):PE X (.Dict [] [] pos) (ah8 w):=by
 subst hw;intro pins s σ H Q I h;refine wpAny_Dict_empty ⟨.ref s.heap.objs.size,_,I.laid (a:=s.heap.objs.size) (t':=s.toks) (fun _ _ q=>aqD _ q) (aqC _) (DicO.ok (xs:=[]) (o:={ cls:=.type "dict",data:=.dict #[] }) (es:=#[]) (ep:=0) ⟨aq3 _ rfl,⟨rfl,rfl,rfl⟩,rfl,rfl,arv,beq_eq_false_iff_ne.mpr (arU (aq5 (aeE I)))⟩),rfl,h _ (I.hok.fresh (aqC _))⟩
abbrev aaW (K:aqu) (H:Hp) (xs:List (PyData×Addr×Value)):Prop:=∀ z∈xs,aaV z.1/\Rep K H z.1 (.ref z.2.1)
theorem ac5 {X:Cx} {pins:List (Addr×Obj)} {σ:St} {H:Hp} {s:Shared} {a:Addr} {xs:List (PyData×Addr×Value)} (I:Inv X pins σ H s) (hS:H a=some (DicO X.w a xs)) (ks:aaW X.K H xs):s.heap.DictOfH (aco X.prog X.w) a xs/\(a == sysModules)=false:=by
 obtain⟨⟨o,es,ep,S⟩,_⟩:=I.hok a _ hS;exact⟨⟨o,es,ep,S.ob,S.ex,S.da,S.el,fun x hx=>qZ I (ks x hx).1 (ks x hx).2,S.nd⟩,S.ns⟩
def abd (w:World) (K:aqu):V->V->V->Hp->(Hp->Prop)->Prop:=fun o i v H Q=>∃ a b d xs,o=.ref a/\i=.ref b/\H a=some (DicO w a xs)/\aaW K H xs/\aaV d/\Rep K H d (.ref b)/\xs.length<=1000/\∀ u,RelV v u->Q (upd H a (DicO w a (storedH xs d b u)))
theorem amq {X:Cx} (hu:X.A.units+64<cLine):al0 X (abd X.w X.K):=by
 intro pins s σ H o i v ov iv u Q I ro ri rv h;obtain⟨a,b,d,xs,rfl,rfl,hS,ks,kd,rd,hl,q⟩:=h;cases ro;cases ri;obtain⟨hm,ns⟩:=ac5 I hS ks;have hu1:X.A.in1.units=X.A.units+1:=rfl;refine wpAny_setItem_heap (by show _+40<cLine;omega) (qZ I kd rd) hm (fun h' hm' sb=>?_) (arE (yd hl));obtain⟨o',es',ep',x1,x2,x3,x4,x5,x6⟩:=hm';exact⟨_,I.write (t':=s.toks+yg d) (x:=a) (e:=a) (by rw [hS];exact trivial) (.inl rfl) (fun b u nb e=>(sb.2 b nb).trans e) ⟨o',x1⟩ (DicO.ok ⟨x1,x2,x3,x4,x6,ns⟩),q u rv⟩
theorem aaf {X:Cx} {K:aqu} {w:World} (hw:X.w=w) (hK:X.K=K) (hu:X.A.units+64<cLine):al0 X (abd w K):=hw▸hK▸amq hu
def abR (w:World) (K:aqu):R2:=fun x y H Q=>∃ a b d xs p v,x=.ref a/\y=.ref b/\H a=some (DicO w a xs)/\aaW K H xs/\aaV d/\Rep K H d (.ref b)/\atKey xs d=some p/\RelV v p.2/\Q v H
theorem aoP {X:Cx} (hu:X.A.units+64<cLine):IxR X (abR X.w X.K):=by
 intro value slice pins s σ H x y v u Q I rx ry h hs;obtain⟨a,b,d,xs,p,z,rfl,rfl,hS,ks,kd,rd,hp,rz,q⟩:=h;cases rx;cases ry;obtain⟨hm,ns⟩:=ac5 I hS ks;have hu1:X.A.in1.units=X.A.units+1:=rfl;refine subscriptTail_builtinR (x:=p.2) hm.typeIs atL.lookup ?_ hs;exact wpAny_getItem_heap (by show _+40<cLine;omega) (qZ I kd rd) hm hp ⟨rfl,z,H,I.tok _,rz,q⟩
theorem jP {X:Cx} {K:aqu} {w:World} (hw:X.w=w) (hK:X.K=K) (hu:X.A.units+64<cLine):IxR X (abR w K):=hw▸hK▸aoP hu
def agM (w:World) (K:aqu) (neg:Bool):R2:=fun x y H Q=>∃ a b d xs,x=.ref b/\y=.ref a/\H a=some (DicO w a xs)/\aaW K H xs/\aaV d/\Rep K H d (.ref b)/\Q (.bl (if neg then !(atKey xs d).isSome else (atKey xs d).isSome)) H
noncomputable def dput (k v:PyData) (kvs:List (PyData×PyData)):List (PyData×PyData):=if k∈kvs.map (·.1) then kvs.map (fun p=>if p.1=k then (p.1,v) else p) else kvs++[(k,v)]
noncomputable def jm (k:PyData) (kvs:List (PyData×PyData)):Option PyData:=(kvs.find? fun p=>decide (p.1=k)).map (·.2)
section
variable {K:aqu} {Hh:Hp}
theorem abe:∀ {xs:List (PyData×Addr×Value)} {kvs:List (PyData×PyData)},Paired (EntR K Hh) xs kvs->xs.length=kvs.length
 | _,_,.nil=>rfl
 | _,_,.cons _ t=>by rw [aqT,aqT,abe t]
theorem yI:∀ {xs:List (PyData×Addr×Value)} {kvs:List (PyData×PyData)},Paired (EntR K Hh) xs kvs->aaW K Hh xs
 | _,_,.nil=>fun z hz=>nomatch hz
 | _,_,.cons h t=>fun z hz=>by
  rcases aqE.mp hz with rfl | hz
  ·exact⟨h.2.1,h.2.2.1⟩
  ·exact yI t z hz
theorem abf (k:PyData):∀ {xs:List (PyData×Addr×Value)} {kvs:List (PyData×PyData)},Paired (EntR K Hh) xs kvs->(atKey xs k=none/\jm k kvs=none/\k∉kvs.map (·.1)) \/ ∃ p d v,atKey xs k=some p/\jm k kvs=some d/\Rep K Hh d v/\RelV v p.2/\k∈kvs.map (·.1)
 | _,_,.nil=>.inl ⟨rfl,rfl,fun z=>nomatch z⟩
 | x :: xs,p :: kvs,.cons ⟨h1,h2,h3,v,h4,h5⟩ t=>by
  by_cases e:x.1=k
  ·refine .inr ⟨x.2,p.2,v,?_,?_,h4,h5,?_⟩
   ·unfold atKey;rw [arX,decide_eq_true e];rfl
   ·unfold jm;rw [arX,decide_eq_true (h1▸e)];rfl
   ·rw [aqQ];exact aqE.mpr (.inl (h1▸e).symm)
  ·have e':¬ p.1=k:=fun z=>e (h1.trans z);have a1:atKey (x :: xs) k=atKey xs k:=by unfold atKey;rw [arX,decide_eq_false e]
   have a2:jm k (p :: kvs)=jm k kvs:=by unfold jm;rw [arX,decide_eq_false e']
   rw [a1,a2,aqQ];rcases abf k t with⟨b1,b2,b3⟩ | ⟨q,d,u,b1,b2,b3,b4,b5⟩
   ·exact .inl ⟨b1,b2,fun z=>(aqE.mp z).elim (fun z=>e' z.symm) b3⟩
   ·exact .inr ⟨q,d,u,b1,b2,b3,b4,aqw _ b5⟩
theorem ah9 (k:PyData) {d:PyData} {v:V} {u:Value} (rd:Rep K Hh d v) (rv:RelV v u):∀ {xs:List (PyData×Addr×Value)} {kvs:List (PyData×PyData)},Paired (EntR K Hh) xs kvs->Paired (EntR K Hh) (xs.map (putAt k u)) (kvs.map fun p=>if p.1=k then (p.1,d) else p)
 | _,_,.nil=>.nil
 | x :: xs,p :: kvs,.cons ⟨h1,h2,h3,w,h4,h5⟩ t=>by
  rw [aqQ,aqQ];refine .cons ?_ (ah9 k rd rv t);unfold putAt;by_cases e:x.1=k
  ·rw [if_pos e,if_pos (h1▸e)];exact⟨h1,h2,h3,v,rd,rv⟩
  ·rw [if_neg e,if_neg (fun z=>e (h1.trans z))];exact⟨h1,h2,h3,w,h4,h5⟩
theorem aia {x:PyData×Addr×Value} {p:PyData×PyData} (h:EntR K Hh x p):∀ {xs:List (PyData×Addr×Value)} {kvs:List (PyData×PyData)},Paired (EntR K Hh) xs kvs->Paired (EntR K Hh) (xs++[x]) (kvs++[p])
 | _,_,.nil=>.cons h .nil
 | _,_,.cons h' t=>.cons h' (aia h t)
theorem aeF {k d:PyData} {b:Addr} {v:V} {u:Value} (kk:aaV k) (rk:Rep K Hh k (.ref b)) (rd:Rep K Hh d v) (rv:RelV v u) {xs:List (PyData×Addr×Value)} {kvs:List (PyData×PyData)} (t:Paired (EntR K Hh) xs kvs):Paired (EntR K Hh) (storedH xs k b u) (dput k d kvs):=by
 unfold storedH dput;rcases abf k t with⟨b1,b2,b3⟩ | ⟨q,d',v',b1,b2,b3,b4,b5⟩
 ·rw [b1,if_neg (by simp),if_neg b3];exact aia ⟨rfl,kk,rk,v,rd,rv⟩ t
 ·rw [b1,if_pos (show (some q).isSome=true from rfl),if_pos b5];exact ah9 k rd rv t
end
section
variable {w:World} {K:aqu} {f:Fx} {Ds:List Addr} {ρ:zr} {cs:List OC} {te tk:TE} {O:MEnds} {i j:Nat} {kvs:List (PyData×PyData)}
theorem agN {P:OC->Prop} (p:P (.dic [])):ac1 w K f (ah8 w) ρ P:=fun σ H Q e q =>
 fun a hn=>q (.dic []) a _ (.of_same (yj hn _) e.fd) hn ⟨[],zB,.nil⟩ p
theorem afN (hi:ρ[i]?=some (some (.own (f.M.length+j)))) (hc:cs[j]?=some (.dic kvs)) (hl:kvs.length<=1000)
  (h:PEd K (f.withs Ds) te ρ fun v=>PEd K (f.withs Ds) tk ρ fun k=>acf k/\O.nx ρ (cs.set j (.dic (dput k v kvs)))) :
  PSm w K f Ds (qA te (afg (zR i) tk (abd w K))) ρ cs O:=fun se σ H H2 E x n r b k=>by
 have hj:j<Ds.length:=by rw [<-x.len];exact (aqs.mp hc).1
 have hD:Ds[j]?=some Ds[j]:=aqq hj;refine h σ H _ x.env fun v vv H1 g1 r1 p1=>?_;have x1:=x.go g1 (x.env.mono g1);refine⟨_,jh hi x1 hD,?_⟩;refine p1 σ H1 _ x1.env fun kd kv H3 g3 r3 ⟨kt,p3⟩=>?_;have x3:=x1.go g3 (x1.env.mono g3);obtain⟨b',rfl⟩:=qI kt r3;obtain⟨xs,h1,h2⟩:=x3.own j _ _ hD hc;have rv:=Rep.mono g3.sm _ _ r1;refine⟨Ds[j],b',kd,xs,rfl,rfl,h1,fun z hz=>⟨(yI h2 z hz).1,Rep.mono (zm _ _) _ _ (yI h2 z hz).2⟩,kt.1,Rep.mono (zm _ _) _ _ r3,by rw [abe h2];exact hl,fun u ru=>?_⟩;exact n _ _ _ _ (x3.put se hD (c':=.dic (dput kd v kvs)) ⟨_,zB,aeF kt.1 r3 rv ru h2⟩) p3
theorem apS {P:PyData->Prop} (hi:ρ[i]?=some (some (.own (f.M.length+j)))) (hc:cs[j]?=some (.dic kvs)) (h:PEm w K f Ds tk ρ cs fun k=>acf k/\∃ d,jm k kvs=some d/\P d):PEm w K f Ds (tOp (abR w K) (zR i) tk) ρ cs P:=fun se σ H H2 Q x q=>by
 have hj:j<Ds.length:=by rw [<-x.len];exact (aqs.mp hc).1
 have hD:Ds[j]?=some Ds[j]:=aqq hj;refine⟨_,jh hi x hD,?_⟩;refine h se σ H H2 _ x fun k v H1 g1 r1 ⟨kt,d,hd,p⟩=>?_;have x1:=x.go g1 (x.env.mono g1);obtain⟨b,rfl⟩:=qI kt r1;obtain⟨xs,h1,h2⟩:=x1.own j _ _ hD hc;rcases abf k h2 with⟨b1,b2,b3⟩ | ⟨pp,d',v',b1,b2,b3,b4,b5⟩
 ·rw [b2] at hd;cases hd
 ·rw [b2] at hd;cases hd;exact⟨Ds[j],b,k,xs,pp,v',rfl,rfl,h1,fun z hz=>⟨(yI h2 z hz).1,Rep.mono (zm _ _) _ _ (yI h2 z hz).2⟩,kt.1,Rep.mono (zm _ _) _ _ r1,b1,b4,q _ _ H1 g1 b3 p⟩
theorem akD (h:PEm w K f Ds te ρ cs O.rt):PSm w K f Ds (adq te) ρ cs O:=fun se σ H H2 E x n r b k =>
 h se σ H H2 _ x fun d v H' g' r' p=>r d v ρ cs σ H' (x.go g' (x.env.mono g')) (Rep.mono same_withs d v r') p
end
noncomputable def amr (K:aqu) (ns:List Int) (v:Value):Bool:=match v with
 | .ref t=>(match K.lookup t with
  | some o=>o.cls == .type "tuple" && (match o.data with
   | .seq its _=>KTD.intsLook its.toList ns && decide (its.size<=1000)
   | _=>false)
  | none=>false)
 | _=>false
noncomputable def ai9 (K:aqu) (a:Addr) (D:List (Str×List Int)):Bool:=!(a == sysModules) && (match K.lookup a with
 | some o=>o.cls == .type "dict" && o.dict.isNone && o.slots.isEmpty && (match o.data with
  | .dict es _=>KTD.rowsLook (amr K) es.toList D
  | _=>false)
 | none=>false)
theorem ad0:∀ {vs:List Value} {ns:List Int},IntsAre vs ns->Vals (ns.map V.int) vs
 | _,_,.nil=>.nil
 | _,_,.cons n t h=>.cons ⟨t,rfl⟩ (ad0 h)
theorem aoQ {K:aqu} {ns:List Int} {v:Value} (h:amr K ns v=true):∃ t,v=.ref t/\∀ H,SqT K H t (ns.map V.int):=by
 unfold amr at h;split at h
 ·rename_i t;split at h
  ·rename_i o ho;rw [aqy] at h;obtain⟨h1,h2⟩:=h;split at h2
   ·rename_i its n hd;rw [aqy] at h2;exact⟨t,rfl,fun H=>.inr ⟨o,its,n,ho,beq_iff_eq.mp h1,hd,arE (yd (of_decide_eq_true h2.2)),ad0 (KTD.ints_of_look h2.1)⟩⟩
   ·cases h2
  ·cases h
 ·cases h
def apT (K:aqu) (D:List (Str×List Int)) (tk:TE):TE:=fun σ H Q=>tk σ H fun y H1=>∃ x ns,y=.str x/\auu x D=some ns/\∀ t,(∀ H',SqT K H' t (ns.map V.int))->Q (.ref t) H1
theorem akE {X:Cx} {K:aqu} {x:Str} {a:Addr} {D:List (Str×List Int)} {key:Expr} {tk:TE} {p pos:Pos} (hK:X.K=K) (hg:Gl X x) (hm:X.mg x=some (.ref a)) (hT:ai9 K a D=true) (hk:PE X key tk) (hs:aci key) (hd:(x == ("__debug__":Str))=false:=by decide) :
  PE X (.Subscript (.Name x p) key pos) (apT K D tk):=by
 subst hK;intro pins s σ H Q I h;unfold ai9 at hT;rw [aqy] at hT;obtain⟨h0,hT⟩:=hT;split at hT
 case h_2=>cases hT
 case h_1 o ho =>
  simp only [aqy] at hT;obtain⟨⟨⟨e1,e2⟩,e3⟩,e4⟩:=hT;split at e4
  case h_2=>cases e4
  case h_1 es ep hdat =>
   have rows:KTD.Rows (fun ns v=>amr X.K ns v=true) es.toList D:=KTD.rows_of_look (fun _ _ z=>z) e4;refine Subscript_ (aeh I hg hm ?_ hd);refine thn (hk pins s σ H _ I h) fun u s1 ⟨y,H1,I1,ry,z,ns,ey,dat,q⟩=>?_;subst ey;obtain⟨tk',rfl⟩:=ry;have ho1:s1.heap.get? a=some o:=I1.kIn a o ho;have hT1:s1.TypeIs (.ref a) "dict":=⟨o,ho1,beq_iff_eq.mp e1⟩;obtain⟨v,hv,hr⟩:=rows.find_some dat;obtain⟨t,rfl,sq⟩:=aoQ hr;refine subscriptTail_builtinR (x:=.ref t) hT1 atL.lookup ?_ (hs _ _);unfold getItem
   try with_reducible refine wpAny_holding ?_
   apply wpAny_bind;refine wpAny_sequenceKey hT1 (by decide) ?_;apply wpAny_bind;refine wpAny_callSpecial?_slot (name:=at9 "__getitem__") hT1 slot_dict_getitem (wpAny_call_entry slot_dict_getitem hT1 entry_dict_getitem ?_ (args_dict_getitem _ _));show wpAny _ _ (dictGet a (.str z tk') >>= _) _ _ s1;apply wpAny_bind;unfold dictGet
   try with_reducible refine wpAny_holding ?_
   apply wpAny_bind;apply wpAny_pyHash_str;apply wpAny_bind;refine KTD.kt_dictFind_strs (s:={ s1 with toks:=s1.toks+1 }) ho1 hdat (by obtain⟨l⟩:=es;simpa using rows.exact) ?_;cases hi:es.findIdx? fun e=>e.key.isStr z with
   | none =>
    exfalso;have hn:es.toList.find? (fun e=>e.key.isStr z)=none:=by
     rw [atB];intro e he;have:=Array.findIdx?_eq_none_iff.mp hi e (asQ.mp he);simpa using this
    rw [hn] at hv;cases hv
   | some i =>
    obtain⟨hlt,hi1,hi2⟩:=Array.findIdx?_eq_some_iff_getElem.mp hi;have hval:es[i].val=.ref t:=by
     have hf:es.toList.find? (fun e=>e.key.isStr z)=some es[i]:=by
      rw [List.find?_eq_some_iff_getElem];refine⟨hi1,i,by simpa using hlt,by simp,fun j hj=>?_⟩;have:=hi2 j hj;simpa using this
     rw [hf] at hv;exact Option.some.inj hv
    apply wpAny_bind;refine wpAny_dictEntries (s:={ s1 with toks:=s1.toks+1 }) ho1 hdat (wpAny_pure ?_);rw [arD hlt];refine wpAny_pure ⟨es[i].val,rfl,wpAny_pure ?_⟩;rw [hval];exact⟨rfl,.ref t,H1,I1.tok _,rfl,q t sq⟩
section
variable {K:aqu} {f:Fx} {ρ:zr} {P:PyData->Prop} {tk:TE} {D:List (Str×List Int)}
theorem anJ (h:PEd K f tk ρ fun y=>∃ x ns,y=.str x/\auu x D=some ns/\P (.tuple (ns.map .int))):PEd K f (apT K D tk) ρ P:=fun σ H Q e q =>
 h σ H _ e fun y v H1 g1 r1 ⟨x,ns,ey,hd,p⟩=>by
  subst ey;exact⟨x,ns,rep_str.mp r1,hd,fun t sq=>q _ _ H1 g1 (rep_tuple.mpr ⟨t,ns.map V.int,rfl,sq _,Reps.ints' ns⟩) p⟩
end
structure MinAt (h0:Heap) (its:List Value) (ds:List PyData) (as:List Addr):Prop where
 ra:ReadsAll h0 its ds as
 pl:∀ d∈ds,zA d=true
 cp:∀ d∈ds,∀ e∈ds,v3 d e=true
 dp:∀ d∈ds,d.depth<=50
section
variable {w:World} {K:aqu} {f:Fx} {Ds:List Addr} {ρ:zr} {cs:List OC} {O:MEnds} {tt:TT} {te:TE} {i j n:Nat}
theorem aja {H H' H2:Hp} {σ:St} (se:Sep f Ds) (x:CM w K f Ds H2 ρ cs σ H) (g:Goes f H H'):Goes (f.withs Ds) H H':=by
 have kp:∀ D∈Ds,H' D=H D:=fun D hD=>by
  obtain⟨o,ho⟩:=x.env.fd.mm D (j7 hD);have h1:hide H f D=some o:=zJ (fun z=>z.elim (se.nf D hD) (se.nm D hD)) ho;rw [ho,(zY (g.sm D o h1)).2]
 refine⟨fun b o hb=>?_,⟨fun p e=>?_,fun b hb=>?_,x.env.fd.nm⟩,fun b hb=>?_⟩
 ·obtain⟨n1,n2⟩:=zY hb;have h1:hide H f b=some o:=zJ (fun z=>n1 (z.elim .inl fun z=>.inr (aqP _ z))) n2;exact zJ n1 (zY (g.sm b o h1)).2
 ·exact g.2.fd p e
 ·rcases aqK.mp hb with h | h
  ·rw [kp b (asb.mp h)];exact x.env.fd.mm b hb
  ·exact g.2.mm b h
 ·rcases aqK.mp hb with h | h
  ·exact kp b (asb.mp h)
  ·exact g.kp b h
theorem aeG {B:Bool->Prop} (h:PTd K f tt (ρ.map (freed f.M.length cs)) B):PTm w K f Ds tt ρ cs B:=fun se σ H H2 Q x q =>
 h σ H Q (x.free se) fun b H' g p=>q b H' (aja se x g) p
end
end L2
end
section
namespace L2
open PySem PySem.Spec PyProof.Rows
structure TM (K:aqu) (f:Fx) (a:Addr) (as:List Addr) (H2:Hp) (ρ:zr) (rows:List (List Int)) (σ:St) (H:Hp):Prop where
 env:EnvOk K (f.withs (a :: as)) ρ σ H
 sm:Same (hide H2 (f.withs (a :: as))) (hide H (f.withs (a :: as)))
 kp:∀ b∈f.M,H b=H2 b
 tab:TabAt H a as rows
section
variable {P:Program} {w:World} {A:Around} {E:Value->Shared->Prop} {s:Shared} {I d:Addr} {o:Obj} {es:Array DictEntry} {ep i:Nat}
theorem agO {Q:Value->Shared->Prop} (nd:(d == sysModules)=false) (g:s.heap.get? d=some o) (x:o.ExactDict) (y:o.data=.dict es ep)
  (q:Q (.ref s.heap.objs.size) { s with heap:=s.heap.push { cls:=.type "dict_keyiterator",data:=.fields #[.ref d,.int 0 0,.int es.size 0,.int ep 0] } }):wpAny (model P w) A (pyIter (.ref d)) Q E s:=by
 have T:s.TypeIs (.ref d) "dict":=⟨o,g,x.1⟩;refine wpAny_pyIter_slot T aub (wpAny_call_entry aub T PySem.F.entry_dict_iter ?_ (PySem.F.args_dict_iter_1 _));unfold Builtin.«dict.__iter__» Builtin.Dict.dictSlotNone Builtin.Dict.showsAll;apply wpAny_bind;apply wpAny_bind;apply wpAny_notOrdered_dict T;apply wpAny_pure;apply wpAny_bind;refine wpAny_pure (a:=d) ?_;apply wpAny_bind;rw [if_neg (fun z=>aqt (nd.symm.trans z))];apply wpAny_pure;apply wpAny_bind;apply wpAny_dictEntries g y;apply wpAny_bind;apply wpAny_dictEpoch g y;apply wpAny_bind;refine wpAny_newObj_type ?_ (by size_fits);exact wpAny_pure ⟨_,rfl, "dict_keyiterator",_,⟨_,aq3 _ rfl,rfl⟩,asf.lookup,q⟩
theorem ad1 {Q:Option Value->Shared->Prop} (hh:A.handled=none) (t:s.heap.IsKeyIter I d i es.size ep) (g:s.heap.get? d=some o) (y:o.data=.dict es ep)
  (q1:∀ e h',es[i]?=some e->h'.IsKeyIter I d (i+1) es.size ep->asp I s.heap h'->Q (some e.key) { s with heap:=h' })
  (q2:es[i]?=none->∀ h',Heap.ExtBut I s.heap h'->Q none { s with heap:=h' }):wpAny (model P w) A (pyNext (.ref I)) Q E s:=by
 obtain⟨oi,gi,ci,di⟩:=id t;have T:=t.typeIs;have own:Builtin.Dict_items.ownsTuple "dict_keyiterator"=false:=by decide
 have nn:¬ ((Value.ref d == Value.none)=true):=aqt;have pos:¬ ((i:Int)<0):=by omega
 unfold pyNext;apply wpAny_bind;apply wpAny_attempt;refine wpAny_callSpecial?_slot (name:=at9 "__next__") T asf (wpAny_call_entry asf T PySem.F.entry_dict_keyiterator_next ?_ (PySem.F.args_dict_keyiterator_next_1 _));apply wpAny_bind;apply wpAny_pure;apply wpAny_bind;apply wpAny_bind;apply wpAny_bind;apply wpAny_typeNameOfWhole_keyiter T;apply wpAny_pure;apply wpAny_bind;apply wpAny_fieldsOf gi di;simp only [own,ard,if_false];show wpAny _ _ (if (Value.ref d == Value.none)=true then _ else _) _ _ s;rw [if_neg nn];apply wpAny_bind;apply wpAny_pure;apply wpAny_bind;apply wpAny_dictEntries g y;rw [if_neg (by simp)];apply wpAny_bind;apply wpAny_pure;apply wpAny_bind;apply wpAny_dictEpoch g y;rw [if_neg (by simp)];apply wpAny_pure;cases hx:es[i]? with
 | some e =>
  simp only [pos,if_false,ass,hx];apply wpAny_bind;apply wpAny_bind;apply wpAny_typeNameOfWhole_keyiter T;apply wpAny_pure;apply wpAny_bind;apply wpAny_isOneOf_keyiter T;apply wpAny_bind (m:=setField (.ref I) 1 (rawInt ((i:Int)+1)));refine wpAny_setField gi di (by simp) ?_;have t':(s.heap.update I (Obj.mapFields (·.setIfInBounds 1 (rawInt ((i:Int)+1))))).IsKeyIter I d (i+1) es.size ep:=by
   refine⟨_,asL _ gi (Obj.isFreed_of_fields (Obj.data_mapFields di _)),?_,?_⟩
   ·rw [Obj.cls_mapFields];exact ci
   ·rw [Obj.data_mapFields di];simp [rawInt]
  apply wpAny_bind;apply wpAny_holding;apply wpAny_bind;refine wpAny_isOneOf_keyiter (s:={ s with heap:=s.heap.update I (Obj.mapFields (·.setIfInBounds 1 (rawInt ((i:Int)+1)))) }) t'.typeIs ?_;exact wpAny_pure (wpAny_pure ⟨_,rfl,wpAny_pure (q1 e _ hx t' (as2 ..))⟩)
 | none =>
  simp only [pos,if_false,ass,hx];apply wpAny_bind;apply wpAny_bind;apply wpAny_typeNameOfWhole_keyiter T;apply wpAny_pure;apply wpAny_bind (m:=setField (.ref I) 0 .none);refine wpAny_setField gi di (by simp) ?_;apply wpAny_bind (m:=newExc (.type "StopIteration") []);simp only [newExc,newTuple];apply wpAny_bind;refine wpAny_newObj_type ?_ (by size_fits);apply wpAny_bind (m:=firstArgMember _ _);refine wpAny_of_eq (a:=Value.none) rfl ?_;refine wpAny_newObj_type ?_ (by size_fits);simp only [raiseNew];apply wpAny_bind;apply wpAny_handled;rw [show A.in1.handled=none from hh];refine wpAny_bind (wpAny_pure ?_);apply wpAny_throw;apply wpAny_bind;refine wpAny_isInstance (T:="StopIteration") (b:=true) ⟨_,aq3 _ rfl,rfl⟩ isSubtype_stop ?_;exact wpAny_pure (q2 hx _ (((as2 ..).extBut.push _).push _))
end
section
variable {P:Program} {w:World} {A:Around} {E:Value->Shared->Prop} {s:Shared} {d:Addr} {o:Obj} {es:Array DictEntry} {ep:Nat}
theorem ajb (hh:A.handled=none) (I:Addr) (ne:d≠I) (y:o.data=.dict es ep) :
  Walks P w A I [I,d] [I] es.size (fun i v=>∃ e,es[i]?=some e/\v=e.key) (fun i h=>h.IsKeyIter I d i es.size ep/\h.get? d=some o) where
 sub:=fun b hb=>by rw [aqF.mp hb];exact aqv ..
 frame:=fun i h h' ⟨t,g⟩ k=>⟨t.at (k I (aqv ..)),k d (aqw _ (aqv ..)) o g⟩
 item:=fun i s Q E hi ⟨t,g⟩ q=>ad1 hh t g y (fun e h' he t' sb=>q e.key h' s.toks ⟨e,he,rfl⟩ ⟨t',(sb.2 d ne).trans g⟩ fun b u hb hu=>(sb.2 b fun z=>hb (by rw [z];exact aqv ..)).trans hu) fun z=>by
  rw [arD hi] at z;cases z
 done:=fun s Q E ⟨t,g⟩ q=>ad1 hh t g y (fun e h' he=>by
  rw [ar6 (aqC _)] at he;cases he) fun _ h' eb=>q h' s.toks fun b u hb hu=>eb b u (fun z=>hb (by rw [z];exact aqv ..)) hu
 self:=fun i s Q E st q=>wpAny_pyIter_keyiter st.1 q
theorem afO (nd:(d == sysModules)=false) (x:o.ExactDict) (y:o.data=.dict es ep):PySem.W.KdlSrc P w "dict" d d es.size (fun i v=>∃ e,es[i]?=some e/\v=e.key) (fun h=>h.get? d=some o) where
 type:=fun s g=>⟨o,g,x.1⟩
 there:=fun h g=>⟨aqI g,aqI g⟩
 keep:=fun h h' g k=>k d (.inl rfl) o g
 notList:=rfl
 notTuple:=rfl
 hint:=fun A E s Q g q=>PySem.W.kdl_hint_dict ⟨o,g,x.1⟩ q
 iter:=fun A s hh g=>⟨_,_,fun E Q q=>agO nd g x y q,ajb hh _ (aq5 (aqI g)) y,⟨_,aq3 _ rfl,rfl,rfl⟩,aqD _ g⟩
theorem acg {vs:List Value} {κ:SortKind} {lt:Nat->Nat->Bool} {Q:Value->Shared->Prop} (hh:A.handled=none) (nd:(d == sysModules)=false) (g:s.heap.get? d=some o) (x:o.ExactDict) (y:o.data=.dict es ep) (ev:vs=es.toList.map (·.key)) (hz:vs.length<=sizeLine)
  (K:∀ tk,Asks P w A.in1.in1 { s with toks:=tk } κ vs lt)
  (q:∀ (h':Heap) tk D p c,Pm vs.length p->Up lt p vs.length->(∃ h1:Heap,(∀ b u,s.heap.get? b=some u->h1.get? b=some u)/\h1.objs.size<=D)->(∀ b u,s.heap.get? b=some u->h'.get? b=some u)->h'.get? D=some (seqObj "list" (p.toList.map fun i=>vs.getD i Value.none).toArray c)->Q (.ref D) { s with heap:=h',toks:=tk }) :
  wpAny (model P w) A (call (.builtin "sorted") [.ref d]) Q E s:=by
 have hn:es.size<=sizeLine:=by rw [ev,aqr,aqN] at hz;exact hz
 refine atJ kind_sorted plain_sorted entry_sorted (args_sorted1 _) ?_;unfold Builtin.«sorted»;apply wpAny_bind (m:=checkCount "sorted" 1 1 _);apply wpAny_pure;apply wpAny_bind;refine PySem.W.kdu_collect (A:=A.in1) (afO nd x y) hh g hn fun h1 tk acc k1 hacc=>?_;have ea:acc.toList=vs:=by
  rw [ev];refine arV fun i=>?_;rw [aqA,arO,arO];by_cases hi:i<acc.size
  ·obtain⟨e,he,hv⟩:=hacc.2 i _ (arD hi);rw [arD hi,he,hv];rfl
  ·rw [ar6 (by omega),ar6 (by rw [<-hacc.1];omega)];rfl
 rw [ea]
 let h2':=h1.push (seqObj "list" vs.toArray 0)
 have at2:h2'.get? h1.objs.size=some (seqObj "list" vs.toArray 0):=aq3 _ rfl;have keep:∀ b u,s.heap.get? b=some u->b≠h1.objs.size/\h2'.get? b=some u:=fun b u eb =>
  ⟨aq5 (aqI (k1 b u eb)),aqD _ (k1 b u eb)⟩
 apply wpAny_bind;refine wpAny_newList ?_ hz
 change wpAny _ _ _ _ _ { s with heap:=h2',toks:=tk }
 apply wpAny_bind;apply wpAny_holding;refine wpAny_call_entry slot_list_sort ⟨_,at2,rfl⟩ entry_list_sort ?_ (args_list_sort _);refine ahM (s:={ s with heap:=h2',toks:=tk }) hz at2 (h0:=s.heap) keep (K tk) fun h' p c x1 x2 x3 x4=>⟨_,rfl,wpAny_pure ⟨_,rfl,?_⟩⟩;exact q h' tk _ p c x1 x2 ⟨h1,k1,aqC _⟩ (fun b u eb=>x3 b u (keep b u eb).1 (keep b u eb).2) x4
end
def agP (w:World) (K:aqu):List V->Hp->VK->Prop:=fun xs H Q=>∃ (a:Addr) (es:List (PyData×Addr×Value)) (T:String),xs=[.ref a]/\H a=some (DicO w a es)/\aaW K H es/\SortOk T (es.map (·.1))/\es.length<64 /\
 ∀ l p,H l=none->Pm es.length p->Up (fun i j=>ltD ((es.map (·.1)).getD i .none) ((es.map (·.1)).getD j .none)) p es.length->Q (.ref l) (upd H l (.lst (pick .non p (es.map fun x=>.ref x.2.1))))
theorem aao {K:aqu} {H:Hp}:∀ {es:List (PyData×Addr×Value)},aaW K H es->Reps K H (es.map (·.1)) (es.map fun x=>V.ref x.2.1)
 | [],_=>.nil'
 | x :: es,h=>.cons' (h x (aqv ..)).2 (aao fun z hz=>h z (aqw _ hz))
theorem aap:∀ es:List (PyData×Addr×Value),Vals (es.map fun x=>V.ref x.2.1) (es.map fun x=>Value.ref x.2.1)
 | []=>.nil
 | x :: es=>.cons rfl (aap es)
theorem agQ {X:Cx} (hc:X.calm=true) (hu:X.A.units+64<cLine):yC X (.builtin "sorted") (agP X.w X.K):=by
 intro pins s σ H xs us Q I r h;obtain⟨a,es,T,rfl,hS,ks,ok,few,q⟩:=h;obtain⟨u,rfl,rx⟩:=vals1 r;cases rx;obtain⟨⟨o,es',ep,S⟩,_⟩:=I.hok a _ hS;obtain⟨as,ra⟩:=jD I _ _ _ (aao ks) (aap es);have e2:X.A.in1.in1.units=X.A.units+1+1:=rfl;have ev:(es.map fun x=>Value.ref x.2.1)=es'.toList.map (·.key):=by
  rw [S.el,arR];rfl
 have lm:(es.map fun x=>Value.ref x.2.1).length=es.length:=aqr _;have lm2:(es.map (·.1)).length=es.length:=aqr _;refine acg (I.ok.hd hc) S.ns S.ob S.ex S.da ev (by rw [lm];exact arE (yd (by omega))) (fun tk=>ahS (s:={ s with toks:=tk }) ra ok (by omega) (.inl (by rw [lm2];exact few))) fun h' tk D p c x1 x2 x3 x4 x5=>?_;rw [lm] at x1 x2;obtain⟨h1,k1,l1⟩:=x3;have hD:H D=none:=(I.hok.kept k1).fresh l1;have x3:∀ b u,s.heap.get? b=some u->b≠D:=fun b u e=>aq5 (aq4 (aqI (k1 b u e)) l1);have lp:p.toList.length=es.length:=by rw [aqN];exact x1.size
 obtain⟨m,hm,_⟩:=I.loc;refine⟨.ref D,upd H D (.lst (pick .non p (es.map fun x=>.ref x.2.1))),I.laidL (t':=tk) (fun b u _ e=>x4 b u e) ?_ (fun m hm=>hm.keeps x4) x3 hD ⟨by unfold pick;rw [aqr];exact arE (yd (by omega)),_,c,adU (aap es) p,x5⟩,rfl,q D p hD x1 x2⟩;obtain⟨o2,g2⟩:∃ o2,s.heap.get? X.env.locals=some o2:=let⟨u,_,_,hu,_⟩:=hm;⟨u,hu⟩
 exact⟨o2,x4 _ _ g2⟩
theorem afP {X:Cx} {K:aqu} {w:World} (hc:X.calm=true) (hw:X.w=w) (hK:X.K=K) (hu:X.A.units+64<cLine):yC X (.builtin "sorted") (agP w K):=hw▸hK▸agQ hc hu
def anK (w:World) (K:aqu) (tk tv:TE):TE:=fun σ H Q=>∀ p,H p=none->tk σ (upd H p (DicO w p [])) fun kx H1=>tv σ H1 fun vx H2=>abd w K (.ref p) kx vx H2 fun H3=>Q (.ref p) H3
theorem afQ {X:Cx} (hu:X.A.units+64<cLine):OpR X (compareOp .NotIn) (agM X.w X.K true):=by
 intro pins s σ H x y v u Q I rx ry h;obtain⟨a,b,d,xs,rfl,rfl,hS,ks,kd,rd,q⟩:=h;cases rx;cases ry;obtain⟨hm,ns⟩:=ac5 I hS ks;have hu1:X.A.in1.units=X.A.units+1:=rfl;exact wpAny_notIn_heap (by show _+40<cLine;omega) (qZ I kd rd) ns hm ⟨.bl _,H,I.tok _,rfl,q⟩
theorem aeH {X:Cx} {K:aqu} {w:World} (hw:X.w=w) (hK:X.K=K) (hu:X.A.units+64<cLine):OpR X (compareOp .NotIn) (agM w K true):=hw▸hK▸afQ hu
theorem ams {X:Cx} {w:World} {K:aqu} {pos:Pos} {k v:Expr} {tk tv:TE} (hw:X.w=w) (hK:X.K=K) (hu:X.A.units+64<cLine) (hk:PE X k tk) (hv:PE X v tv):PE X (.Dict [some k] [v] pos) (anK w K tk tv):=by
 subst hw hK;intro pins s σ H Q I h;refine wpAny_Dict_any rfl rfl (by simp) (aqB rfl) ?_;have I0:=I.laid (a:=s.heap.objs.size) (t':=s.toks) (fun _ _ q=>aqD _ q) (aqC _) (DicO.ok (xs:=[]) (o:={ cls:=.type "dict",data:=.dict #[] }) (es:=#[]) (ep:=0) ⟨aq3 _ rfl,⟨rfl,rfl,rfl⟩,rfl,rfl,arv,beq_eq_false_iff_ne.mpr (arU (aq5 (aeE I)))⟩);refine pairTrees_cons_walk (thn (hk pins _ σ _ _ I0 (h _ (I.hok.fresh (aqC _)))) fun kv s1 ⟨kx,H1,I1,r1,q1⟩=>?_);refine thn (hv pins s1 σ H1 _ I1 q1) fun vv s2 ⟨vx,H2,I2,r2,q2⟩=>?_;refine pairTrees_nil_walk ?_;obtain⟨a,b,d,xs,ea,rfl,hS,ks,kd,rd,hl,q⟩:=q2;cases ea;cases r1;obtain⟨hm,ns⟩:=ac5 I2 hS ks;unfold storeAll;rw [asJ];refine wpAny_bind (wpAny_bind (wpAny_dictSet_heap (by show _+40<cLine;omega) (qZ I2 kd rd) hm (fun h' hm' sb=>?_) (arE (yd hl))));refine wpAny_pure ?_;show wpAny _ _ (forIn [] _ _) _ _ _;rw [asS];refine wpAny_pure ?_;obtain⟨o',es',ep',x1,x2,x3,x4,x5,x6⟩:=hm';exact⟨.ref _,_,I2.write (t':=s2.toks+yg d) (x:=s.heap.objs.size) (e:=s.heap.objs.size) (by rw [hS];exact trivial) (.inl rfl) (fun b u nb e=>(sb.2 b nb).trans e) ⟨o',x1⟩ (DicO.ok ⟨x1,x2,x3,x4,x6,ns⟩),rfl,q _ r2⟩
section
variable {w:World} {K:aqu} {f:Fx} {Ds:List Addr} {ρ:zr} {cs:List OC} {te tk tv:TE} {O:MEnds} {i j n:Nat} {kvs:List (PyData×PyData)}
theorem apU {es:List PyData} {d:PyData} (hi:ρ[i]?=some (some (.own (f.M.length+j)))) (hc:cs[j]?=some (.lst (es++[d]))) (h:O.nx (ρ.set n (some (.dat d))) (cs.set j (.lst es))):PSm w K f Ds (qA (apI K "list" apJ (zR i)) (yX n)) ρ cs O:=fun se σ H H2 E x nn r b k=>by
 have hj:j<Ds.length:=by rw [<-x.len];exact (aqs.mp hc).1
 have hD:Ds[j]?=some Ds[j]:=aqq hj;obtain⟨vs,h0,rs⟩:=x.own j _ _ hD hc;obtain⟨vs',v,rfl,rs',rv⟩:∃ vs' v,vs=vs'++[v]/\Reps K (hide H (f.withs Ds)) es vs'/\Rep K (hide H (f.withs Ds)) d v:=by
  have key:∀ (es:List PyData) (vs:List V),Reps K (hide H (f.withs Ds)) (es++[d]) vs->∃ vs' v,vs=vs'++[v]/\Reps K (hide H (f.withs Ds)) es vs'/\Rep K (hide H (f.withs Ds)) d v:=fun es=>by
   induction es with
   | nil =>
    intro vs q;obtain⟨v,vs',rfl,r1,r2⟩:=reps_cons.mp q;rw [reps_nil.mp r2];exact⟨[],v,rfl,.nil',r1⟩
   | cons e es ih =>
    intro vs q;obtain⟨v,vs',rfl,r1,r2⟩:=reps_cons.mp q;obtain⟨us,z,rfl,r3,r4⟩:=ih vs' r2;exact⟨v :: us,z,rfl,.cons' r1 r3,r4⟩
  exact key es vs rs
 refine⟨_,jh hi x hD,Or.inl ⟨rfl,_,.of h0⟩,Ds[j],vs'++[v],v,rfl,rfl,h0,by simp,?_⟩;rw [List.dropLast_concat];have x1:=x.put se hD (o:=.lst vs') (c':=.lst es) ⟨vs',zB,rs'⟩;have hm:=aqz hD;refine nn _ _ _ _ ⟨x1.env.set n (x:=.dat d) ?_,x1.sm,x1.kp,x1.len,x1.own⟩ h;show Rep K (hide (upd H Ds[j] (.lst vs')) (f.withs Ds)) d v;rw [yH hm];exact rv
theorem amt {neg:Bool} {B:Bool->Prop} (hi:ρ[i]?=some (some (.own (f.M.length+j)))) (hc:cs[j]?=some (.dic kvs)) (h:PEm w K f Ds te ρ cs fun d=>acf d/\B (if neg then !decide (d∈kvs.map (·.1)) else decide (d∈kvs.map (·.1)))) :
  PTm w K f Ds (adD (tOp (agM w K neg) te (zR i))) ρ cs B:=fun se σ H H2 Q x q=>by
 have hj:j<Ds.length:=by rw [<-x.len];exact (aqs.mp hc).1
 have hD:Ds[j]?=some Ds[j]:=aqq hj;refine h se σ H H2 _ x fun d v H1 g1 r1 ⟨kd,p⟩=>?_;have x1:=x.go g1 (x.env.mono g1);obtain⟨b,rfl⟩:=qI kd r1;obtain⟨xs,h1,h2⟩:=x1.own j _ _ hD hc;refine⟨_,jh hi x1 hD,Ds[j],b,d,xs,rfl,rfl,h1,fun z hz=>⟨(yI h2 z hz).1,Rep.mono (zm _ _) _ _ (yI h2 z hz).2⟩,kd.1,Rep.mono (zm _ _) _ _ r1,_,rfl,?_⟩;have:(atKey xs d).isSome=decide (d∈kvs.map (·.1)):=by
  rcases abf d h2 with⟨a1,_,a3⟩ | ⟨p',_,_,a1,_,_,_,a3⟩
  ·rw [a1,decide_eq_false a3];rfl
  ·rw [a1,decide_eq_true a3];rfl
 rw [this];exact q _ H1 g1 p
theorem amu {P:OC->Prop} (h:∀ p,PEd K (f.with p) tk ρ fun k=>acf k/\PEd K (f.with p) tv ρ fun v=>P (.dic [(k,v)])):ac1 w K f (anK w K tk tv) ρ P:=fun σ H Q e q p hp=>by
 have np:=fresh_ne e.fd hp;have e0:EnvOk K (f.with p) ρ σ (upd H p (DicO w p [])):=agD e hp;have top:(upd H p (DicO w p [])) p=some (DicO w p []):=zB;refine h p σ _ _ e0 fun k kx H1 g1 r1 ⟨kt,h2⟩=>h2 σ H1 _ (e0.mono g1) fun v vx H2 g2 r2 pv=>?_;obtain⟨b,rfl⟩:=qI kt r1;have g12:=g1.trans g2;have hp2:H2 p=some (DicO w p []):=(g12.kp p (aqv ..)).trans top;have rk:=Rep.mono g2.sm _ _ r1;refine⟨p,b,k,[],rfl,rfl,hp2,(fun z hz=>nomatch hz),kt.1,Rep.mono (zm _ _) _ _ rk,aq2 _,fun u ru=>?_⟩;have hw:hide (upd H2 p (DicO w p (storedH [] k b u))) (f.with p)=hide H2 (f.with p):=yr;have fo:FOk f (upd H2 p (DicO w p (storedH [] k b u))):=by
  have fo2:=g12.ok;refine⟨fun c ec=>?_,fun c hc=>?_,fun c ec hc=>fo2.nm c ec (aqw _ hc)⟩
  ·obtain⟨a1,a2,a3,a4⟩:=fo2.fd c ec;exact⟨a1,a2,by rw [zx (fun (z:c=p)=>np (.inl (z▸ec)))];exact a3,a4⟩
  ·obtain⟨o,ho⟩:=fo2.mm c (aqw _ hc);exact⟨o,by rw [zx (fun (z:c=p)=>np (.inr (z▸hc)))];exact ho⟩
 have sm:Same (hide H f) (hide (upd H2 p (DicO w p (storedH [] k b u))) (f.with p)):=by
  rw [hw];exact (jN hp).trans g12.sm
 refine q (.dic [(k,v)]) p _ ⟨sm.trans same_with,fo,fun c hc=>?_⟩ hp ⟨_,zB,?_⟩ pv
 ·have ncp:c≠p:=fun z=>np (.inr (z▸hc));rw [zx ncp,g12.kp c (aqw _ hc),zx ncp]
 ·rw [hw];exact aeF (xs:=[]) (kvs:=[]) kt.1 rk r2 ru .nil
abbrev aoR (K:aqu):List V->Hp->VK->Prop:=fun xs H Q=>∃ p ys,xs=[V.ref p]/\((SqL K H p ys/\∀ l,H l=none->Q (V.ref l) (upd H l (HO.tup ys))) \/ (SqT K H p ys/\Q (V.ref p) H))
theorem aoS {P:PyData->Prop} (T:String) (hi:ρ[i]?=some (some (.own (f.M.length+j)))) (hc:cs[j]?=some (.dic kvs)) (ok:SortOk T (kvs.map (·.1))) (few:kvs.length<64) (h:∀ es,es.Perm (kvs.map (·.1))->(es.Pairwise fun d e=>ltD d e=true)->P (.tuple es)) :
  PEm w K f Ds (tCB (aoR K) (zN (tCB (agP w K) (zN (zR i) yY)) yY)) ρ cs P:=fun se σ H H2 Q x q=>by
 have hj:j<Ds.length:=by rw [<-x.len];exact (aqs.mp hc).1
 have hD:Ds[j]?=some Ds[j]:=aqq hj;obtain⟨xs,h1,h2⟩:=x.own j _ _ hD hc;have ek:xs.map (·.1)=kvs.map (·.1):=by
  have key:∀ {xs:List (PyData×Addr×Value)} {kvs:List (PyData×PyData)},Paired (EntR K (hide H (f.withs Ds))) xs kvs->xs.map (·.1)=kvs.map (·.1):=fun {xs kvs} t=>by
   induction t with
   | nil=>rfl
   | cons a _ ih=>rw [aqQ,aqQ,ih,a.1]
  exact key h2
 have el:=abe h2;have ko:=yI h2;refine⟨_,jh hi x hD,Ds[j],xs,T,rfl,h1,fun z hz=>⟨(ko z hz).1,Rep.mono (zm _ _) _ _ (ko z hz).2⟩,by rw [ek];exact ok,by rw [el];exact few,fun l p hl pm up=>?_⟩;have nl:=fresh_ne x.env.fd hl;have g1:Goes (f.withs Ds) H (upd H l (.lst (pick .non p (xs.map fun z=>.ref z.2.1)))):=.of_same (yj hl _) x.env.fd;refine⟨l,_,rfl,.inl ⟨.inl (.inl zB),fun l2 hl2=>?_⟩⟩;have g2:Goes (f.withs Ds) (upd H l (.lst (pick .non p (xs.map fun z=>.ref z.2.1)))) (upd (upd H l (.lst (pick .non p (xs.map fun z=>.ref z.2.1)))) l2 (.tup (pick .non p (xs.map fun z=>.ref z.2.1)))):=.of_same (yj hl2 _) g1.ok;have rr:Reps K (hide H (f.withs Ds)) (pick .none p (xs.map (·.1))) (pick .non p (xs.map fun z=>.ref z.2.1)):=adV (aao ko) p;have pr:(pick .none p (xs.map (·.1))).Perm (xs.map (·.1)):=adW pm (by rw [aqr]);have pu:=ahV (ds:=xs.map (·.1)) pm (fun a b hab hb=>up a b hab hb);refine q (.tuple (pick .none p (xs.map (·.1)))) _ _ (g1.trans g2) (rep_tuple.mpr ⟨l2,_,rfl,.of (zJ (fresh_ne g1.ok hl2) zB),Reps.mono (g1.trans g2).sm _ _ rr⟩) (h _ ?_ pu);rw [<-ek];exact pr
end
section
variable {K:aqu} {f:Fx} {ρ:zr} {ts tu:TS} {O:DEnds} {te:TE} {i:Nat}
theorem abg (J:zr->Prop) (h1:PSd K f ts ρ { O with nx:=J }) (h2:∀ ρ',J ρ'->PSd K f tu ρ' O):PSd K f (vZ ts tu) ρ O :=
 yq fun σ H E e n r b k=>h1 σ H E e (fun ρ' σ' H' g' e' p=>n ρ' σ' H' g' e' (h2 ρ' p)) r b k
theorem aib {w:World} {Ds:List Addr} {cs:List OC} {O:MEnds} (J:zr->List OC->Prop) (h1:PSm w K f Ds ts ρ cs { O with nx:=J }) (h2:∀ ρ' cs',J ρ' cs'->PSm w K f Ds tu ρ' cs' O):PSm w K f Ds (vZ ts tu) ρ cs O :=
 yD fun se σ H H2 E x n r b k=>h1 se σ H H2 E x (fun ρ' cs' σ' H' x' p=>n ρ' cs' σ' H' x' (h2 ρ' cs' p)) r b k
end
section
variable {K:aqu} {f:Fx} {ρ:zr} {wi:TI} {g:TG} {tt:TT} {own:Nat} {fr:List Nat} {tb:Addr->TB} {P:List PyData->Prop}
theorem vF {α:Type} {A B:α->PyData} (p:α->Bool) (xs:List α) (h:PId K f wi ρ fun ds=>ds=xs.map A/\xs.length<=1000 /\
   (∀ D x ρ' es,x∈xs->OwnE own (frD fr ρ) ρ'->es.length<1000->PGd K (f.with D) g (A x) ρ' fun ρ2=>PTd K (f.with D) tt ρ2 fun b=>b=p x/\if b=true then PBd K f D (tb D) ρ2 es fun ρ3 es3=>OwnE own (frD fr ρ) ρ3/\es3=es++[B x] else OwnE own (frD fr ρ) ρ2)/\P ((xs.filter p).map B)) :
  PEdO K f (jC wi own fr g tt tb) ρ P :=
 qW (h.imp fun ds ⟨ed,hl,hs,hp⟩=>by
  subst ed;refine⟨fun i ρ' es=>OwnE own (frD fr ρ) ρ'/\es=((xs.take i).filter p).map B,⟨⟨arZ own none,by simp,rfl⟩,by simp⟩,fun D i d ρ' es hd ⟨ho,he⟩=>?_,fun ρ' es ⟨_,he⟩=>?_⟩
  ·rw [aqA] at hd;cases eq:xs[i]? with
   | none=>rw [eq] at hd;cases hd
   | some x =>
    rw [eq] at hd;cases hd;have hi:i<xs.length:=(aqs.mp eq).1;have tk:xs.take (i+1)=xs.take i++[x]:=by rw [arh,eq];rfl
    have hb:es.length<1000:=by
     have:=aq8 p (xs.take i);rw [arf] at this;rw [he,aqr];omega
    intro σ H v Q e r q;refine hs D x ρ' es (aqz eq) ho hb σ H v Q e r fun ρ2 σ2 H2 g2 e2 p2=>q ρ2 σ2 H2 g2 e2 (p2.imp fun b hb2=>?_);obtain⟨eb,hb2⟩:=hb2;cases b with
    | false =>
     rw [if_neg aqt] at hb2 ⊢;refine⟨hb2,?_⟩;rw [tk,arl,aqO,aq9,<- eb,if_neg aqt,he];simp
    | true =>
     rw [if_pos rfl] at hb2 ⊢;intro h1 h2 σ3 H3 H4 W c k;exact hb2 h1 h2 σ3 H3 H4 W c fun ρ5 es5 σ5 H5 c5 ⟨o5,p5⟩=>k ρ5 es5 σ5 H5 c5 ⟨o5,by rw [p5,he,tk,arl,aqO,aq9,<- eb,if_pos rfl];rfl⟩
  ·rw [he,aqr,aq6];exact hp)
end
def agR (w:World) (K:aqu):List V->Hp->VK->Prop:=fun xs H Q=>∃ (a:Addr) (es:List (PyData×Addr×Value)),xs=[.ref a]/\H a=some (DicO w a es)/\es.length<=1000/\∀ l,H l=none->Q (.ref l) (upd H l (.lst (es.map fun x=>.ref x.2.1)))
theorem agS {X:Cx} (hc:X.calm=true):yC X (.type "list") (agR X.w X.K):=by
 intro pins s σ H xs us Q I r h;obtain⟨a,es,rfl,hS,hl,q⟩:=h;obtain⟨u,rfl,rx⟩:=vals1 r;cases rx;obtain⟨⟨o,es',ep,S⟩,_⟩:=I.hok a _ hS;have sz:es'.size=es.length:=by rw [<-aqN,S.el,aqr]
 refine PySem.W.kdl_call (afO S.ns S.ex S.da) (I.ok.hd hc) S.ob (by rw [sz];exact arE (yd hl)) fun h' tk acc c k1 g1 hacc=>?_;have ea:acc.toList=es.map fun x=>Value.ref x.2.1:=by
  have e2:(es.map fun x=>Value.ref x.2.1)=es'.toList.map (·.key):=by rw [S.el,arR];rfl
  rw [e2];refine arV fun i=>?_;rw [aqA,arO,arO];by_cases hi:i<acc.size
  ·obtain⟨e,he,hv⟩:=hacc.2 i _ (arD hi);rw [arD hi,he,hv];rfl
  ·rw [ar6 (by omega),ar6 (by rw [<-hacc.1];omega)];rfl
 have hn:=I.hok.fresh (aqC s.heap.objs.size);refine⟨.ref _,_,I.laid (t':=tk) (a:=s.heap.objs.size) (o:=.lst (es.map fun x=>.ref x.2.1)) k1 (aqC _) ⟨by rw [aqr];exact arE (yd hl),_,c,aap es,?_⟩,rfl,q _ hn⟩;rw [g1,<- ea]
theorem afR {X:Cx} {K:aqu} {w:World} (hc:X.calm=true) (hw:X.w=w) (hK:X.K=K):yC X (.type "list") (agR w K):=hw▸hK▸agS hc
def jQ (w:World) (K:aqu) (kvs:List (PyData×PyData)):Hp->V->Prop:=fun Hh v=>∃ a xs,v=.ref a/\Hh a=some (DicO w a xs)/\Paired (EntR K Hh) xs kvs
def PEv (K:aqu) (f:Fx) (te:TE) (ρ:zr) (P:DV->Prop):Prop:=∀ (σ:St) (H:Hp) (Q:VK),EnvOk K f ρ σ H->(∀ x v H',Goes f H H'->RepV K f H' x v->P x->Q v H')->te σ H Q
def spV {γ:Type} (K:aqu) (n:Nat) (pre:γ->List DV->Prop) (post:γ->DV->Prop):Sp:=fun vs H Q _=>∃ f xs c,RepVs K f H xs vs/\xs.length=n/\FOk f H/\pre c xs/\∀ r v H',Goes f H H'->RepV K f H' r v->post c r->Q v H'
def PSv (K:aqu) (f:Fx) (ts:TS) (ρ:zr) (R:DV->Prop):Prop:=∀ (σ:St) (H:Hp) (E:Ends),EnvOk K f ρ σ H->(∀ x v H',Goes f H H'->RepV K f H' x v->R x->E.rt v H')->ts E σ H
def amv (w:World) (K:aqu) (f:Fx) (Ds:List Addr) (ts:TS) (ρ:zr) (cs:List OC) (j:Nat) (R:OC->Prop):Prop:=Sep f Ds->∀ (σ:St) (H H2:Hp) (E:Ends),CM w K f Ds H2 ρ cs σ H ->
 (∀ D c ρ' cs' σ' H',CM w K f Ds H2 ρ' cs' σ' H'->Ds[j]?=some D->cs'[j]?=some c->R c->E.rt (.ref D) H')->ts E σ H
section
variable {w:World} {K:aqu} {f:Fx} {ρ:zr} {Ds:List Addr} {cs:List OC} {te ta tk:TE} {ts tu:TS} {t:TA} {O:DEnds} {i j:Nat} {R:OC->Prop}
theorem v_var {P:DV->Prop} {x:DV} (h:ρ[i]?=some (some x)) (p:P x):PEv K f (zR i) ρ P:=fun σ H Q e q=>by
 obtain⟨v,h1,h2⟩:=e.get i x h;exact⟨v,h1,q x v H (.refl e.fd) h2 p⟩
theorem agT {P:DV->Prop} {γ:Type} {n:Nat} {pre:γ->List DV->Prop} {post:γ->DV->Prop} {E:XK} (c:γ) (h:PAd K f t ρ fun xs=>xs.length=n/\pre c xs/\∀ r,post c r->P r):PEv K f (acH (spV K n pre post) [] E t) ρ P:=fun σ H Q e q =>
 h σ H _ e fun xs vs H1 g1 r1 ⟨hl,hp,k⟩=>⟨f,xs,c,by rw [arc];exact r1,hl,g1.2,hp,fun r v H' g' r' p'=>q r v H' (g1.trans g') r' (k r p')⟩
theorem agU (h:PEv K f te ρ fun x=>O.nx (ρ.set i (some x))):PSd K f (qA te (yX i)) ρ O:=fun σ H E e n r b k =>
 h σ H _ e fun x v H1 g1 r1 p=>n _ _ H1 g1 ((e.mono g1).set i (x:=x) r1) p
theorem afS {R:List DV->Prop} {u:TA} (h:PEv K f te ρ fun x=>PAd K f u ρ fun xs=>R (x :: xs)):PAd K f (zN te u) ρ R:=fun σ H Q e q =>
 h σ H _ e fun x v H1 g1 r1 p=>p σ H1 _ (e.mono g1) fun xs vs H2 g2 r2 p2=>q (x :: xs) (v :: vs) H2 (g1.trans g2) (.cons (RepV.mono g2 r1) r2) p2
theorem ab9 {P:PyData->Prop} (h:PEv K f ta ρ fun x=>∃ kvs,x=.mon (jQ w K kvs)/\PEd K f tk ρ fun k=>acf k/\∃ d,jm k kvs=some d/\P d):PEd K f (tOp (abR w K) ta tk) ρ P:=fun σ H Q e q =>
 h σ H _ e fun x v H1 g1 r1 ⟨kvs,ex,h2⟩=>h2 σ H1 _ (e.mono g1) fun k kv H2 g2 r2 ⟨kt,d,hd,p⟩=>by
  subst ex;obtain⟨b,rfl⟩:=qI kt r2;obtain⟨a,xs,rfl,h3,h4⟩:=(RepV.mono g2 r1:RepV K f H2 (.mon (jQ w K kvs)) v) (hide H2 f) (Same.refl _);rcases abf k h4 with⟨_,a2,_⟩ | ⟨p',d',v',a1,a2,a3,a4,_⟩
  ·rw [hd] at a2;cases a2
  ·rw [hd] at a2;cases a2;exact⟨a,b,k,xs,p',v',rfl,rfl,(zY h3).2,fun z hz=>⟨(yI h4 z hz).1,Rep.mono (zm _ _) _ _ (yI h4 z hz).2⟩,kt.1,Rep.mono (zm _ _) _ _ r2,a1,a4,q d v' H2 (g1.trans g2) a3 p⟩
theorem anL {R:DV->Prop} (h:PSd K f ts ρ { nx:=fun ρ'=>PSv K f tu ρ' R,rt:=fun _=>False }):PSv K f (vZ ts tu) ρ R:=fun σ H E e q =>
 h σ H _ e (fun ρ' σ' H' g' e' p=>p σ' H' E e' fun x v H2 g2=>q x v H2 (g'.trans g2)) (fun _ _ _ _ _ z=>z.elim) (fun _ _ _ _ _ z=>z.elim) (fun _ _ _ _ _ z=>z.elim)
theorem aoT (h:PSm w K f Ds ts ρ cs { nx:=fun ρ' cs'=>amv w K f Ds tu ρ' cs' j R,rt:=fun _=>False }):amv w K f Ds (vZ ts tu) ρ cs j R:=fun se σ H H2 E x q =>
 h se σ H H2 _ x (fun ρ' cs' σ' H' x' p=>p se σ' H' H2 E x' q) (fun _ _ _ _ _ _ _ _ z=>z.elim) (fun _ _ _ _ _ z=>z.elim) (fun _ _ _ _ _ z=>z.elim)
theorem aoU {c:OC} (hi:ρ[i]?=some (some (.own (f.M.length+j)))) (hc:cs[j]?=some c) (h:R c):amv w K f Ds (adq (zR i)) ρ cs j R:=fun se σ H H2 E x q=>by
 have hj:j<Ds.length:=by rw [<-x.len];exact (aqs.mp hc).1
 have hD:Ds[j]?=some Ds[j]:=aqq hj;exact⟨_,jh hi x hD,q _ c ρ cs σ H x hD hc h⟩
theorem aoV {R:DV->Prop} (h:ac1 w K f te ρ fun c=>i<ρ.length/\∀ D,amv w K f [D] ts (ρ.set i (some (.own (f.M.length+0)))) [c] 0 fun c=>∃ kvs,c=.dic kvs/\R (.mon (jQ w K kvs))):PSv K f (vZ (qA te (yX i)) ts) ρ R:=fun σ H E e q=>by
 have se0:Sep f []:=⟨arv,(fun _ z=>nomatch z),(fun _ z=>nomatch z)⟩;have x0:CM w K f [] H ρ [] σ H:=⟨e,Same.refl _,fun _ _=>rfl,rfl,(fun i D c z=>nomatch z)⟩;refine h σ H _ e fun c D H1 g1 hn ho ⟨hi,p⟩=>?_;have nD:=fresh_ne e.fd hn;refine p D (se0.more e.fd hn) _ H1 H1 E (x0.more g1 hn ho hi) fun D' c' ρ' cs' σ' H' y h1 h2 ⟨kvs,ec,r⟩=>?_;cases h1;subst ec;have z:=x0.less g1 hn y;obtain⟨xs,h3,h4⟩:=y.own 0 D _ rfl h2;exact q (.mon (jQ w K kvs)) _ H' ⟨z.sm,z.env.fd,z.kp⟩ (fun H'' s=>⟨D,xs,rfl,s D _ (zJ nD h3),EntR.mono (same_withs.trans s) h4⟩) r
end
theorem ad2 (k v:PyData) (kvs:List (PyData×PyData)):jm k (dput k v kvs)=some v:=by
 unfold dput jm;by_cases h:k∈kvs.map (·.1)
 ·rw [if_pos h]
  induction kvs with
  | nil=>cases h
  | cons p kvs ih =>
   rw [aqQ,arX];by_cases e:p.1=k
   ·rw [if_pos e,decide_eq_true (show p.1=k from e)];rfl
   ·rw [if_neg e,decide_eq_false (show ¬ p.1=k from e)];rw [aqQ,aqE] at h;exact ih (h.resolve_left fun z=>e z.symm)
 ·rw [if_neg h,List.find?_append,atB.mpr,Option.none_or,arX,decide_eq_true rfl]
  ·rfl
  ·intro p hp;have:p.1≠k:=fun z=>h (aqG.mpr ⟨p,hp,z⟩);simpa using this
theorem aaX {k k':PyData} (v:PyData) (ne:k'≠k) (kvs:List (PyData×PyData)):jm k' (dput k v kvs)=jm k' kvs:=by
 unfold dput jm;split
 ·rename_i hk;clear hk
  congr 1
  induction kvs with
  | nil=>rfl
  | cons p kvs ih =>
   rw [aqQ,arX,arX];by_cases e:p.1=k
   ·rw [if_pos e,decide_eq_false (show ¬ (p.1,v).1=k' from fun z=>ne (z.symm.trans e))];exact ih
   ·rw [if_neg e];cases decide (p.1=k')
    ·exact ih
    ·rfl
 ·rw [List.find?_append,arX,decide_eq_false (show ¬ (k,v).1=k' from fun z=>ne z.symm)];simp
section
variable {γ:Type} {P:Program} {w:World} {K:aqu} {mg:Str->Option Value} {base:Heap} {k:Nat} {x:Str} {st:Stmt} {N:List Str} {ps:List Str} {n:Nat} {pre:γ->List DV->Prop} {post:γ->DV->Prop}
theorem Def.okV (F:Def K mg x st ps) (S:FnScope N ps (zl st)) (hn:ps.length=n)
  (h:∀ (fa:Addr) (cdv:Value) (A:Around) (outer:List Env) (s:Shared) (H:Hp) (E:XK),Room k (A.deeper (envOfC x (zl st) s.heap.objs.size fa cdv)) ->
   ∃ t,PSs (ya CX0 P w K mg base N x (zl st) fa cdv A outer s H E).nox (yw st) t/\∀ (f:Fx) (xs:List DV) (c:γ),xs.length=n->pre c xs->PSv K f t (qu N xs) (post c)) :
  FnIn P w K mg base (k+1) x ps (spV K n pre post):=by
 obtain⟨fa,fd,F1,F2,F3⟩:=F.ex;refine⟨fa,fd,F1.ok S (fun vs H Q E h=>?_) (fun cdv A outer s H vs Q E hr hs=>?_),F3,F1.kp,F2⟩
 ·obtain⟨f,xs,c,r,hl,_⟩:=h;rw [r.length,hl,hn]
 ·obtain⟨f,xs,c,r,hl,fo,hp,q⟩:=hs;obtain⟨t,h1,h2⟩:=h fa cdv A outer s H E hr;exact⟨t,h1,h2 f xs c hl hp (start N vs) H _ (jZ r fo) fun x v H' g r p=>q x v H' g r p⟩
end
end L2
end
section
namespace L2
open PySem PySem.Spec PyProof.Rows
end L2
end
section
namespace L2
open PySem PySem.Spec PyProof.Rows
open PySem.SeqAt
open PySem.AutoSeq1 (wpAny_loadPart')
def aqn (A:Around) (s:Shared) (y x:Value) (b:Bool):Prop :=
 ∀ (prog:Program) (w:World) (E:Value->Shared->Prop) (Q:Value->Shared->Prop),Q (.bool b) s->wpAny (model prog w) A (richCompare .GtE y x) Q E s
inductive Gex (A:Around) (s:Shared):List Value->List Value->Bool->Prop where
 | nn:Gex A s [] [] true
 | eq {v w vs ws b}:EqAt A s v w true->Gex A s vs ws b->Gex A s (v :: vs) (w :: ws) b
 | ge {v w vs ws b}:EqAt A s v w false->aqn A s v w b->vs.length=ws.length->Gex A s (v :: vs) (w :: ws) b
noncomputable def aqo (o:Obj):Option Value:=match o.data with
 | .fields vs=>vs[2]?
 | _=>none
local macro_rules | `(tactic| walk_at "kd")=>`(tactic| with_reducible first
  | assumption
  | exact kd_pure _
  | exact kd_uns _
  | exact kd_load _
  | exact kd_loadPart _ _
  | exact kd_stack
  | exact kd_alloc _
  | exact kd_reg _
  | apply kd_ite
  | apply kd_bind
  | intro _
  | split)
def Dct (a:Addr) (o:Option Addr) (h:Heap):Prop:=∃ u,h.get? a=some u/\aqo u=some .none/\∀ dx,o=some dx->u.dict=some dx
def CXf (P:Program) (w:World):CXT:=fun outer H s E e s'=>∃ a C o H',e=.ref a/\XLie P w outer H s a C H' s'/\Dct a o s'.heap/\E C o H'
def anM (a:Addr) (C:Value) (o:Option Addr) (h:Heap):Prop:=∃ t,h.get? a=some { cls:=C,dict:=o,data:=.fields #[.ref t,.none,.none,.none,.bool false,.none] }
end L2
end
section
namespace L2
open PySem PySem.Spec PyProof.Rows PySem.Builtin Builtin Builtin.ObjectAttr
noncomputable def akF (K:aqu) (C f:Addr) (bmB:List Value) (newId:String):Bool :=
 match K.lookup C with
 | some ⟨c0,_,.cls cd,sl⟩=>c0 == .type "type" && cd.mro.head? == some (.ref C) && cd.hasDel == false && cd.hasDict && PySem.W.tailIn K bmB cd.mro.tail && PySem.W.nsOkIn K cd.ns && ari K cd.ns "__init__" == some (some (.ref f))
   && sl.toList.length == 6 && sl.toList[4]? == some (some (.builtin newId))
 | _=>false
structure XCls (h:Heap) (C f:Addr) (bmB:List Value) (newId:String):Prop where
 ex:∃ nm q N bs bm sn sub ab col dd k0 k1 k2 k3 k5 mN,h.get? C=some (excClassObj nm q C N bs bm true sn sub ab col dd k0 k1 k2 k3 k5 newId)/\h.Ns N mN/\mN "__init__"=some (.ref f)/\OwnTail h bmB bm
end L2
end
section
namespace L2
open PySem PySem.Spec PySem.W PyProof.Rows PySem.Calls PySem.Builtin Builtin Builtin.ObjectAttr
noncomputable abbrev bare (C:Addr) (o:Option Addr) (t:Addr):Obj:={ cls:=.ref C,dict:=o,data:=.fields #[.ref t,.none,.none,.none,.bool false,.none] }
noncomputable abbrev bmV:List Value:=[.type "ValueError",.type "Exception",.type "BaseException",.type "object"]
structure FldC (K:aqu) (C f D:Addr) (name:Str):Prop where
 wi:akF K C f bmV "ValueError.__new__"=true
 fn:PySem.W.typeIn K (.ref f)=some (.type "function")
 ob:PySem.W.mroIn K C (.type "object")=some true
 sa:asA K (.ref C) "__setattr__"=some (some (.builtin "object.__setattr__"))
 na:asA K (.ref C) name=some none
 rd:PySem.W.readsIn K D (.type "type")=true
 sp:atP K (.ref D) "__getattribute__"=some (some (.builtin "type.__getattribute__"))
 kp:arM K (.ref C)=true
 fi:PySem.W.findCls K (.ref D) (.type "type") "__init__"=some (.val (.builtin "ValueError.__init__"))
section
variable {X:Cx} {pins:List (Addr×Obj)} {σ:St} {H H':Hp} {s s':Shared} {h':Heap} {a b dx C D f:Addr} {o:HO} {t':Nat} {name:Str}
def aoW (C:Addr) (name:Str):Sp:=fun vs H Q _=>∃ a y,vs=[.ref a,y]/\H a=some (.ext (anM a (.ref C) none))/\∀ dx,H dx=none->dx≠a->Q .non (upd (upd H dx (.xd [(name,y)])) a (.ext (anM a (.ref C) (some dx))))
end
end L2
end
section
namespace L2
open PySem PySem.Spec PyProof.Rows
end L2
end
section
namespace L2
open PySem PySem.Spec PySem.W PyProof.Rows PySem.Calls PySem.Builtin Builtin Builtin.ObjectAttr Builtin.Getset_descriptor
abbrev XD:=Option (Str×PyData)
structure FnInF (P:Program) (w:World) (K:aqu) (mg:Str->Option Value) (base:Heap) (k:Nat) (x:Str) (ps:List Str) (sp:Sp):Prop where
 ex:∃ (f:Addr) (fd:FuncData),FnOk P w K mg base (CXf P w) k f fd ps sp/\mg x=some (.ref f)/\arM K (.ref f)=true/\Binds K fd ps []
structure FCls (K:aqu) (mg:Str->Option Value) (x base:Str) (C:Addr) (name:Str) (st:Stmt) (ps:List Str):Prop where
 ex:∃ (f D:Addr) (fd:FuncData),FldC K C f D name/\mg x=some (.ref C)/\mg base=some (.ref D)/\Fun K "__init__" (x ++ ".__init__") st f fd/\Binds K fd ps []
structure InitOk (P:Program) (w:World) (K:aqu) (mg:Str->Option Value) (base:Heap) (k:Nat) (C:Addr) (name:Str):Prop where
 ex:∃ (f D:Addr) (fd:FuncData) (ps:List Str),FldC K C f D name/\FnOk P w K mg base CX0 k f fd ps (aoW C name)/\Binds K fd ps []
section
variable {w:World} {K:aqu} {f:Fx} {Ds:List Addr} {ts:TS} {te tk:TE} {ρ:zr} {cs:List OC} {O:MEnds} {i j n:Nat}
theorem vX (h:PEm w K f Ds te ρ cs fun d=>O.nx (ρ.set n (some (.dat d))) cs):PSm w K f Ds (qA te (yX n)) ρ cs O:=fun se σ H H2 E x nn r b k =>
 h se σ H H2 _ x fun d v H1 g1 r1 p1=>by
  have x1:=x.go g1 (x.env.mono g1);exact nn _ cs _ H1 ⟨x1.env.set n (x:=.dat d) r1,x1.sm,x1.kp,x1.len,x1.own⟩ p1
end
structure RoomM (k:Nat) (A:Around):Prop where
 dp:A.depth+3 * k+5<recursionLimit
 un:A.units+16 * k+200<cLine
structure FnOkM (P:Program) (w:World) (K:aqu) (mg:Str->Option Value) (base:Heap) (k:Nat) (f:Addr) (fd:FuncData) (ps:List Str) (sp:Addr->Sp):Prop where
 len:∀ a vs H Q E,sp a vs H Q E->vs.length=ps.length
 run:∀ (A:Around) (outer:List Env) (s:Shared) (H:Hp) (args:Args) (us:List Value) (vs:List V) (Q:VK) (a:Addr),A.handled=some (.ref a)->RoomM k A->Env0 P w K mg base A outer s H->BindsTo s fd args (ps.zip us)->Vals vs us->sp a vs H Q E0 ->
  codeAny (model P w) A (.call (.ref f) args) (CR CX0 outer P w H s Q E0) s
structure FnInM (P:Program) (w:World) (K:aqu) (mg:Str->Option Value) (base:Heap) (k:Nat) (x:Str) (ps:List Str) (sp:Addr->Sp):Prop where
 ex:∃ (f:Addr) (fd:FuncData),FnOkM P w K mg base k f fd ps sp/\mg x=some (.ref f)/\arM K (.ref f)=true/\Binds K fd ps []
structure TN (K:aqu) (f:Fx) (a:Addr) (as:List Addr) (H2:Hp) (ρ:zr) (R:Option (List (List Int))) (σ:St) (H:Hp):Prop where
 env:EnvOk K (f.withs (a :: as)) ρ σ H
 sm:Same (hide H2 (f.withs (a :: as))) (hide H (f.withs (a :: as)))
 kp:∀ b∈f.M,H b=H2 b
 tab:∀ rows,R=some rows->TabAt H a as rows
end L2
end
section
namespace L2
open PySem PySem.Spec PyProof.Rows
structure GoesW (f:Fx) (As:List Addr) (H2 H':Hp):Prop where
 sm:Same (hide H2 (f.withs As)) (hide H' f)
 ok:FOk f H'
 kp:∀ b∈f.M,H' b=H2 b
structure FnAt (P:Program) (w:World) (K:aqu) (mg:Str->Option Value) (base:Heap) (CX:CXT) (k:Nat) (a:Addr) (sp:Sp):Prop where
 ex:∃ (fd:FuncData) (ps:List Str),FnOk P w K mg base CX k a fd ps sp/\arM K (.ref a)=true/\Binds K fd ps []
end L2
end
section
namespace L2
open PySem PySem.Spec PyProof.Rows
def afT (K:aqu):R2:=fun x y H Q=>∃ d ds,Rep K H d x/\Rep K H (.tuple ds) y/\d.canLay0=true/\(∀ e∈ds,e.canLay0=true)/\d.depth<=50/\Q (.bl (ds.any fun e=>aqX e d)) H
theorem amw {X:Cx} (hu:X.A.units+64<cLine):OpR X (compareOp .In) (afT X.K):=by
 intro pins s σ H x y v u Q I rx ry ⟨d,ds,h1,h2,c1,c2,dd,q⟩;obtain⟨a,xs,rfl,hq,hr⟩:=rep_tuple.mp h2;cases ry;obtain⟨bs,rb⟩:=yZ I d x v h1 rx;obtain⟨its,r,pl,_⟩:=I.tuple hq;have hu':X.A.in1.units+60<cLine:=by show X.A.units+1+60<cLine;omega
 refine SeqAt.in_tupleAt (eqR s.heap d) pl (fun w hw=>acS I rb c1 dd hu' hr r c2 w (by simpa using hw)) ⟨.bl _,H,I,rfl,?_⟩;rw [show its.toArray.any (eqR s.heap d)=its.any (eqR s.heap d) by simp,aes I hr r c2];exact q
theorem qw {X:Cx} {K:aqu} (hK:X.K=K) (hu:X.A.units+64<cLine):OpR X (compareOp .In) (afT K):=hK▸amw hu
theorem aoX {K:aqu} {f:Fx} {ρ:zr} {P:PyData->Prop} {ta tb:TE} (h:PEd K f ta ρ fun d=>PEd K f tb ρ fun y=>∃ ds,y=.tuple ds/\d.canLay0=true/\(∀ e∈ds,e.canLay0=true)/\d.depth<=50/\P (.bool (ds.any fun e=>aqX e d))):PEd K f (tOp (afT K) ta tb) ρ P:=fun σ H Q e q =>
 h σ H _ e fun d v H1 g1 r1 p1=>p1 σ H1 _ (e.mono g1) fun y w H2 g2 r2 ⟨ds,ey,c1,c2,dd,p2⟩=>by
  subst ey;exact⟨d,ds,Rep.mono ((g2.sm).trans (zm _ _)) _ _ r1,Rep.mono (zm _ _) _ _ r2,c1,c2,dd,q _ _ H2 (g1.trans g2) (rep_bool.mpr rfl) p2⟩
end L2
end
section
namespace L2
open PySem PySem.Spec PyProof.Rows
structure Src (prog:Program) (w:World) (j:Addr) (xs:Array Value) (dep:List Addr) (St:Nat->Heap->Prop):Prop where
 own:j∈dep
 keep:∀ {k:Nat} {h h':Heap},St k h->(∀ c∈dep,∀ o,h.get? c=some o->h'.get? c=some o)->St k h'
 there:∀ {k:Nat} {h:Heap},St k h->∃ o,h.get? j=some o
 item:∀ {A:Around} {E:Value->Shared->Prop} {s:Shared} {k:Nat} {x:Value} {Q:Value->Shared->Prop},St k s.heap->xs[k]?=some x->(∀ h',St (k+1) h'->asp j s.heap h'->Q x { s with heap:=h' })->wpAny (model prog w) A (atM (.ref j)) Q E s
 stop:∀ {A:Around} {E:Value->Shared->Prop} {s:Shared} {k:Nat} {Q:Value->Shared->Prop},A.handled=none->St k s.heap->xs[k]?=none->(∀ h' e,Heap.ExtBut j s.heap h'->(∃ o,h'.get? e=some o/\o.cls=.type "StopIteration")->E (.ref e) { s with heap:=h' })->wpAny (model prog w) A (atM (.ref j)) Q E s
section
variable {prog:Program} {w:World} {A:Around} {E:Value->Shared->Prop} {s:Shared}
structure Far (z q1 q2 j1 j2:Addr) (e1 e2:List Addr):Prop where
 q1z:q1≠z
 q2z:q2≠z
 q12:q1≠q2
 j12:j1≠j2
 q1j1:q1≠j1
 q1j2:q1≠j2
 z1:z∉e1
 z2:z∉e2
 o1:q2∉e1
 o2:q2∉e2
 d12:j2∉e1
 d21:j1∉e2
end
end L2
end
section
namespace L2
open PySem PySem.Spec PyProof.Rows
end L2
end
section
namespace L2
open PySem PySem.Spec PyProof.Rows
section
variable {K:aqu} {f:Fx} {ρ:zr} {R:List DV->Prop} {i j m n:Nat} {d0 d1 d2 d3:PyData}
theorem agV (h0:ρ[i]?=some (some (.dat d0))) (h:R [.dat d0]):PAd K f (zN (zR i) yY) ρ R:=zp (zk h0 (zH h))
theorem qx (h0:ρ[i]?=some (some (.dat d0))) (h1:ρ[j]?=some (some (.dat d1))) (h:R [.dat d0,.dat d1]):PAd K f (zN (zR i) (zN (zR j) yY)) ρ R:=zp (zk h0 (agV h1 h))
theorem amx (h0:ρ[i]?=some (some (.dat d0))) (h1:ρ[j]?=some (some (.dat d1))) (h2:ρ[m]?=some (some (.dat d2))) (h:R [.dat d0,.dat d1,.dat d2]):PAd K f (zN (zR i) (zN (zR j) (zN (zR m) yY))) ρ R:=zp (zk h0 (qx h1 h2 h))
theorem apV (h0:ρ[i]?=some (some (.dat d0))) (h1:ρ[j]?=some (some (.dat d1))) (h2:ρ[m]?=some (some (.dat d2))) (h3:ρ[n]?=some (some (.dat d3))) (h:R [.dat d0,.dat d1,.dat d2,.dat d3]):PAd K f (zN (zR i) (zN (zR j) (zN (zR m) (zN (zR n) yY)))) ρ R:=zp (zk h0 (amx h1 h2 h3 h))
end
theorem vG {α β:Type} {F:α->β} {l:List β} {m:List α} (h:l.Perm (m.map F)):∃ m':List α,m'.Perm m/\l=m'.map F:=by
 generalize e:m.map F=k at h
 induction h generalizing m with
 | nil=>exact⟨m,.refl _,e.symm⟩
 | cons x _ ih =>
  cases m with
  | nil=>cases e
  | cons a m =>
   injection e with e1 e2;obtain⟨m',p,r⟩:=ih e2;exact⟨a :: m',p.cons a,by rw [aqQ,e1,r]⟩
 | swap x y l =>
  cases m with
  | nil=>cases e
  | cons a m =>
   cases m with
   | nil=>injection e with _ e;cases e
   | cons b m =>
    injection e with e1 e2;injection e2 with e2 e3;exact⟨b :: a :: m,.swap a b m,by rw [aqQ,aqQ,e1,e2,e3]⟩
 | trans _ _ ih1 ih2 =>
  obtain⟨m',p,r⟩:=ih2 e;obtain⟨m'',p',r'⟩:=ih1 r.symm;exact⟨m'',p'.trans p,r'⟩
abbrev FD (K:aqu) (x:Str) (st:Stmt) (f:Addr) (od an:Option Addr) (sl:Array (Option Value)) (oc kV dc pm cd ct:Value):Prop:=ari K mainGlobals x=some (some (.ref f))/\K.lookup f=some ⟨oc,od,.func (arN x x (y3 st) (yw st) (zl st) .none kV dc pm an cd ct),sl⟩/\ary K cd x=true/\arM K (.ref f)=true
theorem akG {K:aqu} {h:Heap} {mg:Str->Option Value} {x:Str} {st:Stmt} {f:Addr} {od an:Option Addr} {sl:Array (Option Value)} {oc kV dc pm cd ct:Value} (X:K.In h) (G:h.Ns mainGlobals mg) (a:FD K x st f od an sl oc kV dc pm cd ct) {ps:List Str}
  (hb:∀ (kV doc pm:Value) (an:Option Addr) (cdv ct:Value) (us:List Value),us.length=ps.length->bindArgs (arN x x (y3 st) (yw st) (zl st) .none kV doc pm an cdv ct) ⟨us,[]⟩=pure (ps.zip us)):Def K mg x st ps :=
 ⟨f,_,agB a.2.1 a.2.2.1 a.2.2.2,(agB (st:=st) a.2.1 a.2.2.1 a.2.2.2).binds hb,ar9 X G a.1⟩
end L2
end
section
namespace L2
open PySem PySem.Spec PyProof.Rows
end L2
end
section
open PySem PySem.Spec PyProof.Rows
namespace L2
end L2
end
section
namespace L2
open PySem PySem.Spec PyProof.Rows
end L2
end
section
namespace L2
open PySem PySem.Spec PyProof.Rows
end L2
end
section
namespace L2
open PySem PySem.Spec PyProof.Rows
structure TQ (K:aqu) (f:Fx) (a:Addr) (as:List Addr) (H2:Hp) (ρ:zr) (rows:List (List PyData)) (σ:St) (H:Hp):Prop where
 env:EnvOk K (f.withs (a :: as)) ρ σ H
 sm:Same (hide H2 (f.withs (a :: as))) (hide H (f.withs (a :: as)))
 kp:∀ b∈f.M,H b=H2 b
 top:H a=some (.lst (as.map .ref))
 nd:(a :: as).Nodup
 len:as.length=rows.length
 row:∀ (i:Nat) x r,as[i]?=some x->rows[i]?=some r->∃ vs,H x=some (.lst vs)/\Reps K (hide H (f.withs (a :: as))) r vs
end L2
end
section
namespace L2
open PySem PySem.Spec PyProof.Rows
inductive PEs (X:Cx):List (Expr×Expr)->List (TE×TE)->Prop where
 | nil:PEs X [] []
 | cons {k v:Expr} {tk tv:TE} {es:List (Expr×Expr)} {ts:List (TE×TE)}:PE X k tk->PE X v tv->PEs X es ts->PEs X ((k,v) :: es) ((tk,tv) :: ts)
inductive RelPs:List (V×V)->List (Value×Value)->Prop where
 | nil:RelPs [] []
 | cons {k v:V} {a b:Value} {l:List (V×V)} {us:List (Value×Value)}:RelV k a->RelV v b->RelPs l us->RelPs ((k,v) :: l) ((a,b) :: us)
inductive RepP (K:aqu) (Hh:Hp):List (PyData×PyData)->List (V×V)->Prop where
 | nil:RepP K Hh [] []
 | cons {k v:PyData} {a b:V} {l:List (PyData×PyData)} {us:List (V×V)}:Rep K Hh k a->Rep K Hh v b->RepP K Hh l us->RepP K Hh ((k,v) :: l) ((a,b) :: us)
end L2
end
section
set_option maxHeartbeats 400000
namespace L2
open PySem PySem.Spec PyProof.Rows
structure PEw (X:Cx) (e:Expr) (t:TE):Prop where
 pe:PE X e t
structure PEsW (X:Cx) (es:List (Expr×Expr)) (ts:List (TE×TE)):Prop where
 pes:PEs X es ts
def agW (w:World) (K:aqu) (D:Addr) (tk tv:TE):TB:=fun σ H Q=>tk σ H fun k H1=>tv σ H1 fun v H2=>abd w K (.ref D) k v H2 fun H3=>Q σ H3
def agX (w:World) (wi:TI) (own:Nat) (fr:List Nat) (g:TG) (tt:TT) (tb:Addr->TB):TE:=fun σ H Q=>wi σ H fun J H1=>∀ D,H1 D=none ->
 ab3 J g tt (tb D) (y6 own fr σ) (upd H1 D (DicO w D [])) fun _ H2=>Q (.ref D) H2
theorem akH {X:Cx} {w:World} {K:aqu} {D:Addr} {kx vx:Expr} {tk tv:TE} {pos:Pos} (hw:X.w=w) (hK:X.K=K) (hu:X.A.units+64<cLine) (hk:PE X kx tk) (hv:PE X vx tv) :
  PB X (do
   let kv <- eval kx X.env
   let vv <- holding [kv] (eval vx X.env)
   standAt pos
   holding [kv,vv] (dictSet D kv vv)) (agW w K D tk tv):=by
 subst hw hK;intro pins s σ H Q I h;refine wpAny_bind (thn (hk pins s σ H _ I h) fun kv s1 ⟨k,H1,I1,r1,q1⟩=>?_);refine wpAny_bind (wpAny_holding (thn (hv pins s1 σ H1 _ I1 q1) fun vv s2 ⟨v,H2,I2,r2,q2⟩=>?_));refine wpAny_bind (wpAny_standAt ?_);obtain⟨a,b,d,xs,ea,rfl,hS,ks,kd,rd,hl,q⟩:=q2;cases ea;cases r1;obtain⟨hm,ns⟩:=ac5 I2 hS ks;refine wpAny_holding (wpAny_dictSet_heap (by show _+40<cLine;omega) (qZ I2 kd rd) hm (fun h' hm' sb=>?_) (arE (yd hl)));obtain⟨o',es',ep',x1,x2,x3,x4,x5,x6⟩:=hm';exact⟨σ,_,I2.write (t':=s2.toks+yg d) (x:=D) (e:=D) (by rw [hS];exact trivial) (.inl rfl) (fun b u nb e=>(sb.2 b nb).trans e) ⟨o',x1⟩ (DicO.ok ⟨x1,x2,x3,x4,x6,ns⟩),q _ r2⟩
section
variable {X:Cx} {pins:List (Addr×Obj)} {s:Shared} {σ:St} {H:Hp} {tg kx vx iter:Expr} {ifs:List Expr} {rest:List Comprehension} {sc scO:Scope} {NO N:List Str} {own:Nat} {fr:List Nat} {wi:TI} {g:TG} {tt:TT} {tb:Addr->TB} {pos:Pos}
theorem ajc {RR:Value->Addr->Result->Shared->Prop} {it:Addr} {fp:List Addr} {tn:Nat->Heap->Prop} {J:It} {Q:VK} (S:CompScope NO scO N sc own fr) (hN:X.N=NO) (hsc:X.env.scope=scO) (hc:X.calm=true)
  (hg:∀ s₀ H₀ ex pn,PG (zi X sc N s₀ H₀ ex pn) tg g) (ht:∀ s₀ H₀ ex pn,PTs (zi X sc N s₀ H₀ ex pn) ifs tt)
  (hb:∀ D s₀ H₀ ex pn,∃ act,PB (zi X sc N s₀ H₀ ex pn) act (tb D)/\∀ it,compTurn (.DictComp kx vx (⟨tg,iter,ifs,0⟩ :: rest) sc pos) 0 it (.ref D) (zi X sc N s₀ H₀ ex pn).env=(do
   standAt iter.pos
   match <- pyNext it with
   | none=>pure (.done .next)
   | some v =>
    letOwnedTupleGo tg it v
    assign tg (zi X sc N s₀ H₀ ex pn).env v
    let mut ok:=true
    for c in ifs do
     if ok then ok <- isTrue c (zi X sc N s₀ H₀ ex pn).env (eval c (zi X sc N s₀ H₀ ex pn).env)
    if ok then
     act
    again (.compLoop (.DictComp kx vx (⟨tg,iter,ifs,0⟩ :: rest) sc pos) 0 it (.ref D) (zi X sc N s₀ H₀ ex pn).env)))
  (I:Inv X pins σ H s) (T:Turn X.prog X.w X.K tg J fp it tn) (st:tn 0 s.heap) (f:∀ b∈fp,aaD X pins H b)
  (h:∀ D,H D=none->ab3 J g tt (tb D) (y6 own fr σ) (upd H D (DicO X.w D [])) fun _ H2=>Q (.ref D) H2)
  (hRR:∀ (D C:Addr) (s':Shared) (H':Hp),(∃ m,s'.heap.Ns C m)->C≠X.env.locals->(∀ x c,X.env.cells.lookup x=some c->c≠C)->H' C=none->X.s₀.heap.objs.size<=C->(∀ p∈X.pn++pins,p.1≠C)->Inv X pins σ H' s'->Q (.ref D) H'->RR (.ref D) C (.ok .next) s') :
  wpAny (model X.prog X.w) X.A newDict (fun acc s₃=>wpAny (model X.prog X.w) X.A (newFunctionEnv sc X.env.globals (yi X.env sc.names []) [] X.env.qual none .none (some X.env)) (fun cenv s₄ =>
   codeAny (model X.prog X.w) X.A (.compStart (.DictComp kx vx (⟨tg,iter,ifs,0⟩ :: rest) sc pos) 0 (.ref it) acc { cenv with scope:=relabel sc X.env }) (RR acc cenv.locals) s₄) X.xe s₃) X.xe s:=by
 refine wpAny_newObj_type (ab4 ?_);have fpsz:∀ b∈fp,b<s.heap.objs.size:=fun b hb=>by
  obtain⟨o,e,_⟩:=T.obj _ _ st b hb;exact aqI e
 have I3:=I.laid (a:=s.heap.objs.size) (t':=s.toks) (fun _ _ q=>aqD _ q) (aqC _) (DicO.ok (xs:=[]) (o:={ cls:=.type "dict",data:=.dict #[] }) (es:=#[]) (ep:=0) ⟨aq3 _ rfl,⟨rfl,rfl,rfl⟩,rfl,rfl,arv,beq_eq_false_iff_ne.mpr (arU (aq5 (aeE I)))⟩);have f3:∀ b∈fp,aaD X pins (upd H s.heap.objs.size (DicO X.w s.heap.objs.size [])) b:=fun b hb=>⟨by rw [zx (aq5 (fpsz b hb))];exact (f b hb).1,(f b hb).2⟩;have st3:tn 0 (s.heap.push { cls:=.type "dict",data:=.dict #[] }):=T.keep _ _ _ st fun b _ o e=>aqD _ e;have I4:=afm (tk:=s.toks) S hN hsc I3 f3 (T.obj _ _ st3);obtain⟨act,pb,heq⟩:=hb s.heap.objs.size _ _ _ _;have st4:=T.keep _ _ (pushCells ((s.heap.push { cls:=.type "dict",data:=.dict #[] }).push { cls:=.type "dict",data:=.dict #[] }) sc.names) st3 fun b _ o e=>pushCells_keeps _ _ _ _ (aqD _ e);have cells_lt:∀ x c,X.env.cells.lookup x=some c->c<s.heap.objs.size:=fun x c e=>by
  obtain⟨v,o,ho,hd⟩:=I.cell x c e;exact aqI ho
 have esz:(s.heap.push { cls:=.type "dict",data:=.dict #[] }).objs.size=s.heap.objs.size+1:=atf ..;have loop:=acM (X:=zi X sc N { s with heap:=s.heap.push { cls:=.type "dict",data:=.dict #[] } } (upd H s.heap.objs.size (DicO X.w s.heap.objs.size [])) fp (X.pn++pins)) (R:=RR (.ref s.heap.objs.size) (s.heap.push { cls:=.type "dict",data:=.dict #[] }).objs.size) (fun _ _ z=>z) hc (hg _ _ _ _) (ht _ _ _ _) pb heq (fun _=>rfl) (fun _=>rfl) (fun _=>rfl) I4 T st4
  (fun b hb=>⟨(f3 b hb).1,I4.ok.exf b hb |>.1,I4.ok.exfs b hb,.inl hb,I4.ok.exf b hb |>.2,fun p hp=>by
   have hp':p∈X.pn++pins:=by simpa [zi] using hp
   exact (f b hb).2.2.2.2.2 p hp'⟩) (h _ I.fresh)
  (fun σ' H' s' J' fr' q'=>hRR _ _ s' H' (let⟨m,hm,_⟩:=J'.loc;⟨m,hm⟩) (by rw [esz];exact atc (arJ I.lt)) (fun x c e=>by rw [esz];exact aq5 (arJ (cells_lt x c e))) J'.free (by rw [esz];exact Nat.le_succ_of_le I.sz) (fun p hp=>by rw [esz];exact aq5 (arJ (aqI (I.pin p hp).1))) (comp_back (h':=s'.heap) I3 f3 J' (Heap.SameBut.refl ..)) q')
 exact codeAny_compStart_dict loop (T.self X.A 0 _ _ _ st4 loop)
theorem akI (S:CompScope NO scO N sc own fr) (hc:X.calm=true) (hi:PI X tg iter wi) (hg:∀ s₀ H₀ ex pn,PG (zi X sc N s₀ H₀ ex pn) tg g) (ht:∀ s₀ H₀ ex pn,PTs (zi X sc N s₀ H₀ ex pn) ifs tt)
  (hb:∀ D s₀ H₀ ex pn,∃ act,PB (zi X sc N s₀ H₀ ex pn) act (tb D)/\∀ it,compTurn (.DictComp kx vx (⟨tg,iter,ifs,0⟩ :: rest) sc pos) 0 it (.ref D) (zi X sc N s₀ H₀ ex pn).env=(do
   standAt iter.pos
   match <- pyNext it with
   | none=>pure (.done .next)
   | some v =>
    letOwnedTupleGo tg it v
    assign tg (zi X sc N s₀ H₀ ex pn).env v
    let mut ok:=true
    for c in ifs do
     if ok then ok <- isTrue c (zi X sc N s₀ H₀ ex pn).env (eval c (zi X sc N s₀ H₀ ex pn).env)
    if ok then
     act
    again (.compLoop (.DictComp kx vx (⟨tg,iter,ifs,0⟩ :: rest) sc pos) 0 it (.ref D) (zi X sc N s₀ H₀ ex pn).env)))
  (hN:X.N=NO) (hsc:X.env.scope=scO) (hs:∀ x,foldedSetIterable iter X.env x=pure x) {w:World} (hw:X.w=w) :
  PE X (.DictComp kx vx (⟨tg,iter,ifs,0⟩ :: rest) sc pos) (agX w wi own fr g tt tb):=by
 subst hw;intro pins s σ H Q I h;rw [arm_eval_DictComp];refine wpAny_comprehension_free (use:=none) rfl hs (aen S hsc I.ok) S.kind (fun p hp hl=>yp S.snd (k:=.local) (by rw [<-hl];exact hp)) (thn (hi pins s σ H _ I h) fun v s1 h1=>thn h1 fun itv s2 h2=>?_);obtain⟨it,fp,tn,J,H2,e,I2,T,st2,f2,q⟩:=h2;subst e;refine ajc (RR:=fun acc C=>compPost (model X.prog X.w) X.A X.xe none (EP X pins σ Q) acc C) S hN hsc hc hg ht hb I2 T st2 f2 q ?_;rintro D C s' H' ⟨m,hm⟩ c0 c1 c2 c3 c4 J' q';exact⟨m,hm,fun h' hs'=>⟨.ref D,H',J'.touch hs' c2 c0 c1 c3 c4,rfl,q'⟩⟩
theorem ajd {it acc:Value} {D:Addr} {env:Env}:compTurn (.DictComp kx vx [⟨tg,iter,ifs,0⟩] sc pos) 0 it (.ref D) env=(do
   standAt iter.pos
   match <- pyNext it with
   | none=>pure (.done .next)
   | some v =>
    letOwnedTupleGo tg it v
    assign tg env v
    let mut ok:=true
    for c in ifs do
     if ok then ok <- isTrue c env (eval c env)
    if ok then
     (do
      let kv <- eval kx env
      let vv <- holding [kv] (eval vx env)
      standAt { kx.pos with endLine:=vx.pos.endLine,endCol:=vx.pos.endCol }
      holding [kv,vv] (dictSet D kv vv))
    again (.compLoop (.DictComp kx vx [⟨tg,iter,ifs,0⟩] sc pos) 0 it (.ref D) env)):=compTurn_dict ..
theorem aje {w:World} {K:aqu} {tk tv:TE} (hw:X.w=w) (hK:X.K=K) (hu:X.A.units+64<cLine) (S:CompScope NO scO N sc own fr) (hc:X.calm=true) (hi:PI X tg iter wi) (hg:∀ s₀ H₀ ex pn,PG (zi X sc N s₀ H₀ ex pn) tg g) (ht:∀ s₀ H₀ ex pn,PTs (zi X sc N s₀ H₀ ex pn) ifs tt) (hk:∀ s₀ H₀ ex pn,PE (zi X sc N s₀ H₀ ex pn) kx tk) (hv:∀ s₀ H₀ ex pn,PE (zi X sc N s₀ H₀ ex pn) vx tv)
  (hN:X.N=NO) (hsc:X.env.scope=scO) (hs:∀ x,foldedSetIterable iter X.env x=pure x):PE X (.DictComp kx vx [⟨tg,iter,ifs,0⟩] sc pos) (agX w wi own fr g tt fun D=>agW w K D tk tv) :=
 akI S hc hi hg ht (fun D s₀ H₀ ex pn=>⟨_,akH (X:=zi X sc N s₀ H₀ ex pn) (D:=D) hw hK hu (hk s₀ H₀ ex pn) (hv s₀ H₀ ex pn),fun _=>ajd (acc:=.none)⟩) hN hsc hs hw
end
structure CSo (w:World) (K:aqu) (f:Fx) (D:Addr) (H2:Hp) (ρ':zr) (kvs:List (PyData×PyData)) (σ:St) (H:Hp):Prop where
 env:EnvOk K (f.with D) ρ' σ H
 sm:Same (hide H2 (f.with D)) (hide H (f.with D))
 kp:∀ b∈f.M,H b=H2 b
 own:OwnAt w K (hide H (f.with D)) H D (.dic kvs)
section
variable {w:World} {K:aqu} {f:Fx} {ρ:zr} {D:Addr} {wi:TI} {g:TG} {tt:TT} {tk tv:TE} {kvs:List (PyData×PyData)}
theorem CSo.go {H2 H H':Hp} {σ:St} (c:CSo w K f D H2 ρ kvs σ H) (gg:Goes (f.with D) H H') {ρ2:zr} {σ2:St} (e2:EnvOk K (f.with D) ρ2 σ2 H'):CSo w K f D H2 ρ2 kvs σ2 H' :=
 ⟨e2,c.sm.trans gg.sm,fun b hb=>(gg.kp b (aqw _ hb)).trans (c.kp b hb),c.own.mono (gg.kp D aqv) gg.sm⟩
theorem CSo.self {H2 H:Hp} {σ:St} (c:CSo w K f D H2 ρ kvs σ H):CSo w K f D H ρ kvs σ H:=⟨c.env,Same.refl _,fun _ _=>rfl,c.own⟩
theorem CSo.trans {H2 H H':Hp} {kvs':List (PyData×PyData)} {ρ':zr} {σ σ':St} (c:CSo w K f D H2 ρ kvs σ H) (d:CSo w K f D H ρ' kvs' σ' H'):CSo w K f D H2 ρ' kvs' σ' H':=⟨d.env,c.sm.trans d.sm,fun b hb=>(d.kp b hb).trans (c.kp b hb),d.own⟩
def PBo (w:World) (K:aqu) (f:Fx) (D:Addr) (tb:TB) (ρ:zr) (kvs:List (PyData×PyData)) (R:zr->List (PyData×PyData)->Prop):Prop:=f.f≠some D->D∉f.M->∀ (σ:St) (H H2:Hp) (W:St->Hp->Prop),CSo w K f D H2 ρ kvs σ H ->
 (∀ ρ2 kvs2 σ2 H',CSo w K f D H2 ρ2 kvs2 σ2 H'->R ρ2 kvs2->W σ2 H')->tb σ H W
theorem amy {R:zr->List (PyData×PyData)->Prop} (hl:kvs.length<=1000) (h:PEd K (f.with D) tk ρ fun k=>acf k/\PEd K (f.with D) tv ρ fun v=>R ρ (dput k v kvs)):PBo w K f D (agW w K D tk tv) ρ kvs R:=fun hD hM σ H H2 W c q =>
 h σ H _ c.env fun k kv H3 g3 r3 ⟨kt,h3⟩=>by
  have c3:=c.go g3 (c.env.mono g3);refine h3 σ H3 _ c3.env fun v vv H4 g4 r4 p4=>?_;have c4:=c3.go g4 (c3.env.mono g4);obtain⟨b,rfl⟩:=qI kt r3;obtain⟨xs,h1,h2⟩:=c4.own;have rk:=Rep.mono g4.sm _ _ r3;refine⟨D,b,k,xs,rfl,rfl,h1,fun z hz=>⟨(yI h2 z hz).1,Rep.mono (zm _ _) _ _ (yI h2 z hz).2⟩,kt.1,Rep.mono (zm _ _) _ _ rk,by rw [abe h2];exact hl,fun u ru=>?_⟩;refine q _ _ _ _ ⟨ahF hD c4.env,by rw [yr];exact c4.sm,fun b hb=>(zx (fun (z:b=D)=>hM (z▸hb))).trans (c4.kp b hb),_,zB,?_⟩ p4;rw [yr];exact aeF kt.1 rk r4 ru h2
theorem amz {fi:Fx} {Hi H2 H:Hp} {ds:List PyData} {J:It} {tb:TB} {σ:St} {W:St->Hp->Prop} (it:ItD K fi ds J Hi) (hD:f.f≠some D) (hM:D∉f.M) (c:CSo w K f D H2 ρ kvs σ H) (sm:Same (hide Hi fi) (hide H (f.with D)))
  (Jv:Nat->zr->List (PyData×PyData)->Prop) (j0:Jv 0 ρ kvs)
  (js:∀ (i:Nat) d ρ' es',ds[i]?=some d->Jv i ρ' es'->PGd K (f.with D) g d ρ' fun ρ2=>PTd K (f.with D) tt ρ2 fun b=>if b=true then PBo w K f D tb ρ2 es' (Jv (i+1)) else Jv (i+1) ρ2 es')
  (hW:∀ ρ' es' σ' H',CSo w K f D H2 ρ' es' σ' H'->Jv ds.length ρ' es'->W σ' H'):ab3 J g tt tb σ H W:=by
 refine⟨fun i m σ' H'=>∃ ρ' es',CSo w K f D H2 ρ' es' σ' H'/\Same (hide Hi fi) (hide H' (f.with D))/\Jv i ρ' es'/\m+i=ds.length,⟨ds.length,ρ,kvs,c,sm,j0,rfl⟩,fun i m σ' H' ⟨ρ',es',c',sm',p,hm⟩=>?_⟩;by_cases hi:i<ds.length
 ·obtain⟨hgo,hy⟩:=it.go (f.with D) H' i _ c'.env.fd sm' (aqq hi);refine .inr ⟨hgo,fun x H3 hx=>?_⟩;obtain⟨g3,r3⟩:=hy x H3 hx;have c3:=c'.go g3 (c'.env.mono g3);refine js i _ ρ' es' (aqq hi) p σ' H3 x _ c3.env r3 fun ρ2 σ2 H4 g4 e4 p4=>?_;have c4:=c3.go g4 e4;refine p4 σ2 H4 _ e4 fun b H5 g5 p5=>?_;have c5:=c4.go g5 (e4.mono g5);have sm5:=((sm'.trans g3.sm).trans g4.sm).trans g5.sm;cases b with
  | false =>
   rw [if_neg aqt] at p5 ⊢;exact⟨m - 1,by omega,ρ2,es',c5,sm5,p5,by omega⟩
  | true =>
   rw [if_pos rfl] at p5 ⊢;exact p5 hD hM σ2 H5 H5 _ c5.self fun ρ6 es6 σ6 H6 c6 p6=>⟨m - 1,by omega,ρ6,es6,c5.trans c6,sm5.trans c6.sm,p6,by omega⟩
 ·have ei:i=ds.length:=by omega
  subst ei;exact .inl ⟨it.st (f.with D) H' c'.env.fd sm',hW ρ' es' σ' H' c' p⟩
theorem amA {own:Nat} {fr:List Nat} {tb:Addr->TB} {P:OC->Prop} (h:PId K f wi ρ fun ds=>∃ Jv:Nat->zr->List (PyData×PyData)->Prop,Jv 0 (vA own fr ρ) [] /\
   (∀ D (i:Nat) d ρ' es',ds[i]?=some d->Jv i ρ' es'->PGd K (f.with D) g d ρ' fun ρ2=>PTd K (f.with D) tt ρ2 fun b=>if b=true then PBo w K f D (tb D) ρ2 es' (Jv (i+1)) else Jv (i+1) ρ2 es') /\
   ∀ ρ' es',Jv ds.length ρ' es'->P (.dic es')):ac1 w K f (agX w wi own fr g tt tb) ρ P:=fun σ H Q e q =>
 h σ H _ e fun ds J H1 g1 it ⟨Jv,j0,js,jd⟩ D hn=>by
  have nD:=fresh_ne g1.2 hn;have hD:f.f≠some D:=fun z=>nD (.inl z);have hM:D∉f.M:=fun z=>nD (.inr z);have e1:=e.mono g1;have c0:CSo w K f D (upd H1 D (DicO w D [])) (vA own fr ρ) [] (y6 own fr σ) (upd H1 D (DicO w D [])):=⟨agD (adM e1) hn,Same.refl _,fun _ _=>rfl,[],zB,.nil⟩;refine amz it hD hM c0 (jN hn) Jv j0 (js D) fun ρ' es' σ' H' c' p=>?_;refine q (.dic es') D H' (g1.trans ⟨((jN hn).trans c'.sm).trans same_with,⟨c'.env.fd.fd,fun b hb=>c'.env.fd.mm b (aqw _ hb),fun p e hp=>c'.env.fd.nm p e (aqw _ hp)⟩,fun b hb=>?_⟩) (g1.free e.fd hn) c'.own (jd ρ' es' p);rw [c'.kp b hb,zx];obtain⟨o,h3⟩:=g1.2.mm b hb;exact zL h3 hn
theorem aoY {te:TE} {P:DV->Prop} (h:ac1 w K f te ρ fun c=>∃ kvs,c=.dic kvs/\P (.mon (jQ w K kvs))):PEv K f te ρ P:=fun σ H Q e q=>h σ H Q e fun c D H' g hn ow ⟨kvs,ec,p⟩=>by
 subst ec;obtain⟨xs,h1,h2⟩:=ow;have nD:=fresh_ne e.fd hn;exact q (.mon (jQ w K kvs)) (.ref D) H' g (fun H'' s=>⟨D,xs,rfl,s D _ (zJ nD h1),EntR.mono (same_with.trans s) h2⟩) p
theorem apW {te:TE} {R:DV->Prop} (h:PEv K f te ρ R):PSv K f (adq te) ρ R:=fun σ H E e q=>h σ H _ e fun x v H' g r p=>q x v H' g r p
end
end L2
end
section
namespace L2
open PySem PySem.Spec PyProof.Rows PySem.SetTable
end L2
end
section
namespace L2
open PySem PySem.Spec PyProof.Rows PySem.SetTable
noncomputable def byT (w:World):Bool:=w.params.followText "set-order"
structure ISet (w:World) (h:Heap) (a:Addr) (xs:List (Int×Tok)) (o:Obj) (es:Array (Int×Value)) (ep:Nat) (t:SetTable):Prop where
 ob:h.get? a=some o
 ex:o.ExactSet
 da:o.data=.set es ep t
 el:es.toList=xs.map fun x=>(hashInt x.1,Value.int x.1 x.2)
 ok:ST.TOk t (xs.map fun x=>hashInt x.1)
 pl:t.plain=true
 ld:byT w=true \/ t.led=true
end L2
end
section
namespace L2
open PySem PySem.Spec PyProof.Rows PySem.SetTable
end L2
end
section
namespace L2
open PySem PySem.Spec PyProof.Rows PySem.SetTable PySem.W
end L2
end
section
namespace L2
open PySem PySem.Spec PyProof.Rows
end L2
end
section
namespace L2
open PySem PySem.Spec PyProof.Rows
structure TV (K:aqu) (f:Fx) (H0:Hp) (a:Addr) (as:List Addr) (ρ:zr) (rows:List (List Int)) (σ:St) (H:Hp):Prop where
 env:EnvOk K (f.withs (a :: as)) ρ σ H
 go:Goes f H0 H
 na:H0 a=none
 nas:∀ x∈as,H0 x=none
 tab:TabAt H a as rows
end L2
end
section
namespace L2
open PySem PySem.Spec PyProof.Rows
theorem aeI {a b:Int} {s t:Tok} {c:Value}:∀ (l:List Value),TriplesOk l->TriplesOk (l++[.int a s,.int b t,c]):=by
 intro l
 fun_induction TriplesOk l with
 | case1=>intro _;trivial
 | case2 _ _ _ _ _ r ih=>intro h;exact ih h
 | case3=>intro h;exact h.elim
theorem agY {pos:Pos} {a b:Int} {s t:Tok} {c cv:Value}:∀ (l:List Value),TriplesOk l->codeAmong pos (l++[.int a s,.int b t,c])=some cv->codeAmong pos l=some cv \/ cv=c:=by
 intro l
 fun_induction TriplesOk l with
 | case1 =>
  intro _ h;have h':(if a == pos.line && b == pos.col then some c else codeAmong pos [])=some cv:=h;split at h'
  ·cases h';exact .inr rfl
  ·cases h'
 | case2 i ti j tj v r ih =>
  intro h0 h;have h':(if i == pos.line && j == pos.col then some v else codeAmong pos (r++[.int a s,.int b t,c]))=some cv:=h;show (if i == pos.line && j == pos.col then some v else codeAmong pos r)=some cv \/ _;split at h'
  ·rename_i q;rw [if_pos q];exact .inl h'
  ·rename_i q;rw [if_neg q];exact ih h0 h'
 | case3=>intro h;exact h.elim
section
variable {X:Cx} {pins:List (Addr×Obj)} {σ:St} {H:Hp} {s:Shared}
theorem Inv.tabAt (I:Inv X pins σ H s) {c P:Addr} {q:Str} (hq:q∈lamDefs) (h1:arG X.K c P=true) (h2:ary X.K (.ref c) q=true):H P=some (.tbl (lamQ q)) :=
 I.env0.tabs c P q hq h1 h2
theorem Inv.bltAt (I:Inv X pins σ H s) {P:Addr} {ps:Array Value} (hP:s.heap.get? P=some (asz ps)):s.heap.BuiltinsAt X.mg P:=by
 obtain⟨b,o,h1,h2,h3,h4,h5,h6⟩:=I.ok.mod.bm;have h3':=I.bk _ _ h3;refine⟨b,o,h1,h2,fun e=>?_,fun e=>?_,h3',h4,h5,h6⟩
 ·obtain⟨u,es,ep,e1,d,_⟩:=I.ok.mod.glob.keeps I.bk;rw [e,e1] at h3';cases h3';rw [h6] at d;cases d
 ·rw [e,hP] at h3';cases h3';cases h6
theorem akJ {params:Arguments} {body:Expr} {sc:Scope} {pos:Pos} {c P:Addr} {q:Str} {clos:List (Str×Addr)} {Q:Value->Shared->Prop} {E:Value->Shared->Prop} (I:Inv X pins σ H s)
  (hq:q∈lamDefs) (hc:X.env.code=.ref c) (h1:arG X.K c P=true) (h2:ary X.K (.ref c) q=true) (hqu:X.env.qual ++ "<lambda>"=lamQ q)
  (hcl:closureFor sc X.env=pure clos) (hdef:defaultsOf params X.env=([],[]))
  (h:∀ f c' pm ctv s' H',Inv X pins σ H' s'->Same H H'->s'.heap.get? f=some (auh "<lambda>" (lamQ q) params body sc clos pm c' ctv)->s'.heap.CodeRec (.ref c') (lamQ q)->Q (.ref f) s') :
  wpAny (model X.prog X.w) X.A (eval (.Lambda params body sc pos) X.env) Q E s:=by
 have hH:=I.tabAt hq h1 h2;obtain⟨ps,hP,tr,am⟩:=I.hok P _ hH;have gl:=I.ok.mod.glob.keeps I.bk;have C:=auB I.kIn h1;refine PySem.W.kla_eval hdef ?_;rw [hqu];cases hf:codeAmong pos ps.toList with
 | some cv =>
  obtain⟨c',rfl,hc',rc⟩:=am pos cv hf;refine PySem.W.kla_makeFunctionHit hcl I.ok.glob gl hc C hP tr hf (I.bltAt hP) fun ctv h' tk k sz=>?_;refine h _ c' _ ctv _ H (I.kept (t':=tk) fun b u e=>aqD _ (k b u e)) (Same.refl _) (aq3 _ rfl) ?_;obtain⟨c2,oc,vs,tq,e1,e2,e3⟩:=rc;exact⟨c2,oc,vs,tq,e1,aqD _ (k _ _ e2),e3⟩
 | none =>
  have hgP:mainGlobals≠P:=fun e=>by
   obtain⟨u,es,ep,e1,d,_⟩:=gl;rw [e,hP] at e1;cases e1;cases d
  refine PySem.W.kla_makeFunction hcl I.ok.glob gl hc C hP tr hf hgP (I.bltAt hP) fun c' ctv h' tk hx hge hlt hrec htb=>?_;have hn:H c'=none:=I.hok.fresh hge;have nc:∀ b o,s.heap.get? b=some o->b≠c':=fun b o e=>aq5 (aq4 (aqI e) hge);have hPc:P≠c':=nc _ _ hP;have kp:∀ (ob:Obj) b o,b≠P->s.heap.get? b=some o->(h'.push ob).get? b=some o:=fun ob b o n e=>aqD _ (hx b o n e);have tp:∀ ob:Obj,(h'.push ob).get? P=some (asz (ps++#[rawInt pos.line,rawInt pos.col,.ref c'])):=fun ob=>aqD _ htb;have hrec':∀ ob:Obj,(h'.push ob).CodeRec (.ref c') (lamQ q):=fun ob=>by
   obtain⟨c2,oc,vs,tq,e1,e2,e3⟩:=hrec;exact⟨c2,oc,vs,tq,e1,aqD _ e2,e3⟩
  have sm:Same H (upd H c' (.own P)):=yj hn _;refine h _ c' _ ctv _ (upd H c' (.own P)) (I.un (t':=tk) ⟨fun b o e n _ _=>kp _ b o (fun z=>by rw [z,hH] at n;cases n) e,fun b o e n _ _=>⟨o.slots,kp _ b o (fun z=>by rw [z,hH] at n;cases n) e⟩,fun b o e n _=>by rw [zx (nc b o e)];exact n,fun b o e _=>?_,
   fun b xs e=>sm _ _ e,fun b o u e=>sm _ _ e,fun b z e=>sm _ _ e⟩ fun b o e=>?_) sm (aq3 _ rfl) (hrec' _)
  ·by_cases hb:b=P
   ·subst hb;exact⟨_,tp _⟩
   ·exact⟨o,kp _ b o hb e⟩
  ·by_cases hb:b=c'
   ·subst hb;rw [zB] at e;cases e;obtain⟨c2,oc,vs,tq,e1,e2,e3⟩:=hrec' (auh "<lambda>" (lamQ q) params body sc clos ((X.mg "__name__").getD .none) b ctv);cases e1;exact⟨_,e2⟩
   ·rw [zx hb] at e;by_cases hbP:b=P
    ·subst hbP;rw [hH] at e;cases e;refine⟨_,tp _,?_,fun pos' cv z=>?_⟩
     ·rw [auC];exact aeI _ tr
     ·rw [auC] at z;rcases agY _ tr z with z | z
      ·obtain⟨c3,e1,e2,c4,oc,vs,tq,e3,e4,e5⟩:=am pos' cv z;cases e3;exact⟨c3,e1,sm _ _ e2,c3,oc,vs,tq,rfl,kp _ _ _ (fun w=>by rw [w,hH] at e2;cases e2) e4,e5⟩
      ·exact⟨c',z,zB,hrec' _⟩
    ·refine (I.hok b o e).stay (fun d u hd r=>kp _ d u ?_ r) (fun d r=>sm _ _ r) fun d xs r=>sm _ _ r;rcases hd with hd | hd
     ·rw [hd];exact hbP
     ·intro w;rw [w,hH] at hd;cases hd
end
def Reads (P:Program) (w:World) (env:Env) (h:Heap) (e:Expr) (R:Value->Prop):Prop :=
 ∀ (A:Around) (s:Shared) (Q:Value->Shared->Prop) (E:Value->Shared->Prop),s.heap=h->(∀ v tk,R v->Q v { s with toks:=tk })->wpAny (model P w) A (eval e env) Q E s
section
variable {P:Program} {w:World} {env:Env} {h:Heap} {pos:Pos}
theorem akK {x:Str} {u:Value} {m:Str->Option Value} (hk:env.scope.kind=.function) (hx:env.kindOf x=some .local) (hn:h.Ns env.locals m) (hm:m x=some u) (hd:(x == ("__debug__":Str))=false:=by decide) :
  Reads P w env h (.Name x pos) (·=u):=fun A s Q E e q=>wpAny_Name (wpAny_loadName_local hk hx (by rw [e];exact hn) hm (q u s.toks rfl)) hd
theorem amB {x:Str} {u:Value} {c:Addr} (hk:env.scope.kind=.function) (hx:env.kindOf x=some .free) (hc:env.cells.lookup x=some c) (hu:h.IsCell c (some u)) (hd:(x == ("__debug__":Str))=false:=by decide) (hcd:(x == ("__classdict__":Str))=false:=by decide) :
  Reads P w env h (.Name x pos) (·=u):=fun A s Q E e q=>wpAny_Name (wpAny_loadName_free hk hx hc (by rw [e];exact hu) (q u s.toks rfl) hcd) hd
theorem akL {i:Int} {j:_}:Reads P w env h (.Constant (.int i) j pos) (fun v=>∃ t,v=.int i t):=fun A s Q E e q=>wpAny_Constant_int (q _ _ ⟨_,rfl⟩)
theorem akM {a b:Expr} {l:Addr} {items:Array Value} {k:Int} {x:Value} (ha:Reads P w env h a (·=.ref l)) (hb:Reads P w env h b (fun v=>∃ t,v=.int k t)) (hl:h.IsList l items) (h0:0<=k) (hf:k<2 ^ 63) (hx:items[k.toNat]?=some x) (hs:aci b) :
  Reads P w env h (.Subscript a b pos) (·=x):=fun A s Q E e q=>by
 refine Subscript_ (ha A s _ E e fun v tk ev=>?_);subst ev;refine hb A _ _ E e fun v tk ⟨t,ev⟩=>?_;subst ev;refine item_listR (items:=items) (by rw [<-e] at hl;exact hl) h0 hf hx ?_ (hs _ _);exact q x tk rfl
end
section
variable {P:Program} {w:World} {A:Around} {s:Shared} {f c:Addr} {name qual x:Str} {params:Arguments} {body:Expr} {sc:Scope} {clos:List (Str×Addr)} {pm ctv v:Value} {R:Value->Prop} {Q:Value->Shared->Prop} {E:Value->Shared->Prop}
theorem amC (ho:s.heap.get? f=some (auh name qual params body sc clos pm c ctv)) (hcd:s.heap.CodeRec (.ref c) qual) (hroom:A.depth<recursionLimit) (lim:s.heap.NoLimit)
  (hb:bindArgs (PySem.W.kla_fn name qual params body sc clos pm (.ref c) ctv) ⟨[v],[]⟩=pure [(x,v)]) (hx:sc.names.lookup x=some .local) (hcell:∀ y∈sc.names,y.2≠.cell) (hco:sc.isCoroutine=false) (hgen:sc.isGenerator=false) (hk:sc.kind=.function)
  (hr:∀ h₁:Heap,h₁.Ns s.heap.objs.size (fun y=>[(x,v)].reverse.lookup y)->(∀ b o,s.heap.get? b=some o->h₁.get? b=some o)->Reads P w (auI qual sc s.heap.objs.size f (.ref c) clos) h₁ body R)
  (hq:∀ (u:Value) (h₁:Heap) tk,R u->(∀ b o,s.heap.get? b=some o->h₁.get? b=some o)->Q u { s with heap:=h₁,toks:=tk }) :
  wpAny (model P w) A (call (.ref f) [v]) Q E s:=by
 refine wpAny_call (PySem.W.kla_callFunE hroom ho rfl hco hgen rfl hcd ?_);rw [hb];refine wpAny_pure (wpAny_newFunctionEnv hcell (fun y hy=>?_) (fun h₁ hns hsb=>?_) hk)
 ·rw [aqF.mp hy];exact hx
 have hk₁:∀ b o,s.heap.get? b=some o->h₁.get? b=some o:=fun b o e=>hsb.extBut b o (aq5 (aqI e)) (aqD _ e);refine⟨lim.keeps hk₁,PySem.W.kla_codeExpr ?_⟩;exact hr h₁ hns hk₁ _ _ _ _ rfl fun u tk ru=>hq u h₁ tk ru hk₁
end
end L2
end
section
namespace L2
open PySem PySem.Spec PyProof.Rows
theorem abS {β:Type}:∀ {l:List (Nat×β)} {x:Nat} {y:β},l.lookup x=some y->(x,y)∈l
 | [],_,_,h=>by cases h
 | (a,b) :: r,x,y,h=>by
  rw [art] at h;cases e:x == a with
  | true=>rw [e] at h;cases h;rw [beq_iff_eq.mp e];exact aqv
  | false=>rw [e] at h;exact aqw _ (abS h)
noncomputable def abh (K:aqu) (ts:List (Addr×Str)):Bool :=
 ts.all (fun p=>(K.lookup p.1).isNone && K.any fun c=>arG K c.1 p.1) && K.all fun x=>match x.2.data with
  | .fields vs=>(match (vs[1]?:Option Value),(vs[11]?:Option Value) with
   | some (.str q _),some (.ref P)=>!lamDefs.contains q || decide (ts.lookup P=some (lamQ q))
   | _,_=>true)
  | _=>true
theorem aoZ {K:aqu} {h:Heap} (X:K.In h) {ts:List (Addr×Str)} (hB:abh K ts=true) {c P:Addr} {q:Str} (hq:q∈lamDefs) (h1:arG K c P=true) (h2:ary K (.ref c) q=true):ts.lookup P=some (lamQ q):=by
 unfold abh at hB;rw [aqy] at hB;obtain⟨c2,oc,us,tq,z1,z2,z3,z4⟩:=PySem.W.codeRec_of X h2;cases z1;unfold arG at h1;split at h1
 ·rename_i vs _ hk;have hm:=asa.mp hB.2 _ (abS hk);dsimp only at hm;have z5:=X _ _ hk;rw [z2] at z5;cases z5;cases z3;have e11:(us[11]?:Option Value)=some (.ref P):=by
   simp only [aqy] at h1;obtain⟨⟨⟨⟨⟨e1,_⟩,_⟩,_⟩,_⟩,_⟩:=h1;split at e1
   ·rename_i P' h11;rw [h11,beq_iff_eq.mp e1]
   ·cases e1
  rw [z4,e11] at hm;simp only [atw,Bool.not_eq_true'] at hm;rcases hm with z | z
  ·have:=List.contains_iff_mem.mpr hq;rw [this] at z;cases z
  ·exact of_decide_eq_true z
 ·cases h1
noncomputable def ad3 (ts:List (Addr×Str)) (tr:Bool) (a:Addr) (o:Obj) (xs:List V):Hp:=fun b=>match ts.lookup b with
 | some q=>some (.tbl q)
 | none=>if tr=true/\b=a then some (.frz o (.lst xs)) else none
theorem ajf {ts:List (Addr×Str)} {tr:Bool} {a b:Addr} {o:Obj} {xs:List V} {q:Str} (h:ts.lookup b=some q):ad3 ts tr a o xs b=some (.tbl q):=by unfold ad3;rw [h]
theorem akN {ts:List (Addr×Str)} {tr:Bool} {a b:Addr} {o:Obj} {xs:List V} {u:HO} (h:ad3 ts tr a o xs b=some u):(∃ q,ts.lookup b=some q/\u=.tbl q) \/ (tr=true/\b=a/\u=.frz o (.lst xs)):=by
 unfold ad3 at h;cases e:ts.lookup b with
 | some q=>rw [e] at h;cases h;exact .inl ⟨q,rfl,rfl⟩
 | none =>
  rw [e] at h;dsimp only at h;split at h
  ·rename_i z;cases h;exact .inr ⟨z.1,z.2,rfl⟩
  ·cases h
theorem ajg {P:Program} {w:World} {K:aqu} {mg mb:Str->Option Value} {CX:CXT} {k:Nat} {fa a:Addr} {fd:FuncData} {x:Str} {sp:Sp} {s₁:Shared} {vs:List Value} {ns:List Int} {ts:List (Addr×Str)}
  (hB:abh K ts=true) (hts:∀ p∈ts,s₁.heap.get? p.1=some (asz #[])) (hbm:∃ b o,mg "__builtins__"=some (.ref b)/\b≠builtinsNs/\s₁.heap.get? b=some o/\o.cls=.type "module"/\o.dict=some builtinsNs/\o.data=.plain)
  (KX:K.In s₁.heap) (hns:s₁.heap.Ns mainGlobals mg) (hb:s₁.heap.Ns builtinsNs mb) (hbb:∀ x:Str,x ≠ "__name__"->mb x=bootBuiltins x) (hlim:s₁.heap.NoLimit) (hg:s₁.gens=#[])
  (ha:s₁.heap.get? a=some { cls:=.type "list",data:=.seq vs.toArray }) (hi:IntsAre vs ns) (hl:ns.length<=sizeLine) (hr:Room k callerA)
  (F:∀ base:Heap,K.In base->base.Ns mainGlobals mg->FnOk P w K mg base CX k fa fd [x] sp) (hbind:∀ (s:Shared) (u:Value),BindsTo s fd ⟨[u],[]⟩ [(x,u)])
  (hsp:∀ H:Hp,SqL K H a (ns.map V.int)->sp [.ref a] H (fun v _=>v=.bl true) fun _ _ _=>False)
  (hCX:∀ H e s',CX [] H s₁ (fun _ _ _=>False) e s'->False) :
  codeAny (model P w) callerA (.call (.ref fa) ⟨[.ref a],[]⟩) (fun r s'=>r=.ok (.ret (.bool true))/\OldK s₁.heap s'.heap/\s'.os=s₁.os/\AllBare s'.gens) s₁:=by
 have rv:=adJ hi;have lenV:=hi.length;have hB1:∀ p∈ts,K.lookup p.1=none/\∃ c,arG K c p.1=true:=fun p hp=>by
  have h1:=asa.mp (aqy _ _▸hB).1 p hp;rw [aqy] at h1;obtain⟨c,_,hc⟩:=asd.mp h1.2;exact⟨asY.mp h1.1,c.1,hc⟩
 obtain⟨tr,htr⟩:∃ tr:Bool,tr=(K.lookup a).isNone:=⟨_,rfl⟩;generalize hH:ad3 ts tr a { cls:=.type "list",data:=.seq vs.toArray } (ns.map V.int)=H;have ofH:∀ {b u},H b=some u->(∃ q,(b,q)∈ts/\u=.tbl q/\s₁.heap.get? b=some (asz #[])) \/ (tr=true/\b=a/\u=.frz { cls:=.type "list",data:=.seq vs.toArray } (.lst (ns.map V.int))):=fun {b u} e=>by
  rw [<-hH] at e;rcases akN e with⟨q,e1,e2⟩ | z
  ·exact .inl ⟨q,abS e1,e2,hts _ (abS e1)⟩
  ·exact .inr z
 have ataT:ts.lookup a=none:=by
  cases e:ts.lookup a with
  | none=>rfl
  | some q=>have:=hts _ (abS e);rw [ha] at this;cases this
 have hok:HOk P w H s₁.heap:=fun b u e=>by
  rcases ofH e with⟨q,e1,rfl,e3⟩ | ⟨e1,rfl,rfl⟩
  ·exact⟨#[],e3,trivial,fun pos cv z=>by cases z⟩
  ·exact⟨ha,by rw [aqr];exact hl,vs,_,rv,ha⟩
 have free:∀ {b:Addr} {o:Obj},s₁.heap.get? b=some o->(∀ vs,o.data≠.fields vs)->(∀ vs n,o.data≠.seq vs n)->H b=none:=fun {b o} e d1 d2=>by
  cases q:H b with
  | none=>rfl
  | some u =>
   rcases ofH q with⟨_,_,_,e3⟩ | ⟨_,rfl,_⟩
   ·rw [e] at e3;cases e3;exact absurd rfl (d1 _)
   ·rw [ha] at e;cases e;exact absurd rfl (d2 _ _)
 have nsK:∀ {b:Addr} {m:Str->Option Value},s₁.heap.Ns b m->(afd s₁.heap H).Ns b m:=fun {b m} ⟨o,es,ep,e,d,r⟩=>⟨o,es,ep,acz e (free e (fun _ z=>by rw [d] at z;cases z) fun _ _ z=>by rw [d] at z;cases z),d,r⟩;have hKb:K.In (afd s₁.heap H):=fun b o e=>acz (KX b o e) (by
  cases q:H b with
  | none=>rfl
  | some u =>
   rcases ofH q with⟨_,e1,_,_⟩ | ⟨e1,rfl,_⟩
   ·rw [(hB1 _ e1).1] at e;cases e
   ·rw [htr,asY] at e1;rw [e1] at e;cases e)
 have hM:Mod K mg (afd s₁.heap H):=⟨hKb,nsK hns,⟨mb,nsK hb,hbb⟩,let⟨mc,h1,h2⟩:=hlim;⟨mc,nsK h1,h2⟩,by
  obtain⟨b,o,h1,h2,h3,h4,h5,h6⟩:=hbm;exact⟨b,o,h1,h2,acz h3 (free h3 (fun _ z=>by rw [h6] at z;cases z) fun _ _ z=>by rw [h6] at z;cases z),h4,h5,h6⟩⟩
 have tabs:TabsOk K H:=fun c P q hq h1 h2=>by rw [<-hH];exact ajf (aoZ KX hB hq h1 h2)
 have e0:Env0 P w K mg (afd s₁.heap H) callerA [] s₁ H:=⟨rfl,hM,fun b o e=>alW e,asq (aiL _ _),trivial,(fun b z=>by cases z),tabs,hok,.of_eq hg⟩;have hS:SqL K H a (ns.map V.int):=by
  cases hk:K.lookup a with
  | some o =>
   have e:=KX a o hk;rw [ha] at e;cases e;exact .inr ⟨_,vs.toArray,_,hk,rfl,rfl,rfl,by rw [aqU,lenV];exact hl,by simpa using rv⟩
  | none =>
   refine .inl (.inr ⟨{ cls:=.type "list",data:=.seq vs.toArray },?_⟩);rw [<-hH];unfold ad3;rw [ataT];exact if_pos ⟨by rw [htr,hk];rfl,rfl⟩
 refine codeAny_mono ((F _ hKb (nsK hns)).run callerA [] s₁ H ⟨[.ref a],[]⟩ [.ref a] [.ref a] _ _ hr e0 (hbind s₁ (.ref a)) (.cons rfl .nil) (hsp H hS)) fun r s' h=>?_;cases r with
 | error e=>exact (hCX H e s' h).elim
 | ok fl =>
  cases fl with
  | next=>exact asF h
  | brk=>exact asF h
  | cont=>exact asF h
  | ret u =>
   obtain⟨v,H',os,bare,un,hok',r',rfl⟩:=h;obtain rfl:u=Value.bool true:=r';refine⟨rfl,⟨fun b o e=>?_,fun b o e=>un.there b o e (by simp)⟩,os,bare⟩;cases q:H b with
   | none=>exact .inl (un.keep b o e q (fun z=>by cases z) (fun z=>by cases z))
   | some u =>
    rcases ofH q with⟨qq,e1,rfl,e3⟩ | ⟨_,rfl,rfl⟩
    ·rw [e] at e3;cases e3;obtain⟨ps,e4,_⟩:=hok' b _ (un.tbls b _ q);obtain⟨c,hc⟩:=(hB1 _ e1).2;obtain⟨oc,us,_,_,_,_,_,_,_,c1,c2,c3,c4,_⟩:=auB KX hc;refine .inr (.inl ⟨⟨c,oc,us,c1,c2,c3,c4⟩,rfl,#[],ps,rfl,?_⟩);rw [Array.empty_append];exact e4
    ·obtain⟨e1,_⟩:=hok b _ q;obtain⟨e2,_⟩:=hok' b _ (un.frzs b _ _ q);rw [e] at e1;cases e1;exact .inl e2
theorem walk_T {l:PySem.W.OpenLaw} {n k:Nat} {q:Program} {loose:List Str} {XP:(Str->Option Value)->Heap->Prop} {YP:World->Heap->Prop} {d:DefRec} {K:Params->aqu} {CX:World->CXT} {sp:World->Sp} {x:Str} (ts:List (Addr×Str))
  (hn:l.most=some n) (hn2:n<=sizeLine) (hdf:d.params.defaults=[]) (hr:Room k callerA)
  (hY:∀ (w:World) (h:Heap),YP w h->(K w.params).In h/\∀ p∈ts,h.get? p.1=some (asz #[])) (hB:∀ w:World,abh (K w.params) ts=true)
  (F:∀ (w:World) (mg:Str->Option Value) (fa:Addr) (h:Heap),(K w.params).In h->h.Ns mainGlobals mg->mg d.name=some (.ref fa) ->
   ∃ fd:FuncData,(∀ (s:Shared) (u:Value),BindsTo s fd ⟨[u],[]⟩ [(x,u)]) /\
    ∀ base:Heap,(K w.params).In base->base.Ns mainGlobals mg->FnOk l.prog w (K w.params) mg base (CX w) k fa fd [x] (sp w))
  (hsp:∀ (w:World) (H:Hp) (a:Addr) (ns:List Int),ns.length<=n->SqL (K w.params) H a (ns.map V.int)->sp w [.ref a] H (fun v _=>v=.bl true) fun _ _ _=>False)
  (hCX:∀ (w:World) (H:Hp) (s:Shared) (e:Value) (s':Shared),CX w [] H s (fun _ _ _=>False) e s'->False) :
  PySem.W.WalkO q loose XP YP l.row.toRowW d [] (fun f vs=>PySem.call f vs):=by
 refine Att.attach_call hn hdf fun w s₀ s₁ mg mb fa o pm cd doc a vs ns G Y ho hd hcd hmg hobj hints hlen hg=>?_;obtain⟨KX,hts⟩:=hY w _ Y;obtain⟨fd,hb,hF⟩:=F w mg fa _ KX G.T.g hmg;exact ajg (hB w) hts G.T.bmain KX G.T.g G.T.b G.T.builtins G.T.nolimit hg hobj hints (aqS hlen hn2) hr hF hb (fun H hS=>hsp w H a ns hlen hS) fun H e s'=>hCX w H s₁ e s'
noncomputable def aic (K:aqu) (q:Str):Bool:=K.all fun x=>!ary K (.ref x.1) q || (match x.2.data with
 | .fields vs=>(match (vs[11]?:Option Value) with | some (.ref P)=>arG K x.1 P | _=>false)
 | _=>false)
theorem ao0 {K:aqu} {q:Str} {cdv:Value} (h:aic K q=true) (hc:ary K cdv q=true):∃ c P,cdv=.ref c/\arG K c P=true/\ary K (.ref c) q=true:=by
 have hc':=hc;unfold ary at hc';split at hc'
 ·rename_i c;split at hc'
  ·rename_i a b vs d hk;have h1:=asa.mp h _ (abS hk);dsimp only at h1;rw [hc] at h1;simp only [arH,auG] at h1;split at h1
   ·rename_i P _;exact⟨c,P,rfl,h1,hc⟩
   ·cases h1
  ·cases hc'
 ·cases hc'
section
variable {P:Program} {w:World} {K:aqu} {mg:Str->Option Value} {base:Heap} {j k n:Nat} {x:Str} {st:Stmt} {ps N:List Str} {γ:Type} {pre:γ->List DV->Prop} {post:γ->PyData->Prop} {sp:Sp}
theorem Def.okL (F:Def K mg x st ps) (S:FnScope N ps (zl st)) (hn:ps.length=n) (hl:aic K x=true)
  (h:∀ (fa c Pt:Addr) (A:Around) (outer:List Env) (s:Shared) (H:Hp) (E:XK),arG K c Pt=true->ary K (.ref c) x=true->Room k (A.deeper (envOfC x (zl st) s.heap.objs.size fa (.ref c))) ->
   ∃ t,PSs (ya CX0 P w K mg base N x (zl st) fa (.ref c) A outer s H E).nox (yw st) t/\∀ (f:Fx) (xs:List DV) (c:γ),xs.length=n->pre c xs->PSd K f t (qu N xs) { nx:=fun _=>post c .none,rt:=post c }) :
  FnIn P w K mg base (k+1) x ps (spD K n pre post):=by
 obtain⟨fa,fd,F1,F2,F3⟩:=F.ex;refine⟨fa,fd,?_,F3,F1.kp,F2⟩;obtain⟨oc,od,kV,doc,pm,an,cdv,ct,osl,rfl,lk,hcd⟩:=F1.ex;obtain⟨c,Pt,rfl,l1,l2⟩:=ao0 hl hcd;refine anz lk hcd S (fun vs H Q E h=>?_) fun A outer s H vs Q E hr hs=>?_
 ·obtain⟨f,xs,c,r,hl,_⟩:=h;rw [r.length,hl,hn]
 ·obtain⟨f,xs,c,r,hl,fo,hp,q⟩:=hs;obtain⟨t,h1,h2⟩:=h fa _ Pt A outer s H E l1 l2 hr;exact⟨t,h1.nox,h2 f xs c hl hp (start N vs) H _ (jZ r fo) (fun _ _ H' g _ p=>q .none _ H' g (rep_none.mpr rfl) p) (fun d v H' g r p=>q d v H' g r p) (fun _ _ _ _ _ z=>z.elim) (fun _ _ _ _ _ z=>z.elim)⟩
end
end L2
end
section
namespace L2
open PySem PySem.Spec PyProof.Rows
section
variable {P:Program} {w:World} {env:Env} {h:Heap} {pos:Pos}
theorem Reads.imp {e:Expr} {R R':Value->Prop} (a:Reads P w env h e R) (i:∀ v,R v->R' v):Reads P w env h e R':=fun A s Q E e q=>a A s Q E e fun v tk r=>q v tk (i v r)
theorem akO {a b:Expr} {l:Addr} {items:Array Value} {k:Nat} {x:Value} (ha:Reads P w env h a (·=.ref l)) (hb:Reads P w env h b (fun v=>∃ t,v=.int k t)) (hl:IsTup h l items) (hk:k<1000) (hx:items[k]?=some x) (hs:aci b) (hg:∀ v r,letTemporaryGo a v r=pure ()) :
  Reads P w env h (.Subscript a b pos) (·=x):=fun A s Q E e q=>by
 refine Subscript_ (ha A s _ E e fun v tk ev=>?_);subst ev;refine hb A _ _ E e fun v tk ⟨t,ev⟩=>?_;subst ev;have hlt:k<items.size:=(atA.mp hx).1;exact @item_tuple _ _ _ _ _ _ _ l items (k:Int) t k x _ (by rw [<-e] at hl;exact hl) (by omega) (by omega) (seqIndex_of (by omega) (by omega) |>.trans (by rw [ass])) hx (q x tk rfl) (hs _ _) (hg _)
end
def At2 (rows:List (List Int)) (p:Int×Int) (k:Int):Prop:=0<=p.1/\0<=p.2/\∃ row,rows[p.2.toNat]?=some row/\row[p.1.toNat]?=some k
def TabQ2 (K:aqu) (H:Hp) (r:Addr) (rows:List (List Int)):Prop:=∃ rs,SqL K H r rs/\rs.length=rows.length/\∀ (i:Nat) row,rows[i]?=some row->∃ a,rs[i]?=some (.ref a)/\SqL K H a (row.map V.int)
theorem TabQ2.mono {K:aqu} {H H':Hp} {r:Addr} {rows:List (List Int)} (s:Same H H') (h:TabQ2 K H r rows):TabQ2 K H' r rows :=
 let⟨rs,h1,h2,h3⟩:=h;⟨rs,s.seq h1,h2,fun i row e=>let⟨a,e1,e2⟩:=h3 i row e;⟨a,e1,s.seq e2⟩⟩
def aid (K:aqu) (jr:Nat) (t:TA):TE:=fun σ H Q=>t σ H fun vs H1=>∃ l p1 p2 r rows,∃ (q1 q2:Int×Int),∃ k1 k2,vs=[.ref l]/\SqL K H1 l [.ref p1,.ref p2]/\SqT K H1 p1 [.int q1.1,.int q1.2]/\SqT K H1 p2 [.int q2.1,.int q2.2]/\σ[jr]?=some (some (.ref r))/\TabQ2 K H1 r rows/\At2 rows q1 k1/\At2 rows q2 k2 /\
 (k1<k2->∀ D H',Same H1 H'->H1 D=none->H' D=some (.lst [.ref p1,.ref p2])->Q (.ref D) H')/\(k2<k1->∀ D H',Same H1 H'->H1 D=none->H' D=some (.lst [.ref p2,.ref p1])->Q (.ref D) H')/\k1≠k2
section
variable {X:Cx} {p pos lpos kpos ypos xpos xpos' s1 s2 s3 s4 c1 c2:Pos} {j1 j2:_} {e:Expr} {t:TA} {x y q:Str} {params:Arguments} {sc:Scope} {c P:Addr} {jy k:Nat}
theorem agZ {K:aqu} (hK:X.K=K) (hr:Room (k+2) X.A) (hg:Gl X "sorted") (hm:X.mg "sorted"=none) (ha:PA X [e] t)
  (hq:q∈lamDefs) (hc:X.env.code=.ref c) (h1:arG K c P=true) (h2:ary K (.ref c) q=true) (hqu:X.env.qual ++ "<lambda>"=lamQ q)
  (hfr0:∀ p∈sc.names,p.2=.free->X.env.scope.names.lookup p.1=some .cell)
  (hdef:defaultsOf params X.env=([],[]))
  (hb:∀ (pm ctv v:Value) (cd:Addr) clos,bindArgs (PySem.W.kla_fn "<lambda>" (lamQ q) params (.Subscript (.Subscript (.Name y ypos) (.Subscript (.Name x xpos) (.Constant (.int 1) j1 c1) s1) s2) (.Subscript (.Name x xpos') (.Constant (.int 0) j2 c2) s3) s4) sc clos pm (.ref cd) ctv) ⟨[v],[]⟩=pure [(x,v)])
  (hx:sc.names.lookup x=some .local) (hy:sc.names.lookup y=some .free) (hcell:∀ z∈sc.names,z.2≠.cell) (hco:sc.isCoroutine=false) (hgen:sc.isGenerator=false) (hk:sc.kind=.function)
  (hN:X.N[jy]?=some y) (hyo:X.env.scope.names.lookup y=some .cell)
  (hv:bootBuiltins "sorted"=some (.builtin "sorted"):=by rfl)
  (hst:starEach [e] X.env=(false,eval e X.env) :: starEach [] X.env:=by rfl) (hpl:(backTo pos (starEach [] X.env)).any (·.1)=false:=by rfl)
  (hxd:(x == ("__debug__":Str))=false:=by decide) (hyd:(y == ("__debug__":Str))=false:=by decide) (hyc:(y == ("__classdict__":Str))=false:=by decide) :
  PE X (.Call (.Name "sorted" p) [e] [⟨some "key",.Lambda params (.Subscript (.Subscript (.Name y ypos) (.Subscript (.Name x xpos) (.Constant (.int 1) j1 c1) s1) s2) (.Subscript (.Name x xpos') (.Constant (.int 0) j2 c2) s3) s4) sc lpos,kpos⟩] pos) (aid K jy t):=by
 subst hK;intro pins s σ H Q I h;have hfr:∀ z,(z,NameKind.free)∈sc.names->∃ d,X.env.cells.lookup z=some d:=fun z hz=>I.ok.has z (.inl (hfr0 _ hz rfl));have hcl:=acL hfr;refine wpAny_Call_Name_kw (aaO I hg hm hv ?_);refine callWith_kw ?_ ?_ ?_
 rotate_left
 ·rw [hst];rfl
 ·rw [hst];exact hpl
 refine thn (ha pos pins s σ H _ I h) fun us s1 ⟨vs,H1,I1,r,q1⟩=>?_;obtain⟨l,p1,p2,ra,rows,z1,z2,k1,k2,rfl,hl,ht1,ht2,ha,hT,a1,a2,cA,cB,kne⟩:=q1;obtain⟨u,rfl,ru⟩:=vals1 r;cases ru;refine wpAny_evalAll_cons (wpAny_bind (akJ I1 hq hc h1 h2 hqu hcl hdef fun f c' pm ctv s2 H2 I2 sm ho hcd=>?_));refine wpAny_bind (wpAny_standAt (wpAny_pure (wpAny_evalAll_nil ?_)));obtain⟨its,rv,pl,_⟩:=I2.list (sm.seq hl);have eits:its=[.ref p1,.ref p2]:=by
  cases rv with
  | cons r1 t1 =>
   cases t1 with
   | cons r2 t2 =>
    cases t2;cases r1;cases r2;rfl
 subst eits;obtain⟨m,hn,hlo⟩:=id I2.loc;obtain⟨ua,rua,lk⟩:=hlo jy y (.ref ra) hN ha (.inr (.inl hyo));cases rua;obtain⟨cy,ecy,icy⟩:∃ cy,X.env.cells.lookup y=some cy/\s2.heap.IsCell cy (some (.ref ra)):=by
  rcases lk with⟨k1,_⟩ | ⟨_,cy,h3,h4⟩
  ·have k1':X.env.scope.names.lookup y=some .local:=k1;rw [hyo] at k1';cases k1'
  ·exact⟨cy,h3,h4⟩
 obtain⟨rs,hrs,rlen,hrow⟩:=hT.mono sm;obtain⟨tits,trv,tpl,tz⟩:=I2.list hrs;have lne:∀ {b:Addr} {is:Array Value},s2.heap.IsList b is->b≠X.env.locals:=fun {b is} il e=>by
  obtain⟨o,h3,h4,n5,h5⟩:=il;obtain⟨o',es,ep,h6,h7,_⟩:=hn;rw [e,h6] at h3;cases h3;rw [h7] at h5;cases h5
 have fne:f≠X.env.locals:=fun e=>by
  obtain⟨o',es,ep,h6,h7,_⟩:=hn;rw [e,h6] at ho;cases ho;cases h7
 have cne:∀ {b:Addr} {o:Obj} {vs:Array Value},s2.heap.get? b=some o->o.data=.fields vs->b≠X.env.locals:=fun {b o vs} e1 e2 e=>by
  obtain⟨o',es,ep,h6,h7,_⟩:=hn;rw [e,h6] at e1;cases e1;rw [h7] at e2;cases e2
 have back:∀ {h:Heap} {tk:Nat} {own:List (Addr×Obj)},Fr (Att.noObjs s2.heap) X.env.locals h m->News (Att.noObjs s2.heap) X.env.locals h (je (Att.noObjs s2.heap) s2.heap X.env.locals++own) ->
   (∀ b o,b≠X.env.locals->s2.heap.get? b=some o->h.get? b=some o)/\Inv X pins σ H2 { s2 with heap:=h,toks:=tk }:=fun {h tk own} F' N'=>by
  have kp:∀ b o,b≠X.env.locals->s2.heap.get? b=some o->h.get? b=some o:=fun b o nb e=>(N' (b,o) (aq1 _ (v5 nb (Att.noObjs_get _ _) e))).1;refine⟨kp,I2.keptL (t':=tk) kp ?_ fun m' hm'=>?_⟩
  ·obtain⟨o',es,ep,h6,_⟩:=F'.ns;exact⟨o',h6⟩
  ·have:m'=m:=by
    obtain⟨o,es,ep,ho,hd,_,hf⟩:=hn;obtain⟨o',es',ep',ho',hd',_,hf'⟩:=hm';rw [ho] at ho';cases ho';rw [hd] at hd';cases hd'
    funext n
    rw [<-hf n,<- hf' n]
   rw [this];exact F'.ns
 have kept:∀ {h:Heap},Fr (Att.noObjs s2.heap) X.env.locals h m->News (Att.noObjs s2.heap) X.env.locals h (je (Att.noObjs s2.heap) s2.heap X.env.locals)->∀ b o,b≠X.env.locals->s2.heap.get? b=some o->h.get? b=some o:=fun F' N' b o nb e=>(N' (b,o) (v5 nb (Att.noObjs_get _ _) e)).1
 -- one turn of the key
 have turn:∀ {pa:Addr} {z:Int×Int} {kk:Int},SqT X.K H2 pa [.int z.1,.int z.2]->At2 rows z kk->∀ (h:Heap) (tk:Nat) (own:List (Addr×Obj)),Fr (Att.noObjs s2.heap) X.env.locals h m->News (Att.noObjs s2.heap) X.env.locals h (je (Att.noObjs s2.heap) s2.heap X.env.locals++own) ->
   wpAny (model X.prog X.w) X.A.in1.in1 (call (.ref f) [.ref pa]) (KskEnd (Att.noObjs s2.heap) X.env.locals m (je (Att.noObjs s2.heap) s2.heap X.env.locals++own) kk { s2 with heap:=h,toks:=tk }) (fun _ _=>False) { s2 with heap:=h,toks:=tk }:=by
  intro pa z kk hpt hat h tk own F' N';obtain⟨kp,I3⟩:=back (tk:=tk) F' N';obtain⟨z0,z1',row,er,ek⟩:=hat;obtain⟨pits,prv,pit,_⟩:=I2.tuple hpt;obtain⟨ra',era,hra⟩:=hrow _ _ er;obtain⟨wv,ewv,rwv⟩:=trv.get era;cases rwv;obtain⟨rits,rrv,rpl,rz⟩:=I2.list hra;obtain⟨kv,ekv,rkv⟩:=rrv.get (i:=z.1.toNat) (x:=.int kk) (by rw [aqA,ek];rfl);obtain⟨tkv,rfl⟩:=rkv;obtain⟨xv,exv,rxv⟩:=prv.get (i:=0) (x:=.int z.1) rfl;obtain⟨yv,eyv,ryv⟩:=prv.get (i:=1) (x:=.int z.2) rfl;obtain⟨tx,rfl⟩:=rxv;obtain⟨ty,rfl⟩:=ryv;have pne:=tup_ne hn pit;have l1:z.2.toNat<rows.length:=(aqs.mp er).1;have l2:z.1.toNat<row.length:=(aqs.mp ek).1;have b1:row.length<=sizeLine:=by rw [aqr] at rz;exact rz
  have b2:rs.length<=sizeLine:=tz;have hline:=abH;refine amC (x:=x) (R:=(·=.int kk tkv)) (kp _ _ fne ho) ?_ hr.in1.in1.depth I3.nolimit (hb _ _ _ _ _) hx hcell hco hgen hk (fun h₁ hns k4=>?_) fun u h₁ tk1 eu k4=>?_
  ·obtain⟨c2,oc,vs,tq,e1,e2,e3,e4⟩:=hcd;exact⟨c2,oc,vs,tq,e1,kp _ _ (cne e2 e3) e2,e3,e4⟩
  ·have pit':IsTup h₁ pa pits.toArray:=akj pit fun u eu=>k4 _ _ (kp _ u pne eu);have rx:∀ {po:Pos},Reads X.prog X.w (auI (lamQ q) sc h.objs.size f (.ref c') (yi X.env sc.names [])) h₁ (.Name x po) (·=.ref pa):=akK (env:=auI (lamQ q) sc h.objs.size f (.ref c') (yi X.env sc.names [])) hk hx hns (by simp) hxd;have hyv:pits.toArray[1]?=some (.int z.2 ty):=by simpa using eyv
   have hxv:pits.toArray[0]?=some (.int z.1 tx):=by simpa using exv
   refine akM (l:=ra') (items:=rits.toArray) (k:=z.1) (akM (l:=ra) (items:=tits.toArray) (k:=z.2) (amB (c:=cy) hk hy (v9 hfr (mem_of_lookup hy) ecy) ?_ hyd hyc) ((akO (k:=1) rx akL pit' (by decide) hyv (fun _ _=>rfl) fun _ _=>rfl).imp fun v e=>⟨ty,e⟩) ?_ z1' ?_ (by simpa using ewv) (fun _ _=>rfl)) ((akO (k:=0) rx akL pit' (by decide) hxv (fun _ _=>rfl) fun _ _=>rfl).imp fun v e=>⟨tx,e⟩) ?_ z0 ?_ (by simpa using ekv) (fun _ _=>rfl)
   ·obtain⟨o,e1,e2⟩:=icy;exact⟨o,k4 _ _ (kp _ _ (I2.cne y cy ecy) e1),e2⟩
   ·obtain⟨o,h3,h4⟩:=tpl.isList;exact⟨o,k4 _ _ (kp _ _ (lne tpl.isList) h3),h4⟩
   ·omega
   ·obtain⟨o,h3,h4⟩:=rpl.isList;exact⟨o,k4 _ _ (kp _ _ (lne rpl.isList) h3),h4⟩
   ·omega
  ·subst eu;exact⟨h₁,tk1,tkv,rfl,rfl,⟨F'.ns.keeps k4,fun b o e=>k4 _ _ (F'.keep b o e),F'.above⟩,N'.grown k4⟩
 show wpAny _ _ (call (.builtin "sorted") [.ref l] [(at9 "key",.ref f)]) _ _ s2;have fin:∀ {pa pb:Addr},(∀ D H',Same H1 H'->H1 D=none->H' D=some (.lst [.ref pa,.ref pb])->Q (.ref D) H')->∀ (D:Addr) c (h':Heap) tk,Fr (Att.noObjs s2.heap) X.env.locals h' m->News (Att.noObjs s2.heap) X.env.locals h' ((D,PySem.W.listOf (arK [.ref pa,.ref pb]) c) :: je (Att.noObjs s2.heap) s2.heap X.env.locals)->(∀ q∈je (Att.noObjs s2.heap) s2.heap X.env.locals,q.1<D)->EP X pins σ Q (.ref D) { s2 with heap:=h',toks:=tk }:=by
  intro pa pb cc D c h' tk F' N' hD;have kp:=kept F' fun p hp=>N' p (aqw _ hp);have nD:∀ b u,s2.heap.get? b=some u->b≠D:=fun b u eb=>by
   by_cases hb:b=X.env.locals
   ·intro z;have:=(N' _ aqv).2.1;exact this (z.symm.trans hb)
   ·exact aq5 (hD (b,u) (v5 hb (Att.noObjs_get _ _) eb))
  have hDn:H2 D=none:=by
   cases z:H2 D with
   | none=>rfl
   | some u =>
    obtain⟨v,hv⟩:=(I2.hok D u z).is;exact absurd rfl (nD D v hv)
  have nsK:∀ m',s2.heap.Ns X.env.locals m'->h'.Ns X.env.locals m':=fun m' hm'=>by
   have:m'=m:=by
    obtain⟨o,es,ep,ho,hd,_,hf⟩:=hn;obtain⟨o',es',ep',ho',hd',_,hf'⟩:=hm';rw [ho] at ho';cases ho';rw [hd] at hd';cases hd'
    funext n
    rw [<-hf n,<- hf' n]
   rw [this];exact F'.ns
  have hLo:∃ o,h'.get? X.env.locals=some o:=let⟨o,_,_,ho,_⟩:=F'.ns;⟨o,ho⟩
  refine⟨.ref D,upd H2 D (.lst [.ref pa,.ref pb]),I2.laidL (t':=tk) kp hLo nsK nD hDn ⟨by show 2<=sizeLine;decide +kernel,[.ref pa,.ref pb],c,.cons rfl (.cons rfl .nil),(N' _ aqv).1⟩,rfl,cc D _ (sm.trans (yj hDn _)) (sm.free hDn) zB⟩
 refine ksk_two (h₀:=Att.noObjs s2.heap) (L:=X.env.locals) (m:=m) (news:=je (Att.noObjs s2.heap) s2.heap X.env.locals) (b:=false) (f:=.ref f) k1 k2 (Att.fr_all hn) ajN pl.isList (ksk_s1 _ _) (fun x=>ksk_l1 _ _) (fun x=>rfl) (turn (sm.seqT ht1) a1) (turn (sm.seqT ht2) a2) (fun hle=>?_) fun hle=>?_
 ·have hle':k1<=k2:=hle;exact fin (cA (by omega))
 ·have hle':k2<=k1:=hle;exact fin (cB (by omega))
end
section
variable {K:aqu} {f:Fx} {ρ:zr} {t:TA} {P:PyData->Prop} {jr:Nat} {rows:List (List Int)}
theorem akP {H:Hp} {v:V} (r:Rep K H (.list (rows.map fun r=>.list (r.map .int))) v):∃ a,v=.ref a/\TabQ2 K H a rows:=by
 obtain⟨a,xs,rfl,h1,h2⟩:=rep_list.mp r;refine⟨a,rfl,xs,h1,by rw [h2.length,aqr],fun i row e=>?_⟩;obtain⟨u,e1,e2⟩:=h2.get (i:=i) (d:=.list (row.map .int)) (by rw [aqA,e];rfl);obtain⟨b,ys,rfl,h3,h4⟩:=rep_list.mp e2;rw [h4.ints] at h3;exact⟨b,e1,h3⟩
theorem ajh (hi:ρ[jr]?=some (some (.dat (.list (rows.map fun r=>.list (r.map .int)))))) (h:PAd K f t ρ fun xs=>∃ (p q:Int×Int) (k1 k2:Int),xs=[.dat (.list [.tuple [.int p.1,.int p.2],.tuple [.int q.1,.int q.2]])]/\At2 rows p k1/\At2 rows q k2/\k1≠k2/\(k1<k2->P (.list [.tuple [.int p.1,.int p.2],.tuple [.int q.1,.int q.2]]))/\(k2<k1->P (.list [.tuple [.int q.1,.int q.2],.tuple [.int p.1,.int p.2]]))) :
  PEd K f (aid K jr t) ρ P:=fun σ H Q e q=>h σ H _ e fun xs vs H1 g1 r1 ⟨p,z,k1,k2,ex,a1,a2,ne,c1,c2⟩=>by
 subst ex;obtain⟨v,s1,r2⟩:=(e.mono g1).get jr _ hi;obtain⟨ra,rfl,hT⟩:=akP (show Rep K (hide H1 f) _ v from r2);cases r1 with
 | cons r0 rt =>
  cases rt;obtain⟨l,ys,rfl,h1,h2⟩:=rep_list.mp (show Rep K (hide H1 f) _ _ from r0);obtain⟨y1,ys',rfl,hy1,h2'⟩:=reps_cons.mp h2;obtain⟨y2,ys'',rfl,hy2,h2''⟩:=reps_cons.mp h2';have:=reps_nil.mp h2'';subst this;obtain⟨p1,w1,rfl,hp1,hw1⟩:=rep_tuple.mp hy1;obtain⟨p2,w2,rfl,hp2,hw2⟩:=rep_tuple.mp hy2;have e1:=Reps.ints (ns:=[p.1,p.2]) hw1;have e2:=Reps.ints (ns:=[z.1,z.2]) hw2;subst e1 e2;have done:∀ {pa pb:Addr} {da db:PyData},Rep K (hide H1 f) da (.ref pa)->Rep K (hide H1 f) db (.ref pb)->P (.list [da,db])->∀ D H',Same H1 H'->H1 D=none->H' D=some (.lst [.ref pa,.ref pb])->Q (.ref D) H':=fun {pa pb da db} ra rb pp D H' sm hn hD=>by
   have g2:Goes f H1 H':=.of_same sm g1.2;exact q _ _ H' (g1.trans g2) (rep_list.mpr ⟨D,_,rfl,.of (zJ (fresh_ne g1.2 hn) hD),.cons' (Rep.mono g2.1 _ _ ra) (.cons' (Rep.mono g2.1 _ _ rb) (reps_nil.mpr rfl))⟩) pp
  exact⟨l,p1,p2,ra,rows,p,z,k1,k2,rfl,(zm _ _).seq h1,(zm _ _).seqT hp1,(zm _ _).seqT hp2,s1,hT.mono (zm _ _),a1,a2,fun lt=>done hy1 hy2 (c1 lt),fun lt=>done hy2 hy1 (c2 lt),ne⟩
end
end L2
end
section
namespace My
open PySem PySem.Spec PyProof.Rows L2
abbrev pf:List Str:=["rows"]
abbrev ph:List Str:=["rows","cut","gate"]
abbrev pj:List Str:=["rows","x","y"]
abbrev pq:List Str:=["rows","cut","cell"]
abbrev pz:List Str:=["rows","cut"]
abbrev pA:List Str:=["rows","cut","point"]
abbrev pB:List Str:=["rows","height","pair","regions_at"]
abbrev pC:List Str:=["a","b","rows"]
abbrev pE:List Str:=["row"]
abbrev pF:List Str:=["rows","cut","start"]
abbrev pG:List Str:=["rows","height"]
abbrev pH:List Str:=["x","y"]
abbrev pI:List Str:=["_law_feed_here","_law_many"]
abbrev pJ:List Str:=["gate","rows","cut"]
abbrev pK:List Str:=["things"]
abbrev pL:List Str:=["rows","gate"]
abbrev pM:List Str:=["pair","some"]
abbrev pN:List Str:=["_law_feed_here","_law_far","_law_base"]
abbrev pO:List Str:=["x","y","tall"]
abbrev pP:List Str:=["lower","upper"]
abbrev pQ:List Str:=["word","path","rows","regions_at"]
abbrev pR:List Str:=["rows","height","regions_at"]
abbrev pS:List Str:=["rows","path","regions_at"]
abbrev pV:List Str:=["rows","height","cell"]
abbrev pW:List Str:=["cell","pair","regions_at"]
abbrev pX:List Str:=["_law_script","_law_k"]
abbrev pY:List Str:=["_law_feed_here"]
abbrev pZ:List Str:=["_law_feed_here","_law_rows"]
abbrev qa:List Str:=["_law_rows","_law_cut_here","_law_line"]
abbrev qb:List Str:=["_law_upper","_law_lower"]
abbrev qc:List Str:=["_law_rows","_law_cut_here","_law_some","_law_upper","_law_lower"]
abbrev qd:List Str:=["_law_rows","_law_height_here","_law_upper","_law_lower"]
abbrev qe:List Str:=["_law_rows","_law_height_here"]
abbrev qf:List Str:=["_law_script"]
abbrev qg:List Str:=["x","y","way"]
abbrev qh:List Str:=["_law_point","_law_lower"]
abbrev qi:List Str:=["a","b","rows","cut","x","y","high"]
abbrev qj:List Str:=["at","other","pair"]
abbrev qk:List Str:=["x","y","rows","height","pair","regions_at"]
abbrev ql:List Str:=["_law_a","_law_b","_law_rows"]
abbrev qm:List Str:=["rows","cut","gate","across","down"]
abbrev qo:List Str:=["_law_y","_law_feed_here","_law_wide","_law_far","_law_base"]
abbrev qr:List Str:=["_law_x","_law_feed_here","_law_far","_law_base"]
abbrev qt:List Str:=["cell","rows","height","pair","regions_at"]
local macro_rules | `(tactic| walk_at "w")=>`(tactic| repeat walk_at "dl")
local macro_rules | `(tactic| walk_at "c")=>`(tactic| exact⟨rfl,by decide +kernel,of_decide_eq_true (by kernel_rfl),of_decide_eq_true (by kernel_rfl),of_decide_eq_true (by kernel_rfl),rfl⟩)
local macro_rules | `(tactic| walk_at "s")=>`(tactic| exact⟨rfl,rfl,rfl,by decide +kernel,rfl,by decide +kernel,by decide +kernel⟩)
noncomputable def top (i:Nat):Stmt:=PySem.Challenge.pw_heightrings_k40_nodes_by_regions.main.body.getD i (.Pass ⟨0,0,0,0⟩)
noncomputable abbrev aeJ:=top 1
noncomputable abbrev ao1:List Str:=pf
theorem amD:FnScope ao1 pf (zl aeJ):=by walk_at "s"
noncomputable abbrev abi:=top 2
noncomputable abbrev akQ:List Str:=["rows","wide","tall"]
theorem sc_points:FnScope akQ pf (zl abi):=by walk_at "s"
noncomputable abbrev qJ:=top 3
noncomputable abbrev afU:List Str:=["rows","x","y","wide","tall"]
theorem sc_has_point:FnScope afU pj (zl qJ):=by walk_at "s"
noncomputable abbrev jR:=top 4
noncomputable abbrev aeK:List Str:=["rows","x","y","beside"]
theorem sc_neighbours:FnScope aeK pj (zl jR):=by walk_at "s"
noncomputable abbrev acp:=top 5
noncomputable abbrev amE:List Str:=["rows","wide","tall"]
theorem sc_cells:FnScope amE pf (zl acp):=by walk_at "s"
noncomputable abbrev vH:=top 6
noncomputable abbrev ag0:List Str:=pj
theorem afV:FnScope ag0 pj (zl vH):=by walk_at "s"
noncomputable abbrev aaq:=top 7
noncomputable abbrev aji:List Str:=pH
theorem ag1:FnScope aji pH (zl aaq):=by walk_at "s"
noncomputable abbrev vI:=top 8
noncomputable abbrev ag2:List Str:=["rows","x","y","around"]
theorem sc_cells_at:FnScope ag2 pj (zl vI):=by walk_at "s"
noncomputable abbrev qK:=top 17
noncomputable abbrev afW:List Str:=["rows","at","row"]
theorem sc_ask_table:FnScope afW pf (zl qK):=by walk_at "s"
noncomputable abbrev aeL:=top 18
noncomputable abbrev ao2:List Str:=pK
theorem amF:FnScope ao2 pK (zl aeL):=by walk_at "s"
noncomputable abbrev abj:=top 19
noncomputable abbrev akR:List Str:=pE
theorem ajj:FnScope akR pE (zl abj):=by walk_at "s"
noncomputable abbrev aeM:=top 20
noncomputable abbrev ao3:List Str:=pf
theorem amG:FnScope ao3 pf (zl aeM):=by walk_at "s"
noncomputable abbrev acq:=top 24
noncomputable abbrev amH:List Str:=["rows","cut","sides"]
theorem sc_gates:FnScope amH pz (zl acq):=by walk_at "s"
noncomputable abbrev jz:=top 25
noncomputable abbrev adw:List Str:=["rows","cut","point","x","y"]
theorem sc_stands_high:FnScope adw pA (zl jz):=by walk_at "s"
noncomputable abbrev jA:=top 26
noncomputable abbrev adx:List Str:=["gate","x","y","way"]
theorem sc_gate_points:FnScope adx ["gate"] (zl jA):=by walk_at "s"
noncomputable abbrev vJ:=top 27
noncomputable abbrev ag3:List Str:=pL
theorem afX:FnScope ag3 pL (zl vJ):=by walk_at "s"
noncomputable abbrev aar:=top 28
noncomputable abbrev ajk:List Str:=["rows","cut","gate","first","second"]
theorem sc_is_open:FnScope ajk ph (zl aar):=by walk_at "s"
noncomputable abbrev jS:=top 29
noncomputable abbrev aeN:List Str:=["cell","x","y"]
theorem sc_cell_gates:FnScope aeN ["cell"] (zl jS):=by walk_at "s"
noncomputable abbrev jT:=top 30
noncomputable abbrev aeO:List Str:=pq
theorem ady:FnScope aeO pq (zl jT):=by walk_at "s"
noncomputable abbrev yQ:=top 31
noncomputable abbrev abk:List Str:=["rows","cut","cell","x","y"]
theorem sc_has_high_middle:FnScope abk pq (zl yQ):=by walk_at "s"
noncomputable abbrev qL:=top 32
noncomputable abbrev afY:List Str:=["rows","cut","cell","through"]
theorem sc_cell_ties:FnScope afY pq (zl qL):=by walk_at "s"
noncomputable abbrev ji:=top 33
noncomputable abbrev ac6:List Str:=["rows","cut","cell","above","left","below","right"]
theorem sc_crossed_ties:FnScope ac6 pq (zl ji):=by walk_at "s"
noncomputable abbrev aas:=top 34
noncomputable abbrev ajl:List Str:=["rows","cut","gate","x","y","way","near_is_high"]
theorem sc_heading:FnScope ajl ph (zl aas):=by walk_at "s"
noncomputable abbrev jU:=top 35
noncomputable abbrev aeP:List Str:=qm
theorem sc_cell_ahead:FnScope aeP ph (zl jU):=by walk_at "s"
noncomputable abbrev vK:=top 36
noncomputable abbrev ag4:List Str:=qm
theorem sc_comes_in:FnScope ag4 ph (zl vK):=by walk_at "s"
noncomputable abbrev jV:=top 37
noncomputable abbrev aeQ:List Str:=["rows","cut","gate","x","y","partners","one","other"]
theorem sc_gate_ahead:FnScope aeQ ph (zl jV):=by walk_at "s"
noncomputable abbrev acr:=top 39
noncomputable abbrev amI:List Str:=["rows","cut","through","starts","told","passed","start","line","gate"]
theorem sc_lines:FnScope amI pz (zl acr):=by walk_at "s"
noncomputable abbrev qM:=top 40
noncomputable abbrev afZ:List Str:=["rows","cut","start","path","gate"]
theorem sc_line_from:FnScope afZ pF (zl qM):=by walk_at "s"
noncomputable abbrev aat:=top 42
noncomputable abbrev ajm:List Str:=["rows","cut","told","placed","point","within","other"]
theorem sc_regions:FnScope ajm pz (zl aat):=by walk_at "s"
noncomputable abbrev aau:=top 43
noncomputable abbrev ajn:List Str:=["rows","cut","places","at","word","within","point"]
theorem sc_indexes:FnScope ajn pz (zl aau):=by walk_at "s"
noncomputable abbrev jW:=top 44
noncomputable abbrev aeR:List Str:=["rows","cut","start","found","waiting","point","other"]
theorem sc_all_joined:FnScope aeR pF (zl jW):=by walk_at "s"
noncomputable abbrev abl:=top 45
noncomputable abbrev akS:List Str:=["rows","cut","point","x","y","high","beside","aslant"]
theorem sc_joined:FnScope akS pA (zl abl):=by walk_at "s"
noncomputable abbrev vL:=top 47
noncomputable abbrev ag5:List Str:=["rows","height","least","greatest","regions_at","below","above","told","pair","on_height","in_band"]
theorem sc_nodes_at:FnScope ag5 pG (zl vL):=by walk_at "s"
noncomputable abbrev jk:=top 48
noncomputable abbrev ac7:List Str:=["rows","height","lower","upper"]
theorem sc_both_regions:FnScope ac7 pG (zl jk):=by walk_at "s"
noncomputable abbrev acs:=top 49
noncomputable abbrev amJ:List Str:=["rows","height","regions_at","found","x","y","a","b"]
theorem sc_pairs:FnScope amJ pR (zl acs):=by walk_at "s"
noncomputable abbrev jB:=top 50
noncomputable abbrev aaL:List Str:=["rows","path","regions_at","low","high"]
theorem sc_pair_beside:FnScope aaL pS (zl jB):=by walk_at "s"
noncomputable abbrev qN:=top 51
noncomputable abbrev af0:List Str:=pM
theorem aeS:FnScope af0 pM (zl qN):=by walk_at "s"
noncomputable abbrev qO:=top 52
noncomputable abbrev af1:List Str:=pB
theorem aeT:FnScope af1 pB (zl qO):=by walk_at "s"
noncomputable abbrev vM:=top 53
noncomputable abbrev ag6:List Str:=pB
theorem af2:FnScope ag6 pB (zl vM):=by walk_at "s"
noncomputable abbrev y4:=top 54
noncomputable abbrev ach:List Str:=["rows","height","cell","x","y"]
theorem sc_has_middle_at:FnScope ach pV (zl y4):=by walk_at "s"
noncomputable abbrev acu:=top 55
noncomputable abbrev amK:List Str:=["cell","pair","regions_at","x","y","high","low","beside"]
theorem sc_spans:FnScope amK pW (zl acu):=by walk_at "s"
noncomputable abbrev vN:=top 57
noncomputable abbrev aaY:List Str:=["_law_script","_law_k","_law_cell"]
theorem sc_law_feed:FnScope aaY pX (zl vN):=by walk_at "s"
noncomputable abbrev vO:=top 58
noncomputable abbrev ag7:List Str:=["_law_feed_here","_law_many","_law_found"]
theorem sc_law_draw:FnScope ag7 pI (zl vO):=by walk_at "s"
noncomputable abbrev jX:=top 59
noncomputable abbrev aeU:List Str:=pN
theorem adz:FnScope aeU pN (zl jX):=by walk_at "s"
noncomputable abbrev qP:=top 60
noncomputable abbrev af3:List Str:=["_law_feed_here","_law_wide","_law_high","_law_far","_law_base"]
theorem sc_law_table:FnScope af3 pY (zl qP):=by walk_at "s"
noncomputable abbrev aav:=top 61
noncomputable abbrev ajo:List Str:=["_law_feed_here","_law_rows","_law_row"]
theorem sc_law_cut:FnScope ajo pZ (zl aav):=by walk_at "s"
noncomputable abbrev vP:=top 62
noncomputable abbrev ag8:List Str:=["_law_rows","_law_cut_here","_law_line","_law_x","_law_y","_law_way","_law_one","_law_other"]
theorem sc_law_ends:FnScope ag8 qa (zl vP):=by walk_at "s"
noncomputable abbrev vQ:=top 63
noncomputable abbrev ag9:List Str:=["_law_upper","_law_lower","_law_x","_law_y","_law_point"]
theorem sc_law_meet:FnScope ag9 qb (zl vQ):=by walk_at "s"
noncomputable abbrev abm:=top 64
noncomputable abbrev akT:List Str:=["_law_rows","_law_cut_here","_law_some","_law_upper","_law_lower","_law_found","_law_at","_law_left","_law_right"]
theorem sc_law_of:FnScope akT qc (zl abm):=by walk_at "s"
noncomputable abbrev qQ:=top 65
noncomputable abbrev af4:List Str:=["_law_rows","_law_height_here","_law_upper","_law_lower","_law_found","_law_x","_law_y","_law_four","_law_middle","_law_one","_law_other"]
theorem sc_law_cells:FnScope af4 qd (zl qQ):=by walk_at "s"
noncomputable abbrev aaw:=top 66
noncomputable abbrev ajp:List Str:=["_law_rows","_law_height_here","_law_found","_law_others","_law_ahead","_law_there","_law_upper","_law_lower","_law_below","_law_above","_law_points"]
theorem sc_law_due:FnScope ajp qe (zl aaw):=by walk_at "s"
noncomputable abbrev aca:=top 67
noncomputable abbrev aie:List Str:=["_law_script","_law_k","_law_feed_here","_law_rows","_law_height_here","_law_low","_law_top","_law_due_here","_law_found"]
theorem sc_law:FnScope aie qf (zl aca):=by walk_at "s"
noncomputable def tab (rows:List (List Int)):PyData:=.list (rows.map fun r=>.list (r.map .int))
structure Good (w:Nat) (rows:List (List Int)):Prop where
 h1:2<=rows.length
 h2:rows.length<=7
 w1:2<=w
 w2:w<=7
 row:∀ r∈rows,r.length=w
 hgt:∀ r∈rows,∀ n∈r,-1000000000<=n/\n<=1000000000
theorem Good.ne {w:Nat} {rows:List (List Int)} (g:Good w rows):∃ r rs,rows=r :: rs:=by
 cases rows with
 | nil=>have:=g.h1;simp at this
 | cons r rs=>exact⟨r,rs,rfl⟩
theorem yU {α β:Type} {F:α->β} {xs:List α} {k:Int} {j:Nat} (hk:(j:Int)=k) (h:j<xs.length):atI (xs.map F) k=some (F xs[j]):=by
 subst hk;exact ahz (by rw [aqA,aqq h];rfl)
local macro_rules | `(tactic| walk_at "dl")=>`(tactic| first
 | (with_reducible show PSd _ _ (qA _ (afg (zR _) (tC (V.int 0)) acJ)) _ _;refine ahG rfl ?_)
 | (with_reducible show PSd _ _ (qA _ (afg (zR _) (tC (V.int 1)) acJ)) _ _;refine ahH rfl ?_)
 | with_reducible refine yq ?_ | with_reducible refine aep ?_ | with_reducible refine yA ?_ | with_reducible refine z6 ?_ | with_reducible refine aaR ?_ | with_reducible refine aaJ ?_
 | with_reducible refine zh ?_ | with_reducible refine yk rfl ?_ | with_reducible refine zo ?_ | with_reducible refine zO ?_
 | with_reducible refine zT ?_ | with_reducible refine t_b ?_ | with_reducible refine afs ?_ | with_reducible refine aj2 ?_ | with_reducible refine adL ?_ | with_reducible refine y9 ?_
 | with_reducible refine aam ?_ | with_reducible refine adK ?_ | with_reducible refine jf ?_ | with_reducible refine abI ?_ | with_reducible refine jn ?_
 | with_reducible refine aj3 ?_ | with_reducible refine aeo ?_ | with_reducible refine d_orV ?_ | with_reducible refine aj4 ?_
 | with_reducible refine yb ?_ | with_reducible refine afr ?_ | with_reducible refine ahE ?_ | with_reducible refine anB ?_
 | (with_reducible show PEd _ _ (zR _) _ _;refine zk rfl ?_)
 | (with_reducible show PEd _ _ (tOp (afk _) (zR _) _) _ _;refine anC rfl ?_)
 | with_reducible refine aaI ?_ | with_reducible refine jE ?_
 | (with_reducible show PAd _ _ (zN (zR _) _) _ _;refine aj1 rfl ?_)
 | with_reducible refine zp ?_ | with_reducible refine zH ?_
 | with_reducible refine yP ?_ | with_reducible refine aaa ?_ | with_reducible refine aft ?_ | with_reducible refine abJ ?_ | with_reducible refine abK ?_ | with_reducible refine aj5 ?_ | with_reducible refine aj6 ?_
 | (with_reducible show (∃ _,_) \/ (∃ _,_);refine Or.inl ⟨_,rfl,?_⟩) | refine⟨_,rfl,?_⟩ | refine⟨_,_,rfl,?_⟩
 | (with_reducible show (_=_/\∀ _,_) \/ _;first | refine Or.inl ⟨rfl,fun a ha=>?_⟩ | refine Or.inr ⟨rfl,fun b hb hb'=>?_⟩)
 | refine⟨rfl,?_⟩
 | (refine And.intro ?side ?_;(case side=>first | omega | exact Int.ediv_nonneg (by omega) (by omega) | exact atu _ (by omega) | exact ase _ (by omega) | decide | exact⟨by decide,by decide,by decide⟩ | exact⟨by omega,by omega⟩ | exact Or.inl ⟨by omega,by omega⟩ | exact Or.inr ⟨by omega,by omega⟩ | (refine aqS (asq (by rfl)) (show _<=1000 by decide)) | ((repeat' apply And.intro) <;> first | rfl | omega | decide | assumption) | (simp [auJ]))))
section
variable {P:Program} {w:World} {K:aqu} {mg:Str->Option Value} {base:Heap} {k:Nat}
theorem amL (F:Def K mg "size" aeJ pf) (uaa:mg "len"=none):FnIn P w K mg base (k+1) "size" pf (spD K 1 (fun (c:List (List Int)×Nat) xs=>xs=[.dat (tab c.1)]/\Good c.2 c.1) fun c r=>r=.tuple [.int c.2,.int c.1.length]):=by
 refine F.ok amD rfl fun fa cdv A outer s H E hr=>⟨_,(zj (zu (zv (za (zz (yt (K:=K) rfl) rfl uaa arF (za (zE (zF (K:=K) rfl) (pv 0) zf (fun _ _=>rfl)) zb)) (za (zz (yt (K:=K) rfl) rfl uaa arF (za (pv 0) zb)) zb))))),?_⟩;rintro f xs ⟨rows,wd⟩ hl ⟨rfl,g⟩
 try dsimp only [ya,zi]
 obtain⟨r,rs,rfl⟩:=g.ne;walk_at "w";refine⟨_,yU (j:=0) rfl (by simp),?_⟩;walk_at "w";have hw:=g.row r aqv;show PyData.tuple [.int _,.int _]=_;rw [aqr,aqr];show PyData.tuple [.int (r.length:Nat),_]=_;rw [hw]
theorem amM (F:Def K mg "fits" aeL pK) (uaa:mg "len"=none) (uaq:∃ t,mg "FEWEST"=some (.int 2 t)) (uar:∃ t,mg "MOST"=some (.int 7 t)) :
  FnIn P w K mg base (k+1) "fits" pK (spD K 1 (fun (c:List PyData) xs=>xs=[.dat (.list c)]) fun c r=>r=.bool (decide (2<=c.length/\c.length<=7))):=by
 obtain⟨_,uaq⟩:=uaq;obtain⟨_,uar⟩:=uar;refine F.ok amF rfl fun fa cdv A outer s H E hr=>⟨_,(zj (zu (aa3 va va (aa5 rfl uaq) (zz (yt (K:=K) rfl) rfl uaa arF (za (pv 0) zb)) (aa5 rfl uar)))),?_⟩;rintro f xs ds hl rfl
 try dsimp only [ya,zi]
 walk_at "w";by_cases h:2<=ds.length
 ·rw [if_pos (by simp;omega)];walk_at "w";show PyData.bool _=_
  congr 1
  by_cases h7:ds.length<=7 <;> simp [h,h7] <;> omega
 ·rw [if_neg (by simp;omega)];show PyData.bool _=_
  congr 1
  simp [h]
theorem ajq (F:Def K mg "is_row" abj pE) (uad:mg "min"=none) (uag:mg "max"=none) (uas:∃ t,mg "LEAST"=some (.int (-1000000000) t)) (uat:∃ t,mg "GREATEST"=some (.int 1000000000 t))
  (uaH:FnIn P w K mg base k "fits" pK (spD K 1 (fun (c:List PyData) xs=>xs=[.dat (.list c)]) fun c r=>r=.bool (decide (2<=c.length/\c.length<=7)))) :
  FnIn P w K mg base (k+1) "is_row" pE (spD K 1 (fun (c:List Int) xs=>xs=[.dat (.list (c.map .int))]) fun c r=>r=.bool (decide (2<=c.length/\c.length<=7/\∀ n∈c,-1000000000<=n/\n<=1000000000))):=by
 obtain⟨_,uas⟩:=uas;obtain⟨_,uat⟩:=uat;refine F.ok ajj rfl fun fa cdv A outer s H E hr=>⟨_,(zj (zu (acB (zd uaH hr rfl (za (pv 0) zb)) (acB (vw va (aa5 rfl uas) (zz (vc (K:=K) rfl rfl) rfl uad boot_min (za (pv 0) zb)) (z8 _)) (aei (vw va (zz (vd (K:=K) rfl rfl) rfl uag boot_max (za (pv 0) zb)) (aa5 rfl uat) (z8 _))))))),?_⟩;rintro f xs c hl rfl
 try dsimp only [ya,zi]
 walk_at "w";refine zq (c.map .int) ?_;walk_at "w";rintro r rfl;rw [aqr];walk_at "w";by_cases h:2<=c.length/\c.length<=7
 ·have hne:c≠[]:=by rintro rfl;simp at h
  rw [if_pos (by simpa using h)];walk_at "w";intro M hM hM';walk_at "w";by_cases h2:-1000000000<=M
  ·rw [if_pos (by simpa using h2)];walk_at "w";intro M' hN hN';walk_at "w";show PyData.bool _=_
   congr 1
   rw [decide_eq_decide];refine⟨fun q=>⟨h.1,h.2,fun n hn=>⟨ar7 h2 (hM' n hn),ar7 (hN' n hn) q⟩⟩,fun q=>(q.2.2 M' hN).2⟩
  ·rw [if_neg (by simpa using h2)];show PyData.bool _=_
   congr 1
   symm;rw [decide_eq_false_iff_not];exact fun q=>h2 (q.2.2 M hM).1
 ·rw [if_neg (by simpa using h)];show PyData.bool _=_
  congr 1
  symm;rw [decide_eq_false_iff_not];exact fun q=>h ⟨q.1,q.2.1⟩
abbrev ad4 (K:aqu):Sp:=spD K 1 (fun (c:List (List Int)×Nat) xs=>xs=[.dat (tab c.1)]/\Good c.2 c.1) fun _ r=>r=.bool true
theorem ao4 (F:Def K mg "ask_table" qK pf) (uaa:mg "len"=none) (uai:mg "enumerate"=none)
  (uaH:FnIn P w K mg base k "fits" pK (spD K 1 (fun (c:List PyData) xs=>xs=[.dat (.list c)]) fun c r=>r=.bool (decide (2<=c.length/\c.length<=7))))
  (ube:FnIn P w K mg base k "is_row" pE (spD K 1 (fun (c:List Int) xs=>xs=[.dat (.list (c.map .int))]) fun c r=>r=.bool (decide (2<=c.length/\c.length<=7/\∀ n∈c,-1000000000<=n/\n<=1000000000)))) :
  FnIn P w K mg base (k+1) "ask_table" pf (ad4 K):=by
 refine F.ok sc_ask_table rfl fun fa cdv A outer s H E hr=>⟨_,(zc (yF (abF (ym (K:=K) rfl (zd uaH hr rfl (za (pv 0) zb)) (fun _=>rfl))) (zj aff) zS) (zc (yG aq7 rfl (acP (K:=K) rfl rfl uai (za (pv 0) zb)) (zG (K:=K) (n:=2) rfl rfl (zg (ze (i:=1) sc_ask_table.nd rfl (Or.inl rfl) (Or.inr rfl)) (zg (ze (i:=2) sc_ask_table.nd rfl (Or.inl rfl) (Or.inr rfl)) zD))) (zj (yF (PW.pt (ahq (zI (vB (K:=K) rfl hr.units) (zz (yt (K:=K) rfl) rfl uaa arF (za (pv 2) zb)) (zz (yt (K:=K) rfl) rfl uaa arF (za (zE (zF (K:=K) rfl) (pv 0) zf (fun _ _=>rfl)) zb)) (z8 _)) (agu (abF (ym (K:=K) rfl (zd ube hr rfl (za (pv 2) zb)) (fun _=>rfl)))))) (zj aff) zS))) (zj (zu vU)))),?_⟩;rintro f xs ⟨rows,wd⟩ hl ⟨rfl,g⟩
 try dsimp only [ya,zi]
 have g1:=g.h1;have g2:=g.h2;walk_at "w";refine zq (rows.map fun r=>.list (r.map .int)) ?_;walk_at "w";rintro r rfl;dsimp only at g1 g2;refine⟨_,rfl,?_⟩;rw [aqr,decide_eq_true ⟨g1,g2⟩,arH,if_neg aqt];walk_at "w";refine agC ?_;walk_at "w";refine⟨fun i ρ=>∃ a b,ρ=[some (.dat (tab rows)),a,b],⟨_,_,rfl⟩,?_,?_⟩
 ·rintro i d ρ hd ⟨a,b,rfl⟩;rw [aqA] at hd;cases hr:rows[i]? with
  | none=>rw [hr] at hd;cases hd
  | some r =>
   rw [hr] at hd;cases hd;have hm:=aqz hr;have hw:=g.row r hm;obtain⟨r0,rs,hrs⟩:=g.ne;dsimp only at hrs;subst hrs;have hw0:=g.row r0 aqv;walk_at "w";refine⟨_,yU (j:=0) rfl (by simp),?_⟩;walk_at "w";dsimp only at hw hw0;rw [if_pos rfl,aqr,aqr];show (if (!(((r.length:Nat):Int) == ((r0.length:Nat):Int)))=true then _ else _);rw [hw,hw0,beq_self_eq_true,arH,if_neg aqt];walk_at "w";refine zq r ?_;walk_at "w";rintro _ rfl;refine⟨_,rfl,?_⟩;have w1:=g.w1;have w2:=g.w2;dsimp only at w1 w2;rw [decide_eq_true ⟨by omega,by omega,g.hgt r hm⟩,arH,if_neg aqt];walk_at "w";exact⟨_,_,rfl⟩
 ·rintro ρ ⟨a,b,rfl⟩;walk_at "w";rfl
theorem amN (F:Def K mg "_law_draw" vO pI):FnIn P w K mg base (k+1) "_law_draw" pI (spD K 2 (fun (c:Int) xs=>xs=[.feed,.dat (.int c)]/\0<c/\c<1152921504606846976) fun c r=>∃ i:Int,r=.int i/\0<=i/\i<c):=by
 refine F.ok sc_law_draw rfl fun fa cdv A outer s H E hr=>⟨_,(zc (yF (zI ajT (zE (zF (K:=K) rfl) (pv 0) zf (fun _ _=>rfl)) (zt acD zf zf) (z8 _)) (zc (zC (i:=2) sc_law_draw.nd rfl (Or.inl rfl) (zt abG (zE (zF (K:=K) rfl) (pv 0) zf (fun _ _=>rfl)) (pv 1))) (zc (yf (zt afw (zE (zF (K:=K) rfl) (pv 0) zf (fun _ _=>rfl)) (pv 1)) (aaP (pv 0) zf set_list)) (zj (zu (pv 2))))) zS) (zc (yf (zt abG (zt zP (zt zP (zt j8 (zE (zF (K:=K) rfl) (pv 0) zf (fun _ _=>rfl)) zf) (zt abG (zE (zF (K:=K) rfl) (pv 0) zf (fun _ _=>rfl)) zf)) zf) zf) (aaP (pv 0) zf set_list)) (zj (zu (zt abG (zt afw (zt abG (zt j8 (zE (zF (K:=K) rfl) (pv 0) zf (fun _ _=>rfl)) zf) zf) zf) (pv 1)))))),?_⟩;rintro f xs c hl ⟨rfl,c0,c1⟩
 try dsimp only [ya,zi]
 walk_at "w";split
 ·walk_at "w";exact ase _ c0
 ·walk_at "w";exact ase _ c0
abbrev aeV (K:aqu):Sp:=spD K 2 (fun (c:Int) xs=>xs=[.feed,.dat (.int c)]/\0<c/\c<1152921504606846976) fun c r=>∃ i:Int,r=.int i/\0<=i/\i<c
abbrev af5 (K:aqu):Sp:=spD K 3 (fun (c:Int×Int) xs=>xs=[.feed,.dat (.int c.1),.dat (.int c.2)]/\0<=c.1/\c.1<=10/\-1000000000<=c.2/\c.2<=999999991) fun c r=>∃ i:Int,r=.int i/\-1000000000<=i/\i<=1000000000
theorem ajr (F:Def K mg "_law_height" jX pN) (uad:mg "min"=none) (uaf:FnIn P w K mg base k "_law_draw" pI (aeV K)) :
  FnIn P w K mg base (k+1) "_law_height" pN (af5 K):=by
 refine F.ok adz rfl fun fa cdv A outer s H E hr=>⟨_,(zc (yF (zI ahw (pv 1) zf (z8 _)) (zj (zu (zt zP (pv 2) (zd uaf hr rfl (za (pv 0) (za (pv 1) zb)))))) zS) (zj (zu (zz (adE rfl) rfl uad boot_min (za (zt acD zf zf) (za (zt yh (zt zP (zt j8 (zd uaf hr rfl (za (pv 0) (za zf zb))) zf) (zd uaf hr rfl (za (pv 0) (za zf zb)))) (zt acD zf zf)) zb)))))),?_⟩;rintro f xs ⟨far,bs⟩ hl ⟨rfl,c0,c1,c2,c3⟩;dsimp only at c0 c1 c2 c3
 try dsimp only [ya,zi]
 walk_at "w";by_cases h:0<far
 ·rw [if_pos (by simpa using h)];walk_at "w";refine zq far ?_;walk_at "w";rintro r ⟨i,rfl,h1,h2⟩;walk_at "w";show bs+i<=1000000000;omega
 ·rw [if_neg (by simpa using h)];walk_at "w";refine zq 20001 ?_;walk_at "w";rintro r ⟨i,rfl,h1,h2⟩;walk_at "w";refine zq 100000 ?_;walk_at "w";rintro r ⟨j,rfl,h3,h4⟩;walk_at "w";have e9:(10:Int) ^ Int.toNat 9=1000000000:=by decide
  rw [e9];omega
abbrev aif (K:aqu):Sp:=spD K 1 (fun (_:Unit) xs=>xs=[.feed]) fun _ r=>∃ wd rows,r=tab rows/\Good wd rows
theorem menu {ds:List PyData} {i n:Int} (h0:0<=i) (h1:i<n) (hn:n=(ds.length:Int)):∃ d,atI ds i=some d/\d∈ds:=by
 have hi:i.toNat<ds.length:=by omega
 have e:i=((i.toNat:Nat):Int):=by omega
 have q:=ahz (aqq hi);rw [<-e] at q;exact⟨_,q,aq0 hi⟩
theorem aih:∀ {es:List PyData} {p:Int->Prop},(∀ (i:Nat) e,es[i]?=some e->∃ n:Int,e=.int n/\p n)->∃ ns:List Int,es=ns.map .int/\∀ n∈ns,p n
 | [],p,_=>⟨[],rfl,fun n h=>by cases h⟩
 | e :: es,p,h=>by
  obtain⟨n,rfl,hn⟩:=h 0 e rfl;obtain⟨ns,rfl,hs⟩:=aih (es:=es) (p:=p) fun i e' he=>h (i+1) e' (by simpa using he);exact⟨n :: ns,rfl,fun m hm=>by
   rcases aqE.mp hm with rfl | hm
   ·exact hn
   ·exact hs m hm⟩
theorem aii:∀ {es:List PyData} {p:List Int->Prop},(∀ (i:Nat) e,es[i]?=some e->∃ r:List Int,e=.list (r.map .int)/\p r)->∃ rows:List (List Int),es=rows.map (fun r=>.list (r.map .int))/\∀ r∈rows,p r
 | [],p,_=>⟨[],rfl,fun n h=>by cases h⟩
 | e :: es,p,h=>by
  obtain⟨n,rfl,hn⟩:=h 0 e rfl;obtain⟨ns,rfl,hs⟩:=aii (es:=es) (p:=p) fun i e' he=>h (i+1) e' (by simpa using he);exact⟨n :: ns,rfl,fun m hm=>by
   rcases aqE.mp hm with rfl | hm
   ·exact hn
   ·exact hs m hm⟩
theorem akU (F:Def K mg "_law_table" qP pY) (uac:mg "range"=none) (uaf:FnIn P w K mg base k "_law_draw" pI (aeV K)) (ubf:FnIn P w K mg base k "_law_height" pN (af5 K)) :
  FnIn P w K mg base (k+1) "_law_table" pY (aif K):=by
 refine F.ok sc_law_table rfl fun fa cdv A outer s H E hr=>⟨_,(zc (zC (i:=1) sc_law_table.nd rfl (Or.inr rfl) (zt zP zf (zd uaf hr rfl (za (pv 0) (za zf zb))))) (zc (zC (i:=2) sc_law_table.nd rfl (Or.inl rfl) (zt zP zf (zd uaf hr rfl (za (pv 0) (za zf zb))))) (zc (zC (i:=3) sc_law_table.nd rfl (Or.inr rfl) (zE (zF (K:=K) rfl) (z9 (za zf (za zf (za zf (za zf (za zf (za zf (za zf zb)))))))) (zd uaf hr rfl (za (pv 0) (za zf zb))) (fun _ _=>rfl))) (zc (zC (i:=4) sc_law_table.nd rfl (Or.inr rfl) (zE (zF (K:=K) rfl) (z9 (za zf (za (zt yh zf zf) (za (zt yh (zt acD zf zf) zf) (za (zt yh zf (zt acD zf zf)) zb))))) (zd uaf hr rfl (za (pv 0) (za zf zb))) (fun _ _=>rfl))) (zj (zu (zX (N:=qo) (own:=1) (fr:=[0,1,3,4]) (by walk_at "c") rfl (yM rfl uac (za (pv 2) zb)) (fun _ _ _ _=>(ze (i:=0) (show (qo:List Str).Nodup by decide +kernel) rfl (Or.inl rfl) (Or.inr rfl))) (fun _ _ _ _=>yc) (fun _ _ _ _=>(zX (N:=qr) (own:=1) (fr:=[1,3,4]) (by walk_at "c") rfl (yM rfl uac (za (pv 2) zb)) (fun _ _ _ _=>(ze (i:=0) (show (qr:List Str).Nodup by decide +kernel) rfl (Or.inl rfl) (Or.inr rfl))) (fun _ _ _ _=>yc) (fun _ _ _ _=>(zd ubf hr rfl (za (pv 1) (za (pv 2) (za (pv 3) zb))))) rfl rfl (fun _=>rfl))) rfl rfl (fun _=>rfl)))))))),?_⟩;rintro f xs ⟨⟩ hl rfl
 try dsimp only [ya,zi]
 walk_at "w";refine zq 6 ?_;walk_at "w";rintro r ⟨i1,rfl,h1,h2⟩;walk_at "w";refine zq 6 ?_;walk_at "w";rintro r ⟨i2,rfl,h3,h4⟩;walk_at "w";refine zq 7 ?_;walk_at "w";rintro r ⟨i3,rfl,h5,h6⟩;refine⟨_,rfl,?_⟩;obtain⟨d3,e3,m3⟩:=menu (ds:=[.int 2,.int 3,.int 5,.int 10,.int 2,.int 3,.int 0]) h5 h6 (by simp);obtain⟨far,rfl,f0,f1⟩:∃ n:Int,d3=.int n/\0<=n/\n<=10:=by
  simp only [aqE,arj,or_false] at m3;rcases m3 with rfl | rfl | rfl | rfl | rfl | rfl | rfl <;> exact⟨_,rfl,by decide,by decide⟩
 refine⟨_,e3,?_⟩;walk_at "w";refine zq 4 ?_;walk_at "w";rintro r ⟨i4,rfl,h7,h8⟩;refine⟨_,rfl,?_⟩;obtain⟨d4,e4,m4⟩:=menu (ds:=[.int 0,.int (0 - 3),.int (10 ^ Int.toNat 9 - 9),.int (0 - 10 ^ Int.toNat 9)]) h7 h8 (by simp);obtain⟨bs,rfl,b0,b1⟩:∃ n:Int,d4=.int n/\-1000000000<=n/\n<=999999991:=by
  simp only [aqE,arj,or_false] at m4;rcases m4 with rfl | rfl | rfl | rfl <;> exact⟨_,rfl,by decide,by decide⟩
 refine⟨_,e4,?_⟩;walk_at "w";refine afu ?_;walk_at "w";refine⟨fun _ e=>∃ r:List Int,e=.list (r.map .int)/\r.length=(2+i1).toNat/\∀ n∈r,-1000000000<=n/\n<=1000000000,fun D i hi=>?_,fun es hes hR=>?_⟩
 ·refine afu ?_;walk_at "w";refine⟨fun _ e=>∃ n:Int,e=.int n/\-1000000000<=n/\n<=1000000000,fun D' i' hi'=>?_,fun es hes hR=>?_⟩
  ·refine zq (far,bs) ?_;walk_at "w";rintro r ⟨n,rfl,n0,n1⟩;exact⟨n,rfl,n0,n1⟩
  ·obtain⟨ns,rfl,hs⟩:=aih (p:=fun n=>-1000000000<=n/\n<=1000000000) hR;exact⟨ns,rfl,by rw [aqr] at hes;exact hes,hs⟩
 ·obtain⟨rows,rfl,hs⟩:=aii (p:=fun r=>r.length=(2+i1).toNat/\∀ n∈r,-1000000000<=n/\n<=1000000000) hR;rw [aqr] at hes;exact⟨(2+i1).toNat,rows,rfl,by omega,by omega,by omega,by omega,fun r hr=>(hs r hr).1,fun r hr=>(hs r hr).2⟩
abbrev anN (K:aqu):Sp:=spD K 2 (fun (c:List (List Int)×Nat) xs=>xs=[.feed,.dat (tab c.1)]/\Good c.2 c.1) fun _ r=>∃ n:Int,r=.int n/\-1000000001<=n/\n<=1000000000
local macro_rules | `(tactic| walk_at "dl")=>`(tactic| first
 | (with_reducible show PSd _ _ (qA _ (afg (zR _) (tC (V.int 0)) acJ)) _ _;refine ahG rfl ?_)
 | (with_reducible show PSd _ _ (qA _ (afg (zR _) (tC (V.int 1)) acJ)) _ _;refine ahH rfl ?_)
 | with_reducible refine yq ?_ | with_reducible refine aep ?_ | with_reducible refine yA ?_ | with_reducible refine z6 ?_ | with_reducible refine aaR ?_ | with_reducible refine aaJ ?_
 | with_reducible refine zh ?_ | with_reducible refine yk rfl ?_ | with_reducible refine zo ?_ | with_reducible refine zO ?_
 | with_reducible refine zT ?_ | with_reducible refine t_b ?_ | with_reducible refine afs ?_ | with_reducible refine aj2 ?_ | with_reducible refine adL ?_ | with_reducible refine y9 ?_
 | with_reducible refine aam ?_ | with_reducible refine adK ?_ | with_reducible refine jf ?_ | with_reducible refine abI ?_ | with_reducible refine jn ?_
 | with_reducible refine aj3 ?_ | with_reducible refine aeo ?_ | with_reducible refine d_orV ?_ | with_reducible refine aj4 ?_
 | with_reducible refine yb ?_ | with_reducible refine afr ?_ | with_reducible refine ahE ?_ | with_reducible refine anB ?_
 | (with_reducible show PEd _ _ (zR _) _ _;refine zk rfl ?_)
 | (with_reducible show PEd _ _ (tOp (afk _) (zR _) _) _ _;refine anC rfl ?_)
 | with_reducible refine aaI ?_ | with_reducible refine jE ?_
 | (with_reducible show PAd _ _ (zN (zR _) _) _ _;refine aj1 rfl ?_)
 | with_reducible refine zp ?_ | with_reducible refine zH ?_
 | with_reducible refine d_catT ?_ | with_reducible refine d_cut ?_ | with_reducible refine po_no ?_ | with_reducible refine po_at ?_ | with_reducible refine d_int1 ?_ | with_reducible refine vC ?_ | with_reducible refine jo ?_
 | with_reducible refine yP ?_ | with_reducible refine aaa ?_ | with_reducible refine aft ?_ | with_reducible refine abJ ?_ | with_reducible refine abK ?_ | with_reducible refine aj5 ?_ | with_reducible refine aj6 ?_
 | (with_reducible show (∃ _,_) \/ (∃ _,_);first | refine Or.inl ⟨_,rfl,?_⟩ | refine Or.inr ⟨_,rfl,?_⟩) | refine⟨_,rfl,?_⟩ | refine⟨_,_,rfl,?_⟩
 | (with_reducible show (_=_/\∀ _,_) \/ _;first | refine Or.inl ⟨rfl,fun a ha=>?_⟩ | refine Or.inr ⟨rfl,fun b hb hb'=>?_⟩)
 | (with_reducible show PyData.canLay0 _=true/\_;refine And.intro (by first | rfl | assumption | decide +kernel) ?_)
 | (with_reducible show min _ _<=60/\_;refine And.intro (by first | assumption | (simp [auJ,aqH];done)) ?_)
 | refine⟨rfl,?_⟩
 | (refine And.intro ?side ?_;(case side=>first | omega | exact Int.ediv_nonneg (by omega) (by omega) | exact atu _ (by omega) | exact ase _ (by omega) | decide | exact⟨by decide,by decide,by decide⟩ | exact⟨by omega,by omega⟩ | exact Or.inl ⟨by omega,by omega⟩ | exact Or.inr ⟨by omega,by omega⟩ | (refine aqS (asq (by rfl)) (show _<=1000 by decide)) | ((repeat' apply And.intro) <;> first | rfl | omega | decide | assumption) | (simp [auJ]))))
theorem z7 {b:Bool} {p q:Prop} (h1:b=true->p) (h2:b=false->q):if b=true then p else q:=by
 cases b with
 | true=>rw [if_pos rfl];exact h1 rfl
 | false=>rw [if_neg aqt];exact h2 rfl
noncomputable def zZ (rows:List (List Int)) (wd:Nat) (x y:Int):Bool:=decide (0<=x/\x<wd) && decide (0<=y/\y<rows.length)
noncomputable def zQ (rows:List (List Int)) (x y:Int):Int:=(rows.getD y.toNat []).getD x.toNat 0
theorem aaZ {rows:List (List Int)} {wd:Nat} {x y:Int} (h:zZ rows wd x y=true):0<=x/\x<wd/\0<=y/\y<rows.length:=by
 unfold zZ at h;rw [aqy] at h;have h1:=of_decide_eq_true h.1;have h2:=of_decide_eq_true h.2;omega
noncomputable def qR (x y w:Int):PyData:=.tuple [.int x,.int y,.int w]
noncomputable def px (x:Int) (w:Int):Int:=if w=0 then x+1 else x
noncomputable def py (y:Int) (w:Int):Int:=if w=0 then y else y+1
noncomputable def vh (rows:List (List Int)) (wd:Nat) (x y w:Int):Bool:=decide (w=0 \/ w=1) && (zZ rows wd x y && zZ rows wd (px x w) (py y w))
noncomputable def yK (rows:List (List Int)) (wd:Nat) (cut x y w:Int):Bool:=vh rows wd x y w && (decide (cut<zQ rows x y) != decide (cut<zQ rows (px x w) (py y w)))
noncomputable def ad5 (rows:List (List Int)) (cut x y w:Int):Str:=if w=0 then (if cut<zQ rows x y then "up" else "down") else (if cut<zQ rows x y then "right" else "left")
theorem acv (a b:Int):aqX (.int a) (.int b)=decide (a=b):=rfl
theorem af6 (a b:Bool):aqX (.bool a) (.bool b)=(a == b):=rfl
abbrev aha (K:aqu):Sp:=spD K 1 (fun (c:List (List Int)×Nat) xs=>xs=[.dat (tab c.1)]/\Good c.2 c.1) fun c r=>r=.tuple [.int c.2,.int c.1.length]
abbrev aij (K:aqu):Sp:=spD K 3 (fun (c:List (List Int)×Nat×Int×Int) xs=>xs=[.dat (tab c.1),.dat (.int c.2.2.1),.dat (.int c.2.2.2)]/\Good c.2.1 c.1) fun c r=>r=.bool (zZ c.1 c.2.1 c.2.2.1 c.2.2.2)
theorem ao5 (F:Def K mg "has_point" qJ pj) (uau:FnIn P w K mg base k "size" pf (aha K)):FnIn P w K mg base (k+1) "has_point" pj (aij K):=by
 refine F.ok sc_has_point rfl fun fa cdv A outer s H E hr=>⟨_,(zc (yf (zd uau hr rfl (za (pv 0) zb)) (zG (K:=K) (n:=2) rfl rfl (zg (ze (i:=3) sc_has_point.nd rfl (Or.inl rfl) (Or.inr rfl)) (zg (ze (i:=4) sc_has_point.nd rfl (Or.inl rfl) (Or.inr rfl)) zD)))) (zj (zu (acB (aa3 va ahv zf (pv 1) (pv 3)) (aei (aa3 va ahv zf (pv 2) (pv 4))))))),?_⟩;rintro f xs ⟨rows,wd,x,y⟩ hl ⟨rfl,g⟩
 try dsimp only [ya,zi]
 dsimp only at *;refine yq (z6 (zq (rows,wd) ?_));walk_at "w";rintro _ rfl;walk_at "w";have fin:∀ b:Bool,b=zZ rows wd x y->PyData.bool b=PyData.bool (zZ rows wd x y):=fun b h=>by rw [h]
 refine z7 (fun h1=>?_) fun h1=>?_
 ·have h1':=of_decide_eq_true h1;walk_at "w";refine z7 (fun h2=>?_) fun h2=>?_
  ·have h2':=of_decide_eq_true h2;walk_at "w";refine z7 (fun h3=>?_) fun h3=>?_
   ·have h3':=of_decide_eq_true h3;walk_at "w";refine fin _ ?_;unfold zZ;dsimp only at h2' ⊢;rw [decide_eq_true (p:=(0<=x/\x<(wd:Int))) (by omega),asv];exact decide_eq_decide.mpr (by omega)
   ·have h3':=of_decide_eq_false h3;refine fin _ ?_;unfold zZ;rw [decide_eq_false (p:=(0<=y/\y<(rows.length:Int))) (by omega),aus]
  ·have h2':=of_decide_eq_false h2;refine fin _ ?_;unfold zZ;dsimp only at h2';rw [decide_eq_false (p:=(0<=x/\x<(wd:Int))) (by omega),asP]
 ·have h1':=of_decide_eq_false h1;refine⟨_,rfl,?_⟩;rw [if_neg aqt];refine fin _ ?_;unfold zZ;rw [decide_eq_false (p:=(0<=x/\x<(wd:Int))) (by omega),asP]
abbrev abT (K:aqu):Sp:=spD K 3 (fun (c:List (List Int)×Nat×Int×Int×Int) xs=>xs=[.dat (tab c.1),.dat (.int c.2.2.1),.dat (.tuple [.int c.2.2.2.1,.int c.2.2.2.2])]/\Good c.2.1 c.1/\zZ c.1 c.2.1 c.2.2.2.1 c.2.2.2.2=true) fun c r=>r=.bool (decide (c.2.2.1<zQ c.1 c.2.2.2.1 c.2.2.2.2))
theorem vi {rows:List (List Int)} {wd:Nat} {x y:Int} (g:Good wd rows) (h:zZ rows wd x y=true):∃ r:List Int,atI (rows.map fun q=>PyData.list (q.map .int)) y=some (.list (r.map .int))/\atI (r.map PyData.int) x=some (.int (zQ rows x y)):=by
 obtain⟨x0,x1,y0,y1⟩:=aaZ h;have hy:y.toNat<rows.length:=by omega
 have hr:=g.row _ (aq0 hy);have hx:x.toNat<rows[y.toNat].length:=by omega
 refine⟨rows[y.toNat],yU (F:=fun q:List Int=>PyData.list (q.map .int)) (by omega) hy,?_⟩;rw [yU (j:=x.toNat) (by omega) hx];unfold zQ;rw [aqx,aqx,aqq hy,at4,aqq hx];rfl
theorem amO (F:Def K mg "stands_high" jz pA):FnIn P w K mg base (k+1) "stands_high" pA (abT K):=by
 refine F.ok sc_stands_high rfl fun fa cdv A outer s H E hr=>⟨_,(zc (yf (pv 2) (zG (K:=K) (n:=2) rfl rfl (zg (ze (i:=3) sc_stands_high.nd rfl (Or.inl rfl) (Or.inr rfl)) (zg (ze (i:=4) sc_stands_high.nd rfl (Or.inl rfl) (Or.inr rfl)) zD)))) (zj (zu (vw ahw (zE (zF (K:=K) rfl) (zE (zF (K:=K) rfl) (pv 0) (pv 4) (fun _ _=>rfl)) (pv 3) (fun _ _=>rfl)) (pv 1) (z8 _))))),?_⟩;rintro f xs ⟨rows,wd,cut,x,y⟩ hl ⟨rfl,g,hi⟩
 try dsimp only [ya,zi]
 dsimp only at *;obtain⟨r,h1,h2⟩:=vi g hi;unfold tab;walk_at "w";refine⟨_,h1,?_⟩;walk_at "w";refine⟨_,h2,?_⟩;walk_at "w";rfl
abbrev aik (K:aqu):Sp:=spD K 1 (fun (c:Int×Int×Int) xs=>xs=[.dat (qR c.1 c.2.1 c.2.2)]) fun c r=>r=.list [.tuple [.int c.1,.int c.2.1],.tuple [.int (px c.1 c.2.2),.int (py c.2.1 c.2.2)]]
theorem ao6 (F:Def K mg "gate_points" jA ["gate"]):FnIn P w K mg base (k+1) "gate_points" ["gate"] (aik K):=by
 refine F.ok sc_gate_points rfl fun fa cdv A outer s H E hr=>⟨_,(zc (yf (pv 0) (zG (K:=K) (n:=3) rfl rfl (zg (ze (i:=1) sc_gate_points.nd rfl (Or.inl rfl) (Or.inr rfl)) (zg (ze (i:=2) sc_gate_points.nd rfl (Or.inl rfl) (Or.inr rfl)) (zg (ze (i:=3) sc_gate_points.nd rfl (Or.inl rfl) (Or.inr rfl)) zD))))) (zc (yF (zI (qV (K:=K) rfl hr.units) (pv 3) zf (z8 _)) (zj (zu (z9 (za (zv (za (pv 1) (za (pv 2) zb))) (za (zv (za (zt zP (pv 1) zf) (za (pv 2) zb))) zb))))) zS) (zj (zu (z9 (za (zv (za (pv 1) (za (pv 2) zb))) (za (zv (za (pv 1) (za (zt zP (pv 2) zf) zb))) zb))))))),?_⟩;rintro f xs ⟨x,y,w⟩ hl rfl
 try dsimp only [ya,zi]
 dsimp only at *;unfold qR;walk_at "w";rw [if_neg aqt,acv];refine z7 (fun h=>?_) fun h=>?_
 ·have h':=of_decide_eq_true h;walk_at "w";unfold px py;rw [if_pos h',if_pos h']
 ·have h':=of_decide_eq_false h;walk_at "w";unfold px py;rw [if_neg h',if_neg h']
abbrev akV (K:aqu):Sp:=spD K 2 (fun (c:List (List Int)×Nat×Int×Int×Int) xs=>xs=[.dat (tab c.1),.dat (qR c.2.2.1 c.2.2.2.1 c.2.2.2.2)]/\Good c.2.1 c.1) fun c r=>r=.bool (vh c.1 c.2.1 c.2.2.1 c.2.2.2.1 c.2.2.2.2)
theorem amP (F:Def K mg "has_gate" vJ pL) (uam:mg "all"=none) (uan:FnIn P w K mg base k "has_point" pj (aij K)) (uav:FnIn P w K mg base k "gate_points" ["gate"] (aik K)):FnIn P w K mg base (k+1) "has_gate" pL (akV K):=by
 refine F.ok afX rfl fun fa cdv A outer s H E hr=>⟨_,(zc (yF (zI (ai1 (K:=K) rfl) (zE (zW (K:=K) rfl) (pv 1) zf (fun _ _=>rfl)) (zv (za zf (za zf zb))) rfl) (zj (zu vU)) zS) (zj (zu (zz (adP (K:=K) rfl rfl) rfl uam auk (za (zX (N:=["x","y","rows"]) (own:=2) (fr:=[0]) (by walk_at "c") rfl (zy (K:=K) rfl (zd uav hr rfl (za (pv 1) zb))) (fun _ _ _ _=>(zG (K:=K) (n:=2) rfl rfl (zg (ze (i:=0) (show (["x","y","rows"]:List Str).Nodup by decide +kernel) rfl (Or.inl rfl) (Or.inr rfl)) (zg (ze (i:=1) (show (["x","y","rows"]:List Str).Nodup by decide +kernel) rfl (Or.inl rfl) (Or.inr rfl)) zD)))) (fun _ _ _ _=>yc) (fun _ _ _ _=>(zd uan hr rfl (za (pv 2) (za (pv 0) (za (pv 1) zb))))) rfl rfl (fun _=>rfl)) zb))))),?_⟩;rintro f xs ⟨rows,wd,x,y,w⟩ hl ⟨rfl,g⟩
 try dsimp only [ya,zi]
 dsimp only at *;refine yq (aep (zT (akf ?_)));unfold qR;walk_at "w";refine⟨[0,1],rfl,_,rfl,?_⟩;have hc:(([0,1]:List Int).contains w)=decide (w=0 \/ w=1):=by
  rw [Bool.eq_iff_iff];simp
 rw [hc];by_cases h:w=0 \/ w=1
 ·rw [decide_eq_true h,arH,if_neg aqt];refine aaJ (yA (anE (PEdO.ped (ab5 (A:=fun p:Int×Int=>PyData.tuple [.int p.1,.int p.2]) (B:=fun p:Int×Int=>PyData.bool (zZ rows wd p.1 p.2)) [(x,y),(px x w,py y w)] (zV (zq (x,y,w) ?_))))));walk_at "w";rintro _ rfl;refine⟨_,rfl,rfl,show 2<=1000 by decide,?_,?_⟩
  ·rintro D p ρ' es hp ho hes;obtain⟨u,v,rfl⟩:=ho.two;refine yk rfl (zo (zh (zo (zh (zO (jo ?_))))));rw [if_pos rfl];refine yl hes (zq (rows,wd,p.1,p.2) ?_);walk_at "w";rintro _ rfl;exact⟨.mk2,rfl⟩
  ·refine⟨[zZ rows wd x y,zZ rows wd (px x w) (py y w)],rfl,?_⟩;show PyData.bool _=PyData.bool _;unfold vh;rw [decide_eq_true h,asv];show PyData.bool (zZ rows wd x y && (zZ rows wd (px x w) (py y w) && true))=_;rw [as8]
 ·rw [decide_eq_false h,atD,if_pos rfl];walk_at "w";unfold vh;rw [decide_eq_false h];rfl
abbrev aeW (K:aqu):Sp:=spD K 3 (fun (c:List (List Int)×Nat×Int×Int×Int×Int) xs=>xs=[.dat (tab c.1),.dat (.int c.2.2.1),.dat (qR c.2.2.2.1 c.2.2.2.2.1 c.2.2.2.2.2)]/\Good c.2.1 c.1) fun c r=>r=.bool (yK c.1 c.2.1 c.2.2.1 c.2.2.2.1 c.2.2.2.2.1 c.2.2.2.2.2)
theorem akW {rows:List (List Int)} {wd:Nat} {x y w:Int} (h:vh rows wd x y w=true):zZ rows wd x y=true/\zZ rows wd (px x w) (py y w)=true:=by
 unfold vh at h;rw [aqy,aqy] at h;exact h.2
theorem amQ (F:Def K mg "is_open" aar ph) (ubg:FnIn P w K mg base k "has_gate" pL (akV K)) (uav:FnIn P w K mg base k "gate_points" ["gate"] (aik K)) (uah:FnIn P w K mg base k "stands_high" pA (abT K)):FnIn P w K mg base (k+1) "is_open" ph (aeW K):=by
 refine F.ok sc_is_open rfl fun fa cdv A outer s H E hr=>⟨_,(zc (yF (abF (ym (K:=K) rfl (zd ubg hr rfl (za (pv 0) (za (pv 2) zb))) (fun _=>rfl))) (zj (zu vU)) zS) (zc (yf (zd uav hr rfl (za (pv 2) zb)) (aer (K:=K) (n:=2) rfl rfl (zg (ze (i:=3) sc_is_open.nd rfl (Or.inl rfl) (Or.inr rfl)) (zg (ze (i:=4) sc_is_open.nd rfl (Or.inl rfl) (Or.inr rfl)) zD)))) (zj (zu (vw (vB (K:=K) rfl hr.units) (zd uah hr rfl (za (pv 0) (za (pv 1) (za (pv 3) zb)))) (zd uah hr rfl (za (pv 0) (za (pv 1) (za (pv 4) zb)))) (z8 _)))))),?_⟩;rintro f xs ⟨rows,wd,cut,x,y,w⟩ hl ⟨rfl,g⟩
 try dsimp only [ya,zi]
 dsimp only at *;refine yq (aep (adL (y9 (zq (rows,wd,x,y,w) ?_))));walk_at "w";rintro _ rfl;refine⟨_,rfl,?_⟩;dsimp only;cases h:vh rows wd x y w with
 | false =>
  rw [atD,if_pos rfl];walk_at "w";unfold yK;rw [h];rfl
 | true =>
  rw [arH,if_neg aqt];obtain⟨i1,i2⟩:=akW h;refine aaJ (yq (z6 (zq (x,y,w) ?_)));walk_at "w";rintro _ rfl;dsimp only;refine ahI rfl (zo (zh (zo (zh (zO ?_)))));refine yA (jn (zq (rows,wd,cut,x,y) ?_));walk_at "w";rintro _ rfl;refine zq (rows,wd,cut,px x w,py y w) ?_;walk_at "w";rintro _ rfl;dsimp only;walk_at "w";show PyData.bool _=PyData.bool _;unfold yK;rw [h,asv,if_pos rfl,af6];rfl
theorem ao7 (F:Def K mg "_law_cut" aav pZ) (uaa:mg "len"=none) (uaf:FnIn P w K mg base k "_law_draw" pI (aeV K)):FnIn P w K mg base (k+1) "_law_cut" pZ (anN K):=by
 refine F.ok sc_law_cut rfl fun fa cdv A outer s H E hr=>⟨_,(zc (zC (i:=2) sc_law_cut.nd rfl (Or.inl rfl) (zE (zF (K:=K) rfl) (pv 1) (zd uaf hr rfl (za (pv 0) (za (zz (yt (K:=K) rfl) rfl uaa arF (za (pv 1) zb)) zb))) (fun _ _=>rfl))) (zj (zu (zt yh (zE (zF (K:=K) rfl) (pv 2) (zd uaf hr rfl (za (pv 0) (za (zz (yt (K:=K) rfl) rfl uaa arF (za (pv 2) zb)) zb))) (fun _ _=>rfl)) (zd uaf hr rfl (za (pv 0) (za zf zb))))))),?_⟩;rintro f xs ⟨rows,wd⟩ hl ⟨rfl,g⟩
 try dsimp only [ya,zi]
 dsimp only at *;have g1:=g.h1;have g2:=g.h2;have w1:=g.w1;have w2:=g.w2;have ml:(rows.map fun r=>PyData.list (r.map .int)).length=rows.length:=aqr _;have ml1:2<=(rows.map fun r=>PyData.list (r.map .int)).length:=by omega
 have ml2:(rows.map fun r=>PyData.list (r.map .int)).length<=7:=by omega
 refine yq (z6 (aaI ?_));unfold tab;walk_at "w";refine zq (((rows.map fun r=>PyData.list (r.map .int)).length:Nat):Int) ?_;walk_at "w";rintro _ ⟨i,rfl,i0,i1⟩;have hi:i.toNat<rows.length:=by omega
 have hr:=g.row _ (aq0 hi);have hh:=g.hgt _ (aq0 hi);refine⟨_,rfl,_,yU (F:=fun q:List Int=>PyData.list (q.map .int)) (j:=i.toNat) (by omega) hi,?_⟩;generalize rows[i.toNat]=row at hr hh;have rl:(row.map PyData.int).length=row.length:=aqr _;have rl1:2<=(row.map PyData.int).length:=by omega
 have rl2:(row.map PyData.int).length<=7:=by omega
 walk_at "w";refine zq (((row.map PyData.int).length:Nat):Int) ?_;walk_at "w";rintro _ ⟨q,rfl,q0,q1⟩;have hq:q.toNat<row.length:=by omega
 refine⟨_,rfl,_,yU (F:=PyData.int) (j:=q.toNat) (by omega) hq,?_⟩;have hb:=hh _ (aq0 hq);generalize row[q.toNat]=v at hb;walk_at "w";refine zq 2 ?_;walk_at "w";rintro _ ⟨u,rfl,u0,u1⟩;walk_at "w";omega
theorem jF {n i:Nat} {d:PyData} (h:(aab n)[i]?=some d):i<n/\d=.int (i:Int):=by
 unfold aab at h;rw [aqA] at h;by_cases hi:i<n
 ·rw [arW hi] at h;cases h;exact⟨hi,rfl⟩
 ·rw [aqZ (by rw [ara];omega)] at h;cases h
theorem jv (n:Nat):(aab n).length=n:=by unfold aab;simp
noncomputable def akX (x y:Nat):PyData:=.tuple [.int x,.int y]
noncomputable def jL (t n:Nat):List PyData:=(aqL n).flatMap fun x=>(aqL t).map (akX x)
theorem ac8 (t n:Nat):jL t (n+1)=jL t n++(aqL t).map (akX n):=by
 unfold jL;rw [arS,arI];simp
theorem aeX (t:Nat):∀ n,(jL t n).length=t * n
 | 0=>rfl
 | n+1=>by rw [ac8,aqM,aeX t n,aqr,ara,auK]
abbrev vj (K:aqu):Sp:=spD K 1 (fun (c:List (List Int)×Nat) xs=>xs=[.dat (tab c.1)]/\Good c.2 c.1) fun c r=>r=.list (jL c.1.length c.2)
theorem ajs (F:Def K mg "points" abi pf) (uac:mg "range"=none) (uau:FnIn P w K mg base k "size" pf (aha K)):FnIn P w K mg base (k+1) "points" pf (vj K):=by
 refine F.ok sc_points rfl fun fa cdv A outer s H E hr=>⟨_,(zc (yf (zd uau hr rfl (za (pv 0) zb)) (zG (K:=K) (n:=2) rfl rfl (zg (ze (i:=1) sc_points.nd rfl (Or.inl rfl) (Or.inr rfl)) (zg (ze (i:=2) sc_points.nd rfl (Or.inr rfl) (Or.inl rfl)) zD)))) (zj (zu (afp (N:=pO) (own:=2) (fr:=[2]) (by walk_at "c") rfl (yM rfl uac (za (pv 1) zb)) (fun _ _ _ _=>(ze (i:=0) (show (pO:List Str).Nodup by decide +kernel) rfl (Or.inl rfl) (Or.inr rfl))) (fun _ _ _ _=>yc) (fun _ _ _ _=>(yM rfl uac (za (pv 2) zb))) (fun _ _ _ _=>(ze (i:=1) (show (pO:List Str).Nodup by decide +kernel) rfl (Or.inl rfl) (Or.inr rfl))) (fun _ _ _ _=>yc) (fun _ _ _ _=>(zv (za (pv 0) (za (pv 1) zb)))) rfl rfl (fun _=>rfl) (fun _ _ _ _ _=>rfl))))),?_⟩;rintro f xs ⟨rows,wd⟩ hl ⟨rfl,g⟩
 try dsimp only [ya,zi]
 dsimp only at *;have g2:=g.h2;have w2:=g.w2;refine yq (z6 (zq (rows,wd) ?_));walk_at "w";rintro _ rfl;refine yk rfl (zo (zh (zo (zh (zO ?_)))));refine yA (PEdO.ped (qW (qE (zp (zk rfl (zH ⟨_,rfl,by dsimp only;omega,by dsimp only;omega,fun n ρ es=>(∃ u v,ρ=[u,v,some (.dat (.int rows.length))])/\es=jL rows.length n,⟨⟨_,_,rfl⟩,rfl⟩,?_,?_⟩))))))
 ·rintro D n d ρ' es hd ⟨⟨u,v,rfl⟩,rfl⟩;obtain⟨hn,rfl⟩:=jF hd;have hn':n<wd:=by have:n<((wd:Int)).toNat:=hn;omega
  have l1:rows.length * n<=7 * 7:=arP g2 (by omega);refine zh (jo ?_);rw [if_pos rfl];refine aoB (qE (zp (zk rfl (zH ⟨_,rfl,by omega,by omega,fun m ρ es=>(∃ v,ρ=[some (.dat (.int n)),v,some (.dat (.int rows.length))])/\es=jL rows.length n++(aqL m).map (akX n),⟨⟨_,rfl⟩,by simp⟩,?_,?_⟩))))
  ·rintro m d ρ2 es2 hd2 ⟨⟨v,rfl⟩,rfl⟩;obtain⟨hm,rfl⟩:=jF hd2;have hm':m<rows.length:=by have:m<((rows.length:Int)).toNat:=hm;omega
   refine zh (jo ?_);rw [if_pos rfl];refine yl (by rw [aqM,aeX,aqr,ara];omega) ?_;walk_at "w";rw [arS,aqO,arB];rfl
  ·rintro ρ2 es2 ⟨⟨v,rfl⟩,rfl⟩;rw [jv,ass];exact⟨⟨_,_,rfl⟩,by rw [ac8]⟩
 ·rintro ρ' es ⟨_,rfl⟩;rw [jv,ass]
noncomputable def F2:PyData->List PyData
 | .tuple [.int x,.int y]=>[qR x y 0,qR x y 1]
 | _=>[]
noncomputable def gD3 (g:Int×Int×Int):PyData:=qR g.1 g.2.1 g.2.2
noncomputable def opG (rows:List (List Int)) (wd:Nat) (cut:Int) (g:Int×Int×Int):Bool:=yK rows wd cut g.1 g.2.1 g.2.2
noncomputable def yW (t n:Nat):List (Int×Int×Int):=(aqL n).flatMap fun (x:Nat)=>(aqL t).flatMap fun (y:Nat)=>[((x:Int),(y:Int),(0:Int)),((x:Int),(y:Int),(1:Int))]
theorem af7 (t n:Nat):(jL t n).flatMap F2=(yW t n).map gD3:=by
 unfold jL yW;rw [List.flatMap_assoc,at5]
 congr 1
 funext x
 rw [List.flatMap_map,at5];rfl
theorem amR {t n:Nat} {d:PyData} (h:d∈jL t n):∃ x y:Nat,d=akX x y:=by
 obtain⟨x,_,h⟩:=arb.mp h;obtain⟨y,_,rfl⟩:=aqG.mp h;exact⟨x,y,rfl⟩
theorem ac9 {α:Type} {F:Nat->List α} {b:Nat} (h:∀ n,(F n).length<=b):∀ n,((aqL n).flatMap F).length<=b * n
 | 0=>by simp
 | n+1=>by
  rw [arS,arI,aqM];have:=ac9 h n;have:=h n;simp only [List.flatMap_cons,List.flatMap_nil,arc];rw [auK];omega
theorem ad6 {t n:Nat} (ht:t<=7) (hn:n<=7):(yW t n).length<=98:=by
 have h:=ac9 (F:=fun (x:Nat)=>(aqL t).flatMap fun (y:Nat)=>[((x:Int),(y:Int),(0:Int)),((x:Int),(y:Int),(1:Int))]) (b:=2 * t) (fun x=>ac9 (F:=fun (y:Nat)=>[((x:Int),(y:Int),(0:Int)),((x:Int),(y:Int),(1:Int))]) (b:=2) (fun y=>aqC 2) t) n;exact aqS h (arP (show 2 * t<=14 by omega) hn)
noncomputable def ao8 (rows:List (List Int)) (wd:Nat) (cut:Int) (x y:Nat):List (Int×Int×Int):=(if yK rows wd cut x y 0=true then [((x:Int),(y:Int),(0:Int))] else [])++if yK rows wd cut x y 1=true then [((x:Int),(y:Int),(1:Int))] else []
noncomputable def yx (rows:List (List Int)) (wd:Nat) (cut:Int):List (Int×Int×Int):=(aqL wd).flatMap fun x=>(aqL rows.length).flatMap fun y=>ao8 rows wd cut x y
theorem ajt {α:Type} {F:Nat->List α} (n:Nat):(aqL (n+1)).flatMap F=(aqL n).flatMap F++F n:=by
 rw [arS,arI];simp
theorem amS (rows:List (List Int)) (wd:Nat) (cut:Int) (x y:Nat):ao8 rows wd cut x y=[((x:Int),(y:Int),(0:Int)),((x:Int),(y:Int),(1:Int))].filter (opG rows wd cut):=by
 unfold ao8 opG;simp only [aq9,aui];cases yK rows wd cut x y 0 <;> cases yK rows wd cut x y 1 <;> rfl
theorem aag (rows:List (List Int)) (wd:Nat) (cut:Int):yx rows wd cut=(yW rows.length wd).filter (opG rows wd cut):=by
 unfold yx yW;rw [auD]
 congr 1
 funext x
 rw [auD]
 congr 1
 funext y
 exact amS rows wd cut x y
def gLt (a b:Int×Int×Int):Prop:=a.1<b.1 \/ (a.1=b.1/\(a.2.1<b.2.1 \/ (a.2.1=b.2.1/\a.2.2<b.2.2)))
theorem aeY {α:Type} {R:α->α->Prop} {F:Nat->List α} (n:Nat) (h1:∀ i,i<n->(F i).Pairwise R) (h2:∀ i j,i<j->j<n->∀ a∈F i,∀ b∈F j,R a b):((aqL n).flatMap F).Pairwise R:=by
 induction n with
 | zero=>simp
 | succ n ih =>
  rw [ajt,atr];refine⟨ih (fun i hi=>h1 i (by omega)) (fun i j hij hj=>h2 i j hij (by omega)),h1 n (by omega),fun a ha b hb=>?_⟩;obtain⟨i,hi,ha⟩:=arb.mp ha;exact h2 i n (aqY.mp hi) (by omega) a ha b hb
theorem af8 (t n:Nat):(yW t n).Pairwise gLt:=by
 unfold yW;refine aeY n (fun x _=>aeY t (fun y _=>?_) fun y y' hy _ a ha b hb=>?_) fun x x' hx _ a ha b hb=>?_
 ·simp [gLt]
 ·simp only [aqE,arj,or_false] at ha hb;rcases ha with rfl | rfl <;> rcases hb with rfl | rfl <;> (unfold gLt;dsimp only;omega)
 ·obtain⟨y,_,ha⟩:=arb.mp ha;obtain⟨y',_,hb⟩:=arb.mp hb;simp only [aqE,arj,or_false] at ha hb;rcases ha with rfl | rfl <;> rcases hb with rfl | rfl <;> (unfold gLt;dsimp only;omega)
theorem ad7 {rows:List (List Int)} {wd:Nat} {cut:Int} (g:Good wd rows):(yx rows wd cut).length<=98:=by
 rw [aag];exact aqS (aq8 _ _) (ad6 g.h2 g.w2)
abbrev ail (K:aqu):Sp:=spN K 2 (fun (c:List (List Int)×Nat×Int) xs=>xs=[.dat (tab c.1),.dat (.int c.2.2)]/\Good c.2.1 c.1) fun c es=>es=((yW c.1.length c.2.1).filter (opG c.1 c.2.1 c.2.2)).map gD3
theorem akY (F:Def K mg "gates" acq pz) (uaj:FnIn P w K mg base k "ask_table" pf (ad4 K)) (uak:FnIn P w K mg base k "points" pf (vj K)) (uaw:FnIn P w K mg base k "is_open" ph (aeW K)):FnIn P w K mg base (k+1) "gates" pz (ail K):=by
 refine F.okN sc_gates rfl fun fa cdv A outer s H E hr=>⟨_,(zc (yE (zd uaj hr rfl (za (pv 0) zb))) (zc (afq (i:=2) (N:=qg) (own:=3) (fr:=[]) (by walk_at "c") rfl sc_gates.nd rfl (Or.inl rfl) (zy (K:=K) rfl (zd uak hr rfl (za (pv 0) zb))) (fun _ _ _ _=>(zG (K:=K) (n:=2) rfl rfl (zg (ze (i:=0) (show (qg:List Str).Nodup by decide +kernel) rfl (Or.inl rfl) (Or.inr rfl)) (zg (ze (i:=1) (show (qg:List Str).Nodup by decide +kernel) rfl (Or.inl rfl) (Or.inr rfl)) zD)))) (fun _ _ _ _=>yc) (fun _ _ _ _=>(aan (K:=K) rfl (zv (za zf (za zf zb))))) (fun _ _ _ _=>(ze (i:=2) (show (qg:List Str).Nodup by decide +kernel) rfl (Or.inl rfl) (Or.inr rfl))) (fun _ _ _ _=>yc) (fun _ _ _ _=>(zv (za (pv 0) (za (pv 1) (za (pv 2) zb))))) rfl rfl (fun _=>rfl) (fun _ _ _ _ _=>rfl) (Or.inl rfl) rfl) (zj (zu (zX (N:=pJ) (own:=1) (fr:=[0,1]) (by walk_at "c") rfl (zy (K:=K) rfl (pv 2)) (fun _ _ _ _=>(ze (i:=0) (show (pJ:List Str).Nodup by decide +kernel) rfl (Or.inl rfl) (Or.inr rfl))) (fun _ _ _ _=>(yO (ym (K:=K) rfl (zd uaw hr rfl (za (pv 1) (za (pv 2) (za (pv 0) zb)))) (fun _=>rfl)))) (fun _ _ _ _=>(pv 0)) rfl rfl (fun _=>rfl)))))),?_⟩;rintro f xs ⟨rows,wd,cut⟩ hl ⟨rfl,g⟩
 try dsimp only [ya,zi]
 dsimp only at *;have sl:=ad6 g.h2 g.w2;refine ve (aaR (zq (rows,wd) ?_));walk_at "w";rintro _ rfl;refine ve (z6 (PEdO.ped (aoC (zV (zq (rows,wd) ?_)))));walk_at "w";rintro _ rfl;refine⟨_,rfl,F2,by rw [af7,aqr];exact aqS sl (by decide),?_,?_⟩
 ·rintro D d ρ' es hd ho hes;obtain⟨x,y,rfl⟩:=amR hd;obtain⟨us,hus,rfl⟩:=ho
  match us,hus with
  | [u1,u2,u3],_ =>
   refine yk rfl (zo (zh (zo (zh (zO (jo ?_))))));rw [if_pos rfl];have hes':es.length+2<=1000:=hes;refine aoB (adO (yP (zp (yb (zp (yb (zH ⟨_,rfl,by simp,_,rfl,fun m ρ es2=>(∃ v,ρ=[some (.dat (.int x)),some (.dat (.int y)),v])/\es2=es++[qR x y 0,qR x y 1].take m,⟨⟨_,rfl⟩,by simp⟩,?_,?_⟩)))))))
   ·rintro m d ρ2 es2 hd2 ⟨⟨v,rfl⟩,rfl⟩;have hm:(m=0/\d=.int 0) \/ (m=1/\d=.int 1):=by
     match m,hd2 with
     | 0,h=>cases h;exact .inl ⟨rfl,rfl⟩
     | 1,h=>cases h;exact .inr ⟨rfl,rfl⟩
     | (q+2),h=>cases h
    rcases hm with⟨rfl,rfl⟩ | ⟨rfl,rfl⟩
    ·refine zh (jo ?_);rw [if_pos rfl];refine yl (by simp;omega) ?_;walk_at "w";simp;rfl
    ·refine zh (jo ?_);rw [if_pos rfl];refine yl (by simp;omega) ?_;walk_at "w";simp;rfl
   ·rintro ρ2 es2 ⟨⟨v,rfl⟩,rfl⟩;exact⟨⟨[_,_,_],rfl,rfl⟩,rfl⟩
 ·rw [show List.flatMap F2 (jL (rows,wd).1.length (rows,wd).2)=(yW rows.length wd).map gD3 from af7 _ _];refine zh (adR (qW (zV (zk rfl ⟨_,rfl,fun n ρ es=>(∃ u,ρ=[u,some (.dat (tab rows)),some (.dat (.int cut))])/\es=(((yW rows.length wd).take n).filter (opG rows wd cut)).map gD3,⟨⟨_,rfl⟩,rfl⟩,?_,?_⟩))))
  ·rintro D n d ρ' es hd ⟨⟨u,rfl⟩,rfl⟩;rw [aqA] at hd;cases hq:(yW rows.length wd)[n]? with
   | none=>rw [hq] at hd;cases hd
   | some q =>
    rw [hq] at hd;cases hd;have tk:(yW rows.length wd).take (n+1)=(yW rows.length wd).take n++[q]:=by
     rw [ath,hq];rfl
    have len:((((yW rows.length wd).take n).filter (opG rows wd cut)).map gD3).length<1000:=by
     rw [aqr];have a1:=aq8 (opG rows wd cut) ((yW rows.length wd).take n);rw [arf] at a1;omega
    refine zh (y9 (zq (rows,wd,cut,q.1,q.2.1,q.2.2) ?_));unfold gD3 at *;walk_at "w";rintro _ rfl;dsimp only;refine⟨_,rfl,?_⟩;refine z7 (fun h=>?_) fun h=>?_
    ·refine yl len ?_;walk_at "w";rw [tk,arl,aqO,aq9,show opG rows wd cut q=true from h,if_pos rfl];rfl
    ·refine⟨⟨_,rfl⟩,?_⟩;rw [tk,arl,aqO,aq9,show opG rows wd cut q=false from h,if_neg aqt];simp
  ·rintro ρ' es ⟨_,rfl⟩;rw [aqr,aq6]
abbrev CC:=List (List Int)×Nat×Int×Int×Int
noncomputable def zK (rows:List (List Int)) (wd:Nat) (x y:Int):Bool:=zZ rows wd x y && zZ rows wd (x+1) (y+1)
noncomputable def hiB (rows:List (List Int)) (cut x y:Int):Bool:=decide (cut<zQ rows x y)
theorem cell_in {rows:List (List Int)} {wd:Nat} {x y:Int} (h:zK rows wd x y=true):zZ rows wd x y=true/\zZ rows wd (x+1) y=true/\zZ rows wd (x+1) (y+1)=true/\zZ rows wd x (y+1)=true:=by
 unfold zK at h;rw [aqy] at h;obtain⟨a0,a1,a2,a3⟩:=aaZ h.1;obtain⟨b0,b1,b2,b3⟩:=aaZ h.2;refine⟨h.1,?_,h.2,?_⟩ <;> unfold zZ <;> rw [decide_eq_true (by omega),decide_eq_true (by omega)] <;> rfl
section
variable {rows:List (List Int)} {wd:Nat} {cut x y:Int}
theorem abn (h:zK rows wd x y=true):yK rows wd cut x y 0=(hiB rows cut x y != hiB rows cut (x+1) y):=by
 obtain⟨a,b,c,d⟩:=cell_in h;unfold yK vh;show (decide ((0:Int)=0 \/ (0:Int)=1) && (zZ rows wd x y && zZ rows wd (x+1) y) && _)=_;rw [a,b];rfl
theorem ada (h:zK rows wd x y=true):yK rows wd cut x y 1=(hiB rows cut x y != hiB rows cut x (y+1)):=by
 obtain⟨a,b,c,d⟩:=cell_in h;unfold yK vh;show (decide ((1:Int)=0 \/ (1:Int)=1) && (zZ rows wd x y && zZ rows wd x (y+1)) && _)=_;rw [a,d];rfl
theorem abo (h:zK rows wd x y=true):yK rows wd cut x (y+1) 0=(hiB rows cut x (y+1) != hiB rows cut (x+1) (y+1)):=by
 obtain⟨a,b,c,d⟩:=cell_in h;unfold yK vh;show (decide ((0:Int)=0 \/ (0:Int)=1) && (zZ rows wd x (y+1) && zZ rows wd (x+1) (y+1)) && _)=_;rw [c,d];rfl
theorem abp (h:zK rows wd x y=true):yK rows wd cut (x+1) y 1=(hiB rows cut (x+1) y != hiB rows cut (x+1) (y+1)):=by
 obtain⟨a,b,c,d⟩:=cell_in h;unfold yK vh;show (decide ((1:Int)=0 \/ (1:Int)=1) && (zZ rows wd (x+1) y && zZ rows wd (x+1) (y+1)) && _)=_;rw [b,c];rfl
end
noncomputable def cg (x y:Int):List (Int×Int×Int):=[(x,y,0),(x,y,1),(x,y+1,0),(x+1,y,1)]
noncomputable def yR (rows:List (List Int)) (wd:Nat) (cut x y:Int):Bool:=(cg x y).all (opG rows wd cut)
noncomputable def adb (rows:List (List Int)) (x y:Int):Int:=zQ rows x y+(zQ rows (x+1) y+(zQ rows (x+1) (y+1)+(zQ rows x (y+1)+0)))
noncomputable def jw (rows:List (List Int)) (cut x y:Int):Bool:=decide (4 * cut+2<=adb rows x y)
noncomputable def pairD (g h:Int×Int×Int):PyData:=.tuple [gD3 g,gD3 h]
abbrev aeZ (K:aqu):Sp:=spD K 3 (fun (c:List (List Int)×Nat×Int×Int) xs=>xs=[.dat (tab c.1),.dat (.int c.2.2.1),.dat (.int c.2.2.2)]/\Good c.2.1 c.1) fun c r=>r=.bool (zK c.1 c.2.1 c.2.2.1 c.2.2.2)
theorem amT (F:Def K mg "has_cell" vH pj) (uan:FnIn P w K mg base k "has_point" pj (aij K)):FnIn P w K mg base (k+1) "has_cell" pj (aeZ K):=by
 refine F.ok afV rfl fun fa cdv A outer s H E hr=>⟨_,(zj (zu (acB (zd uan hr rfl (za (pv 0) (za (pv 1) (za (pv 2) zb)))) (aei (zd uan hr rfl (za (pv 0) (za (zt zP (pv 1) zf) (za (zt zP (pv 2) zf) zb)))))))),?_⟩;rintro f xs ⟨rows,wd,x,y⟩ hl ⟨rfl,g⟩
 try dsimp only [ya,zi]
 dsimp only at *;refine yA (aeo (zq (rows,wd,x,y) ?_));walk_at "w";rintro _ rfl;dsimp only;refine⟨_,rfl,?_⟩;refine z7 (fun h=>?_) fun h=>?_
 ·refine zq (rows,wd,x+1,y+1) ?_;walk_at "w";rintro _ rfl;dsimp only;unfold zK;rw [h,asv]
 ·unfold zK;rw [h,asP]
abbrev aax (K:aqu):Sp:=spD K 2 (fun (c:Int×Int) xs=>xs=[.dat (.int c.1),.dat (.int c.2)]) fun c r=>r=.list [.tuple [.int c.1,.int c.2],.tuple [.int (c.1+1),.int c.2],.tuple [.int (c.1+1),.int (c.2+1)],.tuple [.int c.1,.int (c.2+1)]]
theorem ahb (F:Def K mg "corners" aaq pH):FnIn P w K mg base (k+1) "corners" pH (aax K):=by
 refine F.ok ag1 rfl fun fa cdv A outer s H E hr=>⟨_,(zj (zu (z9 (za (zv (za (pv 0) (za (pv 1) zb))) (za (zv (za (zt zP (pv 0) zf) (za (pv 1) zb))) (za (zv (za (zt zP (pv 0) zf) (za (zt zP (pv 1) zf) zb))) (za (zv (za (pv 0) (za (zt zP (pv 1) zf) zb))) zb))))))),?_⟩;rintro f xs ⟨x,y⟩ hl rfl
 try dsimp only [ya,zi]
 dsimp only at *;walk_at "w";rfl
abbrev abq (K:aqu):Sp:=spD K 1 (fun (c:Int×Int) xs=>xs=[.dat (.tuple [.int c.1,.int c.2])]) fun c r=>r=.list ((cg c.1 c.2).map gD3)
theorem aju (F:Def K mg "cell_gates" jS ["cell"]):FnIn P w K mg base (k+1) "cell_gates" ["cell"] (abq K):=by
 refine F.ok sc_cell_gates rfl fun fa cdv A outer s H E hr=>⟨_,(zc (yf (pv 0) (zG (K:=K) (n:=2) rfl rfl (zg (ze (i:=1) sc_cell_gates.nd rfl (Or.inl rfl) (Or.inr rfl)) (zg (ze (i:=2) sc_cell_gates.nd rfl (Or.inl rfl) (Or.inr rfl)) zD)))) (zj (zu (z9 (za (zv (za (pv 1) (za (pv 2) (za zf zb)))) (za (zv (za (pv 1) (za (pv 2) (za zf zb)))) (za (zv (za (pv 1) (za (zt zP (pv 2) zf) (za zf zb)))) (za (zv (za (zt zP (pv 1) zf) (za (pv 2) (za zf zb)))) zb)))))))),?_⟩;rintro f xs ⟨x,y⟩ hl rfl
 try dsimp only [ya,zi]
 dsimp only at *;walk_at "w";rfl
abbrev amU (c:CC) (xs:List DV):Prop:=xs=[.dat (tab c.1),.dat (.int c.2.2.1),.dat (.tuple [.int c.2.2.2.1,.int c.2.2.2.2])]/\Good c.2.1 c.1/\zK c.1 c.2.1 c.2.2.2.1 c.2.2.2.2=true
abbrev abU (K:aqu):Sp:=spD K 3 amU fun c r=>r=.bool (yR c.1 c.2.1 c.2.2.1 c.2.2.2.1 c.2.2.2.2)
theorem ahc (F:Def K mg "is_crossed" jT pq) (uam:mg "all"=none) (uaw:FnIn P w K mg base k "is_open" ph (aeW K)) (uax:FnIn P w K mg base k "cell_gates" ["cell"] (abq K)):FnIn P w K mg base (k+1) "is_crossed" pq (abU K):=by
 refine F.ok ady rfl fun fa cdv A outer s H E hr=>⟨_,(zj (zu (zz (adP (K:=K) rfl rfl) rfl uam auk (za (zX (N:=pJ) (own:=1) (fr:=[0,1]) (by walk_at "c") rfl (zy (K:=K) rfl (zd uax hr rfl (za (pv 2) zb))) (fun _ _ _ _=>(ze (i:=0) (show (pJ:List Str).Nodup by decide +kernel) rfl (Or.inl rfl) (Or.inr rfl))) (fun _ _ _ _=>yc) (fun _ _ _ _=>(zd uaw hr rfl (za (pv 1) (za (pv 2) (za (pv 0) zb))))) rfl rfl (fun _=>rfl)) zb)))),?_⟩;rintro f xs ⟨rows,wd,cut,x,y⟩ hl ⟨rfl,g,hc⟩
 try dsimp only [ya,zi]
 dsimp only at *;refine yA (anE (PEdO.ped (ab5 (A:=gD3) (B:=fun q=>PyData.bool (opG rows wd cut q)) (cg x y) (zV (zq (x,y) ?_)))));walk_at "w";rintro _ rfl;refine⟨_,rfl,rfl,show 4<=1000 by decide,?_,?_⟩
 ·rintro D q ρ' es hq ho hes;obtain⟨u,rfl⟩:=ho.one;refine zh (jo ?_);rw [if_pos rfl];refine yl hes (zq (rows,wd,cut,q.1,q.2.1,q.2.2) ?_);unfold gD3;walk_at "w";rintro _ rfl;exact⟨.mk1,rfl⟩
 ·refine⟨(cg x y).map (opG rows wd cut),by rw [arR];rfl,?_⟩;show PyData.bool _=PyData.bool _;unfold yR;rw [List.all_map];rfl
abbrev akZ (K:aqu):Sp:=spD K 3 amU fun c r=>r=.bool (jw c.1 c.2.2.1 c.2.2.2.1 c.2.2.2.2)
theorem ao9 (F:Def K mg "has_high_middle" yQ pq) (ual:mg "sum"=none) (uay:FnIn P w K mg base k "corners" pH (aax K)):FnIn P w K mg base (k+1) "has_high_middle" pq (akZ K):=by
 refine F.ok sc_has_high_middle rfl fun fa cdv A outer s H E hr=>⟨_,(zc (yf (pv 2) (zG (K:=K) (n:=2) rfl rfl (zg (ze (i:=3) sc_has_high_middle.nd rfl (Or.inl rfl) (Or.inr rfl)) (zg (ze (i:=4) sc_has_high_middle.nd rfl (Or.inl rfl) (Or.inr rfl)) zD)))) (zj (zu (vw ajT (zz (aaT (K:=K) rfl rfl) rfl ual atl (za (zX (N:=pC) (own:=2) (fr:=[0]) (by walk_at "c") rfl (zy (K:=K) rfl (zd uay hr rfl (za (pv 3) (za (pv 4) zb)))) (fun _ _ _ _=>(zG (K:=K) (n:=2) rfl rfl (zg (ze (i:=0) (show (pC:List Str).Nodup by decide +kernel) rfl (Or.inl rfl) (Or.inr rfl)) (zg (ze (i:=1) (show (pC:List Str).Nodup by decide +kernel) rfl (Or.inl rfl) (Or.inr rfl)) zD)))) (fun _ _ _ _=>yc) (fun _ _ _ _=>(zE (zF (K:=K) rfl) (zE (zF (K:=K) rfl) (pv 2) (pv 1) (fun _ _=>rfl)) (pv 0) (fun _ _=>rfl))) rfl rfl (fun _=>rfl)) zb)) (zt zP (zt j8 zf (pv 1)) zf) (z8 _))))),?_⟩;rintro f xs ⟨rows,wd,cut,x,y⟩ hl ⟨rfl,g,hc⟩
 try dsimp only [ya,zi]
 dsimp only at *;obtain⟨i1,i2,i3,i4⟩:=cell_in hc;refine yq (z6 (zk rfl (yk rfl (zo (zh (zo (zh (zO ?_))))))));refine yA (adK (akg (PEdO.ped (ab5 (A:=fun p:Int×Int=>PyData.tuple [.int p.1,.int p.2]) (B:=fun p:Int×Int=>PyData.int (zQ rows p.1 p.2)) [(x,y),(x+1,y),(x+1,y+1),(x,y+1)] (zV (zq (x,y) ?_))))));walk_at "w";rintro _ rfl;refine⟨_,rfl,rfl,show 4<=1000 by decide,?_,?_⟩
 ·rintro D p ρ' es hp ho hes;obtain⟨u,v,rfl⟩:=ho.two;have hi:zZ rows wd p.1 p.2=true:=by
   simp only [aqE,arj,or_false] at hp;rcases hp with rfl | rfl | rfl | rfl
   ·exact i1
   ·exact i2
   ·exact i3
   ·exact i4
  obtain⟨r,h1,h2⟩:=vi g hi;refine yk rfl (zo (zh (zo (zh (zO (jo ?_))))));rw [if_pos rfl];refine yl hes ?_;unfold tab;walk_at "w";refine⟨_,h1,?_⟩;walk_at "w";refine⟨_,h2,?_⟩;exact⟨.mk2,rfl⟩
 ·refine⟨[zQ rows x y,zQ rows (x+1) y,zQ rows (x+1) (y+1),zQ rows x (y+1)],rfl,?_⟩;walk_at "w";rfl
noncomputable def ae0 (rows:List (List Int)) (cut x y:Int):List PyData:=if (hiB rows cut x y == jw rows cut x y)=true then [pairD (x,y,0) (x+1,y,1),pairD (x,y,1) (x,y+1,0)] else [pairD (x,y,0) (x,y,1),pairD (x,y+1,0) (x+1,y,1)]
noncomputable def thr (rows:List (List Int)) (wd:Nat) (cut x y:Int):List (Int×Int×Int):=(cg x y).filter (opG rows wd cut)
noncomputable def ak0:List (Int×Int×Int)->List PyData
 | a :: b :: _=>[pairD a b]
 | _=>[]
noncomputable def aim (rows:List (List Int)) (wd:Nat) (cut x y:Int):List PyData:=if yR rows wd cut x y=true then ae0 rows cut x y else ak0 (thr rows wd cut x y)
theorem amV {rows:List (List Int)} {wd:Nat} {cut x y:Int} (h:zK rows wd x y=true):thr rows wd cut x y=[] \/ ∃ a b r,thr rows wd cut x y=a :: b :: r:=by
 have e1:opG rows wd cut (x,y,0)=_:=abn (cut:=cut) h;have e2:opG rows wd cut (x,y,1)=_:=ada (cut:=cut) h;have e3:opG rows wd cut (x,y+1,0)=_:=abo (cut:=cut) h;have e4:opG rows wd cut (x+1,y,1)=_:=abp (cut:=cut) h;unfold thr cg;simp only [aq9,e1,e2,e3,e4,aui];cases hiB rows cut x y <;> cases hiB rows cut (x+1) y <;> cases hiB rows cut (x+1) (y+1) <;> cases hiB rows cut x (y+1) <;> simp
abbrev af9 (K:aqu):Sp:=spN K 3 amU fun c es=>es=ae0 c.1 c.2.2.1 c.2.2.2.1 c.2.2.2.2
theorem ajv (F:Def K mg "crossed_ties" ji pq) (uax:FnIn P w K mg base k "cell_gates" ["cell"] (abq K)) (uah:FnIn P w K mg base k "stands_high" pA (abT K)) (uaI:FnIn P w K mg base k "has_high_middle" pq (akZ K)):FnIn P w K mg base (k+1) "crossed_ties" pq (af9 K):=by
 refine F.okN sc_crossed_ties rfl fun fa cdv A outer s H E hr=>⟨_,(zc (yf (zd uax hr rfl (za (pv 2) zb)) (aer (K:=K) (n:=4) rfl rfl (zg (ze (i:=3) sc_crossed_ties.nd rfl (Or.inl rfl) (Or.inr rfl)) (zg (ze (i:=4) sc_crossed_ties.nd rfl (Or.inl rfl) (Or.inr rfl)) (zg (ze (i:=5) sc_crossed_ties.nd rfl (Or.inl rfl) (Or.inr rfl)) (zg (ze (i:=6) sc_crossed_ties.nd rfl (Or.inl rfl) (Or.inr rfl)) zD)))))) (zc (yF (zI (qV (K:=K) rfl hr.units) (zd uah hr rfl (za (pv 0) (za (pv 1) (za (pv 2) zb)))) (zd uaI hr rfl (za (pv 0) (za (pv 1) (za (pv 2) zb)))) (z8 _)) (zj (zu (z9 (za (zv (za (pv 3) (za (pv 6) zb))) (za (zv (za (pv 4) (za (pv 5) zb))) zb))))) zS) (zj (zu (z9 (za (zv (za (pv 3) (za (pv 4) zb))) (za (zv (za (pv 5) (za (pv 6) zb))) zb))))))),?_⟩;rintro f xs ⟨rows,wd,cut,x,y⟩ hl ⟨rfl,g,hc⟩
 try dsimp only [ya,zi]
 dsimp only at *;have hi:=(cell_in hc).1;refine ve (z6 (zq (x,y) ?_));walk_at "w";rintro _ rfl;refine ahI rfl (zo (zh (zo (zh (zo (zh (zo (zh (zO ?_)))))))));refine aki (zT (jn (zq (rows,wd,cut,x,y) ?_)));walk_at "w";rintro _ rfl;refine zq (rows,wd,cut,x,y) ?_;walk_at "w";rintro _ rfl;dsimp only;walk_at "w";rw [if_neg aqt,af6];unfold ae0;refine z7 (fun h=>?_) fun h=>?_
 ·rw [if_pos (show (hiB rows cut x y == jw rows cut x y)=true from h)];refine aac ?_;walk_at "w";rfl
 ·rw [if_neg (show ¬ (hiB rows cut x y == jw rows cut x y)=true from by rw [show (hiB rows cut x y == jw rows cut x y)=false from h];exact aqt)];refine adR (aac ?_);walk_at "w";rfl
abbrev ain (K:aqu):Sp:=spN K 3 amU fun c es=>es=aim c.1 c.2.1 c.2.2.1 c.2.2.2.1 c.2.2.2.2
theorem ak1 (F:Def K mg "cell_ties" qL pq) (uaJ:FnIn P w K mg base k "is_crossed" pq (abU K)) (ubh:FnIn P w K mg base k "crossed_ties" pq (af9 K)) (uax:FnIn P w K mg base k "cell_gates" ["cell"] (abq K)) (uaw:FnIn P w K mg base k "is_open" ph (aeW K)):FnIn P w K mg base (k+1) "cell_ties" pq (ain K):=by
 refine F.okN sc_cell_ties rfl fun fa cdv A outer s H E hr=>⟨_,(zc (yF (ym (K:=K) rfl (zd uaJ hr rfl (za (pv 0) (za (pv 1) (za (pv 2) zb)))) (fun _=>rfl)) (zj (zu (zd ubh hr rfl (za (pv 0) (za (pv 1) (za (pv 2) zb)))))) zS) (zc (yz (i:=3) (N:=pJ) (own:=1) (fr:=[0,1]) (by walk_at "c") rfl sc_cell_ties.nd rfl (Or.inl rfl) (zy (K:=K) rfl (zd uax hr rfl (za (pv 2) zb))) (fun _ _ _ _=>(ze (i:=0) (show (pJ:List Str).Nodup by decide +kernel) rfl (Or.inl rfl) (Or.inr rfl))) (fun _ _ _ _=>(yO (ym (K:=K) rfl (zd uaw hr rfl (za (pv 1) (za (pv 2) (za (pv 0) zb)))) (fun _=>rfl)))) (fun _ _ _ _=>(pv 0)) rfl rfl (fun _=>rfl) (Or.inl rfl) rfl) (zj (zu (v8 (ym (K:=K) rfl (pv 3) (fun _=>rfl)) (z9 (za (zv (za (zE (zF (K:=K) rfl) (pv 3) zf (fun _ _=>rfl)) (za (zE (zF (K:=K) rfl) (pv 3) zf (fun _ _=>rfl)) zb))) zb)) (z9 zb)))))),?_⟩;rintro f xs ⟨rows,wd,cut,x,y⟩ hl ⟨rfl,g,hc⟩
 try dsimp only [ya,zi]
 dsimp only at *;refine aki (y9 (zq (rows,wd,cut,x,y) ?_));walk_at "w";rintro _ rfl;dsimp only;refine⟨_,rfl,?_⟩;unfold aim;refine z7 (fun h=>?_) fun h=>?_
 ·rw [if_pos h];refine jg (rows,wd,cut,x,y) ?_;walk_at "w";exact fun es he=>he
 ·rw [if_neg (by rw [h];exact aqt)];refine ve (z6 (PEdO.ped (qW (zV (zq (x,y) ?_)))));walk_at "w";rintro _ rfl;refine⟨_,rfl,fun n ρ es=>(∃ u,ρ=[u,some (.dat (tab rows)),some (.dat (.int cut))])/\es=(((cg x y).take n).filter (opG rows wd cut)).map gD3,⟨⟨_,rfl⟩,rfl⟩,?_,?_⟩
  ·rintro D n d ρ' es hd ⟨⟨u,rfl⟩,rfl⟩;rw [aqA] at hd;cases hq:(cg x y)[n]? with
   | none=>rw [hq] at hd;cases hd
   | some q =>
    rw [hq] at hd;cases hd;have hn:n<(cg x y).length:=(aqs.mp hq).1;have n4:n<4:=hn;have tk:(cg x y).take (n+1)=(cg x y).take n++[q]:=by
     rw [ath,hq];rfl
    have len:((((cg x y).take n).filter (opG rows wd cut)).map gD3).length<1000:=by
     rw [aqr];have a1:=aq8 (opG rows wd cut) ((cg x y).take n);rw [arf] at a1;omega
    refine zh (y9 (zq (rows,wd,cut,q.1,q.2.1,q.2.2) ?_));unfold gD3 at *;walk_at "w";rintro _ rfl;dsimp only;refine⟨_,rfl,?_⟩;refine z7 (fun h=>?_) fun h=>?_
    ·refine yl len ?_;walk_at "w";rw [tk,arl,aqO,aq9,show opG rows wd cut q=true from h,if_pos rfl];rfl
    ·refine⟨⟨_,rfl⟩,?_⟩;rw [tk,arl,aqO,aq9,show opG rows wd cut q=false from h,if_neg aqt];simp
  ·rintro ρ' es ⟨_,rfl⟩;rw [aqr,aq6];rw [show auM (opG rows wd cut) (cg (x,y).1 (x,y).2)=thr rows wd cut x y from rfl];rcases amV (cut:=cut) hc with e | ⟨a,b,r,e⟩
   ·rw [e];refine zh (adR (anG (y9 (zk rfl ⟨false,rfl,?_⟩))));rw [if_neg aqt];exact anD rfl
   ·rw [e];have h0:atI ((a :: b :: r).map gD3) 0=some (gD3 a):=yU (xs:=a :: b :: r) (j:=0) rfl (asW _);have h1:atI ((a :: b :: r).map gD3) 1=some (gD3 b):=yU (xs:=a :: b :: r) (j:=1) rfl (Nat.succ_lt_succ (asW _));refine zh (adR (anG (y9 (zk rfl ⟨true,rfl,?_⟩))));rw [if_pos rfl];refine aac ?_;walk_at "w";refine⟨_,h0,?_⟩;walk_at "w";refine⟨_,h1,?_⟩;walk_at "w";rfl
noncomputable def opF (A B C D:Bool) (i:Fin 4):Bool:=match i with
 | 0=>A != B
 | 1=>A != D
 | 2=>D != C
 | 3=>B != C
noncomputable def enF (A B C D:Bool) (i:Fin 4):Bool:=match i with
 | 0=>!A
 | 1=>A
 | 2=>D
 | 3=>!B
noncomputable def abr (A B C D M:Bool):List (Fin 4×Fin 4) :=
 if (opF A B C D 0 && opF A B C D 1 && opF A B C D 2 && opF A B C D 3)=true then (if (A == M)=true then [(0,3),(1,2)] else [(0,1),(2,3)]) else
 match ([0,1,2,3]:List (Fin 4)).filter (opF A B C D) with
 | a :: b :: _=>[(a,b)]
 | _=>[]
noncomputable def prt {α:Type} [DecidableEq α] (l:List (α×α)) (g:α):Option α:=l.findSome? fun p=>if p.1=g then some p.2 else if p.2=g then some p.1 else none
theorem amW:∀ (A B C D M:Bool) (i:Fin 4),opF A B C D i=true->∃ j,prt (abr A B C D M) i=some j/\j≠i/\opF A B C D j=true/\prt (abr A B C D M) j=some i/\enF A B C D j=!enF A B C D i:=by decide
theorem aga:∀ (A B C D M:Bool),abr A B C D M=[] \/ (∃ a b,a≠b/\abr A B C D M=[(a,b)]) \/ ∃ a b c d,a≠b/\a≠c/\a≠d/\b≠c/\b≠d/\c≠d/\abr A B C D M=[(a,b),(c,d)]:=by decide
abbrev Gt:=Int×Int×Int
noncomputable def gt (x y:Int) (i:Fin 4):Gt:=match i with
 | 0=>(x,y,0)
 | 1=>(x,y,1)
 | 2=>(x,y+1,0)
 | 3=>(x+1,y,1)
theorem ade {x y:Int} {i j:Fin 4} (h:gt x y i=gt x y j):i=j:=by
 have h1:(gt x y i).1=(gt x y j).1:=by rw [h]
 have h2:(gt x y i).2.1=(gt x y j).2.1:=by rw [h]
 have h3:(gt x y i).2.2=(gt x y j).2.2:=by rw [h]
 revert h1 h2 h3
 clear h
 match i,j with
 | 0,0=>intros;rfl
 | 0,1=>intro _ _ h;simp [gt] at h
 | 0,2=>intro _ h _;simp [gt] at h;omega
 | 0,3=>intro _ _ h;simp [gt] at h
 | 1,0=>intro _ _ h;simp [gt] at h
 | 1,1=>intros;rfl
 | 1,2=>intro _ _ h;simp [gt] at h
 | 1,3=>intro h _ _;simp [gt] at h;omega
 | 2,0=>intro _ h _;simp [gt] at h;omega
 | 2,1=>intro _ _ h;simp [gt] at h
 | 2,2=>intros;rfl
 | 2,3=>intro _ _ h;simp [gt] at h
 | 3,0=>intro _ _ h;simp [gt] at h
 | 3,1=>intro h _ _;simp [gt] at h;omega
 | 3,2=>intro _ _ h;simp [gt] at h
 | 3,3=>intros;rfl
theorem ae1 {α β:Type} [DecidableEq α] [DecidableEq β] {f:α->β} (inj:∀ i j,f i=f j->i=j) (l:List (α×α)) (i:α):prt (l.map fun p=>(f p.1,f p.2)) (f i)=(prt l i).map f:=by
 unfold prt
 induction l with
 | nil=>rfl
 | cons p l ih =>
  rw [aqQ,as4,as4];have e1:(f p.1=f i)↔p.1=i:=⟨inj _ _,fun z=>by rw [z]⟩;have e2:(f p.2=f i)↔p.2=i:=⟨inj _ _,fun z=>by rw [z]⟩;by_cases h1:p.1=i
  ·rw [if_pos h1,if_pos (e1.mpr h1)];rfl
  ·rw [if_neg h1,if_neg (fun z=>h1 (e1.mp z))];by_cases h2:p.2=i
   ·rw [if_pos h2,if_pos (e2.mpr h2)];rfl
   ·rw [if_neg h2,if_neg (fun z=>h2 (e2.mp z))];exact ih
section
variable (rows:List (List Int)) (wd:Nat) (cut:Int)
noncomputable def t4 (x y:Int):List (Fin 4×Fin 4):=abr (hiB rows cut x y) (hiB rows cut (x+1) y) (hiB rows cut (x+1) (y+1)) (hiB rows cut x (y+1)) (jw rows cut x y)
noncomputable def q9 (x y:Int):List (Gt×Gt):=(t4 rows cut x y).map fun p=>(gt x y p.1,gt x y p.2)
noncomputable def qC (w:Int) (h:Bool):Int×Int:=if w=0 then (if h=true then (0,-1) else (0,0)) else (if h=true then (0,0) else (-1,0))
noncomputable def qD (w:Int) (h:Bool):Int×Int:=if w=0 then (if h=true then (0,0) else (0,-1)) else (if h=true then (-1,0) else (0,0))
noncomputable def ahC (g:Gt):Int×Int:=(g.1+(qC g.2.2 (hiB rows cut g.1 g.2.1)).1,g.2.1+(qC g.2.2 (hiB rows cut g.1 g.2.1)).2)
noncomputable def bhC (g:Gt):Int×Int:=(g.1+(qD g.2.2 (hiB rows cut g.1 g.2.1)).1,g.2.1+(qD g.2.2 (hiB rows cut g.1 g.2.1)).2)
noncomputable def yn (g:Gt):Option Gt:=if zK rows wd (ahC rows cut g).1 (ahC rows cut g).2=true then prt (q9 rows cut (ahC rows cut g).1 (ahC rows cut g).2) g else none
noncomputable def yV (g:Gt):Option Gt:=if zK rows wd (bhC rows cut g).1 (bhC rows cut g).2=true then prt (q9 rows cut (bhC rows cut g).1 (bhC rows cut g).2) g else none
end
section
variable {rows:List (List Int)} {wd:Nat} {cut x y:Int}
theorem abV (h:zK rows wd x y=true) (i:Fin 4):opG rows wd cut (gt x y i)=opF (hiB rows cut x y) (hiB rows cut (x+1) y) (hiB rows cut (x+1) (y+1)) (hiB rows cut x (y+1)) i:=by
 match i with
 | 0=>exact abn h
 | 1=>exact ada h
 | 2=>exact abo h
 | 3=>exact abp h
theorem aio (i:Fin 4):(ahC rows cut (gt x y i)=(x,y)↔enF (hiB rows cut x y) (hiB rows cut (x+1) y) (hiB rows cut (x+1) (y+1)) (hiB rows cut x (y+1)) i=true)/\(bhC rows cut (gt x y i)=(x,y)↔enF (hiB rows cut x y) (hiB rows cut (x+1) y) (hiB rows cut (x+1) (y+1)) (hiB rows cut x (y+1)) i=false):=by
 unfold ahC bhC
 match i with
 | 0 =>
  show ((x+(qC 0 (hiB rows cut x y)).1,y+(qC 0 (hiB rows cut x y)).2)=(x,y)↔(!hiB rows cut x y)=true)/\((x+(qD 0 (hiB rows cut x y)).1,y+(qD 0 (hiB rows cut x y)).2)=(x,y)↔(!hiB rows cut x y)=false);cases hiB rows cut x y <;> simp [qC,qD] <;> omega
 | 1 =>
  show ((x+(qC 1 (hiB rows cut x y)).1,y+(qC 1 (hiB rows cut x y)).2)=(x,y)↔hiB rows cut x y=true)/\((x+(qD 1 (hiB rows cut x y)).1,y+(qD 1 (hiB rows cut x y)).2)=(x,y)↔hiB rows cut x y=false);cases hiB rows cut x y <;> simp [qC,qD] <;> omega
 | 2 =>
  show ((x+(qC 0 (hiB rows cut x (y+1))).1,y+1+(qC 0 (hiB rows cut x (y+1))).2)=(x,y)↔hiB rows cut x (y+1)=true)/\((x+(qD 0 (hiB rows cut x (y+1))).1,y+1+(qD 0 (hiB rows cut x (y+1))).2)=(x,y)↔hiB rows cut x (y+1)=false);cases hiB rows cut x (y+1) <;> simp [qC,qD] <;> omega
 | 3 =>
  show ((x+1+(qC 1 (hiB rows cut (x+1) y)).1,y+(qC 1 (hiB rows cut (x+1) y)).2)=(x,y)↔(!hiB rows cut (x+1) y)=true)/\((x+1+(qD 1 (hiB rows cut (x+1) y)).1,y+(qD 1 (hiB rows cut (x+1) y)).2)=(x,y)↔(!hiB rows cut (x+1) y)=false);cases hiB rows cut (x+1) y <;> simp [qC,qD] <;> omega
theorem aip (h:zK rows wd x y=true) {i:Fin 4} (o:opG rows wd cut (gt x y i)=true):∃ j,prt (q9 rows cut x y) (gt x y i)=some (gt x y j)/\j≠i/\opG rows wd cut (gt x y j)=true/\prt (q9 rows cut x y) (gt x y j)=some (gt x y i) /\
  (ahC rows cut (gt x y i)=(x,y)->bhC rows cut (gt x y j)=(x,y))/\(bhC rows cut (gt x y i)=(x,y)->ahC rows cut (gt x y j)=(x,y)):=by
 rw [abV h] at o;obtain⟨j,h1,h2,h3,h4,h5⟩:=amW _ _ _ _ (jw rows cut x y) i o;have inj:∀ i j,gt x y i=gt x y j->i=j:=fun _ _=>ade;refine⟨j,?_,h2,by rw [abV h];exact h3,?_,fun z=>?_,fun z=>?_⟩
 ·unfold q9 t4;rw [ae1 inj,h1];rfl
 ·unfold q9 t4;rw [ae1 inj,h4];rfl
 ·rw [(aio j).2,h5,(aio i).1.mp z];rfl
 ·rw [(aio j).1,h5,(aio i).2.mp z];rfl
theorem agb (g:Gt) (hw:g.2.2=0 \/ g.2.2=1):∃ i,g=gt (ahC rows cut g).1 (ahC rows cut g).2 i:=by
 obtain⟨x,y,w⟩:=g;unfold ahC;dsimp only at hw ⊢;rcases hw with rfl | rfl
 ·cases hiB rows cut x y
  ·exact⟨0,by simp [qC,gt]⟩
  ·exact⟨2,by simp [qC,gt];omega⟩
 ·cases hiB rows cut x y
  ·exact⟨3,by simp [qC,gt];omega⟩
  ·exact⟨1,by simp [qC,gt]⟩
theorem ajw (g:Gt) (hw:g.2.2=0 \/ g.2.2=1):∃ i,g=gt (bhC rows cut g).1 (bhC rows cut g).2 i:=by
 obtain⟨x,y,w⟩:=g;unfold bhC;dsimp only at hw ⊢;rcases hw with rfl | rfl
 ·cases hiB rows cut x y
  ·exact⟨2,by simp [qD,gt];omega⟩
  ·exact⟨0,by simp [qD,gt]⟩
 ·cases hiB rows cut x y
  ·exact⟨1,by simp [qD,gt]⟩
  ·exact⟨3,by simp [qD,gt];omega⟩
theorem aa0 {g:Gt} (o:opG rows wd cut g=true):g.2.2=0 \/ g.2.2=1:=by
 unfold opG yK vh at o;rw [aqy,aqy] at o;exact of_decide_eq_true o.1.1
theorem aay {g:Gt} (o:opG rows wd cut g=true) (h:zK rows wd (ahC rows cut g).1 (ahC rows cut g).2=true):∃ n,yn rows wd cut g=some n/\n≠g/\opG rows wd cut n=true/\bhC rows cut n=ahC rows cut g/\yV rows wd cut n=some g:=by
 obtain⟨i,ei⟩:=agb (rows:=rows) (cut:=cut) g (aa0 o);have o':=o;rw [ei] at o';obtain⟨j,h1,h2,h3,h4,h5,_⟩:=aip h o';rw [<-ei] at h1 h4 h5;have hb:=h5 rfl;refine⟨gt (ahC rows cut g).1 (ahC rows cut g).2 j,?_,fun z=>h2 (ade (z.trans ei)),h3,hb,?_⟩
 ·unfold yn;rw [if_pos h];exact h1
 ·unfold yV;rw [hb,if_pos h];exact h4
theorem acw {g:Gt} (o:opG rows wd cut g=true) (h:zK rows wd (bhC rows cut g).1 (bhC rows cut g).2=true):∃ n,yV rows wd cut g=some n/\n≠g/\opG rows wd cut n=true/\ahC rows cut n=bhC rows cut g/\yn rows wd cut n=some g:=by
 obtain⟨i,ei⟩:=ajw (rows:=rows) (cut:=cut) g (aa0 o);have o':=o;rw [ei] at o';obtain⟨j,h1,h2,h3,h4,_,h5⟩:=aip h o';rw [<-ei] at h1 h4 h5;have hb:=h5 rfl;refine⟨gt (bhC rows cut g).1 (bhC rows cut g).2 j,?_,fun z=>h2 (ade (z.trans ei)),h3,hb,?_⟩
 ·unfold yV;rw [if_pos h];exact h1
 ·unfold yn;rw [hb,if_pos h];exact h4
theorem adf {g g' n:Gt} (o:opG rows wd cut g=true) (o':opG rows wd cut g'=true) (h:yn rows wd cut g=some n) (h':yn rows wd cut g'=some n):g=g':=by
 have c:zK rows wd (ahC rows cut g).1 (ahC rows cut g).2=true:=by
  unfold yn at h;by_cases z:zK rows wd (ahC rows cut g).1 (ahC rows cut g).2=true
  ·exact z
  ·rw [if_neg z] at h;cases h
 have c':zK rows wd (ahC rows cut g').1 (ahC rows cut g').2=true:=by
  unfold yn at h';by_cases z:zK rows wd (ahC rows cut g').1 (ahC rows cut g').2=true
  ·exact z
  ·rw [if_neg z] at h';cases h'
 obtain⟨m,a1,_,_,_,a2⟩:=aay o c;obtain⟨m',b1,_,_,_,b2⟩:=aay o' c';rw [h] at a1;rw [h'] at b1;cases a1;cases b1;rw [a2] at b2;exact Option.some.inj b2
theorem abW {g n:Gt} (o:opG rows wd cut g=true) (h:yn rows wd cut g=some n):opG rows wd cut n=true/\n≠g:=by
 have c:zK rows wd (ahC rows cut g).1 (ahC rows cut g).2=true:=by
  unfold yn at h;by_cases z:zK rows wd (ahC rows cut g).1 (ahC rows cut g).2=true
  ·exact z
  ·rw [if_neg z] at h;cases h
 obtain⟨m,a1,a2,a3,_,_⟩:=aay o c;rw [h] at a1;cases a1;exact⟨a3,a2⟩
end
abbrev ahd (K:aqu):Sp:=spD K 3 (fun (c:List (List Int)×Nat×Int×Int×Int×Int) xs=>xs=[.dat (tab c.1),.dat (.int c.2.2.1),.dat (qR c.2.2.2.1 c.2.2.2.2.1 c.2.2.2.2.2)]/\Good c.2.1 c.1/\zZ c.1 c.2.1 c.2.2.2.1 c.2.2.2.2.1=true) fun c r=>r=.str (ad5 c.1 c.2.2.1 c.2.2.2.1 c.2.2.2.2.1 c.2.2.2.2.2)
theorem ahe (F:Def K mg "heading" aas ph) (uah:FnIn P w K mg base k "stands_high" pA (abT K)):FnIn P w K mg base (k+1) "heading" ph (ahd K):=by
 refine F.ok sc_heading rfl fun fa cdv A outer s H E hr=>⟨_,(zc (yf (pv 2) (zG (K:=K) (n:=3) rfl rfl (zg (ze (i:=3) sc_heading.nd rfl (Or.inl rfl) (Or.inr rfl)) (zg (ze (i:=4) sc_heading.nd rfl (Or.inl rfl) (Or.inr rfl)) (zg (ze (i:=5) sc_heading.nd rfl (Or.inl rfl) (Or.inr rfl)) zD))))) (zc (zC (i:=6) sc_heading.nd rfl (Or.inl rfl) (zd uah hr rfl (za (pv 0) (za (pv 1) (za (zv (za (pv 3) (za (pv 4) zb))) zb))))) (zc (yF (zI (qV (K:=K) rfl hr.units) (pv 5) zf (z8 _)) (zj (zu (v8 (ym (K:=K) rfl (pv 6) (fun _=>rfl)) qT qT))) zS) (zj (zu (v8 (ym (K:=K) rfl (pv 6) (fun _=>rfl)) qT qT)))))),?_⟩;rintro f xs ⟨rows,wd,cut,x,y,w⟩ hl ⟨rfl,g,hi⟩
 try dsimp only [ya,zi]
 dsimp only at *;unfold qR;refine yq (z6 (zk rfl (yk rfl (zo (zh (zo (zh (zo (zh (zO ?_))))))))));refine yq (z6 (zq (rows,wd,cut,x,y) ?_));walk_at "w";rintro _ rfl;dsimp only;walk_at "w";rw [if_neg aqt,acv];unfold ad5;refine z7 (fun h=>?_) fun h=>?_
 ·have h':=of_decide_eq_true h;rw [if_pos h'];walk_at "w";refine z7 (fun h2=>?_) fun h2=>?_
  ·walk_at "w";rw [if_pos (of_decide_eq_true h2)]
  ·walk_at "w";rw [if_neg (of_decide_eq_false h2)]
 ·have h':=of_decide_eq_false h;rw [if_neg h'];walk_at "w";refine z7 (fun h2=>?_) fun h2=>?_
  ·walk_at "w";rw [if_pos (of_decide_eq_true h2)]
  ·walk_at "w";rw [if_neg (of_decide_eq_false h2)]
noncomputable abbrev apa:List (Str×List Int):=[("down",[0,0]),("up",[0,-1]),("right",[0,0]),("left",[-1,0])]
noncomputable abbrev ak2:List (Str×List Int):=[("down",[0,-1]),("up",[0,0]),("right",[-1,0]),("left",[0,0])]
theorem apb {rows:List (List Int)} {cut x y w:Int} (hw:w=0 \/ w=1):auu (ad5 rows cut x y w) apa=some [(qC w (hiB rows cut x y)).1,(qC w (hiB rows cut x y)).2]:=by
 unfold ad5 qC hiB;rcases hw with rfl | rfl
 ·by_cases h:cut<zQ rows x y
  ·rw [if_pos rfl,if_pos h,if_pos rfl,decide_eq_true h,if_pos rfl];decide +kernel
  ·rw [if_pos rfl,if_neg h,if_pos rfl,decide_eq_false h,if_neg aqt];decide +kernel
 ·have e:¬ ((1:Int)=0):=by decide
  by_cases h:cut<zQ rows x y
  ·rw [if_neg e,if_pos h,if_neg e,decide_eq_true h,if_pos rfl];decide +kernel
  ·rw [if_neg e,if_neg h,if_neg e,decide_eq_false h,if_neg aqt];decide +kernel
theorem apc {rows:List (List Int)} {cut x y w:Int} (hw:w=0 \/ w=1):auu (ad5 rows cut x y w) ak2=some [(qD w (hiB rows cut x y)).1,(qD w (hiB rows cut x y)).2]:=by
 unfold ad5 qD hiB;rcases hw with rfl | rfl
 ·by_cases h:cut<zQ rows x y
  ·rw [if_pos rfl,if_pos h,if_pos rfl,decide_eq_true h,if_pos rfl];decide +kernel
  ·rw [if_pos rfl,if_neg h,if_pos rfl,decide_eq_false h,if_neg aqt];decide +kernel
 ·have e:¬ ((1:Int)=0):=by decide
  by_cases h:cut<zQ rows x y
  ·rw [if_neg e,if_pos h,if_neg e,decide_eq_true h,if_pos rfl];decide +kernel
  ·rw [if_neg e,if_neg h,if_neg e,decide_eq_false h,if_neg aqt];decide +kernel
theorem ak3 {rows:List (List Int)} {wd:Nat} {cut:Int} {g:Gt} (o:opG rows wd cut g=true):zZ rows wd g.1 g.2.1=true:=by
 unfold opG yK vh at o;rw [aqy,aqy,aqy] at o;exact o.1.2.1
abbrev GO:=List (List Int)×Nat×Int×Gt
abbrev amX (c:GO) (xs:List DV):Prop:=xs=[.dat (tab c.1),.dat (.int c.2.2.1),.dat (gD3 c.2.2.2)]/\Good c.2.1 c.1/\opG c.1 c.2.1 c.2.2.1 c.2.2.2=true
abbrev agc (K:aqu):Sp:=spD K 3 amX fun c r=>r=.tuple [.int (ahC c.1 c.2.2.1 c.2.2.2).1,.int (ahC c.1 c.2.2.1 c.2.2.2).2]
theorem ajx {uaz:Addr} (F:Def K mg "cell_ahead" jU ph) (uaK:mg "AHEAD"=some (.ref uaz)) (uaA:ai9 K uaz apa=true) (uaL:FnIn P w K mg base k "heading" ph (ahd K)):FnIn P w K mg base (k+1) "cell_ahead" ph (agc K):=by
 refine F.ok sc_cell_ahead rfl fun fa cdv A outer s H E hr=>⟨_,(zc (yf (akE (K:=K) rfl rfl uaK uaA (zd uaL hr rfl (za (pv 0) (za (pv 1) (za (pv 2) zb)))) (fun _ _=>rfl)) (zG (K:=K) (n:=2) rfl rfl (zg (ze (i:=3) sc_cell_ahead.nd rfl (Or.inl rfl) (Or.inr rfl)) (zg (ze (i:=4) sc_cell_ahead.nd rfl (Or.inl rfl) (Or.inr rfl)) zD)))) (zj (zu (zv (za (zt zP (zE (zW (K:=K) rfl) (pv 2) zf (fun _ _=>rfl)) (pv 3)) (za (zt zP (zE (zW (K:=K) rfl) (pv 2) zf (fun _ _=>rfl)) (pv 4)) zb)))))),?_⟩;rintro f xs ⟨rows,wd,cut,x,y,w⟩ hl ⟨rfl,g,o⟩
 try dsimp only [ya,zi]
 dsimp only at *;have hw:=aa0 o;have hin:=ak3 o;refine yq (z6 (anJ (zq (rows,wd,cut,x,y,w) ?_)));unfold gD3 at *;walk_at "w";rintro _ rfl;refine⟨_,_,rfl,apb hw,?_⟩;refine yk rfl (zo (zh (zo (zh (zO ?_)))));walk_at "w";rfl
abbrev aiq (K:aqu):Sp:=spD K 3 amX fun c r=>r=.bool (!zK c.1 c.2.1 (bhC c.1 c.2.2.1 c.2.2.2).1 (bhC c.1 c.2.2.1 c.2.2.2).2)
theorem ak4 {uaB:Addr} (F:Def K mg "comes_in" vK ph) (uaM:mg "BEHIND"=some (.ref uaB)) (uaC:ai9 K uaB ak2=true) (uaL:FnIn P w K mg base k "heading" ph (ahd K)) (uaD:FnIn P w K mg base k "has_cell" pj (aeZ K)):FnIn P w K mg base (k+1) "comes_in" ph (aiq K):=by
 refine F.ok sc_comes_in rfl fun fa cdv A outer s H E hr=>⟨_,(zc (yf (akE (K:=K) rfl rfl uaM uaC (zd uaL hr rfl (za (pv 0) (za (pv 1) (za (pv 2) zb)))) (fun _ _=>rfl)) (zG (K:=K) (n:=2) rfl rfl (zg (ze (i:=3) sc_comes_in.nd rfl (Or.inl rfl) (Or.inr rfl)) (zg (ze (i:=4) sc_comes_in.nd rfl (Or.inl rfl) (Or.inr rfl)) zD)))) (zj (zu (aod (zd uaD hr rfl (za (pv 0) (za (zt zP (zE (zW (K:=K) rfl) (pv 2) zf (fun _ _=>rfl)) (pv 3)) (za (zt zP (zE (zW (K:=K) rfl) (pv 2) zf (fun _ _=>rfl)) (pv 4)) zb)))))))),?_⟩;rintro f xs ⟨rows,wd,cut,x,y,w⟩ hl ⟨rfl,g,o⟩
 try dsimp only [ya,zi]
 dsimp only at *;have hw:=aa0 o;have hin:=ak3 o;refine yq (z6 (anJ (zq (rows,wd,cut,x,y,w) ?_)));unfold gD3 at *;walk_at "w";rintro _ rfl;refine⟨_,_,rfl,apc hw,?_⟩;refine yk rfl (zo (zh (zo (zh (zO ?_)))));walk_at "w";refine zq (rows,wd,(bhC rows cut (x,y,w)).1,(bhC rows cut (x,y,w)).2) ?_;walk_at "w";rintro _ rfl;exact⟨_,rfl,rfl⟩
noncomputable def aaM:List (Gt×Gt)->List (PyData×PyData)->List (PyData×PyData)
 | [],kvs=>kvs
 | p :: l,kvs=>aaM l (dput (gD3 p.2) (gD3 p.1) (dput (gD3 p.1) (gD3 p.2) kvs))
theorem ahf (l:List (Gt×Gt)) (p:Gt×Gt):∀ kvs,aaM (l++[p]) kvs=dput (gD3 p.2) (gD3 p.1) (dput (gD3 p.1) (gD3 p.2) (aaM l kvs)):=by
 induction l with
 | nil=>intro kvs;rfl
 | cons q l ih=>intro kvs;exact ih _
theorem abt (a b:PyData) (kvs:List (PyData×PyData)):(dput a b kvs).length<=kvs.length+1:=by
 unfold dput;split
 ·rw [aqr];omega
 ·rw [aqM];exact aqC _
theorem ajy (l:List (Gt×Gt)):∀ kvs,(aaM l kvs).length<=kvs.length+2 * l.length:=by
 induction l with
 | nil=>intro kvs;exact aqC _
 | cons q l ih =>
  intro kvs;have h1:=ih (dput (gD3 q.2) (gD3 q.1) (dput (gD3 q.1) (gD3 q.2) kvs));have h2:=abt (gD3 q.2) (gD3 q.1) (dput (gD3 q.1) (gD3 q.2) kvs);have h3:=abt (gD3 q.1) (gD3 q.2) kvs;show (aaM l _).length<=_;rw [aqT];omega
theorem ae2 {a b:Gt} (h:gD3 a=gD3 b):a=b:=by
 obtain⟨x,y,w⟩:=a;obtain⟨x',y',w'⟩:=b;unfold gD3 qR at h;simp at h;simp [h]
theorem ak5 {rows:List (List Int)} {wd:Nat} {cut x y:Int} (h:zK rows wd x y=true):aim rows wd cut x y=(q9 rows cut x y).map fun p=>pairD p.1 p.2:=by
 have e0:opG rows wd cut (x,y,0)=_:=abV (cut:=cut) h 0;have e1:opG rows wd cut (x,y,1)=_:=abV (cut:=cut) h 1;have e2:opG rows wd cut (x,y+1,0)=_:=abV (cut:=cut) h 2;have e3:opG rows wd cut (x+1,y,1)=_:=abV (cut:=cut) h 3;unfold aim q9 t4 yR ae0 thr cg abr;simp only [as6,auc,aq9,aui,e0,e1,e2,e3,as8];generalize jw rows cut x y=M;generalize hiB rows cut x y=A;generalize hiB rows cut (x+1) y=B;generalize hiB rows cut (x+1) (y+1)=C;generalize hiB rows cut x (y+1)=D;cases A <;> cases B <;> cases C <;> cases D <;> cases M <;> rfl
theorem ak6 {rows:List (List Int)} {cut x y:Int} {g n:Gt} (h:prt (q9 rows cut x y) g=some n):jm (gD3 g) (aaM (q9 rows cut x y) [])=some (gD3 n):=by
 have key:∀ a b:Gt,a≠b->gD3 a≠gD3 b:=fun a b ne z=>ne (ae2 z);have inj:∀ i j:Fin 4,i≠j->gt x y i≠gt x y j:=fun i j ne z=>ne (ade z);unfold q9 t4 at h ⊢;rcases aga (hiB rows cut x y) (hiB rows cut (x+1) y) (hiB rows cut (x+1) (y+1)) (hiB rows cut x (y+1)) (jw rows cut x y) with e | ⟨a,b,n1,e⟩ | ⟨a,b,c,d,n1,n2,n3,n4,n5,n6,e⟩
 ·rw [e] at h;cases h
 ·rw [e] at h ⊢;have k1:=key _ _ (inj a b n1);have k1':=arU k1;simp only [aqQ,asV,aaM] at h ⊢;unfold prt at h;simp only [as4,List.findSome?_nil] at h;by_cases c1:gt x y a=g
  ·rw [if_pos c1] at h;cases h;simp [dput,jm,k1,k1',<- c1]
  ·rw [if_neg c1] at h;by_cases c2:gt x y b=g
   ·rw [if_pos c2] at h;cases h;simp [dput,jm,k1,k1',<- c2]
   ·rw [if_neg c2] at h;cases h
 ·rw [e] at h ⊢;have k1:=key _ _ (inj a b n1);have k2:=key _ _ (inj a c n2);have k3:=key _ _ (inj a d n3);have k4:=key _ _ (inj b c n4);have k5:=key _ _ (inj b d n5);have k6:=key _ _ (inj c d n6);have j1:=arU k1;have j2:=arU k2;have j3:=arU k3;have j4:=arU k4;have j5:=arU k5;have j6:=arU k6;simp only [aqQ,asV,aaM] at h ⊢;unfold prt at h;simp only [as4,List.findSome?_nil] at h;by_cases c1:gt x y a=g
  ·rw [if_pos c1] at h;cases h;simp [dput,jm,k1,k2,k3,k4,k5,k6,j1,j2,j3,j4,j5,j6,<- c1]
  ·rw [if_neg c1] at h;by_cases c2:gt x y b=g
   ·rw [if_pos c2] at h;cases h;simp [dput,jm,k1,k2,k3,k4,k5,k6,j1,j2,j3,j4,j5,j6,<- c2]
   ·rw [if_neg c2] at h;by_cases c3:gt x y c=g
    ·rw [if_pos c3] at h;cases h;simp [dput,jm,k1,k2,k3,k4,k5,k6,j1,j2,j3,j4,j5,j6,<- c3]
    ·rw [if_neg c3] at h;by_cases c4:gt x y d=g
     ·rw [if_pos c4] at h;cases h;simp [dput,jm,k1,k2,k3,k4,k5,k6,j1,j2,j3,j4,j5,j6,<- c4]
     ·rw [if_neg c4] at h;cases h
noncomputable def ae3:Option Gt->PyData
 | none=>.none
 | some g=>gD3 g
abbrev ak7 (K:aqu):Sp:=spD K 3 amX fun c r=>r=ae3 (yn c.1 c.2.1 c.2.2.1 c.2.2.2)
theorem aah (g:Gt):acf (gD3 g):=⟨⟨rfl,aqB rfl⟩,_,rfl⟩
theorem amY (F:Def K mg "gate_ahead" jV ph) (ubi:FnIn P w K mg base k "cell_ahead" ph (agc K)) (uaD:FnIn P w K mg base k "has_cell" pj (aeZ K)) (ubj:FnIn P w K mg base k "cell_ties" pq (ain K)) :
  FnIn P w K mg base (k+1) "gate_ahead" ph (ak7 K):=by
 refine F.ok sc_gate_ahead rfl fun fa cdv A outer s H E hr=>⟨_,(zc (yf (zd ubi hr rfl (za (pv 0) (za (pv 1) (za (pv 2) zb)))) (zG (K:=K) (n:=2) rfl rfl (zg (ze (i:=3) sc_gate_ahead.nd rfl (Or.inl rfl) (Or.inr rfl)) (zg (ze (i:=4) sc_gate_ahead.nd rfl (Or.inl rfl) (Or.inr rfl)) zD)))) (zc (yF (abF (ym (K:=K) rfl (zd uaD hr rfl (za (pv 0) (za (pv 3) (za (pv 4) zb)))) (fun _=>rfl))) (zj (zu agt)) zS) (zc (zC (i:=5) sc_gate_ahead.nd rfl (Or.inl rfl) (abQ (w:=w) rfl)) (zc (yG aq7 rfl (zy (K:=K) rfl (zd ubj hr rfl (za (pv 0) (za (pv 1) (za (zv (za (pv 3) (za (pv 4) zb))) zb))))) (zG (K:=K) (n:=2) rfl rfl (zg (ze (i:=6) sc_gate_ahead.nd rfl (Or.inl rfl) (Or.inr rfl)) (zg (ze (i:=7) sc_gate_ahead.nd rfl (Or.inl rfl) (Or.inr rfl)) zD))) (zc (yf (pv 7) (aaP (pv 5) (pv 6) (aaf (w:=w) (K:=K) rfl rfl hr.units))) (zj (yf (pv 6) (aaP (pv 5) (pv 7) (aaf (w:=w) (K:=K) rfl rfl hr.units)))))) (zj (zu (zE (jP (w:=w) (K:=K) rfl rfl hr.units) (pv 5) (pv 2) (fun _ _=>rfl)))))))),?_⟩;rintro f xs ⟨rows,wd,cut,g⟩ hl ⟨rfl,gd,o⟩
 try dsimp only [ya,zi]
 dsimp only at *;refine yq (z6 (zq (rows,wd,cut,g) ?_));walk_at "w";rintro _ rfl;dsimp only;refine yk rfl (zo (zh (zo (zh (zO ?_)))));refine yq (aep (adL (y9 (zq (rows,wd,(ahC rows cut g).1,(ahC rows cut g).2) ?_))));walk_at "w";rintro _ rfl;refine⟨_,rfl,?_⟩;dsimp only;refine z7 (fun h=>?_) fun h=>?_
 ·have hc:zK rows wd (ahC rows cut g).1 (ahC rows cut g).2=false:=by simpa using h
  walk_at "w";unfold yn;rw [hc,if_neg aqt];rfl
 ·have hc:zK rows wd (ahC rows cut g).1 (ahC rows cut g).2=true:=by simpa using h
  obtain⟨n,hn,_⟩:=aay o hc;have hp:prt (q9 rows cut (ahC rows cut g).1 (ahC rows cut g).2) g=some n:=by
   unfold yn at hn;rw [if_pos hc] at hn;exact hn
  have tl:(q9 rows cut (ahC rows cut g).1 (ahC rows cut g).2).length<=2:=by
   unfold q9 t4;rw [aqr];rcases aga (hiB rows cut (ahC rows cut g).1 (ahC rows cut g).2) (hiB rows cut ((ahC rows cut g).1+1) (ahC rows cut g).2) (hiB rows cut ((ahC rows cut g).1+1) ((ahC rows cut g).2+1)) (hiB rows cut (ahC rows cut g).1 ((ahC rows cut g).2+1)) (jw rows cut (ahC rows cut g).1 (ahC rows cut g).2) with e | ⟨a,b,n1,e⟩ | ⟨a,b,c,d,n1,n2,n3,n4,n5,n6,e⟩ <;> rw [e] <;> simp
  refine aaJ (aae (w:=w) (abb (agN ⟨show 5<8 by decide,fun D=>?_⟩)));refine yD (jK (zV (PEdO.ped (jg (rows,wd,cut,(ahC rows cut g).1,(ahC rows cut g).2) ?_))));walk_at "w";rintro _ rfl;dsimp only;rw [ak5 hc];refine⟨_,rfl,fun i ρ cs=>(∃ u v,ρ=[some (.dat (tab rows)),some (.dat (.int cut)),some (.dat (gD3 g)),some (.dat (.int (ahC rows cut g).1)),some (.dat (.int (ahC rows cut g).2)),some (.own (f.M.length+0)),u,v])/\cs=[.dic (aaM ((q9 rows cut (ahC rows cut g).1 (ahC rows cut g).2).take i) [])],⟨⟨_,_,rfl⟩,rfl⟩,?_,?_⟩
  ·rintro i d _ _ hd ⟨⟨u,v,rfl⟩,rfl⟩;rw [aqA] at hd;cases hq:(q9 rows cut (ahC rows cut g).1 (ahC rows cut g).2)[i]? with
   | none=>rw [hq] at hd;cases hd
   | some q =>
    rw [hq] at hd;cases hd;have tk:(q9 rows cut (ahC rows cut g).1 (ahC rows cut g).2).take (i+1)=(q9 rows cut (ahC rows cut g).1 (ahC rows cut g).2).take i++[q]:=by
     rw [ath,hq];rfl
    have hl:=ajy ((q9 rows cut (ahC rows cut g).1 (ahC rows cut g).2).take i) [];rw [arf] at hl;simp only [aso] at hl;refine yk rfl (zo (zh (zo (zh (zO ?_)))));refine yD (afN (i:=5) (j:=0) rfl rfl (by omega) ?_);walk_at "w";refine⟨aah _,?_⟩;have hl2:=abt (gD3 q.1) (gD3 q.2) (aaM ((q9 rows cut (ahC rows cut g).1 (ahC rows cut g).2).take i) []);refine afN (i:=5) (j:=0) rfl rfl (by omega) ?_;walk_at "w";refine⟨aah _,⟨_,_,rfl⟩,?_⟩;rw [tk,ahf];rfl
  ·rintro _ _ ⟨⟨u,v,rfl⟩,rfl⟩;rw [aqr,aq6];refine akD (apS (i:=5) (j:=0) rfl rfl (ju (zk rfl ⟨aah _,_,ak6 hp,?_⟩)));show gD3 n=ae3 (yn rows wd cut g);rw [hn];rfl
theorem air {α:Type} [DecidableEq α]:∀ (l m:List α),l.Nodup->(∀ x∈l,x∈m)->m.length<=l.length->∀ x∈m,x∈l
 | [],m,_,_,hl,x,hx=>by
  have:m=[]:=List.length_eq_zero_iff.mp (Nat.le_zero.mp hl);rw [this] at hx;exact hx
 | a :: l,m,nd,sub,hl,x,hx=>by
  have ha:=sub a (aqv ..);have hn:=arq.mp nd;have le:=as9 ha;rw [aqT] at hl;by_cases e:x=a
  ·rw [e];exact aqv ..
  ·refine aqw _ (air l (m.erase a) hn.2 (fun y hy=>?_) (by omega) x ((asT e).mpr hx));exact (asT (fun (z:y=a)=>hn.1 (z▸hy))).mpr (sub y (aqw _ hy))
theorem len_sub {α:Type} [DecidableEq α]:∀ (l m:List α),l.Nodup->(∀ x∈l,x∈m)->l.length<=m.length
 | [],m,_,_=>aq2 _
 | a :: l,m,nd,sub=>by
  have ha:=sub a (aqv ..);have hn:=arq.mp nd;have le:=as9 ha;have hp:0<m.length:=ati ha;have:=len_sub l (m.erase a) hn.2 (fun y hy=>(asT (fun (z:y=a)=>hn.1 (z▸hy))).mpr (sub y (aqw _ hy)));rw [aqT];omega
theorem vG {α β:Type} {f:α->β} {l1 l2:List β} (h:l1.Perm l2):∀ ts:List α,l2=ts.map f->∃ us:List α,us.Perm ts/\l1=us.map f:=by
 induction h with
 | nil=>intro ts e;exact⟨ts,.refl _,e⟩
 | cons x _ ih =>
  intro ts e;cases ts with
  | nil=>cases e
  | cons t ts =>
   rw [aqQ] at e;injection e with e1 e2;obtain⟨us,p,q⟩:=ih ts e2;exact⟨t :: us,.cons t p,by rw [aqQ,<- q,e1]⟩
 | swap x y l =>
  intro ts e
  match ts,e with
  | [],e=>cases e
  | [_],e=>cases e
  | a :: b :: ts,e =>
   simp only [aqQ] at e;injection e with e1 e2;injection e2 with e2 e3;exact⟨b :: a :: ts,.swap a b ts,by rw [aqQ,aqQ,e1,e2,e3]⟩
 | trans _ _ ih1 ih2 =>
  intro ts e;obtain⟨us,p,q⟩:=ih2 ts e;obtain⟨vs,p2,q2⟩:=ih1 us q;exact⟨vs,p2.trans p,q2⟩
section
variable (rows:List (List Int)) (wd:Nat) (cut:Int)
structure LineOk (ring:Bool) (l:List Gt):Prop where
 op:∀ g∈l,opG rows wd cut g=true
 nd:l.Nodup
 ch:∀ (i:Nat) a b,l[i]?=some a->l[i+1]?=some b->yn rows wd cut a=some b
 ne:l≠[]
 last:∀ g,l.getLast?=some g->yn rows wd cut g=if ring=true then l.head? else none
structure WalkOk (s:Gt) (l:List Gt):Prop where
 op:∀ g∈l,opG rows wd cut g=true
 nd:l.Nodup
 ch:∀ (i:Nat) a b,l[i]?=some a->l[i+1]?=some b->yn rows wd cut a=some b
 hd:l.head?=some s
end
section
variable {rows:List (List Int)} {wd:Nat} {cut:Int}
theorem ajz {t n:Nat} {x y w:Int} (hx:0<=x/\x<n) (hy:0<=y/\y<t) (hw:w=0 \/ w=1):(x,y,w)∈yW t n:=by
 obtain⟨a,rfl⟩:=at6 hx.1;obtain⟨b,rfl⟩:=at6 hy.1;refine arb.mpr ⟨a,aqY.mpr (by omega),arb.mpr ⟨b,aqY.mpr (by omega),?_⟩⟩;rcases hw with rfl | rfl
 ·exact aqv ..
 ·exact aqw _ (aqv ..)
theorem amZ {g:Gt} (o:opG rows wd cut g=true):zZ rows wd g.1 g.2.1=true:=by
 unfold opG yK vh at o;rw [aqy,aqy,aqy] at o;exact o.1.2.1
theorem mem_gates {g:Gt}:g∈yx rows wd cut↔opG rows wd cut g=true:=by
 rw [aag,aqW];refine⟨fun h=>h.2,fun o=>⟨?_,o⟩⟩;obtain⟨x,y,w⟩:=g;have hw:=aa0 o;obtain⟨a,b,c,d⟩:=aaZ (amZ o);exact ajz ⟨a,b⟩ ⟨c,d⟩ hw
theorem gates_nd:(yx rows wd cut).Nodup:=by
 rw [aag];refine ((af8 _ _).filter _).imp fun {a b} h e=>?_;subst e;unfold gLt at h;omega
theorem adg {l:List Gt} (gd:Good wd rows) (o:∀ g∈l,opG rows wd cut g=true) (nd:l.Nodup):l.length<=98 :=
 aqS (len_sub l (yx rows wd cut) nd fun x hx=>mem_gates.mpr (o x hx)) (ad7 gd)
theorem ak8 {s:Gt} (o:opG rows wd cut s=true):WalkOk rows wd cut s [s] :=
 ⟨fun g hg=>by rw [aqF.mp hg];exact o,arq.mpr ⟨arj,arv⟩,fun i a b _ h=>(nomatch h),rfl⟩
theorem ajA {s n g:Gt} {l:List Gt} (W:WalkOk rows wd cut s l) (hl:l.getLast?=some g) (hn:yn rows wd cut g=some n) (ne:n≠s):WalkOk rows wd cut s (l++[n]):=by
 have hg:g∈l:=auv hl;have hli:l[l.length - 1]?=some g:=by rw [<-asm];exact hl
 have pos:0<l.length:=ati hg;have hnew:n∉l:=fun hm=>by
  obtain⟨i,hi⟩:=aqV hm
  match i,hi with
  | 0,hi =>
   have:=W.hd;rw [arw,hi] at this;exact ne (Option.some.inj this)
  | i+1,hi =>
   obtain⟨hlt,_⟩:=aqs.mp hi;have hi':l[i]?=some l[i]:=aqq (by omega);have hc:=W.ch i _ _ hi' hi;have e:=adf (W.op _ (aqz hi')) (W.op _ hg) hc hn;rw [e,<- hli] at hi';have:=(atV (by omega) W.nd).mp hi';omega
 refine⟨fun x hx=>?_,?_,fun i a b ha hb=>?_,?_⟩
 ·rcases aqK.mp hx with h | h
  ·exact W.op x h
  ·rw [aqF.mp h];exact (abW (W.op g hg) hn).1
 ·refine aru.mpr ⟨W.nd,arq.mpr ⟨arj,arv⟩,fun a ha b hb e=>?_⟩;rw [aqF.mp hb] at e;exact hnew (e▸ha)
 ·by_cases h:i+1<l.length
  ·rw [aqJ (by omega)] at ha;rw [aqJ h] at hb;exact W.ch i a b ha hb
  ·obtain⟨hlt,_⟩:=aqs.mp hb;rw [aqM,ars] at hlt;have e:i=l.length - 1:=by omega
   rw [aqJ (by omega),e,hli] at ha;rw [aqR (by omega),show i+1 - l.length=0 by omega] at hb;cases ha;cases hb;exact hn
 ·cases l with
  | nil=>cases pos
  | cons a l=>exact W.hd
theorem ad8 {s g:Gt} {l:List Gt} (W:WalkOk rows wd cut s l) (hl:l.getLast?=some g) {ring:Bool} (h:yn rows wd cut g=if ring=true then some s else none):LineOk rows wd cut ring l where
 op:=W.op
 nd:=W.nd
 ch:=W.ch
 ne:=fun z=>by rw [z] at hl;cases hl
 last:=fun g' hg'=>by
  rw [hl] at hg';cases hg';rw [h,W.hd]
def ae4 (rows:List (List Int)) (wd:Nat) (cut:Int) (t:Bool×List Gt):Prop:=t.1=false->∀ h,t.2.head?=some h->yV rows wd cut h=none
theorem next_prev {g n:Gt} (o:opG rows wd cut g=true) (h:yn rows wd cut g=some n):yV rows wd cut n=some g:=by
 have c:zK rows wd (ahC rows cut g).1 (ahC rows cut g).2=true:=by
  unfold yn at h;by_cases z:zK rows wd (ahC rows cut g).1 (ahC rows cut g).2=true
  ·exact z
  ·rw [if_neg z] at h;cases h
 obtain⟨m,a1,_,_,_,a2⟩:=aay o c;rw [h] at a1;cases a1;exact a2
theorem prev_next {g n:Gt} (o:opG rows wd cut g=true) (h:yV rows wd cut g=some n):opG rows wd cut n=true/\yn rows wd cut n=some g:=by
 have c:zK rows wd (bhC rows cut g).1 (bhC rows cut g).2=true:=by
  unfold yV at h;by_cases z:zK rows wd (bhC rows cut g).1 (bhC rows cut g).2=true
  ·exact z
  ·rw [if_neg z] at h;cases h
 obtain⟨m,a1,_,a3,_,a2⟩:=acw o c;rw [h] at a1;cases a1;exact⟨a3,a2⟩
theorem acx {t:Bool×List Gt} (ne:t.2≠[]):∃ z,t.2.getLast?=some z/\z∈t.2:=⟨t.2.getLast ne,List.getLast?_eq_some_getLast ne,List.getLast_mem ne⟩
theorem acb {t:Bool×List Gt} (L:LineOk rows wd cut t.1 t.2) (st:ae4 rows wd cut t) {g n:Gt} (o:opG rows wd cut g=true) (hn:n∈t.2) (h:yn rows wd cut g=some n):g∈t.2:=by
 obtain⟨i,hi⟩:=aqV hn
 match i,hi with
 | 0,hi =>
  have hh:t.2.head?=some n:=by rw [arw];exact hi
  cases hr:t.1 with
  | false =>
   have:=st hr n hh;rw [next_prev o h] at this;cases this
  | true =>
   obtain⟨z,hz,hm⟩:=acx L.ne;have:=L.last z hz;rw [hr,if_pos rfl,hh] at this;rw [adf o (L.op z hm) h this];exact hm
 | i+1,hi =>
  obtain⟨hlt,_⟩:=aqs.mp hi;have hi':t.2[i]?=some t.2[i]:=aqq (by omega);have hc:=L.ch i _ _ hi' hi;have hm:=aqz hi';rw [adf o (L.op _ hm) h hc];exact hm
theorem acd {t:Bool×List Gt} (L:LineOk rows wd cut t.1 t.2) {g n:Gt} (hg:g∈t.2) (h:yn rows wd cut g=some n):n∈t.2:=by
 obtain⟨i,hi⟩:=aqV hg;obtain⟨hlt,_⟩:=aqs.mp hi;by_cases hl:i+1<t.2.length
 ·have hi':t.2[i+1]?=some t.2[i+1]:=aqq hl;have hc:=L.ch i _ _ hi hi';rw [h] at hc;rw [Option.some.inj hc];exact aqz hi'
 ·have e:i=t.2.length - 1:=by omega
  have hz:t.2.getLast?=some g:=by rw [asm,<- e];exact hi
  have:=L.last g hz;rw [h] at this;by_cases hr:t.1=true
  ·rw [if_pos hr] at this;exact ar1 this.symm
  ·rw [if_neg hr] at this;cases this
theorem am0 (gd:Good wd rows) {g:Gt} (o:opG rows wd cut g=true):zK rows wd (ahC rows cut g).1 (ahC rows cut g).2=true \/ zK rows wd (bhC rows cut g).1 (bhC rows cut g).2=true:=by
 have hw:=aa0 o;obtain⟨x,y,w⟩:=g;have o':yK rows wd cut x y w=true:=o;unfold yK vh at o';rw [aqy,aqy,aqy] at o';obtain⟨a0,a1,a2,a3⟩:=aaZ o'.1.2.1;obtain⟨b0,b1,b2,b3⟩:=aaZ o'.1.2.2;have h1:=gd.h1;have w1:=gd.w1;have cb:∀ {u v:Int},0<=u->u+1<wd->0<=v->v+1<rows.length->zK rows wd u v=true:=fun p q r s=>by
  unfold zK zZ;rw [decide_eq_true (by omega),decide_eq_true (by omega),decide_eq_true (by omega),decide_eq_true (by omega)];rfl
 unfold ahC bhC qC qD;dsimp only at hw ⊢;rcases hw with rfl | rfl
 ·have e1:px x 0=x+1:=rfl;rw [e1] at b1;cases hiB rows cut x y
  ·by_cases h:y+1<rows.length
   ·left;exact cb (by simp;omega) (by simp;omega) (by simp;omega) (by simp;omega)
   ·right;exact cb (by simp;omega) (by simp;omega) (by simp;omega) (by simp;omega)
  ·by_cases h:y+1<rows.length
   ·right;exact cb (by simp;omega) (by simp;omega) (by simp;omega) (by simp;omega)
   ·left;exact cb (by simp;omega) (by simp;omega) (by simp;omega) (by simp;omega)
 ·have e1:py y 1=y+1:=rfl;rw [e1] at b3;cases hiB rows cut x y
  ·by_cases h:x+1<wd
   ·right;exact cb (by simp;omega) (by simp;omega) (by simp;omega) (by simp;omega)
   ·left;exact cb (by simp;omega) (by simp;omega) (by simp;omega) (by simp;omega)
  ·by_cases h:x+1<wd
   ·left;exact cb (by simp;omega) (by simp;omega) (by simp;omega) (by simp;omega)
   ·right;exact cb (by simp;omega) (by simp;omega) (by simp;omega) (by simp;omega)
theorem apd (gd:Good wd rows) {t:Bool×List Gt} (L:LineOk rows wd cut t.1 t.2) (st:ae4 rows wd cut t):2<=t.2.length:=by
 obtain⟨r,l⟩:=t
 match l,L,st with
 | [],L,_=>exact absurd rfl L.ne
 | [g],L,st =>
  have o:=L.op g (aqv ..);have hl:=L.last g rfl;cases r with
  | true =>
   exact absurd rfl (abW o hl).2
  | false =>
   have hp:yV rows wd cut g=none:=st rfl g rfl;have hl:yn rows wd cut g=none:=hl;rcases am0 gd o with c | c
   ·obtain⟨n,h,_⟩:=aay o c;rw [hl] at h;cases h
   ·obtain⟨n,h,_⟩:=acw o c;rw [hp] at h;cases h
 | _ :: _ :: _,_,_=>exact Nat.le_add_left 2 _
end
section
variable (rows:List (List Int)) (wd:Nat) (cut:Int)
noncomputable def flat (ts:List (Bool×List Gt)):List Gt:=ts.flatMap (·.2)
structure Told (ts:List (Bool×List Gt)):Prop where
 line:∀ t∈ts,LineOk rows wd cut t.1 t.2
 st:∀ t∈ts,ae4 rows wd cut t
 nd:(flat ts).Nodup
 least:∀ t∈ts,t.1=true->∀ h,t.2.head?=some h->∀ g∈t.2,g=h \/ gLt h g
end
section
variable {rows:List (List Int)} {wd:Nat} {cut:Int} {ts:List (Bool×List Gt)}
theorem Told.op (T:Told rows wd cut ts) {g:Gt} (h:g∈flat ts):opG rows wd cut g=true:=by
 obtain⟨t,ht,hg⟩:=arb.mp h;exact (T.line t ht).op g hg
theorem Told.len (T:Told rows wd cut ts) (gd:Good wd rows):(flat ts).length<=98:=adg gd (fun g hg=>T.op hg) T.nd
theorem agd:∀ (ts:List (Bool×List Gt)),(∀ t∈ts,2<=t.2.length)->2 * ts.length<=(flat ts).length
 | [],_=>aqC _
 | t :: ts,h=>by
  have h1:=h t (aqv ..);have h2:=agd ts fun u hu=>h u (aqw _ hu);show 2 * (ts.length+1)<=(t.2++flat ts).length;rw [aqM];omega
theorem Told.few (T:Told rows wd cut ts) (gd:Good wd rows):ts.length<=49:=by
 have h1:=agd ts fun t ht=>apd gd (T.line t ht) (T.st t ht);have h2:=T.len gd;omega
theorem aaz (ts:List (Bool×List Gt)) (t:Bool×List Gt):flat (ts++[t])=flat ts++t.2:=by
 unfold flat;rw [arI];simp
theorem Told.fresh (T:Told rows wd cut ts) {r:Bool} {l:List Gt} (L:LineOk rows wd cut r l) {s:Gt} (hs:l.head?=some s) (hn:s∉flat ts):∀ g∈l,g∉flat ts:=by
 have key:∀ (i:Nat) g,l[i]?=some g->g∉flat ts:=fun i=>by
  induction i with
  | zero =>
   intro g hg;rw [arw,hg] at hs;rw [Option.some.inj hs];exact hn
  | succ i ih =>
   intro g hg hm;obtain⟨hlt,_⟩:=aqs.mp hg;have hi':l[i]?=some l[i]:=aqq (by omega);have hc:=L.ch i _ _ hi' hg;obtain⟨t,ht,hgt⟩:=arb.mp hm;exact ih _ hi' (arb.mpr ⟨t,ht,acb (T.line t ht) (T.st t ht) (L.op _ (aqz hi')) hgt hc⟩)
 intro g hg;obtain⟨i,hi⟩:=aqV hg;exact key i g hi
theorem Told.more (T:Told rows wd cut ts) {r:Bool} {l:List Gt} (L:LineOk rows wd cut r l) {s:Gt} (hs:l.head?=some s) (hn:s∉flat ts) (st:r=false->yV rows wd cut s=none) (le:r=true->∀ g∈l,g=s \/ gLt s g):Told rows wd cut (ts++[(r,l)]) where
 line:=fun t ht=>by
  rcases aqK.mp ht with h | h
  ·exact T.line t h
  ·rw [aqF.mp h];exact L
 st:=fun t ht=>by
  rcases aqK.mp ht with h | h
  ·exact T.st t h
  ·rw [aqF.mp h];intro hr h hh;rw [show (r,l).2.head?=some s from hs] at hh;rw [<-Option.some.inj hh];exact st hr
 nd:=by
  rw [aaz];refine aru.mpr ⟨T.nd,L.nd,fun a ha b hb e=>?_⟩;exact T.fresh L hs hn b hb (e▸ha)
 least:=fun t ht=>by
  rcases aqK.mp ht with h | h
  ·exact T.least t h
  ·rw [aqF.mp h];intro hr h hh;rw [show (r,l).2.head?=some s from hs] at hh;rw [<-Option.some.inj hh];exact le hr
theorem ape {r:Bool} {l:List Gt} (L:LineOk rows wd cut r l) {s:Gt} (hs:l.head?=some s) (hp:yV rows wd cut s=none):r=false:=by
 cases r with
 | false=>rfl
 | true =>
  obtain⟨z,hz,hm⟩:=acx (t:=(true,l)) L.ne;have:=L.last z hz;rw [if_pos rfl,hs] at this;have:=next_prev (L.op z hm) this;rw [hp] at this;cases this
theorem am1 (T:Told rows wd cut ts) (all:∀ g,opG rows wd cut g=true->yV rows wd cut g=none->g∈flat ts) {r:Bool} {l:List Gt} (L:LineOk rows wd cut r l) {s:Gt} (hs:l.head?=some s) (hn:s∉flat ts):r=true:=by
 cases r with
 | true=>rfl
 | false =>
  obtain⟨z,hz,hm⟩:=acx (t:=(false,l)) L.ne;have hnone:yn rows wd cut z=none:=L.last z hz
  let U:=(yx rows wd cut).filter fun g=>decide (g∉flat ts)
  have memU:∀ g,g∈U↔opG rows wd cut g=true/\g∉flat ts:=fun g=>by
   show g∈auM _ _↔_;rw [aqW,mem_gates,decide_eq_true_eq]
  let pr:Gt->Gt:=fun g=>(yV rows wd cut g).getD g
  have prU:∀ g∈U,yV rows wd cut g=some (pr g)/\yn rows wd cut (pr g)=some g/\pr g∈U:=fun g hg=>by
   obtain⟨o,nf⟩:=(memU g).mp hg;cases hp:yV rows wd cut g with
   | none=>exact absurd (all g o hp) nf
   | some p =>
    have e:pr g=p:=by show (yV rows wd cut g).getD g=p;rw [hp];rfl
    obtain⟨op,hnx⟩:=prev_next o hp;rw [e];refine⟨rfl,hnx,(memU p).mpr ⟨op,fun hm=>?_⟩⟩;obtain⟨t,ht,hpt⟩:=arb.mp hm;exact nf (arb.mpr ⟨t,ht,acd (T.line t ht) hpt hnx⟩)
  have ndU:U.Nodup:=gates_nd.filter _;have ndP:(U.map pr).Nodup:=by
   refine arA.mpr (ndU.imp_of_mem fun {a b} ha hb ne e=>ne ?_);have h1:=(prU a ha).2.1;have h2:=(prU b hb).2.1;rw [e,h2] at h1;exact (Option.some.inj h1).symm
  have zU:z∈U:=(memU z).mpr ⟨L.op z hm,T.fresh L hs hn z hm⟩;have:=air (U.map pr) U ndP (fun x hx=>by obtain⟨g,hg,rfl⟩:=aqG.mp hx;exact (prU g hg).2.2) (by rw [aqr];exact aqC _) z zU;obtain⟨g,hg,rfl⟩:=aqG.mp this;rw [(prU g hg).2.1] at hnone;cases hnone
noncomputable def ye (t:Bool×List Gt):PyData:=.tuple [.str (if t.1=true then "ring" else "run"),.tuple (t.2.map gD3)]
theorem age (l:List Gt):zM (l.map gD3)=true:=by
 induction l with
 | nil=>rfl
 | cons g l ih=>show (zA (gD3 g) && zM (l.map gD3))=true;rw [ih];rfl
theorem adh (t:Bool×List Gt):zA (ye t)=true:=by
 show (zA (.str _) && (zA (.tuple (t.2.map gD3)) && true))=true;rw [show zA (.tuple (t.2.map gD3))=zM (t.2.map gD3) from rfl,age];cases t.1 <;> decide +kernel
theorem ad9:∀ l m:List Gt,qB (l.map gD3) (m.map gD3)=true
 | [],m=>by rw [asV,qB]
 | g :: l,[]=>rfl
 | (x,y,w) :: l,(x',y',w') :: m=>by
  rw [aqQ,aqQ,qB];split
  ·exact ad9 l m
  ·show v3 (.tuple [.int x,.int y,.int w]) (.tuple [.int x',.int y',.int w'])=true;simp only [v3,qB];split
   ·split
    ·split <;> rfl
    ·rfl
   ·rfl
theorem ak9 (t u:Bool×List Gt):v3 (ye t) (ye u)=true:=by
 unfold ye;generalize (if t.1=true then ("ring":Str) else "run")=a;generalize (if u.1=true then ("ring":Str) else "run")=b;rw [v3,qB];split
 ·rw [qB];split
  ·rfl
  ·rw [v3];exact ad9 _ _
 ·rfl
theorem agf (l:List Gt):aqH (l.map gD3)<=1:=by
 induction l with
 | nil=>exact aq2 _
 | cons g l ih=>exact Nat.max_le.mpr ⟨aqC 1,ih⟩
theorem ahg (t:Bool×List Gt):(ye t).depth<=3:=by
 show max 0 (max (aqH (t.2.map gD3)+1) 0)+1<=3;have:=agf t.2;omega
theorem agg {a b:Gt} (h:gD3 a=gD3 b):a=b:=by
 obtain⟨x,y,w⟩:=a;obtain⟨x',y',w'⟩:=b;unfold gD3 qR at h;simp at h;simp [h]
theorem ala (T:Told rows wd cut ts):SortOk "str" (ts.map ye) where
 plain:=fun d hd=>by obtain⟨t,_,rfl⟩:=aqG.mp hd;exact adh t
 head:=fun d hd=>by obtain⟨t,_,rfl⟩:=aqG.mp hd;rfl
 cmp:=fun d hd e he=>by
  obtain⟨t,_,rfl⟩:=aqG.mp hd;obtain⟨u,_,rfl⟩:=aqG.mp he;exact ak9 t u
 depth:=fun d hd=>by obtain⟨t,_,rfl⟩:=aqG.mp hd;exact aqS (ahg t) (by decide)
 nd:=by
  have h:=(List.pairwise_flatMap.mp T.nd).2;refine arA.mpr (h.imp_of_mem fun {a b} ha hb hd e=>?_);unfold ye at e;have e2:a.2.map gD3=b.2.map gD3:=by
   injection e with e;injection e with _ e;injection e with e _;injection e
  cases ha2:a.2 with
  | nil=>exact (T.line a ha).ne ha2
  | cons g l =>
   cases hb2:b.2 with
   | nil=>exact (T.line b hb).ne hb2
   | cons g' l' =>
    rw [ha2,hb2,aqQ,aqQ] at e2;injection e2 with e2 _;exact hd g (by rw [ha2];exact aqv ..) g' (by rw [hb2];exact aqv ..) (agg e2)
theorem Told.perm {us:List (Bool×List Gt)} (T:Told rows wd cut ts) (p:us.Perm ts):Told rows wd cut us where
 line:=fun t ht=>T.line t (p.mem_iff.mp ht)
 st:=fun t ht=>T.st t (p.mem_iff.mp ht)
 nd:=(p.flatMap_right _).nodup_iff.mpr T.nd
 least:=fun t ht=>T.least t (p.mem_iff.mp ht)
end
section
variable {rows:List (List Int)} {wd:Nat} {cut:Int} {r:List Gt}
theorem ajB (L:LineOk rows wd cut true r) {g:Gt} (hg:g∈r):zK rows wd (ahC rows cut g).1 (ahC rows cut g).2=true/\zK rows wd (bhC rows cut g).1 (bhC rows cut g).2=true:=by
 have o:=L.op g hg;constructor
 ·have hn:∃ n,yn rows wd cut g=some n:=by
   obtain⟨i,hi⟩:=aqV hg;obtain⟨hlt,_⟩:=aqs.mp hi;by_cases hl:i+1<r.length
   ·exact⟨_,L.ch i _ _ hi (aqq hl)⟩
   ·have e:i=r.length - 1:=by omega
    have hz:r.getLast?=some g:=by rw [asm,<- e];exact hi
    have:=L.last g hz;rw [if_pos rfl] at this;cases hh:r.head? with
    | none=>exact absurd (List.head?_eq_none_iff.mp hh) L.ne
    | some h=>exact⟨h,this.trans hh⟩
  obtain⟨n,hn⟩:=hn;unfold yn at hn;by_cases z:zK rows wd (ahC rows cut g).1 (ahC rows cut g).2=true
  ·exact z
  ·rw [if_neg z] at hn;cases hn
 ·have hp:∃ p,opG rows wd cut p=true/\yn rows wd cut p=some g:=by
   obtain⟨i,hi⟩:=aqV hg;obtain⟨hlt,_⟩:=aqs.mp hi
   match i,hi with
   | 0,hi =>
    obtain⟨z,hz,hzm⟩:=acx (t:=(true,r)) L.ne;have:=L.last z hz;rw [if_pos rfl,arw] at this;exact⟨z,L.op z hzm,this.trans hi⟩
   | i+1,hi =>
    have hi':r[i]?=some r[i]:=aqq (by omega);exact⟨_,L.op _ (aqz hi'),L.ch i _ _ hi' hi⟩
  obtain⟨p,op,hp⟩:=hp;have hq:=next_prev op hp;unfold yV at hq;by_cases z:zK rows wd (bhC rows cut g).1 (bhC rows cut g).2=true
  ·exact z
  ·rw [if_neg z] at hq;cases hq
end
section
variable {K:aqu} {f:Fx} {ρ:zr} {ta:TE} {P:PyData->Prop}
noncomputable def adi:PyData->Bool
 | .none=>true
 | _=>false
theorem aea {H:Hp} {d:PyData} {v:V} (r:Rep K H d v) (h:d=.none \/ ∃ ds,d=.tuple ds):decide (v=.non)=adi d:=by
 rcases h with rfl | ⟨ds,rfl⟩
 ·rw [show v=.non from r];rfl
 ·obtain⟨a,xs,rfl,_⟩:=rep_tuple.mp r;rfl
theorem apf (h:PEd K f ta ρ fun d=>(d=.none \/ ∃ ds,d=.tuple ds)/\P (.bool (!adi d))):PEd K f (tOp (fun x y H Q=>y=.non/\Q (.bl (!decide (x=.non))) H) ta (tC .non)) ρ P:=fun σ H Q e q =>
 h σ H _ e fun d v H1 g1 r1 ⟨hd,p⟩=>⟨rfl,q _ _ H1 g1 (by show Rep K _ (.bool _) (.bl _);rw [aea r1 hd];rfl) p⟩
theorem anO (h:PEd K f ta ρ fun d=>(d=.none \/ ∃ ds,d=.tuple ds)/\P (.bool (adi d))):PEd K f (tOp (fun x y H Q=>y=.non/\Q (.bl (decide (x=.non))) H) ta (tC .non)) ρ P:=fun σ H Q e q =>
 h σ H _ e fun d v H1 g1 r1 ⟨hd,p⟩=>⟨rfl,q _ _ H1 g1 (by show Rep K _ (.bool _) (.bl _);rw [aea r1 hd];rfl) p⟩
end
abbrev alb (K:aqu):Sp:=spD K 3 amX fun c r=>∃ ring l,r=ye (ring,l)/\LineOk c.1 c.2.1 c.2.2.1 ring l/\l.head?=some c.2.2.2
theorem apg (a b:Gt):aqX (gD3 a) (gD3 b)=decide (a=b):=by
 obtain⟨x,y,w⟩:=a;obtain⟨x',y',w'⟩:=b;show (decide (x=x') && (decide (y=y') && (decide (w=w') && true)))=_;by_cases h1:x=x' <;> by_cases h2:y=y' <;> by_cases h3:w=w' <;> simp [h1,h2,h3]
theorem ahh (q:Option Gt):ae3 q=.none \/ ∃ ds,ae3 q=.tuple ds:=by
 cases q with
 | none=>exact .inl rfl
 | some g=>exact .inr ⟨_,rfl⟩
theorem am2 (F:Def K mg "line_from" qM pF) (uab:mg "tuple"=none) (ua9:FnIn P w K mg base k "gate_ahead" ph (ak7 K)) :
  FnIn P w K mg base (k+1) "line_from" pF (alb K):=by
 refine F.ok sc_line_from rfl fun fa cdv A outer s H E hr=>⟨_,(zc (zC (i:=3) sc_line_from.nd rfl (Or.inl rfl) (z9 (za (pv 2) zb))) (zc (zC (i:=4) sc_line_from.nd rfl (Or.inl rfl) (zd ua9 hr rfl (za (pv 0) (za (pv 1) (za (pv 2) zb))))) (zc (afh aq7 (PW.pt (v7 (zI al6 (pv 4) agt (z8 _)) (vt (zI (vB (K:=K) rfl hr.units) (pv 4) (pv 2) (z8 _))))) (zc (yE (aa4 ark aro arp yT (pv 3) (za (pv 4) zb))) (zj (zC (i:=4) sc_line_from.nd rfl (Or.inl rfl) (zd ua9 hr rfl (za (pv 0) (za (pv 1) (za (pv 4) zb)))))))) (zj (zu (zv (za (v8 (zI aom (pv 4) agt (z8 _)) qT qT) (za (yS (yJ (K:=K) rfl) rfl uab arz (za (pv 3) zb)) zb)))))))),?_⟩;rintro f xs ⟨rows,wd,cut,g⟩ hl ⟨rfl,gd,o⟩
 try dsimp only [ya,zi]
 dsimp only at *;refine aae (w:=w) (abb (jO (aac ?_)));walk_at "w";refine⟨show 3<5 by decide,fun D=>?_⟩;refine yD (ac2 (z6 (zq (rows,wd,cut,g) ?_)));walk_at "w";rintro _ rfl;refine zh ?_;refine yD (ah5 (fun ρ cs=>∃ l z,ρ=[some (.dat (tab rows)),some (.dat (.int cut)),some (.dat (gD3 g)),some (.own (f.M.length+0)),some (.dat (ae3 (yn rows wd cut z)))]/\cs=[.lst (l.map gD3)]/\WalkOk rows wd cut g l/\l.getLast?=some z) (fun _ cs=>match cs with | [.lst es]=>200 - es.length | _=>0) ⟨[g],g,rfl,rfl,ak8 o,rfl⟩ ?_);rintro _ _ ⟨l,z,rfl,rfl,W,hz⟩;have oz:=W.op z (auv hz);have wl:=adg gd W.op W.nd;have ml:(l.map gD3).length=l.length:=aqr ..;refine agJ (afs (zT (apf (zk rfl ⟨ahh _,?_⟩))));refine⟨_,rfl,?_⟩;have fr:∀ x:PyData,atp (freed f.M.length [OC.lst (l.map gD3)]) [some (DV.dat (tab rows)),some (.dat (.int cut)),some (.dat (gD3 g)),some (.own (f.M.length+0)),some (.dat x)]=[some (.dat (tab rows)),some (.dat (.int cut)),some (.dat (gD3 g)),some (.dat (.list (l.map gD3))),some (.dat x)]:=fun x=>by simp [freed]
 cases hn:yn rows wd cut z with
 | none =>
  rw [show (!adi (ae3 none))=false from rfl,if_neg aqt,if_neg aqt];refine ac3 ?_;rw [fr];refine yA (yP (zp (aj3 (zT (anO (zk rfl ⟨.inl rfl,_,rfl,?_⟩))))));rw [show adi (ae3 none)=true from rfl,if_pos rfl];walk_at "w";exact⟨false,l,rfl,ad8 W hz (by rw [hn];rfl),W.hd⟩
 | some n =>
  rw [show (!adi (ae3 (some n)))=true from rfl,if_pos rfl];rw [show ae3 (some n)=gD3 n from rfl];refine zT (jn (zk rfl (zk rfl ⟨rfl,rfl,aqB rfl,_,rfl,?_⟩)));rw [if_pos rfl,apg];by_cases ng:n=g
  ·rw [decide_eq_true ng,show (!true)=false from rfl,if_neg aqt];refine ac3 ?_;rw [fr];refine yA (yP (zp (aj3 (zT (anO (zk rfl ⟨.inr ⟨_,rfl⟩,_,rfl,?_⟩))))));rw [show adi (gD3 n)=false from rfl,if_neg aqt];walk_at "w";exact⟨true,l,rfl,ad8 W hz (by rw [hn,ng];rfl),W.hd⟩
  ·rw [decide_eq_false ng,show (!false)=true from rfl,if_pos rfl];have W2:=ajA W hz hn ng;have wl2:=adg gd W2.op W2.nd;rw [aqM,ars] at wl2;refine yD (aba (i:=3) (j:=0) rfl rfl (by omega) (ju (zk rfl ?_)));refine ac2 (z6 (zq (rows,wd,cut,n) ?_));have on:=(abW oz hn).1;walk_at "w";rintro _ rfl;refine zh ⟨⟨l++[n],n,rfl,?_,W2,by simp⟩,?_⟩
   ·show [OC.lst (l.map gD3++[gD3 n])]=[OC.lst ((l++[n]).map gD3)];rw [aqO];rfl
   ·show 200 - (l.map gD3++[gD3 n]).length<200 - (l.map gD3).length;rw [aqM,ars];omega
abbrev ae5 (K:aqu):Sp:=spN K 2 (fun (c:List (List Int)×Nat×Int) xs=>xs=[.dat (tab c.1),.dat (.int c.2.2)]/\Good c.2.1 c.1) fun c es=>∃ ts,es=ts.map ye/\Told c.1 c.2.1 c.2.2 ts/\(∀ g,opG c.1 c.2.1 c.2.2 g=true->g∈flat ts)/\es.Pairwise fun d e=>ltD d e=true
noncomputable def inB (rows:List (List Int)) (wd:Nat) (cut:Int) (g:Gt):Bool:=!zK rows wd (bhC rows cut g).1 (bhC rows cut g).2
theorem alc {rows:List (List Int)} {wd:Nat} {cut:Int} {g:Gt} (o:opG rows wd cut g=true):inB rows wd cut g=true↔yV rows wd cut g=none:=by
 unfold inB;by_cases h:zK rows wd (bhC rows cut g).1 (bhC rows cut g).2=true
 ·obtain⟨n,hn,_⟩:=acw o h;rw [h,hn];simp
 ·rw [Bool.not_eq_true] at h;unfold yV;rw [h];simp
theorem ald (F:Def K mg "lines" acr pz) (uao:mg "set"=none) (uae:mg "sorted"=none) (uaj:FnIn P w K mg base k "ask_table" pf (ad4 K)) (ubk:FnIn P w K mg base k "gates" pz (ail K)) (ubl:FnIn P w K mg base k "comes_in" ph (aiq K)) (ubm:FnIn P w K mg base k "line_from" pF (alb K)):FnIn P w K mg base (k+1) "lines" pz (ae5 K):=by
 refine F.okN sc_lines rfl fun fa cdv A outer s H E hr=>⟨_,(zc (yE (zd uaj hr rfl (za (pv 0) zb))) (zc (zC (i:=2) sc_lines.nd rfl (Or.inl rfl) (zd ubk hr rfl (za (pv 0) (za (pv 1) zb)))) (zc (zC (i:=3) sc_lines.nd rfl (Or.inl rfl) (zt (acT (K:=K) rfl) (zX (N:=pJ) (own:=1) (fr:=[0,1]) (by walk_at "c") rfl (zy (K:=K) rfl (pv 2)) (fun _ _ _ _=>(ze (i:=0) (show (pJ:List Str).Nodup by decide +kernel) rfl (Or.inl rfl) (Or.inr rfl))) (fun _ _ _ _=>(yO (ym (K:=K) rfl (zd ubl hr rfl (za (pv 1) (za (pv 2) (za (pv 0) zb)))) (fun _=>rfl)))) (fun _ _ _ _=>(pv 0)) rfl rfl (fun _=>rfl)) (pv 2))) (zc (zC (i:=4) sc_lines.nd rfl (Or.inl rfl) (z9 zb)) (zc (zC (i:=5) sc_lines.nd rfl (Or.inl rfl) (acI (abc (w:=w) rfl) rfl uao aul)) (zc (yG aq7 rfl (zy (K:=K) rfl (pv 3)) (ze (i:=6) sc_lines.nd rfl (Or.inl rfl) (Or.inr rfl)) (zj (yF (zI (ac4 (w:=w) (K:=K) rfl rfl hr.units) (pv 6) (pv 5) rfl) (zc (zC (i:=7) sc_lines.nd rfl (Or.inl rfl) (zd ubm hr rfl (za (pv 0) (za (pv 1) (za (pv 6) zb))))) (zc (yE (aa4 ark aro arp yT (pv 4) (za (pv 7) zb))) (zj (yG aq7 rfl (aan (K:=K) rfl (zE (zW (K:=K) rfl) (pv 7) zf (fun _ _=>rfl))) (ze (i:=8) sc_lines.nd rfl (Or.inl rfl) (Or.inr rfl)) (zj (yE (akB (w:=w) rfl atq auw (afM (w:=w) (K:=K) rfl rfl hr.units) (pv 5) (za (pv 8) zb)))))))) zS))) (zj (zu (zz (vE (K:=K) rfl hr.units) rfl uae asw (za (pv 4) zb)))))))))),?_⟩;rintro f xs ⟨rows,wd,cut⟩ hl ⟨rfl,gd⟩
 try dsimp only [ya,zi]
 dsimp only at *;have gl:=ad7 (cut:=cut) gd;refine ve (aaR (zq (rows,wd) ?_));walk_at "w";rintro _ rfl;refine ve (z6 (PEdO.ped (jg (rows,wd,cut) ?_)));walk_at "w";rintro _ rfl;dsimp only;rw [<-aag];refine zh ?_;refine ve (z6 (agF (PEdO.ped (qW (zV (zk rfl ⟨_,rfl,fun n ρ es=>(∃ u,ρ=[u,some (.dat (tab rows)),some (.dat (.int cut))])/\es=(((yx rows wd cut).take n).filter (inB rows wd cut)).map gD3,⟨⟨_,rfl⟩,rfl⟩,?_,?_⟩))))))
 ·rintro D n d ρ' es hd ⟨⟨u,rfl⟩,rfl⟩;rw [aqA] at hd;cases hq:(yx rows wd cut)[n]? with
  | none=>rw [hq] at hd;cases hd
  | some q =>
   rw [hq] at hd;cases hd;have oq:=mem_gates.mp (aqz hq);have tk:(yx rows wd cut).take (n+1)=(yx rows wd cut).take n++[q]:=by
    rw [ath,hq];rfl
   have len:((((yx rows wd cut).take n).filter (inB rows wd cut)).map gD3).length<1000:=by
    rw [aqr];have a1:=aq8 (inB rows wd cut) ((yx rows wd cut).take n);rw [arf] at a1;omega
   refine zh (y9 (zq (rows,wd,cut,q) ?_));walk_at "w";rintro _ rfl;dsimp only;refine⟨_,rfl,?_⟩;refine z7 (fun h=>?_) fun h=>?_
   ·refine yl len ?_;walk_at "w";rw [tk,arl,aqO,aq9,show inB rows wd cut q=true from h,if_pos rfl];rfl
   ·refine⟨⟨_,rfl⟩,?_⟩;rw [tk,arl,aqO,aq9,show inB rows wd cut q=false from h,if_neg aqt];simp
 ·rintro ρ' es ⟨_,rfl⟩;rw [aqr,aq6];have il:((yx rows wd cut).filter (inB rows wd cut)).length<=98:=aqS (aq8 _ _) gl;refine⟨_,rfl,zk rfl ⟨_,rfl,by rw [aqr,aqr];omega,?_⟩⟩;refine zh ?_;dsimp only;rw [<-aqO];refine ah6 (w:=w) (agL (jO (aac ?_)));walk_at "w";refine⟨show 4<9 by decide,fun D1=>?_⟩;refine agL (akC ⟨show 5<9 by decide,fun D2=>?_⟩);refine akz (jK (zV (zk rfl ?_)));generalize hS:(yx rows wd cut).filter (inB rows wd cut)++yx rows wd cut=S;generalize hG:PyData.list (atp gD3 (yx rows wd cut))=G;refine⟨_,rfl,fun i ρ cs=>∃ ts u v x,ρ=[some (.dat (tab rows)),some (.dat (.int cut)),some (.dat G),some (.dat (.list (S.map gD3))),some (.own (f.M.length+0)),some (.own (f.M.length+1)),u,v,x]/\cs=[.lst (ts.map ye),.set ((flat ts).map gD3).reverse]/\Told rows wd cut ts/\∀ j g,j<i->S[j]?=some g->g∈flat ts,?_,?_,?_⟩
  ·exact⟨[],_,_,_,rfl,rfl,⟨(fun _ h=>nomatch h),(fun _ h=>nomatch h),arv,(fun _ h=>nomatch h)⟩,fun j g h=>absurd h (arQ _)⟩
  ·rintro i d _ _ hd ⟨ts,u,v,x,rfl,rfl,T,past⟩;rw [aqA] at hd;cases hq:S[i]? with
   | none=>rw [hq] at hd;cases hd
   | some q =>
    rw [hq] at hd;cases hd;have oq:opG rows wd cut q=true:=by
     have hm:=aqz hq;rw [<-hS] at hm;rcases aqK.mp hm with h | h
     ·exact mem_gates.mp (aqW.mp h).1
     ·exact mem_gates.mp h
    have memk:(gD3 q∈((flat ts).map gD3).reverse)↔q∈flat ts:=by
     rw [asb,aqG];exact⟨fun⟨a,ha,e⟩=>ae2 e▸ha,fun h=>⟨q,h,rfl⟩⟩
    refine zh (adv (anH (i:=5) (j:=1) rfl rfl (ju (zk rfl ⟨aah _,?_⟩))));rw [if_pos rfl];by_cases hin:q∈flat ts
    ·rw [decide_eq_true (memk.mpr hin),show (!true)=false from rfl,if_neg aqt];refine qY ⟨ts,_,_,_,rfl,rfl,T,fun j g hj hg=>?_⟩;rcases atZ.mp hj with h | h
     ·exact past j g h hg
     ·rw [h,hq] at hg;cases hg;exact hin
    ·rw [decide_eq_false (fun z=>hin (memk.mp z)),show (!false)=true from rfl,if_pos rfl];refine yD (ac2 (z6 (zq (rows,wd,cut,q) ?_)));walk_at "w";rintro _ ⟨ring,l,rfl,L,hh⟩;dsimp only at L hh;have T2:Told rows wd cut (ts++[(ring,l)]):=by
      by_cases hi:i<((yx rows wd cut).filter (inB rows wd cut)).length
      ·have hp:yV rows wd cut q=none:=by
        rw [<-hS,aqJ hi] at hq;exact (alc oq).mp (aqW.mp (aqz hq)).2
       have r0:=ape L hh hp;exact T.more L hh hin (fun _=>hp) fun z=>by rw [r0] at z;cases z
      ·have all:∀ g,opG rows wd cut g=true->yV rows wd cut g=none->g∈flat ts:=fun g og hp=>by
        have hm:g∈(yx rows wd cut).filter (inB rows wd cut):=aqW.mpr ⟨mem_gates.mpr og,(alc og).mpr hp⟩;obtain⟨j,hj⟩:=aqV hm;obtain⟨hlt,_⟩:=aqs.mp hj;refine past j g (by omega) ?_;rw [<-hS,aqJ hlt];exact hj
       have r1:=am1 T all L hh hin;refine T.more L hh hin (fun z=>by rw [r1] at z;cases z) fun _ g hg=>?_;have fr:=T.fresh L hh hin g hg;obtain⟨j,hj⟩:=aqV (mem_gates.mpr (L.op g hg));have hq':=hq;rw [<-hS,aqR (by omega)] at hq';have pw:(yx rows wd cut).Pairwise gLt:=by rw [aag];exact (af8 _ _).filter _
       obtain⟨l1,e1⟩:=aqs.mp hj;obtain⟨l2,e2⟩:=aqs.mp hq';rcases Nat.lt_trichotomy j (i - ((yx rows wd cut).filter (inB rows wd cut)).length) with h | h | h
       ·refine absurd (past (j+((yx rows wd cut).filter (inB rows wd cut)).length) g (by omega) ?_) fr;rw [<-hS,aqR (by omega),Nat.add_sub_cancel];exact hj
       ·left;rw [<-e1,<- e2]
        congr 1
       ·right;rw [<-e1,<- e2];exact asi.mp pw _ _ l2 l1 h
     have hf:=T2.len gd;have nd2:=T2.nd;rw [aaz] at nd2 hf;have few:=T.few gd;refine zh ?_;refine yD (aba (i:=4) (j:=0) rfl rfl (by rw [aqr];omega) (ju (zk rfl ?_)));refine jK (adO (jE (zk rfl ?_)));walk_at "w";refine⟨fun m ρ cs=>∃ x,ρ=[some (.dat (tab rows)),some (.dat (.int cut)),some (.dat G),some (.dat (.list (S.map gD3))),some (.own (f.M.length+0)),some (.own (f.M.length+1)),some (.dat (gD3 q)),some (.dat (ye (ring,l))),x]/\cs=[.lst ((ts++[(ring,l)]).map ye),.set ((flat ts++l.take m).map gD3).reverse],?_,?_,?_⟩
     ·refine⟨_,rfl,?_⟩;rw [asU,arc,aqO];rfl
     ·rintro m d _ _ hd ⟨x,rfl,rfl⟩;rw [aqA] at hd;cases hg:l[m]? with
      | none=>rw [show (ring,l).2[m]?=none from hg] at hd;cases hd
      | some g =>
       rw [show (ring,l).2[m]?=some g from hg] at hd;cases hd;have tk:l.take (m+1)=l.take m++[g]:=by
        rw [ath,hg];rfl
       have sp:l=l.take m++g :: l.drop (m+1):=by
        obtain⟨hlt,e⟩:=aqs.mp hg;rw [<-e,<- atN hlt,asM]
       have hnew:g∉flat ts++l.take m:=fun z=>by
        have nd3:(flat ts++l).Nodup:=nd2;rw [sp,<- arB] at nd3;exact (aru.mp nd3).2.2 g z g (aqv ..) rfl
       have len:(((flat ts++l.take m).map gD3).reverse).length<300:=by
        rw [auA,aqr,aqM,arf];have:(flat ts++l).length<=98:=hf;rw [aqM] at this;omega
       refine zh (anI (i:=5) (j:=1) rfl rfl len (ju (zk rfl ⟨aah _,fun z=>?_,fun _=>?_⟩)))
       ·rw [asb,aqG] at z;obtain⟨a,ha,e⟩:=z;exact absurd (ae2 e▸ha) hnew
       ·refine⟨_,rfl,?_⟩;show [OC.lst _,OC.set (gD3 g :: ((flat ts++l.take m).map gD3).reverse)]=_;rw [tk,<- arB,aqO (l₁:=flat ts++l.take m),as3];rfl
     ·rintro _ _ ⟨x,rfl,rfl⟩;refine⟨ts++[(ring,l)],_,_,_,rfl,?_,T2,fun j g hj hg=>?_⟩
      ·rw [aqr,show (ring,l).2.length=l.length from rfl,aq6,aaz]
      ·rw [aaz];rcases atZ.mp hj with h | h
       ·exact aq1 _ (past j g h hg)
       ·rw [h,hq] at hg;cases hg;exact aqP _ (ar1 hh)
  ·rintro _ _ ⟨ts,u,v,x,rfl,rfl,T,past⟩;have few:=T.few gd;refine ah7 (adR (acW "str" (zk (i:=4) (d:=.list (ts.map ye)) ?_ ⟨_,rfl,ala T,by rw [aqr];omega,.inl (by rw [aqr];omega),fun es pm up=>?_⟩)))
   ·show some (freed _ _ _)=_;simp [freed]
   ·obtain⟨us,p,rfl⟩:=vG pm ts rfl;refine⟨us,rfl,T.perm p,fun g og=>?_,up⟩;have hm:g∈S:=by rw [<-hS];exact aqP _ (mem_gates.mpr og)
    obtain⟨j,hj⟩:=aqV hm;obtain⟨hlt,_⟩:=aqs.mp hj;exact (p.flatMap_right _).mem_iff.mpr (past j g (by rw [aqr];exact hlt) hj)
section
variable {rows:List (List Int)} {wd:Nat} {cut:Int}
theorem agh {q:Bool} {l m:List Gt} (L:LineOk rows wd cut q l) (M:LineOk rows wd cut q m) (hh:l.head?=m.head?):∀ i,i<l.length->i<m.length/\l[i]?=m[i]?:=by
 intro i
 induction i with
 | zero =>
  intro hi;rw [arw,arw] at hh;refine⟨?_,hh⟩;rw [aqq hi] at hh;exact (aqs.mp hh.symm).1
 | succ i ih =>
  intro hi;obtain⟨h1,h2⟩:=ih (by omega);have a1:l[i]?=some l[i]:=aqq (by omega);have a2:l[i+1]?=some l[i+1]:=aqq hi;have hn:=L.ch i _ _ a1 a2;rw [a1] at h2;by_cases hm:i+1<m.length
  ·have b2:m[i+1]?=some m[i+1]:=aqq hm;have hn':=M.ch i _ _ h2.symm b2;rw [hn] at hn';exact⟨hm,by rw [a2,b2,hn']⟩
  ·have hz:m.getLast?=some l[i]:=by rw [asm,show m.length - 1=i by omega];exact h2.symm
   have hl:=M.last _ hz;rw [hn] at hl;cases q with
   | false=>cases hl
   | true =>
    rw [if_pos rfl,<- hh,arw,<- a2] at hl;have:=(atV hi L.nd).mp hl;omega
theorem ale {q:Bool} {l m:List Gt} (L:LineOk rows wd cut q l) (M:LineOk rows wd cut q m) (hh:l.head?=m.head?):l=m:=by
 refine arV fun i=>?_;by_cases h:i<l.length
 ·exact (agh L M hh i h).2
 ·by_cases h2:i<m.length
  ·exact ((agh M L hh.symm i h2).2).symm
  ·rw [aqZ (by omega),aqZ (by omega)]
theorem aeC {q:Bool} {l:List Gt} (L:LineOk rows wd cut q l) {t:Bool×List Gt} (T:LineOk rows wd cut t.1 t.2) (st:ae4 rows wd cut t) {h:Gt} (hl:h∈l) (ht:h∈t.2):∀ g∈l,g∈t.2:=by
 obtain⟨j,hj⟩:=aqV hl;obtain⟨hlt,_⟩:=aqs.mp hj;have up:∀ n i,i=j+n->∀ g,l[i]?=some g->g∈t.2:=fun n=>by
  induction n with
  | zero =>
   intro i hi g hg;rw [hi,Nat.add_zero,hj] at hg;cases hg;exact ht
  | succ n ih =>
   intro i hi g hg;obtain⟨hl2,_⟩:=aqs.mp hg;have a1:l[j+n]?=some l[j+n]:=aqq (by omega);rw [show i=j+n+1 by omega] at hg;exact acd T (ih _ rfl _ a1) (L.ch _ _ _ a1 hg)
 have dn:∀ n i,i+n=j->∀ g,l[i]?=some g->g∈t.2:=fun n=>by
  induction n with
  | zero =>
   intro i hi g hg;rw [show i=j by omega,hj] at hg;cases hg;exact ht
  | succ n ih =>
   intro i hi g hg;have a1:l[i+1]?=some l[i+1]:=aqq (by omega);exact acb T st (L.op g (aqz hg)) (ih (i+1) (by omega) _ a1) (L.ch i _ _ hg a1)
 intro g hg;obtain⟨i,hi⟩:=aqV hg;by_cases h':j<=i
 ·exact up (i - j) i (by omega) g hi
 ·exact dn (j - i) i (by omega) g hi
theorem alf {a b:Gt} (h:gLt a b) (h':gLt b a):False:=by
 unfold gLt at h h';omega
theorem agi {ts us:List (Bool×List Gt)} (T:Told rows wd cut ts) (U:Told rows wd cut us) (all:∀ g,opG rows wd cut g=true->g∈flat us) {t:Bool×List Gt} (ht:t∈ts):t∈us:=by
 have L:=T.line t ht;obtain⟨h,hh⟩:∃ h,t.2.head?=some h:=by
  cases q:t.2 with
  | nil=>exact absurd q L.ne
  | cons x l=>exact⟨x,rfl⟩
 have hm:=ar1 hh;obtain⟨u,hu,hmu⟩:=arb.mp (all h (L.op h hm));have M:=U.line u hu;have s1:=aeC L M (U.st u hu) hm hmu;have s2:=aeC M L (T.st t ht) hmu hm;obtain⟨k,hk⟩:∃ k,u.2.head?=some k:=by
  cases q:u.2 with
  | nil=>exact absurd q M.ne
  | cons x l=>exact⟨x,rfl⟩
 have hkm:=ar1 hk;have noPrev:∀ {r:List Gt} {g:Gt},LineOk rows wd cut true r->g∈r->yV rows wd cut g≠none:=fun R hg z=>by
  obtain⟨n,hn,_⟩:=acw (R.op _ hg) (ajB R hg).2;rw [z] at hn;cases hn
 have kind:t.1=u.1:=by
  cases h1:t.1 with
  | true =>
   cases h2:u.1 with
   | true=>rfl
   | false =>
    rw [h1] at L;exact absurd (U.st u hu h2 k hk) (noPrev L (s2 k hkm))
  | false =>
   cases h2:u.1 with
   | false=>rfl
   | true =>
    rw [h2] at M;exact absurd (T.st t ht h1 h hh) (noPrev M hmu)
 have hd:h=k:=by
  cases h1:t.1 with
  | true =>
   rcases T.least t ht h1 h hh k (s2 k hkm) with e | e
   ·exact e.symm
   ·rcases U.least u hu (kind▸h1) k hk h hmu with e' | e'
    ·exact e'
    ·exact (alf e e').elim
  | false =>
   have hp:=T.st t ht h1 h hh;obtain⟨i,hi⟩:=aqV hmu
   match i,hi with
   | 0,hi =>
    rw [arw,hi] at hk;exact Option.some.inj hk
   | i+1,hi =>
    obtain⟨hlt,_⟩:=aqs.mp hi;have a1:u.2[i]?=some u.2[i]:=aqq (by omega);have:=next_prev (M.op _ (aqz a1)) (M.ch i _ _ a1 hi);rw [hp] at this;cases this
 have e2:t.2=u.2:=by
  rw [<-kind] at M;exact ale L M (by rw [hh,hk,hd])
 have:t=u:=ash kind e2;rw [this];exact hu
theorem ajC {t u:Bool×List Gt} (h:ye t=ye u):t=u:=by
 unfold ye at h;injection h with h;injection h with h1 h2;injection h2 with h2 _;injection h2 with h2;refine ash ?_ ?_
 ·have ne:PyData.str "ring"≠PyData.str "run":=fun z=>by
   have:=atz (PyData.str "ring") (by decide +kernel);rw [show aqX (.str "ring") (.str "ring")=aqX (.str "ring") (.str "run") by rw [<-z]] at this;exact absurd this (by decide +kernel)
  cases h3:t.1 <;> cases h4:u.1
  ·rfl
  ·rw [h3,h4] at h1;exact absurd h1.symm ne
  ·rw [h3,h4] at h1;exact absurd h1 ne
  ·rfl
 ·exact atG (fun _ _=>agg) |>.mp h2
theorem qy:∀ {l m:List PyData},(∀ d∈l,zA d=true)->(l.Pairwise fun d e=>ltD d e=true)->(m.Pairwise fun d e=>ltD d e=true)->(∀ d,d∈l↔d∈m)->l=m
 | [],[],_,_,_,_=>rfl
 | [],b :: m,_,_,_,h=>nomatch (h b).mpr (aqv ..)
 | a :: l,[],_,_,_,h=>nomatch (h a).mp (aqv ..)
 | a :: l,b :: m,pl,p,q,h=>by
  obtain⟨p1,p2⟩:=arT.mp p;obtain⟨q1,q2⟩:=arT.mp q;have pa:=pl a (aqv ..);have pb:=pl b ((h b).mpr (aqv ..));have ab:a=b:=by
   rcases aqE.mp ((h a).mp (aqv ..)) with e | e
   ·exact e
   ·rcases aqE.mp ((h b).mpr (aqv ..)) with e' | e'
    ·exact e'.symm
    ·have:=acV _ _ _ pa pb pa (p1 b e') (q1 a e);rw [qX a pa] at this;cases this
  subst ab;rw [qy (fun d hd=>pl d (aqw _ hd)) p2 q2 fun d=>?_];constructor
  ·intro hd;rcases aqE.mp ((h d).mp (aqw _ hd)) with e | e
   ·have:=p1 d hd;rw [e,qX a pa] at this;cases this
   ·exact e
  ·intro hd;rcases aqE.mp ((h d).mpr (aqw _ hd)) with e | e
   ·have:=q1 d hd;rw [e,qX a pa] at this;cases this
   ·exact e
theorem agj {ts us:List (Bool×List Gt)} (T:Told rows wd cut ts) (U:Told rows wd cut us) (aT:∀ g,opG rows wd cut g=true->g∈flat ts) (aU:∀ g,opG rows wd cut g=true->g∈flat us)
  (pT:(ts.map ye).Pairwise fun d e=>ltD d e=true) (pU:(us.map ye).Pairwise fun d e=>ltD d e=true):ts=us:=by
 have e:ts.map ye=us.map ye:=qy (fun d hd=>by obtain⟨t,_,rfl⟩:=aqG.mp hd;exact adh t) pT pU fun d=>by
  constructor
  ·intro hd;obtain⟨t,ht,rfl⟩:=aqG.mp hd;exact aqG.mpr ⟨t,agi T U aU ht,rfl⟩
  ·intro hd;obtain⟨t,ht,rfl⟩:=aqG.mp hd;exact aqG.mpr ⟨t,agi U T aT ht,rfl⟩
 exact (atG fun _ _=>ajC).mp e
end
abbrev Pt:=Int×Int
noncomputable def pD (p:Pt):PyData:=.tuple [.int p.1,.int p.2]
theorem vR {a b:Pt} (h:pD a=pD b):a=b:=by
 obtain⟨x,y⟩:=a;obtain⟨x',y'⟩:=b;unfold pD at h;simp at h;simp [h]
theorem y7 (p:Pt):acf (pD p):=⟨⟨rfl,aqB rfl⟩,_,rfl⟩
theorem mem_pD {l:List Pt} {p:Pt}:pD p∈l.map pD↔p∈l:=by
 rw [aqG];exact⟨fun⟨q,hq,e⟩=>vR e▸hq,fun h=>⟨p,h,rfl⟩⟩
theorem aph {l:List Pt} (nd:l.Nodup):SortOk "int" (l.map pD) where
 plain:=fun d hd=>by obtain⟨g,_,rfl⟩:=aqG.mp hd;rfl
 head:=fun d hd=>by obtain⟨g,_,rfl⟩:=aqG.mp hd;rfl
 cmp:=fun d hd e he=>by
  obtain⟨⟨x,y⟩,_,rfl⟩:=aqG.mp hd;obtain⟨⟨x',y'⟩,_,rfl⟩:=aqG.mp he;show v3 (.tuple [.int x,.int y]) (.tuple [.int x',.int y'])=true;simp only [v3,qB];split
  ·split <;> rfl
  ·rfl
 depth:=fun d hd=>by obtain⟨g,_,rfl⟩:=aqG.mp hd;exact aqB rfl
 nd:=arA.mpr (nd.imp fun {a b} h e=>h (vR e))
theorem ajD (l:List Pt):∀ d∈l.map pD,zA d=true:=fun d hd=>by obtain⟨g,_,rfl⟩:=aqG.mp hd;rfl
theorem am3 {l m:List Pt} (p:(l.map pD).Pairwise fun d e=>ltD d e=true) (q:(m.map pD).Pairwise fun d e=>ltD d e=true) (h:∀ x,x∈l↔x∈m):l=m:=by
 have e:l.map pD=m.map pD:=qy (ajD l) p q fun d=>by
  constructor
  ·intro hd;obtain⟨x,hx,rfl⟩:=aqG.mp hd;exact mem_pD.mpr ((h x).mp hx)
  ·intro hd;obtain⟨x,hx,rfl⟩:=aqG.mp hd;exact mem_pD.mpr ((h x).mpr hx)
 exact (atG fun _ _=>vR).mp e
section
variable (rows:List (List Int)) (wd:Nat) (cut:Int)
noncomputable def inP (p:Pt):Bool:=zZ rows wd p.1 p.2
noncomputable def hiP (p:Pt):Bool:=hiB rows cut p.1 p.2
noncomputable def nbL (p:Pt):List Pt:=[(p.1 - 1,p.2),(p.1,p.2 - 1),(p.1,p.2+1),(p.1+1,p.2)]
noncomputable def caL (p:Pt):List Pt:=[(p.1 - 1,p.2 - 1),(p.1 - 1,p.2),(p.1,p.2 - 1),(p.1,p.2)]
noncomputable def asl (p c:Pt):Pt:=(2 * c.1+1 - p.1,2 * c.2+1 - p.2)
noncomputable def vk (c:Pt):Bool:=zK rows wd c.1 c.2
noncomputable def jq (p:Pt):List Pt:=(((nbL p).filter (inP rows wd)).filter fun q=>hiP rows cut q == hiP rows cut p)++((((caL p).filter (vk rows wd)).filter fun c=>yR rows wd cut c.1 c.2 && (jw rows cut c.1 c.2 == hiP rows cut p)).map (asl p))
inductive Reach (s:Pt):Pt->Prop where
 | refl:Reach s s
 | step {p q:Pt}:Reach s p->q∈jq rows wd cut p->Reach s q
end
section
variable {rows:List (List Int)} {wd:Nat} {cut:Int}
theorem agk {a b:Int} (c:zK rows wd a b=true) (h:yR rows wd cut a b=true):hiB rows cut (a+1) b=!hiB rows cut a b/\hiB rows cut a (b+1)=!hiB rows cut a b/\hiB rows cut (a+1) (b+1)=hiB rows cut a b:=by
 unfold yR cg opG at h;simp only [as6,auc,as8,aqy] at h;rw [abn c,ada c,abo c,abp c] at h
 revert h
 cases hiB rows cut a b <;> cases hiB rows cut (a+1) b <;> cases hiB rows cut a (b+1) <;> cases hiB rows cut (a+1) (b+1) <;> decide
theorem mem_nb {p q:Pt}:q∈nbL p↔(q=(p.1 - 1,p.2) \/ q=(p.1,p.2 - 1) \/ q=(p.1,p.2+1) \/ q=(p.1+1,p.2)):=by
 unfold nbL;simp only [aqE,arj,or_false]
theorem abu {p q:Pt} (h:q∈nbL p):p∈nbL q:=by
 rw [mem_nb] at h ⊢;obtain⟨x,y⟩:=p;rcases h with rfl | rfl | rfl | rfl
 ·exact .inr (.inr (.inr (by simp)))
 ·exact .inr (.inr (.inl (by simp)))
 ·exact .inr (.inl (by simp))
 ·exact .inl (by simp)
theorem api {p c:Pt}:c∈caL p↔(c=(p.1 - 1,p.2 - 1) \/ c=(p.1 - 1,p.2) \/ c=(p.1,p.2 - 1) \/ c=(p.1,p.2)):=by
 unfold caL;simp only [aqE,arj,or_false]
theorem ca_iff {p c:Pt}:c∈caL p↔((p.1=c.1 \/ p.1=c.1+1)/\(p.2=c.2 \/ p.2=c.2+1)):=by
 rw [api];obtain⟨x,y⟩:=p;obtain⟨a,b⟩:=c;simp only [Prod.mk.injEq];omega
theorem am4 (p c:Pt):asl (asl p c) c=p:=by
 obtain⟨x,y⟩:=p;unfold asl;simp only [Prod.mk.injEq];omega
theorem apj {p c:Pt} (h:c∈caL p):c∈caL (asl p c):=by
 rw [ca_iff] at h ⊢;unfold asl;dsimp only;omega
theorem ahi {p c:Pt} (h:c∈caL p) (cc:vk rows wd c=true) (x:yR rows wd cut c.1 c.2=true):hiP rows cut (asl p c)=hiP rows cut p/\inP rows wd (asl p c)=true:=by
 obtain⟨h1,h2,h3⟩:=agk cc x;obtain⟨i1,i2,i3,i4⟩:=cell_in cc;obtain⟨a,b⟩:=c;obtain⟨u,v⟩:=p;rw [ca_iff] at h;dsimp only at h h1 h2 h3 i1 i2 i3 i4;unfold hiP inP asl;dsimp only;obtain⟨hu,hv⟩:=h;rcases hu with rfl | rfl <;> rcases hv with rfl | rfl
 ·rw [show 2 * u+1 - u=u+1 by omega,show 2 * v+1 - v=v+1 by omega];exact⟨h3,i3⟩
 ·rw [show 2 * u+1 - u=u+1 by omega,show 2 * b+1 - (b+1)=b by omega];exact⟨by rw [h1,h2],i2⟩
 ·rw [show 2 * a+1 - (a+1)=a by omega,show 2 * v+1 - v=v+1 by omega];exact⟨by rw [h1,h2],i4⟩
 ·rw [show 2 * a+1 - (a+1)=a by omega,show 2 * b+1 - (b+1)=b by omega];exact⟨h3.symm,i1⟩
theorem mem_join {p q:Pt}:q∈jq rows wd cut p↔((q∈nbL p/\inP rows wd q=true/\hiP rows cut q=hiP rows cut p) \/ ∃ c,c∈caL p/\vk rows wd c=true/\yR rows wd cut c.1 c.2=true/\jw rows cut c.1 c.2=hiP rows cut p/\q=asl p c):=by
 unfold jq;rw [aqK,aqW,aqW,aqG];constructor
 ·rintro (⟨⟨h1,h2⟩,h3⟩ | ⟨c,hc,rfl⟩)
  ·exact .inl ⟨h1,h2,by simpa using h3⟩
  ·obtain⟨h1,h2⟩:=aqW.mp hc;obtain⟨h3,h4⟩:=aqW.mp h1;rw [aqy] at h2;exact .inr ⟨c,h3,h4,h2.1,by simpa using h2.2,rfl⟩
 ·rintro (⟨h1,h2,h3⟩ | ⟨c,h1,h2,h3,h4,rfl⟩)
  ·exact .inl ⟨⟨h1,h2⟩,by simpa using h3⟩
  ·refine .inr ⟨c,aqW.mpr ⟨aqW.mpr ⟨h1,h2⟩,?_⟩,rfl⟩;rw [h3,h4];simp
theorem aaA {p q:Pt} (h:q∈jq rows wd cut p):inP rows wd q=true/\hiP rows cut q=hiP rows cut p:=by
 rcases mem_join.mp h with⟨_,h2,h3⟩ | ⟨c,h1,h2,h3,_,rfl⟩
 ·exact⟨h2,h3⟩
 ·exact⟨(ahi h1 h2 h3).2,(ahi h1 h2 h3).1⟩
theorem ajE {p q:Pt} (hp:inP rows wd p=true) (h:q∈jq rows wd cut p):p∈jq rows wd cut q:=by
 rcases mem_join.mp h with⟨h1,h2,h3⟩ | ⟨c,h1,h2,h3,h4,rfl⟩
 ·exact mem_join.mpr (.inl ⟨abu h1,hp,h3.symm⟩)
 ·exact mem_join.mpr (.inr ⟨c,apj h1,h2,h3,h4.trans (ahi h1 h2 h3).1.symm,(am4 p c).symm⟩)
theorem Reach.trans {s p q:Pt} (h:Reach rows wd cut s p) (h':Reach rows wd cut p q):Reach rows wd cut s q:=by
 induction h' with
 | refl=>exact h
 | step _ hq ih=>exact ih.step hq
theorem Reach.ins {s p:Pt} (hs:inP rows wd s=true) (h:Reach rows wd cut s p):inP rows wd p=true/\hiP rows cut p=hiP rows cut s:=by
 induction h with
 | refl=>exact⟨hs,rfl⟩
 | step _ hq ih=>exact⟨(aaA hq).1,(aaA hq).2.trans ih.2⟩
theorem Reach.symm {s p:Pt} (hs:inP rows wd s=true) (h:Reach rows wd cut s p):Reach rows wd cut p s:=by
 induction h with
 | refl=>exact .refl
 | step h1 hq ih=>exact (Reach.refl.step (ajE (h1.ins hs).1 hq)).trans ih
structure Reg (rows:List (List Int)) (wd:Nat) (cut:Int) (r:Bool×List Pt) (h:Pt):Prop where
 hd:r.2.head?=some h
 up:(r.2.map pD).Pairwise fun d e=>ltD d e=true
 mem:∀ q,q∈r.2↔Reach rows wd cut h q
 inn:inP rows wd h=true
 hi:r.1=hiP rows cut h
structure Regs (rows:List (List Int)) (wd:Nat) (cut:Int) (rs:List (Bool×List Pt)):Prop where
 reg:∀ r∈rs,∃ h,Reg rows wd cut r h
 all:∀ p,inP rows wd p=true->∃ r∈rs,p∈r.2
 ord:rs.Pairwise fun a b=>∀ p q,a.2.head?=some p->b.2.head?=some q->ltD (pD p) (pD q)=true
theorem ais {r r':Bool×List Pt} {h h':Pt} (R:Reg rows wd cut r h) (R':Reg rows wd cut r' h') {p:Pt} (hp:p∈r.2) (hp':p∈r'.2):r=r':=by
 have a1:=(R.mem p).mp hp;have a2:=(R'.mem p).mp hp';have e:r.2=r'.2:=am3 R.up R'.up fun x=>by
  rw [R.mem,R'.mem];exact⟨fun z=>a2.trans ((a1.symm R.inn).trans z),fun z=>a1.trans ((a2.symm R'.inn).trans z)⟩
 have eh:h=h':=by
  have:=R.hd;rw [e,R'.hd] at this;exact (Option.some.inj this).symm
 exact ash (by rw [R.hi,R'.hi,eh]) e
theorem agl {rs us:List (Bool×List Pt)} (A:Regs rows wd cut rs) (B:Regs rows wd cut us):rs=us:=by
 have mem:∀ {rs us:List (Bool×List Pt)},Regs rows wd cut rs->Regs rows wd cut us->∀ r∈rs,r∈us:=fun A B r hr=>by
  obtain⟨h,R⟩:=A.reg r hr;have hm:h∈r.2:=ar1 R.hd;obtain⟨u,hu,hmu⟩:=B.all h R.inn;obtain⟨h',U⟩:=B.reg u hu;rw [ais R U hm hmu];exact hu
 have key:∀ (rs us:List (Bool×List Pt)),(∀ r∈rs,∃ h,Reg rows wd cut r h)->(∀ r∈us,∃ h,Reg rows wd cut r h)->(rs.Pairwise fun a b=>∀ p q,a.2.head?=some p->b.2.head?=some q->ltD (pD p) (pD q)=true)->(us.Pairwise fun a b=>∀ p q,a.2.head?=some p->b.2.head?=some q->ltD (pD p) (pD q)=true)->(∀ r,r∈rs↔r∈us)->rs=us:=fun rs=>by
  induction rs with
  | nil =>
   intro us _ _ _ _ h;cases us with
   | nil=>rfl
   | cons u us=>exact nomatch (h u).mpr (aqv ..)
  | cons r rs ih =>
   intro us ra rb pa pb h;cases us with
   | nil=>exact nomatch (h r).mp (aqv ..)
   | cons u us =>
    obtain⟨a1,a2⟩:=arT.mp pa;obtain⟨b1,b2⟩:=arT.mp pb;obtain⟨hr,R⟩:=ra r (aqv ..);obtain⟨hu,U⟩:=rb u (aqv ..);have e:r=u:=by
     rcases aqE.mp ((h r).mp (aqv ..)) with e | e
     ·exact e
     ·rcases aqE.mp ((h u).mpr (aqv ..)) with e' | e'
      ·exact e'.symm
      ·have:=acV (pD hr) (pD hu) (pD hr) rfl rfl rfl (a1 u e' _ _ R.hd U.hd) (b1 r e _ _ U.hd R.hd);rw [qX _ rfl] at this;cases this
    subst e;have no:∀ {l:List (Bool×List Pt)},(∀ x∈l,∀ p q,r.2.head?=some p->x.2.head?=some q->ltD (pD p) (pD q)=true)->r∉l:=fun hl hm=>by
     have:=hl r hm _ _ R.hd R.hd;rw [qX _ rfl] at this;cases this
    rw [ih us (fun x hx=>ra x (aqw _ hx)) (fun x hx=>rb x (aqw _ hx)) a2 b2 fun x=>?_];constructor
    ·intro hx;rcases aqE.mp ((h x).mp (aqw _ hx)) with e | e
     ·exact absurd (e▸hx) (no a1)
     ·exact e
    ·intro hx;rcases aqE.mp ((h x).mpr (aqw _ hx)) with e | e
     ·exact absurd (e▸hx) (no b1)
     ·exact e
 exact key rs us A.reg B.reg A.ord B.ord fun r=>⟨mem A B r,mem B A r⟩
noncomputable def yu (t n:Nat):List Pt:=(aqL n).flatMap fun (x:Nat)=>(aqL t).map fun (y:Nat)=>((x:Int),(y:Int))
theorem abv (t n:Nat):jL t n=(yu t n).map pD:=by
 unfold jL yu;rw [at5]
 congr 1
 funext x
 rw [arR];rfl
theorem mem_pts {p:Pt}:p∈yu rows.length wd↔inP rows wd p=true:=by
 unfold yu inP zZ;rw [arb];constructor
 ·rintro⟨x,hx,h⟩;obtain⟨y,hy,rfl⟩:=aqG.mp h;rw [aqY] at hx hy;simp only [aqy,decide_eq_true_eq];omega
 ·intro h;simp only [aqy,decide_eq_true_eq] at h;obtain⟨u,v⟩:=p;dsimp only at h;refine⟨u.toNat,aqY.mpr (by omega),aqG.mpr ⟨v.toNat,aqY.mpr (by omega),?_⟩⟩;simp only [Prod.mk.injEq];omega
theorem jl (t:Nat):∀ n,(yu t n).length=t * n
 | 0=>rfl
 | n+1=>by
  unfold yu;rw [arS,arI,aqM];have:=jl t n;unfold yu at this;rw [this];simp only [List.flatMap_cons,List.flatMap_nil,arc,aqr,ara];rw [auK]
theorem alg {a b:Pt} (h:a.1<b.1 \/ (a.1=b.1/\a.2<b.2)):ltD (pD a) (pD b)=true:=by
 obtain⟨x,y⟩:=a;obtain⟨x',y'⟩:=b;dsimp only at h;show ltD (.tuple [.int x,.int y]) (.tuple [.int x',.int y'])=true;have e:∀ i j:Int,aqX (.int i) (.int j)=(i == j):=fun i j=>rfl;simp only [ltD,ltL,e,beq_iff_eq];by_cases h1:x=x'
 ·rw [if_pos h1,if_neg (by omega)];exact decide_eq_true (by omega)
 ·rw [if_neg h1];exact decide_eq_true (by omega)
theorem ait (t n:Nat):((yu t n).map pD).Pairwise fun d e=>ltD d e=true:=by
 rw [arA];unfold yu;refine aeY n (fun x _=>?_) fun x x' hx _ a ha b hb=>?_
 ·rw [arA];refine List.Pairwise.imp (fun {a b} h=>?_) at8;exact alg (a:=((x:Int),(a:Int))) (b:=((x:Int),(b:Int))) (.inr ⟨rfl,by show (a:Int)<b;omega⟩)
 ·obtain⟨y,_,rfl⟩:=aqG.mp ha;obtain⟨y',_,rfl⟩:=aqG.mp hb;exact alg (.inl (by show (x:Int)<x';omega))
theorem abw (g:Good wd rows) {l:List Pt} (nd:l.Nodup) (h:∀ p∈l,inP rows wd p=true):l.length<=49:=by
 have key:∀ (l m:List Pt),l.Nodup->(∀ x∈l,x∈m)->l.length<=m.length:=fun l=>by
  induction l with
  | nil=>intro m _ _;exact aq2 _
  | cons a l ih =>
   intro m nd sub;have ha:=sub a (aqv ..);have hn:=arq.mp nd;have le:=as9 ha;have hp:0<m.length:=ati ha;have:=ih (m.erase a) hn.2 (fun y hy=>(asT (fun (z:y=a)=>hn.1 (z▸hy))).mpr (sub y (aqw _ hy)));rw [aqT];omega
 have h1:=key l (yu rows.length wd) nd fun p hp=>mem_pts.mpr (h p hp);rw [jl] at h1;exact aqS h1 (arP g.h2 g.w2)
end
structure Seek (rows:List (List Int)) (wd:Nat) (cut:Int) (st:Pt) (fs ws:List Pt):Prop where
 nd:fs.Nodup
 wn:ws.Nodup
 fst:st∈fs
 re:∀ p∈fs,Reach rows wd cut st p
 sub:∀ p∈ws,p∈fs
 cl:∀ p∈fs,p∉ws->∀ q∈jq rows wd cut p,q∈fs
theorem Seek.done {rows:List (List Int)} {wd:Nat} {cut:Int} {st:Pt} {fs:List Pt} (S:Seek rows wd cut st fs []) (q:Pt):q∈fs↔Reach rows wd cut st q:=by
 refine⟨S.re q,fun h=>?_⟩
 induction h with
 | refl=>exact S.fst
 | step _ hq ih=>exact S.cl _ ih arj _ hq
theorem Seek.turn {rows:List (List Int)} {wd:Nat} {cut:Int} {st p:Pt} {fs ws new:List Pt} (S:Seek rows wd cut st fs (ws++[p])) (nd:(fs++new).Nodup) (hn:∀ q∈new,q∈jq rows wd cut p) (all:∀ q∈jq rows wd cut p,q∈fs++new):Seek rows wd cut st (fs++new) (ws++new) where
 nd:=nd
 wn:=by
  obtain⟨n1,n2,n3⟩:=aru.mp nd;obtain⟨m1,_,_⟩:=aru.mp S.wn;exact aru.mpr ⟨m1,n2,fun a ha b hb=>n3 a (S.sub a (aq1 _ ha)) b hb⟩
 fst:=aq1 _ S.fst
 re:=fun q hq=>by
  rcases aqK.mp hq with h | h
  ·exact S.re q h
  ·exact (S.re p (S.sub p (by simp))).step (hn q h)
 sub:=fun q hq=>by
  rcases aqK.mp hq with h | h
  ·exact aq1 _ (S.sub q (aq1 _ h))
  ·exact aqP _ h
 cl:=fun r hr nw q hq=>by
  by_cases e:r=p
  ·rw [e] at hq;exact all q hq
  ·rcases aqK.mp hr with h | h
   ·refine aq1 _ (S.cl r h (fun z=>?_) q hq);rcases aqK.mp z with z | z
    ·exact nw (aq1 _ z)
    ·exact e (aqF.mp z)
   ·exact absurd (aqP _ h) nw
theorem Seek.few {rows:List (List Int)} {wd:Nat} {cut:Int} {st:Pt} {fs ws:List Pt} (S:Seek rows wd cut st fs ws) (g:Good wd rows) (hi:inP rows wd st=true):fs.length<=49:=abw g S.nd fun p hp=>((S.re p hp).ins hi).1
noncomputable abbrev adA (fs:List Pt):List (PyData×PyData):=fs.map fun p=>(pD p,.bool true)
theorem aaB (fs:List Pt):(adA fs).map (·.1)=fs.map pD:=by rw [arR];rfl
theorem alh {fs:List Pt} {q:Pt} (h:q∉fs):dput (pD q) (.bool true) (adA fs)=adA (fs++[q]):=by
 unfold dput;rw [if_neg (by rw [aaB,mem_pD];exact h)];unfold adA;rw [aqO];rfl
noncomputable def yB (r:Bool×List Pt):PyData:=.tuple [.str (if r.1=true then "high" else "low"),.tuple (r.2.map pD)]
abbrev TP:=List (List Int)×Nat×Int×Int
abbrev apk (K:aqu):Sp:=spD K 3 (fun (c:TP) xs=>xs=[.dat (tab c.1),.dat (.int c.2.2.1),.dat (.int c.2.2.2)]/\Good c.2.1 c.1) fun c r=>r=.list (((nbL (c.2.2.1,c.2.2.2)).filter (inP c.1 c.2.1)).map pD)
theorem apX (F:Def K mg "neighbours" jR pj) (uan:FnIn P w K mg base k "has_point" pj (aij K)):FnIn P w K mg base (k+1) "neighbours" pj (apk K):=by
 refine F.ok sc_neighbours rfl fun fa cdv A outer s H E hr=>⟨_,(zc (zC (i:=3) sc_neighbours.nd rfl (Or.inl rfl) (z9 (za (zv (za (zt yh (pv 1) zf) (za (pv 2) zb))) (za (zv (za (pv 1) (za (zt yh (pv 2) zf) zb))) (za (zv (za (pv 1) (za (zt zP (pv 2) zf) zb))) (za (zv (za (zt zP (pv 1) zf) (za (pv 2) zb))) zb)))))) (zj (zu (zX (N:=pC) (own:=2) (fr:=[0]) (by walk_at "c") rfl (zy (K:=K) rfl (pv 3)) (fun _ _ _ _=>(zG (K:=K) (n:=2) rfl rfl (zg (ze (i:=0) (show (pC:List Str).Nodup by decide +kernel) rfl (Or.inl rfl) (Or.inr rfl)) (zg (ze (i:=1) (show (pC:List Str).Nodup by decide +kernel) rfl (Or.inl rfl) (Or.inr rfl)) zD)))) (fun _ _ _ _=>(yO (ym (K:=K) rfl (zd uan hr rfl (za (pv 2) (za (pv 0) (za (pv 1) zb)))) (fun _=>rfl)))) (fun _ _ _ _=>(zv (za (pv 0) (za (pv 1) zb)))) rfl rfl (fun _=>rfl))))),?_⟩;rintro f xs ⟨rows,wd,x,y⟩ hl ⟨rfl,g⟩
 try dsimp only [ya,zi]
 dsimp only at *;refine abg (fun ρ=>ρ=[some (.dat (tab rows)),some (.dat (.int x)),some (.dat (.int y)),some (.dat (.list ((nbL (x,y)).map pD)))]) ?_ ?_
 ·walk_at "w";rfl
 rintro _ rfl;refine yA (PEdO.ped (vF (A:=pD) (B:=pD) (inP rows wd) (nbL (x,y)) (zV (zk rfl ⟨_,rfl,rfl,aqB rfl,?_,rfl⟩))));rintro D ⟨a,b⟩ ρ' es hg ho hes;obtain⟨us,hus,rfl⟩:=ho
 match us,hus with
 | [u1,u2],_ =>
  refine yk rfl (zo (zh (zo (zh (zO (y9 (zq (rows,wd,a,b) ?_)))))));walk_at "w";rintro _ rfl;refine⟨_,rfl,rfl,z7 (fun h=>?_) fun h=>?_⟩
  ·refine yl hes ?_;walk_at "w";exact⟨⟨[_,_],rfl,rfl⟩,rfl⟩
  ·exact⟨[_,_],rfl,rfl⟩
abbrev apY (K:aqu):Sp:=spD K 3 (fun (c:TP) xs=>xs=[.dat (tab c.1),.dat (.int c.2.2.1),.dat (.int c.2.2.2)]/\Good c.2.1 c.1) fun c r=>r=.list (((caL (c.2.2.1,c.2.2.2)).filter (vk c.1 c.2.1)).map pD)
theorem apZ (F:Def K mg "cells_at" vI pj) (uaD:FnIn P w K mg base k "has_cell" pj (aeZ K)):FnIn P w K mg base (k+1) "cells_at" pj (apY K):=by
 refine F.ok sc_cells_at rfl fun fa cdv A outer s H E hr=>⟨_,(zc (zC (i:=3) sc_cells_at.nd rfl (Or.inl rfl) (z9 (za (zv (za (zt yh (pv 1) zf) (za (zt yh (pv 2) zf) zb))) (za (zv (za (zt yh (pv 1) zf) (za (pv 2) zb))) (za (zv (za (pv 1) (za (zt yh (pv 2) zf) zb))) (za (zv (za (pv 1) (za (pv 2) zb))) zb)))))) (zj (zu (zX (N:=pC) (own:=2) (fr:=[0]) (by walk_at "c") rfl (zy (K:=K) rfl (pv 3)) (fun _ _ _ _=>(zG (K:=K) (n:=2) rfl rfl (zg (ze (i:=0) (show (pC:List Str).Nodup by decide +kernel) rfl (Or.inl rfl) (Or.inr rfl)) (zg (ze (i:=1) (show (pC:List Str).Nodup by decide +kernel) rfl (Or.inl rfl) (Or.inr rfl)) zD)))) (fun _ _ _ _=>(yO (ym (K:=K) rfl (zd uaD hr rfl (za (pv 2) (za (pv 0) (za (pv 1) zb)))) (fun _=>rfl)))) (fun _ _ _ _=>(zv (za (pv 0) (za (pv 1) zb)))) rfl rfl (fun _=>rfl))))),?_⟩;rintro f xs ⟨rows,wd,x,y⟩ hl ⟨rfl,g⟩
 try dsimp only [ya,zi]
 dsimp only at *;refine abg (fun ρ=>ρ=[some (.dat (tab rows)),some (.dat (.int x)),some (.dat (.int y)),some (.dat (.list ((caL (x,y)).map pD)))]) ?_ ?_
 ·walk_at "w";rfl
 rintro _ rfl;refine yA (PEdO.ped (vF (A:=pD) (B:=pD) (vk rows wd) (caL (x,y)) (zV (zk rfl ⟨_,rfl,rfl,aqB rfl,?_,rfl⟩))));rintro D ⟨a,b⟩ ρ' es hg ho hes;obtain⟨us,hus,rfl⟩:=ho
 match us,hus with
 | [u1,u2],_ =>
  refine yk rfl (zo (zh (zo (zh (zO (y9 (zq (rows,wd,a,b) ?_)))))));walk_at "w";rintro _ rfl;refine⟨_,rfl,rfl,z7 (fun h=>?_) fun h=>?_⟩
  ·refine yl hes ?_;walk_at "w";exact⟨⟨[_,_],rfl,rfl⟩,rfl⟩
  ·exact⟨[_,_],rfl,rfl⟩
abbrev TC:=List (List Int)×Nat×Int×Pt
abbrev ap0 (c:TC) (xs:List DV):Prop:=xs=[.dat (tab c.1),.dat (.int c.2.2.1),.dat (pD c.2.2.2)]/\Good c.2.1 c.1/\inP c.1 c.2.1 c.2.2.2=true
abbrev ali (K:aqu):Sp:=spD K 3 ap0 fun c r=>r=.list ((jq c.1 c.2.1 c.2.2.1 c.2.2.2).map pD)
theorem agm {α:Type} {p q:α->Bool} {l:List α} {n:Nat} (h:l.length<=n):((l.filter p).filter q).length<=n:=aqS (aq8 _ _) (aqS (aq8 _ _) h)
theorem am5 (F:Def K mg "joined" abl pA) (uah:FnIn P w K mg base k "stands_high" pA (abT K)) (uaN:FnIn P w K mg base k "neighbours" pj (apk K)) (ubn:FnIn P w K mg base k "cells_at" pj (apY K))
  (uaJ:FnIn P w K mg base k "is_crossed" pq (abU K)) (uaI:FnIn P w K mg base k "has_high_middle" pq (akZ K)):FnIn P w K mg base (k+1) "joined" pA (ali K):=by
 refine F.ok sc_joined rfl fun fa cdv A outer s H E hr=>⟨_,(zc (yf (pv 2) (zG (K:=K) (n:=2) rfl rfl (zg (ze (i:=3) sc_joined.nd rfl (Or.inr rfl) (Or.inl rfl)) (zg (ze (i:=4) sc_joined.nd rfl (Or.inr rfl) (Or.inl rfl)) zD)))) (zc (zC (i:=5) sc_joined.nd rfl (Or.inr rfl) (zd uah hr rfl (za (pv 0) (za (pv 1) (za (pv 2) zb))))) (zc (yz (i:=6) (N:=["other","rows","cut","high"]) (own:=1) (fr:=[0,1,5]) (by walk_at "c") rfl sc_joined.nd rfl (Or.inl rfl) (zy (K:=K) rfl (zd uaN hr rfl (za (pv 0) (za (pv 3) (za (pv 4) zb))))) (fun _ _ _ _=>(ze (i:=0) (show (["other","rows","cut","high"]:List Str).Nodup by decide +kernel) rfl (Or.inl rfl) (Or.inr rfl))) (fun _ _ _ _=>(yO (zI (qV (K:=K) rfl hr.units) (zd uah hr rfl (za (pv 1) (za (pv 2) (za (pv 0) zb)))) (pv 3) (z8 _)))) (fun _ _ _ _=>(pv 0)) rfl rfl (fun _=>rfl) (Or.inl rfl) rfl) (zc (yz (i:=7) (N:=qi) (own:=2) (fr:=[0,1,3,4,5]) (by walk_at "c") rfl sc_joined.nd rfl (Or.inl rfl) (zy (K:=K) rfl (zd ubn hr rfl (za (pv 0) (za (pv 3) (za (pv 4) zb))))) (fun _ _ _ _=>(zG (K:=K) (n:=2) rfl rfl (zg (ze (i:=0) (show (qi:List Str).Nodup by decide +kernel) rfl (Or.inl rfl) (Or.inr rfl)) (zg (ze (i:=1) (show (qi:List Str).Nodup by decide +kernel) rfl (Or.inl rfl) (Or.inr rfl)) zD)))) (fun _ _ _ _=>(yO (PW.pt (v7 (ym (K:=K) rfl (zd uaJ hr rfl (za (pv 2) (za (pv 3) (za (zv (za (pv 0) (za (pv 1) zb))) zb)))) (fun _=>rfl)) (vt (zI (qV (K:=K) rfl hr.units) (zd uaI hr rfl (za (pv 2) (za (pv 3) (za (zv (za (pv 0) (za (pv 1) zb))) zb)))) (pv 6) (z8 _))))))) (fun _ _ _ _=>(zv (za (zt yh (zt zP (zt j8 zf (pv 0)) zf) (pv 4)) (za (zt yh (zt zP (zt j8 zf (pv 1)) zf) (pv 5)) zb)))) rfl rfl (fun _=>rfl) (Or.inl rfl) rfl) (zj (zu (zt (acT (K:=K) rfl) (pv 6) (pv 7)))))))),?_⟩;rintro f xs ⟨rows,wd,cut,⟨x,y⟩⟩ hl ⟨rfl,g,ip⟩
 try dsimp only [ya,zi]
 dsimp only at *;refine yq (z6 (zk rfl (yk rfl (zo (zh (zo (zh (zO ?_))))))));refine abg (fun ρ=>ρ=[some (.dat (tab rows)),some (.dat (.int cut)),some (.dat (pD (x,y))),some (.dat (.int x)),some (.dat (.int y)),some (.dat (.bool (hiP rows cut (x,y)))),none,none]) (z6 (zq (rows,wd,cut,x,y) ?_)) ?_
 ·walk_at "w";rintro _ rfl;exact zh rfl
 rintro _ rfl;refine abg (fun ρ=>ρ=[some (.dat (tab rows)),some (.dat (.int cut)),some (.dat (pD (x,y))),some (.dat (.int x)),some (.dat (.int y)),some (.dat (.bool (hiP rows cut (x,y)))),some (.dat (.list ((((nbL (x,y)).filter (inP rows wd)).filter fun q=>hiP rows cut q == hiP rows cut (x,y)).map pD))),none])
  (z6 (PEdO.ped (vF (A:=pD) (B:=pD) (fun q=>hiP rows cut q == hiP rows cut (x,y)) ((nbL (x,y)).filter (inP rows wd)) (zV (zq (rows,wd,x,y) ?_))))) ?_
 ·walk_at "w";rintro _ rfl;refine⟨_,rfl,rfl,aqS (aq8 _ _) (aqB rfl),?_,zh rfl⟩;rintro D ⟨a,b⟩ ρ' es hg ho hes;have hi:inP rows wd (a,b)=true:=(aqW.mp hg).2;obtain⟨us,hus,rfl⟩:=ho
  match us,hus with
  | [u1],_ =>
   refine zh (zT (jn (zq (rows,wd,cut,a,b) ?_)));walk_at "w";rintro _ rfl;walk_at "w";refine z7 (fun h=>?_) fun h=>?_
   ·refine yl hes ?_;walk_at "w";exact⟨⟨[_],rfl,rfl⟩,rfl⟩
   ·exact⟨[_],rfl,rfl⟩
 rintro _ rfl;refine abg (fun ρ=>ρ=[some (.dat (tab rows)),some (.dat (.int cut)),some (.dat (pD (x,y))),some (.dat (.int x)),some (.dat (.int y)),some (.dat (.bool (hiP rows cut (x,y)))),some (.dat (.list ((((nbL (x,y)).filter (inP rows wd)).filter fun q=>hiP rows cut q == hiP rows cut (x,y)).map pD))),some (.dat (.list (((((caL (x,y)).filter (vk rows wd)).filter fun c=>yR rows wd cut c.1 c.2 && (jw rows cut c.1 c.2 == hiP rows cut (x,y))).map (asl (x,y))).map pD)))])
  (z6 (PEdO.ped (vF (A:=pD) (B:=fun c=>pD (asl (x,y) c)) (fun c=>yR rows wd cut c.1 c.2 && (jw rows cut c.1 c.2 == hiP rows cut (x,y))) ((caL (x,y)).filter (vk rows wd)) (zV (zq (rows,wd,x,y) ?_))))) ?_
 ·walk_at "w";rintro _ rfl;refine⟨_,rfl,rfl,aqS (aq8 _ _) (aqB rfl),?_,zh (by rw [arR];rfl)⟩;rintro D ⟨a,b⟩ ρ' es hg ho hes;have hi:zK rows wd a b=true:=(aqW.mp hg).2;obtain⟨us,hus,rfl⟩:=ho
  match us,hus with
  | [u1,u2],_ =>
   refine yk rfl (zo (zh (zo (zh (zO (afs (y9 (zq (rows,wd,cut,a,b) ?_))))))));walk_at "w";rintro _ rfl;refine⟨_,rfl,z7 (fun h1=>?_) fun h1=>?_⟩
   ·have h1:yR rows wd cut a b=true:=h1;refine zT (jn (zq (rows,wd,cut,a,b) ?_));walk_at "w";rintro _ rfl;walk_at "w";refine⟨by dsimp only;rw [h1,asv];rfl,z7 (fun h=>?_) fun h=>?_⟩
    ·refine yl hes ?_;walk_at "w";exact⟨⟨[_,_],rfl,rfl⟩,rfl⟩
    ·exact⟨[_,_],rfl,rfl⟩
   ·have h1:yR rows wd cut a b=false:=h1;exact⟨by dsimp only;rw [h1,asP],⟨[_,_],rfl,rfl⟩⟩
 rintro _ rfl;refine yA (agF (zk rfl ⟨_,rfl,zk rfl ⟨_,rfl,?_,?_⟩⟩))
 ·rw [aqr,aqr,aqr];have h1:=agm (p:=inP rows wd) (q:=fun q=>hiP rows cut q == hiP rows cut (x,y)) (l:=nbL (x,y)) (n:=4) (aqC 4);have h2:=agm (p:=vk rows wd) (q:=fun c=>yR rows wd cut c.1 c.2 && (jw rows cut c.1 c.2 == hiP rows cut (x,y))) (l:=caL (x,y)) (n:=4) (aqC 4);omega
 ·rw [<-aqO];rfl
noncomputable def ap1 (cs:List OC):Nat:=match cs with
 | [.dic kvs,.lst es]=>2 * (100 - kvs.length)+es.length
 | _=>0
abbrev alj (K:aqu):Sp:=spD K 3 ap0 fun c r=>∃ l:List Pt,r=.tuple (l.map pD)/\((l.map pD).Pairwise fun d e=>ltD d e=true)/\∀ q,q∈l↔Reach c.1 c.2.1 c.2.2.1 c.2.2.2 q
theorem am6 (F:Def K mg "all_joined" jW pF) (uae:mg "sorted"=none) (uab:mg "tuple"=none) (ubo:FnIn P w K mg base k "joined" pA (ali K)):FnIn P w K mg base (k+1) "all_joined" pF (alj K):=by
 refine F.ok sc_all_joined rfl fun fa cdv A outer s H E hr=>⟨_,(zc (zC (i:=3) sc_all_joined.nd rfl (Or.inl rfl) (ams (w:=w) (K:=K) rfl rfl hr.units (pv 2) vU)) (zc (zC (i:=4) sc_all_joined.nd rfl (Or.inl rfl) (z9 (za (pv 2) zb))) (zc (afh aq7 (ym (K:=K) rfl (pv 4) (fun _=>rfl)) (zc (zC (i:=5) sc_all_joined.nd rfl (Or.inl rfl) (aos ark PySem.F.slot_list_pop PySem.F.type_list_pop aot (pv 4))) (zj (yG aq7 rfl (zy (K:=K) rfl (zd ubo hr rfl (za (pv 0) (za (pv 1) (za (pv 5) zb))))) (ze (i:=6) sc_all_joined.nd rfl (Or.inl rfl) (Or.inr rfl)) (zj (yF (zI (aeH (w:=w) (K:=K) rfl rfl hr.units) (pv 6) (pv 3) rfl) (zc (yf vU (aaP (pv 3) (pv 6) (aaf (w:=w) (K:=K) rfl rfl hr.units))) (zj (yE (aa4 ark aro arp yT (pv 4) (za (pv 6) zb))))) zS)))))) (zj (zu (yS (yJ (K:=K) rfl) rfl uab arz (za (zz (afP (w:=w) (K:=K) rfl rfl rfl hr.units) rfl uae asw (za (pv 3) zb)) zb))))))),?_⟩;rintro f xs ⟨rows,wd,cut,st⟩ hl ⟨rfl,g,ip⟩
 try dsimp only [ya,zi]
 dsimp only at *;refine aae (w:=w) (abb (amu fun p=>zk rfl ⟨y7 st,afr ⟨show 3<7 by decide,fun D0=>?_⟩⟩));refine abb (jO (aac (zp (zk rfl (zH ⟨[pD st],rfl,aqB rfl,show 4<7 by decide,fun D1=>?_⟩)))));refine aib (fun ρ cs=>∃ (u5 u6:Option DV) (fs:List Pt),ρ=[some (.dat (tab rows)),some (.dat (.int cut)),some (.dat (pD st)),some (.own (f.M.length+0)),some (.own (f.M.length+1)),u5,u6]/\cs=[.dic (adA fs),.lst []]/\Seek rows wd cut st fs [])
  (ah5 (fun ρ cs=>∃ (u5 u6:Option DV) (fs ws:List Pt),ρ=[some (.dat (tab rows)),some (.dat (.int cut)),some (.dat (pD st)),some (.own (f.M.length+0)),some (.own (f.M.length+1)),u5,u6]/\cs=[.dic (adA fs),.lst (ws.map pD)]/\Seek rows wd cut st fs ws) (fun _ cs=>ap1 cs) ⟨none,none,[st],[st],rfl,rfl,?_⟩ ?_) ?_
 ·exact⟨by simp,by simp,aqF.mpr rfl,fun p hp=>by rw [aqF.mp hp];exact .refl,fun p hp=>hp,fun p hp nw=>absurd hp nw⟩
 ·rintro _ _ ⟨u5,u6,fs,ws,rfl,rfl,S⟩;have few:=S.few g ip;rcases List.eq_nil_or_concat ws with rfl | ⟨ws',p,rfl⟩
  ·refine aeG (y9 (zk (i:=4) (d:=.list []) ?_ ⟨false,rfl,?_⟩))
   ·show some (freed _ _ _)=_;simp [freed]
   ·rw [if_neg aqt];exact⟨u5,u6,fs,rfl,rfl,S⟩
  ·rw [List.concat_eq_append] at S ⊢;have hp:=S.sub p (by simp);have ipp:=((S.re p hp).ins ip).1;have fw:(ws'++[p]).length<=49:=abw g S.wn fun q hq=>((S.re q (S.sub q hq)).ins ip).1;rw [aqM] at fw;refine aeG (y9 (zk (i:=4) (d:=.list ((ws'++[p]).map pD)) ?_ ⟨true,?_,?_⟩))
   ·show some (freed _ _ _)=_;simp [freed]
   ·rw [aqO];show some _=some _;simp
   ·rw [if_pos rfl];refine yD (apU (i:=4) (j:=1) (es:=ws'.map pD) (d:=pD p) rfl (by rw [aqO];rfl) ?_);refine jK (zV (zq (rows,wd,cut,p) ?_));walk_at "w";rintro _ rfl;refine⟨_,rfl,fun i ρ cs=>∃ (u6:Option DV) (new:List Pt),ρ=[some (.dat (tab rows)),some (.dat (.int cut)),some (.dat (pD st)),some (.own (f.M.length+0)),some (.own (f.M.length+1)),some (.dat (pD p)),u6]/\cs=[.dic (adA (fs++new)),.lst ((ws'++new).map pD)]/\(fs++new).Nodup/\(∀ q∈new,q∈jq rows wd cut p)/\∀ q∈(jq rows wd cut p).take i,q∈fs++new,⟨u6,[],rfl,?_,?_,?_,?_⟩,?_,?_⟩
    ·rw [arc,arc];rfl
    ·rw [arc];exact S.nd
    ·exact fun q hq=>nomatch hq
    ·exact fun q hq=>by rw [asU] at hq;cases hq
    ·rintro i d _ _ hd ⟨u6,new,rfl,rfl,nd,hn,tk⟩;rw [aqA] at hd;cases eq:(jq rows wd cut p)[i]? with
     | none=>rw [eq] at hd;cases hd
     | some q =>
      rw [eq] at hd;cases hd;have hq:q∈jq rows wd cut p:=aqz eq;have few2:(fs++new).length<=49:=abw g nd fun r hr=>by
       rcases aqK.mp hr with h | h
       ·exact ((S.re r h).ins ip).1
       ·exact (aaA (hn r h)).1
      rw [aqM] at few2;have tk':(jq rows wd cut p).take (i+1)=(jq rows wd cut p).take i++[q]:=by rw [arh,eq];rfl
      have dec:decide (pD q∈(adA (fs++new)).map (·.1))=decide (q∈fs++new):=by
       rw [aaB];exact decide_eq_decide.mpr mem_pD
      refine zh (adv (amt (neg:=true) (i:=3) (j:=0) rfl rfl (ju (zk rfl ⟨y7 q,?_⟩))));rw [if_pos rfl,dec];refine z7 (fun h=>?_) fun h=>?_
      ·have hq':q∉fs++new:=by simpa using h
       refine yD (afN (i:=3) (j:=0) rfl rfl (by rw [aqr,aqM];omega) (afr (zk rfl ⟨y7 q,?_⟩)));refine aba (i:=4) (j:=1) rfl rfl (by rw [aqr,aqM];omega) (ju (zk rfl ?_));refine⟨_,new++[q],rfl,?_,?_,?_,?_⟩
       ·rw [alh hq',arB,<- arB ws',aqO (l₁:=ws'++new)];rfl
       ·rw [<-arB];exact aru.mpr ⟨nd,by simp,fun a ha b hb e=>hq' (by rw [aqF.mp hb] at e;exact e▸ha)⟩
       ·intro r hr;rcases aqK.mp hr with h | h
        ·exact hn r h
        ·rw [aqF.mp h];exact hq
       ·intro r hr;rw [tk'] at hr;rw [<-arB];rcases aqK.mp hr with h | h
        ·exact aq1 _ (tk r h)
        ·exact aqP _ h
      ·have hq':q∈fs++new:=arC fun z=>by rw [decide_eq_false z] at h;cases h
       refine qY ⟨_,new,rfl,rfl,nd,hn,fun r hr=>?_⟩;rw [tk'] at hr;rcases aqK.mp hr with h | h
       ·exact tk r h
       ·rw [aqF.mp h];exact hq'
    ·rintro _ _ ⟨u6,new,rfl,rfl,nd,hn,tk⟩;rw [aqr] at tk;rw [aq6] at tk;refine⟨⟨_,u6,fs++new,ws'++new,rfl,rfl,S.turn nd hn tk⟩,?_⟩;have few2:=(S.turn nd hn tk).few g ip;show 2 * (100 - (adA (fs++new)).length)+((ws'++new).map pD).length<2 * (100 - (adA fs).length)+((ws'++[p]).map pD).length;simp only [aqr,aqM,ars] at few2 ⊢;omega
 rintro _ _ ⟨u5,u6,fs,rfl,rfl,S⟩;have few:=S.few g ip;refine akD (aoS "int" (i:=3) (j:=0) rfl rfl (by rw [aaB];exact aph S.nd) (by rw [aqr];omega) fun es pm up=>?_);rw [aaB] at pm;obtain⟨l,pl,rfl⟩:=vG pm fs rfl;exact⟨l,rfl,up,fun q=>by rw [pl.mem_iff];exact S.done q⟩
theorem ajF {rows:List (List Int)} {wd:Nat} {cut:Int} {st:Pt} {l:List Pt} (up:(l.map pD).Pairwise fun d e=>ltD d e=true) (mem:∀ q,q∈l↔Reach rows wd cut st q) (least:∀ q,Reach rows wd cut st q->q=st \/ ltD (pD st) (pD q)=true):l.head?=some st:=by
 have hs:st∈l:=(mem st).mpr .refl;cases l with
 | nil=>cases hs
 | cons a l =>
  rcases aqE.mp hs with e | e
  ·rw [e];rfl
  ·have h1:=(arT.mp up).1 (pD st) (mem_pD.mpr e);rcases least a ((mem a).mp (aqv ..)) with e' | e'
   ·rw [e'];rfl
   ·have:=acV (pD a) (pD st) (pD a) rfl rfl rfl h1 e';rw [qX _ rfl] at this;cases this
structure Sofar (rows:List (List Int)) (wd:Nat) (cut:Int) (ps:List Pt) (rs:List (Bool×List Pt)) (ks:List PyData):Prop where
 reg:∀ r∈rs,∃ h,Reg rows wd cut r h/\h∈ps
 all:∀ p∈ps,∃ r∈rs,p∈r.2
 ord:rs.Pairwise fun a b=>∀ p q,a.2.head?=some p->b.2.head?=some q->ltD (pD p) (pD q)=true
 key:∀ p,pD p∈ks↔∃ r∈rs,p∈r.2
theorem Sofar.done {rows:List (List Int)} {wd:Nat} {cut:Int} {rs:List (Bool×List Pt)} {ks:List PyData} (S:Sofar rows wd cut (yu rows.length wd) rs ks):Regs rows wd cut rs :=
 ⟨fun r hr=>let⟨h,R,_⟩:=S.reg r hr;⟨h,R⟩,fun p hp=>S.all p (mem_pts.mpr hp),S.ord⟩
theorem Sofar.more {rows:List (List Int)} {wd:Nat} {cut:Int} {ps:List Pt} {rs:List (Bool×List Pt)} {ks:List PyData} (S:Sofar rows wd cut ps rs ks) {p:Pt} {qs:List Pt} (e:yu rows.length wd=ps++p :: qs) (hn:pD p∉ks) {l:List Pt} (up:(l.map pD).Pairwise fun d e=>ltD d e=true) (mem:∀ q,q∈l↔Reach rows wd cut p q) :
  Sofar rows wd cut (ps++[p]) (rs++[(hiP rows cut p,l)]) (l.map pD++ks):=by
 have ip:inP rows wd p=true:=mem_pts.mp (by rw [e];simp);have hup:=ait rows.length wd;rw [e,aqO,aqQ,atr] at hup;obtain⟨_,u2,u3⟩:=hup;obtain⟨u4,_⟩:=arT.mp u2;have free:∀ q,Reach rows wd cut p q->∀ r∈rs,q∉r.2:=fun q hq r hr hm=>by
  obtain⟨h,R,_⟩:=S.reg r hr;exact hn ((S.key p).mpr ⟨r,hr,(R.mem p).mpr (((R.mem q).mp hm).trans (hq.symm ip))⟩)
 have least:∀ q,Reach rows wd cut p q->q=p \/ ltD (pD p) (pD q)=true:=fun q hq=>by
  have iq:=(hq.ins ip).1;have hm:=mem_pts.mpr iq;rw [e,aqK,aqE] at hm;rcases hm with h | h | h
  ·obtain⟨r,hr,hm⟩:=S.all q h;exact absurd hm (free q hq r hr)
  ·exact .inl h
  ·exact .inr (u4 _ (mem_pD.mpr h))
 have hd:=ajF up mem least;have R:Reg rows wd cut (hiP rows cut p,l) p:=⟨hd,up,mem,ip,rfl⟩;refine⟨fun r hr=>?_,fun q hq=>?_,?_,fun q=>?_⟩
 ·rcases aqK.mp hr with h | h
  ·obtain⟨h',R',m⟩:=S.reg r h;exact⟨h',R',aq1 _ m⟩
  ·rw [aqF.mp h];exact⟨p,R,by simp⟩
 ·rcases aqK.mp hq with h | h
  ·obtain⟨r,hr,hm⟩:=S.all q h;exact⟨r,aq1 _ hr,hm⟩
  ·rw [aqF.mp h];exact⟨_,aqP _ (aqF.mpr rfl),(mem p).mpr .refl⟩
 ·refine atr.mpr ⟨S.ord,by simp,fun a ha b hb x y hx hy=>?_⟩;rw [aqF.mp hb,hd] at hy;cases hy;obtain⟨h,R',m⟩:=S.reg a ha;rw [R'.hd] at hx;cases hx;exact u3 _ (mem_pD.mpr m) _ (aqv ..)
 ·rw [aqK,mem_pD,S.key];constructor
  ·rintro (h | ⟨r,hr,hm⟩)
   ·exact⟨_,aqP _ (aqF.mpr rfl),h⟩
   ·exact⟨r,aq1 _ hr,hm⟩
  ·rintro⟨r,hr,hm⟩;rcases aqK.mp hr with h | h
   ·exact .inr ⟨r,h,hm⟩
   ·rw [aqF.mp h] at hm;exact .inl hm
theorem Sofar.skip {rows:List (List Int)} {wd:Nat} {cut:Int} {ps:List Pt} {rs:List (Bool×List Pt)} {ks:List PyData} (S:Sofar rows wd cut ps rs ks) {p:Pt} (h:pD p∈ks):Sofar rows wd cut (ps++[p]) rs ks :=
 ⟨fun r hr=>let⟨h,R,m⟩:=S.reg r hr;⟨h,R,aq1 _ m⟩,fun q hq=>by
  rcases aqK.mp hq with h' | h'
  ·exact S.all q h'
  ·rw [aqF.mp h'];exact (S.key p).mp h,S.ord,S.key⟩
theorem Sofar.keys {rows:List (List Int)} {wd:Nat} {cut:Int} {ps:List Pt} {rs:List (Bool×List Pt)} {ks ks':List PyData} (S:Sofar rows wd cut ps rs ks) (h:∀ p,pD p∈ks'↔pD p∈ks):Sofar rows wd cut ps rs ks':=⟨S.reg,S.all,S.ord,fun p=>(h p).trans (S.key p)⟩
theorem Sofar.nil {rows:List (List Int)} {wd:Nat} {cut:Int}:Sofar rows wd cut [] [] []:=⟨fun _ h=>(nomatch h),fun _ h=>(nomatch h),List.Pairwise.nil,fun p=>⟨fun h=>(nomatch h),fun⟨_,h,_⟩=>(nomatch h)⟩⟩
def ajG (w:World) (K:aqu) (f:Fx) (Ds:List Addr) (ts:TS) (ρ:zr) (cs:List OC) (j:Nat) (R:List PyData->Prop):Prop:=Sep f Ds->∀ (σ:L2.St) (H H2:Hp) (E:Ends),CM w K f Ds H2 ρ cs σ H ->
 (∀ D es ρ' cs' σ' H',CM w K f Ds H2 ρ' cs' σ' H'->Ds[j]?=some D->cs'[j]?=some (.lst es)->R es->E.rt (.ref D) H')->ts E σ H
section
variable {w:World} {K:aqu} {f:Fx} {Ds:List Addr} {ρ:zr} {cs:List OC} {ts tu:TS} {te:TE} {R:List PyData->Prop} {i j:Nat}
theorem apl (h:PSm w K f Ds ts ρ cs { nx:=fun ρ' cs'=>ajG w K f Ds tu ρ' cs' j R,rt:=fun _=>False }):ajG w K f Ds (vZ ts tu) ρ cs j R:=fun se σ H H2 E x q =>
 h se σ H H2 _ x (fun ρ' cs' σ' H' x' p=>p se σ' H' H2 E x' q) (fun _ _ _ _ _ _ _ _ z=>z.elim) (fun _ _ _ _ _ z=>z.elim) (fun _ _ _ _ _ z=>z.elim)
theorem apm (hj:j<Ds.length) (h:ac1 w K (f.withs Ds) te ρ fun c=>i<ρ.length/\∀ D,ajG w K f (Ds++[D]) ts (ρ.set i (some (.own (f.M.length+Ds.length)))) (cs++[c]) j R):ajG w K f Ds (vZ (qA te (yX i)) ts) ρ cs j R:=fun se σ H H2 E x q =>
 h σ H _ x.env fun c D H1 g1 hn ho ⟨hi,p⟩ =>
  p D (se.more x.env.fd hn) _ H1 H1 E (x.more g1 hn ho hi) fun D' es ρ' cs' σ' H' y h1 h2 r=>by
   rw [aqJ hj] at h1;exact q D' es _ _ σ' H' (x.less g1 hn y) h1 (by rw [asu hj];exact h2) r
theorem apn {es:List PyData} (hi:ρ[i]?=some (some (.own (f.M.length+j)))) (hc:cs[j]?=some (.lst es)) (h:R es):ajG w K f Ds (adq (zR i)) ρ cs j R:=fun se σ H H2 E x q=>by
 have hj:j<Ds.length:=by rw [<-x.len];exact (aqs.mp hc).1
 have hD:Ds[j]?=some Ds[j]:=aqq hj;exact⟨_,jh hi x hD,q _ es ρ cs σ H x hD hc h⟩
theorem apo (h:ac1 w K f te ρ fun c=>i<ρ.length/\∀ D,ajG w K f [D] ts (ρ.set i (some (.own (f.M.length+0)))) [c] 0 R):PSn K f (vZ (qA te (yX i)) ts) ρ R:=fun σ H E e q=>by
 have se0:Sep f []:=⟨arv,(fun _ z=>nomatch z),(fun _ z=>nomatch z)⟩;have x0:CM w K f [] H ρ [] σ H:=⟨e,Same.refl _,fun _ _=>rfl,rfl,(fun i D c z=>nomatch z)⟩;refine h σ H _ e fun c D H1 g1 hn ho ⟨hi,p⟩=>?_;refine p D (se0.more e.fd hn) _ H1 H1 E (x0.more g1 hn ho hi) fun D' es ρ' cs' σ' H' y h1 h2 r=>?_;cases h1;have z:=x0.less g1 hn y;obtain⟨vs,h3,h4⟩:=y.own 0 D _ rfl h2;exact q es D vs H' ⟨z.sm,z.env.fd,z.kp⟩ hn h3 h4 r
end
theorem agn {rows:List (List Int)} {wd:Nat} (g:Good wd rows) {ks:List PyData} (nd:ks.Nodup) (h:∀ d∈ks,∃ p,d=pD p/\inP rows wd p=true):ks.length<=49:=by
 have key:∀ ks:List PyData,(∀ d∈ks,∃ p,d=pD p/\inP rows wd p=true)->∃ l:List Pt,ks=l.map pD/\∀ p∈l,inP rows wd p=true:=fun ks=>by
  induction ks with
  | nil=>exact fun _=>⟨[],rfl,(fun _ z=>nomatch z)⟩
  | cons d ks ih =>
   intro h;obtain⟨p,rfl,hp⟩:=h d (aqv ..);obtain⟨l,rfl,hl⟩:=ih fun e he=>h e (aqw _ he);exact⟨p :: l,rfl,fun q hq=>by
    rcases aqE.mp hq with rfl | hq
    ·exact hp
    ·exact hl q hq⟩
 obtain⟨l,rfl,hl⟩:=key ks h;rw [aqr];exact abw g (ats _ (fun a b z e=>z (by rw [e])) nd) hl
abbrev ap2 (c:List (List Int)×Nat×Int) (xs:List DV):Prop:=xs=[.dat (tab c.1),.dat (.int c.2.2)]/\Good c.2.1 c.1
abbrev ahj (K:aqu):Sp:=spN K 2 ap2 fun c es=>∃ rs,es=rs.map yB/\Regs c.1 c.2.1 c.2.2 rs/\rs.length<=49
theorem am7 (F:Def K mg "regions" aat pz) (uao:mg "set"=none) (uaj:FnIn P w K mg base k "ask_table" pf (ad4 K)) (uak:FnIn P w K mg base k "points" pf (vj K)) (ubp:FnIn P w K mg base k "all_joined" pF (alj K)) (uah:FnIn P w K mg base k "stands_high" pA (abT K)):FnIn P w K mg base (k+1) "regions" pz (ahj K):=by
 refine F.okN sc_regions rfl fun fa cdv A outer s H E hr=>⟨_,(zc (yE (zd uaj hr rfl (za (pv 0) zb))) (zc (zC (i:=2) sc_regions.nd rfl (Or.inl rfl) (z9 zb)) (zc (zC (i:=3) sc_regions.nd rfl (Or.inl rfl) (acI (abc (w:=w) rfl) rfl uao aul)) (zc (yG aq7 rfl (zy (K:=K) rfl (zd uak hr rfl (za (pv 0) zb))) (ze (i:=4) sc_regions.nd rfl (Or.inl rfl) (Or.inr rfl)) (zj (yF (zI (ac4 (w:=w) (K:=K) rfl rfl hr.units) (pv 4) (pv 3) rfl) (zc (zC (i:=5) sc_regions.nd rfl (Or.inl rfl) (zd ubp hr rfl (za (pv 0) (za (pv 1) (za (pv 4) zb))))) (zc (yE (aa4 ark aro arp yT (pv 2) (za (zv (za (v8 (ym (K:=K) rfl (zd uah hr rfl (za (pv 0) (za (pv 1) (za (pv 4) zb)))) (fun _=>rfl)) qT qT) (za (pv 5) zb))) zb))) (zj (yG aq7 rfl (aan (K:=K) rfl (pv 5)) (ze (i:=6) sc_regions.nd rfl (Or.inl rfl) (Or.inr rfl)) (zj (yE (akB (w:=w) rfl atq auw (afM (w:=w) (K:=K) rfl rfl hr.units) (pv 3) (za (pv 6) zb)))))))) zS))) (zj (zu (pv 2))))))),?_⟩;rintro f xs ⟨rows,wd,cut⟩ hl ⟨rfl,g⟩
 try dsimp only [ya,zi]
 dsimp only at *;refine ve (aaR (zq (rows,wd) ?_));walk_at "w";rintro _ rfl;refine apo (w:=w) (jO (anD ⟨show 2<7 by decide,fun D0=>?_⟩));refine apm (show 0<1 by decide) (akC ⟨show 3<7 by decide,fun D1=>?_⟩);refine apl (jK (zV (zq (rows,wd) ?_)));walk_at "w";rintro _ rfl;dsimp only;rw [abv];have pl:(yu rows.length wd).length<=49:=by rw [jl];exact arP g.h2 g.w2
 refine⟨_,rfl,fun i ρ cs=>∃ (u4 u5 u6:Option DV) (rs:List (Bool×List Pt)) (ks:List PyData),ρ=[some (.dat (tab rows)),some (.dat (.int cut)),some (.own (f.M.length+0)),some (.own (f.M.length+1)),u4,u5,u6]/\cs=[.lst (rs.map yB),.set ks]/\Sofar rows wd cut ((yu rows.length wd).take i) rs ks/\rs.length<=i/\ks.Nodup/\∀ d∈ks,∃ p,d=pD p/\inP rows wd p=true,⟨_,_,_,[],[],rfl,rfl,by rw [asU];exact .nil,aqC 0,arv,(fun _ z=>nomatch z)⟩,?_,?_⟩
 ·rintro i d _ _ hd ⟨u4,u5,u6,rs,ks,rfl,rfl,S,rl,kl,kp⟩;rw [aqA] at hd;cases eq:(yu rows.length wd)[i]? with
  | none=>rw [eq] at hd;cases hd
  | some p =>
   rw [eq] at hd;cases hd;have hil:=(aqs.mp eq).1;have ip:inP rows wd p=true:=mem_pts.mp (aqz eq);have tk:(yu rows.length wd).take (i+1)=(yu rows.length wd).take i++[p]:=by rw [arh,eq];rfl
   have sp:yu rows.length wd=(yu rows.length wd).take i++p :: (yu rows.length wd).drop (i+1):=by
    have:=aqs.mp eq;rw [<-this.2,<- atN this.1,asM]
   refine zh (adv (anH (neg:=true) (i:=3) (j:=1) rfl rfl (ju (zk rfl ⟨y7 p,?_⟩))));rw [if_pos rfl];refine z7 (fun h=>?_) fun h=>?_
   ·have hn:pD p∉ks:=by simpa using h
    refine aib (fun ρ cs=>∃ l:List Pt,ρ=[some (.dat (tab rows)),some (.dat (.int cut)),some (.own (f.M.length+0)),some (.own (f.M.length+1)),some (.dat (pD p)),some (.dat (.tuple (l.map pD))),u6]/\cs=[.lst (rs.map yB),.set ks]/\((l.map pD).Pairwise fun d e=>ltD d e=true)/\∀ q,q∈l↔Reach rows wd cut p q) (ac2 (z6 (zq (rows,wd,cut,p) ?_))) ?_
    ·walk_at "w";rintro _ ⟨l,rfl,up,mem⟩;exact zh ⟨l,rfl,rfl,up,mem⟩
    rintro _ _ ⟨l,rfl,rfl,up,mem⟩;have S':=S.more sp hn up mem;rw [<-tk] at S';have nd:l.Nodup:=ats _ (fun a b (z:ltD (pD a) (pD b)=true) e=>by rw [e,qX _ rfl] at z;cases z) up;have ll:l.length<=49:=abw g nd fun q hq=>(((mem q).mp hq).ins ip).1;refine aib (fun ρ cs=>ρ=[some (.dat (tab rows)),some (.dat (.int cut)),some (.own (f.M.length+0)),some (.own (f.M.length+1)),some (.dat (pD p)),some (.dat (.tuple (l.map pD))),u6]/\cs=[.lst ((rs++[(hiP rows cut p,l)]).map yB),.set ks]) (aba (i:=2) (j:=0) rfl rfl (by rw [aqr];omega) (ju (yP (zp (aj3 (y9 (zq (rows,wd,cut,p.1,p.2) ?_)))))))  ?_
    ·walk_at "w";rintro _ rfl;refine⟨_,rfl,z7 (fun h1=>?_) fun h1=>?_⟩
     ·have h1:hiP rows cut p=true:=h1;walk_at "w";rw [h1,aqO];rfl
     ·have h1:hiP rows cut p=false:=h1;walk_at "w";rw [h1,aqO];rfl
    rintro _ _ ⟨rfl,rfl⟩;refine jK (adO (zk rfl ⟨_,rfl,fun j ρ cs=>∃ (u6:Option DV) (ks':List PyData),ρ=[some (.dat (tab rows)),some (.dat (.int cut)),some (.own (f.M.length+0)),some (.own (f.M.length+1)),some (.dat (pD p)),some (.dat (.tuple (l.map pD))),u6]/\cs=[.lst ((rs++[(hiP rows cut p,l)]).map yB),.set ks']/\ks'.Nodup/\(∀ d∈ks',∃ p,d=pD p/\inP rows wd p=true)/\∀ q,pD q∈ks'↔(q∈l.take j \/ pD q∈ks),⟨_,ks,rfl,rfl,kl,kp,fun q=>⟨.inr,fun z=>z.elim (fun z=>by rw [asU] at z;cases z) id⟩⟩,?_,?_⟩))
    ·rintro j d _ _ hd ⟨u6,ks',rfl,rfl,nd',kp',mk⟩;rw [aqA] at hd;cases eq':l[j]? with
     | none=>rw [eq'] at hd;cases hd
     | some q =>
      rw [eq'] at hd;cases hd;have hq:q∈l:=aqz eq';have iq:=(((mem q).mp hq).ins ip).1;have tk':l.take (j+1)=l.take j++[q]:=by rw [arh,eq'];rfl
      have kl':=agn g nd' kp';refine zh (anI (i:=3) (j:=1) rfl rfl (by omega) (ju (zk rfl ⟨y7 q,fun h=>?_,fun h=>?_⟩)))
      ·refine⟨_,ks',rfl,rfl,nd',kp',fun r=>?_⟩;rw [tk',aqK,aqF,mk];constructor
       ·rintro (z | z)
        ·exact .inl (.inl z)
        ·exact .inr z
       ·rintro ((z | z) | z)
        ·exact .inl z
        ·rw [z];exact (mk q).mp h
        ·exact .inr z
      ·refine⟨_,pD q :: ks',rfl,rfl,arq.mpr ⟨h,nd'⟩,fun d hd=>?_,fun r=>?_⟩
       ·rcases aqE.mp hd with rfl | hd
        ·exact⟨q,rfl,iq⟩
        ·exact kp' d hd
       ·rw [tk',aqK,aqF,aqE,mk];constructor
        ·rintro (z | z | z)
         ·exact .inl (.inr (vR z))
         ·exact .inl (.inl z)
         ·exact .inr z
        ·rintro ((z | z) | z)
         ·exact .inr (.inl z)
         ·exact .inl (by rw [z])
         ·exact .inr (.inr z)
    ·rintro _ _ ⟨u6,ks',rfl,rfl,nd',kp',mk⟩;rw [aqr,aq6] at mk;refine⟨_,_,_,rs++[(hiP rows cut p,l)],ks',rfl,rfl,S'.keys fun q=>?_,by rw [aqM,ars];omega,nd',kp'⟩;rw [mk,aqK,mem_pD]
   ·have hm:pD p∈ks:=arC fun z=>by rw [decide_eq_false z] at h;cases h
    refine qY ⟨_,_,_,rs,ks,rfl,rfl,?_,by omega,kl,kp⟩;rw [tk];exact S.skip hm
 ·rintro _ _ ⟨u4,u5,u6,rs,ks,rfl,rfl,S,rl,kl,kp⟩;rw [aqr,aq6] at S;rw [aqr] at rl;exact apn (i:=2) (j:=0) rfl rfl ⟨rs,rfl,S.done,by omega⟩
theorem alk {rows:List (List Int)} {wd:Nat} {cut:Int} {rs:List (Bool×List Pt)} (R:Regs rows wd cut rs) {i j:Nat} {r r':Bool×List Pt} (hi:rs[i]?=some r) (hj:rs[j]?=some r') {p:Pt} (h:p∈r.2) (h':p∈r'.2):i=j:=by
 obtain⟨x,X⟩:=R.reg r (aqz hi);obtain⟨y,Y⟩:=R.reg r' (aqz hj);have e:=ais X Y h h';have nd:rs.Nodup:=R.ord.imp_of_mem fun {a b} ha hb z e=>by
  obtain⟨x,X⟩:=R.reg a ha;have:=z x x X.hd (e▸X.hd);rw [qX _ rfl] at this;cases this
 rw [<-e] at hj;exact (atV (aqs.mp hi).1 nd).mp (hi.trans hj.symm)
theorem vm {k v:PyData} {kvs:List (PyData×PyData)}:(dput k v kvs).map (·.1)=if k∈kvs.map (·.1) then kvs.map (·.1) else kvs.map (·.1)++[k]:=by
 unfold dput;by_cases h:k∈kvs.map (·.1)
 ·rw [if_pos h,if_pos h,arR];refine as1 fun p _=>?_;show (if p.1=k then (p.1,v) else p).1=p.1;split <;> rfl
 ·rw [if_neg h,if_neg h,aqO];rfl
structure Keyed (rows:List (List Int)) (wd:Nat) (kvs:List (PyData×PyData)):Prop where
 nd:(kvs.map (·.1)).Nodup
 pt:∀ d∈kvs.map (·.1),∃ p,d=pD p/\inP rows wd p=true
theorem Keyed.put {rows:List (List Int)} {wd:Nat} {kvs:List (PyData×PyData)} (h:Keyed rows wd kvs) {p:Pt} (ip:inP rows wd p=true) (v:PyData):Keyed rows wd (dput (pD p) v kvs):=by
 by_cases z:pD p∈kvs.map (·.1)
 ·exact⟨by rw [vm,if_pos z];exact h.nd,by rw [vm,if_pos z];exact h.pt⟩
 ·refine⟨?_,?_⟩
  ·rw [vm,if_neg z];exact aru.mpr ⟨h.nd,by simp,fun a ha b hb e=>z (by rw [aqF.mp hb] at e;exact e▸ha)⟩
  ·rw [vm,if_neg z];intro d hd;rcases aqK.mp hd with hd | hd
   ·exact h.pt d hd
   ·rw [aqF.mp hd];exact⟨p,rfl,ip⟩
theorem Keyed.few {rows:List (List Int)} {wd:Nat} {kvs:List (PyData×PyData)} (g:Good wd rows) (h:Keyed rows wd kvs):kvs.length<=49:=by
 have:=agn g h.nd h.pt;rw [aqr] at this;exact this
theorem alm {rows:List (List Int)} {wd:Nat} {cut:Int} {rs:List (Bool×List Pt)} (R:Regs rows wd cut rs) {r:Bool×List Pt} (hr:r∈rs) {p:Pt} (h:p∈r.2):inP rows wd p=true:=by
 obtain⟨x,X⟩:=R.reg r hr;exact (((X.mem p).mp h).ins X.inn).1
def told (rs:List (Bool×List Pt)) (kvs:List (PyData×PyData)):Prop:=∀ (n:Nat) r p,rs[n]?=some r->p∈r.2->jm (pD p) kvs=some (.int n)
noncomputable def ap3 (b:Bool):PyData:=.str (if b=true then "high" else "low")
theorem am8 {rs:List (Bool×List Pt)} {n:Nat} {d:PyData} (h:(aa6 (rs.map yB))[n]?=some d):∃ r,rs[n]?=some r/\d=.tuple [.int n,yB r]:=by
 unfold aa6 at h;rw [ato,aqA] at h;cases e:rs[n]? with
 | none=>rw [e] at h;cases h
 | some r =>
  rw [e] at h;cases h;exact⟨r,rfl,rfl⟩
theorem aln (ds:List PyData):(aa6 ds).length=ds.length:=by
 unfold aa6;simp
abbrev aeb (w:World) (K:aqu):Sp:=spV K 2 ap2 fun c x=>∃ rs kvs,x=.mon (jQ w K kvs)/\Regs c.1 c.2.1 c.2.2 rs/\rs.length<=49/\told rs kvs
theorem ahk (F:Def K mg "indexes" aau pz) (uai:mg "enumerate"=none) (uaF:FnIn P w K mg base k "regions" pz (ahj K)):FnIn P w K mg base (k+1) "indexes" pz (aeb w K):=by
 refine F.okV sc_indexes rfl fun fa cdv A outer s H E hr=>⟨_,(zc (zC (i:=2) sc_indexes.nd rfl (Or.inl rfl) (abQ (w:=w) rfl)) (zc (yG aq7 rfl (acP (K:=K) rfl rfl uai (za (zd uaF hr rfl (za (pv 0) (za (pv 1) zb))) zb)) (zG (K:=K) (n:=2) rfl rfl (zg (ze (i:=3) sc_indexes.nd rfl (Or.inl rfl) (Or.inr rfl)) (zg (zG (K:=K) (n:=2) rfl rfl (zg (ze (i:=4) sc_indexes.nd rfl (Or.inl rfl) (Or.inr rfl)) (zg (ze (i:=5) sc_indexes.nd rfl (Or.inl rfl) (Or.inr rfl)) zD))) zD))) (zj (yG aq7 rfl (aan (K:=K) rfl (pv 5)) (ze (i:=6) sc_indexes.nd rfl (Or.inl rfl) (Or.inr rfl)) (zj (yf (pv 3) (aaP (pv 2) (pv 6) (aaf (w:=w) (K:=K) rfl rfl hr.units))))))) (zj (zu (pv 2))))),?_⟩;rintro f xs ⟨rows,wd,cut⟩ hl ⟨rfl,g⟩
 try dsimp only [ya,zi]
 dsimp only at *;refine aoV (w:=w) (agN ⟨show 2<7 by decide,fun D0=>?_⟩);refine aoT (jK (akb (zp (PEdO.ped (jg (rows,wd,cut) ?_)))));walk_at "w";rintro _ ⟨rs,rfl,R,rl⟩;dsimp only at R;refine zH ⟨_,rfl,fun n ρ cs=>∃ (u3 u4 u5 u6:Option DV) (kvs:List (PyData×PyData)),ρ=[some (.dat (tab rows)),some (.dat (.int cut)),some (.own (f.M.length+0)),u3,u4,u5,u6]/\cs=[.dic kvs]/\Keyed rows wd kvs/\∀ (m:Nat) r p,m<n->rs[m]?=some r->p∈r.2->jm (pD p) kvs=some (.int m),⟨_,_,_,_,[],rfl,rfl,⟨arv,(fun _ z=>nomatch z)⟩,(fun m r p z=>absurd z (arQ _))⟩,?_,?_⟩
 ·rintro n d _ _ hd ⟨u3,u4,u5,u6,kvs,rfl,rfl,ky,tl⟩;obtain⟨r,hrn,rfl⟩:∃ r,rs[n]?=some r/\d=.tuple [.int n,yB r]:=am8 hd;have hm:=aqz hrn;refine yk rfl (zo (zh (zo (yk rfl (zo (zh (zo (zh (zO (zO ?_))))))))));refine jK (adO (zk rfl ⟨_,rfl,fun j ρ cs=>∃ (u6:Option DV) (kvs:List (PyData×PyData)),ρ=[some (.dat (tab rows)),some (.dat (.int cut)),some (.own (f.M.length+0)),some (.dat (.int n)),some (.dat (ap3 r.1)),some (.dat (.tuple (r.2.map pD))),u6]/\cs=[.dic kvs]/\Keyed rows wd kvs/\(∀ (m:Nat) r p,m<n->rs[m]?=some r->p∈r.2->jm (pD p) kvs=some (.int m))/\∀ p∈r.2.take j,jm (pD p) kvs=some (.int n),⟨_,kvs,rfl,rfl,ky,tl,fun p hp=>by rw [asU] at hp;cases hp⟩,?_,?_⟩))
  ·rintro j d _ _ hd ⟨u6,kvs,rfl,rfl,ky,tl,tk⟩;rw [aqA] at hd;cases eq:r.2[j]? with
   | none=>rw [eq] at hd;cases hd
   | some q =>
    rw [eq] at hd;cases hd;have hq:=aqz eq;have few:=ky.few g;refine zh (afN (i:=2) (j:=0) rfl rfl (by omega) (zk rfl (zk rfl ⟨y7 q,?_⟩)));refine⟨_,_,rfl,rfl,ky.put (alm R hm hq) _,fun m r' p hmn hr hp=>?_,fun p hp=>?_⟩
    ·rw [aaX _ (fun z=>?_)]
     ·exact tl m r' p hmn hr hp
     ·have:=alk R hr hrn hp (vR z▸hq);omega
    ·rw [arh,eq] at hp;by_cases e:p=q
     ·rw [e];exact ad2 ..
     ·rw [aaX _ (fun z=>e (vR z))];rcases aqK.mp hp with h | h
      ·exact tk p h
      ·exact absurd (aqF.mp h) e
  ·rintro _ _ ⟨u6,kvs,rfl,rfl,ky,tl,tk⟩;rw [aqr,aq6] at tk;refine⟨_,_,_,_,kvs,rfl,rfl,ky,fun m r' p hmn hr hp=>?_⟩;by_cases e:m=n
   ·subst e;rw [hrn] at hr;cases hr;exact tk p hp
   ·exact tl m r' p (by omega) hr hp
 ·rintro _ _ ⟨u3,u4,u5,u6,kvs,rfl,rfl,ky,tl⟩;refine aoU (i:=2) (j:=0) rfl rfl ⟨kvs,rfl,rs,kvs,rfl,R,rl,fun n r p hr hp=>tl n r p ?_ hr hp⟩;have:=(aqs.mp hr).1;rw [aln,aqr];exact this
noncomputable def gA (i:Fin 4):Fin 4:=match i with
 | 0=>0
 | 1=>0
 | 2=>3
 | 3=>1
noncomputable def gB (i:Fin 4):Fin 4:=match i with
 | 0=>1
 | 1=>3
 | 2=>2
 | 3=>2
noncomputable def abX (A B C D:Bool) (c:Fin 4):Bool:=match c with
 | 0=>A
 | 1=>B
 | 2=>C
 | 3=>D
noncomputable def ago (c d:Fin 4):Bool:=(c.val+d.val) % 2 == 1
noncomputable def jnF (A B C D M:Bool) (c d:Fin 4):Bool:=(abX A B C D c == abX A B C D d) && (ago c d || (c != d && ((opF A B C D 0 && (opF A B C D 1 && (opF A B C D 2 && opF A B C D 3))) && (M == abX A B C D c))))
noncomputable def upF (h A B C D:Bool) (i:Fin 4):Fin 4:=if abX A B C D (gA i)=h then gA i else gB i
theorem alo:∀ (h A B C D M:Bool) (i j:Fin 4),prt (abr A B C D M) i=some j->upF h A B C D i=upF h A B C D j \/ jnF A B C D M (upF h A B C D i) (upF h A B C D j)=true \/ ∃ e,jnF A B C D M (upF h A B C D i) e=true/\jnF A B C D M e (upF h A B C D j)=true:=by decide +kernel
noncomputable def cor (x y:Int) (c:Fin 4):Pt:=match c with
 | 0=>(x,y)
 | 1=>(x+1,y)
 | 2=>(x+1,y+1)
 | 3=>(x,y+1)
theorem aai (x y:Int):∀ c d:Fin 4,ago c d=true->cor x y d∈nbL (cor x y c)
 | 0,1,_ | 1,0,_ | 1,2,_ | 2,1,_ | 2,3,_ | 3,2,_ | 0,3,_ | 3,0,_=>by
  rw [mem_nb];simp [cor]
 | 0,0,h | 0,2,h | 1,1,h | 1,3,h | 2,0,h | 2,2,h | 3,1,h | 3,3,h=>absurd h (by decide)
theorem am9 (x y:Int):∀ c d:Fin 4,ago c d=false->c≠d->cor x y d=asl (cor x y c) (x,y)
 | 0,2,_,_ | 2,0,_,_ | 1,3,_,_ | 3,1,_,_=>by
  unfold asl cor;simp only [Prod.mk.injEq];omega
 | 0,0,_,h | 1,1,_,h | 2,2,_,h | 3,3,_,h=>absurd rfl h
 | 0,1,h,_ | 0,3,h,_ | 1,0,h,_ | 1,2,h,_ | 2,1,h,_ | 2,3,h,_ | 3,0,h,_ | 3,2,h,_=>absurd h (by decide)
theorem apq (x y:Int) (c:Fin 4):(x,y)∈caL (cor x y c):=by
 rw [ca_iff]
 match c with
 | 0=>exact⟨.inl rfl,.inl rfl⟩
 | 1=>exact⟨.inr rfl,.inl rfl⟩
 | 2=>exact⟨.inr rfl,.inr rfl⟩
 | 3=>exact⟨.inl rfl,.inr rfl⟩
section
variable {rows:List (List Int)} {wd:Nat} {cut x y:Int}
noncomputable abbrev ae6 (rows:List (List Int)) (cut x y:Int) (c:Fin 4):Bool:=abX (hiB rows cut x y) (hiB rows cut (x+1) y) (hiB rows cut (x+1) (y+1)) (hiB rows cut x (y+1)) c
theorem qz (c:Fin 4):hiP rows cut (cor x y c)=ae6 rows cut x y c:=by
 match c with
 | 0=>rfl
 | 1=>rfl
 | 2=>rfl
 | 3=>rfl
theorem ahl (h:zK rows wd x y=true) (c:Fin 4):inP rows wd (cor x y c)=true:=by
 obtain⟨i1,i2,i3,i4⟩:=cell_in h
 match c with
 | 0=>exact i1
 | 1=>exact i2
 | 2=>exact i3
 | 3=>exact i4
theorem abx (h:zK rows wd x y=true) {c d:Fin 4} (j:jnF (hiB rows cut x y) (hiB rows cut (x+1) y) (hiB rows cut (x+1) (y+1)) (hiB rows cut x (y+1)) (jw rows cut x y) c d=true):cor x y d∈jq rows wd cut (cor x y c):=by
 unfold jnF at j;rw [aqy] at j;obtain⟨j1,j2⟩:=j;have e:hiP rows cut (cor x y d)=hiP rows cut (cor x y c):=by
  rw [qz,qz];exact (eq_of_beq j1).symm
 cases b:ago c d with
 | true=>exact mem_join.mpr (.inl ⟨aai x y c d b,ahl h d,e⟩)
 | false =>
  rw [b,auG,aqy,aqy] at j2;obtain⟨j3,j4,j5⟩:=j2;refine mem_join.mpr (.inr ⟨(x,y),apq x y c,h,?_,?_,am9 x y c d b (by simpa using j3)⟩)
  ·unfold yR cg opG;simp only [as6,auc,as8];rw [abn h,ada h,abo h,abp h];exact j4
  ·rw [qz];exact eq_of_beq j5
end
noncomputable def hpt (rows:List (List Int)) (cut:Int) (h:Bool) (g:Gt):Pt:=if hiB rows cut g.1 g.2.1=h then (g.1,g.2.1) else (px g.1 g.2.2,py g.2.1 g.2.2)
section
variable {rows:List (List Int)} {wd:Nat} {cut:Int} {h:Bool}
theorem alp (x y:Int) (i:Fin 4):hpt rows cut h (gt x y i)=cor x y (upF h (hiB rows cut x y) (hiB rows cut (x+1) y) (hiB rows cut (x+1) (y+1)) (hiB rows cut x (y+1)) i):=by
 unfold hpt upF
 match i with
 | 0 =>
  show (if hiB rows cut x y=h then (x,y) else (x+1,y))=cor x y (if hiB rows cut x y=h then 0 else 1);split <;> rfl
 | 1 =>
  show (if hiB rows cut x y=h then (x,y) else (x,y+1))=cor x y (if hiB rows cut x y=h then 0 else 3);split <;> rfl
 | 2 =>
  show (if hiB rows cut x (y+1)=h then (x,y+1) else (x+1,y+1))=cor x y (if hiB rows cut x (y+1)=h then 3 else 2);split <;> rfl
 | 3 =>
  show (if hiB rows cut (x+1) y=h then (x+1,y) else (x+1,y+1))=cor x y (if hiB rows cut (x+1) y=h then 1 else 2);split <;> rfl
theorem ahm {g n:Gt} (o:opG rows wd cut g=true) (hn:yn rows wd cut g=some n):Reach rows wd cut (hpt rows cut h g) (hpt rows cut h n):=by
 unfold yn at hn;by_cases c:zK rows wd (ahC rows cut g).1 (ahC rows cut g).2=true
 ·rw [if_pos c] at hn;obtain⟨i,ei⟩:=agb (rows:=rows) (cut:=cut) g (aa0 o);generalize (ahC rows cut g).1=x at *;generalize (ahC rows cut g).2=y at *;subst ei;unfold q9 t4 at hn;rw [ae1 (fun _ _=>ade)] at hn;cases hj:prt (abr (hiB rows cut x y) (hiB rows cut (x+1) y) (hiB rows cut (x+1) (y+1)) (hiB rows cut x (y+1)) (jw rows cut x y)) i with
  | none=>rw [hj] at hn;cases hn
  | some j =>
   rw [hj] at hn;cases hn;rw [alp,alp];rcases alo h _ _ _ _ _ i j hj with e | e | ⟨d,e1,e2⟩
   ·rw [e];exact .refl
   ·exact Reach.refl.step (abx c e)
   ·exact (Reach.refl.step (abx c e1)).step (abx c e2)
 ·rw [if_neg c] at hn;cases hn
theorem abY {g:Gt} (o:opG rows wd cut g=true):inP rows wd (hpt rows cut h g)=true/\hiP rows cut (hpt rows cut h g)=h:=by
 unfold opG yK vh at o;rw [aqy,aqy,aqy] at o;obtain⟨⟨_,i1,i2⟩,ne⟩:=o;unfold hpt;by_cases e:hiB rows cut g.1 g.2.1=h
 ·rw [if_pos e];exact⟨i1,e⟩
 ·rw [if_neg e];refine⟨i2,?_⟩;have ne':(hiB rows cut g.1 g.2.1 != hiB rows cut (px g.1 g.2.2) (py g.2.1 g.2.2))=true:=ne;show hiB rows cut (px g.1 g.2.2) (py g.2.1 g.2.2)=h
  revert e ne'
  cases hiB rows cut g.1 g.2.1 <;> cases hiB rows cut (px g.1 g.2.2) (py g.2.1 g.2.2) <;> cases h <;> decide
theorem adj {q:Bool} {l:List Gt} (L:LineOk rows wd cut q l) {g0:Gt} (h0:l.head?=some g0):∀ (i:Nat) g,l[i]?=some g->Reach rows wd cut (hpt rows cut h g0) (hpt rows cut h g):=by
 intro i
 induction i with
 | zero =>
  intro g hg;rw [arw,hg] at h0;cases h0;exact .refl
 | succ i ih =>
  intro g hg;have hlt:=(aqs.mp hg).1;have a1:l[i]?=some l[i]:=aqq (by omega);exact (ih _ a1).trans (ahm (L.op _ (aqz a1)) (L.ch i _ _ a1 hg))
end
section
variable {rows:List (List Int)} {wd:Nat} {c c':Int} {b:Bool}
theorem aby {cut u v:Int} (cc:zK rows wd u v=true) (h1:hiB rows cut (u+1) v=!hiB rows cut u v) (h2:hiB rows cut u (v+1)=!hiB rows cut u v) (h3:hiB rows cut (u+1) (v+1)=hiB rows cut u v):yR rows wd cut u v=true:=by
 unfold yR cg opG;simp only [as6,auc];rw [abn cc,ada cc,abo cc,abp cc,h1,h2,h3];cases hiB rows cut u v <;> rfl
theorem join_mono (hm:∀ p:Pt,hiP rows c p=b->hiP rows c' p=b) (mm:∀ u v,jw rows c u v=b->jw rows c' u v=b) {p q:Pt} (hp:hiP rows c p=b) (h:q∈jq rows wd c p):Reach rows wd c' p q:=by
 have hq:hiP rows c q=b:=(aaA h).2.trans hp;have hp':=hm p hp;have hq':=hm q hq;rcases mem_join.mp h with⟨h1,h2,_⟩ | ⟨⟨u,v⟩,h1,h2,h3,h4,rfl⟩
 ·exact Reach.refl.step (mem_join.mpr (.inl ⟨h1,h2,hq'.trans hp'.symm⟩))
 ·have cc:zK rows wd u v=true:=h2;obtain⟨k1,k2,k3⟩:=agk cc h3;obtain⟨i1,i2,i3,i4⟩:=cell_in cc;have mid:jw rows c' u v=b:=mm u v (h4.trans hp);rw [ca_iff] at h1;dsimp only at h1
  -- by way of a third corner that stands as they do,or across
  have via:∀ s:Pt,s∈nbL p->asl p (u,v)∈nbL s->inP rows wd s=true->hiP rows c' s=b->Reach rows wd c' p (asl p (u,v)):=fun s n1 n2 is hs =>
   (Reach.refl.step (mem_join.mpr (.inl ⟨n1,is,hs.trans hp'.symm⟩))).step (mem_join.mpr (.inl ⟨n2,(aaA h).1,hq'.trans hs.symm⟩))
  obtain⟨x,y⟩:=p;dsimp only at h1;have e1:asl (x,y) (u,v)=(2 * u+1 - x,2 * v+1 - y):=rfl;by_cases s1:hiP rows c' (2 * u+1 - x,y)=b
  ·refine via (2 * u+1 - x,y) ?_ ?_ ?_ s1
   ·rcases h1.1 with e | e
    ·exact mem_nb.mpr (.inr (.inr (.inr (ash (by dsimp only;omega) rfl))))
    ·exact mem_nb.mpr (.inl (ash (by dsimp only;omega) rfl))
   ·rcases h1.2 with e | e
    ·exact mem_nb.mpr (.inr (.inr (.inl (ash rfl (by rw [e1];dsimp only;omega)))))
    ·exact mem_nb.mpr (.inr (.inl (ash rfl (by rw [e1];dsimp only;omega))))
   ·unfold inP;rcases h1 with⟨rfl | rfl,rfl | rfl⟩
    ·rw [show 2 * x+1 - x=x+1 by omega];exact i2
    ·rw [show 2 * x+1 - x=x+1 by omega];exact i3
    ·rw [show 2 * u+1 - (u+1)=u by omega];exact i1
    ·rw [show 2 * u+1 - (u+1)=u by omega];exact i4
  ·by_cases s2:hiP rows c' (x,2 * v+1 - y)=b
   ·refine via (x,2 * v+1 - y) ?_ ?_ ?_ s2
    ·rcases h1.2 with e | e
     ·exact mem_nb.mpr (.inr (.inr (.inl (ash rfl (by dsimp only;omega)))))
     ·exact mem_nb.mpr (.inr (.inl (ash rfl (by dsimp only;omega))))
    ·rcases h1.1 with e | e
     ·exact mem_nb.mpr (.inr (.inr (.inr (ash (by rw [e1];dsimp only;omega) rfl))))
     ·exact mem_nb.mpr (.inl (ash (by rw [e1];dsimp only;omega) rfl))
    ·unfold inP;rcases h1 with⟨rfl | rfl,rfl | rfl⟩
     ·rw [show 2 * y+1 - y=y+1 by omega];exact i4
     ·rw [show 2 * v+1 - (v+1)=v by omega];exact i1
     ·rw [show 2 * y+1 - y=y+1 by omega];exact i3
     ·rw [show 2 * v+1 - (v+1)=v by omega];exact i2
   ·refine Reach.refl.step (mem_join.mpr (.inr ⟨(u,v),ca_iff.mpr h1,cc,?_,mid.trans hp'.symm,rfl⟩));have n1:hiP rows c' (2 * u+1 - x,y)=!b:=by cases z:hiP rows c' (2 * u+1 - x,y) <;> cases b <;> simp_all
    have n2:hiP rows c' (x,2 * v+1 - y)=!b:=by cases z:hiP rows c' (x,2 * v+1 - y) <;> cases b <;> simp_all
    rw [e1] at hq';unfold hiP at n1 n2 hp' hq';dsimp only at n1 n2 hp' hq';rcases h1 with⟨rfl | rfl,rfl | rfl⟩
    ·rw [show 2 * x+1 - x=x+1 by omega] at n1 hq';rw [show 2 * y+1 - y=y+1 by omega] at n2 hq';exact aby cc (by rw [n1,hp']) (by rw [n2,hp']) (by rw [hq',hp'])
    ·rw [show 2 * x+1 - x=x+1 by omega] at n1 hq';rw [show 2 * v+1 - (v+1)=v by omega] at n2 hq';exact aby cc (by rw [n2,hq'];simp) (by rw [n2,hp'];simp) (by rw [n1,n2])
    ·rw [show 2 * u+1 - (u+1)=u by omega] at n1 hq';rw [show 2 * y+1 - y=y+1 by omega] at n2 hq';exact aby cc (by rw [n1,hp'];simp) (by rw [n1,hq'];simp) (by rw [n1,n2])
    ·rw [show 2 * u+1 - (u+1)=u by omega] at n1 hq';rw [show 2 * v+1 - (v+1)=v by omega] at n2 hq';exact aby cc (by rw [n2,hq']) (by rw [n1,hq']) (by rw [hq',hp'])
theorem adk (hm:∀ p:Pt,hiP rows c p=b->hiP rows c' p=b) (mm:∀ u v,jw rows c u v=b->jw rows c' u v=b) {p q:Pt} (hp:hiP rows c p=b) (h:Reach rows wd c p q):Reach rows wd c' p q:=by
 have key:Reach rows wd c' p q/\hiP rows c q=b:=by
  induction h with
  | refl=>exact⟨.refl,hp⟩
  | step _ hq ih=>exact⟨ih.1.trans (join_mono hm mm ih.2 hq),(aaA hq).2.trans ih.2⟩
 exact key.1
theorem ahn (le:c'<=c) {p q:Pt} (hp:hiP rows c p=true) (h:Reach rows wd c p q):Reach rows wd c' p q/\hiP rows c' p=true:=by
 have hm:∀ p:Pt,hiP rows c p=true->hiP rows c' p=true:=fun p z=>by
  unfold hiP hiB at z ⊢;exact decide_eq_true (by have:=of_decide_eq_true z;omega)
 refine⟨adk hm (fun u v z=>?_) hp h,hm p hp⟩;unfold jw at z ⊢;exact decide_eq_true (by have:=of_decide_eq_true z;omega)
theorem ajH (le:c<=c') {p q:Pt} (hp:hiP rows c p=false) (h:Reach rows wd c p q):Reach rows wd c' p q/\hiP rows c' p=false:=by
 have hm:∀ p:Pt,hiP rows c p=false->hiP rows c' p=false:=fun p z=>by
  unfold hiP hiB at z ⊢;exact decide_eq_false (by have:=of_decide_eq_false z;omega)
 refine⟨adk hm (fun u v z=>?_) hp h,hm p hp⟩;unfold jw at z ⊢;exact decide_eq_false (by have:=of_decide_eq_false z;omega)
end
noncomputable def ixR (rs:List (Bool×List Pt)) (p:Pt):Nat:=rs.findIdx fun r=>decide (p∈r.2)
theorem aiu {rows:List (List Int)} {wd:Nat} {cut:Int} {rs:List (Bool×List Pt)} (R:Regs rows wd cut rs) {p:Pt} (ip:inP rows wd p=true):∃ rr,rs[ixR rs p]?=some rr/\p∈rr.2:=by
 obtain⟨r,hr,hp⟩:=R.all p ip;have hlt:ixR rs p<rs.length:=List.findIdx_lt_length_of_exists ⟨r,hr,decide_eq_true hp⟩;exact⟨_,aqq hlt,of_decide_eq_true (List.findIdx_getElem (w:=hlt))⟩
noncomputable def hdG (t:Bool×List Gt):Gt:=t.2.headD (0,0,0)
theorem aiv {rows:List (List Int)} {wd:Nat} {cut:Int} {q:Bool} {l:List Gt} (L:LineOk rows wd cut q l):l.head?=some (hdG (q,l)):=by
 cases l with
 | nil=>exact absurd rfl L.ne
 | cons a l=>rfl
theorem anP:∀ i:_root_.Fin 4,ago i (i+1)=true:=by decide
theorem anQ:∀ i:_root_.Fin 4,ago (i+1) (i+2)=true:=by decide
theorem anR:∀ i:_root_.Fin 4,ago (i+2) (i+3)=true:=by decide
theorem ap4:∀ i:_root_.Fin 4,ago (i+3) i=true:=by decide
theorem anS:∀ i:_root_.Fin 4,i+1+1=i+2:=by decide
theorem ap5:∀ i:_root_.Fin 4,i+1+2=i+3:=by decide
theorem ap6:∀ i:_root_.Fin 4,i+1+3=i:=by decide
theorem ap7:∀ (A B C D:Bool) (i:_root_.Fin 4),abX A B C D i=true->abX A B C D (i+2)=true->abX A B C D (i+1)=false->abX A B C D (i+3)=false->jnF A B C D true i (i+2)=true:=by decide
theorem ap8:∀ (A B C D:Bool) (i:_root_.Fin 4),abX A B C D i=true->abX A B C D (i+2)=true->abX A B C D (i+1)=false->abX A B C D (i+3)=false->jnF A B C D false (i+1) (i+3)=true:=by decide
theorem abz {α:Type} {f g:α->Bool}:∀ {l:List α},(∀ x∈l,f x=g x)->l.findIdx f=l.findIdx g
 | [],_=>rfl
 | a :: l,h=>by
  rw [List.findIdx_cons,List.findIdx_cons,h a aqv,abz fun x hx=>h x (aqw _ hx)]
section
variable {rows:List (List Int)} {wd:Nat} {cut:Int} {rs:List (Bool×List Pt)}
theorem vn (R:Regs rows wd cut rs) {p q:Pt} (ip:inP rows wd p=true) (h:Reach rows wd cut p q):ixR rs p=ixR rs q:=by
 unfold ixR;refine abz fun r hr=>decide_eq_decide.mpr ?_;obtain⟨h0,X⟩:=R.reg r hr;rw [X.mem,X.mem];exact⟨fun z=>z.trans h,fun z=>z.trans (h.symm ip)⟩
theorem vS (R:Regs rows wd cut rs) {p:Pt} (ip:inP rows wd p=true) {i:Nat} {r:Bool×List Pt} (hi:rs[i]?=some r):p∈r.2↔ixR rs p=i:=by
 obtain⟨rr,h1,h2⟩:=aiu R ip;constructor
 ·intro h;exact alk R h1 hi h2 h
 ·intro h;rw [h,hi] at h1;cases h1;exact h2
theorem anT (R:Regs rows wd cut rs) {p:Pt} (ip:inP rows wd p=true):ixR rs p<rs.length:=by
 obtain⟨rr,h1,_⟩:=aiu R ip;exact (aqs.mp h1).1
end
abbrev Key:=Nat×Nat
noncomputable def hgt (rows:List (List Int)) (p:Pt):Int:=zQ rows p.1 p.2
structure Two (rows:List (List Int)) (wd:Nat) (h:Int) (rl ru:List (Bool×List Pt)):Prop where
 lo:Regs rows wd (h - 1) rl
 up:Regs rows wd h ru
section
variable {rows:List (List Int)} {wd:Nat} {h:Int} {rl ru:List (Bool×List Pt)}
theorem hi_lo {p:Pt}:hiP rows (h - 1) p=true↔h<=hgt rows p:=by
 unfold hiP hiB hgt;rw [decide_eq_true_iff];omega
theorem hi_up {p:Pt}:hiP rows h p=false↔hgt rows p<=h:=by
 unfold hiP hiB hgt;rw [decide_eq_false_iff_not];omega
theorem Two.adjL (T:Two rows wd h rl ru) {p q:Pt} (ip:inP rows wd p=true) (iq:inP rows wd q=true) (n:q∈nbL p) (a:h<=hgt rows p) (b:h<=hgt rows q):ixR rl p=ixR rl q :=
 vn T.lo ip (Reach.refl.step (mem_join.mpr (.inl ⟨n,iq,(hi_lo.mpr b).trans (hi_lo.mpr a).symm⟩)))
theorem Two.adjU (T:Two rows wd h rl ru) {p q:Pt} (ip:inP rows wd p=true) (iq:inP rows wd q=true) (n:q∈nbL p) (a:hgt rows p<=h) (b:hgt rows q<=h):ixR ru p=ixR ru q :=
 vn T.up ip (Reach.refl.step (mem_join.mpr (.inl ⟨n,iq,(hi_up.mpr b).trans (hi_up.mpr a).symm⟩)))
def aec (rows:List (List Int)) (h:Int) (rl ru:List (Bool×List Pt)) (p q:Pt) (k:Key):Prop:=h<=hgt rows p/\hgt rows q<=h/\k=(ixR rl p,ixR ru q)
def EdgeK (rows:List (List Int)) (h:Int) (rl ru:List (Bool×List Pt)) (p q:Pt) (k:Key):Prop:=aec rows h rl ru p q k \/ aec rows h rl ru q p k
def jI (rows:List (List Int)) (wd:Nat) (h:Int) (rl ru:List (Bool×List Pt)) (k:Key):Prop:=∃ p q,inP rows wd p=true/\inP rows wd q=true/\(q∈nbL p \/ q=p)/\aec rows h rl ru p q k
theorem EdgeK.one (T:Two rows wd h rl ru) {p q:Pt} (ip:inP rows wd p=true) (iq:inP rows wd q=true) (n:q∈nbL p) {k k':Key} (a:EdgeK rows h rl ru p q k) (b:EdgeK rows h rl ru p q k'):k=k':=by
 rcases a with⟨a1,a2,rfl⟩ | ⟨a1,a2,rfl⟩ <;> rcases b with⟨b1,b2,rfl⟩ | ⟨b1,b2,rfl⟩
 ·rfl
 ·rw [T.adjL ip iq n a1 b1,T.adjU ip iq n b2 a2]
 ·rw [T.adjL ip iq n b1 a1,T.adjU ip iq n a2 b2]
 ·rfl
theorem diag (T:Two rows wd h rl ru) {x y:Int} (c:zK rows wd x y=true) (i:_root_.Fin 4) (a:h<=hgt rows (cor x y i)) (a':h<=hgt rows (cor x y (i+2))) (b:hgt rows (cor x y (i+1))<=h) (b':hgt rows (cor x y (i+3))<=h) :
  ixR rl (cor x y i)=ixR rl (cor x y (i+2)) \/ ixR ru (cor x y (i+1))=ixR ru (cor x y (i+3)):=by
 have inn:=ahl c;have n0:=aai x y i (i+1) (anP i);have n1:=aai x y (i+1) (i+2) (anQ i);have n2:=aai x y (i+2) (i+3) (anR i);have n3:=aai x y (i+3) i (ap4 i);by_cases e1:h<=hgt rows (cor x y (i+1))
 ·exact .inl ((T.adjL (inn _) (inn _) n0 a e1).trans (T.adjL (inn _) (inn _) n1 e1 a'))
 by_cases e2:h<=hgt rows (cor x y (i+3))
 ·exact .inl ((T.adjL (inn _) (inn _) n3 e2 a).symm.trans (T.adjL (inn _) (inn _) (abu n2) e2 a'))
 by_cases e3:hgt rows (cor x y i)<=h
 ·exact .inr ((T.adjU (inn _) (inn _) n0 e3 b).symm.trans (T.adjU (inn _) (inn _) (abu n3) e3 b'))
 by_cases e4:hgt rows (cor x y (i+2))<=h
 ·exact .inr ((T.adjU (inn _) (inn _) n1 b e4).trans (T.adjU (inn _) (inn _) n2 e4 b'))
 by_cases mid:jw rows (h - 1) x y=true
 ·refine .inl (vn T.lo (inn _) (Reach.refl.step (abx c ?_)));have k0:ae6 rows (h - 1) x y i=true:=by rw [<-qz];exact hi_lo.mpr a
  have k2:ae6 rows (h - 1) x y (i+2)=true:=by rw [<-qz];exact hi_lo.mpr a'
  have k1:ae6 rows (h - 1) x y (i+1)=false:=by rw [<-qz];exact hi_up.mpr (by omega)
  have k3:ae6 rows (h - 1) x y (i+3)=false:=by rw [<-qz];exact hi_up.mpr (by omega)
  rw [mid];exact ap7 _ _ _ _ i k0 k2 k1 k3
 ·refine .inr (vn T.up (inn _) (Reach.refl.step (abx c ?_)));have k0:ae6 rows h x y i=true:=by rw [<-qz];cases e:hiP rows h (cor x y i) with | true=>rfl | false=>exact absurd (hi_up.mp e) e3
  have k2:ae6 rows h x y (i+2)=true:=by rw [<-qz];cases e:hiP rows h (cor x y (i+2)) with | true=>rfl | false=>exact absurd (hi_up.mp e) e4
  have k1:ae6 rows h x y (i+1)=false:=by rw [<-qz];exact hi_up.mpr b
  have k3:ae6 rows h x y (i+3)=false:=by rw [<-qz];exact hi_up.mpr b'
  have mid':jw rows h x y=false:=by
   unfold jw at mid ⊢;rw [decide_eq_true_iff] at mid;exact decide_eq_false (by omega)
  rw [mid'];exact ap8 _ _ _ _ i k0 k2 k1 k3
theorem three (T:Two rows wd h rl ru) {x y:Int} (c:zK rows wd x y=true) (i:_root_.Fin 4) {k1 k2 k3:Key} (a:EdgeK rows h rl ru (cor x y i) (cor x y (i+1)) k1) (b:EdgeK rows h rl ru (cor x y (i+1)) (cor x y (i+2)) k2) (d:EdgeK rows h rl ru (cor x y (i+2)) (cor x y (i+3)) k3):k1=k2 \/ k2=k3:=by
 have inn:=ahl c;have n1:=aai x y i (i+1) (anP i);have n2:=aai x y (i+1) (i+2) (anQ i);have n3:=aai x y (i+2) (i+3) (anR i);have dg:=diag T c i;have dg2:=diag T c (i+1);rw [anS,ap5,ap6] at dg2;rcases a with⟨a1,a2,rfl⟩ | ⟨a1,a2,rfl⟩ <;> rcases b with⟨b1,b2,rfl⟩ | ⟨b1,b2,rfl⟩
 ·exact .inl (by rw [T.adjL (inn _) (inn _) n1 a1 b1,T.adjU (inn _) (inn _) n2 a2 b2])
 ·rcases d with⟨d1,d2,rfl⟩ | ⟨d1,d2,rfl⟩
  ·rcases dg a1 d1 a2 d2 with e | e
   ·exact .inl (by rw [e])
   ·exact .inr (by rw [e])
  ·exact .inr (by rw [T.adjU (inn _) (inn _) n2 b2 d2,T.adjL (inn _) (inn _) n3 b1 d1])
 ·rcases d with⟨d1,d2,rfl⟩ | ⟨d1,d2,rfl⟩
  ·exact .inr (by rw [T.adjL (inn _) (inn _) n2 b1 d1,T.adjU (inn _) (inn _) n3 b2 d2])
  ·rcases dg2 b1 d1 b2 a2 with e | e
   ·exact .inr (by rw [e])
   ·exact .inl (by rw [e])
 ·exact .inl (by rw [T.adjL (inn _) (inn _) n2 a1 b1,T.adjU (inn _) (inn _) n1 a2 b2])
end
section
variable {rows:List (List Int)} {wd:Nat} {h:Int} {rl ru:List (Bool×List Pt)}
def vo (rows:List (List Int)) (h:Int) (rl ru:List (Bool×List Pt)) (g:Gt) (k:Key):Prop:=EdgeK rows h rl ru (g.1,g.2.1) (px g.1 g.2.2,py g.2.1 g.2.2) k
theorem EdgeK.symm {p q:Pt} {k:Key} (a:EdgeK rows h rl ru p q k):EdgeK rows h rl ru q p k:=Or.symm a
theorem aiw {x y v:Int} (hv:v=0 \/ v=1):((px x v,py y v):Pt)∈nbL (x,y):=by
 rw [mem_nb];rcases hv with rfl | rfl
 ·exact .inr (.inr (.inr rfl))
 ·exact .inr (.inr (.inl rfl))
def qS (rows:List (List Int)) (wd:Nat) (g:Gt):Prop:=(g.2.2=0 \/ g.2.2=1)/\inP rows wd (g.1,g.2.1)=true/\inP rows wd (px g.1 g.2.2,py g.2.1 g.2.2)=true
theorem ana {p q:Pt} (ip:inP rows wd p=true) (iq:inP rows wd q=true) (n:q∈nbL p):∃ g:Gt,qS rows wd g/\((p=(g.1,g.2.1)/\q=(px g.1 g.2.2,py g.2.1 g.2.2)) \/ (q=(g.1,g.2.1)/\p=(px g.1 g.2.2,py g.2.1 g.2.2))):=by
 obtain⟨x,y⟩:=p;rcases mem_nb.mp n with rfl | rfl | rfl | rfl
 ·have e:(px (x - 1) 0,py y 0)=(x,y):=by unfold px py;rw [if_pos rfl,if_pos rfl];exact ash (by dsimp only;omega) rfl
  exact⟨(x - 1,y,0),⟨.inl rfl,iq,by show inP rows wd (px (x - 1) 0,py y 0)=true;rw [e];exact ip⟩,.inr ⟨rfl,e.symm⟩⟩
 ·have e:(px x 1,py (y - 1) 1)=(x,y):=by unfold px py;rw [if_neg (by decide),if_neg (by decide)];exact ash rfl (by dsimp only;omega)
  exact⟨(x,y - 1,1),⟨.inr rfl,iq,by show inP rows wd (px x 1,py (y - 1) 1)=true;rw [e];exact ip⟩,.inr ⟨rfl,e.symm⟩⟩
 ·exact⟨(x,y,1),⟨.inr rfl,ip,iq⟩,.inl ⟨rfl,rfl⟩⟩
 ·exact⟨(x,y,0),⟨.inl rfl,ip,iq⟩,.inl ⟨rfl,rfl⟩⟩
theorem anb (g:Good wd rows) {p:Pt} (ip:inP rows wd p=true):∃ q,inP rows wd q=true/\q∈nbL p:=by
 have hw:=g.w1;obtain⟨x,y⟩:=p;have ip':zZ rows wd x y=true:=ip;unfold zZ at ip';rw [aqy,decide_eq_true_iff,decide_eq_true_iff] at ip';by_cases e:x+1<wd
 ·refine⟨(x+1,y),?_,mem_nb.mpr (.inr (.inr (.inr rfl)))⟩;show zZ rows wd (x+1) y=true;unfold zZ;rw [aqy,decide_eq_true_iff,decide_eq_true_iff];omega
 ·refine⟨(x - 1,y),?_,mem_nb.mpr (.inl rfl)⟩;show zZ rows wd (x - 1) y=true;unfold zZ;rw [aqy,decide_eq_true_iff,decide_eq_true_iff];omega
theorem aix (g:Good wd rows) (T:Two rows wd h rl ru) {k:Key} (m:jI rows wd h rl ru k):∃ e:Gt,qS rows wd e/\vo rows h rl ru e k:=by
 obtain⟨p,q,ip,iq,n,a,b,rfl⟩:=m;have fin:∀ {p q:Pt} {k:Key},inP rows wd p=true->inP rows wd q=true->q∈nbL p->aec rows h rl ru p q k->∃ e:Gt,qS rows wd e/\vo rows h rl ru e k:=fun ip iq n pe=>by
  obtain⟨e,he,⟨e1,e2⟩ | ⟨e1,e2⟩⟩:=ana ip iq n
  ·exact⟨e,he,.inl (by rw [<-e1,<- e2];exact pe)⟩
  ·exact⟨e,he,.inr (by rw [<-e1,<- e2];exact pe)⟩
 rcases n with n | rfl
 ·exact fin ip iq n ⟨a,b,rfl⟩
 ·obtain⟨r,ir,nr⟩:=anb g ip;by_cases e:hgt rows r<=h
  ·exact fin ip ir nr ⟨a,e,by rw [T.adjU ip ir nr b e]⟩
  ·exact fin ir ip (abu nr) ⟨by omega,b,by rw [T.adjL ip ir nr a (by omega)]⟩
noncomputable def bk (g:Gt):Pt:=if (g.1+g.2.1) % 2=0 then (g.1,g.2.1) else if g.2.2=0 then (g.1,g.2.1 - 1) else (g.1 - 1,g.2.1)
theorem ap9 {g:Gt} (hv:g.2.2=0 \/ g.2.2=1):∃ j:_root_.Fin 4,g=gt (bk g).1 (bk g).2 j:=by
 obtain⟨x,y,v⟩:=g;unfold bk;dsimp only at *;by_cases e:(x+y) % 2=0
 ·rw [if_pos e];rcases hv with rfl | rfl
  ·exact⟨0,rfl⟩
  ·exact⟨1,rfl⟩
 ·rw [if_neg e];rcases hv with rfl | rfl
  ·rw [if_pos rfl];exact⟨2,by show (x,y,0)=(x,y - 1+1,0);rw [Int.sub_add_cancel]⟩
  ·rw [if_neg (by decide)];exact⟨3,by show (x,y,1)=(x - 1+1,y,1);rw [Int.sub_add_cancel]⟩
theorem ends (x y:Int) (j:_root_.Fin 4):let g:=gt x y (0 - j);((g.1,g.2.1)=cor x y j/\(px g.1 g.2.2,py g.2.1 g.2.2)=cor x y (j+1)) \/ ((g.1,g.2.1)=cor x y (j+1)/\(px g.1 g.2.2,py g.2.1 g.2.2)=cor x y j):=by
 match j with
 | 0=>exact .inl ⟨rfl,rfl⟩
 | 1=>exact .inl ⟨rfl,rfl⟩
 | 2=>exact .inr ⟨rfl,rfl⟩
 | 3=>exact .inr ⟨rfl,rfl⟩
theorem aqa:∀ a b c:_root_.Fin 4,a≠b->b≠c->a≠c->∃ j:_root_.Fin 4,(0 - j=a \/ 0 - j=b \/ 0 - j=c)/\(0 - (j+1)=a \/ 0 - (j+1)=b \/ 0 - (j+1)=c)/\(0 - (j+2)=a \/ 0 - (j+2)=b \/ 0 - (j+2)=c):=by decide
theorem aqb:∀ j:_root_.Fin 4,j+2+1=j+3:=by decide
theorem aqp:∀ j:_root_.Fin 4,0 - j≠0 - (j+1)/\0 - (j+1)≠0 - (j+2):=by decide
theorem ae7 {x y:Int} {j:_root_.Fin 4} {k:Key} (hg:qS rows wd (gt x y (0 - j))) (a:vo rows h rl ru (gt x y (0 - j)) k):EdgeK rows h rl ru (cor x y j) (cor x y (j+1)) k/\inP rows wd (cor x y j)=true/\inP rows wd (cor x y (j+1))=true:=by
 obtain⟨_,i1,i2⟩:=hg;unfold vo at a;rcases ends x y j with⟨e1,e2⟩ | ⟨e1,e2⟩
 ·rw [e1] at i1 a;rw [e2] at i2 a;exact⟨a,i1,i2⟩
 ·rw [e1] at i1 a;rw [e2] at i2 a;exact⟨a.symm,i2,i1⟩
theorem aiy:∀ j:_root_.Fin 4,(j=0 \/ j+1=0 \/ j+2=0 \/ j+3=0)/\(j=2 \/ j+1=2 \/ j+2=2 \/ j+3=2):=by decide
theorem no3 (T:Two rows wd h rl ru) {x y:Int} {a b c:_root_.Fin 4} (ab:a≠b) (bc:b≠c) (ac:a≠c) {ka kb kc:Key} (ga:qS rows wd (gt x y a)) (gb:qS rows wd (gt x y b)) (gc:qS rows wd (gt x y c))
  (ea:vo rows h rl ru (gt x y a) ka) (eb:vo rows h rl ru (gt x y b) kb) (ec:vo rows h rl ru (gt x y c) kc) (nab:ka≠kb) (nbc:kb≠kc) (nac:ka≠kc):False:=by
 obtain⟨j,j0,j1,j2⟩:=aqa a b c ab bc ac;have hk:∀ t,(t=a \/ t=b \/ t=c)->∃ k,qS rows wd (gt x y t)/\vo rows h rl ru (gt x y t) k/\((t=a/\k=ka) \/ (t=b/\k=kb) \/ (t=c/\k=kc)):=fun t ht=>by
  rcases ht with rfl | rfl | rfl
  ·exact⟨ka,ga,ea,.inl ⟨rfl,rfl⟩⟩
  ·exact⟨kb,gb,eb,.inr (.inl ⟨rfl,rfl⟩)⟩
  ·exact⟨kc,gc,ec,.inr (.inr ⟨rfl,rfl⟩)⟩
 obtain⟨k1,g1,e1,w1⟩:=hk _ j0;obtain⟨k2,g2,e2,w2⟩:=hk _ j1;obtain⟨k3,g3,e3,w3⟩:=hk _ j2;obtain⟨f1,i1,i2⟩:=ae7 g1 e1;obtain⟨f2,_,i3⟩:=ae7 g2 e2;obtain⟨f3,_,i4⟩:=ae7 g3 e3;rw [anS] at f2 i3;rw [aqb] at f3 i4;have cell:zK rows wd x y=true:=by
  have at':∀ t:_root_.Fin 4,(j=t \/ j+1=t \/ j+2=t \/ j+3=t)->inP rows wd (cor x y t)=true:=fun t ht=>by
   rcases ht with rfl | rfl | rfl | rfl
   ·exact i1
   ·exact i2
   ·exact i3
   ·exact i4
  have c0:zZ rows wd x y=true:=at' 0 (aiy j).1;have c2:zZ rows wd (x+1) (y+1)=true:=at' 2 (aiy j).2;unfold zK;rw [c0,c2];rfl
 have dj:=aqp j;have ne:∀ {s t:_root_.Fin 4} {k k':Key},s≠t->((s=a/\k=ka) \/ (s=b/\k=kb) \/ (s=c/\k=kc))->((t=a/\k'=ka) \/ (t=b/\k'=kb) \/ (t=c/\k'=kc))->k≠k':=fun {s t k k'} st u v=>by
  rcases u with⟨rfl,rfl⟩ | ⟨rfl,rfl⟩ | ⟨rfl,rfl⟩ <;> rcases v with⟨rfl,rfl⟩ | ⟨rfl,rfl⟩ | ⟨rfl,rfl⟩
  ·exact absurd rfl st
  ·exact nab
  ·exact nac
  ·exact nab.symm
  ·exact absurd rfl st
  ·exact nbc
  ·exact nac.symm
  ·exact nbc.symm
  ·exact absurd rfl st
 rcases three T cell j f1 f2 f3 with e | e
 ·exact ne dj.1 w1 w2 e
 ·exact ne dj.2 w2 w3 e
end
theorem aed {α:Type} (p:α->Bool):∀ l:List α,l.length=(l.filter p).length+(l.filter fun x=>!p x).length
 | []=>rfl
 | a :: l=>by
  have ih:=aed p l;cases e:p a with
  | true=>simp [aq9,e];omega
  | false=>simp [aq9,e];omega
theorem alq {α β:Type} [DecidableEq β] (f:α->β):∀ (B:List β) (l:List α),(∀ x∈l,f x∈B)->(∀ b,(l.filter fun x=>decide (f x=b)).length<=2)->l.length<=2 * B.length
 | [],l,h,_=>by
  cases l with
  | nil=>exact aqC _
  | cons a l=>exact absurd (h a aqv) (by simp)
 | b :: B,l,h,h2=>by
  have e:=aed (fun x=>decide (f x=b)) l;have ih:=alq f B (l.filter fun x=>!decide (f x=b)) (fun x hx=>by
   obtain⟨h3,h4⟩:=aqW.mp hx;rcases aqE.mp (h x h3) with z | z
   ·rw [decide_eq_true z] at h4;cases h4
   ·exact z) fun c=>by
   rw [List.filter_filter];refine aqS ?_ (h2 c);refine List.Sublist.length_le ?_;have:(fun x=>decide (f x=c) && !decide (f x=b))=fun x=>(fun x=>!decide (f x=b)) x && decide (f x=c):=by funext x;exact Bool.and_comm _ _
   rw [this,<- List.filter_filter];exact ar2
  have:=h2 b;rw [aqT];omega
noncomputable def BL:List Pt:=((aqL 8).flatMap fun (a:Nat)=>(aqL 8).map fun (b:Nat)=>((a:Int) - 1,(b:Int) - 1)).filter fun p=>decide ((p.1+p.2) % 2=0) && !(decide (p.1=-1) && decide (p.2=-1))
theorem apr:BL.length=31:=by decide +kernel
section
variable {rows:List (List Int)} {wd:Nat} {h:Int} {rl ru:List (Bool×List Pt)}
theorem aqc (g:Good wd rows) {e:Gt} (he:qS rows wd e):bk e∈BL:=by
 obtain⟨hv,i1,i2⟩:=he;obtain⟨x,y,v⟩:=e;have j1:zZ rows wd x y=true:=i1;unfold zZ at j1;rw [aqy,decide_eq_true_iff,decide_eq_true_iff] at j1;have hw:=g.w2;have hh:=g.h2;have key:∀ a b:Int,-1<=a->a<=6->-1<=b->b<=6->(a+b) % 2=0->¬ (a=-1/\b=-1)->(a,b)∈BL:=fun a b a0 a1 b0 b1 ev nn=>by
  unfold BL;rw [aqW,arb];refine⟨⟨(a+1).toNat,aqY.mpr (by omega),aqG.mpr ⟨(b+1).toNat,aqY.mpr (by omega),ash (by dsimp only;omega) (by dsimp only;omega)⟩⟩,?_⟩;rw [aqy];refine⟨decide_eq_true ev,?_⟩;by_cases ha:a=-1
  ·have hb:¬ b=-1:=fun z=>nn ⟨ha,z⟩;simp [hb]
  ·simp [ha]
 unfold bk;dsimp only at hv j1 ⊢;by_cases ev:(x+y) % 2=0
 ·rw [if_pos ev];exact key x y (by omega) (by omega) (by omega) (by omega) ev (by omega)
 ·rw [if_neg ev];rcases hv with rfl | rfl
  ·rw [if_pos rfl];exact key x (y - 1) (by omega) (by omega) (by omega) (by omega) (by omega) (by omega)
  ·rw [if_neg (by decide)];exact key (x - 1) y (by omega) (by omega) (by omega) (by omega) (by omega) (by omega)
theorem aaC (g:Good wd rows) (T:Two rows wd h rl ru) {ks:List Key} (nd:ks.Nodup) (hm:∀ k∈ks,jI rows wd h rl ru k):ks.length<=62:=by
 have wit:∃ f:Key->Gt,∀ k∈ks,qS rows wd (f k)/\vo rows h rl ru (f k) k:=by
  refine⟨fun k=>Classical.epsilon fun e=>qS rows wd e/\vo rows h rl ru e k,fun k hk=>?_⟩;exact Classical.epsilon_spec (p:=fun e=>qS rows wd e/\vo rows h rl ru e k) (aix g T (hm k hk))
 obtain⟨f,hf⟩:=wit;have:=alq (fun k=>bk (f k)) BL ks (fun k hk=>aqc g (hf k hk).1) fun b=>?_
 ·rw [apr] at this;exact this
 have sub:(ks.filter fun k=>decide (bk (f k)=b)).Sublist ks:=ar2;have nd2:=nd.sublist sub;have mem:∀ k∈ks.filter fun k=>decide (bk (f k)=b),k∈ks/\bk (f k)=b:=fun k hk=>⟨(aqW.mp hk).1,of_decide_eq_true (aqW.mp hk).2⟩
 revert nd2 mem
 match (ks.filter fun k=>decide (bk (f k)=b)) with
 | []=>intro _ _;exact aq2 _
 | [_]=>intro _ _;exact auq _
 | [_,_]=>intro _ _;exact aqC _
 | ka :: kb :: kc :: r =>
  intro nd2 mem;exfalso;obtain⟨n1,n2⟩:=arq.mp nd2;obtain⟨n3,n4⟩:=arq.mp n2;have nab:ka≠kb:=fun z=>n1 (z▸aqv);have nac:ka≠kc:=fun z=>n1 (z▸aqw _ aqv);have nbc:kb≠kc:=fun z=>n3 (z▸aqv);obtain⟨ma,ba⟩:=mem ka aqv;obtain⟨mb,bb⟩:=mem kb (aqw _ aqv);obtain⟨mc,bc⟩:=mem kc (aqw _ (aqw _ aqv));have at':∀ {k:Key},k∈ks->bk (f k)=b->∃ j:_root_.Fin 4,f k=gt b.1 b.2 j:=fun {k} hk e=>by
   obtain⟨j,ej⟩:=ap9 (hf k hk).1.1;rw [e] at ej;exact⟨j,ej⟩
  obtain⟨ja,ea⟩:=at' ma ba;obtain⟨jb,eb⟩:=at' mb bb;obtain⟨jc,ec⟩:=at' mc bc;have ha:=hf ka ma;have hb:=hf kb mb;have hc:=hf kc mc;rw [ea] at ha;rw [eb] at hb;rw [ec] at hc;have one:∀ {j j':_root_.Fin 4} {k k':Key},qS rows wd (gt b.1 b.2 j)/\vo rows h rl ru (gt b.1 b.2 j) k->vo rows h rl ru (gt b.1 b.2 j') k'->k≠k'->j≠j':=fun {j j' k k'} u v ne z=>by
   subst z;exact ne (EdgeK.one T u.1.2.1 u.1.2.2 (aiw u.1.1) u.2 v)
  exact no3 T (one ha hb.2 nab) (one hb hc.2 nbc) (one ha hc.2 nac) ha.1 hb.1 hc.1 ha.2 hb.2 hc.2 nab nbc nac
end
noncomputable def yo (rows:List (List Int)) (cut:Int) (rl ru:List (Bool×List Pt)) (t:Bool×List Gt):Key:=(ixR rl (hpt rows cut true (hdG t)),ixR ru (hpt rows cut false (hdG t)))
noncomputable def plc (k:Key) (ps:List Key):List Nat:=(aqL ps.length).filter fun i=>decide (ps[i]?=some k)
noncomputable def abZ (rows:List (List Int)) (wd:Nat) (h:Int) (rl ru:List (Bool×List Pt)) (k:Key):List Pt:=(yu rows.length wd).filter fun p=>decide (hgt rows p=h) && decide ((ixR rl p,ixR ru p)=k)
noncomputable def vY (rows:List (List Int)) (h:Int) (c:Pt):Bool:=decide (4 * h - 2<=adb rows c.1 c.2) && decide (adb rows c.1 c.2<4 * h+2)
noncomputable def jY (c:Pt):List Pt:=[(c.1,c.2),(c.1+1,c.2),(c.1+1,c.2+1),(c.1,c.2+1)]
noncomputable def alr (rl ru:List (Bool×List Pt)) (k:Key) (c:Pt):Bool:=(jY c).any (fun p=>decide (ixR rl p=k.1)) && (jY c).any fun p=>decide (ixR ru p=k.2)
noncomputable def aho (rows:List (List Int)) (wd:Nat) (h:Int) (rl ru:List (Bool×List Pt)) (k:Key):List Pt:=(yu (rows.length - 1) (wd - 1)).filter fun c=>vY rows h c && alr rl ru k c
noncomputable def ajI (l:List Nat):PyData:=.tuple (l.map fun (i:Nat)=>.int i)
noncomputable def jM (rows:List (List Int)) (wd:Nat) (h:Int) (rl ru:List (Bool×List Pt)) (bs as:List Key) (k:Key):PyData:=.tuple [.int h,ajI (plc k bs),ajI (plc k as),.tuple ((abZ rows wd h rl ru k).map pD),.tuple ((aho rows wd h rl ru k).map pD)]
theorem mem_plc {k:Key} {ps:List Key} {i:Nat}:i∈plc k ps↔ps[i]?=some k:=by
 unfold plc;rw [aqW,aqY,decide_eq_true_iff];exact⟨fun z=>z.2,fun z=>⟨(aqs.mp z).1,z⟩⟩
theorem abA {α:Type} {F:α->PyData} (inj:∀ a b,F a=F b->a=b):∀ {l m:List α},l.map F=m.map F->l=m
 | [],[],_=>rfl
 | [],_ :: _,h=>by cases h
 | _ :: _,[],h=>by cases h
 | a :: l,b :: m,h=>by
  rw [aqQ,aqQ] at h;obtain⟨h1,h2⟩:=List.cons.inj h;rw [inj a b h1,abA inj h2]
theorem anc (a b:Nat) (h:(PyData.int (a:Int))=.int (b:Int)):a=b:=by
 have:=PyData.int.inj h;omega
section
variable {rows:List (List Int)} {wd:Nat} {h:Int} {rl ru:List (Bool×List Pt)}
theorem ajJ (T:Two rows wd h rl ru) {c:Int} (hc:c=h - 1 \/ c=h) {t:Bool×List Gt} (L:LineOk rows wd c t.1 t.2) {e:Gt} (he:e∈t.2):yo rows c rl ru t=(ixR rl (hpt rows c true e),ixR ru (hpt rows c false e)):=by
 have h0:=aiv L;have o0:=L.op _ (ar1 h0);obtain⟨i,hi⟩:=aqV he;have r1:=adj (h:=true) L h0 i e hi;have r2:=adj (h:=false) L h0 i e hi;have i1:=abY (h:=true) o0;have i2:=abY (h:=false) o0;unfold yo;have e1:ixR rl (hpt rows c true (hdG t))=ixR rl (hpt rows c true e):=vn T.lo i1.1 (ahn (c':=h - 1) (by rcases hc with rfl | rfl <;> omega) i1.2 r1).1;have e2:ixR ru (hpt rows c false (hdG t))=ixR ru (hpt rows c false e):=vn T.up i2.1 (ajH (c':=h) (by rcases hc with rfl | rfl <;> omega) i2.2 r2).1;rw [<-e1,<- e2]
theorem ane {e:Gt} (he:qS rows wd e) {u v:Pt} (a:(u=(e.1,e.2.1)/\v=(px e.1 e.2.2,py e.2.1 e.2.2)) \/ (v=(e.1,e.2.1)/\u=(px e.1 e.2.2,py e.2.1 e.2.2))) (hu:h<=hgt rows u) (hv:hgt rows v<h):opG rows wd (h - 1) e=true/\hpt rows (h - 1) true e=u/\hpt rows (h - 1) false e=v:=by
 obtain⟨hw,i1,i2⟩:=he;obtain⟨x,y,w⟩:=e;have gu:=hi_lo.mpr hu;have gv:hiP rows (h - 1) v=false:=hi_up.mpr (by omega);have i1':zZ rows wd x y=true:=i1;have i2':zZ rows wd (px x w) (py y w)=true:=i2;rcases a with⟨rfl,rfl⟩ | ⟨rfl,rfl⟩
 ·have k1:hiB rows (h - 1) x y=true:=gu;have k2:hiB rows (h - 1) (px x w) (py y w)=false:=gv;refine⟨?_,if_pos k1,if_neg (by show ¬ hiB rows (h - 1) x y=false;rw [k1];exact Bool.noConfusion)⟩;unfold opG yK vh;unfold hiB at k1 k2;rw [i1',i2',k1,k2,decide_eq_true hw];rfl
 ·have k1:hiB rows (h - 1) x y=false:=gv;have k2:hiB rows (h - 1) (px x w) (py y w)=true:=gu;refine⟨?_,if_neg (by show ¬ hiB rows (h - 1) x y=true;rw [k1];exact Bool.noConfusion),if_pos k1⟩;unfold opG yK vh;unfold hiB at k1 k2;rw [i1',i2',k1,k2,decide_eq_true hw];rfl
theorem als (g:Good wd rows) (T:Two rows wd h rl ru) {ts:List (Bool×List Gt)} (To:Told rows wd (h - 1) ts) (al:∀ g,opG rows wd (h - 1) g=true->g∈flat ts) {as:List Key} {k k':Key} (m:jI rows wd h rl ru k)
  (e:jM rows wd h rl ru (ts.map (yo rows (h - 1) rl ru)) as k=jM rows wd h rl ru (ts.map (yo rows (h - 1) rl ru)) as k'):k=k':=by
 unfold jM at e;have e0:=PyData.tuple.inj e;simp only [List.cons.injEq,and_true,true_and] at e0;obtain⟨eb,ea,ep,ec⟩:=e0;have eb':plc k (ts.map (yo rows (h - 1) rl ru))=plc k' (ts.map (yo rows (h - 1) rl ru)):=abA anc (PyData.tuple.inj eb);have ep':abZ rows wd h rl ru k=abZ rows wd h rl ru k':=abA (fun a b=>vR) (PyData.tuple.inj ep);have byP:∀ {p:Pt},inP rows wd p=true->hgt rows p=h->(ixR rl p,ixR ru p)=k->k=k':=fun {p} ip hp hk=>by
  have:p∈abZ rows wd h rl ru k:=by
   unfold abZ;rw [aqW,aqy,decide_eq_true_iff,decide_eq_true_iff];exact⟨mem_pts.mpr ip,hp,hk⟩
  rw [ep'] at this;unfold abZ at this;rw [aqW,aqy,decide_eq_true_iff,decide_eq_true_iff] at this;exact hk.symm.trans this.2.2
 obtain⟨gt0,hg,hk⟩:=aix g T m;have nb0:((px gt0.1 gt0.2.2,py gt0.2.1 gt0.2.2):Pt)∈nbL (gt0.1,gt0.2.1):=aiw hg.1;have main:∀ {u v:Pt},((u=(gt0.1,gt0.2.1)/\v=(px gt0.1 gt0.2.2,py gt0.2.1 gt0.2.2)) \/ (v=(gt0.1,gt0.2.1)/\u=(px gt0.1 gt0.2.2,py gt0.2.1 gt0.2.2)))->inP rows wd u=true->inP rows wd v=true->v∈nbL u->aec rows h rl ru u v k->k=k':=fun {u v} huv iu iv nv pe=>by
  obtain⟨a,b,ek⟩:=pe;by_cases c1:hgt rows u=h
  ·exact byP iu c1 (by rw [ek,T.adjU iu iv nv (by omega) b])
  by_cases c2:hgt rows v=h
  ·exact byP iv c2 (by rw [ek,T.adjL iu iv nv a (by omega)])
  obtain⟨op,h1,h2⟩:=ane hg huv a (by omega);obtain⟨t,ht,he⟩:=arb.mp (al _ op);obtain⟨i,hi⟩:=aqV ht;have pr:=ajJ T (.inl rfl) (To.line t ht) he;rw [h1,h2,<- ek] at pr;have mem:i∈plc k (ts.map (yo rows (h - 1) rl ru)):=mem_plc.mpr (by rw [aqA,hi,asn,pr]);rw [eb',mem_plc,aqA,hi,asn,pr] at mem;exact Option.some.inj mem
 rcases hk with pe | pe
 ·exact main (.inl ⟨rfl,rfl⟩) hg.2.1 hg.2.2 nb0 pe
 ·exact main (.inr ⟨rfl,rfl⟩) hg.2.2 hg.2.1 (abu nb0) pe
end
theorem aaj:∀ {es:List PyData} {p:Nat->Int->Prop},(∀ (i:Nat) e,es[i]?=some e->∃ n:Int,e=.int n/\p i n)->∃ ns:List Int,es=ns.map .int/\∀ (i:Nat) n,ns[i]?=some n->p i n
 | [],p,_=>⟨[],rfl,fun i n h=>by cases h⟩
 | e :: es,p,h=>by
  obtain⟨n,rfl,hn⟩:=h 0 e rfl;obtain⟨ns,rfl,hs⟩:=aaj (es:=es) (p:=fun i=>p (i+1)) fun i e' he=>h (i+1) e' (by simpa using he);refine⟨n :: ns,rfl,fun i m hm=>?_⟩;cases i with
  | zero=>cases hm;exact hn
  | succ i=>exact hs i m (by simpa using hm)
abbrev aqd (c:List (List Int)×Nat) (xs:List DV):Prop:=xs=[.dat (tab c.1)]/\Good c.2 c.1
abbrev aiz (K:aqu):Sp:=spD K 1 aqd fun c r=>r=.list (jL (c.1.length - 1) (c.2 - 1))
theorem alu (F:Def K mg "cells" acp pf) (uac:mg "range"=none) (uau:FnIn P w K mg base k "size" pf (aha K)):FnIn P w K mg base (k+1) "cells" pf (aiz K):=by
 refine F.ok sc_cells rfl fun fa cdv A outer s H E hr=>⟨_,(zc (yf (zd uau hr rfl (za (pv 0) zb)) (zG (K:=K) (n:=2) rfl rfl (zg (ze (i:=1) sc_cells.nd rfl (Or.inl rfl) (Or.inr rfl)) (zg (ze (i:=2) sc_cells.nd rfl (Or.inr rfl) (Or.inl rfl)) zD)))) (zj (zu (afp (N:=pO) (own:=2) (fr:=[2]) (by walk_at "c") rfl (yM rfl uac (za (zt yh (pv 1) zf) zb)) (fun _ _ _ _=>(ze (i:=0) (show (pO:List Str).Nodup by decide +kernel) rfl (Or.inl rfl) (Or.inr rfl))) (fun _ _ _ _=>yc) (fun _ _ _ _=>(yM rfl uac (za (zt yh (pv 2) zf) zb))) (fun _ _ _ _=>(ze (i:=1) (show (pO:List Str).Nodup by decide +kernel) rfl (Or.inl rfl) (Or.inr rfl))) (fun _ _ _ _=>yc) (fun _ _ _ _=>(zv (za (pv 0) (za (pv 1) zb)))) rfl rfl (fun _=>rfl) (fun _ _ _ _ _=>rfl))))),?_⟩;rintro f xs ⟨rows,wd⟩ hl ⟨rfl,g⟩
 try dsimp only [ya,zi]
 dsimp only at *;have g2:=g.h2;have w2:=g.w2;have g1:=g.h1;have w1:=g.w1;refine yq (z6 (zq (rows,wd) ?_));walk_at "w";rintro _ rfl;refine yk rfl (zo (zh (zo (zh (zO ?_)))));have ew:((wd:Int) - 1).toNat=wd - 1:=by omega
 have eh:((rows.length:Int) - 1).toNat=rows.length - 1:=by omega
 refine yA (PEdO.ped (qW (qE (zp (jf (zk rfl ⟨_,rfl,yb ⟨_,rfl,zH ⟨_,rfl,by dsimp only;omega,by dsimp only;omega,fun n ρ es=>(∃ u v,ρ=[u,v,some (.dat (.int rows.length))])/\es=jL (rows.length - 1) n,⟨⟨_,_,rfl⟩,rfl⟩,?_,?_⟩⟩⟩))))))
 ·rintro D n d ρ' es hd ⟨⟨u,v,rfl⟩,rfl⟩;obtain⟨hn,rfl⟩:=jF hd;have hn':n<wd - 1:=by have:n<((wd:Int) - 1).toNat:=hn;omega
  have l1:(rows.length - 1) * n<=7 * 7:=arP (by omega) (by omega);refine zh (jo ?_);rw [if_pos rfl];refine aoB (qE (zp (jf (zk rfl ⟨_,rfl,yb ⟨_,rfl,zH ⟨_,rfl,by omega,by omega,fun m ρ es=>(∃ v,ρ=[some (.dat (.int n)),v,some (.dat (.int rows.length))])/\es=jL (rows.length - 1) n++(aqL m).map (akX n),⟨⟨_,rfl⟩,by simp⟩,?_,?_⟩⟩⟩))))
  ·rintro m d ρ2 es2 hd2 ⟨⟨v,rfl⟩,rfl⟩;obtain⟨hm,rfl⟩:=jF hd2;have hm':m<rows.length - 1:=by have:m<((rows.length:Int) - 1).toNat:=hm;omega
   refine zh (jo ?_);rw [if_pos rfl];refine yl (by rw [aqM,aeX,aqr,ara];omega) ?_;walk_at "w";rw [arS,aqO,arB];rfl
  ·rintro ρ2 es2 ⟨⟨v,rfl⟩,rfl⟩;rw [jv,eh];exact⟨⟨_,_,rfl⟩,by rw [ac8]⟩
 ·rintro ρ' es ⟨_,rfl⟩;rw [jv];dsimp only;rw [ew]
abbrev alv (K:aqu):Sp:=spD K 1 (fun (c:List (List Int)×Nat) xs=>xs=[.dat (tab c.1)]/\Good c.2 c.1) fun c r=>∃ m M:Int,r=.tuple [.int m,.int M]/\(m∈c.1.flatten/\∀ n∈c.1.flatten,m<=n)/\M∈c.1.flatten/\∀ n∈c.1.flatten,n<=M
theorem anf (F:Def K mg "span" aeM pf) (uad:mg "min"=none) (uag:mg "max"=none) (uaj:FnIn P w K mg base k "ask_table" pf (ad4 K)):FnIn P w K mg base (k+1) "span" pf (alv K):=by
 refine F.ok amG rfl fun fa cdv A outer s H E hr=>⟨_,(zc (yE (zd uaj hr rfl (za (pv 0) zb))) (zj (zu (zv (za (zz (vc (K:=K) rfl rfl) rfl uad boot_min (za (zX (N:=pE) (own:=1) (fr:=[]) (by walk_at "c") rfl (zy (K:=K) rfl (pv 0)) (fun _ _ _ _=>(ze (i:=0) (show (pE:List Str).Nodup by decide +kernel) rfl (Or.inl rfl) (Or.inr rfl))) (fun _ _ _ _=>yc) (fun _ _ _ _=>(zz (vc (K:=K) rfl rfl) rfl uad boot_min (za (pv 0) zb))) rfl rfl (fun _=>rfl)) zb)) (za (zz (vd (K:=K) rfl rfl) rfl uag boot_max (za (zX (N:=pE) (own:=1) (fr:=[]) (by walk_at "c") rfl (zy (K:=K) rfl (pv 0)) (fun _ _ _ _=>(ze (i:=0) (show (pE:List Str).Nodup by decide +kernel) rfl (Or.inl rfl) (Or.inr rfl))) (fun _ _ _ _=>yc) (fun _ _ _ _=>(zz (vd (K:=K) rfl rfl) rfl uag boot_max (za (pv 0) zb))) rfl rfl (fun _=>rfl)) zb)) zb)))))),?_⟩;rintro f xs ⟨rows,wd⟩ hl ⟨rfl,g⟩
 try dsimp only [ya,zi]
 dsimp only at *;have g1:=g.h1;have g2:=g.h2;have w1:=g.w1;have ml:(rows.map fun r=>PyData.list (r.map .int)).length=rows.length:=aqr _;have flat:∀ {r:List Int} {n:Int},r∈rows->n∈r->n∈rows.flatten:=fun hr hn=>asD.mpr ⟨_,hr,hn⟩;refine yq (aaR (zq (rows,wd) ?_));walk_at "w";rintro _ rfl;refine yA (yP (zp (abJ (zp (acj (zk rfl ⟨_,rfl,by rw [ml];omega,fun i e=>∃ n:Int,e=.int n/\∃ r,rows[i]?=some r/\n∈r/\∀ z∈r,n<=z,fun D i d hd=>?_,fun es hes hR=>?_⟩))))))
 ·rw [aqA] at hd;cases er:rows[i]? with
  | none=>rw [er] at hd;cases hd
  | some r =>
   rw [er] at hd;cases hd;have hr:=aqz er;have rl:=g.row r hr;refine abJ (zp (zk rfl (zH ⟨r,rfl,by rintro rfl;simp at rl;omega,fun M hM hM'=>⟨M,rfl,r,er,hM,hM'⟩⟩)))
 obtain⟨ns,rfl,hn⟩:=aaj hR;rw [aqr,ml] at hes;refine zH ⟨ns,rfl,by rintro rfl;simp at hes;omega,fun m hm hm'=>?_⟩;obtain⟨im,him⟩:=aqV hm;obtain⟨rm,erm,hrm,hrm'⟩:=hn im m him;have mins:m∈rows.flatten/\∀ n∈rows.flatten,m<=n:=by
  refine⟨flat (aqz erm) hrm,fun n hnn=>?_⟩;obtain⟨r,hr,hnr⟩:=asD.mp hnn;obtain⟨i,hi⟩:=aqV hr;have hi':i<ns.length:=by rw [hes];exact (aqs.mp hi).1
  obtain⟨r',er',_,hz⟩:=hn i _ (aqq hi');rw [hi] at er';cases er';exact ar7 (hm' _ (aq0 hi')) (hz n hnr)
 refine zp (abK (zp (acj (zk rfl ⟨_,rfl,by rw [ml];omega,fun i e=>∃ n:Int,e=.int n/\∃ r,rows[i]?=some r/\n∈r/\∀ z∈r,z<=n,fun D i d hd=>?_,fun es2 hes2 hR2=>?_⟩))))
 ·rw [aqA] at hd;cases er:rows[i]? with
  | none=>rw [er] at hd;cases hd
  | some r =>
   rw [er] at hd;cases hd;have hr:=aqz er;have rl:=g.row r hr;refine abK (zp (zk rfl (zH ⟨r,rfl,by rintro rfl;simp at rl;omega,fun M hM hM'=>⟨M,rfl,r,er,hM,hM'⟩⟩)))
 obtain⟨ns2,rfl,hn2⟩:=aaj hR2;rw [aqr,ml] at hes2;refine zH ⟨ns2,rfl,by rintro rfl;simp at hes2;omega,fun M hM hM'=>?_⟩;obtain⟨iM,hiM⟩:=aqV hM;obtain⟨rM,erM,hrM,hrM'⟩:=hn2 iM M hiM;refine zH ⟨_,rfl,aqB rfl,m,M,rfl,mins,flat (aqz erM) hrM,fun n hnn=>?_⟩;obtain⟨r,hr,hnr⟩:=asD.mp hnn;obtain⟨i,hi⟩:=aqV hr;have hi':i<ns2.length:=by rw [hes2];exact (aqs.mp hi).1
 obtain⟨r',er',_,hz⟩:=hn2 i _ (aqq hi');rw [hi] at er';cases er';exact ar7 (hz n hnr) (hM' _ (aq0 hi'))
noncomputable def vD (rl ru:List (Bool×List Pt)) (p:Pt):PyData:=.tuple [.int (ixR rl p),.int (ixR ru p)]
def aee (rows:List (List Int)) (wd:Nat) (rl ru:List (Bool×List Pt)) (kvs:List (PyData×PyData)):Prop:=∀ p,inP rows wd p=true->jm (pD p) kvs=some (vD rl ru p)
abbrev aps (c:List (List Int)×Nat×Int) (xs:List DV):Prop:=xs=[.dat (tab c.1),.dat (.int c.2.2)]/\Good c.2.1 c.1
def apt (w:World) (K:aqu) (c:List (List Int)×Nat×Int) (x:DV):Prop:=∃ rl ru kvs,x=.mon (jQ w K kvs)/\Two c.1 c.2.1 c.2.2 rl ru/\rl.length<=49/\ru.length<=49/\aee c.1 c.2.1 rl ru kvs
abbrev alw (w:World) (K:aqu):Sp:=spV K 2 aps (apt w K)
theorem ang (F:Def K mg "both_regions" jk pG) (uba:FnIn P w K mg base k "indexes" pz (aeb w K)) (uak:FnIn P w K mg base k "points" pf (vj K)):FnIn P w K mg base (k+1) "both_regions" pG (alw w K):=by
 refine F.okV sc_both_regions rfl fun fa cdv A outer s H E hr=>⟨_,(zc (zC (i:=2) sc_both_regions.nd rfl (Or.inr rfl) (zd uba hr rfl (za (pv 0) (za (zt yh (pv 1) zf) zb)))) (zc (zC (i:=3) sc_both_regions.nd rfl (Or.inr rfl) (zd uba hr rfl (za (pv 0) (za (pv 1) zb)))) (zj (zu (aje (w:=w) (K:=K) (N:=["point","lower","upper"]) (own:=1) (fr:=[2,3])  rfl rfl hr.units (by walk_at "c") rfl (zy (K:=K) rfl (zd uak hr rfl (za (pv 0) zb))) (fun _ _ _ _=>(ze (i:=0) (show (["point","lower","upper"]:List Str).Nodup by decide +kernel) rfl (Or.inl rfl) (Or.inr rfl))) (fun _ _ _ _=>yc) (fun _ _ _ _=>(pv 0)) (fun _ _ _ _=>(zv (za (zE (jP (w:=w) (K:=K) rfl rfl hr.units) (pv 1) (pv 0) (fun _ _=>rfl)) (za (zE (jP (w:=w) (K:=K) rfl rfl hr.units) (pv 2) (pv 0) (fun _ _=>rfl)) zb)))) rfl rfl (fun _=>rfl)))))),?_⟩;rintro f xs ⟨rows,wd,h⟩ hl ⟨rfl,g⟩
 try dsimp only [ya,zi]
 dsimp only at *;have g2:=g.h2;have w2:=g.w2;have plen:(yu rows.length wd).length<=49:=by
  rw [jl];exact arP g2 w2
 refine anL (agU (agT (rows,wd,h - 1) ?_));walk_at "w";rintro _ ⟨rl,k1,rfl,R1,l1,t1⟩;refine anL (agU (agT (rows,wd,h) ?_));walk_at "w";rintro _ ⟨ru,k2,rfl,R2,l2,t2⟩;dsimp only at R1 R2;have q1:∀ p,inP rows wd p=true->jm (pD p) k1=some (.int (ixR rl p)):=fun p ip=>by
  obtain⟨rr,e1,e2⟩:=aiu R1 ip;exact t1 _ rr _ e1 e2
 have q2:∀ p,inP rows wd p=true->jm (pD p) k2=some (.int (ixR ru p)):=fun p ip=>by
  obtain⟨rr,e1,e2⟩:=aiu R2 ip;exact t2 _ rr _ e1 e2
 refine apW (aoY (w:=w) (amA (zV (zq (rows,wd) (agV rfl ⟨rfl,⟨rfl,g⟩,?_⟩)))));rintro _ rfl;dsimp only;rw [abv];refine⟨_,rfl,fun n ρ kvs=>(∃ u,ρ=[u,some (.mon (jQ w K k1)),some (.mon (jQ w K k2))])/\kvs.length<=n/\∀ p∈(yu rows.length wd).take n,jm (pD p) kvs=some (vD rl ru p),⟨⟨_,rfl⟩,aqC _,(fun p hp=>by cases hp)⟩,?_,?_⟩
 ·rintro D n d _ kvs hd ⟨⟨u,rfl⟩,kl,kk⟩;rw [aqA] at hd;cases eq:(yu rows.length wd)[n]? with
  | none=>rw [eq] at hd;cases hd
  | some p =>
   rw [eq] at hd;cases hd;have ip:=mem_pts.mp (aqz eq);have hnl:=(aqs.mp eq).1;refine zh (jo ?_);rw [if_pos rfl];refine amy (by omega) (zk rfl ⟨y7 p,yP (zp (ab9 (w:=w) (v_var rfl ⟨k1,rfl,zk rfl ⟨y7 p,_,q1 p ip,zp (ab9 (w:=w) (v_var rfl ⟨k2,rfl,zk rfl ⟨y7 p,_,q2 p ip,zH ⟨_,rfl,aqB rfl,⟨_,rfl⟩,?_,fun q hq=>?_⟩⟩⟩))⟩⟩)))⟩)
   ·exact aqS (abt _ _ _) (by omega)
   ·rw [arh,eq] at hq;by_cases e:q=p
    ·rw [e];exact ad2 ..
    ·rw [aaX _ (fun z=>e (vR z))];rcases aqK.mp hq with z | z
     ·exact kk q z
     ·exact absurd (aqF.mp z) e
 ·rintro _ kvs ⟨_,_,kk⟩;rw [aqr,aq6] at kk;exact⟨kvs,rfl,rl,ru,kvs,rfl,⟨R1,R2⟩,l1,l2,fun p ip=>kk p (mem_pts.mpr ip)⟩
theorem apu {K:aqu} {f:Fx} {ρ:zr} {ta tb:TE} {P:PyData->Prop} (b c:Bool) (h1:PEd K f ta ρ fun x=>x=.bool b) (h2:b=true->PEd K f tb ρ fun x=>x=.bool c) (p:P (.bool (b && c))):PEd K f (ajO ta tb) ρ P:=by
 refine aeo (h1.imp fun x ex=>⟨b,ex,?_⟩);cases b with
 | true=>rw [if_pos rfl];exact (h2 rfl).imp fun y ey=>by subst ey;exact p
 | false=>rw [if_neg aqt];exact p
abbrev aqe (c:List (List Int)×Nat×Int×Pt) (xs:List DV):Prop:=xs=[.dat (tab c.1),.dat (.int c.2.2.1),.dat (pD c.2.2.2)]/\Good c.2.1 c.1/\vk c.1 c.2.1 c.2.2.2=true
abbrev aiA (K:aqu):Sp:=spD K 3 aqe fun c r=>r=.bool (vY c.1 c.2.2.1 c.2.2.2)
theorem alx (F:Def K mg "has_middle_at" y4 pV) (ual:mg "sum"=none) (uay:FnIn P w K mg base k "corners" pH (aax K)):FnIn P w K mg base (k+1) "has_middle_at" pV (aiA K):=by
 refine F.ok sc_has_middle_at rfl fun fa cdv A outer s H E hr=>⟨_,(zc (yf (pv 2) (zG (K:=K) (n:=2) rfl rfl (zg (ze (i:=3) sc_has_middle_at.nd rfl (Or.inl rfl) (Or.inr rfl)) (zg (ze (i:=4) sc_has_middle_at.nd rfl (Or.inl rfl) (Or.inr rfl)) zD)))) (zj (zu (aa3 va ahv (zt yh (zt j8 zf (pv 1)) zf) (zz (aaT (K:=K) rfl rfl) rfl ual atl (za (zX (N:=pC) (own:=2) (fr:=[0]) (by walk_at "c") rfl (zy (K:=K) rfl (zd uay hr rfl (za (pv 3) (za (pv 4) zb)))) (fun _ _ _ _=>(zG (K:=K) (n:=2) rfl rfl (zg (ze (i:=0) (show (pC:List Str).Nodup by decide +kernel) rfl (Or.inl rfl) (Or.inr rfl)) (zg (ze (i:=1) (show (pC:List Str).Nodup by decide +kernel) rfl (Or.inl rfl) (Or.inr rfl)) zD)))) (fun _ _ _ _=>yc) (fun _ _ _ _=>(zE (zF (K:=K) rfl) (zE (zF (K:=K) rfl) (pv 2) (pv 1) (fun _ _=>rfl)) (pv 0) (fun _ _=>rfl))) rfl rfl (fun _=>rfl)) zb)) (zt zP (zt j8 zf (pv 1)) zf))))),?_⟩;rintro f xs ⟨rows,wd,h,x,y⟩ hl ⟨rfl,g,hc⟩
 try dsimp only [ya,zi]
 dsimp only at *;obtain⟨i1,i2,i3,i4⟩:=cell_in (show zK rows wd x y=true from hc);refine yq (z6 (zk rfl (yk rfl (zo (zh (zo (zh (zO ?_))))))));have hM:CMul 4 h:=Or.inl (by decide);refine yA (aam (jf (abI ?_)));refine yb ⟨_,rfl,zk rfl ⟨_,rfl,hM,⟨_,rfl,yb ⟨_,rfl,⟨_,rfl,akg (PEdO.ped (ab5 (A:=fun p:Int×Int=>PyData.tuple [.int p.1,.int p.2]) (B:=fun p:Int×Int=>PyData.int (zQ rows p.1 p.2)) [(x,y),(x+1,y),(x+1,y+1),(x,y+1)] (zV (zq (x,y) ?_))))⟩⟩⟩⟩⟩;walk_at "w";rintro _ rfl;refine⟨_,rfl,rfl,show 4<=1000 by decide,?_,?_⟩
 ·rintro D p ρ' es hp ho hes;obtain⟨u,v,rfl⟩:=ho.two;have hi:zZ rows wd p.1 p.2=true:=by
   simp only [aqE,arj,or_false] at hp;rcases hp with rfl | rfl | rfl | rfl
   ·exact i1
   ·exact i2
   ·exact i3
   ·exact i4
  obtain⟨r,h1,h2⟩:=vi g hi;refine yk rfl (zo (zh (zo (zh (zO (jo ?_))))));rw [if_pos rfl];refine yl hes ?_;unfold tab;walk_at "w";refine⟨_,h1,?_⟩;walk_at "w";refine⟨_,h2,?_⟩;exact⟨.mk2,rfl⟩
 ·refine⟨[zQ rows x y,zQ rows (x+1) y,zQ rows (x+1) (y+1),zQ rows x (y+1)],rfl,?_⟩;refine⟨_,rfl,?_⟩;have e:([zQ rows x y,zQ rows (x+1) y,zQ rows (x+1) (y+1),zQ rows x (y+1)]:List Int).sum=adb rows x y:=rfl;rw [e];by_cases c:4 * h - 2<=adb rows x y
  ·rw [if_pos (decide_eq_true c)];refine jf (abI ?_);refine yb ⟨_,rfl,zk rfl ⟨_,rfl,hM,⟨_,rfl,yb ⟨_,rfl,⟨_,rfl,?_⟩⟩⟩⟩⟩;show PyData.bool _=.bool (vY rows h (x,y));unfold vY;dsimp only;rw [decide_eq_true c,asv]
  ·rw [if_neg (by rw [decide_eq_false c];exact aqt)];show PyData.bool false=.bool (vY rows h (x,y));unfold vY;dsimp only;rw [decide_eq_false c];rfl
noncomputable def kD (k:Key):PyData:=.tuple [.int k.1,.int k.2]
abbrev aqf (w:World) (K:aqu) (c:List (List Int)×Nat×Int×Pt×Key×List (Bool×List Pt)×List (Bool×List Pt)×List (PyData×PyData)) (xs:List DV):Prop:=xs=[.dat (pD c.2.2.2.1),.dat (kD c.2.2.2.2.1),.mon (jQ w K c.2.2.2.2.2.2.2)]/\vk c.1 c.2.1 c.2.2.2.1=true/\aee c.1 c.2.1 c.2.2.2.2.2.1 c.2.2.2.2.2.2.1 c.2.2.2.2.2.2.2
abbrev aiB (w:World) (K:aqu):Sp:=spD K 3 (aqf w K) fun c r=>r=.bool (alr c.2.2.2.2.2.1 c.2.2.2.2.2.2.1 c.2.2.2.2.1 c.2.2.2.1)
theorem aly (F:Def K mg "spans" acu pW) (uay:FnIn P w K mg base k "corners" pH (aax K)):FnIn P w K mg base (k+1) "spans" pW (aiB w K):=by
 refine F.ok sc_spans rfl fun fa cdv A outer s H E hr=>⟨_,(zc (yf (pv 0) (zG (K:=K) (n:=2) rfl rfl (zg (ze (i:=3) sc_spans.nd rfl (Or.inl rfl) (Or.inr rfl)) (zg (ze (i:=4) sc_spans.nd rfl (Or.inl rfl) (Or.inr rfl)) zD)))) (zc (yf (pv 1) (zG (K:=K) (n:=2) rfl rfl (zg (ze (i:=5) sc_spans.nd rfl (Or.inl rfl) (Or.inr rfl)) (zg (ze (i:=6) sc_spans.nd rfl (Or.inl rfl) (Or.inr rfl)) zD)))) (zc (yz (i:=7) (N:=["corner","regions_at"]) (own:=1) (fr:=[2]) (by walk_at "c") rfl sc_spans.nd rfl (Or.inl rfl) (zy (K:=K) rfl (zd uay hr rfl (za (pv 3) (za (pv 4) zb)))) (fun _ _ _ _=>(ze (i:=0) (show (["corner","regions_at"]:List Str).Nodup by decide +kernel) rfl (Or.inl rfl) (Or.inr rfl))) (fun _ _ _ _=>yc) (fun _ _ _ _=>(zE (jP (w:=w) (K:=K) rfl rfl hr.units) (pv 1) (pv 0) (fun _ _=>rfl))) rfl rfl (fun _=>rfl) (Or.inl rfl) rfl) (zj (zu (acB (vw (ahJ (K:=K) rfl hr.units) (pv 5) (zX (N:=pP) (own:=2) (fr:=[]) (by walk_at "c") rfl (zy (K:=K) rfl (pv 7)) (fun _ _ _ _=>(zG (K:=K) (n:=2) rfl rfl (zg (ze (i:=0) (show (pP:List Str).Nodup by decide +kernel) rfl (Or.inl rfl) (Or.inr rfl)) (zg (ze (i:=1) (show (pP:List Str).Nodup by decide +kernel) rfl (Or.inl rfl) (Or.inr rfl)) zD)))) (fun _ _ _ _=>yc) (fun _ _ _ _=>(pv 0)) rfl rfl (fun _=>rfl)) rfl) (aei (vw (ahJ (K:=K) rfl hr.units) (pv 6) (zX (N:=pP) (own:=2) (fr:=[]) (by walk_at "c") rfl (zy (K:=K) rfl (pv 7)) (fun _ _ _ _=>(zG (K:=K) (n:=2) rfl rfl (zg (ze (i:=0) (show (pP:List Str).Nodup by decide +kernel) rfl (Or.inl rfl) (Or.inr rfl)) (zg (ze (i:=1) (show (pP:List Str).Nodup by decide +kernel) rfl (Or.inl rfl) (Or.inr rfl)) zD)))) (fun _ _ _ _=>yc) (fun _ _ _ _=>(pv 1)) rfl rfl (fun _=>rfl)) rfl)))))))),?_⟩;rintro f xs ⟨rows,wd,h,⟨x,y⟩,⟨k1,k2⟩,rl,ru,kvs⟩ hl ⟨rfl,hc,hb⟩
 try dsimp only [ya,zi]
 dsimp only at *;obtain⟨i1,i2,i3,i4⟩:=cell_in (show zK rows wd x y=true from hc);refine yq (z6 (zk rfl (yk rfl (zo (zh (zo (zh (zO ?_))))))));refine yq (z6 (zk rfl (yk rfl (zo (zh (zo (zh (zO ?_))))))));refine yq (z6 (PEdO.ped (ab5 (A:=pD) (B:=vD rl ru) (jY (x,y)) (zV (zq (x,y) (qx rfl rfl ⟨rfl,rfl,?_⟩))))));rintro _ rfl;refine⟨_,rfl,rfl,show 4<=1000 by decide,?_,?_⟩
 ·rintro D p ρ' es hp ho hes;obtain⟨u,rfl⟩:=ho.one;have hi:inP rows wd p=true:=by
   simp only [jY,aqE,arj,or_false] at hp;rcases hp with rfl | rfl | rfl | rfl
   ·exact i1
   ·exact i2
   ·exact i3
   ·exact i4
  refine zh (jo ?_);rw [if_pos rfl];refine yl hes (ab9 (w:=w) (v_var rfl ⟨kvs,rfl,zk rfl ⟨y7 p,_,hb p hi,?_⟩⟩));exact⟨.mk1,rfl⟩
 refine zh ?_;have side:∀ (B:Pt->Nat) (n:Nat),((jY (x,y)).map fun p=>PyData.int (B p)).any (fun e=>aqX e (.int n))=(jY (x,y)).any fun p=>decide (B p=n):=fun B n=>by
  rw [List.any_map];refine congrArg (fun q=>(jY (x,y)).any q) (funext fun p=>?_);show aqX (.int (B p)) (.int n)=decide (B p=n);rw [acv];exact decide_eq_decide.mpr (by omega)
 refine yA (apu ((jY (x,y)).any fun p=>decide (ixR rl p=k1)) ((jY (x,y)).any fun p=>decide (ixR ru p=k2)) ?_ ?_ ?_)
 ·refine anF (zk rfl ?_);refine PEdO.ped (ab5 (A:=vD rl ru) (B:=fun p=>PyData.int (ixR rl p)) (jY (x,y)) (zV (zk rfl ?_)));refine⟨_,rfl,rfl,show 4<=1000 by decide,?_,⟨_,rfl,rfl,?_,aqB rfl,?_⟩⟩
  ·rintro D p ρ' es hp ho hes;obtain⟨u,v,rfl⟩:=ho.two;refine yk rfl (zo (zh (zo (zh (zO (jo ?_))))));rw [if_pos rfl];exact yl hes (zk rfl ⟨.mk2,rfl⟩)
  ·intro e he;obtain⟨p,_,rfl⟩:=aqG.mp he;rfl
  ·rw [side]
 ·intro _;refine anF (zk rfl ?_);refine PEdO.ped (ab5 (A:=vD rl ru) (B:=fun p=>PyData.int (ixR ru p)) (jY (x,y)) (zV (zk rfl ?_)));refine⟨_,rfl,rfl,show 4<=1000 by decide,?_,⟨_,rfl,rfl,?_,aqB rfl,?_⟩⟩
  ·rintro D p ρ' es hp ho hes;obtain⟨u,v,rfl⟩:=ho.two;refine yk rfl (zo (zh (zo (zh (zO (jo ?_))))));rw [if_pos rfl];exact yl hes (zk rfl ⟨.mk2,rfl⟩)
  ·intro e he;obtain⟨p,_,rfl⟩:=aqG.mp he;rfl
  ·rw [side]
 ·rfl
theorem ab0 {K:aqu} {f:Fx} {ρ:zr} {tt tu:L2.TT} {B:Bool->Prop} (b c:Bool) (h1:PTd K f tt ρ fun x=>x=b) (h2:b=true->PTd K f tu ρ fun x=>x=c) (p:B (b && c)):PTd K f (aoc tt tu) ρ B:=by
 refine afs (h1.imp fun x ex=>?_);subst ex;cases x with
 | true=>rw [if_pos rfl];exact (h2 rfl).imp fun y ey=>by subst ey;exact p
 | false=>rw [if_neg aqt];exact p
theorem ae8 (a b:Key):aqX (kD a) (kD b)=decide (a=b):=by
 show (decide ((a.1:Int)=b.1) && (decide ((a.2:Int)=b.2) && true))=_;rw [as8,<- auj];refine decide_eq_decide.mpr ⟨fun⟨x,y⟩=>ash (by omega) (by omega),fun z=>by rw [z];exact⟨rfl,rfl⟩⟩
theorem agp {rows:List (List Int)} {wd:Nat} {c:Pt} (h:c∈yu (rows.length - 1) (wd - 1)):vk rows wd c=true:=by
 unfold yu at h;obtain⟨x,hx,h⟩:=arb.mp h;obtain⟨y,hy,rfl⟩:=aqG.mp h;rw [aqY] at hx hy;unfold vk zK zZ;simp only [aqy,decide_eq_true_eq];omega
theorem acy {K:aqu} {f:Fx} {ρ:zr} {P:PyData->Prop} {rows:List (List Int)} {wd:Nat} {i jx jy:Nat} {x y:Int} (g:Good wd rows) (hi:zZ rows wd x y=true) (h1:ρ[i]?=some (some (.dat (tab rows)))) (h2:ρ[jy]?=some (some (.dat (.int y)))) (h3:ρ[jx]?=some (some (.dat (.int x)))) (p:P (.int (zQ rows x y))):PEd K f (tOp (afk K) (tOp (afk K) (zR i) (zR jy)) (zR jx)) ρ P:=by
 obtain⟨r,e1,e2⟩:=vi g hi;exact aaI (aaI (zk h1 ⟨_,rfl,zk h2 ⟨_,rfl,_,e1,_,rfl,zk h3 ⟨_,rfl,_,e2,p⟩⟩⟩))
abbrev anU (K:aqu):Sp:=spD K 2 (fun (c:Key×List Key) xs=>xs=[.dat (kD c.1),.dat (.list (c.2.map kD))]/\c.2.length<=500) fun c r=>r=ajI (plc c.1 c.2)
theorem apv (F:Def K mg "places_of" qN pM) (uab:mg "tuple"=none) (uai:mg "enumerate"=none):FnIn P w K mg base (k+1) "places_of" pM (anU K):=by
 refine F.ok aeS rfl fun fa cdv A outer s H E hr=>⟨_,(zj (zu (yS (yJ (K:=K) rfl) rfl uab arz (za (zX (N:=qj) (own:=2) (fr:=[0]) (by walk_at "c") rfl (acP (K:=K) rfl rfl uai (za (pv 1) zb)) (fun _ _ _ _=>(zG (K:=K) (n:=2) rfl rfl (zg (ze (i:=0) (show (qj:List Str).Nodup by decide +kernel) rfl (Or.inl rfl) (Or.inr rfl)) (zg (ze (i:=1) (show (qj:List Str).Nodup by decide +kernel) rfl (Or.inl rfl) (Or.inr rfl)) zD)))) (fun _ _ _ _=>(yO (zI (qV (K:=K) rfl hr.units) (pv 1) (pv 2) (z8 _)))) (fun _ _ _ _=>(pv 0)) rfl rfl (fun _=>rfl)) zb)))),?_⟩;rintro f xs ⟨q,ps⟩ hl ⟨rfl,hp⟩
 try dsimp only [ya,zi]
 dsimp only at *;have eqk:∀ a b:Key,aqX (kD a) (kD b)=decide (a=b):=fun a b=>ae8 a b;refine yA (vC (zp (PEdO.ped (vF (A:=fun i:Nat=>PyData.tuple [.int i,kD (ps.getD i (0,0))]) (B:=fun i:Nat=>.int i) (fun i=>decide (ps[i]?=some q)) (aqL ps.length) (akb (zp (zk rfl (zH ⟨_,rfl,?_,?_,?_,?_⟩))))))))
 ·refine arV fun i=>?_;rw [aa6,ato,aqA,aqA];by_cases hi:i<ps.length
  ·rw [arW hi,aqq hi,asn,asn,asn,aqx,aqq hi];rfl
  ·rw [aqZ (by omega),aqZ (by rw [ara];omega)];rfl
 ·rw [ara];omega
 ·rintro D i ρ' es hi ho hes;obtain⟨u,v,rfl⟩:=ho.two;have hi':=aqY.mp hi;refine yk rfl (zo (zh (zo (zh (zO (zT (jn (zk rfl (zk rfl ⟨rfl,rfl,?_,_,rfl,?_,?_⟩)))))))))
  ·exact aqS (arY _ _) (aqB rfl)
  ·rw [if_neg aqt,eqk,aqx,aqq hi',at4];exact decide_eq_decide.mpr ⟨fun z=>by rw [z],fun z=>Option.some.inj z⟩
  ·refine z7 (fun h1=>?_) fun h1=>?_
   ·exact yl hes (zk rfl ⟨.mk2,rfl⟩)
   ·exact .mk2
 ·exact zH (.inl ⟨_,rfl,rfl⟩)
abbrev alz (w:World) (K:aqu):Sp:=spD K 4 (fun (c:(List (List Int)×Nat×Int)×Key×List (Bool×List Pt)×List (Bool×List Pt)×List (PyData×PyData)) xs=>xs=[.dat (tab c.1.1),.dat (.int c.1.2.2),.dat (kD c.2.1),.mon (jQ w K c.2.2.2.2)]/\Good c.1.2.1 c.1.1/\aee c.1.1 c.1.2.1 c.2.2.1 c.2.2.2.1 c.2.2.2.2) fun c r=>r=.tuple ((abZ c.1.1 c.1.2.1 c.1.2.2 c.2.2.1 c.2.2.2.1 c.2.1).map pD)
theorem anh (F:Def K mg "points_of" qO pB) (uab:mg "tuple"=none) (uak:FnIn P w K mg base k "points" pf (vj K)):FnIn P w K mg base (k+1) "points_of" pB (alz w K):=by
 refine F.ok aeT rfl fun fa cdv A outer s H E hr=>⟨_,(zj (zu (yS (yJ (K:=K) rfl) rfl uab arz (za (zX (N:=qk) (own:=2) (fr:=[0,1,2,3]) (by walk_at "c") rfl (zy (K:=K) rfl (zd uak hr rfl (za (pv 0) zb))) (fun _ _ _ _=>(zG (K:=K) (n:=2) rfl rfl (zg (ze (i:=0) (show (qk:List Str).Nodup by decide +kernel) rfl (Or.inl rfl) (Or.inr rfl)) (zg (ze (i:=1) (show (qk:List Str).Nodup by decide +kernel) rfl (Or.inl rfl) (Or.inr rfl)) zD)))) (fun _ _ _ _=>(yO (PW.pt (v7 (zI (qV (K:=K) rfl hr.units) (zE (zF (K:=K) rfl) (zE (zF (K:=K) rfl) (pv 2) (pv 1) (fun _ _=>rfl)) (pv 0) (fun _ _=>rfl)) (pv 3) (z8 _)) (vt (zI (qV (K:=K) rfl hr.units) (zE (jP (w:=w) (K:=K) rfl rfl hr.units) (pv 5) (zv (za (pv 0) (za (pv 1) zb))) (fun _ _=>rfl)) (pv 4) (z8 _))))))) (fun _ _ _ _=>(zv (za (pv 0) (za (pv 1) zb)))) rfl rfl (fun _=>rfl)) zb)))),?_⟩;rintro f xs ⟨⟨rows,wd,h⟩,q,rl,ru,kvs⟩ hl ⟨rfl,g,hb⟩
 try dsimp only [ya,zi]
 dsimp only at *;have g2:=g.h2;have w2:=g.w2;have plen:(yu rows.length wd).length<=49:=by
  rw [jl];exact arP g2 w2
 refine yA (vC (zp (PEdO.ped (vF (A:=pD) (B:=pD) (fun p=>decide (hgt rows p=h) && decide ((ixR rl p,ixR ru p)=q)) (yu rows.length wd) (zV (zq (rows,wd) (agV rfl ⟨rfl,⟨rfl,g⟩,?_⟩)))))));rintro _ rfl;refine⟨_,rfl,abv _ _,by omega,?_,zH (.inl ⟨_,rfl,rfl⟩)⟩;rintro D p ρ' es hp ho hes;obtain⟨u,v,rfl⟩:=ho.two;have hi:=mem_pts.mp hp;obtain⟨r,h1,h2⟩:=vi g (show zZ rows wd p.1 p.2=true from hi);refine yk rfl (zo (zh (zo (zh (zO ?_)))));refine ab0 (decide (hgt rows p=h)) (decide ((ixR rl p,ixR ru p)=q)) (zT (jn ?_)) ?_ ?_
 ·refine acy g (show zZ rows wd p.1 p.2=true from hi) rfl rfl rfl (zk rfl ⟨rfl,rfl,aqS (arY _ _) (aqB rfl),_,rfl,?_⟩);rw [if_neg aqt];exact acv _ _
 ·intro _;refine zT (jn (ab9 (w:=w) (v_var rfl ⟨kvs,rfl,yP (qx rfl rfl ⟨_,rfl,aqB rfl,y7 p,_,hb p hi,zk rfl ⟨rfl,rfl,aqS (arY _ _) (aqB rfl),_,rfl,?_⟩⟩)⟩)));exact ae8 (ixR rl p,ixR ru p) q
 ·refine⟨rfl,?_⟩;refine z7 (fun h1=>?_) fun h1=>?_
  ·exact yl hes (yP (qx rfl rfl ⟨_,rfl,aqB rfl,.mk2,rfl⟩))
  ·exact .mk2
abbrev alA (w:World) (K:aqu):Sp:=spD K 4 (fun (c:(List (List Int)×Nat×Int)×Key×List (Bool×List Pt)×List (Bool×List Pt)×List (PyData×PyData)) xs=>xs=[.dat (tab c.1.1),.dat (.int c.1.2.2),.dat (kD c.2.1),.mon (jQ w K c.2.2.2.2)]/\Good c.1.2.1 c.1.1/\aee c.1.1 c.1.2.1 c.2.2.1 c.2.2.2.1 c.2.2.2.2) fun c r=>r=.tuple ((aho c.1.1 c.1.2.1 c.1.2.2 c.2.2.1 c.2.2.2.1 c.2.1).map pD)
theorem ani (F:Def K mg "cells_of" vM pB) (uab:mg "tuple"=none) (ubq:FnIn P w K mg base k "cells" pf (aiz K)) (ubr:FnIn P w K mg base k "has_middle_at" pV (aiA K)) (ubs:FnIn P w K mg base k "spans" pW (aiB w K)):FnIn P w K mg base (k+1) "cells_of" pB (alA w K):=by
 refine F.ok af2 rfl fun fa cdv A outer s H E hr=>⟨_,(zj (zu (yS (yJ (K:=K) rfl) rfl uab arz (za (zX (N:=qt) (own:=1) (fr:=[0,1,2,3]) (by walk_at "c") rfl (zy (K:=K) rfl (zd ubq hr rfl (za (pv 0) zb))) (fun _ _ _ _=>(ze (i:=0) (show (qt:List Str).Nodup by decide +kernel) rfl (Or.inl rfl) (Or.inr rfl))) (fun _ _ _ _=>(yO (PW.pt (v7 (ym (K:=K) rfl (zd ubr hr rfl (za (pv 1) (za (pv 2) (za (pv 0) zb)))) (fun _=>rfl)) (vt (ym (K:=K) rfl (zd ubs hr rfl (za (pv 0) (za (pv 3) (za (pv 4) zb)))) (fun _=>rfl))))))) (fun _ _ _ _=>(pv 0)) rfl rfl (fun _=>rfl)) zb)))),?_⟩;rintro f xs ⟨⟨rows,wd,h⟩,q,rl,ru,kvs⟩ hl ⟨rfl,g,hb⟩
 try dsimp only [ya,zi]
 dsimp only at *;have g2:=g.h2;have w2:=g.w2;have plen:(yu (rows.length - 1) (wd - 1)).length<=49:=by
  rw [jl];exact arP (show rows.length - 1<=7 by omega) (show wd - 1<=7 by omega)
 refine yA (vC (zp (PEdO.ped (vF (A:=pD) (B:=pD) (fun c=>vY rows h c && alr rl ru q c) (yu (rows.length - 1) (wd - 1)) (zV (zq (rows,wd) (agV rfl ⟨rfl,⟨rfl,g⟩,?_⟩)))))));rintro _ rfl;refine⟨_,rfl,abv _ _,by omega,?_,zH (.inl ⟨_,rfl,rfl⟩)⟩;rintro D c ρ' es hp ho hes;obtain⟨u,rfl⟩:=ho.one;have hc:vk rows wd c=true:=agp hp;refine zh ?_;refine ab0 (vY rows h c) (alr rl ru q c) (y9 (zq (rows,wd,h,c) (amx rfl rfl rfl ⟨rfl,⟨rfl,g,hc⟩,?_⟩))) ?_ ?_
 ·rintro _ rfl;exact⟨_,rfl,rfl⟩
 ·intro _;refine y9 (zq (rows,wd,h,c,q,rl,ru,kvs) (zp (zk rfl (zp (zk rfl (afS (v_var rfl (zH ⟨rfl,⟨rfl,hc,hb⟩,?_⟩)))))))) ;rintro _ rfl;exact⟨_,rfl,rfl⟩
 ·refine⟨rfl,?_⟩;refine z7 (fun h1=>?_) fun h1=>?_
  ·exact yl hes (zk rfl ⟨.mk1,rfl⟩)
  ·exact .mk1
theorem alB {rows:List (List Int)} {wd:Nat} {p:Pt} (g:Good wd rows) (h:inP rows wd p=true):At2 rows p (hgt rows p):=by
 obtain⟨x0,x1,y0,y1⟩:=aaZ (show zZ rows wd p.1 p.2=true from h);have hy:p.2.toNat<rows.length:=by omega
 have hr:=g.row _ (aq0 hy);have hx:p.1.toNat<rows[p.2.toNat].length:=by omega
 refine⟨x0,y0,_,aqq hy,?_⟩;unfold hgt zQ;rw [aqx,aqx,aqq hy,at4,aqq hx];rfl
abbrev apw (w:World) (K:aqu):Sp:=spD K 3 (fun (c:(List (List Int)×Nat×Int)×(Gt×List Gt)×List (Bool×List Pt)×List (Bool×List Pt)×List (PyData×PyData)) xs=>xs=[.dat (tab c.1.1),.dat (.tuple ((c.2.1.1 :: c.2.1.2).map gD3)),.mon (jQ w K c.2.2.2.2)]/\Good c.1.2.1 c.1.1/\opG c.1.1 c.1.2.1 c.1.2.2 c.2.1.1=true/\aee c.1.1 c.1.2.1 c.2.2.1 c.2.2.2.1 c.2.2.2.2) fun c r=>r=kD (ixR c.2.2.1 (hpt c.1.1 c.1.2.2 true c.2.1.1),ixR c.2.2.2.1 (hpt c.1.1 c.1.2.2 false c.2.1.1))
theorem ajK (F:Def K mg "pair_beside" jB pS) (kl_pair:aic K "pair_beside"=true) (uae:mg "sorted"=none) (uav:FnIn P w K mg base (k+2) "gate_points" ["gate"] (aik K)):FnIn P w K mg base (k+3) "pair_beside" pS (apw w K):=by
 refine F.okL sc_pair_beside rfl kl_pair fun fa cL Pt A outer s H E l1 l2 hr=>⟨_,(zc (yf (agZ (q:="pair_beside") (c:=cL) (P:=Pt) (jy:=0) (K:=K) rfl hr rfl uae (za (zd uav hr rfl (za (zE (zW (K:=K) rfl) (pv 1) zf (fun _ _=>rfl)) zb)) zb) (by decide +kernel) rfl l1 l2 rfl (of_decide_eq_true (by kernel_rfl)) rfl (fun _ _ _ _ _=>rfl) rfl rfl (of_decide_eq_true (by kernel_rfl)) rfl rfl rfl rfl rfl) (aer (K:=K) (n:=2) rfl rfl (zg (ze (i:=3) sc_pair_beside.nd rfl (Or.inl rfl) (Or.inr rfl)) (zg (ze (i:=4) sc_pair_beside.nd rfl (Or.inl rfl) (Or.inr rfl)) zD)))) (zj (zu (zv (za (zE (zW (K:=K) rfl) (zE (jP (w:=w) (K:=K) rfl rfl hr.units) (pv 2) (pv 4) (fun _ _=>rfl)) zf (fun _ _=>rfl)) (za (zE (zW (K:=K) rfl) (zE (jP (w:=w) (K:=K) rfl rfl hr.units) (pv 2) (pv 3) (fun _ _=>rfl)) zf (fun _ _=>rfl)) zb)))))),?_⟩;rintro f xs ⟨⟨rows,wd,cut⟩,⟨g0,l⟩,rl,ru,kvs⟩ hl ⟨rfl,g,op,hb⟩
 try dsimp only [ya,zi]
 dsimp only at *;have i1:=abY (h:=true) op;have i2:=abY (h:=false) op;have v1:PEd K f (tOp (afl K) (zR 1) (tC (V.int 0))) (qu aaL [DV.dat (tab rows),DV.dat (PyData.tuple (atp gD3 (g0 :: l))),DV.mon (jQ w K kvs)]) fun x=>x=gD3 g0:=jE (zk rfl ⟨_,rfl,yb ⟨_,rfl,_,yU (k:=0) (j:=0) (xs:=g0 :: l) rfl (asW _),rfl⟩⟩);have fin:∀ hh lo:My.Pt,hh=hpt rows cut true g0->lo=hpt rows cut false g0->PSd K f (adq (acG (zN (tOp (afl K) (tOp (abR w K) (zR 2) (zR 4)) (tC (V.int 0))) (zN (tOp (afl K) (tOp (abR w K) (zR 2) (zR 3)) (tC (V.int 1))) yY)))) [some (.dat (tab rows)),some (.dat (PyData.tuple (atp gD3 (g0 :: l)))),some (.mon (jQ w K kvs)),some (.dat (pD lo)),some (.dat (pD hh))] { nx:=fun x=>PyData.none=kD (ixR rl (hpt rows cut true g0),ixR ru (hpt rows cut false g0)),rt:=fun r=>r=kD (ixR rl (hpt rows cut true g0),ixR ru (hpt rows cut false g0)) }:=by
  rintro _ _ rfl rfl;refine yA (yP (zp (jE (ab9 (w:=w) (v_var rfl ⟨kvs,rfl,zk rfl ⟨y7 _,_,hb _ i1.1,⟨_,rfl,yb ⟨_,rfl,_,rfl,?_⟩⟩⟩⟩)))));exact zp (jE (ab9 (w:=w) (v_var rfl ⟨kvs,rfl,zk rfl ⟨y7 _,_,hb _ i2.1,⟨_,rfl,yb ⟨_,rfl,_,rfl,zH ⟨_,rfl,aqB rfl,rfl⟩⟩⟩⟩⟩)))
 have op':=op;unfold opG yK vh at op';rw [aqy,aqy,aqy] at op';obtain⟨⟨_,j1,j2⟩,ne⟩:=op';have nn:(decide (cut<zQ rows g0.1 g0.2.1)=true/\decide (cut<zQ rows (px g0.1 g0.2.2) (py g0.2.1 g0.2.2))=false) \/ (decide (cut<zQ rows g0.1 g0.2.1)=false/\decide (cut<zQ rows (px g0.1 g0.2.2) (py g0.2.1 g0.2.2))=true):=by
  cases e1:decide (cut<zQ rows g0.1 g0.2.1) <;> cases e2:decide (cut<zQ rows (px g0.1 g0.2.2) (py g0.2.1 g0.2.2)) <;> rw [e1,e2] at ne <;> first | (cases ne;done) | exact .inl ⟨rfl,rfl⟩ | exact .inr ⟨rfl,rfl⟩
 rw [decide_eq_true_iff,decide_eq_false_iff_not,decide_eq_true_iff,decide_eq_false_iff_not] at nn;refine yq (z6 (ajh rfl (zp (zq g0 (zp (v1.imp fun x ex=>?_))))));subst ex;refine zH ⟨rfl,rfl,?_⟩;rintro _ rfl;refine zH ⟨(g0.1,g0.2.1),(px g0.1 g0.2.2,py g0.2.1 g0.2.2),_,_,rfl,alB g j1,alB g j2,?_,fun lt=>?_,fun lt=>?_⟩
 ·intro e;unfold hgt at e;dsimp only at e;rw [e] at ne;simp at ne
 ·refine ahI rfl (zo (zh (zo (zh (zO ?_)))));unfold hgt at lt;dsimp only at lt;refine fin _ _ ?_ ?_
  ·unfold hpt hiB;rw [if_neg (by rw [decide_eq_true_iff];omega)]
  ·unfold hpt hiB;rw [if_pos (decide_eq_false (by omega))]
 ·refine ahI rfl (zo (zh (zo (zh (zO ?_)))));unfold hgt at lt;dsimp only at lt;refine fin _ _ ?_ ?_
  ·unfold hpt hiB;rw [if_pos (decide_eq_true (by omega))]
  ·unfold hpt hiB;rw [if_neg (by rw [decide_eq_false_iff_not];omega)]
theorem anj {w:World} {K:aqu} {f:Fx} {Ds:List Addr} {ρ:zr} {cs:List OC} {i j:Nat} {kvs:List (PyData×PyData)} {P:PyData->Prop} (hi:ρ[i]?=some (some (.own (f.M.length+j)))) (hc:cs[j]?=some (.dic kvs)) (few:kvs.length<=1000) (h:P (.list (kvs.map (·.1)))) :
  PEm w K f Ds (tCB (agR w K) (zN (zR i) yY)) ρ cs P:=fun se σ H H2 Q x q=>by
 have hj:j<Ds.length:=by rw [<-x.len];exact (aqs.mp hc).1
 have hD:Ds[j]?=some Ds[j]:=aqq hj;obtain⟨xs,h1,h2⟩:=x.own j _ _ hD hc;have ek:xs.map (·.1)=kvs.map (·.1):=by
  have key:∀ {xs:List (PyData×Addr×Value)} {kvs:List (PyData×PyData)},Paired (EntR K (hide H (f.withs Ds))) xs kvs->xs.map (·.1)=kvs.map (·.1):=fun {xs kvs} t=>by
   induction t with
   | nil=>rfl
   | cons a _ ih=>rw [aqQ,aqQ,ih,a.1]
  exact key h2
 have el:=abe h2;have ko:=yI h2;have rr:Reps K (hide H (f.withs Ds)) (xs.map (·.1)) (xs.map fun z=>V.ref z.2.1):=aao ko;refine⟨_,jh hi x hD,Ds[j],xs,rfl,h1,by omega,fun l0 hl0=>?_⟩;have g0:Goes (f.withs Ds) H (upd H l0 (.lst (xs.map fun z=>.ref z.2.1))):=.of_same (yj hl0 _) x.env.fd;refine q (.list (kvs.map (·.1))) _ _ g0 (rep_list.mpr ⟨l0,_,rfl,.inl (.inl (zJ (fresh_ne x.env.fd hl0) zB)),?_⟩) h;rw [<-ek];exact Reps.mono g0.sm _ _ rr
theorem apx (k:Key):acf (kD k):=⟨⟨rfl,aqB rfl⟩,_,rfl⟩
noncomputable def adl (k:Key) (ks:List Key):List Key:=if k∈ks then ks else ks++[k]
theorem apy {a b:Key} (h:kD a=kD b):a=b:=by
 have e:=ae8 a b;rw [h] at e;have e2:=ae8 b b;rw [e,decide_eq_true rfl] at e2;exact of_decide_eq_true e2
theorem alC {k:Key} {v:PyData} {kvs:List (PyData×PyData)} {ks:List Key} (h:kvs.map (·.1)=ks.map kD):(dput (kD k) v kvs).map (·.1)=(adl k ks).map kD:=by
 rw [vm,h];unfold adl;by_cases m:k∈ks
 ·rw [if_pos m,if_pos (auE m)]
 ·rw [if_neg m,if_neg,aqO]
  ·rfl
  ·intro z;obtain⟨a,ha,e⟩:=aqG.mp z;exact m (apy e▸ha)
theorem mem_addKy {k a:Key} {ks:List Key}:a∈adl k ks↔a∈ks \/ a=k:=by
 unfold adl;by_cases m:k∈ks
 ·rw [if_pos m];exact⟨.inl,fun z=>z.elim id fun e=>e▸m⟩
 ·rw [if_neg m,aqK,aqF]
theorem alD {k:Key} {ks:List Key} (h:ks.Nodup):(adl k ks).Nodup:=by
 unfold adl;by_cases m:k∈ks
 ·rw [if_pos m];exact h
 ·rw [if_neg m,aru];exact⟨h,arq.mpr ⟨arj,arv⟩,fun a ha b hb e=>m (aqF.mp hb▸e▸ha)⟩
structure PrJ (rows:List (List Int)) (wd:Nat) (h:Int) (rl ru:List (Bool×List Pt)) (D:Pt->Pt->Prop) (kvs:List (PyData×PyData)) (ks:List Key):Prop where
 key:kvs.map (·.1)=ks.map kD
 nd:ks.Nodup
 all:∀ k∈ks,jI rows wd h rl ru k
 has:∀ p q,D p q->∀ k,aec rows h rl ru p q k->k∈ks
theorem PrJ.len {rows:List (List Int)} {wd:Nat} {h:Int} {rl ru:List (Bool×List Pt)} {D:Pt->Pt->Prop} {kvs:List (PyData×PyData)} {ks:List Key} (J:PrJ rows wd h rl ru D kvs ks) (g:Good wd rows) (T:Two rows wd h rl ru):kvs.length<=1000:=by
 have a:=aaC g T J.nd J.all;have b:=congrArg auL J.key;rw [aqr,aqr] at b;omega
theorem aiC {rows:List (List Int)} {wd:Nat} {p q:Pt} (ip:inP rows wd p=true):q∈(nbL p).filter (inP rows wd)++[p]↔inP rows wd q=true/\(q∈nbL p \/ q=p):=by
 rw [aqK,aqW,aqF];constructor
 ·rintro (⟨a,b⟩ | rfl)
  ·exact⟨b,.inl a⟩
  ·exact⟨ip,.inr rfl⟩
 ·rintro⟨b,a | rfl⟩
  ·exact .inl ⟨a,b⟩
  ·exact .inr rfl
theorem ank (rows:List (List Int)) (wd:Nat) (p:Pt):((nbL p).filter (inP rows wd)).length<=4:=aq8 _ (nbL p)
theorem take_snoc {α:Type} {l:List α} {n:Nat} {a z:α} (h:l[n]?=some a) (hz:z∈l.take (n+1)):z∈l.take n \/ z=a:=by
 rw [arh,h] at hz;rcases aqK.mp hz with b | b
 ·exact .inl b
 ·exact .inr (aqF.mp b)
abbrev aiD (w:World) (K:aqu):Sp:=spD K 3 (fun (c:(List (List Int)×Nat×Int)×List (Bool×List Pt)×List (Bool×List Pt)×List (PyData×PyData)) xs=>xs=[.dat (tab c.1.1),.dat (.int c.1.2.2),.mon (jQ w K c.2.2.2)]/\Good c.1.2.1 c.1.1/\Two c.1.1 c.1.2.1 c.1.2.2 c.2.1 c.2.2.1/\aee c.1.1 c.1.2.1 c.2.1 c.2.2.1 c.2.2.2) fun c r=>∃ ks:List Key,r=.list (ks.map kD)/\ks.Nodup/\∀ k,k∈ks↔jI c.1.1 c.1.2.1 c.1.2.2 c.2.1 c.2.2.1 k
theorem alE (F:Def K mg "pairs" acs pR) (uap:mg "list"=none) (uak:FnIn P w K mg base k "points" pf (vj K)) (uaN:FnIn P w K mg base k "neighbours" pj (apk K)):FnIn P w K mg base (k+1) "pairs" pR (aiD w K):=by
 refine F.ok sc_pairs rfl fun fa cdv A outer s H E hr=>⟨_,(zc (zC (i:=3) sc_pairs.nd rfl (Or.inl rfl) (abQ (w:=w) rfl)) (zc (yG aq7 rfl (zy (K:=K) rfl (zd uak hr rfl (za (pv 0) zb))) (zG (K:=K) (n:=2) rfl rfl (zg (ze (i:=4) sc_pairs.nd rfl (Or.inl rfl) (Or.inr rfl)) (zg (ze (i:=5) sc_pairs.nd rfl (Or.inl rfl) (Or.inr rfl)) zD))) (zj (yF (zI ajT (zE (zF (K:=K) rfl) (zE (zF (K:=K) rfl) (pv 0) (pv 5) (fun _ _=>rfl)) (pv 4) (fun _ _=>rfl)) (pv 1) (z8 _)) (zj (yG aq7 rfl (zy (K:=K) rfl (zt (acT (K:=K) rfl) (zd uaN hr rfl (za (pv 0) (za (pv 4) (za (pv 5) zb)))) (z9 (za (zv (za (pv 4) (za (pv 5) zb))) zb)))) (zG (K:=K) (n:=2) rfl rfl (zg (ze (i:=6) sc_pairs.nd rfl (Or.inl rfl) (Or.inr rfl)) (zg (ze (i:=7) sc_pairs.nd rfl (Or.inl rfl) (Or.inr rfl)) zD))) (zj (yF (zI va (zE (zF (K:=K) rfl) (zE (zF (K:=K) rfl) (pv 0) (pv 7) (fun _ _=>rfl)) (pv 6) (fun _ _=>rfl)) (pv 1) (z8 _)) (zj (yf vU (aaP (pv 3) (zv (za (zE (zW (K:=K) rfl) (zE (jP (w:=w) (K:=K) rfl rfl hr.units) (pv 2) (zv (za (pv 4) (za (pv 5) zb))) (fun _ _=>rfl)) zf (fun _ _=>rfl)) (za (zE (zW (K:=K) rfl) (zE (jP (w:=w) (K:=K) rfl rfl hr.units) (pv 2) (zv (za (pv 6) (za (pv 7) zb))) (fun _ _=>rfl)) zf (fun _ _=>rfl)) zb))) (aaf (w:=w) (K:=K) rfl rfl hr.units)))) zS)))) zS))) (zj (zu (yS (afR (w:=w) (K:=K) rfl rfl rfl) rfl uap aud (za (pv 3) zb)))))),?_⟩;rintro f xs ⟨⟨rows,wd,h⟩,rl,ru,kvs0⟩ hl ⟨rfl,g,T,hb⟩
 try dsimp only [ya,zi]
 dsimp only at *;have g2:=g.h2;have w2:=g.w2;have plen:(yu rows.length wd).length<=49:=by
  rw [jl];exact arP g2 w2
 refine aae (w:=w) (abb (agN ⟨show 3<8 by decide,fun D1=>?_⟩));show PSm w K f [D1] _ [some (.dat (tab rows)),some (.dat (.int h)),some (.mon (jQ w K kvs0)),some (.own (f.M.length+0)),none,none,none,none] [OC.dic []] _;refine yD (jK (zV (zq (rows,wd) (agV rfl ⟨rfl,⟨rfl,g⟩,?_⟩))));rintro _ rfl;dsimp only;rw [abv];refine⟨_,rfl,fun n ρ cs=>∃ u v a b kvs ks,ρ=[some (.dat (tab rows)),some (.dat (.int h)),some (.mon (jQ w K kvs0)),some (.own (f.M.length+0)),u,v,a,b]/\cs=[OC.dic kvs]/\PrJ rows wd h rl ru (fun p q=>p∈(yu rows.length wd).take n/\inP rows wd q=true/\(q∈nbL p \/ q=p)) kvs ks,⟨_,_,_,_,_,[],rfl,rfl,⟨rfl,arv,(fun k hk=>by cases hk),(fun p q hd=>by cases hd.1)⟩⟩,?_,?_⟩
 ·rintro n d _ _ hd ⟨u,v,a,b,kvs,ks,rfl,rfl,J⟩;rw [aqA] at hd;cases eq:(yu rows.length wd)[n]? with
  | none=>rw [eq] at hd;cases hd
  | some p =>
   rw [eq] at hd;cases hd;have ip:=mem_pts.mp (aqz eq);refine yk rfl (zo (zh (zo (zh (zO ?_)))));refine adv (agJ (zT (adK (acy g (show zZ rows wd p.1 p.2=true from ip) rfl rfl rfl ⟨_,rfl,zk rfl ⟨_,rfl,_,rfl,?_⟩⟩))));refine z7 (fun c1=>?_) fun c1=>?_
   ·have c1:h<=hgt rows p:=of_decide_eq_true c1;refine jK (zV (agF (zq (rows,wd,p.1,p.2) (amx rfl rfl rfl ⟨rfl,⟨rfl,g⟩,?_⟩))));rintro _ rfl;have nl:=ank rows wd p;have eL:((nbL (p.1,p.2)).filter (inP rows wd)).map pD++[.tuple [.int p.1,.int p.2]]=((nbL p).filter (inP rows wd)++[p]).map pD:=by
     rw [aqO];rfl
    refine⟨_,rfl,aaa (zp (yP (qx rfl rfl ⟨_,rfl,aqB rfl,zH ⟨_,rfl,aqB rfl,⟨_,rfl,?_,?_⟩⟩⟩)))⟩
    ·rw [aqr];exact aqS (Nat.add_le_add_right nl 1) (by decide)
    dsimp only;rw [eL];refine⟨_,rfl,fun m ρ cs=>∃ a b kvs ks,ρ=[some (.dat (tab rows)),some (.dat (.int h)),some (.mon (jQ w K kvs0)),some (.own (f.M.length+0)),some (.dat (.int p.1)),some (.dat (.int p.2)),a,b]/\cs=[OC.dic kvs]/\PrJ rows wd h rl ru (fun x q=>(x∈(yu rows.length wd).take n/\inP rows wd q=true/\(q∈nbL x \/ q=x)) \/ (x=p/\q∈((nbL p).filter (inP rows wd)++[p]).take m)) kvs ks,⟨_,_,_,ks,rfl,rfl,⟨J.key,J.nd,J.all,fun x q hd=>hd.elim (J.has x q) fun z=>by cases z.2⟩⟩,?_,?_⟩
    ·rintro m d _ _ hd ⟨a,b,kvs,ks,rfl,rfl,J⟩;rw [aqA] at hd;cases eq2:((nbL p).filter (inP rows wd)++[p])[m]? with
     | none=>rw [eq2] at hd;cases hd
     | some q =>
      rw [eq2] at hd;cases hd;obtain⟨iq,nq⟩:=(aiC ip).mp (aqz eq2);refine yk rfl (zo (zh (zo (zh (zO ?_)))));refine adv (agJ (zT (adK (acy g (show zZ rows wd q.1 q.2=true from iq) rfl rfl rfl ⟨_,rfl,zk rfl ⟨_,rfl,_,rfl,?_⟩⟩))));refine z7 (fun c2=>?_) fun c2=>?_
      ·have c2:hgt rows q<=h:=of_decide_eq_true c2;refine afN rfl rfl (J.len g T) (afr ?_);refine yP (zp (jE (ab9 (w:=w) (v_var rfl ⟨kvs0,rfl,yP (qx rfl rfl ⟨_,rfl,aqB rfl,y7 p,_,hb p ip,⟨_,rfl,yb ⟨_,rfl,_,rfl,?_⟩⟩⟩)⟩))));refine zp (jE (ab9 (w:=w) (v_var rfl ⟨kvs0,rfl,yP (qx rfl rfl ⟨_,rfl,aqB rfl,y7 q,_,hb q iq,⟨_,rfl,yb ⟨_,rfl,_,rfl,zH ⟨_,rfl,aqB rfl,?_,?_⟩⟩⟩⟩)⟩)))
       ·exact apx (ixR rl p,ixR ru q)
       refine⟨_,_,_,adl (ixR rl p,ixR ru q) ks,rfl,rfl,⟨alC (k:=(ixR rl p,ixR ru q)) J.key,alD J.nd,fun k hk=>?_,fun x y hxy k hk=>mem_addKy.mpr ?_⟩⟩
       ·rcases mem_addKy.mp hk with z | rfl
        ·exact J.all k z
        ·exact⟨p,q,ip,iq,nq,c1,c2,rfl⟩
       ·rcases hxy with z | ⟨rfl,z⟩
        ·exact .inl (J.has x y (.inl z) k hk)
        ·rcases take_snoc eq2 z with z | rfl
         ·exact .inl (J.has x y (.inr ⟨rfl,z⟩) k hk)
         ·exact .inr hk.2.2
      ·have c2:¬ hgt rows q<=h:=of_decide_eq_false c2;refine qY ⟨_,_,_,ks,rfl,rfl,⟨J.key,J.nd,J.all,fun x y hxy k hk=>?_⟩⟩;rcases hxy with z | ⟨rfl,z⟩
       ·exact J.has x y (.inl z) k hk
       ·rcases take_snoc eq2 z with z | rfl
        ·exact J.has x y (.inr ⟨rfl,z⟩) k hk
        ·exact absurd hk.2.1 c2
    ·rintro _ _ ⟨a,b,kvs,ks,rfl,rfl,J⟩;refine⟨_,_,_,_,_,ks,rfl,rfl,⟨J.key,J.nd,J.all,fun x y hxy k hk=>?_⟩⟩;rcases take_snoc eq hxy.1 with z | rfl
     ·exact J.has x y (.inl ⟨z,hxy.2⟩) k hk
     ·refine J.has x y (.inr ⟨rfl,?_⟩) k hk;rw [aqr,aq6];exact (aiC ip).mpr hxy.2
   ·have c1:¬ h<=hgt rows p:=of_decide_eq_false c1;refine qY ⟨_,_,_,_,_,ks,rfl,rfl,⟨J.key,J.nd,J.all,fun x y hxy k hk=>?_⟩⟩;rcases take_snoc eq hxy.1 with z | rfl
    ·exact J.has x y ⟨z,hxy.2⟩ k hk
    ·exact absurd hk.1 c1
 ·rintro _ _ ⟨u,v,a,b,kvs,ks,rfl,rfl,J⟩;refine akD (anj rfl rfl (J.len g T) ⟨ks,by rw [J.key],J.nd,fun k=>⟨J.all k,?_⟩⟩);rintro⟨p,q,ip,iq,n,pe⟩;refine J.has p q ⟨?_,iq,n⟩ k pe;rw [aqr,aq6];exact mem_pts.mpr ip
theorem jG {x y:PyData} {xs ys:List PyData} (a:v3 x y=true) (b:qB xs ys=true):qB (x :: xs) (y :: ys)=true:=by
 rw [qB];split
 ·exact b
 ·exact a
theorem abB {α:Type} {F:α->PyData} (h:∀ a b,v3 (F a) (F b)=true):∀ l m:List α,qB (l.map F) (m.map F)=true
 | [],m=>by rw [asV,qB]
 | a :: l,[]=>rfl
 | a :: l,b :: m=>by
  rw [aqQ,aqQ];exact jG (h a b) (abB h l m)
theorem vp {α:Type} {F:α->PyData} (h:∀ a,zA (F a)=true):∀ l:List α,zM (l.map F)=true
 | []=>rfl
 | a :: l=>by
  show (zA (F a) && zM (l.map F))=true;rw [h a,vp h l];rfl
theorem vq {α:Type} {F:α->PyData} {n:Nat} (h:∀ a,(F a).depth<=n):∀ l:List α,aqH (l.map F)<=n
 | []=>aq2 _
 | a :: l=>Nat.max_le.mpr ⟨h a,vq h l⟩
theorem alF (a b:Pt):v3 (pD a) (pD b)=true:=by
 show qB _ _=true;exact jG rfl (jG rfl rfl)
section
variable {rows:List (List Int)} {wd:Nat} {h:Int} {rl ru:List (Bool×List Pt)} {bs as:List Key}
theorem aa1 (k:Key):zA (jM rows wd h rl ru bs as k)=true:=by
 show (true && (zM ((plc k bs).map fun (i:Nat)=>.int i) && (zM ((plc k as).map fun (i:Nat)=>.int i) && (zM ((abZ rows wd h rl ru k).map pD) && (zM ((aho rows wd h rl ru k).map pD) && true)))))=true;rw [vp (fun _=>rfl),vp (fun _=>rfl),vp (fun _=>rfl),vp (fun _=>rfl)];rfl
theorem alG (k k':Key):v3 (jM rows wd h rl ru bs as k) (jM rows wd h rl ru bs as k')=true:=by
 show qB _ _=true;refine jG rfl (jG ?_ (jG ?_ (jG ?_ (jG ?_ rfl))))
 ·exact abB (fun _ _=>rfl) _ _
 ·exact abB (fun _ _=>rfl) _ _
 ·exact abB alF _ _
 ·exact abB alF _ _
theorem adm (k:Key):(jM rows wd h rl ru bs as k).depth<=50:=by
 show max 0 (max (aqH ((plc k bs).map fun (i:Nat)=>.int i)+1) (max (aqH ((plc k as).map fun (i:Nat)=>.int i)+1) (max (aqH ((abZ rows wd h rl ru k).map pD)+1) (max (aqH ((aho rows wd h rl ru k).map pD)+1) 0))))+1<=50;have a:=vq (F:=fun (i:Nat)=>PyData.int i) (n:=0) (fun _=>aqC _) (plc k bs);have b:=vq (F:=fun (i:Nat)=>PyData.int i) (n:=0) (fun _=>aqC _) (plc k as);have c:=vq (F:=pD) (n:=1) (fun _=>aqC _) (abZ rows wd h rl ru k);have d:=vq (F:=pD) (n:=1) (fun _=>aqC _) (aho rows wd h rl ru k);omega
theorem agq (g:Good wd rows) (T:Two rows wd h rl ru) {ts:List (Bool×List Gt)} (To:Told rows wd (h - 1) ts) (al:∀ g,opG rows wd (h - 1) g=true->g∈flat ts) {ks:List Key} (nd:ks.Nodup) (m:∀ k∈ks,jI rows wd h rl ru k):SortOk "int" (ks.map (jM rows wd h rl ru (ts.map (yo rows (h - 1) rl ru)) as)) where
 plain:=fun d hd=>by obtain⟨t,_,rfl⟩:=aqG.mp hd;exact aa1 t
 head:=fun d hd=>by obtain⟨t,_,rfl⟩:=aqG.mp hd;rfl
 cmp:=fun d hd e he=>by
  obtain⟨t,_,rfl⟩:=aqG.mp hd;obtain⟨u,_,rfl⟩:=aqG.mp he;exact alG t u
 depth:=fun d hd=>by obtain⟨t,_,rfl⟩:=aqG.mp hd;exact adm t
 nd:=arA.mpr (nd.imp_of_mem fun {a b} ha hb hd e=>hd (als g T To al (m a ha) e))
end
theorem alH {K:aqu} {f:Fx} {ρ:zr} {wi:TI} {g:TG} {tt:L2.TT} {own:Nat} {fr:List Nat} {tb:Addr->TB} {P:List PyData->Prop} {α:Type} (A B:α->PyData) (h:PId K f wi ρ fun ds=>∃ xs:List α,ds=xs.map A/\xs.length<=1000 /\
   (∀ D x ρ' es,x∈xs->OwnE own (L2.frD fr ρ) ρ'->es.length<1000->PGd K (f.with D) g (A x) ρ' fun ρ2=>PTd K (f.with D) tt ρ2 fun b=>if b=true then PBd K f D (tb D) ρ2 es fun ρ3 es3=>OwnE own (L2.frD fr ρ) ρ3/\es3=es++[B x] else False)/\P (xs.map B)) :
  PEdO K f (jC wi own fr g tt tb) ρ P :=
 qW (h.imp fun ds ⟨xs,ed,hl,hs,hp⟩=>by
  subst ed;refine⟨fun i ρ' es=>OwnE own (L2.frD fr ρ) ρ'/\es=(xs.take i).map B,⟨⟨arZ own none,by simp,rfl⟩,by simp⟩,fun D i d ρ' es hd ⟨ho,he⟩=>?_,fun ρ' es ⟨_,he⟩=>?_⟩
  ·rw [aqA] at hd;cases eq:xs[i]? with
   | none=>rw [eq] at hd;cases hd
   | some x =>
    rw [eq] at hd;cases hd;have hi:i<xs.length:=(aqs.mp eq).1;have hb:es.length<1000:=by
     rw [he,aqr,arf];omega
    intro σ H v Q e r q;refine hs D x ρ' es (aqz eq) ho hb σ H v Q e r fun ρ2 σ2 H2 g2 e2 p2=>q ρ2 σ2 H2 g2 e2 (p2.imp fun b hb2=>?_);cases b with
    | false =>
     rw [if_neg aqt] at hb2;exact hb2.elim
    | true =>
     rw [if_pos rfl] at hb2 ⊢;intro h1 h2 σ3 H3 H4 W c k;exact hb2 h1 h2 σ3 H3 H4 W c fun ρ5 es5 σ5 H5 c5 ⟨o5,p5⟩=>k ρ5 es5 σ5 H5 c5 ⟨o5,by rw [p5,he,arh,eq,aqO];rfl⟩
  ·rw [he,aqr,aq6];exact hp)
def adn (rows:List (List Int)) (h:Int):Prop:=(∃ n∈rows.flatten,n<=h)/\∃ n∈rows.flatten,h<=n
structure NodesK (rows:List (List Int)) (wd:Nat) (h:Int) (es:List PyData) (rl ru:List (Bool×List Pt)) (ts us:List (Bool×List Gt)) (ks:List Key):Prop where
 two:Two rows wd h rl ru
 told:Told rows wd (h - 1) ts
 al:∀ g,opG rows wd (h - 1) g=true->g∈flat ts
 up:(ts.map ye).Pairwise fun d e=>ltD d e=true
 told2:Told rows wd h us
 al2:∀ g,opG rows wd h g=true->g∈flat us
 up2:(us.map ye).Pairwise fun d e=>ltD d e=true
 mem:∀ k,k∈ks↔jI rows wd h rl ru k
 perm:es.Perm (ks.map (jM rows wd h rl ru (ts.map (yo rows (h - 1) rl ru)) (us.map (yo rows h rl ru))))
 ris:es.Pairwise fun d e=>ltD d e=true
 len:es.length<=62
abbrev aiE (K:aqu):Sp:=spN K 2 aps fun c es=>(adn c.1 c.2.2/\∃ rl ru ts us ks,NodesK c.1 c.2.1 c.2.2 es rl ru ts us ks) \/ (¬ adn c.1 c.2.2/\es=[])
theorem alI (F:Def K mg "nodes_at" vL pG) (uae:mg "sorted"=none) (uaj:FnIn P w K mg base k "ask_table" pf (ad4 K)) (ubt:FnIn P w K mg base k "span" pf (alv K)) (ubu:FnIn P w K mg base k "both_regions" pG (alw w K)) (uaE:FnIn P w K mg base k "lines" pz (ae5 K)) (ubb:FnIn P w K mg base k "pair_beside" pS (apw w K)) (ubv:FnIn P w K mg base k "pairs" pR (aiD w K)) (ubw:FnIn P w K mg base k "points_of" pB (alz w K)) (ubx:FnIn P w K mg base k "cells_of" pB (alA w K)) (ubc:FnIn P w K mg base k "places_of" pM (anU K)):FnIn P w K mg base (k+1) "nodes_at" pG (aiE K):=by
 refine F.okN sc_nodes_at rfl fun fa cdv A outer s H E hr=>⟨_,(zc (yE (zd uaj hr rfl (za (pv 0) zb))) (zc (yf (zd ubt hr rfl (za (pv 0) zb)) (zG (K:=K) (n:=2) rfl rfl (zg (ze (i:=2) sc_nodes_at.nd rfl (Or.inl rfl) (Or.inr rfl)) (zg (ze (i:=3) sc_nodes_at.nd rfl (Or.inl rfl) (Or.inr rfl)) zD)))) (zc (yF (abF (acE va va (pv 2) (pv 1) (pv 3))) (zj (zu (z9 zb))) zS) (zc (zC (i:=4) sc_nodes_at.nd rfl (Or.inr rfl) (zd ubu hr rfl (za (pv 0) (za (pv 1) zb)))) (zc (yz (i:=5) (N:=pQ) (own:=2) (fr:=[0,4]) (by walk_at "c") rfl sc_nodes_at.nd rfl (Or.inl rfl) (zy (K:=K) rfl (zd uaE hr rfl (za (pv 0) (za (zt yh (pv 1) zf) zb)))) (fun _ _ _ _=>(zG (K:=K) (n:=2) rfl rfl (zg (ze (i:=0) (show (pQ:List Str).Nodup by decide +kernel) rfl (Or.inl rfl) (Or.inr rfl)) (zg (ze (i:=1) (show (pQ:List Str).Nodup by decide +kernel) rfl (Or.inl rfl) (Or.inr rfl)) zD)))) (fun _ _ _ _=>yc) (fun _ _ _ _=>(zd ubb hr rfl (za (pv 2) (za (pv 1) (za (pv 3) zb))))) rfl rfl (fun _=>rfl) (Or.inl rfl) rfl) (zc (yz (i:=6) (N:=pQ) (own:=2) (fr:=[0,4]) (by walk_at "c") rfl sc_nodes_at.nd rfl (Or.inl rfl) (zy (K:=K) rfl (zd uaE hr rfl (za (pv 0) (za (pv 1) zb)))) (fun _ _ _ _=>(zG (K:=K) (n:=2) rfl rfl (zg (ze (i:=0) (show (pQ:List Str).Nodup by decide +kernel) rfl (Or.inl rfl) (Or.inr rfl)) (zg (ze (i:=1) (show (pQ:List Str).Nodup by decide +kernel) rfl (Or.inl rfl) (Or.inr rfl)) zD)))) (fun _ _ _ _=>yc) (fun _ _ _ _=>(zd ubb hr rfl (za (pv 2) (za (pv 1) (za (pv 3) zb))))) rfl rfl (fun _=>rfl) (Or.inl rfl) rfl) (zc (zC (i:=7) sc_nodes_at.nd rfl (Or.inl rfl) (z9 zb)) (zc (yG aq7 rfl (zy (K:=K) rfl (zd ubv hr rfl (za (pv 0) (za (pv 1) (za (pv 4) zb))))) (ze (i:=8) sc_nodes_at.nd rfl (Or.inl rfl) (Or.inr rfl)) (zc (zC (i:=9) sc_nodes_at.nd rfl (Or.inl rfl) (zd ubw hr rfl (za (pv 0) (za (pv 1) (za (pv 8) (za (pv 4) zb)))))) (zc (zC (i:=10) sc_nodes_at.nd rfl (Or.inl rfl) (zd ubx hr rfl (za (pv 0) (za (pv 1) (za (pv 8) (za (pv 4) zb)))))) (zj (yE (aa4 ark aro arp yT (pv 7) (za (zv (za (pv 1) (za (zd ubc hr rfl (za (pv 8) (za (pv 5) zb))) (za (zd ubc hr rfl (za (pv 8) (za (pv 6) zb))) (za (pv 9) (za (pv 10) zb)))))) zb))))))) (zj (zu (zz (vE (K:=K) rfl hr.units) rfl uae asw (za (pv 7) zb)))))))))))),?_⟩;rintro f xs ⟨rows,wd,h⟩ hl ⟨rfl,g⟩
 try dsimp only [ya,zi]
 dsimp only at *;have g2:=g.h2;have w2:=g.w2;refine ve (aaR (zq (rows,wd) ?_));walk_at "w";rintro _ rfl;refine ve (z6 (zq (rows,wd) (agV rfl ⟨rfl,⟨rfl,g⟩,?_⟩)));rintro _ ⟨m,M,rfl,⟨m1,m2⟩,M1,M2⟩;refine yk rfl (zo (zh (zo (zh (zO ?_)))));have spn:(m<=h/\h<=M)↔adn rows h:=⟨fun z=>⟨⟨m,m1,z.1⟩,M,M1,z.2⟩,fun⟨⟨a,ha,la⟩,b,hb,lb⟩=>⟨ar7 (m2 a ha) la,ar7 lb (M2 b hb)⟩⟩;refine aki (adL (zT (aam (zk rfl ⟨_,rfl,zk rfl ⟨_,rfl,?_⟩⟩))));have out:¬ adn rows h->PEdO K f (afi yY) [some (.dat (tab rows)),some (.dat (.int h)),some (.dat (.int m)),some (.dat (.int M)),none,none,none,none,none,none,none] fun es=>(adn rows h/\∃ rl ru ts us ks,NodesK rows wd h es rl ru ts us ks) \/ (¬ adn rows h/\es=[]):=fun ns=>aac (zH ⟨[],rfl,aq2 _,.inr ⟨ns,rfl⟩⟩);refine z7 (fun c1=>?_) fun c1=>⟨_,rfl,out fun z=>(of_decide_eq_false c1) (spn.mpr z).1⟩;have c1:=of_decide_eq_true c1;refine zk rfl ⟨_,rfl,_,rfl,?_⟩;by_cases c2:¬ h<=M
 ·rw [decide_eq_false c2];exact out fun z=>c2 (spn.mpr z).2
 have c2:=Decidable.not_not.mp c2;rw [decide_eq_true c2];have hsp:=spn.mp ⟨c1,c2⟩;show PSn K f _ [some (.dat (tab rows)),some (.dat (.int h)),some (.dat (.int m)),some (.dat (.int M)),none,none,none,none,none,none,none] _;refine ve (agU (agT (rows,wd,h) (qx rfl rfl ⟨rfl,⟨rfl,g⟩,?_⟩)));rintro _ ⟨rl,ru,kvs,rfl,T,l1,l2,hb⟩;dsimp only at T hb;have lin:∀ {c:Int} {ts:List (Bool×List Gt)} (To:Told rows wd c ts),∀ (D:Addr) (t:Bool×List Gt) (ρ':zr) (es:List PyData),t∈ts->OwnE 2 [some (.dat (tab rows)),some (.mon (jQ w K kvs))] ρ'->es.length<1000->PGd K (f.with D) (al1 K 2 (aht (yX 0) (aht (yX 1) aog))) (ye t) ρ' fun ρ2=>PTd K (f.with D) ajY ρ2 fun b=>if b=true then PBd K f D (vb D (acH (apw w K) [] E0 (zN (zR 2) (zN (zR 1) (zN (zR 3) yY))))) ρ2 es fun ρ3 es3=>OwnE 2 [some (.dat (tab rows)),some (.mon (jQ w K kvs))] ρ3/\es3=es++[kD (yo rows c rl ru t)] else False:=by
  rintro c ts To D t ρ' es ht ho hes;obtain⟨u,v,rfl⟩:=ho.two;have L:=To.line t ht;obtain⟨g0,l,el⟩:=atH L.ne;have op:=L.op g0 (by rw [el];exact aqv);have hd:hdG t=g0:=by unfold hdG;rw [el];rfl
  unfold ye yo;rw [el,hd];refine yk rfl (zo (zh (zo (zh (zO (jo ?_))))));rw [if_pos rfl];refine yl hes (zq ((rows,wd,c),(g0,l),rl,ru,kvs) (zp (zk rfl (zp (zk rfl (afS (v_var rfl (zH ⟨rfl,⟨rfl,g,op,hb⟩,?_⟩))))))));rintro _ rfl;exact⟨.mk2,rfl⟩
 refine ve (z6 (PEdO.ped (alH ye (fun t=>kD (yo rows (h - 1) rl ru t)) (zV (PEdO.ped (jg (rows,wd,h - 1) (zp (zk rfl (zp (jf (zk rfl ⟨_,rfl,yb ⟨_,rfl,zH ⟨rfl,⟨rfl,g⟩,?_⟩⟩⟩)))))))))));rintro _ ⟨ts,rfl,To,al,up⟩;have fewT:=To.few g;refine⟨_,rfl,ts,rfl,by omega,lin To,zh ?_⟩;refine ve (z6 (PEdO.ped (alH ye (fun t=>kD (yo rows h rl ru t)) (zV (PEdO.ped (jg (rows,wd,h) (qx rfl rfl ⟨rfl,⟨rfl,g⟩,?_⟩)))))));rintro _ ⟨us,rfl,Uo,alU,upU⟩;have fewU:=Uo.few g;refine⟨_,rfl,us,rfl,by omega,lin Uo,zh ?_⟩;refine ah6 (w:=w) (agL (jO (aac (zH ⟨[],rfl,aq2 _,show 7<11 by decide,fun D1=>?_⟩))));show agK w K f [D1] _ [some (.dat (tab rows)),some (.dat (.int h)),some (.dat (.int m)),some (.dat (.int M)),some (.mon (jQ w K kvs)),some (.dat (.list (ts.map fun t=>kD (yo rows (h - 1) rl ru t)))),some (.dat (.list (us.map fun t=>kD (yo rows h rl ru t)))),some (.own (f.M.length+0)),none,none,none] [OC.lst []] _;have e1:(ts.map fun t=>kD (yo rows (h - 1) rl ru t))=(ts.map (yo rows (h - 1) rl ru)).map kD:=by rw [arR];rfl
 have e2:(us.map fun t=>kD (yo rows h rl ru t))=(us.map (yo rows h rl ru)).map kD:=by rw [arR];rfl
 rw [e1,e2];have b1:(ts.map (yo rows (h - 1) rl ru)).length<=49:=by rw [aqr];exact fewT
 have b2:(us.map (yo rows h rl ru)).length<=49:=by rw [aqr];exact fewU
 obtain⟨bs,ebs⟩:∃ bs,bs=ts.map (yo rows (h - 1) rl ru):=⟨_,rfl⟩;obtain⟨as,eas⟩:∃ as,as=us.map (yo rows h rl ru):=⟨_,rfl⟩;rw [<-ebs] at b1 ⊢;rw [<-eas] at b2 ⊢;refine akz (jK (zV (zq ((rows,wd,h),rl,ru,kvs) (zp (zk rfl (zp (zk rfl (afS (v_var rfl (zH ⟨rfl,⟨rfl,g,T,hb⟩,?_⟩))))))))));rintro _ ⟨ks,rfl,nd,mem⟩;dsimp only at mem;have few:=aaC g T nd fun k hk=>(mem k).mp hk;refine⟨_,rfl,fun n ρ cs=>∃ u v a,ρ=[some (.dat (tab rows)),some (.dat (.int h)),some (.dat (.int m)),some (.dat (.int M)),some (.mon (jQ w K kvs)),some (.dat (.list (bs.map kD))),some (.dat (.list (as.map kD))),some (.own (f.M.length+0)),u,v,a]/\cs=[OC.lst ((ks.take n).map (jM rows wd h rl ru bs as))],⟨_,_,_,rfl,rfl⟩,?_,?_⟩
 ·rintro n d _ _ hd ⟨u,v,a,rfl,rfl⟩;rw [aqA] at hd;cases eq:ks[n]? with
  | none=>rw [eq] at hd;cases hd
  | some q =>
   rw [eq] at hd;cases hd;refine zh (yD (vX (ju (zq ((rows,wd,h),q,rl,ru,kvs) (zp (zk rfl (zp (zk rfl (zp (zk rfl (afS (v_var rfl (zH ⟨rfl,⟨rfl,g,hb⟩,?_⟩)))))))))))));rintro _ rfl;refine yD (vX (ju (zq ((rows,wd,h),q,rl,ru,kvs) (zp (zk rfl (zp (zk rfl (zp (zk rfl (afS (v_var rfl (zH ⟨rfl,⟨rfl,g,hb⟩,?_⟩))))))))))));rintro _ rfl;refine aba rfl rfl ?_ (ju (yP (zp (zk rfl (zp (zq (q,bs) (qx rfl rfl ⟨rfl,⟨rfl,aqS b1 (by decide)⟩,?_⟩)))))))
   ·rw [aqr,arf];omega
   rintro _ rfl;refine zp (zq (q,as) (qx rfl rfl ⟨rfl,⟨rfl,aqS b2 (by decide)⟩,?_⟩));rintro _ rfl;refine qx rfl rfl ⟨_,rfl,aqB rfl,_,_,_,rfl,?_⟩;rw [arh,eq,aqO];rfl
 ·rintro _ _ ⟨u,v,a,rfl,rfl⟩;rw [aqr,aq6];refine ah7 (adR (acW "int" (zk (i:=7) (d:=.list (ks.map (jM rows wd h rl ru bs as))) ?_ ⟨_,rfl,?_,by rw [aqr];omega,.inl (by rw [aqr];omega),fun es pm ri=>?_⟩)))
  ·show some (freed _ _ _)=_;simp [freed]
  ·rw [ebs];exact agq g T To al nd fun k hk=>(mem k).mp hk
  ·rw [ebs,eas] at pm;exact .inl ⟨hsp,rl,ru,ts,us,ks,⟨T,To,al,up,Uo,alU,upU,mem,pm,ri,by rw [pm.length_eq,aqr];omega⟩⟩
theorem apz (a b:Pt):aqX (pD a) (pD b)=decide (a=b):=by
 show (decide (a.1=b.1) && (decide (a.2=b.2) && true))=_;rw [as8,<- auj];exact decide_eq_decide.mpr ⟨fun⟨x,y⟩=>ash x y,fun z=>by rw [z];exact⟨rfl,rfl⟩⟩
noncomputable def inL (p:Pt) (l:List Pt):Bool:=decide (p∈l)
theorem aiF (p:Pt):∀ l:List Pt,((l.map pD).any fun e=>aqX e (pD p))=inL p l
 | []=>rfl
 | a :: l=>by
  rw [aqQ,asK,apz,aiF p l];unfold inL;rw [<-Bool.decide_or];exact decide_eq_decide.mpr ⟨fun z=>z.elim (fun e=>e▸aqv) (aqw _),fun z=>(aqE.mp z).imp Eq.symm id⟩
theorem aef {K:aqu} {f:Fx} {ρ:zr} {P:PyData->Prop} {ta:TE} {j:Nat} (r:Bool×List Pt) (p:Pt) (h2:ρ[j]?=some (some (.dat (yB r)))) (h1:PEd K f ta ρ fun d=>d=pD p) (q:P (.bool (inL p r.2))):PEd K f (tOp (afT K) ta (tOp (afl K) (zR j) (tC (V.int 1)))) ρ P:=by
 refine aoX (h1.imp fun d ed=>?_);subst ed;refine jE (zk h2 ⟨_,rfl,yb ⟨_,rfl,_,rfl,⟨_,rfl,rfl,fun e he=>?_,aqB rfl,?_⟩⟩⟩)
 ·obtain⟨z,_,rfl⟩:=aqG.mp he;rfl
 ·rw [aiF];exact q
abbrev alJ (K:aqu):Sp:=spD K 3 (fun (c:(List (List Int)×Nat×Int)×Bool×Gt×List Gt) xs=>xs=[.dat (tab c.1.1),.dat (.int c.1.2.2),.dat (ye (c.2.1,c.2.2.1 :: c.2.2.2))]/\Good c.1.2.1 c.1.1/\opG c.1.1 c.1.2.1 c.1.2.2 c.2.2.1=true) fun c r=>r=.tuple [pD (hpt c.1.1 c.1.2.2 true c.2.2.1),pD (hpt c.1.1 c.1.2.2 false c.2.2.1)]
theorem anl (F:Def K mg "_law_ends" vP qa):FnIn P w K mg base (k+1) "_law_ends" qa (alJ K):=by
 refine F.ok sc_law_ends rfl fun fa cdv A outer s H E hr=>⟨_,(zc (yf (zE (zW (K:=K) rfl) (zE (zW (K:=K) rfl) (pv 2) zf (fun _ _=>rfl)) zf (fun _ _=>rfl)) (zG (K:=K) (n:=3) rfl rfl (zg (ze (i:=3) sc_law_ends.nd rfl (Or.inl rfl) (Or.inr rfl)) (zg (ze (i:=4) sc_law_ends.nd rfl (Or.inl rfl) (Or.inr rfl)) (zg (ze (i:=5) sc_law_ends.nd rfl (Or.inl rfl) (Or.inr rfl)) zD))))) (zc (aoi (i:=6) (j:=7) rfl sc_law_ends.nd rfl rfl (by decide) rfl rfl (za (zv (za (pv 3) (za (pv 4) zb))) (za (zE (zF (K:=K) rfl) (z9 (za (zv (za (zt zP (pv 3) zf) (za (pv 4) zb))) (za (zv (za (pv 3) (za (zt zP (pv 4) zf) zb))) zb))) (pv 5) (fun _ _=>rfl)) zb)) rfl) (zc (yF (zI ahw (zE (zF (K:=K) rfl) (zE (zF (K:=K) rfl) (pv 0) (zE (zW (K:=K) rfl) (pv 6) zf (fun _ _=>rfl)) (fun _ _=>rfl)) (zE (zW (K:=K) rfl) (pv 6) zf (fun _ _=>rfl)) (fun _ _=>rfl)) (pv 1) (z8 _)) (zj (zu (zv (za (pv 6) (za (pv 7) zb))))) zS) (zj (zu (zv (za (pv 7) (za (pv 6) zb)))))))),?_⟩;rintro f xs ⟨⟨rows,wd,cut⟩,b,g0,l⟩ hl ⟨rfl,g,op⟩
 try dsimp only [ya,zi]
 dsimp only at *;obtain⟨x,y,wy⟩:=g0;have op':=op;unfold opG yK vh at op';rw [aqy,aqy,aqy,decide_eq_true_iff] at op';obtain⟨⟨hw,j1,j2⟩,ne⟩:=op';dsimp only at hw j1 j2 ne;obtain⟨r,e1,e2⟩:=vi g j1;refine yq (z6 (jE (jE (zk rfl ⟨_,rfl,yb ⟨_,rfl,_,rfl,⟨_,rfl,yb ⟨_,rfl,_,yU (k:=0) (j:=0) (xs:=(x,y,wy) :: l) rfl (asW _),?_⟩⟩⟩⟩))));refine yk rfl (zo (zh (zo (zh (zo (zh (zO ?_)))))));have at2:atI [PyData.tuple [.int (x+1),.int y],PyData.tuple [.int x,.int (y+1)]] wy=some (pD (px x wy,py y wy)):=by
  rcases hw with rfl | rfl <;> rfl
 refine yq (apP (zp (yP (qx rfl rfl ⟨_,rfl,aqB rfl,?_⟩))));refine zp (aaI (aaa (zp (yP (zp (jf (zk rfl ⟨_,rfl,yb ⟨_,rfl,agV rfl ⟨_,rfl,aqB rfl,?_⟩⟩⟩))))))) ;refine zp (yP (zp (zk rfl (zp (jf (zk rfl ⟨_,rfl,yb ⟨_,rfl,zH ⟨_,rfl,aqB rfl,zH ⟨_,rfl,aqB rfl,⟨_,rfl,zk rfl ⟨_,rfl,_,at2,zH ⟨_,_,rfl,?_⟩⟩⟩⟩⟩⟩⟩))))));have fin:∀ z:Bool,decide (cut<zQ rows x y)=z->PyData.tuple [pD (if z=true then (x,y) else (px x wy,py y wy)),pD (if z=true then (px x wy,py y wy) else (x,y))]=.tuple [pD (hpt rows cut true (x,y,wy)),pD (hpt rows cut false (x,y,wy))]:=by
  intro z hz;unfold hpt hiB;dsimp only;rw [hz];cases z <;> rfl
 refine yq (aep (zT (adK (aaI (aaI (zk rfl ⟨_,rfl,jE (zk rfl ⟨_,rfl,yb ⟨_,rfl,_,rfl,⟨_,rfl,_,e1,⟨_,rfl,jE (zk rfl ⟨_,rfl,yb ⟨_,rfl,_,rfl,⟨_,rfl,_,e2,⟨_,rfl,zk rfl ⟨_,rfl,_,rfl,?_⟩⟩⟩⟩⟩)⟩⟩⟩⟩)⟩))))));refine z7 (fun c1=>?_) fun c1=>?_
 ·exact yA (yP (qx rfl rfl ⟨_,rfl,aqB rfl,fin true c1⟩))
 ·exact aaJ (yA (yP (qx rfl rfl ⟨_,rfl,aqB rfl,fin false c1⟩)))
noncomputable def abC (p:Pt):List Pt:=[(p.1+1,p.2),(p.1 - 1,p.2),(p.1,p.2+1),(p.1,p.2 - 1)]
noncomputable def abD (a b:List Pt):Bool:=a.any fun p=>inL p b || (abC p).any fun q=>inL q b
abbrev alK (K:aqu):Sp:=spD K 2 (fun (c:(Bool×List Pt)×Bool×List Pt) xs=>xs=[.dat (yB c.1),.dat (yB c.2)]/\c.1.2.length<=49/\c.2.2.length<=49) fun c r=>r=.bool (abD c.1.2 c.2.2)
theorem anm (F:Def K mg "_law_meet" vQ qb):FnIn P w K mg base (k+1) "_law_meet" qb (alK K):=by
 refine F.ok sc_law_meet rfl fun fa cdv A outer s H E hr=>⟨_,(zc (yG aq7 rfl (aan (K:=K) rfl (zE (zW (K:=K) rfl) (pv 0) zf (fun _ _=>rfl))) (zG (K:=K) (n:=2) rfl rfl (zg (ze (i:=2) sc_law_meet.nd rfl (Or.inl rfl) (Or.inr rfl)) (zg (ze (i:=3) sc_law_meet.nd rfl (Or.inl rfl) (Or.inr rfl)) zD))) (zc (yF (zI (qw (K:=K) rfl hr.units) (zv (za (pv 2) (za (pv 3) zb))) (zE (zW (K:=K) rfl) (pv 1) zf (fun _ _=>rfl)) rfl) (zj (zu vU)) zS) (zj (yG aq7 rfl (zy (K:=K) rfl (z9 (za (zv (za (zt zP (pv 2) zf) (za (pv 3) zb))) (za (zv (za (zt yh (pv 2) zf) (za (pv 3) zb))) (za (zv (za (pv 2) (za (zt zP (pv 3) zf) zb))) (za (zv (za (pv 2) (za (zt yh (pv 3) zf) zb))) zb)))))) (ze (i:=4) sc_law_meet.nd rfl (Or.inl rfl) (Or.inr rfl)) (zj (yF (zI (qw (K:=K) rfl hr.units) (pv 4) (zE (zW (K:=K) rfl) (pv 1) zf (fun _ _=>rfl)) rfl) (zj (zu vU)) zS)))))) (zj (zu vU))),?_⟩;rintro f xs ⟨⟨h1,ps⟩,h2,qs⟩ hl ⟨rfl,l1,l2⟩
 try dsimp only [ya,zi]
 dsimp only at *;have key:∀ {ps:List Pt} {n:Nat} {p:Pt},ps[n]?=some p->((inL p qs || (abC p).any fun q=>inL q qs)=true)->abD ps qs=true:=fun {ps n p} hp hq=>asd.mpr ⟨p,aqz hp,hq⟩;refine yq (akc (adO (jE (zk rfl ⟨_,rfl,yb ⟨_,rfl,_,rfl,?_⟩⟩))));refine⟨_,rfl,fun n ρ=>(∃ u v a,ρ=[some (.dat (yB (h1,ps))),some (.dat (yB (h2,qs))),u,v,a])/\abD (ps.take n) qs=false,⟨⟨_,_,_,rfl⟩,rfl⟩,?_,?_⟩
 ·rintro n d _ hd ⟨⟨u,v,a,rfl⟩,J⟩;rw [aqA] at hd;cases eq:ps[n]? with
  | none=>rw [eq] at hd;cases hd
  | some p =>
   rw [eq] at hd;cases hd;refine yk rfl (zo (zh (zo (zh (zO ?_)))));refine yq (aep (zT (aef (h2,qs) p rfl (yP (qx rfl rfl ⟨_,rfl,aqB rfl,rfl⟩)) ⟨_,rfl,?_⟩)));refine z7 (fun c1=>?_) fun c1=>aaJ ?_
   ·refine yA (afr ?_);show PyData.bool true=_;rw [key eq (by rw [c1];rfl)]
   refine akc (zV ?_);have four:PEd K f (afi (zN (acG (zN (tOp (rI0 fun i j=>V.int (i+j)) (zR 2) (tC (V.int 1))) (zN (zR 3) yY))) (zN (acG (zN (tOp (rI0 fun i j=>V.int (i - j)) (zR 2) (tC (V.int 1))) (zN (zR 3) yY))) (zN (acG (zN (zR 2) (zN (tOp (rI0 fun i j=>V.int (i+j)) (zR 3) (tC (V.int 1))) yY))) (zN (acG (zN (zR 2) (zN (tOp (rI0 fun i j=>V.int (i - j)) (zR 3) (tC (V.int 1))) yY))) yY))))) [some (.dat (yB (h1,ps))),some (.dat (yB (h2,qs))),some (.dat (.int p.1)),some (.dat (.int p.2)),a] fun d=>d=.list ((abC p).map pD):=by
    refine aaa ?_;walk_at "w";rfl
   refine four.imp fun d ed=>?_;subst ed;refine⟨_,rfl,fun m ρ=>(∃ a,ρ=[some (.dat (yB (h1,ps))),some (.dat (yB (h2,qs))),some (.dat (.int p.1)),some (.dat (.int p.2)),a])/\∀ q∈(abC p).take m,inL q qs=false,⟨⟨_,rfl⟩,(fun q hq=>by cases hq)⟩,?_,?_⟩
   ·rintro m d _ hd ⟨⟨a,rfl⟩,J2⟩;rw [aqA] at hd;cases eq2:(abC p)[m]? with
    | none=>rw [eq2] at hd;cases hd
    | some q =>
     rw [eq2] at hd;cases hd;refine zh (aep (zT (aef (h2,qs) q rfl (zk rfl rfl) ⟨_,rfl,?_⟩)));refine z7 (fun c2=>?_) fun c2=>aaJ ⟨⟨_,rfl⟩,fun z hz=>?_⟩
     ·refine yA (afr ?_);show PyData.bool true=_;rw [key eq (by rw [atw];exact .inr (asd.mpr ⟨q,aqz eq2,c2⟩))]
     ·rcases take_snoc eq2 hz with z' | rfl
      ·exact J2 z z'
      ·exact c2
   ·rintro _ ⟨⟨a,rfl⟩,J2⟩;rw [aqr,aq6] at J2;refine⟨⟨_,_,_,rfl⟩,?_⟩;rw [arh,eq];unfold abD at J ⊢;rw [List.any_append,J];show (false || ((inL p qs || (abC p).any fun q=>inL q qs) || false))=false;have c3:((abC p).any fun q=>inL q qs)=false:=List.any_eq_false.mpr fun q hq=>by rw [J2 q hq];exact aqt
    rw [c3,c1];rfl
 ·rintro _ ⟨⟨u,v,a,rfl⟩,J⟩;rw [aqr,aq6] at J;refine yA (afr ?_);rw [J]
noncomputable def ofL (rows:List (List Int)) (cut:Int) (ts:List (Bool×List Gt)) (a b:List Pt):List Nat:=(aqL ts.length).filter fun i=>inL (hpt rows cut true (hdG (ts.getD i (false,[])))) a && inL (hpt rows cut false (hdG (ts.getD i (false,[])))) b
abbrev aqg (K:aqu):Sp:=spD K 5 (fun (c:(List (List Int)×Nat×Int)×List (Bool×List Gt)×(Bool×List Pt)×Bool×List Pt) xs=>xs=[.dat (tab c.1.1),.dat (.int c.1.2.2),.dat (.list (c.2.1.map ye)),.dat (yB c.2.2.1),.dat (yB c.2.2.2)]/\Good c.1.2.1 c.1.1/\Told c.1.1 c.1.2.1 c.1.2.2 c.2.1/\c.2.2.1.2.length<=49/\c.2.2.2.2.length<=49) fun c r=>r=ajI (ofL c.1.1 c.1.2.2 c.2.1 c.2.2.1.2 c.2.2.2.2)
theorem aqh (F:Def K mg "_law_of" abm qc) (uaa:mg "len"=none) (uac:mg "range"=none) (uab:mg "tuple"=none) (uby:FnIn P w K mg base k "_law_ends" qa (alJ K)):FnIn P w K mg base (k+1) "_law_of" qc (aqg K):=by
 refine F.ok sc_law_of rfl fun fa cdv A outer s H E hr=>⟨_,(zc (zC (i:=5) sc_law_of.nd rfl (Or.inl rfl) (z9 zb)) (zc (yG aq7 rfl (yM rfl uac (za (zz (yt (K:=K) rfl) rfl uaa arF (za (pv 2) zb)) zb)) (ze (i:=6) sc_law_of.nd rfl (Or.inl rfl) (Or.inr rfl)) (zc (yf (zd uby hr rfl (za (pv 0) (za (pv 1) (za (zE (zF (K:=K) rfl) (pv 2) (pv 6) (fun _ _=>rfl)) zb)))) (zG (K:=K) (n:=2) rfl rfl (zg (ze (i:=7) sc_law_of.nd rfl (Or.inl rfl) (Or.inr rfl)) (zg (ze (i:=8) sc_law_of.nd rfl (Or.inl rfl) (Or.inr rfl)) zD)))) (zj (yF (PW.pt (v7 (zI (qw (K:=K) rfl hr.units) (pv 7) (zE (zW (K:=K) rfl) (pv 3) zf (fun _ _=>rfl)) rfl) (vt (zI (qw (K:=K) rfl hr.units) (pv 8) (zE (zW (K:=K) rfl) (pv 4) zf (fun _ _=>rfl)) rfl)))) (zj (yE (aa4 ark aro arp yT (pv 5) (za (pv 6) zb)))) zS)))) (zj (zu (yS (yJ (K:=K) rfl) rfl uab arz (za (pv 5) zb)))))),?_⟩;rintro f xs ⟨⟨rows,wd,cut⟩,ts,⟨h1,ps⟩,h2,qs⟩ hl ⟨rfl,g,To,l1,l2⟩
 try dsimp only [ya,zi]
 dsimp only at *;have few:=To.few g;refine aae (w:=w) (abb (jO (aac (zH ⟨[],rfl,aq2 _,show 5<9 by decide,fun D1=>?_⟩))));show PSm w K f [D1] _ [some (.dat (tab rows)),some (.dat (.int cut)),some (.dat (.list (ts.map ye))),some (.dat (yB (h1,ps))),some (.dat (yB (h2,qs))),some (.own (f.M.length+0)),none,none,none] [OC.lst []] _;refine yD (jK (qE (zp (aft (zp (zk rfl (zH (.inl ⟨_,rfl,zH ⟨_,rfl,?_,?_,fun n ρ cs=>(∃ u v a,ρ=[some (.dat (tab rows)),some (.dat (.int cut)),some (.dat (.list (ts.map ye))),some (.dat (yB (h1,ps))),some (.dat (yB (h2,qs))),some (.own (f.M.length+0)),u,v,a])/\cs=[OC.lst (((aqL n).filter fun i=>inL (hpt rows cut true (hdG (ts.getD i (false,[])))) ps && inL (hpt rows cut false (hdG (ts.getD i (false,[])))) qs).map fun (i:Nat)=>.int i)],⟨⟨_,_,_,rfl⟩,rfl⟩,?_,?_⟩⟩))))))))
 ·rw [aqr];omega
 ·rw [aqr];omega
 ·rintro n d _ _ hd ⟨⟨u,v,a,rfl⟩,rfl⟩;obtain⟨hn,rfl⟩:=jF hd;have hn':n<ts.length:=by rw [aqr] at hn;omega
  have L:=To.line _ (aq0 hn');obtain⟨g0,l,el⟩:=atH L.ne;have op:=L.op g0 (by rw [el];exact aqv);have e0:ts.getD n (false,[])=ts[n]:=by rw [aqx,aqq hn'];rfl
  have hh:hdG ts[n]=g0:=by unfold hdG;rw [el];rfl
  have at1:atI (ts.map ye) (n:Int)=some (ye (ts[n].1,g0 :: l)):=by
   rw [<-el];exact yU (j:=n) rfl hn'
  refine zh (yD (ac2 (z6 (zq ((rows,wd,cut),ts[n].1,g0,l) (zp (zk rfl (zp (zk rfl (zp (aaI (zk rfl ⟨_,rfl,zk rfl ⟨_,rfl,_,at1,zH ⟨rfl,⟨rfl,g,op⟩,?_⟩⟩⟩)))))))))));rintro _ rfl;refine yk rfl (zo (zh (zo (zh (zO ?_)))));have step:∀ c:Bool,(inL (hpt rows cut true g0) ps && inL (hpt rows cut false g0) qs)=c->((aqL (n+1)).filter fun i=>inL (hpt rows cut true (hdG (ts.getD i (false,[])))) ps && inL (hpt rows cut false (hdG (ts.getD i (false,[])))) qs)=((aqL n).filter fun i=>inL (hpt rows cut true (hdG (ts.getD i (false,[])))) ps && inL (hpt rows cut false (hdG (ts.getD i (false,[])))) qs)++(if c=true then [n] else []):=fun c hc=>by
   rw [arS,arl];refine congrArg _ ?_;rw [aq9,e0,hh,hc];rfl
  have len:=aq8 (fun i=>inL (hpt rows cut true (hdG (ts.getD i (false,[])))) ps && inL (hpt rows cut false (hdG (ts.getD i (false,[])))) qs) (aqL n);rw [ara] at len;refine adv (agJ (ab0 (inL (hpt rows cut true g0) ps) (inL (hpt rows cut false g0) qs) (zT (aef (h1,ps) _ rfl (zk rfl rfl) ⟨_,rfl,rfl⟩)) (fun _=>zT (aef (h2,qs) _ rfl (zk rfl rfl) ⟨_,rfl,rfl⟩)) ?_));refine z7 (fun c1=>?_) fun c1=>?_
  ·refine aba rfl rfl (by rw [aqr];omega) (ju (zk rfl ⟨⟨_,_,_,rfl⟩,?_⟩));rw [step true c1,aqO];rfl
  ·refine qY ⟨⟨_,_,_,rfl⟩,?_⟩;rw [step false c1];rw [if_neg aqt,arc]
 ·rintro _ _ ⟨⟨u,v,a,rfl⟩,rfl⟩;rw [jv,ass,aqr];refine ac3 (yA (vC (zp (zk (i:=5) (d:=.list ((ofL rows cut ts ps qs).map fun (i:Nat)=>.int i)) ?_ (zH (.inl ⟨_,rfl,rfl⟩))))));show some (freed _ _ _)=_;simp [freed,ofL]
theorem aiG {α:Type} (F:α->PyData) (l:List α):aqX (.list (l.map F)) (.list [])=l.isEmpty:=by cases l <;> rfl
theorem ae9 {α:Type} (p:α->Bool):∀ l:List α,(!(l.filter p).isEmpty)=l.any p
 | []=>rfl
 | a :: l=>by
  rw [aq9,asK];cases h:p a with
  | true=>rw [if_pos rfl];rfl
  | false=>rw [if_neg aqt,ae9 p l,auG]
theorem afa:∀ l:List Pt,(PyData.list (l.map pD)).canLay0=true
 | []=>rfl
 | a :: l=>by
  have h:asr (l.map pD)=true:=afa l;show (true && asr (l.map pD))=true;rw [h];rfl
theorem ajL (t n:Nat):yu t (n+1)=yu t n++(aqL t).map fun (y:Nat)=>((n:Int),(y:Int)):=by
 unfold yu;rw [arS,arI];simp
noncomputable def ado (rows:List (List Int)) (h:Int) (a b:List Pt) (c:Pt):Bool:=vY rows h c && ((jY c).any (fun p=>inL p a) && (jY c).any fun p=>inL p b)
abbrev alL (K:aqu):Sp:=spD K 4 (fun (c:(List (List Int)×Nat×Int)×(Bool×List Pt)×Bool×List Pt) xs=>xs=[.dat (tab c.1.1),.dat (.int c.1.2.2),.dat (yB c.2.1),.dat (yB c.2.2)]/\Good c.1.2.1 c.1.1/\c.2.1.2.length<=49/\c.2.2.2.length<=49) fun c r=>r=.tuple (((yu (c.1.1.length - 1) (c.1.2.1 - 1)).filter (ado c.1.1 c.1.2.2 c.2.1.2 c.2.2.2)).map pD)
theorem ano (F:Def K mg "_law_cells" qQ qd) (uaa:mg "len"=none) (uac:mg "range"=none) (uab:mg "tuple"=none) (ual:mg "sum"=none):FnIn P w K mg base (k+1) "_law_cells" qd (alL K):=by
 refine F.ok sc_law_cells rfl fun fa cdv A outer s H E hr=>⟨_,(zc (zC (i:=4) sc_law_cells.nd rfl (Or.inl rfl) (z9 zb)) (zc (yG aq7 rfl (yM rfl uac (za (zt yh (zz (yt (K:=K) rfl) rfl uaa arF (za (zE (zF (K:=K) rfl) (pv 0) zf (fun _ _=>rfl)) zb)) zf) zb)) (ze (i:=5) sc_law_cells.nd rfl (Or.inl rfl) (Or.inr rfl)) (zj (yG aq7 rfl (yM rfl uac (za (zt yh (zz (yt (K:=K) rfl) rfl uaa arF (za (pv 0) zb)) zf) zb)) (ze (i:=6) sc_law_cells.nd rfl (Or.inl rfl) (Or.inr rfl)) (zc (zC (i:=7) sc_law_cells.nd rfl (Or.inl rfl) (z9 (za (zv (za (pv 5) (za (pv 6) zb))) (za (zv (za (zt zP (pv 5) zf) (za (pv 6) zb))) (za (zv (za (zt zP (pv 5) zf) (za (zt zP (pv 6) zf) zb))) (za (zv (za (pv 5) (za (zt zP (pv 6) zf) zb))) zb)))))) (zc (zC (i:=8) sc_law_cells.nd rfl (Or.inl rfl) (zz (aaT (K:=K) rfl rfl) rfl ual atl (za (zX (N:=ql) (own:=2) (fr:=[0]) (by walk_at "c") rfl (zy (K:=K) rfl (pv 7)) (fun _ _ _ _=>(zG (K:=K) (n:=2) rfl rfl (zg (ze (i:=0) (show (ql:List Str).Nodup by decide +kernel) rfl (Or.inl rfl) (Or.inr rfl)) (zg (ze (i:=1) (show (ql:List Str).Nodup by decide +kernel) rfl (Or.inl rfl) (Or.inr rfl)) zD)))) (fun _ _ _ _=>yc) (fun _ _ _ _=>(zE (zF (K:=K) rfl) (zE (zF (K:=K) rfl) (pv 2) (pv 1) (fun _ _=>rfl)) (pv 0) (fun _ _=>rfl))) rfl rfl (fun _=>rfl)) zb))) (zc (yz (i:=9) (N:=["_law_point","_law_upper"]) (own:=1) (fr:=[2]) (by walk_at "c") rfl sc_law_cells.nd rfl (Or.inl rfl) (zy (K:=K) rfl (pv 7)) (fun _ _ _ _=>(ze (i:=0) (show (["_law_point","_law_upper"]:List Str).Nodup by decide +kernel) rfl (Or.inl rfl) (Or.inr rfl))) (fun _ _ _ _=>(yO (zI (qw (K:=K) rfl hr.units) (pv 0) (zE (zW (K:=K) rfl) (pv 1) zf (fun _ _=>rfl)) rfl))) (fun _ _ _ _=>(pv 0)) rfl rfl (fun _=>rfl) (Or.inl rfl) rfl) (zc (yz (i:=10) (N:=qh) (own:=1) (fr:=[3]) (by walk_at "c") rfl sc_law_cells.nd rfl (Or.inl rfl) (zy (K:=K) rfl (pv 7)) (fun _ _ _ _=>(ze (i:=0) (show (qh:List Str).Nodup by decide +kernel) rfl (Or.inl rfl) (Or.inr rfl))) (fun _ _ _ _=>(yO (zI (qw (K:=K) rfl hr.units) (pv 0) (zE (zW (K:=K) rfl) (pv 1) zf (fun _ _=>rfl)) rfl))) (fun _ _ _ _=>(pv 0)) rfl rfl (fun _=>rfl) (Or.inl rfl) rfl) (zj (yF (PW.pt (v7 (acE va ahv (zt yh (zt j8 zf (pv 1)) zf) (pv 8) (zt zP (zt j8 zf (pv 1)) zf)) (v7 (zI (vB (K:=K) rfl hr.units) (pv 9) (z9 zb) (z8 _)) (vt (zI (vB (K:=K) rfl hr.units) (pv 10) (z9 zb) (z8 _)))))) (zj (yE (aa4 ark aro arp yT (pv 4) (za (zv (za (pv 5) (za (pv 6) zb))) zb)))) zS))))))))) (zj (zu (yS (yJ (K:=K) rfl) rfl uab arz (za (pv 4) zb)))))),?_⟩;rintro f xs ⟨⟨rows,wd,h⟩,⟨h1,ps⟩,h2,qs⟩ hl ⟨rfl,g,l1,l2⟩
 try dsimp only [ya,zi]
 dsimp only at *;have g1:=g.h1;have g2:=g.h2;have w1:=g.w1;have w2:=g.w2;have r0:0<rows.length:=by omega
 have rl0:rows[0].length=wd:=g.row _ (aq0 r0);have at0:atI (rows.map fun q=>PyData.list (q.map .int)) 0=some (.list (rows[0].map .int)):=yU (F:=fun q:List Int=>PyData.list (q.map .int)) (k:=0) (j:=0) rfl r0;have hM:CMul 4 h:=Or.inl (by decide);refine aae (w:=w) (abb (jO (aac (zH ⟨[],rfl,aq2 _,show 4<11 by decide,fun D1=>?_⟩))));show PSm w K f [D1] _ [some (.dat (tab rows)),some (.dat (.int h)),some (.dat (yB (h1,ps))),some (.dat (yB (h2,qs))),some (.own (f.M.length+0)),none,none,none,none,none,none] [OC.lst []] _;refine yD (jK (qE (zp (jf (aft (zp (aaI (zk rfl ⟨_,rfl,yb ⟨_,rfl,_,at0,zH (.inl ⟨_,rfl,⟨_,rfl,yb ⟨_,rfl,zH ⟨_,rfl,?_,?_,fun n ρ cs=>(∃ a b c d e e2,ρ=[some (.dat (tab rows)),some (.dat (.int h)),some (.dat (yB (h1,ps))),some (.dat (yB (h2,qs))),some (.own (f.M.length+0)),a,b,c,d,e,e2])/\cs=[OC.lst (((yu (rows.length - 1) n).filter (ado rows h ps qs)).map pD)],⟨⟨_,_,_,_,_,_,rfl⟩,rfl⟩,?_,?_⟩⟩⟩⟩)⟩⟩))))))))
 ·rw [aqr,rl0];omega
 ·rw [aqr,rl0];omega
 ·rintro n d _ _ hd ⟨⟨a,b,c,d,e,e2,rfl⟩,rfl⟩;obtain⟨hn,rfl⟩:=jF hd;have hn':n<wd - 1:=by rw [aqr,rl0] at hn;omega
  refine zh (jK (qE (zp (jf (aft (zp (zk rfl (zH (.inl ⟨_,rfl,⟨_,rfl,yb ⟨_,rfl,zH ⟨_,rfl,?_,?_,fun m ρ cs=>(∃ b c d e e2,ρ=[some (.dat (tab rows)),some (.dat (.int h)),some (.dat (yB (h1,ps))),some (.dat (yB (h2,qs))),some (.own (f.M.length+0)),some (.dat (.int n)),b,c,d,e,e2])/\cs=[OC.lst (((yu (rows.length - 1) n++(aqL m).map fun (y:Nat)=>((n:Int),(y:Int))).filter (ado rows h ps qs)).map pD)],⟨⟨_,_,_,_,_,rfl⟩,?_⟩,?_,?_⟩⟩⟩⟩)))))))))
  ·rw [aqr];omega
  ·rw [aqr];omega
  ·rw [List.range_zero,asV,arc]
  ·rintro m d _ _ hd ⟨⟨b,c,d,e,e2,rfl⟩,rfl⟩;obtain⟨hm,rfl⟩:=jF hd;have hm':m<rows.length - 1:=by rw [aqr] at hm;omega
   have step:∀ c:Bool,ado rows h ps qs ((n:Int),(m:Int))=c->((yu (rows.length - 1) n++(aqL (m+1)).map fun (y:Nat)=>((n:Int),(y:Int))).filter (ado rows h ps qs))=((yu (rows.length - 1) n++(aqL m).map fun (y:Nat)=>((n:Int),(y:Int))).filter (ado rows h ps qs))++(if c=true then [((n:Int),(m:Int))] else []):=fun c hc=>by
    rw [arS,aqO,<- arB,arl];refine congrArg _ ?_;rw [aqQ,aq9,hc];rfl
   have len:=aq8 (ado rows h ps qs) (yu (rows.length - 1) n++(aqL m).map fun (y:Nat)=>((n:Int),(y:Int)));rw [aqM,jl,aqr,ara] at len;have l3:(rows.length - 1) * n<=7 * 7:=arP (by omega) (by omega);have hc:zK rows wd (n:Int) (m:Int)=true:=by
    unfold zK zZ;simp only [aqy,decide_eq_true_eq];omega
   obtain⟨i1,i2,i3,i4⟩:=cell_in hc;obtain⟨x,ex⟩:∃ x:Int,x=n:=⟨_,rfl⟩;obtain⟨y,ey⟩:∃ y:Int,y=m:=⟨_,rfl⟩;rw [<-ex] at len;rw [<-ex,<- ey] at step i1 i2 i3 i4 ⊢;refine zh (yD (vX (ju ?_)));have four:∀ {f:Fx} {b c d e e2},PEd K f (afi (zN (acG (zN (zR 5) (zN (zR 6) yY))) (zN (acG (zN (tOp (rI0 fun i j=>V.int (i+j)) (zR 5) (tC (V.int 1))) (zN (zR 6) yY))) (zN (acG (zN (tOp (rI0 fun i j=>V.int (i+j)) (zR 5) (tC (V.int 1))) (zN (tOp (rI0 fun i j=>V.int (i+j)) (zR 6) (tC (V.int 1))) yY))) (zN (acG (zN (zR 5) (zN (tOp (rI0 fun i j=>V.int (i+j)) (zR 6) (tC (V.int 1))) yY))) yY))))) [some (.dat (tab rows)),some (.dat (.int h)),some (.dat (yB (h1,ps))),some (.dat (yB (h2,qs))),b,some (.dat (.int x)),some (.dat (.int y)),c,d,e,e2] fun d=>d=.list ((jY (x,y)).map pD):=by
    intros
    refine aaa ?_;walk_at "w";rfl
   refine four.imp fun d ed=>?_;subst ed;refine yD (vX (ju (akg (PEdO.ped (ab5 (A:=pD) (B:=fun p:Int×Int=>PyData.int (zQ rows p.1 p.2)) (jY (x,y)) (zV (zk rfl ⟨_,rfl,rfl,show 4<=1000 by decide,?_,?_⟩)))))))
   ·rintro D p ρ' es hp ho hes;obtain⟨u,v,rfl⟩:=ho.two;have hi:zZ rows wd p.1 p.2=true:=by
     simp only [jY,aqE,arj,or_false] at hp;rcases hp with rfl | rfl | rfl | rfl
     ·exact i1
     ·exact i2
     ·exact i3
     ·exact i4
    refine yk rfl (zo (zh (zo (zh (zO (jo ?_))))));rw [if_pos rfl];exact yl hes (acy g hi rfl rfl rfl ⟨.mk2,rfl⟩)
   refine⟨[zQ rows x y,zQ rows (x+1) y,zQ rows (x+1) (y+1),zQ rows x (y+1)],rfl,?_⟩;have pick:∀ {f:Fx} {ρ:zr} {j:Nat} {P:PyData->Prop} (r:Bool×List Pt),ρ[7]?=some (some (.dat (.list ((jY (x,y)).map pD))))->ρ[j]?=some (some (.dat (yB r)))->P (.list (((jY (x,y)).filter fun p=>inL p r.2).map pD))->PEd K f (jC (adC K (zR 7)) 1 [j] (yX 0) (adD (tOp (afT K) (zR 0) (tOp (afl K) (zR 1) (tC (V.int 1))))) fun D=>vb D (zR 0)) ρ P:=by
    intro f ρ j P r h7 hj hp;refine PEdO.ped (vF (A:=pD) (B:=pD) (fun p=>inL p r.2) (jY (x,y)) (zV (zk h7 ⟨_,rfl,rfl,show 4<=1000 by decide,?_,hp⟩)));rintro D p ρ' es hp ho hes;obtain⟨u,rfl⟩:=ho.one;have h1:(some (DV.dat (pD p)) :: frD [j] ρ)[1]?=some (some (.dat (yB r))):=by
     show some (((ρ[j]?).getD none))=_;rw [hj];rfl
    refine zh (zT (aef r p h1 (zk rfl rfl) ⟨_,rfl,rfl,?_⟩));refine z7 (fun c1=>?_) fun c1=>?_
    ·exact yl hes (zk rfl ⟨.mk1,rfl⟩)
    ·exact .mk1
   refine yD (vX (ju (pick (h1,ps) rfl rfl ?_)));refine yD (vX (ju (pick (h2,qs) rfl rfl ?_)));refine adv (agJ (ab0 (vY rows h (x,y)) ((jY (x,y)).any (fun p=>inL p ps) && (jY (x,y)).any fun p=>inL p qs) (zT (aam (jf (abI ?_)))) (fun _=>ab0 ((jY (x,y)).any (fun p=>inL p ps)) ((jY (x,y)).any fun p=>inL p qs) (zT (jn (zk rfl (aaa (zH ⟨_,rfl,aq2 _,afa _,rfl,aqS (arY _ _) (aqB rfl),_,rfl,?_⟩))))) (fun _=>zT (jn (zk rfl (aaa (zH ⟨_,rfl,aq2 _,afa _,rfl,aqS (arY _ _) (aqB rfl),_,rfl,?_⟩))))) rfl) ?_))
   ·refine yb ⟨_,rfl,zk rfl ⟨_,rfl,hM,⟨_,rfl,yb ⟨_,rfl,⟨_,rfl,zk rfl ⟨_,rfl,?_⟩⟩⟩⟩⟩⟩;have es:([zQ rows x y,zQ rows (x+1) y,zQ rows (x+1) (y+1),zQ rows x (y+1)]:List Int).sum=adb rows x y:=rfl;rw [es];by_cases c:4 * h - 2<=adb rows x y
    ·rw [if_pos (decide_eq_true c)];refine jf (abI ?_);refine yb ⟨_,rfl,zk rfl ⟨_,rfl,hM,⟨_,rfl,yb ⟨_,rfl,⟨_,rfl,_,rfl,?_⟩⟩⟩⟩⟩;unfold vY;dsimp only;rw [decide_eq_true c,asv]
    ·rw [if_neg (by rw [decide_eq_false c];exact aqt)];refine⟨_,rfl,?_⟩;unfold vY;dsimp only;rw [decide_eq_false c];rfl
   ·rw [if_pos rfl,aiG];exact ae9 _ _
   ·rw [if_pos rfl,aiG];exact ae9 _ _
   refine z7 (fun c1=>?_) fun c1=>?_
   ·refine aba rfl rfl (by rw [aqr];omega) (ju (yP (qx rfl rfl ⟨_,rfl,aqB rfl,⟨_,_,_,_,_,rfl⟩,?_⟩)));rw [step true c1,aqO];rfl
   ·refine qY ⟨⟨_,_,_,_,_,rfl⟩,?_⟩;rw [step false c1,if_neg aqt,arc]
  ·rintro _ _ ⟨⟨b,c,d,e,e2,rfl⟩,rfl⟩;refine⟨⟨_,_,_,_,_,_,rfl⟩,?_⟩;rw [jv,aqr,ajL,show ((rows.length:Int) - 1).toNat=rows.length - 1 by omega]
 ·rintro _ _ ⟨⟨a,b,c,d,e,e2,rfl⟩,rfl⟩;rw [jv,aqr,rl0,show ((wd:Int) - 1).toNat=wd - 1 by omega];refine ac3 (yA (vC (zp (zk (i:=4) (d:=.list (((yu (rows.length - 1) (wd - 1)).filter (ado rows h ps qs)).map pD)) ?_ (zH (.inl ⟨_,rfl,rfl⟩))))));show some (freed _ _ _)=_;simp [freed]
theorem mem_four {p q:Pt}:q∈abC p↔q∈nbL p:=by
 rw [mem_nb];unfold abC;simp only [aqE,arj,or_false];constructor
 ·rintro (a | a | a | a)
  ·exact .inr (.inr (.inr a))
  ·exact .inl a
  ·exact .inr (.inr (.inl a))
  ·exact .inr (.inl a)
 ·rintro (a | a | a | a)
  ·exact .inr (.inl a)
  ·exact .inr (.inr (.inr a))
  ·exact .inr (.inr (.inl a))
  ·exact .inl a
section
variable {rows:List (List Int)} {wd:Nat} {h:Int} {rl ru:List (Bool×List Pt)}
theorem ab1 {cut:Int} {rs:List (Bool×List Pt)} (R:Regs rows wd cut rs) {r:Bool×List Pt} (hr:r∈rs) {p:Pt} (hp:p∈r.2):hiP rows cut p=r.1/\inP rows wd p=true:=by
 obtain⟨x,X⟩:=R.reg r hr;have z:=((X.mem p).mp hp).ins X.inn;exact⟨z.2.trans X.hi.symm,z.1⟩
theorem aaN {cut:Int} {rs:List (Bool×List Pt)} (R:Regs rows wd cut rs) {i:Nat} {r:Bool×List Pt} (hi:rs[i]?=some r) {p:Pt} (ip:inP rows wd p=true):inL p r.2=decide (ixR rs p=i):=decide_eq_decide.mpr (vS R ip hi)
theorem aiH (T:Two rows wd h rl ru) {i j:Nat} {r r':Bool×List Pt} (hi:rl[i]?=some r) (hj:ru[j]?=some r'):(r.1=true/\r'.1=false/\abD r.2 r'.2=true)↔jI rows wd h rl ru (i,j):=by
 have hr:=aqz hi;have hr':=aqz hj;constructor
 ·rintro⟨e1,e2,m⟩;obtain⟨p,hp,m⟩:=asd.mp m;obtain⟨a1,ip⟩:=ab1 T.lo hr hp;have fin:∀ q,q∈r'.2->(q∈nbL p \/ q=p)->jI rows wd h rl ru (i,j):=fun q hq n=>by
   obtain⟨b1,iq⟩:=ab1 T.up hr' hq;refine⟨p,q,ip,iq,n,hi_lo.mp (by rw [a1,e1]),hi_up.mp (by rw [b1,e2]),?_⟩;rw [(vS T.lo ip hi).mp hp,(vS T.up iq hj).mp hq]
  rcases atw .. |>.mp m with m | m
  ·exact fin p (of_decide_eq_true m) (.inr rfl)
  ·obtain⟨q,hq,m⟩:=asd.mp m;exact fin q (of_decide_eq_true m) (.inl (mem_four.mp hq))
 ·rintro⟨p,q,ip,iq,n,a,b,e⟩;obtain⟨e1,e2⟩:=Prod.mk.inj e;have hp:=(vS T.lo ip hi).mpr e1.symm;have hq:=(vS T.up iq hj).mpr e2.symm;refine⟨?_,?_,asd.mpr ⟨p,hp,?_⟩⟩
  ·rw [<-(ab1 T.lo hr hp).1];exact hi_lo.mpr a
  ·rw [<-(ab1 T.up hr' hq).1];exact hi_up.mpr b
  ·rw [atw];rcases n with n | rfl
   ·exact .inr (asd.mpr ⟨q,mem_four.mpr n,decide_eq_true hq⟩)
   ·exact .inl (decide_eq_true hq)
theorem alM (T:Two rows wd h rl ru) {c:Int} {ts:List (Bool×List Gt)} (To:Told rows wd c ts) {i j:Nat} {r r':Bool×List Pt} (hi:rl[i]?=some r) (hj:ru[j]?=some r'):ofL rows c ts r.2 r'.2=plc (i,j) (ts.map (yo rows c rl ru)):=by
 unfold ofL plc;rw [aqr];refine List.filter_congr fun n hn=>?_;have hn':=aqY.mp hn;have e0:ts.getD n (false,[])=ts[n]:=by rw [aqx,aqq hn'];rfl
 have L:=To.line _ (aq0 hn');have op:=L.op _ (ar1 (aiv L));rw [e0,aaN T.lo hi (abY op).1,aaN T.up hj (abY op).1,aqA,aqq hn',asn,<- auj];unfold yo;refine decide_eq_decide.mpr ⟨fun⟨a,b⟩=>by rw [a,b],fun z=>?_⟩;have z:=Option.some.inj z;exact⟨congrArg Prod.fst z,congrArg Prod.snd z⟩
theorem anp (T:Two rows wd h rl ru) {i j:Nat} {r r':Bool×List Pt} (hi:rl[i]?=some r) (hj:ru[j]?=some r'):(yu (rows.length - 1) (wd - 1)).filter (ado rows h r.2 r'.2)=aho rows wd h rl ru (i,j):=by
 unfold aho;refine List.filter_congr fun c hc=>?_;obtain⟨i1,i2,i3,i4⟩:=cell_in (show zK rows wd c.1 c.2=true from agp hc);unfold ado alr jY;simp only [asK,List.any_nil];obtain⟨x,y⟩:=c;rw [aaN T.lo hi (p:=(x,y)) i1,aaN T.lo hi (p:=(x+1,y)) i2,aaN T.lo hi (p:=(x+1,y+1)) i3,aaN T.lo hi (p:=(x,y+1)) i4,aaN T.up hj (p:=(x,y)) i1,aaN T.up hj (p:=(x+1,y)) i2,aaN T.up hj (p:=(x+1,y+1)) i3,aaN T.up hj (p:=(x,y+1)) i4]
theorem alN (T:Two rows wd h rl ru) {i j:Nat} {r r':Bool×List Pt} (hi:rl[i]?=some r) (hj:ru[j]?=some r') (e1:r.1=true) (e2:r'.1=false):(r.2.filter fun p=>inL p r'.2)=abZ rows wd h rl ru (i,j):=by
 have hr:=aqz hi;have hr':=aqz hj;obtain⟨h0,X⟩:=T.lo.reg r hr;refine abA (F:=pD) (fun a b=>vR) (qy (fun d hd=>by obtain⟨p,_,rfl⟩:=aqG.mp hd;rfl) (X.up.sublist (ar2.map pD)) ((ait rows.length wd).sublist (ar2.map pD)) fun d=>?_);have key:∀ p,p∈(r.2.filter fun p=>inL p r'.2)↔p∈abZ rows wd h rl ru (i,j):=fun p=>by
  unfold abZ;rw [aqW,aqW,aqy,decide_eq_true_iff,decide_eq_true_iff,mem_pts];constructor
  ·rintro⟨hp,hq⟩;have hq:=of_decide_eq_true hq;obtain⟨a1,ip⟩:=ab1 T.lo hr hp;obtain⟨b1,_⟩:=ab1 T.up hr' hq;refine⟨ip,?_,?_⟩
   ·have a:=hi_lo.mp (a1.trans e1);have b:=hi_up.mp (b1.trans e2);omega
   ·rw [(vS T.lo ip hi).mp hp,(vS T.up ip hj).mp hq]
  ·rintro⟨ip,_,e⟩;obtain⟨z1,z2⟩:=Prod.mk.inj e;exact⟨(vS T.lo ip hi).mpr z1,decide_eq_true ((vS T.up ip hj).mpr z2)⟩
 rw [aqG,aqG];exact⟨fun⟨p,hp,e⟩=>⟨p,(key p).mp hp,e⟩,fun⟨p,hp,e⟩=>⟨p,(key p).mpr hp,e⟩⟩
theorem alO (T:Two rows wd h rl ru) {ts us:List (Bool×List Gt)} (To:Told rows wd (h - 1) ts) (Uo:Told rows wd h us) {i j:Nat} {r r':Bool×List Pt} (hi:rl[i]?=some r) (hj:ru[j]?=some r') (e1:r.1=true) (e2:r'.1=false) :
  PyData.tuple [.int h,ajI (ofL rows (h - 1) ts r.2 r'.2),ajI (ofL rows h us r.2 r'.2),.tuple ((r.2.filter fun p=>inL p r'.2).map pD),.tuple (((yu (rows.length - 1) (wd - 1)).filter (ado rows h r.2 r'.2)).map pD)]=jM rows wd h rl ru (ts.map (yo rows (h - 1) rl ru)) (us.map (yo rows h rl ru)) (i,j):=by
 unfold jM;rw [alM T To hi hj,alM T Uo hi hj,alN T hi hj e1 e2,anp T hi hj]
theorem ajM {es es':List PyData} {rl' ru':List (Bool×List Pt)} {ts us ts' us':List (Bool×List Gt)} {ks ks':List Key} (A:NodesK rows wd h es rl ru ts us ks) (B:NodesK rows wd h es' rl' ru' ts' us' ks'):es=es':=by
 obtain rfl:=agl A.two.lo B.two.lo;obtain rfl:=agl A.two.up B.two.up;obtain rfl:=agj A.told B.told A.al B.al A.up B.up;obtain rfl:=agj A.told2 B.told2 A.al2 B.al2 A.up2 B.up2;refine qy (fun d hd=>?_) A.ris B.ris fun d=>?_
 ·obtain⟨k,_,rfl⟩:=aqG.mp (A.perm.mem_iff.mp hd);exact aa1 k
 ·rw [A.perm.mem_iff,B.perm.mem_iff,aqG,aqG];exact⟨fun⟨k,hk,e⟩=>⟨k,(B.mem k).mpr ((A.mem k).mp hk),e⟩,fun⟨k,hk,e⟩=>⟨k,(A.mem k).mpr ((B.mem k).mp hk),e⟩⟩
end
section
variable {K:aqu} {f:Fx} {ρ:zr} {wi:TI} {g:TG} {tt:TT} {own:Nat} {fr:List Nat} {tb:Addr->TB} {P:List PyData->Prop}
theorem anq {α:Type} (A B:α->PyData) (p:α->Bool) (h:PId K f wi ρ fun ds=>∃ xs:List α,ds=xs.map A/\xs.length<=1000 /\
   (∀ D x ρ' es,x∈xs->OwnE own (frD fr ρ) ρ'->es.length<1000->PGd K (f.with D) g (A x) ρ' fun ρ2=>PTd K (f.with D) tt ρ2 fun b=>b=p x/\if b=true then PBd K f D (tb D) ρ2 es fun ρ3 es3=>OwnE own (frD fr ρ) ρ3/\es3=es++[B x] else OwnE own (frD fr ρ) ρ2)/\P ((xs.filter p).map B)) :
  PEdO K f (jC wi own fr g tt tb) ρ P :=
 qW (h.imp fun ds ⟨xs,ed,hl,hs,hp⟩=>by
  subst ed;refine⟨fun i ρ' es=>OwnE own (frD fr ρ) ρ'/\es=((xs.take i).filter p).map B,⟨⟨arZ own none,by simp,rfl⟩,by simp⟩,fun D i d ρ' es hd ⟨ho,he⟩=>?_,fun ρ' es ⟨_,he⟩=>?_⟩
  ·rw [aqA] at hd;cases eq:xs[i]? with
   | none=>rw [eq] at hd;cases hd
   | some x =>
    rw [eq] at hd;cases hd;have hi:i<xs.length:=(aqs.mp eq).1;have tk:xs.take (i+1)=xs.take i++[x]:=by rw [arh,eq];rfl
    have hb:es.length<1000:=by
     have:=aq8 p (xs.take i);rw [arf] at this;rw [he,aqr];omega
    intro σ H v Q e r q;refine hs D x ρ' es (aqz eq) ho hb σ H v Q e r fun ρ2 σ2 H2 g2 e2 p2=>q ρ2 σ2 H2 g2 e2 (p2.imp fun b hb2=>?_);obtain⟨eb,hb2⟩:=hb2;cases b with
    | false =>
     rw [if_neg aqt] at hb2 ⊢;refine⟨hb2,?_⟩;rw [tk,arl,aqO,aq9,<- eb,if_neg aqt,he];simp
    | true =>
     rw [if_pos rfl] at hb2 ⊢;intro h1 h2 σ3 H3 H4 W c k;exact hb2 h1 h2 σ3 H3 H4 W c fun ρ5 es5 σ5 H5 c5 ⟨o5,p5⟩=>k ρ5 es5 σ5 H5 c5 ⟨o5,by rw [p5,he,tk,arl,aqO,aq9,<- eb,if_pos rfl];rfl⟩
  ·rw [he,aqr,aq6];exact hp)
end
theorem aiI {rows:List (List Int)} {wd:Nat} {cut:Int} {rs:List (Bool×List Pt)} (g:Good wd rows) (R:Regs rows wd cut rs) {v:Nat} {r:Bool×List Pt} (hv:rs[v]?=some r):r.2.length<=49:=by
 obtain⟨h,G⟩:=R.reg r (aqz hv);have nd:r.2.Nodup:=ats _ (fun a b (z:ltD (pD a) (pD b)=true) e=>by rw [e,qX _ rfl] at z;cases z) G.up;refine aqS (nd.length_le_of_subset fun q hq=>mem_pts.mpr (alm R (aqz hv) hq)) ?_;rw [jl];exact arP g.h2 g.w2
noncomputable def atR (rs:List (Bool×List Pt)) (i:Nat):Bool×List Pt:=rs.getD i (false,[])
theorem vT {rs:List (Bool×List Pt)} {i:Nat} (h:i<rs.length):rs[i]?=some (atR rs i):=by
 unfold atR;rw [aqx,aqq h];rfl
theorem alP (rs:List (Bool×List Pt)):(aqL rs.length).map (atR rs)=rs:=by
 refine arV fun i=>?_;rw [aqA];by_cases hi:i<rs.length
 ·rw [vT hi,arW hi];rfl
 ·rw [aqZ (by rw [ara];omega),aqZ (by omega)];rfl
theorem anr (r:Bool×List Pt):aqX (.str (if r.1=true then "high" else "low")) (.str "low")=!r.1:=by cases r.1 <;> rfl
theorem alQ (r:Bool×List Pt):aqX (.str (if r.1=true then "high" else "low")) (.str "high")=r.1:=by cases r.1 <;> rfl
noncomputable def aaE (ru:List (Bool×List Pt)):List Nat:=(aqL ru.length).filter fun j=>!(atR ru j).1
theorem alR (ru:List (Bool×List Pt)):(ru.filter fun r=>!r.1).map yB=(aaE ru).map fun j=>yB (atR ru j):=by
 have e:(ru.filter fun r=>!r.1)=(aaE ru).map (atR ru):=by
  have z:=congrArg (auM fun r:Bool×List Pt=>!r.1) (alP ru);rw [List.filter_map] at z;exact z.symm
 rw [e,arR];rfl
noncomputable def alS (rl ru:List (Bool×List Pt)) (i j:Nat):Bool:=(atR rl i).1 && abD (atR rl i).2 (atR ru j).2
noncomputable def adp (rl ru:List (Bool×List Pt)) (i:Nat) (l:List Nat):List Key:=(l.filter (alS rl ru i)).map fun j=>(i,j)
noncomputable def aaF (rl ru:List (Bool×List Pt)) (n:Nat):List Key:=(aqL n).flatMap fun i=>adp rl ru i (aaE ru)
theorem abE (rl ru:List (Bool×List Pt)) (n:Nat):aaF rl ru (n+1)=aaF rl ru n++adp rl ru n (aaE ru):=by
 unfold aaF;rw [arS,arI];simp
theorem afb {rl ru:List (Bool×List Pt)} {i:Nat} {l:List Nat} {k:Key} (h:k∈adp rl ru i l):k.1=i/\k.2∈l/\alS rl ru i k.2=true:=by
 obtain⟨j,hj,rfl⟩:=aqG.mp h;obtain⟨a,b⟩:=aqW.mp hj;exact⟨rfl,a,b⟩
theorem apA {rl ru:List (Bool×List Pt)} {i:Nat} {l:List Nat} (h:l.Nodup):(adp rl ru i l).Nodup:=arA.mpr ((aum ar2 h).imp fun {a b} ne e=>ne (congrArg Prod.snd e))
theorem apB (ru:List (Bool×List Pt)):(aaE ru).Nodup:=aum ar2 atn
theorem afc (rl ru:List (Bool×List Pt)):∀ n,(aaF rl ru n).Nodup/\∀ k∈aaF rl ru n,k.1<n
 | 0=>⟨arv,fun k hk=>by cases hk⟩
 | n+1=>by
  obtain⟨a,b⟩:=afc rl ru n;rw [abE];refine⟨aru.mpr ⟨a,apA (apB ru),fun x hx y hy e=>?_⟩,fun k hk=>?_⟩
  ·have:=b x hx;have:=(afb hy).1;rw [<-e] at this;omega
  ·rcases aqK.mp hk with z | z
   ·have:=b k z;omega
   ·have:=(afb z).1;omega
section
variable {rows:List (List Int)} {wd:Nat} {h:Int} {rl ru:List (Bool×List Pt)}
theorem alT (T:Two rows wd h rl ru) {n:Nat} (hn:n<rl.length):∀ k∈adp rl ru n (aaE ru),jI rows wd h rl ru k:=by
 rintro⟨i,j⟩ hk;obtain⟨e,hj,b⟩:=afb hk;dsimp only at e hj b;subst e;obtain⟨hj,lo⟩:=aqW.mp hj;have hj:=aqY.mp hj;obtain⟨b1,b2⟩:=(aqy ..).mp b;refine (aiH T (vT hn) (vT hj)).mp ⟨b1,?_,b2⟩;cases e:(atR ru j).1 with
 | false=>rfl
 | true=>rw [e] at lo;cases lo
theorem aak (T:Two rows wd h rl ru):∀ n,n<=rl.length->∀ k∈aaF rl ru n,jI rows wd h rl ru k
 | 0,_=>fun k hk=>by cases hk
 | n+1,hn=>fun k hk=>by
  rw [abE] at hk;rcases aqK.mp hk with z | z
  ·exact aak T n (by omega) k z
  ·exact alT T (by omega) k z
theorem ans (T:Two rows wd h rl ru) (k:Key):k∈aaF rl ru rl.length↔jI rows wd h rl ru k:=by
 refine⟨aak T _ (aqC _) k,fun m=>?_⟩;obtain⟨i,j⟩:=k;have m':=m;obtain⟨p,q,ip,iq,_,_,_,e⟩:=m';obtain⟨rfl,rfl⟩:=Prod.mk.inj e;have hi:=anT T.lo ip;have hj:=anT T.up iq;obtain⟨a,b,c⟩:=(aiH T (vT hi) (vT hj)).mpr m;unfold aaF;refine arb.mpr ⟨_,aqY.mpr hi,aqG.mpr ⟨_,aqW.mpr ⟨aqW.mpr ⟨aqY.mpr hj,by rw [b];rfl⟩,?_⟩,rfl⟩⟩;unfold alS;rw [a,c];rfl
theorem alV (g:Good wd rows) (T:Two rows wd h rl ru) {n m:Nat} (hn:n<rl.length):(aaF rl ru n++adp rl ru n ((aaE ru).take m)).length<=62:=by
 have sub:(aaF rl ru n++adp rl ru n ((aaE ru).take m)).Sublist (aaF rl ru (n+1)):=by
  rw [abE];exact List.Sublist.append (List.Sublist.refl _) (((List.take_sublist m _).filter _).map _)
 exact aqS sub.length_le (aaC g T (afc rl ru (n+1)).1 (aak T (n+1) hn))
end
abbrev anV (K:aqu):Sp:=spD K 2 aps fun c r=>∃ es rl ru ts us ks,r=.list es/\NodesK c.1 c.2.1 c.2.2 es rl ru ts us ks
theorem apC (F:Def K mg "_law_due" aaw qe) (uab:mg "tuple"=none) (uae:mg "sorted"=none) (uaF:FnIn P w K mg base k "regions" pz (ahj K)) (uaE:FnIn P w K mg base k "lines" pz (ae5 K)) (ubz:FnIn P w K mg base k "_law_meet" qb (alK K)) (ubd:FnIn P w K mg base k "_law_of" qc (aqg K)) (ubA:FnIn P w K mg base k "_law_cells" qd (alL K)):FnIn P w K mg base (k+1) "_law_due" qe (anV K):=by
 refine F.ok sc_law_due rfl fun fa cdv A outer s H E hr=>⟨_,(zc (zC (i:=2) sc_law_due.nd rfl (Or.inl rfl) (z9 zb)) (zc (yz (i:=3) (N:=["_law_lower"]) (own:=1) (fr:=[]) (by walk_at "c") rfl sc_law_due.nd rfl (Or.inl rfl) (zy (K:=K) rfl (zd uaF hr rfl (za (pv 0) (za (pv 1) zb)))) (fun _ _ _ _=>(ze (i:=0) (show (["_law_lower"]:List Str).Nodup by decide +kernel) rfl (Or.inl rfl) (Or.inr rfl))) (fun _ _ _ _=>(yO (zI (qV (K:=K) rfl hr.units) (zE (zW (K:=K) rfl) (pv 0) zf (fun _ _=>rfl)) qT (z8 _)))) (fun _ _ _ _=>(pv 0)) rfl rfl (fun _=>rfl) (Or.inl rfl) rfl) (zc (zC (i:=4) sc_law_due.nd rfl (Or.inl rfl) (zd uaE hr rfl (za (pv 0) (za (zt yh (pv 1) zf) zb)))) (zc (zC (i:=5) sc_law_due.nd rfl (Or.inl rfl) (zd uaE hr rfl (za (pv 0) (za (pv 1) zb)))) (zc (yG aq7 rfl (zy (K:=K) rfl (zd uaF hr rfl (za (pv 0) (za (zt yh (pv 1) zf) zb)))) (ze (i:=6) sc_law_due.nd rfl (Or.inl rfl) (Or.inr rfl)) (zj (yG aq7 rfl (zy (K:=K) rfl (pv 3)) (ze (i:=7) sc_law_due.nd rfl (Or.inr rfl) (Or.inl rfl)) (zj (yF (PW.pt (v7 (zI (qV (K:=K) rfl hr.units) (zE (zW (K:=K) rfl) (pv 6) zf (fun _ _=>rfl)) qT (z8 _)) (vt (ym (K:=K) rfl (zd ubz hr rfl (za (pv 6) (za (pv 7) zb))) (fun _=>rfl))))) (zc (zC (i:=8) sc_law_due.nd rfl (Or.inl rfl) (zd ubd hr rfl (za (pv 0) (za (zt yh (pv 1) zf) (za (pv 4) (za (pv 6) (za (pv 7) zb))))))) (zc (zC (i:=9) sc_law_due.nd rfl (Or.inl rfl) (zd ubd hr rfl (za (pv 0) (za (pv 1) (za (pv 5) (za (pv 6) (za (pv 7) zb))))))) (zc (zC (i:=10) sc_law_due.nd rfl (Or.inl rfl) (yS (yJ (K:=K) rfl) rfl uab arz (za (zX (N:=qh) (own:=1) (fr:=[7]) (by walk_at "c") rfl (aan (K:=K) rfl (zE (zW (K:=K) rfl) (pv 6) zf (fun _ _=>rfl))) (fun _ _ _ _=>(ze (i:=0) (show (qh:List Str).Nodup by decide +kernel) rfl (Or.inl rfl) (Or.inr rfl))) (fun _ _ _ _=>(yO (zI (qw (K:=K) rfl hr.units) (pv 0) (zE (zW (K:=K) rfl) (pv 1) zf (fun _ _=>rfl)) rfl))) (fun _ _ _ _=>(pv 0)) rfl rfl (fun _=>rfl)) zb))) (zj (yE (aa4 ark aro arp yT (pv 2) (za (zv (za (pv 1) (za (pv 8) (za (pv 9) (za (pv 10) (za (zd ubA hr rfl (za (pv 0) (za (pv 1) (za (pv 6) (za (pv 7) zb))))) zb)))))) zb))))))) zS))))) (zj (zu (zz (vE (K:=K) rfl hr.units) rfl uae asw (za (pv 2) zb))))))))),?_⟩;rintro f xs ⟨rows,wd,h⟩ hl ⟨rfl,g⟩
 try dsimp only [ya,zi]
 dsimp only at *;refine aae (w:=w) (abb (jO (aac (zH ⟨[],rfl,aq2 _,show 2<11 by decide,fun D1=>?_⟩))));refine yD (vX (ju (PEdO.ped (anq (fun j=>yB j) (fun j=>yB j) (fun j=>!j.1) (zV (PEdO.ped (jg (rows,wd,h) (qx rfl rfl ⟨rfl,⟨rfl,g⟩,?_⟩))))))));rintro _ ⟨ru,rfl,R2,l2⟩;dsimp only at R2;refine⟨_,rfl,ru,rfl,by omega,?_,?_⟩
 ·rintro D r ρ' es hp ho hes;obtain⟨u,rfl⟩:=ho.one;refine zh (zT (jn (jE (zk rfl ⟨_,rfl,yb ⟨_,rfl,_,rfl,ahE ⟨?_,by decide +kernel,aqS (arY _ _) (aqB rfl),_,rfl,anr r,?_⟩⟩⟩))))
  ·cases r.1 <;> decide +kernel
  refine z7 (fun c1=>?_) fun c1=>?_
  ·exact yl hes (zk rfl ⟨.mk1,rfl⟩)
  ·exact .mk1
 rw [alR];have ll:(aaE ru).length<=49:=by
  have:=aq8 (fun j=>!(atR ru j).1) (aqL ru.length);rw [ara] at this;exact aqS this l2
 refine yD (vX (ju (PEdO.ped (jg (rows,wd,h - 1) (zp (zk rfl (zp (jf (zk rfl ⟨_,rfl,yb ⟨_,rfl,zH ⟨rfl,⟨rfl,g⟩,?_⟩⟩⟩)))))))));rintro _ ⟨ts,rfl,To,al,up⟩;refine yD (vX (ju (PEdO.ped (jg (rows,wd,h) (qx rfl rfl ⟨rfl,⟨rfl,g⟩,?_⟩)))));rintro _ ⟨us,rfl,Uo,alU,upU⟩;dsimp only at To al Uo alU;show PSm w K f [D1] _ [some (.dat (tab rows)),some (.dat (.int h)),some (.own (f.M.length+0)),some (.dat (.list ((aaE ru).map fun j=>yB (atR ru j)))),some (.dat (.list (ts.map ye))),some (.dat (.list (us.map ye))),none,none,none,none,none] [OC.lst []] _;refine yD (jK (zV (PEdO.ped (jg (rows,wd,h - 1) (zp (zk rfl (zp (jf (zk rfl ⟨_,rfl,yb ⟨_,rfl,zH ⟨rfl,⟨rfl,g⟩,?_⟩⟩⟩)))))))));rintro _ ⟨rl,rfl,R1,l1⟩;dsimp only at R1;have T:Two rows wd h rl ru:=⟨R1,R2⟩;obtain⟨nd,end1⟩:∃ nd:Key->PyData,nd=jM rows wd h rl ru (ts.map (yo rows (h - 1) rl ru)) (us.map (yo rows h rl ru)):=⟨_,rfl⟩;refine⟨_,rfl,fun n ρ cs=>(∃ a b c d e,ρ=[some (.dat (tab rows)),some (.dat (.int h)),some (.own (f.M.length+0)),some (.dat (.list ((aaE ru).map fun j=>yB (atR ru j)))),some (.dat (.list (ts.map ye))),some (.dat (.list (us.map ye))),a,b,c,d,e])/\cs=[OC.lst ((aaF rl ru n).map nd)],⟨⟨_,_,_,_,_,rfl⟩,rfl⟩,?_,?_⟩
 ·rintro n d _ _ hd ⟨⟨a,b,c,d,e,rfl⟩,rfl⟩;rw [aqA] at hd;cases eq:rl[n]? with
  | none=>rw [eq] at hd;cases hd
  | some r =>
   have hn:=(aqs.mp eq).1;have er:r=atR rl n:=by
    rw [vT hn] at eq;exact (Option.some.inj eq).symm
   rw [eq] at hd;cases hd;have lr:=aiI g R1 eq;refine zh (jK (zV (zk rfl ⟨_,rfl,fun m ρ cs=>(∃ b c d e,ρ=[some (.dat (tab rows)),some (.dat (.int h)),some (.own (f.M.length+0)),some (.dat (.list ((aaE ru).map fun j=>yB (atR ru j)))),some (.dat (.list (ts.map ye))),some (.dat (.list (us.map ye))),some (.dat (yB r)),b,c,d,e])/\cs=[OC.lst ((aaF rl ru n++adp rl ru n ((aaE ru).take m)).map nd)],⟨⟨_,_,_,_,rfl⟩,?_⟩,?_,?_⟩)))
   ·rw [asU];show _=[OC.lst ((aaF rl ru n++[]).map nd)];rw [arc]
   ·rintro m d _ _ hd ⟨⟨b,c,d,e,rfl⟩,rfl⟩;rw [aqA] at hd;cases eq2:(aaE ru)[m]? with
    | none=>rw [eq2] at hd;cases hd
    | some j =>
     rw [eq2] at hd;cases hd;obtain⟨hj,lo⟩:=aqW.mp (aqz eq2);have hj:=aqY.mp hj;have gj:=vT hj;have lj:=aiI g R2 gj;obtain⟨r',er'⟩:∃ r',r'=atR ru j:=⟨_,rfl⟩;have e2:r'.1=false:=by
      rw [er'];cases z:(atR ru j).1 with
      | false=>rfl
      | true=>rw [z] at lo;cases lo
     have kb:alS rl ru n j=(r.1 && abD r.2 r'.2):=by rw [er,er'];rfl
     rw [<-er'] at gj lj
     change PGd _ _ _ (yB (atR ru j)) _ _
     rw [<-er'];have step:∀ c:Bool,(r.1 && abD r.2 r'.2)=c->adp rl ru n ((aaE ru).take (m+1))=adp rl ru n ((aaE ru).take m)++(if c=true then [(n,j)] else []):=fun c hc=>by
      unfold adp;rw [arh,eq2,arl,aqO];refine congrArg _ ?_;show (([j]:List Nat).filter (alS rl ru n)).map _=_;rw [aq9,kb,hc];cases c <;> rfl
     have pl:=alV (m:=m) g T hn;refine zh (adv (agJ (ab0 r.1 (abD r.2 r'.2) (zT (jn (jE (zk rfl ⟨_,rfl,yb ⟨_,rfl,_,rfl,ahE ⟨?_,by decide +kernel,aqS (arY _ _) (aqB rfl),_,rfl,alQ r⟩⟩⟩)))) (fun _=>y9 (zq (r,r') (qx rfl rfl ⟨rfl,⟨rfl,lr,lj⟩,?_⟩))) ?_)))
     ·cases r.1 <;> decide +kernel
     ·rintro _ rfl;exact⟨_,rfl,rfl⟩
     refine z7 (fun c1=>?_) fun c1=>?_
     ·have e1:r.1=true:=((aqy ..).mp c1).1;refine yD (vX (ju (zq ((rows,wd,h - 1),ts,r,r') (zp (zk rfl (zp (jf (zk rfl ⟨_,rfl,yb ⟨_,rfl,amx rfl rfl rfl ⟨rfl,⟨rfl,g,To,lr,lj⟩,?_⟩⟩⟩))))))));rintro _ rfl;refine yD (vX (ju (zq ((rows,wd,h),us,r,r') (zp (zk rfl (apV rfl rfl rfl rfl ⟨rfl,⟨rfl,g,Uo,lr,lj⟩,?_⟩))))));rintro _ rfl;refine yD (vX (ju (vC (zp (PEdO.ped (vF (A:=pD) (B:=pD) (fun p=>inL p r'.2) r.2 (adO (jE (zk rfl ⟨_,rfl,yb ⟨_,rfl,_,rfl,⟨_,rfl,rfl,by omega,?_,zH (.inl ⟨_,rfl,?_⟩)⟩⟩⟩)))))))))
      ·rintro D p ρ' es hp ho hes;obtain⟨u,rfl⟩:=ho.one;refine zh (zT (aef r' p rfl (zk rfl rfl) ⟨_,rfl,rfl,?_⟩));refine z7 (fun c1=>?_) fun c1=>?_
       ·exact yl hes (zk rfl ⟨.mk1,rfl⟩)
       ·exact .mk1
      refine aba rfl rfl (by rw [aqr];omega) (ju (yP (zp (zk rfl (zp (zk rfl (zp (zk rfl (zp (zk rfl (zp (zq ((rows,wd,h),r,r') (apV rfl rfl rfl rfl ⟨rfl,⟨rfl,g,lr,lj⟩,?_⟩)))))))))))));rintro _ rfl;refine zH ⟨_,rfl,aqB rfl,⟨_,_,_,_,rfl⟩,?_⟩;rw [step true c1,<- arB,aqO (l₁:=aaF rl ru n++_)];refine congrArg (fun z=>[OC.lst (_++[z])]) ?_;rw [end1];exact alO T To Uo eq gj e1 e2
     ·refine qY ⟨⟨_,_,_,_,rfl⟩,?_⟩;rw [step false c1,if_neg aqt,arc]
   ·rintro _ _ ⟨⟨b,c,d,e,rfl⟩,rfl⟩;refine⟨⟨_,_,_,_,_,rfl⟩,?_⟩;rw [aqr,aq6,abE]
 ·rintro _ _ ⟨⟨a,b,c,d,e,rfl⟩,rfl⟩;rw [aqr,end1];have few:=aaC g T (afc rl ru rl.length).1 (aak T _ (aqC _));refine ac3 (yA (PEdO.ped (acW "int" (zk (i:=2) (d:=.list ((aaF rl ru rl.length).map (jM rows wd h rl ru (ts.map (yo rows (h - 1) rl ru)) (us.map (yo rows h rl ru))))) ?_ ⟨_,rfl,agq g T To al (afc rl ru rl.length).1 (aak T _ (aqC _)),by rw [aqr];omega,.inl (by rw [aqr];omega),fun es pm ri=>?_⟩))))
  ·show some (freed _ _ _)=_;simp [freed]
  ·exact⟨es,rl,ru,ts,us,_,rfl,⟨T,To,al,up,Uo,alU,upU,ans T,pm,ri,by rw [pm.length_eq,aqr];omega⟩⟩
noncomputable abbrev scr (ns:List Int):PyData:=.list (ns.map .int)
theorem aiJ {K:aqu} {H:Hp} {a:Addr} {ns:List Int} (h:SqL K H a (ns.map V.int)):Rep K (hide H L2.f0) (scr ns) (.ref a):=by
 rw [y8];exact rep_list.mpr ⟨a,_,rfl,h,Reps.ints' ns⟩
theorem ant {K:aqu} {H:Hp} {v:V} {ns:List Int} (h:Rep K (hide H L2.f0) (scr ns) v):∃ a,v=.ref a/\SqL K H a (ns.map V.int):=by
 rw [y8] at h;obtain⟨a,xs,rfl,h1,h2⟩:=rep_list.mp h;rw [h2.ints] at h1;exact⟨a,rfl,h1⟩
def ahp (K:aqu):Sp:=fun vs H Q _=>∃ (a:Addr) (ns:List Int) (i:Int),vs=[.ref a,.int i]/\SqL K H a (ns.map V.int)/\ns.length<=63/\0<=i/\i<=63 /\
 ∀ (p:Addr) (x y:Int) (H':Hp),Same H H'->H p=none->H' p=some (.lst [.int x,.int y])->0<=x->0<=y->y<2147483647->Q (.ref p) H'
def aiK (K:aqu):Sp:=fun vs H Q _=>∃ (a:Addr) (ns:List Int),vs=[.ref a]/\SqL K H a (ns.map V.int)/\ns.length<=63/\∀ H',Q (.bl true) H'
theorem anu {K:aqu} {f:Fx} {t:TA} {ρ:zr} {R R':List DV->Prop} (h:PAd K f t ρ R) (i:∀ xs,R xs->R' xs):PAd K f t ρ R':=fun σ H Q e q=>h σ H Q e fun xs vs H' g r p=>q xs vs H' g r (i xs p)
theorem apD {K:aqu} {ρ:zr} {ns:List Int} {i:Int} {E2:XK} (h0:ρ[0]?=some (some (.dat (scr ns)))) (h1:ρ[1]?=some (some (.dat (.int i)))) (hl:ns.length<=63) (i0:0<=i) (i1:i<=63) :
  ∀ (σ:L2.St) (H:Hp) (Q:VK),EnvOk K L2.f0 ρ σ H->(∀ (p:Addr) (x y:Int) (H':Hp),Same H H'->H p=none->H' p=some (.lst [.int x,.int y])->0<=x->0<=y->y<2147483647->Q (.ref p) H')->acH (ahp K) [] E2 (zN (zR 0) (zN (zR 1) yY)) σ H Q:=by
 intro σ H Q e q;obtain⟨v0,hv0,r0⟩:=e.get 0 _ h0;obtain⟨v1,hv1,r1⟩:=e.get 1 _ h1;obtain⟨a,rfl,hS⟩:=ant r0;have e1:v1=.int i:=rep_int.mp (show Rep K (hide H L2.f0) (.int i) v1 from r1);subst e1;exact⟨_,hv0,_,hv1,a,ns,i,rfl,hS,hl,i0,i1,q⟩
theorem anv (F:Def K mg "_law_feed" vN pX) (uaa:mg "len"=none) (uaO:mg "abs"=none):FnIn P w K mg base (k+1) "_law_feed" pX (ahp K):=by
 refine F.raw sc_law_feed (fun vs H Q E h=>?_) fun fa cdv A outer s H vs Q E hr hs=>⟨_,(zc (zC (i:=2) sc_law_feed.nd rfl (Or.inl rfl) zf) (zc (yF (zI ahw (zz (yt (K:=K) rfl) rfl uaa arF (za (pv 0) zb)) zf (z8 _)) (zj (zC (i:=2) sc_law_feed.nd rfl (Or.inl rfl) (zE (zF (K:=K) rfl) (pv 0) (zt abG (pv 1) (zz (yt (K:=K) rfl) rfl uaa arF (za (pv 0) zb))) (fun _ _=>rfl)))) zS) (zj (zu (z9 (za (zz (ajV) rfl uaO PyProof.Rows.boot_abs (za (pv 2) zb)) (za (zt zP (zt j8 zf (pv 1)) zf) zb))))))),?_⟩
 ·obtain⟨a,ns,i,rfl,_⟩:=h;rfl
 obtain⟨a,ns,i,rfl,hS,h63,i0,i1,q⟩:=hs;have e0:EnvOk K L2.f0 (qu aaY [.dat (scr ns),.dat (.int i)]) (start aaY [.ref a,.int i]) H:=jZ (.cons (aiJ hS) (.cons (show RepV K L2.f0 H (.dat (.int i)) (.int i) from (rep_int (K:=K) (H:=hide H L2.f0)).mpr rfl) .nil)) (L2.fok0 H);refine aj8 (D:={ nx:=fun ρ=>ρ=[some (.dat (scr ns)),some (.dat (.int i)),some (.dat (.int 0))],rt:=fun _=>False }) ?_ e0 ?_ (fun _ _ _ _ _ z=>z.elim) (fun _ z=>z) (fun _ z=>z)
 ·walk_at "w";rfl
 rintro _ σ1 H1 g1 e1 rfl;refine aj8 (D:={ nx:=fun ρ=>∃ c:Int,ρ=[some (.dat (scr ns)),some (.dat (.int i)),some (.dat (.int c))],rt:=fun _=>False }) ?_ e1 ?_ (fun _ _ _ _ _ z=>z.elim) (fun _ z=>z) (fun _ z=>z)
 ·walk_at "w";rw [aqr];by_cases h:0<ns.length
  ·rw [if_pos (by simpa using h)];walk_at "w";rw [aqr];have z0:=atu i (b:=(ns.length:Int)) (by omega);have z1:=ase i (b:=(ns.length:Int)) (by omega);refine⟨by omega,_,rfl,_,yU (j:=(i % (ns.length:Int)).toNat) (by omega) (by omega),?_⟩;walk_at "w";exact⟨_,rfl⟩
  ·rw [if_neg (by simpa using h)];walk_at "w";exact⟨_,rfl⟩
 rintro _ σ2 H2 g2 e2 ⟨c,rfl⟩;unfold adq;have ss:Same H H2:=(L2.same0 g1).trans (L2.same0 g2);refine aj9 (R:=fun ds=>∃ x y:Int,ds=[.int x,.int y]/\0<=x/\0<=y/\y<2147483647) ?_ e2 ?_
 ·walk_at "w";omega
 ·rintro p ds vs H3 g3 hn rs ⟨x,y,rfl,hx,hy,hy'⟩;have sf:Same H H3:=ss.trans (L2.same0 g3);have ev:vs=[.int x,.int y]:=Reps.ints (ns:=[x,y]) rs;subst ev;exact q p x y _ (sf.trans (yj hn _)) (sf.free hn) zB hx hy hy'
theorem agr:∀ {es:List PyData},(∀ d∈es,zA d=true)->(PyData.list es).canLay0=true
 | [],_=>rfl
 | d :: es,h=>by
  have a:=agr (es:=es) fun e he=>h e (aqw _ he);have a:asr es=true:=a;show (d.canLay0 && asr es)=true;rw [yN d (h d aqv),a];rfl
theorem ags:∀ {es:List PyData},(∀ d∈es,d.depth<=50)->aqH es<=50
 | [],_=>aq2 _
 | d :: es,h=>Nat.max_le.mpr ⟨h d aqv,ags fun e he=>h e (aqw _ he)⟩
theorem apE {f:Addr} {fd:FuncData} (F:Fun K "law" "law" aca f fd) (uaa:mg "len"=none) (uac:mg "range"=none) (uag:mg "max"=none) (uad:mg "min"=none) (uap:mg "list"=none) (uaP:mg "isinstance"=none) (kL:asB K (.type "list") (.type "list")=some true)
  (ubB:FnIn P w K mg base k "_law_feed" pX (ahp K)) (ubC:FnIn P w K mg base k "_law_table" pY (aif K)) (uaf:FnIn P w K mg base k "_law_draw" pI (aeV K))
  (ubD:FnIn P w K mg base k "_law_cut" pZ (anN K)) (ubE:FnIn P w K mg base k "_law_due" qe (anV K)) (uaG:FnIn P w K mg base k "nodes_at" pG (aiE K)) :
  FnOk P w K mg base CX0 (k+1) f fd qf (aiK K):=by
 refine F.ok sc_law (fun vs H Q E h=>?_) fun cdv A outer s H vs Q E hr hs=>⟨_,(zc (yG aq7 rfl (yM rfl uac (za (zz (aiO rfl) rfl uag boot_max (za zf (za (zz (adE rfl) rfl uad boot_min (za zf (za (zz (yt (K:=K) rfl) rfl uaa arF (za (pv 0) zb)) zb))) zb))) zb)) (ze (i:=1) sc_law.nd rfl (Or.inl rfl) (Or.inr rfl)) (zc (zC (i:=2) sc_law.nd rfl (Or.inl rfl) (zd ubB hr rfl (za (pv 0) (za (pv 1) zb)))) (zc (zC (i:=3) sc_law.nd rfl (Or.inl rfl) (zd ubC hr rfl (za (pv 2) zb))) (zc (zC (i:=4) sc_law.nd rfl (Or.inl rfl) (zt zP (zd ubD hr rfl (za (pv 2) (za (pv 3) zb))) (zd uaf hr rfl (za (pv 2) (za zf zb))))) (zc (zC (i:=5) sc_law.nd rfl (Or.inl rfl) (zz (vc (K:=K) rfl rfl) rfl uad boot_min (za (zX (N:=["_law_row"]) (own:=1) (fr:=[]) (by walk_at "c") rfl (zy (K:=K) rfl (pv 3)) (fun _ _ _ _=>(ze (i:=0) (show (["_law_row"]:List Str).Nodup by decide +kernel) rfl (Or.inl rfl) (Or.inr rfl))) (fun _ _ _ _=>yc) (fun _ _ _ _=>(zz (vc (K:=K) rfl rfl) rfl uad boot_min (za (pv 0) zb))) rfl rfl (fun _=>rfl)) zb))) (zc (zC (i:=6) sc_law.nd rfl (Or.inl rfl) (zz (vd (K:=K) rfl rfl) rfl uag boot_max (za (zX (N:=["_law_row"]) (own:=1) (fr:=[]) (by walk_at "c") rfl (zy (K:=K) rfl (pv 3)) (fun _ _ _ _=>(ze (i:=0) (show (["_law_row"]:List Str).Nodup by decide +kernel) rfl (Or.inl rfl) (Or.inr rfl))) (fun _ _ _ _=>yc) (fun _ _ _ _=>(zz (vd (K:=K) rfl rfl) rfl uag boot_max (za (pv 0) zb))) rfl rfl (fun _=>rfl)) zb))) (zc (zC (i:=7) sc_law.nd rfl (Or.inl rfl) (z9 zb)) (zc (yF (acE va va (pv 5) (pv 4) (pv 6)) (zj (zC (i:=7) sc_law.nd rfl (Or.inl rfl) (zd ubE hr rfl (za (pv 3) (za (pv 4) zb))))) zS) (zc (zC (i:=8) sc_law.nd rfl (Or.inl rfl) (zd uaG hr rfl (za (pv 3) (za (pv 4) zb)))) (zc (yF (PW.pt (ahq (abF (ym (K:=K) rfl (zz (aiZ (K:=K) rfl) rfl uaP boot_isinstance (za (pv 8) (za (alY (v:=.ty "list") rfl uap aud rfl) zb))) (fun _=>rfl))) (agu (zI (vB (K:=K) rfl hr.units) (pv 8) (pv 7) (z8 _))))) (zj (zu vU)) zS) (zc (yE (aa4 ark aro arp yT (pv 8) (za zf zb))) (zj (yF (PW.pt (ahq (zI (vB (K:=K) rfl hr.units) (zd uaG hr rfl (za (pv 3) (za (pv 4) zb))) (pv 7) (z8 _)) (ahq (zI (vB (K:=K) rfl hr.units) (zd uaG hr rfl (za (pv 3) (za (zt yh (pv 5) zf) zb))) (z9 zb) (z8 _)) (agu (zI (vB (K:=K) rfl hr.units) (zd uaG hr rfl (za (pv 3) (za (zt zP (pv 6) zf) zb))) (z9 zb) (z8 _)))))) (zj (zu vU)) zS))))))))))))) (zj (zu vU))),?_⟩
 ·obtain⟨a,ns,rfl,_⟩:=h;rfl
 obtain⟨a,ns,rfl,hS,h63,q⟩:=hs;have e0:EnvOk K L2.f0 (qu aie [.dat (scr ns)]) (start aie [.ref a]) H:=jZ (.cons (aiJ hS) .nil) (L2.fok0 H);suffices h:PSd K L2.f0 _ (qu aie [.dat (scr ns)]) { nx:=fun _=>False,rt:=fun d=>d=.bool true } from
  h _ H _ e0 (fun _ _ _ _ _ z=>z.elim) (fun d v H' _ r z=>by
   subst z;rw [rep_bool.mp r];exact q H') (fun _ _ _ _ _ z=>z) (fun _ _ _ _ _ z=>z)
 refine yq (akc (qE (anu (R:=fun xs=>∃ j:Int,xs=[.dat (.int j)]/\0<=j/\j<=63) ?_ ?_)))
 ·walk_at "w";rw [aqr];split <;> split <;> omega
 rintro _ ⟨j,rfl,j0,j1⟩;refine⟨j,rfl,by omega,by omega,fun i ρ=>∃ x1 x2 x3 x4 x5 x6 x7 x8,ρ=[some (.dat (scr ns)),x1,x2,x3,x4,x5,x6,x7,x8],⟨_,_,_,_,_,_,_,_,rfl⟩,?_,?_⟩
 ·rintro i d _ hi ⟨x1,x2,x3,x4,x5,x6,x7,x8,rfl⟩;obtain⟨hi,rfl⟩:=jF hi;refine zh (aoD (apD rfl rfl h63 (by omega) (by omega)) fun p=>?_);refine yq (z6 (zq () ?_));walk_at "w";rintro _ ⟨wd,rows,rfl,g⟩;have g1:=g.h1;have g2:=g.h2;have w1:=g.w1;refine zh (abg (fun ρ=>∃ ct:Int,ρ=[some (.dat (scr ns)),some (.dat (.int i)),some .feed,some (.dat (tab rows)),some (.dat (.int ct)),x5,x6,x7,x8]) (z6 (jf (zq (rows,wd) ?_))) ?_)
  ·walk_at "w";rintro _ ⟨ct,rfl,c0,c1⟩;refine⟨_,rfl,zq 3 ?_⟩;walk_at "w";rintro _ ⟨jj,rfl,_,_⟩;exact⟨_,rfl,zh ⟨_,rfl⟩⟩
  rintro _ ⟨h,rfl⟩;have ml:(rows.map fun r=>PyData.list (r.map .int)).length=rows.length:=aqr _;have flat:∀ {r:List Int} {n:Int},r∈rows->n∈r->n∈rows.flatten:=fun hr hn=>asD.mpr ⟨_,hr,hn⟩;refine abg (fun ρ=>∃ m:Int,ρ=[some (.dat (scr ns)),some (.dat (.int i)),some .feed,some (.dat (tab rows)),some (.dat (.int h)),some (.dat (.int m)),x6,x7,x8]/\m∈rows.flatten/\∀ n∈rows.flatten,m<=n) (z6 (abJ (zp (acj (zk rfl ⟨_,rfl,by rw [ml];omega,fun i e=>∃ n:Int,e=.int n/\∃ r,rows[i]?=some r/\n∈r/\∀ z∈r,n<=z,fun D i d hd=>?_,fun es hes hR=>?_⟩))))) ?_
  ·rw [aqA] at hd;cases er:rows[i]? with
   | none=>rw [er] at hd;cases hd
   | some r =>
    rw [er] at hd;cases hd;have hr:=aqz er;have rl:=g.row r hr;exact abJ (zp (zk rfl (zH ⟨r,rfl,by rintro rfl;simp at rl;omega,fun M hM hM'=>⟨M,rfl,r,er,hM,hM'⟩⟩)))
  ·obtain⟨ns2,rfl,hn⟩:=aaj hR;rw [aqr,ml] at hes;refine zH ⟨ns2,rfl,by rintro rfl;simp at hes;omega,fun m hm hm'=>zh ⟨m,rfl,?_⟩⟩;obtain⟨im,him⟩:=aqV hm;obtain⟨rm,erm,hrm,hrm'⟩:=hn im m him;refine⟨flat (aqz erm) hrm,fun n hnn=>?_⟩;obtain⟨r,hr,hnr⟩:=asD.mp hnn;obtain⟨i,hi⟩:=aqV hr;have hi':i<ns2.length:=by rw [hes];exact (aqs.mp hi).1
   obtain⟨r',er',_,hz⟩:=hn i _ (aqq hi');rw [hi] at er';cases er';exact ar7 (hm' _ (aq0 hi')) (hz n hnr)
  rintro _ ⟨m,rfl,m1,m2⟩;refine abg (fun ρ=>∃ M:Int,ρ=[some (.dat (scr ns)),some (.dat (.int i)),some .feed,some (.dat (tab rows)),some (.dat (.int h)),some (.dat (.int m)),some (.dat (.int M)),x7,x8]/\M∈rows.flatten/\∀ n∈rows.flatten,n<=M) (z6 (abK (zp (acj (zk rfl ⟨_,rfl,by rw [ml];omega,fun i e=>∃ n:Int,e=.int n/\∃ r,rows[i]?=some r/\n∈r/\∀ z∈r,z<=n,fun D i d hd=>?_,fun es hes hR=>?_⟩))))) ?_
  ·rw [aqA] at hd;cases er:rows[i]? with
   | none=>rw [er] at hd;cases hd
   | some r =>
    rw [er] at hd;cases hd;have hr:=aqz er;have rl:=g.row r hr;exact abK (zp (zk rfl (zH ⟨r,rfl,by rintro rfl;simp at rl;omega,fun M hM hM'=>⟨M,rfl,r,er,hM,hM'⟩⟩)))
  ·obtain⟨ns2,rfl,hn⟩:=aaj hR;rw [aqr,ml] at hes;refine zH ⟨ns2,rfl,by rintro rfl;simp at hes;omega,fun m hm hm'=>zh ⟨m,rfl,?_⟩⟩;obtain⟨im,him⟩:=aqV hm;obtain⟨rm,erm,hrm,hrm'⟩:=hn im m him;refine⟨flat (aqz erm) hrm,fun n hnn=>?_⟩;obtain⟨r,hr,hnr⟩:=asD.mp hnn;obtain⟨i,hi⟩:=aqV hr;have hi':i<ns2.length:=by rw [hes];exact (aqs.mp hi).1
   obtain⟨r',er',_,hz⟩:=hn i _ (aqq hi');rw [hi] at er';cases er';exact ar7 (hz n hnr) (hm' _ (aq0 hi'))
  rintro _ ⟨M,rfl,M1,M2⟩;have spn:(m<=h/\h<=M)↔adn rows h:=⟨fun z=>⟨⟨m,m1,z.1⟩,M,M1,z.2⟩,fun⟨⟨a,ha,la⟩,b,hb,lb⟩=>⟨ar7 (m2 a ha) la,ar7 lb (M2 b hb)⟩⟩;have none1:¬ adn rows (m - 1):=fun⟨⟨a,ha,la⟩,_⟩=>by have:=m2 a ha;omega
  have none2:¬ adn rows (M+1):=fun⟨_,b,hb,lb⟩=>by have:=M2 b hb;omega
  obtain⟨DueP,hDue⟩:∃ DueP:List PyData->Prop,DueP=fun es=>(adn rows h/\∃ rl ru ts us ks,NodesK rows wd h es rl ru ts us ks) \/ (¬ adn rows h/\es=[]):=⟨_,rfl⟩;have one:∀ {es es':List PyData},DueP es->DueP es'->es=es':=by
   rw [hDue];rintro es es' (⟨a,_,_,_,_,_,A⟩ | ⟨a,rfl⟩) (⟨b,_,_,_,_,_,B⟩ | ⟨b,rfl⟩)
   ·exact ajM A B
   ·exact absurd a b
   ·exact absurd b a
   ·rfl
  have props:∀ {es:List PyData},DueP es->(PyData.list es).canLay0=true/\aqH es<=50/\es.length<1000:=by
   rw [hDue];rintro es (⟨a,rl,ru,ts,us,ks,A⟩ | ⟨a,rfl⟩)
   ·have pk:∀ d∈es,∃ q,d=jM rows wd h rl ru (ts.map (yo rows (h - 1) rl ru)) (us.map (yo rows h rl ru)) q:=fun d hd=>by
     obtain⟨q,_,e⟩:=aqG.mp (A.perm.mem_iff.mp hd);exact⟨q,e.symm⟩
    refine⟨agr fun d hd=>?_,ags fun d hd=>?_,?_⟩
    ·obtain⟨q,rfl⟩:=pk d hd;exact aa1 q
    ·obtain⟨q,rfl⟩:=pk d hd;exact adm q
    ·exact Nat.lt_of_le_of_lt A.len (by decide)
   ·exact⟨rfl,aq2 _,by decide⟩
  refine yq (z6 (aaa (zH ⟨_,rfl,aq2 _,zh ?_⟩)));refine abg (fun ρ=>∃ due,ρ=[some (.dat (scr ns)),some (.dat (.int i)),some .feed,some (.dat (tab rows)),some (.dat (.int h)),some (.dat (.int m)),some (.dat (.int M)),some (.dat (.list due)),x8]/\DueP due) (aep (zT (aam (zk rfl ⟨_,rfl,zk rfl ⟨_,rfl,?_⟩⟩)))) ?_
  ·refine z7 (fun c1=>?_) fun c1=>⟨_,rfl,?_⟩
   ·refine zk rfl ⟨_,rfl,_,rfl,z7 (fun c2=>?_) fun c2=>?_⟩
    ·refine z6 (zq (rows,wd,h) (qx rfl rfl ⟨rfl,⟨rfl,g⟩,?_⟩));rintro _ ⟨es,rl,ru,ts,us,ks,rfl,N⟩;exact zh ⟨es,rfl,by rw [hDue];exact .inl ⟨spn.mp ⟨of_decide_eq_true c1,of_decide_eq_true c2⟩,_,_,_,_,_,N⟩⟩
    ·exact aaJ ⟨[],rfl,by rw [hDue];exact .inr ⟨fun z=>of_decide_eq_false c2 (spn.mpr z).2,rfl⟩⟩
   ·exact aaJ ⟨[],rfl,by rw [hDue];exact .inr ⟨fun z=>of_decide_eq_false c1 (spn.mpr z).1,rfl⟩⟩
  rintro _ ⟨due,rfl,hd⟩;obtain⟨lay,dep,len⟩:=props hd;have dle:min (PyData.list due).depth (PyData.list due).depth<=60:=aqS (Nat.min_le_left _ _) (aqS (Nat.succ_le_succ dep) (by decide));refine aae (w:=w) (abb (jO (jg (rows,wd,h) (qx rfl rfl ⟨rfl,⟨rfl,g⟩,?_⟩))));intro es hes;obtain rfl:=one hd (by rw [hDue];exact hes);refine⟨show 8<9 by decide,fun D=>?_⟩;refine aib (fun ρ cs=>ρ=[some (.dat (scr ns)),some (.dat (.int i)),some .feed,some (.dat (tab rows)),some (.dat (.int h)),some (.dat (.int m)),some (.dat (.int M)),some (.dat (.list due)),some (.own 0)]/\cs=[.lst due]) (adv (aeG ?_)) ?_
  ·refine aj2 (adL (y9 (apL kL (zk (i:=8) (d:=.list due) rfl ⟨_,rfl,_,rfl,?_⟩))));refine z7 (fun h=>absurd h aqt) fun _=>?_;refine zT (jn (zk (i:=8) (d:=.list due) rfl (zk (i:=7) (d:=.list due) rfl ⟨lay,lay,dle,_,rfl,?_⟩)));rw [if_pos rfl,atz _ lay,arH,if_neg aqt];exact qY ⟨rfl,rfl⟩
  rintro _ _ ⟨rfl,rfl⟩;refine yD (aba (i:=8) (j:=0) rfl rfl len (ju (yb ?_)));refine adv (agJ (aj2 (zT (jn (PEdO.ped (jg (rows,wd,h) (qx rfl rfl ⟨rfl,⟨rfl,g⟩,?_⟩)))))));intro es hes;obtain rfl:=one hd (by rw [hDue];exact hes);refine zk (i:=7) (d:=.list due) rfl ⟨lay,lay,dle,_,rfl,?_⟩;rw [if_pos rfl,atz _ lay,arH,if_neg aqt];refine aj2 (zT (jn (PEdO.ped (jg (rows,wd,m - 1) (zp (zk rfl (zp (jf (zk rfl ⟨_,rfl,yb ⟨_,rfl,zH ⟨rfl,⟨rfl,g⟩,?_⟩⟩⟩)))))))));rintro es (⟨a,_⟩ | ⟨_,rfl⟩)
  ·exact absurd a none1
  refine aaa (zH ⟨_,rfl,aq2 _,rfl,rfl,by decide,_,rfl,?_⟩);refine z7 (fun h=>absurd h aqt) fun _=>?_;refine zT (jn (PEdO.ped (jg (rows,wd,M+1) (zp (zk rfl (zp (jf (zk rfl ⟨_,rfl,yb ⟨_,rfl,zH ⟨rfl,⟨rfl,g⟩,?_⟩⟩⟩))))))));rintro es (⟨a,_⟩ | ⟨_,rfl⟩)
  ·exact absurd a none2
  refine aaa (zH ⟨_,rfl,aq2 _,rfl,rfl,by decide,_,rfl,?_⟩);refine z7 (fun h=>absurd h aqt) fun _=>?_;exact qY ⟨_,_,_,_,_,_,_,_,rfl⟩
 ·rintro _ ⟨x1,x2,x3,x4,x5,x6,x7,x8,rfl⟩;walk_at "w";rfl
end
theorem _root_.L2.FnIn.m {P w K mg base j k x ps sp} (h:FnIn P w K mg base j x ps sp) (hk:j<=k:=by decide):FnIn P w K mg base k x ps sp:=h.mono hk
theorem xf1 {K:atx} {h:Heap} {mg:Str->Option Value} {x:Str} {st:Stmt} {f:Addr} {od an:Option Addr} {sl:Array (Option Value)} {oc kV dc pm cd ct:Value} (X:K.In h) (G:h.Ns mainGlobals mg) (a:FD K x st f od an sl oc kV dc pm cd ct) {p0:Str} (hb:∀ (kV doc pm:Value) (an:Option Addr) (cdv ct:Value) (u0:Value),bindArgs (arN x x (y3 st) (yw st) (zl st) .none kV doc pm an cdv ct) ⟨[u0],[]⟩=pure ([p0].zip [u0])):Def K mg x st [p0]:=akG X G a (fun _ _ _ _ _ _ us hl=>match us,hl with | [u0],_=>hb _ _ _ _ _ _ u0)
theorem xf2 {K:atx} {h:Heap} {mg:Str->Option Value} {x:Str} {st:Stmt} {f:Addr} {od an:Option Addr} {sl:Array (Option Value)} {oc kV dc pm cd ct:Value} (X:K.In h) (G:h.Ns mainGlobals mg) (a:FD K x st f od an sl oc kV dc pm cd ct) {p0 p1:Str} (hb:∀ (kV doc pm:Value) (an:Option Addr) (cdv ct:Value) (u0 u1:Value),bindArgs (arN x x (y3 st) (yw st) (zl st) .none kV doc pm an cdv ct) ⟨[u0,u1],[]⟩=pure ([p0,p1].zip [u0,u1])):Def K mg x st [p0,p1]:=akG X G a (fun _ _ _ _ _ _ us hl=>match us,hl with | [u0,u1],_=>hb _ _ _ _ _ _ u0 u1)
theorem xf3 {K:atx} {h:Heap} {mg:Str->Option Value} {x:Str} {st:Stmt} {f:Addr} {od an:Option Addr} {sl:Array (Option Value)} {oc kV dc pm cd ct:Value} (X:K.In h) (G:h.Ns mainGlobals mg) (a:FD K x st f od an sl oc kV dc pm cd ct) {p0 p1 p2:Str} (hb:∀ (kV doc pm:Value) (an:Option Addr) (cdv ct:Value) (u0 u1 u2:Value),bindArgs (arN x x (y3 st) (yw st) (zl st) .none kV doc pm an cdv ct) ⟨[u0,u1,u2],[]⟩=pure ([p0,p1,p2].zip [u0,u1,u2])):Def K mg x st [p0,p1,p2]:=akG X G a (fun _ _ _ _ _ _ us hl=>match us,hl with | [u0,u1,u2],_=>hb _ _ _ _ _ _ u0 u1 u2)
theorem xf4 {K:atx} {h:Heap} {mg:Str->Option Value} {x:Str} {st:Stmt} {f:Addr} {od an:Option Addr} {sl:Array (Option Value)} {oc kV dc pm cd ct:Value} (X:K.In h) (G:h.Ns mainGlobals mg) (a:FD K x st f od an sl oc kV dc pm cd ct) {p0 p1 p2 p3:Str} (hb:∀ (kV doc pm:Value) (an:Option Addr) (cdv ct:Value) (u0 u1 u2 u3:Value),bindArgs (arN x x (y3 st) (yw st) (zl st) .none kV doc pm an cdv ct) ⟨[u0,u1,u2,u3],[]⟩=pure ([p0,p1,p2,p3].zip [u0,u1,u2,u3])):Def K mg x st [p0,p1,p2,p3]:=akG X G a (fun _ _ _ _ _ _ us hl=>match us,hl with | [u0,u1,u2,u3],_=>hb _ _ _ _ _ _ u0 u1 u2 u3)
theorem xf5 {K:atx} {h:Heap} {mg:Str->Option Value} {x:Str} {st:Stmt} {f:Addr} {od an:Option Addr} {sl:Array (Option Value)} {oc kV dc pm cd ct:Value} (X:K.In h) (G:h.Ns mainGlobals mg) (a:FD K x st f od an sl oc kV dc pm cd ct) {p0 p1 p2 p3 p4:Str} (hb:∀ (kV doc pm:Value) (an:Option Addr) (cdv ct:Value) (u0 u1 u2 u3 u4:Value),bindArgs (arN x x (y3 st) (yw st) (zl st) .none kV doc pm an cdv ct) ⟨[u0,u1,u2,u3,u4],[]⟩=pure ([p0,p1,p2,p3,p4].zip [u0,u1,u2,u3,u4])):Def K mg x st [p0,p1,p2,p3,p4]:=akG X G a (fun _ _ _ _ _ _ us hl=>match us,hl with | [u0,u1,u2,u3,u4],_=>hb _ _ _ _ _ _ u0 u1 u2 u3 u4)
set_option autoImplicit true in
set_option relaxedAutoImplicit true in
theorem all_mk {l:PySem.W.OpenLaw} {w:World} {K:aqu} {h:Heap} {mg:Str->Option Value} {fa:Addr} (X:K.In h) (G:h.Ns mainGlobals mg) (hfa:mg "law"=some (.ref fa))
  (a1:FD K "size" aeJ f1 od1 an1 sl1 oc1 kV1 dc1 pm1 cd1 ct1)
  (a2:FD K "points" abi f2 od2 an2 sl2 oc2 kV2 dc2 pm2 cd2 ct2)
  (a3:FD K "has_point" qJ f3 od3 an3 sl3 oc3 kV3 dc3 pm3 cd3 ct3)
  (a4:FD K "neighbours" jR f4 od4 an4 sl4 oc4 kV4 dc4 pm4 cd4 ct4)
  (a5:FD K "cells" acp f5 od5 an5 sl5 oc5 kV5 dc5 pm5 cd5 ct5)
  (a6:FD K "has_cell" vH f6 od6 an6 sl6 oc6 kV6 dc6 pm6 cd6 ct6)
  (a7:FD K "corners" aaq f7 od7 an7 sl7 oc7 kV7 dc7 pm7 cd7 ct7)
  (a8:FD K "cells_at" vI f8 od8 an8 sl8 oc8 kV8 dc8 pm8 cd8 ct8)
  (a9:FD K "ask_table" qK f9 od9 an9 sl9 oc9 kV9 dc9 pm9 cd9 ct9)
  (a10:FD K "fits" aeL f10 od10 an10 sl10 oc10 kV10 dc10 pm10 cd10 ct10)
  (a11:FD K "is_row" abj f11 od11 an11 sl11 oc11 kV11 dc11 pm11 cd11 ct11)
  (a12:FD K "span" aeM f12 od12 an12 sl12 oc12 kV12 dc12 pm12 cd12 ct12)
  (a13:FD K "gates" acq f13 od13 an13 sl13 oc13 kV13 dc13 pm13 cd13 ct13)
  (a14:FD K "stands_high" jz f14 od14 an14 sl14 oc14 kV14 dc14 pm14 cd14 ct14)
  (a15:FD K "gate_points" jA f15 od15 an15 sl15 oc15 kV15 dc15 pm15 cd15 ct15)
  (a16:FD K "has_gate" vJ f16 od16 an16 sl16 oc16 kV16 dc16 pm16 cd16 ct16)
  (a17:FD K "is_open" aar f17 od17 an17 sl17 oc17 kV17 dc17 pm17 cd17 ct17)
  (a18:FD K "cell_gates" jS f18 od18 an18 sl18 oc18 kV18 dc18 pm18 cd18 ct18)
  (a19:FD K "is_crossed" jT f19 od19 an19 sl19 oc19 kV19 dc19 pm19 cd19 ct19)
  (a20:FD K "has_high_middle" yQ f20 od20 an20 sl20 oc20 kV20 dc20 pm20 cd20 ct20)
  (a21:FD K "cell_ties" qL f21 od21 an21 sl21 oc21 kV21 dc21 pm21 cd21 ct21)
  (a22:FD K "crossed_ties" ji f22 od22 an22 sl22 oc22 kV22 dc22 pm22 cd22 ct22)
  (a23:FD K "heading" aas f23 od23 an23 sl23 oc23 kV23 dc23 pm23 cd23 ct23)
  (a24:FD K "cell_ahead" jU f24 od24 an24 sl24 oc24 kV24 dc24 pm24 cd24 ct24)
  (a25:FD K "comes_in" vK f25 od25 an25 sl25 oc25 kV25 dc25 pm25 cd25 ct25)
  (a26:FD K "gate_ahead" jV f26 od26 an26 sl26 oc26 kV26 dc26 pm26 cd26 ct26)
  (a27:FD K "lines" acr f27 od27 an27 sl27 oc27 kV27 dc27 pm27 cd27 ct27)
  (a28:FD K "line_from" qM f28 od28 an28 sl28 oc28 kV28 dc28 pm28 cd28 ct28)
  (a29:FD K "regions" aat f29 od29 an29 sl29 oc29 kV29 dc29 pm29 cd29 ct29)
  (a30:FD K "indexes" aau f30 od30 an30 sl30 oc30 kV30 dc30 pm30 cd30 ct30)
  (a31:FD K "all_joined" jW f31 od31 an31 sl31 oc31 kV31 dc31 pm31 cd31 ct31)
  (a32:FD K "joined" abl f32 od32 an32 sl32 oc32 kV32 dc32 pm32 cd32 ct32)
  (a33:FD K "nodes_at" vL f33 od33 an33 sl33 oc33 kV33 dc33 pm33 cd33 ct33)
  (a34:FD K "both_regions" jk f34 od34 an34 sl34 oc34 kV34 dc34 pm34 cd34 ct34)
  (a35:FD K "pairs" acs f35 od35 an35 sl35 oc35 kV35 dc35 pm35 cd35 ct35)
  (a36:FD K "pair_beside" jB f36 od36 an36 sl36 oc36 kV36 dc36 pm36 cd36 ct36)
  (a37:FD K "places_of" qN f37 od37 an37 sl37 oc37 kV37 dc37 pm37 cd37 ct37)
  (a38:FD K "points_of" qO f38 od38 an38 sl38 oc38 kV38 dc38 pm38 cd38 ct38)
  (a39:FD K "cells_of" vM f39 od39 an39 sl39 oc39 kV39 dc39 pm39 cd39 ct39)
  (a40:FD K "has_middle_at" y4 f40 od40 an40 sl40 oc40 kV40 dc40 pm40 cd40 ct40)
  (a41:FD K "spans" acu f41 od41 an41 sl41 oc41 kV41 dc41 pm41 cd41 ct41)
  (a42:FD K "_law_feed" vN f42 od42 an42 sl42 oc42 kV42 dc42 pm42 cd42 ct42)
  (a43:FD K "_law_draw" vO f43 od43 an43 sl43 oc43 kV43 dc43 pm43 cd43 ct43)
  (a44:FD K "_law_height" jX f44 od44 an44 sl44 oc44 kV44 dc44 pm44 cd44 ct44)
  (a45:FD K "_law_table" qP f45 od45 an45 sl45 oc45 kV45 dc45 pm45 cd45 ct45)
  (a46:FD K "_law_cut" aav f46 od46 an46 sl46 oc46 kV46 dc46 pm46 cd46 ct46)
  (a47:FD K "_law_ends" vP f47 od47 an47 sl47 oc47 kV47 dc47 pm47 cd47 ct47)
  (a48:FD K "_law_meet" vQ f48 od48 an48 sl48 oc48 kV48 dc48 pm48 cd48 ct48)
  (a49:FD K "_law_of" abm f49 od49 an49 sl49 oc49 kV49 dc49 pm49 cd49 ct49)
  (a50:FD K "_law_cells" qQ f50 od50 an50 sl50 oc50 kV50 dc50 pm50 cd50 ct50)
  (a51:FD K "_law_due" aaw f51 od51 an51 sl51 oc51 kV51 dc51 pm51 cd51 ct51)
  (a52:FD K "law" aca f52 od52 an52 sl52 oc52 kV52 dc52 pm52 cd52 ct52)
  {ubF:Tok} (uaQ:ari K mainGlobals "FEWEST"=some (some (.int (2) ubF)))
  {ubG:Tok} (uaR:ari K mainGlobals "MOST"=some (some (.int (7) ubG)))
  {ubH:Tok} (uaS:ari K mainGlobals "LEAST"=some (some (.int (-1000000000) ubH)))
  {ubI:Tok} (uaT:ari K mainGlobals "GREATEST"=some (some (.int (1000000000) ubI)))
  (uaU:ari K mainGlobals "len"=some none)
  (uaV:ari K mainGlobals "min"=some none)
  (uaW:ari K mainGlobals "max"=some none)
  (uaX:ari K mainGlobals "enumerate"=some none)
  (uaY:ari K mainGlobals "range"=some none)
  (uaZ:ari K mainGlobals "all"=some none)
  (ua0:ari K mainGlobals "sum"=some none)
  (ua1:ari K mainGlobals "tuple"=some none)
  (ua2:ari K mainGlobals "set"=some none)
  (ua3:ari K mainGlobals "sorted"=some none)
  (ua4:ari K mainGlobals "list"=some none)
  (ua5:ari K mainGlobals "abs"=some none)
  (ua6:ari K mainGlobals "isinstance"=some none)
  {uaz:Addr} (ua7:ari K mainGlobals "AHEAD"=some (some (.ref uaz)))
  {uaB:Addr} (ua8:ari K mainGlobals "BEHIND"=some (some (.ref uaB)))
  (uaA:ai9 K uaz apa=true)
  (uaC:ai9 K uaB ak2=true)
  (kl_pair:aic K "pair_beside"=true)
  (kL:asB K (.type "list") (.type "list")=some true) :
  ∃ fd:FuncData,(∀ (s:Shared) (v:Value),BindsTo s fd ⟨[v],[]⟩ [("_law_script",v)])/\∀ base:Heap,K.In base->base.Ns mainGlobals mg->FnOk l.prog w K mg base CX0 12 fa fd qf (aiK K):=by
 have ubJ:Def K mg "size" aeJ pf:=xf1 X G a1 (fun _ _ _ _ _ _ _=>rfl);have ubK:Def K mg "points" abi pf:=xf1 X G a2 (fun _ _ _ _ _ _ _=>rfl);have ubL:Def K mg "has_point" qJ pj:=xf3 X G a3 (fun _ _ _ _ _ _ _ _ _=>rfl);have ubM:Def K mg "neighbours" jR pj:=xf3 X G a4 (fun _ _ _ _ _ _ _ _ _=>rfl);have ubN:Def K mg "cells" acp pf:=xf1 X G a5 (fun _ _ _ _ _ _ _=>rfl);have ubO:Def K mg "has_cell" vH pj:=xf3 X G a6 (fun _ _ _ _ _ _ _ _ _=>rfl);have ubP:Def K mg "corners" aaq pH:=xf2 X G a7 (fun _ _ _ _ _ _ _ _=>rfl);have ubQ:Def K mg "cells_at" vI pj:=xf3 X G a8 (fun _ _ _ _ _ _ _ _ _=>rfl);have ubR:Def K mg "ask_table" qK pf:=xf1 X G a9 (fun _ _ _ _ _ _ _=>rfl);have ubS:Def K mg "fits" aeL pK:=xf1 X G a10 (fun _ _ _ _ _ _ _=>rfl);have ubT:Def K mg "is_row" abj pE:=xf1 X G a11 (fun _ _ _ _ _ _ _=>rfl);have ubU:Def K mg "span" aeM pf:=xf1 X G a12 (fun _ _ _ _ _ _ _=>rfl);have ubV:Def K mg "gates" acq pz:=xf2 X G a13 (fun _ _ _ _ _ _ _ _=>rfl);have ubW:Def K mg "stands_high" jz pA:=xf3 X G a14 (fun _ _ _ _ _ _ _ _ _=>rfl);have ubX:Def K mg "gate_points" jA ["gate"]:=xf1 X G a15 (fun _ _ _ _ _ _ _=>rfl);have ubY:Def K mg "has_gate" vJ pL:=xf2 X G a16 (fun _ _ _ _ _ _ _ _=>rfl);have ubZ:Def K mg "is_open" aar ph:=xf3 X G a17 (fun _ _ _ _ _ _ _ _ _=>rfl);have ub0:Def K mg "cell_gates" jS ["cell"]:=xf1 X G a18 (fun _ _ _ _ _ _ _=>rfl);have ub1:Def K mg "is_crossed" jT pq:=xf3 X G a19 (fun _ _ _ _ _ _ _ _ _=>rfl);have ub2:Def K mg "has_high_middle" yQ pq:=xf3 X G a20 (fun _ _ _ _ _ _ _ _ _=>rfl);have ub3:Def K mg "cell_ties" qL pq:=xf3 X G a21 (fun _ _ _ _ _ _ _ _ _=>rfl);have ub4:Def K mg "crossed_ties" ji pq:=xf3 X G a22 (fun _ _ _ _ _ _ _ _ _=>rfl);have ub5:Def K mg "heading" aas ph:=xf3 X G a23 (fun _ _ _ _ _ _ _ _ _=>rfl);have ub6:Def K mg "cell_ahead" jU ph:=xf3 X G a24 (fun _ _ _ _ _ _ _ _ _=>rfl);have ub7:Def K mg "comes_in" vK ph:=xf3 X G a25 (fun _ _ _ _ _ _ _ _ _=>rfl);have ub8:Def K mg "gate_ahead" jV ph:=xf3 X G a26 (fun _ _ _ _ _ _ _ _ _=>rfl);have ub9:Def K mg "lines" acr pz:=xf2 X G a27 (fun _ _ _ _ _ _ _ _=>rfl);have uca:Def K mg "line_from" qM pF:=xf3 X G a28 (fun _ _ _ _ _ _ _ _ _=>rfl);have ucb:Def K mg "regions" aat pz:=xf2 X G a29 (fun _ _ _ _ _ _ _ _=>rfl);have ucc:Def K mg "indexes" aau pz:=xf2 X G a30 (fun _ _ _ _ _ _ _ _=>rfl);have ucd:Def K mg "all_joined" jW pF:=xf3 X G a31 (fun _ _ _ _ _ _ _ _ _=>rfl);have uce:Def K mg "joined" abl pA:=xf3 X G a32 (fun _ _ _ _ _ _ _ _ _=>rfl);have ucf:Def K mg "nodes_at" vL pG:=xf2 X G a33 (fun _ _ _ _ _ _ _ _=>rfl);have ucg:Def K mg "both_regions" jk pG:=xf2 X G a34 (fun _ _ _ _ _ _ _ _=>rfl);have uch:Def K mg "pairs" acs pR:=xf3 X G a35 (fun _ _ _ _ _ _ _ _ _=>rfl);have uci:Def K mg "pair_beside" jB pS:=xf3 X G a36 (fun _ _ _ _ _ _ _ _ _=>rfl);have ucj:Def K mg "places_of" qN pM:=xf2 X G a37 (fun _ _ _ _ _ _ _ _=>rfl);have uck:Def K mg "points_of" qO pB:=xf4 X G a38 (fun _ _ _ _ _ _ _ _ _ _=>rfl);have ucl:Def K mg "cells_of" vM pB:=xf4 X G a39 (fun _ _ _ _ _ _ _ _ _ _=>rfl);have ucm:Def K mg "has_middle_at" y4 pV:=xf3 X G a40 (fun _ _ _ _ _ _ _ _ _=>rfl);have ucn:Def K mg "spans" acu pW:=xf3 X G a41 (fun _ _ _ _ _ _ _ _ _=>rfl);have uco:Def K mg "_law_feed" vN pX:=xf2 X G a42 (fun _ _ _ _ _ _ _ _=>rfl);have ucp:Def K mg "_law_draw" vO pI:=xf2 X G a43 (fun _ _ _ _ _ _ _ _=>rfl);have ucq:Def K mg "_law_height" jX pN:=xf3 X G a44 (fun _ _ _ _ _ _ _ _ _=>rfl);have ucr:Def K mg "_law_table" qP pY:=xf1 X G a45 (fun _ _ _ _ _ _ _=>rfl);have ucs:Def K mg "_law_cut" aav pZ:=xf2 X G a46 (fun _ _ _ _ _ _ _ _=>rfl);have uct:Def K mg "_law_ends" vP qa:=xf3 X G a47 (fun _ _ _ _ _ _ _ _ _=>rfl);have ucu:Def K mg "_law_meet" vQ qb:=xf2 X G a48 (fun _ _ _ _ _ _ _ _=>rfl);have ucv:Def K mg "_law_of" abm qc:=xf5 X G a49 (fun _ _ _ _ _ _ _ _ _ _ _=>rfl);have ucw:Def K mg "_law_cells" qQ qd:=xf4 X G a50 (fun _ _ _ _ _ _ _ _ _ _=>rfl);have ucx:Def K mg "_law_due" aaw qe:=xf2 X G a51 (fun _ _ _ _ _ _ _ _=>rfl);have ucy:Def K mg "law" aca qf:=xf1 X G a52 (fun _ _ _ _ _ _ _=>rfl);have uaq:=ar9 X G uaQ;have uar:=ar9 X G uaR;have uas:=ar9 X G uaS;have uat:=ar9 X G uaT;have uaa:=arn X G uaU;have uad:=arn X G uaV;have uag:=arn X G uaW;have uai:=arn X G uaX;have uac:=arn X G uaY;have uam:=arn X G uaZ;have ual:=arn X G ua0;have uab:=arn X G ua1;have uao:=arn X G ua2;have uae:=arn X G ua3;have uap:=arn X G ua4;have uaO:=arn X G ua5;have uaP:=arn X G ua6;have uaK:=ar9 X G ua7;have uaM:=ar9 X G ua8;have e:=hfa.symm.trans (ar9 X G a52.1);cases e;have F0:=agB (st:=aca) a52.2.1 a52.2.2.1 a52.2.2.2;refine⟨arN "law" "law" (y3 aca) (yw aca) (zl aca) .none kV52 dc52 pm52 an52 cd52 ct52,fun s v=>.of_eq rfl,fun base _ _=>?_⟩;have H0:=anv (P:=l.prog) (w:=w) (base:=base) (k:=0) uco uaa uaO;have H1:=amN (P:=l.prog) (w:=w) (base:=base) (k:=0) ucp;have H2:=amM (P:=l.prog) (w:=w) (base:=base) (k:=0) ubS uaa ⟨_,uaq⟩ ⟨_,uar⟩;have H3:=amL (P:=l.prog) (w:=w) (base:=base) (k:=0) ubJ uaa;have H4:=amO (P:=l.prog) (w:=w) (base:=base) (k:=0) ubW;have H5:=ao6 (P:=l.prog) (w:=w) (base:=base) (k:=0) ubX;have H6:=aju (P:=l.prog) (w:=w) (base:=base) (k:=0) ub0;have H7:=ahb (P:=l.prog) (w:=w) (base:=base) (k:=0) ubP;have H8:=anm (P:=l.prog) (w:=w) (base:=base) (k:=0) ucu;have H9:=anl (P:=l.prog) (w:=w) (base:=base) (k:=0) uct;have H10:=ano (P:=l.prog) (w:=w) (base:=base) (k:=0) ucw uaa uac uab ual;have H11:=apv (P:=l.prog) (w:=w) (base:=base) (k:=0) ucj uab uai;have H12:=ajr (k:=1) ucq uad H1.m;have H13:=ao7 (k:=1) ucs uaa H1.m;have H14:=ajq (k:=1) ubT uad uag ⟨_,uas⟩ ⟨_,uat⟩ H2.m;have H15:=ajs (k:=1) ubK uac H3.m;have H16:=ao5 (k:=1) ubL H3.m;have H17:=ao9 (k:=1) ub2 ual H7.m;have H18:=ahe (k:=1) ub5 H4.m;have H19:=aqh (k:=1) ucv uaa uac uab H9.m;have H20:=alu (k:=1) ubN uac H3.m;have H21:=alx (k:=1) ucm ual H7.m;have H22:=aly (k:=1) ucn H7.m;have H23:=akU (k:=2) ucr uac H1.m H12.m;have H24:=ao4 (k:=2) ubR uaa uai H2.m H14.m;have H25:=apX (k:=2) ubM H16.m;have H26:=amT (k:=2) ubO H16.m;have H27:=amP (k:=2) ubY uam H16.m H5.m;have H28:=ajx (k:=2) ub6 uaK uaA H18.m;have H29:=ajv (k:=2) ub4 H6.m H4.m H17.m;have H30:=anh (k:=2) uck uab H15.m;have H31:=ani (k:=2) ucl uab H20.m H21.m H22.m;have H32:=apZ (k:=3) ubQ H26.m;have H33:=amQ (k:=3) ubZ H27.m H5.m H4.m;have H34:=ak4 (k:=3) ub7 uaM uaC H18.m H26.m;have H35:=anf (k:=3) ubU uad uag H24.m;have H36:=ajK (k:=1) uci kl_pair uae H5.m;have H37:=alE (k:=3) uch uap H15.m H25.m;have H38:=ahc (k:=4) ub1 uam H33.m H6.m;have H39:=akY (k:=4) ubV H24.m H15.m H33.m;have H40:=am5 (k:=5) uce H4.m H25.m H32.m H38.m H17.m;have H41:=ak1 (k:=5) ub3 H38.m H29.m H6.m H33.m;have H42:=am6 (k:=6) ucd uae uab H40.m;have H43:=amY (k:=6) ub8 H28.m H26.m H41.m;have H44:=am7 (k:=7) ucb uao H24.m H15.m H42.m H4.m;have H45:=am2 (k:=7) uca uab H43.m;have H46:=ald (k:=8) ub9 uao uae H24.m H39.m H34.m H45.m;have H47:=ahk (k:=8) ucc uai H44.m;have H48:=apC (k:=9) ucx uab uae H44.m H46.m H8.m H19.m H10.m;have H49:=ang (k:=9) ucg H47.m H15.m;have H50:=alI (k:=10) ucf uae H24.m H35.m H49.m H46.m H36.m H37.m H30.m H31.m H11.m;exact apE (k:=11) F0 uaa uac uag uad uap uaP kL H0.m H23.m H1.m H13.m H48.m H50.m
theorem walk {l:PySem.W.OpenLaw} {q:Program} {loose:List Str} {XP:(Str->Option Value)->Heap->Prop} {YP:World->Heap->Prop} {d:DefRec} {K:Params->aqu} (ts:List (Addr×Str)) (hn:l.most=some 63) (hdf:d.params.defaults=[])
  (hY:∀ (w:World) (h:Heap),YP w h->(K w.params).In h/\∀ p∈ts,h.get? p.1=some (asz #[])) (hB:∀ w:World,abh (K w.params) ts=true)
  (F:∀ (w:World) (mg:Str->Option Value) (fa:Addr) (h:Heap),(K w.params).In h->h.Ns mainGlobals mg->mg d.name=some (.ref fa) ->
   ∃ fd:FuncData,(∀ (s:Shared) (u:Value),BindsTo s fd ⟨[u],[]⟩ [("_law_script",u)])/\∀ base:Heap,(K w.params).In base->base.Ns mainGlobals mg->FnOk l.prog w (K w.params) mg base CX0 12 fa fd qf (aiK (K w.params))) :
  PySem.W.WalkO q loose XP YP l.row.toRowW d [] (fun f vs=>PySem.call f vs) :=
 L2.walk_T (n:=63) (k:=12) (x:="_law_script") (CX:=fun _=>CX0) (sp:=fun w=>aiK (K w.params)) ts hn (by decide) hdf ⟨rfl,by decide,by decide⟩ hY hB F (fun _ _ a ns hl hS=>⟨a,ns,rfl,hS,hl,fun _=>rfl⟩) fun _ _ _ _ _ z=>z
end My
namespace PySem.W.Fast
def tw10078258077706859101:Nat:=0
def tw10149680502356796491:Nat:=0
def tw10175072520148871180:Nat:=0
def tw10233947816131339813:Nat:=0
def tw10429270429587604566:Nat:=0
def tw10582090561061577271:Nat:=0
def tw10633231792838399159:Nat:=0
def tw10752600451329287738:Nat:=0
def tw10877360807108816994:Nat:=0
def tw10948237183880753153:Nat:=0
def tw11297359009448038907:Nat:=0
def tw11313531475355653378:Nat:=0
def tw11359429364070474724:Nat:=0
def tw11431364869373230897:Nat:=0
def tw11638504798816669756:Nat:=0
def tw1166633736912623637:Nat:=0
def tw11746532808449337946:Nat:=0
def tw11825951951560234708:Nat:=0
def tw12013600244032476191:Nat:=0
def tw12053606687121426923:Nat:=0
def tw12097276123449732346:Nat:=0
def tw1223200024098115375:Nat:=0
def tw12514025585035037823:Nat:=0
def tw12636286671952289205:Nat:=0
def tw12742346466679100003:Nat:=0
def tw12745614896367620721:Nat:=0
def tw12774480208648475056:Nat:=0
def tw13015636349117107166:Nat:=0
def tw13110643346235252713:Nat:=0
def tw13130271345229363600:Nat:=0
def tw13135668252416773718:Nat:=0
def tw13323738774221973242:Nat:=0
def tw13478699313901002721:Nat:=0
def tw13515749706864900266:Nat:=0
def tw1370390631549776315:Nat:=0
def tw13799506990765077255:Nat:=0
def tw13875805369855768879:Nat:=0
def tw13922821745049451860:Nat:=0
def tw13933822725155471136:Nat:=0
def tw14393386547128073969:Nat:=0
def tw14475436837153052540:Nat:=0
def tw14756811138115385249:Nat:=0
def tw14772307596493486367:Nat:=0
def tw14805902740162723894:Nat:=0
def tw14988523422829485146:Nat:=0
def tw15093693667658643496:Nat:=0
def tw15111327309005599598:Nat:=0
def tw15668874883818164410:Nat:=0
def tw16130047451571873625:Nat:=0
def tw16181989032880952088:Nat:=0
def tw1625517928938423782:Nat:=0
def tw16257224643728578106:Nat:=0
def tw16376332366659100682:Nat:=0
def tw16547019153353543377:Nat:=0
def tw16612086786417074395:Nat:=0
def tw16636443239095083237:Nat:=0
def tw16648179601991620912:Nat:=0
def tw16729507396256216210:Nat:=0
def tw16825625990989455390:Nat:=0
def tw16953275320381864160:Nat:=0
def tw17004092755783576265:Nat:=0
def tw17241721230021442097:Nat:=0
def tw17481216887098073073:Nat:=0
def tw17772923205381046815:Nat:=0
def tw17875765941231665187:Nat:=0
def tw17960258522386617895:Nat:=0
def tw1800985054497302084:Nat:=0
def tw18038655724211473468:Nat:=0
def tw18332627794496062964:Nat:=0
def tw1835806908103959453:Nat:=0
def tw1883067655039661601:Nat:=0
def tw1913776011519362365:Nat:=0
def tw2215082049416344898:Nat:=0
def tw2310619245537776695:Nat:=0
def tw2492695182722851773:Nat:=0
def tw2804968601172971569:Nat:=0
def tw2842145266323592648:Nat:=0
def tw2898598108815483936:Nat:=0
def tw3001309683352404036:Nat:=0
def tw3104558827617538892:Nat:=0
def tw3280180578401517189:Nat:=0
def tw3525666893349238162:Nat:=0
def tw3602095425730509387:Nat:=0
def tw372653678625322604:Nat:=0
def tw3750643534052406557:Nat:=0
def tw3965804441367982134:Nat:=0
def tw3983786490764171121:Nat:=0
def tw4014319396561054383:Nat:=0
def tw4038797677021478490:Nat:=0
def tw4180697452010315690:Nat:=0
def tw4182570159434021572:Nat:=0
def tw4374010533027292604:Nat:=0
def tw4597722959474017742:Nat:=0
def tw4612539153663918448:Nat:=0
def tw4636889982815999120:Nat:=0
def tw4649351877766954972:Nat:=0
def tw4720321522032661418:Nat:=0
def tw4749821889388860969:Nat:=0
def tw4848405756551589848:Nat:=0
def tw5246478292898904968:Nat:=0
def tw5451646741709023567:Nat:=0
def tw5548136087078166241:Nat:=0
def tw55780416634009811:Nat:=0
def tw5621689768079761276:Nat:=0
def tw5775814443746391849:Nat:=0
def tw5844879244476012994:Nat:=0
def tw5959652183803501705:Nat:=0
def tw6329886880486530301:Nat:=0
def tw6336739669093565145:Nat:=0
def tw6350184184356589478:Nat:=0
def tw6398909285495531477:Nat:=0
def tw6611195747374526912:Nat:=0
def tw6969217400460643276:Nat:=0
def tw707653057940594980:Nat:=0
def tw721244064553743452:Nat:=0
def tw7455241228197991827:Nat:=0
def tw752586238346514830:Nat:=0
def tw7627468026321035254:Nat:=0
def tw7644093651834204314:Nat:=0
def tw767029109733500117:Nat:=0
def tw7885947093448026696:Nat:=0
def tw8175647425920649531:Nat:=0
def tw8220939939890322843:Nat:=0
def tw8251892577951844333:Nat:=0
def tw8515566482109920803:Nat:=0
def tw8520276796083479466:Nat:=0
def tw8600062816105467287:Nat:=0
def tw8662477061413256582:Nat:=0
def tw8745967678820027328:Nat:=0
def tw8757546877171224842:Nat:=0
def tw8871524617860535246:Nat:=0
def tw8915382406161379847:Nat:=0
def tw9056339112882887607:Nat:=0
def tw9076161522848674414:Nat:=0
def tw907871004191111696:Nat:=0
def tw917475287031284287:Nat:=0
def tw926077037576373288:Nat:=0
def tw9501949139212527528:Nat:=0
def tw9707085221945489179:Nat:=0
def tw9778361503980726451:Nat:=0
def tw9812332315940794926:Nat:=0
def tw985097277092021586:Nat:=0
def tw9878829226792590637:Nat:=0
def tw9966064941665760407:Nat:=0
end PySem.W.Fast
open PySem PySem.W PyProof.Rows
set_option maxRecDepth 100000 in
set_option maxHeartbeats 0 in
theorem PySem.Challenge.cw_heightrings_k40_nodes_by_regions_holds : PySem.Challenge.rw_heightrings_k40_nodes_by_regions.Holds := by
 w_on;o_law;k_head;(case hw=>w_witness2)
 k_fill
 refine My.walk (l:=PySem.Challenge.rw_heightrings_k40_nodes_by_regions) [(275,L2.lamQ "pair_beside")] rfl rfl (fun w h Y=>⟨by first | exact PySem.W.kIn_of Y | exact PySem.W.km_in_of Y,fun p hp=>PySem.W.km_tabs_of Y p.1 (auE (f:=Prod.fst) hp)⟩) (fun w=>by kernel_rfl) ?F
 case F =>
  intro w mg fa h KX G hmg
  refine' My.all_mk KX G hmg ?a1 ?a2 ?a3 ?a4 ?a5 ?a6 ?a7 ?a8 ?a9 ?a10 ?a11 ?a12 ?a13 ?a14 ?a15 ?a16 ?a17 ?a18 ?a19 ?a20 ?a21 ?a22 ?a23 ?a24 ?a25 ?a26 ?a27 ?a28 ?a29 ?a30 ?a31 ?a32 ?a33 ?a34 ?a35 ?a36 ?a37 ?a38 ?a39 ?a40 ?a41 ?a42 ?a43 ?a44 ?a45 ?a46 ?a47 ?a48 ?a49 ?a50 ?a51 ?a52 ?uaQ ?uaR ?uaS ?uaT ?uaU ?uaV ?uaW ?uaX ?uaY ?uaZ ?ua0 ?ua1 ?ua2 ?ua3 ?ua4 ?ua5 ?ua6 ?ua7 ?ua8 ?uaA ?uaC ?kl_pair ?kL
  (case a1=>refine⟨?_,?_,?_,?_⟩ <;> k_is)
  (case a2=>refine⟨?_,?_,?_,?_⟩ <;> k_is)
  (case a3=>refine⟨?_,?_,?_,?_⟩ <;> k_is)
  (case a4=>refine⟨?_,?_,?_,?_⟩ <;> k_is)
  (case a5=>refine⟨?_,?_,?_,?_⟩ <;> k_is)
  (case a6=>refine⟨?_,?_,?_,?_⟩ <;> k_is)
  (case a7=>refine⟨?_,?_,?_,?_⟩ <;> k_is)
  (case a8=>refine⟨?_,?_,?_,?_⟩ <;> k_is)
  (case a9=>refine⟨?_,?_,?_,?_⟩ <;> k_is)
  (case a10=>refine⟨?_,?_,?_,?_⟩ <;> k_is)
  (case a11=>refine⟨?_,?_,?_,?_⟩ <;> k_is)
  (case a12=>refine⟨?_,?_,?_,?_⟩ <;> k_is)
  (case a13=>refine⟨?_,?_,?_,?_⟩ <;> k_is)
  (case a14=>refine⟨?_,?_,?_,?_⟩ <;> k_is)
  (case a15=>refine⟨?_,?_,?_,?_⟩ <;> k_is)
  (case a16=>refine⟨?_,?_,?_,?_⟩ <;> k_is)
  (case a17=>refine⟨?_,?_,?_,?_⟩ <;> k_is)
  (case a18=>refine⟨?_,?_,?_,?_⟩ <;> k_is)
  (case a19=>refine⟨?_,?_,?_,?_⟩ <;> k_is)
  (case a20=>refine⟨?_,?_,?_,?_⟩ <;> k_is)
  (case a21=>refine⟨?_,?_,?_,?_⟩ <;> k_is)
  (case a22=>refine⟨?_,?_,?_,?_⟩ <;> k_is)
  (case a23=>refine⟨?_,?_,?_,?_⟩ <;> k_is)
  (case a24=>refine⟨?_,?_,?_,?_⟩ <;> k_is)
  (case a25=>refine⟨?_,?_,?_,?_⟩ <;> k_is)
  (case a26=>refine⟨?_,?_,?_,?_⟩ <;> k_is)
  (case a27=>refine⟨?_,?_,?_,?_⟩ <;> k_is)
  (case a28=>refine⟨?_,?_,?_,?_⟩ <;> k_is)
  (case a29=>refine⟨?_,?_,?_,?_⟩ <;> k_is)
  (case a30=>refine⟨?_,?_,?_,?_⟩ <;> k_is)
  (case a31=>refine⟨?_,?_,?_,?_⟩ <;> k_is)
  (case a32=>refine⟨?_,?_,?_,?_⟩ <;> k_is)
  (case a33=>refine⟨?_,?_,?_,?_⟩ <;> k_is)
  (case a34=>refine⟨?_,?_,?_,?_⟩ <;> k_is)
  (case a35=>refine⟨?_,?_,?_,?_⟩ <;> k_is)
  (case a36=>refine⟨?_,?_,?_,?_⟩ <;> k_is)
  (case a37=>refine⟨?_,?_,?_,?_⟩ <;> k_is)
  (case a38=>refine⟨?_,?_,?_,?_⟩ <;> k_is)
  (case a39=>refine⟨?_,?_,?_,?_⟩ <;> k_is)
  (case a40=>refine⟨?_,?_,?_,?_⟩ <;> k_is)
  (case a41=>refine⟨?_,?_,?_,?_⟩ <;> k_is)
  (case a42=>refine⟨?_,?_,?_,?_⟩ <;> k_is)
  (case a43=>refine⟨?_,?_,?_,?_⟩ <;> k_is)
  (case a44=>refine⟨?_,?_,?_,?_⟩ <;> k_is)
  (case a45=>refine⟨?_,?_,?_,?_⟩ <;> k_is)
  (case a46=>refine⟨?_,?_,?_,?_⟩ <;> k_is)
  (case a47=>refine⟨?_,?_,?_,?_⟩ <;> k_is)
  (case a48=>refine⟨?_,?_,?_,?_⟩ <;> k_is)
  (case a49=>refine⟨?_,?_,?_,?_⟩ <;> k_is)
  (case a50=>refine⟨?_,?_,?_,?_⟩ <;> k_is)
  (case a51=>refine⟨?_,?_,?_,?_⟩ <;> k_is)
  (case a52=>refine⟨?_,?_,?_,?_⟩ <;> k_is)
  (case uaQ=>k_is)
  (case uaR=>k_is)
  (case uaS=>k_is)
  (case uaT=>k_is)
  (case uaU=>k_is)
  (case uaV=>k_is)
  (case uaW=>k_is)
  (case uaX=>k_is)
  (case uaY=>k_is)
  (case uaZ=>k_is)
  (case ua0=>k_is)
  (case ua1=>k_is)
  (case ua2=>k_is)
  (case ua3=>k_is)
  (case ua4=>k_is)
  (case ua5=>k_is)
  (case ua6=>k_is)
  (case ua7=>k_is)
  (case ua8=>k_is)
  (case uaA=>kernel_rfl)
  (case uaC=>kernel_rfl)
  (case kl_pair=>kernel_rfl)
  (case kL=>kernel_rfl)
end
