import PyProof.Rows.All
import Wide.All
import OpenK.AllK
import Wide.FinOn
import Lean
import PyProof.EqAt
import PyProof.EqKinds
import PyProof.TupleCall
import KE.KTryMore
import PyProof.ExcArgs
import PyProof.ConsumeWalk
import PyProof.P3Eq
import KE.KRevIter
import PyProof.ListRange
import PyProof.Rows.SumAny
import KE.KSortTup
import PyProof.SetScanFacts
import PyProof.TupleKey
import PyProof.DictRoadsH
import PyProof.SetRoads
import KE.KTabLook
import PyProof.Rows.ListMul
import PyProof.InstStoreFacts
import PyProof.Rows.SetFrom
import PyProof.AutoListH
import PyProof.StrCalls2
import PyProof.MeetsSeq
import PyProof.DictCompW
import KE.KSortKey
import PySem.Challenge.RW_heightrings_k70_told_back
open List renaming getElem?_eq_getElem → apO,length_map → apP,getD_eq_getElem?_getD → apR,getElem?_eq_some_iff → apS,getElem?_map → apU,mem_cons_of_mem → apW,mem_cons_self → apX,mem_of_getElem? → apZ,mem_cons → ap0,getElem?_append_left → ap1,getElem?_append_right → ap2,length_cons → ap8,size_toArray → ap9,length_append → aqa,range → aqb,getElem?_eq_none → aqc,mem_map → aqd,mem_append_right → aqe,map_cons → aqf,length_range → aqg,mem_append → aqh,mem_singleton → aqj,mem_range → aqk,getElem?_of_mem → aql,map_append → aqm,getElem_mem → aqo,map_map → aqv,getElem?_range → aqx,take_length → aqy,mem_flatMap → aqA,length_take → aqD,mem_reverse → aqF,append_nil → aqG,getElem?_set_ne → aqH,filter_cons → aqI,cons_ne_nil → aqJ,length_set → aqK,not_mem_nil → aqN,nodup_cons → aqO,map_congr_left → aqR,length_singleton → aqT,lookup_cons → aqW,all_eq_true → aqX,nodup_append → aqY,take_add_one → aqZ,ext_getElem? → aq0,append_assoc → aq1,filter_append → aq2,nodup_nil → aq6,getElem_of_mem → aq8,flatMap_append → aq9,pairwise_map → arb,length_nil → arh,toArray → arj,mem_append_left → arq,getElem?_set_self → arx,exists_cons_of_ne_nil → arA,pairwise_iff_getElem → arC,length_filter_le → arE,length_pos_iff → arM,reverse_append → arN,mem_map_of_mem → arP,mem_filter → arZ,forIn_cons → ar0,range_succ → ar1,flatMap_cons → ar2,replicate → asd,getElem?_replicate → ase,forIn_nil → asi,take_of_length_le → asm,zip_cons_cons → asn,map → asr,take_append_drop → asv,reverse_reverse → asz,take_zero → asA,getElem_inj → asB,length_drop → asC,filterMap_cons → asG,findSome?_cons → asI,getElem?_take_of_lt → asK,length_erase_of_mem → asN,getElem?_drop → asP,getElem?_cons_zero → asT,take_sublist → asU,getElem?_set → as0,take_succ → as2,head?_eq_getElem? → as3,eraseIdxIfInBounds_toArray → as4,length_replicate → as5,getElem?_zipWith → as7,any_eq_true → atb,map_drop → atd,mem_of_mem_take → atg,mem_erase_of_ne → ath,getLast?_eq_some_getLast → ati,of_mem_zip → atj,find?_cons → atm,length_reverse → atp,map_nil → atq,mem_filterMap → atw,length_eraseIdx_of_lt → atF,mem_or_eq_of_mem_set → atJ,getLast?_eq_getElem? → atL,drop_eq_getElem_cons → atM,any_eq_false → atO,reverse_cons → atR,any_cons → atU,map_take → atX,nodup_range → at5,isEmpty_nil → at8,length_eq_zero_iff → aua,getLast_mem → aub,length_pos_of_mem → aue,filter_nil → aui,singleton_append → aul,getElem?_mapIdx → auv,mem_iff_getElem → auw,mem_of_getLast? → auE,filter_flatMap → auG,all_cons → auH,zipWith → auL,length → auN
open Bool renaming false_ne_true → apQ,and_eq_true → ap3,not_true → aqt,false_eq_true → aqB,true_and → aq7,false_and → arn,eq_iff_iff → arB,not_false → arW,and_false → atB,and_true → at3,not_eq_true → at7
open PySem.W renaming Frag → apT,mg_none_of → aqw,nsIn → aqC,kia_one → aqU,keepIn → arf,fnOf → arp,kitOne → ary,mg_of → arU,findIn → asb,cellsFrom_some → asl,codeIn → atx,methodObj → atN,specialIn → atP,kitx_list → atQ,Frag → auf,instObj → auh,lookIn → aus
open PySem.Heap renaming get?_push_of_some → apV,lt_size → ap5,get?_push_size → ap7,get?_update_other → aqM,get?_update_self → aqQ,size_push → aq5,SameBut → arI,get?_none_of_le → ate,ExtBut → auB
open Nat renaming le_refl → apY,le_trans → aqn,ne_of_lt → aqp,lt_of_lt_of_le → aqq,zero_le → aqu,lt_succ_of_lt → aqP,not_lt_zero → ari,lt_irrefl → aru,le_of_lt → arv,sub_self → arz,le_add_right → arG,ne_of_gt → arJ,le_of_eq → arR,lt_of_succ_lt_succ → arT,lt_succ_iff_lt_or_eq → ar6,lt_succ_self → ash,min_le_left → ass,lt_trans → asD,add_sub_cancel → asQ,le_of_succ_le → asW,lt_succ_of_le → asZ,succ_le_succ → ata,le_succ → atf,lt_succ_iff → atk,succ_pos → atr,zero_add → ats,not_lt → atA,add_assoc → atW,min_le_right → at4,le_of_ble_eq_true → auo,add_comm → auK
open Array renaming length_toList → ap4,getElem?_eq_getElem → ark,getElem?_toList → arl,getD_eq_getD_getElem? → arS,getD → ar4,mem_toList_iff → asw,getElem?_eq_some_iff → asy,forIn_toList → asR,size_map → asX,getElem?_eq_none → as1,replicate → atl,toList_map → at6,toList_filterMap → auc
open PySem.PyData renaming depthAll → ap6,eqv → aqi,canLayAll0 → aqr,strOk → aq4,eqvAll → atV,depth → auM
open Int renaming toNat_natCast → aqs,emod_lt_of_pos → arF,eq_ofNat_of_zero_le → arL,emod_nonneg → asO,le_trans → aud,zero_add → auJ
open PySem renaming boot_len → aqz,mem_of_lookup → asa
open PyProof.Rows.F renaming plain_set_update_loop → aqE,entry_set_update_loop → arO
open PySem.Builtin.SmallTypes renaming nextOf → aqL,ownedTupleIsFree → aro,ownedTupleHandOut → asH
open Classical renaming byContradiction → aqS,propDecidable → arc
open PySem.PassesOwn renaming never → aqV
open PySem.F renaming called_set → aq3,plainAttrs_list → ard,slot_tuple_hash → arK,plain_min_loop → arV,slot_list_append → ar7,type_list_append → ar8,slot_set_contains → asF,slot_zip_next → atn,slot_tuple_iterator_next → atE,slot_dict_getitem → atH,entry_min_loop → at9,slot_dict_len → auj,slot_set_iter → aum,slot_list_pop → auq,type_list_pop → aur,args_list_append_2 → auu,slot_set_add → auz,entry_list_append → auF
open PySem.Heap.SameBut renaming update → ara
open PySem.Around renaming under_plainId → ars
open PyProof.Rows renaming callWith_type1 → art,slot_tuple_getitem → ar9,boot_list → asq,boot_set → as8,boot_all → as9,boot_sorted → atZ,boot_sum → aun,boot_any → aup
open Ne renaming symm → arw
open PySem.SeqAt.ReadsAll renaming length → arD
open Option renaming getD_some → arH,isSome_iff_exists → asJ
open PySem.Str renaming ofString → arQ
open PySem.Builtin.Slice renaming slicePlaces → arX,sliceAdjust → asE,sliceApplied → aty
open PySem.Builtin.Tuple renaming tupleHashOf → arY,tupleExact → ar3,tupleItemsOf → atz
open PySem.SetTable renaming toList_insertAt → ar5,sizeAbove → aso,fill → asu,fits → atc,grown → auy
open False renaming elim → asj
open PySem.Obj renaming putSet → asp,mapSeq → asx,mapFields → asM,data_mapFields → asS,isFreed_of_fields → as6
open PySem.Builtin.Frozenset renaming addrOf → asL,updateFrom → ato,oneOther → atD
open PySem.Calls renaming callWith_builtin → asV,Name_function_global → atv,call_function_entry → atG,evalArgs_plain → aut
open PySem.SeqAt renaming eqv_refl → asY
open PySem.Builtin.Builtins renaming bindParams → att
open PySem.Builtin.List renaming listLengthHint → atu
open PySem.Shared renaming TypeIs → atY
open List.Perm renaming append_left → auk
open PyProof.Rows.KTD renaming datumAt → auA
open PySem.Moved renaming trans → auC
open PySem.KeyKind renaming is_eq_decide → auD
open PySem.Walks renaming list → auI
set_option Elab.async false
set_option linter.all false
set_option maxRecDepth 100000
set_option maxHeartbeats 4000000
section
namespace L2
open PySem PySem.Spec PyProof.Rows
abbrev Key:=Sum Int Str
def amM:Key->Value->Bool
 | .inl k,v=>Value.isInt k v
 | .inr x,v=>Value.isStrOf x v
def apB (w:World):Key->Int
 | .inl k=>hashInt k
 | .inr x=>hashStr w x
theorem yt:∀ {k:Key} {v:Value},amM k v=true->(∃ i t,k=Sum.inl i/\v=Value.int i t) \/ (∃ x t,k=Sum.inr x/\v=Value.str x t)
 | .inl i,v,h=>by
  obtain⟨t,e⟩:=Value.isInt_shape (k:=i) (v:=v) h
  exact .inl ⟨i,t,rfl,e⟩
 | .inr x,v,h=>by
  obtain⟨t,e⟩:=Value.isStrOf_shape (x:=x) (v:=v) h
  exact .inr ⟨x,t,rfl,e⟩
theorem ane (a b:Int):decide ((Sum.inl a:Key)=Sum.inl b)=(a == b):=by
 by_cases e:a=b
 ·subst e;simp
 ·have h:¬ (Sum.inl a:Key)=Sum.inl b:=fun q=>e (Sum.inl.inj q)
  rw [decide_eq_false h]
  exact (beq_eq_false_iff_ne.mpr e).symm
theorem anf (a b:Str):decide ((Sum.inr a:Key)=Sum.inr b)=decide (a=b):=by
 by_cases e:a=b
 ·subst e;simp
 ·have h:¬ (Sum.inr a:Key)=Sum.inr b:=fun q=>e (Sum.inr.inj q)
  rw [decide_eq_false h,decide_eq_false e]
theorem ang (a:Int) (b:Str):decide ((Sum.inl a:Key)=Sum.inr b)=false:=decide_eq_false (fun q=>nomatch q)
theorem anh (a:Str) (b:Int):decide ((Sum.inr a:Key)=Sum.inl b)=false:=decide_eq_false (fun q=>nomatch q)
def ac5 (prog:Program) (w:World):PySem.KeyKind prog w Key where
 is:=amM
 hash:=apB w
 inj:=fun v a b ha hb=>by
  rcases yt ha with⟨i,t,rfl,rfl⟩ | ⟨x,t,rfl,rfl⟩
  ·rcases yt hb with⟨j,u,rfl,e⟩ | ⟨y,u,rfl,e⟩
   ·injection e with e1 _;rw [e1]
   ·exact nomatch e
  ·rcases yt hb with⟨j,u,rfl,e⟩ | ⟨y,u,rfl,e⟩
   ·exact nomatch e
   ·injection e with e1 _;rw [e1]
 byValue:=fun k v h=>by
  rcases yt h with⟨i,t,rfl,rfl⟩ | ⟨x,t,rfl,rfl⟩ <;> rfl
 pyHash:=fun hv h=>by
  rcases yt hv with⟨i,t,rfl,rfl⟩ | ⟨x,t,rfl,rfl⟩
  ·exact wpAny_pyHash_int h
  ·exact wpAny_pyHash_str h
 eqBool:=fun hu hv h=>by
  rcases yt hu with⟨i,t,rfl,rfl⟩ | ⟨x,t,rfl,rfl⟩
  ·rcases yt hv with⟨j,u,rfl,rfl⟩ | ⟨y,u,rfl,rfl⟩
   ·rw [ane] at h;exact wpAny_eqBool_int h
   ·rw [ang] at h;exact SeqAt.EqAt.int_str i t y u _ _ _ _ h
  ·rcases yt hv with⟨j,u,rfl,rfl⟩ | ⟨y,u,rfl,rfl⟩
   ·rw [anh] at h;exact SeqAt.EqAt.str_int x t j u _ _ _ _ h
   ·rw [anf] at h;exact wpAny_eqBool_str h
 «strs»:=fun k x t v h=>by
  rcases yt h with⟨i,u,rfl,e⟩ | ⟨y,u,rfl,e⟩
  ·exact nomatch e
  ·injection e with e1 _
   subst e1
   cases v <;> rfl
inductive V where
 | non | bl (b:Bool) | int (i:Int) | str (x:Str) | byt (b:Array UInt8) | flt (b:UInt64) | ref (a:Addr) | ty (n:String)
 deriving DecidableEq
def RelV:V->Value->Prop
 | .non,u=>u=Value.none
 | .bl b,u=>u=Value.bool b
 | .int i,u=>∃ t,u=Value.int i t
 | .str x,u=>∃ t,u=Value.str x t
 | .byt b,u=>∃ t,u=Value.bytes b t
 | .flt b,u=>∃ t,u=Value.float b t
 | .ref a,u=>u=Value.ref a
 | .ty n,u=>u=Value.type n
abbrev Vals:List V->List Value->Prop:=Paired RelV
theorem Vals.length {xs:List V} {us:List Value} (r:Vals xs us):xs.length=us.length:=Paired.length r
theorem Vals.get:∀ {xs:List V} {us:List Value} {i:Nat} {x:V},Vals xs us->xs[i]?=some x->∃ u,us[i]?=some u/\RelV x u
 | _,_,_,_,.nil,e=>by simp at e
 | _,_,0,_,.cons r _,e=>by simp at e;subst e;exact⟨_,rfl,r⟩
 | _,_,i+1,x,.cons _ t,e=>by
  obtain⟨u,h1,h2⟩:=Vals.get (i:=i) (x:=x) t (by simpa using e)
  exact⟨u,by simpa using h1,h2⟩
theorem Vals.set {x:V} {u:Value} (r:RelV x u):∀ {xs:List V} {us:List Value} (i:Nat),Vals xs us->Vals (xs.set i x) (us.set i u)
 | _,_,_,.nil=>.nil
 | _,_,0,.cons _ t=>.cons r t
 | _,_,i+1,.cons q t=>.cons q (Vals.set r i t)
theorem Vals.append:∀ {xs ys:List V} {us ws:List Value},Vals xs us->Vals ys ws->Vals (xs++ys) (us++ws)
 | _,_,_,_,.nil,s=>s
 | _,_,_,_,.cons r t,s=>.cons r (Vals.append t s)
theorem Vals.take:∀ {xs:List V} {us:List Value} (n:Nat),Vals xs us->Vals (xs.take n) (us.take n)
 | _,_,0,_=>.nil
 | _,_,_+1,.nil=>.nil
 | _,_,n+1,.cons r t=>.cons r (Vals.take n t)
theorem Vals.drop:∀ {xs:List V} {us:List Value} (n:Nat),Vals xs us->Vals (xs.drop n) (us.drop n)
 | _,_,0,r=>r
 | _,_,_+1,.nil=>.nil
 | _,_,n+1,.cons _ t=>Vals.drop n t
def ani:Option V->Option Value->Prop
 | some v,some u=>RelV v u
 | none,none=>True
 | _,_=>False
def KV {κ:Type}:List (κ×V)->List (κ×Value)->Prop:=Paired fun (p:κ×V) (q:κ×Value)=>p.1=q.1/\RelV p.2 q.2
def kV:Key->V
 | .inl i=>.int i
 | .inr x=>.str x
inductive HO where
  | lst (xs:List V)
  | tup (xs:List V)
  | dK (kvs:List (Key×V)) | dT (kvs:List (List Key×V))
  | set (S:Int->Bool) (n:Nat)
  | ins (C dx:Addr) (fs:List (Str×V))
  | own (x:Addr)
  | xd (fs:List (Str×V))
  | met (f x:Addr)
  | rng (lo hi:Int)
  | frz (o:Obj) (u:HO)
  | tbl (ps:Array Value)
  | ext (φ:Heap->Prop)
abbrev Hp:=Addr->Option HO
def upd (H:Hp) (a:Addr) (o:HO):Hp:=fun b=>if b=a then some o else H b
theorem zB {H:Hp} {a:Addr} {o:HO}:upd H a o a=some o:=by unfold upd;rw [if_pos rfl]
theorem zA {H:Hp} {a b:Addr} {o:HO} (h:b≠a):upd H a o b=H b:=by unfold upd;rw [if_neg h]
theorem zI {H:Hp} {a b:Addr} {o:HO} (h:H a=some o) (h':H b=none):a≠b:=by
 intro e;subst e;rw [h] at h';cases h'
section
variable (P:Program) (w:World)
def ObjOk (H:Hp) (h:Heap) (a:Addr):HO->Prop
 | .lst xs=>xs.length<=sizeLine/\∃ (its:List Value) (n:Nat),Vals xs its/\h.get? a=some { cls:=.type "list",data:=.seq its.toArray n }
 | .tup xs=>xs.length<=sizeLine/\∃ its:List Value,Vals xs its/\IsTup h a its.toArray
 | .dK kvs=>kvs.length<=sizeLine/\(a == sysModules)=false/\∃ vs,KV kvs vs/\h.DictOf (ac5 P w) a vs
 | .dT kvs=>kvs.length<=sizeLine/\(a == sysModules)=false/\∃ xs:List (List Key×Addr×Value),
   Paired (fun (p:List Key×V) (q:List Key×Addr×Value)=>p.1=q.1/\H q.2.1=some (.tup (p.1.map kV))/\RelV p.2 q.2.2) kvs xs /\
   ∃ o es ep,h.get? a=some o/\o.ExactDict/\o.data=.dict es ep/\es.toList=xs.map (entryOfKey (tupleKind (ac5 P w)))/\(xs.map (·.1)).Nodup
 | .set S n=>h.SetOf (intKind P w) a S n
 | .ins C dx fs=>H dx=some (.own a)/\fs.length<=1000/\dx≠a/\h.get? a=some (auh C dx) /\
   ∃ mA,h.Ns1 dx mA/\(∀ f,ani (fs.lookup f) (mA f))/\PySem.Within mA (fs.map (·.1))
 | .own _=>∃ o,h.get? a=some o
 | .xd fs=>∃ mA,h.Ns1 a mA/\∀ f,ani (fs.lookup f) (mA f)
 | .rng lo hi=>∃ t u v,h.get? a=some { cls:=.type "range",data:=.fields #[.int lo t,.int hi u,.int 1 v] }
 | .frz o u=>h.get? a=some o/\ObjOk H h a u
 | .tbl ps=>h.get? a=some { cls:=.none,data:=.fields ps }
 | .met f x=>h.get? a=some (atN (.ref f) (.ref x))
 | .ext φ=>φ h/\(∃ o,h.get? a=some o)/\∀ h1 h2:Heap,φ h1->(∀ o,h1.get? a=some o->h2.get? a=some o)->φ h2
def HOk (H:Hp) (h:Heap):Prop:=∀ a o,H a=some o->ObjOk P w H h a o
end
section
variable {P:Program} {w:World} {H H':Hp} {h h':Heap} {a:Addr} {o:HO}
theorem ObjOk.lt (x:ObjOk P w H h a o):a<h.objs.size:=by
 cases o with
 | lst xs=>obtain⟨_,_,_,_,e⟩:=x;exact ap5 e
 | tup xs=>obtain⟨_,_,_,p⟩:=x;exact p.lt
 | dK kvs=>obtain⟨_,_,_,_,o,_,_,e,_⟩:=x;exact ap5 e
 | dT kvs=>obtain⟨_,_,_,_,o,_,_,e,_⟩:=x;exact ap5 e
 | set S n=>obtain⟨o,_,_,_,e,_⟩:=x;exact ap5 e
 | ins C dx fs=>obtain⟨_,_,_,e,_⟩:=x;exact ap5 e
 | own y=>obtain⟨_,e⟩:=x;exact ap5 e
 | xd fs=>obtain⟨_,⟨_,_,_,e,_⟩,_⟩:=x;exact ap5 e
 | rng lo hi=>obtain⟨_,_,_,e⟩:=x;exact ap5 e
 | frz ob u=>obtain⟨e,_⟩:=x;exact ap5 e
 | tbl ps=>exact ap5 (show h.get? a=some _ from x)
 | met f y=>exact ap5 (show h.get? a=some _ from x)
 | ext φ=>obtain⟨_,⟨_,e⟩,_⟩:=x;exact ap5 e
theorem Paired.mapP {α β:Type} {F G:α->β->Prop}:∀ {l₁:List α} {l₂:List β},Paired F l₁ l₂->(∀ a b,F a b->G a b)->Paired G l₁ l₂
 | _,_,.nil,_=>.nil
 | _,_,.cons r t,f=>.cons (f _ _ r) (Paired.mapP t f)
theorem ObjOk.stay (x:ObjOk P w H h a o) (k:∀ b u,(b=a \/ H b=some (.own a))->h.get? b=some u->h'.get? b=some u)
  (ho:∀ b,H b=some (.own a)->H' b=some (.own a)) (ht:∀ b xs,H b=some (.tup xs)->H' b=some (.tup xs)):ObjOk P w H' h' a o:=by
 induction o with
 | lst xs=>obtain⟨z,its,n,r,e⟩:=x;exact⟨z,its,n,r,k _ _ (.inl rfl) e⟩
 | tup xs=>obtain⟨z,its,r,ob,e,c⟩:=x;exact⟨z,its,r,ob,k _ _ (.inl rfl) e,c⟩
 | dK kvs=>obtain⟨z,y,vs,r,ob,es,ep,e,c⟩:=x;exact⟨z,y,vs,r,ob,es,ep,k _ _ (.inl rfl) e,c⟩
 | dT kvs =>
  obtain⟨z,y,xs,r,ob,es,ep,e,c⟩:=x
  exact⟨z,y,xs,Paired.mapP r fun p q z=>⟨z.1,ht _ _ z.2.1,z.2.2⟩,ob,es,ep,k _ _ (.inl rfl) e,c⟩
 | set S n=>obtain⟨ob,es,ep,t,e,c⟩:=x;exact⟨ob,es,ep,t,k _ _ (.inl rfl) e,c⟩
 | ins C dx fs =>
  obtain⟨d,z,ne,e,mA,⟨od,es,ep,e2,c⟩,r⟩:=x
  exact⟨ho _ d,z,ne,k _ _ (.inl rfl) e,mA,⟨od,es,ep,k _ _ (.inr d) e2,c⟩,r⟩
 | own y=>obtain⟨ob,e⟩:=x;exact⟨ob,k _ _ (.inl rfl) e⟩
 | xd fs=>obtain⟨mA,⟨od,es,ep,e,c⟩,r⟩:=x;exact⟨mA,⟨od,es,ep,k _ _ (.inl rfl) e,c⟩,r⟩
 | rng lo hi=>obtain⟨t,u,v,e⟩:=x;exact⟨t,u,v,k _ _ (.inl rfl) e⟩
 | frz ob u ih=>obtain⟨e,q⟩:=x;exact⟨k _ _ (.inl rfl) e,ih q⟩
 | tbl ps =>
  have e:h.get? a=some { cls:=.none,data:=.fields ps }:=x
  show h'.get? a=some { cls:=.none,data:=.fields ps }
  exact k a _ (.inl rfl) e
 | met f y =>
  have e:h.get? a=some (atN (.ref f) (.ref y)):=x
  show h'.get? a=some (atN (.ref f) (.ref y))
  exact k a _ (.inl rfl) e
 | ext φ=>obtain⟨p,⟨o,e⟩,st⟩:=x;exact⟨st _ _ p fun o q=>k _ _ (.inl rfl) q,⟨o,k _ _ (.inl rfl) e⟩,st⟩
theorem HOk.lt (x:HOk P w H h) (e:H a=some o):a<h.objs.size:=(x a o e).lt
theorem HOk.fresh (x:HOk P w H h) (e:h.objs.size<=a):H a=none:=by
 cases q:H a with
 | none=>rfl
 | some u=>exact absurd (aqq (x.lt q) e) (aru _)
theorem HOk.kept (x:HOk P w H h) (k:∀ b u,h.get? b=some u->h'.get? b=some u):HOk P w H h':=fun a o e =>
 (x a o e).stay (fun b u _ q=>k b u q) (fun _ q=>q) fun _ _ q=>q
theorem HOk.laid (x:HOk P w H h) (k:∀ b u,h.get? b=some u->h'.get? b=some u) (hp:h.objs.size<=a) (new:ObjOk P w (upd H a o) h' a o):HOk P w (upd H a o) h':=fun b u e=>by
 have hn:=x.fresh hp
 by_cases hb:b=a
 ·subst hb;rw [zB] at e;cases e;exact new
 ·rw [zA hb] at e
  exact (x b u e).stay (fun c v _ q=>k c v q) (fun c q=>by rw [zA (zI q hn)];exact q) fun c xs q=>by rw [zA (zI q hn)];exact q
end
def Rd (H:Hp) (a:Addr) (u:HO):Prop:=H a=some u \/ ∃ o,H a=some (.frz o u)
theorem Rd.ok {P:Program} {w:World} {H:Hp} {h:Heap} {a:Addr} {u:HO} (r:Rd H a u) (x:HOk P w H h):ObjOk P w H h a u:=by
 rcases r with r | ⟨o,r⟩
 ·exact x a u r
 ·obtain⟨_,q⟩:=x a _ r
  exact q
def Mut:Option HO->Prop
 | some (.lst _)=>True
 | some (.dK _)=>True
 | some (.dT _)=>True
 | some (.set _ _)=>True
 | some (.ins _ _ _)=>True
 | some (.ext _)=>True
 | _=>False
section
variable {P:Program} {w:World} {H:Hp} {h h':Heap} {x e:Addr} {o':HO}
theorem HOk.write (ok:HOk P w H h) (mu:Mut (H x)) (he:e=x \/ H e=some (.own x)) (k:∀ b u,b≠e->h.get? b=some u->h'.get? b=some u) (heo:∃ u,h'.get? e=some u)
  (new:ObjOk P w (upd H x o') h' x o'):HOk P w (upd H x o') h':=fun b u q=>by
 have nown:∀ c y,H c=some (.own y)->c≠x:=fun c y r z=>by subst z;rw [r] at mu;exact mu
 have ntup:∀ c xs,H c=some (.tup xs)->c≠x:=fun c xs r z=>by subst z;rw [r] at mu;exact mu
 by_cases hb:b=x
 ·subst hb;rw [zB] at q;cases q;exact new
 ·rw [zA hb] at q
  by_cases hbe:b=e
  ·have q':H b=some (.own x):=by
    rcases he with z | z
    ·exact absurd (hbe.trans z) hb
    ·rw [hbe];exact z
   rw [q] at q';cases q'
   obtain⟨v,hv⟩:=heo
   exact⟨v,by rw [hbe];exact hv⟩
  ·refine (ok b u q).stay (fun c v hc r=>k c v ?_ r) (fun c r=>by rw [zA (nown c b r)];exact r) fun c xs r=>by rw [zA (ntup c xs r)];exact r
   rcases hc with rfl | hc
   ·exact hbe
   ·rintro rfl
    rcases he with z | z
    ·exact nown c b hc z
    ·rw [hc] at z;cases z;exact hb rfl
end
structure Un (fs ex:List Addr) (H H':Hp) (h h':Heap):Prop where
 keep:∀ b o,h.get? b=some o->H b=none->b∉fs->b∉ex->h'.get? b=some o
 slot:∀ b o,h.get? b=some o->H b=none->b∈fs->b∉ex->∃ sl,h'.get? b=some { o with slots:=sl }
 free:∀ b o,h.get? b=some o->H b=none->b∉ex->H' b=none
 there:∀ b o,h.get? b=some o->b∉ex->∃ o',h'.get? b=some o'
 tups:∀ b xs,H b=some (.tup xs)->H' b=some (.tup xs)
 frzs:∀ b o u,H b=some (.frz o u)->H' b=some (.frz o u)
 tbls:∀ b ps,H b=some (.tbl ps)->∃ more,H' b=some (.tbl (ps++more))
section
variable {fs fs' ex ex':List Addr} {H H1 H2:Hp} {h h1 h2 h':Heap} {a x e:Addr} {o:HO}
theorem Un.any (u:Un fs ex H H1 h h1) {b:Addr} {ob:Obj} (q:h.get? b=some ob) (n:H b=none) (hx:b∉ex):∃ sl,h1.get? b=some { ob with slots:=sl }:=by
 by_cases hb:b∈fs
 ·exact u.slot b ob q n hb hx
 ·exact⟨ob.slots,u.keep b ob q n hb hx⟩
theorem Un.kept (k:∀ b u,h.get? b=some u->h'.get? b=some u):Un fs ex H H h h' :=
 ⟨fun b ob q _ _ _=>k b ob q,fun b ob q _ _ _=>⟨ob.slots,k b ob q⟩,fun _ _ _ n _=>n,fun b ob q _=>⟨ob,k b ob q⟩,fun _ _ q=>q,fun _ _ _ q=>q,fun _ ps q=>⟨#[],by rw [q];simp⟩⟩
theorem Un.refl:Un fs ex H H h h:=Un.kept fun _ _ q=>q
theorem Un.laid (k:∀ b u,h.get? b=some u->h'.get? b=some u) (hp:h.objs.size<=a) (hn:H a=none):Un fs ex H (upd H a o) h h' where
 keep:=fun b u q _ _ _=>k b u q
 slot:=fun b u q _ _ _=>⟨u.slots,k b u q⟩
 free:=fun b u q n _=>by rw [zA (aqp (aqq (ap5 q) hp))];exact n
 there:=fun b u q _=>⟨u,k b u q⟩
 tups:=fun b xs q=>by rw [zA (zI q hn)];exact q
 frzs:=fun b u xs q=>by rw [zA (zI q hn)];exact q
 tbls:=fun b ps q=>⟨#[],by rw [zA (zI q hn),q];simp⟩
theorem Un.write (mu:Mut (H x)) (he:e=x \/ H e=some (.own x)) (k:∀ b u,b≠e->h.get? b=some u->h'.get? b=some u) (heo:∃ u,h'.get? e=some u):Un fs ex H (upd H x o) h h':=by
 have hx:∀ b,H b=none->b≠x:=fun b n z=>by subst z;rw [n] at mu;exact mu
 have hb:∀ b,H b=none->b≠e:=fun b n z=>by
  subst z
  rcases he with r | r
  ·exact hx b n r
  ·rw [n] at r;cases r
 have hm:∀ b u,H b=some u->¬ Mut (some u)->b≠x:=fun b u q nm z=>by subst z;rw [q] at mu;exact nm mu
 refine⟨fun b u q n _ _=>k b u (hb b n) q,fun b u q n _ _=>⟨u.slots,k b u (hb b n) q⟩,fun b u q n _=>by rw [zA (hx b n)];exact n,fun b u q _=>?_,
  fun b xs q=>by rw [zA (hm b _ q fun z=>z)];exact q,fun b u xs q=>by rw [zA (hm b _ q fun z=>z)];exact q,fun b ps q=>⟨#[],by rw [zA (hm b _ q fun z=>z),q];simp⟩⟩
 by_cases hbe:b=e
 ·subst hbe;exact heo
 ·exact⟨u,k b u hbe q⟩
end
def trk (h:Heap) (H:Hp):List Addr:=(aqb h.objs.size).filter fun a=>(H a).isSome
def ac6 (h:Heap) (H:Hp):Heap:=PySem.W.hideAll h (trk h H)
theorem ahB (h:Heap) (H:Hp):(ac6 h H).objs.size=h.objs.size:=PySem.W.hideAll_size _ _
theorem aiN {h:Heap} {H:Hp} {b:Addr} {o:Obj} (e:h.get? b=some o) (n:H b=none):(ac6 h H).get? b=some o :=
 PySem.W.hideAll_get _ e fun hm=>by
  have q:(H b).isSome=true:=(arZ.mp hm).2
  rw [n] at q;simp at q
theorem ak9 {h:Heap} {H:Hp} {b:Addr} {o:Obj} (e:(ac6 h H).get? b=some o):h.get? b=some o/\H b=none:=by
 have e':h.get? b=some o:=PySem.W.of_hideAll (trk h H) e
 refine⟨e',?_⟩
 cases q:H b with
 | none=>rfl
 | some x =>
  have hm:b∈trk h H:=arZ.mpr ⟨aqk.mpr (ap5 e'),by simp [q]⟩
  have z:(ac6 h H).get? b=none:=PySem.W.hideAll_none (trk h H) hm
  rw [z] at e;cases e
def ala (g h:Heap) (L:Addr):List (Addr×Obj):=(aqb h.objs.size).filterMap fun a=>if a=L \/ (g.get? a).isSome=true then none else (h.get? a).map fun o=>(a,o)
def rest (g h:Heap) (L d:Addr):List (Addr×Obj):=(ala g h L).filter fun p=>decide (p.1≠d)
structure Mod (K:apT) (mg:Str->Option Value) (base:Heap):Prop where
 kin:K.In base
 glob:base.Ns mainGlobals mg
 blt:∃ mb,base.Ns builtinsNs mb/\∀ x:Str,x ≠ "__name__"->mb x=bootBuiltins x
 nolimit:base.NoLimit
structure Cx where
 prog:Program
 w:World
 K:apT
 mg:Str->Option Value
 base:Heap
 A:Around
 N:List Str
 s₀:Shared
 H₀:Hp
 env:Env
 outer:List Env
 stack:List Env
 ex:List Addr
 fn:Str->Bool
 calm:Bool
 pn:List (Addr×Obj)
 xe:Value->Shared->Prop
def frs (l:List Env):List Addr:=l.filterMap (·.frame)
abbrev Cx.fs (X:Cx):List Addr:=frs X.outer
def Vis (sc:Scope) (x:Str):Prop:=sc.names.lookup x=some .local \/ sc.names.lookup x=some .cell \/ sc.names.lookup x=some .free
def Loc (sc:Scope) (x:Str):Prop:=sc.names.lookup x=some .local \/ sc.names.lookup x=some .cell
def Look (env:Env) (h:Heap) (m:Str->Option Value) (x:Str) (u:Value):Prop :=
 (env.kindOf x=some .local/\m x=some u) \/ ((env.kindOf x=some .cell \/ env.kindOf x=some .free)/\∃ c,env.cells.lookup x=some c/\h.IsCell c (some u))
structure Cx.Ok (X:Cx):Prop where
 mod:Mod X.K X.mg X.base
 kind:X.env.scope.kind=.function
 glob:X.env.globals=mainGlobals
 blt:X.env.builtins=builtinsNs
 above:X.s₀.heap.objs.size<=X.env.locals
 inj:∀ x y c,X.env.cells.lookup x=some c->X.env.cells.lookup y=some c->x=y
 has:∀ x,(X.env.kindOf x=some .cell \/ X.env.kindOf x=some .free)->∃ c,X.env.cells.lookup x=some c
 cab:∀ x c,X.fn x=true->X.env.cells.lookup x=some c->X.s₀.heap.objs.size<=c
 hd:X.calm=true->X.A.handled=none
 frames:X.A.frames=some X.stack
 stk:X.stack=X.outer \/ (X.stack=X.env :: X.outer/\X.env.frame=some X.env.locals)
 exf:∀ b∈X.ex,b≠X.env.locals/\∀ x c,X.env.cells.lookup x=some c->c≠b
 bs:∀ b o,X.base.get? b=some o->X.s₀.heap.get? b=some o/\X.H₀ b=none
 bsz:X.base.objs.size<=X.s₀.heap.objs.size
 noex:∀ b o,X.base.get? b=some o->b∉X.ex
 exfs:∀ b∈X.ex,b∉X.fs
 funs:X.s₀.heap.FunFrames X.base X.outer
 frf:∀ b∈X.fs,X.H₀ b=none
structure Inv (X:Cx) (pins:List (Addr×Obj)) (σ:List (Option V)) (H:Hp) (s:Shared):Prop where
 ok:X.Ok
 os:s.os=X.s₀.os
 bare:AllBare s.gens
 base:Un X.fs X.ex X.H₀ H X.s₀.heap s.heap
 loc:∃ m,s.heap.Ns X.env.locals m/\∀ (i:Nat) (x:Str) (v:V),X.N[i]?=some x->σ[i]?=some (some v)->Vis X.env.scope x->∃ u,RelV v u/\Look X.env s.heap m x u
 cell:∀ x c,X.env.cells.lookup x=some c->∃ v,s.heap.IsCell c v
 free:H X.env.locals=none
 freeC:∀ x c,X.env.cells.lookup x=some c->H c=none
 pin:∀ p∈X.pn++pins,s.heap.get? p.1=some p.2/\H p.1=none/\p.1≠X.env.locals/\p.1∉X.fs/\∀ v,p.2.data≠.cell v
 hok:HOk X.prog X.w H s.heap
 len:σ.length=X.N.length
section
variable {X:Cx} {pins:List (Addr×Obj)} {σ:List (Option V)} {H H':Hp} {s:Shared} {h':Heap}
theorem Cx.Ok.nofr (ok:X.Ok) {b:Addr} {o:Obj} (e:X.base.get? b=some o):b∉X.fs:=fun hb=>by
 have:=(ok.funs.mem hb).1
 rw [e] at this;cases this
theorem Inv.bs (I:Inv X pins σ H s):∀ b o,X.base.get? b=some o->s.heap.get? b=some o/\H b=none:=fun b o e =>
 ⟨I.base.keep b o (I.ok.bs b o e).1 (I.ok.bs b o e).2 (I.ok.nofr e) (I.ok.noex b o e),I.base.free b o (I.ok.bs b o e).1 (I.ok.bs b o e).2 (I.ok.noex b o e)⟩
theorem Inv.bk (I:Inv X pins σ H s):∀ b o,X.base.get? b=some o->s.heap.get? b=some o:=fun b o e=>(I.bs b o e).1
theorem Inv.mod (I:Inv X pins σ H s):Mod X.K X.mg X.base:=I.ok.mod
theorem Inv.kIn (I:Inv X pins σ H s):X.K.In s.heap:=I.ok.mod.kin.keeps I.bk
theorem Inv.fr (I:Inv X pins σ H s):∃ m,Fr X.base X.env.locals s.heap m :=
 let⟨m,hn,_⟩:=I.loc
 ⟨m,hn,I.bk,aqn I.ok.bsz I.ok.above⟩
theorem Inv.lt (I:Inv X pins σ H s):X.env.locals<s.heap.objs.size:=let⟨_,hn,_⟩:=I.loc;hn.lt
theorem Inv.sz (I:Inv X pins σ H s):X.s₀.heap.objs.size<=s.heap.objs.size:=aqn I.ok.above (arv I.lt)
theorem Inv.nofs (I:Inv X pins σ H s) {a:Addr} (h:s.heap.objs.size<=a):a∉X.fs:=fun hb=>by
 obtain⟨_,o,ho,_⟩:=I.ok.funs.mem hb
 exact absurd (aqq (ap5 ho) (aqn I.sz h)) (aru _)
theorem Inv.cne (I:Inv X pins σ H s):∀ x c,X.env.cells.lookup x=some c->c≠X.env.locals:=fun x c e z=>by
 obtain⟨v,o,ho,hd⟩:=I.cell x c e
 obtain⟨m,⟨o',es,ep,ho',hd',_⟩,_⟩:=I.loc
 rw [z,ho'] at ho;cases ho;rw [hd'] at hd;cases hd
theorem Inv.funs (I:Inv X pins σ H s):s.heap.FunFrames X.base X.outer:=by
 have all:∀ (l:List Env),(∀ b∈frs l,b∈X.fs)->X.s₀.heap.FunFrames X.base l->s.heap.FunFrames X.base l:=by
  intro l
  induction l with
  | nil=>intro _ _;trivial
  | cons env r ih =>
   intro hs hl
   obtain⟨hk,⟨L,o,hf,hn,ho,hd⟩,hr⟩:=hl
   have hL:L∈X.fs:=hs L (by unfold frs;rw [asG,hf];exact apX)
   obtain⟨sl,e⟩:=I.base.slot L o ho (I.ok.frf L hL) hL fun z=>I.ok.exfs L z hL
   exact⟨hk,⟨L,_,hf,hn,e,hd⟩,ih (fun b hb=>hs b (by unfold frs;rw [asG,hf];exact apW _ hb)) hr⟩
 exact all X.outer (fun _ hb=>hb) I.ok.funs
theorem Inv.stack (I:Inv X pins σ H s):s.heap.FunFrames X.base X.stack:=by
 rcases I.ok.stk with e | ⟨e,hf⟩
 ·rw [e];exact I.funs
 ·rw [e]
  obtain⟨m,hn,_⟩:=I.loc
  refine .cons (by rw [I.ok.kind];decide) hf hn ?_ I.funs
  exact ate (aqn I.ok.bsz I.ok.above)
theorem Inv.stkSub (I:Inv X pins σ H s):∀ b∈frs X.stack,b∈X.env.locals :: X.fs:=fun b hb=>by
 rcases I.ok.stk with e | ⟨e,hf⟩
 ·rw [e] at hb;exact apW _ hb
 ·rw [e] at hb
  unfold frs at hb
  rw [asG,hf] at hb
  exact hb
theorem Inv.stkFree (I:Inv X pins σ H s):∀ b∈frs X.stack,H b=none:=fun b hb=>by
 rcases ap0.mp (I.stkSub b hb) with e | hb
 ·rw [e];exact I.free
 ·obtain⟨_,o,ho,_⟩:=I.ok.funs.mem hb
  exact I.base.free b o ho (I.ok.frf b hb) fun z=>I.ok.exfs b z hb
theorem Inv.step {g':Array GenState} {t':Nat} {d':Drawn} {ch:List Addr} (I:Inv X pins σ H s)
  (hch:∀ b∈ch,(b∈X.ex \/ X.s₀.heap.objs.size<=b)/\b≠X.env.locals/\(∀ x c,X.env.cells.lookup x=some c->c≠b)/\∀ p∈X.pn++pins,p.1≠b)
  (keep:∀ b o,b≠X.env.locals->b∉X.fs->b∉ch->s.heap.get? b=some o->H b=none->h'.get? b=some o)
  (slot:∀ b o,b≠X.env.locals->b∈X.fs->b∉ch->s.heap.get? b=some o->H b=none->∃ sl,h'.get? b=some { o with slots:=sl }) (free:∀ b o,b∉ch->s.heap.get? b=some o->H b=none->H' b=none)
  (there:∀ b o,b∉ch->s.heap.get? b=some o->∃ o',h'.get? b=some o')
  (tups:∀ b xs,H b=some (.tup xs)->H' b=some (.tup xs)) (frzs:∀ b o u,H b=some (.frz o u)->H' b=some (.frz o u)) (tbls:∀ b ps,H b=some (.tbl ps)->∃ more,H' b=some (.tbl (ps++more)))
  (ns:∀ m,s.heap.Ns X.env.locals m->h'.Ns X.env.locals m) (hok:HOk X.prog X.w H' h') (hg:AllBare g') :
  Inv X pins σ H' { s with heap:=h',gens:=g',drawn:=d',toks:=t' }:=by
 have neL:∀ b o,X.s₀.heap.get? b=some o->b≠X.env.locals:=fun b o e=>aqp (aqq (ap5 e) I.ok.above)
 have neC:∀ b o,X.s₀.heap.get? b=some o->b∉X.ex->b∉ch:=fun b o e hx hb=>by
  rcases (hch b hb).1 with z | z
  ·exact hx z
  ·exact absurd (aqq (ap5 e) z) (aru _)
 have cellK:∀ x c,X.env.cells.lookup x=some c->∀ v,s.heap.IsCell c v->h'.IsCell c v:=fun x c e v ⟨o,ho,hd⟩=>by
  have nch:c∉ch:=fun z=>(hch c z).2.2.1 x c e rfl
  by_cases hc:c∈X.fs
  ·obtain⟨sl,q⟩:=slot c o (I.cne x c e) hc nch ho (I.freeC x c e)
   exact⟨_,q,hd⟩
  ·exact⟨o,keep c o (I.cne x c e) hc nch ho (I.freeC x c e),hd⟩
 refine⟨I.ok,I.os,hg,⟨fun b o e n hb hx=>?_,fun b o e n hb hx=>?_,fun b o e n hx=>?_,fun b o e hx=>?_,fun b xs e=>tups b xs (I.base.tups b xs e),fun b o xs e=>frzs b o xs (I.base.frzs b o xs e),fun b ps e=>?_⟩,?_,fun x c e=>?_,?_,fun x c e=>?_,fun p hp=>?_,hok,I.len⟩
 ·exact keep b o (neL b o e) hb (neC b o e hx) (I.base.keep b o e n hb hx) (I.base.free b o e n hx)
 ·obtain⟨sl,e1⟩:=I.base.slot b o e n hb hx
  obtain⟨sl',e2⟩:=slot b _ (neL b o e) hb (neC b o e hx) e1 (I.base.free b o e n hx)
  exact⟨sl',e2⟩
 ·obtain⟨o',e1⟩:=I.base.there b o e hx
  exact free b o' (neC b o e hx) e1 (I.base.free b o e n hx)
 ·obtain⟨o',e1⟩:=I.base.there b o e hx
  exact there b o' (neC b o e hx) e1
 ·obtain⟨m1,e1⟩:=I.base.tbls b ps e
  obtain⟨m2,e2⟩:=tbls b _ e1
  exact⟨m1++m2,by rw [e2,Array.append_assoc]⟩
 ·obtain⟨m,hn,hl⟩:=I.loc
  refine⟨m,ns m hn,fun i x v e1 e2 e3=>?_⟩
  obtain⟨u,r,l⟩:=hl i x v e1 e2 e3
  refine⟨u,r,?_⟩
  rcases l with l | ⟨k,c,e,z⟩
  ·exact .inl l
  ·exact .inr ⟨k,c,e,cellK x c e _ z⟩
 ·obtain⟨v,z⟩:=I.cell x c e
  exact⟨v,cellK x c e v z⟩
 ·obtain⟨m,⟨o,_,_,ho,_⟩,_⟩:=I.loc
  exact free _ o (fun z=>(hch _ z).2.1 rfl) ho I.free
 ·obtain⟨v,o,ho,hd⟩:=I.cell x c e
  exact free c o (fun z=>(hch c z).2.2.1 x c e rfl) ho (I.freeC x c e)
 ·obtain⟨e,n,ne,nf,d⟩:=I.pin p hp
  have nch:p.1∉ch:=fun z=>(hch p.1 z).2.2.2 p hp rfl
  exact⟨keep p.1 p.2 ne nf nch e n,free p.1 p.2 nch e n,ne,nf,d⟩
theorem Inv.un {t':Nat} (I:Inv X pins σ H s) (u:Un X.fs [] H H' s.heap h') (hok:HOk X.prog X.w H' h'):Inv X pins σ H' { s with heap:=h',toks:=t' }:=by
 obtain⟨m,⟨o,es,ep,ho,r⟩,_⟩:=id I.loc
 obtain⟨sl,hL⟩:=u.any ho I.free (by simp)
 exact I.step (g':=s.gens) (d':=s.drawn) (ch:=[]) (fun _ z=>nomatch z) (fun b o _ hb _ e n=>u.keep b o e n hb (by simp)) (fun b o _ hb _ e n=>u.slot b o e n hb (by simp)) (fun b o _ e n=>u.free b o e n (by simp)) (fun b o _ e=>u.there b o e (by simp)) u.tups u.frzs u.tbls (fun m' hm=>by
  obtain⟨o',es',ep',ho',r'⟩:=hm
  rw [ho] at ho';cases ho'
  exact⟨_,es',ep',hL,r'⟩) hok I.bare
theorem Inv.call {g':Array GenState} {t':Nat} {d':Drawn} {ch:List Addr} (I:Inv X pins σ H s) (u:Un (frs X.stack) ch H H' s.heap h') (hok:HOk X.prog X.w H' h') (hg:AllBare g')
  (hch:∀ b∈ch,(b∈X.ex \/ X.s₀.heap.objs.size<=b)/\b≠X.env.locals/\(∀ x c,X.env.cells.lookup x=some c->c≠b)/\∀ p∈X.pn++pins,p.1≠b) :
  Inv X pins σ H' { s with heap:=h',gens:=g',drawn:=d',toks:=t' }:=by
 obtain⟨m,⟨o,es,ep,ho,r⟩,_⟩:=id I.loc
 obtain⟨sl,hL⟩:=u.any ho I.free fun z=>(hch _ z).2.1 rfl
 exact I.step (ch:=ch) hch (fun b o hL hb hc e n=>u.keep b o e n (fun z=>(ap0.mp (I.stkSub b z)).elim hL hb) hc) (fun b o _ _ hc e n=>u.any e n hc) (fun b o hc e n=>u.free b o e n hc) (fun b o hc e=>u.there b o e hc) u.tups u.frzs u.tbls (fun m' hm=>by
  obtain⟨o',es',ep',ho',r'⟩:=hm
  rw [ho] at ho';cases ho'
  exact⟨_,es',ep',hL,r'⟩) hok hg
theorem Inv.turned {t':Nat} {it:Addr} (I:Inv X pins σ H s) (k:∀ b o,b≠it->s.heap.get? b=some o->h'.get? b=some o) (hn:H it=none) (hL:it≠X.env.locals)
  (h1:it∈X.ex \/ X.s₀.heap.objs.size<=it) (h2:∀ x c,X.env.cells.lookup x=some c->c≠it) (h3:∀ p∈X.pn++pins,p.1≠it):Inv X pins σ H { s with heap:=h',toks:=t' }:=by
 have nit:∀ b u,H b=some u->b≠it:=fun b u e z=>by rw [z,hn] at e;cases e
 refine I.step (g':=s.gens) (d':=s.drawn) (ch:=[it]) (fun b hb=>?_) (fun b o _ _ hc e _=>k b o (fun z=>hc (by simp [z])) e) (fun b o _ _ hc e _=>⟨o.slots,k b o (fun z=>hc (by simp [z])) e⟩) (fun _ _ _ _ n=>n)
  (fun b o hc e=>⟨o,k b o (fun z=>hc (by simp [z])) e⟩) (fun _ _ e=>e) (fun _ _ _ e=>e) (fun b ps e=>⟨#[],by rw [e];simp⟩) (fun m hm=>?_) (fun b u e=>?_) I.bare
 ·have e:b=it:=by simpa using hb
  subst e
  exact⟨h1,hL,h2,h3⟩
 ·obtain⟨o,es,ep,ho,r⟩:=hm
  exact⟨o,es,ep,k _ o (arw hL) ho,r⟩
 ·refine (I.hok b u e).stay (fun c v hc q=>k c v ?_ q) (fun _ q=>q) fun _ _ q=>q
  rcases hc with z | z
  ·rw [z];exact nit b u e
  ·exact nit c _ z
theorem Inv.tok (I:Inv X pins σ H s) (t:Nat):Inv X pins σ H { s with toks:=t }:=I.un (h':=s.heap) (t':=t) Un.refl I.hok
theorem Inv.kept {t':Nat} (I:Inv X pins σ H s) (k:∀ b u,s.heap.get? b=some u->h'.get? b=some u):Inv X pins σ H { s with heap:=h',toks:=t' }:=I.un (Un.kept k) (I.hok.kept k)
theorem Inv.laid {a:Addr} {o:HO} {t':Nat} (I:Inv X pins σ H s) (k:∀ b u,s.heap.get? b=some u->h'.get? b=some u) (hp:s.heap.objs.size<=a) (new:ObjOk X.prog X.w (upd H a o) h' a o) :
  Inv X pins σ (upd H a o) { s with heap:=h',toks:=t' }:=I.un (Un.laid k hp (I.hok.fresh hp)) (I.hok.laid k hp new)
theorem Inv.write {x e:Addr} {o:HO} {t':Nat} (I:Inv X pins σ H s) (mu:Mut (H x)) (he:e=x \/ H e=some (.own x)) (k:∀ b u,b≠e->s.heap.get? b=some u->h'.get? b=some u) (heo:∃ u,h'.get? e=some u)
  (new:ObjOk X.prog X.w (upd H x o) h' x o):Inv X pins σ (upd H x o) { s with heap:=h',toks:=t' }:=I.un (Un.write mu he k heo) (I.hok.write mu he k heo new)
theorem Inv.pins_of {pins':List (Addr×Obj)} (I:Inv X pins σ H s) (h:∀ p∈pins',s.heap.get? p.1=some p.2/\H p.1=none/\p.1≠X.env.locals/\p.1∉X.fs/\∀ v,p.2.data≠.cell v):Inv X pins' σ H s :=
 ⟨I.ok,I.os,I.bare,I.base,I.loc,I.cell,I.free,I.freeC,fun p hp=>(aqh.mp hp).elim (fun z=>I.pin p (arq _ z)) (h p),I.hok,I.len⟩
theorem aea {N:List Str} (hN:N.Nodup) {i j:Nat} {x:Str} (a:N[i]?=some x) (b:N[j]?=some x):i=j:=by
 obtain⟨h1,e1⟩:=apS.mp a
 obtain⟨h2,e2⟩:=apS.mp b
 exact (asB hN).mp (e1.trans e2.symm)
theorem acs {M:Model} {A:Around} {E:Value->Shared->Prop} {i:Nat} {x:Str} {v:V} {u:Value} {Q:Unit->Shared->Prop} (I:Inv X pins σ H s) (hN:X.N.Nodup) (hi:X.N[i]?=some x) (hx:Loc X.env.scope x) (r:RelV v u)
  (h:∀ s',Inv X pins (σ.set i (some v)) H s'->(∃ a,arI a s.heap s'.heap/\(a=X.env.locals \/ X.env.cells.lookup x=some a))->Q () s') (hf:X.fn x=true \/ X.env.scope.names.lookup x=some .local:=by first | exact .inl rfl | exact .inr rfl | assumption):wpAny M A (storeName X.env x u) Q E s:=by
 obtain⟨m,hn,hl⟩:=id I.loc
 have hcls:(X.env.scope.kind == .class || (X.env.scope.kind == .module && X.env.locals != X.env.globals))=false:=by rw [I.ok.kind];rfl
 have hiσ:i<σ.length:=by rw [I.len];exact (apS.mp hi).1
 have cne:=I.cne
 have tracked:∀ {a:Addr} {h':Heap},(∃ o,s.heap.get? a=some o/\H a=none)->arI a s.heap h'->HOk X.prog X.w H h':=fun {a h'} ha hs b ob e=>by
  obtain⟨_,_,hfree⟩:=ha
  refine (I.hok b ob e).stay (fun c w' hc q=>(hs.2 c ?_).trans q) (fun _ q=>q) fun _ _ q=>q
  rintro rfl
  rcases hc with rfl | hc
  ·rw [hfree] at e;cases e
  ·rw [hfree] at hc;cases hc
 rcases hx with hk | hk
 ·refine wpAny_storeName_local hk hn (fun h' hn' hs=>?_) hcls
  obtain⟨oL,_,_,hoL,_⟩:=id hn
  refine h _ ⟨I.ok,I.os,I.bare,⟨fun b o e n hb hx=>?_,fun b o e n hb hx=>?_,I.base.free,fun b o e hx=>?_,I.base.tups,I.base.frzs,I.base.tbls⟩,⟨_,hn',fun j y v' e1 e2 e3=>?_⟩,fun y c e=>?_,I.free,I.freeC,fun p hp=>?_,tracked ⟨oL,hoL,I.free⟩ hs,by simpa using I.len⟩ ⟨_,hs,.inl rfl⟩
  ·exact (hs.2 b (aqp (aqq (ap5 e) I.ok.above))).trans (I.base.keep b o e n hb hx)
  ·obtain⟨sl,e1⟩:=I.base.slot b o e n hb hx
   exact⟨sl,(hs.2 b (aqp (aqq (ap5 e) I.ok.above))).trans e1⟩
  ·obtain⟨o',e1⟩:=I.base.there b o e hx
   exact⟨o',(hs.2 b (aqp (aqq (ap5 e) I.ok.above))).trans e1⟩
  ·by_cases hj:j=i
   ·subst hj
    rw [hi] at e1;cases e1
    rw [arx hiσ] at e2
    cases e2
    exact⟨u,r,.inl ⟨hk,by simp⟩⟩
   ·rw [aqH (arw hj)] at e2
    obtain⟨u',r',q⟩:=hl j y v' e1 e2 e3
    refine⟨u',r',?_⟩
    rcases q with⟨k,e⟩ | ⟨k,c,e,z⟩
    ·refine .inl ⟨k,?_⟩
     have:y≠x:=fun e=>hj (aea hN e1 (e▸hi))
     simp [this,e]
    ·exact .inr ⟨k,c,e,z.sameBut hs (cne y c e)⟩
  ·obtain⟨w',z⟩:=I.cell y c e
   exact⟨w',z.sameBut hs (cne y c e)⟩
  ·obtain⟨e,n,ne,nf,d⟩:=I.pin p hp
   exact⟨(hs.2 p.1 ne).trans e,n,ne,nf,d⟩
 ·have hfn:X.fn x=true:=by
   rcases hf with z | z
   ·exact z
   ·rw [z] at hk;cases hk
  obtain⟨c,hc⟩:=I.ok.has x (.inl hk)
  obtain⟨w',z⟩:=I.cell x c hc
  refine wpAny_storeName_cell I.ok.kind hk hc z (fun h' hc' hs=>?_)
  obtain⟨oc,hoc,hocd⟩:=id z
  refine h { s with heap:=h' } ⟨I.ok,I.os,I.bare,⟨fun b o e n hb hx=>?_,fun b o e n hb hx=>?_,I.base.free,fun b o e hx=>?_,I.base.tups,I.base.frzs,I.base.tbls⟩,⟨m,hn.sameBut hs (arw (cne x c hc)),fun j y v' e1 e2 e3=>?_⟩,fun y c' e=>?_,I.free,I.freeC,fun p hp=>?_,tracked ⟨oc,hoc,I.freeC x c hc⟩ hs,by simpa using I.len⟩ ⟨c,hs,.inr hc⟩
  ·exact (hs.2 b (aqp (aqq (ap5 e) (I.ok.cab x c hfn hc)))).trans (I.base.keep b o e n hb hx)
  ·obtain⟨sl,e1⟩:=I.base.slot b o e n hb hx
   exact⟨sl,(hs.2 b (aqp (aqq (ap5 e) (I.ok.cab x c hfn hc)))).trans e1⟩
  ·obtain⟨o',e1⟩:=I.base.there b o e hx
   exact⟨o',(hs.2 b (aqp (aqq (ap5 e) (I.ok.cab x c hfn hc)))).trans e1⟩
  ·by_cases hj:j=i
   ·subst hj
    rw [hi] at e1;cases e1
    rw [arx hiσ] at e2
    cases e2
    exact⟨u,r,.inr ⟨.inl hk,c,hc,hc'⟩⟩
   ·rw [aqH (arw hj)] at e2
    obtain⟨u',r',q⟩:=hl j y v' e1 e2 e3
    refine⟨u',r',?_⟩
    rcases q with q | ⟨k,c',e,z'⟩
    ·exact .inl q
    ·refine .inr ⟨k,c',e,z'.sameBut hs ?_⟩
     rintro rfl
     exact hj (aea hN e1 (I.ok.inj _ _ _ e hc▸hi))
  ·by_cases hcc:c'=c
   ·subst hcc;exact⟨_,hc'⟩
   ·obtain⟨w2,z2⟩:=I.cell y c' e
    exact⟨w2,z2.sameBut hs hcc⟩
  ·obtain⟨e,n,ne,nf,d⟩:=I.pin p hp
   refine⟨(hs.2 p.1 ?_).trans e,n,ne,nf,d⟩
   intro q
   rw [q,hoc] at e
   have q':oc=p.2:=Option.some.inj e
   exact d w' (by rw [<-q'];exact hocd)
theorem aeb {M:Model} {A:Around} {E:Value->Shared->Prop} {i:Nat} {x:Str} {v:V} {u:Value} {Q:Unit->Shared->Prop} (I:Inv X pins σ H s) (hN:X.N.Nodup) (hi:X.N[i]?=some x) (hx:Loc X.env.scope x) (r:RelV v u)
  (h:∀ s',Inv X pins (σ.set i (some v)) H s'->Q () s') (hf:X.fn x=true \/ X.env.scope.names.lookup x=some .local:=by first | exact .inl rfl | exact .inr rfl | assumption):wpAny M A (storeName X.env x u) Q E s :=
 acs I hN hi hx r (fun s' I' _=>h s' I') hf
theorem Inv.call' {s':Shared} {ch:List Addr} (I:Inv X pins σ H s) (ho:s'.os=s.os) (u:Un (frs X.stack) ch H H' s.heap s'.heap) (hok:HOk X.prog X.w H' s'.heap) (hg:AllBare s'.gens)
  (hch:∀ b∈ch,(b∈X.ex \/ X.s₀.heap.objs.size<=b)/\b≠X.env.locals/\(∀ x c,X.env.cells.lookup x=some c->c≠b)/\∀ p∈X.pn++pins,p.1≠b):Inv X pins σ H' s':=by
 obtain⟨h',g',d',t',o'⟩:=s'
 have e:o'=s.os:=ho
 subst e
 exact I.call (g':=g') (t':=t') (d':=d') u hok hg hch
end
abbrev XK:=Value->Option Addr->Hp->Prop
abbrev St:=List (Option V)
abbrev VK:=V->Hp->Prop
abbrev TE:=St->Hp->VK->Prop
abbrev TT:=St->Hp->(Bool->Hp->Prop)->Prop
abbrev TA:=St->Hp->(List V->Hp->Prop)->Prop
structure Ends where
 nx:St->Hp->Prop
 rt:VK
 bk:St->Hp->Prop:=fun _ _=>False
 ct:St->Hp->Prop:=fun _ _=>False
abbrev TS:=Ends->St->Hp->Prop
def EP (X:Cx) (pins:List (Addr×Obj)) (σ:St) (Q:VK) (u:Value) (s':Shared):Prop:=∃ v H',Inv X pins σ H' s'/\RelV v u/\Q v H'
def TP (X:Cx) (pins:List (Addr×Obj)) (σ:St) (Q:Bool->Hp->Prop) (b:Bool) (s':Shared):Prop:=∃ H',Inv X pins σ H' s'/\Q b H'
def AP (X:Cx) (pins:List (Addr×Obj)) (σ:St) (Q:List V->Hp->Prop) (us:List Value) (s':Shared):Prop:=∃ vs H',Inv X pins σ H' s'/\Vals vs us/\Q vs H'
def SP (X:Cx) (pins:List (Addr×Obj)) (D:Ends) (f:Flow) (s':Shared):Prop :=
 match f with
 | .next=>∃ σ' H',Inv X pins σ' H' s'/\D.nx σ' H'
 | .brk=>∃ σ' H',Inv X pins σ' H' s'/\D.bk σ' H'
 | .cont=>∃ σ' H',Inv X pins σ' H' s'/\D.ct σ' H'
 | .ret u=>∃ v σ' H',Inv X pins σ' H' s'/\RelV v u/\D.rt v H'
def PE (X:Cx) (e:Expr) (t:TE):Prop :=
 ∀ (pins:List (Addr×Obj)) (s:Shared) (σ:St) (H:Hp) (Q:VK),Inv X pins σ H s->t σ H Q->wpAny (model X.prog X.w) X.A (eval e X.env) (EP X pins σ Q) X.xe s
def PT (X:Cx) (e:Expr) (t:TT):Prop :=
 ∀ (pins:List (Addr×Obj)) (s:Shared) (σ:St) (H:Hp) (Q:Bool->Hp->Prop),Inv X pins σ H s->t σ H Q->wpAny (model X.prog X.w) X.A (isTrue e X.env (eval e X.env)) (TP X pins σ Q) X.xe s
def PW (X:Cx) (e:Expr) (t:TT):Prop :=
 ∀ (whole:Sem Value) (pins:List (Addr×Obj)) (s:Shared) (σ:St) (H:Hp) (Q:Bool->Hp->Prop),Inv X pins σ H s->t σ H Q->wpAny (model X.prog X.w) X.A (isTrue e X.env whole) (TP X pins σ Q) X.xe s
theorem PW.pt {X:Cx} {e:Expr} {t:TT} (h:PW X e t):PT X e t:=h _
def PA (X:Cx) (es:List Expr) (t:TA):Prop :=
 ∀ (pos:Pos) (pins:List (Addr×Obj)) (s:Shared) (σ:St) (H:Hp) (Q:List V->Hp->Prop),Inv X pins σ H s->t σ H Q->wpAny (model X.prog X.w) X.A (spliced (backTo pos (starEach es X.env))) (AP X pins σ Q) X.xe s
def PS (X:Cx) (st:Stmt) (t:TS):Prop :=
 ∀ (pins:List (Addr×Obj)) (s:Shared) (σ:St) (H:Hp) (D:Ends),Inv X pins σ H s->t D σ H->wpAny (model X.prog X.w) X.A (exec st X.env) (SP X pins D) X.xe s
def PSs (X:Cx) (st:List Stmt) (t:TS):Prop :=
 ∀ (pins:List (Addr×Obj)) (s:Shared) (σ:St) (H:Hp) (D:Ends),Inv X pins σ H s->t D σ H->wpAny (model X.prog X.w) X.A (execs st X.env) (SP X pins D) X.xe s
theorem thn {α:Type} {t:Sem α} {Q Q':α->Shared->Prop} {M:Model} {A:Around} {E:Value->Shared->Prop} {s:Shared} (h:wpAny M A t Q E s) (hQ:∀ a s,Q a s->Q' a s):wpAny M A t Q' E s:=wpAny_mono h hQ fun _ _ x=>x
section
variable {X:Cx}
def yr (i:Nat):TE:=fun σ H Q=>∃ v,σ[i]?=some (some v)/\Q v H
def tC (v:V):TE:=fun _ H Q=>Q v H
theorem anj {i:Nat} {x:Str} {pos:Pos} (hN:X.N[i]?=some x) (hv:Vis X.env.scope x) (hd:(x == ("__debug__":Str))=false:=by decide) (hcd:(x == ("__classdict__":Str))=false:=by decide):PE X (.Name x pos) (yr i):=by
 intro pins s σ H Q I h
 obtain⟨v,e,h⟩:=h
 obtain⟨m,hn,hl⟩:=I.loc
 obtain⟨u,r,l⟩:=hl i x v hN e hv
 have fin:EP X pins σ Q u s:=⟨v,H,I,r,h⟩
 rcases l with⟨hk,hm⟩ | ⟨hk,c,hc,hcell⟩
 ·exact wpAny_Name (wpAny_loadName_local I.ok.kind hk hn hm fin) hd
 ·rcases hk with hk | hk
  ·exact wpAny_Name (wpAny_loadName_cell I.ok.kind hk hc hcell fin) hd
  ·exact wpAny_Name (wpAny_loadName_free I.ok.kind hk hc hcell fin hcd) hd
theorem zo {i j pos}:PE X (.Constant (.int i) j pos) (tC (.int i)):=fun _ _ _ H _ I h=>wpAny_Constant_int ⟨.int i,H,I.tok _,⟨_,rfl⟩,h⟩
theorem jN {b j pos}:PE X (.Constant (.bool b) j pos) (tC (.bl b)):=fun _ _ _ H _ I h=>Constant_bool ⟨.bl b,H,I,rfl,h⟩
theorem aai {j pos}:PE X (.Constant .none j pos) (tC .non):=fun _ _ _ H _ I h=>Constant_none ⟨.non,H,I,rfl,h⟩
theorem qS {x j pos}:PE X (.Constant (.str x) j pos) (tC (.str x)):=fun _ _ _ H _ I h=>Calls.Constant_str ⟨.str x,H,I.tok _,⟨_,rfl⟩,h⟩
def Gl (X:Cx) (x:Str):Prop:=X.env.kindOf x=some .globalImplicit
theorem ac7 {E:Value->Shared->Prop} {pins:List (Addr×Obj)} {s:Shared} {σ:St} {H:Hp} {x:Str} {u:Value} {pos:Pos} {Q:Value->Shared->Prop} (I:Inv X pins σ H s) (hg:Gl X x) (hm:X.mg x=some u) (h:Q u s)
  (hd:(x == ("__debug__":Str))=false:=by decide):wpAny (model X.prog X.w) X.A (eval (.Name x pos) X.env) Q E s :=
 atv I.ok.kind hg (Calls.loadGlobal_global (by rw [I.ok.glob];exact I.mod.glob.keeps I.bk) hm h) hd
theorem qT {E:Value->Shared->Prop} {pins:List (Addr×Obj)} {s:Shared} {σ:St} {H:Hp} {x:Str} {u:Value} {pos:Pos} {Q:Value->Shared->Prop} (I:Inv X pins σ H s) (hg:Gl X x) (hm:X.mg x=none) (hv:bootBuiltins x=some u) (h:Q u s)
  (hn:x ≠ "__name__":=by decide) (hd:(x == ("__debug__":Str))=false:=by decide):wpAny (model X.prog X.w) X.A (eval (.Name x pos) X.env) Q E s:=by
 obtain⟨mb,h1,h2⟩:=I.mod.blt
 exact atv I.ok.kind hg (Calls.loadGlobal_builtin (by rw [I.ok.glob];exact I.mod.glob.keeps I.bk) hm (by rw [I.ok.blt];exact h1.keeps I.bk) ((h2 x hn).trans hv) h) hd
theorem alb {x:Str} {v:V} {u:Value} {pos:Pos} (hg:Gl X x) (hm:X.mg x=some u) (r:RelV v u) (hd:(x == ("__debug__":Str))=false:=by decide):PE X (.Name x pos) (tC v) :=
 fun _ _ _ H _ I h=>ac7 I hg hm ⟨v,H,I,r,h⟩ hd
theorem ac8 {x:Str} {v:V} {u:Value} {pos:Pos} (hg:Gl X x) (hm:X.mg x=none) (hv:bootBuiltins x=some u) (r:RelV v u) (hn:x ≠ "__name__":=by decide) (hd:(x == ("__debug__":Str))=false:=by decide):PE X (.Name x pos) (tC v) :=
 fun _ _ _ H _ I h=>qT I hg hm hv ⟨v,H,I,r,h⟩ hn hd
variable {a b:Expr} {ta tb:TE} {pos:Pos}
def tB (t:TE):TT:=fun σ H Q=>t σ H fun x H1=>∃ c,x=.bl c/\Q c H1
variable {tA tB':TT} {rest:List Expr}
def aoT (t u:TT):TT:=fun σ H Q=>t σ H fun c H1=>if c=true then u σ H1 Q else Q false H1
def tOr (t u:TT):TT:=fun σ H Q=>t σ H fun c H1=>if c=true then Q true H1 else u σ H1 Q
def aoU (t:TT):TT:=fun σ H Q=>t σ H fun c H1=>Q (!c) H1
theorem alc (ha:PT X a tA):PW X (.BoolOp .And [a] pos) tA:=by
 intro wh pins s σ H Q I h
 refine isTrue_and (thn (ha pins s σ H Q I h) fun c s1 e=>?_)
 cases c with
 | true=>exact isTrue_and_nil e
 | false=>exact e
theorem qU (ha:PT X a tA):PW X (.BoolOp .Or [a] pos) tA:=by
 intro wh pins s σ H Q I h
 refine isTrue_or (thn (ha pins s σ H Q I h) fun c s1 e=>?_)
 cases c with
 | false=>exact isTrue_or_nil e
 | true=>exact e
theorem ank (ha:PT X a tA) (hb:PW X (.BoolOp .And (b :: rest) pos) tB'):PW X (.BoolOp .And (a :: b :: rest) pos) (aoT tA tB'):=by
 intro wh pins s σ H Q I h
 refine isTrue_and (thn (ha pins s σ H _ I h) fun c s1 ⟨H1,I1,q1⟩=>?_)
 cases c with
 | true=>exact hb wh pins s1 σ H1 Q I1 q1
 | false=>exact⟨H1,I1,q1⟩
theorem vH (ha:PT X a tA) (hb:PW X (.BoolOp .Or (b :: rest) pos) tB'):PW X (.BoolOp .Or (a :: b :: rest) pos) (tOr tA tB'):=by
 intro wh pins s σ H Q I h
 refine isTrue_or (thn (ha pins s σ H _ I h) fun c s1 ⟨H1,I1,q1⟩=>?_)
 cases c with
 | true=>exact⟨H1,I1,q1⟩
 | false=>exact hb wh pins s1 σ H1 Q I1 q1
theorem y3 (ha:PT X a tA):PT X (.UnaryOp .Not a pos) (aoU tA):=by
 intro pins s σ H Q I h
 exact isTrue_not (ha pins s σ H (fun c H1=>Q (!c) H1) I h)
def amN (ta tb:TE):TE:=fun σ H Q=>ta σ H fun x H1=>∃ c,x=.bl c/\if c=true then tb σ H1 Q else Q (.bl false) H1
def amO (ta:TE):TE:=fun σ H Q=>ta σ H fun x H1=>∃ c,x=.bl c/\Q (.bl (!c)) H1
theorem vN {op} {t:TE} (h:PE X a t):PE X (.BoolOp op [a] pos) t:=fun pins s σ H Q I hw=>BoolOp_one (h pins s σ H Q I hw)
theorem qV (ha:PE X a ta) (hb:PE X (.BoolOp .And (b :: rest) pos) tb):PE X (.BoolOp .And (a :: b :: rest) pos) (amN ta tb):=by
 intro pins s σ H Q I h
 refine BoolOp_and (thn (ha pins s σ H _ I h) fun v s1 ⟨x,H1,I1,r1,q1⟩=>?_)
 obtain⟨c,rfl,q1⟩:=q1
 cases r1
 refine wpAny_truthy_bool ?_
 cases c with
 | true=>exact hb pins s1 σ H1 Q I1 q1
 | false=>exact⟨.bl false,H1,I1,rfl,q1⟩
theorem anl (ha:PE X a ta):PE X (.UnaryOp .Not a pos) (amO ta):=by
 intro pins s σ H Q I h
 refine UnaryOp_ (thn (ha pins s σ H _ I h) fun v s1 ⟨x,H1,I1,r1,q1⟩=>?_)
 obtain⟨c,rfl,q1⟩:=q1
 cases r1
 exact not_of (wpAny_truthy_bool ⟨.bl (!c),H1,I1,rfl,q1⟩)
def tIf (t:TT) (ta tb:TE):TE:=fun σ H Q=>t σ H fun c H1=>if c=true then ta σ H1 Q else tb σ H1 Q
theorem qW {c:Expr} (hc:PT X c tA) (ha:PE X a ta) (hb:PE X b tb):PE X (.IfExp c a b pos) (tIf tA ta tb):=by
 intro pins s σ H Q I h
 refine wpAny_IfExp (thn (hc pins s σ H _ I h) fun d s1 ⟨H1,I1,q1⟩=>?_)
 cases d with
 | true=>exact ha pins s1 σ H1 Q I1 q1
 | false=>exact hb pins s1 σ H1 Q I1 q1
end
def SqL (K:apT) (H:Hp) (a:Addr) (xs:List V):Prop :=
 Rd H a (.lst xs) \/
  ∃ (o:Obj) (its:Array Value) (n:Nat),K.lookup a=some o/\o.cls=.type "list"/\o.dict=none/\o.data=.seq its n/\its.size<=sizeLine/\Vals xs its.toList
def SqT (K:apT) (H:Hp) (a:Addr) (xs:List V):Prop :=
 Rd H a (.tup xs) \/
  ∃ (o:Obj) (its:Array Value) (n:Nat),K.lookup a=some o/\o.cls=.type "tuple"/\o.data=.seq its n/\its.size<=sizeLine/\Vals xs its.toList
def apC:Value->Option V
 | .none=>some .non
 | .bool b=>some (.bl b)
 | .int i _=>some (.int i)
 | .str x _=>some (.str x)
 | .bytes b _=>some (.byt b)
 | .float b _=>some (.flt b)
 | .ref a=>some (.ref a)
 | .type n=>some (.ty n)
 | _=>none
theorem RelV.abs {x:V} {u:Value} (r:RelV x u):apC u=some x:=by
 cases x with
 | non=>cases r;rfl
 | bl _=>cases r;rfl
 | int _=>obtain⟨t,rfl⟩:=r;rfl
 | str _=>obtain⟨t,rfl⟩:=r;rfl
 | byt _=>obtain⟨t,rfl⟩:=r;rfl
 | flt _=>obtain⟨t,rfl⟩:=r;rfl
 | ref _=>cases r;rfl
 | ty _=>cases r;rfl
theorem RelV.inj {x y:V} {u:Value} (r:RelV x u) (q:RelV y u):x=y:=Option.some.inj (r.abs.symm.trans q.abs)
theorem Vals.inj:∀ {xs ys:List V} {us:List Value},Vals xs us->Vals ys us->xs=ys
 | _,_,_,.nil,.nil=>rfl
 | _,_,_,.cons r t,.cons r' t'=>by rw [r.inj r',Vals.inj t t']
section
variable {X:Cx} {pins:List (Addr×Obj)} {σ:St} {H:Hp} {s:Shared} {a:Addr} {xs ys:List V}
theorem SqL.of {K:apT} (h:H a=some (.lst xs)):SqL K H a xs:=.inl (.inl h)
theorem SqT.of {K:apT} (h:H a=some (.tup xs)):SqT K H a xs:=.inl (.inl h)
theorem Inv.list (I:Inv X pins σ H s) (h:SqL X.K H a xs):∃ its:List Value,Vals xs its/\PlainL s.heap a its.toArray/\xs.length<=sizeLine:=by
 rcases h with h | ⟨o,its,n,hk,hc,hd,hs,hz,r⟩
 ·obtain⟨z,its,n,r,e⟩:=h.ok I.hok
  exact⟨its,r,⟨_,n,e,rfl,rfl,rfl⟩,z⟩
 ·refine⟨its.toList,r,⟨o,n,I.kIn a o hk,hc,hd,by simpa using hs⟩,?_⟩
  have e:=r.length
  simp only [ap4] at e
  omega
theorem Inv.tuple (I:Inv X pins σ H s) (h:SqT X.K H a xs):∃ its:List Value,Vals xs its/\IsTup s.heap a its.toArray/\xs.length<=sizeLine:=by
 rcases h with h | ⟨o,its,n,hk,hc,hs,hz,r⟩
 ·obtain⟨z,its,r,p⟩:=h.ok I.hok
  exact⟨its,r,p,z⟩
 ·refine⟨its.toList,r,⟨o,I.kIn a o hk,hc,n,by simpa using hs⟩,?_⟩
  have e:=r.length
  simp only [ap4] at e
  omega
theorem Inv.list_inj (I:Inv X pins σ H s) (h:SqL X.K H a xs) (h':SqL X.K H a ys):xs=ys:=by
 obtain⟨its,r,⟨o,n,e,_,_,d⟩,_⟩:=I.list h
 obtain⟨its',r',⟨o',n',e',_,_,d'⟩,_⟩:=I.list h'
 rw [e] at e';cases e'
 rw [d] at d'
 injection d' with d1 _
 have:its=its':=by simpa using congrArg Array.toList d1
 subst this
 exact r.inj r'
theorem Inv.tuple_inj (I:Inv X pins σ H s) (h:SqT X.K H a xs) (h':SqT X.K H a ys):xs=ys:=by
 obtain⟨its,r,⟨o,e,_,n,d⟩,_⟩:=I.tuple h
 obtain⟨its',r',⟨o',e',_,n',d'⟩,_⟩:=I.tuple h'
 rw [e] at e';cases e'
 rw [d] at d'
 injection d' with d1 _
 have:its=its':=by simpa using congrArg Array.toList d1
 subst this
 exact r.inj r'
end
abbrev Cx.wish (X:Cx) (E:Value->Shared->Prop):Cx:={ X with xe:=E }
abbrev Cx.nox (X:Cx):Cx:=X.wish fun _ _=>False
theorem Cx.Ok.wish {X:Cx} (ok:X.Ok) (E:Value->Shared->Prop):(X.wish E).Ok :=
 ⟨ok.mod,ok.kind,ok.glob,ok.blt,ok.above,ok.inj,ok.has,ok.cab,ok.hd,ok.frames,ok.stk,ok.exf,ok.bs,ok.bsz,ok.noex,ok.exfs,ok.funs,ok.frf⟩
theorem Cx.Ok.unwish {X:Cx} {E:Value->Shared->Prop} (ok:(X.wish E).Ok):X.Ok :=
 ⟨ok.mod,ok.kind,ok.glob,ok.blt,ok.above,ok.inj,ok.has,ok.cab,ok.hd,ok.frames,ok.stk,ok.exf,ok.bs,ok.bsz,ok.noex,ok.exfs,ok.funs,ok.frf⟩
section
variable {X:Cx} {pins:List (Addr×Obj)} {σ:St} {H:Hp} {s:Shared} {E:Value->Shared->Prop}
theorem Inv.wish (I:Inv X pins σ H s) (E:Value->Shared->Prop):Inv (X.wish E) pins σ H s:=⟨I.ok.wish E,I.os,I.bare,I.base,I.loc,I.cell,I.free,I.freeC,I.pin,I.hok,I.len⟩
theorem Inv.unwish (I:Inv (X.wish E) pins σ H s):Inv X pins σ H s:=⟨I.ok.unwish,I.os,I.bare,I.base,I.loc,I.cell,I.free,I.freeC,I.pin,I.hok,I.len⟩
theorem SP.unwish {D:Ends} {f:Flow} {s':Shared} (h:SP (X.wish E) pins D f s'):SP X pins D f s':=by
 cases f with
 | next=>obtain⟨σ',H',I,q⟩:=h;exact⟨σ',H',I.unwish,q⟩
 | brk=>obtain⟨σ',H',I,q⟩:=h;exact⟨σ',H',I.unwish,q⟩
 | cont=>obtain⟨σ',H',I,q⟩:=h;exact⟨σ',H',I.unwish,q⟩
 | ret u=>obtain⟨v,σ',H',I,r,q⟩:=h;exact⟨v,σ',H',I.unwish,r,q⟩
theorem PSs.nox {st:List Stmt} {t:TS} (h:PSs X.nox st t):PSs X st t:=fun pins s σ H D I hw =>
 wpAny_mono (h pins s σ H D (I.wish _) hw) (fun _ _ q=>q.unwish) fun _ _ z=>asj z
end
section
variable {X:Cx} {st:Stmt} {rest:List Stmt} {t u:TS} {e:Expr} {te:TE} {pos:Pos}
def acu:TS:=fun D σ H=>D.nx σ H
def qf (t u:TS):TS:=fun D σ H=>t { D with nx:=u D } σ H
theorem zX:PSs X [] acu:=fun _ _ σ H _ I h=>wpAny_execs_nil ⟨σ,H,I,h⟩
theorem zi (h1:PS X st t) (h2:PSs X rest u):PSs X (st :: rest) (qf t u):=by
 intro pins s σ H D I h
 refine wpAny_execs_cons (thn (h1 pins s σ H { D with nx:=u D } I h) fun f s1 q=>?_)
 cases f with
 | next =>
  obtain⟨σ',H',I',q⟩:=q
  exact h2 pins s1 σ' H' D I' q
 | ret v=>exact q
 | brk=>exact q
 | cont=>exact q
theorem zt (h1:PS X st t):PSs X [st] t:=by
 intro pins s σ H D I h
 refine wpAny_execs_cons (thn (h1 pins s σ H D I h) fun f s1 q=>?_)
 cases f with
 | next=>exact wpAny_execs_nil q
 | ret v=>exact q
 | brk=>exact q
 | cont=>exact q
theorem Inv.quiet {pins:List (Addr×Obj)} {σ:St} {H:Hp} {s:Shared} (I:Inv X pins σ H s):interactive X.env=false:=by simp [interactive,I.ok.kind]
def abc (te:TE):TS:=fun D σ H=>te σ H fun _ H1=>D.nx σ H1
theorem jy (he:PE X e te) (hs:swapsWith e none pos.line X.env=pure false:=by rfl):PS X (.Expr e pos) (abc te):=by
 intro pins s σ H D I h
 exact wpAny_Expr_any (thn (he pins s σ H _ I h) fun v s1 ⟨x,H1,I1,r1,q1⟩=>⟨σ,H1,I1,q1⟩) I.quiet hs
def aec (te:TE):TS:=fun D σ H=>te σ H D.rt
theorem zE (he:PE X e te):PS X (.Return (some e) pos) (aec te):=by
 intro pins s σ H D I h
 exact wpAny_Return_some (thn (he pins s σ H _ I h) fun v s1 ⟨x,H1,I1,r1,q1⟩=>⟨x,σ,H1,I1,r1,q1⟩)
def aed (c:TT) (t u:TS):TS:=fun D σ H=>c σ H fun b H1=>if b=true then t D σ H1 else u D σ H1
theorem yD {c:Expr} {a b:List Stmt} {tc:TT} (hc:PT X c tc) (ha:PSs X a t) (hb:PSs X b u):PS X (.If c a b pos) (aed tc t u):=by
 intro pins s σ H D I h
 refine wpAny_If (thn (hc pins s σ H _ I h) fun d s1 ⟨H1,I1,q1⟩=>?_)
 cases d with
 | true=>exact ha pins s1 σ H1 D I1 q1
 | false=>exact hb pins s1 σ H1 D I1 q1
def anm:TS:=fun _ _ _=>False
theorem qk:PS X st anm:=fun _ _ _ _ _ _ h=>h.elim
end
abbrev TG:=V->St->Hp->(St->Hp->Prop)->Prop
abbrev TGs:=List V->St->Hp->(St->Hp->Prop)->Prop
def PG (X:Cx) (target:Expr) (t:TG):Prop :=
 ∀ (pins:List (Addr×Obj)) (s:Shared) (σ:St) (H:Hp) (v:V) (u:Value) (Q:St->Hp->Prop),Inv X pins σ H s->RelV v u->t v σ H Q ->
  wpAny (model X.prog X.w) X.A (assign target X.env u) (fun _ s'=>∃ σ' H',Inv X pins σ' H' s'/\Q σ' H') X.xe s
def PGs (X:Cx) (ts:List Expr) (t:TGs):Prop :=
 ∀ (pins:List (Addr×Obj)) (s:Shared) (σ:St) (H:Hp) (vs:List V) (us:List Value) (Q:St->Hp->Prop),Inv X pins σ H s->Vals vs us->t vs σ H Q ->
  wpAny (model X.prog X.w) X.A (assignInOrder ((assignEach ts X.env).map (·.2)) us) (fun _ s'=>∃ σ' H',Inv X pins σ' H' s'/\Q σ' H') X.xe s
abbrev ano:=V->V->V->Hp->(Hp->Prop)->Prop
def ald (X:Cx) (t:ano):Prop :=
 ∀ (pins:List (Addr×Obj)) (s:Shared) (σ:St) (H:Hp) (o i v:V) (ov iv u:Value) (Q:Hp->Prop),Inv X pins σ H s->RelV o ov->RelV i iv->RelV v u->t o i v H Q ->
  wpAny (model X.prog X.w) X.A (setItem ov iv u) (fun _ s'=>∃ H',Inv X pins σ H' s'/\Q H') X.xe s
section
variable {X:Cx} {pos:Pos}
def yJ (i:Nat):TG:=fun v σ H Q=>Q (σ.set i (some v)) H
theorem zq {i:Nat} {x:Str} (hN:X.N.Nodup) (hi:X.N[i]?=some x) (hx:Loc X.env.scope x) (hf:X.fn x=true \/ X.env.scope.names.lookup x=some .local:=by first | exact .inl rfl | exact .inr rfl | assumption):PG X (.Name x pos) (yJ i):=by
 intro pins s σ H v u Q I r h
 exact wpAny_assign_Name (aeb I hN hi hx r (fun s' I'=>⟨_,H,I',h⟩) hf)
def anp:TGs:=fun vs σ H Q=>vs=[]/\Q σ H
def agr (t:TG) (u:TGs):TGs:=fun vs σ H Q=>∃ v r,vs=v :: r/\t v σ H fun σ' H'=>u r σ' H' Q
theorem z7:PGs X [] anp:=by
 intro pins s σ H vs us Q I r h
 obtain⟨e,h⟩:=h
 subst e
 cases r
 exact assignInOrder_nil ⟨σ,H,I,h⟩
theorem zx {e:Expr} {es:List Expr} {t:TG} {u:TGs} (h1:PG X e t) (h2:PGs X es u)
  (hs:(assignEach (e :: es) X.env).map (·.2)=assign e X.env :: (assignEach es X.env).map (·.2):=by rfl):PGs X (e :: es) (agr t u):=by
 intro pins s σ H vs us Q I r h
 obtain⟨v,vr,e1,h⟩:=h
 subst e1
 cases r with
 | cons r rr =>
  rw [hs]
  refine assignInOrder_cons (thn (h1 pins s σ H _ _ _ I r h) fun _ s1 ⟨σ1,H1,I1,q1⟩=>?_)
  exact h2 pins s1 σ1 H1 _ _ Q I1 rr q1
def ale (K:apT) (n:Nat) (t:TGs):TG:=fun v σ H Q=>∃ a xs,v=.ref a/\SqT K H a xs/\xs.length=n/\t xs σ H Q
theorem anq {es:List Expr} {k:Nat} {t:TGs} {n:Nat} (hc:X.calm=true) (h:PGs X es t)
  (hn:(assignEach es X.env).length=n:=by rfl) (hst:(assignEach es X.env).findIdx? (·.1)=none:=by rfl):PG X (.Tuple es k pos) (ale X.K n t):=by
 intro pins s σ H v u Q I r hw
 obtain⟨a,xs,e1,hq,hl,hw⟩:=hw
 subst e1
 cases r
 obtain⟨its,rv,ht,hz⟩:=I.tuple hq
 refine assign_Tuple_tuple (I.ok.hd hc) ht (by simp [hn,<- hl,rv.length]) hst fun h' hx=>?_
 have I1:Inv X pins σ H { s with heap:=h' }:=I.kept (t':=s.toks) fun b o e=>hx b o (aqp (ap5 e)) e
 exact h pins _ σ H xs _ Q I1 (by simpa using rv) hw
def ac9 (to ti:TE) (t:ano):TG:=fun v σ H Q=>to σ H fun o H1=>ti σ H1 fun i H2=>t o i v H2 fun H3=>Q σ H3
theorem aaj {o i:Expr} {to ti:TE} {t:ano} (ho:PE X o to) (hi:PE X i ti) (hs:ald X t)
  (ha:∀ v,assign (.Subscript o i pos) X.env v=(do
   let ov <- holding [v] (eval o X.env)
   let iv <- holding [v,ov] (eval i X.env)
   standAt pos
   holding [v,ov,iv] (setItem ov iv v)
   release [v,ov,iv] []):=by intro _;rfl):PG X (.Subscript o i pos) (ac9 to ti t):=by
 intro pins s σ H v u Q I r h
 rw [ha]
 refine wpAny_bind (wpAny_holding (thn (ho pins s σ H _ I h) fun ov s1 ⟨x,H1,I1,r1,q1⟩=>?_))
 refine wpAny_bind (wpAny_holding (thn (hi pins s1 σ H1 _ I1 q1) fun iv s2 ⟨y,H2,I2,r2,q2⟩=>?_))
 refine wpAny_bind (wpAny_standAt (wpAny_bind (wpAny_holding (thn (hs pins s2 σ H2 x y v ov iv u _ I2 r1 r2 r q2) fun _ s3 ⟨H3,I3,q3⟩=>?_))))
 exact wpAny_release ⟨σ,H3,I3,q3⟩
def jE (te:TE) (g:TG):TS:=fun D σ H=>te σ H fun x H1=>g x σ H1 D.nx
theorem yz {tg e:Expr} {te:TE} {g:TG} (he:PE X e te) (hg:PG X tg g) (hs:swapsWithSole [tg] e pos.line X.env=pure false:=by rfl) (hw:swappedStores [tg] e X.env=pure none:=by rfl)
  (h1:(assignEach [tg] X.env).map (·.2)=[assign tg X.env]:=by rfl):PS X (.Assign [tg] e pos) (jE te g):=by
 intro pins s σ H D I h
 refine wpAny_Assign_stores (thn (he pins s σ H _ I h) fun v s1 ⟨x,H1,I1,r1,q1⟩=>?_) hs hw
 rw [h1]
 exact thn (hg pins s1 σ H1 x v _ I1 r1 q1) fun _ s2 q=>q
theorem zY {i:Nat} {x:Str} {e:Expr} {te:TE} {pos':Pos} (hN:X.N.Nodup) (hi:X.N[i]?=some x) (hx:Loc X.env.scope x) (he:PE X e te) (hs:swapsWith e (some (.Name x pos')) pos.line X.env=pure false:=by rfl) (hf:X.fn x=true \/ X.env.scope.names.lookup x=some .local:=by first | exact .inl rfl | exact .inr rfl | assumption) :
  PS X (.Assign [.Name x pos'] e pos) (jE te (yJ i)):=by
 intro pins s σ H D I h
 refine wpAny_Assign_Name (thn (he pins s σ H _ I h) fun v s1 ⟨y,H1,I1,r1,q1⟩=>?_) hs
 exact aeb I1 hN hi hx r1 (fun s2 I2=>⟨_,H1,I2,q1⟩) hf
end
section
variable {X:Cx} {pos:Pos}
def aiO (c:TT) (tb:TS):TS:=fun D σ H=>∃ W:Nat->St->Hp->Prop,(∃ m,W m σ H)/\∀ m σ H,W m σ H ->
 c σ H fun b H1=>if b=true then ∃ N:St->Hp->Prop,(∀ σ' H',N σ' H'->∃ m',m'<m/\W m' σ' H')/\tb { D with nx:=N,ct:=N,bk:=D.nx } σ H1 else D.nx σ H1
theorem aee {c:Expr} {body:List Stmt} {tc:TT} {tb:TS} (hp:PassesOwn (model X.prog X.w) X.A X.env X.xe) (hc:PT X c tc) (hb:PSs X body tb):PS X (.While c body [] pos) (aiO tc tb):=by
 intro pins s σ H D I h
 obtain⟨W,⟨m0,w0⟩,turn⟩:=h
 refine wpAny_While (codeAny_whileLoop (fun n s'=>∃ σ' H',Inv X pins σ' H' s'/\W n σ' H') ?_ m0 ⟨σ,H,I,w0⟩)
 rintro n s1 ⟨σ1,H1,I1,w1⟩
 refine wpAny_passesOwn hp (thn (hc pins s1 σ1 H1 _ I1 (turn n σ1 H1 w1)) fun b s2 ⟨H2,I2,q2⟩=>?_)
 cases b with
 | true =>
  obtain⟨N,hN,q2⟩:=q2
  rw [if_pos rfl]
  refine wpAny_passesOwn hp (thn (hb pins s2 σ1 H2 _ I2 q2) fun f s3 q3=>?_)
  cases f with
  | next =>
   obtain⟨σ3,H3,I3,n3⟩:=q3
   obtain⟨m',hm,w3⟩:=hN σ3 H3 n3
   exact⟨m',hm,σ3,H3,I3,w3⟩
  | cont =>
   obtain⟨σ3,H3,I3,n3⟩:=q3
   obtain⟨m',hm,w3⟩:=hN σ3 H3 n3
   exact⟨m',hm,σ3,H3,I3,w3⟩
  | brk=>exact q3
  | ret v=>exact q3
 | false =>
  rw [if_neg apQ]
  exact wpAny_execs_nil ⟨σ1,H2,I2,q2⟩
end
structure It where
 go:Nat->Hp->Prop
 yld:Nat->Hp->V->Hp->Prop
 stop:Nat->Hp->Prop
def vG (X:Cx) (pins:List (Addr×Obj)) (H:Hp) (b:Addr):Prop :=
 H b=none/\b≠X.env.locals/\b∉X.fs/\(b∈X.ex \/ X.s₀.heap.objs.size<=b)/\(∀ x c,X.env.cells.lookup x=some c->c≠b)/\∀ p∈X.pn++pins,p.1≠b
theorem Inv.fpOk {X:Cx} {pins:List (Addr×Obj)} {σ:St} {H H':Hp} {s:Shared} {b:Addr} (I:Inv X pins σ H s) (hb:s.heap.objs.size<=b) (hn:H' b=none):vG X pins H' b:=by
 refine⟨hn,arJ (aqq I.lt hb),I.nofs hb,.inr (aqn I.sz hb),fun x c e z=>?_,fun p hp z=>?_⟩
 ·obtain⟨v,q⟩:=I.cell x c e
  exact absurd (aqq q.lt (by rw [z];exact hb)) (aru _)
 ·exact absurd (aqq (ap5 (I.pin p hp).1) (by rw [z];exact hb)) (aru _)
structure Turn (P:Program) (w:World) (K:apT) (tg:Expr) (J:It) (fp:List Addr) (it:Addr) (tn:Nat->Heap->Prop):Prop where
 mem:it∈fp
 obj:∀ i h,tn i h->∀ b∈fp,∃ o,h.get? b=some o/\∀ v,o.data≠.cell v
 keep:∀ i h h',tn i h->(∀ b∈fp,∀ o,h.get? b=some o->h'.get? b=some o)->tn i h'
 item:∀ (X:Cx),X.prog=P->X.w=w->X.K=K->X.calm=true->∀ (i:Nat) (pins:List (Addr×Obj)) (s:Shared) (σ:St) (H:Hp) (E:Value->Shared->Prop),Inv X pins σ H s->(∀ b∈fp,vG X pins H b)->tn i s.heap->J.go i H ->
  wpAny (model P w) X.A (pyNext (.ref it)) (fun r s1=>∃ u,r=some u /\
   wpAny (model P w) X.A (letOwnedTupleGo tg (.ref it) u) (fun _ s2=>∃ x H',Inv X pins σ H' s2/\RelV x u/\J.yld i H x H'/\tn (i+1) s2.heap/\∀ b∈fp,H' b=none) E s1) E s
 done:∀ (X:Cx),X.prog=P->X.w=w->X.K=K->X.calm=true->∀ (i:Nat) (pins:List (Addr×Obj)) (s:Shared) (σ:St) (H:Hp) (E:Value->Shared->Prop),Inv X pins σ H s->(∀ b∈fp,vG X pins H b)->tn i s.heap->J.stop i H ->
  wpAny (model P w) X.A (pyNext (.ref it)) (fun r s1=>r=none/\Inv X pins σ H s1) E s
 self:∀ (A:Around) (i:Nat) (s:Shared) (Q:Value->Shared->Prop) (E:Value->Shared->Prop),tn i s.heap->Q (.ref it) s->wpAny (model P w) A (pyIter (.ref it)) Q E s
abbrev TI:=St->Hp->(It->Hp->Prop)->Prop
def PIE (X:Cx) (pins:List (Addr×Obj)) (σ:St) (tg:Expr) (R:It->Hp->Prop) (itv:Value) (s2:Shared):Prop :=
 ∃ (it:Addr) (fp:List Addr) (tn:Nat->Heap->Prop) (J:It) (H':Hp),itv=.ref it/\Inv X pins σ H' s2/\Turn X.prog X.w X.K tg J fp it tn/\tn 0 s2.heap/\(∀ b∈fp,vG X pins H' b)/\R J H'
def PI (X:Cx) (tg iter:Expr) (wi:TI):Prop :=
 ∀ (pins:List (Addr×Obj)) (s:Shared) (σ:St) (H:Hp) (R:It->Hp->Prop),Inv X pins σ H s->wi σ H R ->
  wpAny (model X.prog X.w) X.A (eval iter X.env) (fun v s1=>wpAny (model X.prog X.w) X.A (pyIter v) (PIE X pins σ tg R) X.xe s1) X.xe s
theorem aiP {M:Model} {A:Around} {E:Value->Shared->Prop} {s:Shared} {tg:Expr} {it:Addr} {u:Value} {o:Obj} {n:String} {vs:Array Value} {Q:Unit->Shared->Prop} (ho:s.heap.get? it=some o) (hc:o.cls=.type n) (hd:o.data=.fields vs)
  (hn:["enumerate","zip","dict_itemiterator","dict_reverseitemiterator","odict_iterator","itertools.zip_longest","itertools.pairwise"].contains n=false) (hQ:Q () s):wpAny M A (letOwnedTupleGo tg (.ref it) u) Q E s:=by
 unfold letOwnedTupleGo
 cases tg <;> first
  | exact wpAny_pure hQ
  | (cases u <;> first
    | exact wpAny_pure hQ
    | (refine wpAny_bind (wpAny_load ho ?_)
       rw [hc,hd]
       show wpAny M A (if (["enumerate","zip","dict_itemiterator","dict_reverseitemiterator","odict_iterator","itertools.zip_longest","itertools.pairwise"].contains n && vs[0]? == some (rawInt _))=true then _ else _) Q E s
       rw [if_neg (by intro h;rw [hn,arn] at h;cases h)]
       exact wpAny_pure hQ))
def Itl (K:apT) (a:Addr):It :=
 ⟨fun i H=>∃ xs x,SqL K H a xs/\xs[i]?=some x,fun i H x H'=>H'=H/\∀ xs,SqL K H a xs->xs[i]?=some x,fun i H=>∃ xs,SqL K H a xs/\xs.length<=i⟩
def Itt (K:apT) (a:Addr):It :=
 ⟨fun i H=>∃ xs x,SqT K H a xs/\xs[i]?=some x,fun i H x H'=>H'=H/\∀ xs,SqT K H a xs->xs[i]?=some x,fun i H=>∃ xs,SqT K H a xs/\xs.length<=i⟩
def Itr (lo:Int) (n:Nat):It:=⟨fun i _=>i<n,fun i H x H'=>H'=H/\x=.int (lo+i),fun i _=>n<=i⟩
theorem ahD {P:Program} {w:World} {K:apT} {tg:Expr} (a it:Addr):Turn P w K tg (Itl K a) [it] it (fun i h=>h.IsListIter it a i) where
 mem:=by simp
 obj:=fun i h st b hb=>by
  have e:b=it:=by simpa using hb
  subst e
  obtain⟨o,e,c,d⟩:=st
  exact⟨o,e,fun v z=>by rw [d] at z;cases z⟩
 keep:=fun i h h' st k=>st.at fun o e=>k it (by simp) o e
 item:=by
  intro X hP hw hK hc i pins s σ H E I hf st hg
  subst hP hw hK
  obtain⟨xs,x,hq,hx⟩:=hg
  obtain⟨its,rv,p,hz⟩:=I.list hq
  obtain⟨u,hu,ru⟩:=rv.get hx
  obtain⟨f0,f1,f2,f3,f4,f5⟩:=hf it (by simp)
  refine wpAny_pyNext_list_item st p.isList (x:=u) (by simpa using hu) fun h' st' sb=>?_
  have I1:Inv X pins σ H { s with heap:=h' }:=I.turned (t':=s.toks) (fun b o hb e=>(sb.2 b hb).trans e) f0 f1 f3 f4 f5
  obtain⟨o,e,c,d⟩:=id st'
  exact⟨u,rfl,aiP (s:={ s with heap:=h' }) e c d (by decide) ⟨x,H,I1,ru,⟨rfl,fun ys hy=>by rw [I.list_inj hy hq];exact hx⟩,st',fun b hb=>(hf b hb).1⟩⟩
 done:=by
  intro X hP hw hK hc i pins s σ H E I hf st hg
  subst hP hw hK
  obtain⟨xs,hq,hx⟩:=hg
  obtain⟨its,rv,p,hz⟩:=I.list hq
  obtain⟨f0,f1,f2,f3,f4,f5⟩:=hf it (by simp)
  have hl:=rv.length
  exact wpAny_pyNext_list_end (I.ok.hd hc) st p.isList (by simp;omega) fun h' eb=>⟨rfl,I.turned (t':=s.toks) (fun b o hb e=>eb b o hb e) f0 f1 f3 f4 f5⟩
 self:=fun _ _ _ _ _ st h=>wpAny_pyIter_listiter st h
theorem afm {P:Program} {w:World} {K:apT} {tg:Expr} (a it:Addr):Turn P w K tg (Itt K a) [it] it (fun i h=>h.IsTupleIter it a i) where
 mem:=by simp
 obj:=fun i h st b hb=>by
  have e:b=it:=by simpa using hb
  subst e
  obtain⟨o,e,c,d⟩:=st
  exact⟨o,e,fun v z=>by rw [d] at z;cases z⟩
 keep:=fun i h h' st k=>st.at fun o e=>k it (by simp) o e
 item:=by
  intro X hP hw hK hc i pins s σ H E I hf st hg
  subst hP hw hK
  obtain⟨xs,x,hq,hx⟩:=hg
  obtain⟨its,rv,p,hz⟩:=I.tuple hq
  obtain⟨u,hu,ru⟩:=rv.get hx
  obtain⟨f0,f1,f2,f3,f4,f5⟩:=hf it (by simp)
  refine wpAny_pyNext_tuple_item st (show s.heap.IsTuple a its.toArray from p) (x:=u) (by simpa using hu) fun h' st' sb=>?_
  have I1:Inv X pins σ H { s with heap:=h' }:=I.turned (t':=s.toks) (fun b o hb e=>(sb.2 b hb).trans e) f0 f1 f3 f4 f5
  obtain⟨o,e,c,d⟩:=id st'
  exact⟨u,rfl,aiP (s:={ s with heap:=h' }) e c d (by decide) ⟨x,H,I1,ru,⟨rfl,fun ys hy=>by rw [I.tuple_inj hy hq];exact hx⟩,st',fun b hb=>(hf b hb).1⟩⟩
 done:=by
  intro X hP hw hK hc i pins s σ H E I hf st hg
  subst hP hw hK
  obtain⟨xs,hq,hx⟩:=hg
  obtain⟨its,rv,p,hz⟩:=I.tuple hq
  obtain⟨f0,f1,f2,f3,f4,f5⟩:=hf it (by simp)
  have hl:=rv.length
  exact wpAny_pyNext_tuple_end (I.ok.hd hc) st (show s.heap.IsTuple a its.toArray from p) (by simp;omega) fun h' eb=>⟨rfl,I.turned (t':=s.toks) (fun b o hb e=>eb b o hb e) f0 f1 f3 f4 f5⟩
 self:=fun _ _ _ _ _ st h=>wpAny_pyIter_tupleiter st h
theorem afn {P:Program} {w:World} {K:apT} {tg:Expr} (it:Addr) (lo:Int) (n:Nat):Turn P w K tg (Itr lo n) [it] it (fun i h=>IsRangeIter h it (lo+(i:Nat) * 1) ((n:Int) - (i:Nat)) 1) where
 mem:=by simp
 obj:=fun i h st b hb=>by
  have e:b=it:=by simpa using hb
  subst e
  exact⟨_,st,fun v z=>by
   have z':Data.fields _=Data.cell v:=z
   cases z'⟩
 keep:=fun i h h' st k=>k it (by simp) _ st
 item:=by
  intro X hP hw hK hc i pins s σ H E I hf st hg
  subst hP hw hK
  obtain⟨f0,f1,f2,f3,f4,f5⟩:=hf it (by simp)
  have W:=Walks.range (prog:=X.prog) (w:=X.w) (I.ok.hd hc) it lo 1 n
  refine W.item i s _ _ hg st fun v h' tk hv st' kk=>?_
  obtain⟨t,rfl⟩:=hv
  have I1:Inv X pins σ H { s with heap:=h',toks:=tk }:=I.turned (fun b o hb e=>kk b o (by simpa using hb) e) f0 f1 f3 f4 f5
  refine⟨_,rfl,aiP (s:={ s with heap:=h',toks:=tk }) (n:="range_iterator") st' rfl rfl (by decide) ⟨.int (lo+i),H,I1,⟨t,?_⟩,⟨rfl,rfl⟩,st',fun b hb=>(hf b hb).1⟩⟩
  rw [Int.mul_one]
 done:=by
  intro X hP hw hK hc i pins s σ H E I hf st hg
  subst hP hw hK
  obtain⟨f0,f1,f2,f3,f4,f5⟩:=hf it (by simp)
  exact wpAny_pyNext_range_end (I.ok.hd hc) st (by have:n<=i:=hg;omega) fun h' eb=>⟨rfl,I.turned (t':=s.toks) (fun b o hb e=>eb b o hb e) f0 f1 f3 f4 f5⟩
 self:=fun _ _ _ _ _ st h=>wpAny_pyIter_rangeiter st h
section
variable {X:Cx} {tg:Expr}
def acv (K:apT) (tl:TE):TI:=fun σ H R=>tl σ H fun x H1=>∃ a,x=.ref a/\(∃ xs,SqL K H1 a xs)/\R (Itl K a) H1
def anr (K:apT) (tl:TE):TI:=fun σ H R=>tl σ H fun x H1=>∃ a,x=.ref a/\(∃ xs,SqT K H1 a xs)/\R (Itt K a) H1
theorem alf {l:Expr} {tl:TE} (hl:PE X l tl):PI X tg l (acv X.K tl):=by
 intro pins s σ H R I h
 refine thn (hl pins s σ H _ I h) fun v s1 ⟨x,H1,I1,r1,q1⟩=>?_
 obtain⟨a,e,⟨xs,hq⟩,q⟩:=q1
 subst e
 cases r1
 obtain⟨its,rv,p,hz⟩:=I1.list hq
 refine wpAny_pyIter_list p.isList ?_
 refine⟨s1.heap.objs.size,[s1.heap.objs.size],_,_,H1,rfl,I1.kept (t':=s1.toks) fun b o e=>apV _ e,ahD a _,⟨_,ap7 _ rfl,rfl,rfl⟩,fun b hb=>?_,q⟩
 have e:b=s1.heap.objs.size:=by simpa using hb
 subst e
 exact I1.fpOk (apY _) (I1.hok.fresh (apY _))
theorem ans {l:Expr} {tl:TE} (hl:PE X l tl):PI X tg l (anr X.K tl):=by
 intro pins s σ H R I h
 refine thn (hl pins s σ H _ I h) fun v s1 ⟨x,H1,I1,r1,q1⟩=>?_
 obtain⟨a,e,⟨xs,hq⟩,q⟩:=q1
 subst e
 cases r1
 obtain⟨its,rv,p,hz⟩:=I1.tuple hq
 refine wpAny_pyIter_tuple (show s1.heap.IsTuple a its.toArray from p) ?_
 refine⟨s1.heap.objs.size,[s1.heap.objs.size],_,_,H1,rfl,I1.kept (t':=s1.toks) fun b o e=>apV _ e,afm a _,⟨_,ap7 _ rfl,rfl,rfl⟩,fun b hb=>?_,q⟩
 have e:b=s1.heap.objs.size:=by simpa using hb
 subst e
 exact I1.fpOk (apY _) (I1.hok.fresh (apY _))
theorem aef {pins:List (Addr×Obj)} {σ:St} {H:Hp} {s:Shared} {R:It->Hp->Prop} {E:Value->Shared->Prop} {lo hi:Int} {t u v:Tok} {tk:Nat} (I:Inv X pins σ H s) (h1:-(2 ^ 62)<=lo) (h2:lo<2 ^ 62) (h3:-(2 ^ 62)<=hi) (h4:hi<2 ^ 62)
  (q:R (Itr lo (hi - lo).toNat) H):wpAny (model X.prog X.w) X.A (pyIter (.ref s.heap.objs.size)) (PIE X pins σ tg R) E { s with heap:=s.heap.push { cls:=.type "range",data:=.fields #[.int lo t,.int hi u,.int 1 v] },toks:=tk }:=by
 refine wpAny_pyIter_range (IsRange.new ..) (small_one h1 h2 h3 h4) ?_
 have I1:Inv X pins σ H { s with heap:=s.heap.push { cls:=.type "range",data:=.fields #[.int lo t,.int hi u,.int 1 v] },toks:=tk }:=I.kept fun b o e=>apV _ e
 refine⟨(s.heap.push { cls:=.type "range",data:=.fields #[.int lo t,.int hi u,.int 1 v] }).objs.size,[(s.heap.push { cls:=.type "range",data:=.fields #[.int lo t,.int hi u,.int 1 v] }).objs.size],_,_,H,rfl,
  I1.kept (t':=tk) fun b o e=>apV _ e,afn _ lo (hi - lo).toNat,?_,fun b hb=>?_,q⟩
 ·have e1:lo+((0:Nat):Int) * 1=lo:=by simp
  have e2:(((hi - lo).toNat:Nat):Int) - ((0:Nat):Int)=Builtin.Range.rangeSize lo hi 1:=by rw [rangeSize_one];split <;> omega
  show IsRangeIter _ _ (lo+((0:Nat):Int) * 1) ((((hi - lo).toNat:Nat):Int) - ((0:Nat):Int)) 1
  rw [e1,e2]
  exact ap7 _ rfl
 ·have e:b=(s.heap.push { cls:=.type "range",data:=.fields #[.int lo t,.int hi u,.int 1 v] }).objs.size:=by simpa using hb
  subst e
  exact I1.fpOk (apY _) (I1.hok.fresh (apY _))
def aeg (ta:TA):TI:=fun σ H R=>ta σ H fun vs H1=>∃ j:Int,vs=[.int j]/\-(2 ^ 62)<=j/\j<2 ^ 62/\R (Itr 0 j.toNat) H1
def amP (ta:TA):TI:=fun σ H R=>ta σ H fun vs H1=>∃ i j:Int,vs=[.int i,.int j]/\(-(2 ^ 62)<=i/\i<2 ^ 62/\-(2 ^ 62)<=j/\j<2 ^ 62)/\R (Itr i (j - i).toNat) H1
theorem yA {a:Expr} {ta:TA} {p pos:Pos} (hg:Gl X "range") (hm:X.mg "range"=none) (ha:PA X [a] ta) (hs:starEach [a] X.env=[(false,eval a X.env)]:=by rfl):PI X tg (.Call (.Name "range" p) [a] [] pos) (aeg ta):=by
 intro pins s σ H R I h
 refine Call_ (qT I hg hm boot_range (art (thn (ha pos pins s σ H _ I h) fun us s1 ⟨vs,H1,I1,r1,q1⟩=>?_) hs rfl))
 obtain⟨j,e,q1,q2,q⟩:=q1
 subst e
 cases r1 with
 | cons r rr =>
  cases rr
  obtain⟨t,rfl⟩:=r
  exact call_range_1 (aef I1 (by omega) (by omega) q1 q2 (by simpa using q))
theorem ahE {a b:Expr} {ta:TA} {p pos:Pos} (hg:Gl X "range") (hm:X.mg "range"=none) (ha:PA X [a,b] ta) (hs:starEach [a,b] X.env=[(false,eval a X.env),(false,eval b X.env)]:=by rfl) (hs2:starEach [b] X.env=[(false,eval b X.env)]:=by rfl) :
  PI X tg (.Call (.Name "range" p) [a,b] [] pos) (amP ta):=by
 intro pins s σ H R I h
 refine Call_ (qT I hg hm boot_range (art (thn (ha pos pins s σ H _ I h) fun us s1 ⟨vs,H1,I1,r1,q1⟩=>?_) (by rw [hs,hs2]) (by rw [hs2];rfl)))
 obtain⟨i,j,e,⟨q1,q2,q3,q4⟩,q⟩:=q1
 subst e
 cases r1 with
 | cons r rr =>
  cases rr with
  | cons r' rr =>
   cases rr
   obtain⟨t,rfl⟩:=r
   obtain⟨t',rfl⟩:=r'
   exact call_range_2 (aef I1 q1 q2 q3 q4 q)
def ahF (wi:TI) (g:TG) (tb:TS):TS:=fun D σ H=>wi σ H fun J H1=>∃ W:Nat->Nat->St->Hp->Prop,(∃ m,W 0 m σ H1)/\∀ i m σ H,W i m σ H ->
 (J.stop i H/\D.nx σ H) \/ (J.go i H/\∃ N:St->Hp->Prop,(∀ σ' H',N σ' H'->∃ m',m'<m/\W (i+1) m' σ' H')/\∀ x H',J.yld i H x H'->g x σ H' fun σ2 H2=>tb { D with nx:=N,ct:=N,bk:=D.nx } σ2 H2)
def abd (fp:List Addr) (h:Heap):List (Addr×Obj):=fp.filterMap fun b=>(h.get? b).map fun o=>(b,o)
theorem qw {fp:List Addr} {h:Heap} {b:Addr} {o:Obj} (hb:b∈fp) (e:h.get? b=some o):(b,o)∈abd fp h:=atw.mpr ⟨b,hb,by rw [e];rfl⟩
theorem ahG {fp:List Addr} {h:Heap} {p:Addr×Obj} (hp:p∈abd fp h):p.1∈fp/\h.get? p.1=some p.2:=by
 obtain⟨b,hb,e⟩:=atw.mp hp
 cases q:h.get? b with
 | none=>rw [q] at e;cases e
 | some o =>
  rw [q] at e
  have e':(b,o)=p:=Option.some.inj e
  subst e'
  exact⟨hb,q⟩
theorem Inv.pinned {pins:List (Addr×Obj)} {σ:St} {H:Hp} {s:Shared} {fp:List Addr} (I:Inv X pins σ H s) (hf:∀ b∈fp,vG X pins H b) (ho:∀ b∈fp,∃ o,s.heap.get? b=some o/\∀ v,o.data≠.cell v):Inv X (pins++abd fp s.heap) σ H s :=
 I.pins_of fun p hp=>(aqh.mp hp).elim (fun z=>I.pin p (aqe _ z)) fun z=>by
  obtain⟨hb,e⟩:=ahG z
  obtain⟨f0,f1,f2,_⟩:=hf p.1 hb
  obtain⟨o,e',d⟩:=ho p.1 hb
  rw [e] at e';cases e'
  exact⟨e,f0,f1,f2,d⟩
theorem Inv.unpinned {pins pl:List (Addr×Obj)} {σ:St} {H:Hp} {s:Shared} (I:Inv X (pins++pl) σ H s):Inv X pins σ H s:=I.pins_of fun p hp=>I.pin p (aqe _ (arq _ hp))
theorem jF {iter:Expr} {body:List Stmt} {wi:TI} {g:TG} {tb:TS} {pos:Pos} (hp:PassesOwn (model X.prog X.w) X.A X.env X.xe) (hc:X.calm=true) (hi:PI X tg iter wi) (hg:PG X tg g) (hb:PSs X body tb)
  (hs:∀ x,foldedSetIterable iter X.env x=pure x:=by intro _;rfl):PS X (.For tg iter body [] pos) (ahF wi g tb):=by
 intro pins s σ H D I h
 refine wpAny_For (thn (hi pins s σ H _ I h) fun v s1 h1=>thn h1 fun itv s2 h2=>?_) hs
 obtain⟨it,fp,tn,J,H2,e,I2,T,st2,f2,W,⟨m0,w0⟩,turn⟩:=h2
 subst e
 -- what stays true of the iterator's objects through the loop
 have stat:∀ {H':Hp},(∀ b∈fp,H' b=none)->∀ b∈fp,vG X pins H' b:=fun hn b hb=>⟨hn b hb,(f2 b hb).2⟩
 refine codeAny_forLoop_any (fun n s'=>∃ i σ' H',Inv X pins σ' H' s'/\tn i s'.heap/\(∀ b∈fp,H' b=none)/\W i n σ' H') ?_ m0 ⟨0,σ,H2,I2,st2,fun b hb=>(f2 b hb).1,w0⟩
 rintro n s3 ⟨i,σ3,H3,I3,st3,fr3,w3⟩
 rcases turn i n σ3 H3 w3 with⟨stop,qn⟩ | ⟨go,N,hN,step⟩
 ·refine wpAny_passesOwn hp (thn (T.done X rfl rfl rfl hc i pins s3 σ3 H3 X.xe I3 (stat fr3) st3 stop) fun r s4 ⟨hr,I4⟩=>?_)
  subst hr
  exact wpAny_execs_nil ⟨σ3,H3,I4,qn⟩
 ·refine wpAny_passesOwn hp (thn (T.item X rfl rfl rfl hc i pins s3 σ3 H3 X.xe I3 (stat fr3) st3 go) fun r s4 ⟨u,hr,h4⟩=>?_)
  subst hr
  refine wpAny_passesOwn hp (thn h4 fun _ s5 ⟨x,H5,I5,r5,y5,st5,fr5⟩=>?_)
  have I5':=I5.pinned (stat fr5) (T.obj _ _ st5)
  refine wpAny_passesOwn hp (thn (hg _ s5 σ3 H5 x u _ I5' r5 (step x H5 y5)) fun _ s6 ⟨σ6,H6,I6,q6⟩=>?_)
  refine wpAny_passesOwn hp (thn (hb _ s6 σ6 H6 _ I6 q6) fun f s7 q7=>?_)
  have again:∀ {σ7:St} {H7:Hp},Inv X (pins++abd fp s5.heap) σ7 H7 s7->N σ7 H7->∃ m,m<n/\∃ i σ' H',Inv X pins σ' H' s7/\tn i s7.heap/\(∀ b∈fp,H' b=none)/\W i m σ' H':=fun {σ7 H7} I7 n7=>by
   obtain⟨m',hm,w7⟩:=hN σ7 H7 n7
   refine⟨m',hm,i+1,σ7,H7,I7.unpinned,T.keep _ _ _ st5 fun b hb o e=>(I7.pin (b,o) (aqe _ (aqe _ (qw hb e)))).1,fun b hb=>?_,w7⟩
   obtain⟨o,e,d⟩:=T.obj _ _ st5 b hb
   exact (I7.pin (b,o) (aqe _ (aqe _ (qw hb e)))).2.1
  cases f with
  | next=>obtain⟨σ7,H7,I7,n7⟩:=q7;exact again I7 n7
  | cont=>obtain⟨σ7,H7,I7,n7⟩:=q7;exact again I7 n7
  | brk=>obtain⟨σ7,H7,I7,q7⟩:=q7;exact⟨σ7,H7,I7.unpinned,q7⟩
  | ret v=>obtain⟨x7,σ7,H7,I7,r7,q7⟩:=q7;exact⟨x7,σ7,H7,I7.unpinned,r7,q7⟩
end
abbrev R2:=V->V->Hp->VK->Prop
def OpR (X:Cx) (f:Value->Value->Sem Value) (r:R2):Prop :=
 ∀ (pins:List (Addr×Obj)) (s:Shared) (σ:St) (H:Hp) (x y:V) (v u:Value) (Q:VK),Inv X pins σ H s->RelV x v->RelV y u->r x y H Q ->
  wpAny (model X.prog X.w) X.A (f v u) (EP X pins σ Q) X.xe s
def UnR (X:Cx) (f:Value->Sem Value) (r:V->Hp->VK->Prop):Prop :=
 ∀ (pins:List (Addr×Obj)) (s:Shared) (σ:St) (H:Hp) (x:V) (v:Value) (Q:VK),Inv X pins σ H s->RelV x v->r x H Q ->
  wpAny (model X.prog X.w) X.A (f v) (EP X pins σ Q) X.xe s
def z6 (X:Cx) (f:Value) (r:List V->Hp->VK->Prop):Prop :=
 ∀ (pins:List (Addr×Obj)) (s:Shared) (σ:St) (H:Hp) (xs:List V) (us:List Value) (Q:VK),Inv X pins σ H s->Vals xs us->r xs H Q ->
  wpAny (model X.prog X.w) X.A (call f us) (EP X pins σ Q) X.xe s
def apD (X:Cx) (r:V->Hp->(Bool->Hp->Prop)->Prop):Prop :=
 ∀ (pins:List (Addr×Obj)) (s:Shared) (σ:St) (H:Hp) (x:V) (v:Value) (Q:Bool->Hp->Prop),Inv X pins σ H s->RelV x v->r x H Q ->
  wpAny (model X.prog X.w) X.A (truthy v) (TP X pins σ Q) X.xe s
def tOp (r:R2) (ta tb:TE):TE:=fun σ H Q=>ta σ H fun x H1=>tb σ H1 fun y H2=>r x y H2 Q
def tUn (r:V->Hp->VK->Prop) (ta:TE):TE:=fun σ H Q=>ta σ H fun x H1=>r x H1 Q
def rI (C:Int->Int->Prop) (g:Int->Int->V):R2:=fun x y H Q=>∃ i j,x=.int i/\y=.int j/\C i j/\Q (g i j) H
def rI0 (g:Int->Int->V):R2:=fun x y H Q=>∃ i j,x=.int i/\y=.int j/\Q (g i j) H
def rU (g:Int->V):V->Hp->VK->Prop:=fun x H Q=>∃ i,x=.int i/\Q (g i) H
section
variable {X:Cx} {a b c:Expr} {ta tb tc:TE} {pos:Pos}
theorem ant (ha:PE X a ta) (hb:PE X b tb) {pins:List (Addr×Obj)} {s:Shared} {σ:St} {H:Hp} {R:V->V->Hp->Prop} (I:Inv X pins σ H s)
  (h:ta σ H fun x H1=>tb σ H1 fun y H2=>R x y H2) {Q:Value->Shared->Prop} {f:Value->Value->Sem Value}
  (hf:∀ v u s2 x y H2,Inv X pins σ H2 s2->RelV x v->RelV y u->R x y H2->wpAny (model X.prog X.w) X.A (f v u) Q X.xe s2) :
  wpAny (model X.prog X.w) X.A (eval a X.env) (fun v s₁=>wpAny (model X.prog X.w) X.A (eval b X.env) (fun u s₂=>wpAny (model X.prog X.w) X.A (f v u) Q X.xe s₂) X.xe s₁) X.xe s:=by
 refine thn (ha pins s σ H _ I h) fun v s1 ⟨x,H1,I1,r1,q1⟩=>?_
 refine thn (hb pins s1 σ H1 _ I1 q1) fun u s2 ⟨y,H2,I2,r2,q2⟩=>?_
 exact hf v u s2 x y H2 I2 r1 r2 q2
theorem zM {op:Operator} {r:R2} (ho:OpR X (binaryOp op) r) (ha:PE X a ta) (hb:PE X b tb):PE X (.BinOp a op b pos) (tOp r ta tb):=by
 intro pins s σ H Q I h
 exact wpAny_BinOp (ant ha hb I h fun v u s2 x y H2 I2 rx ry q=>ho pins s2 σ H2 x y v u Q I2 rx ry q)
theorem aiQ {op:UnaryOp} {r:V->Hp->VK->Prop} (ho:UnR X (unaryOp op) r) (ha:PE X a ta):PE X (.UnaryOp op a pos) (tUn r ta):=by
 intro pins s σ H Q I h
 exact UnaryOp_ (thn (ha pins s σ H _ I h) fun v s1 ⟨x,H1,I1,r1,q1⟩=>ho pins s1 σ H1 x v Q I1 r1 q1)
theorem opI {f:Value->Value->Sem Value} {C:Int->Int->Prop} {g:Int->Int->Int}
  (rule:∀ (i j:Int) (t u:Tok) (s:Shared) (Q:Value->Shared->Prop) (E:Value->Shared->Prop),C i j->Q (.int (g i j) s.toks) { s with toks:=s.toks+1 }->wpAny (model X.prog X.w) X.A (f (.int i t) (.int j u)) Q E s) :
  OpR X f (rI C fun i j=>.int (g i j)):=by
 intro pins s σ H x y v u Q I rx ry h
 obtain⟨i,j,rfl,rfl,hc,q⟩:=h
 obtain⟨t,rfl⟩:=rx
 obtain⟨t',rfl⟩:=ry
 exact rule i j t t' s _ _ hc ⟨.int (g i j),H,I.tok _,⟨_,rfl⟩,q⟩
theorem aoV {f:Value->Value->Sem Value} {g:Int->Int->Int}
  (rule:∀ (i j:Int) (t u:Tok) (s:Shared) (Q:Value->Shared->Prop) (E:Value->Shared->Prop),Q (.int (g i j) s.toks) { s with toks:=s.toks+1 }->wpAny (model X.prog X.w) X.A (f (.int i t) (.int j u)) Q E s) :
  OpR X f (rI0 fun i j=>.int (g i j)):=by
 intro pins s σ H x y v u Q I rx ry h
 obtain⟨i,j,rfl,rfl,q⟩:=h
 obtain⟨t,rfl⟩:=rx
 obtain⟨t',rfl⟩:=ry
 exact rule i j t t' s _ _ ⟨.int (g i j),H,I.tok _,⟨_,rfl⟩,q⟩
theorem alg {f:Value->Value->Sem Value} {g:Int->Int->Bool}
  (rule:∀ (i j:Int) (t u:Tok) (s:Shared) (Q:Value->Shared->Prop) (E:Value->Shared->Prop),Q (.bool (g i j)) s->wpAny (model X.prog X.w) X.A (f (.int i t) (.int j u)) Q E s) :
  OpR X f (rI0 fun i j=>.bl (g i j)):=by
 intro pins s σ H x y v u Q I rx ry h
 obtain⟨i,j,rfl,rfl,q⟩:=h
 obtain⟨t,rfl⟩:=rx
 obtain⟨t',rfl⟩:=ry
 exact rule i j t t' s _ _ ⟨.bl (g i j),H,I,rfl,q⟩
def apE (i j:Int):Prop:=0<=j/\j<=1000000/\i.natAbs<2 ^ 64
def CMul (i j:Int):Prop:=(-(2 ^ 64)<i/\i<2 ^ 64) \/ (-(2 ^ 64)<j/\j<2 ^ 64)
theorem CMul.ok {i j:Int} (h:CMul i j):IntMulOk i j:=by
 rcases h with⟨h1,h2⟩ | ⟨h1,h2⟩
 ·exact .of_left (intBits_le_64 h1 h2)
 ·exact .of_right (intBits_le_64 h1 h2)
theorem yb:OpR X (binaryOp .Add) (rI0 fun i j=>.int (i+j)):=aoV fun _ _ _ _ _ _ _ q=>add_int q
theorem ada:OpR X (binaryOp .Sub) (rI0 fun i j=>.int (i - j)):=aoV fun _ _ _ _ _ _ _ q=>sub_int q
theorem adb:OpR X (binaryOp .Mult) (rI CMul fun i j=>.int (i * j)):=opI fun _ _ _ _ _ _ _ hc q=>mul_int q hc.ok
theorem qX:OpR X (binaryOp .Mod) (rI (fun _ j=>0<j) fun i j=>.int (i % j)):=opI fun i j _ _ _ _ _ hc q=>by
 have h1:(0:Int)<j:=hc
 exact mod_int' (by omega) (by rw [Int.fmod_eq_emod_of_nonneg i (by omega)];exact q)
theorem afo:OpR X (binaryOp .Pow) (rI apE fun i j=>.int (i ^ j.toNat)):=opI fun _ _ _ _ _ _ _ hc q=>pow_int_small hc.1 hc.2.1 hc.2.2 q
theorem unI {f:Value->Sem Value} {g:Int->Int}
  (rule:∀ (i:Int) (t:Tok) (s:Shared) (Q:Value->Shared->Prop) (E:Value->Shared->Prop),Q (.int (g i) s.toks) { s with toks:=s.toks+1 }->wpAny (model X.prog X.w) X.A (f (.int i t)) Q E s) :
  UnR X f (rU fun i=>.int (g i)):=by
 intro pins s σ H x v Q I rx h
 obtain⟨i,rfl,q⟩:=h
 obtain⟨t,rfl⟩:=rx
 exact rule i t s _ _ ⟨.int (g i),H,I.tok _,⟨_,rfl⟩,q⟩
theorem afp:UnR X (unaryOp .USub) (rU fun i=>.int (-i)):=unI fun _ _ _ _ _ q=>neg_int q
end
section
variable {X:Cx} {a b c:Expr} {ta tb tc:TE} {pos:Pos}
theorem aiR {pins:List (Addr×Obj)} {σ:St} {H:Hp} {s:Shared} {Q:VK} {k k':Bool} (I:Inv X pins σ H s) (q:Q (.bl k) H) (e:k=k'):EP X pins σ Q (.bool k') s:=by
 subst e
 exact⟨.bl k,H,I,rfl,q⟩
theorem aeh:OpR X (compareOp .Lt) (rI0 fun i j=>.bl (decide (i<j))):=alg fun _ _ _ _ _ _ _ q=>lt_int q
theorem vI:OpR X (compareOp .LtE) (rI0 fun i j=>.bl (decide (i<=j))):=alg fun _ _ _ _ _ _ _ q=>le_int q
theorem aiS:OpR X (compareOp .Gt) (rI0 fun i j=>.bl (decide (j<i))):=alg fun _ _ _ _ _ _ _ q=>gt_int q
theorem amQ:OpR X (compareOp .GtE) (rI0 fun i j=>.bl (decide (j<=i))):=alg fun _ _ _ _ _ _ _ q=>ge_int q
theorem aiT:OpR X (compareOp .Is) (fun x y H Q=>y=.non/\Q (.bl (decide (x=.non))) H):=by
 intro pins s σ H x y v u Q I rx ry h
 obtain⟨rfl,q⟩:=h
 cases ry
 refine is_none_gen (aiR I q ?_)
 cases x <;> first
  | (cases rx;rfl)
  | (obtain⟨t,rfl⟩:=rx;rfl)
theorem ags:OpR X (compareOp .IsNot) (fun x y H Q=>y=.non/\Q (.bl (!decide (x=.non))) H):=by
 intro pins s σ H x y v u Q I rx ry h
 obtain⟨rfl,q⟩:=h
 cases ry
 refine isnot_none_gen (aiR I q ?_)
 cases x <;> first
  | (cases rx;rfl)
  | (obtain⟨t,rfl⟩:=rx;rfl)
theorem z3 (b:Expr) {op:CmpOp} (h:op≠.In:=by decide) (h2:op≠.NotIn:=by decide):behindInMarks op b=false:=by
 have e1:(op == CmpOp.In)=false:=by cases op <;> first | rfl | exact absurd rfl h
 have e2:(op == CmpOp.NotIn)=false:=by cases op <;> first | rfl | exact absurd rfl h2
 cases b <;> simp [behindInMarks,e1,e2]
theorem y4 {op:CmpOp} {r:R2} (ho:OpR X (compareOp op) r) (ha:PE X a ta) (hb:PE X b tb) (hm:behindInMarks op b=false):PE X (.Compare a [op] [b] pos) (tOp r ta tb):=by
 intro pins s σ H Q I h
 exact wpAny_Compare1 (ant ha hb I h fun v u s2 x y H2 I2 rx ry q=>ho pins s2 σ H2 x y v u Q I2 rx ry q) hm
def aiU (t:TE):TT:=fun σ H Q=>t σ H fun x H'=>∃ k,x=.bl k/\Q k H'
theorem zZ {op:CmpOp} {r:R2} (ho:OpR X (compareOp op) r) (ha:PE X a ta) (hb:PE X b tb) (hm:behindInMarks op b=false):PT X (.Compare a [op] [b] pos) (aiU (tOp r ta tb)):=by
 intro pins s σ H Q I h
 refine wpAny_isTrue_Compare1 (thn (ha pins s σ H _ I h) fun v s1 ⟨x,H1,I1,r1,q1⟩=>thn (hb pins s1 σ H1 _ I1 q1) fun u s2 ⟨y,H2,I2,r2,q2⟩ =>
  thn (ho pins s2 σ H2 x y v u _ I2 r1 r2 q2) fun c s3 ⟨z,H3,I3,r3,k,e,q3⟩=>?_) hm
 subst e
 cases r3
 exact wpAny_truthy_bool ⟨H3,I3,q3⟩
def aiV (r r':R2) (ta tb tc:TE):TE:=fun σ H Q=>ta σ H fun x H1=>tb σ H1 fun y H2=>r x y H2 fun z H3=>∃ k,z=.bl k /\
 (if k=true then tc σ H3 fun w' H4=>r' y w' H4 Q else Q (.bl false) H3)
theorem qY {op op':CmpOp} {r r':R2} (ho:OpR X (compareOp op) r) (ho':OpR X (compareOp op') r') (ha:PE X a ta) (hb:PE X b tb) (hc:PE X c tc)
  (hm:lastMarks [op,op'] [b,c]=false:=by with_unfolding_all rfl):PE X (.Compare a [op,op'] [b,c] pos) (aiV r r' ta tb tc):=by
 intro pins s σ H Q I h
 refine Compare_chain (thn (ha pins s σ H _ I h) fun v s1 ⟨x,H1,I1,r1,q1⟩=>chain_link (thn (hb pins s1 σ H1 _ I1 q1) fun u s2 ⟨y,H2,I2,r2,q2⟩ =>
  thn (ho pins s2 σ H2 x y v u _ I2 r1 r2 q2) fun d s3 ⟨z,H3,I3,r3,k,e,q3⟩=>?_)) hm
 subst e
 cases r3
 refine wpAny_truthy_bool ?_
 cases k with
 | false=>exact ite_ff ⟨.bl false,H3,I3,rfl,q3⟩
 | true=>exact ite_tt (chain_last (thn (hc pins s3 σ H3 _ I3 q3) fun w' s4 ⟨z',H4,I4,r4,q4⟩=>ho' pins s4 σ H4 y z' u w' Q I4 r2 r4 q4))
def anu (K:apT) (x:V) (H:Hp) (k:Bool):Prop :=
 match x with
 | .non=>k=false
 | .bl b=>k=b
 | .int i=>k=(i != 0)
 | .str y=>y.length<=sizeLine/\k=((y.length:Int) != 0)
 | .byt y=>y.size<=sizeLine/\k=((y.size:Int) != 0)
 | .ref p=>(∃ xs,SqL K H p xs/\k=!xs.isEmpty) \/ (∃ xs,SqT K H p xs/\k=!xs.isEmpty) \/ ∃ kvs,H p=some (.dK kvs)/\k=!kvs.isEmpty
 | _=>False
theorem afq {κ:Type} {kvs:List (κ×V)} {vs:List (κ×Value)} (r:KV kvs vs):(!vs.isEmpty)=!kvs.isEmpty:=by
 cases r <;> rfl
theorem abe {xs:List V} {its:List Value} (r:Vals xs its):(!its.toArray.isEmpty)=!xs.isEmpty:=by
 cases r <;> simp
theorem abf:(sizeLine:Nat)<2 ^ 63:=by rw [sizeLine_eq];decide
theorem anv:apD X (fun x H Q=>∃ k,anu X.K x H k/\Q k H):=by
 intro pins s σ H x v Q I rx h
 obtain⟨k,e,q⟩:=h
 have hl:=abf
 have hs:sizeLine=16777216:=sizeLine_eq
 cases x with
 | non =>
  cases rx
  have e':k=false:=e
  subst e'
  exact truthy_none ⟨H,I,q⟩
 | bl b =>
  cases rx
  have e':k=b:=e
  subst e'
  exact wpAny_truthy_bool ⟨H,I,q⟩
 | int i =>
  obtain⟨t,rfl⟩:=rx
  have e':k=(i != 0):=e
  subst e'
  exact PySem.P.truthy_int ⟨H,I,q⟩
 | str y =>
  obtain⟨t,rfl⟩:=rx
  obtain⟨hy,e'⟩:y.length<=sizeLine/\k=((y.length:Int) != 0):=e
  subst e'
  exact PySem.P.truthy_str (by omega) ⟨H,I.tok _,q⟩
 | byt y =>
  obtain⟨t,rfl⟩:=rx
  obtain⟨hy,e'⟩:y.size<=sizeLine/\k=((y.size:Int) != 0):=e
  subst e'
  exact PySem.W.truthy_bytes (by omega) ⟨H,I.tok _,q⟩
 | ref p =>
  cases rx
  have e':(∃ xs,SqL X.K H p xs/\k=!xs.isEmpty) \/ (∃ xs,SqT X.K H p xs/\k=!xs.isEmpty) \/ ∃ kvs,H p=some (.dK kvs)/\k=!kvs.isEmpty:=e
  rcases e' with⟨xs,hx,e'⟩ | ⟨xs,hx,e'⟩ | ⟨kvs,hx,e'⟩
  ·subst e'
   obtain⟨its,r,pl,hz⟩:=I.list hx
   have hlen:=r.length
   exact wpAny_truthy_list pl.isList (by simp only [ap9];omega) ⟨H,I.tok _,by rw [abe r];exact q⟩
  ·subst e'
   obtain⟨its,r,pl,hz⟩:=I.tuple hx
   have hlen:=r.length
   exact truthy_tuple pl (by simp only [ap9];omega) ⟨H,I.tok _,by rw [abe r];exact q⟩
  ·subst e'
   obtain⟨hz,hS,vs,r,m⟩:kvs.length<=sizeLine/\(p == sysModules)=false/\∃ vs,KV kvs vs/\s.heap.DictOf (ac5 X.prog X.w) p vs:=I.hok p _ hx
   have hlen:kvs.length=vs.length:=Paired.length r
   exact wpAny_truthy_dict hS m (by omega) ⟨H,I.tok _,by rw [afq r];exact q⟩
 | _=>exact (show False from e).elim
theorem aiW (ha:PE X a ta) (he:∀ whole,isTrue a X.env whole=(do let v <- whole;standAt a.pos;holding [v] (truthy v))) :
  PT X a (fun σ H Q=>ta σ H fun x H'=>∃ k,anu X.K x H' k/\Q k H'):=by
 intro pins s σ H Q I h
 exact isTrue_plain (thn (ha pins s σ H _ I h) fun v s1 ⟨x,H1,I1,r1,q1⟩=>anv pins s1 σ H1 x v Q I1 r1 q1) (he _)
theorem vals1 {x:V} {us:List Value} (r:Vals [x] us):∃ u,us=[u]/\RelV x u:=by
 cases r with
 | cons r1 r2=>cases r2;exact⟨_,rfl,r1⟩
theorem vals2 {x y:V} {us:List Value} (r:Vals [x,y] us):∃ u w',us=[u,w']/\RelV x u/\RelV y w':=by
 cases r with
 | cons r1 r2 =>
  cases r2 with
  | cons r3 r4=>cases r4;exact⟨_,_,rfl,r1,r3⟩
theorem aiX:z6 X (.builtin "abs") (fun xs H Q=>∃ i,xs=[.int i]/\Q (.int (if i<0 then -i else i)) H):=by
 intro pins s σ H xs us Q I r h
 obtain⟨i,rfl,q⟩:=h
 obtain⟨u,rfl,t,rfl⟩:=vals1 r
 exact call_abs_int fun u tk=>⟨.int (if i<0 then -i else i),H,I.tok _,⟨_,rfl⟩,q⟩
theorem ahH (hc:X.calm=true):z6 X (.builtin "max") (fun xs H Q=>∃ i j,xs=[.int i,.int j]/\Q (.int (if j > i then j else i)) H):=by
 intro pins s σ H xs us Q I r h
 obtain⟨i,j,rfl,q⟩:=h
 obtain⟨u,w',rfl,⟨t,rfl⟩,⟨t',rfl⟩⟩:=vals2 r
 refine max_two_ints (I.ok.hd hc) fun h' tk k=>⟨_,H,I.kept k,?_,q⟩
 by_cases hj:j > i
 ·rw [if_pos hj,if_pos hj];exact⟨_,rfl⟩
 ·rw [if_neg hj,if_neg hj];exact⟨_,rfl⟩
theorem ahI (hc:X.calm=true):z6 X (.builtin "min") (fun xs H Q=>∃ i j,xs=[.int i,.int j]/\Q (.int (if j<i then j else i)) H):=by
 intro pins s σ H xs us Q I r h
 obtain⟨i,j,rfl,q⟩:=h
 obtain⟨u,w',rfl,⟨t,rfl⟩,⟨t',rfl⟩⟩:=vals2 r
 refine min_two_ints (I.ok.hd hc) fun h' tk k=>⟨_,H,I.kept k,?_,q⟩
 by_cases hj:j<i
 ·rw [if_pos hj,if_pos hj];exact⟨_,rfl⟩
 ·rw [if_neg hj,if_neg hj];exact⟨_,rfl⟩
end
structure ObjM (h:Heap) (x dx C:Addr) (mA:Str->Option Value):Prop where
 obj:h.get? x=some (auh C dx)
 ns:h.Ns1 dx mA
 ne:dx≠x
theorem ahJ {h:Heap} {dx:Addr} {mA:Str->Option Value} (n:h.Ns1 dx mA):∃ od,h.get? dx=some od/\∀ name,aus name od=some (mA name):=by
 obtain⟨o,es,ep,ho,hd,hk,_,hm⟩:=n
 refine⟨o,ho,fun name=>?_⟩
 have e:=hm name
 unfold nsFind findBy at e
 rw [<-Array.find?_toList] at e
 unfold aus
 rw [hd]
 dsimp only
 split
 ·rename_i y q
  rw [q] at e
  exact congrArg some e
 ·rename_i q
  rw [q] at e
  have a:es.toList.any (·.refKey)=false:=by
   rw [atO]
   intro y hy
   obtain⟨z,t,hkey⟩:=hk y (asw.mp hy)
   simp [DictEntry.refKey,hkey]
  have a':¬ es.toList.any (·.refKey)=true:=by rw [a];exact apQ
  rw [if_neg a']
  exact congrArg some e
theorem ObjM.look {h:Heap} {x dx C:Addr} {mA:Str->Option Value} (I:ObjM h x dx C mA):∃ od,PySem.W.InstAt h x (auh C dx) C (some od)/\∀ name,aus name od=some (mA name) :=
 let⟨od,ho,hl⟩:=ahJ I.ns
 ⟨od,⟨I.obj,rfl,rfl,ho⟩,hl⟩
section
variable {prog:Program} {w:World} {A:Around} {E:Value->Shared->Prop} {s:Shared} {K:apT} {x dx C f:Addr} {mA:Str->Option Value} {name:Str} {v:Value}
end
section
variable {P:Program} {w:World} {H H':Hp} {h h':Heap} {a C dx:Addr} {fs fs':List (Str×V)}
theorem alh (hok:HOk P w H h) (e:H a=some (.ins C dx fs)):∃ mA,ObjM h a dx C mA/\(∀ f,ani (fs.lookup f) (mA f))/\PySem.Within mA (fs.map (·.1))/\fs.length<=1000/\H dx=some (.own a):=by
 obtain⟨d,z,ne,ob,mA,n,r,q⟩:=(show ObjOk P w H h a (.ins C dx fs) from hok a _ e)
 exact⟨mA,⟨ob,n,ne⟩,r,q,z,d⟩
end
structure Cls (K:apT) (C:Addr):Prop where
 pg:PySem.W.plainGet K C Str.empty=true
 hd:PySem.W.hasDictIn K C=true
 po:PySem.W.plainOver K C=true
 sa:asb K (.ref C) "__setattr__"=some (some (.builtin "object.__setattr__"))
theorem Cls.get {K:apT} {C:Addr} (c:Cls K C) (f:Str):PySem.W.plainGet K C f=true:=c.pg
structure Con (K:apT) (C:Addr) (f:Str) (v:V) (u:Value):Prop where
 at_:asb K (.ref C) f=some (some u)
 rel:RelV v u
 get:atP K u "__get__"=some none
 cp:PySem.W.copiedNames.contains f=false
structure Meth (K:apT) (C:Addr) (m:Str) (f:Addr):Prop where
 at_:asb K (.ref C) m=some (some (.ref f))
 fn:PySem.W.isFn K (.ref f)=true
 kp:arf K (.ref f)=true
section
variable {X:Cx} {pins:List (Addr×Obj)} {σ:St} {H:Hp} {s:Shared} {a C dx:Addr} {fs:List (Str×V)} {f:Str} {v:V} {A:Around} {E:Value->Shared->Prop}
end
section
variable {X:Cx} {pins:List (Addr×Obj)} {σ:St} {H:Hp} {s:Shared} {A:Around} {E:Value->Shared->Prop} {Q:Value->Shared->Prop} {c:Value} {b:Bool}
inductive TyOf (K:apT) (H:Hp):V->Value->Prop where
 | non:TyOf K H .non (.type "NoneType")
 | bl (x:Bool):TyOf K H (.bl x) (.type "bool")
 | int (i:Int):TyOf K H (.int i) (.type "int")
 | str (x:Str):TyOf K H (.str x) (.type "str")
 | flt (x:UInt64):TyOf K H (.flt x) (.type "float")
 | lst {a:Addr} {xs:List V} (e:H a=some (.lst xs)):TyOf K H (.ref a) (.type "list")
 | frz {a:Addr} {o:Obj} {xs:List V} (e:H a=some (.frz o (.lst xs))):TyOf K H (.ref a) (.type "list")
 | tup {a:Addr} {xs:List V} (e:H a=some (.tup xs)):TyOf K H (.ref a) (.type "tuple")
 | dK {a:Addr} {kvs:List (Key×V)} (e:H a=some (.dK kvs)):TyOf K H (.ref a) (.type "dict")
 | dT {a:Addr} {kvs:List (List Key×V)} (e:H a=some (.dT kvs)):TyOf K H (.ref a) (.type "dict")
 | ins {a C dx:Addr} {fs:List (Str×V)} (e:H a=some (.ins C dx fs)) (cl:Cls K C) (ha:asb K (.ref C) "__class__"=some (some (.builtin "object.__class__")))
   (hn:atP K (.builtin "object.__class__") "__get__"=some (some (.builtin "getset_descriptor.__get__"))) (htk:PySem.W.takesIn K (.builtin "object.__class__")=some true)
   (hm:PySem.W.mroIn K C (.type "object")=some true):TyOf K H (.ref a) (.ref C)
theorem ahK {x:V} {u t:Value} (I:Inv X pins σ H s) (rx:RelV x u) (ty:TyOf X.K H x t) (e:ary X.K t c=some b) (h:∀ tk,Q (.bool b) { s with toks:=tk }) :
  wpAny (model X.prog X.w) A (call (.builtin "isinstance") [u,c]) Q E s:=by
 cases ty with
 | non=>cases (show u=Value.none from rx);exact aqU PySem.W.kitx_none I.kIn True.intro e (fun z=>nomatch z) h
 | bl y=>cases (show u=Value.bool y from rx);exact aqU PySem.W.kitx_bool I.kIn True.intro e (fun z=>nomatch z) h
 | int i=>obtain⟨t,q⟩:=(show ∃ t,u=Value.int i t from rx);cases q;exact aqU PySem.W.kitx_int I.kIn True.intro e (fun z=>nomatch z) h
 | str y=>obtain⟨t,q⟩:=(show ∃ t,u=Value.str y t from rx);cases q;exact aqU PySem.W.kitx_str I.kIn True.intro e (fun z=>nomatch z) h
 | flt y=>obtain⟨t,q⟩:=(show ∃ t,u=Value.float y t from rx);cases q;exact aqU PySem.W.kitx_float I.kIn True.intro e (fun z=>nomatch z) h
 | @lst a xs ea =>
  cases (show u=Value.ref a from rx)
  obtain⟨_,_,n,_,h1⟩:=(show ObjOk X.prog X.w H s.heap a (.lst xs) from I.hok a _ ea)
  exact aqU atQ I.kIn ⟨_,h1,rfl⟩ e (fun z=>nomatch z) h
 | @frz a ob xs ea =>
  cases (show u=Value.ref a from rx)
  obtain⟨_,_,_,n,_,h1⟩:=(show ObjOk X.prog X.w H s.heap a (.frz ob (.lst xs)) from I.hok a _ ea)
  exact aqU atQ I.kIn ⟨_,h1,rfl⟩ e (fun z=>nomatch z) h
 | @tup a xs ea =>
  cases (show u=Value.ref a from rx)
  obtain⟨_,_,_,p⟩:=(show ObjOk X.prog X.w H s.heap a (.tup xs) from I.hok a _ ea)
  obtain⟨o,h1,h2,_⟩:=p
  exact aqU PySem.W.kitx_tuple I.kIn ⟨o,h1,h2⟩ e (fun z=>nomatch z) h
 | @dK a kvs ea =>
  cases (show u=Value.ref a from rx)
  obtain⟨_,_,vs,_,p⟩:=(show ObjOk X.prog X.w H s.heap a (.dK kvs) from I.hok a _ ea)
  obtain⟨o,es,ep,h1,h2,_⟩:=p
  exact aqU PySem.W.kitx_dict I.kIn ⟨o,h1,h2.1⟩ e (fun z=>nomatch z) h
 | @dT a kvs ea =>
  cases (show u=Value.ref a from rx)
  obtain⟨_,_,xs,_,o,es,ep,h1,h2,_⟩:=(show ObjOk X.prog X.w H s.heap a (.dT kvs) from I.hok a _ ea)
  exact aqU PySem.W.kitx_dict I.kIn ⟨o,h1,h2.1⟩ e (fun z=>nomatch z) h
 | @ins a C dx fs ea cl ha hn htk hm =>
  cases (show u=Value.ref a from rx)
  obtain⟨mA,O,_⟩:=alh I.hok ea
  obtain⟨od,J,_⟩:=O.look
  exact aqU (PySem.W.kitx_own (cl.get _) cl.hd ha hn htk hm) I.kIn J e (fun z=>nomatch z) h
end
structure Room (k:Nat) (A:Around):Prop where
 hd:A.handled=none
 dp:A.depth+3 * k+5<recursionLimit
 un:A.units+16 * k+200<cLine
theorem Room.mono {j k:Nat} {A:Around} (r:Room k A) (h:j<=k):Room j A:=⟨r.hd,by have:=r.dp;omega,by have:=r.un;omega⟩
theorem Room.deeper {k:Nat} {A:Around} (r:Room (k+1) A) (env:Env):Room k (A.deeper env) :=
 ⟨r.hd,by have:=r.dp;show A.depth+1+3 * k+5<_;omega,by have:=r.un;show A.units+3+16 * k+200<_;omega⟩
theorem Room.depth {k:Nat} {A:Around} (r:Room k A):A.depth<recursionLimit:=by have:=r.dp;omega
theorem Room.units {k:Nat} {A:Around} (r:Room k A):A.units+64<cLine:=by have:=r.un;omega
def yQ:TA:=fun _ H Q=>Q [] H
def zV (ta:TE) (tr:TA):TA:=fun σ H Q=>ta σ H fun x H1=>tr σ H1 fun xs H2=>Q (x :: xs) H2
section
variable {X:Cx} {e:Expr} {es:List Expr} {te:TE} {t:TA} {pos:Pos}
theorem zh:PA X [] yQ:=fun _ _ _ _ H Q I h=>Calls.spliced_nil ⟨[],H,I,.nil,h⟩
theorem zc (ha:PE X e te) (hr:PA X es t) (hs:starEach (e :: es) X.env=(false,eval e X.env) :: starEach es X.env:=by rfl):PA X (e :: es) (zV te t):=by
 intro pos pins s σ H Q I h
 rw [hs]
 show wpAny _ _ (spliced ((false,eval e X.env) :: backTo pos (starEach es X.env))) _ _ s
 refine Calls.spliced_cons (thn (ha pins s σ H _ I h) fun u s1 ⟨x,H1,I1,r1,q1⟩=>?_)
 exact thn (hr pos pins s1 σ H1 _ I1 q1) fun us s2 ⟨xs,H2,I2,r2,q2⟩=>⟨x :: xs,H2,I2,.cons r1 r2,q2⟩
def aoW (t:TA):TE:=fun σ H Q=>t σ H fun xs H1=>xs.length<=sizeLine/\∀ p,H1 p=none->Q (.ref p) (upd H1 p (.tup xs))
def aiY (t:TA):TE:=fun σ H Q=>t σ H fun xs H1=>xs.length<=sizeLine/\∀ p,H1 p=none->Q (.ref p) (upd H1 p (.lst xs))
theorem z9 {x1} (h:PA X es t):PE X (.Tuple es x1 pos) (aoW t):=by
 intro pins s σ H Q I hq
 refine wpAny_Tuple_spliced (thn (h pos pins s σ H _ I hq) fun us s1 ⟨xs,H1,I1,r,z,q⟩=>⟨by rw [<-r.length];exact z,?_⟩)
 have hf:H1 s1.heap.objs.size=none:=I1.hok.fresh (apY _)
 refine⟨.ref s1.heap.objs.size,upd H1 s1.heap.objs.size (.tup xs),I1.laid (t':=s1.toks) (fun b u e=>apV _ e) (apY _) ?_,rfl,q _ hf⟩
 exact⟨z,us,r,⟨_,ap7 _ rfl,rfl,_,rfl⟩⟩
theorem yR (h:PA X es t):PE X (.List es pos) (aiY t):=by
 intro pins s σ H Q I hq
 refine wpAny_List_spliced (thn (h pos pins s σ H _ I hq) fun us s1 ⟨xs,H1,I1,r,z,q⟩=>⟨by rw [<-r.length];exact z,?_⟩)
 have hf:H1 s1.heap.objs.size=none:=I1.hok.fresh (apY _)
 refine⟨.ref s1.heap.objs.size,upd H1 s1.heap.objs.size (.lst xs),I1.laid (t':=s1.toks) (fun b u e=>apV _ e) (apY _) ?_,rfl,q _ hf⟩
 exact⟨z,us,0,r,ap7 _ rfl⟩
end
abbrev Sp:=List V->Hp->VK->XK->Prop
abbrev CXT:=List Env->Hp->Shared->XK->Value->Shared->Prop
structure Env0 (P:Program) (w:World) (K:apT) (mg:Str->Option Value) (base:Heap) (A:Around) (outer:List Env) (s:Shared) (H:Hp):Prop where
 frames:A.frames=some outer
 mod:Mod K mg base
 bs:∀ b o,base.get? b=some o->s.heap.get? b=some o/\H b=none
 bsz:base.objs.size<=s.heap.objs.size
 funs:s.heap.FunFrames base outer
 frf:∀ b∈frs outer,H b=none
 hok:HOk P w H s.heap
 bare:AllBare s.gens
def CE (outer:List Env) (P:Program) (w:World) (H:Hp) (s:Shared) (Q:VK) (u:Value) (s':Shared):Prop :=
 ∃ v H',s'.os=s.os/\AllBare s'.gens/\Un (frs outer) [] H H' s.heap s'.heap/\HOk P w H' s'.heap/\RelV v u/\Q v H'
def CR (CX:CXT) (outer:List Env) (P:Program) (w:World) (H:Hp) (s:Shared) (Q:VK) (E:XK) (r:Result) (s':Shared):Prop :=
 match r with
 | .ok (.ret u)=>CE outer P w H s Q u s'
 | .ok _=>False
 | .error e=>CX outer H s E e s'
structure FnOk (P:Program) (w:World) (K:apT) (mg:Str->Option Value) (base:Heap) (CX:CXT) (k:Nat) (f:Addr) (fd:FuncData) (ps:List Str) (sp:Sp):Prop where
 len:∀ vs H Q E,sp vs H Q E->vs.length=ps.length
 run:∀ (A:Around) (outer:List Env) (s:Shared) (H:Hp) (args:Args) (us:List Value) (vs:List V) (Q:VK) (E:XK),Room k A->Env0 P w K mg base A outer s H->BindsTo s fd args (ps.zip us)->Vals vs us->sp vs H Q E ->
  codeAny (model P w) A (.call (.ref f) args) (CR CX outer P w H s Q E) s
theorem FnOk.mono {P:Program} {w:World} {K:apT} {mg:Str->Option Value} {base:Heap} {CX:CXT} {j k:Nat} {f:Addr} {fd:FuncData} {ps:List Str} {sp:Sp} (F:FnOk P w K mg base CX j f fd ps sp) (h:j<=k) :
  FnOk P w K mg base CX k f fd ps sp:=⟨F.len,fun A outer s H args us vs Q E hr=>F.run A outer s H args us vs Q E (hr.mono h)⟩
section
variable {X:Cx} {pins:List (Addr×Obj)} {σ:St} {H:Hp} {s s':Shared}
theorem Inv.env0 (I:Inv X pins σ H s):Env0 X.prog X.w X.K X.mg X.base X.A X.stack s H :=
 ⟨I.ok.frames,I.ok.mod,I.bs,aqn I.ok.bsz I.sz,I.stack,I.stkFree,I.hok,I.bare⟩
theorem Inv.after {Q:VK} {u:Value} (I:Inv X pins σ H s) (h:CE X.stack X.prog X.w H s Q u s'):EP X pins σ Q u s':=by
 obtain⟨v,H',os,bare,un,hok,r,q⟩:=h
 obtain⟨hh,g,d,t,os'⟩:=s'
 obtain rfl:os'=s.os:=os
 exact⟨v,H',I.call (h':=hh) (g':=g) (d':=d) (t':=t) (ch:=[]) un hok bare (fun b z=>absurd z (by simp)),r,q⟩
end
def vW (sp:Sp) (dvs:List V) (E:XK) (t:TA):TE:=fun σ H Q=>t σ H fun vs H1=>sp (vs++dvs) H1 Q E
def Binds (K:apT) (fd:FuncData) (ps:List Str) (ds:List Value):Prop :=
 ∀ (s:Shared) (us:List Value),K.In s.heap->(us++ds).length=ps.length->BindsTo s fd ⟨us,[]⟩ (ps.zip (us++ds))
theorem Binds.all {K:apT} {fd:FuncData} {ps:List Str} (h:∀ us:List Value,us.length=ps.length->bindArgs fd ⟨us,[]⟩=pure (ps.zip us)):Binds K fd ps []:=fun s us _ hl=>by
 rw [aqG] at hl ⊢
 exact .of_eq (h us hl)
def Passes (CX:CXT) (X:Cx) (E:XK):Prop:=∀ (pins:List (Addr×Obj)) (σ:St) (H:Hp) (s:Shared) (e:Value) (s':Shared),Inv X pins σ H s->CX X.stack H s E e s'->X.xe e s'
section
variable {X:Cx} {CX:CXT} {k:Nat} {f C:Addr} {fd:FuncData} {ps:List Str} {sp:Sp} {dvs:List V} {ds:List Value} {E:XK} {x m:Str} {p pos apos:Pos} {e o:Expr} {es:List Expr} {ta:TE} {t:TA}
theorem anw {pins:List (Addr×Obj)} {σ:St} {H:Hp} {s:Shared} {Q:VK} {us:List Value} {vs:List V} (F:FnOk X.prog X.w X.K X.mg X.base CX k f fd ps sp) (hr:Room k X.A) (hb:Binds X.K fd ps ds) (hd:Vals dvs ds) (hx:Passes CX X E)
  (I:Inv X pins σ H s) (r:Vals vs us) (h:sp (vs++dvs) H Q E):wpAny (model X.prog X.w) X.A (call (.ref f) us) (EP X pins σ Q) X.xe s:=by
 have r2:Vals (vs++dvs) (us++ds):=r.append hd
 have hl:(us++ds).length=ps.length:=by rw [<-r2.length];exact F.len _ _ _ _ h
 refine wpAny_call (codeAny_mono (F.run X.A X.stack s H ⟨us,[]⟩ (us++ds) (vs++dvs) Q E hr I.env0 (hb s us I.kIn hl) r2 h) fun r s' hq=>?_)
 cases r with
 | error e=>exact hx pins σ H s e s' I hq
 | ok fl =>
  cases fl with
  | ret u=>exact I.after hq
  | next=>exact asj hq
  | brk=>exact asj hq
  | cont=>exact asj hq
theorem ali (F:FnOk X.prog X.w X.K X.mg X.base CX k f fd ps sp) (hr:Room k X.A) (hg:Gl X x) (hm:X.mg x=some (.ref f)) (hk:arf X.K (.ref f)=true) (hb:Binds X.K fd ps ds) (hd:Vals dvs ds) (hx:Passes CX X E)
  (ha:PA X (e :: es) t) (hdb:(x == ("__debug__":Str))=false:=by decide) (he:starEach (e :: es) X.env=(false,eval e X.env) :: starEach es X.env:=by rfl) (hpl:(backTo pos (starEach es X.env)).any (·.1)=false:=by rfl) :
  PE X (.Call (.Name x p) (e :: es) [] pos) (vW sp dvs E t):=by
 intro pins s σ H Q I h
 refine wpAny_Call_Name_kw (ac7 I hg hm ?_ hdb)
 refine PySem.W.callWith_K (h₀:=X.base) I.ok.mod.kin hk (thn (ha pos pins s σ H _ I h) fun us s1 ⟨vs,H1,I1,r,q⟩=>⟨I1.kIn,?_⟩) he hpl
 exact anw F hr hb hd hx I1 r q
structure Mk (K:apT) (C f:Addr):Prop where
 makes:PySem.W.makesIn K C=true
 init:asb K (.ref C) "__init__"=some (some (.ref f))
 fn:PySem.W.isFn K (.ref f)=true
 kp:arf K (.ref C)=true
end
section
variable {X:Cx} {CX:CXT} {k:Nat} {f C:Addr} {fd:FuncData} {ps ks:List Str} {sp:Sp} {E:XK} {x m:Str} {p pos apos kpos:Pos} {e o:Expr} {es:List Expr} {kws:List Keyword} {te ta:TE} {t tk:TA} {nm:Option Str}
structure KBinds (K:apT) (fd:FuncData) (ps ks:List Str) (g:List Value->List Value->List Value) (gV:List V->List V->List V):Prop where
 to:∀ (s:Shared) (us ws:List Value),K.In s.heap->(g us ws).length=ps.length->BindsTo s fd ⟨us,ks.zip ws⟩ (ps.zip (g us ws))
 rel:∀ {vs:List V} {us:List Value} {zs:List V} {ws:List Value},Vals vs us->Vals zs ws->Vals (gV vs zs) (g us ws)
variable {g:List Value->List Value->List Value} {gV:List V->List V->List V}
end
structure FnScope (N P:List Str) (sc:Scope):Prop where
 kind:sc.kind=.function
 co:sc.isCoroutine=false
 gen:sc.isGenerator=false
 nd:N.Nodup
 pre:N.take P.length=P
 par:∀ x∈P,sc.names.lookup x=some .local \/ sc.names.lookup x=some .cell
 nofree:∀ y∈sc.names,y.2≠.free
theorem acw {kindOf:Str->Option NameKind} {x:Str}:∀ {binds:List (Str×Value)} {m:Str->Option Value},(∀ v,(x,v)∉binds)->bindL kindOf binds m x=m x
 | [],_,_=>rfl
 | (n,v) :: r,m,h=>by
  unfold bindL
  rw [acw fun w hw=>h w (apW _ hw)]
  split
  ·have:x≠n:=by rintro rfl;exact h v apX
   simp [this]
  ·rfl
theorem acx {kindOf:Str->Option NameKind} {x:Str}:∀ {binds:List (Str×Value)} {m:Str->Option Value},(∀ v,(x,v)∉binds)->bindC kindOf binds m x=m x
 | [],_,_=>rfl
 | (n,v) :: r,m,h=>by
  unfold bindC
  rw [acx fun w hw=>h w (apW _ hw)]
  split
  ·rfl
  ·have:x≠n:=by rintro rfl;exact h v apX
   simp [this]
theorem acy {kindOf:Str->Option NameKind} {x:Str} {v:Value}:∀ {P:List Str} {vs:List Value} {i:Nat} {m:Str->Option Value},P.Nodup->P[i]?=some x->vs[i]?=some v->kindOf x=some .local ->
  bindL kindOf (P.zip vs) m x=some v
 | [],_,_,_,_,h,_,_=>by simp at h
 | _ :: _,[],_,_,_,_,h,_=>by simp at h
 | p :: P,w :: vs,0,m,nd,h1,h2,hk=>by
  simp at h1 h2;subst h1;subst h2
  show bindL kindOf ((p,w) :: P.zip vs) m p=_
  unfold bindL
  rw [acw fun v hv=>(aqO.mp nd).1 (atj hv).1,if_pos hk]
  simp
 | p :: P,w :: vs,i+1,m,nd,h1,h2,hk=>by
  show bindL kindOf ((p,w) :: P.zip vs) m x=_
  unfold bindL
  exact acy (i:=i) (aqO.mp nd).2 (by simpa using h1) (by simpa using h2) hk
theorem acz {kindOf:Str->Option NameKind} {x:Str} {v:Value}:∀ {P:List Str} {vs:List Value} {i:Nat} {m:Str->Option Value},P.Nodup->P[i]?=some x->vs[i]?=some v->kindOf x≠some .local ->
  bindC kindOf (P.zip vs) m x=some v
 | [],_,_,_,_,h,_,_=>by simp at h
 | _ :: _,[],_,_,_,_,h,_=>by simp at h
 | p :: P,w :: vs,0,m,nd,h1,h2,hk=>by
  simp at h1 h2;subst h1;subst h2
  show bindC kindOf ((p,w) :: P.zip vs) m p=_
  unfold bindC
  rw [acx fun v hv=>(aqO.mp nd).1 (atj hv).1,if_neg hk]
  simp
 | p :: P,w :: vs,i+1,m,nd,h1,h2,hk=>by
  show bindC kindOf ((p,w) :: P.zip vs) m x=_
  unfold bindC
  exact acz (i:=i) (aqO.mp nd).2 (by simpa using h1) (by simpa using h2) hk
def start (N:List Str) (vs:List V):St:=vs.map some++asd (N.length - vs.length) none
def yj (CX:CXT) (P:Program) (w:World) (K:apT) (mg:Str->Option Value) (base:Heap) (N:List Str) (qual:Str) (scope:Scope) (f:Addr) (cd:Value) (A:Around) (outer:List Env) (s:Shared) (H:Hp) (E:XK):Cx where
 prog:=P
 w:=w
 K:=K
 mg:=mg
 base:=base
 A:=A.deeper (envOfC qual scope s.heap.objs.size f cd)
 N:=N
 s₀:=s
 H₀:=H
 env:=envOfC qual scope s.heap.objs.size f cd
 outer:=outer
 stack:=envOfC qual scope s.heap.objs.size f cd :: outer
 ex:=[]
 calm:=true
 fn:=fun _=>true
 pn:=[]
 xe:=fun e s'=>wpAny (model P w) (A.deeper (envOfC qual scope s.heap.objs.size f cd)) (leaving (envOfC qual scope s.heap.objs.size f cd) e) (fun _ s''=>CX outer H s E e s'') (fun e' s''=>CX outer H s E e' s'') s'
theorem aei {sc:Scope} {n:Nat} {x:Str} (h:sc.names.lookup x=some .cell):∃ c,(cellsFrom n sc.names []).lookup x=some c:=by
 have q:=asl sc.names n [] (.inl h)
 exact asJ.mp q
theorem ahL {CX:CXT} {P:Program} {w:World} {K:apT} {mg:Str->Option Value} {base:Heap} {N ps:List Str} {qual:Str} {scope:Scope} {f:Addr} {cd:Value} {A:Around} {outer:List Env} {s s1:Shared} {H:Hp} {E:XK} {us:List Value} {vs:List V}
  (S:FnScope N ps scope) (hd:A.handled=none) (e0:Env0 P w K mg base A outer s H) (hl:vs.length=ps.length) (r:Vals vs us)
  (x:InCallC s s.heap.objs.size (bindL (envOfC qual scope s.heap.objs.size f cd).kindOf (ps.zip us) fun _=>none) (cellsFrom (s.heap.objs.size+1) scope.names []) (bindC (envOfC qual scope s.heap.objs.size f cd).kindOf (ps.zip us) fun _=>none) s1) :
  Inv (yj CX P w K mg base N qual scope f cd A outer s H E) [] (start N vs) H s1:=by
 have hpl:ps.length<=N.length:=by have:=congrArg auN S.pre;rw [aqD] at this;omega
 obtain⟨h1,tk,rfl,hk⟩:=x.done
 have noA:∀ b:Addr,b∉(yj CX P w K mg base N qual scope f cd A outer s H E).ex:=fun b z=>absurd (show b∈([]:List Addr) from z) (by simp)
 refine⟨⟨e0.mod,S.kind,rfl,rfl,apY _,fun y z c h1 h2=>?_,fun y hy=>?_,fun y c _ h=>?_,fun _=>hd,Around.frames_deeper e0.frames,.inr ⟨rfl,rfl⟩,fun b z=>absurd z (noA b),e0.bs,e0.bsz,fun b _ _=>noA b,fun b z=>absurd z (noA b),e0.funs,e0.frf⟩,
  rfl,e0.bare,Un.kept hk,⟨_,x.toInCall.ns,fun i y v h1 h2 h3=>?_⟩,fun y c h=>⟨_,x.cell y c h⟩,e0.hok.fresh (apY _),fun y c h=>?_,fun p hp=>absurd (show p∈([]:List (Addr×Obj)) from hp) (by simp),e0.hok.kept hk,?_⟩
 ·exact name_of_addr x.apart (asa h1) (asa h2)
 ·have hy:scope.names.lookup y=some .cell \/ scope.names.lookup y=some .free:=hy
  rcases hy with hy | hy
  ·exact aei hy
  ·exact absurd rfl (S.nofree _ (asa hy))
 ·exact arv (x.above y c (asa h))
 ·have hi:i<vs.length:=by
   unfold start at h2
   by_cases hi:i<vs.length
   ·exact hi
   ·rw [ap2 (by simpa using hi)] at h2
    rw [ase] at h2
    split at h2 <;> cases h2
  have ha:vs[i]?=some v:=by
   unfold start at h2
   rw [ap1 (by simpa using hi),apU] at h2
   cases e:vs[i]? with
   | none=>rw [e] at h2;cases h2
   | some a=>rw [e] at h2;cases h2;rfl
  obtain⟨u,hu,rv⟩:=r.get ha
  have hp:ps[i]?=some y:=by
   rw [<-S.pre,asK (by omega)];exact h1
  have ndP:ps.Nodup:=by rw [<-S.pre];exact S.nd.sublist (asU _ _)
  refine⟨u,rv,?_⟩
  rcases S.par y (apZ hp) with k | k
  ·exact .inl ⟨k,acy ndP hp hu k⟩
  ·obtain⟨c,e⟩:=aei (n:=s.heap.objs.size+1) k
   refine .inr ⟨.inl k,c,e,?_⟩
   have q:=x.cell y c e
   rw [acz ndP hp hu (by show scope.names.lookup y≠_;rw [k];decide)] at q
   exact q
 ·exact e0.hok.fresh (arv (x.above y c (asa h)))
 ·unfold start
  show _=N.length
  rw [aqa,apP,as5]
  omega
theorem aoX {CX:CXT} {P:Program} {w:World} {K:apT} {mg:Str->Option Value} {base:Heap} {k:Nat} {f:Addr} {name qual:Str} {params:Arguments} {body:List Stmt} {scope:Scope} {dV kV doc pm cdv ct oc:Value} {an od:Option Addr}
  {osl:Array (Option Value)} {N ps:List Str} {sp:Sp} (lk:K.lookup f=some ⟨oc,od,.func (arp name qual params body scope dV kV doc pm an cdv ct),osl⟩) (hcd:atx K cdv qual=true) (S:FnScope N ps scope)
  (len:∀ vs H Q E,sp vs H Q E->vs.length=ps.length)
  (hbody:∀ (A:Around) (outer:List Env) (s:Shared) (H:Hp) (vs:List V) (Q:VK) (E:XK),Room k (A.deeper (envOfC qual scope s.heap.objs.size f cdv))->sp vs H Q E ->
   ∃ t,PSs (yj CX P w K mg base N qual scope f cdv A outer s H E) body t/\t { nx:=fun _ H'=>Q .non H',rt:=Q } (start N vs) H) :
  FnOk P w K mg base CX (k+1) f (arp name qual params body scope dV kV doc pm an cdv ct) ps sp:=by
 refine⟨len,fun A outer s H args us vs Q E hr e0 hb r hsp=>?_⟩
 have hl:=len _ _ _ _ hsp
 have KX:K.In s.heap:=e0.mod.kin.keeps fun b o e=>(e0.bs b o e).1
 have lim:s.heap.NoLimit:=e0.mod.nolimit.keeps fun b o e=>(e0.bs b o e).1
 have hkind:∀ y∈ps.zip us,scope.names.lookup y.1=some .local \/ (scope.names.lookup y.1=some .cell/\((cellsFrom (s.heap.objs.size+1) scope.names []).lookup y.1).isSome=true):=fun⟨n,v⟩ hy=>by
  rcases S.par n (atj hy).1 with q | q
  ·exact .inl q
  ·exact .inr ⟨q,asl _ _ _ (.inl q)⟩
 refine codeAny_call_function hr.depth (KX _ _ lk) rfl S.co S.gen rfl (PySem.W.codeRec_of KX hcd) (hb _ _ _ _ ?_)
 refine wpAny_newFunctionEnv_cells S.kind hkind fun env he s1 x=>?_
 subst he
 refine⟨lim.keeps x.toInCall.keep,codeAny_func ?_⟩
 obtain⟨t,ht,hq⟩:=hbody A outer s H vs Q E (hr.deeper _) hsp
 have I:Inv (yj CX P w K mg base N qual scope f cdv A outer s H E) [] (start N vs) H s1:=ahL S hr.hd e0 hl r x
 refine wpAny_mono (ht [] s1 (start N vs) H _ I hq) (fun fl s' hs=>?_) fun e s' hs=>hs
 have fin:∀ {σ':St} {H':Hp} {v:V} {u:Value},Inv (yj CX P w K mg base N qual scope f cdv A outer s H E) [] σ' H' s'->RelV v u->Q v H'->CE outer P w H s Q u s' :=
  fun {σ' H' v u} J rv q=>⟨v,H',J.os,J.bare,J.base,J.hok,rv,q⟩
 cases fl with
 | ret u =>
  obtain⟨v,σ',H',J,rv,q⟩:=hs
  exact fin J rv q
 | next =>
  obtain⟨σ',H',J,q⟩:=hs
  exact fin (v:=V.non) (u:=Value.none) J rfl q
 | brk =>
  obtain⟨_,_,_,q⟩:=hs
  exact asj q
 | cont =>
  obtain⟨_,_,_,q⟩:=hs
  exact asj q
section
variable {X:Cx} {x:Str} {p pos:Pos} {e:Expr} {es:List Expr} {t:TA} {id T:String} {r:List V->Hp->VK->Prop}
def tCB (r:List V->Hp->VK->Prop) (t:TA):TE:=fun σ H Q=>t σ H fun vs H1=>r vs H1 Q
theorem zy (hc:z6 X (.builtin id) r) (hg:Gl X x) (hm:X.mg x=none) (hv:bootBuiltins x=some (.builtin id)) (ha:PA X (e :: es) t) (hn:x ≠ "__name__":=by decide) (hdb:(x == ("__debug__":Str))=false:=by decide)
  (he:starEach (e :: es) X.env=(false,eval e X.env) :: starEach es X.env:=by rfl) (hpl:(backTo pos (starEach es X.env)).any (·.1)=false:=by rfl):PE X (.Call (.Name x p) (e :: es) [] pos) (tCB r t):=by
 intro pins s σ H Q I h
 refine wpAny_Call_Name_kw (qT I hg hm hv ?_ hn hdb)
 exact PyProof.Rows.callWith_builtin1 (thn (ha pos pins s σ H _ I h) fun us s1 ⟨vs,H1,I1,r1,q1⟩=>hc pins s1 σ H1 vs us Q I1 r1 q1) he hpl
theorem ql (hc:z6 X (.type T) r) (hg:Gl X x) (hm:X.mg x=none) (hv:bootBuiltins x=some (.type T)) (ha:PA X (e :: es) t) (hn:x ≠ "__name__":=by decide) (hdb:(x == ("__debug__":Str))=false:=by decide)
  (he:starEach (e :: es) X.env=(false,eval e X.env) :: starEach es X.env:=by rfl) (hpl:(backTo pos (starEach es X.env)).any (·.1)=false:=by rfl):PE X (.Call (.Name x p) (e :: es) [] pos) (tCB r t):=by
 intro pins s σ H Q I h
 refine wpAny_Call_Name_kw (qT I hg hm hv ?_ hn hdb)
 exact art (thn (ha pos pins s σ H _ I h) fun us s1 ⟨vs,H1,I1,r1,q1⟩=>hc pins s1 σ H1 vs us Q I1 r1 q1) he hpl
theorem afr (hc:z6 X (.type T) r) (hg:Gl X x) (hm:X.mg x=none) (hv:bootBuiltins x=some (.type T)) (hn:x ≠ "__name__":=by decide) (hdb:(x == ("__debug__":Str))=false:=by decide) :
  PE X (.Call (.Name x p) [] [] pos) (tCB r yQ):=by
 intro pins s σ H Q I h
 refine wpAny_Call_Name_kw (qT I hg hm hv ?_ hn hdb)
 exact PyProof.Rows.callWith_type0 (hc pins s σ H [] [] Q I .nil h)
end
end L2
namespace HT
open PySem PyProof.Rows
theorem rcLt_int (A:Around) (s:Shared) (a:Int) (t:Tok) (c:Int) (u:Tok) (prog:Program) (w:World) (E:Value->Shared->Prop) (Q:Value->Shared->Prop) (h:Q (.bool (decide (a<c))) s) :
  wpAny (model prog w) A (richCompare .Lt (.int a t) (.int c u)) Q E s :=
 (PyProof.Rows.lt_int h:wpAny (model prog w) A (compareOp .Lt (.int a t) (.int c u)) Q E s)
section
open PySem.SeqAt
open PySem.AutoSeq1 (wpAny_loadPart')
open PySem.MeetsSeq PySem.MeetsSeq2 PySem.MeetsSeq3
end
section
variable {prog:Program} {w:World} {A:Around} {E:Value->Shared->Prop} {s:Shared}
def sIx (n d:Nat):Option Int->Nat
 | none=>d
 | some v=>if v<0 then (v+(n:Int)).toNat else min v.toNat n
theorem anx (n d:Nat) (hd:d<=n) (o:Option Int):sIx n d o<=n:=by
 cases o with
 | none=>exact hd
 | some v =>
  show (if v<0 then (v+(n:Int)).toNat else min v.toNat n)<=n
  by_cases hv:v<0
  ·rw [if_pos hv];omega
  ·rw [if_neg hv];exact at4 _ _
theorem agt (v:Int) (n d:Nat):(if v<0 then max (v+(n:Int)) 0 else min v (n:Int))=((sIx n d (some v):Nat):Int):=by
 show (if v<0 then max (v+(n:Int)) 0 else min v (n:Int))=(((if v<0 then (v+(n:Int)).toNat else min v.toNat n):Nat):Int)
 by_cases hv:v<0
 ·simp only [if_pos hv];omega
 ·simp only [if_neg hv];omega
theorem afs (lo hi:Option Int) (n:Nat):asE lo hi 1 (n:Int)=(((sIx n 0 lo:Nat):Int),((sIx n n hi:Nat):Int)):=by
 have h1:¬ ((1:Int)<0):=by omega
 unfold asE
 simp only [h1,if_false]
 refine Prod.ext ?_ ?_
 ·cases lo with
  | none=>rfl
  | some v=>exact agt v n 0
 ·cases hi with
  | none=>rfl
  | some v=>exact agt v n n
theorem aft (i j:Nat):arX (i:Int) (j:Int) 1=j - i:=by
 unfold arX
 have h1:(1:Int) > 0:=by omega
 simp only [h1,if_true,Int.ediv_one]
 split <;> omega
theorem abg {v:Value} {o:Option Int} {Q:Option Int->Shared->Prop} (p:IsPart v o) (h:Q o s):wpAny (model prog w) A (Builtin.Slice.slicePartIndex v) Q E s:=by
 cases p with
 | none=>exact slicePart_none h
 | int i t=>exact slicePart_int h
theorem aak {sl:Addr} {vl vu:Value} {lo hi:Option Int} {n:Nat} {Q:Int×Int×Nat->Shared->Prop} (hs:s.heap.IsSliceOf sl vl vu .none) (pl:IsPart vl lo) (pu:IsPart vu hi)
  (h:Q (((sIx n 0 lo:Nat):Int),1,sIx n n hi - sIx n 0 lo) s):wpAny (model prog w) A (aty (.ref sl) (pure (n:Int))) Q E s:=by
 obtain⟨os,hos,hcs,hds⟩:=id hs
 unfold aty Builtin.Slice.sliceFields
 refine wpAny_bind (wpAny_bind (wpAny_field hos hds (x:=vl) rfl (wpAny_bind (wpAny_field hos hds (x:=vu) rfl (wpAny_bind (wpAny_field hos hds (x:=.none) rfl (wpAny_pure ?_)))))))
 refine wpAny_bind (slicePart_none ?_)
 show wpAny _ _ (if ((1:Int) == 0)=true then _ else _) _ _ s
 rw [if_neg (by decide)]
 refine wpAny_bind (abg pl (wpAny_bind (abg pu (wpAny_bind (wpAny_pure ?_)))))
 show wpAny _ _ (match asE lo hi 1 (n:Int) with | (lo,hi)=>pure (lo,(1:Int),arX lo hi 1)) _ _ s
 rw [afs lo hi n]
 show wpAny _ _ (pure (((sIx n 0 lo:Nat):Int),(1:Int),arX ((sIx n 0 lo:Nat):Int) ((sIx n n hi:Nat):Int) 1)) _ _ s
 rw [aft]
 exact wpAny_pure h
theorem aiZ (xs:Array Value) (i k:Nat):((aqb k).filterMap fun (m:Nat)=>xs[((i:Int)+(m:Int) * 1).toNat]?).toArray=((xs.toList.drop i).take k).toArray:=by
 have e:(fun (m:Nat)=>xs[((i:Int)+(m:Int) * 1).toNat]?)=fun m=>xs[i+m]?:=by
  funext m
  have:((i:Int)+(m:Int) * 1).toNat=i+m:=by omega
  rw [this]
 rw [e]
 have:=pick_run xs i k
 rw [List.filterMap_map] at this
 have e2:((fun x=>xs[x]?) ∘ fun x=>i+x)=fun m=>xs[i+m]?:=rfl
 rw [e2] at this
 rw [this]
theorem getItem_tuple_cut {t sl:Addr} {items:Array Value} {vl vu:Value} {lo hi:Option Int} {Q:Value->Shared->Prop} (ht:IsTup s.heap t items) (hs:s.heap.IsSliceOf sl vl vu .none) (pl:IsPart vl lo) (pu:IsPart vu hi)
  (hw:¬ (sIx items.size 0 lo=0/\sIx items.size items.size hi=items.size))
  (h:Q (.ref s.heap.objs.size) { s with heap:=s.heap.push { cls:=.type "tuple",data:=.seq ((items.toList.drop (sIx items.size 0 lo)).take (sIx items.size items.size hi - sIx items.size 0 lo)).toArray } })
  (hsz:items.size<=sizeLine):wpAny (model prog w) A (getItem (.ref t) (.ref sl)) Q E s:=by
 have htake:sizeOk (.seq ((items.toList.drop (sIx items.size 0 lo)).take (sIx items.size items.size hi - sIx items.size 0 lo)).toArray):=by
  show ((items.toList.drop (sIx items.size 0 lo)).take (sIx items.size items.size hi - sIx items.size 0 lo)).toArray.size<=sizeLine
  rw [ap9,aqD,asC,ap4]
  omega
 have hj:sIx items.size items.size hi<=items.size:=anx _ _ (apY _) hi
 obtain⟨os,hos,hcs,hds⟩:=id hs
 have hTs:s.TypeIs (.ref sl) "slice":=⟨os,hos,hcs⟩
 unfold getItem
 try with_reducible refine wpAny_holding ?_
 first | refine wpAny_bind (wpAny_pure ?_) | skip
 refine wpAny_bind (wpAny_sequenceKey ht.typeIs (by decide) ?_)
 refine wpAny_bind (wpAny_callSpecial?_slot (name:=arQ "__getitem__") ht.typeIs ar9
  (wpAny_call_entry ar9 ht.typeIs entry_tuple_getitem ?_ (args_tuple_getitem _ _)))
 show wpAny _ _ (atz (.ref t) >>= _) _ _ s
 refine wpAny_bind (tupleItemsOf_ ht ?_)
 refine wpAny_bind (wpAny_typeOf hTs ?_)
 rw [if_pos (by decide)]
 refine wpAny_bind (aak hs pl pu ?_)
 have hno:¬ ((((sIx items.size 0 lo:Nat):Int) == 0 && (1:Int) == 1 && (sIx items.size items.size hi - sIx items.size 0 lo) == items.size)=true):=by
  intro q
  rw [ap3,ap3] at q
  have q1:((sIx items.size 0 lo:Nat):Int)=0:=eq_of_beq q.1.1
  have q2:sIx items.size items.size hi - sIx items.size 0 lo=items.size:=eq_of_beq q.2
  exact hw ⟨by omega,by omega⟩
 show wpAny _ _ (if (((sIx items.size 0 lo:Nat):Int) == 0 && (1:Int) == 1 && (sIx items.size items.size hi - sIx items.size 0 lo) == items.size)=true then _ else _) _ _ s
 rw [if_neg hno,aiZ]
 first
  | exact wpAny_bind (m:=ar3 _) (wpAny_newObj_type (wpAny_pure ⟨_,rfl,wpAny_pure h⟩) htake)
  | exact wpAny_bind (m:=ar3 _) (wpAny_newObj_type (wpAny_bind (wpAny_pure (wpAny_pure ⟨_,rfl,wpAny_pure h⟩))) htake)
  | exact wpAny_bind (wpAny_bind (m:=ar3 _) (wpAny_newObj_type (wpAny_pure (wpAny_pure ⟨_,rfl,wpAny_pure h⟩)) htake))
  | exact wpAny_bind (wpAny_bind (m:=ar3 _) (wpAny_newObj_type (wpAny_pure ⟨_,rfl,wpAny_pure h⟩) htake))
end
end HT
namespace L2
open PySem PySem.Spec PyProof.Rows
abbrev TO:=St->Hp->(Option Int->Hp->Prop)->Prop
def PO (X:Cx) (e:Option Expr) (t:TO):Prop :=
 ∀ (pins:List (Addr×Obj)) (s:Shared) (σ:St) (H:Hp) (Q:Option Int->Hp->Prop),Inv X pins σ H s->t σ H Q ->
  wpAny (model X.prog X.w) X.A (evalPart e X.env) (fun u s'=>∃ o H',Inv X pins σ H' s'/\IsPart u o/\Q o H') X.xe s
def agu:TO:=fun _ H Q=>Q none H
def amR (t:TE):TO:=fun σ H Q=>t σ H fun x H1=>∃ i,x=.int i/\Q (some i) H1
theorem intsAre_of {ns:List Int}:∀ {us:List Value},Vals (ns.map V.int) us->IntsAre us ns:=by
 induction ns with
 | nil=>intro us r;rw [atq] at r;cases r;exact .nil
 | cons n ns ih =>
  intro us r
  rw [aqf] at r
  cases r with
  | cons r1 r2 =>
   obtain⟨t,e⟩:=r1
   subst e
   exact .cons n t (ih r2)
section
variable {X:Cx} {e:Expr} {te:TE} {lo hi:Option Expr} {tl th:TO} {pos p2:Pos}
theorem ade:PO X none agu:=by
 intro pins s σ H Q I h
 rw [evalPart_none]
 exact wpAny_pure ⟨none,H,I,.none,h⟩
theorem adf (h:PE X e te):PO X (some e) (amR te):=by
 intro pins s σ H Q I hw
 rw [evalPart_some]
 refine thn (h pins s σ H _ I hw) fun u s1 ⟨x,H1,I1,r1,q1⟩=>?_
 obtain⟨i,rfl,q⟩:=q1
 obtain⟨t,rfl⟩:=r1
 exact⟨some i,H1,I1,.int i t,q⟩
def SlR (X:Cx) (r:V->Option Int->Option Int->Hp->VK->Prop):Prop :=
 ∀ (pins:List (Addr×Obj)) (s:Shared) (σ:St) (H:Hp) (x:V) (v vl vu:Value) (lo hi:Option Int) (sl:Addr) (Q:VK),Inv X pins σ H s->RelV x v->s.heap.IsSliceOf sl vl vu .none->IsPart vl lo->IsPart vu hi->r x lo hi H Q ->
  ∃ T id,typeLookup (.type T) "__getitem__"=pure (some (.builtin id))/\s.TypeIs v T/\wpAny (model X.prog X.w) X.A (getItem v (.ref sl)) (EP X pins σ Q) X.xe s
def tSl (r:V->Option Int->Option Int->Hp->VK->Prop) (te:TE) (tl th:TO):TE:=fun σ H Q=>te σ H fun x H1=>tl σ H1 fun l H2=>th σ H2 fun u H3=>r x l u H3 Q
theorem abh {r:V->Option Int->Option Int->Hp->VK->Prop} (hr:SlR X r) (he:PE X e te) (hl:PO X lo tl) (hu:PO X hi th):PE X (.Subscript e (.Slice lo hi none p2) pos) (tSl r te tl th):=by
 intro pins s σ H Q I h
 refine Subscript_ (thn (he pins s σ H _ I h) fun v s1 ⟨x,H1,I1,r1,q1⟩=>?_)
 refine wpAny_Slice (thn (hl pins s1 σ H1 _ I1 q1) fun vl s2 ⟨l,H2,I2,pl,q2⟩=>thn (hu pins s2 σ H2 _ I2 q2) fun vu s3 ⟨u,H3,I3,pu,q3⟩=>?_)
 rw [evalPart_none]
 refine wpAny_pure ?_
 have I4:Inv X pins σ H3 { s3 with heap:=s3.heap.push { cls:=.type "slice",data:=.fields #[vl,vu,.none] } }:=I3.kept (t':=s3.toks) fun b ob q=>apV _ q
 obtain⟨T,id,hT,ht,hg⟩:=hr pins { s3 with heap:=s3.heap.push { cls:=.type "slice",data:=.fields #[vl,vu,.none] } } σ H3 x v vl vu l u s3.heap.objs.size Q I4 r1 (Heap.IsSliceOf.new ..) pl pu q3
 show wpAny (model X.prog X.w) X.A (subscriptTail e (.Slice lo hi none p2) v (.ref s3.heap.objs.size)) (EP X pins σ Q) X.xe { s3 with heap:=s3.heap.push { cls:=.type "slice",data:=.fields #[vl,vu,.none] } }
 exact tail_any (ops:=[.ref s3.heap.objs.size,v]) ht hT hg (by with_unfolding_all rfl)
def acb (xs:List V) (lo hi:Option Int):List V:=(xs.drop (HT.sIx xs.length 0 lo)).take (HT.sIx xs.length xs.length hi - HT.sIx xs.length 0 lo)
theorem aaF (xs:List V) (lo hi:Option Int):(acb xs lo hi).length<=xs.length:=by
 unfold acb
 rw [aqD,asC]
 omega
def anz (K:apT):V->Option Int->Option Int->Hp->VK->Prop:=fun x lo hi H Q=>∃ a xs,x=.ref a/\SqT K H a xs /\
 ¬ (HT.sIx xs.length 0 lo=0/\HT.sIx xs.length xs.length hi=xs.length)/\∀ p,H p=none->Q (.ref p) (upd H p (.tup (acb xs lo hi)))
theorem anA:SlR X (anz X.K):=by
 intro pins s σ H x v vl vu lo hi sl Q I rx hs pl pu h
 obtain⟨a,xs,rfl,hx,hw,q⟩:=h
 cases rx
 obtain⟨its,r,ht,hz⟩:=I.tuple hx
 have hlen:its.toArray.size=xs.length:=by rw [ap9];exact r.length.symm
 refine⟨"tuple",_,ar9.lookup,ht.typeIs,?_⟩
 refine HT.getItem_tuple_cut ht hs pl pu (by rw [hlen];exact hw) ?_ (by rw [hlen];exact hz)
 rw [hlen]
 refine⟨.ref s.heap.objs.size,_,I.laid (t':=s.toks) (o:=.tup (acb xs lo hi)) (fun b ob q=>apV _ q) (apY _) ?_,rfl,q _ (I.hok.fresh (apY _))⟩
 exact⟨aqn (aaF xs lo hi) hz,_,(r.drop (HT.sIx xs.length 0 lo)).take (HT.sIx xs.length xs.length hi - HT.sIx xs.length 0 lo),IsTup.new _ _⟩
end
def ixN (n:Nat) (i:Int):Option Nat:=if 0<=i then (if i<n then some i.toNat else none) else if -(n:Int)<=i then some (i+n).toNat else none
def atI {α:Type} (xs:List α) (i:Int):Option α:=(ixN xs.length i).bind fun j=>xs[j]?
theorem agv {n:Nat} {i:Int} {j:Nat} (h:ixN n i=some j):seqIndex? i n=some j/\j<n/\-(n:Int)<=i/\i<n:=by
 unfold ixN at h
 by_cases h0:0<=i
 ·rw [if_pos h0] at h
  by_cases h1:i<n
  ·rw [if_pos h1] at h
   have e:i.toNat=j:=Option.some.inj h
   exact⟨by rw [seqIndex_of h0 h1,e],by omega,by omega,h1⟩
  ·rw [if_neg h1] at h;cases h
 ·rw [if_neg h0] at h
  by_cases h1:-(n:Int)<=i
  ·rw [if_pos h1] at h
   have e:(i+n).toNat=j:=Option.some.inj h
   exact⟨by rw [seqIndex_neg (by omega) h1,e],by omega,h1,by omega⟩
  ·rw [if_neg h1] at h;cases h
theorem agw {α:Type} {xs:List α} {i:Int} {v:α} (h:atI xs i=some v):∃ j,seqIndex? i xs.length=some j/\xs[j]?=some v/\j<xs.length/\-(xs.length:Int)<=i/\i<xs.length:=by
 unfold atI at h
 cases e:ixN xs.length i with
 | none=>rw [e] at h;cases h
 | some j =>
  rw [e] at h
  obtain⟨h1,h2,h3,h4⟩:=agv e
  exact⟨j,h1,h,h2,h3,h4⟩
theorem jO {α:Type} {xs:List α} {j:Nat} {v:α} (h:xs[j]?=some v):atI xs (j:Int)=some v:=by
 have hj:j<xs.length:=(apS.mp h).1
 have e:ixN xs.length (j:Int)=some j:=by
  unfold ixN
  rw [if_pos (by omega),if_pos (by omega)];simp
 unfold atI;rw [e];exact h
def agx (b:Expr):Prop:=∀ o i,subscripted b false o i=operate [o,i] (getItem o i)
def IxR (X:Cx) (r:R2):Prop :=
 ∀ (value slice:Expr) (pins:List (Addr×Obj)) (s:Shared) (σ:St) (H:Hp) (x y:V) (v u:Value) (Q:VK),Inv X pins σ H s->RelV x v->RelV y u->r x y H Q ->
  subscripted slice false v u=operate [v,u] (getItem v u)->wpAny (model X.prog X.w) X.A (subscriptTail value slice v u) (EP X pins σ Q) X.xe s
def MtR (X:Cx) (id:String) (r:V->List V->Hp->VK->Prop):Prop :=
 ∀ (pins:List (Addr×Obj)) (s:Shared) (σ:St) (H:Hp) (x:V) (xs:List V) (v:Value) (us:List Value) (Q:VK),Inv X pins σ H s->RelV x v->Vals xs us->r x xs H Q ->
  wpAny (model X.prog X.w) X.A (call (.builtin id) (v :: us)) (EP X pins σ Q) X.xe s
section
variable {X:Cx} {a b:Expr} {ta tb:TE} {pos:Pos}
theorem zW {r:R2} (hr:IxR X r) (ha:PE X a ta) (hb:PE X b tb) (hs:agx b):PE X (.Subscript a b pos) (tOp r ta tb):=by
 intro pins s σ H Q I h
 exact Subscript_ (ant ha hb I h fun v u s2 x y H2 I2 rx ry q=>hr a b pins s2 σ H2 x y v u Q I2 rx ry q (hs _ _))
def adg (K:apT):R2:=fun x y H Q=>∃ p xs i v,x=.ref p/\y=.int i/\SqL K H p xs/\atI xs i=some v/\Q v H
def anB (K:apT):R2:=fun x y H Q=>∃ p xs i v,x=.ref p/\y=.int i/\SqT K H p xs/\atI xs i=some v/\Q v H
theorem alj:IxR X (adg X.K):=by
 intro value slice pins s σ H x y v u Q I rx ry h hs
 obtain⟨p,xs,i,z,rfl,rfl,hq,he,q⟩:=h
 cases rx
 obtain⟨t,rfl⟩:=ry
 obtain⟨its,r,pl,hz⟩:=I.list hq
 obtain⟨j,h1,h2,h3,h4,h5⟩:=agw he
 obtain⟨w,ew,rw'⟩:=r.get h2
 have hl:=r.length
 have hn:=abf
 have fin:EP X pins σ Q w s:=⟨z,H,I,rw',q⟩
 by_cases h0:0<=i
 ·have hj:i.toNat=j:=by
   rw [seqIndex_of h0 h5] at h1
   exact Option.some.inj h1
  exact item_listR pl.isList h0 (by omega) (by rw [hj];simpa using ew) fin hs
 ·have hj:(i+(its.toArray.size:Int)).toNat=j:=by
   rw [seqIndex_neg (by omega) h4] at h1
   rw [ap9,<- hl]
   exact Option.some.inj h1
  exact subscriptTail_builtinR (x:=w) pl.isList.typeIs slot_list_getitem.lookup
   (wpAny_getItem_list_neg (Q:=fun r s'=>r=w/\EP X pins σ Q r s') pl.isList (by omega) (by rw [ap9] <;> omega) (by omega) (by rw [hj];simpa using ew) ⟨rfl,fin⟩) hs
theorem anC:IxR X (anB X.K):=by
 intro value slice pins s σ H x y v u Q I rx ry h hs
 obtain⟨p,xs,i,z,rfl,rfl,hq,he,q⟩:=h
 cases rx
 obtain⟨t,rfl⟩:=ry
 obtain⟨its,r,pl,hz⟩:=I.tuple hq
 obtain⟨j,h1,h2,h3,h4,h5⟩:=agw he
 obtain⟨w,ew,rw'⟩:=r.get h2
 have hl:=r.length
 have hn:=abf
 have fin:EP X pins σ Q w s:=⟨z,H,I,rw',q⟩
 exact subscriptTail_builtinR (x:=w) pl.typeIs slot_tuple_getitem.lookup
  (getItem_tuple (j:=j) (Q:=fun r s'=>r=w/\EP X pins σ Q r s') pl (by omega) (by omega) (by rw [ap9,<- hl];exact h1) (by simpa using ew) ⟨rfl,fin⟩) hs
theorem afu (its:List Value) (n j:Nat) (u:Value):asx (·.setIfInBounds j u) { cls:=.type "list",data:=.seq its.toArray n }={ cls:=.type "list",data:=.seq (its.set j u).toArray n }:=by
 simp [asx]
theorem Inv.lst {pins:List (Addr×Obj)} {σ:St} {H:Hp} {s:Shared} {p:Addr} {xs:List V} (I:Inv X pins σ H s) (h:H p=some (.lst xs)) :
  ∃ (its:List Value) (n:Nat),Vals xs its/\s.heap.get? p=some { cls:=.type "list",data:=.seq its.toArray n }/\xs.length<=sizeLine:=by
 obtain⟨z,its,n,r,e⟩:=I.hok p _ h
 exact⟨its,n,r,e,z⟩
theorem Inv.lstUpd {pins:List (Addr×Obj)} {σ:St} {H:Hp} {s:Shared} {p:Addr} {xs ys:List V} {its its':List Value} {n n':Nat} {f:Obj->Obj} (I:Inv X pins σ H s) (h:H p=some (.lst xs))
  (ho:s.heap.get? p=some { cls:=.type "list",data:=.seq its.toArray n }) (hf:f { cls:=.type "list",data:=.seq its.toArray n }={ cls:=.type "list",data:=.seq its'.toArray n' }) (r:Vals ys its') (hz:ys.length<=sizeLine) (t:Nat) :
  Inv X pins σ (upd H p (.lst ys)) { s with heap:=s.heap.update p f,toks:=t }:=by
 have e:(s.heap.update p f).get? p=some { cls:=.type "list",data:=.seq its'.toArray n' }:=by
  rw [aqQ f ho (by rw [hf] <;> rfl),hf]
 refine I.write (x:=p) (e:=p) (by rw [h];trivial) (.inl rfl) (fun b u hb q=>(aqM _ _ (arw hb)).trans q) ⟨_,e⟩ ?_
 exact⟨hz,its',n',r,e⟩
def aaG:V->V->V->Hp->(Hp->Prop)->Prop:=fun o i v H Q=>∃ p xs k j,o=.ref p/\i=.int k/\H p=some (.lst xs)/\ixN xs.length k=some j/\Q (upd H p (.lst (xs.set j v)))
theorem set_list:ald X aaG:=by
 intro pins s σ H o i v ov iv u Q I ro ri rv h
 obtain⟨p,xs,k,j,rfl,rfl,hp,hj,q⟩:=h
 cases ro
 obtain⟨t,rfl⟩:=ri
 obtain⟨its,n,r,ho,hz⟩:=I.lst hp
 obtain⟨h1,h2,h3,h4⟩:=agv hj
 have hl:=r.length
 have hn:=abf
 have I':Inv X pins σ (upd H p (.lst (xs.set j v))) { s with heap:=s.heap.update p (asx (·.setIfInBounds j u)) } :=
  I.lstUpd hp ho (afu its n j u) (r.set rv j) (by rw [aqK];exact hz) s.toks
 by_cases h0:0<=k
 ·have hk:k.toNat=j:=by
   rw [seqIndex_of h0 h4] at h1
   exact Option.some.inj h1
  exact PySem.W.ki_setAt ho h0 (by omega) (by rw [ap9,<- hl];exact h4) (by rw [hk];exact⟨_,I',q⟩)
 ·have hk:(k+(its.toArray.size:Int)).toNat=j:=by
   rw [seqIndex_neg (by omega) h3] at h1
   rw [ap9,<- hl]
   exact Option.some.inj h1
  exact PySem.W.ki_setBack ho (by omega) (by rw [ap9,<- hl];exact h3) (by omega) (by rw [hk];exact⟨_,I',q⟩)
theorem adh (lo hi:Option Int) (n:Nat):(sliceBounds lo hi none n).1=((HT.sIx n 0 lo:Nat):Int)/\(sliceBounds lo hi none n).2.1=((HT.sIx n n hi:Nat):Int)/\(sliceBounds lo hi none n).2.2=1:=by
 refine⟨?_,?_,rfl⟩
 ·cases lo with
  | none=>simp [sliceBounds,HT.sIx]
  | some i =>
   simp only [sliceBounds,HT.sIx,Option.getD_none,show (1:Int) > 0 by decide,if_true]
   by_cases h:i<0
   ·simp only [h,if_true] <;> omega
   ·simp only [h,if_false] <;> omega
 ·cases hi with
  | none=>simp [sliceBounds,HT.sIx]
  | some i =>
   simp only [sliceBounds,HT.sIx,Option.getD_none,show (1:Int) > 0 by decide,if_true]
   by_cases h:i<0
   ·simp only [h,if_true] <;> omega
   ·simp only [h,if_false] <;> omega
theorem acd (its:List Value) (lo hi:Option Int):slicePick its.toArray lo hi none=((its.drop (HT.sIx its.length 0 lo)).take (HT.sIx its.length its.length hi - HT.sIx its.length 0 lo)).toArray:=by
 obtain⟨h1,h2,h3⟩:=adh lo hi its.toArray.size
 unfold slicePick
 rw [h1,h2,h3]
 simp only [sliceRange_one,pick_run,ap9] <;> rfl
def alk (K:apT):V->Option Int->Option Int->Hp->VK->Prop:=fun x lo hi H Q=>∃ a xs,x=.ref a/\SqL K H a xs/\∀ p,H p=none->Q (.ref p) (upd H p (.lst (acb xs lo hi)))
theorem alm:SlR X (alk X.K):=by
 intro pins s σ H x v vl vu lo hi sl Q I rx hs pl pu h
 obtain⟨a,xs,rfl,hx,q⟩:=h
 cases rx
 obtain⟨its,r,ht,hz⟩:=I.list hx
 have hlen:=r.length
 refine⟨"list",_,slot_list_getitem.lookup,ht.isList.typeIs,?_⟩
 refine wpAny_getItem_list_slice ht.isList hs pl pu .none (by simp) ?_ (by rw [ap9] <;> omega)
 rw [acd,<- hlen]
 refine⟨.ref s.heap.objs.size,_,I.laid (t':=s.toks) (o:=.lst (acb xs lo hi)) (fun b ob q=>apV _ q) (apY _) ?_,rfl,q _ (I.hok.fresh (apY _))⟩
 exact⟨aqn (aaF xs lo hi) hz,_,0,(r.drop (HT.sIx xs.length 0 lo)).take (HT.sIx xs.length xs.length hi - HT.sIx xs.length 0 lo),ap7 _ rfl⟩
def aaH:V->Bool
 | .non=>true
 | .bl _=>true
 | .int _=>true
 | .str _=>true
 | _=>false
def eqV:V->V->Bool
 | .non,.non=>true
 | .bl a,.bl b=>a == b
 | .bl a,.int b=>(if a then 1 else 0) == b
 | .int a,.bl b=>a == (if b then 1 else 0)
 | .int a,.int b=>a == b
 | .str a,.str b=>a == b
 | _,_=>false
theorem anD {A:Around} {s:Shared} {y x:V} {u v:Value} (ry:RelV y u) (rx:RelV x v) (fy:aaH y=true) (fx:aaH x=true):SeqAt.EqAt A s u v (eqV y x):=by
 cases y with
 | non =>
  cases ry
  cases x with
  | non=>cases rx;exact SeqAt.EqAt.same _
  | bl b=>cases rx;exact SeqAt.EqAt.none_bool b
  | int b=>obtain⟨t,rfl⟩:=rx;exact SeqAt.EqAt.none_int b t
  | str b=>obtain⟨t,rfl⟩:=rx;exact SeqAt.EqAt.none_str b t
  | _=>exact absurd (show false=true from fx) apQ
 | bl a =>
  cases ry
  cases x with
  | non=>cases rx;exact SeqAt.EqAt.bool_none a
  | bl b=>cases rx;exact SeqAt.EqAt.bool_bool a b
  | int b=>obtain⟨t,rfl⟩:=rx;exact SeqAt.EqAt.bool_int a b t
  | str b=>obtain⟨t,rfl⟩:=rx;exact SeqAt.EqAt.bool_str a b t
  | _=>exact absurd (show false=true from fx) apQ
 | int a =>
  obtain⟨t',rfl⟩:=ry
  cases x with
  | non=>cases rx;exact SeqAt.EqAt.int_none a t'
  | bl b=>cases rx;exact SeqAt.EqAt.int_bool a t' b
  | int b=>obtain⟨t,rfl⟩:=rx;exact SeqAt.EqAt.int_int a t' b t
  | str b=>obtain⟨t,rfl⟩:=rx;exact SeqAt.EqAt.int_str a t' b t
  | _=>exact absurd (show false=true from fx) apQ
 | str a =>
  obtain⟨t',rfl⟩:=ry
  cases x with
  | non=>cases rx;exact SeqAt.EqAt.str_none a t'
  | bl b=>cases rx;exact SeqAt.EqAt.str_bool a t' b
  | int b=>obtain⟨t,rfl⟩:=rx;exact SeqAt.EqAt.str_int a t' b t
  | str b=>obtain⟨t,rfl⟩:=rx;exact SeqAt.EqAt.str_str a t' b t
  | _=>exact absurd (show false=true from fx) apQ
 | _=>exact absurd (show false=true from fy) apQ
def eqU (x:V) (u:Value):Bool:=match u with
 | .none=>eqV .non x
 | .bool b=>eqV (.bl b) x
 | .int i _=>eqV (.int i) x
 | .str z _=>eqV (.str z) x
 | _=>false
theorem ai0 {x y:V} {u:Value} (r:RelV y u) (f:aaH y=true):eqU x u=eqV y x:=by
 cases y with
 | non=>cases r;rfl
 | bl b=>cases r;rfl
 | int i=>obtain⟨t,rfl⟩:=r;rfl
 | str z=>obtain⟨t,rfl⟩:=r;rfl
 | _=>exact absurd (show false=true from f) apQ
theorem adi {x:V}:∀ {xs:List V} {us:List Value},Vals xs us->xs.all aaH=true->us.any (eqU x)=xs.any fun y=>eqV y x
 | _,_,.nil,_=>rfl
 | y :: xs,u :: us,.cons r t,f=>by
  rw [auH,ap3] at f
  rw [atU,atU,ai0 r f.1,adi t f.2]
theorem abi {A:Around} {s:Shared} {x:V} {v:Value} (rx:RelV x v) (fx:aaH x=true):∀ {xs:List V} {us:List Value},Vals xs us->xs.all aaH=true->∀ u∈us,SeqAt.EqAt A s u v (eqU x u)
 | _,_,.nil,_=>fun u hu=>by cases hu
 | y :: xs,u :: us,.cons r t,f=>fun u' hu=>by
  rw [auH,ap3] at f
  rcases ap0.mp hu with rfl | hu
  ·rw [ai0 r f.1];exact anD r rx f.1 fx
  ·exact abi rx fx t f.2 u' hu
def inV (x:V) (xs:List V):Bool:=xs.any fun y=>eqV y x
def rIn (K:apT) (neg:Bool):R2:=fun x y H Q=>∃ p xs,y=.ref p/\(SqL K H p xs \/ SqT K H p xs)/\aaH x=true/\xs.all aaH=true/\Q (.bl (if neg then !inV x xs else inV x xs)) H
theorem adj:OpR X (compareOp .NotIn) (rIn X.K true):=by
 intro pins s σ H x y v u Q I rx ry h
 obtain⟨p,xs,rfl,hq,fx,fs,q⟩:=h
 cases ry
 rcases hq with hq | hq
 ·obtain⟨its,r,pl,hz⟩:=I.list hq
  refine SeqAt.notIn_listAt (eqU x) pl.isList (fun w hw=>abi rx fx r fs w (by simpa using hw)) ⟨.bl _,H,I,rfl,?_⟩
  rw [show its.toArray.any (eqU x)=its.any (eqU x) by simp,adi r fs]
  exact q
 ·obtain⟨its,r,pl,hz⟩:=I.tuple hq
  refine SeqAt.notIn_tupleAt (eqU x) pl (fun w hw=>abi rx fx r fs w (by simpa using hw)) ⟨.bl _,H,I,rfl,?_⟩
  rw [show its.toArray.any (eqU x)=its.any (eqU x) by simp,adi r fs]
  exact q
theorem adk:z6 X (.builtin "len") (fun xs H Q=>∃ p ys,xs=[.ref p]/\(SqL X.K H p ys \/ SqT X.K H p ys)/\Q (.int ys.length) H):=by
 intro pins s σ H xs us Q I r h
 obtain⟨p,ys,rfl,hq,q⟩:=h
 obtain⟨u,rfl,rx⟩:=vals1 r
 cases rx
 have hn:=abf
 rcases hq with hq | hq
 ·obtain⟨its,r',pl,hz⟩:=I.list hq
  have hlen:=r'.length
  exact Calls.call_len_list pl.isList (by simp only [ap9] <;> omega) ⟨.int ys.length,H,I.tok _,⟨s.toks+1,by rw [ap9,hlen]⟩,q⟩
 ·obtain⟨its,r',pl,hz⟩:=I.tuple hq
  have hlen:=r'.length
  exact len_tuple pl (by simp only [ap9] <;> omega) ⟨.int ys.length,H,I.tok _,⟨s.toks+1,by rw [ap9,hlen]⟩,q⟩
theorem adl:z6 X (.type "list") (fun xs H Q=>∃ p ys,xs=[.ref p]/\(SqL X.K H p ys \/ SqT X.K H p ys)/\∀ l,H l=none->Q (.ref l) (upd H l (.lst ys))):=by
 intro pins s σ H xs us Q I r h
 obtain⟨p,ys,rfl,hq,q⟩:=h
 obtain⟨u,rfl,rx⟩:=vals1 r
 cases rx
 have fin:∀ (its:List Value),Vals ys its->ys.length<=sizeLine->∀ (h':Heap) (c':Nat),(∀ b o',s.heap.get? b=some o'->h'.get? b=some o') ->
   h'.get? s.heap.objs.size=some { cls:=.type "list",dict:=none,data:=.seq its.toArray c',slots:=#[] }->EP X pins σ Q (.ref s.heap.objs.size) { s with heap:=h' }:=fun its r' hz h' c' kp e =>
  ⟨.ref s.heap.objs.size,_,I.laid (t':=s.toks) kp (apY _) (show ObjOk X.prog X.w _ h' _ (.lst ys) from⟨hz,its,c',r',e⟩),rfl,q _ (I.hok.fresh (apY _))⟩
 rcases hq with hq | hq
 ·obtain⟨its,r',pl,hz⟩:=I.list hq
  have hlen:=r'.length
  obtain⟨o,ho,hc,n,hd⟩:=pl.isList
  exact call_list_seq p (.inl rfl) ho hc hd (fun h' c' kp e=>fin its r' hz h' c' kp e) (by simp only [ap9] <;> omega)
 ·obtain⟨its,r',pl,hz⟩:=I.tuple hq
  have hlen:=r'.length
  obtain⟨o,ho,hc,n,hd⟩:=pl
  exact call_list_seq p (.inr rfl) ho hc hd (fun h' c' kp e=>fin its r' hz h' c' kp e) (by simp only [ap9] <;> omega)
theorem ace:z6 X (.type "tuple") (fun xs H Q=>∃ p ys,xs=[.ref p]/\((SqL X.K H p ys/\∀ l,H l=none->Q (.ref l) (upd H l (.tup ys))) \/ (SqT X.K H p ys/\Q (.ref p) H))):=by
 intro pins s σ H xs us Q I r h
 obtain⟨p,ys,rfl,h⟩:=h
 obtain⟨u,rfl,rx⟩:=vals1 r
 cases rx
 rcases h with⟨hq,q⟩ | ⟨hq,q⟩
 ·obtain⟨its,r',pl,hz⟩:=I.list hq
  have hlen:=r'.length
  refine call_tuple_list pl.isList (fun h' kp=>?_) (by simp only [ap9] <;> omega)
  have I1:Inv X pins σ H { s with heap:=h' }:=I.kept (t':=s.toks) kp
  have I2:Inv X pins σ (upd H h'.objs.size (.tup ys)) { s with heap:=h'.push { cls:=.type "tuple",data:=.seq its.toArray } } :=
   I1.laid (t':=s.toks) (fun b o e=>apV _ e) (apY _) (show ObjOk X.prog X.w _ _ _ (.tup ys) from⟨hz,its,r',IsTup.new _ _⟩)
  exact⟨.ref h'.objs.size,_,I2,rfl,q _ (I1.hok.fresh (apY _))⟩
 ·obtain⟨its,r',pl,hz⟩:=I.tuple hq
  exact call_tuple_same pl ⟨.ref p,H,I,rfl,q⟩
def tyV (K:apT) (T:String) (x:V) (H:Hp):Prop:=match x with
 | .str _=>T="str"
 | .int _=>T="int"
 | .ref p=>(T="list"/\∃ xs,SqL K H p xs) \/ (T="tuple"/\∃ o,K.lookup p=some o/\o.cls=.type "tuple"/\o.dict=none) \/
   (T="dict"/\((∃ kvs,H p=some (.dK kvs)) \/ ∃ kvs,H p=some (.dT kvs))) \/ (T="set"/\∃ S n,H p=some (.set S n))
 | _=>False
theorem ai1 {pins:List (Addr×Obj)} {σ:St} {H:Hp} {s:Shared} {T:String} {x:V} {v:Value} (I:Inv X pins σ H s) (r:RelV x v) (ty:tyV X.K T x H) :
  s.TypeIs v T/\∀ a,v=.ref a->∃ ob,s.heap.get? a=some ob/\ob.dict=none:=by
 cases x with
 | str z =>
  obtain⟨t,rfl⟩:=r
  cases (show T="str" from ty)
  exact⟨typeIs_str s z t,fun _ e=>nomatch e⟩
 | int i =>
  obtain⟨t,rfl⟩:=r
  cases (show T="int" from ty)
  exact⟨typeIs_int s i t,fun _ e=>nomatch e⟩
 | ref p =>
  cases r
  rcases ty with⟨rfl,xs,hq⟩ | ⟨rfl,o,hk,hc,hd⟩ | ⟨rfl,hk⟩ | ⟨rfl,S,n,hk⟩
  ·obtain⟨its,_,pl,_⟩:=I.list hq
   refine⟨pl.isList.typeIs,fun a e=>?_⟩
   cases e
   obtain⟨o,n,e,c,hd,_⟩:=pl
   exact⟨o,e,hd⟩
  ·refine⟨⟨o,I.kIn p o hk,hc⟩,fun a e=>?_⟩
   cases e
   exact⟨o,I.kIn _ o hk,hd⟩
  ·have z:∃ o,s.heap.get? p=some o/\o.ExactDict:=by
    rcases hk with⟨kvs,hk⟩ | ⟨kvs,hk⟩
    ·obtain⟨_,_,_,_,o,_,_,e,ex,_⟩:=I.hok p _ hk
     exact⟨o,e,ex⟩
    ·obtain⟨_,_,_,_,o,_,_,e,ex,_⟩:=I.hok p _ hk
     exact⟨o,e,ex⟩
   obtain⟨o,e,ex⟩:=z
   refine⟨⟨o,e,ex.1⟩,fun a e2=>?_⟩
   cases e2
   exact⟨o,e,ex.2.1⟩
  ·obtain⟨o,_,_,_,e,ex,_⟩:=I.hok p _ hk
   refine⟨⟨o,e,ex.1⟩,fun a e2=>?_⟩
   cases e2
   exact⟨o,e,ex.2.1⟩
 | _=>exact asj ty
def aoY (K:apT) (T:String) (r:V->List V->Hp->VK->Prop) (to:TE):TE:=fun σ H Q=>to σ H fun x H1=>tyV K T x H1/\r x [] H1 Q
def tBM (K:apT) (T:String) (r:V->List V->Hp->VK->Prop) (to:TE) (t:TA):TE:=fun σ H Q=>to σ H fun x H1=>tyV K T x H1/\t σ H1 fun xs H2=>r x xs H2 Q
variable {o e:Expr} {es:List Expr} {to:TE} {t:TA} {name:Str} {apos cpos:Pos} {T id:String} {r:V->List V->Hp->VK->Prop}
theorem anE (pa:PlainAttrs T) (slot:Slot T name id) (hty:typeOf (.builtin id)=pure (.type "method_descriptor")) (hm:MtR X id r) (ho:PE X o to)
  (hbase:attributeBase o name X.env (eval o X.env)=eval o X.env:=by rfl) (hline:(apos.endLine == cpos.line)=true:=by rfl):PE X (.Call (.Attribute o name apos) [] [] cpos) (aoY X.K T r to):=by
 intro pins s σ H Q I h
 refine wpAny_Call_method0_late hbase hline (thn (ho pins s σ H _ I h) fun v s1 ⟨x,H1,I1,r1,ty,q1⟩=>?_)
 obtain⟨h1,h2⟩:=ai1 I1 r1 ty
 exact⟨T,id,pa,slot,hty,h1,h2,asV rfl (PySem.evalArgs_none (hm pins s1 σ H1 x [] v [] Q I1 r1 .nil q1))⟩
theorem acA (pa:PlainAttrs T) (slot:Slot T name id) (hty:typeOf (.builtin id)=pure (.type "method_descriptor")) (hm:MtR X id r) (ho:PE X o to) (ha:PA X (e :: es) t)
  (hbase:attributeBase o name X.env (eval o X.env)=eval o X.env:=by rfl)
  (hfew:((backTo cpos (starEach (e :: es) X.env)).all (fun x=>!x.1) && (backToKw cpos (keywordEach [] X.env)).all (fun x=>x.1.isSome)
   && decide ((e :: es).length+([]:List Keyword).length+(if ([]:List Keyword).isEmpty then 0 else 1)<30))=true:=by rfl)
  (hline:(apos.endLine == cpos.line)=true:=by rfl) (hs:starEach (e :: es) X.env=(false,eval e X.env) :: starEach es X.env:=by rfl) (hplain:(backTo cpos (starEach es X.env)).any (·.1)=false:=by rfl) :
  PE X (.Call (.Attribute o name apos) (e :: es) [] cpos) (tBM X.K T r to t):=by
 intro pins s σ H Q I h
 refine wpAny_Call_method_late hbase hfew hline rfl (thn (ho pins s σ H _ I h) fun v s1 ⟨x,H1,I1,r1,ty,q1⟩=>?_)
 obtain⟨h1,h2⟩:=ai1 I1 r1 ty
 refine⟨T,id,pa,slot,hty,h1,h2,?_⟩
 have hA:=ha cpos pins s1 σ H1 _ I1 q1
 rw [hs] at hA ⊢
 refine asV (by show (false || (backTo cpos (starEach es X.env)).any (·.1))=false;rw [hplain] <;> rfl) (aut ?_)
 exact thn hA fun us s2 ⟨vs,H2,I2,r2,q2⟩=>hm pins s2 σ H2 x vs v us Q I2 r1 r2 q2
/- xs.append(e),list.index on a module's tuple .. are MtR facts of 06m -/
end
def MtM (X:Cx) (id:String) (r:V->List V->Hp->VK->Prop):Prop :=
 ∀ (pins:List (Addr×Obj)) (s:Shared) (σ:St) (H:Hp) (x:V) (xs:List V) (v:Value) (us:List Value) (Q:VK),Inv X pins σ H s->RelV x v->Vals xs us->r x xs H Q ->
  wpAny (model X.prog X.w) X.A (call (.builtin id) (v :: us)) (EP X pins σ Q) X.xe s
theorem Vals.one:∀ {x:V} {us:List Value},Vals [x] us->∃ u,us=[u]/\RelV x u
 | _,_,.cons r .nil=>⟨_,rfl,r⟩
theorem Vals.zero:∀ {us:List Value},Vals [] us->us=[]
 | _,.nil=>rfl
theorem Vals.dropLast {xs:List V} {us:List Value} (h:Vals xs us):Vals xs.dropLast us.dropLast:=by
 induction h with
 | nil=>exact .nil
 | cons r t ih =>
  cases t with
  | nil=>exact .nil
  | cons q t'=>exact .cons r ih
theorem Vals.eraseIdx:∀ {xs:List V} {us:List Value} (i:Nat),Vals xs us->Vals (xs.eraseIdx i) (us.eraseIdx i)
 | _,_,_,.nil=>.nil
 | _,_,0,.cons _ t=>t
 | _,_,i+1,.cons r t=>.cons r (Vals.eraseIdx i t)
theorem afv {α:Type} (l:List α):l.eraseIdx (l.length - 1)=l.dropLast:=by
 induction l with
 | nil=>rfl
 | cons a r ih =>
  cases r with
  | nil=>rfl
  | cons b r =>
   have e:(a :: b :: r).length - 1=((b :: r).length - 1)+1:=by
    have h1:(a :: b :: r).length=r.length+2:=rfl
    have h2:(b :: r).length=r.length+1:=rfl
    omega
   rw [e,List.eraseIdx_cons_succ,ih]
   all_goals rfl
theorem acB {α:Type}:∀ (l:List α) (i:Nat),(l.eraseIdx i).length<=l.length
 | [],_=>apY _
 | _ :: _,0=>atf _
 | _ :: r,i+1=>ata (acB r i)
section
variable {X:Cx} {pins:List (Addr×Obj)} {σ:St} {H:Hp} {s:Shared} {l b:Addr} {xs ys zs:List V}
theorem Inv.lset {its its':List Value} {n:Nat} {f:Array Value->Array Value} {t':Nat} (I:Inv X pins σ H s) (hH:H l=some (.lst xs))
  (e:s.heap.get? l=some { cls:=.type "list",data:=.seq its.toArray n }) (hf:f its.toArray=its'.toArray) (hv:Vals ys its') (hz:ys.length<=sizeLine) :
  Inv X pins σ (upd H l (.lst ys)) { s with heap:=s.heap.update l (asx f),toks:=t' }:=by
 have q:=PySem.IsL.update e f
 rw [hf] at q
 refine I.write (x:=l) (e:=l) (by rw [hH];exact trivial) (.inl rfl) (fun b' u hb hu=>(aqM s.heap (asx f) (arw hb)).trans hu) ⟨_,q⟩ ?_
 exact⟨hz,its',_,hv,q⟩
theorem Inv.lnew {its:List Value} {t':Nat} (I:Inv X pins σ H s) (hv:Vals ys its) (hz:ys.length<=sizeLine) :
  Inv X pins σ (upd H s.heap.objs.size (.lst ys)) { s with heap:=s.heap.push { cls:=.type "list",data:=.seq its.toArray },toks:=t' } :=
 I.laid (fun _ _ q=>apV _ q) (apY _) ⟨hz,its,0,hv,ap7 _ rfl⟩
theorem Inv.fresh (I:Inv X pins σ H s):H s.heap.objs.size=none:=I.hok.fresh (apY _)
theorem Inv.lstM (I:Inv X pins σ H s) (hH:H l=some (.lst xs)):xs.length<=sizeLine/\∃ (its:List Value) (n:Nat),Vals xs its/\xs.length=its.length/\s.heap.get? l=some { cls:=.type "list",data:=.seq its.toArray n }:=by
 obtain⟨z,its,n,r,e⟩:=I.hok l _ hH
 exact⟨z,its,n,r,r.length,e⟩
end
section
variable {X:Cx}
def aaZ:V->List V->Hp->VK->Prop:=fun x vs H Q=>∃ l xs y,x=.ref l/\vs=[y]/\H l=some (.lst xs)/\xs.length<sizeLine/\Q .non (upd H l (.lst (xs++[y])))
theorem vm:MtM X "list.append" aaZ:=by
 intro pins s σ H x vs v us Q I rx rv h
 obtain⟨l,xs,y,rfl,rfl,hH,hz,q⟩:=h
 cases rx
 obtain⟨u,rfl,ru⟩:=rv.one
 obtain⟨z,its,n,r,hl,e⟩:=I.lstM hH
 refine call_meets F.slot_list_append ⟨_,e,rfl⟩ auF (auu _ _) (PySem.list_append l its.toArray n u (by rw [ap9];omega)) ⟨e,?_⟩
 refine⟨.non,_,I.lset (its':=its++[u]) hH e (by simp) (r.append (.cons ru .nil)) ?_,rfl,q⟩
 rw [aqa,aqT]
 omega
def aoZ:V->List V->Hp->VK->Prop:=fun x vs H Q=>∃ l xs y,x=.ref l/\vs=[]/\H l=some (.lst xs)/\xs[xs.length - 1]?=some y/\Q y (upd H l (.lst xs.dropLast))
theorem anF:MtM X "list.pop" aoZ:=by
 intro pins s σ H x vs v us Q I rx rv h
 obtain⟨l,xs,y,rfl,rfl,hH,hy,q⟩:=h
 cases rx
 have hus:=rv.zero
 subst hus
 obtain⟨z,its,n,r,hl,e⟩:=I.lstM hH
 obtain⟨u,hu,ru⟩:=r.get hy
 have hy':its.toArray[its.toArray.size - 1]?=some u:=by
  show its.toArray[its.length - 1]?=some u
  rw [<-arl,<- hl]
  exact hu
 refine call_meets F.slot_list_pop ⟨_,e,rfl⟩ F.entry_list_pop (F.args_list_pop_1 _) (MeetsSeq.list_pop_last l its.toArray n u hy' (by rw [ap9];omega)) ⟨e,?_⟩
 refine⟨y,_,I.lset (its':=its.dropLast) hH e ?_ r.dropLast ?_,ru,q⟩
 ·show its.toArray.eraseIdxIfInBounds (its.toArray.size - 1)=its.dropLast.toArray
  rw [ap9,as4,afv]
 ·rw [List.length_dropLast]
  omega
def ai2:V->List V->Hp->VK->Prop:=fun x vs H Q=>∃ l xs i k y,x=.ref l/\vs=[.int i]/\H l=some (.lst xs)/\-(2 ^ 63)<=i/\i<2 ^ 63/\seqIndex? i xs.length=some k/\xs[k]?=some y/\Q y (upd H l (.lst (xs.eraseIdx k)))
theorem ai3:MtM X "list.pop" ai2:=by
 intro pins s σ H x vs v us Q I rx rv h
 obtain⟨l,xs,i,k,y,rfl,rfl,hH,h1,h2,hk,hy,q⟩:=h
 cases rx
 obtain⟨u,rfl,ru⟩:=rv.one
 obtain⟨t,rfl⟩:=ru
 obtain⟨z,its,n,r,hl,e⟩:=I.lstM hH
 obtain⟨w,hw,rw'⟩:=r.get hy
 refine call_meets F.slot_list_pop ⟨_,e,rfl⟩ F.entry_list_pop (F.args_list_pop_2 _ _)
  (MeetsSeq.list_pop_at l its.toArray n i t k w (fitsIndex_both h1 h2) (by rw [ap9,<- hl];exact hk) (by rw [<-arl];exact hw) (by rw [ap9];omega)) ⟨e,?_⟩
 refine⟨y,_,I.lset (its':=its.eraseIdx k) hH e ?_ (r.eraseIdx k) ?_,rw',q⟩
 ·show its.toArray.eraseIdxIfInBounds k=(its.eraseIdx k).toArray
  rw [as4]
 ·have:=acB xs k
  omega
end
end L2
namespace Att
open PySem PySem.W PySem.Calls PyProof.Rows
theorem aaU {P:Params} {h:Heap}:∀ (ns:List Int) (vs:List Value),WellAll P h vs (ns.map WData.int)->IntsAre vs ns:=by
 intro ns
 induction ns with
 | nil =>
  intro vs w
  rw [atq] at w
  cases w
  exact .nil
 | cons n ns ih =>
  intro vs w
  rw [aqf] at w
  cases w with
  | cons a b =>
   cases a
   exact .cons _ _ (ih _ b)
theorem ahM {l:OpenLaw} {n:Nat} (hn:l.most=some n) {P:Params} {h:Heap} {args:List WData} {vals:List Value}
  (hpre:l.row.toRowW.claim.pre args=true) (hwl:WellAll P h vals args) :
  ∃ a vs ns,vals=[Value.ref a]/\args=[WData.list (ns.map WData.int)]/\h.get? a=some { cls:=.type "list",data:=.seq vs.toArray }/\IntsAre vs ns/\ns.length<=n:=by
 have hsh:WShape.hasAll [] args [.list .int]=true:=(pre_splitW hpre).1
 have hc:l.pre.holds [] { args:=args }=true:=(pre_splitW hpre).2
 obtain⟨d,r,rfl,h1,h2⟩:=hasAllW_cons hsh
 obtain rfl:=hasAllW_nil h2
 obtain⟨xs,rfl,h3⟩:=hasW_list h1
 obtain⟨ns,rfl⟩:=items_int h3
 have hlen:ns.length<=n:=by
  unfold OpenLaw.pre at hc
  have h4:(WTm.not (.lt (.lit (.int (n:Int))) (.len (.arg 0)))).holds [] { args:=[.list (ns.map .int)] }=true:=by
   have h4:=(holds_andW hc).1
   rw [hn] at h4
   exact h4
  have h5:=condW_of h4 (w_not (w_lt w_lit (w_len_list (w_arg rfl))))
  rw [apP] at h5
  refine Nat.le_of_not_lt fun q=>?_
  have q':(n:Int)<((ns.length:Nat):Int):=by omega
  first
   | (rw [decide_eq_true q'] at h5;exact absurd h5 (by decide))
   | (simp at h5;omega)
 cases hwl with
 | cons w1 w2 =>
  cases w2
  cases w1 with
  | list ho hall=>exact⟨_,_,ns,rfl,rfl,ho,aaU ns _ hall,hlen⟩
theorem ahN (l:OpenLaw) (args:List WData):l.row.toRowW.claim.post args (.bool true) args=true :=
 postW_of (r:=l.row.toRowW) (X:=(true == true))
  (show WShape.has [] (.bool true) .bool=true by first | rfl | decide | simp [WShape.has,WShape.arms,WShape.armsAll])
  (show (WTm.eq .res (.lit (.bool true))).value [] { args:=args,res:=some (.bool true),after:=args }=some (.bool (true == true)) from w_eq_bool (w_res rfl) w_lit) rfl
theorem attach_call {l:OpenLaw} {n:Nat} {q:Program} {loose:List Str} {XP:(Str->Option Value)->Heap->Prop} {YP:World->Heap->Prop} {d:DefRec}
  (hn:l.most=some n) (hdf:d.params.defaults=[])
  (call:∀ (w:World) (s₀ s₁:Shared) (mg mb:Str->Option Value) (fa:Addr) (o:Obj) (pm cd doc:Value) (a:Addr) (vs:List Value) (ns:List Int),
   Ground q loose [] XP w s₀ mg mb s₁.heap->YP w s₁.heap ->
   s₁.heap.get? fa=some o->o.data=.func (docDef d.name d.params d.body d.scope pm cd doc)->s₁.heap.CodeRec cd d.name->mg d.name=some (.ref fa) ->
   s₁.heap.get? a=some { cls:=.type "list",data:=.seq vs.toArray }->IntsAre vs ns->ns.length<=n->s₁.gens=#[] ->
   codeAny (model l.prog w) callerA (.call (.ref fa) ⟨[.ref a],[]⟩) (fun r s'=>r=.ok (.ret (.bool true))/\OldK s₁.heap s'.heap/\s'.os=s₁.os/\AllBare s'.gens) s₁) :
  WalkO q loose XP YP l.row.toRowW d [] (fun f vs=>PySem.call f vs):=by
 intro w s₀ s₁ mg mb G Y fa o pm cd doc dV kV ho hd hcd hD hmg hg args vals as hpre hlay hrd hwl hlo
 obtain rfl:dV=.none:=Dflts.none hD hdf
 obtain rfl:kV=.none:=Dflts.noKw hD
 obtain⟨a,vs,ns,rfl,rfl,hobj,hints,hlen⟩:=ahM hn hpre hwl
 refine enter_call (codeAny_mono (call w s₀ s₁ mg mb fa o pm cd doc a vs ns G Y ho (fd_plain hd) hcd hmg hobj hints hlen hg) fun r s' hq=>?_)
 obtain⟨rfl,h2,h3,h4⟩:=hq
 exact⟨.inl ⟨.bool true,.bool true,[],rfl,fun _=>rfl,.bool true,ahN l _,fun _=>⟨List.Pairwise.nil,fun _ hm=>(nomatch hm)⟩⟩,h2,h3,h4⟩
section
variable {prog:Program} {w:World} {A:Around} {E:Value->Shared->Prop} {s:Shared} {K:Frag}
end
end Att
namespace L2
open PySem PySem.Spec PyProof.Rows
theorem aal:∀ {vs:List Value} {ns:List Int},IntsAre vs ns->Vals (ns.map V.int) vs
 | _,_,.nil=>.nil
 | _,_,.cons n t h=>.cons ⟨t,rfl⟩ (aal h)
def anG (H:Hp):Prop:=∀ b,H b=none \/ ∃ o xs,H b=some (.frz o (.lst xs))
theorem ai4 {P:Program} {w:World} {K:apT} {mg mb:Str->Option Value} {CX:CXT} {k:Nat} {fa a:Addr} {fd:FuncData} {x:Str} {sp:Sp} {s₁:Shared} {vs:List Value} {ns:List Int}
  (KX:K.In s₁.heap) (hns:s₁.heap.Ns mainGlobals mg) (hb:s₁.heap.Ns builtinsNs mb) (hbb:∀ x:Str,x ≠ "__name__"->mb x=bootBuiltins x) (hlim:s₁.heap.NoLimit) (hg:s₁.gens=#[])
  (ha:s₁.heap.get? a=some { cls:=.type "list",data:=.seq vs.toArray }) (hi:IntsAre vs ns) (hl:ns.length<=sizeLine) (hr:Room k callerA)
  (F:∀ base:Heap,K.In base->base.Ns mainGlobals mg->FnOk P w K mg base CX k fa fd [x] sp) (hbind:∀ (s:Shared) (u:Value),BindsTo s fd ⟨[u],[]⟩ [(x,u)])
  (hsp:∀ H:Hp,anG H->SqL K H a (ns.map V.int)->sp [.ref a] H (fun v _=>v=.bl true) fun _ _ _=>False)
  (hCX:∀ H e s',CX [] H s₁ (fun _ _ _=>False) e s'->False) :
  codeAny (model P w) callerA (.call (.ref fa) ⟨[.ref a],[]⟩) (fun r s'=>r=.ok (.ret (.bool true))/\OldK s₁.heap s'.heap/\s'.os=s₁.os/\AllBare s'.gens) s₁:=by
 have rv:=aal hi
 have lenV:=hi.length
 -- from an abstract heap in which nothing but the script may be tracked
 have core:∀ H:Hp,anG H->SqL K H a (ns.map V.int)->HOk P w H s₁.heap->(∀ b,H b≠none->b=a)->(H a≠none->K.lookup a=none) ->
   codeAny (model P w) callerA (.call (.ref fa) ⟨[.ref a],[]⟩) (fun r s'=>r=.ok (.ret (.bool true))/\OldK s₁.heap s'.heap/\s'.os=s₁.os/\AllBare s'.gens) s₁:=by
  intro H hO hS hok hA hK
  have base_of:∀ {b:Addr} {o:Obj},s₁.heap.get? b=some o->H b=none->(ac6 s₁.heap H).get? b=some o:=fun e n=>aiN e n
  have noA:∀ {b:Addr} {o:Obj} {es:Array DictEntry} {ep:Nat},s₁.heap.get? b=some o->o.data=.dict es ep->H b=none:=fun {b o es ep} e d=>by
   cases q:H b with
   | none=>rfl
   | some u =>
    have e':b=a:=hA b (by rw [q];simp)
    subst e'
    rw [ha] at e;cases e
    have d':Data.seq vs.toArray _=Data.dict es ep:=d
    cases d'
  have nsK:∀ {b:Addr} {m:Str->Option Value},s₁.heap.Ns b m->(ac6 s₁.heap H).Ns b m:=fun {b m} ⟨o,es,ep,e,d,r⟩=>⟨o,es,ep,base_of e (noA e d),d,r⟩
  have hKb:K.In (ac6 s₁.heap H):=fun b o e=>base_of (KX b o e) (by
   cases q:H b with
   | none=>rfl
   | some u =>
    have e':b=a:=hA b (by rw [q];simp)
    subst e'
    rw [hK (by rw [q];simp)] at e;cases e)
  have hM:Mod K mg (ac6 s₁.heap H):=⟨hKb,nsK hns,⟨mb,nsK hb,hbb⟩,let⟨mc,h1,h2⟩:=hlim;⟨mc,nsK h1,h2⟩⟩
  have e0:Env0 P w K mg (ac6 s₁.heap H) callerA [] s₁ H:=⟨rfl,hM,fun b o e=>ak9 e,arR (ahB _ _),trivial,fun b hb=>absurd (show b∈([]:List Addr) from hb) (by simp),hok,.of_eq hg⟩
  refine codeAny_mono ((F _ hKb (nsK hns)).run callerA [] s₁ H ⟨[.ref a],[]⟩ [.ref a] [.ref a] _ _ hr e0 (hbind s₁ (.ref a)) (.cons rfl .nil) (hsp H hO hS)) fun r s' h=>?_
  cases r with
  | error e=>exact (hCX H e s' h).elim
  | ok fl =>
   cases fl with
   | next=>exact asj h
   | brk=>exact asj h
   | cont=>exact asj h
   | ret u =>
    obtain⟨v,H',os,bare,un,hok',r',q⟩:=h
    have q':v=.bl true:=q
    subst q'
    obtain rfl:u=Value.bool true:=r'
    refine⟨rfl,OldK.of_keep fun b o e=>?_,os,bare⟩
    cases q:H b with
    | none=>exact un.keep b o e q (by intro z;exact absurd (show b∈([]:List Addr) from z) (by simp)) (by simp)
    | some u =>
     rcases hO b with z | ⟨ob,xs,z⟩
     ·rw [q] at z;cases z
     ·have z2:=un.frzs b ob _ z
      obtain⟨e1,_⟩:=hok b _ z
      obtain⟨e2,_⟩:=hok' b _ z2
      rw [e] at e1;cases e1
      exact e2
 cases hk:K.lookup a with
 | some o =>
  -- the script is one of the module's own objects
  have e:=KX a o hk
  rw [ha] at e
  cases e
  refine core (fun _=>none) (fun _=>.inl rfl) (.inr ⟨_,vs.toArray,_,hk,rfl,rfl,rfl,by rw [ap9,lenV];exact hl,by simpa using rv⟩) (fun b u z=>by have z':(none:Option HO)=some u:=z;cases z') (fun b z=>absurd rfl z) fun z=>absurd rfl z
 | none =>
  refine core (fun b=>if b=a then some (.frz { cls:=.type "list",data:=.seq vs.toArray } (.lst (ns.map V.int))) else none) (fun b=>?_) (.inl (.inr ⟨{ cls:=.type "list",data:=.seq vs.toArray },if_pos rfl⟩)) (fun b u z=>?_) (fun b z=>?_) fun _=>hk
  ·by_cases hb:b=a
   ·exact .inr ⟨_,_,if_pos hb⟩
   ·exact .inl (if_neg hb)
  ·by_cases hb:b=a
   ·have z':=(if_pos hb).symm.trans z
    cases z'
    subst hb
    exact⟨ha,by rw [apP];exact hl,vs,_,rv,ha⟩
   ·have z':=(if_neg hb).symm.trans z
    cases z'
  ·by_cases hb:b=a
   ·exact hb
   ·exact absurd (if_neg hb) z
abbrev KOf {K:apT} {h:Heap} (_:K.In h):apT:=K
theorem walk_of {l:PySem.W.OpenLaw} {n k:Nat} {q:Program} {loose:List Str} {XP:(Str->Option Value)->Heap->Prop} {YP:World->Heap->Prop} {d:DefRec} {K:Params->apT} {CX:World->CXT} {sp:World->Sp} {x:Str}
  (hn:l.most=some n) (hn2:n<=sizeLine) (hdf:d.params.defaults=[]) (hr:Room k callerA)
  (hY:∀ (w:World) (h:Heap),YP w h->(K w.params).In h)
  (F:∀ (w:World) (mg:Str->Option Value) (fa:Addr) (h:Heap),(K w.params).In h->h.Ns mainGlobals mg->mg d.name=some (.ref fa) ->
   ∃ fd:FuncData,(∀ (s:Shared) (u:Value),BindsTo s fd ⟨[u],[]⟩ [(x,u)]) /\
    ∀ base:Heap,(K w.params).In base->base.Ns mainGlobals mg->FnOk l.prog w (K w.params) mg base (CX w) k fa fd [x] (sp w))
  (hsp:∀ (w:World) (H:Hp) (a:Addr) (ns:List Int),ns.length<=n->anG H->SqL (K w.params) H a (ns.map V.int)->sp w [.ref a] H (fun v _=>v=.bl true) fun _ _ _=>False)
  (hCX:∀ (w:World) (H:Hp) (s:Shared) (e:Value) (s':Shared),CX w [] H s (fun _ _ _=>False) e s'->False) :
  PySem.W.WalkO q loose XP YP l.row.toRowW d [] (fun f vs=>PySem.call f vs):=by
 refine Att.attach_call hn hdf fun w s₀ s₁ mg mb fa o pm cd doc a vs ns G Y ho hd hcd hmg hobj hints hlen hg=>?_
 have KX:=hY w _ Y
 obtain⟨fd,hb,hF⟩:=F w mg fa _ KX G.T.g hmg
 exact ai4 KX G.T.g G.T.b G.T.builtins G.T.nolimit hg hobj hints (aqn hlen hn2) hr hF hb (fun H hO hS=>hsp w H a ns hlen hO hS) fun H e s'=>hCX w H s₁ e s'
end L2
/- THE LAST THEOREM (shape;LID,My.* are yours):
   My.Adr: a structure of the addresses that your layer names (classes,functions);My.Txt K t: a structure (Prop) of the equations over K;
   My.txt_mk:{K} {implicit addresses ..} (e1:nsIn K mainGlobals "law"=some (some (.ref f))) (e2:K.lookup f=some ⟨oc,od,.func (fnOf "law" "law" params body scope dV kV doc pm an cdv ct),sl⟩) (e3:codeIn K cdv "law"=true) ..:∃ t,My.Txt K t
set_option maxRecDepth 100000 in
set_option maxHeartbeats 0 in
theorem PySem.Challenge.cw_LID_holds : PySem.Challenge.rw_LID.Holds := by
 w_on;o_law;k_head;(case hw=>w_witness2)
 k_fill
 refine L2.walk_of (l:=PySem.Challenge.rw_LID) (n:=63) (k:=40) (x:="script") (CX:=fun w=>..) (sp:=fun _=>My.sp_law) rfl (by decide) rfl ⟨rfl,by decide,by decide⟩ (fun w h Y=>PySem.W.kIn_of Y) ?F ?S ?C
 case F =>
  intro w mg fa h KX G hmg
  have T:∃ t,My.Txt (L2.KOf KX) t:=by
   dsimp only [L2.KOf]                          -- K must stand as «<heap const> w.params» for k_is
   refine' My.txt_mk ?e1 ?e2 ?e3 ..
   (case e1=>PySem.W.k_is)                    -- in the order: a name->its address->its object->its parts
   (case e2=>PySem.W.k_is)
   ..
  obtain⟨t,T⟩:=T
  have e0:=hmg.symm.trans (arU KX G T.law)
  cases e0                                       -- fa is the law's own address
  exact⟨_,fun s u=>.of_eq rfl,fun base kb nb=>My.law_fn T kb nb⟩     -- if «.of_eq rfl» comes too early: refine' ⟨_,?b,fun base kb nb=>My.law_fn T kb nb⟩;exact fun s u=>.of_eq rfl
 case S=>exact fun w H a ns hl hO hS=>..
 case C=>exact ..
(the tactic k_is has no namespace: write k_is) -/
namespace L2
open PySem PySem.Spec PyProof.Rows
def y6 (s:Stmt):Arguments:=match s with
 | .FunctionDef _ a _ _ _ _ _ _ _ _=>a
 | _=>{ posonlyargs:=[],args:=[],vararg:=none,kwonlyargs:=[],kw_defaults:=[],kwarg:=none,defaults:=[] }
def yy (s:Stmt):List Stmt:=match s with
 | .FunctionDef _ _ b _ _ _ _ _ _ _=>b
 | _=>[]
def zr (s:Stmt):Scope:=match s with
 | .FunctionDef _ _ _ _ _ _ sc _ _ _=>sc
 | _=>{ kind:=.function,names:=[],isGenerator:=false,isCoroutine:=false }
abbrev CX0:CXT:=fun _ _ _ _ _ _=>False
abbrev E0:XK:=fun _ _ _=>False
theorem ao0 {X:Cx}:Passes CX0 X E0:=fun _ _ _ _ _ _ _ h=>h.elim
structure Fun (K:apT) (x qual:Str) (st:Stmt) (f:Addr) (fd:FuncData):Prop where
 ex:∃ (oc:Value) (od:Option Addr) (kV doc pm:Value) (an:Option Addr) (cdv ct:Value) (osl:Array (Option Value)),
  fd=arp x qual (y6 st) (yy st) (zr st) .none kV doc pm an cdv ct/\K.lookup f=some ⟨oc,od,.func fd,osl⟩/\atx K cdv qual=true
 kp:arf K (.ref f)=true
section
variable {P:Program} {w:World} {K:apT} {mg:Str->Option Value} {base:Heap}
theorem Fun.ok {x qual:Str} {st:Stmt} {f:Addr} {fd:FuncData} {N ps:List Str} {k:Nat} {sp:Sp} (F:Fun K x qual st f fd) (S:FnScope N ps (zr st)) (len:∀ vs H Q E,sp vs H Q E->vs.length=ps.length)
  (hbody:∀ (cdv:Value) (A:Around) (outer:List Env) (s:Shared) (H:Hp) (vs:List V) (Q:VK) (E:XK),Room k (A.deeper (envOfC qual (zr st) s.heap.objs.size f cdv))->sp vs H Q E ->
   ∃ t,PSs (yj CX0 P w K mg base N qual (zr st) f cdv A outer s H E).nox (yy st) t/\t { nx:=fun _ H'=>Q .non H',rt:=Q } (start N vs) H):FnOk P w K mg base CX0 (k+1) f fd ps sp:=by
 obtain⟨oc,od,kV,doc,pm,an,cdv,ct,osl,rfl,lk,hcd⟩:=F.ex
 refine aoX lk hcd S len fun A outer s H vs Q E hr hsp=>?_
 obtain⟨t,h,q⟩:=hbody cdv A outer s H vs Q E hr hsp
 exact⟨t,h.nox,q⟩
theorem Fun.binds {x qual:Str} {st:Stmt} {f:Addr} {fd:FuncData} {ps:List Str} (F:Fun K x qual st f fd)
  (h:∀ (kV doc pm:Value) (an:Option Addr) (cdv ct:Value) (us:List Value),us.length=ps.length->bindArgs (arp x qual (y6 st) (yy st) (zr st) .none kV doc pm an cdv ct) ⟨us,[]⟩=pure (ps.zip us)):Binds K fd ps []:=by
 obtain⟨oc,od,kV,doc,pm,an,cdv,ct,osl,rfl,lk,hcd⟩:=F.ex
 exact .all (h kV doc pm an cdv ct)
theorem afw {x qual:Str} {st:Stmt} {f:Addr} {oc:Value} {od an:Option Addr} {osl:Array (Option Value)} {kV doc pm cdv ct:Value} (l:K.lookup f=some ⟨oc,od,.func (arp x qual (y6 st) (yy st) (zr st) .none kV doc pm an cdv ct),osl⟩)
  (c:atx K cdv qual=true) (k:arf K (.ref f)=true):Fun K x qual st f (arp x qual (y6 st) (yy st) (zr st) .none kV doc pm an cdv ct):=⟨⟨oc,od,kV,doc,pm,an,cdv,ct,osl,rfl,l,c⟩,k⟩
end
theorem yc {n:Nat} (h:n<=1000):n<sizeLine:=Nat.lt_of_le_of_lt h (by decide)
section
variable {X:Cx}
theorem pv (i:Nat) {x:Str} {pos:Pos} (hN:X.N[i]?=some x:=by rfl) (hv:Vis X.env.scope x:=by first | exact Or.inl rfl | exact Or.inr (Or.inl rfl) | exact Or.inr (Or.inr rfl)) (hd:(x == ("__debug__":Str))=false:=by decide)
  (hcd:(x == ("__classdict__":Str))=false:=by decide):PE X (.Name x pos) (yr i):=anj hN hv hd hcd
end
def Same (H H':Hp):Prop:=∀ b o,H b=some o->H' b=some o
theorem Same.refl (H:Hp):Same H H:=fun _ _ h=>h
theorem Same.trans {H H1 H2:Hp} (a:Same H H1) (b:Same H1 H2):Same H H2:=fun c o h=>b c o (a c o h)
theorem Same.free {H H':Hp} (e:Same H H') {l:Addr} (h:H' l=Option.none):H l=Option.none:=by
 cases q:H l with
 | none=>rfl
 | some o =>
  rw [e l o q] at h
  cases h
theorem Same.seq {K:apT} {H H':Hp} {a:Addr} {xs:List V} (e:Same H H') (h:SqL K H a xs):SqL K H' a xs:=by
 rcases h with (h | ⟨o,h⟩) | h
 ·exact .inl (.inl (e _ _ h))
 ·exact .inl (.inr ⟨o,e _ _ h⟩)
 ·exact .inr h
def yk (env:Env):List (Str×NameKind)->List (Str×Addr)->List (Str×Addr)
 | [],acc=>acc
 | (x,k) :: r,acc=>if k == .free then yk env r ((x,(env.cells.lookup x).getD 0) :: acc) else yk env r acc
theorem afx {sc:Scope} {env:Env} (h:∀ x,(x,NameKind.free)∈sc.names->∃ c,env.cells.lookup x=some c):closureFor sc env=pure (yk env sc.names []):=by
 have key:∀ (names:List (Str×NameKind)) (acc:List (Str×Addr)),(∀ x,(x,NameKind.free)∈names->∃ c,env.cells.lookup x=some c) ->
   (forIn names acc fun (x:Str×NameKind) (cs:List (Str×Addr))=>if (x.2 == NameKind.free)=true then (do let c <- cellOf env x.1;pure (ForInStep.yield ((x.1,c) :: cs))) else pure (ForInStep.yield cs))=(pure (yk env names acc):Sem (List (Str×Addr))):=by
  intro names
  induction names with
  | nil=>intro acc _;rfl
  | cons p r ih =>
   intro acc hh
   obtain⟨x,k⟩:=p
   rw [ar0]
   unfold yk
   by_cases hk:(k == NameKind.free)=true
   ·have hk':k=.free:=by simpa using hk
    subst hk'
    obtain⟨c,hc⟩:=hh x apX
    simp only [beq_self_eq_true,if_true]
    rw [<-ih _ fun y hy=>hh y (apW _ hy)]
    have:cellOf env x=pure c:=by unfold cellOf;rw [hc]
    rw [this,hc]
    rfl
   ·simp only [hk,aqB,if_false]
    rw [<-ih _ fun y hy=>hh y (apW _ hy)]
    rfl
 simp only [closureFor]
 have q:=key sc.names [] h
 refine Eq.trans ?_ (Eq.trans (congrArg (fun z=>z >>= fun r=>pure r) q) ?_)
 ·rfl
 ·rfl
theorem qx {env:Env}:∀ {names:List (Str×NameKind)} {acc:List (Str×Addr)} {p:Str×Addr},p∈yk env names acc->p∈acc \/ ((p.1,NameKind.free)∈names/\p.2=(env.cells.lookup p.1).getD 0)
 | [],acc,p,h=>.inl h
 | (x,k) :: r,acc,p,h=>by
  unfold yk at h
  split at h
  ·rename_i hk
   have hk':k=.free:=by simpa using hk
   subst hk'
   rcases qx h with q | ⟨q,e⟩
   ·rcases ap0.mp q with q | q
    ·subst q;exact .inr ⟨apX,rfl⟩
    ·exact .inl q
   ·exact .inr ⟨apW _ q,e⟩
  ·rcases qx h with q | ⟨q,e⟩
   ·exact .inl q
   ·exact .inr ⟨apW _ q,e⟩
theorem qP {α:Type}:∀ {l:List (Str×α)} {x:Str} {v:α},(x,v)∈l->∃ u,l.lookup x=some u
 | (y,u) :: r,x,v,h=>by
  rw [aqW]
  cases hb:x == y with
  | true=>exact⟨u,rfl⟩
  | false =>
   rcases ap0.mp h with e | h
   ·have:x=y:=congrArg Prod.fst e
    subst this
    simp at hb
   ·exact qP h
theorem vO {env:Env}:∀ {names:List (Str×NameKind)} {acc:List (Str×Addr)} {x:Str},(x,NameKind.free)∈names->(x,(env.cells.lookup x).getD 0)∈yk env names acc
 | (y,k) :: r,acc,x,h=>by
  have mono:∀ (names:List (Str×NameKind)) (acc:List (Str×Addr)) (p:Str×Addr),p∈acc->p∈yk env names acc:=by
   intro names
   induction names with
   | nil=>intro acc p hp;exact hp
   | cons q r ih =>
    intro acc p hp
    obtain⟨a,b⟩:=q
    unfold yk
    split
    ·exact ih _ _ (apW _ hp)
    ·exact ih _ _ hp
  unfold yk
  rcases ap0.mp h with e | h
  ·cases e
   simp only [beq_self_eq_true,if_true]
   exact mono _ _ _ apX
  ·split
   ·exact vO h
   ·exact vO h
theorem vJ {env:Env} {names:List (Str×NameKind)} {x:Str} {c:Addr} (h:∀ x,(x,NameKind.free)∈names->∃ c,env.cells.lookup x=some c) (e:(yk env names []).lookup x=some c):env.cells.lookup x=some c/\(x,NameKind.free)∈names:=by
 rcases qx (mem_of_lookup e) with q | ⟨q,e'⟩
 ·cases q
 ·obtain⟨c',hc⟩:=h _ q
  dsimp only at hc e'
  rw [hc] at e'
  exact⟨by rw [hc];exact congrArg some e'.symm,q⟩
theorem aaI {env:Env} {names:List (Str×NameKind)} {x:Str} {c:Addr} (h:∀ x,(x,NameKind.free)∈names->∃ c,env.cells.lookup x=some c) (hx:(x,NameKind.free)∈names) (e:env.cells.lookup x=some c):(yk env names []).lookup x=some c:=by
 obtain⟨u,hu⟩:=qP (vO (env:=env) (acc:=[]) hx)
 have:=(vJ h hu).1
 rw [this] at e
 rw [hu,e]
theorem y9:∀ {names:List (Str×NameKind)} {n:Nat} {acc:List (Str×Addr)} {x:Str} {c:Addr},(cellsFrom n names acc).lookup x=some c->(n<=c/\c<n+names.length/\(x,NameKind.cell)∈names) \/ (acc.lookup x=some c/\(x,NameKind.cell)∉names)
 | [],n,acc,x,c,h=>.inr ⟨h,by simp⟩
 | (y,k) :: r,n,acc,x,c,h=>by
  unfold cellsFrom at h
  split at h
  ·rename_i hk
   have hk':k=.cell:=by simpa using hk
   subst hk'
   rcases y9 h with⟨q1,q2,q3⟩ | ⟨q1,q2⟩
   ·exact .inl ⟨asW q1,aqq q2 (by rw [ap8];omega),apW _ q3⟩
   ·rw [aqW] at q1
    cases hb:x == y with
    | true =>
     rw [hb] at q1
     cases q1
     have:x=y:=by simpa using hb
     subst this
     exact .inl ⟨apY _,by rw [ap8];exact Nat.lt_add_of_pos_right (atr _),apX⟩
    | false =>
     rw [hb] at q1
     refine .inr ⟨q1,fun z=>?_⟩
     rcases ap0.mp z with e | z
     ·have:x=y:=congrArg Prod.fst e
      subst this
      simp at hb
     ·exact q2 z
  ·rename_i hk
   rcases y9 h with⟨q1,q2,q3⟩ | ⟨q1,q2⟩
   ·exact .inl ⟨q1,aqq q2 (by rw [ap8];omega),apW _ q3⟩
   ·refine .inr ⟨q1,fun z=>?_⟩
    rcases ap0.mp z with e | z
    ·have:k=.cell:=(congrArg Prod.snd e).symm
     subst this
     simp at hk
    ·exact q2 z
theorem jo:∀ (names:List (Str×NameKind)) (n:Nat) (acc:List (Str×Addr)),(acc.Pairwise fun x y=>x.2≠y.2)->(∀ p∈acc,p.2<n)->(cellsFrom n names acc).Pairwise fun x y=>x.2≠y.2
 | [],n,acc,h,_=>h
 | (y,k) :: r,n,acc,h,hl=>by
  unfold cellsFrom
  split
  ·refine jo r (n+1) _ (List.pairwise_cons.mpr ⟨fun p hp=>?_,h⟩) fun p hp=>?_
   ·exact arJ (hl p hp)
   ·rcases ap0.mp hp with e | hp
    ·subst e;exact ash _
    ·exact aqP (hl p hp)
  ·exact jo r n acc h hl
theorem acf {names:List (Str×NameKind)} {n:Nat} {acc:List (Str×Addr)} {x:Str} (h:names.lookup x=some .cell):∃ c,(cellsFrom n names acc).lookup x=some c :=
 asJ.mp (asl names n acc (.inl h))
theorem vK {names:List (Str×NameKind)} {n:Nat} {acc:List (Str×Addr)} {x:Str} (h:(acc.lookup x).isSome=true):∃ c,(cellsFrom n names acc).lookup x=some c :=
 asJ.mp (asl names n acc (.inr h))
theorem qg:∀ (names:List (Str×NameKind)) (h:Heap) (acc:List (Str×Addr)) (x:Str) (c:Addr),(cellsFrom h.objs.size names acc).lookup x=some c->h.objs.size<=c->(∀ p∈acc,p.2<h.objs.size)->(pushCells h names).IsCell c none
 | [],h,acc,x,c,e,hc,hl=>absurd (hl _ (mem_of_lookup e)) (atA.mpr hc)
 | (y,k) :: r,h,acc,x,c,e,hc,hl=>by
  unfold cellsFrom at e
  unfold pushCells
  split at e
  ·rename_i hk
   rw [if_pos hk]
   by_cases hcc:c=h.objs.size
   ·subst hcc
    exact⟨_,pushCells_keeps _ _ _ _ (ap7 _ rfl),rfl⟩
   ·have es:(h.push { cls:=.type "cell",data:=.cell none }).objs.size=h.objs.size+1:=aq5 ..
    refine qg r _ ((y,h.objs.size) :: acc) x c (by rw [es];exact e) (by rw [es];exact Nat.lt_of_le_of_ne hc (arw hcc)) fun p hp=>?_
    rw [es]
    rcases ap0.mp hp with e | hp
    ·subst e;exact ash _
    ·exact aqP (hl p hp)
  ·rename_i hk
   rw [if_neg hk]
   exact qg r h acc x c e hc hl
def zm (X:Cx) (sc:Scope) (N:List Str) (s₀:Shared) (H₀:Hp) (ex:List Addr) (pn:List (Addr×Obj)):Cx :=
 { X with N:=N,s₀:=s₀,H₀:=H₀,env:=compEnvC sc (cellsFrom (s₀.heap.objs.size+1) sc.names (yk X.env sc.names [])) s₀.heap.objs.size X.env,
          outer:=X.stack,ex:=ex,fn:=fun x=>decide (sc.names.lookup x=some .cell),pn:=pn,xe:=fun _ _=>False }
structure CompScope (NO:List Str) (scO:Scope) (N:List Str) (sc:Scope) (own:Nat) (fr:List Nat):Prop where
 kind:sc.kind=.function
 nd:N.Nodup
 snd:(sc.names.map (·.1)).Nodup
 free:∀ p∈sc.names,p.2=.free->scO.names.lookup p.1=some .cell \/ scO.names.lookup p.1=some .free
 frn:∀ p∈(N.drop own).zip fr,NO[p.2]?=some p.1/\sc.names.lookup p.1=some .free
 len:N.length=own+fr.length
def yS (own:Nat) (fr:List Nat) (σ:St):St:=asd own none++fr.map fun j=>(σ[j]?).getD none
theorem yh {α:Type}:∀ {l:List (Str×α)} {x:Str} {k:α},(l.map (·.1)).Nodup->(x,k)∈l->l.lookup x=some k
 | (y,u) :: r,x,k,nd,h=>by
  rw [aqf] at nd
  obtain⟨h1,h2⟩:=aqO.mp nd
  rw [aqW]
  rcases ap0.mp h with e | h'
  ·cases e;simp
  ·have:x≠y:=by
    intro e
    subst e
    exact h1 (aqd.mpr ⟨(x,k),h',rfl⟩)
   rw [beq_eq_false_iff_ne.mpr this]
   exact yh h2 h'
theorem jG {env:Env}:∀ {names:List (Str×NameKind)} {x:Str} {k:NameKind},names.lookup x=some k ->
  (names.map fun (n,k)=>if (k == NameKind.free && env.scope.kind == .function && env.kindOf n == some .cell) then (n,NameKind.cell) else (n,k)).lookup x=some (if (k == NameKind.free && env.scope.kind == .function && env.kindOf x == some .cell) then .cell else k)
 | (n,k') :: r,x,k,h=>by
  have ih:=@jG env r x k
  show List.lookup x ((if (k' == NameKind.free && env.scope.kind == .function && env.kindOf n == some .cell)=true then (n,NameKind.cell) else (n,k')) :: _)=_
  cases hx:x == n with
  | true =>
   have:x=n:=by simpa using hx
   subst this
   simp only [aqW,hx] at h
   cases h
   split <;> simp [aqW]
  | false =>
   simp only [aqW,hx] at h
   split
   ·simp only [aqW,hx];exact ih h
   ·simp only [aqW,hx];exact ih h
theorem jv {env:Env}:∀ {names:List (Str×NameKind)} {x:Str},names.lookup x=none ->
  (names.map fun (n,k)=>if (k == NameKind.free && env.scope.kind == .function && env.kindOf n == some .cell) then (n,NameKind.cell) else (n,k)).lookup x=none
 | [],_,_=>rfl
 | (n,k') :: r,x,h=>by
  have ih:=@jv env r x
  show List.lookup x ((if (k' == NameKind.free && env.scope.kind == .function && env.kindOf n == some .cell)=true then (n,NameKind.cell) else (n,k')) :: _)=_
  cases hx:x == n with
  | true=>simp only [aqW,hx] at h;cases h
  | false =>
   simp only [aqW,hx] at h
   split
   ·simp only [aqW,hx];exact ih h
   ·simp only [aqW,hx];exact ih h
section
variable {X:Cx} {pins:List (Addr×Obj)} {σ:St} {H:Hp} {s:Shared} {NO N:List Str} {scO sc:Scope} {own:Nat} {fr:List Nat} {fp:List Addr}
theorem aej {tk:Nat} (S:CompScope NO scO N sc own fr) (hN:X.N=NO) (hsc:X.env.scope=scO) (I:Inv X pins σ H s) (hf:∀ b∈fp,vG X pins H b) (ho:∀ b∈fp,∃ o,s.heap.get? b=some o/\∀ v,o.data≠.cell v) :
  Inv (zm X sc N s H fp (X.pn++pins)) [] (yS own fr σ) H { s with heap:=pushCells (s.heap.push { cls:=.type "dict",data:=.dict #[] }) sc.names,toks:=tk }:=by
 have hfree:∀ x,(x,NameKind.free)∈sc.names->∃ c,X.env.cells.lookup x=some c:=fun x hx=>I.ok.has x (by
  show X.env.scope.names.lookup x=_ \/ X.env.scope.names.lookup x=_
  rw [hsc]
  exact S.free _ hx rfl)
 have hclt:∀ p∈yk X.env sc.names [],p.2<s.heap.objs.size:=fun p hp=>by
  rcases qx hp with q | ⟨q,e⟩
  ·cases q
  ·obtain⟨c,hc⟩:=hfree _ q
   rw [e,hc]
   obtain⟨v,o,ho,_⟩:=I.cell _ c hc
   exact ap5 ho
 have hsz:(s.heap.push { cls:=.type "dict",data:=.dict #[] }).objs.size=s.heap.objs.size+1:=aq5 ..
 have hk:∀ b o,s.heap.get? b=some o->(pushCells (s.heap.push { cls:=.type "dict",data:=.dict #[] }) sc.names).get? b=some o:=fun b o e=>pushCells_keeps _ _ _ _ (apV _ e)
 have hcase:∀ {x:Str} {c:Addr},(cellsFrom (s.heap.objs.size+1) sc.names (yk X.env sc.names [])).lookup x=some c->(s.heap.objs.size+1<=c/\(x,NameKind.cell)∈sc.names) \/ (X.env.cells.lookup x=some c/\(x,NameKind.free)∈sc.names):=fun {x c} e=>by
  rcases y9 e with⟨q1,_,q3⟩ | ⟨q1,_⟩
  ·exact .inl ⟨q1,q3⟩
  ·exact .inr (vJ hfree q1)
 have clap:(yk X.env sc.names []).Pairwise fun x y=>x.2≠y.2:=by
  have key:∀ (names:List (Str×NameKind)) (acc:List (Str×Addr)),(∀ p∈acc,X.env.cells.lookup p.1=some p.2)->(∀ x,(x,NameKind.free)∈names->∃ c,X.env.cells.lookup x=some c)->(acc.Pairwise fun x y=>x.2≠y.2)->(∀ p∈acc,(p.1,NameKind.free)∉names)->(names.map (·.1)).Nodup ->
    (yk X.env names acc).Pairwise fun x y=>x.2≠y.2:=by
   intro names
   induction names with
   | nil=>intro acc _ _ h _ _;exact h
   | cons p r ih =>
    intro acc h1 h2 h3 h4 h5
    obtain⟨y,k⟩:=p
    rw [aqf] at h5
    obtain⟨n1,n2⟩:=aqO.mp h5
    unfold yk
    split
    ·rename_i hk
     have hk':k=.free:=by simpa using hk
     subst hk'
     obtain⟨c,hc⟩:=h2 y apX
     rw [hc]
     refine ih _ (fun p hp=>?_) (fun x hx=>h2 x (apW _ hx)) (List.pairwise_cons.mpr ⟨fun p hp=>?_,h3⟩) (fun p hp=>?_) n2
     ·rcases ap0.mp hp with e | hp
      ·subst e;exact hc
      ·exact h1 p hp
     ·intro e
      have e':p.2=c:=e.symm
      have:=I.ok.inj _ _ _ hc (e'▸h1 p hp)
      exact h4 p hp (this▸apX)
     ·rcases ap0.mp hp with e | hp
      ·subst e
       intro z
       exact n1 (aqd.mpr ⟨_,z,rfl⟩)
      ·intro z;exact h4 p hp (apW _ z)
    ·exact ih acc h1 (fun x hx=>h2 x (apW _ hx)) h3 (fun p hp z=>h4 p hp (apW _ z)) n2
  exact key sc.names [] (fun p hp=>by cases hp) hfree List.Pairwise.nil (fun p hp=>by cases hp) S.snd
 have apart:=jo sc.names (s.heap.objs.size+1) _ clap fun p hp=>aqP (hclt p hp)
 have hkd:∀ x,(zm X sc N s H fp (X.pn++pins)).env.kindOf x=some .cell \/ (zm X sc N s H fp (X.pn++pins)).env.kindOf x=some .free->(x,NameKind.cell)∈sc.names \/ (x,NameKind.free)∈sc.names:=fun x hx=>by
  cases q:sc.names.lookup x with
  | none =>
   have e:(zm X sc N s H fp (X.pn++pins)).env.kindOf x=none:=jv q
   rw [e] at hx
   rcases hx with z | z <;> cases z
  | some k =>
   have e:(zm X sc N s H fp (X.pn++pins)).env.kindOf x=some _:=jG (env:=X.env) q
   rw [e] at hx
   have hm:=mem_of_lookup q
   cases k <;> first | exact .inl hm | exact .inr hm | (rcases hx with z | z <;> cases z)
 have cellAt:∀ x c,(cellsFrom (s.heap.objs.size+1) sc.names (yk X.env sc.names [])).lookup x=some c->∃ v,(pushCells (s.heap.push { cls:=.type "dict",data:=.dict #[] }) sc.names).IsCell c v:=fun x c e=>by
  rcases hcase e with⟨q,_⟩ | ⟨q,_⟩
  ·exact⟨none,qg _ _ _ x c (by rw [hsz];exact e) (by rw [hsz];exact q) fun p hp=>by rw [hsz];exact aqP (hclt p hp)⟩
  ·obtain⟨v,o,ho,hd⟩:=I.cell x c q
   exact⟨v,o,hk _ _ ho,hd⟩
 have lt_of_cell:∀ x c,X.env.cells.lookup x=some c->c<s.heap.objs.size:=fun x c e=>by
  obtain⟨v,o,ho,hd⟩:=I.cell x c e
  exact ap5 ho
 have lt_of_fp:∀ b∈fp,b<s.heap.objs.size:=fun b hb=>by
  obtain⟨o,e,_⟩:=ho b hb
  exact ap5 e
 have okX:(zm X sc N s H fp (X.pn++pins)).Ok:=by
  refine⟨I.mod,S.kind,I.ok.glob,I.ok.blt,apY _,fun x y c h1 h2=>name_of_addr apart (mem_of_lookup h1) (mem_of_lookup h2),fun x hx=>?_,fun x c hx hc=>?_,I.ok.hd,I.ok.frames,.inl rfl,fun b hb=>⟨aqp (lt_of_fp b hb),fun x c e=>?_⟩,I.bs,aqn I.ok.bsz I.sz,fun b o e hb=>?_,fun b hb z=>?_,I.stack,I.stkFree⟩
  ·rcases hkd x hx with q | q
   ·exact acf (yh S.snd q)
   ·obtain⟨c,hc⟩:=hfree x q
    exact vK (by rw [aaI hfree q hc];rfl)
  ·have hx':sc.names.lookup x=some .cell:=of_decide_eq_true hx
   rcases hcase hc with⟨q,_⟩ | ⟨_,q⟩
   ·exact asW q
   ·rw [yh S.snd q] at hx';cases hx'
  ·rcases hcase e with⟨q,_⟩ | ⟨q,_⟩
   ·exact arJ (aqq (lt_of_fp b hb) (asW q))
   ·exact (hf b hb).2.2.2.2.1 x c q
  ·rcases (hf b hb).2.2.2.1 with z | z
   ·exact I.ok.noex b o e z
   ·exact absurd (ap5 e) (atA.mpr (aqn I.ok.bsz z))
  ·rcases ap0.mp (I.stkSub b z) with q | q
   ·exact (hf b hb).2.1 q
   ·exact (hf b hb).2.2.1 q
 refine⟨okX,rfl,I.bare,Un.kept hk,⟨fun _=>none,(Heap.Ns.new s.heap (.type "dict")).keeps (pushCells_keeps _ _),fun i x v h1 h2 h3=>?_⟩,cellAt,I.hok.fresh (apY _),fun x c e=>?_,fun p hp=>?_,I.hok.kept hk,?_⟩
 ·obtain⟨m,_,hl⟩:=id I.loc
  have h2':(yS own fr σ)[i]?=some (some v):=h2
  have hio:own<=i:=by
   unfold yS at h2'
   refine Nat.le_of_not_lt fun hi=>?_
   rw [ap1 (by simpa using hi),ase] at h2'
   split at h2' <;> cases h2'
  obtain⟨k,rfl⟩:=Nat.exists_eq_add_of_le hio
  have h1':N[own+k]?=some x:=h1
  unfold yS at h2'
  rw [ap2 (by simp)] at h2'
  simp only [as5,Nat.add_sub_cancel_left,apU] at h2'
  cases hj:fr[k]? with
  | none=>rw [hj] at h2';cases h2'
  | some j =>
   rw [hj] at h2'
   have h2'':(σ[j]?).getD none=some v:=Option.some.inj h2'
   have hp:(x,j)∈(N.drop own).zip fr:=by
    refine apZ (i:=k) ?_
    rw [List.getElem?_zip_eq_some]
    exact⟨by rw [asP];exact h1',hj⟩
   obtain⟨f1,f2⟩:=S.frn _ hp
   have hσ:σ[j]?=some (some v):=by
    cases q:σ[j]? with
    | none=>rw [q] at h2'';cases h2''
    | some w=>rw [q] at h2'';exact congrArg some h2''
   have hxf:(x,NameKind.free)∈sc.names:=mem_of_lookup f2
   have hko:=S.free _ hxf rfl
   have hvis:Vis X.env.scope x:=by rw [hsc];exact .inr hko
   obtain⟨u,ru,q⟩:=hl j x v (by rw [hN];exact f1) hσ hvis
   refine⟨u,ru,.inr ⟨?_,?_⟩⟩
   ·have e:(zm X sc N s H fp (X.pn++pins)).env.kindOf x=some _:=jG (env:=X.env) f2
    rw [e]
    split
    ·exact .inl rfl
    ·exact .inr rfl
   ·rcases q with⟨k1,_⟩ | ⟨_,c,hc,z⟩
    ·have k1':X.env.scope.names.lookup x=some .local:=k1
     rw [hsc] at k1'
     rcases hko with z | z <;> rw [z] at k1' <;> cases k1'
    ·obtain⟨o,ho,hd⟩:=z
     refine⟨c,?_,o,hk _ _ ho,hd⟩
     have hcl:=aaI hfree hxf hc
     obtain⟨c',hc'⟩:=vK (names:=sc.names) (n:=s.heap.objs.size+1) (acc:=yk X.env sc.names []) (x:=x) (by rw [hcl];rfl)
     rcases hcase hc' with⟨_,z⟩ | ⟨z,_⟩
     ·have:=yh S.snd z
      rw [f2] at this;cases this
     ·rw [hc] at z;cases z;exact hc'
 ·rcases hcase e with⟨q,_⟩ | ⟨q,_⟩
  ·exact I.hok.fresh (asW q)
  ·exact I.freeC x c q
 ·have hp':p∈X.pn++pins:=by simpa [zm] using hp
  obtain⟨e,n,ne,nf,d⟩:=I.pin p hp'
  refine⟨hk _ _ e,n,aqp (ap5 e),fun z=>?_,d⟩
  rcases ap0.mp (I.stkSub _ z) with q | q
  ·exact ne q
  ·exact nf q
 ·show (yS own fr σ).length=N.length
  unfold yS
  rw [S.len]
  simp
end
abbrev TB:=St->Hp->(St->Hp->Prop)->Prop
def PB (X:Cx) (act:Sem Unit) (t:TB):Prop :=
 ∀ (pins:List (Addr×Obj)) (s:Shared) (σ:St) (H:Hp) (Q:St->Hp->Prop),Inv X pins σ H s->t σ H Q->wpAny (model X.prog X.w) X.A act (fun _ s'=>∃ σ' H',Inv X pins σ' H' s'/\Q σ' H') X.xe s
def PTs (X:Cx) (ifs:List Expr) (t:TT):Prop :=
 ∀ (pins:List (Addr×Obj)) (s:Shared) (σ:St) (H:Hp) (Q:Bool->Hp->Prop),Inv X pins σ H s->t σ H Q ->
  wpAny (model X.prog X.w) X.A (forIn ifs true fun c r=>if r=true then do let ok <- isTrue c X.env (eval c X.env);pure (ForInStep.yield ok) else pure (ForInStep.yield r)) (TP X pins σ Q) X.xe s
def afy:TT:=fun _ H Q=>Q true H
theorem zN {X:Cx}:PTs X [] afy:=fun pins s σ H Q I h=>wpAny_tests_nil ⟨H,I,h⟩
theorem aa0 {X:Cx} {c:Expr} {t:TT} (hc:PT X c t):PTs X [c] t:=fun pins s σ H Q I h=>wpAny_tests_one (hc pins s σ H Q I h)
def vX (J:It) (g:TG) (tt:TT) (tb:TB):TB:=fun σ H Q=>∃ W:Nat->Nat->St->Hp->Prop,(∃ m,W 0 m σ H)/\∀ i m σ H,W i m σ H ->
 (J.stop i H/\Q σ H) \/ (J.go i H/\∀ x H',J.yld i H x H'->g x σ H' fun σ2 H2=>tt σ2 H2 fun b H3=>if b=true then tb σ2 H3 fun σ' H'=>∃ m',m'<m/\W (i+1) m' σ' H' else ∃ m',m'<m/\W (i+1) m' σ2 H3)
section
variable {X:Cx} {pins:List (Addr×Obj)} {s:Shared} {σ:St} {H:Hp} {tg:Expr} {e:Expr} {d:Nat} {acc:Value} {ifs:List Expr} {g:TG} {tt:TT} {tb:TB} {act:Sem Unit} {pos:Pos}
theorem vY (hx:∀ e s,X.xe e s->False) (hc:X.calm=true) (hg:PG X tg g) (ht:PTs X ifs tt) (hb:PB X act tb)
  (heq:∀ it,compTurn e d it acc X.env=(do
   standAt pos
   match <- pyNext it with
   | none=>pure (.done .next)
   | some v =>
    letOwnedTupleGo tg it v
    assign tg X.env v
    let mut ok:=true
    for c in ifs do
     if ok then ok <- isTrue c X.env (eval c X.env)
    if ok then
     act
    again (.compLoop e d it acc X.env)))
  (hqt:∀ it,(Code.compLoop e d it acc X.env).quiet=true)
  (hden:∀ it,(model X.prog X.w).den (.compLoop e d it acc X.env)=(compTurn e d it acc X.env).onRaise (fun x=>do noteFrame x X.env;theTreesLotGoes x))
  (hund:∀ it,X.A.under (.compLoop e d it acc X.env)=X.A)
  {it:Addr} {fp:List Addr} {tn:Nat->Heap->Prop} {J:It} {Q:St->Hp->Prop} {R:Result->Shared->Prop} (I:Inv X pins σ H s) (T:Turn X.prog X.w X.K tg J fp it tn) (st:tn 0 s.heap) (f:∀ b∈fp,vG X pins H b)
  (h:vX J g tt tb σ H Q) (hR:∀ σ' H' s',Inv X pins σ' H' s'->(∀ b∈fp,H' b=none)->Q σ' H'->R (.ok .next) s'):codeAny (model X.prog X.w) X.A (.compLoop e d (.ref it) acc X.env) R s:=by
 obtain⟨W,⟨m0,w0⟩,turn⟩:=h
 have stat:∀ {H':Hp},(∀ b∈fp,H' b=none)->∀ b∈fp,vG X pins H' b:=fun hn b hb=>⟨hn b hb,(f b hb).2⟩
 refine codeAny_loop (hqt _) (fun n s'=>∃ i σ' H',Inv X pins σ' H' s'/\tn i s'.heap/\(∀ b∈fp,H' b=none)/\W i n σ' H') ?_ m0 ⟨0,σ,H,I,st,fun b hb=>(f b hb).1,w0⟩
 rintro n s3 ⟨i,σ3,H3,I3,st3,fr3,w3⟩
 rw [hden,hund]
 refine wpAny_noted ?_
 rw [heq]
 have nox:∀ e' s',X.xe e' s'->notedBy (model X.prog X.w) X.A X.env (fun e s'=>R (.error e) s') e' s':=fun e' s' z=>(hx e' s' z).elim
 refine wpAny_bind (wpAny_standAt (wpAny_bind ?_))
 rcases turn i n σ3 H3 w3 with⟨stop,qn⟩ | ⟨go,step⟩
 ·refine wpAny_mono (T.done X rfl rfl rfl hc i pins s3 σ3 H3 X.xe I3 (stat fr3) st3 stop) (fun r s4 hr4=>?_) nox
  obtain⟨hr,I4⟩:=hr4
  subst hr
  exact wpAny_pure (hR σ3 H3 s4 I4 fr3 qn)
 ·refine wpAny_mono (T.item X rfl rfl rfl hc i pins s3 σ3 H3 X.xe I3 (stat fr3) st3 go) (fun r s4 hr4=>?_) nox
  obtain⟨u,hr,h4⟩:=hr4
  subst hr
  refine wpAny_bind (wpAny_mono h4 (fun _ s5 h5=>?_) nox)
  obtain⟨x,H5,I5,r5,y5,st5,fr5⟩:=h5
  have I5':=I5.pinned (stat fr5) (T.obj _ _ st5)
  refine wpAny_bind (wpAny_mono (hg _ s5 σ3 H5 x u _ I5' r5 (step x H5 y5)) (fun _ s6 h6=>?_) nox)
  obtain⟨σ6,H6,I6,q6⟩:=h6
  refine wpAny_bind (wpAny_mono (ht _ s6 σ6 H6 _ I6 q6) (fun ok s7 h7=>?_) nox)
  obtain⟨H7,I7,q7⟩:=h7
  have again:∀ {σ7:St} {H7:Hp} {s7:Shared},Inv X (pins++abd fp s5.heap) σ7 H7 s7->(∃ m',m'<n/\W (i+1) m' σ7 H7)->∃ m,m<n/\∃ i σ' H',Inv X pins σ' H' s7/\tn i s7.heap/\(∀ b∈fp,H' b=none)/\W i m σ' H':=fun {σ7 H7 s7} I7 n7=>by
   obtain⟨m',hm,w7⟩:=n7
   refine⟨m',hm,i+1,σ7,H7,I7.unpinned,T.keep _ _ _ st5 fun b hb o e=>(I7.pin (b,o) (aqe _ (aqe _ (qw hb e)))).1,fun b hb=>?_,w7⟩
   obtain⟨o,e,d⟩:=T.obj _ _ st5 b hb
   exact (I7.pin (b,o) (aqe _ (aqe _ (qw hb e)))).2.1
  cases ok with
  | false =>
   rw [if_neg apQ] at q7
   exact wpAny_pure ⟨rfl,again I7 q7⟩
  | true =>
   rw [if_pos rfl] at q7
   refine wpAny_bind (wpAny_mono (hb _ s7 σ6 H7 _ I7 q7) (fun _ s8 h8=>?_) nox)
   obtain⟨σ8,H8,I8,q8⟩:=h8
   exact wpAny_pure ⟨rfl,again I8 q8⟩
theorem adm {D:Addr} {elt:Expr} {te:TE} (he:PE X elt te):PB X (do let _ <- call (.builtin "list.append") [.ref D,<- eval elt X.env]) (fun σ H Q=>te σ H fun y H1=>∃ xs,H1 D=some (.lst xs)/\xs.length<sizeLine/\Q σ (upd H1 D (.lst (xs++[y])))):=by
 intro pins s σ H Q I h
 refine wpAny_bind (thn (he pins s σ H _ I h) fun v s1 h1=>?_)
 obtain⟨y,H1,I1,r1,xs,hD,hz,q⟩:=h1
 obtain⟨z,its,n,r,hl,e⟩:=I1.lstM hD
 refine wpAny_bind ?_
 refine call_meets F.slot_list_append ⟨_,e,rfl⟩ auF (auu _ _) (PySem.list_append D its.toArray n v (by rw [ap9];omega)) ⟨e,?_⟩
 refine wpAny_pure ⟨σ,_,I1.lset (its':=its++[v]) hD e (by simp) (r.append (.cons r1 .nil)) ?_,q⟩
 rw [aqa,aqT]
 omega
theorem aaJ {M:Model} {A:Around} {E:Value->Shared->Prop} {sc:Scope} {gl:Addr} {cl:List (Str×Addr)} {qual:Str} {env:Env} {Q:Env->Shared->Prop} {s:Shared}
  (h:Q { scope:=sc,locals:=s.heap.objs.size,globals:=gl,cells:=cellsFrom (s.heap.objs.size+1) sc.names cl,qual:=qual,func:=none,code:=env.code,frame:=env.frame,builtins:=env.builtins } { s with heap:=pushCells (s.heap.push { cls:=.type "dict",data:=.dict #[] }) sc.names }) :
  wpAny M A (newFunctionEnv sc gl cl [] qual none .none (some env)) Q E s:=by
 simp only [newFunctionEnv,Option.isSome_some,if_true]
 refine wpAny_bind (wpAny_alloc ?_)
 refine wpAny_bind (wpAny_layCells _ (fun name kind cells=>by cases hkc:kind == NameKind.cell <;> simp [hkc]) _ _ _ _ ?_)
 rw [show ({ s with heap:=s.heap.push { cls:=.type "dict",data:=.dict #[] } }:Shared).heap.objs.size=s.heap.objs.size+1 from aq5 ..]
 refine wpAny_bind ?_
 rw [asi]
 exact wpAny_pure (wpAny_pure h)
theorem comp_back {sc:Scope} {N:List Str} {fp:List Addr} {σ':St} {H':Hp} {s':Shared} {h':Heap} (I:Inv X pins σ H s) (hf:∀ b∈fp,vG X pins H b) (J:Inv (zm X sc N s H fp (X.pn++pins)) [] σ' H' s') (hs:arI s.heap.objs.size s'.heap h') :
  Inv X pins σ H' { s' with heap:=h' }:=by
 have u:Un (frs X.stack) fp H H' s.heap s'.heap:=J.base
 have ne:∀ b o,s.heap.get? b=some o->b≠s.heap.objs.size:=fun b o e=>aqp (ap5 e)
 have hfree:H' s.heap.objs.size=none:=J.free
 refine I.call' (s':={ s' with heap:=h' }) (ch:=fp) J.os ⟨fun b o e n h1 h2=>(hs.2 b (ne b o e)).trans (u.keep b o e n h1 h2),fun b o e n h1 h2=>?_,u.free,fun b o e h2=>?_,u.tups,u.frzs,u.tbls⟩ (fun a o e=>?_) J.bare fun b hb=>?_
 ·obtain⟨sl,q⟩:=u.slot b o e n h1 h2
  exact⟨sl,(hs.2 b (ne b o e)).trans q⟩
 ·obtain⟨o',q⟩:=u.there b o e h2
  exact⟨o',(hs.2 b (ne b o e)).trans q⟩
 ·refine (J.hok a o e).stay (fun c v hc q=>(hs.2 c ?_).trans q) (fun _ q=>q) fun _ _ q=>q
  intro z
  subst z
  rcases hc with hc | hc
  ·rw [<-hc] at e
   rw [hfree] at e;cases e
  ·rw [hfree] at hc;cases hc
 ·exact⟨(hf b hb).2.2.2.1,(hf b hb).2.1,(hf b hb).2.2.2.2⟩
end
def jP (D:Addr) (te:TE):TB:=fun σ H Q=>te σ H fun y H1=>∃ xs,H1 D=some (.lst xs)/\xs.length<sizeLine/\Q σ (upd H1 D (.lst (xs++[y])))
def jH (wi:TI) (own:Nat) (fr:List Nat) (g:TG) (tt:TT) (tb:Addr->TB):TE:=fun σ H Q=>wi σ H fun J H1=>∀ D,H1 D=none ->
 vX J g tt (tb D) (yS own fr σ) (upd H1 D (.lst [])) fun _ H2=>Q (.ref D) H2
section
variable {X:Cx} {pins:List (Addr×Obj)} {s:Shared} {σ:St} {H:Hp} {tg elt iter:Expr} {ifs:List Expr} {rest:List Comprehension} {sc scO:Scope} {NO N:List Str} {own:Nat} {fr:List Nat} {wi:TI} {g:TG} {tt:TT} {tb:Addr->TB} {pos:Pos}
theorem aek {RR:Value->Addr->Result->Shared->Prop} {it:Addr} {fp:List Addr} {tn:Nat->Heap->Prop} {J:It} {Q:VK} (S:CompScope NO scO N sc own fr) (hN:X.N=NO) (hsc:X.env.scope=scO) (hc:X.calm=true)
  (hg:∀ s₀ H₀ ex pn,PG (zm X sc N s₀ H₀ ex pn) tg g) (ht:∀ s₀ H₀ ex pn,PTs (zm X sc N s₀ H₀ ex pn) ifs tt)
  (hb:∀ D s₀ H₀ ex pn,∃ act,PB (zm X sc N s₀ H₀ ex pn) act (tb D)/\∀ it,compTurn (.ListComp elt (⟨tg,iter,ifs,0⟩ :: rest) sc pos) 0 it (.ref D) (zm X sc N s₀ H₀ ex pn).env=(do
   standAt iter.pos
   match <- pyNext it with
   | none=>pure (.done .next)
   | some v =>
    letOwnedTupleGo tg it v
    assign tg (zm X sc N s₀ H₀ ex pn).env v
    let mut ok:=true
    for c in ifs do
     if ok then ok <- isTrue c (zm X sc N s₀ H₀ ex pn).env (eval c (zm X sc N s₀ H₀ ex pn).env)
    if ok then
     act
    again (.compLoop (.ListComp elt (⟨tg,iter,ifs,0⟩ :: rest) sc pos) 0 it (.ref D) (zm X sc N s₀ H₀ ex pn).env)))
  (I:Inv X pins σ H s) (T:Turn X.prog X.w X.K tg J fp it tn) (st:tn 0 s.heap) (f:∀ b∈fp,vG X pins H b)
  (h:∀ D,H D=none->vX J g tt (tb D) (yS own fr σ) (upd H D (.lst [])) fun _ H2=>Q (.ref D) H2)
  (hRR:∀ (D C:Addr) (s':Shared) (H':Hp),(∃ m,s'.heap.Ns C m)->C≠X.env.locals->(∀ x c,X.env.cells.lookup x=some c->c≠C)->H' C=none->X.s₀.heap.objs.size<=C->(∀ p∈X.pn++pins,p.1≠C)->Inv X pins σ H' s'->Q (.ref D) H'->RR (.ref D) C (.ok .next) s') :
  wpAny (model X.prog X.w) X.A (newList []) (fun acc s₃=>wpAny (model X.prog X.w) X.A (newFunctionEnv sc X.env.globals (yk X.env sc.names []) [] X.env.qual none .none (some X.env)) (fun cenv s₄ =>
   codeAny (model X.prog X.w) X.A (.compStart (.ListComp elt (⟨tg,iter,ifs,0⟩ :: rest) sc pos) 0 (.ref it) acc { cenv with scope:=relabel sc X.env }) (RR acc cenv.locals) s₄) X.xe s₃) X.xe s:=by
 refine wpAny_newObj_type (aaJ ?_)
 have fpsz:∀ b∈fp,b<s.heap.objs.size:=fun b hb=>by
  obtain⟨o,e,_⟩:=T.obj _ _ st b hb
  exact ap5 e
 have I3:=I.lnew (its:=[]) (ys:=[]) (t':=s.toks) .nil (aqu _)
 have f3:∀ b∈fp,vG X pins (upd H s.heap.objs.size (.lst [])) b:=fun b hb=>⟨by rw [zA (aqp (fpsz b hb))];exact (f b hb).1,(f b hb).2⟩
 have st3:tn 0 (s.heap.push { cls:=.type "list",data:=.seq ([]:List Value).toArray }):=T.keep _ _ _ st fun b _ o e=>apV _ e
 have I4:=aej (tk:=s.toks) S hN hsc I3 f3 (T.obj _ _ st3)
 obtain⟨act,pb,heq⟩:=hb s.heap.objs.size _ _ _ _
 have st4:=T.keep _ _ (pushCells ((s.heap.push { cls:=.type "list",data:=.seq ([]:List Value).toArray }).push { cls:=.type "dict",data:=.dict #[] }) sc.names) st3 fun b _ o e=>pushCells_keeps _ _ _ _ (apV _ e)
 have cells_lt:∀ x c,X.env.cells.lookup x=some c->c<s.heap.objs.size:=fun x c e=>by
  obtain⟨v,o,ho,hd⟩:=I.cell x c e
  exact ap5 ho
 have esz:(s.heap.push { cls:=.type "list",data:=.seq ([]:List Value).toArray }).objs.size=s.heap.objs.size+1:=aq5 ..
 have loop:=vY (X:=zm X sc N { s with heap:=s.heap.push { cls:=.type "list",data:=.seq ([]:List Value).toArray } } (upd H s.heap.objs.size (.lst [])) fp (X.pn++pins)) (R:=RR (.ref s.heap.objs.size) (s.heap.push { cls:=.type "list",data:=.seq ([]:List Value).toArray }).objs.size) (fun _ _ z=>z) hc (hg _ _ _ _) (ht _ _ _ _) pb heq (fun _=>rfl) (fun _=>rfl) (fun _=>rfl) I4 T st4
  (fun b hb=>⟨(f3 b hb).1,I4.ok.exf b hb |>.1,I4.ok.exfs b hb,.inl hb,I4.ok.exf b hb |>.2,fun p hp=>by
   have hp':p∈X.pn++pins:=by simpa [zm] using hp
   exact (f b hb).2.2.2.2.2 p hp'⟩) (h _ I.fresh)
  (fun σ' H' s' J' fr' q'=>hRR _ _ s' H' (let⟨m,hm,_⟩:=J'.loc;⟨m,hm⟩) (by rw [esz];exact arJ (aqP I.lt)) (fun x c e=>by rw [esz];exact aqp (aqP (cells_lt x c e))) J'.free (by rw [esz];exact Nat.le_succ_of_le I.sz) (fun p hp=>by rw [esz];exact aqp (aqP (ap5 (I.pin p hp).1))) (comp_back (h':=s'.heap) I3 f3 J' (Heap.SameBut.refl ..)) q')
 exact codeAny_compStart_list loop (T.self X.A 0 _ _ _ st4 loop)
theorem Inv.touch {C:Addr} {h':Heap} (I:Inv X pins σ H s) (hs:arI C s.heap h') (hn:H C=none) (h0:C≠X.env.locals) (h1:∀ x c,X.env.cells.lookup x=some c->c≠C) (h2:X.s₀.heap.objs.size<=C) (h3:∀ p∈X.pn++pins,p.1≠C) :
  Inv X pins σ H { s with heap:=h' } :=
 I.turned (t':=s.toks) (fun b o hb e=>(hs.2 b hb).trans e) hn h0 (.inr h2) h1 h3
theorem acg {prog:Program} {w:World} {A:Around} {R:Result->Shared->Prop} {s:Shared} {elt':Expr} {g0:Comprehension} {tg' it':Expr} {ifs':List Expr} {sc':Scope} {pos':Pos} {itv acc:Value} {env:Env}
  (here:codeAny (model prog w) A (.compLoop (.ListComp elt' [g0,⟨tg',it',ifs',0⟩] sc' pos') 1 itv acc env) R s)
  (once:wpAny (model prog w) A (pyIter itv) (fun j s1=>codeAny (model prog w) A (.compLoop (.ListComp elt' [g0,⟨tg',it',ifs',0⟩] sc' pos') 1 j acc env) R s1) (notedBy (model prog w) A env fun x s1=>R (.error x) s1) s) :
  codeAny (model prog w) A (.compStart (.ListComp elt' [g0,⟨tg',it',ifs',0⟩] sc' pos') 1 itv acc env) R s:=by
 apply codeAny_of_tree
 show wpAny _ _ ((compStart (.ListComp elt' [g0,⟨tg',it',ifs',0⟩] sc' pos') 1 itv acc env).onRaise (fun z=>do noteFrame z env;standAt theWindowsPlace)) _ _ s
 apply wpAny_notedAt
 unfold compStart
 show wpAny _ _ (ask >>= _) _ _ s
 apply wpAny_bind
 apply wpAny_askSetting
 apply wpAny_ite
 split
 ·first
   | exact wpAny_bind (wpAny_pure (wpAny_pure (And.intro rfl here)))
   | exact wpAny_pure (And.intro rfl here)
 ·apply wpAny_bind
  apply wpAny_rule
  show wpAny _ _ (standAt it'.pos >>= _) _ _ s
  exact wpAny_bind (wpAny_standAt (wpAny_bind (wpAny_mono once (fun j s1 q=>wpAny_pure (And.intro rfl q)) fun _ _ z=>z)))
section
variable {elt2:Expr} {te:TE} {tg2 iter2:Expr} {ifs2:List Expr} {wi2:TI} {g2:TG} {tt2:TT} {tb2:TB} {y:Str} {i:Nat} {py spos:Pos}
def tIn (wi2:TI) (g2:TG) (tt2:TT) (tb2:TB):TB:=fun σ H Q=>wi2 σ H fun J H1=>vX J g2 tt2 tb2 σ H1 Q
theorem amS {D:Addr} (hx:∀ e s,X.xe e s->False) (hc:X.calm=true) (hi:PI X tg2 iter2 wi2) (hg:PG X tg2 g2) (ht:PTs X ifs2 tt2) (he:PE X elt te)
  (hs:∀ x,foldedSetIterable iter2 X.env x=pure x) :
  PB X (do
   let x <- eval iter2 X.env
   standAt iter2.pos
   let x <- foldedSetIterable iter2 X.env x
   let _ <- runOwn (.compStart (.ListComp elt [⟨tg,iter,ifs,0⟩,⟨tg2,iter2,ifs2,0⟩] sc pos) 1 (<- holding [x] (pyIter x)) (.ref D) X.env) X.env) (tIn wi2 g2 tt2 (jP D te)):=by
 intro pins s σ H Q I h
 refine wpAny_bind (thn (hi pins s σ H _ I h) fun v s1 h1=>?_)
 refine wpAny_bind (wpAny_standAt ?_)
 refine wpAny_bind (wpAny_of_eq (hs v) ?_)
 refine wpAny_bind (wpAny_holding (thn h1 fun itv s2 h2=>?_))
 obtain⟨it,fp,tn,J,H2,e,I2,T,st2,f2,q⟩:=h2
 subst e
 refine wpAny_bind (wpAny_runOwn ?_)
 have loop:=vY (e:=.ListComp elt [⟨tg,iter,ifs,0⟩,⟨tg2,iter2,ifs2,0⟩] sc pos) (d:=1) (pos:=iter2.pos)
  (R:=fun r s'=>match r with | .ok f=>wpAny (model X.prog X.w) X.A (pure ()) (fun _ s'=>∃ σ' H',Inv X pins σ' H' s'/\Q σ' H') X.xe s' | .error e=>cameBackBy (model X.prog X.w) X.A X.env X.xe e s')
  hx hc hg ht (adm (D:=D) he) (fun _=>rfl) (fun _=>rfl) (fun _=>rfl) (fun _=>rfl) I2 T st2 f2 q (fun σ' H' s' J' _ q'=>wpAny_pure ⟨σ',H',J',q'⟩)
 exact acg loop (T.self X.A 0 _ _ _ st2 loop)
theorem adn (S:CompScope NO scO N sc own fr) (hsc:X.env.scope=scO) (ok:X.Ok):closureFor sc X.env=pure (yk X.env sc.names []) :=
 afx fun x hx=>ok.has x (by
  show X.env.scope.names.lookup x=_ \/ X.env.scope.names.lookup x=_
  rw [hsc]
  exact S.free _ hx rfl)
theorem agy (S:CompScope NO scO N sc own fr) (hc:X.calm=true) (hi:PI X tg iter wi) (hg:∀ s₀ H₀ ex pn,PG (zm X sc N s₀ H₀ ex pn) tg g) (ht:∀ s₀ H₀ ex pn,PTs (zm X sc N s₀ H₀ ex pn) ifs tt)
  (hb:∀ D s₀ H₀ ex pn,∃ act,PB (zm X sc N s₀ H₀ ex pn) act (tb D)/\∀ it,compTurn (.ListComp elt (⟨tg,iter,ifs,0⟩ :: rest) sc pos) 0 it (.ref D) (zm X sc N s₀ H₀ ex pn).env=(do
   standAt iter.pos
   match <- pyNext it with
   | none=>pure (.done .next)
   | some v =>
    letOwnedTupleGo tg it v
    assign tg (zm X sc N s₀ H₀ ex pn).env v
    let mut ok:=true
    for c in ifs do
     if ok then ok <- isTrue c (zm X sc N s₀ H₀ ex pn).env (eval c (zm X sc N s₀ H₀ ex pn).env)
    if ok then
     act
    again (.compLoop (.ListComp elt (⟨tg,iter,ifs,0⟩ :: rest) sc pos) 0 it (.ref D) (zm X sc N s₀ H₀ ex pn).env)))
  (hN:X.N=NO) (hsc:X.env.scope=scO) (hs:∀ x,foldedSetIterable iter X.env x=pure x) :
  PE X (.ListComp elt (⟨tg,iter,ifs,0⟩ :: rest) sc pos) (jH wi own fr g tt tb):=by
 intro pins s σ H Q I h
 rw [eval_ListComp]
 refine wpAny_comprehension_free (use:=none) rfl hs (adn S hsc I.ok) S.kind (fun p hp hl=>yh S.snd (k:=.local) (by rw [<-hl];exact hp)) (thn (hi pins s σ H _ I h) fun v s1 h1=>thn h1 fun itv s2 h2=>?_)
 obtain⟨it,fp,tn,J,H2,e,I2,T,st2,f2,q⟩:=h2
 subst e
 refine aek (RR:=fun acc C=>compPost (model X.prog X.w) X.A X.xe none (EP X pins σ Q) acc C) S hN hsc hc hg ht hb I2 T st2 f2 q ?_
 rintro D C s' H' ⟨m,hm⟩ c0 c1 c2 c3 c4 J' q'
 exact⟨m,hm,fun h' hs'=>⟨.ref D,H',J'.touch hs' c2 c0 c1 c3 c4,rfl,q'⟩⟩
theorem abj (S:CompScope NO scO N sc own fr) (hc:X.calm=true) (hNd:X.N.Nodup) (hiN:X.N[i]?=some y) (hy:Loc X.env.scope y) (hi:PI X tg iter wi) (hg:∀ s₀ H₀ ex pn,PG (zm X sc N s₀ H₀ ex pn) tg g) (ht:∀ s₀ H₀ ex pn,PTs (zm X sc N s₀ H₀ ex pn) ifs tt)
  (hb:∀ D s₀ H₀ ex pn,∃ act,PB (zm X sc N s₀ H₀ ex pn) act (tb D)/\∀ it,compTurn (.ListComp elt (⟨tg,iter,ifs,0⟩ :: rest) sc pos) 0 it (.ref D) (zm X sc N s₀ H₀ ex pn).env=(do
   standAt iter.pos
   match <- pyNext it with
   | none=>pure (.done .next)
   | some v =>
    letOwnedTupleGo tg it v
    assign tg (zm X sc N s₀ H₀ ex pn).env v
    let mut ok:=true
    for c in ifs do
     if ok then ok <- isTrue c (zm X sc N s₀ H₀ ex pn).env (eval c (zm X sc N s₀ H₀ ex pn).env)
    if ok then
     act
    again (.compLoop (.ListComp elt (⟨tg,iter,ifs,0⟩ :: rest) sc pos) 0 it (.ref D) (zm X sc N s₀ H₀ ex pn).env)))
  (hN:X.N=NO) (hsc:X.env.scope=scO) (hs:∀ x,foldedSetIterable iter X.env x=pure x) (hf:X.fn y=true \/ X.env.scope.names.lookup y=some .local)
  (hsw:swapsWith (.ListComp elt (⟨tg,iter,ifs,0⟩ :: rest) sc pos) (some (.Name y py)) spos.line X.env=pure true) :
  PS X (.Assign [.Name y py] (.ListComp elt (⟨tg,iter,ifs,0⟩ :: rest) sc pos) spos) (jE (jH wi own fr g tt tb) (yJ i)):=by
 intro pins s σ H D I h
 rw [exec_Assign_Name_used _ _ _ _ hsw]
 refine wpAny_bind (wpAny_standAt (wpAny_bind ?_))
 show wpAny _ X.A (do let _ <- comprehension (.ListComp elt (⟨tg,iter,ifs,0⟩ :: rest) sc pos) sc X.env _ (newList []) false (eval iter X.env) (some (assign (.Name y py) X.env))) _ _ s
 refine wpAny_bind (wpAny_mono (wpAny_comprehension_free (use:=some (assign (.Name y py) X.env)) (Q:=fun _ s'=>SP X pins D .next s') rfl hs (adn S hsc I.ok) S.kind (fun p hp hl=>yh S.snd (k:=.local) (by rw [<-hl];exact hp))
  (thn (hi pins s σ H _ I h) fun v s1 h1=>thn h1 fun itv s2 h2=>?_)) (fun _ s' hq=>wpAny_pure (wpAny_pure hq)) fun _ _ e=>e)
 obtain⟨it,fp,tn,J,H2,e,I2,T,st2,f2,q⟩:=h2
 subst e
 refine aek (Q:=fun x H1=>yJ i x σ H1 D.nx) (RR:=fun acc C=>compPost (model X.prog X.w) X.A X.xe (some (assign (.Name y py) X.env)) (fun _ s'=>SP X pins D .next s') acc C) S hN hsc hc hg ht hb I2 T st2 f2 q ?_
 rintro A' C s' H' ⟨m,hm⟩ c0 c1 c2 c3 c4 J' q'
 show wpAny _ X.A (assign (.Name y py) X.env (.ref A')) _ _ _
 refine wpAny_assign_Name (acs (v:=.ref A') J' hNd hiN hy rfl (fun s2' I2' hsb=>?_) hf)
 obtain⟨a,hs2,ha⟩:=hsb
 have hCa:C≠a:=by
  rcases ha with ha | ha
  ·rw [ha];exact c0
  ·exact arw (c1 _ _ ha)
 exact⟨m,hm.sameBut hs2 hCa,fun h' hs'=>⟨_,H',I2'.touch hs' c2 c0 c1 c3 c4,q'⟩⟩
end
end
section
variable {X:Cx} {tg elt iter tg2 iter2:Expr} {ifs ifs2:List Expr} {sc scO:Scope} {NO N:List Str} {own:Nat} {fr:List Nat} {wi wi2:TI} {g g2:TG} {tt tt2:TT} {te:TE} {pos py spos:Pos} {y:Str} {i:Nat}
theorem zQ (S:CompScope NO scO N sc own fr) (hc:X.calm=true) (hi:PI X tg iter wi) (hg:∀ s₀ H₀ ex pn,PG (zm X sc N s₀ H₀ ex pn) tg g) (ht:∀ s₀ H₀ ex pn,PTs (zm X sc N s₀ H₀ ex pn) ifs tt) (he:∀ s₀ H₀ ex pn,PE (zm X sc N s₀ H₀ ex pn) elt te)
  (hN:X.N=NO) (hsc:X.env.scope=scO) (hs:∀ x,foldedSetIterable iter X.env x=pure x):PE X (.ListComp elt [⟨tg,iter,ifs,0⟩] sc pos) (jH wi own fr g tt fun D=>jP D te) :=
 agy S hc hi hg ht (fun D s₀ H₀ ex pn=>⟨_,adm (D:=D) (he s₀ H₀ ex pn),fun _=>rfl⟩) hN hsc hs
theorem jj (S:CompScope NO scO N sc own fr) (hc:X.calm=true) (hNd:X.N.Nodup) (hiN:X.N[i]?=some y) (hy:Loc X.env.scope y) (hi:PI X tg iter wi) (hg:∀ s₀ H₀ ex pn,PG (zm X sc N s₀ H₀ ex pn) tg g) (ht:∀ s₀ H₀ ex pn,PTs (zm X sc N s₀ H₀ ex pn) ifs tt) (he:∀ s₀ H₀ ex pn,PE (zm X sc N s₀ H₀ ex pn) elt te)
  (hN:X.N=NO) (hsc:X.env.scope=scO) (hs:∀ x,foldedSetIterable iter X.env x=pure x) (hf:X.fn y=true \/ X.env.scope.names.lookup y=some .local)
  (hsw:swapsWith (.ListComp elt [⟨tg,iter,ifs,0⟩] sc pos) (some (.Name y py)) spos.line X.env=pure true) :
  PS X (.Assign [.Name y py] (.ListComp elt [⟨tg,iter,ifs,0⟩] sc pos) spos) (jE (jH wi own fr g tt fun D=>jP D te) (yJ i)) :=
 abj S hc hNd hiN hy hi hg ht (fun D s₀ H₀ ex pn=>⟨_,adm (D:=D) (he s₀ H₀ ex pn),fun _=>rfl⟩) hN hsc hs hf hsw
end
theorem ael {elt tg iter tg2 iter2:Expr} {ifs ifs2:List Expr} {sc:Scope} {pos:Pos} {it acc:Value} {env:Env} :
  compTurn (.ListComp elt [⟨tg,iter,ifs,0⟩,⟨tg2,iter2,ifs2,0⟩] sc pos) 0 it acc env=(do
   standAt iter.pos
   match <- pyNext it with
   | none=>pure (.done .next)
   | some v =>
    letOwnedTupleGo tg it v
    assign tg env v
    let mut ok:=true
    for c in ifs do
     if ok then ok <- isTrue c env (eval c env)
    if ok then
     (do
      let x <- eval iter2 env
      standAt iter2.pos
      let x <- foldedSetIterable iter2 env x
      let _ <- runOwn (.compStart (.ListComp elt [⟨tg,iter,ifs,0⟩,⟨tg2,iter2,ifs2,0⟩] sc pos) 1 (<- holding [x] (pyIter x)) acc env) env)
    again (.compLoop (.ListComp elt [⟨tg,iter,ifs,0⟩,⟨tg2,iter2,ifs2,0⟩] sc pos) 0 it acc env)):=by
 unfold compTurn
 simp only [bind_assoc,pure_bind]
 rfl
section
variable {X:Cx} {tg elt iter tg2 iter2:Expr} {ifs ifs2:List Expr} {sc scO:Scope} {NO N:List Str} {own:Nat} {fr:List Nat} {wi wi2:TI} {g g2:TG} {tt tt2:TT} {te:TE} {pos py spos:Pos} {y:Str} {i:Nat}
theorem ai5 (S:CompScope NO scO N sc own fr) (hc:X.calm=true) (hi:PI X tg iter wi) (hg:∀ s₀ H₀ ex pn,PG (zm X sc N s₀ H₀ ex pn) tg g) (ht:∀ s₀ H₀ ex pn,PTs (zm X sc N s₀ H₀ ex pn) ifs tt)
  (hi2:∀ s₀ H₀ ex pn,PI (zm X sc N s₀ H₀ ex pn) tg2 iter2 wi2) (hg2:∀ s₀ H₀ ex pn,PG (zm X sc N s₀ H₀ ex pn) tg2 g2) (ht2:∀ s₀ H₀ ex pn,PTs (zm X sc N s₀ H₀ ex pn) ifs2 tt2)
  (he:∀ s₀ H₀ ex pn,PE (zm X sc N s₀ H₀ ex pn) elt te) (hN:X.N=NO) (hsc:X.env.scope=scO) (hs:∀ x,foldedSetIterable iter X.env x=pure x) (hs2:∀ s₀ H₀ ex pn x,foldedSetIterable iter2 (zm X sc N s₀ H₀ ex pn).env x=pure x) :
  PE X (.ListComp elt [⟨tg,iter,ifs,0⟩,⟨tg2,iter2,ifs2,0⟩] sc pos) (jH wi own fr g tt fun D=>tIn wi2 g2 tt2 (jP D te)) :=
 agy S hc hi hg ht (fun D s₀ H₀ ex pn=>⟨_,amS (D:=D) (fun _ _ z=>z) hc (hi2 s₀ H₀ ex pn) (hg2 s₀ H₀ ex pn) (ht2 s₀ H₀ ex pn) (he s₀ H₀ ex pn) (hs2 s₀ H₀ ex pn),fun it=>ael⟩) hN hsc hs
theorem aem (S:CompScope NO scO N sc own fr) (hc:X.calm=true) (hNd:X.N.Nodup) (hiN:X.N[i]?=some y) (hy:Loc X.env.scope y) (hi:PI X tg iter wi) (hg:∀ s₀ H₀ ex pn,PG (zm X sc N s₀ H₀ ex pn) tg g) (ht:∀ s₀ H₀ ex pn,PTs (zm X sc N s₀ H₀ ex pn) ifs tt)
  (hi2:∀ s₀ H₀ ex pn,PI (zm X sc N s₀ H₀ ex pn) tg2 iter2 wi2) (hg2:∀ s₀ H₀ ex pn,PG (zm X sc N s₀ H₀ ex pn) tg2 g2) (ht2:∀ s₀ H₀ ex pn,PTs (zm X sc N s₀ H₀ ex pn) ifs2 tt2)
  (he:∀ s₀ H₀ ex pn,PE (zm X sc N s₀ H₀ ex pn) elt te) (hN:X.N=NO) (hsc:X.env.scope=scO) (hs:∀ x,foldedSetIterable iter X.env x=pure x) (hs2:∀ s₀ H₀ ex pn x,foldedSetIterable iter2 (zm X sc N s₀ H₀ ex pn).env x=pure x)
  (hf:X.fn y=true \/ X.env.scope.names.lookup y=some .local)
  (hsw:swapsWith (.ListComp elt [⟨tg,iter,ifs,0⟩,⟨tg2,iter2,ifs2,0⟩] sc pos) (some (.Name y py)) spos.line X.env=pure true) :
  PS X (.Assign [.Name y py] (.ListComp elt [⟨tg,iter,ifs,0⟩,⟨tg2,iter2,ifs2,0⟩] sc pos) spos) (jE (jH wi own fr g tt fun D=>tIn wi2 g2 tt2 (jP D te)) (yJ i)) :=
 abj S hc hNd hiN hy hi hg ht (fun D s₀ H₀ ex pn=>⟨_,amS (D:=D) (fun _ _ z=>z) hc (hi2 s₀ H₀ ex pn) (hg2 s₀ H₀ ex pn) (ht2 s₀ H₀ ex pn) (he s₀ H₀ ex pn) (hs2 s₀ H₀ ex pn),fun it=>ael⟩) hN hsc hs hf hsw
end
section
variable {X:Cx} {pins:List (Addr×Obj)} {σ:St} {H:Hp} {s:Shared} {h':Heap} {fp:List Addr}
theorem Inv.turnedAll {t':Nat} (I:Inv X pins σ H s) (hf:∀ b∈fp,vG X pins H b) (k:∀ b o,b∉fp->s.heap.get? b=some o->h'.get? b=some o):Inv X pins σ H { s with heap:=h',toks:=t' }:=by
 refine I.step (g':=s.gens) (d':=s.drawn) (ch:=fp) (fun b hb=>⟨(hf b hb).2.2.2.1,(hf b hb).2.1,(hf b hb).2.2.2.2⟩) (fun b o _ _ hc e _=>k b o hc e) (fun b o _ _ hc e _=>⟨o.slots,k b o hc e⟩) (fun _ _ _ _ n=>n)
  (fun b o hc e=>⟨o,k b o hc e⟩) (fun _ _ e=>e) (fun _ _ _ e=>e) (fun b ps e=>⟨#[],by rw [e];simp⟩) (fun m hm=>?_) (fun b u e=>?_) I.bare
 ·obtain⟨o,es,ep,ho,r⟩:=hm
  exact⟨o,es,ep,k _ o (fun z=>(hf _ z).2.1 rfl) ho,r⟩
 ·refine (I.hok b u e).stay (fun c v hc q=>k c v (fun z=>?_) q) (fun _ q=>q) fun _ _ q=>q
  have hn:=(hf c z).1
  rcases hc with hc | hc
  ·subst hc;rw [e] at hn;cases hn
  ·rw [hc] at hn;cases hn
theorem Inv.turnedNew {t':Nat} {t:Addr} {o:HO} (I:Inv X pins σ H s) (hf:∀ b∈fp,vG X pins H b) (k:∀ b o,b∉fp->s.heap.get? b=some o->h'.get? b=some o) (ht:s.heap.objs.size<=t) (new:ObjOk X.prog X.w (upd H t o) h' t o) :
  Inv X pins σ (upd H t o) { s with heap:=h',toks:=t' }:=by
 have hn:H t=none:=I.hok.fresh ht
 have ne:∀ b ob,s.heap.get? b=some ob->b≠t:=fun b ob e=>aqp (aqq (ap5 e) ht)
 refine I.step (g':=s.gens) (d':=s.drawn) (ch:=fp) (fun b hb=>⟨(hf b hb).2.2.2.1,(hf b hb).2.1,(hf b hb).2.2.2.2⟩) (fun b o _ _ hc e _=>k b o hc e) (fun b o _ _ hc e _=>⟨o.slots,k b o hc e⟩) (fun b ob _ e n=>by rw [zA (ne b ob e)];exact n)
  (fun b o hc e=>⟨o,k b o hc e⟩) (fun b xs e=>by rw [zA (zI e hn)];exact e) (fun b ob u e=>by rw [zA (zI e hn)];exact e) (fun b ps e=>⟨#[],by rw [zA (zI e hn),e];simp⟩) (fun m hm=>?_) (fun b u e=>?_) I.bare
 ·obtain⟨o,es,ep,ho,r⟩:=hm
  exact⟨o,es,ep,k _ o (fun z=>(hf _ z).2.1 rfl) ho,r⟩
 ·by_cases hb:b=t
  ·subst hb;rw [zB] at e;cases e;exact new
  ·rw [zA hb] at e
   refine (I.hok b u e).stay (fun c v hc q=>k c v (fun z=>?_) q) (fun c q=>by rw [zA (zI q hn)];exact q) fun c xs q=>by rw [zA (zI q hn)];exact q
   have hn':=(hf c z).1
   rcases hc with hc | hc
   ·subst hc;rw [e] at hn';cases hn'
   ·rw [hc] at hn';cases hn'
end
def Ite (K:apT) (a:Addr):It :=
 ⟨fun i H=>∃ xs x,SqL K H a xs/\xs[i]?=some x,fun i H x H'=>∃ t y,x=.ref t/\H t=none/\H'=upd H t (.tup [.int i,y])/\∀ xs,SqL K H a xs->xs[i]?=some y,fun i H=>∃ xs,SqL K H a xs/\xs.length<=i⟩
theorem ahO {P:Program} {w:World} {K:apT} {es:List Expr} {k:Nat} {pos:Pos} (a e it:Addr) (hne:e≠it):Turn P w K (.Tuple es k pos) (Ite K a) [e,it] e (fun i h=>(∃ old,IsEnum h e it i old)/\h.IsListIter it a i) where
 mem:=by simp
 obj:=fun i h st b hb=>by
  obtain⟨⟨old,se⟩,o,eo,c,d⟩:=st
  rcases ap0.mp hb with z | z
  ·subst z
   exact⟨_,se,fun v z=>by
    have z':Data.fields _=Data.cell v:=z
    cases z'⟩
  ·have z:b=it:=by simpa using z
   subst z
   exact⟨o,eo,fun v z=>by rw [d] at z;cases z⟩
 keep:=fun i h h' st kk=>⟨let⟨old,se⟩:=st.1;⟨old,kk e (by simp) _ se⟩,st.2.at fun o eo=>kk it (by simp) o eo⟩
 item:=by
  intro X hP hw hK hc i pins s σ H E I hf st hg
  subst hP hw hK
  obtain⟨xs,x,hq,hx⟩:=hg
  obtain⟨its,rv,p,hz⟩:=I.list hq
  obtain⟨u,hu,ru⟩:=rv.get hx
  obtain⟨⟨old,se⟩,si⟩:=st
  refine wpAny_pyNext_enum_item se si p.isList (x:=u) (by simpa using hu) hne fun h' so si' tp sz kp=>?_
  refine⟨_,rfl,?_⟩
  refine wpAny_letOwnedTupleGo_enum (s:={ s with heap:=h',toks:=s.toks+1 }) so fun h2 se2 sb=>?_
  have hlt:e<s.heap.objs.size:=ap5 se
  obtain⟨oi,eoi,_,_⟩:=id si
  have hlt2:it<s.heap.objs.size:=ap5 eoi
  have kk:∀ b o,b∉[e,it]->s.heap.get? b=some o->h2.get? b=some o:=fun b o hb eb=>by
   have h1:b≠e:=fun z=>hb (by simp [z])
   have h2':b≠it:=fun z=>hb (by simp [z])
   exact (sb.2 b h1).trans (kp b o h1 h2' eb)
  have I2:Inv X pins σ (upd H s.heap.objs.size (.tup [.int i,x])) { s with heap:=h2,toks:=s.toks+1 }:=I.turnedNew hf kk (apY _)
   ⟨by show 2<=sizeLine;decide,[.int i s.toks,u],.cons ⟨_,rfl⟩ (.cons ru .nil),⟨_,(sb.2 _ (arJ hlt)).trans tp,rfl,_,rfl⟩⟩
  refine⟨.ref s.heap.objs.size,_,I2,rfl,⟨_,x,rfl,I.fresh,rfl,fun ys hy=>by rw [I.list_inj hy hq];exact hx⟩,⟨⟨_,se2⟩,?_⟩,fun b hb=>?_⟩
  ·exact si'.at fun o eo=>(sb.2 it (arw hne)).trans eo
  ·rw [zA]
   ·exact (hf b hb).1
   ·rcases ap0.mp hb with z | z
    ·subst z;exact aqp hlt
    ·have z:b=it:=by simpa using z
     subst z;exact aqp hlt2
 done:=by
  intro X hP hw hK hc i pins s σ H E I hf st hg
  subst hP hw hK
  obtain⟨xs,hq,hx⟩:=hg
  obtain⟨its,rv,p,hz⟩:=I.list hq
  obtain⟨⟨old,se⟩,si⟩:=st
  have hl:=rv.length
  exact wpAny_pyNext_enum_end (I.ok.hd hc) se si p.isList (by simp;omega) fun h' eb=>⟨rfl,I.turnedAll (t':=s.toks) hf fun b o hb e'=>eb b o (fun z=>hb (by simp [z])) e'⟩
 self:=fun _ _ _ _ _ st h=>let⟨_,se⟩:=st.1;wpAny_pyIter_enum se h
section
variable {X:Cx} {es:List Expr} {k:Nat} {tpos:Pos}
def agz (K:apT) (ta:TA):TI:=fun σ H R=>ta σ H fun vs H1=>∃ a,vs=[.ref a]/\(∃ xs,SqL K H1 a xs)/\R (Ite K a) H1
theorem aln {a:Expr} {ta:TA} {p pos:Pos} (hg:Gl X "enumerate") (hm:X.mg "enumerate"=none) (ha:PA X [a] ta) (hs:starEach [a] X.env=[(false,eval a X.env)]:=by rfl):PI X (.Tuple es k tpos) (.Call (.Name "enumerate" p) [a] [] pos) (agz X.K ta):=by
 intro pins s σ H R I h
 refine Call_ (qT I hg hm boot_enumerate (art (thn (ha pos pins s σ H _ I h) fun us s1 ⟨vs,H1,I1,r1,q1⟩=>?_) hs rfl))
 obtain⟨l,e,⟨xs,hq⟩,q⟩:=q1
 subst e
 cases r1 with
 | cons r rr =>
  cases rr
  cases r
  obtain⟨its,rv,p,hz⟩:=I1.list hq
  refine call_enumerate_list p.isList fun h' he hi hsz kp=>?_
  refine wpAny_pyIter_enum he ?_
  have hne:s1.heap.objs.size+1≠s1.heap.objs.size:=Nat.succ_ne_self _
  refine⟨s1.heap.objs.size+1,[s1.heap.objs.size+1,s1.heap.objs.size],_,_,H1,rfl,I1.kept (t':=s1.toks) kp,ahO l _ _ hne,⟨⟨_,he⟩,hi⟩,fun b hb=>?_,q⟩
  rcases ap0.mp hb with z | z
  ·subst z;exact I1.fpOk (atf _) (I1.hok.fresh (atf _))
  ·have z:b=s1.heap.objs.size:=by simpa using z
   subst z;exact I1.fpOk (apY _) (I1.hok.fresh (apY _))
end
theorem ai6 {K:apT} {a:Addr} {xs:List V} {g:TG} {tb:TS} {D:Ends} {σ:St} {H:Hp} (Pv:Nat->St->Hp->Prop) (h0:Pv 0 σ H) (hl:∀ i σ H,i<=xs.length->Pv i σ H->SqL K H a xs)
  (hs:∀ i x σ H t,xs[i]?=some x->Pv i σ H->H t=none->g (.ref t) σ (upd H t (.tup [.int i,x])) fun σ2 H2=>tb { D with nx:=Pv (i+1),ct:=Pv (i+1),bk:=D.nx } σ2 H2) (hd:∀ σ H,Pv xs.length σ H->D.nx σ H) :
  ∃ W:Nat->Nat->St->Hp->Prop,(∃ m,W 0 m σ H)/\∀ i m σ H,W i m σ H ->
   ((Ite K a).stop i H/\D.nx σ H) \/ ((Ite K a).go i H/\∃ N:St->Hp->Prop,(∀ σ' H',N σ' H'->∃ m',m'<m/\W (i+1) m' σ' H')/\∀ x H',(Ite K a).yld i H x H'->g x σ H' fun σ2 H2=>tb { D with nx:=N,ct:=N,bk:=D.nx } σ2 H2):=by
 refine⟨fun i m σ H=>Pv i σ H/\i<=xs.length/\m+i=xs.length,⟨xs.length,h0,aqu _,rfl⟩,fun i m σ H ⟨p,hi,hm⟩=>?_⟩
 have q:=hl i σ H hi p
 by_cases hlt:i<xs.length
 ·refine .inr ⟨⟨xs,xs[i],q,apO hlt⟩,Pv (i+1),fun σ' H' n=>⟨m - 1,by omega,n,hlt,by omega⟩,fun x H' hy=>?_⟩
  obtain⟨t,y,rfl,ht,rfl,hy⟩:=hy
  exact hs i y σ H t (hy xs q) p ht
 ·have e:i=xs.length:=by omega
  subst e
  exact .inl ⟨⟨xs,q,apY _⟩,hd σ H p⟩
mutual
def Rep (K:apT) (H:Hp):PyData->V->Prop
 | .none,v=>v=.non
 | .bool b,v=>v=.bl b
 | .int i,v=>v=.int i
 | .str x,v=>v=.str x
 | .list ds,v=>∃ a xs,v=.ref a/\SqL K H a xs/\Reps K H ds xs
 | .tuple ds,v=>∃ a xs,v=.ref a/\SqT K H a xs/\Reps K H ds xs
 | .dict _,_=>False
def Reps (K:apT) (H:Hp):List PyData->List V->Prop
 | [],xs=>xs=[]
 | d :: ds,xs=>∃ x r,xs=x :: r/\Rep K H d x/\Reps K H ds r
end
theorem Same.seqT {K:apT} {H H':Hp} {a:Addr} {xs:List V} (e:Same H H') (h:SqT K H a xs):SqT K H' a xs:=by
 rcases h with (h | ⟨o,h⟩) | h
 ·exact .inl (.inl (e _ _ h))
 ·exact .inl (.inr ⟨o,e _ _ h⟩)
 ·exact .inr h
mutual
theorem Rep.mono {K:apT} {H H':Hp} (e:Same H H'):∀ (d:PyData) (v:V),Rep K H d v->Rep K H' d v
 | .none,_,h=>by rw [Rep] at h ⊢;exact h
 | .bool _,_,h=>by rw [Rep] at h ⊢;exact h
 | .int _,_,h=>by rw [Rep] at h ⊢;exact h
 | .str _,_,h=>by rw [Rep] at h ⊢;exact h
 | .list ds,v,h=>by
  rw [Rep] at h ⊢
  obtain⟨a,xs,h1,h2,h3⟩:=h
  exact⟨a,xs,h1,e.seq h2,Reps.mono e ds xs h3⟩
 | .tuple ds,v,h=>by
  rw [Rep] at h ⊢
  obtain⟨a,xs,h1,h2,h3⟩:=h
  exact⟨a,xs,h1,e.seqT h2,Reps.mono e ds xs h3⟩
 | .dict _,_,h=>by rw [Rep] at h;exact h.elim
theorem Reps.mono {K:apT} {H H':Hp} (e:Same H H'):∀ (ds:List PyData) (xs:List V),Reps K H ds xs->Reps K H' ds xs
 | [],_,h=>by rw [Reps] at h ⊢;exact h
 | d :: ds,xs,h=>by
  rw [Reps] at h ⊢
  obtain⟨x,r,h1,h2,h3⟩:=h
  exact⟨x,r,h1,Rep.mono e d x h2,Reps.mono e ds r h3⟩
end
theorem rep_int {K:apT} {H:Hp} {i:Int} {v:V}:Rep K H (.int i) v↔v=.int i:=by rw [Rep]
theorem rep_bool {K:apT} {H:Hp} {b:Bool} {v:V}:Rep K H (.bool b) v↔v=.bl b:=by rw [Rep]
theorem rep_none {K:apT} {H:Hp} {v:V}:Rep K H .none v↔v=.non:=by rw [Rep]
theorem rep_str {K:apT} {H:Hp} {x:Str} {v:V}:Rep K H (.str x) v↔v=.str x:=by rw [Rep]
theorem rep_list {K:apT} {H:Hp} {ds:List PyData} {v:V}:Rep K H (.list ds) v↔∃ a xs,v=.ref a/\SqL K H a xs/\Reps K H ds xs:=by rw [Rep]
theorem rep_tuple {K:apT} {H:Hp} {ds:List PyData} {v:V}:Rep K H (.tuple ds) v↔∃ a xs,v=.ref a/\SqT K H a xs/\Reps K H ds xs:=by rw [Rep]
theorem reps_nil {K:apT} {H:Hp} {xs:List V}:Reps K H [] xs↔xs=[]:=by rw [Reps]
theorem reps_cons {K:apT} {H:Hp} {d:PyData} {ds:List PyData} {xs:List V}:Reps K H (d :: ds) xs↔∃ x r,xs=x :: r/\Rep K H d x/\Reps K H ds r:=by rw [Reps]
theorem Reps.nil' {K:apT} {H:Hp}:Reps K H [] []:=reps_nil.mpr rfl
theorem Reps.cons' {K:apT} {H:Hp} {d:PyData} {ds:List PyData} {x:V} {r:List V} (h:Rep K H d x) (t:Reps K H ds r):Reps K H (d :: ds) (x :: r):=reps_cons.mpr ⟨x,r,rfl,h,t⟩
theorem Reps.length {K:apT} {H:Hp}:∀ {ds:List PyData} {xs:List V},Reps K H ds xs->xs.length=ds.length
 | [],xs,h=>by rw [reps_nil.mp h];rfl
 | d :: ds,xs,h=>by
  obtain⟨x,r,rfl,_,h3⟩:=reps_cons.mp h
  rw [ap8,ap8,Reps.length h3]
theorem Reps.get {K:apT} {H:Hp}:∀ {ds:List PyData} {xs:List V} {i:Nat} {d:PyData},Reps K H ds xs->ds[i]?=some d->∃ x,xs[i]?=some x/\Rep K H d x
 | [],_,_,_,_,e=>by simp at e
 | d :: ds,xs,0,d',h,e=>by
  obtain⟨x,r,rfl,h2,_⟩:=reps_cons.mp h
  simp at e;subst e
  exact⟨x,rfl,h2⟩
 | d :: ds,xs,i+1,d',h,e=>by
  obtain⟨x,r,rfl,_,h3⟩:=reps_cons.mp h
  obtain⟨y,h1,h2⟩:=Reps.get (i:=i) h3 (by simpa using e)
  exact⟨y,by simpa using h1,h2⟩
theorem Reps.snoc {K:apT} {H:Hp} {d:PyData} {x:V} (h:Rep K H d x):∀ {ds:List PyData} {xs:List V},Reps K H ds xs->Reps K H (ds++[d]) (xs++[x])
 | [],xs,t=>by rw [reps_nil.mp t];exact .cons' h .nil'
 | d' :: ds,xs,t=>by
  obtain⟨y,r,rfl,h2,h3⟩:=reps_cons.mp t
  exact .cons' h2 (Reps.snoc h h3)
theorem Reps.append {K:apT} {H:Hp}:∀ {ds es:List PyData} {xs ys:List V},Reps K H ds xs->Reps K H es ys->Reps K H (ds++es) (xs++ys)
 | [],es,xs,ys,t,u=>by rw [reps_nil.mp t];exact u
 | d' :: ds,es,xs,ys,t,u=>by
  obtain⟨y,r,rfl,h2,h3⟩:=reps_cons.mp t
  exact .cons' h2 (Reps.append h3 u)
theorem Reps.ints {K:apT} {H:Hp}:∀ {ns:List Int} {xs:List V},Reps K H (ns.map .int) xs->xs=ns.map V.int
 | [],xs,h=>reps_nil.mp h
 | n :: ns,xs,h=>by
  obtain⟨x,r,rfl,h2,h3⟩:=reps_cons.mp h
  rw [rep_int.mp h2,Reps.ints h3];rfl
theorem Reps.ints' {K:apT} {H:Hp}:∀ (ns:List Int),Reps K H (ns.map .int) (ns.map V.int)
 | []=>.nil'
 | n :: ns=>.cons' (rep_int.mpr rfl) (Reps.ints' ns)
section
variable {X:Cx} {pins:List (Addr×Obj)} {σ:St} {H:Hp} {s:Shared}
mutual
theorem yM (I:Inv X pins σ H s):∀ (d:PyData) (v:V) (u:Value),Rep X.K H d v->RelV v u->∃ as,Reads s.heap u d as
 | .none,v,u,h,r=>by rw [rep_none.mp h] at r;cases r;exact⟨_,.none⟩
 | .bool b,v,u,h,r=>by rw [rep_bool.mp h] at r;cases r;exact⟨_,.bool b⟩
 | .int i,v,u,h,r=>by rw [rep_int.mp h] at r;obtain⟨t,rfl⟩:=r;exact⟨_,.int i t⟩
 | .str x,v,u,h,r=>by rw [rep_str.mp h] at r;obtain⟨t,rfl⟩:=r;exact⟨_,.str x t⟩
 | .list ds,v,u,h,r=>by
  obtain⟨a,xs,rfl,h2,h3⟩:=rep_list.mp h
  cases r
  obtain⟨its,rv,p,_⟩:=I.list h2
  obtain⟨o,ho,hc,n,hd⟩:=p.isList
  obtain⟨as,ra⟩:=jk I ds xs its h3 rv
  exact⟨_,.list ho hc hd (by simpa using ra)⟩
 | .tuple ds,v,u,h,r=>by
  obtain⟨a,xs,rfl,h2,h3⟩:=rep_tuple.mp h
  cases r
  obtain⟨its,rv,p,_⟩:=I.tuple h2
  obtain⟨o,ho,hc,n,hd⟩:=p
  obtain⟨as,ra⟩:=jk I ds xs its h3 rv
  exact⟨_,.tuple ho hc hd (by simpa using ra)⟩
 | .dict _,_,_,h,_=>by rw [Rep] at h;exact h.elim
theorem jk (I:Inv X pins σ H s):∀ (ds:List PyData) (xs:List V) (us:List Value),Reps X.K H ds xs->Vals xs us->∃ as,ReadsAll s.heap us ds as
 | [],xs,us,h,r=>by rw [reps_nil.mp h] at r;cases r;exact⟨_,.nil⟩
 | d :: ds,xs,us,h,r=>by
  obtain⟨x,q,rfl,h2,h3⟩:=reps_cons.mp h
  cases r with
  | cons r1 r2 =>
   obtain⟨as,ra⟩:=yM I d x _ h2 r1
   obtain⟨bs,rb⟩:=jk I ds q _ h3 r2
   exact⟨_,.cons ra rb⟩
end
def ai7 (K:apT) (neg:Bool):R2:=fun x y H Q=>∃ d d',Rep K H d x/\Rep K H d' y/\d.canLay0=true/\d'.canLay0=true/\min d.depth d'.depth<=60/\Q (.bl (if neg then !aqi d d' else aqi d d')) H
theorem anH (hu:X.A.units+64<cLine):OpR X (compareOp .Eq) (ai7 X.K false):=by
 intro pins s σ H x y v u Q I rx ry h
 obtain⟨d,d',h1,h2,c1,c2,hm,q⟩:=h
 obtain⟨as,ra⟩:=yM I d x v h1 rx
 obtain⟨bs,rb⟩:=yM I d' y u h2 ry
 exact SeqAt.compareEq_reads ra rb c1 c2 (by omega) ⟨.bl (aqi d d'),H,I,rfl,q⟩
theorem anI (hu:X.A.units+64<cLine):OpR X (compareOp .NotEq) (ai7 X.K true):=by
 intro pins s σ H x y v u Q I rx ry h
 obtain⟨d,d',h1,h2,c1,c2,hm,q⟩:=h
 obtain⟨as,ra⟩:=yM I d x v h1 rx
 obtain⟨bs,rb⟩:=yM I d' y u h2 ry
 exact SeqAt.compareNe_reads ra rb c1 c2 (by omega) ⟨.bl (!aqi d d'),H,I,rfl,q⟩
theorem ahP (hc:X.calm=true):z6 X (.builtin "min") (fun xs H Q=>∃ a ns,xs=[.ref a]/\SqL X.K H a (ns.map V.int)/\ns≠[]/\∀ M,M∈ns->(∀ b∈ns,M<=b)->Q (.int M) H):=by
 intro pins s σ H xs us Q I r h
 obtain⟨a,ns,rfl,hq,hne,q⟩:=h
 obtain⟨u,rfl,r1⟩:=vals1 r
 cases r1
 obtain⟨its,rv,p,_⟩:=I.list hq
 obtain⟨m,F⟩:=I.fr
 have hi:=intsAre_of rv
 obtain⟨ys,e⟩:=hi.allInts.items
 have hns:ns=ys.toList.map (·.1):=by rw [<-hi.numsOf,<- nums_intItems,<- e]
 have hsz:0<ys.size:=by
  have h3:0<ns.length:=arM.mpr hne
  rw [hns,apP,ap4] at h3;exact h3
 have hl:=p.isList
 rw [e] at hl
 refine min_intList (I.ok.hd hc) hl hsz fun v h' tk hv hk=>?_
 obtain⟨t,rfl⟩:=intItems_at hv
 obtain⟨_,h2⟩:=argBest_lt (numAt ys) (ys.size - 1)
 refine⟨.int _,H,I.kept (t':=tk) hk,⟨t,rfl⟩,q _ ?_ fun b hb=>?_⟩
 ·rw [hns,numAt_eq];exact getD_mem (by rw [apP,ap4];omega)
 ·rw [hns] at hb
  obtain⟨j,hj,rfl⟩:=mem_getD hb
  rw [apP,ap4] at hj
  rw [<-numAt_eq];exact h2 j (by omega)
theorem ahQ (hc:X.calm=true):z6 X (.builtin "max") (fun xs H Q=>∃ a ns,xs=[.ref a]/\SqL X.K H a (ns.map V.int)/\ns≠[]/\∀ M,M∈ns->(∀ b∈ns,b<=M)->Q (.int M) H):=by
 intro pins s σ H xs us Q I r h
 obtain⟨a,ns,rfl,hq,hne,q⟩:=h
 obtain⟨u,rfl,r1⟩:=vals1 r
 cases r1
 obtain⟨its,rv,p,_⟩:=I.list hq
 have hi:=intsAre_of rv
 obtain⟨ys,e⟩:=hi.allInts.items
 have hns:ns=ys.toList.map (·.1):=by rw [<-hi.numsOf,<- nums_intItems,<- e]
 have hsz:0<ys.size:=by
  have h3:0<ns.length:=arM.mpr hne
  rw [hns,apP,ap4] at h3;exact h3
 have hl:=p.isList
 rw [e] at hl
 refine max_intList (I.ok.hd hc) hl hsz fun v h' tk hv hk=>?_
 obtain⟨t,rfl⟩:=intItems_at hv
 obtain⟨_,h2⟩:=argBest_gt (numAt ys) (ys.size - 1)
 refine⟨.int _,H,I.kept (t':=tk) hk,⟨t,rfl⟩,q _ ?_ fun b hb=>?_⟩
 ·rw [hns,numAt_eq];exact getD_mem (by rw [apP,ap4];omega)
 ·rw [hns] at hb
  obtain⟨j,hj,rfl⟩:=mem_getD hb
  rw [apP,ap4] at hj
  rw [<-numAt_eq];exact h2 j (by omega)
end
inductive DV where
 | dat (d:PyData)
 | feed
 | own (k:Nat)
 | exc (C:Value)
 | mon (φ:Hp->V->Prop)
abbrev zw:=List (Option DV)
structure Fx where
 f:Option Addr
 M:List Addr
def hide (H:Hp) (f:Fx):Hp:=fun b=>if f.f=some b \/ b∈f.M then none else H b
structure FOk (f:Fx) (H:Hp):Prop where
 fd:∀ p,f.f=some p->∃ a b:Int,H p=some (.lst [.int a,.int b])/\0<=a/\0<=b/\b<2147483647
 mm:∀ b∈f.M,∃ o,H b=some o
 nm:∀ p,f.f=some p->p∉f.M
def RepV (K:apT) (f:Fx) (H:Hp):DV->V->Prop
 | .dat d,v=>Rep K (hide H f) d v
 | .feed,v=>∃ p,f.f=some p/\v=.ref p
 | .own k,v=>∃ p,f.M.reverse[k]?=some p/\v=.ref p
 | .exc C,v=>∃ a,v=.ref a/\hide H f a=some (.ext fun h=>∃ o,h.get? a=some o/\o.cls=C)
 | .mon φ,v=>∀ H',Same (hide H f) H'->φ H' v
structure Goes (f:Fx) (H H':Hp):Prop where
 sm:Same (hide H f) (hide H' f)
 ok:FOk f H'
 kp:∀ b∈f.M,H' b=H b
structure EnvOk (K:apT) (f:Fx) (ρ:zw) (σ:St) (H:Hp):Prop where
 len:ρ.length=σ.length
 get:∀ (i:Nat) x,ρ[i]?=some (some x)->∃ v,σ[i]?=some (some v)/\RepV K f H x v
 fd:FOk f H
theorem yX (H:Hp):hide H ⟨none,[]⟩=H:=by funext b;unfold hide;rw [if_neg (by rintro (h | h) <;> cases h)]
theorem zj (H:Hp) (f:Fx):Same (hide H f) H:=fun b o h=>by
 unfold hide at h
 split at h
 ·cases h
 ·exact h
theorem zH {H:Hp} {f:Fx} {b:Addr} {o:HO} (h:hide H f b=some o):¬ (f.f=some b \/ b∈f.M)/\H b=some o:=by
 unfold hide at h
 split at h
 ·cases h
 ·rename_i n;exact⟨n,h⟩
theorem zz {H:Hp} {f:Fx} {b:Addr} {o:HO} (n:¬ (f.f=some b \/ b∈f.M)) (h:H b=some o):hide H f b=some o:=by unfold hide;rw [if_neg n];exact h
theorem Goes.refl {f:Fx} {H:Hp} (h:FOk f H):Goes f H H:=⟨Same.refl _,h,fun _ _=>rfl⟩
theorem Goes.trans {f:Fx} {H H1 H2:Hp} (a:Goes f H H1) (b:Goes f H1 H2):Goes f H H2:=⟨a.1.trans b.1,b.2,fun x hx=>(b.kp x hx).trans (a.kp x hx)⟩
theorem Goes.of_same {f:Fx} {H H':Hp} (s:Same H H') (h:FOk f H):Goes f H H' :=
 ⟨fun b o e=>zz (zH e).1 (s b o (zH e).2),⟨fun p e=>let⟨a,b,h1,h2⟩:=h.fd p e;⟨a,b,s _ _ h1,h2⟩,fun b hb=>let⟨o,e⟩:=h.mm b hb;⟨o,s _ _ e⟩,h.nm⟩,fun b hb=>let⟨o,e⟩:=h.mm b hb;(s _ _ e).trans e.symm⟩
theorem z4 {H:Hp} {p:Addr} (h:H p=none) (o:HO):Same H (upd H p o):=fun b u q=>by rw [zA (zI q h)];exact q
theorem RepV.mono {K:apT} {f:Fx} {H H':Hp} (g:Goes f H H'):∀ {x:DV} {v:V},RepV K f H x v->RepV K f H' x v
 | .dat d,v,h=>Rep.mono g.1 d v h
 | .feed,v,h=>h
 | .own _,v,h=>h
 | .exc _,v,h=>let⟨a,e,q⟩:=h;⟨a,e,g.1 _ _ q⟩
 | .mon _,v,h=>fun H' s=>h H' (g.1.trans s)
theorem EnvOk.mono {K:apT} {f:Fx} {ρ:zw} {σ:St} {H H':Hp} (e:EnvOk K f ρ σ H) (g:Goes f H H'):EnvOk K f ρ σ H' :=
 ⟨e.len,fun i x h=>let⟨v,h1,h2⟩:=e.get i x h;⟨v,h1,h2.mono g⟩,g.2⟩
theorem EnvOk.set {K:apT} {f:Fx} {ρ:zw} {σ:St} {H:Hp} {x:DV} {v:V} (e:EnvOk K f ρ σ H) (i:Nat) (r:RepV K f H x v):EnvOk K f (ρ.set i (some x)) (σ.set i (some v)) H:=by
 refine⟨by rw [aqK,aqK];exact e.len,fun j y h=>?_,e.fd⟩
 by_cases hj:i=j
 ·subst hj
  by_cases hi:i<ρ.length
  ·rw [arx hi] at h
   cases h
   exact⟨v,by rw [arx (by rw [<-e.len];exact hi)],r⟩
  ·rw [aqc (by rw [aqK];omega)] at h;cases h
 ·rw [aqH hj] at h ⊢
  exact e.get j y h
theorem fresh_ne {f:Fx} {H:Hp} {p:Addr} (h:FOk f H) (n:H p=none):¬ (f.f=some p \/ p∈f.M):=fun e=>by
 rcases e with e | e
 ·obtain⟨a,b,h1,_⟩:=h.fd p e
  rw [n] at h1;cases h1
 ·obtain⟨o,h1⟩:=h.mm p e
  rw [n] at h1;cases h1
inductive RepVs (K:apT) (f:Fx) (H:Hp):List DV->List V->Prop where
 | nil:RepVs K f H [] []
 | cons {x v xs vs}:RepV K f H x v->RepVs K f H xs vs->RepVs K f H (x :: xs) (v :: vs)
theorem RepVs.mono {K:apT} {f:Fx} {H H':Hp} (g:Goes f H H'):∀ {xs:List DV} {vs:List V},RepVs K f H xs vs->RepVs K f H' xs vs
 | _,_,.nil=>.nil
 | _,_,.cons r t=>.cons (r.mono g) (t.mono g)
theorem RepVs.length {K:apT} {f:Fx} {H:Hp}:∀ {xs:List DV} {vs:List V},RepVs K f H xs vs->vs.length=xs.length
 | _,_,.nil=>rfl
 | _,_,.cons _ t=>by rw [ap8,ap8,t.length]
section
variable (K:apT) (f:Fx)
def PEd (te:TE) (ρ:zw) (P:PyData->Prop):Prop:=∀ (σ:St) (H:Hp) (Q:VK),EnvOk K f ρ σ H->(∀ d v H',Goes f H H'->Rep K (hide H' f) d v->P d->Q v H')->te σ H Q
def PTd (tt:TT) (ρ:zw) (P:Bool->Prop):Prop:=∀ (σ:St) (H:Hp) (Q:Bool->Hp->Prop),EnvOk K f ρ σ H->(∀ b H',Goes f H H'->P b->Q b H')->tt σ H Q
def PAd (ta:TA) (ρ:zw) (P:List DV->Prop):Prop:=∀ (σ:St) (H:Hp) (Q:List V->Hp->Prop),EnvOk K f ρ σ H->(∀ xs vs H',Goes f H H'->RepVs K f H' xs vs->P xs->Q vs H')->ta σ H Q
structure DEnds where
 nx:zw->Prop
 rt:PyData->Prop
 bk:zw->Prop:=fun _=>False
 ct:zw->Prop:=fun _=>False
def PSd (ts:TS) (ρ:zw) (D:DEnds):Prop:=∀ (σ:St) (H:Hp) (E:Ends),EnvOk K f ρ σ H->(∀ ρ' σ' H',Goes f H H'->EnvOk K f ρ' σ' H'->D.nx ρ'->E.nx σ' H')->(∀ d v H',Goes f H H'->Rep K (hide H' f) d v->D.rt d->E.rt v H') ->
 (∀ ρ' σ' H',Goes f H H'->EnvOk K f ρ' σ' H'->D.bk ρ'->E.bk σ' H')->(∀ ρ' σ' H',Goes f H H'->EnvOk K f ρ' σ' H'->D.ct ρ'->E.ct σ' H')->ts E σ H
def spD {γ:Type} (n:Nat) (pre:γ->List DV->Prop) (post:γ->PyData->Prop):Sp:=fun vs H Q _=>∃ f xs c,RepVs K f H xs vs/\xs.length=n/\FOk f H/\pre c xs/\∀ r v H',Goes f H H'->Rep K (hide H' f) r v->post c r->Q v H'
end
section
variable {K:apT} {f:Fx} {ρ:zw} {P:PyData->Prop} {te ta tb tc:TE}
theorem zv {i:Nat} {d:PyData} (h:ρ[i]?=some (some (.dat d))) (p:P d):PEd K f (yr i) ρ P:=fun σ H Q e q=>by
 obtain⟨v,h1,h2⟩:=e.get i _ h
 exact⟨v,h1,q d v H (.refl e.fd) h2 p⟩
theorem yg {i:Int} (p:P (.int i)):PEd K f (tC (.int i)) ρ P:=fun σ H Q e q=>q (.int i) _ H (.refl e.fd) (rep_int.mpr rfl) p
theorem ado {i:Bool} (p:P (.bool i)):PEd K f (tC (.bl i)) ρ P:=fun σ H Q e q=>q (.bool i) _ H (.refl e.fd) (rep_bool.mpr rfl) p
theorem agA {i:Str} (p:P (.str i)):PEd K f (tC (.str i)) ρ P:=fun σ H Q e q=>q (.str i) _ H (.refl e.fd) (rep_str.mpr rfl) p
theorem ai8 (p:P .none):PEd K f (tC .non) ρ P:=fun σ H Q e q=>q .none _ H (.refl e.fd) (rep_none.mpr rfl) p
theorem PEd.imp {P':PyData->Prop} (h:PEd K f te ρ P) (i:∀ d,P d->P' d):PEd K f te ρ P':=fun σ H Q e q=>h σ H Q e fun d v H' g r p=>q d v H' g r (i d p)
theorem ahR {r:R2} (h:PEd K f ta ρ fun x=>PEd K f tb ρ fun y=>∀ (v w:V) (H:Hp) (Q:VK),FOk f H->Rep K (hide H f) x v->Rep K (hide H f) y w->(∀ d u H',Goes f H H'->Rep K (hide H' f) d u->P d->Q u H')->r v w H Q):PEd K f (tOp r ta tb) ρ P:=fun σ H Q e q =>
 h σ H _ e fun x v H1 g1 r1 p1=>p1 σ H1 _ (e.mono g1) fun y w H2 g2 r2 p2=>p2 v w H2 Q g2.2 (Rep.mono g2.1 x v r1) r2 fun d u H' g' r' p'=>q d u H' (g1.trans (g2.trans g')) r' p'
theorem apF {r:V->Hp->VK->Prop} (h:PEd K f ta ρ fun x=>∀ (v:V) (H:Hp) (Q:VK),FOk f H->Rep K (hide H f) x v->(∀ d u H',Goes f H H'->Rep K (hide H' f) d u->P d->Q u H')->r v H Q):PEd K f (tUn r ta) ρ P:=fun σ H Q e q =>
 h σ H _ e fun x v H1 g1 r1 p1=>p1 v H1 Q g1.2 r1 fun d u H' g' r' p'=>q d u H' (g1.trans g') r' p'
theorem aaK {g:Int->Int->Int} (h:PEd K f ta ρ fun x=>∃ i,x=.int i/\PEd K f tb ρ fun y=>∃ j,y=.int j/\P (.int (g i j))):PEd K f (tOp (rI0 fun i j=>.int (g i j)) ta tb) ρ P :=
 ahR (h.imp fun x ⟨i,ex,h2⟩=>h2.imp fun y ⟨j,ey,p⟩ v w H Q fo rx ry q=>by
  subst ex ey
  exact⟨i,j,rep_int.mp rx,rep_int.mp ry,q _ _ H (.refl fo) (rep_int.mpr rfl) p⟩)
theorem afz {C:Int->Int->Prop} {g:Int->Int->Int} (h:PEd K f ta ρ fun x=>∃ i,x=.int i/\PEd K f tb ρ fun y=>∃ j,y=.int j/\C i j/\P (.int (g i j))):PEd K f (tOp (rI C fun i j=>.int (g i j)) ta tb) ρ P :=
 ahR (h.imp fun x ⟨i,ex,h2⟩=>h2.imp fun y ⟨j,ey,c,p⟩ v w H Q fo rx ry q=>by
  subst ex ey
  exact⟨i,j,rep_int.mp rx,rep_int.mp ry,c,q _ _ H (.refl fo) (rep_int.mpr rfl) p⟩)
theorem abk {g:Int->Int->Bool} (h:PEd K f ta ρ fun x=>∃ i,x=.int i/\PEd K f tb ρ fun y=>∃ j,y=.int j/\P (.bool (g i j))):PEd K f (tOp (rI0 fun i j=>.bl (g i j)) ta tb) ρ P :=
 ahR (h.imp fun x ⟨i,ex,h2⟩=>h2.imp fun y ⟨j,ey,p⟩ v w H Q fo rx ry q=>by
  subst ex ey
  exact⟨i,j,rep_int.mp rx,rep_int.mp ry,q _ _ H (.refl fo) (rep_bool.mpr rfl) p⟩)
theorem jw {neg:Bool} (h:PEd K f ta ρ fun x=>PEd K f tb ρ fun y=>x.canLay0=true/\y.canLay0=true/\min x.depth y.depth<=60/\P (.bool (if neg then !aqi x y else aqi x y))):PEd K f (tOp (ai7 K neg) ta tb) ρ P :=
 ahR (h.imp fun x h2=>h2.imp fun y ⟨c1,c2,c3,p⟩ v w H Q fo rx ry q =>
  ⟨x,y,Rep.mono (zj _ _) x v rx,Rep.mono (zj _ _) y w ry,c1,c2,c3,q _ _ H (.refl fo) (rep_bool.mpr rfl) p⟩)
theorem anJ {n:Nat} {k:Int} {j:Nat} (h:(j:Int)=k) (hj:j<n):ixN n k=some j:=by
 unfold ixN
 rw [if_pos (by omega),if_pos (by omega)]
 congr 1
 omega
theorem abl (h:PEd K f ta ρ fun x=>∃ ds,x=.list ds/\PEd K f tb ρ fun y=>∃ k,y=.int k/\∃ d,atI ds k=some d/\P d):PEd K f (tOp (adg K) ta tb) ρ P :=
 ahR (h.imp fun x ⟨ds,ex,h2⟩=>h2.imp fun y ⟨k,ey,d,a,p⟩ v w H Q fo rx ry q=>by
  subst ex ey
  obtain⟨l,xs,rfl,hs,hr⟩:=rep_list.mp rx
  unfold atI at a
  cases hi:ixN ds.length k with
  | none=>rw [hi] at a;cases a
  | some j =>
   rw [hi] at a
   obtain⟨u,hu,ru⟩:=hr.get a
   exact⟨l,xs,k,u,rfl,rep_int.mp ry,(zj H f).seq hs,by unfold atI;rw [hr.length,hi];exact hu,q d u H (.refl fo) ru p⟩)
theorem jQ (h:PEd K f ta ρ fun x=>∃ ds,x=.tuple ds/\PEd K f tb ρ fun y=>∃ k,y=.int k/\∃ d,atI ds k=some d/\P d):PEd K f (tOp (anB K) ta tb) ρ P :=
 ahR (h.imp fun x ⟨ds,ex,h2⟩=>h2.imp fun y ⟨k,ey,d,a,p⟩ v w H Q fo rx ry q=>by
  subst ex ey
  obtain⟨l,xs,rfl,hs,hr⟩:=rep_tuple.mp rx
  unfold atI at a
  cases hi:ixN ds.length k with
  | none=>rw [hi] at a;cases a
  | some j =>
   rw [hi] at a
   obtain⟨u,hu,ru⟩:=hr.get a
   exact⟨l,xs,k,u,rfl,rep_int.mp ry,(zj H f).seqT hs,by unfold atI;rw [hr.length,hi];exact hu,q d u H (.refl fo) ru p⟩)
theorem amT {i:Nat} (hi:ρ[i]?=some (some .feed)) (h:PEd K f tb ρ fun y=>(y=.int 0/\∀ a:Int,0<=a->P (.int a)) \/ (y=.int 1/\∀ b:Int,0<=b->b<2147483647->P (.int b))):PEd K f (tOp (adg K) (yr i) tb) ρ P:=fun σ H Q e q=>by
 obtain⟨v,h1,p,ef,ev⟩:=e.get i _ hi
 refine⟨v,h1,h σ H _ e fun y w H' g r c=>?_⟩
 obtain⟨a,b,hf,c1,c2,c3⟩:=g.2.fd p ef
 rcases c with⟨rfl,c⟩ | ⟨rfl,c⟩
 ·exact⟨p,_,0,.int a,ev,rep_int.mp r,SqL.of hf,rfl,q (.int a) _ H' g (rep_int.mpr rfl) (c a c1)⟩
 ·exact⟨p,_,1,.int b,ev,rep_int.mp r,SqL.of hf,rfl,q (.int b) _ H' g (rep_int.mpr rfl) (c b c2 c3)⟩
theorem yI {R:List DV->Prop} (p:R []):PAd K f yQ ρ R:=fun σ H Q e q=>q [] [] H (.refl e.fd) .nil p
theorem zJ {R:List DV->Prop} {u:TA} (h:PEd K f te ρ fun x=>PAd K f u ρ fun xs=>R (.dat x :: xs)):PAd K f (zV te u) ρ R:=fun σ H Q e q =>
 h σ H _ e fun x v H1 g1 r1 p1=>p1 σ H1 _ (e.mono g1) fun xs vs H2 g2 r2 p2=>q (.dat x :: xs) (v :: vs) H2 (g1.trans g2) (.cons (RepV.mono (x:=.dat x) g2 r1) r2) p2
theorem adp {R:List DV->Prop} {u:TA} {i:Nat} (hi:ρ[i]?=some (some .feed)) (h:PAd K f u ρ fun xs=>R (.feed :: xs)):PAd K f (zV (yr i) u) ρ R:=fun σ H Q e q=>by
 obtain⟨v,h1,h2⟩:=e.get i _ hi
 exact⟨v,h1,h σ H _ e fun xs vs H2 g2 r2 p2=>q (.feed :: xs) (v :: vs) H2 g2 (.cons (RepV.mono (x:=.feed) g2 h2) r2) p2⟩
def qy:List DV->Option (List PyData)
 | []=>some []
 | .dat d :: r=>(qy r).map (d :: ·)
 | .feed :: _=>none
 | .own _ :: _=>none
 | .exc _ :: _=>none
 | .mon _ :: _=>none
theorem vo {H:Hp}:∀ {xs:List DV} {vs:List V} {ds:List PyData},RepVs K f H xs vs->qy xs=some ds->Reps K (hide H f) ds vs
 | _,_,ds,.nil,e=>by cases e;exact .nil'
 | .dat d :: xs,v :: vs,ds,.cons r t,e=>by
  unfold qy at e
  cases q:qy xs with
  | none=>rw [q] at e;cases e
  | some es=>rw [q] at e;cases e;exact .cons' r (vo t q)
 | .feed :: xs,_,ds,.cons r t,e=>by cases e
 | .own _ :: xs,_,ds,.cons r t,e=>by cases e
 | .exc _ :: xs,_,ds,.cons r t,e=>by cases e
 | .mon _ :: xs,_,ds,.cons r t,e=>by cases e
theorem agB {t:TA} (h:PAd K f t ρ fun xs=>∃ ds,qy xs=some ds/\ds.length<=1000/\P (.list ds)):PEd K f (aiY t) ρ P:=fun σ H Q e q =>
 h σ H _ e fun xs vs H1 g1 r1 ⟨ds,ea,hl,p⟩=>by
  have rs:=vo r1 ea
  refine⟨by rw [rs.length];exact arv (yc hl),fun l hn=>?_⟩
  have sm:=z4 hn (.lst vs)
  have g2:Goes f H1 (upd H1 l (.lst vs)):=.of_same sm g1.2
  exact q (.list ds) _ _ (g1.trans g2) (rep_list.mpr ⟨l,vs,rfl,.of (zz (fresh_ne g1.2 hn) zB),Reps.mono g2.1 ds vs rs⟩) p
theorem aen {t:TA} (h:PAd K f t ρ fun xs=>∃ ds,qy xs=some ds/\ds.length<=1000/\P (.tuple ds)):PEd K f (aoW t) ρ P:=fun σ H Q e q =>
 h σ H _ e fun xs vs H1 g1 r1 ⟨ds,ea,hl,p⟩=>by
  have rs:=vo r1 ea
  refine⟨by rw [rs.length];exact arv (yc hl),fun l hn=>?_⟩
  have sm:=z4 hn (.tup vs)
  have g2:Goes f H1 (upd H1 l (.tup vs)):=.of_same sm g1.2
  exact q (.tuple ds) _ _ (g1.trans g2) (rep_tuple.mpr ⟨l,vs,rfl,.of (zz (fresh_ne g1.2 hn) zB),Reps.mono g2.1 ds vs rs⟩) p
theorem zC {γ:Type} {n:Nat} {pre:γ->List DV->Prop} {post:γ->PyData->Prop} {E:XK} {t:TA} (c:γ) (h:PAd K f t ρ fun xs=>xs.length=n/\pre c xs/\∀ r,post c r->P r):PEd K f (vW (spD K n pre post) [] E t) ρ P:=fun σ H Q e q =>
 h σ H _ e fun xs vs H1 g1 r1 ⟨hl,hp,k⟩=>by
  refine⟨f,xs,c,by rw [aqG];exact r1,hl,g1.2,hp,fun r v H' g' r' p'=>q r v H' (g1.trans g') r' (k r p')⟩
theorem ahS {r:List V->Hp->VK->Prop} {t:TA} (h:PAd K f t ρ fun xs=>∃ ds,qy xs=some ds/\∀ (vs:List V) (H:Hp) (Q:VK),FOk f H->Reps K (hide H f) ds vs->(∀ d u H',Goes f H H'->Rep K (hide H' f) d u->P d->Q u H')->r vs H Q):PEd K f (tCB r t) ρ P:=fun σ H Q e q =>
 h σ H _ e fun xs vs H1 g1 r1 ⟨ds,ea,k⟩=>k vs H1 Q g1.2 (vo r1 ea) fun d u H' g' r' p'=>q d u H' (g1.trans g') r' p'
end
section
variable {K:apT} {f:Fx} {ρ:zw} {P:PyData->Prop} {B:Bool->Prop} {te ta tb tc:TE} {tt tu:TT}
theorem PTd.imp {B':Bool->Prop} (h:PTd K f tt ρ B) (i:∀ d,B d->B' d):PTd K f tt ρ B':=fun σ H Q e q=>h σ H Q e fun d H' g p=>q d H' g (i d p)
theorem yw (h:PEd K f te ρ fun d=>∃ k,d=.bool k/\B k):PTd K f (aiU te) ρ B:=fun σ H Q e q=>h σ H _ e fun d v H' g r ⟨k,ed,p⟩=>by
 subst ed
 exact⟨k,rep_bool.mp r,q k H' g p⟩
theorem t_b (h:PEd K f te ρ fun d=>∃ k,d=.bool k/\B k):PTd K f (tB te) ρ B:=fun σ H Q e q=>h σ H _ e fun d v H' g r ⟨k,ed,p⟩=>by
 subst ed
 exact⟨k,rep_bool.mp r,q k H' g p⟩
theorem ai9 (h:PTd K f tt ρ fun c=>if c=true then PTd K f tu ρ B else B false):PTd K f (aoT tt tu) ρ B:=fun σ H Q e q=>h σ H _ e fun c H1 g p=>by
 cases c with
 | true =>
  rw [if_pos rfl] at p ⊢
  exact p σ H1 Q (e.mono g) fun b H2 g2 p2=>q b H2 (g.trans g2) p2
 | false =>
  rw [if_neg apQ] at p ⊢
  exact q false H1 g p
theorem abm (h:PTd K f tt ρ fun c=>if c=true then B true else PTd K f tu ρ B):PTd K f (tOr tt tu) ρ B:=fun σ H Q e q=>h σ H _ e fun c H1 g p=>by
 cases c with
 | true =>
  rw [if_pos rfl] at p ⊢
  exact q true H1 g p
 | false =>
  rw [if_neg apQ] at p ⊢
  exact p σ H1 Q (e.mono g) fun b H2 g2 p2=>q b H2 (g.trans g2) p2
theorem jR (h:PTd K f tt ρ fun c=>B (!c)):PTd K f (aoU tt) ρ B:=fun σ H Q e q=>h σ H _ e fun c H1 g p=>q (!c) H1 g p
def apG:PyData->Option Bool
 | .none=>some false
 | .bool b=>some b
 | .int i=>some (i != 0)
 | .list ds=>some (!ds.isEmpty)
 | .tuple ds=>some (!ds.isEmpty)
 | _=>none
def anK (K:apT) (ta:TE):TT:=fun σ H Q=>ta σ H fun x H'=>∃ k,anu K x H' k/\Q k H'
theorem anL {X:Cx} {a:Expr} (ha:PE X a ta) (he:∀ whole,isTrue a X.env whole=(do let v <- whole;standAt a.pos;holding [v] (truthy v))):PT X a (anK X.K ta):=aiW ha he
theorem yP (h:PEd K f ta ρ fun d=>∃ k,apG d=some k/\B k):PTd K f (anK K ta) ρ B:=fun σ H Q e q=>h σ H _ e fun d v H' g r ⟨k,ed,p⟩=>by
 refine⟨k,?_,q k H' g p⟩
 cases d with
 | none=>rw [rep_none.mp r];cases ed;rfl
 | bool b=>rw [rep_bool.mp r];cases ed;rfl
 | int i=>rw [rep_int.mp r];cases ed;rfl
 | str x=>cases ed
 | list ds =>
  obtain⟨a,xs,rfl,h1,h2⟩:=rep_list.mp r
  cases ed
  refine .inl ⟨xs,(zj _ _).seq h1,?_⟩
  cases ds with
  | nil=>rw [reps_nil.mp h2];rfl
  | cons d ds=>obtain⟨x,r,rfl,_⟩:=reps_cons.mp h2;rfl
 | tuple ds =>
  obtain⟨a,xs,rfl,h1,h2⟩:=rep_tuple.mp r
  cases ed
  refine .inr (.inl ⟨xs,(zj _ _).seqT h1,?_⟩)
  cases ds with
  | nil=>rw [reps_nil.mp h2];rfl
  | cons d ds=>obtain⟨x,r,rfl,_⟩:=reps_cons.mp h2;rfl
 | dict _=>cases ed
theorem aja (h:PTd K f tt ρ fun c=>if c=true then PEd K f ta ρ P else PEd K f tb ρ P):PEd K f (tIf tt ta tb) ρ P:=fun σ H Q e q=>h σ H _ e fun c H1 g p=>by
 cases c with
 | true=>rw [if_pos rfl] at p ⊢;exact p σ H1 Q (e.mono g) fun d v H2 g2 r2 p2=>q d v H2 (g.trans g2) r2 p2
 | false=>rw [if_neg apQ] at p ⊢;exact p σ H1 Q (e.mono g) fun d v H2 g2 r2 p2=>q d v H2 (g.trans g2) r2 p2
theorem aam (h:PEd K f ta ρ fun x=>∃ c,x=.bool c/\if c=true then PEd K f tb ρ P else P (.bool false)):PEd K f (amN ta tb) ρ P:=fun σ H Q e q=>h σ H _ e fun x v H1 g r ⟨c,ex,p⟩=>by
 subst ex
 refine⟨c,rep_bool.mp r,?_⟩
 cases c with
 | true=>rw [if_pos rfl] at p ⊢;exact p σ H1 Q (e.mono g) fun d v H2 g2 r2 p2=>q d v H2 (g.trans g2) r2 p2
 | false=>rw [if_neg apQ] at p ⊢;exact q _ _ H1 g (rep_bool.mpr rfl) p
theorem ajb (h:PEd K f ta ρ fun x=>∃ c,x=.bool c/\P (.bool !c)):PEd K f (amO ta) ρ P:=fun σ H Q e q=>h σ H _ e fun x v H1 g r ⟨c,ex,p⟩=>by
 subst ex
 exact⟨c,rep_bool.mp r,q _ _ H1 g (rep_bool.mpr rfl) p⟩
theorem agC {g g':Int->Int->Bool} (h:PEd K f ta ρ fun x=>∃ i,x=.int i/\PEd K f tb ρ fun y=>∃ j,y=.int j/\if g i j=true then PEd K f tc ρ fun z=>∃ k,z=.int k/\P (.bool (g' j k)) else P (.bool false)) :
  PEd K f (aiV (rI0 fun i j=>.bl (g i j)) (rI0 fun i j=>.bl (g' i j)) ta tb tc) ρ P:=fun σ H Q e q=>h σ H _ e fun x v H1 g1 r1 ⟨i,ex,p1⟩=>p1 σ H1 _ (e.mono g1) fun y w H2 g2 r2 ⟨j,ey,p2⟩=>by
 subst ex ey
 refine⟨i,j,rep_int.mp r1,rep_int.mp r2,g i j,rfl,?_⟩
 by_cases hg:g i j=true
 ·rw [if_pos hg] at p2 ⊢
  exact p2 σ H2 _ ((e.mono g1).mono g2) fun z u H3 g3 r3 ⟨k,ez,p3⟩=>by
   subst ez
   exact⟨j,k,rep_int.mp r2,rep_int.mp r3,q _ _ H3 (g1.trans (g2.trans g3)) (rep_bool.mpr rfl) p3⟩
 ·rw [if_neg hg] at p2 ⊢
  exact q _ _ H2 (g1.trans g2) (rep_bool.mpr rfl) p2
theorem vL {t:TA} (h:PAd K f t ρ fun xs=>(∃ ds,xs=[.dat (.list ds)]/\P (.int ds.length)) \/ (∃ ds,xs=[.dat (.tuple ds)]/\P (.int ds.length))) :
  PEd K f (tCB (fun xs H Q=>∃ p ys,xs=[.ref p]/\(SqL K H p ys \/ SqT K H p ys)/\Q (.int ys.length) H) t) ρ P :=
 ahS fun σ H Q e q=>h σ H Q e fun xs vs H' g r p=>by
  rcases p with⟨ds,rfl,p⟩ | ⟨ds,rfl,p⟩
  ·refine q _ vs H' g r ⟨_,rfl,fun vs H Q fo rs k=>?_⟩
   obtain⟨x,r,rfl,h2,h3⟩:=reps_cons.mp rs
   rw [reps_nil.mp h3]
   obtain⟨a,ys,rfl,s1,s2⟩:=rep_list.mp h2
   exact⟨a,ys,rfl,.inl ((zj _ _).seq s1),k (.int ds.length) _ H (.refl fo) (rep_int.mpr (by rw [s2.length])) p⟩
  ·refine q _ vs H' g r ⟨_,rfl,fun vs H Q fo rs k=>?_⟩
   obtain⟨x,r,rfl,h2,h3⟩:=reps_cons.mp rs
   rw [reps_nil.mp h3]
   obtain⟨a,ys,rfl,s1,s2⟩:=rep_tuple.mp h2
   exact⟨a,ys,rfl,.inr ((zj _ _).seqT s1),k (.int ds.length) _ H (.refl fo) (rep_int.mpr (by rw [s2.length])) p⟩
theorem adq {t:TA} (h:PAd K f t ρ fun xs=>∃ ns:List Int,xs=[.dat (.list (ns.map .int))]/\ns≠[]/\∀ M,M∈ns->(∀ b∈ns,M<=b)->P (.int M)) :
  PEd K f (tCB (fun xs H Q=>∃ a ns,xs=[.ref a]/\SqL K H a (ns.map V.int)/\ns≠[]/\∀ M,M∈ns->(∀ b∈ns,M<=b)->Q (.int M) H) t) ρ P :=
 ahS fun σ H Q e q=>h σ H Q e fun xs vs H' g r ⟨ns,ex,hne,p⟩=>by
  subst ex
  refine q _ vs H' g r ⟨_,rfl,fun vs H Q fo rs k=>?_⟩
  obtain⟨x,r,rfl,h2,h3⟩:=reps_cons.mp rs
  rw [reps_nil.mp h3]
  obtain⟨a,ys,rfl,s1,s2⟩:=rep_list.mp h2
  rw [s2.ints] at s1
  exact⟨a,ns,rfl,(zj _ _).seq s1,hne,fun M h1 h2=>k (.int M) _ H (.refl fo) (rep_int.mpr rfl) (p M h1 h2)⟩
theorem ads {t:TA} (h:PAd K f t ρ fun xs=>∃ ns:List Int,xs=[.dat (.list (ns.map .int))]/\ns≠[]/\∀ M,M∈ns->(∀ b∈ns,b<=M)->P (.int M)) :
  PEd K f (tCB (fun xs H Q=>∃ a ns,xs=[.ref a]/\SqL K H a (ns.map V.int)/\ns≠[]/\∀ M,M∈ns->(∀ b∈ns,b<=M)->Q (.int M) H) t) ρ P :=
 ahS fun σ H Q e q=>h σ H Q e fun xs vs H' g r ⟨ns,ex,hne,p⟩=>by
  subst ex
  refine q _ vs H' g r ⟨_,rfl,fun vs H Q fo rs k=>?_⟩
  obtain⟨x,r,rfl,h2,h3⟩:=reps_cons.mp rs
  rw [reps_nil.mp h3]
  obtain⟨a,ys,rfl,s1,s2⟩:=rep_list.mp h2
  rw [s2.ints] at s1
  exact⟨a,ns,rfl,(zj _ _).seq s1,hne,fun M h1 h2=>k (.int M) _ H (.refl fo) (rep_int.mpr rfl) (p M h1 h2)⟩
theorem ajc {g:Int->Int->Int} {t:TA} (h:PAd K f t ρ fun xs=>∃ i j,xs=[.dat (.int i),.dat (.int j)]/\P (.int (g i j))):PEd K f (tCB (fun xs H Q=>∃ i j,xs=[.int i,.int j]/\Q (.int (g i j)) H) t) ρ P :=
 ahS fun σ H Q e q=>h σ H Q e fun xs vs H' g' r ⟨i,j,ex,p⟩=>by
  subst ex
  refine q _ vs H' g' r ⟨_,rfl,fun vs H Q fo rs k=>?_⟩
  obtain⟨x,r,rfl,h2,h3⟩:=reps_cons.mp rs
  obtain⟨y,r',rfl,h4,h5⟩:=reps_cons.mp h3
  rw [reps_nil.mp h5,rep_int.mp h2,rep_int.mp h4]
  exact⟨i,j,rfl,k _ _ H (.refl fo) (rep_int.mpr rfl) p⟩
theorem ajd {g:Int->Int} {t:TA} (h:PAd K f t ρ fun xs=>∃ i,xs=[.dat (.int i)]/\P (.int (g i))):PEd K f (tCB (fun xs H Q=>∃ i,xs=[.int i]/\Q (.int (g i)) H) t) ρ P :=
 ahS fun σ H Q e q=>h σ H Q e fun xs vs H' g' r ⟨i,ex,p⟩=>by
  subst ex
  refine q _ vs H' g' r ⟨_,rfl,fun vs H Q fo rs k=>?_⟩
  obtain⟨x,r,rfl,h2,h3⟩:=reps_cons.mp rs
  rw [reps_nil.mp h3,rep_int.mp h2]
  exact⟨i,rfl,k _ _ H (.refl fo) (rep_int.mpr rfl) p⟩
end
section
variable {K:apT} {f:Fx} {ρ:zw} {D:DEnds} {te ta tb:TE} {tt:TT} {ts tu:TS}
theorem qm (p:D.nx ρ):PSd K f acu ρ D:=fun σ H E e n _ _ _=>n ρ σ H (.refl e.fd) e p
theorem yn (h:PSd K f ts ρ { D with nx:=fun ρ'=>PSd K f tu ρ' D }):PSd K f (qf ts tu) ρ D:=fun σ H E e n r b c =>
 h σ H { E with nx:=tu E } e (fun ρ' σ' H' g e' p=>p σ' H' E e' (fun ρ'' σ'' H'' g' e'' p'=>n ρ'' σ'' H'' (g.trans g') e'' p') (fun d v H'' g' r' p'=>r d v H'' (g.trans g') r' p') (fun ρ'' σ'' H'' g' e'' p'=>b ρ'' σ'' H'' (g.trans g') e'' p') (fun ρ'' σ'' H'' g' e'' p'=>c ρ'' σ'' H'' (g.trans g') e'' p')) r b c
theorem yu (h:PEd K f te ρ D.rt):PSd K f (aec te) ρ D:=fun σ H E e n r b c=>h σ H _ e r
theorem abn (h:PEd K f te ρ fun _=>D.nx ρ):PSd K f (abc te) ρ D:=fun σ H E e n r b c=>h σ H _ e fun d v H' g _ p=>n ρ σ H' g (e.mono g) p
theorem ach (h:PTd K f tt ρ fun b=>if b=true then PSd K f ts ρ D else PSd K f tu ρ D):PSd K f (aed tt ts tu) ρ D:=fun σ H E e n r b c=>h σ H _ e fun k H1 g p=>by
 cases k with
 | true =>
  rw [if_pos rfl] at p ⊢
  exact p σ H1 E (e.mono g) (fun ρ'' σ'' H'' g' e'' p'=>n ρ'' σ'' H'' (g.trans g') e'' p') (fun d v H'' g' r' p'=>r d v H'' (g.trans g') r' p') (fun ρ'' σ'' H'' g' e'' p'=>b ρ'' σ'' H'' (g.trans g') e'' p') (fun ρ'' σ'' H'' g' e'' p'=>c ρ'' σ'' H'' (g.trans g') e'' p')
 | false =>
  rw [if_neg apQ] at p ⊢
  exact p σ H1 E (e.mono g) (fun ρ'' σ'' H'' g' e'' p'=>n ρ'' σ'' H'' (g.trans g') e'' p') (fun d v H'' g' r' p'=>r d v H'' (g.trans g') r' p') (fun ρ'' σ'' H'' g' e'' p'=>b ρ'' σ'' H'' (g.trans g') e'' p') (fun ρ'' σ'' H'' g' e'' p'=>c ρ'' σ'' H'' (g.trans g') e'' p')
def PGd (K:apT) (f:Fx) (g:TG) (d:PyData) (ρ:zw) (R:zw->Prop):Prop:=∀ (σ:St) (H:Hp) (v:V) (Q:St->Hp->Prop),EnvOk K f ρ σ H->Rep K (hide H f) d v->(∀ ρ' σ' H',Goes f H H'->EnvOk K f ρ' σ' H'->R ρ'->Q σ' H')->g v σ H Q
def aje (K:apT) (f:Fx) (g:TGs) (ds:List PyData) (ρ:zw) (R:zw->Prop):Prop:=∀ (σ:St) (H:Hp) (vs:List V) (Q:St->Hp->Prop),EnvOk K f ρ σ H->Reps K (hide H f) ds vs->(∀ ρ' σ' H',Goes f H H'->EnvOk K f ρ' σ' H'->R ρ'->Q σ' H')->g vs σ H Q
theorem zu {i:Nat} {d:PyData} {R:zw->Prop} (h:R (ρ.set i (some (.dat d)))):PGd K f (yJ i) d ρ R:=fun σ H v Q e r q=>q _ _ H (.refl e.fd) (e.set i (x:=.dat d) r) h
theorem yG {R:zw->Prop} (h:R ρ):aje K f anp [] ρ R:=fun σ H vs Q e r q=>⟨reps_nil.mp r,q ρ σ H (.refl e.fd) e h⟩
theorem zG {g:TG} {gs:TGs} {d:PyData} {ds:List PyData} {R:zw->Prop} (h:PGd K f g d ρ fun ρ'=>aje K f gs ds ρ' R):aje K f (agr g gs) (d :: ds) ρ R:=fun σ H vs Q e r q=>by
 obtain⟨x,r',rfl,h2,h3⟩:=reps_cons.mp r
 exact⟨x,r',rfl,h σ H x _ e h2 fun ρ' σ' H' g' e' p=>p σ' H' r' Q e' (Reps.mono g'.1 ds r' h3) fun ρ'' σ'' H'' g'' e'' p'=>q ρ'' σ'' H'' (g'.trans g'') e'' p'⟩
theorem jl {n:Nat} {gs:TGs} {ds:List PyData} {R:zw->Prop} (hn:ds.length=n) (h:aje K f gs ds ρ R):PGd K f (ale K n gs) (.tuple ds) ρ R:=fun σ H v Q e r q=>by
 obtain⟨a,xs,rfl,h1,h2⟩:=rep_tuple.mp r
 exact⟨a,xs,rfl,(zj _ _).seqT h1,by rw [h2.length];exact hn,h σ H xs Q e h2 q⟩
theorem yo {g:TG} (h:PEd K f te ρ fun d=>PGd K f g d ρ D.nx):PSd K f (jE te g) ρ D:=fun σ H E e n r b c =>
 h σ H _ e fun d v H1 g1 r1 p1=>p1 σ H1 v _ (e.mono g1) r1 fun ρ' σ' H' g' e' p'=>n ρ' σ' H' (g1.trans g') e' p'
end
section
variable {K:apT} {f:Fx} {ρ:zw} {D:DEnds} {te ta tb:TE} {tt:TT} {ts tu:TS} {g:TG}
theorem afA {t:TA} (h:PAd K f t ρ fun xs=>∃ ds,xs=[.dat (.list ds)]/\∃ J:Nat->zw->Prop,J 0 ρ /\
   (∀ (i:Nat) d ρ',ds[i]?=some d->J i ρ'->PGd K f g (.tuple [.int i,d]) ρ' fun ρ2=>PSd K f ts ρ2 { D with nx:=J (i+1),ct:=J (i+1),bk:=D.nx })/\∀ ρ',J ds.length ρ'->D.nx ρ') :
  PSd K f (ahF (agz K t) g ts) ρ D:=fun σ H E e n r b c=>h σ H _ e fun xs vs H1 g1 r1 ⟨ds,ex,J,j0,js,jd⟩=>by
 subst ex
 cases r1 with
 | cons rx r' =>
  cases r'
  obtain⟨a,xs,rfl,h1,h2⟩:=rep_list.mp rx
  have hl:=h2.length
  refine⟨a,rfl,⟨xs,(zj _ _).seq h1⟩,ai6 (K:=K) (a:=a) (xs:=xs) (fun i σ' H'=>∃ ρ',EnvOk K f ρ' σ' H'/\Goes f H H'/\Goes f H1 H'/\J i ρ') ⟨ρ,e.mono g1,g1,.refl g1.2,j0⟩ (fun i σ' H' _ ⟨ρ',e',g',g1',p⟩=>(zj _ _).seq (g1'.1.seq h1)) (fun i y σ' H' tp hy ⟨ρ',e',g',g1',p⟩ hn=>?_) fun σ' H' ⟨ρ',e',g',_,p⟩=>n ρ' σ' H' g' e' (jd ρ' (by rw [<-hl];exact p))⟩
  have hi:i<ds.length:=by rw [<-hl];exact (apS.mp hy).1
  obtain⟨z,hz,rz⟩:=h2.get (apO hi)
  rw [hy] at hz
  cases hz
  have gn:Goes f H' (upd H' tp (.tup [.int i,y])):=.of_same (z4 hn _) e'.fd
  have rt:Rep K (hide (upd H' tp (.tup [.int i,y])) f) (.tuple [.int i,ds[i]]) (.ref tp):=rep_tuple.mpr ⟨tp,_,rfl,.of (zz (fresh_ne e'.fd hn) zB),.cons' (rep_int.mpr rfl) (.cons' (Rep.mono gn.1 _ _ (Rep.mono g1'.1 _ _ rz)) .nil')⟩
  refine js i _ ρ' (apO hi) p σ' _ _ _ (e'.mono gn) rt fun ρ2 σ2 H2 g2' e2 p2=>?_
  have g2:=gn.trans g2'
  exact p2 σ2 H2 _ e2 (fun ρ3 σ3 H3 g3 e3 p3=>⟨ρ3,e3,g'.trans (g2.trans g3),g1'.trans (g2.trans g3),p3⟩) (fun d v H3 g3 r3 p3=>r d v H3 (g'.trans (g2.trans g3)) r3 p3) (fun ρ3 σ3 H3 g3 e3 p3=>n ρ3 σ3 H3 (g'.trans (g2.trans g3)) e3 p3) (fun ρ3 σ3 H3 g3 e3 p3=>⟨ρ3,e3,g'.trans (g2.trans g3),g1'.trans (g2.trans g3),p3⟩)
end
def frD (fr:List Nat) (ρ:zw):zw:=fr.map fun j=>(ρ[j]?).getD none
def qz (own:Nat) (fr:List Nat) (ρ:zw):zw:=asd own none++frD fr ρ
abbrev Fx.with (f:Fx) (D:Addr):Fx:=⟨f.f,D :: f.M⟩
section
variable {K:apT} {f:Fx} {ρ:zw} {σ:St} {H H':Hp} {D:Addr} {o:HO}
theorem aan {own:Nat} {fr:List Nat} (e:EnvOk K f ρ σ H):EnvOk K f (qz own fr ρ) (yS own fr σ) H:=by
 refine⟨by unfold qz yS frD;simp,fun i x h=>?_,e.fd⟩
 unfold qz frD at h
 unfold yS
 by_cases hi:i<own
 ·rw [ap1 (by simpa using hi),ase] at h
  split at h <;> cases h
 ·rw [ap2 (by simpa using hi)] at h ⊢
  simp only [as5,apU] at h ⊢
  cases hj:fr[i - own]? with
  | none=>rw [hj] at h;cases h
  | some j =>
   rw [hj] at h
   have h':(ρ[j]?).getD none=some x:=Option.some.inj h
   have hρ:ρ[j]?=some (some x):=by
    cases q:ρ[j]? with
    | none=>rw [q] at h';cases h'
    | some w=>rw [q] at h';exact congrArg some h'
   obtain⟨v,h1,h2⟩:=e.get j x hρ
   exact⟨v,by simp [h1],h2⟩
theorem yp:hide (upd H D o) (f.with D)=hide H (f.with D):=by
 funext b
 unfold hide
 by_cases hb:f.f=some b \/ b∈D :: f.M
 ·rw [if_pos hb,if_pos hb]
 ·rw [if_neg hb,if_neg hb]
  have:b≠D:=fun z=>hb (.inr (z▸apX))
  exact zA this
theorem same_with:Same (hide H (f.with D)) (hide H f):=fun b o h=>by
 obtain⟨h1,h2⟩:=zH h
 exact zz (fun z=>h1 (z.elim .inl fun z=>.inr (apW _ z))) h2
theorem jz (hn:H D=none):Same (hide H f) (hide (upd H D o) (f.with D)):=fun b u h=>by
 obtain⟨h1,h2⟩:=zH h
 have hb:b≠D:=zI h2 hn
 exact zz (fun z=>z.elim (fun z=>h1 (.inl z)) fun z=>(ap0.mp z).elim hb fun z=>h1 (.inr z)) (by rw [zA hb];exact h2)
theorem ajf (h:FOk f H) (hn:H D=none):FOk (f.with D) (upd H D o) :=
 ⟨fun p e=>let⟨a,b,h1,h2⟩:=h.fd p e;⟨a,b,by rw [zA (zI h1 hn)];exact h1,h2⟩,fun b hb=>by
  rcases ap0.mp hb with rfl | hb
  ·exact⟨_,zB⟩
  ·obtain⟨o',h1⟩:=h.mm b hb
   exact⟨o',by rw [zA (zI h1 hn)];exact h1⟩,fun p e hp=>by
  rcases ap0.mp hp with rfl | hp
  ·exact fresh_ne h hn (.inl e)
  ·exact h.nm p e hp⟩
theorem afB (e:EnvOk K f ρ σ H) (hn:H D=none):EnvOk K (f.with D) ρ σ (upd H D o) :=
 ⟨e.len,fun i x h=>let⟨v,h1,h2⟩:=e.get i x h;⟨v,h1,by
  cases x with
  | dat d=>exact Rep.mono (jz hn) d v h2
  | feed=>exact h2
  | own k =>
   obtain⟨p,h3,h4⟩:=h2
   refine⟨p,?_,h4⟩
   show (D :: f.M).reverse[k]?=some p
   rw [atR,ap1 (apS.mp h3).1]
   exact h3
  | exc C =>
   obtain⟨a,h3,h4⟩:=h2
   exact⟨a,h3,jz hn _ _ h4⟩
  | mon φ=>exact fun H' s=>h2 H' ((jz hn).trans s)⟩,ajf e.fd hn⟩
theorem adt (hD:f.f≠some D) (e:EnvOk K (f.with D) ρ σ H):EnvOk K (f.with D) ρ σ (upd H D o) :=
 ⟨e.len,fun i x h=>let⟨v,h1,h2⟩:=e.get i x h;⟨v,h1,by
  cases x with
  | dat d =>
   have h2':Rep K (hide H (f.with D)) d v:=h2
   show Rep K (hide (upd H D o) (f.with D)) d v
   rw [yp];exact h2'
  | feed=>exact h2
  | own k=>exact h2
  | exc C =>
   obtain⟨a,h3,h4⟩:=h2
   refine⟨a,h3,?_⟩
   rw [yp]
   exact h4
  | mon φ =>
   intro H' s
   rw [yp] at s
   exact h2 H' s⟩,⟨fun p ep=>let⟨a,b,h1,h2⟩:=e.fd.fd p ep;⟨a,b,by rw [zA (fun z=>hD (by rw [<-z];exact ep))];exact h1,h2⟩,fun b hb=>by
   by_cases hb':b=D
   ·subst hb';exact⟨_,zB⟩
   ·rw [zA hb'];exact e.fd.mm b hb,e.fd.nm⟩⟩
end
section
variable {K:apT} {f:Fx} {ρ:zw} {P:PyData->Prop} {te tl:TE} {tt:TT} {g:TG} {own:Nat} {fr:List Nat}
structure CSt (K:apT) (f:Fx) (D:Addr) (H2:Hp) (ρ':zw) (es:List PyData) (σ:St) (H:Hp):Prop where
 env:EnvOk K (f.with D) ρ' σ H
 sm:Same (hide H2 (f.with D)) (hide H (f.with D))
 kp:∀ b∈f.M,H b=H2 b
 lst:∃ vs,H D=some (.lst vs)/\Reps K (hide H (f.with D)) es vs
theorem CSt.go {D:Addr} {H2 H H':Hp} {ρ':zw} {es:List PyData} {σ:St} (c:CSt K f D H2 ρ' es σ H) (gg:Goes (f.with D) H H') {ρ2:zw} {σ2:St} (e2:EnvOk K (f.with D) ρ2 σ2 H'):CSt K f D H2 ρ2 es σ2 H' :=
 ⟨e2,c.sm.trans gg.sm,fun b hb=>(gg.kp b (apW _ hb)).trans (c.kp b hb),let⟨vs,h1,h2⟩:=c.lst;⟨vs,(gg.kp D apX).trans h1,Reps.mono gg.sm es vs h2⟩⟩
theorem CSt.put {D:Addr} {H2 H:Hp} {ρ':zw} {es:List PyData} {σ:St} {d:PyData} {v:V} {vs:List V} (hD:f.f≠some D) (hM:D∉f.M) (c:CSt K f D H2 ρ' es σ H) (h1:H D=some (.lst vs)) (h2:Reps K (hide H (f.with D)) es vs) (r:Rep K (hide H (f.with D)) d v) :
  CSt K f D H2 ρ' (es++[d]) σ (upd H D (.lst (vs++[v]))) :=
 ⟨adt hD c.env,by rw [yp];exact c.sm,fun b hb=>(zA (fun (z:b=D)=>hM (z▸hb))).trans (c.kp b hb),⟨_,zB,by rw [yp];exact h2.snoc r⟩⟩
theorem acC {D:Addr} {H2 H:Hp} {ρ':zw} {es:List PyData} {σ:St} {d:PyData} {v:V} {W:St->Hp->Prop} {R:zw->List PyData->Prop} (hD:f.f≠some D) (hM:D∉f.M) (c:CSt K f D H2 ρ' es σ H) (hl:es.length<1000) (r:Rep K (hide H (f.with D)) d v)
  (h:PGd K (f.with D) g d ρ' fun ρ2=>PTd K (f.with D) tt ρ2 fun b=>if b=true then PEd K (f.with D) te ρ2 fun e=>R ρ2 (es++[e]) else R ρ2 es)
  (hW:∀ ρ2 es2 σ2 H',CSt K f D H2 ρ2 es2 σ2 H'->R ρ2 es2->W σ2 H') :
  g v σ H fun σ2 H3=>tt σ2 H3 fun b H4=>if b=true then jP D te σ2 H4 W else W σ2 H4:=by
 refine h σ H v _ c.env r fun ρ2 σ2 H3 g3 e3 p3=>?_
 have c3:=c.go g3 e3
 refine p3 σ2 H3 _ e3 fun b H4 g4 p4=>?_
 have c4:=c3.go g4 (e3.mono g4)
 cases b with
 | false =>
  rw [if_neg apQ] at p4 ⊢
  exact hW _ _ _ _ c4 p4
 | true =>
  rw [if_pos rfl] at p4 ⊢
  refine p4 σ2 H4 _ (e3.mono g4) fun e u H5 g5 r5 p5=>?_
  have c5:=c4.go g5 ((e3.mono g4).mono g5)
  obtain⟨vs,h1,h2⟩:=c5.lst
  exact⟨vs,h1,yc (by rw [h2.length];omega),hW _ _ _ _ (c5.put hD hM h1 h2 r5) p5⟩
theorem abo {D:Addr} {H1 H:Hp} {ρ':zw} {es:List PyData} {σ σ':St} (hn:H1 D=none) (fo:FOk f H1) (c:CSt K f D (upd H1 D (.lst [])) ρ' es σ H):Goes f H1 H/\Rep K (hide H f) (.list es) (.ref D):=by
 obtain⟨vs,h1,h2⟩:=c.lst
 have nD:=fresh_ne fo hn
 refine⟨⟨((jz hn).trans c.sm).trans same_with,⟨c.env.fd.fd,fun b hb=>c.env.fd.mm b (apW _ hb),fun p e hp=>c.env.fd.nm p e (apW _ hp)⟩,fun b hb=>?_⟩,rep_list.mpr ⟨D,vs,rfl,.of (zz nD h1),Reps.mono same_with es vs h2⟩⟩
 rw [c.kp b hb,zA]
 obtain⟨o,h3⟩:=fo.mm b hb
 exact zI h3 hn
theorem vP {D:Addr} {H1:Hp} {σ:St} (hn:H1 D=none) (e:EnvOk K f ρ σ H1):CSt K f D (upd H1 D (.lst [])) (qz own fr ρ) [] (yS own fr σ) (upd H1 D (.lst [])) :=
 ⟨afB (aan e) hn,Same.refl _,fun _ _=>rfl,⟨[],zB,.nil'⟩⟩
theorem anM (h:PEd K f tl ρ fun x=>∃ ds,x=.list ds/\ds.length<=1000/\∃ R:Nat->zw->List PyData->Prop,R 0 (qz own fr ρ) [] /\
   (∀ D (i:Nat) d ρ' es,ds[i]?=some d->R i ρ' es->PGd K (f.with D) g d ρ' fun ρ2=>PTd K (f.with D) tt ρ2 fun b=>if b=true then PEd K (f.with D) te ρ2 fun e=>R (i+1) ρ2 (es++[e]) else R (i+1) ρ2 es) /\
   (∀ i ρ' es,R i ρ' es->es.length<=i)/\∀ ρ' es,R ds.length ρ' es->P (.list es)) :
  PEd K f (jH (acv K tl) own fr g tt fun D=>jP D te) ρ P:=fun σ H Q e q=>h σ H _ e fun x v H1 g1 r1 ⟨ds,ex,hz,R,r0,rs,rl,re⟩=>by
 subst ex
 obtain⟨a,xs,rfl,s1,s2⟩:=rep_list.mp r1
 have hl:=s2.length
 refine⟨a,rfl,⟨xs,(zj _ _).seq s1⟩,fun D hn=>?_⟩
 have nD:=fresh_ne g1.2 hn
 have hD:f.f≠some D:=fun z=>nD (.inl z)
 have hM:D∉f.M:=fun z=>nD (.inr z)
 have e1:=e.mono g1
 have keep:∀ {ρ':zw} {es:List PyData} {σ':St} {H':Hp},CSt K f D (upd H1 D (.lst [])) ρ' es σ' H'->Same (hide H1 f) (hide H' (f.with D)):=fun c=>(jz hn).trans c.sm
 refine⟨fun i m σ' H'=>∃ ρ' es,CSt K f D (upd H1 D (.lst [])) ρ' es σ' H'/\R i ρ' es/\i<=ds.length/\m+i=ds.length,⟨ds.length,_,[],vP hn e1,r0,aqu _,rfl⟩,fun i m σ' H' ⟨ρ',es,c,p,hi,hm⟩=>?_⟩
 have sq:SqL K H' a xs:=(zj _ _).seq ((keep c).seq s1)
 by_cases hlt:i<ds.length
 ·obtain⟨z,hzz,rz⟩:=s2.get (apO hlt)
  refine .inr ⟨⟨xs,z,sq,hzz⟩,fun x H3 hy=>?_⟩
  obtain⟨rfl,hy⟩:=hy
  have ez:=hy xs sq
  rw [hzz] at ez
  cases ez
  refine acC (R:=R (i+1)) hD hM c (by have:=rl i ρ' es p;omega) (Rep.mono (keep c) _ _ rz) (rs D i _ ρ' es (apO hlt) p) fun ρ2 es2 σ2 H4 c2 p2=>?_
  exact⟨m - 1,by omega,ρ2,es2,c2,p2,by omega,by omega⟩
 ·have ei:i=ds.length:=by omega
  subst ei
  obtain⟨ge,rep⟩:=abo (σ':=σ') hn g1.2 c
  exact .inl ⟨⟨xs,sq,by omega⟩,q _ _ H' (g1.trans ge) rep (re ρ' es p)⟩
theorem agD (h:PEd K f tl ρ fun x=>∃ ds,x=.list ds/\ds.length<=1000/\∃ R:Nat->PyData->Prop,
   (∀ D (i:Nat) d,ds[i]?=some d->PEd K (f.with D) te (some (.dat d) :: frD fr ρ) (R i))/\∀ es:List PyData,es.length=ds.length->(∀ (i:Nat) e,es[i]?=some e->R i e)->P (.list es)) :
  PEd K f (jH (acv K tl) 1 fr (yJ 0) afy fun D=>jP D te) ρ P :=
 anM (h.imp fun x ⟨ds,ex,hz,R,rs,re⟩=>by
  refine⟨ds,ex,hz,fun i ρ' es=>(∃ x,ρ'=x :: frD fr ρ)/\es.length=i/\∀ (k:Nat) e,es[k]?=some e->R k e,⟨⟨none,rfl⟩,rfl,fun k e h=>by simp at h⟩,fun D i d ρ' es hi p=>?_,fun i ρ' es p=>arR p.2.1,fun ρ' es p=>re es p.2.1 p.2.2⟩
  obtain⟨⟨x,rfl⟩,hl,hp⟩:=p
  refine zu ?_
  intro σ H Q e q
  refine q true H (.refl e.fd) ?_
  dsimp only
  rw [if_pos rfl]
  refine (rs D i d hi).imp fun d hd=>⟨⟨_,rfl⟩,by rw [aqa,hl];rfl,fun k e hk=>?_⟩
  by_cases hkl:k<es.length
  ·rw [ap1 hkl] at hk;exact hp k e hk
  ·rw [ap2 (by omega)] at hk
   have hk0:k - es.length=0:=by
    have:=(apS.mp hk).1
    simp at this;omega
   rw [hk0] at hk
   cases hk
   have:k=i:=by omega
   subst this
   exact hd)
end
section
variable {K:apT} {f:Fx} {ρ:zw} {D:DEnds} {te:TE} {i:Nat}
theorem aeo {σ:St} {H:Hp} {p:Addr} {a b:Int} (e:EnvOk K f ρ σ H) (ef:f.f=some p) (h0:0<=a) (h1:0<=b) (h2:b<2147483647):Goes f H (upd H p (.lst [.int a,.int b])) :=
 have hM:=e.fd.nm p ef
 ⟨fun x o h=>by
  obtain⟨n,hx⟩:=zH h
  exact zz n (by rw [zA (fun z=>n (.inl (by rw [z];exact ef)))];exact hx),
 ⟨fun q eq=>by
   rw [ef] at eq;cases eq
   exact⟨a,b,zB,h0,h1,h2⟩,fun x hx=>by
   by_cases hxp:x=p
   ·subst hxp;exact absurd hx hM
   ·rw [zA hxp];exact e.fd.mm x hx,e.fd.nm⟩,
fun x hx=>zA (fun z=>hM (z▸hx))⟩
theorem agE (hi:ρ[i]?=some (some .feed)) (h:PEd K f te ρ fun d=>∃ a:Int,d=.int a/\0<=a/\D.nx ρ):PSd K f (jE te (ac9 (yr i) (tC (.int 0)) aaG)) ρ D:=fun σ H E e n r b c=>h σ H _ e fun d v H1 g1 r1 ⟨a,ed,h0,p⟩=>by
 subst ed
 obtain⟨u,h1,q,ef,eu⟩:=e.get i _ hi
 obtain⟨a',b',hf,c1,c2,c3⟩:=g1.2.fd q ef
 refine⟨u,h1,q,_,0,0,eu,rfl,hf,rfl,?_⟩
 rw [rep_int.mp r1]
 have g2:Goes f H1 (upd H1 q (.lst [.int a,.int b'])):=aeo (e.mono g1) ef h0 c2 c3
 exact n ρ σ _ (g1.trans g2) ((e.mono g1).mono g2) p
theorem agF (hi:ρ[i]?=some (some .feed)) (h:PEd K f te ρ fun d=>∃ a:Int,d=.int a/\0<=a/\a<2147483647/\D.nx ρ):PSd K f (jE te (ac9 (yr i) (tC (.int 1)) aaG)) ρ D:=fun σ H E e n r b c=>h σ H _ e fun d v H1 g1 r1 ⟨a,ed,h0,h0',p⟩=>by
 subst ed
 obtain⟨u,h1,q,ef,eu⟩:=e.get i _ hi
 obtain⟨a',b',hf,c1,c2,c3⟩:=g1.2.fd q ef
 refine⟨u,h1,q,_,1,1,eu,rfl,hf,rfl,?_⟩
 rw [rep_int.mp r1]
 have g2:Goes f H1 (upd H1 q (.lst [.int a',.int a])):=aeo (e.mono g1) ef c1 h0 h0'
 exact n ρ σ _ (g1.trans g2) ((e.mono g1).mono g2) p
end
theorem yU {X:Cx} {x:Str} {i:Int} {t:Tok} {pos:Pos} (hg:Gl X x) (hm:X.mg x=some (.int i t)) (hd:(x == ("__debug__":Str))=false:=by decide):PE X (.Name x pos) (tC (.int i)):=alb hg hm ⟨t,rfl⟩ hd
def qA (N:List Str) (xs:List DV):zw:=xs.map some++asd (N.length - xs.length) none
theorem qo {K:apT} {f:Fx} {H:Hp} {N:List Str} {xs:List DV} {vs:List V} (r:RepVs K f H xs vs) (fo:FOk f H):EnvOk K f (qA N xs) (start N vs) H:=by
 have hl:=r.length
 refine⟨by unfold qA start;simp [hl],fun i x h=>?_,fo⟩
 unfold qA at h
 unfold start
 have get:∀ {xs:List DV} {vs:List V} {i:Nat} {x:DV},RepVs K f H xs vs->xs[i]?=some x->∃ v,vs[i]?=some v/\RepV K f H x v:=by
  intro xs vs i x r
  induction r generalizing i with
  | nil=>intro h;simp at h
  | cons r1 r2 ih =>
   intro h
   cases i with
   | zero=>simp at h;subst h;exact⟨_,rfl,r1⟩
   | succ i=>simp at h;obtain⟨v,h1,h2⟩:=ih h;exact⟨v,by simpa using h1,h2⟩
 by_cases hi:i<xs.length
 ·rw [ap1 (by simpa using hi),apU] at h
  cases q:xs[i]? with
  | none=>rw [q] at h;cases h
  | some y =>
   rw [q] at h
   cases h
   obtain⟨v,h1,h2⟩:=get r q
   exact⟨v,by rw [ap1 (by simp;omega),apU,h1];rfl,h2⟩
 ·rw [ap2 (by simpa using hi),ase] at h
  split at h <;> cases h
structure Def (K:apT) (mg:Str->Option Value) (x:Str) (st:Stmt) (ps:List Str):Prop where
 ex:∃ (f:Addr) (fd:FuncData),Fun K x x st f fd/\Binds K fd ps []/\mg x=some (.ref f)
structure FnIn (P:Program) (w:World) (K:apT) (mg:Str->Option Value) (base:Heap) (k:Nat) (x:Str) (ps:List Str) (sp:Sp):Prop where
 ex:∃ (f:Addr) (fd:FuncData),FnOk P w K mg base CX0 k f fd ps sp/\mg x=some (.ref f)/\arf K (.ref f)=true/\Binds K fd ps []
section
variable {P:Program} {w:World} {K:apT} {mg:Str->Option Value} {base:Heap} {j k n:Nat} {x:Str} {st:Stmt} {ps N:List Str} {γ:Type} {pre:γ->List DV->Prop} {post:γ->PyData->Prop} {sp:Sp}
theorem FnIn.mono (h:FnIn P w K mg base j x ps sp) (hk:j<=k):FnIn P w K mg base k x ps sp :=
 let⟨f,fd,a,b,c,d⟩:=h.ex;⟨f,fd,a.mono hk,b,c,d⟩
theorem Def.ok (F:Def K mg x st ps) (S:FnScope N ps (zr st)) (hn:ps.length=n)
  (h:∀ (fa:Addr) (cdv:Value) (A:Around) (outer:List Env) (s:Shared) (H:Hp) (E:XK),Room k (A.deeper (envOfC x (zr st) s.heap.objs.size fa cdv)) ->
   ∃ t,PSs (yj CX0 P w K mg base N x (zr st) fa cdv A outer s H E).nox (yy st) t/\∀ (f:Fx) (xs:List DV) (c:γ),xs.length=n->pre c xs->PSd K f t (qA N xs) { nx:=fun _=>post c .none,rt:=post c }) :
  FnIn P w K mg base (k+1) x ps (spD K n pre post):=by
 obtain⟨fa,fd,F1,F2,F3⟩:=F.ex
 refine⟨fa,fd,F1.ok S (fun vs H Q E h=>?_) (fun cdv A outer s H vs Q E hr hs=>?_),F3,F1.kp,F2⟩
 ·obtain⟨f,xs,c,r,hl,_⟩:=h
  rw [r.length,hl,hn]
 ·obtain⟨f,xs,c,r,hl,fo,hp,q⟩:=hs
  obtain⟨t,h1,h2⟩:=h fa cdv A outer s H E hr
  exact⟨t,h1,h2 f xs c hl hp (start N vs) H _ (qo r fo) (fun _ _ H' g _ p=>q .none _ H' g (rep_none.mpr rfl) p) (fun d v H' g r p=>q d v H' g r p) (fun _ _ _ _ _ z=>z.elim) (fun _ _ _ _ _ z=>z.elim)⟩
theorem Def.raw (F:Def K mg x st ps) (S:FnScope N ps (zr st)) (len:∀ vs H Q E,sp vs H Q E->vs.length=ps.length)
  (h:∀ (fa:Addr) (cdv:Value) (A:Around) (outer:List Env) (s:Shared) (H:Hp) (vs:List V) (Q:VK) (E:XK),Room k (A.deeper (envOfC x (zr st) s.heap.objs.size fa cdv))->sp vs H Q E ->
   ∃ t,PSs (yj CX0 P w K mg base N x (zr st) fa cdv A outer s H E).nox (yy st) t/\t { nx:=fun _ H'=>Q .non H',rt:=Q } (start N vs) H) :
  FnIn P w K mg base (k+1) x ps sp:=by
 obtain⟨fa,fd,F1,F2,F3⟩:=F.ex
 exact⟨fa,fd,F1.ok S len (fun cdv A outer s H vs Q E hr hs=>h fa cdv A outer s H vs Q E hr hs),F3,F1.kp,F2⟩
theorem zp {X:Cx} {e:Expr} {es:List Expr} {t:TA} {p pos:Pos} (G:FnIn X.prog X.w X.K X.mg X.base k x ps sp) (hr:Room k X.A) (hg:Gl X x) (ha:PA X (e :: es) t) (hdb:(x == ("__debug__":Str))=false:=by decide)
  (he:starEach (e :: es) X.env=(false,eval e X.env) :: starEach es X.env:=by rfl) (hpl:(backTo pos (starEach es X.env)).any (·.1)=false:=by rfl):PE X (.Call (.Name x p) (e :: es) [] pos) (vW sp [] E0 t):=by
 obtain⟨f,fd,a,b,c,d⟩:=G.ex
 exact ali a hr hg b c d .nil ao0 ha hdb he hpl
end
section
variable {K:apT} {f:Fx} {ρ:zw} {σ:St} {H:Hp} {E:Ends} {ts tu:TS} {D:DEnds}
theorem ajg (h:PSd K f ts ρ D) (e:EnvOk K f ρ σ H) (hn:∀ ρ' σ' H',Goes f H H'->EnvOk K f ρ' σ' H'->D.nx ρ'->tu E σ' H') (hr:∀ d v H',Goes f H H'->Rep K (hide H' f) d v->D.rt d->E.rt v H') (hb:∀ ρ,¬ D.bk ρ) (hc:∀ ρ,¬ D.ct ρ):qf ts tu E σ H :=
 h σ H { E with nx:=tu E } e hn hr (fun ρ' _ _ _ _ p=>(hb ρ' p).elim) (fun ρ' _ _ _ _ p=>(hc ρ' p).elim)
theorem ajh {ta:TA} {Q:VK} {R:List PyData->Prop} (h:PAd K f ta ρ fun xs=>∃ ds,qy xs=some ds/\ds.length<=1000/\R ds) (e:EnvOk K f ρ σ H)
  (q:∀ p ds vs H1,Goes f H H1->H1 p=none->Reps K (hide H1 f) ds vs->R ds->Q (.ref p) (upd H1 p (.lst vs))):aiY ta σ H Q :=
 h σ H _ e fun xs vs H1 g1 r1 ⟨ds,ea,hl,p⟩=>by
  have rs:=vo r1 ea
  exact⟨by rw [rs.length];exact arv (yc hl),fun l hn=>q l ds vs H1 g1 hn rs p⟩
end
section
variable {K:apT} {f:Fx} {ρ:zw}
theorem Goes.free {H H':Hp} {p:Addr} (g:Goes f H H') (fo:FOk f H) (h:H' p=none):H p=none:=by
 cases q:H p with
 | none=>rfl
 | some o =>
  by_cases hh:f.f=some p \/ p∈f.M
  ·rcases hh with hh | hh
   ·obtain⟨a,b,h1,_⟩:=g.ok.fd p hh
    rw [h] at h1;cases h1
   ·rw [g.kp p hh,q] at h;cases h
  ·have:=zH (g.sm p o (zz hh q))
   rw [h] at this;cases this.2
def PEdL (K:apT) (f:Fx) (te:TE) (ρ:zw) (P:List PyData->Prop):Prop:=∀ (σ:St) (H:Hp) (Q:VK),EnvOk K f ρ σ H ->
 (∀ es D vs H',Goes f H H'->H D=none->H' D=some (.lst vs)->Reps K (hide H' f) es vs->P es->Q (.ref D) H')->te σ H Q
theorem PEdL.ped {te:TE} {P:PyData->Prop} (h:PEdL K f te ρ fun es=>P (.list es)):PEd K f te ρ P:=fun σ H Q e q=>h σ H Q e fun es D vs H' g n h1 r p =>
 q (.list es) _ H' g (rep_list.mpr ⟨D,vs,rfl,.of (zz (fresh_ne e.fd n) h1),r⟩) p
end
structure TabAt (H:Hp) (a:Addr) (as:List Addr) (rows:List (List Int)):Prop where
 top:H a=some (.lst (as.map .ref))
 nd:(a :: as).Nodup
 len:as.length=rows.length
 row:∀ (i:Nat) x r,as[i]?=some x->rows[i]?=some r->H x=some (.lst (r.map .int))
def aji (K:apT) (f:Fx) (te:TE) (ρ:zw) (P:List (List Int)->Prop):Prop:=∀ (σ:St) (H:Hp) (Q:VK),EnvOk K f ρ σ H ->
 (∀ rows a as H',Goes f H H'->H a=none->(∀ x∈as,H x=none)->TabAt H' a as rows->P rows->Q (.ref a) H')->te σ H Q
section
variable {K:apT} {f:Fx} {ρ:zw} {te tl:TE} {fr:List Nat}
theorem ajj {J:It} {n:Nat} {dd:Nat->PyData} {R:Nat->List Int->Prop} {D:Addr} {H1:Hp} {σ:St} {Q:VK} (hn:H1 D=none) (e1:EnvOk K f ρ σ H1) (hz:n<=1000)
  (hJ:∀ (i:Nat) H',Same (hide H1 f) (hide H' (f.with D))->(i<n->J.go i H'/\∀ x H3,J.yld i H' x H3->H3=H'/\Rep K (hide H' (f.with D)) (dd i) x)/\(i=n->J.stop i H'))
  (hte:∀ i,i<n->PEdL K (f.with D) te (some (.dat (dd i)) :: frD fr ρ) fun es=>∃ ns:List Int,es=ns.map .int/\R i ns)
  (hQ:∀ rows as H',Goes f H1 H'->(∀ x∈as,H1 x=none)->TabAt H' D as rows->rows.length=n->(∀ (k:Nat) r,rows[k]?=some r->R k r)->Q (.ref D) H') :
  vX J (yJ 0) afy (jP D te) (yS 1 fr σ) (upd H1 D (.lst [])) fun _ H2=>Q (.ref D) H2:=by
 have nD:=fresh_ne e1.fd hn
 have hD:f.f≠some D:=fun z=>nD (.inl z)
 have hM:D∉f.M:=fun z=>nD (.inr z)
 have fo2:FOk (f.with D) (upd H1 D (.lst [])):=ajf e1.fd hn
 refine⟨fun i m σ' H'=>i<=n/\m+i=n/\∃ y as rows,EnvOk K (f.with D) (y :: frD fr ρ) σ' H'/\Same (hide (upd H1 D (.lst [])) (f.with D)) (hide H' (f.with D))/\(∀ b∈f.M,H' b=(upd H1 D (.lst [])) b)/\(∀ p,H' p=none->(upd H1 D (.lst [])) p=none) /\
   H' D=some (.lst (as.map .ref))/\as.Nodup/\D∉as/\(∀ x∈as,(upd H1 D (.lst [])) x=none)/\as.length=i/\rows.length=i/\(∀ (k:Nat) x r,as[k]?=some x->rows[k]?=some r->H' x=some (.lst (r.map .int)))/\∀ (k:Nat) r,rows[k]?=some r->R k r,
  ⟨n,aqu _,rfl,none,[],[],afB (aan (own:=1) (fr:=fr) e1) hn,Same.refl _,fun _ _=>rfl,fun _ h=>h,zB,aq6,by simp,(fun x hx=>by cases hx),rfl,rfl,(fun k x r h=>by simp at h),fun k r h=>by simp at h⟩,?_⟩
 rintro i m σ' H' ⟨hi,hm,y,as,rows,env,sm,kp,fre,top,nd,nDas,asf,la,lr,rw',hR⟩
 have smk:Same (hide H1 f) (hide H' (f.with D)):=(jz hn).trans sm
 obtain⟨jg,js⟩:=hJ i H' smk
 by_cases hlt:i<n
 ·obtain⟨go,yl⟩:=jg hlt
  refine .inr ⟨go,fun x H3 hy=>?_⟩
  obtain⟨rfl,rx⟩:=yl x H3 hy
  unfold yJ afy
  dsimp only
  rw [if_pos rfl]
  unfold jP
  have env2:EnvOk K (f.with D) (some (.dat (dd i)) :: frD fr ρ) (σ'.set 0 (some x)) H3:=env.set 0 (x:=.dat (dd i)) rx
  refine hte i hlt _ H3 _ env2 fun es Dn vs H4 g4 n4 h4 r4 ⟨ns,hes,hRn⟩=>?_
  subst hes
  have evs:vs=ns.map V.int:=r4.ints
  subst evs
  have hDn:Dn≠D:=fun z=>by rw [z,top] at n4;cases n4
  have keep:∀ x∈as,∀ o,H3 x=some o->H4 x=some o:=fun x hx o ho=>(zH (g4.sm x o (zz (fresh_ne fo2 (asf x hx)) ho))).2
  have hasome:∀ x∈as,∃ o,H3 x=some o:=fun x hx=>by
   obtain⟨k,hk,ek⟩:=aq8 hx
   exact⟨_,rw' k x _ (by rw [apO hk,ek]) (apO (by omega))⟩
  have nDn:Dn∉as:=fun hx=>by
   obtain⟨o,ho⟩:=hasome Dn hx
   rw [n4] at ho;cases ho
  refine⟨as.map .ref,(g4.kp D apX).trans top,yc (by rw [apP];omega),m - 1,by omega,by omega,by omega,some (.dat (dd i)),as++[Dn],rows++[ns],adt hD (env2.mono g4),?_,?_,?_,?_,?_,?_,?_,?_,?_,?_,?_⟩
  ·rw [yp (H:=H4)];exact sm.trans g4.sm
  ·exact fun b hb=>(zA (fun (z:b=D)=>hM (z▸hb))).trans ((g4.kp b (apW _ hb)).trans (kp b hb))
  ·intro p hp
   by_cases hpd:p=D
   ·subst hpd;rw [zB] at hp;cases hp
   ·rw [zA hpd] at hp
    exact fre p (g4.free env2.fd hp)
  ·rw [zB,aqm];rfl
  ·exact aqY.mpr ⟨nd,by simp,fun x hx z hz=>by
    have:z=Dn:=by simpa using hz
    subst this
    exact fun e=>nDn (e▸hx)⟩
  ·simp [nDas,arw hDn]
  ·intro x hx
   rcases aqh.mp hx with hx | hx
   ·exact asf x hx
   ·have:x=Dn:=by simpa using hx
    subst this
    exact fre _ n4
  ·simp [la]
  ·simp [lr]
  ·intro k x r hx hr
   have hxm:=apZ hx
   have hxD:x≠D:=by
    rintro rfl
    rcases aqh.mp hxm with hx' | hx'
    ·exact nDas hx'
    ·have:x=Dn:=by simpa using hx'
     exact hDn this.symm
   rw [zA hxD]
   by_cases hk:k<as.length
   ·rw [ap1 hk] at hx
    rw [ap1 (by omega)] at hr
    exact keep x (apZ hx) _ (rw' k x r hx hr)
   ·have hk':k=as.length:=by
     have:=(apS.mp hx).1
     simp at this;omega
    subst hk'
    rw [ap2 (apY _)] at hx
    rw [ap2 (by omega)] at hr
    simp only [arz,asT] at hx
    rw [la,<- lr,arz,asT] at hr
    cases hx
    cases hr
    exact h4
  ·intro k r hr
   by_cases hk:k<rows.length
   ·rw [ap1 hk] at hr;exact hR k r hr
   ·have hk':k=rows.length:=by
     have:=(apS.mp hr).1
     simp at this;omega
    subst hk'
    rw [ap2 (apY _),arz,asT] at hr
    cases hr
    rw [lr];exact hRn
 ·have ei:i=n:=by omega
  subst ei
  refine .inl ⟨js rfl,hQ rows as H' ⟨smk.trans same_with,⟨env.fd.fd,fun b hb=>env.fd.mm b (apW _ hb),fun p e hp=>env.fd.nm p e (apW _ hp)⟩,fun b hb=>?_⟩ (fun x hx=>?_) ⟨top,aqO.mpr ⟨nDas,nd⟩,by omega,rw'⟩ lr hR⟩
  ·rw [kp b hb,zA]
   obtain⟨o,h3⟩:=e1.fd.mm b hb
   exact zI h3 hn
  ·have:=asf x hx
   rw [zA (fun (z:x=D)=>nDas (z▸hx))] at this
   exact this
theorem agG {t:TA} {P:List (List Int)->Prop} (h:PAd K f t ρ fun xs=>∃ j:Int,xs=[.dat (.int j)]/\j<=1000/\-1000<=j/\∃ R:Nat->List Int->Prop,
   (∀ D (i:Nat),(i:Int)<j->PEdL K (f.with D) te (some (.dat (.int i)) :: frD fr ρ) fun es=>∃ ns:List Int,es=ns.map .int/\R i ns)/\∀ rows,rows.length=j.toNat->(∀ (k:Nat) r,rows[k]?=some r->R k r)->P rows) :
  aji K f (jH (aeg t) 1 fr (yJ 0) afy fun D=>jP D te) ρ P:=fun σ H Q e q=>h σ H _ e fun xs vs H1 g1 r1 ⟨j,ex,b1,b2,R,rs,re⟩=>by
 subst ex
 cases r1 with
 | @cons _ v0 _ _ rx r' =>
  cases r'
  have rx':Rep K (hide H1 f) (.int j) v0:=rx
  refine⟨j,by rw [rep_int.mp rx'],by omega,by omega,fun D hn=>?_⟩
  refine ajj (n:=j.toNat) (dd:=fun i=>.int i) (R:=R) hn (e.mono g1) (by omega) (fun i H' _=>⟨fun hi=>⟨hi,fun x H3 hy=>?_⟩,fun hi=>arR hi.symm⟩) (fun i hi=>rs D i (by omega)) fun rows as H' g' fa ta hl hR=>?_
  ·obtain⟨rfl,rfl⟩:=hy
   have hz:(0:Int)+(i:Int)=(i:Int):=auJ _
   exact⟨rfl,by rw [hz];exact (rep_int (K:=K)).mpr rfl⟩
  ·exact q rows D as H' (g1.trans g') (g1.free e.fd hn) (fun x hx=>g1.free e.fd (fa x hx)) ta (re rows hl hR)
theorem TabAt.rep {H:Hp} {a:Addr} {as:List Addr} {rows:List (List Int)} (t:TabAt H a as rows) (ha:¬ (f.f=some a \/ a∈f.M)) (hs:∀ x∈as,¬ (f.f=some x \/ x∈f.M)):Rep K (hide H f) (.list (rows.map fun r=>.list (r.map .int))) (.ref a):=by
 refine rep_list.mpr ⟨a,_,rfl,.of (zz ha t.top),?_⟩
 have key:∀ (as:List Addr) (rows:List (List Int)),as.length=rows.length->(∀ x∈as,¬ (f.f=some x \/ x∈f.M))->(∀ (i:Nat) x r,as[i]?=some x->rows[i]?=some r->H x=some (.lst (r.map .int)))->Reps K (hide H f) (rows.map fun r=>.list (r.map .int)) (as.map .ref):=by
  intro as
  induction as with
  | nil=>intro rows hl _ _;cases rows with
   | nil=>exact .nil'
   | cons r rs=>cases hl
  | cons x as ih =>
   intro rows hl hs hr
   cases rows with
   | nil=>cases hl
   | cons r rs =>
    exact .cons' (rep_list.mpr ⟨x,_,rfl,.of (zz (hs x apX) (hr 0 x r rfl rfl)),Reps.ints' r⟩) (ih rs (by simpa using hl) (fun y hy=>hs y (apW _ hy)) fun i y q h1 h2=>hr (i+1) y q (by simpa using h1) (by simpa using h2))
 exact key as rows t.len hs t.row
end
def alo (K:apT):List V->Hp->VK->Prop:=fun xs H Q=>∃ x n b,xs=[x,.ty n]/\((∃ a ys,x=.ref a/\SqL K H a ys/\ary K (.type "list") (.type n)=some b) \/ (∃ a ys,x=.ref a/\SqT K H a ys/\ary K (.type "tuple") (.type n)=some b) \/ ∃ t,TyOf K H x t/\ary K t (.type n)=some b)/\Q (.bl b) H
theorem ajk {X:Cx}:z6 X (.builtin "isinstance") (alo X.K):=by
 intro pins s σ H xs us Q I r h
 obtain⟨x,n,b,rfl,hx,q⟩:=h
 obtain⟨u,w',rfl,rx,rn⟩:=vals2 r
 cases rn
 rcases hx with⟨a,ys,rfl,hq,hk⟩ | ⟨a,ys,rfl,hq,hk⟩ | ⟨t,ty,hk⟩
 ·cases rx
  obtain⟨its,_,p,_⟩:=I.list hq
  obtain⟨o,ho,hc,_⟩:=p.isList
  exact aqU atQ I.kIn ⟨o,ho,hc⟩ hk (fun z=>nomatch z) fun tk=>⟨.bl b,H,I.tok tk,rfl,q⟩
 ·cases rx
  obtain⟨its,_,p,_⟩:=I.tuple hq
  obtain⟨o,ho,hc,_⟩:=p
  exact aqU PySem.W.kitx_tuple I.kIn ⟨o,ho,hc⟩ hk (fun z=>nomatch z) fun tk=>⟨.bl b,H,I.tok tk,rfl,q⟩
 ·exact ahK I rx ty hk fun tk=>⟨.bl b,H,I.tok tk,rfl,q⟩
section
variable {K:apT} {f:Fx} {ρ:zw} {P:PyData->Prop} {te ta tb:TE}
theorem amU {n:String} {b:Bool} (hk:ary K (.type "list") (.type n)=some b) (h:PEd K f te ρ fun d=>∃ ds,d=.list ds/\P (.bool b)):PEd K f (tCB (alo K) (zV te (zV (tC (.ty n)) yQ))) ρ P:=fun σ H Q e q=>h σ H _ e fun d v H1 g r ⟨ds,ed,p⟩=>by
 subst ed
 obtain⟨a,xs,rfl,s1,_⟩:=rep_list.mp r
 exact⟨_,n,b,rfl,.inl ⟨a,xs,rfl,(zj _ _).seq s1,hk⟩,q _ _ H1 g (rep_bool.mpr rfl) p⟩
end
section
variable {K:apT} {f:Fx} {ρ:zw} {P:List PyData->Prop} {te tl:TE} {tt:TT} {g:TG} {own:Nat} {fr:List Nat}
theorem ajl {t:TA} (h:PAd K f t ρ fun xs=>∃ j:Int,xs=[.dat (.int j)]/\j<=1000/\-1000<=j/\∃ R:Nat->zw->List PyData->Prop,R 0 (qz own fr ρ) [] /\
   (∀ D (i:Nat) ρ' es,(i:Int)<j->R i ρ' es->PGd K (f.with D) g (.int i) ρ' fun ρ2=>PTd K (f.with D) tt ρ2 fun b=>if b=true then PEd K (f.with D) te ρ2 fun e=>R (i+1) ρ2 (es++[e]) else R (i+1) ρ2 es) /\
   (∀ i ρ' es,R i ρ' es->es.length<=i)/\∀ ρ' es,R j.toNat ρ' es->P es) :
  PEdL K f (jH (aeg t) own fr g tt fun D=>jP D te) ρ P:=fun σ H Q e q=>h σ H _ e fun xs vs H1 g1 r1 ⟨j,ex,b1,b2,R,r0,rs,rl,re⟩=>by
 subst ex
 cases r1 with
 | @cons _ v0 _ _ rx r' =>
  cases r'
  have rx':Rep K (hide H1 f) (.int j) v0:=rx
  refine⟨j,by rw [rep_int.mp rx'],by omega,by omega,fun D hn=>?_⟩
  have nD:=fresh_ne g1.2 hn
  have hD:f.f≠some D:=fun z=>nD (.inl z)
  have hM:D∉f.M:=fun z=>nD (.inr z)
  have e1:=e.mono g1
  refine⟨fun i m σ' H'=>∃ ρ' es,CSt K f D (upd H1 D (.lst [])) ρ' es σ' H'/\R i ρ' es/\i<=j.toNat/\m+i=j.toNat,⟨j.toNat,_,[],vP hn e1,r0,aqu _,rfl⟩,fun i m σ' H' ⟨ρ',es,c,p,hi,hm⟩=>?_⟩
  by_cases hlt:i<j.toNat
  ·refine .inr ⟨hlt,fun x H3 hy=>?_⟩
   obtain⟨rfl,rfl⟩:=hy
   have hz:(0:Int)+(i:Int)=(i:Int):=auJ _
   rw [hz]
   refine acC (R:=R (i+1)) hD hM c (by have:=rl i ρ' es p;omega) ((rep_int (K:=K)).mpr rfl) (rs D i ρ' es (by omega) p) fun ρ2 es2 σ2 H4 c2 p2=>?_
   exact⟨m - 1,by omega,ρ2,es2,c2,p2,by omega,by omega⟩
  ·have ei:i=j.toNat:=by omega
   subst ei
   obtain⟨ge,_⟩:=abo (σ':=σ') hn g1.2 c
   obtain⟨vs,h1,h2⟩:=c.lst
   exact .inl ⟨apY _,q es D vs H' (g1.trans ge) (g1.free e.fd hn) h1 (Reps.mono same_with es vs h2) (re ρ' es p)⟩
theorem acD {t:TA} (h:PAd K f t ρ fun xs=>∃ j:Int,xs=[.dat (.int j)]/\j<=1000/\-1000<=j/\∃ R:Nat->PyData->Prop,
   (∀ D (i:Nat),(i:Int)<j->PEd K (f.with D) te (some (.dat (.int i)) :: frD fr ρ) (R i))/\∀ es:List PyData,es.length=j.toNat->(∀ (i:Nat) e,es[i]?=some e->R i e)->P es) :
  PEdL K f (jH (aeg t) 1 fr (yJ 0) afy fun D=>jP D te) ρ P :=
 ajl fun σ H Q e q=>h σ H Q e fun xs vs H' g' r' ⟨j,ex,b1,b2,R,rs,re⟩=>by
  refine q xs vs H' g' r' ⟨j,ex,b1,b2,fun i ρ' es=>(∃ x,ρ'=x :: frD fr ρ)/\es.length=i/\∀ (k:Nat) e,es[k]?=some e->R k e,⟨⟨none,rfl⟩,rfl,fun k e h=>by simp at h⟩,fun D i ρ' es hi p=>?_,fun i ρ' es p=>arR p.2.1,fun ρ' es p=>re es p.2.1 p.2.2⟩
  obtain⟨⟨x,rfl⟩,hl,hp⟩:=p
  refine zu ?_
  intro σ H Q e q
  refine q true H (.refl e.fd) ?_
  dsimp only
  rw [if_pos rfl]
  refine (rs D i hi).imp fun d hd=>⟨⟨_,rfl⟩,by rw [aqa,hl];rfl,fun k e hk=>?_⟩
  by_cases hkl:k<es.length
  ·rw [ap1 hkl] at hk;exact hp k e hk
  ·rw [ap2 (by omega)] at hk
   have hk0:k - es.length=0:=by
    have:=(apS.mp hk).1
    simp at this;omega
   rw [hk0] at hk
   cases hk
   have:k=i:=by omega
   subst this
   exact hd
end
section
variable {X:Cx} {K:apT}
theorem zK (hK:X.K=K):IxR X (adg K):=hK▸alj
theorem yv (hK:X.K=K):IxR X (anB K):=hK▸anC
theorem zT (hK:X.K=K):z6 X (.builtin "len") (fun xs H Q=>∃ p ys,xs=[.ref p]/\(SqL K H p ys \/ SqT K H p ys)/\Q (.int ys.length) H):=hK▸adk
theorem abp (hK:X.K=K):z6 X (.type "list") (fun xs H Q=>∃ p ys,xs=[.ref p]/\(SqL K H p ys \/ SqT K H p ys)/\∀ l,H l=none->Q (.ref l) (upd H l (.lst ys))):=hK▸adl
theorem aep (hK:X.K=K):z6 X (.type "tuple") (fun xs H Q=>∃ p ys,xs=[.ref p]/\((SqL K H p ys/\∀ l,H l=none->Q (.ref l) (upd H l (.tup ys))) \/ (SqT K H p ys/\Q (.ref p) H))):=hK▸ace
theorem aao (hK:X.K=K) (hc:X.calm=true):z6 X (.builtin "min") (fun xs H Q=>∃ a ns,xs=[.ref a]/\SqL K H a (ns.map V.int)/\ns≠[]/\∀ M,M∈ns->(∀ b∈ns,M<=b)->Q (.int M) H):=hK▸ahP hc
theorem aap (hK:X.K=K) (hc:X.calm=true):z6 X (.builtin "max") (fun xs H Q=>∃ a ns,xs=[.ref a]/\SqL K H a (ns.map V.int)/\ns≠[]/\∀ M,M∈ns->(∀ b∈ns,b<=M)->Q (.int M) H):=hK▸ahQ hc
theorem qB (hK:X.K=K) (hu:X.A.units+64<cLine):OpR X (compareOp .Eq) (ai7 K false):=hK▸anH hu
theorem qZ (hK:X.K=K) (hu:X.A.units+64<cLine):OpR X (compareOp .NotEq) (ai7 K true):=hK▸anI hu
theorem aaq (hK:X.K=K):z6 X (.builtin "isinstance") (alo K):=hK▸ajk
variable {tg l e st:Expr} {tl te ts:TE} {ta:TA} {p pos p2:Pos}
theorem zR (hK:X.K=K) (hl:PE X l tl):PI X tg l (acv K tl):=hK▸alf hl
theorem vp (hK:X.K=K) (hl:PE X l tl):PI X tg l (anr K tl):=hK▸ans hl
theorem abq {es:List Expr} {k:Nat} {tpos:Pos} (hK:X.K=K) (hg:Gl X "enumerate") (hm:X.mg "enumerate"=none) (ha:PA X [l] ta) (hs:starEach [l] X.env=[(false,eval l X.env)]:=by rfl):PI X (.Tuple es k tpos) (.Call (.Name "enumerate" p) [l] [] pos) (agz K ta):=hK▸aln hg hm ha hs
theorem z8 (hK:X.K=K) (ha:PE X e te) (he:∀ whole,isTrue e X.env whole=(do let v <- whole;standAt e.pos;holding [v] (truthy v))):PT X e (anK K te):=hK▸anL ha he
theorem ye {es:List Expr} {k:Nat} {t:TGs} {n:Nat} (hK:X.K=K) (hc:X.calm=true) (h:PGs X es t) (hn:(assignEach es X.env).length=n:=by rfl) (hst:(assignEach es X.env).findIdx? (·.1)=none:=by rfl):PG X (.Tuple es k pos) (ale K n t):=hK▸anq hc h hn hst
end
structure ItD (K:apT) (f:Fx) (ds:List PyData) (J:It) (H1:Hp):Prop where
 go:∀ (f':Fx) (H':Hp) (i:Nat) d,FOk f' H'->Same (hide H1 f) (hide H' f')->ds[i]?=some d->J.go i H'/\∀ x H3,J.yld i H' x H3->Goes f' H' H3/\Rep K (hide H3 f') d x
 st:∀ (f':Fx) (H':Hp),FOk f' H'->Same (hide H1 f) (hide H' f')->J.stop ds.length H'
def PId (K:apT) (f:Fx) (wi:TI) (ρ:zw) (R:List PyData->Prop):Prop:=∀ (σ:St) (H:Hp) (C:It->Hp->Prop),EnvOk K f ρ σ H ->
 (∀ ds J H1,Goes f H H1->ItD K f ds J H1->R ds->C J H1)->wi σ H C
def q9 (n:Nat):List PyData:=(aqb n).map fun (i:Nat)=>.int (i:Int)
def vq (i j:Int):List PyData:=(aqb (j - i).toNat).map fun (k:Nat)=>.int (i+(k:Int))
def aaL (ds:List PyData):List PyData:=ds.mapIdx fun i d=>.tuple [.int (i:Int),d]
section
variable {K:apT} {f:Fx} {ρ:zw} {R:List PyData->Prop} {tl:TE} {t:TA}
theorem PId.imp {wi:TI} {R':List PyData->Prop} (h:PId K f wi ρ R) (i:∀ ds,R ds->R' ds):PId K f wi ρ R':=fun σ H C e q=>h σ H C e fun ds J H1 g it r=>q ds J H1 g it (i ds r)
theorem qC (h:PAd K f t ρ fun xs=>∃ j:Int,xs=[.dat (.int j)]/\-(2 ^ 62)<=j/\j<2 ^ 62/\R (q9 j.toNat)):PId K f (aeg t) ρ R:=fun σ H C e q=>h σ H _ e fun xs vs H1 g1 r1 ⟨j,ex,q1,q2,p⟩=>by
 subst ex
 cases r1 with
 | @cons _ v0 _ _ rx r' =>
  cases r'
  have rx':Rep K (hide H1 f) (.int j) v0:=rx
  refine⟨j,by rw [rep_int.mp rx'],q1,q2,q _ _ H1 g1 ⟨fun f' H' i d fo _ hd=>?_,fun f' H' _ _=>?_⟩ p⟩
  ·unfold q9 at hd
   rw [apU] at hd
   by_cases hi:i<j.toNat
   ·rw [aqx hi] at hd
    cases hd
    refine⟨hi,fun x H3 hy=>?_⟩
    obtain⟨rfl,rfl⟩:=hy
    exact⟨.refl fo,rep_int.mpr (by rw [auJ])⟩
   ·rw [aqc (by rw [aqg];omega)] at hd
    cases hd
  ·show j.toNat<=(q9 j.toNat).length
   unfold q9
   rw [apP,aqg]
   exact apY _
theorem ajm (h:PAd K f t ρ fun xs=>∃ i j:Int,xs=[.dat (.int i),.dat (.int j)]/\(-(2 ^ 62)<=i/\i<2 ^ 62/\-(2 ^ 62)<=j/\j<2 ^ 62)/\R (vq i j)):PId K f (amP t) ρ R:=fun σ H C e q=>h σ H _ e fun xs vs H1 g1 r1 ⟨i,j,ex,q1,p⟩=>by
 subst ex
 cases r1 with
 | @cons _ v0 _ _ rx r' =>
  cases r' with
  | @cons _ v1 _ _ ry r'' =>
   cases r''
   have rx':Rep K (hide H1 f) (.int i) v0:=rx
   have ry':Rep K (hide H1 f) (.int j) v1:=ry
   refine⟨i,j,by rw [rep_int.mp rx',rep_int.mp ry'],q1,q _ _ H1 g1 ⟨fun f' H' k d fo _ hd=>?_,fun f' H' _ _=>?_⟩ p⟩
   ·unfold vq at hd
    rw [apU] at hd
    by_cases hi:k<(j - i).toNat
    ·rw [aqx hi] at hd
     cases hd
     refine⟨hi,fun x H3 hy=>?_⟩
     obtain⟨rfl,rfl⟩:=hy
     exact⟨.refl fo,rep_int.mpr rfl⟩
    ·rw [aqc (by rw [aqg];omega)] at hd
     cases hd
   ·show (j - i).toNat<=(vq i j).length
    unfold vq
    rw [apP,aqg]
    exact apY _
theorem yB (h:PEd K f tl ρ fun x=>∃ ds,x=.list ds/\R ds):PId K f (acv K tl) ρ R:=fun σ H C e q=>h σ H _ e fun x v H1 g1 r1 ⟨ds,ex,p⟩=>by
 subst ex
 obtain⟨a,xs,rfl,h1,h2⟩:=rep_list.mp r1
 have hl:=h2.length
 refine⟨a,rfl,⟨xs,(zj _ _).seq h1⟩,q ds _ H1 g1 ⟨fun f' H' i d fo sm hd=>?_,fun f' H' _ sm=>⟨xs,(zj _ _).seq (sm.seq h1),arR hl⟩⟩ p⟩
 obtain⟨z,hz,rz⟩:=h2.get hd
 have sq:SqL K H' a xs:=(zj _ _).seq (sm.seq h1)
 refine⟨⟨xs,z,sq,hz⟩,fun x H3 hy=>?_⟩
 obtain⟨rfl,hy⟩:=hy
 have ez:=hy xs sq
 rw [hz] at ez
 cases ez
 exact⟨.refl fo,Rep.mono sm _ _ rz⟩
theorem acE (h:PEd K f tl ρ fun x=>∃ ds,x=.tuple ds/\R ds):PId K f (anr K tl) ρ R:=fun σ H C e q=>h σ H _ e fun x v H1 g1 r1 ⟨ds,ex,p⟩=>by
 subst ex
 obtain⟨a,xs,rfl,h1,h2⟩:=rep_tuple.mp r1
 have hl:=h2.length
 refine⟨a,rfl,⟨xs,(zj _ _).seqT h1⟩,q ds _ H1 g1 ⟨fun f' H' i d fo sm hd=>?_,fun f' H' _ sm=>⟨xs,(zj _ _).seqT (sm.seqT h1),arR hl⟩⟩ p⟩
 obtain⟨z,hz,rz⟩:=h2.get hd
 have sq:SqT K H' a xs:=(zj _ _).seqT (sm.seqT h1)
 refine⟨⟨xs,z,sq,hz⟩,fun x H3 hy=>?_⟩
 obtain⟨rfl,hy⟩:=hy
 have ez:=hy xs sq
 rw [hz] at ez
 cases ez
 exact⟨.refl fo,Rep.mono sm _ _ rz⟩
theorem ajn (h:PAd K f t ρ fun xs=>∃ ds,xs=[.dat (.list ds)]/\R (aaL ds)):PId K f (agz K t) ρ R:=fun σ H C e q=>h σ H _ e fun xs vs H1 g1 r1 ⟨ds,ex,p⟩=>by
 subst ex
 cases r1 with
 | cons rx r' =>
  cases r'
  obtain⟨a,xs,rfl,h1,h2⟩:=rep_list.mp rx
  have hl:=h2.length
  refine⟨a,rfl,⟨xs,(zj _ _).seq h1⟩,q (aaL ds) _ H1 g1 ⟨fun f' H' i d fo sm hd=>?_,fun f' H' _ sm=>⟨xs,(zj _ _).seq (sm.seq h1),by unfold aaL;rw [List.length_mapIdx];exact arR hl⟩⟩ p⟩
  unfold aaL at hd
  rw [auv] at hd
  cases eq:ds[i]? with
  | none=>rw [eq] at hd;cases hd
  | some d0 =>
   rw [eq] at hd
   cases hd
   obtain⟨z,hz,rz⟩:=h2.get eq
   have sq:SqL K H' a xs:=(zj _ _).seq (sm.seq h1)
   refine⟨⟨xs,z,sq,hz⟩,fun x H3 hy=>?_⟩
   obtain⟨tp,y,rfl,hn,rfl,hy⟩:=hy
   have ez:=hy xs sq
   rw [hz] at ez
   cases ez
   have gn:Goes f' H' (upd H' tp (.tup [.int i,z])):=.of_same (z4 hn _) fo
   exact⟨gn,rep_tuple.mpr ⟨tp,_,rfl,.of (zz (fresh_ne fo hn) zB),.cons' (rep_int.mpr rfl) (.cons' (Rep.mono gn.1 _ _ (Rep.mono sm _ _ rz)) .nil')⟩⟩
end
section
variable {K:apT} {f:Fx} {ρ:zw} {D:DEnds} {wi:TI} {g:TG} {ts:TS}
theorem ajo (h:PId K f wi ρ fun ds=>∃ J:Nat->zw->Prop,J 0 ρ /\
   (∀ (i:Nat) d ρ',ds[i]?=some d->J i ρ'->PGd K f g d ρ' fun ρ2=>PSd K f ts ρ2 { D with nx:=J (i+1),ct:=J (i+1),bk:=D.nx })/\∀ ρ',J ds.length ρ'->D.nx ρ') :
  PSd K f (ahF wi g ts) ρ D:=fun σ H E e n r b c=>h σ H _ e fun ds J H1 g1 it ⟨Jv,j0,js,jd⟩=>by
 refine⟨fun i m σ' H'=>∃ ρ',EnvOk K f ρ' σ' H'/\Goes f H1 H'/\Jv i ρ'/\m+i=ds.length,⟨ds.length,ρ,e.mono g1,.refl g1.2,j0,rfl⟩,fun i m σ' H' ⟨ρ',e',g',p,hm⟩=>?_⟩
 by_cases hi:i<ds.length
 ·obtain⟨hgo,hy⟩:=it.go f H' i _ e'.fd g'.sm (apO hi)
  refine .inr ⟨hgo,fun σ2 H2=>∃ ρ2,EnvOk K f ρ2 σ2 H2/\Goes f H1 H2/\Jv (i+1) ρ2,fun σ2 H2 ⟨ρ2,e2,g2,p2⟩=>⟨m - 1,by omega,ρ2,e2,g2,p2,by omega⟩,fun x H3 hx=>?_⟩
  obtain⟨g3,r3⟩:=hy x H3 hx
  refine js i _ ρ' (apO hi) p σ' H3 x _ (e'.mono g3) r3 fun ρ2 σ2 H4 g4 e4 p4=>?_
  have gg:=g'.trans (g3.trans g4)
  exact p4 σ2 H4 _ e4 (fun ρ5 σ5 H5 g5 e5 p5=>⟨ρ5,e5,gg.trans g5,p5⟩) (fun d v H5 g5 r5 p5=>r d v H5 (g1.trans (gg.trans g5)) r5 p5) (fun ρ5 σ5 H5 g5 e5 p5=>n ρ5 σ5 H5 (g1.trans (gg.trans g5)) e5 p5) (fun ρ5 σ5 H5 g5 e5 p5=>⟨ρ5,e5,gg.trans g5,p5⟩)
 ·have ei:i=ds.length:=by omega
  subst ei
  exact .inl ⟨it.st f H' e'.fd g'.sm,n ρ' σ' H' (g1.trans g') e' (jd ρ' p)⟩
end
section
variable {K:apT} {f:Fx} {ρ:zw} {D:Addr} {wi:TI} {g:TG} {tt:TT} {te:TE}
theorem CSt.self {H2 H:Hp} {es:List PyData} {σ:St} (c:CSt K f D H2 ρ es σ H):CSt K f D H ρ es σ H:=⟨c.env,Same.refl _,fun _ _=>rfl,c.lst⟩
theorem CSt.trans {H2 H H':Hp} {es es':List PyData} {ρ':zw} {σ σ':St} (c:CSt K f D H2 ρ es σ H) (d:CSt K f D H ρ' es' σ' H'):CSt K f D H2 ρ' es' σ' H':=⟨d.env,c.sm.trans d.sm,fun b hb=>(d.kp b hb).trans (c.kp b hb),d.lst⟩
def PBd (K:apT) (f:Fx) (D:Addr) (tb:TB) (ρ:zw) (es:List PyData) (R:zw->List PyData->Prop):Prop:=f.f≠some D->D∉f.M->∀ (σ:St) (H H2:Hp) (W:St->Hp->Prop),CSt K f D H2 ρ es σ H ->
 (∀ ρ2 es2 σ2 H',CSt K f D H2 ρ2 es2 σ2 H'->R ρ2 es2->W σ2 H')->tb σ H W
theorem yi {es:List PyData} {R:zw->List PyData->Prop} (hl:es.length<1000) (h:PEd K (f.with D) te ρ fun e=>R ρ (es++[e])):PBd K f D (jP D te) ρ es R:=fun hD hM σ H H2 W c q =>
 h σ H _ c.env fun e u H5 g5 r5 p5=>by
  have c5:=c.go g5 (c.env.mono g5)
  obtain⟨vs,h1,h2⟩:=c5.lst
  exact⟨vs,h1,yc (by rw [h2.length];omega),q _ _ _ _ (c5.put hD hM h1 h2 r5) p5⟩
theorem ajp {fi:Fx} {Hi H2 H:Hp} {ds es:List PyData} {J:It} {tb:TB} {σ:St} {W:St->Hp->Prop} (it:ItD K fi ds J Hi) (hD:f.f≠some D) (hM:D∉f.M) (c:CSt K f D H2 ρ es σ H) (sm:Same (hide Hi fi) (hide H (f.with D)))
  (Jv:Nat->zw->List PyData->Prop) (j0:Jv 0 ρ es)
  (js:∀ (i:Nat) d ρ' es',ds[i]?=some d->Jv i ρ' es'->PGd K (f.with D) g d ρ' fun ρ2=>PTd K (f.with D) tt ρ2 fun b=>if b=true then PBd K f D tb ρ2 es' (Jv (i+1)) else Jv (i+1) ρ2 es')
  (hW:∀ ρ' es' σ' H',CSt K f D H2 ρ' es' σ' H'->Jv ds.length ρ' es'->W σ' H'):vX J g tt tb σ H W:=by
 refine⟨fun i m σ' H'=>∃ ρ' es',CSt K f D H2 ρ' es' σ' H'/\Same (hide Hi fi) (hide H' (f.with D))/\Jv i ρ' es'/\m+i=ds.length,⟨ds.length,ρ,es,c,sm,j0,rfl⟩,fun i m σ' H' ⟨ρ',es',c',sm',p,hm⟩=>?_⟩
 by_cases hi:i<ds.length
 ·obtain⟨hgo,hy⟩:=it.go (f.with D) H' i _ c'.env.fd sm' (apO hi)
  refine .inr ⟨hgo,fun x H3 hx=>?_⟩
  obtain⟨g3,r3⟩:=hy x H3 hx
  have c3:=c'.go g3 (c'.env.mono g3)
  refine js i _ ρ' es' (apO hi) p σ' H3 x _ c3.env r3 fun ρ2 σ2 H4 g4 e4 p4=>?_
  have c4:=c3.go g4 e4
  refine p4 σ2 H4 _ e4 fun b H5 g5 p5=>?_
  have c5:=c4.go g5 (e4.mono g5)
  have sm5:=((sm'.trans g3.sm).trans g4.sm).trans g5.sm
  cases b with
  | false =>
   rw [if_neg apQ] at p5 ⊢
   exact⟨m - 1,by omega,ρ2,es',c5,sm5,p5,by omega⟩
  | true =>
   rw [if_pos rfl] at p5 ⊢
   exact p5 hD hM σ2 H5 H5 _ c5.self fun ρ6 es6 σ6 H6 c6 p6=>⟨m - 1,by omega,ρ6,es6,c5.trans c6,sm5.trans c6.sm,p6,by omega⟩
 ·have ei:i=ds.length:=by omega
  subst ei
  exact .inl ⟨it.st (f.with D) H' c'.env.fd sm',hW ρ' es' σ' H' c' p⟩
theorem ao1 {es:List PyData} {tb:TB} {R:zw->List PyData->Prop} (h:PId K (f.with D) wi ρ fun ds=>∃ Jv:Nat->zw->List PyData->Prop,Jv 0 ρ es /\
   (∀ (i:Nat) d ρ' es',ds[i]?=some d->Jv i ρ' es'->PGd K (f.with D) g d ρ' fun ρ2=>PTd K (f.with D) tt ρ2 fun b=>if b=true then PBd K f D tb ρ2 es' (Jv (i+1)) else Jv (i+1) ρ2 es') /\
   ∀ ρ' es',Jv ds.length ρ' es'->R ρ' es'):PBd K f D (tIn wi g tt tb) ρ es R:=fun hD hM σ H H2 W c q =>
 h σ H _ c.env fun ds J H1 g1 it ⟨Jv,j0,js,jd⟩ =>
  ajp it hD hM (c.go g1 (c.env.mono g1)) (Same.refl _) Jv j0 js fun ρ' es' σ' H' c' p=>q ρ' es' σ' H' c' (jd ρ' es' p)
def PEdO (K:apT) (f:Fx) (te:TE) (ρ:zw) (P:List PyData->Prop):Prop:=∀ (σ:St) (H:Hp) (Q:VK),EnvOk K f ρ σ H ->
 (∀ es D vs H',Goes f H H'->H D=none->H' D=some (.lst vs)->Reps K (hide H' (f.with D)) es vs->P es->Q (.ref D) H')->te σ H Q
theorem PEdO.pedl {P:List PyData->Prop} (h:PEdO K f te ρ P):PEdL K f te ρ P:=fun σ H Q e q=>h σ H Q e fun es D vs H' g n h1 r p=>q es D vs H' g n h1 (Reps.mono same_with es vs r) p
theorem PEdO.ped {P:PyData->Prop} (h:PEdO K f te ρ fun es=>P (.list es)):PEd K f te ρ P:=h.pedl.ped
theorem amV {P:List PyData->Prop} (h:P []):PEdO K f (aiY yQ) ρ P:=fun σ H Q e q=>⟨aqu _,fun p hn=>q [] p [] _ (.of_same (z4 hn _) e.fd) hn zB .nil' h⟩
theorem vc {own:Nat} {fr:List Nat} {tb:Addr->TB} {P:List PyData->Prop} (h:PId K f wi ρ fun ds=>∃ Jv:Nat->zw->List PyData->Prop,Jv 0 (qz own fr ρ) [] /\
   (∀ D (i:Nat) d ρ' es',ds[i]?=some d->Jv i ρ' es'->PGd K (f.with D) g d ρ' fun ρ2=>PTd K (f.with D) tt ρ2 fun b=>if b=true then PBd K f D (tb D) ρ2 es' (Jv (i+1)) else Jv (i+1) ρ2 es') /\
   ∀ ρ' es',Jv ds.length ρ' es'->P es'):PEdO K f (jH wi own fr g tt tb) ρ P:=fun σ H Q e q =>
 h σ H _ e fun ds J H1 g1 it ⟨Jv,j0,js,jd⟩ D hn=>by
  have nD:=fresh_ne g1.2 hn
  have hD:f.f≠some D:=fun z=>nD (.inl z)
  have hM:D∉f.M:=fun z=>nD (.inr z)
  refine ajp it hD hM (vP hn (e.mono g1)) (jz hn) Jv j0 (js D) fun ρ' es' σ' H' c' p=>?_
  obtain⟨ge,rep⟩:=abo (σ':=σ') hn g1.2 c'
  obtain⟨vs,h1,h2⟩:=c'.lst
  exact q es' D vs H' (g1.trans ge) (g1.free e.fd hn) h1 h2 (jd ρ' es' p)
end
section
variable {K:apT} {f:Fx} {ρ:zw} {D:Addr} {wi:TI} {g:TG} {tt:TT} {te:TE}
theorem aar {F:PyData->List PyData} {ds:List PyData} {i:Nat} {d:PyData} (h:ds[i]?=some d):(ds.take (i+1)).flatMap F=(ds.take i).flatMap F++F d:=by
 rw [aqZ,h,aq9]
 simp
theorem alp {F:PyData->List PyData} {ds:List PyData} {i:Nat}:((ds.take i).flatMap F).length<=(ds.flatMap F).length:=by
 conv=>rhs;rw [<-asv i ds,aq9,aqa]
 omega
def OwnE (own:Nat) (ρ0:zw) (ρ':zw):Prop:=∃ us:zw,us.length=own/\ρ'=us++ρ0
theorem OwnE.one {ρ0 ρ':zw} (h:OwnE 1 ρ0 ρ'):∃ u,ρ'=u :: ρ0:=by
 obtain⟨us,h1,rfl⟩:=h
 match us,h1 with
 | [u],_=>exact⟨u,rfl⟩
theorem OwnE.two {ρ0 ρ':zw} (h:OwnE 2 ρ0 ρ'):∃ u v,ρ'=u :: v :: ρ0:=by
 obtain⟨us,h1,rfl⟩:=h
 match us,h1 with
 | [u,v],_=>exact⟨u,v,rfl⟩
theorem OwnE.mk1 {ρ0:zw} {u:Option DV}:OwnE 1 ρ0 (u :: ρ0):=⟨[u],rfl,rfl⟩
theorem OwnE.mk2 {ρ0:zw} {u v:Option DV}:OwnE 2 ρ0 (u :: v :: ρ0):=⟨[u,v],rfl,rfl⟩
theorem anN {own:Nat} {fr:List Nat} {tb:Addr->TB} {P:List PyData->Prop} (h:PId K f wi ρ fun ds=>∃ F:PyData->List PyData,(ds.flatMap F).length<=1000 /\
   (∀ D d ρ' es,d∈ds->OwnE own (frD fr ρ) ρ'->es.length+(F d).length<=1000->PGd K (f.with D) g d ρ' fun ρ2=>PTd K (f.with D) tt ρ2 fun b=>if b=true then PBd K f D (tb D) ρ2 es fun ρ3 es3=>OwnE own (frD fr ρ) ρ3/\es3=es++F d else OwnE own (frD fr ρ) ρ2/\F d=[]) /\
   P (ds.flatMap F)):PEdO K f (jH wi own fr g tt tb) ρ P :=
 vc (h.imp fun ds ⟨F,hl,hs,hp⟩=>by
  refine⟨fun i ρ' es=>OwnE own (frD fr ρ) ρ'/\es=(ds.take i).flatMap F,⟨⟨asd own none,by simp,rfl⟩,by simp⟩,fun D i d ρ' es hd ⟨ho,he⟩=>?_,fun ρ' es ⟨_,he⟩=>?_⟩
  ·have hb:es.length+(F d).length<=1000:=by
    rw [he,<- aqa,<- aar hd]
    exact aqn alp hl
   have:=hs D d ρ' es (apZ hd) ho hb
   intro σ H v Q e r q
   refine this σ H v Q e r fun ρ2 σ2 H2 g2 e2 p2=>q ρ2 σ2 H2 g2 e2 (p2.imp fun b hb2=>?_)
   cases b with
   | false =>
    rw [if_neg apQ] at hb2 ⊢
    exact⟨hb2.1,by rw [aar hd,hb2.2,aqG];exact he⟩
   | true =>
    rw [if_pos rfl] at hb2 ⊢
    intro h1 h2 σ3 H3 H4 W c k
    exact hb2 h1 h2 σ3 H3 H4 W c fun ρ5 es5 σ5 H5 c5 ⟨o5,p5⟩=>k ρ5 es5 σ5 H5 c5 ⟨o5,by rw [p5,aar hd,he]⟩
  ·rw [he,aqy]
   exact hp)
theorem yE {B:Bool->Prop} (h:B true):PTd K f afy ρ B:=fun σ H Q e q=>q true H (.refl e.fd) h
end
structure OEnds where
 nx:zw->List PyData->Prop
 rt:PyData->Prop
 bk:zw->List PyData->Prop:=fun _ _=>False
 ct:zw->List PyData->Prop:=fun _ _=>False
section
variable {K:apT} {f:Fx} {ρ:zw} {D:Addr} {wi:TI} {g:TG} {tt:TT} {te:TE} {ts tu:TS} {es:List PyData} {O:OEnds} {i:Nat}
def yK (n:Nat):Option DV->Option DV
 | some (.own k)=>if k<n then some (.own k) else none
 | x=>x
end
section
variable {K:apT} {f:Fx} {ρ:zw} {P:PyData->Prop} {te ta tb:TE} {t:TA}
theorem Reps.drop {H:Hp}:∀ {ds:List PyData} {xs:List V} (n:Nat),Reps K H ds xs->Reps K H (ds.drop n) (xs.drop n)
 | _,_,0,r=>r
 | [],xs,n+1,r=>by
  rw [reps_nil.mp r]
  exact .nil'
 | d :: ds,xs,n+1,r=>by
  obtain⟨x,r',rfl,_,h⟩:=reps_cons.mp r
  exact Reps.drop n h
theorem Reps.take {H:Hp}:∀ {ds:List PyData} {xs:List V} (n:Nat),Reps K H ds xs->Reps K H (ds.take n) (xs.take n)
 | _,_,0,r=>.nil'
 | [],xs,n+1,r=>by
  rw [reps_nil.mp r]
  exact .nil'
 | d :: ds,xs,n+1,r=>by
  obtain⟨x,r',rfl,h0,h⟩:=reps_cons.mp r
  exact .cons' h0 (Reps.take n h)
def cutD (ds:List PyData) (lo hi:Option Int):List PyData:=(ds.drop (HT.sIx ds.length 0 lo)).take (HT.sIx ds.length ds.length hi - HT.sIx ds.length 0 lo)
theorem Reps.cut {H:Hp} {ds:List PyData} {xs:List V} {lo hi:Option Int} (r:Reps K H ds xs):Reps K H (cutD ds lo hi) (acb xs lo hi):=by
 unfold cutD acb
 rw [r.length]
 exact (r.drop _).take _
def POd (K:apT) (f:Fx) (t:TO) (ρ:zw) (R:Option Int->Prop):Prop:=∀ (σ:St) (H:Hp) (Q:Option Int->Hp->Prop),EnvOk K f ρ σ H->(∀ o H',Goes f H H'->R o->Q o H')->t σ H Q
theorem ajq {R:Option Int->Prop} (h:R none):POd K f agu ρ R:=fun σ H Q e q=>q none H (.refl e.fd) h
theorem ajr {R:Option Int->Prop} (h:PEd K f te ρ fun d=>∃ i:Int,d=.int i/\R (some i)):POd K f (amR te) ρ R:=fun σ H Q e q=>h σ H _ e fun d v H1 g1 r1 ⟨i,ed,p⟩=>by
 subst ed
 exact⟨i,rep_int.mp r1,q (some i) H1 g1 p⟩
theorem ao2 {tl th:TO} {P:List PyData->Prop} (h:PEd K f te ρ fun x=>∃ ds,x=.list ds/\POd K f tl ρ fun lo=>POd K f th ρ fun hi=>P (cutD ds lo hi)):PEdL K f (tSl (alk K) te tl th) ρ P:=fun σ H Q e q =>
 h σ H _ e fun x v H1 g1 r1 ⟨ds,ex,p1⟩=>p1 σ H1 _ (e.mono g1) fun lo H2 g2 p2=>p2 σ H2 _ ((e.mono g1).mono g2) fun hi H3 g3 p3=>by
  subst ex
  have gg:=g1.trans (g2.trans g3)
  obtain⟨a,xs,rfl,h1,h2⟩:=rep_list.mp (Rep.mono (g2.trans g3).sm _ _ r1)
  refine⟨a,xs,rfl,(zj _ _).seq h1,fun p hn=>?_⟩
  have g4:Goes f H3 (upd H3 p (.lst (acb xs lo hi))):=.of_same (z4 hn _) g3.ok
  exact q _ p _ _ (gg.trans g4) (gg.free e.fd hn) zB (Reps.mono g4.sm _ _ h2.cut) p3
theorem ajs {tl th:TO} (h:PEd K f te ρ fun x=>∃ ds,x=.list ds/\POd K f tl ρ fun lo=>POd K f th ρ fun hi=>P (.list (cutD ds lo hi))):PEd K f (tSl (alk K) te tl th) ρ P:=(ao2 h).ped
theorem alq (h:PAd K f t ρ fun xs=>(∃ ds,xs=[.dat (.list ds)]/\P (.tuple ds)) \/ (∃ ds,xs=[.dat (.tuple ds)]/\P (.tuple ds))) :
  PEd K f (tCB (fun xs H Q=>∃ p ys,xs=[.ref p]/\((SqL K H p ys/\∀ l,H l=none->Q (.ref l) (upd H l (.tup ys))) \/ (SqT K H p ys/\Q (.ref p) H))) t) ρ P :=
 ahS fun σ H Q e q=>h σ H Q e fun xs vs H' g r p=>by
  rcases p with⟨ds,rfl,p⟩ | ⟨ds,rfl,p⟩
  ·refine q _ vs H' g r ⟨_,rfl,fun vs H Q fo rs k=>?_⟩
   obtain⟨x,r,rfl,h2,h3⟩:=reps_cons.mp rs
   rw [reps_nil.mp h3]
   obtain⟨a,ys,rfl,s1,s2⟩:=rep_list.mp h2
   refine⟨a,ys,rfl,.inl ⟨(zj _ _).seq s1,fun l hn=>?_⟩⟩
   have g2:Goes f H (upd H l (.tup ys)):=.of_same (z4 hn _) fo
   exact k (.tuple ds) _ _ g2 (rep_tuple.mpr ⟨l,ys,rfl,.of (zz (fresh_ne fo hn) zB),Reps.mono g2.1 ds ys s2⟩) p
  ·refine q _ vs H' g r ⟨_,rfl,fun vs H Q fo rs k=>?_⟩
   obtain⟨x,r,rfl,h2,h3⟩:=reps_cons.mp rs
   rw [reps_nil.mp h3]
   obtain⟨a,ys,rfl,s1,s2⟩:=rep_tuple.mp h2
   exact⟨a,ys,rfl,.inr ⟨(zj _ _).seqT s1,k (.tuple ds) _ H (.refl fo) (rep_tuple.mpr ⟨a,ys,rfl,s1,s2⟩) p⟩⟩
end
abbrev f0:Fx:=⟨none,[]⟩
theorem fok0 (H:Hp):FOk f0 H:=⟨(fun p e=>by cases e),(fun b hb=>by cases hb),(fun p e=>by cases e)⟩
theorem ao3 {H H':Hp} (s:Same H H'):Goes f0 H H':=.of_same s (fok0 H)
theorem same0 {H H':Hp} (g:Goes f0 H H'):Same H H':=fun b o h=>(zH (g.sm b o (by rw [yX];exact h))).2
def adu:Option DV->Option DV
 | some (.dat d)=>some (.dat d)
 | _=>none
section
variable {K:apT} {ρ:zw} {te:TE} {tu:TS} {i:Nat}
theorem abr {p:Addr} {σ:St} {H:Hp} (e:EnvOk K ⟨some p,[]⟩ ρ σ H):EnvOk K f0 (ρ.map adu) σ H:=by
 refine⟨by rw [apP];exact e.len,fun i x h=>?_,fok0 H⟩
 rw [apU] at h
 cases eq:ρ[i]? with
 | none=>rw [eq] at h;cases h
 | some y =>
  rw [eq] at h
  cases y with
  | none=>cases h
  | some y =>
   obtain⟨v,h1,h2⟩:=e.get i y eq
   cases y with
   | dat d =>
    cases h
    refine⟨v,h1,?_⟩
    show Rep K (hide H f0) d v
    rw [yX]
    exact Rep.mono (zj _ _) d v h2
   | feed=>cases h
   | own k=>cases h
   | exc C=>cases h
   | mon φ=>cases h
theorem anO {Dn:DEnds} (h:∀ (σ:St) (H:Hp) (Q:VK),EnvOk K f0 ρ σ H->(∀ (p:Addr) (x y:Int) (H':Hp),Same H H'->H p=none->H' p=some (.lst [.int x,.int y])->0<=x->0<=y->y<2147483647->Q (.ref p) H')->te σ H Q)
  (hr:∀ p,PSd K ⟨some p,[]⟩ tu (ρ.set i (some .feed)) { nx:=fun ρ'=>Dn.nx (ρ'.map adu),rt:=Dn.rt,bk:=fun ρ'=>Dn.bk (ρ'.map adu),ct:=fun ρ'=>Dn.ct (ρ'.map adu) }) :
  PSd K f0 (qf (jE te (yJ i)) tu) ρ Dn:=fun σ H E e n r b k=>h σ H _ e fun p x y H1 sm hn hp x0 y0 y1=>by
 have fo:FOk ⟨some p,[]⟩ H1:=⟨fun p' e=>by cases e;exact⟨x,y,hp,x0,y0,y1⟩,(fun b hb=>by cases hb),fun _ _ hb=>by cases hb⟩
 have sm0:Same H (hide H1 ⟨some p,[]⟩):=fun b o hb=>by
  have nb:b≠p:=fun e=>by rw [e,hn] at hb;cases hb
  refine zz (fun z=>?_) (sm b o hb)
  rcases z with z | z
  ·cases z;exact nb rfl
  ·cases z
 have e1:EnvOk K ⟨some p,[]⟩ ρ σ H1:=by
  refine⟨e.len,fun j z hz=>?_,fo⟩
  obtain⟨v,a1,a2⟩:=e.get j z hz
  refine⟨v,a1,?_⟩
  cases z with
  | dat d =>
   have a2':Rep K (hide H f0) d v:=a2
   rw [yX] at a2'
   exact Rep.mono sm0 d v a2'
  | feed=>obtain⟨q,hq,_⟩:=a2;cases hq
  | own k=>obtain⟨q,hq,_⟩:=a2;cases hq
  | exc C =>
   obtain⟨q,h3,h4⟩:=a2
   refine⟨q,h3,sm0 _ _ ?_⟩
   rw [yX] at h4
   exact h4
  | mon φ =>
   intro H' s
   refine a2 H' (Same.trans ?_ s)
   rw [yX]
   exact sm0
 have gg:∀ {H':Hp},Goes ⟨some p,[]⟩ H1 H'->Goes f0 H H':=fun g=>ao3 fun b o hb=>zj _ _ b o (g.sm b o (sm0 b o hb))
 refine hr p _ H1 E (e1.set i (x:=.feed) ⟨p,rfl,rfl⟩) (fun ρ' σ' H' g' e' p'=>n _ σ' H' (gg g') (abr e') p') (fun d v H' g' r' p'=>r d v H' (gg g') ?_ p') (fun ρ' σ' H' g' e' p'=>b _ σ' H' (gg g') (abr e') p') (fun ρ' σ' H' g' e' p'=>k _ σ' H' (gg g') (abr e') p')
 rw [yX]
 exact Rep.mono (zj _ _) d v r'
end
section
variable {X:Cx} {K:apT}
def ao4 (i j:Int):Prop:=0<j/\j<1152921504606846976
theorem aeq:OpR X (binaryOp .FloorDiv) (rI ao4 fun i j=>.int (i / j)):=opI fun i j _ _ _ _ _ hc q=>by
 obtain⟨h1,h2⟩:=hc
 rw [<-Int.fdiv_eq_ediv_of_nonneg i (Int.le_of_lt h1)] at q
 refine floordiv_int (by omega) q (.inl (PyProof.noPylong_of_log2 ?_))
 have h0:j.natAbs≠0:=by omega
 have:j.natAbs.log2<60:=(Nat.log2_lt h0).mpr (by omega)
 omega
theorem aer (hK:X.K=K):SlR X (alk K):=hK▸alm
theorem alr (hK:X.K=K):SlR X (anz K):=hK▸anA
end
section
variable {K:apT} {f:Fx} {ρ:zw} {wi:TI} {g:TG} {tt:TT} {own:Nat} {fr:List Nat} {tb:Addr->TB} {P:List PyData->Prop}
theorem jm {α:Type} {A B:α->PyData} (xs:List α) (h:PId K f wi ρ fun ds=>ds=xs.map A/\xs.length<=1000 /\
   (∀ D x ρ' es,x∈xs->OwnE own (frD fr ρ) ρ'->es.length<1000->PGd K (f.with D) g (A x) ρ' fun ρ2=>PTd K (f.with D) tt ρ2 fun b=>if b=true then PBd K f D (tb D) ρ2 es fun ρ3 es3=>OwnE own (frD fr ρ) ρ3/\es3=es++[B x] else False)/\P (xs.map B)) :
  PEdO K f (jH wi own fr g tt tb) ρ P :=
 vc (h.imp fun ds ⟨ed,hl,hs,hp⟩=>by
  subst ed
  refine⟨fun i ρ' es=>OwnE own (frD fr ρ) ρ'/\es=(xs.take i).map B,⟨⟨asd own none,by simp,rfl⟩,by simp⟩,fun D i d ρ' es hd ⟨ho,he⟩=>?_,fun ρ' es ⟨_,he⟩=>?_⟩
  ·rw [apU] at hd
   cases eq:xs[i]? with
   | none=>rw [eq] at hd;cases hd
   | some x =>
    rw [eq] at hd
    cases hd
    have hi:i<xs.length:=(apS.mp eq).1
    have hb:es.length<1000:=by
     rw [he,apP,aqD]
     omega
    intro σ H v Q e r q
    refine hs D x ρ' es (apZ eq) ho hb σ H v Q e r fun ρ2 σ2 H2 g2 e2 p2=>q ρ2 σ2 H2 g2 e2 (p2.imp fun b hb2=>?_)
    cases b with
    | false =>
     rw [if_neg apQ] at hb2
     exact hb2.elim
    | true =>
     rw [if_pos rfl] at hb2 ⊢
     intro h1 h2 σ3 H3 H4 W c k
     exact hb2 h1 h2 σ3 H3 H4 W c fun ρ5 es5 σ5 H5 c5 ⟨o5,p5⟩=>k ρ5 es5 σ5 H5 c5 ⟨o5,by rw [p5,he,aqZ,eq,aqm];rfl⟩
  ·rw [he,apP,aqy]
   exact hp)
end
structure XLie (P:Program) (w:World) (outer:List Env) (H:Hp) (s:Shared) (e:Addr) (C:Value) (H':Hp) (s':Shared):Prop where
 os:s'.os=s.os
 bare:AllBare s'.gens
 un:Un (frs outer) [] H H' s.heap s'.heap
 hok:HOk P w H' s'.heap
 fly:∃ B a0,Heap.FlyingW B outer e C a0 s'.heap/\(∀ b o,s.heap.get? b=some o->b∉frs outer->∃ o',B.get? b=some o')/\∀ b o,H' b=some o->∃ o',B.get? b=some o'
 new:s.heap.get? e=none
 free:H' e=none
def CXe (P:Program) (w:World):CXT:=fun outer H s E e s'=>∃ a C H',e=.ref a/\XLie P w outer H s a C H' s'/\E C none H'
end L2
end
section
namespace L2
open PySem PySem.Spec PyProof.Rows
end L2
end
section
namespace L2
open PySem PySem.Spec PySem.W PyProof.Rows PySem.Calls PySem.Builtin Builtin Builtin.ObjectAttr Builtin.Getset_descriptor
section
variable {prog:Program} {w:World} {A:Around} {E:Value->Shared->Prop} {s:Shared} {K:apT} {a C:Addr}
structure ExcWays (K:apT) (C:Addr):Prop where
 ga:findIn K (.ref C) "__getattribute__"=some (some (.builtin "BaseException.__getattribute__"))
 gt:findIn K (.ref C) "__getattr__"=some none
 cl:findIn K (.ref C) "__class__"=some (some (.builtin "object.__class__"))
 gs:specialIn K (.builtin "object.__class__") "__get__"=some (some (.builtin "getset_descriptor.__get__"))
 tk:takesIn K (.builtin "object.__class__")=some true
 ob:mroIn K C (.type "object")=some true
 be:mroIn K C (.type "BaseException")=some true
 iz:(clsIn K C).isSome=true
end
structure FnInX (P:Program) (w:World) (K:apT) (mg:Str->Option Value) (base:Heap) (k:Nat) (x:Str) (ps:List Str) (sp:Sp):Prop where
 ex:∃ (f:Addr) (fd:FuncData),FnOk P w K mg base (CXe P w) k f fd ps sp/\mg x=some (.ref f)/\arf K (.ref f)=true/\Binds K fd ps []
end L2
end
section
namespace L2
open PySem PySem.Spec PyProof.Rows
def anP (K:apT):List V->Hp->VK->Prop:=fun xs H Q=>∃ (a:Addr) (bs:List Bool),xs=[.ref a]/\SqL K H a (bs.map V.bl)/\Q (.bl (bs.all id)) H
def anQ (K:apT):List V->Hp->VK->Prop:=fun xs H Q=>∃ (a:Addr) (bs:List Bool),xs=[.ref a]/\SqL K H a (bs.map V.bl)/\Q (.bl (bs.any id)) H
theorem abt:∀ {bs:List Bool} {us:List Value},Vals (bs.map V.bl) us->us=bs.map Value.bool
 | [],us,r=>by
  cases r
  rfl
 | b :: bs,us,r=>by
  cases r with
  | cons h t =>
   rw [abt t]
   cases (show _=Value.bool b from h)
   rfl
theorem range_all (bs:List Bool):(aqb bs.length).all (fun i=>bs.getD i false)=bs.all id:=by
 rw [arB,aqX,aqX]
 constructor
 ·intro h b hb
  obtain⟨i,hi,rfl⟩:=auw.mp hb
  have:=h i (aqk.mpr hi)
  rwa [apR,apO hi] at this
 ·intro h i hi
  have hi':=aqk.mp hi
  rw [apR,apO hi']
  exact h _ (aqo hi')
theorem range_any (bs:List Bool):(aqb bs.length).any (fun i=>bs.getD i false)=bs.any id:=by
 rw [arB,atb,atb]
 constructor
 ·rintro⟨i,hi,h⟩
  have hi':=aqk.mp hi
  rw [apR,apO hi'] at h
  exact⟨_,aqo hi',h⟩
 ·rintro⟨b,hb,h⟩
  obtain⟨i,hi,rfl⟩:=auw.mp hb
  refine⟨i,aqk.mpr hi,?_⟩
  rw [apR,apO hi]
  exact h
theorem aaM (prog:Program) (w:World) (A:Around) (bs:List Bool):TruthOf prog w A (fun i v=>(bs.map Value.bool).toArray[i]?=some v) (fun i=>bs.getD i false):=by
 intro i v s Q E hv hq
 rw [List.getElem?_toArray,apU] at hv
 cases eb:bs[i]? with
 | none=>rw [eb] at hv;cases hv
 | some b =>
  rw [eb] at hv
  cases hv
  dsimp only at hq
  rw [apR,eb] at hq
  exact wpAny_pure hq
theorem ahT {X:Cx} (hc:X.calm=true):z6 X (.builtin "all") (anP X.K):=by
 intro pins s σ H xs us Q I r h
 obtain⟨a,bs,rfl,hq,q⟩:=h
 obtain⟨u,rfl,r1⟩:=vals1 r
 cases r1
 obtain⟨its,rv,p,_⟩:=I.list hq
 have hl:=p.isList
 rw [abt rv] at hl
 have ha:a<s.heap.objs.size:=by
  obtain⟨o,ho,_⟩:=hl
  exact ap5 ho
 refine call_all_walk (wpAny_pyIter_list hl ?_)
 have hne:a≠s.heap.objs.size:=aqp ha
 refine⟨s.heap.objs.size,_,_,_,_,_,_,rfl,auI (show (X.A.in1).handled=none from I.ok.hd hc) _ a hne _,⟨?_,?_⟩,aaM _ _ _ bs,fun h' tk hk=>?_⟩
 ·exact⟨_,ap7 _ rfl,rfl,rfl⟩
 ·exact hl.at fun o e=>apV _ e
 ·have kp:∀ b o,s.heap.get? b=some o->h'.get? b=some o:=fun b o e=>hk b o (by
   intro z
   have:=ap5 e
   rw [aqj.mp z] at this
   exact aru _ this) (apV _ e)
  refine⟨.bl _,H,I.kept (t':=tk) kp,?_,q⟩
  show Value.bool _=Value.bool _
  rw [ap9,apP,range_all]
theorem ahU {X:Cx} (hc:X.calm=true):z6 X (.builtin "any") (anQ X.K):=by
 intro pins s σ H xs us Q I r h
 obtain⟨a,bs,rfl,hq,q⟩:=h
 obtain⟨u,rfl,r1⟩:=vals1 r
 cases r1
 obtain⟨its,rv,p,_⟩:=I.list hq
 have hl:=p.isList
 rw [abt rv] at hl
 have ha:a<s.heap.objs.size:=by
  obtain⟨o,ho,_⟩:=hl
  exact ap5 ho
 refine call_any_walk (wpAny_pyIter_list hl ?_)
 have hne:a≠s.heap.objs.size:=aqp ha
 refine⟨s.heap.objs.size,_,_,_,_,_,_,rfl,auI (show (X.A.in1).handled=none from I.ok.hd hc) _ a hne _,⟨?_,?_⟩,aaM _ _ _ bs,fun h' tk hk=>?_⟩
 ·exact⟨_,ap7 _ rfl,rfl,rfl⟩
 ·exact hl.at fun o e=>apV _ e
 ·have kp:∀ b o,s.heap.get? b=some o->h'.get? b=some o:=fun b o e=>hk b o (by
   intro z
   have:=ap5 e
   rw [aqj.mp z] at this
   exact aru _ this) (apV _ e)
  refine⟨.bl _,H,I.kept (t':=tk) kp,?_,q⟩
  show Value.bool _=Value.bool _
  rw [ap9,apP,range_any]
theorem aas {X:Cx} {K:apT} (hK:X.K=K) (hc:X.calm=true):z6 X (.builtin "all") (anP K):=hK▸ahT hc
theorem acF {X:Cx} {K:apT} (hK:X.K=K) (hc:X.calm=true):z6 X (.builtin "any") (anQ K):=hK▸ahU hc
section
variable {K:apT} {f:Fx} {ρ:zw} {P:PyData->Prop} {te:TE}
theorem vQ {H:Hp}:∀ {bs:List Bool} {xs:List V},Reps K H (bs.map .bool) xs->xs=bs.map V.bl
 | [],xs,r=>reps_nil.mp r
 | b :: bs,xs,r=>by
  obtain⟨x,r',rfl,h1,h2⟩:=reps_cons.mp r
  rw [vQ h2,rep_bool.mp h1]
  rfl
theorem ajt (h:PEd K f te ρ fun x=>∃ bs:List Bool,x=.list (bs.map .bool)/\P (.bool (bs.all id))):PEd K f (tCB (anP K) (zV te yQ)) ρ P:=fun σ H Q e q=>h σ H _ e fun x v H1 g1 r1 ⟨bs,ex,p⟩=>by
 subst ex
 obtain⟨a,xs,rfl,h1,h2⟩:=rep_list.mp r1
 rw [vQ h2] at h1
 exact⟨a,bs,rfl,(zj _ _).seq h1,q _ _ H1 g1 (rep_bool.mpr rfl) p⟩
theorem amW (h:PEd K f te ρ fun x=>∃ bs:List Bool,x=.list (bs.map .bool)/\P (.bool (bs.any id))):PEd K f (tCB (anQ K) (zV te yQ)) ρ P:=fun σ H Q e q=>h σ H _ e fun x v H1 g1 r1 ⟨bs,ex,p⟩=>by
 subst ex
 obtain⟨a,xs,rfl,h1,h2⟩:=rep_list.mp r1
 rw [vQ h2] at h1
 exact⟨a,bs,rfl,(zj _ _).seq h1,q _ _ H1 g1 (rep_bool.mpr rfl) p⟩
end
section
variable {prog:Program} {w:World} {A:Around} {E:Value->Shared->Prop}
theorem acG {I:Addr} {fp wr:List Addr} {n:Nat} {P:Nat->Value->Prop} {St:Nat->Heap->Prop} (W:Walks prog w A I fp wr n P St):∀ (k i:Nat) (s:Shared) (Q:List Value->Shared->Prop),i+k<=n->St i s.heap ->
  (∀ vs h' tk,vs.length=k->(∀ (j:Nat) v,vs[j]?=some v->P (i+j) v)->St (i+k) h'->(∀ b o,b∉wr->s.heap.get? b=some o->h'.get? b=some o)->Q vs { s with heap:=h',toks:=tk })->wpAny (model prog w) A (draw (.ref I) k) Q E s
 | 0,i,s,Q,_,st,hQ=>wpAny_pure (hQ [] s.heap s.toks rfl (fun j v e=>by simp at e) st fun _ _ _ e=>e)
 | k+1,i,s,Q,hle,st,hQ=>by
  show wpAny _ _ (pyNext (.ref I) >>= _) Q E s
  refine wpAny_bind (W.item i s _ E (by omega) st fun v h1 tk1 hv st1 k1=>?_)
  refine wpAny_bind (wpAny_holding (acG W k (i+1) _ _ (by omega) st1 fun vs h2 tk2 hl hp st2 k2=>wpAny_pure ?_))
  refine hQ (v :: vs) h2 tk2 (by rw [ap8,hl]) (fun j u e=>?_) (by rw [show i+(k+1)=i+1+k by omega];exact st2) fun b o hb e=>k2 b o hb (k1 b o hb e)
  cases j with
  | zero=>cases e;exact hv
  | succ j =>
   have:=hp j u e
   rwa [show i+(j+1)=i+1+j by omega]
theorem afC {s:Shared} {a:Addr} {items:Array Value} {targets:List (Bool×(Value->Sem Unit))} {Q:Unit->Shared->Prop} (hh:A.handled=none) (hl:s.heap.IsList a items)
  (hn:targets.length=items.size) (hstar:targets.findIdx? (·.1)=none)
  (h:∀ h' tk,(∀ b o,s.heap.get? b=some o->h'.get? b=some o)->wpAny (model prog w) A (assignInOrder (targets.map (·.2)) items.toList) Q E { s with heap:=h',toks:=tk }):wpAny (model prog w) A (unpack (.ref a) targets) Q E s:=by
 have ha:a<s.heap.objs.size:=by
  obtain⟨o,ho,_⟩:=hl
  exact ap5 ho
 unfold unpack
 rw [hn,hstar]
 refine wpAny_bind (wpAny_holding ?_)
 unfold unpackItems
 refine wpAny_bind ?_
 unfold notIterableAtAll
 refine wpAny_bind (wpAny_specialOf hl.typeIs slot_list_iter.lookup (wpAny_pure ?_))
 simp only [aqB,if_false]
 refine wpAny_bind (wpAny_holding (wpAny_pyIter_list hl ?_))
 have W:=auI (prog:=prog) (w:=w) hh s.heap.objs.size a (aqp ha) items
 have fr:∀ b o,s.heap.get? b=some o->b∉[s.heap.objs.size]:=fun b o e z=>by
  have:=ap5 e
  rw [aqj.mp z] at this
  exact aru _ this
 refine wpAny_bind (wpAny_holding (acG W items.size 0 _ _ (by omega) ⟨⟨_,ap7 _ rfl,rfl,rfl⟩,hl.at fun o e=>apV _ e⟩ fun vs h1 tk1 hvl hp st1 k1=>?_))
 have ev:vs=items.toList:=by
  refine aq0 fun j=>?_
  by_cases hj:j<vs.length
  ·have:=hp j _ (apO hj)
   rw [ats] at this
   rw [apO hj,<- this,arl]
  ·rw [aqc (by omega),aqc (by rw [ap4];omega)]
 subst ev
 rw [if_neg (by simp)]
 rw [ats] at st1
 refine wpAny_bind (wpAny_holding (W.done _ _ _ st1 fun h2 tk2 k2=>?_))
 simp only [Option.isSome_none,aqB,if_false]
 exact wpAny_pure (h h2 tk2 fun b o e=>k2 b o (fr b o e) (k1 b o (fr b o e) (apV _ e)))
end
def ao5 (K:apT) (n:Nat) (gs:TGs):TG:=fun v σ H Q=>∃ a xs,v=.ref a/\SqL K H a xs/\xs.length=n/\gs xs σ H Q
theorem agH {X:Cx} {K:apT} {es:List Expr} {k:Nat} {t:TGs} {n:Nat} {pos:Pos} (hK:X.K=K) (hc:X.calm=true) (h:PGs X es t)
  (hn:(assignEach es X.env).length=n:=by rfl) (hst:(assignEach es X.env).findIdx? (·.1)=none:=by rfl):PG X (.Tuple es k pos) (ao5 K n t):=by
 subst hK
 intro pins s σ H v u Q I r hw
 obtain⟨a,xs,e1,hq,hl,hw⟩:=hw
 subst e1
 cases r
 obtain⟨its,rv,p,hz⟩:=I.list hq
 rw [assign_Tuple]
 refine wpAny_bind (wpAny_standAt (afC (I.ok.hd hc) p.isList (by rw [hn,<- hl,rv.length,ap9]) hst fun h' tk kp=>?_))
 exact h pins _ σ H xs _ Q (I.kept (t':=tk) kp) rv hw
section
variable {K:apT} {f:Fx} {ρ:zw}
theorem amX {n:Nat} {gs:TGs} {ds:List PyData} {R:zw->Prop} (hn:ds.length=n) (h:aje K f gs ds ρ R):PGd K f (ao5 K n gs) (.list ds) ρ R:=fun σ H v Q e r q=>by
 obtain⟨a,xs,rfl,h1,h2⟩:=rep_list.mp r
 exact⟨a,xs,rfl,(zj _ _).seq h1,by rw [h2.length];exact hn,h σ H xs Q e h2 q⟩
end
def anR (K:apT) (neg:Bool):R2:=fun x y H Q=>∃ d ds,Rep K H d x/\Rep K H (.list ds) y/\d.canLay0=true/\(∀ e∈ds,e.canLay0=true)/\d.depth<=50/\Q (.bl (if neg then !ds.any (fun e=>aqi e d) else ds.any (fun e=>aqi e d))) H
open Classical in
noncomputable def eqR (h:Heap) (d:PyData) (u:Value):Bool:=if z:∃ e as,Reads h u e as/\e.canLay0=true then aqi z.choose d else false
theorem afD {h:Heap} {d e:PyData} {u:Value} {as:List Addr} (r:Reads h u e as) (c:e.canLay0=true):eqR h d u=aqi e d:=by
 have z:∃ e as,Reads h u e as/\e.canLay0=true:=⟨e,as,r,c⟩
 unfold eqR
 rw [dif_pos z]
 obtain⟨as',r',c'⟩:=z.choose_spec
 rw [SeqAt.Reads.unique _ _ _ _ _ c' r' r]
section
variable {X:Cx} {pins:List (Addr×Obj)} {σ:St} {H:Hp} {s:Shared}
theorem agI (I:Inv X pins σ H s) {d:PyData}:∀ {ds:List PyData} {xs:List V} {us:List Value},Reps X.K H ds xs->Vals xs us->(∀ e∈ds,e.canLay0=true)->us.any (eqR s.heap d)=ds.any (fun e=>aqi e d)
 | [],xs,us,r,v,_=>by
  rw [reps_nil.mp r] at v
  cases v
  rfl
 | e :: ds,xs,us,r,v,c=>by
  obtain⟨x,xs',rfl,h1,h2⟩:=reps_cons.mp r
  cases v with
  | cons r1 r2 =>
   obtain⟨as,ra⟩:=yM I e x _ h1 r1
   rw [atU,atU,afD ra (c e apX),agI I h2 r2 fun e he=>c e (apW _ he)]
theorem abu (I:Inv X pins σ H s) {A:Around} {d:PyData} {v:Value} {bs:List Addr} (rb:Reads s.heap v d bs) (cd:d.canLay0=true) (dd:d.depth<=50) (hu:A.units+60<cLine):∀ {ds:List PyData} {xs:List V} {us:List Value},Reps X.K H ds xs->Vals xs us->(∀ e∈ds,e.canLay0=true)->∀ u∈us,SeqAt.EqAt A s u v (eqR s.heap d u)
 | [],xs,us,r,w,_=>by
  rw [reps_nil.mp r] at w
  cases w
  intro u hu
  cases hu
 | e :: ds,xs,us,r,w,c=>by
  obtain⟨x,xs',rfl,h1,h2⟩:=reps_cons.mp r
  cases w with
  | cons r1 r2 =>
   intro u hm
   rcases ap0.mp hm with rfl | hm
   ·obtain⟨as,ra⟩:=yM I e x _ h1 r1
    rw [afD ra (c e apX)]
    refine SeqAt.eqAt_reads e d A s _ v as bs ra rb (c e apX) cd ?_
    have:=at4 e.depth d.depth
    omega
   ·exact abu I rb cd dd hu h2 r2 (fun e he=>c e (apW _ he)) u hm
theorem anS (hu:X.A.units+64<cLine):OpR X (compareOp .In) (anR X.K false):=by
 intro pins s σ H x y v u Q I rx ry h
 obtain⟨d,ds,h1,h2,c1,c2,dd,q⟩:=h
 obtain⟨a,xs,rfl,hq,hr⟩:=rep_list.mp h2
 cases ry
 obtain⟨bs,rb⟩:=yM I d x v h1 rx
 obtain⟨its,r,pl,hz⟩:=I.list hq
 refine SeqAt.in_listAt (eqR s.heap d) pl.isList (fun w hw=>abu I rb c1 dd (show X.A.in1.units+60<cLine from by show X.A.units+1+60<cLine;omega) hr r c2 w (by simpa using hw)) ⟨.bl _,H,I,rfl,?_⟩
 rw [show its.toArray.any (eqR s.heap d)=its.any (eqR s.heap d) by simp,agI I hr r c2]
 exact q
theorem als {K:apT} (hK:X.K=K) (hu:X.A.units+64<cLine):OpR X (compareOp .In) (anR K false):=hK▸anS hu
theorem ahV {K:apT} (hK:X.K=K):OpR X (compareOp .NotIn) (rIn K true):=hK▸adj
end
section
variable {K:apT} {f:Fx} {ρ:zw} {P:PyData->Prop} {te ta tb:TE} {t:TA} {D:DEnds} {i j:Nat}
theorem ao6 (h:PEd K f ta ρ fun d=>PEd K f tb ρ fun y=>∃ ds,y=.list ds/\d.canLay0=true/\(∀ e∈ds,e.canLay0=true)/\d.depth<=50/\P (.bool (ds.any fun e=>aqi e d))):PEd K f (tOp (anR K false) ta tb) ρ P:=fun σ H Q e q =>
 h σ H _ e fun d v H1 g1 r1 p1=>p1 σ H1 _ (e.mono g1) fun y w H2 g2 r2 ⟨ds,ey,c1,c2,dd,p2⟩=>by
  subst ey
  exact⟨d,ds,Rep.mono (zj _ _) _ _ (Rep.mono g2.sm _ _ r1),Rep.mono (zj _ _) _ _ r2,c1,c2,dd,q _ _ H2 (g1.trans g2) (rep_bool.mpr rfl) p2⟩
theorem aju (h:PEd K f ta ρ fun d=>∃ n:Int,d=.int n/\PEd K f tb ρ fun y=>∃ ns:List Int,y=.tuple (ns.map .int)/\P (.bool (!ns.contains n))):PEd K f (tOp (rIn K true) ta tb) ρ P:=fun σ H Q e q =>
 h σ H _ e fun d v H1 g1 r1 ⟨n,ed,p1⟩=>p1 σ H1 _ (e.mono g1) fun y w H2 g2 r2 ⟨ns,ey,p2⟩=>by
  subst ed ey
  obtain⟨a,xs,rfl,h1,h2⟩:=rep_tuple.mp r2
  have ex:=h2.ints
  subst ex
  rw [rep_int.mp r1]
  have e1:inV (.int n) (ns.map V.int)=ns.contains n:=by
   unfold inV
   rw [List.any_map,List.contains_eq_any_beq]
   congr 1
   funext m
   show (m == n)=(n == m)
   exact BEq.comm
  refine⟨a,_,rfl,.inr ((zj _ _).seqT h1),rfl,?_,?_⟩
  ·rw [List.all_map]
   exact aqX.mpr fun _ _=>rfl
  ·rw [if_pos rfl,e1]
   exact q _ _ H2 (g1.trans g2) (rep_bool.mpr rfl) p2
end
end L2
end
section
namespace L2
open PySem PySem.Spec PyProof.Rows
section
variable {K:apT} {f:Fx} {ρ:zw} {E:XK} {te:TE} {ts tu:TS} {tt:TT} {t:TA} {P:PyData->Prop} {D:DEnds}
theorem ajv (h:PEd K f te ρ fun x=>∃ i,x=.int i/\P (.int (-i))):PEd K f (tUn (rU fun i=>.int (-i)) te) ρ P :=
 apF (h.imp fun x ⟨i,ex,p⟩ v H Q fo r q=>by
  subst ex
  exact⟨i,rep_int.mp r,q _ _ H (.refl fo) (rep_int.mpr rfl) p⟩)
theorem ao7 {n:String} {b:Bool} (hk:ary K (.type "int") (.type n)=some b) (h:PEd K f te ρ fun d=>∃ i,d=.int i/\P (.bool b)):PEd K f (tCB (alo K) (zV te (zV (tC (.ty n)) yQ))) ρ P:=fun σ H Q e q=>h σ H _ e fun d v H1 g r ⟨i,ed,p⟩=>by
 subst ed
 rw [rep_int.mp r]
 exact⟨_,n,b,rfl,.inr (.inr ⟨_,.int i,hk⟩),q _ _ H1 g (rep_bool.mpr rfl) p⟩
end
end L2
end
section
namespace L2
open PySem PySem.Spec PyProof.Rows
end L2
end
section
namespace L2
open PySem PySem.Spec PyProof.Rows
def anT (K:apT):List V->Hp->VK->Prop:=fun xs H Q=>∃ (a:Addr) (ns:List Int),xs=[.ref a]/\SqL K H a (ns.map V.int)/\Q (.int ns.sum) H
theorem ahW {X:Cx} (hc:X.calm=true):z6 X (.builtin "sum") (anT X.K):=by
 intro pins s σ H xs us Q I r h
 obtain⟨a,ns,rfl,hq,q⟩:=h
 obtain⟨u,rfl,r1⟩:=vals1 r
 cases r1
 obtain⟨its,rv,p,_⟩:=I.list hq
 have hl:=p.isList
 have hi:IntsAre its ns:=intsAre_of rv
 obtain⟨zs,ez⟩:=hi.allInts.items
 rw [ez] at hl
 refine sum_intListG (show (X.A).handled=none from I.ok.hd hc) hl fun h' tk t' kp=>⟨.int _,H,I.kept (t':=tk) kp,⟨_,rfl⟩,?_⟩
 have e:preSum (numAt zs) zs.size=ns.sum:=by
  rw [<-hi.numsOf,show its=its.toArray.toList from rfl,ez,nums_intItems,preSum_eq,asm (by simp)]
 rw [e]
 exact q
theorem abv {X:Cx} {K:apT} (hK:X.K=K) (hc:X.calm=true):z6 X (.builtin "sum") (anT K):=hK▸ahW hc
section
variable {K:apT} {f:Fx} {ρ:zw} {P:PyData->Prop} {te:TE}
theorem amY (h:PEd K f te ρ fun x=>∃ ns:List Int,x=.list (ns.map .int)/\P (.int ns.sum)):PEd K f (tCB (anT K) (zV te yQ)) ρ P:=fun σ H Q e q=>h σ H _ e fun x v H1 g1 r1 ⟨ns,ex,p⟩=>by
 subst ex
 obtain⟨a,xs,rfl,h1,h2⟩:=rep_list.mp r1
 rw [h2.ints] at h1
 exact⟨a,ns,rfl,(zj _ _).seq h1,q _ _ H1 g1 (rep_int.mpr rfl) p⟩
end
section
variable {prog:Program} {w:World} {A:Around} {E:Value->Shared->Prop} {s:Shared}
theorem alu {t b:Addr} {vs ws:List Value} {Q:Value->Shared->Prop} (ht:PlainL s.heap t vs.toArray) (hb:PlainL s.heap b ws.toArray)
  (h2:Q (.ref s.heap.objs.size) { s with heap:=s.heap.push { cls:=.type "list",data:=.seq (vs++ws).toArray } })
  (hsz:vs.length+ws.length<=sizeLine):wpAny (model prog w) A (binaryOp .Add (.ref t) (.ref b)) Q E s:=by
 obtain⟨⟨cls,dd,data,sl⟩,n,ho,hc,_,hd⟩:=ht
 obtain⟨⟨cls2,dd2,data2,sl2⟩,n2,ho2,hc2,_,hd2⟩:=hb
 simp only at hc hd hc2 hd2
 subst hc hd hc2 hd2
 have e:vs.toArray++ws.toArray=(vs++ws).toArray:=by simp
 refine concat_meets ⟨_,ho,rfl⟩ ⟨_,ho2,rfl⟩ noFill_list_add seq_list_add PySem.F.slot_list_add PySem.F.entry_list_add (PySem.F.args_list_add_2 _ _) (list_addW t b vs.toArray ws.toArray n n2 dd dd2 sl sl2 (by rw [ap9,ap9];exact hsz)) ⟨ho,ho2,?_⟩
 rw [e]
 exact h2
end
def ajw (K:apT):R2:=fun x y H Q=>∃ l b xs zs,x=.ref l/\y=.ref b/\SqL K H l xs/\SqL K H b zs/\xs.length+zs.length<=sizeLine/\∀ p,H p=none->Q (.ref p) (upd H p (.lst (xs++zs)))
section
variable {X:Cx}
theorem alv:OpR X (binaryOp .Add) (ajw X.K):=by
 intro pins s σ H x y v u Q I rx ry h
 obtain⟨l,b,xs,zs,rfl,rfl,ha,hb,hz,q⟩:=h
 cases rx
 cases ry
 obtain⟨its,r1,p1,_⟩:=I.list ha
 obtain⟨its2,r2,p2,_⟩:=I.list hb
 refine alu p1 p2 ?_ (by rw [<-r1.length,<- r2.length];exact hz)
 exact⟨.ref _,_,I.lnew (t':=s.toks) (r1.append r2) (by rw [aqa];omega),rfl,q _ I.fresh⟩
theorem abw {K:apT} (hK:X.K=K):OpR X (binaryOp .Add) (ajw K):=hK▸alv
end
section
variable {K:apT} {f:Fx} {ρ:zw} {P:PyData->Prop} {te ta tb:TE} {t:TA}
theorem afE (h:PEd K f ta ρ fun x=>∃ ds,x=.list ds/\PEd K f tb ρ fun y=>∃ es,y=.list es/\ds.length+es.length<=1000/\P (.list (ds++es))):PEd K f (tOp (ajw K) ta tb) ρ P:=fun σ H Q e q =>
 h σ H _ e fun x v H1 g1 r1 ⟨ds,ex,p1⟩=>p1 σ H1 _ (e.mono g1) fun y w H2 g2 r2 ⟨es,ey,hl,p2⟩=>by
  subst ex ey
  obtain⟨a,xs,rfl,h1,h2⟩:=rep_list.mp (Rep.mono g2.sm _ _ r1)
  obtain⟨b,ys,rfl,h3,h4⟩:=rep_list.mp r2
  have l1:=h2.length
  have l2:=h4.length
  refine⟨a,b,xs,ys,rfl,rfl,(zj _ _).seq h1,(zj _ _).seq h3,by rw [l1,l2];exact arv (yc hl),fun p hn=>?_⟩
  have g3:Goes f H2 (upd H2 p (.lst (xs++ys))):=.of_same (z4 hn _) g2.ok
  exact q (.list (ds++es)) _ _ (g1.trans (g2.trans g3)) (rep_list.mpr ⟨p,_,rfl,.of (zz (fresh_ne g2.ok hn) zB),Reps.mono g3.sm _ _ (h2.append h4)⟩) p2
theorem aes {R:List PyData->Prop} (h:PAd K f t ρ fun xs=>∃ ds,qy xs=some ds/\ds.length<=1000/\R ds):PEdO K f (aiY t) ρ R:=fun σ H Q e q =>
 h σ H _ e fun xs vs H1 g1 r1 ⟨ds,ea,hl,p⟩=>by
  have rs:=vo r1 ea
  refine⟨by rw [rs.length];exact arv (yc hl),fun l hn=>?_⟩
  have g2:Goes f H1 (upd H1 l (.lst vs)):=.of_same (z4 hn _) g1.2
  have nl:=fresh_ne g1.2 hn
  refine q ds l vs _ (g1.trans g2) (g1.free e.fd hn) zB (Reps.mono (fun b o hb=>?_) _ _ rs) p
  have hb':=zH hb
  have hbl:b≠l:=fun z=>by
   have:=hb'.2
   rw [z,hn] at this
   cases this
  refine zz (fun z=>?_) (by rw [zA hbl];exact hb'.2)
  rcases z with z | z
  ·exact hb'.1 (.inl z)
  ·rcases ap0.mp z with z | z
   ·exact hbl z
   ·exact hb'.1 (.inr z)
theorem anU {tl th:TO} (h:PEd K f te ρ fun x=>∃ ds,x=.tuple ds/\POd K f tl ρ fun lo=>POd K f th ρ fun hi=>¬ (HT.sIx ds.length 0 lo=0/\HT.sIx ds.length ds.length hi=ds.length)/\P (.tuple (L2.cutD ds lo hi))):PEd K f (tSl (anz K) te tl th) ρ P:=fun σ H Q e q =>
 h σ H _ e fun x v H1 g1 r1 ⟨ds,ex,p1⟩=>p1 σ H1 _ (e.mono g1) fun lo H2 g2 p2=>p2 σ H2 _ ((e.mono g1).mono g2) fun hi H3 g3 ⟨nw,p3⟩=>by
  subst ex
  have gg:=g1.trans (g2.trans g3)
  obtain⟨a,xs,rfl,h1,h2⟩:=rep_tuple.mp (Rep.mono (g2.trans g3).sm _ _ r1)
  refine⟨a,xs,rfl,(zj _ _).seqT h1,by rw [h2.length];exact nw,fun p hn=>?_⟩
  have g4:Goes f H3 (upd H3 p (.tup (acb xs lo hi))):=.of_same (z4 hn _) g3.ok
  exact q _ _ _ (gg.trans g4) (rep_tuple.mpr ⟨p,_,rfl,.of (zz (fresh_ne g3.ok hn) zB),Reps.mono g4.sm _ _ h2.cut⟩) p3
end
def spN {γ:Type} (K:apT) (n:Nat) (pre:γ->List DV->Prop) (post:γ->List PyData->Prop):Sp:=fun vs H Q _=>∃ f xs c,RepVs K f H xs vs/\xs.length=n/\FOk f H/\pre c xs /\
 ∀ es D vs' H',Goes f H H'->H D=none->H' D=some (.lst vs')->Reps K (hide H' (f.with D)) es vs'->post c es->Q (.ref D) H'
def PSn (K:apT) (f:Fx) (ts:TS) (ρ:zw) (R:List PyData->Prop):Prop:=∀ (σ:St) (H:Hp) (E:Ends),EnvOk K f ρ σ H ->
 (∀ es D vs H',Goes f H H'->H D=none->H' D=some (.lst vs)->Reps K (hide H' (f.with D)) es vs->R es->E.rt (.ref D) H')->ts E σ H
section
variable {K:apT} {f:Fx} {ρ:zw} {R:List PyData->Prop} {te:TE} {ts tu:TS} {tt:TT} {t:TA} {i:Nat} {D:Addr} {es:List PyData} {O:OEnds}
theorem aet (h:PEdO K f te ρ R):PSn K f (aec te) ρ R:=fun σ H E e q=>h σ H E.rt e q
theorem abx (h:PSd K f ts ρ { nx:=fun ρ'=>PSn K f tu ρ' R,rt:=fun _=>False }):PSn K f (qf ts tu) ρ R:=fun σ H E e q =>
 h σ H _ e (fun ρ' σ' H' g' e' p=>p σ' H' E e' fun es D vs H2 g2 hn h1 rs r=>q es D vs H2 (g'.trans g2) (g'.free e.fd hn) h1 rs r) (fun _ _ _ _ _ z=>z.elim) (fun _ _ _ _ _ z=>z.elim) (fun _ _ _ _ _ z=>z.elim)
theorem amZ (h:PTd K f tt ρ fun b=>if b=true then PEdO K f te ρ R else PSn K f tu ρ R):PSn K f (qf (aed tt (aec te) acu) tu) ρ R:=fun σ H E e q =>
 h σ H _ e fun b H1 g1 p=>by
  have q1:∀ es D vs H',Goes f H1 H'->H1 D=none->H' D=some (.lst vs)->Reps K (hide H' (f.with D)) es vs->R es->E.rt (.ref D) H':=fun es D vs H' g' hn=>q es D vs H' (g1.trans g') (g1.free e.fd hn)
  cases b with
  | true=>rw [if_pos rfl] at p ⊢;exact p σ H1 E.rt (e.mono g1) q1
  | false=>rw [if_neg apQ] at p ⊢;exact p σ H1 E (e.mono g1) q1
theorem aby {γ:Type} {n:Nat} {pre:γ->List DV->Prop} {post:γ->List PyData->Prop} {E:XK} (c:γ) (h:PAd K f t ρ fun xs=>xs.length=n/\pre c xs/\∀ es,post c es->R es):PEdO K f (vW (spN K n pre post) [] E t) ρ R:=fun σ H Q e q =>
 h σ H _ e fun xs vs H1 g1 r1 ⟨hl,hp,k⟩=>⟨f,xs,c,by rw [aqG];exact r1,hl,g1.2,hp,fun es D vs' H' g' hn h1 rs p=>q es D vs' H' (g1.trans g') (g1.free e.fd hn) h1 rs (k es p)⟩
theorem am0 {ta tb:TE} (h:PTd K f tt ρ fun b=>if b=true then PEdO K f ta ρ R else PEdO K f tb ρ R):PEdO K f (tIf tt ta tb) ρ R:=fun σ H Q e q =>
 h σ H _ e fun b H1 g1 p=>by
  have q1:∀ es D vs H',Goes f H1 H'->H1 D=none->H' D=some (.lst vs)->Reps K (hide H' (f.with D)) es vs->R es->Q (.ref D) H':=fun es D vs H' g' hn=>q es D vs H' (g1.trans g') (g1.free e.fd hn)
  cases b with
  | true=>rw [if_pos rfl] at p ⊢;exact p σ H1 Q (e.mono g1) q1
  | false=>rw [if_neg apQ] at p ⊢;exact p σ H1 Q (e.mono g1) q1
end
section
variable {P:Program} {w:World} {K:apT} {mg:Str->Option Value} {base:Heap} {k:Nat} {x:Str} {st:Stmt} {ps:List Str} {N:List Str} {n:Nat} {γ:Type} {pre:γ->List DV->Prop} {post:γ->List PyData->Prop}
theorem Def.okN (F:Def K mg x st ps) (S:FnScope N ps (zr st)) (hn:ps.length=n)
  (h:∀ (fa:Addr) (cdv:Value) (A:Around) (outer:List Env) (s:Shared) (H:Hp) (E:XK),Room k (A.deeper (envOfC x (zr st) s.heap.objs.size fa cdv)) ->
   ∃ t,PSs (yj CX0 P w K mg base N x (zr st) fa cdv A outer s H E).nox (yy st) t/\∀ (f:Fx) (xs:List DV) (c:γ),xs.length=n->pre c xs->PSn K f t (qA N xs) (post c)) :
  FnIn P w K mg base (k+1) x ps (spN K n pre post):=by
 obtain⟨fa,fd,F1,F2,F3⟩:=F.ex
 refine⟨fa,fd,F1.ok S (fun vs H Q E h=>?_) (fun cdv A outer s H vs Q E hr hs=>?_),F3,F1.kp,F2⟩
 ·obtain⟨f,xs,c,r,hl,_⟩:=h
  rw [r.length,hl,hn]
 ·obtain⟨f,xs,c,r,hl,fo,hp,q⟩:=hs
  obtain⟨t,h1,h2⟩:=h fa cdv A outer s H E hr
  exact⟨t,h1,h2 f xs c hl hp (start N vs) H _ (qo r fo) (fun es D vs' H' g hn' h1' rs p=>q es D vs' H' g hn' h1' rs p)⟩
end
section
variable {X:Cx} {pins:List (Addr×Obj)} {σ:St} {H:Hp} {s:Shared} {h':Heap}
theorem Inv.laidL {t':Nat} {D:Addr} {o:HO} (I:Inv X pins σ H s) (k:∀ b u,b≠X.env.locals->s.heap.get? b=some u->h'.get? b=some u) (hL:∃ o,h'.get? X.env.locals=some o) (ns:∀ m,s.heap.Ns X.env.locals m->h'.Ns X.env.locals m)
  (nD:∀ b u,s.heap.get? b=some u->b≠D) (hD:H D=none) (new:ObjOk X.prog X.w (upd H D o) h' D o):Inv X pins σ (upd H D o) { s with heap:=h',toks:=t' }:=by
 have fL:H X.env.locals=none:=I.free
 refine I.step (g':=s.gens) (d':=s.drawn) (ch:=[]) (fun _ z=>nomatch z) (fun b o n _ _ e _=>k b o n e) (fun b o n _ _ e _=>⟨o.slots,k b o n e⟩) (fun b u _ e n=>by rw [zA (nD b u e)];exact n) (fun b o _ e=>?_) (fun b xs e=>by rw [zA (zI e hD)];exact e) (fun b u v e=>by rw [zA (zI e hD)];exact e) (fun b ps e=>⟨#[],by rw [zA (zI e hD),Array.append_empty];exact e⟩) ns (fun a u e=>?_) I.bare
 ·by_cases hb:b=X.env.locals
  ·subst hb;exact hL
  ·exact⟨o,k b o hb e⟩
 ·by_cases ha:a=D
  ·subst ha
   rw [zB] at e
   cases e
   exact new
  ·rw [zA ha] at e
   refine (I.hok a u e).stay (fun b v hb q=>k b v (fun z=>?_) q) (fun c q=>by rw [zA (zI q hD)];exact q) fun c xs q=>by rw [zA (zI q hD)];exact q
   rcases hb with hb | hb
   ·rw [<-hb,z,fL] at e;cases e
   ·rw [z,fL] at hb;cases hb
end
end L2
end
section
namespace L2
open PySem PySem.W PyProof.Rows
structure Tot (n:Nat) (lt:Nat->Nat->Bool):Prop where
 tri:∀ i j,i<n->j<n->i≠j->lt i j=!lt j i
 tra:∀ i j k,i<n->j<n->k<n->lt i j=true->lt j k=true->lt i k=true
def Ans (cmp:Nat->Nat->(Bool->Shared->Prop)->Shared->Prop) (n:Nat) (lt:Nat->Nat->Bool) (s:Shared):Prop:=∀ i j C,i<n->j<n->C (lt i j) s->cmp i j C s
def Pm (n:Nat) (p:Array Nat):Prop:=p.toList.Perm (aqb n)
def Up (lt:Nat->Nat->Bool) (p:Array Nat) (m:Nat):Prop:=∀ i j,i<j->j<m->lt (p.getD i 0) (p.getD j 0)=true
def Dn (lt:Nat->Nat->Bool) (p:Array Nat) (m:Nat):Prop:=∀ i j,i<j->j<m->lt (p.getD j 0) (p.getD i 0)=true
theorem Pm.size {n:Nat} {p:Array Nat} (h:Pm n p):p.size=n:=by
 have:=h.length_eq
 rwa [ap4,aqg] at this
theorem jn (p:Array Nat) (i:Nat):p.getD i 0=p.toList.getD i 0:=by
 by_cases h:i<p.size <;> simp [ar4,h,List.getD]
theorem Pm.lt {n:Nat} {p:Array Nat} (h:Pm n p) {i:Nat} (hi:i<n):p.getD i 0<n:=by
 have hs:=h.size
 have hl:i<p.toList.length:=by rw [ap4,hs];exact hi
 rw [jn,apR,apO hl]
 exact aqk.mp (h.mem_iff.mp (aqo hl))
theorem Pm.ne {n:Nat} {p:Array Nat} (h:Pm n p) {i j:Nat} (hi:i<n) (hj:j<n) (ne:i≠j):p.getD i 0≠p.getD j 0:=by
 have hs:=h.size
 have nd:p.toList.Nodup:=h.nodup_iff.mpr at5
 have li:i<p.toList.length:=by rw [ap4,hs];exact hi
 have lj:j<p.toList.length:=by rw [ap4,hs];exact hj
 rw [jn,jn,apR,apR,apO li,apO lj]
 intro e
 exact ne ((asB nd).mp e)
theorem Pm.range (n:Nat):Pm n (arj (aqb n)):=List.Perm.refl _
theorem Pm.of {n:Nat} {p q:Array Nat} (h:Pm n p) (e:q.Perm p):Pm n q:=(Array.perm_iff_toList_perm.mp e).trans h
theorem agJ {p q:Array Nat} {i j:Nat} (h:p[i]?=q[j]?):p.getD i 0=q.getD j 0:=by
 rw [arS,arS,h]
section
variable {cmp:Nat->Nat->(Bool->Shared->Prop)->Shared->Prop} {n:Nat} {lt:Nat->Nat->Bool} {s:Shared} {p:Array Nat}
theorem Up.more (T:Tot n lt) (hp:Pm n p) {m:Nat} (h1:1<=m) (hm:m<n) (u:Up lt p m) (h:lt (p.getD (m - 1) 0) (p.getD m 0)=true):Up lt p (m+1):=fun i j hij hj=>by
 by_cases e:j=m
 ·subst e
  by_cases e2:i=j - 1
  ·subst e2;exact h
  ·exact T.tra _ _ _ (hp.lt (by omega)) (hp.lt (by omega)) (hp.lt hm) (u i (j - 1) (by omega) (by omega)) h
 ·exact u i j hij (by omega)
theorem Dn.more (T:Tot n lt) (hp:Pm n p) {m:Nat} (h1:1<=m) (hm:m<n) (u:Dn lt p m) (h:lt (p.getD m 0) (p.getD (m - 1) 0)=true):Dn lt p (m+1):=fun i j hij hj=>by
 by_cases e:j=m
 ·subst e
  by_cases e2:i=j - 1
  ·subst e2;exact h
  ·exact T.tra _ _ _ (hp.lt hm) (hp.lt (by omega)) (hp.lt (by omega)) h (u i (j - 1) (by omega) (by omega))
 ·exact u i j hij (by omega)
theorem aa1 (T:Tot n lt) (W:Ans cmp n lt s) (hp:Pm n p) {Q:Nat->Shared->Prop}:∀ f m,1<=m->m+f<=n->Up lt p m->(∀ m',m<=m'->m'<=m+f->Up lt p m'->(m'=m+f \/ lt (p.getD m' 0) (p.getD (m' - 1) 0)=true)->Q m' s)->(kas_asc p f m).kasWp cmp Q s
 | 0,m,h1,hf,u,q=>q m (apY _) (apY _) u (.inl rfl)
 | f+1,m,h1,hf,u,q=>by
  refine W _ _ _ (hp.lt (by omega)) (hp.lt (by omega)) ?_
  cases e:lt (p.getD m 0) (p.getD (m - 1) 0) with
  | true=>exact q m (apY _) (by omega) u (.inr e)
  | false =>
   have e2:lt (p.getD (m - 1) 0) (p.getD m 0)=true:=by
    rw [T.tri _ _ (hp.lt (by omega)) (hp.lt (by omega)) (hp.ne (by omega) (by omega) (by omega)),e]
    rfl
   exact aa1 T W hp f (m+1) (by omega) (by omega) (u.more T hp h1 (by omega) e2) fun m' a b c d=>q m' (by omega) (by omega) c (d.imp (fun z=>by omega) id)
theorem aeu (T:Tot n lt) (W:Ans cmp n lt s) (hp:Pm n p) {Q:Array Nat×Nat×Nat->Shared->Prop}:∀ f m,1<=m->m+f<=n->Dn lt p m->(∀ m',m<=m'->m'<=m+f->Dn lt p m'->Q (p,m',0) s)->(kas_desc f p m 0).kasWp cmp Q s
 | 0,m,h1,hf,u,q=>q m (apY _) (apY _) u
 | f+1,m,h1,hf,u,q=>by
  refine W _ _ _ (hp.lt (by omega)) (hp.lt (by omega)) ?_
  cases e:lt (p.getD m 0) (p.getD (m - 1) 0) with
  | true=>exact aeu T W hp f (m+1) (by omega) (by omega) (u.more T hp h1 (by omega) e) fun m' a b c=>q m' (by omega) (by omega) c
  | false =>
   have e2:lt (p.getD (m - 1) 0) (p.getD m 0)=true:=by
    rw [T.tri _ _ (hp.lt (by omega)) (hp.lt (by omega)) (hp.ne (by omega) (by omega) (by omega)),e]
    rfl
   refine W _ _ _ (hp.lt (by omega)) (hp.lt (by omega)) ?_
   rw [e2]
   exact q m (apY _) (by omega) u
theorem anV {m:Nat} (hm:m<=p.size) (d:Dn lt p m):Up lt (kas_rev p 0 m) m:=fun i j hij hj=>by
 have g:∀ k,k<m->(kas_rev p 0 m).getD k 0=p.getD (m - 1 - k) 0:=fun k hk=>agJ (by
  unfold kas_rev
  rw [getElem?_mirror_all hm,if_pos ⟨aqu _,hk⟩,ats])
 rw [g i (by omega),g j hj]
 exact d _ _ (by omega) (by omega)
theorem ahX (T:Tot n lt) (W:Ans cmp n lt s) (hp:Pm n p) (hn:1<=n) {Q:Nat×Array Nat->Shared->Prop} (q:∀ m p',1<=m->m<=n->Pm n p'->Up lt p' m->Q (m,p') s):(kas_count n p).kasWp cmp Q s:=by
 unfold kas_count
 rw [KasT.kasWp_bind]
 refine aa1 T W hp (n - 1) 1 (apY _) (by omega) (fun i j a b=>by omega) fun m h1 h2 u c=>?_
 by_cases e:(m == n)=true
 ·rw [if_pos e]
  exact q m p h1 (by omega) hp u
 ·rw [if_neg e]
  have hm:m<n:=by
   have:m≠n:=fun z=>e (by rw [z];exact beq_self_eq_true _)
   omega
  by_cases e2:m > 1
  ·rw [if_pos e2]
   refine W _ _ _ (hp.lt (by omega)) (hp.lt (by omega)) ?_
   rw [u 0 (m - 1) (by omega) (by omega)]
   exact q m p h1 (by omega) hp u
  ·rw [if_neg e2]
   obtain rfl:m=1:=by omega
   have c':lt (p.getD 1 0) (p.getD (1 - 1) 0)=true:=c.resolve_left (by omega)
   unfold kas_descPart
   rw [KasT.kasWp_bind]
   refine aeu T W hp (n - (1+1)) (1+1) (by omega) (by omega) (Dn.more T hp (apY 1) hm (fun i j a b=>by omega) c') fun m' a b d=>?_
   rw [if_neg (by show ¬ (0 > 0);omega)]
   unfold kas_tail3
   rw [KasT.kasWp_bind]
   have hp2:Pm n (kas_rev p 0 m'):=hp.of (mirror_perm _ _ _ _)
   exact aa1 T W hp2 (n - m') m' (by omega) (by omega) (anV (by rw [hp.size];omega) d) fun m2 a2 b2 u2 _=>q m2 _ (by omega) (by omega) hp2 u2
theorem aat (T:Tot n lt) (W:Ans cmp n lt s) (hp:Pm n p) {k:Nat} (hk:k<n) (u:Up lt p k) {Q:Nat->Shared->Prop}:∀ f l r,r - l<=f->l<=r->r<=k->(∀ i,i<l->lt (p.getD i 0) (p.getD k 0)=true)->(∀ i,r<=i->i<k->lt (p.getD k 0) (p.getD i 0)=true) ->
  (∀ m,m<=k->(∀ i,i<m->lt (p.getD i 0) (p.getD k 0)=true)->(∀ i,m<=i->i<k->lt (p.getD k 0) (p.getD i 0)=true)->Q m s)->(kas_place p k f l r).kasWp cmp Q s
 | 0,l,r,hf,hlr,hr,lo,hi,q=>by
  obtain rfl:l=r:=by omega
  exact q l hr lo hi
 | f+1,l,r,hf,hlr,hr,lo,hi,q=>by
  unfold kas_place
  by_cases e:l >= r
  ·rw [if_pos e]
   obtain rfl:l=r:=by omega
   exact q l hr lo hi
  ·rw [if_neg e]
   refine W _ _ _ (hp.lt hk) (hp.lt (by omega)) ?_
   have hm:(l+r) / 2<k:=by omega
   cases e2:lt (p.getD k 0) (p.getD ((l+r) / 2) 0) with
   | true =>
    refine aat T W hp hk u f l ((l+r) / 2) (by omega) (by omega) (by omega) lo (fun i h1 h2=>?_) q
    by_cases e3:i=(l+r) / 2
    ·rw [e3];exact e2
    ·exact T.tra _ _ _ (hp.lt hk) (hp.lt (by omega)) (hp.lt (by omega)) e2 (u _ _ (by omega) h2)
   | false =>
    have e4:lt (p.getD ((l+r) / 2) 0) (p.getD k 0)=true:=by
     rw [T.tri _ _ (hp.lt (by omega)) (hp.lt hk) (hp.ne (by omega) hk (by omega)),e2]
     rfl
    refine aat T W hp hk u f ((l+r) / 2+1) r (by omega) (by omega) hr (fun i h1=>?_) hi q
    by_cases e3:i=(l+r) / 2
    ·rw [e3];exact e4
    ·exact T.tra _ _ _ (hp.lt (by omega)) (hp.lt (by omega)) (hp.lt hk) (u _ _ (by omega) hm) e4
theorem anW {k m:Nat} (hk:k<p.size) (hm:m<=k) (u:Up lt p k) (lo:∀ i,i<m->lt (p.getD i 0) (p.getD k 0)=true) (hi:∀ i,m<=i->i<k->lt (p.getD k 0) (p.getD i 0)=true):Up lt (bubble p k (k - m)) (k+1):=fun i j hij hj=>by
 have g:∀ t,t<=k->(bubble p k (k - m)).getD t 0=p.getD (if t=m then k else if t<m then t else t - 1) 0:=fun t ht=>agJ (by
  rw [getElem?_bubble hk (k - m) (by omega),show k - (k - m)=m by omega]
  by_cases e1:t=m
  ·rw [if_pos e1,if_pos e1]
  ·rw [if_neg e1,if_neg e1]
   by_cases e2:t<m
   ·rw [if_neg (by omega),if_pos e2]
   ·rw [if_pos (by omega),if_neg e2])
 rw [g i (by omega),g j (by omega)]
 by_cases a1:i=m
 ·rw [if_pos a1,if_neg (by omega),if_neg (by omega)]
  exact hi _ (by omega) (by omega)
 ·rw [if_neg a1]
  by_cases a2:j=m
  ·rw [if_pos a2,if_pos (by omega)]
   exact lo _ (by omega)
  ·rw [if_neg a2]
   by_cases a3:i<m
   ·rw [if_pos a3]
    by_cases a4:j<m
    ·rw [if_pos a4];exact u _ _ hij (by omega)
    ·rw [if_neg a4];exact u _ _ (by omega) (by omega)
   ·rw [if_neg a3,if_neg (by omega)]
    exact u _ _ (by omega) (by omega)
theorem agK (T:Tot n lt) (W:Ans cmp n lt s) {Q:Array Nat->Shared->Prop}:∀ f k (p:Array Nat),Pm n p->k+f=n->Up lt p k->(∀ p',Pm n p'->Up lt p' n->Q p' s)->(kas_bin f p k).kasWp cmp Q s
 | 0,k,p,hp,hf,u,q=>by
  obtain rfl:k=n:=by omega
  exact q p hp u
 | f+1,k,p,hp,hf,u,q=>by
  unfold kas_bin
  rw [KasT.kasWp_bind]
  refine aat T W hp (by omega) u k 0 k (by omega) (aqu _) (apY _) (fun i hi=>by omega) (fun i a b=>by omega) fun m h1 lo hi=>?_
  exact agK T W f (k+1) _ (hp.of (bubble_perm _ _ _)) (by omega) (anW (by rw [hp.size];omega) h1 u lo hi) q
theorem ajx (T:Tot n lt) (W:Ans cmp n lt s) (hn:1<=n) {Q:Array Nat->Shared->Prop} (q:∀ p,Pm n p->Up lt p n->Q p s):(kas_sort n).kasWp cmp Q s:=by
 unfold kas_sort
 rw [KasT.kasWp_bind]
 refine ahX T W (Pm.range n) hn fun m p h1 h2 hp u=>?_
 by_cases e:m<n
 ·show (if m<n then _ else _:KasT (Array Nat)).kasWp cmp Q s
  rw [if_pos e,show max m 1=m by omega]
  exact agK T W (n - m) m p hp (by omega) u q
 ·show (if m<n then _ else _:KasT (Array Nat)).kasWp cmp Q s
  rw [if_neg e]
  obtain rfl:m=n:=by omega
  exact q p hp u
end
end L2
end
section
namespace L2
open PySem PySem.W PySem.Calls PyProof.Rows
theorem acH:∀ f n r,r<=1->minRun' f n r<=n+1
 | 0,n,r,h=>by show n+r<=n+1;omega
 | f+1,n,r,h=>by
  rw [minRun'_succ]
  by_cases e:n<64
  ·rw [if_pos e];omega
  ·rw [if_neg e]
   have:=acH f (n / 2) (max r (n % 2)) (by omega)
   omega
theorem afF {n:Nat} (h:1<=n):minRun' n n 0<=n:=by
 obtain⟨f,rfl⟩:∃ f,n=f+1:=⟨n - 1,by omega⟩
 rw [minRun'_succ]
 by_cases e:f+1<64
 ·rw [if_pos e];omega
 ·rw [if_neg e]
  have:=acH f ((f+1) / 2) (max 0 ((f+1) % 2)) (by omega)
  omega
section
variable {P:Program} {w:World} {A:Around} {X:Value->Shared->Prop} {s:Shared} {κ:SortKind} {it:Array Keyed} {n:Nat} {lt:Nat->Nat->Bool} {Q:SortSt->Shared->Prop}
theorem alw (W:Ans (kas_cmp P w A κ it) n lt s) (T:Tot n lt) (h2:2<=n) (up:∀ i,i+1<n->lt (i+1) i=false)
  (q:∀ st',arrOf st'=(arj (aqb n)).map (kas_item it)->failedOf st'=none->Q st' s):kasC (model P w) A X sortRuns' (fun _ st' s'=>Q st' s') (kas_st κ it (arj (aqb n))) s:=by
 obtain⟨r,rfl⟩:∃ r,n=r+2:=⟨n - 2,by omega⟩
 have sz:(arj (aqb (r+2))).size=r+2:=by simp
 have szA:(arrOf (kas_st κ it (arj (aqb (r+2))))).size=r+2:=by
  show (Array.map _ _).size=_
  rw [asX,sz]
 have mr:=afF (n:=r+2) (by omega)
 have at_:∀ i,i<r+2->(arj (aqb (r+2))).getD i 0=i:=fun i hi=>by simp [ar4,hi]
 have cnt:(kas_count (r+2) (arj (aqb (r+2)))).kasWp (kas_cmp P w A κ it) (fun z s'=>z=(r+2,arj (aqb (r+2)))/\s'=s) s:=by
  unfold kas_count
  rw [KasT.kasWp_bind]
  refine aa1 T W (Pm.range _) (r+2 - 1) 1 (apY _) (by omega) (fun i j a b=>by omega) fun m a b u c=>?_
  have e:m=r+2:=by
   rcases c with c | c
   ·omega
   ·by_cases hm:m<r+2
    ·rw [at_ m hm,at_ (m - 1) (by omega)] at c
     have:=up (m - 1) (by omega)
     rw [show m - 1+1=m by omega,c] at this
     cases this
    ·omega
  subst e
  rw [if_pos (beq_self_eq_true _)]
  exact⟨rfl,rfl⟩
 rw [sortRuns'_eq]
 apply kasC_bind;apply kasC_get
 simp only [szA]
 apply kasC_bind;apply kasC_range
 change kasC _ _ _ (forIn (0 :: 1 :: List.range' 2 r) _ _) _ _ _
 apply kasC_cons
 simp only [Nat.sub_zero,ats,show ¬ (0 >= r+2) by omega,if_false]
 refine kasC_bind (kas_count_ (by omega) (arR sz.symm) (fun m p' s' _ _ _ z=>?_) cnt)
 obtain⟨z,rfl⟩:=z
 cases z
 simp only [show ¬ (r+2<minRun' (r+2) (r+2) 0) by omega,if_false]
 apply kasC_bind;apply kasC_get
 change kasC _ _ _ (modify (fun st=>setPending st ((pendingOf st).push (0,r+2,0))) >>= _) _ _ _
 apply kasC_bind;apply kasC_modify;apply kasC_pure
 apply kasC_cons
 simp only [show r+2 >= r+2 from apY _,if_true]
 apply kasC_pure
 apply kasC_bind;apply kasC_range
 change kasC _ _ _ (forIn (0 :: 1 :: List.range' 2 r) _ _) _ _ _
 apply kasC_cons
 apply kasC_bind;apply kasC_get
 rw [if_pos (show (pendingOf (setPending (kas_st κ it (arj (aqb (r+2)))) ((pendingOf (kas_st κ it (arj (aqb (r+2))))).push (0,r+2,0)))).size<=1 from apY 1)]
 apply kasC_pure
 exact kasC_pure (q _ rfl rfl)
theorem ajy (W:Ans (kas_cmp P w A κ it) n lt s) (T:Tot n lt) (h2:2<=n) (hs:n<64 \/ ∀ i,i+1<n->lt (i+1) i=false)
  (q:∀ st' p,Pm n p->Up lt p n->arrOf st'=p.map (kas_item it)->failedOf st'=none->Q st' s):kasC (model P w) A X sortRuns' (fun _ st' s'=>Q st' s') (kas_st κ it (arj (aqb n))) s:=by
 rcases hs with hs | hs
 ·exact kas_runs h2 hs (G:=fun p s'=>s'=s/\Pm n p/\Up lt p n) (fun p st' s' _ e f ⟨z,a,b⟩=>by subst z;exact q st' p a b e f) (ajx T W (by omega) fun p a b=>⟨rfl,a,b⟩)
 ·refine alw W T h2 hs fun st' e f=>q st' _ (Pm.range n) (fun i j hij hj=>?_) e f
  have at_:∀ i,i<n->(arj (aqb n)).getD i 0=i:=fun i hi=>by simp [ar4,hi]
  rw [at_ i (by omega),at_ j hj]
  have key:∀ d,i+d+1<n->lt i (i+d+1)=true:=fun d=>by
   induction d with
   | zero=>intro hd;rw [T.tri _ _ (by omega) hd (by omega),hs i hd];rfl
   | succ d ih =>
    intro hd
    refine T.tra _ (i+d+1) _ (by omega) (by omega) hd (ih (by omega)) ?_
    rw [T.tri _ _ (by omega) hd (by omega),show i+(d+1)+1=i+d+1+1 by omega,hs (i+d+1) (by omega)]
    rfl
  have:=key (j - i - 1) (by omega)
  rwa [show i+(j - i - 1)+1=j by omega] at this
end
section
variable {P:Program} {w:World} {A:Around} {X:Value->Shared->Prop} {s:Shared} {κ:SortKind} {vs:List Value} {lt:Nat->Nat->Bool}
structure Asks (P:Program) (w:World) (A:Around) (s:Shared) (κ:SortKind) (vs:List Value) (lt:Nat->Nat->Bool):Prop where
 kind:2<=vs.length->∀ (h':Heap),(∀ b o,s.heap.get? b=some o->h'.get? b=some o)->∀ R:SortKind->Shared->Prop,R κ { s with heap:=h' }->wpAny (model P w) A (keyKind' vs.toArray) R (fun _ _=>False) { s with heap:=h' }
 less:∀ (h':Heap),(∀ b o,s.heap.get? b=some o->h'.get? b=some o)->Ans (kas_ask P w A κ vs) vs.length lt { s with heap:=h' }
 ord:Tot vs.length lt
 few:vs.length<64 \/ ∀ i,i+1<vs.length->lt (i+1) i=false
theorem agL {a:Addr} {e:Nat} {R:PySem.Fin->Shared->Prop} (hz:vs.length<=sizeLine) (ha:s.heap.get? a=some (seqObj "list" vs.toArray e)) {h0:Heap} (h0s:∀ b o,h0.get? b=some o->b≠a/\s.heap.get? b=some o) (K:Asks P w A { s with heap:=h0 } κ vs lt)
  (q:∀ (h':Heap) p c,Pm vs.length p->Up lt p vs.length->(∀ b o,b≠a->s.heap.get? b=some o->h'.get? b=some o)->h'.get? a=some (seqObj "list" (p.toList.map fun i=>vs.getD i Value.none).toArray c)->R (.done (.ret .none)) { s with heap:=h' }) :
  wpAny (model P w) A (Builtin.«list.sort» ⟨[.ref a],[]⟩) R X s:=by
 let h1:=s.heap.update a (asx fun _=>(#[]:Array Value))
 obtain⟨e1,a1⟩:∃ e1,h1.get? a=some (seqObj "list" #[] e1):=⟨_,get?_update_seq ha fun _=>#[]⟩
 let h2':=(h1.push (seqObj "tuple" vs.toArray 0)).push (seqObj "list" #[] 0)
 have a2:h2'.get? a=some (seqObj "list" #[] e1):=apV _ (apV _ a1)
 have k2:∀ b o,b≠a->s.heap.get? b=some o->h2'.get? b=some o:=fun b o nb eb=>apV _ (apV _ ((aqM _ _ (arw nb)).trans eb))
 have kz:∀ b o,h0.get? b=some o->h2'.get? b=some o:=fun b o eb=>k2 b o (h0s b o eb).1 (h0s b o eb).2
 rw [list_sort_plain]
 apply wpAny_bind;apply listItems_at ha rfl
 apply wpAny_bind;refine listUpdate_at ha rfl ?_ (by simpa using hz) (aqu _)
 apply wpAny_bind;apply seqEpoch_at a1 rfl
 apply wpAny_bind;refine wpAny_newTuple ?_ (by simpa using hz)
 apply wpAny_bind;refine wpAny_newList ?_ (aqu _)
 apply wpAny_holding
 dsimp only
 change wpAny _ A _ _ _ { s with heap:=h2' }
 have st0:SortSt.mk' κ (vs.toArray.zip vs.toArray) #[] 7 none=kas_st κ (pairsOf vs) (arj (aqb vs.length)):=by
  have z:=kas_range (pairsOf vs)
  rw [pairsOf_size] at z
  unfold kas_st
  rw [z]
  rfl
 have fin:∀ (st':SortSt) (p:Array Nat),Pm vs.length p->Up lt p vs.length->arrOf st'=p.map (kas_item (pairsOf vs))->failedOf st'=none->wpAny (model P w) A (do
   let sorted:=(arrOf st').map (·.2)
   let touched:=(<- seqEpoch a) != e1
   Builtin.List.listUpdate (.ref a) fun _=>sorted
   if let some e:=failedOf st' then rule "list.sort.comparison-raised";throw e
   if touched then rule "list.sort.modified";raiseError "ValueError" "list modified during sort"
   ret .none) R X { s with heap:=h2' }:=fun st' p x1 x2 x3 x4=>by
  have out:(arrOf st').map (·.2)=(p.toList.map fun i=>vs.getD i Value.none).toArray:=by
   apply Array.toList_inj.mp
   rw [x3,Array.map_map,at6]
   refine aqR fun i _=>?_
   show (kas_item (pairsOf vs) i).2=_
   rw [kas_item_eq]
  dsimp only
  rw [out,x4]
  obtain⟨c,a3⟩:∃ c,(h2'.update a (asx fun _=>(p.toList.map fun i=>vs.getD i Value.none).toArray)).get? a=some (seqObj "list" (p.toList.map fun i=>vs.getD i Value.none).toArray c):=⟨_,get?_update_seq a2 fun _=>(p.toList.map fun i=>vs.getD i Value.none).toArray⟩
  apply wpAny_bind;apply seqEpoch_at a2 rfl
  apply wpAny_bind
  refine listUpdate_at a2 rfl ?_ (aqu _) (by
   rw [ap9,apP,ap4,x1.size];omega)
  simp only [bne_self_eq_false,aqB,if_false]
  exact wpAny_pure (q _ p c x1 x2 (fun b o nb eb=>(aqM _ _ (arw nb)).trans (k2 b o nb eb)) a3)
 by_cases h2:vs.length<2
 ·have two:vs.toArray.size<2:=by rw [ap9];exact h2
  rw [if_pos two,if_pos two]
  apply wpAny_bind;apply wpAny_pure
  apply wpAny_bind
  rw [StateT.run_pure]
  apply wpAny_pure
  have z:=kas_range (pairsOf vs)
  rw [pairsOf_size] at z
  exact fin _ (arj (aqb vs.length)) (Pm.range _) (fun i j x y=>by omega) z.symm rfl
 have two:¬ vs.toArray.size<2:=by rw [ap9];exact h2
 rw [if_neg two,if_neg two]
 apply wpAny_bind
 refine wpAny_mono (K.kind (by omega) h2' kz (fun κ' s'=>κ'=κ/\s'={ s with heap:=h2' }) ⟨rfl,rfl⟩) ?_ fun _ _ z=>z.elim
 rintro κ' s' ⟨eκ,es⟩
 rw [eκ,es]
 have W:=K.less h2' kz
 rw [kas_ask_eq] at W
 rw [st0]
 apply wpAny_bind
 refine wpAny_mono (ajy (Q:=fun st' s'=>s'={ s with heap:=h2' }/\∃ p,Pm vs.length p/\Up lt p vs.length/\arrOf st'=p.map (kas_item (pairsOf vs))/\failedOf st'=none) W K.ord (by omega) K.few fun st' p x1 x2 x3 x4=>⟨rfl,p,x1,x2,x3,x4⟩) ?_ fun _ _ z=>z
 rintro⟨⟨⟩,st'⟩ s' ⟨rfl,p,x1,x2,x3,x4⟩
 exact fin st' p x1 x2 x3 x4
theorem aev {l:Addr} {Q:Value->Shared->Prop} (hz:vs.length<=sizeLine) (hl:s.heap.IsList l vs.toArray) (K:Asks P w A.in1.in1 s κ vs lt)
  (q:∀ (h':Heap) D p c,Pm vs.length p->Up lt p vs.length->s.heap.objs.size<=D->(∀ b o,s.heap.get? b=some o->h'.get? b=some o)->h'.get? D=some (seqObj "list" (p.toList.map fun i=>vs.getD i Value.none).toArray c)->Q (.ref D) { s with heap:=h' }) :
  wpAny (model P w) A (call (.builtin "sorted") [.ref l]) Q X s:=by
 let h1:=(s.heap.push (seqObj "list" #[] 0)).update s.heap.objs.size (asx (·++vs.toArray))
 have s1:h1.objs.size=s.heap.objs.size+1:=by rw [Heap.size_update,size_push']
 let h2':=h1.push (seqObj "list" vs.toArray 0)
 have at2:h2'.get? (s.heap.objs.size+1)=some (seqObj "list" vs.toArray 0):=by rw [<-s1];exact ap7 _ rfl
 have keep:∀ b o,s.heap.get? b=some o->b≠s.heap.objs.size+1/\h2'.get? b=some o:=fun b o eb=>by
  have lb:=ap5 eb
  refine⟨fun z=>?_,apV _ ((aqM _ _ fun z=>?_).trans (apV _ eb))⟩
  ·rw [z] at lb;exact aru _ (asD lb (ash _))
  ·rw [<-z] at lb;exact aru _ lb
 refine atG kind_sorted plain_sorted entry_sorted (args_sorted1 _) ?_
 unfold Builtin.«sorted»
 apply wpAny_bind (m:=checkCount "sorted" 1 1 _);apply wpAny_pure
 apply wpAny_bind;refine collect_list hl ?_ hz
 apply wpAny_bind;refine wpAny_newList ?_ hz
 change wpAny _ _ _ _ _ { s with heap:=h2' }
 rw [show Value.ref ((s.heap.push (seqObj "list" #[] 0)).update s.heap.objs.size (asx (·++vs.toArray))).objs.size=Value.ref (s.heap.objs.size+1) from congrArg Value.ref s1]
 apply wpAny_bind;apply wpAny_holding
 refine wpAny_call_entry slot_list_sort ⟨_,at2,rfl⟩ entry_list_sort ?_ (args_list_sort _)
 refine agL (s:={ s with heap:=h2' }) hz at2 (h0:=s.heap) keep K fun h' p c x1 x2 x3 x4=>⟨_,rfl,wpAny_pure ⟨_,rfl,?_⟩⟩
 exact q h' _ p c x1 x2 (atf _) (fun b o eb=>x3 b o (keep b o eb).1 (keep b o eb).2) x4
end
mutual
def zF:PyData->Bool
 | .int _=>true
 | .str s=>(PyData.str s).canLay0
 | .tuple xs=>zO xs
 | _=>false
def zO:List PyData->Bool
 | []=>true
 | x :: xs=>zF x && zO xs
end
mutual
def ltD:PyData->PyData->Bool
 | .int a,.int b=>decide (a<b)
 | .str a,.str b=>decide (a.cps.toList<b.cps.toList)
 | .tuple xs,.tuple ys=>ltL xs ys
 | .int _,.str _=>true
 | .int _,.tuple _=>true
 | .str _,.tuple _=>true
 | _,_=>false
def ltL:List PyData->List PyData->Bool
 | [],[]=>false
 | [],_ :: _=>true
 | _ :: _,[]=>false
 | x :: xs,y :: ys=>if aqi x y=true then ltL xs ys else ltD x y
end
mutual
def vd:PyData->PyData->Bool
 | .int _,.int _=>true
 | .str _,.str _=>true
 | .tuple xs,.tuple ys=>vR xs ys
 | _,_=>false
def vR:List PyData->List PyData->Bool
 | [],_=>true
 | _ :: _,[]=>true
 | x :: xs,y :: ys=>if aqi x y=true then vR xs ys else vd x y
end
mutual
theorem yO:∀ d:PyData,zF d=true->d.canLay0=true
 | .int _,_=>rfl
 | .str _,h=>h
 | .tuple xs,h=>by rw [PyData.canLay0];exact abz xs (by rw [zF] at h;exact h)
 | .none,h=>by cases h
 | .bool _,h=>by cases h
 | .list _,h=>by cases h
 | .dict _,h=>by cases h
theorem abz:∀ xs:List PyData,zO xs=true->aqr xs=true
 | [],_=>rfl
 | x :: xs,h=>by
  rw [zO,ap3] at h
  rw [aqr,yO x h.1,abz xs h.2]
  rfl
end
mutual
theorem ajz:∀ a b:PyData,zF a=true->zF b=true->aqi a b=true->a=b
 | .int a,.int b,_,_,h=>by simpa [aqi] using h
 | .str a,.str b,_,_,h=>by simpa [aqi] using h
 | .tuple xs,.tuple ys,h1,h2,h=>by rw [agM xs ys (by rw [zF] at h1;exact h1) (by rw [zF] at h2;exact h2) (by rw [aqi] at h;exact h)]
 | .int _,.str _,_,_,h=>by simp [aqi] at h
 | .int _,.tuple _,_,_,h=>by simp [aqi] at h
 | .str _,.int _,_,_,h=>by simp [aqi] at h
 | .str _,.tuple _,_,_,h=>by simp [aqi] at h
 | .tuple _,.int _,_,_,h=>by simp [aqi] at h
 | .tuple _,.str _,_,_,h=>by simp [aqi] at h
 | .none,_,h,_,_=>by cases h
 | .bool _,_,h,_,_=>by cases h
 | .list _,_,h,_,_=>by cases h
 | .dict _,_,h,_,_=>by cases h
 | .int _,.none,_,h,_=>by cases h
 | .int _,.bool _,_,h,_=>by cases h
 | .int _,.list _,_,h,_=>by cases h
 | .int _,.dict _,_,h,_=>by cases h
 | .str _,.none,_,h,_=>by cases h
 | .str _,.bool _,_,h,_=>by cases h
 | .str _,.list _,_,h,_=>by cases h
 | .str _,.dict _,_,h,_=>by cases h
 | .tuple _,.none,_,h,_=>by cases h
 | .tuple _,.bool _,_,h,_=>by cases h
 | .tuple _,.list _,_,h,_=>by cases h
 | .tuple _,.dict _,_,h,_=>by cases h
theorem agM:∀ xs ys:List PyData,zO xs=true->zO ys=true->atV xs ys=true->xs=ys
 | [],[],_,_,_=>rfl
 | [],_ :: _,_,_,h=>by simp [atV] at h
 | _ :: _,[],_,_,h=>by simp [atV] at h
 | x :: xs,y :: ys,h1,h2,h=>by
  rw [zO,ap3] at h1 h2
  rw [atV,ap3] at h
  rw [ajz x y h1.1 h2.1 h.1,agM xs ys h1.2 h2.2 h.2]
end
theorem aa2 {a b:PyData} (ha:zF a=true) (hb:zF b=true):aqi a b=true↔a=b :=
 ⟨ajz a b ha hb,fun h=>by subst h;exact asY a (yO a ha)⟩
theorem qq {x y:PyData} {xs ys:List PyData} (hx:zF x=true) (hy:zF y=true) [Decidable (x=y)]:ltL (x :: xs) (y :: ys)=if x=y then ltL xs ys else ltD x y:=by
 rw [ltL]
 by_cases h:x=y
 ·rw [if_pos ((aa2 hx hy).mpr h),if_pos h]
 ·rw [if_neg (fun z=>h ((aa2 hx hy).mp z)),if_neg h]
theorem ajA {a b:List Nat} (h:a≠b):decide (a<b)=!decide (b<a):=by
 by_cases h1:a<b
 ·rw [decide_eq_true h1,decide_eq_false (fun z=>List.lt_irrefl a (List.lt_trans h1 z))]
  rfl
 ·have h2:b<a:=by
   have:b<=a:=List.not_lt.mp h1
   rcases List.le_iff_lt_or_eq.mp this with z | z
   ·exact z
   ·exact absurd z.symm h
  rw [decide_eq_false h1,decide_eq_true h2]
  rfl
theorem anY {a b:Str} (h:a≠b):a.cps.toList≠b.cps.toList:=fun z=>h (by
 cases a;cases b
 simp only [Str.mk.injEq] at *
 exact Array.toList_inj.mp z)
mutual
theorem afG:∀ a b:PyData,zF a=true->zF b=true->a≠b->ltD a b=!ltD b a
 | .int a,b,ha,hb,ne=>by
  cases b with
  | int b =>
   rw [ltD,ltD]
   have:a≠b:=fun z=>ne (by rw [z])
   by_cases h:a<b
   ·rw [decide_eq_true h,decide_eq_false (by omega)];rfl
   ·rw [decide_eq_false h,decide_eq_true (by omega)];rfl
  | str b=>simp [ltD]
  | tuple ys=>simp [ltD]
  | none=>cases hb
  | bool _=>cases hb
  | list _=>cases hb
  | dict _=>cases hb
 | .str a,b,ha,hb,ne=>by
  cases b with
  | int b=>simp [ltD]
  | str b =>
   rw [ltD,ltD]
   exact ajA (anY fun z=>ne (by rw [z]))
  | tuple ys=>simp [ltD]
  | none=>cases hb
  | bool _=>cases hb
  | list _=>cases hb
  | dict _=>cases hb
 | .tuple xs,b,ha,hb,ne=>by
  cases b with
  | int b=>simp [ltD]
  | str b=>simp [ltD]
  | tuple ys =>
   rw [ltD,ltD]
   rw [zF] at ha hb
   exact agN xs ys ha hb fun z=>ne (by rw [z])
  | none=>cases hb
  | bool _=>cases hb
  | list _=>cases hb
  | dict _=>cases hb
 | .none,_,h,_,_=>by cases h
 | .bool _,_,h,_,_=>by cases h
 | .list _,_,h,_,_=>by cases h
 | .dict _,_,h,_,_=>by cases h
theorem agN:∀ xs ys:List PyData,zO xs=true->zO ys=true->xs≠ys->ltL xs ys=!ltL ys xs
 | [],[],_,_,ne=>absurd rfl ne
 | [],_ :: _,_,_,_=>by simp [ltL]
 | _ :: _,[],_,_,_=>by simp [ltL]
 | x :: xs,y :: ys,h1,h2,ne=>by
  rw [zO,ap3] at h1 h2
  have:=arc (x=y)
  have:=arc (y=x)
  rw [qq h1.1 h2.1,qq h2.1 h1.1]
  by_cases e:x=y
  ·rw [if_pos e,if_pos e.symm]
   exact agN xs ys h1.2 h2.2 fun z=>ne (by rw [e,z])
  ·rw [if_neg e,if_neg (arw e)]
   exact afG x y h1.1 h2.1 e
end
mutual
theorem afH:∀ a:PyData,zF a=true->ltD a a=false
 | .int a,_=>by rw [ltD];exact decide_eq_false (Int.lt_irrefl a)
 | .str a,_=>by rw [ltD];exact decide_eq_false (List.lt_irrefl _)
 | .tuple xs,h=>by rw [ltD];rw [zF] at h;exact agO xs h
 | .none,h=>by cases h
 | .bool _,h=>by cases h
 | .list _,h=>by cases h
 | .dict _,h=>by cases h
theorem agO:∀ xs:List PyData,zO xs=true->ltL xs xs=false
 | [],_=>by rw [ltL]
 | x :: xs,h=>by
  rw [zO,ap3] at h
  have:=arc (x=x)
  rw [qq h.1 h.1,if_pos rfl]
  exact agO xs h.2
end
theorem lt_asymm {a b:PyData} (ha:zF a=true) (hb:zF b=true) (h:ltD a b=true):a≠b:=fun z=>by
 subst z
 rw [afH a ha] at h
 cases h
mutual
theorem afI:∀ a b c:PyData,zF a=true->zF b=true->zF c=true->ltD a b=true->ltD b c=true->ltD a c=true
 | .int a,b,c,ha,hb,hc,h1,h2=>by
  cases b <;> first | (cases hb;done) | skip
  all_goals cases c <;> first | (cases hc;done) | skip
  all_goals first | (simp [ltD] at h1 h2 ⊢;omega) | (simp [ltD] at h1 h2 ⊢;done) | (simp [ltD] at h1;done) | (simp [ltD] at h2;done)
 | .str a,b,c,ha,hb,hc,h1,h2=>by
  cases b <;> first | (cases hb;done) | skip
  all_goals cases c <;> first | (cases hc;done) | skip
  all_goals first | (simp [ltD] at h1;done) | (simp [ltD] at h2;done) | (rw [ltD] at h1 h2 ⊢;exact decide_eq_true (List.lt_trans (of_decide_eq_true h1) (of_decide_eq_true h2))) | (simp [ltD] at h1 h2 ⊢;done)
 | .tuple xs,b,c,ha,hb,hc,h1,h2=>by
  cases b with
  | tuple ys =>
   cases c with
   | tuple zs =>
    rw [ltD] at h1 h2 ⊢
    rw [zF] at ha hb hc
    exact agP xs ys zs ha hb hc h1 h2
   | int _=>simp [ltD] at h2
   | str _=>simp [ltD] at h2
   | none=>cases hc
   | bool _=>cases hc
   | list _=>cases hc
   | dict _=>cases hc
  | int _=>simp [ltD] at h1
  | str _=>simp [ltD] at h1
  | none=>cases hb
  | bool _=>cases hb
  | list _=>cases hb
  | dict _=>cases hb
 | .none,_,_,h,_,_,_,_=>by cases h
 | .bool _,_,_,h,_,_,_,_=>by cases h
 | .list _,_,_,h,_,_,_,_=>by cases h
 | .dict _,_,_,h,_,_,_,_=>by cases h
theorem agP:∀ xs ys zs:List PyData,zO xs=true->zO ys=true->zO zs=true->ltL xs ys=true->ltL ys zs=true->ltL xs zs=true
 | [],ys,[],_,_,_,h1,h2=>by
  cases ys with
  | nil=>exact h1
  | cons y ys=>simp [ltL] at h2
 | [],_,_ :: _,_,_,_,_,_=>by rw [ltL]
 | _ :: _,[],_,_,_,_,h1,_=>by simp [ltL] at h1
 | _ :: _,_ :: _,[],_,_,_,_,h2=>by simp [ltL] at h2
 | x :: xs,y :: ys,z :: zs,p1,p2,p3,h1,h2=>by
  rw [zO,ap3] at p1 p2 p3
  have:=arc (x=y)
  have:=arc (y=z)
  have:=arc (x=z)
  rw [qq p1.1 p2.1] at h1
  rw [qq p2.1 p3.1] at h2
  rw [qq p1.1 p3.1]
  by_cases e1:x=y
  ·rw [if_pos e1] at h1
   by_cases e2:y=z
   ·rw [if_pos e2] at h2
    rw [if_pos (e1.trans e2)]
    exact agP xs ys zs p1.2 p2.2 p3.2 h1 h2
   ·rw [if_neg e2] at h2
    rw [if_neg (fun q=>e2 (e1.symm.trans q)),e1]
    exact h2
  ·rw [if_neg e1] at h1
   by_cases e2:y=z
   ·rw [if_neg (fun q=>e1 (q.trans e2.symm)),<- e2]
    exact h1
   ·rw [if_neg e2] at h2
    have h3:=afI x y z p1.1 p2.1 p3.1 h1 h2
    rw [if_neg (lt_asymm p1.1 p3.1 h3)]
    exact h3
end
end L2
end
section
namespace L2
open PySem PySem.Spec PyProof.Rows PySem.SeqAt
open PySem.AutoSeq1 (wpAny_loadPart')
open PySem.MeetsSeq PySem.MeetsSeq2 PySem.MeetsSeq3
def ao8 (A:Around) (s:Shared) (y x:Value) (b:Bool):Prop :=
 ∀ (prog:Program) (w:World) (E:Value->Shared->Prop) (Q:Value->Shared->Prop),Q (.bool b) s->wpAny (model prog w) A (richCompare .Lt y x) Q E s
inductive Lex (A:Around) (s:Shared):List Value->List Value->Bool->Prop where
 | nn:Lex A s [] [] false
 | nc {w ws}:Lex A s [] (w :: ws) true
 | cn {v vs}:Lex A s (v :: vs) [] false
 | eq {v w vs ws b}:EqAt A s v w true->Lex A s vs ws b->Lex A s (v :: vs) (w :: ws) b
 | lt {v w vs ws b}:EqAt A s v w false->ao8 A s v w b->Lex A s (v :: vs) (w :: ws) b
theorem adv (l m:Addr) (xs ys:Array Value) (n n2:Nat) (dd dd2:Option Addr) (sl sl2:Array (Option Value)) (c:Bool) :
  Meets (Builtin.«tuple.__lt__» ⟨[.ref l,.ref m],[]⟩)
   (fun A R s=>s.heap.get? l=some { cls:=.type "tuple",dict:=dd,data:=.seq xs n,slots:=sl }/\s.heap.get? m=some { cls:=.type "tuple",dict:=dd2,data:=.seq ys n2,slots:=sl2 } /\
    Lex A.in1 s xs.toList ys.toList c/\R (.ok (.ret (.bool c))) s) :=
 .of_wp fun prog w A R s h=>by
  obtain⟨hp,g,d,tk,os⟩:=s;obtain⟨hl,hb,hx,h⟩:=h
  have f2:=AutoSeq1.sub_tuple_tuple
  wp_walk using wpAny_loadPart' hl,wpAny_loadPart' hb,wpAny_forIn_list _ (fun rest b s'=>b.1=none/\s'=⟨hp,g,d,tk,os⟩/\∃ (vs ws:List Value),rest=vs.zip ws/\Lex A.in1 ⟨hp,g,d,tk,os⟩ vs ws c/\vs.length+ys.size=ws.length+xs.size) _
  case turn =>
   rintro⟨y,x⟩ rest b s' ⟨hb',rfl,vs,ws,hz,lx,hn⟩
   cases lx with
   | nn=>cases hz
   | nc=>cases hz
   | cn=>cases hz
   | eq he lx' =>
    rw [asn] at hz
    cases hz
    refine wpAny_bind (he prog w _ _ ?_)
    wp_walk
    exact⟨rfl,rfl,_,_,rfl,lx',by simp only [ap8] at hn;omega⟩
   | lt he hlt =>
    rw [asn] at hz
    cases hz
    refine wpAny_bind (he prog w _ _ ?_)
    have hri:=hlt prog w
    wp_walk using hri
    exact⟨_,rfl,h⟩
  case fin =>
   rintro⟨b1,b2⟩ s' ⟨hb',rfl,vs,ws,hz,lx,hn⟩
   simp only at hb'
   subst hb'
   have hv:decide (xs.size<ys.size)=c:=by
    cases lx with
    | nn=>simp only [arh] at hn;exact decide_eq_false (by omega)
    | nc=>simp only [arh,ap8] at hn;exact decide_eq_true (by omega)
    | cn=>simp only [arh,ap8] at hn;exact decide_eq_false (by omega)
    | eq _ _=>cases hz
    | lt _ _=>cases hz
   wp_walk
   rw [<-hv] at h
   exact⟨_,rfl,by simpa [Builtin.Tuple.tupleCompareSizes] using h⟩
  case h=>exact⟨rfl,rfl,_,_,rfl,hx,by simp only [ap4];omega⟩
mutual
theorem abA:∀ (da db:PyData) (A:Around) (s:Shared) (a b:Value) (as bs:List Addr),Reads s.heap a da as->Reads s.heap b db bs->zF da=true->zF db=true->vd da db=true ->
  A.units+max da.depth db.depth<cLine->ao8 A s a b (ltD da db)
 | .int x,db,A,s,_,_,_,_,ra,rb,_,_,hc,hu=>by
  cases ra with
  | int _ t =>
   cases db with
   | int y =>
    cases rb with
    | int _ u =>
     intro prog w E Q q
     exact HT.rcLt_int A s x t y u prog w E Q (by rw [ltD] at q;exact q)
   | _=>cases hc
 | .str x,db,A,s,_,_,_,_,ra,rb,_,_,hc,hu=>by
  cases ra with
  | str _ t =>
   cases db with
   | str y =>
    cases rb with
    | str _ u =>
     intro prog w E Q q
     exact (PyProof.Rows.lt_str (by rw [ltD] at q;exact q):wpAny (model prog w) A (compareOp .Lt (.str x t) (.str y u)) Q E s)
   | _=>cases hc
 | .tuple xs,db,A,s,_,_,_,_,ra,rb,pa,pb,hc,hu=>by
  cases ra with
  | @tuple l o vs n _ as h1 h2 h3 h4 =>
   cases db with
   | tuple ys =>
    cases rb with
    | @tuple m o2 ws n2 _ bs k1 k2 k3 k4 =>
     intro prog w E Q q
     obtain⟨cls,dd,data,sl⟩:=o
     obtain⟨cls2,dd2,data2,sl2⟩:=o2
     simp only at h2 h3 k2 k3
     subst h2 h3 k2 k3
     rw [zF] at pa pb
     rw [vd] at hc
     rw [ltD] at q
     have hd:A.in1.units+max (ap6 xs) (ap6 ys)<cLine:=by
      have e1:(PyData.tuple xs).depth=ap6 xs+1:=rfl
      have e2:(PyData.tuple ys).depth=ap6 ys+1:=rfl
      have e3:A.in1.units=A.units+1:=rfl
      rw [e1,e2] at hu
      omega
     have lx:=acI xs ys A.in1 s _ _ _ _ h4 k4 pa pb hc hd
     exact richCompare_meets_room (op:=.Lt) ⟨_,h1,rfl⟩ ⟨_,k1,rfl⟩ PySem.F.slot_tuple_lt PySem.F.entry_tuple_lt (PySem.F.args_tuple_lt_2 _ _) (adv l m vs ws n n2 dd dd2 sl sl2 (ltL xs ys))
      ⟨h1,k1,lx,show Value.bool (ltL xs ys)≠Value.notImplemented/\Q (.bool (ltL xs ys)) s from⟨(fun x=>nomatch x),q⟩⟩ (by omega)
   | _=>cases hc
 | .none,_,_,_,_,_,_,_,_,_,h,_,_,_=>by cases h
 | .bool _,_,_,_,_,_,_,_,_,_,h,_,_,_=>by cases h
 | .list _,_,_,_,_,_,_,_,_,_,h,_,_,_=>by cases h
 | .dict _,_,_,_,_,_,_,_,_,_,h,_,_,_=>by cases h
theorem acI:∀ (xs ys:List PyData) (A:Around) (s:Shared) (vs ws:List Value) (as bs:List Addr),ReadsAll s.heap vs xs as->ReadsAll s.heap ws ys bs->zO xs=true->zO ys=true->vR xs ys=true ->
  A.units+max (ap6 xs) (ap6 ys)<cLine->Lex A s vs ws (ltL xs ys)
 | [],[],_,_,_,_,_,_,ra,rb,_,_,_,_=>by cases ra;cases rb;rw [ltL];exact .nn
 | [],_ :: _,_,_,_,_,_,_,ra,rb,_,_,_,_=>by cases ra;cases rb;rw [ltL];exact .nc
 | _ :: _,[],_,_,_,_,_,_,ra,rb,_,_,_,_=>by cases ra;cases rb;rw [ltL];exact .cn
 | x :: xs,y :: ys,A,s,_,_,_,_,ra,rb,pa,pb,hc,hu=>by
  cases ra with
  | cons r rs =>
   cases rb with
   | cons r' rs' =>
    rw [zO,ap3] at pa pb
    rw [vR] at hc
    rw [ltL]
    have e1:ap6 (x :: xs)=max x.depth (ap6 xs):=rfl
    have e2:ap6 (y :: ys)=max y.depth (ap6 ys):=rfl
    rw [e1,e2] at hu
    have eq:=eqAt_reads x y A s _ _ _ _ r r' (yO x pa.1) (yO y pb.1) (by omega)
    by_cases e:aqi x y=true
    ·rw [if_pos e] at hc ⊢
     rw [e] at eq
     exact .eq eq (acI xs ys A s _ _ _ _ rs rs' pa.2 pb.2 hc (by omega))
    ·rw [if_neg e] at hc ⊢
     rw [at7] at e
     rw [e] at eq
     exact .lt eq (abA x y A s _ _ _ _ r r' pa.1 pb.1 hc (by omega))
end
end L2
end
section
namespace L2
open PySem PySem.Spec PyProof.Rows PySem.SeqAt PySem.W
section
variable {P:Program} {w:World} {A:Around} {s:Shared} {b:Bool} {Q:Bool->Shared->Prop}
theorem adw {fin:Bool} {x y:PyData} {p q:Value} {r:List (Value×Value)} {i:Nat} {as bs:List Addr} {c:Bool} (rx:Reads s.heap p x as) (ry:Reads s.heap q y bs) (px:zF x=true) (py:zF y=true) (hu:A.units+max x.depth y.depth<cLine)
  (h1:aqi x y=true->KatLex P w A b fin Q r (i+1) s) (h2:aqi x y=false->wpAny (model P w) A (oneLt' (b && i == 0) p q) Q (fun _ _=>False) s):KatLex P w A b fin Q ((p,q) :: r) i s:=by
 refine kat_cons (eqAt_reads x y A s _ _ _ _ rx ry (yO x px) (yO y py) (by omega) P w _ _ ?_)
 exact kat_go (fun e=>kat_yes (h1 e)) fun e=>kat_no (h2 e)
theorem vZ {m n:Nat}:∀ (xs ys:List PyData) (vs ws:List Value) (as bs:List Addr) (i:Nat),(1<=i \/ b=false)->ReadsAll s.heap vs xs as->ReadsAll s.heap ws ys bs->zO xs=true->zO ys=true->vR xs ys=true ->
  A.units+max (ap6 xs) (ap6 ys)<cLine->xs.length+n=ys.length+m->Q (ltL xs ys) s->KatLex P w A b (decide (m<n)) Q (vs.zip ws) i s
 | [],[],_,_,_,_,i,_,ra,rb,_,_,_,_,hl,q=>by
  cases ra;cases rb
  rw [ltL] at q
  simp only [arh] at hl
  rw [decide_eq_false (show ¬ m<n by omega)]
  exact kat_nil q
 | [],y :: ys,_,_,_,_,i,_,ra,rb,_,_,_,_,hl,q=>by
  cases ra;cases rb
  rw [ltL] at q
  simp only [arh,ap8] at hl
  rw [decide_eq_true (show m<n by omega)]
  exact kat_nil q
 | x :: xs,[],_,_,_,_,i,_,ra,rb,_,_,_,_,hl,q=>by
  cases ra;cases rb
  rw [ltL] at q
  simp only [arh,ap8] at hl
  rw [decide_eq_false (show ¬ m<n by omega),List.zip_nil_right]
  exact kat_nil q
 | x :: xs,y :: ys,_,_,_,_,i,hi,ra,rb,pa,pb,hc,hu,hl,q=>by
  cases ra with
  | cons r rs =>
   cases rb with
   | cons r' rs' =>
    rw [zO,ap3] at pa pb
    rw [vR] at hc
    rw [ltL] at q
    have e1:ap6 (x :: xs)=max x.depth (ap6 xs):=rfl
    have e2:ap6 (y :: ys)=max y.depth (ap6 ys):=rfl
    rw [e1,e2] at hu
    simp only [ap8] at hl
    rw [asn]
    refine adw (c:=true) r r' pa.1 pb.1 (by omega) (fun e=>?_) fun e=>?_
    ·rw [if_pos e] at hc q
     exact vZ xs ys _ _ _ _ (i+1) (.inl (by omega)) rs rs' pa.2 pb.2 hc (by omega) (by omega) q
    ·rw [if_neg (by rw [e];exact apQ)] at hc q
     have ef:(b && i == 0)=false:=by
      rcases hi with hi | hi
      ·rw [show (i == 0)=false from beq_eq_false_iff_ne.mpr (by omega),atB]
      ·rw [hi];rfl
     rw [ef]
     exact kat_one _ _ (abA x y A s _ _ _ _ r r' pa.1 pb.1 hc (by omega) P w _ _ q)
end
def qr:PyData->Option String
 | .tuple (.int _ :: _)=>some "int"
 | .tuple (.str _ :: _)=>some "str"
 | .tuple (.tuple _ :: _)=>some "tuple"
 | _=>none
structure SortOk (T:String) (ds:List PyData):Prop where
 plain:∀ d∈ds,zF d=true
 head:∀ d∈ds,qr d=some T
 cmp:∀ d∈ds,∀ e∈ds,vd d e=true
 depth:∀ d∈ds,d.depth<=50
 nd:ds.Nodup
theorem ve {d:PyData} {T:String} (h:qr d=some T):∃ x xs,d=.tuple (x :: xs)/\((T="int"/\∃ n,x=.int n) \/ (T="str"/\∃ n,x=.str n) \/ (T="tuple"/\∃ n,x=.tuple n)):=by
 unfold qr at h
 split at h
 ·cases h;exact⟨_,_,rfl,.inl ⟨rfl,_,rfl⟩⟩
 ·cases h;exact⟨_,_,rfl,.inr (.inl ⟨rfl,_,rfl⟩)⟩
 ·cases h;exact⟨_,_,rfl,.inr (.inr ⟨rfl,_,rfl⟩)⟩
 ·cases h
section
variable {P:Program} {w:World} {A:Around} {s:Shared} {T:String}
theorem anZ {d e:PyData} {v u:Value} {as bs:List Addr} {C:Bool->Shared->Prop} (rd:Reads s.heap v d as) (re:Reads s.heap u e bs) (pd:zF d=true) (pe:zF e=true) (hd:qr d=some T) (he:qr e=some T) (hc:vd d e=true)
  (hu:A.units+60<cLine) (d1:d.depth<=50) (d2:e.depth<=50) (q:C (ltD d e) s):wpAny (model P w) A (keyLt' (tuples' (Value.type T != Value.type "tuple")) v u) C (fun _ _=>False) s:=by
 obtain⟨x,xs,rfl,hx⟩:=ve hd
 obtain⟨y,ys,rfl,hy⟩:=ve he
 cases rd with
 | @tuple l o vs n _ as h1 h2 h3 h4 =>
  cases re with
  | @tuple m o2 ws n2 _ bs k1 k2 k3 k4 =>
   have l1:=arD _ _ _ h4
   have l2:=arD _ _ _ k4
   rw [ap4] at l1 l2
   refine kat_lt h1 h3 k1 k3 ?_
   rw [zF] at pd pe
   rw [vd] at hc
   rw [ltD] at q
   have e1:(PyData.tuple (x :: xs)).depth=ap6 (x :: xs)+1:=rfl
   have e2:(PyData.tuple (y :: ys)).depth=ap6 (y :: ys)+1:=rfl
   have e3:ap6 (x :: xs)=max x.depth (ap6 xs):=rfl
   have e4:ap6 (y :: ys)=max y.depth (ap6 ys):=rfl
   rcases hx with⟨rfl,nx,rfl⟩ | ⟨rfl,nx,rfl⟩ | ⟨rfl,nx,rfl⟩
   ·obtain⟨ny,rfl⟩:∃ ny,y=.int ny:=by
     rcases hy with⟨_,h⟩ | ⟨z,_⟩ | ⟨z,_⟩
     ·exact h
     ·exact absurd z (by decide)
     ·exact absurd z (by decide)
    obtain⟨vl⟩:=vs
    obtain⟨wl⟩:=ws
    cases h4 with
    | cons r rs =>
     cases k4 with
     | cons r' rs' =>
      rw [zO,ap3] at pd pe
      rw [vR] at hc
      rw [ltL] at q
      rw [asn]
      refine adw (c:=true) r r' rfl rfl (by omega) (fun e=>?_) fun e=>?_
      ·rw [if_pos e] at hc q
       exact vZ xs ys _ _ _ _ 1 (.inl (apY 1)) rs rs' pd.2 pe.2 hc (by omega) (by simp only [ap8] at l1 l2;omega) q
      ·rw [if_neg (by rw [e];exact apQ)] at q
       rw [show ((Value.type "int" != Value.type "tuple") && (0 == 0))=true by decide]
       cases r
       cases r'
       rw [ltD] at q
       exact oneLt_int q
   ·obtain⟨ny,rfl⟩:∃ ny,y=.str ny:=by
     rcases hy with⟨z,_⟩ | ⟨_,h⟩ | ⟨z,_⟩
     ·exact absurd z (by decide)
     ·exact h
     ·exact absurd z (by decide)
    obtain⟨vl⟩:=vs
    obtain⟨wl⟩:=ws
    cases h4 with
    | cons r rs =>
     cases k4 with
     | cons r' rs' =>
      rw [zO,ap3] at pd pe
      rw [vR] at hc
      rw [ltL] at q
      rw [asn]
      refine adw (c:=true) r r' pd.1 pe.1 (by omega) (fun e=>?_) fun e=>?_
      ·rw [if_pos e] at hc q
       exact vZ xs ys _ _ _ _ 1 (.inl (apY 1)) rs rs' pd.2 pe.2 hc (by omega) (by simp only [ap8] at l1 l2;omega) q
      ·rw [if_neg (by rw [e];exact apQ)] at q
       rw [show ((Value.type "str" != Value.type "tuple") && (0 == 0))=true by decide]
       cases r
       cases r'
       rw [ltD] at q
       exact oneLt_str q
   ·exact vZ _ _ _ _ _ _ 0 (.inr (by decide)) h4 k4 pd pe hc (by omega) (by rw [l1,l2];omega) q
theorem ReadsAll.at {h:Heap}:∀ {vs:List Value} {ds:List PyData} {as:List Addr},ReadsAll h vs ds as->∀ i,i<ds.length->∃ bs,Reads h (vs.getD i Value.none) (ds.getD i .none) bs
 | _,_,_,.nil,i,hi=>absurd hi (ari _)
 | _,_,_,.cons r rs,0,_=>⟨_,r⟩
 | _,_,_,.cons r rs,i+1,hi=>ReadsAll.at rs i (arT hi)
theorem ReadsAll.keep {h h':Heap} (k:∀ b o,h.get? b=some o->h'.get? b=some o):∀ {vs:List Value} {ds:List PyData} {as:List Addr},ReadsAll h vs ds as->ReadsAll h' vs ds as
 | _,_,_,.nil=>.nil
 | _,_,_,.cons r rs=>.cons (PyProof.Rows.Reads.keeps k r) (ReadsAll.keep k rs)
theorem agQ {h:Heap}:∀ {vs:List Value} {ds:List PyData} {as:List Addr},ReadsAll h vs ds as->(∀ d∈ds,qr d=some T)->∃ fs,KatTups h vs fs/\fs.length=vs.length/\∀ v∈fs,Looks (model P w) h (typeOf v) (.type T)
 | _,_,_,.nil,_=>⟨[],.nil,rfl,fun _ h=>nomatch h⟩
 | _,d :: ds,_,.cons r rs,hh=>by
  obtain⟨fs,h1,h2,h3⟩:=agQ rs fun d hd=>hh d (apW _ hd)
  obtain⟨x,xs,rfl,hx⟩:=ve (hh d apX)
  cases r with
  | @tuple l o vs n _ as k1 k2 k3 k4 =>
   obtain⟨vl⟩:=vs
   cases k4 with
   | @cons v0 vs0 _ _ _ _ r0 rs0 =>
    refine⟨v0 :: fs,.cons k1 k2 k3 rfl h1,by simp [h2],fun v hv=>?_⟩
    rcases ap0.mp hv with rfl | hv
    ·rcases hx with⟨rfl,nx,rfl⟩ | ⟨rfl,nx,rfl⟩ | ⟨rfl,nx,rfl⟩
     ·cases r0;exact Looks.of_pure rfl
     ·cases r0;exact Looks.of_pure rfl
     ·cases r0 with
      | tuple q1 q2 q3 q4=>rw [<-q2];exact (Looks.ld q1).andThen .now
    ·exact h3 v hv
theorem an0 {ds:List PyData} (ok:SortOk T ds):Tot ds.length fun i j=>ltD (ds.getD i .none) (ds.getD j .none):=by
 have mem:∀ i,i<ds.length->ds.getD i .none∈ds:=fun i hi=>by
  rw [apR,apO hi]
  exact aqo hi
 refine⟨fun i j hi hj ne=>afG _ _ (ok.plain _ (mem i hi)) (ok.plain _ (mem j hj)) fun z=>ne ?_,fun i j k hi hj hk=>afI _ _ _ (ok.plain _ (mem i hi)) (ok.plain _ (mem j hj)) (ok.plain _ (mem k hk))⟩
 rw [apR,apR,apO hi,apO hj] at z
 exact (asB ok.nd).mp z
theorem alx {vs:List Value} {ds:List PyData} {as:List Addr} (ra:ReadsAll s.heap vs ds as) (ok:SortOk T ds) (hu:A.units+60<cLine) (few:ds.length<64 \/ ds.Pairwise fun d e=>ltD d e=true) :
  Asks P w A s (tuples' (Value.type T != Value.type "tuple")) vs fun i j=>ltD (ds.getD i .none) (ds.getD j .none):=by
 have len:=arD _ _ _ ra
 have mem:∀ i,i<ds.length->ds.getD i .none∈ds:=fun i hi=>by
  rw [apR,apO hi]
  exact aqo hi
 refine⟨fun h2 h' k R q=>?_,fun h' k i j C hi hj q=>?_,by rw [len];exact an0 ok,?_⟩
 ·obtain⟨fs,f1,f2,f3⟩:=agQ (P:=P) (w:=w) (ReadsAll.keep k ra) ok.head
  exact kat_kind f1 (by omega) f3 (beq_self_eq_true _) q
 ·rw [len] at hi hj
  obtain⟨b1,r1⟩:=ReadsAll.at (ReadsAll.keep k ra) i hi
  obtain⟨b2,r2⟩:=ReadsAll.at (ReadsAll.keep k ra) j hj
  exact anZ r1 r2 (ok.plain _ (mem i hi)) (ok.plain _ (mem j hj)) (ok.head _ (mem i hi)) (ok.head _ (mem j hj)) (ok.cmp _ (mem i hi) _ (mem j hj)) hu (ok.depth _ (mem i hi)) (ok.depth _ (mem j hj)) q
 ·rw [len]
  refine few.imp id fun pw i hi=>?_
  have h1:=arC.mp pw i (i+1) (by omega) hi (by omega)
  have g:∀ j (hj:j<ds.length),ds.getD j .none=ds[j]:=fun j hj=>by rw [apR,apO hj];rfl
  rw [g _ hi,g i (by omega)]
  have ne:=lt_asymm (ok.plain _ (aqo _)) (ok.plain _ (aqo _)) h1
  have:=afG _ _ (ok.plain _ (aqo _)) (ok.plain _ (aqo _)) ne
  rw [h1] at this
  revert this
  cases ltD ds[i+1] ds[i] <;> simp
end
def pick {α:Type} (d:α) (p:Array Nat) (xs:List α):List α:=p.toList.map fun i=>xs.getD i d
theorem adx:∀ {xs:List V} {us:List Value},Vals xs us->∀ i,RelV (xs.getD i .non) (us.getD i Value.none)
 | _,_,.nil,i=>rfl
 | _,_,.cons r t,0=>r
 | _,_,.cons r t,i+1=>adx t i
theorem ahY {xs:List V} {us:List Value} (r:Vals xs us) (p:Array Nat):Vals (pick .non p xs) (pick Value.none p us):=by
 unfold pick
 induction p.toList with
 | nil=>exact .nil
 | cons i l ih=>exact .cons (adx r i) ih
theorem ady {K:apT} {H:Hp}:∀ {ds:List PyData} {xs:List V},Reps K H ds xs->∀ i,Rep K H (ds.getD i .none) (xs.getD i .non)
 | [],xs,r,i=>by
  rw [reps_nil.mp r]
  exact rep_none.mpr rfl
 | d :: ds,xs,r,i=>by
  obtain⟨x,xs',rfl,r1,r2⟩:=reps_cons.mp r
  cases i with
  | zero=>exact r1
  | succ i=>exact ady r2 i
theorem ahZ {K:apT} {H:Hp} {ds:List PyData} {xs:List V} (r:Reps K H ds xs) (p:Array Nat):Reps K H (pick .none p ds) (pick .non p xs):=by
 unfold pick
 induction p.toList with
 | nil=>exact .nil'
 | cons i l ih=>exact .cons' (ady r i) ih
theorem acJ {α:Type} {d:α} {n:Nat} {p:Array Nat} {xs:List α} (h:Pm n p) (hn:n=xs.length):(pick d p xs).Perm xs:=by
 have e:(aqb n).map (fun i=>xs.getD i d)=xs:=by
  subst hn
  refine aq0 fun i=>?_
  rw [apU]
  by_cases hi:i<xs.length
  ·rw [aqx hi,apO hi]
   simp [hi]
  ·rw [aqc (by simp;omega),aqc (by omega)]
   rfl
 have:=h.map fun i=>xs.getD i d
 rw [e] at this
 exact this
theorem aly {n:Nat} {p:Array Nat} {ds:List PyData} (h:Pm n p) (u:Up (fun i j=>ltD (ds.getD i .none) (ds.getD j .none)) p n):(pick .none p ds).Pairwise fun d e=>ltD d e=true:=by
 unfold pick
 rw [arb]
 refine arC.mpr fun i j hi hj hij=>?_
 have hs:=h.size
 rw [ap4] at hi hj
 have:=u i j hij (by omega)
 have g:∀ k (hk:k<p.toList.length),p.getD k 0=p.toList[k]:=fun k hk=>by
  rw [jn,apR,apO hk]
  rfl
 rw [g i (by simpa using hi),g j (by simpa using hj)] at this
 exact this
def adz (K:apT):List V->Hp->VK->Prop:=fun xs H Q=>∃ (a:Addr) (vs:List V) (ds:List PyData) (T:String),xs=[.ref a]/\SqL K H a vs/\Reps K H ds vs/\SortOk T ds/\ds.length<=1000/\(ds.length<64 \/ ds.Pairwise fun d e=>ltD d e=true) /\
 ∀ l p,H l=none->Pm ds.length p->Up (fun i j=>ltD (ds.getD i .none) (ds.getD j .none)) p ds.length->Q (.ref l) (upd H l (.lst (pick .non p vs)))
theorem adA {X:Cx} (hu:X.A.units+64<cLine):z6 X (.builtin "sorted") (adz X.K):=by
 intro pins s σ H xs us Q I r h
 obtain⟨a,vs,ds,T,rfl,ha,rd,ok,hl,few,q⟩:=h
 obtain⟨u,rfl,rx⟩:=vals1 r
 cases rx
 obtain⟨its,rv,pl,hz⟩:=I.list ha
 have le:=rv.length
 have ld:=rd.length
 obtain⟨as,ra⟩:=jk I ds vs its rd rv
 have e2:X.A.in1.in1.units=X.A.units+1+1:=rfl
 have lt':its.length=ds.length:=by omega
 refine aev (by omega) pl.isList (alx ra ok (by omega) few) fun h' D p c x1 x2 x3 x4 x5=>?_
 rw [lt'] at x1 x2
 have hD:H D=none:=I.hok.fresh x3
 have lp:p.toList.length=ds.length:=by rw [ap4];exact x1.size
 exact⟨.ref D,upd H D (.lst (pick .non p vs)),I.laid (t':=s.toks) x4 x3 ⟨by unfold pick;rw [apP];omega,pick Value.none p its,c,ahY rv p,x5⟩,rfl,q D p hD x1 x2⟩
theorem adB {X:Cx} {K:apT} (hK:X.K=K) (hu:X.A.units+64<cLine):z6 X (.builtin "sorted") (adz K):=hK▸adA hu
section
variable {K:apT} {f:Fx} {ρ:zw} {P:List PyData->Prop} {te:TE}
theorem ajB (T:String) (h:PEd K f te ρ fun x=>∃ ds,x=.list ds/\SortOk T ds/\ds.length<=1000/\(ds.length<64 \/ ds.Pairwise fun d e=>ltD d e=true)/\∀ es,es.Perm ds->(es.Pairwise fun d e=>ltD d e=true)->P es) :
  PEdO K f (tCB (adz K) (zV te yQ)) ρ P:=fun σ H Q e q=>h σ H _ e fun x v H1 g1 r1 ⟨ds,ex,ok,hl,few,p⟩=>by
 subst ex
 obtain⟨a,xs,rfl,h1,h2⟩:=rep_list.mp r1
 refine⟨a,xs,ds,T,rfl,(zj _ _).seq h1,Reps.mono (zj _ _) _ _ h2,ok,hl,few,fun l pm hn m u=>?_⟩
 have g2:Goes f H1 (upd H1 l (.lst (pick .non pm xs))):=.of_same (z4 hn _) g1.2
 refine q (pick .none pm ds) l _ _ (g1.trans g2) (g1.free e.fd hn) zB (Reps.mono (fun b o hb=>?_) _ _ (ahZ h2 pm)) (p _ (acJ m rfl) (aly m u))
 have hb':=zH hb
 have hbl:b≠l:=fun z=>by
  have:=hb'.2
  rw [z,hn] at this
  cases this
 refine zz (fun z=>?_) (by rw [zA hbl];exact hb'.2)
 rcases z with z | z
 ·exact hb'.1 (.inl z)
 ·rcases ap0.mp z with z | z
  ·exact hbl z
  ·exact hb'.1 (.inr z)
end
end L2
end
section
namespace L2.ST
open PySem PySem.SetTable
def aew (xs:Array Nat):Prop:=∀ i j,i<j->j<xs.size->xs.getD i 0<xs.getD j 0
theorem ajC {xs:Array Nat} {i d e:Nat} (h:i<xs.size):xs.getD i d=xs.getD i e:=by simp [ar4,h]
theorem abB {xs:Array Nat} {j:Nat}:∀ f lo hi,hi - lo<=f->lo<=hi->hi<=xs.size->(∀ i,i<lo->xs.getD i 0<j)->(∀ i,hi<=i->i<xs.size->j<=xs.getD i 0)->aew xs ->
  lo<=below.go xs j f lo hi/\below.go xs j f lo hi<=hi/\(∀ i,i<below.go xs j f lo hi->xs.getD i 0<j)/\(∀ i,below.go xs j f lo hi<=i->i<xs.size->j<=xs.getD i 0)
 | 0,lo,hi,hf,hl,hh,a,b,r=>by
  obtain rfl:lo=hi:=by omega
  exact⟨apY _,apY _,a,b⟩
 | f+1,lo,hi,hf,hl,hh,a,b,r=>by
  unfold below.go
  by_cases h:lo<hi
  ·rw [if_pos h]
   have hm:(lo+hi) / 2<xs.size:=by omega
   simp only
   rw [ajC (e:=0) hm]
   by_cases h2:xs.getD ((lo+hi) / 2) 0<j
   ·rw [if_pos h2]
    have:=abB f ((lo+hi) / 2+1) hi (by omega) (by omega) hh (fun i hi'=>by
     by_cases e:i=(lo+hi) / 2
     ·rw [e];exact h2
     ·exact asD (r i _ (by omega) hm) h2) b r
    exact⟨by omega,this.2.1,this.2.2⟩
   ·rw [if_neg h2]
    have:=abB f lo ((lo+hi) / 2) (by omega) (by omega) (by omega) a (fun i hi' hs=>by
     by_cases e:i=(lo+hi) / 2
     ·rw [e];omega
     ·have:=r ((lo+hi) / 2) i (by omega) hs;omega) r
    exact⟨this.1,by omega,this.2.2⟩
  ·rw [if_neg h]
   obtain rfl:lo=hi:=by omega
   exact⟨apY _,apY _,a,b⟩
theorem below_ok {xs:Array Nat} (r:aew xs) (j:Nat):below xs j<=xs.size/\(∀ i,i<below xs j->xs.getD i 0<j)/\(∀ i,below xs j<=i->i<xs.size->j<=xs.getD i 0):=by
 have:=abB (xs:=xs) (j:=j) xs.size 0 xs.size (by omega) (aqu _) (apY _) (fun i hi=>absurd hi (ari _)) (fun i a b=>by omega) r
 exact this.2
theorem below_at {xs:Array Nat} (r:aew xs) {i:Nat} (hi:i<xs.size):below xs (xs.getD i 0)=i:=by
 obtain⟨a,b,c⟩:=below_ok r (xs.getD i 0)
 by_cases h:below xs (xs.getD i 0)<i
 ·have h1:=c _ (apY _) (by omega)
  have h2:=r _ i h hi
  omega
 ·by_cases h2:i<below xs (xs.getD i 0)
  ·have:=b i h2;omega
  ·omega
def Tk (t:SetTable) (j:Nat):Prop:=∃ i,i<t.place.size/\t.place.getD i 0=j
theorem slot_live {t:SetTable} (r:aew t.place) {i:Nat} (hi:i<t.place.size):t.slot (t.place.getD i 0)=.live i:=by
 unfold slot
 simp only
 rw [below_at r hi]
 have:(t.place[i]? == some (t.place.getD i 0))=true:=by simp [ar4,hi]
 rw [if_pos this]
theorem ah0 {t:SetTable} (d:t.dummies=#[]) {j:Nat} (h:¬ Tk t j):t.slot j=.empty:=by
 unfold slot
 simp only
 have h1:¬ (t.place[below t.place j]? == some j)=true:=fun e=>h (by
  have e2:=eq_of_beq e
  obtain⟨hl,e3⟩:=asy.mp e2
  exact⟨_,hl,by simp [ar4,hl,e3]⟩)
 rw [if_neg h1]
 have h2:has t.dummies j=false:=by rw [d];rfl
 rw [h2]
 rfl
def road (mask:Nat) (h:Int):Nat->Probe
 | 0=>{ j:=bits h % (mask+1),more:=runEnd mask (bits h % (mask+1)) - bits h % (mask+1),i:=bits h % (mask+1),perturb:=bits h,dummy:=none }
 | k+1=>if (road mask h k).more > 0 then { road mask h k with j:=(road mask h k).j+1,more:=(road mask h k).more - 1 } else
  { road mask h k with j:=(leap mask (road mask h k).i (road mask h k).perturb).1,more:=runEnd mask (leap mask (road mask h k).i (road mask h k).perturb).1 - (leap mask (road mask h k).i (road mask h k).perturb).1,i:=(leap mask (road mask h k).i (road mask h k).perturb).1,perturb:=(leap mask (road mask h k).i (road mask h k).perturb).2 }
theorem road_start (t:SetTable) (h:Int):t.probeStart h=road t.mask h 0:=rfl
theorem vS (mask:Nat) (h:Int):∀ k,(road mask h k).dummy=none
 | 0=>rfl
 | k+1=>by
  unfold road
  split
  ·exact vS mask h k
  ·exact vS mask h k
abbrev pos (mask:Nat) (h:Int) (k:Nat):Nat:=(road mask h k).j
def lp (mask:Nat) (h:Int):Nat->Nat×Nat
 | 0=>(bits h % (mask+1),bits h)
 | r+1=>leap mask (lp mask h r).1 (lp mask h r).2
theorem aau (mask i:Nat) (h:i<=mask):i<=runEnd mask i/\runEnd mask i<=mask/\runEnd mask i - i<=9:=by
 unfold runEnd
 split <;> omega
theorem aex (mask:Nat) (h:Int):∀ r,(lp mask h r).1<=mask
 | 0=>atk.mp (Nat.mod_lt _ (atr _))
 | r+1=>atk.mp (Nat.mod_lt _ (atr _))
def At (mask:Nat) (h:Int) (k r d:Nat):Prop:=d<=runEnd mask (lp mask h r).1 - (lp mask h r).1/\road mask h k={ j:=(lp mask h r).1+d,more:=runEnd mask (lp mask h r).1 - (lp mask h r).1 - d,i:=(lp mask h r).1,perturb:=(lp mask h r).2,dummy:=none }
theorem adC (mask:Nat) (h:Int):At mask h 0 0 0:=⟨aqu _,rfl⟩
theorem agR {mask:Nat} {h:Int} {k r d:Nat} (a:At mask h k r d) (hd:d<runEnd mask (lp mask h r).1 - (lp mask h r).1):At mask h (k+1) r (d+1):=by
 obtain⟨a1,a2⟩:=a
 refine⟨hd,?_⟩
 unfold road
 rw [a2]
 simp only
 rw [if_pos (by omega)]
 simp only [Probe.mk.injEq,and_true]
 omega
theorem adD {mask:Nat} {h:Int} {k r d:Nat} (a:At mask h k r d) (hd:d=runEnd mask (lp mask h r).1 - (lp mask h r).1):At mask h (k+1) (r+1) 0:=by
 obtain⟨a1,a2⟩:=a
 refine⟨aqu _,?_⟩
 unfold road
 rw [a2]
 simp only
 rw [if_neg (by omega)]
 rfl
theorem adE {mask:Nat} {h:Int} {k r:Nat} (a:At mask h k r 0):∀ d,d<=runEnd mask (lp mask h r).1 - (lp mask h r).1->At mask h (k+d) r d
 | 0,_=>a
 | d+1,hd=>agR (adE a d (by omega)) (by omega)
theorem aey (mask:Nat) (h:Int):∀ r,∃ k,k<=10 * r/\At mask h k r 0
 | 0=>⟨0,apY _,adC mask h⟩
 | r+1=>by
  obtain⟨k,hk,a⟩:=aey mask h r
  have:=(aau mask _ (aex mask h r)).2.2
  exact⟨_,by omega,adD (adE a _ (apY _)) rfl⟩
theorem ajD (mask:Nat) (h:Int):∀ k,∃ r d,At mask h k r d
 | 0=>⟨0,0,adC mask h⟩
 | k+1=>by
  obtain⟨r,d,a⟩:=ajD mask h k
  by_cases e:d<runEnd mask (lp mask h r).1 - (lp mask h r).1
  ·exact⟨r,d+1,agR a e⟩
  ·exact⟨r+1,0,adD a (Nat.le_antisymm a.1 (by omega))⟩
theorem adF (mask:Nat) (h:Int) (k:Nat):pos mask h k<=mask:=by
 obtain⟨r,d,a1,a2⟩:=ajD mask h k
 unfold pos
 rw [a2]
 have:=aau mask _ (aex mask h r)
 show (lp mask h r).1+d<=mask
 omega
def stp (m i:Nat):Nat:=(i * 5+1) % m
def itr (m:Nat):Nat->Nat->Nat
 | 0,i=>i
 | r+1,i=>stp m (itr m r i)
theorem v3 (m:Nat) (a:Nat):∀ b i,itr m (a+b) i=itr m b (itr m a i)
 | 0,i=>rfl
 | b+1,i=>by show stp m (itr m (a+b) i)=stp m (itr m b (itr m a i));rw [v3 m a b i]
def orb (m:Nat):Nat->Nat->List Nat
 | 0,_=>[]
 | f+1,i=>i :: orb m f (stp m i)
theorem ajE (m:Nat):∀ f i r,r<f->(orb m f i)[r]?=some (itr m r i)
 | 0,_,_,h=>absurd h (ari _)
 | f+1,i,0,_=>rfl
 | f+1,i,r+1,h=>by
  show (orb m f (stp m i))[r]?=_
  rw [ajE m f (stp m i) r (by omega),show r+1=1+r by omega,v3 m 1 r i]
  rfl
def jI (m:Nat):Bool:=(aqb m).all (fun j=>(orb m m 0).contains j) && itr m m 0 == 0
theorem agS:jI 8=true:=by decide +kernel
theorem aez:jI 32=true:=by decide +kernel
theorem acK:jI 128=true:=by decide +kernel
theorem acL:jI 512=true:=by decide +kernel
theorem adG (m:Nat):∀ f i,(orb m f i).length=f
 | 0,_=>rfl
 | f+1,i=>by show (orb m f (stp m i)).length+1=f+1;rw [adG m f]
theorem aeA {m:Nat} (h:jI m=true) {j:Nat} (hj:j<m):∃ r,r<m/\itr m r 0=j:=by
 unfold jI at h
 rw [ap3] at h
 have:=aqX.mp h.1 j (aqk.mpr hj)
 have hm:j∈orb m m 0:=by simpa using this
 obtain⟨r,hr,e⟩:=aq8 hm
 rw [adG] at hr
 have e2:=ajE m m 0 r hr
 rw [apO (by rw [adG];exact hr),e] at e2
 exact⟨r,hr,(Option.some.inj e2).symm⟩
theorem agT {m:Nat} (h:jI m=true) {i j:Nat} (hi:i<m) (hj:j<m):∃ r,r<m/\itr m r i=j:=by
 obtain⟨a,ha,ea⟩:=aeA h hi
 obtain⟨b,hb,eb⟩:=aeA h hj
 have e0:itr m m 0=0:=by
  unfold jI at h
  rw [ap3] at h
  exact eq_of_beq h.2
 by_cases hab:a<=b
 ·exact⟨b - a,by omega,by rw [<-ea,<- v3,show a+(b - a)=b by omega];exact eb⟩
 ·refine⟨m - a+b,by omega,?_⟩
  rw [<-ea,<- v3,show a+(m - a+b)=m+b by omega,v3,e0]
  exact eb
theorem agU (mask:Nat) (h:Int):∀ r,(lp mask h r).2=bits h / 32 ^ r
 | 0=>by simp [lp]
 | r+1=>by
  show (lp mask h r).2 / 32=_
  rw [agU mask h r,Nat.div_div_eq_div_mul,Nat.pow_succ]
theorem alz (h:Int):bits h<2 ^ 64:=by
 unfold bits
 have:=arF h (show (0:Int)<2 ^ 64 by decide)
 have:=asO h (show (2 ^ 64:Int)≠0 by decide)
 omega
theorem alA (mask:Nat) (h:Int) (r:Nat) (hr:13<=r):(lp mask h r).2=0:=by
 rw [agU]
 refine Nat.div_eq_of_lt (aqq (alz h) ?_)
 exact aqn (show 2 ^ 64<=32 ^ 13 by decide) (Nat.pow_le_pow_right (by decide) hr)
theorem afJ (mask:Nat) (h:Int):∀ r,(lp mask h (13+r)).1=itr (mask+1) r (lp mask h 13).1
 | 0=>rfl
 | r+1=>by
  show (leap mask (lp mask h (13+r)).1 (lp mask h (13+r)).2).1=stp (mask+1) (itr (mask+1) r (lp mask h 13).1)
  rw [alA mask h (13+r) (by omega),afJ mask h r]
  rfl
theorem ajF {mask:Nat} (g:jI (mask+1)=true) (h:Int) {j:Nat} (hj:j<=mask):∃ k,k<10 * turns mask/\pos mask h k=j:=by
 obtain⟨r,hr,e⟩:=agT g (i:=(lp mask h 13).1) (j:=j) (asZ (aex mask h 13)) (asZ hj)
 obtain⟨k,hk,a1,a2⟩:=aey mask h (13+r)
 refine⟨k,by unfold turns;omega,?_⟩
 unfold pos
 rw [a2]
 show (lp mask h (13+r)).1+0=j
 rw [afJ,e]
 rfl
end L2.ST
end
section
namespace L2.ST
open PySem PySem.SetTable
structure TB (t:SetTable) (hs:List Int):Prop where
 mask:t.mask=7 \/ t.mask=31 \/ t.mask=127 \/ t.mask=511
 dum:t.dummies=#[]
 rise:aew t.place
 le:∀ i,i<t.place.size->t.place.getD i 0<=t.mask
 size:t.place.size=hs.length
 most:hs.length<=t.mask
 reach:∀ i,i<hs.length->∃ k,pos t.mask (hs.getD i 0) k=t.place.getD i 0/\∀ k',k'<k->Tk t (pos t.mask (hs.getD i 0) k')
structure TOk (t:SetTable) (hs:List Int):Prop extends TB t hs where
 room:hs.length * 5<t.mask * 3
theorem ajG {t:SetTable} {hs:List Int} (o:TB t hs):jI (t.mask+1)=true:=by
 rcases o.mask with e | e | e | e <;> rw [e]
 ·exact agS
 ·exact aez
 ·exact acK
 ·exact acL
theorem ah1 {t:SetTable} (r:aew t.place) (hs:t.place.size<=t.mask):∃ j,j<=t.mask/\¬ Tk t j:=by
 refine aqS fun no=>?_
 have all:∀ j,j<=t.mask->Tk t j:=fun j hj=>aqS fun z=>no ⟨j,hj,z⟩
 have up:∀ j,j<=t.mask->j<=below t.place j/\below t.place j<t.place.size:=fun j=>by
  induction j with
  | zero =>
   intro hj
   obtain⟨i,hi,e⟩:=all 0 hj
   have:=below_at r hi
   rw [e] at this
   exact⟨aqu _,by omega⟩
  | succ j ih =>
   intro hj
   obtain⟨i,hi,e⟩:=all (j+1) hj
   obtain⟨i',hi',e'⟩:=all j (by omega)
   have b1:=below_at r hi
   have b2:=below_at r hi'
   rw [e] at b1
   rw [e'] at b2
   have lt:i'<i:=by
    by_cases h:i'<i
    ·exact h
    ·by_cases h2:i'=i
     ·subst h2;omega
     ·have:=r i i' (by omega) hi';omega
   have:=ih (by omega)
   omega
 have:=up t.mask (apY _)
 omega
structure First (t:SetTable) (h:Int) (E:Nat):Prop where
 lt:E<10 * turns t.mask
 free:¬ Tk t (pos t.mask h E)
 ahead:∀ k,k<E->Tk t (pos t.mask h k)
theorem least {p:Nat->Prop}:∀ n,p n->∃ m,m<=n/\p m/\∀ k,k<m->¬ p k:=fun n=>by
 induction n using Nat.strongRecOn with
 | ind n ih =>
  intro h
  by_cases q:∃ k,k<n/\p k
  ·obtain⟨k,hk,pk⟩:=q
   obtain⟨m,a,b⟩:=ih k hk pk
   exact⟨m,by omega,b⟩
  ·exact⟨n,apY _,h,fun k hk z=>q ⟨k,hk,z⟩⟩
theorem ah2 {t:SetTable} (g:jI (t.mask+1)=true) (r:aew t.place) (hs:t.place.size<=t.mask) (h:Int):∃ E,First t h E:=by
 obtain⟨j,hj,nj⟩:=ah1 r hs
 obtain⟨k,hk,e⟩:=ajF g h hj
 obtain⟨m,a,b,c⟩:=least (p:=fun k=>¬ Tk t (pos t.mask h k)) k (by show ¬ Tk t (pos t.mask h k);rw [e];exact nj)
 exact⟨m,by omega,b,fun q hq=>aqS (c q hq)⟩
theorem first_of {t:SetTable} {hs:List Int} (o:TB t hs) (h:Int):∃ E,First t h E:=ah2 (ajG o) o.rise (by have:=o.size;have:=o.most;omega) h
theorem probe_go {t:SetTable} (d:t.dummies=#[]) (r:aew t.place) {hashAt:Nat->Int} {h:Int} {E:Nat} (F:First t h E):∀ f k,k<=E->E<k+f ->
  (probe.go t hashAt h f (road t.mask h k)=some (.empty (pos t.mask h E) none)/\∀ q i,k<=q->q<E->i<t.place.size->pos t.mask h q=t.place.getD i 0->hashAt i≠h) \/
  ∃ q i,k<=q/\q<E/\i<t.place.size/\pos t.mask h q=t.place.getD i 0/\hashAt i=h/\probe.go t hashAt h f (road t.mask h k)=some (.candidate (pos t.mask h q) i (road t.mask h (q+1)))/\∀ q' i',k<=q'->q'<q->i'<t.place.size->pos t.mask h q'=t.place.getD i' 0->hashAt i'≠h
 | 0,k,h1,h2=>by omega
 | f+1,k,h1,h2=>by
  unfold probe.go
  by_cases e:k=E
  ·subst e
   refine .inl ⟨?_,fun q i a b=>by omega⟩
   rw [ah0 d F.free]
   show some (Met.empty _ _)=_
   rw [vS]
  ·obtain⟨i,hi,ei⟩:=F.ahead k (by omega)
   have sl:t.slot (road t.mask h k).j=.live i:=by
    have:=slot_live r hi
    rw [ei] at this
    exact this
   rw [sl]
   show (if (hashAt i == h)=true then _ else _:Option Met)=_/\_ \/ _
   have uniq:∀ i',i'<t.place.size->pos t.mask h k=t.place.getD i' 0->i'=i:=fun i' hi' e'=>by
    have b1:=below_at r hi
    have b2:=below_at r hi'
    rw [ei] at b1
    rw [<-e'] at b2
    omega
   by_cases hh:(hashAt i == h)=true
   ·rw [if_pos hh]
    refine .inr ⟨k,i,apY _,by omega,hi,ei.symm,eq_of_beq hh,?_,fun q' i' a b=>by omega⟩
    show (if (hashAt i == h)=true then _ else _:Option Met)=_
    rw [if_pos hh]
    rfl
   ·rw [if_neg hh]
    have hne:hashAt i≠h:=fun z=>hh (by rw [z];exact beq_self_eq_true _)
    rcases probe_go d r (hashAt:=hashAt) F f (k+1) (by omega) (by omega) with⟨a,b⟩ | ⟨q,i2,a1,a2,a3,a4,a5,a6,a7⟩
    ·refine .inl ⟨a,fun q i' c1 c2 c3 c4=>?_⟩
     by_cases eq:q=k
     ·subst eq;rw [uniq i' c3 c4];exact hne
     ·exact b q i' (by omega) c2 c3 c4
    ·refine .inr ⟨q,i2,by omega,a2,a3,a4,a5,?_,fun q' i' c1 c2 c3 c4=>?_⟩
     ·show (if (hashAt i == h)=true then _ else _:Option Met)=_
      rw [if_neg hh]
      exact a6
     ·by_cases eq:q'=k
      ·subst eq;rw [uniq i' c3 c4];exact hne
      ·exact a7 q' i' (by omega) c2 c3 c4
end L2.ST
end
section
namespace L2.ST
open PySem PySem.SetTable
theorem v5 {α:Type} (xs:Array α) (i:Nat) (d:α):xs.getD i d=xs.toList.getD i d:=by
 by_cases h:i<xs.size <;> simp [ar4,h,List.getD]
theorem aeB {α:Type} (l:List α) (p:Nat) (x d:α) (hp:p<=l.length) (i:Nat):(l.take p++x :: l.drop p).getD i d=if i<p then l.getD i d else if i=p then x else l.getD (i - 1) d:=by
 have lt:(l.take p).length=p:=by rw [aqD];omega
 by_cases h1:i<p
 ·rw [if_pos h1,apR,ap1 (by omega),asK h1,apR]
 ·rw [if_neg h1,apR,ap2 (by omega),lt]
  by_cases h2:i=p
  ·rw [if_pos h2,h2,arz]
   rfl
  ·rw [if_neg h2,show i - p=(i - p - 1)+1 by omega,List.getElem?_cons_succ,asP,show p+(i - p - 1)=i - 1 by omega,apR]
section
variable {t:SetTable} {hs:List Int} {h:Int} {E:Nat}
theorem put_tb (o:TB t hs) (F:First t h E) (more:hs.length+1<=t.mask):below t.place (pos t.mask h E)<=hs.length/\TB (t.put (pos t.mask h E)).1 (hs.take (below t.place (pos t.mask h E))++h :: hs.drop (below t.place (pos t.mask h E))):=by
 obtain⟨b1,b2,b3⟩:=below_ok o.rise (pos t.mask h E)
 have sz:=o.size
 generalize hp:below t.place (pos t.mask h E)=p at *
 have hpl:p<=t.place.toList.length:=by rw [ap4];exact b1
 have pl:∀ i,(t.put (pos t.mask h E)).1.place.getD i 0=if i<p then t.place.getD i 0 else if i=p then pos t.mask h E else t.place.getD (i - 1) 0:=fun i=>by
  show (insertAt t.place (below t.place (pos t.mask h E)) (pos t.mask h E)).getD i 0=_
  rw [hp,v5,ar5,aeB _ _ _ _ hpl,v5,v5]
 have psz:(t.put (pos t.mask h E)).1.place.size=t.place.size+1:=by
  show (insertAt t.place (below t.place (pos t.mask h E)) (pos t.mask h E)).size=_
  rw [<-ap4,ar5,hp,aqa,ap8,aqD,asC,ap4]
  omega
 have ne:∀ i,i<t.place.size->t.place.getD i 0≠pos t.mask h E:=fun i hi e=>F.free ⟨i,hi,e⟩
 have b3':∀ i,p<=i->i<t.place.size->pos t.mask h E<t.place.getD i 0:=fun i a b=>by
  have:=b3 i a b
  have:=ne i b
  omega
 have hm:(t.put (pos t.mask h E)).1.mask=t.mask:=rfl
 have tk:∀ j,Tk t j->Tk (t.put (pos t.mask h E)).1 j:=fun j ⟨i,hi,e⟩=>by
  by_cases q:i<p
  ·exact⟨i,by omega,by rw [pl,if_pos q];exact e⟩
  ·exact⟨i+1,by omega,by rw [pl,if_neg (by omega),if_neg (by omega),asQ];exact e⟩
 have hl:∀ i,(hs.take p++h :: hs.drop p).getD i 0=if i<p then hs.getD i 0 else if i=p then h else hs.getD (i - 1) 0:=fun i=>aeB hs p h 0 (by omega) i
 have ln:(hs.take p++h :: hs.drop p).length=hs.length+1:=by
  rw [aqa,ap8,aqD,asC]
  omega
 refine⟨by omega,⟨o.mask,?_,fun i j hij hj=>?_,fun i hi=>?_,by rw [psz,ln,sz],by rw [ln,hm];exact more,fun i hi=>?_⟩⟩
 ·show (if has t.dummies (pos t.mask h E)=true then _ else t.dummies)=#[]
  rw [o.dum]
  rfl
 ·rw [pl,pl]
  rw [psz] at hj
  by_cases c1:i<p
  ·rw [if_pos c1]
   by_cases c2:j<p
   ·rw [if_pos c2];exact o.rise i j hij (by omega)
   ·rw [if_neg c2]
    by_cases c3:j=p
    ·rw [if_pos c3];exact b2 i c1
    ·rw [if_neg c3];exact o.rise i (j - 1) (by omega) (by omega)
  ·rw [if_neg c1,if_neg (show ¬ j<p by omega)]
   by_cases c3:i=p
   ·rw [if_pos c3,if_neg (by omega)];exact b3' (j - 1) (by omega) (by omega)
   ·rw [if_neg c3,if_neg (by omega)];exact o.rise (i - 1) (j - 1) (by omega) (by omega)
 ·rw [pl,hm]
  rw [psz] at hi
  by_cases c1:i<p
  ·rw [if_pos c1];exact o.le i (by omega)
  ·rw [if_neg c1]
   by_cases c3:i=p
   ·rw [if_pos c3];exact adF _ _ _
   ·rw [if_neg c3];exact o.le (i - 1) (by omega)
 ·rw [hl,pl,hm]
  rw [ln] at hi
  by_cases c1:i<p
  ·rw [if_pos c1,if_pos c1]
   obtain⟨k,e,a⟩:=o.reach i (by omega)
   exact⟨k,e,fun k' hk=>tk _ (a k' hk)⟩
  ·rw [if_neg c1,if_neg c1]
   by_cases c3:i=p
   ·rw [if_pos c3,if_pos c3]
    exact⟨E,rfl,fun k' hk=>tk _ (F.ahead k' hk)⟩
   ·rw [if_neg c3,if_neg c3]
    obtain⟨k,e,a⟩:=o.reach (i - 1) (by omega)
    exact⟨k,e,fun k' hk=>tk _ (a k' hk)⟩
end
def Occ (ow:Array (Option Nat)) (j:Nat):Prop:=ow.getD j (some 0)≠none
theorem agV {mask:Nat} {ow:Array (Option Nat)} {h:Int}:∀ f r k,At mask h k r 0->(∃ r',r<=r'/\r'<r+f/\¬ Occ ow (lp mask h r').1) ->
  ∃ E,k<=E/\(∀ q,k<=q->q<E->Occ ow (pos mask h q))/\¬ Occ ow (pos mask h E)/\layClean.free mask ow f (lp mask h r).1 (lp mask h r).2=some (pos mask h E)
 | 0,r,k,a,⟨r',h1,h2,_⟩=>by omega
 | f+1,r,k,a,⟨r',h1,h2,h3⟩=>by
  have re:=aau mask _ (aex mask h r)
  have at_:∀ d,d<=runEnd mask (lp mask h r).1 - (lp mask h r).1->pos mask h (k+d)=(lp mask h r).1+d:=fun d hd=>by
   have:=(adE a d hd).2
   unfold pos
   rw [this]
  unfold layClean.free
  cases hf:(aqb (runEnd mask (lp mask h r).1+1 - (lp mask h r).1)).find? fun k=>(ow.getD ((lp mask h r).1+k) (some 0)).isNone with
  | some d =>
   have hm:=List.mem_of_find?_eq_some hf
   have hd:=aqk.mp hm
   have hs:=List.find?_some hf
   have bef:∀ d',d'<d->¬ (ow.getD ((lp mask h r).1+d') (some 0)).isNone=true:=fun d' hd'=>by
    obtain⟨_,as,bs,e,al⟩:=List.find?_eq_some_iff_append.mp hf
    have:as=aqb d:=by
     have l1:(aqb (runEnd mask (lp mask h r).1+1 - (lp mask h r).1))[as.length]?=some d:=by
      rw [e,ap2 (apY _),arz]
      rfl
     have lt:as.length<runEnd mask (lp mask h r).1+1 - (lp mask h r).1:=by
      have:=congrArg auN e
      simp at this
      omega
     rw [aqx lt] at l1
     have el:as.length=d:=Option.some.inj l1
     have:as=(aqb (runEnd mask (lp mask h r).1+1 - (lp mask h r).1)).take as.length:=by
      rw [e,List.take_append_of_le_length (apY _),aqy]
     rw [this,List.take_range,Nat.min_eq_left (by omega),el]
    have al2:=al d' (by rw [this];exact aqk.mpr hd')
    intro z
    have z2:(!(ow.getD ((lp mask h r).1+d') (some 0)).isNone)=true:=al2
    rw [z] at z2
    cases z2
   refine⟨k+d,by omega,fun q hq1 hq2=>?_,?_,?_⟩
   ·have:=bef (q - k) (by omega)
    rw [show q=k+(q - k) by omega,at_ (q - k) (by omega)]
    intro z
    rw [z] at this
    exact this rfl
   ·rw [at_ d (by omega)]
    intro z
    have hs':(ow.getD ((lp mask h r).1+d) (some 0)).isNone=true:=hs
    exact z (Option.isNone_iff_eq_none.mp hs')
   ·rw [at_ d (by omega)]
  | none =>
   have all:∀ d,d<runEnd mask (lp mask h r).1+1 - (lp mask h r).1->Occ ow ((lp mask h r).1+d):=fun d hd z=>by
    have:=List.find?_eq_none.mp hf d (aqk.mpr hd)
    simp [z] at this
   have ne:r'≠r:=fun z=>by
    rw [z] at h3
    exact h3 (by have:=all 0 (by omega);rwa [Nat.add_zero] at this)
   have a2:=adD (adE a _ (apY _)) rfl
   obtain⟨E,e1,e2,e3,e4⟩:=agV f (r+1) _ a2 ⟨r',by omega,by omega,h3⟩
   refine⟨E,by omega,fun q hq1 hq2=>?_,e3,e4⟩
   by_cases hq:q<k+(runEnd mask (lp mask h r).1 - (lp mask h r).1)+1
   ·rw [show q=k+(q - k) by omega,at_ (q - k) (by omega)]
    exact all _ (by omega)
   ·exact e2 q (by omega) hq2
end L2.ST
end
section
namespace L2.ST
open PySem PySem.SetTable
structure OwnT (mask:Nat) (ow:Array (Option Nat)) (hs:List Int) (sl:List Nat):Prop where
 size:ow.size=mask+1
 len:sl.length=hs.length
 nd:sl.Nodup
 le:∀ j∈sl,j<=mask
 own:∀ j,j<=mask->∀ i,ow.getD j none=some i↔sl[i]?=some j
 reach:∀ i,i<hs.length->∃ q,pos mask (hs.getD i 0) q=sl.getD i 0/\∀ q',q'<q->pos mask (hs.getD i 0) q'∈sl
theorem OwnT.occ {mask:Nat} {ow:Array (Option Nat)} {hs:List Int} {sl:List Nat} (o:OwnT mask ow hs sl) {j:Nat} (hj:j<=mask):Occ ow j↔j∈sl:=by
 have hs':j<ow.size:=by rw [o.size];omega
 have e:ow.getD j (some 0)=ow.getD j none:=by simp [ar4,hs']
 unfold Occ
 rw [e]
 constructor
 ·intro h
  obtain⟨i,hi⟩:=Option.ne_none_iff_exists'.mp h
  exact apZ ((o.own j hj i).mp hi)
 ·intro h z
  obtain⟨i,hi,e2⟩:=aq8 h
  have:=(o.own j hj i).mpr (by rw [apO hi,e2])
  rw [z] at this
  cases this
def agW (mask:Nat):Option (Array (Option Nat)×Nat)->Int->Option (Array (Option Nat)×Nat):=fun acc h=>do
  let (owner,k) <- acc
  let j <- layClean.free mask owner (turns mask) (bits h % (mask+1)) (bits h)
  pure (owner.setIfInBounds j (some k),k+1)
theorem ajH {mask:Nat} (g:jI (mask+1)=true) {ow:Array (Option Nat)} {hs:List Int} {sl:List Nat} (o:OwnT mask ow hs sl) (hm:hs.length<=mask) (h:Int) :
  ∃ ow' sl',agW mask (some (ow,hs.length)) h=some (ow',hs.length+1)/\OwnT mask ow' (hs++[h]) sl':=by
 obtain⟨j,hj,nj⟩:∃ j,j<=mask/\j∉sl:=by
  refine aqS fun no=>?_
  have sub:aqb (mask+1) ⊆ sl:=fun j hj=>aqS fun z=>no ⟨j,atk.mp (aqk.mp hj),z⟩
  have:=List.Nodup.length_le_of_subset at5 sub
  rw [aqg,o.len] at this
  omega
 obtain⟨r,hr,e⟩:=agT g (i:=(lp mask h 13).1) (j:=j) (asZ (aex mask h 13)) (asZ hj)
 obtain⟨E,_,e2,e3,e4⟩:=agV (ow:=ow) (turns mask) 0 0 (adC mask h) ⟨13+r,aqu _,by unfold turns;omega,by rw [afJ,e,o.occ hj];exact nj⟩
 have e3':pos mask h E∉sl:=fun z=>e3 ((o.occ (adF mask h E)).mpr z)
 have e2':∀ q,q<E->pos mask h q∈sl:=fun q hq=>(o.occ (adF mask h q)).mp (e2 q (aqu _) hq)
 have e4':layClean.free mask ow (turns mask) (bits h % (mask+1)) (bits h)=some (pos mask h E):=e4
 refine⟨ow.setIfInBounds (pos mask h E) (some hs.length),sl++[pos mask h E],?_,?_⟩
 ·show (layClean.free mask ow (turns mask) (bits h % (mask+1)) (bits h) >>= fun j=>pure (ow.setIfInBounds j (some hs.length),hs.length+1))=_
  rw [e4']
  rfl
 ·have ls:∀ i,(sl++[pos mask h E])[i]?=if i<sl.length then sl[i]? else if i=sl.length then some (pos mask h E) else none:=fun i=>by
   by_cases c:i<sl.length
   ·rw [if_pos c,ap1 c]
   ·rw [if_neg c,ap2 (by omega)]
    by_cases c2:i=sl.length
    ·rw [if_pos c2,c2,arz];rfl
    ·rw [if_neg c2];exact aqc (by simp;omega)
  refine⟨by rw [Array.size_setIfInBounds];exact o.size,by simp [o.len],?_,fun j hj=>?_,fun j hj i=>?_,fun i hi=>?_⟩
  ·rw [aqY]
   refine⟨o.nd,by simp,fun a ha b hb=>?_⟩
   rw [aqj.mp hb]
   intro z
   rw [z] at ha
   exact e3' ha
  ·rcases aqh.mp hj with hj | hj
   ·exact o.le j hj
   ·rw [aqj.mp hj];exact adF _ _ _
  ·have hsz:j<ow.size:=by rw [o.size];omega
   rw [ls]
   by_cases c:j=pos mask h E
   ·subst c
    have:(ow.setIfInBounds (pos mask h E) (some hs.length)).getD (pos mask h E) none=some hs.length:=by simp [ar4,hsz]
    rw [this]
    constructor
    ·intro z
     have z':hs.length=i:=Option.some.inj z
     rw [if_neg (by rw [o.len];omega),if_pos (by rw [o.len];omega)]
    ·intro z
     by_cases c2:i<sl.length
     ·rw [if_pos c2] at z
      exact absurd (apZ z) e3'
     ·rw [if_neg c2] at z
      by_cases c3:i=sl.length
      ·rw [c3,o.len]
      ·rw [if_neg c3] at z;cases z
   ·have:(ow.setIfInBounds (pos mask h E) (some hs.length)).getD j none=ow.getD j none:=by
     rw [arS,arS,Array.getElem?_setIfInBounds_ne (arw c)]
    rw [this,o.own j hj i]
    by_cases c2:i<sl.length
    ·rw [if_pos c2]
    ·rw [if_neg c2]
     constructor
     ·intro z
      rw [aqc (by omega)] at z
      cases z
     ·intro z
      by_cases c3:i=sl.length
      ·rw [if_pos c3] at z
       exact absurd (Option.some.inj z).symm c
      ·rw [if_neg c3] at z;cases z
  ·have gl:∀ i,(hs++[h]).getD i 0=if i<hs.length then hs.getD i 0 else if i=hs.length then h else 0:=fun i=>by
    by_cases c:i<hs.length
    ·rw [if_pos c,apR,ap1 c,apR]
    ·rw [if_neg c,apR,ap2 (by omega)]
     by_cases c2:i=hs.length
     ·rw [if_pos c2,c2,arz];rfl
     ·rw [if_neg c2,aqc (by simp;omega)];rfl
   rw [aqa,aqT] at hi
   have gs:(sl++[pos mask h E]).getD i 0=((sl++[pos mask h E])[i]?).getD 0:=apR ..
   rw [gl,gs,ls]
   by_cases c:i<hs.length
   ·rw [if_pos c,if_pos (by rw [o.len];exact c)]
    obtain⟨q,a,b⟩:=o.reach i c
    exact⟨q,by rw [<-apR];exact a,fun q' hq=>arq _ (b q' hq)⟩
   ·rw [if_neg c,if_pos (by omega),if_neg (by rw [o.len];omega),if_pos (by rw [o.len];omega)]
    exact⟨E,rfl,fun q' hq=>arq _ (e2' q' hq)⟩
theorem agX {mask:Nat} (g:jI (mask+1)=true):∀ (l:List Int) (ow:Array (Option Nat)) (hs:List Int) (sl:List Nat),OwnT mask ow hs sl->hs.length+l.length<=mask+1 ->
  ∃ ow' sl',l.foldl (agW mask) (some (ow,hs.length))=some (ow',hs.length+l.length)/\OwnT mask ow' (hs++l) sl'
 | [],ow,hs,sl,o,_=>⟨ow,sl,rfl,by rw [aqG];exact o⟩
 | h :: l,ow,hs,sl,o,hm=>by
  rw [ap8] at hm
  obtain⟨ow1,sl1,e1,o1⟩:=ajH g o (by omega) h
  obtain⟨ow2,sl2,e2,o2⟩:=agX g l ow1 (hs++[h]) sl1 o1 (by rw [aqa,aqT];omega)
  refine⟨ow2,sl2,?_,by rw [aq1] at o2;exact o2⟩
  rw [List.foldl_cons,e1]
  rw [aqa,aqT] at e2
  rw [e2,ap8,atW,auK 1]
theorem alB (mask:Nat):OwnT mask (atl (mask+1) none) [] [] where
 size:=by simp
 len:=rfl
 nd:=.nil
 le:=fun _ h=>nomatch h
 own:=fun j hj i=>by
  have:(atl (mask+1) (none:Option Nat)).getD j none=none:=by simp [ar4]
  rw [this]
  constructor <;> intro z <;> cases z
 reach:=fun i hi=>absurd hi (ari _)
theorem ajI {mask:Nat} (g:jI (mask+1)=true) (hs:Array Int) (hm:hs.size<=mask+1):∃ ow sl,layClean mask hs=some ow/\OwnT mask ow hs.toList sl:=by
 obtain⟨ow,sl,e,o⟩:=agX g hs.toList _ [] [] (alB mask) (by simpa using hm)
 refine⟨ow,sl,?_,by simpa using o⟩
 unfold layClean
 rw [<-Array.foldl_toList]
 have:hs.toList.foldl (agW mask) (some (atl (mask+1) none,0))=some (ow,0+hs.toList.length):=e
 show Option.map _ (hs.toList.foldl (agW mask) (some (atl (mask+1) none,0)))=_
 rw [this]
 rfl
theorem laid_ok {mask:Nat} (mk:mask=7 \/ mask=31 \/ mask=127 \/ mask=511) (hs:Array Int) (hm:hs.size<=mask) (finger moves:Nat) (led plain:Bool) :
  ∃ t ord,laid mask finger moves led plain hs=some (t,ord)/\t.mask=mask/\t.plain=plain/\t.led=led/\ord.toList.Perm (aqb hs.size)/\TB t (ord.toList.map fun i=>hs.toList.getD i 0):=by
 have g:jI (mask+1)=true:=by
  rcases mk with rfl | rfl | rfl | rfl
  ·exact agS
  ·exact aez
  ·exact acK
  ·exact acL
 obtain⟨ow,sl,e,o⟩:=ajI g hs (by omega)
 let live:=(aqb (mask+1)).filterMap fun j=>(ow.getD j none).map (j,·)
 have mem:∀ p:Nat×Nat,p∈live↔p.1<=mask/\sl[p.2]?=some p.1:=fun⟨j,i⟩=>by
  show (j,i)∈List.filterMap _ _↔_
  rw [atw]
  constructor
  ·rintro⟨j',hj,e⟩
   have hj':=atk.mp (aqk.mp hj)
   cases e2:ow.getD j' none with
   | none=>rw [e2] at e;cases e
   | some i' =>
    rw [e2] at e
    cases e
    exact⟨hj',(o.own _ hj' _).mp e2⟩
  ·rintro⟨h1,h2⟩
   refine⟨j,aqk.mpr (by omega),?_⟩
   rw [(o.own j h1 i).mpr h2]
   rfl
 have up:(live.map (·.1)).Pairwise (·<·):=by
  rw [arb]
  show (List.filterMap _ _).Pairwise _
  rw [List.pairwise_filterMap]
  refine List.pairwise_lt_range.imp fun {a b} hab p hp q hq=>?_
  cases e1:ow.getD a none with
  | none=>rw [e1] at hp;cases hp
  | some i =>
   cases e2:ow.getD b none with
   | none=>rw [e2] at hq;cases hq
   | some i2 =>
    rw [e1] at hp
    rw [e2] at hq
    cases hp
    cases hq
    exact hab
 have nd2:(live.map (·.2)).Nodup:=by
  show List.Pairwise _ _
  rw [arb]
  have u2:=arb.mp up
  refine u2.imp_of_mem fun {p q} hp hq hlt hz=>?_
  have a1:=((mem p).mp hp).2
  have a2:=((mem q).mp hq).2
  rw [hz,a2] at a1
  have:=Option.some.inj a1
  omega
 have pm:(live.map (·.2)).Perm (aqb hs.size):=by
  refine (List.perm_ext_iff_of_nodup nd2 at5).mpr fun i=>?_
  have ls:sl.length=hs.size:=by rw [o.len,ap4]
  constructor
  ·intro hi
   obtain⟨p,hp,rfl⟩:=aqd.mp hi
   have:=(apS.mp ((mem p).mp hp).2).1
   exact aqk.mpr (by omega)
  ·intro hi
   have hi':=aqk.mp hi
   have hl:i<sl.length:=by omega
   exact aqd.mpr ⟨(sl[i],i),(mem _).mpr ⟨o.le _ (aqo hl),apO hl⟩,rfl⟩
 refine⟨_,_,by unfold laid;rw [e];rfl,rfl,rfl,rfl,pm,?_⟩
 have ln:live.length=hs.size:=by have:=pm.length_eq;rwa [apP,aqg] at this
 have tk:∀ j,j∈sl->∃ i,i<live.length/\(live.map (·.1)).getD i 0=j:=fun j hj=>by
  obtain⟨i,hi,e2⟩:=aq8 hj
  have:(j,i)∈live:=(mem _).mpr ⟨o.le j hj,by rw [apO hi,e2]⟩
  obtain⟨q,hq,e3⟩:=aq8 this
  exact⟨q,hq,by rw [apR,apU,apO hq,e3];rfl⟩
 have gd:∀ i,(live.map (·.1)).toArray.getD i 0=(live.map (·.1)).getD i 0:=fun i=>by rw [v5]
 refine⟨mk,rfl,fun i j hij hj=>?_,fun i hi=>?_,?_,?_,fun i hi=>?_⟩
 ·show (live.map (·.1)).toArray.getD i 0<(live.map (·.1)).toArray.getD j 0
  have hj':j<(live.map (·.1)).length:=by
   have h2:j<(live.map (·.1)).toArray.size:=hj
   rwa [ap9] at h2
  rw [gd,gd,apR,apR,apO hj',apO (show i<(live.map (·.1)).length by omega)]
  exact arC.mp up i j (by omega) hj' hij
 ·show (live.map (·.1)).toArray.getD i 0<=mask
  have hi':i<(live.map (·.1)).length:=by
   have h2:i<(live.map (·.1)).toArray.size:=hi
   rwa [ap9] at h2
  rw [gd,apR,apO hi']
  obtain⟨p,hp,e2⟩:=aqd.mp (aqo hi')
  show (live.map (·.1))[i]<=mask
  rw [<-e2]
  exact ((mem p).mp hp).1
 ·show (live.map (·.1)).toArray.size=_
  simp
 ·show (asr _ (live.map (·.2))).length<=mask
  rw [apP,apP,ln]
  exact hm
 ·have hi':i<live.length:=by
   have hi2:i<(asr (fun i=>hs.toList.getD i 0) (live.map (·.2))).length:=hi
   rwa [apP,apP] at hi2
  have pl:(live.map (·.1)).toArray.getD i 0=live[i].1:=by
   rw [gd,apR,apU,apO hi']
   rfl
  have hh:(asr (fun i=>hs.toList.getD i 0) (live.map (·.2))).getD i 0=hs.toList.getD live[i].2 0:=by
   rw [apR,apU,apU,apO hi']
   rfl
  have m2:=(mem live[i]).mp (aqo hi')
  have l2:=(apS.mp m2.2).1
  obtain⟨q,a,b⟩:=o.reach live[i].2 (by rw [<-o.len];exact l2)
  refine⟨q,?_,fun q' hq=>?_⟩
  ·show pos mask ((asr (fun i=>hs.toList.getD i 0) (live.map (·.2))).getD i 0) q=(live.map (·.1)).toArray.getD i 0
   rw [hh,pl,a,apR,m2.2]
   rfl
  ·show Tk _ (pos mask ((asr (fun i=>hs.toList.getD i 0) (live.map (·.2))).getD i 0) q')
   rw [hh]
   obtain⟨z,hz,ez⟩:=tk _ (b q' hq)
   exact⟨z,by show z<(live.map (·.1)).toArray.size;simpa using hz,by show (live.map (·.1)).toArray.getD z 0=_;rw [gd];exact ez⟩
end L2.ST
end
section
namespace L2
open PySem PySem.Spec PyProof.Rows
mutual
def zD (w:World):PyData->Int
 | .int i=>hashInt i
 | .str x=>hashStr w x
 | .tuple xs=>reduceHash (arY (qQ w xs))
 | _=>0
def qQ (w:World):List PyData->List Int
 | []=>[]
 | x :: xs=>zD w x :: qQ w xs
end
mutual
def yd:PyData->Nat
 | .int _=>1
 | .str _=>1
 | .tuple xs=>abC xs+1
 | _=>0
def abC:List PyData->Nat
 | []=>0
 | x :: xs=>yd x+abC xs
end
mutual
theorem abD {P:Program} {w:World}:∀ (d:PyData) (A:Around) (s:Shared) (v:Value) (as:List Addr) (E:Value->Shared->Prop) (Q:Int->Shared->Prop),Reads s.heap v d as->zF d=true->A.units+4 * d.depth<cLine ->
  Q (zD w d) { s with toks:=s.toks+yd d }->wpAny (model P w) A (pyHash v) Q E s
 | .int i,A,s,_,_,E,Q,r,_,_,q=>by
  cases r
  rw [zD,yd] at q
  exact wpAny_pyHash_int q
 | .str x,A,s,_,_,E,Q,r,_,_,q=>by
  cases r
  rw [zD,yd] at q
  exact wpAny_pyHash_str q
 | .tuple xs,A,s,_,_,E,Q,r,p,hu,q=>by
  cases r with
  | @tuple a o vs n _ as h1 h2 h3 h4 =>
   rw [zF] at p
   rw [zD,yd] at q
   have hT:s.TypeIs (.ref a) "tuple":=⟨o,h1,h2⟩
   have e1:(PyData.tuple xs).depth=ap6 xs+1:=rfl
   rw [e1] at hu
   show wpAny _ A (pyHashByItsType (.ref a)) Q E s
   unfold pyHashByItsType
   apply wpAny_bind;apply wpAny_cRoomFor_or (.inr (by omega))
   apply wpAny_bind;apply wpAny_specialOf hT arK.lookup
   show wpAny _ _ (if (some (Value.builtin "tuple.__hash__") == some Value.none)=true then _ else _) Q E s
   rw [if_neg (by rw [beq_builtin_none];exact apQ)]
   apply wpAny_bind;apply wpAny_specialOf hT arK.lookup
   show wpAny _ _ (callSpecialIfBoundUnlessNone? (.ref a) "__hash__" _ >>= _) Q E s
   apply wpAny_bind
   refine wpAny_callSpecialIfBoundUnlessNone?_slot hT arK (wpAny_call_entry arK hT PySem.F.entry_tuple_hash ?_ (PySem.F.args_tuple_hash_1 _))
   show wpAny _ _ (atz (.ref a) >>= _) _ _ s
   apply wpAny_bind;apply wpAny_tupleItemsOf h1 h3
   apply wpAny_bind
   rw [<-asR]
   have hu1:A.in1.units=A.units+1:=rfl
   refine abE xs A.in1 s vs.toList _ #[] _ _ h4 p (by omega) ?_
   simp only [aqG,List.nil_append]
   show wpAny _ _ (retInt (arY (#[]++(qQ w xs).toArray).toList)) _ _ _
   rw [show (#[]++(qQ w xs).toArray:Array Int).toList=qQ w xs by simp]
   refine wpAny_ret_mkInt ?_
   show wpAny _ _ (pyHashByItsType.reduced _) Q E _
   unfold reduceHash at q
   unfold pyHashByItsType.reduced
   by_cases hr:(decide (-(2:Int) ^ 63<=arY (qQ w xs)) && decide (arY (qQ w xs)<2 ^ 63))=true
   ·rw [if_pos hr] at q ⊢
    exact wpAny_pure (by simpa [atW] using q)
   ·rw [if_neg hr] at q ⊢
    exact wpAny_bind (wpAny_rule (wpAny_pure (by simpa [atW] using q)))
 | .none,_,_,_,_,_,_,_,h,_,_=>by cases h
 | .bool _,_,_,_,_,_,_,_,h,_,_=>by cases h
 | .list _,_,_,_,_,_,_,_,h,_,_=>by cases h
 | .dict _,_,_,_,_,_,_,_,h,_,_=>by cases h
theorem abE {P:Program} {w:World}:∀ (xs:List PyData) (A:Around) (s:Shared) (vs:List Value) (as:List Addr) (acc:Array Int) (E:Value->Shared->Prop) (Q:Array Int->Shared->Prop),ReadsAll s.heap vs xs as->zO xs=true->A.units+4 * ap6 xs<cLine ->
  Q (acc++(qQ w xs).toArray) { s with toks:=s.toks+abC xs }->wpAny (model P w) A (forIn vs acc fun x r=>do
   let h <- pyHash x
   pure (ForInStep.yield (r.push h))) Q E s
 | [],A,s,_,_,acc,E,Q,r,_,_,q=>by
  cases r
  rw [asi]
  rw [qQ,abC] at q
  exact wpAny_pure (by simpa using q)
 | x :: xs,A,s,_,_,acc,E,Q,r,p,hu,q=>by
  cases r with
  | cons r1 r2 =>
   rw [zO,ap3] at p
   rw [qQ,abC] at q
   have e1:ap6 (x :: xs)=max x.depth (ap6 xs):=rfl
   rw [e1] at hu
   rw [ar0]
   apply wpAny_bind;apply wpAny_bind
   refine abD x A s _ _ _ _ r1 p.1 (by omega) (wpAny_pure ?_)
   refine abE xs A { s with toks:=s.toks+yd x } _ _ _ _ _ r2 p.2 (by omega) ?_
   have e2:acc.push (zD w x)++(qQ w xs).toArray=acc++(zD w x :: qQ w xs).toArray:=by simp
   rw [e2]
   rw [<-atW] at q
   exact q
end
mutual
theorem jS {P:Program} {w:World}:∀ (d:PyData) (n:Nat) (A:Around) (s:Shared) (v:Value) (as:List Addr) (E:Value->Shared->Prop) (Q:Bool->Shared->Prop),Reads s.heap v d as->zF d=true->d.depth<=n->Q true s->wpAny (model P w) A (eqIsQuiet n v) Q E s
 | .int i,n,A,s,_,_,E,Q,r,_,_,q=>by
  cases r
  rw [eqIsQuiet_byValue n rfl]
  exact wpAny_pure q
 | .str x,n,A,s,_,_,E,Q,r,_,_,q=>by
  cases r
  rw [eqIsQuiet_byValue n rfl]
  exact wpAny_pure q
 | .tuple xs,n,A,s,_,_,E,Q,r,p,hn,q=>by
  cases r with
  | @tuple a o vs n' _ as h1 h2 h3 h4 =>
   rw [zF] at p
   have e1:(PyData.tuple xs).depth=ap6 xs+1:=rfl
   rw [e1] at hn
   obtain⟨m,rfl⟩:∃ m,n=m+1:=⟨n - 1,by omega⟩
   have hT:s.TypeIs (.ref a) "tuple":=⟨o,h1,h2⟩
   unfold eqIsQuiet
   apply wpAny_bind;apply wpAny_specialOf hT PySem.F.slot_tuple_eq.lookup
   show wpAny _ _ (isInstance (.ref a) (.type "tuple") >>= _) _ _ s
   apply wpAny_bind;apply wpAny_isInstance hT isSubtype_tuple_tuple
   simp only [aqt,aqB,if_false]
   apply wpAny_bind;apply wpAny_seqItems h1 h3
   apply wpAny_bind
   show wpAny _ _ (forIn vs _ _) _ _ s
   rw [<-asR]
   exact aaN xs m A s _ _ _ _ h4 p (by omega) (wpAny_pure q)
 | .none,_,_,_,_,_,_,_,_,h,_,_=>by cases h
 | .bool _,_,_,_,_,_,_,_,_,h,_,_=>by cases h
 | .list _,_,_,_,_,_,_,_,_,h,_,_=>by cases h
 | .dict _,_,_,_,_,_,_,_,_,h,_,_=>by cases h
theorem aaN {P:Program} {w:World}:∀ (xs:List PyData) (m:Nat) (A:Around) (s:Shared) (vs:List Value) (as:List Addr) (E:Value->Shared->Prop) (Q:Option Bool×Unit->Shared->Prop),ReadsAll s.heap vs xs as->zO xs=true->ap6 xs<=m->Q (none,()) s ->
  wpAny (model P w) A (forIn vs ((none,()):Option Bool×Unit) fun y _=>do
   let b <- eqIsQuiet m y
   if (!b)=true then pure (ForInStep.done (some false,())) else pure (ForInStep.yield (none,()))) Q E s
 | [],m,A,s,_,_,E,Q,r,_,_,q=>by
  cases r
  rw [asi]
  exact wpAny_pure q
 | x :: xs,m,A,s,_,_,E,Q,r,p,hn,q=>by
  cases r with
  | cons r1 r2 =>
   rw [zO,ap3] at p
   have e1:ap6 (x :: xs)=max x.depth (ap6 xs):=rfl
   rw [e1] at hn
   rw [ar0]
   apply wpAny_bind;apply wpAny_bind
   refine jS x m A s _ _ _ _ r1 p.1 (by omega) ?_
   simp only [aqt,aqB,if_false]
   exact wpAny_pure (aaN xs m A s _ _ _ _ r2 p.2 (by omega) q)
end
mutual
theorem aav {P:Program} {w:World}:∀ (d:PyData) (n:Nat) (A:Around) (s:Shared) (v:Value) (as:List Addr) (E:Value->Shared->Prop) (Q:Bool->Shared->Prop),Reads s.heap v d as->zF d=true->d.depth<=n->Q false s->wpAny (model P w) A (ofAClassStatement n v) Q E s
 | .int i,n,A,s,_,_,E,Q,r,_,_,q=>by
  cases r
  unfold ofAClassStatement
  exact wpAny_pure q
 | .str x,n,A,s,_,_,E,Q,r,_,_,q=>by
  cases r
  unfold ofAClassStatement
  exact wpAny_pure q
 | .tuple xs,n,A,s,_,_,E,Q,r,p,hn,q=>by
  cases r with
  | @tuple a o vs n' _ as h1 h2 h3 h4 =>
   rw [zF] at p
   have e1:(PyData.tuple xs).depth=ap6 xs+1:=rfl
   rw [e1] at hn
   obtain⟨m,rfl⟩:∃ m,n=m+1:=⟨n - 1,by omega⟩
   have hT:s.TypeIs (.ref a) "tuple":=⟨o,h1,h2⟩
   unfold ofAClassStatement
   apply wpAny_bind;apply wpAny_typeOf hT
   dsimp only
   rw [if_pos (show ("tuple" == "tuple")=true from rfl)]
   apply wpAny_bind;apply wpAny_pure
   simp only [aqt,aqB,if_false]
   apply wpAny_bind;apply wpAny_seqItems h1 h3
   dsimp only
   apply wpAny_bind
   rw [<-asR]
   exact acM xs m A s _ _ _ _ h4 p (by omega) (wpAny_pure q)
 | .none,_,_,_,_,_,_,_,_,h,_,_=>by cases h
 | .bool _,_,_,_,_,_,_,_,_,h,_,_=>by cases h
 | .list _,_,_,_,_,_,_,_,_,h,_,_=>by cases h
 | .dict _,_,_,_,_,_,_,_,_,h,_,_=>by cases h
theorem acM {P:Program} {w:World}:∀ (xs:List PyData) (m:Nat) (A:Around) (s:Shared) (vs:List Value) (as:List Addr) (E:Value->Shared->Prop) (Q:Option Bool×Unit->Shared->Prop),ReadsAll s.heap vs xs as->zO xs=true->ap6 xs<=m->Q (none,()) s ->
  wpAny (model P w) A (forIn vs ((none,()):Option Bool×Unit) fun y _=>do
   let b <- ofAClassStatement m y
   if b=true then pure (ForInStep.done (some true,())) else pure (ForInStep.yield (none,()))) Q E s
 | [],m,A,s,_,_,E,Q,r,_,_,q=>by
  cases r
  rw [asi]
  exact wpAny_pure q
 | x :: xs,m,A,s,_,_,E,Q,r,p,hn,q=>by
  cases r with
  | cons r1 r2 =>
   rw [zO,ap3] at p
   have e1:ap6 (x :: xs)=max x.depth (ap6 xs):=rfl
   rw [e1] at hn
   rw [ar0]
   apply wpAny_bind;apply wpAny_bind
   refine aav x m A s _ _ _ _ r1 p.1 (by omega) ?_
   simp only [aqB,if_false]
   exact wpAny_pure (acM xs m A s _ _ _ _ r2 p.2 (by omega) q)
end
mutual
theorem aaO {P:Program} {w:World}:∀ (d:PyData) (n:Nat) (A:Around) (s:Shared) (v:Value) (as:List Addr) (E:Value->Shared->Prop) (Q:Bool->Shared->Prop),Reads s.heap v d as->zF d=true->(∀ b,Q b s)->wpAny (model P w) A (hashByValue n v) Q E s
 | .int i,n,A,s,_,_,E,Q,r,_,q=>by
  cases r
  unfold hashByValue
  exact wpAny_pure (q _)
 | .str x,n,A,s,_,_,E,Q,r,_,q=>by
  cases r
  unfold hashByValue
  exact wpAny_pure (q _)
 | .tuple xs,n,A,s,_,_,E,Q,r,p,q=>by
  cases r with
  | @tuple a o vs n' _ as h1 h2 h3 h4 =>
   rw [zF] at p
   have hT:s.TypeIs (.ref a) "tuple":=⟨o,h1,h2⟩
   cases n with
   | zero =>
    unfold hashByValue
    exact wpAny_pure (q _)
   | succ m =>
    unfold hashByValue
    apply wpAny_bind;apply wpAny_specialOf hT arK.lookup
    show wpAny _ _ (seqItems? (.ref a) >>= _) _ _ s
    apply wpAny_bind;apply wpAny_seqItems h1 h3
    apply wpAny_bind
    show wpAny _ _ (forIn vs _ _) _ _ s
    rw [<-asR]
    exact aaP xs m A s _ _ _ _ h4 p (wpAny_pure (q _)) fun b=>wpAny_pure (q b)
 | .none,_,_,_,_,_,_,_,_,h,_=>by cases h
 | .bool _,_,_,_,_,_,_,_,_,h,_=>by cases h
 | .list _,_,_,_,_,_,_,_,_,h,_=>by cases h
 | .dict _,_,_,_,_,_,_,_,_,h,_=>by cases h
theorem aaP {P:Program} {w:World}:∀ (xs:List PyData) (m:Nat) (A:Around) (s:Shared) (vs:List Value) (as:List Addr) (E:Value->Shared->Prop) (Q:Option Bool×Unit->Shared->Prop),ReadsAll s.heap vs xs as->zO xs=true->Q (none,()) s->(∀ b,Q (some b,()) s) ->
  wpAny (model P w) A (forIn vs ((none,()):Option Bool×Unit) fun y _=>do
   let b <- hashByValue m y
   if (!b)=true then pure (ForInStep.done (some false,())) else pure (ForInStep.yield (none,()))) Q E s
 | [],m,A,s,_,_,E,Q,r,_,q,_=>by
  cases r
  rw [asi]
  exact wpAny_pure q
 | x :: xs,m,A,s,_,_,E,Q,r,p,q,q2=>by
  cases r with
  | cons r1 r2 =>
   rw [zO,ap3] at p
   rw [ar0]
   apply wpAny_bind;apply wpAny_bind
   refine aaO x m A s _ _ _ _ r1 p.1 fun b=>?_
   cases b with
   | true =>
    simp only [aqt,aqB,if_false]
    exact wpAny_pure (aaP xs m A s _ _ _ _ r2 p.2 q q2)
   | false =>
    simp only [arW,if_true]
    exact wpAny_pure (wpAny_pure (q2 false))
end
noncomputable instance decPy:DecidableEq PyData:=fun a b=>arc _
structure KeyAt (h:Heap) (d:PyData) (a:Addr):Prop where
 rd:∃ as,Reads h (.ref a) d as
 pl:zF d=true
 dp:d.depth<=8
theorem KeyAt.keep {h h':Heap} {d:PyData} {a:Addr} (x:KeyAt h d a) (k:∀ b o,h.get? b=some o->(∀ es ep,o.data≠.dict es ep)->(∀ es ep t,o.data≠.set es ep t)->h'.get? b=some o):KeyAt h' d a:=by
 obtain⟨⟨as,r⟩,p,q⟩:=x
 refine⟨?_,p,q⟩
 have go:(∀ (d:PyData) (v:Value) (as:List Addr),Reads h v d as->zF d=true->Reads h' v d as):=by
  intro d v as r
  refine Reads.rec (motive_1:=fun v d as _=>zF d=true->Reads h' v d as) (motive_2:=fun vs ds as _=>zO ds=true->ReadsAll h' vs ds as) ?_ ?_ ?_ ?_ ?_ ?_ ?_ ?_ ?_ r
  ·intro p;cases p
  ·intro b p;cases p
  ·intro i t p;exact .int i t
  ·intro x t p;exact .str x t
  ·intro a o vs n xs as h1 h2 h3 h4 ih p;cases p
  ·intro a o vs n xs as h1 h2 h3 h4 ih p
   rw [zF] at p
   exact .tuple (k a o h1 (fun es ep z=>by rw [h3] at z;cases z) (fun es ep t z=>by rw [h3] at z;cases z)) h2 h3 (ih p)
  ·intros;rename_i p;cases p
  ·intro p;exact .nil
  ·intro v vs d ds as bs r rs ih1 ih2 p
   rw [zO,ap3] at p
   exact .cons (ih1 p.1) (ih2 p.2)
 exact⟨as,go d _ as r p⟩
noncomputable def aa3 (P:Program) (w:World):HeapKind P w PyData where
 is:=KeyAt
 hash:=zD w
 draws:=yd
 room:=fun A=>A.units+40<cLine
 inj:=fun {h a x y} hx hy=>by
  obtain⟨⟨as,r⟩,p,_⟩:=hx
  obtain⟨⟨bs,r'⟩,p',_⟩:=hy
  exact SeqAt.Reads.unique _ _ _ _ _ (yO x p) r r'
 keeps:=fun {h h' k a d o es ep} x ho hd sb=>x.keep fun b u hb n1 n2=>by
  have:b≠d:=fun z=>by
   rw [z,ho] at hb
   cases hb
   exact n1 es ep hd
  exact (sb.2 b this).trans hb
 pyHash:=fun {A E s k a Q} hu x q=>by
  obtain⟨⟨as,r⟩,p,hd⟩:=x
  exact abD k A s _ as E Q r p (by omega) q
 eqBool:=fun {A E s x y a b Q} hu hx hy q=>by
  obtain⟨⟨as,r⟩,p,hd⟩:=hx
  obtain⟨⟨bs,r'⟩,p',hd'⟩:=hy
  refine SeqAt.eqAt_reads x y A s _ _ _ _ r r' (yO x p) (yO y p') (by omega) P w E Q ?_
  have:aqi x y=decide (x=y):=by
   by_cases e:x=y
   ·rw [decide_eq_true e];exact (aa2 p p').mpr e
   ·rw [decide_eq_false e]
    cases z:aqi x y with
    | false=>rfl
    | true=>exact absurd ((aa2 p p').mp z) e
  rw [this]
  exact q
 quiet:=fun {A E s k a Q} x q=>by
  obtain⟨⟨as,r⟩,p,hd⟩:=x
  exact jS k 8 A s _ as E Q r p hd q
end L2
end
section
namespace L2
open PySem PySem.Spec PyProof.Rows PySem.SetTable
section
variable {P:Program} {w:World} {A:Around} {E:Value->Shared->Prop} {s:Shared}
theorem alC {b:Addr} {d:PyData} {Q:Bool->Shared->Prop} (kb:KeyAt s.heap d b):∀ l:List Value,(∀ y∈l,∃ d' b',y=.ref b'/\KeyAt s.heap d' b')->Q false s->wpAny (model P w) A (searchCouldBeSeen (.ref b) l) Q E s:=by
 intro l hl q
 unfold searchCouldBeSeen
 apply wpAny_bind
 refine wpAny_forIn_list _ (fun rest r s'=>r=(none,())/\s'=s/\∀ y∈rest,y∈l) _ ?_ ?_ _ _ ⟨rfl,rfl,fun _ h=>h⟩
 ·rintro y rest r s' ⟨rfl,rfl,hm⟩
  obtain⟨d',b',rfl,kb'⟩:=hl y (hm y apX)
  obtain⟨⟨as,rd⟩,pd,dd⟩:=id kb
  obtain⟨⟨bs,rd'⟩,pd',dd'⟩:=id kb'
  have more:∀ z∈rest,z∈l:=fun z hz=>hm z (apW _ hz)
  dsimp only
  split
  ·exact wpAny_pure ⟨rfl,rfl,more⟩
  ·apply wpAny_bind
   refine jS d 8 A _ _ as _ _ rd pd dd ?_
   simp only [aqt,aqB,if_false]
   apply wpAny_bind
   refine jS d' 8 A _ _ bs _ _ rd' pd' dd' ?_
   simp only [aqt,aqB,if_false]
   apply wpAny_bind
   refine aav d 8 A _ _ as _ _ rd pd dd ?_
   simp only [aqB,if_false]
   apply wpAny_bind
   refine aav d' 8 A _ _ bs _ _ rd' pd' dd' ?_
   simp only [aqB,if_false]
   exact wpAny_pure ⟨rfl,rfl,more⟩
 ·rintro r s' ⟨rfl,rfl,_⟩
  exact wpAny_pure q
structure SetObj (w:World) (h:Heap) (a:Addr) (xs:List (PyData×Addr)) (o:Obj) (es:Array (Int×Value)) (ep:Nat) (t:SetTable):Prop where
 ob:h.get? a=some o
 ex:o.ExactSet
 da:o.data=.set es ep t
 el:es.toList=xs.map fun x=>(zD w x.1,Value.ref x.2)
 ok:ST.TOk t (xs.map fun x=>zD w x.1)
theorem SetObj.size {h:Heap} {a:Addr} {xs:List (PyData×Addr)} {o:Obj} {es:Array (Int×Value)} {ep:Nat} {t:SetTable} (x:SetObj w h a xs o es ep t):es.size=xs.length:=by
 rw [<-ap4,x.el,apP]
theorem SetObj.fits {h:Heap} {a:Addr} {xs:List (PyData×Addr)} {o:Obj} {es:Array (Int×Value)} {ep:Nat} {t:SetTable} (x:SetObj w h a xs o es ep t):t.fits es.size=true:=by
 unfold atc asu
 have h1:=x.ok.size
 have h2:=x.ok.most
 rw [apP] at h1 h2
 rw [x.size,h1,x.ok.dum]
 simp
 exact h2
theorem SetObj.at {h:Heap} {a:Addr} {xs:List (PyData×Addr)} {o:Obj} {es:Array (Int×Value)} {ep:Nat} {t:SetTable} (x:SetObj w h a xs o es ep t) {i:Nat} (hi:i<xs.length):es[i]?=some (zD w xs[i].1,Value.ref xs[i].2):=by
 rw [<-arl,x.el,apU,apO hi]
 rfl
theorem ajJ {t:SetTable} {hs:List Int} (o:ST.TOk t hs):t.gaveWay=false:=by
 unfold SetTable.gaveWay
 rcases o.mask with e | e | e | e <;> rw [e] <;> rfl
theorem ajK {α:Type} {M:Model} {c:Bool} {m:Sem Bool} {u:Sem Unit} {r:Sem α} {Q:α->Shared->Prop} (hr:wpAny M A r Q E s) (hm:∀ R:Bool->Shared->Prop,R false s->wpAny M A m R E s) :
  wpAny M A (if c=true then (do
   let b <- m
   if b=true then do
    u
    r
   else r) else r) Q E s:=by
 cases c with
 | false=>rw [if_neg apQ];exact hr
 | true =>
  rw [if_pos rfl]
  apply wpAny_bind
  refine hm _ ?_
  rw [if_neg apQ]
  exact hr
theorem aeC {M:Model} {a:Addr} {Q:Bool->Shared->Prop} (q:Q true s):wpAny M A (isSame (.ref a) (.ref a)) Q E s:=by
 unfold isSame
 simp only [beq_self_eq_true]
 exact wpAny_pure q
theorem aaw {a b:Addr} {d:PyData} {xs:List (PyData×Addr)} {o:Obj} {es:Array (Int×Value)} {ep:Nat} {t:SetTable} {adding:Bool} {Q:SetFound->Shared->Prop} (S:SetObj w s.heap a xs o es ep t) (ks:∀ x∈xs,KeyAt s.heap x.1 x.2)
  (kb:KeyAt s.heap d b) (hu:A.units+40<cLine) {F:Nat} (hF:ST.First t (zD w d) F) (yes:d∈xs.map (·.1)->∀ r:Option Nat,(adding=false->r.isSome=true)->Q (.there r) s) (no:d∉xs.map (·.1)->Q (.free (ST.pos t.mask (zD w d) F) false) s) :
  ∀ f k stand,k<=F->F<k+f->stand.getD (t.probeStart (zD w d))=ST.road t.mask (zD w d) k ->
   (∀ q i,q<k->i<xs.length->ST.pos t.mask (zD w d) q=t.place.getD i 0->(xs.getD i (.none,0)).1≠d) ->
   wpAny (model P w) A (setSearchFrom a (.ref b) (zD w d) adding f stand) Q E s
 | 0,k,stand,h1,h2,_,_=>by omega
 | f+1,k,stand,h1,h2,hst,past=>by
  have sz:=S.ok.size
  rw [apP] at sz
  have key:∀ g:Nat->Int,(∀ i,g i=(es[i]?.map (·.1)).getD 0) ->
    (t.probe g (zD w d) (ST.road t.mask (zD w d) k)=some (.empty (ST.pos t.mask (zD w d) F) none)/\∀ q i,k<=q->q<F->i<t.place.size->ST.pos t.mask (zD w d) q=t.place.getD i 0->g i≠zD w d) \/
    ∃ q i,k<=q/\q<F/\i<t.place.size/\ST.pos t.mask (zD w d) q=t.place.getD i 0/\g i=zD w d/\t.probe g (zD w d) (ST.road t.mask (zD w d) k)=some (.candidate (ST.pos t.mask (zD w d) q) i (ST.road t.mask (zD w d) (q+1)))/\∀ q' i',k<=q'->q'<q->i'<t.place.size->ST.pos t.mask (zD w d) q'=t.place.getD i' 0->g i'≠zD w d :=
   fun g _=>ST.probe_go S.ok.dum S.ok.rise hF (10 * turns t.mask) k h1 (by have:=hF.lt;omega)
  have gat:∀ i (hi:i<xs.length),(es[i]?.map (·.1)).getD 0=zD w xs[i].1:=fun i hi=>by rw [S.at hi];rfl
  unfold setSearchFrom
  apply wpAny_bind
  refine wpAny_setState_of S.ob S.da S.fits ?_
  dsimp only
  rw [ajJ S.ok,if_neg apQ,hst]
  have reach:∀ i (hi:i<xs.length),xs[i].1=d->∃ q,q<F/\ST.pos t.mask (zD w d) q=t.place.getD i 0:=fun i hi ed=>by
   obtain⟨q,a1,a2⟩:=S.ok.reach i (by rw [apP];exact hi)
   have eh:(xs.map fun x=>zD w x.1).getD i 0=zD w d:=by
    rw [apR,apU,apO hi,<- ed]
    rfl
   rw [eh] at a1 a2
   refine⟨q,?_,a1⟩
   by_cases c:q<F
   ·exact c
   ·by_cases c2:q=F
    ·subst c2
     exact absurd ⟨i,by omega,a1.symm⟩ hF.free
    ·exact absurd (a2 F (by omega)) hF.free
  have ggd:∀ i (hi:i<xs.length),xs.getD i (.none,0)=xs[i]:=fun i hi=>by rw [apR,apO hi];rfl
  rcases key (fun i=>(es[i]?.map (·.1)).getD 0) (fun i=>rfl) with⟨e,none_⟩ | ⟨q,i,q1,q2,q3,q4,q5,e,none_⟩
  ·have ee:∀ g:Nat->Int,(∀ i,g i=(es[i]?.map (·.1)).getD 0)->t.probe g (zD w d) (ST.road t.mask (zD w d) k)=some (.empty (ST.pos t.mask (zD w d) F) none):=fun g hg=>by
    rw [show g=fun i=>(es[i]?.map (·.1)).getD 0 from funext hg]
    exact e
   rw [ee]
   rotate_left
   ·exact fun i=>rfl
   dsimp only
   refine wpAny_pure (no fun hd=>?_)
   obtain⟨x,hx,ex⟩:=aqd.mp hd
   obtain⟨i,hi,ei⟩:=aq8 hx
   have ed:xs[i].1=d:=by rw [ei];exact ex
   obtain⟨q,qF,qp⟩:=reach i hi ed
   by_cases c:q<k
   ·exact past q i c hi qp (by rw [ggd i hi];exact ed)
   ·exact none_ q i (by omega) qF (by omega) qp (by rw [gat i hi,ed])
  ·have ee:∀ g:Nat->Int,(∀ i,g i=(es[i]?.map (·.1)).getD 0)->t.probe g (zD w d) (ST.road t.mask (zD w d) k)=some (.candidate (ST.pos t.mask (zD w d) q) i (ST.road t.mask (zD w d) (q+1))):=fun g hg=>by
    rw [show g=fun i=>(es[i]?.map (·.1)).getD 0 from funext hg]
    exact e
   have hi:i<xs.length:=by omega
   have mi:xs[i]∈xs:=aqo hi
   have ki:=ks _ mi
   rw [ee]
   rotate_left
   ·exact fun i=>rfl
   dsimp only
   refine ajK ?_ fun R hR=>alC kb _ (fun y hy=>?_) hR
   rotate_left
   ·obtain⟨p,hp,rfl⟩:=aqd.mp hy
    have hp2:p∈es.toList:=by
     have:=asw.mp hp
     exact asw.mpr (Array.mem_filter.mp this).1
    rw [S.el] at hp2
    obtain⟨x,hx,rfl⟩:=aqd.mp hp2
    exact⟨x.1,x.2,rfl,ks x hx⟩
   rw [S.at hi]
   dsimp only
   apply wpAny_bind;apply wpAny_holding
   refine (aa3 P w).eqBool (A:=A) hu ki kb ?_
   apply wpAny_bind
   refine wpAny_setState_of S.ob S.da S.fits ?_
   dsimp only
   have same:t.sameMemory t.moves t.mask=some true:=by
    unfold SetTable.sameMemory
    rw [if_pos (beq_self_eq_true _)]
   have live:t.slot (ST.pos t.mask (zD w d) q)=.live i:=by rw [q4];exact ST.slot_live S.ok.rise q3
   by_cases ed:xs[i].1=d
   ·have y2:=yes (aqd.mpr ⟨_,mi,ed⟩)
    rw [decide_eq_true ed]
    cases adding with
    | true=>exact wpAny_pure (y2 _ fun z=>nomatch z)
    | false =>
     rw [arn,if_neg apQ,same]
     dsimp only
     rw [if_pos rfl,live]
     dsimp only
     rw [S.at hi]
     dsimp only
     apply wpAny_bind
     refine aeC ?_
     apply wpAny_bind;apply wpAny_pure
     rw [if_pos rfl]
     dsimp only
     rw [if_pos rfl]
     exact wpAny_pure (y2 _ fun _=>rfl)
   ·rw [decide_eq_false ed,atB,if_neg apQ,same]
    dsimp only
    rw [if_pos rfl,live]
    dsimp only
    rw [S.at hi]
    dsimp only
    apply wpAny_bind
    refine aeC ?_
    apply wpAny_bind;apply wpAny_pure
    rw [if_pos rfl]
    dsimp only
    rw [if_neg apQ]
    refine aaw S ks kb hu hF yes no f (q+1) _ (by omega) (by omega) rfl fun q' i' c1 c2 c3=>?_
    rw [ggd i' c2]
    intro z
    by_cases c4:q'<k
    ·exact past q' i' c4 c2 c3 (by rw [ggd i' c2];exact z)
    ·by_cases c5:q'=q
     ·subst c5
      have ii:i'=i:=by
       have b1:=ST.below_at S.ok.rise (i:=i) (by omega)
       have b2:=ST.below_at S.ok.rise (i:=i') (by omega)
       rw [<-q4] at b1
       rw [<-c3] at b2
       omega
      subst ii
      exact ed z
     ·exact none_ q' i' (by omega) (by omega) (by omega) c3 (by rw [gat i' c2,z])
end
end L2
end
section
namespace L2
open PySem PySem.Spec PyProof.Rows PySem.SetTable
section
variable {P:Program} {w:World} {A:Around} {E:Value->Shared->Prop} {s:Shared} {a b:Addr} {d:PyData} {xs:List (PyData×Addr)} {o:Obj} {es:Array (Int×Value)} {ep:Nat} {t:SetTable}
theorem SetObj.type (S:SetObj w s.heap a xs o es ep t):s.TypeIs (.ref a) "set":=⟨o,S.ob,S.ex.1⟩
theorem agY (b:Addr) (es:Array (Int×Value)):byScan (.ref b) es=false:=rfl
theorem aeD {Q:Bool->Shared->Prop} (S:SetObj w s.heap a xs o es ep t) (ks:∀ x∈xs,KeyAt s.heap x.1 x.2) (kb:KeyAt s.heap d b) (hu:A.units+60<cLine) (q:Q (decide (d∈xs.map (·.1))) { s with toks:=s.toks+yd d }) :
  wpAny (model P w) A (contains (.ref a) (.ref b)) Q E s:=by
 obtain⟨F,hF⟩:=ST.first_of S.ok.toTB (zD w d)
 have hl:=hF.lt
 have ht:turns t.mask<=526:=by
  unfold turns
  rcases S.ok.mask with e | e | e | e <;> omega
 unfold contains
 try with_reducible refine wpAny_holding ?_
 apply wpAny_bind;apply wpAny_specialOf S.type asF.lookup
 show wpAny _ _ (if (some (Value.builtin "set.__contains__") == some Value.none)=true then _ else _) _ E s
 rw [if_neg (by rw [beq_builtin_none];exact apQ)]
 apply wpAny_bind
 refine wpAny_callSpecialUnlessNone?_slot (name:=arQ "__contains__") S.type asF (wpAny_call_entry asF S.type entry_set_contains ?_ (PySem.F.args_set_contains_2 _ _))
 unfold Builtin.«frozenset.__contains__» atD
 simp only [at8,bind_assoc]
 unfold asL Builtin.Frozenset.withSetAsKey setContains
 apply wpAny_bind;apply wpAny_pure
 dsimp only
 apply wpAny_bind;apply wpAny_pure
 dsimp only
 apply wpAny_bind;apply wpAny_tryCatch;apply wpAny_holding
 apply wpAny_bind
 have hu1:A.in1.units=A.units+1:=rfl
 have hu2:A.in1.in1.units=A.units+1+1:=rfl
 refine (aa3 P w).pyHash (by show _+40<cLine;omega) kb ?_
 apply wpAny_bind
 unfold setFind setFindIn
 apply wpAny_bind
 refine wpAny_setState_of (s:={ s with toks:=s.toks+yd d }) S.ob S.da S.fits ?_
 dsimp only
 rw [agY,if_neg apQ]
 apply wpAny_bind
 unfold setSearch
 have fin:∀ r:Option Nat,r.isSome=decide (d∈xs.map (·.1))->∀ R:Value->Shared->Prop,R (.bool (decide (d∈xs.map (·.1)))) { s with toks:=s.toks+yd d }->R (.bool r.isSome) { s with toks:=s.toks+yd d }:=fun r e R hR=>by rw [e];exact hR
 refine aaw (s:={ s with toks:=s.toks+yd d }) (adding:=false) S ks kb (by omega) hF (fun hd r hr=>?_) (fun hd=>?_) 100000 0 none (aqu _) (by omega) (ST.road_start t _) (fun q i c=>by omega)
 ·refine wpAny_pure (wpAny_pure ?_)
  show wpAny _ _ (ret (Value.bool r.isSome)) _ _ _
  rw [hr rfl]
  rw [decide_eq_true hd] at q
  exact wpAny_pure ⟨_,rfl,wpAny_truthy_bool q⟩
 ·refine wpAny_pure (wpAny_pure ?_)
  show wpAny _ _ (ret (Value.bool false)) _ _ _
  rw [decide_eq_false hd] at q
  exact wpAny_pure ⟨_,rfl,wpAny_truthy_bool q⟩
def agZ (es:Array (Int×Value)) (laid:Option (SetTable×Array Nat)):Sem (Array (Int×Value)×SetTable):=do
 let some (t,order):=laid | unsupported "internal:set-table-without-room"
 let es':=order.filterMap (es[·]?)
 if es'.size != es.size then unsupported "internal:set-table-lost-an-element"
 pure (es',t)
theorem ajL (a:Addr) (wanted:Nat):setRelay a wanted=(do
  let (es,_,t) <- setState a
  if aso wanted > sizeLine then unsupported "set:memory"
  let (es,t) <- agZ es (t.relaid (es.map (·.1)) wanted)
  storeSet a es t):=rfl
theorem qh {α:Type} (es:Array α):∀ l:List Nat,(∀ i∈l,i<es.size)->∀ dflt:α,l.filterMap (fun i=>es[i]?)=l.map fun i=>es.toList.getD i dflt
 | [],_,_=>rfl
 | i :: l,h,dflt=>by
  have hi:=h i apX
  rw [asG,ark hi,aqf,qh es l (fun j hj=>h j (apW _ hj)) dflt]
  simp [hi]
theorem ajM {Q:Unit->Shared->Prop} {mask wanted:Nat} (S0:s.heap.get? a=some o) (ex:o.ExactSet) (da:o.data=.set es ep t) (el:es.toList=xs.map fun x=>(zD w x.1,Value.ref x.2)) (tb:ST.TB t (xs.map fun x=>zD w x.1)) (mk:mask=31 \/ mask=127 \/ mask=511) (hw:aso wanted=mask+1)
  (room:xs.length * 5<mask * 3) (q:∀ xs' o' es' ep' t' h',xs'.Perm xs->arI a s.heap h'->SetObj w h' a xs' o' es' ep' t'->Q () { s with heap:=h' }):wpAny (model P w) A (setRelay a wanted) Q E s:=by
 have sz:es.size=xs.length:=by rw [<-ap4,el,apP]
 have fits:t.fits es.size=true:=by
  unfold atc asu
  have h1:=tb.size
  have h2:=tb.most
  rw [apP] at h1 h2
  rw [sz,h1,tb.dum]
  simp
  exact h2
 have mk2:mask=7 \/ mask=31 \/ mask=127 \/ mask=511:=.inr mk
 obtain⟨t2,ord,e1,e2,_,_,pm,tb2⟩:=ST.laid_ok mk2 (es.map (·.1)) (by rw [asX,sz];omega) t.finger (t.movedTo mask) t.led t.plain
 rw [asX] at pm
 have hlt:∀ i∈ord.toList,i<es.size:=fun i hi=>aqk.mp (pm.mem_iff.mp hi)
 let xs':=ord.toList.map fun i=>xs.getD i (.none,0)
 have px:xs'.Perm xs:=by
  have e:(aqb es.size).map (fun i=>xs.getD i (.none,0))=xs:=by
   rw [sz]
   refine aq0 fun i=>?_
   rw [apU]
   by_cases hi:i<xs.length
   ·rw [aqx hi,apO hi]
    simp [hi]
   ·rw [aqc (by simp;omega),aqc (by omega)]
    rfl
  have:=pm.map fun i=>xs.getD i (.none,0)
  rw [e] at this
  exact this
 have ee:(ord.filterMap (es[·]?)).toList=xs'.map fun x=>(zD w x.1,Value.ref x.2):=by
  rw [auc,qh es ord.toList hlt (0,Value.none),aqv]
  refine aqR fun i hi=>?_
  have h2:=hlt i hi
  have h3:i<xs.length:=by omega
  rw [el,apR,apU,apO h3]
  show _=(zD w (xs.getD i (.none,0)).1,Value.ref (xs.getD i (.none,0)).2)
  rw [apR,apO h3]
  rfl
 have es_sz:(ord.filterMap (es[·]?)).size=es.size:=by
  rw [<-ap4,ee,apP,px.length_eq,sz]
 have tok:ST.TOk t2 (xs'.map fun x=>zD w x.1):=by
  have eh:(ord.toList.map fun i=>(es.map (·.1)).toList.getD i 0)=xs'.map fun x=>zD w x.1:=by
   rw [aqv]
   refine aqR fun i hi=>?_
   have h3:i<xs.length:=by have:=hlt i hi;omega
   rw [at6,el,aqv,apR,apU,apO h3]
   show zD w xs[i].1=zD w (xs.getD i (.none,0)).1
   rw [apR,apO h3]
   rfl
  rw [eh] at tb2
  refine⟨tb2,?_⟩
  rw [apP,px.length_eq,e2]
  exact room
 rw [ajL]
 apply wpAny_bind
 refine wpAny_setState_of S0 da fits ?_
 dsimp only
 rw [hw,if_neg (by rw [sizeLine_eq];omega)]
 have e1':t.relaid (es.map (·.1)) wanted=some (t2,ord):=by
  unfold SetTable.relaid
  rw [hw]
  exact e1
 unfold agZ
 rw [e1']
 apply wpAny_bind
 dsimp only
 rw [es_sz,bne_self_eq_false,if_neg apQ]
 apply wpAny_pure
 dsimp only
 refine wpAny_storeSet_of S0 da ?_ (by rw [es_sz,sz,sizeLine_eq];omega)
 refine q xs' { o with data:=.set (ord.filterMap (es[·]?)) (ep+1) t2 } (ord.filterMap (es[·]?)) (ep+1) t2 _ px (ara _ _ _) ⟨?_,ex,rfl,ee,tok⟩
 have:=aqQ (asp (ord.filterMap (es[·]?)) t2) S0 (by rw [putSet_of _ _ da];rfl)
 rw [putSet_of _ _ da] at this
 exact this
theorem ajN {t:SetTable} {hs:List Int} {p:Bool} (x:ST.TB t hs):ST.TB { t with plain:=p } hs:=⟨x.mask,x.dum,x.rise,x.le,x.size,x.most,x.reach⟩
theorem ag0 {Q:Shared->Prop} (S:SetObj w s.heap a xs o es ep t) (ks:∀ x∈xs,KeyAt s.heap x.1 x.2) (kb:KeyAt s.heap d b) (hu:A.units+59<cLine) (few:xs.length<300)
  (old:d∈xs.map (·.1)->Q { s with toks:=s.toks+yd d })
  (new:d∉xs.map (·.1)->∀ xs' o' es' ep' t' h',xs'.Perm ((d,b) :: xs)->arI a s.heap h'->SetObj w h' a xs' o' es' ep' t'->Q { s with heap:=h',toks:=s.toks+yd d }) :
  wpAny (model P w) A (setAdd a (.ref b)) (fun _ s'=>Q s') E s:=by
 obtain⟨F,hF⟩:=ST.first_of S.ok.toTB (zD w d)
 have hl:=hF.lt
 have ht:turns t.mask<=526:=by
  unfold turns
  rcases S.ok.mask with e | e | e | e <;> omega
 have room:=S.ok.room
 rw [apP] at room
 unfold setAdd
 apply wpAny_holding
 apply wpAny_bind
 refine (aa3 P w).pyHash (by show _+40<cLine;omega) kb ?_
 show wpAny _ _ (setAddHashed a (.ref b) (zD w d)) _ _ _
 unfold setAddHashed setAddHashedIn
 apply wpAny_holding
 apply wpAny_bind
 refine wpAny_setState_of (s:={ s with toks:=s.toks+yd d }) S.ob S.da S.fits ?_
 dsimp only
 rw [agY,if_neg apQ]
 apply wpAny_bind
 unfold setSearch
 refine aaw (s:={ s with toks:=s.toks+yd d }) (adding:=true) S ks kb (by omega) hF (fun hd r _=>?_) (fun hd=>?_) 100000 0 none (aqu _) (by omega) (ST.road_start t _) (fun q i c=>by omega)
 ·exact wpAny_pure (old hd)
 ·dsimp only
  apply wpAny_bind
  refine wpAny_setState_of (s:={ s with toks:=s.toks+yd d }) S.ob S.da S.fits ?_
  dsimp only
  obtain⟨hp,tb⟩:=ST.put_tb S.ok.toTB hF (by rw [apP];rcases S.ok.mask with e | e | e | e <;> rw [e] at room ⊢ <;> omega)
  rw [apP] at hp
  have ep2:(t.put (ST.pos t.mask (zD w d) F)).2=below t.place (ST.pos t.mask (zD w d) F):=rfl
  rw [ep2]
  generalize below t.place (ST.pos t.mask (zD w d) F)=p at *
  have pm:(xs.take p++(d,b) :: xs.drop p).Perm ((d,b) :: xs):=by
   refine List.perm_middle.trans ?_
   rw [asv]
  have el:(insertAt es p (zD w d,Value.ref b)).toList=(xs.take p++(d,b) :: xs.drop p).map fun x=>(zD w x.1,Value.ref x.2):=by
   rw [ar5,S.el,aqm,aqf,atX,atd]
  have eh:(xs.map fun x=>zD w x.1).take p++zD w d :: (xs.map fun x=>zD w x.1).drop p=(xs.take p++(d,b) :: xs.drop p).map fun x=>zD w x.1:=by
   rw [aqm,aqf,atX,atd]
  rw [eh] at tb
  have ln:(xs.take p++(d,b) :: xs.drop p).length=xs.length+1:=by rw [pm.length_eq];rfl
  have sze:(insertAt es p (zD w d,Value.ref b)).size=xs.length+1:=by rw [<-ap4,el,apP,ln]
  have step:∀ bv:Bool,∀ t2,t2=(if bv=true then (t.put (ST.pos t.mask (zD w d) F)).1 else { (t.put (ST.pos t.mask (zD w d) F)).1 with plain:=false }) ->
    ST.TB t2 ((xs.take p++(d,b) :: xs.drop p).map fun x=>zD w x.1)/\t2.mask=t.mask:=fun bv t2 e=>by
   subst e
   cases bv with
   | true=>exact⟨tb,rfl⟩
   | false=>exact⟨ajN tb,rfl⟩
  have tail:∀ bv:Bool,wpAny (model P w) A (do
    storeSet a (insertAt es p (zD w d,Value.ref b)) (if bv=true then (t.put (ST.pos t.mask (zD w d) F)).1 else { (t.put (ST.pos t.mask (zD w d) F)).1 with plain:=false })
    if (!false && (if bv=true then (t.put (ST.pos t.mask (zD w d) F)).1 else { (t.put (ST.pos t.mask (zD w d) F)).1 with plain:=false }).tooFull)=true then do
     setRelay a (auy (es.size+1))
     pure true
    else pure true) (fun _ s'=>Q s') E { s with toks:=s.toks+yd d }:=fun bv=>by
   obtain⟨tb2,em⟩:=step bv _ rfl
   generalize (if bv=true then (t.put (ST.pos t.mask (zD w d) F)).1 else { (t.put (ST.pos t.mask (zD w d) F)).1 with plain:=false })=t2 at *
   apply wpAny_bind
   refine wpAny_storeSet_of (s:={ s with toks:=s.toks+yd d }) S.ob S.da ?_ (by rw [sze,sizeLine_eq];omega)
   have g:(s.heap.update a (asp (insertAt es p (zD w d,Value.ref b)) t2)).get? a=some { o with data:=.set (insertAt es p (zD w d,Value.ref b)) (ep+1) t2 }:=by
    have:=aqQ (asp (insertAt es p (zD w d,Value.ref b)) t2) S.ob (by rw [putSet_of _ _ S.da];rfl)
    rw [putSet_of _ _ S.da] at this
    exact this
   have sb:=ara s.heap a (asp (insertAt es p (zD w d,Value.ref b)) t2)
   have fill:t2.tooFull=decide ((xs.length+1) * 5 >= t.mask * 3):=by
    unfold SetTable.tooFull asu
    have h1:=tb2.size
    rw [apP,ln] at h1
    rw [h1,tb2.dum,em]
    rfl
   rw [arW,aq7,fill]
   by_cases full:(xs.length+1) * 5 >= t.mask * 3
   ·rw [if_pos (decide_eq_true full),S.size]
    have:∃ mask,(mask=31 \/ mask=127 \/ mask=511)/\aso (auy (xs.length+1))=mask+1/\(xs.length+1) * 5<mask * 3:=by
     rcases S.ok.mask with e | e | e | e
     ·rw [e] at room full
      have:xs.length=4:=by omega
      rw [this]
      exact⟨31,.inl rfl,by decide,by decide⟩
     ·rw [e] at room full
      have:xs.length=18:=by omega
      rw [this]
      exact⟨127,.inr (.inl rfl),by decide,by decide⟩
     ·rw [e] at room full
      have:xs.length=76:=by omega
      rw [this]
      exact⟨511,.inr (.inr rfl),by decide,by decide⟩
     ·rw [e] at room full
      omega
    obtain⟨mask,mk,hw,rm⟩:=this
    apply wpAny_bind
    refine ajM (s:={ s with heap:=s.heap.update a (asp (insertAt es p (zD w d,Value.ref b)) t2),toks:=s.toks+yd d }) (o:={ o with data:=.set (insertAt es p (zD w d,Value.ref b)) (ep+1) t2 }) g S.ex rfl el tb2 mk hw (by rw [ln];exact rm) fun xs' o' es' ep' t' h' px sb' S'=>wpAny_pure ?_
    exact new hd xs' o' es' ep' t' h' (px.trans pm) (sb.trans sb') S'
   ·rw [if_neg (by rw [decide_eq_false full];exact apQ)]
    refine wpAny_pure (new hd _ _ _ _ _ _ pm sb ⟨g,S.ex,rfl,el,⟨tb2,?_⟩⟩)
    rw [apP,ln,em]
    omega
  obtain⟨as,rd⟩:=kb.rd
  split
  ·apply wpAny_bind
   exact aaO d 8 _ { s with toks:=s.toks+yd d } _ as _ _ rd kb.pl fun bv=>tail bv
  ·apply wpAny_bind;apply wpAny_pure
   exact tail true
theorem aoa {Q:Value->Shared->Prop} (S:SetObj w s.heap a xs o es ep t) (ks:∀ x∈xs,KeyAt s.heap x.1 x.2) (kb:KeyAt s.heap d b) (hu:A.units+60<cLine) (few:xs.length<300)
  (old:d∈xs.map (·.1)->Q .none { s with toks:=s.toks+yd d })
  (new:d∉xs.map (·.1)->∀ xs' o' es' ep' t' h',xs'.Perm ((d,b) :: xs)->arI a s.heap h'->SetObj w h' a xs' o' es' ep' t'->Q .none { s with heap:=h',toks:=s.toks+yd d }) :
  wpAny (model P w) A (call (.builtin "set.add") [.ref a,.ref b]) Q E s:=by
 refine wpAny_call_entry auz S.type PySem.F.entry_set_add ?_ (PySem.F.args_set_add_2 _ _)
 unfold Builtin.«set.add» atD
 simp only [at8,bind_assoc]
 unfold asL
 apply wpAny_bind;apply wpAny_pure
 try dsimp only
 apply wpAny_bind;apply wpAny_pure
 try dsimp only
 apply wpAny_bind
 have hu1:A.in1.units=A.units+1:=rfl
 refine ag0 (Q:=fun s'=>wpAny (model P w) A.in1 (ret Value.none) (fun fin s'=>∃ r,fin=.done (.ret r)/\Q r s') E s') S ks kb (by omega) few (fun hd=>wpAny_pure ⟨_,rfl,old hd⟩) fun hd xs' o' es' ep' t' h' p1 p2 p3=>wpAny_pure ⟨_,rfl,new hd xs' o' es' ep' t' h' p1 p2 p3⟩
end
inductive OC where
 | lst (es:List PyData)
 | set (ks:List PyData)
 | dic (kvs:List (PyData×PyData))
def SetO (w:World) (a:Addr) (xs:List (PyData×Addr)):HO:=.ext fun h=>∃ o es ep t,SetObj w h a xs o es ep t
structure DicObj (w:World) (h:Heap) (a:Addr) (xs:List (PyData×Addr×Value)) (o:Obj) (es:Array DictEntry) (ep:Nat):Prop where
 ob:h.get? a=some o
 ex:o.ExactDict
 da:o.data=.dict es ep
 el:es.toList=xs.map fun x=>(⟨zD w x.1,.ref x.2.1,x.2.2⟩:DictEntry)
 nd:(xs.map (·.1)).Nodup
 ns:(a == sysModules)=false
def DicO (w:World) (a:Addr) (xs:List (PyData×Addr×Value)):HO:=.ext fun h=>∃ o es ep,DicObj w h a xs o es ep
def vT (d:PyData):Prop:=zF d=true/\d.depth<=8
def EntR (K:apT) (Hh:Hp) (x:PyData×Addr×Value) (p:PyData×PyData):Prop:=x.1=p.1/\vT x.1/\Rep K Hh x.1 (.ref x.2.1)/\∃ v,Rep K Hh p.2 v/\RelV v x.2.2
theorem EntR.mono {K:apT} {Hh Hh':Hp} (s:Same Hh Hh'):∀ {xs:List (PyData×Addr×Value)} {kvs:List (PyData×PyData)},Paired (EntR K Hh) xs kvs->Paired (EntR K Hh') xs kvs
 | _,_,.nil=>.nil
 | _,_,.cons ⟨h1,h2,h3,v,h4,h5⟩ t=>.cons ⟨h1,h2,Rep.mono s _ _ h3,v,Rep.mono s _ _ h4,h5⟩ (EntR.mono s t)
def OwnAt (w:World) (K:apT) (Hh H:Hp) (D:Addr):OC->Prop
 | .lst es=>∃ vs,H D=some (.lst vs)/\Reps K Hh es vs
 | .set ks=>∃ xs:List (PyData×Addr),H D=some (SetO w D xs)/\(∀ x∈xs,vT x.1/\Rep K Hh x.1 (.ref x.2))/\(∀ d,d∈xs.map (·.1)↔d∈ks)/\xs.length<=ks.length
 | .dic kvs=>∃ xs:List (PyData×Addr×Value),H D=some (DicO w D xs)/\Paired (EntR K Hh) xs kvs
theorem OwnAt.mono {w:World} {K:apT} {Hh Hh' H H':Hp} {D:Addr} (e:H' D=H D) (s:Same Hh Hh'):∀ {c:OC},OwnAt w K Hh H D c->OwnAt w K Hh' H' D c
 | .lst es,⟨vs,h1,h2⟩=>⟨vs,e.trans h1,Reps.mono s es vs h2⟩
 | .set ks,⟨xs,h1,h2,h3⟩=>⟨xs,e.trans h1,fun x hx=>⟨(h2 x hx).1,Rep.mono s _ _ (h2 x hx).2⟩,h3⟩
 | .dic kvs,⟨xs,h1,h2⟩=>⟨xs,e.trans h1,EntR.mono s h2⟩
def Fx.withs (f:Fx) (Ds:List Addr):Fx:={ f with M:=Ds.reverse++f.M }
theorem yx (f:Fx) (Ds:List Addr) (D:Addr):f.withs (Ds++[D])=(f.withs Ds).with D:=by
 unfold Fx.withs Fx.with
 rw [arN]
 rfl
structure CM (w:World) (K:apT) (f:Fx) (Ds:List Addr) (H2:Hp) (ρ:zw) (cs:List OC) (σ:St) (H:Hp):Prop where
 env:EnvOk K (f.withs Ds) ρ σ H
 sm:Same (hide H2 (f.withs Ds)) (hide H (f.withs Ds))
 kp:∀ b∈f.M,H b=H2 b
 len:cs.length=Ds.length
 own:∀ (i:Nat) D c,Ds[i]?=some D->cs[i]?=some c->OwnAt w K (hide H (f.withs Ds)) H D c
structure Sep (f:Fx) (Ds:List Addr):Prop where
 nd:Ds.Nodup
 nf:∀ D∈Ds,f.f≠some D
 nm:∀ D∈Ds,D∉f.M
section
variable {w:World} {K:apT} {f:Fx} {Ds:List Addr} {H H' H2:Hp} {ρ ρ2:zw} {cs:List OC} {σ σ2:St} {i:Nat} {D:Addr} {c:OC} {o:HO}
theorem yY (hD:D∈Ds):D∈(f.withs Ds).M:=arq _ (aqF.mpr hD)
theorem yf (hD:D∈Ds):hide (upd H D o) (f.withs Ds)=hide H (f.withs Ds):=by
 funext b
 unfold hide
 by_cases h:(f.withs Ds).f=some b \/ b∈(f.withs Ds).M
 ·rw [if_pos h,if_pos h]
 ·rw [if_neg h,if_neg h,zA fun (z:b=D)=>h (.inr (z▸yY hD))]
theorem CM.go (x:CM w K f Ds H2 ρ cs σ H) (g:Goes (f.withs Ds) H H') (e2:EnvOk K (f.withs Ds) ρ2 σ2 H'):CM w K f Ds H2 ρ2 cs σ2 H' :=
 ⟨e2,x.sm.trans g.sm,fun b hb=>(g.kp b (aqe _ hb)).trans (x.kp b hb),x.len,fun i D c h1 h2=>(x.own i D c h1 h2).mono (g.kp D (yY (apZ h1))) g.sm⟩
theorem CM.self (x:CM w K f Ds H2 ρ cs σ H):CM w K f Ds H ρ cs σ H:=⟨x.env,Same.refl _,fun _ _=>rfl,x.len,x.own⟩
theorem CM.trans {cs':List OC} {ρ':zw} {σ':St} (x:CM w K f Ds H2 ρ cs σ H) (y:CM w K f Ds H ρ' cs' σ' H'):CM w K f Ds H2 ρ' cs' σ' H':=⟨y.env,x.sm.trans y.sm,fun b hb=>(y.kp b hb).trans (x.kp b hb),y.len,y.own⟩
theorem alD (se:Sep f Ds) (hD:D∈Ds) (h:FOk (f.withs Ds) H):FOk (f.withs Ds) (upd H D o) :=
 ⟨fun p e=>let⟨a,b,h1,h2⟩:=h.fd p e;⟨a,b,by rw [zA (fun (z:p=D)=>se.nf D hD (z▸e))];exact h1,h2⟩,fun b hb=>by
  by_cases e:b=D
  ·exact⟨o,by rw [e];exact zB⟩
  ·obtain⟨u,hu⟩:=h.mm b hb
   exact⟨u,by rw [zA e];exact hu⟩,h.nm⟩
theorem adH (se:Sep f Ds) (hD:D∈Ds) (e:EnvOk K (f.withs Ds) ρ σ H):EnvOk K (f.withs Ds) ρ σ (upd H D o) :=
 ⟨e.len,fun i x h=>by
  obtain⟨v,h1,h2⟩:=e.get i x h
  refine⟨v,h1,?_⟩
  cases x with
  | dat d =>
   show Rep K (hide (upd H D o) (f.withs Ds)) d v
   rw [yf hD]
   exact h2
  | feed=>exact h2
  | own k=>exact h2
  | exc C =>
   obtain⟨a,e1,q⟩:=h2
   exact⟨a,e1,by rw [yf hD];exact q⟩
  | mon φ =>
   intro H' s
   rw [yf hD] at s
   exact h2 H' s,alD se hD e.fd⟩
theorem CM.put {c':OC} (se:Sep f Ds) (x:CM w K f Ds H2 ρ cs σ H) (hi:Ds[i]?=some D) (ho:OwnAt w K (hide H (f.withs Ds)) (upd H D o) D c'):CM w K f Ds H2 ρ (cs.set i c') σ (upd H D o):=by
 have hD:=apZ hi
 refine⟨adH se hD x.env,by rw [yf hD];exact x.sm,fun b hb=>(zA (fun (z:b=D)=>se.nm D hD (z▸hb))).trans (x.kp b hb),by rw [aqK];exact x.len,fun j D' c h1 h2=>?_⟩
 rw [yf hD]
 by_cases e:i=j
 ·subst e
  rw [hi] at h1
  cases h1
  have hl:i<cs.length:=by rw [x.len];exact (apS.mp hi).1
  rw [arx hl] at h2
  cases h2
  exact ho
 ·rw [aqH e] at h2
  have ne:D'≠D:=fun z=>by
   subst z
   obtain⟨l1,e1⟩:=apS.mp hi
   obtain⟨l2,e2⟩:=apS.mp h1
   exact e ((asB se.nd).mp (e1.trans e2.symm))
  exact (x.own j D' c h1 h2).mono (zA ne) (Same.refl _)
end
structure MEnds where
 nx:zw->List OC->Prop
 rt:PyData->Prop
 bk:zw->List OC->Prop:=fun _ _=>False
 ct:zw->List OC->Prop:=fun _ _=>False
def PSm (w:World) (K:apT) (f:Fx) (Ds:List Addr) (ts:TS) (ρ:zw) (cs:List OC) (O:MEnds):Prop:=Sep f Ds->∀ (σ:St) (H H2:Hp) (E:Ends),CM w K f Ds H2 ρ cs σ H ->
 (∀ ρ' cs' σ' H',CM w K f Ds H2 ρ' cs' σ' H'->O.nx ρ' cs'->E.nx σ' H')->(∀ d v ρ' cs' σ' H',CM w K f Ds H2 ρ' cs' σ' H'->Rep K (hide H' f) d v->O.rt d->E.rt v H') ->
 (∀ ρ' cs' σ' H',CM w K f Ds H2 ρ' cs' σ' H'->O.bk ρ' cs'->E.bk σ' H')->(∀ ρ' cs' σ' H',CM w K f Ds H2 ρ' cs' σ' H'->O.ct ρ' cs'->E.ct σ' H')->ts E σ H
def PTm (w:World) (K:apT) (f:Fx) (Ds:List Addr) (tt:TT) (ρ:zw) (cs:List OC) (B:Bool->Prop):Prop:=Sep f Ds->∀ (σ:St) (H H2:Hp) (Q:Bool->Hp->Prop),CM w K f Ds H2 ρ cs σ H->(∀ b H',Goes (f.withs Ds) H H'->B b->Q b H')->tt σ H Q
def PEm (w:World) (K:apT) (f:Fx) (Ds:List Addr) (te:TE) (ρ:zw) (cs:List OC) (P:PyData->Prop):Prop:=Sep f Ds->∀ (σ:St) (H H2:Hp) (Q:VK),CM w K f Ds H2 ρ cs σ H->(∀ d v H',Goes (f.withs Ds) H H'->Rep K (hide H' (f.withs Ds)) d v->P d->Q v H')->te σ H Q
def adI (w:World) (K:apT) (f:Fx) (te:TE) (ρ:zw) (P:OC->Prop):Prop:=∀ (σ:St) (H:Hp) (Q:VK),EnvOk K f ρ σ H ->
 (∀ c D H',Goes f H H'->H D=none->OwnAt w K (hide H' (f.with D)) H' D c->P c->Q (.ref D) H')->te σ H Q
section
variable {w:World} {K:apT} {f:Fx} {Ds:List Addr} {ρ:zw} {cs:List OC} {ts tu:TS} {tt:TT} {te:TE} {wi:TI} {g:TG} {O:MEnds} {i j:Nat}
theorem same_withs {H:Hp}:Same (hide H (f.withs Ds)) (hide H f):=fun b o h=>by
 obtain⟨h1,h2⟩:=zH h
 exact zz (fun z=>h1 (z.elim .inl fun z=>.inr (aqe _ z))) h2
theorem afK {D:DEnds} (h:PSm w K f [] ts ρ [] { nx:=fun ρ' _=>D.nx ρ',rt:=D.rt,bk:=fun ρ' _=>D.bk ρ',ct:=fun ρ' _=>D.ct ρ' }):PSd K f ts ρ D:=fun σ H E e n r b k=>by
 have gg:∀ {ρ':zw} {cs':List OC} {σ':St} {H':Hp},CM w K f [] H ρ' cs' σ' H'->Goes f H H':=fun x=>⟨x.sm,x.env.fd,x.kp⟩
 exact h ⟨aq6,(fun _ z=>nomatch z),(fun _ z=>nomatch z)⟩ σ H H E ⟨e,Same.refl _,fun _ _=>rfl,rfl,(fun i D c z=>nomatch z)⟩
  (fun ρ' cs' σ' H' x p=>n ρ' σ' H' (gg x) x.env p) (fun d v ρ' cs' σ' H' x r' p=>r d v H' (gg x) r' p) (fun ρ' cs' σ' H' x p=>b ρ' σ' H' (gg x) x.env p) (fun ρ' cs' σ' H' x p=>k ρ' σ' H' (gg x) x.env p)
theorem abF (h:PSd K (f.withs Ds) ts ρ { nx:=fun ρ'=>O.nx ρ' cs,rt:=O.rt,bk:=fun ρ'=>O.bk ρ' cs,ct:=fun ρ'=>O.ct ρ' cs }):PSm w K f Ds ts ρ cs O:=fun se σ H H2 E x n r b k =>
 h σ H E x.env (fun ρ' σ' H' g' e' p=>n ρ' cs σ' H' (x.go g' e') p) (fun d v H' g' r' p=>r d v ρ cs σ H' (x.go g' (x.env.mono g')) (Rep.mono same_withs d v r') p) (fun ρ' σ' H' g' e' p=>b ρ' cs σ' H' (x.go g' e') p) (fun ρ' σ' H' g' e' p=>k ρ' cs σ' H' (x.go g' e') p)
theorem v7 (h:PSm w K f Ds ts ρ cs { O with nx:=fun ρ' cs'=>PSm w K f Ds tu ρ' cs' O }):PSm w K f Ds (qf ts tu) ρ cs O:=fun se σ H H2 E x n r b k =>
 h se σ H H2 _ x (fun ρ' cs' σ' H' x' p=>p se σ' H' H2 E x' n r b k) r b k
theorem ajO (h:O.nx ρ cs):PSm w K f Ds acu ρ cs O:=fun _ σ H H2 E x n r b k=>n ρ cs σ H x h
theorem apH {B:Bool->Prop} (h:PTd K (f.withs Ds) tt ρ B):PTm w K f Ds tt ρ cs B:=fun se σ H H2 Q x q=>h σ H Q x.env q
theorem ajP {P:PyData->Prop} (h:PEd K (f.withs Ds) te ρ P):PEm w K f Ds te ρ cs P:=fun se σ H H2 Q x q=>h σ H Q x.env q
theorem ao9 (h:PTm w K f Ds tt ρ cs fun b=>if b=true then PSm w K f Ds ts ρ cs O else PSm w K f Ds tu ρ cs O):PSm w K f Ds (aed tt ts tu) ρ cs O:=fun se σ H H2 E x n r b k =>
 h se σ H H2 _ x fun q H1 g1 p=>by
  have x1:=x.go g1 (x.env.mono g1)
  cases q with
  | false =>
   rw [if_neg apQ] at p ⊢
   exact p se σ H1 H2 E x1 n r b k
  | true =>
   rw [if_pos rfl] at p ⊢
   exact p se σ H1 H2 E x1 n r b k
theorem aeE (h:PId K (f.withs Ds) wi ρ fun ds=>∃ J:Nat->zw->List OC->Prop,J 0 ρ cs /\
   (∀ (i:Nat) d ρ' cs',ds[i]?=some d->J i ρ' cs'->PGd K (f.withs Ds) g d ρ' fun ρ2=>PSm w K f Ds ts ρ2 cs' { O with nx:=J (i+1),ct:=J (i+1),bk:=O.nx })/\∀ ρ' cs',J ds.length ρ' cs'->O.nx ρ' cs') :
  PSm w K f Ds (ahF wi g ts) ρ cs O:=fun se σ H H2 E x n r b k=>h σ H _ x.env fun ds J H1 g1 it ⟨Jv,j0,js,jd⟩=>by
 have x1:=x.go g1 (x.env.mono g1)
 refine⟨fun i m σ' H'=>∃ ρ' cs',CM w K f Ds H2 ρ' cs' σ' H'/\Same (hide H1 (f.withs Ds)) (hide H' (f.withs Ds))/\Jv i ρ' cs'/\m+i=ds.length,⟨ds.length,ρ,cs,x1,Same.refl _,j0,rfl⟩,fun i m σ' H' ⟨ρ',cs',x',sm',p,hm⟩=>?_⟩
 by_cases hi:i<ds.length
 ·obtain⟨hgo,hy⟩:=it.go (f.withs Ds) H' i _ x'.env.fd sm' (apO hi)
  refine .inr ⟨hgo,fun σ2 H3=>∃ ρ2 cs2,CM w K f Ds H2 ρ2 cs2 σ2 H3/\Same (hide H1 (f.withs Ds)) (hide H3 (f.withs Ds))/\Jv (i+1) ρ2 cs2,fun σ2 H3 ⟨ρ2,cs2,e2,g2,p2⟩=>⟨m - 1,by omega,ρ2,cs2,e2,g2,p2,by omega⟩,fun v H3 hx=>?_⟩
  obtain⟨g3,r3⟩:=hy v H3 hx
  have x3:=x'.go g3 (x'.env.mono g3)
  refine js i _ ρ' cs' (apO hi) p σ' H3 v _ x3.env r3 fun ρ2 σ2 H4 g4 e4 p4=>?_
  have x4:=x3.go g4 e4
  have sm4:=(sm'.trans g3.sm).trans g4.sm
  exact p4 se σ2 H4 H4 _ x4.self (fun ρ5 cs5 σ5 H5 x5 p5=>⟨ρ5,cs5,x4.trans x5,sm4.trans x5.sm,p5⟩) (fun d v ρ5 cs5 σ5 H5 x5 r5 p5=>r d v ρ5 cs5 σ5 H5 (x4.trans x5) r5 p5) (fun ρ5 cs5 σ5 H5 x5 p5=>n ρ5 cs5 σ5 H5 (x4.trans x5) p5) (fun ρ5 cs5 σ5 H5 x5 p5=>⟨ρ5,cs5,x4.trans x5,sm4.trans x5.sm,p5⟩)
 ·have ei:i=ds.length:=by omega
  subst ei
  exact .inl ⟨it.st (f.withs Ds) H' x'.env.fd sm',n ρ' cs' σ' H' x' (jd ρ' cs' p)⟩
theorem ag1 {tb:TS} (J:zw->List OC->Prop) (μ:zw->List OC->Nat) (h0:J ρ cs)
  (hs:∀ ρ' cs',J ρ' cs'->PTm w K f Ds tt ρ' cs' fun b=>if b=true then PSm w K f Ds tb ρ' cs' { O with nx:=fun r c=>J r c/\μ r c<μ ρ' cs',ct:=fun r c=>J r c/\μ r c<μ ρ' cs',bk:=O.nx } else O.nx ρ' cs'):PSm w K f Ds (aiO tt tb) ρ cs O:=fun se σ H H2 E x n r b k=>by
 refine⟨fun m σ' H'=>∃ ρ' cs',CM w K f Ds H2 ρ' cs' σ' H'/\J ρ' cs'/\m=μ ρ' cs',⟨_,ρ,cs,x,h0,rfl⟩,?_⟩
 rintro m σ1 H1 ⟨ρ1,cs1,x1,j1,rfl⟩
 refine hs ρ1 cs1 j1 se σ1 H1 H2 _ x1 fun t H3 g3 p=>?_
 have x3:=x1.go g3 (x1.env.mono g3)
 cases t with
 | true =>
  rw [if_pos rfl] at p ⊢
  refine⟨fun σ' H'=>∃ ρ' cs',CM w K f Ds H2 ρ' cs' σ' H'/\J ρ' cs'/\μ ρ' cs'<μ ρ1 cs1,fun σ' H' ⟨ρ',cs',x',j',l'⟩=>⟨_,l',ρ',cs',x',j',rfl⟩,?_⟩
  exact p se σ1 H3 H2 _ x3 (fun ρ5 cs5 σ5 H5 x5 p5=>⟨ρ5,cs5,x5,p5⟩) r (fun ρ5 cs5 σ5 H5 x5 p5=>n ρ5 cs5 σ5 H5 x5 p5) (fun ρ5 cs5 σ5 H5 x5 p5=>⟨ρ5,cs5,x5,p5⟩)
 | false =>
  rw [if_neg apQ] at p ⊢
  exact n ρ1 cs1 σ1 H3 x3 p
theorem jT {σ:St} {H H2:Hp} {D:Addr} (hi:ρ[i]?=some (some (.own (f.M.length+j)))) (x:CM w K f Ds H2 ρ cs σ H) (hD:Ds[j]?=some D):σ[i]?=some (some (.ref D)):=by
 obtain⟨v,h1,p,h2,rfl⟩:=x.env.get i _ hi
 have e:(f.withs Ds).M.reverse[f.M.length+j]?=some D:=by
  show (Ds.reverse++f.M).reverse[f.M.length+j]?=some D
  rw [arN,asz,ap2 (by simp)]
  simpa using hD
 rw [e] at h2
 cases h2
 exact h1
theorem am1 {es:List PyData} (hi:ρ[i]?=some (some (.own (f.M.length+j)))) (hc:cs[j]?=some (.lst es)) (hl:es.length<1000) (h:PEm w K f Ds te ρ cs fun d=>O.nx ρ (cs.set j (.lst (es++[d])))):PSm w K f Ds (abc (tBM K "list" aaZ (yr i) (zV te yQ))) ρ cs O:=fun se σ H H2 E x n r b k=>by
 have hj:j<Ds.length:=by rw [<-x.len];exact (apS.mp hc).1
 have hD:Ds[j]?=some Ds[j]:=apO hj
 obtain⟨vs0,h0,_⟩:=x.own j _ _ hD hc
 refine⟨_,jT hi x hD,Or.inl ⟨rfl,vs0,.of h0⟩,?_⟩
 refine h se σ H H2 _ x fun d v H1 g1 r1 p1=>?_
 have x1:=x.go g1 (x.env.mono g1)
 obtain⟨vs,h1,h2⟩:=x1.own j _ _ hD hc
 refine⟨_,vs,v,rfl,rfl,h1,yc (by rw [h2.length];omega),n _ _ _ _ (x1.put se hD (o:=.lst (vs++[v])) (c':=.lst (es++[d])) ⟨vs++[v],zB,h2.snoc r1⟩) p1⟩
theorem CM.more {σ:St} {H H1 H2:Hp} {D:Addr} {c:OC} (x:CM w K f Ds H2 ρ cs σ H) (g:Goes (f.withs Ds) H H1) (hn:H D=none) (ho:OwnAt w K (hide H1 ((f.withs Ds).with D)) H1 D c) (hi:i<ρ.length) :
  CM w K f (Ds++[D]) H1 (ρ.set i (some (.own (f.M.length+Ds.length)))) (cs++[c]) (σ.set i (some (.ref D))) H1:=by
 have nD:¬ ((f.withs Ds).f=some D \/ D∈(f.withs Ds).M):=fresh_ne x.env.fd hn
 have sm0:Same (hide H (f.withs Ds)) (hide H1 (f.withs (Ds++[D]))):=fun b o hb=>by
  have hb1:=g.sm b o hb
  rw [yx]
  refine zz (fun z=>?_) (zH hb1).2
  rcases z with z | z
  ·exact (zH hb1).1 (.inl z)
  ·rcases ap0.mp z with rfl | z
   ·have:=(zH hb).2
    rw [hn] at this
    cases this
   ·exact (zH hb1).1 (.inr z)
 have hD1:∃ o,H1 D=some o:=by
  cases c with
  | lst es=>exact⟨_,ho.choose_spec.1⟩
  | set ks=>exact⟨_,ho.choose_spec.1⟩
  | dic kvs=>exact⟨_,ho.choose_spec.1⟩
 have fo1:FOk (f.withs (Ds++[D])) H1:=by
  rw [yx]
  refine⟨g.ok.fd,fun b hb=>?_,fun q eq hq=>?_⟩
  ·rcases ap0.mp hb with rfl | hb
   ·exact hD1
   ·exact g.ok.mm b hb
  ·rcases ap0.mp hq with rfl | hq
   ·exact nD (.inl eq)
   ·exact g.ok.nm q eq hq
 have rev:(f.withs (Ds++[D])).M.reverse=(f.withs Ds).M.reverse++[D]:=by
  rw [yx]
  show (D :: (f.withs Ds).M).reverse=_
  rw [atR]
 have lenr:(f.withs Ds).M.reverse.length=f.M.length+Ds.length:=by
  show (Ds.reverse++f.M).reverse.length=_
  simp
 have e1:EnvOk K (f.withs (Ds++[D])) ρ σ H1:=⟨x.env.len,fun q y hy=>by
  obtain⟨v,a1,a2⟩:=x.env.get q y hy
  refine⟨v,a1,?_⟩
  cases y with
  | dat d=>exact Rep.mono sm0 d v a2
  | feed=>exact a2
  | exc C =>
   obtain⟨b,h3,h4⟩:=a2
   exact⟨b,h3,sm0 _ _ h4⟩
  | mon φ=>exact fun H' s=>a2 H' (sm0.trans s)
  | own k =>
   obtain⟨b,h3,h4⟩:=a2
   refine⟨b,?_,h4⟩
   rw [rev,ap1 (apS.mp h3).1]
   exact h3,fo1⟩
 have rv:RepV K (f.withs (Ds++[D])) H1 (.own (f.M.length+Ds.length)) (.ref D):=⟨D,by
  rw [rev,ap2 (by omega),lenr,arz]
  rfl,rfl⟩
 refine⟨e1.set i rv,Same.refl _,fun _ _=>rfl,by simp [x.len],fun q D' c' h1 h2=>?_⟩
 by_cases hq:q<Ds.length
 ·rw [ap1 hq] at h1
  rw [ap1 (by rw [x.len];exact hq)] at h2
  exact (x.own q D' c' h1 h2).mono (g.kp D' (yY (apZ h1))) sm0
 ·by_cases hq2:q=Ds.length
  ·subst hq2
   rw [ap2 (apY _),arz] at h1
   rw [ap2 (by rw [x.len];exact apY _),x.len,arz] at h2
   cases h1
   cases h2
   rw [yx]
   exact ho
  ·rw [aqc (by simp;omega)] at h1
   cases h1
theorem Sep.more {H:Hp} {D:Addr} (se:Sep f Ds) (fo:FOk (f.withs Ds) H) (hn:H D=none):Sep f (Ds++[D]):=by
 have nD:=fresh_ne fo hn
 refine⟨aqY.mpr ⟨se.nd,by simp,fun a ha b hb=>?_⟩,fun D' h=>?_,fun D' h=>?_⟩
 ·rw [aqj.mp hb]
  intro z
  exact nD (.inr (yY (z▸ha)))
 ·rcases aqh.mp h with h | h
  ·exact se.nf D' h
  ·rw [aqj.mp h];exact fun z=>nD (.inl z)
 ·rcases aqh.mp h with h | h
  ·exact se.nm D' h
  ·rw [aqj.mp h];exact fun z=>nD (.inr (aqe _ z))
theorem CM.less {σ σ':St} {H H1 H2 H':Hp} {D:Addr} {ρ':zw} {cs':List OC} (x:CM w K f Ds H2 ρ cs σ H) (g:Goes (f.withs Ds) H H1) (hn:H D=none) (y:CM w K f (Ds++[D]) H1 ρ' cs' σ' H') :
  CM w K f Ds H2 (ρ'.map (yK (f.M.length+Ds.length))) (cs'.take Ds.length) σ' H':=by
 have sub:Same (hide H' (f.withs (Ds++[D]))) (hide H' (f.withs Ds)):=by rw [yx];exact same_with
 have sm1:Same (hide H (f.withs Ds)) (hide H1 (f.withs (Ds++[D]))):=fun b o hb=>by
  have hb1:=g.sm b o hb
  rw [yx]
  refine zz (fun z=>?_) (zH hb1).2
  rcases z with z | z
  ·exact (zH hb1).1 (.inl z)
  ·rcases ap0.mp z with rfl | z
   ·have:=(zH hb).2
    rw [hn] at this
    cases this
   ·exact (zH hb1).1 (.inr z)
 have lenr:(f.withs Ds).M.reverse.length=f.M.length+Ds.length:=by
  show (Ds.reverse++f.M).reverse.length=_
  simp
 have rev:(f.withs (Ds++[D])).M.reverse=(f.withs Ds).M.reverse++[D]:=by
  rw [yx]
  show (D :: (f.withs Ds).M).reverse=_
  rw [atR]
 have fo:FOk (f.withs Ds) H':=by
  have h:=y.env.fd
  rw [yx] at h
  exact⟨h.fd,fun b hb=>h.mm b (apW _ hb),fun p e hp=>h.nm p e (apW _ hp)⟩
 refine⟨⟨by rw [apP];exact y.env.len,fun q z hz=>?_,fo⟩,(x.sm.trans sm1).trans (y.sm.trans sub),fun b hb=>(y.kp b hb).trans ((g.kp b (aqe _ hb)).trans (x.kp b hb)),?_,fun q D' c' h1 h2=>?_⟩
 ·rw [apU] at hz
  cases e:ρ'[q]? with
  | none=>rw [e] at hz;cases hz
  | some z0 =>
   rw [e] at hz
   cases z0 with
   | none=>cases hz
   | some z0 =>
    obtain⟨v,a1,a2⟩:=y.env.get q z0 e
    cases z0 with
    | dat d =>
     cases hz
     exact⟨v,a1,Rep.mono sub d v a2⟩
    | feed =>
     cases hz
     rw [yx] at a2
     exact⟨v,a1,a2⟩
    | exc C =>
     cases hz
     obtain⟨b,h3,h4⟩:=a2
     exact⟨v,a1,b,h3,sub _ _ h4⟩
    | mon φ =>
     cases hz
     exact⟨v,a1,fun H' s=>a2 H' (sub.trans s)⟩
    | own k =>
     have hz':(if k<f.M.length+Ds.length then some (DV.own k) else none)=some z:=Option.some.inj hz
     by_cases hk:k<f.M.length+Ds.length
     ·rw [if_pos hk] at hz'
      cases hz'
      obtain⟨b,h3,h4⟩:=a2
      refine⟨v,a1,b,?_,h4⟩
      rw [rev,ap1 (by omega)] at h3
      exact h3
     ·rw [if_neg hk] at hz'
      cases hz'
 ·rw [aqD,y.len]
  simp
 ·have hq:q<Ds.length:=(apS.mp h1).1
  rw [asK hq] at h2
  exact (y.own q D' c' (by rw [ap1 hq];exact h1) h2).mono rfl sub
theorem ajQ (h:adI w K (f.withs Ds) te ρ fun c=>i<ρ.length/\∀ D,PSm w K f (Ds++[D]) ts (ρ.set i (some (.own (f.M.length+Ds.length)))) (cs++[c]) { nx:=fun ρ' cs'=>O.nx (ρ'.map (yK (f.M.length+Ds.length))) (cs'.take Ds.length),rt:=O.rt,bk:=fun ρ' cs'=>O.bk (ρ'.map (yK (f.M.length+Ds.length))) (cs'.take Ds.length),ct:=fun ρ' cs'=>O.ct (ρ'.map (yK (f.M.length+Ds.length))) (cs'.take Ds.length) }) :
  PSm w K f Ds (qf (jE te (yJ i)) ts) ρ cs O:=fun se σ H H2 E x n r b k =>
 h σ H _ x.env fun c D H1 g1 hn ho ⟨hi,p⟩ =>
  p D (se.more x.env.fd hn) _ H1 H1 E (x.more g1 hn ho hi) (fun ρ' cs' σ' H' y q=>n _ _ σ' H' (x.less g1 hn y) q) (fun d v ρ' cs' σ' H' y r' q=>r d v _ _ σ' H' (x.less g1 hn y) r' q) (fun ρ' cs' σ' H' y q=>b _ _ σ' H' (x.less g1 hn y) q) (fun ρ' cs' σ' H' y q=>k _ _ σ' H' (x.less g1 hn y) q)
theorem aa4 {P:OC->Prop} (h:PEdO K f te ρ fun es=>P (.lst es)):adI w K f te ρ P:=fun σ H Q e q=>h σ H Q e fun es D vs H' g hn h1 rs p=>q (.lst es) D H' g hn ⟨vs,h1,rs⟩ p
def freed (n:Nat) (cs:List OC):Option DV->Option DV
 | some (.own k)=>if k<n then some (.own k) else match cs[k - n]? with
  | some (.lst es)=>some (.dat (.list es))
  | _=>none
 | x=>x
theorem CM.free {σ:St} {H H2:Hp} (se:Sep f Ds) (x:CM w K f Ds H2 ρ cs σ H):EnvOk K f (ρ.map (freed f.M.length cs)) σ H:=by
 have fo:FOk f H:=⟨x.env.fd.fd,fun b hb=>x.env.fd.mm b (aqe _ hb),fun p e hp=>x.env.fd.nm p e (aqe _ hp)⟩
 refine⟨by rw [apP];exact x.env.len,fun q z hz=>?_,fo⟩
 rw [apU] at hz
 cases e:ρ[q]? with
 | none=>rw [e] at hz;cases hz
 | some z0 =>
  rw [e] at hz
  cases z0 with
  | none=>cases hz
  | some z0 =>
   obtain⟨v,a1,a2⟩:=x.env.get q z0 e
   cases z0 with
   | dat d =>
    cases hz
    exact⟨v,a1,Rep.mono same_withs d v a2⟩
   | feed =>
    cases hz
    exact⟨v,a1,a2⟩
   | exc C =>
    cases hz
    obtain⟨b,h3,h4⟩:=a2
    exact⟨v,a1,b,h3,same_withs _ _ h4⟩
   | mon φ =>
    cases hz
    exact⟨v,a1,fun H' s=>a2 H' (same_withs.trans s)⟩
   | own k =>
    obtain⟨b,h3,h4⟩:=a2
    have h3':(Ds.reverse++f.M).reverse[k]?=some b:=h3
    rw [arN,asz] at h3'
    have hz':(if k<f.M.length then some (DV.own k) else match cs[k - f.M.length]? with | some (.lst es)=>some (.dat (.list es)) | _=>none)=some z:=Option.some.inj hz
    by_cases hk:k<f.M.length
    ·rw [if_pos hk] at hz'
     cases hz'
     rw [ap1 (by simpa using hk)] at h3'
     exact⟨v,a1,b,h3',h4⟩
    ·rw [if_neg hk] at hz'
     rw [ap2 (by simpa using atA.mp hk),atp] at h3'
     cases ec:cs[k - f.M.length]? with
     | none=>rw [ec] at hz';cases hz'
     | some c =>
      rw [ec] at hz'
      cases c with
      | lst es =>
       cases hz'
       obtain⟨vs,h5,h6⟩:=x.own _ _ _ h3' ec
       have hb:=apZ h3'
       exact⟨v,a1,rep_list.mpr ⟨b,vs,h4,.of (zz (fun z=>z.elim (se.nf b hb) (se.nm b hb)) h5),Reps.mono same_withs es vs h6⟩⟩
      | set ks=>cases hz'
      | dic kvs=>cases hz'
theorem CM.goF {σ:St} {H H2 H':Hp} (se:Sep f Ds) (x:CM w K f Ds H2 ρ cs σ H) (g:Goes f H H'):CM w K f Ds H2 ρ cs σ H':=by
 have keep:∀ b∈Ds,H' b=H b:=fun b hb=>by
  obtain⟨o,ho⟩:=x.env.fd.mm b (yY hb)
  rw [ho]
  exact (zH (g.sm b o (zz (fun z=>z.elim (se.nf b hb) (se.nm b hb)) ho))).2
 have g2:Goes (f.withs Ds) H H':=⟨fun b o hb=>by
   have hb':=zH hb
   have:=zH (g.sm b o (same_withs b o hb))
   exact zz hb'.1 this.2,⟨g.ok.fd,fun b hb=>by
   rcases aqh.mp hb with hb | hb
   ·obtain⟨o,ho⟩:=x.env.fd.mm b (arq _ hb)
    exact⟨o,by rw [keep b (aqF.mp hb)];exact ho⟩
   ·exact g.ok.mm b hb,x.env.fd.nm⟩,fun b hb=>by
   rcases aqh.mp hb with hb | hb
   ·exact keep b (aqF.mp hb)
   ·exact g.kp b hb⟩
 exact x.go g2 (x.env.mono g2)
theorem ajR (h:PSd K f ts (ρ.map (freed f.M.length cs)) { nx:=fun _=>False,rt:=O.rt }):PSm w K f Ds ts ρ cs O:=fun se σ H H2 E x n r b k =>
 h σ H E (x.free se) (fun _ _ _ _ _ z=>z.elim) (fun d v H' g' r' p=>r d v ρ cs σ H' (x.goF se g') r' p) (fun _ _ _ _ _ z=>z.elim) (fun _ _ _ _ _ z=>z.elim)
end
def ah3 (w:World) (K:apT) (f:Fx) (Ds:List Addr) (ts:TS) (ρ:zw) (cs:List OC) (R:List PyData->Prop):Prop:=Sep f Ds->∀ (σ:St) (H H2:Hp) (E:Ends),CM w K f Ds H2 ρ cs σ H ->
 (∀ es D vs ρ' cs' σ' H0 H',CM w K f Ds H2 ρ' cs' σ' H0->Goes f H0 H'->H0 D=none->H' D=some (.lst vs)->Reps K (hide H' (f.with D)) es vs->R es->E.rt (.ref D) H')->ts E σ H
section
variable {w:World} {K:apT} {f:Fx} {Ds:List Addr} {ρ:zw} {cs:List OC} {ts tu:TS} {te:TE} {R:List PyData->Prop} {i:Nat}
theorem alE (h:ah3 w K f [] ts ρ [] R):PSn K f ts ρ R:=fun σ H E e q=>by
 refine h ⟨aq6,(fun _ z=>nomatch z),(fun _ z=>nomatch z)⟩ σ H H E ⟨e,Same.refl _,fun _ _=>rfl,rfl,(fun i D c z=>nomatch z)⟩ fun es D vs ρ' cs' σ' H0 H' x g hn h1 rs p=>?_
 have g0:Goes f H H0:=⟨x.sm,x.env.fd,x.kp⟩
 exact q es D vs H' (g0.trans g) (g0.free e.fd hn) h1 rs p
theorem aob (h:PSm w K f Ds ts ρ cs { nx:=fun ρ' cs'=>ah3 w K f Ds tu ρ' cs' R,rt:=fun _=>False }):ah3 w K f Ds (qf ts tu) ρ cs R:=fun se σ H H2 E x q =>
 h se σ H H2 _ x (fun ρ' cs' σ' H' x' p=>p se σ' H' H2 E x' q) (fun _ _ _ _ _ _ _ _ z=>z.elim) (fun _ _ _ _ _ z=>z.elim) (fun _ _ _ _ _ z=>z.elim)
theorem ajS (h:adI w K (f.withs Ds) te ρ fun c=>i<ρ.length/\∀ D,ah3 w K f (Ds++[D]) ts (ρ.set i (some (.own (f.M.length+Ds.length)))) (cs++[c]) R) :
  ah3 w K f Ds (qf (jE te (yJ i)) ts) ρ cs R:=fun se σ H H2 E x q =>
 h σ H _ x.env fun c D H1 g1 hn ho ⟨hi,p⟩ =>
  p D (se.more x.env.fd hn) _ H1 H1 E (x.more g1 hn ho hi) fun es D' vs ρ' cs' σ' H0 H' y g hn' h1 rs pr=>q es D' vs _ _ σ' H0 H' (x.less g1 hn y) g hn' h1 rs pr
theorem alF (h:PSn K f ts (ρ.map (freed f.M.length cs)) R):ah3 w K f Ds ts ρ cs R:=fun se σ H H2 E x q =>
 h σ H E (x.free se) fun es D vs H' g hn h1 rs p=>q es D vs ρ cs σ H H' x g hn h1 rs p
end
theorem SetO.ok {P:Program} {w:World} {H:Hp} {h:Heap} {a:Addr} {xs:List (PyData×Addr)} {o:Obj} {es:Array (Int×Value)} {ep:Nat} {t:SetTable} (S:SetObj w h a xs o es ep t):ObjOk P w H h a (SetO w a xs) :=
 ⟨⟨o,es,ep,t,S⟩,⟨o,S.ob⟩,fun h1 h2 ⟨o,es,ep,t,S⟩ k=>⟨o,es,ep,t,⟨k o S.ob,S.ex,S.da,S.el,S.ok⟩⟩⟩
theorem aax (led:Bool):ST.TOk (SetTable.fresh 0 0 led) [] where
 mask:=.inl rfl
 dum:=rfl
 rise:=fun i j _ hj=>absurd hj (ari _)
 le:=fun i hi=>absurd hi (ari _)
 size:=rfl
 most:=aqu _
 reach:=fun i hi=>absurd hi (ari _)
 room:=by show 0 * 5<7 * 3;decide
def adJ (w:World):List V->Hp->VK->Prop:=fun xs H Q=>xs=[]/\∀ a,H a=none->Q (.ref a) (upd H a (SetO w a []))
theorem aeF {X:Cx}:z6 X (.type "set") (adJ X.w):=by
 intro pins s σ H xs us Q I r h
 obtain⟨rfl,q⟩:=h
 cases r
 refine call_set_0 fun led=>?_
 refine⟨.ref s.heap.objs.size,_,I.laid (t':=s.toks) (fun b u e=>apV _ e) (apY _) (SetO.ok (xs:=[]) (o:={ cls:=.type "set",dict:=none,data:=.set #[] 0 (.fresh 0 0 led) }) (es:=#[]) (ep:=0) (t:=.fresh 0 0 led) ⟨ap7 _ rfl,⟨rfl,rfl,rfl⟩,rfl,rfl,aax led⟩),rfl,q _ (I.hok.fresh (apY _))⟩
def abG (d:PyData):Prop:=vT d/\∃ xs,d=.tuple xs
theorem qD {K:apT} {H:Hp} {d:PyData} {v:V} (k:abG d) (r:Rep K H d v):∃ b,v=.ref b:=by
 obtain⟨_,xs,rfl⟩:=k
 obtain⟨a,_,e,_⟩:=rep_tuple.mp r
 exact⟨a,e⟩
theorem qi {X:Cx} {pins:List (Addr×Obj)} {σ:St} {H:Hp} {s:Shared} {d:PyData} {b:Addr} (I:Inv X pins σ H s) (k:vT d) (r:Rep X.K H d (.ref b)):KeyAt s.heap d b:=by
 obtain⟨as,ra⟩:=yM I d (.ref b) (.ref b) r rfl
 exact⟨⟨as,ra⟩,k.1,k.2⟩
def aoc (w:World) (K:apT) (neg:Bool):R2:=fun x y H Q=>∃ a b d xs,x=.ref b/\y=.ref a/\H a=some (SetO w a xs)/\(∀ z∈xs,vT z.1/\Rep K H z.1 (.ref z.2))/\vT d/\Rep K H d (.ref b)/\Q (.bl (if neg then !decide (d∈xs.map (·.1)) else decide (d∈xs.map (·.1)))) H
theorem alG {X:Cx} (hu:X.A.units+64<cLine) {pins:List (Addr×Obj)} {s:Shared} {σ:St} {H:Hp} {a b:Addr} {d:PyData} {xs:List (PyData×Addr)} (I:Inv X pins σ H s) (hS:H a=some (SetO X.w a xs)) (ks:∀ z∈xs,vT z.1/\Rep X.K H z.1 (.ref z.2)) (kd:vT d) (rd:Rep X.K H d (.ref b)) {Q:Bool->Shared->Prop} {E:Value->Shared->Prop}
  (q:Q (decide (d∈xs.map (·.1))) { s with toks:=s.toks+yd d }):wpAny (model X.prog X.w) X.A (contains (.ref a) (.ref b)) Q E s:=by
 obtain⟨⟨o,es,ep,t,S⟩,_⟩:=I.hok a _ hS
 exact aeD S (fun x hx=>qi I (ks x hx).1 (ks x hx).2) (qi I kd rd) (by omega) q
theorem ah4 {X:Cx} (hu:X.A.units+64<cLine):OpR X (compareOp .NotIn) (aoc X.w X.K true):=by
 intro pins s σ H x y v u Q I rx ry h
 obtain⟨a,b,d,xs,rfl,rfl,hS,ks,kd,rd,q⟩:=h
 cases rx
 cases ry
 show wpAny _ _ (do return Value.bool (!(<- contains (.ref a) (.ref b)))) _ _ s
 apply wpAny_bind
 exact alG hu I hS ks kd rd (wpAny_pure ⟨.bl _,H,I.tok _,rfl,q⟩)
theorem afL {X:Cx} {K:apT} {w:World} (hw:X.w=w) (hK:X.K=K) (hu:X.A.units+64<cLine):OpR X (compareOp .NotIn) (aoc w K true):=hw▸hK▸ah4 hu
def ajT (w:World) (K:apT):V->List V->Hp->VK->Prop:=fun x ys H Q=>∃ a b d xs,x=.ref a/\ys=[.ref b]/\H a=some (SetO w a xs)/\(∀ z∈xs,vT z.1/\Rep K H z.1 (.ref z.2))/\vT d/\Rep K H d (.ref b)/\xs.length<300 /\
 (d∈xs.map (·.1)->Q .non H)/\(d∉xs.map (·.1)->∀ xs',xs'.Perm ((d,b) :: xs)->Q .non (upd H a (SetO w a xs')))
theorem alH {X:Cx} (hu:X.A.units+64<cLine):MtR X "set.add" (ajT X.w X.K):=by
 intro pins s σ H x ys v us Q I rx ry h
 obtain⟨a,b,d,xs,rfl,rfl,hS,ks,kd,rd,few,q1,q2⟩:=h
 obtain⟨u,rfl,ru⟩:=vals1 ry
 cases rx
 cases ru
 obtain⟨⟨o,es,ep,t,S⟩,_⟩:=I.hok a _ hS
 refine aoa S (fun x hx=>qi I (ks x hx).1 (ks x hx).2) (qi I kd rd) (by omega) few (fun hd=>⟨.non,H,I.tok _,rfl,q1 hd⟩) fun hd xs' o' es' ep' t' h' pm sb S'=>?_
 refine⟨.non,_,I.write (t':=s.toks+yd d) (x:=a) (e:=a) (by rw [hS];exact trivial) (.inl rfl) (fun b u nb e=>(sb.2 b nb).trans e) ⟨o',S'.ob⟩ (SetO.ok S'),rfl,q2 hd xs' pm⟩
theorem ajU {X:Cx} {K:apT} {w:World} (hw:X.w=w) (hK:X.K=K) (hu:X.A.units+64<cLine):MtR X "set.add" (ajT w K):=hw▸hK▸alH hu
theorem adK {X:Cx} {w:World} (hw:X.w=w):z6 X (.type "set") (adJ w):=hw▸aeF
def apa (w:World) (r:V->List V->Hp->VK->Prop) (to:TE) (t:TA):TE:=fun σ H Q=>to σ H fun x H1=>(∃ a xs,x=.ref a/\H1 a=some (SetO w a xs))/\t σ H1 fun xs H2=>r x xs H2 Q
theorem aod {X:Cx} {w:World} {o e:Expr} {es:List Expr} {to:TE} {t:TA} {name:Str} {apos cpos:Pos} {id:String} {r:V->List V->Hp->VK->Prop} (hw:X.w=w) (slot:Slot "set" name id) (hty:typeOf (.builtin id)=pure (.type "method_descriptor")) (hm:MtR X id r) (ho:PE X o to) (ha:PA X (e :: es) t)
  (hbase:attributeBase o name X.env (eval o X.env)=eval o X.env:=by rfl)
  (hfew:((backTo cpos (starEach (e :: es) X.env)).all (fun x=>!x.1) && (backToKw cpos (keywordEach [] X.env)).all (fun x=>x.1.isSome)
   && decide ((e :: es).length+([]:List Keyword).length+(if ([]:List Keyword).isEmpty then 0 else 1)<30))=true:=by rfl)
  (hline:(apos.endLine == cpos.line)=true:=by rfl) (hs:starEach (e :: es) X.env=(false,eval e X.env) :: starEach es X.env:=by rfl) (hplain:(backTo cpos (starEach es X.env)).any (·.1)=false:=by rfl) :
  PE X (.Call (.Attribute o name apos) (e :: es) [] cpos) (apa w r to t):=by
 subst hw
 intro pins s σ H Q I h
 refine wpAny_Call_method_late hbase hfew hline rfl (thn (ho pins s σ H _ I h) fun v s1 ⟨x,H1,I1,r1,ty,q1⟩=>?_)
 obtain⟨a,xs,rfl,hS⟩:=ty
 cases r1
 obtain⟨⟨ob,es',ep,t',S⟩,_⟩:=I1.hok a _ hS
 refine⟨"set",id,PySem.F.plainAttrs_set,slot,hty,⟨ob,S.ob,S.ex.1⟩,fun b e=>?_,?_⟩
 ·cases e
  exact⟨ob,S.ob,S.ex.2.1⟩
 have hA:=ha cpos pins s1 σ H1 _ I1 q1
 rw [hs] at hA ⊢
 refine asV (by show (false || (backTo cpos (starEach es X.env)).any (·.1))=false;rw [hplain] <;> rfl) (aut ?_)
 exact thn hA fun us s2 ⟨vs,H2,I2,r2,q2⟩=>hm pins s2 σ H2 (.ref a) vs (.ref a) us Q I2 rfl r2 q2
section
variable {w:World} {K:apT} {f:Fx} {Ds:List Addr} {ρ:zw} {cs:List OC} {te:TE} {O:MEnds} {i j:Nat} {ks:List PyData}
theorem aoe {P:OC->Prop} (p:P (.set [])):adI w K f (tCB (adJ w) yQ) ρ P:=fun σ H Q e q =>
 ⟨rfl,fun a hn=>q (.set []) a _ (.of_same (z4 hn _) e.fd) hn ⟨[],zB,(fun _ z=>nomatch z),(fun d=>Iff.rfl),apY 0⟩ p⟩
theorem apb {neg:Bool} {B:Bool->Prop} (hi:ρ[i]?=some (some (.own (f.M.length+j)))) (hc:cs[j]?=some (.set ks)) (h:PEm w K f Ds te ρ cs fun d=>abG d/\B (if neg then !decide (d∈ks) else decide (d∈ks))) :
  PTm w K f Ds (aiU (tOp (aoc w K neg) te (yr i))) ρ cs B:=fun se σ H H2 Q x q=>by
 have hj:j<Ds.length:=by rw [<-x.len];exact (apS.mp hc).1
 have hD:Ds[j]?=some Ds[j]:=apO hj
 refine h se σ H H2 _ x fun d v H1 g1 r1 ⟨kd,p⟩=>?_
 have x1:=x.go g1 (x.env.mono g1)
 obtain⟨b,rfl⟩:=qD kd r1
 obtain⟨xs,h1,h2,h3,_⟩:=x1.own j _ _ hD hc
 refine⟨_,jT hi x1 hD,Ds[j],b,d,xs,rfl,rfl,h1,fun z hz=>⟨(h2 z hz).1,Rep.mono (zj _ _) _ _ (h2 z hz).2⟩,kd.1,Rep.mono (zj _ _) _ _ r1,_,rfl,?_⟩
 have:decide (d∈xs.map (·.1))=decide (d∈ks):=decide_eq_decide.mpr (h3 d)
 rw [this]
 exact q _ H1 g1 p
theorem apc (hi:ρ[i]?=some (some (.own (f.M.length+j)))) (hc:cs[j]?=some (.set ks)) (hl:ks.length<300) (h:PEm w K f Ds te ρ cs fun d=>abG d/\(d∈ks->O.nx ρ cs)/\(d∉ks->O.nx ρ (cs.set j (.set (d :: ks))))) :
  PSm w K f Ds (abc (apa w (ajT w K) (yr i) (zV te yQ))) ρ cs O:=fun se σ H H2 E x n r b k=>by
 have hj:j<Ds.length:=by rw [<-x.len];exact (apS.mp hc).1
 have hD:Ds[j]?=some Ds[j]:=apO hj
 obtain⟨xs0,h0,_⟩:=x.own j _ _ hD hc
 refine⟨_,jT hi x hD,⟨Ds[j],xs0,rfl,h0⟩,?_⟩
 refine h se σ H H2 _ x fun d v H1 g1 r1 ⟨kd,p1,p2⟩=>?_
 have x1:=x.go g1 (x.env.mono g1)
 obtain⟨b,rfl⟩:=qD kd r1
 obtain⟨xs,h1,h2,h3,h4⟩:=x1.own j _ _ hD hc
 refine⟨Ds[j],b,d,xs,rfl,rfl,h1,fun z hz=>⟨(h2 z hz).1,Rep.mono (zj _ _) _ _ (h2 z hz).2⟩,kd.1,Rep.mono (zj _ _) _ _ r1,by omega,fun hd=>n _ _ _ _ x1 (p1 ((h3 d).mp hd)),fun hd xs' pm=>n _ _ _ _ (x1.put se hD (c':=.set (d :: ks)) ⟨xs',zB,fun z hz=>?_,fun e=>?_,?_⟩) (p2 fun z=>hd ((h3 d).mpr z))⟩
 ·rcases ap0.mp (pm.mem_iff.mp hz) with rfl | hz
  ·exact⟨kd.1,r1⟩
  ·exact h2 z hz
 ·rw [(pm.map (·.1)).mem_iff,aqf,ap0,ap0,h3 e]
 ·rw [pm.length_eq,ap8,ap8]
  omega
end
theorem DicO.ok {P:Program} {w:World} {H:Hp} {h:Heap} {a:Addr} {xs:List (PyData×Addr×Value)} {o:Obj} {es:Array DictEntry} {ep:Nat} (S:DicObj w h a xs o es ep):ObjOk P w H h a (DicO w a xs) :=
 ⟨⟨o,es,ep,S⟩,⟨o,S.ob⟩,fun h1 h2 ⟨o,es,ep,S⟩ k=>⟨o,es,ep,⟨k o S.ob,S.ex,S.da,S.el,S.nd,S.ns⟩⟩⟩
theorem ag2 {X:Cx} {pins:List (Addr×Obj)} {σ:St} {H:Hp} {s:Shared} (I:Inv X pins σ H s):sysModules<s.heap.objs.size :=
 asD (by decide) (I.ok.mod.glob.keeps I.bk).lt
def ag3 (w:World):TE:=fun _ H Q=>∀ p,H p=none->Q (.ref p) (upd H p (DicO w p []))
theorem acN {X:Cx} {w:World} {pos:Pos} (hw:X.w=w):PE X (.Dict [] [] pos) (ag3 w):=by
 subst hw
 intro pins s σ H Q I h
 refine wpAny_Dict_empty ⟨.ref s.heap.objs.size,_,I.laid (a:=s.heap.objs.size) (t':=s.toks) (fun _ _ q=>apV _ q) (apY _) (DicO.ok (xs:=[]) (o:={ cls:=.type "dict",data:=.dict #[] }) (es:=#[]) (ep:=0) ⟨ap7 _ rfl,⟨rfl,rfl,rfl⟩,rfl,rfl,aq6,beq_eq_false_iff_ne.mpr (arw (aqp (ag2 I)))⟩),rfl,h _ (I.hok.fresh (apY _))⟩
abbrev abH (K:apT) (H:Hp) (xs:List (PyData×Addr×Value)):Prop:=∀ z∈xs,vT z.1/\Rep K H z.1 (.ref z.2.1)
theorem adL {X:Cx} {pins:List (Addr×Obj)} {σ:St} {H:Hp} {s:Shared} {a:Addr} {xs:List (PyData×Addr×Value)} (I:Inv X pins σ H s) (hS:H a=some (DicO X.w a xs)) (ks:abH X.K H xs):s.heap.DictOfH (aa3 X.prog X.w) a xs/\(a == sysModules)=false:=by
 obtain⟨⟨o,es,ep,S⟩,_⟩:=I.hok a _ hS
 exact⟨⟨o,es,ep,S.ob,S.ex,S.da,S.el,fun x hx=>qi I (ks x hx).1 (ks x hx).2,S.nd⟩,S.ns⟩
def aa5 (w:World) (K:apT):V->V->V->Hp->(Hp->Prop)->Prop:=fun o i v H Q=>∃ a b d xs,o=.ref a/\i=.ref b/\H a=some (DicO w a xs)/\abH K H xs/\vT d/\Rep K H d (.ref b)/\xs.length<=1000/\∀ u,RelV v u->Q (upd H a (DicO w a (storedH xs d b u)))
theorem alI {X:Cx} (hu:X.A.units+64<cLine):ald X (aa5 X.w X.K):=by
 intro pins s σ H o i v ov iv u Q I ro ri rv h
 obtain⟨a,b,d,xs,rfl,rfl,hS,ks,kd,rd,hl,q⟩:=h
 cases ro
 cases ri
 obtain⟨hm,ns⟩:=adL I hS ks
 have hu1:X.A.in1.units=X.A.units+1:=rfl
 refine wpAny_setItem_heap (by show _+40<cLine;omega) (qi I kd rd) hm (fun h' hm' sb=>?_) (arv (yc hl))
 obtain⟨o',es',ep',x1,x2,x3,x4,x5,x6⟩:=hm'
 exact⟨_,I.write (t':=s.toks+yd d) (x:=a) (e:=a) (by rw [hS];exact trivial) (.inl rfl) (fun b u nb e=>(sb.2 b nb).trans e) ⟨o',x1⟩ (DicO.ok ⟨x1,x2,x3,x4,x6,ns⟩),q u rv⟩
theorem abI {X:Cx} {K:apT} {w:World} (hw:X.w=w) (hK:X.K=K) (hu:X.A.units+64<cLine):ald X (aa5 w K):=hw▸hK▸alI hu
def afM (w:World) (K:apT):R2:=fun x y H Q=>∃ a b d xs p v,x=.ref a/\y=.ref b/\H a=some (DicO w a xs)/\abH K H xs/\vT d/\Rep K H d (.ref b)/\atKey xs d=some p/\RelV v p.2/\Q v H
theorem aof {X:Cx} (hu:X.A.units+64<cLine):IxR X (afM X.w X.K):=by
 intro value slice pins s σ H x y v u Q I rx ry h hs
 obtain⟨a,b,d,xs,p,z,rfl,rfl,hS,ks,kd,rd,hp,rz,q⟩:=h
 cases rx
 cases ry
 obtain⟨hm,ns⟩:=adL I hS ks
 have hu1:X.A.in1.units=X.A.units+1:=rfl
 refine subscriptTail_builtinR (x:=p.2) hm.typeIs atH.lookup ?_ hs
 exact wpAny_getItem_heap (by show _+40<cLine;omega) (qi I kd rd) hm hp ⟨rfl,z,H,I.tok _,rz,q⟩
theorem alJ {X:Cx} {K:apT} {w:World} (hw:X.w=w) (hK:X.K=K) (hu:X.A.units+64<cLine):IxR X (afM w K):=hw▸hK▸aof hu
def afN (w:World) (K:apT) (neg:Bool):R2:=fun x y H Q=>∃ a b d xs,x=.ref b/\y=.ref a/\H a=some (DicO w a xs)/\abH K H xs/\vT d/\Rep K H d (.ref b)/\Q (.bl (if neg then !(atKey xs d).isSome else (atKey xs d).isSome)) H
theorem ajV {X:Cx} (hu:X.A.units+64<cLine):OpR X (compareOp .In) (afN X.w X.K false):=by
 intro pins s σ H x y v u Q I rx ry h
 obtain⟨a,b,d,xs,rfl,rfl,hS,ks,kd,rd,q⟩:=h
 cases rx
 cases ry
 obtain⟨hm,ns⟩:=adL I hS ks
 have hu1:X.A.in1.units=X.A.units+1:=rfl
 exact wpAny_in_heap (by show _+40<cLine;omega) (qi I kd rd) ns hm ⟨.bl _,H,I.tok _,rfl,q⟩
noncomputable def dput (k v:PyData) (kvs:List (PyData×PyData)):List (PyData×PyData):=if k∈kvs.map (·.1) then kvs.map (fun p=>if p.1=k then (p.1,v) else p) else kvs++[(k,v)]
noncomputable def v8 (k:PyData) (kvs:List (PyData×PyData)):Option PyData:=(kvs.find? fun p=>decide (p.1=k)).map (·.2)
section
variable {K:apT} {Hh:Hp}
theorem aa6:∀ {xs:List (PyData×Addr×Value)} {kvs:List (PyData×PyData)},Paired (EntR K Hh) xs kvs->xs.length=kvs.length
 | _,_,.nil=>rfl
 | _,_,.cons _ t=>by rw [ap8,ap8,aa6 t]
theorem y7:∀ {xs:List (PyData×Addr×Value)} {kvs:List (PyData×PyData)},Paired (EntR K Hh) xs kvs->abH K Hh xs
 | _,_,.nil=>fun z hz=>nomatch hz
 | _,_,.cons h t=>fun z hz=>by
  rcases ap0.mp hz with rfl | hz
  ·exact⟨h.2.1,h.2.2.1⟩
  ·exact y7 t z hz
theorem aa7 (k:PyData):∀ {xs:List (PyData×Addr×Value)} {kvs:List (PyData×PyData)},Paired (EntR K Hh) xs kvs->(atKey xs k=none/\v8 k kvs=none/\k∉kvs.map (·.1)) \/ ∃ p d v,atKey xs k=some p/\v8 k kvs=some d/\Rep K Hh d v/\RelV v p.2/\k∈kvs.map (·.1)
 | _,_,.nil=>.inl ⟨rfl,rfl,fun z=>nomatch z⟩
 | x :: xs,p :: kvs,.cons ⟨h1,h2,h3,v,h4,h5⟩ t=>by
  by_cases e:x.1=k
  ·refine .inr ⟨x.2,p.2,v,?_,?_,h4,h5,?_⟩
   ·unfold atKey;rw [atm,decide_eq_true e];rfl
   ·unfold v8;rw [atm,decide_eq_true (h1▸e)];rfl
   ·rw [aqf];exact ap0.mpr (.inl (h1▸e).symm)
  ·have e':¬ p.1=k:=fun z=>e (h1.trans z)
   have a1:atKey (x :: xs) k=atKey xs k:=by unfold atKey;rw [atm,decide_eq_false e]
   have a2:v8 k (p :: kvs)=v8 k kvs:=by unfold v8;rw [atm,decide_eq_false e']
   rw [a1,a2,aqf]
   rcases aa7 k t with⟨b1,b2,b3⟩ | ⟨q,d,u,b1,b2,b3,b4,b5⟩
   ·exact .inl ⟨b1,b2,fun z=>(ap0.mp z).elim (fun z=>e' z.symm) b3⟩
   ·exact .inr ⟨q,d,u,b1,b2,b3,b4,apW _ b5⟩
theorem ag4 (k:PyData) {d:PyData} {v:V} {u:Value} (rd:Rep K Hh d v) (rv:RelV v u):∀ {xs:List (PyData×Addr×Value)} {kvs:List (PyData×PyData)},Paired (EntR K Hh) xs kvs->Paired (EntR K Hh) (xs.map (putAt k u)) (kvs.map fun p=>if p.1=k then (p.1,d) else p)
 | _,_,.nil=>.nil
 | x :: xs,p :: kvs,.cons ⟨h1,h2,h3,w,h4,h5⟩ t=>by
  rw [aqf,aqf]
  refine .cons ?_ (ag4 k rd rv t)
  unfold putAt
  by_cases e:x.1=k
  ·rw [if_pos e,if_pos (h1▸e)]
   exact⟨h1,h2,h3,v,rd,rv⟩
  ·rw [if_neg e,if_neg (fun z=>e (h1.trans z))]
   exact⟨h1,h2,h3,w,h4,h5⟩
theorem ag5 {x:PyData×Addr×Value} {p:PyData×PyData} (h:EntR K Hh x p):∀ {xs:List (PyData×Addr×Value)} {kvs:List (PyData×PyData)},Paired (EntR K Hh) xs kvs->Paired (EntR K Hh) (xs++[x]) (kvs++[p])
 | _,_,.nil=>.cons h .nil
 | _,_,.cons h' t=>.cons h' (ag5 h t)
theorem ag6 {k d:PyData} {b:Addr} {v:V} {u:Value} (kk:vT k) (rk:Rep K Hh k (.ref b)) (rd:Rep K Hh d v) (rv:RelV v u) {xs:List (PyData×Addr×Value)} {kvs:List (PyData×PyData)} (t:Paired (EntR K Hh) xs kvs):Paired (EntR K Hh) (storedH xs k b u) (dput k d kvs):=by
 unfold storedH dput
 rcases aa7 k t with⟨b1,b2,b3⟩ | ⟨q,d',v',b1,b2,b3,b4,b5⟩
 ·rw [b1,if_neg (by simp),if_neg b3]
  exact ag5 ⟨rfl,kk,rk,v,rd,rv⟩ t
 ·rw [b1,if_pos (show (some q).isSome=true from rfl),if_pos b5]
  exact ag4 k rd rv t
end
section
variable {w:World} {K:apT} {f:Fx} {Ds:List Addr} {ρ:zw} {cs:List OC} {te tk:TE} {O:MEnds} {i j:Nat} {kvs:List (PyData×PyData)}
theorem ajW {P:OC->Prop} (p:P (.dic [])):adI w K f (ag3 w) ρ P:=fun σ H Q e q =>
 fun a hn=>q (.dic []) a _ (.of_same (z4 hn _) e.fd) hn ⟨[],zB,.nil⟩ p
theorem ajX (hi:ρ[i]?=some (some (.own (f.M.length+j)))) (hc:cs[j]?=some (.dic kvs)) (hl:kvs.length<=1000)
  (h:PEd K (f.withs Ds) te ρ fun v=>PEd K (f.withs Ds) tk ρ fun k=>abG k/\O.nx ρ (cs.set j (.dic (dput k v kvs)))) :
  PSm w K f Ds (jE te (ac9 (yr i) tk (aa5 w K))) ρ cs O:=fun se σ H H2 E x n r b k=>by
 have hj:j<Ds.length:=by rw [<-x.len];exact (apS.mp hc).1
 have hD:Ds[j]?=some Ds[j]:=apO hj
 refine h σ H _ x.env fun v vv H1 g1 r1 p1=>?_
 have x1:=x.go g1 (x.env.mono g1)
 refine⟨_,jT hi x1 hD,?_⟩
 refine p1 σ H1 _ x1.env fun kd kv H3 g3 r3 ⟨kt,p3⟩=>?_
 have x3:=x1.go g3 (x1.env.mono g3)
 obtain⟨b',rfl⟩:=qD kt r3
 obtain⟨xs,h1,h2⟩:=x3.own j _ _ hD hc
 have rv:=Rep.mono g3.sm _ _ r1
 refine⟨Ds[j],b',kd,xs,rfl,rfl,h1,fun z hz=>⟨(y7 h2 z hz).1,Rep.mono (zj _ _) _ _ (y7 h2 z hz).2⟩,kt.1,Rep.mono (zj _ _) _ _ r3,by rw [aa6 h2];exact hl,fun u ru=>?_⟩
 exact n _ _ _ _ (x3.put se hD (c':=.dic (dput kd v kvs)) ⟨_,zB,ag6 kt.1 r3 rv ru h2⟩) p3
theorem apd {P:PyData->Prop} (hi:ρ[i]?=some (some (.own (f.M.length+j)))) (hc:cs[j]?=some (.dic kvs)) (h:PEm w K f Ds tk ρ cs fun k=>abG k/\∃ d,v8 k kvs=some d/\P d):PEm w K f Ds (tOp (afM w K) (yr i) tk) ρ cs P:=fun se σ H H2 Q x q=>by
 have hj:j<Ds.length:=by rw [<-x.len];exact (apS.mp hc).1
 have hD:Ds[j]?=some Ds[j]:=apO hj
 refine⟨_,jT hi x hD,?_⟩
 refine h se σ H H2 _ x fun k v H1 g1 r1 ⟨kt,d,hd,p⟩=>?_
 have x1:=x.go g1 (x.env.mono g1)
 obtain⟨b,rfl⟩:=qD kt r1
 obtain⟨xs,h1,h2⟩:=x1.own j _ _ hD hc
 rcases aa7 k h2 with⟨b1,b2,b3⟩ | ⟨pp,d',v',b1,b2,b3,b4,b5⟩
 ·rw [b2] at hd;cases hd
 ·rw [b2] at hd
  cases hd
  exact⟨Ds[j],b,k,xs,pp,v',rfl,rfl,h1,fun z hz=>⟨(y7 h2 z hz).1,Rep.mono (zj _ _) _ _ (y7 h2 z hz).2⟩,kt.1,Rep.mono (zj _ _) _ _ r1,b1,b4,q _ _ H1 g1 b3 p⟩
theorem ape (h:PEm w K f Ds te ρ cs O.rt):PSm w K f Ds (aec te) ρ cs O:=fun se σ H H2 E x n r b k =>
 h se σ H H2 _ x fun d v H' g' r' p=>r d v ρ cs σ H' (x.go g' (x.env.mono g')) (Rep.mono same_withs d v r') p
end
def alK (K:apT) (ns:List Int) (v:Value):Bool:=match v with
 | .ref t=>(match K.lookup t with
  | some o=>o.cls == .type "tuple" && (match o.data with
   | .seq its _=>KTD.intsLook its.toList ns && decide (its.size<=1000)
   | _=>false)
  | none=>false)
 | _=>false
def ah5 (K:apT) (a:Addr) (D:List (Str×List Int)):Bool:=!(a == sysModules) && (match K.lookup a with
 | some o=>o.cls == .type "dict" && o.dict.isNone && o.slots.isEmpty && (match o.data with
  | .dict es _=>KTD.rowsLook (alK K) es.toList D
  | _=>false)
 | none=>false)
theorem acO:∀ {vs:List Value} {ns:List Int},IntsAre vs ns->Vals (ns.map V.int) vs
 | _,_,.nil=>.nil
 | _,_,.cons n t h=>.cons ⟨t,rfl⟩ (acO h)
theorem aog {K:apT} {ns:List Int} {v:Value} (h:alK K ns v=true):∃ t,v=.ref t/\∀ H,SqT K H t (ns.map V.int):=by
 unfold alK at h
 split at h
 ·rename_i t
  split at h
  ·rename_i o ho
   rw [ap3] at h
   obtain⟨h1,h2⟩:=h
   split at h2
   ·rename_i its n hd
    rw [ap3] at h2
    exact⟨t,rfl,fun H=>.inr ⟨o,its,n,ho,beq_iff_eq.mp h1,hd,arv (yc (of_decide_eq_true h2.2)),acO (KTD.ints_of_look h2.1)⟩⟩
   ·cases h2
  ·cases h
 ·cases h
def apf (K:apT) (D:List (Str×List Int)) (tk:TE):TE:=fun σ H Q=>tk σ H fun y H1=>∃ x ns,y=.str x/\auA x D=some ns/\∀ t,(∀ H',SqT K H' t (ns.map V.int))->Q (.ref t) H1
theorem ajY {X:Cx} {K:apT} {x:Str} {a:Addr} {D:List (Str×List Int)} {key:Expr} {tk:TE} {p pos:Pos} (hK:X.K=K) (hg:Gl X x) (hm:X.mg x=some (.ref a)) (hT:ah5 K a D=true) (hk:PE X key tk) (hs:agx key) (hd:(x == ("__debug__":Str))=false:=by decide) :
  PE X (.Subscript (.Name x p) key pos) (apf K D tk):=by
 subst hK
 intro pins s σ H Q I h
 unfold ah5 at hT
 rw [ap3] at hT
 obtain⟨h0,hT⟩:=hT
 split at hT
 case h_2=>cases hT
 case h_1 o ho =>
  simp only [ap3] at hT
  obtain⟨⟨⟨e1,e2⟩,e3⟩,e4⟩:=hT
  split at e4
  case h_2=>cases e4
  case h_1 es ep hdat =>
   have rows:KTD.Rows (fun ns v=>alK X.K ns v=true) es.toList D:=KTD.rows_of_look (fun _ _ z=>z) e4
   refine Subscript_ (ac7 I hg hm ?_ hd)
   refine thn (hk pins s σ H _ I h) fun u s1 ⟨y,H1,I1,ry,z,ns,ey,dat,q⟩=>?_
   subst ey
   obtain⟨tk',rfl⟩:=ry
   have ho1:s1.heap.get? a=some o:=I1.kIn a o ho
   have hT1:s1.TypeIs (.ref a) "dict":=⟨o,ho1,beq_iff_eq.mp e1⟩
   obtain⟨v,hv,hr⟩:=rows.find_some dat
   obtain⟨t,rfl,sq⟩:=aog hr
   refine subscriptTail_builtinR (x:=.ref t) hT1 atH.lookup ?_ (hs _ _)
   unfold getItem
   try with_reducible refine wpAny_holding ?_
   apply wpAny_bind;refine wpAny_sequenceKey hT1 (by decide) ?_
   apply wpAny_bind
   refine wpAny_callSpecial?_slot (name:=arQ "__getitem__") hT1 slot_dict_getitem (wpAny_call_entry slot_dict_getitem hT1 entry_dict_getitem ?_ (args_dict_getitem _ _))
   show wpAny _ _ (dictGet a (.str z tk') >>= _) _ _ s1
   apply wpAny_bind
   unfold dictGet
   try with_reducible refine wpAny_holding ?_
   apply wpAny_bind;apply wpAny_pyHash_str
   apply wpAny_bind
   refine KTD.kt_dictFind_strs (s:={ s1 with toks:=s1.toks+1 }) ho1 hdat (by obtain⟨l⟩:=es;simpa using rows.exact) ?_
   cases hi:es.findIdx? fun e=>e.key.isStr z with
   | none =>
    exfalso
    have hn:es.toList.find? (fun e=>e.key.isStr z)=none:=by
     rw [List.find?_eq_none]
     intro e he
     have:=Array.findIdx?_eq_none_iff.mp hi e (asw.mp he)
     simpa using this
    rw [hn] at hv
    cases hv
   | some i =>
    obtain⟨hlt,hi1,hi2⟩:=Array.findIdx?_eq_some_iff_getElem.mp hi
    have hval:es[i].val=.ref t:=by
     have hf:es.toList.find? (fun e=>e.key.isStr z)=some es[i]:=by
      rw [List.find?_eq_some_iff_getElem]
      refine⟨hi1,i,by simpa using hlt,by simp,fun j hj=>?_⟩
      have:=hi2 j hj
      simpa using this
     rw [hf] at hv
     exact Option.some.inj hv
    apply wpAny_bind
    refine wpAny_dictEntries (s:={ s1 with toks:=s1.toks+1 }) ho1 hdat (wpAny_pure ?_)
    rw [ark hlt]
    refine wpAny_pure ⟨es[i].val,rfl,wpAny_pure ?_⟩
    rw [hval]
    exact⟨rfl,.ref t,H1,I1.tok _,rfl,q t sq⟩
section
variable {K:apT} {f:Fx} {ρ:zw} {P:PyData->Prop} {tk:TE} {D:List (Str×List Int)}
theorem am2 (h:PEd K f tk ρ fun y=>∃ x ns,y=.str x/\auA x D=some ns/\P (.tuple (ns.map .int))):PEd K f (apf K D tk) ρ P:=fun σ H Q e q =>
 h σ H _ e fun y v H1 g1 r1 ⟨x,ns,ey,hd,p⟩=>by
  subst ey
  exact⟨x,ns,rep_str.mp r1,hd,fun t sq=>q _ _ H1 g1 (rep_tuple.mpr ⟨t,ns.map V.int,rfl,sq _,Reps.ints' ns⟩) p⟩
end
section
variable {X:Cx}
theorem ag7 {pins:List (Addr×Obj)} {s:Shared} {σ:St} {H:Hp} (I:Inv X pins σ H s) {d:PyData}:∀ {ds:List PyData} {xs:List V} {us:List Value},Reps X.K H ds xs->Vals xs us->(∀ e∈ds,e.canLay0=true)->us.map (eqR s.heap d)=ds.map fun e=>aqi e d
 | [],xs,us,r,v,_=>by
  cases reps_nil.mp r
  cases v
  rfl
 | e :: ds,xs,us,r,v,c=>by
  obtain⟨x,xs',rfl,h1,h2⟩:=reps_cons.mp r
  cases v with
  | cons a b =>
   obtain⟨as,ra⟩:=yM I e x _ h1 a
   rw [aqf,aqf,afD ra (c e apX),ag7 I h2 b fun e he=>c e (apW _ he)]
def adM (K:apT):V->List V->Hp->VK->Prop:=fun x ys H Q=>∃ d ds y,∃ j:Nat,ys=[y]/\Rep K H d y/\Rep K H (.list ds) x/\d.canLay0=true/\(∀ e∈ds,e.canLay0=true)/\d.depth<=50/\ds.length<=1000 /\
 (ds.map fun e=>aqi e d)[j]?=some true/\(∀ m,m<j->(ds.map fun e=>aqi e d)[m]?=some false)/\Q (.int j) H
theorem ah6 (hu:X.A.units+64<cLine):MtR X "list.index" (adM X.K):=by
 intro pins s σ H x xs v us Q I rx rv h
 obtain⟨d,ds,y,j,rfl,hd,hl,c1,c2,dd,few,hit,miss,q⟩:=h
 obtain⟨a,zs,rfl,hq,hr⟩:=rep_list.mp hl
 cases rx
 obtain⟨u,rfl,ru⟩:=rv.one
 obtain⟨bs,rb⟩:=yM I d y u hd ru
 obtain⟨its,r,pl,hz⟩:=I.list hq
 obtain⟨⟨cl,dd',da,sl⟩,n,e,e1,e2,e3⟩:=pl
 dsimp only at e1 e2 e3
 subst e1 e3
 have key:=ag7 I (d:=d) hr r c2
 rw [<-key] at hit miss
 have hj:j<its.length:=by
  obtain⟨hlt,_⟩:=apS.mp hit
  rw [apP] at hlt
  exact hlt
 have len:its.length=ds.length:=by have:=congrArg auN key;rw [apP,apP] at this;exact this
 refine call_meets F.slot_list_index ⟨_,e,rfl⟩ F.entry_list_index (F.args_list_index_2 _ _) (SeqAt.list_indexAt a its.toArray n dd' sl u (eqR s.heap d) j (by rw [ap9];exact hj) (by omega) ?_ ?_)
  ⟨e,fun w hw=>abu I rb c1 dd (show X.A.in1.units+60<cLine from by show X.A.units+1+60<cLine;omega) hr r c2 w (by simpa using hw),?_⟩
 ·rw [apU,apO hj] at hit
  simpa using hit
 ·intro m hm hlt
  rw [ap9] at hm
  have:=miss m hlt
  rw [apU,apO hm] at this
  simpa using this
 ·exact⟨.int j,H,I.tok _,⟨_,rfl⟩,q⟩
end
abbrev Kp (h h':Heap):Prop:=∀ b o,h.get? b=some o->h'.get? b=some o
structure MinAt (h0:Heap) (its:List Value) (ds:List PyData) (as:List Addr):Prop where
 ra:ReadsAll h0 its ds as
 pl:∀ d∈ds,zF d=true
 cp:∀ d∈ds,∀ e∈ds,vd d e=true
 dp:∀ d∈ds,d.depth<=50
abbrev apg (v:Value) (c:Nat):Obj:={ cls:=.type "list",dict:=none,data:=.seq #[v,v] c,slots:=#[] }
def v9 (ds:List PyData) (i b:Nat):Prop:=b<i/\∀ m,m<i->ltD (ds.getD m .none) (ds.getD b .none)=false
theorem yN {ds:List PyData} {i:Nat} (h:i<ds.length):ds.getD i .none∈ds:=by
 rw [apR,apO h]
 exact aqo h
theorem afO {ds:List PyData} (pl:∀ d∈ds,zF d=true) {i b:Nat} (hi:i<ds.length) (L:v9 ds i b):v9 ds (i+1) (if ltD (ds.getD i .none) (ds.getD b .none)=true then i else b):=by
 obtain⟨hb,hl⟩:=L
 have pi:=pl _ (yN hi)
 have pb:=pl _ (yN (asD hb hi))
 by_cases h:ltD (ds.getD i .none) (ds.getD b .none)=true
 ·rw [if_pos h]
  refine⟨ash i,fun m hm=>?_⟩
  rcases ar6.mp hm with z | rfl
  ·rw [Bool.eq_false_iff]
   intro y
   have:=afI _ _ _ (pl _ (yN (asD z hi))) pi pb y h
   rw [hl m z] at this
   cases this
  ·exact afH _ pi
 ·rw [if_neg h]
  refine⟨aqP hb,fun m hm=>?_⟩
  rcases ar6.mp hm with z | rfl
  ·exact hl m z
  ·exact Bool.eq_false_iff.mpr h
section
variable {prog:Program} {w:World} {A:Around} {R:Result->Shared->Prop} {h0:Heap} {its:List Value} {ds:List PyData} {as:List Addr} {I S T:Addr} {s0:Shared}
theorem ajZ (M:MinAt h0 its ds as) (hu:A.units+60<cLine) (hh:A.handled=none) (tu:h0.IsTuple T its.toArray) (nI:h0.get? I=none) (nS:h0.get? S=none) (dif:S≠I)
  (fin:∀ b h' tk,v9 ds its.length b->Kp h0 h'->R (.ok (.ret (its.getD b Value.none))) { s0 with heap:=h',toks:=tk }) :
  ∀ (k i b:Nat) (h:Heap) (t c:Nat),i+k=its.length->v9 ds i b->h.IsTupleIter I T i->Kp h0 h->h.get? S=some (apg (its.getD b Value.none) c) ->
   codeAny (model prog w) A (.builtin "min.loop" ⟨[.ref I,.none,.ref S],[]⟩) R { s0 with heap:=h,toks:=t }:=by
 have len:=arD _ _ _ M.ra
 have nT:T≠I:=fun z=>by
  obtain⟨o,ho,_⟩:=tu
  rw [z,nI] at ho
  cases ho
 have nK:∀ {b:Addr} {o:Obj},h0.get? b=some o->b≠I/\b≠S:=fun {b o} e=>⟨(fun z=>nomatch (nI.symm.trans (z▸e):none=some o)),(fun z=>nomatch (nS.symm.trans (z▸e):none=some o))⟩
 intro k
 induction k with
 | zero =>
  intro i b h t c hk L it kp hS
  rw [show i=its.length from hk] at L it
  refine codeAny_builtin at9 ?_
  rw [ars arV _]
  refine wpAny_bind (wpAny_seqItems hS rfl (wpAny_bind (wpAny_tryCatch (wpAny_pyNext_tuple_end hh it (tu.at fun o e=>kp T o e) (by simp) fun h2 e2=>?_))))
  refine wpAny_bind (wpAny_updateSeq (e2 S _ dif hS) rfl (wpAny_bind (wpAny_letGo (wpAny_pure (fin b _ t L fun a o e=>?_)))))
  obtain⟨n1,n2⟩:=nK e
  exact (aqM _ _ n2.symm).trans (e2 a o n1 (kp a o e))
 | succ k ih =>
  intro i b h t c hk L it kp hS
  have hi:i<its.length:=by omega
  have hid:i<ds.length:=by omega
  have hbd:b<ds.length:=asD L.1 hid
  have L2:=afO M.pl hid L
  refine codeAny_builtin at9 ?_
  rw [ars arV _]
  refine wpAny_bind (wpAny_seqItems hS rfl (wpAny_bind (wpAny_tryCatch (wpAny_pyNext_tuple_item it (tu.at fun o e=>kp T o e) (x:=its.getD i Value.none) (by rw [apR,apO hi];simp [hi]) fun h2 it2 sb=>?_))))
  have e2:∀ a o,a≠I->h.get? a=some o->h2.get? a=some o:=fun a o n e=>sb.extBut a o n e
  have kp2:Kp h0 h2:=fun a o e=>e2 a o (nK e).1 (kp a o e)
  obtain⟨b1,r1⟩:=ReadsAll.at (ReadsAll.keep kp2 M.ra) i hid
  obtain⟨b2,r2⟩:=ReadsAll.at (ReadsAll.keep kp2 M.ra) b hbd
  have d1:=M.dp _ (yN hid)
  have d2:=M.dp _ (yN hbd)
  have lt:=abA _ _ A.in1 { s0 with heap:=h2,toks:=t } _ _ _ _ r1 r2 (M.pl _ (yN hid)) (M.pl _ (yN hbd)) (M.cp _ (yN hid) _ (yN hbd)) (by show A.units+1+max _ _<cLine;omega)
  refine wpAny_bind (wpAny_pure ?_)
  show wpAny _ A.in1 (tryCatch (holding _ (richCompare CmpOp.Lt (its.getD i Value.none) (its.getD b Value.none) >>= _)) _ >>= _) _ _ _
  refine wpAny_bind (wpAny_tryCatch (wpAny_holding (wpAny_bind (lt prog w _ _ (wpAny_bind (wpAny_holding (wpAny_truthy_bool (wpAny_bind (wpAny_letGo (wpAny_pure ?_))))))))))
  have nm:(toString "min"++toString ".loop":String)="min.loop":=by decide
  have hS2:=e2 S _ dif hS
  by_cases q:ltD (ds.getD i .none) (ds.getD b .none)=true
  ·rw [if_pos q] at L2
   rw [q]
   refine wpAny_bind (wpAny_updateSeq hS2 rfl (wpAny_bind (wpAny_letGo ?_)))
   rw [nm]
   refine wpAny_pure ⟨plainId_quiet arV _,ih (i+1) i _ t _ (by omega) L2 (it2.at fun o e=>(aqM _ _ dif).trans e) (fun a o e=>(aqM _ _ (nK e).2.symm).trans (kp2 a o e)) (aqQ _ hS2 rfl)⟩
  ·rw [if_neg q] at L2
   rw [at7] at q
   rw [q]
   refine wpAny_bind (wpAny_letGo ?_)
   rw [nm]
   exact (wpAny_pure ⟨plainId_quiet arV _,ih (i+1) b _ t c (by omega) L2 it2 kp2 hS2⟩)
theorem alL {Q:Value->Shared->Prop} {E:Value->Shared->Prop} {s:Shared} (M:MinAt s.heap its ds as) (hu:A.units+61<cLine) (hh:A.handled=none) (tu:s.heap.IsTuple T its.toArray) (ne:0<its.length)
  (q:∀ b h' tk,v9 ds its.length b->Kp s.heap h'->Q (its.getD b Value.none) { s with heap:=h',toks:=tk }):wpAny (model prog w) A (call (.builtin "min") [.ref T]) Q E s:=by
 have nm:(toString "min"++toString ".loop":String)="min.loop":=by decide
 have len:=arD _ _ _ M.ra
 refine call_function_tree F.kind_min F.plain_min F.entry_min (F.args_min1 _) ?_
 show wpAny _ A.in1 (att "min" ["key","default"] 0 ⟨[],[]⟩ >>= _) _ _ s
 refine wpAny_bind (wpAny_of_eq (show att "min" ["key","default"] 0 ⟨[],[]⟩=pure [none,none] from rfl) (wpAny_bind (wpAny_pure (wpAny_bind (wpAny_pyIter_tuple tu (wpAny_bind (wpAny_newObj_type ?_)))))))
 rw [nm]
 generalize hp1:s.heap.push { cls:=.type "tuple_iterator",data:=.fields #[.ref T,.int 0 0] }=h1
 have z1:h1.objs.size=s.heap.objs.size+1:=by rw [<-hp1];exact aq5 ..
 have i1:h1.IsTupleIter s.heap.objs.size T 0:=by rw [<-hp1];exact⟨_,ap7 _ rfl,rfl,rfl⟩
 have k1:Kp s.heap h1:=fun b o e=>by rw [<-hp1];exact apV _ e
 have dif:h1.objs.size≠s.heap.objs.size:=by omega
 have nI:s.heap.get? s.heap.objs.size=none:=ate (apY _)
 have nS:s.heap.get? h1.objs.size=none:=ate (by omega)
 refine wpAny_pure ⟨plainId_quiet arV _,codeAny_builtin at9 ?_⟩
 rw [ars arV _]
 have kS:∀ (u:Obj),Kp s.heap (h1.push u):=fun u b o e=>apV _ (k1 b o e)
 refine wpAny_bind (wpAny_seqItems (ap7 _ rfl) rfl (wpAny_bind (wpAny_tryCatch (wpAny_pyNext_tuple_item (i1.at fun o e=>apV _ e) (tu.at fun o e=>kS _ T o e) (x:=its.getD 0 Value.none) (by rw [apR,apO ne];simp [ne]) fun h2 it2 sb=>?_))))
 refine wpAny_bind (wpAny_pure ?_)
 have hS2:=sb.extBut _ _ dif (ap7 h1 rfl)
 have kp2:Kp s.heap h2:=fun a o e=>sb.extBut a o (fun z=>nomatch (nI.symm.trans (z▸e):none=some o)) (kS _ a o e)
 refine wpAny_bind (wpAny_updateSeq hS2 rfl ?_)
 rw [nm]
 refine wpAny_pure ⟨plainId_quiet arV _,ajZ (s0:=s) (its:=its) (T:=T) M (by omega) hh tu nI nS dif ?_ (its.length - 1) 1 0 _ _ _ (by omega) ⟨Nat.one_pos,fun m hm=>?_⟩ (it2.at fun o e=>(aqM _ _ dif).trans e) (fun a o e=>(aqM _ _ (fun (z:h1.objs.size=a)=>nomatch (nS.symm.trans (z▸e):none=some o))).trans (kp2 a o e)) (aqQ _ hS2 rfl)⟩
 ·intro b h' tk L k
  exact q b h' tk L k
 ·rw [show m=0 by omega]
  exact afH _ (M.pl _ (yN (by omega)))
end
section
variable {X:Cx}
def aj0 (K:apT):List V->Hp->VK->Prop:=fun xs H Q=>∃ ds a zs,xs=[.ref a]/\SqT K H a zs/\Reps K H ds zs/\ds≠[]/\(∀ d∈ds,zF d=true)/\(∀ d∈ds,∀ e∈ds,vd d e=true)/\(∀ d∈ds,d.depth<=50)/\∀ b v,b<ds.length->zs[b]?=some v->(∀ e∈ds,ltD e (ds.getD b .none)=false)->Q v H
theorem aeG:∀ {xs:List V} {us:List Value},Vals xs us->∀ b,b<xs.length->∃ v,xs[b]?=some v/\RelV v (us.getD b Value.none)
 | _,_,.nil,b,hb=>absurd hb (ari _)
 | _,_,.cons a c,0,_=>⟨_,rfl,a⟩
 | _,_,.cons a c,b+1,hb=>aeG c b (arT hb)
theorem abJ {K:apT} {H:Hp}:∀ {ds:List PyData} {xs:List V},Reps K H ds xs->xs.length=ds.length/\∀ b v,xs[b]?=some v->Rep K H (ds.getD b .none) v
 | [],_,r=>by
  cases reps_nil.mp r
  exact⟨rfl,fun b v h=>nomatch h⟩
 | d :: ds,xs,r=>by
  obtain⟨x,xs',rfl,h1,h2⟩:=reps_cons.mp r
  obtain⟨h3,h4⟩:=abJ h2
  refine⟨by rw [ap8,ap8,h3],fun b v h=>?_⟩
  match b,h with
  | 0,h=>cases h;exact h1
  | b+1,h=>exact h4 b v h
theorem ah7 (hc:X.calm=true) (hu:X.A.units+64<cLine):z6 X (.builtin "min") (aj0 X.K):=by
 intro pins s σ H xs us Q I r h
 obtain⟨ds,a,zs,rfl,hq,hr,ne,pl,cp,dp,q⟩:=h
 obtain⟨u,rfl,r1⟩:=vals1 r
 cases r1
 obtain⟨its,rv,p,_⟩:=I.tuple hq
 obtain⟨as,ra⟩:=jk I ds zs its hr rv
 have len:=arD _ _ _ ra
 have pos:0<ds.length:=arM.mpr ne
 refine alL ⟨ra,pl,cp,dp⟩ (by omega) (I.ok.hd hc) p (by omega) fun b h' tk L k=>?_
 have hb:b<ds.length:=by have:=L.1;omega
 obtain⟨v,hv,rel⟩:=aeG rv b (by rw [(abJ hr).1];exact hb)
 refine⟨v,H,I.kept (t':=tk) k,rel,q b v hb hv fun e he=>?_⟩
 obtain⟨m,hm,rfl⟩:=aq8 he
 have:=L.2 m (by omega)
 rw [apR,apO hm] at this
 exact this
theorem afP {K:apT} (hK:X.K=K) (hc:X.calm=true) (hu:X.A.units+64<cLine):z6 X (.builtin "min") (aj0 K):=hK▸ah7 hc hu
end
section
variable {K:apT} {f:Fx} {ρ:zw} {P:PyData->Prop} {te ta tb:TE}
theorem aoh (h:PEd K f te ρ fun x=>∃ ds,x=.tuple ds/\ds≠[]/\(∀ d∈ds,zF d=true)/\(∀ d∈ds,∀ e∈ds,vd d e=true)/\(∀ d∈ds,d.depth<=50)/\∀ d,d∈ds->(∀ e∈ds,ltD e d=false)->P d):PEd K f (tCB (aj0 K) (zV te yQ)) ρ P:=fun σ H Q e q =>
 h σ H _ e fun x v H1 g1 r1 ⟨ds,ex,ne,pl,cp,dp,p⟩=>by
  subst ex
  obtain⟨a,zs,rfl,h1,h2⟩:=rep_tuple.mp r1
  refine⟨ds,a,zs,rfl,(zj _ _).seqT h1,Reps.mono (zj _ _) _ _ h2,ne,pl,cp,dp,fun b u hb hu le=>?_⟩
  exact q (ds.getD b .none) u H1 g1 ((abJ h2).2 b u hu) (p _ (yN hb) le)
theorem aj1 (h:PEd K f ta ρ fun x=>∃ ds,x=.list ds/\PEd K f tb ρ fun d=>∃ j:Nat,d.canLay0=true/\(∀ e∈ds,e.canLay0=true)/\d.depth<=50/\ds.length<=1000/\(ds.map fun e=>aqi e d)[j]?=some true/\(∀ m,m<j->(ds.map fun e=>aqi e d)[m]?=some false)/\P (.int j)) :
  PEd K f (tBM K "list" (adM K) ta (zV tb yQ)) ρ P:=fun σ H Q e q =>
 h σ H _ e fun x v H1 g1 r1 ⟨ds,ex,p1⟩=>by
  subst ex
  refine⟨?_,p1 σ H1 _ (e.mono g1) fun d u H2 g2 r2 ⟨j,c1,c2,dd,fw,hit,miss,p⟩=>⟨d,ds,u,j,rfl,Rep.mono (zj _ _) _ _ r2,Rep.mono (zj _ _) _ _ (Rep.mono g2.sm _ _ r1),c1,c2,dd,fw,hit,miss,q _ _ H2 (g1.trans g2) (rep_int.mpr rfl) p⟩⟩
  obtain⟨a,zs,rfl,h1,_⟩:=rep_list.mp r1
  exact .inl ⟨rfl,zs,(zj _ _).seq h1⟩
end
section
variable {w:World} {K:apT} {f:Fx} {Ds:List Addr} {ρ:zw} {cs:List OC} {O:MEnds} {tt:TT} {te:TE} {i j n:Nat}
theorem aay {H H' H2:Hp} {σ:St} (se:Sep f Ds) (x:CM w K f Ds H2 ρ cs σ H) (g:Goes f H H'):Goes (f.withs Ds) H H':=by
 have kp:∀ D∈Ds,H' D=H D:=fun D hD=>by
  obtain⟨o,ho⟩:=x.env.fd.mm D (yY hD)
  have h1:hide H f D=some o:=zz (fun z=>z.elim (se.nf D hD) (se.nm D hD)) ho
  rw [ho,(zH (g.sm D o h1)).2]
 refine⟨fun b o hb=>?_,⟨fun p e=>?_,fun b hb=>?_,x.env.fd.nm⟩,fun b hb=>?_⟩
 ·obtain⟨n1,n2⟩:=zH hb
  have h1:hide H f b=some o:=zz (fun z=>n1 (z.elim .inl fun z=>.inr (aqe _ z))) n2
  exact zz n1 (zH (g.sm b o h1)).2
 ·exact g.2.fd p e
 ·rcases aqh.mp hb with h | h
  ·rw [kp b (aqF.mp h)]
   exact x.env.fd.mm b hb
  ·exact g.2.mm b h
 ·rcases aqh.mp hb with h | h
  ·exact kp b (aqF.mp h)
  ·exact g.kp b h
theorem alM {B:Bool->Prop} (h:PTd K f tt (ρ.map (freed f.M.length cs)) B):PTm w K f Ds tt ρ cs B:=fun se σ H H2 Q x q =>
 h σ H Q (x.free se) fun b H' g p=>q b H' (aay se x g) p
abbrev ag8 (K:apT):List V->Hp->VK->Prop:=fun xs H Q=>∃ p ys,xs=[V.ref p]/\(SqL K H p ys \/ SqT K H p ys)/\∀ l,H l=none->Q (V.ref l) (upd H l (HO.lst ys))
end
end L2
end
section
namespace L2
open PySem PySem.Spec PyProof.Rows
structure TM (K:apT) (f:Fx) (a:Addr) (as:List Addr) (H2:Hp) (ρ:zw) (rows:List (List Int)) (σ:St) (H:Hp):Prop where
 env:EnvOk K (f.withs (a :: as)) ρ σ H
 sm:Same (hide H2 (f.withs (a :: as))) (hide H (f.withs (a :: as)))
 kp:∀ b∈f.M,H b=H2 b
 tab:TabAt H a as rows
section
variable {K:apT} {f:Fx} {a:Addr} {as:List Addr} {ρ ρ2:zw} {rows:List (List Int)} {O:zw->List (List Int)->Prop} {ts tu:TS} {te ty tx:TE} {i:Nat} {σ σ2:St} {H H' H2:Hp}
theorem TabAt.keep (t:TabAt H a as rows) (h:∀ b∈a :: as,H' b=H b):TabAt H' a as rows :=
 ⟨(h a (apX ..)).trans t.top,t.nd,t.len,fun i x r h1 h2=>(h x (apW _ (apZ h1))).trans (t.row i x r h1 h2)⟩
theorem aaz {Ds:List Addr} (g:Same (hide H f) (hide H' f)) (hn:∀ D∈Ds,H D=none):Same (hide H f) (hide H' (f.withs Ds)):=fun b o hb=>by
 have hb1:=g b o hb
 refine zz (fun z=>?_) (zH hb1).2
 rcases z with z | z
 ·exact (zH hb1).1 (.inl z)
 ·rcases aqh.mp z with z | z
  ·have:=(zH hb).2
   rw [hn b (aqF.mp z)] at this
   cases this
  ·exact (zH hb1).1 (.inr z)
theorem aoi {P:List PyData->Prop} (h:PEd K f te ρ fun x=>∃ ds,x=.list ds/\P ds):PEdL K f (tCB (ag8 K) (zV te yQ)) ρ P:=fun σ H Q e q=>h σ H _ e fun x v H1 g1 r1 ⟨ds,ex,p⟩=>by
 subst ex
 obtain⟨a,ys,rfl,s1,s2⟩:=rep_list.mp r1
 refine⟨a,ys,rfl,.inl ((zj _ _).seq s1),fun l hn=>?_⟩
 have g2:Goes f H1 (upd H1 l (.lst ys)):=.of_same (z4 hn _) g1.2
 exact q ds l ys _ (g1.trans g2) (g1.free e.fd hn) zB (Reps.mono g2.1 ds ys s2) p
end
theorem acP {X:Cx} {K:apT} {w:World} (hw:X.w=w) (hK:X.K=K) (hu:X.A.units+64<cLine):OpR X (compareOp .In) (afN w K false):=hw▸hK▸ajV hu
section
variable {K:apT} {f:Fx} {ρ:zw} {ts tu:TS} {O:DEnds} {te:TE} {i:Nat}
theorem aeH (J:zw->Prop) (h1:PSd K f ts ρ { O with nx:=J }) (h2:∀ ρ',J ρ'->PSd K f tu ρ' O):PSd K f (qf ts tu) ρ O :=
 yn fun σ H E e n r b k=>h1 σ H E e (fun ρ' σ' H' g' e' p=>n ρ' σ' H' g' e' (h2 ρ' p)) r b k
theorem alN {P:PyData->Prop} {γ:Type} {n:Nat} {pre:γ->List DV->Prop} {post:γ->PyData->Prop} {E:XK} {t:TA} (h:PAd K f t ρ fun xs=>∃ c,xs.length=n/\pre c xs/\∀ r,post c r->P r):PEd K f (vW (spD K n pre post) [] E t) ρ P:=fun σ H Q e q =>
 h σ H _ e fun xs vs H1 g1 r1 ⟨c,hl,hp,k⟩=>⟨f,xs,c,by rw [aqG];exact r1,hl,g1.2,hp,fun r v H' g' r' p'=>q r v H' (g1.trans g') r' (k r p')⟩
end
section
variable {K:apT} {f:Fx} {ρ:zw} {wi:TI} {g:TG} {tt:TT} {own:Nat} {fr:List Nat} {tb:Addr->TB} {P:List PyData->Prop}
theorem aoj {α:Type} {A B:α->PyData} (p:α->Bool) (xs:List α) (h:PId K f wi ρ fun ds=>ds=xs.map A/\xs.length<=1000 /\
   (∀ D x ρ' es,x∈xs->OwnE own (frD fr ρ) ρ'->es.length<1000->PGd K (f.with D) g (A x) ρ' fun ρ2=>PTd K (f.with D) tt ρ2 fun b=>b=p x/\if b=true then PBd K f D (tb D) ρ2 es fun ρ3 es3=>OwnE own (frD fr ρ) ρ3/\es3=es++[B x] else OwnE own (frD fr ρ) ρ2)/\P ((xs.filter p).map B)) :
  PEdO K f (jH wi own fr g tt tb) ρ P :=
 vc (h.imp fun ds ⟨ed,hl,hs,hp⟩=>by
  subst ed
  refine⟨fun i ρ' es=>OwnE own (frD fr ρ) ρ'/\es=((xs.take i).filter p).map B,⟨⟨asd own none,by simp,rfl⟩,by simp⟩,fun D i d ρ' es hd ⟨ho,he⟩=>?_,fun ρ' es ⟨_,he⟩=>?_⟩
  ·rw [apU] at hd
   cases eq:xs[i]? with
   | none=>rw [eq] at hd;cases hd
   | some x =>
    rw [eq] at hd
    cases hd
    have hi:i<xs.length:=(apS.mp eq).1
    have tk:xs.take (i+1)=xs.take i++[x]:=by rw [aqZ,eq];rfl
    have hb:es.length<1000:=by
     have:=arE p (xs.take i)
     rw [aqD] at this
     rw [he,apP]
     omega
    intro σ H v Q e r q
    refine hs D x ρ' es (apZ eq) ho hb σ H v Q e r fun ρ2 σ2 H2 g2 e2 p2=>q ρ2 σ2 H2 g2 e2 (p2.imp fun b hb2=>?_)
    obtain⟨eb,hb2⟩:=hb2
    cases b with
    | false =>
     rw [if_neg apQ] at hb2 ⊢
     refine⟨hb2,?_⟩
     rw [tk,aq2,aqm,aqI,<- eb,if_neg apQ,he]
     simp
    | true =>
     rw [if_pos rfl] at hb2 ⊢
     intro h1 h2 σ3 H3 H4 W c k
     exact hb2 h1 h2 σ3 H3 H4 W c fun ρ5 es5 σ5 H5 c5 ⟨o5,p5⟩=>k ρ5 es5 σ5 H5 c5 ⟨o5,by rw [p5,he,tk,aq2,aqm,aqI,<- eb,if_pos rfl];rfl⟩
  ·rw [he,apP,aqy]
   exact hp)
end
end L2
end
section
namespace L2
open PySem PySem.Spec PyProof.Rows
def aaV (w:World) (K:apT) (kvs:List (PyData×PyData)):Hp->V->Prop:=fun Hh v=>∃ a xs,v=.ref a/\Hh a=some (DicO w a xs)/\Paired (EntR K Hh) xs kvs
def PEv (K:apT) (f:Fx) (te:TE) (ρ:zw) (P:DV->Prop):Prop:=∀ (σ:St) (H:Hp) (Q:VK),EnvOk K f ρ σ H->(∀ x v H',Goes f H H'->RepV K f H' x v->P x->Q v H')->te σ H Q
section
variable {w:World} {K:apT} {f:Fx} {ρ:zw} {Ds:List Addr} {cs:List OC} {te ta tk:TE} {ts tu:TS} {t:TA} {O:DEnds} {i j:Nat} {R:OC->Prop}
theorem v_var {P:DV->Prop} {x:DV} (h:ρ[i]?=some (some x)) (p:P x):PEv K f (yr i) ρ P:=fun σ H Q e q=>by
 obtain⟨v,h1,h2⟩:=e.get i x h
 exact⟨v,h1,q x v H (.refl e.fd) h2 p⟩
theorem aok (h:PEv K f te ρ fun x=>O.nx (ρ.set i (some x))):PSd K f (jE te (yJ i)) ρ O:=fun σ H E e n r b k =>
 h σ H _ e fun x v H1 g1 r1 p=>n _ _ H1 g1 ((e.mono g1).set i (x:=x) r1) p
theorem am3 {R:List DV->Prop} {u:TA} (h:PEv K f te ρ fun x=>PAd K f u ρ fun xs=>R (x :: xs)):PAd K f (zV te u) ρ R:=fun σ H Q e q =>
 h σ H _ e fun x v H1 g1 r1 p=>p σ H1 _ (e.mono g1) fun xs vs H2 g2 r2 p2=>q (x :: xs) (v :: vs) H2 (g1.trans g2) (.cons (RepV.mono g2 r1) r2) p2
end
end L2
end
section
namespace L2
open PySem PySem.Spec PyProof.Rows
end L2
end
section
namespace L2
open PySem PySem.Spec PyProof.Rows
open PySem.SeqAt
open PySem.AutoSeq1 (wpAny_loadPart')
def apI (A:Around) (s:Shared) (y x:Value) (b:Bool):Prop :=
 ∀ (prog:Program) (w:World) (E:Value->Shared->Prop) (Q:Value->Shared->Prop),Q (.bool b) s->wpAny (model prog w) A (richCompare .GtE y x) Q E s
inductive Gex (A:Around) (s:Shared):List Value->List Value->Bool->Prop where
 | nn:Gex A s [] [] true
 | eq {v w vs ws b}:EqAt A s v w true->Gex A s vs ws b->Gex A s (v :: vs) (w :: ws) b
 | ge {v w vs ws b}:EqAt A s v w false->apI A s v w b->vs.length=ws.length->Gex A s (v :: vs) (w :: ws) b
def apJ (o:Obj):Option Value:=match o.data with
 | .fields vs=>vs[2]?
 | _=>none
local macro_rules | `(tactic| walk_at "kd")=>`(tactic| with_reducible first
  | assumption
  | exact kd_pure _
  | exact kd_uns _
  | exact kd_load _
  | exact kd_loadPart _ _
  | exact kd_stack
  | exact kd_alloc _
  | exact kd_reg _
  | apply kd_ite
  | apply kd_bind
  | intro _
  | split)
def Dct (a:Addr) (o:Option Addr) (h:Heap):Prop:=∃ u,h.get? a=some u/\apJ u=some .none/\∀ dx,o=some dx->u.dict=some dx
def CXf (P:Program) (w:World):CXT:=fun outer H s E e s'=>∃ a C o H',e=.ref a/\XLie P w outer H s a C H' s'/\Dct a o s'.heap/\E C o H'
def am4 (a:Addr) (C:Value) (o:Option Addr) (h:Heap):Prop:=∃ t,h.get? a=some { cls:=C,dict:=o,data:=.fields #[.ref t,.none,.none,.none,.bool false,.none] }
end L2
end
section
namespace L2
open PySem PySem.Spec PyProof.Rows PySem.Builtin Builtin Builtin.ObjectAttr
def aj2 (K:apT) (C f:Addr) (bmB:List Value) (newId:String):Bool :=
 match K.lookup C with
 | some ⟨c0,_,.cls cd,sl⟩=>c0 == .type "type" && cd.mro.head? == some (.ref C) && cd.hasDel == false && cd.hasDict && PySem.W.tailIn K bmB cd.mro.tail && PySem.W.nsOkIn K cd.ns && aqC K cd.ns "__init__" == some (some (.ref f))
   && sl.toList.length == 6 && sl.toList[4]? == some (some (.builtin newId))
 | _=>false
structure XCls (h:Heap) (C f:Addr) (bmB:List Value) (newId:String):Prop where
 ex:∃ nm q N bs bm sn sub ab col dd k0 k1 k2 k3 k5 mN,h.get? C=some (excClassObj nm q C N bs bm true sn sub ab col dd k0 k1 k2 k3 k5 newId)/\h.Ns N mN/\mN "__init__"=some (.ref f)/\OwnTail h bmB bm
end L2
end
section
namespace L2
open PySem PySem.Spec PySem.W PyProof.Rows PySem.Calls PySem.Builtin Builtin Builtin.ObjectAttr
abbrev bare (C:Addr) (o:Option Addr) (t:Addr):Obj:={ cls:=.ref C,dict:=o,data:=.fields #[.ref t,.none,.none,.none,.bool false,.none] }
abbrev bmV:List Value:=[.type "ValueError",.type "Exception",.type "BaseException",.type "object"]
structure FldC (K:apT) (C f D:Addr) (name:Str):Prop where
 wi:aj2 K C f bmV "ValueError.__new__"=true
 fn:PySem.W.typeIn K (.ref f)=some (.type "function")
 ob:PySem.W.mroIn K C (.type "object")=some true
 sa:asb K (.ref C) "__setattr__"=some (some (.builtin "object.__setattr__"))
 na:asb K (.ref C) name=some none
 rd:PySem.W.readsIn K D (.type "type")=true
 sp:atP K (.ref D) "__getattribute__"=some (some (.builtin "type.__getattribute__"))
 kp:arf K (.ref C)=true
 fi:PySem.W.findCls K (.ref D) (.type "type") "__init__"=some (.val (.builtin "ValueError.__init__"))
section
variable {X:Cx} {pins:List (Addr×Obj)} {σ:St} {H H':Hp} {s s':Shared} {h':Heap} {a b dx C D f:Addr} {o:HO} {t':Nat} {name:Str}
def aol (C:Addr) (name:Str):Sp:=fun vs H Q _=>∃ a y,vs=[.ref a,y]/\H a=some (.ext (am4 a (.ref C) none))/\∀ dx,H dx=none->dx≠a->Q .non (upd (upd H dx (.xd [(name,y)])) a (.ext (am4 a (.ref C) (some dx))))
end
end L2
end
section
namespace L2
open PySem PySem.Spec PyProof.Rows
end L2
end
section
namespace L2
open PySem PySem.Spec PySem.W PyProof.Rows PySem.Calls PySem.Builtin Builtin Builtin.ObjectAttr Builtin.Getset_descriptor
abbrev XD:=Option (Str×PyData)
def alO (K:apT) (Hh:Hp):Option Addr->XD->Prop
 | none,none=>True
 | some dx,some (n,d)=>∃ v,Hh dx=some (.xd [(n,v)])/\Rep K Hh d v
 | _,_=>False
def Wish (K:apT) (f:Fx) (E:XK) (H:Hp) (Z:Value->XD->Prop):Prop:=∀ C o x H',Goes f H H'->alO K (hide H' f) o x->Z C x->E C o H'
theorem Wish.go {K:apT} {f:Fx} {E:XK} {H H1:Hp} {Z:Value->XD->Prop} (z:Wish K f E H Z) (g:Goes f H H1):Wish K f E H1 Z:=fun C o x H' g'=>z C o x H' (g.trans g')
def PSf (K:apT) (f:Fx) (E:XK) (ts:TS) (ρ:zw) (D:DEnds) (Z:Value->XD->Prop):Prop:=∀ (σ:St) (H:Hp) (N:Ends),EnvOk K f ρ σ H->(∀ ρ' σ' H',Goes f H H'->EnvOk K f ρ' σ' H'->D.nx ρ'->N.nx σ' H') ->
 (∀ d v H',Goes f H H'->Rep K (hide H' f) d v->D.rt d->N.rt v H')->(∀ ρ' σ' H',Goes f H H'->EnvOk K f ρ' σ' H'->D.bk ρ'->N.bk σ' H')->(∀ ρ' σ' H',Goes f H H'->EnvOk K f ρ' σ' H'->D.ct ρ'->N.ct σ' H')->Wish K f E H Z->ts N σ H
section
variable {K:apT} {f:Fx} {ρ:zw} {E:XK} {te:TE} {ts tu:TS} {tt:TT} {t:TA} {P:PyData->Prop} {D:DEnds} {Z:Value->XD->Prop} {g:TG} {wi:TI}
theorem aj3 (h:PSd K f ts ρ D):PSf K f E ts ρ D Z:=fun σ H N e n r b c _=>h σ H N e n r b c
end
structure FnInF (P:Program) (w:World) (K:apT) (mg:Str->Option Value) (base:Heap) (k:Nat) (x:Str) (ps:List Str) (sp:Sp):Prop where
 ex:∃ (f:Addr) (fd:FuncData),FnOk P w K mg base (CXf P w) k f fd ps sp/\mg x=some (.ref f)/\arf K (.ref f)=true/\Binds K fd ps []
structure FCls (K:apT) (mg:Str->Option Value) (x base:Str) (C:Addr) (name:Str) (st:Stmt) (ps:List Str):Prop where
 ex:∃ (f D:Addr) (fd:FuncData),FldC K C f D name/\mg x=some (.ref C)/\mg base=some (.ref D)/\Fun K "__init__" (x ++ ".__init__") st f fd/\Binds K fd ps []
structure InitOk (P:Program) (w:World) (K:apT) (mg:Str->Option Value) (base:Heap) (k:Nat) (C:Addr) (name:Str):Prop where
 ex:∃ (f D:Addr) (fd:FuncData) (ps:List Str),FldC K C f D name/\FnOk P w K mg base CX0 k f fd ps (aol C name)/\Binds K fd ps []
theorem ag9 {K:apT} {f:Fx} {ρ:zw} {D:DEnds} {tt:TT} {ts tu:TS} (p:Prop) [Decidable p] (h:PTd K f tt ρ fun b=>b=decide p) (h1:p->PSd K f ts ρ D) (h2:¬ p->PSd K f tu ρ D):PSd K f (aed tt ts tu) ρ D:=ach fun σ H Q e q=>h σ H Q e fun b H' g z=>q b H' g (by
 subst z
 by_cases hp:p
 ·rw [decide_eq_true hp,if_pos rfl];exact h1 hp
 ·rw [decide_eq_false hp,if_neg apQ];exact h2 hp)
section
variable {w:World} {K:apT} {f:Fx} {Ds:List Addr} {ts:TS} {te tk:TE} {ρ:zw} {cs:List OC} {O:MEnds} {i j n:Nat}
theorem aj4 {P:PyData->Prop} (h:PEd K f te (ρ.map (freed f.M.length cs)) fun d=>∃ i,d=.int i/\P (.int i)):PEm w K f Ds te ρ cs P:=fun se σ H H2 Q x q =>
 h σ H Q (x.free se) fun d v H' g r ⟨i,ed,p⟩=>by
  subst ed
  exact q (.int i) v H' (aay se x g) (rep_int.mpr (rep_int.mp r)) p
end
structure RoomM (k:Nat) (A:Around):Prop where
 dp:A.depth+3 * k+5<recursionLimit
 un:A.units+16 * k+200<cLine
structure FnOkM (P:Program) (w:World) (K:apT) (mg:Str->Option Value) (base:Heap) (k:Nat) (f:Addr) (fd:FuncData) (ps:List Str) (sp:Addr->Sp):Prop where
 len:∀ a vs H Q E,sp a vs H Q E->vs.length=ps.length
 run:∀ (A:Around) (outer:List Env) (s:Shared) (H:Hp) (args:Args) (us:List Value) (vs:List V) (Q:VK) (a:Addr),A.handled=some (.ref a)->RoomM k A->Env0 P w K mg base A outer s H->BindsTo s fd args (ps.zip us)->Vals vs us->sp a vs H Q E0 ->
  codeAny (model P w) A (.call (.ref f) args) (CR CX0 outer P w H s Q E0) s
structure FnInM (P:Program) (w:World) (K:apT) (mg:Str->Option Value) (base:Heap) (k:Nat) (x:Str) (ps:List Str) (sp:Addr->Sp):Prop where
 ex:∃ (f:Addr) (fd:FuncData),FnOkM P w K mg base k f fd ps sp/\mg x=some (.ref f)/\arf K (.ref f)=true/\Binds K fd ps []
abbrev aaA (rows:List (List Int)):PyData:=.list (rows.map fun r=>.list (r.map .int))
structure TN (K:apT) (f:Fx) (a:Addr) (as:List Addr) (H2:Hp) (ρ:zw) (R:Option (List (List Int))) (σ:St) (H:Hp):Prop where
 env:EnvOk K (f.withs (a :: as)) ρ σ H
 sm:Same (hide H2 (f.withs (a :: as))) (hide H (f.withs (a :: as)))
 kp:∀ b∈f.M,H b=H2 b
 tab:∀ rows,R=some rows->TabAt H a as rows
def PSu (K:apT) (f:Fx) (a:Addr) (as:List Addr) (ts:TS) (ρ:zw) (R:Option (List (List Int))) (O:zw->Option (List (List Int))->Prop):Prop:=Sep f (a :: as)->∀ (σ:St) (H H2:Hp) (E:Ends),TN K f a as H2 ρ R σ H ->
 (∀ ρ' R' σ' H',TN K f a as H2 ρ' R' σ' H'->O ρ' R'->E.nx σ' H')->ts E σ H
section
variable {K:apT} {f:Fx} {a:Addr} {as:List Addr} {ρ ρ2:zw} {rows:List (List Int)} {R:Option (List (List Int))} {O:zw->Option (List (List Int))->Prop} {ts tu:TS} {tt:TT} {te ty tx:TE} {i:Nat} {σ σ2:St} {H H' H2:Hp}
theorem TN.go (x:TN K f a as H2 ρ R σ H) (g:Goes (f.withs (a :: as)) H H') (e2:EnvOk K (f.withs (a :: as)) ρ2 σ2 H'):TN K f a as H2 ρ2 R σ2 H' :=
 ⟨e2,x.sm.trans g.sm,fun b hb=>(g.kp b (aqe _ hb)).trans (x.kp b hb),fun rows e=>(x.tab rows e).keep fun b hb=>g.kp b (yY hb)⟩
theorem yZ:(f.withs (a :: as)).M.reverse=f.M.reverse++a :: as:=by
 show ((a :: as).reverse++f.M).reverse=_
 rw [arN,asz]
theorem TN.at (x:TN K f a as H2 ρ R σ H) (hi:ρ[i]?=some (some (.own f.M.length))):σ[i]?=some (some (.ref a)):=by
 obtain⟨v,a1,p,a2,rfl⟩:=x.env.get i _ hi
 rw [yZ,ap2 (by simp)] at a2
 simp at a2
 rw [a2]
 exact a1
theorem TN.fok (x:TN K f a as H2 ρ R σ H):FOk f H:=⟨x.env.fd.fd,fun b hb=>x.env.fd.mm b (aqe _ hb),fun p e hp=>x.env.fd.nm p e (aqe _ hp)⟩
theorem TN.out (x:TN K f a as H2 ρ R σ H):EnvOk K f (ρ.map (yK f.M.length)) σ H:=by
 refine⟨by rw [apP];exact x.env.len,fun q z hz=>?_,x.fok⟩
 rw [apU] at hz
 cases e0:ρ[q]? with
 | none=>rw [e0] at hz;cases hz
 | some z0 =>
  rw [e0] at hz
  cases z0 with
  | none=>cases hz
  | some z0 =>
   obtain⟨v,a1,a2⟩:=x.env.get q z0 e0
   cases z0 with
   | dat d=>cases hz;exact⟨v,a1,Rep.mono same_withs d v a2⟩
   | feed=>cases hz;exact⟨v,a1,a2⟩
   | exc C=>cases hz;obtain⟨b,h3,h4⟩:=a2;exact⟨v,a1,b,h3,same_withs _ _ h4⟩
   | mon φ=>cases hz;exact⟨v,a1,fun H' s=>a2 H' (same_withs.trans s)⟩
   | own k =>
    have hz':(if k<f.M.length then some (DV.own k) else none)=some z:=Option.some.inj hz
    by_cases hk:k<f.M.length
    ·rw [if_pos hk] at hz'
     cases hz'
     obtain⟨b,h3,h4⟩:=a2
     refine⟨v,a1,b,?_,h4⟩
     rw [yZ,ap1 (by simpa using hk)] at h3
     exact h3
    ·rw [if_neg hk] at hz'
     cases hz'
theorem adN (se:Sep f (a :: as)):∀ D∈a :: as,¬ (f.f=some D \/ D∈f.M):=fun D hD z=>z.elim (se.nf D hD) (se.nm D hD)
theorem TN.read (se:Sep f (a :: as)) (x:TN K f a as H2 ρ (some rows) σ H) (hi:ρ[i]?=some (some (.own f.M.length))):EnvOk K f ((ρ.map (yK f.M.length)).set i (some (.dat (aaA rows)))) σ H:=by
 have o:=x.out
 refine⟨by rw [aqK];exact o.len,fun q z hz=>?_,o.fd⟩
 by_cases e:i=q
 ·subst e
  rw [as0,if_pos rfl] at hz
  split at hz
  ·cases hz
   exact⟨_,x.at hi,(x.tab rows rfl).rep (adN se a (apX ..)) fun y hy=>adN se y (apW _ hy)⟩
  ·cases hz
 ·rw [aqH e] at hz
  exact o.get q z hz
theorem TN.beside (se:Sep f (a :: as)) (x:TN K f a as H2 ρ R σ H) (g:Goes f H H'):Goes (f.withs (a :: as)) H H':=by
 have kp:∀ b∈a :: as,H' b=H b:=fun b hb=>by
  obtain⟨o,h1⟩:=x.env.fd.mm b (yY hb)
  rw [h1]
  exact (zH (g.sm b o (zz (adN se b hb) h1))).2
 refine⟨fun b o hb=>?_,⟨g.ok.fd,fun b hb=>?_,x.env.fd.nm⟩,fun b hb=>?_⟩
 ·obtain⟨n1,h1⟩:=zH hb
  have n2:¬ (f.f=some b \/ b∈f.M):=fun z=>n1 (z.elim .inl fun z=>.inr (aqe _ z))
  exact zz n1 (zH (g.sm b o (zz n2 h1))).2
 ·rcases aqh.mp hb with h | h
  ·obtain⟨o,h1⟩:=x.env.fd.mm b hb
   exact⟨o,(kp b (aqF.mp h)).trans h1⟩
  ·exact g.ok.mm b h
 ·rcases aqh.mp hb with h | h
  ·exact kp b (aqF.mp h)
  ·exact g.kp b h
theorem aeI (h:PSu K f a as ts ρ R fun ρ' R'=>PSu K f a as tu ρ' R' O):PSu K f a as (qf ts tu) ρ R O:=fun se σ H H2 E x n =>
 h se σ H H2 _ x fun ρ' R' σ' H' x' p=>p se σ' H' H2 E x' n
theorem adO (h:O ρ R):PSu K f a as acu ρ R O:=fun se σ H H2 E x n=>n ρ R σ H x h
theorem aom (hi:ρ[i]?=some (some (.own f.M.length))) (h:PTd K f tt ((ρ.map (yK f.M.length)).set i (some (.dat (aaA rows)))) fun b=>if b=true then PSu K f a as ts ρ (some rows) O else PSu K f a as tu ρ (some rows) O):PSu K f a as (aed tt ts tu) ρ (some rows) O:=fun se σ H H2 E x n =>
 h σ H _ (x.read se hi) fun b H1 g1 p=>by
  have g2:=x.beside se g1
  have x1:=x.go g2 (x.env.mono g2)
  cases b with
  | true=>rw [if_pos rfl] at p ⊢;exact p se σ H1 H2 E x1 n
  | false=>rw [if_neg apQ] at p ⊢;exact p se σ H1 H2 E x1 n
theorem aph (h:PTd K (f.withs (a :: as)) tt ρ fun b=>if b=true then PSu K f a as ts ρ R O else PSu K f a as tu ρ R O):PSu K f a as (aed tt ts tu) ρ R O:=fun se σ H H2 E x n =>
 h σ H _ x.env fun b H1 g1 p=>by
  have x1:=x.go g1 (x.env.mono g1)
  cases b with
  | true=>rw [if_pos rfl] at p ⊢;exact p se σ H1 H2 E x1 n
  | false=>rw [if_neg apQ] at p ⊢;exact p se σ H1 H2 E x1 n
theorem TN.turn {r:Nat} {row row':List Int} (se:Sep f (a :: as)) (x:TN K f a as H2 ρ (some rows) σ H) (hr:rows[r]?=some row) (hl:r<as.length):TN K f a as H2 ρ (some (rows.set r row')) σ (upd H as[r] (.lst (row'.map .int))):=by
 have t:=x.tab rows rfl
 have ha:as[r]?=some as[r]:=apO hl
 have hm:as[r]∈a :: as:=apW _ (apZ ha)
 have nd:=aqO.mp t.nd
 have ne:a≠as[r]:=fun z=>nd.1 (z▸apZ ha)
 refine⟨adH se hm x.env,by rw [yf hm];exact x.sm,fun b hb=>(zA (fun (z:b=as[r])=>se.nm _ hm (z▸hb))).trans (x.kp b hb),fun rows' e=>?_⟩
 cases e
 refine⟨(zA ne).trans t.top,t.nd,by rw [aqK];exact t.len,fun j y q h1 h2=>?_⟩
 by_cases e:r=j
 ·subst e
  rw [ha] at h1
  cases h1
  rw [arx (apS.mp hr).1] at h2
  cases h2
  exact zB
 ·rw [aqH e] at h2
  have hy:y≠as[r]:=fun z=>by
   subst z
   exact e ((List.getElem?_inj hl nd.2).mp (ha.trans h1.symm))
  exact (zA hy).trans (t.row j y q h1 h2)
theorem api (hi:ρ[i]?=some (some (.own f.M.length))) (h:PEd K (f.withs (a :: as)) ty ρ fun y=>∃ r:Nat,y=.int r/\∃ row,rows[r]?=some row/\row.length<1000/\PEd K (f.withs (a :: as)) te ρ fun d=>∃ v:Int,d=.int v/\O ρ (some (rows.set r (row++[v])))) :
  PSu K f a as (abc (tBM K "list" aaZ (tOp (adg K) (yr i) ty) (zV te yQ))) ρ (some rows) O:=fun se σ H H2 E x n=>by
 refine⟨.ref a,x.at hi,h σ H _ x.env fun y u H1 g1 r1 ⟨r,ey,row,hr,hl,h4⟩=>?_⟩
 subst ey
 rw [rep_int.mp r1]
 have x1:=x.go g1 (x.env.mono g1)
 have t1:=x1.tab rows rfl
 have hlt:r<as.length:=by rw [t1.len];exact (apS.mp hr).1
 have ha:as[r]?=some as[r]:=apO hlt
 refine⟨a,as.map .ref,(r:Int),.ref as[r],rfl,rfl,.of t1.top,jO (by rw [apU,ha];rfl),Or.inl ⟨rfl,_,.of (t1.row r _ row ha hr)⟩,?_⟩
 refine h4 σ H1 _ x1.env fun d v H3 g3 r3 ⟨vi,ed,ho⟩=>?_
 subst ed
 rw [rep_int.mp r3]
 have x3:=x1.go g3 (x1.env.mono g3)
 refine⟨as[r],row.map .int,.int vi,rfl,rfl,(x3.tab rows rfl).row r _ row ha hr,yc (by rw [apP];omega),?_⟩
 have x4:=x3.turn (row':=row++[vi]) se hr hlt
 rw [aqm] at x4
 exact n ρ _ σ _ x4 ho
theorem apj (hi:ρ[i]?=some (some (.own f.M.length))) (hp:rows≠[]) (h:O ρ none):PSu K f a as (abc (aoY K "list" aoZ (yr i))) ρ (some rows) O:=fun se σ H H2 E x n=>by
 have t:=x.tab rows rfl
 have hl:0<as.length:=by rw [t.len];exact arM.mpr hp
 have hm:a∈a :: as:=apX ..
 refine⟨.ref a,x.at hi,Or.inl ⟨rfl,_,.of t.top⟩,a,as.map .ref,.ref as[as.length - 1],rfl,rfl,t.top,by rw [apP,apU,apO (by omega)];rfl,?_⟩
 exact n ρ none σ _ ⟨adH se hm x.env,by rw [yf hm];exact x.sm,fun b hb=>(zA (fun (z:b=a)=>se.nm _ hm (z▸hb))).trans (x.kp b hb),fun rows' e=>nomatch e⟩ h
theorem aon {Dn:DEnds} (h:aji K f te ρ fun rows=>i<ρ.length/\∀ a as,PSu K f a as ts (ρ.set i (some (.own f.M.length))) (some rows) fun ρ' R'=>Dn.nx (ρ'.map (yK f.M.length)) \/ ∃ rows',R'=some rows'/\ρ'[i]?=some (some (.own f.M.length))/\Dn.nx ((ρ'.map (yK f.M.length)).set i (some (.dat (aaA rows'))))) :
  PSd K f (qf (jE te (yJ i)) ts) ρ Dn:=fun σ H E e n r b k =>
 h σ H _ e fun rows a as H1 g1 na nas t1 ⟨hi,p⟩=>by
  have hn:∀ D∈a :: as,H D=none:=fun D hD=>(ap0.mp hD).elim (fun z=>z▸na) (nas D)
  have nf:∀ D∈a :: as,¬ (f.f=some D \/ D∈f.M):=fun D hD=>fresh_ne e.fd (hn D hD)
  have se:Sep f (a :: as):=⟨t1.nd,fun D hD z=>nf D hD (.inl z),fun D hD z=>nf D hD (.inr z)⟩
  have sm1:=aaz (Ds:=a :: as) g1.sm hn
  have there:∀ D∈a :: as,∃ o,H1 D=some o:=fun D hD=>by
   rcases ap0.mp hD with rfl | h
   ·exact⟨_,t1.top⟩
   ·obtain⟨j,hj⟩:=aql h
    exact⟨_,t1.row j D _ hj (apO (by rw [<-t1.len];exact (apS.mp hj).1))⟩
  have fo1:FOk (f.withs (a :: as)) H1:=⟨g1.ok.fd,fun b hb=>(aqh.mp hb).elim (fun h=>there b (aqF.mp h)) (g1.ok.mm b),fun q eq hq=>(aqh.mp hq).elim (fun h=>nf q (aqF.mp h) (.inl eq)) (g1.ok.nm q eq)⟩
  have e1:EnvOk K (f.withs (a :: as)) ρ σ H1:=⟨e.len,fun q y hy=>by
   obtain⟨v,a1,a2⟩:=e.get q y hy
   refine⟨v,a1,?_⟩
   cases y with
   | dat d=>exact Rep.mono sm1 d v a2
   | feed=>exact a2
   | exc C=>obtain⟨b,h3,h4⟩:=a2;exact⟨b,h3,sm1 _ _ h4⟩
   | mon φ=>exact fun H' s=>a2 H' (sm1.trans s)
   | own k =>
    obtain⟨b,h3,h4⟩:=a2
    exact⟨b,by rw [yZ,ap1 (apS.mp h3).1];exact h3,h4⟩,fo1⟩
  have rv:RepV K (f.withs (a :: as)) H1 (.own f.M.length) (.ref a):=⟨a,by rw [yZ,ap2 (by simp)];simp,rfl⟩
  refine p a as se _ H1 H1 _ ⟨e1.set i rv,Same.refl _,fun _ _=>rfl,fun rows' z=>by cases z;exact t1⟩ fun ρ' R' σ' H' x ho=>?_
  have gg:Goes f H H':=⟨(sm1.trans x.sm).trans same_withs,x.fok,fun b hb=>(x.kp b hb).trans (g1.kp b hb)⟩
  rcases ho with ho | ⟨rows',rfl,h1,ho⟩
  ·exact n _ σ' H' gg x.out ho
  ·exact n _ σ' H' gg (x.read se h1) ho
end
def NewT (f:Fx) (H:Hp) (RT:List (List Int)->Prop) (Q:VK):Prop:=∀ rows a as H',Goes f H H'->H a=none->(∀ x∈as,H x=none)->TabAt H' a as rows->RT rows->Q (.ref a) H'
def alP {γ:Type} (K:apT) (n:Nat) (pre:γ->List DV->Prop) (postT:γ->List (List Int)->Prop) (postD:γ->PyData->Prop) (exc:γ->Value->XD->Prop):Sp:=fun vs H Q E=>∃ f xs c,RepVs K f H xs vs/\xs.length=n/\FOk f H/\pre c xs /\
 NewT f H (postT c) Q/\(∀ r v H',Goes f H H'->Rep K (hide H' f) r v->postD c r->Q v H')/\Wish K f E H (exc c)
def PSg (K:apT) (f:Fx) (E:XK) (ts:TS) (ρ:zw) (RT:List (List Int)->Prop) (RD:PyData->Prop) (Z:Value->XD->Prop):Prop:=∀ (σ:St) (H:Hp) (N:Ends),EnvOk K f ρ σ H->NewT f H RT N.rt->(∀ r v H',Goes f H H'->Rep K (hide H' f) r v->RD r->N.rt v H')->Wish K f E H Z->ts N σ H
section
variable {K:apT} {f:Fx} {ρ:zw} {E:XK} {te tc:TE} {ts tu:TS} {tt:TT} {t:TA} {RT:List (List Int)->Prop} {RD:PyData->Prop} {Z:Value->XD->Prop} {i j n:Nat} {γ:Type} {pre:γ->List DV->Prop} {postT:γ->List (List Int)->Prop} {postD:γ->PyData->Prop} {exc:γ->Value->XD->Prop}
theorem NewT.go {H H1:Hp} {Q:VK} (fo:FOk f H) (h:NewT f H RT Q) (g:Goes f H H1):NewT f H1 RT Q:=fun rows a as H' g' na nas=>h rows a as H' (g.trans g') (g.free fo na) fun x hx=>g.free fo (nas x hx)
theorem am5 (h:PSf K f E ts ρ { nx:=fun ρ'=>PSg K f E tu ρ' RT RD Z,rt:=fun _=>False } Z):PSg K f E (qf ts tu) ρ RT RD Z:=fun σ H N e nt nd z =>
 h σ H _ e (fun ρ' σ' H' g' e' p=>p σ' H' N e' (nt.go e.fd g') (fun r v H2 g2=>nd r v H2 (g'.trans g2)) (z.go g')) (fun _ _ _ _ _ y=>y.elim) (fun _ _ _ _ _ y=>y.elim) (fun _ _ _ _ _ y=>y.elim) z
theorem aj5 (c:γ) (h:PAd K f t ρ fun xs=>xs.length=n/\pre c xs/\(∀ rows,postT c rows->RT rows)/\(∀ d,¬ postD c d)/\∀ C x,¬ exc c C x):aji K f (vW (alP K n pre postT postD exc) [] E t) ρ RT:=fun σ H Q e q =>
 h σ H _ e fun xs vs H1 g1 r1 ⟨hl,hp,kT,kD,kz⟩=>⟨f,xs,c,by rw [aqG];exact r1,hl,g1.2,hp,fun rows a as H' g' na nas t1 p=>q rows a as H' (g1.trans g') (g1.free e.fd na) (fun x hx=>g1.free e.fd (nas x hx)) t1 (kT rows p),fun r v H' g' r' p=>absurd p (kD r),fun C o x H' _ _ p=>absurd p (kz C x)⟩
theorem aj6 (c:γ) (h:PAd K f t ρ fun xs=>xs.length=n/\pre c xs/\(∀ rows,postT c rows->RD (aaA rows))/\(∀ d,postD c d->RD d)/\∀ C x,¬ exc c C x):PEd K f (vW (alP K n pre postT postD exc) [] E t) ρ RD:=fun σ H Q e q =>
 h σ H _ e fun xs vs H1 g1 r1 ⟨hl,hp,kT,kD,kz⟩=>⟨f,xs,c,by rw [aqG];exact r1,hl,g1.2,hp,fun rows a as H' g' na nas t1 p=>q (aaA rows) (.ref a) H' (g1.trans g') (t1.rep (fresh_ne g1.2 na) fun y hy=>fresh_ne g1.2 (nas y hy)) (kT rows p),fun r v H' g' r' p=>q r v H' (g1.trans g') r' (kD r p),fun C o x H' _ _ p=>absurd p (kz C x)⟩
end
section
variable {P:Program} {w:World} {K:apT} {mg:Str->Option Value} {base:Heap} {k n:Nat} {x:Str} {st:Stmt} {ps N:List Str} {γ:Type} {pre:γ->List DV->Prop} {postT:γ->List (List Int)->Prop} {postD:γ->PyData->Prop} {exc:γ->Value->XD->Prop}
theorem Def.okG0 (F:Def K mg x st ps) (S:FnScope N ps (zr st)) (hn:ps.length=n)
  (h:∀ (fa:Addr) (cdv:Value) (A:Around) (outer:List Env) (s:Shared) (H:Hp) (E:XK),Room k (A.deeper (envOfC x (zr st) s.heap.objs.size fa cdv)) ->
   ∃ t,PSs (yj CX0 P w K mg base N x (zr st) fa cdv A outer s H E).nox (yy st) t/\∀ f xs c,xs.length=n->pre c xs->PSg K f E0 t (qA N xs) (postT c) (postD c) fun _ _=>False) :
  FnIn P w K mg base (k+1) x ps (alP K n pre postT postD fun _ _ _=>False):=by
 refine F.raw S (fun vs H Q E h=>?_) fun fa cdv A outer s H vs Q E hr hs=>?_
 ·obtain⟨f,xs,c,r,hl,_⟩:=h
  rw [r.length,hl,hn]
 ·obtain⟨f,xs,c,r,hl,fo,hp,q1,q2,z⟩:=hs
  obtain⟨t,h1,h2⟩:=h fa cdv A outer s H E hr
  exact⟨t,h1,h2 f xs c hl hp (start N vs) H _ (qo r fo) q1 q2 fun _ _ _ _ _ _ y=>y.elim⟩
end
end L2
end
section
namespace L2
open PySem PySem.Spec PyProof.Rows
structure GoesW (f:Fx) (As:List Addr) (H2 H':Hp):Prop where
 sm:Same (hide H2 (f.withs As)) (hide H' f)
 ok:FOk f H'
 kp:∀ b∈f.M,H' b=H2 b
def PSw (K:apT) (f:Fx) (a:Addr) (as:List Addr) (ts:TS) (ρ:zw) (R:Option (List (List Int))) (RT:PyData->Prop):Prop:=Sep f (a :: as)->∀ (σ:St) (H H2:Hp) (E:Ends),TN K f a as H2 ρ R σ H ->
 (∀ d v H',GoesW f (a :: as) H2 H'->Rep K (hide H' f) d v->RT d->E.rt v H')->ts E σ H
section
variable {K:apT} {f:Fx} {a:Addr} {as:List Addr} {ρ:zw} {rows:List (List Int)} {R:Option (List (List Int))} {RT:PyData->Prop} {ts tu:TS} {te:TE} {i:Nat}
theorem apk (h:PSu K f a as ts ρ R fun ρ' R'=>PSw K f a as tu ρ' R' RT):PSw K f a as (qf ts tu) ρ R RT:=fun se σ H H2 E x r =>
 h se σ H H2 _ x fun ρ' R' σ' H' x' p=>p se σ' H' H2 E x' r
theorem aoo (hi:ρ[i]?=some (some (.own f.M.length))) (h:PSd K f ts ((ρ.map (yK f.M.length)).set i (some (.dat (aaA rows)))) { nx:=fun _=>False,rt:=RT }):PSw K f a as ts ρ (some rows) RT:=fun se σ H H2 E x r =>
 h σ H E (x.read se hi) (fun _ _ _ _ _ z=>z.elim) (fun d v H' g' r' p=>r d v H' ⟨(x.sm.trans same_withs).trans g'.sm,g'.ok,fun b hb=>(g'.kp b hb).trans (x.kp b hb)⟩ r' p) (fun _ _ _ _ _ z=>z.elim) (fun _ _ _ _ _ z=>z.elim)
theorem aop {Dn:DEnds} (h:aji K f te ρ fun rows=>i<ρ.length/\∀ a as,PSw K f a as ts (ρ.set i (some (.own f.M.length))) (some rows) Dn.rt) :
  PSd K f (qf (jE te (yJ i)) ts) ρ Dn:=fun σ H E e n r b k =>
 h σ H _ e fun rows a as H1 g1 na nas t1 ⟨hi,p⟩=>by
  have hn:∀ D∈a :: as,H D=none:=fun D hD=>(ap0.mp hD).elim (fun z=>z▸na) (nas D)
  have nf:∀ D∈a :: as,¬ (f.f=some D \/ D∈f.M):=fun D hD=>fresh_ne e.fd (hn D hD)
  have se:Sep f (a :: as):=⟨t1.nd,fun D hD z=>nf D hD (.inl z),fun D hD z=>nf D hD (.inr z)⟩
  have sm1:=aaz (Ds:=a :: as) g1.sm hn
  have there:∀ D∈a :: as,∃ o,H1 D=some o:=fun D hD=>by
   rcases ap0.mp hD with rfl | h
   ·exact⟨_,t1.top⟩
   ·obtain⟨j,hj⟩:=aql h
    exact⟨_,t1.row j D _ hj (apO (by rw [<-t1.len];exact (apS.mp hj).1))⟩
  have fo1:FOk (f.withs (a :: as)) H1:=⟨g1.ok.fd,fun b hb=>(aqh.mp hb).elim (fun h=>there b (aqF.mp h)) (g1.ok.mm b),fun q eq hq=>(aqh.mp hq).elim (fun h=>nf q (aqF.mp h) (.inl eq)) (g1.ok.nm q eq)⟩
  have e1:EnvOk K (f.withs (a :: as)) ρ σ H1:=⟨e.len,fun q y hy=>by
   obtain⟨v,a1,a2⟩:=e.get q y hy
   refine⟨v,a1,?_⟩
   cases y with
   | dat d=>exact Rep.mono sm1 d v a2
   | feed=>exact a2
   | exc C=>obtain⟨b,h3,h4⟩:=a2;exact⟨b,h3,sm1 _ _ h4⟩
   | mon φ=>exact fun H' s=>a2 H' (sm1.trans s)
   | own k =>
    obtain⟨b,h3,h4⟩:=a2
    exact⟨b,by rw [yZ,ap1 (apS.mp h3).1];exact h3,h4⟩,fo1⟩
  have rv:RepV K (f.withs (a :: as)) H1 (.own f.M.length) (.ref a):=⟨a,by rw [yZ,ap2 (by simp)];simp,rfl⟩
  refine p a as se _ H1 H1 _ ⟨e1.set i rv,Same.refl _,fun _ _=>rfl,fun rows' z=>by cases z;exact t1⟩ fun d v H' g' r' q=>?_
  exact r d v H' ⟨sm1.trans g'.sm,g'.ok,fun b hb=>(g'.kp b hb).trans (g1.kp b hb)⟩ r' q
end
structure FnAt (P:Program) (w:World) (K:apT) (mg:Str->Option Value) (base:Heap) (CX:CXT) (k:Nat) (a:Addr) (sp:Sp):Prop where
 ex:∃ (fd:FuncData) (ps:List Str),FnOk P w K mg base CX k a fd ps sp/\arf K (.ref a)=true/\Binds K fd ps []
end L2
end
section
namespace L2
open PySem PySem.Spec PyProof.Rows
end L2
end
section
namespace L2
open PySem PySem.Spec PyProof.Rows
def aj7 (ds es:List PyData):List PyData:=auL (fun d e=>.tuple [d,e]) ds es
structure Src (prog:Program) (w:World) (j:Addr) (xs:Array Value) (dep:List Addr) (St:Nat->Heap->Prop):Prop where
 own:j∈dep
 keep:∀ {k:Nat} {h h':Heap},St k h->(∀ c∈dep,∀ o,h.get? c=some o->h'.get? c=some o)->St k h'
 there:∀ {k:Nat} {h:Heap},St k h->∃ o,h.get? j=some o
 item:∀ {A:Around} {E:Value->Shared->Prop} {s:Shared} {k:Nat} {x:Value} {Q:Value->Shared->Prop},St k s.heap->xs[k]?=some x->(∀ h',St (k+1) h'->arI j s.heap h'->Q x { s with heap:=h' })->wpAny (model prog w) A (aqL (.ref j)) Q E s
 stop:∀ {A:Around} {E:Value->Shared->Prop} {s:Shared} {k:Nat} {Q:Value->Shared->Prop},A.handled=none->St k s.heap->xs[k]?=none->(∀ h' e,auB j s.heap h'->(∃ o,h'.get? e=some o/\o.cls=.type "StopIteration")->E (.ref e) { s with heap:=h' })->wpAny (model prog w) A (aqL (.ref j)) Q E s
section
variable {prog:Program} {w:World} {A:Around} {E:Value->Shared->Prop} {s:Shared}
theorem nextT {j t:Addr} {k:Nat} {xs:Array Value} {Q:Value->Shared->Prop} (hj:s.heap.IsTupleIter j t k) (ht:s.heap.IsTuple t xs)
  (hi:∀ x,xs[k]?=some x->∀ h',h'.IsTupleIter j t (k+1)->arI j s.heap h'->Q x { s with heap:=h' })
  (he:xs[k]?=none->A.handled=none/\∀ h' e,auB j s.heap h'->(∃ o,h'.get? e=some o/\o.cls=.type "StopIteration")->E (.ref e) { s with heap:=h' }) :
  wpAny (model prog w) A (aqL (.ref j)) Q E s:=by
 obtain⟨oj,gj,cj,dj⟩:=id hj
 obtain⟨ot,gt,_,nt,dt⟩:=ht
 unfold aqL
 refine wpAny_bind (wpAny_callSpecial?_slot (name:=arQ "__next__") hj.typeIs atE (wpAny_call_entry atE hj.typeIs F.entry_tuple_iterator_next ?_ (F.args_tuple_iterator_next_1 _)))
 show wpAny _ _ (field (.ref j) 0 >>= _) _ _ s
 refine wpAny_bind (wpAny_field gj dj (x:=.ref t) rfl ?_)
 show wpAny _ _ (if (Value.ref t == Value.none)=true then _ else _) _ _ s
 have nn:¬ ((Value.ref t == Value.none)=true):=apQ
 rw [if_neg nn]
 show wpAny _ _ (field (.ref j) 1 >>= _) _ _ s
 refine wpAny_bind (wpAny_field gj dj (x:=.int k 0) rfl ?_)
 show wpAny _ _ (seqItems? (.ref t) >>= _) _ _ s
 refine wpAny_bind (wpAny_seqItems gt dt ?_)
 cases hx:xs[k]? with
 | some x =>
  simp only [aqs,hx]
  have up:=aqQ (asM fun v=>v.setIfInBounds 1 (rawInt ((k:Int)+1))) gj (as6 (asS dj _))
  refine wpAny_bind (wpAny_setField gj dj (by simp) (wpAny_pure ⟨x,rfl,wpAny_pure (hi x hx _ ⟨_,up,(Obj.cls_mapFields ..).trans cj,?_⟩ (ara ..))⟩))
  rw [asS dj]
  simp [rawInt]
 | none =>
  obtain⟨hh,hE⟩:=he hx
  simp only [aqs,hx]
  refine wpAny_bind (wpAny_rule (wpAny_bind (wpAny_setField gj dj (by simp) (wpAny_bind ?_))))
  simp only [newExc,newTuple]
  refine wpAny_bind (wpAny_newObj_type (wpAny_bind (m:=firstArgMember _ _) (wpAny_of_eq (a:=Value.none) (by first | rfl | (simp only [firstArgMember];rfl)) (wpAny_newObj_type ?_ (by size_fits)))) (by size_fits))
  simp only [raiseNew]
  refine wpAny_bind (wpAny_handled ?_)
  first | rw [show A.in1.handled=none from hh] | rw [hh]
  exact wpAny_bind (wpAny_pure (wpAny_throw (hE _ _ (((ara ..).extBut.push _).push _) ⟨_,ap7 _ rfl,rfl⟩)))
theorem src_tuple (j t:Addr) (xs:Array Value):Src prog w j xs [j,t] fun k h=>h.IsTupleIter j t k/\h.IsTuple t xs/\j≠t where
 own:=by simp
 keep:=fun⟨a,b,c⟩ kp=>⟨a.at fun o e=>kp j (by simp) o e,b.at fun o e=>kp t (by simp) o e,c⟩
 there:=fun⟨⟨o,e,_⟩,_⟩=>⟨o,e⟩
 item:=fun⟨a,b,c⟩ hx hQ=>nextT a b (fun x' hx' h' p sb=>by
  rw [hx] at hx'
  cases hx'
  exact hQ h' ⟨p,b.at fun o e=>sb.extBut _ _ (fun z=>c z.symm) e,c⟩ sb) fun z=>by rw [hx] at z;cases z
 stop:=fun hh ⟨a,b,c⟩ hx hE=>nextT a b (fun x' hx'=>by rw [hx] at hx';cases hx') fun _=>⟨hh,hE⟩
structure Far (z q1 q2 j1 j2:Addr) (e1 e2:List Addr):Prop where
 q1z:q1≠z
 q2z:q2≠z
 q12:q1≠q2
 j12:j1≠j2
 q1j1:q1≠j1
 q1j2:q1≠j2
 z1:z∉e1
 z2:z∉e2
 o1:q2∉e1
 o2:q2∉e2
 d12:j2∉e1
 d21:j1∉e2
theorem Src.off {j b:Addr} {xs:Array Value} {dep:List Addr} {St:Nat->Heap->Prop} (S:Src prog w j xs dep St) {k:Nat} {h h':Heap} (hs:St k h) (hb:b∉dep) (e:auB b h h'):St k h' :=
 S.keep hs fun c hc o g=>e c o (fun z=>hb (z▸hc)) g
theorem ah8 {z q1 q2 j1 j2:Addr} {xs ys:Array Value} {e1 e2:List Addr} {S1 S2:Nat->Heap->Prop} {k:Nat} {x y u v:Value} {Q:Value->Shared->Prop} (F1:Src prog w j1 xs e1 S1) (F2:Src prog w j2 ys e2 S2) (D:Far z q1 q2 j1 j2 e1 e2)
  (hz:IsZip s.heap z q1 q2 .none) (hq1:IsPair s.heap q1 (.ref j1) (.ref j2)) (hq2:IsPair s.heap q2 u v) (h1:S1 k s.heap) (h2:S2 k s.heap) (hx:xs[k]?=some x) (hy:ys[k]?=some y)
  (hQ:∀ h',IsZip h' z q1 q2 (rawInt s.heap.objs.size)->IsPair h' q2 x y->S1 (k+1) h'->S2 (k+1) h'->IsPair h' s.heap.objs.size x y->h'.objs.size=s.heap.objs.size+1->(∀ c o,c≠z->c≠q2->c≠j1->c≠j2->s.heap.get? c=some o->h'.get? c=some o)->Q (.ref s.heap.objs.size) { s with heap:=h' }) :
  wpAny (model prog w) A (Builtin.«zip.__next__» ⟨[.ref z],[]⟩) (fun fin s'=>∃ r,fin=.done (.ret r)/\Q r s') E s:=by
 have j1z:z≠j1:=fun e=>D.z1 (e▸F1.own)
 have j2z:z≠j2:=fun e=>D.z2 (e▸F2.own)
 have q2j1:q2≠j1:=fun e=>D.o1 (e▸F1.own)
 have q2j2:q2≠j2:=fun e=>D.o2 (e▸F2.own)
 show wpAny _ _ (field (.ref z) 2 >>= _) _ _ _
 refine wpAny_bind (wpAny_field hz rfl (x:=.bool false) rfl (show wpAny _ _ (field (.ref z) 3 >>= _) _ _ _ from wpAny_bind (wpAny_field hz rfl (x:=.ref q1) rfl (wpAny_bind (wpAny_seqItems hq1 rfl ?_)))))
 show wpAny _ _ (aro (.ref z) >>= _) _ _ _
 unfold aro
 refine wpAny_bind (wpAny_bind (wpAny_field hz rfl (x:=.none) rfl (wpAny_pure ?_)))
 simp only [if_true]
 refine wpAny_bind (wpAny_rule (wpAny_bind (wpAny_field hz rfl (x:=.ref q2) rfl (wpAny_bind (wpAny_setField_rec hz (by simp) fun ha za sa=>?_)))))
 have za:IsZip ha z q1 q2 .ellipsis:=za
 refine wpAny_bind ?_
 simp only [List.zipIdx_cons,List.zipIdx_nil,ar0,asi]
 refine wpAny_bind (wpAny_bind (wpAny_onRaise (show wpAny _ _ (aqL (.ref j1) >>= _) _ _ _ from wpAny_bind (F1.item (F1.off h1 D.z1 sa.extBut) hx fun hb p1 sb=>wpAny_pure ?_))))
 have tb:IsPair hb q2 u v:=sb.extBut _ _ q2j1 (sa.extBut _ _ D.q2z hq2)
 refine wpAny_bind (wpAny_seqItems tb rfl (wpAny_bind (wpAny_updateSeq_pair tb fun hc tc sc=>wpAny_bind (wpAny_letGo (wpAny_pure ?_)))))
 have tc:IsPair hc q2 x v:=tc
 have p2:S2 k hc:=F2.off (F2.off (F2.off h2 D.z2 sa.extBut) D.d21 sb.extBut) D.o2 sc.extBut
 refine wpAny_bind (wpAny_bind (wpAny_onRaise (show wpAny _ _ (aqL (.ref j2) >>= _) _ _ _ from wpAny_bind (F2.item p2 hy fun hd p3 sd=>wpAny_pure ?_))))
 have td:IsPair hd q2 x v:=sd.extBut _ _ q2j2 tc
 refine wpAny_bind (wpAny_seqItems td rfl (wpAny_bind (wpAny_updateSeq_pair td fun he te se=>wpAny_bind (wpAny_letGo (wpAny_pure (wpAny_pure ?_))))))
 have te:IsPair he q2 x y:=te
 refine wpAny_bind (wpAny_seqItems te rfl (wpAny_bind (wpAny_newTuple ?_)))
 have size:he.objs.size=s.heap.objs.size:=by rw [se.1,sd.1,sc.1,sb.1,sa.1]
 have ze:IsZip he z q1 q2 .ellipsis:=se.extBut _ _ D.q2z.symm (sd.extBut _ _ j2z (sc.extBut _ _ D.q2z.symm (sb.extBut _ _ j1z za)))
 have ke:∀ c o,c≠z->c≠q2->c≠j1->c≠j2->s.heap.get? c=some o->he.get? c=some o:=fun c o n1 n2 n3 n4 g =>
  se.extBut _ _ n2 (sd.extBut _ _ n4 (sc.extBut _ _ n2 (sb.extBut _ _ n3 (sa.extBut _ _ n1 g))))
 have f1:S1 (k+1) he:=F1.off (F1.off (F1.off p1 D.o1 sc.extBut) D.d12 sd.extBut) D.o1 se.extBut
 have f2:S2 (k+1) he:=F2.off p3 D.o2 se.extBut
 have zl:z<he.objs.size:=ap5 ze
 show wpAny _ _ (asH (.ref z) (.ref he.objs.size) >>= _) _ _ _
 unfold asH
 have zf:IsZip (he.push { cls:=.type "tuple",data:=.seq #[x,y] }) z q1 q2 .ellipsis:=apV _ ze
 refine wpAny_bind (wpAny_bind (wpAny_setField_rec zf (by simp) fun hg zg sg=>?_))
 have zg:IsZip hg z q1 q2 (rawInt he.objs.size):=zg
 refine wpAny_setField_rec zg (by simp) fun hk zk sk=>?_
 have zk:IsZip hk z q1 q2 (rawInt he.objs.size):=zk
 have up:∀ c o,c≠z->he.get? c=some o->hk.get? c=some o:=fun c o n g=>sk.extBut _ _ n (sg.extBut _ _ n (apV _ g))
 have tk:IsPair hk he.objs.size x y:=sk.extBut _ _ (arJ zl) (sg.extBut _ _ (arJ zl) (ap7 _ rfl))
 have sz:hk.objs.size=he.objs.size+1:=by rw [sk.1,sg.1,aq5]
 rw [size] at zk tk sz
 refine wpAny_pure ⟨_,rfl,?_⟩
 show Q (.ref he.objs.size) _
 rw [size]
 exact hQ hk zk (up _ _ D.q2z te) (F1.keep f1 fun c hc o g=>up c o (fun e=>D.z1 (e▸hc)) g) (F2.keep f2 fun c hc o g=>up c o (fun e=>D.z2 (e▸hc)) g) tk sz fun c o n1 n2 n3 n4 g=>up c o n1 (ke c o n1 n2 n3 n4 g)
theorem aj8 {z q1 q2 j1 j2:Addr} {xs ys:Array Value} {e1 e2:List Addr} {S1 S2:Nat->Heap->Prop} {k:Nat} {u v:Value} {Q:Fin->Shared->Prop} (hh:A.handled=none) (F1:Src prog w j1 xs e1 S1) (F2:Src prog w j2 ys e2 S2) (D:Far z q1 q2 j1 j2 e1 e2)
  (hz:IsZip s.heap z q1 q2 .none) (hq1:IsPair s.heap q1 (.ref j1) (.ref j2)) (hq2:IsPair s.heap q2 u v) (h1:S1 k s.heap) (h2:S2 k s.heap) (hend:xs[k]?=none \/ ys[k]?=none)
  (hE:∀ h' e,(∀ c o,c≠z->c≠q2->c≠j1->c≠j2->s.heap.get? c=some o->h'.get? c=some o)->(∃ o,h'.get? e=some o/\o.cls=.type "StopIteration")->E (.ref e) { s with heap:=h' }) :
  wpAny (model prog w) A (Builtin.«zip.__next__» ⟨[.ref z],[]⟩) Q E s:=by
 have j1z:z≠j1:=fun e=>D.z1 (e▸F1.own)
 have j2z:z≠j2:=fun e=>D.z2 (e▸F2.own)
 have q2j1:q2≠j1:=fun e=>D.o1 (e▸F1.own)
 show wpAny _ _ (field (.ref z) 2 >>= _) _ _ _
 refine wpAny_bind (wpAny_field hz rfl (x:=.bool false) rfl (show wpAny _ _ (field (.ref z) 3 >>= _) _ _ _ from wpAny_bind (wpAny_field hz rfl (x:=.ref q1) rfl (wpAny_bind (wpAny_seqItems hq1 rfl ?_)))))
 show wpAny _ _ (aro (.ref z) >>= _) _ _ _
 unfold aro
 refine wpAny_bind (wpAny_bind (wpAny_field hz rfl (x:=.none) rfl (wpAny_pure ?_)))
 simp only [if_true]
 refine wpAny_bind (wpAny_rule (wpAny_bind (wpAny_field hz rfl (x:=.ref q2) rfl (wpAny_bind (wpAny_setField_rec hz (by simp) fun ha za sa=>?_)))))
 have za:IsZip ha z q1 q2 .ellipsis:=za
 refine wpAny_bind ?_
 simp only [List.zipIdx_cons,List.zipIdx_nil,ar0,asi]
 have p1:=F1.off h1 D.z1 sa.extBut
 cases hx:xs[k]? with
 | none =>
  refine wpAny_bind (wpAny_bind (wpAny_onRaise (show wpAny _ _ (aqL (.ref j1) >>= _) _ _ _ from wpAny_bind (F1.stop hh p1 hx fun hb e sb he=>?_))))
  obtain⟨oe,ge,ce⟩:=he
  have zb:IsZip hb z q1 q2 .ellipsis:=sb _ _ j1z za
  have ez:e≠z:=fun y=>by subst y;rw [zb] at ge;cases ge;simp at ce
  exact wpAny_setField_rec zb (by simp) fun hc _ sc=>hE hc e (fun c o n1 _ n3 _ g=>sc.extBut _ _ n1 (sb _ _ n3 (sa.extBut _ _ n1 g))) ⟨oe,sc.extBut _ _ ez ge,ce⟩
 | some x =>
  have hy:ys[k]?=none:=hend.elim (fun h=>by rw [hx] at h;cases h) id
  refine wpAny_bind (wpAny_bind (wpAny_onRaise (show wpAny _ _ (aqL (.ref j1) >>= _) _ _ _ from wpAny_bind (F1.item p1 hx fun hb r1 sb=>wpAny_pure ?_))))
  have tb:IsPair hb q2 u v:=sb.extBut _ _ q2j1 (sa.extBut _ _ D.q2z hq2)
  refine wpAny_bind (wpAny_seqItems tb rfl (wpAny_bind (wpAny_updateSeq_pair tb fun hc tc sc=>wpAny_bind (wpAny_letGo (wpAny_pure ?_)))))
  have p2:S2 k hc:=F2.off (F2.off (F2.off h2 D.z2 sa.extBut) D.d21 sb.extBut) D.o2 sc.extBut
  refine wpAny_bind (wpAny_bind (wpAny_onRaise (show wpAny _ _ (aqL (.ref j2) >>= _) _ _ _ from wpAny_bind (F2.stop hh p2 hy fun hd e sd he=>?_))))
  obtain⟨oe,ge,ce⟩:=he
  have zd:IsZip hd z q1 q2 .ellipsis:=sd _ _ j2z (sc.extBut _ _ D.q2z.symm (sb.extBut _ _ j1z za))
  have ez:e≠z:=fun y=>by subst y;rw [zd] at ge;cases ge;simp at ce
  exact wpAny_setField_rec zd (by simp) fun hf _ sf=>hE hf e (fun c o n1 n2 n3 n4 g=>sf.extBut _ _ n1 (sd _ _ n4 (sc.extBut _ _ n2 (sb.extBut _ _ n3 (sa.extBut _ _ n1 g))))) ⟨oe,sf.extBut _ _ ez ge,ce⟩
theorem afQ {z q1 q2 j1 j2:Addr} {xs ys:Array Value} {e1 e2:List Addr} {S1 S2:Nat->Heap->Prop} {k:Nat} {x y u v:Value} {Q:Option Value->Shared->Prop} (F1:Src prog w j1 xs e1 S1) (F2:Src prog w j2 ys e2 S2) (D:Far z q1 q2 j1 j2 e1 e2)
  (hz:IsZip s.heap z q1 q2 .none) (hq1:IsPair s.heap q1 (.ref j1) (.ref j2)) (hq2:IsPair s.heap q2 u v) (h1:S1 k s.heap) (h2:S2 k s.heap) (hx:xs[k]?=some x) (hy:ys[k]?=some y)
  (hQ:∀ h',IsZip h' z q1 q2 (rawInt s.heap.objs.size)->IsPair h' q2 x y->S1 (k+1) h'->S2 (k+1) h'->IsPair h' s.heap.objs.size x y->h'.objs.size=s.heap.objs.size+1->(∀ c o,c≠z->c≠q2->c≠j1->c≠j2->s.heap.get? c=some o->h'.get? c=some o)->Q (some (.ref s.heap.objs.size)) { s with heap:=h' }) :
  wpAny (model prog w) A (pyNext (.ref z)) Q E s:=by
 have ty:s.TypeIs (.ref z) "zip":=⟨_,hz,rfl⟩
 unfold pyNext
 exact wpAny_bind (wpAny_attempt (wpAny_callSpecial?_slot (name:=arQ "__next__") ty atn (wpAny_call_entry atn ty F.entry_zip_next (ah8 F1 F2 D hz hq1 hq2 h1 h2 hx hy fun h' r1 r2 r3 r4 r5 r6 r7=>wpAny_pure (hQ h' r1 r2 r3 r4 r5 r6 r7)) (F.args_zip_next_1 _))))
theorem ah9 {z q1 q2 j1 j2:Addr} {xs ys:Array Value} {e1 e2:List Addr} {S1 S2:Nat->Heap->Prop} {k:Nat} {u v:Value} {Q:Option Value->Shared->Prop} (hh:A.handled=none) (F1:Src prog w j1 xs e1 S1) (F2:Src prog w j2 ys e2 S2) (D:Far z q1 q2 j1 j2 e1 e2)
  (hz:IsZip s.heap z q1 q2 .none) (hq1:IsPair s.heap q1 (.ref j1) (.ref j2)) (hq2:IsPair s.heap q2 u v) (h1:S1 k s.heap) (h2:S2 k s.heap) (hend:xs[k]?=none \/ ys[k]?=none)
  (hQ:∀ h',(∀ c o,c≠z->c≠q2->c≠j1->c≠j2->s.heap.get? c=some o->h'.get? c=some o)->Q none { s with heap:=h' }):wpAny (model prog w) A (pyNext (.ref z)) Q E s:=by
 have ty:s.TypeIs (.ref z) "zip":=⟨_,hz,rfl⟩
 unfold pyNext
 refine wpAny_bind (wpAny_attempt (wpAny_callSpecial?_slot (name:=arQ "__next__") ty atn (wpAny_call_entry atn ty F.entry_zip_next (aj8 hh F1 F2 D hz hq1 hq2 h1 h2 hend fun h' e kp ⟨o,g,c⟩=>?_) (F.args_zip_next_1 _))))
 exact wpAny_bind (wpAny_isInstance (T:="StopIteration") (b:=true) ⟨o,g,c⟩ isSubtype_stop (wpAny_pure (hQ _ kp)))
end
abbrev zt1 (h:Heap) (a:Addr):Heap:=h.push { cls:=.type "tuple_iterator",data:=.fields #[.ref a,.int 0 0] }
abbrev zt2 (h:Heap) (a b:Addr):Heap:=(zt1 h a).push { cls:=.type "tuple_iterator",data:=.fields #[.ref b,.int 0 0] }
abbrev zt3 (h:Heap) (a b:Addr):Heap:=(zt2 h a b).push { cls:=.type "tuple",data:=.seq #[.ref h.objs.size,.ref (zt1 h a).objs.size] }
abbrev zt4 (h:Heap) (a b:Addr):Heap:=(zt3 h a b).push { cls:=.type "tuple",data:=.seq #[.none,.none] }
abbrev zt5 (h:Heap) (a b:Addr):Heap:=(zt4 h a b).push { cls:=.type "zip",data:=.fields #[.none,.bool false,.bool false,.ref (zt2 h a b).objs.size,.ref (zt3 h a b).objs.size] }
theorem afR (a b:Addr) (xs ys:Array Value):Meets (Builtin.«zip.__new__» ⟨[.type "zip",.ref a,.ref b],[]⟩) (fun _ R s=>s.heap.IsTuple a xs/\s.heap.IsTuple b ys/\R (.ok (.ret (.ref (zt4 s.heap a b).objs.size))) { s with heap:=zt5 s.heap a b }) :=
 .of_wp fun prog w A R s ⟨ha,hb,h⟩=>by
  obtain⟨hp,g,d,tk,os⟩:=s
  have hsub:=sub_zip
  have hA:Heap.IsTuple (Shared.heap ⟨hp,g,d,tk,os⟩) a xs:=ha
  have hB:Heap.IsTuple (Shared.heap ⟨hp.push { cls:=.type "tuple_iterator",data:=.fields #[.ref a,.int 0 0] },g,d,tk,os⟩) b ys:=hb.at fun o e=>apV _ e
  wp_walk using wpAny_pyIter_tuple hA,wpAny_pyIter_tuple hB
  exact⟨_,rfl,h⟩
section
variable {prog:Program} {w:World} {A:Around} {E:Value->Shared->Prop} {s:Shared}
theorem aia {a b:Addr} {xs ys:Array Value} {Q:Value->Shared->Prop} (ha:s.heap.IsTuple a xs) (hb:s.heap.IsTuple b ys)
  (h:∀ h',IsZip h' (s.heap.objs.size+4) (s.heap.objs.size+2) (s.heap.objs.size+3) .none->IsPair h' (s.heap.objs.size+2) (.ref s.heap.objs.size) (.ref (s.heap.objs.size+1))->IsPair h' (s.heap.objs.size+3) .none .none ->
   h'.IsTupleIter s.heap.objs.size a 0->h'.IsTupleIter (s.heap.objs.size+1) b 0->(∀ c o,s.heap.get? c=some o->h'.get? c=some o)->Q (.ref (s.heap.objs.size+4)) { s with heap:=h' }) :
  wpAny (model prog w) A (call (.type "zip") [.ref a,.ref b]) Q E s:=by
 refine callType_new F.called_zip (by decide) (F.typeCall_zip_2 _ _) (F.newCall_zip_2 _ _) (fun obj=>F.args_object_init_3 obj _ _) F.entry_zip_new (afR a b xs ys) ⟨ha,hb,?_⟩
 have n1:(zt1 s.heap a).objs.size=s.heap.objs.size+1:=aq5 ..
 have n2:(zt2 s.heap a b).objs.size=s.heap.objs.size+2:=by rw [aq5,n1]
 have n3:(zt3 s.heap a b).objs.size=s.heap.objs.size+3:=by rw [aq5,n2]
 have n4:(zt4 s.heap a b).objs.size=s.heap.objs.size+4:=by rw [aq5,n3]
 have up:∀ {hh:Heap} {c:Addr} {o p:Obj},hh.get? c=some o->(hh.push p).get? c=some o:=fun e=>apV _ e
 have k5:(zt5 s.heap a b).get? (zt4 s.heap a b).objs.size=some _:=ap7 _ rfl
 have k4:(zt5 s.heap a b).get? (zt3 s.heap a b).objs.size=some _:=up (ap7 _ rfl)
 have k3:(zt5 s.heap a b).get? (zt2 s.heap a b).objs.size=some _:=up (up (ap7 _ rfl))
 have k2:(zt5 s.heap a b).get? (zt1 s.heap a).objs.size=some _:=up (up (up (ap7 _ rfl)))
 have k1:(zt5 s.heap a b).get? s.heap.objs.size=some _:=up (up (up (up (ap7 _ rfl))))
 show _/\_
 rw [n2,n3,n4] at k5
 rw [n1,n2] at k3
 rw [n3] at k4
 rw [n1] at k2
 rw [n4]
 exact⟨⟨_,k5,rfl⟩,h _ k5 k3 k4 ⟨_,k1,rfl,rfl⟩ ⟨_,k2,rfl,rfl⟩ fun c o e=>up (up (up (up (up e))))⟩
theorem alQ {n a b:Nat} (ha:a<n) (hb:b<n):Far (show Addr from n+4) (show Addr from n+2) (show Addr from n+3) (show Addr from n) (show Addr from n+1) [show Addr from n,show Addr from a] [show Addr from n+1,show Addr from b]:=by
 have l1:∀ {x y z:Nat},x≠y->x≠z->x∉[y,z]:=fun h1 h2 h=>(ap0.mp h).elim h1 fun h=>h2 (aqj.mp h)
 exact⟨fun (h:n+2=n+4)=>by omega,fun (h:n+3=n+4)=>by omega,fun (h:n+2=n+3)=>by omega,fun (h:n=n+1)=>by omega,fun (h:n+2=n)=>by omega,fun (h:n+2=n+1)=>by omega,
  l1 (x:=n+4) (y:=n) (z:=a) (by omega) (by omega),l1 (x:=n+4) (y:=n+1) (z:=b) (by omega) (by omega),l1 (x:=n+3) (y:=n) (z:=a) (by omega) (by omega),l1 (x:=n+3) (y:=n+1) (z:=b) (by omega) (by omega),l1 (x:=n+1) (y:=n) (z:=a) (by omega) (by omega),l1 (x:=n) (y:=n+1) (z:=b) (by omega) (by omega)⟩
end
def apl (K:apT) (a b:Addr):It :=
 ⟨fun i H=>∃ xs ys x y,SqT K H a xs/\SqT K H b ys/\xs[i]?=some x/\ys[i]?=some y,fun i H v H'=>∃ t x y,v=.ref t/\H t=none/\H'=upd H t (.tup [x,y])/\(∀ xs,SqT K H a xs->xs[i]?=some x)/\∀ ys,SqT K H b ys->ys[i]?=some y,
  fun i H=>∃ xs ys,SqT K H a xs/\SqT K H b ys/\(xs.length<=i \/ ys.length<=i)⟩
theorem aib {P:Program} {w:World} {K:apT} {es:List Expr} {k:Nat} {pos:Pos} (a b z q1 q2 c1 c2:Addr) (D:Far z q1 q2 c1 c2 [c1,a] [c2,b]) (n1:c1≠a) (n2:c2≠b) :
  Turn P w K (.Tuple es k pos) (apl K a b) [z,q1,q2,c1,c2] z (fun i h=>IsZip h z q1 q2 .none/\IsPair h q1 (.ref c1) (.ref c2)/\(∃ u v,IsPair h q2 u v)/\h.IsTupleIter c1 a i/\h.IsTupleIter c2 b i) where
 mem:=by simp
 obj:=fun i h ⟨s1,s2,⟨u,v,s3⟩,⟨o4,e4,_,d4⟩,⟨o5,e5,_,d5⟩⟩ x hx=>by
  simp only [ap0,aqN,or_false] at hx
  rcases hx with rfl | rfl | rfl | rfl | rfl
  ·exact⟨_,s1,fun y e=>by have e':Data.fields _=Data.cell y:=e;cases e'⟩
  ·exact⟨_,s2,fun y e=>by have e':Data.seq _=Data.cell y:=e;cases e'⟩
  ·exact⟨_,s3,fun y e=>by have e':Data.seq _=Data.cell y:=e;cases e'⟩
  ·exact⟨o4,e4,fun y e=>by rw [d4] at e;cases e⟩
  ·exact⟨o5,e5,fun y e=>by rw [d5] at e;cases e⟩
 keep:=fun i h h' ⟨s1,s2,⟨u,v,s3⟩,s4,s5⟩ kk=>⟨kk z (by simp) _ s1,kk q1 (by simp) _ s2,⟨u,v,kk q2 (by simp) _ s3⟩,s4.at fun o e=>kk c1 (by simp) o e,s5.at fun o e=>kk c2 (by simp) o e⟩
 item:=by
  intro X hP hw hK hc i pins s σ H E I hf st hg
  subst hP hw hK
  obtain⟨xs,ys,x,y,hq,hp,hx,hy⟩:=hg
  obtain⟨its,rv,p,_⟩:=I.tuple hq
  obtain⟨u,hu,ru⟩:=rv.get hx
  obtain⟨its',rv',p',_⟩:=I.tuple hp
  obtain⟨v,hv,rv2⟩:=rv'.get hy
  obtain⟨s1,s2,⟨u0,v0,s3⟩,s4,s5⟩:=st
  have zc1:c1≠z:=fun e=>D.z1 (e▸apX ..)
  have zc2:c2≠z:=fun e=>D.z2 (e▸apX ..)
  refine afQ (src_tuple c1 a its.toArray) (src_tuple c2 b its'.toArray) D s1 s2 s3 ⟨s4,p,n1⟩ ⟨s5,p',n2⟩ (x:=u) (y:=v) (by simpa using hu) (by simpa using hv) fun h' m1 m3 m4 m5 tp sz kp=>⟨_,rfl,?_⟩
  refine wpAny_letOwnedTupleGo_zip (s:={ s with heap:=h' }) m1 fun h2 l1 sb=>?_
  have old:∀ c∈[z,q1,q2,c1,c2],c<s.heap.objs.size:=fun c hc=>by
   obtain⟨o4,e4,_,_⟩:=s4
   obtain⟨o5,e5,_,_⟩:=s5
   simp only [ap0,aqN,or_false] at hc
   rcases hc with rfl | rfl | rfl | rfl | rfl
   ·exact ap5 s1
   ·exact ap5 s2
   ·exact ap5 s3
   ·exact ap5 e4
   ·exact ap5 e5
  have kk:∀ c o,c∉[z,q1,q2,c1,c2]->s.heap.get? c=some o->h2.get? c=some o:=fun c o hc e=>by
   simp only [ap0,aqN,or_false,not_or] at hc
   exact (sb.2 c hc.1).trans (kp c o hc.1 hc.2.2.1 hc.2.2.2.1 hc.2.2.2.2 e)
  have hlt:z<s.heap.objs.size:=old z (by simp)
  have I2:Inv X pins σ (upd H s.heap.objs.size (.tup [x,y])) { s with heap:=h2,toks:=s.toks }:=I.turnedNew (t':=s.toks) hf kk (apY _) ⟨by show 2<=sizeLine;decide,[u,v],.cons ru (.cons rv2 .nil),⟨_,(sb.2 _ (arJ hlt)).trans tp,rfl,_,rfl⟩⟩
  refine⟨.ref s.heap.objs.size,_,I2,rfl,⟨_,x,y,rfl,I.fresh,rfl,fun zs hz=>by rw [I.tuple_inj hz hq];exact hx,fun zs hz=>by rw [I.tuple_inj hz hp];exact hy⟩,⟨l1,?_,⟨u,v,?_⟩,?_,?_⟩,fun c hc=>?_⟩
  ·exact (sb.2 q1 D.q1z).trans (kp q1 _ D.q1z D.q12 D.q1j1 D.q1j2 s2)
  ·exact (sb.2 q2 D.q2z).trans m3
  ·exact m4.1.at fun o eo=>(sb.2 c1 zc1).trans eo
  ·exact m5.1.at fun o eo=>(sb.2 c2 zc2).trans eo
  ·rw [zA (aqp (old c hc))]
   exact (hf c hc).1
 done:=by
  intro X hP hw hK hc i pins s σ H E I hf st hg
  subst hP hw hK
  obtain⟨xs,ys,hq,hp,hx⟩:=hg
  obtain⟨its,rv,p,_⟩:=I.tuple hq
  obtain⟨its',rv',p',_⟩:=I.tuple hp
  obtain⟨s1,s2,⟨u0,v0,s3⟩,s4,s5⟩:=st
  have hl:=rv.length
  have hl':=rv'.length
  refine ah9 (I.ok.hd hc) (src_tuple c1 a its.toArray) (src_tuple c2 b its'.toArray) D s1 s2 s3 ⟨s4,p,n1⟩ ⟨s5,p',n2⟩ (hx.imp (fun h=>by simp;omega) fun h=>by simp;omega) fun h' eb=>⟨rfl,I.turnedAll (t':=s.toks) hf fun c o hb e'=>?_⟩
  simp only [ap0,aqN,or_false,not_or] at hb
  exact eb c o hb.1 hb.2.2.1 hb.2.2.2.1 hb.2.2.2.2 e'
 self:=fun _ _ _ _ _ st h=>wpAny_pyIter_zip st.1 h
section
variable {X:Cx} {es:List Expr} {k:Nat} {tpos:Pos}
def aj9 (K:apT) (ta:TA):TI:=fun σ H R=>ta σ H fun vs H1=>∃ a b,vs=[.ref a,.ref b]/\(∃ xs,SqT K H1 a xs)/\(∃ ys,SqT K H1 b ys)/\R (apl K a b) H1
theorem alR {a b:Expr} {ta:TA} {p pos:Pos} (hg:Gl X "zip") (hm:X.mg "zip"=none) (ha:PA X [a,b] ta) (hs:starEach [a,b] X.env=(false,eval a X.env) :: starEach [b] X.env:=by rfl) (hl:(backTo pos (starEach [b] X.env)).any (·.1)=false:=by rfl):PI X (.Tuple es k tpos) (.Call (.Name "zip" p) [a,b] [] pos) (aj9 X.K ta):=by
 intro pins s σ H R I h
 refine Call_ (qT I hg hm boot_zip (art (thn (ha pos pins s σ H _ I h) fun us s1 ⟨vs,H1,I1,r1,l,l',e,⟨xs,hq⟩,⟨ys,hp⟩,q⟩=>?_) hs hl))
 subst e
 cases r1 with
 | cons r rr =>
  cases rr with
  | cons r' rr' =>
   cases rr'
   cases r
   cases r'
   obtain⟨its,rv,p,_⟩:=I1.tuple hq
   obtain⟨its',rv',p',_⟩:=I1.tuple hp
   obtain⟨o1,e1,_⟩:=id p
   obtain⟨o2,e2,_⟩:=id p'
   refine aia p p' fun h' m1 m2 m3 m4 m5 kp=>wpAny_pyIter_zip m1 ?_
   have b1:l<s1.heap.objs.size:=ap5 e1
   have b2:l'<s1.heap.objs.size:=ap5 e2
   refine⟨_,[s1.heap.objs.size+4,s1.heap.objs.size+2,s1.heap.objs.size+3,s1.heap.objs.size,s1.heap.objs.size+1],_,_,H1,rfl,I1.kept (t':=s1.toks) kp,aib l l' _ _ _ _ _ (alQ b1 b2) (fun e=>aru _ (e▸b1)) (fun e=>by have:s1.heap.objs.size+1<s1.heap.objs.size:=e▸b2;omega),⟨m1,m2,⟨_,_,m3⟩,m4,m5⟩,fun c hc=>?_,q⟩
   have hle:s1.heap.objs.size<=c:=by
    simp only [ap0,aqN,or_false] at hc
    rcases hc with rfl | rfl | rfl | rfl | rfl <;> omega
   exact I1.fpOk hle (I1.hok.fresh hle)
theorem aka {K:apT} {a b:Expr} {ta:TA} {p pos:Pos} (hK:X.K=K) (hg:Gl X "zip") (hm:X.mg "zip"=none) (ha:PA X [a,b] ta) (hs:starEach [a,b] X.env=(false,eval a X.env) :: starEach [b] X.env:=by rfl) (hl:(backTo pos (starEach [b] X.env)).any (·.1)=false:=by rfl):PI X (.Tuple es k tpos) (.Call (.Name "zip" p) [a,b] [] pos) (aj9 K ta):=hK▸alR hg hm ha hs hl
end
section
variable {K:apT} {f:Fx} {ρ:zw} {t:TA} {R:List PyData->Prop}
theorem aoq (h:PAd K f t ρ fun xs=>∃ ds es,xs=[.dat (.tuple ds),.dat (.tuple es)]/\R (aj7 ds es)):PId K f (aj9 K t) ρ R:=fun σ H C e q=>h σ H _ e fun xs vs H1 g1 r1 ⟨ds,es,ex,p⟩=>by
 subst ex
 cases r1 with
 | cons rx r' =>
  cases r' with
  | cons ry r'' =>
   cases r''
   obtain⟨a,xs,rfl,h1,h2⟩:=rep_tuple.mp rx
   obtain⟨b,ys,rfl,k1,k2⟩:=rep_tuple.mp ry
   have l1:=h2.length
   have l2:=k2.length
   refine⟨a,b,rfl,⟨xs,(zj _ _).seqT h1⟩,⟨ys,(zj _ _).seqT k1⟩,q (aj7 ds es) _ H1 g1 ⟨fun f' H' i d fo sm hd=>?_,fun f' H' _ sm=>⟨xs,ys,(zj _ _).seqT (sm.seqT h1),(zj _ _).seqT (sm.seqT k1),?_⟩⟩ p⟩
   ·unfold aj7 at hd
    rw [as7] at hd
    cases e1:ds[i]? with
    | none=>rw [e1] at hd;cases hd
    | some d1 =>
     cases e2:es[i]? with
     | none=>rw [e1,e2] at hd;cases hd
     | some d2 =>
      rw [e1,e2] at hd
      cases hd
      obtain⟨z1,hz1,rz1⟩:=h2.get e1
      obtain⟨z2,hz2,rz2⟩:=k2.get e2
      have s1:SqT K H' a xs:=(zj _ _).seqT (sm.seqT h1)
      have s2:SqT K H' b ys:=(zj _ _).seqT (sm.seqT k1)
      refine⟨⟨xs,ys,z1,z2,s1,s2,hz1,hz2⟩,fun x H3 hy=>?_⟩
      obtain⟨tp,y1,y2,rfl,hn,rfl,hy1,hy2⟩:=hy
      have q1:=hy1 xs s1
      rw [hz1] at q1
      cases q1
      have q2:=hy2 ys s2
      rw [hz2] at q2
      cases q2
      have gn:Goes f' H' (upd H' tp (.tup [z1,z2])):=.of_same (z4 hn _) fo
      exact⟨gn,rep_tuple.mpr ⟨tp,_,rfl,.of (zz (fresh_ne fo hn) zB),.cons' (Rep.mono gn.1 _ _ (Rep.mono sm _ _ rz1)) (.cons' (Rep.mono gn.1 _ _ (Rep.mono sm _ _ rz2)) .nil')⟩⟩
   ·unfold aj7
    rw [List.length_zipWith]
    omega
end
abbrev jq (led:Bool):Obj:={ cls:=.type "set",dict:=none,data:=.set #[] 0 (.fresh 0 0 led) }
def aaa (w:World) (h0 h:Heap) (S:Addr) (ds:List PyData):Prop:=∃ xs o es ep t,SetObj w h S xs o es ep t/\(∀ x∈xs,KeyAt h0 x.1 x.2)/\(xs.map (·.1)).Nodup/\(∀ d,d∈xs.map (·.1)↔d∈ds)
def Keeps (h0 h:Heap):Prop:=∀ b o,h0.get? b=some o->h.get? b=some o
section
variable {prog:Program} {w:World} {A:Around} {R:Result->Shared->Prop} {I S:Addr} {fp wr:List Addr} {G:Array GenState->Array GenState->Prop} {n:Nat} {Pv:Nat->Value->Prop} {St:Nat->Shared->Prop} {h0:Heap} {ds:List PyData}
theorem akb (W:WalksS prog w A.in1 I fp wr G n Pv St) (hSf:S∉fp) (hI:∀ b∈wr,h0.get? b=none) (hS0:h0.get? S=none) (hn:n=ds.length) (hv:∀ i v,Pv i v->∃ d b,ds[i]?=some d/\v=.ref b/\KeyAt h0 d b) (few:∀ us:List PyData,us.Nodup->(∀ x∈us,x∈ds)->us.length<300) (hu:A.units+70<cLine) :
  ∀ (k i:Nat) (s:Shared),i+k=n->St i s->Keeps h0 s.heap->aaa w h0 s.heap S (ds.take i)->(∀ s',Moved (S :: wr) G s s'->Keeps h0 s'.heap->aaa w h0 s'.heap S ds->R (.ok (.ret .none)) s') ->
   codeAny (model prog w) A (.builtin "set.update.loop" ⟨[.ref S,.ref I],[]⟩) R s:=by
 have nw:S∉wr:=fun h=>hSf (W.sub _ h)
 have up:∀ b∈wr,b∈S :: wr:=fun b hb=>apW _ hb
 have kp:∀ {s s':Shared},Moved wr G s s'->Keeps h0 s.heap->Keeps h0 s'.heap:=fun {s s'} m K b o e=>m.heap b o (fun z=>by rw [hI b z] at e;cases e) (K b o e)
 have mv:∀ {s s':Shared} {ds:List PyData},Moved wr G s s'->aaa w h0 s.heap S ds->aaa w h0 s'.heap S ds:=fun {s s' ds} m ⟨xs,o,es,ep,t,q,r⟩=>⟨xs,o,es,ep,t,⟨m.heap S _ nw q.ob,q.ex,q.da,q.el,q.ok⟩,r⟩
 intro k
 induction k with
 | zero =>
  intro i s hi st K U hR
  refine codeAny_builtin arO ?_
  rw [ars aqE _]
  show wpAny _ A.in1 (pyNext (.ref I) >>= _) _ _ s
  have e:i=n:=hi
  subst e
  refine wpAny_bind (W.done s _ _ st fun s' m=>wpAny_pure (hR s' (m.mono up) (kp m K) ?_))
  have:=mv m U
  rw [asm (by omega)] at this
  exact this
 | succ k ih =>
  intro i s hi st K U hR
  refine codeAny_builtin arO ?_
  rw [ars aqE _]
  show wpAny _ A.in1 (pyNext (.ref I) >>= _) _ _ s
  refine wpAny_bind (W.item i s _ _ (by omega) st fun v s' hP st' m=>?_)
  obtain⟨d,b,hd,rfl,kb⟩:=hv i v hP
  have K':=kp m K
  obtain⟨xs,o,es,ep,t,q,ks,nd,mm⟩:=mv m U
  have kx:∀ {d b},KeyAt h0 d b->KeyAt s'.heap d b:=fun z=>z.keep fun b o e _ _=>K' b o e
  have lx:xs.length<300:=by
   have:=few _ nd fun x hx=>atg ((mm x).mp hx)
   rwa [apP] at this
  have tk:ds.take (i+1)=ds.take i++[d]:=by rw [aqZ,hd];rfl
  show wpAny _ A.in1 (holding [Value.ref b] (setAdd S (.ref b)) >>= _) _ _ s'
  have hu1:A.in1.units=A.units+1:=rfl
  refine wpAny_bind (wpAny_holding (ag0 (Q:=fun s2=>wpAny (model prog w) A.in1 (again (.builtin "set.update.loop" ⟨[.ref S,.ref I],[]⟩)) _ _ s2) q (fun x hx=>kx (ks x hx)) (kx kb) (by omega) lx (fun hm=>?_) fun hm xs' o' es' ep' t' h' pm sb q'=>?_))
  ·refine wpAny_pure ⟨plainId_quiet aqE _,ih (i+1) _ (by omega) (W.frame _ s' _ _ st' (arG _ _) fun _ _ _ e=>e) K' ⟨xs,o,es,ep,t,q,ks,nd,fun e=>?_⟩ fun s2 m2 K2 U2=>?_⟩
   ·rw [tk,aqh,mm e]
    refine⟨.inl,fun z=>z.elim id fun z=>?_⟩
    rw [aqj.mp z]
    exact (mm d).mp hm
   ·exact hR s2 (auC W.gtrans ((m.mono up).then_heap (arG _ _) fun _ _ _ e=>e) m2) K2 U2
  ·refine wpAny_pure ⟨plainId_quiet aqE _,ih (i+1) _ (by omega) (W.frame _ s' _ _ st' (arG _ _) fun c hc o e=>?_) (fun c o e=>?_) ⟨xs',o',es',ep',t',q',fun x hx=>?_,?_,fun e=>?_⟩ fun s2 m2 K2 U2=>?_⟩
   ·exact (sb.2 c fun z:c=S=>hSf (z▸hc)).trans e
   ·exact (sb.2 c fun z:c=S=>by rw [z,hS0] at e;cases e).trans (K' c o e)
   ·rcases ap0.mp (pm.mem_iff.mp hx) with z | z
    ·rw [z];exact kb
    ·exact ks x z
   ·rw [(pm.map (·.1)).nodup_iff,aqf]
    exact aqO.mpr ⟨hm,nd⟩
   ·rw [(pm.map (·.1)).mem_iff,aqf,ap0,tk,aqh,mm e,aqj,Or.comm]
   ·exact hR s2 (auC W.gtrans ((m.mono up).then_heap (arG _ _) fun c o hc e=>(sb.2 c fun z:c=S=>hc (z▸apX)).trans e) m2) K2 U2
end
section
variable {prog:Program} {w:World} {A:Around} {E:Value->Shared->Prop} {s:Shared}
theorem aeJ:isSubtype (.type "tuple") (.type "set")=pure false:=by rw [isSubtype_type];kernel_rfl
theorem aeK:isSubtype (.type "tuple") (.type "frozenset")=pure false:=by rw [isSubtype_type];kernel_rfl
theorem akc {t:Addr} {items:Array Value} {ds:List PyData} {led:Bool} {Q:Value->Shared->Prop} (hh:A.handled=none) (ht:s.heap.IsTuple t items) (hv:∀ (i:Nat) (v:Value),items[i]?=some v->∃ d b,ds[i]?=some d/\v=.ref b/\KeyAt s.heap d b) (hn:items.size=ds.length) (few:∀ us:List PyData,us.Nodup->(∀ x∈us,x∈ds)->us.length<300) (hu:A.units+80<cLine)
  (h:∀ h' tk,Keeps s.heap h'->aaa w s.heap h' s.heap.objs.size ds->Q .none { s with heap:=h',toks:=tk }) :
  wpAny (model prog w) A.in1 (Builtin.«set.__init__» ⟨[.ref s.heap.objs.size,.ref t],[]⟩) (fun fin s'=>∃ r,fin=.done (.ret r)/\Q r s') E { s with heap:=s.heap.push (jq led) }:=by
 have pS:(s.heap.push (jq led)).get? s.heap.objs.size=some (jq led):=ap7 _ rfl
 have hT:atY { s with heap:=s.heap.push (jq led) } (.ref s.heap.objs.size) "set":=⟨_,pS,rfl⟩
 have t1:(s.heap.push (jq led)).IsTuple t items:=ht.at fun o e=>apV _ e
 obtain⟨oc,go,kc,nl,kd⟩:=t1
 obtain⟨c1,c2,c3,c4⟩:=oc
 simp only at kc kd
 subst kc
 subst kd
 have q1:=aeJ
 have q2:=aeK
 have q3:(Value.type "tuple" == Value.type "dict")=false:=by decide
 unfold Builtin.«set.__init__» noKeywords ato
 generalize hP:pyIter=PI
 wp_walk
 subst hP
 refine wpAny_pyIter_tuple ⟨_,go,rfl,nl,rfl⟩ (wpAny_bind (wpAny_runValue ?_))
 have sz:(s.heap.push (jq led)).objs.size=s.heap.objs.size+1:=aq5 ..
 obtain⟨ot,gt,_⟩:=ht
 have lt:=ap5 gt
 have u1:A.in1.units=A.units+1:=rfl
 have u2:A.in1.in1.units=A.units+1+1:=rfl
 have none_:∀ b,s.heap.objs.size<=b->s.heap.get? b=none:=fun b hb=>by
  cases e:s.heap.get? b with
  | none=>rfl
  | some o=>exact absurd (ap5 e) (atA.mpr hb)
 have pS2:∀ o,((s.heap.push (jq led)).push o).get? s.heap.objs.size=some (jq led):=fun o=>apV _ pS
 refine akb (h0:=s.heap) (ds:=ds) ((Walks.tuple (by simp [hh]) _ t (by rw [sz];exact aqp (aqP lt)) items).toS) (S:=s.heap.objs.size) ?_ ?_ (none_ _ (apY _)) hn hv few (by first | omega | (rw [u2];omega)) items.size 0 _ (by omega) ⟨⟨_,ap7 _ rfl,rfl,rfl⟩,?_⟩ ?_ ?_ fun s' m K U=>?_
 ·rw [sz]
  simp only [ap0,aqN,or_false,not_or]
  exact⟨aqp (ash _),arJ lt⟩
 ·intro b hb
  rw [aqj.mp hb,sz]
  exact none_ _ (atf _)
 ·exact⟨_,apV _ go,rfl,nl,rfl⟩
 ·exact fun b o e=>apV _ (apV _ e)
 ·exact⟨[],_,_,_,_,⟨pS2 _,⟨rfl,rfl,rfl⟩,rfl,rfl,aax led⟩,fun x hx=>(nomatch hx),aq6,fun d=>by rw [asA];exact Iff.rfl⟩
 ·obtain⟨h',g',d',tk',os'⟩:=s'
  have e1:g'=s.gens:=m.gens
  have e2:d'=s.drawn:=m.drawn
  have e3:os'=s.os:=m.os
  subst e1
  subst e2
  subst e3
  exact wpAny_pure (wpAny_pure ⟨_,rfl,h h' tk' K U⟩)
theorem aic {t:Addr} {items:Array Value} {ds:List PyData} {Q:Value->Shared->Prop} (hh:A.handled=none) (ht:s.heap.IsTuple t items) (hv:∀ (i:Nat) (v:Value),items[i]?=some v->∃ d b,ds[i]?=some d/\v=.ref b/\KeyAt s.heap d b) (hn:items.size=ds.length) (few:∀ us:List PyData,us.Nodup->(∀ x∈us,x∈ds)->us.length<300) (hu:A.units+90<cLine)
  (h:∀ h' tk,Keeps s.heap h'->aaa w s.heap h' s.heap.objs.size ds->Q (.ref s.heap.objs.size) { s with heap:=h',toks:=tk }) :
  wpAny (model prog w) A (call (.type "set") [.ref t]) Q E s:=by
 obtain⟨c,tl,m1⟩:=aq3.mro
 have m2:=aq3.made
 have m3:=aq3.sub
 have m4:=aq3.notType
 have m5:=aq3.canCreate
 have m6:=F.typeCall_set_1 (.ref t)
 refine wpAny_call (codeAny_of_tree (wpAny_pure ⟨Code.quiet_builtin _ (by decide +kernel),codeAny_builtin F.entry_type_call ?_⟩))
 rw [Around.under_plain (weight_type_call_type "set" [.ref t] []) rfl]
 repeat (any_goals (first | assumption | wp_step))
 refine codeAny_mono (code_set_new_1 (.ref t) (E:=E) (Q₁:=fun v s1=>∃ led:Bool,v=.ref s.heap.objs.size/\s1={ s with heap:=s.heap.push (jq led) }) fun led=>⟨led,rfl,rfl⟩) fun r s1 hr=>?_
 match r,hr with
 | .error e,hr=>exact hr
 | .ok (.ret v),⟨led,e1,e2⟩ =>
  subst e1
  subst e2
  have pS:(s.heap.push (jq led)).get? s.heap.objs.size=some (jq led):=ap7 _ rfl
  have hT:atY { s with heap:=s.heap.push (jq led) } (.ref s.heap.objs.size) "set":=⟨_,pS,rfl⟩
  have m7:=aq3.init.lookup
  have m8:=aq3.init.bind (.ref s.heap.objs.size)
  repeat (any_goals (first | assumption | wp_step))
  have hi:=fun (R:Value->Shared->Prop) (hR:∀ h' tk,Keeps s.heap h'->aaa w s.heap h' s.heap.objs.size ds->R .none { s with heap:=h',toks:=tk })=>akc (prog:=prog) (w:=w) (A:=A.in1) (E:=E) (led:=led) (Q:=R) (by simp [hh]) ht hv hn few (show A.units+1+80<cLine by omega) hR
  refine codeAny_mono (codeAny_call_builtin (R:=wants (fun r s2=>r=.none/\∃ h' tk,s2={ s with heap:=h',toks:=tk }/\Keeps s.heap h'/\aaa w s.heap h' s.heap.objs.size ds) E) aq3.init.plain F.entry_set_init (check_set_init_1 hT ?_)) fun r2 s2 hr2=>?_
  ·refine wpAny_mono (hi (fun r s2=>r=.none/\∃ h' tk,s2={ s with heap:=h',toks:=tk }/\Keeps s.heap h'/\aaa w s.heap h' s.heap.objs.size ds) fun h' tk k u=>⟨rfl,h',tk,rfl,k,u⟩) (fun fin s' z=>?_) fun e s' z=>z
   obtain⟨r,rfl,z⟩:=z
   exact z
  ·match r2,hr2 with
   | .error e,z=>exact z
   | .ok (.ret v),⟨e1,h',tk,e2,k,u⟩ =>
    subst e1
    subst e2
    repeat (any_goals (first | assumption | wp_step))
    exact h _ _ k u
def afS (w:World) (K:apT):List V->Hp->VK->Prop:=fun xs H Q=>∃ p ys ds,xs=[.ref p]/\SqT K H p ys/\Reps K H ds ys/\(∀ d∈ds,abG d)/\(∀ us:List PyData,us.Nodup->(∀ x∈us,x∈ds)->us.length<300)/\∀ a zs,H a=none->(zs.map (·.1)).Nodup->(∀ d,d∈zs.map (·.1)↔d∈ds)->Q (.ref a) (upd H a (SetO w a zs))
end
section
variable {prog:Program} {w:World} {A:Around} {E:Value->Shared->Prop} {s:Shared}
theorem alS {d:Addr} {o:Obj} {es:Array DictEntry} {ep:Nat} {Q:Value->Shared->Prop} (nd:(d == sysModules)=false) (ho:s.heap.get? d=some o) (hx:o.ExactDict) (hd:o.data=.dict es ep) (hz:es.size<2 ^ 60)
  (h:Q (.int es.size (s.toks+1)) { s with toks:=s.toks+1+1 }):wpAny (model prog w) A (call (.builtin "len") [.ref d]) Q E s:=by
 have hT:s.TypeIs (.ref d) "dict":=⟨o,ho,hx.1⟩
 refine call_len_slot (n:=es.size) hT auj (fun Q' q'=>?_) (by omega) (by omega) h
 refine wpAny_call_entry auj hT PySem.F.entry_dict_len ?_ (PySem.F.args_dict_len_1 _)
 unfold Builtin.«dict.__len__»
 obtain⟨c1,c2,c3,c4⟩:=o
 simp only at hd
 subst hd
 wp_walk
 exact⟨_,rfl,by simpa using q'⟩
end
theorem Room.units100 {k:Nat} {A:Around} (r:Room k A):A.units+100<cLine:=by have:=r.un;omega
theorem afT {X:Cx} (hc:X.calm=true) (hu:X.A.units+100<cLine):z6 X (.type "set") (afS X.w X.K):=by
 intro pins s σ H xs us Q I r h
 obtain⟨p,ys,ds,rfl,hT,rs,kt,hl,q⟩:=h
 obtain⟨u,rfl,rx⟩:=vals1 r
 cases rx
 obtain⟨its,rv,pl,hz⟩:=I.tuple hT
 have l1:=rv.length
 have l2:=rs.length
 have sz:its.toArray.size=ds.length:=by rw [ap9];omega
 refine aic (ds:=ds) (I.ok.hd hc) pl (fun i v hv=>?_) sz hl (by omega) fun h' tk k u=>?_
 ·have hi:i<ds.length:=by
   rw [<-sz]
   exact (asy.mp hv).1
  have e1:=ady rs i
  have e2:=adx rv i
  have hv':its[i]?=some v:=by simpa using hv
  rw [apR,apO hi,arH] at e1
  rw [apR (l:=its),hv',arH] at e2
  have km:=kt _ (aqo hi)
  obtain⟨b,eb⟩:=qD km e1
  rw [eb] at e1 e2
  refine⟨ds[i],b,apO hi,by cases e2;rfl,qi I km.1 e1⟩
 ·obtain⟨zs,o,es,ep,t,S,_,nd,mm⟩:=u
  exact⟨.ref s.heap.objs.size,_,I.laid (t':=tk) k (apY _) (SetO.ok S),rfl,q _ zs (I.hok.fresh (apY _)) nd mm⟩
theorem aeL {X:Cx} {K:apT} {w:World} (hc:X.calm=true) (hw:X.w=w) (hK:X.K=K) (hu:X.A.units+100<cLine):z6 X (.type "set") (afS w K):=hw▸hK▸afT hc hu
def akd (w:World):List V->Hp->VK->Prop:=fun xs H Q=>∃ p zs,xs=[.ref p]/\H p=some (SetO w p zs)/\zs.length<=1000/\Q (.int zs.length) H
theorem aid {X:Cx}:z6 X (.builtin "len") (akd X.w):=by
 intro pins s σ H xs us Q I r h
 obtain⟨p,zs,rfl,hS,hl,q⟩:=h
 obtain⟨u,rfl,rx⟩:=vals1 r
 cases rx
 obtain⟨⟨o,es,ep,t,S⟩,_⟩:=I.hok p _ hS
 exact call_len_set S.ob S.ex S.da S.fits (by rw [S.size];omega) ⟨.int zs.length,H,I.tok _,⟨_,by rw [S.size]⟩,q⟩
theorem afU {X:Cx} {w:World} (hw:X.w=w):z6 X (.builtin "len") (akd w):=hw▸aid
def adP (w:World):List V->Hp->VK->Prop:=fun xs H Q=>∃ p zs,xs=[.ref p]/\H p=some (DicO w p zs)/\zs.length<=1000/\Q (.int zs.length) H
theorem aeM {X:Cx}:z6 X (.builtin "len") (adP X.w):=by
 intro pins s σ H xs us Q I r h
 obtain⟨p,zs,rfl,hS,hl,q⟩:=h
 obtain⟨u,rfl,rx⟩:=vals1 r
 cases rx
 obtain⟨⟨o,es,ep,S⟩,_⟩:=I.hok p _ hS
 have sz:es.size=zs.length:=by rw [<-ap4,S.el,apP]
 exact alS S.ns S.ob S.ex S.da (by omega) ⟨.int zs.length,H,I.tok _,⟨_,by rw [sz]⟩,q⟩
theorem adQ {X:Cx} {w:World} (hw:X.w=w):z6 X (.builtin "len") (adP w):=hw▸aeM
theorem Reps.erase {K:apT} {H:Hp}:∀ {ds:List PyData} {xs:List V},Reps K H ds xs->∀ n:Nat,Reps K H (ds.eraseIdx n) (xs.eraseIdx n)
 | [],xs,t,n=>by rw [reps_nil.mp t];exact .nil'
 | e :: ds,xs,t,n=>by
  obtain⟨y,r,rfl,h2,h3⟩:=reps_cons.mp t
  cases n with
  | zero=>exact h3
  | succ n=>exact .cons' h2 (Reps.erase h3 n)
section
variable {w:World} {K:apT} {f:Fx} {Ds:List Addr} {ρ:zw} {cs:List OC} {te:TE} {O:MEnds} {i j n:Nat} {kvs:List (PyData×PyData)}
theorem ake {P:PyData->Prop} (h:PEd K f te ρ fun d=>∃ ds,d=.tuple ds/\(∀ x∈ds,abG x)/\(∀ us:List PyData,us.Nodup->(∀ x∈us,x∈ds)->us.length<300)/\∀ us:List PyData,us.Nodup->(∀ x,x∈us↔x∈ds)->P (.int us.length)) :
  PEd K f (tCB (akd w) (zV (tCB (afS w K) (zV te yQ)) yQ)) ρ P:=fun σ H Q e q =>
 h σ H _ e fun d v H1 g1 r1 ⟨ds,ed,kt,hl,p⟩=>by
  subst ed
  obtain⟨a,ys,rfl,hT,rs⟩:=rep_tuple.mp (Rep.mono (zj H1 f) _ _ r1)
  refine⟨a,ys,ds,rfl,hT,rs,kt,hl,fun b zs hn nd mm=>?_⟩
  have lz:zs.length<300:=by
   have:=hl _ nd fun x hx=>(mm x).mp hx
   rwa [apP] at this
  refine⟨b,zs,rfl,zB,by omega,?_⟩
  have:=p (zs.map (·.1)) nd mm
  rw [apP] at this
  exact q (.int zs.length) _ _ (g1.trans (.of_same (z4 hn _) g1.2)) (rep_int.mpr rfl) this
def jr (w:World) (K:apT) (n:Nat) (cs:List OC):Option DV->Option DV
 | some (.own k)=>if k<n then some (.own k) else match cs[k - n]? with
  | some (.lst es)=>some (.dat (.list es))
  | some (.dic kvs)=>some (.mon (aaV w K kvs))
  | _=>none
 | x=>x
theorem CM.freeD {σ:St} {H H2:Hp} (se:Sep f Ds) (x:CM w K f Ds H2 ρ cs σ H):EnvOk K f (ρ.map (jr w K f.M.length cs)) σ H:=by
 have e0:=x.free se
 refine⟨by rw [apP];exact x.env.len,fun q z hz=>?_,e0.fd⟩
 rw [apU] at hz
 cases e:ρ[q]? with
 | none=>rw [e] at hz;cases hz
 | some z0 =>
  rw [e] at hz
  have old:∀ z',freed f.M.length cs z0=some z'->∃ v,σ[q]?=some (some v)/\RepV K f H z' v:=fun z' h=>e0.get q z' (by rw [apU,e];exact congrArg some h)
  cases z0 with
  | none=>cases hz
  | some z0 =>
   cases z0 with
   | dat d=>cases hz;exact old _ rfl
   | feed=>cases hz;exact old _ rfl
   | exc C=>cases hz;exact old _ rfl
   | mon φ=>cases hz;exact old _ rfl
   | own k =>
    have hz':(if k<f.M.length then some (DV.own k) else match cs[k - f.M.length]? with | some (.lst es)=>some (.dat (.list es)) | some (.dic kvs)=>some (.mon (aaV w K kvs)) | _=>none)=some z:=Option.some.inj hz
    have hold:freed f.M.length cs (some (.own k))=(if k<f.M.length then some (DV.own k) else match cs[k - f.M.length]? with | some (.lst es)=>some (.dat (.list es)) | _=>none):=rfl
    by_cases hk:k<f.M.length
    ·rw [if_pos hk] at hz' hold
     cases hz'
     exact old _ hold
    ·rw [if_neg hk] at hz' hold
     cases ec:cs[k - f.M.length]? with
     | none=>rw [ec] at hz';cases hz'
     | some c =>
      rw [ec] at hz' hold
      cases c with
      | lst es=>cases hz';exact old _ hold
      | set ks=>cases hz'
      | dic kvs =>
       cases hz'
       obtain⟨v,a1,b,h3,h4⟩:=x.env.get q _ e
       subst h4
       have h3':(Ds.reverse++f.M).reverse[k]?=some b:=h3
       rw [arN,asz,ap2 (by simpa using atA.mp hk),atp] at h3'
       obtain⟨xs,h5,h6⟩:=x.own _ _ _ h3' ec
       have hb:=apZ h3'
       exact⟨_,a1,fun H' s=>⟨b,xs,rfl,s b _ (zz (fun z=>z.elim (se.nf b hb) (se.nm b hb)) h5),EntR.mono (same_withs.trans s) h6⟩⟩
theorem akf {tt:TT} {B:Bool->Prop} (h:PTd K f tt (ρ.map (jr w K f.M.length cs)) B):PTm w K f Ds tt ρ cs B:=fun se σ H H2 Q x q =>
 h σ H Q (x.freeD se) fun b H' g p=>q b H' (aay se x g) p
theorem am6 {ta:TE} {P:PyData->Prop} (h:PEd K f ta ρ fun k=>abG k/\∃ kvs,ρ[i]?=some (some (.mon (aaV w K kvs)))/\P (.bool (decide (k∈kvs.map (·.1))))):PEd K f (tOp (afN w K false) ta (yr i)) ρ P:=fun σ H Q e q =>
 h σ H _ e fun k kv H1 g1 r1 ⟨kt,kvs,hi,p⟩=>by
  obtain⟨b,rfl⟩:=qD kt r1
  have e1:=e.mono g1
  obtain⟨v,a1,a2⟩:=e1.get i _ hi
  obtain⟨a,xs,rfl,h3,h4⟩:=a2 (hide H1 f) (Same.refl _)
  refine⟨_,a1,a,b,k,xs,rfl,rfl,(zH h3).2,fun z hz=>⟨(y7 h4 z hz).1,Rep.mono (zj _ _) _ _ (y7 h4 z hz).2⟩,kt.1,Rep.mono (zj _ _) _ _ r1,?_⟩
  have:(atKey xs k).isSome=decide (k∈kvs.map (·.1)):=by
   rcases aa7 k h4 with⟨a1,_,a3⟩ | ⟨p',d',v',a1,_,_,_,a5⟩
   ·rw [a1,decide_eq_false a3];rfl
   ·rw [a1,decide_eq_true a5];rfl
  simp only [aqB,if_false]
  rw [this]
  exact q _ _ H1 g1 (rep_bool.mpr rfl) p
theorem akg {a b:Nat} {es fs:List PyData} {tk:TE} (hi:ρ[i]?=some (some (.own (f.M.length+a)))) (hn:ρ[n]?=some (some (.own (f.M.length+b)))) (ha:cs[a]?=some (.lst es)) (hb:cs[b]?=some (.lst fs)) (ab:a≠b) (hl:es.length<1000) (hlf:fs.length<1000)
  (h:PEm w K f Ds tk ρ cs fun y=>∃ k:Nat,y=.int k/\∃ d,fs[k]?=some d/\O.nx ρ ((cs.set b (.lst (fs.eraseIdx k))).set a (.lst (es++[d])))) :
  PSm w K f Ds (abc (tBM K "list" aaZ (yr i) (zV (tBM K "list" ai2 (yr n) (zV tk yQ)) yQ))) ρ cs O:=fun se σ H H2 E x nn r bk k=>by
 have ja:a<Ds.length:=by rw [<-x.len];exact (apS.mp ha).1
 have jb:b<Ds.length:=by rw [<-x.len];exact (apS.mp hb).1
 have hA:Ds[a]?=some Ds[a]:=apO ja
 have hB:Ds[b]?=some Ds[b]:=apO jb
 obtain⟨va,h0,_⟩:=x.own a _ _ hA ha
 obtain⟨vb,h0b,_⟩:=x.own b _ _ hB hb
 refine⟨_,jT hi x hA,Or.inl ⟨rfl,va,.of h0⟩,_,jT hn x hB,Or.inl ⟨rfl,vb,.of h0b⟩,?_⟩
 refine h se σ H H2 _ x fun y u H1 g1 r1 ⟨c,ey,d,hd,p1⟩=>?_
 subst ey
 rw [rep_int.mp r1]
 have x1:=x.go g1 (x.env.mono g1)
 obtain⟨vs,h1,h2⟩:=x1.own b _ _ hB hb
 have hc:=(apS.mp hd).1
 obtain⟨v,hv,rv⟩:=h2.get hd
 have l2:=h2.length
 have x2:=x1.put se hB (o:=.lst (vs.eraseIdx c)) (c':=.lst (fs.eraseIdx c)) ⟨vs.eraseIdx c,zB,Reps.erase h2 c⟩
 have hD1:hide (upd H1 Ds[b] (.lst (vs.eraseIdx c))) (f.withs Ds)=hide H1 (f.withs Ds):=yf (apZ hB)
 refine⟨Ds[b],vs,(c:Int),c,v,rfl,rfl,h1,by omega,by omega,?_,hv,?_⟩
 ·unfold seqIndex?
  simp
  omega
 ·have ha2:(cs.set b (.lst (fs.eraseIdx c)))[a]?=some (.lst es):=by rw [aqH (arw ab)];exact ha
  obtain⟨ws,h3,h4⟩:=x2.own a _ _ hA ha2
  refine⟨_,ws,v,rfl,rfl,h3,yc (by rw [h4.length];omega),?_⟩
  exact nn _ _ _ _ (x2.put se hA (o:=.lst (ws++[v])) (c':=.lst (es++[d])) ⟨ws++[v],zB,h4.snoc (by rw [hD1];exact rv)⟩) p1
end
section
variable {K:apT} {f:Fx} {ρ:zw} {R:List DV->Prop} {i j m n:Nat} {d0 d1 d2 d3:PyData}
theorem vf (h0:ρ[i]?=some (some (.dat d0))) (h:R [.dat d0]):PAd K f (zV (yr i) yQ) ρ R:=zJ (zv h0 (yI h))
theorem akh (h0:ρ[i]?=some (some (.dat d0))) (h1:ρ[j]?=some (some (.dat d1))) (h:R [.dat d0,.dat d1]):PAd K f (zV (yr i) (zV (yr j) yQ)) ρ R:=zJ (zv h0 (vf h1 h))
theorem afV (h0:ρ[i]?=some (some (.dat d0))) (h1:ρ[j]?=some (some (.dat d1))) (h2:ρ[m]?=some (some (.dat d2))) (h:R [.dat d0,.dat d1,.dat d2]):PAd K f (zV (yr i) (zV (yr j) (zV (yr m) yQ))) ρ R:=zJ (zv h0 (akh h1 h2 h))
end
section
variable {w:World} {K:apT} {f:Fx} {Ds:List Addr} {ts:TS} {ρ:zw} {cs:List OC} {O:MEnds} {i:Nat}
theorem alT (h:PSd K f ts (ρ.map (jr w K f.M.length cs)) { nx:=fun _=>False,rt:=O.rt }):PSm w K f Ds ts ρ cs O:=fun se σ H H2 E x n r b k =>
 h σ H E (x.freeD se) (fun _ _ _ _ _ z=>z.elim) (fun d v H' g' r' p=>r d v ρ cs σ H' (x.goF se g') r' p) (fun _ _ _ _ _ z=>z.elim) (fun _ _ _ _ _ z=>z.elim)
theorem aor {P:PyData->Prop} {kvs:List (PyData×PyData)} (hi:ρ[i]?=some (some (.mon (aaV w K kvs)))) (hl:kvs.length<=1000) (p:P (.int kvs.length)):PEd K f (tCB (adP w) (zV (yr i) yQ)) ρ P:=fun σ H Q e q=>by
 obtain⟨v,a1,a2⟩:=e.get i _ hi
 obtain⟨a,xs,rfl,h3,h4⟩:=a2 (hide H f) (Same.refl _)
 have el:=aa6 h4
 exact⟨_,a1,a,xs,rfl,(zH h3).2,by omega,q (.int kvs.length) _ H (.refl e.fd) (by rw [el];exact rep_int.mpr rfl) p⟩
theorem aeN {α:Type} {F:α->PyData} {rs:List α} {n:Nat} {d:PyData} (h:(aaL (rs.map F))[n]?=some d):∃ r,rs[n]?=some r/\d=.tuple [.int n,F r]:=by
 unfold aaL at h
 rw [auv,apU] at h
 cases e:rs[n]? with
 | none=>rw [e] at h;cases h
 | some r =>
  rw [e] at h
  cases h
  exact⟨r,rfl,rfl⟩
theorem aie (ds:List PyData):(aaL ds).length=ds.length:=by
 unfold aaL
 simp
end
def alU (w:World) (K:apT) (f:Fx) (Ds:List Addr) (ts:TS) (ρ:zw) (cs:List OC) (j:Nat) (R:List PyData->Prop):Prop:=Sep f Ds->∀ (σ:St) (H H2:Hp) (E:Ends),CM w K f Ds H2 ρ cs σ H ->
 (∀ D es ρ' cs' σ' H',CM w K f Ds H2 ρ' cs' σ' H'->Ds[j]?=some D->cs'[j]?=some (.lst es)->R es->E.rt (.ref D) H')->ts E σ H
def alV (w:World) (K:apT) (f:Fx) (Ds:List Addr) (ts:TS) (ρ:zw) (cs:List OC) (R:List PyData->Prop):Prop:=Sep f Ds->∀ (σ:St) (H H2:Hp) (E:Ends),CM w K f Ds H2 ρ cs σ H ->
 (∀ es D vs ρ' cs' σ' H',CM w K f Ds H2 ρ' cs' σ' H'->H2 D=none->H' D=some (.lst vs)->Reps K (hide H' (f.with D)) es vs->R es->E.rt (.ref D) H')->ts E σ H
section
variable {w:World} {K:apT} {f:Fx} {Ds:List Addr} {ρ:zw} {cs:List OC} {ts tu:TS} {tt:TT} {te:TE} {R:List PyData->Prop} {i j:Nat}
theorem aos (h:PSm w K f Ds ts ρ cs { nx:=fun ρ' cs'=>alU w K f Ds tu ρ' cs' j R,rt:=fun _=>False }):alU w K f Ds (qf ts tu) ρ cs j R:=fun se σ H H2 E x q =>
 h se σ H H2 _ x (fun ρ' cs' σ' H' x' p=>p se σ' H' H2 E x' q) (fun _ _ _ _ _ _ _ _ z=>z.elim) (fun _ _ _ _ _ z=>z.elim) (fun _ _ _ _ _ z=>z.elim)
theorem aot {es:List PyData} (hi:ρ[i]?=some (some (.own (f.M.length+j)))) (hc:cs[j]?=some (.lst es)) (h:R es):alU w K f Ds (aec (yr i)) ρ cs j R:=fun se σ H H2 E x q=>by
 have hj:j<Ds.length:=by rw [<-x.len];exact (apS.mp hc).1
 have hD:Ds[j]?=some Ds[j]:=apO hj
 exact⟨_,jT hi x hD,q _ es ρ cs σ H x hD hc h⟩
theorem alW (h:alV w K f [] ts ρ [] R):PSn K f ts ρ R:=fun σ H E e q =>
 h ⟨aq6,(fun _ z=>nomatch z),(fun _ z=>nomatch z)⟩ σ H H E ⟨e,Same.refl _,fun _ _=>rfl,rfl,(fun i D c z=>nomatch z)⟩ fun es D vs ρ' cs' σ' H' x hn h1 rs p =>
  q es D vs H' ⟨x.sm,x.env.fd,x.kp⟩ hn h1 rs p
theorem CM.was {σ:St} {H H2:Hp} {D:Addr} (x:CM w K f Ds H2 ρ cs σ H) (hn:H D=none):H2 D=none:=by
 cases e:H2 D with
 | none=>rfl
 | some o =>
  by_cases hh:(f.withs Ds).f=some D \/ D∈(f.withs Ds).M
  ·have:∃ o,H D=some o:=hh.elim (fun z=>let⟨a,b,h3,_⟩:=x.env.fd.fd D z;⟨_,h3⟩) fun z=>x.env.fd.mm D z
   obtain⟨o',h⟩:=this
   rw [hn] at h
   cases h
  ·have:=(zH (x.sm D o (zz hh e))).2
   rw [hn] at this
   cases this
theorem aki {H H1:Hp} {D:Addr} (fo:FOk f H) (g:Goes f H H1) (hn:H1 D=none):H D=none:=by
 cases e:H D with
 | none=>rfl
 | some o =>
  by_cases hh:f.f=some D \/ D∈f.M
  ·have:∃ o,H1 D=some o:=hh.elim (fun z=>let⟨a,b,h3,_⟩:=g.ok.fd D z;⟨_,h3⟩) fun z=>g.ok.mm D z
   obtain⟨o',h⟩:=this
   rw [hn] at h
   cases h
  ·have:=(zH (g.sm D o (zz hh e))).2
   rw [hn] at this
   cases this
theorem aou (h:adI w K (f.withs Ds) te ρ fun c=>i<ρ.length/\∀ D,alV w K f (Ds++[D]) ts (ρ.set i (some (.own (f.M.length+Ds.length)))) (cs++[c]) R) :
  alV w K f Ds (qf (jE te (yJ i)) ts) ρ cs R:=fun se σ H H2 E x q =>
 h σ H _ x.env fun c D H1 g1 hn ho ⟨hi,p⟩ =>
  p D (se.more x.env.fd hn) _ H1 H1 E (x.more g1 hn ho hi) fun es D' vs ρ' cs' σ' H' y hn' h1 rs pr=>q es D' vs _ _ σ' H' (x.less g1 hn y) (x.was (aki x.env.fd g1 hn')) h1 rs pr
theorem alX (h:adI w K (f.withs Ds) te ρ fun c=>i<ρ.length/\∀ D,alU w K f (Ds++[D]) ts (ρ.set i (some (.own (f.M.length+Ds.length)))) (cs++[c]) Ds.length R) :
  alV w K f Ds (qf (jE te (yJ i)) ts) ρ cs R:=fun se σ H H2 E x q =>
 h σ H _ x.env fun c D H1 g1 hn ho ⟨hi,p⟩ =>
  p D (se.more x.env.fd hn) _ H1 H1 E (x.more g1 hn ho hi) fun D' es ρ' cs' σ' H' y h1 h2 pr=>by
   have h1':=h1
   rw [ap2 (apY _),arz] at h1'
   cases h1'
   obtain⟨vs,h3,h4⟩:=y.own _ _ _ h1 h2
   refine q es D vs _ _ σ' H' (x.less g1 hn y) (x.was hn) h3 (Reps.mono (fun b o hb=>?_) es vs h4) pr
   obtain⟨n1,n2⟩:=zH hb
   refine zz (fun z=>n1 ?_) n2
   rw [yx]
   rcases z with z | z
   ·exact .inl z
   ·rcases ap0.mp z with z | z
    ·exact .inr (ap0.mpr (.inl z))
    ·exact .inr (apW _ (aqe _ z))
theorem akj (h:PEd K f te ρ fun x=>∃ ds,(x=.list ds \/ x=.tuple ds)/\R ds):PEdO K f (tCB (ag8 K) (zV te yQ)) ρ R:=fun σ H Q e q =>
 h σ H _ e fun x v H1 g1 r1 ⟨ds,hx,p⟩=>by
  have key:∃ a xs,v=.ref a/\(SqL K H1 a xs \/ SqT K H1 a xs)/\Reps K (hide H1 f) ds xs:=by
   rcases hx with rfl | rfl
   ·obtain⟨a,xs,rfl,h1,h2⟩:=rep_list.mp r1
    exact⟨a,xs,rfl,.inl ((zj _ _).seq h1),h2⟩
   ·obtain⟨a,xs,rfl,h1,h2⟩:=rep_tuple.mp r1
    exact⟨a,xs,rfl,.inr ((zj _ _).seqT h1),h2⟩
  obtain⟨a,xs,rfl,h1,h2⟩:=key
  refine⟨a,xs,rfl,h1,fun l hn=>?_⟩
  have g2:Goes f H1 (upd H1 l (.lst xs)):=.of_same (z4 hn _) g1.ok
  refine q ds l xs _ (g1.trans g2) (g1.free e.fd hn) zB (Reps.mono (fun b o hb=>?_) ds xs h2) p
  obtain⟨n1,n2⟩:=zH hb
  have nl:b≠l:=fun z=>by rw [z,hn] at n2;cases n2
  refine zz (fun z=>?_) (by rw [zA nl];exact n2)
  rcases z with z | z
  ·exact n1 (.inl z)
  ·rcases ap0.mp z with z | z
   ·exact nl z
   ·exact n1 (.inr z)
theorem alY {γ:Type} {n:Nat} {pre:γ->List DV->Prop} {post:γ->List PyData->Prop} {E:XK} {t:TA} (h:PAd K f t ρ fun xs=>∃ c,xs.length=n/\pre c xs/\∀ es,post c es->R es):PEdO K f (vW (spN K n pre post) [] E t) ρ R:=fun σ H Q e q =>
 h σ H _ e fun xs vs H1 g1 r1 ⟨c,hl,hp,k⟩=>⟨f,xs,c,by rw [aqG];exact r1,hl,g1.2,hp,fun es D us H2 g2 hn h1 rs p=>q es D us H2 (g1.trans g2) (g1.free e.fd hn) h1 rs (k es p)⟩
theorem alZ {P:PyData->Prop} (h:PEd K f te ρ fun d=>(d=.none/\P (.bool false)) \/ ∃ i,d=.int i/\P (.bool true)):PEd K f (tOp (fun x y H Q=>y=.non/\Q (.bl (!decide (x=.non))) H) te (tC .non)) ρ P:=fun σ H Q e q =>
 h σ H _ e fun d v H1 g1 r1 hd=>by
  refine⟨rfl,?_⟩
  rcases hd with⟨ed,p⟩ | ⟨i,ed,p⟩
  ·subst ed
   rw [rep_none.mp r1]
   exact q _ _ H1 g1 (rep_bool.mpr rfl) p
  ·subst ed
   rw [rep_int.mp r1]
   exact q _ _ H1 g1 (rep_bool.mpr rfl) p
end
theorem perm_map_inv {α β:Type} {F:α->β} {l:List β} {m:List α} (h:l.Perm (m.map F)):∃ m':List α,m'.Perm m/\l=m'.map F:=by
 generalize e:m.map F=k at h
 induction h generalizing m with
 | nil=>exact⟨m,.refl _,e.symm⟩
 | cons x _ ih =>
  cases m with
  | nil=>cases e
  | cons a m =>
   injection e with e1 e2
   obtain⟨m',p,r⟩:=ih e2
   exact⟨a :: m',p.cons a,by rw [aqf,e1,r]⟩
 | swap x y l =>
  cases m with
  | nil=>cases e
  | cons a m =>
   cases m with
   | nil=>injection e with _ e;cases e
   | cons b m =>
    injection e with e1 e2
    injection e2 with e2 e3
    exact⟨b :: a :: m,.swap a b m,by rw [aqf,aqf,e1,e2,e3]⟩
 | trans _ _ ih1 ih2 =>
  obtain⟨m',p,r⟩:=ih2 e
  obtain⟨m'',p',r'⟩:=ih1 r.symm
  exact⟨m'',p'.trans p,r'⟩
abbrev FD (K:apT) (x:Str) (st:Stmt) (f:Addr) (od an:Option Addr) (sl:Array (Option Value)) (oc kV dc pm cd ct:Value):Prop:=aqC K mainGlobals x=some (some (.ref f))/\K.lookup f=some ⟨oc,od,.func (arp x x (y6 st) (yy st) (zr st) .none kV dc pm an cd ct),sl⟩/\atx K cd x=true/\arf K (.ref f)=true
theorem al0 {K:apT} {h:Heap} {mg:Str->Option Value} {x:Str} {st:Stmt} {f:Addr} {od an:Option Addr} {sl:Array (Option Value)} {oc kV dc pm cd ct:Value} (X:K.In h) (G:h.Ns mainGlobals mg) (a:FD K x st f od an sl oc kV dc pm cd ct) {ps:List Str}
  (hb:∀ (kV doc pm:Value) (an:Option Addr) (cdv ct:Value) (us:List Value),us.length=ps.length->bindArgs (arp x x (y6 st) (yy st) (zr st) .none kV doc pm an cdv ct) ⟨us,[]⟩=pure (ps.zip us)):Def K mg x st ps :=
 ⟨f,_,afw a.2.1 a.2.2.1 a.2.2.2,(afw (st:=st) a.2.1 a.2.2.1 a.2.2.2).binds hb,arU X G a.1⟩
end L2
end
section
namespace L2
open PySem PySem.Spec PyProof.Rows
section
variable {K:apT} {f:Fx} {ρ:zw} {R:zw->Prop} {P:PyData->Prop} {i j m:Nat}
theorem apm {a b:PyData} (h:R ((ρ.set i (some (.dat a))).set j (some (.dat b)))):PGd K f (ale K 2 (agr (yJ i) (agr (yJ j) anp))) (.tuple [a,b]) ρ R:=jl rfl (zG (zu (zG (zu (yG h)))))
end
end L2
end
section
open PySem PySem.Spec PyProof.Rows
namespace L2
end L2
end
section
namespace L2
open PySem PySem.Spec PyProof.Rows
end L2
end
section
namespace L2
open PySem PySem.Spec PyProof.Rows
end L2
end
section
namespace L2
open PySem PySem.Spec PyProof.Rows
structure TQ (K:apT) (f:Fx) (a:Addr) (as:List Addr) (H2:Hp) (ρ:zw) (rows:List (List PyData)) (σ:St) (H:Hp):Prop where
 env:EnvOk K (f.withs (a :: as)) ρ σ H
 sm:Same (hide H2 (f.withs (a :: as))) (hide H (f.withs (a :: as)))
 kp:∀ b∈f.M,H b=H2 b
 top:H a=some (.lst (as.map .ref))
 nd:(a :: as).Nodup
 len:as.length=rows.length
 row:∀ (i:Nat) x r,as[i]?=some x->rows[i]?=some r->∃ vs,H x=some (.lst vs)/\Reps K (hide H (f.withs (a :: as))) r vs
end L2
end
section
namespace L2
open PySem PySem.Spec PyProof.Rows
inductive PEs (X:Cx):List (Expr×Expr)->List (TE×TE)->Prop where
 | nil:PEs X [] []
 | cons {k v:Expr} {tk tv:TE} {es:List (Expr×Expr)} {ts:List (TE×TE)}:PE X k tk->PE X v tv->PEs X es ts->PEs X ((k,v) :: es) ((tk,tv) :: ts)
inductive RelPs:List (V×V)->List (Value×Value)->Prop where
 | nil:RelPs [] []
 | cons {k v:V} {a b:Value} {l:List (V×V)} {us:List (Value×Value)}:RelV k a->RelV v b->RelPs l us->RelPs ((k,v) :: l) ((a,b) :: us)
inductive RepP (K:apT) (Hh:Hp):List (PyData×PyData)->List (V×V)->Prop where
 | nil:RepP K Hh [] []
 | cons {k v:PyData} {a b:V} {l:List (PyData×PyData)} {us:List (V×V)}:Rep K Hh k a->Rep K Hh v b->RepP K Hh l us->RepP K Hh ((k,v) :: l) ((a,b) :: us)
end L2
end
section
set_option maxHeartbeats 400000
namespace L2
open PySem PySem.Spec PyProof.Rows
structure PEw (X:Cx) (e:Expr) (t:TE):Prop where
 pe:PE X e t
structure PEsW (X:Cx) (es:List (Expr×Expr)) (ts:List (TE×TE)):Prop where
 pes:PEs X es ts
def adR (w:World) (K:apT) (D:Addr) (tk tv:TE):TB:=fun σ H Q=>tk σ H fun k H1=>tv σ H1 fun v H2=>aa5 w K (.ref D) k v H2 fun H3=>Q σ H3
def afW (w:World) (wi:TI) (own:Nat) (fr:List Nat) (g:TG) (tt:TT) (tb:Addr->TB):TE:=fun σ H Q=>wi σ H fun J H1=>∀ D,H1 D=none ->
 vX J g tt (tb D) (yS own fr σ) (upd H1 D (DicO w D [])) fun _ H2=>Q (.ref D) H2
theorem akk {X:Cx} {w:World} {K:apT} {D:Addr} {kx vx:Expr} {tk tv:TE} {pos:Pos} (hw:X.w=w) (hK:X.K=K) (hu:X.A.units+64<cLine) (hk:PE X kx tk) (hv:PE X vx tv) :
  PB X (do
   let kv <- eval kx X.env
   let vv <- holding [kv] (eval vx X.env)
   standAt pos
   holding [kv,vv] (dictSet D kv vv)) (adR w K D tk tv):=by
 subst hw hK
 intro pins s σ H Q I h
 refine wpAny_bind (thn (hk pins s σ H _ I h) fun kv s1 ⟨k,H1,I1,r1,q1⟩=>?_)
 refine wpAny_bind (wpAny_holding (thn (hv pins s1 σ H1 _ I1 q1) fun vv s2 ⟨v,H2,I2,r2,q2⟩=>?_))
 refine wpAny_bind (wpAny_standAt ?_)
 obtain⟨a,b,d,xs,ea,rfl,hS,ks,kd,rd,hl,q⟩:=q2
 cases ea
 cases r1
 obtain⟨hm,ns⟩:=adL I2 hS ks
 refine wpAny_holding (wpAny_dictSet_heap (by show _+40<cLine;omega) (qi I2 kd rd) hm (fun h' hm' sb=>?_) (arv (yc hl)))
 obtain⟨o',es',ep',x1,x2,x3,x4,x5,x6⟩:=hm'
 exact⟨σ,_,I2.write (t':=s2.toks+yd d) (x:=D) (e:=D) (by rw [hS];exact trivial) (.inl rfl) (fun b u nb e=>(sb.2 b nb).trans e) ⟨o',x1⟩ (DicO.ok ⟨x1,x2,x3,x4,x6,ns⟩),q _ r2⟩
section
variable {X:Cx} {pins:List (Addr×Obj)} {s:Shared} {σ:St} {H:Hp} {tg kx vx iter:Expr} {ifs:List Expr} {rest:List Comprehension} {sc scO:Scope} {NO N:List Str} {own:Nat} {fr:List Nat} {wi:TI} {g:TG} {tt:TT} {tb:Addr->TB} {pos:Pos}
theorem aif {RR:Value->Addr->Result->Shared->Prop} {it:Addr} {fp:List Addr} {tn:Nat->Heap->Prop} {J:It} {Q:VK} (S:CompScope NO scO N sc own fr) (hN:X.N=NO) (hsc:X.env.scope=scO) (hc:X.calm=true)
  (hg:∀ s₀ H₀ ex pn,PG (zm X sc N s₀ H₀ ex pn) tg g) (ht:∀ s₀ H₀ ex pn,PTs (zm X sc N s₀ H₀ ex pn) ifs tt)
  (hb:∀ D s₀ H₀ ex pn,∃ act,PB (zm X sc N s₀ H₀ ex pn) act (tb D)/\∀ it,compTurn (.DictComp kx vx (⟨tg,iter,ifs,0⟩ :: rest) sc pos) 0 it (.ref D) (zm X sc N s₀ H₀ ex pn).env=(do
   standAt iter.pos
   match <- pyNext it with
   | none=>pure (.done .next)
   | some v =>
    letOwnedTupleGo tg it v
    assign tg (zm X sc N s₀ H₀ ex pn).env v
    let mut ok:=true
    for c in ifs do
     if ok then ok <- isTrue c (zm X sc N s₀ H₀ ex pn).env (eval c (zm X sc N s₀ H₀ ex pn).env)
    if ok then
     act
    again (.compLoop (.DictComp kx vx (⟨tg,iter,ifs,0⟩ :: rest) sc pos) 0 it (.ref D) (zm X sc N s₀ H₀ ex pn).env)))
  (I:Inv X pins σ H s) (T:Turn X.prog X.w X.K tg J fp it tn) (st:tn 0 s.heap) (f:∀ b∈fp,vG X pins H b)
  (h:∀ D,H D=none->vX J g tt (tb D) (yS own fr σ) (upd H D (DicO X.w D [])) fun _ H2=>Q (.ref D) H2)
  (hRR:∀ (D C:Addr) (s':Shared) (H':Hp),(∃ m,s'.heap.Ns C m)->C≠X.env.locals->(∀ x c,X.env.cells.lookup x=some c->c≠C)->H' C=none->X.s₀.heap.objs.size<=C->(∀ p∈X.pn++pins,p.1≠C)->Inv X pins σ H' s'->Q (.ref D) H'->RR (.ref D) C (.ok .next) s') :
  wpAny (model X.prog X.w) X.A newDict (fun acc s₃=>wpAny (model X.prog X.w) X.A (newFunctionEnv sc X.env.globals (yk X.env sc.names []) [] X.env.qual none .none (some X.env)) (fun cenv s₄ =>
   codeAny (model X.prog X.w) X.A (.compStart (.DictComp kx vx (⟨tg,iter,ifs,0⟩ :: rest) sc pos) 0 (.ref it) acc { cenv with scope:=relabel sc X.env }) (RR acc cenv.locals) s₄) X.xe s₃) X.xe s:=by
 refine wpAny_newObj_type (aaJ ?_)
 have fpsz:∀ b∈fp,b<s.heap.objs.size:=fun b hb=>by
  obtain⟨o,e,_⟩:=T.obj _ _ st b hb
  exact ap5 e
 have I3:=I.laid (a:=s.heap.objs.size) (t':=s.toks) (fun _ _ q=>apV _ q) (apY _) (DicO.ok (xs:=[]) (o:={ cls:=.type "dict",data:=.dict #[] }) (es:=#[]) (ep:=0) ⟨ap7 _ rfl,⟨rfl,rfl,rfl⟩,rfl,rfl,aq6,beq_eq_false_iff_ne.mpr (arw (aqp (ag2 I)))⟩)
 have f3:∀ b∈fp,vG X pins (upd H s.heap.objs.size (DicO X.w s.heap.objs.size [])) b:=fun b hb=>⟨by rw [zA (aqp (fpsz b hb))];exact (f b hb).1,(f b hb).2⟩
 have st3:tn 0 (s.heap.push { cls:=.type "dict",data:=.dict #[] }):=T.keep _ _ _ st fun b _ o e=>apV _ e
 have I4:=aej (tk:=s.toks) S hN hsc I3 f3 (T.obj _ _ st3)
 obtain⟨act,pb,heq⟩:=hb s.heap.objs.size _ _ _ _
 have st4:=T.keep _ _ (pushCells ((s.heap.push { cls:=.type "dict",data:=.dict #[] }).push { cls:=.type "dict",data:=.dict #[] }) sc.names) st3 fun b _ o e=>pushCells_keeps _ _ _ _ (apV _ e)
 have cells_lt:∀ x c,X.env.cells.lookup x=some c->c<s.heap.objs.size:=fun x c e=>by
  obtain⟨v,o,ho,hd⟩:=I.cell x c e
  exact ap5 ho
 have esz:(s.heap.push { cls:=.type "dict",data:=.dict #[] }).objs.size=s.heap.objs.size+1:=aq5 ..
 have loop:=vY (X:=zm X sc N { s with heap:=s.heap.push { cls:=.type "dict",data:=.dict #[] } } (upd H s.heap.objs.size (DicO X.w s.heap.objs.size [])) fp (X.pn++pins)) (R:=RR (.ref s.heap.objs.size) (s.heap.push { cls:=.type "dict",data:=.dict #[] }).objs.size) (fun _ _ z=>z) hc (hg _ _ _ _) (ht _ _ _ _) pb heq (fun _=>rfl) (fun _=>rfl) (fun _=>rfl) I4 T st4
  (fun b hb=>⟨(f3 b hb).1,I4.ok.exf b hb |>.1,I4.ok.exfs b hb,.inl hb,I4.ok.exf b hb |>.2,fun p hp=>by
   have hp':p∈X.pn++pins:=by simpa [zm] using hp
   exact (f b hb).2.2.2.2.2 p hp'⟩) (h _ I.fresh)
  (fun σ' H' s' J' fr' q'=>hRR _ _ s' H' (let⟨m,hm,_⟩:=J'.loc;⟨m,hm⟩) (by rw [esz];exact arJ (aqP I.lt)) (fun x c e=>by rw [esz];exact aqp (aqP (cells_lt x c e))) J'.free (by rw [esz];exact Nat.le_succ_of_le I.sz) (fun p hp=>by rw [esz];exact aqp (aqP (ap5 (I.pin p hp).1))) (comp_back (h':=s'.heap) I3 f3 J' (Heap.SameBut.refl ..)) q')
 exact codeAny_compStart_dict loop (T.self X.A 0 _ _ _ st4 loop)
theorem akl (S:CompScope NO scO N sc own fr) (hc:X.calm=true) (hi:PI X tg iter wi) (hg:∀ s₀ H₀ ex pn,PG (zm X sc N s₀ H₀ ex pn) tg g) (ht:∀ s₀ H₀ ex pn,PTs (zm X sc N s₀ H₀ ex pn) ifs tt)
  (hb:∀ D s₀ H₀ ex pn,∃ act,PB (zm X sc N s₀ H₀ ex pn) act (tb D)/\∀ it,compTurn (.DictComp kx vx (⟨tg,iter,ifs,0⟩ :: rest) sc pos) 0 it (.ref D) (zm X sc N s₀ H₀ ex pn).env=(do
   standAt iter.pos
   match <- pyNext it with
   | none=>pure (.done .next)
   | some v =>
    letOwnedTupleGo tg it v
    assign tg (zm X sc N s₀ H₀ ex pn).env v
    let mut ok:=true
    for c in ifs do
     if ok then ok <- isTrue c (zm X sc N s₀ H₀ ex pn).env (eval c (zm X sc N s₀ H₀ ex pn).env)
    if ok then
     act
    again (.compLoop (.DictComp kx vx (⟨tg,iter,ifs,0⟩ :: rest) sc pos) 0 it (.ref D) (zm X sc N s₀ H₀ ex pn).env)))
  (hN:X.N=NO) (hsc:X.env.scope=scO) (hs:∀ x,foldedSetIterable iter X.env x=pure x) {w:World} (hw:X.w=w) :
  PE X (.DictComp kx vx (⟨tg,iter,ifs,0⟩ :: rest) sc pos) (afW w wi own fr g tt tb):=by
 subst hw
 intro pins s σ H Q I h
 rw [arm_eval_DictComp]
 refine wpAny_comprehension_free (use:=none) rfl hs (adn S hsc I.ok) S.kind (fun p hp hl=>yh S.snd (k:=.local) (by rw [<-hl];exact hp)) (thn (hi pins s σ H _ I h) fun v s1 h1=>thn h1 fun itv s2 h2=>?_)
 obtain⟨it,fp,tn,J,H2,e,I2,T,st2,f2,q⟩:=h2
 subst e
 refine aif (RR:=fun acc C=>compPost (model X.prog X.w) X.A X.xe none (EP X pins σ Q) acc C) S hN hsc hc hg ht hb I2 T st2 f2 q ?_
 rintro D C s' H' ⟨m,hm⟩ c0 c1 c2 c3 c4 J' q'
 exact⟨m,hm,fun h' hs'=>⟨.ref D,H',J'.touch hs' c2 c0 c1 c3 c4,rfl,q'⟩⟩
theorem abK {prog:Program} {w:World} {A:Around} {R:Result->Shared->Prop} {s:Shared} {kx' vx':Expr} {g0:Comprehension} {tg' it':Expr} {ifs':List Expr} {sc':Scope} {pos':Pos} {itv acc:Value} {env:Env}
  (here:codeAny (model prog w) A (.compLoop (.DictComp kx' vx' [g0,⟨tg',it',ifs',0⟩] sc' pos') 1 itv acc env) R s)
  (once:wpAny (model prog w) A (pyIter itv) (fun j s1=>codeAny (model prog w) A (.compLoop (.DictComp kx' vx' [g0,⟨tg',it',ifs',0⟩] sc' pos') 1 j acc env) R s1) (notedBy (model prog w) A env fun x s1=>R (.error x) s1) s) :
  codeAny (model prog w) A (.compStart (.DictComp kx' vx' [g0,⟨tg',it',ifs',0⟩] sc' pos') 1 itv acc env) R s:=by
 apply codeAny_of_tree
 show wpAny _ _ ((compStart (.DictComp kx' vx' [g0,⟨tg',it',ifs',0⟩] sc' pos') 1 itv acc env).onRaise (fun z=>do noteFrame z env;standAt theWindowsPlace)) _ _ s
 apply wpAny_notedAt
 unfold compStart
 show wpAny _ _ (ask >>= _) _ _ s
 apply wpAny_bind
 apply wpAny_askSetting
 apply wpAny_ite
 split
 ·first
   | exact wpAny_bind (wpAny_pure (wpAny_pure (And.intro rfl here)))
   | exact wpAny_pure (And.intro rfl here)
 ·apply wpAny_bind
  apply wpAny_rule
  show wpAny _ _ (standAt it'.pos >>= _) _ _ s
  exact wpAny_bind (wpAny_standAt (wpAny_bind (wpAny_mono once (fun j s1 q=>wpAny_pure (And.intro rfl q)) fun _ _ z=>z)))
theorem akm {tg2 iter2:Expr} {ifs2:List Expr} {it:Value} {D:Addr} {env:Env}:compTurn (.DictComp kx vx [⟨tg,iter,ifs,0⟩,⟨tg2,iter2,ifs2,0⟩] sc pos) 1 it (.ref D) env=(do
   standAt iter2.pos
   match <- pyNext it with
   | none=>pure (.done .next)
   | some v =>
    letOwnedTupleGo tg2 it v
    assign tg2 env v
    let mut ok:=true
    for c in ifs2 do
     if ok then ok <- isTrue c env (eval c env)
    if ok then
     (do
      let kv <- eval kx env
      let vv <- holding [kv] (eval vx env)
      standAt { kx.pos with endLine:=vx.pos.endLine,endCol:=vx.pos.endCol }
      holding [kv,vv] (dictSet D kv vv))
    again (.compLoop (.DictComp kx vx [⟨tg,iter,ifs,0⟩,⟨tg2,iter2,ifs2,0⟩] sc pos) 1 it (.ref D) env)):=by rfl
theorem aih {tg2 iter2:Expr} {ifs2:List Expr} {it acc:Value} {env:Env} :
  compTurn (.DictComp kx vx [⟨tg,iter,ifs,0⟩,⟨tg2,iter2,ifs2,0⟩] sc pos) 0 it acc env=(do
   standAt iter.pos
   match <- pyNext it with
   | none=>pure (.done .next)
   | some v =>
    letOwnedTupleGo tg it v
    assign tg env v
    let mut ok:=true
    for c in ifs do
     if ok then ok <- isTrue c env (eval c env)
    if ok then
     (do
      let x <- eval iter2 env
      standAt iter2.pos
      let x <- foldedSetIterable iter2 env x
      let _ <- runOwn (.compStart (.DictComp kx vx [⟨tg,iter,ifs,0⟩,⟨tg2,iter2,ifs2,0⟩] sc pos) 1 (<- holding [x] (pyIter x)) acc env) env)
    again (.compLoop (.DictComp kx vx [⟨tg,iter,ifs,0⟩,⟨tg2,iter2,ifs2,0⟩] sc pos) 0 it acc env)):=by
 unfold compTurn
 simp only [bind_assoc,pure_bind]
 rfl
theorem aov {w:World} {K:apT} {D:Addr} {tk tv:TE} {tg2 iter2:Expr} {ifs2:List Expr} {wi2:TI} {g2:TG} {tt2:TT} (hw:X.w=w) (hK:X.K=K) (hu:X.A.units+64<cLine) (hx:∀ e s,X.xe e s->False) (hc:X.calm=true) (hi:PI X tg2 iter2 wi2) (hg:PG X tg2 g2) (ht:PTs X ifs2 tt2) (hk:PE X kx tk) (hv:PE X vx tv)
  (hs:∀ x,foldedSetIterable iter2 X.env x=pure x) :
  PB X (do
   let x <- eval iter2 X.env
   standAt iter2.pos
   let x <- foldedSetIterable iter2 X.env x
   let _ <- runOwn (.compStart (.DictComp kx vx [⟨tg,iter,ifs,0⟩,⟨tg2,iter2,ifs2,0⟩] sc pos) 1 (<- holding [x] (pyIter x)) (.ref D) X.env) X.env) (tIn wi2 g2 tt2 (adR w K D tk tv)):=by
 intro pins s σ H Q I h
 refine wpAny_bind (thn (hi pins s σ H _ I h) fun v s1 h1=>?_)
 refine wpAny_bind (wpAny_standAt ?_)
 refine wpAny_bind (wpAny_of_eq (hs v) ?_)
 refine wpAny_bind (wpAny_holding (thn h1 fun itv s2 h2=>?_))
 obtain⟨it,fp,tn,J,H2,e,I2,T,st2,f2,q⟩:=h2
 subst e
 refine wpAny_bind (wpAny_runOwn ?_)
 have loop:=vY (e:=.DictComp kx vx [⟨tg,iter,ifs,0⟩,⟨tg2,iter2,ifs2,0⟩] sc pos) (d:=1) (pos:=iter2.pos)
  (R:=fun r s'=>match r with | .ok f=>wpAny (model X.prog X.w) X.A (pure ()) (fun _ s'=>∃ σ' H',Inv X pins σ' H' s'/\Q σ' H') X.xe s' | .error e=>cameBackBy (model X.prog X.w) X.A X.env X.xe e s')
  hx hc hg ht (akk (D:=D) hw hK hu hk hv) (fun _=>akm) (fun _=>rfl) (fun _=>rfl) (fun _=>rfl) I2 T st2 f2 q (fun σ' H' s' J' _ q'=>wpAny_pure ⟨σ',H',J',q'⟩)
 exact abK loop (T.self X.A 0 _ _ _ st2 loop)
theorem aii {w:World} {K:apT} {tk tv:TE} {tg2 iter2:Expr} {ifs2:List Expr} {wi2:TI} {g2:TG} {tt2:TT} (hw:X.w=w) (hK:X.K=K) (hu:X.A.units+64<cLine) (S:CompScope NO scO N sc own fr) (hc:X.calm=true) (hi:PI X tg iter wi) (hg:∀ s₀ H₀ ex pn,PG (zm X sc N s₀ H₀ ex pn) tg g) (ht:∀ s₀ H₀ ex pn,PTs (zm X sc N s₀ H₀ ex pn) ifs tt)
  (hi2:∀ s₀ H₀ ex pn,PI (zm X sc N s₀ H₀ ex pn) tg2 iter2 wi2) (hg2:∀ s₀ H₀ ex pn,PG (zm X sc N s₀ H₀ ex pn) tg2 g2) (ht2:∀ s₀ H₀ ex pn,PTs (zm X sc N s₀ H₀ ex pn) ifs2 tt2)
  (hk:∀ s₀ H₀ ex pn,PE (zm X sc N s₀ H₀ ex pn) kx tk) (hv:∀ s₀ H₀ ex pn,PE (zm X sc N s₀ H₀ ex pn) vx tv) (hN:X.N=NO) (hsc:X.env.scope=scO) (hs:∀ x,foldedSetIterable iter X.env x=pure x) (hs2:∀ s₀ H₀ ex pn x,foldedSetIterable iter2 (zm X sc N s₀ H₀ ex pn).env x=pure x) :
  PE X (.DictComp kx vx [⟨tg,iter,ifs,0⟩,⟨tg2,iter2,ifs2,0⟩] sc pos) (afW w wi own fr g tt fun D=>tIn wi2 g2 tt2 (adR w K D tk tv)) :=
 akl S hc hi hg ht (fun D s₀ H₀ ex pn=>⟨_,aov (X:=zm X sc N s₀ H₀ ex pn) (D:=D) hw hK hu (fun _ _ z=>z) hc (hi2 s₀ H₀ ex pn) (hg2 s₀ H₀ ex pn) (ht2 s₀ H₀ ex pn) (hk s₀ H₀ ex pn) (hv s₀ H₀ ex pn) (hs2 s₀ H₀ ex pn),fun it=>aih⟩) hN hsc hs hw
end
structure CSo (w:World) (K:apT) (f:Fx) (D:Addr) (H2:Hp) (ρ':zw) (kvs:List (PyData×PyData)) (σ:St) (H:Hp):Prop where
 env:EnvOk K (f.with D) ρ' σ H
 sm:Same (hide H2 (f.with D)) (hide H (f.with D))
 kp:∀ b∈f.M,H b=H2 b
 own:OwnAt w K (hide H (f.with D)) H D (.dic kvs)
section
variable {w:World} {K:apT} {f:Fx} {ρ:zw} {D:Addr} {wi:TI} {g:TG} {tt:TT} {tk tv:TE} {kvs:List (PyData×PyData)}
theorem CSo.go {H2 H H':Hp} {σ:St} (c:CSo w K f D H2 ρ kvs σ H) (gg:Goes (f.with D) H H') {ρ2:zw} {σ2:St} (e2:EnvOk K (f.with D) ρ2 σ2 H'):CSo w K f D H2 ρ2 kvs σ2 H' :=
 ⟨e2,c.sm.trans gg.sm,fun b hb=>(gg.kp b (apW _ hb)).trans (c.kp b hb),c.own.mono (gg.kp D apX) gg.sm⟩
theorem CSo.self {H2 H:Hp} {σ:St} (c:CSo w K f D H2 ρ kvs σ H):CSo w K f D H ρ kvs σ H:=⟨c.env,Same.refl _,fun _ _=>rfl,c.own⟩
theorem CSo.trans {H2 H H':Hp} {kvs':List (PyData×PyData)} {ρ':zw} {σ σ':St} (c:CSo w K f D H2 ρ kvs σ H) (d:CSo w K f D H ρ' kvs' σ' H'):CSo w K f D H2 ρ' kvs' σ' H':=⟨d.env,c.sm.trans d.sm,fun b hb=>(d.kp b hb).trans (c.kp b hb),d.own⟩
def PBo (w:World) (K:apT) (f:Fx) (D:Addr) (tb:TB) (ρ:zw) (kvs:List (PyData×PyData)) (R:zw->List (PyData×PyData)->Prop):Prop:=f.f≠some D->D∉f.M->∀ (σ:St) (H H2:Hp) (W:St->Hp->Prop),CSo w K f D H2 ρ kvs σ H ->
 (∀ ρ2 kvs2 σ2 H',CSo w K f D H2 ρ2 kvs2 σ2 H'->R ρ2 kvs2->W σ2 H')->tb σ H W
theorem al1 {R:zw->List (PyData×PyData)->Prop} (hl:kvs.length<=1000) (h:PEd K (f.with D) tk ρ fun k=>abG k/\PEd K (f.with D) tv ρ fun v=>R ρ (dput k v kvs)):PBo w K f D (adR w K D tk tv) ρ kvs R:=fun hD hM σ H H2 W c q =>
 h σ H _ c.env fun k kv H3 g3 r3 ⟨kt,h3⟩=>by
  have c3:=c.go g3 (c.env.mono g3)
  refine h3 σ H3 _ c3.env fun v vv H4 g4 r4 p4=>?_
  have c4:=c3.go g4 (c3.env.mono g4)
  obtain⟨b,rfl⟩:=qD kt r3
  obtain⟨xs,h1,h2⟩:=c4.own
  have rk:=Rep.mono g4.sm _ _ r3
  refine⟨D,b,k,xs,rfl,rfl,h1,fun z hz=>⟨(y7 h2 z hz).1,Rep.mono (zj _ _) _ _ (y7 h2 z hz).2⟩,kt.1,Rep.mono (zj _ _) _ _ rk,by rw [aa6 h2];exact hl,fun u ru=>?_⟩
  refine q _ _ _ _ ⟨adt hD c4.env,by rw [yp];exact c4.sm,fun b hb=>(zA (fun (z:b=D)=>hM (z▸hb))).trans (c4.kp b hb),_,zB,?_⟩ p4
  rw [yp]
  exact ag6 kt.1 rk r4 ru h2
theorem aha {fi:Fx} {Hi H2 H:Hp} {ds:List PyData} {J:It} {tb:TB} {σ:St} {W:St->Hp->Prop} (it:ItD K fi ds J Hi) (hD:f.f≠some D) (hM:D∉f.M) (c:CSo w K f D H2 ρ kvs σ H) (sm:Same (hide Hi fi) (hide H (f.with D)))
  (Jv:Nat->zw->List (PyData×PyData)->Prop) (j0:Jv 0 ρ kvs)
  (js:∀ (i:Nat) d ρ' es',ds[i]?=some d->Jv i ρ' es'->PGd K (f.with D) g d ρ' fun ρ2=>PTd K (f.with D) tt ρ2 fun b=>if b=true then PBo w K f D tb ρ2 es' (Jv (i+1)) else Jv (i+1) ρ2 es')
  (hW:∀ ρ' es' σ' H',CSo w K f D H2 ρ' es' σ' H'->Jv ds.length ρ' es'->W σ' H'):vX J g tt tb σ H W:=by
 refine⟨fun i m σ' H'=>∃ ρ' es',CSo w K f D H2 ρ' es' σ' H'/\Same (hide Hi fi) (hide H' (f.with D))/\Jv i ρ' es'/\m+i=ds.length,⟨ds.length,ρ,kvs,c,sm,j0,rfl⟩,fun i m σ' H' ⟨ρ',es',c',sm',p,hm⟩=>?_⟩
 by_cases hi:i<ds.length
 ·obtain⟨hgo,hy⟩:=it.go (f.with D) H' i _ c'.env.fd sm' (apO hi)
  refine .inr ⟨hgo,fun x H3 hx=>?_⟩
  obtain⟨g3,r3⟩:=hy x H3 hx
  have c3:=c'.go g3 (c'.env.mono g3)
  refine js i _ ρ' es' (apO hi) p σ' H3 x _ c3.env r3 fun ρ2 σ2 H4 g4 e4 p4=>?_
  have c4:=c3.go g4 e4
  refine p4 σ2 H4 _ e4 fun b H5 g5 p5=>?_
  have c5:=c4.go g5 (e4.mono g5)
  have sm5:=((sm'.trans g3.sm).trans g4.sm).trans g5.sm
  cases b with
  | false =>
   rw [if_neg apQ] at p5 ⊢
   exact⟨m - 1,by omega,ρ2,es',c5,sm5,p5,by omega⟩
  | true =>
   rw [if_pos rfl] at p5 ⊢
   exact p5 hD hM σ2 H5 H5 _ c5.self fun ρ6 es6 σ6 H6 c6 p6=>⟨m - 1,by omega,ρ6,es6,c5.trans c6,sm5.trans c6.sm,p6,by omega⟩
 ·have ei:i=ds.length:=by omega
  subst ei
  exact .inl ⟨it.st (f.with D) H' c'.env.fd sm',hW ρ' es' σ' H' c' p⟩
theorem apn {tb:TB} {R:zw->List (PyData×PyData)->Prop} (h:PId K (f.with D) wi ρ fun ds=>∃ Jv:Nat->zw->List (PyData×PyData)->Prop,Jv 0 ρ kvs /\
   (∀ (i:Nat) d ρ' es',ds[i]?=some d->Jv i ρ' es'->PGd K (f.with D) g d ρ' fun ρ2=>PTd K (f.with D) tt ρ2 fun b=>if b=true then PBo w K f D tb ρ2 es' (Jv (i+1)) else Jv (i+1) ρ2 es') /\
   ∀ ρ' es',Jv ds.length ρ' es'->R ρ' es'):PBo w K f D (tIn wi g tt tb) ρ kvs R:=fun hD hM σ H H2 W c q =>
 h σ H _ c.env fun ds J H1 g1 it ⟨Jv,j0,js,jd⟩ =>
  aha it hD hM (c.go g1 (c.env.mono g1)) (Same.refl _) Jv j0 js fun ρ' es' σ' H' c' p=>q ρ' es' σ' H' c' (jd ρ' es' p)
theorem al3 {own:Nat} {fr:List Nat} {tb:Addr->TB} {P:OC->Prop} (h:PId K f wi ρ fun ds=>∃ Jv:Nat->zw->List (PyData×PyData)->Prop,Jv 0 (qz own fr ρ) [] /\
   (∀ D (i:Nat) d ρ' es',ds[i]?=some d->Jv i ρ' es'->PGd K (f.with D) g d ρ' fun ρ2=>PTd K (f.with D) tt ρ2 fun b=>if b=true then PBo w K f D (tb D) ρ2 es' (Jv (i+1)) else Jv (i+1) ρ2 es') /\
   ∀ ρ' es',Jv ds.length ρ' es'->P (.dic es')):adI w K f (afW w wi own fr g tt tb) ρ P:=fun σ H Q e q =>
 h σ H _ e fun ds J H1 g1 it ⟨Jv,j0,js,jd⟩ D hn=>by
  have nD:=fresh_ne g1.2 hn
  have hD:f.f≠some D:=fun z=>nD (.inl z)
  have hM:D∉f.M:=fun z=>nD (.inr z)
  have e1:=e.mono g1
  have c0:CSo w K f D (upd H1 D (DicO w D [])) (qz own fr ρ) [] (yS own fr σ) (upd H1 D (DicO w D [])):=⟨afB (aan e1) hn,Same.refl _,fun _ _=>rfl,[],zB,.nil⟩
  refine aha it hD hM c0 (jz hn) Jv j0 (js D) fun ρ' es' σ' H' c' p=>?_
  refine q (.dic es') D H' (g1.trans ⟨((jz hn).trans c'.sm).trans same_with,⟨c'.env.fd.fd,fun b hb=>c'.env.fd.mm b (apW _ hb),fun p e hp=>c'.env.fd.nm p e (apW _ hp)⟩,fun b hb=>?_⟩) (g1.free e.fd hn) c'.own (jd ρ' es' p)
  rw [c'.kp b hb,zA]
  obtain⟨o,h3⟩:=g1.2.mm b hb
  exact zI h3 hn
theorem aow {te:TE} {P:DV->Prop} (h:adI w K f te ρ fun c=>∃ kvs,c=.dic kvs/\P (.mon (aaV w K kvs))):PEv K f te ρ P:=fun σ H Q e q=>h σ H Q e fun c D H' g hn ow ⟨kvs,ec,p⟩=>by
 subst ec
 obtain⟨xs,h1,h2⟩:=ow
 have nD:=fresh_ne e.fd hn
 exact q (.mon (aaV w K kvs)) (.ref D) H' g (fun H'' s=>⟨D,xs,rfl,s D _ (zz nD h1),EntR.mono (same_with.trans s) h2⟩) p
end
end L2
end
section
namespace L2
open PySem PySem.Spec PyProof.Rows PySem.SetTable
theorem sit_next:Slot "set_iterator" "__next__" "set_iterator.__next__":=by
 refine Slot.of (owner:="set_iterator") (n:="__next__") ?_ (by decide +kernel) (by decide +kernel) (by decide +kernel) ?_ ?_
 ·rw [typeLookup_type,builtinLookup_eq_fast]
  kernel_rfl
 ·first | left;decide +kernel | right;decide +kernel
 ·rw [isSubtype_type]
  kernel_rfl
theorem aij:entryFor table "set_iterator.__next__"=some Builtin.«set_iterator.__next__»:=entryFor_of_tree (by kernel_rfl)
theorem acQ:Manifest.owners.lookup (String.ofList "set_iterator".toList.reverse.reverse)=some Manifest.sig_set_iterator:=by kernel_rfl
theorem akn (a:Value):argsOk "set_iterator.__next__" ⟨[a],[]⟩:=by
 unfold argsOk
 rw [signature?_of (id:="set_iterator.__next__") (n:="__next__".toList.reverse) (o:="set_iterator".toList.reverse) (by kernel_rfl) acQ]
 kernel_rfl
theorem aeO:Slot "set_iterator" "__iter__" "set_iterator.__iter__":=by
 refine Slot.of (owner:="set_iterator") (n:="__iter__") ?_ (by decide +kernel) (by decide +kernel) (by decide +kernel) ?_ ?_
 ·rw [typeLookup_type,builtinLookup_eq_fast]
  kernel_rfl
 ·first | left;decide +kernel | right;decide +kernel
 ·rw [isSubtype_type]
  kernel_rfl
theorem aik (a:Value):argsOk "set_iterator.__iter__" ⟨[a],[]⟩:=by
 unfold argsOk
 rw [signature?_of (id:="set_iterator.__iter__") (n:="__iter__".toList.reverse) (o:="set_iterator".toList.reverse) (by kernel_rfl) acQ]
 kernel_rfl
theorem abL:entryFor table "set.__iter__"=some Builtin.«frozenset.__iter__»:=entryFor_alias (id':="frozenset.__iter__") (by kernel_rfl) rfl (by decide +kernel) (by kernel_rfl)
end L2
end
section
namespace L2
open PySem PySem.Spec PyProof.Rows PySem.SetTable
theorem afX:entryFor table "set_iterator.__iter__"=some Builtin.«dict_keyiterator.__iter__»:=entryFor_alias (id':="dict_keyiterator.__iter__") (by kernel_rfl) rfl (by decide +kernel) (by kernel_rfl)
def byT (w:World):Bool:=w.params.followText "set-order"
structure ISet (w:World) (h:Heap) (a:Addr) (xs:List (Int×Tok)) (o:Obj) (es:Array (Int×Value)) (ep:Nat) (t:SetTable):Prop where
 ob:h.get? a=some o
 ex:o.ExactSet
 da:o.data=.set es ep t
 el:es.toList=xs.map fun x=>(hashInt x.1,Value.int x.1 x.2)
 ok:ST.TOk t (xs.map fun x=>hashInt x.1)
 pl:t.plain=true
 ld:byT w=true \/ t.led=true
section
variable {P:Program} {w:World} {A:Around} {E:Value->Shared->Prop} {s:Shared} {a I:Addr} {xs:List (Int×Tok)} {o:Obj} {es:Array (Int×Value)} {ep i:Nat} {t:SetTable}
theorem ISet.size {h:Heap} (x:ISet w h a xs o es ep t):es.size=xs.length:=by
 rw [<-ap4,x.el,apP]
theorem ISet.fits {h:Heap} (x:ISet w h a xs o es ep t):t.fits es.size=true:=by
 have h1:=x.ok.size
 have h2:=x.ok.most
 rw [apP] at h1 h2
 unfold atc asu
 rw [x.size,h1,x.ok.dum]
 simpa using h2
theorem ISet.type (S:ISet w s.heap a xs o es ep t):s.TypeIs (.ref a) "set":=⟨o,S.ob,S.ex.1⟩
def jx (w:World) (a:Addr) (ep:Nat) (es:Array (Int×Value)):Array (Int×Value):=if byT w=true then pickOrder (w.params.setOrder a ep) es else es
theorem abM {α:Type} (f:Nat->Nat):∀ (n k:Nat) (l:List α) (out:Array α),l.length=n->(pickOrder.go f n k l out).toList.Perm (out.toList++l)
 | 0,k,l,out,h=>by
  rw [aua.mp h,aqG]
  exact .refl _
 | n+1,k,l,out,h=>by
  have lt:f k % l.length<l.length:=Nat.mod_lt _ (by omega)
  unfold pickOrder.go
  rw [apO lt]
  dsimp only
  refine (abM f n (k+1) _ _ (by rw [atF lt];omega)).trans ?_
  rw [Array.toList_push,aq1]
  refine auk _ ?_
  rw [aul]
  have key:∀ (l:List α) (j:Nat) (hj:j<l.length),(l[j] :: l.eraseIdx j).Perm l:=fun l=>by
   induction l with
   | nil=>intro j hj;exact absurd hj (ari _)
   | cons b l ih =>
    intro j hj
    cases j with
    | zero=>exact .refl _
    | succ j =>
     show (l[j]'(arT hj) :: b :: l.eraseIdx j).Perm (b :: l)
     exact (List.Perm.swap b _ _).trans ((ih j (arT hj)).cons b)
  exact key l _ lt
theorem acR:(jx w a ep es).toList.Perm es.toList:=by
 unfold jx
 split
 ·unfold pickOrder
  have:=abM (w.params.setOrder a ep) es.size 0 es.toList #[] (ap4 ..)
  simpa using this
 ·exact .refl _
theorem aaB:(jx w a ep es).size=es.size:=by
 have:=(acR (w:=w) (a:=a) (ep:=ep) (es:=es)).length_eq
 rwa [ap4,ap4] at this
def slotAt (w:World) (t:SetTable) (i:Nat):Nat:=if byT w=true then 0 else if i=0 then 0 else t.place.getD (i - 1) 0+1
def aeP (a:Addr) (sl i n ep:Nat):Obj:={ cls:=.type "set_iterator",data:=.fields #[.int sl 0,.int i 0,.ref a,.int n 0,.int ep 0] }
theorem ail {Q:Value->Shared->Prop} (S:ISet w s.heap a xs o es ep t) (q:Q (.ref s.heap.objs.size) { s with heap:=s.heap.push (aeP a 0 0 es.size ep) }):wpAny (model P w) A (pyIter (.ref a)) Q E s:=by
 have T:=S.type
 refine wpAny_pyIter_slot T aum (wpAny_call_entry aum T abL ?_ (PySem.F.args_set_iter_1 _))
 unfold Builtin.«frozenset.__iter__» Builtin.Frozenset.slot0 slotArgs
 simp only [at8,aqt,aqB,↓reduceIte,bind_assoc,arh,bne_self_eq_false]
 unfold asL Builtin.Frozenset.sizeOf
 refine wpAny_bind (wpAny_pure ?_)
 try dsimp only
 refine wpAny_bind (wpAny_pure ?_)
 refine wpAny_bind (wpAny_bind (wpAny_setEntries_of S.ob S.da S.fits (wpAny_pure ?_)))
 unfold setDrawn
 refine wpAny_bind (wpAny_bind (wpAny_setState_of S.ob S.da S.fits ?_))
 unfold setsByText
 refine wpAny_bind (wpAny_bind (wpAny_askSetting (wpAny_pure (wpAny_pure ?_))))
 show wpAny _ _ (if (!byT w && (!t.plain && decide (es.size > 1)))=true then _ else _) _ _ _
 rw [S.pl,aqt,arn,atB,if_neg apQ]
 refine wpAny_bind (wpAny_pure ?_)
 refine wpAny_bind (wpAny_setEpoch_of S.ob S.da S.fits ?_)
 refine wpAny_bind (wpAny_newObj_type ?_ (by size_fits))
 exact wpAny_pure ⟨_,rfl, "set_iterator",_,⟨_,ap7 _ rfl,rfl⟩,sit_next.lookup,q⟩
theorem afY (k:ST.TOk t (xs.map fun x=>hashInt x.1)) (nb:byT w=false) (hi:i<=xs.length):below t.place (slotAt w t i)=i:=by
 have sz:=k.size
 rw [apP] at sz
 unfold slotAt
 rw [nb,if_neg apQ]
 obtain⟨b1,b2,b3⟩:=ST.below_ok k.rise (if i=0 then 0 else t.place.getD (i - 1) 0+1)
 generalize below t.place (if i=0 then 0 else t.place.getD (i - 1) 0+1)=m at *
 by_cases h0:i=0
 ·subst h0
  by_cases hm:m=0
  ·exact hm
  ·have:=b2 0 (by omega)
   rw [if_pos rfl] at this
   omega
 ·rw [if_neg h0] at b2 b3
  by_cases h1:m<i
  ·have h2:=b3 m (apY _) (by omega)
   by_cases h3:m=i - 1
   ·subst h3;omega
   ·have:=k.rise m (i - 1) (by omega) (by omega)
    omega
  ·by_cases h2:i<m
   ·have h3:=b2 i h2
    by_cases h4:i<t.place.size
    ·have:=k.rise (i - 1) i (by omega) h4
     omega
    ·omega
   ·omega
theorem ako {R:Option (Value×Nat)->Shared->Prop} (S:ISet w s.heap a xs o es ep t) (hi:i<=es.size) (q1:∀ e,(jx w a ep es)[i]?=some e->R (some (e.2,slotAt w t (i+1))) s) (q2:(jx w a ep es)[i]?=none->R none s) :
  wpAny (model P w) A (setNext a (slotAt w t i) i ep) R E s:=by
 unfold setNext
 refine wpAny_bind (wpAny_setState_of S.ob S.da S.fits ?_)
 dsimp only
 unfold setsByText
 refine wpAny_bind (wpAny_bind (wpAny_askSetting (wpAny_pure ?_)))
 show wpAny _ _ (if byT w=true then _ else _) _ _ _
 by_cases hb:byT w=true
 ·rw [if_pos hb,bne_self_eq_false,if_neg apQ]
  unfold setWalk
  refine wpAny_bind (wpAny_bind (wpAny_setState_of S.ob S.da S.fits ?_))
  dsimp only
  unfold setsByText
  refine wpAny_bind (wpAny_bind (wpAny_askSetting (wpAny_pure ?_)))
  show wpAny _ _ (if byT w=true then _ else _) _ _ _
  rw [if_pos hb]
  refine wpAny_bind (wpAny_askSetting (wpAny_pure (wpAny_pure ?_)))
  have e1:slotAt w t i=0:=by unfold slotAt;rw [if_pos hb]
  have e2:slotAt w t (i+1)=0:=by unfold slotAt;rw [if_pos hb]
  have e3:jx w a ep es=pickOrder (w.params.setOrder a ep) es:=by unfold jx;rw [if_pos hb]
  rw [e3] at q1 q2
  show R (((pickOrder (w.params.setOrder a ep) es)[i]?).map fun e=>(e.2,slotAt w t i)) s
  rw [e1]
  cases hx:(pickOrder (w.params.setOrder a ep) es)[i]? with
  | none=>exact q2 hx
  | some e =>
   have:=q1 e hx
   rw [e2] at this
   exact this
 ·have nb:byT w=false:=by cases h:byT w with | true=>exact absurd h hb | false=>rfl
  have led:=S.ld.resolve_left hb
  rw [if_neg hb]
  show wpAny _ _ (if (!t.plain && decide (es.size > 1))=true then _ else _) _ _ _
  rw [S.pl,aqt,arn,if_neg apQ]
  refine wpAny_bind ?_
  show wpAny _ _ (if (!t.led && !es.isEmpty)=true then _ else _) _ _ _
  rw [led,aqt,arn,if_neg apQ]
  refine wpAny_pure ?_
  have e3:jx w a ep es=es:=by unfold jx;rw [if_neg hb]
  rw [e3] at q1 q2
  have hl:i<=xs.length:=by rw [<-S.size];exact hi
  rw [afY S.ok nb hl]
  have sz:=S.ok.size
  rw [apP] at sz
  refine wpAny_pure ?_
  cases hx:es[i]? with
  | none=>exact q2 hx
  | some e =>
   have hlt:i<t.place.size:=by
    have:=(asy.mp hx).1
    have:=S.size
    omega
   rw [ark hlt]
   have:=q1 e hx
   have es1:slotAt w t (i+1)=t.place[i]+1:=by
    unfold slotAt
    rw [if_neg hb,if_neg (Nat.succ_ne_zero i),asQ]
    simp [ar4,hlt]
   rw [es1] at this
   exact this
theorem aeQ {Q:Option Value->Shared->Prop} (hh:A.handled=none) (ti:s.heap.get? I=some (aeP a (slotAt w t i) i es.size ep)) (S:ISet w s.heap a xs o es ep t) (hi:i<=es.size)
  (q1:∀ e h',(jx w a ep es)[i]?=some e->h'.get? I=some (aeP a (slotAt w t (i+1)) (i+1) es.size ep)->arI I s.heap h'->Q (some e.2) { s with heap:=h' })
  (q2:(jx w a ep es)[i]?=none->∀ h',auB I s.heap h'->Q none { s with heap:=h' }):wpAny (model P w) A (pyNext (.ref I)) Q E s:=by
 have T:s.TypeIs (.ref I) "set_iterator":=⟨_,ti,rfl⟩
 unfold pyNext
 apply wpAny_bind
 apply wpAny_attempt
 refine wpAny_callSpecial?_slot (name:=arQ "__next__") T sit_next (wpAny_call_entry sit_next T aij ?_ (akn _))
 unfold Builtin.«set_iterator.__next__»
 apply wpAny_bind
 apply wpAny_pure
 apply wpAny_bind
 apply wpAny_fieldsOf ti rfl
 dsimp only
 refine wpAny_bind (wpAny_setEntries_of S.ob S.da S.fits ?_)
 rw [if_neg (by simp)]
 refine wpAny_bind ?_
 rw [aqs,aqs,aqs]
 refine ako S hi (fun e he=>?_) fun hn=>?_
 ·dsimp only
  apply wpAny_bind (m:=setField (.ref I) 0 (rawInt (slotAt w t (i+1))))
  refine wpAny_setField ti rfl (by simp) ?_
  apply wpAny_bind (m:=setField (.ref I) 1 (rawInt ((i:Int)+1)))
  have g1:(s.heap.update I (asM (·.setIfInBounds 0 (rawInt (slotAt w t (i+1)))))).get? I=some (aeP a (slotAt w t (i+1)) i es.size ep):=by
   have:=aqQ (asM (·.setIfInBounds 0 (rawInt (slotAt w t (i+1))))) ti (as6 (asS (o:=aeP a (slotAt w t i) i es.size ep) rfl _))
   rw [this]
   rfl
  refine wpAny_setField g1 rfl (by simp) ?_
  have g2:((s.heap.update I (asM (·.setIfInBounds 0 (rawInt (slotAt w t (i+1)))))).update I (asM (·.setIfInBounds 1 (rawInt ((i:Int)+1))))).get? I=some (aeP a (slotAt w t (i+1)) (i+1) es.size ep):=by
   have:=aqQ (asM (·.setIfInBounds 1 (rawInt ((i:Int)+1)))) g1 (as6 (asS (o:=aeP a (slotAt w t (i+1)) i es.size ep) rfl _))
   rw [this]
   rfl
  exact wpAny_pure ⟨_,rfl,wpAny_pure (q1 e _ he g2 ((ara ..).trans (ara ..)))⟩
 ·dsimp only
  apply wpAny_bind (m:=setField (.ref I) 2 .none)
  refine wpAny_setField ti rfl (by simp) ?_
  apply wpAny_bind (m:=newExc (.type "StopIteration") [])
  simp only [newExc,newTuple]
  apply wpAny_bind
  refine wpAny_newObj_type ?_ (by size_fits)
  apply wpAny_bind (m:=firstArgMember _ _)
  refine wpAny_of_eq (a:=Value.none) rfl ?_
  refine wpAny_newObj_type ?_ (by size_fits)
  simp only [raiseNew]
  apply wpAny_bind
  apply wpAny_handled
  rw [show A.in1.handled=none from hh]
  refine wpAny_bind (wpAny_pure ?_)
  apply wpAny_throw
  apply wpAny_bind
  refine wpAny_isInstance (T:="StopIteration") (b:=true) ⟨_,ap7 _ rfl,rfl⟩ isSubtype_stop ?_
  exact wpAny_pure (q2 hn _ (((ara ..).extBut.push _).push _))
theorem akp {r:Addr} {Q:Bool->Shared->Prop} (hT:s.TypeIs (.ref r) "set") (h:Q false s):wpAny (model P w) A (atu (.ref r)) Q E s:=by
 unfold atu
 refine wpAny_bind (wpAny_specialOf hT PySem.F.slot_set_len.lookup ?_)
 generalize hid:("set.__len__":String)=id0
 wp_delta
 rw [show splitId id0=some ("set","__len__") from by subst hid;decide +kernel]
 subst hid
 refine wpAny_bind (wpAny_isInstance (T:="set") (b:=true) hT sub_set_self ?_)
 refine wpAny_ite_split (fun z=>absurd z (by decide)) fun _=>wpAny_ite_split (fun _=>?_) fun z=>absurd (by decide +kernel) z
 exact wpAny_bind (wpAny_typeOf hT (wpAny_pure h))
theorem akq (hh:A.handled=none) (I:Addr) (ne:a≠I) (ex:o.ExactSet) (da:o.data=.set es ep t) (el:es.toList=xs.map fun x=>(hashInt x.1,Value.int x.1 x.2)) (ok:ST.TOk t (xs.map fun x=>hashInt x.1)) (pl:t.plain=true) (ld:byT w=true \/ t.led=true) :
  Walks P w A I [I,a] [I] es.size (fun i v=>∃ e,(jx w a ep es)[i]?=some e/\v=e.2) (fun i h=>(i<=es.size/\h.get? I=some (aeP a (slotAt w t i) i es.size ep))/\h.get? a=some o) where
 sub:=fun b hb=>by rw [aqj.mp hb];exact apX ..
 frame:=fun i h h' ⟨⟨l,t⟩,g⟩ k=>⟨⟨l,k I (apX ..) _ t⟩,k a (apW _ (apX ..)) o g⟩
 item:=fun i s Q E hi ⟨⟨l,ti⟩,g⟩ q=>aeQ hh ti ⟨g,ex,da,el,ok,pl,ld⟩ l (fun e h' he t' sb=>q e.2 h' s.toks ⟨e,he,rfl⟩ ⟨⟨hi,t'⟩,(sb.2 a ne).trans g⟩ fun b u hb hu=>(sb.2 b fun z=>hb (by rw [z];exact apX ..)).trans hu) fun z=>by
  rw [ark (by rw [aaB];exact hi)] at z
  cases z
 done:=fun s Q E ⟨⟨l,ti⟩,g⟩ q=>aeQ hh ti ⟨g,ex,da,el,ok,pl,ld⟩ l (fun e h' he=>by
  rw [as1 (by rw [aaB];exact apY _)] at he
  cases he) fun _ h' eb=>q h' s.toks fun b u hb hu=>eb b u (fun z=>hb (by rw [z];exact apX ..)) hu
 self:=fun i s Q E st q=>by
  have T:s.TypeIs (.ref I) "set_iterator":=⟨_,st.1.2,rfl⟩
  refine wpAny_pyIter_slot T aeO (wpAny_call_entry aeO T afX ?_ (aik _))
  show wpAny _ _ (ret (.ref I)) _ _ s
  exact wpAny_pure ⟨_,rfl, "set_iterator",_,T,sit_next.lookup,q⟩
theorem al4 (ex:o.ExactSet) (da:o.data=.set es ep t) (el:es.toList=xs.map fun x=>(hashInt x.1,Value.int x.1 x.2)) (ok:ST.TOk t (xs.map fun x=>hashInt x.1)) (pl:t.plain=true) (ld:byT w=true \/ t.led=true) :
  PySem.W.KdlSrc P w "set" a a es.size (fun i v=>∃ e,(jx w a ep es)[i]?=some e/\v=e.2) (fun h=>h.get? a=some o) where
 type:=fun s g=>⟨o,g,ex.1⟩
 there:=fun h g=>⟨ap5 g,ap5 g⟩
 keep:=fun h h' g k=>k a (.inl rfl) o g
 notList:=rfl
 notTuple:=rfl
 hint:=fun A E s Q g q=>akp ⟨o,g,ex.1⟩ q
 iter:=fun A s hh g=>⟨_,_,fun E Q q=>ail (w:=w) ⟨g,ex,da,el,ok,pl,ld⟩ q,akq hh _ (aqp (ap5 g)) ex da el ok pl ld,⟨aqu _,by
  rw [show slotAt w t 0=0 by unfold slotAt;split <;> rfl]
  exact ap7 _ rfl⟩,apV _ g⟩
end
end L2
end
section
namespace L2
open PySem PySem.Spec PyProof.Rows PySem.SetTable
section
variable {P:Program} {w:World} {A:Around} {E:Value->Shared->Prop} {s:Shared} {a:Addr} {xs:List (Int×Tok)} {o:Obj} {es:Array (Int×Value)} {ep:Nat} {t:SetTable}
theorem al5 {h:Int} {hs:List Int} (k:ST.TB t hs) {F:Nat} (hF:ST.First t h F):t.freeSlot h=some (ST.pos t.mask h F,false):=by
 unfold SetTable.freeSlot
 have key:∀ g:Nat->Int,(∀ i,g i≠h)->t.probe g h (t.probeStart h)=some (.empty (ST.pos t.mask h F) none):=fun g hg=>by
  rcases ST.probe_go k.dum k.rise (hashAt:=g) hF (10 * turns t.mask) 0 (aqu _) (by have:=hF.lt;omega) with⟨e,_⟩ | ⟨q,i,_,_,_,_,z,_⟩
  ·exact e
  ·exact absurd z (hg i)
 rw [key _ fun i=>by omega]
 rfl
theorem ISet.elems {h:Heap} (S:ISet w h a xs o es ep t):ElemsOf (intKind P w) es.toList:=fun e he=>by
 rw [S.el] at he
 obtain⟨x,_,rfl⟩:=aqd.mp he
 exact⟨⟨x.1,intKind_is P w x.1 x.2,rfl⟩,rfl⟩
theorem aox {mask wanted:Nat} (el:es.toList=xs.map fun x=>(hashInt x.1,Value.int x.1 x.2)) (tb:ST.TB t (xs.map fun x=>hashInt x.1)) (mk:mask=31 \/ mask=127 \/ mask=511) (hw:aso wanted=mask+1)
  (room:xs.length * 5<mask * 3):∃ (xs':List (Int×Tok)) (es':Array (Int×Value)) (t':SetTable),relayAll t es wanted=(es',t',false)/\xs'.Perm xs/\es'.toList=xs'.map (fun x=>(hashInt x.1,Value.int x.1 x.2))/\ST.TOk t' (xs'.map fun x=>hashInt x.1)/\t'.plain=t.plain/\t'.led=t.led:=by
 have sz:es.size=xs.length:=by rw [<-ap4,el,apP]
 have mk2:mask=7 \/ mask=31 \/ mask=127 \/ mask=511:=.inr mk
 obtain⟨t2,ord,e1,e2,e3,e4,pm,tb2⟩:=ST.laid_ok mk2 (es.map (·.1)) (by rw [asX,sz];omega) t.finger (t.movedTo mask) t.led t.plain
 rw [asX] at pm
 have hlt:∀ i∈ord.toList,i<es.size:=fun i hi=>aqk.mp (pm.mem_iff.mp hi)
 let xs':=ord.toList.map fun i=>xs.getD i (0,0)
 have gd:∀ i,i<xs.length->xs.getD i (0,0)=xs[i]!:=fun i hi=>by
  rw [apR,apO hi]
  simp [hi]
 have px:xs'.Perm xs:=by
  have e:(aqb es.size).map (fun i=>xs.getD i (0,0))=xs:=by
   rw [sz]
   refine aq0 fun i=>?_
   rw [apU]
   by_cases hi:i<xs.length
   ·rw [aqx hi,apO hi]
    simp [hi]
   ·rw [aqc (by simp;omega),aqc (by omega)]
    rfl
  have:=pm.map fun i=>xs.getD i (0,0)
  rw [e] at this
  exact this
 have ee:(ord.filterMap (es[·]?)).toList=xs'.map fun x=>(hashInt x.1,Value.int x.1 x.2):=by
  rw [auc,qh es ord.toList hlt (0,Value.none),aqv]
  refine aqR fun i hi=>?_
  have h3:i<xs.length:=by have:=hlt i hi;omega
  show es.toList.getD i (0,Value.none)=(hashInt (xs.getD i (0,0)).1,Value.int (xs.getD i (0,0)).1 (xs.getD i (0,0)).2)
  rw [el,apR,apU,apR,apO h3]
  rfl
 have es_sz:(ord.filterMap (es[·]?)).size=es.size:=by rw [<-ap4,ee,apP,px.length_eq,sz]
 have tok:ST.TOk t2 (xs'.map fun x=>hashInt x.1):=by
  have eh:(ord.toList.map fun i=>(es.map (·.1)).toList.getD i 0)=xs'.map fun x=>hashInt x.1:=by
   rw [aqv]
   refine aqR fun i hi=>?_
   have h3:i<xs.length:=by have:=hlt i hi;omega
   show (es.map (·.1)).toList.getD i 0=hashInt (xs.getD i (0,0)).1
   rw [at6,el,aqv,apR,apU,apR,apO h3]
   rfl
  rw [eh] at tb2
  exact⟨tb2,by rw [apP,px.length_eq,e2];exact room⟩
 have e1':t.relaid (es.map (·.1)) wanted=some (t2,ord):=by
  unfold SetTable.relaid
  rw [hw]
  exact e1
 have fits:t2.fits (ord.filterMap (es[·]?)).size=true:=by
  have h1:=tok.size
  have h2:=tok.most
  rw [apP,px.length_eq] at h1 h2
  unfold atc asu
  rw [es_sz,sz,h1,tok.dum]
  simpa using h2
 have cov:coversAll ord es.size=true:=by
  unfold coversAll
  exact List.isPerm_iff.mpr pm
 refine⟨xs',ord.filterMap (es[·]?),t2,?_,px,ee,tok,e3,e4⟩
 unfold relayAll
 rw [e1']
 dsimp only
 rw [cov,fits,aq7,if_pos rfl]
theorem al6 {Q:Shared->Prop} {n:Int} {tk:Tok} (S:ISet w s.heap a xs o es ep t) (few:xs.length<300) (old:n∈xs.map (·.1)->Q { s with toks:=s.toks+1 })
  (new:n∉xs.map (·.1)->∀ xs' o' es' ep' t' h',xs'.Perm ((n,tk) :: xs)->arI a s.heap h'->ISet w h' a xs' o' es' ep' t'->Q { s with heap:=h',toks:=s.toks+1 }) :
  wpAny (model P w) A (setAdd a (.int n tk)) (fun _ s'=>Q s') E s:=by
 obtain⟨F,hF⟩:=ST.first_of S.ok.toTB (hashInt n)
 have room:=S.ok.room
 rw [apP] at room
 have is:=intKind_is P w n tk
 have sz:=S.size
 unfold setAdd
 apply wpAny_holding
 apply wpAny_bind
 refine (intKind P w).pyHash is ?_
 show wpAny _ _ (setAddHashed a (.int n tk) (hashInt n)) _ _ _
 unfold setAddHashed setAddHashedIn
 apply wpAny_holding
 apply wpAny_bind
 refine wpAny_setState_of (s:={ s with toks:=s.toks+1 }) S.ob S.da S.fits ?_
 dsimp only
 rw [byScan_of rfl (show es.size<scanBound by unfold scanBound;omega) (S.elems (P:=P)),if_pos rfl]
 unfold setAddByScan
 refine wpAny_bind (wpAny_bind (wpAny_rule (wpAny_bind ?_)))
 refine wpAny_setScan_of (s:={ s with toks:=s.toks+1 }) (knd:=intKind P w) is S.ob S.da S.fits S.elems ?_
 have found:∀ j,es.toList.findIdx? (fun e=>(intKind P w).is n e.2)=some j->n∈xs.map (·.1):=fun j hj=>by
  obtain⟨h1,h2,_⟩:=List.findIdx?_eq_some_iff_getElem.mp hj
  obtain⟨e,hm,h2⟩:∃ e∈es.toList,(intKind P w).is n e.2=true:=⟨_,aqo h1,h2⟩
  rw [S.el] at hm
  obtain⟨x,hx,ex⟩:=aqd.mp hm
  rw [<-ex] at h2
  have:x.1=n:=by
   have:=auD (intKind_is P w x.1 x.2) n
   rw [h2] at this
   exact (of_decide_eq_true this.symm).symm
  exact aqd.mpr ⟨x,hx,this⟩
 cases hr:es.toList.findIdx? (fun e=>(intKind P w).is n e.2) with
 | some j=>exact wpAny_pure (wpAny_pure (old (found j hr)))
 | none =>
  have hd:n∉xs.map (·.1):=fun hm=>by
   obtain⟨x,hx,ex⟩:=aqd.mp hm
   have:=List.findIdx?_eq_none_iff.mp hr (hashInt x.1,Value.int x.1 x.2) (by rw [S.el];exact aqd.mpr ⟨x,hx,rfl⟩)
   have e2:=auD (intKind_is P w x.1 x.2) n
   rw [decide_eq_true ex.symm] at e2
   rw [e2] at this
   cases this
  obtain⟨hp,tb⟩:=ST.put_tb S.ok.toTB hF (by rw [apP];rcases S.ok.mask with e | e | e | e <;> rw [e] at room ⊢ <;> omega)
  rw [apP] at hp
  have pl2:(t.put (ST.pos t.mask (hashInt n) F)).1.plain=true:=S.pl
  have ld2:(t.put (ST.pos t.mask (hashInt n) F)).1.led=t.led:=rfl
  have mk2:(t.put (ST.pos t.mask (hashInt n) F)).1.mask=t.mask:=rfl
  generalize hP:below t.place (ST.pos t.mask (hashInt n) F)=p at *
  have ep2:(t.put (ST.pos t.mask (hashInt n) F)).2=p:=hP
  have pm:(xs.take p++(n,tk) :: xs.drop p).Perm ((n,tk) :: xs):=by
   refine List.perm_middle.trans ?_
   rw [asv]
  have el:(insertAt es p (hashInt n,Value.int n tk)).toList=(xs.take p++(n,tk) :: xs.drop p).map fun x=>(hashInt x.1,Value.int x.1 x.2):=by
   rw [ar5,S.el,aqm,aqf,atX,atd]
  have eh:(xs.map fun x=>hashInt x.1).take p++hashInt n :: (xs.map fun x=>hashInt x.1).drop p=(xs.take p++(n,tk) :: xs.drop p).map fun x=>hashInt x.1:=by
   rw [aqm,aqf,atX,atd]
  rw [eh] at tb
  have ln:(xs.take p++(n,tk) :: xs.drop p).length=xs.length+1:=by rw [pm.length_eq];rfl
  have sze:(insertAt es p (hashInt n,Value.int n tk)).size=xs.length+1:=by rw [<-ap4,el,apP,ln]
  have fits:(t.put (ST.pos t.mask (hashInt n) F)).1.fits (insertAt es p (hashInt n,Value.int n tk)).size=true:=by
   have h1:=tb.size
   have h2:=tb.most
   rw [apP,ln] at h1 h2
   unfold atc asu
   rw [sze,h1,tb.dum]
   simpa using h2
  have lay:layNew t es (hashInt n) (.int n tk)=(insertAt es p (hashInt n,Value.int n tk),(t.put (ST.pos t.mask (hashInt n) F)).1,false,false):=by
   unfold layNew
   rw [al5 S.ok.toTB hF]
   show (insertAt es (t.put (ST.pos t.mask (hashInt n) F)).2 (hashInt n,Value.int n tk),(t.put (ST.pos t.mask (hashInt n) F)).1.orStandIn (insertAt es (t.put (ST.pos t.mask (hashInt n) F)).2 (hashInt n,Value.int n tk)).size,false,!(t.put (ST.pos t.mask (hashInt n) F)).1.fits (insertAt es (t.put (ST.pos t.mask (hashInt n) F)).2 (hashInt n,Value.int n tk)).size)=_
   rw [ep2,fits]
   unfold SetTable.orStandIn
   rw [if_pos fits]
   rfl
  generalize (t.put (ST.pos t.mask (hashInt n) F)).1=t2 at *
  dsimp only
  rw [lay]
  dsimp only
  refine wpAny_bind ?_
  show wpAny _ _ (pure ()) _ _ _
  refine wpAny_pure ?_
  rw [pl2,if_pos rfl]
  refine wpAny_bind ?_
  show wpAny _ _ (pure true) _ _ _
  refine wpAny_pure ?_
  simp only [if_true,arW,aq7]
  refine wpAny_bind (wpAny_storeSet_of (s:={ s with toks:=s.toks+1 }) S.ob S.da ?_ (by rw [sze,sizeLine_eq];omega))
  have g:(s.heap.update a (asp (insertAt es p (hashInt n,Value.int n tk)) t2)).get? a=some { o with data:=.set (insertAt es p (hashInt n,Value.int n tk)) (ep+1) t2 }:=by
   have:=aqQ (asp (insertAt es p (hashInt n,Value.int n tk)) t2) S.ob (by rw [putSet_of _ _ S.da];rfl)
   rw [putSet_of _ _ S.da] at this
   exact this
  have sb:=ara s.heap a (asp (insertAt es p (hashInt n,Value.int n tk)) t2)
  have fill:t2.tooFull=decide ((xs.length+1) * 5 >= t.mask * 3):=by
   unfold SetTable.tooFull asu
   have h1:=tb.size
   rw [apP,ln] at h1
   rw [h1,tb.dum,mk2]
   rfl
  rw [fill]
  by_cases full:(xs.length+1) * 5 >= t.mask * 3
  ·rw [if_pos (decide_eq_true full),sze]
   have:∃ mask,(mask=31 \/ mask=127 \/ mask=511)/\aso (auy (xs.length+1))=mask+1/\(xs.length+1) * 5<mask * 3:=by
    rcases S.ok.mask with e | e | e | e <;> rw [e] at room full
    ·rw [show xs.length=4 by omega]
     exact⟨31,.inl rfl,by decide,by decide⟩
    ·rw [show xs.length=18 by omega]
     exact⟨127,.inr (.inl rfl),by decide,by decide⟩
    ·rw [show xs.length=76 by omega]
     exact⟨511,.inr (.inr rfl),by decide,by decide⟩
    ·omega
   obtain⟨mask,mk,hw,rm⟩:=this
   obtain⟨xs',es',t',er,px,el',tok',pl',ld'⟩:=aox el tb mk hw (by rw [ln];exact rm)
   rw [er]
   refine wpAny_bind ?_
   show wpAny _ _ (pure ()) _ _ _
   refine wpAny_pure ?_
   have sz':es'.size=xs.length+1:=by rw [<-ap4,el',apP,px.length_eq,ln]
   refine wpAny_bind (wpAny_storeSet_of (s:={ s with heap:=s.heap.update a (asp (insertAt es p (hashInt n,Value.int n tk)) t2),toks:=s.toks+1 }) (o:={ o with data:=.set (insertAt es p (hashInt n,Value.int n tk)) (ep+1) t2 }) g rfl ?_ (by rw [sz',sizeLine_eq];omega))
   refine wpAny_pure (wpAny_pure (new hd xs' { o with data:=.set es' (ep+1+1) t' } es' (ep+1+1) t' _ (px.trans pm) (sb.trans (ara ..)) ⟨?_,S.ex,rfl,el',tok',pl'.trans pl2,S.ld.imp id fun z=>ld'.trans (ld2.trans z)⟩))
   have:=aqQ (asp es' t') g (by rw [putSet_of _ _ rfl];rfl)
   rw [putSet_of _ _ rfl] at this
   exact this
  ·rw [if_neg (by rw [decide_eq_false full];exact apQ)]
   refine wpAny_pure (wpAny_pure (new hd _ _ _ _ _ _ pm sb ⟨g,S.ex,rfl,el,⟨tb,?_⟩,pl2,S.ld.imp id fun z=>ld2.trans z⟩))
   rw [apP,ln,mk2]
   omega
end
def jJ (w:World) (h:Heap) (S:Addr) (ns:List Int):Prop:=∃ xs o es ep t,ISet w h S xs o es ep t/\(xs.map (·.1)).Nodup/\(∀ d,d∈xs.map (·.1)↔d∈ns)
section
variable {prog:Program} {w:World} {A:Around} {R:Result->Shared->Prop} {I S:Addr} {fp wr:List Addr} {G:Array GenState->Array GenState->Prop} {n:Nat} {Pv:Nat->Value->Prop} {St:Nat->Shared->Prop} {h0:Heap} {ds:List Int}
theorem aim (W:WalksS prog w A.in1 I fp wr G n Pv St) (hSf:S∉fp) (hI:∀ b∈wr,h0.get? b=none) (hS0:h0.get? S=none) (hn:n=ds.length) (hv:∀ i v,Pv i v->∃ d tk,ds[i]?=some d/\v=.int d tk) (few:∀ us:List Int,us.Nodup->(∀ x∈us,x∈ds)->us.length<300) :
  ∀ (k i:Nat) (s:Shared),i+k=n->St i s->Keeps h0 s.heap->jJ w s.heap S (ds.take i)->(∀ s',Moved (S :: wr) G s s'->Keeps h0 s'.heap->jJ w s'.heap S ds->R (.ok (.ret .none)) s') ->
   codeAny (model prog w) A (.builtin "set.update.loop" ⟨[.ref S,.ref I],[]⟩) R s:=by
 have nw:S∉wr:=fun h=>hSf (W.sub _ h)
 have up:∀ b∈wr,b∈S :: wr:=fun b hb=>apW _ hb
 have kp:∀ {s s':Shared},Moved wr G s s'->Keeps h0 s.heap->Keeps h0 s'.heap:=fun {s s'} m K b o e=>m.heap b o (fun z=>by rw [hI b z] at e;cases e) (K b o e)
 have mv:∀ {s s':Shared} {ds:List Int},Moved wr G s s'->jJ w s.heap S ds->jJ w s'.heap S ds:=fun {s s' ds} m ⟨xs,o,es,ep,t,q,r⟩=>⟨xs,o,es,ep,t,⟨m.heap S _ nw q.ob,q.ex,q.da,q.el,q.ok,q.pl,q.ld⟩,r⟩
 have enter:∀ (s:Shared) (h:wpAny (model prog w) A.in1 (Builtin.«set.update.loop» ⟨[.ref S,.ref I],[]⟩) (fun fin s'=>match fin with | .done f=>R (.ok f) s' | .again c'=>c'.quiet=true/\codeAny (model prog w) A c' R s') (fun e s'=>R (.error e) s') s),codeAny (model prog w) A (.builtin "set.update.loop" ⟨[.ref S,.ref I],[]⟩) R s:=fun s h=>by
  refine codeAny_builtin arO ?_
  rw [ars aqE _]
  exact h
 intro k
 induction k with
 | zero =>
  intro i s hi st K U hR
  refine enter s ?_
  show wpAny _ A.in1 (pyNext (.ref I) >>= _) _ _ s
  obtain rfl:i=n:=hi
  refine wpAny_bind (W.done s _ _ st fun s' m=>wpAny_pure (hR s' (m.mono up) (kp m K) ?_))
  have:=mv m U
  rw [asm (by omega)] at this
  exact this
 | succ k ih =>
  intro i s hi st K U hR
  refine enter s ?_
  show wpAny _ A.in1 (pyNext (.ref I) >>= _) _ _ s
  refine wpAny_bind (W.item i s _ _ (by omega) st fun v s' hP st' m=>?_)
  obtain⟨d,tk,hd,rfl⟩:=hv i v hP
  have K':=kp m K
  obtain⟨xs,o,es,ep,t,q,nd,mm⟩:=mv m U
  have lx:xs.length<300:=by
   have:=few _ nd fun x hx=>atg ((mm x).mp hx)
   rwa [apP] at this
  have tke:ds.take (i+1)=ds.take i++[d]:=by rw [aqZ,hd];rfl
  show wpAny _ A.in1 (holding [Value.int d tk] (setAdd S (.int d tk)) >>= _) _ _ s'
  refine wpAny_bind (wpAny_holding (al6 (Q:=fun s2=>wpAny (model prog w) A.in1 (again (.builtin "set.update.loop" ⟨[.ref S,.ref I],[]⟩)) _ _ s2) q lx (fun hm=>?_) fun hm xs' o' es' ep' t' h' pm sb q'=>?_))
  ·refine wpAny_pure ⟨plainId_quiet aqE _,ih (i+1) _ (by omega) (W.frame _ s' _ _ st' (arG _ _) fun _ _ _ e=>e) K' ⟨xs,o,es,ep,t,q,nd,fun e=>?_⟩ fun s2 m2 K2 U2=>?_⟩
   ·rw [tke,aqh,mm e]
    refine⟨.inl,fun z=>z.elim id fun z=>?_⟩
    rw [aqj.mp z]
    exact (mm d).mp hm
   ·exact hR s2 (auC W.gtrans ((m.mono up).then_heap (arG _ _) fun _ _ _ e=>e) m2) K2 U2
  ·refine wpAny_pure ⟨plainId_quiet aqE _,ih (i+1) _ (by omega) (W.frame _ s' _ _ st' (arG _ _) fun c hc o e=>?_) (fun c o e=>?_) ⟨xs',o',es',ep',t',q',?_,fun e=>?_⟩ fun s2 m2 K2 U2=>?_⟩
   ·exact (sb.2 c fun z:c=S=>hSf (z▸hc)).trans e
   ·exact (sb.2 c fun z:c=S=>by rw [z,hS0] at e;cases e).trans (K' c o e)
   ·rw [(pm.map (·.1)).nodup_iff,aqf]
    exact aqO.mpr ⟨hm,nd⟩
   ·rw [(pm.map (·.1)).mem_iff,aqf,ap0,tke,aqh,mm e,aqj,Or.comm]
   ·exact hR s2 (auC W.gtrans ((m.mono up).then_heap (arG _ _) fun c o hc e=>(sb.2 c fun z:c=S=>hc (z▸apX)).trans e) m2) K2 U2
end
end L2
end
section
namespace L2
open PySem PySem.Spec PyProof.Rows PySem.SetTable PySem.W
section
variable {prog:Program} {w:World} {A:Around} {E:Value->Shared->Prop} {s:Shared}
theorem afZ:isSubtype (.type "list") (.type "set")=pure false:=by rw [isSubtype_type];kernel_rfl
theorem af0:isSubtype (.type "list") (.type "frozenset")=pure false:=by rw [isSubtype_type];kernel_rfl
theorem aa8:∀ {vs:List Value} {ns:List Int},IntsAre vs ns->∀ (i:Nat) (v:Value),vs[i]?=some v->∃ d t,ns[i]?=some d/\v=.int d t
 | _,_,.cons n t h,0,v,e=>by cases e;exact⟨n,t,rfl,rfl⟩
 | _,_,.cons n t h,i+1,v,e=>aa8 h i v e
theorem aab:∀ {vs:List Value} {ns:List Int},IntsAre vs ns->vs.length=ns.length
 | _,_,.nil=>rfl
 | _,_,.cons _ _ h=>by rw [ap8,ap8,aab h]
theorem akr {t:Addr} {items:Array Value} {ds:List Int} {led:Bool} {Q:Value->Shared->Prop} (hh:A.handled=none) (ht:s.heap.IsList t items) (hv:IntsAre items.toList ds) (few:∀ us:List Int,us.Nodup->(∀ x∈us,x∈ds)->us.length<300) (hl:byT w=true \/ led=true)
  (h:∀ h' tk,Keeps s.heap h'->jJ w h' s.heap.objs.size ds->Q .none { s with heap:=h',toks:=tk }) :
  wpAny (model prog w) A.in1 (Builtin.«set.__init__» ⟨[.ref s.heap.objs.size,.ref t],[]⟩) (fun fin s'=>∃ r,fin=.done (.ret r)/\Q r s') E { s with heap:=s.heap.push (jq led) }:=by
 have pS:(s.heap.push (jq led)).get? s.heap.objs.size=some (jq led):=ap7 _ rfl
 have hT:atY { s with heap:=s.heap.push (jq led) } (.ref s.heap.objs.size) "set":=⟨_,pS,rfl⟩
 have t1:(s.heap.push (jq led)).IsList t items:=ht.at fun o e=>apV _ e
 have hn:items.size=ds.length:=by rw [<-ap4];exact aab hv
 obtain⟨oc,go,kc,nl,kd⟩:=t1
 obtain⟨c1,c2,c3,c4⟩:=oc
 simp only at kc kd
 subst kc
 subst kd
 have q1:=afZ
 have q2:=af0
 have q3:(Value.type "list" == Value.type "dict")=false:=by decide
 unfold Builtin.«set.__init__» noKeywords ato
 generalize hP:pyIter=PI
 wp_walk
 subst hP
 refine wpAny_pyIter_list ⟨_,go,rfl,nl,rfl⟩ (wpAny_bind (wpAny_runValue ?_))
 have sz:(s.heap.push (jq led)).objs.size=s.heap.objs.size+1:=aq5 ..
 obtain⟨ot,gt,_⟩:=ht
 have lt:=ap5 gt
 have none_:∀ b,s.heap.objs.size<=b->s.heap.get? b=none:=fun b hb=>by
  cases e:s.heap.get? b with
  | none=>rfl
  | some o=>exact absurd (ap5 e) (atA.mpr hb)
 have pS2:∀ o,((s.heap.push (jq led)).push o).get? s.heap.objs.size=some (jq led):=fun o=>apV _ pS
 refine aim (w:=w) (h0:=s.heap) (ds:=ds) ((auI (by simp [hh]) _ t (by rw [sz];exact aqp (aqP lt)) items).toS) (S:=s.heap.objs.size) ?_ ?_ (none_ _ (apY _)) hn (fun i v e=>aa8 hv i v (by rw [arl];exact e)) few items.size 0 _ (by omega) ⟨⟨_,ap7 _ rfl,rfl,rfl⟩,?_⟩ ?_ ?_ fun s' m K U=>?_
 ·rw [sz]
  simp only [ap0,aqN,or_false,not_or]
  exact⟨aqp (ash _),arJ lt⟩
 ·intro b hb
  rw [aqj.mp hb,sz]
  exact none_ _ (atf _)
 ·exact⟨_,apV _ go,rfl,nl,rfl⟩
 ·exact fun b o e=>apV _ (apV _ e)
 ·exact⟨[],_,_,_,_,⟨pS2 _,⟨rfl,rfl,rfl⟩,rfl,rfl,aax led,rfl,hl⟩,aq6,fun d=>by rw [asA];exact Iff.rfl⟩
 ·obtain⟨h',g',d',tk',os'⟩:=s'
  have e1:g'=s.gens:=m.gens
  have e2:d'=s.drawn:=m.drawn
  have e3:os'=s.os:=m.os
  subst e1
  subst e2
  subst e3
  exact wpAny_pure (wpAny_pure ⟨_,rfl,h h' tk' K U⟩)
theorem aks (a:Value) {Q₁:Value->Shared->Prop} (h:Q₁ (.ref s.heap.objs.size) { s with heap:=s.heap.push (jq (!byT w)) }) :
  codeAny (model prog w) A (.call (.builtin "set.__new__") ⟨[.type "set",a],[]⟩) (wants Q₁ E) s:=by
 apply codeAny_of_tree
 show wpAny _ A.in1 (checkBuiltinCall "set.__new__" ⟨[.type "set",a],[]⟩ >>= fun _=>again (.builtin "set.__new__" ⟨[.type "set",a],[]⟩)) _ _ s
 apply wpAny_bind
 refine wpAny_of_eq (F.newCall_set_1 a) (wpAny_pure ⟨plainId_quiet F.plain_set_new _,codeAny_builtin F.entry_set_new ?_⟩)
 rw [ars F.plain_set_new _]
 have q:=sub_set_self
 unfold Builtin.«set.__new__» Builtin.Frozenset.newClass
 obtain⟨h1,h2,h3,h4,h5⟩:=s
 dsimp only
 wp_walk
 refine wpAny_askSetting (wpAny_pure ?_)
 dsimp only
 unfold newObj
 exact wpAny_bind (wpAny_alloc (wpAny_pure (wpAny_pure h)))
theorem ain {t:Addr} {items:Array Value} {ds:List Int} {Q:Value->Shared->Prop} (hh:A.handled=none) (ht:s.heap.IsList t items) (hv:IntsAre items.toList ds) (few:∀ us:List Int,us.Nodup->(∀ x∈us,x∈ds)->us.length<300)
  (h:∀ h' tk,Keeps s.heap h'->jJ w h' s.heap.objs.size ds->Q (.ref s.heap.objs.size) { s with heap:=h',toks:=tk }) :
  wpAny (model prog w) A (call (.type "set") [.ref t]) Q E s:=by
 obtain⟨c,tl,m1⟩:=aq3.mro
 have m2:=aq3.made
 have m3:=aq3.sub
 have m4:=aq3.notType
 have m5:=aq3.canCreate
 have m6:=F.typeCall_set_1 (.ref t)
 refine wpAny_call (codeAny_of_tree (wpAny_pure ⟨Code.quiet_builtin _ (by decide +kernel),codeAny_builtin F.entry_type_call ?_⟩))
 rw [Around.under_plain (weight_type_call_type "set" [.ref t] []) rfl]
 repeat (any_goals (first | assumption | wp_step))
 refine codeAny_mono (aks (w:=w) (.ref t) (E:=E) (Q₁:=fun v s1=>v=.ref s.heap.objs.size/\s1={ s with heap:=s.heap.push (jq (!byT w)) }) ⟨rfl,rfl⟩) fun r s1 hr=>?_
 have hl:byT w=true \/ (!byT w)=true:=by cases byT w <;> simp
 generalize (!byT w)=led at *
 match r,hr with
 | .error e,hr=>exact hr
 | .ok (.ret v),⟨e1,e2⟩ =>
  subst e1
  subst e2
  have pS:(s.heap.push (jq led)).get? s.heap.objs.size=some (jq led):=ap7 _ rfl
  have hT:atY { s with heap:=s.heap.push (jq led) } (.ref s.heap.objs.size) "set":=⟨_,pS,rfl⟩
  have m7:=aq3.init.lookup
  have m8:=aq3.init.bind (.ref s.heap.objs.size)
  repeat (any_goals (first | assumption | wp_step))
  have hi:=fun (R:Value->Shared->Prop) (hR:∀ h' tk,Keeps s.heap h'->jJ w h' s.heap.objs.size ds->R .none { s with heap:=h',toks:=tk })=>akr (prog:=prog) (w:=w) (A:=A.in1) (E:=E) (led:=led) (Q:=R) (by simp [hh]) ht hv few hl hR
  refine codeAny_mono (codeAny_call_builtin (R:=wants (fun r s2=>r=.none/\∃ h' tk,s2={ s with heap:=h',toks:=tk }/\Keeps s.heap h'/\jJ w h' s.heap.objs.size ds) E) aq3.init.plain F.entry_set_init (check_set_init_1 hT ?_)) fun r2 s2 hr2=>?_
  ·refine wpAny_mono (hi (fun r s2=>r=.none/\∃ h' tk,s2={ s with heap:=h',toks:=tk }/\Keeps s.heap h'/\jJ w h' s.heap.objs.size ds) fun h' tk k u=>⟨rfl,h',tk,rfl,k,u⟩) (fun fin s' z=>?_) fun e s' z=>z
   obtain⟨r,rfl,z⟩:=z
   exact z
  ·match r2,hr2 with
   | .error e,z=>exact z
   | .ok (.ret v),⟨e1,h',tk,e2,k,u⟩ =>
    subst e1
    subst e2
    repeat (any_goals (first | assumption | wp_step))
    exact h _ _ k u
theorem akt {vs:List Value} {ns:List Int} (hi:IntsAre vs ns) (nd:ns.Nodup) (few:ns.length<64):Asks prog w A s oneType' vs fun i j=>decide (ns.getD i 0<ns.getD j 0):=by
 have len:=aab hi
 have at_:∀ i,i<vs.length->∃ t,vs.getD i Value.none=.int (ns.getD i 0) t:=fun i h=>by
  obtain⟨d,t,h1,h2⟩:=aa8 hi i _ (apO h)
  refine⟨t,?_⟩
  rw [apR,apO h,apR,h1]
  exact h2
 have inj:∀ i j,i<vs.length->j<vs.length->i≠j->ns.getD i 0≠ns.getD j 0:=fun i j h1 h2 ne e=>by
  rw [apR,apR,apO (by omega),apO (by omega)] at e
  exact ne ((asB nd).mp e)
 refine⟨fun h2 h' k R q=>?_,fun h' k i j C h1 h2 q=>?_,⟨fun i j h1 h2 ne=>?_,fun i j k _ _ _ h1 h2=>?_⟩,.inl (by omega)⟩
 ·refine wpAny_of_eq (ksk_kind (kz:=ns) (by simpa using hi) (by simpa using h2)) q
 ·obtain⟨t1,e1⟩:=at_ i h1
  obtain⟨t2,e2⟩:=at_ j h2
  show wpAny _ _ (keyLt' oneType' (vs.getD i Value.none) (vs.getD j Value.none)) _ _ _
  rw [e1,e2]
  exact oneLt_int q
 ·have:=inj i j h1 h2 ne
  rw [<-decide_not]
  exact decide_eq_decide.mpr (by omega)
 ·have:=of_decide_eq_true h1
  have:=of_decide_eq_true h2
  exact decide_eq_true (by omega)
theorem ints_map:∀ (l:List (Int×Tok)),IntsAre (l.map fun x=>Value.int x.1 x.2) (l.map (·.1))
 | []=>.nil
 | x :: l=>.cons x.1 x.2 (ints_map l)
theorem af1 {vs us:List Value} {ns:List Int} (p:vs.Perm us) (h:IntsAre us ns):∃ ms,IntsAre vs ms/\ms.Perm ns:=by
 induction p generalizing ns with
 | nil=>cases h;exact⟨[],.nil,.refl _⟩
 | cons x _ ih =>
  cases h with
  | cons n t h' =>
   obtain⟨ms,h1,h2⟩:=ih h'
   exact⟨n :: ms,.cons n t h1,h2.cons n⟩
 | swap x y l =>
  cases h with
  | cons n t h' =>
   cases h' with
   | cons m u h''=>exact⟨m :: n :: _,.cons m u (.cons n t h''),.swap _ _ _⟩
 | trans _ _ ih1 ih2 =>
  obtain⟨ms,h1,h2⟩:=ih2 h
  obtain⟨ls,h3,h4⟩:=ih1 h1
  exact⟨ls,h3,h4.trans h2⟩
theorem abN {a:Addr} {xs:List (Int×Tok)} {o:Obj} {es:Array (Int×Value)} {ep:Nat} {t:SetTable} {Q:Value->Shared->Prop} (hh:A.handled=none) (S:ISet w s.heap a xs o es ep t) (nd:(xs.map (·.1)).Nodup) (few:xs.length<64)
  (q:∀ (h':Heap) tk D c us ns,IntsAre us ns->ns.Perm (xs.map (·.1))->ns.Pairwise (·<·)->(∃ h1:Heap,(∀ b u,s.heap.get? b=some u->h1.get? b=some u)/\h1.objs.size<=D)->(∀ b u,s.heap.get? b=some u->h'.get? b=some u)->h'.get? D=some (seqObj "list" us.toArray c)->Q (.ref D) { s with heap:=h',toks:=tk }) :
  wpAny (model prog w) A (call (.builtin "sorted") [.ref a]) Q E s:=by
 have sz:=S.size
 have hn:es.size<=sizeLine:=by rw [sizeLine_eq];omega
 refine atG kind_sorted plain_sorted entry_sorted (args_sorted1 _) ?_
 unfold Builtin.«sorted»
 apply wpAny_bind (m:=checkCount "sorted" 1 1 _);apply wpAny_pure
 apply wpAny_bind
 refine PySem.W.kdu_collect (A:=A.in1) (al4 (P:=prog) S.ex S.da S.el S.ok S.pl S.ld) hh S.ob hn fun h1 tk acc k1 hacc=>?_
 have ea:acc.toList=(jx w a ep es).toList.map (·.2):=by
  refine aq0 fun i=>?_
  rw [apU,arl,arl]
  by_cases hi:i<acc.size
  ·obtain⟨e,he,hv⟩:=hacc.2 i _ (ark hi)
   rw [ark hi,he,hv]
   rfl
  ·rw [as1 (by omega),as1 (by rw [aaB,<- hacc.1];omega)]
   rfl
 have pw:((jx w a ep es).toList.map (·.2)).Perm (xs.map fun x=>Value.int x.1 x.2):=by
  have:=(acR (w:=w) (a:=a) (ep:=ep) (es:=es)).map (·.2)
  rw [S.el,aqv] at this
  exact this
 obtain⟨ms,im,pms⟩:=af1 pw (ints_map xs)
 rw [ea]
 generalize (jx w a ep es).toList.map (·.2)=vs at *
 have lv:=aab im
 have lm:=pms.length_eq
 rw [apP] at lm
 have hz:vs.length<=sizeLine:=by rw [sizeLine_eq];omega
 let h2':=h1.push (seqObj "list" vs.toArray 0)
 have at2:h2'.get? h1.objs.size=some (seqObj "list" vs.toArray 0):=ap7 _ rfl
 have keep:∀ b u,s.heap.get? b=some u->b≠h1.objs.size/\h2'.get? b=some u:=fun b u eb=>⟨aqp (ap5 (k1 b u eb)),apV _ (k1 b u eb)⟩
 apply wpAny_bind
 refine wpAny_newList ?_ hz
 change wpAny _ _ _ _ _ { s with heap:=h2',toks:=tk }
 apply wpAny_bind
 apply wpAny_holding
 refine wpAny_call_entry slot_list_sort ⟨_,at2,rfl⟩ entry_list_sort ?_ (args_list_sort _)
 have ndm:ms.Nodup:=pms.nodup_iff.mpr nd
 refine agL (s:={ s with heap:=h2',toks:=tk }) hz at2 (h0:=s.heap) keep (akt im ndm (by omega)) fun h' p c x1 x2 x3 x4=>⟨_,rfl,wpAny_pure ⟨_,rfl,?_⟩⟩
 have pick_int:∀ l:List Nat,(∀ i∈l,i<vs.length)->IntsAre (l.map fun i=>vs.getD i Value.none) (l.map fun i=>ms.getD i 0):=fun l=>by
  induction l with
  | nil=>exact fun _=>.nil
  | cons i l ih =>
   intro hl
   have hi:=hl i apX
   obtain⟨d,tt,e1,e2⟩:=aa8 im i _ (apO hi)
   rw [aqf,aqf,apR,apO hi,apR,e1]
   show IntsAre (vs[i] :: _) (d :: _)
   rw [e2]
   exact .cons d tt (ih fun j hj=>hl j (apW _ hj))
 have mem:∀ i∈p.toList,i<vs.length:=fun i hi=>aqk.mp (x1.mem_iff.mp hi)
 have pp:(p.toList.map fun i=>ms.getD i 0).Perm ms:=acJ (d:=0) (xs:=ms) x1 lv
 refine q h' tk _ c _ (p.toList.map fun i=>ms.getD i 0) (pick_int _ mem) (pp.trans pms) ?_ ⟨h1,k1,apY _⟩ (fun b u eb=>x3 b u (keep b u eb).1 (keep b u eb).2) x4
 rw [arb]
 refine arC.mpr fun i j hi hj hij=>?_
 have hs:=x1.size
 rw [ap4] at hi hj
 have:=x2 i j hij (by omega)
 have g:∀ k (hk:k<p.toList.length),p.getD k 0=p.toList[k]:=fun k hk=>by
  rw [jn,apR,apO hk]
  rfl
 rw [g i (by simpa using hi),g j (by simpa using hj)] at this
 exact of_decide_eq_true this
end
def ISetO (w:World) (a:Addr) (ns:List Int):HO:=.ext fun h=>jJ w h a ns
theorem ISetO.ok {P:Program} {w:World} {H:Hp} {h:Heap} {a:Addr} {ns:List Int} (u:jJ w h a ns):ObjOk P w H h a (ISetO w a ns):=by
 refine⟨u,?_,?_⟩
 ·obtain⟨xs,o,es,ep,t,S,_⟩:=u
  exact⟨o,S.ob⟩
 ·rintro h1 h2 ⟨xs,o,es,ep,t,S,r⟩ k
  exact⟨xs,o,es,ep,t,⟨k o S.ob,S.ex,S.da,S.el,S.ok,S.pl,S.ld⟩,r⟩
theorem abO:∀ {us:List Value} {ns:List Int},Vals (ns.map V.int) us->IntsAre us ns
 | _,[],.nil=>.nil
 | _,n :: ns,.cons r t=>by
  obtain⟨tk,rfl⟩:=r
  exact .cons n tk (abO t)
def aku (w:World) (K:apT):List V->Hp->VK->Prop:=fun xs H Q=>∃ p ns,xs=[.ref p]/\SqL K H p (ns.map V.int)/\(∀ us:List Int,us.Nodup->(∀ x∈us,x∈ns)->us.length<300)/\∀ a,H a=none->Q (.ref a) (upd H a (ISetO w a ns))
theorem aio {X:Cx} (hc:X.calm=true):z6 X (.type "set") (aku X.w X.K):=by
 intro pins s σ H xs us Q I r h
 obtain⟨p,ns,rfl,hT,hl,q⟩:=h
 obtain⟨u,rfl,rx⟩:=vals1 r
 cases rx
 obtain⟨its,rv,pl,hz⟩:=I.list hT
 refine ain (ds:=ns) (I.ok.hd hc) pl.isList (abO rv) hl fun h' tk k u=>?_
 exact⟨.ref s.heap.objs.size,_,I.laid (t':=tk) k (apY _) (ISetO.ok u),rfl,q _ (I.hok.fresh (apY _))⟩
theorem af2 {X:Cx} {K:apT} {w:World} (hc:X.calm=true) (hw:X.w=w) (hK:X.K=K):z6 X (.type "set") (aku w K):=hw▸hK▸aio hc
def af3 (w:World):List V->Hp->VK->Prop:=fun xs H Q=>∃ a ns,xs=[.ref a]/\H a=some (ISetO w a ns)/\(∀ us:List Int,us.Nodup->(∀ x∈us,x∈ns)->us.length<64)/\∀ l (ms:List Int),H l=none->ms.Pairwise (·<·)->(∀ d,d∈ms↔d∈ns)->Q (.ref l) (upd H l (.lst (ms.map V.int)))
theorem af4 {X:Cx} (hc:X.calm=true):z6 X (.builtin "sorted") (af3 X.w):=by
 intro pins s σ H xs us Q I r h
 obtain⟨a,ns,rfl,hS,few,q⟩:=h
 obtain⟨u,rfl,rx⟩:=vals1 r
 cases rx
 obtain⟨⟨zs,o,es,ep,t,S,nd,mm⟩,_⟩:=I.hok a _ hS
 have lz:zs.length<64:=by
  have:=few _ nd fun x hx=>(mm x).mp hx
  rwa [apP] at this
 refine abN (I.ok.hd hc) S nd lz fun h' tk D c us ms im pm pw x3 x4 x5=>?_
 obtain⟨h1,k1,l1⟩:=x3
 have hD:H D=none:=(I.hok.kept k1).fresh l1
 have x3:∀ b u,s.heap.get? b=some u->b≠D:=fun b u e=>aqp (aqq (ap5 (k1 b u e)) l1)
 have lm:=pm.length_eq
 rw [apP] at lm
 obtain⟨m,hm,_⟩:=I.loc
 refine⟨.ref D,upd H D (.lst (ms.map V.int)),I.laidL (t':=tk) (fun b u _ e=>x4 b u e) ?_ (fun m hm=>hm.keeps x4) x3 hD ⟨by rw [apP];exact arv (yc (by omega)),_,c,aal im,x5⟩,rfl,q D ms hD pw fun d=>?_⟩
 ·obtain⟨o2,g2⟩:∃ o2,s.heap.get? X.env.locals=some o2:=let⟨u,_,_,hu,_⟩:=hm;⟨u,hu⟩
  exact⟨o2,x4 _ _ g2⟩
 ·rw [pm.mem_iff]
  exact mm d
theorem aeR {X:Cx} {w:World} (hc:X.calm=true) (hw:X.w=w):z6 X (.builtin "sorted") (af3 w):=hw▸af4 hc
theorem aaC {K:apT} {H:Hp}:∀ ns:List Int,Reps K H (ns.map .int) (ns.map V.int)
 | []=>.nil'
 | n :: ns=>.cons' (rep_int.mpr rfl) (aaC ns)
theorem acS {K:apT} {H:Hp}:∀ {ns:List Int} {vs:List V},Reps K H (ns.map .int) vs->vs=ns.map V.int
 | [],vs,r=>reps_nil.mp r
 | n :: ns,vs,r=>by
  obtain⟨x,xs,rfl,r1,r2⟩:=reps_cons.mp r
  rw [rep_int.mp r1,acS r2,aqf]
theorem af5 {w:World} {K:apT} {f:Fx} {ρ:zw} {te:TE} {P:PyData->Prop} (h:PEd K f te ρ fun d=>∃ ns:List Int,d=.list (ns.map .int)/\(∀ us:List Int,us.Nodup->(∀ x∈us,x∈ns)->us.length<64)/\∀ ms:List Int,ms.Pairwise (·<·)->(∀ d,d∈ms↔d∈ns)->P (.list (ms.map .int))) :
  PEd K f (tCB (af3 w) (zV (tCB (aku w K) (zV te yQ)) yQ)) ρ P:=fun σ H Q e q =>
 h σ H _ e fun d v H1 g1 r1 ⟨ns,ed,few,p⟩=>by
  subst ed
  obtain⟨a,ys,rfl,hT,rs⟩:=rep_list.mp (Rep.mono (zj H1 f) _ _ r1)
  rw [acS rs] at hT
  refine⟨a,ns,rfl,hT,fun us nd hs=>asD (few us nd hs) (by decide),fun b hn=>?_⟩
  have g2:Goes f H1 (upd H1 b (ISetO w b ns)):=.of_same (z4 hn _) g1.2
  refine⟨b,ns,rfl,zB,few,fun l ms hl pw mm=>?_⟩
  have g3:Goes f (upd H1 b (ISetO w b ns)) (upd (upd H1 b (ISetO w b ns)) l (.lst (ms.map V.int))):=.of_same (z4 hl _) g2.2
  exact q _ _ _ (g1.trans (g2.trans g3)) (rep_list.mpr ⟨l,_,rfl,.of (zz (fresh_ne g2.2 hl) zB),aaC ms⟩) (p ms pw mm)
section
variable {K:apT} {f:Fx} {a:Addr} {as:List Addr} {ρ:zw} {rows:List (List Int)} {R:Option (List (List Int))} {O:zw->Option (List (List Int))->Prop} {ts tu:TS} {tt:TT} {te ty tx:TE} {wi:TI} {g:TG} {i j:Nat}
theorem aoy (hi:ρ[i]?=some (some (.own f.M.length)))
  (h:PEd K f te ((ρ.map (yK f.M.length)).set i (some (.dat (aaA rows)))) fun d=>∃ v:Int,d=.int v/\PEd K (f.withs (a :: as)) ty ρ fun y=>∃ (k:Int) (r:Nat),y=.int k/\ixN rows.length k=some r/\∃ row,rows[r]?=some row/\PEd K (f.withs (a :: as)) tx ρ fun x=>∃ c:Nat,x=.int c/\c<row.length/\O ρ (some (rows.set r (row.set c v)))) :
  PSu K f a as (jE te (ac9 (tOp (adg K) (yr i) ty) tx aaG)) ρ (some rows) O:=fun se σ H H2 E x n =>
 h σ H _ (x.read se hi) fun d v H1 g0 r1 ⟨vi,ed,h2⟩=>by
  subst ed
  rw [rep_int.mp r1]
  have g1:=x.beside se g0
  have x1:=x.go g1 (x.env.mono g1)
  refine⟨.ref a,x1.at hi,h2 σ H1 _ x1.env fun y u H3 g3 r3 ⟨k,r,ey,hk,row,hr,h4⟩=>?_⟩
  subst ey
  rw [rep_int.mp r3]
  have x3:=x1.go g3 (x1.env.mono g3)
  have t3:=x3.tab rows rfl
  have hlt:r<as.length:=by rw [t3.len];exact (apS.mp hr).1
  have ha:as[r]?=some as[r]:=apO hlt
  have hat:atI (as.map V.ref) k=some (.ref as[r]):=by
   unfold atI
   rw [apP,t3.len,hk]
   show (as.map V.ref)[r]?=_
   rw [apU,ha]
   rfl
  refine⟨a,as.map .ref,k,.ref as[r],rfl,rfl,.of t3.top,hat,?_⟩
  refine h4 σ H3 _ x3.env fun z u' H5 g5 r5 ⟨c,ez,hc,ho⟩=>?_
  subst ez
  rw [rep_int.mp r5]
  have x5:=x3.go g5 (x3.env.mono g5)
  refine⟨as[r],row.map .int,(c:Int),c,rfl,rfl,(x5.tab rows rfl).row r _ row ha hr,anJ rfl (by rw [apP];exact hc),?_⟩
  have x6:=x5.turn (row':=row.set c vi) se hr hlt
  rw [List.map_set] at x6
  exact n ρ _ σ _ x6 ho
theorem TN.self {H H2:Hp} {σ:St} (x:TN K f a as H2 ρ R σ H):TN K f a as H ρ R σ H:=⟨x.env,Same.refl _,fun _ _=>rfl,x.tab⟩
theorem TN.trans {ρ':zw} {R':Option (List (List Int))} {H H' H2:Hp} {σ σ':St} (x:TN K f a as H2 ρ R σ H) (y:TN K f a as H ρ' R' σ' H'):TN K f a as H2 ρ' R' σ' H':=⟨y.env,x.sm.trans y.sm,fun b hb=>(y.kp b hb).trans (x.kp b hb),y.tab⟩
theorem apo (h:PId K (f.withs (a :: as)) wi ρ fun ds=>∃ J:Nat->zw->Option (List (List Int))->Prop,J 0 ρ R /\
   (∀ (i:Nat) d ρ' R',ds[i]?=some d->J i ρ' R'->PGd K (f.withs (a :: as)) g d ρ' fun ρ2=>PSu K f a as ts ρ2 R' (J (i+1)))/\∀ ρ' R',J ds.length ρ' R'->O ρ' R') :
  PSu K f a as (ahF wi g ts) ρ R O:=fun se σ H H2 E x n=>h σ H _ x.env fun ds J H1 g1 it ⟨Jv,j0,js,jd⟩=>by
 have x1:=x.go g1 (x.env.mono g1)
 refine⟨fun i m σ' H'=>∃ ρ' cs',TN K f a as H2 ρ' cs' σ' H'/\Same (hide H1 (f.withs (a :: as))) (hide H' (f.withs (a :: as)))/\Jv i ρ' cs'/\m+i=ds.length,⟨ds.length,ρ,R,x1,Same.refl _,j0,rfl⟩,fun i m σ' H' ⟨ρ',cs',x',sm',p,hm⟩=>?_⟩
 by_cases hi:i<ds.length
 ·obtain⟨hgo,hy⟩:=it.go (f.withs (a :: as)) H' i _ x'.env.fd sm' (apO hi)
  refine .inr ⟨hgo,fun σ2 H3=>∃ ρ2 cs2,TN K f a as H2 ρ2 cs2 σ2 H3/\Same (hide H1 (f.withs (a :: as))) (hide H3 (f.withs (a :: as)))/\Jv (i+1) ρ2 cs2,fun σ2 H3 ⟨ρ2,cs2,e2,g2,p2⟩=>⟨m - 1,by omega,ρ2,cs2,e2,g2,p2,by omega⟩,fun v H3 hx=>?_⟩
  obtain⟨g3,r3⟩:=hy v H3 hx
  have x3:=x'.go g3 (x'.env.mono g3)
  refine js i _ ρ' cs' (apO hi) p σ' H3 v _ x3.env r3 fun ρ2 σ2 H4 g4 e4 p4=>?_
  have x4:=x3.go g4 e4
  have sm4:=(sm'.trans g3.sm).trans g4.sm
  exact p4 se σ2 H4 H4 _ x4.self fun ρ5 cs5 σ5 H5 x5 p5=>⟨ρ5,cs5,x4.trans x5,sm4.trans x5.sm,p5⟩
 ·have ei:i=ds.length:=by omega
  subst ei
  exact .inl ⟨it.st (f.withs (a :: as)) H' x'.env.fd sm',n ρ' cs' σ' H' x' (jd ρ' cs' p)⟩
theorem aoz (hi:ρ[i]?=some (some (.own f.M.length))) (hj:i≠j)
  (h:∀ (k:Nat) row,rows[k]?=some row->PTd K f tt ((ρ.map (yK f.M.length)).set j (some (.dat (.list (row.map .int))))) fun b=>b=false) (ho:O (ρ.set j none) (some rows)) :
  PSu K f a as (ahF (acv K (yr i)) (yJ j) (aed tt ts acu)) ρ (some rows) O:=fun se σ H H2 E x n=>by
 have t0:=x.tab rows rfl
 have len:=t0.len
 refine⟨.ref a,x.at hi,a,rfl,⟨_,.of t0.top⟩,?_⟩
 have free:∀ {H':Hp} {σ':St},TN K f a as H2 (ρ.set j none) (some rows) σ' H'->EnvOk K f ((ρ.set j none).map (yK f.M.length)) σ' H':=fun y=>y.out
 refine⟨fun k m σ' H'=>(TN K f a as H2 ρ (some rows) σ' H' \/ TN K f a as H2 (ρ.set j none) (some rows) σ' H')/\m+k=rows.length,⟨rows.length,.inl x,rfl⟩,fun k m σ' H' ⟨y0,hm⟩=>?_⟩
 have drop:∀ {ρ0:zw} {σ1:St},TN K f a as H2 ρ0 (some rows) σ1 H'->∀ v,TN K f a as H2 (ρ0.set j none) (some rows) (σ1.set j (some v)) H':=fun {ρ0 σ1} z v=>⟨⟨by rw [aqK,aqK];exact z.env.len,fun q u hq=>by
   by_cases e:j=q
   ·subst e
    rw [as0,if_pos rfl] at hq
    split at hq <;> cases hq
   ·rw [aqH e] at hq
    rw [aqH e]
    exact z.env.get q u hq,z.env.fd⟩,z.sm,z.kp,z.tab⟩
 have dropS:∀ {ρ0:zw} {σ1:St},TN K f a as H2 ρ0 (some rows) σ1 H'->TN K f a as H2 (ρ0.set j none) (some rows) σ1 H':=fun {ρ0 σ1} z=>⟨⟨by rw [aqK];exact z.env.len,fun q u hq=>by
   by_cases e:j=q
   ·subst e
    rw [as0,if_pos rfl] at hq
    split at hq <;> cases hq
   ·rw [aqH e] at hq
    exact z.env.get q u hq,z.env.fd⟩,z.sm,z.kp,z.tab⟩
 have y:TN K f a as H2 (ρ.set j none) (some rows) σ' H':=by
  rcases y0 with z | z
  ·exact dropS z
  ·exact z
 have ty:=y.tab rows rfl
 by_cases hk:k<rows.length
 ·have ha:as[k]?=some as[k]:=apO (by omega)
  have hr:rows[k]?=some rows[k]:=apO hk
  refine .inr ⟨⟨as.map .ref,.ref as[k],.of ty.top,by rw [apU,ha];rfl⟩,fun σ2 H3=>TN K f a as H2 (ρ.set j none) (some rows) σ2 H3,fun σ2 H3 z=>⟨m - 1,by omega,.inr z,by omega⟩,fun v H3 hv=>?_⟩
  obtain⟨rfl,hv⟩:=hv
  have ev:=hv _ (.of ty.top)
  rw [apU,ha] at ev
  cases ev
  have rr:Rep K (hide H3 f) (.list (rows[k].map .int)) (.ref as[k]):=by
   refine rep_list.mpr ⟨as[k],rows[k].map .int,rfl,.of (zz (adN se _ (apW _ (apZ ha))) (ty.row k _ _ ha hr)),aaC _⟩
  have e1:EnvOk K f ((ρ.map (yK f.M.length)).set j (some (.dat (.list (rows[k].map .int))))) (σ'.set j (some (.ref as[k]))) H3:=by
   have e0:=(free y).set j (x:=.dat (.list (rows[k].map .int))) rr
   refine⟨by rw [aqK,apP];have:=e0.len;rw [aqK,apP,aqK] at this;exact this,fun q u hq=>?_,e0.fd⟩
   refine e0.get q u ?_
   by_cases e:j=q
   ·subst e
    rw [as0,if_pos rfl] at hq ⊢
    rw [apP,aqK]
    rw [apP] at hq
    exact hq
   ·rw [aqH e] at hq ⊢
    rw [apU] at hq ⊢
    rw [aqH e]
    exact hq
  refine h k _ hr _ H3 _ e1 fun b H4 g4 eb=>?_
  subst eb
  rw [if_neg apQ]
  have z1:=drop y (.ref as[k])
  rw [List.set_set] at z1
  have g5:=z1.beside se g4
  exact z1.go g5 (z1.env.mono g5)
 ·have:k=rows.length:=by omega
  subst this
  exact .inl ⟨⟨as.map .ref,.of ty.top,by rw [apP,len];exact apY _⟩,n _ _ σ' H' y ho⟩
end
section
variable {K:apT} {f:Fx} {ρ:zw} {E:XK} {te:TE} {ts:TS} {RT:List (List Int)->Prop} {RD:PyData->Prop} {Z:Value->XD->Prop} {i:Nat}
theorem aoA (h:aji K f te ρ fun rows=>i<ρ.length/\∀ a as,PSu K f a as ts (ρ.set i (some (.own f.M.length))) (some rows) fun ρ' R'=>∃ rows',R'=some rows'/\ρ'[i]?=some (some (.own f.M.length))/\RT rows') :
  PSg K f E (qf (jE te (yJ i)) (qf ts (aec (yr i)))) ρ RT RD Z:=fun σ H N e nt nd z =>
 h σ H _ e fun rows a as H1 g1 na nas t1 ⟨hi,p⟩=>by
  have hn:∀ D∈a :: as,H D=none:=fun D hD=>(ap0.mp hD).elim (fun z=>z▸na) (nas D)
  have nf:∀ D∈a :: as,¬ (f.f=some D \/ D∈f.M):=fun D hD=>fresh_ne e.fd (hn D hD)
  have se:Sep f (a :: as):=⟨t1.nd,fun D hD z=>nf D hD (.inl z),fun D hD z=>nf D hD (.inr z)⟩
  have sm1:=aaz (Ds:=a :: as) g1.sm hn
  have there:∀ D∈a :: as,∃ o,H1 D=some o:=fun D hD=>by
   rcases ap0.mp hD with rfl | h
   ·exact⟨_,t1.top⟩
   ·obtain⟨j,hj⟩:=aql h
    exact⟨_,t1.row j D _ hj (apO (by rw [<-t1.len];exact (apS.mp hj).1))⟩
  have fo1:FOk (f.withs (a :: as)) H1:=⟨g1.ok.fd,fun b hb=>(aqh.mp hb).elim (fun h=>there b (aqF.mp h)) (g1.ok.mm b),fun q eq hq=>(aqh.mp hq).elim (fun h=>nf q (aqF.mp h) (.inl eq)) (g1.ok.nm q eq)⟩
  have e1:EnvOk K (f.withs (a :: as)) ρ σ H1:=⟨e.len,fun q y hy=>by
   obtain⟨v,a1,a2⟩:=e.get q y hy
   refine⟨v,a1,?_⟩
   cases y with
   | dat d=>exact Rep.mono sm1 d v a2
   | feed=>exact a2
   | exc C=>obtain⟨b,h3,h4⟩:=a2;exact⟨b,h3,sm1 _ _ h4⟩
   | mon φ=>exact fun H' s=>a2 H' (sm1.trans s)
   | own k =>
    obtain⟨b,h3,h4⟩:=a2
    exact⟨b,by rw [yZ,ap1 (apS.mp h3).1];exact h3,h4⟩,fo1⟩
  have rv:RepV K (f.withs (a :: as)) H1 (.own f.M.length) (.ref a):=⟨a,by rw [yZ,ap2 (by simp)];simp,rfl⟩
  refine p a as se _ H1 H1 _ ⟨e1.set i rv,Same.refl _,fun _ _=>rfl,fun rows' z=>by cases z;exact t1⟩ fun ρ' R' σ' H' x ⟨rows',eR,ho,q⟩=>?_
  subst eR
  refine⟨.ref a,x.at ho,nt rows' a as H' ⟨(sm1.trans x.sm).trans same_withs,x.fok,fun b hb=>(x.kp b hb).trans (g1.kp b hb)⟩ na nas (x.tab rows' rfl) q⟩
end
theorem aip {X:Cx} {K:apT} {o e:Expr} {es:List Expr} {to:TE} {t:TA} {apos cpos:Pos} (hK:X.K=K) (hu:X.A.units+64<cLine) (ho:PE X o to) (ha:PA X (e :: es) t)
  (hb:attributeBase o "index" X.env (eval o X.env)=eval o X.env)
  (hf:((backTo cpos (starEach (e :: es) X.env)).all (fun x=>!x.1) && (backToKw cpos (keywordEach [] X.env)).all (fun x=>x.1.isSome) && decide ((e :: es).length+([]:List Keyword).length+(if ([]:List Keyword).isEmpty then 0 else 1)<30))=true)
  (hl:(apos.endLine == cpos.line)=true) (hs:starEach (e :: es) X.env=(false,eval e X.env) :: starEach es X.env) (hp:(backTo cpos (starEach es X.env)).any (·.1)=false) :
  PE X (.Call (.Attribute o "index" apos) (e :: es) [] cpos) (tBM K "list" (adM K) to t):=by
 subst hK
 exact acA ard PySem.F.slot_list_index PySem.F.type_list_index (ah6 hu) ho ha hb hf hl hs hp
end L2
end
section
namespace My
open PySem PySem.Spec PyProof.Rows L2
abbrev pf:List Str:=["rows","cut","gate"]
abbrev ph:List Str:=["rows","cut","path"]
abbrev pj:List Str:=["rows","cut","cell"]
abbrev pq:List Str:=["rows"]
abbrev pz:List Str:=["rows","x","y"]
abbrev pA:List Str:=["rows","cut"]
abbrev pB:List Str:=["w","h","some"]
abbrev pC:List Str:=["cell"]
abbrev pD:List Str:=["gate","rows","cut"]
abbrev pE:List Str:=["things"]
abbrev pF:List Str:=["rows","cut","point"]
abbrev pG:List Str:=["x","y","passed"]
abbrev pH:List Str:=["x","y"]
abbrev pI:List Str:=["rows","gate"]
abbrev pJ:List Str:=["line","seen"]
abbrev pK:List Str:=["w","h"]
abbrev pL:List Str:=["_law_feed_here","_law_many"]
abbrev pM:List Str:=["rows","cut","some"]
abbrev pN:List Str:=["rows","cut","line"]
abbrev pO:List Str:=["w","h","base","cuts"]
abbrev pP:List Str:=["rows","cut","start"]
abbrev pQ:List Str:=["_law_script","_law_k"]
abbrev pR:List Str:=["_law_feed_here"]
abbrev pU:List Str:=["_law_feed_here","_law_some"]
abbrev pV:List Str:=["_law_script"]
abbrev pW:List Str:=["x","y","way"]
abbrev pX:List Str:=["word","path","gate"]
abbrev pY:List Str:=["gate","after","rows","cut"]
abbrev pZ:List Str:=["rows","cut","gate","across","down"]
abbrev qa:List Str:=["_law_y","_law_feed_here","_law_wide","_law_far"]
abbrev qb:List Str:=["_law_x","_law_feed_here","_law_far"]
abbrev qc:List Str:=["_law_height","_law_base","_law_there"]
abbrev qd:List Str:=["_law_cut","_law_feed_here","_law_rows"]
local macro_rules | `(tactic| walk_at "w")=>`(tactic| repeat walk_at "dl")
local macro_rules | `(tactic| walk_at "s")=>`(tactic| exact⟨rfl,rfl,rfl,by decide +kernel,rfl,by decide +kernel,by decide +kernel⟩)
def top (i:Nat):Stmt:=PySem.Challenge.pw_heightrings_k70_told_back.main.body.getD i (.Pass ⟨0,0,0,0⟩)
abbrev adS:=top 5
abbrev aoB:List Str:=pq
theorem al7:FnScope aoB pq (zr adS):=by walk_at "s"
abbrev aac:=top 6
abbrev akv:List Str:=["rows","wide","tall"]
theorem sc_points:FnScope akv pq (zr aac):=by walk_at "s"
abbrev jU:=top 7
abbrev aeS:List Str:=["rows","x","y","wide","tall"]
theorem sc_has_point:FnScope aeS pz (zr jU):=by walk_at "s"
abbrev qE:=top 8
abbrev af6:List Str:=pz
theorem aeT:FnScope af6 pz (zr qE):=by walk_at "s"
abbrev vt:=top 9
abbrev aiq:List Str:=pH
theorem af7:FnScope aiq pH (zr vt):=by walk_at "s"
abbrev jV:=top 15
abbrev aeU:List Str:=["rows","at","row"]
theorem sc_ask_table:FnScope aeU pq (zr jV):=by walk_at "s"
abbrev adT:=top 16
abbrev aoC:List Str:=pE
theorem al8:FnScope aoC pE (zr adT):=by walk_at "s"
abbrev aad:=top 17
abbrev akw:List Str:=["row"]
theorem air:FnScope akw ["row"] (zr aad):=by walk_at "s"
abbrev aa9:=top 21
abbrev al9:List Str:=["rows","cut","sides"]
theorem sc_gates:FnScope al9 pA (zr aa9):=by walk_at "s"
abbrev jc:=top 22
abbrev aci:List Str:=["rows","cut","point","x","y"]
theorem sc_stands_high:FnScope aci pF (zr jc):=by walk_at "s"
abbrev je:=top 23
abbrev acj:List Str:=["gate","x","y","way"]
theorem sc_gate_points:FnScope acj ["gate"] (zr je):=by walk_at "s"
abbrev qG:=top 24
abbrev af8:List Str:=pI
theorem aeV:FnScope af8 pI (zr qG):=by walk_at "s"
abbrev vw:=top 25
abbrev ais:List Str:=["rows","cut","gate","first","second"]
theorem sc_is_open:FnScope ais pf (zr vw):=by walk_at "s"
abbrev jA:=top 26
abbrev adU:List Str:=["cell","x","y"]
theorem sc_cell_gates:FnScope adU pC (zr jA):=by walk_at "s"
abbrev jB:=top 27
abbrev adV:List Str:=pj
theorem ack:FnScope adV pj (zr jB):=by walk_at "s"
abbrev yL:=top 28
abbrev aae:List Str:=["rows","cut","cell","x","y"]
theorem sc_has_high_middle:FnScope aae pj (zr yL):=by walk_at "s"
abbrev jW:=top 29
abbrev aeW:List Str:=["rows","cut","cell","through"]
theorem sc_cell_ties:FnScope aeW pj (zr jW):=by walk_at "s"
abbrev y8:=top 30
abbrev abP:List Str:=["rows","cut","cell","above","left","below","right"]
theorem sc_crossed_ties:FnScope abP pj (zr y8):=by walk_at "s"
abbrev vy:=top 31
abbrev ait:List Str:=["rows","cut","gate","x","y","way","near_is_high"]
theorem sc_heading:FnScope ait pf (zr vy):=by walk_at "s"
abbrev jC:=top 32
abbrev adW:List Str:=pZ
theorem sc_cell_ahead:FnScope adW pf (zr jC):=by walk_at "s"
abbrev qH:=top 33
abbrev af9:List Str:=pZ
theorem sc_comes_in:FnScope af9 pf (zr qH):=by walk_at "s"
abbrev jD:=top 34
abbrev adX:List Str:=["rows","cut","gate","x","y","partners","one","other"]
theorem sc_gate_ahead:FnScope adX pf (zr jD):=by walk_at "s"
abbrev jf:=top 36
abbrev acm:List Str:=["rows","cut","some","seen","at","line","gate"]
theorem sc_first_wrong:FnScope acm pM (zr jf):=by walk_at "s"
abbrev jh:=top 37
abbrev acn:List Str:=pJ
theorem abQ:FnScope acn pJ (zr jh):=by walk_at "s"
abbrev vz:=top 38
abbrev aiu:List Str:=["rows","cut","line","word","path"]
theorem sc_is_line:FnScope aiu pN (zr vz):=by walk_at "s"
abbrev qI:=top 39
abbrev aga:List Str:=["rows","cut","path","gate"]
theorem sc_all_open:FnScope aga ph (zr qI):=by walk_at "s"
abbrev vA:=top 40
abbrev aiv:List Str:=ph
theorem agb:FnScope aiv ph (zr vA):=by walk_at "s"
abbrev jX:=top 41
abbrev aeX:List Str:=ph
theorem adY:FnScope aeX ph (zr jX):=by walk_at "s"
abbrev ym:=top 42
abbrev qJ:List Str:=ph
theorem qs:FnScope qJ ph (zr ym):=by walk_at "s"
abbrev jY:=top 44
abbrev aeY:List Str:=["w","h","base","cuts","highs","rows","k","some"]
theorem sc_told_back:FnScope aeY pO (zr jY):=by walk_at "s"
abbrev vB:=top 45
abbrev aiw:List Str:=pK
theorem agc:FnScope aiw pK (zr vB):=by walk_at "s"
abbrev ji:=top 46
abbrev aco:List Str:=["w","h","some","unlike","word","path"]
theorem sc_high_points:FnScope aco pB (zr ji):=by walk_at "s"
abbrev yW:=top 47
abbrev aaW:List Str:=["w","h","some","passed"]
theorem sc_unlike_points:FnScope aaW pB (zr yW):=by walk_at "s"
abbrev yH:=top 48
abbrev vU:List Str:=["x","y","passed","way"]
theorem sc_gates_on_the_way:FnScope vU pG (zr yH):=by walk_at "s"
abbrev aba:=top 50
abbrev ama:List Str:=["rows","cut","through","starts","told","passed","start","line","gate"]
theorem sc_lines:FnScope ama pA (zr aba):=by walk_at "s"
abbrev jZ:=top 51
abbrev aeZ:List Str:=["rows","cut","start","path","gate"]
theorem sc_line_from:FnScope aeZ pP (zr jZ):=by walk_at "s"
abbrev qK:=top 53
abbrev vV:List Str:=["_law_script","_law_k","_law_cell"]
theorem sc_law_feed:FnScope vV pQ (zr qK):=by walk_at "s"
abbrev qL:=top 54
abbrev agd:List Str:=["_law_feed_here","_law_many","_law_found"]
theorem sc_law_draw:FnScope agd pL (zr qL):=by walk_at "s"
abbrev j7:=top 55
abbrev ae0:List Str:=["_law_feed_here","_law_wide","_law_high","_law_far","_law_base","_law_rows","_law_there","_law_row"]
theorem sc_law_table:FnScope ae0 pR (zr j7):=by walk_at "s"
abbrev j8:=top 56
abbrev ae1:List Str:=["_law_feed_here","_law_some","_law_left","_law_found"]
theorem sc_law_order:FnScope ae1 pU (zr j8):=by walk_at "s"
abbrev aaQ:=top 57
abbrev ahb:List Str:=["_law_script","_law_k","_law_feed_here","_law_rows","_law_least","_law_most","_law_cuts","_law_handed","_law_found","_law_row"]
theorem sc_law:FnScope ahb pV (zr aaQ):=by walk_at "s"
def tab (rows:List (List Int)):PyData:=.list (rows.map fun r=>.list (r.map .int))
structure Good (w:Nat) (rows:List (List Int)):Prop where
 h1:2<=rows.length
 h2:rows.length<=7
 w1:2<=w
 w2:w<=7
 row:∀ r∈rows,r.length=w
 hgt:∀ r∈rows,∀ n∈r,-1000000000<=n/\n<=1000000000
theorem Good.ne {w:Nat} {rows:List (List Int)} (g:Good w rows):∃ r rs,rows=r :: rs:=by
 cases rows with
 | nil=>have:=g.h1;simp at this
 | cons r rs=>exact⟨r,rs,rfl⟩
theorem qM {α β:Type} {F:α->β} {xs:List α} {k:Int} {j:Nat} (hk:(j:Int)=k) (h:j<xs.length):atI (xs.map F) k=some (F xs[j]):=by
 subst hk
 exact jO (by rw [apU,apO h];rfl)
local macro_rules | `(tactic| walk_at "dl")=>`(tactic| first
 | (with_reducible show PSd _ _ (jE _ (ac9 (yr _) (tC (V.int 0)) aaG)) _ _;refine agE rfl ?_)
 | (with_reducible show PSd _ _ (jE _ (ac9 (yr _) (tC (V.int 1)) aaG)) _ _;refine agF rfl ?_)
 | with_reducible refine yn ?_ | with_reducible refine ach ?_ | with_reducible refine yu ?_ | with_reducible refine yo ?_ | with_reducible refine abn ?_ | with_reducible refine qm ?_
 | with_reducible refine zu ?_ | with_reducible refine jl rfl ?_ | with_reducible refine zG ?_ | with_reducible refine yG ?_
 | with_reducible refine yw ?_ | with_reducible refine t_b ?_ | with_reducible refine ai9 ?_ | with_reducible refine abm ?_ | with_reducible refine jR ?_ | with_reducible refine yP ?_
 | with_reducible refine agC ?_ | with_reducible refine abk ?_ | with_reducible refine aaK ?_ | with_reducible refine afz ?_ | with_reducible refine jw ?_
 | with_reducible refine aja ?_ | with_reducible refine aam ?_ | with_reducible refine d_orV ?_ | with_reducible refine ajb ?_
 | with_reducible refine yg ?_ | with_reducible refine ado ?_ | with_reducible refine agA ?_ | with_reducible refine ai8 ?_
 | (with_reducible show PEd _ _ (yr _) _ _;refine zv rfl ?_)
 | (with_reducible show PEd _ _ (tOp (adg _) (yr _) _) _ _;refine amT rfl ?_)
 | with_reducible refine abl ?_ | with_reducible refine jQ ?_
 | (with_reducible show PAd _ _ (zV (yr _) _) _ _;refine adp rfl ?_)
 | with_reducible refine zJ ?_ | with_reducible refine yI ?_
 | with_reducible refine aen ?_ | with_reducible refine agB ?_ | with_reducible refine vL ?_ | with_reducible refine adq ?_ | with_reducible refine ads ?_ | with_reducible refine ajc ?_ | with_reducible refine ajd ?_
 | (with_reducible show (∃ _,_) \/ (∃ _,_);refine Or.inl ⟨_,rfl,?_⟩) | refine⟨_,rfl,?_⟩ | refine⟨_,_,rfl,?_⟩
 | (with_reducible show (_=_/\∀ _,_) \/ _;first | refine Or.inl ⟨rfl,fun a ha=>?_⟩ | refine Or.inr ⟨rfl,fun b hb hb'=>?_⟩)
 | refine⟨rfl,?_⟩
 | (refine And.intro ?side ?_;(case side=>first | omega | exact Int.ediv_nonneg (by omega) (by omega) | exact asO _ (by omega) | exact arF _ (by omega) | decide | exact⟨by decide,by decide,by decide⟩ | exact⟨by omega,by omega⟩ | exact Or.inl ⟨by omega,by omega⟩ | exact Or.inr ⟨by omega,by omega⟩ | (refine aqn (arR (by rfl)) (show _<=1000 by decide)) | ((repeat' apply And.intro) <;> first | rfl | omega | decide | assumption) | (simp [auM]))))
section
variable {P:Program} {w:World} {K:apT} {mg:Str->Option Value} {base:Heap} {k:Nat}
theorem amb (F:Def K mg "size" adS pq) (uaa:mg "len"=none):FnIn P w K mg base (k+1) "size" pq (spD K 1 (fun (c:List (List Int)×Nat) xs=>xs=[.dat (tab c.1)]/\Good c.2 c.1) fun c r=>r=.tuple [.int c.2,.int c.1.length]):=by
 refine F.ok al7 rfl fun fa cdv A outer s H E hr=>⟨_,(zt (zE (z9 (zc (zy (zT (K:=K) rfl) rfl uaa aqz (zc (zW (zK (K:=K) rfl) (pv 0) zo (fun _ _=>rfl)) zh)) (zc (zy (zT (K:=K) rfl) rfl uaa aqz (zc (pv 0) zh)) zh))))),?_⟩
 rintro f xs ⟨rows,wd⟩ hl ⟨rfl,g⟩
 try dsimp only [yj,zm]
 obtain⟨r,rs,rfl⟩:=g.ne
 walk_at "w"
 refine⟨_,qM (j:=0) rfl (by simp),?_⟩
 walk_at "w"
 have hw:=g.row r apX
 show PyData.tuple [.int _,.int _]=_
 rw [apP,apP]
 show PyData.tuple [.int (r.length:Nat),_]=_
 rw [hw]
theorem amc (F:Def K mg "fits" adT pE) (uaa:mg "len"=none) (uac:∃ t,mg "FEWEST"=some (.int 2 t)) (uad:∃ t,mg "MOST"=some (.int 7 t)) :
  FnIn P w K mg base (k+1) "fits" pE (spD K 1 (fun (c:List PyData) xs=>xs=[.dat (.list c)]) fun c r=>r=.bool (decide (2<=c.length/\c.length<=7))):=by
 obtain⟨_,uac⟩:=uac
 obtain⟨_,uad⟩:=uad
 refine F.ok al8 rfl fun fa cdv A outer s H E hr=>⟨_,(zt (zE (qY vI vI (yU rfl uac) (zy (zT (K:=K) rfl) rfl uaa aqz (zc (pv 0) zh)) (yU rfl uad)))),?_⟩
 rintro f xs ds hl rfl
 try dsimp only [yj,zm]
 walk_at "w"
 by_cases h:2<=ds.length
 ·rw [if_pos (by simp;omega)]
  walk_at "w"
  show PyData.bool _=_
  congr 1
  by_cases h7:ds.length<=7 <;> simp [h,h7] <;> omega
 ·rw [if_neg (by simp;omega)]
  show PyData.bool _=_
  congr 1
  simp [h]
theorem aix (F:Def K mg "is_row" aad ["row"]) (uae:mg "min"=none) (ual:mg "max"=none) (uaf:∃ t,mg "LEAST"=some (.int (-1000000000) t)) (uag:∃ t,mg "GREATEST"=some (.int 1000000000 t))
  (uaB:FnIn P w K mg base k "fits" pE (spD K 1 (fun (c:List PyData) xs=>xs=[.dat (.list c)]) fun c r=>r=.bool (decide (2<=c.length/\c.length<=7)))) :
  FnIn P w K mg base (k+1) "is_row" ["row"] (spD K 1 (fun (c:List Int) xs=>xs=[.dat (.list (c.map .int))]) fun c r=>r=.bool (decide (2<=c.length/\c.length<=7/\∀ n∈c,-1000000000<=n/\n<=1000000000))):=by
 obtain⟨_,uaf⟩:=uaf
 obtain⟨_,uag⟩:=uag
 refine F.ok air rfl fun fa cdv A outer s H E hr=>⟨_,(zt (zE (qV (zp uaB hr rfl (zc (pv 0) zh)) (qV (y4 vI (yU rfl uaf) (zy (aao (K:=K) rfl rfl) rfl uae boot_min (zc (pv 0) zh)) (z3 _)) (vN (y4 vI (zy (aap (K:=K) rfl rfl) rfl ual boot_max (zc (pv 0) zh)) (yU rfl uag) (z3 _))))))),?_⟩
 rintro f xs c hl rfl
 try dsimp only [yj,zm]
 walk_at "w"
 refine zC (c.map .int) ?_
 walk_at "w"
 rintro r rfl
 rw [apP]
 walk_at "w"
 by_cases h:2<=c.length/\c.length<=7
 ·have hne:c≠[]:=by rintro rfl;simp at h
  rw [if_pos (by simpa using h)]
  walk_at "w"
  intro M hM hM'
  walk_at "w"
  by_cases h2:-1000000000<=M
  ·rw [if_pos (by simpa using h2)]
   walk_at "w"
   intro M' hN hN'
   walk_at "w"
   show PyData.bool _=_
   congr 1
   rw [decide_eq_decide]
   refine⟨fun q=>⟨h.1,h.2,fun n hn=>⟨aud h2 (hM' n hn),aud (hN' n hn) q⟩⟩,fun q=>(q.2.2 M' hN).2⟩
  ·rw [if_neg (by simpa using h2)]
   show PyData.bool _=_
   congr 1
   symm
   rw [decide_eq_false_iff_not]
   exact fun q=>h2 (q.2.2 M hM).1
 ·rw [if_neg (by simpa using h)]
  show PyData.bool _=_
  congr 1
  symm
  rw [decide_eq_false_iff_not]
  exact fun q=>h ⟨q.1,q.2.1⟩
abbrev ahc (K:apT):Sp:=spD K 1 (fun (c:List (List Int)×Nat) xs=>xs=[.dat (tab c.1)]/\Good c.2 c.1) fun _ r=>r=.bool true
theorem aoD (F:Def K mg "ask_table" jV pq) (uaa:mg "len"=none) (uah:mg "enumerate"=none)
  (uaB:FnIn P w K mg base k "fits" pE (spD K 1 (fun (c:List PyData) xs=>xs=[.dat (.list c)]) fun c r=>r=.bool (decide (2<=c.length/\c.length<=7))))
  (ubc:FnIn P w K mg base k "is_row" ["row"] (spD K 1 (fun (c:List Int) xs=>xs=[.dat (.list (c.map .int))]) fun c r=>r=.bool (decide (2<=c.length/\c.length<=7/\∀ n∈c,-1000000000<=n/\n<=1000000000)))) :
  FnIn P w K mg base (k+1) "ask_table" pq (ahc K):=by
 refine F.ok sc_ask_table rfl fun fa cdv A outer s H E hr=>⟨_,(zi (yD (y3 (z8 (K:=K) rfl (zp uaB hr rfl (zc (pv 0) zh)) (fun _=>rfl))) (zt qk) zX) (zi (jF aqV rfl (abq (K:=K) rfl rfl uah (zc (pv 0) zh)) (ye (K:=K) (n:=2) rfl rfl (zx (zq (i:=1) sc_ask_table.nd rfl (Or.inl rfl) (Or.inr rfl)) (zx (zq (i:=2) sc_ask_table.nd rfl (Or.inl rfl) (Or.inr rfl)) z7))) (zt (yD (PW.pt (vH (zZ (qZ (K:=K) rfl hr.units) (zy (zT (K:=K) rfl) rfl uaa aqz (zc (pv 2) zh)) (zy (zT (K:=K) rfl) rfl uaa aqz (zc (zW (zK (K:=K) rfl) (pv 0) zo (fun _ _=>rfl)) zh)) (z3 _)) (qU (y3 (z8 (K:=K) rfl (zp ubc hr rfl (zc (pv 2) zh)) (fun _=>rfl)))))) (zt qk) zX))) (zt (zE jN)))),?_⟩
 rintro f xs ⟨rows,wd⟩ hl ⟨rfl,g⟩
 try dsimp only [yj,zm]
 have g1:=g.h1
 have g2:=g.h2
 walk_at "w"
 refine zC (rows.map fun r=>.list (r.map .int)) ?_
 walk_at "w"
 rintro r rfl
 dsimp only at g1 g2
 refine⟨_,rfl,?_⟩
 rw [apP,decide_eq_true ⟨g1,g2⟩,aqt,if_neg apQ]
 walk_at "w"
 refine afA ?_
 walk_at "w"
 refine⟨fun i ρ=>∃ a b,ρ=[some (.dat (tab rows)),a,b],⟨_,_,rfl⟩,?_,?_⟩
 ·rintro i d ρ hd ⟨a,b,rfl⟩
  rw [apU] at hd
  cases hr:rows[i]? with
  | none=>rw [hr] at hd;cases hd
  | some r =>
   rw [hr] at hd
   cases hd
   have hm:=apZ hr
   have hw:=g.row r hm
   obtain⟨r0,rs,hrs⟩:=g.ne
   dsimp only at hrs
   subst hrs
   have hw0:=g.row r0 apX
   walk_at "w"
   refine⟨_,qM (j:=0) rfl (by simp),?_⟩
   walk_at "w"
   dsimp only at hw hw0
   rw [if_pos rfl,apP,apP]
   show (if (!(((r.length:Nat):Int) == ((r0.length:Nat):Int)))=true then _ else _)
   rw [hw,hw0,beq_self_eq_true,aqt,if_neg apQ]
   walk_at "w"
   refine zC r ?_
   walk_at "w"
   rintro _ rfl
   refine⟨_,rfl,?_⟩
   have w1:=g.w1
   have w2:=g.w2
   dsimp only at w1 w2
   rw [decide_eq_true ⟨by omega,by omega,g.hgt r hm⟩,aqt,if_neg apQ]
   walk_at "w"
   exact⟨_,_,rfl⟩
 ·rintro ρ ⟨a,b,rfl⟩
  walk_at "w"
  rfl
theorem amd (F:Def K mg "_law_draw" qL pL):FnIn P w K mg base (k+1) "_law_draw" pL (spD K 2 (fun (c:Int) xs=>xs=[.feed,.dat (.int c)]/\0<c/\c<1152921504606846976) fun c r=>∃ i:Int,r=.int i/\0<=i/\i<c):=by
 refine F.ok sc_law_draw rfl fun fa cdv A outer s H E hr=>⟨_,(zi (yD (zZ amQ (zW (zK (K:=K) rfl) (pv 0) zo (fun _ _=>rfl)) (zM afo zo zo) (z3 _)) (zi (zY (i:=2) sc_law_draw.nd rfl (Or.inl rfl) (zM qX (zW (zK (K:=K) rfl) (pv 0) zo (fun _ _=>rfl)) (pv 1))) (zi (yz (zM aeq (zW (zK (K:=K) rfl) (pv 0) zo (fun _ _=>rfl)) (pv 1)) (aaj (pv 0) zo set_list)) (zt (zE (pv 2))))) zX) (zi (yz (zM qX (zM yb (zM yb (zM adb (zW (zK (K:=K) rfl) (pv 0) zo (fun _ _=>rfl)) zo) (zM qX (zW (zK (K:=K) rfl) (pv 0) zo (fun _ _=>rfl)) zo)) zo) zo) (aaj (pv 0) zo set_list)) (zt (zE (zM qX (zM aeq (zM qX (zM adb (zW (zK (K:=K) rfl) (pv 0) zo (fun _ _=>rfl)) zo) zo) zo) (pv 1)))))),?_⟩
 rintro f xs c hl ⟨rfl,c0,c1⟩
 try dsimp only [yj,zm]
 walk_at "w"
 split
 ·walk_at "w"
  exact arF _ c0
 ·walk_at "w"
  exact arF _ c0
abbrev akx (K:apT):Sp:=spD K 2 (fun (c:Int) xs=>xs=[.feed,.dat (.int c)]/\0<c/\c<1152921504606846976) fun c r=>∃ i:Int,r=.int i/\0<=i/\i<c
theorem menu {ds:List PyData} {i n:Int} (h0:0<=i) (h1:i<n) (hn:n=(ds.length:Int)):∃ d,atI ds i=some d/\d∈ds:=by
 have hi:i.toNat<ds.length:=by omega
 have e:i=((i.toNat:Nat):Int):=by omega
 have q:=jO (apO hi)
 rw [<-e] at q
 exact⟨_,q,aqo hi⟩
theorem ahd:∀ {es:List PyData} {p:Int->Prop},(∀ (i:Nat) e,es[i]?=some e->∃ n:Int,e=.int n/\p n)->∃ ns:List Int,es=ns.map .int/\∀ n∈ns,p n
 | [],p,_=>⟨[],rfl,fun n h=>by cases h⟩
 | e :: es,p,h=>by
  obtain⟨n,rfl,hn⟩:=h 0 e rfl
  obtain⟨ns,rfl,hs⟩:=ahd (es:=es) (p:=p) fun i e' he=>h (i+1) e' (by simpa using he)
  exact⟨n :: ns,rfl,fun m hm=>by
   rcases ap0.mp hm with rfl | hm
   ·exact hn
   ·exact hs m hm⟩
local macro_rules | `(tactic| walk_at "dl")=>`(tactic| first
 | (with_reducible show PSd _ _ (jE _ (ac9 (yr _) (tC (V.int 0)) aaG)) _ _;refine agE rfl ?_)
 | (with_reducible show PSd _ _ (jE _ (ac9 (yr _) (tC (V.int 1)) aaG)) _ _;refine agF rfl ?_)
 | with_reducible refine yn ?_ | with_reducible refine ach ?_ | with_reducible refine yu ?_ | with_reducible refine yo ?_ | with_reducible refine abn ?_ | with_reducible refine qm ?_
 | with_reducible refine zu ?_ | with_reducible refine jl rfl ?_ | with_reducible refine zG ?_ | with_reducible refine yG ?_
 | with_reducible refine yw ?_ | with_reducible refine t_b ?_ | with_reducible refine ai9 ?_ | with_reducible refine abm ?_ | with_reducible refine jR ?_ | with_reducible refine yP ?_
 | with_reducible refine agC ?_ | with_reducible refine abk ?_ | with_reducible refine aaK ?_ | with_reducible refine afz ?_ | with_reducible refine jw ?_
 | with_reducible refine aja ?_ | with_reducible refine aam ?_ | with_reducible refine d_orV ?_ | with_reducible refine ajb ?_
 | with_reducible refine yg ?_ | with_reducible refine ado ?_ | with_reducible refine agA ?_ | with_reducible refine ai8 ?_
 | (with_reducible show PEd _ _ (yr _) _ _;refine zv rfl ?_)
 | (with_reducible show PEd _ _ (tOp (adg _) (yr _) _) _ _;refine amT rfl ?_)
 | with_reducible refine abl ?_ | with_reducible refine jQ ?_
 | (with_reducible show PAd _ _ (zV (yr _) _) _ _;refine adp rfl ?_)
 | with_reducible refine zJ ?_ | with_reducible refine yI ?_
 | with_reducible refine d_catT ?_ | with_reducible refine ajs ?_ | with_reducible refine ajq ?_ | with_reducible refine ajr ?_ | with_reducible refine d_int1 ?_ | with_reducible refine alq ?_ | with_reducible refine yE ?_
 | with_reducible refine aen ?_ | with_reducible refine agB ?_ | with_reducible refine vL ?_ | with_reducible refine adq ?_ | with_reducible refine ads ?_ | with_reducible refine ajc ?_ | with_reducible refine ajd ?_
 | (with_reducible show (∃ _,_) \/ (∃ _,_);first | refine Or.inl ⟨_,rfl,?_⟩ | refine Or.inr ⟨_,rfl,?_⟩) | refine⟨_,rfl,?_⟩ | refine⟨_,_,rfl,?_⟩
 | (with_reducible show (_=_/\∀ _,_) \/ _;first | refine Or.inl ⟨rfl,fun a ha=>?_⟩ | refine Or.inr ⟨rfl,fun b hb hb'=>?_⟩)
 | (with_reducible show PyData.canLay0 _=true/\_;refine And.intro (by first | rfl | assumption | decide +kernel) ?_)
 | (with_reducible show min _ _<=60/\_;refine And.intro (by first | assumption | (simp [auM,ap6];done)) ?_)
 | refine⟨rfl,?_⟩
 | (refine And.intro ?side ?_;(case side=>first | omega | exact Int.ediv_nonneg (by omega) (by omega) | exact asO _ (by omega) | exact arF _ (by omega) | decide | exact⟨by decide,by decide,by decide⟩ | exact⟨by omega,by omega⟩ | exact Or.inl ⟨by omega,by omega⟩ | exact Or.inr ⟨by omega,by omega⟩ | (refine aqn (arR (by rfl)) (show _<=1000 by decide)) | ((repeat' apply And.intro) <;> first | rfl | omega | decide | assumption) | (simp [auM]))))
theorem aky {us:List Int} {m:Int} (m0:0<=m) (nd:us.Nodup) (h:∀ x∈us,0<=x/\x<=m):us.length<=(m+1).toNat:=by
 have nd2:(us.map Int.toNat).Nodup:=arb.mpr (nd.imp_of_mem fun {a b} ha hb ne e=>ne (by have:=h a ha;have:=h b hb;omega))
 have:=nd2.length_le_of_subset (l₂:=aqb (m+1).toNat) fun x hx=>by
  obtain⟨y,hy,rfl⟩:=aqd.mp hx
  have:=h y hy
  exact aqk.mpr (by omega)
 rwa [apP,aqg] at this
theorem abR {ms:List Int} {d:Int} (h:d∈ms):∃ j:Nat,j<ms.length/\((ms.map PyData.int).map fun e=>aqi e (.int d))[j]?=some true/\∀ m,m<j->((ms.map PyData.int).map fun e=>aqi e (.int d))[m]?=some false:=by
 induction ms with
 | nil=>cases h
 | cons a ms ih =>
  by_cases e:a=d
  ·exact⟨0,by simp,by subst e;show some (decide (a=a))=some true;rw [decide_eq_true rfl],fun m hm=>absurd hm (ari _)⟩
  ·obtain⟨j,h1,h2,h3⟩:=ih ((ap0.mp h).resolve_left fun z=>e z.symm)
   refine⟨j+1,by simpa using h1,h2,fun m hm=>?_⟩
   cases m with
   | zero=>show some (decide (a=d))=some false;rw [decide_eq_false e]
   | succ m=>exact h3 m (by omega)
def apK (rows:List (List Int)):Prop:=∀ r∈rows,∀ n∈r,∀ r'∈rows,∀ n'∈r',n'<=n+9
abbrev akz (K:apT):Sp:=spD K 1 (fun (_:Unit) xs=>xs=[.feed]) fun _ r=>∃ wd rows,r=tab rows/\Good wd rows/\apK rows
theorem akA (F:Def K mg "_law_table" j7 pR) (uab:mg "range"=none) (uaq:mg "sorted"=none) (uai:mg "set"=none) (uao:FnIn P w K mg base k "_law_draw" pL (akx K)) :
  FnIn P w K mg base (k+1) "_law_table" pR (akz K):=by
 refine F.ok sc_law_table rfl fun fa cdv A outer s H E hr=>⟨_,(zi (zY (i:=1) sc_law_table.nd rfl (Or.inr rfl) (zM yb zo (zp uao hr rfl (zc (pv 0) (zc zo zh))))) (zi (zY (i:=2) sc_law_table.nd rfl (Or.inl rfl) (zM yb zo (zp uao hr rfl (zc (pv 0) (zc zo zh))))) (zi (zY (i:=3) sc_law_table.nd rfl (Or.inr rfl) (zW (zK (K:=K) rfl) (yR (zc zo (zc zo (zc zo (zc zo (zc zo (zc zo zh))))))) (zp uao hr rfl (zc (pv 0) (zc zo zh))) (fun _ _=>rfl))) (zi (zY (i:=4) sc_law_table.nd rfl (Or.inr rfl) (zW (zK (K:=K) rfl) (yR (zc zo (zc (zM ada zo zo) (zc (zM ada (zM afo zo zo) zo) (zc (zM ada zo (zM afo zo zo)) zh))))) (zp uao hr rfl (zc (pv 0) (zc zo zh))) (fun _ _=>rfl))) (zi (jj (i:=5) (N:=qa) (own:=1) (fr:=[0,1,3]) ⟨rfl,by decide +kernel,of_decide_eq_true (by kernel_rfl),of_decide_eq_true (by kernel_rfl),of_decide_eq_true (by kernel_rfl),rfl⟩ rfl sc_law_table.nd rfl (Or.inl rfl) (yA rfl uab (zc (pv 2) zh)) (fun _ _ _ _=>(zq (i:=0) (show (qa:List Str).Nodup by decide +kernel) rfl (Or.inl rfl) (Or.inr rfl))) (fun _ _ _ _=>zN) (fun _ _ _ _=>(zQ (N:=qb) (own:=1) (fr:=[1,3]) ⟨rfl,by decide +kernel,of_decide_eq_true (by kernel_rfl),of_decide_eq_true (by kernel_rfl),of_decide_eq_true (by kernel_rfl),rfl⟩ rfl (yA rfl uab (zc (pv 2) zh)) (fun _ _ _ _=>(zq (i:=0) (show (qb:List Str).Nodup by decide +kernel) rfl (Or.inl rfl) (Or.inr rfl))) (fun _ _ _ _=>zN) (fun _ _ _ _=>(zp uao hr rfl (zc (pv 1) (zc (zM yb (pv 2) zo) zh)))) rfl rfl (fun _=>rfl))) rfl rfl (fun _=>rfl) (Or.inl rfl) rfl) (zi (yz (zM qX (zM yb (zW (zK (K:=K) rfl) (zW (zK (K:=K) rfl) (pv 5) zo (fun _ _=>rfl)) zo (fun _ _=>rfl)) zo) (zM yb (pv 3) zo)) (aaj (zW (zK (K:=K) rfl) (pv 5) (aiQ afp zo) (fun _ _=>rfl)) zo set_list)) (zi (zY (i:=6) sc_law_table.nd rfl (Or.inr rfl) (yR zh)) (zi (jF aqV rfl (zR (K:=K) rfl (pv 5)) (zq (i:=7) sc_law_table.nd rfl (Or.inl rfl) (Or.inr rfl)) (zt (zY (i:=6) sc_law_table.nd rfl (Or.inr rfl) (zM (abw (K:=K) rfl) (pv 6) (pv 7))))) (zi (zY (i:=6) sc_law_table.nd rfl (Or.inr rfl) (zy (aeR (w:=w) rfl rfl) rfl uaq atZ (zc (ql (af2 (w:=w) (K:=K) rfl rfl rfl) rfl uai as8 (zc (pv 6) zh)) zh))) (zt (zE (zQ (N:=["_law_row","_law_base","_law_there"]) (own:=1) (fr:=[4,6]) ⟨rfl,by decide +kernel,of_decide_eq_true (by kernel_rfl),of_decide_eq_true (by kernel_rfl),of_decide_eq_true (by kernel_rfl),rfl⟩ rfl (zR (K:=K) rfl (pv 5)) (fun _ _ _ _=>(zq (i:=0) (show (["_law_row","_law_base","_law_there"]:List Str).Nodup by decide +kernel) rfl (Or.inl rfl) (Or.inr rfl))) (fun _ _ _ _=>zN) (fun _ _ _ _=>(zQ (N:=qc) (own:=1) (fr:=[1,2]) ⟨rfl,by decide +kernel,of_decide_eq_true (by kernel_rfl),of_decide_eq_true (by kernel_rfl),of_decide_eq_true (by kernel_rfl),rfl⟩ rfl (zR (K:=K) rfl (pv 0)) (fun _ _ _ _=>(zq (i:=0) (show (qc:List Str).Nodup by decide +kernel) rfl (Or.inl rfl) (Or.inr rfl))) (fun _ _ _ _=>zN) (fun _ _ _ _=>(zM yb (pv 1) (aip (K:=K) rfl hr.units (pv 2) (zc (pv 0) zh) rfl rfl rfl rfl rfl))) rfl rfl (fun _=>rfl))) rfl rfl (fun _=>rfl))))))))))))),?_⟩
 rintro f xs ⟨⟩ hl rfl
 try dsimp only [yj,zm]
 walk_at "w"
 refine zC 6 ?_
 walk_at "w"
 rintro r ⟨i1,rfl,h1,h2⟩
 walk_at "w"
 refine zC 6 ?_
 walk_at "w"
 rintro r ⟨i2,rfl,h3,h4⟩
 walk_at "w"
 refine zC 6 ?_
 walk_at "w"
 rintro r ⟨i3,rfl,h5,h6⟩
 refine⟨_,rfl,?_⟩
 obtain⟨d3,e3,m3⟩:=menu (ds:=[.int 1,.int 2,.int 3,.int 5,.int 9,.int 9]) h5 h6 (by simp)
 obtain⟨far,rfl,f0,f1⟩:∃ n:Int,d3=.int n/\1<=n/\n<=9:=by
  simp only [ap0,aqN,or_false] at m3
  rcases m3 with rfl | rfl | rfl | rfl | rfl | rfl <;> exact⟨_,rfl,by decide,by decide⟩
 refine⟨_,e3,?_⟩
 walk_at "w"
 refine zC 4 ?_
 walk_at "w"
 rintro r ⟨i4,rfl,h7,h8⟩
 refine⟨_,rfl,?_⟩
 obtain⟨d4,e4,m4⟩:=menu (ds:=[.int 0,.int (0 - 3),.int (10 ^ Int.toNat 9 - 9),.int (0 - 10 ^ Int.toNat 9)]) h7 h8 (by simp)
 obtain⟨bs,rfl,b0,b1⟩:∃ n:Int,d4=.int n/\-1000000000<=n/\n<=999999991:=by
  simp only [ap0,aqN,or_false] at m4
  rcases m4 with rfl | rfl | rfl | rfl <;> exact⟨_,rfl,by decide,by decide⟩
 refine⟨_,e4,zu ?_⟩
 refine aop (agG ?_)
 walk_at "w"
 refine⟨fun _ r=>r.length=(2+i1).toNat/\∀ n∈r,0<=n/\n<=far,fun D i hi=>?_,fun rows hes hR=>?_⟩
 ·refine acD ?_
  walk_at "w"
  refine⟨fun _ e=>∃ n:Int,e=.int n/\0<=n/\n<=far,fun D' i' hi'=>?_,fun es hes hR=>?_⟩
  ·refine zC (far+1) ?_
   walk_at "w"
   rintro r ⟨n,rfl,n0,n1⟩
   exact⟨n,rfl,n0,by omega⟩
  ·obtain⟨ns,rfl,hs⟩:=ahd (p:=fun n=>0<=n/\n<=far) hR
   exact⟨ns,rfl,by rw [apP] at hes;exact hes,hs⟩
 ·refine⟨show 5<8 by decide,fun a as=>?_⟩
  have rl:rows.length=(2+i2).toNat:=hes
  have rr:∀ r∈rows,r.length=(2+i1).toNat/\∀ n∈r,0<=n/\n<=far:=fun r hr=>by
   obtain⟨j,hj⟩:=aql hr
   exact hR j r hj
  have h0:rows[0]?=some rows[0]!:=by rw [apO (show 0<rows.length by omega)];simp [show 0<rows.length by omega]
  obtain⟨r0,e0⟩:∃ r,rows[0]?=some r:=⟨_,h0⟩
  obtain⟨l0,b00⟩:=rr r0 (apZ e0)
  obtain⟨n0,t0,rfl⟩:∃ n t,r0=n :: t:=by
   cases r0 with
   | nil=>simp at l0;omega
   | cons n t=>exact⟨n,t,rfl⟩
  obtain⟨q0,q1⟩:=b00 n0 apX
  have el:rows[rows.length - 1]?=some rows[rows.length - 1]!:=by rw [apO (show rows.length - 1<rows.length by omega)];simp [show rows.length - 1<rows.length by omega]
  obtain⟨rz,ez⟩:∃ r,rows[rows.length - 1]?=some r:=⟨_,el⟩
  obtain⟨lz,bz⟩:=rr rz (apZ ez)
  have a1:atI (rows.map fun r=>PyData.list (r.map .int)) 0=some (.list ((n0 :: t0).map .int)):=jO (j:=0) (by rw [apU,e0];rfl)
  have a2:atI ((n0 :: t0).map PyData.int) 0=some (.int n0):=jO (j:=0) rfl
  refine apk (aoy (i:=5) rfl ?_)
  show PEd K f _ [some .feed,some (.dat (.int (2+i1))),some (.dat (.int (2+i2))),some (.dat (.int far)),some (.dat (.int bs)),some (.dat (aaA rows)),none,none] _
  walk_at "w"
  refine⟨_,a1,_,rfl,yg ⟨_,rfl,_,a2,_,rfl,yg ⟨_,rfl,_,rfl,aaK (zv rfl ⟨_,rfl,yg ⟨_,rfl,_,rfl,by omega,_,rfl,ajv (yg ⟨_,rfl,-1,rows.length - 1,rfl,?_,_,ez,yg ⟨0,rfl,by omega,?_⟩⟩)⟩⟩)⟩⟩⟩
  ·unfold ixN
   simp
   omega
  have hv:0<=(n0+1) % (far+1)/\(n0+1) % (far+1)<=far:=by
   have:=asO (n0+1) (show far+1≠0 by omega)
   have:=arF (n0+1) (show 0<far+1 by omega)
   omega
  generalize (n0+1) % (far+1)=v at hv
  have rr2:∀ r∈rows.set (rows.length - 1) (rz.set 0 v),r.length=(2+i1).toNat/\∀ n∈r,0<=n/\n<=far:=fun r hr=>by
   rcases atJ hr with h | rfl
   ·exact rr r h
   ·refine⟨by rw [aqK];exact lz,fun n hn=>?_⟩
    rcases atJ hn with h | rfl
    ·exact bz n h
    ·exact hv
  have rl2:(rows.set (rows.length - 1) (rz.set 0 v)).length=(2+i2).toNat:=by rw [aqK];exact rl
  refine aoo (i:=5) rfl ?_
  show PSd K f _ [some .feed,some (.dat (.int (2+i1))),some (.dat (.int (2+i2))),some (.dat (.int far)),some (.dat (.int bs)),some (.dat (aaA (rows.set (rows.length - 1) (rz.set 0 v)))),none,none] _
  generalize rows.set (rows.length - 1) (rz.set 0 v)=rows2 at rr2 rl2
  clear rr rl hR hes h0 el e0 ez a1 a2
  refine yn (yo (agB (yI ⟨_,rfl,aqu _,zu ?_⟩)))
  refine yn (ajo (yB (zv rfl ⟨_,rfl,fun n ρ=>∃ u,ρ=[some .feed,some (.dat (.int (2+i1))),some (.dat (.int (2+i2))),some (.dat (.int far)),some (.dat (.int bs)),some (.dat (aaA rows2)),some (.dat (.list (((rows2.take n).flatten).map .int))),u],⟨_,rfl⟩,?_,?_⟩)))
  ·rintro n d _ hd ⟨u,rfl⟩
   rw [apU] at hd
   cases er:rows2[n]? with
   | none=>rw [er] at hd;cases hd
   | some r =>
    rw [er] at hd
    cases hd
    refine zu (yo (afE (zv rfl ⟨_,rfl,zv rfl ⟨_,rfl,?_⟩⟩)))
    have tk:rows2.take (n+1)=rows2.take n++[r]:=by rw [aqZ,er];rfl
    have fl:∀ l:List (List Int),(∀ r∈l,r.length<=7)->l.flatten.length<=7 * l.length:=fun l=>by
     induction l with
     | nil=>exact fun _=>apY 0
     | cons r l ih =>
      intro h
      have:=ih fun q hq=>h q (apW _ hq)
      have:=h r apX
      rw [List.flatten_cons,aqa,ap8]
      omega
    have f1:=fl (rows2.take n) fun q hq=>by have:=(rr2 q (atg hq)).1;omega
    have f2:=(rr2 r (apZ er)).1
    refine⟨?_,zu ⟨some (.dat (.list (r.map .int))),?_⟩⟩
    ·rw [apP,apP]
     rw [aqD] at f1
     omega
    ·rw [tk,List.flatten_append,List.flatten_cons,List.flatten_nil,aqG,aqm]
     rfl
  ·rintro _ ⟨u,rfl⟩
   rw [apP,aqy]
   have mem:∀ x∈rows2.flatten,0<=x/\x<=far:=fun x hx=>by
    obtain⟨r,hr,hx⟩:=List.mem_flatten.mp hx
    exact (rr2 r hr).2 x hx
   refine yn (yo (af5 (zv rfl ⟨_,rfl,fun us nd hs=>?_,fun ms pw mm=>zu ?_⟩)))
   ·have:=aky (m:=far) (by omega) nd fun x hx=>mem x (hs x hx)
    omega
   have ndm:ms.Nodup:=pw.imp fun h e=>by omega
   have lm:=aky (m:=far) (by omega) ndm fun x hx=>mem x ((mm x).mp hx)
   have hin:∀ r∈rows2,∀ n∈r,n∈ms:=fun r hr n hn=>(mm n).mpr (List.mem_flatten.mpr ⟨r,hr,hn⟩)
   let ix:Int->Nat:=fun h=>if z:h∈ms then Classical.choose (abR z) else 0
   have ixs:∀ h,h∈ms->ix h<ms.length/\((ms.map PyData.int).map fun e=>aqi e (.int h))[ix h]?=some true/\∀ m,m<ix h->((ms.map PyData.int).map fun e=>aqi e (.int h))[m]?=some false:=fun h z=>by
    have:=Classical.choose_spec (abR z)
    show (if z:h∈ms then Classical.choose (abR z) else 0)<ms.length/\_
    simp only [ix,dif_pos z]
    exact this
   generalize ix=ix at ixs
   refine yu (PEdO.ped (jm (A:=fun r:List Int=>PyData.list (r.map .int)) (B:=fun r:List Int=>PyData.list ((r.map fun h=>bs+(ix h:Int)).map .int)) rows2 (yB (zv rfl ⟨_,rfl,rfl,by omega,?_,?_⟩))))
   ·rintro D r ρ' es hr' ho hes
    obtain⟨u1,rfl⟩:=ho.one
    refine zu (yE ?_)
    rw [if_pos rfl]
    have lr:=(rr2 r hr').1
    refine yi hes (PEdO.ped (jm (A:=PyData.int) (B:=fun h=>PyData.int (bs+(ix h:Int))) r (yB (zv rfl ⟨_,rfl,rfl,by omega,?_,?_⟩))))
    ·rintro D2 h ρ2 es2 hh ho2 hes2
     obtain⟨u2,rfl⟩:=ho2.one
     refine zu (yE ?_)
     rw [if_pos rfl]
     obtain⟨x1,x2,x3⟩:=ixs h (hin r hr' h hh)
     refine yi hes2 (aaK (zv rfl ⟨_,rfl,aj1 (zv rfl ⟨_,rfl,zv rfl ⟨ix h,rfl,?_,by show 0<=50;decide,by rw [apP];omega,x2,x3,_,rfl,⟨[_],rfl,rfl⟩,rfl⟩⟩)⟩))
     intro e he
     obtain⟨m,_,rfl⟩:=aqd.mp he
     rfl
    ·refine⟨⟨[_],rfl,rfl⟩,?_⟩
     rw [aqv]
     rfl
   ·refine⟨(2+i1).toNat,rows2.map fun r=>r.map fun h=>bs+(ix h:Int),?_,⟨by rw [apP];omega,by rw [apP];omega,by omega,by omega,fun r hr=>?_,fun r hr n hn=>?_⟩,?_⟩
    ·unfold tab
     rw [aqv]
     rfl
    ·obtain⟨q,hq,rfl⟩:=aqd.mp hr
     rw [apP]
     exact (rr2 q hq).1
    ·obtain⟨q,hq,rfl⟩:=aqd.mp hr
     obtain⟨h,hh,rfl⟩:=aqd.mp hn
     have:=(ixs h (hin q hq h hh)).1
     omega
    ·intro r hr n hn r' hr' n' hn'
     obtain⟨q,hq,rfl⟩:=aqd.mp hr
     obtain⟨h,hh,rfl⟩:=aqd.mp hn
     obtain⟨q',hq',rfl⟩:=aqd.mp hr'
     obtain⟨h',hh',rfl⟩:=aqd.mp hn'
     have:=(ixs h (hin q hq h hh)).1
     have:=(ixs h' (hin q' hq' h' hh')).1
     omega
theorem yV {b:Bool} {p q:Prop} (h1:b=true->p) (h2:b=false->q):if b=true then p else q:=by
 cases b with
 | true=>rw [if_pos rfl];exact h1 rfl
 | false=>rw [if_neg apQ];exact h2 rfl
def z5 (rows:List (List Int)) (wd:Nat) (x y:Int):Bool:=decide (0<=x/\x<wd) && decide (0<=y/\y<rows.length)
def zL (rows:List (List Int)) (x y:Int):Int:=(rows.getD y.toNat []).getD x.toNat 0
theorem qN {rows:List (List Int)} {wd:Nat} {x y:Int} (h:z5 rows wd x y=true):0<=x/\x<wd/\0<=y/\y<rows.length:=by
 unfold z5 at h
 rw [ap3] at h
 have h1:=of_decide_eq_true h.1
 have h2:=of_decide_eq_true h.2
 omega
def j9 (x y w:Int):PyData:=.tuple [.int x,.int y,.int w]
def px (x:Int) (w:Int):Int:=if w=0 then x+1 else x
def py (y:Int) (w:Int):Int:=if w=0 then y else y+1
def qj (rows:List (List Int)) (wd:Nat) (x y w:Int):Bool:=decide (w=0 \/ w=1) && (z5 rows wd x y && z5 rows wd (px x w) (py y w))
def yC (rows:List (List Int)) (wd:Nat) (cut x y w:Int):Bool:=qj rows wd x y w && (decide (cut<zL rows x y) != decide (cut<zL rows (px x w) (py y w)))
def acT (rows:List (List Int)) (cut x y w:Int):Str:=if w=0 then (if cut<zL rows x y then "up" else "down") else (if cut<zL rows x y then "right" else "left")
theorem adZ (a b:Int):aqi (.int a) (.int b)=decide (a=b):=rfl
theorem ae2 (a b:Bool):aqi (.bool a) (.bool b)=(a == b):=rfl
abbrev akB (K:apT):Sp:=spD K 1 (fun (c:List (List Int)×Nat) xs=>xs=[.dat (tab c.1)]/\Good c.2 c.1) fun c r=>r=.tuple [.int c.2,.int c.1.length]
abbrev akC (K:apT):Sp:=spD K 3 (fun (c:List (List Int)×Nat×Int×Int) xs=>xs=[.dat (tab c.1),.dat (.int c.2.2.1),.dat (.int c.2.2.2)]/\Good c.2.1 c.1) fun c r=>r=.bool (z5 c.1 c.2.1 c.2.2.1 c.2.2.2)
theorem aoE (F:Def K mg "has_point" jU pz) (uaC:FnIn P w K mg base k "size" pq (akB K)):FnIn P w K mg base (k+1) "has_point" pz (akC K):=by
 refine F.ok sc_has_point rfl fun fa cdv A outer s H E hr=>⟨_,(zi (yz (zp uaC hr rfl (zc (pv 0) zh)) (ye (K:=K) (n:=2) rfl rfl (zx (zq (i:=3) sc_has_point.nd rfl (Or.inl rfl) (Or.inr rfl)) (zx (zq (i:=4) sc_has_point.nd rfl (Or.inl rfl) (Or.inr rfl)) z7)))) (zt (zE (qV (qY vI aeh zo (pv 1) (pv 3)) (vN (qY vI aeh zo (pv 2) (pv 4))))))),?_⟩
 rintro f xs ⟨rows,wd,x,y⟩ hl ⟨rfl,g⟩
 try dsimp only [yj,zm]
 dsimp only at *
 refine yn (yo (zC (rows,wd) ?_))
 walk_at "w"
 rintro _ rfl
 walk_at "w"
 have fin:∀ b:Bool,b=z5 rows wd x y->PyData.bool b=PyData.bool (z5 rows wd x y):=fun b h=>by rw [h]
 refine yV (fun h1=>?_) fun h1=>?_
 ·have h1':=of_decide_eq_true h1
  walk_at "w"
  refine yV (fun h2=>?_) fun h2=>?_
  ·have h2':=of_decide_eq_true h2
   walk_at "w"
   refine yV (fun h3=>?_) fun h3=>?_
   ·have h3':=of_decide_eq_true h3
    walk_at "w"
    refine fin _ ?_
    unfold z5
    dsimp only at h2' ⊢
    rw [decide_eq_true (p:=(0<=x/\x<(wd:Int))) (by omega),aq7]
    exact decide_eq_decide.mpr (by omega)
   ·have h3':=of_decide_eq_false h3
    refine fin _ ?_
    unfold z5
    rw [decide_eq_false (p:=(0<=y/\y<(rows.length:Int))) (by omega),atB]
  ·have h2':=of_decide_eq_false h2
   refine fin _ ?_
   unfold z5
   dsimp only at h2'
   rw [decide_eq_false (p:=(0<=x/\x<(wd:Int))) (by omega),arn]
 ·have h1':=of_decide_eq_false h1
  refine⟨_,rfl,?_⟩
  rw [if_neg apQ]
  refine fin _ ?_
  unfold z5
  rw [decide_eq_false (p:=(0<=x/\x<(wd:Int))) (by omega),arn]
abbrev ad0 (K:apT):Sp:=spD K 3 (fun (c:List (List Int)×Nat×Int×Int×Int) xs=>xs=[.dat (tab c.1),.dat (.int c.2.2.1),.dat (.tuple [.int c.2.2.2.1,.int c.2.2.2.2])]/\Good c.2.1 c.1/\z5 c.1 c.2.1 c.2.2.2.1 c.2.2.2.2=true) fun c r=>r=.bool (decide (c.2.2.1<zL c.1 c.2.2.2.1 c.2.2.2.2))
theorem abS {rows:List (List Int)} {wd:Nat} {x y:Int} (g:Good wd rows) (h:z5 rows wd x y=true):∃ r:List Int,atI (rows.map fun q=>PyData.list (q.map .int)) y=some (.list (r.map .int))/\atI (r.map PyData.int) x=some (.int (zL rows x y)):=by
 obtain⟨x0,x1,y0,y1⟩:=qN h
 have hy:y.toNat<rows.length:=by omega
 have hr:=g.row _ (aqo hy)
 have hx:x.toNat<rows[y.toNat].length:=by omega
 refine⟨rows[y.toNat],qM (F:=fun q:List Int=>PyData.list (q.map .int)) (by omega) hy,?_⟩
 rw [qM (j:=x.toNat) (by omega) hx]
 unfold zL
 rw [apR,apR,apO hy,arH,apO hx]
 rfl
theorem ame (F:Def K mg "stands_high" jc pF):FnIn P w K mg base (k+1) "stands_high" pF (ad0 K):=by
 refine F.ok sc_stands_high rfl fun fa cdv A outer s H E hr=>⟨_,(zi (yz (pv 2) (ye (K:=K) (n:=2) rfl rfl (zx (zq (i:=3) sc_stands_high.nd rfl (Or.inl rfl) (Or.inr rfl)) (zx (zq (i:=4) sc_stands_high.nd rfl (Or.inl rfl) (Or.inr rfl)) z7)))) (zt (zE (y4 aiS (zW (zK (K:=K) rfl) (zW (zK (K:=K) rfl) (pv 0) (pv 4) (fun _ _=>rfl)) (pv 3) (fun _ _=>rfl)) (pv 1) (z3 _))))),?_⟩
 rintro f xs ⟨rows,wd,cut,x,y⟩ hl ⟨rfl,g,hi⟩
 try dsimp only [yj,zm]
 dsimp only at *
 obtain⟨r,h1,h2⟩:=abS g hi
 unfold tab
 walk_at "w"
 refine⟨_,h1,?_⟩
 walk_at "w"
 refine⟨_,h2,?_⟩
 walk_at "w"
 rfl
abbrev akD (K:apT):Sp:=spD K 1 (fun (c:Int×Int×Int) xs=>xs=[.dat (j9 c.1 c.2.1 c.2.2)]) fun c r=>r=.list [.tuple [.int c.1,.int c.2.1],.tuple [.int (px c.1 c.2.2),.int (py c.2.1 c.2.2)]]
theorem aoF (F:Def K mg "gate_points" je ["gate"]):FnIn P w K mg base (k+1) "gate_points" ["gate"] (akD K):=by
 refine F.ok sc_gate_points rfl fun fa cdv A outer s H E hr=>⟨_,(zi (yz (pv 0) (ye (K:=K) (n:=3) rfl rfl (zx (zq (i:=1) sc_gate_points.nd rfl (Or.inl rfl) (Or.inr rfl)) (zx (zq (i:=2) sc_gate_points.nd rfl (Or.inl rfl) (Or.inr rfl)) (zx (zq (i:=3) sc_gate_points.nd rfl (Or.inl rfl) (Or.inr rfl)) z7))))) (zi (yD (zZ (qB (K:=K) rfl hr.units) (pv 3) zo (z3 _)) (zt (zE (yR (zc (z9 (zc (pv 1) (zc (pv 2) zh))) (zc (z9 (zc (zM yb (pv 1) zo) (zc (pv 2) zh))) zh))))) zX) (zt (zE (yR (zc (z9 (zc (pv 1) (zc (pv 2) zh))) (zc (z9 (zc (pv 1) (zc (zM yb (pv 2) zo) zh))) zh))))))),?_⟩
 rintro f xs ⟨x,y,w⟩ hl rfl
 try dsimp only [yj,zm]
 dsimp only at *
 unfold j9
 walk_at "w"
 rw [if_neg apQ,adZ]
 refine yV (fun h=>?_) fun h=>?_
 ·have h':=of_decide_eq_true h
  walk_at "w"
  unfold px py
  rw [if_pos h',if_pos h']
 ·have h':=of_decide_eq_false h
  walk_at "w"
  unfold px py
  rw [if_neg h',if_neg h']
abbrev akE (K:apT):Sp:=spD K 2 (fun (c:List (List Int)×Nat×Int×Int×Int) xs=>xs=[.dat (tab c.1),.dat (j9 c.2.2.1 c.2.2.2.1 c.2.2.2.2)]/\Good c.2.1 c.1) fun c r=>r=.bool (qj c.1 c.2.1 c.2.2.1 c.2.2.2.1 c.2.2.2.2)
theorem amf (F:Def K mg "has_gate" qG pI) (uaj:mg "all"=none) (uaA:FnIn P w K mg base k "has_point" pz (akC K)) (uaD:FnIn P w K mg base k "gate_points" ["gate"] (akD K)):FnIn P w K mg base (k+1) "has_gate" pI (akE K):=by
 refine F.ok aeV rfl fun fa cdv A outer s H E hr=>⟨_,(zi (yD (zZ (ahV (K:=K) rfl) (zW (yv (K:=K) rfl) (pv 1) zo (fun _ _=>rfl)) (z9 (zc zo (zc zo zh))) rfl) (zt (zE jN)) zX) (zt (zE (zy (aas (K:=K) rfl rfl) rfl uaj as9 (zc (zQ (N:=["x","y","rows"]) (own:=2) (fr:=[0]) ⟨rfl,by decide +kernel,of_decide_eq_true (by kernel_rfl),of_decide_eq_true (by kernel_rfl),of_decide_eq_true (by kernel_rfl),rfl⟩ rfl (zR (K:=K) rfl (zp uaD hr rfl (zc (pv 1) zh))) (fun _ _ _ _=>(ye (K:=K) (n:=2) rfl rfl (zx (zq (i:=0) (show (["x","y","rows"]:List Str).Nodup by decide +kernel) rfl (Or.inl rfl) (Or.inr rfl)) (zx (zq (i:=1) (show (["x","y","rows"]:List Str).Nodup by decide +kernel) rfl (Or.inl rfl) (Or.inr rfl)) z7)))) (fun _ _ _ _=>zN) (fun _ _ _ _=>(zp uaA hr rfl (zc (pv 2) (zc (pv 0) (zc (pv 1) zh))))) rfl rfl (fun _=>rfl)) zh))))),?_⟩
 rintro f xs ⟨rows,wd,x,y,w⟩ hl ⟨rfl,g⟩
 try dsimp only [yj,zm]
 dsimp only at *
 refine yn (ach (yw (aju ?_)))
 unfold j9
 walk_at "w"
 refine⟨[0,1],rfl,_,rfl,?_⟩
 have hc:(([0,1]:List Int).contains w)=decide (w=0 \/ w=1):=by
  rw [arB]
  simp
 rw [hc]
 by_cases h:w=0 \/ w=1
 ·rw [decide_eq_true h,aqt,if_neg apQ]
  refine qm (yu (ajt (PEdO.ped (jm (A:=fun p:Int×Int=>PyData.tuple [.int p.1,.int p.2]) (B:=fun p:Int×Int=>PyData.bool (z5 rows wd p.1 p.2)) [(x,y),(px x w,py y w)] (yB (zC (x,y,w) ?_))))))
  walk_at "w"
  rintro _ rfl
  refine⟨_,rfl,rfl,show 2<=1000 by decide,?_,?_⟩
  ·rintro D p ρ' es hp ho hes
   obtain⟨u,v,rfl⟩:=ho.two
   refine jl rfl (zG (zu (zG (zu (yG (yE ?_))))))
   rw [if_pos rfl]
   refine yi hes (zC (rows,wd,p.1,p.2) ?_)
   walk_at "w"
   rintro _ rfl
   exact⟨.mk2,rfl⟩
  ·refine⟨[z5 rows wd x y,z5 rows wd (px x w) (py y w)],rfl,?_⟩
   show PyData.bool _=PyData.bool _
   unfold qj
   rw [decide_eq_true h,aq7]
   show PyData.bool (z5 rows wd x y && (z5 rows wd (px x w) (py y w) && true))=_
   rw [at3]
 ·rw [decide_eq_false h,arW,if_pos rfl]
  walk_at "w"
  unfold qj
  rw [decide_eq_false h]
  rfl
abbrev aaD (K:apT):Sp:=spD K 3 (fun (c:List (List Int)×Nat×Int×Int×Int×Int) xs=>xs=[.dat (tab c.1),.dat (.int c.2.2.1),.dat (j9 c.2.2.2.1 c.2.2.2.2.1 c.2.2.2.2.2)]/\Good c.2.1 c.1) fun c r=>r=.bool (yC c.1 c.2.1 c.2.2.1 c.2.2.2.1 c.2.2.2.2.1 c.2.2.2.2.2)
theorem abT {rows:List (List Int)} {wd:Nat} {x y w:Int} (h:qj rows wd x y w=true):z5 rows wd x y=true/\z5 rows wd (px x w) (py y w)=true:=by
 unfold qj at h
 rw [ap3,ap3] at h
 exact h.2
theorem amg (F:Def K mg "is_open" vw pf) (ubd:FnIn P w K mg base k "has_gate" pI (akE K)) (uaD:FnIn P w K mg base k "gate_points" ["gate"] (akD K)) (uar:FnIn P w K mg base k "stands_high" pF (ad0 K)):FnIn P w K mg base (k+1) "is_open" pf (aaD K):=by
 refine F.ok sc_is_open rfl fun fa cdv A outer s H E hr=>⟨_,(zi (yD (y3 (z8 (K:=K) rfl (zp ubd hr rfl (zc (pv 0) (zc (pv 2) zh))) (fun _=>rfl))) (zt (zE jN)) zX) (zi (yz (zp uaD hr rfl (zc (pv 2) zh)) (agH (K:=K) (n:=2) rfl rfl (zx (zq (i:=3) sc_is_open.nd rfl (Or.inl rfl) (Or.inr rfl)) (zx (zq (i:=4) sc_is_open.nd rfl (Or.inl rfl) (Or.inr rfl)) z7)))) (zt (zE (y4 (qZ (K:=K) rfl hr.units) (zp uar hr rfl (zc (pv 0) (zc (pv 1) (zc (pv 3) zh)))) (zp uar hr rfl (zc (pv 0) (zc (pv 1) (zc (pv 4) zh)))) (z3 _)))))),?_⟩
 rintro f xs ⟨rows,wd,cut,x,y,w⟩ hl ⟨rfl,g⟩
 try dsimp only [yj,zm]
 dsimp only at *
 refine yn (ach (jR (yP (zC (rows,wd,x,y,w) ?_))))
 walk_at "w"
 rintro _ rfl
 refine⟨_,rfl,?_⟩
 dsimp only
 cases h:qj rows wd x y w with
 | false =>
  rw [arW,if_pos rfl]
  walk_at "w"
  unfold yC
  rw [h]
  rfl
 | true =>
  rw [aqt,if_neg apQ]
  obtain⟨i1,i2⟩:=abT h
  refine qm (yn (yo (zC (x,y,w) ?_)))
  walk_at "w"
  rintro _ rfl
  dsimp only
  refine amX rfl (zG (zu (zG (zu (yG ?_)))))
  refine yu (jw (zC (rows,wd,cut,x,y) ?_))
  walk_at "w"
  rintro _ rfl
  refine zC (rows,wd,cut,px x w,py y w) ?_
  walk_at "w"
  rintro _ rfl
  dsimp only
  walk_at "w"
  show PyData.bool _=PyData.bool _
  unfold yC
  rw [h,aq7,if_pos rfl,ae2]
  rfl
theorem abU {n i:Nat} {d:PyData} (h:(q9 n)[i]?=some d):i<n/\d=.int (i:Int):=by
 unfold q9 at h
 rw [apU] at h
 by_cases hi:i<n
 ·rw [aqx hi] at h
  cases h
  exact⟨hi,rfl⟩
 ·rw [aqc (by rw [aqg];omega)] at h
  cases h
theorem acU (n:Nat):(q9 n).length=n:=by unfold q9;simp
def amh (x y:Nat):PyData:=.tuple [.int x,.int y]
def vg (t n:Nat):List PyData:=(aqb n).flatMap fun x=>(aqb t).map (amh x)
theorem ae3 (t n:Nat):vg t (n+1)=vg t n++(aqb t).map (amh n):=by
 unfold vg
 rw [ar1,aq9]
 simp
theorem ahe (t:Nat):∀ n,(vg t n).length=t * n
 | 0=>rfl
 | n+1=>by rw [ae3,aqa,ahe t n,apP,aqg,Nat.mul_succ]
abbrev ae4 (K:apT):Sp:=spD K 1 (fun (c:List (List Int)×Nat) xs=>xs=[.dat (tab c.1)]/\Good c.2 c.1) fun c r=>r=.list (vg c.1.length c.2)
theorem aiy (F:Def K mg "points" aac pq) (uab:mg "range"=none) (uaC:FnIn P w K mg base k "size" pq (akB K)):FnIn P w K mg base (k+1) "points" pq (ae4 K):=by
 refine F.ok sc_points rfl fun fa cdv A outer s H E hr=>⟨_,(zi (yz (zp uaC hr rfl (zc (pv 0) zh)) (ye (K:=K) (n:=2) rfl rfl (zx (zq (i:=1) sc_points.nd rfl (Or.inl rfl) (Or.inr rfl)) (zx (zq (i:=2) sc_points.nd rfl (Or.inr rfl) (Or.inl rfl)) z7)))) (zt (zE (ai5 (N:=["x","y","tall"]) (own:=2) (fr:=[2]) ⟨rfl,by decide +kernel,of_decide_eq_true (by kernel_rfl),of_decide_eq_true (by kernel_rfl),of_decide_eq_true (by kernel_rfl),rfl⟩ rfl (yA rfl uab (zc (pv 1) zh)) (fun _ _ _ _=>(zq (i:=0) (show (["x","y","tall"]:List Str).Nodup by decide +kernel) rfl (Or.inl rfl) (Or.inr rfl))) (fun _ _ _ _=>zN) (fun _ _ _ _=>(yA rfl uab (zc (pv 2) zh))) (fun _ _ _ _=>(zq (i:=1) (show (["x","y","tall"]:List Str).Nodup by decide +kernel) rfl (Or.inl rfl) (Or.inr rfl))) (fun _ _ _ _=>zN) (fun _ _ _ _=>(z9 (zc (pv 0) (zc (pv 1) zh)))) rfl rfl (fun _=>rfl) (fun _ _ _ _ _=>rfl))))),?_⟩
 rintro f xs ⟨rows,wd⟩ hl ⟨rfl,g⟩
 try dsimp only [yj,zm]
 dsimp only at *
 have g2:=g.h2
 have w2:=g.w2
 refine yn (yo (zC (rows,wd) ?_))
 walk_at "w"
 rintro _ rfl
 refine jl rfl (zG (zu (zG (zu (yG ?_)))))
 refine yu (PEdO.ped (vc (qC (zJ (zv rfl (yI ⟨_,rfl,by dsimp only;omega,by dsimp only;omega,fun n ρ es=>(∃ u v,ρ=[u,v,some (.dat (.int rows.length))])/\es=vg rows.length n,⟨⟨_,_,rfl⟩,rfl⟩,?_,?_⟩))))))
 ·rintro D n d ρ' es hd ⟨⟨u,v,rfl⟩,rfl⟩
  obtain⟨hn,rfl⟩:=abU hd
  have hn':n<wd:=by have:n<((wd:Int)).toNat:=hn;omega
  have l1:rows.length * n<=7 * 7:=Nat.mul_le_mul g2 (by omega)
  refine zu (yE ?_)
  rw [if_pos rfl]
  refine ao1 (qC (zJ (zv rfl (yI ⟨_,rfl,by omega,by omega,fun m ρ es=>(∃ v,ρ=[some (.dat (.int n)),v,some (.dat (.int rows.length))])/\es=vg rows.length n++(aqb m).map (amh n),⟨⟨_,rfl⟩,by simp⟩,?_,?_⟩))))
  ·rintro m d ρ2 es2 hd2 ⟨⟨v,rfl⟩,rfl⟩
   obtain⟨hm,rfl⟩:=abU hd2
   have hm':m<rows.length:=by have:m<((rows.length:Int)).toNat:=hm;omega
   refine zu (yE ?_)
   rw [if_pos rfl]
   refine yi (by rw [aqa,ahe,apP,aqg];omega) ?_
   walk_at "w"
   rw [ar1,aqm,aq1]
   rfl
  ·rintro ρ2 es2 ⟨⟨v,rfl⟩,rfl⟩
   rw [acU,aqs]
   exact⟨⟨_,_,rfl⟩,by rw [ae3]⟩
 ·rintro ρ' es ⟨_,rfl⟩
  rw [acU,aqs]
def F2:PyData->List PyData
 | .tuple [.int x,.int y]=>[j9 x y 0,j9 x y 1]
 | _=>[]
def gD3 (g:Int×Int×Int):PyData:=j9 g.1 g.2.1 g.2.2
def opG (rows:List (List Int)) (wd:Nat) (cut:Int) (g:Int×Int×Int):Bool:=yC rows wd cut g.1 g.2.1 g.2.2
def yT (t n:Nat):List (Int×Int×Int):=(aqb n).flatMap fun (x:Nat)=>(aqb t).flatMap fun (y:Nat)=>[((x:Int),(y:Int),(0:Int)),((x:Int),(y:Int),(1:Int))]
theorem ae5 (t n:Nat):(vg t n).flatMap F2=(yT t n).map gD3:=by
 unfold vg yT
 rw [List.flatMap_assoc,List.map_flatMap]
 congr 1
 funext x
 rw [List.flatMap_map,List.map_flatMap]
 rfl
theorem ami {t n:Nat} {d:PyData} (h:d∈vg t n):∃ x y:Nat,d=amh x y:=by
 obtain⟨x,_,h⟩:=aqA.mp h
 obtain⟨y,_,rfl⟩:=aqd.mp h
 exact⟨x,y,rfl⟩
theorem abV {α:Type} {F:Nat->List α} {b:Nat} (h:∀ n,(F n).length<=b):∀ n,((aqb n).flatMap F).length<=b * n
 | 0=>by simp
 | n+1=>by
  rw [ar1,aq9,aqa]
  have:=abV h n
  have:=h n
  simp only [ar2,List.flatMap_nil,aqG]
  rw [Nat.mul_succ]
  omega
theorem acV {t n:Nat} (ht:t<=7) (hn:n<=7):(yT t n).length<=98:=by
 have h:=abV (F:=fun (x:Nat)=>(aqb t).flatMap fun (y:Nat)=>[((x:Int),(y:Int),(0:Int)),((x:Int),(y:Int),(1:Int))]) (b:=2 * t) (fun x=>abV (F:=fun (y:Nat)=>[((x:Int),(y:Int),(0:Int)),((x:Int),(y:Int),(1:Int))]) (b:=2) (fun y=>apY 2) t) n
 exact aqn h (Nat.mul_le_mul (show 2 * t<=14 by omega) hn)
def aoG (rows:List (List Int)) (wd:Nat) (cut:Int) (x y:Nat):List (Int×Int×Int):=(if yC rows wd cut x y 0=true then [((x:Int),(y:Int),(0:Int))] else [])++if yC rows wd cut x y 1=true then [((x:Int),(y:Int),(1:Int))] else []
def ya (rows:List (List Int)) (wd:Nat) (cut:Int):List (Int×Int×Int):=(aqb wd).flatMap fun x=>(aqb rows.length).flatMap fun y=>aoG rows wd cut x y
theorem aiz {α:Type} {F:Nat->List α} (n:Nat):(aqb (n+1)).flatMap F=(aqb n).flatMap F++F n:=by
 rw [ar1,aq9]
 simp
theorem amj (rows:List (List Int)) (wd:Nat) (cut:Int) (x y:Nat):aoG rows wd cut x y=[((x:Int),(y:Int),(0:Int)),((x:Int),(y:Int),(1:Int))].filter (opG rows wd cut):=by
 unfold aoG opG
 simp only [aqI,aui]
 cases yC rows wd cut x y 0 <;> cases yC rows wd cut x y 1 <;> rfl
theorem qt (rows:List (List Int)) (wd:Nat) (cut:Int):ya rows wd cut=(yT rows.length wd).filter (opG rows wd cut):=by
 unfold ya yT
 rw [auG]
 congr 1
 funext x
 rw [auG]
 congr 1
 funext y
 exact amj rows wd cut x y
def gLt (a b:Int×Int×Int):Prop:=a.1<b.1 \/ (a.1=b.1/\(a.2.1<b.2.1 \/ (a.2.1=b.2.1/\a.2.2<b.2.2)))
theorem akF {a b:Int×Int×Int} (h:gLt a b):ltD (gD3 a) (gD3 b)=true:=by
 obtain⟨x,y,w⟩:=a
 obtain⟨x',y',w'⟩:=b
 unfold gLt at h
 dsimp only at h
 show ltD (.tuple [.int x,.int y,.int w]) (.tuple [.int x',.int y',.int w'])=true
 have e:∀ i j:Int,aqi (.int i) (.int j)=(i == j):=fun i j=>rfl
 simp only [ltD,ltL,e,beq_iff_eq]
 by_cases h1:x=x'
 ·rw [if_pos h1]
  by_cases h2:y=y'
  ·rw [if_pos h2]
   rw [if_neg (by omega)]
   exact decide_eq_true (by omega)
  ·rw [if_neg h2]
   exact decide_eq_true (by omega)
 ·rw [if_neg h1]
  exact decide_eq_true (by omega)
theorem ahf {α:Type} {R:α->α->Prop} {F:Nat->List α} (n:Nat) (h1:∀ i,i<n->(F i).Pairwise R) (h2:∀ i j,i<j->j<n->∀ a∈F i,∀ b∈F j,R a b):((aqb n).flatMap F).Pairwise R:=by
 induction n with
 | zero=>simp
 | succ n ih =>
  rw [aiz,List.pairwise_append]
  refine⟨ih (fun i hi=>h1 i (by omega)) (fun i j hij hj=>h2 i j hij (by omega)),h1 n (by omega),fun a ha b hb=>?_⟩
  obtain⟨i,hi,ha⟩:=aqA.mp ha
  exact h2 i n (aqk.mp hi) (by omega) a ha b hb
theorem ae6 (t n:Nat):(yT t n).Pairwise gLt:=by
 unfold yT
 refine ahf n (fun x _=>ahf t (fun y _=>?_) fun y y' hy _ a ha b hb=>?_) fun x x' hx _ a ha b hb=>?_
 ·simp [gLt]
 ·simp only [ap0,aqN,or_false] at ha hb
  rcases ha with rfl | rfl <;> rcases hb with rfl | rfl <;> (unfold gLt;dsimp only;omega)
 ·obtain⟨y,_,ha⟩:=aqA.mp ha
  obtain⟨y',_,hb⟩:=aqA.mp hb
  simp only [ap0,aqN,or_false] at ha hb
  rcases ha with rfl | rfl <;> rcases hb with rfl | rfl <;> (unfold gLt;dsimp only;omega)
theorem qu {rows:List (List Int)} {wd:Nat} {cut:Int} (g:Good wd rows):(ya rows wd cut).length<=98:=by
 rw [qt]
 exact aqn (arE _ _) (acV g.h2 g.w2)
abbrev ad1 (K:apT):Sp:=spN K 2 (fun (c:List (List Int)×Nat×Int) xs=>xs=[.dat (tab c.1),.dat (.int c.2.2)]/\Good c.2.1 c.1) fun c es=>es=((yT c.1.length c.2.1).filter (opG c.1 c.2.1 c.2.2)).map gD3
theorem akG (F:Def K mg "gates" aa9 pA) (uau:FnIn P w K mg base k "ask_table" pq (ahc K)) (ube:FnIn P w K mg base k "points" pq (ae4 K)) (uak:FnIn P w K mg base k "is_open" pf (aaD K)):FnIn P w K mg base (k+1) "gates" pA (ad1 K):=by
 refine F.okN sc_gates rfl fun fa cdv A outer s H E hr=>⟨_,(zi (jy (zp uau hr rfl (zc (pv 0) zh))) (zi (aem (i:=2) (N:=pW) (own:=3) (fr:=[]) ⟨rfl,by decide +kernel,of_decide_eq_true (by kernel_rfl),of_decide_eq_true (by kernel_rfl),of_decide_eq_true (by kernel_rfl),rfl⟩ rfl sc_gates.nd rfl (Or.inl rfl) (zR (K:=K) rfl (zp ube hr rfl (zc (pv 0) zh))) (fun _ _ _ _=>(ye (K:=K) (n:=2) rfl rfl (zx (zq (i:=0) (show (pW:List Str).Nodup by decide +kernel) rfl (Or.inl rfl) (Or.inr rfl)) (zx (zq (i:=1) (show (pW:List Str).Nodup by decide +kernel) rfl (Or.inl rfl) (Or.inr rfl)) z7)))) (fun _ _ _ _=>zN) (fun _ _ _ _=>(vp (K:=K) rfl (z9 (zc zo (zc zo zh))))) (fun _ _ _ _=>(zq (i:=2) (show (pW:List Str).Nodup by decide +kernel) rfl (Or.inl rfl) (Or.inr rfl))) (fun _ _ _ _=>zN) (fun _ _ _ _=>(z9 (zc (pv 0) (zc (pv 1) (zc (pv 2) zh))))) rfl rfl (fun _=>rfl) (fun _ _ _ _ _=>rfl) (Or.inl rfl) rfl) (zt (zE (zQ (N:=pD) (own:=1) (fr:=[0,1]) ⟨rfl,by decide +kernel,of_decide_eq_true (by kernel_rfl),of_decide_eq_true (by kernel_rfl),of_decide_eq_true (by kernel_rfl),rfl⟩ rfl (zR (K:=K) rfl (pv 2)) (fun _ _ _ _=>(zq (i:=0) (show (pD:List Str).Nodup by decide +kernel) rfl (Or.inl rfl) (Or.inr rfl))) (fun _ _ _ _=>(aa0 (z8 (K:=K) rfl (zp uak hr rfl (zc (pv 1) (zc (pv 2) (zc (pv 0) zh)))) (fun _=>rfl)))) (fun _ _ _ _=>(pv 0)) rfl rfl (fun _=>rfl)))))),?_⟩
 rintro f xs ⟨rows,wd,cut⟩ hl ⟨rfl,g⟩
 try dsimp only [yj,zm]
 dsimp only at *
 have sl:=acV g.h2 g.w2
 refine abx (abn (zC (rows,wd) ?_))
 walk_at "w"
 rintro _ rfl
 refine abx (yo (PEdO.ped (anN (yB (zC (rows,wd) ?_)))))
 walk_at "w"
 rintro _ rfl
 refine⟨_,rfl,F2,by rw [ae5,apP];exact aqn sl (by decide),?_,?_⟩
 ·rintro D d ρ' es hd ho hes
  obtain⟨x,y,rfl⟩:=ami hd
  obtain⟨us,hus,rfl⟩:=ho
  match us,hus with
  | [u1,u2,u3],_ =>
   refine jl rfl (zG (zu (zG (zu (yG (yE ?_))))))
   rw [if_pos rfl]
   have hes':es.length+2<=1000:=hes
   refine ao1 (acE (aen (zJ (yg (zJ (yg (yI ⟨_,rfl,by simp,_,rfl,fun m ρ es2=>(∃ v,ρ=[some (.dat (.int x)),some (.dat (.int y)),v])/\es2=es++[j9 x y 0,j9 x y 1].take m,⟨⟨_,rfl⟩,by simp⟩,?_,?_⟩)))))))
   ·rintro m d ρ2 es2 hd2 ⟨⟨v,rfl⟩,rfl⟩
    have hm:(m=0/\d=.int 0) \/ (m=1/\d=.int 1):=by
     match m,hd2 with
     | 0,h=>cases h;exact .inl ⟨rfl,rfl⟩
     | 1,h=>cases h;exact .inr ⟨rfl,rfl⟩
     | (q+2),h=>cases h
    rcases hm with⟨rfl,rfl⟩ | ⟨rfl,rfl⟩
    ·refine zu (yE ?_)
     rw [if_pos rfl]
     refine yi (by simp;omega) ?_
     walk_at "w"
     simp
     rfl
    ·refine zu (yE ?_)
     rw [if_pos rfl]
     refine yi (by simp;omega) ?_
     walk_at "w"
     simp
     rfl
   ·rintro ρ2 es2 ⟨⟨v,rfl⟩,rfl⟩
    exact⟨⟨[_,_,_],rfl,rfl⟩,rfl⟩
 ·rw [show List.flatMap F2 (vg (rows,wd).1.length (rows,wd).2)=(yT rows.length wd).map gD3 from ae5 _ _]
  refine zu (aet (vc (yB (zv rfl ⟨_,rfl,fun n ρ es=>(∃ u,ρ=[u,some (.dat (tab rows)),some (.dat (.int cut))])/\es=(((yT rows.length wd).take n).filter (opG rows wd cut)).map gD3,⟨⟨_,rfl⟩,rfl⟩,?_,?_⟩))))
  ·rintro D n d ρ' es hd ⟨⟨u,rfl⟩,rfl⟩
   rw [apU] at hd
   cases hq:(yT rows.length wd)[n]? with
   | none=>rw [hq] at hd;cases hd
   | some q =>
    rw [hq] at hd
    cases hd
    have tk:(yT rows.length wd).take (n+1)=(yT rows.length wd).take n++[q]:=by
     rw [as2,hq]
     rfl
    have len:((((yT rows.length wd).take n).filter (opG rows wd cut)).map gD3).length<1000:=by
     rw [apP]
     have a1:=arE (opG rows wd cut) ((yT rows.length wd).take n)
     rw [aqD] at a1
     omega
    refine zu (yP (zC (rows,wd,cut,q.1,q.2.1,q.2.2) ?_))
    unfold gD3 at *
    walk_at "w"
    rintro _ rfl
    dsimp only
    refine⟨_,rfl,?_⟩
    refine yV (fun h=>?_) fun h=>?_
    ·refine yi len ?_
     walk_at "w"
     rw [tk,aq2,aqm,aqI,show opG rows wd cut q=true from h,if_pos rfl]
     rfl
    ·refine⟨⟨_,rfl⟩,?_⟩
     rw [tk,aq2,aqm,aqI,show opG rows wd cut q=false from h,if_neg apQ]
     simp
  ·rintro ρ' es ⟨_,rfl⟩
   rw [apP,aqy]
abbrev CC:=List (List Int)×Nat×Int×Int×Int
def zS (rows:List (List Int)) (wd:Nat) (x y:Int):Bool:=z5 rows wd x y && z5 rows wd (x+1) (y+1)
def hiB (rows:List (List Int)) (cut x y:Int):Bool:=decide (cut<zL rows x y)
theorem cell_in {rows:List (List Int)} {wd:Nat} {x y:Int} (h:zS rows wd x y=true):z5 rows wd x y=true/\z5 rows wd (x+1) y=true/\z5 rows wd (x+1) (y+1)=true/\z5 rows wd x (y+1)=true:=by
 unfold zS at h
 rw [ap3] at h
 obtain⟨a0,a1,a2,a3⟩:=qN h.1
 obtain⟨b0,b1,b2,b3⟩:=qN h.2
 refine⟨h.1,?_,h.2,?_⟩ <;> unfold z5 <;> rw [decide_eq_true (by omega),decide_eq_true (by omega)] <;> rfl
section
variable {rows:List (List Int)} {wd:Nat} {cut x y:Int}
theorem ahg (h:zS rows wd x y=true):yC rows wd cut x y 0=(hiB rows cut x y != hiB rows cut (x+1) y):=by
 obtain⟨a,b,c,d⟩:=cell_in h
 unfold yC qj
 show (decide ((0:Int)=0 \/ (0:Int)=1) && (z5 rows wd x y && z5 rows wd (x+1) y) && _)=_
 rw [a,b]
 rfl
theorem akH (h:zS rows wd x y=true):yC rows wd cut x y 1=(hiB rows cut x y != hiB rows cut x (y+1)):=by
 obtain⟨a,b,c,d⟩:=cell_in h
 unfold yC qj
 show (decide ((1:Int)=0 \/ (1:Int)=1) && (z5 rows wd x y && z5 rows wd x (y+1)) && _)=_
 rw [a,d]
 rfl
theorem ahh (h:zS rows wd x y=true):yC rows wd cut x (y+1) 0=(hiB rows cut x (y+1) != hiB rows cut (x+1) (y+1)):=by
 obtain⟨a,b,c,d⟩:=cell_in h
 unfold yC qj
 show (decide ((0:Int)=0 \/ (0:Int)=1) && (z5 rows wd x (y+1) && z5 rows wd (x+1) (y+1)) && _)=_
 rw [c,d]
 rfl
theorem ahi (h:zS rows wd x y=true):yC rows wd cut (x+1) y 1=(hiB rows cut (x+1) y != hiB rows cut (x+1) (y+1)):=by
 obtain⟨a,b,c,d⟩:=cell_in h
 unfold yC qj
 show (decide ((1:Int)=0 \/ (1:Int)=1) && (z5 rows wd (x+1) y && z5 rows wd (x+1) (y+1)) && _)=_
 rw [b,c]
 rfl
end
def cg (x y:Int):List (Int×Int×Int):=[(x,y,0),(x,y,1),(x,y+1,0),(x+1,y,1)]
def ad2 (rows:List (List Int)) (wd:Nat) (cut x y:Int):Bool:=(cg x y).all (opG rows wd cut)
def apq (rows:List (List Int)) (x y:Int):Int:=zL rows x y+(zL rows (x+1) y+(zL rows (x+1) (y+1)+(zL rows x (y+1)+0)))
def acp (rows:List (List Int)) (cut x y:Int):Bool:=decide (4 * cut+2<=apq rows x y)
def pairD (g h:Int×Int×Int):PyData:=.tuple [gD3 g,gD3 h]
abbrev age (K:apT):Sp:=spD K 3 (fun (c:List (List Int)×Nat×Int×Int) xs=>xs=[.dat (tab c.1),.dat (.int c.2.2.1),.dat (.int c.2.2.2)]/\Good c.2.1 c.1) fun c r=>r=.bool (zS c.1 c.2.1 c.2.2.1 c.2.2.2)
theorem amk (F:Def K mg "has_cell" qE pz) (uaA:FnIn P w K mg base k "has_point" pz (akC K)):FnIn P w K mg base (k+1) "has_cell" pz (age K):=by
 refine F.ok aeT rfl fun fa cdv A outer s H E hr=>⟨_,(zt (zE (qV (zp uaA hr rfl (zc (pv 0) (zc (pv 1) (zc (pv 2) zh)))) (vN (zp uaA hr rfl (zc (pv 0) (zc (zM yb (pv 1) zo) (zc (zM yb (pv 2) zo) zh)))))))),?_⟩
 rintro f xs ⟨rows,wd,x,y⟩ hl ⟨rfl,g⟩
 try dsimp only [yj,zm]
 dsimp only at *
 refine yu (aam (zC (rows,wd,x,y) ?_))
 walk_at "w"
 rintro _ rfl
 dsimp only
 refine⟨_,rfl,?_⟩
 refine yV (fun h=>?_) fun h=>?_
 ·refine zC (rows,wd,x+1,y+1) ?_
  walk_at "w"
  rintro _ rfl
  dsimp only
  unfold zS
  rw [h,aq7]
 ·unfold zS
  rw [h,arn]
abbrev acW (K:apT):Sp:=spD K 2 (fun (c:Int×Int) xs=>xs=[.dat (.int c.1),.dat (.int c.2)]) fun c r=>r=.list [.tuple [.int c.1,.int c.2],.tuple [.int (c.1+1),.int c.2],.tuple [.int (c.1+1),.int (c.2+1)],.tuple [.int c.1,.int (c.2+1)]]
theorem agf (F:Def K mg "corners" vt pH):FnIn P w K mg base (k+1) "corners" pH (acW K):=by
 refine F.ok af7 rfl fun fa cdv A outer s H E hr=>⟨_,(zt (zE (yR (zc (z9 (zc (pv 0) (zc (pv 1) zh))) (zc (z9 (zc (zM yb (pv 0) zo) (zc (pv 1) zh))) (zc (z9 (zc (zM yb (pv 0) zo) (zc (zM yb (pv 1) zo) zh))) (zc (z9 (zc (pv 0) (zc (zM yb (pv 1) zo) zh))) zh))))))),?_⟩
 rintro f xs ⟨x,y⟩ hl rfl
 try dsimp only [yj,zm]
 dsimp only at *
 walk_at "w"
 rfl
abbrev vh (K:apT):Sp:=spD K 1 (fun (c:Int×Int) xs=>xs=[.dat (.tuple [.int c.1,.int c.2])]) fun c r=>r=.list ((cg c.1 c.2).map gD3)
theorem aiA (F:Def K mg "cell_gates" jA pC):FnIn P w K mg base (k+1) "cell_gates" pC (vh K):=by
 refine F.ok sc_cell_gates rfl fun fa cdv A outer s H E hr=>⟨_,(zi (yz (pv 0) (ye (K:=K) (n:=2) rfl rfl (zx (zq (i:=1) sc_cell_gates.nd rfl (Or.inl rfl) (Or.inr rfl)) (zx (zq (i:=2) sc_cell_gates.nd rfl (Or.inl rfl) (Or.inr rfl)) z7)))) (zt (zE (yR (zc (z9 (zc (pv 1) (zc (pv 2) (zc zo zh)))) (zc (z9 (zc (pv 1) (zc (pv 2) (zc zo zh)))) (zc (z9 (zc (pv 1) (zc (zM yb (pv 2) zo) (zc zo zh)))) (zc (z9 (zc (zM yb (pv 1) zo) (zc (pv 2) (zc zo zh)))) zh)))))))),?_⟩
 rintro f xs ⟨x,y⟩ hl rfl
 try dsimp only [yj,zm]
 dsimp only at *
 walk_at "w"
 rfl
abbrev aml (c:CC) (xs:List DV):Prop:=xs=[.dat (tab c.1),.dat (.int c.2.2.1),.dat (.tuple [.int c.2.2.2.1,.int c.2.2.2.2])]/\Good c.2.1 c.1/\zS c.1 c.2.1 c.2.2.2.1 c.2.2.2.2=true
abbrev acX (K:apT):Sp:=spD K 3 aml fun c r=>r=.bool (ad2 c.1 c.2.1 c.2.2.1 c.2.2.2.1 c.2.2.2.2)
theorem agg (F:Def K mg "is_crossed" jB pj) (uaj:mg "all"=none) (uak:FnIn P w K mg base k "is_open" pf (aaD K)) (uap:FnIn P w K mg base k "cell_gates" pC (vh K)):FnIn P w K mg base (k+1) "is_crossed" pj (acX K):=by
 refine F.ok ack rfl fun fa cdv A outer s H E hr=>⟨_,(zt (zE (zy (aas (K:=K) rfl rfl) rfl uaj as9 (zc (zQ (N:=pD) (own:=1) (fr:=[0,1]) ⟨rfl,by decide +kernel,of_decide_eq_true (by kernel_rfl),of_decide_eq_true (by kernel_rfl),of_decide_eq_true (by kernel_rfl),rfl⟩ rfl (zR (K:=K) rfl (zp uap hr rfl (zc (pv 2) zh))) (fun _ _ _ _=>(zq (i:=0) (show (pD:List Str).Nodup by decide +kernel) rfl (Or.inl rfl) (Or.inr rfl))) (fun _ _ _ _=>zN) (fun _ _ _ _=>(zp uak hr rfl (zc (pv 1) (zc (pv 2) (zc (pv 0) zh))))) rfl rfl (fun _=>rfl)) zh)))),?_⟩
 rintro f xs ⟨rows,wd,cut,x,y⟩ hl ⟨rfl,g,hc⟩
 try dsimp only [yj,zm]
 dsimp only at *
 refine yu (ajt (PEdO.ped (jm (A:=gD3) (B:=fun q=>PyData.bool (opG rows wd cut q)) (cg x y) (yB (zC (x,y) ?_)))))
 walk_at "w"
 rintro _ rfl
 refine⟨_,rfl,rfl,show 4<=1000 by decide,?_,?_⟩
 ·rintro D q ρ' es hq ho hes
  obtain⟨u,rfl⟩:=ho.one
  refine zu (yE ?_)
  rw [if_pos rfl]
  refine yi hes (zC (rows,wd,cut,q.1,q.2.1,q.2.2) ?_)
  unfold gD3
  walk_at "w"
  rintro _ rfl
  exact⟨.mk1,rfl⟩
 ·refine⟨(cg x y).map (opG rows wd cut),by rw [aqv];rfl,?_⟩
  show PyData.bool _=PyData.bool _
  unfold ad2
  rw [List.all_map]
  rfl
abbrev am7 (K:apT):Sp:=spD K 3 aml fun c r=>r=.bool (acp c.1 c.2.2.1 c.2.2.2.1 c.2.2.2.2)
theorem aoH (F:Def K mg "has_high_middle" yL pj) (uas:mg "sum"=none) (ubf:FnIn P w K mg base k "corners" pH (acW K)):FnIn P w K mg base (k+1) "has_high_middle" pj (am7 K):=by
 refine F.ok sc_has_high_middle rfl fun fa cdv A outer s H E hr=>⟨_,(zi (yz (pv 2) (ye (K:=K) (n:=2) rfl rfl (zx (zq (i:=3) sc_has_high_middle.nd rfl (Or.inl rfl) (Or.inr rfl)) (zx (zq (i:=4) sc_has_high_middle.nd rfl (Or.inl rfl) (Or.inr rfl)) z7)))) (zt (zE (y4 amQ (zy (abv (K:=K) rfl rfl) rfl uas aun (zc (zQ (N:=["a","b","rows"]) (own:=2) (fr:=[0]) ⟨rfl,by decide +kernel,of_decide_eq_true (by kernel_rfl),of_decide_eq_true (by kernel_rfl),of_decide_eq_true (by kernel_rfl),rfl⟩ rfl (zR (K:=K) rfl (zp ubf hr rfl (zc (pv 3) (zc (pv 4) zh)))) (fun _ _ _ _=>(ye (K:=K) (n:=2) rfl rfl (zx (zq (i:=0) (show (["a","b","rows"]:List Str).Nodup by decide +kernel) rfl (Or.inl rfl) (Or.inr rfl)) (zx (zq (i:=1) (show (["a","b","rows"]:List Str).Nodup by decide +kernel) rfl (Or.inl rfl) (Or.inr rfl)) z7)))) (fun _ _ _ _=>zN) (fun _ _ _ _=>(zW (zK (K:=K) rfl) (zW (zK (K:=K) rfl) (pv 2) (pv 1) (fun _ _=>rfl)) (pv 0) (fun _ _=>rfl))) rfl rfl (fun _=>rfl)) zh)) (zM yb (zM adb zo (pv 1)) zo) (z3 _))))),?_⟩
 rintro f xs ⟨rows,wd,cut,x,y⟩ hl ⟨rfl,g,hc⟩
 try dsimp only [yj,zm]
 dsimp only at *
 obtain⟨i1,i2,i3,i4⟩:=cell_in hc
 refine yn (yo (zv rfl (jl rfl (zG (zu (zG (zu (yG ?_))))))))
 refine yu (abk (amY (PEdO.ped (jm (A:=fun p:Int×Int=>PyData.tuple [.int p.1,.int p.2]) (B:=fun p:Int×Int=>PyData.int (zL rows p.1 p.2)) [(x,y),(x+1,y),(x+1,y+1),(x,y+1)] (yB (zC (x,y) ?_))))))
 walk_at "w"
 rintro _ rfl
 refine⟨_,rfl,rfl,show 4<=1000 by decide,?_,?_⟩
 ·rintro D p ρ' es hp ho hes
  obtain⟨u,v,rfl⟩:=ho.two
  have hi:z5 rows wd p.1 p.2=true:=by
   simp only [ap0,aqN,or_false] at hp
   rcases hp with rfl | rfl | rfl | rfl
   ·exact i1
   ·exact i2
   ·exact i3
   ·exact i4
  obtain⟨r,h1,h2⟩:=abS g hi
  refine jl rfl (zG (zu (zG (zu (yG (yE ?_))))))
  rw [if_pos rfl]
  refine yi hes ?_
  unfold tab
  walk_at "w"
  refine⟨_,h1,?_⟩
  walk_at "w"
  refine⟨_,h2,?_⟩
  exact⟨.mk2,rfl⟩
 ·refine⟨[zL rows x y,zL rows (x+1) y,zL rows (x+1) (y+1),zL rows x (y+1)],rfl,?_⟩
  walk_at "w"
  rfl
def ad3 (rows:List (List Int)) (cut x y:Int):List PyData:=if (hiB rows cut x y == acp rows cut x y)=true then [pairD (x,y,0) (x+1,y,1),pairD (x,y,1) (x,y+1,0)] else [pairD (x,y,0) (x,y,1),pairD (x,y+1,0) (x+1,y,1)]
def thr (rows:List (List Int)) (wd:Nat) (cut x y:Int):List (Int×Int×Int):=(cg x y).filter (opG rows wd cut)
def akI:List (Int×Int×Int)->List PyData
 | a :: b :: _=>[pairD a b]
 | _=>[]
def ahj (rows:List (List Int)) (wd:Nat) (cut x y:Int):List PyData:=if ad2 rows wd cut x y=true then ad3 rows cut x y else akI (thr rows wd cut x y)
theorem amm {rows:List (List Int)} {wd:Nat} {cut x y:Int} (h:zS rows wd x y=true):thr rows wd cut x y=[] \/ ∃ a b r,thr rows wd cut x y=a :: b :: r:=by
 have e1:opG rows wd cut (x,y,0)=_:=ahg (cut:=cut) h
 have e2:opG rows wd cut (x,y,1)=_:=akH (cut:=cut) h
 have e3:opG rows wd cut (x,y+1,0)=_:=ahh (cut:=cut) h
 have e4:opG rows wd cut (x+1,y,1)=_:=ahi (cut:=cut) h
 unfold thr cg
 simp only [aqI,e1,e2,e3,e4,aui]
 cases hiB rows cut x y <;> cases hiB rows cut (x+1) y <;> cases hiB rows cut (x+1) (y+1) <;> cases hiB rows cut x (y+1) <;> simp
abbrev ae7 (K:apT):Sp:=spN K 3 aml fun c es=>es=ad3 c.1 c.2.2.1 c.2.2.2.1 c.2.2.2.2
theorem aiB (F:Def K mg "crossed_ties" y8 pj) (uap:FnIn P w K mg base k "cell_gates" pC (vh K)) (uar:FnIn P w K mg base k "stands_high" pF (ad0 K)) (ubg:FnIn P w K mg base k "has_high_middle" pj (am7 K)):FnIn P w K mg base (k+1) "crossed_ties" pj (ae7 K):=by
 refine F.okN sc_crossed_ties rfl fun fa cdv A outer s H E hr=>⟨_,(zi (yz (zp uap hr rfl (zc (pv 2) zh)) (agH (K:=K) (n:=4) rfl rfl (zx (zq (i:=3) sc_crossed_ties.nd rfl (Or.inl rfl) (Or.inr rfl)) (zx (zq (i:=4) sc_crossed_ties.nd rfl (Or.inl rfl) (Or.inr rfl)) (zx (zq (i:=5) sc_crossed_ties.nd rfl (Or.inl rfl) (Or.inr rfl)) (zx (zq (i:=6) sc_crossed_ties.nd rfl (Or.inl rfl) (Or.inr rfl)) z7)))))) (zi (yD (zZ (qB (K:=K) rfl hr.units) (zp uar hr rfl (zc (pv 0) (zc (pv 1) (zc (pv 2) zh)))) (zp ubg hr rfl (zc (pv 0) (zc (pv 1) (zc (pv 2) zh)))) (z3 _)) (zt (zE (yR (zc (z9 (zc (pv 3) (zc (pv 6) zh))) (zc (z9 (zc (pv 4) (zc (pv 5) zh))) zh))))) zX) (zt (zE (yR (zc (z9 (zc (pv 3) (zc (pv 4) zh))) (zc (z9 (zc (pv 5) (zc (pv 6) zh))) zh))))))),?_⟩
 rintro f xs ⟨rows,wd,cut,x,y⟩ hl ⟨rfl,g,hc⟩
 try dsimp only [yj,zm]
 dsimp only at *
 have hi:=(cell_in hc).1
 refine abx (yo (zC (x,y) ?_))
 walk_at "w"
 rintro _ rfl
 refine amX rfl (zG (zu (zG (zu (zG (zu (zG (zu (yG ?_)))))))))
 refine amZ (yw (jw (zC (rows,wd,cut,x,y) ?_)))
 walk_at "w"
 rintro _ rfl
 refine zC (rows,wd,cut,x,y) ?_
 walk_at "w"
 rintro _ rfl
 dsimp only
 walk_at "w"
 rw [if_neg apQ,ae2]
 unfold ad3
 refine yV (fun h=>?_) fun h=>?_
 ·rw [if_pos (show (hiB rows cut x y == acp rows cut x y)=true from h)]
  refine aes ?_
  walk_at "w"
  rfl
 ·rw [if_neg (show ¬ (hiB rows cut x y == acp rows cut x y)=true from by rw [show (hiB rows cut x y == acp rows cut x y)=false from h];exact apQ)]
  refine aet (aes ?_)
  walk_at "w"
  rfl
abbrev ahk (K:apT):Sp:=spN K 3 aml fun c es=>es=ahj c.1 c.2.1 c.2.2.1 c.2.2.2.1 c.2.2.2.2
theorem akJ (F:Def K mg "cell_ties" jW pj) (ubh:FnIn P w K mg base k "is_crossed" pj (acX K)) (ubi:FnIn P w K mg base k "crossed_ties" pj (ae7 K)) (uap:FnIn P w K mg base k "cell_gates" pC (vh K)) (uak:FnIn P w K mg base k "is_open" pf (aaD K)):FnIn P w K mg base (k+1) "cell_ties" pj (ahk K):=by
 refine F.okN sc_cell_ties rfl fun fa cdv A outer s H E hr=>⟨_,(zi (yD (z8 (K:=K) rfl (zp ubh hr rfl (zc (pv 0) (zc (pv 1) (zc (pv 2) zh)))) (fun _=>rfl)) (zt (zE (zp ubi hr rfl (zc (pv 0) (zc (pv 1) (zc (pv 2) zh)))))) zX) (zi (jj (i:=3) (N:=pD) (own:=1) (fr:=[0,1]) ⟨rfl,by decide +kernel,of_decide_eq_true (by kernel_rfl),of_decide_eq_true (by kernel_rfl),of_decide_eq_true (by kernel_rfl),rfl⟩ rfl sc_cell_ties.nd rfl (Or.inl rfl) (zR (K:=K) rfl (zp uap hr rfl (zc (pv 2) zh))) (fun _ _ _ _=>(zq (i:=0) (show (pD:List Str).Nodup by decide +kernel) rfl (Or.inl rfl) (Or.inr rfl))) (fun _ _ _ _=>(aa0 (z8 (K:=K) rfl (zp uak hr rfl (zc (pv 1) (zc (pv 2) (zc (pv 0) zh)))) (fun _=>rfl)))) (fun _ _ _ _=>(pv 0)) rfl rfl (fun _=>rfl) (Or.inl rfl) rfl) (zt (zE (qW (z8 (K:=K) rfl (pv 3) (fun _=>rfl)) (yR (zc (z9 (zc (zW (zK (K:=K) rfl) (pv 3) zo (fun _ _=>rfl)) (zc (zW (zK (K:=K) rfl) (pv 3) zo (fun _ _=>rfl)) zh))) zh)) (yR zh)))))),?_⟩
 rintro f xs ⟨rows,wd,cut,x,y⟩ hl ⟨rfl,g,hc⟩
 try dsimp only [yj,zm]
 dsimp only at *
 refine amZ (yP (zC (rows,wd,cut,x,y) ?_))
 walk_at "w"
 rintro _ rfl
 dsimp only
 refine⟨_,rfl,?_⟩
 unfold ahj
 refine yV (fun h=>?_) fun h=>?_
 ·rw [if_pos h]
  refine aby (rows,wd,cut,x,y) ?_
  walk_at "w"
  exact fun es he=>he
 ·rw [if_neg (by rw [h];exact apQ)]
  refine abx (yo (PEdO.ped (vc (yB (zC (x,y) ?_)))))
  walk_at "w"
  rintro _ rfl
  refine⟨_,rfl,fun n ρ es=>(∃ u,ρ=[u,some (.dat (tab rows)),some (.dat (.int cut))])/\es=(((cg x y).take n).filter (opG rows wd cut)).map gD3,⟨⟨_,rfl⟩,rfl⟩,?_,?_⟩
  ·rintro D n d ρ' es hd ⟨⟨u,rfl⟩,rfl⟩
   rw [apU] at hd
   cases hq:(cg x y)[n]? with
   | none=>rw [hq] at hd;cases hd
   | some q =>
    rw [hq] at hd
    cases hd
    have hn:n<(cg x y).length:=(apS.mp hq).1
    have n4:n<4:=hn
    have tk:(cg x y).take (n+1)=(cg x y).take n++[q]:=by
     rw [as2,hq]
     rfl
    have len:((((cg x y).take n).filter (opG rows wd cut)).map gD3).length<1000:=by
     rw [apP]
     have a1:=arE (opG rows wd cut) ((cg x y).take n)
     rw [aqD] at a1
     omega
    refine zu (yP (zC (rows,wd,cut,q.1,q.2.1,q.2.2) ?_))
    unfold gD3 at *
    walk_at "w"
    rintro _ rfl
    dsimp only
    refine⟨_,rfl,?_⟩
    refine yV (fun h=>?_) fun h=>?_
    ·refine yi len ?_
     walk_at "w"
     rw [tk,aq2,aqm,aqI,show opG rows wd cut q=true from h,if_pos rfl]
     rfl
    ·refine⟨⟨_,rfl⟩,?_⟩
     rw [tk,aq2,aqm,aqI,show opG rows wd cut q=false from h,if_neg apQ]
     simp
  ·rintro ρ' es ⟨_,rfl⟩
   rw [apP,aqy]
   rw [show List.filter (opG rows wd cut) (cg (x,y).1 (x,y).2)=thr rows wd cut x y from rfl]
   rcases amm (cut:=cut) hc with e | ⟨a,b,r,e⟩
   ·rw [e]
    refine zu (aet (am0 (yP (zv rfl ⟨false,rfl,?_⟩))))
    rw [if_neg apQ]
    exact amV rfl
   ·rw [e]
    have h0:atI ((a :: b :: r).map gD3) 0=some (gD3 a):=qM (xs:=a :: b :: r) (j:=0) rfl (atr _)
    have h1:atI ((a :: b :: r).map gD3) 1=some (gD3 b):=qM (xs:=a :: b :: r) (j:=1) rfl (Nat.succ_lt_succ (atr _))
    refine zu (aet (am0 (yP (zv rfl ⟨true,rfl,?_⟩))))
    rw [if_pos rfl]
    refine aes ?_
    walk_at "w"
    refine⟨_,h0,?_⟩
    walk_at "w"
    refine⟨_,h1,?_⟩
    walk_at "w"
    rfl
def opF (A B C D:Bool) (i:Fin 4):Bool:=match i with
 | 0=>A != B
 | 1=>A != D
 | 2=>D != C
 | 3=>B != C
def enF (A B C D:Bool) (i:Fin 4):Bool:=match i with
 | 0=>!A
 | 1=>A
 | 2=>D
 | 3=>!B
def abW (A B C D M:Bool):List (Fin 4×Fin 4) :=
 if (opF A B C D 0 && opF A B C D 1 && opF A B C D 2 && opF A B C D 3)=true then (if (A == M)=true then [(0,3),(1,2)] else [(0,1),(2,3)]) else
 match ([0,1,2,3]:List (Fin 4)).filter (opF A B C D) with
 | a :: b :: _=>[(a,b)]
 | _=>[]
def prt {α:Type} [DecidableEq α] (l:List (α×α)) (g:α):Option α:=l.findSome? fun p=>if p.1=g then some p.2 else if p.2=g then some p.1 else none
theorem amn:∀ (A B C D M:Bool) (i:Fin 4),opF A B C D i=true->∃ j,prt (abW A B C D M) i=some j/\j≠i/\opF A B C D j=true/\prt (abW A B C D M) j=some i/\enF A B C D j=!enF A B C D i:=by decide
theorem ae8:∀ (A B C D M:Bool),abW A B C D M=[] \/ (∃ a b,a≠b/\abW A B C D M=[(a,b)]) \/ ∃ a b c d,a≠b/\a≠c/\a≠d/\b≠c/\b≠d/\c≠d/\abW A B C D M=[(a,b),(c,d)]:=by decide
abbrev Gt:=Int×Int×Int
def gt (x y:Int) (i:Fin 4):Gt:=match i with
 | 0=>(x,y,0)
 | 1=>(x,y,1)
 | 2=>(x,y+1,0)
 | 3=>(x+1,y,1)
theorem ad4 {x y:Int} {i j:Fin 4} (h:gt x y i=gt x y j):i=j:=by
 have h1:(gt x y i).1=(gt x y j).1:=by rw [h]
 have h2:(gt x y i).2.1=(gt x y j).2.1:=by rw [h]
 have h3:(gt x y i).2.2=(gt x y j).2.2:=by rw [h]
 revert h1 h2 h3
 clear h
 match i,j with
 | 0,0=>intros;rfl
 | 0,1=>intro _ _ h;simp [gt] at h
 | 0,2=>intro _ h _;simp [gt] at h;omega
 | 0,3=>intro _ _ h;simp [gt] at h
 | 1,0=>intro _ _ h;simp [gt] at h
 | 1,1=>intros;rfl
 | 1,2=>intro _ _ h;simp [gt] at h
 | 1,3=>intro h _ _;simp [gt] at h;omega
 | 2,0=>intro _ h _;simp [gt] at h;omega
 | 2,1=>intro _ _ h;simp [gt] at h
 | 2,2=>intros;rfl
 | 2,3=>intro _ _ h;simp [gt] at h
 | 3,0=>intro _ _ h;simp [gt] at h
 | 3,1=>intro h _ _;simp [gt] at h;omega
 | 3,2=>intro _ _ h;simp [gt] at h
 | 3,3=>intros;rfl
theorem ahl {α β:Type} [DecidableEq α] [DecidableEq β] {f:α->β} (inj:∀ i j,f i=f j->i=j) (l:List (α×α)) (i:α):prt (l.map fun p=>(f p.1,f p.2)) (f i)=(prt l i).map f:=by
 unfold prt
 induction l with
 | nil=>rfl
 | cons p l ih =>
  rw [aqf,asI,asI]
  have e1:(f p.1=f i)↔p.1=i:=⟨inj _ _,fun z=>by rw [z]⟩
  have e2:(f p.2=f i)↔p.2=i:=⟨inj _ _,fun z=>by rw [z]⟩
  by_cases h1:p.1=i
  ·rw [if_pos h1,if_pos (e1.mpr h1)];rfl
  ·rw [if_neg h1,if_neg (fun z=>h1 (e1.mp z))]
   by_cases h2:p.2=i
   ·rw [if_pos h2,if_pos (e2.mpr h2)];rfl
   ·rw [if_neg h2,if_neg (fun z=>h2 (e2.mp z))];exact ih
section
variable (rows:List (List Int)) (wd:Nat) (cut:Int)
def t4 (x y:Int):List (Fin 4×Fin 4):=abW (hiB rows cut x y) (hiB rows cut (x+1) y) (hiB rows cut (x+1) (y+1)) (hiB rows cut x (y+1)) (acp rows cut x y)
def qv (x y:Int):List (Gt×Gt):=(t4 rows cut x y).map fun p=>(gt x y p.1,gt x y p.2)
def jt (w:Int) (h:Bool):Int×Int:=if w=0 then (if h=true then (0,-1) else (0,0)) else (if h=true then (0,0) else (-1,0))
def ju (w:Int) (h:Bool):Int×Int:=if w=0 then (if h=true then (0,0) else (0,-1)) else (if h=true then (-1,0) else (0,0))
def ahC (g:Gt):Int×Int:=(g.1+(jt g.2.2 (hiB rows cut g.1 g.2.1)).1,g.2.1+(jt g.2.2 (hiB rows cut g.1 g.2.1)).2)
def bhC (g:Gt):Int×Int:=(g.1+(ju g.2.2 (hiB rows cut g.1 g.2.1)).1,g.2.1+(ju g.2.2 (hiB rows cut g.1 g.2.1)).2)
def zP (g:Gt):Option Gt:=if zS rows wd (ahC rows cut g).1 (ahC rows cut g).2=true then prt (qv rows cut (ahC rows cut g).1 (ahC rows cut g).2) g else none
def yF (g:Gt):Option Gt:=if zS rows wd (bhC rows cut g).1 (bhC rows cut g).2=true then prt (qv rows cut (bhC rows cut g).1 (bhC rows cut g).2) g else none
end
section
variable {rows:List (List Int)} {wd:Nat} {cut x y:Int}
theorem aaE (h:zS rows wd x y=true) (i:Fin 4):opG rows wd cut (gt x y i)=opF (hiB rows cut x y) (hiB rows cut (x+1) y) (hiB rows cut (x+1) (y+1)) (hiB rows cut x (y+1)) i:=by
 match i with
 | 0=>exact ahg h
 | 1=>exact akH h
 | 2=>exact ahh h
 | 3=>exact ahi h
theorem ahm (i:Fin 4):(ahC rows cut (gt x y i)=(x,y)↔enF (hiB rows cut x y) (hiB rows cut (x+1) y) (hiB rows cut (x+1) (y+1)) (hiB rows cut x (y+1)) i=true)/\(bhC rows cut (gt x y i)=(x,y)↔enF (hiB rows cut x y) (hiB rows cut (x+1) y) (hiB rows cut (x+1) (y+1)) (hiB rows cut x (y+1)) i=false):=by
 unfold ahC bhC
 match i with
 | 0 =>
  show ((x+(jt 0 (hiB rows cut x y)).1,y+(jt 0 (hiB rows cut x y)).2)=(x,y)↔(!hiB rows cut x y)=true)/\((x+(ju 0 (hiB rows cut x y)).1,y+(ju 0 (hiB rows cut x y)).2)=(x,y)↔(!hiB rows cut x y)=false)
  cases hiB rows cut x y <;> simp [jt,ju] <;> omega
 | 1 =>
  show ((x+(jt 1 (hiB rows cut x y)).1,y+(jt 1 (hiB rows cut x y)).2)=(x,y)↔hiB rows cut x y=true)/\((x+(ju 1 (hiB rows cut x y)).1,y+(ju 1 (hiB rows cut x y)).2)=(x,y)↔hiB rows cut x y=false)
  cases hiB rows cut x y <;> simp [jt,ju] <;> omega
 | 2 =>
  show ((x+(jt 0 (hiB rows cut x (y+1))).1,y+1+(jt 0 (hiB rows cut x (y+1))).2)=(x,y)↔hiB rows cut x (y+1)=true)/\((x+(ju 0 (hiB rows cut x (y+1))).1,y+1+(ju 0 (hiB rows cut x (y+1))).2)=(x,y)↔hiB rows cut x (y+1)=false)
  cases hiB rows cut x (y+1) <;> simp [jt,ju] <;> omega
 | 3 =>
  show ((x+1+(jt 1 (hiB rows cut (x+1) y)).1,y+(jt 1 (hiB rows cut (x+1) y)).2)=(x,y)↔(!hiB rows cut (x+1) y)=true)/\((x+1+(ju 1 (hiB rows cut (x+1) y)).1,y+(ju 1 (hiB rows cut (x+1) y)).2)=(x,y)↔(!hiB rows cut (x+1) y)=false)
  cases hiB rows cut (x+1) y <;> simp [jt,ju] <;> omega
theorem ahn (h:zS rows wd x y=true) {i:Fin 4} (o:opG rows wd cut (gt x y i)=true):∃ j,prt (qv rows cut x y) (gt x y i)=some (gt x y j)/\j≠i/\opG rows wd cut (gt x y j)=true/\prt (qv rows cut x y) (gt x y j)=some (gt x y i) /\
  (ahC rows cut (gt x y i)=(x,y)->bhC rows cut (gt x y j)=(x,y))/\(bhC rows cut (gt x y i)=(x,y)->ahC rows cut (gt x y j)=(x,y)):=by
 rw [aaE h] at o
 obtain⟨j,h1,h2,h3,h4,h5⟩:=amn _ _ _ _ (acp rows cut x y) i o
 have inj:∀ i j,gt x y i=gt x y j->i=j:=fun _ _=>ad4
 refine⟨j,?_,h2,by rw [aaE h];exact h3,?_,fun z=>?_,fun z=>?_⟩
 ·unfold qv t4
  rw [ahl inj,h1]
  rfl
 ·unfold qv t4
  rw [ahl inj,h4]
  rfl
 ·rw [(ahm j).2,h5,(ahm i).1.mp z]
  rfl
 ·rw [(ahm j).1,h5,(ahm i).2.mp z]
  rfl
theorem akK (g:Gt) (hw:g.2.2=0 \/ g.2.2=1):∃ i,g=gt (ahC rows cut g).1 (ahC rows cut g).2 i:=by
 obtain⟨x,y,w⟩:=g
 unfold ahC
 dsimp only at hw ⊢
 rcases hw with rfl | rfl
 ·cases hiB rows cut x y
  ·exact⟨0,by simp [jt,gt]⟩
  ·exact⟨2,by simp [jt,gt];omega⟩
 ·cases hiB rows cut x y
  ·exact⟨3,by simp [jt,gt];omega⟩
  ·exact⟨1,by simp [jt,gt]⟩
theorem acY (g:Gt) (hw:g.2.2=0 \/ g.2.2=1):∃ i,g=gt (bhC rows cut g).1 (bhC rows cut g).2 i:=by
 obtain⟨x,y,w⟩:=g
 unfold bhC
 dsimp only at hw ⊢
 rcases hw with rfl | rfl
 ·cases hiB rows cut x y
  ·exact⟨2,by simp [ju,gt];omega⟩
  ·exact⟨0,by simp [ju,gt]⟩
 ·cases hiB rows cut x y
  ·exact⟨1,by simp [ju,gt]⟩
  ·exact⟨3,by simp [ju,gt];omega⟩
theorem qO {g:Gt} (o:opG rows wd cut g=true):g.2.2=0 \/ g.2.2=1:=by
 unfold opG yC qj at o
 rw [ap3,ap3] at o
 exact of_decide_eq_true o.1.1
theorem qe {g:Gt} (o:opG rows wd cut g=true) (h:zS rows wd (ahC rows cut g).1 (ahC rows cut g).2=true):∃ n,zP rows wd cut g=some n/\n≠g/\opG rows wd cut n=true/\bhC rows cut n=ahC rows cut g/\yF rows wd cut n=some g:=by
 obtain⟨i,ei⟩:=akK (rows:=rows) (cut:=cut) g (qO o)
 have o':=o
 rw [ei] at o'
 obtain⟨j,h1,h2,h3,h4,h5,_⟩:=ahn h o'
 rw [<-ei] at h1 h4 h5
 have hb:=h5 rfl
 refine⟨gt (ahC rows cut g).1 (ahC rows cut g).2 j,?_,fun z=>h2 (ad4 (z.trans ei)),h3,hb,?_⟩
 ·unfold zP
  rw [if_pos h]
  exact h1
 ·unfold yF
  rw [hb,if_pos h]
  exact h4
theorem abb {g:Gt} (o:opG rows wd cut g=true) (h:zS rows wd (bhC rows cut g).1 (bhC rows cut g).2=true):∃ n,yF rows wd cut g=some n/\n≠g/\opG rows wd cut n=true/\ahC rows cut n=bhC rows cut g/\zP rows wd cut n=some g:=by
 obtain⟨i,ei⟩:=acY (rows:=rows) (cut:=cut) g (qO o)
 have o':=o
 rw [ei] at o'
 obtain⟨j,h1,h2,h3,h4,_,h5⟩:=ahn h o'
 rw [<-ei] at h1 h4 h5
 have hb:=h5 rfl
 refine⟨gt (bhC rows cut g).1 (bhC rows cut g).2 j,?_,fun z=>h2 (ad4 (z.trans ei)),h3,hb,?_⟩
 ·unfold yF
  rw [if_pos h]
  exact h1
 ·unfold zP
  rw [hb,if_pos h]
  exact h4
theorem abX {g g' n:Gt} (o:opG rows wd cut g=true) (o':opG rows wd cut g'=true) (h:zP rows wd cut g=some n) (h':zP rows wd cut g'=some n):g=g':=by
 have c:zS rows wd (ahC rows cut g).1 (ahC rows cut g).2=true:=by
  unfold zP at h
  by_cases z:zS rows wd (ahC rows cut g).1 (ahC rows cut g).2=true
  ·exact z
  ·rw [if_neg z] at h;cases h
 have c':zS rows wd (ahC rows cut g').1 (ahC rows cut g').2=true:=by
  unfold zP at h'
  by_cases z:zS rows wd (ahC rows cut g').1 (ahC rows cut g').2=true
  ·exact z
  ·rw [if_neg z] at h';cases h'
 obtain⟨m,a1,_,_,_,a2⟩:=qe o c
 obtain⟨m',b1,_,_,_,b2⟩:=qe o' c'
 rw [h] at a1
 rw [h'] at b1
 cases a1
 cases b1
 rw [a2] at b2
 exact Option.some.inj b2
theorem vC {g n:Gt} (o:opG rows wd cut g=true) (h:zP rows wd cut g=some n):opG rows wd cut n=true/\n≠g:=by
 have c:zS rows wd (ahC rows cut g).1 (ahC rows cut g).2=true:=by
  unfold zP at h
  by_cases z:zS rows wd (ahC rows cut g).1 (ahC rows cut g).2=true
  ·exact z
  ·rw [if_neg z] at h;cases h
 obtain⟨m,a1,a2,a3,_,_⟩:=qe o c
 rw [h] at a1
 cases a1
 exact⟨a3,a2⟩
end
abbrev agh (K:apT):Sp:=spD K 3 (fun (c:List (List Int)×Nat×Int×Int×Int×Int) xs=>xs=[.dat (tab c.1),.dat (.int c.2.2.1),.dat (j9 c.2.2.2.1 c.2.2.2.2.1 c.2.2.2.2.2)]/\Good c.2.1 c.1/\z5 c.1 c.2.1 c.2.2.2.1 c.2.2.2.2.1=true) fun c r=>r=.str (acT c.1 c.2.2.1 c.2.2.2.1 c.2.2.2.2.1 c.2.2.2.2.2)
theorem agi (F:Def K mg "heading" vy pf) (uar:FnIn P w K mg base k "stands_high" pF (ad0 K)):FnIn P w K mg base (k+1) "heading" pf (agh K):=by
 refine F.ok sc_heading rfl fun fa cdv A outer s H E hr=>⟨_,(zi (yz (pv 2) (ye (K:=K) (n:=3) rfl rfl (zx (zq (i:=3) sc_heading.nd rfl (Or.inl rfl) (Or.inr rfl)) (zx (zq (i:=4) sc_heading.nd rfl (Or.inl rfl) (Or.inr rfl)) (zx (zq (i:=5) sc_heading.nd rfl (Or.inl rfl) (Or.inr rfl)) z7))))) (zi (zY (i:=6) sc_heading.nd rfl (Or.inl rfl) (zp uar hr rfl (zc (pv 0) (zc (pv 1) (zc (z9 (zc (pv 3) (zc (pv 4) zh))) zh))))) (zi (yD (zZ (qB (K:=K) rfl hr.units) (pv 5) zo (z3 _)) (zt (zE (qW (z8 (K:=K) rfl (pv 6) (fun _=>rfl)) qS qS))) zX) (zt (zE (qW (z8 (K:=K) rfl (pv 6) (fun _=>rfl)) qS qS)))))),?_⟩
 rintro f xs ⟨rows,wd,cut,x,y,w⟩ hl ⟨rfl,g,hi⟩
 try dsimp only [yj,zm]
 dsimp only at *
 unfold j9
 refine yn (yo (zv rfl (jl rfl (zG (zu (zG (zu (zG (zu (yG ?_))))))))))
 refine yn (yo (zC (rows,wd,cut,x,y) ?_))
 walk_at "w"
 rintro _ rfl
 dsimp only
 walk_at "w"
 rw [if_neg apQ,adZ]
 unfold acT
 refine yV (fun h=>?_) fun h=>?_
 ·have h':=of_decide_eq_true h
  rw [if_pos h']
  walk_at "w"
  refine yV (fun h2=>?_) fun h2=>?_
  ·walk_at "w"
   rw [if_pos (of_decide_eq_true h2)]
  ·walk_at "w"
   rw [if_neg (of_decide_eq_false h2)]
 ·have h':=of_decide_eq_false h
  rw [if_neg h']
  walk_at "w"
  refine yV (fun h2=>?_) fun h2=>?_
  ·walk_at "w"
   rw [if_pos (of_decide_eq_true h2)]
  ·walk_at "w"
   rw [if_neg (of_decide_eq_false h2)]
abbrev aoI:List (Str×List Int):=[("down",[0,0]),("up",[0,-1]),("right",[0,0]),("left",[-1,0])]
abbrev akL:List (Str×List Int):=[("down",[0,-1]),("up",[0,0]),("right",[-1,0]),("left",[0,0])]
theorem aoJ {rows:List (List Int)} {cut x y w:Int} (hw:w=0 \/ w=1):auA (acT rows cut x y w) aoI=some [(jt w (hiB rows cut x y)).1,(jt w (hiB rows cut x y)).2]:=by
 unfold acT jt hiB
 rcases hw with rfl | rfl
 ·by_cases h:cut<zL rows x y
  ·rw [if_pos rfl,if_pos h,if_pos rfl,decide_eq_true h,if_pos rfl];decide +kernel
  ·rw [if_pos rfl,if_neg h,if_pos rfl,decide_eq_false h,if_neg apQ];decide +kernel
 ·have e:¬ ((1:Int)=0):=by decide
  by_cases h:cut<zL rows x y
  ·rw [if_neg e,if_pos h,if_neg e,decide_eq_true h,if_pos rfl];decide +kernel
  ·rw [if_neg e,if_neg h,if_neg e,decide_eq_false h,if_neg apQ];decide +kernel
theorem aoK {rows:List (List Int)} {cut x y w:Int} (hw:w=0 \/ w=1):auA (acT rows cut x y w) akL=some [(ju w (hiB rows cut x y)).1,(ju w (hiB rows cut x y)).2]:=by
 unfold acT ju hiB
 rcases hw with rfl | rfl
 ·by_cases h:cut<zL rows x y
  ·rw [if_pos rfl,if_pos h,if_pos rfl,decide_eq_true h,if_pos rfl];decide +kernel
  ·rw [if_pos rfl,if_neg h,if_pos rfl,decide_eq_false h,if_neg apQ];decide +kernel
 ·have e:¬ ((1:Int)=0):=by decide
  by_cases h:cut<zL rows x y
  ·rw [if_neg e,if_pos h,if_neg e,decide_eq_true h,if_pos rfl];decide +kernel
  ·rw [if_neg e,if_neg h,if_neg e,decide_eq_false h,if_neg apQ];decide +kernel
theorem agj {rows:List (List Int)} {wd:Nat} {cut:Int} {g:Gt} (o:opG rows wd cut g=true):z5 rows wd g.1 g.2.1=true:=by
 unfold opG yC qj at o
 rw [ap3,ap3,ap3] at o
 exact o.1.2.1
abbrev GO:=List (List Int)×Nat×Int×Gt
abbrev amo (c:GO) (xs:List DV):Prop:=xs=[.dat (tab c.1),.dat (.int c.2.2.1),.dat (gD3 c.2.2.2)]/\Good c.2.1 c.1/\opG c.1 c.2.1 c.2.2.1 c.2.2.2=true
abbrev abY (K:apT):Sp:=spD K 3 amo fun c r=>r=.tuple [.int (ahC c.1 c.2.2.1 c.2.2.2).1,.int (ahC c.1 c.2.2.1 c.2.2.2).2]
theorem aiC {uav:Addr} (F:Def K mg "cell_ahead" jC pf) (uaE:mg "AHEAD"=some (.ref uav)) (uaw:ah5 K uav aoI=true) (uaF:FnIn P w K mg base k "heading" pf (agh K)):FnIn P w K mg base (k+1) "cell_ahead" pf (abY K):=by
 refine F.ok sc_cell_ahead rfl fun fa cdv A outer s H E hr=>⟨_,(zi (yz (ajY (K:=K) rfl rfl uaE uaw (zp uaF hr rfl (zc (pv 0) (zc (pv 1) (zc (pv 2) zh)))) (fun _ _=>rfl)) (ye (K:=K) (n:=2) rfl rfl (zx (zq (i:=3) sc_cell_ahead.nd rfl (Or.inl rfl) (Or.inr rfl)) (zx (zq (i:=4) sc_cell_ahead.nd rfl (Or.inl rfl) (Or.inr rfl)) z7)))) (zt (zE (z9 (zc (zM yb (zW (yv (K:=K) rfl) (pv 2) zo (fun _ _=>rfl)) (pv 3)) (zc (zM yb (zW (yv (K:=K) rfl) (pv 2) zo (fun _ _=>rfl)) (pv 4)) zh)))))),?_⟩
 rintro f xs ⟨rows,wd,cut,x,y,w⟩ hl ⟨rfl,g,o⟩
 try dsimp only [yj,zm]
 dsimp only at *
 have hw:=qO o
 have hin:=agj o
 refine yn (yo (am2 (zC (rows,wd,cut,x,y,w) ?_)))
 unfold gD3 at *
 walk_at "w"
 rintro _ rfl
 refine⟨_,_,rfl,aoJ hw,?_⟩
 refine jl rfl (zG (zu (zG (zu (yG ?_)))))
 walk_at "w"
 rfl
abbrev ad5 (K:apT):Sp:=spD K 3 amo fun c r=>r=.bool (!zS c.1 c.2.1 (bhC c.1 c.2.2.1 c.2.2.2).1 (bhC c.1 c.2.2.1 c.2.2.2).2)
theorem akM {uax:Addr} (F:Def K mg "comes_in" qH pf) (uaG:mg "BEHIND"=some (.ref uax)) (uay:ah5 K uax akL=true) (uaF:FnIn P w K mg base k "heading" pf (agh K)) (uaH:FnIn P w K mg base k "has_cell" pz (age K)):FnIn P w K mg base (k+1) "comes_in" pf (ad5 K):=by
 refine F.ok sc_comes_in rfl fun fa cdv A outer s H E hr=>⟨_,(zi (yz (ajY (K:=K) rfl rfl uaG uay (zp uaF hr rfl (zc (pv 0) (zc (pv 1) (zc (pv 2) zh)))) (fun _ _=>rfl)) (ye (K:=K) (n:=2) rfl rfl (zx (zq (i:=3) sc_comes_in.nd rfl (Or.inl rfl) (Or.inr rfl)) (zx (zq (i:=4) sc_comes_in.nd rfl (Or.inl rfl) (Or.inr rfl)) z7)))) (zt (zE (anl (zp uaH hr rfl (zc (pv 0) (zc (zM yb (zW (yv (K:=K) rfl) (pv 2) zo (fun _ _=>rfl)) (pv 3)) (zc (zM yb (zW (yv (K:=K) rfl) (pv 2) zo (fun _ _=>rfl)) (pv 4)) zh)))))))),?_⟩
 rintro f xs ⟨rows,wd,cut,x,y,w⟩ hl ⟨rfl,g,o⟩
 try dsimp only [yj,zm]
 dsimp only at *
 have hw:=qO o
 have hin:=agj o
 refine yn (yo (am2 (zC (rows,wd,cut,x,y,w) ?_)))
 unfold gD3 at *
 walk_at "w"
 rintro _ rfl
 refine⟨_,_,rfl,aoK hw,?_⟩
 refine jl rfl (zG (zu (zG (zu (yG ?_)))))
 walk_at "w"
 refine zC (rows,wd,(bhC rows cut (x,y,w)).1,(bhC rows cut (x,y,w)).2) ?_
 walk_at "w"
 rintro _ rfl
 exact⟨_,rfl,rfl⟩
noncomputable def vM:List (Gt×Gt)->List (PyData×PyData)->List (PyData×PyData)
 | [],kvs=>kvs
 | p :: l,kvs=>vM l (dput (gD3 p.2) (gD3 p.1) (dput (gD3 p.1) (gD3 p.2) kvs))
theorem agk (l:List (Gt×Gt)) (p:Gt×Gt):∀ kvs,vM (l++[p]) kvs=dput (gD3 p.2) (gD3 p.1) (dput (gD3 p.1) (gD3 p.2) (vM l kvs)):=by
 induction l with
 | nil=>intro kvs;rfl
 | cons q l ih=>intro kvs;exact ih _
theorem abZ (a b:PyData) (kvs:List (PyData×PyData)):(dput a b kvs).length<=kvs.length+1:=by
 unfold dput
 split
 ·rw [apP];omega
 ·rw [aqa];exact apY _
theorem aiD (l:List (Gt×Gt)):∀ kvs,(vM l kvs).length<=kvs.length+2 * l.length:=by
 induction l with
 | nil=>intro kvs;exact apY _
 | cons q l ih =>
  intro kvs
  have h1:=ih (dput (gD3 q.2) (gD3 q.1) (dput (gD3 q.1) (gD3 q.2) kvs))
  have h2:=abZ (gD3 q.2) (gD3 q.1) (dput (gD3 q.1) (gD3 q.2) kvs)
  have h3:=abZ (gD3 q.1) (gD3 q.2) kvs
  show (vM l _).length<=_
  rw [ap8]
  omega
theorem ad6 {a b:Gt} (h:gD3 a=gD3 b):a=b:=by
 obtain⟨x,y,w⟩:=a
 obtain⟨x',y',w'⟩:=b
 unfold gD3 j9 at h
 simp at h
 simp [h]
theorem akN {rows:List (List Int)} {wd:Nat} {cut x y:Int} (h:zS rows wd x y=true):ahj rows wd cut x y=(qv rows cut x y).map fun p=>pairD p.1 p.2:=by
 have e0:opG rows wd cut (x,y,0)=_:=aaE (cut:=cut) h 0
 have e1:opG rows wd cut (x,y,1)=_:=aaE (cut:=cut) h 1
 have e2:opG rows wd cut (x,y+1,0)=_:=aaE (cut:=cut) h 2
 have e3:opG rows wd cut (x+1,y,1)=_:=aaE (cut:=cut) h 3
 unfold ahj qv t4 ad2 ad3 thr cg abW
 simp only [auH,List.all_nil,aqI,aui,e0,e1,e2,e3,at3]
 generalize acp rows cut x y=M
 generalize hiB rows cut x y=A
 generalize hiB rows cut (x+1) y=B
 generalize hiB rows cut (x+1) (y+1)=C
 generalize hiB rows cut x (y+1)=D
 cases A <;> cases B <;> cases C <;> cases D <;> cases M <;> rfl
theorem akO {rows:List (List Int)} {cut x y:Int} {g n:Gt} (h:prt (qv rows cut x y) g=some n):v8 (gD3 g) (vM (qv rows cut x y) [])=some (gD3 n):=by
 have key:∀ a b:Gt,a≠b->gD3 a≠gD3 b:=fun a b ne z=>ne (ad6 z)
 have inj:∀ i j:Fin 4,i≠j->gt x y i≠gt x y j:=fun i j ne z=>ne (ad4 z)
 unfold qv t4 at h ⊢
 rcases ae8 (hiB rows cut x y) (hiB rows cut (x+1) y) (hiB rows cut (x+1) (y+1)) (hiB rows cut x (y+1)) (acp rows cut x y) with e | ⟨a,b,n1,e⟩ | ⟨a,b,c,d,n1,n2,n3,n4,n5,n6,e⟩
 ·rw [e] at h;cases h
 ·rw [e] at h ⊢
  have k1:=key _ _ (inj a b n1)
  have k1':=arw k1
  simp only [aqf,atq,vM] at h ⊢
  unfold prt at h
  simp only [asI,List.findSome?_nil] at h
  by_cases c1:gt x y a=g
  ·rw [if_pos c1] at h
   cases h
   simp [dput,v8,k1,k1',<- c1]
  ·rw [if_neg c1] at h
   by_cases c2:gt x y b=g
   ·rw [if_pos c2] at h
    cases h
    simp [dput,v8,k1,k1',<- c2]
   ·rw [if_neg c2] at h;cases h
 ·rw [e] at h ⊢
  have k1:=key _ _ (inj a b n1)
  have k2:=key _ _ (inj a c n2)
  have k3:=key _ _ (inj a d n3)
  have k4:=key _ _ (inj b c n4)
  have k5:=key _ _ (inj b d n5)
  have k6:=key _ _ (inj c d n6)
  have j1:=arw k1
  have j2:=arw k2
  have j3:=arw k3
  have j4:=arw k4
  have j5:=arw k5
  have j6:=arw k6
  simp only [aqf,atq,vM] at h ⊢
  unfold prt at h
  simp only [asI,List.findSome?_nil] at h
  by_cases c1:gt x y a=g
  ·rw [if_pos c1] at h
   cases h
   simp [dput,v8,k1,k2,k3,k4,k5,k6,j1,j2,j3,j4,j5,j6,<- c1]
  ·rw [if_neg c1] at h
   by_cases c2:gt x y b=g
   ·rw [if_pos c2] at h
    cases h
    simp [dput,v8,k1,k2,k3,k4,k5,k6,j1,j2,j3,j4,j5,j6,<- c2]
   ·rw [if_neg c2] at h
    by_cases c3:gt x y c=g
    ·rw [if_pos c3] at h
     cases h
     simp [dput,v8,k1,k2,k3,k4,k5,k6,j1,j2,j3,j4,j5,j6,<- c3]
    ·rw [if_neg c3] at h
     by_cases c4:gt x y d=g
     ·rw [if_pos c4] at h
      cases h
      simp [dput,v8,k1,k2,k3,k4,k5,k6,j1,j2,j3,j4,j5,j6,<- c4]
     ·rw [if_neg c4] at h;cases h
def aaX:Option Gt->PyData
 | none=>.none
 | some g=>gD3 g
abbrev ab0 (K:apT):Sp:=spD K 3 amo fun c r=>r=aaX (zP c.1 c.2.1 c.2.2.1 c.2.2.2)
theorem vj (g:Gt):abG (gD3 g):=⟨⟨rfl,auo rfl⟩,_,rfl⟩
theorem amq (F:Def K mg "gate_ahead" jD pf) (uaI:FnIn P w K mg base k "cell_ahead" pf (abY K)) (uaH:FnIn P w K mg base k "has_cell" pz (age K)) (ubj:FnIn P w K mg base k "cell_ties" pj (ahk K)) :
  FnIn P w K mg base (k+1) "gate_ahead" pf (ab0 K):=by
 refine F.ok sc_gate_ahead rfl fun fa cdv A outer s H E hr=>⟨_,(zi (yz (zp uaI hr rfl (zc (pv 0) (zc (pv 1) (zc (pv 2) zh)))) (ye (K:=K) (n:=2) rfl rfl (zx (zq (i:=3) sc_gate_ahead.nd rfl (Or.inl rfl) (Or.inr rfl)) (zx (zq (i:=4) sc_gate_ahead.nd rfl (Or.inl rfl) (Or.inr rfl)) z7)))) (zi (yD (y3 (z8 (K:=K) rfl (zp uaH hr rfl (zc (pv 0) (zc (pv 3) (zc (pv 4) zh)))) (fun _=>rfl))) (zt (zE aai)) zX) (zi (zY (i:=5) sc_gate_ahead.nd rfl (Or.inl rfl) (acN (w:=w) rfl)) (zi (jF aqV rfl (zR (K:=K) rfl (zp ubj hr rfl (zc (pv 0) (zc (pv 1) (zc (z9 (zc (pv 3) (zc (pv 4) zh))) zh))))) (ye (K:=K) (n:=2) rfl rfl (zx (zq (i:=6) sc_gate_ahead.nd rfl (Or.inl rfl) (Or.inr rfl)) (zx (zq (i:=7) sc_gate_ahead.nd rfl (Or.inl rfl) (Or.inr rfl)) z7))) (zi (yz (pv 7) (aaj (pv 5) (pv 6) (abI (w:=w) (K:=K) rfl rfl hr.units))) (zt (yz (pv 6) (aaj (pv 5) (pv 7) (abI (w:=w) (K:=K) rfl rfl hr.units)))))) (zt (zE (zW (alJ (w:=w) (K:=K) rfl rfl hr.units) (pv 5) (pv 2) (fun _ _=>rfl)))))))),?_⟩
 rintro f xs ⟨rows,wd,cut,g⟩ hl ⟨rfl,gd,o⟩
 try dsimp only [yj,zm]
 dsimp only at *
 refine yn (yo (zC (rows,wd,cut,g) ?_))
 walk_at "w"
 rintro _ rfl
 dsimp only
 refine jl rfl (zG (zu (zG (zu (yG ?_)))))
 refine yn (ach (jR (yP (zC (rows,wd,(ahC rows cut g).1,(ahC rows cut g).2) ?_))))
 walk_at "w"
 rintro _ rfl
 refine⟨_,rfl,?_⟩
 dsimp only
 refine yV (fun h=>?_) fun h=>?_
 ·have hc:zS rows wd (ahC rows cut g).1 (ahC rows cut g).2=false:=by simpa using h
  walk_at "w"
  unfold zP
  rw [hc,if_neg apQ]
  rfl
 ·have hc:zS rows wd (ahC rows cut g).1 (ahC rows cut g).2=true:=by simpa using h
  obtain⟨n,hn,_⟩:=qe o hc
  have hp:prt (qv rows cut (ahC rows cut g).1 (ahC rows cut g).2) g=some n:=by
   unfold zP at hn
   rw [if_pos hc] at hn
   exact hn
  have tl:(qv rows cut (ahC rows cut g).1 (ahC rows cut g).2).length<=2:=by
   unfold qv t4
   rw [apP]
   rcases ae8 (hiB rows cut (ahC rows cut g).1 (ahC rows cut g).2) (hiB rows cut ((ahC rows cut g).1+1) (ahC rows cut g).2) (hiB rows cut ((ahC rows cut g).1+1) ((ahC rows cut g).2+1)) (hiB rows cut (ahC rows cut g).1 ((ahC rows cut g).2+1)) (acp rows cut (ahC rows cut g).1 (ahC rows cut g).2) with e | ⟨a,b,n1,e⟩ | ⟨a,b,c,d,n1,n2,n3,n4,n5,n6,e⟩ <;> rw [e] <;> simp
  refine qm (afK (w:=w) (ajQ (ajW ⟨show 5<8 by decide,fun D=>?_⟩)))
  refine v7 (aeE (yB (PEdO.ped (aby (rows,wd,cut,(ahC rows cut g).1,(ahC rows cut g).2) ?_))))
  walk_at "w"
  rintro _ rfl
  dsimp only
  rw [akN hc]
  refine⟨_,rfl,fun i ρ cs=>(∃ u v,ρ=[some (.dat (tab rows)),some (.dat (.int cut)),some (.dat (gD3 g)),some (.dat (.int (ahC rows cut g).1)),some (.dat (.int (ahC rows cut g).2)),some (.own (f.M.length+0)),u,v])/\cs=[.dic (vM ((qv rows cut (ahC rows cut g).1 (ahC rows cut g).2).take i) [])],⟨⟨_,_,rfl⟩,rfl⟩,?_,?_⟩
  ·rintro i d _ _ hd ⟨⟨u,v,rfl⟩,rfl⟩
   rw [apU] at hd
   cases hq:(qv rows cut (ahC rows cut g).1 (ahC rows cut g).2)[i]? with
   | none=>rw [hq] at hd;cases hd
   | some q =>
    rw [hq] at hd
    cases hd
    have tk:(qv rows cut (ahC rows cut g).1 (ahC rows cut g).2).take (i+1)=(qv rows cut (ahC rows cut g).1 (ahC rows cut g).2).take i++[q]:=by
     rw [as2,hq]
     rfl
    have hl:=aiD ((qv rows cut (ahC rows cut g).1 (ahC rows cut g).2).take i) []
    rw [aqD] at hl
    simp only [arh] at hl
    refine jl rfl (zG (zu (zG (zu (yG ?_)))))
    refine v7 (ajX (i:=5) (j:=0) rfl rfl (by omega) ?_)
    walk_at "w"
    refine⟨vj _,?_⟩
    have hl2:=abZ (gD3 q.1) (gD3 q.2) (vM ((qv rows cut (ahC rows cut g).1 (ahC rows cut g).2).take i) [])
    refine ajX (i:=5) (j:=0) rfl rfl (by omega) ?_
    walk_at "w"
    refine⟨vj _,⟨_,_,rfl⟩,?_⟩
    rw [tk,agk]
    rfl
  ·rintro _ _ ⟨⟨u,v,rfl⟩,rfl⟩
   rw [apP,aqy]
   refine ape (apd (i:=5) (j:=0) rfl rfl (ajP (zv rfl ⟨vj _,_,akO hp,?_⟩)))
   show gD3 n=aaX (zP rows wd cut g)
   rw [hn]
   rfl
theorem aho {α:Type} [DecidableEq α]:∀ (l m:List α),l.Nodup->(∀ x∈l,x∈m)->m.length<=l.length->∀ x∈m,x∈l
 | [],m,_,_,hl,x,hx=>by
  have:m=[]:=aua.mp (Nat.le_zero.mp hl)
  rw [this] at hx
  exact hx
 | a :: l,m,nd,sub,hl,x,hx=>by
  have ha:=sub a (apX ..)
  have hn:=aqO.mp nd
  have le:=asN ha
  rw [ap8] at hl
  by_cases e:x=a
  ·rw [e];exact apX ..
  ·refine apW _ (aho l (m.erase a) hn.2 (fun y hy=>?_) (by omega) x ((ath e).mpr hx))
   exact (ath (fun (z:y=a)=>hn.1 (z▸hy))).mpr (sub y (apW _ hy))
theorem len_sub {α:Type} [DecidableEq α]:∀ (l m:List α),l.Nodup->(∀ x∈l,x∈m)->l.length<=m.length
 | [],m,_,_=>aqu _
 | a :: l,m,nd,sub=>by
  have ha:=sub a (apX ..)
  have hn:=aqO.mp nd
  have le:=asN ha
  have hp:0<m.length:=aue ha
  have:=len_sub l (m.erase a) hn.2 (fun y hy=>(ath (fun (z:y=a)=>hn.1 (z▸hy))).mpr (sub y (apW _ hy)))
  rw [ap8]
  omega
theorem perm_map_inv {α β:Type} {f:α->β} {l1 l2:List β} (h:l1.Perm l2):∀ ts:List α,l2=ts.map f->∃ us:List α,us.Perm ts/\l1=us.map f:=by
 induction h with
 | nil=>intro ts e;exact⟨ts,.refl _,e⟩
 | cons x _ ih =>
  intro ts e
  cases ts with
  | nil=>cases e
  | cons t ts =>
   rw [aqf] at e
   injection e with e1 e2
   obtain⟨us,p,q⟩:=ih ts e2
   exact⟨t :: us,.cons t p,by rw [aqf,<- q,e1]⟩
 | swap x y l =>
  intro ts e
  match ts,e with
  | [],e=>cases e
  | [_],e=>cases e
  | a :: b :: ts,e =>
   simp only [aqf] at e
   injection e with e1 e2
   injection e2 with e2 e3
   exact⟨b :: a :: ts,.swap a b ts,by rw [aqf,aqf,e1,e2,e3]⟩
 | trans _ _ ih1 ih2 =>
  intro ts e
  obtain⟨us,p,q⟩:=ih2 ts e
  obtain⟨vs,p2,q2⟩:=ih1 us q
  exact⟨vs,p2.trans p,q2⟩
section
variable (rows:List (List Int)) (wd:Nat) (cut:Int)
structure LineOk (ring:Bool) (l:List Gt):Prop where
 op:∀ g∈l,opG rows wd cut g=true
 nd:l.Nodup
 ch:∀ (i:Nat) a b,l[i]?=some a->l[i+1]?=some b->zP rows wd cut a=some b
 ne:l≠[]
 last:∀ g,l.getLast?=some g->zP rows wd cut g=if ring=true then l.head? else none
structure WalkOk (s:Gt) (l:List Gt):Prop where
 op:∀ g∈l,opG rows wd cut g=true
 nd:l.Nodup
 ch:∀ (i:Nat) a b,l[i]?=some a->l[i+1]?=some b->zP rows wd cut a=some b
 hd:l.head?=some s
end
section
variable {rows:List (List Int)} {wd:Nat} {cut:Int}
theorem aiE {t n:Nat} {x y w:Int} (hx:0<=x/\x<n) (hy:0<=y/\y<t) (hw:w=0 \/ w=1):(x,y,w)∈yT t n:=by
 obtain⟨a,rfl⟩:=arL hx.1
 obtain⟨b,rfl⟩:=arL hy.1
 refine aqA.mpr ⟨a,aqk.mpr (by omega),aqA.mpr ⟨b,aqk.mpr (by omega),?_⟩⟩
 rcases hw with rfl | rfl
 ·exact apX ..
 ·exact apW _ (apX ..)
theorem amr {g:Gt} (o:opG rows wd cut g=true):z5 rows wd g.1 g.2.1=true:=by
 unfold opG yC qj at o
 rw [ap3,ap3,ap3] at o
 exact o.1.2.1
theorem mem_gates {g:Gt}:g∈ya rows wd cut↔opG rows wd cut g=true:=by
 rw [qt,arZ]
 refine⟨fun h=>h.2,fun o=>⟨?_,o⟩⟩
 obtain⟨x,y,w⟩:=g
 have hw:=qO o
 obtain⟨a,b,c,d⟩:=qN (amr o)
 exact aiE ⟨a,b⟩ ⟨c,d⟩ hw
theorem gates_nd:(ya rows wd cut).Nodup:=by
 rw [qt]
 refine ((ae6 _ _).filter _).imp fun {a b} h e=>?_
 subst e
 unfold gLt at h
 omega
theorem ab1 {l:List Gt} (gd:Good wd rows) (o:∀ g∈l,opG rows wd cut g=true) (nd:l.Nodup):l.length<=98 :=
 aqn (len_sub l (ya rows wd cut) nd fun x hx=>mem_gates.mpr (o x hx)) (qu gd)
theorem akP {s:Gt} (o:opG rows wd cut s=true):WalkOk rows wd cut s [s] :=
 ⟨fun g hg=>by rw [aqj.mp hg];exact o,aqO.mpr ⟨aqN,aq6⟩,fun i a b _ h=>(nomatch h),rfl⟩
theorem aiF {s n g:Gt} {l:List Gt} (W:WalkOk rows wd cut s l) (hl:l.getLast?=some g) (hn:zP rows wd cut g=some n) (ne:n≠s):WalkOk rows wd cut s (l++[n]):=by
 have hg:g∈l:=auE hl
 have hli:l[l.length - 1]?=some g:=by rw [<-atL];exact hl
 have pos:0<l.length:=aue hg
 have hnew:n∉l:=fun hm=>by
  obtain⟨i,hi⟩:=aql hm
  match i,hi with
  | 0,hi =>
   have:=W.hd
   rw [as3,hi] at this
   exact ne (Option.some.inj this)
  | i+1,hi =>
   obtain⟨hlt,_⟩:=apS.mp hi
   have hi':l[i]?=some l[i]:=apO (by omega)
   have hc:=W.ch i _ _ hi' hi
   have e:=abX (W.op _ (apZ hi')) (W.op _ hg) hc hn
   rw [e,<- hli] at hi'
   have:=(List.getElem?_inj (by omega) W.nd).mp hi'
   omega
 refine⟨fun x hx=>?_,?_,fun i a b ha hb=>?_,?_⟩
 ·rcases aqh.mp hx with h | h
  ·exact W.op x h
  ·rw [aqj.mp h];exact (vC (W.op g hg) hn).1
 ·refine aqY.mpr ⟨W.nd,aqO.mpr ⟨aqN,aq6⟩,fun a ha b hb e=>?_⟩
  rw [aqj.mp hb] at e
  exact hnew (e▸ha)
 ·by_cases h:i+1<l.length
  ·rw [ap1 (by omega)] at ha
   rw [ap1 h] at hb
   exact W.ch i a b ha hb
  ·obtain⟨hlt,_⟩:=apS.mp hb
   rw [aqa,aqT] at hlt
   have e:i=l.length - 1:=by omega
   rw [ap1 (by omega),e,hli] at ha
   rw [ap2 (by omega),show i+1 - l.length=0 by omega] at hb
   cases ha
   cases hb
   exact hn
 ·cases l with
  | nil=>cases pos
  | cons a l=>exact W.hd
theorem acZ {s g:Gt} {l:List Gt} (W:WalkOk rows wd cut s l) (hl:l.getLast?=some g) {ring:Bool} (h:zP rows wd cut g=if ring=true then some s else none):LineOk rows wd cut ring l where
 op:=W.op
 nd:=W.nd
 ch:=W.ch
 ne:=fun z=>by rw [z] at hl;cases hl
 last:=fun g' hg'=>by
  rw [hl] at hg'
  cases hg'
  rw [h,W.hd]
def ab2 (rows:List (List Int)) (wd:Nat) (cut:Int) (t:Bool×List Gt):Prop:=t.1=false->∀ h,t.2.head?=some h->yF rows wd cut h=none
theorem next_prev {g n:Gt} (o:opG rows wd cut g=true) (h:zP rows wd cut g=some n):yF rows wd cut n=some g:=by
 have c:zS rows wd (ahC rows cut g).1 (ahC rows cut g).2=true:=by
  unfold zP at h
  by_cases z:zS rows wd (ahC rows cut g).1 (ahC rows cut g).2=true
  ·exact z
  ·rw [if_neg z] at h;cases h
 obtain⟨m,a1,_,_,_,a2⟩:=qe o c
 rw [h] at a1
 cases a1
 exact a2
theorem prev_next {g n:Gt} (o:opG rows wd cut g=true) (h:yF rows wd cut g=some n):opG rows wd cut n=true/\zP rows wd cut n=some g:=by
 have c:zS rows wd (bhC rows cut g).1 (bhC rows cut g).2=true:=by
  unfold yF at h
  by_cases z:zS rows wd (bhC rows cut g).1 (bhC rows cut g).2=true
  ·exact z
  ·rw [if_neg z] at h;cases h
 obtain⟨m,a1,_,a3,_,a2⟩:=abb o c
 rw [h] at a1
 cases a1
 exact⟨a3,a2⟩
theorem ad7 {t:Bool×List Gt} (ne:t.2≠[]):∃ z,t.2.getLast?=some z/\z∈t.2:=⟨t.2.getLast ne,ati ne,aub ne⟩
theorem aaR {t:Bool×List Gt} (L:LineOk rows wd cut t.1 t.2) (st:ab2 rows wd cut t) {g n:Gt} (o:opG rows wd cut g=true) (hn:n∈t.2) (h:zP rows wd cut g=some n):g∈t.2:=by
 obtain⟨i,hi⟩:=aql hn
 match i,hi with
 | 0,hi =>
  have hh:t.2.head?=some n:=by rw [as3];exact hi
  cases hr:t.1 with
  | false =>
   have:=st hr n hh
   rw [next_prev o h] at this
   cases this
  | true =>
   obtain⟨z,hz,hm⟩:=ad7 L.ne
   have:=L.last z hz
   rw [hr,if_pos rfl,hh] at this
   rw [abX o (L.op z hm) h this]
   exact hm
 | i+1,hi =>
  obtain⟨hlt,_⟩:=apS.mp hi
  have hi':t.2[i]?=some t.2[i]:=apO (by omega)
  have hc:=L.ch i _ _ hi' hi
  have hm:=apZ hi'
  rw [abX o (L.op _ hm) h hc]
  exact hm
theorem aaS {t:Bool×List Gt} (L:LineOk rows wd cut t.1 t.2) {g n:Gt} (hg:g∈t.2) (h:zP rows wd cut g=some n):n∈t.2:=by
 obtain⟨i,hi⟩:=aql hg
 obtain⟨hlt,_⟩:=apS.mp hi
 by_cases hl:i+1<t.2.length
 ·have hi':t.2[i+1]?=some t.2[i+1]:=apO hl
  have hc:=L.ch i _ _ hi hi'
  rw [h] at hc
  rw [Option.some.inj hc]
  exact apZ hi'
 ·have e:i=t.2.length - 1:=by omega
  have hz:t.2.getLast?=some g:=by rw [atL,<- e];exact hi
  have:=L.last g hz
  rw [h] at this
  by_cases hr:t.1=true
  ·rw [if_pos hr] at this
   exact List.mem_of_head? this.symm
  ·rw [if_neg hr] at this
   cases this
theorem ams (gd:Good wd rows) {g:Gt} (o:opG rows wd cut g=true):zS rows wd (ahC rows cut g).1 (ahC rows cut g).2=true \/ zS rows wd (bhC rows cut g).1 (bhC rows cut g).2=true:=by
 have hw:=qO o
 obtain⟨x,y,w⟩:=g
 have o':yC rows wd cut x y w=true:=o
 unfold yC qj at o'
 rw [ap3,ap3,ap3] at o'
 obtain⟨a0,a1,a2,a3⟩:=qN o'.1.2.1
 obtain⟨b0,b1,b2,b3⟩:=qN o'.1.2.2
 have h1:=gd.h1
 have w1:=gd.w1
 have cb:∀ {u v:Int},0<=u->u+1<wd->0<=v->v+1<rows.length->zS rows wd u v=true:=fun p q r s=>by
  unfold zS z5
  rw [decide_eq_true (by omega),decide_eq_true (by omega),decide_eq_true (by omega),decide_eq_true (by omega)]
  rfl
 unfold ahC bhC jt ju
 dsimp only at hw ⊢
 rcases hw with rfl | rfl
 ·have e1:px x 0=x+1:=rfl
  rw [e1] at b1
  cases hiB rows cut x y
  ·by_cases h:y+1<rows.length
   ·left;exact cb (by simp;omega) (by simp;omega) (by simp;omega) (by simp;omega)
   ·right;exact cb (by simp;omega) (by simp;omega) (by simp;omega) (by simp;omega)
  ·by_cases h:y+1<rows.length
   ·right;exact cb (by simp;omega) (by simp;omega) (by simp;omega) (by simp;omega)
   ·left;exact cb (by simp;omega) (by simp;omega) (by simp;omega) (by simp;omega)
 ·have e1:py y 1=y+1:=rfl
  rw [e1] at b3
  cases hiB rows cut x y
  ·by_cases h:x+1<wd
   ·right;exact cb (by simp;omega) (by simp;omega) (by simp;omega) (by simp;omega)
   ·left;exact cb (by simp;omega) (by simp;omega) (by simp;omega) (by simp;omega)
  ·by_cases h:x+1<wd
   ·left;exact cb (by simp;omega) (by simp;omega) (by simp;omega) (by simp;omega)
   ·right;exact cb (by simp;omega) (by simp;omega) (by simp;omega) (by simp;omega)
theorem aoL (gd:Good wd rows) {t:Bool×List Gt} (L:LineOk rows wd cut t.1 t.2) (st:ab2 rows wd cut t):2<=t.2.length:=by
 obtain⟨r,l⟩:=t
 match l,L,st with
 | [],L,_=>exact absurd rfl L.ne
 | [g],L,st =>
  have o:=L.op g (apX ..)
  have hl:=L.last g rfl
  cases r with
  | true =>
   exact absurd rfl (vC o hl).2
  | false =>
   have hp:yF rows wd cut g=none:=st rfl g rfl
   have hl:zP rows wd cut g=none:=hl
   rcases ams gd o with c | c
   ·obtain⟨n,h,_⟩:=qe o c
    rw [hl] at h;cases h
   ·obtain⟨n,h,_⟩:=abb o c
    rw [hp] at h;cases h
 | _ :: _ :: _,_,_=>exact Nat.le_add_left 2 _
end
section
variable (rows:List (List Int)) (wd:Nat) (cut:Int)
def flat (ts:List (Bool×List Gt)):List Gt:=ts.flatMap (·.2)
structure Told (ts:List (Bool×List Gt)):Prop where
 line:∀ t∈ts,LineOk rows wd cut t.1 t.2
 st:∀ t∈ts,ab2 rows wd cut t
 nd:(flat ts).Nodup
 least:∀ t∈ts,t.1=true->∀ h,t.2.head?=some h->∀ g∈t.2,g=h \/ gLt h g
end
section
variable {rows:List (List Int)} {wd:Nat} {cut:Int} {ts:List (Bool×List Gt)}
theorem Told.op (T:Told rows wd cut ts) {g:Gt} (h:g∈flat ts):opG rows wd cut g=true:=by
 obtain⟨t,ht,hg⟩:=aqA.mp h
 exact (T.line t ht).op g hg
theorem Told.len (T:Told rows wd cut ts) (gd:Good wd rows):(flat ts).length<=98:=ab1 gd (fun g hg=>T.op hg) T.nd
theorem ae9:∀ (ts:List (Bool×List Gt)),(∀ t∈ts,2<=t.2.length)->2 * ts.length<=(flat ts).length
 | [],_=>apY _
 | t :: ts,h=>by
  have h1:=h t (apX ..)
  have h2:=ae9 ts fun u hu=>h u (apW _ hu)
  show 2 * (ts.length+1)<=(t.2++flat ts).length
  rw [aqa]
  omega
theorem Told.few (T:Told rows wd cut ts) (gd:Good wd rows):ts.length<=49:=by
 have h1:=ae9 ts fun t ht=>aoL gd (T.line t ht) (T.st t ht)
 have h2:=T.len gd
 omega
theorem vD (ts:List (Bool×List Gt)) (t:Bool×List Gt):flat (ts++[t])=flat ts++t.2:=by
 unfold flat
 rw [aq9]
 simp
theorem Told.fresh (T:Told rows wd cut ts) {r:Bool} {l:List Gt} (L:LineOk rows wd cut r l) {s:Gt} (hs:l.head?=some s) (hn:s∉flat ts):∀ g∈l,g∉flat ts:=by
 have key:∀ (i:Nat) g,l[i]?=some g->g∉flat ts:=fun i=>by
  induction i with
  | zero =>
   intro g hg
   rw [as3,hg] at hs
   rw [Option.some.inj hs]
   exact hn
  | succ i ih =>
   intro g hg hm
   obtain⟨hlt,_⟩:=apS.mp hg
   have hi':l[i]?=some l[i]:=apO (by omega)
   have hc:=L.ch i _ _ hi' hg
   obtain⟨t,ht,hgt⟩:=aqA.mp hm
   exact ih _ hi' (aqA.mpr ⟨t,ht,aaR (T.line t ht) (T.st t ht) (L.op _ (apZ hi')) hgt hc⟩)
 intro g hg
 obtain⟨i,hi⟩:=aql hg
 exact key i g hi
theorem Told.more (T:Told rows wd cut ts) {r:Bool} {l:List Gt} (L:LineOk rows wd cut r l) {s:Gt} (hs:l.head?=some s) (hn:s∉flat ts) (st:r=false->yF rows wd cut s=none) (le:r=true->∀ g∈l,g=s \/ gLt s g):Told rows wd cut (ts++[(r,l)]) where
 line:=fun t ht=>by
  rcases aqh.mp ht with h | h
  ·exact T.line t h
  ·rw [aqj.mp h];exact L
 st:=fun t ht=>by
  rcases aqh.mp ht with h | h
  ·exact T.st t h
  ·rw [aqj.mp h]
   intro hr h hh
   rw [show (r,l).2.head?=some s from hs] at hh
   rw [<-Option.some.inj hh]
   exact st hr
 nd:=by
  rw [vD]
  refine aqY.mpr ⟨T.nd,L.nd,fun a ha b hb e=>?_⟩
  exact T.fresh L hs hn b hb (e▸ha)
 least:=fun t ht=>by
  rcases aqh.mp ht with h | h
  ·exact T.least t h
  ·rw [aqj.mp h]
   intro hr h hh
   rw [show (r,l).2.head?=some s from hs] at hh
   rw [<-Option.some.inj hh]
   exact le hr
theorem aoM {r:Bool} {l:List Gt} (L:LineOk rows wd cut r l) {s:Gt} (hs:l.head?=some s) (hp:yF rows wd cut s=none):r=false:=by
 cases r with
 | false=>rfl
 | true =>
  obtain⟨z,hz,hm⟩:=ad7 (t:=(true,l)) L.ne
  have:=L.last z hz
  rw [if_pos rfl,hs] at this
  have:=next_prev (L.op z hm) this
  rw [hp] at this
  cases this
theorem amt (T:Told rows wd cut ts) (all:∀ g,opG rows wd cut g=true->yF rows wd cut g=none->g∈flat ts) {r:Bool} {l:List Gt} (L:LineOk rows wd cut r l) {s:Gt} (hs:l.head?=some s) (hn:s∉flat ts):r=true:=by
 cases r with
 | true=>rfl
 | false =>
  obtain⟨z,hz,hm⟩:=ad7 (t:=(false,l)) L.ne
  have hnone:zP rows wd cut z=none:=L.last z hz
  let U:=(ya rows wd cut).filter fun g=>decide (g∉flat ts)
  have memU:∀ g,g∈U↔opG rows wd cut g=true/\g∉flat ts:=fun g=>by
   show g∈List.filter _ _↔_
   rw [arZ,mem_gates,decide_eq_true_eq]
  let pr:Gt->Gt:=fun g=>(yF rows wd cut g).getD g
  have prU:∀ g∈U,yF rows wd cut g=some (pr g)/\zP rows wd cut (pr g)=some g/\pr g∈U:=fun g hg=>by
   obtain⟨o,nf⟩:=(memU g).mp hg
   cases hp:yF rows wd cut g with
   | none=>exact absurd (all g o hp) nf
   | some p =>
    have e:pr g=p:=by show (yF rows wd cut g).getD g=p;rw [hp];rfl
    obtain⟨op,hnx⟩:=prev_next o hp
    rw [e]
    refine⟨rfl,hnx,(memU p).mpr ⟨op,fun hm=>?_⟩⟩
    obtain⟨t,ht,hpt⟩:=aqA.mp hm
    exact nf (aqA.mpr ⟨t,ht,aaS (T.line t ht) hpt hnx⟩)
  have ndU:U.Nodup:=gates_nd.filter _
  have ndP:(U.map pr).Nodup:=by
   refine arb.mpr (ndU.imp_of_mem fun {a b} ha hb ne e=>ne ?_)
   have h1:=(prU a ha).2.1
   have h2:=(prU b hb).2.1
   rw [e,h2] at h1
   exact (Option.some.inj h1).symm
  have zU:z∈U:=(memU z).mpr ⟨L.op z hm,T.fresh L hs hn z hm⟩
  have:=aho (U.map pr) U ndP (fun x hx=>by obtain⟨g,hg,rfl⟩:=aqd.mp hx;exact (prU g hg).2.2) (by rw [apP];exact apY _) z zU
  obtain⟨g,hg,rfl⟩:=aqd.mp this
  rw [(prU g hg).2.1] at hnone
  cases hnone
def jK (t:Bool×List Gt):PyData:=.tuple [.str (if t.1=true then "ring" else "run"),.tuple (t.2.map gD3)]
theorem afa (l:List Gt):zO (l.map gD3)=true:=by
 induction l with
 | nil=>rfl
 | cons g l ih=>show (zF (gD3 g) && zO (l.map gD3))=true;rw [ih];rfl
theorem agl (t:Bool×List Gt):zF (jK t)=true:=by
 show (zF (.str _) && (zF (.tuple (t.2.map gD3)) && true))=true
 rw [show zF (.tuple (t.2.map gD3))=zO (t.2.map gD3) from rfl,afa]
 cases t.1 <;> decide +kernel
theorem ac0:∀ l m:List Gt,vR (l.map gD3) (m.map gD3)=true
 | [],m=>by rw [atq,vR]
 | g :: l,[]=>rfl
 | (x,y,w) :: l,(x',y',w') :: m=>by
  rw [aqf,aqf,vR]
  split
  ·exact ac0 l m
  ·show vd (.tuple [.int x,.int y,.int w]) (.tuple [.int x',.int y',.int w'])=true
   simp only [vd,vR]
   split
   ·split
    ·split <;> rfl
    ·rfl
   ·rfl
theorem akQ (t u:Bool×List Gt):vd (jK t) (jK u)=true:=by
 unfold jK
 generalize (if t.1=true then ("ring":Str) else "run")=a
 generalize (if u.1=true then ("ring":Str) else "run")=b
 rw [vd,vR]
 split
 ·rw [vR]
  split
  ·rfl
  ·rw [vd];exact ac0 _ _
 ·rfl
theorem aaT (l:List Gt):ap6 (l.map gD3)<=1:=by
 induction l with
 | nil=>exact aqu _
 | cons g l ih=>exact Nat.max_le.mpr ⟨apY 1,ih⟩
theorem agm (t:Bool×List Gt):(jK t).depth<=3:=by
 show max 0 (max (ap6 (t.2.map gD3)+1) 0)+1<=3
 have:=aaT t.2
 omega
theorem aaf {a b:Gt} (h:gD3 a=gD3 b):a=b:=by
 obtain⟨x,y,w⟩:=a
 obtain⟨x',y',w'⟩:=b
 unfold gD3 j9 at h
 simp at h
 simp [h]
theorem akR (T:Told rows wd cut ts):SortOk "str" (ts.map jK) where
 plain:=fun d hd=>by obtain⟨t,_,rfl⟩:=aqd.mp hd;exact agl t
 head:=fun d hd=>by obtain⟨t,_,rfl⟩:=aqd.mp hd;rfl
 cmp:=fun d hd e he=>by
  obtain⟨t,_,rfl⟩:=aqd.mp hd
  obtain⟨u,_,rfl⟩:=aqd.mp he
  exact akQ t u
 depth:=fun d hd=>by obtain⟨t,_,rfl⟩:=aqd.mp hd;exact aqn (agm t) (by decide)
 nd:=by
  have h:=(List.pairwise_flatMap.mp T.nd).2
  refine arb.mpr (h.imp_of_mem fun {a b} ha hb hd e=>?_)
  unfold jK at e
  have e2:a.2.map gD3=b.2.map gD3:=by
   injection e with e
   injection e with _ e
   injection e with e _
   injection e
  cases ha2:a.2 with
  | nil=>exact (T.line a ha).ne ha2
  | cons g l =>
   cases hb2:b.2 with
   | nil=>exact (T.line b hb).ne hb2
   | cons g' l' =>
    rw [ha2,hb2,aqf,aqf] at e2
    injection e2 with e2 _
    exact hd g (by rw [ha2];exact apX ..) g' (by rw [hb2];exact apX ..) (aaf e2)
theorem Told.perm {us:List (Bool×List Gt)} (T:Told rows wd cut ts) (p:us.Perm ts):Told rows wd cut us where
 line:=fun t ht=>T.line t (p.mem_iff.mp ht)
 st:=fun t ht=>T.st t (p.mem_iff.mp ht)
 nd:=(p.flatMap_right _).nodup_iff.mpr T.nd
 least:=fun t ht=>T.least t (p.mem_iff.mp ht)
end
section
variable {K:apT} {f:Fx} {ρ:zw} {ta:TE} {P:PyData->Prop}
def ab3:PyData->Bool
 | .none=>true
 | _=>false
theorem ac1 {H:Hp} {d:PyData} {v:V} (r:Rep K H d v) (h:d=.none \/ ∃ ds,d=.tuple ds):decide (v=.non)=ab3 d:=by
 rcases h with rfl | ⟨ds,rfl⟩
 ·rw [show v=.non from r];rfl
 ·obtain⟨a,xs,rfl,_⟩:=rep_tuple.mp r
  rfl
theorem aoN (h:PEd K f ta ρ fun d=>(d=.none \/ ∃ ds,d=.tuple ds)/\P (.bool (!ab3 d))):PEd K f (tOp (fun x y H Q=>y=.non/\Q (.bl (!decide (x=.non))) H) ta (tC .non)) ρ P:=fun σ H Q e q =>
 h σ H _ e fun d v H1 g1 r1 ⟨hd,p⟩=>⟨rfl,q _ _ H1 g1 (by show Rep K _ (.bool _) (.bl _);rw [ac1 r1 hd];rfl) p⟩
theorem akS (h:PEd K f ta ρ fun d=>(d=.none \/ ∃ ds,d=.tuple ds)/\P (.bool (ab3 d))):PEd K f (tOp (fun x y H Q=>y=.non/\Q (.bl (decide (x=.non))) H) ta (tC .non)) ρ P:=fun σ H Q e q =>
 h σ H _ e fun d v H1 g1 r1 ⟨hd,p⟩=>⟨rfl,q _ _ H1 g1 (by show Rep K _ (.bool _) (.bl _);rw [ac1 r1 hd];rfl) p⟩
end
abbrev akT (K:apT):Sp:=spD K 3 amo fun c r=>∃ ring l,r=jK (ring,l)/\LineOk c.1 c.2.1 c.2.2.1 ring l/\l.head?=some c.2.2.2
theorem ab4 (a b:Gt):aqi (gD3 a) (gD3 b)=decide (a=b):=by
 obtain⟨x,y,w⟩:=a
 obtain⟨x',y',w'⟩:=b
 show (decide (x=x') && (decide (y=y') && (decide (w=w') && true)))=_
 by_cases h1:x=x' <;> by_cases h2:y=y' <;> by_cases h3:w=w' <;> simp [h1,h2,h3]
theorem ab5 (q:Option Gt):aaX q=.none \/ ∃ ds,aaX q=.tuple ds:=by
 cases q with
 | none=>exact .inl rfl
 | some g=>exact .inr ⟨_,rfl⟩
theorem amu (F:Def K mg "line_from" jZ pP) (uaJ:mg "tuple"=none) (uam:FnIn P w K mg base k "gate_ahead" pf (ab0 K)) :
  FnIn P w K mg base (k+1) "line_from" pP (akT K):=by
 refine F.ok sc_line_from rfl fun fa cdv A outer s H E hr=>⟨_,(zi (zY (i:=3) sc_line_from.nd rfl (Or.inl rfl) (yR (zc (pv 2) zh))) (zi (zY (i:=4) sc_line_from.nd rfl (Or.inl rfl) (zp uam hr rfl (zc (pv 0) (zc (pv 1) (zc (pv 2) zh))))) (zi (aee aqV (PW.pt (ank (zZ ags (pv 4) aai (z3 _)) (alc (zZ (qZ (K:=K) rfl hr.units) (pv 4) (pv 2) (z3 _))))) (zi (jy (acA ard ar7 ar8 vm (pv 3) (zc (pv 4) zh))) (zt (zY (i:=4) sc_line_from.nd rfl (Or.inl rfl) (zp uam hr rfl (zc (pv 0) (zc (pv 1) (zc (pv 4) zh)))))))) (zt (zE (z9 (zc (qW (zZ aiT (pv 4) aai (z3 _)) qS qS) (zc (ql (aep (K:=K) rfl) rfl uaJ PyProof.Rows.boot_tuple (zc (pv 3) zh)) zh)))))))),?_⟩
 rintro f xs ⟨rows,wd,cut,g⟩ hl ⟨rfl,gd,o⟩
 try dsimp only [yj,zm]
 dsimp only at *
 refine afK (w:=w) (ajQ (aa4 (aes ?_)))
 walk_at "w"
 refine⟨show 3<5 by decide,fun D=>?_⟩
 refine v7 (abF (yo (zC (rows,wd,cut,g) ?_)))
 walk_at "w"
 rintro _ rfl
 refine zu ?_
 refine v7 (ag1 (fun ρ cs=>∃ l z,ρ=[some (.dat (tab rows)),some (.dat (.int cut)),some (.dat (gD3 g)),some (.own (f.M.length+0)),some (.dat (aaX (zP rows wd cut z)))]/\cs=[.lst (l.map gD3)]/\WalkOk rows wd cut g l/\l.getLast?=some z) (fun _ cs=>match cs with | [.lst es]=>200 - es.length | _=>0) ⟨[g],g,rfl,rfl,akP o,rfl⟩ ?_)
 rintro _ _ ⟨l,z,rfl,rfl,W,hz⟩
 have oz:=W.op z (auE hz)
 have wl:=ab1 gd W.op W.nd
 have ml:(l.map gD3).length=l.length:=apP ..
 refine apH (ai9 (yw (aoN (zv rfl ⟨ab5 _,?_⟩))))
 refine⟨_,rfl,?_⟩
 have fr:∀ x:PyData,asr (freed f.M.length [OC.lst (l.map gD3)]) [some (DV.dat (tab rows)),some (.dat (.int cut)),some (.dat (gD3 g)),some (.own (f.M.length+0)),some (.dat x)]=[some (.dat (tab rows)),some (.dat (.int cut)),some (.dat (gD3 g)),some (.dat (.list (l.map gD3))),some (.dat x)]:=fun x=>by simp [freed]
 cases hn:zP rows wd cut z with
 | none =>
  rw [show (!ab3 (aaX none))=false from rfl,if_neg apQ,if_neg apQ]
  refine ajR ?_
  rw [fr]
  refine yu (aen (zJ (aja (yw (akS (zv rfl ⟨.inl rfl,_,rfl,?_⟩))))))
  rw [show ab3 (aaX none)=true from rfl,if_pos rfl]
  walk_at "w"
  exact⟨false,l,rfl,acZ W hz (by rw [hn];rfl),W.hd⟩
 | some n =>
  rw [show (!ab3 (aaX (some n)))=true from rfl,if_pos rfl]
  rw [show aaX (some n)=gD3 n from rfl]
  refine yw (jw (zv rfl (zv rfl ⟨rfl,rfl,auo rfl,_,rfl,?_⟩)))
  rw [if_pos rfl,ab4]
  by_cases ng:n=g
  ·rw [decide_eq_true ng,show (!true)=false from rfl,if_neg apQ]
   refine ajR ?_
   rw [fr]
   refine yu (aen (zJ (aja (yw (akS (zv rfl ⟨.inr ⟨_,rfl⟩,_,rfl,?_⟩))))))
   rw [show ab3 (gD3 n)=false from rfl,if_neg apQ]
   walk_at "w"
   exact⟨true,l,rfl,acZ W hz (by rw [hn,ng];rfl),W.hd⟩
  ·rw [decide_eq_false ng,show (!false)=true from rfl,if_pos rfl]
   have W2:=aiF W hz hn ng
   have wl2:=ab1 gd W2.op W2.nd
   rw [aqa,aqT] at wl2
   refine v7 (am1 (i:=3) (j:=0) rfl rfl (by omega) (ajP (zv rfl ?_)))
   refine abF (yo (zC (rows,wd,cut,n) ?_))
   have on:=(vC oz hn).1
   walk_at "w"
   rintro _ rfl
   refine zu ⟨⟨l++[n],n,rfl,?_,W2,by simp⟩,?_⟩
   ·show [OC.lst (l.map gD3++[gD3 n])]=[OC.lst ((l++[n]).map gD3)]
    rw [aqm]
    rfl
   ·show 200 - (l.map gD3++[gD3 n]).length<200 - (l.map gD3).length
    rw [aqa,aqT]
    omega
abbrev ahp (K:apT):Sp:=spN K 2 (fun (c:List (List Int)×Nat×Int) xs=>xs=[.dat (tab c.1),.dat (.int c.2.2)]/\Good c.2.1 c.1) fun c es=>∃ ts,es=ts.map jK/\Told c.1 c.2.1 c.2.2 ts/\(∀ g,opG c.1 c.2.1 c.2.2 g=true->g∈flat ts)/\es.Pairwise fun d e=>ltD d e=true
def inB (rows:List (List Int)) (wd:Nat) (cut:Int) (g:Gt):Bool:=!zS rows wd (bhC rows cut g).1 (bhC rows cut g).2
theorem agn {rows:List (List Int)} {wd:Nat} {cut:Int} {g:Gt} (o:opG rows wd cut g=true):inB rows wd cut g=true↔yF rows wd cut g=none:=by
 unfold inB
 by_cases h:zS rows wd (bhC rows cut g).1 (bhC rows cut g).2=true
 ·obtain⟨n,hn,_⟩:=abb o h
  rw [h,hn]
  simp
 ·rw [at7] at h
  unfold yF
  rw [h]
  simp
theorem akU (F:Def K mg "lines" aba pA) (uai:mg "set"=none) (uaq:mg "sorted"=none) (uau:FnIn P w K mg base k "ask_table" pq (ahc K)) (uaK:FnIn P w K mg base k "gates" pA (ad1 K)) (uaL:FnIn P w K mg base k "comes_in" pf (ad5 K)) (ubk:FnIn P w K mg base k "line_from" pP (akT K)):FnIn P w K mg base (k+1) "lines" pA (ahp K):=by
 refine F.okN sc_lines rfl fun fa cdv A outer s H E hr=>⟨_,(zi (jy (zp uau hr rfl (zc (pv 0) zh))) (zi (zY (i:=2) sc_lines.nd rfl (Or.inl rfl) (zp uaK hr rfl (zc (pv 0) (zc (pv 1) zh)))) (zi (zY (i:=3) sc_lines.nd rfl (Or.inl rfl) (zM (abw (K:=K) rfl) (zQ (N:=pD) (own:=1) (fr:=[0,1]) ⟨rfl,by decide +kernel,of_decide_eq_true (by kernel_rfl),of_decide_eq_true (by kernel_rfl),of_decide_eq_true (by kernel_rfl),rfl⟩ rfl (zR (K:=K) rfl (pv 2)) (fun _ _ _ _=>(zq (i:=0) (show (pD:List Str).Nodup by decide +kernel) rfl (Or.inl rfl) (Or.inr rfl))) (fun _ _ _ _=>(aa0 (z8 (K:=K) rfl (zp uaL hr rfl (zc (pv 1) (zc (pv 2) (zc (pv 0) zh)))) (fun _=>rfl)))) (fun _ _ _ _=>(pv 0)) rfl rfl (fun _=>rfl)) (pv 2))) (zi (zY (i:=4) sc_lines.nd rfl (Or.inl rfl) (yR zh)) (zi (zY (i:=5) sc_lines.nd rfl (Or.inl rfl) (afr (adK (w:=w) rfl) rfl uai as8)) (zi (jF aqV rfl (zR (K:=K) rfl (pv 3)) (zq (i:=6) sc_lines.nd rfl (Or.inl rfl) (Or.inr rfl)) (zt (yD (zZ (afL (w:=w) (K:=K) rfl rfl hr.units) (pv 6) (pv 5) rfl) (zi (zY (i:=7) sc_lines.nd rfl (Or.inl rfl) (zp ubk hr rfl (zc (pv 0) (zc (pv 1) (zc (pv 6) zh))))) (zi (jy (acA ard ar7 ar8 vm (pv 4) (zc (pv 7) zh))) (zt (jF aqV rfl (vp (K:=K) rfl (zW (yv (K:=K) rfl) (pv 7) zo (fun _ _=>rfl))) (zq (i:=8) sc_lines.nd rfl (Or.inl rfl) (Or.inr rfl)) (zt (jy (aod (w:=w) rfl auz PySem.F.type_set_add (ajU (w:=w) (K:=K) rfl rfl hr.units) (pv 5) (zc (pv 8) zh)))))))) zX))) (zt (zE (zy (adB (K:=K) rfl hr.units) rfl uaq atZ (zc (pv 4) zh)))))))))),?_⟩
 rintro f xs ⟨rows,wd,cut⟩ hl ⟨rfl,gd⟩
 try dsimp only [yj,zm]
 dsimp only at *
 have gl:=qu (cut:=cut) gd
 refine abx (abn (zC (rows,wd) ?_))
 walk_at "w"
 rintro _ rfl
 refine abx (yo (PEdO.ped (aby (rows,wd,cut) ?_)))
 walk_at "w"
 rintro _ rfl
 dsimp only
 rw [<-qt]
 refine zu ?_
 refine abx (yo (afE (PEdO.ped (vc (yB (zv rfl ⟨_,rfl,fun n ρ es=>(∃ u,ρ=[u,some (.dat (tab rows)),some (.dat (.int cut))])/\es=(((ya rows wd cut).take n).filter (inB rows wd cut)).map gD3,⟨⟨_,rfl⟩,rfl⟩,?_,?_⟩))))))
 ·rintro D n d ρ' es hd ⟨⟨u,rfl⟩,rfl⟩
  rw [apU] at hd
  cases hq:(ya rows wd cut)[n]? with
  | none=>rw [hq] at hd;cases hd
  | some q =>
   rw [hq] at hd
   cases hd
   have oq:=mem_gates.mp (apZ hq)
   have tk:(ya rows wd cut).take (n+1)=(ya rows wd cut).take n++[q]:=by
    rw [as2,hq]
    rfl
   have len:((((ya rows wd cut).take n).filter (inB rows wd cut)).map gD3).length<1000:=by
    rw [apP]
    have a1:=arE (inB rows wd cut) ((ya rows wd cut).take n)
    rw [aqD] at a1
    omega
   refine zu (yP (zC (rows,wd,cut,q) ?_))
   walk_at "w"
   rintro _ rfl
   dsimp only
   refine⟨_,rfl,?_⟩
   refine yV (fun h=>?_) fun h=>?_
   ·refine yi len ?_
    walk_at "w"
    rw [tk,aq2,aqm,aqI,show inB rows wd cut q=true from h,if_pos rfl]
    rfl
   ·refine⟨⟨_,rfl⟩,?_⟩
    rw [tk,aq2,aqm,aqI,show inB rows wd cut q=false from h,if_neg apQ]
    simp
 ·rintro ρ' es ⟨_,rfl⟩
  rw [apP,aqy]
  have il:((ya rows wd cut).filter (inB rows wd cut)).length<=98:=aqn (arE _ _) gl
  refine⟨_,rfl,zv rfl ⟨_,rfl,by rw [apP,apP];omega,?_⟩⟩
  refine zu ?_
  dsimp only
  rw [<-aqm]
  refine alE (w:=w) (ajS (aa4 (aes ?_)))
  walk_at "w"
  refine⟨show 4<9 by decide,fun D1=>?_⟩
  refine ajS (aoe ⟨show 5<9 by decide,fun D2=>?_⟩)
  refine aob (aeE (yB (zv rfl ?_)))
  generalize hS:(ya rows wd cut).filter (inB rows wd cut)++ya rows wd cut=S
  generalize hG:PyData.list (asr gD3 (ya rows wd cut))=G
  refine⟨_,rfl,fun i ρ cs=>∃ ts u v x,ρ=[some (.dat (tab rows)),some (.dat (.int cut)),some (.dat G),some (.dat (.list (S.map gD3))),some (.own (f.M.length+0)),some (.own (f.M.length+1)),u,v,x]/\cs=[.lst (ts.map jK),.set ((flat ts).map gD3).reverse]/\Told rows wd cut ts/\∀ j g,j<i->S[j]?=some g->g∈flat ts,?_,?_,?_⟩
  ·exact⟨[],_,_,_,rfl,rfl,⟨(fun _ h=>nomatch h),(fun _ h=>nomatch h),aq6,(fun _ h=>nomatch h)⟩,fun j g h=>absurd h (ari _)⟩
  ·rintro i d _ _ hd ⟨ts,u,v,x,rfl,rfl,T,past⟩
   rw [apU] at hd
   cases hq:S[i]? with
   | none=>rw [hq] at hd;cases hd
   | some q =>
    rw [hq] at hd
    cases hd
    have oq:opG rows wd cut q=true:=by
     have hm:=apZ hq
     rw [<-hS] at hm
     rcases aqh.mp hm with h | h
     ·exact mem_gates.mp (arZ.mp h).1
     ·exact mem_gates.mp h
    have memk:(gD3 q∈((flat ts).map gD3).reverse)↔q∈flat ts:=by
     rw [aqF,aqd]
     exact⟨fun⟨a,ha,e⟩=>ad6 e▸ha,fun h=>⟨q,h,rfl⟩⟩
    refine zu (ao9 (apb (i:=5) (j:=1) rfl rfl (ajP (zv rfl ⟨vj _,?_⟩))))
    rw [if_pos rfl]
    by_cases hin:q∈flat ts
    ·rw [decide_eq_true (memk.mpr hin),show (!true)=false from rfl,if_neg apQ]
     refine ajO ⟨ts,_,_,_,rfl,rfl,T,fun j g hj hg=>?_⟩
     rcases ar6.mp hj with h | h
     ·exact past j g h hg
     ·rw [h,hq] at hg
      cases hg
      exact hin
    ·rw [decide_eq_false (fun z=>hin (memk.mp z)),show (!false)=true from rfl,if_pos rfl]
     refine v7 (abF (yo (zC (rows,wd,cut,q) ?_)))
     walk_at "w"
     rintro _ ⟨ring,l,rfl,L,hh⟩
     dsimp only at L hh
     have T2:Told rows wd cut (ts++[(ring,l)]):=by
      by_cases hi:i<((ya rows wd cut).filter (inB rows wd cut)).length
      ·have hp:yF rows wd cut q=none:=by
        rw [<-hS,ap1 hi] at hq
        exact (agn oq).mp (arZ.mp (apZ hq)).2
       have r0:=aoM L hh hp
       exact T.more L hh hin (fun _=>hp) fun z=>by rw [r0] at z;cases z
      ·have all:∀ g,opG rows wd cut g=true->yF rows wd cut g=none->g∈flat ts:=fun g og hp=>by
        have hm:g∈(ya rows wd cut).filter (inB rows wd cut):=arZ.mpr ⟨mem_gates.mpr og,(agn og).mpr hp⟩
        obtain⟨j,hj⟩:=aql hm
        obtain⟨hlt,_⟩:=apS.mp hj
        refine past j g (by omega) ?_
        rw [<-hS,ap1 hlt]
        exact hj
       have r1:=amt T all L hh hin
       refine T.more L hh hin (fun z=>by rw [r1] at z;cases z) fun _ g hg=>?_
       have fr:=T.fresh L hh hin g hg
       obtain⟨j,hj⟩:=aql (mem_gates.mpr (L.op g hg))
       have hq':=hq
       rw [<-hS,ap2 (by omega)] at hq'
       have pw:(ya rows wd cut).Pairwise gLt:=by rw [qt];exact (ae6 _ _).filter _
       obtain⟨l1,e1⟩:=apS.mp hj
       obtain⟨l2,e2⟩:=apS.mp hq'
       rcases Nat.lt_trichotomy j (i - ((ya rows wd cut).filter (inB rows wd cut)).length) with h | h | h
       ·refine absurd (past (j+((ya rows wd cut).filter (inB rows wd cut)).length) g (by omega) ?_) fr
        rw [<-hS,ap2 (by omega),asQ]
        exact hj
       ·left
        rw [<-e1,<- e2]
        congr 1
       ·right
        rw [<-e1,<- e2]
        exact arC.mp pw _ _ l2 l1 h
     have hf:=T2.len gd
     have nd2:=T2.nd
     rw [vD] at nd2 hf
     have few:=T.few gd
     refine zu ?_
     refine v7 (am1 (i:=4) (j:=0) rfl rfl (by rw [apP];omega) (ajP (zv rfl ?_)))
     refine aeE (acE (jQ (zv rfl ?_)))
     walk_at "w"
     refine⟨fun m ρ cs=>∃ x,ρ=[some (.dat (tab rows)),some (.dat (.int cut)),some (.dat G),some (.dat (.list (S.map gD3))),some (.own (f.M.length+0)),some (.own (f.M.length+1)),some (.dat (gD3 q)),some (.dat (jK (ring,l))),x]/\cs=[.lst ((ts++[(ring,l)]).map jK),.set ((flat ts++l.take m).map gD3).reverse],?_,?_,?_⟩
     ·refine⟨_,rfl,?_⟩
      rw [asA,aqG,aqm]
      rfl
     ·rintro m d _ _ hd ⟨x,rfl,rfl⟩
      rw [apU] at hd
      cases hg:l[m]? with
      | none=>rw [show (ring,l).2[m]?=none from hg] at hd;cases hd
      | some g =>
       rw [show (ring,l).2[m]?=some g from hg] at hd
       cases hd
       have tk:l.take (m+1)=l.take m++[g]:=by
        rw [as2,hg]
        rfl
       have sp:l=l.take m++g :: l.drop (m+1):=by
        obtain⟨hlt,e⟩:=apS.mp hg
        rw [<-e,<- atM hlt,asv]
       have hnew:g∉flat ts++l.take m:=fun z=>by
        have nd3:(flat ts++l).Nodup:=nd2
        rw [sp,<- aq1] at nd3
        exact (aqY.mp nd3).2.2 g z g (apX ..) rfl
       have len:(((flat ts++l.take m).map gD3).reverse).length<300:=by
        rw [atp,apP,aqa,aqD]
        have:(flat ts++l).length<=98:=hf
        rw [aqa] at this
        omega
       refine zu (apc (i:=5) (j:=1) rfl rfl len (ajP (zv rfl ⟨vj _,fun z=>?_,fun _=>?_⟩)))
       ·rw [aqF,aqd] at z
        obtain⟨a,ha,e⟩:=z
        exact absurd (ad6 e▸ha) hnew
       ·refine⟨_,rfl,?_⟩
        show [OC.lst _,OC.set (gD3 g :: ((flat ts++l.take m).map gD3).reverse)]=_
        rw [tk,<- aq1,aqm (l₁:=flat ts++l.take m),arN]
        rfl
     ·rintro _ _ ⟨x,rfl,rfl⟩
      refine⟨ts++[(ring,l)],_,_,_,rfl,?_,T2,fun j g hj hg=>?_⟩
      ·rw [apP,show (ring,l).2.length=l.length from rfl,aqy,vD]
      ·rw [vD]
       rcases ar6.mp hj with h | h
       ·exact arq _ (past j g h hg)
       ·rw [h,hq] at hg
        cases hg
        exact aqe _ (List.mem_of_head? hh)
  ·rintro _ _ ⟨ts,u,v,x,rfl,rfl,T,past⟩
   have few:=T.few gd
   refine alF (aet (ajB "str" (zv (i:=4) (d:=.list (ts.map jK)) ?_ ⟨_,rfl,akR T,by rw [apP];omega,.inl (by rw [apP];omega),fun es pm up=>?_⟩)))
   ·show some (freed _ _ _)=_
    simp [freed]
   ·obtain⟨us,p,rfl⟩:=perm_map_inv pm ts rfl
    refine⟨us,rfl,T.perm p,fun g og=>?_,up⟩
    have hm:g∈S:=by rw [<-hS];exact aqe _ (mem_gates.mpr og)
    obtain⟨j,hj⟩:=aql hm
    obtain⟨hlt,_⟩:=apS.mp hj
    exact (p.flatMap_right _).mem_iff.mpr (past j g (by rw [apP];exact hlt) hj)
section
variable {rows:List (List Int)} {wd:Nat} {cut:Int}
theorem ajG {q:Bool} {l:List Gt} (L:LineOk rows wd cut q l) {t:Bool×List Gt} (T:LineOk rows wd cut t.1 t.2) (st:ab2 rows wd cut t) {h:Gt} (hl:h∈l) (ht:h∈t.2):∀ g∈l,g∈t.2:=by
 obtain⟨j,hj⟩:=aql hl
 obtain⟨hlt,_⟩:=apS.mp hj
 have up:∀ n i,i=j+n->∀ g,l[i]?=some g->g∈t.2:=fun n=>by
  induction n with
  | zero =>
   intro i hi g hg
   rw [hi,Nat.add_zero,hj] at hg
   cases hg
   exact ht
  | succ n ih =>
   intro i hi g hg
   obtain⟨hl2,_⟩:=apS.mp hg
   have a1:l[j+n]?=some l[j+n]:=apO (by omega)
   rw [show i=j+n+1 by omega] at hg
   exact aaS T (ih _ rfl _ a1) (L.ch _ _ _ a1 hg)
 have dn:∀ n i,i+n=j->∀ g,l[i]?=some g->g∈t.2:=fun n=>by
  induction n with
  | zero =>
   intro i hi g hg
   rw [show i=j by omega,hj] at hg
   cases hg
   exact ht
  | succ n ih =>
   intro i hi g hg
   have a1:l[i+1]?=some l[i+1]:=apO (by omega)
   exact aaR T st (L.op g (apZ hg)) (ih (i+1) (by omega) _ a1) (L.ch i _ _ hg a1)
 intro g hg
 obtain⟨i,hi⟩:=aql hg
 by_cases h':j<=i
 ·exact up (i - j) i (by omega) g hi
 ·exact dn (j - i) i (by omega) g hi
end
abbrev scr (ns:List Int):PyData:=.list (ns.map .int)
theorem ahq {K:apT} {H:Hp} {a:Addr} {ns:List Int} (h:SqL K H a (ns.map V.int)):Rep K (hide H L2.f0) (scr ns) (.ref a):=by
 rw [yX]
 exact rep_list.mpr ⟨a,_,rfl,h,Reps.ints' ns⟩
theorem amv {K:apT} {H:Hp} {v:V} {ns:List Int} (h:Rep K (hide H L2.f0) (scr ns) v):∃ a,v=.ref a/\SqL K H a (ns.map V.int):=by
 rw [yX] at h
 obtain⟨a,xs,rfl,h1,h2⟩:=rep_list.mp h
 rw [h2.ints] at h1
 exact⟨a,rfl,h1⟩
def ago (K:apT):Sp:=fun vs H Q _=>∃ (a:Addr) (ns:List Int) (i:Int),vs=[.ref a,.int i]/\SqL K H a (ns.map V.int)/\ns.length<=63/\0<=i/\i<=63 /\
 ∀ (p:Addr) (x y:Int) (H':Hp),Same H H'->H p=none->H' p=some (.lst [.int x,.int y])->0<=x->0<=y->y<2147483647->Q (.ref p) H'
def ahr (K:apT):Sp:=fun vs H Q _=>∃ (a:Addr) (ns:List Int),vs=[.ref a]/\SqL K H a (ns.map V.int)/\ns.length<=63/\∀ H',Q (.bl true) H'
theorem amw {K:apT} {f:Fx} {t:TA} {ρ:zw} {R R':List DV->Prop} (h:PAd K f t ρ R) (i:∀ xs,R xs->R' xs):PAd K f t ρ R':=fun σ H Q e q=>h σ H Q e fun xs vs H' g r p=>q xs vs H' g r (i xs p)
theorem aoO {K:apT} {ρ:zw} {ns:List Int} {i:Int} {E2:XK} (h0:ρ[0]?=some (some (.dat (scr ns)))) (h1:ρ[1]?=some (some (.dat (.int i)))) (hl:ns.length<=63) (i0:0<=i) (i1:i<=63) :
  ∀ (σ:L2.St) (H:Hp) (Q:VK),EnvOk K L2.f0 ρ σ H->(∀ (p:Addr) (x y:Int) (H':Hp),Same H H'->H p=none->H' p=some (.lst [.int x,.int y])->0<=x->0<=y->y<2147483647->Q (.ref p) H')->vW (ago K) [] E2 (zV (yr 0) (zV (yr 1) yQ)) σ H Q:=by
 intro σ H Q e q
 obtain⟨v0,hv0,r0⟩:=e.get 0 _ h0
 obtain⟨v1,hv1,r1⟩:=e.get 1 _ h1
 obtain⟨a,rfl,hS⟩:=amv r0
 have e1:v1=.int i:=rep_int.mp (show Rep K (hide H L2.f0) (.int i) v1 from r1)
 subst e1
 exact⟨_,hv0,_,hv1,a,ns,i,rfl,hS,hl,i0,i1,q⟩
theorem amx (F:Def K mg "_law_feed" qK pQ) (uaa:mg "len"=none) (uaM:mg "abs"=none):FnIn P w K mg base (k+1) "_law_feed" pQ (ago K):=by
 refine F.raw sc_law_feed (fun vs H Q E h=>?_) fun fa cdv A outer s H vs Q E hr hs=>⟨_,(zi (zY (i:=2) sc_law_feed.nd rfl (Or.inl rfl) zo) (zi (yD (zZ aiS (zy (zT (K:=K) rfl) rfl uaa aqz (zc (pv 0) zh)) zo (z3 _)) (zt (zY (i:=2) sc_law_feed.nd rfl (Or.inl rfl) (zW (zK (K:=K) rfl) (pv 0) (zM qX (pv 1) (zy (zT (K:=K) rfl) rfl uaa aqz (zc (pv 0) zh))) (fun _ _=>rfl)))) zX) (zt (zE (yR (zc (zy (aiX) rfl uaM PyProof.Rows.boot_abs (zc (pv 2) zh)) (zc (zM yb (zM adb zo (pv 1)) zo) zh))))))),?_⟩
 ·obtain⟨a,ns,i,rfl,_⟩:=h
  rfl
 obtain⟨a,ns,i,rfl,hS,h63,i0,i1,q⟩:=hs
 have e0:EnvOk K L2.f0 (qA vV [.dat (scr ns),.dat (.int i)]) (start vV [.ref a,.int i]) H:=qo (.cons (ahq hS) (.cons (show RepV K L2.f0 H (.dat (.int i)) (.int i) from (rep_int (K:=K) (H:=hide H L2.f0)).mpr rfl) .nil)) (L2.fok0 H)
 refine ajg (D:={ nx:=fun ρ=>ρ=[some (.dat (scr ns)),some (.dat (.int i)),some (.dat (.int 0))],rt:=fun _=>False }) ?_ e0 ?_ (fun _ _ _ _ _ z=>z.elim) (fun _ z=>z) (fun _ z=>z)
 ·walk_at "w"
  rfl
 rintro _ σ1 H1 g1 e1 rfl
 refine ajg (D:={ nx:=fun ρ=>∃ c:Int,ρ=[some (.dat (scr ns)),some (.dat (.int i)),some (.dat (.int c))],rt:=fun _=>False }) ?_ e1 ?_ (fun _ _ _ _ _ z=>z.elim) (fun _ z=>z) (fun _ z=>z)
 ·walk_at "w"
  rw [apP]
  by_cases h:0<ns.length
  ·rw [if_pos (by simpa using h)]
   walk_at "w"
   rw [apP]
   have z0:=asO i (b:=(ns.length:Int)) (by omega)
   have z1:=arF i (b:=(ns.length:Int)) (by omega)
   refine⟨by omega,_,rfl,_,qM (j:=(i % (ns.length:Int)).toNat) (by omega) (by omega),?_⟩
   walk_at "w"
   exact⟨_,rfl⟩
  ·rw [if_neg (by simpa using h)]
   walk_at "w"
   exact⟨_,rfl⟩
 rintro _ σ2 H2 g2 e2 ⟨c,rfl⟩
 unfold aec
 have ss:Same H H2:=(L2.same0 g1).trans (L2.same0 g2)
 refine ajh (R:=fun ds=>∃ x y:Int,ds=[.int x,.int y]/\0<=x/\0<=y/\y<2147483647) ?_ e2 ?_
 ·walk_at "w"
  omega
 ·rintro p ds vs H3 g3 hn rs ⟨x,y,rfl,hx,hy,hy'⟩
  have sf:Same H H3:=ss.trans (L2.same0 g3)
  have ev:vs=[.int x,.int y]:=Reps.ints (ns:=[x,y]) rs
  subst ev
  exact q p x y _ (sf.trans (z4 hn _)) (sf.free hn) zB hx hy hy'
instance (a b:Gt):Decidable (gLt a b):=by unfold gLt;infer_instance
abbrev Ln:=Str×List Gt
def lnD (t:Ln):PyData:=.tuple [.str t.1,.tuple (t.2.map gD3)]
def chB (rows:List (List Int)) (wd:Nat) (cut:Int) (l:List Gt):Bool:=(auL (fun a b=>decide (zP rows wd cut a=some b)) l (l.drop 1)).all id
def clB (rows:List (List Int)) (wd:Nat) (cut:Int):List Gt->Bool
 | []=>false
 | h :: l=>decide (zP rows wd cut ((h :: l).getLast (aqJ _ _))=some h) && (h :: l).all fun g=>decide (g=h \/ gLt h g)
def edB (rows:List (List Int)) (wd:Nat) (cut:Int):List Gt->Bool
 | []=>false
 | h :: l=>decide (yF rows wd cut h=none) && decide (zP rows wd cut ((h :: l).getLast (aqJ _ _))=none)
def jL (rows:List (List Int)) (wd:Nat) (cut:Int) (t:Ln):Bool:=if t.2=[] \/ ¬ t.2.Nodup then false else if t.2.all (opG rows wd cut)=false \/ chB rows wd cut t.2=false then false else if t.1="ring" then clB rows wd cut t.2 else decide (t.1="run") && edB rows wd cut t.2
theorem ab6 (g:Gt):abG (gD3 g):=⟨⟨rfl,by show 1<=8;decide⟩,_,rfl⟩
theorem nodup_g {l:List Gt}:(l.map gD3).Nodup↔l.Nodup:=⟨fun h=>(arb.mp h).imp fun ne e=>ne (congrArg gD3 e),fun h=>arb.mpr (h.imp fun ne e=>ne (aaf e))⟩
theorem akV {α:Type} [DecidableEq α]:∀ (l us:List α),us.Nodup->(∀ x,x∈us↔x∈l)->¬ l.Nodup->us.length<l.length
 | [],us,_,_,h=>absurd aq6 h
 | x :: t,us,nd,mm,h=>by
  by_cases hx:x∈t
  ·have:=nd.length_le_of_subset (l₂:=t) fun y hy=>by
    rcases ap0.mp ((mm y).mp hy) with e | e
    ·rw [e];exact hx
    ·exact e
   rw [ap8]
   omega
  ·have nt:¬ t.Nodup:=fun z=>h (aqO.mpr ⟨hx,z⟩)
   have:=akV t (us.erase x) (nd.erase x) (fun y=>by
    rw [nd.mem_erase_iff,mm y,ap0]
    exact⟨fun z=>z.2.resolve_left z.1,fun z=>⟨fun e=>hx (e▸z),.inr z⟩⟩) nt
   rw [asN ((mm x).mpr apX)] at this
   rw [ap8]
   omega
theorem agp {α:Type} [DecidableEq α] {us l:List α} (nd:us.Nodup) (mm:∀ x,x∈us↔x∈l):us.length<l.length↔¬ l.Nodup :=
 ⟨fun h n=>by
  have:=n.length_le_of_subset fun x hx=>(mm x).mpr hx
  omega,akV l us nd mm⟩
theorem ahs (q:Option Gt) (g:Gt):aqi (aaX q) (gD3 g)=decide (q=some g):=by
 cases q with
 | none=>rfl
 | some a =>
  show aqi (gD3 a) (gD3 g)=_
  rw [ab4]
  exact decide_eq_decide.mpr ⟨fun z=>by rw [z],fun z=>Option.some.inj z⟩
theorem aht (q:Option Gt):(aaX q).canLay0=true:=by cases q <;> rfl
theorem ac2 (q:Option Gt):(aaX q).depth<=1:=by
 cases q with
 | none=>exact aqu _
 | some g=>exact apY 1
abbrev TPa:=List (List Int)×Nat×Int×List Gt
abbrev am8 (c:TPa) (xs:List DV):Prop:=xs=[.dat (tab c.1),.dat (.int c.2.2.1),.dat (.tuple (c.2.2.2.map gD3))]/\Good c.2.1 c.1/\c.2.2.2.length<=900
abbrev akW (c:TPa) (xs:List DV):Prop:=am8 c xs/\(∀ g∈c.2.2.2,opG c.1 c.2.1 c.2.2.1 g=true)/\c.2.2.2≠[]
abbrev ac3 (K:apT):Sp:=spD K 3 am8 fun c r=>r=.bool (c.2.2.2.all (opG c.1 c.2.1 c.2.2.1))
theorem agq (F:Def K mg "all_open" qI ph) (uak:FnIn P w K mg base k "is_open" pf (aaD K)):FnIn P w K mg base (k+1) "all_open" ph (ac3 K):=by
 refine F.ok sc_all_open rfl fun fa cdv A outer s H E hr=>⟨_,(zi (jF aqV rfl (vp (K:=K) rfl (pv 2)) (zq (i:=3) sc_all_open.nd rfl (Or.inl rfl) (Or.inr rfl)) (zt (yD (y3 (z8 (K:=K) rfl (zp uak hr rfl (zc (pv 0) (zc (pv 1) (zc (pv 3) zh)))) (fun _=>rfl))) (zt (zE jN)) zX))) (zt (zE jN))),?_⟩
 rintro f xs ⟨rows,wd,cut,l⟩ hl ⟨rfl,g,few⟩
 try dsimp only [yj,zm]
 dsimp only at *
 refine yn (ajo (acE (zv rfl ⟨_,rfl,fun n ρ=>(∃ u,ρ=[some (.dat (tab rows)),some (.dat (.int cut)),some (.dat (.tuple (l.map gD3))),u])/\∀ q∈l.take n,opG rows wd cut q=true,⟨⟨_,rfl⟩,fun q hq=>by rw [asA] at hq;cases hq⟩,?_,?_⟩)))
 ·rintro n d _ hd ⟨⟨u,rfl⟩,ha⟩
  rw [apU] at hd
  cases et:l[n]? with
  | none=>rw [et] at hd;cases hd
  | some q =>
   rw [et] at hd
   cases hd
   refine zu (ach (jR (yP (zC (rows,wd,cut,q.1,q.2.1,q.2.2) ?_))))
   show PAd K f (zV (yr 0) (zV (yr 1) (zV (yr 3) yQ))) [some (.dat (tab rows)),some (.dat (.int cut)),some (.dat (.tuple (l.map gD3))),some (.dat (gD3 q))] _
   unfold gD3
   walk_at "w"
   rintro _ rfl
   refine⟨_,rfl,?_⟩
   cases ho:yC rows wd cut q.1 q.2.1 q.2.2 with
   | true =>
    rw [aqt,if_neg apQ]
    refine qm ⟨⟨_,rfl⟩,fun z hz=>?_⟩
    rw [aqZ,et] at hz
    rcases aqh.mp hz with hz | hz
    ·exact ha z hz
    ·rw [aqj.mp hz];exact ho
   | false =>
    rw [arW,if_pos rfl]
    refine yu (ado ?_)
    show PyData.bool false=PyData.bool _
    congr 1
    symm
    rw [List.all_eq_false]
    exact⟨q,apZ et,by unfold opG;rw [ho];exact apQ⟩
 ·rintro _ ⟨⟨u,rfl⟩,ha⟩
  rw [apP,aqy] at ha
  refine yu (ado ?_)
  show PyData.bool true=PyData.bool _
  congr 1
  symm
  exact aqX.mpr ha
abbrev afb (K:apT):Sp:=spD K 3 akW fun c r=>r=.bool (chB c.1 c.2.1 c.2.2.1 c.2.2.2)
theorem aiG (F:Def K mg "goes_on" vA ph) (uaj:mg "all"=none) (uaN:mg "zip"=none) (uam:FnIn P w K mg base k "gate_ahead" pf (ab0 K)):FnIn P w K mg base (k+1) "goes_on" ph (afb K):=by
 refine F.ok agb rfl fun fa cdv A outer s H E hr=>⟨_,(zt (zE (zy (aas (K:=K) rfl rfl) rfl uaj as9 (zc (zQ (N:=pY) (own:=2) (fr:=[0,1]) ⟨rfl,by decide +kernel,of_decide_eq_true (by kernel_rfl),of_decide_eq_true (by kernel_rfl),of_decide_eq_true (by kernel_rfl),rfl⟩ rfl (aka (K:=K) rfl rfl uaN (zc (pv 2) (zc (abh (alr (K:=K) rfl) (pv 2) (adf zo) ade) zh))) (fun _ _ _ _=>(ye (K:=K) (n:=2) rfl rfl (zx (zq (i:=0) (show (pY:List Str).Nodup by decide +kernel) rfl (Or.inl rfl) (Or.inr rfl)) (zx (zq (i:=1) (show (pY:List Str).Nodup by decide +kernel) rfl (Or.inl rfl) (Or.inr rfl)) z7)))) (fun _ _ _ _=>zN) (fun _ _ _ _=>(y4 (qB (K:=K) rfl hr.units) (zp uam hr rfl (zc (pv 2) (zc (pv 3) (zc (pv 0) zh)))) (pv 1) (z3 _))) rfl rfl (fun _=>rfl)) zh)))),?_⟩
 rintro f xs ⟨rows,wd,cut,l⟩ hl ⟨⟨rfl,g,few⟩,op,ne⟩
 try dsimp only [yj,zm]
 dsimp only at *
 have pos:0<l.length:=arM.mpr ne
 refine yu (ajt (PEdO.ped (jm (A:=fun p:Gt×Gt=>.tuple [gD3 p.1,gD3 p.2]) (B:=fun p=>PyData.bool (decide (zP rows wd cut p.1=some p.2))) (l.zip (l.drop 1)) (aoq (zJ (zv rfl (zJ (anU (zv rfl ⟨_,rfl,?_⟩)) )))))))
 walk_at "w"
 have e1:HT.sIx (l.map gD3).length 0 (some 1)=1:=by
  rw [apP]
  unfold HT.sIx
  simp
  omega
 have e2:HT.sIx (l.map gD3).length (l.map gD3).length none=(l.map gD3).length:=rfl
 refine⟨fun z=>by rw [e1] at z;exact absurd z.1 (by decide),yI ⟨_,_,rfl,?_,?_,?_,?_⟩⟩
 ·unfold L2.cutD aj7
  rw [e1,e2,asm (by rw [asC];omega),<- atd,List.zipWith_map,List.zip,List.map_zipWith]
 ·rw [List.length_zip];omega
 ·rintro D ⟨a,b⟩ ρ' es hq ho hes
  have ha:=atj hq
  obtain⟨u,v,rfl⟩:=ho.two
  refine jl rfl (zG (zu (zG (zu (yG (yE ?_))))))
  rw [if_pos rfl]
  refine yi hes (jw (zC (rows,wd,cut,a) ?_))
  walk_at "w"
  refine⟨⟨rfl,g,op a ha.1⟩,?_⟩
  rintro _ rfl
  refine zv rfl ⟨aht _,rfl,?_,?_,?_⟩
  ·exact aqn (ass _ _) (aqn (ac2 _) (by decide))
  ·exact .mk2
  ·rw [if_neg apQ,ahs]
 ·refine⟨(l.zip (l.drop 1)).map fun p=>decide (zP rows wd cut p.1=some p.2),by rw [aqv];rfl,?_⟩
  unfold chB
  rw [List.zip,List.map_zipWith]
theorem ahu {α:Type} {F:α->PyData} {h:α} {l:List α}:atI ((h :: l).map F) (-1)=some (F ((h :: l).getLast (aqJ _ _))):=by
 have e:ixN ((h :: l).map F).length (-1)=some l.length:=by
  unfold ixN
  simp
  omega
 unfold atI
 rw [e]
 show ((h :: l).map F)[l.length]?=_
 rw [apU,List.getLast_eq_getElem,apO (by simp)]
 simp
theorem apr (a b:Gt):vd (gD3 a) (gD3 b)=true:=by
 obtain⟨x,y,w⟩:=a
 obtain⟨x',y',w'⟩:=b
 show vd (.tuple [.int x,.int y,.int w]) (.tuple [.int x',.int y',.int w'])=true
 simp only [vd,vR]
 split
 ·split
  ·split <;> rfl
  ·rfl
 ·rfl
theorem amy (a b:Gt):gLt a b \/ a=b \/ gLt b a:=by
 obtain⟨x,y,w⟩:=a
 obtain⟨x',y',w'⟩:=b
 unfold gLt
 simp only [Prod.mk.injEq]
 omega
theorem jM {α:Type} {F:α->PyData} {h:α} {l:List α}:atI ((h :: l).map F) 0=some (F h):=jO (j:=0) rfl
abbrev afc (K:apT):Sp:=spD K 3 akW fun c r=>r=.bool (clB c.1 c.2.1 c.2.2.1 c.2.2.2)
theorem aiH (F:Def K mg "is_closed" jX ph) (uae:mg "min"=none) (uam:FnIn P w K mg base k "gate_ahead" pf (ab0 K)):FnIn P w K mg base (k+1) "is_closed" ph (afc K):=by
 refine F.ok adY rfl fun fa cdv A outer s H E hr=>⟨_,(zt (zE (qV (y4 (qB (K:=K) rfl hr.units) (zp uam hr rfl (zc (pv 0) (zc (pv 1) (zc (zW (yv (K:=K) rfl) (pv 2) (aiQ afp zo) (fun _ _=>rfl)) zh)))) (zW (yv (K:=K) rfl) (pv 2) zo (fun _ _=>rfl)) (z3 _)) (vN (y4 (qB (K:=K) rfl hr.units) (zW (yv (K:=K) rfl) (pv 2) zo (fun _ _=>rfl)) (zy (afP (K:=K) rfl rfl hr.units) rfl uae boot_min (zc (pv 2) zh)) (z3 _)))))),?_⟩
 rintro f xs ⟨rows,wd,cut,l⟩ hl ⟨⟨rfl,g,few⟩,op,ne⟩
 try dsimp only [yj,zm]
 dsimp only at *
 obtain⟨h,t,rfl⟩:=arA ne
 have ol:=op _ (aub (aqJ h t))
 refine yu (aam (jw (zC (rows,wd,cut,(h :: t).getLast (aqJ _ _)) ?_)))
 refine zJ (zv rfl (zJ (zv rfl (zJ (jQ (zv rfl ⟨_,rfl,ajv (yg ⟨_,rfl,_,rfl,_,ahu,yI ⟨rfl,⟨rfl,g,ol⟩,?_⟩⟩)⟩))))))
 rintro _ rfl
 refine jQ (zv rfl ⟨_,rfl,yg ⟨_,rfl,_,jM,aht _,rfl,aqn (ass _ _) (aqn (ac2 _) (by decide)),_,rfl,?_⟩⟩)
 rw [if_neg apQ,ahs]
 refine yV (fun hq=>?_) fun hq=>?_
 ·refine jw (jQ (zv rfl ⟨_,rfl,yg ⟨_,rfl,_,jM,aoh (zv rfl ⟨_,rfl,by simp,?_,?_,?_,?_⟩)⟩⟩))
  ·exact fun d hd=>by obtain⟨z,_,rfl⟩:=aqd.mp hd;rfl
  ·intro d hd e he
   obtain⟨z,_,rfl⟩:=aqd.mp hd
   obtain⟨z',_,rfl⟩:=aqd.mp he
   exact apr z z'
  ·exact fun d hd=>by obtain⟨z,_,rfl⟩:=aqd.mp hd;show 1<=50;decide
  ·intro d hd le
   obtain⟨m,hm,rfl⟩:=aqd.mp hd
   refine⟨rfl,rfl,by show 1<=60;decide,?_⟩
   rw [if_neg apQ,ab4]
   show PyData.bool _=PyData.bool (decide (zP rows wd cut ((h :: t).getLast (aqJ _ _))=some h) && _)
   rw [hq,aq7]
   congr 1
   have lm:∀ g∈h :: t,¬ gLt g m:=fun g hg z=>by
    have:=le (gD3 g) (arP hg)
    rw [akF z] at this
    cases this
   rw [arB,decide_eq_true_eq,aqX]
   constructor
   ·rintro rfl g hg
    refine decide_eq_true ?_
    rcases amy g h with e | e | e
    ·exact absurd e (lm g hg)
    ·exact .inl e
    ·exact .inr e
   ·intro z
    rcases of_decide_eq_true (z m hm) with e | e
    ·exact e.symm
    ·exact absurd e (lm h apX)
 ·show PyData.bool false=PyData.bool (decide (zP rows wd cut ((h :: t).getLast (aqJ _ _))=some h) && _)
  rw [hq,arn]
abbrev ahv (K:apT):Sp:=spD K 3 akW fun c r=>r=.bool (edB c.1 c.2.1 c.2.2.1 c.2.2.2)
theorem akX (F:Def K mg "is_from_edge_to_edge" ym ph) (uaL:FnIn P w K mg base k "comes_in" pf (ad5 K)) (uam:FnIn P w K mg base k "gate_ahead" pf (ab0 K)):FnIn P w K mg base (k+1) "is_from_edge_to_edge" ph (ahv K):=by
 refine F.ok qs rfl fun fa cdv A outer s H E hr=>⟨_,(zt (zE (qV (zp uaL hr rfl (zc (pv 0) (zc (pv 1) (zc (zW (yv (K:=K) rfl) (pv 2) zo (fun _ _=>rfl)) zh)))) (vN (y4 aiT (zp uam hr rfl (zc (pv 0) (zc (pv 1) (zc (zW (yv (K:=K) rfl) (pv 2) (aiQ afp zo) (fun _ _=>rfl)) zh)))) aai (z3 _)))))),?_⟩
 rintro f xs ⟨rows,wd,cut,l⟩ hl ⟨⟨rfl,g,few⟩,op,ne⟩
 try dsimp only [yj,zm]
 dsimp only at *
 obtain⟨h,t,rfl⟩:=arA ne
 have ol:=op _ (aub (aqJ h t))
 have oh:=op h apX
 refine yu (aam (zC (rows,wd,cut,h) (zJ (zv rfl (zJ (zv rfl (zJ (jQ (zv rfl ⟨_,rfl,yg ⟨_,rfl,_,jM,yI ⟨rfl,⟨rfl,g,oh⟩,?_⟩⟩⟩)))))))))
 rintro _ rfl
 refine⟨_,rfl,?_⟩
 have ei:(!zS rows wd (bhC rows cut h).1 (bhC rows cut h).2)=decide (yF rows wd cut h=none):=by
  rw [arB,decide_eq_true_eq]
  exact agn oh
 show if (!zS rows wd (bhC rows cut h).1 (bhC rows cut h).2)=true then _ else _
 rw [ei]
 refine yV (fun hq=>?_) fun hq=>?_
 ·refine akS (zC (rows,wd,cut,(h :: t).getLast (aqJ _ _)) (zJ (zv rfl (zJ (zv rfl (zJ (jQ (zv rfl ⟨_,rfl,ajv (yg ⟨_,rfl,_,rfl,_,ahu,yI ⟨rfl,⟨rfl,g,ol⟩,?_⟩⟩)⟩))))))))
  rintro _ rfl
  refine⟨ab5 _,?_⟩
  show PyData.bool _=PyData.bool (decide (yF rows wd cut h=none) && decide (zP rows wd cut ((h :: t).getLast (aqJ _ _))=none))
  rw [hq,aq7]
  congr 1
  cases zP rows wd cut ((h :: t).getLast (aqJ _ _)) <;> rfl
 ·show PyData.bool false=PyData.bool (decide (yF rows wd cut h=none) && _)
  rw [hq,arn]
abbrev TLn:=List (List Int)×Nat×Int×Ln
abbrev aps (c:TLn) (xs:List DV):Prop:=xs=[.dat (tab c.1),.dat (.int c.2.2.1),.dat (lnD c.2.2.2)]/\Good c.2.1 c.1/\c.2.2.2.2.length<=900/\aq4 c.2.2.2.1=true/\∀ us:List Gt,us.Nodup->(∀ x∈us,x∈c.2.2.2.2)->us.length<300
abbrev akY (K:apT):Sp:=spD K 3 aps fun c r=>r=.bool (jL c.1 c.2.1 c.2.2.1 c.2.2.2)
theorem amz (F:Def K mg "is_line" vz pN) (uaa:mg "len"=none) (uai:mg "set"=none) (ubl:FnIn P w K mg base k "all_open" ph (ac3 K)) (ubm:FnIn P w K mg base k "goes_on" ph (afb K)) (ubn:FnIn P w K mg base k "is_closed" ph (afc K)) (ubo:FnIn P w K mg base k "is_from_edge_to_edge" ph (ahv K)):FnIn P w K mg base (k+1) "is_line" pN (akY K):=by
 refine F.ok sc_is_line rfl fun fa cdv A outer s H E hr=>⟨_,(zi (yz (pv 2) (ye (K:=K) (n:=2) rfl rfl (zx (zq (i:=3) sc_is_line.nd rfl (Or.inl rfl) (Or.inr rfl)) (zx (zq (i:=4) sc_is_line.nd rfl (Or.inl rfl) (Or.inr rfl)) z7)))) (zi (yD (PW.pt (vH (y3 (z8 (K:=K) rfl (pv 4) (fun _=>rfl))) (qU (zZ aeh (zy (afU (w:=w) rfl) rfl uaa aqz (zc (ql (aeL (w:=w) (K:=K) rfl rfl rfl hr.units100) rfl uai as8 (zc (pv 4) zh)) zh)) (zy (zT (K:=K) rfl) rfl uaa aqz (zc (pv 4) zh)) (z3 _))))) (zt (zE jN)) zX) (zi (yD (PW.pt (vH (y3 (z8 (K:=K) rfl (zp ubl hr rfl (zc (pv 0) (zc (pv 1) (zc (pv 4) zh)))) (fun _=>rfl))) (qU (y3 (z8 (K:=K) rfl (zp ubm hr rfl (zc (pv 0) (zc (pv 1) (zc (pv 4) zh)))) (fun _=>rfl)))))) (zt (zE jN)) zX) (zi (yD (zZ (qB (K:=K) rfl hr.units) (pv 3) qS (z3 _)) (zt (zE (zp ubn hr rfl (zc (pv 0) (zc (pv 1) (zc (pv 4) zh)))))) zX) (zt (zE (qV (y4 (qB (K:=K) rfl hr.units) (pv 3) qS (z3 _)) (vN (zp ubo hr rfl (zc (pv 0) (zc (pv 1) (zc (pv 4) zh)))))))))))),?_⟩
 rintro f xs ⟨rows,wd,cut,wo,l⟩ hl ⟨rfl,g,few,so,fd⟩
 try dsimp only [yj,zm]
 dsimp only at *
 refine yn (yo (zv rfl (jl rfl (zG (zu (zG (zu (yG ?_))))))))
 refine yn (ag9 (l=[] \/ ¬ l.Nodup) (abm (jR (yP (zv rfl ⟨_,rfl,?_⟩)))) (fun hp=>yu (ado ?_)) fun hp=>qm ?_)
 ·refine yV (fun hq=>?_) fun hq=>?_
  ·cases l with
   | nil=>rfl
   | cons a l=>cases hq
  ·have ne:l≠[]:=fun z=>by subst z;cases hq
   refine t_b (abk (ake (zv rfl ⟨_,rfl,fun x hx=>?_,fun us un us2=>?_,fun us un mm=>?_⟩)))
   ·obtain⟨z,_,rfl⟩:=aqd.mp hx
    exact ab6 z
   ·have:∃ vs:List Gt,us=vs.map gD3:=by
     clear un
     induction us with
     | nil=>exact⟨[],rfl⟩
     | cons a us ih =>
      obtain⟨vs,rfl⟩:=ih fun x hx=>us2 x (apW _ hx)
      obtain⟨v,_,rfl⟩:=aqd.mp (us2 a apX)
      exact⟨v :: vs,rfl⟩
    obtain⟨vs,rfl⟩:=this
    rw [apP]
    refine fd vs (nodup_g.mp un) fun x hx=>?_
    obtain⟨z,hz,e⟩:=aqd.mp (us2 _ (arP hx))
    rw [<-aaf e]
    exact hz
   ·walk_at "w"
    have q:us.length<(l.map gD3).length↔¬ (l.map gD3).Nodup:=agp un mm
    rw [nodup_g] at q
    have e:decide (((us.length:Nat):Int)<(((l.map gD3).length:Nat):Int))=decide (l=[] \/ ¬ l.Nodup):=decide_eq_decide.mpr ⟨fun z=>.inr (q.mp (by omega)),fun z=>by
     have:=q.mpr (z.resolve_left ne)
     omega⟩
    exact e
 ·show PyData.bool false=PyData.bool (jL rows wd cut (wo,l))
  unfold jL
  rw [if_pos hp]
 have ne:l≠[]:=fun z=>hp (.inl z)
 have nd:l.Nodup:=aqS fun z=>hp (.inr z)
 refine yn (ag9 (l.all (opG rows wd cut)=false \/ chB rows wd cut l=false) ?_ (fun hp2=>yu (ado ?_)) fun hp2=>qm ?_)
 ·refine abm (jR (yP (zC (rows,wd,cut,l) (afV rfl rfl rfl ⟨rfl,⟨rfl,g,few⟩,?_⟩))))
  rintro _ rfl
  refine⟨_,rfl,?_⟩
  cases ha:l.all (opG rows wd cut) with
  | false =>
   rw [arW,if_pos rfl]
   exact (decide_eq_true (.inl rfl)).symm
  | true =>
   rw [aqt,if_neg apQ]
   refine jR (yP (zC (rows,wd,cut,l) (afV rfl rfl rfl ⟨rfl,⟨⟨rfl,g,few⟩,aqX.mp ha,ne⟩,?_⟩)))
   rintro _ rfl
   refine⟨_,rfl,?_⟩
   cases hc:chB rows wd cut l <;> simp [hc]
 ·show PyData.bool false=PyData.bool (jL rows wd cut (wo,l))
  unfold jL
  rw [if_neg hp,if_pos hp2]
 have op:∀ q∈l,opG rows wd cut q=true:=aqX.mp (by
  cases ha:l.all (opG rows wd cut) with
  | true=>rfl
  | false=>exact absurd (.inl ha) hp2)
 refine yn (ag9 (wo="ring") ?_ (fun hw=>?_) fun hw=>qm ?_)
 ·refine yw (jw (zv rfl (agA ⟨so,by decide +kernel,by show min 0 0<=60;decide,_,rfl,?_⟩)))
  show (wo == arQ "ring")=decide (wo="ring")
  rw [arB,beq_iff_eq,decide_eq_true_eq]
 ·refine yu (zC (rows,wd,cut,l) (afV rfl rfl rfl ⟨rfl,⟨⟨rfl,g,few⟩,op,ne⟩,?_⟩))
  rintro _ rfl
  show PyData.bool (clB rows wd cut l)=PyData.bool (jL rows wd cut (wo,l))
  unfold jL
  rw [if_neg hp,if_neg hp2,if_pos hw]
 refine yu (aam (jw (zv rfl (agA ⟨so,by decide +kernel,by show min 0 0<=60;decide,_,rfl,?_⟩))))
 show if (wo == arQ "run")=true then _ else _
 have er:(wo == arQ "run")=decide (wo="run"):=by rw [arB,beq_iff_eq,decide_eq_true_eq]
 rw [er]
 have eo:jL rows wd cut (wo,l)=(decide (wo="run") && edB rows wd cut l):=by
  unfold jL
  rw [if_neg hp,if_neg hp2,if_neg hw]
 rw [eo]
 refine yV (fun hq=>?_) fun hq=>?_
 ·refine zC (rows,wd,cut,l) (afV rfl rfl rfl ⟨rfl,⟨⟨rfl,g,few⟩,op,ne⟩,?_⟩)
  rintro _ rfl
  show PyData.bool (edB rows wd cut l)=PyData.bool (decide (wo="run") && edB rows wd cut l)
  rw [hq,aq7]
 ·show PyData.bool false=PyData.bool (decide (wo="run") && edB rows wd cut l)
  rw [hq,arn]
def yq (l:List Gt):List (PyData×PyData):=l.map fun g=>(gD3 g,.bool true)
theorem aiI (l:List Gt):(yq l).map (·.1)=l.map gD3:=by unfold yq;rw [aqv];rfl
theorem seen_mem {l:List Gt} {g:Gt}:gD3 g∈(yq l).map (·.1)↔g∈l:=by
 rw [aiI]
 refine⟨fun h=>?_,arP⟩
 obtain⟨z,hz,e⟩:=aqd.mp h
 rw [<-aaf e]
 exact hz
theorem afd {l:List Gt} {g:Gt} (h:g∉l):dput (gD3 g) (.bool true) (yq l)=yq (l++[g]):=by
 unfold dput
 rw [if_neg fun z=>h (seen_mem.mp z)]
 unfold yq
 rw [aqm]
 rfl
def fw (rows:List (List Int)) (wd:Nat) (cut:Int):List Ln->List Gt->Nat->Option Nat
 | [],_,_=>none
 | t :: ts,seen,i=>if jL rows wd cut t=false \/ t.2.any (fun g=>decide (g∈seen))=true then some i else fw rows wd cut ts (seen++t.2) (i+1)
def fwD (rows:List (List Int)) (wd:Nat) (cut:Int) (us:List Ln):PyData:=match fw rows wd cut us [] 0 with
 | some i=>.int i
 | none=>if (us.flatMap (·.2)).length=(ya rows wd cut).length then .none else .int us.length
theorem vE {rows:List (List Int)} {wd:Nat} {cut:Int} {t:Ln} (h:jL rows wd cut t=true):t.2.Nodup/\t.2≠[]/\∀ g∈t.2,opG rows wd cut g=true:=by
 unfold jL at h
 by_cases h1:t.2=[] \/ ¬ t.2.Nodup
 ·rw [if_pos h1] at h;cases h
 ·rw [if_neg h1] at h
  by_cases h2:t.2.all (opG rows wd cut)=false \/ chB rows wd cut t.2=false
  ·rw [if_pos h2] at h;cases h
  ·refine⟨aqS fun z=>h1 (.inr z),fun z=>h1 (.inl z),aqX.mp ?_⟩
   cases ha:t.2.all (opG rows wd cut) with
   | true=>rfl
   | false=>exact absurd (.inl ha) h2
abbrev afe (w:World) (K:apT):Sp:=spD K 2 (fun (c:Ln×List Gt) xs=>xs=[.dat (lnD c.1),.mon (aaV w K (yq c.2))]/\c.1.2.length<=900) fun c r=>r=.bool (c.1.2.any fun g=>decide (g∈c.2))
theorem aiJ (F:Def K mg "shares_gate" jh pJ) (uat:mg "any"=none):FnIn P w K mg base (k+1) "shares_gate" pJ (afe w K):=by
 refine F.ok abQ rfl fun fa cdv A outer s H E hr=>⟨_,(zt (zE (zy (acF (K:=K) rfl rfl) rfl uat aup (zc (zQ (N:=["gate","seen"]) (own:=1) (fr:=[1]) ⟨rfl,by decide +kernel,of_decide_eq_true (by kernel_rfl),of_decide_eq_true (by kernel_rfl),of_decide_eq_true (by kernel_rfl),rfl⟩ rfl (vp (K:=K) rfl (zW (yv (K:=K) rfl) (pv 0) zo (fun _ _=>rfl))) (fun _ _ _ _=>(zq (i:=0) (show (["gate","seen"]:List Str).Nodup by decide +kernel) rfl (Or.inl rfl) (Or.inr rfl))) (fun _ _ _ _=>zN) (fun _ _ _ _=>(y4 (acP (w:=w) (K:=K) rfl rfl hr.units) (pv 0) (pv 1) rfl)) rfl rfl (fun _=>rfl)) zh)))),?_⟩
 rintro f xs ⟨⟨wo,l⟩,seen⟩ hl ⟨rfl,few⟩
 try dsimp only [yj,zm]
 dsimp only at *
 refine yu (amW (PEdO.ped (jm (A:=gD3) (B:=fun q=>PyData.bool (decide (q∈seen))) l (acE (jQ (zv rfl ⟨_,rfl,yg ⟨_,rfl,.tuple (l.map gD3),rfl,_,rfl,rfl,by omega,?_,?_⟩⟩))))))
 ·rintro D q ρ' es hq ho hes
  obtain⟨u,rfl⟩:=ho.one
  refine zu (yE ?_)
  rw [if_pos rfl]
  refine yi hes (am6 (zv rfl ⟨ab6 q,yq seen,rfl,.mk1,?_⟩))
  have:decide (gD3 q∈(yq seen).map (·.1))=decide (q∈seen):=decide_eq_decide.mpr seen_mem
  rw [this]
 ·refine⟨l.map fun q=>decide (q∈seen),by rw [aqv];rfl,?_⟩
  show PyData.bool _=PyData.bool _
  rw [List.any_map]
  rfl
abbrev TFw:=List (List Int)×Nat×Int×List Ln
abbrev akZ (t:Ln):Prop:=t.2.length<=900/\aq4 t.1=true/\∀ us:List Gt,us.Nodup->(∀ x∈us,x∈t.2)->us.length<300
abbrev apt (K:apT):Sp:=spD K 3 (fun (c:TFw) xs=>xs=[.dat (tab c.1),.dat (.int c.2.2.1),.dat (.list (c.2.2.2.map lnD))]/\Good c.2.1 c.1/\c.2.2.2.length<=900/\∀ t∈c.2.2.2,akZ t) fun c r=>r=fwD c.1 c.2.1 c.2.2.1 c.2.2.2
theorem apu (F:Def K mg "first_wrong" jf pM) (uaa:mg "len"=none) (uah:mg "enumerate"=none) (uau:FnIn P w K mg base k "ask_table" pq (ahc K)) (ubp:FnIn P w K mg base k "is_line" pN (akY K)) (ubq:FnIn P w K mg base k "shares_gate" pJ (afe w K)) (uaK:FnIn P w K mg base k "gates" pA (ad1 K)):FnIn P w K mg base (k+1) "first_wrong" pM (apt K):=by
 refine F.ok sc_first_wrong rfl fun fa cdv A outer s H E hr=>⟨_,(zi (jy (zp uau hr rfl (zc (pv 0) zh))) (zi (zY (i:=3) sc_first_wrong.nd rfl (Or.inl rfl) (acN (w:=w) rfl)) (zi (jF aqV rfl (abq (K:=K) rfl rfl uah (zc (pv 2) zh)) (ye (K:=K) (n:=2) rfl rfl (zx (zq (i:=4) sc_first_wrong.nd rfl (Or.inl rfl) (Or.inr rfl)) (zx (zq (i:=5) sc_first_wrong.nd rfl (Or.inl rfl) (Or.inr rfl)) z7))) (zi (yD (PW.pt (vH (y3 (z8 (K:=K) rfl (zp ubp hr rfl (zc (pv 0) (zc (pv 1) (zc (pv 5) zh)))) (fun _=>rfl))) (qU (z8 (K:=K) rfl (zp ubq hr rfl (zc (pv 5) (zc (pv 3) zh))) (fun _=>rfl))))) (zt (zE (pv 4))) zX) (zt (jF aqV rfl (vp (K:=K) rfl (zW (yv (K:=K) rfl) (pv 5) zo (fun _ _=>rfl))) (zq (i:=6) sc_first_wrong.nd rfl (Or.inl rfl) (Or.inr rfl)) (zt (yz jN (aaj (pv 3) (pv 6) (abI (w:=w) (K:=K) rfl rfl hr.units)))))))) (zt (zE (qW (zZ (qB (K:=K) rfl hr.units) (zy (adQ (w:=w) rfl) rfl uaa aqz (zc (pv 3) zh)) (zy (zT (K:=K) rfl) rfl uaa aqz (zc (zp uaK hr rfl (zc (pv 0) (zc (pv 1) zh))) zh)) (z3 _)) aai (zy (zT (K:=K) rfl) rfl uaa aqz (zc (pv 2) zh)))))))),?_⟩
 rintro f xs ⟨rows,wd,cut,us⟩ hl ⟨rfl,g,few,gd⟩
 try dsimp only [yj,zm]
 dsimp only at *
 refine yn (abn (zC (rows,wd) ?_))
 walk_at "w"
 rintro _ rfl
 refine afK (w:=w) (ajQ (ajW ⟨show 3<7 by decide,fun D=>?_⟩))
 have key:∀ n t,us[n]?=some t->us.take (n+1)=us.take n++[t]/\us.drop n=t :: us.drop (n+1):=fun n t ht=>by
  refine⟨by rw [aqZ,ht];rfl,?_⟩
  obtain⟨hlt,e⟩:=apS.mp ht
  rw [<-e]
  exact atM hlt
 have lenOp:∀ l:List Gt,l.Nodup->(∀ g∈l,opG rows wd cut g=true)->l.length<=(ya rows wd cut).length:=fun l nd op=>nd.length_le_of_subset fun x hx=>mem_gates.mpr (op x hx)
 have gl:=qu (cut:=cut) g
 refine v7 (aeE (ajn (vf rfl ⟨_,rfl,fun n ρ cs=>(∃ x y z,ρ=[some (.dat (tab rows)),some (.dat (.int cut)),some (.dat (.list (us.map lnD))),some (.own (f.M.length+0)),x,y,z])/\cs=[.dic (yq ((us.take n).flatMap (·.2)))]/\fw rows wd cut us [] 0=fw rows wd cut (us.drop n) ((us.take n).flatMap (·.2)) n/\((us.take n).flatMap (·.2)).Nodup/\∀ g∈(us.take n).flatMap (·.2),opG rows wd cut g=true,⟨⟨_,_,_,rfl⟩,rfl,rfl,aq6,fun g hg=>(nomatch hg)⟩,?_,?_⟩)))
 ·rintro n d _ _ hd ⟨⟨x,y,z,rfl⟩,rfl,hf,nd,op⟩
  obtain⟨⟨wo,l⟩,ht,rfl⟩:=aeN hd
  have hm:=apZ ht
  obtain⟨few1,so,fd⟩:=gd _ hm
  obtain⟨k1,k2⟩:=key n _ ht
  generalize hs:(us.take n).flatMap (·.2)=seen at *
  have fr:∀ x y z,asr (jr w K f.M.length [OC.dic (yq seen)]) [some (DV.dat (tab rows)),some (.dat (.int cut)),some (.dat (.list (us.map lnD))),some (.own (f.M.length+0)),some (.dat x),some (.dat y),z]=[some (.dat (tab rows)),some (.dat (.int cut)),some (.dat (.list (us.map lnD))),some (.mon (aaV w K (yq seen))),some (.dat x),some (.dat y),jr w K f.M.length [OC.dic (yq seen)] z]:=fun x y z=>by simp [jr]
  refine jl rfl (zG (zu (zG (zu (yG ?_)))))
  refine v7 (ao9 (akf ?_))
  show PTd K f _ (asr (jr w K f.M.length [OC.dic (yq seen)]) [some (DV.dat (tab rows)),some (.dat (.int cut)),some (.dat (.list (us.map lnD))),some (.own (f.M.length+0)),some (.dat (.int n)),some (.dat (lnD (wo,l))),z]) _
  rw [fr]
  refine abm (jR (yP (zC (rows,wd,cut,wo,l) (afV rfl rfl rfl ⟨rfl,⟨rfl,g,few1,so,fd⟩,?_⟩))))
  rintro _ rfl
  refine⟨_,rfl,?_⟩
  have stop:jL rows wd cut (wo,l)=false \/ l.any (fun g=>decide (g∈seen))=true->fwD rows wd cut us=.int n:=fun h=>by
   unfold fwD
   rw [hf,k2,fw,if_pos h]
  show if (!jL rows wd cut (wo,l))=true then _ else _
  refine yV (fun hq=>?_) fun hq=>?_
  ·rw [if_pos rfl]
   refine abF (yu (zv rfl ?_))
   exact (stop (.inl (by cases h:jL rows wd cut (wo,l) with | true=>rw [h] at hq;cases hq | false=>rfl))).symm
  have hok:jL rows wd cut (wo,l)=true:=by cases h:jL rows wd cut (wo,l) with | true=>rfl | false=>rw [h] at hq;cases hq
  refine yP (zC ((wo,l),seen) (zJ (zv rfl (am3 (v_var rfl (yI ⟨rfl,⟨rfl,few1⟩,?_⟩))))))
  rintro _ rfl
  refine⟨_,rfl,?_⟩
  show if (l.any fun g=>decide (g∈seen))=true then _ else _
  refine yV (fun hq2=>?_) fun hq2=>?_
  ·refine abF (yu (zv rfl ?_))
   exact (stop (.inr hq2)).symm
  obtain⟨ndl,nel,opl⟩:=vE hok
  dsimp only at ndl nel opl
  have dis:∀ q∈l,q∉seen:=fun q hq' hs'=>by
   have:=atO.mp hq2 q hq'
   exact this (decide_eq_true hs')
  refine ajO ?_
  have hall:(us.take (n+1)).flatMap (·.2)=seen++l:=by
   rw [k1,aq9,hs]
   simp
  have ndA:(seen++l).Nodup:=aqY.mpr ⟨nd,ndl,fun a ha b hb e=>dis b hb (e▸ha)⟩
  have opA:∀ q∈seen++l,opG rows wd cut q=true:=fun q hq'=>(aqh.mp hq').elim (op q) (opl q)
  have leA:=lenOp _ ndA opA
  rw [aqa] at leA
  refine aeE (acE (jQ (zv rfl ⟨_,rfl,yg ⟨_,rfl,.tuple (l.map gD3),rfl,_,rfl,fun m ρ cs=>(∃ z,ρ=[some (.dat (tab rows)),some (.dat (.int cut)),some (.dat (.list (us.map lnD))),some (.own (f.M.length+0)),some (.dat (.int n)),some (.dat (lnD (wo,l))),z])/\cs=[.dic (yq (seen++l.take m))],⟨⟨_,rfl⟩,by rw [asA,aqG]⟩,?_,?_⟩⟩)))
  ·rintro m d _ _ hd ⟨⟨z,rfl⟩,rfl⟩
   rw [apU] at hd
   cases et:l[m]? with
   | none=>rw [et] at hd;cases hd
   | some q =>
    rw [et] at hd
    cases hd
    have tk:l.take (m+1)=l.take m++[q]:=by rw [aqZ,et];rfl
    have fresh:q∉seen++l.take m:=fun z=>by
     rcases aqh.mp z with z | z
     ·exact dis q (apZ et) z
     ·have n2:(l.take (m+1)).Nodup:=ndl.sublist (asU _ _)
      rw [tk] at n2
      exact (aqY.mp n2).2.2 q z q (aqj.mpr rfl) rfl
    have lt:(l.take m).length<=l.length:=by rw [aqD];omega
    refine zu (ajX (i:=3) (j:=0) rfl rfl ?_ (ado (zv rfl ⟨ab6 q,⟨_,rfl⟩,?_⟩)))
    ·unfold yq
     rw [apP,aqa]
     omega
    ·show [OC.dic (dput (gD3 q) (.bool true) (yq (seen++l.take m)))]=_
     rw [afd fresh,tk,aq1]
  ·rintro _ _ ⟨⟨z,rfl⟩,rfl⟩
   rw [apP,aqy]
   refine⟨⟨_,_,_,rfl⟩,by rw [hall],?_,by rw [hall];exact ndA,by rw [hall];exact opA⟩
   rw [hf,k2,fw,if_neg (fun z=>z.elim (fun z=>by rw [hok] at z;cases z) fun z=>by rw [show ((wo,l):Ln).2=l from rfl,hq2] at z;cases z),hall]
 ·rintro _ _ ⟨⟨x,y,z,rfl⟩,rfl,hf,nd,op⟩
  rw [aie,apP] at *
  rw [aqy] at nd op
  rw [aqy,List.drop_length] at hf
  rw [aqy]
  have le:=lenOp _ nd op
  have fr:asr (jr w K f.M.length [OC.dic (yq (us.flatMap (·.2)))]) [some (DV.dat (tab rows)),some (.dat (.int cut)),some (.dat (.list (us.map lnD))),some (.own (f.M.length+0)),x,y,z]=[some (.dat (tab rows)),some (.dat (.int cut)),some (.dat (.list (us.map lnD))),some (.mon (aaV w K (yq (us.flatMap (·.2))))),jr w K f.M.length [OC.dic (yq (us.flatMap (·.2)))] x,jr w K f.M.length [OC.dic (yq (us.flatMap (·.2)))] y,jr w K f.M.length [OC.dic (yq (us.flatMap (·.2)))] z]:=by simp [jr]
  refine alT ?_
  rw [fr]
  have sl:(yq (us.flatMap (·.2))).length=(us.flatMap (·.2)).length:=by unfold yq;rw [apP]
  have out:fwD rows wd cut us=if (us.flatMap (·.2)).length=(ya rows wd cut).length then .none else .int us.length:=by
   unfold fwD
   rw [hf]
   rfl
  refine yu (aja (yw (jw (aor rfl (by omega) (vL (zJ (PEdO.ped (aby (rows,wd,cut) (akh rfl rfl ⟨rfl,⟨rfl,g⟩,?_⟩)))))))))
  rintro _ rfl
  refine yI (.inl ⟨_,rfl,rfl,rfl,by show min 0 0<=60;decide,_,rfl,?_⟩)
  rw [if_neg apQ,adZ,apP,sl,<- qt]
  dsimp only
  refine yV (fun hq=>?_) fun hq=>?_
  ·refine ai8 ?_
   show PyData.none=fwD rows wd cut us
   have:=of_decide_eq_true hq
   rw [out,if_pos (by omega)]
  ·refine vL (vf rfl (.inl ⟨_,rfl,?_⟩))
   show PyData.int _=fwD rows wd cut us
   have:=of_decide_eq_false hq
   rw [out,if_neg (by omega),apP]
def acq (t:Bool×List Gt):Ln:=(if t.1=true then "ring" else "run",t.2)
theorem aff (ts:List (Bool×List Gt)):ts.map jK=(ts.map acq).map lnD:=by rw [aqv];rfl
theorem ak0:¬ (("run":Str)="ring"):=by decide +kernel
section
variable {rows:List (List Int)} {wd:Nat} {cut:Int}
theorem chB_iff {l:List Gt}:chB rows wd cut l=true↔∀ (i:Nat) a b,l[i]?=some a->l[i+1]?=some b->zP rows wd cut a=some b:=by
 unfold chB
 rw [aqX]
 constructor
 ·intro h i a b ha hb
  have:(auL (fun a b=>decide (zP rows wd cut a=some b)) l (l.drop 1))[i]?=some (decide (zP rows wd cut a=some b)):=by
   rw [as7,ha,asP,auK 1 i,hb]
  exact of_decide_eq_true (h _ (apZ this))
 ·intro h x hx
  obtain⟨i,hi⟩:=aql hx
  rw [as7] at hi
  cases ha:l[i]? with
  | none=>rw [ha] at hi;cases hi
  | some a =>
   cases hb:(l.drop 1)[i]? with
   | none=>rw [ha,hb] at hi;cases hi
   | some b =>
    rw [ha,hb] at hi
    cases hi
    rw [asP,auK 1 i] at hb
    exact decide_eq_true (h i a b ha hb)
theorem ak1 {h:Gt} {t:List Gt}:(h :: t).getLast?=some ((h :: t).getLast (aqJ _ _)):=ati _
theorem amA {t:Bool×List Gt} (L:LineOk rows wd cut t.1 t.2) (st:ab2 rows wd cut t) (le:t.1=true->∀ h,t.2.head?=some h->∀ g∈t.2,g=h \/ gLt h g):jL rows wd cut (acq t)=true:=by
 obtain⟨q,l⟩:=t
 dsimp only at L st le
 unfold jL acq
 dsimp only
 have hc:=chB_iff.mpr L.ch
 have ho:l.all (opG rows wd cut)=true:=aqX.mpr L.op
 rw [if_neg (fun z=>z.elim L.ne fun z=>z L.nd),if_neg (fun z=>z.elim (fun z=>by rw [ho] at z;cases z) fun z=>by rw [hc] at z;cases z)]
 obtain⟨h,m,rfl⟩:=arA L.ne
 have la:=L.last _ ak1
 cases q with
 | true =>
  rw [if_pos rfl,if_pos rfl]
  rw [if_pos rfl] at la
  show (decide (zP rows wd cut ((h :: m).getLast (aqJ _ _))=some h) && (h :: m).all fun g=>decide (g=h \/ gLt h g))=true
  rw [decide_eq_true (show zP rows wd cut ((h :: m).getLast (aqJ _ _))=some h from la),aq7,aqX]
  exact fun g hg=>decide_eq_true (le rfl h rfl g hg)
 | false =>
  rw [if_neg apQ,if_neg ak0,decide_eq_true rfl,aq7]
  rw [if_neg apQ] at la
  show (decide (yF rows wd cut h=none) && decide (zP rows wd cut ((h :: m).getLast (aqJ _ _))=none))=true
  rw [decide_eq_true la,at3]
  exact decide_eq_true (st rfl h rfl)
theorem ahw:∀ (us:List Ln) (seen:List Gt) (i:Nat),(∀ t∈us,jL rows wd cut t=true)->(seen++us.flatMap (·.2)).Nodup->fw rows wd cut us seen i=none
 | [],_,_,_,_=>rfl
 | t :: us,seen,i,ok,nd=>by
  rw [ar2,<- aq1] at nd
  have nd1:=(aqY.mp nd).1
  have dj:=(aqY.mp nd1).2.2
  rw [fw,if_neg,ahw us (seen++t.2) (i+1) (fun u hu=>ok u (apW _ hu)) nd]
  rintro (z | z)
  ·rw [ok t apX] at z;cases z
  ·obtain⟨g,hg,hs⟩:=atb.mp z
   exact dj g (of_decide_eq_true hs) g hg rfl
structure Dealt (rows:List (List Int)) (wd:Nat) (cut:Int) (us:List Ln):Prop where
 ok:∀ t∈us,jL rows wd cut t=true
 nd:(us.flatMap (·.2)).Nodup
 str:∀ t∈us,aq4 t.1=true
theorem amB (t:Bool×List Gt):aq4 (acq t).1=true:=by
 obtain⟨q,l⟩:=t
 cases q
 ·show aq4 "run"=true
  decide +kernel
 ·show aq4 "ring"=true
  decide +kernel
theorem afg {ts:List (Bool×List Gt)} {us:List Ln} (T:Told rows wd cut ts) (p:us.Perm (ts.map acq)):Dealt rows wd cut us where
 ok:=fun t ht=>by
  obtain⟨u,hu,rfl⟩:=aqd.mp (p.mem_iff.mp ht)
  exact amA (T.line u hu) (T.st u hu) (T.least u hu)
 nd:=by
  have:=(p.flatMap_right (fun t:Ln=>t.2)).nodup_iff.mpr
  refine this ?_
  rw [List.flatMap_map]
  exact T.nd
 str:=fun t ht=>by
  obtain⟨u,hu,rfl⟩:=aqd.mp (p.mem_iff.mp ht)
  exact amB u
theorem ab7:∀ {vs us:List Ln},vs.Sublist us->(vs.flatMap (·.2)).Sublist (us.flatMap (·.2))
 | _,_,.slnil=>.slnil
 | _,_,.cons a s=>by rw [ar2];exact (ab7 s).trans (List.sublist_append_right _ _)
 | _,_,.cons_cons a s=>by rw [ar2,ar2];exact (ab7 s).append_left _
theorem Dealt.good {us:List Ln} (g:Good wd rows) (D:Dealt rows wd cut us):us.length<=98/\∀ t∈us,akZ t/\t.2.length<=98:=by
 have gl:=qu (cut:=cut) g
 have le:∀ l:List Gt,l.Nodup->(∀ q∈l,opG rows wd cut q=true)->l.length<=98:=fun l nd op=>aqn (nd.length_le_of_subset fun x hx=>mem_gates.mpr (op x hx)) gl
 refine⟨?_,fun t ht=>?_⟩
 ·have h1:=le _ D.nd fun q hq=>by
   obtain⟨t,ht,hq⟩:=aqA.mp hq
   exact (vE (D.ok t ht)).2.2 q hq
  have h2:∀ us:List Ln,(∀ t∈us,t.2≠[])->us.length<=(us.flatMap (·.2)).length:=fun us=>by
   induction us with
   | nil=>exact fun _=>apY 0
   | cons t us ih =>
    intro h
    have:=ih fun u hu=>h u (apW _ hu)
    have:=arM.mpr (h t apX)
    rw [ar2,aqa,ap8]
    omega
  have:=h2 us fun t ht=>(vE (D.ok t ht)).2.1
  omega
 ·obtain⟨nd,ne,op⟩:=vE (D.ok t ht)
  have:=le _ nd op
  exact⟨⟨by omega,D.str t ht,fun vs vn vs2=>by have:=le vs vn fun q hq=>op q (vs2 q hq);omega⟩,this⟩
theorem aoP (t:Ln) (h:aq4 t.1=true):(lnD t).canLay0=true/\(lnD t).depth<=3:=by
 obtain⟨wo,l⟩:=t
 have hg:∀ l:List Gt,aqr (l.map gD3)=true:=fun l=>by
  induction l with
  | nil=>rfl
  | cons g l ih=>exact ih
 refine⟨?_,?_⟩
 ·show ((PyData.str wo).canLay0 && (aqr (l.map gD3) && true))=true
  rw [hg l,show (PyData.str wo).canLay0=true from h]
  rfl
 ·show max 0 (max (ap6 (l.map gD3)+1) 0)+1<=3
  have:=aaT l
  omega
theorem ad8:∀ (us:List Ln),(∀ t∈us,aq4 t.1=true)->aqr (us.map lnD)=true/\ap6 (us.map lnD)<=3
 | [],_=>⟨rfl,aqu _⟩
 | t :: us,h=>by
  obtain⟨a,b⟩:=ad8 us fun u hu=>h u (apW _ hu)
  obtain⟨c,d⟩:=aoP t (h t apX)
  exact⟨by show ((lnD t).canLay0 && aqr (us.map lnD))=true;rw [a,c];rfl,Nat.max_le.mpr ⟨d,b⟩⟩
theorem amC {us:List Ln} (D:Dealt rows wd cut us) (h:(us.flatMap (·.2)).length=(ya rows wd cut).length):fwD rows wd cut us=.none:=by
 unfold fwD
 rw [ahw us [] 0 D.ok (by rw [List.nil_append];exact D.nd)]
 exact if_pos h
end
abbrev ahx (K:apT):Sp:=spN K 2 (fun (c:List PyData) xs=>xs=[.feed,.dat (.list c)]/\c.length<=900/\aqr c=true) fun c es=>es.Perm c
theorem afh {α:Type}:∀ (l:List α) (n:Nat) (h:n<l.length),(l[n] :: l.eraseIdx n).Perm l
 | a :: l,0,_=>.refl _
 | a :: l,n+1,h=>by
  have hn:n<l.length:=arT h
  have:=afh l n hn
  show (l[n] :: a :: l.eraseIdx n).Perm (a :: l)
  exact (List.Perm.swap a l[n] _).trans (this.cons a)
theorem ac4:∀ (l:List PyData) (k:Nat),aqr l=true->aqr (l.eraseIdx k)=true
 | [],_,_=>rfl
 | d :: l,0,h=>by
  have h:(d.canLay0 && aqr l)=true:=h
  rw [ap3] at h
  exact h.2
 | d :: l,k+1,h=>by
  have h:(d.canLay0 && aqr l)=true:=h
  rw [ap3] at h
  show (d.canLay0 && aqr (l.eraseIdx k))=true
  rw [h.1,ac4 l k h.2]
  rfl
def tabOf (wd h:Nat) (f:Nat->Nat->Int):List (List Int):=(aqb h).map fun y=>(aqb wd).map fun x=>f x y
theorem ab8 {wd h:Nat} {f:Nat->Nat->Int} {x y:Nat} (hx:x<wd) (hy:y<h):zL (tabOf wd h f) x y=f x y:=by
 unfold zL tabOf
 rw [aqs,aqs,apR,apR,apU,aqx hy]
 show ((aqb wd).map fun x=>f x y)[x]?.getD 0=_
 rw [apU,aqx hx]
 rfl
theorem vF (wd h:Nat) (f:Nat->Nat->Int):(tabOf wd h f).length=h:=by unfold tabOf;rw [apP,aqg]
theorem ab9 {wd h:Nat} {f:Nat->Nat->Int} (h1:2<=h) (h2:h<=7) (w1:2<=wd) (w2:wd<=7) (b:∀ x y,x<wd->y<h->-1000000000<=f x y/\f x y<=1000000000):Good wd (tabOf wd h f) where
 h1:=by rw [vF];exact h1
 h2:=by rw [vF];exact h2
 w1:=w1
 w2:=w2
 row:=fun r hr=>by
  obtain⟨y,_,rfl⟩:=aqd.mp hr
  rw [apP,aqg]
 hgt:=fun r hr n hn=>by
  obtain⟨y,hy,rfl⟩:=aqd.mp hr
  obtain⟨x,hx,rfl⟩:=aqd.mp hn
  exact b x y (aqk.mp hx) (aqk.mp hy)
theorem afi {wd h:Nat} {f g:Nat->Nat->Int} (e:∀ x y,x<wd->y<h->f x y=g x y):tabOf wd h f=tabOf wd h g:=by
 unfold tabOf
 refine aqR fun y hy=>aqR fun x hx=>e x y (aqk.mp hx) (aqk.mp hy)
theorem amD {wd:Nat} {rows:List (List Int)} (g:Good wd rows):rows=tabOf wd rows.length fun x y=>zL rows x y:=by
 unfold tabOf
 refine aq0 fun y=>?_
 rw [apU]
 by_cases hy:y<rows.length
 ·rw [aqx hy,apO hy]
  show some rows[y]=some _
  congr 1
  have hr:=g.row _ (aqo hy)
  refine aq0 fun x=>?_
  rw [apU]
  by_cases hx:x<wd
  ·rw [aqx hx,apO (by omega)]
   show some rows[y][x]=some (zL rows x y)
   unfold zL
   rw [aqs,aqs,apR,apR,apO hy,arH,apO (by omega)]
   rfl
  ·rw [aqc (by omega),aqc (by rw [aqg];omega)]
   rfl
 ·rw [aqc (by omega),aqc (by rw [aqg];omega)]
  rfl
theorem ak2 {wd:Nat} {rows:List (List Int)} (g:Good wd rows) {x y:Nat} (hx:x<wd) (hy:y<rows.length):∃ r∈rows,zL rows x y∈r:=by
 have hr:=g.row _ (aqo hy)
 refine⟨rows[y],aqo hy,?_⟩
 unfold zL
 rw [aqs,aqs,apR,apR,apO hy,arH,apO (show x<rows[y].length by omega),arH]
 exact aqo _
theorem afj {wd:Nat} {rows:List (List Int)} (g:Good wd rows) {r:List Int} (hr:r∈rows) {n:Int} (hn:n∈r):∃ x y:Nat,x<wd/\y<rows.length/\zL rows x y=n:=by
 obtain⟨y,hy,rfl⟩:=aq8 hr
 obtain⟨x,hx,rfl⟩:=aq8 hn
 have:=g.row _ (aqo hy)
 refine⟨x,y,by omega,hy,?_⟩
 unfold zL
 rw [aqs,aqs,apR,apR,apO hy,arH,apO hx,arH]
theorem aag {wd:Nat} {rows:List (List Int)} {x y:Nat} (hx:x<wd) (hy:y<rows.length):z5 rows wd x y=true:=by
 unfold z5
 rw [decide_eq_true (by omega),decide_eq_true (by omega)]
 rfl
section
variable {rows:List (List Int)} {wd:Nat} {c:Int}
theorem apL {x y:Int} (h1:z5 rows wd x y=true) (h2:z5 rows wd (x+1) y=true):opG rows wd c (x,y,0)=(hiB rows c x y != hiB rows c (x+1) y):=by
 unfold opG yC qj
 show (decide ((0:Int)=0 \/ (0:Int)=1) && (z5 rows wd x y && z5 rows wd (x+1) y) && _)=_
 rw [h1,h2]
 rfl
theorem apM {x y:Int} (h1:z5 rows wd x y=true) (h2:z5 rows wd x (y+1)=true):opG rows wd c (x,y,1)=(hiB rows c x y != hiB rows c x (y+1)):=by
 unfold opG yC qj
 show (decide ((1:Int)=0 \/ (1:Int)=1) && (z5 rows wd x y && z5 rows wd x (y+1)) && _)=_
 rw [h1,h2]
 rfl
def aca (x:Nat):List Gt:=(aqb x).map fun (k:Nat)=>((k:Int),(0:Int),(0:Int))
def acr (x y:Nat):List Gt:=(aqb y).map fun (k:Nat)=>((x:Int),(k:Int),(1:Int))
def aaY (l:List Gt) (x y:Nat):Nat:=((aca x++acr x y).filter fun g=>decide (g∈l)).length
def ulB (rows:List (List Int)) (c:Int) (x y:Nat):Int:=if hiB rows c 0 0=hiB rows c x y then 0 else 1
theorem am9 {n:Nat} {a b d:Bool} (h:n % 2=if a=b then 0 else 1):(n+if (b != d)=true then 1 else 0) % 2=if a=d then 0 else 1:=by
 cases a <;> cases b <;> cases d <;> simp at h ⊢ <;> omega
theorem ana {l:List Gt} (mem:∀ g,g∈l↔opG rows wd c g=true) (hh:0<rows.length):∀ x,x<wd->((aca x).filter fun g=>decide (g∈l)).length % 2=if hiB rows c 0 0=hiB rows c x 0 then 0 else 1
 | 0,_=>by
  show 0 % 2=if hiB rows c 0 0=hiB rows c 0 0 then 0 else 1
  rw [if_pos rfl]
 | x+1,hx=>by
  have ih:=ana mem hh x (by omega)
  have e:aca (x+1)=aca x++[((x:Int),0,0)]:=by unfold aca;rw [ar1,aqm];rfl
  have i1:z5 rows wd (x:Int) 0=true:=aag (y:=0) (by omega) hh
  have i2:z5 rows wd ((x:Int)+1) 0=true:=aag (x:=x+1) (y:=0) hx hh
  have o:=apL (c:=c) i1 i2
  have q:=am9 (d:=hiB rows c ((x:Int)+1) 0) ih
  rw [e,aq2,aqa]
  have e2:([((x:Int),(0:Int),(0:Int))].filter fun g=>decide (g∈l)).length=if (hiB rows c x 0 != hiB rows c ((x:Int)+1) 0)=true then 1 else 0:=by
   rw [<-o]
   by_cases h:opG rows wd c ((x:Int),0,0)=true
   ·rw [aqI,if_pos (decide_eq_true ((mem _).mpr h)),if_pos h];rfl
   ·rw [aqI,if_neg (by rw [decide_eq_false (fun z=>h ((mem _).mp z))];exact apQ),if_neg h];rfl
  rw [e2]
  exact q
theorem ad9 {l:List Gt} (mem:∀ g,g∈l↔opG rows wd c g=true) {x:Nat} (hx:x<wd):∀ y,y<rows.length->((aaY l x y % 2:Nat):Int)=ulB rows c x y:=by
 have key:∀ y,y<rows.length->aaY l x y % 2=if hiB rows c 0 0=hiB rows c x y then 0 else 1:=fun y=>by
  induction y with
  | zero =>
   intro hy
   have:aaY l x 0=((aca x).filter fun g=>decide (g∈l)).length:=by unfold aaY acr;simp
   rw [this]
   exact ana mem hy x hx
  | succ y ih =>
   intro hy
   have ih:=ih (by omega)
   have e:acr x (y+1)=acr x y++[((x:Int),(y:Int),1)]:=by unfold acr;rw [ar1,aqm];rfl
   have i1:z5 rows wd (x:Int) (y:Int)=true:=aag hx (by omega)
   have i2:z5 rows wd (x:Int) ((y:Int)+1)=true:=aag (y:=y+1) hx hy
   have o:=apM (c:=c) i1 i2
   have q:=am9 (d:=hiB rows c x ((y:Int)+1)) ih
   have e2:([((x:Int),(y:Int),(1:Int))].filter fun g=>decide (g∈l)).length=if (hiB rows c x y != hiB rows c x ((y:Int)+1))=true then 1 else 0:=by
    rw [<-o]
    by_cases h:opG rows wd c ((x:Int),(y:Int),1)=true
    ·rw [aqI,if_pos (decide_eq_true ((mem _).mpr h)),if_pos h];rfl
    ·rw [aqI,if_neg (by rw [decide_eq_false (fun z=>h ((mem _).mp z))];exact apQ),if_neg h];rfl
   have e3:aaY l x (y+1)=aaY l x y+if (hiB rows c x y != hiB rows c x ((y:Int)+1))=true then 1 else 0:=by
    unfold aaY
    rw [e,<- aq1,aq2,aqa,e2]
   rw [e3]
   exact q
 intro y hy
 unfold ulB
 rw [key y hy]
 split <;> rfl
def ulT (rows:List (List Int)) (wd:Nat) (c:Int):List (List Int):=tabOf wd rows.length (ulB rows c)
theorem amE (g:Good wd rows):Good wd (ulT rows wd c):=ab9 g.h1 g.h2 g.w1 g.w2 fun x y _ _=>by unfold ulB;split <;> decide
theorem ak3 {x y:Int}:z5 (ulT rows wd c) wd x y=z5 rows wd x y:=by unfold z5 ulT;rw [vF]
theorem ak4 {x y:Int} (h:z5 rows wd x y=true):hiB (ulT rows wd c) 0 x y=(hiB rows c 0 0 != hiB rows c x y):=by
 obtain⟨a,b,d,e⟩:=qN h
 obtain⟨x,rfl⟩:=arL a
 obtain⟨y,rfl⟩:=arL d
 have:=ab8 (wd:=wd) (h:=rows.length) (f:=ulB rows c) (x:=x) (y:=y) (by omega) (by omega)
 unfold hiB ulT
 rw [this]
 unfold ulB hiB
 show decide ((0:Int)<if decide (c<zL rows 0 0)=decide (c<zL rows x y) then 0 else 1)=(decide (c<zL rows 0 0) != decide (c<zL rows x y))
 cases decide (c<zL rows 0 0) <;> cases decide (c<zL rows x y) <;> rfl
theorem apv (g:Gt):opG (ulT rows wd c) wd 0 g=opG rows wd c g:=by
 obtain⟨x,y,w⟩:=g
 unfold opG yC
 have hh:qj (ulT rows wd c) wd x y w=qj rows wd x y w:=by unfold qj;rw [ak3,ak3]
 rw [hh]
 cases h:qj rows wd x y w with
 | false=>rfl
 | true =>
  obtain⟨i1,i2⟩:=abT h
  rw [aq7,aq7]
  have e1:=ak4 (c:=c) i1
  have e2:=ak4 (c:=c) i2
  unfold hiB at e1 e2
  rw [e1,e2]
  cases decide (c<zL rows 0 0) <;> cases decide (c<zL rows x y) <;> cases decide (c<zL rows (px x w) (py y w)) <;> rfl
theorem apw {g:Gt} (o:opG rows wd c g=true):ahC (ulT rows wd c) 0 g=if hiB rows c 0 0=true then bhC rows c g else ahC rows c g:=by
 have e:=ak4 (c:=c) (agj o)
 unfold ahC bhC
 rw [e]
 cases hiB rows c 0 0 <;> cases hiB rows c g.1 g.2.1 <;> simp [jt,ju] <;> split <;> rfl
theorem apx (x y:Int):cg x y=[gt x y 0,gt x y 1,gt x y 2,gt x y 3]:=rfl
theorem amF {g n:Gt} (o:opG rows wd c g=true) (h:zP rows wd c g=some n):n∈cg (ahC rows c g).1 (ahC rows c g).2/\n∉cg (bhC rows c g).1 (bhC rows c g).2:=by
 have hc:zS rows wd (ahC rows c g).1 (ahC rows c g).2=true:=by
  unfold zP at h
  split at h
  ·assumption
  ·cases h
 obtain⟨n',h1,ne,on,hb,_⟩:=qe o hc
 rw [h] at h1
 cases h1
 have ina:n∈cg (ahC rows c g).1 (ahC rows c g).2:=by
  obtain⟨i,ei⟩:=acY (rows:=rows) (cut:=c) n (qO on)
  rw [hb] at ei
  rw [apx,ei]
  match i with
  | 0 | 1 | 2 | 3=>simp
 refine⟨ina,fun inb=>ne ?_⟩
 have hw:=qO o
 obtain⟨x,y,w⟩:=g
 obtain⟨p,q,r⟩:=n
 unfold ahC at ina
 unfold bhC at inb
 dsimp only at ina inb hw
 generalize hiB rows c x y=b at ina inb
 rcases hw with rfl | rfl <;> cases b <;> simp [jt,ju,cg] at ina inb ⊢ <;> omega
theorem aiK (g:Good wd rows) {t:Ln} (k:jL rows wd c t=true):∃ a b r,t.2=a :: b :: r/\opG rows wd c a=true/\zP rows wd c a=some b:=by
 obtain⟨nd,ne,op⟩:=vE k
 obtain⟨wo,l⟩:=t
 dsimp only at nd ne op
 unfold jL at k
 dsimp only at k
 rw [if_neg (fun z=>z.elim ne fun z=>z nd)] at k
 by_cases h2:l.all (opG rows wd c)=false \/ chB rows wd c l=false
 ·rw [if_pos h2] at k;cases k
 rw [if_neg h2] at k
 obtain⟨a,m,rfl⟩:=arA ne
 have oa:=op a apX
 cases m with
 | cons b r =>
  refine⟨a,b,r,rfl,oa,chB_iff.mp (by cases h:chB rows wd c (a :: b :: r) with | true=>rfl | false=>exact absurd (.inr h) h2) 0 a b rfl rfl⟩
 | nil =>
  exfalso
  by_cases hr:wo="ring"
  ·rw [if_pos hr] at k
   have k:(decide (zP rows wd c a=some a) && _)=true:=k
   rw [ap3] at k
   exact (vC oa (of_decide_eq_true k.1)).2 rfl
  ·rw [if_neg hr,ap3] at k
   have k2:(decide (yF rows wd c a=none) && decide (zP rows wd c a=none))=true:=k.2
   rw [ap3] at k2
   have n1:=of_decide_eq_true k2.1
   have n2:=of_decide_eq_true k2.2
   have ha:zS rows wd (ahC rows c a).1 (ahC rows c a).2=false:=by
    cases h:zS rows wd (ahC rows c a).1 (ahC rows c a).2 with
    | false=>rfl
    | true=>obtain⟨n,e,_⟩:=qe oa h;rw [n2] at e;cases e
   have hb:zS rows wd (bhC rows c a).1 (bhC rows c a).2=false:=by
    cases h:zS rows wd (bhC rows c a).1 (bhC rows c a).2 with
    | false=>rfl
    | true=>obtain⟨n,e,_⟩:=abb oa h;rw [n1] at e;cases e
   have hw:=qO oa
   have hin:z5 rows wd a.1 a.2.1=true/\z5 rows wd (px a.1 a.2.2) (py a.2.1 a.2.2)=true:=abT (by unfold opG yC at oa;rw [ap3] at oa;exact oa.1)
   obtain⟨x,y,w⟩:=a
   dsimp only at hw hin
   obtain⟨a1,a2,a3,a4⟩:=qN hin.1
   obtain⟨b1,b2,b3,b4⟩:=qN hin.2
   have g1:=g.h1
   have w1:=g.w1
   have cb:∀ p q:Int,zS rows wd p q=decide ((0<=p/\p<wd/\0<=q/\q<rows.length)/\p+1<wd/\q+1<rows.length):=fun p q=>by
    unfold zS z5
    rw [arB]
    simp only [ap3,decide_eq_true_eq]
    omega
   unfold ahC at ha
   unfold bhC at hb
   rw [cb] at ha hb
   have ha:=of_decide_eq_false ha
   have hb:=of_decide_eq_false hb
   dsimp only at ha hb
   generalize hiB rows c x y=b at ha hb
   rcases hw with rfl | rfl <;> simp [px,py] at b1 b2 b3 b4 <;> cases b <;> simp [jt,ju] at ha hb <;> omega
structure Full (rows:List (List Int)) (wd:Nat) (c:Int) (us:List Ln):Prop where
 dealt:Dealt rows wd c us
 all:∀ g,opG rows wd c g=true->g∈us.flatMap (·.2)
 ne:us≠[]
theorem Full.mem {us:List Ln} (F:Full rows wd c us) (g:Gt):g∈us.flatMap (·.2)↔opG rows wd c g=true:=⟨fun h=>by
 obtain⟨t,ht,hg⟩:=aqA.mp h
 exact (vE (F.dealt.ok t ht)).2.2 g hg,F.all g⟩
theorem Full.len {us:List Ln} (F:Full rows wd c us):(us.flatMap (·.2)).length=(ya rows wd c).length:=by
 have h1:=F.dealt.nd.length_le_of_subset (l₂:=ya rows wd c) fun x hx=>mem_gates.mpr ((F.mem x).mp hx)
 have h2:=(gates_nd (rows:=rows) (wd:=wd) (cut:=c)).length_le_of_subset (l₂:=us.flatMap (·.2)) fun x hx=>F.all x (mem_gates.mp hx)
 omega
theorem Full.few {us:List Ln} (g:Good wd rows) (F:Full rows wd c us):(us.flatMap (·.2)).length<=98:=by rw [F.len];exact qu g
def hiN (rows:List (List Int)) (c:Int) (x y:Nat):Int:=if c<zL rows x y then 1 else 0
def hiT (rows:List (List Int)) (wd:Nat) (c:Int):List (List Int):=tabOf wd rows.length (hiN rows c)
theorem amG (h:hiB rows c 0 0=false):ulT rows wd c=hiT rows wd c:=afi fun x y _ _=>by
 unfold ulB hiN
 rw [h]
 unfold hiB
 by_cases q:c<zL rows x y <;> simp [q]
theorem amH (h:hiB rows c 0 0=true):(ulT rows wd c).map (fun r=>r.map fun s=>1 - s)=hiT rows wd c:=by
 unfold ulT hiT tabOf
 rw [aqv]
 refine aqR fun y _=>?_
 show asr _ (asr _ _)=_
 rw [aqv]
 refine aqR fun x _=>?_
 show 1 - ulB rows c x y=hiN rows c x y
 unfold ulB hiN
 rw [h]
 unfold hiB
 by_cases q:c<zL rows x y <;> simp [q]
theorem aiL (g:Good wd rows) {r:List Int} (hr:r∈rows) {n:Int} (hn:n∈r) (h1:c<n) {r':List Int} (hr':r'∈rows) {n':Int} (hn':n'∈r') (h2:n'<=c):∃ q,opG rows wd c q=true:=by
 refine aqS fun no=>?_
 have mem:∀ q,q∈([]:List Gt)↔opG rows wd c q=true:=fun q=>⟨fun z=>(nomatch z),fun z=>absurd ⟨q,z⟩ no⟩
 obtain⟨x,y,hx,hy,e⟩:=afj g hr hn
 obtain⟨x',y',hx',hy',e'⟩:=afj g hr' hn'
 have p1:=ad9 mem hx y hy
 have p2:=ad9 mem hx' y' hy'
 have z:∀ x y,aaY [] x y=0:=fun x y=>by unfold aaY;simp
 rw [z] at p1 p2
 unfold ulB hiB at p1 p2
 rw [e,decide_eq_true h1] at p1
 rw [e',decide_eq_false (show ¬ c<n' by omega)] at p2
 generalize decide (c<zL rows 0 0)=b at p1 p2
 cases b <;> simp at p1 p2
theorem aoQ {bs:Int} (x y:Nat) (n:Nat) (h1:bs<=zL rows x y) (h2:zL rows x y<=bs+n):((aqb n).map fun (k:Nat)=>hiN rows (bs+k) x y).sum=zL rows x y - bs:=by
 have key:∀ n:Nat,((aqb n).map fun (k:Nat)=>hiN rows (bs+k) x y).sum=min (zL rows x y - bs) n:=fun n=>by
  induction n with
  | zero=>show (0:Int)=min _ _;omega
  | succ n ih =>
   rw [ar1,aqm,List.sum_append,ih]
   show min (zL rows x y - bs) n+(hiN rows (bs+n) x y+0)=_
   unfold hiN
   split <;> omega
 rw [key n]
 omega
end
theorem ak5 (F:Def K mg "_law_order" j8 pU) (uaa:mg "len"=none) (uan:mg "list"=none) (uao:FnIn P w K mg base k "_law_draw" pL (akx K)):FnIn P w K mg base (k+1) "_law_order" pU (ahx K):=by
 refine F.okN sc_law_order rfl fun fa cdv A outer s H E hr=>⟨_,(zi (zY (i:=2) sc_law_order.nd rfl (Or.inl rfl) (ql (abp (K:=K) rfl) rfl uan asq (zc (pv 1) zh))) (zi (zY (i:=3) sc_law_order.nd rfl (Or.inl rfl) (yR zh)) (zi (aee aqV (zZ (qZ (K:=K) rfl hr.units) (pv 2) (yR zh) (z3 _)) (zt (jy (acA ard ar7 ar8 vm (pv 3) (zc (acA ard auq aur ai3 (pv 2) (zc (zp uao hr rfl (zc (pv 0) (zc (zy (zT (K:=K) rfl) rfl uaa aqz (zc (pv 2) zh)) zh))) zh)) zh))))) (zt (zE (pv 3)))))),?_⟩
 rintro f xs c hl ⟨rfl,few,lay⟩
 try dsimp only [yj,zm]
 refine alW (w:=w) (aou (aa4 (akj (zv rfl ⟨c,.inl rfl,show 2<4 by decide,fun D=>?_⟩))))
 refine alX (aa4 (amV ⟨show 3<4 by decide,fun D2=>?_⟩))
 refine aos (ag1 (fun ρ cs=>∃ l m,ρ=[some .feed,some (.dat (.list c)),some (.own (f.M.length+0)),some (.own (f.M.length+1))]/\cs=[.lst l,.lst m]/\(m++l).Perm c/\aqr l=true) (fun _ cs=>match cs with | [.lst l,_]=>l.length | _=>0) ⟨c,[],rfl,rfl,.refl _,lay⟩ ?_)
 rintro _ _ ⟨l,m,rfl,rfl,pm,ll⟩
 have lp:=pm.length_eq
 rw [aqa] at lp
 have fr:asr (freed f.M.length [OC.lst l,OC.lst m]) [some DV.feed,some (.dat (.list c)),some (.own (f.M.length+0)),some (.own (f.M.length+1))]=[some .feed,some (.dat (.list c)),some (.dat (.list l)),some (.dat (.list m))]:=by simp [freed]
 refine alM ?_
 rw [fr]
 refine yw (jw (zv rfl (agB (yI ⟨_,rfl,aqu _,ll,rfl,aqn (at4 _ _) (by show 1<=60;decide),_,rfl,?_⟩))))
 rw [if_pos rfl]
 cases l with
 | nil =>
  rw [show aqi (.list []) (.list [])=true from rfl,aqt,if_neg apQ]
  rw [aqG] at pm
  exact aot (i:=3) (j:=1) rfl rfl pm
 | cons d l =>
  rw [show aqi (.list (d :: l)) (.list [])=false from rfl,arW,if_pos rfl]
  rw [ap8] at lp
  refine akg (i:=3) (n:=2) (a:=1) (b:=0) rfl rfl rfl rfl (by decide) (by omega) (by rw [ap8];omega) ?_
  refine aj4 ?_
  rw [fr]
  refine zC ((d :: l).length:Nat) (adp rfl (zJ (vL (vf rfl (.inl ⟨_,rfl,yI ⟨rfl,⟨rfl,?_,?_⟩,?_⟩⟩)))))
  ·rw [ap8];omega
  ·rw [ap8];omega
  rintro _ ⟨i,rfl,i0,i1⟩
  obtain⟨n,rfl⟩:=arL i0
  have hn:n<(d :: l).length:=by omega
  refine⟨_,rfl,n,rfl,(d :: l)[n],apO hn,⟨(d :: l).eraseIdx n,m++[(d :: l)[n]],rfl,rfl,?_,ac4 _ _ ll⟩,?_⟩
  ·refine List.Perm.trans ?_ pm
   rw [aq1]
   refine auk m ?_
   rw [aul]
   exact afh _ _ hn
  ·show ((d :: l).eraseIdx n).length<(d :: l).length
   rw [atF hn,ap8]
   omega
abbrev ahy (K:apT):Sp:=spD K 2 (fun (c:Nat×Nat) xs=>xs=[.dat (.int c.1),.dat (.int c.2)]/\2<=c.1/\c.1<=7/\2<=c.2/\c.2<=7) fun c r=>r=.bool true
theorem aiM (F:Def K mg "is_size" vB pK) (uac:∃ t,mg "FEWEST"=some (.int 2 t)) (uad:∃ t,mg "MOST"=some (.int 7 t)):FnIn P w K mg base (k+1) "is_size" pK (ahy K):=by
 obtain⟨_,uac⟩:=uac
 obtain⟨_,uad⟩:=uad
 refine F.ok agc rfl fun fa cdv A outer s H E hr=>⟨_,(zt (zE (qV (qY vI vI (yU rfl uac) (pv 0) (yU rfl uad)) (vN (qY vI vI (yU rfl uac) (pv 1) (yU rfl uad)))))),?_⟩
 rintro f xs ⟨a,b⟩ hl ⟨rfl,h1,h2,h3,h4⟩
 try dsimp only [yj,zm]
 dsimp only at *
 walk_at "w"
 rw [if_pos (by simp;omega)]
 walk_at "w"
 rw [if_pos (by simp;omega)]
 walk_at "w"
 rw [if_pos (by simp;omega)]
 walk_at "w"
 show PyData.bool (decide ((b:Int)<=7))=PyData.bool true
 rw [decide_eq_true (by omega)]
abbrev anb (w:World) (K:apT):Sp:=spD K 3 (fun (c:List Gt×Nat×Nat) xs=>xs=[.dat (.int c.2.1),.dat (.int c.2.2),.mon (aaV w K (yq c.1))]/\c.2.1<=7/\c.2.2<=7) fun c r=>r=.int (aaY c.1 c.2.1 c.2.2)
theorem aoR (F:Def K mg "gates_on_the_way" yH pG) (uaa:mg "len"=none) (uab:mg "range"=none):FnIn P w K mg base (k+1) "gates_on_the_way" pG (anb w K):=by
 refine F.ok sc_gates_on_the_way rfl fun fa cdv A outer s H E hr=>⟨_,(zi (zY (i:=3) sc_gates_on_the_way.nd rfl (Or.inl rfl) (zM (abw (K:=K) rfl) (zQ (N:=["k"]) (own:=1) (fr:=[]) ⟨rfl,by decide +kernel,of_decide_eq_true (by kernel_rfl),of_decide_eq_true (by kernel_rfl),of_decide_eq_true (by kernel_rfl),rfl⟩ rfl (yA rfl uab (zc (pv 0) zh)) (fun _ _ _ _=>(zq (i:=0) (show (["k"]:List Str).Nodup by decide +kernel) rfl (Or.inl rfl) (Or.inr rfl))) (fun _ _ _ _=>zN) (fun _ _ _ _=>(z9 (zc (pv 0) (zc zo (zc zo zh))))) rfl rfl (fun _=>rfl)) (zQ (N:=["k","x"]) (own:=1) (fr:=[0]) ⟨rfl,by decide +kernel,of_decide_eq_true (by kernel_rfl),of_decide_eq_true (by kernel_rfl),of_decide_eq_true (by kernel_rfl),rfl⟩ rfl (yA rfl uab (zc (pv 1) zh)) (fun _ _ _ _=>(zq (i:=0) (show (["k","x"]:List Str).Nodup by decide +kernel) rfl (Or.inl rfl) (Or.inr rfl))) (fun _ _ _ _=>zN) (fun _ _ _ _=>(z9 (zc (pv 1) (zc (pv 0) (zc zo zh))))) rfl rfl (fun _=>rfl)))) (zt (zE (zy (zT (K:=K) rfl) rfl uaa aqz (zc (zQ (N:=["gate","passed"]) (own:=1) (fr:=[2]) ⟨rfl,by decide +kernel,of_decide_eq_true (by kernel_rfl),of_decide_eq_true (by kernel_rfl),of_decide_eq_true (by kernel_rfl),rfl⟩ rfl (zR (K:=K) rfl (pv 3)) (fun _ _ _ _=>(zq (i:=0) (show (["gate","passed"]:List Str).Nodup by decide +kernel) rfl (Or.inl rfl) (Or.inr rfl))) (fun _ _ _ _=>(aa0 (zZ (acP (w:=w) (K:=K) rfl rfl hr.units) (pv 0) (pv 1) rfl))) (fun _ _ _ _=>(pv 0)) rfl rfl (fun _=>rfl)) zh))))),?_⟩
 rintro f xs ⟨l,x,y⟩ hl ⟨rfl,hx,hy⟩
 try dsimp only [yj,zm]
 dsimp only at *
 have lx:(aca x).length=x:=by unfold aca;rw [apP,aqg]
 have ly:(acr x y).length=y:=by unfold acr;rw [apP,aqg]
 refine aeH (fun ρ=>ρ=[some (.dat (.int x)),some (.dat (.int y)),some (.mon (aaV w K (yq l))),some (.dat (.list ((aca x++acr x y).map gD3)))]) (yo (afE (PEdO.ped (jm (A:=fun (k:Nat)=>PyData.int k) (B:=fun (k:Nat)=>gD3 ((k:Int),0,0)) (aqb x) (qC (vf rfl ⟨_,rfl,by omega,by omega,?_,?_,?_,?_⟩)))))) ?_
 ·rw [aqs];rfl
 ·rw [aqg];omega
 ·rintro D n ρ' es hn ho hes
  obtain⟨u,rfl⟩:=ho.one
  refine zu (yE ?_)
  rw [if_pos rfl]
  refine yi hes ?_
  walk_at "w"
  exact⟨⟨[_],rfl,rfl⟩,rfl⟩
 ·refine⟨_,rfl,PEdO.ped (jm (A:=fun (k:Nat)=>PyData.int k) (B:=fun (k:Nat)=>gD3 ((x:Int),(k:Int),1)) (aqb y) (qC (vf rfl ⟨_,rfl,by omega,by omega,?_,?_,?_,?_⟩)))⟩
  ·rw [aqs];rfl
  ·rw [aqg];omega
  ·rintro D n ρ' es hn ho hes
   obtain⟨u,rfl⟩:=ho.one
   refine zu (yE ?_)
   rw [if_pos rfl]
   refine yi hes ?_
   walk_at "w"
   exact⟨⟨[_],rfl,rfl⟩,rfl⟩
  ·refine⟨_,rfl,?_,zu ?_⟩
   ·rw [apP,apP,aqg,aqg];omega
   ·unfold aca acr
    rw [aqm,aqv,aqv]
    rfl
 rintro _ rfl
 refine yu (vL (zJ (PEdO.ped (aoj (A:=gD3) (B:=gD3) (fun g=>decide (g∈l)) (aca x++acr x y) (yB (zv rfl ⟨_,rfl,rfl,?_,?_,?_⟩))))))
 ·rw [aqa];omega
 ·rintro D q ρ' es hq ho hes
  obtain⟨u,rfl⟩:=ho.one
  refine zu (yw (am6 (zv rfl ⟨ab6 q,yq l,rfl,_,rfl,?_⟩)))
  have e:decide (gD3 q∈(yq l).map (·.1))=decide (q∈l):=decide_eq_decide.mpr seen_mem
  rw [e]
  refine⟨rfl,?_⟩
  by_cases h:q∈l
  ·rw [if_pos (decide_eq_true h)]
   refine yi hes (zv rfl ⟨⟨[_],rfl,rfl⟩,rfl⟩)
  ·rw [if_neg (by rw [decide_eq_false h];exact apQ)]
   exact⟨[_],rfl,rfl⟩
 ·refine yI (.inl ⟨_,rfl,?_⟩)
  rw [apP]
  rfl
abbrev TU:=List (List Int)×Nat×Int×List Ln
abbrev apy (c:TU) (xs:List DV):Prop:=xs=[.dat (.int c.2.1),.dat (.int c.1.length),.dat (.list (c.2.2.2.map lnD))]/\Good c.2.1 c.1/\Full c.1 c.2.1 c.2.2.1 c.2.2.2
abbrev apz (K:apT):Sp:=spD K 3 apy fun c r=>r=tab (ulT c.1 c.2.1 c.2.2.1)
theorem apA (F:Def K mg "unlike_points" yW pB) (uab:mg "range"=none) (ubr:FnIn P w K mg base k "gates_on_the_way" pG (anb w K)):FnIn P w K mg base (k+1) "unlike_points" pB (apz K):=by
 refine F.ok sc_unlike_points rfl fun fa cdv A outer s H E hr=>⟨_,(zi (zY (i:=3) sc_unlike_points.nd rfl (Or.inr rfl) (aii (w:=w) (K:=K) (N:=pX) (own:=3) (fr:=[])  rfl rfl hr.units ⟨rfl,by decide +kernel,of_decide_eq_true (by kernel_rfl),of_decide_eq_true (by kernel_rfl),of_decide_eq_true (by kernel_rfl),rfl⟩ rfl (zR (K:=K) rfl (pv 2)) (fun _ _ _ _=>(ye (K:=K) (n:=2) rfl rfl (zx (zq (i:=0) (show (pX:List Str).Nodup by decide +kernel) rfl (Or.inl rfl) (Or.inr rfl)) (zx (zq (i:=1) (show (pX:List Str).Nodup by decide +kernel) rfl (Or.inl rfl) (Or.inr rfl)) z7)))) (fun _ _ _ _=>zN) (fun _ _ _ _=>(vp (K:=K) rfl (pv 1))) (fun _ _ _ _=>(zq (i:=2) (show (pX:List Str).Nodup by decide +kernel) rfl (Or.inl rfl) (Or.inr rfl))) (fun _ _ _ _=>zN) (fun _ _ _ _=>(pv 2)) (fun _ _ _ _=>jN) rfl rfl (fun _=>rfl) (fun _ _ _ _ _=>rfl))) (zt (zE (zQ (N:=["y","w","passed"]) (own:=1) (fr:=[0,3]) ⟨rfl,by decide +kernel,of_decide_eq_true (by kernel_rfl),of_decide_eq_true (by kernel_rfl),of_decide_eq_true (by kernel_rfl),rfl⟩ rfl (yA rfl uab (zc (pv 1) zh)) (fun _ _ _ _=>(zq (i:=0) (show (["y","w","passed"]:List Str).Nodup by decide +kernel) rfl (Or.inr rfl) (Or.inl rfl))) (fun _ _ _ _=>zN) (fun _ _ _ _=>(zQ (N:=pG) (own:=1) (fr:=[0,2]) ⟨rfl,by decide +kernel,of_decide_eq_true (by kernel_rfl),of_decide_eq_true (by kernel_rfl),of_decide_eq_true (by kernel_rfl),rfl⟩ rfl (yA rfl uab (zc (pv 1) zh)) (fun _ _ _ _=>(zq (i:=0) (show (pG:List Str).Nodup by decide +kernel) rfl (Or.inl rfl) (Or.inr rfl))) (fun _ _ _ _=>zN) (fun _ _ _ _=>(zM qX (zp ubr hr rfl (zc (pv 0) (zc (pv 1) (zc (pv 2) zh)))) zo)) rfl rfl (fun _=>rfl))) rfl rfl (fun _=>rfl))))),?_⟩
 rintro f xs ⟨rows,wd,c,us⟩ hl ⟨rfl,g,FU⟩
 try dsimp only [yj,zm]
 dsimp only at *
 have g2:=g.h2
 have w2:=g.w2
 have few:=FU.few g
 have nd:=FU.dealt.nd
 obtain⟨lu,gu⟩:=FU.dealt.good g
 refine aeH (fun ρ=>ρ=[some (.dat (.int wd)),some (.dat (.int rows.length)),some (.dat (.list (us.map lnD))),some (.mon (aaV w K (yq (us.flatMap (·.2)))))]) (aok (aow (w:=w) (al3 (yB (zv rfl ⟨_,rfl,fun n ρ kvs=>(∃ x1 x2 x3,ρ=[x1,x2,x3])/\kvs=yq ((us.take n).flatMap (·.2)),⟨⟨_,_,_,rfl⟩,rfl⟩,?_,?_⟩))))) ?_
 ·rintro D n d _ _ hd ⟨⟨x1,x2,x3,rfl⟩,rfl⟩
  rw [apU] at hd
  cases et:us[n]? with
  | none=>rw [et] at hd;cases hd
  | some t =>
   rw [et] at hd
   cases hd
   obtain⟨wo,l⟩:=t
   have tk:us.take (n+1)=us.take n++[(wo,l)]:=by rw [aqZ,et];rfl
   have sub:((us.take n).flatMap (·.2)++l).Sublist (us.flatMap (·.2)):=by
    have:(us.take (n+1)).flatMap (·.2)=(us.take n).flatMap (·.2)++l:=by rw [tk,aq9];simp
    rw [<-this]
    exact ab7 (asU _ _)
   have nd2:=nd.sublist sub
   have ln2:=sub.length_le
   rw [aqa] at ln2
   unfold lnD
   refine apm (yE ?_)
   rw [if_pos rfl]
   refine apn (acE (zv rfl ⟨_,rfl,fun m ρ kvs=>(∃ x1 x2 x3,ρ=[x1,x2,x3])/\kvs=yq ((us.take n).flatMap (·.2)++l.take m),⟨⟨_,_,_,rfl⟩,by rw [asA,aqG]⟩,?_,?_⟩))
   ·rintro m d _ _ hd ⟨⟨x1,x2,x3,rfl⟩,rfl⟩
    rw [apU] at hd
    cases eq:l[m]? with
    | none=>rw [eq] at hd;cases hd
    | some q =>
     rw [eq] at hd
     cases hd
     have tk2:l.take (m+1)=l.take m++[q]:=by rw [aqZ,eq];rfl
     have fresh:q∉(us.take n).flatMap (·.2)++l.take m:=fun z=>by
      have s2:((us.take n).flatMap (·.2)++l.take (m+1)).Sublist ((us.take n).flatMap (·.2)++l):=(asU _ _).append_left _
      have n3:=nd2.sublist s2
      rw [tk2,<- aq1] at n3
      exact (aqY.mp n3).2.2 q z q (aqj.mpr rfl) rfl
     have lt:(l.take m).length<=l.length:=by rw [aqD];omega
     refine zu (yE ?_)
     rw [if_pos rfl]
     refine al1 (by unfold yq;rw [apP,aqa];omega) (zv rfl ⟨ab6 q,ado ⟨⟨_,_,_,rfl⟩,?_⟩⟩)
     rw [afd fresh,tk2,aq1]
   ·rintro _ _ ⟨⟨x1,x2,x3,rfl⟩,rfl⟩
    refine⟨⟨_,_,_,rfl⟩,?_⟩
    rw [apP,aqy,tk,aq9]
    simp
 ·rintro _ _ ⟨_,rfl⟩
  refine⟨_,rfl,?_⟩
  rw [apP,aqy]
  rfl
 rintro _ rfl
 refine yu (PEdO.ped (jm (A:=fun (y:Nat)=>PyData.int y) (B:=fun (y:Nat)=>PyData.list (((aqb wd).map fun (x:Nat)=>((aaY (us.flatMap (·.2)) x y % 2:Nat):Int)).map .int)) (aqb rows.length) (qC (vf rfl ⟨_,rfl,by omega,by omega,?_,?_,?_,?_⟩))))
 ·rw [aqs];rfl
 ·rw [aqg];omega
 ·rintro D y ρ' es hy ho hes
  have hy:=aqk.mp hy
  obtain⟨u,rfl⟩:=ho.one
  refine zu (yE ?_)
  rw [if_pos rfl]
  refine yi hes (PEdO.ped (jm (A:=fun (x:Nat)=>PyData.int x) (B:=fun (x:Nat)=>PyData.int ((aaY (us.flatMap (·.2)) x y % 2:Nat):Int)) (aqb wd) (qC (vf rfl ⟨_,rfl,by omega,by omega,?_,?_,?_,?_⟩))))
  ·rw [aqs];rfl
  ·rw [aqg];omega
  ·rintro D2 x ρ2 es2 hx ho2 hes2
   have hx:=aqk.mp hx
   obtain⟨u2,rfl⟩:=ho2.one
   refine zu (yE ?_)
   rw [if_pos rfl]
   refine yi hes2 (afz (zC (us.flatMap (·.2),x,y) (zJ (zv rfl (zJ (zv rfl (am3 (v_var rfl (yI ⟨rfl,⟨rfl,by show x<=7;omega,by show y<=7;omega⟩,?_⟩)))))))))
   rintro _ rfl
   refine⟨_,rfl,yg ⟨_,rfl,by decide,⟨[_],rfl,rfl⟩,?_⟩⟩
   show es2++[PyData.int _]=es2++[PyData.int _]
   congr 3
  ·refine⟨⟨[_],rfl,rfl⟩,?_⟩
   rw [aqv]
   rfl
 ·show PyData.list _=tab _
  unfold tab ulT tabOf
  rw [aqv]
  congr 1
  refine aqR fun y hy=>?_
  have hy:=aqk.mp hy
  show PyData.list _=PyData.list _
  congr 2
  refine aqR fun x hx=>?_
  exact ad9 FU.mem (aqk.mp hx) y hy
abbrev anc (K:apT):Sp:=spD K 3 apy fun c r=>r=tab (hiT c.1 c.2.1 c.2.2.1)
theorem ak6 (F:Def K mg "high_points" ji pB) (uaa:mg "len"=none) (ubs:FnIn P w K mg base k "unlike_points" pB (apz K)) (uak:FnIn P w K mg base k "is_open" pf (aaD K)) (uap:FnIn P w K mg base k "cell_gates" pC (vh K)) (uaI:FnIn P w K mg base k "cell_ahead" pf (abY K)) :
  FnIn P w K mg base (k+1) "high_points" pB (anc K):=by
 refine F.ok sc_high_points rfl fun fa cdv A outer s H E hr=>⟨_,(zi (yD (PW.pt (vH (y3 (z8 (K:=K) rfl (pv 2) (fun _=>rfl))) (qU (zZ aeh (zy (zT (K:=K) rfl) rfl uaa aqz (zc (zW (yv (K:=K) rfl) (zW (zK (K:=K) rfl) (pv 2) zo (fun _ _=>rfl)) zo (fun _ _=>rfl)) zh)) zo (z3 _))))) (zt qk) zX) (zi (zY (i:=3) sc_high_points.nd rfl (Or.inl rfl) (zp ubs hr rfl (zc (pv 0) (zc (pv 1) (zc (pv 2) zh))))) (zi (yz (zW (zK (K:=K) rfl) (pv 2) zo (fun _ _=>rfl)) (ye (K:=K) (n:=2) rfl rfl (zx (zq (i:=4) sc_high_points.nd rfl (Or.inl rfl) (Or.inr rfl)) (zx (zq (i:=5) sc_high_points.nd rfl (Or.inl rfl) (Or.inr rfl)) z7)))) (zi (yD (y3 (z8 (K:=K) rfl (zp uak hr rfl (zc (pv 3) (zc zo (zc (zW (yv (K:=K) rfl) (pv 5) zo (fun _ _=>rfl)) zh)))) (fun _=>rfl))) (zt qk) zX) (zi (yD (zZ (als (K:=K) rfl hr.units) (zW (yv (K:=K) rfl) (pv 5) zo (fun _ _=>rfl)) (zp uap hr rfl (zc (zp uaI hr rfl (zc (pv 3) (zc zo (zc (zW (yv (K:=K) rfl) (pv 5) zo (fun _ _=>rfl)) zh)))) zh)) rfl) (zt (zE (pv 3))) zX) (zt (zE (zQ (N:=["row"]) (own:=1) (fr:=[]) ⟨rfl,by decide +kernel,of_decide_eq_true (by kernel_rfl),of_decide_eq_true (by kernel_rfl),of_decide_eq_true (by kernel_rfl),rfl⟩ rfl (zR (K:=K) rfl (pv 3)) (fun _ _ _ _=>(zq (i:=0) (show (["row"]:List Str).Nodup by decide +kernel) rfl (Or.inl rfl) (Or.inr rfl))) (fun _ _ _ _=>zN) (fun _ _ _ _=>(zQ (N:=["side"]) (own:=1) (fr:=[]) ⟨rfl,by decide +kernel,of_decide_eq_true (by kernel_rfl),of_decide_eq_true (by kernel_rfl),of_decide_eq_true (by kernel_rfl),rfl⟩ rfl (zR (K:=K) rfl (pv 0)) (fun _ _ _ _=>(zq (i:=0) (show (["side"]:List Str).Nodup by decide +kernel) rfl (Or.inl rfl) (Or.inr rfl))) (fun _ _ _ _=>zN) (fun _ _ _ _=>(zM ada zo (pv 0))) rfl rfl (fun _=>rfl))) rfl rfl (fun _=>rfl))))))))),?_⟩
 rintro f xs ⟨rows,wd,c,us⟩ hl ⟨rfl,g,FU⟩
 try dsimp only [yj,zm]
 dsimp only at *
 have gU:=amE (c:=c) g
 obtain⟨t,us',rfl⟩:=arA FU.ne
 obtain⟨a,b,r,et,oa,nb⟩:=aiK g (FU.dealt.ok t apX)
 obtain⟨wo,l⟩:=t
 dsimp only at et
 subst et
 refine yn (ach (abm (jR (yP (zv rfl ⟨true,rfl,?_⟩)))))
 rw [aqt,if_neg apQ]
 refine yw (abk (vL (zJ (jQ (abl (zv rfl ⟨_,rfl,yg ⟨_,rfl,_,jM,_,rfl,yg ⟨_,rfl,.tuple ((a :: b :: r).map gD3),rfl,yI (.inr ⟨_,rfl,_,rfl,yg ⟨_,rfl,_,rfl,?_⟩⟩)⟩⟩⟩))))))
 rw [if_neg (by rw [apP,ap8,ap8];simp;omega)]
 refine qm (yn (yo (zC (rows,wd,c,(wo,a :: b :: r) :: us') (afV rfl rfl rfl ⟨rfl,⟨rfl,g,FU⟩,?_⟩))))
 rintro _ rfl
 dsimp only
 refine zu (yn (yo (abl (zv rfl ⟨_,rfl,yg ⟨_,rfl,_,jM,?_⟩⟩))))
 unfold lnD
 refine apm ?_
 dsimp only
 refine yn (ach (jR (yP (zC (ulT rows wd c,wd,0,a.1,a.2.1,a.2.2) (zJ (zv rfl (zJ (yg (zJ (jQ (zv rfl ⟨_,rfl,yg ⟨_,rfl,_,jM,yI ⟨rfl,⟨rfl,gU⟩,?_⟩⟩⟩)))))))))))
 rintro _ rfl
 have ou:opG (ulT rows wd c) wd 0 a=true:=by rw [apv];exact oa
 refine⟨true,by show some (yC (ulT rows wd c) wd 0 a.1 a.2.1 a.2.2)=some true;exact congrArg some ou,?_⟩
 rw [aqt,if_neg apQ]
 have at1:atI ((a :: b :: r).map gD3) 1=some (gD3 b):=jO (j:=1) rfl
 obtain⟨ina,nin⟩:=amF oa nb
 have ah:=apw oa
 refine qm (yn (ag9 (hiB rows c 0 0=false) ?_ (fun hq=>?_) fun hq=>?_))
 ·refine yw (ao6 (jQ (zv rfl ⟨_,rfl,yg ⟨_,rfl,_,at1,alN (zJ (zC (ulT rows wd c,wd,0,a) (zJ (zv rfl (zJ (yg (zJ (jQ (zv rfl ⟨_,rfl,yg ⟨_,rfl,_,jM,yI ⟨rfl,⟨rfl,gU,ou⟩,?_⟩⟩⟩)))))))))⟩⟩)))
  rintro _ rfl
  refine yI ⟨ahC (ulT rows wd c) 0 a,rfl,rfl,?_⟩
  rintro _ rfl
  refine⟨_,rfl,rfl,fun e he=>?_,by show 1<=50;decide,_,rfl,?_⟩
  ·obtain⟨z,_,rfl⟩:=aqd.mp he
   rfl
  have ea:∀ l:List Gt,(l.map gD3).any (fun e=>aqi e (gD3 b))=decide (b∈l):=fun l=>by
   rw [arB,atb,decide_eq_true_eq]
   constructor
   ·rintro⟨e,he,h⟩
    obtain⟨z,hz,rfl⟩:=aqd.mp he
    rw [ab4] at h
    rw [<-of_decide_eq_true h]
    exact hz
   ·exact fun h=>⟨_,arP h,by rw [ab4];exact decide_eq_true rfl⟩
  rw [ea,ah]
  cases h0:hiB rows c 0 0 with
  | true =>
   rw [if_pos rfl]
   rw [decide_eq_false nin]
   rfl
  | false =>
   rw [if_neg apQ]
   rw [decide_eq_true ina]
   rfl
 ·refine yu (zv rfl ?_)
  show tab _=tab _
  rw [amG hq]
 ·have hq:hiB rows c 0 0=true:=by cases h:hiB rows c 0 0 with | true=>rfl | false=>exact absurd h hq
  refine qm (yu (PEdO.ped (jm (A:=fun r:List Int=>PyData.list (r.map .int)) (B:=fun r:List Int=>PyData.list ((r.map fun s=>1 - s).map .int)) (ulT rows wd c) (yB (zv rfl ⟨_,rfl,rfl,?_,?_,?_⟩)))))
  ·have:=gU.h2;omega
  ·rintro D r ρ' es hr' ho hes
   obtain⟨u1,rfl⟩:=ho.one
   refine zu (yE ?_)
   rw [if_pos rfl]
   have lr:=gU.row r hr'
   have:=gU.w2
   refine yi hes (PEdO.ped (jm (A:=PyData.int) (B:=fun s=>PyData.int (1 - s)) r (yB (zv rfl ⟨_,rfl,rfl,by omega,?_,?_⟩))))
   ·rintro D2 s ρ2 es2 hh ho2 hes2
    obtain⟨u2,rfl⟩:=ho2.one
    refine zu (yE ?_)
    rw [if_pos rfl]
    exact yi hes2 (aaK (yg ⟨_,rfl,zv rfl ⟨_,rfl,⟨[_],rfl,rfl⟩,rfl⟩⟩))
   ·refine⟨⟨[_],rfl,rfl⟩,?_⟩
    rw [aqv]
    rfl
  ·show PyData.list _=tab _
   rw [<-amH hq]
   unfold tab
   rw [aqv]
   rfl
theorem amI {rows:List (List Int)} {wd:Nat} {c:Int} (g:Good wd rows):Good wd (hiT rows wd c):=ab9 g.h1 g.h2 g.w1 g.w2 fun x y _ _=>by unfold hiN;split <;> decide
theorem amJ {rows:List (List Int)} {wd:Nat} {c:Int} {x y:Nat} (hx:x<wd) (hy:y<rows.length):zL (hiT rows wd c) x y=hiN rows c x y:=ab8 hx hy
abbrev TBk:=List (List Int)×Nat×Int×List (List Ln)
def qR (us:List Ln):PyData:=.list (us.map lnD)
structure Cuts (rows:List (List Int)) (wd:Nat) (bs:Int) (uss:List (List Ln)):Prop where
 full:∀ (k:Nat) us,uss[k]?=some us->Full rows wd (bs+k) us
 hgt:∀ r∈rows,∀ n∈r,bs<=n/\n<=bs+uss.length
 few:uss.length<=9
 lo:-1000000000<=bs
 up:bs+uss.length<=1000000000
abbrev apN (c:TBk) (xs:List DV):Prop:=xs=[.dat (.int c.2.1),.dat (.int c.1.length),.dat (.int c.2.2.1),.dat (.list (c.2.2.2.map qR))]/\Good c.2.1 c.1/\Cuts c.1 c.2.1 c.2.2.1 c.2.2.2
abbrev ak7 (K:apT):Sp:=alP K 4 apN (fun c rows=>rows=c.1) (fun _ _=>False) fun _ _ _=>False
theorem amK (F:Def K mg "told_back" jY pO) (uaa:mg "len"=none) (uab:mg "range"=none) (uas:mg "sum"=none) (uah:mg "enumerate"=none) (uaf:∃ t,mg "LEAST"=some (.int (-1000000000) t)) (uag:∃ t,mg "GREATEST"=some (.int 1000000000 t))
  (ubt:FnIn P w K mg base k "is_size" pK (ahy K)) (ubu:FnIn P w K mg base k "high_points" pB (anc K)) (ubv:FnIn P w K mg base k "first_wrong" pM (apt K)):FnIn P w K mg base (k+1) "told_back" pO (ak7 K):=by
 obtain⟨_,uaf⟩:=uaf
 obtain⟨_,uag⟩:=uag
 refine F.okG0 sc_told_back rfl fun fa cdv A outer s H E hr=>⟨_,(zi (yD (PW.pt (vH (y3 (z8 (K:=K) rfl (zp ubt hr rfl (zc (pv 0) (zc (pv 1) zh))) (fun _=>rfl))) (vH (zZ aeh (pv 2) (yU rfl uaf) (z3 _)) (qU (zZ aiS (zM yb (pv 2) (zy (zT (K:=K) rfl) rfl uaa aqz (zc (pv 3) zh))) (yU rfl uag) (z3 _)))))) (zt qk) zX) (zi (zY (i:=4) sc_told_back.nd rfl (Or.inr rfl) (zQ (N:=["some","w","h"]) (own:=1) (fr:=[0,1]) ⟨rfl,by decide +kernel,of_decide_eq_true (by kernel_rfl),of_decide_eq_true (by kernel_rfl),of_decide_eq_true (by kernel_rfl),rfl⟩ rfl (zR (K:=K) rfl (pv 3)) (fun _ _ _ _=>(zq (i:=0) (show (["some","w","h"]:List Str).Nodup by decide +kernel) rfl (Or.inl rfl) (Or.inr rfl))) (fun _ _ _ _=>zN) (fun _ _ _ _=>(zp ubu hr rfl (zc (pv 1) (zc (pv 2) (zc (pv 0) zh))))) rfl rfl (fun _=>rfl))) (zi (jj (i:=5) (N:=["y","w","base","highs"]) (own:=1) (fr:=[0,2,4]) ⟨rfl,by decide +kernel,of_decide_eq_true (by kernel_rfl),of_decide_eq_true (by kernel_rfl),of_decide_eq_true (by kernel_rfl),rfl⟩ rfl sc_told_back.nd rfl (Or.inl rfl) (yA rfl uab (zc (pv 1) zh)) (fun _ _ _ _=>(zq (i:=0) (show (["y","w","base","highs"]:List Str).Nodup by decide +kernel) rfl (Or.inr rfl) (Or.inl rfl))) (fun _ _ _ _=>zN) (fun _ _ _ _=>(zQ (N:=["x","y","base","highs"]) (own:=1) (fr:=[0,2,3]) ⟨rfl,by decide +kernel,of_decide_eq_true (by kernel_rfl),of_decide_eq_true (by kernel_rfl),of_decide_eq_true (by kernel_rfl),rfl⟩ rfl (yA rfl uab (zc (pv 1) zh)) (fun _ _ _ _=>(zq (i:=0) (show (["x","y","base","highs"]:List Str).Nodup by decide +kernel) rfl (Or.inr rfl) (Or.inl rfl))) (fun _ _ _ _=>zN) (fun _ _ _ _=>(zM yb (pv 2) (zy (abv (K:=K) rfl rfl) rfl uas aun (zc (zQ (N:=["high","x","y"]) (own:=1) (fr:=[0,1]) ⟨rfl,by decide +kernel,of_decide_eq_true (by kernel_rfl),of_decide_eq_true (by kernel_rfl),of_decide_eq_true (by kernel_rfl),rfl⟩ rfl (zR (K:=K) rfl (pv 3)) (fun _ _ _ _=>(zq (i:=0) (show (["high","x","y"]:List Str).Nodup by decide +kernel) rfl (Or.inl rfl) (Or.inr rfl))) (fun _ _ _ _=>zN) (fun _ _ _ _=>(zW (zK (K:=K) rfl) (zW (zK (K:=K) rfl) (pv 0) (pv 2) (fun _ _=>rfl)) (pv 1) (fun _ _=>rfl))) rfl rfl (fun _=>rfl)) zh)))) rfl rfl (fun _=>rfl))) rfl rfl (fun _=>rfl) (Or.inl rfl) rfl) (zi (jF aqV rfl (abq (K:=K) rfl rfl uah (zc (pv 3) zh)) (ye (K:=K) (n:=2) rfl rfl (zx (zq (i:=6) sc_told_back.nd rfl (Or.inl rfl) (Or.inr rfl)) (zx (zq (i:=7) sc_told_back.nd rfl (Or.inl rfl) (Or.inr rfl)) z7))) (zt (yD (zZ ags (zp ubv hr rfl (zc (pv 5) (zc (zM yb (pv 2) (pv 6)) (zc (pv 7) zh)))) aai (z3 _)) (zt qk) zX))) (zt (zE (pv 5))))))),?_⟩
 rintro f xs ⟨rows,wd,bs,uss⟩ hl ⟨rfl,g,C⟩
 try dsimp only [yj,zm]
 dsimp only at *
 have g1:=g.h1
 have g2:=g.h2
 have w1:=g.w1
 have w2:=g.w2
 have few:=C.few
 have lo:=C.lo
 have up:=C.up
 refine am5 (aj3 (ach (abm (jR (yP (zC (wd,rows.length) (akh rfl rfl ⟨rfl,⟨rfl,w1,w2,g1,g2⟩,?_⟩)))))))
 rintro _ rfl
 refine⟨true,rfl,?_⟩
 rw [aqt,if_neg apQ]
 refine abm (yw (abk (zv rfl ⟨_,rfl,yg ⟨_,rfl,_,rfl,?_⟩⟩)))
 rw [if_neg (by simp;omega)]
 refine yw (abk (aaK (zv rfl ⟨_,rfl,vL (vf rfl (.inl ⟨_,rfl,_,rfl,_,rfl,yg ⟨_,rfl,_,rfl,?_⟩⟩))⟩)))
 rw [if_neg (by rw [apP];simp;omega)]
 refine qm (am5 (aj3 (yo (PEdO.ped (jm (A:=fun p:List Ln×Nat=>qR p.1) (B:=fun p:List Ln×Nat=>tab (hiT rows wd (bs+(p.2:Int)))) uss.zipIdx (yB (zv rfl ⟨_,rfl,?_,?_,?_,?_⟩)))))))
 ·show _=uss.zipIdx.map (qR ∘ Prod.fst)
  rw [<-aqv,List.zipIdx_map_fst]
 ·rw [List.length_zipIdx];omega
 ·rintro D ⟨us,n⟩ ρ' es hp ho hes
  have hn:uss[n]?=some us:=by
   have:=List.mem_zipIdx_iff_getElem?.mp hp
   exact this
  obtain⟨u,rfl⟩:=ho.one
  refine zu (yE ?_)
  rw [if_pos rfl]
  refine yi hes (zC (rows,wd,bs+(n:Int),us) (afV rfl rfl rfl ⟨rfl,⟨rfl,g,C.full n us hn⟩,?_⟩))
  rintro _ rfl
  exact⟨⟨[_],rfl,rfl⟩,rfl⟩
 have eH:uss.zipIdx.map (fun p:List Ln×Nat=>tab (hiT rows wd (bs+(p.2:Int))))=(aqb uss.length).map fun (n:Nat)=>tab (hiT rows wd (bs+(n:Int))):=by
  refine aq0 fun n=>?_
  rw [apU,apU,List.getElem?_zipIdx]
  by_cases hn:n<uss.length
  ·rw [aqx hn,apO hn]
   show some (tab (hiT rows wd (bs+((0+n:Nat):Int))))=_
   rw [ats]
   rfl
  ·rw [aqc (by omega),aqc (by rw [aqg];omega)]
   rfl
 rw [eH]
 refine zu (aoA (agG (vf rfl ⟨_,rfl,by omega,by omega,fun y r=>y<rows.length/\r=(aqb wd).map (fun (x:Nat)=>zL rows x y),fun D y hy=>?_,fun rows' hl' hR=>?_⟩)))
 ·have hy':y<rows.length:=by omega
  refine acD (vf rfl ⟨_,rfl,by omega,by omega,fun x e=>e=.int (zL rows (x:Nat) (y:Nat)),fun D2 x hx=>?_,fun es hes hR=>?_⟩)
  ·have hx':x<wd:=by omega
   have hb:bs<=zL rows x y/\zL rows x y<=bs+uss.length:=by
    obtain⟨r,hr,hn⟩:=ak2 g hx' hy'
    exact C.hgt r hr _ hn
   refine aaK (zv rfl ⟨_,rfl,amY (PEdO.ped (jm (A:=fun (n:Nat)=>tab (hiT rows wd (bs+(n:Int)))) (B:=fun (n:Nat)=>PyData.int (hiN rows (bs+(n:Int)) x y)) (aqb uss.length) (yB (zv rfl ⟨_,rfl,rfl,?_,?_,?_⟩))))⟩)
   ·rw [aqg];omega
   ·rintro D3 n ρ' es hn ho hes
    obtain⟨u,rfl⟩:=ho.one
    refine zu (yE ?_)
    rw [if_pos rfl]
    obtain⟨row,r1,r2⟩:=abS (x:=(x:Int)) (y:=(y:Int)) (amI (c:=bs+(n:Int)) g) (aag (rows:=hiT rows wd (bs+(n:Int))) hx' (by unfold hiT;rw [vF];exact hy'))
    rw [amJ hx' hy'] at r2
    exact yi hes (abl (abl (zv rfl ⟨_,rfl,zv rfl ⟨_,rfl,_,r1,_,rfl,zv rfl ⟨_,rfl,_,r2,⟨[_],rfl,rfl⟩,rfl⟩⟩⟩)))
   ·refine⟨(aqb uss.length).map fun (n:Nat)=>hiN rows (bs+(n:Int)) x y,by rw [aqv];rfl,_,rfl,?_⟩
    rw [aoQ x y uss.length hb.1 hb.2]
    show PyData.int _=PyData.int _
    congr 1
    omega
  ·refine⟨(aqb wd).map fun (x:Nat)=>zL rows x y,?_,hy',rfl⟩
   refine aq0 fun x=>?_
   by_cases hx:x<es.length
   ·rw [apO hx,hR x _ (apO hx),apU,apU,aqx (by omega)]
    rfl
   ·rw [aqc (by omega),aqc (by rw [apP,apP,aqg];omega)]
 have er:rows'=rows:=by
  rw [amD g]
  unfold tabOf
  refine aq0 fun y=>?_
  rw [apU]
  by_cases hy:y<rows'.length
  ·rw [apO hy,(hR y _ (apO hy)).2,aqx (by omega)]
   rfl
  ·rw [aqc (by omega),aqc (by rw [aqg];omega)]
   rfl
 subst er
 refine⟨show 5<8 by decide,fun a as=>apo (ajn (vf rfl ⟨_,rfl,fun n ρ R=>(∃ x6 x7,ρ=[some (.dat (.int wd)),some (.dat (.int rows'.length)),some (.dat (.int bs)),some (.dat (.list (uss.map qR))),some (.dat (.list ((aqb uss.length).map fun (n:Nat)=>tab (hiT rows' wd (bs+(n:Int)))))),some (.own f.M.length),x6,x7])/\R=some rows',⟨⟨_,_,rfl⟩,rfl⟩,?_,?_⟩))⟩
 ·rintro n d _ _ hd ⟨⟨x6,x7,rfl⟩,rfl⟩
  obtain⟨us,hu,rfl⟩:=aeN hd
  have FU:=C.full n us hu
  obtain⟨lu,gu⟩:=FU.dealt.good g
  refine jl rfl (zG (zu (zG (zu (yG (aom (i:=5) rfl ?_))))))
  show PTd K f _ [some (.dat (.int wd)),some (.dat (.int rows'.length)),some (.dat (.int bs)),some (.dat (.list (uss.map qR))),some (.dat (.list ((aqb uss.length).map fun (n:Nat)=>tab (hiT rows' wd (bs+(n:Int)))))),some (.dat (aaA rows')),some (.dat (.int n)),some (.dat (qR us))] _
  refine yw (alZ (zC (rows',wd,bs+(n:Int),us) (zJ (zv rfl (zJ (aaK (zv rfl ⟨_,rfl,zv rfl ⟨_,rfl,vf rfl ⟨rfl,⟨rfl,g,by show us.length<=900;omega,fun t ht=>(gu t ht).1⟩,?_⟩⟩⟩)))))))
  rintro _ rfl
  refine .inl ⟨amC FU.dealt FU.len,_,rfl,?_⟩
  rw [if_neg apQ]
  exact adO ⟨⟨_,_,rfl⟩,rfl⟩
 ·rintro _ _ ⟨⟨x6,x7,rfl⟩,rfl⟩
  exact⟨_,rfl,rfl,rfl⟩
theorem afk (q:PyData) (l:List PyData):L2.cutD (q :: l) (some 1) none=l:=by
 unfold L2.cutD
 show ((q :: l).drop (min 1 (l.length+1))).take ((l.length+1) - min 1 (l.length+1))=l
 rw [Nat.min_eq_left (by omega)]
 show l.take (l.length+1 - 1)=l
 rw [asQ,aqy]
theorem aah:∀ r:List Int,aqr (r.map .int)=true/\ap6 (r.map PyData.int)=0
 | []=>⟨rfl,rfl⟩
 | n :: r=>⟨(aah r).1,by
  show max 0 (ap6 (r.map PyData.int))=0
  rw [(aah r).2]
  rfl⟩
theorem vk:∀ rows:List (List Int),aqr (rows.map fun r=>PyData.list (r.map .int))=true/\ap6 (rows.map fun r=>PyData.list (r.map .int))<=1
 | []=>⟨rfl,by decide⟩
 | r :: rows=>⟨by
  show ((PyData.list (r.map .int)).canLay0 && aqr (rows.map fun r=>PyData.list (r.map .int)))=true
  rw [(vk rows).1,at3]
  exact (aah r).1,by
  show max (ap6 (r.map PyData.int)+1) (ap6 (rows.map fun r=>PyData.list (r.map .int)))<=1
  rw [(aah r).2]
  exact Nat.max_le.mpr ⟨by decide,(vk rows).2⟩⟩
theorem ahz (rows:List (List Int)):(tab rows).canLay0=true:=(vk rows).1
theorem ak8 (rows:List (List Int)):(tab rows).depth<=2:=ata (vk rows).2
theorem ahA {Q:Nat->Int->Prop} {es:List PyData} (h:∀ (i:Nat) e,es[i]?=some e->∃ n:Int,e=.int n/\Q i n):∃ ns:List Int,es=ns.map .int/\∀ (i:Nat) n,ns[i]?=some n->Q i n:=by
 let F:PyData->Int:=fun e=>match e with | .int n=>n | _=>0
 refine⟨es.map F,?_,fun i n hn=>?_⟩
 ·rw [aqv]
  refine (aq0 fun i=>?_)
  rw [apU]
  cases he:es[i]? with
  | none=>rfl
  | some e =>
   obtain⟨n,rfl,_⟩:=h i e he
   rfl
 ·rw [apU] at hn
  cases he:es[i]? with
  | none=>rw [he] at hn;cases hn
  | some e =>
   obtain⟨m,rfl,q⟩:=h i e he
   rw [he] at hn
   cases hn
   exact q
theorem afl:∀ (uss:List (List Ln)),(∀ us∈uss,∀ t∈us,aq4 t.1=true)->aqr (uss.map qR)=true/\ap6 (uss.map qR)<=4
 | [],_=>⟨rfl,aqu _⟩
 | us :: uss,h=>by
  obtain⟨a,b⟩:=ad8 us (h us apX)
  obtain⟨c,d⟩:=afl uss fun u hu=>h u (apW _ hu)
  constructor
  ·show (aqr (us.map lnD) && aqr (uss.map qR))=true
   rw [a,c]
   rfl
  ·show max (ap6 (us.map lnD)+1) (ap6 (uss.map qR))<=4
   omega
theorem amL {rows:List (List Int)} {wd:Nat} {c:Int} {ts:List (Bool×List Gt)} {us:List Ln} (T:Told rows wd c ts) (aT:∀ g,opG rows wd c g=true->g∈flat ts) (p:us.Perm (ts.map acq)) (q:∃ q,opG rows wd c q=true):Full rows wd c us where
 dealt:=afg T p
 all:=fun g o=>by
  have h:g∈(ts.map acq).flatMap (·.2):=by
   obtain⟨t,ht,hg⟩:=aqA.mp (aT g o)
   exact aqA.mpr ⟨acq t,arP ht,hg⟩
  obtain⟨t,ht,hg⟩:=aqA.mp h
  exact aqA.mpr ⟨t,p.mem_iff.mpr ht,hg⟩
 ne:=fun z=>by
  obtain⟨q,o⟩:=q
  obtain⟨t,ht,hg⟩:=aqA.mp (aT q o)
  subst z
  have:=p.mem_iff.mpr (arP (f:=acq) ht)
  cases this
theorem aoS {f:Addr} {fd:FuncData} (F:Fun K "law" "law" aaQ f fd) (uaa:mg "len"=none) (uab:mg "range"=none) (ual:mg "max"=none) (uae:mg "min"=none) (uan:mg "list"=none) (uat:mg "any"=none) (uaz:mg "isinstance"=none) (uaO:mg "bool"=none)
  (kB:ary K (.type "int") (.type "bool")=some false) (kL:ary K (.type "list") (.type "list")=some true)
  (ubw:FnIn P w K mg base k "_law_feed" pQ (ago K)) (ubx:FnIn P w K mg base k "_law_table" pR (akz K)) (uby:FnIn P w K mg base k "lines" pA (ahp K)) (ubz:FnIn P w K mg base k "_law_order" pU (ahx K)) (ubb:FnIn P w K mg base k "told_back" pO (ak7 K)) :
  FnOk P w K mg base CX0 (k+1) f fd pV (ahr K):=by
 refine F.ok sc_law (fun vs H Q E h=>?_) fun cdv A outer s H vs Q E hr hs=>⟨_,(zi (jF aqV rfl (yA rfl uab (zc (zy (ahH rfl) rfl ual boot_max (zc zo (zc (zy (ahI rfl) rfl uae boot_min (zc zo (zc (zy (zT (K:=K) rfl) rfl uaa aqz (zc (pv 0) zh)) zh))) zh))) zh)) (zq (i:=1) sc_law.nd rfl (Or.inl rfl) (Or.inr rfl)) (zi (zY (i:=2) sc_law.nd rfl (Or.inr rfl) (zp ubw hr rfl (zc (pv 0) (zc (pv 1) zh)))) (zi (zY (i:=3) sc_law.nd rfl (Or.inr rfl) (zp ubx hr rfl (zc (pv 2) zh))) (zi (zY (i:=4) sc_law.nd rfl (Or.inl rfl) (zy (aao (K:=K) rfl rfl) rfl uae boot_min (zc (zQ (N:=["_law_row"]) (own:=1) (fr:=[]) ⟨rfl,by decide +kernel,of_decide_eq_true (by kernel_rfl),of_decide_eq_true (by kernel_rfl),of_decide_eq_true (by kernel_rfl),rfl⟩ rfl (zR (K:=K) rfl (pv 3)) (fun _ _ _ _=>(zq (i:=0) (show (["_law_row"]:List Str).Nodup by decide +kernel) rfl (Or.inl rfl) (Or.inr rfl))) (fun _ _ _ _=>zN) (fun _ _ _ _=>(zy (aao (K:=K) rfl rfl) rfl uae boot_min (zc (pv 0) zh))) rfl rfl (fun _=>rfl)) zh))) (zi (zY (i:=5) sc_law.nd rfl (Or.inl rfl) (zy (aap (K:=K) rfl rfl) rfl ual boot_max (zc (zQ (N:=["_law_row"]) (own:=1) (fr:=[]) ⟨rfl,by decide +kernel,of_decide_eq_true (by kernel_rfl),of_decide_eq_true (by kernel_rfl),of_decide_eq_true (by kernel_rfl),rfl⟩ rfl (zR (K:=K) rfl (pv 3)) (fun _ _ _ _=>(zq (i:=0) (show (["_law_row"]:List Str).Nodup by decide +kernel) rfl (Or.inl rfl) (Or.inr rfl))) (fun _ _ _ _=>zN) (fun _ _ _ _=>(zy (aap (K:=K) rfl rfl) rfl ual boot_max (zc (pv 0) zh))) rfl rfl (fun _=>rfl)) zh))) (zi (jj (i:=6) (N:=qd) (own:=1) (fr:=[2,3]) ⟨rfl,by decide +kernel,of_decide_eq_true (by kernel_rfl),of_decide_eq_true (by kernel_rfl),of_decide_eq_true (by kernel_rfl),rfl⟩ rfl sc_law.nd rfl (Or.inl rfl) (ahE rfl uab (zc (pv 4) (zc (pv 5) zh))) (fun _ _ _ _=>(zq (i:=0) (show (qd:List Str).Nodup by decide +kernel) rfl (Or.inl rfl) (Or.inr rfl))) (fun _ _ _ _=>zN) (fun _ _ _ _=>(zp ubz hr rfl (zc (pv 1) (zc (zp uby hr rfl (zc (pv 2) (zc (pv 0) zh))) zh)))) rfl rfl (fun _=>rfl) (Or.inl rfl) rfl) (zi (jj (i:=7) (N:=["_law_some"]) (own:=1) (fr:=[]) ⟨rfl,by decide +kernel,of_decide_eq_true (by kernel_rfl),of_decide_eq_true (by kernel_rfl),of_decide_eq_true (by kernel_rfl),rfl⟩ rfl sc_law.nd rfl (Or.inl rfl) (zR (K:=K) rfl (pv 6)) (fun _ _ _ _=>(zq (i:=0) (show (["_law_some"]:List Str).Nodup by decide +kernel) rfl (Or.inl rfl) (Or.inr rfl))) (fun _ _ _ _=>zN) (fun _ _ _ _=>(ql (abp (K:=K) rfl) rfl uan asq (zc (pv 0) zh))) rfl rfl (fun _=>rfl) (Or.inl rfl) rfl) (zi (zY (i:=8) sc_law.nd rfl (Or.inl rfl) (zp ubb hr rfl (zc (zy (zT (K:=K) rfl) rfl uaa aqz (zc (zW (zK (K:=K) rfl) (pv 3) zo (fun _ _=>rfl)) zh)) (zc (zy (zT (K:=K) rfl) rfl uaa aqz (zc (pv 3) zh)) (zc (pv 4) (zc (pv 6) zh)))))) (zi (yD (PW.pt (vH (y3 (z8 (K:=K) rfl (zy (aaq (K:=K) rfl) rfl uaz boot_isinstance (zc (pv 8) (zc (ac8 (v:=.ty "list") rfl uan asq rfl) zh))) (fun _=>rfl))) (vH (zZ (qZ (K:=K) rfl hr.units) (pv 8) (pv 3) (z3 _)) (qU (zZ (qZ (K:=K) rfl hr.units) (pv 6) (pv 7) (z3 _)))))) (zt (zE jN)) zX) (zi (jF aqV rfl (zR (K:=K) rfl (pv 8)) (zq (i:=9) sc_law.nd rfl (Or.inl rfl) (Or.inr rfl)) (zt (yD (PW.pt (vH (y3 (z8 (K:=K) rfl (zy (aaq (K:=K) rfl) rfl uaz boot_isinstance (zc (pv 9) (zc (ac8 (v:=.ty "list") rfl uan asq rfl) zh))) (fun _=>rfl))) (qU (z8 (K:=K) rfl (zy (acF (K:=K) rfl rfl) rfl uat aup (zc (zQ (N:=["_law_height"]) (own:=1) (fr:=[]) ⟨rfl,by decide +kernel,of_decide_eq_true (by kernel_rfl),of_decide_eq_true (by kernel_rfl),of_decide_eq_true (by kernel_rfl),rfl⟩ rfl (zR (K:=K) rfl (pv 9)) (fun _ _ _ _=>(zq (i:=0) (show (["_law_height"]:List Str).Nodup by decide +kernel) rfl (Or.inl rfl) (Or.inr rfl))) (fun _ _ _ _=>zN) (fun _ _ _ _=>(zy (aaq (K:=K) rfl) rfl uaz boot_isinstance (zc (pv 0) (zc (ac8 (v:=.ty "bool") rfl uaO PyProof.Rows.boot_bool rfl) zh)))) rfl rfl (fun _=>rfl)) zh)) (fun _=>rfl))))) (zt (zE jN)) zX))) (zi (jy (acA ard ar7 ar8 vm (zW (zK (K:=K) rfl) (pv 8) zo (fun _ _=>rfl)) (zc zo zh))) (zi (yD (zZ (qZ (K:=K) rfl hr.units) (abh (aer (K:=K) rfl) (pv 8) (adf zo) ade) (abh (aer (K:=K) rfl) (pv 3) (adf zo) ade) (z3 _)) (zt (zE jN)) zX) (zi (jy (anE ard auq aur anF (pv 8))) (zt (yD (zZ (qZ (K:=K) rfl hr.units) (zp ubb hr rfl (zc (zy (zT (K:=K) rfl) rfl uaa aqz (zc (zW (zK (K:=K) rfl) (pv 3) zo (fun _ _=>rfl)) zh)) (zc (zy (zT (K:=K) rfl) rfl uaa aqz (zc (pv 3) zh)) (zc (pv 4) (zc (pv 6) zh))))) (pv 3) (z3 _)) (zt (zE jN)) zX))))))))))))))) (zt (zE jN))),?_⟩
 ·obtain⟨a,ns,rfl,_⟩:=h
  rfl
 obtain⟨a,ns,rfl,hS,h63,q⟩:=hs
 have e0:EnvOk K L2.f0 (qA ahb [.dat (scr ns)]) (start ahb [.ref a]) H:=qo (.cons (ahq hS) .nil) (L2.fok0 H)
 suffices h:PSd K L2.f0 _ (qA ahb [.dat (scr ns)]) { nx:=fun _=>False,rt:=fun d=>d=.bool true } from
  h _ H _ e0 (fun _ _ _ _ _ z=>z.elim) (fun d v H' _ r z=>by
   subst z
   rw [rep_bool.mp r]
   exact q H') (fun _ _ _ _ _ z=>z) (fun _ _ _ _ _ z=>z)
 refine yn (ajo (qC (amw (R:=fun xs=>∃ j:Int,xs=[.dat (.int j)]/\0<=j/\j<=63) ?_ ?_)))
 ·walk_at "w"
  rw [apP]
  split <;> split <;> omega
 rintro _ ⟨j,rfl,j0,j1⟩
 refine⟨j,rfl,by omega,by omega,fun i ρ=>∃ x1 x2 x3 x4 x5 x6 x7 x8 x9,ρ=[some (.dat (scr ns)),x1,x2,x3,x4,x5,x6,x7,x8,x9],⟨_,_,_,_,_,_,_,_,_,rfl⟩,?_,?_⟩
 ·rintro i d _ hi ⟨x1,x2,x3,x4,x5,x6,x7,x8,x9,rfl⟩
  obtain⟨hi,rfl⟩:=abU hi
  refine zu (anO (aoO rfl rfl h63 (by omega) (by omega)) fun p=>?_)
  refine yn (yo (zC () ?_))
  walk_at "w"
  rintro _ ⟨wd,rows,rfl,g,nr⟩
  have g1:=g.h1
  have g2:=g.h2
  have w1:=g.w1
  have w2:=g.w2
  have row_ne:∀ r∈rows,r≠[]:=fun r hr z=>by
   have:=g.row r hr
   rw [z,arh] at *
   omega
  refine zu (aeH (fun ρ=>∃ low:Int,ρ=[some (.dat (scr ns)),some (.dat (.int i)),some .feed,some (.dat (tab rows)),some (.dat (.int low)),x5,x6,x7,x8,x9]/\(∃ r∈rows,low∈r)/\∀ r∈rows,∀ n∈r,low<=n) (yo (adq (zJ (agD (zv rfl ⟨_,rfl,by rw [apP];omega,fun i e=>∃ n:Int,e=.int n/\∃ r,rows[i]?=some r/\n∈r/\∀ m∈r,n<=m,fun D i d hd=>?_,fun es hes hR=>?_⟩))))) ?_)
  ·rw [apU] at hd
   cases hq:rows[i]? with
   | none=>rw [hq] at hd;cases hd
   | some r =>
    rw [hq] at hd
    cases hd
    exact adq (vf rfl ⟨r,rfl,row_ne r (apZ hq),fun M hM hl=>⟨M,rfl,r,hq,hM,hl⟩⟩)
  ·obtain⟨ms,rfl,hm⟩:=ahA hR
   rw [apP,apP] at hes
   refine yI ⟨ms,rfl,fun z=>?_,fun M hM hl=>zu ⟨M,rfl,?_⟩⟩
   ·rw [z,arh] at hes
    omega
   ·obtain⟨i,hi⟩:=aql hM
    obtain⟨r,hr,mr,_⟩:=hm i M hi
    refine⟨⟨r,apZ hr,mr⟩,fun r hr n hn=>?_⟩
    obtain⟨i,hi⟩:=aql hr
    have hil:=(apS.mp hi).1
    obtain⟨r',hr',_,le⟩:=hm i ms[i] (apO (by omega))
    rw [hi] at hr'
    cases hr'
    exact aud (hl _ (aqo _)) (le n hn)
  rintro _ ⟨low,rfl,lin,ll⟩
  refine aeH (fun ρ=>∃ top:Int,ρ=[some (.dat (scr ns)),some (.dat (.int i)),some .feed,some (.dat (tab rows)),some (.dat (.int low)),some (.dat (.int top)),x6,x7,x8,x9]/\(∃ r∈rows,top∈r)/\∀ r∈rows,∀ n∈r,n<=top) (yo (ads (zJ (agD (zv rfl ⟨_,rfl,by rw [apP];omega,fun i e=>∃ n:Int,e=.int n/\∃ r,rows[i]?=some r/\n∈r/\∀ m∈r,m<=n,fun D i d hd=>?_,fun es hes hR=>?_⟩))))) ?_
  ·rw [apU] at hd
   cases hq:rows[i]? with
   | none=>rw [hq] at hd;cases hd
   | some r =>
    rw [hq] at hd
    cases hd
    exact ads (vf rfl ⟨r,rfl,row_ne r (apZ hq),fun M hM hl=>⟨M,rfl,r,hq,hM,hl⟩⟩)
  ·obtain⟨ms,rfl,hm⟩:=ahA hR
   rw [apP,apP] at hes
   refine yI ⟨ms,rfl,fun z=>?_,fun M hM hl=>zu ⟨M,rfl,?_⟩⟩
   ·rw [z,arh] at hes
    omega
   ·obtain⟨i,hi⟩:=aql hM
    obtain⟨r,hr,mr,_⟩:=hm i M hi
    refine⟨⟨r,apZ hr,mr⟩,fun r hr n hn=>?_⟩
    obtain⟨i,hi⟩:=aql hr
    have hil:=(apS.mp hi).1
    obtain⟨r',hr',_,le⟩:=hm i ms[i] (apO (by omega))
    rw [hi] at hr'
    cases hr'
    exact aud (le n hn) (hl _ (aqo _))
  rintro _ ⟨top,rfl,tin,tl⟩
  obtain⟨rl,hrl,inl⟩:=lin
  obtain⟨rt,hrt,int⟩:=tin
  have lt:low<=top:=ll rt hrt top int
  have near:=nr rl hrl low inl rt hrt top int
  obtain⟨lo1,lo2⟩:=g.hgt rl hrl low inl
  obtain⟨to1,to2⟩:=g.hgt rt hrt top int
  refine aeH (fun ρ=>∃ uss:List (List Ln),ρ=[some (.dat (scr ns)),some (.dat (.int i)),some .feed,some (.dat (tab rows)),some (.dat (.int low)),some (.dat (.int top)),some (.dat (.list (uss.map qR))),x7,x8,x9]/\uss.length=(top - low).toNat/\∀ (n:Nat) us,uss[n]?=some us->Full rows wd (low+n) us) (yo (PEdO.ped (vc (ajm (akh rfl rfl ⟨_,_,rfl,by omega,fun n ρ' es=>OwnE 1 [some .feed,some (.dat (tab rows))] ρ'/\∃ uss:List (List Ln),es=uss.map qR/\uss.length=n/\∀ (n:Nat) us,uss[n]?=some us->Full rows wd (low+n) us,?_,?_,?_⟩))))) ?_
  ·exact⟨⟨[_],rfl,rfl⟩,[],rfl,rfl,fun n us h=>by cases h⟩
  ·rintro D n d ρ' es hd ⟨ho,uss,rfl,hu,hf⟩
   obtain⟨u,rfl⟩:=ho.one
   obtain⟨rfl,hn⟩:d=.int (low+n)/\low+n<top:=by
    unfold vq at hd
    rw [apU] at hd
    by_cases h:n<(top - low).toNat
    ·rw [aqx h] at hd
     cases hd
     exact⟨rfl,by omega⟩
    ·rw [aqc (by rw [aqg];omega)] at hd
     cases hd
   refine zu (yE ?_)
   rw [if_pos rfl]
   refine yi (by rw [apP];omega) (PEdO.ped (alY (adp rfl (zJ (PEdO.ped (aby (rows,wd,low+(n:Int)) (akh rfl rfl ⟨rfl,⟨rfl,g⟩,?_⟩)))))))
   rintro _ ⟨ts,rfl,T,aT,pT⟩
   dsimp only at T aT
   have fT:=T.few g
   have D0:Dealt rows wd (low+n) (ts.map acq):=afg T (.refl _)
   refine yI ⟨ts.map jK,rfl,⟨rfl,by rw [apP];omega,?_⟩,fun es hp=>?_⟩
   ·rw [aff]
    exact (ad8 _ D0.str).1
   rw [aff] at hp
   obtain⟨us,pu,rfl⟩:=L2.perm_map_inv hp
   refine⟨⟨[_],rfl,rfl⟩,uss++[us],by rw [aqm];rfl,by rw [aqa,hu];rfl,fun m us' hm=>?_⟩
   by_cases h:m<uss.length
   ·rw [ap1 h] at hm
    exact hf m us' hm
   ·rw [ap2 (by omega)] at hm
    have:m=n:=by
     have:=(apS.mp hm).1
     rw [aqT] at this
     omega
    subst this
    rw [hu,arz] at hm
    cases hm
    exact amL T aT pu (aiL g hrt int (by omega) hrl inl (by omega))
  ·rintro ρ' es ⟨_,uss,rfl,hu,hf⟩
   refine zu ⟨uss,rfl,?_,hf⟩
   rw [hu]
   unfold vq
   rw [apP,aqg]
  rintro _ ⟨uss,rfl,ul,uf⟩
  have C:Cuts rows wd low uss:=⟨uf,fun r hr n hn=>⟨ll r hr n hn,by have:=tl r hr n hn;omega⟩,by omega,by omega,by omega⟩
  have str:∀ us∈uss,∀ t∈us,aq4 t.1=true:=fun us hu=>by
   obtain⟨n,hn⟩:=aql hu
   exact (uf n us hn).dealt.str
  obtain⟨cl,cd⟩:=afl uss str
  have few:∀ us∈uss,us.length<=900:=fun us hu=>by
   obtain⟨n,hn⟩:=aql hu
   have:=((uf n us hn).dealt.good g).1
   omega
  refine yn (yo (PEdO.ped (jm (A:=qR) (B:=qR) uss (yB (zv rfl ⟨_,rfl,rfl,by omega,?_,?_⟩)))))
  ·rintro D us ρ' es hu ho hes
   obtain⟨u,rfl⟩:=ho.one
   refine zu (yE ?_)
   rw [if_pos rfl]
   exact yi hes (PEdL.ped (aoi (zv rfl ⟨_,rfl,⟨[_],rfl,rfl⟩,rfl⟩)))
  refine zu ?_
  obtain⟨r0,rs0,er⟩:=g.ne
  have rl0:=g.row r0 (by rw [er];exact apX)
  have at0:atI (rows.map fun r=>PyData.list (r.map .int)) 0=some (.list (r0.map .int)):=jO (j:=0) (by rw [er];rfl)
  have tl0:=ahz rows
  have dp0:=ak8 rows
  have args:∀ {f:Fx} {ρ:zw} {Q:List DV->Prop},ρ[3]?=some (some (.dat (tab rows)))->ρ[4]?=some (some (.dat (.int low)))->ρ[6]?=some (some (.dat (.list (uss.map qR))))->Q [.dat (.int wd),.dat (.int rows.length),.dat (.int low),.dat (.list (uss.map qR))]->PAd K f (zV (tCB (fun xs H Q=>∃ p ys,xs=[.ref p]/\(SqL K H p ys \/ SqT K H p ys)/\Q (.int ys.length) H) (zV (tOp (adg K) (yr 3) (tC (.int 0))) yQ)) (zV (tCB (fun xs H Q=>∃ p ys,xs=[.ref p]/\(SqL K H p ys \/ SqT K H p ys)/\Q (.int ys.length) H) (zV (yr 3) yQ)) (zV (yr 4) (zV (yr 6) yQ)))) ρ Q:=fun h3 h4 h6 hQ=>by
   refine zJ (vL (zJ (abl (zv h3 ⟨_,rfl,yg ⟨_,rfl,_,at0,yI (.inl ⟨_,rfl,zJ (vL (vf h3 (.inl ⟨_,rfl,zJ (zv h4 (vf h6 ?_))⟩)))⟩)⟩⟩))))
   rw [apP,apP,rl0]
   exact hQ
  refine aon (aj5 (rows,wd,low,uss) (args rfl rfl rfl ⟨rfl,⟨rfl,g,C⟩,?_,fun _ z=>z,fun _ _ z=>z⟩))
  intro rs1 e1
  obtain rfl:rows=rs1:=Eq.symm e1
  refine⟨show 8<10 by decide,fun a as=>?_⟩
  dsimp only
  refine aeI (aom (i:=8) rfl ?_)
  refine abm (jR (yP (amU kL (zv rfl ⟨_,rfl,true,rfl,?_⟩))))
  rw [aqt,if_neg apQ]
  refine abm (yw (jw (zv rfl (zv rfl ⟨tl0,tl0,aqn (ass _ _) (aqn dp0 (by decide)),_,rfl,?_⟩))))
  rw [if_pos rfl,show aqi (aaA rows) (tab rows)=true from asY _ tl0,aqt,if_neg apQ]
  refine yw (jw (zv rfl (zv rfl ⟨cl,cl,aqn (ass _ _) (aqn (ata cd) (by decide)),_,rfl,?_⟩)))
  rw [if_pos rfl,show aqi (.list (uss.map qR)) (.list (uss.map qR))=true from asY _ cl,aqt,if_neg apQ]
  refine adO (aeI (aoz (i:=8) (j:=9) rfl (by decide) (fun n r hr=>?_) ?_))
  ·refine abm (jR (yP (amU kL (zv rfl ⟨_,rfl,true,rfl,?_⟩))))
   rw [aqt,if_neg apQ]
   have lr:=g.row r (apZ hr)
   refine yP (amW (PEdO.ped (jm (A:=PyData.int) (B:=fun _=>PyData.bool false) r (yB (zv rfl ⟨_,rfl,rfl,by omega,?_,?_⟩)))))
   ·rintro D h ρ' es hh ho hes
    obtain⟨u,rfl⟩:=ho.one
    refine zu (yE ?_)
    rw [if_pos rfl]
    exact yi hes (ao7 kB (zv rfl ⟨_,rfl,⟨[_],rfl,rfl⟩,rfl⟩))
   ·refine⟨r.map fun _=>false,by rw [aqv];rfl,_,rfl,?_⟩
    rw [atO]
    intro b hb
    obtain⟨_,_,rfl⟩:=aqd.mp hb
    exact apQ
  refine aeI (api (i:=8) rfl (yg ⟨0,rfl,r0,by rw [er];rfl,by omega,yg ⟨0,rfl,?_⟩⟩))
  have us0:rows.set 0 (r0++[0])=(r0++[0]) :: rs0:=by rw [er];rfl
  rw [us0]
  have usl:=ahz rs0
  have usd:=(vk rs0).2
  refine aeI (aom (i:=8) rfl (yw (jw (ajs (zv rfl ⟨_,rfl,ajr (yg ⟨1,rfl,ajq (ajs (zv rfl ⟨_,rfl,ajr (yg ⟨1,rfl,ajq ?_⟩)⟩))⟩)⟩)))))
  have c2:L2.cutD (rows.map fun r=>PyData.list (r.map .int)) (some 1) none=rs0.map fun r=>PyData.list (r.map .int):=by rw [er,aqf,afk]
  rw [aqf,afk,c2]
  refine⟨usl,usl,aqn (ass _ _) (aqn (ata usd) (by decide)),_,rfl,?_⟩
  rw [if_pos rfl,show aqi (.list (rs0.map fun r=>.list (r.map .int))) (.list (rs0.map fun r=>.list (r.map .int)))=true from asY _ usl,if_neg (by decide)]
  refine adO (aeI (apj (i:=8) rfl (by simp) ?_))
  refine aph (yw (jw (aj6 (rows,wd,low,uss) (args rfl rfl rfl ⟨rfl,⟨rfl,g,C⟩,?_,fun _ z=>z.elim,fun _ _ z=>z⟩))))
  intro rs1 e1
  obtain rfl:rows=rs1:=Eq.symm e1
  refine zv rfl ⟨tl0,tl0,aqn (ass _ _) (aqn dp0 (by decide)),_,rfl,?_⟩
  rw [if_pos rfl,show aqi (aaA rows) (tab rows)=true from asY _ tl0,if_neg (by decide)]
  exact adO (.inl ⟨_,_,_,_,_,_,_,_,_,rfl⟩)
 ·rintro _ ⟨x1,x2,x3,x4,x5,x6,x7,x8,x9,rfl⟩
  exact yu (ado rfl)
end
theorem _root_.L2.FnIn.m {P w K mg base j k x ps sp} (h:FnIn P w K mg base j x ps sp) (hk:j<=k:=by decide):FnIn P w K mg base k x ps sp:=h.mono hk
theorem xf1 {K:auf} {h:Heap} {mg:Str->Option Value} {x:Str} {st:Stmt} {f:Addr} {od an:Option Addr} {sl:Array (Option Value)} {oc kV dc pm cd ct:Value} (X:K.In h) (G:h.Ns mainGlobals mg) (a:FD K x st f od an sl oc kV dc pm cd ct) {p0:Str} (hb:∀ (kV doc pm:Value) (an:Option Addr) (cdv ct:Value) (u0:Value),bindArgs (arp x x (y6 st) (yy st) (zr st) .none kV doc pm an cdv ct) ⟨[u0],[]⟩=pure ([p0].zip [u0])):Def K mg x st [p0]:=al0 X G a (fun _ _ _ _ _ _ us hl=>match us,hl with | [u0],_=>hb _ _ _ _ _ _ u0)
theorem xf2 {K:auf} {h:Heap} {mg:Str->Option Value} {x:Str} {st:Stmt} {f:Addr} {od an:Option Addr} {sl:Array (Option Value)} {oc kV dc pm cd ct:Value} (X:K.In h) (G:h.Ns mainGlobals mg) (a:FD K x st f od an sl oc kV dc pm cd ct) {p0 p1:Str} (hb:∀ (kV doc pm:Value) (an:Option Addr) (cdv ct:Value) (u0 u1:Value),bindArgs (arp x x (y6 st) (yy st) (zr st) .none kV doc pm an cdv ct) ⟨[u0,u1],[]⟩=pure ([p0,p1].zip [u0,u1])):Def K mg x st [p0,p1]:=al0 X G a (fun _ _ _ _ _ _ us hl=>match us,hl with | [u0,u1],_=>hb _ _ _ _ _ _ u0 u1)
theorem xf3 {K:auf} {h:Heap} {mg:Str->Option Value} {x:Str} {st:Stmt} {f:Addr} {od an:Option Addr} {sl:Array (Option Value)} {oc kV dc pm cd ct:Value} (X:K.In h) (G:h.Ns mainGlobals mg) (a:FD K x st f od an sl oc kV dc pm cd ct) {p0 p1 p2:Str} (hb:∀ (kV doc pm:Value) (an:Option Addr) (cdv ct:Value) (u0 u1 u2:Value),bindArgs (arp x x (y6 st) (yy st) (zr st) .none kV doc pm an cdv ct) ⟨[u0,u1,u2],[]⟩=pure ([p0,p1,p2].zip [u0,u1,u2])):Def K mg x st [p0,p1,p2]:=al0 X G a (fun _ _ _ _ _ _ us hl=>match us,hl with | [u0,u1,u2],_=>hb _ _ _ _ _ _ u0 u1 u2)
theorem xf4 {K:auf} {h:Heap} {mg:Str->Option Value} {x:Str} {st:Stmt} {f:Addr} {od an:Option Addr} {sl:Array (Option Value)} {oc kV dc pm cd ct:Value} (X:K.In h) (G:h.Ns mainGlobals mg) (a:FD K x st f od an sl oc kV dc pm cd ct) {p0 p1 p2 p3:Str} (hb:∀ (kV doc pm:Value) (an:Option Addr) (cdv ct:Value) (u0 u1 u2 u3:Value),bindArgs (arp x x (y6 st) (yy st) (zr st) .none kV doc pm an cdv ct) ⟨[u0,u1,u2,u3],[]⟩=pure ([p0,p1,p2,p3].zip [u0,u1,u2,u3])):Def K mg x st [p0,p1,p2,p3]:=al0 X G a (fun _ _ _ _ _ _ us hl=>match us,hl with | [u0,u1,u2,u3],_=>hb _ _ _ _ _ _ u0 u1 u2 u3)
set_option autoImplicit true in
set_option relaxedAutoImplicit true in
theorem all_mk {l:PySem.W.OpenLaw} {w:World} {K:apT} {h:Heap} {mg:Str->Option Value} {fa:Addr} (X:K.In h) (G:h.Ns mainGlobals mg) (hfa:mg "law"=some (.ref fa))
  (a1:FD K "size" adS f1 od1 an1 sl1 oc1 kV1 dc1 pm1 cd1 ct1)
  (a2:FD K "points" aac f2 od2 an2 sl2 oc2 kV2 dc2 pm2 cd2 ct2)
  (a3:FD K "has_point" jU f3 od3 an3 sl3 oc3 kV3 dc3 pm3 cd3 ct3)
  (a4:FD K "has_cell" qE f4 od4 an4 sl4 oc4 kV4 dc4 pm4 cd4 ct4)
  (a5:FD K "corners" vt f5 od5 an5 sl5 oc5 kV5 dc5 pm5 cd5 ct5)
  (a6:FD K "ask_table" jV f6 od6 an6 sl6 oc6 kV6 dc6 pm6 cd6 ct6)
  (a7:FD K "fits" adT f7 od7 an7 sl7 oc7 kV7 dc7 pm7 cd7 ct7)
  (a8:FD K "is_row" aad f8 od8 an8 sl8 oc8 kV8 dc8 pm8 cd8 ct8)
  (a9:FD K "gates" aa9 f9 od9 an9 sl9 oc9 kV9 dc9 pm9 cd9 ct9)
  (a10:FD K "stands_high" jc f10 od10 an10 sl10 oc10 kV10 dc10 pm10 cd10 ct10)
  (a11:FD K "gate_points" je f11 od11 an11 sl11 oc11 kV11 dc11 pm11 cd11 ct11)
  (a12:FD K "has_gate" qG f12 od12 an12 sl12 oc12 kV12 dc12 pm12 cd12 ct12)
  (a13:FD K "is_open" vw f13 od13 an13 sl13 oc13 kV13 dc13 pm13 cd13 ct13)
  (a14:FD K "cell_gates" jA f14 od14 an14 sl14 oc14 kV14 dc14 pm14 cd14 ct14)
  (a15:FD K "is_crossed" jB f15 od15 an15 sl15 oc15 kV15 dc15 pm15 cd15 ct15)
  (a16:FD K "has_high_middle" yL f16 od16 an16 sl16 oc16 kV16 dc16 pm16 cd16 ct16)
  (a17:FD K "cell_ties" jW f17 od17 an17 sl17 oc17 kV17 dc17 pm17 cd17 ct17)
  (a18:FD K "crossed_ties" y8 f18 od18 an18 sl18 oc18 kV18 dc18 pm18 cd18 ct18)
  (a19:FD K "heading" vy f19 od19 an19 sl19 oc19 kV19 dc19 pm19 cd19 ct19)
  (a20:FD K "cell_ahead" jC f20 od20 an20 sl20 oc20 kV20 dc20 pm20 cd20 ct20)
  (a21:FD K "comes_in" qH f21 od21 an21 sl21 oc21 kV21 dc21 pm21 cd21 ct21)
  (a22:FD K "gate_ahead" jD f22 od22 an22 sl22 oc22 kV22 dc22 pm22 cd22 ct22)
  (a23:FD K "first_wrong" jf f23 od23 an23 sl23 oc23 kV23 dc23 pm23 cd23 ct23)
  (a24:FD K "shares_gate" jh f24 od24 an24 sl24 oc24 kV24 dc24 pm24 cd24 ct24)
  (a25:FD K "is_line" vz f25 od25 an25 sl25 oc25 kV25 dc25 pm25 cd25 ct25)
  (a26:FD K "all_open" qI f26 od26 an26 sl26 oc26 kV26 dc26 pm26 cd26 ct26)
  (a27:FD K "goes_on" vA f27 od27 an27 sl27 oc27 kV27 dc27 pm27 cd27 ct27)
  (a28:FD K "is_closed" jX f28 od28 an28 sl28 oc28 kV28 dc28 pm28 cd28 ct28)
  (a29:FD K "is_from_edge_to_edge" ym f29 od29 an29 sl29 oc29 kV29 dc29 pm29 cd29 ct29)
  (a30:FD K "told_back" jY f30 od30 an30 sl30 oc30 kV30 dc30 pm30 cd30 ct30)
  (a31:FD K "is_size" vB f31 od31 an31 sl31 oc31 kV31 dc31 pm31 cd31 ct31)
  (a32:FD K "high_points" ji f32 od32 an32 sl32 oc32 kV32 dc32 pm32 cd32 ct32)
  (a33:FD K "unlike_points" yW f33 od33 an33 sl33 oc33 kV33 dc33 pm33 cd33 ct33)
  (a34:FD K "gates_on_the_way" yH f34 od34 an34 sl34 oc34 kV34 dc34 pm34 cd34 ct34)
  (a35:FD K "lines" aba f35 od35 an35 sl35 oc35 kV35 dc35 pm35 cd35 ct35)
  (a36:FD K "line_from" jZ f36 od36 an36 sl36 oc36 kV36 dc36 pm36 cd36 ct36)
  (a37:FD K "_law_feed" qK f37 od37 an37 sl37 oc37 kV37 dc37 pm37 cd37 ct37)
  (a38:FD K "_law_draw" qL f38 od38 an38 sl38 oc38 kV38 dc38 pm38 cd38 ct38)
  (a39:FD K "_law_table" j7 f39 od39 an39 sl39 oc39 kV39 dc39 pm39 cd39 ct39)
  (a40:FD K "_law_order" j8 f40 od40 an40 sl40 oc40 kV40 dc40 pm40 cd40 ct40)
  (a41:FD K "law" aaQ f41 od41 an41 sl41 oc41 kV41 dc41 pm41 cd41 ct41)
  {ubA:Tok} (uaP:aqC K mainGlobals "FEWEST"=some (some (.int (2) ubA)))
  {ubB:Tok} (uaQ:aqC K mainGlobals "MOST"=some (some (.int (7) ubB)))
  {ubC:Tok} (uaR:aqC K mainGlobals "LEAST"=some (some (.int (-1000000000) ubC)))
  {ubD:Tok} (uaS:aqC K mainGlobals "GREATEST"=some (some (.int (1000000000) ubD)))
  (uaT:aqC K mainGlobals "len"=some none)
  (uaU:aqC K mainGlobals "min"=some none)
  (uaV:aqC K mainGlobals "max"=some none)
  (uaW:aqC K mainGlobals "enumerate"=some none)
  (uaX:aqC K mainGlobals "range"=some none)
  (uaY:aqC K mainGlobals "sorted"=some none)
  (uaZ:aqC K mainGlobals "set"=some none)
  (ua0:aqC K mainGlobals "all"=some none)
  (ua1:aqC K mainGlobals "sum"=some none)
  (ua2:aqC K mainGlobals "tuple"=some none)
  (ua3:aqC K mainGlobals "abs"=some none)
  (ua4:aqC K mainGlobals "zip"=some none)
  (ua5:aqC K mainGlobals "any"=some none)
  (ua6:aqC K mainGlobals "list"=some none)
  (ua7:aqC K mainGlobals "isinstance"=some none)
  (ua8:aqC K mainGlobals "bool"=some none)
  {uav:Addr} (ua9:aqC K mainGlobals "AHEAD"=some (some (.ref uav)))
  {uax:Addr} (uba:aqC K mainGlobals "BEHIND"=some (some (.ref uax)))
  (uaw:ah5 K uav aoI=true)
  (uay:ah5 K uax akL=true)
  (kB:ary K (.type "int") (.type "bool")=some false)
  (kL:ary K (.type "list") (.type "list")=some true) :
  ∃ fd:FuncData,(∀ (s:Shared) (v:Value),BindsTo s fd ⟨[v],[]⟩ [("_law_script",v)])/\∀ base:Heap,K.In base->base.Ns mainGlobals mg->FnOk l.prog w K mg base CX0 12 fa fd pV (ahr K):=by
 have ubE:Def K mg "size" adS pq:=xf1 X G a1 (fun _ _ _ _ _ _ _=>rfl)
 have ubF:Def K mg "points" aac pq:=xf1 X G a2 (fun _ _ _ _ _ _ _=>rfl)
 have ubG:Def K mg "has_point" jU pz:=xf3 X G a3 (fun _ _ _ _ _ _ _ _ _=>rfl)
 have ubH:Def K mg "has_cell" qE pz:=xf3 X G a4 (fun _ _ _ _ _ _ _ _ _=>rfl)
 have ubI:Def K mg "corners" vt pH:=xf2 X G a5 (fun _ _ _ _ _ _ _ _=>rfl)
 have ubJ:Def K mg "ask_table" jV pq:=xf1 X G a6 (fun _ _ _ _ _ _ _=>rfl)
 have ubK:Def K mg "fits" adT pE:=xf1 X G a7 (fun _ _ _ _ _ _ _=>rfl)
 have ubL:Def K mg "is_row" aad ["row"]:=xf1 X G a8 (fun _ _ _ _ _ _ _=>rfl)
 have ubM:Def K mg "gates" aa9 pA:=xf2 X G a9 (fun _ _ _ _ _ _ _ _=>rfl)
 have ubN:Def K mg "stands_high" jc pF:=xf3 X G a10 (fun _ _ _ _ _ _ _ _ _=>rfl)
 have ubO:Def K mg "gate_points" je ["gate"]:=xf1 X G a11 (fun _ _ _ _ _ _ _=>rfl)
 have ubP:Def K mg "has_gate" qG pI:=xf2 X G a12 (fun _ _ _ _ _ _ _ _=>rfl)
 have ubQ:Def K mg "is_open" vw pf:=xf3 X G a13 (fun _ _ _ _ _ _ _ _ _=>rfl)
 have ubR:Def K mg "cell_gates" jA pC:=xf1 X G a14 (fun _ _ _ _ _ _ _=>rfl)
 have ubS:Def K mg "is_crossed" jB pj:=xf3 X G a15 (fun _ _ _ _ _ _ _ _ _=>rfl)
 have ubT:Def K mg "has_high_middle" yL pj:=xf3 X G a16 (fun _ _ _ _ _ _ _ _ _=>rfl)
 have ubU:Def K mg "cell_ties" jW pj:=xf3 X G a17 (fun _ _ _ _ _ _ _ _ _=>rfl)
 have ubV:Def K mg "crossed_ties" y8 pj:=xf3 X G a18 (fun _ _ _ _ _ _ _ _ _=>rfl)
 have ubW:Def K mg "heading" vy pf:=xf3 X G a19 (fun _ _ _ _ _ _ _ _ _=>rfl)
 have ubX:Def K mg "cell_ahead" jC pf:=xf3 X G a20 (fun _ _ _ _ _ _ _ _ _=>rfl)
 have ubY:Def K mg "comes_in" qH pf:=xf3 X G a21 (fun _ _ _ _ _ _ _ _ _=>rfl)
 have ubZ:Def K mg "gate_ahead" jD pf:=xf3 X G a22 (fun _ _ _ _ _ _ _ _ _=>rfl)
 have ub0:Def K mg "first_wrong" jf pM:=xf3 X G a23 (fun _ _ _ _ _ _ _ _ _=>rfl)
 have ub1:Def K mg "shares_gate" jh pJ:=xf2 X G a24 (fun _ _ _ _ _ _ _ _=>rfl)
 have ub2:Def K mg "is_line" vz pN:=xf3 X G a25 (fun _ _ _ _ _ _ _ _ _=>rfl)
 have ub3:Def K mg "all_open" qI ph:=xf3 X G a26 (fun _ _ _ _ _ _ _ _ _=>rfl)
 have ub4:Def K mg "goes_on" vA ph:=xf3 X G a27 (fun _ _ _ _ _ _ _ _ _=>rfl)
 have ub5:Def K mg "is_closed" jX ph:=xf3 X G a28 (fun _ _ _ _ _ _ _ _ _=>rfl)
 have ub6:Def K mg "is_from_edge_to_edge" ym ph:=xf3 X G a29 (fun _ _ _ _ _ _ _ _ _=>rfl)
 have ub7:Def K mg "told_back" jY pO:=xf4 X G a30 (fun _ _ _ _ _ _ _ _ _ _=>rfl)
 have ub8:Def K mg "is_size" vB pK:=xf2 X G a31 (fun _ _ _ _ _ _ _ _=>rfl)
 have ub9:Def K mg "high_points" ji pB:=xf3 X G a32 (fun _ _ _ _ _ _ _ _ _=>rfl)
 have uca:Def K mg "unlike_points" yW pB:=xf3 X G a33 (fun _ _ _ _ _ _ _ _ _=>rfl)
 have ucb:Def K mg "gates_on_the_way" yH pG:=xf3 X G a34 (fun _ _ _ _ _ _ _ _ _=>rfl)
 have ucc:Def K mg "lines" aba pA:=xf2 X G a35 (fun _ _ _ _ _ _ _ _=>rfl)
 have ucd:Def K mg "line_from" jZ pP:=xf3 X G a36 (fun _ _ _ _ _ _ _ _ _=>rfl)
 have uce:Def K mg "_law_feed" qK pQ:=xf2 X G a37 (fun _ _ _ _ _ _ _ _=>rfl)
 have ucf:Def K mg "_law_draw" qL pL:=xf2 X G a38 (fun _ _ _ _ _ _ _ _=>rfl)
 have ucg:Def K mg "_law_table" j7 pR:=xf1 X G a39 (fun _ _ _ _ _ _ _=>rfl)
 have uch:Def K mg "_law_order" j8 pU:=xf2 X G a40 (fun _ _ _ _ _ _ _ _=>rfl)
 have uci:Def K mg "law" aaQ pV:=xf1 X G a41 (fun _ _ _ _ _ _ _=>rfl)
 have uac:=arU X G uaP
 have uad:=arU X G uaQ
 have uaf:=arU X G uaR
 have uag:=arU X G uaS
 have uaa:=aqw X G uaT
 have uae:=aqw X G uaU
 have ual:=aqw X G uaV
 have uah:=aqw X G uaW
 have uab:=aqw X G uaX
 have uaq:=aqw X G uaY
 have uai:=aqw X G uaZ
 have uaj:=aqw X G ua0
 have uas:=aqw X G ua1
 have uaJ:=aqw X G ua2
 have uaM:=aqw X G ua3
 have uaN:=aqw X G ua4
 have uat:=aqw X G ua5
 have uan:=aqw X G ua6
 have uaz:=aqw X G ua7
 have uaO:=aqw X G ua8
 have uaE:=arU X G ua9
 have uaG:=arU X G uba
 have e:=hfa.symm.trans (arU X G a41.1)
 cases e
 have F0:=afw (st:=aaQ) a41.2.1 a41.2.2.1 a41.2.2.2
 refine⟨arp "law" "law" (y6 aaQ) (yy aaQ) (zr aaQ) .none kV41 dc41 pm41 an41 cd41 ct41,fun s v=>.of_eq rfl,fun base _ _=>?_⟩
 have H0:=amx (P:=l.prog) (w:=w) (base:=base) (k:=0) uce uaa uaM
 have H1:=amd (P:=l.prog) (w:=w) (base:=base) (k:=0) ucf
 have H2:=amc (P:=l.prog) (w:=w) (base:=base) (k:=0) ubK uaa ⟨_,uac⟩ ⟨_,uad⟩
 have H3:=amb (P:=l.prog) (w:=w) (base:=base) (k:=0) ubE uaa
 have H4:=aoF (P:=l.prog) (w:=w) (base:=base) (k:=0) ubO
 have H5:=ame (P:=l.prog) (w:=w) (base:=base) (k:=0) ubN
 have H6:=aiA (P:=l.prog) (w:=w) (base:=base) (k:=0) ubR
 have H7:=agf (P:=l.prog) (w:=w) (base:=base) (k:=0) ubI
 have H8:=aiM (P:=l.prog) (w:=w) (base:=base) (k:=0) ub8 ⟨_,uac⟩ ⟨_,uad⟩
 have H9:=aoR (P:=l.prog) (w:=w) (base:=base) (k:=0) ucb uaa uab
 have H10:=aiJ (P:=l.prog) (w:=w) (base:=base) (k:=0) ub1 uat
 have H11:=akA (k:=1) ucg uab uaq uai H1.m
 have H12:=aix (k:=1) ubL uae ual ⟨_,uaf⟩ ⟨_,uag⟩ H2.m
 have H13:=aiy (k:=1) ubF uab H3.m
 have H14:=aoE (k:=1) ubG H3.m
 have H15:=agi (k:=1) ubW H5.m
 have H16:=aoH (k:=1) ubT uas H7.m
 have H17:=ak5 (k:=1) uch uaa uan H1.m
 have H18:=apA (k:=1) uca uab H9.m
 have H19:=aoD (k:=2) ubJ uaa uah H2.m H12.m
 have H20:=amf (k:=2) ubP uaj H14.m H4.m
 have H21:=amk (k:=2) ubH H14.m
 have H22:=aiC (k:=2) ubX uaE uaw H15.m
 have H23:=aiB (k:=2) ubV H6.m H5.m H16.m
 have H24:=amg (k:=3) ubQ H20.m H4.m H5.m
 have H25:=akM (k:=3) ubY uaG uay H15.m H21.m
 have H26:=akG (k:=4) ubM H19.m H13.m H24.m
 have H27:=agg (k:=4) ubS uaj H24.m H6.m
 have H28:=ak6 (k:=4) ub9 uaa H18.m H24.m H6.m H22.m
 have H29:=agq (k:=4) ub3 H24.m
 have H30:=akJ (k:=5) ubU H27.m H23.m H6.m H24.m
 have H31:=amq (k:=6) ubZ H22.m H21.m H30.m
 have H32:=amu (k:=7) ucd uaJ H31.m
 have H33:=aiG (k:=7) ub4 uaj uaN H31.m
 have H34:=aiH (k:=7) ub5 uae H31.m
 have H35:=akX (k:=7) ub6 H25.m H31.m
 have H36:=akU (k:=8) ucc uai uaq H19.m H26.m H25.m H32.m
 have H37:=amz (k:=8) ub2 uaa uai H29.m H33.m H34.m H35.m
 have H38:=apu (k:=9) ub0 uaa uah H19.m H37.m H10.m H26.m
 have H39:=amK (k:=10) ub7 uaa uab uas uah ⟨_,uaf⟩ ⟨_,uag⟩ H8.m H28.m H38.m
 exact aoS (k:=11) F0 uaa uab ual uae uan uat uaz uaO kB kL H0.m H11.m H36.m H17.m H39.m
theorem walk {l:PySem.W.OpenLaw} {q:Program} {loose:List Str} {XP:(Str->Option Value)->Heap->Prop} {YP:World->Heap->Prop} {d:DefRec} {K:Params->apT} (hn:l.most=some 63) (hdf:d.params.defaults=[])
  (hY:∀ (w:World) (h:Heap),YP w h->(K w.params).In h)
  (F:∀ (w:World) (mg:Str->Option Value) (fa:Addr) (h:Heap),(K w.params).In h->h.Ns mainGlobals mg->mg d.name=some (.ref fa) ->
   ∃ fd:FuncData,(∀ (s:Shared) (u:Value),BindsTo s fd ⟨[u],[]⟩ [("_law_script",u)])/\∀ base:Heap,(K w.params).In base->base.Ns mainGlobals mg->FnOk l.prog w (K w.params) mg base CX0 12 fa fd pV (ahr (K w.params))) :
  PySem.W.WalkO q loose XP YP l.row.toRowW d [] (fun f vs=>PySem.call f vs) :=
 L2.walk_of (n:=63) (k:=12) (x:="_law_script") (CX:=fun _=>CX0) (sp:=fun w=>ahr (K w.params)) hn (by decide) hdf ⟨rfl,by decide,by decide⟩ hY F (fun _ _ a ns hl _ hS=>⟨a,ns,rfl,hS,hl,fun _=>rfl⟩) fun _ _ _ _ _ z=>z
end My
def PySem.W.Fast.tw10226206489941010314:Nat:=0
def PySem.W.Fast.tw10356981031047191670:Nat:=0
def PySem.W.Fast.tw10416384865003854171:Nat:=0
def PySem.W.Fast.tw1047654961432986550:Nat:=0
def PySem.W.Fast.tw10524031306532241106:Nat:=0
def PySem.W.Fast.tw10630948363232820319:Nat:=0
def PySem.W.Fast.tw10736045972216593555:Nat:=0
def PySem.W.Fast.tw10833130349371153046:Nat:=0
def PySem.W.Fast.tw11388177762670758686:Nat:=0
def PySem.W.Fast.tw12081446792688890549:Nat:=0
def PySem.W.Fast.tw12296360235487756594:Nat:=0
def PySem.W.Fast.tw12954261574284672286:Nat:=0
def PySem.W.Fast.tw13311359846141974282:Nat:=0
def PySem.W.Fast.tw13379528385381181508:Nat:=0
def PySem.W.Fast.tw14144910615317494340:Nat:=0
def PySem.W.Fast.tw14207072690334703780:Nat:=0
def PySem.W.Fast.tw14247345044545793862:Nat:=0
def PySem.W.Fast.tw15797530900887498610:Nat:=0
def PySem.W.Fast.tw15905069457993853907:Nat:=0
def PySem.W.Fast.tw16267262602780036767:Nat:=0
def PySem.W.Fast.tw16554528080604536291:Nat:=0
def PySem.W.Fast.tw16946526672333272625:Nat:=0
def PySem.W.Fast.tw17337120169107291268:Nat:=0
def PySem.W.Fast.tw1792560311585739517:Nat:=0
def PySem.W.Fast.tw3221598526008836088:Nat:=0
def PySem.W.Fast.tw34974501407354846:Nat:=0
def PySem.W.Fast.tw3917589175601833235:Nat:=0
def PySem.W.Fast.tw5671282968986495674:Nat:=0
def PySem.W.Fast.tw7613400386254768588:Nat:=0
def PySem.W.Fast.tw8521632453221726735:Nat:=0
def PySem.W.Fast.tw8572809390383921505:Nat:=0
def PySem.W.Fast.tw8625952126266785989:Nat:=0
def PySem.W.Fast.tw9380904300209903480:Nat:=0
def PySem.W.Fast.tw9922911677650908093:Nat:=0
open PySem PySem.W PyProof.Rows
set_option maxRecDepth 100000 in
set_option maxHeartbeats 0 in
theorem PySem.Challenge.cw_heightrings_k70_told_back_holds : PySem.Challenge.rw_heightrings_k70_told_back.Holds := by
 w_on;o_law;k_head;(case hw=>w_witness2)
 k_fill
 refine My.walk (l:=PySem.Challenge.rw_heightrings_k70_told_back) rfl rfl (fun w h Y=>by first | exact PySem.W.kIn_of Y | exact PySem.W.km_in_of Y) ?F
 case F =>
  intro w mg fa h KX G hmg
  refine' My.all_mk KX G hmg ?a1 ?a2 ?a3 ?a4 ?a5 ?a6 ?a7 ?a8 ?a9 ?a10 ?a11 ?a12 ?a13 ?a14 ?a15 ?a16 ?a17 ?a18 ?a19 ?a20 ?a21 ?a22 ?a23 ?a24 ?a25 ?a26 ?a27 ?a28 ?a29 ?a30 ?a31 ?a32 ?a33 ?a34 ?a35 ?a36 ?a37 ?a38 ?a39 ?a40 ?a41 ?uaP ?uaQ ?uaR ?uaS ?uaT ?uaU ?uaV ?uaW ?uaX ?uaY ?uaZ ?ua0 ?ua1 ?ua2 ?ua3 ?ua4 ?ua5 ?ua6 ?ua7 ?ua8 ?ua9 ?uba ?uaw ?uay ?kB ?kL
  (case a1=>refine⟨?_,?_,?_,?_⟩ <;> k_is)
  (case a2=>refine⟨?_,?_,?_,?_⟩ <;> k_is)
  (case a3=>refine⟨?_,?_,?_,?_⟩ <;> k_is)
  (case a4=>refine⟨?_,?_,?_,?_⟩ <;> k_is)
  (case a5=>refine⟨?_,?_,?_,?_⟩ <;> k_is)
  (case a6=>refine⟨?_,?_,?_,?_⟩ <;> k_is)
  (case a7=>refine⟨?_,?_,?_,?_⟩ <;> k_is)
  (case a8=>refine⟨?_,?_,?_,?_⟩ <;> k_is)
  (case a9=>refine⟨?_,?_,?_,?_⟩ <;> k_is)
  (case a10=>refine⟨?_,?_,?_,?_⟩ <;> k_is)
  (case a11=>refine⟨?_,?_,?_,?_⟩ <;> k_is)
  (case a12=>refine⟨?_,?_,?_,?_⟩ <;> k_is)
  (case a13=>refine⟨?_,?_,?_,?_⟩ <;> k_is)
  (case a14=>refine⟨?_,?_,?_,?_⟩ <;> k_is)
  (case a15=>refine⟨?_,?_,?_,?_⟩ <;> k_is)
  (case a16=>refine⟨?_,?_,?_,?_⟩ <;> k_is)
  (case a17=>refine⟨?_,?_,?_,?_⟩ <;> k_is)
  (case a18=>refine⟨?_,?_,?_,?_⟩ <;> k_is)
  (case a19=>refine⟨?_,?_,?_,?_⟩ <;> k_is)
  (case a20=>refine⟨?_,?_,?_,?_⟩ <;> k_is)
  (case a21=>refine⟨?_,?_,?_,?_⟩ <;> k_is)
  (case a22=>refine⟨?_,?_,?_,?_⟩ <;> k_is)
  (case a23=>refine⟨?_,?_,?_,?_⟩ <;> k_is)
  (case a24=>refine⟨?_,?_,?_,?_⟩ <;> k_is)
  (case a25=>refine⟨?_,?_,?_,?_⟩ <;> k_is)
  (case a26=>refine⟨?_,?_,?_,?_⟩ <;> k_is)
  (case a27=>refine⟨?_,?_,?_,?_⟩ <;> k_is)
  (case a28=>refine⟨?_,?_,?_,?_⟩ <;> k_is)
  (case a29=>refine⟨?_,?_,?_,?_⟩ <;> k_is)
  (case a30=>refine⟨?_,?_,?_,?_⟩ <;> k_is)
  (case a31=>refine⟨?_,?_,?_,?_⟩ <;> k_is)
  (case a32=>refine⟨?_,?_,?_,?_⟩ <;> k_is)
  (case a33=>refine⟨?_,?_,?_,?_⟩ <;> k_is)
  (case a34=>refine⟨?_,?_,?_,?_⟩ <;> k_is)
  (case a35=>refine⟨?_,?_,?_,?_⟩ <;> k_is)
  (case a36=>refine⟨?_,?_,?_,?_⟩ <;> k_is)
  (case a37=>refine⟨?_,?_,?_,?_⟩ <;> k_is)
  (case a38=>refine⟨?_,?_,?_,?_⟩ <;> k_is)
  (case a39=>refine⟨?_,?_,?_,?_⟩ <;> k_is)
  (case a40=>refine⟨?_,?_,?_,?_⟩ <;> k_is)
  (case a41=>refine⟨?_,?_,?_,?_⟩ <;> k_is)
  (case uaP=>k_is)
  (case uaQ=>k_is)
  (case uaR=>k_is)
  (case uaS=>k_is)
  (case uaT=>k_is)
  (case uaU=>k_is)
  (case uaV=>k_is)
  (case uaW=>k_is)
  (case uaX=>k_is)
  (case uaY=>k_is)
  (case uaZ=>k_is)
  (case ua0=>k_is)
  (case ua1=>k_is)
  (case ua2=>k_is)
  (case ua3=>k_is)
  (case ua4=>k_is)
  (case ua5=>k_is)
  (case ua6=>k_is)
  (case ua7=>k_is)
  (case ua8=>k_is)
  (case ua9=>k_is)
  (case uba=>k_is)
  (case uaw=>kernel_rfl)
  (case uay=>kernel_rfl)
  (case kB=>kernel_rfl)
  (case kL=>kernel_rfl)
end
