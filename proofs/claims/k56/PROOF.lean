import PyProof.Rows.All
import Wide.All
import OpenK.AllK
import Wide.FinOn
import Lean
import PyProof.EqAt
import PyProof.EqKinds
import PyProof.TupleCall
import KE.KTryMore
import PyProof.ExcArgs
import PyProof.ConsumeWalk
import PyProof.P3Eq
import KE.KRevIter
import PyProof.ListRange
import PyProof.Rows.SumAny
import KE.KSortTup
import PyProof.SetScanFacts
import PyProof.TupleKey
import PyProof.DictRoadsH
import PyProof.SetRoads
import KE.KTabLook
import PyProof.Rows.ListMul
import PyProof.InstStoreFacts
import PyProof.Rows.SetFrom
import PyProof.AutoListH
import PyProof.StrCalls2
import PyProof.MeetsSeq
import PyProof.DictCompW
import KE.KSortKey
import PyProof.SliceStr2
import PyProof.StrWalks
import PyProof.StrOps2
import PyProof.StrLawsIdx
import PyProof.StrLawsTight
import PyProof.StrLawsChain
import PyProof.Rows.StrSplitCount
import KE.KIntText
import PyProof.MaxThree
import PySem.Challenge.RW_heightrings_k56_whole_great_maps
open List renaming getElem?_eq_getElem → ED,getD_eq_getElem?_getD → EE,length_map → EF,getElem?_eq_some_iff → EH,mem_of_getElem? → EK,mem_cons_of_mem → EM,getElem?_map → EO,getElem?_append_left → ER,mem_cons_self → ET,mem_cons → EW,getElem?_append_right → EX,length_append → EY,length_cons → E1,size_toArray → E3,mem_map → E6,range → E7,mem_append_right → E8,map_append → E9,mem_singleton → Fc,mem_range → Fe,getElem_mem → Ff,map_cons → Fg,mem_append → Fj,getElem?_eq_none → Fl,length_take → Fo,take_length → Fq,mem_flatMap → Fs,getElem?_of_mem → Fy,mem_append_left → FE,length_range → FH,length_singleton → FJ,lookup_cons → FK,reverse_cons → FL,take_add_one → FN,head?_eq_getElem? → FO,mem_filter → FR,append_nil → FT,filter_cons → FY,toArray → Ga,pairwise_iff_getElem → Gb,getElem?_range → Gd,flatMap_append → Ge,append_assoc → Gf,length_filter_le → Gh,nodup_cons → Gk,pairwise_cons → Gp,filter_append → Gq,getElem?_set_self → Gs,pairwise_map → Gw,getElem_of_mem → Gz,getLast?_eq_getElem? → GB,all_eq_true → GD,not_mem_nil → GF,map_map → GG,mem_reverse → GW,take_append_drop → GX,length_nil → G0,getElem?_set_ne → G1,nodup_append → G3,getElem?_take_of_lt → G4,map_congr_left → G7,replicate → Ha,getElem?_replicate → Hb,nodup_nil → Hc,mem_filterMap → Hd,zip_cons_cons → Hk,length_set → Hm,pairwise_append → Hu,getElem_inj → Hw,length_drop → Hz,drop_eq_getElem_cons → HF,filterMap_cons → HK,length_pos_iff → HL,reverse_append → HM,findSome?_cons → HP,map → HU,forIn_cons → HW,find?_eq_none → HY,getElem?_cons_succ → Ic,map_nil → Ie,forIn_nil → Ih,take_of_length_le → Ii,ext_getElem? → Ij,flatMap_cons → Ip,take_succ → Iq,mem_of_head? → Ir,length_replicate → Iw,pairwise_flatMap → IA,map_flatMap → IC,eq_nil_of_length_eq_zero → ID,find?_eq_some_iff_append → IE,take_append_of_le_length → IF,mem_erase_of_ne → IH,find?_cons → IK,range_succ → IM,sum_append → IP,length_reverse → IQ,getElem?_drop → IW,take_zero → IX,any_cons → Jj,map_drop → Jo,length_erase_of_mem → Jp,nodup_range → Jt,drop_eq_nil_of_le → JA,pairwise_lt_range → JC,length_pos_of_mem → JF,of_mem_zip → JJ,filter_nil → JM,getElem?_mapIdx → JT,reverse_reverse → JW,mem_of_getLast? → J0,mem_of_mem_drop → J2,filter_flatMap → J9,flatten_append → Ka,all_cons → Kb,map_take → Kd
open Bool renaming false_ne_true → EG,and_eq_true → EV,false_eq_true → Fz,not_true → FX,false_and → Gu,and_false → Gv,true_and → G5,not_false → Ht,and_true → Ke
open PySem.W renaming Frag → EI,nsIn → FC,mg_none_of → FI,codeIn → FU,codeHdIn → FW,keepIn → F9,fnOf → Gm,mg_of → GV,tabObj → G8,findIn → G9,cellsFrom_some → Hg,methodObj → Jd,specialIn → Jf,Frag → JI,kla_obj → JL,codeHd_of_K → J7
open PySem renaming wpAny_bind → EJ,Addr → EL,wpAny_pure → ES,wpAny → Fd,mainGlobals → Fh,sizeLine → Fu,boot_len → Fw,starEach → FA,wpAny_holding → FF,foldedSetIterable → FQ,compareOp → F5,cLine → Gr,wpAny_truthy_bool → Gy,wpAny_mono → GN,letOwnedTupleGo → GP,mem_of_lookup → G6,wpAny_specialOf → Hn,codeAny_mono → Km
open Nat renaming le_refl → EN,lt_of_lt_of_le → Fb,le_trans → Fm,ne_of_lt → Fp,zero_le → Ft,not_lt_zero → FV,lt_irrefl → Gi,le_of_lt → Gj,sub_self → Gn,le_of_ble_eq_true → GC,lt_succ_of_lt → GI,pow_le_pow_right → Hs,ne_of_gt → Hy,le_of_eq → HA,zero_lt_succ → HB,mod_eq_of_lt → HC,min_eq_left → HX,le_of_succ_le → Ig,lt_succ_of_le → Il,mul_le_mul → Io,lt_succ_self → IB,lt_succ_iff → II,succ_pos → IS,mod_lt → IY,add_assoc → Jm,lt_succ_iff_lt_or_eq → Jq,zero_add → JB,mod_self → JG,le_of_dvd → Kf,lt_trans → Kh,dvd_refl → Kk,le_succ → Kn,log2_lt → Ko,gcd → Kr,lcm → Ks
open PySem.Heap renaming get?_push_of_some → EU,lt_size → E4,get?_push_size → Fn,get?_update_other → GR,SameBut → He,get?_update_self → Iy,size_push → IV
open PySem.PyData renaming depthAll → EZ,eqv → Fi,canLayAll0 → G2,eqvAll → Jl,depth → JE
open Array renaming length_toList → E5,getD_eq_getD_getElem? → GS,getD → Hj,forIn_toList → HZ,mem_toList_iff → IG,replicate → IJ,getElem?_eq_getElem → Ja,getElem?_toList → JN,size_map → JU,toList_append → J8
open PySem.PassesOwn renaming never → Fv
open Int renaming toNat_natCast → FG,mul_pos → FP,gcd → Gg,sign_eq_neg_one_of_neg → Gx,mul_le_mul_of_nonneg_left → GH,lt_trichotomy → GK,eq_ofNat_of_zero_le → GL,sign_eq_one_of_pos → GU,emod_lt_of_pos → Hl,fdiv_eq_ediv_of_nonneg → Hr,mul_sub → Hv,mul_neg_of_pos_of_neg → HG,eq_of_mul_eq_mul_left → HH,mul_pos_of_neg_of_neg → HI,mul_neg_of_neg_of_pos → HJ,toNat_of_nonneg → HQ,mul_ediv_cancel_left → HV,natAbs_natCast → Ia,mul_nonneg_of_nonpos_of_nonpos → Ib,natAbs_mul → Im,mul_comm → Iv,gcd_pos_of_ne_zero_right → IL,toNat → IT,mul_one → Je,mul_add → Jg,emod_nonneg → JK,one_mul → JY,mul_nonneg → J1,neg_mul → J3,mul_neg → J4,mul_assoc → Kg,le_trans → Kj,lt_or_le → Kl,sub_mul → Kp,le_refl → Kq
open PySem.F renaming slot_list_append → FZ,type_list_append → F4,plainAttrs_list → F8,slot_tuple_hash → GJ,slot_set_contains → HE,slot_dict_getitem → Jb,args_tuple_add_2 → Ji,entry_tuple_add → Js,slot_tuple_add → Jy,args_list_append_2 → JR,slot_set_add → JV,entry_list_append → J5
open Ne renaming symm → F6
open Classical renaming propDecidable → F7,byContradiction → GA,epsilon_spec → Iu
open PyProof.Rows renaming callWith_type1 → GQ,boot_abs → Ho,boot_tuple → Jw,boot_list → JH,boot_all → JP
open PySem.Builtin.Tuple renaming tupleHashOf → GY
open Decidable renaming byContradiction → GZ
open False renaming elim → Hf
open PySem.Obj renaming mapSeq → Hq,putSet → JD
open Option renaming isNone_iff_eq_none → HD,isSome_iff_exists → HR,getD_some → Ju
open PySem.Builtin.Int renaming intBits → HN,intTooBig → JO
open PySem.SetTable renaming toList_insertAt → HS,sizeAbove → I0,fill → Kc
open PySem.SeqAt renaming eqv_refl → Ik
open PySem.SeqAt.ReadsAll renaming length → Iz
open PySem.Calls renaming Name_function_global → IU,callWith_builtin → Jz,evalArgs_plain → JQ
open PySem.Builtin.Frozenset renaming oneOther → IZ,addrOf → Jn
open Rat renaming divInt → I9,den_divInt → JZ
open PySem.Builtin.SmallTypes renaming nextOf → Jc
open List.Pairwise renaming imp → Jh,imp_of_mem → Jr
open PyProof renaming noPylong_of_log2 → Jk
open Prod renaming ext → Jx,fst → JS
open PyProof.Rows.KTD renaming datumAt → JX
open PySem.Heap.SameBut renaming update → J6
open PySem.Str renaming ofString → Ki
set_option Elab.async false
set_option linter.all false
set_option maxRecDepth 100000
set_option maxHeartbeats 4000000
theorem Kv.{u} {c:Prop} {h:Decidable c} (q:¬c) {α:Sort u} {t e:α}:(ite c t e)=e:=if_neg q
theorem Kw.{u} {c:Prop} {h:Decidable c} (q:c) {α:Sort u} {t e:α}:(ite c t e)=t:=if_pos q
theorem Kx {p:Prop} [h:Decidable p]:p → decide p=true:=decide_eq_true
theorem Ky {p:Prop} [h:Decidable p]:¬p → decide p=false:=decide_eq_false
section
namespace L2
open PySem PySem.Spec PyProof.Rows
abbrev Key:=Sum Int Str
noncomputable def Bs:Key->Value->Bool
 | .inl k,v=>Value.isInt k v
 | .inr x,v=>Value.isStrOf x v
noncomputable def Eo (w:World):Key->Int
 | .inl k=>hashInt k
 | .inr x=>hashStr w x
theorem yB:∀ {k:Key} {v:Value},Bs k v=true->(∃ i t,k=Sum.inl i/\v=Value.int i t) \/ (∃ x t,k=Sum.inr x/\v=Value.str x t)
 | .inl i,v,h=>by
  obtain⟨t,e⟩:=Value.isInt_shape (k:=i) (v:=v) h;exact .inl ⟨i,t,rfl,e⟩
 | .inr x,v,h=>by
  obtain⟨t,e⟩:=Value.isStrOf_shape (x:=x) (v:=v) h;exact .inr ⟨x,t,rfl,e⟩
theorem BY (a b:Int):decide ((Sum.inl a:Key)=Sum.inl b)=(a == b):=by
 by_cases e:a=b
 ·subst e;simp
 ·have h:¬ (Sum.inl a:Key)=Sum.inl b:=fun q=>e (Sum.inl.inj q);rw [Ky h];exact (beq_eq_false_iff_ne.mpr e).symm
theorem BZ (a b:Str):decide ((Sum.inr a:Key)=Sum.inr b)=decide (a=b):=by
 by_cases e:a=b
 ·subst e;simp
 ·have h:¬ (Sum.inr a:Key)=Sum.inr b:=fun q=>e (Sum.inr.inj q);rw [Ky h,Ky e]
theorem B0 (a:Int) (b:Str):decide ((Sum.inl a:Key)=Sum.inr b)=false:=Ky (fun q=>nomatch q)
theorem B1 (a:Str) (b:Int):decide ((Sum.inr a:Key)=Sum.inl b)=false:=Ky (fun q=>nomatch q)
noncomputable def gE (prog:Program) (w:World):PySem.KeyKind prog w Key where
 is:=Bs
 hash:=Eo w
 inj:=fun v a b ha hb=>by
  rcases yB ha with⟨i,t,rfl,rfl⟩ | ⟨x,t,rfl,rfl⟩
  ·rcases yB hb with⟨j,u,rfl,e⟩ | ⟨y,u,rfl,e⟩
   ·injection e with e1 _;rw [e1]
   ·exact nomatch e
  ·rcases yB hb with⟨j,u,rfl,e⟩ | ⟨y,u,rfl,e⟩
   ·exact nomatch e
   ·injection e with e1 _;rw [e1]
 byValue:=fun k v h=>by
  rcases yB h with⟨i,t,rfl,rfl⟩ | ⟨x,t,rfl,rfl⟩ <;> rfl
 pyHash:=fun hv h=>by
  rcases yB hv with⟨i,t,rfl,rfl⟩ | ⟨x,t,rfl,rfl⟩
  ·exact wpAny_pyHash_int h
  ·exact wpAny_pyHash_str h
 eqBool:=fun hu hv h=>by
  rcases yB hu with⟨i,t,rfl,rfl⟩ | ⟨x,t,rfl,rfl⟩
  ·rcases yB hv with⟨j,u,rfl,rfl⟩ | ⟨y,u,rfl,rfl⟩
   ·rw [BY] at h;exact wpAny_eqBool_int h
   ·rw [B0] at h;exact SeqAt.EqAt.int_str i t y u _ _ _ _ h
  ·rcases yB hv with⟨j,u,rfl,rfl⟩ | ⟨y,u,rfl,rfl⟩
   ·rw [B1] at h;exact SeqAt.EqAt.str_int x t j u _ _ _ _ h
   ·rw [BZ] at h;exact wpAny_eqBool_str h
 «strs»:=fun k x t v h=>by
  rcases yB h with⟨i,u,rfl,e⟩ | ⟨y,u,rfl,e⟩
  ·exact nomatch e
  ·injection e with e1 _;subst e1;cases v <;> rfl
inductive V where
 | non | bl (b:Bool) | int (i:Int) | str (x:Str) | byt (b:Array UInt8) | flt (b:UInt64) | ref (a:EL) | ty (n:String)
 deriving DecidableEq
def RelV:V->Value->Prop
 | .non,u=>u=Value.none
 | .bl b,u=>u=Value.bool b
 | .int i,u=>∃ t,u=Value.int i t
 | .str x,u=>∃ t,u=Value.str x t
 | .byt b,u=>∃ t,u=Value.bytes b t
 | .flt b,u=>∃ t,u=Value.float b t
 | .ref a,u=>u=Value.ref a
 | .ty n,u=>u=Value.type n
abbrev Vals:List V->List Value->Prop:=Paired RelV
theorem Vals.length {xs:List V} {us:List Value} (r:Vals xs us):xs.length=us.length:=Paired.length r
theorem Vals.get:∀ {xs:List V} {us:List Value} {i:Nat} {x:V},Vals xs us->xs[i]?=some x->∃ u,us[i]?=some u/\RelV x u
 | _,_,_,_,.nil,e=>by simp at e
 | _,_,0,_,.cons r _,e=>by simp at e;subst e;exact⟨_,rfl,r⟩
 | _,_,i+1,x,.cons _ t,e=>by
  obtain⟨u,h1,h2⟩:=Vals.get (i:=i) (x:=x) t (by simpa using e);exact⟨u,by simpa using h1,h2⟩
theorem Vals.set {x:V} {u:Value} (r:RelV x u):∀ {xs:List V} {us:List Value} (i:Nat),Vals xs us->Vals (xs.set i x) (us.set i u)
 | _,_,_,.nil=>.nil
 | _,_,0,.cons _ t=>.cons r t
 | _,_,i+1,.cons q t=>.cons q (Vals.set r i t)
theorem Vals.append:∀ {xs ys:List V} {us ws:List Value},Vals xs us->Vals ys ws->Vals (xs++ys) (us++ws)
 | _,_,_,_,.nil,s=>s
 | _,_,_,_,.cons r t,s=>.cons r (Vals.append t s)
theorem Vals.take:∀ {xs:List V} {us:List Value} (n:Nat),Vals xs us->Vals (xs.take n) (us.take n)
 | _,_,0,_=>.nil
 | _,_,_+1,.nil=>.nil
 | _,_,n+1,.cons r t=>.cons r (Vals.take n t)
theorem Vals.drop:∀ {xs:List V} {us:List Value} (n:Nat),Vals xs us->Vals (xs.drop n) (us.drop n)
 | _,_,0,r=>r
 | _,_,_+1,.nil=>.nil
 | _,_,n+1,.cons _ t=>Vals.drop n t
def DD:Option V->Option Value->Prop
 | some v,some u=>RelV v u
 | none,none=>True
 | _,_=>False
def KV {κ:Type}:List (κ×V)->List (κ×Value)->Prop:=Paired fun (p:κ×V) (q:κ×Value)=>p.1=q.1/\RelV p.2 q.2
noncomputable def kV:Key->V
 | .inl i=>.int i
 | .inr x=>.str x
inductive HO where
  | lst (xs:List V)
  | tup (xs:List V)
  | dK (kvs:List (Key×V)) | dT (kvs:List (List Key×V))
  | set (S:Int->Bool) (n:Nat)
  | ins (C dx:EL) (fs:List (Str×V))
  | own (x:EL)
  | xd (fs:List (Str×V))
  | met (f x:EL)
  | rng (lo hi:Int)
  | frz (o:Obj) (u:HO)
  | tbl (q:Str)
  | ext (φ:Heap->Prop)
abbrev Hp:=EL->Option HO
noncomputable def upd (H:Hp) (a:EL) (o:HO):Hp:=fun b=>if b=a then some o else H b
theorem zK {H:Hp} {a:EL} {o:HO}:upd H a o a=some o:=by unfold upd;rw [Kw rfl]
theorem zM {H:Hp} {a b:EL} {o:HO} (h:b≠a):upd H a o b=H b:=by unfold upd;rw [Kv h]
theorem ya {H:Hp} {a b:EL} {o:HO} (h:H a=some o) (h':H b=none):a≠b:=by
 intro e;subst e;rw [h] at h';cases h'
section
variable (P:Program) (w:World)
def ObjOk (H:Hp) (h:Heap) (a:EL):HO->Prop
 | .lst xs=>xs.length<=Fu/\∃ (its:List Value) (n:Nat),Vals xs its/\h.get? a=some { cls:=.type "list",data:=.seq its.toArray n }
 | .tup xs=>xs.length<=Fu/\∃ its:List Value,Vals xs its/\IsTup h a its.toArray
 | .dK kvs=>kvs.length<=Fu/\(a == sysModules)=false/\∃ vs,KV kvs vs/\h.DictOf (gE P w) a vs
 | .dT kvs=>kvs.length<=Fu/\(a == sysModules)=false/\∃ xs:List (List Key×EL×Value),
   Paired (fun (p:List Key×V) (q:List Key×EL×Value)=>p.1=q.1/\H q.2.1=some (.tup (p.1.map kV))/\RelV p.2 q.2.2) kvs xs /\
   ∃ o es ep,h.get? a=some o/\o.ExactDict/\o.data=.dict es ep/\es.toList=xs.map (entryOfKey (tupleKind (gE P w)))/\(xs.map (·.1)).Nodup
 | .set S n=>h.SetOf (intKind P w) a S n
 | .ins C dx fs=>H dx=some (.own a)/\fs.length<=1000/\dx≠a/\h.get? a=some (PySem.W.instObj C dx) /\
   ∃ mA,h.Ns1 dx mA/\(∀ f,DD (fs.lookup f) (mA f))/\PySem.Within mA (fs.map (·.1))
 | .own _=>∃ o,h.get? a=some o
 | .xd fs=>∃ mA,h.Ns1 a mA/\∀ f,DD (fs.lookup f) (mA f)
 | .rng lo hi=>∃ t u v,h.get? a=some { cls:=.type "range",data:=.fields #[.int lo t,.int hi u,.int 1 v] }
 | .frz o u=>h.get? a=some o/\ObjOk H h a u
 | .tbl q=>∃ ps,h.get? a=some (G8 ps)/\TriplesOk ps.toList/\∀ pos cv,codeAmong pos ps.toList=some cv->∃ c,cv=.ref c/\H c=some (.own a)/\h.CodeRec (.ref c) q
 | .met f x=>h.get? a=some (Jd (.ref f) (.ref x))
 | .ext φ=>φ h/\(∃ o,h.get? a=some o)/\∀ h1 h2:Heap,φ h1->(∀ o,h1.get? a=some o->h2.get? a=some o)->φ h2
def HOk (H:Hp) (h:Heap):Prop:=∀ a o,H a=some o->ObjOk P w H h a o
end
section
variable {P:Program} {w:World} {H H':Hp} {h h':Heap} {a:EL} {o:HO}
theorem ObjOk.lt (x:ObjOk P w H h a o):a<h.objs.size:=by
 cases o with
 | lst xs=>obtain⟨_,_,_,_,e⟩:=x;exact E4 e
 | tup xs=>obtain⟨_,_,_,p⟩:=x;exact p.lt
 | dK kvs=>obtain⟨_,_,_,_,o,_,_,e,_⟩:=x;exact E4 e
 | dT kvs=>obtain⟨_,_,_,_,o,_,_,e,_⟩:=x;exact E4 e
 | set S n=>obtain⟨o,_,_,_,e,_⟩:=x;exact E4 e
 | ins C dx fs=>obtain⟨_,_,_,e,_⟩:=x;exact E4 e
 | own y=>obtain⟨_,e⟩:=x;exact E4 e
 | xd fs=>obtain⟨_,⟨_,_,_,e,_⟩,_⟩:=x;exact E4 e
 | rng lo hi=>obtain⟨_,_,_,e⟩:=x;exact E4 e
 | frz ob u=>obtain⟨e,_⟩:=x;exact E4 e
 | tbl q=>obtain⟨_,e,_⟩:=x;exact E4 e
 | met f y=>exact E4 (show h.get? a=some _ from x)
 | ext φ=>obtain⟨_,⟨_,e⟩,_⟩:=x;exact E4 e
theorem Paired.mapP {α β:Type} {F G:α->β->Prop}:∀ {l₁:List α} {l₂:List β},Paired F l₁ l₂->(∀ a b,F a b->G a b)->Paired G l₁ l₂
 | _,_,.nil,_=>.nil
 | _,_,.cons r t,f=>.cons (f _ _ r) (Paired.mapP t f)
theorem ObjOk.stay (x:ObjOk P w H h a o) (k:∀ b u,(b=a \/ H b=some (.own a))->h.get? b=some u->h'.get? b=some u)
  (ho:∀ b,H b=some (.own a)->H' b=some (.own a)) (ht:∀ b xs,H b=some (.tup xs)->H' b=some (.tup xs)):ObjOk P w H' h' a o:=by
 induction o with
 | lst xs=>obtain⟨z,its,n,r,e⟩:=x;exact⟨z,its,n,r,k _ _ (.inl rfl) e⟩
 | tup xs=>obtain⟨z,its,r,ob,e,c⟩:=x;exact⟨z,its,r,ob,k _ _ (.inl rfl) e,c⟩
 | dK kvs=>obtain⟨z,y,vs,r,ob,es,ep,e,c⟩:=x;exact⟨z,y,vs,r,ob,es,ep,k _ _ (.inl rfl) e,c⟩
 | dT kvs =>
  obtain⟨z,y,xs,r,ob,es,ep,e,c⟩:=x;exact⟨z,y,xs,Paired.mapP r fun p q z=>⟨z.1,ht _ _ z.2.1,z.2.2⟩,ob,es,ep,k _ _ (.inl rfl) e,c⟩
 | set S n=>obtain⟨ob,es,ep,t,e,c⟩:=x;exact⟨ob,es,ep,t,k _ _ (.inl rfl) e,c⟩
 | ins C dx fs =>
  obtain⟨d,z,ne,e,mA,⟨od,es,ep,e2,c⟩,r⟩:=x;exact⟨ho _ d,z,ne,k _ _ (.inl rfl) e,mA,⟨od,es,ep,k _ _ (.inr d) e2,c⟩,r⟩
 | own y=>obtain⟨ob,e⟩:=x;exact⟨ob,k _ _ (.inl rfl) e⟩
 | xd fs=>obtain⟨mA,⟨od,es,ep,e,c⟩,r⟩:=x;exact⟨mA,⟨od,es,ep,k _ _ (.inl rfl) e,c⟩,r⟩
 | rng lo hi=>obtain⟨t,u,v,e⟩:=x;exact⟨t,u,v,k _ _ (.inl rfl) e⟩
 | frz ob u ih=>obtain⟨e,q⟩:=x;exact⟨k _ _ (.inl rfl) e,ih q⟩
 | tbl q =>
  obtain⟨ps,e,tr,r⟩:=x;refine⟨ps,k _ _ (.inl rfl) e,tr,fun pos cv z=>?_⟩;obtain⟨c,ec,hc,c2,oc,vs,tq,e2,e3,e4,e5⟩:=r pos cv z;cases e2;exact⟨c,ec,ho _ hc,c,oc,vs,tq,rfl,k _ _ (.inr hc) e3,e4,e5⟩
 | met f y =>
  have e:h.get? a=some (Jd (.ref f) (.ref y)):=x;show h'.get? a=some (Jd (.ref f) (.ref y));exact k a _ (.inl rfl) e
 | ext φ=>obtain⟨p,⟨o,e⟩,st⟩:=x;exact⟨st _ _ p fun o q=>k _ _ (.inl rfl) q,⟨o,k _ _ (.inl rfl) e⟩,st⟩
theorem HOk.lt (x:HOk P w H h) (e:H a=some o):a<h.objs.size:=(x a o e).lt
theorem HOk.fresh (x:HOk P w H h) (e:h.objs.size<=a):H a=none:=by
 cases q:H a with
 | none=>rfl
 | some u=>exact absurd (Fb (x.lt q) e) (Gi _)
theorem HOk.kept (x:HOk P w H h) (k:∀ b u,h.get? b=some u->h'.get? b=some u):HOk P w H h':=fun a o e =>
 (x a o e).stay (fun b u _ q=>k b u q) (fun _ q=>q) fun _ _ q=>q
theorem HOk.laid (x:HOk P w H h) (k:∀ b u,h.get? b=some u->h'.get? b=some u) (hp:h.objs.size<=a) (new:ObjOk P w (upd H a o) h' a o):HOk P w (upd H a o) h':=fun b u e=>by
 have hn:=x.fresh hp;by_cases hb:b=a
 ·subst hb;rw [zK] at e;cases e;exact new
 ·rw [zM hb] at e;exact (x b u e).stay (fun c v _ q=>k c v q) (fun c q=>by rw [zM (ya q hn)];exact q) fun c xs q=>by rw [zM (ya q hn)];exact q
end
def Rd (H:Hp) (a:EL) (u:HO):Prop:=H a=some u \/ ∃ o,H a=some (.frz o u)
theorem Rd.ok {P:Program} {w:World} {H:Hp} {h:Heap} {a:EL} {u:HO} (r:Rd H a u) (x:HOk P w H h):ObjOk P w H h a u:=by
 rcases r with r | ⟨o,r⟩
 ·exact x a u r
 ·obtain⟨_,q⟩:=x a _ r;exact q
def Mut:Option HO->Prop
 | some (.lst _)=>True
 | some (.dK _)=>True
 | some (.dT _)=>True
 | some (.set _ _)=>True
 | some (.ins _ _ _)=>True
 | some (.ext _)=>True
 | _=>False
section
variable {P:Program} {w:World} {H:Hp} {h h':Heap} {x e:EL} {o':HO}
theorem HOk.write (ok:HOk P w H h) (mu:Mut (H x)) (he:e=x \/ H e=some (.own x)) (k:∀ b u,b≠e->h.get? b=some u->h'.get? b=some u) (heo:∃ u,h'.get? e=some u)
  (new:ObjOk P w (upd H x o') h' x o'):HOk P w (upd H x o') h':=fun b u q=>by
 have nown:∀ c y,H c=some (.own y)->c≠x:=fun c y r z=>by subst z;rw [r] at mu;exact mu
 have ntup:∀ c xs,H c=some (.tup xs)->c≠x:=fun c xs r z=>by subst z;rw [r] at mu;exact mu
 by_cases hb:b=x
 ·subst hb;rw [zK] at q;cases q;exact new
 ·rw [zM hb] at q;by_cases hbe:b=e
  ·have q':H b=some (.own x):=by
    rcases he with z | z
    ·exact absurd (hbe.trans z) hb
    ·rw [hbe];exact z
   rw [q] at q';cases q';obtain⟨v,hv⟩:=heo;exact⟨v,by rw [hbe];exact hv⟩
  ·refine (ok b u q).stay (fun c v hc r=>k c v ?_ r) (fun c r=>by rw [zM (nown c b r)];exact r) fun c xs r=>by rw [zM (ntup c xs r)];exact r
   rcases hc with rfl | hc
   ·exact hbe
   ·rintro rfl;rcases he with z | z
    ·exact nown c b hc z
    ·rw [hc] at z;cases z;exact hb rfl
end
structure Un (fs ex:List EL) (H H':Hp) (h h':Heap):Prop where
 keep:∀ b o,h.get? b=some o->H b=none->b∉fs->b∉ex->h'.get? b=some o
 slot:∀ b o,h.get? b=some o->H b=none->b∈fs->b∉ex->∃ sl,h'.get? b=some { o with slots:=sl }
 free:∀ b o,h.get? b=some o->H b=none->b∉ex->H' b=none
 there:∀ b o,h.get? b=some o->b∉ex->∃ o',h'.get? b=some o'
 tups:∀ b xs,H b=some (.tup xs)->H' b=some (.tup xs)
 frzs:∀ b o u,H b=some (.frz o u)->H' b=some (.frz o u)
 tbls:∀ b q,H b=some (.tbl q)->H' b=some (.tbl q)
section
variable {fs fs' ex ex':List EL} {H H1 H2:Hp} {h h1 h2 h':Heap} {a x e:EL} {o:HO}
theorem Un.any (u:Un fs ex H H1 h h1) {b:EL} {ob:Obj} (q:h.get? b=some ob) (n:H b=none) (hx:b∉ex):∃ sl,h1.get? b=some { ob with slots:=sl }:=by
 by_cases hb:b∈fs
 ·exact u.slot b ob q n hb hx
 ·exact⟨ob.slots,u.keep b ob q n hb hx⟩
theorem Un.kept (k:∀ b u,h.get? b=some u->h'.get? b=some u):Un fs ex H H h h' :=
 ⟨fun b ob q _ _ _=>k b ob q,fun b ob q _ _ _=>⟨ob.slots,k b ob q⟩,fun _ _ _ n _=>n,fun b ob q _=>⟨ob,k b ob q⟩,fun _ _ q=>q,fun _ _ _ q=>q,fun _ ps q=>by exact q⟩
theorem Un.refl:Un fs ex H H h h:=Un.kept fun _ _ q=>q
theorem Un.laid (k:∀ b u,h.get? b=some u->h'.get? b=some u) (hp:h.objs.size<=a) (hn:H a=none):Un fs ex H (upd H a o) h h' where
 keep:=fun b u q _ _ _=>k b u q
 slot:=fun b u q _ _ _=>⟨u.slots,k b u q⟩
 free:=fun b u q n _=>by rw [zM (Fp (Fb (E4 q) hp))];exact n
 there:=fun b u q _=>⟨u,k b u q⟩
 tups:=fun b xs q=>by rw [zM (ya q hn)];exact q
 frzs:=fun b u xs q=>by rw [zM (ya q hn)];exact q
 tbls:=fun b ps q=>by rw [zM (ya q hn)];exact q
theorem Un.write (mu:Mut (H x)) (he:e=x \/ H e=some (.own x)) (k:∀ b u,b≠e->h.get? b=some u->h'.get? b=some u) (heo:∃ u,h'.get? e=some u):Un fs ex H (upd H x o) h h':=by
 have hx:∀ b,H b=none->b≠x:=fun b n z=>by subst z;rw [n] at mu;exact mu
 have hb:∀ b,H b=none->b≠e:=fun b n z=>by
  subst z;rcases he with r | r
  ·exact hx b n r
  ·rw [n] at r;cases r
 have hm:∀ b u,H b=some u->¬ Mut (some u)->b≠x:=fun b u q nm z=>by subst z;rw [q] at mu;exact nm mu
 refine⟨fun b u q n _ _=>k b u (hb b n) q,fun b u q n _ _=>⟨u.slots,k b u (hb b n) q⟩,fun b u q n _=>by rw [zM (hx b n)];exact n,fun b u q _=>?_,
  fun b xs q=>by rw [zM (hm b _ q fun z=>z)];exact q,fun b u xs q=>by rw [zM (hm b _ q fun z=>z)];exact q,fun b ps q=>by rw [zM (hm b _ q fun z=>z)];exact q⟩
 by_cases hbe:b=e
 ·subst hbe;exact heo
 ·exact⟨u,k b u hbe q⟩
end
noncomputable def trk (h:Heap) (H:Hp):List EL:=(E7 h.objs.size).filter fun a=>(H a).isSome
noncomputable def iQ (h:Heap) (H:Hp):Heap:=PySem.W.hideAll h (trk h H)
theorem rK (h:Heap) (H:Hp):(iQ h H).objs.size=h.objs.size:=PySem.W.hideAll_size _ _
theorem dE {h:Heap} {H:Hp} {b:EL} {o:Obj} (e:h.get? b=some o) (n:H b=none):(iQ h H).get? b=some o :=
 PySem.W.hideAll_get _ e fun hm=>by
  have q:(H b).isSome=true:=(FR.mp hm).2;rw [n] at q;simp at q
theorem xJ {h:Heap} {H:Hp} {b:EL} {o:Obj} (e:(iQ h H).get? b=some o):h.get? b=some o/\H b=none:=by
 have e':h.get? b=some o:=PySem.W.of_hideAll (trk h H) e;refine⟨e',?_⟩;cases q:H b with
 | none=>rfl
 | some x =>
  have hm:b∈trk h H:=FR.mpr ⟨Fe.mpr (E4 e'),by simp [q]⟩;have z:(iQ h H).get? b=none:=PySem.W.hideAll_none (trk h H) hm;rw [z] at e;cases e
noncomputable def ao (g h:Heap) (L:EL):List (EL×Obj):=(E7 h.objs.size).filterMap fun a=>if a=L \/ (g.get? a).isSome=true then none else (h.get? a).map fun o=>(a,o)
theorem cI {g h:Heap} {L a:EL} {o:Obj} (h1:a≠L) (h2:g.get? a=none) (h3:h.get? a=some o):(a,o)∈ao g h L :=
 Hd.mpr ⟨a,Fe.mpr (E4 h3),by simp [h1,h2,h3]⟩
theorem dF {g h:Heap} {L:EL} {p:EL×Obj} (hp:p∈ao g h L):p.1≠L/\g.get? p.1=none/\h.get? p.1=some p.2:=by
 obtain⟨b,_,e⟩:=Hd.mp hp;split at e
 ·cases e
 ·rename_i hn;cases q:h.get? b with
  | none=>rw [q] at e;simp at e
  | some u =>
   rw [q] at e;simp only [Option.map_some,Option.some.injEq] at e;subst e;refine⟨fun z=>hn (.inl z),?_,q⟩;show g.get? b=none;cases r:g.get? b with
   | none=>rfl
   | some v=>exact (hn (.inr (by simp [r]))).elim
noncomputable def rest (g h:Heap) (L d:EL):List (EL×Obj):=(ao g h L).filter fun p=>decide (p.1≠d)
theorem tZ {g h:Heap} {L:EL}:News g L h (ao g h L):=fun p hp=>let⟨a,b,c⟩:=dF hp;⟨c,a,b⟩
structure Mod (K:EI) (mg:Str->Option Value) (base:Heap):Prop where
 kin:K.In base
 glob:base.Ns Fh mg
 blt:∃ mb,base.Ns builtinsNs mb/\∀ x:Str,x ≠ "__name__"->mb x=bootBuiltins x
 nolimit:base.NoLimit
 bm:∃ b o,mg "__builtins__"=some (.ref b)/\b≠builtinsNs/\base.get? b=some o/\o.cls=.type "module"/\o.dict=some builtinsNs/\o.data=.plain
structure Cx where
 prog:Program
 w:World
 K:EI
 mg:Str->Option Value
 base:Heap
 A:Around
 N:List Str
 s₀:Shared
 H₀:Hp
 env:Env
 outer:List Env
 stack:List Env
 ex:List EL
 fn:Str->Bool
 calm:Bool
 pn:List (EL×Obj)
 xe:Value->Shared->Prop
noncomputable def frs (l:List Env):List EL:=l.filterMap (·.frame)
noncomputable abbrev Cx.fs (X:Cx):List EL:=frs X.outer
def Vis (sc:Scope) (x:Str):Prop:=sc.names.lookup x=some .local \/ sc.names.lookup x=some .cell \/ sc.names.lookup x=some .free
def Loc (sc:Scope) (x:Str):Prop:=sc.names.lookup x=some .local \/ sc.names.lookup x=some .cell
def Look (env:Env) (h:Heap) (m:Str->Option Value) (x:Str) (u:Value):Prop :=
 (env.kindOf x=some .local/\m x=some u) \/ ((env.kindOf x=some .cell \/ env.kindOf x=some .free)/\∃ c,env.cells.lookup x=some c/\h.IsCell c (some u))
noncomputable def aq:List Str:=["least_kept","pair_beside","peaks"]
noncomputable def lamQ (q:Str):Str:=(q ++ ".<locals>.") ++ "<lambda>"
def TabsOk (K:EI) (H:Hp):Prop:=∀ c P q,q∈aq->FW K c P=true->FU K (.ref c) q=true->H P=some (.tbl (lamQ q))
structure Cx.Ok (X:Cx):Prop where
 mod:Mod X.K X.mg X.base
 kind:X.env.scope.kind=.function
 glob:X.env.globals=Fh
 blt:X.env.builtins=builtinsNs
 above:X.s₀.heap.objs.size<=X.env.locals
 inj:∀ x y c,X.env.cells.lookup x=some c->X.env.cells.lookup y=some c->x=y
 has:∀ x,(X.env.kindOf x=some .cell \/ X.env.kindOf x=some .free)->∃ c,X.env.cells.lookup x=some c
 cab:∀ x c,X.fn x=true->X.env.cells.lookup x=some c->X.s₀.heap.objs.size<=c
 hd:X.calm=true->X.A.handled=none
 frames:X.A.frames=some X.stack
 stk:X.stack=X.outer \/ (X.stack=X.env :: X.outer/\X.env.frame=some X.env.locals)
 exf:∀ b∈X.ex,b≠X.env.locals/\∀ x c,X.env.cells.lookup x=some c->c≠b
 bs:∀ b o,X.base.get? b=some o->X.s₀.heap.get? b=some o/\X.H₀ b=none
 bsz:X.base.objs.size<=X.s₀.heap.objs.size
 noex:∀ b o,X.base.get? b=some o->b∉X.ex
 exfs:∀ b∈X.ex,b∉X.fs
 funs:X.s₀.heap.FunFrames X.base X.outer
 frf:∀ b∈X.fs,X.H₀ b=none
 tabs:TabsOk X.K X.H₀
structure Inv (X:Cx) (Ku:List (EL×Obj)) (σ:List (Option V)) (H:Hp) (s:Shared):Prop where
 ok:X.Ok
 os:s.os=X.s₀.os
 bare:AllBare s.gens
 base:Un X.fs X.ex X.H₀ H X.s₀.heap s.heap
 loc:∃ m,s.heap.Ns X.env.locals m/\∀ (i:Nat) (x:Str) (v:V),X.N[i]?=some x->σ[i]?=some (some v)->Vis X.env.scope x->∃ u,RelV v u/\Look X.env s.heap m x u
 cell:∀ x c,X.env.cells.lookup x=some c->∃ v,s.heap.IsCell c v
 free:H X.env.locals=none
 freeC:∀ x c,X.env.cells.lookup x=some c->H c=none
 pin:∀ p∈X.pn++Ku,s.heap.get? p.1=some p.2/\H p.1=none/\p.1≠X.env.locals/\p.1∉X.fs/\∀ v,p.2.data≠.cell v
 hok:HOk X.prog X.w H s.heap
 len:σ.length=X.N.length
section
variable {X:Cx} {Ku:List (EL×Obj)} {σ:List (Option V)} {H H':Hp} {s:Shared} {h':Heap}
theorem Cx.Ok.nofr (ok:X.Ok) {b:EL} {o:Obj} (e:X.base.get? b=some o):b∉X.fs:=fun hb=>by
 have:=(ok.funs.mem hb).1;rw [e] at this;cases this
theorem Inv.bs (I:Inv X Ku σ H s):∀ b o,X.base.get? b=some o->s.heap.get? b=some o/\H b=none:=fun b o e =>
 ⟨I.base.keep b o (I.ok.bs b o e).1 (I.ok.bs b o e).2 (I.ok.nofr e) (I.ok.noex b o e),I.base.free b o (I.ok.bs b o e).1 (I.ok.bs b o e).2 (I.ok.noex b o e)⟩
theorem Inv.bk (I:Inv X Ku σ H s):∀ b o,X.base.get? b=some o->s.heap.get? b=some o:=fun b o e=>(I.bs b o e).1
theorem Inv.mod (I:Inv X Ku σ H s):Mod X.K X.mg X.base:=I.ok.mod
theorem Inv.kIn (I:Inv X Ku σ H s):X.K.In s.heap:=I.ok.mod.kin.keeps I.bk
theorem Inv.nolimit (I:Inv X Ku σ H s):s.heap.NoLimit:=I.ok.mod.nolimit.keeps I.bk
theorem Inv.fr (I:Inv X Ku σ H s):∃ m,Fr X.base X.env.locals s.heap m :=
 let⟨m,hn,_⟩:=I.loc
 ⟨m,hn,I.bk,Fm I.ok.bsz I.ok.above⟩
theorem Inv.lt (I:Inv X Ku σ H s):X.env.locals<s.heap.objs.size:=let⟨_,hn,_⟩:=I.loc;hn.lt
theorem Inv.sz (I:Inv X Ku σ H s):X.s₀.heap.objs.size<=s.heap.objs.size:=Fm I.ok.above (Gj I.lt)
theorem Inv.nofs (I:Inv X Ku σ H s) {a:EL} (h:s.heap.objs.size<=a):a∉X.fs:=fun hb=>by
 obtain⟨_,o,ho,_⟩:=I.ok.funs.mem hb;exact absurd (Fb (E4 ho) (Fm I.sz h)) (Gi _)
theorem Inv.cne (I:Inv X Ku σ H s):∀ x c,X.env.cells.lookup x=some c->c≠X.env.locals:=fun x c e z=>by
 obtain⟨v,o,ho,hd⟩:=I.cell x c e;obtain⟨m,⟨o',es,ep,ho',hd',_⟩,_⟩:=I.loc;rw [z,ho'] at ho;cases ho;rw [hd'] at hd;cases hd
theorem Inv.funs (I:Inv X Ku σ H s):s.heap.FunFrames X.base X.outer:=by
 have all:∀ (l:List Env),(∀ b∈frs l,b∈X.fs)->X.s₀.heap.FunFrames X.base l->s.heap.FunFrames X.base l:=by
  intro l
  induction l with
  | nil=>intro _ _;trivial
  | cons env r ih =>
   intro hs hl;obtain⟨hk,⟨L,o,hf,hn,ho,hd⟩,hr⟩:=hl;have hL:L∈X.fs:=hs L (by unfold frs;rw [HK,hf];exact ET);obtain⟨sl,e⟩:=I.base.slot L o ho (I.ok.frf L hL) hL fun z=>I.ok.exfs L z hL;exact⟨hk,⟨L,_,hf,hn,e,hd⟩,ih (fun b hb=>hs b (by unfold frs;rw [HK,hf];exact EM _ hb)) hr⟩
 exact all X.outer (fun _ hb=>hb) I.ok.funs
theorem Inv.stack (I:Inv X Ku σ H s):s.heap.FunFrames X.base X.stack:=by
 rcases I.ok.stk with e | ⟨e,hf⟩
 ·rw [e];exact I.funs
 ·rw [e];obtain⟨m,hn,_⟩:=I.loc;refine .cons (by rw [I.ok.kind];decide) hf hn ?_ I.funs;exact Heap.get?_none_of_le (Fm I.ok.bsz I.ok.above)
theorem Inv.stkSub (I:Inv X Ku σ H s):∀ b∈frs X.stack,b∈X.env.locals :: X.fs:=fun b hb=>by
 rcases I.ok.stk with e | ⟨e,hf⟩
 ·rw [e] at hb;exact EM _ hb
 ·rw [e] at hb;unfold frs at hb;rw [HK,hf] at hb;exact hb
theorem Inv.stkFree (I:Inv X Ku σ H s):∀ b∈frs X.stack,H b=none:=fun b hb=>by
 rcases EW.mp (I.stkSub b hb) with e | hb
 ·rw [e];exact I.free
 ·obtain⟨_,o,ho,_⟩:=I.ok.funs.mem hb;exact I.base.free b o ho (I.ok.frf b hb) fun z=>I.ok.exfs b z hb
theorem Inv.step {g':Array GenState} {t':Nat} {d':Drawn} {ch:List EL} (I:Inv X Ku σ H s)
  (hch:∀ b∈ch,(b∈X.ex \/ X.s₀.heap.objs.size<=b)/\b≠X.env.locals/\(∀ x c,X.env.cells.lookup x=some c->c≠b)/\∀ p∈X.pn++Ku,p.1≠b)
  (keep:∀ b o,b≠X.env.locals->b∉X.fs->b∉ch->s.heap.get? b=some o->H b=none->h'.get? b=some o)
  (slot:∀ b o,b≠X.env.locals->b∈X.fs->b∉ch->s.heap.get? b=some o->H b=none->∃ sl,h'.get? b=some { o with slots:=sl }) (free:∀ b o,b∉ch->s.heap.get? b=some o->H b=none->H' b=none)
  (there:∀ b o,b∉ch->s.heap.get? b=some o->∃ o',h'.get? b=some o')
  (tups:∀ b xs,H b=some (.tup xs)->H' b=some (.tup xs)) (frzs:∀ b o u,H b=some (.frz o u)->H' b=some (.frz o u)) (tbls:∀ b q,H b=some (.tbl q)->H' b=some (.tbl q))
  (ns:∀ m,s.heap.Ns X.env.locals m->h'.Ns X.env.locals m) (hok:HOk X.prog X.w H' h') (hg:AllBare g') :
  Inv X Ku σ H' { s with heap:=h',gens:=g',drawn:=d',toks:=t' }:=by
 have neL:∀ b o,X.s₀.heap.get? b=some o->b≠X.env.locals:=fun b o e=>Fp (Fb (E4 e) I.ok.above);have neC:∀ b o,X.s₀.heap.get? b=some o->b∉X.ex->b∉ch:=fun b o e hx hb=>by
  rcases (hch b hb).1 with z | z
  ·exact hx z
  ·exact absurd (Fb (E4 e) z) (Gi _)
 have cellK:∀ x c,X.env.cells.lookup x=some c->∀ v,s.heap.IsCell c v->h'.IsCell c v:=fun x c e v ⟨o,ho,hd⟩=>by
  have nch:c∉ch:=fun z=>(hch c z).2.2.1 x c e rfl;by_cases hc:c∈X.fs
  ·obtain⟨sl,q⟩:=slot c o (I.cne x c e) hc nch ho (I.freeC x c e);exact⟨_,q,hd⟩
  ·exact⟨o,keep c o (I.cne x c e) hc nch ho (I.freeC x c e),hd⟩
 refine⟨I.ok,I.os,hg,⟨fun b o e n hb hx=>?_,fun b o e n hb hx=>?_,fun b o e n hx=>?_,fun b o e hx=>?_,fun b xs e=>tups b xs (I.base.tups b xs e),fun b o xs e=>frzs b o xs (I.base.frzs b o xs e),fun b ps e=>?_⟩,?_,fun x c e=>?_,?_,fun x c e=>?_,fun p hp=>?_,hok,I.len⟩
 ·exact keep b o (neL b o e) hb (neC b o e hx) (I.base.keep b o e n hb hx) (I.base.free b o e n hx)
 ·obtain⟨sl,e1⟩:=I.base.slot b o e n hb hx;obtain⟨sl',e2⟩:=slot b _ (neL b o e) hb (neC b o e hx) e1 (I.base.free b o e n hx);exact⟨sl',e2⟩
 ·obtain⟨o',e1⟩:=I.base.there b o e hx;exact free b o' (neC b o e hx) e1 (I.base.free b o e n hx)
 ·obtain⟨o',e1⟩:=I.base.there b o e hx;exact there b o' (neC b o e hx) e1
 ·exact tbls b _ (I.base.tbls b _ e)
 ·obtain⟨m,hn,hl⟩:=I.loc;refine⟨m,ns m hn,fun i x v e1 e2 e3=>?_⟩;obtain⟨u,r,l⟩:=hl i x v e1 e2 e3;refine⟨u,r,?_⟩;rcases l with l | ⟨k,c,e,z⟩
  ·exact .inl l
  ·exact .inr ⟨k,c,e,cellK x c e _ z⟩
 ·obtain⟨v,z⟩:=I.cell x c e;exact⟨v,cellK x c e v z⟩
 ·obtain⟨m,⟨o,_,_,ho,_⟩,_⟩:=I.loc;exact free _ o (fun z=>(hch _ z).2.1 rfl) ho I.free
 ·obtain⟨v,o,ho,hd⟩:=I.cell x c e;exact free c o (fun z=>(hch c z).2.2.1 x c e rfl) ho (I.freeC x c e)
 ·obtain⟨e,n,ne,nf,d⟩:=I.pin p hp;have nch:p.1∉ch:=fun z=>(hch p.1 z).2.2.2 p hp rfl;exact⟨keep p.1 p.2 ne nf nch e n,free p.1 p.2 nch e n,ne,nf,d⟩
theorem Inv.un {t':Nat} (I:Inv X Ku σ H s) (u:Un X.fs [] H H' s.heap h') (hok:HOk X.prog X.w H' h'):Inv X Ku σ H' { s with heap:=h',toks:=t' }:=by
 obtain⟨m,⟨o,es,ep,ho,r⟩,_⟩:=id I.loc;obtain⟨sl,hL⟩:=u.any ho I.free (by simp);exact I.step (g':=s.gens) (d':=s.drawn) (ch:=[]) (fun _ z=>nomatch z) (fun b o _ hb _ e n=>u.keep b o e n hb (by simp)) (fun b o _ hb _ e n=>u.slot b o e n hb (by simp)) (fun b o _ e n=>u.free b o e n (by simp)) (fun b o _ e=>u.there b o e (by simp)) u.tups u.frzs u.tbls (fun m' hm=>by
  obtain⟨o',es',ep',ho',r'⟩:=hm;rw [ho] at ho';cases ho';exact⟨_,es',ep',hL,r'⟩) hok I.bare
theorem Inv.call {g':Array GenState} {t':Nat} {d':Drawn} {ch:List EL} (I:Inv X Ku σ H s) (u:Un (frs X.stack) ch H H' s.heap h') (hok:HOk X.prog X.w H' h') (hg:AllBare g')
  (hch:∀ b∈ch,(b∈X.ex \/ X.s₀.heap.objs.size<=b)/\b≠X.env.locals/\(∀ x c,X.env.cells.lookup x=some c->c≠b)/\∀ p∈X.pn++Ku,p.1≠b) :
  Inv X Ku σ H' { s with heap:=h',gens:=g',drawn:=d',toks:=t' }:=by
 obtain⟨m,⟨o,es,ep,ho,r⟩,_⟩:=id I.loc;obtain⟨sl,hL⟩:=u.any ho I.free fun z=>(hch _ z).2.1 rfl;exact I.step (ch:=ch) hch (fun b o hL hb hc e n=>u.keep b o e n (fun z=>(EW.mp (I.stkSub b z)).elim hL hb) hc) (fun b o _ _ hc e n=>u.any e n hc) (fun b o hc e n=>u.free b o e n hc) (fun b o hc e=>u.there b o e hc) u.tups u.frzs u.tbls (fun m' hm=>by
  obtain⟨o',es',ep',ho',r'⟩:=hm;rw [ho] at ho';cases ho';exact⟨_,es',ep',hL,r'⟩) hok hg
theorem Inv.turned {t':Nat} {it:EL} (I:Inv X Ku σ H s) (k:∀ b o,b≠it->s.heap.get? b=some o->h'.get? b=some o) (hn:H it=none) (hL:it≠X.env.locals)
  (h1:it∈X.ex \/ X.s₀.heap.objs.size<=it) (h2:∀ x c,X.env.cells.lookup x=some c->c≠it) (h3:∀ p∈X.pn++Ku,p.1≠it):Inv X Ku σ H { s with heap:=h',toks:=t' }:=by
 have nit:∀ b u,H b=some u->b≠it:=fun b u e z=>by rw [z,hn] at e;cases e
 refine I.step (g':=s.gens) (d':=s.drawn) (ch:=[it]) (fun b hb=>?_) (fun b o _ _ hc e _=>k b o (fun z=>hc (by simp [z])) e) (fun b o _ _ hc e _=>⟨o.slots,k b o (fun z=>hc (by simp [z])) e⟩) (fun _ _ _ _ n=>n)
  (fun b o hc e=>⟨o,k b o (fun z=>hc (by simp [z])) e⟩) (fun _ _ e=>e) (fun _ _ _ e=>e) (fun b ps e=>by exact e) (fun m hm=>?_) (fun b u e=>?_) I.bare
 ·have e:b=it:=by simpa using hb
  subst e;exact⟨h1,hL,h2,h3⟩
 ·obtain⟨o,es,ep,ho,r⟩:=hm;exact⟨o,es,ep,k _ o (F6 hL) ho,r⟩
 ·refine (I.hok b u e).stay (fun c v hc q=>k c v ?_ q) (fun _ q=>q) fun _ _ q=>q;rcases hc with z | z
  ·rw [z];exact nit b u e
  ·exact nit c _ z
theorem Inv.tok (I:Inv X Ku σ H s) (t:Nat):Inv X Ku σ H { s with toks:=t }:=I.un (h':=s.heap) (t':=t) Un.refl I.hok
theorem Inv.kept {t':Nat} (I:Inv X Ku σ H s) (k:∀ b u,s.heap.get? b=some u->h'.get? b=some u):Inv X Ku σ H { s with heap:=h',toks:=t' }:=I.un (Un.kept k) (I.hok.kept k)
theorem Inv.laid {a:EL} {o:HO} {t':Nat} (I:Inv X Ku σ H s) (k:∀ b u,s.heap.get? b=some u->h'.get? b=some u) (hp:s.heap.objs.size<=a) (new:ObjOk X.prog X.w (upd H a o) h' a o) :
  Inv X Ku σ (upd H a o) { s with heap:=h',toks:=t' }:=I.un (Un.laid k hp (I.hok.fresh hp)) (I.hok.laid k hp new)
theorem Inv.write {x e:EL} {o:HO} {t':Nat} (I:Inv X Ku σ H s) (mu:Mut (H x)) (he:e=x \/ H e=some (.own x)) (k:∀ b u,b≠e->s.heap.get? b=some u->h'.get? b=some u) (heo:∃ u,h'.get? e=some u)
  (new:ObjOk X.prog X.w (upd H x o) h' x o):Inv X Ku σ (upd H x o) { s with heap:=h',toks:=t' }:=I.un (Un.write mu he k heo) (I.hok.write mu he k heo new)
theorem Inv.pins_of {pins':List (EL×Obj)} (I:Inv X Ku σ H s) (h:∀ p∈pins',s.heap.get? p.1=some p.2/\H p.1=none/\p.1≠X.env.locals/\p.1∉X.fs/\∀ v,p.2.data≠.cell v):Inv X pins' σ H s :=
 ⟨I.ok,I.os,I.bare,I.base,I.loc,I.cell,I.free,I.freeC,fun p hp=>(Fj.mp hp).elim (fun z=>I.pin p (FE _ z)) (h p),I.hok,I.len⟩
theorem iR {N:List Str} (hN:N.Nodup) {i j:Nat} {x:Str} (a:N[i]?=some x) (b:N[j]?=some x):i=j:=by
 obtain⟨h1,e1⟩:=EH.mp a;obtain⟨h2,e2⟩:=EH.mp b;exact (Hw hN).mp (e1.trans e2.symm)
theorem fC {M:Model} {A:Around} {E:Value->Shared->Prop} {i:Nat} {x:Str} {v:V} {u:Value} {Q:Unit->Shared->Prop} (I:Inv X Ku σ H s) (hN:X.N.Nodup) (hi:X.N[i]?=some x) (hx:Loc X.env.scope x) (r:RelV v u)
  (h:∀ s',Inv X Ku (σ.set i (some v)) H s'->(∃ a,He a s.heap s'.heap/\(a=X.env.locals \/ X.env.cells.lookup x=some a))->Q () s') (hf:X.fn x=true \/ X.env.scope.names.lookup x=some .local:=by first | exact .inl rfl | exact .inr rfl | assumption):Fd M A (storeName X.env x u) Q E s:=by
 obtain⟨m,hn,hl⟩:=id I.loc;have hcls:(X.env.scope.kind == .class || (X.env.scope.kind == .module && X.env.locals != X.env.globals))=false:=by rw [I.ok.kind];rfl
 have hiσ:i<σ.length:=by rw [I.len];exact (EH.mp hi).1
 have cne:=I.cne;have tracked:∀ {a:EL} {h':Heap},(∃ o,s.heap.get? a=some o/\H a=none)->He a s.heap h'->HOk X.prog X.w H h':=fun {a h'} ha hs b ob e=>by
  obtain⟨_,_,hfree⟩:=ha;refine (I.hok b ob e).stay (fun c w' hc q=>(hs.2 c ?_).trans q) (fun _ q=>q) fun _ _ q=>q;rintro rfl;rcases hc with rfl | hc
  ·rw [hfree] at e;cases e
  ·rw [hfree] at hc;cases hc
 rcases hx with hk | hk
 ·refine wpAny_storeName_local hk hn (fun h' hn' hs=>?_) hcls;obtain⟨oL,_,_,hoL,_⟩:=id hn;refine h _ ⟨I.ok,I.os,I.bare,⟨fun b o e n hb hx=>?_,fun b o e n hb hx=>?_,I.base.free,fun b o e hx=>?_,I.base.tups,I.base.frzs,I.base.tbls⟩,⟨_,hn',fun j y v' e1 e2 e3=>?_⟩,fun y c e=>?_,I.free,I.freeC,fun p hp=>?_,tracked ⟨oL,hoL,I.free⟩ hs,by simpa using I.len⟩ ⟨_,hs,.inl rfl⟩
  ·exact (hs.2 b (Fp (Fb (E4 e) I.ok.above))).trans (I.base.keep b o e n hb hx)
  ·obtain⟨sl,e1⟩:=I.base.slot b o e n hb hx;exact⟨sl,(hs.2 b (Fp (Fb (E4 e) I.ok.above))).trans e1⟩
  ·obtain⟨o',e1⟩:=I.base.there b o e hx;exact⟨o',(hs.2 b (Fp (Fb (E4 e) I.ok.above))).trans e1⟩
  ·by_cases hj:j=i
   ·subst hj;rw [hi] at e1;cases e1;rw [Gs hiσ] at e2;cases e2;exact⟨u,r,.inl ⟨hk,by simp⟩⟩
   ·rw [G1 (F6 hj)] at e2;obtain⟨u',r',q⟩:=hl j y v' e1 e2 e3;refine⟨u',r',?_⟩;rcases q with⟨k,e⟩ | ⟨k,c,e,z⟩
    ·refine .inl ⟨k,?_⟩;have:y≠x:=fun e=>hj (iR hN e1 (e▸hi));simp [this,e]
    ·exact .inr ⟨k,c,e,z.sameBut hs (cne y c e)⟩
  ·obtain⟨w',z⟩:=I.cell y c e;exact⟨w',z.sameBut hs (cne y c e)⟩
  ·obtain⟨e,n,ne,nf,d⟩:=I.pin p hp;exact⟨(hs.2 p.1 ne).trans e,n,ne,nf,d⟩
 ·have hfn:X.fn x=true:=by
   rcases hf with z | z
   ·exact z
   ·rw [z] at hk;cases hk
  obtain⟨c,hc⟩:=I.ok.has x (.inl hk);obtain⟨w',z⟩:=I.cell x c hc;refine wpAny_storeName_cell I.ok.kind hk hc z (fun h' hc' hs=>?_);obtain⟨oc,hoc,hocd⟩:=id z;refine h { s with heap:=h' } ⟨I.ok,I.os,I.bare,⟨fun b o e n hb hx=>?_,fun b o e n hb hx=>?_,I.base.free,fun b o e hx=>?_,I.base.tups,I.base.frzs,I.base.tbls⟩,⟨m,hn.sameBut hs (F6 (cne x c hc)),fun j y v' e1 e2 e3=>?_⟩,fun y c' e=>?_,I.free,I.freeC,fun p hp=>?_,tracked ⟨oc,hoc,I.freeC x c hc⟩ hs,by simpa using I.len⟩ ⟨c,hs,.inr hc⟩
  ·exact (hs.2 b (Fp (Fb (E4 e) (I.ok.cab x c hfn hc)))).trans (I.base.keep b o e n hb hx)
  ·obtain⟨sl,e1⟩:=I.base.slot b o e n hb hx;exact⟨sl,(hs.2 b (Fp (Fb (E4 e) (I.ok.cab x c hfn hc)))).trans e1⟩
  ·obtain⟨o',e1⟩:=I.base.there b o e hx;exact⟨o',(hs.2 b (Fp (Fb (E4 e) (I.ok.cab x c hfn hc)))).trans e1⟩
  ·by_cases hj:j=i
   ·subst hj;rw [hi] at e1;cases e1;rw [Gs hiσ] at e2;cases e2;exact⟨u,r,.inr ⟨.inl hk,c,hc,hc'⟩⟩
   ·rw [G1 (F6 hj)] at e2;obtain⟨u',r',q⟩:=hl j y v' e1 e2 e3;refine⟨u',r',?_⟩;rcases q with q | ⟨k,c',e,z'⟩
    ·exact .inl q
    ·refine .inr ⟨k,c',e,z'.sameBut hs ?_⟩;rintro rfl;exact hj (iR hN e1 (I.ok.inj _ _ _ e hc▸hi))
  ·by_cases hcc:c'=c
   ·subst hcc;exact⟨_,hc'⟩
   ·obtain⟨w2,z2⟩:=I.cell y c' e;exact⟨w2,z2.sameBut hs hcc⟩
  ·obtain⟨e,n,ne,nf,d⟩:=I.pin p hp;refine⟨(hs.2 p.1 ?_).trans e,n,ne,nf,d⟩;intro q;rw [q,hoc] at e;have q':oc=p.2:=Option.some.inj e;exact d w' (by rw [<-q'];exact hocd)
theorem bj {M:Model} {A:Around} {E:Value->Shared->Prop} {i:Nat} {x:Str} {v:V} {u:Value} {Q:Unit->Shared->Prop} (I:Inv X Ku σ H s) (hN:X.N.Nodup) (hi:X.N[i]?=some x) (hx:Loc X.env.scope x) (r:RelV v u)
  (h:∀ s',Inv X Ku (σ.set i (some v)) H s'->Q () s') (hf:X.fn x=true \/ X.env.scope.names.lookup x=some .local:=by first | exact .inl rfl | exact .inr rfl | assumption):Fd M A (storeName X.env x u) Q E s :=
 fC I hN hi hx r (fun s' I' _=>h s' I') hf
theorem Inv.call' {s':Shared} {ch:List EL} (I:Inv X Ku σ H s) (ho:s'.os=s.os) (u:Un (frs X.stack) ch H H' s.heap s'.heap) (hok:HOk X.prog X.w H' s'.heap) (hg:AllBare s'.gens)
  (hch:∀ b∈ch,(b∈X.ex \/ X.s₀.heap.objs.size<=b)/\b≠X.env.locals/\(∀ x c,X.env.cells.lookup x=some c->c≠b)/\∀ p∈X.pn++Ku,p.1≠b):Inv X Ku σ H' s':=by
 obtain⟨h',g',d',t',o'⟩:=s';have e:o'=s.os:=ho;subst e;exact I.call (g':=g') (t':=t') (d':=d') u hok hg hch
end
abbrev XK:=Value->Option EL->Hp->Prop
abbrev St:=List (Option V)
abbrev VK:=V->Hp->Prop
abbrev TE:=St->Hp->VK->Prop
noncomputable abbrev TT:=St->Hp->(Bool->Hp->Prop)->Prop
abbrev TA:=St->Hp->(List V->Hp->Prop)->Prop
structure Ends where
 nx:St->Hp->Prop
 rt:VK
 bk:St->Hp->Prop:=fun _ _=>False
 ct:St->Hp->Prop:=fun _ _=>False
abbrev TS:=Ends->St->Hp->Prop
def EP (X:Cx) (Ku:List (EL×Obj)) (σ:St) (Q:VK) (u:Value) (s':Shared):Prop:=∃ v H',Inv X Ku σ H' s'/\RelV v u/\Q v H'
def TP (X:Cx) (Ku:List (EL×Obj)) (σ:St) (Q:Bool->Hp->Prop) (b:Bool) (s':Shared):Prop:=∃ H',Inv X Ku σ H' s'/\Q b H'
def AP (X:Cx) (Ku:List (EL×Obj)) (σ:St) (Q:List V->Hp->Prop) (us:List Value) (s':Shared):Prop:=∃ vs H',Inv X Ku σ H' s'/\Vals vs us/\Q vs H'
def SP (X:Cx) (Ku:List (EL×Obj)) (D:Ends) (f:Flow) (s':Shared):Prop :=
 match f with
 | .next=>∃ σ' H',Inv X Ku σ' H' s'/\D.nx σ' H'
 | .brk=>∃ σ' H',Inv X Ku σ' H' s'/\D.bk σ' H'
 | .cont=>∃ σ' H',Inv X Ku σ' H' s'/\D.ct σ' H'
 | .ret u=>∃ v σ' H',Inv X Ku σ' H' s'/\RelV v u/\D.rt v H'
def PE (X:Cx) (e:Expr) (t:TE):Prop :=
 ∀ (Ku:List (EL×Obj)) (s:Shared) (σ:St) (H:Hp) (Q:VK),Inv X Ku σ H s->t σ H Q->Fd (model X.prog X.w) X.A (eval e X.env) (EP X Ku σ Q) X.xe s
def PT (X:Cx) (e:Expr) (t:TT):Prop :=
 ∀ (Ku:List (EL×Obj)) (s:Shared) (σ:St) (H:Hp) (Q:Bool->Hp->Prop),Inv X Ku σ H s->t σ H Q->Fd (model X.prog X.w) X.A (isTrue e X.env (eval e X.env)) (TP X Ku σ Q) X.xe s
def PW (X:Cx) (e:Expr) (t:TT):Prop :=
 ∀ (whole:Sem Value) (Ku:List (EL×Obj)) (s:Shared) (σ:St) (H:Hp) (Q:Bool->Hp->Prop),Inv X Ku σ H s->t σ H Q->Fd (model X.prog X.w) X.A (isTrue e X.env whole) (TP X Ku σ Q) X.xe s
theorem PW.pt {X:Cx} {e:Expr} {t:TT} (h:PW X e t):PT X e t:=h _
def PA (X:Cx) (es:List Expr) (t:TA):Prop :=
 ∀ (pos:Pos) (Ku:List (EL×Obj)) (s:Shared) (σ:St) (H:Hp) (Q:List V->Hp->Prop),Inv X Ku σ H s->t σ H Q->Fd (model X.prog X.w) X.A (spliced (backTo pos (FA es X.env))) (AP X Ku σ Q) X.xe s
def PS (X:Cx) (st:Stmt) (t:TS):Prop :=
 ∀ (Ku:List (EL×Obj)) (s:Shared) (σ:St) (H:Hp) (D:Ends),Inv X Ku σ H s->t D σ H->Fd (model X.prog X.w) X.A (exec st X.env) (SP X Ku D) X.xe s
def PSs (X:Cx) (st:List Stmt) (t:TS):Prop :=
 ∀ (Ku:List (EL×Obj)) (s:Shared) (σ:St) (H:Hp) (D:Ends),Inv X Ku σ H s->t D σ H->Fd (model X.prog X.w) X.A (execs st X.env) (SP X Ku D) X.xe s
theorem thn {α:Type} {t:Sem α} {Q Q':α->Shared->Prop} {M:Model} {A:Around} {E:Value->Shared->Prop} {s:Shared} (h:Fd M A t Q E s) (hQ:∀ a s,Q a s->Q' a s):Fd M A t Q' E s:=GN h hQ fun _ _ x=>x
section
variable {X:Cx}
def yi (i:Nat):TE:=fun σ H Q=>∃ v,σ[i]?=some (some v)/\Q v H
def tC (v:V):TE:=fun _ H Q=>Q v H
theorem B2 {i:Nat} {x:Str} {pos:Pos} (hN:X.N[i]?=some x) (hv:Vis X.env.scope x) (hd:(x == ("__debug__":Str))=false:=by decide) (hcd:(x == ("__classdict__":Str))=false:=by decide):PE X (.Name x pos) (yi i):=by
 intro Ku s σ H Q I h;obtain⟨v,e,h⟩:=h;obtain⟨m,hn,hl⟩:=I.loc;obtain⟨u,r,l⟩:=hl i x v hN e hv;have fin:EP X Ku σ Q u s:=⟨v,H,I,r,h⟩;rcases l with⟨hk,hm⟩ | ⟨hk,c,hc,hcell⟩
 ·exact wpAny_Name (wpAny_loadName_local I.ok.kind hk hn hm fin) hd
 ·rcases hk with hk | hk
  ·exact wpAny_Name (wpAny_loadName_cell I.ok.kind hk hc hcell fin) hd
  ·exact wpAny_Name (wpAny_loadName_free I.ok.kind hk hc hcell fin hcd) hd
theorem zd {i j pos}:PE X (.Constant (.int i) j pos) (tC (.int i)):=fun _ _ _ H _ I h=>wpAny_Constant_int ⟨.int i,H,I.tok _,⟨_,rfl⟩,h⟩
theorem vR {b j pos}:PE X (.Constant (.bool b) j pos) (tC (.bl b)):=fun _ _ _ H _ I h=>Constant_bool ⟨.bl b,H,I,rfl,h⟩
theorem aQ {j pos}:PE X (.Constant .none j pos) (tC .non):=fun _ _ _ H _ I h=>Constant_none ⟨.non,H,I,rfl,h⟩
theorem vS {x j pos}:PE X (.Constant (.str x) j pos) (tC (.str x)):=fun _ _ _ H _ I h=>Calls.Constant_str ⟨.str x,H,I.tok _,⟨_,rfl⟩,h⟩
def Gl (X:Cx) (x:Str):Prop:=X.env.kindOf x=some .globalImplicit
theorem gF {E:Value->Shared->Prop} {Ku:List (EL×Obj)} {s:Shared} {σ:St} {H:Hp} {x:Str} {u:Value} {pos:Pos} {Q:Value->Shared->Prop} (I:Inv X Ku σ H s) (hg:Gl X x) (hm:X.mg x=some u) (h:Q u s)
  (hd:(x == ("__debug__":Str))=false:=by decide):Fd (model X.prog X.w) X.A (eval (.Name x pos) X.env) Q E s :=
 IU I.ok.kind hg (Calls.loadGlobal_global (by rw [I.ok.glob];exact I.mod.glob.keeps I.bk) hm h) hd
theorem aR {E:Value->Shared->Prop} {Ku:List (EL×Obj)} {s:Shared} {σ:St} {H:Hp} {x:Str} {u:Value} {pos:Pos} {Q:Value->Shared->Prop} (I:Inv X Ku σ H s) (hg:Gl X x) (hm:X.mg x=none) (hv:bootBuiltins x=some u) (h:Q u s)
  (hn:x ≠ "__name__":=by decide) (hd:(x == ("__debug__":Str))=false:=by decide):Fd (model X.prog X.w) X.A (eval (.Name x pos) X.env) Q E s:=by
 obtain⟨mb,h1,h2⟩:=I.mod.blt;exact IU I.ok.kind hg (Calls.loadGlobal_builtin (by rw [I.ok.glob];exact I.mod.glob.keeps I.bk) hm (by rw [I.ok.blt];exact h1.keeps I.bk) ((h2 x hn).trans hv) h) hd
theorem xK {x:Str} {v:V} {u:Value} {pos:Pos} (hg:Gl X x) (hm:X.mg x=some u) (r:RelV v u) (hd:(x == ("__debug__":Str))=false:=by decide):PE X (.Name x pos) (tC v) :=
 fun _ _ _ H _ I h=>gF I hg hm ⟨v,H,I,r,h⟩ hd
variable {a b:Expr} {ta tb:TE} {pos:Pos}
def tB (t:TE):TT:=fun σ H Q=>t σ H fun x H1=>∃ c,x=.bl c/\Q c H1
variable {tA tB':TT} {rest:List Expr}
def DE (t u:TT):TT:=fun σ H Q=>t σ H fun c H1=>if c=true then u σ H1 Q else Q false H1
def tOr (t u:TT):TT:=fun σ H Q=>t σ H fun c H1=>if c=true then Q true H1 else u σ H1 Q
def DF (t:TT):TT:=fun σ H Q=>t σ H fun c H1=>Q (!c) H1
theorem nK (ha:PT X a tA):PW X (.BoolOp .And [a] pos) tA:=by
 intro wh Ku s σ H Q I h;refine isTrue_and (thn (ha Ku s σ H Q I h) fun c s1 e=>?_);cases c with
 | true=>exact isTrue_and_nil e
 | false=>exact e
theorem l4 (ha:PT X a tA):PW X (.BoolOp .Or [a] pos) tA:=by
 intro wh Ku s σ H Q I h;refine isTrue_or (thn (ha Ku s σ H Q I h) fun c s1 e=>?_);cases c with
 | false=>exact isTrue_or_nil e
 | true=>exact e
theorem t5 (ha:PT X a tA) (hb:PW X (.BoolOp .And (b :: rest) pos) tB'):PW X (.BoolOp .And (a :: b :: rest) pos) (DE tA tB'):=by
 intro wh Ku s σ H Q I h;refine isTrue_and (thn (ha Ku s σ H _ I h) fun c s1 ⟨H1,I1,q1⟩=>?_);cases c with
 | true=>exact hb wh Ku s1 σ H1 Q I1 q1
 | false=>exact⟨H1,I1,q1⟩
theorem t6 (ha:PT X a tA) (hb:PW X (.BoolOp .Or (b :: rest) pos) tB'):PW X (.BoolOp .Or (a :: b :: rest) pos) (tOr tA tB'):=by
 intro wh Ku s σ H Q I h;refine isTrue_or (thn (ha Ku s σ H _ I h) fun c s1 ⟨H1,I1,q1⟩=>?_);cases c with
 | true=>exact⟨H1,I1,q1⟩
 | false=>exact hb wh Ku s1 σ H1 Q I1 q1
theorem dG (ha:PT X a tA):PT X (.UnaryOp .Not a pos) (DF tA):=by
 intro Ku s σ H Q I h;exact isTrue_not (ha Ku s σ H (fun c H1=>Q (!c) H1) I h)
def t7 (ta tb:TE):TE:=fun σ H Q=>ta σ H fun x H1=>∃ c,x=.bl c/\if c=true then tb σ H1 Q else Q (.bl false) H1
def DG (ta tb:TE):TE:=fun σ H Q=>ta σ H fun x H1=>∃ c,x=.bl c/\if c=true then Q (.bl true) H1 else tb σ H1 Q
def Bt (ta:TE):TE:=fun σ H Q=>ta σ H fun x H1=>∃ c,x=.bl c/\Q (.bl (!c)) H1
theorem b6 {op} {t:TE} (h:PE X a t):PE X (.BoolOp op [a] pos) t:=fun Ku s σ H Q I hw=>BoolOp_one (h Ku s σ H Q I hw)
theorem aS (ha:PE X a ta) (hb:PE X (.BoolOp .And (b :: rest) pos) tb):PE X (.BoolOp .And (a :: b :: rest) pos) (t7 ta tb):=by
 intro Ku s σ H Q I h;refine BoolOp_and (thn (ha Ku s σ H _ I h) fun v s1 ⟨x,H1,I1,r1,q1⟩=>?_);obtain⟨c,rfl,q1⟩:=q1;cases r1;refine Gy ?_;cases c with
 | true=>exact hb Ku s1 σ H1 Q I1 q1
 | false=>exact⟨.bl false,H1,I1,rfl,q1⟩
theorem DH (ha:PE X a ta) (hb:PE X (.BoolOp .Or (b :: rest) pos) tb):PE X (.BoolOp .Or (a :: b :: rest) pos) (DG ta tb):=by
 intro Ku s σ H Q I h;refine BoolOp_or (thn (ha Ku s σ H _ I h) fun v s1 ⟨x,H1,I1,r1,q1⟩=>?_);obtain⟨c,rfl,q1⟩:=q1;cases r1;refine Gy ?_;cases c with
 | false=>exact hb Ku s1 σ H1 Q I1 q1
 | true=>exact⟨.bl true,H1,I1,rfl,q1⟩
theorem B3 (ha:PE X a ta):PE X (.UnaryOp .Not a pos) (Bt ta):=by
 intro Ku s σ H Q I h;refine UnaryOp_ (thn (ha Ku s σ H _ I h) fun v s1 ⟨x,H1,I1,r1,q1⟩=>?_);obtain⟨c,rfl,q1⟩:=q1;cases r1;exact not_of (Gy ⟨.bl (!c),H1,I1,rfl,q1⟩)
def tIf (t:TT) (ta tb:TE):TE:=fun σ H Q=>t σ H fun c H1=>if c=true then ta σ H1 Q else tb σ H1 Q
theorem vT {c:Expr} (hc:PT X c tA) (ha:PE X a ta) (hb:PE X b tb):PE X (.IfExp c a b pos) (tIf tA ta tb):=by
 intro Ku s σ H Q I h;refine wpAny_IfExp (thn (hc Ku s σ H _ I h) fun d s1 ⟨H1,I1,q1⟩=>?_);cases d with
 | true=>exact ha Ku s1 σ H1 Q I1 q1
 | false=>exact hb Ku s1 σ H1 Q I1 q1
end
def SqL (K:EI) (H:Hp) (a:EL) (xs:List V):Prop :=
 Rd H a (.lst xs) \/
  ∃ (o:Obj) (its:Array Value) (n:Nat),K.lookup a=some o/\o.cls=.type "list"/\o.dict=none/\o.data=.seq its n/\its.size<=Fu/\Vals xs its.toList
def SqT (K:EI) (H:Hp) (a:EL) (xs:List V):Prop :=
 Rd H a (.tup xs) \/
  ∃ (o:Obj) (its:Array Value) (n:Nat),K.lookup a=some o/\o.cls=.type "tuple"/\o.data=.seq its n/\its.size<=Fu/\Vals xs its.toList
noncomputable def Ep:Value->Option V
 | .none=>some .non
 | .bool b=>some (.bl b)
 | .int i _=>some (.int i)
 | .str x _=>some (.str x)
 | .bytes b _=>some (.byt b)
 | .float b _=>some (.flt b)
 | .ref a=>some (.ref a)
 | .type n=>some (.ty n)
 | _=>none
theorem RelV.abs {x:V} {u:Value} (r:RelV x u):Ep u=some x:=by
 cases x with
 | non=>cases r;rfl
 | bl _=>cases r;rfl
 | int _=>obtain⟨t,rfl⟩:=r;rfl
 | str _=>obtain⟨t,rfl⟩:=r;rfl
 | byt _=>obtain⟨t,rfl⟩:=r;rfl
 | flt _=>obtain⟨t,rfl⟩:=r;rfl
 | ref _=>cases r;rfl
 | ty _=>cases r;rfl
theorem RelV.inj {x y:V} {u:Value} (r:RelV x u) (q:RelV y u):x=y:=Option.some.inj (r.abs.symm.trans q.abs)
theorem Vals.inj:∀ {xs ys:List V} {us:List Value},Vals xs us->Vals ys us->xs=ys
 | _,_,_,.nil,.nil=>rfl
 | _,_,_,.cons r t,.cons r' t'=>by rw [r.inj r',Vals.inj t t']
section
variable {X:Cx} {Ku:List (EL×Obj)} {σ:St} {H:Hp} {s:Shared} {a:EL} {xs ys:List V}
theorem SqL.of {K:EI} (h:H a=some (.lst xs)):SqL K H a xs:=.inl (.inl h)
theorem SqT.of {K:EI} (h:H a=some (.tup xs)):SqT K H a xs:=.inl (.inl h)
theorem Inv.list (I:Inv X Ku σ H s) (h:SqL X.K H a xs):∃ its:List Value,Vals xs its/\PlainL s.heap a its.toArray/\xs.length<=Fu:=by
 rcases h with h | ⟨o,its,n,hk,hc,hd,hs,hz,r⟩
 ·obtain⟨z,its,n,r,e⟩:=h.ok I.hok;exact⟨its,r,⟨_,n,e,rfl,rfl,rfl⟩,z⟩
 ·refine⟨its.toList,r,⟨o,n,I.kIn a o hk,hc,hd,by simpa using hs⟩,?_⟩;have e:=r.length;simp only [E5] at e;omega
theorem Inv.tuple (I:Inv X Ku σ H s) (h:SqT X.K H a xs):∃ its:List Value,Vals xs its/\IsTup s.heap a its.toArray/\xs.length<=Fu:=by
 rcases h with h | ⟨o,its,n,hk,hc,hs,hz,r⟩
 ·obtain⟨z,its,r,p⟩:=h.ok I.hok;exact⟨its,r,p,z⟩
 ·refine⟨its.toList,r,⟨o,I.kIn a o hk,hc,n,by simpa using hs⟩,?_⟩;have e:=r.length;simp only [E5] at e;omega
theorem Inv.list_inj (I:Inv X Ku σ H s) (h:SqL X.K H a xs) (h':SqL X.K H a ys):xs=ys:=by
 obtain⟨its,r,⟨o,n,e,_,_,d⟩,_⟩:=I.list h;obtain⟨its',r',⟨o',n',e',_,_,d'⟩,_⟩:=I.list h';rw [e] at e';cases e';rw [d] at d';injection d' with d1 _;have:its=its':=by simpa using congrArg Array.toList d1
 subst this;exact r.inj r'
theorem Inv.tuple_inj (I:Inv X Ku σ H s) (h:SqT X.K H a xs) (h':SqT X.K H a ys):xs=ys:=by
 obtain⟨its,r,⟨o,e,_,n,d⟩,_⟩:=I.tuple h;obtain⟨its',r',⟨o',e',_,n',d'⟩,_⟩:=I.tuple h';rw [e] at e';cases e';rw [d] at d';injection d' with d1 _;have:its=its':=by simpa using congrArg Array.toList d1
 subst this;exact r.inj r'
end
noncomputable abbrev Cx.wish (X:Cx) (E:Value->Shared->Prop):Cx:={ X with xe:=E }
noncomputable abbrev Cx.nox (X:Cx):Cx:=X.wish fun _ _=>False
theorem Cx.Ok.wish {X:Cx} (ok:X.Ok) (E:Value->Shared->Prop):(X.wish E).Ok :=
 ⟨ok.mod,ok.kind,ok.glob,ok.blt,ok.above,ok.inj,ok.has,ok.cab,ok.hd,ok.frames,ok.stk,ok.exf,ok.bs,ok.bsz,ok.noex,ok.exfs,ok.funs,ok.frf,ok.tabs⟩
theorem Cx.Ok.unwish {X:Cx} {E:Value->Shared->Prop} (ok:(X.wish E).Ok):X.Ok :=
 ⟨ok.mod,ok.kind,ok.glob,ok.blt,ok.above,ok.inj,ok.has,ok.cab,ok.hd,ok.frames,ok.stk,ok.exf,ok.bs,ok.bsz,ok.noex,ok.exfs,ok.funs,ok.frf,ok.tabs⟩
section
variable {X:Cx} {Ku:List (EL×Obj)} {σ:St} {H:Hp} {s:Shared} {E:Value->Shared->Prop}
theorem Inv.wish (I:Inv X Ku σ H s) (E:Value->Shared->Prop):Inv (X.wish E) Ku σ H s:=⟨I.ok.wish E,I.os,I.bare,I.base,I.loc,I.cell,I.free,I.freeC,I.pin,I.hok,I.len⟩
theorem Inv.unwish (I:Inv (X.wish E) Ku σ H s):Inv X Ku σ H s:=⟨I.ok.unwish,I.os,I.bare,I.base,I.loc,I.cell,I.free,I.freeC,I.pin,I.hok,I.len⟩
theorem SP.unwish {D:Ends} {f:Flow} {s':Shared} (h:SP (X.wish E) Ku D f s'):SP X Ku D f s':=by
 cases f with
 | next=>obtain⟨σ',H',I,q⟩:=h;exact⟨σ',H',I.unwish,q⟩
 | brk=>obtain⟨σ',H',I,q⟩:=h;exact⟨σ',H',I.unwish,q⟩
 | cont=>obtain⟨σ',H',I,q⟩:=h;exact⟨σ',H',I.unwish,q⟩
 | ret u=>obtain⟨v,σ',H',I,r,q⟩:=h;exact⟨v,σ',H',I.unwish,r,q⟩
theorem PSs.nox {st:List Stmt} {t:TS} (h:PSs X.nox st t):PSs X st t:=fun Ku s σ H D I hw =>
 GN (h Ku s σ H D (I.wish _) hw) (fun _ _ q=>q.unwish) fun _ _ z=>Hf z
end
section
variable {X:Cx} {st:Stmt} {rest:List Stmt} {t u:TS} {e:Expr} {te:TE} {pos:Pos}
def iS:TS:=fun D σ H=>D.nx σ H
def bo (t u:TS):TS:=fun D σ H=>t { D with nx:=u D } σ H
theorem zV:PSs X [] iS:=fun _ _ σ H _ I h=>wpAny_execs_nil ⟨σ,H,I,h⟩
theorem zc (h1:PS X st t) (h2:PSs X rest u):PSs X (st :: rest) (bo t u):=by
 intro Ku s σ H D I h;refine wpAny_execs_cons (thn (h1 Ku s σ H { D with nx:=u D } I h) fun f s1 q=>?_);cases f with
 | next =>
  obtain⟨σ',H',I',q⟩:=q;exact h2 Ku s1 σ' H' D I' q
 | ret v=>exact q
 | brk=>exact q
 | cont=>exact q
theorem zh (h1:PS X st t):PSs X [st] t:=by
 intro Ku s σ H D I h;refine wpAny_execs_cons (thn (h1 Ku s σ H D I h) fun f s1 q=>?_);cases f with
 | next=>exact wpAny_execs_nil q
 | ret v=>exact q
 | brk=>exact q
 | cont=>exact q
theorem Inv.quiet {Ku:List (EL×Obj)} {σ:St} {H:Hp} {s:Shared} (I:Inv X Ku σ H s):interactive X.env=false:=by simp [interactive,I.ok.kind]
def iT (te:TE):TS:=fun D σ H=>te σ H fun _ H1=>D.nx σ H1
theorem jf (he:PE X e te) (hs:swapsWith e none pos.line X.env=pure false:=by rfl):PS X (.Expr e pos) (iT te):=by
 intro Ku s σ H D I h;exact wpAny_Expr_any (thn (he Ku s σ H _ I h) fun v s1 ⟨x,H1,I1,r1,q1⟩=>⟨σ,H1,I1,q1⟩) I.quiet hs
def iU (te:TE):TS:=fun D σ H=>te σ H D.rt
theorem zu (he:PE X e te):PS X (.Return (some e) pos) (iU te):=by
 intro Ku s σ H D I h;exact wpAny_Return_some (thn (he Ku s σ H _ I h) fun v s1 ⟨x,H1,I1,r1,q1⟩=>⟨x,σ,H1,I1,r1,q1⟩)
def rL (c:TT) (t u:TS):TS:=fun D σ H=>c σ H fun b H1=>if b=true then t D σ H1 else u D σ H1
theorem yC {c:Expr} {a b:List Stmt} {tc:TT} (hc:PT X c tc) (ha:PSs X a t) (hb:PSs X b u):PS X (.If c a b pos) (rL tc t u):=by
 intro Ku s σ H D I h;refine wpAny_If (thn (hc Ku s σ H _ I h) fun d s1 ⟨H1,I1,q1⟩=>?_);cases d with
 | true=>exact ha Ku s1 σ H1 D I1 q1
 | false=>exact hb Ku s1 σ H1 D I1 q1
def B4:TS:=fun _ _ _=>False
theorem iV:PS X st B4:=fun _ _ _ _ _ _ h=>h.elim
end
abbrev TG:=V->St->Hp->(St->Hp->Prop)->Prop
abbrev TGs:=List V->St->Hp->(St->Hp->Prop)->Prop
def PG (X:Cx) (target:Expr) (t:TG):Prop :=
 ∀ (Ku:List (EL×Obj)) (s:Shared) (σ:St) (H:Hp) (v:V) (u:Value) (Q:St->Hp->Prop),Inv X Ku σ H s->RelV v u->t v σ H Q ->
  Fd (model X.prog X.w) X.A (assign target X.env u) (fun _ s'=>∃ σ' H',Inv X Ku σ' H' s'/\Q σ' H') X.xe s
def PGs (X:Cx) (ts:List Expr) (t:TGs):Prop :=
 ∀ (Ku:List (EL×Obj)) (s:Shared) (σ:St) (H:Hp) (vs:List V) (us:List Value) (Q:St->Hp->Prop),Inv X Ku σ H s->Vals vs us->t vs σ H Q ->
  Fd (model X.prog X.w) X.A (assignInOrder ((assignEach ts X.env).map (·.2)) us) (fun _ s'=>∃ σ' H',Inv X Ku σ' H' s'/\Q σ' H') X.xe s
abbrev B5:=V->V->V->Hp->(Hp->Prop)->Prop
def xM (X:Cx) (t:B5):Prop :=
 ∀ (Ku:List (EL×Obj)) (s:Shared) (σ:St) (H:Hp) (o i v:V) (ov iv u:Value) (Q:Hp->Prop),Inv X Ku σ H s->RelV o ov->RelV i iv->RelV v u->t o i v H Q ->
  Fd (model X.prog X.w) X.A (setItem ov iv u) (fun _ s'=>∃ H',Inv X Ku σ H' s'/\Q H') X.xe s
section
variable {X:Cx} {pos:Pos}
def jD (i:Nat):TG:=fun v σ H Q=>Q (σ.set i (some v)) H
theorem zg {i:Nat} {x:Str} (hN:X.N.Nodup) (hi:X.N[i]?=some x) (hx:Loc X.env.scope x) (hf:X.fn x=true \/ X.env.scope.names.lookup x=some .local:=by first | exact .inl rfl | exact .inr rfl | assumption):PG X (.Name x pos) (jD i):=by
 intro Ku s σ H v u Q I r h;exact wpAny_assign_Name (bj I hN hi hx r (fun s' I'=>⟨_,H,I',h⟩) hf)
def xN:TGs:=fun vs σ H Q=>vs=[]/\Q σ H
def dH (t:TG) (u:TGs):TGs:=fun vs σ H Q=>∃ v r,vs=v :: r/\t v σ H fun σ' H'=>u r σ' H' Q
theorem zB:PGs X [] xN:=by
 intro Ku s σ H vs us Q I r h;obtain⟨e,h⟩:=h;subst e;cases r;exact assignInOrder_nil ⟨σ,H,I,h⟩
theorem ze {e:Expr} {es:List Expr} {t:TG} {u:TGs} (h1:PG X e t) (h2:PGs X es u)
  (hs:(assignEach (e :: es) X.env).map (·.2)=assign e X.env :: (assignEach es X.env).map (·.2):=by rfl):PGs X (e :: es) (dH t u):=by
 intro Ku s σ H vs us Q I r h;obtain⟨v,vr,e1,h⟩:=h;subst e1;cases r with
 | cons r rr =>
  rw [hs];refine assignInOrder_cons (thn (h1 Ku s σ H _ _ _ I r h) fun _ s1 ⟨σ1,H1,I1,q1⟩=>?_);exact h2 Ku s1 σ1 H1 _ _ Q I1 rr q1
def t8 (K:EI) (n:Nat) (t:TGs):TG:=fun v σ H Q=>∃ a xs,v=.ref a/\SqT K H a xs/\xs.length=n/\t xs σ H Q
theorem B6 {es:List Expr} {k:Nat} {t:TGs} {n:Nat} (hc:X.calm=true) (h:PGs X es t)
  (hn:(assignEach es X.env).length=n:=by rfl) (hst:(assignEach es X.env).findIdx? (·.1)=none:=by rfl):PG X (.Tuple es k pos) (t8 X.K n t):=by
 intro Ku s σ H v u Q I r hw;obtain⟨a,xs,e1,hq,hl,hw⟩:=hw;subst e1;cases r;obtain⟨its,rv,ht,hz⟩:=I.tuple hq;refine assign_Tuple_tuple (I.ok.hd hc) ht (by simp [hn,<- hl,rv.length]) hst fun h' hx=>?_;have I1:Inv X Ku σ H { s with heap:=h' }:=I.kept (t':=s.toks) fun b o e=>hx b o (Fp (E4 e)) e;exact h Ku _ σ H xs _ Q I1 (by simpa using rv) hw
def rM (to ti:TE) (t:B5):TG:=fun v σ H Q=>to σ H fun o H1=>ti σ H1 fun i H2=>t o i v H2 fun H3=>Q σ H3
theorem gG {o i:Expr} {to ti:TE} {t:B5} (ho:PE X o to) (hi:PE X i ti) (hs:xM X t)
  (ha:∀ v,assign (.Subscript o i pos) X.env v=(do
   let ov <- holding [v] (eval o X.env)
   let iv <- holding [v,ov] (eval i X.env)
   standAt pos
   holding [v,ov,iv] (setItem ov iv v)
   release [v,ov,iv] []):=by intro _;rfl):PG X (.Subscript o i pos) (rM to ti t):=by
 intro Ku s σ H v u Q I r h;rw [ha];refine EJ (FF (thn (ho Ku s σ H _ I h) fun ov s1 ⟨x,H1,I1,r1,q1⟩=>?_));refine EJ (FF (thn (hi Ku s1 σ H1 _ I1 q1) fun iv s2 ⟨y,H2,I2,r2,q2⟩=>?_));refine EJ (wpAny_standAt (EJ (FF (thn (hs Ku s2 σ H2 x y v ov iv u _ I2 r1 r2 r q2) fun _ s3 ⟨H3,I3,q3⟩=>?_))));exact wpAny_release ⟨σ,H3,I3,q3⟩
def aH (te:TE) (g:TG):TS:=fun D σ H=>te σ H fun x H1=>g x σ H1 D.nx
theorem yn {tg e:Expr} {te:TE} {g:TG} (he:PE X e te) (hg:PG X tg g) (hs:swapsWithSole [tg] e pos.line X.env=pure false:=by rfl) (hw:swappedStores [tg] e X.env=pure none:=by rfl)
  (h1:(assignEach [tg] X.env).map (·.2)=[assign tg X.env]:=by rfl):PS X (.Assign [tg] e pos) (aH te g):=by
 intro Ku s σ H D I h;refine wpAny_Assign_stores (thn (he Ku s σ H _ I h) fun v s1 ⟨x,H1,I1,r1,q1⟩=>?_) hs hw;rw [h1];exact thn (hg Ku s1 σ H1 x v _ I1 r1 q1) fun _ s2 q=>q
theorem zO {i:Nat} {x:Str} {e:Expr} {te:TE} {pos':Pos} (hN:X.N.Nodup) (hi:X.N[i]?=some x) (hx:Loc X.env.scope x) (he:PE X e te) (hs:swapsWith e (some (.Name x pos')) pos.line X.env=pure false:=by rfl) (hf:X.fn x=true \/ X.env.scope.names.lookup x=some .local:=by first | exact .inl rfl | exact .inr rfl | assumption) :
  PS X (.Assign [.Name x pos'] e pos) (aH te (jD i)):=by
 intro Ku s σ H D I h;refine wpAny_Assign_Name (thn (he Ku s σ H _ I h) fun v s1 ⟨y,H1,I1,r1,q1⟩=>?_) hs;exact bj I1 hN hi hx r1 (fun s2 I2=>⟨_,H1,I2,q1⟩) hf
def DI (i j:Nat) (ta:TA):TS:=fun D σ H=>ta σ H fun vs H1=>∃ v w,vs=[v,w]/\D.nx ((σ.set i (some v)).set j (some w)) H1
theorem t9 {i j:Nat} {x y:Str} {a b:Expr} {ta:TA} {px py pt:Pos} {kt k2 pt2} (hc:X.calm=true) (hN:X.N.Nodup) (hi:X.N[i]?=some x) (hj:X.N[j]?=some y) (hij:i≠j)
  (hx:X.env.scope.names.lookup x=some .local) (hy:X.env.scope.names.lookup y=some .local) (ha:PA X [a,b] ta)
  (hw:swappedStores [.Tuple [.Name x px,.Name y py] kt pt] (.Tuple [a,b] k2 pt2) X.env=pure (some [x,y]))
  (hs:swapsWithSole [.Tuple [.Name x px,.Name y py] kt pt] (.Tuple [a,b] k2 pt2) pos.line X.env=pure false:=by rfl) :
  PS X (.Assign [.Tuple [.Name x px,.Name y py] kt pt] (.Tuple [a,b] k2 pt2) pos) (DI i j ta):=by
 intro Ku s σ H D I h;rw [exec_Assign_arm];refine EJ (wpAny_standAt ?_);rw [hs];refine EJ (ES ?_);rw [Kv (by decide)];refine EJ (Tuple_ (thn (ha _ Ku s σ H _ I h) fun us s1 ⟨vs,H1,I1,r1,q1⟩=>?_));obtain⟨v,w,e1,q1⟩:=q1;subst e1;obtain⟨u1,u2,rfl,rv,rw'⟩:∃ u1 u2,us=[u1,u2]/\RelV v u1/\RelV w u2:=by
  cases r1 with
  | cons p q =>
   cases q with
   | cons p' q' =>
    cases q';exact⟨_,_,rfl,p,p'⟩
 refine wpAny_newObj_type ?_ (by show 2<=Fu;decide);have I2:Inv X Ku σ H1 { s1 with heap:=s1.heap.push { cls:=.type "tuple",data:=.seq [u1,u2].toArray } }:=I1.kept (t':=s1.toks) fun b o e=>EU _ e;rw [hw];refine EJ (ES ?_);show Fd (model X.prog X.w) X.A (do rule "assign.swapped-stores";let items <- unpackItems (.ref s1.heap.objs.size) 2 none;assignInOrder [fun v=>bindName X.env y v,fun v=>bindName X.env x v] items.reverse;pure Flow.next) _ _ _;refine EJ (wpAny_rule (EJ (unpackItems_tuple (items:=#[u1,u2]) (I.ok.hd hc) (IsTup.new s1.heap _) fun h' hx'=>?_)));have I3:=I2.kept (h':=h') (t':=s1.toks) fun b o e=>hx' b o (Fp (E4 e)) e;show Fd _ _ (assignInOrder [fun v=>bindName X.env y v,fun v=>bindName X.env x v] [u2,u1] >>= fun _=>pure Flow.next) _ _ _;refine EJ (assignInOrder_cons (wpAny_bindName (bj I3 hN hj (.inl hy) rw' (fun s2 I4=>?_) (.inr hy))));refine assignInOrder_cons (wpAny_bindName (bj I4 hN hi (.inl hx) rv (fun s3 I5=>assignInOrder_nil (ES ?_)) (.inr hx)));rw [List.set_comm _ _ (F6 hij)] at I5;exact⟨_,H1,I5,q1⟩
end
section
variable {X:Cx} {pos:Pos}
def l5 (c:TT) (tb:TS):TS:=fun D σ H=>∃ W:Nat->St->Hp->Prop,(∃ m,W m σ H)/\∀ m σ H,W m σ H ->
 c σ H fun b H1=>if b=true then ∃ N:St->Hp->Prop,(∀ σ' H',N σ' H'->∃ m',m'<m/\W m' σ' H')/\tb { D with nx:=N,ct:=N,bk:=D.nx } σ H1 else D.nx σ H1
theorem dI {c:Expr} {body:List Stmt} {tc:TT} {tb:TS} (hp:PassesOwn (model X.prog X.w) X.A X.env X.xe) (hc:PT X c tc) (hb:PSs X body tb):PS X (.While c body [] pos) (l5 tc tb):=by
 intro Ku s σ H D I h;obtain⟨W,⟨m0,w0⟩,turn⟩:=h;refine wpAny_While (codeAny_whileLoop (fun n s'=>∃ σ' H',Inv X Ku σ' H' s'/\W n σ' H') ?_ m0 ⟨σ,H,I,w0⟩);rintro n s1 ⟨σ1,H1,I1,w1⟩;refine wpAny_passesOwn hp (thn (hc Ku s1 σ1 H1 _ I1 (turn n σ1 H1 w1)) fun b s2 ⟨H2,I2,q2⟩=>?_);cases b with
 | true =>
  obtain⟨N,hN,q2⟩:=q2;rw [Kw rfl];refine wpAny_passesOwn hp (thn (hb Ku s2 σ1 H2 _ I2 q2) fun f s3 q3=>?_);cases f with
  | next =>
   obtain⟨σ3,H3,I3,n3⟩:=q3;obtain⟨m',hm,w3⟩:=hN σ3 H3 n3;exact⟨m',hm,σ3,H3,I3,w3⟩
  | cont =>
   obtain⟨σ3,H3,I3,n3⟩:=q3;obtain⟨m',hm,w3⟩:=hN σ3 H3 n3;exact⟨m',hm,σ3,H3,I3,w3⟩
  | brk=>exact q3
  | ret v=>exact q3
 | false =>
  rw [Kv EG];exact wpAny_execs_nil ⟨σ1,H2,I2,q2⟩
end
structure It where
 go:Nat->Hp->Prop
 yld:Nat->Hp->V->Hp->Prop
 stop:Nat->Hp->Prop
def bp (X:Cx) (Ku:List (EL×Obj)) (H:Hp) (b:EL):Prop :=
 H b=none/\b≠X.env.locals/\b∉X.fs/\(b∈X.ex \/ X.s₀.heap.objs.size<=b)/\(∀ x c,X.env.cells.lookup x=some c->c≠b)/\∀ p∈X.pn++Ku,p.1≠b
theorem Inv.fpOk {X:Cx} {Ku:List (EL×Obj)} {σ:St} {H H':Hp} {s:Shared} {b:EL} (I:Inv X Ku σ H s) (hb:s.heap.objs.size<=b) (hn:H' b=none):bp X Ku H' b:=by
 refine⟨hn,Hy (Fb I.lt hb),I.nofs hb,.inr (Fm I.sz hb),fun x c e z=>?_,fun p hp z=>?_⟩
 ·obtain⟨v,q⟩:=I.cell x c e;exact absurd (Fb q.lt (by rw [z];exact hb)) (Gi _)
 ·exact absurd (Fb (E4 (I.pin p hp).1) (by rw [z];exact hb)) (Gi _)
structure Turn (P:Program) (w:World) (K:EI) (tg:Expr) (J:It) (fp:List EL) (it:EL) (tn:Nat->Heap->Prop):Prop where
 mem:it∈fp
 obj:∀ i h,tn i h->∀ b∈fp,∃ o,h.get? b=some o/\∀ v,o.data≠.cell v
 keep:∀ i h h',tn i h->(∀ b∈fp,∀ o,h.get? b=some o->h'.get? b=some o)->tn i h'
 item:∀ (X:Cx),X.prog=P->X.w=w->X.K=K->X.calm=true->∀ (i:Nat) (Ku:List (EL×Obj)) (s:Shared) (σ:St) (H:Hp) (E:Value->Shared->Prop),Inv X Ku σ H s->(∀ b∈fp,bp X Ku H b)->tn i s.heap->J.go i H ->
  Fd (model P w) X.A (pyNext (.ref it)) (fun r s1=>∃ u,r=some u /\
   Fd (model P w) X.A (GP tg (.ref it) u) (fun _ s2=>∃ x H',Inv X Ku σ H' s2/\RelV x u/\J.yld i H x H'/\tn (i+1) s2.heap/\∀ b∈fp,H' b=none) E s1) E s
 done:∀ (X:Cx),X.prog=P->X.w=w->X.K=K->X.calm=true->∀ (i:Nat) (Ku:List (EL×Obj)) (s:Shared) (σ:St) (H:Hp) (E:Value->Shared->Prop),Inv X Ku σ H s->(∀ b∈fp,bp X Ku H b)->tn i s.heap->J.stop i H ->
  Fd (model P w) X.A (pyNext (.ref it)) (fun r s1=>r=none/\Inv X Ku σ H s1) E s
 self:∀ (A:Around) (i:Nat) (s:Shared) (Q:Value->Shared->Prop) (E:Value->Shared->Prop),tn i s.heap->Q (.ref it) s->Fd (model P w) A (pyIter (.ref it)) Q E s
abbrev TI:=St->Hp->(It->Hp->Prop)->Prop
def PIE (X:Cx) (Ku:List (EL×Obj)) (σ:St) (tg:Expr) (R:It->Hp->Prop) (itv:Value) (s2:Shared):Prop :=
 ∃ (it:EL) (fp:List EL) (tn:Nat->Heap->Prop) (J:It) (H':Hp),itv=.ref it/\Inv X Ku σ H' s2/\Turn X.prog X.w X.K tg J fp it tn/\tn 0 s2.heap/\(∀ b∈fp,bp X Ku H' b)/\R J H'
def PI (X:Cx) (tg iter:Expr) (wi:TI):Prop :=
 ∀ (Ku:List (EL×Obj)) (s:Shared) (σ:St) (H:Hp) (R:It->Hp->Prop),Inv X Ku σ H s->wi σ H R ->
  Fd (model X.prog X.w) X.A (eval iter X.env) (fun v s1=>Fd (model X.prog X.w) X.A (pyIter v) (PIE X Ku σ tg R) X.xe s1) X.xe s
theorem ub {M:Model} {A:Around} {E:Value->Shared->Prop} {s:Shared} {tg:Expr} {it:EL} {u:Value} {o:Obj} {n:String} {vs:Array Value} {Q:Unit->Shared->Prop} (ho:s.heap.get? it=some o) (hc:o.cls=.type n) (hd:o.data=.fields vs)
  (hn:["enumerate","zip","dict_itemiterator","dict_reverseitemiterator","odict_iterator","itertools.zip_longest","itertools.pairwise"].contains n=false) (hQ:Q () s):Fd M A (GP tg (.ref it) u) Q E s:=by
 unfold GP;cases tg <;> first
  | exact ES hQ
  | (cases u <;> first
    | exact ES hQ
    | (refine EJ (wpAny_load ho ?_)
       rw [hc,hd];show Fd M A (if (["enumerate","zip","dict_itemiterator","dict_reverseitemiterator","odict_iterator","itertools.zip_longest","itertools.pairwise"].contains n && vs[0]? == some (rawInt _))=true then _ else _) Q E s;rw [Kv (by intro h;rw [hn,Gu] at h;cases h)];exact ES hQ))
noncomputable def Itl (K:EI) (a:EL):It :=
 ⟨fun i H=>∃ xs x,SqL K H a xs/\xs[i]?=some x,fun i H x H'=>H'=H/\∀ xs,SqL K H a xs->xs[i]?=some x,fun i H=>∃ xs,SqL K H a xs/\xs.length<=i⟩
noncomputable def Itt (K:EI) (a:EL):It :=
 ⟨fun i H=>∃ xs x,SqT K H a xs/\xs[i]?=some x,fun i H x H'=>H'=H/\∀ xs,SqT K H a xs->xs[i]?=some x,fun i H=>∃ xs,SqT K H a xs/\xs.length<=i⟩
noncomputable def Itr (lo:Int) (n:Nat):It:=⟨fun i _=>i<n,fun i H x H'=>H'=H/\x=.int (lo+i),fun i _=>n<=i⟩
theorem rN {P:Program} {w:World} {K:EI} {tg:Expr} (a it:EL):Turn P w K tg (Itl K a) [it] it (fun i h=>h.IsListIter it a i) where
 mem:=by simp
 obj:=fun i h st b hb=>by
  have e:b=it:=by simpa using hb
  subst e;obtain⟨o,e,c,d⟩:=st;exact⟨o,e,fun v z=>by rw [d] at z;cases z⟩
 keep:=fun i h h' st k=>st.at fun o e=>k it (by simp) o e
 item:=by
  intro X hP hw hK hc i Ku s σ H E I hf st hg;subst hP hw hK;obtain⟨xs,x,hq,hx⟩:=hg;obtain⟨its,rv,p,hz⟩:=I.list hq;obtain⟨u,hu,ru⟩:=rv.get hx;obtain⟨f0,f1,f2,f3,f4,f5⟩:=hf it (by simp);refine wpAny_pyNext_list_item st p.isList (x:=u) (by simpa using hu) fun h' st' sb=>?_;have I1:Inv X Ku σ H { s with heap:=h' }:=I.turned (t':=s.toks) (fun b o hb e=>(sb.2 b hb).trans e) f0 f1 f3 f4 f5;obtain⟨o,e,c,d⟩:=id st';exact⟨u,rfl,ub (s:={ s with heap:=h' }) e c d (by decide) ⟨x,H,I1,ru,⟨rfl,fun ys hy=>by rw [I.list_inj hy hq];exact hx⟩,st',fun b hb=>(hf b hb).1⟩⟩
 done:=by
  intro X hP hw hK hc i Ku s σ H E I hf st hg;subst hP hw hK;obtain⟨xs,hq,hx⟩:=hg;obtain⟨its,rv,p,hz⟩:=I.list hq;obtain⟨f0,f1,f2,f3,f4,f5⟩:=hf it (by simp);have hl:=rv.length;exact wpAny_pyNext_list_end (I.ok.hd hc) st p.isList (by simp;omega) fun h' eb=>⟨rfl,I.turned (t':=s.toks) (fun b o hb e=>eb b o hb e) f0 f1 f3 f4 f5⟩
 self:=fun _ _ _ _ _ st h=>wpAny_pyIter_listiter st h
theorem l6 {P:Program} {w:World} {K:EI} {tg:Expr} (a it:EL):Turn P w K tg (Itt K a) [it] it (fun i h=>h.IsTupleIter it a i) where
 mem:=by simp
 obj:=fun i h st b hb=>by
  have e:b=it:=by simpa using hb
  subst e;obtain⟨o,e,c,d⟩:=st;exact⟨o,e,fun v z=>by rw [d] at z;cases z⟩
 keep:=fun i h h' st k=>st.at fun o e=>k it (by simp) o e
 item:=by
  intro X hP hw hK hc i Ku s σ H E I hf st hg;subst hP hw hK;obtain⟨xs,x,hq,hx⟩:=hg;obtain⟨its,rv,p,hz⟩:=I.tuple hq;obtain⟨u,hu,ru⟩:=rv.get hx;obtain⟨f0,f1,f2,f3,f4,f5⟩:=hf it (by simp);refine wpAny_pyNext_tuple_item st (show s.heap.IsTuple a its.toArray from p) (x:=u) (by simpa using hu) fun h' st' sb=>?_;have I1:Inv X Ku σ H { s with heap:=h' }:=I.turned (t':=s.toks) (fun b o hb e=>(sb.2 b hb).trans e) f0 f1 f3 f4 f5;obtain⟨o,e,c,d⟩:=id st';exact⟨u,rfl,ub (s:={ s with heap:=h' }) e c d (by decide) ⟨x,H,I1,ru,⟨rfl,fun ys hy=>by rw [I.tuple_inj hy hq];exact hx⟩,st',fun b hb=>(hf b hb).1⟩⟩
 done:=by
  intro X hP hw hK hc i Ku s σ H E I hf st hg;subst hP hw hK;obtain⟨xs,hq,hx⟩:=hg;obtain⟨its,rv,p,hz⟩:=I.tuple hq;obtain⟨f0,f1,f2,f3,f4,f5⟩:=hf it (by simp);have hl:=rv.length;exact wpAny_pyNext_tuple_end (I.ok.hd hc) st (show s.heap.IsTuple a its.toArray from p) (by simp;omega) fun h' eb=>⟨rfl,I.turned (t':=s.toks) (fun b o hb e=>eb b o hb e) f0 f1 f3 f4 f5⟩
 self:=fun _ _ _ _ _ st h=>wpAny_pyIter_tupleiter st h
theorem l7 {P:Program} {w:World} {K:EI} {tg:Expr} (it:EL) (lo:Int) (n:Nat):Turn P w K tg (Itr lo n) [it] it (fun i h=>IsRangeIter h it (lo+(i:Nat) * 1) ((n:Int) - (i:Nat)) 1) where
 mem:=by simp
 obj:=fun i h st b hb=>by
  have e:b=it:=by simpa using hb
  subst e;exact⟨_,st,fun v z=>by
   have z':Data.fields _=Data.cell v:=z;cases z'⟩
 keep:=fun i h h' st k=>k it (by simp) _ st
 item:=by
  intro X hP hw hK hc i Ku s σ H E I hf st hg;subst hP hw hK;obtain⟨f0,f1,f2,f3,f4,f5⟩:=hf it (by simp);have W:=Walks.range (prog:=X.prog) (w:=X.w) (I.ok.hd hc) it lo 1 n;refine W.item i s _ _ hg st fun v h' tk hv st' kk=>?_;obtain⟨t,rfl⟩:=hv;have I1:Inv X Ku σ H { s with heap:=h',toks:=tk }:=I.turned (fun b o hb e=>kk b o (by simpa using hb) e) f0 f1 f3 f4 f5;refine⟨_,rfl,ub (s:={ s with heap:=h',toks:=tk }) (n:="range_iterator") st' rfl rfl (by decide) ⟨.int (lo+i),H,I1,⟨t,?_⟩,⟨rfl,rfl⟩,st',fun b hb=>(hf b hb).1⟩⟩;rw [Je]
 done:=by
  intro X hP hw hK hc i Ku s σ H E I hf st hg;subst hP hw hK;obtain⟨f0,f1,f2,f3,f4,f5⟩:=hf it (by simp);exact wpAny_pyNext_range_end (I.ok.hd hc) st (by have:n<=i:=hg;omega) fun h' eb=>⟨rfl,I.turned (t':=s.toks) (fun b o hb e=>eb b o hb e) f0 f1 f3 f4 f5⟩
 self:=fun _ _ _ _ _ st h=>wpAny_pyIter_rangeiter st h
section
variable {X:Cx} {tg:Expr}
def uc (K:EI) (tl:TE):TI:=fun σ H R=>tl σ H fun x H1=>∃ a,x=.ref a/\(∃ xs,SqL K H1 a xs)/\R (Itl K a) H1
def B7 (K:EI) (tl:TE):TI:=fun σ H R=>tl σ H fun x H1=>∃ a,x=.ref a/\(∃ xs,SqT K H1 a xs)/\R (Itt K a) H1
theorem xO {l:Expr} {tl:TE} (hl:PE X l tl):PI X tg l (uc X.K tl):=by
 intro Ku s σ H R I h;refine thn (hl Ku s σ H _ I h) fun v s1 ⟨x,H1,I1,r1,q1⟩=>?_;obtain⟨a,e,⟨xs,hq⟩,q⟩:=q1;subst e;cases r1;obtain⟨its,rv,p,hz⟩:=I1.list hq;refine wpAny_pyIter_list p.isList ?_;refine⟨s1.heap.objs.size,[s1.heap.objs.size],_,_,H1,rfl,I1.kept (t':=s1.toks) fun b o e=>EU _ e,rN a _,⟨_,Fn _ rfl,rfl,rfl⟩,fun b hb=>?_,q⟩;have e:b=s1.heap.objs.size:=by simpa using hb
 subst e;exact I1.fpOk (EN _) (I1.hok.fresh (EN _))
theorem B8 {l:Expr} {tl:TE} (hl:PE X l tl):PI X tg l (B7 X.K tl):=by
 intro Ku s σ H R I h;refine thn (hl Ku s σ H _ I h) fun v s1 ⟨x,H1,I1,r1,q1⟩=>?_;obtain⟨a,e,⟨xs,hq⟩,q⟩:=q1;subst e;cases r1;obtain⟨its,rv,p,hz⟩:=I1.tuple hq;refine wpAny_pyIter_tuple (show s1.heap.IsTuple a its.toArray from p) ?_;refine⟨s1.heap.objs.size,[s1.heap.objs.size],_,_,H1,rfl,I1.kept (t':=s1.toks) fun b o e=>EU _ e,l6 a _,⟨_,Fn _ rfl,rfl,rfl⟩,fun b hb=>?_,q⟩;have e:b=s1.heap.objs.size:=by simpa using hb
 subst e;exact I1.fpOk (EN _) (I1.hok.fresh (EN _))
theorem iW {Ku:List (EL×Obj)} {σ:St} {H:Hp} {s:Shared} {R:It->Hp->Prop} {E:Value->Shared->Prop} {lo hi:Int} {t u v:Tok} {tk:Nat} (I:Inv X Ku σ H s) (h1:-(2 ^ 62)<=lo) (h2:lo<2 ^ 62) (h3:-(2 ^ 62)<=hi) (h4:hi<2 ^ 62)
  (q:R (Itr lo (hi - lo).toNat) H):Fd (model X.prog X.w) X.A (pyIter (.ref s.heap.objs.size)) (PIE X Ku σ tg R) E { s with heap:=s.heap.push { cls:=.type "range",data:=.fields #[.int lo t,.int hi u,.int 1 v] },toks:=tk }:=by
 refine wpAny_pyIter_range (IsRange.new ..) (small_one h1 h2 h3 h4) ?_;have I1:Inv X Ku σ H { s with heap:=s.heap.push { cls:=.type "range",data:=.fields #[.int lo t,.int hi u,.int 1 v] },toks:=tk }:=I.kept fun b o e=>EU _ e;refine⟨(s.heap.push { cls:=.type "range",data:=.fields #[.int lo t,.int hi u,.int 1 v] }).objs.size,[(s.heap.push { cls:=.type "range",data:=.fields #[.int lo t,.int hi u,.int 1 v] }).objs.size],_,_,H,rfl,
  I1.kept (t':=tk) fun b o e=>EU _ e,l7 _ lo (hi - lo).toNat,?_,fun b hb=>?_,q⟩
 ·have e1:lo+((0:Nat):Int) * 1=lo:=by simp
  have e2:(((hi - lo).toNat:Nat):Int) - ((0:Nat):Int)=Builtin.Range.rangeSize lo hi 1:=by rw [rangeSize_one];split <;> omega
  show IsRangeIter _ _ (lo+((0:Nat):Int) * 1) ((((hi - lo).toNat:Nat):Int) - ((0:Nat):Int)) 1;rw [e1,e2];exact Fn _ rfl
 ·have e:b=(s.heap.push { cls:=.type "range",data:=.fields #[.int lo t,.int hi u,.int 1 v] }).objs.size:=by simpa using hb
  subst e;exact I1.fpOk (EN _) (I1.hok.fresh (EN _))
def nL (ta:TA):TI:=fun σ H R=>ta σ H fun vs H1=>∃ j:Int,vs=[.int j]/\-(2 ^ 62)<=j/\j<2 ^ 62/\R (Itr 0 j.toNat) H1
def Bu (ta:TA):TI:=fun σ H R=>ta σ H fun vs H1=>∃ i j:Int,vs=[.int i,.int j]/\(-(2 ^ 62)<=i/\i<2 ^ 62/\-(2 ^ 62)<=j/\j<2 ^ 62)/\R (Itr i (j - i).toNat) H1
theorem jF {a:Expr} {ta:TA} {p pos:Pos} (hg:Gl X "range") (hm:X.mg "range"=none) (ha:PA X [a] ta) (hs:FA [a] X.env=[(false,eval a X.env)]:=by rfl):PI X tg (.Call (.Name "range" p) [a] [] pos) (nL ta):=by
 intro Ku s σ H R I h;refine Call_ (aR I hg hm boot_range (GQ (thn (ha pos Ku s σ H _ I h) fun us s1 ⟨vs,H1,I1,r1,q1⟩=>?_) hs rfl));obtain⟨j,e,q1,q2,q⟩:=q1;subst e;cases r1 with
 | cons r rr =>
  cases rr;obtain⟨t,rfl⟩:=r;exact call_range_1 (iW I1 (by omega) (by omega) q1 q2 (by simpa using q))
theorem rO {a b:Expr} {ta:TA} {p pos:Pos} (hg:Gl X "range") (hm:X.mg "range"=none) (ha:PA X [a,b] ta) (hs:FA [a,b] X.env=[(false,eval a X.env),(false,eval b X.env)]:=by rfl) (hs2:FA [b] X.env=[(false,eval b X.env)]:=by rfl) :
  PI X tg (.Call (.Name "range" p) [a,b] [] pos) (Bu ta):=by
 intro Ku s σ H R I h;refine Call_ (aR I hg hm boot_range (GQ (thn (ha pos Ku s σ H _ I h) fun us s1 ⟨vs,H1,I1,r1,q1⟩=>?_) (by rw [hs,hs2]) (by rw [hs2];rfl)));obtain⟨i,j,e,⟨q1,q2,q3,q4⟩,q⟩:=q1;subst e;cases r1 with
 | cons r rr =>
  cases rr with
  | cons r' rr =>
   cases rr;obtain⟨t,rfl⟩:=r;obtain⟨t',rfl⟩:=r';exact call_range_2 (iW I1 q1 q2 q3 q4 q)
def ud (wi:TI) (g:TG) (tb:TS):TS:=fun D σ H=>wi σ H fun J H1=>∃ W:Nat->Nat->St->Hp->Prop,(∃ m,W 0 m σ H1)/\∀ i m σ H,W i m σ H ->
 (J.stop i H/\D.nx σ H) \/ (J.go i H/\∃ N:St->Hp->Prop,(∀ σ' H',N σ' H'->∃ m',m'<m/\W (i+1) m' σ' H')/\∀ x H',J.yld i H x H'->g x σ H' fun σ2 H2=>tb { D with nx:=N,ct:=N,bk:=D.nx } σ2 H2)
noncomputable def dJ (fp:List EL) (h:Heap):List (EL×Obj):=fp.filterMap fun b=>(h.get? b).map fun o=>(b,o)
theorem vh {fp:List EL} {h:Heap} {b:EL} {o:Obj} (hb:b∈fp) (e:h.get? b=some o):(b,o)∈dJ fp h:=Hd.mpr ⟨b,hb,by rw [e];rfl⟩
theorem rP {fp:List EL} {h:Heap} {p:EL×Obj} (hp:p∈dJ fp h):p.1∈fp/\h.get? p.1=some p.2:=by
 obtain⟨b,hb,e⟩:=Hd.mp hp;cases q:h.get? b with
 | none=>rw [q] at e;cases e
 | some o =>
  rw [q] at e;have e':(b,o)=p:=Option.some.inj e;subst e';exact⟨hb,q⟩
theorem Inv.pinned {Ku:List (EL×Obj)} {σ:St} {H:Hp} {s:Shared} {fp:List EL} (I:Inv X Ku σ H s) (hf:∀ b∈fp,bp X Ku H b) (ho:∀ b∈fp,∃ o,s.heap.get? b=some o/\∀ v,o.data≠.cell v):Inv X (Ku++dJ fp s.heap) σ H s :=
 I.pins_of fun p hp=>(Fj.mp hp).elim (fun z=>I.pin p (E8 _ z)) fun z=>by
  obtain⟨hb,e⟩:=rP z;obtain⟨f0,f1,f2,_⟩:=hf p.1 hb;obtain⟨o,e',d⟩:=ho p.1 hb;rw [e] at e';cases e';exact⟨e,f0,f1,f2,d⟩
theorem Inv.unpinned {Ku pl:List (EL×Obj)} {σ:St} {H:Hp} {s:Shared} (I:Inv X (Ku++pl) σ H s):Inv X Ku σ H s:=I.pins_of fun p hp=>I.pin p (E8 _ (FE _ hp))
theorem jq {iter:Expr} {body:List Stmt} {wi:TI} {g:TG} {tb:TS} {pos:Pos} (hp:PassesOwn (model X.prog X.w) X.A X.env X.xe) (hc:X.calm=true) (hi:PI X tg iter wi) (hg:PG X tg g) (hb:PSs X body tb)
  (hs:∀ x,FQ iter X.env x=pure x:=by intro _;rfl):PS X (.For tg iter body [] pos) (ud wi g tb):=by
 intro Ku s σ H D I h;refine wpAny_For (thn (hi Ku s σ H _ I h) fun v s1 h1=>thn h1 fun itv s2 h2=>?_) hs;obtain⟨it,fp,tn,J,H2,e,I2,T,st2,f2,W,⟨m0,w0⟩,turn⟩:=h2;subst e
 -- what stays true of the iterator's objects through the loop
 have stat:∀ {H':Hp},(∀ b∈fp,H' b=none)->∀ b∈fp,bp X Ku H' b:=fun hn b hb=>⟨hn b hb,(f2 b hb).2⟩;refine codeAny_forLoop_any (fun n s'=>∃ i σ' H',Inv X Ku σ' H' s'/\tn i s'.heap/\(∀ b∈fp,H' b=none)/\W i n σ' H') ?_ m0 ⟨0,σ,H2,I2,st2,fun b hb=>(f2 b hb).1,w0⟩;rintro n s3 ⟨i,σ3,H3,I3,st3,fr3,w3⟩;rcases turn i n σ3 H3 w3 with⟨stop,qn⟩ | ⟨go,N,hN,step⟩
 ·refine wpAny_passesOwn hp (thn (T.done X rfl rfl rfl hc i Ku s3 σ3 H3 X.xe I3 (stat fr3) st3 stop) fun r s4 ⟨hr,I4⟩=>?_);subst hr;exact wpAny_execs_nil ⟨σ3,H3,I4,qn⟩
 ·refine wpAny_passesOwn hp (thn (T.item X rfl rfl rfl hc i Ku s3 σ3 H3 X.xe I3 (stat fr3) st3 go) fun r s4 ⟨u,hr,h4⟩=>?_);subst hr;refine wpAny_passesOwn hp (thn h4 fun _ s5 ⟨x,H5,I5,r5,y5,st5,fr5⟩=>?_);have I5':=I5.pinned (stat fr5) (T.obj _ _ st5);refine wpAny_passesOwn hp (thn (hg _ s5 σ3 H5 x u _ I5' r5 (step x H5 y5)) fun _ s6 ⟨σ6,H6,I6,q6⟩=>?_);refine wpAny_passesOwn hp (thn (hb _ s6 σ6 H6 _ I6 q6) fun f s7 q7=>?_);have again:∀ {σ7:St} {H7:Hp},Inv X (Ku++dJ fp s5.heap) σ7 H7 s7->N σ7 H7->∃ m,m<n/\∃ i σ' H',Inv X Ku σ' H' s7/\tn i s7.heap/\(∀ b∈fp,H' b=none)/\W i m σ' H':=fun {σ7 H7} I7 n7=>by
   obtain⟨m',hm,w7⟩:=hN σ7 H7 n7;refine⟨m',hm,i+1,σ7,H7,I7.unpinned,T.keep _ _ _ st5 fun b hb o e=>(I7.pin (b,o) (E8 _ (E8 _ (vh hb e)))).1,fun b hb=>?_,w7⟩;obtain⟨o,e,d⟩:=T.obj _ _ st5 b hb;exact (I7.pin (b,o) (E8 _ (E8 _ (vh hb e)))).2.1
  cases f with
  | next=>obtain⟨σ7,H7,I7,n7⟩:=q7;exact again I7 n7
  | cont=>obtain⟨σ7,H7,I7,n7⟩:=q7;exact again I7 n7
  | brk=>obtain⟨σ7,H7,I7,q7⟩:=q7;exact⟨σ7,H7,I7.unpinned,q7⟩
  | ret v=>obtain⟨x7,σ7,H7,I7,r7,q7⟩:=q7;exact⟨x7,σ7,H7,I7.unpinned,r7,q7⟩
end
abbrev R2:=V->V->Hp->VK->Prop
def OpR (X:Cx) (f:Value->Value->Sem Value) (r:R2):Prop :=
 ∀ (Ku:List (EL×Obj)) (s:Shared) (σ:St) (H:Hp) (x y:V) (v u:Value) (Q:VK),Inv X Ku σ H s->RelV x v->RelV y u->r x y H Q ->
  Fd (model X.prog X.w) X.A (f v u) (EP X Ku σ Q) X.xe s
def UnR (X:Cx) (f:Value->Sem Value) (r:V->Hp->VK->Prop):Prop :=
 ∀ (Ku:List (EL×Obj)) (s:Shared) (σ:St) (H:Hp) (x:V) (v:Value) (Q:VK),Inv X Ku σ H s->RelV x v->r x H Q ->
  Fd (model X.prog X.w) X.A (f v) (EP X Ku σ Q) X.xe s
def yR (X:Cx) (f:Value) (r:List V->Hp->VK->Prop):Prop :=
 ∀ (Ku:List (EL×Obj)) (s:Shared) (σ:St) (H:Hp) (xs:List V) (us:List Value) (Q:VK),Inv X Ku σ H s->Vals xs us->r xs H Q ->
  Fd (model X.prog X.w) X.A (call f us) (EP X Ku σ Q) X.xe s
def Er (X:Cx) (r:V->Hp->(Bool->Hp->Prop)->Prop):Prop :=
 ∀ (Ku:List (EL×Obj)) (s:Shared) (σ:St) (H:Hp) (x:V) (v:Value) (Q:Bool->Hp->Prop),Inv X Ku σ H s->RelV x v->r x H Q ->
  Fd (model X.prog X.w) X.A (truthy v) (TP X Ku σ Q) X.xe s
def tOp (r:R2) (ta tb:TE):TE:=fun σ H Q=>ta σ H fun x H1=>tb σ H1 fun y H2=>r x y H2 Q
def tUn (r:V->Hp->VK->Prop) (ta:TE):TE:=fun σ H Q=>ta σ H fun x H1=>r x H1 Q
def rI (C:Int->Int->Prop) (g:Int->Int->V):R2:=fun x y H Q=>∃ i j,x=.int i/\y=.int j/\C i j/\Q (g i j) H
def rI0 (g:Int->Int->V):R2:=fun x y H Q=>∃ i j,x=.int i/\y=.int j/\Q (g i j) H
def rU (g:Int->V):V->Hp->VK->Prop:=fun x H Q=>∃ i,x=.int i/\Q (g i) H
section
variable {X:Cx} {a b c:Expr} {ta tb tc:TE} {pos:Pos}
theorem B9 (ha:PE X a ta) (hb:PE X b tb) {Ku:List (EL×Obj)} {s:Shared} {σ:St} {H:Hp} {R:V->V->Hp->Prop} (I:Inv X Ku σ H s)
  (h:ta σ H fun x H1=>tb σ H1 fun y H2=>R x y H2) {Q:Value->Shared->Prop} {f:Value->Value->Sem Value}
  (hf:∀ v u s2 x y H2,Inv X Ku σ H2 s2->RelV x v->RelV y u->R x y H2->Fd (model X.prog X.w) X.A (f v u) Q X.xe s2) :
  Fd (model X.prog X.w) X.A (eval a X.env) (fun v s₁=>Fd (model X.prog X.w) X.A (eval b X.env) (fun u s₂=>Fd (model X.prog X.w) X.A (f v u) Q X.xe s₂) X.xe s₁) X.xe s:=by
 refine thn (ha Ku s σ H _ I h) fun v s1 ⟨x,H1,I1,r1,q1⟩=>?_;refine thn (hb Ku s1 σ H1 _ I1 q1) fun u s2 ⟨y,H2,I2,r2,q2⟩=>?_;exact hf v u s2 x y H2 I2 r1 r2 q2
theorem zk {op:Operator} {r:R2} (ho:OpR X (binaryOp op) r) (ha:PE X a ta) (hb:PE X b tb):PE X (.BinOp a op b pos) (tOp r ta tb):=by
 intro Ku s σ H Q I h;exact wpAny_BinOp (B9 ha hb I h fun v u s2 x y H2 I2 rx ry q=>ho Ku s2 σ H2 x y v u Q I2 rx ry q)
theorem ue {op:UnaryOp} {r:V->Hp->VK->Prop} (ho:UnR X (unaryOp op) r) (ha:PE X a ta):PE X (.UnaryOp op a pos) (tUn r ta):=by
 intro Ku s σ H Q I h;exact UnaryOp_ (thn (ha Ku s σ H _ I h) fun v s1 ⟨x,H1,I1,r1,q1⟩=>ho Ku s1 σ H1 x v Q I1 r1 q1)
theorem opI {f:Value->Value->Sem Value} {C:Int->Int->Prop} {g:Int->Int->Int}
  (rule:∀ (i j:Int) (t u:Tok) (s:Shared) (Q:Value->Shared->Prop) (E:Value->Shared->Prop),C i j->Q (.int (g i j) s.toks) { s with toks:=s.toks+1 }->Fd (model X.prog X.w) X.A (f (.int i t) (.int j u)) Q E s) :
  OpR X f (rI C fun i j=>.int (g i j)):=by
 intro Ku s σ H x y v u Q I rx ry h;obtain⟨i,j,rfl,rfl,hc,q⟩:=h;obtain⟨t,rfl⟩:=rx;obtain⟨t',rfl⟩:=ry;exact rule i j t t' s _ _ hc ⟨.int (g i j),H,I.tok _,⟨_,rfl⟩,q⟩
theorem DJ {f:Value->Value->Sem Value} {g:Int->Int->Int}
  (rule:∀ (i j:Int) (t u:Tok) (s:Shared) (Q:Value->Shared->Prop) (E:Value->Shared->Prop),Q (.int (g i j) s.toks) { s with toks:=s.toks+1 }->Fd (model X.prog X.w) X.A (f (.int i t) (.int j u)) Q E s) :
  OpR X f (rI0 fun i j=>.int (g i j)):=by
 intro Ku s σ H x y v u Q I rx ry h;obtain⟨i,j,rfl,rfl,q⟩:=h;obtain⟨t,rfl⟩:=rx;obtain⟨t',rfl⟩:=ry;exact rule i j t t' s _ _ ⟨.int (g i j),H,I.tok _,⟨_,rfl⟩,q⟩
theorem xP {f:Value->Value->Sem Value} {g:Int->Int->Bool}
  (rule:∀ (i j:Int) (t u:Tok) (s:Shared) (Q:Value->Shared->Prop) (E:Value->Shared->Prop),Q (.bool (g i j)) s->Fd (model X.prog X.w) X.A (f (.int i t) (.int j u)) Q E s) :
  OpR X f (rI0 fun i j=>.bl (g i j)):=by
 intro Ku s σ H x y v u Q I rx ry h;obtain⟨i,j,rfl,rfl,q⟩:=h;obtain⟨t,rfl⟩:=rx;obtain⟨t',rfl⟩:=ry;exact rule i j t t' s _ _ ⟨.bl (g i j),H,I,rfl,q⟩
def Es (i j:Int):Prop:=0<=j/\j<=1000000/\i.natAbs<2 ^ 64
def CMul (i j:Int):Prop:=(-(2 ^ 64)<i/\i<2 ^ 64) \/ (-(2 ^ 64)<j/\j<2 ^ 64)
theorem CMul.ok {i j:Int} (h:CMul i j):IntMulOk i j:=by
 rcases h with⟨h1,h2⟩ | ⟨h1,h2⟩
 ·exact .of_left (intBits_le_64 h1 h2)
 ·exact .of_right (intBits_le_64 h1 h2)
theorem zX:OpR X (binaryOp .Add) (rI0 fun i j=>.int (i+j)):=DJ fun _ _ _ _ _ _ _ q=>add_int q
theorem z9:OpR X (binaryOp .Sub) (rI0 fun i j=>.int (i - j)):=DJ fun _ _ _ _ _ _ _ q=>sub_int q
theorem aV:OpR X (binaryOp .Mult) (rI CMul fun i j=>.int (i * j)):=opI fun _ _ _ _ _ _ _ hc q=>mul_int q hc.ok
theorem vU:OpR X (binaryOp .Mod) (rI (fun _ j=>0<j) fun i j=>.int (i % j)):=opI fun i j _ _ _ _ _ hc q=>by
 have h1:(0:Int)<j:=hc;exact mod_int' (by omega) (by rw [Int.fmod_eq_emod_of_nonneg i (by omega)];exact q)
theorem l8:OpR X (binaryOp .Pow) (rI Es fun i j=>.int (i ^ j.toNat)):=opI fun _ _ _ _ _ _ _ hc q=>pow_int_small hc.1 hc.2.1 hc.2.2 q
theorem unI {f:Value->Sem Value} {g:Int->Int}
  (rule:∀ (i:Int) (t:Tok) (s:Shared) (Q:Value->Shared->Prop) (E:Value->Shared->Prop),Q (.int (g i) s.toks) { s with toks:=s.toks+1 }->Fd (model X.prog X.w) X.A (f (.int i t)) Q E s) :
  UnR X f (rU fun i=>.int (g i)):=by
 intro Ku s σ H x v Q I rx h;obtain⟨i,rfl,q⟩:=h;obtain⟨t,rfl⟩:=rx;exact rule i t s _ _ ⟨.int (g i),H,I.tok _,⟨_,rfl⟩,q⟩
theorem l9:UnR X (unaryOp .USub) (rU fun i=>.int (-i)):=unI fun _ _ _ _ _ q=>neg_int q
end
section
variable {X:Cx} {a b c:Expr} {ta tb tc:TE} {pos:Pos}
theorem uf {Ku:List (EL×Obj)} {σ:St} {H:Hp} {s:Shared} {Q:VK} {k k':Bool} (I:Inv X Ku σ H s) (q:Q (.bl k) H) (e:k=k'):EP X Ku σ Q (.bool k') s:=by
 subst e;exact⟨.bl k,H,I,rfl,q⟩
theorem iX:OpR X (F5 .Lt) (rI0 fun i j=>.bl (decide (i<j))):=xP fun _ _ _ _ _ _ _ q=>lt_int q
theorem vM:OpR X (F5 .LtE) (rI0 fun i j=>.bl (decide (i<=j))):=xP fun _ _ _ _ _ _ _ q=>le_int q
theorem ug:OpR X (F5 .Gt) (rI0 fun i j=>.bl (decide (j<i))):=xP fun _ _ _ _ _ _ _ q=>gt_int q
theorem uh:OpR X (F5 .GtE) (rI0 fun i j=>.bl (decide (j<=i))):=xP fun _ _ _ _ _ _ _ q=>ge_int q
theorem Ca:OpR X (F5 .Is) (fun x y H Q=>y=.non/\Q (.bl (decide (x=.non))) H):=by
 intro Ku s σ H x y v u Q I rx ry h;obtain⟨rfl,q⟩:=h;cases ry;refine is_none_gen (uf I q ?_);cases x <;> first
  | (cases rx;rfl)
  | (obtain⟨t,rfl⟩:=rx;rfl)
theorem gH:OpR X (F5 .IsNot) (fun x y H Q=>y=.non/\Q (.bl (!decide (x=.non))) H):=by
 intro Ku s σ H x y v u Q I rx ry h;obtain⟨rfl,q⟩:=h;cases ry;refine isnot_none_gen (uf I q ?_);cases x <;> first
  | (cases rx;rfl)
  | (obtain⟨t,rfl⟩:=rx;rfl)
theorem zQ (b:Expr) {op:CmpOp} (h:op≠.In:=by decide) (h2:op≠.NotIn:=by decide):behindInMarks op b=false:=by
 have e1:(op == CmpOp.In)=false:=by cases op <;> first | rfl | exact absurd rfl h
 have e2:(op == CmpOp.NotIn)=false:=by cases op <;> first | rfl | exact absurd rfl h2
 cases b <;> simp [behindInMarks,e1,e2]
theorem yD {op:CmpOp} {r:R2} (ho:OpR X (F5 op) r) (ha:PE X a ta) (hb:PE X b tb) (hm:behindInMarks op b=false):PE X (.Compare a [op] [b] pos) (tOp r ta tb):=by
 intro Ku s σ H Q I h;exact wpAny_Compare1 (B9 ha hb I h fun v u s2 x y H2 I2 rx ry q=>ho Ku s2 σ H2 x y v u Q I2 rx ry q) hm
def nM (t:TE):TT:=fun σ H Q=>t σ H fun x H'=>∃ k,x=.bl k/\Q k H'
theorem zZ {op:CmpOp} {r:R2} (ho:OpR X (F5 op) r) (ha:PE X a ta) (hb:PE X b tb) (hm:behindInMarks op b=false):PT X (.Compare a [op] [b] pos) (nM (tOp r ta tb)):=by
 intro Ku s σ H Q I h;refine wpAny_isTrue_Compare1 (thn (ha Ku s σ H _ I h) fun v s1 ⟨x,H1,I1,r1,q1⟩=>thn (hb Ku s1 σ H1 _ I1 q1) fun u s2 ⟨y,H2,I2,r2,q2⟩ =>
  thn (ho Ku s2 σ H2 x y v u _ I2 r1 r2 q2) fun c s3 ⟨z,H3,I3,r3,k,e,q3⟩=>?_) hm
 subst e;cases r3;exact Gy ⟨H3,I3,q3⟩
def ui (r r':R2) (ta tb tc:TE):TE:=fun σ H Q=>ta σ H fun x H1=>tb σ H1 fun y H2=>r x y H2 fun z H3=>∃ k,z=.bl k /\
 (if k=true then tc σ H3 fun w' H4=>r' y w' H4 Q else Q (.bl false) H3)
theorem dM {op op':CmpOp} {r r':R2} (ho:OpR X (F5 op) r) (ho':OpR X (F5 op') r') (ha:PE X a ta) (hb:PE X b tb) (hc:PE X c tc)
  (hm:lastMarks [op,op'] [b,c]=false:=by with_unfolding_all rfl):PE X (.Compare a [op,op'] [b,c] pos) (ui r r' ta tb tc):=by
 intro Ku s σ H Q I h;refine Compare_chain (thn (ha Ku s σ H _ I h) fun v s1 ⟨x,H1,I1,r1,q1⟩=>chain_link (thn (hb Ku s1 σ H1 _ I1 q1) fun u s2 ⟨y,H2,I2,r2,q2⟩ =>
  thn (ho Ku s2 σ H2 x y v u _ I2 r1 r2 q2) fun d s3 ⟨z,H3,I3,r3,k,e,q3⟩=>?_)) hm
 subst e;cases r3;refine Gy ?_;cases k with
 | false=>exact ite_ff ⟨.bl false,H3,I3,rfl,q3⟩
 | true=>exact ite_tt (chain_last (thn (hc Ku s3 σ H3 _ I3 q3) fun w' s4 ⟨z',H4,I4,r4,q4⟩=>ho' Ku s4 σ H4 y z' u w' Q I4 r2 r4 q4))
def Cb (K:EI) (x:V) (H:Hp) (k:Bool):Prop :=
 match x with
 | .non=>k=false
 | .bl b=>k=b
 | .int i=>k=(i != 0)
 | .str y=>y.length<=Fu/\k=((y.length:Int) != 0)
 | .byt y=>y.size<=Fu/\k=((y.size:Int) != 0)
 | .ref p=>(∃ xs,SqL K H p xs/\k=!xs.isEmpty) \/ (∃ xs,SqT K H p xs/\k=!xs.isEmpty) \/ ∃ kvs,H p=some (.dK kvs)/\k=!kvs.isEmpty
 | _=>False
theorem ma {κ:Type} {kvs:List (κ×V)} {vs:List (κ×Value)} (r:KV kvs vs):(!vs.isEmpty)=!kvs.isEmpty:=by
 cases r <;> rfl
theorem dN {xs:List V} {its:List Value} (r:Vals xs its):(!its.toArray.isEmpty)=!xs.isEmpty:=by
 cases r <;> simp
theorem b7:(Fu:Nat)<2 ^ 63:=by rw [sizeLine_eq];decide
theorem Cc:Er X (fun x H Q=>∃ k,Cb X.K x H k/\Q k H):=by
 intro Ku s σ H x v Q I rx h;obtain⟨k,e,q⟩:=h;have hl:=b7;have hs:Fu=16777216:=sizeLine_eq;cases x with
 | non =>
  cases rx;have e':k=false:=e;subst e';exact truthy_none ⟨H,I,q⟩
 | bl b =>
  cases rx;have e':k=b:=e;subst e';exact Gy ⟨H,I,q⟩
 | int i =>
  obtain⟨t,rfl⟩:=rx;have e':k=(i != 0):=e;subst e';exact PySem.P.truthy_int ⟨H,I,q⟩
 | str y =>
  obtain⟨t,rfl⟩:=rx;obtain⟨hy,e'⟩:y.length<=Fu/\k=((y.length:Int) != 0):=e;subst e';exact PySem.P.truthy_str (by omega) ⟨H,I.tok _,q⟩
 | byt y =>
  obtain⟨t,rfl⟩:=rx;obtain⟨hy,e'⟩:y.size<=Fu/\k=((y.size:Int) != 0):=e;subst e';exact PySem.W.truthy_bytes (by omega) ⟨H,I.tok _,q⟩
 | ref p =>
  cases rx;have e':(∃ xs,SqL X.K H p xs/\k=!xs.isEmpty) \/ (∃ xs,SqT X.K H p xs/\k=!xs.isEmpty) \/ ∃ kvs,H p=some (.dK kvs)/\k=!kvs.isEmpty:=e;rcases e' with⟨xs,hx,e'⟩ | ⟨xs,hx,e'⟩ | ⟨kvs,hx,e'⟩
  ·subst e';obtain⟨its,r,pl,hz⟩:=I.list hx;have hlen:=r.length;exact wpAny_truthy_list pl.isList (by simp only [E3];omega) ⟨H,I.tok _,by rw [dN r];exact q⟩
  ·subst e';obtain⟨its,r,pl,hz⟩:=I.tuple hx;have hlen:=r.length;exact truthy_tuple pl (by simp only [E3];omega) ⟨H,I.tok _,by rw [dN r];exact q⟩
  ·subst e';obtain⟨hz,hS,vs,r,m⟩:kvs.length<=Fu/\(p == sysModules)=false/\∃ vs,KV kvs vs/\s.heap.DictOf (gE X.prog X.w) p vs:=I.hok p _ hx;have hlen:kvs.length=vs.length:=Paired.length r;exact wpAny_truthy_dict hS m (by omega) ⟨H,I.tok _,by rw [ma r];exact q⟩
 | _=>exact (show False from e).elim
theorem uj (ha:PE X a ta) (he:∀ whole,isTrue a X.env whole=(do let v <- whole;standAt a.pos;holding [v] (truthy v))) :
  PT X a (fun σ H Q=>ta σ H fun x H'=>∃ k,Cb X.K x H' k/\Q k H'):=by
 intro Ku s σ H Q I h;exact isTrue_plain (thn (ha Ku s σ H _ I h) fun v s1 ⟨x,H1,I1,r1,q1⟩=>Cc Ku s1 σ H1 x v Q I1 r1 q1) (he _)
theorem vals1 {x:V} {us:List Value} (r:Vals [x] us):∃ u,us=[u]/\RelV x u:=by
 cases r with
 | cons r1 r2=>cases r2;exact⟨_,rfl,r1⟩
theorem vals2 {x y:V} {us:List Value} (r:Vals [x,y] us):∃ u w',us=[u,w']/\RelV x u/\RelV y w':=by
 cases r with
 | cons r1 r2 =>
  cases r2 with
  | cons r3 r4=>cases r4;exact⟨_,_,rfl,r1,r3⟩
theorem bq:yR X (.builtin "abs") (fun xs H Q=>∃ i,xs=[.int i]/\Q (.int (if i<0 then -i else i)) H):=by
 intro Ku s σ H xs us Q I r h;obtain⟨i,rfl,q⟩:=h;obtain⟨u,rfl,t,rfl⟩:=vals1 r;exact call_abs_int fun u tk=>⟨.int (if i<0 then -i else i),H,I.tok _,⟨_,rfl⟩,q⟩
theorem fD (hc:X.calm=true):yR X (.builtin "max") (fun xs H Q=>∃ i j,xs=[.int i,.int j]/\Q (.int (if j > i then j else i)) H):=by
 intro Ku s σ H xs us Q I r h;obtain⟨i,j,rfl,q⟩:=h;obtain⟨u,w',rfl,⟨t,rfl⟩,⟨t',rfl⟩⟩:=vals2 r;refine max_two_ints (I.ok.hd hc) fun h' tk k=>⟨_,H,I.kept k,?_,q⟩;by_cases hj:j > i
 ·rw [Kw hj,Kw hj];exact⟨_,rfl⟩
 ·rw [Kv hj,Kv hj];exact⟨_,rfl⟩
theorem fE (hc:X.calm=true):yR X (.builtin "min") (fun xs H Q=>∃ i j,xs=[.int i,.int j]/\Q (.int (if j<i then j else i)) H):=by
 intro Ku s σ H xs us Q I r h;obtain⟨i,j,rfl,q⟩:=h;obtain⟨u,w',rfl,⟨t,rfl⟩,⟨t',rfl⟩⟩:=vals2 r;refine min_two_ints (I.ok.hd hc) fun h' tk k=>⟨_,H,I.kept k,?_,q⟩;by_cases hj:j<i
 ·rw [Kw hj,Kw hj];exact⟨_,rfl⟩
 ·rw [Kv hj,Kv hj];exact⟨_,rfl⟩
end
structure ObjM (h:Heap) (x dx C:EL) (mA:Str->Option Value):Prop where
 obj:h.get? x=some (PySem.W.instObj C dx)
 ns:h.Ns1 dx mA
 ne:dx≠x
section
variable {prog:Program} {w:World} {A:Around} {E:Value->Shared->Prop} {s:Shared} {K:EI} {x dx C f:EL} {mA:Str->Option Value} {name:Str} {v:Value}
end
structure Cls (K:EI) (C:EL):Prop where
 pg:PySem.W.plainGet K C Str.empty=true
 hd:PySem.W.hasDictIn K C=true
 po:PySem.W.plainOver K C=true
 sa:G9 K (.ref C) "__setattr__"=some (some (.builtin "object.__setattr__"))
structure Con (K:EI) (C:EL) (f:Str) (v:V) (u:Value):Prop where
 at_:G9 K (.ref C) f=some (some u)
 rel:RelV v u
 get:Jf K u "__get__"=some none
 cp:PySem.W.copiedNames.contains f=false
structure Meth (K:EI) (C:EL) (m:Str) (f:EL):Prop where
 at_:G9 K (.ref C) m=some (some (.ref f))
 fn:PySem.W.isFn K (.ref f)=true
 kp:F9 K (.ref f)=true
section
variable {X:Cx} {Ku:List (EL×Obj)} {σ:St} {H:Hp} {s:Shared} {a C dx:EL} {fs:List (Str×V)} {f:Str} {v:V} {A:Around} {E:Value->Shared->Prop}
end
section
variable {X:Cx} {Ku:List (EL×Obj)} {σ:St} {H:Hp} {s:Shared} {A:Around} {E:Value->Shared->Prop} {Q:Value->Shared->Prop} {c:Value} {b:Bool}
inductive TyOf (K:EI) (H:Hp):V->Value->Prop where
 | non:TyOf K H .non (.type "NoneType")
 | bl (x:Bool):TyOf K H (.bl x) (.type "bool")
 | int (i:Int):TyOf K H (.int i) (.type "int")
 | str (x:Str):TyOf K H (.str x) (.type "str")
 | flt (x:UInt64):TyOf K H (.flt x) (.type "float")
 | lst {a:EL} {xs:List V} (e:H a=some (.lst xs)):TyOf K H (.ref a) (.type "list")
 | frz {a:EL} {o:Obj} {xs:List V} (e:H a=some (.frz o (.lst xs))):TyOf K H (.ref a) (.type "list")
 | tup {a:EL} {xs:List V} (e:H a=some (.tup xs)):TyOf K H (.ref a) (.type "tuple")
 | dK {a:EL} {kvs:List (Key×V)} (e:H a=some (.dK kvs)):TyOf K H (.ref a) (.type "dict")
 | dT {a:EL} {kvs:List (List Key×V)} (e:H a=some (.dT kvs)):TyOf K H (.ref a) (.type "dict")
 | ins {a C dx:EL} {fs:List (Str×V)} (e:H a=some (.ins C dx fs)) (cl:Cls K C) (ha:G9 K (.ref C) "__class__"=some (some (.builtin "object.__class__")))
   (hn:Jf K (.builtin "object.__class__") "__get__"=some (some (.builtin "getset_descriptor.__get__"))) (htk:PySem.W.takesIn K (.builtin "object.__class__")=some true)
   (hm:PySem.W.mroIn K C (.type "object")=some true):TyOf K H (.ref a) (.ref C)
end
structure Room (k:Nat) (A:Around):Prop where
 hd:A.handled=none
 dp:A.depth+3 * k+5<recursionLimit
 un:A.units+16 * k+200<Gr
theorem Room.mono {j k:Nat} {A:Around} (r:Room k A) (h:j<=k):Room j A:=⟨r.hd,by have:=r.dp;omega,by have:=r.un;omega⟩
theorem Room.deeper {k:Nat} {A:Around} (r:Room (k+1) A) (env:Env):Room k (A.deeper env) :=
 ⟨r.hd,by have:=r.dp;show A.depth+1+3 * k+5<_;omega,by have:=r.un;show A.units+3+16 * k+200<_;omega⟩
theorem Room.in1 {k:Nat} {A:Around} (r:Room (k+1) A):Room k A.in1 :=
 ⟨r.hd,by have:=r.dp;show A.depth+3 * k+5<_;omega,by have:=r.un;show A.units+1+16 * k+200<_;omega⟩
theorem Room.depth {k:Nat} {A:Around} (r:Room k A):A.depth<recursionLimit:=by have:=r.dp;omega
theorem Room.units {k:Nat} {A:Around} (r:Room k A):A.units+64<Gr:=by have:=r.un;omega
def qv:TA:=fun _ H Q=>Q [] H
def z7 (ta:TE) (tr:TA):TA:=fun σ H Q=>ta σ H fun x H1=>tr σ H1 fun xs H2=>Q (x :: xs) H2
section
variable {X:Cx} {e:Expr} {es:List Expr} {te:TE} {t:TA} {pos:Pos}
theorem zb:PA X [] qv:=fun _ _ _ _ H Q I h=>Calls.spliced_nil ⟨[],H,I,.nil,h⟩
theorem za (ha:PE X e te) (hr:PA X es t) (hs:FA (e :: es) X.env=(false,eval e X.env) :: FA es X.env:=by rfl):PA X (e :: es) (z7 te t):=by
 intro pos Ku s σ H Q I h;rw [hs];show Fd _ _ (spliced ((false,eval e X.env) :: backTo pos (FA es X.env))) _ _ s;refine Calls.spliced_cons (thn (ha Ku s σ H _ I h) fun u s1 ⟨x,H1,I1,r1,q1⟩=>?_);exact thn (hr pos Ku s1 σ H1 _ I1 q1) fun us s2 ⟨xs,H2,I2,r2,q2⟩=>⟨x :: xs,H2,I2,.cons r1 r2,q2⟩
def DK (t:TA):TE:=fun σ H Q=>t σ H fun xs H1=>xs.length<=Fu/\∀ p,H1 p=none->Q (.ref p) (upd H1 p (.tup xs))
def uk (t:TA):TE:=fun σ H Q=>t σ H fun xs H1=>xs.length<=Fu/\∀ p,H1 p=none->Q (.ref p) (upd H1 p (.lst xs))
theorem zN {x1} (h:PA X es t):PE X (.Tuple es x1 pos) (DK t):=by
 intro Ku s σ H Q I hq;refine wpAny_Tuple_spliced (thn (h pos Ku s σ H _ I hq) fun us s1 ⟨xs,H1,I1,r,z,q⟩=>⟨by rw [<-r.length];exact z,?_⟩);have hf:H1 s1.heap.objs.size=none:=I1.hok.fresh (EN _);refine⟨.ref s1.heap.objs.size,upd H1 s1.heap.objs.size (.tup xs),I1.laid (t':=s1.toks) (fun b u e=>EU _ e) (EN _) ?_,rfl,q _ hf⟩;exact⟨z,us,r,⟨_,Fn _ rfl,rfl,_,rfl⟩⟩
theorem yw (h:PA X es t):PE X (.List es pos) (uk t):=by
 intro Ku s σ H Q I hq;refine wpAny_List_spliced (thn (h pos Ku s σ H _ I hq) fun us s1 ⟨xs,H1,I1,r,z,q⟩=>⟨by rw [<-r.length];exact z,?_⟩);have hf:H1 s1.heap.objs.size=none:=I1.hok.fresh (EN _);refine⟨.ref s1.heap.objs.size,upd H1 s1.heap.objs.size (.lst xs),I1.laid (t':=s1.toks) (fun b u e=>EU _ e) (EN _) ?_,rfl,q _ hf⟩;exact⟨z,us,0,r,Fn _ rfl⟩
end
abbrev Sp:=List V->Hp->VK->XK->Prop
abbrev CXT:=List Env->Hp->Shared->XK->Value->Shared->Prop
structure Env0 (P:Program) (w:World) (K:EI) (mg:Str->Option Value) (base:Heap) (A:Around) (outer:List Env) (s:Shared) (H:Hp):Prop where
 frames:A.frames=some outer
 mod:Mod K mg base
 bs:∀ b o,base.get? b=some o->s.heap.get? b=some o/\H b=none
 bsz:base.objs.size<=s.heap.objs.size
 funs:s.heap.FunFrames base outer
 frf:∀ b∈frs outer,H b=none
 tabs:TabsOk K H
 hok:HOk P w H s.heap
 bare:AllBare s.gens
def CE (outer:List Env) (P:Program) (w:World) (H:Hp) (s:Shared) (Q:VK) (u:Value) (s':Shared):Prop :=
 ∃ v H',s'.os=s.os/\AllBare s'.gens/\Un (frs outer) [] H H' s.heap s'.heap/\HOk P w H' s'.heap/\RelV v u/\Q v H'
def CR (CX:CXT) (outer:List Env) (P:Program) (w:World) (H:Hp) (s:Shared) (Q:VK) (E:XK) (r:Result) (s':Shared):Prop :=
 match r with
 | .ok (.ret u)=>CE outer P w H s Q u s'
 | .ok _=>False
 | .error e=>CX outer H s E e s'
structure FnOk (P:Program) (w:World) (K:EI) (mg:Str->Option Value) (base:Heap) (CX:CXT) (k:Nat) (f:EL) (fd:FuncData) (ps:List Str) (sp:Sp):Prop where
 len:∀ vs H Q E,sp vs H Q E->vs.length=ps.length
 run:∀ (A:Around) (outer:List Env) (s:Shared) (H:Hp) (args:Args) (us:List Value) (vs:List V) (Q:VK) (E:XK),Room k A->Env0 P w K mg base A outer s H->BindsTo s fd args (ps.zip us)->Vals vs us->sp vs H Q E ->
  codeAny (model P w) A (.call (.ref f) args) (CR CX outer P w H s Q E) s
theorem FnOk.mono {P:Program} {w:World} {K:EI} {mg:Str->Option Value} {base:Heap} {CX:CXT} {j k:Nat} {f:EL} {fd:FuncData} {ps:List Str} {sp:Sp} (F:FnOk P w K mg base CX j f fd ps sp) (h:j<=k) :
  FnOk P w K mg base CX k f fd ps sp:=⟨F.len,fun A outer s H args us vs Q E hr=>F.run A outer s H args us vs Q E (hr.mono h)⟩
section
variable {X:Cx} {Ku:List (EL×Obj)} {σ:St} {H:Hp} {s s':Shared}
theorem Inv.env0 (I:Inv X Ku σ H s):Env0 X.prog X.w X.K X.mg X.base X.A X.stack s H :=
 ⟨I.ok.frames,I.ok.mod,I.bs,Fm I.ok.bsz I.sz,I.stack,I.stkFree,fun c P q h1 h2 h3=>I.base.tbls _ _ (I.ok.tabs c P q h1 h2 h3),I.hok,I.bare⟩
theorem Inv.after {Q:VK} {u:Value} (I:Inv X Ku σ H s) (h:CE X.stack X.prog X.w H s Q u s'):EP X Ku σ Q u s':=by
 obtain⟨v,H',os,bare,un,hok,r,q⟩:=h;obtain⟨hh,g,d,t,os'⟩:=s';obtain rfl:os'=s.os:=os;exact⟨v,H',I.call (h':=hh) (g':=g) (d':=d) (t':=t) (ch:=[]) un hok bare (fun b z=>absurd z (by simp)),r,q⟩
end
def qY (sp:Sp) (dvs:List V) (E:XK) (t:TA):TE:=fun σ H Q=>t σ H fun vs H1=>sp (vs++dvs) H1 Q E
def Binds (K:EI) (fd:FuncData) (ps:List Str) (ds:List Value):Prop :=
 ∀ (s:Shared) (us:List Value),K.In s.heap->(us++ds).length=ps.length->BindsTo s fd ⟨us,[]⟩ (ps.zip (us++ds))
theorem Binds.all {K:EI} {fd:FuncData} {ps:List Str} (h:∀ us:List Value,us.length=ps.length->bindArgs fd ⟨us,[]⟩=pure (ps.zip us)):Binds K fd ps []:=fun s us _ hl=>by
 rw [FT] at hl ⊢;exact .of_eq (h us hl)
def Passes (CX:CXT) (X:Cx) (E:XK):Prop:=∀ (Ku:List (EL×Obj)) (σ:St) (H:Hp) (s:Shared) (e:Value) (s':Shared),Inv X Ku σ H s->CX X.stack H s E e s'->X.xe e s'
section
variable {X:Cx} {CX:CXT} {k:Nat} {f C:EL} {fd:FuncData} {ps:List Str} {sp:Sp} {dvs:List V} {ds:List Value} {E:XK} {x m:Str} {p pos apos:Pos} {e o:Expr} {es:List Expr} {ta:TE} {t:TA}
theorem Cd {Ku:List (EL×Obj)} {σ:St} {H:Hp} {s:Shared} {Q:VK} {us:List Value} {vs:List V} (F:FnOk X.prog X.w X.K X.mg X.base CX k f fd ps sp) (hr:Room k X.A) (hb:Binds X.K fd ps ds) (hd:Vals dvs ds) (hx:Passes CX X E)
  (I:Inv X Ku σ H s) (r:Vals vs us) (h:sp (vs++dvs) H Q E):Fd (model X.prog X.w) X.A (call (.ref f) us) (EP X Ku σ Q) X.xe s:=by
 have r2:Vals (vs++dvs) (us++ds):=r.append hd;have hl:(us++ds).length=ps.length:=by rw [<-r2.length];exact F.len _ _ _ _ h
 refine wpAny_call (Km (F.run X.A X.stack s H ⟨us,[]⟩ (us++ds) (vs++dvs) Q E hr I.env0 (hb s us I.kIn hl) r2 h) fun r s' hq=>?_);cases r with
 | error e=>exact hx Ku σ H s e s' I hq
 | ok fl =>
  cases fl with
  | ret u=>exact I.after hq
  | next=>exact Hf hq
  | brk=>exact Hf hq
  | cont=>exact Hf hq
theorem xQ (F:FnOk X.prog X.w X.K X.mg X.base CX k f fd ps sp) (hr:Room k X.A) (hg:Gl X x) (hm:X.mg x=some (.ref f)) (hk:F9 X.K (.ref f)=true) (hb:Binds X.K fd ps ds) (hd:Vals dvs ds) (hx:Passes CX X E)
  (ha:PA X (e :: es) t) (hdb:(x == ("__debug__":Str))=false:=by decide) (he:FA (e :: es) X.env=(false,eval e X.env) :: FA es X.env:=by rfl) (hpl:(backTo pos (FA es X.env)).any (·.1)=false:=by rfl) :
  PE X (.Call (.Name x p) (e :: es) [] pos) (qY sp dvs E t):=by
 intro Ku s σ H Q I h;refine wpAny_Call_Name_kw (gF I hg hm ?_ hdb);refine PySem.W.callWith_K (h₀:=X.base) I.ok.mod.kin hk (thn (ha pos Ku s σ H _ I h) fun us s1 ⟨vs,H1,I1,r,q⟩=>⟨I1.kIn,?_⟩) he hpl;exact Cd F hr hb hd hx I1 r q
structure Mk (K:EI) (C f:EL):Prop where
 makes:PySem.W.makesIn K C=true
 init:G9 K (.ref C) "__init__"=some (some (.ref f))
 fn:PySem.W.isFn K (.ref f)=true
 kp:F9 K (.ref C)=true
end
section
variable {X:Cx} {CX:CXT} {k:Nat} {f C:EL} {fd:FuncData} {ps ks:List Str} {sp:Sp} {E:XK} {x m:Str} {p pos apos kpos:Pos} {e o:Expr} {es:List Expr} {kws:List Keyword} {te ta:TE} {t tk:TA} {nm:Option Str}
structure KBinds (K:EI) (fd:FuncData) (ps ks:List Str) (g:List Value->List Value->List Value) (gV:List V->List V->List V):Prop where
 to:∀ (s:Shared) (us ws:List Value),K.In s.heap->(g us ws).length=ps.length->BindsTo s fd ⟨us,ks.zip ws⟩ (ps.zip (g us ws))
 rel:∀ {vs:List V} {us:List Value} {zs:List V} {ws:List Value},Vals vs us->Vals zs ws->Vals (gV vs zs) (g us ws)
variable {g:List Value->List Value->List Value} {gV:List V->List V->List V}
end
structure FnScope (N P:List Str) (sc:Scope):Prop where
 kind:sc.kind=.function
 co:sc.isCoroutine=false
 gen:sc.isGenerator=false
 nd:N.Nodup
 pre:N.take P.length=P
 par:∀ x∈P,sc.names.lookup x=some .local \/ sc.names.lookup x=some .cell
 nofree:∀ y∈sc.names,y.2≠.free
theorem fF {kindOf:Str->Option NameKind} {x:Str}:∀ {binds:List (Str×Value)} {m:Str->Option Value},(∀ v,(x,v)∉binds)->bindL kindOf binds m x=m x
 | [],_,_=>rfl
 | (n,v) :: r,m,h=>by
  unfold bindL;rw [fF fun w hw=>h w (EM _ hw)];split
  ·have:x≠n:=by rintro rfl;exact h v ET
   simp [this]
  ·rfl
theorem fG {kindOf:Str->Option NameKind} {x:Str}:∀ {binds:List (Str×Value)} {m:Str->Option Value},(∀ v,(x,v)∉binds)->bindC kindOf binds m x=m x
 | [],_,_=>rfl
 | (n,v) :: r,m,h=>by
  unfold bindC;rw [fG fun w hw=>h w (EM _ hw)];split
  ·rfl
  ·have:x≠n:=by rintro rfl;exact h v ET
   simp [this]
theorem fH {kindOf:Str->Option NameKind} {x:Str} {v:Value}:∀ {P:List Str} {vs:List Value} {i:Nat} {m:Str->Option Value},P.Nodup->P[i]?=some x->vs[i]?=some v->kindOf x=some .local ->
  bindL kindOf (P.zip vs) m x=some v
 | [],_,_,_,_,h,_,_=>by simp at h
 | _ :: _,[],_,_,_,_,h,_=>by simp at h
 | p :: P,w :: vs,0,m,nd,h1,h2,hk=>by
  simp at h1 h2;subst h1;subst h2;show bindL kindOf ((p,w) :: P.zip vs) m p=_;unfold bindL;rw [fF fun v hv=>(Gk.mp nd).1 (JJ hv).1,Kw hk];simp
 | p :: P,w :: vs,i+1,m,nd,h1,h2,hk=>by
  show bindL kindOf ((p,w) :: P.zip vs) m x=_;unfold bindL;exact fH (i:=i) (Gk.mp nd).2 (by simpa using h1) (by simpa using h2) hk
theorem fI {kindOf:Str->Option NameKind} {x:Str} {v:Value}:∀ {P:List Str} {vs:List Value} {i:Nat} {m:Str->Option Value},P.Nodup->P[i]?=some x->vs[i]?=some v->kindOf x≠some .local ->
  bindC kindOf (P.zip vs) m x=some v
 | [],_,_,_,_,h,_,_=>by simp at h
 | _ :: _,[],_,_,_,_,h,_=>by simp at h
 | p :: P,w :: vs,0,m,nd,h1,h2,hk=>by
  simp at h1 h2;subst h1;subst h2;show bindC kindOf ((p,w) :: P.zip vs) m p=_;unfold bindC;rw [fG fun v hv=>(Gk.mp nd).1 (JJ hv).1,Kv hk];simp
 | p :: P,w :: vs,i+1,m,nd,h1,h2,hk=>by
  show bindC kindOf ((p,w) :: P.zip vs) m x=_;unfold bindC;exact fI (i:=i) (Gk.mp nd).2 (by simpa using h1) (by simpa using h2) hk
noncomputable def start (N:List Str) (vs:List V):St:=vs.map some++Ha (N.length - vs.length) none
noncomputable def ye (CX:CXT) (P:Program) (w:World) (K:EI) (mg:Str->Option Value) (base:Heap) (N:List Str) (qual:Str) (scope:Scope) (f:EL) (cd:Value) (A:Around) (outer:List Env) (s:Shared) (H:Hp) (E:XK):Cx where
 prog:=P
 w:=w
 K:=K
 mg:=mg
 base:=base
 A:=A.deeper (envOfC qual scope s.heap.objs.size f cd)
 N:=N
 s₀:=s
 H₀:=H
 env:=envOfC qual scope s.heap.objs.size f cd
 outer:=outer
 stack:=envOfC qual scope s.heap.objs.size f cd :: outer
 ex:=[]
 calm:=true
 fn:=fun _=>true
 pn:=[]
 xe:=fun e s'=>Fd (model P w) (A.deeper (envOfC qual scope s.heap.objs.size f cd)) (leaving (envOfC qual scope s.heap.objs.size f cd) e) (fun _ s''=>CX outer H s E e s'') (fun e' s''=>CX outer H s E e' s'') s'
theorem iY {sc:Scope} {n:Nat} {x:Str} (h:sc.names.lookup x=some .cell):∃ c,(cellsFrom n sc.names []).lookup x=some c:=by
 have q:=Hg sc.names n [] (.inl h);exact HR.mp q
theorem rQ {CX:CXT} {P:Program} {w:World} {K:EI} {mg:Str->Option Value} {base:Heap} {N ps:List Str} {qual:Str} {scope:Scope} {f:EL} {cd:Value} {A:Around} {outer:List Env} {s s1:Shared} {H:Hp} {E:XK} {us:List Value} {vs:List V}
  (S:FnScope N ps scope) (hd:A.handled=none) (e0:Env0 P w K mg base A outer s H) (hl:vs.length=ps.length) (r:Vals vs us)
  (x:InCallC s s.heap.objs.size (bindL (envOfC qual scope s.heap.objs.size f cd).kindOf (ps.zip us) fun _=>none) (cellsFrom (s.heap.objs.size+1) scope.names []) (bindC (envOfC qual scope s.heap.objs.size f cd).kindOf (ps.zip us) fun _=>none) s1) :
  Inv (ye CX P w K mg base N qual scope f cd A outer s H E) [] (start N vs) H s1:=by
 have hpl:ps.length<=N.length:=by have:=congrArg List.length S.pre;rw [Fo] at this;omega
 obtain⟨h1,tk,rfl,hk⟩:=x.done;have noA:∀ b:EL,b∉(ye CX P w K mg base N qual scope f cd A outer s H E).ex:=fun b z=>absurd (show b∈([]:List EL) from z) (by simp);refine⟨⟨e0.mod,S.kind,rfl,rfl,EN _,fun y z c h1 h2=>?_,fun y hy=>?_,fun y c _ h=>?_,fun _=>hd,Around.frames_deeper e0.frames,.inr ⟨rfl,rfl⟩,fun b z=>absurd z (noA b),e0.bs,e0.bsz,fun b _ _=>noA b,fun b z=>absurd z (noA b),e0.funs,e0.frf,e0.tabs⟩,
  rfl,e0.bare,Un.kept hk,⟨_,x.toInCall.ns,fun i y v h1 h2 h3=>?_⟩,fun y c h=>⟨_,x.cell y c h⟩,e0.hok.fresh (EN _),fun y c h=>?_,fun p hp=>absurd (show p∈([]:List (EL×Obj)) from hp) (by simp),e0.hok.kept hk,?_⟩
 ·exact name_of_addr x.apart (G6 h1) (G6 h2)
 ·have hy:scope.names.lookup y=some .cell \/ scope.names.lookup y=some .free:=hy;rcases hy with hy | hy
  ·exact iY hy
  ·exact absurd rfl (S.nofree _ (G6 hy))
 ·exact Gj (x.above y c (G6 h))
 ·have hi:i<vs.length:=by
   unfold start at h2;by_cases hi:i<vs.length
   ·exact hi
   ·rw [EX (by simpa using hi)] at h2;rw [Hb] at h2;split at h2 <;> cases h2
  have ha:vs[i]?=some v:=by
   unfold start at h2;rw [ER (by simpa using hi),EO] at h2;cases e:vs[i]? with
   | none=>rw [e] at h2;cases h2
   | some a=>rw [e] at h2;cases h2;rfl
  obtain⟨u,hu,rv⟩:=r.get ha;have hp:ps[i]?=some y:=by
   rw [<-S.pre,G4 (by omega)];exact h1
  have ndP:ps.Nodup:=by rw [<-S.pre];exact S.nd.sublist (List.take_sublist _ _)
  refine⟨u,rv,?_⟩;rcases S.par y (EK hp) with k | k
  ·exact .inl ⟨k,fH ndP hp hu k⟩
  ·obtain⟨c,e⟩:=iY (n:=s.heap.objs.size+1) k;refine .inr ⟨.inl k,c,e,?_⟩;have q:=x.cell y c e;rw [fI ndP hp hu (by show scope.names.lookup y≠_;rw [k];decide)] at q;exact q
 ·exact e0.hok.fresh (Gj (x.above y c (G6 h)))
 ·unfold start;show _=N.length;rw [EY,EF,Iw];omega
theorem Bv {CX:CXT} {P:Program} {w:World} {K:EI} {mg:Str->Option Value} {base:Heap} {k:Nat} {f:EL} {name qual:Str} {params:Arguments} {body:List Stmt} {scope:Scope} {dV kV doc pm cdv ct oc:Value} {an od:Option EL}
  {osl:Array (Option Value)} {N ps:List Str} {sp:Sp} (lk:K.lookup f=some ⟨oc,od,.func (Gm name qual params body scope dV kV doc pm an cdv ct),osl⟩) (hcd:FU K cdv qual=true) (S:FnScope N ps scope)
  (len:∀ vs H Q E,sp vs H Q E->vs.length=ps.length)
  (hbody:∀ (A:Around) (outer:List Env) (s:Shared) (H:Hp) (vs:List V) (Q:VK) (E:XK),Room k (A.deeper (envOfC qual scope s.heap.objs.size f cdv))->sp vs H Q E ->
   ∃ t,PSs (ye CX P w K mg base N qual scope f cdv A outer s H E) body t/\t { nx:=fun _ H'=>Q .non H',rt:=Q } (start N vs) H) :
  FnOk P w K mg base CX (k+1) f (Gm name qual params body scope dV kV doc pm an cdv ct) ps sp:=by
 refine⟨len,fun A outer s H args us vs Q E hr e0 hb r hsp=>?_⟩;have hl:=len _ _ _ _ hsp;have KX:K.In s.heap:=e0.mod.kin.keeps fun b o e=>(e0.bs b o e).1;have lim:s.heap.NoLimit:=e0.mod.nolimit.keeps fun b o e=>(e0.bs b o e).1;have hkind:∀ y∈ps.zip us,scope.names.lookup y.1=some .local \/ (scope.names.lookup y.1=some .cell/\((cellsFrom (s.heap.objs.size+1) scope.names []).lookup y.1).isSome=true):=fun⟨n,v⟩ hy=>by
  rcases S.par n (JJ hy).1 with q | q
  ·exact .inl q
  ·exact .inr ⟨q,Hg _ _ _ (.inl q)⟩
 refine codeAny_call_function hr.depth (KX _ _ lk) rfl S.co S.gen rfl (PySem.W.codeRec_of KX hcd) (hb _ _ _ _ ?_);refine wpAny_newFunctionEnv_cells S.kind hkind fun env he s1 x=>?_;subst he;refine⟨lim.keeps x.toInCall.keep,codeAny_func ?_⟩;obtain⟨t,ht,hq⟩:=hbody A outer s H vs Q E (hr.deeper _) hsp;have I:Inv (ye CX P w K mg base N qual scope f cdv A outer s H E) [] (start N vs) H s1:=rQ S hr.hd e0 hl r x;refine GN (ht [] s1 (start N vs) H _ I hq) (fun fl s' hs=>?_) fun e s' hs=>hs;have fin:∀ {σ':St} {H':Hp} {v:V} {u:Value},Inv (ye CX P w K mg base N qual scope f cdv A outer s H E) [] σ' H' s'->RelV v u->Q v H'->CE outer P w H s Q u s' :=
  fun {σ' H' v u} J rv q=>⟨v,H',J.os,J.bare,J.base,J.hok,rv,q⟩
 cases fl with
 | ret u =>
  obtain⟨v,σ',H',J,rv,q⟩:=hs;exact fin J rv q
 | next =>
  obtain⟨σ',H',J,q⟩:=hs;exact fin (v:=V.non) (u:=Value.none) J rfl q
 | brk =>
  obtain⟨_,_,_,q⟩:=hs;exact Hf q
 | cont =>
  obtain⟨_,_,_,q⟩:=hs;exact Hf q
section
variable {X:Cx} {x:Str} {p pos:Pos} {e:Expr} {es:List Expr} {t:TA} {id T:String} {r:List V->Hp->VK->Prop}
def tCB (r:List V->Hp->VK->Prop) (t:TA):TE:=fun σ H Q=>t σ H fun vs H1=>r vs H1 Q
theorem zF (hc:yR X (.builtin id) r) (hg:Gl X x) (hm:X.mg x=none) (hv:bootBuiltins x=some (.builtin id)) (ha:PA X (e :: es) t) (hn:x ≠ "__name__":=by decide) (hdb:(x == ("__debug__":Str))=false:=by decide)
  (he:FA (e :: es) X.env=(false,eval e X.env) :: FA es X.env:=by rfl) (hpl:(backTo pos (FA es X.env)).any (·.1)=false:=by rfl):PE X (.Call (.Name x p) (e :: es) [] pos) (tCB r t):=by
 intro Ku s σ H Q I h;refine wpAny_Call_Name_kw (aR I hg hm hv ?_ hn hdb);exact PyProof.Rows.callWith_builtin1 (thn (ha pos Ku s σ H _ I h) fun us s1 ⟨vs,H1,I1,r1,q1⟩=>hc Ku s1 σ H1 vs us Q I1 r1 q1) he hpl
theorem ar (hc:yR X (.type T) r) (hg:Gl X x) (hm:X.mg x=none) (hv:bootBuiltins x=some (.type T)) (ha:PA X (e :: es) t) (hn:x ≠ "__name__":=by decide) (hdb:(x == ("__debug__":Str))=false:=by decide)
  (he:FA (e :: es) X.env=(false,eval e X.env) :: FA es X.env:=by rfl) (hpl:(backTo pos (FA es X.env)).any (·.1)=false:=by rfl):PE X (.Call (.Name x p) (e :: es) [] pos) (tCB r t):=by
 intro Ku s σ H Q I h;refine wpAny_Call_Name_kw (aR I hg hm hv ?_ hn hdb);exact GQ (thn (ha pos Ku s σ H _ I h) fun us s1 ⟨vs,H1,I1,r1,q1⟩=>hc Ku s1 σ H1 vs us Q I1 r1 q1) he hpl
theorem md (hc:yR X (.type T) r) (hg:Gl X x) (hm:X.mg x=none) (hv:bootBuiltins x=some (.type T)) (hn:x ≠ "__name__":=by decide) (hdb:(x == ("__debug__":Str))=false:=by decide) :
  PE X (.Call (.Name x p) [] [] pos) (tCB r qv):=by
 intro Ku s σ H Q I h;refine wpAny_Call_Name_kw (aR I hg hm hv ?_ hn hdb);exact PyProof.Rows.callWith_type0 (hc Ku s σ H [] [] Q I .nil h)
end
end L2
namespace HT
open PySem PyProof.Rows
theorem rcLt_int (A:Around) (s:Shared) (a:Int) (t:Tok) (c:Int) (u:Tok) (prog:Program) (w:World) (E:Value->Shared->Prop) (Q:Value->Shared->Prop) (h:Q (.bool (decide (a<c))) s) :
  Fd (model prog w) A (richCompare .Lt (.int a t) (.int c u)) Q E s :=
 (PyProof.Rows.lt_int h:Fd (model prog w) A (F5 .Lt (.int a t) (.int c u)) Q E s)
section
open PySem.SeqAt
open PySem.AutoSeq1 (wpAny_loadPart')
open PySem.MeetsSeq PySem.MeetsSeq2 PySem.MeetsSeq3
end
section
variable {prog:Program} {w:World} {A:Around} {E:Value->Shared->Prop} {s:Shared}
theorem cat_tup {t b:EL} {vs ws:List Value} {Q:Value->Shared->Prop} (ht:IsTup s.heap t vs.toArray) (hb:IsTup s.heap b ws.toArray) (hv:vs≠[])
  (h1:ws=[]->Q (.ref t) s) (h2:ws≠[]->Q (.ref s.heap.objs.size) { s with heap:=s.heap.push { cls:=.type "tuple",data:=.seq (vs++ws).toArray } })
  (hsz:vs.length+ws.length<=Fu):Fd (model prog w) A (binaryOp .Add (.ref t) (.ref b)) Q E s:=by
 obtain⟨⟨cls,dd,data,sl⟩,ho,hc,n,hd⟩:=id ht;obtain⟨⟨cls2,dd2,data2,sl2⟩,ho2,hc2,n2,hd2⟩:=id hb;simp only at hc hd hc2 hd2;subst hc hd hc2 hd2;have e:vs.toArray++ws.toArray=(vs++ws).toArray:=by simp
 by_cases hw:ws=[]
 ·exact concat_meets ⟨_,ho,rfl⟩ ⟨_,ho2,rfl⟩ noFill_tuple_add seq_tuple_add Jy Js (Ji _ _)
   (tuple_addW1 t b vs.toArray ws.toArray n n2 dd dd2 sl sl2 (by simpa using hv) (by simp [hw])) ⟨ho,ho2,h1 hw⟩
 ·refine concat_meets ⟨_,ho,rfl⟩ ⟨_,ho2,rfl⟩ noFill_tuple_add seq_tuple_add Jy Js (Ji _ _)
   (tuple_addW2 t b vs.toArray ws.toArray n n2 dd dd2 sl sl2 (by simpa using hv) (by simpa using hw) (by rw [E3,E3];exact hsz)) ⟨ho,ho2,?_⟩
  rw [e];exact h2 hw
def sIx (n d:Nat):Option Int->Nat
 | none=>d
 | some v=>if v<0 then (v+(n:Int)).toNat else min v.toNat n
theorem sIx_none (n d:Nat):sIx n d none=d:=rfl
theorem sIx_nat (n d k:Nat):sIx n d (some (k:Int))=min k n:=by
 show (if (k:Int)<0 then ((k:Int)+(n:Int)).toNat else min (k:Int).toNat n)=min k n;rw [Kv (by omega),FG]
end
end HT
namespace L2
open PySem PySem.Spec PyProof.Rows
abbrev TO:=St->Hp->(Option Int->Hp->Prop)->Prop
def PO (X:Cx) (e:Option Expr) (t:TO):Prop :=
 ∀ (Ku:List (EL×Obj)) (s:Shared) (σ:St) (H:Hp) (Q:Option Int->Hp->Prop),Inv X Ku σ H s->t σ H Q ->
  Fd (model X.prog X.w) X.A (evalPart e X.env) (fun u s'=>∃ o H',Inv X Ku σ H' s'/\IsPart u o/\Q o H') X.xe s
def nN:TO:=fun _ H Q=>Q none H
def Bw (t:TE):TO:=fun σ H Q=>t σ H fun x H1=>∃ i,x=.int i/\Q (some i) H1
theorem intsAre_of {ns:List Int}:∀ {us:List Value},Vals (ns.map V.int) us->IntsAre us ns:=by
 induction ns with
 | nil=>intro us r;rw [Ie] at r;cases r;exact .nil
 | cons n ns ih =>
  intro us r;rw [Fg] at r;cases r with
  | cons r1 r2 =>
   obtain⟨t,e⟩:=r1;subst e;exact .cons n t (ih r2)
section
variable {X:Cx} {e:Expr} {te:TE} {lo hi:Option Expr} {tl th:TO} {pos p2:Pos}
theorem xR:PO X none nN:=by
 intro Ku s σ H Q I h;rw [evalPart_none];exact ES ⟨none,H,I,.none,h⟩
theorem gI (h:PE X e te):PO X (some e) (Bw te):=by
 intro Ku s σ H Q I hw;rw [evalPart_some];refine thn (h Ku s σ H _ I hw) fun u s1 ⟨x,H1,I1,r1,q1⟩=>?_;obtain⟨i,rfl,q⟩:=q1;obtain⟨t,rfl⟩:=r1;exact⟨some i,H1,I1,.int i t,q⟩
def SlR (X:Cx) (r:V->Option Int->Option Int->Hp->VK->Prop):Prop :=
 ∀ (Ku:List (EL×Obj)) (s:Shared) (σ:St) (H:Hp) (x:V) (v vl vu:Value) (lo hi:Option Int) (sl:EL) (Q:VK),Inv X Ku σ H s->RelV x v->s.heap.IsSliceOf sl vl vu .none->IsPart vl lo->IsPart vu hi->r x lo hi H Q ->
  ∃ T id,typeLookup (.type T) "__getitem__"=pure (some (.builtin id))/\s.TypeIs v T/\Fd (model X.prog X.w) X.A (getItem v (.ref sl)) (EP X Ku σ Q) X.xe s
def tSl (r:V->Option Int->Option Int->Hp->VK->Prop) (te:TE) (tl th:TO):TE:=fun σ H Q=>te σ H fun x H1=>tl σ H1 fun l H2=>th σ H2 fun u H3=>r x l u H3 Q
theorem iZ {r:V->Option Int->Option Int->Hp->VK->Prop} (hr:SlR X r) (he:PE X e te) (hl:PO X lo tl) (hu:PO X hi th):PE X (.Subscript e (.Slice lo hi none p2) pos) (tSl r te tl th):=by
 intro Ku s σ H Q I h;refine Subscript_ (thn (he Ku s σ H _ I h) fun v s1 ⟨x,H1,I1,r1,q1⟩=>?_);refine wpAny_Slice (thn (hl Ku s1 σ H1 _ I1 q1) fun vl s2 ⟨l,H2,I2,pl,q2⟩=>thn (hu Ku s2 σ H2 _ I2 q2) fun vu s3 ⟨u,H3,I3,pu,q3⟩=>?_);rw [evalPart_none];refine ES ?_;have I4:Inv X Ku σ H3 { s3 with heap:=s3.heap.push { cls:=.type "slice",data:=.fields #[vl,vu,.none] } }:=I3.kept (t':=s3.toks) fun b ob q=>EU _ q;obtain⟨T,id,hT,ht,hg⟩:=hr Ku { s3 with heap:=s3.heap.push { cls:=.type "slice",data:=.fields #[vl,vu,.none] } } σ H3 x v vl vu l u s3.heap.objs.size Q I4 r1 (Heap.IsSliceOf.new ..) pl pu q3;show Fd (model X.prog X.w) X.A (subscriptTail e (.Slice lo hi none p2) v (.ref s3.heap.objs.size)) (EP X Ku σ Q) X.xe { s3 with heap:=s3.heap.push { cls:=.type "slice",data:=.fields #[vl,vu,.none] } };exact tail_any (ops:=[.ref s3.heap.objs.size,v]) ht hT hg (by with_unfolding_all rfl)
noncomputable def me (xs:List V) (lo hi:Option Int):List V:=(xs.drop (HT.sIx xs.length 0 lo)).take (HT.sIx xs.length xs.length hi - HT.sIx xs.length 0 lo)
theorem i5 (xs:List V) (lo hi:Option Int):(me xs lo hi).length<=xs.length:=by
 unfold me;rw [Fo,Hz];omega
def uo (K:EI):R2:=fun x y H Q=>∃ a b xs ys,x=.ref a/\y=.ref b/\SqT K H a xs/\SqT K H b ys/\xs≠[]/\xs.length+ys.length<=Fu /\
 (ys=[]->Q (.ref a) H)/\(ys≠[]->∀ p,H p=none->Q (.ref p) (upd H p (.tup (xs++ys))))
theorem Vals.nil_iff {xs:List V} {us:List Value} (r:Vals xs us):us=[]↔xs=[]:=by
 cases r with
 | nil=>simp
 | cons _ _=>simp
theorem xS:OpR X (binaryOp .Add) (uo X.K):=by
 intro Ku s σ H x y v u Q I rx ry h;obtain⟨a,b,xs,ys,rfl,rfl,ha,hb,hx,hz,q1,q2⟩:=h;cases rx;cases ry;obtain⟨its,r1,p1,_⟩:=I.tuple ha;obtain⟨its2,r2,p2,_⟩:=I.tuple hb;refine HT.cat_tup p1 p2 (fun z=>hx (r1.nil_iff.mp z)) (fun z=>⟨.ref a,H,I,rfl,q1 (r2.nil_iff.mp z)⟩) (fun z=>?_) (by rw [<-r1.length,<- r2.length];exact hz);refine⟨.ref s.heap.objs.size,_,I.laid (t':=s.toks) (o:=.tup (xs++ys)) (fun b ob q=>EU _ q) (EN _) ?_,rfl,q2 (fun w=>z (r2.nil_iff.mpr w)) _ (I.hok.fresh (EN _))⟩;exact⟨by rw [EY];exact hz,_,r1.append r2,IsTup.new _ _⟩
end
noncomputable def ixN (n:Nat) (i:Int):Option Nat:=if 0<=i then (if i<n then some i.toNat else none) else if -(n:Int)<=i then some (i+n).toNat else none
noncomputable def atI {α:Type} (xs:List α) (i:Int):Option α:=(ixN xs.length i).bind fun j=>xs[j]?
theorem nO {n:Nat} {i:Int} {j:Nat} (h:ixN n i=some j):seqIndex? i n=some j/\j<n/\-(n:Int)<=i/\i<n:=by
 unfold ixN at h;by_cases h0:0<=i
 ·rw [Kw h0] at h;by_cases h1:i<n
  ·rw [Kw h1] at h;have e:i.toNat=j:=Option.some.inj h;exact⟨by rw [seqIndex_of h0 h1,e],by omega,by omega,h1⟩
  ·rw [Kv h1] at h;cases h
 ·rw [Kv h0] at h;by_cases h1:-(n:Int)<=i
  ·rw [Kw h1] at h;have e:(i+n).toNat=j:=Option.some.inj h;exact⟨by rw [seqIndex_neg (by omega) h1,e],by omega,h1,by omega⟩
  ·rw [Kv h1] at h;cases h
theorem nP {α:Type} {xs:List α} {i:Int} {v:α} (h:atI xs i=some v):∃ j,seqIndex? i xs.length=some j/\xs[j]?=some v/\j<xs.length/\-(xs.length:Int)<=i/\i<xs.length:=by
 unfold atI at h;cases e:ixN xs.length i with
 | none=>rw [e] at h;cases h
 | some j =>
  rw [e] at h;obtain⟨h1,h2,h3,h4⟩:=nO e;exact⟨j,h1,h,h2,h3,h4⟩
theorem br {α:Type} {xs:List α} {j:Nat} {v:α} (h:xs[j]?=some v):atI xs (j:Int)=some v:=by
 have hj:j<xs.length:=(EH.mp h).1;have e:ixN xs.length (j:Int)=some j:=by
  unfold ixN;rw [Kw (by omega),Kw (by omega)];simp
 unfold atI;rw [e];exact h
def gJ (b:Expr):Prop:=∀ o i,subscripted b false o i=operate [o,i] (getItem o i)
def IxR (X:Cx) (r:R2):Prop :=
 ∀ (value slice:Expr) (Ku:List (EL×Obj)) (s:Shared) (σ:St) (H:Hp) (x y:V) (v u:Value) (Q:VK),Inv X Ku σ H s->RelV x v->RelV y u->r x y H Q ->
  subscripted slice false v u=operate [v,u] (getItem v u)->Fd (model X.prog X.w) X.A (subscriptTail value slice v u) (EP X Ku σ Q) X.xe s
def MtR (X:Cx) (id:String) (r:V->List V->Hp->VK->Prop):Prop :=
 ∀ (Ku:List (EL×Obj)) (s:Shared) (σ:St) (H:Hp) (x:V) (xs:List V) (v:Value) (us:List Value) (Q:VK),Inv X Ku σ H s->RelV x v->Vals xs us->r x xs H Q ->
  Fd (model X.prog X.w) X.A (call (.builtin id) (v :: us)) (EP X Ku σ Q) X.xe s
section
variable {X:Cx} {a b:Expr} {ta tb:TE} {pos:Pos}
theorem zE {r:R2} (hr:IxR X r) (ha:PE X a ta) (hb:PE X b tb) (hs:gJ b):PE X (.Subscript a b pos) (tOp r ta tb):=by
 intro Ku s σ H Q I h;exact Subscript_ (B9 ha hb I h fun v u s2 x y H2 I2 rx ry q=>hr a b Ku s2 σ H2 x y v u Q I2 rx ry q (hs _ _))
def rR (K:EI):R2:=fun x y H Q=>∃ p xs i v,x=.ref p/\y=.int i/\SqL K H p xs/\atI xs i=some v/\Q v H
def Ce (K:EI):R2:=fun x y H Q=>∃ p xs i v,x=.ref p/\y=.int i/\SqT K H p xs/\atI xs i=some v/\Q v H
theorem xT:IxR X (rR X.K):=by
 intro value slice Ku s σ H x y v u Q I rx ry h hs;obtain⟨p,xs,i,z,rfl,rfl,hq,he,q⟩:=h;cases rx;obtain⟨t,rfl⟩:=ry;obtain⟨its,r,pl,hz⟩:=I.list hq;obtain⟨j,h1,h2,h3,h4,h5⟩:=nP he;obtain⟨w,ew,rw'⟩:=r.get h2;have hl:=r.length;have hn:=b7;have fin:EP X Ku σ Q w s:=⟨z,H,I,rw',q⟩;by_cases h0:0<=i
 ·have hj:i.toNat=j:=by
   rw [seqIndex_of h0 h5] at h1;exact Option.some.inj h1
  exact item_listR pl.isList h0 (by omega) (by rw [hj];simpa using ew) fin hs
 ·have hj:(i+(its.toArray.size:Int)).toNat=j:=by
   rw [seqIndex_neg (by omega) h4] at h1;rw [E3,<- hl];exact Option.some.inj h1
  exact subscriptTail_builtinR (x:=w) pl.isList.typeIs slot_list_getitem.lookup
   (wpAny_getItem_list_neg (Q:=fun r s'=>r=w/\EP X Ku σ Q r s') pl.isList (by omega) (by rw [E3] <;> omega) (by omega) (by rw [hj];simpa using ew) ⟨rfl,fin⟩) hs
theorem Cf:IxR X (Ce X.K):=by
 intro value slice Ku s σ H x y v u Q I rx ry h hs;obtain⟨p,xs,i,z,rfl,rfl,hq,he,q⟩:=h;cases rx;obtain⟨t,rfl⟩:=ry;obtain⟨its,r,pl,hz⟩:=I.tuple hq;obtain⟨j,h1,h2,h3,h4,h5⟩:=nP he;obtain⟨w,ew,rw'⟩:=r.get h2;have hl:=r.length;have hn:=b7;have fin:EP X Ku σ Q w s:=⟨z,H,I,rw',q⟩;exact subscriptTail_builtinR (x:=w) pl.typeIs slot_tuple_getitem.lookup
  (getItem_tuple (j:=j) (Q:=fun r s'=>r=w/\EP X Ku σ Q r s') pl (by omega) (by omega) (by rw [E3,<- hl];exact h1) (by simpa using ew) ⟨rfl,fin⟩) hs
theorem mf (its:List Value) (n j:Nat) (u:Value):Hq (·.setIfInBounds j u) { cls:=.type "list",data:=.seq its.toArray n }={ cls:=.type "list",data:=.seq (its.set j u).toArray n }:=by
 simp [Hq]
theorem Inv.lst {Ku:List (EL×Obj)} {σ:St} {H:Hp} {s:Shared} {p:EL} {xs:List V} (I:Inv X Ku σ H s) (h:H p=some (.lst xs)) :
  ∃ (its:List Value) (n:Nat),Vals xs its/\s.heap.get? p=some { cls:=.type "list",data:=.seq its.toArray n }/\xs.length<=Fu:=by
 obtain⟨z,its,n,r,e⟩:=I.hok p _ h;exact⟨its,n,r,e,z⟩
theorem Inv.lstUpd {Ku:List (EL×Obj)} {σ:St} {H:Hp} {s:Shared} {p:EL} {xs ys:List V} {its its':List Value} {n n':Nat} {f:Obj->Obj} (I:Inv X Ku σ H s) (h:H p=some (.lst xs))
  (ho:s.heap.get? p=some { cls:=.type "list",data:=.seq its.toArray n }) (hf:f { cls:=.type "list",data:=.seq its.toArray n }={ cls:=.type "list",data:=.seq its'.toArray n' }) (r:Vals ys its') (hz:ys.length<=Fu) (t:Nat) :
  Inv X Ku σ (upd H p (.lst ys)) { s with heap:=s.heap.update p f,toks:=t }:=by
 have e:(s.heap.update p f).get? p=some { cls:=.type "list",data:=.seq its'.toArray n' }:=by
  rw [Iy f ho (by rw [hf] <;> rfl),hf]
 refine I.write (x:=p) (e:=p) (by rw [h];trivial) (.inl rfl) (fun b u hb q=>(GR _ _ (F6 hb)).trans q) ⟨_,e⟩ ?_;exact⟨hz,its',n',r,e⟩
def i6:V->V->V->Hp->(Hp->Prop)->Prop:=fun o i v H Q=>∃ p xs k j,o=.ref p/\i=.int k/\H p=some (.lst xs)/\ixN xs.length k=some j/\Q (upd H p (.lst (xs.set j v)))
theorem set_list:xM X i6:=by
 intro Ku s σ H o i v ov iv u Q I ro ri rv h;obtain⟨p,xs,k,j,rfl,rfl,hp,hj,q⟩:=h;cases ro;obtain⟨t,rfl⟩:=ri;obtain⟨its,n,r,ho,hz⟩:=I.lst hp;obtain⟨h1,h2,h3,h4⟩:=nO hj;have hl:=r.length;have hn:=b7;have I':Inv X Ku σ (upd H p (.lst (xs.set j v))) { s with heap:=s.heap.update p (Hq (·.setIfInBounds j u)) } :=
  I.lstUpd hp ho (mf its n j u) (r.set rv j) (by rw [Hm];exact hz) s.toks
 by_cases h0:0<=k
 ·have hk:k.toNat=j:=by
   rw [seqIndex_of h0 h4] at h1;exact Option.some.inj h1
  exact PySem.W.ki_setAt ho h0 (by omega) (by rw [E3,<- hl];exact h4) (by rw [hk];exact⟨_,I',q⟩)
 ·have hk:(k+(its.toArray.size:Int)).toNat=j:=by
   rw [seqIndex_neg (by omega) h3] at h1;rw [E3,<- hl];exact Option.some.inj h1
  exact PySem.W.ki_setBack ho (by omega) (by rw [E3,<- hl];exact h3) (by omega) (by rw [hk];exact⟨_,I',q⟩)
theorem gK (lo hi:Option Int) (n:Nat):(sliceBounds lo hi none n).1=((HT.sIx n 0 lo:Nat):Int)/\(sliceBounds lo hi none n).2.1=((HT.sIx n n hi:Nat):Int)/\(sliceBounds lo hi none n).2.2=1:=by
 refine⟨?_,?_,rfl⟩
 ·cases lo with
  | none=>simp [sliceBounds,HT.sIx]
  | some i =>
   simp only [sliceBounds,HT.sIx,Option.getD_none,show (1:Int) > 0 by decide,if_true];by_cases h:i<0
   ·simp only [h,if_true] <;> omega
   ·simp only [h,if_false] <;> omega
 ·cases hi with
  | none=>simp [sliceBounds,HT.sIx]
  | some i =>
   simp only [sliceBounds,HT.sIx,Option.getD_none,show (1:Int) > 0 by decide,if_true];by_cases h:i<0
   ·simp only [h,if_true] <;> omega
   ·simp only [h,if_false] <;> omega
theorem fg (its:List Value) (lo hi:Option Int):slicePick its.toArray lo hi none=((its.drop (HT.sIx its.length 0 lo)).take (HT.sIx its.length its.length hi - HT.sIx its.length 0 lo)).toArray:=by
 obtain⟨h1,h2,h3⟩:=gK lo hi its.toArray.size;unfold slicePick;rw [h1,h2,h3];simp only [sliceRange_one,pick_run,E3] <;> rfl
def xU (K:EI):V->Option Int->Option Int->Hp->VK->Prop:=fun x lo hi H Q=>∃ a xs,x=.ref a/\SqL K H a xs/\∀ p,H p=none->Q (.ref p) (upd H p (.lst (me xs lo hi)))
theorem xV:SlR X (xU X.K):=by
 intro Ku s σ H x v vl vu lo hi sl Q I rx hs pl pu h;obtain⟨a,xs,rfl,hx,q⟩:=h;cases rx;obtain⟨its,r,ht,hz⟩:=I.list hx;have hlen:=r.length;refine⟨"list",_,slot_list_getitem.lookup,ht.isList.typeIs,?_⟩;refine wpAny_getItem_list_slice ht.isList hs pl pu .none (by simp) ?_ (by rw [E3] <;> omega);rw [fg,<- hlen];refine⟨.ref s.heap.objs.size,_,I.laid (t':=s.toks) (o:=.lst (me xs lo hi)) (fun b ob q=>EU _ q) (EN _) ?_,rfl,q _ (I.hok.fresh (EN _))⟩;exact⟨Fm (i5 xs lo hi) hz,_,0,(r.drop (HT.sIx xs.length 0 lo)).take (HT.sIx xs.length xs.length hi - HT.sIx xs.length 0 lo),Fn _ rfl⟩
noncomputable def cJ:V->Bool
 | .non=>true
 | .bl _=>true
 | .int _=>true
 | .str _=>true
 | _=>false
noncomputable def eqV:V->V->Bool
 | .non,.non=>true
 | .bl a,.bl b=>a == b
 | .bl a,.int b=>(if a then 1 else 0) == b
 | .int a,.bl b=>a == (if b then 1 else 0)
 | .int a,.int b=>a == b
 | .str a,.str b=>a == b
 | _,_=>false
theorem Cg {A:Around} {s:Shared} {y x:V} {u v:Value} (ry:RelV y u) (rx:RelV x v) (fy:cJ y=true) (fx:cJ x=true):SeqAt.EqAt A s u v (eqV y x):=by
 cases y with
 | non =>
  cases ry;cases x with
  | non=>cases rx;exact SeqAt.EqAt.same _
  | bl b=>cases rx;exact SeqAt.EqAt.none_bool b
  | int b=>obtain⟨t,rfl⟩:=rx;exact SeqAt.EqAt.none_int b t
  | str b=>obtain⟨t,rfl⟩:=rx;exact SeqAt.EqAt.none_str b t
  | _=>exact absurd (show false=true from fx) EG
 | bl a =>
  cases ry;cases x with
  | non=>cases rx;exact SeqAt.EqAt.bool_none a
  | bl b=>cases rx;exact SeqAt.EqAt.bool_bool a b
  | int b=>obtain⟨t,rfl⟩:=rx;exact SeqAt.EqAt.bool_int a b t
  | str b=>obtain⟨t,rfl⟩:=rx;exact SeqAt.EqAt.bool_str a b t
  | _=>exact absurd (show false=true from fx) EG
 | int a =>
  obtain⟨t',rfl⟩:=ry;cases x with
  | non=>cases rx;exact SeqAt.EqAt.int_none a t'
  | bl b=>cases rx;exact SeqAt.EqAt.int_bool a t' b
  | int b=>obtain⟨t,rfl⟩:=rx;exact SeqAt.EqAt.int_int a t' b t
  | str b=>obtain⟨t,rfl⟩:=rx;exact SeqAt.EqAt.int_str a t' b t
  | _=>exact absurd (show false=true from fx) EG
 | str a =>
  obtain⟨t',rfl⟩:=ry;cases x with
  | non=>cases rx;exact SeqAt.EqAt.str_none a t'
  | bl b=>cases rx;exact SeqAt.EqAt.str_bool a t' b
  | int b=>obtain⟨t,rfl⟩:=rx;exact SeqAt.EqAt.str_int a t' b t
  | str b=>obtain⟨t,rfl⟩:=rx;exact SeqAt.EqAt.str_str a t' b t
  | _=>exact absurd (show false=true from fx) EG
 | _=>exact absurd (show false=true from fy) EG
noncomputable def eqU (x:V) (u:Value):Bool:=match u with
 | .none=>eqV .non x
 | .bool b=>eqV (.bl b) x
 | .int i _=>eqV (.int i) x
 | .str z _=>eqV (.str z) x
 | _=>false
theorem uq {x y:V} {u:Value} (r:RelV y u) (f:cJ y=true):eqU x u=eqV y x:=by
 cases y with
 | non=>cases r;rfl
 | bl b=>cases r;rfl
 | int i=>obtain⟨t,rfl⟩:=r;rfl
 | str z=>obtain⟨t,rfl⟩:=r;rfl
 | _=>exact absurd (show false=true from f) EG
theorem gL {x:V}:∀ {xs:List V} {us:List Value},Vals xs us->xs.all cJ=true->us.any (eqU x)=xs.any fun y=>eqV y x
 | _,_,.nil,_=>rfl
 | y :: xs,u :: us,.cons r t,f=>by
  rw [Kb,EV] at f;rw [Jj,Jj,uq r f.1,gL t f.2]
theorem dO {A:Around} {s:Shared} {x:V} {v:Value} (rx:RelV x v) (fx:cJ x=true):∀ {xs:List V} {us:List Value},Vals xs us->xs.all cJ=true->∀ u∈us,SeqAt.EqAt A s u v (eqU x u)
 | _,_,.nil,_=>fun u hu=>by cases hu
 | y :: xs,u :: us,.cons r t,f=>fun u' hu=>by
  rw [Kb,EV] at f;rcases EW.mp hu with rfl | hu
  ·rw [uq r f.1];exact Cg r rx f.1 fx
  ·exact dO rx fx t f.2 u' hu
noncomputable def inV (x:V) (xs:List V):Bool:=xs.any fun y=>eqV y x
def rIn (K:EI) (neg:Bool):R2:=fun x y H Q=>∃ p xs,y=.ref p/\(SqL K H p xs \/ SqT K H p xs)/\cJ x=true/\xs.all cJ=true/\Q (.bl (if neg then !inV x xs else inV x xs)) H
theorem gM:OpR X (F5 .NotIn) (rIn X.K true):=by
 intro Ku s σ H x y v u Q I rx ry h;obtain⟨p,xs,rfl,hq,fx,fs,q⟩:=h;cases ry;rcases hq with hq | hq
 ·obtain⟨its,r,pl,hz⟩:=I.list hq;refine SeqAt.notIn_listAt (eqU x) pl.isList (fun w hw=>dO rx fx r fs w (by simpa using hw)) ⟨.bl _,H,I,rfl,?_⟩;rw [show its.toArray.any (eqU x)=its.any (eqU x) by simp,gL r fs];exact q
 ·obtain⟨its,r,pl,hz⟩:=I.tuple hq;refine SeqAt.notIn_tupleAt (eqU x) pl (fun w hw=>dO rx fx r fs w (by simpa using hw)) ⟨.bl _,H,I,rfl,?_⟩;rw [show its.toArray.any (eqU x)=its.any (eqU x) by simp,gL r fs];exact q
theorem gN:yR X (.builtin "len") (fun xs H Q=>∃ p ys,xs=[.ref p]/\(SqL X.K H p ys \/ SqT X.K H p ys)/\Q (.int ys.length) H):=by
 intro Ku s σ H xs us Q I r h;obtain⟨p,ys,rfl,hq,q⟩:=h;obtain⟨u,rfl,rx⟩:=vals1 r;cases rx;have hn:=b7;rcases hq with hq | hq
 ·obtain⟨its,r',pl,hz⟩:=I.list hq;have hlen:=r'.length;exact Calls.call_len_list pl.isList (by simp only [E3] <;> omega) ⟨.int ys.length,H,I.tok _,⟨s.toks+1,by rw [E3,hlen]⟩,q⟩
 ·obtain⟨its,r',pl,hz⟩:=I.tuple hq;have hlen:=r'.length;exact len_tuple pl (by simp only [E3] <;> omega) ⟨.int ys.length,H,I.tok _,⟨s.toks+1,by rw [E3,hlen]⟩,q⟩
theorem gO:yR X (.type "list") (fun xs H Q=>∃ p ys,xs=[.ref p]/\(SqL X.K H p ys \/ SqT X.K H p ys)/\∀ l,H l=none->Q (.ref l) (upd H l (.lst ys))):=by
 intro Ku s σ H xs us Q I r h;obtain⟨p,ys,rfl,hq,q⟩:=h;obtain⟨u,rfl,rx⟩:=vals1 r;cases rx;have fin:∀ (its:List Value),Vals ys its->ys.length<=Fu->∀ (h':Heap) (c':Nat),(∀ b o',s.heap.get? b=some o'->h'.get? b=some o') ->
   h'.get? s.heap.objs.size=some { cls:=.type "list",dict:=none,data:=.seq its.toArray c',slots:=#[] }->EP X Ku σ Q (.ref s.heap.objs.size) { s with heap:=h' }:=fun its r' hz h' c' kp e =>
  ⟨.ref s.heap.objs.size,_,I.laid (t':=s.toks) kp (EN _) (show ObjOk X.prog X.w _ h' _ (.lst ys) from⟨hz,its,c',r',e⟩),rfl,q _ (I.hok.fresh (EN _))⟩
 rcases hq with hq | hq
 ·obtain⟨its,r',pl,hz⟩:=I.list hq;have hlen:=r'.length;obtain⟨o,ho,hc,n,hd⟩:=pl.isList;exact call_list_seq p (.inl rfl) ho hc hd (fun h' c' kp e=>fin its r' hz h' c' kp e) (by simp only [E3] <;> omega)
 ·obtain⟨its,r',pl,hz⟩:=I.tuple hq;have hlen:=r'.length;obtain⟨o,ho,hc,n,hd⟩:=pl;exact call_list_seq p (.inr rfl) ho hc hd (fun h' c' kp e=>fin its r' hz h' c' kp e) (by simp only [E3] <;> omega)
theorem fh:yR X (.type "tuple") (fun xs H Q=>∃ p ys,xs=[.ref p]/\((SqL X.K H p ys/\∀ l,H l=none->Q (.ref l) (upd H l (.tup ys))) \/ (SqT X.K H p ys/\Q (.ref p) H))):=by
 intro Ku s σ H xs us Q I r h;obtain⟨p,ys,rfl,h⟩:=h;obtain⟨u,rfl,rx⟩:=vals1 r;cases rx;rcases h with⟨hq,q⟩ | ⟨hq,q⟩
 ·obtain⟨its,r',pl,hz⟩:=I.list hq;have hlen:=r'.length;refine call_tuple_list pl.isList (fun h' kp=>?_) (by simp only [E3] <;> omega);have I1:Inv X Ku σ H { s with heap:=h' }:=I.kept (t':=s.toks) kp;have I2:Inv X Ku σ (upd H h'.objs.size (.tup ys)) { s with heap:=h'.push { cls:=.type "tuple",data:=.seq its.toArray } } :=
   I1.laid (t':=s.toks) (fun b o e=>EU _ e) (EN _) (show ObjOk X.prog X.w _ _ _ (.tup ys) from⟨hz,its,r',IsTup.new _ _⟩)
  exact⟨.ref h'.objs.size,_,I2,rfl,q _ (I1.hok.fresh (EN _))⟩
 ·obtain⟨its,r',pl,hz⟩:=I.tuple hq;exact call_tuple_same pl ⟨.ref p,H,I,rfl,q⟩
def tyV (K:EI) (T:String) (x:V) (H:Hp):Prop:=match x with
 | .str _=>T="str"
 | .int _=>T="int"
 | .ref p=>(T="list"/\∃ xs,SqL K H p xs) \/ (T="tuple"/\∃ o,K.lookup p=some o/\o.cls=.type "tuple"/\o.dict=none) \/
   (T="dict"/\((∃ kvs,H p=some (.dK kvs)) \/ ∃ kvs,H p=some (.dT kvs))) \/ (T="set"/\∃ S n,H p=some (.set S n))
 | _=>False
theorem Ci {Ku:List (EL×Obj)} {σ:St} {H:Hp} {s:Shared} {T:String} {x:V} {v:Value} (I:Inv X Ku σ H s) (r:RelV x v) (ty:tyV X.K T x H) :
  s.TypeIs v T/\∀ a,v=.ref a->∃ ob,s.heap.get? a=some ob/\ob.dict=none:=by
 cases x with
 | str z =>
  obtain⟨t,rfl⟩:=r;cases (show T="str" from ty);exact⟨typeIs_str s z t,fun _ e=>nomatch e⟩
 | int i =>
  obtain⟨t,rfl⟩:=r;cases (show T="int" from ty);exact⟨typeIs_int s i t,fun _ e=>nomatch e⟩
 | ref p =>
  cases r;rcases ty with⟨rfl,xs,hq⟩ | ⟨rfl,o,hk,hc,hd⟩ | ⟨rfl,hk⟩ | ⟨rfl,S,n,hk⟩
  ·obtain⟨its,_,pl,_⟩:=I.list hq;refine⟨pl.isList.typeIs,fun a e=>?_⟩;cases e;obtain⟨o,n,e,c,hd,_⟩:=pl;exact⟨o,e,hd⟩
  ·refine⟨⟨o,I.kIn p o hk,hc⟩,fun a e=>?_⟩;cases e;exact⟨o,I.kIn _ o hk,hd⟩
  ·have z:∃ o,s.heap.get? p=some o/\o.ExactDict:=by
    rcases hk with⟨kvs,hk⟩ | ⟨kvs,hk⟩
    ·obtain⟨_,_,_,_,o,_,_,e,ex,_⟩:=I.hok p _ hk;exact⟨o,e,ex⟩
    ·obtain⟨_,_,_,_,o,_,_,e,ex,_⟩:=I.hok p _ hk;exact⟨o,e,ex⟩
   obtain⟨o,e,ex⟩:=z;refine⟨⟨o,e,ex.1⟩,fun a e2=>?_⟩;cases e2;exact⟨o,e,ex.2.1⟩
  ·obtain⟨o,_,_,_,e,ex,_⟩:=I.hok p _ hk;refine⟨⟨o,e,ex.1⟩,fun a e2=>?_⟩;cases e2;exact⟨o,e,ex.2.1⟩
 | _=>exact Hf ty
def tBM (K:EI) (T:String) (r:V->List V->Hp->VK->Prop) (to:TE) (t:TA):TE:=fun σ H Q=>to σ H fun x H1=>tyV K T x H1/\t σ H1 fun xs H2=>r x xs H2 Q
variable {o e:Expr} {es:List Expr} {to:TE} {t:TA} {name:Str} {apos cpos:Pos} {T id:String} {r:V->List V->Hp->VK->Prop}
theorem dP (pa:PlainAttrs T) (slot:Slot T name id) (hty:typeOf (.builtin id)=pure (.type "method_descriptor")) (hm:MtR X id r) (ho:PE X o to) (ha:PA X (e :: es) t)
  (hbase:attributeBase o name X.env (eval o X.env)=eval o X.env:=by rfl)
  (hfew:((backTo cpos (FA (e :: es) X.env)).all (fun x=>!x.1) && (backToKw cpos (keywordEach [] X.env)).all (fun x=>x.1.isSome)
   && decide ((e :: es).length+([]:List Keyword).length+(if ([]:List Keyword).isEmpty then 0 else 1)<30))=true:=by rfl)
  (hline:(apos.endLine == cpos.line)=true:=by rfl) (hs:FA (e :: es) X.env=(false,eval e X.env) :: FA es X.env:=by rfl) (hplain:(backTo cpos (FA es X.env)).any (·.1)=false:=by rfl) :
  PE X (.Call (.Attribute o name apos) (e :: es) [] cpos) (tBM X.K T r to t):=by
 intro Ku s σ H Q I h;refine wpAny_Call_method_late hbase hfew hline rfl (thn (ho Ku s σ H _ I h) fun v s1 ⟨x,H1,I1,r1,ty,q1⟩=>?_);obtain⟨h1,h2⟩:=Ci I1 r1 ty;refine⟨T,id,pa,slot,hty,h1,h2,?_⟩;have hA:=ha cpos Ku s1 σ H1 _ I1 q1;rw [hs] at hA ⊢;refine Jz (by show (false || (backTo cpos (FA es X.env)).any (·.1))=false;rw [hplain] <;> rfl) (JQ ?_);exact thn hA fun us s2 ⟨vs,H2,I2,r2,q2⟩=>hm Ku s2 σ H2 x vs v us Q I2 r1 r2 q2
/- xs.append(e),list.index on a module's tuple .. are MtR facts of 06m -/
end
def MtM (X:Cx) (id:String) (r:V->List V->Hp->VK->Prop):Prop :=
 ∀ (Ku:List (EL×Obj)) (s:Shared) (σ:St) (H:Hp) (x:V) (xs:List V) (v:Value) (us:List Value) (Q:VK),Inv X Ku σ H s->RelV x v->Vals xs us->r x xs H Q ->
  Fd (model X.prog X.w) X.A (call (.builtin id) (v :: us)) (EP X Ku σ Q) X.xe s
theorem Vals.one:∀ {x:V} {us:List Value},Vals [x] us->∃ u,us=[u]/\RelV x u
 | _,_,.cons r .nil=>⟨_,rfl,r⟩
theorem Vals.reverse {xs:List V} {us:List Value} (h:Vals xs us):Vals xs.reverse us.reverse:=by
 induction h with
 | nil=>exact .nil
 | cons r t ih=>rw [FL,FL];exact Vals.append ih (.cons r .nil)
section
variable {X:Cx} {Ku:List (EL×Obj)} {σ:St} {H:Hp} {s:Shared} {l b:EL} {xs ys zs:List V}
theorem Inv.lset {its its':List Value} {n:Nat} {f:Array Value->Array Value} {t':Nat} (I:Inv X Ku σ H s) (hH:H l=some (.lst xs))
  (e:s.heap.get? l=some { cls:=.type "list",data:=.seq its.toArray n }) (hf:f its.toArray=its'.toArray) (hv:Vals ys its') (hz:ys.length<=Fu) :
  Inv X Ku σ (upd H l (.lst ys)) { s with heap:=s.heap.update l (Hq f),toks:=t' }:=by
 have q:=PySem.IsL.update e f;rw [hf] at q;refine I.write (x:=l) (e:=l) (by rw [hH];exact trivial) (.inl rfl) (fun b' u hb hu=>(GR s.heap (Hq f) (F6 hb)).trans hu) ⟨_,q⟩ ?_;exact⟨hz,its',_,hv,q⟩
theorem Inv.lnew {its:List Value} {t':Nat} (I:Inv X Ku σ H s) (hv:Vals ys its) (hz:ys.length<=Fu) :
  Inv X Ku σ (upd H s.heap.objs.size (.lst ys)) { s with heap:=s.heap.push { cls:=.type "list",data:=.seq its.toArray },toks:=t' } :=
 I.laid (fun _ _ q=>EU _ q) (EN _) ⟨hz,its,0,hv,Fn _ rfl⟩
theorem Inv.fresh (I:Inv X Ku σ H s):H s.heap.objs.size=none:=I.hok.fresh (EN _)
theorem Inv.lstM (I:Inv X Ku σ H s) (hH:H l=some (.lst xs)):xs.length<=Fu/\∃ (its:List Value) (n:Nat),Vals xs its/\xs.length=its.length/\s.heap.get? l=some { cls:=.type "list",data:=.seq its.toArray n }:=by
 obtain⟨z,its,n,r,e⟩:=I.hok l _ hH;exact⟨z,its,n,r,r.length,e⟩
end
section
variable {X:Cx}
def gP:V->List V->Hp->VK->Prop:=fun x vs H Q=>∃ l xs y,x=.ref l/\vs=[y]/\H l=some (.lst xs)/\xs.length<Fu/\Q .non (upd H l (.lst (xs++[y])))
theorem jG:MtM X "list.append" gP:=by
 intro Ku s σ H x vs v us Q I rx rv h;obtain⟨l,xs,y,rfl,rfl,hH,hz,q⟩:=h;cases rx;obtain⟨u,rfl,ru⟩:=rv.one;obtain⟨z,its,n,r,hl,e⟩:=I.lstM hH;refine call_meets F.slot_list_append ⟨_,e,rfl⟩ J5 (JR _ _) (PySem.list_append l its.toArray n u (by rw [E3];omega)) ⟨e,?_⟩;refine⟨.non,_,I.lset (its':=its++[u]) hH e (by simp) (r.append (.cons ru .nil)) ?_,rfl,q⟩;rw [EY,FJ];omega
end
end L2
namespace Att
open PySem PySem.W PySem.Calls PyProof.Rows
theorem cY {P:Params} {h:Heap}:∀ (ns:List Int) (vs:List Value),WellAll P h vs (ns.map WData.int)->IntsAre vs ns:=by
 intro ns
 induction ns with
 | nil =>
  intro vs w;rw [Ie] at w;cases w;exact .nil
 | cons n ns ih =>
  intro vs w;rw [Fg] at w;cases w with
  | cons a b =>
   cases a;exact .cons _ _ (ih _ b)
theorem rS {l:OpenLaw} {n:Nat} (hn:l.most=some n) {P:Params} {h:Heap} {args:List WData} {vals:List Value}
  (hpre:l.row.toRowW.claim.pre args=true) (hwl:WellAll P h vals args) :
  ∃ a vs ns,vals=[Value.ref a]/\args=[WData.list (ns.map WData.int)]/\h.get? a=some { cls:=.type "list",data:=.seq vs.toArray }/\IntsAre vs ns/\ns.length<=n:=by
 have hsh:WShape.hasAll [] args [.list .int]=true:=(pre_splitW hpre).1;have hc:l.pre.holds [] { args:=args }=true:=(pre_splitW hpre).2;obtain⟨d,r,rfl,h1,h2⟩:=hasAllW_cons hsh;obtain rfl:=hasAllW_nil h2;obtain⟨xs,rfl,h3⟩:=hasW_list h1;obtain⟨ns,rfl⟩:=items_int h3;have hlen:ns.length<=n:=by
  unfold OpenLaw.pre at hc;have h4:(WTm.not (.lt (.lit (.int (n:Int))) (.len (.arg 0)))).holds [] { args:=[.list (ns.map .int)] }=true:=by
   have h4:=(holds_andW hc).1;rw [hn] at h4;exact h4
  have h5:=condW_of h4 (w_not (w_lt w_lit (w_len_list (w_arg rfl))));rw [EF] at h5;refine Nat.le_of_not_lt fun q=>?_;have q':(n:Int)<((ns.length:Nat):Int):=by omega
  first
   | (rw [Kx q'] at h5;exact absurd h5 (by decide))
   | (simp at h5;omega)
 cases hwl with
 | cons w1 w2 =>
  cases w2;cases w1 with
  | list ho hall=>exact⟨_,_,ns,rfl,rfl,ho,cY ns _ hall,hlen⟩
theorem rT (l:OpenLaw) (args:List WData):l.row.toRowW.claim.post args (.bool true) args=true :=
 postW_of (r:=l.row.toRowW) (X:=(true == true))
  (show WShape.has [] (.bool true) .bool=true by first | rfl | decide | simp [WShape.has,WShape.arms,WShape.armsAll])
  (show (WTm.eq .res (.lit (.bool true))).value [] { args:=args,res:=some (.bool true),after:=args }=some (.bool (true == true)) from w_eq_bool (w_res rfl) w_lit) rfl
theorem attach_call {l:OpenLaw} {n:Nat} {q:Program} {loose:List Str} {XP:(Str->Option Value)->Heap->Prop} {YP:World->Heap->Prop} {d:DefRec}
  (hn:l.most=some n) (hdf:d.params.defaults=[])
  (call:∀ (w:World) (s₀ s₁:Shared) (mg mb:Str->Option Value) (fa:EL) (o:Obj) (pm cd doc:Value) (a:EL) (vs:List Value) (ns:List Int),
   Ground q loose [] XP w s₀ mg mb s₁.heap->YP w s₁.heap ->
   s₁.heap.get? fa=some o->o.data=.func (docDef d.name d.params d.body d.scope pm cd doc)->s₁.heap.CodeRec cd d.name->mg d.name=some (.ref fa) ->
   s₁.heap.get? a=some { cls:=.type "list",data:=.seq vs.toArray }->IntsAre vs ns->ns.length<=n->s₁.gens=#[] ->
   codeAny (model l.prog w) callerA (.call (.ref fa) ⟨[.ref a],[]⟩) (fun r s'=>r=.ok (.ret (.bool true))/\OldK s₁.heap s'.heap/\s'.os=s₁.os/\AllBare s'.gens) s₁) :
  WalkO q loose XP YP l.row.toRowW d [] (fun f vs=>PySem.call f vs):=by
 intro w s₀ s₁ mg mb G Y fa o pm cd doc dV kV ho hd hcd hD hmg hg args vals as hpre hlay hrd hwl hlo;obtain rfl:dV=.none:=Dflts.none hD hdf;obtain rfl:kV=.none:=Dflts.noKw hD;obtain⟨a,vs,ns,rfl,rfl,hobj,hints,hlen⟩:=rS hn hpre hwl;refine enter_call (Km (call w s₀ s₁ mg mb fa o pm cd doc a vs ns G Y ho (fd_plain hd) hcd hmg hobj hints hlen hg) fun r s' hq=>?_);obtain⟨rfl,h2,h3,h4⟩:=hq;exact⟨.inl ⟨.bool true,.bool true,[],rfl,fun _=>rfl,.bool true,rT l _,fun _=>⟨List.Pairwise.nil,fun _ hm=>(nomatch hm)⟩⟩,h2,h3,h4⟩
section
variable {prog:Program} {w:World} {A:Around} {E:Value->Shared->Prop} {s:Shared} {K:Frag}
def noObjs (h:Heap):Heap:={ h with objs:=#[] }
theorem noObjs_get (h:Heap) (b:EL):(noObjs h).get? b=none:=by
 cases e:(noObjs h).get? b with
 | none=>rfl
 | some o=>exact absurd (E4 e) (FV _)
theorem fr_all {h:Heap} {L:EL} {m:Str->Option Value} (n:h.Ns L m):Fr (noObjs h) L h m :=
 ⟨n,fun b o e=>(by rw [noObjs_get] at e;cases e),Ft _⟩
end
end Att
namespace L2
open PySem PySem.Spec PyProof.Rows
theorem fJ:∀ {vs:List Value} {ns:List Int},IntsAre vs ns->Vals (ns.map V.int) vs
 | _,_,.nil=>.nil
 | _,_,.cons n t h=>.cons ⟨t,rfl⟩ (fJ h)
end L2
/- THE LAST THEOREM (shape;LID,My.* are yours):
   My.Adr: a structure of the addresses that your layer names (classes,functions);My.Txt K t: a structure (Prop) of the equations over K;
   My.txt_mk:{K} {implicit addresses ..} (e1:nsIn K Fh "law"=some (some (.ref f))) (e2:K.lookup f=some ⟨oc,od,.func (fnOf "law" "law" params body scope dV kV doc pm an cdv ct),sl⟩) (e3:codeIn K cdv "law"=true) ..:∃ t,My.Txt K t
set_option maxRecDepth 100000 in
set_option maxHeartbeats 0 in
theorem PySem.Challenge.cw_LID_holds : PySem.Challenge.rw_LID.Holds := by
 w_on;o_law;k_head;(case hw=>w_witness2)
 k_fill
 refine L2.walk_of (l:=PySem.Challenge.rw_LID) (n:=63) (k:=40) (x:="script") (CX:=fun w=>..) (sp:=fun _=>My.sp_law) rfl (by decide) rfl ⟨rfl,by decide,by decide⟩ (fun w h Y=>PySem.W.kIn_of Y) ?F ?S ?C
 case F =>
  intro w mg fa h KX G hmg;have T:∃ t,My.Txt (L2.KOf KX) t:=by
   dsimp only [L2.KOf]                          -- K must stand as «<heap const> w.params» for k_is
   refine' My.txt_mk ?e1 ?e2 ?e3 ..
   (case e1=>PySem.W.k_is)                    -- in the order: a name->its address->its object->its parts
   (case e2=>PySem.W.k_is)
   ..
  obtain⟨t,T⟩:=T;have e0:=hmg.symm.trans (GV KX G T.law);cases e0                                       -- fa is the law's own address;exact⟨_,fun s u=>.of_eq rfl,fun base kb nb=>My.law_fn T kb nb⟩     -- if «.of_eq rfl» comes too early: refine' ⟨_,?b,fun base kb nb=>My.law_fn T kb nb⟩;exact fun s u=>.of_eq rfl
 case S=>exact fun w H a ns hl hO hS=>..
 case C=>exact ..
(the tactic k_is has no namespace: write k_is) -/
namespace L2
open PySem PySem.Spec PyProof.Rows
noncomputable def jr (s:Stmt):Arguments:=match s with
 | .FunctionDef _ a _ _ _ _ _ _ _ _=>a
 | _=>{ posonlyargs:=[],args:=[],vararg:=none,kwonlyargs:=[],kw_defaults:=[],kwarg:=none,defaults:=[] }
noncomputable def yH (s:Stmt):List Stmt:=match s with
 | .FunctionDef _ _ b _ _ _ _ _ _ _=>b
 | _=>[]
noncomputable def zi (s:Stmt):Scope:=match s with
 | .FunctionDef _ _ _ _ _ _ sc _ _ _=>sc
 | _=>{ kind:=.function,names:=[],isGenerator:=false,isCoroutine:=false }
abbrev CX0:CXT:=fun _ _ _ _ _ _=>False
abbrev E0:XK:=fun _ _ _=>False
theorem DL {X:Cx}:Passes CX0 X E0:=fun _ _ _ _ _ _ _ h=>h.elim
structure Fun (K:EI) (x qual:Str) (st:Stmt) (f:EL) (fd:FuncData):Prop where
 ex:∃ (oc:Value) (od:Option EL) (kV doc pm:Value) (an:Option EL) (cdv ct:Value) (osl:Array (Option Value)),
  fd=Gm x qual (jr st) (yH st) (zi st) .none kV doc pm an cdv ct/\K.lookup f=some ⟨oc,od,.func fd,osl⟩/\FU K cdv qual=true
 kp:F9 K (.ref f)=true
section
variable {P:Program} {w:World} {K:EI} {mg:Str->Option Value} {base:Heap}
theorem Fun.ok {x qual:Str} {st:Stmt} {f:EL} {fd:FuncData} {N ps:List Str} {k:Nat} {sp:Sp} (F:Fun K x qual st f fd) (S:FnScope N ps (zi st)) (len:∀ vs H Q E,sp vs H Q E->vs.length=ps.length)
  (hbody:∀ (cdv:Value) (A:Around) (outer:List Env) (s:Shared) (H:Hp) (vs:List V) (Q:VK) (E:XK),Room k (A.deeper (envOfC qual (zi st) s.heap.objs.size f cdv))->sp vs H Q E ->
   ∃ t,PSs (ye CX0 P w K mg base N qual (zi st) f cdv A outer s H E).nox (yH st) t/\t { nx:=fun _ H'=>Q .non H',rt:=Q } (start N vs) H):FnOk P w K mg base CX0 (k+1) f fd ps sp:=by
 obtain⟨oc,od,kV,doc,pm,an,cdv,ct,osl,rfl,lk,hcd⟩:=F.ex;refine Bv lk hcd S len fun A outer s H vs Q E hr hsp=>?_;obtain⟨t,h,q⟩:=hbody cdv A outer s H vs Q E hr hsp;exact⟨t,h.nox,q⟩
theorem Fun.binds {x qual:Str} {st:Stmt} {f:EL} {fd:FuncData} {ps:List Str} (F:Fun K x qual st f fd)
  (h:∀ (kV doc pm:Value) (an:Option EL) (cdv ct:Value) (us:List Value),us.length=ps.length->bindArgs (Gm x qual (jr st) (yH st) (zi st) .none kV doc pm an cdv ct) ⟨us,[]⟩=pure (ps.zip us)):Binds K fd ps []:=by
 obtain⟨oc,od,kV,doc,pm,an,cdv,ct,osl,rfl,lk,hcd⟩:=F.ex;exact .all (h kV doc pm an cdv ct)
theorem mh {x qual:Str} {st:Stmt} {f:EL} {oc:Value} {od an:Option EL} {osl:Array (Option Value)} {kV doc pm cdv ct:Value} (l:K.lookup f=some ⟨oc,od,.func (Gm x qual (jr st) (yH st) (zi st) .none kV doc pm an cdv ct),osl⟩)
  (c:FU K cdv qual=true) (k:F9 K (.ref f)=true):Fun K x qual st f (Gm x qual (jr st) (yH st) (zi st) .none kV doc pm an cdv ct):=⟨⟨oc,od,kV,doc,pm,an,cdv,ct,osl,rfl,l,c⟩,k⟩
end
theorem yz {n:Nat} (h:n<=1000):n<Fu:=Nat.lt_of_le_of_lt h (by decide)
section
variable {X:Cx}
theorem pv (i:Nat) {x:Str} {pos:Pos} (hN:X.N[i]?=some x:=by rfl) (hv:Vis X.env.scope x:=by first | exact Or.inl rfl | exact Or.inr (Or.inl rfl) | exact Or.inr (Or.inr rfl)) (hd:(x == ("__debug__":Str))=false:=by decide)
  (hcd:(x == ("__classdict__":Str))=false:=by decide):PE X (.Name x pos) (yi i):=B2 hN hv hd hcd
end
def Same (H H':Hp):Prop:=∀ b o,H b=some o->H' b=some o
theorem Same.refl (H:Hp):Same H H:=fun _ _ h=>h
theorem Same.trans {H H1 H2:Hp} (a:Same H H1) (b:Same H1 H2):Same H H2:=fun c o h=>b c o (a c o h)
theorem Same.free {H H':Hp} (e:Same H H') {l:EL} (h:H' l=Option.none):H l=Option.none:=by
 cases q:H l with
 | none=>rfl
 | some o =>
  rw [e l o q] at h;cases h
theorem Same.seq {K:EI} {H H':Hp} {a:EL} {xs:List V} (e:Same H H') (h:SqL K H a xs):SqL K H' a xs:=by
 rcases h with (h | ⟨o,h⟩) | h
 ·exact .inl (.inl (e _ _ h))
 ·exact .inl (.inr ⟨o,e _ _ h⟩)
 ·exact .inr h
noncomputable def yp (env:Env):List (Str×NameKind)->List (Str×EL)->List (Str×EL)
 | [],acc=>acc
 | (x,k) :: r,acc=>if k == .free then yp env r ((x,(env.cells.lookup x).getD 0) :: acc) else yp env r acc
theorem dQ {sc:Scope} {env:Env} (h:∀ x,(x,NameKind.free)∈sc.names->∃ c,env.cells.lookup x=some c):closureFor sc env=pure (yp env sc.names []):=by
 have key:∀ (names:List (Str×NameKind)) (acc:List (Str×EL)),(∀ x,(x,NameKind.free)∈names->∃ c,env.cells.lookup x=some c) ->
   (forIn names acc fun (x:Str×NameKind) (cs:List (Str×EL))=>if (x.2 == NameKind.free)=true then (do let c <- cellOf env x.1;pure (ForInStep.yield ((x.1,c) :: cs))) else pure (ForInStep.yield cs))=(pure (yp env names acc):Sem (List (Str×EL))):=by
  intro names
  induction names with
  | nil=>intro acc _;rfl
  | cons p r ih =>
   intro acc hh;obtain⟨x,k⟩:=p;rw [HW];unfold yp;by_cases hk:(k == NameKind.free)=true
   ·have hk':k=.free:=by simpa using hk
    subst hk';obtain⟨c,hc⟩:=hh x ET;simp only [beq_self_eq_true,if_true];rw [<-ih _ fun y hy=>hh y (EM _ hy)];have:cellOf env x=pure c:=by unfold cellOf;rw [hc]
    rw [this,hc];rfl
   ·simp only [hk,Fz,if_false];rw [<-ih _ fun y hy=>hh y (EM _ hy)];rfl
 simp only [closureFor];have q:=key sc.names [] h;refine Eq.trans ?_ (Eq.trans (congrArg (fun z=>z >>= fun r=>pure r) q) ?_)
 ·rfl
 ·rfl
theorem vi {env:Env}:∀ {names:List (Str×NameKind)} {acc:List (Str×EL)} {p:Str×EL},p∈yp env names acc->p∈acc \/ ((p.1,NameKind.free)∈names/\p.2=(env.cells.lookup p.1).getD 0)
 | [],acc,p,h=>.inl h
 | (x,k) :: r,acc,p,h=>by
  unfold yp at h;split at h
  ·rename_i hk;have hk':k=.free:=by simpa using hk
   subst hk';rcases vi h with q | ⟨q,e⟩
   ·rcases EW.mp q with q | q
    ·subst q;exact .inr ⟨ET,rfl⟩
    ·exact .inl q
   ·exact .inr ⟨EM _ q,e⟩
  ·rcases vi h with q | ⟨q,e⟩
   ·exact .inl q
   ·exact .inr ⟨EM _ q,e⟩
theorem vN {α:Type}:∀ {l:List (Str×α)} {x:Str} {v:α},(x,v)∈l->∃ u,l.lookup x=some u
 | (y,u) :: r,x,v,h=>by
  rw [FK];cases hb:x == y with
  | true=>exact⟨u,rfl⟩
  | false =>
   rcases EW.mp h with e | h
   ·have:x=y:=congrArg JS e;subst this;simp at hb
   ·exact vN h
theorem aW {env:Env}:∀ {names:List (Str×NameKind)} {acc:List (Str×EL)} {x:Str},(x,NameKind.free)∈names->(x,(env.cells.lookup x).getD 0)∈yp env names acc
 | (y,k) :: r,acc,x,h=>by
  have mono:∀ (names:List (Str×NameKind)) (acc:List (Str×EL)) (p:Str×EL),p∈acc->p∈yp env names acc:=by
   intro names
   induction names with
   | nil=>intro acc p hp;exact hp
   | cons q r ih =>
    intro acc p hp;obtain⟨a,b⟩:=q;unfold yp;split
    ·exact ih _ _ (EM _ hp)
    ·exact ih _ _ hp
  unfold yp;rcases EW.mp h with e | h
  ·cases e;simp only [beq_self_eq_true,if_true];exact mono _ _ _ ET
  ·split
   ·exact aW h
   ·exact aW h
theorem aJ {env:Env} {names:List (Str×NameKind)} {x:Str} {c:EL} (h:∀ x,(x,NameKind.free)∈names->∃ c,env.cells.lookup x=some c) (e:(yp env names []).lookup x=some c):env.cells.lookup x=some c/\(x,NameKind.free)∈names:=by
 rcases vi (mem_of_lookup e) with q | ⟨q,e'⟩
 ·cases q
 ·obtain⟨c',hc⟩:=h _ q;dsimp only at hc e';rw [hc] at e';exact⟨by rw [hc];exact congrArg some e'.symm,q⟩
theorem vV {env:Env} {names:List (Str×NameKind)} {x:Str} {c:EL} (h:∀ x,(x,NameKind.free)∈names->∃ c,env.cells.lookup x=some c) (hx:(x,NameKind.free)∈names) (e:env.cells.lookup x=some c):(yp env names []).lookup x=some c:=by
 obtain⟨u,hu⟩:=vN (aW (env:=env) (acc:=[]) hx);have:=(aJ h hu).1;rw [this] at e;rw [hu,e]
theorem jH:∀ {names:List (Str×NameKind)} {n:Nat} {acc:List (Str×EL)} {x:Str} {c:EL},(cellsFrom n names acc).lookup x=some c->(n<=c/\c<n+names.length/\(x,NameKind.cell)∈names) \/ (acc.lookup x=some c/\(x,NameKind.cell)∉names)
 | [],n,acc,x,c,h=>.inr ⟨h,by simp⟩
 | (y,k) :: r,n,acc,x,c,h=>by
  unfold cellsFrom at h;split at h
  ·rename_i hk;have hk':k=.cell:=by simpa using hk
   subst hk';rcases jH h with⟨q1,q2,q3⟩ | ⟨q1,q2⟩
   ·exact .inl ⟨Ig q1,Fb q2 (by rw [E1];omega),EM _ q3⟩
   ·rw [FK] at q1;cases hb:x == y with
    | true =>
     rw [hb] at q1;cases q1;have:x=y:=by simpa using hb
     subst this;exact .inl ⟨EN _,by rw [E1];exact Nat.lt_add_of_pos_right (IS _),ET⟩
    | false =>
     rw [hb] at q1;refine .inr ⟨q1,fun z=>?_⟩;rcases EW.mp z with e | z
     ·have:x=y:=congrArg JS e;subst this;simp at hb
     ·exact q2 z
  ·rename_i hk;rcases jH h with⟨q1,q2,q3⟩ | ⟨q1,q2⟩
   ·exact .inl ⟨q1,Fb q2 (by rw [E1];omega),EM _ q3⟩
   ·refine .inr ⟨q1,fun z=>?_⟩;rcases EW.mp z with e | z
    ·have:k=.cell:=(congrArg Prod.snd e).symm;subst this;simp at hk
    ·exact q2 z
theorem jT:∀ (names:List (Str×NameKind)) (n:Nat) (acc:List (Str×EL)),(acc.Pairwise fun x y=>x.2≠y.2)->(∀ p∈acc,p.2<n)->(cellsFrom n names acc).Pairwise fun x y=>x.2≠y.2
 | [],n,acc,h,_=>h
 | (y,k) :: r,n,acc,h,hl=>by
  unfold cellsFrom;split
  ·refine jT r (n+1) _ (Gp.mpr ⟨fun p hp=>?_,h⟩) fun p hp=>?_
   ·exact Hy (hl p hp)
   ·rcases EW.mp hp with e | hp
    ·subst e;exact IB _
    ·exact GI (hl p hp)
  ·exact jT r n acc h hl
theorem fj {names:List (Str×NameKind)} {n:Nat} {acc:List (Str×EL)} {x:Str} (h:names.lookup x=some .cell):∃ c,(cellsFrom n names acc).lookup x=some c :=
 HR.mp (Hg names n acc (.inl h))
theorem aK {names:List (Str×NameKind)} {n:Nat} {acc:List (Str×EL)} {x:Str} (h:(acc.lookup x).isSome=true):∃ c,(cellsFrom n names acc).lookup x=some c :=
 HR.mp (Hg names n acc (.inr h))
theorem qT:∀ (names:List (Str×NameKind)) (h:Heap) (acc:List (Str×EL)) (x:Str) (c:EL),(cellsFrom h.objs.size names acc).lookup x=some c->h.objs.size<=c->(∀ p∈acc,p.2<h.objs.size)->(pushCells h names).IsCell c none
 | [],h,acc,x,c,e,hc,hl=>absurd (hl _ (mem_of_lookup e)) (Nat.not_lt.mpr hc)
 | (y,k) :: r,h,acc,x,c,e,hc,hl=>by
  unfold cellsFrom at e;unfold pushCells;split at e
  ·rename_i hk;rw [Kw hk];by_cases hcc:c=h.objs.size
   ·subst hcc;exact⟨_,pushCells_keeps _ _ _ _ (Fn _ rfl),rfl⟩
   ·have es:(h.push { cls:=.type "cell",data:=.cell none }).objs.size=h.objs.size+1:=IV ..;refine qT r _ ((y,h.objs.size) :: acc) x c (by rw [es];exact e) (by rw [es];exact Nat.lt_of_le_of_ne hc (F6 hcc)) fun p hp=>?_;rw [es];rcases EW.mp hp with e | hp
    ·subst e;exact IB _
    ·exact GI (hl p hp)
  ·rename_i hk;rw [Kv hk];exact qT r h acc x c e hc hl
noncomputable def zj (X:Cx) (sc:Scope) (N:List Str) (s₀:Shared) (H₀:Hp) (ex:List EL) (pn:List (EL×Obj)):Cx :=
 { X with N:=N,s₀:=s₀,H₀:=H₀,env:=compEnvC sc (cellsFrom (s₀.heap.objs.size+1) sc.names (yp X.env sc.names [])) s₀.heap.objs.size X.env,
          outer:=X.stack,ex:=ex,fn:=fun x=>decide (sc.names.lookup x=some .cell),pn:=pn,xe:=fun _ _=>False }
structure CompScope (NO:List Str) (scO:Scope) (N:List Str) (sc:Scope) (own:Nat) (fr:List Nat):Prop where
 kind:sc.kind=.function
 nd:N.Nodup
 snd:(sc.names.map (·.1)).Nodup
 free:∀ p∈sc.names,p.2=.free->scO.names.lookup p.1=some .cell \/ scO.names.lookup p.1=some .free
 frn:∀ p∈(N.drop own).zip fr,NO[p.2]?=some p.1/\sc.names.lookup p.1=some .free
 len:N.length=own+fr.length
noncomputable def jU (own:Nat) (fr:List Nat) (σ:St):St:=Ha own none++fr.map fun j=>(σ[j]?).getD none
theorem yA {α:Type}:∀ {l:List (Str×α)} {x:Str} {k:α},(l.map (·.1)).Nodup->(x,k)∈l->l.lookup x=some k
 | (y,u) :: r,x,k,nd,h=>by
  rw [Fg] at nd;obtain⟨h1,h2⟩:=Gk.mp nd;rw [FK];rcases EW.mp h with e | h'
  ·cases e;simp
  ·have:x≠y:=by
    intro e;subst e;exact h1 (E6.mpr ⟨(x,k),h',rfl⟩)
   rw [beq_eq_false_iff_ne.mpr this];exact yA h2 h'
theorem qw {env:Env}:∀ {names:List (Str×NameKind)} {x:Str} {k:NameKind},names.lookup x=some k ->
  (names.map fun (n,k)=>if (k == NameKind.free && env.scope.kind == .function && env.kindOf n == some .cell) then (n,NameKind.cell) else (n,k)).lookup x=some (if (k == NameKind.free && env.scope.kind == .function && env.kindOf x == some .cell) then .cell else k)
 | (n,k') :: r,x,k,h=>by
  have ih:=@qw env r x k;show List.lookup x ((if (k' == NameKind.free && env.scope.kind == .function && env.kindOf n == some .cell)=true then (n,NameKind.cell) else (n,k')) :: _)=_;cases hx:x == n with
  | true =>
   have:x=n:=by simpa using hx
   subst this;simp only [FK,hx] at h;cases h;split <;> simp [FK]
  | false =>
   simp only [FK,hx] at h;split
   ·simp only [FK,hx];exact ih h
   ·simp only [FK,hx];exact ih h
theorem jX {env:Env}:∀ {names:List (Str×NameKind)} {x:Str},names.lookup x=none ->
  (names.map fun (n,k)=>if (k == NameKind.free && env.scope.kind == .function && env.kindOf n == some .cell) then (n,NameKind.cell) else (n,k)).lookup x=none
 | [],_,_=>rfl
 | (n,k') :: r,x,h=>by
  have ih:=@jX env r x;show List.lookup x ((if (k' == NameKind.free && env.scope.kind == .function && env.kindOf n == some .cell)=true then (n,NameKind.cell) else (n,k')) :: _)=_;cases hx:x == n with
  | true=>simp only [FK,hx] at h;cases h
  | false =>
   simp only [FK,hx] at h;split
   ·simp only [FK,hx];exact ih h
   ·simp only [FK,hx];exact ih h
section
variable {X:Cx} {Ku:List (EL×Obj)} {σ:St} {H:Hp} {s:Shared} {NO N:List Str} {scO sc:Scope} {own:Nat} {fr:List Nat} {fp:List EL}
theorem ur {tk:Nat} (S:CompScope NO scO N sc own fr) (hN:X.N=NO) (hsc:X.env.scope=scO) (I:Inv X Ku σ H s) (hf:∀ b∈fp,bp X Ku H b) (ho:∀ b∈fp,∃ o,s.heap.get? b=some o/\∀ v,o.data≠.cell v) :
  Inv (zj X sc N s H fp (X.pn++Ku)) [] (jU own fr σ) H { s with heap:=pushCells (s.heap.push { cls:=.type "dict",data:=.dict #[] }) sc.names,toks:=tk }:=by
 have hfree:∀ x,(x,NameKind.free)∈sc.names->∃ c,X.env.cells.lookup x=some c:=fun x hx=>I.ok.has x (by
  show X.env.scope.names.lookup x=_ \/ X.env.scope.names.lookup x=_;rw [hsc];exact S.free _ hx rfl)
 have hclt:∀ p∈yp X.env sc.names [],p.2<s.heap.objs.size:=fun p hp=>by
  rcases vi hp with q | ⟨q,e⟩
  ·cases q
  ·obtain⟨c,hc⟩:=hfree _ q;rw [e,hc];obtain⟨v,o,ho,_⟩:=I.cell _ c hc;exact E4 ho
 have hsz:(s.heap.push { cls:=.type "dict",data:=.dict #[] }).objs.size=s.heap.objs.size+1:=IV ..;have hk:∀ b o,s.heap.get? b=some o->(pushCells (s.heap.push { cls:=.type "dict",data:=.dict #[] }) sc.names).get? b=some o:=fun b o e=>pushCells_keeps _ _ _ _ (EU _ e);have hcase:∀ {x:Str} {c:EL},(cellsFrom (s.heap.objs.size+1) sc.names (yp X.env sc.names [])).lookup x=some c->(s.heap.objs.size+1<=c/\(x,NameKind.cell)∈sc.names) \/ (X.env.cells.lookup x=some c/\(x,NameKind.free)∈sc.names):=fun {x c} e=>by
  rcases jH e with⟨q1,_,q3⟩ | ⟨q1,_⟩
  ·exact .inl ⟨q1,q3⟩
  ·exact .inr (aJ hfree q1)
 have clap:(yp X.env sc.names []).Pairwise fun x y=>x.2≠y.2:=by
  have key:∀ (names:List (Str×NameKind)) (acc:List (Str×EL)),(∀ p∈acc,X.env.cells.lookup p.1=some p.2)->(∀ x,(x,NameKind.free)∈names->∃ c,X.env.cells.lookup x=some c)->(acc.Pairwise fun x y=>x.2≠y.2)->(∀ p∈acc,(p.1,NameKind.free)∉names)->(names.map (·.1)).Nodup ->
    (yp X.env names acc).Pairwise fun x y=>x.2≠y.2:=by
   intro names
   induction names with
   | nil=>intro acc _ _ h _ _;exact h
   | cons p r ih =>
    intro acc h1 h2 h3 h4 h5;obtain⟨y,k⟩:=p;rw [Fg] at h5;obtain⟨n1,n2⟩:=Gk.mp h5;unfold yp;split
    ·rename_i hk;have hk':k=.free:=by simpa using hk
     subst hk';obtain⟨c,hc⟩:=h2 y ET;rw [hc];refine ih _ (fun p hp=>?_) (fun x hx=>h2 x (EM _ hx)) (Gp.mpr ⟨fun p hp=>?_,h3⟩) (fun p hp=>?_) n2
     ·rcases EW.mp hp with e | hp
      ·subst e;exact hc
      ·exact h1 p hp
     ·intro e;have e':p.2=c:=e.symm;have:=I.ok.inj _ _ _ hc (e'▸h1 p hp);exact h4 p hp (this▸ET)
     ·rcases EW.mp hp with e | hp
      ·subst e;intro z;exact n1 (E6.mpr ⟨_,z,rfl⟩)
      ·intro z;exact h4 p hp (EM _ z)
    ·exact ih acc h1 (fun x hx=>h2 x (EM _ hx)) h3 (fun p hp z=>h4 p hp (EM _ z)) n2
  exact key sc.names [] (fun p hp=>by cases hp) hfree List.Pairwise.nil (fun p hp=>by cases hp) S.snd
 have apart:=jT sc.names (s.heap.objs.size+1) _ clap fun p hp=>GI (hclt p hp);have hkd:∀ x,(zj X sc N s H fp (X.pn++Ku)).env.kindOf x=some .cell \/ (zj X sc N s H fp (X.pn++Ku)).env.kindOf x=some .free->(x,NameKind.cell)∈sc.names \/ (x,NameKind.free)∈sc.names:=fun x hx=>by
  cases q:sc.names.lookup x with
  | none =>
   have e:(zj X sc N s H fp (X.pn++Ku)).env.kindOf x=none:=jX q;rw [e] at hx;rcases hx with z | z <;> cases z
  | some k =>
   have e:(zj X sc N s H fp (X.pn++Ku)).env.kindOf x=some _:=qw (env:=X.env) q;rw [e] at hx;have hm:=mem_of_lookup q;cases k <;> first | exact .inl hm | exact .inr hm | (rcases hx with z | z <;> cases z)
 have cellAt:∀ x c,(cellsFrom (s.heap.objs.size+1) sc.names (yp X.env sc.names [])).lookup x=some c->∃ v,(pushCells (s.heap.push { cls:=.type "dict",data:=.dict #[] }) sc.names).IsCell c v:=fun x c e=>by
  rcases hcase e with⟨q,_⟩ | ⟨q,_⟩
  ·exact⟨none,qT _ _ _ x c (by rw [hsz];exact e) (by rw [hsz];exact q) fun p hp=>by rw [hsz];exact GI (hclt p hp)⟩
  ·obtain⟨v,o,ho,hd⟩:=I.cell x c q;exact⟨v,o,hk _ _ ho,hd⟩
 have lt_of_cell:∀ x c,X.env.cells.lookup x=some c->c<s.heap.objs.size:=fun x c e=>by
  obtain⟨v,o,ho,hd⟩:=I.cell x c e;exact E4 ho
 have lt_of_fp:∀ b∈fp,b<s.heap.objs.size:=fun b hb=>by
  obtain⟨o,e,_⟩:=ho b hb;exact E4 e
 have okX:(zj X sc N s H fp (X.pn++Ku)).Ok:=by
  refine⟨I.mod,S.kind,I.ok.glob,I.ok.blt,EN _,fun x y c h1 h2=>name_of_addr apart (mem_of_lookup h1) (mem_of_lookup h2),fun x hx=>?_,fun x c hx hc=>?_,I.ok.hd,I.ok.frames,.inl rfl,fun b hb=>⟨Fp (lt_of_fp b hb),fun x c e=>?_⟩,I.bs,Fm I.ok.bsz I.sz,fun b o e hb=>?_,fun b hb z=>?_,I.stack,I.stkFree,I.env0.tabs⟩
  ·rcases hkd x hx with q | q
   ·exact fj (yA S.snd q)
   ·obtain⟨c,hc⟩:=hfree x q;exact aK (by rw [vV hfree q hc];rfl)
  ·have hx':sc.names.lookup x=some .cell:=of_decide_eq_true hx;rcases hcase hc with⟨q,_⟩ | ⟨_,q⟩
   ·exact Ig q
   ·rw [yA S.snd q] at hx';cases hx'
  ·rcases hcase e with⟨q,_⟩ | ⟨q,_⟩
   ·exact Hy (Fb (lt_of_fp b hb) (Ig q))
   ·exact (hf b hb).2.2.2.2.1 x c q
  ·rcases (hf b hb).2.2.2.1 with z | z
   ·exact I.ok.noex b o e z
   ·exact absurd (E4 e) (Nat.not_lt.mpr (Fm I.ok.bsz z))
  ·rcases EW.mp (I.stkSub b z) with q | q
   ·exact (hf b hb).2.1 q
   ·exact (hf b hb).2.2.1 q
 refine⟨okX,rfl,I.bare,Un.kept hk,⟨fun _=>none,(Heap.Ns.new s.heap (.type "dict")).keeps (pushCells_keeps _ _),fun i x v h1 h2 h3=>?_⟩,cellAt,I.hok.fresh (EN _),fun x c e=>?_,fun p hp=>?_,I.hok.kept hk,?_⟩
 ·obtain⟨m,_,hl⟩:=id I.loc;have h2':(jU own fr σ)[i]?=some (some v):=h2;have hio:own<=i:=by
   unfold jU at h2';refine Nat.le_of_not_lt fun hi=>?_;rw [ER (by simpa using hi),Hb] at h2';split at h2' <;> cases h2'
  obtain⟨k,rfl⟩:=Nat.exists_eq_add_of_le hio;have h1':N[own+k]?=some x:=h1;unfold jU at h2';rw [EX (by simp)] at h2';simp only [Iw,Nat.add_sub_cancel_left,EO] at h2';cases hj:fr[k]? with
  | none=>rw [hj] at h2';cases h2'
  | some j =>
   rw [hj] at h2';have h2'':(σ[j]?).getD none=some v:=Option.some.inj h2';have hp:(x,j)∈(N.drop own).zip fr:=by
    refine EK (i:=k) ?_;rw [List.getElem?_zip_eq_some];exact⟨by rw [IW];exact h1',hj⟩
   obtain⟨f1,f2⟩:=S.frn _ hp;have hσ:σ[j]?=some (some v):=by
    cases q:σ[j]? with
    | none=>rw [q] at h2'';cases h2''
    | some w=>rw [q] at h2'';exact congrArg some h2''
   have hxf:(x,NameKind.free)∈sc.names:=mem_of_lookup f2;have hko:=S.free _ hxf rfl;have hvis:Vis X.env.scope x:=by rw [hsc];exact .inr hko
   obtain⟨u,ru,q⟩:=hl j x v (by rw [hN];exact f1) hσ hvis;refine⟨u,ru,.inr ⟨?_,?_⟩⟩
   ·have e:(zj X sc N s H fp (X.pn++Ku)).env.kindOf x=some _:=qw (env:=X.env) f2;rw [e];split
    ·exact .inl rfl
    ·exact .inr rfl
   ·rcases q with⟨k1,_⟩ | ⟨_,c,hc,z⟩
    ·have k1':X.env.scope.names.lookup x=some .local:=k1;rw [hsc] at k1';rcases hko with z | z <;> rw [z] at k1' <;> cases k1'
    ·obtain⟨o,ho,hd⟩:=z;refine⟨c,?_,o,hk _ _ ho,hd⟩;have hcl:=vV hfree hxf hc;obtain⟨c',hc'⟩:=aK (names:=sc.names) (n:=s.heap.objs.size+1) (acc:=yp X.env sc.names []) (x:=x) (by rw [hcl];rfl);rcases hcase hc' with⟨_,z⟩ | ⟨z,_⟩
     ·have:=yA S.snd z;rw [f2] at this;cases this
     ·rw [hc] at z;cases z;exact hc'
 ·rcases hcase e with⟨q,_⟩ | ⟨q,_⟩
  ·exact I.hok.fresh (Ig q)
  ·exact I.freeC x c q
 ·have hp':p∈X.pn++Ku:=by simpa [zj] using hp
  obtain⟨e,n,ne,nf,d⟩:=I.pin p hp';refine⟨hk _ _ e,n,Fp (E4 e),fun z=>?_,d⟩;rcases EW.mp (I.stkSub _ z) with q | q
  ·exact ne q
  ·exact nf q
 ·show (jU own fr σ).length=N.length;unfold jU;rw [S.len];simp
end
abbrev TB:=St->Hp->(St->Hp->Prop)->Prop
def PB (X:Cx) (act:Sem Unit) (t:TB):Prop :=
 ∀ (Ku:List (EL×Obj)) (s:Shared) (σ:St) (H:Hp) (Q:St->Hp->Prop),Inv X Ku σ H s->t σ H Q->Fd (model X.prog X.w) X.A act (fun _ s'=>∃ σ' H',Inv X Ku σ' H' s'/\Q σ' H') X.xe s
def PTs (X:Cx) (ifs:List Expr) (t:TT):Prop :=
 ∀ (Ku:List (EL×Obj)) (s:Shared) (σ:St) (H:Hp) (Q:Bool->Hp->Prop),Inv X Ku σ H s->t σ H Q ->
  Fd (model X.prog X.w) X.A (forIn ifs true fun c r=>if r=true then do let ok <- isTrue c X.env (eval c X.env);pure (ForInStep.yield ok) else pure (ForInStep.yield r)) (TP X Ku σ Q) X.xe s
def Cj:TT:=fun _ H Q=>Q true H
theorem yX {X:Cx}:PTs X [] Cj:=fun Ku s σ H Q I h=>wpAny_tests_nil ⟨H,I,h⟩
theorem bt {X:Cx} {c:Expr} {t:TT} (hc:PT X c t):PTs X [c] t:=fun Ku s σ H Q I h=>wpAny_tests_one (hc Ku s σ H Q I h)
def i7 (J:It) (g:TG) (tt:TT) (tb:TB):TB:=fun σ H Q=>∃ W:Nat->Nat->St->Hp->Prop,(∃ m,W 0 m σ H)/\∀ i m σ H,W i m σ H ->
 (J.stop i H/\Q σ H) \/ (J.go i H/\∀ x H',J.yld i H x H'->g x σ H' fun σ2 H2=>tt σ2 H2 fun b H3=>if b=true then tb σ2 H3 fun σ' H'=>∃ m',m'<m/\W (i+1) m' σ' H' else ∃ m',m'<m/\W (i+1) m' σ2 H3)
section
variable {X:Cx} {Ku:List (EL×Obj)} {s:Shared} {σ:St} {H:Hp} {tg:Expr} {e:Expr} {d:Nat} {acc:Value} {ifs:List Expr} {g:TG} {tt:TT} {tb:TB} {act:Sem Unit} {pos:Pos}
theorem i8 (hx:∀ e s,X.xe e s->False) (hc:X.calm=true) (hg:PG X tg g) (ht:PTs X ifs tt) (hb:PB X act tb)
  (heq:∀ it,compTurn e d it acc X.env=(do
   standAt pos
   match <- pyNext it with
   | none=>pure (.done .next)
   | some v =>
    GP tg it v
    assign tg X.env v
    let mut ok:=true
    for c in ifs do
     if ok then ok <- isTrue c X.env (eval c X.env)
    if ok then
     act
    again (.compLoop e d it acc X.env)))
  (hqt:∀ it,(Code.compLoop e d it acc X.env).quiet=true)
  (hden:∀ it,(model X.prog X.w).den (.compLoop e d it acc X.env)=(compTurn e d it acc X.env).onRaise (fun x=>do noteFrame x X.env;theTreesLotGoes x))
  (hund:∀ it,X.A.under (.compLoop e d it acc X.env)=X.A)
  {it:EL} {fp:List EL} {tn:Nat->Heap->Prop} {J:It} {Q:St->Hp->Prop} {R:Result->Shared->Prop} (I:Inv X Ku σ H s) (T:Turn X.prog X.w X.K tg J fp it tn) (st:tn 0 s.heap) (f:∀ b∈fp,bp X Ku H b)
  (h:i7 J g tt tb σ H Q) (hR:∀ σ' H' s',Inv X Ku σ' H' s'->(∀ b∈fp,H' b=none)->Q σ' H'->R (.ok .next) s'):codeAny (model X.prog X.w) X.A (.compLoop e d (.ref it) acc X.env) R s:=by
 obtain⟨W,⟨m0,w0⟩,turn⟩:=h;have stat:∀ {H':Hp},(∀ b∈fp,H' b=none)->∀ b∈fp,bp X Ku H' b:=fun hn b hb=>⟨hn b hb,(f b hb).2⟩;refine codeAny_loop (hqt _) (fun n s'=>∃ i σ' H',Inv X Ku σ' H' s'/\tn i s'.heap/\(∀ b∈fp,H' b=none)/\W i n σ' H') ?_ m0 ⟨0,σ,H,I,st,fun b hb=>(f b hb).1,w0⟩;rintro n s3 ⟨i,σ3,H3,I3,st3,fr3,w3⟩;rw [hden,hund];refine wpAny_noted ?_;rw [heq];have nox:∀ e' s',X.xe e' s'->notedBy (model X.prog X.w) X.A X.env (fun e s'=>R (.error e) s') e' s':=fun e' s' z=>(hx e' s' z).elim;refine EJ (wpAny_standAt (EJ ?_));rcases turn i n σ3 H3 w3 with⟨stop,qn⟩ | ⟨go,step⟩
 ·refine GN (T.done X rfl rfl rfl hc i Ku s3 σ3 H3 X.xe I3 (stat fr3) st3 stop) (fun r s4 hr4=>?_) nox;obtain⟨hr,I4⟩:=hr4;subst hr;exact ES (hR σ3 H3 s4 I4 fr3 qn)
 ·refine GN (T.item X rfl rfl rfl hc i Ku s3 σ3 H3 X.xe I3 (stat fr3) st3 go) (fun r s4 hr4=>?_) nox;obtain⟨u,hr,h4⟩:=hr4;subst hr;refine EJ (GN h4 (fun _ s5 h5=>?_) nox);obtain⟨x,H5,I5,r5,y5,st5,fr5⟩:=h5;have I5':=I5.pinned (stat fr5) (T.obj _ _ st5);refine EJ (GN (hg _ s5 σ3 H5 x u _ I5' r5 (step x H5 y5)) (fun _ s6 h6=>?_) nox);obtain⟨σ6,H6,I6,q6⟩:=h6;refine EJ (GN (ht _ s6 σ6 H6 _ I6 q6) (fun ok s7 h7=>?_) nox);obtain⟨H7,I7,q7⟩:=h7;have again:∀ {σ7:St} {H7:Hp} {s7:Shared},Inv X (Ku++dJ fp s5.heap) σ7 H7 s7->(∃ m',m'<n/\W (i+1) m' σ7 H7)->∃ m,m<n/\∃ i σ' H',Inv X Ku σ' H' s7/\tn i s7.heap/\(∀ b∈fp,H' b=none)/\W i m σ' H':=fun {σ7 H7 s7} I7 n7=>by
   obtain⟨m',hm,w7⟩:=n7;refine⟨m',hm,i+1,σ7,H7,I7.unpinned,T.keep _ _ _ st5 fun b hb o e=>(I7.pin (b,o) (E8 _ (E8 _ (vh hb e)))).1,fun b hb=>?_,w7⟩;obtain⟨o,e,d⟩:=T.obj _ _ st5 b hb;exact (I7.pin (b,o) (E8 _ (E8 _ (vh hb e)))).2.1
  cases ok with
  | false =>
   rw [Kv EG] at q7;exact ES ⟨rfl,again I7 q7⟩
  | true =>
   rw [Kw rfl] at q7;refine EJ (GN (hb _ s7 σ6 H7 _ I7 q7) (fun _ s8 h8=>?_) nox);obtain⟨σ8,H8,I8,q8⟩:=h8;exact ES ⟨rfl,again I8 q8⟩
theorem gQ {D:EL} {elt:Expr} {te:TE} (he:PE X elt te):PB X (do let _ <- call (.builtin "list.append") [.ref D,<- eval elt X.env]) (fun σ H Q=>te σ H fun y H1=>∃ xs,H1 D=some (.lst xs)/\xs.length<Fu/\Q σ (upd H1 D (.lst (xs++[y])))):=by
 intro Ku s σ H Q I h;refine EJ (thn (he Ku s σ H _ I h) fun v s1 h1=>?_);obtain⟨y,H1,I1,r1,xs,hD,hz,q⟩:=h1;obtain⟨z,its,n,r,hl,e⟩:=I1.lstM hD;refine EJ ?_;refine call_meets F.slot_list_append ⟨_,e,rfl⟩ J5 (JR _ _) (PySem.list_append D its.toArray n v (by rw [E3];omega)) ⟨e,?_⟩;refine ES ⟨σ,_,I1.lset (its':=its++[v]) hD e (by simp) (r.append (.cons r1 .nil)) ?_,q⟩;rw [EY,FJ];omega
theorem i9 {M:Model} {A:Around} {E:Value->Shared->Prop} {sc:Scope} {gl:EL} {cl:List (Str×EL)} {qual:Str} {env:Env} {Q:Env->Shared->Prop} {s:Shared}
  (h:Q { scope:=sc,locals:=s.heap.objs.size,globals:=gl,cells:=cellsFrom (s.heap.objs.size+1) sc.names cl,qual:=qual,func:=none,code:=env.code,frame:=env.frame,builtins:=env.builtins } { s with heap:=pushCells (s.heap.push { cls:=.type "dict",data:=.dict #[] }) sc.names }) :
  Fd M A (newFunctionEnv sc gl cl [] qual none .none (some env)) Q E s:=by
 simp only [newFunctionEnv,Option.isSome_some,if_true];refine EJ (wpAny_alloc ?_);refine EJ (wpAny_layCells _ (fun name kind cells=>by cases hkc:kind == NameKind.cell <;> simp [hkc]) _ _ _ _ ?_);rw [show ({ s with heap:=s.heap.push { cls:=.type "dict",data:=.dict #[] } }:Shared).heap.objs.size=s.heap.objs.size+1 from IV ..];refine EJ ?_;rw [Ih];exact ES (ES h)
theorem comp_back {sc:Scope} {N:List Str} {fp:List EL} {σ':St} {H':Hp} {s':Shared} {h':Heap} (I:Inv X Ku σ H s) (hf:∀ b∈fp,bp X Ku H b) (J:Inv (zj X sc N s H fp (X.pn++Ku)) [] σ' H' s') (hs:He s.heap.objs.size s'.heap h') :
  Inv X Ku σ H' { s' with heap:=h' }:=by
 have u:Un (frs X.stack) fp H H' s.heap s'.heap:=J.base;have ne:∀ b o,s.heap.get? b=some o->b≠s.heap.objs.size:=fun b o e=>Fp (E4 e);have hfree:H' s.heap.objs.size=none:=J.free;refine I.call' (s':={ s' with heap:=h' }) (ch:=fp) J.os ⟨fun b o e n h1 h2=>(hs.2 b (ne b o e)).trans (u.keep b o e n h1 h2),fun b o e n h1 h2=>?_,u.free,fun b o e h2=>?_,u.tups,u.frzs,u.tbls⟩ (fun a o e=>?_) J.bare fun b hb=>?_
 ·obtain⟨sl,q⟩:=u.slot b o e n h1 h2;exact⟨sl,(hs.2 b (ne b o e)).trans q⟩
 ·obtain⟨o',q⟩:=u.there b o e h2;exact⟨o',(hs.2 b (ne b o e)).trans q⟩
 ·refine (J.hok a o e).stay (fun c v hc q=>(hs.2 c ?_).trans q) (fun _ q=>q) fun _ _ q=>q;intro z;subst z;rcases hc with hc | hc
  ·rw [<-hc] at e;rw [hfree] at e;cases e
  ·rw [hfree] at hc;cases hc
 ·exact⟨(hf b hb).2.2.2.1,(hf b hb).2.1,(hf b hb).2.2.2.2⟩
end
def bu (D:EL) (te:TE):TB:=fun σ H Q=>te σ H fun y H1=>∃ xs,H1 D=some (.lst xs)/\xs.length<Fu/\Q σ (upd H1 D (.lst (xs++[y])))
def vO (wi:TI) (own:Nat) (fr:List Nat) (g:TG) (tt:TT) (tb:EL->TB):TE:=fun σ H Q=>wi σ H fun J H1=>∀ D,H1 D=none ->
 i7 J g tt (tb D) (jU own fr σ) (upd H1 D (.lst [])) fun _ H2=>Q (.ref D) H2
section
variable {X:Cx} {Ku:List (EL×Obj)} {s:Shared} {σ:St} {H:Hp} {tg elt iter:Expr} {ifs:List Expr} {rest:List Comprehension} {sc scO:Scope} {NO N:List Str} {own:Nat} {fr:List Nat} {wi:TI} {g:TG} {tt:TT} {tb:EL->TB} {pos:Pos}
theorem kc {RR:Value->EL->Result->Shared->Prop} {it:EL} {fp:List EL} {tn:Nat->Heap->Prop} {J:It} {Q:VK} (S:CompScope NO scO N sc own fr) (hN:X.N=NO) (hsc:X.env.scope=scO) (hc:X.calm=true)
  (hg:∀ s₀ H₀ ex pn,PG (zj X sc N s₀ H₀ ex pn) tg g) (ht:∀ s₀ H₀ ex pn,PTs (zj X sc N s₀ H₀ ex pn) ifs tt)
  (hb:∀ D s₀ H₀ ex pn,∃ act,PB (zj X sc N s₀ H₀ ex pn) act (tb D)/\∀ it,compTurn (.ListComp elt (⟨tg,iter,ifs,0⟩ :: rest) sc pos) 0 it (.ref D) (zj X sc N s₀ H₀ ex pn).env=(do
   standAt iter.pos
   match <- pyNext it with
   | none=>pure (.done .next)
   | some v =>
    GP tg it v
    assign tg (zj X sc N s₀ H₀ ex pn).env v
    let mut ok:=true
    for c in ifs do
     if ok then ok <- isTrue c (zj X sc N s₀ H₀ ex pn).env (eval c (zj X sc N s₀ H₀ ex pn).env)
    if ok then
     act
    again (.compLoop (.ListComp elt (⟨tg,iter,ifs,0⟩ :: rest) sc pos) 0 it (.ref D) (zj X sc N s₀ H₀ ex pn).env)))
  (I:Inv X Ku σ H s) (T:Turn X.prog X.w X.K tg J fp it tn) (st:tn 0 s.heap) (f:∀ b∈fp,bp X Ku H b)
  (h:∀ D,H D=none->i7 J g tt (tb D) (jU own fr σ) (upd H D (.lst [])) fun _ H2=>Q (.ref D) H2)
  (hRR:∀ (D C:EL) (s':Shared) (H':Hp),(∃ m,s'.heap.Ns C m)->C≠X.env.locals->(∀ x c,X.env.cells.lookup x=some c->c≠C)->H' C=none->X.s₀.heap.objs.size<=C->(∀ p∈X.pn++Ku,p.1≠C)->Inv X Ku σ H' s'->Q (.ref D) H'->RR (.ref D) C (.ok .next) s') :
  Fd (model X.prog X.w) X.A (newList []) (fun acc s₃=>Fd (model X.prog X.w) X.A (newFunctionEnv sc X.env.globals (yp X.env sc.names []) [] X.env.qual none .none (some X.env)) (fun cenv s₄ =>
   codeAny (model X.prog X.w) X.A (.compStart (.ListComp elt (⟨tg,iter,ifs,0⟩ :: rest) sc pos) 0 (.ref it) acc { cenv with scope:=relabel sc X.env }) (RR acc cenv.locals) s₄) X.xe s₃) X.xe s:=by
 refine wpAny_newObj_type (i9 ?_);have fpsz:∀ b∈fp,b<s.heap.objs.size:=fun b hb=>by
  obtain⟨o,e,_⟩:=T.obj _ _ st b hb;exact E4 e
 have I3:=I.lnew (its:=[]) (ys:=[]) (t':=s.toks) .nil (Ft _);have f3:∀ b∈fp,bp X Ku (upd H s.heap.objs.size (.lst [])) b:=fun b hb=>⟨by rw [zM (Fp (fpsz b hb))];exact (f b hb).1,(f b hb).2⟩;have st3:tn 0 (s.heap.push { cls:=.type "list",data:=.seq ([]:List Value).toArray }):=T.keep _ _ _ st fun b _ o e=>EU _ e;have I4:=ur (tk:=s.toks) S hN hsc I3 f3 (T.obj _ _ st3);obtain⟨act,pb,heq⟩:=hb s.heap.objs.size _ _ _ _;have st4:=T.keep _ _ (pushCells ((s.heap.push { cls:=.type "list",data:=.seq ([]:List Value).toArray }).push { cls:=.type "dict",data:=.dict #[] }) sc.names) st3 fun b _ o e=>pushCells_keeps _ _ _ _ (EU _ e);have cells_lt:∀ x c,X.env.cells.lookup x=some c->c<s.heap.objs.size:=fun x c e=>by
  obtain⟨v,o,ho,hd⟩:=I.cell x c e;exact E4 ho
 have esz:(s.heap.push { cls:=.type "list",data:=.seq ([]:List Value).toArray }).objs.size=s.heap.objs.size+1:=IV ..;have loop:=i8 (X:=zj X sc N { s with heap:=s.heap.push { cls:=.type "list",data:=.seq ([]:List Value).toArray } } (upd H s.heap.objs.size (.lst [])) fp (X.pn++Ku)) (R:=RR (.ref s.heap.objs.size) (s.heap.push { cls:=.type "list",data:=.seq ([]:List Value).toArray }).objs.size) (fun _ _ z=>z) hc (hg _ _ _ _) (ht _ _ _ _) pb heq (fun _=>rfl) (fun _=>rfl) (fun _=>rfl) I4 T st4
  (fun b hb=>⟨(f3 b hb).1,I4.ok.exf b hb |>.1,I4.ok.exfs b hb,.inl hb,I4.ok.exf b hb |>.2,fun p hp=>by
   have hp':p∈X.pn++Ku:=by simpa [zj] using hp
   exact (f b hb).2.2.2.2.2 p hp'⟩) (h _ I.fresh)
  (fun σ' H' s' J' fr' q'=>hRR _ _ s' H' (let⟨m,hm,_⟩:=J'.loc;⟨m,hm⟩) (by rw [esz];exact Hy (GI I.lt)) (fun x c e=>by rw [esz];exact Fp (GI (cells_lt x c e))) J'.free (by rw [esz];exact Nat.le_succ_of_le I.sz) (fun p hp=>by rw [esz];exact Fp (GI (E4 (I.pin p hp).1))) (comp_back (h':=s'.heap) I3 f3 J' (Heap.SameBut.refl ..)) q')
 exact codeAny_compStart_list loop (T.self X.A 0 _ _ _ st4 loop)
theorem Inv.touch {C:EL} {h':Heap} (I:Inv X Ku σ H s) (hs:He C s.heap h') (hn:H C=none) (h0:C≠X.env.locals) (h1:∀ x c,X.env.cells.lookup x=some c->c≠C) (h2:X.s₀.heap.objs.size<=C) (h3:∀ p∈X.pn++Ku,p.1≠C) :
  Inv X Ku σ H { s with heap:=h' } :=
 I.turned (t':=s.toks) (fun b o hb e=>(hs.2 b hb).trans e) hn h0 (.inr h2) h1 h3
theorem fk {prog:Program} {w:World} {A:Around} {R:Result->Shared->Prop} {s:Shared} {elt':Expr} {g0:Comprehension} {tg' it':Expr} {ifs':List Expr} {sc':Scope} {pos':Pos} {itv acc:Value} {env:Env}
  (here:codeAny (model prog w) A (.compLoop (.ListComp elt' [g0,⟨tg',it',ifs',0⟩] sc' pos') 1 itv acc env) R s)
  (once:Fd (model prog w) A (pyIter itv) (fun j s1=>codeAny (model prog w) A (.compLoop (.ListComp elt' [g0,⟨tg',it',ifs',0⟩] sc' pos') 1 j acc env) R s1) (notedBy (model prog w) A env fun x s1=>R (.error x) s1) s) :
  codeAny (model prog w) A (.compStart (.ListComp elt' [g0,⟨tg',it',ifs',0⟩] sc' pos') 1 itv acc env) R s:=by
 apply codeAny_of_tree;show Fd _ _ ((compStart (.ListComp elt' [g0,⟨tg',it',ifs',0⟩] sc' pos') 1 itv acc env).onRaise (fun z=>do noteFrame z env;standAt theWindowsPlace)) _ _ s;apply wpAny_notedAt;unfold compStart;show Fd _ _ (ask >>= _) _ _ s;apply EJ;apply wpAny_askSetting;apply wpAny_ite;split
 ·first
   | exact EJ (ES (ES (And.intro rfl here)))
   | exact ES (And.intro rfl here)
 ·apply EJ;apply wpAny_rule;show Fd _ _ (standAt it'.pos >>= _) _ _ s;exact EJ (wpAny_standAt (EJ (GN once (fun j s1 q=>ES (And.intro rfl q)) fun _ _ z=>z)))
section
variable {elt2:Expr} {te:TE} {tg2 iter2:Expr} {ifs2:List Expr} {wi2:TI} {g2:TG} {tt2:TT} {tb2:TB} {y:Str} {i:Nat} {py spos:Pos}
def tIn (wi2:TI) (g2:TG) (tt2:TT) (tb2:TB):TB:=fun σ H Q=>wi2 σ H fun J H1=>i7 J g2 tt2 tb2 σ H1 Q
theorem Bx {D:EL} (hx:∀ e s,X.xe e s->False) (hc:X.calm=true) (hi:PI X tg2 iter2 wi2) (hg:PG X tg2 g2) (ht:PTs X ifs2 tt2) (he:PE X elt te)
  (hs:∀ x,FQ iter2 X.env x=pure x) :
  PB X (do
   let x <- eval iter2 X.env
   standAt iter2.pos
   let x <- FQ iter2 X.env x
   let _ <- runOwn (.compStart (.ListComp elt [⟨tg,iter,ifs,0⟩,⟨tg2,iter2,ifs2,0⟩] sc pos) 1 (<- holding [x] (pyIter x)) (.ref D) X.env) X.env) (tIn wi2 g2 tt2 (bu D te)):=by
 intro Ku s σ H Q I h;refine EJ (thn (hi Ku s σ H _ I h) fun v s1 h1=>?_);refine EJ (wpAny_standAt ?_);refine EJ (wpAny_of_eq (hs v) ?_);refine EJ (FF (thn h1 fun itv s2 h2=>?_));obtain⟨it,fp,tn,J,H2,e,I2,T,st2,f2,q⟩:=h2;subst e;refine EJ (wpAny_runOwn ?_);have loop:=i8 (e:=.ListComp elt [⟨tg,iter,ifs,0⟩,⟨tg2,iter2,ifs2,0⟩] sc pos) (d:=1) (pos:=iter2.pos)
  (R:=fun r s'=>match r with | .ok f=>Fd (model X.prog X.w) X.A (pure ()) (fun _ s'=>∃ σ' H',Inv X Ku σ' H' s'/\Q σ' H') X.xe s' | .error e=>cameBackBy (model X.prog X.w) X.A X.env X.xe e s')
  hx hc hg ht (gQ (D:=D) he) (fun _=>rfl) (fun _=>rfl) (fun _=>rfl) (fun _=>rfl) I2 T st2 f2 q (fun σ' H' s' J' _ q'=>ES ⟨σ',H',J',q'⟩)
 exact fk loop (T.self X.A 0 _ _ _ st2 loop)
theorem nQ (S:CompScope NO scO N sc own fr) (hsc:X.env.scope=scO) (ok:X.Ok):closureFor sc X.env=pure (yp X.env sc.names []) :=
 dQ fun x hx=>ok.has x (by
  show X.env.scope.names.lookup x=_ \/ X.env.scope.names.lookup x=_;rw [hsc];exact S.free _ hx rfl)
theorem nR (S:CompScope NO scO N sc own fr) (hc:X.calm=true) (hi:PI X tg iter wi) (hg:∀ s₀ H₀ ex pn,PG (zj X sc N s₀ H₀ ex pn) tg g) (ht:∀ s₀ H₀ ex pn,PTs (zj X sc N s₀ H₀ ex pn) ifs tt)
  (hb:∀ D s₀ H₀ ex pn,∃ act,PB (zj X sc N s₀ H₀ ex pn) act (tb D)/\∀ it,compTurn (.ListComp elt (⟨tg,iter,ifs,0⟩ :: rest) sc pos) 0 it (.ref D) (zj X sc N s₀ H₀ ex pn).env=(do
   standAt iter.pos
   match <- pyNext it with
   | none=>pure (.done .next)
   | some v =>
    GP tg it v
    assign tg (zj X sc N s₀ H₀ ex pn).env v
    let mut ok:=true
    for c in ifs do
     if ok then ok <- isTrue c (zj X sc N s₀ H₀ ex pn).env (eval c (zj X sc N s₀ H₀ ex pn).env)
    if ok then
     act
    again (.compLoop (.ListComp elt (⟨tg,iter,ifs,0⟩ :: rest) sc pos) 0 it (.ref D) (zj X sc N s₀ H₀ ex pn).env)))
  (hN:X.N=NO) (hsc:X.env.scope=scO) (hs:∀ x,FQ iter X.env x=pure x) :
  PE X (.ListComp elt (⟨tg,iter,ifs,0⟩ :: rest) sc pos) (vO wi own fr g tt tb):=by
 intro Ku s σ H Q I h;rw [eval_ListComp];refine wpAny_comprehension_free (use:=none) rfl hs (nQ S hsc I.ok) S.kind (fun p hp hl=>yA S.snd (k:=.local) (by rw [<-hl];exact hp)) (thn (hi Ku s σ H _ I h) fun v s1 h1=>thn h1 fun itv s2 h2=>?_);obtain⟨it,fp,tn,J,H2,e,I2,T,st2,f2,q⟩:=h2;subst e;refine kc (RR:=fun acc C=>compPost (model X.prog X.w) X.A X.xe none (EP X Ku σ Q) acc C) S hN hsc hc hg ht hb I2 T st2 f2 q ?_;rintro D C s' H' ⟨m,hm⟩ c0 c1 c2 c3 c4 J' q';exact⟨m,hm,fun h' hs'=>⟨.ref D,H',J'.touch hs' c2 c0 c1 c3 c4,rfl,q'⟩⟩
theorem dR (S:CompScope NO scO N sc own fr) (hc:X.calm=true) (hNd:X.N.Nodup) (hiN:X.N[i]?=some y) (hy:Loc X.env.scope y) (hi:PI X tg iter wi) (hg:∀ s₀ H₀ ex pn,PG (zj X sc N s₀ H₀ ex pn) tg g) (ht:∀ s₀ H₀ ex pn,PTs (zj X sc N s₀ H₀ ex pn) ifs tt)
  (hb:∀ D s₀ H₀ ex pn,∃ act,PB (zj X sc N s₀ H₀ ex pn) act (tb D)/\∀ it,compTurn (.ListComp elt (⟨tg,iter,ifs,0⟩ :: rest) sc pos) 0 it (.ref D) (zj X sc N s₀ H₀ ex pn).env=(do
   standAt iter.pos
   match <- pyNext it with
   | none=>pure (.done .next)
   | some v =>
    GP tg it v
    assign tg (zj X sc N s₀ H₀ ex pn).env v
    let mut ok:=true
    for c in ifs do
     if ok then ok <- isTrue c (zj X sc N s₀ H₀ ex pn).env (eval c (zj X sc N s₀ H₀ ex pn).env)
    if ok then
     act
    again (.compLoop (.ListComp elt (⟨tg,iter,ifs,0⟩ :: rest) sc pos) 0 it (.ref D) (zj X sc N s₀ H₀ ex pn).env)))
  (hN:X.N=NO) (hsc:X.env.scope=scO) (hs:∀ x,FQ iter X.env x=pure x) (hf:X.fn y=true \/ X.env.scope.names.lookup y=some .local)
  (hsw:swapsWith (.ListComp elt (⟨tg,iter,ifs,0⟩ :: rest) sc pos) (some (.Name y py)) spos.line X.env=pure true) :
  PS X (.Assign [.Name y py] (.ListComp elt (⟨tg,iter,ifs,0⟩ :: rest) sc pos) spos) (aH (vO wi own fr g tt tb) (jD i)):=by
 intro Ku s σ H D I h;rw [exec_Assign_Name_used _ _ _ _ hsw];refine EJ (wpAny_standAt (EJ ?_));show Fd _ X.A (do let _ <- comprehension (.ListComp elt (⟨tg,iter,ifs,0⟩ :: rest) sc pos) sc X.env _ (newList []) false (eval iter X.env) (some (assign (.Name y py) X.env))) _ _ s;refine EJ (GN (wpAny_comprehension_free (use:=some (assign (.Name y py) X.env)) (Q:=fun _ s'=>SP X Ku D .next s') rfl hs (nQ S hsc I.ok) S.kind (fun p hp hl=>yA S.snd (k:=.local) (by rw [<-hl];exact hp))
  (thn (hi Ku s σ H _ I h) fun v s1 h1=>thn h1 fun itv s2 h2=>?_)) (fun _ s' hq=>ES (ES hq)) fun _ _ e=>e)
 obtain⟨it,fp,tn,J,H2,e,I2,T,st2,f2,q⟩:=h2;subst e;refine kc (Q:=fun x H1=>jD i x σ H1 D.nx) (RR:=fun acc C=>compPost (model X.prog X.w) X.A X.xe (some (assign (.Name y py) X.env)) (fun _ s'=>SP X Ku D .next s') acc C) S hN hsc hc hg ht hb I2 T st2 f2 q ?_;rintro A' C s' H' ⟨m,hm⟩ c0 c1 c2 c3 c4 J' q';show Fd _ X.A (assign (.Name y py) X.env (.ref A')) _ _ _;refine wpAny_assign_Name (fC (v:=.ref A') J' hNd hiN hy rfl (fun s2' I2' hsb=>?_) hf);obtain⟨a,hs2,ha⟩:=hsb;have hCa:C≠a:=by
  rcases ha with ha | ha
  ·rw [ha];exact c0
  ·exact F6 (c1 _ _ ha)
 exact⟨m,hm.sameBut hs2 hCa,fun h' hs'=>⟨_,H',I2'.touch hs' c2 c0 c1 c3 c4,q'⟩⟩
end
end
section
variable {X:Cx} {tg elt iter tg2 iter2:Expr} {ifs ifs2:List Expr} {sc scO:Scope} {NO N:List Str} {own:Nat} {fr:List Nat} {wi wi2:TI} {g g2:TG} {tt tt2:TT} {te:TE} {pos py spos:Pos} {y:Str} {i:Nat}
theorem jb (S:CompScope NO scO N sc own fr) (hc:X.calm=true) (hi:PI X tg iter wi) (hg:∀ s₀ H₀ ex pn,PG (zj X sc N s₀ H₀ ex pn) tg g) (ht:∀ s₀ H₀ ex pn,PTs (zj X sc N s₀ H₀ ex pn) ifs tt) (he:∀ s₀ H₀ ex pn,PE (zj X sc N s₀ H₀ ex pn) elt te)
  (hN:X.N=NO) (hsc:X.env.scope=scO) (hs:∀ x,FQ iter X.env x=pure x):PE X (.ListComp elt [⟨tg,iter,ifs,0⟩] sc pos) (vO wi own fr g tt fun D=>bu D te) :=
 nR S hc hi hg ht (fun D s₀ H₀ ex pn=>⟨_,gQ (D:=D) (he s₀ H₀ ex pn),fun _=>rfl⟩) hN hsc hs
theorem cK (S:CompScope NO scO N sc own fr) (hc:X.calm=true) (hNd:X.N.Nodup) (hiN:X.N[i]?=some y) (hy:Loc X.env.scope y) (hi:PI X tg iter wi) (hg:∀ s₀ H₀ ex pn,PG (zj X sc N s₀ H₀ ex pn) tg g) (ht:∀ s₀ H₀ ex pn,PTs (zj X sc N s₀ H₀ ex pn) ifs tt) (he:∀ s₀ H₀ ex pn,PE (zj X sc N s₀ H₀ ex pn) elt te)
  (hN:X.N=NO) (hsc:X.env.scope=scO) (hs:∀ x,FQ iter X.env x=pure x) (hf:X.fn y=true \/ X.env.scope.names.lookup y=some .local)
  (hsw:swapsWith (.ListComp elt [⟨tg,iter,ifs,0⟩] sc pos) (some (.Name y py)) spos.line X.env=pure true) :
  PS X (.Assign [.Name y py] (.ListComp elt [⟨tg,iter,ifs,0⟩] sc pos) spos) (aH (vO wi own fr g tt fun D=>bu D te) (jD i)) :=
 dR S hc hNd hiN hy hi hg ht (fun D s₀ H₀ ex pn=>⟨_,gQ (D:=D) (he s₀ H₀ ex pn),fun _=>rfl⟩) hN hsc hs hf hsw
end
theorem ke {elt tg iter tg2 iter2:Expr} {ifs ifs2:List Expr} {sc:Scope} {pos:Pos} {it acc:Value} {env:Env} :
  compTurn (.ListComp elt [⟨tg,iter,ifs,0⟩,⟨tg2,iter2,ifs2,0⟩] sc pos) 0 it acc env=(do
   standAt iter.pos
   match <- pyNext it with
   | none=>pure (.done .next)
   | some v =>
    GP tg it v
    assign tg env v
    let mut ok:=true
    for c in ifs do
     if ok then ok <- isTrue c env (eval c env)
    if ok then
     (do
      let x <- eval iter2 env
      standAt iter2.pos
      let x <- FQ iter2 env x
      let _ <- runOwn (.compStart (.ListComp elt [⟨tg,iter,ifs,0⟩,⟨tg2,iter2,ifs2,0⟩] sc pos) 1 (<- holding [x] (pyIter x)) acc env) env)
    again (.compLoop (.ListComp elt [⟨tg,iter,ifs,0⟩,⟨tg2,iter2,ifs2,0⟩] sc pos) 0 it acc env)):=by
 unfold compTurn;simp only [bind_assoc,pure_bind];rfl
section
variable {X:Cx} {tg elt iter tg2 iter2:Expr} {ifs ifs2:List Expr} {sc scO:Scope} {NO N:List Str} {own:Nat} {fr:List Nat} {wi wi2:TI} {g g2:TG} {tt tt2:TT} {te:TE} {pos py spos:Pos} {y:Str} {i:Nat}
theorem kf (S:CompScope NO scO N sc own fr) (hc:X.calm=true) (hi:PI X tg iter wi) (hg:∀ s₀ H₀ ex pn,PG (zj X sc N s₀ H₀ ex pn) tg g) (ht:∀ s₀ H₀ ex pn,PTs (zj X sc N s₀ H₀ ex pn) ifs tt)
  (hi2:∀ s₀ H₀ ex pn,PI (zj X sc N s₀ H₀ ex pn) tg2 iter2 wi2) (hg2:∀ s₀ H₀ ex pn,PG (zj X sc N s₀ H₀ ex pn) tg2 g2) (ht2:∀ s₀ H₀ ex pn,PTs (zj X sc N s₀ H₀ ex pn) ifs2 tt2)
  (he:∀ s₀ H₀ ex pn,PE (zj X sc N s₀ H₀ ex pn) elt te) (hN:X.N=NO) (hsc:X.env.scope=scO) (hs:∀ x,FQ iter X.env x=pure x) (hs2:∀ s₀ H₀ ex pn x,FQ iter2 (zj X sc N s₀ H₀ ex pn).env x=pure x) :
  PE X (.ListComp elt [⟨tg,iter,ifs,0⟩,⟨tg2,iter2,ifs2,0⟩] sc pos) (vO wi own fr g tt fun D=>tIn wi2 g2 tt2 (bu D te)) :=
 nR S hc hi hg ht (fun D s₀ H₀ ex pn=>⟨_,Bx (D:=D) (fun _ _ z=>z) hc (hi2 s₀ H₀ ex pn) (hg2 s₀ H₀ ex pn) (ht2 s₀ H₀ ex pn) (he s₀ H₀ ex pn) (hs2 s₀ H₀ ex pn),fun it=>ke⟩) hN hsc hs
theorem kg (S:CompScope NO scO N sc own fr) (hc:X.calm=true) (hNd:X.N.Nodup) (hiN:X.N[i]?=some y) (hy:Loc X.env.scope y) (hi:PI X tg iter wi) (hg:∀ s₀ H₀ ex pn,PG (zj X sc N s₀ H₀ ex pn) tg g) (ht:∀ s₀ H₀ ex pn,PTs (zj X sc N s₀ H₀ ex pn) ifs tt)
  (hi2:∀ s₀ H₀ ex pn,PI (zj X sc N s₀ H₀ ex pn) tg2 iter2 wi2) (hg2:∀ s₀ H₀ ex pn,PG (zj X sc N s₀ H₀ ex pn) tg2 g2) (ht2:∀ s₀ H₀ ex pn,PTs (zj X sc N s₀ H₀ ex pn) ifs2 tt2)
  (he:∀ s₀ H₀ ex pn,PE (zj X sc N s₀ H₀ ex pn) elt te) (hN:X.N=NO) (hsc:X.env.scope=scO) (hs:∀ x,FQ iter X.env x=pure x) (hs2:∀ s₀ H₀ ex pn x,FQ iter2 (zj X sc N s₀ H₀ ex pn).env x=pure x)
  (hf:X.fn y=true \/ X.env.scope.names.lookup y=some .local)
  (hsw:swapsWith (.ListComp elt [⟨tg,iter,ifs,0⟩,⟨tg2,iter2,ifs2,0⟩] sc pos) (some (.Name y py)) spos.line X.env=pure true) :
  PS X (.Assign [.Name y py] (.ListComp elt [⟨tg,iter,ifs,0⟩,⟨tg2,iter2,ifs2,0⟩] sc pos) spos) (aH (vO wi own fr g tt fun D=>tIn wi2 g2 tt2 (bu D te)) (jD i)) :=
 dR S hc hNd hiN hy hi hg ht (fun D s₀ H₀ ex pn=>⟨_,Bx (D:=D) (fun _ _ z=>z) hc (hi2 s₀ H₀ ex pn) (hg2 s₀ H₀ ex pn) (ht2 s₀ H₀ ex pn) (he s₀ H₀ ex pn) (hs2 s₀ H₀ ex pn),fun it=>ke⟩) hN hsc hs hf hsw
end
section
variable {X:Cx} {Ku:List (EL×Obj)} {σ:St} {H:Hp} {s:Shared} {h':Heap} {fp:List EL}
theorem Inv.turnedAll {t':Nat} (I:Inv X Ku σ H s) (hf:∀ b∈fp,bp X Ku H b) (k:∀ b o,b∉fp->s.heap.get? b=some o->h'.get? b=some o):Inv X Ku σ H { s with heap:=h',toks:=t' }:=by
 refine I.step (g':=s.gens) (d':=s.drawn) (ch:=fp) (fun b hb=>⟨(hf b hb).2.2.2.1,(hf b hb).2.1,(hf b hb).2.2.2.2⟩) (fun b o _ _ hc e _=>k b o hc e) (fun b o _ _ hc e _=>⟨o.slots,k b o hc e⟩) (fun _ _ _ _ n=>n)
  (fun b o hc e=>⟨o,k b o hc e⟩) (fun _ _ e=>e) (fun _ _ _ e=>e) (fun _ _ e=>e) (fun m hm=>?_) (fun b u e=>?_) I.bare
 ·obtain⟨o,es,ep,ho,r⟩:=hm;exact⟨o,es,ep,k _ o (fun z=>(hf _ z).2.1 rfl) ho,r⟩
 ·refine (I.hok b u e).stay (fun c v hc q=>k c v (fun z=>?_) q) (fun _ q=>q) fun _ _ q=>q;have hn:=(hf c z).1;rcases hc with hc | hc
  ·subst hc;rw [e] at hn;cases hn
  ·rw [hc] at hn;cases hn
theorem Inv.turnedNew {t':Nat} {t:EL} {o:HO} (I:Inv X Ku σ H s) (hf:∀ b∈fp,bp X Ku H b) (k:∀ b o,b∉fp->s.heap.get? b=some o->h'.get? b=some o) (ht:s.heap.objs.size<=t) (new:ObjOk X.prog X.w (upd H t o) h' t o) :
  Inv X Ku σ (upd H t o) { s with heap:=h',toks:=t' }:=by
 have hn:H t=none:=I.hok.fresh ht;have ne:∀ b ob,s.heap.get? b=some ob->b≠t:=fun b ob e=>Fp (Fb (E4 e) ht);refine I.step (g':=s.gens) (d':=s.drawn) (ch:=fp) (fun b hb=>⟨(hf b hb).2.2.2.1,(hf b hb).2.1,(hf b hb).2.2.2.2⟩) (fun b o _ _ hc e _=>k b o hc e) (fun b o _ _ hc e _=>⟨o.slots,k b o hc e⟩) (fun b ob _ e n=>by rw [zM (ne b ob e)];exact n)
  (fun b o hc e=>⟨o,k b o hc e⟩) (fun b xs e=>by rw [zM (ya e hn)];exact e) (fun b ob u e=>by rw [zM (ya e hn)];exact e) (fun b ps e=>by rw [zM (ya e hn)];exact e) (fun m hm=>?_) (fun b u e=>?_) I.bare
 ·obtain⟨o,es,ep,ho,r⟩:=hm;exact⟨o,es,ep,k _ o (fun z=>(hf _ z).2.1 rfl) ho,r⟩
 ·by_cases hb:b=t
  ·subst hb;rw [zK] at e;cases e;exact new
  ·rw [zM hb] at e;refine (I.hok b u e).stay (fun c v hc q=>k c v (fun z=>?_) q) (fun c q=>by rw [zM (ya q hn)];exact q) fun c xs q=>by rw [zM (ya q hn)];exact q
   have hn':=(hf c z).1;rcases hc with hc | hc
   ·subst hc;rw [e] at hn';cases hn'
   ·rw [hc] at hn';cases hn'
end
noncomputable def Ite (K:EI) (a:EL):It :=
 ⟨fun i H=>∃ xs x,SqL K H a xs/\xs[i]?=some x,fun i H x H'=>∃ t y,x=.ref t/\H t=none/\H'=upd H t (.tup [.int i,y])/\∀ xs,SqL K H a xs->xs[i]?=some y,fun i H=>∃ xs,SqL K H a xs/\xs.length<=i⟩
theorem rV {P:Program} {w:World} {K:EI} {es:List Expr} {k:Nat} {pos:Pos} (a e it:EL) (hne:e≠it):Turn P w K (.Tuple es k pos) (Ite K a) [e,it] e (fun i h=>(∃ old,IsEnum h e it i old)/\h.IsListIter it a i) where
 mem:=by simp
 obj:=fun i h st b hb=>by
  obtain⟨⟨old,se⟩,o,eo,c,d⟩:=st;rcases EW.mp hb with z | z
  ·subst z;exact⟨_,se,fun v z=>by
    have z':Data.fields _=Data.cell v:=z;cases z'⟩
  ·have z:b=it:=by simpa using z
   subst z;exact⟨o,eo,fun v z=>by rw [d] at z;cases z⟩
 keep:=fun i h h' st kk=>⟨let⟨old,se⟩:=st.1;⟨old,kk e (by simp) _ se⟩,st.2.at fun o eo=>kk it (by simp) o eo⟩
 item:=by
  intro X hP hw hK hc i Ku s σ H E I hf st hg;subst hP hw hK;obtain⟨xs,x,hq,hx⟩:=hg;obtain⟨its,rv,p,hz⟩:=I.list hq;obtain⟨u,hu,ru⟩:=rv.get hx;obtain⟨⟨old,se⟩,si⟩:=st;refine wpAny_pyNext_enum_item se si p.isList (x:=u) (by simpa using hu) hne fun h' so si' tp sz kp=>?_;refine⟨_,rfl,?_⟩;refine wpAny_letOwnedTupleGo_enum (s:={ s with heap:=h',toks:=s.toks+1 }) so fun h2 se2 sb=>?_;have hlt:e<s.heap.objs.size:=E4 se;obtain⟨oi,eoi,_,_⟩:=id si;have hlt2:it<s.heap.objs.size:=E4 eoi;have kk:∀ b o,b∉[e,it]->s.heap.get? b=some o->h2.get? b=some o:=fun b o hb eb=>by
   have h1:b≠e:=fun z=>hb (by simp [z]);have h2':b≠it:=fun z=>hb (by simp [z]);exact (sb.2 b h1).trans (kp b o h1 h2' eb)
  have I2:Inv X Ku σ (upd H s.heap.objs.size (.tup [.int i,x])) { s with heap:=h2,toks:=s.toks+1 }:=I.turnedNew hf kk (EN _)
   ⟨by show 2<=Fu;decide,[.int i s.toks,u],.cons ⟨_,rfl⟩ (.cons ru .nil),⟨_,(sb.2 _ (Hy hlt)).trans tp,rfl,_,rfl⟩⟩
  refine⟨.ref s.heap.objs.size,_,I2,rfl,⟨_,x,rfl,I.fresh,rfl,fun ys hy=>by rw [I.list_inj hy hq];exact hx⟩,⟨⟨_,se2⟩,?_⟩,fun b hb=>?_⟩
  ·exact si'.at fun o eo=>(sb.2 it (F6 hne)).trans eo
  ·rw [zM]
   ·exact (hf b hb).1
   ·rcases EW.mp hb with z | z
    ·subst z;exact Fp hlt
    ·have z:b=it:=by simpa using z
     subst z;exact Fp hlt2
 done:=by
  intro X hP hw hK hc i Ku s σ H E I hf st hg;subst hP hw hK;obtain⟨xs,hq,hx⟩:=hg;obtain⟨its,rv,p,hz⟩:=I.list hq;obtain⟨⟨old,se⟩,si⟩:=st;have hl:=rv.length;exact wpAny_pyNext_enum_end (I.ok.hd hc) se si p.isList (by simp;omega) fun h' eb=>⟨rfl,I.turnedAll (t':=s.toks) hf fun b o hb e'=>eb b o (fun z=>hb (by simp [z])) e'⟩
 self:=fun _ _ _ _ _ st h=>let⟨_,se⟩:=st.1;wpAny_pyIter_enum se h
section
variable {X:Cx} {es:List Expr} {k:Nat} {tpos:Pos}
def nS (K:EI) (ta:TA):TI:=fun σ H R=>ta σ H fun vs H1=>∃ a,vs=[.ref a]/\(∃ xs,SqL K H1 a xs)/\R (Ite K a) H1
theorem xW {a:Expr} {ta:TA} {p pos:Pos} (hg:Gl X "enumerate") (hm:X.mg "enumerate"=none) (ha:PA X [a] ta) (hs:FA [a] X.env=[(false,eval a X.env)]:=by rfl):PI X (.Tuple es k tpos) (.Call (.Name "enumerate" p) [a] [] pos) (nS X.K ta):=by
 intro Ku s σ H R I h;refine Call_ (aR I hg hm boot_enumerate (GQ (thn (ha pos Ku s σ H _ I h) fun us s1 ⟨vs,H1,I1,r1,q1⟩=>?_) hs rfl));obtain⟨l,e,⟨xs,hq⟩,q⟩:=q1;subst e;cases r1 with
 | cons r rr =>
  cases rr;cases r;obtain⟨its,rv,p,hz⟩:=I1.list hq;refine call_enumerate_list p.isList fun h' he hi hsz kp=>?_;refine wpAny_pyIter_enum he ?_;have hne:s1.heap.objs.size+1≠s1.heap.objs.size:=Nat.succ_ne_self _;refine⟨s1.heap.objs.size+1,[s1.heap.objs.size+1,s1.heap.objs.size],_,_,H1,rfl,I1.kept (t':=s1.toks) kp,rV l _ _ hne,⟨⟨_,he⟩,hi⟩,fun b hb=>?_,q⟩;rcases EW.mp hb with z | z
  ·subst z;exact I1.fpOk (Kn _) (I1.hok.fresh (Kn _))
  ·have z:b=s1.heap.objs.size:=by simpa using z
   subst z;exact I1.fpOk (EN _) (I1.hok.fresh (EN _))
end
theorem uu {K:EI} {a:EL} {xs:List V} {g:TG} {tb:TS} {D:Ends} {σ:St} {H:Hp} (Pv:Nat->St->Hp->Prop) (h0:Pv 0 σ H) (hl:∀ i σ H,i<=xs.length->Pv i σ H->SqL K H a xs)
  (hs:∀ i x σ H t,xs[i]?=some x->Pv i σ H->H t=none->g (.ref t) σ (upd H t (.tup [.int i,x])) fun σ2 H2=>tb { D with nx:=Pv (i+1),ct:=Pv (i+1),bk:=D.nx } σ2 H2) (hd:∀ σ H,Pv xs.length σ H->D.nx σ H) :
  ∃ W:Nat->Nat->St->Hp->Prop,(∃ m,W 0 m σ H)/\∀ i m σ H,W i m σ H ->
   ((Ite K a).stop i H/\D.nx σ H) \/ ((Ite K a).go i H/\∃ N:St->Hp->Prop,(∀ σ' H',N σ' H'->∃ m',m'<m/\W (i+1) m' σ' H')/\∀ x H',(Ite K a).yld i H x H'->g x σ H' fun σ2 H2=>tb { D with nx:=N,ct:=N,bk:=D.nx } σ2 H2):=by
 refine⟨fun i m σ H=>Pv i σ H/\i<=xs.length/\m+i=xs.length,⟨xs.length,h0,Ft _,rfl⟩,fun i m σ H ⟨p,hi,hm⟩=>?_⟩;have q:=hl i σ H hi p;by_cases hlt:i<xs.length
 ·refine .inr ⟨⟨xs,xs[i],q,ED hlt⟩,Pv (i+1),fun σ' H' n=>⟨m - 1,by omega,n,hlt,by omega⟩,fun x H' hy=>?_⟩;obtain⟨t,y,rfl,ht,rfl,hy⟩:=hy;exact hs i y σ H t (hy xs q) p ht
 ·have e:i=xs.length:=by omega
  subst e;exact .inl ⟨⟨xs,q,EN _⟩,hd σ H p⟩
mutual
def Rep (K:EI) (H:Hp):PyData->V->Prop
 | .none,v=>v=.non
 | .bool b,v=>v=.bl b
 | .int i,v=>v=.int i
 | .str x,v=>v=.str x
 | .list ds,v=>∃ a xs,v=.ref a/\SqL K H a xs/\Reps K H ds xs
 | .tuple ds,v=>∃ a xs,v=.ref a/\SqT K H a xs/\Reps K H ds xs
 | .dict _,_=>False
def Reps (K:EI) (H:Hp):List PyData->List V->Prop
 | [],xs=>xs=[]
 | d :: ds,xs=>∃ x r,xs=x :: r/\Rep K H d x/\Reps K H ds r
end
theorem Same.seqT {K:EI} {H H':Hp} {a:EL} {xs:List V} (e:Same H H') (h:SqT K H a xs):SqT K H' a xs:=by
 rcases h with (h | ⟨o,h⟩) | h
 ·exact .inl (.inl (e _ _ h))
 ·exact .inl (.inr ⟨o,e _ _ h⟩)
 ·exact .inr h
mutual
theorem Rep.mono {K:EI} {H H':Hp} (e:Same H H'):∀ (d:PyData) (v:V),Rep K H d v->Rep K H' d v
 | .none,_,h=>by rw [Rep] at h ⊢;exact h
 | .bool _,_,h=>by rw [Rep] at h ⊢;exact h
 | .int _,_,h=>by rw [Rep] at h ⊢;exact h
 | .str _,_,h=>by rw [Rep] at h ⊢;exact h
 | .list ds,v,h=>by
  rw [Rep] at h ⊢;obtain⟨a,xs,h1,h2,h3⟩:=h;exact⟨a,xs,h1,e.seq h2,Reps.mono e ds xs h3⟩
 | .tuple ds,v,h=>by
  rw [Rep] at h ⊢;obtain⟨a,xs,h1,h2,h3⟩:=h;exact⟨a,xs,h1,e.seqT h2,Reps.mono e ds xs h3⟩
 | .dict _,_,h=>by rw [Rep] at h;exact h.elim
theorem Reps.mono {K:EI} {H H':Hp} (e:Same H H'):∀ (ds:List PyData) (xs:List V),Reps K H ds xs->Reps K H' ds xs
 | [],_,h=>by rw [Reps] at h ⊢;exact h
 | d :: ds,xs,h=>by
  rw [Reps] at h ⊢;obtain⟨x,r,h1,h2,h3⟩:=h;exact⟨x,r,h1,Rep.mono e d x h2,Reps.mono e ds r h3⟩
end
theorem zt {K:EI} {H:Hp} {i:Int} {v:V}:Rep K H (.int i) v↔v=.int i:=by rw [Rep]
theorem zW {K:EI} {H:Hp} {b:Bool} {v:V}:Rep K H (.bool b) v↔v=.bl b:=by rw [Rep]
theorem jM {K:EI} {H:Hp} {v:V}:Rep K H .none v↔v=.non:=by rw [Rep]
theorem dg {K:EI} {H:Hp} {x:Str} {v:V}:Rep K H (.str x) v↔v=.str x:=by rw [Rep]
theorem zG {K:EI} {H:Hp} {ds:List PyData} {v:V}:Rep K H (.list ds) v↔∃ a xs,v=.ref a/\SqL K H a xs/\Reps K H ds xs:=by rw [Rep]
theorem zS {K:EI} {H:Hp} {ds:List PyData} {v:V}:Rep K H (.tuple ds) v↔∃ a xs,v=.ref a/\SqT K H a xs/\Reps K H ds xs:=by rw [Rep]
theorem zR {K:EI} {H:Hp} {xs:List V}:Reps K H [] xs↔xs=[]:=by rw [Reps]
theorem zC {K:EI} {H:Hp} {d:PyData} {ds:List PyData} {xs:List V}:Reps K H (d :: ds) xs↔∃ x r,xs=x :: r/\Rep K H d x/\Reps K H ds r:=by rw [Reps]
theorem Reps.nil' {K:EI} {H:Hp}:Reps K H [] []:=zR.mpr rfl
theorem Reps.cons' {K:EI} {H:Hp} {d:PyData} {ds:List PyData} {x:V} {r:List V} (h:Rep K H d x) (t:Reps K H ds r):Reps K H (d :: ds) (x :: r):=zC.mpr ⟨x,r,rfl,h,t⟩
theorem Reps.length {K:EI} {H:Hp}:∀ {ds:List PyData} {xs:List V},Reps K H ds xs->xs.length=ds.length
 | [],xs,h=>by rw [zR.mp h];rfl
 | d :: ds,xs,h=>by
  obtain⟨x,r,rfl,_,h3⟩:=zC.mp h;rw [E1,E1,Reps.length h3]
theorem Reps.get {K:EI} {H:Hp}:∀ {ds:List PyData} {xs:List V} {i:Nat} {d:PyData},Reps K H ds xs->ds[i]?=some d->∃ x,xs[i]?=some x/\Rep K H d x
 | [],_,_,_,_,e=>by simp at e
 | d :: ds,xs,0,d',h,e=>by
  obtain⟨x,r,rfl,h2,_⟩:=zC.mp h;simp at e;subst e;exact⟨x,rfl,h2⟩
 | d :: ds,xs,i+1,d',h,e=>by
  obtain⟨x,r,rfl,_,h3⟩:=zC.mp h;obtain⟨y,h1,h2⟩:=Reps.get (i:=i) h3 (by simpa using e);exact⟨y,by simpa using h1,h2⟩
theorem Reps.snoc {K:EI} {H:Hp} {d:PyData} {x:V} (h:Rep K H d x):∀ {ds:List PyData} {xs:List V},Reps K H ds xs->Reps K H (ds++[d]) (xs++[x])
 | [],xs,t=>by rw [zR.mp t];exact .cons' h .nil'
 | d' :: ds,xs,t=>by
  obtain⟨y,r,rfl,h2,h3⟩:=zC.mp t;exact .cons' h2 (Reps.snoc h h3)
theorem Reps.append {K:EI} {H:Hp}:∀ {ds es:List PyData} {xs ys:List V},Reps K H ds xs->Reps K H es ys->Reps K H (ds++es) (xs++ys)
 | [],es,xs,ys,t,u=>by rw [zR.mp t];exact u
 | d' :: ds,es,xs,ys,t,u=>by
  obtain⟨y,r,rfl,h2,h3⟩:=zC.mp t;exact .cons' h2 (Reps.append h3 u)
theorem Reps.ints {K:EI} {H:Hp}:∀ {ns:List Int} {xs:List V},Reps K H (ns.map .int) xs->xs=ns.map V.int
 | [],xs,h=>zR.mp h
 | n :: ns,xs,h=>by
  obtain⟨x,r,rfl,h2,h3⟩:=zC.mp h;rw [zt.mp h2,Reps.ints h3];rfl
theorem Reps.ints' {K:EI} {H:Hp}:∀ (ns:List Int),Reps K H (ns.map .int) (ns.map V.int)
 | []=>.nil'
 | n :: ns=>.cons' (zt.mpr rfl) (Reps.ints' ns)
section
variable {X:Cx} {Ku:List (EL×Obj)} {σ:St} {H:Hp} {s:Shared}
mutual
theorem jt (I:Inv X Ku σ H s):∀ (d:PyData) (v:V) (u:Value),Rep X.K H d v->RelV v u->∃ as,Reads s.heap u d as
 | .none,v,u,h,r=>by rw [jM.mp h] at r;cases r;exact⟨_,.none⟩
 | .bool b,v,u,h,r=>by rw [zW.mp h] at r;cases r;exact⟨_,.bool b⟩
 | .int i,v,u,h,r=>by rw [zt.mp h] at r;obtain⟨t,rfl⟩:=r;exact⟨_,.int i t⟩
 | .str x,v,u,h,r=>by rw [dg.mp h] at r;obtain⟨t,rfl⟩:=r;exact⟨_,.str x t⟩
 | .list ds,v,u,h,r=>by
  obtain⟨a,xs,rfl,h2,h3⟩:=zG.mp h;cases r;obtain⟨its,rv,p,_⟩:=I.list h2;obtain⟨o,ho,hc,n,hd⟩:=p.isList;obtain⟨as,ra⟩:=qG I ds xs its h3 rv;exact⟨_,.list ho hc hd (by simpa using ra)⟩
 | .tuple ds,v,u,h,r=>by
  obtain⟨a,xs,rfl,h2,h3⟩:=zS.mp h;cases r;obtain⟨its,rv,p,_⟩:=I.tuple h2;obtain⟨o,ho,hc,n,hd⟩:=p;obtain⟨as,ra⟩:=qG I ds xs its h3 rv;exact⟨_,.tuple ho hc hd (by simpa using ra)⟩
 | .dict _,_,_,h,_=>by rw [Rep] at h;exact h.elim
theorem qG (I:Inv X Ku σ H s):∀ (ds:List PyData) (xs:List V) (us:List Value),Reps X.K H ds xs->Vals xs us->∃ as,ReadsAll s.heap us ds as
 | [],xs,us,h,r=>by rw [zR.mp h] at r;cases r;exact⟨_,.nil⟩
 | d :: ds,xs,us,h,r=>by
  obtain⟨x,q,rfl,h2,h3⟩:=zC.mp h;cases r with
  | cons r1 r2 =>
   obtain⟨as,ra⟩:=jt I d x _ h2 r1;obtain⟨bs,rb⟩:=qG I ds q _ h3 r2;exact⟨_,.cons ra rb⟩
end
def rW (K:EI) (neg:Bool):R2:=fun x y H Q=>∃ d d',Rep K H d x/\Rep K H d' y/\d.canLay0=true/\d'.canLay0=true/\min d.depth d'.depth<=60/\Q (.bl (if neg then !Fi d d' else Fi d d')) H
theorem Ck (hu:X.A.units+64<Gr):OpR X (F5 .Eq) (rW X.K false):=by
 intro Ku s σ H x y v u Q I rx ry h;obtain⟨d,d',h1,h2,c1,c2,hm,q⟩:=h;obtain⟨as,ra⟩:=jt I d x v h1 rx;obtain⟨bs,rb⟩:=jt I d' y u h2 ry;exact SeqAt.compareEq_reads ra rb c1 c2 (by omega) ⟨.bl (Fi d d'),H,I,rfl,q⟩
theorem Cm (hu:X.A.units+64<Gr):OpR X (F5 .NotEq) (rW X.K true):=by
 intro Ku s σ H x y v u Q I rx ry h;obtain⟨d,d',h1,h2,c1,c2,hm,q⟩:=h;obtain⟨as,ra⟩:=jt I d x v h1 rx;obtain⟨bs,rb⟩:=jt I d' y u h2 ry;exact SeqAt.compareNe_reads ra rb c1 c2 (by omega) ⟨.bl (!Fi d d'),H,I,rfl,q⟩
theorem rX (hc:X.calm=true):yR X (.builtin "min") (fun xs H Q=>∃ a ns,xs=[.ref a]/\SqL X.K H a (ns.map V.int)/\ns≠[]/\∀ M,M∈ns->(∀ b∈ns,M<=b)->Q (.int M) H):=by
 intro Ku s σ H xs us Q I r h;obtain⟨a,ns,rfl,hq,hne,q⟩:=h;obtain⟨u,rfl,r1⟩:=vals1 r;cases r1;obtain⟨its,rv,p,_⟩:=I.list hq;obtain⟨m,F⟩:=I.fr;have hi:=intsAre_of rv;obtain⟨ys,e⟩:=hi.allInts.items;have hns:ns=ys.toList.map (·.1):=by rw [<-hi.numsOf,<- nums_intItems,<- e]
 have hsz:0<ys.size:=by
  have h3:0<ns.length:=HL.mpr hne;rw [hns,EF,E5] at h3;exact h3
 have hl:=p.isList;rw [e] at hl;refine min_intList (I.ok.hd hc) hl hsz fun v h' tk hv hk=>?_;obtain⟨t,rfl⟩:=intItems_at hv;obtain⟨_,h2⟩:=argBest_lt (numAt ys) (ys.size - 1);refine⟨.int _,H,I.kept (t':=tk) hk,⟨t,rfl⟩,q _ ?_ fun b hb=>?_⟩
 ·rw [hns,numAt_eq];exact getD_mem (by rw [EF,E5];omega)
 ·rw [hns] at hb;obtain⟨j,hj,rfl⟩:=mem_getD hb;rw [EF,E5] at hj;rw [<-numAt_eq];exact h2 j (by omega)
theorem rY (hc:X.calm=true):yR X (.builtin "max") (fun xs H Q=>∃ a ns,xs=[.ref a]/\SqL X.K H a (ns.map V.int)/\ns≠[]/\∀ M,M∈ns->(∀ b∈ns,b<=M)->Q (.int M) H):=by
 intro Ku s σ H xs us Q I r h;obtain⟨a,ns,rfl,hq,hne,q⟩:=h;obtain⟨u,rfl,r1⟩:=vals1 r;cases r1;obtain⟨its,rv,p,_⟩:=I.list hq;have hi:=intsAre_of rv;obtain⟨ys,e⟩:=hi.allInts.items;have hns:ns=ys.toList.map (·.1):=by rw [<-hi.numsOf,<- nums_intItems,<- e]
 have hsz:0<ys.size:=by
  have h3:0<ns.length:=HL.mpr hne;rw [hns,EF,E5] at h3;exact h3
 have hl:=p.isList;rw [e] at hl;refine max_intList (I.ok.hd hc) hl hsz fun v h' tk hv hk=>?_;obtain⟨t,rfl⟩:=intItems_at hv;obtain⟨_,h2⟩:=argBest_gt (numAt ys) (ys.size - 1);refine⟨.int _,H,I.kept (t':=tk) hk,⟨t,rfl⟩,q _ ?_ fun b hb=>?_⟩
 ·rw [hns,numAt_eq];exact getD_mem (by rw [EF,E5];omega)
 ·rw [hns] at hb;obtain⟨j,hj,rfl⟩:=mem_getD hb;rw [EF,E5] at hj;rw [<-numAt_eq];exact h2 j (by omega)
end
inductive DV where
 | dat (d:PyData)
 | feed
 | own (k:Nat)
 | exc (C:Value)
 | mon (φ:Hp->V->Prop)
abbrev zw:=List (Option DV)
structure Fx where
 f:Option EL
 M:List EL
noncomputable def hide (H:Hp) (f:Fx):Hp:=fun b=>if f.f=some b \/ b∈f.M then none else H b
structure FOk (f:Fx) (H:Hp):Prop where
 fd:∀ p,f.f=some p->∃ a b:Int,H p=some (.lst [.int a,.int b])/\0<=a/\0<=b/\b<2147483647
 mm:∀ b∈f.M,∃ o,H b=some o
 nm:∀ p,f.f=some p->p∉f.M
def RepV (K:EI) (f:Fx) (H:Hp):DV->V->Prop
 | .dat d,v=>Rep K (hide H f) d v
 | .feed,v=>∃ p,f.f=some p/\v=.ref p
 | .own k,v=>∃ p,f.M.reverse[k]?=some p/\v=.ref p
 | .exc C,v=>∃ a,v=.ref a/\hide H f a=some (.ext fun h=>∃ o,h.get? a=some o/\o.cls=C)
 | .mon φ,v=>∀ H',Same (hide H f) H'->φ H' v
structure Goes (f:Fx) (H H':Hp):Prop where
 sm:Same (hide H f) (hide H' f)
 ok:FOk f H'
 kp:∀ b∈f.M,H' b=H b
structure EnvOk (K:EI) (f:Fx) (ρ:zw) (σ:St) (H:Hp):Prop where
 len:ρ.length=σ.length
 get:∀ (i:Nat) x,ρ[i]?=some (some x)->∃ v,σ[i]?=some (some v)/\RepV K f H x v
 fd:FOk f H
theorem jl (H:Hp):hide H ⟨none,[]⟩=H:=by funext b;unfold hide;rw [Kv (by rintro (h | h) <;> cases h)]
theorem zo (H:Hp) (f:Fx):Same (hide H f) H:=fun b o h=>by
 unfold hide at h;split at h
 ·cases h
 ·exact h
theorem zY {H:Hp} {f:Fx} {b:EL} {o:HO} (h:hide H f b=some o):¬ (f.f=some b \/ b∈f.M)/\H b=some o:=by
 unfold hide at h;split at h
 ·cases h
 ·rename_i n;exact⟨n,h⟩
theorem zL {H:Hp} {f:Fx} {b:EL} {o:HO} (n:¬ (f.f=some b \/ b∈f.M)) (h:H b=some o):hide H f b=some o:=by unfold hide;rw [Kv n];exact h
theorem Goes.refl {f:Fx} {H:Hp} (h:FOk f H):Goes f H H:=⟨Same.refl _,h,fun _ _=>rfl⟩
theorem Goes.trans {f:Fx} {H H1 H2:Hp} (a:Goes f H H1) (b:Goes f H1 H2):Goes f H H2:=⟨a.1.trans b.1,b.2,fun x hx=>(b.kp x hx).trans (a.kp x hx)⟩
theorem Goes.of_same {f:Fx} {H H':Hp} (s:Same H H') (h:FOk f H):Goes f H H' :=
 ⟨fun b o e=>zL (zY e).1 (s b o (zY e).2),⟨fun p e=>let⟨a,b,h1,h2⟩:=h.fd p e;⟨a,b,s _ _ h1,h2⟩,fun b hb=>let⟨o,e⟩:=h.mm b hb;⟨o,s _ _ e⟩,h.nm⟩,fun b hb=>let⟨o,e⟩:=h.mm b hb;(s _ _ e).trans e.symm⟩
theorem yf {H:Hp} {p:EL} (h:H p=none) (o:HO):Same H (upd H p o):=fun b u q=>by rw [zM (ya q h)];exact q
theorem RepV.mono {K:EI} {f:Fx} {H H':Hp} (g:Goes f H H'):∀ {x:DV} {v:V},RepV K f H x v->RepV K f H' x v
 | .dat d,v,h=>Rep.mono g.1 d v h
 | .feed,v,h=>h
 | .own _,v,h=>h
 | .exc _,v,h=>let⟨a,e,q⟩:=h;⟨a,e,g.1 _ _ q⟩
 | .mon _,v,h=>fun H' s=>h H' (g.1.trans s)
theorem EnvOk.mono {K:EI} {f:Fx} {ρ:zw} {σ:St} {H H':Hp} (e:EnvOk K f ρ σ H) (g:Goes f H H'):EnvOk K f ρ σ H' :=
 ⟨e.len,fun i x h=>let⟨v,h1,h2⟩:=e.get i x h;⟨v,h1,h2.mono g⟩,g.2⟩
theorem EnvOk.set {K:EI} {f:Fx} {ρ:zw} {σ:St} {H:Hp} {x:DV} {v:V} (e:EnvOk K f ρ σ H) (i:Nat) (r:RepV K f H x v):EnvOk K f (ρ.set i (some x)) (σ.set i (some v)) H:=by
 refine⟨by rw [Hm,Hm];exact e.len,fun j y h=>?_,e.fd⟩;by_cases hj:i=j
 ·subst hj;by_cases hi:i<ρ.length
  ·rw [Gs hi] at h;cases h;exact⟨v,by rw [Gs (by rw [<-e.len];exact hi)],r⟩
  ·rw [Fl (by rw [Hm];omega)] at h;cases h
 ·rw [G1 hj] at h ⊢;exact e.get j y h
theorem fresh_ne {f:Fx} {H:Hp} {p:EL} (h:FOk f H) (n:H p=none):¬ (f.f=some p \/ p∈f.M):=fun e=>by
 rcases e with e | e
 ·obtain⟨a,b,h1,_⟩:=h.fd p e;rw [n] at h1;cases h1
 ·obtain⟨o,h1⟩:=h.mm p e;rw [n] at h1;cases h1
inductive RepVs (K:EI) (f:Fx) (H:Hp):List DV->List V->Prop where
 | nil:RepVs K f H [] []
 | cons {x v xs vs}:RepV K f H x v->RepVs K f H xs vs->RepVs K f H (x :: xs) (v :: vs)
theorem RepVs.mono {K:EI} {f:Fx} {H H':Hp} (g:Goes f H H'):∀ {xs:List DV} {vs:List V},RepVs K f H xs vs->RepVs K f H' xs vs
 | _,_,.nil=>.nil
 | _,_,.cons r t=>.cons (r.mono g) (t.mono g)
theorem RepVs.length {K:EI} {f:Fx} {H:Hp}:∀ {xs:List DV} {vs:List V},RepVs K f H xs vs->vs.length=xs.length
 | _,_,.nil=>rfl
 | _,_,.cons _ t=>by rw [E1,E1,t.length]
section
variable (K:EI) (f:Fx)
def PEd (te:TE) (ρ:zw) (P:PyData->Prop):Prop:=∀ (σ:St) (H:Hp) (Q:VK),EnvOk K f ρ σ H->(∀ d v H',Goes f H H'->Rep K (hide H' f) d v->P d->Q v H')->te σ H Q
def PTd (tt:TT) (ρ:zw) (P:Bool->Prop):Prop:=∀ (σ:St) (H:Hp) (Q:Bool->Hp->Prop),EnvOk K f ρ σ H->(∀ b H',Goes f H H'->P b->Q b H')->tt σ H Q
def PAd (ta:TA) (ρ:zw) (P:List DV->Prop):Prop:=∀ (σ:St) (H:Hp) (Q:List V->Hp->Prop),EnvOk K f ρ σ H->(∀ xs vs H',Goes f H H'->RepVs K f H' xs vs->P xs->Q vs H')->ta σ H Q
structure DEnds where
 nx:zw->Prop
 rt:PyData->Prop
 bk:zw->Prop:=fun _=>False
 ct:zw->Prop:=fun _=>False
def PSd (ts:TS) (ρ:zw) (D:DEnds):Prop:=∀ (σ:St) (H:Hp) (E:Ends),EnvOk K f ρ σ H->(∀ ρ' σ' H',Goes f H H'->EnvOk K f ρ' σ' H'->D.nx ρ'->E.nx σ' H')->(∀ d v H',Goes f H H'->Rep K (hide H' f) d v->D.rt d->E.rt v H') ->
 (∀ ρ' σ' H',Goes f H H'->EnvOk K f ρ' σ' H'->D.bk ρ'->E.bk σ' H')->(∀ ρ' σ' H',Goes f H H'->EnvOk K f ρ' σ' H'->D.ct ρ'->E.ct σ' H')->ts E σ H
def spD {γ:Type} (n:Nat) (pre:γ->List DV->Prop) (post:γ->PyData->Prop):Sp:=fun vs H Q _=>∃ f xs c,RepVs K f H xs vs/\xs.length=n/\FOk f H/\pre c xs/\∀ r v H',Goes f H H'->Rep K (hide H' f) r v->post c r->Q v H'
end
section
variable {K:EI} {f:Fx} {ρ:zw} {P:PyData->Prop} {te ta tb tc:TE}
theorem zq {i:Nat} {d:PyData} (h:ρ[i]?=some (some (.dat d))) (p:P d):PEd K f (yi i) ρ P:=fun σ H Q e q=>by
 obtain⟨v,h1,h2⟩:=e.get i _ h;exact⟨v,h1,q d v H (.refl e.fd) h2 p⟩
theorem yE {i:Int} (p:P (.int i)):PEd K f (tC (.int i)) ρ P:=fun σ H Q e q=>q (.int i) _ H (.refl e.fd) (zt.mpr rfl) p
theorem uv {i:Bool} (p:P (.bool i)):PEd K f (tC (.bl i)) ρ P:=fun σ H Q e q=>q (.bool i) _ H (.refl e.fd) (zW.mpr rfl) p
theorem DM {i:Str} (p:P (.str i)):PEd K f (tC (.str i)) ρ P:=fun σ H Q e q=>q (.str i) _ H (.refl e.fd) (dg.mpr rfl) p
theorem By (p:P .none):PEd K f (tC .non) ρ P:=fun σ H Q e q=>q .none _ H (.refl e.fd) (jM.mpr rfl) p
theorem PEd.imp {P':PyData->Prop} (h:PEd K f te ρ P) (i:∀ d,P d->P' d):PEd K f te ρ P':=fun σ H Q e q=>h σ H Q e fun d v H' g r p=>q d v H' g r (i d p)
theorem rZ {r:R2} (h:PEd K f ta ρ fun x=>PEd K f tb ρ fun y=>∀ (v w:V) (H:Hp) (Q:VK),FOk f H->Rep K (hide H f) x v->Rep K (hide H f) y w->(∀ d u H',Goes f H H'->Rep K (hide H' f) d u->P d->Q u H')->r v w H Q):PEd K f (tOp r ta tb) ρ P:=fun σ H Q e q =>
 h σ H _ e fun x v H1 g1 r1 p1=>p1 σ H1 _ (e.mono g1) fun y w H2 g2 r2 p2=>p2 v w H2 Q g2.2 (Rep.mono g2.1 x v r1) r2 fun d u H' g' r' p'=>q d u H' (g1.trans (g2.trans g')) r' p'
theorem Et {r:V->Hp->VK->Prop} (h:PEd K f ta ρ fun x=>∀ (v:V) (H:Hp) (Q:VK),FOk f H->Rep K (hide H f) x v->(∀ d u H',Goes f H H'->Rep K (hide H' f) d u->P d->Q u H')->r v H Q):PEd K f (tUn r ta) ρ P:=fun σ H Q e q =>
 h σ H _ e fun x v H1 g1 r1 p1=>p1 v H1 Q g1.2 r1 fun d u H' g' r' p'=>q d u H' (g1.trans g') r' p'
theorem vW {g:Int->Int->Int} (h:PEd K f ta ρ fun x=>∃ i,x=.int i/\PEd K f tb ρ fun y=>∃ j,y=.int j/\P (.int (g i j))):PEd K f (tOp (rI0 fun i j=>.int (g i j)) ta tb) ρ P :=
 rZ (h.imp fun x ⟨i,ex,h2⟩=>h2.imp fun y ⟨j,ey,p⟩ v w H Q fo rx ry q=>by
  subst ex ey;exact⟨i,j,zt.mp rx,zt.mp ry,q _ _ H (.refl fo) (zt.mpr rfl) p⟩)
theorem yP {C:Int->Int->Prop} {g:Int->Int->Int} (h:PEd K f ta ρ fun x=>∃ i,x=.int i/\PEd K f tb ρ fun y=>∃ j,y=.int j/\C i j/\P (.int (g i j))):PEd K f (tOp (rI C fun i j=>.int (g i j)) ta tb) ρ P :=
 rZ (h.imp fun x ⟨i,ex,h2⟩=>h2.imp fun y ⟨j,ey,c,p⟩ v w H Q fo rx ry q=>by
  subst ex ey;exact⟨i,j,zt.mp rx,zt.mp ry,c,q _ _ H (.refl fo) (zt.mpr rfl) p⟩)
theorem kh {g:Int->Int->Bool} (h:PEd K f ta ρ fun x=>∃ i,x=.int i/\PEd K f tb ρ fun y=>∃ j,y=.int j/\P (.bool (g i j))):PEd K f (tOp (rI0 fun i j=>.bl (g i j)) ta tb) ρ P :=
 rZ (h.imp fun x ⟨i,ex,h2⟩=>h2.imp fun y ⟨j,ey,p⟩ v w H Q fo rx ry q=>by
  subst ex ey;exact⟨i,j,zt.mp rx,zt.mp ry,q _ _ H (.refl fo) (zW.mpr rfl) p⟩)
theorem aL {neg:Bool} (h:PEd K f ta ρ fun x=>PEd K f tb ρ fun y=>x.canLay0=true/\y.canLay0=true/\min x.depth y.depth<=60/\P (.bool (if neg then !Fi x y else Fi x y))):PEd K f (tOp (rW K neg) ta tb) ρ P :=
 rZ (h.imp fun x h2=>h2.imp fun y ⟨c1,c2,c3,p⟩ v w H Q fo rx ry q =>
  ⟨x,y,Rep.mono (zo _ _) x v rx,Rep.mono (zo _ _) y w ry,c1,c2,c3,q _ _ H (.refl fo) (zW.mpr rfl) p⟩)
theorem bw (h:PEd K f ta ρ fun x=>∃ ds,x=.list ds/\PEd K f tb ρ fun y=>∃ k,y=.int k/\∃ d,atI ds k=some d/\P d):PEd K f (tOp (rR K) ta tb) ρ P :=
 rZ (h.imp fun x ⟨ds,ex,h2⟩=>h2.imp fun y ⟨k,ey,d,a,p⟩ v w H Q fo rx ry q=>by
  subst ex ey;obtain⟨l,xs,rfl,hs,hr⟩:=zG.mp rx;unfold atI at a;cases hi:ixN ds.length k with
  | none=>rw [hi] at a;cases a
  | some j =>
   rw [hi] at a;obtain⟨u,hu,ru⟩:=hr.get a;exact⟨l,xs,k,u,rfl,zt.mp ry,(zo H f).seq hs,by unfold atI;rw [hr.length,hi];exact hu,q d u H (.refl fo) ru p⟩)
theorem Bz (h:PEd K f ta ρ fun x=>∃ ds,x=.tuple ds/\PEd K f tb ρ fun y=>∃ k,y=.int k/\∃ d,atI ds k=some d/\P d):PEd K f (tOp (Ce K) ta tb) ρ P :=
 rZ (h.imp fun x ⟨ds,ex,h2⟩=>h2.imp fun y ⟨k,ey,d,a,p⟩ v w H Q fo rx ry q=>by
  subst ex ey;obtain⟨l,xs,rfl,hs,hr⟩:=zS.mp rx;unfold atI at a;cases hi:ixN ds.length k with
  | none=>rw [hi] at a;cases a
  | some j =>
   rw [hi] at a;obtain⟨u,hu,ru⟩:=hr.get a;exact⟨l,xs,k,u,rfl,zt.mp ry,(zo H f).seqT hs,by unfold atI;rw [hr.length,hi];exact hu,q d u H (.refl fo) ru p⟩)
theorem DN {i:Nat} (hi:ρ[i]?=some (some .feed)) (h:PEd K f tb ρ fun y=>(y=.int 0/\∀ a:Int,0<=a->P (.int a)) \/ (y=.int 1/\∀ b:Int,0<=b->b<2147483647->P (.int b))):PEd K f (tOp (rR K) (yi i) tb) ρ P:=fun σ H Q e q=>by
 obtain⟨v,h1,p,ef,ev⟩:=e.get i _ hi;refine⟨v,h1,h σ H _ e fun y w H' g r c=>?_⟩;obtain⟨a,b,hf,c1,c2,c3⟩:=g.2.fd p ef;rcases c with⟨rfl,c⟩ | ⟨rfl,c⟩
 ·exact⟨p,_,0,.int a,ev,zt.mp r,SqL.of hf,rfl,q (.int a) _ H' g (zt.mpr rfl) (c a c1)⟩
 ·exact⟨p,_,1,.int b,ev,zt.mp r,SqL.of hf,rfl,q (.int b) _ H' g (zt.mpr rfl) (c b c2 c3)⟩
theorem yd {R:List DV->Prop} (p:R []):PAd K f qv ρ R:=fun σ H Q e q=>q [] [] H (.refl e.fd) .nil p
theorem zv {R:List DV->Prop} {u:TA} (h:PEd K f te ρ fun x=>PAd K f u ρ fun xs=>R (.dat x :: xs)):PAd K f (z7 te u) ρ R:=fun σ H Q e q =>
 h σ H _ e fun x v H1 g1 r1 p1=>p1 σ H1 _ (e.mono g1) fun xs vs H2 g2 r2 p2=>q (.dat x :: xs) (v :: vs) H2 (g1.trans g2) (.cons (RepV.mono (x:=.dat x) g2 r1) r2) p2
theorem b8 {R:List DV->Prop} {u:TA} {i:Nat} (hi:ρ[i]?=some (some .feed)) (h:PAd K f u ρ fun xs=>R (.feed :: xs)):PAd K f (z7 (yi i) u) ρ R:=fun σ H Q e q=>by
 obtain⟨v,h1,h2⟩:=e.get i _ hi;exact⟨v,h1,h σ H _ e fun xs vs H2 g2 r2 p2=>q (.feed :: xs) (v :: vs) H2 g2 (.cons (RepV.mono (x:=.feed) g2 h2) r2) p2⟩
noncomputable def vj:List DV->Option (List PyData)
 | []=>some []
 | .dat d :: r=>(vj r).map (d :: ·)
 | .feed :: _=>none
 | .own _ :: _=>none
 | .exc _ :: _=>none
 | .mon _ :: _=>none
theorem au {H:Hp}:∀ {xs:List DV} {vs:List V} {ds:List PyData},RepVs K f H xs vs->vj xs=some ds->Reps K (hide H f) ds vs
 | _,_,ds,.nil,e=>by cases e;exact .nil'
 | .dat d :: xs,v :: vs,ds,.cons r t,e=>by
  unfold vj at e;cases q:vj xs with
  | none=>rw [q] at e;cases e
  | some es=>rw [q] at e;cases e;exact .cons' r (au t q)
 | .feed :: xs,_,ds,.cons r t,e=>by cases e
 | .own _ :: xs,_,ds,.cons r t,e=>by cases e
 | .exc _ :: xs,_,ds,.cons r t,e=>by cases e
 | .mon _ :: xs,_,ds,.cons r t,e=>by cases e
theorem nT {t:TA} (h:PAd K f t ρ fun xs=>∃ ds,vj xs=some ds/\ds.length<=1000/\P (.list ds)):PEd K f (uk t) ρ P:=fun σ H Q e q =>
 h σ H _ e fun xs vs H1 g1 r1 ⟨ds,ea,hl,p⟩=>by
  have rs:=au r1 ea;refine⟨by rw [rs.length];exact Gj (yz hl),fun l hn=>?_⟩;have sm:=yf hn (.lst vs);have g2:Goes f H1 (upd H1 l (.lst vs)):=.of_same sm g1.2;exact q (.list ds) _ _ (g1.trans g2) (zG.mpr ⟨l,vs,rfl,.of (zL (fresh_ne g1.2 hn) zK),Reps.mono g2.1 ds vs rs⟩) p
theorem vP {t:TA} (h:PAd K f t ρ fun xs=>∃ ds,vj xs=some ds/\ds.length<=1000/\P (.tuple ds)):PEd K f (DK t) ρ P:=fun σ H Q e q =>
 h σ H _ e fun xs vs H1 g1 r1 ⟨ds,ea,hl,p⟩=>by
  have rs:=au r1 ea;refine⟨by rw [rs.length];exact Gj (yz hl),fun l hn=>?_⟩;have sm:=yf hn (.tup vs);have g2:Goes f H1 (upd H1 l (.tup vs)):=.of_same sm g1.2;exact q (.tuple ds) _ _ (g1.trans g2) (zS.mpr ⟨l,vs,rfl,.of (zL (fresh_ne g1.2 hn) zK),Reps.mono g2.1 ds vs rs⟩) p
theorem zr {γ:Type} {n:Nat} {pre:γ->List DV->Prop} {post:γ->PyData->Prop} {E:XK} {t:TA} (c:γ) (h:PAd K f t ρ fun xs=>xs.length=n/\pre c xs/\∀ r,post c r->P r):PEd K f (qY (spD K n pre post) [] E t) ρ P:=fun σ H Q e q =>
 h σ H _ e fun xs vs H1 g1 r1 ⟨hl,hp,k⟩=>by
  refine⟨f,xs,c,by rw [FT];exact r1,hl,g1.2,hp,fun r v H' g' r' p'=>q r v H' (g1.trans g') r' (k r p')⟩
theorem mq {r:List V->Hp->VK->Prop} {t:TA} (h:PAd K f t ρ fun xs=>∃ ds,vj xs=some ds/\∀ (vs:List V) (H:Hp) (Q:VK),FOk f H->Reps K (hide H f) ds vs->(∀ d u H',Goes f H H'->Rep K (hide H' f) d u->P d->Q u H')->r vs H Q):PEd K f (tCB r t) ρ P:=fun σ H Q e q =>
 h σ H _ e fun xs vs H1 g1 r1 ⟨ds,ea,k⟩=>k vs H1 Q g1.2 (au r1 ea) fun d u H' g' r' p'=>q d u H' (g1.trans g') r' p'
end
section
variable {K:EI} {f:Fx} {ρ:zw} {P:PyData->Prop} {B:Bool->Prop} {te ta tb tc:TE} {tt tu:TT}
theorem PTd.imp {B':Bool->Prop} (h:PTd K f tt ρ B) (i:∀ d,B d->B' d):PTd K f tt ρ B':=fun σ H Q e q=>h σ H Q e fun d H' g p=>q d H' g (i d p)
theorem yV (h:PEd K f te ρ fun d=>∃ k,d=.bool k/\B k):PTd K f (nM te) ρ B:=fun σ H Q e q=>h σ H _ e fun d v H' g r ⟨k,ed,p⟩=>by
 subst ed;exact⟨k,zW.mp r,q k H' g p⟩
theorem t_b (h:PEd K f te ρ fun d=>∃ k,d=.bool k/\B k):PTd K f (tB te) ρ B:=fun σ H Q e q=>h σ H _ e fun d v H' g r ⟨k,ed,p⟩=>by
 subst ed;exact⟨k,zW.mp r,q k H' g p⟩
theorem BA (h:PTd K f tt ρ fun c=>if c=true then PTd K f tu ρ B else B false):PTd K f (DE tt tu) ρ B:=fun σ H Q e q=>h σ H _ e fun c H1 g p=>by
 cases c with
 | true =>
  rw [Kw rfl] at p ⊢;exact p σ H1 Q (e.mono g) fun b H2 g2 p2=>q b H2 (g.trans g2) p2
 | false =>
  rw [Kv EG] at p ⊢;exact q false H1 g p
theorem Cn (h:PTd K f tt ρ fun c=>if c=true then B true else PTd K f tu ρ B):PTd K f (tOr tt tu) ρ B:=fun σ H Q e q=>h σ H _ e fun c H1 g p=>by
 cases c with
 | true =>
  rw [Kw rfl] at p ⊢;exact q true H1 g p
 | false =>
  rw [Kv EG] at p ⊢;exact p σ H1 Q (e.mono g) fun b H2 g2 p2=>q b H2 (g.trans g2) p2
theorem nU (h:PTd K f tt ρ fun c=>B (!c)):PTd K f (DF tt) ρ B:=fun σ H Q e q=>h σ H _ e fun c H1 g p=>q (!c) H1 g p
noncomputable def Eu:PyData->Option Bool
 | .none=>some false
 | .bool b=>some b
 | .int i=>some (i != 0)
 | .list ds=>some (!ds.isEmpty)
 | .tuple ds=>some (!ds.isEmpty)
 | _=>none
def xX (K:EI) (ta:TE):TT:=fun σ H Q=>ta σ H fun x H'=>∃ k,Cb K x H' k/\Q k H'
theorem Co {X:Cx} {a:Expr} (ha:PE X a ta) (he:∀ whole,isTrue a X.env whole=(do let v <- whole;standAt a.pos;holding [v] (truthy v))):PT X a (xX X.K ta):=uj ha he
theorem jN (h:PEd K f ta ρ fun d=>∃ k,Eu d=some k/\B k):PTd K f (xX K ta) ρ B:=fun σ H Q e q=>h σ H _ e fun d v H' g r ⟨k,ed,p⟩=>by
 refine⟨k,?_,q k H' g p⟩;cases d with
 | none=>rw [jM.mp r];cases ed;rfl
 | bool b=>rw [zW.mp r];cases ed;rfl
 | int i=>rw [zt.mp r];cases ed;rfl
 | str x=>cases ed
 | list ds =>
  obtain⟨a,xs,rfl,h1,h2⟩:=zG.mp r;cases ed;refine .inl ⟨xs,(zo _ _).seq h1,?_⟩;cases ds with
  | nil=>rw [zR.mp h2];rfl
  | cons d ds=>obtain⟨x,r,rfl,_⟩:=zC.mp h2;rfl
 | tuple ds =>
  obtain⟨a,xs,rfl,h1,h2⟩:=zS.mp r;cases ed;refine .inr (.inl ⟨xs,(zo _ _).seqT h1,?_⟩);cases ds with
  | nil=>rw [zR.mp h2];rfl
  | cons d ds=>obtain⟨x,r,rfl,_⟩:=zC.mp h2;rfl
 | dict _=>cases ed
theorem Cp (h:PTd K f tt ρ fun c=>if c=true then PEd K f ta ρ P else PEd K f tb ρ P):PEd K f (tIf tt ta tb) ρ P:=fun σ H Q e q=>h σ H _ e fun c H1 g p=>by
 cases c with
 | true=>rw [Kw rfl] at p ⊢;exact p σ H1 Q (e.mono g) fun d v H2 g2 r2 p2=>q d v H2 (g.trans g2) r2 p2
 | false=>rw [Kv EG] at p ⊢;exact p σ H1 Q (e.mono g) fun d v H2 g2 r2 p2=>q d v H2 (g.trans g2) r2 p2
theorem mw (h:PEd K f ta ρ fun x=>∃ c,x=.bool c/\if c=true then PEd K f tb ρ P else P (.bool false)):PEd K f (t7 ta tb) ρ P:=fun σ H Q e q=>h σ H _ e fun x v H1 g r ⟨c,ex,p⟩=>by
 subst ex;refine⟨c,zW.mp r,?_⟩;cases c with
 | true=>rw [Kw rfl] at p ⊢;exact p σ H1 Q (e.mono g) fun d v H2 g2 r2 p2=>q d v H2 (g.trans g2) r2 p2
 | false=>rw [Kv EG] at p ⊢;exact q _ _ H1 g (zW.mpr rfl) p
theorem DO (h:PEd K f ta ρ fun x=>∃ c,x=.bool c/\if c=true then P (.bool true) else PEd K f tb ρ P):PEd K f (DG ta tb) ρ P:=fun σ H Q e q=>h σ H _ e fun x v H1 g r ⟨c,ex,p⟩=>by
 subst ex;refine⟨c,zW.mp r,?_⟩;cases c with
 | true=>rw [Kw rfl] at p ⊢;exact q _ _ H1 g (zW.mpr rfl) p
 | false=>rw [Kv EG] at p ⊢;exact p σ H1 Q (e.mono g) fun d v H2 g2 r2 p2=>q d v H2 (g.trans g2) r2 p2
theorem Cq (h:PEd K f ta ρ fun x=>∃ c,x=.bool c/\P (.bool !c)):PEd K f (Bt ta) ρ P:=fun σ H Q e q=>h σ H _ e fun x v H1 g r ⟨c,ex,p⟩=>by
 subst ex;exact⟨c,zW.mp r,q _ _ H1 g (zW.mpr rfl) p⟩
theorem xY {g g':Int->Int->Bool} (h:PEd K f ta ρ fun x=>∃ i,x=.int i/\PEd K f tb ρ fun y=>∃ j,y=.int j/\if g i j=true then PEd K f tc ρ fun z=>∃ k,z=.int k/\P (.bool (g' j k)) else P (.bool false)) :
  PEd K f (ui (rI0 fun i j=>.bl (g i j)) (rI0 fun i j=>.bl (g' i j)) ta tb tc) ρ P:=fun σ H Q e q=>h σ H _ e fun x v H1 g1 r1 ⟨i,ex,p1⟩=>p1 σ H1 _ (e.mono g1) fun y w H2 g2 r2 ⟨j,ey,p2⟩=>by
 subst ex ey;refine⟨i,j,zt.mp r1,zt.mp r2,g i j,rfl,?_⟩;by_cases hg:g i j=true
 ·rw [Kw hg] at p2 ⊢;exact p2 σ H2 _ ((e.mono g1).mono g2) fun z u H3 g3 r3 ⟨k,ez,p3⟩=>by
   subst ez;exact⟨j,k,zt.mp r2,zt.mp r3,q _ _ H3 (g1.trans (g2.trans g3)) (zW.mpr rfl) p3⟩
 ·rw [Kv hg] at p2 ⊢;exact q _ _ H2 (g1.trans g2) (zW.mpr rfl) p2
theorem cM {t:TA} (h:PAd K f t ρ fun xs=>(∃ ds,xs=[.dat (.list ds)]/\P (.int ds.length)) \/ (∃ ds,xs=[.dat (.tuple ds)]/\P (.int ds.length))) :
  PEd K f (tCB (fun xs H Q=>∃ p ys,xs=[.ref p]/\(SqL K H p ys \/ SqT K H p ys)/\Q (.int ys.length) H) t) ρ P :=
 mq fun σ H Q e q=>h σ H Q e fun xs vs H' g r p=>by
  rcases p with⟨ds,rfl,p⟩ | ⟨ds,rfl,p⟩
  ·refine q _ vs H' g r ⟨_,rfl,fun vs H Q fo rs k=>?_⟩;obtain⟨x,r,rfl,h2,h3⟩:=zC.mp rs;rw [zR.mp h3];obtain⟨a,ys,rfl,s1,s2⟩:=zG.mp h2;exact⟨a,ys,rfl,.inl ((zo _ _).seq s1),k (.int ds.length) _ H (.refl fo) (zt.mpr (by rw [s2.length])) p⟩
  ·refine q _ vs H' g r ⟨_,rfl,fun vs H Q fo rs k=>?_⟩;obtain⟨x,r,rfl,h2,h3⟩:=zC.mp rs;rw [zR.mp h3];obtain⟨a,ys,rfl,s1,s2⟩:=zS.mp h2;exact⟨a,ys,rfl,.inr ((zo _ _).seqT s1),k (.int ds.length) _ H (.refl fo) (zt.mpr (by rw [s2.length])) p⟩
theorem Cr {t:TA} (h:PAd K f t ρ fun xs=>∃ ns:List Int,xs=[.dat (.list (ns.map .int))]/\ns≠[]/\∀ M,M∈ns->(∀ b∈ns,M<=b)->P (.int M)) :
  PEd K f (tCB (fun xs H Q=>∃ a ns,xs=[.ref a]/\SqL K H a (ns.map V.int)/\ns≠[]/\∀ M,M∈ns->(∀ b∈ns,M<=b)->Q (.int M) H) t) ρ P :=
 mq fun σ H Q e q=>h σ H Q e fun xs vs H' g r ⟨ns,ex,hne,p⟩=>by
  subst ex;refine q _ vs H' g r ⟨_,rfl,fun vs H Q fo rs k=>?_⟩;obtain⟨x,r,rfl,h2,h3⟩:=zC.mp rs;rw [zR.mp h3];obtain⟨a,ys,rfl,s1,s2⟩:=zG.mp h2;rw [s2.ints] at s1;exact⟨a,ns,rfl,(zo _ _).seq s1,hne,fun M h1 h2=>k (.int M) _ H (.refl fo) (zt.mpr rfl) (p M h1 h2)⟩
theorem Cs {t:TA} (h:PAd K f t ρ fun xs=>∃ ns:List Int,xs=[.dat (.list (ns.map .int))]/\ns≠[]/\∀ M,M∈ns->(∀ b∈ns,b<=M)->P (.int M)) :
  PEd K f (tCB (fun xs H Q=>∃ a ns,xs=[.ref a]/\SqL K H a (ns.map V.int)/\ns≠[]/\∀ M,M∈ns->(∀ b∈ns,b<=M)->Q (.int M) H) t) ρ P :=
 mq fun σ H Q e q=>h σ H Q e fun xs vs H' g r ⟨ns,ex,hne,p⟩=>by
  subst ex;refine q _ vs H' g r ⟨_,rfl,fun vs H Q fo rs k=>?_⟩;obtain⟨x,r,rfl,h2,h3⟩:=zC.mp rs;rw [zR.mp h3];obtain⟨a,ys,rfl,s1,s2⟩:=zG.mp h2;rw [s2.ints] at s1;exact⟨a,ns,rfl,(zo _ _).seq s1,hne,fun M h1 h2=>k (.int M) _ H (.refl fo) (zt.mpr rfl) (p M h1 h2)⟩
theorem Ct {g:Int->Int->Int} {t:TA} (h:PAd K f t ρ fun xs=>∃ i j,xs=[.dat (.int i),.dat (.int j)]/\P (.int (g i j))):PEd K f (tCB (fun xs H Q=>∃ i j,xs=[.int i,.int j]/\Q (.int (g i j)) H) t) ρ P :=
 mq fun σ H Q e q=>h σ H Q e fun xs vs H' g' r ⟨i,j,ex,p⟩=>by
  subst ex;refine q _ vs H' g' r ⟨_,rfl,fun vs H Q fo rs k=>?_⟩;obtain⟨x,r,rfl,h2,h3⟩:=zC.mp rs;obtain⟨y,r',rfl,h4,h5⟩:=zC.mp h3;rw [zR.mp h5,zt.mp h2,zt.mp h4];exact⟨i,j,rfl,k _ _ H (.refl fo) (zt.mpr rfl) p⟩
theorem Cu {g:Int->Int} {t:TA} (h:PAd K f t ρ fun xs=>∃ i,xs=[.dat (.int i)]/\P (.int (g i))):PEd K f (tCB (fun xs H Q=>∃ i,xs=[.int i]/\Q (.int (g i)) H) t) ρ P :=
 mq fun σ H Q e q=>h σ H Q e fun xs vs H' g' r ⟨i,ex,p⟩=>by
  subst ex;refine q _ vs H' g' r ⟨_,rfl,fun vs H Q fo rs k=>?_⟩;obtain⟨x,r,rfl,h2,h3⟩:=zC.mp rs;rw [zR.mp h3,zt.mp h2];exact⟨i,rfl,k _ _ H (.refl fo) (zt.mpr rfl) p⟩
theorem kl {t:TA} (h:PAd K f t ρ fun xs=>(∃ ds,xs=[.dat (.list ds)]/\P (.list ds)) \/ (∃ ds,xs=[.dat (.tuple ds)]/\P (.list ds))) :
  PEd K f (tCB (fun xs H Q=>∃ p ys,xs=[.ref p]/\(SqL K H p ys \/ SqT K H p ys)/\∀ l,H l=none->Q (.ref l) (upd H l (.lst ys))) t) ρ P :=
 mq fun σ H Q e q=>h σ H Q e fun xs vs H' g r p=>by
  rcases p with⟨ds,rfl,p⟩ | ⟨ds,rfl,p⟩
  ·refine q _ vs H' g r ⟨_,rfl,fun vs H Q fo rs k=>?_⟩;obtain⟨x,r,rfl,h2,h3⟩:=zC.mp rs;rw [zR.mp h3];obtain⟨a,ys,rfl,s1,s2⟩:=zG.mp h2;refine⟨a,ys,rfl,.inl ((zo _ _).seq s1),fun l hn=>?_⟩;have g2:Goes f H (upd H l (.lst ys)):=.of_same (yf hn _) fo;exact k (.list ds) _ _ g2 (zG.mpr ⟨l,ys,rfl,.of (zL (fresh_ne fo hn) zK),Reps.mono g2.1 ds ys s2⟩) p
  ·refine q _ vs H' g r ⟨_,rfl,fun vs H Q fo rs k=>?_⟩;obtain⟨x,r,rfl,h2,h3⟩:=zC.mp rs;rw [zR.mp h3];obtain⟨a,ys,rfl,s1,s2⟩:=zS.mp h2;refine⟨a,ys,rfl,.inr ((zo _ _).seqT s1),fun l hn=>?_⟩;have g2:Goes f H (upd H l (.lst ys)):=.of_same (yf hn _) fo;exact k (.list ds) _ _ g2 (zG.mpr ⟨l,ys,rfl,.of (zL (fresh_ne fo hn) zK),Reps.mono g2.1 ds ys s2⟩) p
end
section
variable {K:EI} {f:Fx} {ρ:zw} {D:DEnds} {te ta tb:TE} {tt:TT} {ts tu:TS}
theorem jO (p:D.nx ρ):PSd K f iS ρ D:=fun σ H E e n _ _ _=>n ρ σ H (.refl e.fd) e p
theorem yg (h:PSd K f ts ρ { D with nx:=fun ρ'=>PSd K f tu ρ' D }):PSd K f (bo ts tu) ρ D:=fun σ H E e n r b c =>
 h σ H { E with nx:=tu E } e (fun ρ' σ' H' g e' p=>p σ' H' E e' (fun ρ'' σ'' H'' g' e'' p'=>n ρ'' σ'' H'' (g.trans g') e'' p') (fun d v H'' g' r' p'=>r d v H'' (g.trans g') r' p') (fun ρ'' σ'' H'' g' e'' p'=>b ρ'' σ'' H'' (g.trans g') e'' p') (fun ρ'' σ'' H'' g' e'' p'=>c ρ'' σ'' H'' (g.trans g') e'' p')) r b c
theorem yI (h:PEd K f te ρ D.rt):PSd K f (iU te) ρ D:=fun σ H E e n r b c=>h σ H _ e r
theorem dS (h:PEd K f te ρ fun _=>D.nx ρ):PSd K f (iT te) ρ D:=fun σ H E e n r b c=>h σ H _ e fun d v H' g _ p=>n ρ σ H' g (e.mono g) p
theorem aX (h:PTd K f tt ρ fun b=>if b=true then PSd K f ts ρ D else PSd K f tu ρ D):PSd K f (rL tt ts tu) ρ D:=fun σ H E e n r b c=>h σ H _ e fun k H1 g p=>by
 cases k with
 | true =>
  rw [Kw rfl] at p ⊢;exact p σ H1 E (e.mono g) (fun ρ'' σ'' H'' g' e'' p'=>n ρ'' σ'' H'' (g.trans g') e'' p') (fun d v H'' g' r' p'=>r d v H'' (g.trans g') r' p') (fun ρ'' σ'' H'' g' e'' p'=>b ρ'' σ'' H'' (g.trans g') e'' p') (fun ρ'' σ'' H'' g' e'' p'=>c ρ'' σ'' H'' (g.trans g') e'' p')
 | false =>
  rw [Kv EG] at p ⊢;exact p σ H1 E (e.mono g) (fun ρ'' σ'' H'' g' e'' p'=>n ρ'' σ'' H'' (g.trans g') e'' p') (fun d v H'' g' r' p'=>r d v H'' (g.trans g') r' p') (fun ρ'' σ'' H'' g' e'' p'=>b ρ'' σ'' H'' (g.trans g') e'' p') (fun ρ'' σ'' H'' g' e'' p'=>c ρ'' σ'' H'' (g.trans g') e'' p')
def PGd (K:EI) (f:Fx) (g:TG) (d:PyData) (ρ:zw) (R:zw->Prop):Prop:=∀ (σ:St) (H:Hp) (v:V) (Q:St->Hp->Prop),EnvOk K f ρ σ H->Rep K (hide H f) d v->(∀ ρ' σ' H',Goes f H H'->EnvOk K f ρ' σ' H'->R ρ'->Q σ' H')->g v σ H Q
def uw (K:EI) (f:Fx) (g:TGs) (ds:List PyData) (ρ:zw) (R:zw->Prop):Prop:=∀ (σ:St) (H:Hp) (vs:List V) (Q:St->Hp->Prop),EnvOk K f ρ σ H->Reps K (hide H f) ds vs->(∀ ρ' σ' H',Goes f H H'->EnvOk K f ρ' σ' H'->R ρ'->Q σ' H')->g vs σ H Q
theorem zp {i:Nat} {d:PyData} {R:zw->Prop} (h:R (ρ.set i (some (.dat d)))):PGd K f (jD i) d ρ R:=fun σ H v Q e r q=>q _ _ H (.refl e.fd) (e.set i (x:=.dat d) r) h
theorem yx {R:zw->Prop} (h:R ρ):uw K f xN [] ρ R:=fun σ H vs Q e r q=>⟨zR.mp r,q ρ σ H (.refl e.fd) e h⟩
theorem zy {g:TG} {gs:TGs} {d:PyData} {ds:List PyData} {R:zw->Prop} (h:PGd K f g d ρ fun ρ'=>uw K f gs ds ρ' R):uw K f (dH g gs) (d :: ds) ρ R:=fun σ H vs Q e r q=>by
 obtain⟨x,r',rfl,h2,h3⟩:=zC.mp r;exact⟨x,r',rfl,h σ H x _ e h2 fun ρ' σ' H' g' e' p=>p σ' H' r' Q e' (Reps.mono g'.1 ds r' h3) fun ρ'' σ'' H'' g'' e'' p'=>q ρ'' σ'' H'' (g'.trans g'') e'' p'⟩
theorem ju {n:Nat} {gs:TGs} {ds:List PyData} {R:zw->Prop} (hn:ds.length=n) (h:uw K f gs ds ρ R):PGd K f (t8 K n gs) (.tuple ds) ρ R:=fun σ H v Q e r q=>by
 obtain⟨a,xs,rfl,h1,h2⟩:=zS.mp r;exact⟨a,xs,rfl,(zo _ _).seqT h1,by rw [h2.length];exact hn,h σ H xs Q e h2 q⟩
theorem yk {g:TG} (h:PEd K f te ρ fun d=>PGd K f g d ρ D.nx):PSd K f (aH te g) ρ D:=fun σ H E e n r b c =>
 h σ H _ e fun d v H1 g1 r1 p1=>p1 σ H1 v _ (e.mono g1) r1 fun ρ' σ' H' g' e' p'=>n ρ' σ' H' (g1.trans g') e' p'
end
section
variable {K:EI} {f:Fx} {ρ:zw} {D:DEnds} {te ta tb:TE} {tt:TT} {ts tu:TS} {g:TG}
theorem my {t:TA} (h:PAd K f t ρ fun xs=>∃ ds,xs=[.dat (.list ds)]/\∃ J:Nat->zw->Prop,J 0 ρ /\
   (∀ (i:Nat) d ρ',ds[i]?=some d->J i ρ'->PGd K f g (.tuple [.int i,d]) ρ' fun ρ2=>PSd K f ts ρ2 { D with nx:=J (i+1),ct:=J (i+1),bk:=D.nx })/\∀ ρ',J ds.length ρ'->D.nx ρ') :
  PSd K f (ud (nS K t) g ts) ρ D:=fun σ H E e n r b c=>h σ H _ e fun xs vs H1 g1 r1 ⟨ds,ex,J,j0,js,jd⟩=>by
 subst ex;cases r1 with
 | cons rx r' =>
  cases r';obtain⟨a,xs,rfl,h1,h2⟩:=zG.mp rx;have hl:=h2.length;refine⟨a,rfl,⟨xs,(zo _ _).seq h1⟩,uu (K:=K) (a:=a) (xs:=xs) (fun i σ' H'=>∃ ρ',EnvOk K f ρ' σ' H'/\Goes f H H'/\Goes f H1 H'/\J i ρ') ⟨ρ,e.mono g1,g1,.refl g1.2,j0⟩ (fun i σ' H' _ ⟨ρ',e',g',g1',p⟩=>(zo _ _).seq (g1'.1.seq h1)) (fun i y σ' H' tp hy ⟨ρ',e',g',g1',p⟩ hn=>?_) fun σ' H' ⟨ρ',e',g',_,p⟩=>n ρ' σ' H' g' e' (jd ρ' (by rw [<-hl];exact p))⟩;have hi:i<ds.length:=by rw [<-hl];exact (EH.mp hy).1
  obtain⟨z,hz,rz⟩:=h2.get (ED hi);rw [hy] at hz;cases hz;have gn:Goes f H' (upd H' tp (.tup [.int i,y])):=.of_same (yf hn _) e'.fd;have rt:Rep K (hide (upd H' tp (.tup [.int i,y])) f) (.tuple [.int i,ds[i]]) (.ref tp):=zS.mpr ⟨tp,_,rfl,.of (zL (fresh_ne e'.fd hn) zK),.cons' (zt.mpr rfl) (.cons' (Rep.mono gn.1 _ _ (Rep.mono g1'.1 _ _ rz)) .nil')⟩;refine js i _ ρ' (ED hi) p σ' _ _ _ (e'.mono gn) rt fun ρ2 σ2 H2 g2' e2 p2=>?_;have g2:=gn.trans g2';exact p2 σ2 H2 _ e2 (fun ρ3 σ3 H3 g3 e3 p3=>⟨ρ3,e3,g'.trans (g2.trans g3),g1'.trans (g2.trans g3),p3⟩) (fun d v H3 g3 r3 p3=>r d v H3 (g'.trans (g2.trans g3)) r3 p3) (fun ρ3 σ3 H3 g3 e3 p3=>n ρ3 σ3 H3 (g'.trans (g2.trans g3)) e3 p3) (fun ρ3 σ3 H3 g3 e3 p3=>⟨ρ3,e3,g'.trans (g2.trans g3),g1'.trans (g2.trans g3),p3⟩)
end
noncomputable def frD (fr:List Nat) (ρ:zw):zw:=fr.map fun j=>(ρ[j]?).getD none
noncomputable def b9 (own:Nat) (fr:List Nat) (ρ:zw):zw:=Ha own none++frD fr ρ
noncomputable abbrev Fx.with (f:Fx) (D:EL):Fx:=⟨f.f,D :: f.M⟩
section
variable {K:EI} {f:Fx} {ρ:zw} {σ:St} {H H':Hp} {D:EL} {o:HO}
theorem r6 {own:Nat} {fr:List Nat} (e:EnvOk K f ρ σ H):EnvOk K f (b9 own fr ρ) (jU own fr σ) H:=by
 refine⟨by unfold b9 jU frD;simp,fun i x h=>?_,e.fd⟩;unfold b9 frD at h;unfold jU;by_cases hi:i<own
 ·rw [ER (by simpa using hi),Hb] at h;split at h <;> cases h
 ·rw [EX (by simpa using hi)] at h ⊢;simp only [Iw,EO] at h ⊢;cases hj:fr[i - own]? with
  | none=>rw [hj] at h;cases h
  | some j =>
   rw [hj] at h;have h':(ρ[j]?).getD none=some x:=Option.some.inj h;have hρ:ρ[j]?=some (some x):=by
    cases q:ρ[j]? with
    | none=>rw [q] at h';cases h'
    | some w=>rw [q] at h';exact congrArg some h'
   obtain⟨v,h1,h2⟩:=e.get j x hρ;exact⟨v,by simp [h1],h2⟩
theorem jc:hide (upd H D o) (f.with D)=hide H (f.with D):=by
 funext b
 unfold hide;by_cases hb:f.f=some b \/ b∈D :: f.M
 ·rw [Kw hb,Kw hb]
 ·rw [Kv hb,Kv hb];have:b≠D:=fun z=>hb (.inr (z▸ET));exact zM this
theorem yY:Same (hide H (f.with D)) (hide H f):=fun b o h=>by
 obtain⟨h1,h2⟩:=zY h;exact zL (fun z=>h1 (z.elim .inl fun z=>.inr (EM _ z))) h2
theorem bx (hn:H D=none):Same (hide H f) (hide (upd H D o) (f.with D)):=fun b u h=>by
 obtain⟨h1,h2⟩:=zY h;have hb:b≠D:=ya h2 hn;exact zL (fun z=>z.elim (fun z=>h1 (.inl z)) fun z=>(EW.mp z).elim hb fun z=>h1 (.inr z)) (by rw [zM hb];exact h2)
theorem Cv (h:FOk f H) (hn:H D=none):FOk (f.with D) (upd H D o) :=
 ⟨fun p e=>let⟨a,b,h1,h2⟩:=h.fd p e;⟨a,b,by rw [zM (ya h1 hn)];exact h1,h2⟩,fun b hb=>by
  rcases EW.mp hb with rfl | hb
  ·exact⟨_,zK⟩
  ·obtain⟨o',h1⟩:=h.mm b hb;exact⟨o',by rw [zM (ya h1 hn)];exact h1⟩,fun p e hp=>by
  rcases EW.mp hp with rfl | hp
  ·exact fresh_ne h hn (.inl e)
  ·exact h.nm p e hp⟩
theorem Cw (e:EnvOk K f ρ σ H) (hn:H D=none):EnvOk K (f.with D) ρ σ (upd H D o) :=
 ⟨e.len,fun i x h=>let⟨v,h1,h2⟩:=e.get i x h;⟨v,h1,by
  cases x with
  | dat d=>exact Rep.mono (bx hn) d v h2
  | feed=>exact h2
  | own k =>
   obtain⟨p,h3,h4⟩:=h2;refine⟨p,?_,h4⟩;show (D :: f.M).reverse[k]?=some p;rw [FL,ER (EH.mp h3).1];exact h3
  | exc C =>
   obtain⟨a,h3,h4⟩:=h2;exact⟨a,h3,bx hn _ _ h4⟩
  | mon φ=>exact fun H' s=>h2 H' ((bx hn).trans s)⟩,Cv e.fd hn⟩
theorem xZ (hD:f.f≠some D) (e:EnvOk K (f.with D) ρ σ H):EnvOk K (f.with D) ρ σ (upd H D o) :=
 ⟨e.len,fun i x h=>let⟨v,h1,h2⟩:=e.get i x h;⟨v,h1,by
  cases x with
  | dat d =>
   have h2':Rep K (hide H (f.with D)) d v:=h2;show Rep K (hide (upd H D o) (f.with D)) d v;rw [jc];exact h2'
  | feed=>exact h2
  | own k=>exact h2
  | exc C =>
   obtain⟨a,h3,h4⟩:=h2;refine⟨a,h3,?_⟩;rw [jc];exact h4
  | mon φ =>
   intro H' s;rw [jc] at s;exact h2 H' s⟩,⟨fun p ep=>let⟨a,b,h1,h2⟩:=e.fd.fd p ep;⟨a,b,by rw [zM (fun z=>hD (by rw [<-z];exact ep))];exact h1,h2⟩,fun b hb=>by
   by_cases hb':b=D
   ·subst hb';exact⟨_,zK⟩
   ·rw [zM hb'];exact e.fd.mm b hb,e.fd.nm⟩⟩
end
section
variable {K:EI} {f:Fx} {ρ:zw} {P:PyData->Prop} {te tl:TE} {tt:TT} {g:TG} {own:Nat} {fr:List Nat}
structure CSt (K:EI) (f:Fx) (D:EL) (H2:Hp) (ρ':zw) (es:List PyData) (σ:St) (H:Hp):Prop where
 env:EnvOk K (f.with D) ρ' σ H
 sm:Same (hide H2 (f.with D)) (hide H (f.with D))
 kp:∀ b∈f.M,H b=H2 b
 lst:∃ vs,H D=some (.lst vs)/\Reps K (hide H (f.with D)) es vs
theorem CSt.go {D:EL} {H2 H H':Hp} {ρ':zw} {es:List PyData} {σ:St} (c:CSt K f D H2 ρ' es σ H) (gg:Goes (f.with D) H H') {ρ2:zw} {σ2:St} (e2:EnvOk K (f.with D) ρ2 σ2 H'):CSt K f D H2 ρ2 es σ2 H' :=
 ⟨e2,c.sm.trans gg.sm,fun b hb=>(gg.kp b (EM _ hb)).trans (c.kp b hb),let⟨vs,h1,h2⟩:=c.lst;⟨vs,(gg.kp D ET).trans h1,Reps.mono gg.sm es vs h2⟩⟩
theorem CSt.put {D:EL} {H2 H:Hp} {ρ':zw} {es:List PyData} {σ:St} {d:PyData} {v:V} {vs:List V} (hD:f.f≠some D) (hM:D∉f.M) (c:CSt K f D H2 ρ' es σ H) (h1:H D=some (.lst vs)) (h2:Reps K (hide H (f.with D)) es vs) (r:Rep K (hide H (f.with D)) d v) :
  CSt K f D H2 ρ' (es++[d]) σ (upd H D (.lst (vs++[v]))) :=
 ⟨xZ hD c.env,by rw [jc];exact c.sm,fun b hb=>(zM (fun (z:b=D)=>hM (z▸hb))).trans (c.kp b hb),⟨_,zK,by rw [jc];exact h2.snoc r⟩⟩
theorem r8 {D:EL} {H2 H:Hp} {ρ':zw} {es:List PyData} {σ:St} {d:PyData} {v:V} {W:St->Hp->Prop} {R:zw->List PyData->Prop} (hD:f.f≠some D) (hM:D∉f.M) (c:CSt K f D H2 ρ' es σ H) (hl:es.length<1000) (r:Rep K (hide H (f.with D)) d v)
  (h:PGd K (f.with D) g d ρ' fun ρ2=>PTd K (f.with D) tt ρ2 fun b=>if b=true then PEd K (f.with D) te ρ2 fun e=>R ρ2 (es++[e]) else R ρ2 es)
  (hW:∀ ρ2 es2 σ2 H',CSt K f D H2 ρ2 es2 σ2 H'->R ρ2 es2->W σ2 H') :
  g v σ H fun σ2 H3=>tt σ2 H3 fun b H4=>if b=true then bu D te σ2 H4 W else W σ2 H4:=by
 refine h σ H v _ c.env r fun ρ2 σ2 H3 g3 e3 p3=>?_;have c3:=c.go g3 e3;refine p3 σ2 H3 _ e3 fun b H4 g4 p4=>?_;have c4:=c3.go g4 (e3.mono g4);cases b with
 | false =>
  rw [Kv EG] at p4 ⊢;exact hW _ _ _ _ c4 p4
 | true =>
  rw [Kw rfl] at p4 ⊢;refine p4 σ2 H4 _ (e3.mono g4) fun e u H5 g5 r5 p5=>?_;have c5:=c4.go g5 ((e3.mono g4).mono g5);obtain⟨vs,h1,h2⟩:=c5.lst;exact⟨vs,h1,yz (by rw [h2.length];omega),hW _ _ _ _ (c5.put hD hM h1 h2 r5) p5⟩
theorem km {D:EL} {H1 H:Hp} {ρ':zw} {es:List PyData} {σ σ':St} (hn:H1 D=none) (fo:FOk f H1) (c:CSt K f D (upd H1 D (.lst [])) ρ' es σ H):Goes f H1 H/\Rep K (hide H f) (.list es) (.ref D):=by
 obtain⟨vs,h1,h2⟩:=c.lst;have nD:=fresh_ne fo hn;refine⟨⟨((bx hn).trans c.sm).trans yY,⟨c.env.fd.fd,fun b hb=>c.env.fd.mm b (EM _ hb),fun p e hp=>c.env.fd.nm p e (EM _ hp)⟩,fun b hb=>?_⟩,zG.mpr ⟨D,vs,rfl,.of (zL nD h1),Reps.mono yY es vs h2⟩⟩;rw [c.kp b hb,zM];obtain⟨o,h3⟩:=fo.mm b hb;exact ya h3 hn
theorem dU {D:EL} {H1:Hp} {σ:St} (hn:H1 D=none) (e:EnvOk K f ρ σ H1):CSt K f D (upd H1 D (.lst [])) (b9 own fr ρ) [] (jU own fr σ) (upd H1 D (.lst [])) :=
 ⟨Cw (r6 e) hn,Same.refl _,fun _ _=>rfl,⟨[],zK,.nil'⟩⟩
theorem x8 {t:TA} (h:PAd K f t ρ fun xs=>∃ j:Int,xs=[.dat (.int j)]/\j<=1000/\-1000<=j/\∃ R:Nat->zw->List PyData->Prop,R 0 (b9 own fr ρ) [] /\
   (∀ D (i:Nat) ρ' es,(i:Int)<j->R i ρ' es->PGd K (f.with D) g (.int i) ρ' fun ρ2=>PTd K (f.with D) tt ρ2 fun b=>if b=true then PEd K (f.with D) te ρ2 fun e=>R (i+1) ρ2 (es++[e]) else R (i+1) ρ2 es) /\
   (∀ i ρ' es,R i ρ' es->es.length<=i)/\∀ ρ' es,R j.toNat ρ' es->P (.list es)) :
  PEd K f (vO (nL t) own fr g tt fun D=>bu D te) ρ P:=fun σ H Q e q=>h σ H _ e fun xs vs H1 g1 r1 ⟨j,ex,b1,b2,R,r0,rs,rl,re⟩=>by
 subst ex;cases r1 with
 | @cons _ v0 _ _ rx r' =>
  cases r';have rx':Rep K (hide H1 f) (.int j) v0:=rx;refine⟨j,by rw [zt.mp rx'],by omega,by omega,fun D hn=>?_⟩;have nD:=fresh_ne g1.2 hn;have hD:f.f≠some D:=fun z=>nD (.inl z);have hM:D∉f.M:=fun z=>nD (.inr z);have e1:=e.mono g1;refine⟨fun i m σ' H'=>∃ ρ' es,CSt K f D (upd H1 D (.lst [])) ρ' es σ' H'/\R i ρ' es/\i<=j.toNat/\m+i=j.toNat,⟨j.toNat,_,[],dU hn e1,r0,Ft _,rfl⟩,fun i m σ' H' ⟨ρ',es,c,p,hi,hm⟩=>?_⟩;by_cases hlt:i<j.toNat
  ·refine .inr ⟨hlt,fun x H3 hy=>?_⟩;obtain⟨rfl,rfl⟩:=hy;have hz:(0:Int)+(i:Int)=(i:Int):=Int.zero_add _;rw [hz];refine r8 (R:=R (i+1)) hD hM c (by have:=rl i ρ' es p;omega) ((zt (K:=K)).mpr rfl) (rs D i ρ' es (by omega) p) fun ρ2 es2 σ2 H4 c2 p2=>?_;exact⟨m - 1,by omega,ρ2,es2,c2,p2,by omega,by omega⟩
  ·have ei:i=j.toNat:=by omega
   subst ei;obtain⟨ge,rep⟩:=km (σ':=σ') hn g1.2 c;exact .inl ⟨EN _,q _ _ H' (g1.trans ge) rep (re ρ' es p)⟩
theorem kn {t:TA} (h:PAd K f t ρ fun xs=>∃ j:Int,xs=[.dat (.int j)]/\j<=1000/\-1000<=j/\∃ R:Nat->PyData->Prop,
   (∀ D (i:Nat),(i:Int)<j->PEd K (f.with D) te (some (.dat (.int i)) :: frD fr ρ) (R i))/\∀ es:List PyData,es.length=j.toNat->(∀ (i:Nat) e,es[i]?=some e->R i e)->P (.list es)) :
  PEd K f (vO (nL t) 1 fr (jD 0) Cj fun D=>bu D te) ρ P :=
 x8 fun σ H Q e q=>h σ H Q e fun xs vs H' g' r' ⟨j,ex,b1,b2,R,rs,re⟩=>by
  refine q xs vs H' g' r' ⟨j,ex,b1,b2,fun i ρ' es=>(∃ x,ρ'=x :: frD fr ρ)/\es.length=i/\∀ (k:Nat) e,es[k]?=some e->R k e,⟨⟨none,rfl⟩,rfl,fun k e h=>by simp at h⟩,fun D i ρ' es hi p=>?_,fun i ρ' es p=>HA p.2.1,fun ρ' es p=>re es p.2.1 p.2.2⟩;obtain⟨⟨x,rfl⟩,hl,hp⟩:=p;refine zp ?_;intro σ H Q e q;refine q true H (.refl e.fd) ?_;dsimp only;rw [Kw rfl];refine (rs D i hi).imp fun d hd=>⟨⟨_,rfl⟩,by rw [EY,hl];rfl,fun k e hk=>?_⟩;by_cases hkl:k<es.length
  ·rw [ER hkl] at hk;exact hp k e hk
  ·rw [EX (by omega)] at hk;have hk0:k - es.length=0:=by
    have:=(EH.mp hk).1;simp at this;omega
   rw [hk0] at hk;cases hk;have:k=i:=by omega
   subst this;exact hd
end
section
variable {K:EI} {f:Fx} {ρ:zw} {D:DEnds} {te:TE} {i:Nat}
theorem ko {σ:St} {H:Hp} {p:EL} {a b:Int} (e:EnvOk K f ρ σ H) (ef:f.f=some p) (h0:0<=a) (h1:0<=b) (h2:b<2147483647):Goes f H (upd H p (.lst [.int a,.int b])) :=
 have hM:=e.fd.nm p ef
 ⟨fun x o h=>by
  obtain⟨n,hx⟩:=zY h;exact zL n (by rw [zM (fun z=>n (.inl (by rw [z];exact ef)))];exact hx),
 ⟨fun q eq=>by
   rw [ef] at eq;cases eq;exact⟨a,b,zK,h0,h1,h2⟩,fun x hx=>by
   by_cases hxp:x=p
   ·subst hxp;exact absurd hx hM
   ·rw [zM hxp];exact e.fd.mm x hx,e.fd.nm⟩,
fun x hx=>zM (fun z=>hM (z▸hx))⟩
theorem x9 (hi:ρ[i]?=some (some .feed)) (h:PEd K f te ρ fun d=>∃ a:Int,d=.int a/\0<=a/\D.nx ρ):PSd K f (aH te (rM (yi i) (tC (.int 0)) i6)) ρ D:=fun σ H E e n r b c=>h σ H _ e fun d v H1 g1 r1 ⟨a,ed,h0,p⟩=>by
 subst ed;obtain⟨u,h1,q,ef,eu⟩:=e.get i _ hi;obtain⟨a',b',hf,c1,c2,c3⟩:=g1.2.fd q ef;refine⟨u,h1,q,_,0,0,eu,rfl,hf,rfl,?_⟩;rw [zt.mp r1];have g2:Goes f H1 (upd H1 q (.lst [.int a,.int b'])):=ko (e.mono g1) ef h0 c2 c3;exact n ρ σ _ (g1.trans g2) ((e.mono g1).mono g2) p
theorem Aa (hi:ρ[i]?=some (some .feed)) (h:PEd K f te ρ fun d=>∃ a:Int,d=.int a/\0<=a/\a<2147483647/\D.nx ρ):PSd K f (aH te (rM (yi i) (tC (.int 1)) i6)) ρ D:=fun σ H E e n r b c=>h σ H _ e fun d v H1 g1 r1 ⟨a,ed,h0,h0',p⟩=>by
 subst ed;obtain⟨u,h1,q,ef,eu⟩:=e.get i _ hi;obtain⟨a',b',hf,c1,c2,c3⟩:=g1.2.fd q ef;refine⟨u,h1,q,_,1,1,eu,rfl,hf,rfl,?_⟩;rw [zt.mp r1];have g2:Goes f H1 (upd H1 q (.lst [.int a',.int a])):=ko (e.mono g1) ef c1 h0 h0';exact n ρ σ _ (g1.trans g2) ((e.mono g1).mono g2) p
end
theorem bz {X:Cx} {x:Str} {i:Int} {t:Tok} {pos:Pos} (hg:Gl X x) (hm:X.mg x=some (.int i t)) (hd:(x == ("__debug__":Str))=false:=by decide):PE X (.Name x pos) (tC (.int i)):=xK hg hm ⟨t,rfl⟩ hd
noncomputable def qU (N:List Str) (xs:List DV):zw:=xs.map some++Ha (N.length - xs.length) none
theorem qZ {K:EI} {f:Fx} {H:Hp} {N:List Str} {xs:List DV} {vs:List V} (r:RepVs K f H xs vs) (fo:FOk f H):EnvOk K f (qU N xs) (start N vs) H:=by
 have hl:=r.length;refine⟨by unfold qU start;simp [hl],fun i x h=>?_,fo⟩;unfold qU at h;unfold start;have get:∀ {xs:List DV} {vs:List V} {i:Nat} {x:DV},RepVs K f H xs vs->xs[i]?=some x->∃ v,vs[i]?=some v/\RepV K f H x v:=by
  intro xs vs i x r
  induction r generalizing i with
  | nil=>intro h;simp at h
  | cons r1 r2 ih =>
   intro h;cases i with
   | zero=>simp at h;subst h;exact⟨_,rfl,r1⟩
   | succ i=>simp at h;obtain⟨v,h1,h2⟩:=ih h;exact⟨v,by simpa using h1,h2⟩
 by_cases hi:i<xs.length
 ·rw [ER (by simpa using hi),EO] at h;cases q:xs[i]? with
  | none=>rw [q] at h;cases h
  | some y =>
   rw [q] at h;cases h;obtain⟨v,h1,h2⟩:=get r q;exact⟨v,by rw [ER (by simp;omega),EO,h1];rfl,h2⟩
 ·rw [EX (by simpa using hi),Hb] at h;split at h <;> cases h
structure Def (K:EI) (mg:Str->Option Value) (x:Str) (st:Stmt) (ps:List Str):Prop where
 ex:∃ (f:EL) (fd:FuncData),Fun K x x st f fd/\Binds K fd ps []/\mg x=some (.ref f)
structure FnIn (P:Program) (w:World) (K:EI) (mg:Str->Option Value) (base:Heap) (k:Nat) (x:Str) (ps:List Str) (sp:Sp):Prop where
 ex:∃ (f:EL) (fd:FuncData),FnOk P w K mg base CX0 k f fd ps sp/\mg x=some (.ref f)/\F9 K (.ref f)=true/\Binds K fd ps []
section
variable {P:Program} {w:World} {K:EI} {mg:Str->Option Value} {base:Heap} {j k n:Nat} {x:Str} {st:Stmt} {ps N:List Str} {γ:Type} {pre:γ->List DV->Prop} {post:γ->PyData->Prop} {sp:Sp}
theorem FnIn.mono (h:FnIn P w K mg base j x ps sp) (hk:j<=k):FnIn P w K mg base k x ps sp :=
 let⟨f,fd,a,b,c,d⟩:=h.ex;⟨f,fd,a.mono hk,b,c,d⟩
theorem Def.ok (F:Def K mg x st ps) (S:FnScope N ps (zi st)) (hn:ps.length=n)
  (h:∀ (fa:EL) (cdv:Value) (A:Around) (outer:List Env) (s:Shared) (H:Hp) (E:XK),Room k (A.deeper (envOfC x (zi st) s.heap.objs.size fa cdv)) ->
   ∃ t,PSs (ye CX0 P w K mg base N x (zi st) fa cdv A outer s H E).nox (yH st) t/\∀ (f:Fx) (xs:List DV) (c:γ),xs.length=n->pre c xs->PSd K f t (qU N xs) { nx:=fun _=>post c .none,rt:=post c }) :
  FnIn P w K mg base (k+1) x ps (spD K n pre post):=by
 obtain⟨fa,fd,F1,F2,F3⟩:=F.ex;refine⟨fa,fd,F1.ok S (fun vs H Q E h=>?_) (fun cdv A outer s H vs Q E hr hs=>?_),F3,F1.kp,F2⟩
 ·obtain⟨f,xs,c,r,hl,_⟩:=h;rw [r.length,hl,hn]
 ·obtain⟨f,xs,c,r,hl,fo,hp,q⟩:=hs;obtain⟨t,h1,h2⟩:=h fa cdv A outer s H E hr;exact⟨t,h1,h2 f xs c hl hp (start N vs) H _ (qZ r fo) (fun _ _ H' g _ p=>q .none _ H' g (jM.mpr rfl) p) (fun d v H' g r p=>q d v H' g r p) (fun _ _ _ _ _ z=>z.elim) (fun _ _ _ _ _ z=>z.elim)⟩
theorem Def.raw (F:Def K mg x st ps) (S:FnScope N ps (zi st)) (len:∀ vs H Q E,sp vs H Q E->vs.length=ps.length)
  (h:∀ (fa:EL) (cdv:Value) (A:Around) (outer:List Env) (s:Shared) (H:Hp) (vs:List V) (Q:VK) (E:XK),Room k (A.deeper (envOfC x (zi st) s.heap.objs.size fa cdv))->sp vs H Q E ->
   ∃ t,PSs (ye CX0 P w K mg base N x (zi st) fa cdv A outer s H E).nox (yH st) t/\t { nx:=fun _ H'=>Q .non H',rt:=Q } (start N vs) H) :
  FnIn P w K mg base (k+1) x ps sp:=by
 obtain⟨fa,fd,F1,F2,F3⟩:=F.ex;exact⟨fa,fd,F1.ok S len (fun cdv A outer s H vs Q E hr hs=>h fa cdv A outer s H vs Q E hr hs),F3,F1.kp,F2⟩
theorem zf {X:Cx} {e:Expr} {es:List Expr} {t:TA} {p pos:Pos} (G:FnIn X.prog X.w X.K X.mg X.base k x ps sp) (hr:Room k X.A) (hg:Gl X x) (ha:PA X (e :: es) t) (hdb:(x == ("__debug__":Str))=false:=by decide)
  (he:FA (e :: es) X.env=(false,eval e X.env) :: FA es X.env:=by rfl) (hpl:(backTo pos (FA es X.env)).any (·.1)=false:=by rfl):PE X (.Call (.Name x p) (e :: es) [] pos) (qY sp [] E0 t):=by
 obtain⟨f,fd,a,b,c,d⟩:=G.ex;exact xQ a hr hg b c d .nil DL ha hdb he hpl
end
section
variable {K:EI} {f:Fx} {ρ:zw} {σ:St} {H:Hp} {E:Ends} {ts tu:TS} {D:DEnds}
theorem ux (h:PSd K f ts ρ D) (e:EnvOk K f ρ σ H) (hn:∀ ρ' σ' H',Goes f H H'->EnvOk K f ρ' σ' H'->D.nx ρ'->tu E σ' H') (hr:∀ d v H',Goes f H H'->Rep K (hide H' f) d v->D.rt d->E.rt v H') (hb:∀ ρ,¬ D.bk ρ) (hc:∀ ρ,¬ D.ct ρ):bo ts tu E σ H :=
 h σ H { E with nx:=tu E } e hn hr (fun ρ' _ _ _ _ p=>(hb ρ' p).elim) (fun ρ' _ _ _ _ p=>(hc ρ' p).elim)
theorem uy {ta:TA} {Q:VK} {R:List PyData->Prop} (h:PAd K f ta ρ fun xs=>∃ ds,vj xs=some ds/\ds.length<=1000/\R ds) (e:EnvOk K f ρ σ H)
  (q:∀ p ds vs H1,Goes f H H1->H1 p=none->Reps K (hide H1 f) ds vs->R ds->Q (.ref p) (upd H1 p (.lst vs))):uk ta σ H Q :=
 h σ H _ e fun xs vs H1 g1 r1 ⟨ds,ea,hl,p⟩=>by
  have rs:=au r1 ea;exact⟨by rw [rs.length];exact Gj (yz hl),fun l hn=>q l ds vs H1 g1 hn rs p⟩
end
section
variable {X:Cx} {e st:Expr} {te ts:TE} {pos p2:Pos}
def Cy (K:EI) (te ts:TE):TE:=fun σ H Q=>te σ H fun x H1=>ts σ H1 fun y H2=>∃ a xs,x=.ref a/\y=.int (-1)/\SqL K H2 a xs/\∀ p,H2 p=none->Q (.ref p) (upd H2 p (.lst xs.reverse))
theorem Cz (he:PE X e te) (hst:PE X st ts):PE X (.Subscript e (.Slice none none (some st) p2) pos) (Cy X.K te ts):=by
 intro Ku s σ H Q I h;refine Subscript_ (thn (he Ku s σ H _ I h) fun v s1 ⟨x,H1,I1,r1,q1⟩=>?_);refine wpAny_Slice ?_;rw [evalPart_none];refine ES (ES ?_);rw [evalPart_some];refine thn (hst Ku s1 σ H1 _ I1 q1) fun vs s3 ⟨y,H3,I3,r3,a,xs,ex,ey,hq,q⟩=>?_;subst ex ey;cases r1;obtain⟨t,rfl⟩:=r3;have I4:Inv X Ku σ H3 { s3 with heap:=s3.heap.push { cls:=.type "slice",data:=.fields #[.none,.none,.int (-1) t] } }:=I3.kept (t':=s3.toks) fun b ob q=>EU _ q;show Fd (model X.prog X.w) X.A (subscriptTail e (.Slice none none (some st) p2) (.ref a) (.ref s3.heap.objs.size)) (EP X Ku σ Q) X.xe { s3 with heap:=s3.heap.push { cls:=.type "slice",data:=.fields #[.none,.none,.int (-1) t] } };obtain⟨its,r,ht,hz⟩:=I4.list hq;have hlen:=r.length;refine tail_any (ops:=[.ref a,.ref s3.heap.objs.size]) ht.isList.typeIs slot_list_getitem.lookup (wpAny_getItem_list_slice ht.isList (Heap.IsSliceOf.new ..) .none .none (.int (-1) t) (by simp) ?_ (by rw [E3] <;> omega)) (by with_unfolding_all rfl);rw [PySem.W.krv_pick];refine⟨.ref _,_,I4.laid (t':=s3.toks) (o:=.lst xs.reverse) (fun b ob q=>EU _ q) (EN _) ?_,rfl,q _ (I4.hok.fresh (EN _))⟩;exact⟨by rw [IQ];exact hz,its.reverse,0,Vals.reverse r,Fn _ rfl⟩
end
section
variable {K:EI} {f:Fx} {ρ:zw}
theorem Goes.free {H H':Hp} {p:EL} (g:Goes f H H') (fo:FOk f H) (h:H' p=none):H p=none:=by
 cases q:H p with
 | none=>rfl
 | some o =>
  by_cases hh:f.f=some p \/ p∈f.M
  ·rcases hh with hh | hh
   ·obtain⟨a,b,h1,_⟩:=g.ok.fd p hh;rw [h] at h1;cases h1
   ·rw [g.kp p hh,q] at h;cases h
  ·have:=zY (g.sm p o (zL hh q));rw [h] at this;cases this.2
def PEdL (K:EI) (f:Fx) (te:TE) (ρ:zw) (P:List PyData->Prop):Prop:=∀ (σ:St) (H:Hp) (Q:VK),EnvOk K f ρ σ H ->
 (∀ es D vs H',Goes f H H'->H D=none->H' D=some (.lst vs)->Reps K (hide H' f) es vs->P es->Q (.ref D) H')->te σ H Q
theorem PEdL.ped {te:TE} {P:PyData->Prop} (h:PEdL K f te ρ fun es=>P (.list es)):PEd K f te ρ P:=fun σ H Q e q=>h σ H Q e fun es D vs H' g n h1 r p =>
 q (.list es) _ H' g (zG.mpr ⟨D,vs,rfl,.of (zL (fresh_ne e.fd n) h1),r⟩) p
theorem DP {te ts:TE} {P:List PyData->Prop} (h:PEd K f te ρ fun x=>∃ ds,x=.list ds/\PEd K f ts ρ fun y=>y=.int (-1)/\P ds.reverse):PEdL K f (Cy K te ts) ρ P:=fun σ H Q e q =>
 h σ H _ e fun x v H1 g1 r1 ⟨ds,ex,p1⟩=>p1 σ H1 _ (e.mono g1) fun y u H2 g2 r2 ⟨ey,p2⟩=>by
  subst ex ey;obtain⟨a,xs,rfl,h1,h2⟩:=zG.mp r1;refine⟨a,xs,rfl,zt.mp r2,(zo _ _).seq (g2.1.seq h1),fun l hn=>?_⟩;have g3:Goes f H2 (upd H2 l (.lst xs.reverse)):=.of_same (yf hn _) g2.2;have rr:∀ {ds:List PyData} {xs:List V},Reps K (hide (upd H2 l (.lst xs.reverse)) f) ds xs->True:=fun _=>trivial;have rev:∀ (H:Hp) (ds:List PyData) (xs:List V),Reps K H ds xs->Reps K H ds.reverse xs.reverse:=by
   intro H ds
   induction ds with
   | nil=>intro xs h;rw [zR.mp h];exact .nil'
   | cons d ds ih =>
    intro xs h;obtain⟨x,r,rfl,h2,h3⟩:=zC.mp h;rw [FL,FL];exact (ih r h3).snoc h2
  exact q ds.reverse l _ _ (g1.trans (g2.trans g3)) ((g1.trans g2).free e.fd hn) zK (Reps.mono g3.1 _ _ (rev _ _ _ (Reps.mono g2.1 _ _ h2))) p2
end
structure TabAt (H:Hp) (a:EL) (as:List EL) (Kt:List (List Int)):Prop where
 top:H a=some (.lst (as.map .ref))
 nd:(a :: as).Nodup
 len:as.length=Kt.length
 row:∀ (i:Nat) x r,as[i]?=some x->Kt[i]?=some r->H x=some (.lst (r.map .int))
end L2
end
section
namespace L2
open PySem PySem.Spec PyProof.Rows
section
variable {X:Cx} {K:EI}
theorem zH (hK:X.K=K):IxR X (rR K):=hK▸xT
theorem zP (hK:X.K=K):IxR X (Ce K):=hK▸Cf
theorem z8 (hK:X.K=K):yR X (.builtin "len") (fun xs H Q=>∃ p ys,xs=[.ref p]/\(SqL K H p ys \/ SqT K H p ys)/\Q (.int ys.length) H):=hK▸gN
theorem dX (hK:X.K=K):yR X (.type "list") (fun xs H Q=>∃ p ys,xs=[.ref p]/\(SqL K H p ys \/ SqT K H p ys)/\∀ l,H l=none->Q (.ref l) (upd H l (.lst ys))):=hK▸gO
theorem cN (hK:X.K=K):yR X (.type "tuple") (fun xs H Q=>∃ p ys,xs=[.ref p]/\((SqL K H p ys/\∀ l,H l=none->Q (.ref l) (upd H l (.tup ys))) \/ (SqT K H p ys/\Q (.ref p) H))):=hK▸fh
theorem r9 (hK:X.K=K) (hc:X.calm=true):yR X (.builtin "min") (fun xs H Q=>∃ a ns,xs=[.ref a]/\SqL K H a (ns.map V.int)/\ns≠[]/\∀ M,M∈ns->(∀ b∈ns,M<=b)->Q (.int M) H):=hK▸rX hc
theorem sd (hK:X.K=K) (hc:X.calm=true):yR X (.builtin "max") (fun xs H Q=>∃ a ns,xs=[.ref a]/\SqL K H a (ns.map V.int)/\ns≠[]/\∀ M,M∈ns->(∀ b∈ns,b<=M)->Q (.int M) H):=hK▸rY hc
theorem jV (hK:X.K=K) (hu:X.A.units+64<Gr):OpR X (F5 .Eq) (rW K false):=hK▸Ck hu
theorem vX (hK:X.K=K) (hu:X.A.units+64<Gr):OpR X (F5 .NotEq) (rW K true):=hK▸Cm hu
variable {tg l e st:Expr} {tl te ts:TE} {ta:TA} {p pos p2:Pos}
theorem yh (hK:X.K=K) (hl:PE X l tl):PI X tg l (uc K tl):=hK▸xO hl
theorem gR (hK:X.K=K) (hl:PE X l tl):PI X tg l (B7 K tl):=hK▸B8 hl
theorem dY {es:List Expr} {k:Nat} {tpos:Pos} (hK:X.K=K) (hg:Gl X "enumerate") (hm:X.mg "enumerate"=none) (ha:PA X [l] ta) (hs:FA [l] X.env=[(false,eval l X.env)]:=by rfl):PI X (.Tuple es k tpos) (.Call (.Name "enumerate" p) [l] [] pos) (nS K ta):=hK▸xW hg hm ha hs
theorem ym (hK:X.K=K) (ha:PE X e te) (he:∀ whole,isTrue e X.env whole=(do let v <- whole;standAt e.pos;holding [v] (truthy v))):PT X e (xX K te):=hK▸Co ha he
theorem Ab (hK:X.K=K) (he:PE X e te) (hst:PE X st ts):PE X (.Subscript e (.Slice none none (some st) p2) pos) (Cy K te ts):=hK▸Cz he hst
theorem zI {es:List Expr} {k:Nat} {t:TGs} {n:Nat} (hK:X.K=K) (hc:X.calm=true) (h:PGs X es t) (hn:(assignEach es X.env).length=n:=by rfl) (hst:(assignEach es X.env).findIdx? (·.1)=none:=by rfl):PG X (.Tuple es k pos) (t8 K n t):=hK▸B6 hc h hn hst
end
structure ItD (K:EI) (f:Fx) (ds:List PyData) (J:It) (H1:Hp):Prop where
 go:∀ (f':Fx) (H':Hp) (i:Nat) d,FOk f' H'->Same (hide H1 f) (hide H' f')->ds[i]?=some d->J.go i H'/\∀ x H3,J.yld i H' x H3->Goes f' H' H3/\Rep K (hide H3 f') d x
 st:∀ (f':Fx) (H':Hp),FOk f' H'->Same (hide H1 f) (hide H' f')->J.stop ds.length H'
def PId (K:EI) (f:Fx) (wi:TI) (ρ:zw) (R:List PyData->Prop):Prop:=∀ (σ:St) (H:Hp) (C:It->Hp->Prop),EnvOk K f ρ σ H ->
 (∀ ds J H1,Goes f H H1->ItD K f ds J H1->R ds->C J H1)->wi σ H C
noncomputable def vk (n:Nat):List PyData:=(E7 n).map fun (i:Nat)=>.int (i:Int)
noncomputable def vm (i j:Int):List PyData:=(E7 (j - i).toNat).map fun (k:Nat)=>.int (i+(k:Int))
noncomputable def cO (ds:List PyData):List PyData:=ds.mapIdx fun i d=>.tuple [.int (i:Int),d]
section
variable {K:EI} {f:Fx} {ρ:zw} {R:List PyData->Prop} {tl:TE} {t:TA}
theorem PId.imp {wi:TI} {R':List PyData->Prop} (h:PId K f wi ρ R) (i:∀ ds,R ds->R' ds):PId K f wi ρ R':=fun σ H C e q=>h σ H C e fun ds J H1 g it r=>q ds J H1 g it (i ds r)
theorem bA (h:PAd K f t ρ fun xs=>∃ j:Int,xs=[.dat (.int j)]/\-(2 ^ 62)<=j/\j<2 ^ 62/\R (vk j.toNat)):PId K f (nL t) ρ R:=fun σ H C e q=>h σ H _ e fun xs vs H1 g1 r1 ⟨j,ex,q1,q2,p⟩=>by
 subst ex;cases r1 with
 | @cons _ v0 _ _ rx r' =>
  cases r';have rx':Rep K (hide H1 f) (.int j) v0:=rx;refine⟨j,by rw [zt.mp rx'],q1,q2,q _ _ H1 g1 ⟨fun f' H' i d fo _ hd=>?_,fun f' H' _ _=>?_⟩ p⟩
  ·unfold vk at hd;rw [EO] at hd;by_cases hi:i<j.toNat
   ·rw [Gd hi] at hd;cases hd;refine⟨hi,fun x H3 hy=>?_⟩;obtain⟨rfl,rfl⟩:=hy;exact⟨.refl fo,zt.mpr (by rw [Int.zero_add])⟩
   ·rw [Fl (by rw [FH];omega)] at hd;cases hd
  ·show j.toNat<=(vk j.toNat).length;unfold vk;rw [EF,FH];exact EN _
theorem uz (h:PAd K f t ρ fun xs=>∃ i j:Int,xs=[.dat (.int i),.dat (.int j)]/\(-(2 ^ 62)<=i/\i<2 ^ 62/\-(2 ^ 62)<=j/\j<2 ^ 62)/\R (vm i j)):PId K f (Bu t) ρ R:=fun σ H C e q=>h σ H _ e fun xs vs H1 g1 r1 ⟨i,j,ex,q1,p⟩=>by
 subst ex;cases r1 with
 | @cons _ v0 _ _ rx r' =>
  cases r' with
  | @cons _ v1 _ _ ry r'' =>
   cases r'';have rx':Rep K (hide H1 f) (.int i) v0:=rx;have ry':Rep K (hide H1 f) (.int j) v1:=ry;refine⟨i,j,by rw [zt.mp rx',zt.mp ry'],q1,q _ _ H1 g1 ⟨fun f' H' k d fo _ hd=>?_,fun f' H' _ _=>?_⟩ p⟩
   ·unfold vm at hd;rw [EO] at hd;by_cases hi:k<(j - i).toNat
    ·rw [Gd hi] at hd;cases hd;refine⟨hi,fun x H3 hy=>?_⟩;obtain⟨rfl,rfl⟩:=hy;exact⟨.refl fo,zt.mpr rfl⟩
    ·rw [Fl (by rw [FH];omega)] at hd;cases hd
   ·show (j - i).toNat<=(vm i j).length;unfold vm;rw [EF,FH];exact EN _
theorem yQ (h:PEd K f tl ρ fun x=>∃ ds,x=.list ds/\R ds):PId K f (uc K tl) ρ R:=fun σ H C e q=>h σ H _ e fun x v H1 g1 r1 ⟨ds,ex,p⟩=>by
 subst ex;obtain⟨a,xs,rfl,h1,h2⟩:=zG.mp r1;have hl:=h2.length;refine⟨a,rfl,⟨xs,(zo _ _).seq h1⟩,q ds _ H1 g1 ⟨fun f' H' i d fo sm hd=>?_,fun f' H' _ sm=>⟨xs,(zo _ _).seq (sm.seq h1),HA hl⟩⟩ p⟩;obtain⟨z,hz,rz⟩:=h2.get hd;have sq:SqL K H' a xs:=(zo _ _).seq (sm.seq h1);refine⟨⟨xs,z,sq,hz⟩,fun x H3 hy=>?_⟩;obtain⟨rfl,hy⟩:=hy;have ez:=hy xs sq;rw [hz] at ez;cases ez;exact⟨.refl fo,Rep.mono sm _ _ rz⟩
theorem uA (h:PEd K f tl ρ fun x=>∃ ds,x=.tuple ds/\R ds):PId K f (B7 K tl) ρ R:=fun σ H C e q=>h σ H _ e fun x v H1 g1 r1 ⟨ds,ex,p⟩=>by
 subst ex;obtain⟨a,xs,rfl,h1,h2⟩:=zS.mp r1;have hl:=h2.length;refine⟨a,rfl,⟨xs,(zo _ _).seqT h1⟩,q ds _ H1 g1 ⟨fun f' H' i d fo sm hd=>?_,fun f' H' _ sm=>⟨xs,(zo _ _).seqT (sm.seqT h1),HA hl⟩⟩ p⟩;obtain⟨z,hz,rz⟩:=h2.get hd;have sq:SqT K H' a xs:=(zo _ _).seqT (sm.seqT h1);refine⟨⟨xs,z,sq,hz⟩,fun x H3 hy=>?_⟩;obtain⟨rfl,hy⟩:=hy;have ez:=hy xs sq;rw [hz] at ez;cases ez;exact⟨.refl fo,Rep.mono sm _ _ rz⟩
theorem uB (h:PAd K f t ρ fun xs=>∃ ds,xs=[.dat (.list ds)]/\R (cO ds)):PId K f (nS K t) ρ R:=fun σ H C e q=>h σ H _ e fun xs vs H1 g1 r1 ⟨ds,ex,p⟩=>by
 subst ex;cases r1 with
 | cons rx r' =>
  cases r';obtain⟨a,xs,rfl,h1,h2⟩:=zG.mp rx;have hl:=h2.length;refine⟨a,rfl,⟨xs,(zo _ _).seq h1⟩,q (cO ds) _ H1 g1 ⟨fun f' H' i d fo sm hd=>?_,fun f' H' _ sm=>⟨xs,(zo _ _).seq (sm.seq h1),by unfold cO;rw [List.length_mapIdx];exact HA hl⟩⟩ p⟩;unfold cO at hd;rw [JT] at hd;cases eq:ds[i]? with
  | none=>rw [eq] at hd;cases hd
  | some d0 =>
   rw [eq] at hd;cases hd;obtain⟨z,hz,rz⟩:=h2.get eq;have sq:SqL K H' a xs:=(zo _ _).seq (sm.seq h1);refine⟨⟨xs,z,sq,hz⟩,fun x H3 hy=>?_⟩;obtain⟨tp,y,rfl,hn,rfl,hy⟩:=hy;have ez:=hy xs sq;rw [hz] at ez;cases ez;have gn:Goes f' H' (upd H' tp (.tup [.int i,z])):=.of_same (yf hn _) fo;exact⟨gn,zS.mpr ⟨tp,_,rfl,.of (zL (fresh_ne fo hn) zK),.cons' (zt.mpr rfl) (.cons' (Rep.mono gn.1 _ _ (Rep.mono sm _ _ rz)) .nil')⟩⟩
end
section
variable {K:EI} {f:Fx} {ρ:zw} {D:DEnds} {wi:TI} {g:TG} {ts:TS}
theorem fK (h:PId K f wi ρ fun ds=>∃ J:Nat->zw->Prop,J 0 ρ /\
   (∀ (i:Nat) d ρ',ds[i]?=some d->J i ρ'->PGd K f g d ρ' fun ρ2=>PSd K f ts ρ2 { D with nx:=J (i+1),ct:=J (i+1),bk:=D.nx })/\∀ ρ',J ds.length ρ'->D.nx ρ') :
  PSd K f (ud wi g ts) ρ D:=fun σ H E e n r b c=>h σ H _ e fun ds J H1 g1 it ⟨Jv,j0,js,jd⟩=>by
 refine⟨fun i m σ' H'=>∃ ρ',EnvOk K f ρ' σ' H'/\Goes f H1 H'/\Jv i ρ'/\m+i=ds.length,⟨ds.length,ρ,e.mono g1,.refl g1.2,j0,rfl⟩,fun i m σ' H' ⟨ρ',e',g',p,hm⟩=>?_⟩;by_cases hi:i<ds.length
 ·obtain⟨hgo,hy⟩:=it.go f H' i _ e'.fd g'.sm (ED hi);refine .inr ⟨hgo,fun σ2 H2=>∃ ρ2,EnvOk K f ρ2 σ2 H2/\Goes f H1 H2/\Jv (i+1) ρ2,fun σ2 H2 ⟨ρ2,e2,g2,p2⟩=>⟨m - 1,by omega,ρ2,e2,g2,p2,by omega⟩,fun x H3 hx=>?_⟩;obtain⟨g3,r3⟩:=hy x H3 hx;refine js i _ ρ' (ED hi) p σ' H3 x _ (e'.mono g3) r3 fun ρ2 σ2 H4 g4 e4 p4=>?_;have gg:=g'.trans (g3.trans g4);exact p4 σ2 H4 _ e4 (fun ρ5 σ5 H5 g5 e5 p5=>⟨ρ5,e5,gg.trans g5,p5⟩) (fun d v H5 g5 r5 p5=>r d v H5 (g1.trans (gg.trans g5)) r5 p5) (fun ρ5 σ5 H5 g5 e5 p5=>n ρ5 σ5 H5 (g1.trans (gg.trans g5)) e5 p5) (fun ρ5 σ5 H5 g5 e5 p5=>⟨ρ5,e5,gg.trans g5,p5⟩)
 ·have ei:i=ds.length:=by omega
  subst ei;exact .inl ⟨it.st f H' e'.fd g'.sm,n ρ' σ' H' (g1.trans g') e' (jd ρ' p)⟩
end
section
variable {K:EI} {f:Fx} {ρ:zw} {D:EL} {wi:TI} {g:TG} {tt:TT} {te:TE}
theorem CSt.self {H2 H:Hp} {es:List PyData} {σ:St} (c:CSt K f D H2 ρ es σ H):CSt K f D H ρ es σ H:=⟨c.env,Same.refl _,fun _ _=>rfl,c.lst⟩
theorem CSt.trans {H2 H H':Hp} {es es':List PyData} {ρ':zw} {σ σ':St} (c:CSt K f D H2 ρ es σ H) (d:CSt K f D H ρ' es' σ' H'):CSt K f D H2 ρ' es' σ' H':=⟨d.env,c.sm.trans d.sm,fun b hb=>(d.kp b hb).trans (c.kp b hb),d.lst⟩
def PBd (K:EI) (f:Fx) (D:EL) (tb:TB) (ρ:zw) (es:List PyData) (R:zw->List PyData->Prop):Prop:=f.f≠some D->D∉f.M->∀ (σ:St) (H H2:Hp) (W:St->Hp->Prop),CSt K f D H2 ρ es σ H ->
 (∀ ρ2 es2 σ2 H',CSt K f D H2 ρ2 es2 σ2 H'->R ρ2 es2->W σ2 H')->tb σ H W
theorem jv {es:List PyData} {R:zw->List PyData->Prop} (hl:es.length<1000) (h:PEd K (f.with D) te ρ fun e=>R ρ (es++[e])):PBd K f D (bu D te) ρ es R:=fun hD hM σ H H2 W c q =>
 h σ H _ c.env fun e u H5 g5 r5 p5=>by
  have c5:=c.go g5 (c.env.mono g5);obtain⟨vs,h1,h2⟩:=c5.lst;exact⟨vs,h1,yz (by rw [h2.length];omega),q _ _ _ _ (c5.put hD hM h1 h2 r5) p5⟩
theorem uC {fi:Fx} {Hi H2 H:Hp} {ds es:List PyData} {J:It} {tb:TB} {σ:St} {W:St->Hp->Prop} (it:ItD K fi ds J Hi) (hD:f.f≠some D) (hM:D∉f.M) (c:CSt K f D H2 ρ es σ H) (sm:Same (hide Hi fi) (hide H (f.with D)))
  (Jv:Nat->zw->List PyData->Prop) (j0:Jv 0 ρ es)
  (js:∀ (i:Nat) d ρ' es',ds[i]?=some d->Jv i ρ' es'->PGd K (f.with D) g d ρ' fun ρ2=>PTd K (f.with D) tt ρ2 fun b=>if b=true then PBd K f D tb ρ2 es' (Jv (i+1)) else Jv (i+1) ρ2 es')
  (hW:∀ ρ' es' σ' H',CSt K f D H2 ρ' es' σ' H'->Jv ds.length ρ' es'->W σ' H'):i7 J g tt tb σ H W:=by
 refine⟨fun i m σ' H'=>∃ ρ' es',CSt K f D H2 ρ' es' σ' H'/\Same (hide Hi fi) (hide H' (f.with D))/\Jv i ρ' es'/\m+i=ds.length,⟨ds.length,ρ,es,c,sm,j0,rfl⟩,fun i m σ' H' ⟨ρ',es',c',sm',p,hm⟩=>?_⟩;by_cases hi:i<ds.length
 ·obtain⟨hgo,hy⟩:=it.go (f.with D) H' i _ c'.env.fd sm' (ED hi);refine .inr ⟨hgo,fun x H3 hx=>?_⟩;obtain⟨g3,r3⟩:=hy x H3 hx;have c3:=c'.go g3 (c'.env.mono g3);refine js i _ ρ' es' (ED hi) p σ' H3 x _ c3.env r3 fun ρ2 σ2 H4 g4 e4 p4=>?_;have c4:=c3.go g4 e4;refine p4 σ2 H4 _ e4 fun b H5 g5 p5=>?_;have c5:=c4.go g5 (e4.mono g5);have sm5:=((sm'.trans g3.sm).trans g4.sm).trans g5.sm;cases b with
  | false =>
   rw [Kv EG] at p5 ⊢;exact⟨m - 1,by omega,ρ2,es',c5,sm5,p5,by omega⟩
  | true =>
   rw [Kw rfl] at p5 ⊢;exact p5 hD hM σ2 H5 H5 _ c5.self fun ρ6 es6 σ6 H6 c6 p6=>⟨m - 1,by omega,ρ6,es6,c5.trans c6,sm5.trans c6.sm,p6,by omega⟩
 ·have ei:i=ds.length:=by omega
  subst ei;exact .inl ⟨it.st (f.with D) H' c'.env.fd sm',hW ρ' es' σ' H' c' p⟩
theorem CA {es:List PyData} {tb:TB} {R:zw->List PyData->Prop} (h:PId K (f.with D) wi ρ fun ds=>∃ Jv:Nat->zw->List PyData->Prop,Jv 0 ρ es /\
   (∀ (i:Nat) d ρ' es',ds[i]?=some d->Jv i ρ' es'->PGd K (f.with D) g d ρ' fun ρ2=>PTd K (f.with D) tt ρ2 fun b=>if b=true then PBd K f D tb ρ2 es' (Jv (i+1)) else Jv (i+1) ρ2 es') /\
   ∀ ρ' es',Jv ds.length ρ' es'->R ρ' es'):PBd K f D (tIn wi g tt tb) ρ es R:=fun hD hM σ H H2 W c q =>
 h σ H _ c.env fun ds J H1 g1 it ⟨Jv,j0,js,jd⟩ =>
  uC it hD hM (c.go g1 (c.env.mono g1)) (Same.refl _) Jv j0 js fun ρ' es' σ' H' c' p=>q ρ' es' σ' H' c' (jd ρ' es' p)
def PEdO (K:EI) (f:Fx) (te:TE) (ρ:zw) (P:List PyData->Prop):Prop:=∀ (σ:St) (H:Hp) (Q:VK),EnvOk K f ρ σ H ->
 (∀ es D vs H',Goes f H H'->H D=none->H' D=some (.lst vs)->Reps K (hide H' (f.with D)) es vs->P es->Q (.ref D) H')->te σ H Q
theorem PEdO.pedl {P:List PyData->Prop} (h:PEdO K f te ρ P):PEdL K f te ρ P:=fun σ H Q e q=>h σ H Q e fun es D vs H' g n h1 r p=>q es D vs H' g n h1 (Reps.mono yY es vs r) p
theorem PEdO.ped {P:PyData->Prop} (h:PEdO K f te ρ fun es=>P (.list es)):PEd K f te ρ P:=h.pedl.ped
theorem nV {P:List PyData->Prop} (h:P []):PEdO K f (uk qv) ρ P:=fun σ H Q e q=>⟨Ft _,fun p hn=>q [] p [] _ (.of_same (yf hn _) e.fd) hn zK .nil' h⟩
theorem vY {own:Nat} {fr:List Nat} {tb:EL->TB} {P:List PyData->Prop} (h:PId K f wi ρ fun ds=>∃ Jv:Nat->zw->List PyData->Prop,Jv 0 (b9 own fr ρ) [] /\
   (∀ D (i:Nat) d ρ' es',ds[i]?=some d->Jv i ρ' es'->PGd K (f.with D) g d ρ' fun ρ2=>PTd K (f.with D) tt ρ2 fun b=>if b=true then PBd K f D (tb D) ρ2 es' (Jv (i+1)) else Jv (i+1) ρ2 es') /\
   ∀ ρ' es',Jv ds.length ρ' es'->P es'):PEdO K f (vO wi own fr g tt tb) ρ P:=fun σ H Q e q =>
 h σ H _ e fun ds J H1 g1 it ⟨Jv,j0,js,jd⟩ D hn=>by
  have nD:=fresh_ne g1.2 hn;have hD:f.f≠some D:=fun z=>nD (.inl z);have hM:D∉f.M:=fun z=>nD (.inr z);refine uC it hD hM (dU hn (e.mono g1)) (bx hn) Jv j0 (js D) fun ρ' es' σ' H' c' p=>?_;obtain⟨ge,rep⟩:=km (σ':=σ') hn g1.2 c';obtain⟨vs,h1,h2⟩:=c'.lst;exact q es' D vs H' (g1.trans ge) (g1.free e.fd hn) h1 h2 (jd ρ' es' p)
end
section
variable {K:EI} {f:Fx} {ρ:zw} {D:EL} {wi:TI} {g:TG} {tt:TT} {te:TE}
theorem cc {F:PyData->List PyData} {ds:List PyData} {i:Nat} {d:PyData} (h:ds[i]?=some d):(ds.take (i+1)).flatMap F=(ds.take i).flatMap F++F d:=by
 rw [FN,h,Ge];simp
theorem bB {F:PyData->List PyData} {ds:List PyData} {i:Nat}:((ds.take i).flatMap F).length<=(ds.flatMap F).length:=by
 conv=>rhs;rw [<-GX i ds,Ge,EY]
 omega
def OwnE (own:Nat) (ρ0:zw) (ρ':zw):Prop:=∃ us:zw,us.length=own/\ρ'=us++ρ0
theorem OwnE.one {ρ0 ρ':zw} (h:OwnE 1 ρ0 ρ'):∃ u,ρ'=u :: ρ0:=by
 obtain⟨us,h1,rfl⟩:=h;rcases us with _ | ⟨u,_ | ⟨z,zs⟩⟩ <;> first | exact⟨_,rfl⟩ | (simp at h1)
theorem OwnE.two {ρ0 ρ':zw} (h:OwnE 2 ρ0 ρ'):∃ u v,ρ'=u :: v :: ρ0:=by
 obtain⟨us,h1,rfl⟩:=h;rcases us with _ | ⟨u,_ | ⟨v,_ | ⟨z,zs⟩⟩⟩ <;> first | exact⟨_,_,rfl⟩ | (simp at h1)
theorem OwnE.three {ρ0 ρ':zw} (h:OwnE 3 ρ0 ρ'):∃ u v w,ρ'=u :: v :: w :: ρ0:=by
 obtain⟨us,h1,rfl⟩:=h
 match us,h1 with
 | [u,v,w],_=>exact⟨u,v,w,rfl⟩
theorem OwnE.mk1 {ρ0:zw} {u:Option DV}:OwnE 1 ρ0 (u :: ρ0):=⟨[u],rfl,rfl⟩
theorem OwnE.mk2 {ρ0:zw} {u v:Option DV}:OwnE 2 ρ0 (u :: v :: ρ0):=⟨[u,v],rfl,rfl⟩
theorem CB {own:Nat} {fr:List Nat} {tb:EL->TB} {P:List PyData->Prop} (h:PId K f wi ρ fun ds=>∃ F:PyData->List PyData,(ds.flatMap F).length<=1000 /\
   (∀ D d ρ' es,d∈ds->OwnE own (frD fr ρ) ρ'->es.length+(F d).length<=1000->PGd K (f.with D) g d ρ' fun ρ2=>PTd K (f.with D) tt ρ2 fun b=>if b=true then PBd K f D (tb D) ρ2 es fun ρ3 es3=>OwnE own (frD fr ρ) ρ3/\es3=es++F d else OwnE own (frD fr ρ) ρ2/\F d=[]) /\
   P (ds.flatMap F)):PEdO K f (vO wi own fr g tt tb) ρ P :=
 vY (h.imp fun ds ⟨F,hl,hs,hp⟩=>by
  refine⟨fun i ρ' es=>OwnE own (frD fr ρ) ρ'/\es=(ds.take i).flatMap F,⟨⟨Ha own none,by simp,rfl⟩,by simp⟩,fun D i d ρ' es hd ⟨ho,he⟩=>?_,fun ρ' es ⟨_,he⟩=>?_⟩
  ·have hb:es.length+(F d).length<=1000:=by
    rw [he,<- EY,<- cc hd];exact Fm bB hl
   have:=hs D d ρ' es (EK hd) ho hb;intro σ H v Q e r q;refine this σ H v Q e r fun ρ2 σ2 H2 g2 e2 p2=>q ρ2 σ2 H2 g2 e2 (p2.imp fun b hb2=>?_);cases b with
   | false =>
    rw [Kv EG] at hb2 ⊢;exact⟨hb2.1,by rw [cc hd,hb2.2,FT];exact he⟩
   | true =>
    rw [Kw rfl] at hb2 ⊢;intro h1 h2 σ3 H3 H4 W c k;exact hb2 h1 h2 σ3 H3 H4 W c fun ρ5 es5 σ5 H5 c5 ⟨o5,p5⟩=>k ρ5 es5 σ5 H5 c5 ⟨o5,by rw [p5,cc hd,he]⟩
  ·rw [he,Fq];exact hp)
theorem q9 {B:Bool->Prop} (h:B true):PTd K f Cj ρ B:=fun σ H Q e q=>q true H (.refl e.fd) h
end
structure OEnds where
 nx:zw->List PyData->Prop
 rt:PyData->Prop
 bk:zw->List PyData->Prop:=fun _ _=>False
 ct:zw->List PyData->Prop:=fun _ _=>False
def PSo (K:EI) (f:Fx) (D:EL) (ts:TS) (ρ:zw) (es:List PyData) (O:OEnds):Prop:=f.f≠some D->D∉f.M->∀ (σ:St) (H H2:Hp) (E:Ends),CSt K f D H2 ρ es σ H ->
 (∀ ρ' es' σ' H',CSt K f D H2 ρ' es' σ' H'->O.nx ρ' es'->E.nx σ' H')->(∀ d v ρ' es' σ' H',CSt K f D H2 ρ' es' σ' H'->Rep K (hide H' f) d v->O.rt d->E.rt v H') ->
 (∀ ρ' es' σ' H',CSt K f D H2 ρ' es' σ' H'->O.bk ρ' es'->E.bk σ' H')->(∀ ρ' es' σ' H',CSt K f D H2 ρ' es' σ' H'->O.ct ρ' es'->E.ct σ' H')->ts E σ H
section
variable {K:EI} {f:Fx} {ρ:zw} {D:EL} {wi:TI} {g:TG} {tt:TT} {te:TE} {ts tu:TS} {es:List PyData} {O:OEnds} {i:Nat}
theorem uD {σ:St} {H H2:Hp} (hi:ρ[i]?=some (some (.own f.M.length))) (c:CSt K f D H2 ρ es σ H):σ[i]?=some (some (.ref D)):=by
 obtain⟨v,h1,p,h2,rfl⟩:=c.env.get i _ hi;have e:(D :: f.M).reverse[f.M.length]?=some D:=by
  rw [FL,EX (by simp)];simp
 have h2':(D :: f.M).reverse[f.M.length]?=some p:=h2;rw [e] at h2';cases h2';exact h1
theorem DQ (hi:ρ[i]?=some (some (.own f.M.length))) (hl:es.length<1000) (h:PEd K (f.with D) te ρ fun d=>O.nx ρ (es++[d])):PSo K f D (iT (tBM K "list" gP (yi i) (z7 te qv))) ρ es O:=fun hD hM σ H H2 E c n r b k=>by
 obtain⟨vs0,h0,_⟩:=c.lst;refine⟨_,uD hi c,Or.inl ⟨rfl,vs0,.of h0⟩,?_⟩;refine h σ H _ c.env fun d v H1 g1 r1 p1=>?_;have c1:=c.go g1 (c.env.mono g1);obtain⟨vs,h1,h2⟩:=c1.lst;exact⟨D,vs,v,rfl,rfl,h1,yz (by rw [h2.length];omega),n _ _ _ _ (c1.put hD hM h1 h2 r1) p1⟩
theorem BC (h:PId K (f.with D) wi ρ fun ds=>∃ J:Nat->zw->List PyData->Prop,J 0 ρ es /\
   (∀ (i:Nat) d ρ' es',ds[i]?=some d->J i ρ' es'->PGd K (f.with D) g d ρ' fun ρ2=>PSo K f D ts ρ2 es' { O with nx:=J (i+1),ct:=J (i+1),bk:=O.nx })/\∀ ρ' es',J ds.length ρ' es'->O.nx ρ' es') :
  PSo K f D (ud wi g ts) ρ es O:=fun hD hM σ H H2 E c n r b k=>h σ H _ c.env fun ds J H1 g1 it ⟨Jv,j0,js,jd⟩=>by
 have c1:=c.go g1 (c.env.mono g1);refine⟨fun i m σ' H'=>∃ ρ' es',CSt K f D H2 ρ' es' σ' H'/\Same (hide H1 (f.with D)) (hide H' (f.with D))/\Jv i ρ' es'/\m+i=ds.length,⟨ds.length,ρ,es,c1,Same.refl _,j0,rfl⟩,fun i m σ' H' ⟨ρ',es',c',sm',p,hm⟩=>?_⟩;by_cases hi:i<ds.length
 ·obtain⟨hgo,hy⟩:=it.go (f.with D) H' i _ c'.env.fd sm' (ED hi);refine .inr ⟨hgo,fun σ2 H3=>∃ ρ2 es2,CSt K f D H2 ρ2 es2 σ2 H3/\Same (hide H1 (f.with D)) (hide H3 (f.with D))/\Jv (i+1) ρ2 es2,fun σ2 H3 ⟨ρ2,es2,e2,g2,p2⟩=>⟨m - 1,by omega,ρ2,es2,e2,g2,p2,by omega⟩,fun x H3 hx=>?_⟩;obtain⟨g3,r3⟩:=hy x H3 hx;have c3:=c'.go g3 (c'.env.mono g3);refine js i _ ρ' es' (ED hi) p σ' H3 x _ c3.env r3 fun ρ2 σ2 H4 g4 e4 p4=>?_;have c4:=c3.go g4 e4;have sm4:=(sm'.trans g3.sm).trans g4.sm;exact p4 hD hM σ2 H4 H4 _ c4.self (fun ρ5 es5 σ5 H5 c5 p5=>⟨ρ5,es5,c4.trans c5,sm4.trans c5.sm,p5⟩) (fun d v ρ5 es5 σ5 H5 c5 r5 p5=>r d v ρ5 es5 σ5 H5 (c4.trans c5) r5 p5) (fun ρ5 es5 σ5 H5 c5 p5=>n ρ5 es5 σ5 H5 (c4.trans c5) p5) (fun ρ5 es5 σ5 H5 c5 p5=>⟨ρ5,es5,c4.trans c5,sm4.trans c5.sm,p5⟩)
 ·have ei:i=ds.length:=by omega
  subst ei;exact .inl ⟨it.st (f.with D) H' c'.env.fd sm',n ρ' es' σ' H' c' (jd ρ' es' p)⟩
noncomputable def qH (n:Nat):Option DV->Option DV
 | some (.own k)=>if k<n then some (.own k) else none
 | x=>x
theorem dh {σ:St} {H H2:Hp} (c:CSt K f D H2 ρ es σ H):EnvOk K f (ρ.map (qH f.M.length)) σ H:=by
 refine⟨by rw [EF];exact c.env.len,fun i x h=>?_,⟨c.env.fd.fd,fun b hb=>c.env.fd.mm b (EM _ hb),fun p e hp=>c.env.fd.nm p e (EM _ hp)⟩⟩;rw [EO] at h;cases e:ρ[i]? with
 | none=>rw [e] at h;cases h
 | some y =>
  rw [e] at h;cases y with
  | none=>cases h
  | some y =>
   obtain⟨v,h1,h2⟩:=c.env.get i y e;cases y with
   | dat d =>
    cases h;exact⟨v,h1,Rep.mono yY d v h2⟩
   | feed =>
    cases h;exact⟨v,h1,h2⟩
   | exc C =>
    cases h;obtain⟨a,h3,h4⟩:=h2;exact⟨v,h1,a,h3,yY _ _ h4⟩
   | mon φ =>
    cases h;exact⟨v,h1,fun H' s=>h2 H' (yY.trans s)⟩
   | own k =>
    have h':(if k<f.M.length then some (DV.own k) else none)=some x:=Option.some.inj h;by_cases hk:k<f.M.length
    ·rw [Kw hk] at h';cases h';obtain⟨p,h3,h4⟩:=h2;refine⟨v,h1,p,?_,h4⟩;have h3':(D :: f.M).reverse[k]?=some p:=h3;rw [FL,ER (by simpa using hk)] at h3';exact h3'
    ·rw [Kv hk] at h';cases h'
theorem Ac {σ:St} {H:Hp} {d:PyData} {v:V} (e:EnvOk K f ρ σ H) (hs:σ[i]?=some (some v)) (r:Rep K (hide H f) d v):EnvOk K f (ρ.set i (some (.dat d))) σ H:=by
 refine⟨by rw [Hm];exact e.len,fun j y h=>?_,e.fd⟩;by_cases hj:i=j
 ·subst hj;have hi:i<ρ.length:=by rw [e.len];exact (EH.mp hs).1
  rw [Gs hi] at h;cases h;exact⟨v,hs,r⟩
 ·rw [G1 hj] at h;exact e.get j y h
theorem DR {Dn:DEnds} (h:PEdO K f te ρ fun es0=>i<ρ.length/\∀ D,PSo K f D ts (ρ.set i (some (.own f.M.length))) es0 { nx:=fun ρ' es=>ρ'[i]?=some (some (.own f.M.length))/\PSd K f tu ((ρ'.map (qH f.M.length)).set i (some (.dat (.list es)))) Dn,rt:=Dn.rt,bk:=fun ρ' es=>Dn.bk (ρ'.map (qH f.M.length)),ct:=fun ρ' es=>Dn.ct (ρ'.map (qH f.M.length)) }) :
  PSd K f (bo (aH te (jD i)) (bo ts tu)) ρ Dn:=fun σ H E e n r b k=>h σ H _ e fun es0 D vs H1 g1 hn h1 rs ⟨hil,p⟩=>by
 have nD:¬ (f.f=some D \/ D∈f.M):=fresh_ne e.fd hn;have hD:f.f≠some D:=fun z=>nD (.inl z);have hM:D∉f.M:=fun z=>nD (.inr z);have sm0:Same (hide H f) (hide H1 (f.with D)):=fun b o hb=>by
  have hb1:=g1.sm b o hb;refine zL (fun z=>?_) (zY hb1).2;rcases z with z | z
  ·exact (zY hb1).1 (.inl z)
  ·rcases EW.mp z with rfl | z
   ·have:=(zY hb).2;rw [hn] at this;cases this
   ·exact (zY hb1).1 (.inr z)
 have fo1:FOk (f.with D) H1:=⟨g1.ok.fd,fun b hb=>by
  rcases EW.mp hb with rfl | hb
  ·exact⟨_,h1⟩
  ·exact g1.ok.mm b hb,fun q eq hq=>by
  rcases EW.mp hq with rfl | hq
  ·exact hD eq
  ·exact g1.ok.nm q eq hq⟩
 have e1:EnvOk K (f.with D) ρ σ H1:=⟨e.len,fun j x hx=>by
  obtain⟨v,a1,a2⟩:=e.get j x hx;refine⟨v,a1,?_⟩;cases x with
  | dat d=>exact Rep.mono sm0 d v a2
  | feed=>exact a2
  | exc C =>
   obtain⟨q,h3,h4⟩:=a2;exact⟨q,h3,sm0 _ _ h4⟩
  | mon φ=>exact fun H' s=>a2 H' (sm0.trans s)
  | own k =>
   obtain⟨q,h3,h4⟩:=a2;refine⟨q,?_,h4⟩;show (D :: f.M).reverse[k]?=some q;rw [FL,ER (EH.mp h3).1];exact h3,fo1⟩
 have rv:RepV K (f.with D) H1 (.own f.M.length) (.ref D):=⟨D,by
  show (D :: f.M).reverse[f.M.length]?=some D;rw [FL,EX (by simp)]
  simp,rfl⟩
 have c1:CSt K f D H1 (ρ.set i (some (.own f.M.length))) es0 (σ.set i (some (.ref D))) H1:=⟨e1.set i rv,Same.refl _,fun _ _=>rfl,vs,h1,rs⟩;have gg:∀ {ρ':zw} {es':List PyData} {σ':St} {H':Hp},CSt K f D H1 ρ' es' σ' H'->Goes f H H':=fun c=>by
  refine⟨fun b o hb=>?_,(dh c).fd,fun b hb=>(c.kp b hb).trans (g1.kp b hb)⟩;exact yY (D:=D) b o (c.sm b o (sm0 b o hb))
 refine p D hD hM _ H1 H1 _ c1 (fun ρ' es' σ' H' c' ⟨hi,p'⟩=>?_) (fun d v ρ' es' σ' H' c' r' p'=>r d v H' (gg c') r' p') (fun ρ' es' σ' H' c' p'=>b _ σ' H' (gg c') (dh c') p') (fun ρ' es' σ' H' c' p'=>k _ σ' H' (gg c') (dh c') p');obtain⟨vs',h1',h2'⟩:=c'.lst;have rl:Rep K (hide H' f) (.list es') (.ref D):=zG.mpr ⟨D,vs',rfl,.of (zL nD h1'),Reps.mono yY es' vs' h2'⟩;exact p' σ' H' E (Ac (dh c') (uD hi c') rl) (fun ρ2 σ2 H2 g2=>n ρ2 σ2 H2 ((gg c').trans g2)) (fun d v H2 g2=>r d v H2 ((gg c').trans g2)) (fun ρ2 σ2 H2 g2=>b ρ2 σ2 H2 ((gg c').trans g2)) (fun ρ2 σ2 H2 g2=>k ρ2 σ2 H2 ((gg c').trans g2))
end
section
variable {K:EI} {f:Fx} {ρ:zw} {P:PyData->Prop} {te ta tb:TE} {t:TA}
theorem Reps.drop {H:Hp}:∀ {ds:List PyData} {xs:List V} (n:Nat),Reps K H ds xs->Reps K H (ds.drop n) (xs.drop n)
 | _,_,0,r=>r
 | [],xs,n+1,r=>by
  rw [zR.mp r];exact .nil'
 | d :: ds,xs,n+1,r=>by
  obtain⟨x,r',rfl,_,h⟩:=zC.mp r;exact Reps.drop n h
theorem Reps.take {H:Hp}:∀ {ds:List PyData} {xs:List V} (n:Nat),Reps K H ds xs->Reps K H (ds.take n) (xs.take n)
 | _,_,0,r=>.nil'
 | [],xs,n+1,r=>by
  rw [zR.mp r];exact .nil'
 | d :: ds,xs,n+1,r=>by
  obtain⟨x,r',rfl,h0,h⟩:=zC.mp r;exact .cons' h0 (Reps.take n h)
noncomputable def cutD (ds:List PyData) (lo hi:Option Int):List PyData:=(ds.drop (HT.sIx ds.length 0 lo)).take (HT.sIx ds.length ds.length hi - HT.sIx ds.length 0 lo)
theorem Reps.cut {H:Hp} {ds:List PyData} {xs:List V} {lo hi:Option Int} (r:Reps K H ds xs):Reps K H (cutD ds lo hi) (me xs lo hi):=by
 unfold cutD me;rw [r.length];exact (r.drop _).take _
theorem uE {ds:List PyData} {n:Nat}:cutD ds (some (n:Int)) none=ds.drop n:=by
 unfold cutD;rw [HT.sIx_nat,HT.sIx_none];by_cases h:n<=ds.length
 ·rw [HX h];exact Ii (by rw [Hz];exact EN _)
 ·rw [Nat.min_eq_right (by omega),Gn,IX,JA (by omega)]
def POd (K:EI) (f:Fx) (t:TO) (ρ:zw) (R:Option Int->Prop):Prop:=∀ (σ:St) (H:Hp) (Q:Option Int->Hp->Prop),EnvOk K f ρ σ H->(∀ o H',Goes f H H'->R o->Q o H')->t σ H Q
theorem DS {R:Option Int->Prop} (h:R none):POd K f nN ρ R:=fun σ H Q e q=>q none H (.refl e.fd) h
theorem uF {R:Option Int->Prop} (h:PEd K f te ρ fun d=>∃ i:Int,d=.int i/\R (some i)):POd K f (Bw te) ρ R:=fun σ H Q e q=>h σ H _ e fun d v H1 g1 r1 ⟨i,ed,p⟩=>by
 subst ed;exact⟨i,zt.mp r1,q (some i) H1 g1 p⟩
theorem DT {tl th:TO} {P:List PyData->Prop} (h:PEd K f te ρ fun x=>∃ ds,x=.list ds/\POd K f tl ρ fun lo=>POd K f th ρ fun hi=>P (cutD ds lo hi)):PEdL K f (tSl (xU K) te tl th) ρ P:=fun σ H Q e q =>
 h σ H _ e fun x v H1 g1 r1 ⟨ds,ex,p1⟩=>p1 σ H1 _ (e.mono g1) fun lo H2 g2 p2=>p2 σ H2 _ ((e.mono g1).mono g2) fun hi H3 g3 p3=>by
  subst ex;have gg:=g1.trans (g2.trans g3);obtain⟨a,xs,rfl,h1,h2⟩:=zG.mp (Rep.mono (g2.trans g3).sm _ _ r1);refine⟨a,xs,rfl,(zo _ _).seq h1,fun p hn=>?_⟩;have g4:Goes f H3 (upd H3 p (.lst (me xs lo hi))):=.of_same (yf hn _) g3.ok;exact q _ p _ _ (gg.trans g4) (gg.free e.fd hn) zK (Reps.mono g4.sm _ _ h2.cut) p3
theorem BD {tl th:TO} (h:PEd K f te ρ fun x=>∃ ds,x=.list ds/\POd K f tl ρ fun lo=>POd K f th ρ fun hi=>P (.list (cutD ds lo hi))):PEd K f (tSl (xU K) te tl th) ρ P:=(DT h).ped
theorem CD (h:PEd K f ta ρ fun x=>∃ ds,x=.tuple ds/\ds≠[]/\PEd K f tb ρ fun y=>∃ es,y=.tuple es/\es≠[]/\ds.length+es.length<=1000/\P (.tuple (ds++es))):PEd K f (tOp (uo K) ta tb) ρ P:=fun σ H Q e q =>
 h σ H _ e fun x v H1 g1 r1 ⟨ds,ex,hd,p1⟩=>p1 σ H1 _ (e.mono g1) fun y w H2 g2 r2 ⟨es,ey,he,hl,p2⟩=>by
  subst ex ey;obtain⟨a,xs,rfl,h1,h2⟩:=zS.mp (Rep.mono g2.sm _ _ r1);obtain⟨b,ys,rfl,h3,h4⟩:=zS.mp r2;have l1:=h2.length;have l2:=h4.length;refine⟨a,b,xs,ys,rfl,rfl,(zo _ _).seqT h1,(zo _ _).seqT h3,fun z=>hd (ID (by rw [<-l1,z];rfl)),by rw [l1,l2];exact Gj (yz hl),fun z=>absurd (ID (by rw [<-l2,z];rfl)) he,fun _ p hn=>?_⟩;have g3:Goes f H2 (upd H2 p (.tup (xs++ys))):=.of_same (yf hn _) g2.ok;exact q (.tuple (ds++es)) _ _ (g1.trans (g2.trans g3)) (zS.mpr ⟨p,_,rfl,.of (zL (fresh_ne g2.ok hn) zK),Reps.mono g3.sm _ _ (h2.append h4)⟩) p2
theorem nW (h:PAd K f t ρ fun xs=>(∃ ds,xs=[.dat (.list ds)]/\P (.tuple ds)) \/ (∃ ds,xs=[.dat (.tuple ds)]/\P (.tuple ds))) :
  PEd K f (tCB (fun xs H Q=>∃ p ys,xs=[.ref p]/\((SqL K H p ys/\∀ l,H l=none->Q (.ref l) (upd H l (.tup ys))) \/ (SqT K H p ys/\Q (.ref p) H))) t) ρ P :=
 mq fun σ H Q e q=>h σ H Q e fun xs vs H' g r p=>by
  rcases p with⟨ds,rfl,p⟩ | ⟨ds,rfl,p⟩
  ·refine q _ vs H' g r ⟨_,rfl,fun vs H Q fo rs k=>?_⟩;obtain⟨x,r,rfl,h2,h3⟩:=zC.mp rs;rw [zR.mp h3];obtain⟨a,ys,rfl,s1,s2⟩:=zG.mp h2;refine⟨a,ys,rfl,.inl ⟨(zo _ _).seq s1,fun l hn=>?_⟩⟩;have g2:Goes f H (upd H l (.tup ys)):=.of_same (yf hn _) fo;exact k (.tuple ds) _ _ g2 (zS.mpr ⟨l,ys,rfl,.of (zL (fresh_ne fo hn) zK),Reps.mono g2.1 ds ys s2⟩) p
  ·refine q _ vs H' g r ⟨_,rfl,fun vs H Q fo rs k=>?_⟩;obtain⟨x,r,rfl,h2,h3⟩:=zC.mp rs;rw [zR.mp h3];obtain⟨a,ys,rfl,s1,s2⟩:=zS.mp h2;exact⟨a,ys,rfl,.inr ⟨(zo _ _).seqT s1,k (.tuple ds) _ H (.refl fo) (zS.mpr ⟨a,ys,rfl,s1,s2⟩) p⟩⟩
end
noncomputable abbrev f0:Fx:=⟨none,[]⟩
theorem fok0 (H:Hp):FOk f0 H:=⟨(fun p e=>by cases e),(fun b hb=>by cases hb),(fun p e=>by cases e)⟩
theorem DU {H H':Hp} (s:Same H H'):Goes f0 H H':=.of_same s (fok0 H)
theorem same0 {H H':Hp} (g:Goes f0 H H'):Same H H':=fun b o h=>(zY (g.sm b o (by rw [jl];exact h))).2
noncomputable def gS:Option DV->Option DV
 | some (.dat d)=>some (.dat d)
 | _=>none
section
variable {K:EI} {ρ:zw} {te:TE} {tu:TS} {i:Nat}
theorem dZ {p:EL} {σ:St} {H:Hp} (e:EnvOk K ⟨some p,[]⟩ ρ σ H):EnvOk K f0 (ρ.map gS) σ H:=by
 refine⟨by rw [EF];exact e.len,fun i x h=>?_,fok0 H⟩;rw [EO] at h;cases eq:ρ[i]? with
 | none=>rw [eq] at h;cases h
 | some y =>
  rw [eq] at h;cases y with
  | none=>cases h
  | some y =>
   obtain⟨v,h1,h2⟩:=e.get i y eq;cases y with
   | dat d =>
    cases h;refine⟨v,h1,?_⟩;show Rep K (hide H f0) d v;rw [jl];exact Rep.mono (zo _ _) d v h2
   | feed=>cases h
   | own k=>cases h
   | exc C=>cases h
   | mon φ=>cases h
theorem CF {Dn:DEnds} (h:∀ (σ:St) (H:Hp) (Q:VK),EnvOk K f0 ρ σ H->(∀ (p:EL) (x y:Int) (H':Hp),Same H H'->H p=none->H' p=some (.lst [.int x,.int y])->0<=x->0<=y->y<2147483647->Q (.ref p) H')->te σ H Q)
  (hr:∀ p,PSd K ⟨some p,[]⟩ tu (ρ.set i (some .feed)) { nx:=fun ρ'=>Dn.nx (ρ'.map gS),rt:=Dn.rt,bk:=fun ρ'=>Dn.bk (ρ'.map gS),ct:=fun ρ'=>Dn.ct (ρ'.map gS) }) :
  PSd K f0 (bo (aH te (jD i)) tu) ρ Dn:=fun σ H E e n r b k=>h σ H _ e fun p x y H1 sm hn hp x0 y0 y1=>by
 have fo:FOk ⟨some p,[]⟩ H1:=⟨fun p' e=>by cases e;exact⟨x,y,hp,x0,y0,y1⟩,(fun b hb=>by cases hb),fun _ _ hb=>by cases hb⟩;have sm0:Same H (hide H1 ⟨some p,[]⟩):=fun b o hb=>by
  have nb:b≠p:=fun e=>by rw [e,hn] at hb;cases hb
  refine zL (fun z=>?_) (sm b o hb);rcases z with z | z
  ·cases z;exact nb rfl
  ·cases z
 have e1:EnvOk K ⟨some p,[]⟩ ρ σ H1:=by
  refine⟨e.len,fun j z hz=>?_,fo⟩;obtain⟨v,a1,a2⟩:=e.get j z hz;refine⟨v,a1,?_⟩;cases z with
  | dat d =>
   have a2':Rep K (hide H f0) d v:=a2;rw [jl] at a2';exact Rep.mono sm0 d v a2'
  | feed=>obtain⟨q,hq,_⟩:=a2;cases hq
  | own k=>obtain⟨q,hq,_⟩:=a2;cases hq
  | exc C =>
   obtain⟨q,h3,h4⟩:=a2;refine⟨q,h3,sm0 _ _ ?_⟩;rw [jl] at h4;exact h4
  | mon φ =>
   intro H' s;refine a2 H' (Same.trans ?_ s);rw [jl];exact sm0
 have gg:∀ {H':Hp},Goes ⟨some p,[]⟩ H1 H'->Goes f0 H H':=fun g=>DU fun b o hb=>zo _ _ b o (g.sm b o (sm0 b o hb));refine hr p _ H1 E (e1.set i (x:=.feed) ⟨p,rfl,rfl⟩) (fun ρ' σ' H' g' e' p'=>n _ σ' H' (gg g') (dZ e') p') (fun d v H' g' r' p'=>r d v H' (gg g') ?_ p') (fun ρ' σ' H' g' e' p'=>b _ σ' H' (gg g') (dZ e') p') (fun ρ' σ' H' g' e' p'=>k _ σ' H' (gg g') (dZ e') p');rw [jl];exact Rep.mono (zo _ _) d v r'
end
section
variable {X:Cx} {K:EI}
def DW (i j:Int):Prop:=0<j/\j<1152921504606846976
theorem d5:OpR X (binaryOp .FloorDiv) (rI DW fun i j=>.int (i / j)):=opI fun i j _ _ _ _ _ hc q=>by
 obtain⟨h1,h2⟩:=hc;rw [<-Hr i (Int.le_of_lt h1)] at q;refine floordiv_int (by omega) q (.inl (Jk ?_));have h0:j.natAbs≠0:=by omega
 have:j.natAbs.log2<60:=(Ko h0).mpr (by omega);omega
theorem kq (hK:X.K=K):SlR X (xU K):=hK▸xV
theorem uG (hK:X.K=K):OpR X (binaryOp .Add) (uo K):=hK▸xS
end
section
variable {K:EI} {f:Fx} {ρ:zw} {wi:TI} {g:TG} {tt:TT} {own:Nat} {fr:List Nat} {tb:EL->TB} {P:List PyData->Prop}
theorem kr {α:Type} {A B:α->PyData} (xs:List α) (h:PId K f wi ρ fun ds=>ds=xs.map A/\xs.length<=1000 /\
   (∀ D x ρ' es,x∈xs->OwnE own (frD fr ρ) ρ'->es.length<1000->PGd K (f.with D) g (A x) ρ' fun ρ2=>PTd K (f.with D) tt ρ2 fun b=>if b=true then PBd K f D (tb D) ρ2 es fun ρ3 es3=>OwnE own (frD fr ρ) ρ3/\es3=es++[B x] else False)/\P (xs.map B)) :
  PEdO K f (vO wi own fr g tt tb) ρ P :=
 vY (h.imp fun ds ⟨ed,hl,hs,hp⟩=>by
  subst ed;refine⟨fun i ρ' es=>OwnE own (frD fr ρ) ρ'/\es=(xs.take i).map B,⟨⟨Ha own none,by simp,rfl⟩,by simp⟩,fun D i d ρ' es hd ⟨ho,he⟩=>?_,fun ρ' es ⟨_,he⟩=>?_⟩
  ·rw [EO] at hd;cases eq:xs[i]? with
   | none=>rw [eq] at hd;cases hd
   | some x =>
    rw [eq] at hd;cases hd;have hi:i<xs.length:=(EH.mp eq).1;have hb:es.length<1000:=by
     rw [he,EF,Fo];omega
    intro σ H v Q e r q;refine hs D x ρ' es (EK eq) ho hb σ H v Q e r fun ρ2 σ2 H2 g2 e2 p2=>q ρ2 σ2 H2 g2 e2 (p2.imp fun b hb2=>?_);cases b with
    | false =>
     rw [Kv EG] at hb2;exact hb2.elim
    | true =>
     rw [Kw rfl] at hb2 ⊢;intro h1 h2 σ3 H3 H4 W c k;exact hb2 h1 h2 σ3 H3 H4 W c fun ρ5 es5 σ5 H5 c5 ⟨o5,p5⟩=>k ρ5 es5 σ5 H5 c5 ⟨o5,by rw [p5,he,FN,eq,E9];rfl⟩
  ·rw [he,EF,Fq];exact hp)
end
structure XLie (P:Program) (w:World) (outer:List Env) (H:Hp) (s:Shared) (e:EL) (C:Value) (H':Hp) (s':Shared):Prop where
 os:s'.os=s.os
 bare:AllBare s'.gens
 un:Un (frs outer) [] H H' s.heap s'.heap
 hok:HOk P w H' s'.heap
 fly:∃ B a0,Heap.FlyingW B outer e C a0 s'.heap/\(∀ b o,s.heap.get? b=some o->b∉frs outer->∃ o',B.get? b=some o')/\∀ b o,H' b=some o->∃ o',B.get? b=some o'
 new:s.heap.get? e=none
 free:H' e=none
def CXe (P:Program) (w:World):CXT:=fun outer H s E e s'=>∃ a C H',e=.ref a/\XLie P w outer H s a C H' s'/\E C none H'
end L2
end
section
namespace L2
open PySem PySem.Spec PyProof.Rows
end L2
end
section
namespace L2
open PySem PySem.Spec PySem.W PyProof.Rows PySem.Calls PySem.Builtin Builtin Builtin.ObjectAttr Builtin.Getset_descriptor
section
variable {prog:Program} {w:World} {A:Around} {E:Value->Shared->Prop} {s:Shared} {K:EI} {a C:EL}
structure ExcWays (K:EI) (C:EL):Prop where
 ga:findIn K (.ref C) "__getattribute__"=some (some (.builtin "BaseException.__getattribute__"))
 gt:findIn K (.ref C) "__getattr__"=some none
 cl:findIn K (.ref C) "__class__"=some (some (.builtin "object.__class__"))
 gs:specialIn K (.builtin "object.__class__") "__get__"=some (some (.builtin "getset_descriptor.__get__"))
 tk:takesIn K (.builtin "object.__class__")=some true
 ob:mroIn K C (.type "object")=some true
 be:mroIn K C (.type "BaseException")=some true
 iz:(clsIn K C).isSome=true
end
structure FnInX (P:Program) (w:World) (K:EI) (mg:Str->Option Value) (base:Heap) (k:Nat) (x:Str) (ps:List Str) (sp:Sp):Prop where
 ex:∃ (f:EL) (fd:FuncData),FnOk P w K mg base (CXe P w) k f fd ps sp/\mg x=some (.ref f)/\F9 K (.ref f)=true/\Binds K fd ps []
end L2
end
section
namespace L2
open PySem PySem.Spec PyProof.Rows
def CG (K:EI):List V->Hp->VK->Prop:=fun xs H Q=>∃ (a:EL) (bs:List Bool),xs=[.ref a]/\SqL K H a (bs.map V.bl)/\Q (.bl (bs.all id)) H
theorem ku:∀ {bs:List Bool} {us:List Value},Vals (bs.map V.bl) us->us=bs.map Value.bool
 | [],us,r=>by
  cases r;rfl
 | b :: bs,us,r=>by
  cases r with
  | cons h t =>
   rw [ku t];cases (show _=Value.bool b from h);rfl
theorem range_all (bs:List Bool):(E7 bs.length).all (fun i=>bs.getD i false)=bs.all id:=by
 rw [Bool.eq_iff_iff,GD,GD];constructor
 ·intro h b hb;obtain⟨i,hi,rfl⟩:=List.mem_iff_getElem.mp hb;have:=h i (Fe.mpr hi)
  rwa [EE,ED hi] at this
 ·intro h i hi;have hi':=Fe.mp hi;rw [EE,ED hi'];exact h _ (Ff hi')
theorem kx (prog:Program) (w:World) (A:Around) (bs:List Bool):TruthOf prog w A (fun i v=>(bs.map Value.bool).toArray[i]?=some v) (fun i=>bs.getD i false):=by
 intro i v s Q E hv hq;rw [List.getElem?_toArray,EO] at hv;cases eb:bs[i]? with
 | none=>rw [eb] at hv;cases hv
 | some b =>
  rw [eb] at hv;cases hv;dsimp only at hq;rw [EE,eb] at hq;exact ES hq
theorem sj {X:Cx} (hc:X.calm=true):yR X (.builtin "all") (CG X.K):=by
 intro Ku s σ H xs us Q I r h;obtain⟨a,bs,rfl,hq,q⟩:=h;obtain⟨u,rfl,r1⟩:=vals1 r;cases r1;obtain⟨its,rv,p,_⟩:=I.list hq;have hl:=p.isList;rw [ku rv] at hl;have ha:a<s.heap.objs.size:=by
  obtain⟨o,ho,_⟩:=hl;exact E4 ho
 refine call_all_walk (wpAny_pyIter_list hl ?_);have hne:a≠s.heap.objs.size:=Fp ha;refine⟨s.heap.objs.size,_,_,_,_,_,_,rfl,Walks.list (show (X.A.in1).handled=none from I.ok.hd hc) _ a hne _,⟨?_,?_⟩,kx _ _ _ bs,fun h' tk hk=>?_⟩
 ·exact⟨_,Fn _ rfl,rfl,rfl⟩
 ·exact hl.at fun o e=>EU _ e
 ·have kp:∀ b o,s.heap.get? b=some o->h'.get? b=some o:=fun b o e=>hk b o (by
   intro z;have:=E4 e;rw [Fc.mp z] at this;exact Gi _ this) (EU _ e)
  refine⟨.bl _,H,I.kept (t':=tk) kp,?_,q⟩;show Value.bool _=Value.bool _;rw [E3,EF,range_all]
theorem fM {X:Cx} {K:EI} (hK:X.K=K) (hc:X.calm=true):yR X (.builtin "all") (CG K):=hK▸sj hc
section
variable {K:EI} {f:Fx} {ρ:zw} {P:PyData->Prop} {te:TE}
theorem d6 {H:Hp}:∀ {bs:List Bool} {xs:List V},Reps K H (bs.map .bool) xs->xs=bs.map V.bl
 | [],xs,r=>zR.mp r
 | b :: bs,xs,r=>by
  obtain⟨x,r',rfl,h1,h2⟩:=zC.mp r;rw [d6 h2,zW.mp h1];rfl
theorem BE (h:PEd K f te ρ fun x=>∃ bs:List Bool,x=.list (bs.map .bool)/\P (.bool (bs.all id))):PEd K f (tCB (CG K) (z7 te qv)) ρ P:=fun σ H Q e q=>h σ H _ e fun x v H1 g1 r1 ⟨bs,ex,p⟩=>by
 subst ex;obtain⟨a,xs,rfl,h1,h2⟩:=zG.mp r1;rw [d6 h2] at h1;exact⟨a,bs,rfl,(zo _ _).seq h1,q _ _ H1 g1 (zW.mpr rfl) p⟩
end
section
variable {prog:Program} {w:World} {A:Around} {E:Value->Shared->Prop}
theorem fN {I:EL} {fp wr:List EL} {n:Nat} {P:Nat->Value->Prop} {St:Nat->Heap->Prop} (W:Walks prog w A I fp wr n P St):∀ (k i:Nat) (s:Shared) (Q:List Value->Shared->Prop),i+k<=n->St i s.heap ->
  (∀ vs h' tk,vs.length=k->(∀ (j:Nat) v,vs[j]?=some v->P (i+j) v)->St (i+k) h'->(∀ b o,b∉wr->s.heap.get? b=some o->h'.get? b=some o)->Q vs { s with heap:=h',toks:=tk })->Fd (model prog w) A (draw (.ref I) k) Q E s
 | 0,i,s,Q,_,st,hQ=>ES (hQ [] s.heap s.toks rfl (fun j v e=>by simp at e) st fun _ _ _ e=>e)
 | k+1,i,s,Q,hle,st,hQ=>by
  show Fd _ _ (pyNext (.ref I) >>= _) Q E s;refine EJ (W.item i s _ E (by omega) st fun v h1 tk1 hv st1 k1=>?_);refine EJ (FF (fN W k (i+1) _ _ (by omega) st1 fun vs h2 tk2 hl hp st2 k2=>ES ?_));refine hQ (v :: vs) h2 tk2 (by rw [E1,hl]) (fun j u e=>?_) (by rw [show i+(k+1)=i+1+k by omega];exact st2) fun b o hb e=>k2 b o hb (k1 b o hb e);cases j with
  | zero=>cases e;exact hv
  | succ j =>
   have:=hp j u e
   rwa [show i+(j+1)=i+1+j by omega]
theorem mz {s:Shared} {a:EL} {items:Array Value} {targets:List (Bool×(Value->Sem Unit))} {Q:Unit->Shared->Prop} (hh:A.handled=none) (hl:s.heap.IsList a items)
  (hn:targets.length=items.size) (hstar:targets.findIdx? (·.1)=none)
  (h:∀ h' tk,(∀ b o,s.heap.get? b=some o->h'.get? b=some o)->Fd (model prog w) A (assignInOrder (targets.map (·.2)) items.toList) Q E { s with heap:=h',toks:=tk }):Fd (model prog w) A (unpack (.ref a) targets) Q E s:=by
 have ha:a<s.heap.objs.size:=by
  obtain⟨o,ho,_⟩:=hl;exact E4 ho
 unfold unpack;rw [hn,hstar];refine EJ (FF ?_);unfold unpackItems;refine EJ ?_;unfold notIterableAtAll;refine EJ (Hn hl.typeIs slot_list_iter.lookup (ES ?_));simp only [Fz,if_false];refine EJ (FF (wpAny_pyIter_list hl ?_));have W:=Walks.list (prog:=prog) (w:=w) hh s.heap.objs.size a (Fp ha) items;have fr:∀ b o,s.heap.get? b=some o->b∉[s.heap.objs.size]:=fun b o e z=>by
  have:=E4 e;rw [Fc.mp z] at this;exact Gi _ this
 refine EJ (FF (fN W items.size 0 _ _ (by omega) ⟨⟨_,Fn _ rfl,rfl,rfl⟩,hl.at fun o e=>EU _ e⟩ fun vs h1 tk1 hvl hp st1 k1=>?_));have ev:vs=items.toList:=by
  refine Ij fun j=>?_;by_cases hj:j<vs.length
  ·have:=hp j _ (ED hj);rw [JB] at this;rw [ED hj,<- this,JN]
  ·rw [Fl (by omega),Fl (by rw [E5];omega)]
 subst ev;rw [Kv (by simp)];rw [JB] at st1;refine EJ (FF (W.done _ _ _ st1 fun h2 tk2 k2=>?_));simp only [Option.isSome_none,Fz,if_false];exact ES (h h2 tk2 fun b o e=>k2 b o (fr b o e) (k1 b o (fr b o e) (EU _ e)))
end
def DX (K:EI) (n:Nat) (gs:TGs):TG:=fun v σ H Q=>∃ a xs,v=.ref a/\SqL K H a xs/\xs.length=n/\gs xs σ H Q
theorem gT {X:Cx} {K:EI} {es:List Expr} {k:Nat} {t:TGs} {n:Nat} {pos:Pos} (hK:X.K=K) (hc:X.calm=true) (h:PGs X es t)
  (hn:(assignEach es X.env).length=n:=by rfl) (hst:(assignEach es X.env).findIdx? (·.1)=none:=by rfl):PG X (.Tuple es k pos) (DX K n t):=by
 subst hK;intro Ku s σ H v u Q I r hw;obtain⟨a,xs,e1,hq,hl,hw⟩:=hw;subst e1;cases r;obtain⟨its,rv,p,hz⟩:=I.list hq;rw [assign_Tuple];refine EJ (wpAny_standAt (mz (I.ok.hd hc) p.isList (by rw [hn,<- hl,rv.length,E3]) hst fun h' tk kp=>?_));exact h Ku _ σ H xs _ Q (I.kept (t':=tk) kp) rv hw
section
variable {K:EI} {f:Fx} {ρ:zw}
theorem uH {n:Nat} {gs:TGs} {ds:List PyData} {R:zw->Prop} (hn:ds.length=n) (h:uw K f gs ds ρ R):PGd K f (DX K n gs) (.list ds) ρ R:=fun σ H v Q e r q=>by
 obtain⟨a,xs,rfl,h1,h2⟩:=zG.mp r;exact⟨a,xs,rfl,(zo _ _).seq h1,by rw [h2.length];exact hn,h σ H xs Q e h2 q⟩
end
def CH (K:EI) (neg:Bool):R2:=fun x y H Q=>∃ d ds,Rep K H d x/\Rep K H (.list ds) y/\d.canLay0=true/\(∀ e∈ds,e.canLay0=true)/\d.depth<=50/\Q (.bl (if neg then !ds.any (fun e=>Fi e d) else ds.any (fun e=>Fi e d))) H
open Classical in
noncomputable def eqR (h:Heap) (d:PyData) (u:Value):Bool:=if z:∃ e as,Reads h u e as/\e.canLay0=true then Fi z.choose d else false
theorem uI {h:Heap} {d e:PyData} {u:Value} {as:List EL} (r:Reads h u e as) (c:e.canLay0=true):eqR h d u=Fi e d:=by
 have z:∃ e as,Reads h u e as/\e.canLay0=true:=⟨e,as,r,c⟩;unfold eqR;rw [dif_pos z];obtain⟨as',r',c'⟩:=z.choose_spec;rw [SeqAt.Reads.unique _ _ _ _ _ c' r' r]
section
variable {X:Cx} {Ku:List (EL×Obj)} {σ:St} {H:Hp} {s:Shared}
theorem nX (I:Inv X Ku σ H s) {d:PyData}:∀ {ds:List PyData} {xs:List V} {us:List Value},Reps X.K H ds xs->Vals xs us->(∀ e∈ds,e.canLay0=true)->us.any (eqR s.heap d)=ds.any (fun e=>Fi e d)
 | [],xs,us,r,v,_=>by
  rw [zR.mp r] at v;cases v;rfl
 | e :: ds,xs,us,r,v,c=>by
  obtain⟨x,xs',rfl,h1,h2⟩:=zC.mp r;cases v with
  | cons r1 r2 =>
   obtain⟨as,ra⟩:=jt I e x _ h1 r1;rw [Jj,Jj,uI ra (c e ET),nX I h2 r2 fun e he=>c e (EM _ he)]
theorem ky (I:Inv X Ku σ H s) {A:Around} {d:PyData} {v:Value} {bs:List EL} (rb:Reads s.heap v d bs) (cd:d.canLay0=true) (dd:d.depth<=50) (hu:A.units+60<Gr):∀ {ds:List PyData} {xs:List V} {us:List Value},Reps X.K H ds xs->Vals xs us->(∀ e∈ds,e.canLay0=true)->∀ u∈us,SeqAt.EqAt A s u v (eqR s.heap d u)
 | [],xs,us,r,w,_=>by
  rw [zR.mp r] at w;cases w;intro u hu;cases hu
 | e :: ds,xs,us,r,w,c=>by
  obtain⟨x,xs',rfl,h1,h2⟩:=zC.mp r;cases w with
  | cons r1 r2 =>
   intro u hm;rcases EW.mp hm with rfl | hm
   ·obtain⟨as,ra⟩:=jt I e x _ h1 r1;rw [uI ra (c e ET)];refine SeqAt.eqAt_reads e d A s _ v as bs ra rb (c e ET) cd ?_;have:=Nat.min_le_right e.depth d.depth;omega
   ·exact ky I rb cd dd hu h2 r2 (fun e he=>c e (EM _ he)) u hm
theorem sk {K:EI} (hK:X.K=K):OpR X (F5 .NotIn) (rIn K true):=hK▸gM
end
section
variable {K:EI} {f:Fx} {ρ:zw} {P:PyData->Prop} {te ta tb:TE} {t:TA} {D:DEnds} {i j:Nat}
theorem uJ (h:PEd K f ta ρ fun d=>∃ n:Int,d=.int n/\PEd K f tb ρ fun y=>∃ ns:List Int,y=.tuple (ns.map .int)/\P (.bool (!ns.contains n))):PEd K f (tOp (rIn K true) ta tb) ρ P:=fun σ H Q e q =>
 h σ H _ e fun d v H1 g1 r1 ⟨n,ed,p1⟩=>p1 σ H1 _ (e.mono g1) fun y w H2 g2 r2 ⟨ns,ey,p2⟩=>by
  subst ed ey;obtain⟨a,xs,rfl,h1,h2⟩:=zS.mp r2;have ex:=h2.ints;subst ex;rw [zt.mp r1];have e1:inV (.int n) (ns.map V.int)=ns.contains n:=by
   unfold inV;rw [List.any_map,List.contains_eq_any_beq]
   congr 1
   funext m
   show (m == n)=(n == m);exact BEq.comm
  refine⟨a,_,rfl,.inr ((zo _ _).seqT h1),rfl,?_,?_⟩
  ·rw [List.all_map];exact GD.mpr fun _ _=>rfl
  ·rw [Kw rfl,e1];exact q _ _ H2 (g1.trans g2) (zW.mpr rfl) p2
theorem BF (h:PAd K f t ρ fun xs=>∃ d d',xs=[.dat d,.dat d']/\D.nx ((ρ.set i (some (.dat d))).set j (some (.dat d')))):PSd K f (DI i j t) ρ D:=fun σ H E e n r b c =>
 h σ H _ e fun xs vs H1 g1 r1 ⟨d,d',ex,p⟩=>by
  subst ex;cases r1 with
  | cons ra rs =>
   cases rs with
   | cons rb rs =>
    cases rs;exact⟨_,_,rfl,n _ _ H1 g1 (((e.mono g1).set i (x:=.dat d) ra).set j (x:=.dat d') rb) p⟩
end
section
variable {K:EI} {f:Fx} {ρ:zw} {D:DEnds}
theorem Ad {tc:TT} {tb:TS} (J:zw->Prop) (μ:zw->Nat) (h0:J ρ)
  (hs:∀ ρ',J ρ'->PTd K f tc ρ' fun b=>if b=true then PSd K f tb ρ' { D with nx:=fun r=>J r/\μ r<μ ρ',ct:=fun r=>J r/\μ r<μ ρ',bk:=D.nx } else D.nx ρ'):PSd K f (l5 tc tb) ρ D:=fun σ H E e n r b c=>by
 refine⟨fun m σ' H'=>∃ ρ',EnvOk K f ρ' σ' H'/\Goes f H H'/\J ρ'/\m=μ ρ',⟨_,ρ,e,.refl e.fd,h0,rfl⟩,?_⟩;rintro m σ1 H1 ⟨ρ1,e1,g1,j1,rfl⟩;refine hs ρ1 j1 σ1 H1 _ e1 fun t H2 g2 p=>?_;cases t with
 | true =>
  rw [Kw rfl] at p ⊢;refine⟨fun σ' H'=>∃ ρ',EnvOk K f ρ' σ' H'/\Goes f H H'/\J ρ'/\μ ρ'<μ ρ1,fun σ' H' ⟨ρ',e',g',j',l'⟩=>⟨_,l',ρ',e',g',j',rfl⟩,?_⟩;have gg:=g1.trans g2;exact p σ1 H2 _ (e1.mono g2) (fun ρ5 σ5 H5 g5 e5 p5=>⟨ρ5,e5,gg.trans g5,p5⟩) (fun d v H5 g5 r5 p5=>r d v H5 (gg.trans g5) r5 p5) (fun ρ5 σ5 H5 g5 e5 p5=>n ρ5 σ5 H5 (gg.trans g5) e5 p5) (fun ρ5 σ5 H5 g5 e5 p5=>⟨ρ5,e5,gg.trans g5,p5⟩)
 | false =>
  rw [Kv EG] at p ⊢;exact n ρ1 σ1 H2 (g1.trans g2) (e1.mono g2) p
end
section
variable {K:EI} {f:Fx} {ρ:zw} {E:XK} {te:TE} {ts tu:TS} {tt:TT} {t:TA} {P:PyData->Prop} {D:DEnds}
theorem uK (h:PEd K f te ρ fun x=>∃ i,x=.int i/\P (.int (-i))):PEd K f (tUn (rU fun i=>.int (-i)) te) ρ P :=
 Et (h.imp fun x ⟨i,ex,p⟩ v H Q fo r q=>by
  subst ex;exact⟨i,zt.mp r,q _ _ H (.refl fo) (zt.mpr rfl) p⟩)
end
section
variable {X:Cx}
theorem sr (hu:X.A.units+64<Gr):OpR X (F5 .NotIn) (CH X.K true):=by
 intro Ku s σ H x y v u Q I rx ry h;obtain⟨d,ds,h1,h2,c1,c2,dd,q⟩:=h;obtain⟨a,xs,rfl,hq,hr⟩:=zG.mp h2;cases ry;obtain⟨bs,rb⟩:=jt I d x v h1 rx;obtain⟨its,r,pl,hz⟩:=I.list hq;refine SeqAt.notIn_listAt (eqR s.heap d) pl.isList (fun w hw=>ky I rb c1 dd (show X.A.in1.units+60<Gr from by show X.A.units+1+60<Gr;omega) hr r c2 w (by simpa using hw)) ⟨.bl _,H,I,rfl,?_⟩;rw [show its.toArray.any (eqR s.heap d)=its.any (eqR s.heap d) by simp,nX I hr r c2];exact q
theorem mB {K:EI} (hK:X.K=K) (hu:X.A.units+64<Gr):OpR X (F5 .NotIn) (CH K true):=hK▸sr hu
end
section
variable {K:EI} {f:Fx} {ρ:zw} {P:PyData->Prop} {te ta tb:TE}
theorem uL (h:PEd K f ta ρ fun d=>PEd K f tb ρ fun y=>∃ ds,y=.list ds/\d.canLay0=true/\(∀ e∈ds,e.canLay0=true)/\d.depth<=50/\P (.bool (!ds.any fun e=>Fi e d))):PEd K f (tOp (CH K true) ta tb) ρ P:=fun σ H Q e q =>
 h σ H _ e fun d v H1 g1 r1 p1=>p1 σ H1 _ (e.mono g1) fun y w H2 g2 r2 ⟨ds,ey,c1,c2,dd,p2⟩=>by
  subst ey;exact⟨d,ds,Rep.mono (zo _ _) _ _ (Rep.mono g2.sm _ _ r1),Rep.mono (zo _ _) _ _ r2,c1,c2,dd,q _ _ H2 (g1.trans g2) (zW.mpr rfl) p2⟩
end
end L2
end
section
namespace L2
open PySem PySem.Spec PyProof.Rows
def CI (K:EI):List V->Hp->VK->Prop:=fun xs H Q=>∃ (a:EL) (ns:List Int),xs=[.ref a]/\SqL K H a (ns.map V.int)/\Q (.int ns.sum) H
theorem su {X:Cx} (hc:X.calm=true):yR X (.builtin "sum") (CI X.K):=by
 intro Ku s σ H xs us Q I r h;obtain⟨a,ns,rfl,hq,q⟩:=h;obtain⟨u,rfl,r1⟩:=vals1 r;cases r1;obtain⟨its,rv,p,_⟩:=I.list hq;have hl:=p.isList;have hi:IntsAre its ns:=intsAre_of rv;obtain⟨zs,ez⟩:=hi.allInts.items;rw [ez] at hl;refine sum_intListG (show (X.A).handled=none from I.ok.hd hc) hl fun h' tk t' kp=>⟨.int _,H,I.kept (t':=tk) kp,⟨_,rfl⟩,?_⟩;have e:preSum (numAt zs) zs.size=ns.sum:=by
  rw [<-hi.numsOf,show its=its.toArray.toList from rfl,ez,nums_intItems,preSum_eq,Ii (by simp)]
 rw [e];exact q
theorem mC {X:Cx} {K:EI} (hK:X.K=K) (hc:X.calm=true):yR X (.builtin "sum") (CI K):=hK▸su hc
section
variable {K:EI} {f:Fx} {ρ:zw} {P:PyData->Prop} {te:TE}
theorem DY (h:PEd K f te ρ fun x=>∃ ns:List Int,x=.list (ns.map .int)/\P (.int ns.sum)):PEd K f (tCB (CI K) (z7 te qv)) ρ P:=fun σ H Q e q=>h σ H _ e fun x v H1 g1 r1 ⟨ns,ex,p⟩=>by
 subst ex;obtain⟨a,xs,rfl,h1,h2⟩:=zG.mp r1;rw [h2.ints] at h1;exact⟨a,ns,rfl,(zo _ _).seq h1,q _ _ H1 g1 (zt.mpr rfl) p⟩
end
section
variable {prog:Program} {w:World} {A:Around} {E:Value->Shared->Prop} {s:Shared}
theorem Ae {t b:EL} {vs ws:List Value} {Q:Value->Shared->Prop} (ht:PlainL s.heap t vs.toArray) (hb:PlainL s.heap b ws.toArray)
  (h2:Q (.ref s.heap.objs.size) { s with heap:=s.heap.push { cls:=.type "list",data:=.seq (vs++ws).toArray } })
  (hsz:vs.length+ws.length<=Fu):Fd (model prog w) A (binaryOp .Add (.ref t) (.ref b)) Q E s:=by
 obtain⟨⟨cls,dd,data,sl⟩,n,ho,hc,_,hd⟩:=ht;obtain⟨⟨cls2,dd2,data2,sl2⟩,n2,ho2,hc2,_,hd2⟩:=hb;simp only at hc hd hc2 hd2;subst hc hd hc2 hd2;have e:vs.toArray++ws.toArray=(vs++ws).toArray:=by simp
 refine concat_meets ⟨_,ho,rfl⟩ ⟨_,ho2,rfl⟩ noFill_list_add seq_list_add PySem.F.slot_list_add PySem.F.entry_list_add (PySem.F.args_list_add_2 _ _) (list_addW t b vs.toArray ws.toArray n n2 dd dd2 sl sl2 (by rw [E3,E3];exact hsz)) ⟨ho,ho2,?_⟩;rw [e];exact h2
end
def uM (K:EI):R2:=fun x y H Q=>∃ l b xs zs,x=.ref l/\y=.ref b/\SqL K H l xs/\SqL K H b zs/\xs.length+zs.length<=Fu/\∀ p,H p=none->Q (.ref p) (upd H p (.lst (xs++zs)))
section
variable {X:Cx}
theorem Af:OpR X (binaryOp .Add) (uM X.K):=by
 intro Ku s σ H x y v u Q I rx ry h;obtain⟨l,b,xs,zs,rfl,rfl,ha,hb,hz,q⟩:=h;cases rx;cases ry;obtain⟨its,r1,p1,_⟩:=I.list ha;obtain⟨its2,r2,p2,_⟩:=I.list hb;refine Ae p1 p2 ?_ (by rw [<-r1.length,<- r2.length];exact hz);exact⟨.ref _,_,I.lnew (t':=s.toks) (r1.append r2) (by rw [EY];omega),rfl,q _ I.fresh⟩
theorem kA {K:EI} (hK:X.K=K):OpR X (binaryOp .Add) (uM K):=hK▸Af
end
section
variable {K:EI} {f:Fx} {ρ:zw} {P:PyData->Prop} {te ta tb:TE} {t:TA}
theorem uN (h:PEd K f ta ρ fun x=>∃ ds,x=.list ds/\PEd K f tb ρ fun y=>∃ es,y=.list es/\ds.length+es.length<=1000/\P (.list (ds++es))):PEd K f (tOp (uM K) ta tb) ρ P:=fun σ H Q e q =>
 h σ H _ e fun x v H1 g1 r1 ⟨ds,ex,p1⟩=>p1 σ H1 _ (e.mono g1) fun y w H2 g2 r2 ⟨es,ey,hl,p2⟩=>by
  subst ex ey;obtain⟨a,xs,rfl,h1,h2⟩:=zG.mp (Rep.mono g2.sm _ _ r1);obtain⟨b,ys,rfl,h3,h4⟩:=zG.mp r2;have l1:=h2.length;have l2:=h4.length;refine⟨a,b,xs,ys,rfl,rfl,(zo _ _).seq h1,(zo _ _).seq h3,by rw [l1,l2];exact Gj (yz hl),fun p hn=>?_⟩;have g3:Goes f H2 (upd H2 p (.lst (xs++ys))):=.of_same (yf hn _) g2.ok;exact q (.list (ds++es)) _ _ (g1.trans (g2.trans g3)) (zG.mpr ⟨p,_,rfl,.of (zL (fresh_ne g2.ok hn) zK),Reps.mono g3.sm _ _ (h2.append h4)⟩) p2
theorem d7 {R:List PyData->Prop} (h:PAd K f t ρ fun xs=>∃ ds,vj xs=some ds/\ds.length<=1000/\R ds):PEdO K f (uk t) ρ R:=fun σ H Q e q =>
 h σ H _ e fun xs vs H1 g1 r1 ⟨ds,ea,hl,p⟩=>by
  have rs:=au r1 ea;refine⟨by rw [rs.length];exact Gj (yz hl),fun l hn=>?_⟩;have g2:Goes f H1 (upd H1 l (.lst vs)):=.of_same (yf hn _) g1.2;have nl:=fresh_ne g1.2 hn;refine q ds l vs _ (g1.trans g2) (g1.free e.fd hn) zK (Reps.mono (fun b o hb=>?_) _ _ rs) p;have hb':=zY hb;have hbl:b≠l:=fun z=>by
   have:=hb'.2;rw [z,hn] at this;cases this
  refine zL (fun z=>?_) (by rw [zM hbl];exact hb'.2);rcases z with z | z
  ·exact hb'.1 (.inl z)
  ·rcases EW.mp z with z | z
   ·exact hbl z
   ·exact hb'.1 (.inr z)
end
def spN {γ:Type} (K:EI) (n:Nat) (pre:γ->List DV->Prop) (post:γ->List PyData->Prop):Sp:=fun vs H Q _=>∃ f xs c,RepVs K f H xs vs/\xs.length=n/\FOk f H/\pre c xs /\
 ∀ es D vs' H',Goes f H H'->H D=none->H' D=some (.lst vs')->Reps K (hide H' (f.with D)) es vs'->post c es->Q (.ref D) H'
def PSn (K:EI) (f:Fx) (ts:TS) (ρ:zw) (R:List PyData->Prop):Prop:=∀ (σ:St) (H:Hp) (E:Ends),EnvOk K f ρ σ H ->
 (∀ es D vs H',Goes f H H'->H D=none->H' D=some (.lst vs)->Reps K (hide H' (f.with D)) es vs->R es->E.rt (.ref D) H')->ts E σ H
section
variable {K:EI} {f:Fx} {ρ:zw} {R:List PyData->Prop} {te:TE} {ts tu:TS} {tt:TT} {t:TA} {i:Nat} {D:EL} {es:List PyData} {O:OEnds}
theorem fO (h:PEdO K f te ρ R):PSn K f (iU te) ρ R:=fun σ H E e q=>h σ H E.rt e q
theorem bC (h:PSd K f ts ρ { nx:=fun ρ'=>PSn K f tu ρ' R,rt:=fun _=>False }):PSn K f (bo ts tu) ρ R:=fun σ H E e q =>
 h σ H _ e (fun ρ' σ' H' g' e' p=>p σ' H' E e' fun es D vs H2 g2 hn h1 rs r=>q es D vs H2 (g'.trans g2) (g'.free e.fd hn) h1 rs r) (fun _ _ _ _ _ z=>z.elim) (fun _ _ _ _ _ z=>z.elim) (fun _ _ _ _ _ z=>z.elim)
theorem BG (h:PTd K f tt ρ fun b=>if b=true then PEdO K f te ρ R else PSn K f tu ρ R):PSn K f (bo (rL tt (iU te) iS) tu) ρ R:=fun σ H E e q =>
 h σ H _ e fun b H1 g1 p=>by
  have q1:∀ es D vs H',Goes f H1 H'->H1 D=none->H' D=some (.lst vs)->Reps K (hide H' (f.with D)) es vs->R es->E.rt (.ref D) H':=fun es D vs H' g' hn=>q es D vs H' (g1.trans g') (g1.free e.fd hn);cases b with
  | true=>rw [Kw rfl] at p ⊢;exact p σ H1 E.rt (e.mono g1) q1
  | false=>rw [Kv EG] at p ⊢;exact p σ H1 E (e.mono g1) q1
theorem gU {γ:Type} {n:Nat} {pre:γ->List DV->Prop} {post:γ->List PyData->Prop} {E:XK} (c:γ) (h:PAd K f t ρ fun xs=>xs.length=n/\pre c xs/\∀ es,post c es->R es):PEdO K f (qY (spN K n pre post) [] E t) ρ R:=fun σ H Q e q =>
 h σ H _ e fun xs vs H1 g1 r1 ⟨hl,hp,k⟩=>⟨f,xs,c,by rw [FT];exact r1,hl,g1.2,hp,fun es D vs' H' g' hn h1 rs p=>q es D vs' H' (g1.trans g') (g1.free e.fd hn) h1 rs (k es p)⟩
theorem BH {ta tb:TE} (h:PTd K f tt ρ fun b=>if b=true then PEdO K f ta ρ R else PEdO K f tb ρ R):PEdO K f (tIf tt ta tb) ρ R:=fun σ H Q e q =>
 h σ H _ e fun b H1 g1 p=>by
  have q1:∀ es D vs H',Goes f H1 H'->H1 D=none->H' D=some (.lst vs)->Reps K (hide H' (f.with D)) es vs->R es->Q (.ref D) H':=fun es D vs H' g' hn=>q es D vs H' (g1.trans g') (g1.free e.fd hn);cases b with
  | true=>rw [Kw rfl] at p ⊢;exact p σ H1 Q (e.mono g1) q1
  | false=>rw [Kv EG] at p ⊢;exact p σ H1 Q (e.mono g1) q1
end
section
variable {P:Program} {w:World} {K:EI} {mg:Str->Option Value} {base:Heap} {k:Nat} {x:Str} {st:Stmt} {ps:List Str} {N:List Str} {n:Nat} {γ:Type} {pre:γ->List DV->Prop} {post:γ->List PyData->Prop}
theorem Def.okN (F:Def K mg x st ps) (S:FnScope N ps (zi st)) (hn:ps.length=n)
  (h:∀ (fa:EL) (cdv:Value) (A:Around) (outer:List Env) (s:Shared) (H:Hp) (E:XK),Room k (A.deeper (envOfC x (zi st) s.heap.objs.size fa cdv)) ->
   ∃ t,PSs (ye CX0 P w K mg base N x (zi st) fa cdv A outer s H E).nox (yH st) t/\∀ (f:Fx) (xs:List DV) (c:γ),xs.length=n->pre c xs->PSn K f t (qU N xs) (post c)) :
  FnIn P w K mg base (k+1) x ps (spN K n pre post):=by
 obtain⟨fa,fd,F1,F2,F3⟩:=F.ex;refine⟨fa,fd,F1.ok S (fun vs H Q E h=>?_) (fun cdv A outer s H vs Q E hr hs=>?_),F3,F1.kp,F2⟩
 ·obtain⟨f,xs,c,r,hl,_⟩:=h;rw [r.length,hl,hn]
 ·obtain⟨f,xs,c,r,hl,fo,hp,q⟩:=hs;obtain⟨t,h1,h2⟩:=h fa cdv A outer s H E hr;exact⟨t,h1,h2 f xs c hl hp (start N vs) H _ (qZ r fo) (fun es D vs' H' g hn' h1' rs p=>q es D vs' H' g hn' h1' rs p)⟩
end
section
variable {X:Cx} {Ku:List (EL×Obj)} {σ:St} {H:Hp} {s:Shared} {h':Heap}
theorem Inv.keptL {t':Nat} (I:Inv X Ku σ H s) (k:∀ b u,b≠X.env.locals->s.heap.get? b=some u->h'.get? b=some u) (hL:∃ o,h'.get? X.env.locals=some o) (ns:∀ m,s.heap.Ns X.env.locals m->h'.Ns X.env.locals m):Inv X Ku σ H { s with heap:=h',toks:=t' }:=by
 have fL:H X.env.locals=none:=I.free;refine I.step (g':=s.gens) (d':=s.drawn) (ch:=[]) (fun _ z=>nomatch z) (fun b o n _ _ e _=>k b o n e) (fun b o n _ _ e _=>⟨o.slots,k b o n e⟩) (fun b o _ _ e=>e) (fun b o _ e=>?_) (fun _ _ e=>e) (fun _ _ _ e=>e) (fun _ _ e=>e) ns (fun a o e=>(I.hok a o e).stay (fun b u hb q=>k b u (fun z=>?_) q) (fun _ q=>q) fun _ _ q=>q) I.bare
 ·by_cases hb:b=X.env.locals
  ·subst hb;exact hL
  ·exact⟨o,k b o hb e⟩
 ·rcases hb with hb | hb
  ·rw [<-hb,z,fL] at e;cases e
  ·rw [z,fL] at hb;cases hb
end
end L2
end
section
namespace L2
open PySem PySem.W PyProof.Rows
structure Tot (n:Nat) (lt:Nat->Nat->Bool):Prop where
 tri:∀ i j,i<n->j<n->i≠j->lt i j=!lt j i
 tra:∀ i j k,i<n->j<n->k<n->lt i j=true->lt j k=true->lt i k=true
def Ans (cmp:Nat->Nat->(Bool->Shared->Prop)->Shared->Prop) (n:Nat) (lt:Nat->Nat->Bool) (s:Shared):Prop:=∀ i j C,i<n->j<n->C (lt i j) s->cmp i j C s
def Pm (n:Nat) (p:Array Nat):Prop:=p.toList.Perm (E7 n)
def Up (lt:Nat->Nat->Bool) (p:Array Nat) (m:Nat):Prop:=∀ i j,i<j->j<m->lt (p.getD i 0) (p.getD j 0)=true
def Dn (lt:Nat->Nat->Bool) (p:Array Nat) (m:Nat):Prop:=∀ i j,i<j->j<m->lt (p.getD j 0) (p.getD i 0)=true
theorem Pm.size {n:Nat} {p:Array Nat} (h:Pm n p):p.size=n:=by
 have:=h.length_eq
 rwa [E5,FH] at this
theorem qI (p:Array Nat) (i:Nat):p.getD i 0=p.toList.getD i 0:=by
 by_cases h:i<p.size <;> simp [Hj,h,List.getD]
theorem Pm.lt {n:Nat} {p:Array Nat} (h:Pm n p) {i:Nat} (hi:i<n):p.getD i 0<n:=by
 have hs:=h.size;have hl:i<p.toList.length:=by rw [E5,hs];exact hi
 rw [qI,EE,ED hl];exact Fe.mp (h.mem_iff.mp (Ff hl))
theorem Pm.ne {n:Nat} {p:Array Nat} (h:Pm n p) {i j:Nat} (hi:i<n) (hj:j<n) (ne:i≠j):p.getD i 0≠p.getD j 0:=by
 have hs:=h.size;have nd:p.toList.Nodup:=h.nodup_iff.mpr Jt;have li:i<p.toList.length:=by rw [E5,hs];exact hi
 have lj:j<p.toList.length:=by rw [E5,hs];exact hj
 rw [qI,qI,EE,EE,ED li,ED lj];intro e;exact ne ((Hw nd).mp e)
theorem Pm.range (n:Nat):Pm n (Ga (E7 n)):=List.Perm.refl _
theorem Pm.of {n:Nat} {p q:Array Nat} (h:Pm n p) (e:q.Perm p):Pm n q:=(Array.perm_iff_toList_perm.mp e).trans h
theorem nY {p q:Array Nat} {i j:Nat} (h:p[i]?=q[j]?):p.getD i 0=q.getD j 0:=by
 rw [GS,GS,h]
section
variable {cmp:Nat->Nat->(Bool->Shared->Prop)->Shared->Prop} {n:Nat} {lt:Nat->Nat->Bool} {s:Shared} {p:Array Nat}
theorem Up.more (T:Tot n lt) (hp:Pm n p) {m:Nat} (h1:1<=m) (hm:m<n) (u:Up lt p m) (h:lt (p.getD (m - 1) 0) (p.getD m 0)=true):Up lt p (m+1):=fun i j hij hj=>by
 by_cases e:j=m
 ·subst e;by_cases e2:i=j - 1
  ·subst e2;exact h
  ·exact T.tra _ _ _ (hp.lt (by omega)) (hp.lt (by omega)) (hp.lt hm) (u i (j - 1) (by omega) (by omega)) h
 ·exact u i j hij (by omega)
theorem Dn.more (T:Tot n lt) (hp:Pm n p) {m:Nat} (h1:1<=m) (hm:m<n) (u:Dn lt p m) (h:lt (p.getD m 0) (p.getD (m - 1) 0)=true):Dn lt p (m+1):=fun i j hij hj=>by
 by_cases e:j=m
 ·subst e;by_cases e2:i=j - 1
  ·subst e2;exact h
  ·exact T.tra _ _ _ (hp.lt hm) (hp.lt (by omega)) (hp.lt (by omega)) h (u i (j - 1) (by omega) (by omega))
 ·exact u i j hij (by omega)
theorem di (T:Tot n lt) (W:Ans cmp n lt s) (hp:Pm n p) {Q:Nat->Shared->Prop}:∀ f m,1<=m->m+f<=n->Up lt p m->(∀ m',m<=m'->m'<=m+f->Up lt p m'->(m'=m+f \/ lt (p.getD m' 0) (p.getD (m' - 1) 0)=true)->Q m' s)->(kas_asc p f m).kasWp cmp Q s
 | 0,m,h1,hf,u,q=>q m (EN _) (EN _) u (.inl rfl)
 | f+1,m,h1,hf,u,q=>by
  refine W _ _ _ (hp.lt (by omega)) (hp.lt (by omega)) ?_;cases e:lt (p.getD m 0) (p.getD (m - 1) 0) with
  | true=>exact q m (EN _) (by omega) u (.inr e)
  | false =>
   have e2:lt (p.getD (m - 1) 0) (p.getD m 0)=true:=by
    rw [T.tri _ _ (hp.lt (by omega)) (hp.lt (by omega)) (hp.ne (by omega) (by omega) (by omega)),e];rfl
   exact di T W hp f (m+1) (by omega) (by omega) (u.more T hp h1 (by omega) e2) fun m' a b c d=>q m' (by omega) (by omega) c (d.imp (fun z=>by omega) id)
theorem kB (T:Tot n lt) (W:Ans cmp n lt s) (hp:Pm n p) {Q:Array Nat×Nat×Nat->Shared->Prop}:∀ f m,1<=m->m+f<=n->Dn lt p m->(∀ m',m<=m'->m'<=m+f->Dn lt p m'->Q (p,m',0) s)->(kas_desc f p m 0).kasWp cmp Q s
 | 0,m,h1,hf,u,q=>q m (EN _) (EN _) u
 | f+1,m,h1,hf,u,q=>by
  refine W _ _ _ (hp.lt (by omega)) (hp.lt (by omega)) ?_;cases e:lt (p.getD m 0) (p.getD (m - 1) 0) with
  | true=>exact kB T W hp f (m+1) (by omega) (by omega) (u.more T hp h1 (by omega) e) fun m' a b c=>q m' (by omega) (by omega) c
  | false =>
   have e2:lt (p.getD (m - 1) 0) (p.getD m 0)=true:=by
    rw [T.tri _ _ (hp.lt (by omega)) (hp.lt (by omega)) (hp.ne (by omega) (by omega) (by omega)),e];rfl
   refine W _ _ _ (hp.lt (by omega)) (hp.lt (by omega)) ?_;rw [e2];exact q m (EN _) (by omega) u
theorem CJ {m:Nat} (hm:m<=p.size) (d:Dn lt p m):Up lt (kas_rev p 0 m) m:=fun i j hij hj=>by
 have g:∀ k,k<m->(kas_rev p 0 m).getD k 0=p.getD (m - 1 - k) 0:=fun k hk=>nY (by
  unfold kas_rev;rw [getElem?_mirror_all hm,Kw ⟨Ft _,hk⟩,JB])
 rw [g i (by omega),g j hj];exact d _ _ (by omega) (by omega)
theorem sv (T:Tot n lt) (W:Ans cmp n lt s) (hp:Pm n p) (hn:1<=n) {Q:Nat×Array Nat->Shared->Prop} (q:∀ m p',1<=m->m<=n->Pm n p'->Up lt p' m->Q (m,p') s):(kas_count n p).kasWp cmp Q s:=by
 unfold kas_count;rw [KasT.kasWp_bind];refine di T W hp (n - 1) 1 (EN _) (by omega) (fun i j a b=>by omega) fun m h1 h2 u c=>?_;by_cases e:(m == n)=true
 ·rw [Kw e];exact q m p h1 (by omega) hp u
 ·rw [Kv e];have hm:m<n:=by
   have:m≠n:=fun z=>e (by rw [z];exact beq_self_eq_true _);omega
  by_cases e2:m > 1
  ·rw [Kw e2];refine W _ _ _ (hp.lt (by omega)) (hp.lt (by omega)) ?_;rw [u 0 (m - 1) (by omega) (by omega)];exact q m p h1 (by omega) hp u
  ·rw [Kv e2];obtain rfl:m=1:=by omega
   have c':lt (p.getD 1 0) (p.getD (1 - 1) 0)=true:=c.resolve_left (by omega);unfold kas_descPart;rw [KasT.kasWp_bind];refine kB T W hp (n - (1+1)) (1+1) (by omega) (by omega) (Dn.more T hp (EN 1) hm (fun i j a b=>by omega) c') fun m' a b d=>?_;rw [Kv (by show ¬ (0 > 0);omega)];unfold kas_tail3;rw [KasT.kasWp_bind];have hp2:Pm n (kas_rev p 0 m'):=hp.of (mirror_perm _ _ _ _);exact di T W hp2 (n - m') m' (by omega) (by omega) (CJ (by rw [hp.size];omega) d) fun m2 a2 b2 u2 _=>q m2 _ (by omega) (by omega) hp2 u2
theorem cf (T:Tot n lt) (W:Ans cmp n lt s) (hp:Pm n p) {k:Nat} (hk:k<n) (u:Up lt p k) {Q:Nat->Shared->Prop}:∀ f l r,r - l<=f->l<=r->r<=k->(∀ i,i<l->lt (p.getD i 0) (p.getD k 0)=true)->(∀ i,r<=i->i<k->lt (p.getD k 0) (p.getD i 0)=true) ->
  (∀ m,m<=k->(∀ i,i<m->lt (p.getD i 0) (p.getD k 0)=true)->(∀ i,m<=i->i<k->lt (p.getD k 0) (p.getD i 0)=true)->Q m s)->(kas_place p k f l r).kasWp cmp Q s
 | 0,l,r,hf,hlr,hr,lo,hi,q=>by
  obtain rfl:l=r:=by omega
  exact q l hr lo hi
 | f+1,l,r,hf,hlr,hr,lo,hi,q=>by
  unfold kas_place;by_cases e:l >= r
  ·rw [Kw e];obtain rfl:l=r:=by omega
   exact q l hr lo hi
  ·rw [Kv e];refine W _ _ _ (hp.lt hk) (hp.lt (by omega)) ?_;have hm:(l+r) / 2<k:=by omega
   cases e2:lt (p.getD k 0) (p.getD ((l+r) / 2) 0) with
   | true =>
    refine cf T W hp hk u f l ((l+r) / 2) (by omega) (by omega) (by omega) lo (fun i h1 h2=>?_) q;by_cases e3:i=(l+r) / 2
    ·rw [e3];exact e2
    ·exact T.tra _ _ _ (hp.lt hk) (hp.lt (by omega)) (hp.lt (by omega)) e2 (u _ _ (by omega) h2)
   | false =>
    have e4:lt (p.getD ((l+r) / 2) 0) (p.getD k 0)=true:=by
     rw [T.tri _ _ (hp.lt (by omega)) (hp.lt hk) (hp.ne (by omega) hk (by omega)),e2];rfl
    refine cf T W hp hk u f ((l+r) / 2+1) r (by omega) (by omega) hr (fun i h1=>?_) hi q;by_cases e3:i=(l+r) / 2
    ·rw [e3];exact e4
    ·exact T.tra _ _ _ (hp.lt (by omega)) (hp.lt (by omega)) (hp.lt hk) (u _ _ (by omega) hm) e4
theorem CK {k m:Nat} (hk:k<p.size) (hm:m<=k) (u:Up lt p k) (lo:∀ i,i<m->lt (p.getD i 0) (p.getD k 0)=true) (hi:∀ i,m<=i->i<k->lt (p.getD k 0) (p.getD i 0)=true):Up lt (bubble p k (k - m)) (k+1):=fun i j hij hj=>by
 have g:∀ t,t<=k->(bubble p k (k - m)).getD t 0=p.getD (if t=m then k else if t<m then t else t - 1) 0:=fun t ht=>nY (by
  rw [getElem?_bubble hk (k - m) (by omega),show k - (k - m)=m by omega];by_cases e1:t=m
  ·rw [Kw e1,Kw e1]
  ·rw [Kv e1,Kv e1];by_cases e2:t<m
   ·rw [Kv (by omega),Kw e2]
   ·rw [Kw (by omega),Kv e2])
 rw [g i (by omega),g j (by omega)];by_cases a1:i=m
 ·rw [Kw a1,Kv (by omega),Kv (by omega)];exact hi _ (by omega) (by omega)
 ·rw [Kv a1];by_cases a2:j=m
  ·rw [Kw a2,Kw (by omega)];exact lo _ (by omega)
  ·rw [Kv a2];by_cases a3:i<m
   ·rw [Kw a3];by_cases a4:j<m
    ·rw [Kw a4];exact u _ _ hij (by omega)
    ·rw [Kv a4];exact u _ _ (by omega) (by omega)
   ·rw [Kv a3,Kv (by omega)];exact u _ _ (by omega) (by omega)
theorem nZ (T:Tot n lt) (W:Ans cmp n lt s) {Q:Array Nat->Shared->Prop}:∀ f k (p:Array Nat),Pm n p->k+f=n->Up lt p k->(∀ p',Pm n p'->Up lt p' n->Q p' s)->(kas_bin f p k).kasWp cmp Q s
 | 0,k,p,hp,hf,u,q=>by
  obtain rfl:k=n:=by omega
  exact q p hp u
 | f+1,k,p,hp,hf,u,q=>by
  unfold kas_bin;rw [KasT.kasWp_bind];refine cf T W hp (by omega) u k 0 k (by omega) (Ft _) (EN _) (fun i hi=>by omega) (fun i a b=>by omega) fun m h1 lo hi=>?_;exact nZ T W f (k+1) _ (hp.of (bubble_perm _ _ _)) (by omega) (CK (by rw [hp.size];omega) h1 u lo hi) q
theorem uO (T:Tot n lt) (W:Ans cmp n lt s) (hn:1<=n) {Q:Array Nat->Shared->Prop} (q:∀ p,Pm n p->Up lt p n->Q p s):(kas_sort n).kasWp cmp Q s:=by
 unfold kas_sort;rw [KasT.kasWp_bind];refine sv T W (Pm.range n) hn fun m p h1 h2 hp u=>?_;by_cases e:m<n
 ·show (if m<n then _ else _:KasT (Array Nat)).kasWp cmp Q s;rw [Kw e,show max m 1=m by omega];exact nZ T W (n - m) m p hp (by omega) u q
 ·show (if m<n then _ else _:KasT (Array Nat)).kasWp cmp Q s;rw [Kv e];obtain rfl:m=n:=by omega
  exact q p hp u
end
end L2
end
section
namespace L2
open PySem PySem.W PySem.Calls PyProof.Rows
theorem fP:∀ f n r,r<=1->minRun' f n r<=n+1
 | 0,n,r,h=>by show n+r<=n+1;omega
 | f+1,n,r,h=>by
  rw [minRun'_succ];by_cases e:n<64
  ·rw [Kw e];omega
  ·rw [Kv e];have:=fP f (n / 2) (max r (n % 2)) (by omega);omega
theorem mD {n:Nat} (h:1<=n):minRun' n n 0<=n:=by
 obtain⟨f,rfl⟩:∃ f,n=f+1:=⟨n - 1,by omega⟩;rw [minRun'_succ];by_cases e:f+1<64
 ·rw [Kw e];omega
 ·rw [Kv e];have:=fP f ((f+1) / 2) (max 0 ((f+1) % 2)) (by omega);omega
section
variable {P:Program} {w:World} {A:Around} {X:Value->Shared->Prop} {s:Shared} {κ:SortKind} {it:Array Keyed} {n:Nat} {lt:Nat->Nat->Bool} {Q:SortSt->Shared->Prop}
theorem Ag (W:Ans (kas_cmp P w A κ it) n lt s) (T:Tot n lt) (h2:2<=n) (up:∀ i,i+1<n->lt (i+1) i=false)
  (q:∀ st',arrOf st'=(Ga (E7 n)).map (kas_item it)->failedOf st'=none->Q st' s):kasC (model P w) A X sortRuns' (fun _ st' s'=>Q st' s') (kas_st κ it (Ga (E7 n))) s:=by
 obtain⟨r,rfl⟩:∃ r,n=r+2:=⟨n - 2,by omega⟩;have sz:(Ga (E7 (r+2))).size=r+2:=by simp
 have szA:(arrOf (kas_st κ it (Ga (E7 (r+2))))).size=r+2:=by
  show (Array.map _ _).size=_;rw [JU,sz]
 have mr:=mD (n:=r+2) (by omega);have at_:∀ i,i<r+2->(Ga (E7 (r+2))).getD i 0=i:=fun i hi=>by simp [Hj,hi]
 have cnt:(kas_count (r+2) (Ga (E7 (r+2)))).kasWp (kas_cmp P w A κ it) (fun z s'=>z=(r+2,Ga (E7 (r+2)))/\s'=s) s:=by
  unfold kas_count;rw [KasT.kasWp_bind];refine di T W (Pm.range _) (r+2 - 1) 1 (EN _) (by omega) (fun i j a b=>by omega) fun m a b u c=>?_;have e:m=r+2:=by
   rcases c with c | c
   ·omega
   ·by_cases hm:m<r+2
    ·rw [at_ m hm,at_ (m - 1) (by omega)] at c;have:=up (m - 1) (by omega);rw [show m - 1+1=m by omega,c] at this;cases this
    ·omega
  subst e;rw [Kw (beq_self_eq_true _)];exact⟨rfl,rfl⟩
 rw [sortRuns'_eq];apply kasC_bind;apply kasC_get;simp only [szA];apply kasC_bind;apply kasC_range
 change kasC _ _ _ (forIn (0 :: 1 :: List.range' 2 r) _ _) _ _ _
 apply kasC_cons;simp only [Nat.sub_zero,JB,show ¬ (0 >= r+2) by omega,if_false];refine kasC_bind (kas_count_ (by omega) (HA sz.symm) (fun m p' s' _ _ _ z=>?_) cnt);obtain⟨z,rfl⟩:=z;cases z;simp only [show ¬ (r+2<minRun' (r+2) (r+2) 0) by omega,if_false];apply kasC_bind;apply kasC_get
 change kasC _ _ _ (modify (fun st=>setPending st ((pendingOf st).push (0,r+2,0))) >>= _) _ _ _
 apply kasC_bind;apply kasC_modify;apply kasC_pure;apply kasC_cons;simp only [show r+2 >= r+2 from EN _,if_true];apply kasC_pure;apply kasC_bind;apply kasC_range
 change kasC _ _ _ (forIn (0 :: 1 :: List.range' 2 r) _ _) _ _ _
 apply kasC_cons;apply kasC_bind;apply kasC_get;rw [Kw (show (pendingOf (setPending (kas_st κ it (Ga (E7 (r+2)))) ((pendingOf (kas_st κ it (Ga (E7 (r+2))))).push (0,r+2,0)))).size<=1 from EN 1)];apply kasC_pure;exact kasC_pure (q _ rfl rfl)
theorem uP (W:Ans (kas_cmp P w A κ it) n lt s) (T:Tot n lt) (h2:2<=n) (hs:n<64 \/ ∀ i,i+1<n->lt (i+1) i=false)
  (q:∀ st' p,Pm n p->Up lt p n->arrOf st'=p.map (kas_item it)->failedOf st'=none->Q st' s):kasC (model P w) A X sortRuns' (fun _ st' s'=>Q st' s') (kas_st κ it (Ga (E7 n))) s:=by
 rcases hs with hs | hs
 ·exact kas_runs h2 hs (G:=fun p s'=>s'=s/\Pm n p/\Up lt p n) (fun p st' s' _ e f ⟨z,a,b⟩=>by subst z;exact q st' p a b e f) (uO T W (by omega) fun p a b=>⟨rfl,a,b⟩)
 ·refine Ag W T h2 hs fun st' e f=>q st' _ (Pm.range n) (fun i j hij hj=>?_) e f;have at_:∀ i,i<n->(Ga (E7 n)).getD i 0=i:=fun i hi=>by simp [Hj,hi]
  rw [at_ i (by omega),at_ j hj];have key:∀ d,i+d+1<n->lt i (i+d+1)=true:=fun d=>by
   induction d with
   | zero=>intro hd;rw [T.tri _ _ (by omega) hd (by omega),hs i hd];rfl
   | succ d ih =>
    intro hd;refine T.tra _ (i+d+1) _ (by omega) (by omega) hd (ih (by omega)) ?_;rw [T.tri _ _ (by omega) hd (by omega),show i+(d+1)+1=i+d+1+1 by omega,hs (i+d+1) (by omega)];rfl
  have:=key (j - i - 1) (by omega)
  rwa [show i+(j - i - 1)+1=j by omega] at this
end
section
variable {P:Program} {w:World} {A:Around} {X:Value->Shared->Prop} {s:Shared} {κ:SortKind} {vs:List Value} {lt:Nat->Nat->Bool}
structure Asks (P:Program) (w:World) (A:Around) (s:Shared) (κ:SortKind) (vs:List Value) (lt:Nat->Nat->Bool):Prop where
 kind:2<=vs.length->∀ (h':Heap),(∀ b o,s.heap.get? b=some o->h'.get? b=some o)->∀ R:SortKind->Shared->Prop,R κ { s with heap:=h' }->Fd (model P w) A (keyKind' vs.toArray) R (fun _ _=>False) { s with heap:=h' }
 less:∀ (h':Heap),(∀ b o,s.heap.get? b=some o->h'.get? b=some o)->Ans (kas_ask P w A κ vs) vs.length lt { s with heap:=h' }
 ord:Tot vs.length lt
 few:vs.length<64 \/ ∀ i,i+1<vs.length->lt (i+1) i=false
theorem Ah {a:EL} {e:Nat} {R:PySem.Fin->Shared->Prop} (hz:vs.length<=Fu) (ha:s.heap.get? a=some (seqObj "list" vs.toArray e)) {h0:Heap} (h0s:∀ b o,h0.get? b=some o->b≠a/\s.heap.get? b=some o) (K:Asks P w A { s with heap:=h0 } κ vs lt)
  (q:∀ (h':Heap) p c,Pm vs.length p->Up lt p vs.length->(∀ b o,b≠a->s.heap.get? b=some o->h'.get? b=some o)->h'.get? a=some (seqObj "list" (p.toList.map fun i=>vs.getD i Value.none).toArray c)->R (.done (.ret .none)) { s with heap:=h' }) :
  Fd (model P w) A (Builtin.«list.sort» ⟨[.ref a],[]⟩) R X s:=by
 let h1:=s.heap.update a (Hq fun _=>(#[]:Array Value))
 obtain⟨e1,a1⟩:∃ e1,h1.get? a=some (seqObj "list" #[] e1):=⟨_,get?_update_seq ha fun _=>#[]⟩
 let h2':=(h1.push (seqObj "tuple" vs.toArray 0)).push (seqObj "list" #[] 0)
 have a2:h2'.get? a=some (seqObj "list" #[] e1):=EU _ (EU _ a1);have k2:∀ b o,b≠a->s.heap.get? b=some o->h2'.get? b=some o:=fun b o nb eb=>EU _ (EU _ ((GR _ _ (F6 nb)).trans eb));have kz:∀ b o,h0.get? b=some o->h2'.get? b=some o:=fun b o eb=>k2 b o (h0s b o eb).1 (h0s b o eb).2;rw [list_sort_plain];apply EJ;apply listItems_at ha rfl;apply EJ;refine listUpdate_at ha rfl ?_ (by simpa using hz) (Ft _);apply EJ;apply seqEpoch_at a1 rfl;apply EJ;refine wpAny_newTuple ?_ (by simpa using hz);apply EJ;refine wpAny_newList ?_ (Ft _);apply FF;dsimp only
 change Fd _ A _ _ _ { s with heap:=h2' }
 have st0:SortSt.mk' κ (vs.toArray.zip vs.toArray) #[] 7 none=kas_st κ (pairsOf vs) (Ga (E7 vs.length)):=by
  have z:=kas_range (pairsOf vs);rw [pairsOf_size] at z;unfold kas_st;rw [z];rfl
 have fin:∀ (st':SortSt) (p:Array Nat),Pm vs.length p->Up lt p vs.length->arrOf st'=p.map (kas_item (pairsOf vs))->failedOf st'=none->Fd (model P w) A (do
   let sorted:=(arrOf st').map (·.2)
   let touched:=(<- seqEpoch a) != e1
   Builtin.List.listUpdate (.ref a) fun _=>sorted
   if let some e:=failedOf st' then rule "list.sort.comparison-raised";throw e
   if touched then rule "list.sort.modified";raiseError "ValueError" "list modified during sort"
   ret .none) R X { s with heap:=h2' }:=fun st' p x1 x2 x3 x4=>by
  have out:(arrOf st').map (·.2)=(p.toList.map fun i=>vs.getD i Value.none).toArray:=by
   apply Array.toList_inj.mp;rw [x3,Array.map_map,Array.toList_map];refine G7 fun i _=>?_;show (kas_item (pairsOf vs) i).2=_;rw [kas_item_eq]
  dsimp only;rw [out,x4];obtain⟨c,a3⟩:∃ c,(h2'.update a (Hq fun _=>(p.toList.map fun i=>vs.getD i Value.none).toArray)).get? a=some (seqObj "list" (p.toList.map fun i=>vs.getD i Value.none).toArray c):=⟨_,get?_update_seq a2 fun _=>(p.toList.map fun i=>vs.getD i Value.none).toArray⟩;apply EJ;apply seqEpoch_at a2 rfl;apply EJ;refine listUpdate_at a2 rfl ?_ (Ft _) (by
   rw [E3,EF,E5,x1.size];omega)
  simp only [bne_self_eq_false,Fz,if_false];exact ES (q _ p c x1 x2 (fun b o nb eb=>(GR _ _ (F6 nb)).trans (k2 b o nb eb)) a3)
 by_cases h2:vs.length<2
 ·have two:vs.toArray.size<2:=by rw [E3];exact h2
  rw [Kw two,Kw two];apply EJ;apply ES;apply EJ;rw [StateT.run_pure];apply ES;have z:=kas_range (pairsOf vs);rw [pairsOf_size] at z;exact fin _ (Ga (E7 vs.length)) (Pm.range _) (fun i j x y=>by omega) z.symm rfl
 have two:¬ vs.toArray.size<2:=by rw [E3];exact h2
 rw [Kv two,Kv two];apply EJ;refine GN (K.kind (by omega) h2' kz (fun κ' s'=>κ'=κ/\s'={ s with heap:=h2' }) ⟨rfl,rfl⟩) ?_ fun _ _ z=>z.elim;rintro κ' s' ⟨eκ,es⟩;rw [eκ,es];have W:=K.less h2' kz;rw [kas_ask_eq] at W;rw [st0];apply EJ;refine GN (uP (Q:=fun st' s'=>s'={ s with heap:=h2' }/\∃ p,Pm vs.length p/\Up lt p vs.length/\arrOf st'=p.map (kas_item (pairsOf vs))/\failedOf st'=none) W K.ord (by omega) K.few fun st' p x1 x2 x3 x4=>⟨rfl,p,x1,x2,x3,x4⟩) ?_ fun _ _ z=>z;rintro⟨⟨⟩,st'⟩ s' ⟨rfl,p,x1,x2,x3,x4⟩;exact fin st' p x1 x2 x3 x4
theorem kC {l:EL} {Q:Value->Shared->Prop} (hz:vs.length<=Fu) (hl:s.heap.IsList l vs.toArray) (K:Asks P w A.in1.in1 s κ vs lt)
  (q:∀ (h':Heap) D p c,Pm vs.length p->Up lt p vs.length->s.heap.objs.size<=D->(∀ b o,s.heap.get? b=some o->h'.get? b=some o)->h'.get? D=some (seqObj "list" (p.toList.map fun i=>vs.getD i Value.none).toArray c)->Q (.ref D) { s with heap:=h' }) :
  Fd (model P w) A (call (.builtin "sorted") [.ref l]) Q X s:=by
 let h1:=(s.heap.push (seqObj "list" #[] 0)).update s.heap.objs.size (Hq (·++vs.toArray))
 have s1:h1.objs.size=s.heap.objs.size+1:=by rw [Heap.size_update,size_push']
 let h2':=h1.push (seqObj "list" vs.toArray 0)
 have at2:h2'.get? (s.heap.objs.size+1)=some (seqObj "list" vs.toArray 0):=by rw [<-s1];exact Fn _ rfl
 have keep:∀ b o,s.heap.get? b=some o->b≠s.heap.objs.size+1/\h2'.get? b=some o:=fun b o eb=>by
  have lb:=E4 eb;refine⟨fun z=>?_,EU _ ((GR _ _ fun z=>?_).trans (EU _ eb))⟩
  ·rw [z] at lb;exact Gi _ (Kh lb (IB _))
  ·rw [<-z] at lb;exact Gi _ lb
 refine Calls.call_function_entry kind_sorted plain_sorted entry_sorted (args_sorted1 _) ?_;unfold Builtin.«sorted»;apply EJ (m:=checkCount "sorted" 1 1 _);apply ES;apply EJ;refine collect_list hl ?_ hz;apply EJ;refine wpAny_newList ?_ hz
 change Fd _ _ _ _ _ { s with heap:=h2' }
 rw [show Value.ref ((s.heap.push (seqObj "list" #[] 0)).update s.heap.objs.size (Hq (·++vs.toArray))).objs.size=Value.ref (s.heap.objs.size+1) from congrArg Value.ref s1];apply EJ;apply FF;refine wpAny_call_entry slot_list_sort ⟨_,at2,rfl⟩ entry_list_sort ?_ (args_list_sort _);refine Ah (s:={ s with heap:=h2' }) hz at2 (h0:=s.heap) keep K fun h' p c x1 x2 x3 x4=>⟨_,rfl,ES ⟨_,rfl,?_⟩⟩;exact q h' _ p c x1 x2 (Kn _) (fun b o eb=>x3 b o (keep b o eb).1 (keep b o eb).2) x4
end
mutual
noncomputable def zD:PyData->Bool
 | .int _=>true
 | .str s=>(PyData.str s).canLay0
 | .tuple xs=>zT xs
 | _=>false
noncomputable def zT:List PyData->Bool
 | []=>true
 | x :: xs=>zD x && zT xs
end
mutual
noncomputable def ltD:PyData->PyData->Bool
 | .int a,.int b=>decide (a<b)
 | .str a,.str b=>decide (a.cps.toList<b.cps.toList)
 | .tuple xs,.tuple ys=>ltL xs ys
 | .int _,.str _=>true
 | .int _,.tuple _=>true
 | .str _,.tuple _=>true
 | _,_=>false
noncomputable def ltL:List PyData->List PyData->Bool
 | [],[]=>false
 | [],_ :: _=>true
 | _ :: _,[]=>false
 | x :: xs,y :: ys=>if Fi x y=true then ltL xs ys else ltD x y
end
mutual
noncomputable def cZ:PyData->PyData->Bool
 | .int _,.int _=>true
 | .str _,.str _=>true
 | .tuple xs,.tuple ys=>bD xs ys
 | _,_=>false
noncomputable def bD:List PyData->List PyData->Bool
 | [],_=>true
 | _ :: _,[]=>true
 | x :: xs,y :: ys=>if Fi x y=true then bD xs ys else cZ x y
end
mutual
theorem yZ:∀ d:PyData,zD d=true->d.canLay0=true
 | .int _,_=>rfl
 | .str _,h=>h
 | .tuple xs,h=>by rw [PyData.canLay0];exact d8 xs (by rw [zD] at h;exact h)
 | .none,h=>by cases h
 | .bool _,h=>by cases h
 | .list _,h=>by cases h
 | .dict _,h=>by cases h
theorem d8:∀ xs:List PyData,zT xs=true->G2 xs=true
 | [],_=>rfl
 | x :: xs,h=>by
  rw [zT,EV] at h;rw [G2,yZ x h.1,d8 xs h.2];rfl
end
mutual
theorem uQ:∀ a b:PyData,zD a=true->zD b=true->Fi a b=true->a=b
 | .int a,.int b,_,_,h=>by simpa [Fi] using h
 | .str a,.str b,_,_,h=>by simpa [Fi] using h
 | .tuple xs,.tuple ys,h1,h2,h=>by rw [n8 xs ys (by rw [zD] at h1;exact h1) (by rw [zD] at h2;exact h2) (by rw [Fi] at h;exact h)]
 | .int _,.str _,_,_,h=>by simp [Fi] at h
 | .int _,.tuple _,_,_,h=>by simp [Fi] at h
 | .str _,.int _,_,_,h=>by simp [Fi] at h
 | .str _,.tuple _,_,_,h=>by simp [Fi] at h
 | .tuple _,.int _,_,_,h=>by simp [Fi] at h
 | .tuple _,.str _,_,_,h=>by simp [Fi] at h
 | .none,_,h,_,_=>by cases h
 | .bool _,_,h,_,_=>by cases h
 | .list _,_,h,_,_=>by cases h
 | .dict _,_,h,_,_=>by cases h
 | .int _,.none,_,h,_=>by cases h
 | .int _,.bool _,_,h,_=>by cases h
 | .int _,.list _,_,h,_=>by cases h
 | .int _,.dict _,_,h,_=>by cases h
 | .str _,.none,_,h,_=>by cases h
 | .str _,.bool _,_,h,_=>by cases h
 | .str _,.list _,_,h,_=>by cases h
 | .str _,.dict _,_,h,_=>by cases h
 | .tuple _,.none,_,h,_=>by cases h
 | .tuple _,.bool _,_,h,_=>by cases h
 | .tuple _,.list _,_,h,_=>by cases h
 | .tuple _,.dict _,_,h,_=>by cases h
theorem n8:∀ xs ys:List PyData,zT xs=true->zT ys=true->Jl xs ys=true->xs=ys
 | [],[],_,_,_=>rfl
 | [],_ :: _,_,_,h=>by simp [Jl] at h
 | _ :: _,[],_,_,h=>by simp [Jl] at h
 | x :: xs,y :: ys,h1,h2,h=>by
  rw [zT,EV] at h1 h2;rw [Jl,EV] at h;rw [uQ x y h1.1 h2.1 h.1,n8 xs ys h1.2 h2.2 h.2]
end
theorem dj {a b:PyData} (ha:zD a=true) (hb:zD b=true):Fi a b=true↔a=b :=
 ⟨uQ a b ha hb,fun h=>by subst h;exact Ik a (yZ a ha)⟩
theorem va {x y:PyData} {xs ys:List PyData} (hx:zD x=true) (hy:zD y=true) [Decidable (x=y)]:ltL (x :: xs) (y :: ys)=if x=y then ltL xs ys else ltD x y:=by
 rw [ltL];by_cases h:x=y
 ·rw [Kw ((dj hx hy).mpr h),Kw h]
 ·rw [Kv (fun z=>h ((dj hx hy).mp z)),Kv h]
theorem uR {a b:List Nat} (h:a≠b):decide (a<b)=!decide (b<a):=by
 by_cases h1:a<b
 ·rw [Kx h1,Ky (fun z=>List.lt_irrefl a (List.lt_trans h1 z))];rfl
 ·have h2:b<a:=by
   have:b<=a:=List.not_lt.mp h1;rcases List.le_iff_lt_or_eq.mp this with z | z
   ·exact z
   ·exact absurd z.symm h
  rw [Ky h1,Kx h2];rfl
theorem CL {a b:Str} (h:a≠b):a.cps.toList≠b.cps.toList:=fun z=>h (by
 cases a;cases b;simp only [Str.mk.injEq] at *;exact Array.toList_inj.mp z)
mutual
theorem mE:∀ a b:PyData,zD a=true->zD b=true->a≠b->ltD a b=!ltD b a
 | .int a,b,ha,hb,ne=>by
  cases b with
  | int b =>
   rw [ltD,ltD];have:a≠b:=fun z=>ne (by rw [z]);by_cases h:a<b
   ·rw [Kx h,Ky (by omega)];rfl
   ·rw [Ky h,Kx (by omega)];rfl
  | str b=>simp [ltD]
  | tuple ys=>simp [ltD]
  | none=>cases hb
  | bool _=>cases hb
  | list _=>cases hb
  | dict _=>cases hb
 | .str a,b,ha,hb,ne=>by
  cases b with
  | int b=>simp [ltD]
  | str b =>
   rw [ltD,ltD];exact uR (CL fun z=>ne (by rw [z]))
  | tuple ys=>simp [ltD]
  | none=>cases hb
  | bool _=>cases hb
  | list _=>cases hb
  | dict _=>cases hb
 | .tuple xs,b,ha,hb,ne=>by
  cases b with
  | int b=>simp [ltD]
  | str b=>simp [ltD]
  | tuple ys =>
   rw [ltD,ltD];rw [zD] at ha hb;exact n9 xs ys ha hb fun z=>ne (by rw [z])
  | none=>cases hb
  | bool _=>cases hb
  | list _=>cases hb
  | dict _=>cases hb
 | .none,_,h,_,_=>by cases h
 | .bool _,_,h,_,_=>by cases h
 | .list _,_,h,_,_=>by cases h
 | .dict _,_,h,_,_=>by cases h
theorem n9:∀ xs ys:List PyData,zT xs=true->zT ys=true->xs≠ys->ltL xs ys=!ltL ys xs
 | [],[],_,_,ne=>absurd rfl ne
 | [],_ :: _,_,_,_=>by simp [ltL]
 | _ :: _,[],_,_,_=>by simp [ltL]
 | x :: xs,y :: ys,h1,h2,ne=>by
  rw [zT,EV] at h1 h2;have:=F7 (x=y);have:=F7 (y=x);rw [va h1.1 h2.1,va h2.1 h1.1];by_cases e:x=y
  ·rw [Kw e,Kw e.symm];exact n9 xs ys h1.2 h2.2 fun z=>ne (by rw [e,z])
  ·rw [Kv e,Kv (F6 e)];exact mE x y h1.1 h2.1 e
end
mutual
theorem gW:∀ a:PyData,zD a=true->ltD a a=false
 | .int a,_=>by rw [ltD];exact Ky (Int.lt_irrefl a)
 | .str a,_=>by rw [ltD];exact Ky (List.lt_irrefl _)
 | .tuple xs,h=>by rw [ltD];rw [zD] at h;exact oa xs h
 | .none,h=>by cases h
 | .bool _,h=>by cases h
 | .list _,h=>by cases h
 | .dict _,h=>by cases h
theorem oa:∀ xs:List PyData,zT xs=true->ltL xs xs=false
 | [],_=>by rw [ltL]
 | x :: xs,h=>by
  rw [zT,EV] at h;have:=F7 (x=x);rw [va h.1 h.1,Kw rfl];exact oa xs h.2
end
theorem lt_asymm {a b:PyData} (ha:zD a=true) (hb:zD b=true) (h:ltD a b=true):a≠b:=fun z=>by
 subst z;rw [gW a ha] at h;cases h
mutual
theorem mF:∀ a b c:PyData,zD a=true->zD b=true->zD c=true->ltD a b=true->ltD b c=true->ltD a c=true
 | .int a,b,c,ha,hb,hc,h1,h2=>by
  cases b <;> first | (cases hb;done) | skip
  all_goals cases c <;> first | (cases hc;done) | skip
  all_goals first | (simp [ltD] at h1 h2 ⊢;omega) | (simp [ltD] at h1 h2 ⊢;done) | (simp [ltD] at h1;done) | (simp [ltD] at h2;done)
 | .str a,b,c,ha,hb,hc,h1,h2=>by
  cases b <;> first | (cases hb;done) | skip
  all_goals cases c <;> first | (cases hc;done) | skip
  all_goals first | (simp [ltD] at h1;done) | (simp [ltD] at h2;done) | (rw [ltD] at h1 h2 ⊢;exact Kx (List.lt_trans (of_decide_eq_true h1) (of_decide_eq_true h2))) | (simp [ltD] at h1 h2 ⊢;done)
 | .tuple xs,b,c,ha,hb,hc,h1,h2=>by
  cases b with
  | tuple ys =>
   cases c with
   | tuple zs =>
    rw [ltD] at h1 h2 ⊢;rw [zD] at ha hb hc;exact oe xs ys zs ha hb hc h1 h2
   | int _=>simp [ltD] at h2
   | str _=>simp [ltD] at h2
   | none=>cases hc
   | bool _=>cases hc
   | list _=>cases hc
   | dict _=>cases hc
  | int _=>simp [ltD] at h1
  | str _=>simp [ltD] at h1
  | none=>cases hb
  | bool _=>cases hb
  | list _=>cases hb
  | dict _=>cases hb
 | .none,_,_,h,_,_,_,_=>by cases h
 | .bool _,_,_,h,_,_,_,_=>by cases h
 | .list _,_,_,h,_,_,_,_=>by cases h
 | .dict _,_,_,h,_,_,_,_=>by cases h
theorem oe:∀ xs ys zs:List PyData,zT xs=true->zT ys=true->zT zs=true->ltL xs ys=true->ltL ys zs=true->ltL xs zs=true
 | [],ys,[],_,_,_,h1,h2=>by
  cases ys with
  | nil=>exact h1
  | cons y ys=>simp [ltL] at h2
 | [],_,_ :: _,_,_,_,_,_=>by rw [ltL]
 | _ :: _,[],_,_,_,_,h1,_=>by simp [ltL] at h1
 | _ :: _,_ :: _,[],_,_,_,_,h2=>by simp [ltL] at h2
 | x :: xs,y :: ys,z :: zs,p1,p2,p3,h1,h2=>by
  rw [zT,EV] at p1 p2 p3;have:=F7 (x=y);have:=F7 (y=z);have:=F7 (x=z);rw [va p1.1 p2.1] at h1;rw [va p2.1 p3.1] at h2;rw [va p1.1 p3.1];by_cases e1:x=y
  ·rw [Kw e1] at h1;by_cases e2:y=z
   ·rw [Kw e2] at h2;rw [Kw (e1.trans e2)];exact oe xs ys zs p1.2 p2.2 p3.2 h1 h2
   ·rw [Kv e2] at h2;rw [Kv (fun q=>e2 (e1.symm.trans q)),e1];exact h2
  ·rw [Kv e1] at h1;by_cases e2:y=z
   ·rw [Kv (fun q=>e1 (q.trans e2.symm)),<- e2];exact h1
   ·rw [Kv e2] at h2;have h3:=mF x y z p1.1 p2.1 p3.1 h1 h2;rw [Kv (lt_asymm p1.1 p3.1 h3)];exact h3
end
end L2
end
section
namespace L2
open PySem PySem.Spec PyProof.Rows PySem.SeqAt
open PySem.AutoSeq1 (wpAny_loadPart')
open PySem.MeetsSeq PySem.MeetsSeq2 PySem.MeetsSeq3
def DZ (A:Around) (s:Shared) (y x:Value) (b:Bool):Prop :=
 ∀ (prog:Program) (w:World) (E:Value->Shared->Prop) (Q:Value->Shared->Prop),Q (.bool b) s->Fd (model prog w) A (richCompare .Lt y x) Q E s
inductive Lex (A:Around) (s:Shared):List Value->List Value->Bool->Prop where
 | nn:Lex A s [] [] false
 | nc {w ws}:Lex A s [] (w :: ws) true
 | cn {v vs}:Lex A s (v :: vs) [] false
 | eq {v w vs ws b}:EqAt A s v w true->Lex A s vs ws b->Lex A s (v :: vs) (w :: ws) b
 | lt {v w vs ws b}:EqAt A s v w false->DZ A s v w b->Lex A s (v :: vs) (w :: ws) b
theorem gX (l m:EL) (xs ys:Array Value) (n n2:Nat) (dd dd2:Option EL) (sl sl2:Array (Option Value)) (c:Bool) :
  Meets (Builtin.«tuple.__lt__» ⟨[.ref l,.ref m],[]⟩)
   (fun A R s=>s.heap.get? l=some { cls:=.type "tuple",dict:=dd,data:=.seq xs n,slots:=sl }/\s.heap.get? m=some { cls:=.type "tuple",dict:=dd2,data:=.seq ys n2,slots:=sl2 } /\
    Lex A.in1 s xs.toList ys.toList c/\R (.ok (.ret (.bool c))) s) :=
 .of_wp fun prog w A R s h=>by
  obtain⟨hp,g,d,tk,os⟩:=s;obtain⟨hl,hb,hx,h⟩:=h;have f2:=AutoSeq1.sub_tuple_tuple
  wp_walk using wpAny_loadPart' hl,wpAny_loadPart' hb,wpAny_forIn_list _ (fun rest b s'=>b.1=none/\s'=⟨hp,g,d,tk,os⟩/\∃ (vs ws:List Value),rest=vs.zip ws/\Lex A.in1 ⟨hp,g,d,tk,os⟩ vs ws c/\vs.length+ys.size=ws.length+xs.size) _
  case turn =>
   rintro⟨y,x⟩ rest b s' ⟨hb',rfl,vs,ws,hz,lx,hn⟩;cases lx with
   | nn=>cases hz
   | nc=>cases hz
   | cn=>cases hz
   | eq he lx' =>
    rw [Hk] at hz;cases hz;refine EJ (he prog w _ _ ?_)
    wp_walk
    exact⟨rfl,rfl,_,_,rfl,lx',by simp only [E1] at hn;omega⟩
   | lt he hlt =>
    rw [Hk] at hz;cases hz;refine EJ (he prog w _ _ ?_);have hri:=hlt prog w
    wp_walk using hri
    exact⟨_,rfl,h⟩
  case fin =>
   rintro⟨b1,b2⟩ s' ⟨hb',rfl,vs,ws,hz,lx,hn⟩;simp only at hb';subst hb';have hv:decide (xs.size<ys.size)=c:=by
    cases lx with
    | nn=>simp only [G0] at hn;exact Ky (by omega)
    | nc=>simp only [G0,E1] at hn;exact Kx (by omega)
    | cn=>simp only [G0,E1] at hn;exact Ky (by omega)
    | eq _ _=>cases hz
    | lt _ _=>cases hz
   wp_walk
   rw [<-hv] at h;exact⟨_,rfl,by simpa [Builtin.Tuple.tupleCompareSizes] using h⟩
  case h=>exact⟨rfl,rfl,_,_,rfl,hx,by simp only [E5];omega⟩
mutual
theorem kD:∀ (da db:PyData) (A:Around) (s:Shared) (a b:Value) (as bs:List EL),Reads s.heap a da as->Reads s.heap b db bs->zD da=true->zD db=true->cZ da db=true ->
  A.units+max da.depth db.depth<Gr->DZ A s a b (ltD da db)
 | .int x,db,A,s,_,_,_,_,ra,rb,_,_,hc,hu=>by
  cases ra with
  | int _ t =>
   cases db with
   | int y =>
    cases rb with
    | int _ u =>
     intro prog w E Q q;exact HT.rcLt_int A s x t y u prog w E Q (by rw [ltD] at q;exact q)
   | _=>cases hc
 | .str x,db,A,s,_,_,_,_,ra,rb,_,_,hc,hu=>by
  cases ra with
  | str _ t =>
   cases db with
   | str y =>
    cases rb with
    | str _ u =>
     intro prog w E Q q;exact (PyProof.Rows.lt_str (by rw [ltD] at q;exact q):Fd (model prog w) A (F5 .Lt (.str x t) (.str y u)) Q E s)
   | _=>cases hc
 | .tuple xs,db,A,s,_,_,_,_,ra,rb,pa,pb,hc,hu=>by
  cases ra with
  | @tuple l o vs n _ as h1 h2 h3 h4 =>
   cases db with
   | tuple ys =>
    cases rb with
    | @tuple m o2 ws n2 _ bs k1 k2 k3 k4 =>
     intro prog w E Q q;obtain⟨cls,dd,data,sl⟩:=o;obtain⟨cls2,dd2,data2,sl2⟩:=o2;simp only at h2 h3 k2 k3;subst h2 h3 k2 k3;rw [zD] at pa pb;rw [cZ] at hc;rw [ltD] at q;have hd:A.in1.units+max (EZ xs) (EZ ys)<Gr:=by
      have e1:(PyData.tuple xs).depth=EZ xs+1:=rfl;have e2:(PyData.tuple ys).depth=EZ ys+1:=rfl;have e3:A.in1.units=A.units+1:=rfl;rw [e1,e2] at hu;omega
     have lx:=fQ xs ys A.in1 s _ _ _ _ h4 k4 pa pb hc hd;exact richCompare_meets_room (op:=.Lt) ⟨_,h1,rfl⟩ ⟨_,k1,rfl⟩ PySem.F.slot_tuple_lt PySem.F.entry_tuple_lt (PySem.F.args_tuple_lt_2 _ _) (gX l m vs ws n n2 dd dd2 sl sl2 (ltL xs ys))
      ⟨h1,k1,lx,show Value.bool (ltL xs ys)≠Value.notImplemented/\Q (.bool (ltL xs ys)) s from⟨(fun x=>nomatch x),q⟩⟩ (by omega)
   | _=>cases hc
 | .none,_,_,_,_,_,_,_,_,_,h,_,_,_=>by cases h
 | .bool _,_,_,_,_,_,_,_,_,_,h,_,_,_=>by cases h
 | .list _,_,_,_,_,_,_,_,_,_,h,_,_,_=>by cases h
 | .dict _,_,_,_,_,_,_,_,_,_,h,_,_,_=>by cases h
theorem fQ:∀ (xs ys:List PyData) (A:Around) (s:Shared) (vs ws:List Value) (as bs:List EL),ReadsAll s.heap vs xs as->ReadsAll s.heap ws ys bs->zT xs=true->zT ys=true->bD xs ys=true ->
  A.units+max (EZ xs) (EZ ys)<Gr->Lex A s vs ws (ltL xs ys)
 | [],[],_,_,_,_,_,_,ra,rb,_,_,_,_=>by cases ra;cases rb;rw [ltL];exact .nn
 | [],_ :: _,_,_,_,_,_,_,ra,rb,_,_,_,_=>by cases ra;cases rb;rw [ltL];exact .nc
 | _ :: _,[],_,_,_,_,_,_,ra,rb,_,_,_,_=>by cases ra;cases rb;rw [ltL];exact .cn
 | x :: xs,y :: ys,A,s,_,_,_,_,ra,rb,pa,pb,hc,hu=>by
  cases ra with
  | cons r rs =>
   cases rb with
   | cons r' rs' =>
    rw [zT,EV] at pa pb;rw [bD] at hc;rw [ltL];have e1:EZ (x :: xs)=max x.depth (EZ xs):=rfl;have e2:EZ (y :: ys)=max y.depth (EZ ys):=rfl;rw [e1,e2] at hu;have eq:=eqAt_reads x y A s _ _ _ _ r r' (yZ x pa.1) (yZ y pb.1) (by omega);by_cases e:Fi x y=true
    ·rw [Kw e] at hc ⊢;rw [e] at eq;exact .eq eq (fQ xs ys A s _ _ _ _ rs rs' pa.2 pb.2 hc (by omega))
    ·rw [Kv e] at hc ⊢;rw [Bool.not_eq_true] at e;rw [e] at eq;exact .lt eq (kD x y A s _ _ _ _ r r' pa.1 pb.1 hc (by omega))
end
end L2
end
section
namespace L2
open PySem PySem.Spec PyProof.Rows PySem.SeqAt PySem.W
section
variable {P:Program} {w:World} {A:Around} {s:Shared} {b:Bool} {Q:Bool->Shared->Prop}
theorem gY {fin:Bool} {x y:PyData} {p q:Value} {r:List (Value×Value)} {i:Nat} {as bs:List EL} {c:Bool} (rx:Reads s.heap p x as) (ry:Reads s.heap q y bs) (px:zD x=true) (py:zD y=true) (hu:A.units+max x.depth y.depth<Gr)
  (h1:Fi x y=true->KatLex P w A b fin Q r (i+1) s) (h2:Fi x y=false->Fd (model P w) A (oneLt' (b && i == 0) p q) Q (fun _ _=>False) s):KatLex P w A b fin Q ((p,q) :: r) i s:=by
 refine kat_cons (eqAt_reads x y A s _ _ _ _ rx ry (yZ x px) (yZ y py) (by omega) P w _ _ ?_);exact kat_go (fun e=>kat_yes (h1 e)) fun e=>kat_no (h2 e)
theorem bE {m n:Nat}:∀ (xs ys:List PyData) (vs ws:List Value) (as bs:List EL) (i:Nat),(1<=i \/ b=false)->ReadsAll s.heap vs xs as->ReadsAll s.heap ws ys bs->zT xs=true->zT ys=true->bD xs ys=true ->
  A.units+max (EZ xs) (EZ ys)<Gr->xs.length+n=ys.length+m->Q (ltL xs ys) s->KatLex P w A b (decide (m<n)) Q (vs.zip ws) i s
 | [],[],_,_,_,_,i,_,ra,rb,_,_,_,_,hl,q=>by
  cases ra;cases rb;rw [ltL] at q;simp only [G0] at hl;rw [Ky (show ¬ m<n by omega)];exact kat_nil q
 | [],y :: ys,_,_,_,_,i,_,ra,rb,_,_,_,_,hl,q=>by
  cases ra;cases rb;rw [ltL] at q;simp only [G0,E1] at hl;rw [Kx (show m<n by omega)];exact kat_nil q
 | x :: xs,[],_,_,_,_,i,_,ra,rb,_,_,_,_,hl,q=>by
  cases ra;cases rb;rw [ltL] at q;simp only [G0,E1] at hl;rw [Ky (show ¬ m<n by omega),List.zip_nil_right];exact kat_nil q
 | x :: xs,y :: ys,_,_,_,_,i,hi,ra,rb,pa,pb,hc,hu,hl,q=>by
  cases ra with
  | cons r rs =>
   cases rb with
   | cons r' rs' =>
    rw [zT,EV] at pa pb;rw [bD] at hc;rw [ltL] at q;have e1:EZ (x :: xs)=max x.depth (EZ xs):=rfl;have e2:EZ (y :: ys)=max y.depth (EZ ys):=rfl;rw [e1,e2] at hu;simp only [E1] at hl;rw [Hk];refine gY (c:=true) r r' pa.1 pb.1 (by omega) (fun e=>?_) fun e=>?_
    ·rw [Kw e] at hc q;exact bE xs ys _ _ _ _ (i+1) (.inl (by omega)) rs rs' pa.2 pb.2 hc (by omega) (by omega) q
    ·rw [Kv (by rw [e];exact EG)] at hc q;have ef:(b && i == 0)=false:=by
      rcases hi with hi | hi
      ·rw [show (i == 0)=false from beq_eq_false_iff_ne.mpr (by omega),Gv]
      ·rw [hi];rfl
     rw [ef];exact kat_one _ _ (kD x y A s _ _ _ _ r r' pa.1 pb.1 hc (by omega) P w _ _ q)
end
noncomputable def vb:PyData->Option String
 | .tuple (.int _ :: _)=>some "int"
 | .tuple (.str _ :: _)=>some "str"
 | .tuple (.tuple _ :: _)=>some "tuple"
 | _=>none
structure SortOk (T:String) (ds:List PyData):Prop where
 plain:∀ d∈ds,zD d=true
 head:∀ d∈ds,vb d=some T
 cmp:∀ d∈ds,∀ e∈ds,cZ d e=true
 depth:∀ d∈ds,d.depth<=50
 nd:ds.Nodup
theorem vZ {d:PyData} {T:String} (h:vb d=some T):∃ x xs,d=.tuple (x :: xs)/\((T="int"/\∃ n,x=.int n) \/ (T="str"/\∃ n,x=.str n) \/ (T="tuple"/\∃ n,x=.tuple n)):=by
 unfold vb at h;split at h
 ·cases h;exact⟨_,_,rfl,.inl ⟨rfl,_,rfl⟩⟩
 ·cases h;exact⟨_,_,rfl,.inr (.inl ⟨rfl,_,rfl⟩)⟩
 ·cases h;exact⟨_,_,rfl,.inr (.inr ⟨rfl,_,rfl⟩)⟩
 ·cases h
section
variable {P:Program} {w:World} {A:Around} {s:Shared} {T:String}
theorem CN {d e:PyData} {v u:Value} {as bs:List EL} {C:Bool->Shared->Prop} (rd:Reads s.heap v d as) (re:Reads s.heap u e bs) (pd:zD d=true) (pe:zD e=true) (hd:vb d=some T) (he:vb e=some T) (hc:cZ d e=true)
  (hu:A.units+60<Gr) (d1:d.depth<=50) (d2:e.depth<=50) (q:C (ltD d e) s):Fd (model P w) A (keyLt' (tuples' (Value.type T != Value.type "tuple")) v u) C (fun _ _=>False) s:=by
 obtain⟨x,xs,rfl,hx⟩:=vZ hd;obtain⟨y,ys,rfl,hy⟩:=vZ he;cases rd with
 | @tuple l o vs n _ as h1 h2 h3 h4 =>
  cases re with
  | @tuple m o2 ws n2 _ bs k1 k2 k3 k4 =>
   have l1:=Iz _ _ _ h4;have l2:=Iz _ _ _ k4;rw [E5] at l1 l2;refine kat_lt h1 h3 k1 k3 ?_;rw [zD] at pd pe;rw [cZ] at hc;rw [ltD] at q;have e1:(PyData.tuple (x :: xs)).depth=EZ (x :: xs)+1:=rfl;have e2:(PyData.tuple (y :: ys)).depth=EZ (y :: ys)+1:=rfl;have e3:EZ (x :: xs)=max x.depth (EZ xs):=rfl;have e4:EZ (y :: ys)=max y.depth (EZ ys):=rfl;rcases hx with⟨rfl,nx,rfl⟩ | ⟨rfl,nx,rfl⟩ | ⟨rfl,nx,rfl⟩
   ·obtain⟨ny,rfl⟩:∃ ny,y=.int ny:=by
     rcases hy with⟨_,h⟩ | ⟨z,_⟩ | ⟨z,_⟩
     ·exact h
     ·exact absurd z (by decide)
     ·exact absurd z (by decide)
    obtain⟨vl⟩:=vs;obtain⟨wl⟩:=ws;cases h4 with
    | cons r rs =>
     cases k4 with
     | cons r' rs' =>
      rw [zT,EV] at pd pe;rw [bD] at hc;rw [ltL] at q;rw [Hk];refine gY (c:=true) r r' rfl rfl (by omega) (fun e=>?_) fun e=>?_
      ·rw [Kw e] at hc q;exact bE xs ys _ _ _ _ 1 (.inl (EN 1)) rs rs' pd.2 pe.2 hc (by omega) (by simp only [E1] at l1 l2;omega) q
      ·rw [Kv (by rw [e];exact EG)] at q;rw [show ((Value.type "int" != Value.type "tuple") && (0 == 0))=true by decide];cases r;cases r';rw [ltD] at q;exact oneLt_int q
   ·obtain⟨ny,rfl⟩:∃ ny,y=.str ny:=by
     rcases hy with⟨z,_⟩ | ⟨_,h⟩ | ⟨z,_⟩
     ·exact absurd z (by decide)
     ·exact h
     ·exact absurd z (by decide)
    obtain⟨vl⟩:=vs;obtain⟨wl⟩:=ws;cases h4 with
    | cons r rs =>
     cases k4 with
     | cons r' rs' =>
      rw [zT,EV] at pd pe;rw [bD] at hc;rw [ltL] at q;rw [Hk];refine gY (c:=true) r r' pd.1 pe.1 (by omega) (fun e=>?_) fun e=>?_
      ·rw [Kw e] at hc q;exact bE xs ys _ _ _ _ 1 (.inl (EN 1)) rs rs' pd.2 pe.2 hc (by omega) (by simp only [E1] at l1 l2;omega) q
      ·rw [Kv (by rw [e];exact EG)] at q;rw [show ((Value.type "str" != Value.type "tuple") && (0 == 0))=true by decide];cases r;cases r';rw [ltD] at q;exact oneLt_str q
   ·exact bE _ _ _ _ _ _ 0 (.inr (by decide)) h4 k4 pd pe hc (by omega) (by rw [l1,l2];omega) q
theorem ReadsAll.at {h:Heap}:∀ {vs:List Value} {ds:List PyData} {as:List EL},ReadsAll h vs ds as->∀ i,i<ds.length->∃ bs,Reads h (vs.getD i Value.none) (ds.getD i .none) bs
 | _,_,_,.nil,i,hi=>absurd hi (FV _)
 | _,_,_,.cons r rs,0,_=>⟨_,r⟩
 | _,_,_,.cons r rs,i+1,hi=>ReadsAll.at rs i (Nat.lt_of_succ_lt_succ hi)
theorem ReadsAll.keep {h h':Heap} (k:∀ b o,h.get? b=some o->h'.get? b=some o):∀ {vs:List Value} {ds:List PyData} {as:List EL},ReadsAll h vs ds as->ReadsAll h' vs ds as
 | _,_,_,.nil=>.nil
 | _,_,_,.cons r rs=>.cons (PyProof.Rows.Reads.keeps k r) (ReadsAll.keep k rs)
theorem oh {h:Heap}:∀ {vs:List Value} {ds:List PyData} {as:List EL},ReadsAll h vs ds as->(∀ d∈ds,vb d=some T)->∃ fs,KatTups h vs fs/\fs.length=vs.length/\∀ v∈fs,Looks (model P w) h (typeOf v) (.type T)
 | _,_,_,.nil,_=>⟨[],.nil,rfl,fun _ h=>nomatch h⟩
 | _,d :: ds,_,.cons r rs,hh=>by
  obtain⟨fs,h1,h2,h3⟩:=oh rs fun d hd=>hh d (EM _ hd);obtain⟨x,xs,rfl,hx⟩:=vZ (hh d ET);cases r with
  | @tuple l o vs n _ as k1 k2 k3 k4 =>
   obtain⟨vl⟩:=vs;cases k4 with
   | @cons v0 vs0 _ _ _ _ r0 rs0 =>
    refine⟨v0 :: fs,.cons k1 k2 k3 rfl h1,by simp [h2],fun v hv=>?_⟩;rcases EW.mp hv with rfl | hv
    ·rcases hx with⟨rfl,nx,rfl⟩ | ⟨rfl,nx,rfl⟩ | ⟨rfl,nx,rfl⟩
     ·cases r0;exact Looks.of_pure rfl
     ·cases r0;exact Looks.of_pure rfl
     ·cases r0 with
      | tuple q1 q2 q3 q4=>rw [<-q2];exact (Looks.ld q1).andThen .now
    ·exact h3 v hv
theorem CO {ds:List PyData} (ok:SortOk T ds):Tot ds.length fun i j=>ltD (ds.getD i .none) (ds.getD j .none):=by
 have mem:∀ i,i<ds.length->ds.getD i .none∈ds:=fun i hi=>by
  rw [EE,ED hi];exact Ff hi
 refine⟨fun i j hi hj ne=>mE _ _ (ok.plain _ (mem i hi)) (ok.plain _ (mem j hj)) fun z=>ne ?_,fun i j k hi hj hk=>mF _ _ _ (ok.plain _ (mem i hi)) (ok.plain _ (mem j hj)) (ok.plain _ (mem k hk))⟩;rw [EE,EE,ED hi,ED hj] at z;exact (Hw ok.nd).mp z
theorem Ai {vs:List Value} {ds:List PyData} {as:List EL} (ra:ReadsAll s.heap vs ds as) (ok:SortOk T ds) (hu:A.units+60<Gr) (few:ds.length<64 \/ ds.Pairwise fun d e=>ltD d e=true) :
  Asks P w A s (tuples' (Value.type T != Value.type "tuple")) vs fun i j=>ltD (ds.getD i .none) (ds.getD j .none):=by
 have len:=Iz _ _ _ ra;have mem:∀ i,i<ds.length->ds.getD i .none∈ds:=fun i hi=>by
  rw [EE,ED hi];exact Ff hi
 refine⟨fun h2 h' k R q=>?_,fun h' k i j C hi hj q=>?_,by rw [len];exact CO ok,?_⟩
 ·obtain⟨fs,f1,f2,f3⟩:=oh (P:=P) (w:=w) (ReadsAll.keep k ra) ok.head;exact kat_kind f1 (by omega) f3 (beq_self_eq_true _) q
 ·rw [len] at hi hj;obtain⟨b1,r1⟩:=ReadsAll.at (ReadsAll.keep k ra) i hi;obtain⟨b2,r2⟩:=ReadsAll.at (ReadsAll.keep k ra) j hj;exact CN r1 r2 (ok.plain _ (mem i hi)) (ok.plain _ (mem j hj)) (ok.head _ (mem i hi)) (ok.head _ (mem j hj)) (ok.cmp _ (mem i hi) _ (mem j hj)) hu (ok.depth _ (mem i hi)) (ok.depth _ (mem j hj)) q
 ·rw [len];refine few.imp id fun pw i hi=>?_;have h1:=Gb.mp pw i (i+1) (by omega) hi (by omega);have g:∀ j (hj:j<ds.length),ds.getD j .none=ds[j]:=fun j hj=>by rw [EE,ED hj];rfl
  rw [g _ hi,g i (by omega)];have ne:=lt_asymm (ok.plain _ (Ff _)) (ok.plain _ (Ff _)) h1;have:=mE _ _ (ok.plain _ (Ff _)) (ok.plain _ (Ff _)) ne;rw [h1] at this
  revert this
  cases ltD ds[i+1] ds[i] <;> simp
end
noncomputable def pick {α:Type} (d:α) (p:Array Nat) (xs:List α):List α:=p.toList.map fun i=>xs.getD i d
theorem om:∀ {xs:List V} {us:List Value},Vals xs us->∀ i,RelV (xs.getD i .non) (us.getD i Value.none)
 | _,_,.nil,i=>rfl
 | _,_,.cons r t,0=>r
 | _,_,.cons r t,i+1=>om t i
theorem sA {xs:List V} {us:List Value} (r:Vals xs us) (p:Array Nat):Vals (pick .non p xs) (pick Value.none p us):=by
 unfold pick
 induction p.toList with
 | nil=>exact .nil
 | cons i l ih=>exact .cons (om r i) ih
theorem oo {K:EI} {H:Hp}:∀ {ds:List PyData} {xs:List V},Reps K H ds xs->∀ i,Rep K H (ds.getD i .none) (xs.getD i .non)
 | [],xs,r,i=>by
  rw [zR.mp r];exact jM.mpr rfl
 | d :: ds,xs,r,i=>by
  obtain⟨x,xs',rfl,r1,r2⟩:=zC.mp r;cases i with
  | zero=>exact r1
  | succ i=>exact oo r2 i
theorem sC {K:EI} {H:Hp} {ds:List PyData} {xs:List V} (r:Reps K H ds xs) (p:Array Nat):Reps K H (pick .none p ds) (pick .non p xs):=by
 unfold pick
 induction p.toList with
 | nil=>exact .nil'
 | cons i l ih=>exact .cons' (oo r i) ih
theorem sD {α:Type} {d:α} {n:Nat} {p:Array Nat} {xs:List α} (h:Pm n p) (hn:n=xs.length):(pick d p xs).Perm xs:=by
 have e:(E7 n).map (fun i=>xs.getD i d)=xs:=by
  subst hn;refine Ij fun i=>?_;rw [EO];by_cases hi:i<xs.length
  ·rw [Gd hi,ED hi];simp [hi]
  ·rw [Fl (by simp;omega),Fl (by omega)];rfl
 have:=h.map fun i=>xs.getD i d;rw [e] at this;exact this
theorem Aj {n:Nat} {p:Array Nat} {ds:List PyData} (h:Pm n p) (u:Up (fun i j=>ltD (ds.getD i .none) (ds.getD j .none)) p n):(pick .none p ds).Pairwise fun d e=>ltD d e=true:=by
 unfold pick;rw [Gw];refine Gb.mpr fun i j hi hj hij=>?_;have hs:=h.size;rw [E5] at hi hj;have:=u i j hij (by omega);have g:∀ k (hk:k<p.toList.length),p.getD k 0=p.toList[k]:=fun k hk=>by
  rw [qI,EE,ED hk];rfl
 rw [g i (by simpa using hi),g j (by simpa using hj)] at this;exact this
def gZ (K:EI):List V->Hp->VK->Prop:=fun xs H Q=>∃ (a:EL) (vs:List V) (ds:List PyData) (T:String),xs=[.ref a]/\SqL K H a vs/\Reps K H ds vs/\SortOk T ds/\ds.length<=1000/\(ds.length<64 \/ ds.Pairwise fun d e=>ltD d e=true) /\
 ∀ l p,H l=none->Pm ds.length p->Up (fun i j=>ltD (ds.getD i .none) (ds.getD j .none)) p ds.length->Q (.ref l) (upd H l (.lst (pick .non p vs)))
theorem g6 {X:Cx} (hu:X.A.units+64<Gr):yR X (.builtin "sorted") (gZ X.K):=by
 intro Ku s σ H xs us Q I r h;obtain⟨a,vs,ds,T,rfl,ha,rd,ok,hl,few,q⟩:=h;obtain⟨u,rfl,rx⟩:=vals1 r;cases rx;obtain⟨its,rv,pl,hz⟩:=I.list ha;have le:=rv.length;have ld:=rd.length;obtain⟨as,ra⟩:=qG I ds vs its rd rv;have e2:X.A.in1.in1.units=X.A.units+1+1:=rfl;have lt':its.length=ds.length:=by omega
 refine kC (by omega) pl.isList (Ai ra ok (by omega) few) fun h' D p c x1 x2 x3 x4 x5=>?_;rw [lt'] at x1 x2;have hD:H D=none:=I.hok.fresh x3;have lp:p.toList.length=ds.length:=by rw [E5];exact x1.size
 exact⟨.ref D,upd H D (.lst (pick .non p vs)),I.laid (t':=s.toks) x4 x3 ⟨by unfold pick;rw [EF];omega,pick Value.none p its,c,sA rv p,x5⟩,rfl,q D p hD x1 x2⟩
theorem g7 {X:Cx} {K:EI} (hK:X.K=K) (hu:X.A.units+64<Gr):yR X (.builtin "sorted") (gZ K):=hK▸g6 hu
section
variable {K:EI} {f:Fx} {ρ:zw} {P:List PyData->Prop} {te:TE}
theorem uS (T:String) (h:PEd K f te ρ fun x=>∃ ds,x=.list ds/\SortOk T ds/\ds.length<=1000/\(ds.length<64 \/ ds.Pairwise fun d e=>ltD d e=true)/\∀ es,es.Perm ds->(es.Pairwise fun d e=>ltD d e=true)->P es) :
  PEdO K f (tCB (gZ K) (z7 te qv)) ρ P:=fun σ H Q e q=>h σ H _ e fun x v H1 g1 r1 ⟨ds,ex,ok,hl,few,p⟩=>by
 subst ex;obtain⟨a,xs,rfl,h1,h2⟩:=zG.mp r1;refine⟨a,xs,ds,T,rfl,(zo _ _).seq h1,Reps.mono (zo _ _) _ _ h2,ok,hl,few,fun l pm hn m u=>?_⟩;have g2:Goes f H1 (upd H1 l (.lst (pick .non pm xs))):=.of_same (yf hn _) g1.2;refine q (pick .none pm ds) l _ _ (g1.trans g2) (g1.free e.fd hn) zK (Reps.mono (fun b o hb=>?_) _ _ (sC h2 pm)) (p _ (sD m rfl) (Aj m u));have hb':=zY hb;have hbl:b≠l:=fun z=>by
  have:=hb'.2;rw [z,hn] at this;cases this
 refine zL (fun z=>?_) (by rw [zM hbl];exact hb'.2);rcases z with z | z
 ·exact hb'.1 (.inl z)
 ·rcases EW.mp z with z | z
  ·exact hbl z
  ·exact hb'.1 (.inr z)
end
end L2
end
section
namespace L2.ST
open PySem PySem.SetTable
def kE (xs:Array Nat):Prop:=∀ i j,i<j->j<xs.size->xs.getD i 0<xs.getD j 0
theorem uT {xs:Array Nat} {i d e:Nat} (h:i<xs.size):xs.getD i d=xs.getD i e:=by simp [Hj,h]
theorem d9 {xs:Array Nat} {j:Nat}:∀ f lo hi,hi - lo<=f->lo<=hi->hi<=xs.size->(∀ i,i<lo->xs.getD i 0<j)->(∀ i,hi<=i->i<xs.size->j<=xs.getD i 0)->kE xs ->
  lo<=below.go xs j f lo hi/\below.go xs j f lo hi<=hi/\(∀ i,i<below.go xs j f lo hi->xs.getD i 0<j)/\(∀ i,below.go xs j f lo hi<=i->i<xs.size->j<=xs.getD i 0)
 | 0,lo,hi,hf,hl,hh,a,b,r=>by
  obtain rfl:lo=hi:=by omega
  exact⟨EN _,EN _,a,b⟩
 | f+1,lo,hi,hf,hl,hh,a,b,r=>by
  unfold below.go;by_cases h:lo<hi
  ·rw [Kw h];have hm:(lo+hi) / 2<xs.size:=by omega
   simp only;rw [uT (e:=0) hm];by_cases h2:xs.getD ((lo+hi) / 2) 0<j
   ·rw [Kw h2];have:=d9 f ((lo+hi) / 2+1) hi (by omega) (by omega) hh (fun i hi'=>by
     by_cases e:i=(lo+hi) / 2
     ·rw [e];exact h2
     ·exact Kh (r i _ (by omega) hm) h2) b r
    exact⟨by omega,this.2.1,this.2.2⟩
   ·rw [Kv h2];have:=d9 f lo ((lo+hi) / 2) (by omega) (by omega) (by omega) a (fun i hi' hs=>by
     by_cases e:i=(lo+hi) / 2
     ·rw [e];omega
     ·have:=r ((lo+hi) / 2) i (by omega) hs;omega) r
    exact⟨this.1,by omega,this.2.2⟩
  ·rw [Kv h];obtain rfl:lo=hi:=by omega
   exact⟨EN _,EN _,a,b⟩
theorem kF {xs:Array Nat} (r:kE xs) (j:Nat):below xs j<=xs.size/\(∀ i,i<below xs j->xs.getD i 0<j)/\(∀ i,below xs j<=i->i<xs.size->j<=xs.getD i 0):=by
 have:=d9 (xs:=xs) (j:=j) xs.size 0 xs.size (by omega) (Ft _) (EN _) (fun i hi=>absurd hi (FV _)) (fun i a b=>by omega) r;exact this.2
theorem below_at {xs:Array Nat} (r:kE xs) {i:Nat} (hi:i<xs.size):below xs (xs.getD i 0)=i:=by
 obtain⟨a,b,c⟩:=kF r (xs.getD i 0);by_cases h:below xs (xs.getD i 0)<i
 ·have h1:=c _ (EN _) (by omega);have h2:=r _ i h hi;omega
 ·by_cases h2:i<below xs (xs.getD i 0)
  ·have:=b i h2;omega
  ·omega
def Tk (t:SetTable) (j:Nat):Prop:=∃ i,i<t.place.size/\t.place.getD i 0=j
theorem slot_live {t:SetTable} (r:kE t.place) {i:Nat} (hi:i<t.place.size):t.slot (t.place.getD i 0)=.live i:=by
 unfold slot;simp only;rw [below_at r hi];have:(t.place[i]? == some (t.place.getD i 0))=true:=by simp [Hj,hi]
 rw [Kw this]
theorem sE {t:SetTable} (d:t.dummies=#[]) {j:Nat} (h:¬ Tk t j):t.slot j=.empty:=by
 unfold slot;simp only;have h1:¬ (t.place[below t.place j]? == some j)=true:=fun e=>h (by
  have e2:=eq_of_beq e;obtain⟨hl,e3⟩:=Array.getElem?_eq_some_iff.mp e2;exact⟨_,hl,by simp [Hj,hl,e3]⟩)
 rw [Kv h1];have h2:has t.dummies j=false:=by rw [d];rfl
 rw [h2];rfl
def road (mask:Nat) (h:Int):Nat->Probe
 | 0=>{ j:=bits h % (mask+1),more:=runEnd mask (bits h % (mask+1)) - bits h % (mask+1),i:=bits h % (mask+1),perturb:=bits h,dummy:=none }
 | k+1=>if (road mask h k).more > 0 then { road mask h k with j:=(road mask h k).j+1,more:=(road mask h k).more - 1 } else
  { road mask h k with j:=(leap mask (road mask h k).i (road mask h k).perturb).1,more:=runEnd mask (leap mask (road mask h k).i (road mask h k).perturb).1 - (leap mask (road mask h k).i (road mask h k).perturb).1,i:=(leap mask (road mask h k).i (road mask h k).perturb).1,perturb:=(leap mask (road mask h k).i (road mask h k).perturb).2 }
theorem road_start (t:SetTable) (h:Int):t.probeStart h=road t.mask h 0:=rfl
theorem aY (mask:Nat) (h:Int):∀ k,(road mask h k).dummy=none
 | 0=>rfl
 | k+1=>by
  unfold road;split
  ·exact aY mask h k
  ·exact aY mask h k
abbrev pos (mask:Nat) (h:Int) (k:Nat):Nat:=(road mask h k).j
noncomputable def lp (mask:Nat) (h:Int):Nat->Nat×Nat
 | 0=>(bits h % (mask+1),bits h)
 | r+1=>leap mask (lp mask h r).1 (lp mask h r).2
theorem cj (mask i:Nat) (h:i<=mask):i<=runEnd mask i/\runEnd mask i<=mask/\runEnd mask i - i<=9:=by
 unfold runEnd;split <;> omega
theorem kG (mask:Nat) (h:Int):∀ r,(lp mask h r).1<=mask
 | 0=>II.mp (IY _ (IS _))
 | r+1=>II.mp (IY _ (IS _))
def At (mask:Nat) (h:Int) (k r d:Nat):Prop:=d<=runEnd mask (lp mask h r).1 - (lp mask h r).1/\road mask h k={ j:=(lp mask h r).1+d,more:=runEnd mask (lp mask h r).1 - (lp mask h r).1 - d,i:=(lp mask h r).1,perturb:=(lp mask h r).2,dummy:=none }
theorem bF (mask:Nat) (h:Int):At mask h 0 0 0:=⟨Ft _,rfl⟩
theorem ot {mask:Nat} {h:Int} {k r d:Nat} (a:At mask h k r d) (hd:d<runEnd mask (lp mask h r).1 - (lp mask h r).1):At mask h (k+1) r (d+1):=by
 obtain⟨a1,a2⟩:=a;refine⟨hd,?_⟩;unfold road;rw [a2];simp only;rw [Kw (by omega)];simp only [Probe.mk.injEq,and_true];omega
theorem g8 {mask:Nat} {h:Int} {k r d:Nat} (a:At mask h k r d) (hd:d=runEnd mask (lp mask h r).1 - (lp mask h r).1):At mask h (k+1) (r+1) 0:=by
 obtain⟨a1,a2⟩:=a;refine⟨Ft _,?_⟩;unfold road;rw [a2];simp only;rw [Kv (by omega)];rfl
theorem g9 {mask:Nat} {h:Int} {k r:Nat} (a:At mask h k r 0):∀ d,d<=runEnd mask (lp mask h r).1 - (lp mask h r).1->At mask h (k+d) r d
 | 0,_=>a
 | d+1,hd=>ot (g9 a d (by omega)) (by omega)
theorem kH (mask:Nat) (h:Int):∀ r,∃ k,k<=10 * r/\At mask h k r 0
 | 0=>⟨0,EN _,bF mask h⟩
 | r+1=>by
  obtain⟨k,hk,a⟩:=kH mask h r;have:=(cj mask _ (kG mask h r)).2.2;exact⟨_,by omega,g8 (g9 a _ (EN _)) rfl⟩
theorem uU (mask:Nat) (h:Int):∀ k,∃ r d,At mask h k r d
 | 0=>⟨0,0,bF mask h⟩
 | k+1=>by
  obtain⟨r,d,a⟩:=uU mask h k;by_cases e:d<runEnd mask (lp mask h r).1 - (lp mask h r).1
  ·exact⟨r,d+1,ot a e⟩
  ·exact⟨r+1,0,g8 a (Nat.le_antisymm a.1 (by omega))⟩
theorem hC (mask:Nat) (h:Int) (k:Nat):pos mask h k<=mask:=by
 obtain⟨r,d,a1,a2⟩:=uU mask h k;unfold pos;rw [a2];have:=cj mask _ (kG mask h r);show (lp mask h r).1+d<=mask;omega
def stp (m i:Nat):Nat:=(i * 5+1) % m
def itr (m:Nat):Nat->Nat->Nat
 | 0,i=>i
 | r+1,i=>stp m (itr m r i)
theorem bG (m:Nat) (a:Nat):∀ b i,itr m (a+b) i=itr m b (itr m a i)
 | 0,i=>rfl
 | b+1,i=>by show stp m (itr m (a+b) i)=stp m (itr m b (itr m a i));rw [bG m a b i]
def orb (m:Nat):Nat->Nat->List Nat
 | 0,_=>[]
 | f+1,i=>i :: orb m f (stp m i)
theorem uV (m:Nat):∀ f i r,r<f->(orb m f i)[r]?=some (itr m r i)
 | 0,_,_,h=>absurd h (FV _)
 | f+1,i,0,_=>rfl
 | f+1,i,r+1,h=>by
  show (orb m f (stp m i))[r]?=_;rw [uV m f (stp m i) r (by omega),show r+1=1+r by omega,bG m 1 r i];rfl
def qx (m:Nat):Bool:=(E7 m).all (fun j=>(orb m m 0).contains j) && itr m m 0 == 0
theorem ou:qx 8=true:=by decide +kernel
theorem kI:qx 32=true:=by decide +kernel
theorem fR:qx 128=true:=by decide +kernel
theorem fS:qx 512=true:=by decide +kernel
theorem hE (m:Nat):∀ f i,(orb m f i).length=f
 | 0,_=>rfl
 | f+1,i=>by show (orb m f (stp m i)).length+1=f+1;rw [hE m f]
theorem kJ {m:Nat} (h:qx m=true) {j:Nat} (hj:j<m):∃ r,r<m/\itr m r 0=j:=by
 unfold qx at h;rw [EV] at h;have:=GD.mp h.1 j (Fe.mpr hj);have hm:j∈orb m m 0:=by simpa using this
 obtain⟨r,hr,e⟩:=Gz hm;rw [hE] at hr;have e2:=uV m m 0 r hr;rw [ED (by rw [hE];exact hr),e] at e2;exact⟨r,hr,(Option.some.inj e2).symm⟩
theorem ox {m:Nat} (h:qx m=true) {i j:Nat} (hi:i<m) (hj:j<m):∃ r,r<m/\itr m r i=j:=by
 obtain⟨a,ha,ea⟩:=kJ h hi;obtain⟨b,hb,eb⟩:=kJ h hj;have e0:itr m m 0=0:=by
  unfold qx at h;rw [EV] at h;exact eq_of_beq h.2
 by_cases hab:a<=b
 ·exact⟨b - a,by omega,by rw [<-ea,<- bG,show a+(b - a)=b by omega];exact eb⟩
 ·refine⟨m - a+b,by omega,?_⟩;rw [<-ea,<- bG,show a+(m - a+b)=m+b by omega,bG,e0];exact eb
theorem oy (mask:Nat) (h:Int):∀ r,(lp mask h r).2=bits h / 32 ^ r
 | 0=>by simp [lp]
 | r+1=>by
  show (lp mask h r).2 / 32=_;rw [oy mask h r,Nat.div_div_eq_div_mul,Nat.pow_succ]
theorem Ak (h:Int):bits h<2 ^ 64:=by
 unfold bits;have:=Hl h (show (0:Int)<2 ^ 64 by decide);have:=JK h (show (2 ^ 64:Int)≠0 by decide);omega
theorem Al (mask:Nat) (h:Int) (r:Nat) (hr:13<=r):(lp mask h r).2=0:=by
 rw [oy];refine Nat.div_eq_of_lt (Fb (Ak h) ?_);exact Fm (show 2 ^ 64<=32 ^ 13 by decide) (Hs (by decide) hr)
theorem mG (mask:Nat) (h:Int):∀ r,(lp mask h (13+r)).1=itr (mask+1) r (lp mask h 13).1
 | 0=>rfl
 | r+1=>by
  show (leap mask (lp mask h (13+r)).1 (lp mask h (13+r)).2).1=stp (mask+1) (itr (mask+1) r (lp mask h 13).1);rw [Al mask h (13+r) (by omega),mG mask h r];rfl
theorem uW {mask:Nat} (g:qx (mask+1)=true) (h:Int) {j:Nat} (hj:j<=mask):∃ k,k<10 * turns mask/\pos mask h k=j:=by
 obtain⟨r,hr,e⟩:=ox g (i:=(lp mask h 13).1) (j:=j) (Il (kG mask h 13)) (Il hj);obtain⟨k,hk,a1,a2⟩:=kH mask h (13+r);refine⟨k,by unfold turns;omega,?_⟩;unfold pos;rw [a2];show (lp mask h (13+r)).1+0=j;rw [mG,e];rfl
end L2.ST
end
section
namespace L2.ST
open PySem PySem.SetTable
structure TB (t:SetTable) (hs:List Int):Prop where
 mask:t.mask=7 \/ t.mask=31 \/ t.mask=127 \/ t.mask=511
 dum:t.dummies=#[]
 rise:kE t.place
 le:∀ i,i<t.place.size->t.place.getD i 0<=t.mask
 size:t.place.size=hs.length
 most:hs.length<=t.mask
 reach:∀ i,i<hs.length->∃ k,pos t.mask (hs.getD i 0) k=t.place.getD i 0/\∀ k',k'<k->Tk t (pos t.mask (hs.getD i 0) k')
structure TOk (t:SetTable) (hs:List Int):Prop extends TB t hs where
 room:hs.length * 5<t.mask * 3
theorem hI {t:SetTable} {hs:List Int} (o:TB t hs):qx (t.mask+1)=true:=by
 rcases o.mask with e | e | e | e <;> rw [e]
 ·exact ou
 ·exact kI
 ·exact fR
 ·exact fS
theorem sF {t:SetTable} (r:kE t.place) (hs:t.place.size<=t.mask):∃ j,j<=t.mask/\¬ Tk t j:=by
 refine GA fun no=>?_;have all:∀ j,j<=t.mask->Tk t j:=fun j hj=>GA fun z=>no ⟨j,hj,z⟩;have up:∀ j,j<=t.mask->j<=below t.place j/\below t.place j<t.place.size:=fun j=>by
  induction j with
  | zero =>
   intro hj;obtain⟨i,hi,e⟩:=all 0 hj;have:=below_at r hi;rw [e] at this;exact⟨Ft _,by omega⟩
  | succ j ih =>
   intro hj;obtain⟨i,hi,e⟩:=all (j+1) hj;obtain⟨i',hi',e'⟩:=all j (by omega);have b1:=below_at r hi;have b2:=below_at r hi';rw [e] at b1;rw [e'] at b2;have lt:i'<i:=by
    by_cases h:i'<i
    ·exact h
    ·by_cases h2:i'=i
     ·subst h2;omega
     ·have:=r i i' (by omega) hi';omega
   have:=ih (by omega);omega
 have:=up t.mask (EN _);omega
structure First (t:SetTable) (h:Int) (E:Nat):Prop where
 lt:E<10 * turns t.mask
 free:¬ Tk t (pos t.mask h E)
 ahead:∀ k,k<E->Tk t (pos t.mask h k)
theorem least {p:Nat->Prop}:∀ n,p n->∃ m,m<=n/\p m/\∀ k,k<m->¬ p k:=fun n=>by
 induction n using Nat.strongRecOn with
 | ind n ih =>
  intro h;by_cases q:∃ k,k<n/\p k
  ·obtain⟨k,hk,pk⟩:=q;obtain⟨m,a,b⟩:=ih k hk pk;exact⟨m,by omega,b⟩
  ·exact⟨n,EN _,h,fun k hk z=>q ⟨k,hk,z⟩⟩
theorem sG {t:SetTable} (g:qx (t.mask+1)=true) (r:kE t.place) (hs:t.place.size<=t.mask) (h:Int):∃ E,First t h E:=by
 obtain⟨j,hj,nj⟩:=sF r hs;obtain⟨k,hk,e⟩:=uW g h hj;obtain⟨m,a,b,c⟩:=least (p:=fun k=>¬ Tk t (pos t.mask h k)) k (by show ¬ Tk t (pos t.mask h k);rw [e];exact nj);exact⟨m,by omega,b,fun q hq=>GA (c q hq)⟩
theorem first_of {t:SetTable} {hs:List Int} (o:TB t hs) (h:Int):∃ E,First t h E:=sG (hI o) o.rise (by have:=o.size;have:=o.most;omega) h
theorem probe_go {t:SetTable} (d:t.dummies=#[]) (r:kE t.place) {hashAt:Nat->Int} {h:Int} {E:Nat} (F:First t h E):∀ f k,k<=E->E<k+f ->
  (probe.go t hashAt h f (road t.mask h k)=some (.empty (pos t.mask h E) none)/\∀ q i,k<=q->q<E->i<t.place.size->pos t.mask h q=t.place.getD i 0->hashAt i≠h) \/
  ∃ q i,k<=q/\q<E/\i<t.place.size/\pos t.mask h q=t.place.getD i 0/\hashAt i=h/\probe.go t hashAt h f (road t.mask h k)=some (.candidate (pos t.mask h q) i (road t.mask h (q+1)))/\∀ q' i',k<=q'->q'<q->i'<t.place.size->pos t.mask h q'=t.place.getD i' 0->hashAt i'≠h
 | 0,k,h1,h2=>by omega
 | f+1,k,h1,h2=>by
  unfold probe.go;by_cases e:k=E
  ·subst e;refine .inl ⟨?_,fun q i a b=>by omega⟩;rw [sE d F.free];show some (Met.empty _ _)=_;rw [aY]
  ·obtain⟨i,hi,ei⟩:=F.ahead k (by omega);have sl:t.slot (road t.mask h k).j=.live i:=by
    have:=slot_live r hi;rw [ei] at this;exact this
   rw [sl];show (if (hashAt i == h)=true then _ else _:Option Met)=_/\_ \/ _;have uniq:∀ i',i'<t.place.size->pos t.mask h k=t.place.getD i' 0->i'=i:=fun i' hi' e'=>by
    have b1:=below_at r hi;have b2:=below_at r hi';rw [ei] at b1;rw [<-e'] at b2;omega
   by_cases hh:(hashAt i == h)=true
   ·rw [Kw hh];refine .inr ⟨k,i,EN _,by omega,hi,ei.symm,eq_of_beq hh,?_,fun q' i' a b=>by omega⟩;show (if (hashAt i == h)=true then _ else _:Option Met)=_;rw [Kw hh];rfl
   ·rw [Kv hh];have hne:hashAt i≠h:=fun z=>hh (by rw [z];exact beq_self_eq_true _);rcases probe_go d r (hashAt:=hashAt) F f (k+1) (by omega) (by omega) with⟨a,b⟩ | ⟨q,i2,a1,a2,a3,a4,a5,a6,a7⟩
    ·refine .inl ⟨a,fun q i' c1 c2 c3 c4=>?_⟩;by_cases eq:q=k
     ·subst eq;rw [uniq i' c3 c4];exact hne
     ·exact b q i' (by omega) c2 c3 c4
    ·refine .inr ⟨q,i2,by omega,a2,a3,a4,a5,?_,fun q' i' c1 c2 c3 c4=>?_⟩
     ·show (if (hashAt i == h)=true then _ else _:Option Met)=_;rw [Kv hh];exact a6
     ·by_cases eq:q'=k
      ·subst eq;rw [uniq i' c3 c4];exact hne
      ·exact a7 q' i' (by omega) c2 c3 c4
end L2.ST
end
section
namespace L2.ST
open PySem PySem.SetTable
theorem bH {α:Type} (xs:Array α) (i:Nat) (d:α):xs.getD i d=xs.toList.getD i d:=by
 by_cases h:i<xs.size <;> simp [Hj,h,List.getD]
theorem kK {α:Type} (l:List α) (p:Nat) (x d:α) (hp:p<=l.length) (i:Nat):(l.take p++x :: l.drop p).getD i d=if i<p then l.getD i d else if i=p then x else l.getD (i - 1) d:=by
 have lt:(l.take p).length=p:=by rw [Fo];omega
 by_cases h1:i<p
 ·rw [Kw h1,EE,ER (by omega),G4 h1,EE]
 ·rw [Kv h1,EE,EX (by omega),lt];by_cases h2:i=p
  ·rw [Kw h2,h2,Gn];rfl
  ·rw [Kv h2,show i - p=(i - p - 1)+1 by omega,Ic,IW,show p+(i - p - 1)=i - 1 by omega,EE]
section
variable {t:SetTable} {hs:List Int} {h:Int} {E:Nat}
theorem put_tb (o:TB t hs) (F:First t h E) (more:hs.length+1<=t.mask):below t.place (pos t.mask h E)<=hs.length/\TB (t.put (pos t.mask h E)).1 (hs.take (below t.place (pos t.mask h E))++h :: hs.drop (below t.place (pos t.mask h E))):=by
 obtain⟨b1,b2,b3⟩:=kF o.rise (pos t.mask h E);have sz:=o.size;generalize hp:below t.place (pos t.mask h E)=p at *;have hpl:p<=t.place.toList.length:=by rw [E5];exact b1
 have pl:∀ i,(t.put (pos t.mask h E)).1.place.getD i 0=if i<p then t.place.getD i 0 else if i=p then pos t.mask h E else t.place.getD (i - 1) 0:=fun i=>by
  show (insertAt t.place (below t.place (pos t.mask h E)) (pos t.mask h E)).getD i 0=_;rw [hp,bH,HS,kK _ _ _ _ hpl,bH,bH]
 have psz:(t.put (pos t.mask h E)).1.place.size=t.place.size+1:=by
  show (insertAt t.place (below t.place (pos t.mask h E)) (pos t.mask h E)).size=_;rw [<-E5,HS,hp,EY,E1,Fo,Hz,E5];omega
 have ne:∀ i,i<t.place.size->t.place.getD i 0≠pos t.mask h E:=fun i hi e=>F.free ⟨i,hi,e⟩;have b3':∀ i,p<=i->i<t.place.size->pos t.mask h E<t.place.getD i 0:=fun i a b=>by
  have:=b3 i a b;have:=ne i b;omega
 have hm:(t.put (pos t.mask h E)).1.mask=t.mask:=rfl;have tk:∀ j,Tk t j->Tk (t.put (pos t.mask h E)).1 j:=fun j ⟨i,hi,e⟩=>by
  by_cases q:i<p
  ·exact⟨i,by omega,by rw [pl,Kw q];exact e⟩
  ·exact⟨i+1,by omega,by rw [pl,Kv (by omega),Kv (by omega),Nat.add_sub_cancel];exact e⟩
 have hl:∀ i,(hs.take p++h :: hs.drop p).getD i 0=if i<p then hs.getD i 0 else if i=p then h else hs.getD (i - 1) 0:=fun i=>kK hs p h 0 (by omega) i
 have ln:(hs.take p++h :: hs.drop p).length=hs.length+1:=by
  rw [EY,E1,Fo,Hz];omega
 refine⟨by omega,⟨o.mask,?_,fun i j hij hj=>?_,fun i hi=>?_,by rw [psz,ln,sz],by rw [ln,hm];exact more,fun i hi=>?_⟩⟩
 ·show (if has t.dummies (pos t.mask h E)=true then _ else t.dummies)=#[];rw [o.dum];rfl
 ·rw [pl,pl];rw [psz] at hj;by_cases c1:i<p
  ·rw [Kw c1];by_cases c2:j<p
   ·rw [Kw c2];exact o.rise i j hij (by omega)
   ·rw [Kv c2];by_cases c3:j=p
    ·rw [Kw c3];exact b2 i c1
    ·rw [Kv c3];exact o.rise i (j - 1) (by omega) (by omega)
  ·rw [Kv c1,Kv (show ¬ j<p by omega)];by_cases c3:i=p
   ·rw [Kw c3,Kv (by omega)];exact b3' (j - 1) (by omega) (by omega)
   ·rw [Kv c3,Kv (by omega)];exact o.rise (i - 1) (j - 1) (by omega) (by omega)
 ·rw [pl,hm];rw [psz] at hi;by_cases c1:i<p
  ·rw [Kw c1];exact o.le i (by omega)
  ·rw [Kv c1];by_cases c3:i=p
   ·rw [Kw c3];exact hC _ _ _
   ·rw [Kv c3];exact o.le (i - 1) (by omega)
 ·rw [hl,pl,hm];rw [ln] at hi;by_cases c1:i<p
  ·rw [Kw c1,Kw c1];obtain⟨k,e,a⟩:=o.reach i (by omega);exact⟨k,e,fun k' hk=>tk _ (a k' hk)⟩
  ·rw [Kv c1,Kv c1];by_cases c3:i=p
   ·rw [Kw c3,Kw c3];exact⟨E,rfl,fun k' hk=>tk _ (F.ahead k' hk)⟩
   ·rw [Kv c3,Kv c3];obtain⟨k,e,a⟩:=o.reach (i - 1) (by omega);exact⟨k,e,fun k' hk=>tk _ (a k' hk)⟩
end
def Occ (ow:Array (Option Nat)) (j:Nat):Prop:=ow.getD j (some 0)≠none
theorem oA {mask:Nat} {ow:Array (Option Nat)} {h:Int}:∀ f r k,At mask h k r 0->(∃ r',r<=r'/\r'<r+f/\¬ Occ ow (lp mask h r').1) ->
  ∃ E,k<=E/\(∀ q,k<=q->q<E->Occ ow (pos mask h q))/\¬ Occ ow (pos mask h E)/\layClean.free mask ow f (lp mask h r).1 (lp mask h r).2=some (pos mask h E)
 | 0,r,k,a,⟨r',h1,h2,_⟩=>by omega
 | f+1,r,k,a,⟨r',h1,h2,h3⟩=>by
  have re:=cj mask _ (kG mask h r);have at_:∀ d,d<=runEnd mask (lp mask h r).1 - (lp mask h r).1->pos mask h (k+d)=(lp mask h r).1+d:=fun d hd=>by
   have:=(g9 a d hd).2;unfold pos;rw [this]
  unfold layClean.free;cases hf:(E7 (runEnd mask (lp mask h r).1+1 - (lp mask h r).1)).find? fun k=>(ow.getD ((lp mask h r).1+k) (some 0)).isNone with
  | some d =>
   have hm:=List.mem_of_find?_eq_some hf;have hd:=Fe.mp hm;have hs:=List.find?_some hf;have bef:∀ d',d'<d->¬ (ow.getD ((lp mask h r).1+d') (some 0)).isNone=true:=fun d' hd'=>by
    obtain⟨_,as,bs,e,al⟩:=IE.mp hf;have:as=E7 d:=by
     have l1:(E7 (runEnd mask (lp mask h r).1+1 - (lp mask h r).1))[as.length]?=some d:=by
      rw [e,EX (EN _),Gn];rfl
     have lt:as.length<runEnd mask (lp mask h r).1+1 - (lp mask h r).1:=by
      have:=congrArg List.length e;simp at this;omega
     rw [Gd lt] at l1;have el:as.length=d:=Option.some.inj l1;have:as=(E7 (runEnd mask (lp mask h r).1+1 - (lp mask h r).1)).take as.length:=by
      rw [e,IF (EN _),Fq]
     rw [this,List.take_range,HX (by omega),el]
    have al2:=al d' (by rw [this];exact Fe.mpr hd');intro z;have z2:(!(ow.getD ((lp mask h r).1+d') (some 0)).isNone)=true:=al2;rw [z] at z2;cases z2
   refine⟨k+d,by omega,fun q hq1 hq2=>?_,?_,?_⟩
   ·have:=bef (q - k) (by omega);rw [show q=k+(q - k) by omega,at_ (q - k) (by omega)];intro z;rw [z] at this;exact this rfl
   ·rw [at_ d (by omega)];intro z;have hs':(ow.getD ((lp mask h r).1+d) (some 0)).isNone=true:=hs;exact z (HD.mp hs')
   ·rw [at_ d (by omega)]
  | none =>
   have all:∀ d,d<runEnd mask (lp mask h r).1+1 - (lp mask h r).1->Occ ow ((lp mask h r).1+d):=fun d hd z=>by
    have:=HY.mp hf d (Fe.mpr hd);simp [z] at this
   have ne:r'≠r:=fun z=>by
    rw [z] at h3;exact h3 (by have:=all 0 (by omega);rwa [Nat.add_zero] at this)
   have a2:=g8 (g9 a _ (EN _)) rfl;obtain⟨E,e1,e2,e3,e4⟩:=oA f (r+1) _ a2 ⟨r',by omega,by omega,h3⟩;refine⟨E,by omega,fun q hq1 hq2=>?_,e3,e4⟩;by_cases hq:q<k+(runEnd mask (lp mask h r).1 - (lp mask h r).1)+1
   ·rw [show q=k+(q - k) by omega,at_ (q - k) (by omega)];exact all _ (by omega)
   ·exact e2 q (by omega) hq2
end L2.ST
end
section
namespace L2.ST
open PySem PySem.SetTable
structure OwnT (mask:Nat) (ow:Array (Option Nat)) (hs:List Int) (sl:List Nat):Prop where
 size:ow.size=mask+1
 len:sl.length=hs.length
 nd:sl.Nodup
 le:∀ j∈sl,j<=mask
 own:∀ j,j<=mask->∀ i,ow.getD j none=some i↔sl[i]?=some j
 reach:∀ i,i<hs.length->∃ q,pos mask (hs.getD i 0) q=sl.getD i 0/\∀ q',q'<q->pos mask (hs.getD i 0) q'∈sl
theorem OwnT.occ {mask:Nat} {ow:Array (Option Nat)} {hs:List Int} {sl:List Nat} (o:OwnT mask ow hs sl) {j:Nat} (hj:j<=mask):Occ ow j↔j∈sl:=by
 have hs':j<ow.size:=by rw [o.size];omega
 have e:ow.getD j (some 0)=ow.getD j none:=by simp [Hj,hs']
 unfold Occ;rw [e];constructor
 ·intro h;obtain⟨i,hi⟩:=Option.ne_none_iff_exists'.mp h;exact EK ((o.own j hj i).mp hi)
 ·intro h z;obtain⟨i,hi,e2⟩:=Gz h;have:=(o.own j hj i).mpr (by rw [ED hi,e2]);rw [z] at this;cases this
def oB (mask:Nat):Option (Array (Option Nat)×Nat)->Int->Option (Array (Option Nat)×Nat):=fun acc h=>do
  let (owner,k) <- acc
  let j <- layClean.free mask owner (turns mask) (bits h % (mask+1)) (bits h)
  pure (owner.setIfInBounds j (some k),k+1)
theorem uX {mask:Nat} (g:qx (mask+1)=true) {ow:Array (Option Nat)} {hs:List Int} {sl:List Nat} (o:OwnT mask ow hs sl) (hm:hs.length<=mask) (h:Int) :
  ∃ ow' sl',oB mask (some (ow,hs.length)) h=some (ow',hs.length+1)/\OwnT mask ow' (hs++[h]) sl':=by
 obtain⟨j,hj,nj⟩:∃ j,j<=mask/\j∉sl:=by
  refine GA fun no=>?_;have sub:E7 (mask+1) ⊆ sl:=fun j hj=>GA fun z=>no ⟨j,II.mp (Fe.mp hj),z⟩;have:=List.Nodup.length_le_of_subset Jt sub;rw [FH,o.len] at this;omega
 obtain⟨r,hr,e⟩:=ox g (i:=(lp mask h 13).1) (j:=j) (Il (kG mask h 13)) (Il hj);obtain⟨E,_,e2,e3,e4⟩:=oA (ow:=ow) (turns mask) 0 0 (bF mask h) ⟨13+r,Ft _,by unfold turns;omega,by rw [mG,e,o.occ hj];exact nj⟩;have e3':pos mask h E∉sl:=fun z=>e3 ((o.occ (hC mask h E)).mpr z);have e2':∀ q,q<E->pos mask h q∈sl:=fun q hq=>(o.occ (hC mask h q)).mp (e2 q (Ft _) hq);have e4':layClean.free mask ow (turns mask) (bits h % (mask+1)) (bits h)=some (pos mask h E):=e4;refine⟨ow.setIfInBounds (pos mask h E) (some hs.length),sl++[pos mask h E],?_,?_⟩
 ·show (layClean.free mask ow (turns mask) (bits h % (mask+1)) (bits h) >>= fun j=>pure (ow.setIfInBounds j (some hs.length),hs.length+1))=_;rw [e4'];rfl
 ·have ls:∀ i,(sl++[pos mask h E])[i]?=if i<sl.length then sl[i]? else if i=sl.length then some (pos mask h E) else none:=fun i=>by
   by_cases c:i<sl.length
   ·rw [Kw c,ER c]
   ·rw [Kv c,EX (by omega)];by_cases c2:i=sl.length
    ·rw [Kw c2,c2,Gn];rfl
    ·rw [Kv c2];exact Fl (by simp;omega)
  refine⟨by rw [Array.size_setIfInBounds];exact o.size,by simp [o.len],?_,fun j hj=>?_,fun j hj i=>?_,fun i hi=>?_⟩
  ·rw [G3];refine⟨o.nd,by simp,fun a ha b hb=>?_⟩;rw [Fc.mp hb];intro z;rw [z] at ha;exact e3' ha
  ·rcases Fj.mp hj with hj | hj
   ·exact o.le j hj
   ·rw [Fc.mp hj];exact hC _ _ _
  ·have hsz:j<ow.size:=by rw [o.size];omega
   rw [ls];by_cases c:j=pos mask h E
   ·subst c;have:(ow.setIfInBounds (pos mask h E) (some hs.length)).getD (pos mask h E) none=some hs.length:=by simp [Hj,hsz]
    rw [this];constructor
    ·intro z;have z':hs.length=i:=Option.some.inj z;rw [Kv (by rw [o.len];omega),Kw (by rw [o.len];omega)]
    ·intro z;by_cases c2:i<sl.length
     ·rw [Kw c2] at z;exact absurd (EK z) e3'
     ·rw [Kv c2] at z;by_cases c3:i=sl.length
      ·rw [c3,o.len]
      ·rw [Kv c3] at z;cases z
   ·have:(ow.setIfInBounds (pos mask h E) (some hs.length)).getD j none=ow.getD j none:=by
     rw [GS,GS,Array.getElem?_setIfInBounds_ne (F6 c)]
    rw [this,o.own j hj i];by_cases c2:i<sl.length
    ·rw [Kw c2]
    ·rw [Kv c2];constructor
     ·intro z;rw [Fl (by omega)] at z;cases z
     ·intro z;by_cases c3:i=sl.length
      ·rw [Kw c3] at z;exact absurd (Option.some.inj z).symm c
      ·rw [Kv c3] at z;cases z
  ·have gl:∀ i,(hs++[h]).getD i 0=if i<hs.length then hs.getD i 0 else if i=hs.length then h else 0:=fun i=>by
    by_cases c:i<hs.length
    ·rw [Kw c,EE,ER c,EE]
    ·rw [Kv c,EE,EX (by omega)];by_cases c2:i=hs.length
     ·rw [Kw c2,c2,Gn];rfl
     ·rw [Kv c2,Fl (by simp;omega)];rfl
   rw [EY,FJ] at hi;have gs:(sl++[pos mask h E]).getD i 0=((sl++[pos mask h E])[i]?).getD 0:=EE ..;rw [gl,gs,ls];by_cases c:i<hs.length
   ·rw [Kw c,Kw (by rw [o.len];exact c)];obtain⟨q,a,b⟩:=o.reach i c;exact⟨q,by rw [<-EE];exact a,fun q' hq=>FE _ (b q' hq)⟩
   ·rw [Kv c,Kw (by omega),Kv (by rw [o.len];omega),Kw (by rw [o.len];omega)];exact⟨E,rfl,fun q' hq=>FE _ (e2' q' hq)⟩
theorem oC {mask:Nat} (g:qx (mask+1)=true):∀ (l:List Int) (ow:Array (Option Nat)) (hs:List Int) (sl:List Nat),OwnT mask ow hs sl->hs.length+l.length<=mask+1 ->
  ∃ ow' sl',l.foldl (oB mask) (some (ow,hs.length))=some (ow',hs.length+l.length)/\OwnT mask ow' (hs++l) sl'
 | [],ow,hs,sl,o,_=>⟨ow,sl,rfl,by rw [FT];exact o⟩
 | h :: l,ow,hs,sl,o,hm=>by
  rw [E1] at hm;obtain⟨ow1,sl1,e1,o1⟩:=uX g o (by omega) h;obtain⟨ow2,sl2,e2,o2⟩:=oC g l ow1 (hs++[h]) sl1 o1 (by rw [EY,FJ];omega);refine⟨ow2,sl2,?_,by rw [Gf] at o2;exact o2⟩;rw [List.foldl_cons,e1];rw [EY,FJ] at e2;rw [e2,E1,Jm,Nat.add_comm 1]
theorem Am (mask:Nat):OwnT mask (IJ (mask+1) none) [] [] where
 size:=by simp
 len:=rfl
 nd:=.nil
 le:=fun _ h=>nomatch h
 own:=fun j hj i=>by
  have:(IJ (mask+1) (none:Option Nat)).getD j none=none:=by simp [Hj]
  rw [this];constructor <;> intro z <;> cases z
 reach:=fun i hi=>absurd hi (FV _)
theorem uY {mask:Nat} (g:qx (mask+1)=true) (hs:Array Int) (hm:hs.size<=mask+1):∃ ow sl,layClean mask hs=some ow/\OwnT mask ow hs.toList sl:=by
 obtain⟨ow,sl,e,o⟩:=oC g hs.toList _ [] [] (Am mask) (by simpa using hm);refine⟨ow,sl,?_,by simpa using o⟩;unfold layClean;rw [<-Array.foldl_toList];have:hs.toList.foldl (oB mask) (some (IJ (mask+1) none,0))=some (ow,0+hs.toList.length):=e;show Option.map _ (hs.toList.foldl (oB mask) (some (IJ (mask+1) none,0)))=_;rw [this];rfl
theorem laid_ok {mask:Nat} (mk:mask=7 \/ mask=31 \/ mask=127 \/ mask=511) (hs:Array Int) (hm:hs.size<=mask) (finger moves:Nat) (led plain:Bool) :
  ∃ t ord,laid mask finger moves led plain hs=some (t,ord)/\t.mask=mask/\t.plain=plain/\t.led=led/\ord.toList.Perm (E7 hs.size)/\TB t (ord.toList.map fun i=>hs.toList.getD i 0):=by
 have g:qx (mask+1)=true:=by
  rcases mk with rfl | rfl | rfl | rfl
  ·exact ou
  ·exact kI
  ·exact fR
  ·exact fS
 obtain⟨ow,sl,e,o⟩:=uY g hs (by omega)
 let live:=(E7 (mask+1)).filterMap fun j=>(ow.getD j none).map (j,·)
 have mem:∀ p:Nat×Nat,p∈live↔p.1<=mask/\sl[p.2]?=some p.1:=fun⟨j,i⟩=>by
  show (j,i)∈List.filterMap _ _↔_;rw [Hd];constructor
  ·rintro⟨j',hj,e⟩;have hj':=II.mp (Fe.mp hj);cases e2:ow.getD j' none with
   | none=>rw [e2] at e;cases e
   | some i' =>
    rw [e2] at e;cases e;exact⟨hj',(o.own _ hj' _).mp e2⟩
  ·rintro⟨h1,h2⟩;refine⟨j,Fe.mpr (by omega),?_⟩;rw [(o.own j h1 i).mpr h2];rfl
 have up:(live.map (·.1)).Pairwise (·<·):=by
  rw [Gw];show (List.filterMap _ _).Pairwise _;rw [List.pairwise_filterMap];refine JC.imp fun {a b} hab p hp q hq=>?_;cases e1:ow.getD a none with
  | none=>rw [e1] at hp;cases hp
  | some i =>
   cases e2:ow.getD b none with
   | none=>rw [e2] at hq;cases hq
   | some i2 =>
    rw [e1] at hp;rw [e2] at hq;cases hp;cases hq;exact hab
 have nd2:(live.map (·.2)).Nodup:=by
  show List.Pairwise _ _;rw [Gw];have u2:=Gw.mp up;refine u2.imp_of_mem fun {p q} hp hq hlt hz=>?_;have a1:=((mem p).mp hp).2;have a2:=((mem q).mp hq).2;rw [hz,a2] at a1;have:=Option.some.inj a1;omega
 have pm:(live.map (·.2)).Perm (E7 hs.size):=by
  refine (List.perm_ext_iff_of_nodup nd2 Jt).mpr fun i=>?_;have ls:sl.length=hs.size:=by rw [o.len,E5]
  constructor
  ·intro hi;obtain⟨p,hp,rfl⟩:=E6.mp hi;have:=(EH.mp ((mem p).mp hp).2).1;exact Fe.mpr (by omega)
  ·intro hi;have hi':=Fe.mp hi;have hl:i<sl.length:=by omega
   exact E6.mpr ⟨(sl[i],i),(mem _).mpr ⟨o.le _ (Ff hl),ED hl⟩,rfl⟩
 refine⟨_,_,by unfold laid;rw [e];rfl,rfl,rfl,rfl,pm,?_⟩;have ln:live.length=hs.size:=by have:=pm.length_eq;rwa [EF,FH] at this
 have tk:∀ j,j∈sl->∃ i,i<live.length/\(live.map (·.1)).getD i 0=j:=fun j hj=>by
  obtain⟨i,hi,e2⟩:=Gz hj;have:(j,i)∈live:=(mem _).mpr ⟨o.le j hj,by rw [ED hi,e2]⟩;obtain⟨q,hq,e3⟩:=Gz this;exact⟨q,hq,by rw [EE,EO,ED hq,e3];rfl⟩
 have gd:∀ i,(live.map (·.1)).toArray.getD i 0=(live.map (·.1)).getD i 0:=fun i=>by rw [bH]
 refine⟨mk,rfl,fun i j hij hj=>?_,fun i hi=>?_,?_,?_,fun i hi=>?_⟩
 ·show (live.map (·.1)).toArray.getD i 0<(live.map (·.1)).toArray.getD j 0;have hj':j<(live.map (·.1)).length:=by
   have h2:j<(live.map (·.1)).toArray.size:=hj
   rwa [E3] at h2
  rw [gd,gd,EE,EE,ED hj',ED (show i<(live.map (·.1)).length by omega)];exact Gb.mp up i j (by omega) hj' hij
 ·show (live.map (·.1)).toArray.getD i 0<=mask;have hi':i<(live.map (·.1)).length:=by
   have h2:i<(live.map (·.1)).toArray.size:=hi
   rwa [E3] at h2
  rw [gd,EE,ED hi'];obtain⟨p,hp,e2⟩:=E6.mp (Ff hi');show (live.map (·.1))[i]<=mask;rw [<-e2];exact ((mem p).mp hp).1
 ·show (live.map (·.1)).toArray.size=_;simp
 ·show (HU _ (live.map (·.2))).length<=mask;rw [EF,EF,ln];exact hm
 ·have hi':i<live.length:=by
   have hi2:i<(HU (fun i=>hs.toList.getD i 0) (live.map (·.2))).length:=hi
   rwa [EF,EF] at hi2
  have pl:(live.map (·.1)).toArray.getD i 0=live[i].1:=by
   rw [gd,EE,EO,ED hi'];rfl
  have hh:(HU (fun i=>hs.toList.getD i 0) (live.map (·.2))).getD i 0=hs.toList.getD live[i].2 0:=by
   rw [EE,EO,EO,ED hi'];rfl
  have m2:=(mem live[i]).mp (Ff hi');have l2:=(EH.mp m2.2).1;obtain⟨q,a,b⟩:=o.reach live[i].2 (by rw [<-o.len];exact l2);refine⟨q,?_,fun q' hq=>?_⟩
  ·show pos mask ((HU (fun i=>hs.toList.getD i 0) (live.map (·.2))).getD i 0) q=(live.map (·.1)).toArray.getD i 0;rw [hh,pl,a,EE,m2.2];rfl
  ·show Tk _ (pos mask ((HU (fun i=>hs.toList.getD i 0) (live.map (·.2))).getD i 0) q');rw [hh];obtain⟨z,hz,ez⟩:=tk _ (b q' hq);exact⟨z,by show z<(live.map (·.1)).toArray.size;simpa using hz,by show (live.map (·.1)).toArray.getD z 0=_;rw [gd];exact ez⟩
end L2.ST
end
section
namespace L2
open PySem PySem.Spec PyProof.Rows
mutual
noncomputable def zz (w:World):PyData->Int
 | .int i=>hashInt i
 | .str x=>hashStr w x
 | .tuple xs=>reduceHash (GY (vQ w xs))
 | _=>0
noncomputable def vQ (w:World):List PyData->List Int
 | []=>[]
 | x :: xs=>zz w x :: vQ w xs
end
mutual
noncomputable def yl:PyData->Nat
 | .int _=>1
 | .str _=>1
 | .tuple xs=>ej xs+1
 | _=>0
noncomputable def ej:List PyData->Nat
 | []=>0
 | x :: xs=>yl x+ej xs
end
mutual
theorem eD {P:Program} {w:World}:∀ (d:PyData) (A:Around) (s:Shared) (v:Value) (as:List EL) (E:Value->Shared->Prop) (Q:Int->Shared->Prop),Reads s.heap v d as->zD d=true->A.units+4 * d.depth<Gr ->
  Q (zz w d) { s with toks:=s.toks+yl d }->Fd (model P w) A (pyHash v) Q E s
 | .int i,A,s,_,_,E,Q,r,_,_,q=>by
  cases r;rw [zz,yl] at q;exact wpAny_pyHash_int q
 | .str x,A,s,_,_,E,Q,r,_,_,q=>by
  cases r;rw [zz,yl] at q;exact wpAny_pyHash_str q
 | .tuple xs,A,s,_,_,E,Q,r,p,hu,q=>by
  cases r with
  | @tuple a o vs n _ as h1 h2 h3 h4 =>
   rw [zD] at p;rw [zz,yl] at q;have hT:s.TypeIs (.ref a) "tuple":=⟨o,h1,h2⟩;have e1:(PyData.tuple xs).depth=EZ xs+1:=rfl;rw [e1] at hu;show Fd _ A (pyHashByItsType (.ref a)) Q E s;unfold pyHashByItsType;apply EJ;apply wpAny_cRoomFor_or (.inr (by omega));apply EJ;apply Hn hT GJ.lookup;show Fd _ _ (if (some (Value.builtin "tuple.__hash__") == some Value.none)=true then _ else _) Q E s;rw [Kv (by rw [beq_builtin_none];exact EG)];apply EJ;apply Hn hT GJ.lookup;show Fd _ _ (callSpecialIfBoundUnlessNone? (.ref a) "__hash__" _ >>= _) Q E s;apply EJ;refine wpAny_callSpecialIfBoundUnlessNone?_slot hT GJ (wpAny_call_entry GJ hT PySem.F.entry_tuple_hash ?_ (PySem.F.args_tuple_hash_1 _));show Fd _ _ (Builtin.Tuple.tupleItemsOf (.ref a) >>= _) _ _ s;apply EJ;apply wpAny_tupleItemsOf h1 h3;apply EJ;rw [<-HZ];have hu1:A.in1.units=A.units+1:=rfl;refine eE xs A.in1 s vs.toList _ #[] _ _ h4 p (by omega) ?_;simp only [FT,List.nil_append];show Fd _ _ (retInt (GY (#[]++(vQ w xs).toArray).toList)) _ _ _;rw [show (#[]++(vQ w xs).toArray:Array Int).toList=vQ w xs by simp];refine wpAny_ret_mkInt ?_;show Fd _ _ (pyHashByItsType.reduced _) Q E _;unfold reduceHash at q;unfold pyHashByItsType.reduced;by_cases hr:(decide (-(2:Int) ^ 63<=GY (vQ w xs)) && decide (GY (vQ w xs)<2 ^ 63))=true
   ·rw [Kw hr] at q ⊢;exact ES (by simpa [Jm] using q)
   ·rw [Kv hr] at q ⊢;exact EJ (wpAny_rule (ES (by simpa [Jm] using q)))
 | .none,_,_,_,_,_,_,_,h,_,_=>by cases h
 | .bool _,_,_,_,_,_,_,_,h,_,_=>by cases h
 | .list _,_,_,_,_,_,_,_,h,_,_=>by cases h
 | .dict _,_,_,_,_,_,_,_,h,_,_=>by cases h
theorem eE {P:Program} {w:World}:∀ (xs:List PyData) (A:Around) (s:Shared) (vs:List Value) (as:List EL) (acc:Array Int) (E:Value->Shared->Prop) (Q:Array Int->Shared->Prop),ReadsAll s.heap vs xs as->zT xs=true->A.units+4 * EZ xs<Gr ->
  Q (acc++(vQ w xs).toArray) { s with toks:=s.toks+ej xs }->Fd (model P w) A (forIn vs acc fun x r=>do
   let h <- pyHash x
   pure (ForInStep.yield (r.push h))) Q E s
 | [],A,s,_,_,acc,E,Q,r,_,_,q=>by
  cases r;rw [Ih];rw [vQ,ej] at q;exact ES (by simpa using q)
 | x :: xs,A,s,_,_,acc,E,Q,r,p,hu,q=>by
  cases r with
  | cons r1 r2 =>
   rw [zT,EV] at p;rw [vQ,ej] at q;have e1:EZ (x :: xs)=max x.depth (EZ xs):=rfl;rw [e1] at hu;rw [HW];apply EJ;apply EJ;refine eD x A s _ _ _ _ r1 p.1 (by omega) (ES ?_);refine eE xs A { s with toks:=s.toks+yl x } _ _ _ _ _ r2 p.2 (by omega) ?_;have e2:acc.push (zz w x)++(vQ w xs).toArray=acc++(zz w x :: vQ w xs).toArray:=by simp
   rw [e2];rw [<-Jm] at q;exact q
end
mutual
theorem qJ {P:Program} {w:World}:∀ (d:PyData) (n:Nat) (A:Around) (s:Shared) (v:Value) (as:List EL) (E:Value->Shared->Prop) (Q:Bool->Shared->Prop),Reads s.heap v d as->zD d=true->d.depth<=n->Q true s->Fd (model P w) A (eqIsQuiet n v) Q E s
 | .int i,n,A,s,_,_,E,Q,r,_,_,q=>by
  cases r;rw [eqIsQuiet_byValue n rfl];exact ES q
 | .str x,n,A,s,_,_,E,Q,r,_,_,q=>by
  cases r;rw [eqIsQuiet_byValue n rfl];exact ES q
 | .tuple xs,n,A,s,_,_,E,Q,r,p,hn,q=>by
  cases r with
  | @tuple a o vs n' _ as h1 h2 h3 h4 =>
   rw [zD] at p;have e1:(PyData.tuple xs).depth=EZ xs+1:=rfl;rw [e1] at hn;obtain⟨m,rfl⟩:∃ m,n=m+1:=⟨n - 1,by omega⟩;have hT:s.TypeIs (.ref a) "tuple":=⟨o,h1,h2⟩;unfold eqIsQuiet;apply EJ;apply Hn hT PySem.F.slot_tuple_eq.lookup;show Fd _ _ (isInstance (.ref a) (.type "tuple") >>= _) _ _ s;apply EJ;apply wpAny_isInstance hT isSubtype_tuple_tuple;simp only [FX,Fz,if_false];apply EJ;apply wpAny_seqItems h1 h3;apply EJ;show Fd _ _ (forIn vs _ _) _ _ s;rw [<-HZ];exact cP xs m A s _ _ _ _ h4 p (by omega) (ES q)
 | .none,_,_,_,_,_,_,_,_,h,_,_=>by cases h
 | .bool _,_,_,_,_,_,_,_,_,h,_,_=>by cases h
 | .list _,_,_,_,_,_,_,_,_,h,_,_=>by cases h
 | .dict _,_,_,_,_,_,_,_,_,h,_,_=>by cases h
theorem cP {P:Program} {w:World}:∀ (xs:List PyData) (m:Nat) (A:Around) (s:Shared) (vs:List Value) (as:List EL) (E:Value->Shared->Prop) (Q:Option Bool×Unit->Shared->Prop),ReadsAll s.heap vs xs as->zT xs=true->EZ xs<=m->Q (none,()) s ->
  Fd (model P w) A (forIn vs ((none,()):Option Bool×Unit) fun y _=>do
   let b <- eqIsQuiet m y
   if (!b)=true then pure (ForInStep.done (some false,())) else pure (ForInStep.yield (none,()))) Q E s
 | [],m,A,s,_,_,E,Q,r,_,_,q=>by
  cases r;rw [Ih];exact ES q
 | x :: xs,m,A,s,_,_,E,Q,r,p,hn,q=>by
  cases r with
  | cons r1 r2 =>
   rw [zT,EV] at p;have e1:EZ (x :: xs)=max x.depth (EZ xs):=rfl;rw [e1] at hn;rw [HW];apply EJ;apply EJ;refine qJ x m A s _ _ _ _ r1 p.1 (by omega) ?_;simp only [FX,Fz,if_false];exact ES (cP xs m A s _ _ _ _ r2 p.2 (by omega) q)
end
mutual
theorem cq {P:Program} {w:World}:∀ (d:PyData) (n:Nat) (A:Around) (s:Shared) (v:Value) (as:List EL) (E:Value->Shared->Prop) (Q:Bool->Shared->Prop),Reads s.heap v d as->zD d=true->d.depth<=n->Q false s->Fd (model P w) A (ofAClassStatement n v) Q E s
 | .int i,n,A,s,_,_,E,Q,r,_,_,q=>by
  cases r;unfold ofAClassStatement;exact ES q
 | .str x,n,A,s,_,_,E,Q,r,_,_,q=>by
  cases r;unfold ofAClassStatement;exact ES q
 | .tuple xs,n,A,s,_,_,E,Q,r,p,hn,q=>by
  cases r with
  | @tuple a o vs n' _ as h1 h2 h3 h4 =>
   rw [zD] at p;have e1:(PyData.tuple xs).depth=EZ xs+1:=rfl;rw [e1] at hn;obtain⟨m,rfl⟩:∃ m,n=m+1:=⟨n - 1,by omega⟩;have hT:s.TypeIs (.ref a) "tuple":=⟨o,h1,h2⟩;unfold ofAClassStatement;apply EJ;apply wpAny_typeOf hT;dsimp only;rw [Kw (show ("tuple" == "tuple")=true from rfl)];apply EJ;apply ES;simp only [FX,Fz,if_false];apply EJ;apply wpAny_seqItems h1 h3;dsimp only;apply EJ;rw [<-HZ];exact fU xs m A s _ _ _ _ h4 p (by omega) (ES q)
 | .none,_,_,_,_,_,_,_,_,h,_,_=>by cases h
 | .bool _,_,_,_,_,_,_,_,_,h,_,_=>by cases h
 | .list _,_,_,_,_,_,_,_,_,h,_,_=>by cases h
 | .dict _,_,_,_,_,_,_,_,_,h,_,_=>by cases h
theorem fU {P:Program} {w:World}:∀ (xs:List PyData) (m:Nat) (A:Around) (s:Shared) (vs:List Value) (as:List EL) (E:Value->Shared->Prop) (Q:Option Bool×Unit->Shared->Prop),ReadsAll s.heap vs xs as->zT xs=true->EZ xs<=m->Q (none,()) s ->
  Fd (model P w) A (forIn vs ((none,()):Option Bool×Unit) fun y _=>do
   let b <- ofAClassStatement m y
   if b=true then pure (ForInStep.done (some true,())) else pure (ForInStep.yield (none,()))) Q E s
 | [],m,A,s,_,_,E,Q,r,_,_,q=>by
  cases r;rw [Ih];exact ES q
 | x :: xs,m,A,s,_,_,E,Q,r,p,hn,q=>by
  cases r with
  | cons r1 r2 =>
   rw [zT,EV] at p;have e1:EZ (x :: xs)=max x.depth (EZ xs):=rfl;rw [e1] at hn;rw [HW];apply EJ;apply EJ;refine cq x m A s _ _ _ _ r1 p.1 (by omega) ?_;simp only [Fz,if_false];exact ES (fU xs m A s _ _ _ _ r2 p.2 (by omega) q)
end
mutual
theorem cQ {P:Program} {w:World}:∀ (d:PyData) (n:Nat) (A:Around) (s:Shared) (v:Value) (as:List EL) (E:Value->Shared->Prop) (Q:Bool->Shared->Prop),Reads s.heap v d as->zD d=true->(∀ b,Q b s)->Fd (model P w) A (hashByValue n v) Q E s
 | .int i,n,A,s,_,_,E,Q,r,_,q=>by
  cases r;unfold hashByValue;exact ES (q _)
 | .str x,n,A,s,_,_,E,Q,r,_,q=>by
  cases r;unfold hashByValue;exact ES (q _)
 | .tuple xs,n,A,s,_,_,E,Q,r,p,q=>by
  cases r with
  | @tuple a o vs n' _ as h1 h2 h3 h4 =>
   rw [zD] at p;have hT:s.TypeIs (.ref a) "tuple":=⟨o,h1,h2⟩;cases n with
   | zero =>
    unfold hashByValue;exact ES (q _)
   | succ m =>
    unfold hashByValue;apply EJ;apply Hn hT GJ.lookup;show Fd _ _ (seqItems? (.ref a) >>= _) _ _ s;apply EJ;apply wpAny_seqItems h1 h3;apply EJ;show Fd _ _ (forIn vs _ _) _ _ s;rw [<-HZ];exact cR xs m A s _ _ _ _ h4 p (ES (q _)) fun b=>ES (q b)
 | .none,_,_,_,_,_,_,_,_,h,_=>by cases h
 | .bool _,_,_,_,_,_,_,_,_,h,_=>by cases h
 | .list _,_,_,_,_,_,_,_,_,h,_=>by cases h
 | .dict _,_,_,_,_,_,_,_,_,h,_=>by cases h
theorem cR {P:Program} {w:World}:∀ (xs:List PyData) (m:Nat) (A:Around) (s:Shared) (vs:List Value) (as:List EL) (E:Value->Shared->Prop) (Q:Option Bool×Unit->Shared->Prop),ReadsAll s.heap vs xs as->zT xs=true->Q (none,()) s->(∀ b,Q (some b,()) s) ->
  Fd (model P w) A (forIn vs ((none,()):Option Bool×Unit) fun y _=>do
   let b <- hashByValue m y
   if (!b)=true then pure (ForInStep.done (some false,())) else pure (ForInStep.yield (none,()))) Q E s
 | [],m,A,s,_,_,E,Q,r,_,q,_=>by
  cases r;rw [Ih];exact ES q
 | x :: xs,m,A,s,_,_,E,Q,r,p,q,q2=>by
  cases r with
  | cons r1 r2 =>
   rw [zT,EV] at p;rw [HW];apply EJ;apply EJ;refine cQ x m A s _ _ _ _ r1 p.1 fun b=>?_;cases b with
   | true =>
    simp only [FX,Fz,if_false];exact ES (cR xs m A s _ _ _ _ r2 p.2 q q2)
   | false =>
    simp only [Ht,if_true];exact ES (ES (q2 false))
end
noncomputable instance decPy:DecidableEq PyData:=fun a b=>F7 _
structure KeyAt (h:Heap) (d:PyData) (a:EL):Prop where
 rd:∃ as,Reads h (.ref a) d as
 pl:zD d=true
 dp:d.depth<=8
theorem KeyAt.keep {h h':Heap} {d:PyData} {a:EL} (x:KeyAt h d a) (k:∀ b o,h.get? b=some o->(∀ es ep,o.data≠.dict es ep)->(∀ es ep t,o.data≠.set es ep t)->h'.get? b=some o):KeyAt h' d a:=by
 obtain⟨⟨as,r⟩,p,q⟩:=x;refine⟨?_,p,q⟩;have go:(∀ (d:PyData) (v:Value) (as:List EL),Reads h v d as->zD d=true->Reads h' v d as):=by
  intro d v as r;refine Reads.rec (motive_1:=fun v d as _=>zD d=true->Reads h' v d as) (motive_2:=fun vs ds as _=>zT ds=true->ReadsAll h' vs ds as) ?_ ?_ ?_ ?_ ?_ ?_ ?_ ?_ ?_ r
  ·intro p;cases p
  ·intro b p;cases p
  ·intro i t p;exact .int i t
  ·intro x t p;exact .str x t
  ·intro a o vs n xs as h1 h2 h3 h4 ih p;cases p
  ·intro a o vs n xs as h1 h2 h3 h4 ih p;rw [zD] at p;exact .tuple (k a o h1 (fun es ep z=>by rw [h3] at z;cases z) (fun es ep t z=>by rw [h3] at z;cases z)) h2 h3 (ih p)
  ·intros;rename_i p;cases p
  ·intro p;exact .nil
  ·intro v vs d ds as bs r rs ih1 ih2 p;rw [zT,EV] at p;exact .cons (ih1 p.1) (ih2 p.2)
 exact⟨as,go d _ as r p⟩
noncomputable def dk (P:Program) (w:World):HeapKind P w PyData where
 is:=KeyAt
 hash:=zz w
 draws:=yl
 room:=fun A=>A.units+40<Gr
 inj:=fun {h a x y} hx hy=>by
  obtain⟨⟨as,r⟩,p,_⟩:=hx;obtain⟨⟨bs,r'⟩,p',_⟩:=hy;exact SeqAt.Reads.unique _ _ _ _ _ (yZ x p) r r'
 keeps:=fun {h h' k a d o es ep} x ho hd sb=>x.keep fun b u hb n1 n2=>by
  have:b≠d:=fun z=>by
   rw [z,ho] at hb;cases hb;exact n1 es ep hd
  exact (sb.2 b this).trans hb
 pyHash:=fun {A E s k a Q} hu x q=>by
  obtain⟨⟨as,r⟩,p,hd⟩:=x;exact eD k A s _ as E Q r p (by omega) q
 eqBool:=fun {A E s x y a b Q} hu hx hy q=>by
  obtain⟨⟨as,r⟩,p,hd⟩:=hx;obtain⟨⟨bs,r'⟩,p',hd'⟩:=hy;refine SeqAt.eqAt_reads x y A s _ _ _ _ r r' (yZ x p) (yZ y p') (by omega) P w E Q ?_;have:Fi x y=decide (x=y):=by
   by_cases e:x=y
   ·rw [Kx e];exact (dj p p').mpr e
   ·rw [Ky e];cases z:Fi x y with
    | false=>rfl
    | true=>exact absurd ((dj p p').mp z) e
  rw [this];exact q
 quiet:=fun {A E s k a Q} x q=>by
  obtain⟨⟨as,r⟩,p,hd⟩:=x;exact qJ k 8 A s _ as E Q r p hd q
end L2
end
section
namespace L2
open PySem PySem.Spec PyProof.Rows PySem.SetTable
section
variable {P:Program} {w:World} {A:Around} {E:Value->Shared->Prop} {s:Shared}
theorem An {b:EL} {d:PyData} {Q:Bool->Shared->Prop} (kb:KeyAt s.heap d b):∀ l:List Value,(∀ y∈l,∃ d' b',y=.ref b'/\KeyAt s.heap d' b')->Q false s->Fd (model P w) A (searchCouldBeSeen (.ref b) l) Q E s:=by
 intro l hl q;unfold searchCouldBeSeen;apply EJ;refine wpAny_forIn_list _ (fun rest r s'=>r=(none,())/\s'=s/\∀ y∈rest,y∈l) _ ?_ ?_ _ _ ⟨rfl,rfl,fun _ h=>h⟩
 ·rintro y rest r s' ⟨rfl,rfl,hm⟩;obtain⟨d',b',rfl,kb'⟩:=hl y (hm y ET);obtain⟨⟨as,rd⟩,pd,dd⟩:=id kb;obtain⟨⟨bs,rd'⟩,pd',dd'⟩:=id kb';have more:∀ z∈rest,z∈l:=fun z hz=>hm z (EM _ hz);dsimp only;split
  ·exact ES ⟨rfl,rfl,more⟩
  ·apply EJ;refine qJ d 8 A _ _ as _ _ rd pd dd ?_;simp only [FX,Fz,if_false];apply EJ;refine qJ d' 8 A _ _ bs _ _ rd' pd' dd' ?_;simp only [FX,Fz,if_false];apply EJ;refine cq d 8 A _ _ as _ _ rd pd dd ?_;simp only [Fz,if_false];apply EJ;refine cq d' 8 A _ _ bs _ _ rd' pd' dd' ?_;simp only [Fz,if_false];exact ES ⟨rfl,rfl,more⟩
 ·rintro r s' ⟨rfl,rfl,_⟩;exact ES q
structure SetObj (w:World) (h:Heap) (a:EL) (xs:List (PyData×EL)) (o:Obj) (es:Array (Int×Value)) (ep:Nat) (t:SetTable):Prop where
 ob:h.get? a=some o
 ex:o.ExactSet
 da:o.data=.set es ep t
 el:es.toList=xs.map fun x=>(zz w x.1,Value.ref x.2)
 ok:ST.TOk t (xs.map fun x=>zz w x.1)
theorem SetObj.size {h:Heap} {a:EL} {xs:List (PyData×EL)} {o:Obj} {es:Array (Int×Value)} {ep:Nat} {t:SetTable} (x:SetObj w h a xs o es ep t):es.size=xs.length:=by
 rw [<-E5,x.el,EF]
theorem SetObj.fits {h:Heap} {a:EL} {xs:List (PyData×EL)} {o:Obj} {es:Array (Int×Value)} {ep:Nat} {t:SetTable} (x:SetObj w h a xs o es ep t):t.fits es.size=true:=by
 unfold SetTable.fits Kc;have h1:=x.ok.size;have h2:=x.ok.most;rw [EF] at h1 h2;rw [x.size,h1,x.ok.dum];simp;exact h2
theorem SetObj.at {h:Heap} {a:EL} {xs:List (PyData×EL)} {o:Obj} {es:Array (Int×Value)} {ep:Nat} {t:SetTable} (x:SetObj w h a xs o es ep t) {i:Nat} (hi:i<xs.length):es[i]?=some (zz w xs[i].1,Value.ref xs[i].2):=by
 rw [<-JN,x.el,EO,ED hi];rfl
theorem uZ {t:SetTable} {hs:List Int} (o:ST.TOk t hs):t.gaveWay=false:=by
 unfold SetTable.gaveWay;rcases o.mask with e | e | e | e <;> rw [e] <;> rfl
theorem u4 {α:Type} {M:Model} {c:Bool} {m:Sem Bool} {u:Sem Unit} {r:Sem α} {Q:α->Shared->Prop} (hr:Fd M A r Q E s) (hm:∀ R:Bool->Shared->Prop,R false s->Fd M A m R E s) :
  Fd M A (if c=true then (do
   let b <- m
   if b=true then do
    u
    r
   else r) else r) Q E s:=by
 cases c with
 | false=>rw [Kv EG];exact hr
 | true =>
  rw [Kw rfl];apply EJ;refine hm _ ?_;rw [Kv EG];exact hr
theorem kL {M:Model} {a:EL} {Q:Bool->Shared->Prop} (q:Q true s):Fd M A (isSame (.ref a) (.ref a)) Q E s:=by
 unfold isSame;simp only [beq_self_eq_true];exact ES q
theorem cu {a b:EL} {d:PyData} {xs:List (PyData×EL)} {o:Obj} {es:Array (Int×Value)} {ep:Nat} {t:SetTable} {adding:Bool} {Q:SetFound->Shared->Prop} (S:SetObj w s.heap a xs o es ep t) (ks:∀ x∈xs,KeyAt s.heap x.1 x.2)
  (kb:KeyAt s.heap d b) (hu:A.units+40<Gr) {F:Nat} (hF:ST.First t (zz w d) F) (yes:d∈xs.map (·.1)->∀ r:Option Nat,(adding=false->r.isSome=true)->Q (.there r) s) (no:d∉xs.map (·.1)->Q (.free (ST.pos t.mask (zz w d) F) false) s) :
  ∀ f k stand,k<=F->F<k+f->stand.getD (t.probeStart (zz w d))=ST.road t.mask (zz w d) k ->
   (∀ q i,q<k->i<xs.length->ST.pos t.mask (zz w d) q=t.place.getD i 0->(xs.getD i (.none,0)).1≠d) ->
   Fd (model P w) A (setSearchFrom a (.ref b) (zz w d) adding f stand) Q E s
 | 0,k,stand,h1,h2,_,_=>by omega
 | f+1,k,stand,h1,h2,hst,past=>by
  have sz:=S.ok.size;rw [EF] at sz;have key:∀ g:Nat->Int,(∀ i,g i=(es[i]?.map (·.1)).getD 0) ->
    (t.probe g (zz w d) (ST.road t.mask (zz w d) k)=some (.empty (ST.pos t.mask (zz w d) F) none)/\∀ q i,k<=q->q<F->i<t.place.size->ST.pos t.mask (zz w d) q=t.place.getD i 0->g i≠zz w d) \/
    ∃ q i,k<=q/\q<F/\i<t.place.size/\ST.pos t.mask (zz w d) q=t.place.getD i 0/\g i=zz w d/\t.probe g (zz w d) (ST.road t.mask (zz w d) k)=some (.candidate (ST.pos t.mask (zz w d) q) i (ST.road t.mask (zz w d) (q+1)))/\∀ q' i',k<=q'->q'<q->i'<t.place.size->ST.pos t.mask (zz w d) q'=t.place.getD i' 0->g i'≠zz w d :=
   fun g _=>ST.probe_go S.ok.dum S.ok.rise hF (10 * turns t.mask) k h1 (by have:=hF.lt;omega)
  have gat:∀ i (hi:i<xs.length),(es[i]?.map (·.1)).getD 0=zz w xs[i].1:=fun i hi=>by rw [S.at hi];rfl
  unfold setSearchFrom;apply EJ;refine wpAny_setState_of S.ob S.da S.fits ?_;dsimp only;rw [uZ S.ok,Kv EG,hst];have reach:∀ i (hi:i<xs.length),xs[i].1=d->∃ q,q<F/\ST.pos t.mask (zz w d) q=t.place.getD i 0:=fun i hi ed=>by
   obtain⟨q,a1,a2⟩:=S.ok.reach i (by rw [EF];exact hi);have eh:(xs.map fun x=>zz w x.1).getD i 0=zz w d:=by
    rw [EE,EO,ED hi,<- ed];rfl
   rw [eh] at a1 a2;refine⟨q,?_,a1⟩;by_cases c:q<F
   ·exact c
   ·by_cases c2:q=F
    ·subst c2;exact absurd ⟨i,by omega,a1.symm⟩ hF.free
    ·exact absurd (a2 F (by omega)) hF.free
  have ggd:∀ i (hi:i<xs.length),xs.getD i (.none,0)=xs[i]:=fun i hi=>by rw [EE,ED hi];rfl
  rcases key (fun i=>(es[i]?.map (·.1)).getD 0) (fun i=>rfl) with⟨e,none_⟩ | ⟨q,i,q1,q2,q3,q4,q5,e,none_⟩
  ·have ee:∀ g:Nat->Int,(∀ i,g i=(es[i]?.map (·.1)).getD 0)->t.probe g (zz w d) (ST.road t.mask (zz w d) k)=some (.empty (ST.pos t.mask (zz w d) F) none):=fun g hg=>by
    rw [show g=fun i=>(es[i]?.map (·.1)).getD 0 from funext hg];exact e
   rw [ee]
   rotate_left
   ·exact fun i=>rfl
   dsimp only;refine ES (no fun hd=>?_);obtain⟨x,hx,ex⟩:=E6.mp hd;obtain⟨i,hi,ei⟩:=Gz hx;have ed:xs[i].1=d:=by rw [ei];exact ex
   obtain⟨q,qF,qp⟩:=reach i hi ed;by_cases c:q<k
   ·exact past q i c hi qp (by rw [ggd i hi];exact ed)
   ·exact none_ q i (by omega) qF (by omega) qp (by rw [gat i hi,ed])
  ·have ee:∀ g:Nat->Int,(∀ i,g i=(es[i]?.map (·.1)).getD 0)->t.probe g (zz w d) (ST.road t.mask (zz w d) k)=some (.candidate (ST.pos t.mask (zz w d) q) i (ST.road t.mask (zz w d) (q+1))):=fun g hg=>by
    rw [show g=fun i=>(es[i]?.map (·.1)).getD 0 from funext hg];exact e
   have hi:i<xs.length:=by omega
   have mi:xs[i]∈xs:=Ff hi;have ki:=ks _ mi;rw [ee]
   rotate_left
   ·exact fun i=>rfl
   dsimp only;refine u4 ?_ fun R hR=>An kb _ (fun y hy=>?_) hR
   rotate_left
   ·obtain⟨p,hp,rfl⟩:=E6.mp hy;have hp2:p∈es.toList:=by
     have:=IG.mp hp;exact IG.mpr (Array.mem_filter.mp this).1
    rw [S.el] at hp2;obtain⟨x,hx,rfl⟩:=E6.mp hp2;exact⟨x.1,x.2,rfl,ks x hx⟩
   rw [S.at hi];dsimp only;apply EJ;apply FF;refine (dk P w).eqBool (A:=A) hu ki kb ?_;apply EJ;refine wpAny_setState_of S.ob S.da S.fits ?_;dsimp only;have same:t.sameMemory t.moves t.mask=some true:=by
    unfold SetTable.sameMemory;rw [Kw (beq_self_eq_true _)]
   have live:t.slot (ST.pos t.mask (zz w d) q)=.live i:=by rw [q4];exact ST.slot_live S.ok.rise q3
   by_cases ed:xs[i].1=d
   ·have y2:=yes (E6.mpr ⟨_,mi,ed⟩);rw [Kx ed];cases adding with
    | true=>exact ES (y2 _ fun z=>nomatch z)
    | false =>
     rw [Gu,Kv EG,same];dsimp only;rw [Kw rfl,live];dsimp only;rw [S.at hi];dsimp only;apply EJ;refine kL ?_;apply EJ;apply ES;rw [Kw rfl];dsimp only;rw [Kw rfl];exact ES (y2 _ fun _=>rfl)
   ·rw [Ky ed,Gv,Kv EG,same];dsimp only;rw [Kw rfl,live];dsimp only;rw [S.at hi];dsimp only;apply EJ;refine kL ?_;apply EJ;apply ES;rw [Kw rfl];dsimp only;rw [Kv EG];refine cu S ks kb hu hF yes no f (q+1) _ (by omega) (by omega) rfl fun q' i' c1 c2 c3=>?_;rw [ggd i' c2];intro z;by_cases c4:q'<k
    ·exact past q' i' c4 c2 c3 (by rw [ggd i' c2];exact z)
    ·by_cases c5:q'=q
     ·subst c5;have ii:i'=i:=by
       have b1:=ST.below_at S.ok.rise (i:=i) (by omega);have b2:=ST.below_at S.ok.rise (i:=i') (by omega);rw [<-q4] at b1;rw [<-c3] at b2;omega
      subst ii;exact ed z
     ·exact none_ q' i' (by omega) (by omega) (by omega) c3 (by rw [gat i' c2,z])
end
end L2
end
section
namespace L2
open PySem PySem.Spec PyProof.Rows PySem.SetTable
section
variable {P:Program} {w:World} {A:Around} {E:Value->Shared->Prop} {s:Shared} {a b:EL} {d:PyData} {xs:List (PyData×EL)} {o:Obj} {es:Array (Int×Value)} {ep:Nat} {t:SetTable}
theorem SetObj.type (S:SetObj w s.heap a xs o es ep t):s.TypeIs (.ref a) "set":=⟨o,S.ob,S.ex.1⟩
theorem oD (b:EL) (es:Array (Int×Value)):byScan (.ref b) es=false:=rfl
theorem kM {Q:Bool->Shared->Prop} (S:SetObj w s.heap a xs o es ep t) (ks:∀ x∈xs,KeyAt s.heap x.1 x.2) (kb:KeyAt s.heap d b) (hu:A.units+60<Gr) (q:Q (decide (d∈xs.map (·.1))) { s with toks:=s.toks+yl d }) :
  Fd (model P w) A (contains (.ref a) (.ref b)) Q E s:=by
 obtain⟨F,hF⟩:=ST.first_of S.ok.toTB (zz w d);have hl:=hF.lt;have ht:turns t.mask<=526:=by
  unfold turns;rcases S.ok.mask with e | e | e | e <;> omega
 unfold contains
 try with_reducible refine FF ?_
 apply EJ;apply Hn S.type HE.lookup;show Fd _ _ (if (some (Value.builtin "set.__contains__") == some Value.none)=true then _ else _) _ E s;rw [Kv (by rw [beq_builtin_none];exact EG)];apply EJ;refine wpAny_callSpecialUnlessNone?_slot (name:=Ki "__contains__") S.type HE (wpAny_call_entry HE S.type entry_set_contains ?_ (PySem.F.args_set_contains_2 _ _));unfold Builtin.«frozenset.__contains__» IZ;simp only [List.isEmpty_nil,bind_assoc];unfold Jn Builtin.Frozenset.withSetAsKey setContains;apply EJ;apply ES;dsimp only;apply EJ;apply ES;dsimp only;apply EJ;apply wpAny_tryCatch;apply FF;apply EJ;have hu1:A.in1.units=A.units+1:=rfl;have hu2:A.in1.in1.units=A.units+1+1:=rfl;refine (dk P w).pyHash (by show _+40<Gr;omega) kb ?_;apply EJ;unfold setFind setFindIn;apply EJ;refine wpAny_setState_of (s:={ s with toks:=s.toks+yl d }) S.ob S.da S.fits ?_;dsimp only;rw [oD,Kv EG];apply EJ;unfold setSearch;have fin:∀ r:Option Nat,r.isSome=decide (d∈xs.map (·.1))->∀ R:Value->Shared->Prop,R (.bool (decide (d∈xs.map (·.1)))) { s with toks:=s.toks+yl d }->R (.bool r.isSome) { s with toks:=s.toks+yl d }:=fun r e R hR=>by rw [e];exact hR
 refine cu (s:={ s with toks:=s.toks+yl d }) (adding:=false) S ks kb (by omega) hF (fun hd r hr=>?_) (fun hd=>?_) 100000 0 none (Ft _) (by omega) (ST.road_start t _) (fun q i c=>by omega)
 ·refine ES (ES ?_);show Fd _ _ (ret (Value.bool r.isSome)) _ _ _;rw [hr rfl];rw [Kx hd] at q;exact ES ⟨_,rfl,Gy q⟩
 ·refine ES (ES ?_);show Fd _ _ (ret (Value.bool false)) _ _ _;rw [Ky hd] at q;exact ES ⟨_,rfl,Gy q⟩
noncomputable def oE (es:Array (Int×Value)) (laid:Option (SetTable×Array Nat)):Sem (Array (Int×Value)×SetTable):=do
 let some (t,order):=laid | unsupported "internal:set-table-without-room"
 let es':=order.filterMap (es[·]?)
 if es'.size != es.size then unsupported "internal:set-table-lost-an-element"
 pure (es',t)
theorem u5 (a:EL) (wanted:Nat):setRelay a wanted=(do
  let (es,_,t) <- setState a
  if I0 wanted > Fu then unsupported "set:memory"
  let (es,t) <- oE es (t.relaid (es.map (·.1)) wanted)
  storeSet a es t):=rfl
theorem aM {α:Type} (es:Array α):∀ l:List Nat,(∀ i∈l,i<es.size)->∀ dflt:α,l.filterMap (fun i=>es[i]?)=l.map fun i=>es.toList.getD i dflt
 | [],_,_=>rfl
 | i :: l,h,dflt=>by
  have hi:=h i ET;rw [HK,Ja hi,Fg,aM es l (fun j hj=>h j (EM _ hj)) dflt];simp [hi]
theorem u6 {Q:Unit->Shared->Prop} {mask wanted:Nat} (S0:s.heap.get? a=some o) (ex:o.ExactSet) (da:o.data=.set es ep t) (el:es.toList=xs.map fun x=>(zz w x.1,Value.ref x.2)) (tb:ST.TB t (xs.map fun x=>zz w x.1)) (mk:mask=31 \/ mask=127 \/ mask=511) (hw:I0 wanted=mask+1)
  (room:xs.length * 5<mask * 3) (q:∀ xs' o' es' ep' t' h',xs'.Perm xs->He a s.heap h'->SetObj w h' a xs' o' es' ep' t'->Q () { s with heap:=h' }):Fd (model P w) A (setRelay a wanted) Q E s:=by
 have sz:es.size=xs.length:=by rw [<-E5,el,EF]
 have fits:t.fits es.size=true:=by
  unfold SetTable.fits Kc;have h1:=tb.size;have h2:=tb.most;rw [EF] at h1 h2;rw [sz,h1,tb.dum];simp;exact h2
 have mk2:mask=7 \/ mask=31 \/ mask=127 \/ mask=511:=.inr mk;obtain⟨t2,ord,e1,e2,_,_,pm,tb2⟩:=ST.laid_ok mk2 (es.map (·.1)) (by rw [JU,sz];omega) t.finger (t.movedTo mask) t.led t.plain;rw [JU] at pm;have hlt:∀ i∈ord.toList,i<es.size:=fun i hi=>Fe.mp (pm.mem_iff.mp hi)
 let xs':=ord.toList.map fun i=>xs.getD i (.none,0)
 have px:xs'.Perm xs:=by
  have e:(E7 es.size).map (fun i=>xs.getD i (.none,0))=xs:=by
   rw [sz];refine Ij fun i=>?_;rw [EO];by_cases hi:i<xs.length
   ·rw [Gd hi,ED hi];simp [hi]
   ·rw [Fl (by simp;omega),Fl (by omega)];rfl
  have:=pm.map fun i=>xs.getD i (.none,0);rw [e] at this;exact this
 have ee:(ord.filterMap (es[·]?)).toList=xs'.map fun x=>(zz w x.1,Value.ref x.2):=by
  rw [Array.toList_filterMap,aM es ord.toList hlt (0,Value.none),GG];refine G7 fun i hi=>?_;have h2:=hlt i hi;have h3:i<xs.length:=by omega
  rw [el,EE,EO,ED h3];show _=(zz w (xs.getD i (.none,0)).1,Value.ref (xs.getD i (.none,0)).2);rw [EE,ED h3];rfl
 have es_sz:(ord.filterMap (es[·]?)).size=es.size:=by
  rw [<-E5,ee,EF,px.length_eq,sz]
 have tok:ST.TOk t2 (xs'.map fun x=>zz w x.1):=by
  have eh:(ord.toList.map fun i=>(es.map (·.1)).toList.getD i 0)=xs'.map fun x=>zz w x.1:=by
   rw [GG];refine G7 fun i hi=>?_;have h3:i<xs.length:=by have:=hlt i hi;omega
   rw [Array.toList_map,el,GG,EE,EO,ED h3];show zz w xs[i].1=zz w (xs.getD i (.none,0)).1;rw [EE,ED h3];rfl
  rw [eh] at tb2;refine⟨tb2,?_⟩;rw [EF,px.length_eq,e2];exact room
 rw [u5];apply EJ;refine wpAny_setState_of S0 da fits ?_;dsimp only;rw [hw,Kv (by rw [sizeLine_eq];omega)];have e1':t.relaid (es.map (·.1)) wanted=some (t2,ord):=by
  unfold SetTable.relaid;rw [hw];exact e1
 unfold oE;rw [e1'];apply EJ;dsimp only;rw [es_sz,bne_self_eq_false,Kv EG];apply ES;dsimp only;refine wpAny_storeSet_of S0 da ?_ (by rw [es_sz,sz,sizeLine_eq];omega);refine q xs' { o with data:=.set (ord.filterMap (es[·]?)) (ep+1) t2 } (ord.filterMap (es[·]?)) (ep+1) t2 _ px (J6 _ _ _) ⟨?_,ex,rfl,ee,tok⟩;have:=Iy (JD (ord.filterMap (es[·]?)) t2) S0 (by rw [putSet_of _ _ da];rfl);rw [putSet_of _ _ da] at this;exact this
theorem u7 {t:SetTable} {hs:List Int} {p:Bool} (x:ST.TB t hs):ST.TB { t with plain:=p } hs:=⟨x.mask,x.dum,x.rise,x.le,x.size,x.most,x.reach⟩
theorem Ao {Q:Shared->Prop} (S:SetObj w s.heap a xs o es ep t) (ks:∀ x∈xs,KeyAt s.heap x.1 x.2) (kb:KeyAt s.heap d b) (hu:A.units+59<Gr) (few:xs.length<300)
  (old:d∈xs.map (·.1)->Q { s with toks:=s.toks+yl d })
  (new:d∉xs.map (·.1)->∀ xs' o' es' ep' t' h',xs'.Perm ((d,b) :: xs)->He a s.heap h'->SetObj w h' a xs' o' es' ep' t'->Q { s with heap:=h',toks:=s.toks+yl d }) :
  Fd (model P w) A (setAdd a (.ref b)) (fun _ s'=>Q s') E s:=by
 obtain⟨F,hF⟩:=ST.first_of S.ok.toTB (zz w d);have hl:=hF.lt;have ht:turns t.mask<=526:=by
  unfold turns;rcases S.ok.mask with e | e | e | e <;> omega
 have room:=S.ok.room;rw [EF] at room;unfold setAdd;apply FF;apply EJ;refine (dk P w).pyHash (by show _+40<Gr;omega) kb ?_;show Fd _ _ (setAddHashed a (.ref b) (zz w d)) _ _ _;unfold setAddHashed setAddHashedIn;apply FF;apply EJ;refine wpAny_setState_of (s:={ s with toks:=s.toks+yl d }) S.ob S.da S.fits ?_;dsimp only;rw [oD,Kv EG];apply EJ;unfold setSearch;refine cu (s:={ s with toks:=s.toks+yl d }) (adding:=true) S ks kb (by omega) hF (fun hd r _=>?_) (fun hd=>?_) 100000 0 none (Ft _) (by omega) (ST.road_start t _) (fun q i c=>by omega)
 ·exact ES (old hd)
 ·dsimp only;apply EJ;refine wpAny_setState_of (s:={ s with toks:=s.toks+yl d }) S.ob S.da S.fits ?_;dsimp only;obtain⟨hp,tb⟩:=ST.put_tb S.ok.toTB hF (by rw [EF];rcases S.ok.mask with e | e | e | e <;> rw [e] at room ⊢ <;> omega);rw [EF] at hp;have ep2:(t.put (ST.pos t.mask (zz w d) F)).2=below t.place (ST.pos t.mask (zz w d) F):=rfl;rw [ep2];generalize below t.place (ST.pos t.mask (zz w d) F)=p at *;have pm:(xs.take p++(d,b) :: xs.drop p).Perm ((d,b) :: xs):=by
   refine List.perm_middle.trans ?_;rw [GX]
  have el:(insertAt es p (zz w d,Value.ref b)).toList=(xs.take p++(d,b) :: xs.drop p).map fun x=>(zz w x.1,Value.ref x.2):=by
   rw [HS,S.el,E9,Fg,Kd,Jo]
  have eh:(xs.map fun x=>zz w x.1).take p++zz w d :: (xs.map fun x=>zz w x.1).drop p=(xs.take p++(d,b) :: xs.drop p).map fun x=>zz w x.1:=by
   rw [E9,Fg,Kd,Jo]
  rw [eh] at tb;have ln:(xs.take p++(d,b) :: xs.drop p).length=xs.length+1:=by rw [pm.length_eq];rfl
  have sze:(insertAt es p (zz w d,Value.ref b)).size=xs.length+1:=by rw [<-E5,el,EF,ln]
  have step:∀ bv:Bool,∀ t2,t2=(if bv=true then (t.put (ST.pos t.mask (zz w d) F)).1 else { (t.put (ST.pos t.mask (zz w d) F)).1 with plain:=false }) ->
    ST.TB t2 ((xs.take p++(d,b) :: xs.drop p).map fun x=>zz w x.1)/\t2.mask=t.mask:=fun bv t2 e=>by
   subst e;cases bv with
   | true=>exact⟨tb,rfl⟩
   | false=>exact⟨u7 tb,rfl⟩
  have tail:∀ bv:Bool,Fd (model P w) A (do
    storeSet a (insertAt es p (zz w d,Value.ref b)) (if bv=true then (t.put (ST.pos t.mask (zz w d) F)).1 else { (t.put (ST.pos t.mask (zz w d) F)).1 with plain:=false })
    if (!false && (if bv=true then (t.put (ST.pos t.mask (zz w d) F)).1 else { (t.put (ST.pos t.mask (zz w d) F)).1 with plain:=false }).tooFull)=true then do
     setRelay a (SetTable.grown (es.size+1))
     pure true
    else pure true) (fun _ s'=>Q s') E { s with toks:=s.toks+yl d }:=fun bv=>by
   obtain⟨tb2,em⟩:=step bv _ rfl;generalize (if bv=true then (t.put (ST.pos t.mask (zz w d) F)).1 else { (t.put (ST.pos t.mask (zz w d) F)).1 with plain:=false })=t2 at *;apply EJ;refine wpAny_storeSet_of (s:={ s with toks:=s.toks+yl d }) S.ob S.da ?_ (by rw [sze,sizeLine_eq];omega);have g:(s.heap.update a (JD (insertAt es p (zz w d,Value.ref b)) t2)).get? a=some { o with data:=.set (insertAt es p (zz w d,Value.ref b)) (ep+1) t2 }:=by
    have:=Iy (JD (insertAt es p (zz w d,Value.ref b)) t2) S.ob (by rw [putSet_of _ _ S.da];rfl);rw [putSet_of _ _ S.da] at this;exact this
   have sb:=J6 s.heap a (JD (insertAt es p (zz w d,Value.ref b)) t2);have fill:t2.tooFull=decide ((xs.length+1) * 5 >= t.mask * 3):=by
    unfold SetTable.tooFull Kc;have h1:=tb2.size;rw [EF,ln] at h1;rw [h1,tb2.dum,em];rfl
   rw [Ht,G5,fill];by_cases full:(xs.length+1) * 5 >= t.mask * 3
   ·rw [Kw (Kx full),S.size];have:∃ mask,(mask=31 \/ mask=127 \/ mask=511)/\I0 (SetTable.grown (xs.length+1))=mask+1/\(xs.length+1) * 5<mask * 3:=by
     rcases S.ok.mask with e | e | e | e
     ·rw [e] at room full;have:xs.length=4:=by omega
      rw [this];exact⟨31,.inl rfl,by decide,by decide⟩
     ·rw [e] at room full;have:xs.length=18:=by omega
      rw [this];exact⟨127,.inr (.inl rfl),by decide,by decide⟩
     ·rw [e] at room full;have:xs.length=76:=by omega
      rw [this];exact⟨511,.inr (.inr rfl),by decide,by decide⟩
     ·rw [e] at room full;omega
    obtain⟨mask,mk,hw,rm⟩:=this;apply EJ;refine u6 (s:={ s with heap:=s.heap.update a (JD (insertAt es p (zz w d,Value.ref b)) t2),toks:=s.toks+yl d }) (o:={ o with data:=.set (insertAt es p (zz w d,Value.ref b)) (ep+1) t2 }) g S.ex rfl el tb2 mk hw (by rw [ln];exact rm) fun xs' o' es' ep' t' h' px sb' S'=>ES ?_;exact new hd xs' o' es' ep' t' h' (px.trans pm) (sb.trans sb') S'
   ·rw [Kv (by rw [Ky full];exact EG)];refine ES (new hd _ _ _ _ _ _ pm sb ⟨g,S.ex,rfl,el,⟨tb2,?_⟩⟩);rw [EF,ln,em];omega
  obtain⟨as,rd⟩:=kb.rd;split
  ·apply EJ;exact cQ d 8 _ { s with toks:=s.toks+yl d } _ as _ _ rd kb.pl fun bv=>tail bv
  ·apply EJ;apply ES;exact tail true
theorem CP {Q:Value->Shared->Prop} (S:SetObj w s.heap a xs o es ep t) (ks:∀ x∈xs,KeyAt s.heap x.1 x.2) (kb:KeyAt s.heap d b) (hu:A.units+60<Gr) (few:xs.length<300)
  (old:d∈xs.map (·.1)->Q .none { s with toks:=s.toks+yl d })
  (new:d∉xs.map (·.1)->∀ xs' o' es' ep' t' h',xs'.Perm ((d,b) :: xs)->He a s.heap h'->SetObj w h' a xs' o' es' ep' t'->Q .none { s with heap:=h',toks:=s.toks+yl d }) :
  Fd (model P w) A (call (.builtin "set.add") [.ref a,.ref b]) Q E s:=by
 refine wpAny_call_entry JV S.type PySem.F.entry_set_add ?_ (PySem.F.args_set_add_2 _ _);unfold Builtin.«set.add» IZ;simp only [List.isEmpty_nil,bind_assoc];unfold Jn;apply EJ;apply ES
 try dsimp only
 apply EJ;apply ES
 try dsimp only
 apply EJ;have hu1:A.in1.units=A.units+1:=rfl;refine Ao (Q:=fun s'=>Fd (model P w) A.in1 (ret Value.none) (fun fin s'=>∃ r,fin=.done (.ret r)/\Q r s') E s') S ks kb (by omega) few (fun hd=>ES ⟨_,rfl,old hd⟩) fun hd xs' o' es' ep' t' h' p1 p2 p3=>ES ⟨_,rfl,new hd xs' o' es' ep' t' h' p1 p2 p3⟩
end
inductive OC where
 | lst (es:List PyData)
 | set (ks:List PyData)
 | dic (kvs:List (PyData×PyData))
 | gen (φ:Hp->HO->Prop)
noncomputable def SetO (w:World) (a:EL) (xs:List (PyData×EL)):HO:=.ext fun h=>∃ o es ep t,SetObj w h a xs o es ep t
structure DicObj (w:World) (h:Heap) (a:EL) (xs:List (PyData×EL×Value)) (o:Obj) (es:Array DictEntry) (ep:Nat):Prop where
 ob:h.get? a=some o
 ex:o.ExactDict
 da:o.data=.dict es ep
 el:es.toList=xs.map fun x=>(⟨zz w x.1,.ref x.2.1,x.2.2⟩:DictEntry)
 nd:(xs.map (·.1)).Nodup
 ns:(a == sysModules)=false
noncomputable def DicO (w:World) (a:EL) (xs:List (PyData×EL×Value)):HO:=.ext fun h=>∃ o es ep,DicObj w h a xs o es ep
def bI (d:PyData):Prop:=zD d=true/\d.depth<=8
def EntR (K:EI) (Hh:Hp) (x:PyData×EL×Value) (p:PyData×PyData):Prop:=x.1=p.1/\bI x.1/\Rep K Hh x.1 (.ref x.2.1)/\∃ v,Rep K Hh p.2 v/\RelV v x.2.2
theorem EntR.mono {K:EI} {Hh Hh':Hp} (s:Same Hh Hh'):∀ {xs:List (PyData×EL×Value)} {kvs:List (PyData×PyData)},Paired (EntR K Hh) xs kvs->Paired (EntR K Hh') xs kvs
 | _,_,.nil=>.nil
 | _,_,.cons ⟨h1,h2,h3,v,h4,h5⟩ t=>.cons ⟨h1,h2,Rep.mono s _ _ h3,v,Rep.mono s _ _ h4,h5⟩ (EntR.mono s t)
def OwnAt (w:World) (K:EI) (Hh H:Hp) (D:EL):OC->Prop
 | .lst es=>∃ vs,H D=some (.lst vs)/\Reps K Hh es vs
 | .set ks=>∃ xs:List (PyData×EL),H D=some (SetO w D xs)/\(∀ x∈xs,bI x.1/\Rep K Hh x.1 (.ref x.2))/\(∀ d,d∈xs.map (·.1)↔d∈ks)/\xs.length<=ks.length
 | .dic kvs=>∃ xs:List (PyData×EL×Value),H D=some (DicO w D xs)/\Paired (EntR K Hh) xs kvs
 | .gen φ=>∃ o,H D=some o/\∀ Hx,Same Hh Hx->φ Hx o
theorem OwnAt.mono {w:World} {K:EI} {Hh Hh' H H':Hp} {D:EL} (e:H' D=H D) (s:Same Hh Hh'):∀ {c:OC},OwnAt w K Hh H D c->OwnAt w K Hh' H' D c
 | .lst es,⟨vs,h1,h2⟩=>⟨vs,e.trans h1,Reps.mono s es vs h2⟩
 | .set ks,⟨xs,h1,h2,h3⟩=>⟨xs,e.trans h1,fun x hx=>⟨(h2 x hx).1,Rep.mono s _ _ (h2 x hx).2⟩,h3⟩
 | .dic kvs,⟨xs,h1,h2⟩=>⟨xs,e.trans h1,EntR.mono s h2⟩
 | .gen φ,⟨o,h1,h2⟩=>⟨o,e.trans h1,fun Hx t=>h2 Hx (s.trans t)⟩
noncomputable def Fx.withs (f:Fx) (Ds:List EL):Fx:={ f with M:=Ds.reverse++f.M }
theorem yK (f:Fx) (Ds:List EL) (D:EL):f.withs (Ds++[D])=(f.withs Ds).with D:=by
 unfold Fx.withs Fx.with;rw [HM];rfl
structure CM (w:World) (K:EI) (f:Fx) (Ds:List EL) (H2:Hp) (ρ:zw) (cs:List OC) (σ:St) (H:Hp):Prop where
 env:EnvOk K (f.withs Ds) ρ σ H
 sm:Same (hide H2 (f.withs Ds)) (hide H (f.withs Ds))
 kp:∀ b∈f.M,H b=H2 b
 len:cs.length=Ds.length
 own:∀ (i:Nat) D c,Ds[i]?=some D->cs[i]?=some c->OwnAt w K (hide H (f.withs Ds)) H D c
structure Sep (f:Fx) (Ds:List EL):Prop where
 nd:Ds.Nodup
 nf:∀ D∈Ds,f.f≠some D
 nm:∀ D∈Ds,D∉f.M
section
variable {w:World} {K:EI} {f:Fx} {Ds:List EL} {H H' H2:Hp} {ρ ρ2:zw} {cs:List OC} {σ σ2:St} {i:Nat} {D:EL} {c:OC} {o:HO}
theorem qu (hD:D∈Ds):D∈(f.withs Ds).M:=FE _ (GW.mpr hD)
theorem yW (hD:D∈Ds):hide (upd H D o) (f.withs Ds)=hide H (f.withs Ds):=by
 funext b
 unfold hide;by_cases h:(f.withs Ds).f=some b \/ b∈(f.withs Ds).M
 ·rw [Kw h,Kw h]
 ·rw [Kv h,Kv h,zM fun (z:b=D)=>h (.inr (z▸qu hD))]
theorem CM.go (x:CM w K f Ds H2 ρ cs σ H) (g:Goes (f.withs Ds) H H') (e2:EnvOk K (f.withs Ds) ρ2 σ2 H'):CM w K f Ds H2 ρ2 cs σ2 H' :=
 ⟨e2,x.sm.trans g.sm,fun b hb=>(g.kp b (E8 _ hb)).trans (x.kp b hb),x.len,fun i D c h1 h2=>(x.own i D c h1 h2).mono (g.kp D (qu (EK h1))) g.sm⟩
theorem CM.self (x:CM w K f Ds H2 ρ cs σ H):CM w K f Ds H ρ cs σ H:=⟨x.env,Same.refl _,fun _ _=>rfl,x.len,x.own⟩
theorem CM.trans {cs':List OC} {ρ':zw} {σ':St} (x:CM w K f Ds H2 ρ cs σ H) (y:CM w K f Ds H ρ' cs' σ' H'):CM w K f Ds H2 ρ' cs' σ' H':=⟨y.env,x.sm.trans y.sm,fun b hb=>(y.kp b hb).trans (x.kp b hb),y.len,y.own⟩
theorem Ap (se:Sep f Ds) (hD:D∈Ds) (h:FOk (f.withs Ds) H):FOk (f.withs Ds) (upd H D o) :=
 ⟨fun p e=>let⟨a,b,h1,h2⟩:=h.fd p e;⟨a,b,by rw [zM (fun (z:p=D)=>se.nf D hD (z▸e))];exact h1,h2⟩,fun b hb=>by
  by_cases e:b=D
  ·exact⟨o,by rw [e];exact zK⟩
  ·obtain⟨u,hu⟩:=h.mm b hb;exact⟨u,by rw [zM e];exact hu⟩,h.nm⟩
theorem Aq (se:Sep f Ds) (hD:D∈Ds) (e:EnvOk K (f.withs Ds) ρ σ H):EnvOk K (f.withs Ds) ρ σ (upd H D o) :=
 ⟨e.len,fun i x h=>by
  obtain⟨v,h1,h2⟩:=e.get i x h;refine⟨v,h1,?_⟩;cases x with
  | dat d =>
   show Rep K (hide (upd H D o) (f.withs Ds)) d v;rw [yW hD];exact h2
  | feed=>exact h2
  | own k=>exact h2
  | exc C =>
   obtain⟨a,e1,q⟩:=h2;exact⟨a,e1,by rw [yW hD];exact q⟩
  | mon φ =>
   intro H' s;rw [yW hD] at s;exact h2 H' s,Ap se hD e.fd⟩
theorem CM.put {c':OC} (se:Sep f Ds) (x:CM w K f Ds H2 ρ cs σ H) (hi:Ds[i]?=some D) (ho:OwnAt w K (hide H (f.withs Ds)) (upd H D o) D c'):CM w K f Ds H2 ρ (cs.set i c') σ (upd H D o):=by
 have hD:=EK hi;refine⟨Aq se hD x.env,by rw [yW hD];exact x.sm,fun b hb=>(zM (fun (z:b=D)=>se.nm D hD (z▸hb))).trans (x.kp b hb),by rw [Hm];exact x.len,fun j D' c h1 h2=>?_⟩;rw [yW hD];by_cases e:i=j
 ·subst e;rw [hi] at h1;cases h1;have hl:i<cs.length:=by rw [x.len];exact (EH.mp hi).1
  rw [Gs hl] at h2;cases h2;exact ho
 ·rw [G1 e] at h2;have ne:D'≠D:=fun z=>by
   subst z;obtain⟨l1,e1⟩:=EH.mp hi;obtain⟨l2,e2⟩:=EH.mp h1;exact e ((Hw se.nd).mp (e1.trans e2.symm))
  exact (x.own j D' c h1 h2).mono (zM ne) (Same.refl _)
end
structure MEnds where
 nx:zw->List OC->Prop
 rt:PyData->Prop
 bk:zw->List OC->Prop:=fun _ _=>False
 ct:zw->List OC->Prop:=fun _ _=>False
def PSm (w:World) (K:EI) (f:Fx) (Ds:List EL) (ts:TS) (ρ:zw) (cs:List OC) (O:MEnds):Prop:=Sep f Ds->∀ (σ:St) (H H2:Hp) (E:Ends),CM w K f Ds H2 ρ cs σ H ->
 (∀ ρ' cs' σ' H',CM w K f Ds H2 ρ' cs' σ' H'->O.nx ρ' cs'->E.nx σ' H')->(∀ d v ρ' cs' σ' H',CM w K f Ds H2 ρ' cs' σ' H'->Rep K (hide H' f) d v->O.rt d->E.rt v H') ->
 (∀ ρ' cs' σ' H',CM w K f Ds H2 ρ' cs' σ' H'->O.bk ρ' cs'->E.bk σ' H')->(∀ ρ' cs' σ' H',CM w K f Ds H2 ρ' cs' σ' H'->O.ct ρ' cs'->E.ct σ' H')->ts E σ H
def PTm (w:World) (K:EI) (f:Fx) (Ds:List EL) (tt:TT) (ρ:zw) (cs:List OC) (B:Bool->Prop):Prop:=Sep f Ds->∀ (σ:St) (H H2:Hp) (Q:Bool->Hp->Prop),CM w K f Ds H2 ρ cs σ H->(∀ b H',Goes (f.withs Ds) H H'->B b->Q b H')->tt σ H Q
def PEm (w:World) (K:EI) (f:Fx) (Ds:List EL) (te:TE) (ρ:zw) (cs:List OC) (P:PyData->Prop):Prop:=Sep f Ds->∀ (σ:St) (H H2:Hp) (Q:VK),CM w K f Ds H2 ρ cs σ H->(∀ d v H',Goes (f.withs Ds) H H'->Rep K (hide H' (f.withs Ds)) d v->P d->Q v H')->te σ H Q
def u9 (w:World) (K:EI) (f:Fx) (te:TE) (ρ:zw) (P:OC->Prop):Prop:=∀ (σ:St) (H:Hp) (Q:VK),EnvOk K f ρ σ H ->
 (∀ c D H',Goes f H H'->H D=none->OwnAt w K (hide H' (f.with D)) H' D c->P c->Q (.ref D) H')->te σ H Q
section
variable {w:World} {K:EI} {f:Fx} {Ds:List EL} {ρ:zw} {cs:List OC} {ts tu:TS} {tt:TT} {te:TE} {wi:TI} {g:TG} {O:MEnds} {i j:Nat}
theorem jj {H:Hp}:Same (hide H (f.withs Ds)) (hide H f):=fun b o h=>by
 obtain⟨h1,h2⟩:=zY h;exact zL (fun z=>h1 (z.elim .inl fun z=>.inr (E8 _ z))) h2
theorem eF {D:DEnds} (h:PSm w K f [] ts ρ [] { nx:=fun ρ' _=>D.nx ρ',rt:=D.rt,bk:=fun ρ' _=>D.bk ρ',ct:=fun ρ' _=>D.ct ρ' }):PSd K f ts ρ D:=fun σ H E e n r b k=>by
 have gg:∀ {ρ':zw} {cs':List OC} {σ':St} {H':Hp},CM w K f [] H ρ' cs' σ' H'->Goes f H H':=fun x=>⟨x.sm,x.env.fd,x.kp⟩;exact h ⟨Hc,(fun _ z=>nomatch z),(fun _ z=>nomatch z)⟩ σ H H E ⟨e,Same.refl _,fun _ _=>rfl,rfl,(fun i D c z=>nomatch z)⟩
  (fun ρ' cs' σ' H' x p=>n ρ' σ' H' (gg x) x.env p) (fun d v ρ' cs' σ' H' x r' p=>r d v H' (gg x) r' p) (fun ρ' cs' σ' H' x p=>b ρ' σ' H' (gg x) x.env p) (fun ρ' cs' σ' H' x p=>k ρ' σ' H' (gg x) x.env p)
theorem eG (h:PSd K (f.withs Ds) ts ρ { nx:=fun ρ'=>O.nx ρ' cs,rt:=O.rt,bk:=fun ρ'=>O.bk ρ' cs,ct:=fun ρ'=>O.ct ρ' cs }):PSm w K f Ds ts ρ cs O:=fun se σ H H2 E x n r b k =>
 h σ H E x.env (fun ρ' σ' H' g' e' p=>n ρ' cs σ' H' (x.go g' e') p) (fun d v H' g' r' p=>r d v ρ cs σ H' (x.go g' (x.env.mono g')) (Rep.mono jj d v r') p) (fun ρ' σ' H' g' e' p=>b ρ' cs σ' H' (x.go g' e') p) (fun ρ' σ' H' g' e' p=>k ρ' cs σ' H' (x.go g' e') p)
theorem jP (h:PSm w K f Ds ts ρ cs { O with nx:=fun ρ' cs'=>PSm w K f Ds tu ρ' cs' O }):PSm w K f Ds (bo ts tu) ρ cs O:=fun se σ H H2 E x n r b k =>
 h se σ H H2 _ x (fun ρ' cs' σ' H' x' p=>p se σ' H' H2 E x' n r b k) r b k
theorem wa (h:O.nx ρ cs):PSm w K f Ds iS ρ cs O:=fun _ σ H H2 E x n r b k=>n ρ cs σ H x h
theorem CQ {B:Bool->Prop} (h:PTd K (f.withs Ds) tt ρ B):PTm w K f Ds tt ρ cs B:=fun se σ H H2 Q x q=>h σ H Q x.env q
theorem bJ {P:PyData->Prop} (h:PEd K (f.withs Ds) te ρ P):PEm w K f Ds te ρ cs P:=fun se σ H H2 Q x q=>h σ H Q x.env q
theorem D0 (h:PTm w K f Ds tt ρ cs fun b=>if b=true then PSm w K f Ds ts ρ cs O else PSm w K f Ds tu ρ cs O):PSm w K f Ds (rL tt ts tu) ρ cs O:=fun se σ H H2 E x n r b k =>
 h se σ H H2 _ x fun q H1 g1 p=>by
  have x1:=x.go g1 (x.env.mono g1);cases q with
  | false =>
   rw [Kv EG] at p ⊢;exact p se σ H1 H2 E x1 n r b k
  | true =>
   rw [Kw rfl] at p ⊢;exact p se σ H1 H2 E x1 n r b k
theorem kN (h:PId K (f.withs Ds) wi ρ fun ds=>∃ J:Nat->zw->List OC->Prop,J 0 ρ cs /\
   (∀ (i:Nat) d ρ' cs',ds[i]?=some d->J i ρ' cs'->PGd K (f.withs Ds) g d ρ' fun ρ2=>PSm w K f Ds ts ρ2 cs' { O with nx:=J (i+1),ct:=J (i+1),bk:=O.nx })/\∀ ρ' cs',J ds.length ρ' cs'->O.nx ρ' cs') :
  PSm w K f Ds (ud wi g ts) ρ cs O:=fun se σ H H2 E x n r b k=>h σ H _ x.env fun ds J H1 g1 it ⟨Jv,j0,js,jd⟩=>by
 have x1:=x.go g1 (x.env.mono g1);refine⟨fun i m σ' H'=>∃ ρ' cs',CM w K f Ds H2 ρ' cs' σ' H'/\Same (hide H1 (f.withs Ds)) (hide H' (f.withs Ds))/\Jv i ρ' cs'/\m+i=ds.length,⟨ds.length,ρ,cs,x1,Same.refl _,j0,rfl⟩,fun i m σ' H' ⟨ρ',cs',x',sm',p,hm⟩=>?_⟩;by_cases hi:i<ds.length
 ·obtain⟨hgo,hy⟩:=it.go (f.withs Ds) H' i _ x'.env.fd sm' (ED hi);refine .inr ⟨hgo,fun σ2 H3=>∃ ρ2 cs2,CM w K f Ds H2 ρ2 cs2 σ2 H3/\Same (hide H1 (f.withs Ds)) (hide H3 (f.withs Ds))/\Jv (i+1) ρ2 cs2,fun σ2 H3 ⟨ρ2,cs2,e2,g2,p2⟩=>⟨m - 1,by omega,ρ2,cs2,e2,g2,p2,by omega⟩,fun v H3 hx=>?_⟩;obtain⟨g3,r3⟩:=hy v H3 hx;have x3:=x'.go g3 (x'.env.mono g3);refine js i _ ρ' cs' (ED hi) p σ' H3 v _ x3.env r3 fun ρ2 σ2 H4 g4 e4 p4=>?_;have x4:=x3.go g4 e4;have sm4:=(sm'.trans g3.sm).trans g4.sm;exact p4 se σ2 H4 H4 _ x4.self (fun ρ5 cs5 σ5 H5 x5 p5=>⟨ρ5,cs5,x4.trans x5,sm4.trans x5.sm,p5⟩) (fun d v ρ5 cs5 σ5 H5 x5 r5 p5=>r d v ρ5 cs5 σ5 H5 (x4.trans x5) r5 p5) (fun ρ5 cs5 σ5 H5 x5 p5=>n ρ5 cs5 σ5 H5 (x4.trans x5) p5) (fun ρ5 cs5 σ5 H5 x5 p5=>⟨ρ5,cs5,x4.trans x5,sm4.trans x5.sm,p5⟩)
 ·have ei:i=ds.length:=by omega
  subst ei;exact .inl ⟨it.st (f.withs Ds) H' x'.env.fd sm',n ρ' cs' σ' H' x' (jd ρ' cs' p)⟩
theorem oF {tb:TS} (J:zw->List OC->Prop) (μ:zw->List OC->Nat) (h0:J ρ cs)
  (hs:∀ ρ' cs',J ρ' cs'->PTm w K f Ds tt ρ' cs' fun b=>if b=true then PSm w K f Ds tb ρ' cs' { O with nx:=fun r c=>J r c/\μ r c<μ ρ' cs',ct:=fun r c=>J r c/\μ r c<μ ρ' cs',bk:=O.nx } else O.nx ρ' cs'):PSm w K f Ds (l5 tt tb) ρ cs O:=fun se σ H H2 E x n r b k=>by
 refine⟨fun m σ' H'=>∃ ρ' cs',CM w K f Ds H2 ρ' cs' σ' H'/\J ρ' cs'/\m=μ ρ' cs',⟨_,ρ,cs,x,h0,rfl⟩,?_⟩;rintro m σ1 H1 ⟨ρ1,cs1,x1,j1,rfl⟩;refine hs ρ1 cs1 j1 se σ1 H1 H2 _ x1 fun t H3 g3 p=>?_;have x3:=x1.go g3 (x1.env.mono g3);cases t with
 | true =>
  rw [Kw rfl] at p ⊢;refine⟨fun σ' H'=>∃ ρ' cs',CM w K f Ds H2 ρ' cs' σ' H'/\J ρ' cs'/\μ ρ' cs'<μ ρ1 cs1,fun σ' H' ⟨ρ',cs',x',j',l'⟩=>⟨_,l',ρ',cs',x',j',rfl⟩,?_⟩;exact p se σ1 H3 H2 _ x3 (fun ρ5 cs5 σ5 H5 x5 p5=>⟨ρ5,cs5,x5,p5⟩) r (fun ρ5 cs5 σ5 H5 x5 p5=>n ρ5 cs5 σ5 H5 x5 p5) (fun ρ5 cs5 σ5 H5 x5 p5=>⟨ρ5,cs5,x5,p5⟩)
 | false =>
  rw [Kv EG] at p ⊢;exact n ρ1 cs1 σ1 H3 x3 p
theorem vn {σ:St} {H H2:Hp} {D:EL} (hi:ρ[i]?=some (some (.own (f.M.length+j)))) (x:CM w K f Ds H2 ρ cs σ H) (hD:Ds[j]?=some D):σ[i]?=some (some (.ref D)):=by
 obtain⟨v,h1,p,h2,rfl⟩:=x.env.get i _ hi;have e:(f.withs Ds).M.reverse[f.M.length+j]?=some D:=by
  show (Ds.reverse++f.M).reverse[f.M.length+j]?=some D;rw [HM,JW,EX (by simp)];simpa using hD
 rw [e] at h2;cases h2;exact h1
theorem fV {es:List PyData} (hi:ρ[i]?=some (some (.own (f.M.length+j)))) (hc:cs[j]?=some (.lst es)) (hl:es.length<1000) (h:PEm w K f Ds te ρ cs fun d=>O.nx ρ (cs.set j (.lst (es++[d])))):PSm w K f Ds (iT (tBM K "list" gP (yi i) (z7 te qv))) ρ cs O:=fun se σ H H2 E x n r b k=>by
 have hj:j<Ds.length:=by rw [<-x.len];exact (EH.mp hc).1
 have hD:Ds[j]?=some Ds[j]:=ED hj;obtain⟨vs0,h0,_⟩:=x.own j _ _ hD hc;refine⟨_,vn hi x hD,Or.inl ⟨rfl,vs0,.of h0⟩,?_⟩;refine h se σ H H2 _ x fun d v H1 g1 r1 p1=>?_;have x1:=x.go g1 (x.env.mono g1);obtain⟨vs,h1,h2⟩:=x1.own j _ _ hD hc;refine⟨_,vs,v,rfl,rfl,h1,yz (by rw [h2.length];omega),n _ _ _ _ (x1.put se hD (o:=.lst (vs++[v])) (c':=.lst (es++[d])) ⟨vs++[v],zK,h2.snoc r1⟩) p1⟩
theorem CM.more {σ:St} {H H1 H2:Hp} {D:EL} {c:OC} (x:CM w K f Ds H2 ρ cs σ H) (g:Goes (f.withs Ds) H H1) (hn:H D=none) (ho:OwnAt w K (hide H1 ((f.withs Ds).with D)) H1 D c) (hi:i<ρ.length) :
  CM w K f (Ds++[D]) H1 (ρ.set i (some (.own (f.M.length+Ds.length)))) (cs++[c]) (σ.set i (some (.ref D))) H1:=by
 have nD:¬ ((f.withs Ds).f=some D \/ D∈(f.withs Ds).M):=fresh_ne x.env.fd hn;have sm0:Same (hide H (f.withs Ds)) (hide H1 (f.withs (Ds++[D]))):=fun b o hb=>by
  have hb1:=g.sm b o hb;rw [yK];refine zL (fun z=>?_) (zY hb1).2;rcases z with z | z
  ·exact (zY hb1).1 (.inl z)
  ·rcases EW.mp z with rfl | z
   ·have:=(zY hb).2;rw [hn] at this;cases this
   ·exact (zY hb1).1 (.inr z)
 have hD1:∃ o,H1 D=some o:=by
  cases c with
  | lst es=>exact⟨_,ho.choose_spec.1⟩
  | set ks=>exact⟨_,ho.choose_spec.1⟩
  | dic kvs=>exact⟨_,ho.choose_spec.1⟩
  | gen φ=>exact⟨_,ho.choose_spec.1⟩
 have fo1:FOk (f.withs (Ds++[D])) H1:=by
  rw [yK];refine⟨g.ok.fd,fun b hb=>?_,fun q eq hq=>?_⟩
  ·rcases EW.mp hb with rfl | hb
   ·exact hD1
   ·exact g.ok.mm b hb
  ·rcases EW.mp hq with rfl | hq
   ·exact nD (.inl eq)
   ·exact g.ok.nm q eq hq
 have rev:(f.withs (Ds++[D])).M.reverse=(f.withs Ds).M.reverse++[D]:=by
  rw [yK];show (D :: (f.withs Ds).M).reverse=_;rw [FL]
 have lenr:(f.withs Ds).M.reverse.length=f.M.length+Ds.length:=by
  show (Ds.reverse++f.M).reverse.length=_;simp
 have e1:EnvOk K (f.withs (Ds++[D])) ρ σ H1:=⟨x.env.len,fun q y hy=>by
  obtain⟨v,a1,a2⟩:=x.env.get q y hy;refine⟨v,a1,?_⟩;cases y with
  | dat d=>exact Rep.mono sm0 d v a2
  | feed=>exact a2
  | exc C =>
   obtain⟨b,h3,h4⟩:=a2;exact⟨b,h3,sm0 _ _ h4⟩
  | mon φ=>exact fun H' s=>a2 H' (sm0.trans s)
  | own k =>
   obtain⟨b,h3,h4⟩:=a2;refine⟨b,?_,h4⟩;rw [rev,ER (EH.mp h3).1];exact h3,fo1⟩
 have rv:RepV K (f.withs (Ds++[D])) H1 (.own (f.M.length+Ds.length)) (.ref D):=⟨D,by
  rw [rev,EX (by omega),lenr,Gn]
  rfl,rfl⟩
 refine⟨e1.set i rv,Same.refl _,fun _ _=>rfl,by simp [x.len],fun q D' c' h1 h2=>?_⟩;by_cases hq:q<Ds.length
 ·rw [ER hq] at h1;rw [ER (by rw [x.len];exact hq)] at h2;exact (x.own q D' c' h1 h2).mono (g.kp D' (qu (EK h1))) sm0
 ·by_cases hq2:q=Ds.length
  ·subst hq2;rw [EX (EN _),Gn] at h1;rw [EX (by rw [x.len];exact EN _),x.len,Gn] at h2;cases h1;cases h2;rw [yK];exact ho
  ·rw [Fl (by simp;omega)] at h1;cases h1
theorem Sep.more {H:Hp} {D:EL} (se:Sep f Ds) (fo:FOk (f.withs Ds) H) (hn:H D=none):Sep f (Ds++[D]):=by
 have nD:=fresh_ne fo hn;refine⟨G3.mpr ⟨se.nd,by simp,fun a ha b hb=>?_⟩,fun D' h=>?_,fun D' h=>?_⟩
 ·rw [Fc.mp hb];intro z;exact nD (.inr (qu (z▸ha)))
 ·rcases Fj.mp h with h | h
  ·exact se.nf D' h
  ·rw [Fc.mp h];exact fun z=>nD (.inl z)
 ·rcases Fj.mp h with h | h
  ·exact se.nm D' h
  ·rw [Fc.mp h];exact fun z=>nD (.inr (E8 _ z))
theorem CM.less {σ σ':St} {H H1 H2 H':Hp} {D:EL} {ρ':zw} {cs':List OC} (x:CM w K f Ds H2 ρ cs σ H) (g:Goes (f.withs Ds) H H1) (hn:H D=none) (y:CM w K f (Ds++[D]) H1 ρ' cs' σ' H') :
  CM w K f Ds H2 (ρ'.map (qH (f.M.length+Ds.length))) (cs'.take Ds.length) σ' H':=by
 have sub:Same (hide H' (f.withs (Ds++[D]))) (hide H' (f.withs Ds)):=by rw [yK];exact yY
 have sm1:Same (hide H (f.withs Ds)) (hide H1 (f.withs (Ds++[D]))):=fun b o hb=>by
  have hb1:=g.sm b o hb;rw [yK];refine zL (fun z=>?_) (zY hb1).2;rcases z with z | z
  ·exact (zY hb1).1 (.inl z)
  ·rcases EW.mp z with rfl | z
   ·have:=(zY hb).2;rw [hn] at this;cases this
   ·exact (zY hb1).1 (.inr z)
 have lenr:(f.withs Ds).M.reverse.length=f.M.length+Ds.length:=by
  show (Ds.reverse++f.M).reverse.length=_;simp
 have rev:(f.withs (Ds++[D])).M.reverse=(f.withs Ds).M.reverse++[D]:=by
  rw [yK];show (D :: (f.withs Ds).M).reverse=_;rw [FL]
 have fo:FOk (f.withs Ds) H':=by
  have h:=y.env.fd;rw [yK] at h;exact⟨h.fd,fun b hb=>h.mm b (EM _ hb),fun p e hp=>h.nm p e (EM _ hp)⟩
 refine⟨⟨by rw [EF];exact y.env.len,fun q z hz=>?_,fo⟩,(x.sm.trans sm1).trans (y.sm.trans sub),fun b hb=>(y.kp b hb).trans ((g.kp b (E8 _ hb)).trans (x.kp b hb)),?_,fun q D' c' h1 h2=>?_⟩
 ·rw [EO] at hz;cases e:ρ'[q]? with
  | none=>rw [e] at hz;cases hz
  | some z0 =>
   rw [e] at hz;cases z0 with
   | none=>cases hz
   | some z0 =>
    obtain⟨v,a1,a2⟩:=y.env.get q z0 e;cases z0 with
    | dat d =>
     cases hz;exact⟨v,a1,Rep.mono sub d v a2⟩
    | feed =>
     cases hz;rw [yK] at a2;exact⟨v,a1,a2⟩
    | exc C =>
     cases hz;obtain⟨b,h3,h4⟩:=a2;exact⟨v,a1,b,h3,sub _ _ h4⟩
    | mon φ =>
     cases hz;exact⟨v,a1,fun H' s=>a2 H' (sub.trans s)⟩
    | own k =>
     have hz':(if k<f.M.length+Ds.length then some (DV.own k) else none)=some z:=Option.some.inj hz;by_cases hk:k<f.M.length+Ds.length
     ·rw [Kw hk] at hz';cases hz';obtain⟨b,h3,h4⟩:=a2;refine⟨v,a1,b,?_,h4⟩;rw [rev,ER (by omega)] at h3;exact h3
     ·rw [Kv hk] at hz';cases hz'
 ·rw [Fo,y.len];simp
 ·have hq:q<Ds.length:=(EH.mp h1).1;rw [G4 hq] at h2;exact (y.own q D' c' (by rw [ER hq];exact h1) h2).mono rfl sub
theorem fW (h:u9 w K (f.withs Ds) te ρ fun c=>i<ρ.length/\∀ D,PSm w K f (Ds++[D]) ts (ρ.set i (some (.own (f.M.length+Ds.length)))) (cs++[c]) { nx:=fun ρ' cs'=>O.nx (ρ'.map (qH (f.M.length+Ds.length))) (cs'.take Ds.length),rt:=O.rt,bk:=fun ρ' cs'=>O.bk (ρ'.map (qH (f.M.length+Ds.length))) (cs'.take Ds.length),ct:=fun ρ' cs'=>O.ct (ρ'.map (qH (f.M.length+Ds.length))) (cs'.take Ds.length) }) :
  PSm w K f Ds (bo (aH te (jD i)) ts) ρ cs O:=fun se σ H H2 E x n r b k =>
 h σ H _ x.env fun c D H1 g1 hn ho ⟨hi,p⟩ =>
  p D (se.more x.env.fd hn) _ H1 H1 E (x.more g1 hn ho hi) (fun ρ' cs' σ' H' y q=>n _ _ σ' H' (x.less g1 hn y) q) (fun d v ρ' cs' σ' H' y r' q=>r d v _ _ σ' H' (x.less g1 hn y) r' q) (fun ρ' cs' σ' H' y q=>b _ _ σ' H' (x.less g1 hn y) q) (fun ρ' cs' σ' H' y q=>k _ _ σ' H' (x.less g1 hn y) q)
theorem av {P:OC->Prop} (h:PEdO K f te ρ fun es=>P (.lst es)):u9 w K f te ρ P:=fun σ H Q e q=>h σ H Q e fun es D vs H' g hn h1 rs p=>q (.lst es) D H' g hn ⟨vs,h1,rs⟩ p
noncomputable def freed (n:Nat) (cs:List OC):Option DV->Option DV
 | some (.own k)=>if k<n then some (.own k) else match cs[k - n]? with
  | some (.lst es)=>some (.dat (.list es))
  | _=>none
 | x=>x
theorem CM.free {σ:St} {H H2:Hp} (se:Sep f Ds) (x:CM w K f Ds H2 ρ cs σ H):EnvOk K f (ρ.map (freed f.M.length cs)) σ H:=by
 have fo:FOk f H:=⟨x.env.fd.fd,fun b hb=>x.env.fd.mm b (E8 _ hb),fun p e hp=>x.env.fd.nm p e (E8 _ hp)⟩;refine⟨by rw [EF];exact x.env.len,fun q z hz=>?_,fo⟩;rw [EO] at hz;cases e:ρ[q]? with
 | none=>rw [e] at hz;cases hz
 | some z0 =>
  rw [e] at hz;cases z0 with
  | none=>cases hz
  | some z0 =>
   obtain⟨v,a1,a2⟩:=x.env.get q z0 e;cases z0 with
   | dat d =>
    cases hz;exact⟨v,a1,Rep.mono jj d v a2⟩
   | feed =>
    cases hz;exact⟨v,a1,a2⟩
   | exc C =>
    cases hz;obtain⟨b,h3,h4⟩:=a2;exact⟨v,a1,b,h3,jj _ _ h4⟩
   | mon φ =>
    cases hz;exact⟨v,a1,fun H' s=>a2 H' (jj.trans s)⟩
   | own k =>
    obtain⟨b,h3,h4⟩:=a2;have h3':(Ds.reverse++f.M).reverse[k]?=some b:=h3;rw [HM,JW] at h3';have hz':(if k<f.M.length then some (DV.own k) else match cs[k - f.M.length]? with | some (.lst es)=>some (.dat (.list es)) | _=>none)=some z:=Option.some.inj hz;by_cases hk:k<f.M.length
    ·rw [Kw hk] at hz';cases hz';rw [ER (by simpa using hk)] at h3';exact⟨v,a1,b,h3',h4⟩
    ·rw [Kv hk] at hz';rw [EX (by simpa using Nat.not_lt.mp hk),IQ] at h3';cases ec:cs[k - f.M.length]? with
     | none=>rw [ec] at hz';cases hz'
     | some c =>
      rw [ec] at hz';cases c with
      | lst es =>
       cases hz';obtain⟨vs,h5,h6⟩:=x.own _ _ _ h3' ec;have hb:=EK h3';exact⟨v,a1,zG.mpr ⟨b,vs,h4,.of (zL (fun z=>z.elim (se.nf b hb) (se.nm b hb)) h5),Reps.mono jj es vs h6⟩⟩
      | set ks=>cases hz'
      | dic kvs=>cases hz'
      | gen φ=>cases hz'
theorem CM.goF {σ:St} {H H2 H':Hp} (se:Sep f Ds) (x:CM w K f Ds H2 ρ cs σ H) (g:Goes f H H'):CM w K f Ds H2 ρ cs σ H':=by
 have keep:∀ b∈Ds,H' b=H b:=fun b hb=>by
  obtain⟨o,ho⟩:=x.env.fd.mm b (qu hb);rw [ho];exact (zY (g.sm b o (zL (fun z=>z.elim (se.nf b hb) (se.nm b hb)) ho))).2
 have g2:Goes (f.withs Ds) H H':=⟨fun b o hb=>by
   have hb':=zY hb;have:=zY (g.sm b o (jj b o hb));exact zL hb'.1 this.2,⟨g.ok.fd,fun b hb=>by
   rcases Fj.mp hb with hb | hb
   ·obtain⟨o,ho⟩:=x.env.fd.mm b (FE _ hb);exact⟨o,by rw [keep b (GW.mp hb)];exact ho⟩
   ·exact g.ok.mm b hb,x.env.fd.nm⟩,fun b hb=>by
   rcases Fj.mp hb with hb | hb
   ·exact keep b (GW.mp hb)
   ·exact g.kp b hb⟩
 exact x.go g2 (x.env.mono g2)
theorem eH (h:PSd K f ts (ρ.map (freed f.M.length cs)) { nx:=fun _=>False,rt:=O.rt }):PSm w K f Ds ts ρ cs O:=fun se σ H H2 E x n r b k =>
 h σ H E (x.free se) (fun _ _ _ _ _ z=>z.elim) (fun d v H' g' r' p=>r d v ρ cs σ H' (x.goF se g') r' p) (fun _ _ _ _ _ z=>z.elim) (fun _ _ _ _ _ z=>z.elim)
end
def sH (w:World) (K:EI) (f:Fx) (Ds:List EL) (ts:TS) (ρ:zw) (cs:List OC) (R:List PyData->Prop):Prop:=Sep f Ds->∀ (σ:St) (H H2:Hp) (E:Ends),CM w K f Ds H2 ρ cs σ H ->
 (∀ es D vs ρ' cs' σ' H0 H',CM w K f Ds H2 ρ' cs' σ' H0->Goes f H0 H'->H0 D=none->H' D=some (.lst vs)->Reps K (hide H' (f.with D)) es vs->R es->E.rt (.ref D) H')->ts E σ H
section
variable {w:World} {K:EI} {f:Fx} {Ds:List EL} {ρ:zw} {cs:List OC} {ts tu:TS} {te:TE} {R:List PyData->Prop} {i:Nat}
theorem Ar (h:sH w K f [] ts ρ [] R):PSn K f ts ρ R:=fun σ H E e q=>by
 refine h ⟨Hc,(fun _ z=>nomatch z),(fun _ z=>nomatch z)⟩ σ H H E ⟨e,Same.refl _,fun _ _=>rfl,rfl,(fun i D c z=>nomatch z)⟩ fun es D vs ρ' cs' σ' H0 H' x g hn h1 rs p=>?_;have g0:Goes f H H0:=⟨x.sm,x.env.fd,x.kp⟩;exact q es D vs H' (g0.trans g) (g0.free e.fd hn) h1 rs p
theorem CS (h:PSm w K f Ds ts ρ cs { nx:=fun ρ' cs'=>sH w K f Ds tu ρ' cs' R,rt:=fun _=>False }):sH w K f Ds (bo ts tu) ρ cs R:=fun se σ H H2 E x q =>
 h se σ H H2 _ x (fun ρ' cs' σ' H' x' p=>p se σ' H' H2 E x' q) (fun _ _ _ _ _ _ _ _ z=>z.elim) (fun _ _ _ _ _ z=>z.elim) (fun _ _ _ _ _ z=>z.elim)
theorem wb (h:u9 w K (f.withs Ds) te ρ fun c=>i<ρ.length/\∀ D,sH w K f (Ds++[D]) ts (ρ.set i (some (.own (f.M.length+Ds.length)))) (cs++[c]) R) :
  sH w K f Ds (bo (aH te (jD i)) ts) ρ cs R:=fun se σ H H2 E x q =>
 h σ H _ x.env fun c D H1 g1 hn ho ⟨hi,p⟩ =>
  p D (se.more x.env.fd hn) _ H1 H1 E (x.more g1 hn ho hi) fun es D' vs ρ' cs' σ' H0 H' y g hn' h1 rs pr=>q es D' vs _ _ σ' H0 H' (x.less g1 hn y) g hn' h1 rs pr
theorem Au (h:PSn K f ts (ρ.map (freed f.M.length cs)) R):sH w K f Ds ts ρ cs R:=fun se σ H H2 E x q =>
 h σ H E (x.free se) fun es D vs H' g hn h1 rs p=>q es D vs ρ cs σ H H' x g hn h1 rs p
end
theorem SetO.ok {P:Program} {w:World} {H:Hp} {h:Heap} {a:EL} {xs:List (PyData×EL)} {o:Obj} {es:Array (Int×Value)} {ep:Nat} {t:SetTable} (S:SetObj w h a xs o es ep t):ObjOk P w H h a (SetO w a xs) :=
 ⟨⟨o,es,ep,t,S⟩,⟨o,S.ob⟩,fun h1 h2 ⟨o,es,ep,t,S⟩ k=>⟨o,es,ep,t,⟨k o S.ob,S.ex,S.da,S.el,S.ok⟩⟩⟩
theorem sI (led:Bool):ST.TOk (SetTable.fresh 0 0 led) [] where
 mask:=.inl rfl
 dum:=rfl
 rise:=fun i j _ hj=>absurd hj (FV _)
 le:=fun i hi=>absurd hi (FV _)
 size:=rfl
 most:=Ft _
 reach:=fun i hi=>absurd hi (FV _)
 room:=by show 0 * 5<7 * 3;decide
def hJ (w:World):List V->Hp->VK->Prop:=fun xs H Q=>xs=[]/\∀ a,H a=none->Q (.ref a) (upd H a (SetO w a []))
theorem kO {X:Cx}:yR X (.type "set") (hJ X.w):=by
 intro Ku s σ H xs us Q I r h;obtain⟨rfl,q⟩:=h;cases r;refine call_set_0 fun led=>?_;refine⟨.ref s.heap.objs.size,_,I.laid (t':=s.toks) (fun b u e=>EU _ e) (EN _) (SetO.ok (xs:=[]) (o:={ cls:=.type "set",dict:=none,data:=.set #[] 0 (.fresh 0 0 led) }) (es:=#[]) (ep:=0) (t:=.fresh 0 0 led) ⟨Fn _ rfl,⟨rfl,rfl,rfl⟩,rfl,rfl,sI led⟩),rfl,q _ (I.hok.fresh (EN _))⟩
def sJ (d:PyData):Prop:=bI d/\∃ xs,d=.tuple xs
theorem dm {K:EI} {H:Hp} {d:PyData} {v:V} (k:sJ d) (r:Rep K H d v):∃ b,v=.ref b:=by
 obtain⟨_,xs,rfl⟩:=k;obtain⟨a,_,e,_⟩:=zS.mp r;exact⟨a,e⟩
theorem aZ {X:Cx} {Ku:List (EL×Obj)} {σ:St} {H:Hp} {s:Shared} {d:PyData} {b:EL} (I:Inv X Ku σ H s) (k:bI d) (r:Rep X.K H d (.ref b)):KeyAt s.heap d b:=by
 obtain⟨as,ra⟩:=jt I d (.ref b) (.ref b) r rfl;exact⟨⟨as,ra⟩,k.1,k.2⟩
def CT (w:World) (K:EI) (neg:Bool):R2:=fun x y H Q=>∃ a b d xs,x=.ref b/\y=.ref a/\H a=some (SetO w a xs)/\(∀ z∈xs,bI z.1/\Rep K H z.1 (.ref z.2))/\bI d/\Rep K H d (.ref b)/\Q (.bl (if neg then !decide (d∈xs.map (·.1)) else decide (d∈xs.map (·.1)))) H
theorem Av {X:Cx} (hu:X.A.units+64<Gr) {Ku:List (EL×Obj)} {s:Shared} {σ:St} {H:Hp} {a b:EL} {d:PyData} {xs:List (PyData×EL)} (I:Inv X Ku σ H s) (hS:H a=some (SetO X.w a xs)) (ks:∀ z∈xs,bI z.1/\Rep X.K H z.1 (.ref z.2)) (kd:bI d) (rd:Rep X.K H d (.ref b)) {Q:Bool->Shared->Prop} {E:Value->Shared->Prop}
  (q:Q (decide (d∈xs.map (·.1))) { s with toks:=s.toks+yl d }):Fd (model X.prog X.w) X.A (contains (.ref a) (.ref b)) Q E s:=by
 obtain⟨⟨o,es,ep,t,S⟩,_⟩:=I.hok a _ hS;exact kM S (fun x hx=>aZ I (ks x hx).1 (ks x hx).2) (aZ I kd rd) (by omega) q
theorem sL {X:Cx} (hu:X.A.units+64<Gr):OpR X (F5 .NotIn) (CT X.w X.K true):=by
 intro Ku s σ H x y v u Q I rx ry h;obtain⟨a,b,d,xs,rfl,rfl,hS,ks,kd,rd,q⟩:=h;cases rx;cases ry;show Fd _ _ (do return Value.bool (!(<- contains (.ref a) (.ref b)))) _ _ s;apply EJ;exact Av hu I hS ks kd rd (ES ⟨.bl _,H,I.tok _,rfl,q⟩)
theorem mH {X:Cx} {K:EI} {w:World} (hw:X.w=w) (hK:X.K=K) (hu:X.A.units+64<Gr):OpR X (F5 .NotIn) (CT w K true):=hw▸hK▸sL hu
def wc (w:World) (K:EI):V->List V->Hp->VK->Prop:=fun x ys H Q=>∃ a b d xs,x=.ref a/\ys=[.ref b]/\H a=some (SetO w a xs)/\(∀ z∈xs,bI z.1/\Rep K H z.1 (.ref z.2))/\bI d/\Rep K H d (.ref b)/\xs.length<300 /\
 (d∈xs.map (·.1)->Q .non H)/\(d∉xs.map (·.1)->∀ xs',xs'.Perm ((d,b) :: xs)->Q .non (upd H a (SetO w a xs')))
theorem Aw {X:Cx} (hu:X.A.units+64<Gr):MtR X "set.add" (wc X.w X.K):=by
 intro Ku s σ H x ys v us Q I rx ry h;obtain⟨a,b,d,xs,rfl,rfl,hS,ks,kd,rd,few,q1,q2⟩:=h;obtain⟨u,rfl,ru⟩:=vals1 ry;cases rx;cases ru;obtain⟨⟨o,es,ep,t,S⟩,_⟩:=I.hok a _ hS;refine CP S (fun x hx=>aZ I (ks x hx).1 (ks x hx).2) (aZ I kd rd) (by omega) few (fun hd=>⟨.non,H,I.tok _,rfl,q1 hd⟩) fun hd xs' o' es' ep' t' h' pm sb S'=>?_;refine⟨.non,_,I.write (t':=s.toks+yl d) (x:=a) (e:=a) (by rw [hS];exact trivial) (.inl rfl) (fun b u nb e=>(sb.2 b nb).trans e) ⟨o',S'.ob⟩ (SetO.ok S'),rfl,q2 hd xs' pm⟩
theorem we {X:Cx} {K:EI} {w:World} (hw:X.w=w) (hK:X.K=K) (hu:X.A.units+64<Gr):MtR X "set.add" (wc w K):=hw▸hK▸Aw hu
theorem hU {X:Cx} {w:World} (hw:X.w=w):yR X (.type "set") (hJ w):=hw▸kO
def D3 (w:World) (r:V->List V->Hp->VK->Prop) (to:TE) (t:TA):TE:=fun σ H Q=>to σ H fun x H1=>(∃ a xs,x=.ref a/\H1 a=some (SetO w a xs))/\t σ H1 fun xs H2=>r x xs H2 Q
theorem CU {X:Cx} {w:World} {o e:Expr} {es:List Expr} {to:TE} {t:TA} {name:Str} {apos cpos:Pos} {id:String} {r:V->List V->Hp->VK->Prop} (hw:X.w=w) (slot:Slot "set" name id) (hty:typeOf (.builtin id)=pure (.type "method_descriptor")) (hm:MtR X id r) (ho:PE X o to) (ha:PA X (e :: es) t)
  (hbase:attributeBase o name X.env (eval o X.env)=eval o X.env:=by rfl)
  (hfew:((backTo cpos (FA (e :: es) X.env)).all (fun x=>!x.1) && (backToKw cpos (keywordEach [] X.env)).all (fun x=>x.1.isSome)
   && decide ((e :: es).length+([]:List Keyword).length+(if ([]:List Keyword).isEmpty then 0 else 1)<30))=true:=by rfl)
  (hline:(apos.endLine == cpos.line)=true:=by rfl) (hs:FA (e :: es) X.env=(false,eval e X.env) :: FA es X.env:=by rfl) (hplain:(backTo cpos (FA es X.env)).any (·.1)=false:=by rfl) :
  PE X (.Call (.Attribute o name apos) (e :: es) [] cpos) (D3 w r to t):=by
 subst hw;intro Ku s σ H Q I h;refine wpAny_Call_method_late hbase hfew hline rfl (thn (ho Ku s σ H _ I h) fun v s1 ⟨x,H1,I1,r1,ty,q1⟩=>?_);obtain⟨a,xs,rfl,hS⟩:=ty;cases r1;obtain⟨⟨ob,es',ep,t',S⟩,_⟩:=I1.hok a _ hS;refine⟨"set",id,PySem.F.plainAttrs_set,slot,hty,⟨ob,S.ob,S.ex.1⟩,fun b e=>?_,?_⟩
 ·cases e;exact⟨ob,S.ob,S.ex.2.1⟩
 have hA:=ha cpos Ku s1 σ H1 _ I1 q1;rw [hs] at hA ⊢;refine Jz (by show (false || (backTo cpos (FA es X.env)).any (·.1))=false;rw [hplain] <;> rfl) (JQ ?_);exact thn hA fun us s2 ⟨vs,H2,I2,r2,q2⟩=>hm Ku s2 σ H2 (.ref a) vs (.ref a) us Q I2 rfl r2 q2
section
variable {w:World} {K:EI} {f:Fx} {Ds:List EL} {ρ:zw} {cs:List OC} {te:TE} {O:MEnds} {i j:Nat} {ks:List PyData}
theorem CV {P:OC->Prop} (p:P (.set [])):u9 w K f (tCB (hJ w) qv) ρ P:=fun σ H Q e q =>
 ⟨rfl,fun a hn=>q (.set []) a _ (.of_same (yf hn _) e.fd) hn ⟨[],zK,(fun _ z=>nomatch z),(fun d=>Iff.rfl),EN 0⟩ p⟩
theorem D4 {neg:Bool} {B:Bool->Prop} (hi:ρ[i]?=some (some (.own (f.M.length+j)))) (hc:cs[j]?=some (.set ks)) (h:PEm w K f Ds te ρ cs fun d=>sJ d/\B (if neg then !decide (d∈ks) else decide (d∈ks))) :
  PTm w K f Ds (nM (tOp (CT w K neg) te (yi i))) ρ cs B:=fun se σ H H2 Q x q=>by
 have hj:j<Ds.length:=by rw [<-x.len];exact (EH.mp hc).1
 have hD:Ds[j]?=some Ds[j]:=ED hj;refine h se σ H H2 _ x fun d v H1 g1 r1 ⟨kd,p⟩=>?_;have x1:=x.go g1 (x.env.mono g1);obtain⟨b,rfl⟩:=dm kd r1;obtain⟨xs,h1,h2,h3,_⟩:=x1.own j _ _ hD hc;refine⟨_,vn hi x1 hD,Ds[j],b,d,xs,rfl,rfl,h1,fun z hz=>⟨(h2 z hz).1,Rep.mono (zo _ _) _ _ (h2 z hz).2⟩,kd.1,Rep.mono (zo _ _) _ _ r1,_,rfl,?_⟩;have:decide (d∈xs.map (·.1))=decide (d∈ks):=decide_eq_decide.mpr (h3 d);rw [this];exact q _ H1 g1 p
theorem D5 (hi:ρ[i]?=some (some (.own (f.M.length+j)))) (hc:cs[j]?=some (.set ks)) (hl:ks.length<300) (h:PEm w K f Ds te ρ cs fun d=>sJ d/\(d∈ks->O.nx ρ cs)/\(d∉ks->O.nx ρ (cs.set j (.set (d :: ks))))) :
  PSm w K f Ds (iT (D3 w (wc w K) (yi i) (z7 te qv))) ρ cs O:=fun se σ H H2 E x n r b k=>by
 have hj:j<Ds.length:=by rw [<-x.len];exact (EH.mp hc).1
 have hD:Ds[j]?=some Ds[j]:=ED hj;obtain⟨xs0,h0,_⟩:=x.own j _ _ hD hc;refine⟨_,vn hi x hD,⟨Ds[j],xs0,rfl,h0⟩,?_⟩;refine h se σ H H2 _ x fun d v H1 g1 r1 ⟨kd,p1,p2⟩=>?_;have x1:=x.go g1 (x.env.mono g1);obtain⟨b,rfl⟩:=dm kd r1;obtain⟨xs,h1,h2,h3,h4⟩:=x1.own j _ _ hD hc;refine⟨Ds[j],b,d,xs,rfl,rfl,h1,fun z hz=>⟨(h2 z hz).1,Rep.mono (zo _ _) _ _ (h2 z hz).2⟩,kd.1,Rep.mono (zo _ _) _ _ r1,by omega,fun hd=>n _ _ _ _ x1 (p1 ((h3 d).mp hd)),fun hd xs' pm=>n _ _ _ _ (x1.put se hD (c':=.set (d :: ks)) ⟨xs',zK,fun z hz=>?_,fun e=>?_,?_⟩) (p2 fun z=>hd ((h3 d).mpr z))⟩
 ·rcases EW.mp (pm.mem_iff.mp hz) with rfl | hz
  ·exact⟨kd.1,r1⟩
  ·exact h2 z hz
 ·rw [(pm.map (·.1)).mem_iff,Fg,EW,EW,h3 e]
 ·rw [pm.length_eq,E1,E1];omega
end
theorem DicO.ok {P:Program} {w:World} {H:Hp} {h:Heap} {a:EL} {xs:List (PyData×EL×Value)} {o:Obj} {es:Array DictEntry} {ep:Nat} (S:DicObj w h a xs o es ep):ObjOk P w H h a (DicO w a xs) :=
 ⟨⟨o,es,ep,S⟩,⟨o,S.ob⟩,fun h1 h2 ⟨o,es,ep,S⟩ k=>⟨o,es,ep,⟨k o S.ob,S.ex,S.da,S.el,S.nd,S.ns⟩⟩⟩
theorem Ax {X:Cx} {Ku:List (EL×Obj)} {σ:St} {H:Hp} {s:Shared} (I:Inv X Ku σ H s):sysModules<s.heap.objs.size :=
 Kh (by decide) (I.ok.mod.glob.keeps I.bk).lt
def oG (w:World):TE:=fun _ H Q=>∀ p,H p=none->Q (.ref p) (upd H p (DicO w p []))
theorem sM {X:Cx} {w:World} {pos:Pos} (hw:X.w=w):PE X (.Dict [] [] pos) (oG w):=by
 subst hw;intro Ku s σ H Q I h;refine wpAny_Dict_empty ⟨.ref s.heap.objs.size,_,I.laid (a:=s.heap.objs.size) (t':=s.toks) (fun _ _ q=>EU _ q) (EN _) (DicO.ok (xs:=[]) (o:={ cls:=.type "dict",data:=.dict #[] }) (es:=#[]) (ep:=0) ⟨Fn _ rfl,⟨rfl,rfl,rfl⟩,rfl,rfl,Hc,beq_eq_false_iff_ne.mpr (F6 (Fp (Ax I)))⟩),rfl,h _ (I.hok.fresh (EN _))⟩
abbrev hV (K:EI) (H:Hp) (xs:List (PyData×EL×Value)):Prop:=∀ z∈xs,bI z.1/\Rep K H z.1 (.ref z.2.1)
theorem wg {X:Cx} {Ku:List (EL×Obj)} {σ:St} {H:Hp} {s:Shared} {a:EL} {xs:List (PyData×EL×Value)} (I:Inv X Ku σ H s) (hS:H a=some (DicO X.w a xs)) (ks:hV X.K H xs):s.heap.DictOfH (dk X.prog X.w) a xs/\(a == sysModules)=false:=by
 obtain⟨⟨o,es,ep,S⟩,_⟩:=I.hok a _ hS;exact⟨⟨o,es,ep,S.ob,S.ex,S.da,S.el,fun x hx=>aZ I (ks x hx).1 (ks x hx).2,S.nd⟩,S.ns⟩
def hX (w:World) (K:EI):V->V->V->Hp->(Hp->Prop)->Prop:=fun o i v H Q=>∃ a b d xs,o=.ref a/\i=.ref b/\H a=some (DicO w a xs)/\hV K H xs/\bI d/\Rep K H d (.ref b)/\xs.length<=1000/\∀ u,RelV v u->Q (upd H a (DicO w a (storedH xs d b u)))
theorem Ay {X:Cx} (hu:X.A.units+64<Gr):xM X (hX X.w X.K):=by
 intro Ku s σ H o i v ov iv u Q I ro ri rv h;obtain⟨a,b,d,xs,rfl,rfl,hS,ks,kd,rd,hl,q⟩:=h;cases ro;cases ri;obtain⟨hm,ns⟩:=wg I hS ks;have hu1:X.A.in1.units=X.A.units+1:=rfl;refine wpAny_setItem_heap (by show _+40<Gr;omega) (aZ I kd rd) hm (fun h' hm' sb=>?_) (Gj (yz hl));obtain⟨o',es',ep',x1,x2,x3,x4,x5,x6⟩:=hm';exact⟨_,I.write (t':=s.toks+yl d) (x:=a) (e:=a) (by rw [hS];exact trivial) (.inl rfl) (fun b u nb e=>(sb.2 b nb).trans e) ⟨o',x1⟩ (DicO.ok ⟨x1,x2,x3,x4,x6,ns⟩),q u rv⟩
theorem kP {X:Cx} {K:EI} {w:World} (hw:X.w=w) (hK:X.K=K) (hu:X.A.units+64<Gr):xM X (hX w K):=hw▸hK▸Ay hu
def mI (w:World) (K:EI):R2:=fun x y H Q=>∃ a b d xs p v,x=.ref a/\y=.ref b/\H a=some (DicO w a xs)/\hV K H xs/\bI d/\Rep K H d (.ref b)/\atKey xs d=some p/\RelV v p.2/\Q v H
theorem CW {X:Cx} (hu:X.A.units+64<Gr):IxR X (mI X.w X.K):=by
 intro value slice Ku s σ H x y v u Q I rx ry h hs;obtain⟨a,b,d,xs,p,z,rfl,rfl,hS,ks,kd,rd,hp,rz,q⟩:=h;cases rx;cases ry;obtain⟨hm,ns⟩:=wg I hS ks;have hu1:X.A.in1.units=X.A.units+1:=rfl;refine subscriptTail_builtinR (x:=p.2) hm.typeIs Jb.lookup ?_ hs;exact wpAny_getItem_heap (by show _+40<Gr;omega) (aZ I kd rd) hm hp ⟨rfl,z,H,I.tok _,rz,q⟩
theorem Az {X:Cx} {K:EI} {w:World} (hw:X.w=w) (hK:X.K=K) (hu:X.A.units+64<Gr):IxR X (mI w K):=hw▸hK▸CW hu
noncomputable def dput (k v:PyData) (kvs:List (PyData×PyData)):List (PyData×PyData):=if k∈kvs.map (·.1) then kvs.map (fun p=>if p.1=k then (p.1,v) else p) else kvs++[(k,v)]
noncomputable def bK (k:PyData) (kvs:List (PyData×PyData)):Option PyData:=(kvs.find? fun p=>decide (p.1=k)).map (·.2)
section
variable {K:EI} {Hh:Hp}
theorem oH:∀ {xs:List (PyData×EL×Value)} {kvs:List (PyData×PyData)},Paired (EntR K Hh) xs kvs->xs.length=kvs.length
 | _,_,.nil=>rfl
 | _,_,.cons _ t=>by rw [E1,E1,oH t]
theorem v3:∀ {xs:List (PyData×EL×Value)} {kvs:List (PyData×PyData)},Paired (EntR K Hh) xs kvs->hV K Hh xs
 | _,_,.nil=>fun z hz=>nomatch hz
 | _,_,.cons h t=>fun z hz=>by
  rcases EW.mp hz with rfl | hz
  ·exact⟨h.2.1,h.2.2.1⟩
  ·exact v3 t z hz
theorem hZ (k:PyData):∀ {xs:List (PyData×EL×Value)} {kvs:List (PyData×PyData)},Paired (EntR K Hh) xs kvs->(atKey xs k=none/\bK k kvs=none/\k∉kvs.map (·.1)) \/ ∃ p d v,atKey xs k=some p/\bK k kvs=some d/\Rep K Hh d v/\RelV v p.2/\k∈kvs.map (·.1)
 | _,_,.nil=>.inl ⟨rfl,rfl,fun z=>nomatch z⟩
 | x :: xs,p :: kvs,.cons ⟨h1,h2,h3,v,h4,h5⟩ t=>by
  by_cases e:x.1=k
  ·refine .inr ⟨x.2,p.2,v,?_,?_,h4,h5,?_⟩
   ·unfold atKey;rw [IK,Kx e];rfl
   ·unfold bK;rw [IK,Kx (h1▸e)];rfl
   ·rw [Fg];exact EW.mpr (.inl (h1▸e).symm)
  ·have e':¬ p.1=k:=fun z=>e (h1.trans z);have a1:atKey (x :: xs) k=atKey xs k:=by unfold atKey;rw [IK,Ky e]
   have a2:bK k (p :: kvs)=bK k kvs:=by unfold bK;rw [IK,Ky e']
   rw [a1,a2,Fg];rcases hZ k t with⟨b1,b2,b3⟩ | ⟨q,d,u,b1,b2,b3,b4,b5⟩
   ·exact .inl ⟨b1,b2,fun z=>(EW.mp z).elim (fun z=>e' z.symm) b3⟩
   ·exact .inr ⟨q,d,u,b1,b2,b3,b4,EM _ b5⟩
theorem oI (k:PyData) {d:PyData} {v:V} {u:Value} (rd:Rep K Hh d v) (rv:RelV v u):∀ {xs:List (PyData×EL×Value)} {kvs:List (PyData×PyData)},Paired (EntR K Hh) xs kvs->Paired (EntR K Hh) (xs.map (putAt k u)) (kvs.map fun p=>if p.1=k then (p.1,d) else p)
 | _,_,.nil=>.nil
 | x :: xs,p :: kvs,.cons ⟨h1,h2,h3,w,h4,h5⟩ t=>by
  rw [Fg,Fg];refine .cons ?_ (oI k rd rv t);unfold putAt;by_cases e:x.1=k
  ·rw [Kw e,Kw (h1▸e)];exact⟨h1,h2,h3,v,rd,rv⟩
  ·rw [Kv e,Kv (fun z=>e (h1.trans z))];exact⟨h1,h2,h3,w,h4,h5⟩
theorem oJ {x:PyData×EL×Value} {p:PyData×PyData} (h:EntR K Hh x p):∀ {xs:List (PyData×EL×Value)} {kvs:List (PyData×PyData)},Paired (EntR K Hh) xs kvs->Paired (EntR K Hh) (xs++[x]) (kvs++[p])
 | _,_,.nil=>.cons h .nil
 | _,_,.cons h' t=>.cons h' (oJ h t)
theorem AA {k d:PyData} {b:EL} {v:V} {u:Value} (kk:bI k) (rk:Rep K Hh k (.ref b)) (rd:Rep K Hh d v) (rv:RelV v u) {xs:List (PyData×EL×Value)} {kvs:List (PyData×PyData)} (t:Paired (EntR K Hh) xs kvs):Paired (EntR K Hh) (storedH xs k b u) (dput k d kvs):=by
 unfold storedH dput;rcases hZ k t with⟨b1,b2,b3⟩ | ⟨q,d',v',b1,b2,b3,b4,b5⟩
 ·rw [b1,Kv (by simp),Kv b3];exact oJ ⟨rfl,kk,rk,v,rd,rv⟩ t
 ·rw [b1,Kw (show (some q).isSome=true from rfl),Kw b5];exact oI k rd rv t
end
section
variable {w:World} {K:EI} {f:Fx} {Ds:List EL} {ρ:zw} {cs:List OC} {te tk:TE} {O:MEnds} {i j:Nat} {kvs:List (PyData×PyData)}
theorem CY {P:OC->Prop} (p:P (.dic [])):u9 w K f (oG w) ρ P:=fun σ H Q e q =>
 fun a hn=>q (.dic []) a _ (.of_same (yf hn _) e.fd) hn ⟨[],zK,.nil⟩ p
theorem BI (hi:ρ[i]?=some (some (.own (f.M.length+j)))) (hc:cs[j]?=some (.dic kvs)) (hl:kvs.length<=1000)
  (h:PEd K (f.withs Ds) te ρ fun v=>PEd K (f.withs Ds) tk ρ fun k=>sJ k/\O.nx ρ (cs.set j (.dic (dput k v kvs)))) :
  PSm w K f Ds (aH te (rM (yi i) tk (hX w K))) ρ cs O:=fun se σ H H2 E x n r b k=>by
 have hj:j<Ds.length:=by rw [<-x.len];exact (EH.mp hc).1
 have hD:Ds[j]?=some Ds[j]:=ED hj;refine h σ H _ x.env fun v vv H1 g1 r1 p1=>?_;have x1:=x.go g1 (x.env.mono g1);refine⟨_,vn hi x1 hD,?_⟩;refine p1 σ H1 _ x1.env fun kd kv H3 g3 r3 ⟨kt,p3⟩=>?_;have x3:=x1.go g3 (x1.env.mono g3);obtain⟨b',rfl⟩:=dm kt r3;obtain⟨xs,h1,h2⟩:=x3.own j _ _ hD hc;have rv:=Rep.mono g3.sm _ _ r1;refine⟨Ds[j],b',kd,xs,rfl,rfl,h1,fun z hz=>⟨(v3 h2 z hz).1,Rep.mono (zo _ _) _ _ (v3 h2 z hz).2⟩,kt.1,Rep.mono (zo _ _) _ _ r3,by rw [oH h2];exact hl,fun u ru=>?_⟩;exact n _ _ _ _ (x3.put se hD (c':=.dic (dput kd v kvs)) ⟨_,zK,AA kt.1 r3 rv ru h2⟩) p3
theorem D6 {P:PyData->Prop} (hi:ρ[i]?=some (some (.own (f.M.length+j)))) (hc:cs[j]?=some (.dic kvs)) (h:PEm w K f Ds tk ρ cs fun k=>sJ k/\∃ d,bK k kvs=some d/\P d):PEm w K f Ds (tOp (mI w K) (yi i) tk) ρ cs P:=fun se σ H H2 Q x q=>by
 have hj:j<Ds.length:=by rw [<-x.len];exact (EH.mp hc).1
 have hD:Ds[j]?=some Ds[j]:=ED hj;refine⟨_,vn hi x hD,?_⟩;refine h se σ H H2 _ x fun k v H1 g1 r1 ⟨kt,d,hd,p⟩=>?_;have x1:=x.go g1 (x.env.mono g1);obtain⟨b,rfl⟩:=dm kt r1;obtain⟨xs,h1,h2⟩:=x1.own j _ _ hD hc;rcases hZ k h2 with⟨b1,b2,b3⟩ | ⟨pp,d',v',b1,b2,b3,b4,b5⟩
 ·rw [b2] at hd;cases hd
 ·rw [b2] at hd;cases hd;exact⟨Ds[j],b,k,xs,pp,v',rfl,rfl,h1,fun z hz=>⟨(v3 h2 z hz).1,Rep.mono (zo _ _) _ _ (v3 h2 z hz).2⟩,kt.1,Rep.mono (zo _ _) _ _ r1,b1,b4,q _ _ H1 g1 b3 p⟩
theorem D7 (h:PEm w K f Ds te ρ cs O.rt):PSm w K f Ds (iU te) ρ cs O:=fun se σ H H2 E x n r b k =>
 h se σ H H2 _ x fun d v H' g' r' p=>r d v ρ cs σ H' (x.go g' (x.env.mono g')) (Rep.mono jj d v r') p
end
noncomputable def AB (K:EI) (ns:List Int) (v:Value):Bool:=match v with
 | .ref t=>(match K.lookup t with
  | some o=>o.cls == .type "tuple" && (match o.data with
   | .seq its _=>KTD.intsLook its.toList ns && decide (its.size<=1000)
   | _=>false)
  | none=>false)
 | _=>false
noncomputable def sN (K:EI) (a:EL) (D:List (Str×List Int)):Bool:=!(a == sysModules) && (match K.lookup a with
 | some o=>o.cls == .type "dict" && o.dict.isNone && o.slots.isEmpty && (match o.data with
  | .dict es _=>KTD.rowsLook (AB K) es.toList D
  | _=>false)
 | none=>false)
theorem fX:∀ {vs:List Value} {ns:List Int},IntsAre vs ns->Vals (ns.map V.int) vs
 | _,_,.nil=>.nil
 | _,_,.cons n t h=>.cons ⟨t,rfl⟩ (fX h)
theorem CZ {K:EI} {ns:List Int} {v:Value} (h:AB K ns v=true):∃ t,v=.ref t/\∀ H,SqT K H t (ns.map V.int):=by
 unfold AB at h;split at h
 ·rename_i t;split at h
  ·rename_i o ho;rw [EV] at h;obtain⟨h1,h2⟩:=h;split at h2
   ·rename_i its n hd;rw [EV] at h2;exact⟨t,rfl,fun H=>.inr ⟨o,its,n,ho,beq_iff_eq.mp h1,hd,Gj (yz (of_decide_eq_true h2.2)),fX (KTD.ints_of_look h2.1)⟩⟩
   ·cases h2
  ·cases h
 ·cases h
def D8 (K:EI) (D:List (Str×List Int)) (tk:TE):TE:=fun σ H Q=>tk σ H fun y H1=>∃ x ns,y=.str x/\JX x D=some ns/\∀ t,(∀ H',SqT K H' t (ns.map V.int))->Q (.ref t) H1
theorem wk {X:Cx} {K:EI} {x:Str} {a:EL} {D:List (Str×List Int)} {key:Expr} {tk:TE} {p pos:Pos} (hK:X.K=K) (hg:Gl X x) (hm:X.mg x=some (.ref a)) (hT:sN K a D=true) (hk:PE X key tk) (hs:gJ key) (hd:(x == ("__debug__":Str))=false:=by decide) :
  PE X (.Subscript (.Name x p) key pos) (D8 K D tk):=by
 subst hK;intro Ku s σ H Q I h;unfold sN at hT;rw [EV] at hT;obtain⟨h0,hT⟩:=hT;split at hT
 case h_2=>cases hT
 case h_1 o ho =>
  simp only [EV] at hT;obtain⟨⟨⟨e1,e2⟩,e3⟩,e4⟩:=hT;split at e4
  case h_2=>cases e4
  case h_1 es ep hdat =>
   have Kt:KTD.Rows (fun ns v=>AB X.K ns v=true) es.toList D:=KTD.rows_of_look (fun _ _ z=>z) e4;refine Subscript_ (gF I hg hm ?_ hd);refine thn (hk Ku s σ H _ I h) fun u s1 ⟨y,H1,I1,ry,z,ns,ey,dat,q⟩=>?_;subst ey;obtain⟨tk',rfl⟩:=ry;have ho1:s1.heap.get? a=some o:=I1.kIn a o ho;have hT1:s1.TypeIs (.ref a) "dict":=⟨o,ho1,beq_iff_eq.mp e1⟩;obtain⟨v,hv,hr⟩:=Kt.find_some dat;obtain⟨t,rfl,sq⟩:=CZ hr;refine subscriptTail_builtinR (x:=.ref t) hT1 Jb.lookup ?_ (hs _ _);unfold getItem
   try with_reducible refine FF ?_
   apply EJ;refine wpAny_sequenceKey hT1 (by decide) ?_;apply EJ;refine wpAny_callSpecial?_slot (name:=Ki "__getitem__") hT1 slot_dict_getitem (wpAny_call_entry slot_dict_getitem hT1 entry_dict_getitem ?_ (args_dict_getitem _ _));show Fd _ _ (dictGet a (.str z tk') >>= _) _ _ s1;apply EJ;unfold dictGet
   try with_reducible refine FF ?_
   apply EJ;apply wpAny_pyHash_str;apply EJ;refine KTD.kt_dictFind_strs (s:={ s1 with toks:=s1.toks+1 }) ho1 hdat (by obtain⟨l⟩:=es;simpa using Kt.exact) ?_;cases hi:es.findIdx? fun e=>e.key.isStr z with
   | none =>
    exfalso;have hn:es.toList.find? (fun e=>e.key.isStr z)=none:=by
     rw [HY];intro e he;have:=Array.findIdx?_eq_none_iff.mp hi e (IG.mp he);simpa using this
    rw [hn] at hv;cases hv
   | some i =>
    obtain⟨hlt,hi1,hi2⟩:=Array.findIdx?_eq_some_iff_getElem.mp hi;have hval:es[i].val=.ref t:=by
     have hf:es.toList.find? (fun e=>e.key.isStr z)=some es[i]:=by
      rw [List.find?_eq_some_iff_getElem];refine⟨hi1,i,by simpa using hlt,by simp,fun j hj=>?_⟩;have:=hi2 j hj;simpa using this
     rw [hf] at hv;exact Option.some.inj hv
    apply EJ;refine wpAny_dictEntries (s:={ s1 with toks:=s1.toks+1 }) ho1 hdat (ES ?_);rw [Ja hlt];refine ES ⟨es[i].val,rfl,ES ?_⟩;rw [hval];exact⟨rfl,.ref t,H1,I1.tok _,rfl,q t sq⟩
section
variable {K:EI} {f:Fx} {ρ:zw} {P:PyData->Prop} {tk:TE} {D:List (Str×List Int)}
theorem BJ (h:PEd K f tk ρ fun y=>∃ x ns,y=.str x/\JX x D=some ns/\P (.tuple (ns.map .int))):PEd K f (D8 K D tk) ρ P:=fun σ H Q e q =>
 h σ H _ e fun y v H1 g1 r1 ⟨x,ns,ey,hd,p⟩=>by
  subst ey;exact⟨x,ns,dg.mp r1,hd,fun t sq=>q _ _ H1 g1 (zS.mpr ⟨t,ns.map V.int,rfl,sq _,Reps.ints' ns⟩) p⟩
end
structure MinAt (h0:Heap) (its:List Value) (ds:List PyData) (as:List EL):Prop where
 ra:ReadsAll h0 its ds as
 pl:∀ d∈ds,zD d=true
 cp:∀ d∈ds,∀ e∈ds,cZ d e=true
 dp:∀ d∈ds,d.depth<=50
section
variable {w:World} {K:EI} {f:Fx} {Ds:List EL} {ρ:zw} {cs:List OC} {O:MEnds} {tt:TT} {te:TE} {i j n:Nat}
theorem sO {H H' H2:Hp} {σ:St} (se:Sep f Ds) (x:CM w K f Ds H2 ρ cs σ H) (g:Goes f H H'):Goes (f.withs Ds) H H':=by
 have kp:∀ D∈Ds,H' D=H D:=fun D hD=>by
  obtain⟨o,ho⟩:=x.env.fd.mm D (qu hD);have h1:hide H f D=some o:=zL (fun z=>z.elim (se.nf D hD) (se.nm D hD)) ho;rw [ho,(zY (g.sm D o h1)).2]
 refine⟨fun b o hb=>?_,⟨fun p e=>?_,fun b hb=>?_,x.env.fd.nm⟩,fun b hb=>?_⟩
 ·obtain⟨n1,n2⟩:=zY hb;have h1:hide H f b=some o:=zL (fun z=>n1 (z.elim .inl fun z=>.inr (E8 _ z))) n2;exact zL n1 (zY (g.sm b o h1)).2
 ·exact g.2.fd p e
 ·rcases Fj.mp hb with h | h
  ·rw [kp b (GW.mp h)];exact x.env.fd.mm b hb
  ·exact g.2.mm b h
 ·rcases Fj.mp hb with h | h
  ·exact kp b (GW.mp h)
  ·exact g.kp b h
theorem AD {B:Bool->Prop} (h:PTd K f tt (ρ.map (freed f.M.length cs)) B):PTm w K f Ds tt ρ cs B:=fun se σ H H2 Q x q =>
 h σ H Q (x.free se) fun b H' g p=>q b H' (sO se x g) p
end
end L2
end
section
namespace L2
open PySem PySem.Spec PyProof.Rows
structure TM (K:EI) (f:Fx) (a:EL) (as:List EL) (H2:Hp) (ρ:zw) (Kt:List (List Int)) (σ:St) (H:Hp):Prop where
 env:EnvOk K (f.withs (a :: as)) ρ σ H
 sm:Same (hide H2 (f.withs (a :: as))) (hide H (f.withs (a :: as)))
 kp:∀ b∈f.M,H b=H2 b
 tab:TabAt H a as Kt
end L2
end
section
namespace L2
open PySem PySem.Spec PyProof.Rows
section
variable {K:EI} {f:Fx} {ρ:zw} {ts tu:TS} {O:DEnds} {te:TE} {i:Nat}
theorem oK (J:zw->Prop) (h1:PSd K f ts ρ { O with nx:=J }) (h2:∀ ρ',J ρ'->PSd K f tu ρ' O):PSd K f (bo ts tu) ρ O :=
 yg fun σ H E e n r b k=>h1 σ H E e (fun ρ' σ' H' g' e' p=>n ρ' σ' H' g' e' (h2 ρ' p)) r b k
end
section
variable {K:EI} {f:Fx} {ρ:zw} {wi:TI} {g:TG} {tt:TT} {own:Nat} {fr:List Nat} {tb:EL->TB} {P:List PyData->Prop}
theorem wm {α:Type} {A B:α->PyData} (p:α->Bool) (xs:List α) (h:PId K f wi ρ fun ds=>ds=xs.map A/\xs.length<=1000 /\
   (∀ D x ρ' es,x∈xs->OwnE own (frD fr ρ) ρ'->es.length<1000->PGd K (f.with D) g (A x) ρ' fun ρ2=>PTd K (f.with D) tt ρ2 fun b=>b=p x/\if b=true then PBd K f D (tb D) ρ2 es fun ρ3 es3=>OwnE own (frD fr ρ) ρ3/\es3=es++[B x] else OwnE own (frD fr ρ) ρ2)/\P ((xs.filter p).map B)) :
  PEdO K f (vO wi own fr g tt tb) ρ P :=
 vY (h.imp fun ds ⟨ed,hl,hs,hp⟩=>by
  subst ed;refine⟨fun i ρ' es=>OwnE own (frD fr ρ) ρ'/\es=((xs.take i).filter p).map B,⟨⟨Ha own none,by simp,rfl⟩,by simp⟩,fun D i d ρ' es hd ⟨ho,he⟩=>?_,fun ρ' es ⟨_,he⟩=>?_⟩
  ·rw [EO] at hd;cases eq:xs[i]? with
   | none=>rw [eq] at hd;cases hd
   | some x =>
    rw [eq] at hd;cases hd;have hi:i<xs.length:=(EH.mp eq).1;have tk:xs.take (i+1)=xs.take i++[x]:=by rw [FN,eq];rfl
    have hb:es.length<1000:=by
     have:=Gh p (xs.take i);rw [Fo] at this;rw [he,EF];omega
    intro σ H v Q e r q;refine hs D x ρ' es (EK eq) ho hb σ H v Q e r fun ρ2 σ2 H2 g2 e2 p2=>q ρ2 σ2 H2 g2 e2 (p2.imp fun b hb2=>?_);obtain⟨eb,hb2⟩:=hb2;cases b with
    | false =>
     rw [Kv EG] at hb2 ⊢;refine⟨hb2,?_⟩;rw [tk,Gq,E9,FY,<- eb,Kv EG,he];simp
    | true =>
     rw [Kw rfl] at hb2 ⊢;intro h1 h2 σ3 H3 H4 W c k;exact hb2 h1 h2 σ3 H3 H4 W c fun ρ5 es5 σ5 H5 c5 ⟨o5,p5⟩=>k ρ5 es5 σ5 H5 c5 ⟨o5,by rw [p5,he,tk,Gq,E9,FY,<- eb,Kw rfl];rfl⟩
  ·rw [he,EF,Fq];exact hp)
end
end L2
end
section
namespace L2
open PySem PySem.Spec PyProof.Rows
end L2
end
section
namespace L2
open PySem PySem.Spec PyProof.Rows
end L2
end
section
namespace L2
open PySem PySem.Spec PyProof.Rows
open PySem.SeqAt
open PySem.AutoSeq1 (wpAny_loadPart')
def Ew (A:Around) (s:Shared) (y x:Value) (b:Bool):Prop :=
 ∀ (prog:Program) (w:World) (E:Value->Shared->Prop) (Q:Value->Shared->Prop),Q (.bool b) s->Fd (model prog w) A (richCompare .GtE y x) Q E s
inductive Gex (A:Around) (s:Shared):List Value->List Value->Bool->Prop where
 | nn:Gex A s [] [] true
 | eq {v w vs ws b}:EqAt A s v w true->Gex A s vs ws b->Gex A s (v :: vs) (w :: ws) b
 | ge {v w vs ws b}:EqAt A s v w false->Ew A s v w b->vs.length=ws.length->Gex A s (v :: vs) (w :: ws) b
noncomputable def Ex (o:Obj):Option Value:=match o.data with
 | .fields vs=>vs[2]?
 | _=>none
local macro_rules | `(tactic| walk_at "kd")=>`(tactic| with_reducible first
  | assumption
  | exact kd_pure _
  | exact kd_uns _
  | exact kd_load _
  | exact kd_loadPart _ _
  | exact kd_stack
  | exact kd_alloc _
  | exact kd_reg _
  | apply kd_ite
  | apply kd_bind
  | intro _
  | split)
def Dct (a:EL) (o:Option EL) (h:Heap):Prop:=∃ u,h.get? a=some u/\Ex u=some .none/\∀ dx,o=some dx->u.dict=some dx
def CXf (P:Program) (w:World):CXT:=fun outer H s E e s'=>∃ a C o H',e=.ref a/\XLie P w outer H s a C H' s'/\Dct a o s'.heap/\E C o H'
def BK (a:EL) (C:Value) (o:Option EL) (h:Heap):Prop:=∃ t,h.get? a=some { cls:=C,dict:=o,data:=.fields #[.ref t,.none,.none,.none,.bool false,.none] }
end L2
end
section
namespace L2
open PySem PySem.Spec PyProof.Rows PySem.Builtin Builtin Builtin.ObjectAttr
noncomputable def wo (K:EI) (C f:EL) (bmB:List Value) (newId:String):Bool :=
 match K.lookup C with
 | some ⟨c0,_,.cls cd,sl⟩=>c0 == .type "type" && cd.mro.head? == some (.ref C) && cd.hasDel == false && cd.hasDict && PySem.W.tailIn K bmB cd.mro.tail && PySem.W.nsOkIn K cd.ns && FC K cd.ns "__init__" == some (some (.ref f))
   && sl.toList.length == 6 && sl.toList[4]? == some (some (.builtin newId))
 | _=>false
structure XCls (h:Heap) (C f:EL) (bmB:List Value) (newId:String):Prop where
 ex:∃ nm q N bs bm sn sub ab col dd k0 k1 k2 k3 k5 mN,h.get? C=some (excClassObj nm q C N bs bm true sn sub ab col dd k0 k1 k2 k3 k5 newId)/\h.Ns N mN/\mN "__init__"=some (.ref f)/\OwnTail h bmB bm
end L2
end
section
namespace L2
open PySem PySem.Spec PySem.W PyProof.Rows PySem.Calls PySem.Builtin Builtin Builtin.ObjectAttr
noncomputable abbrev bare (C:EL) (o:Option EL) (t:EL):Obj:={ cls:=.ref C,dict:=o,data:=.fields #[.ref t,.none,.none,.none,.bool false,.none] }
noncomputable abbrev bmV:List Value:=[.type "ValueError",.type "Exception",.type "BaseException",.type "object"]
structure FldC (K:EI) (C f D:EL) (name:Str):Prop where
 wi:wo K C f bmV "ValueError.__new__"=true
 fn:PySem.W.typeIn K (.ref f)=some (.type "function")
 ob:PySem.W.mroIn K C (.type "object")=some true
 sa:G9 K (.ref C) "__setattr__"=some (some (.builtin "object.__setattr__"))
 na:G9 K (.ref C) name=some none
 rd:PySem.W.readsIn K D (.type "type")=true
 sp:Jf K (.ref D) "__getattribute__"=some (some (.builtin "type.__getattribute__"))
 kp:F9 K (.ref C)=true
 fi:PySem.W.findCls K (.ref D) (.type "type") "__init__"=some (.val (.builtin "ValueError.__init__"))
section
variable {X:Cx} {Ku:List (EL×Obj)} {σ:St} {H H':Hp} {s s':Shared} {h':Heap} {a b dx C D f:EL} {o:HO} {t':Nat} {name:Str}
def C0 (C:EL) (name:Str):Sp:=fun vs H Q _=>∃ a y,vs=[.ref a,y]/\H a=some (.ext (BK a (.ref C) none))/\∀ dx,H dx=none->dx≠a->Q .non (upd (upd H dx (.xd [(name,y)])) a (.ext (BK a (.ref C) (some dx))))
end
end L2
end
section
namespace L2
open PySem PySem.Spec PyProof.Rows
end L2
end
section
namespace L2
open PySem PySem.Spec PySem.W PyProof.Rows PySem.Calls PySem.Builtin Builtin Builtin.ObjectAttr Builtin.Getset_descriptor
abbrev XD:=Option (Str×PyData)
structure FnInF (P:Program) (w:World) (K:EI) (mg:Str->Option Value) (base:Heap) (k:Nat) (x:Str) (ps:List Str) (sp:Sp):Prop where
 ex:∃ (f:EL) (fd:FuncData),FnOk P w K mg base (CXf P w) k f fd ps sp/\mg x=some (.ref f)/\F9 K (.ref f)=true/\Binds K fd ps []
structure FCls (K:EI) (mg:Str->Option Value) (x base:Str) (C:EL) (name:Str) (st:Stmt) (ps:List Str):Prop where
 ex:∃ (f D:EL) (fd:FuncData),FldC K C f D name/\mg x=some (.ref C)/\mg base=some (.ref D)/\Fun K "__init__" (x ++ ".__init__") st f fd/\Binds K fd ps []
structure InitOk (P:Program) (w:World) (K:EI) (mg:Str->Option Value) (base:Heap) (k:Nat) (C:EL) (name:Str):Prop where
 ex:∃ (f D:EL) (fd:FuncData) (ps:List Str),FldC K C f D name/\FnOk P w K mg base CX0 k f fd ps (C0 C name)/\Binds K fd ps []
theorem BL {K:EI} {f:Fx} {ρ:zw} {D:DEnds} {tt:TT} {ts tu:TS} (p:Prop) [Decidable p] (h:PTd K f tt ρ fun b=>b=decide p) (h1:p->PSd K f ts ρ D) (h2:¬ p->PSd K f tu ρ D):PSd K f (rL tt ts tu) ρ D:=aX fun σ H Q e q=>h σ H Q e fun b H' g z=>q b H' g (by
 subst z;by_cases hp:p
 ·rw [Kx hp,Kw rfl];exact h1 hp
 ·rw [Ky hp,Kv EG];exact h2 hp)
section
variable {w:World} {K:EI} {f:Fx} {Ds:List EL} {ts:TS} {te tk:TE} {ρ:zw} {cs:List OC} {O:MEnds} {i j n:Nat}
theorem kQ (h:PEm w K f Ds te ρ cs fun d=>O.nx (ρ.set n (some (.dat d))) cs):PSm w K f Ds (aH te (jD n)) ρ cs O:=fun se σ H H2 E x nn r b k =>
 h se σ H H2 _ x fun d v H1 g1 r1 p1=>by
  have x1:=x.go g1 (x.env.mono g1);exact nn _ cs _ H1 ⟨x1.env.set n (x:=.dat d) r1,x1.sm,x1.kp,x1.len,x1.own⟩ p1
end
structure RoomM (k:Nat) (A:Around):Prop where
 dp:A.depth+3 * k+5<recursionLimit
 un:A.units+16 * k+200<Gr
structure FnOkM (P:Program) (w:World) (K:EI) (mg:Str->Option Value) (base:Heap) (k:Nat) (f:EL) (fd:FuncData) (ps:List Str) (sp:EL->Sp):Prop where
 len:∀ a vs H Q E,sp a vs H Q E->vs.length=ps.length
 run:∀ (A:Around) (outer:List Env) (s:Shared) (H:Hp) (args:Args) (us:List Value) (vs:List V) (Q:VK) (a:EL),A.handled=some (.ref a)->RoomM k A->Env0 P w K mg base A outer s H->BindsTo s fd args (ps.zip us)->Vals vs us->sp a vs H Q E0 ->
  codeAny (model P w) A (.call (.ref f) args) (CR CX0 outer P w H s Q E0) s
structure FnInM (P:Program) (w:World) (K:EI) (mg:Str->Option Value) (base:Heap) (k:Nat) (x:Str) (ps:List Str) (sp:EL->Sp):Prop where
 ex:∃ (f:EL) (fd:FuncData),FnOkM P w K mg base k f fd ps sp/\mg x=some (.ref f)/\F9 K (.ref f)=true/\Binds K fd ps []
noncomputable def D9:PyData->Option Bool
 | .none=>some true
 | .int _=>some false
 | .bool _=>some false
 | .str _=>some false
 | .tuple _=>some false
 | .list _=>some false
 | _=>none
theorem wq {K:EI} {H:Hp} {d:PyData} {v:V} {b:Bool} (r:Rep K H d v) (h:D9 d=some b):decide (v=.non)=b:=by
 cases d with
 | none=>cases h;rw [jM.mp r];rfl
 | int i=>cases h;rw [zt.mp r];rfl
 | bool i=>cases h;rw [zW.mp r];rfl
 | str i=>cases h;rw [dg.mp r];rfl
 | tuple ds=>cases h;obtain⟨a,xs,rfl,_⟩:=zS.mp r;rfl
 | list ds=>cases h;obtain⟨a,xs,rfl,_⟩:=zG.mp r;rfl
 | _=>cases h
section
variable {K:EI} {f:Fx} {ρ:zw} {P:PyData->Prop} {ta:TE}
theorem C1 (h:PEd K f ta ρ fun d=>∃ b,D9 d=some b/\P (.bool (!b))):PEd K f (tOp (fun x y H Q=>y=.non/\Q (.bl (!decide (x=.non))) H) ta (tC .non)) ρ P:=fun σ H Q e q =>
 h σ H _ e fun d v H1 g1 r1 ⟨b,hb,p⟩=>⟨rfl,q _ _ H1 g1 (zW.mpr (by rw [wq r1 hb])) p⟩
end
structure TN (K:EI) (f:Fx) (a:EL) (as:List EL) (H2:Hp) (ρ:zw) (R:Option (List (List Int))) (σ:St) (H:Hp):Prop where
 env:EnvOk K (f.withs (a :: as)) ρ σ H
 sm:Same (hide H2 (f.withs (a :: as))) (hide H (f.withs (a :: as)))
 kp:∀ b∈f.M,H b=H2 b
 tab:∀ Kt,R=some Kt->TabAt H a as Kt
end L2
end
section
namespace L2
open PySem PySem.Spec PyProof.Rows
structure GoesW (f:Fx) (As:List EL) (H2 H':Hp):Prop where
 sm:Same (hide H2 (f.withs As)) (hide H' f)
 ok:FOk f H'
 kp:∀ b∈f.M,H' b=H2 b
structure FnAt (P:Program) (w:World) (K:EI) (mg:Str->Option Value) (base:Heap) (CX:CXT) (k:Nat) (a:EL) (sp:Sp):Prop where
 ex:∃ (fd:FuncData) (ps:List Str),FnOk P w K mg base CX k a fd ps sp/\F9 K (.ref a)=true/\Binds K fd ps []
end L2
end
section
namespace L2
open PySem PySem.Spec PyProof.Rows
end L2
end
section
namespace L2
open PySem PySem.Spec PyProof.Rows
structure Src (prog:Program) (w:World) (j:EL) (xs:Array Value) (dep:List EL) (St:Nat->Heap->Prop):Prop where
 own:j∈dep
 keep:∀ {k:Nat} {h h':Heap},St k h->(∀ c∈dep,∀ o,h.get? c=some o->h'.get? c=some o)->St k h'
 there:∀ {k:Nat} {h:Heap},St k h->∃ o,h.get? j=some o
 item:∀ {A:Around} {E:Value->Shared->Prop} {s:Shared} {k:Nat} {x:Value} {Q:Value->Shared->Prop},St k s.heap->xs[k]?=some x->(∀ h',St (k+1) h'->He j s.heap h'->Q x { s with heap:=h' })->Fd (model prog w) A (Jc (.ref j)) Q E s
 stop:∀ {A:Around} {E:Value->Shared->Prop} {s:Shared} {k:Nat} {Q:Value->Shared->Prop},A.handled=none->St k s.heap->xs[k]?=none->(∀ h' e,Heap.ExtBut j s.heap h'->(∃ o,h'.get? e=some o/\o.cls=.type "StopIteration")->E (.ref e) { s with heap:=h' })->Fd (model prog w) A (Jc (.ref j)) Q E s
section
variable {prog:Program} {w:World} {A:Around} {E:Value->Shared->Prop} {s:Shared}
structure Far (z q1 q2 j1 j2:EL) (e1 e2:List EL):Prop where
 q1z:q1≠z
 q2z:q2≠z
 q12:q1≠q2
 j12:j1≠j2
 q1j1:q1≠j1
 q1j2:q1≠j2
 z1:z∉e1
 z2:z∉e2
 o1:q2∉e1
 o2:q2∉e2
 d12:j2∉e1
 d21:j1∉e2
end
end L2
end
section
namespace L2
open PySem PySem.Spec PyProof.Rows
end L2
end
section
namespace L2
open PySem PySem.Spec PyProof.Rows
section
variable {K:EI} {f:Fx} {ρ:zw} {R:List DV->Prop} {i j m n:Nat} {d0 d1 d2 d3:PyData}
theorem eI (h0:ρ[i]?=some (some (.dat d0))) (h:R [.dat d0]):PAd K f (z7 (yi i) qv) ρ R:=zv (zq h0 (yd h))
theorem C2 (h0:ρ[i]?=some (some (.dat d0))) (h1:ρ[j]?=some (some (.dat d1))) (h:R [.dat d0,.dat d1]):PAd K f (z7 (yi i) (z7 (yi j) qv)) ρ R:=zv (zq h0 (eI h1 h))
theorem C3 (h0:ρ[i]?=some (some (.dat d0))) (h1:ρ[j]?=some (some (.dat d1))) (h2:ρ[m]?=some (some (.dat d2))) (h:R [.dat d0,.dat d1,.dat d2]):PAd K f (z7 (yi i) (z7 (yi j) (z7 (yi m) qv))) ρ R:=zv (zq h0 (C2 h1 h2 h))
theorem Ey (h0:ρ[i]?=some (some (.dat d0))) (h1:ρ[j]?=some (some (.dat d1))) (h2:ρ[m]?=some (some (.dat d2))) (h3:ρ[n]?=some (some (.dat d3))) (h:R [.dat d0,.dat d1,.dat d2,.dat d3]):PAd K f (z7 (yi i) (z7 (yi j) (z7 (yi m) (z7 (yi n) qv)))) ρ R:=zv (zq h0 (C3 h1 h2 h3 h))
end
section
variable {w:World} {K:EI} {f:Fx} {Ds:List EL} {ρ:zw} {cs:List OC} {ts tu:TS} {tt:TT} {te:TE} {R:List PyData->Prop} {i j:Nat}
theorem AE {γ:Type} {n:Nat} {pre:γ->List DV->Prop} {post:γ->List PyData->Prop} {E:XK} {t:TA} (h:PAd K f t ρ fun xs=>∃ c,xs.length=n/\pre c xs/\∀ es,post c es->R es):PEdO K f (qY (spN K n pre post) [] E t) ρ R:=fun σ H Q e q =>
 h σ H _ e fun xs vs H1 g1 r1 ⟨c,hl,hp,k⟩=>⟨f,xs,c,by rw [FT];exact r1,hl,g1.2,hp,fun es D us H2 g2 hn h1 rs p=>q es D us H2 (g1.trans g2) (g1.free e.fd hn) h1 rs (k es p)⟩
theorem oM {P:PyData->Prop} (h:PEd K f te ρ fun d=>(d=.none/\P (.bool false)) \/ ∃ i,d=.int i/\P (.bool true)):PEd K f (tOp (fun x y H Q=>y=.non/\Q (.bl (!decide (x=.non))) H) te (tC .non)) ρ P:=fun σ H Q e q =>
 h σ H _ e fun d v H1 g1 r1 hd=>by
  refine⟨rfl,?_⟩;rcases hd with⟨ed,p⟩ | ⟨i,ed,p⟩
  ·subst ed;rw [jM.mp r1];exact q _ _ H1 g1 (zW.mpr rfl) p
  ·subst ed;rw [zt.mp r1];exact q _ _ H1 g1 (zW.mpr rfl) p
end
theorem bL {α β:Type} {F:α->β} {l:List β} {m:List α} (h:l.Perm (m.map F)):∃ m':List α,m'.Perm m/\l=m'.map F:=by
 generalize e:m.map F=k at h
 induction h generalizing m with
 | nil=>exact⟨m,.refl _,e.symm⟩
 | cons x _ ih =>
  cases m with
  | nil=>cases e
  | cons a m =>
   injection e with e1 e2;obtain⟨m',p,r⟩:=ih e2;exact⟨a :: m',p.cons a,by rw [Fg,e1,r]⟩
 | swap x y l =>
  cases m with
  | nil=>cases e
  | cons a m =>
   cases m with
   | nil=>injection e with _ e;cases e
   | cons b m =>
    injection e with e1 e2;injection e2 with e2 e3;exact⟨b :: a :: m,.swap a b m,by rw [Fg,Fg,e1,e2,e3]⟩
 | trans _ _ ih1 ih2 =>
  obtain⟨m',p,r⟩:=ih2 e;obtain⟨m'',p',r'⟩:=ih1 r.symm;exact⟨m'',p'.trans p,r'⟩
abbrev FD (K:EI) (x:Str) (st:Stmt) (f:EL) (od an:Option EL) (sl:Array (Option Value)) (oc kV dc pm cd ct:Value):Prop:=FC K Fh x=some (some (.ref f))/\K.lookup f=some ⟨oc,od,.func (Gm x x (jr st) (yH st) (zi st) .none kV dc pm an cd ct),sl⟩/\FU K cd x=true/\F9 K (.ref f)=true
theorem AF {K:EI} {h:Heap} {mg:Str->Option Value} {x:Str} {st:Stmt} {f:EL} {od an:Option EL} {sl:Array (Option Value)} {oc kV dc pm cd ct:Value} (X:K.In h) (G:h.Ns Fh mg) (a:FD K x st f od an sl oc kV dc pm cd ct) {ps:List Str}
  (hb:∀ (kV doc pm:Value) (an:Option EL) (cdv ct:Value) (us:List Value),us.length=ps.length->bindArgs (Gm x x (jr st) (yH st) (zi st) .none kV doc pm an cdv ct) ⟨us,[]⟩=pure (ps.zip us)):Def K mg x st ps :=
 ⟨f,_,mh a.2.1 a.2.2.1 a.2.2.2,(mh (st:=st) a.2.1 a.2.2.1 a.2.2.2).binds hb,GV X G a.1⟩
def PAm (w:World) (K:EI) (f:Fx) (Ds:List EL) (t:TA) (ρ:zw) (cs:List OC) (R:List DV->Prop):Prop:=Sep f Ds->∀ (σ:St) (H H2:Hp) (Q:List V->Hp->Prop),CM w K f Ds H2 ρ cs σ H->(∀ xs vs H',Goes (f.withs Ds) H H'->RepVs K (f.withs Ds) H' xs vs->R xs->Q vs H')->t σ H Q
section
variable {w:World} {K:EI} {f:Fx} {Ds:List EL} {ρ:zw} {cs:List OC} {te tk:TE} {t:TA} {O:MEnds} {i j:Nat} {R:List DV->Prop} {P:PyData->Prop} {es:List PyData}
theorem Ez (h:PAd K (f.withs Ds) t ρ R):PAm w K f Ds t ρ cs R:=fun se σ H H2 Q x q=>h σ H Q x.env q
theorem Ea (hi:ρ[i]?=some (some (.own (f.M.length+j)))) (hc:cs[j]?=some (.lst es)) (h:PEm w K f Ds tk ρ cs fun y=>∃ k,y=.int k/\∃ d,atI es k=some d/\P d):PEm w K f Ds (tOp (rR K) (yi i) tk) ρ cs P:=fun se σ H H2 Q x q=>by
 have hj:j<Ds.length:=by rw [<-x.len];exact (EH.mp hc).1
 have hD:Ds[j]?=some Ds[j]:=ED hj;refine⟨_,vn hi x hD,?_⟩;refine h se σ H H2 _ x fun y v H1 g1 r1 ⟨k,ey,d,hd,p⟩=>?_;subst ey;have x1:=x.go g1 (x.env.mono g1);obtain⟨vs,h1,h2⟩:=x1.own j _ _ hD hc;have:∃ u,atI vs k=some u/\Rep K (hide H1 (f.withs Ds)) d u:=by
  unfold atI at hd ⊢;rw [h2.length];cases e:ixN es.length k with
  | none=>rw [e] at hd;cases hd
  | some m =>
   rw [e] at hd;exact h2.get hd
 obtain⟨u,hu,ru⟩:=this;exact⟨Ds[j],vs,k,u,rfl,zt.mp r1,.inl (.inl h1),hu,q d u H1 g1 ru p⟩
end
section
variable {w:World} {K:EI} {f:Fx} {Ds:List EL} {ρ:zw} {cs:List OC} {O:MEnds} {i:Nat}
theorem Eb {v k:Int} (hi:ρ[i]?=some (some (.dat (.int v)))):PTd K f (nM (tOp (rW K false) (yi i) (tC (.int k)))) ρ fun b=>b=decide (v=k) :=
 yV (aL (zq hi (yE ⟨rfl,rfl,by show min 0 0<=60;decide,_,rfl,rfl⟩)))
end
end L2
end
section
namespace L2
open PySem PySem.Spec PyProof.Rows
noncomputable def aI:Nat:=2 ^ 9000
theorem vo {n m:Nat} (h:n<2 ^ m) (hm:m<=9000):n<aI:=Fb h (Hs (by decide) hm)
theorem cw {k:Int} (h:k.natAbs<aI):HN k<=9000:=by
 unfold HN;split
 ·exact Ft _
 ·have:k.natAbs.log2<9000:=by
   rcases Nat.eq_zero_or_pos k.natAbs with h0 | hp
   ·rw [h0];decide
   ·exact (Ko (Hy hp)).mpr h
  omega
def CMulH (i j:Int):Prop:=i.natAbs<aI/\j.natAbs<aI
theorem CMulH.ok {i j:Int} (h:CMulH i j):IntMulOk i j:=by
 have e1:=cw h.1;have e2:=cw h.2;have:JO ((HN i:Int)+(HN j:Int))=false:=by
  unfold JO;refine Ky ?_;have:(100000:Int)<=(bitsLine:Int):=by decide +kernel
  omega
 unfold IntMulOk;rw [this,Gv];exact EG
theorem yv {X:Cx}:OpR X (binaryOp .Mult) (rI CMulH fun i j=>.int (i * j)):=opI fun _ _ _ _ _ _ _ hc q=>mul_int q hc.ok
def BM (_ j:Int):Prop:=j≠0/\j.natAbs<aI
theorem bM {X:Cx}:OpR X (binaryOp .FloorDiv) (rI BM fun i j=>.int (i.fdiv j)):=opI fun i j _ _ _ _ _ hc q=>by
 obtain⟨h1,h2⟩:=hc;refine floordiv_int h1 q (.inl (Jk ?_));exact (Ko (by omega)).mpr h2
noncomputable def C4 (q:Rat):PyData:=.tuple [.int q.num,.int (q.den:Nat)]
theorem eJ {g t:Int} (h:g≠0):(g * t).fdiv g=t:=by
 rw [Int.mul_fdiv_cancel_left _ h]
theorem sP {t b:Int} (hb:b≠0):(t.fdiv (b.sign * (Gg t b:Int))=(I9 t b).num)/\(b.fdiv (b.sign * (Gg t b:Int))=((I9 t b).den:Int)):=by
 have gp:0<Gg t b:=IL t hb;have g0:((Gg t b:Nat):Int)≠0:=by omega
 obtain⟨u,hu⟩:=Int.gcd_dvd_left t b;obtain⟨v,hv⟩:=Int.gcd_dvd_right t b;have ss:b.sign * b.sign=1:=by
  rcases GK b 0 with h | h | h
  ·rw [Gx h];rfl
  ·exact absurd h hb
  ·rw [GU h];rfl
 have s0:b.sign * ((Gg t b:Nat):Int)≠0:=Int.mul_ne_zero (fun z=>by rw [z] at ss;cases ss) g0;refine⟨?_,?_⟩
 ·rw [Rat.num_divInt,Int.gcd_comm b t];have e1:t=b.sign * ((Gg t b:Nat):Int) * (b.sign * u):=by
   rw [show b.sign * ((Gg t b:Nat):Int) * (b.sign * u)=(b.sign * b.sign) * (((Gg t b:Nat):Int) * u) by grind,ss,JY,<- hu]
  have e2:b.sign * t=((Gg t b:Nat):Int) * (b.sign * u):=by rw [show ((Gg t b:Nat):Int) * (b.sign * u)=b.sign * (((Gg t b:Nat):Int) * u) by grind,<- hu]
  rw [e2,HV _ g0];generalize hG:b.sign * ((Gg t b:Nat):Int)=G at *;rw [e1];exact eJ s0
 ·rw [JZ,Kv hb,Int.gcd_comm b t];have e1:b=b.sign * ((Gg t b:Nat):Int) * (b.sign * v):=by
   rw [show b.sign * ((Gg t b:Nat):Int) * (b.sign * v)=(b.sign * b.sign) * (((Gg t b:Nat):Int) * v) by grind,ss,JY,<- hv]
  have e3:(b.natAbs:Int)=((Gg t b:Nat):Int) * (b.sign * v):=by
   rw [show ((Gg t b:Nat):Int) * (b.sign * v)=b.sign * (((Gg t b:Nat):Int) * v) by grind,<- hv];rcases GK b 0 with h | h | h
   ·rw [Gx h];omega
   ·exact absurd h hb
   ·rw [GU h];omega
  rw [Int.natCast_ediv,e3,HV _ g0];have key:∀ G X:Int,G≠0->b=G * X->b.fdiv G=X:=fun G X h e=>by rw [e];exact eJ h
  exact key _ _ s0 e1
theorem mJ (t b:Int):(I9 t b).num.natAbs<=t.natAbs:=by
 rw [Rat.num_divInt];refine Fm (Int.natAbs_ediv_le_natAbs _ _) ?_;rw [Im];refine Fm (Nat.mul_le_mul_right _ (show b.sign.natAbs<=1 from ?_)) (by rw [Nat.one_mul];exact EN _);rcases GK b 0 with h | h | h
 ·rw [Gx h];decide
 ·rw [h];decide
 ·rw [GU h];decide
theorem mK {t b:Int} (h:b≠0):(I9 t b).den<=b.natAbs:=by
 rw [JZ,Kv h];exact Nat.div_le_self _ _
section
variable {K:EI} {f:Fx} {ρ:zw} {R:zw->Prop} {P:PyData->Prop} {i j m:Nat}
theorem Ec {a b:PyData} (h:R ((ρ.set i (some (.dat a))).set j (some (.dat b)))):PGd K f (t8 K 2 (dH (jD i) (dH (jD j) xN))) (.tuple [a,b]) ρ R:=ju rfl (zy (zp (zy (zp (yx h)))))
theorem EA {a b c:PyData} (h:R (((ρ.set i (some (.dat a))).set j (some (.dat b))).set m (some (.dat c)))):PGd K f (t8 K 3 (dH (jD i) (dH (jD j) (dH (jD m) xN)))) (.tuple [a,b,c]) ρ R:=ju rfl (zy (zp (zy (zp (zy (zp (yx h)))))))
theorem Ee {C:Int->Int->Prop} {g:Int->Int->Int} {a b:Int} (hi:ρ[i]?=some (some (.dat (.int a)))) (hj:ρ[j]?=some (some (.dat (.int b)))) (c:C a b) (p:P (.int (g a b))):PEd K f (tOp (rI C fun i j=>.int (g i j)) (yi i) (yi j)) ρ P:=yP (zq hi ⟨_,rfl,zq hj ⟨_,rfl,c,p⟩⟩)
end
end L2
end
section
open PySem PySem.Spec PyProof.Rows
namespace L2
end L2
end
section
namespace L2
open PySem PySem.Spec PyProof.Rows
end L2
end
section
namespace L2
open PySem PySem.Spec PyProof.Rows
end L2
end
section
namespace L2
open PySem PySem.Spec PyProof.Rows
structure TQ (K:EI) (f:Fx) (a:EL) (as:List EL) (H2:Hp) (ρ:zw) (Kt:List (List PyData)) (σ:St) (H:Hp):Prop where
 env:EnvOk K (f.withs (a :: as)) ρ σ H
 sm:Same (hide H2 (f.withs (a :: as))) (hide H (f.withs (a :: as)))
 kp:∀ b∈f.M,H b=H2 b
 top:H a=some (.lst (as.map .ref))
 nd:(a :: as).Nodup
 len:as.length=Kt.length
 row:∀ (i:Nat) x r,as[i]?=some x->Kt[i]?=some r->∃ vs,H x=some (.lst vs)/\Reps K (hide H (f.withs (a :: as))) r vs
end L2
end
section
namespace L2
open PySem PySem.Spec PyProof.Rows
inductive PEs (X:Cx):List (Expr×Expr)->List (TE×TE)->Prop where
 | nil:PEs X [] []
 | cons {k v:Expr} {tk tv:TE} {es:List (Expr×Expr)} {ts:List (TE×TE)}:PE X k tk->PE X v tv->PEs X es ts->PEs X ((k,v) :: es) ((tk,tv) :: ts)
inductive RelPs:List (V×V)->List (Value×Value)->Prop where
 | nil:RelPs [] []
 | cons {k v:V} {a b:Value} {l:List (V×V)} {us:List (Value×Value)}:RelV k a->RelV v b->RelPs l us->RelPs ((k,v) :: l) ((a,b) :: us)
inductive RepP (K:EI) (Hh:Hp):List (PyData×PyData)->List (V×V)->Prop where
 | nil:RepP K Hh [] []
 | cons {k v:PyData} {a b:V} {l:List (PyData×PyData)} {us:List (V×V)}:Rep K Hh k a->Rep K Hh v b->RepP K Hh l us->RepP K Hh ((k,v) :: l) ((a,b) :: us)
end L2
end
section
set_option maxHeartbeats 400000
namespace L2
open PySem PySem.Spec PyProof.Rows
structure PEw (X:Cx) (e:Expr) (t:TE):Prop where
 pe:PE X e t
structure PEsW (X:Cx) (es:List (Expr×Expr)) (ts:List (TE×TE)):Prop where
 pes:PEs X es ts
structure CSo (w:World) (K:EI) (f:Fx) (D:EL) (H2:Hp) (ρ':zw) (kvs:List (PyData×PyData)) (σ:St) (H:Hp):Prop where
 env:EnvOk K (f.with D) ρ' σ H
 sm:Same (hide H2 (f.with D)) (hide H (f.with D))
 kp:∀ b∈f.M,H b=H2 b
 own:OwnAt w K (hide H (f.with D)) H D (.dic kvs)
end L2
end
section
namespace L2
open PySem PySem.Spec PyProof.Rows PySem.SetTable
end L2
end
section
namespace L2
open PySem PySem.Spec PyProof.Rows PySem.SetTable
noncomputable def byT (w:World):Bool:=w.params.followText "set-order"
structure ISet (w:World) (h:Heap) (a:EL) (xs:List (Int×Tok)) (o:Obj) (es:Array (Int×Value)) (ep:Nat) (t:SetTable):Prop where
 ob:h.get? a=some o
 ex:o.ExactSet
 da:o.data=.set es ep t
 el:es.toList=xs.map fun x=>(hashInt x.1,Value.int x.1 x.2)
 ok:ST.TOk t (xs.map fun x=>hashInt x.1)
 pl:t.plain=true
 ld:byT w=true \/ t.led=true
end L2
end
section
namespace L2
open PySem PySem.Spec PyProof.Rows PySem.SetTable
end L2
end
section
namespace L2
open PySem PySem.Spec PyProof.Rows PySem.SetTable PySem.W
end L2
end
section
namespace L2
open PySem PySem.Spec PyProof.Rows
end L2
end
section
namespace L2
open PySem PySem.Spec PyProof.Rows
structure TV (K:EI) (f:Fx) (H0:Hp) (a:EL) (as:List EL) (ρ:zw) (Kt:List (List Int)) (σ:St) (H:Hp):Prop where
 env:EnvOk K (f.withs (a :: as)) ρ σ H
 go:Goes f H0 H
 na:H0 a=none
 nas:∀ x∈as,H0 x=none
 tab:TabAt H a as Kt
end L2
end
section
namespace L2
open PySem PySem.Spec PyProof.Rows
theorem h9 {a b:Int} {s t:Tok} {c:Value}:∀ (l:List Value),TriplesOk l->TriplesOk (l++[.int a s,.int b t,c]):=by
 intro l
 fun_induction TriplesOk l with
 | case1=>intro _;trivial
 | case2 _ _ _ _ _ r ih=>intro h;exact ih h
 | case3=>intro h;exact h.elim
theorem mL {pos:Pos} {a b:Int} {s t:Tok} {c cv:Value}:∀ (l:List Value),TriplesOk l->codeAmong pos (l++[.int a s,.int b t,c])=some cv->codeAmong pos l=some cv \/ cv=c:=by
 intro l
 fun_induction TriplesOk l with
 | case1 =>
  intro _ h;have h':(if a == pos.line && b == pos.col then some c else codeAmong pos [])=some cv:=h;split at h'
  ·cases h';exact .inr rfl
  ·cases h'
 | case2 i ti j tj v r ih =>
  intro h0 h;have h':(if i == pos.line && j == pos.col then some v else codeAmong pos (r++[.int a s,.int b t,c]))=some cv:=h;show (if i == pos.line && j == pos.col then some v else codeAmong pos r)=some cv \/ _;split at h'
  ·rename_i q;rw [Kw q];exact .inl h'
  ·rename_i q;rw [Kv q];exact ih h0 h'
 | case3=>intro h;exact h.elim
section
variable {X:Cx} {Ku:List (EL×Obj)} {σ:St} {H:Hp} {s:Shared}
theorem Inv.tabAt (I:Inv X Ku σ H s) {c P:EL} {q:Str} (hq:q∈aq) (h1:FW X.K c P=true) (h2:FU X.K (.ref c) q=true):H P=some (.tbl (lamQ q)) :=
 I.env0.tabs c P q hq h1 h2
theorem Inv.bltAt (I:Inv X Ku σ H s) {P:EL} {ps:Array Value} (hP:s.heap.get? P=some (G8 ps)):s.heap.BuiltinsAt X.mg P:=by
 obtain⟨b,o,h1,h2,h3,h4,h5,h6⟩:=I.ok.mod.bm;have h3':=I.bk _ _ h3;refine⟨b,o,h1,h2,fun e=>?_,fun e=>?_,h3',h4,h5,h6⟩
 ·obtain⟨u,es,ep,e1,d,_⟩:=I.ok.mod.glob.keeps I.bk;rw [e,e1] at h3';cases h3';rw [h6] at d;cases d
 ·rw [e,hP] at h3';cases h3';cases h6
theorem wt {params:Arguments} {body:Expr} {sc:Scope} {pos:Pos} {c P:EL} {q:Str} {clos:List (Str×EL)} {Q:Value->Shared->Prop} {E:Value->Shared->Prop} (I:Inv X Ku σ H s)
  (hq:q∈aq) (hc:X.env.code=.ref c) (h1:FW X.K c P=true) (h2:FU X.K (.ref c) q=true) (hqu:X.env.qual ++ "<lambda>"=lamQ q)
  (hcl:closureFor sc X.env=pure clos) (hdef:defaultsOf params X.env=([],[]))
  (h:∀ f c' pm ctv s' H',Inv X Ku σ H' s'->Same H H'->s'.heap.get? f=some (JL "<lambda>" (lamQ q) params body sc clos pm c' ctv)->s'.heap.CodeRec (.ref c') (lamQ q)->Q (.ref f) s') :
  Fd (model X.prog X.w) X.A (eval (.Lambda params body sc pos) X.env) Q E s:=by
 have hH:=I.tabAt hq h1 h2;obtain⟨ps,hP,tr,am⟩:=I.hok P _ hH;have gl:=I.ok.mod.glob.keeps I.bk;have C:=J7 I.kIn h1;refine PySem.W.kla_eval hdef ?_;rw [hqu];cases hf:codeAmong pos ps.toList with
 | some cv =>
  obtain⟨c',rfl,hc',rc⟩:=am pos cv hf;refine PySem.W.kla_makeFunctionHit hcl I.ok.glob gl hc C hP tr hf (I.bltAt hP) fun ctv h' tk k sz=>?_;refine h _ c' _ ctv _ H (I.kept (t':=tk) fun b u e=>EU _ (k b u e)) (Same.refl _) (Fn _ rfl) ?_;obtain⟨c2,oc,vs,tq,e1,e2,e3⟩:=rc;exact⟨c2,oc,vs,tq,e1,EU _ (k _ _ e2),e3⟩
 | none =>
  have hgP:Fh≠P:=fun e=>by
   obtain⟨u,es,ep,e1,d,_⟩:=gl;rw [e,hP] at e1;cases e1;cases d
  refine PySem.W.kla_makeFunction hcl I.ok.glob gl hc C hP tr hf hgP (I.bltAt hP) fun c' ctv h' tk hx hge hlt hrec htb=>?_;have hn:H c'=none:=I.hok.fresh hge;have nc:∀ b o,s.heap.get? b=some o->b≠c':=fun b o e=>Fp (Fb (E4 e) hge);have hPc:P≠c':=nc _ _ hP;have kp:∀ (ob:Obj) b o,b≠P->s.heap.get? b=some o->(h'.push ob).get? b=some o:=fun ob b o n e=>EU _ (hx b o n e);have tp:∀ ob:Obj,(h'.push ob).get? P=some (G8 (ps++#[rawInt pos.line,rawInt pos.col,.ref c'])):=fun ob=>EU _ htb;have hrec':∀ ob:Obj,(h'.push ob).CodeRec (.ref c') (lamQ q):=fun ob=>by
   obtain⟨c2,oc,vs,tq,e1,e2,e3⟩:=hrec;exact⟨c2,oc,vs,tq,e1,EU _ e2,e3⟩
  have sm:Same H (upd H c' (.own P)):=yf hn _;refine h _ c' _ ctv _ (upd H c' (.own P)) (I.un (t':=tk) ⟨fun b o e n _ _=>kp _ b o (fun z=>by rw [z,hH] at n;cases n) e,fun b o e n _ _=>⟨o.slots,kp _ b o (fun z=>by rw [z,hH] at n;cases n) e⟩,fun b o e n _=>by rw [zM (nc b o e)];exact n,fun b o e _=>?_,
   fun b xs e=>sm _ _ e,fun b o u e=>sm _ _ e,fun b z e=>sm _ _ e⟩ fun b o e=>?_) sm (Fn _ rfl) (hrec' _)
  ·by_cases hb:b=P
   ·subst hb;exact⟨_,tp _⟩
   ·exact⟨o,kp _ b o hb e⟩
  ·by_cases hb:b=c'
   ·subst hb;rw [zK] at e;cases e;obtain⟨c2,oc,vs,tq,e1,e2,e3⟩:=hrec' (JL "<lambda>" (lamQ q) params body sc clos ((X.mg "__name__").getD .none) b ctv);cases e1;exact⟨_,e2⟩
   ·rw [zM hb] at e;by_cases hbP:b=P
    ·subst hbP;rw [hH] at e;cases e;refine⟨_,tp _,?_,fun pos' cv z=>?_⟩
     ·rw [J8];exact h9 _ tr
     ·rw [J8] at z;rcases mL _ tr z with z | z
      ·obtain⟨c3,e1,e2,c4,oc,vs,tq,e3,e4,e5⟩:=am pos' cv z;cases e3;exact⟨c3,e1,sm _ _ e2,c3,oc,vs,tq,rfl,kp _ _ _ (fun w=>by rw [w,hH] at e2;cases e2) e4,e5⟩
      ·exact⟨c',z,zK,hrec' _⟩
    ·refine (I.hok b o e).stay (fun d u hd r=>kp _ d u ?_ r) (fun d r=>sm _ _ r) fun d xs r=>sm _ _ r;rcases hd with hd | hd
     ·rw [hd];exact hbP
     ·intro w;rw [w,hH] at hd;cases hd
end
def Reads (P:Program) (w:World) (env:Env) (h:Heap) (e:Expr) (R:Value->Prop):Prop :=
 ∀ (A:Around) (s:Shared) (Q:Value->Shared->Prop) (E:Value->Shared->Prop),s.heap=h->(∀ v tk,R v->Q v { s with toks:=tk })->Fd (model P w) A (eval e env) Q E s
section
variable {P:Program} {w:World} {env:Env} {h:Heap} {pos:Pos}
theorem wu {x:Str} {u:Value} {m:Str->Option Value} (hk:env.scope.kind=.function) (hx:env.kindOf x=some .local) (hn:h.Ns env.locals m) (hm:m x=some u) (hd:(x == ("__debug__":Str))=false:=by decide) :
  Reads P w env h (.Name x pos) (·=u):=fun A s Q E e q=>wpAny_Name (wpAny_loadName_local hk hx (by rw [e];exact hn) hm (q u s.toks rfl)) hd
theorem AG {x:Str} {u:Value} {c:EL} (hk:env.scope.kind=.function) (hx:env.kindOf x=some .free) (hc:env.cells.lookup x=some c) (hu:h.IsCell c (some u)) (hd:(x == ("__debug__":Str))=false:=by decide) (hcd:(x == ("__classdict__":Str))=false:=by decide) :
  Reads P w env h (.Name x pos) (·=u):=fun A s Q E e q=>wpAny_Name (wpAny_loadName_free hk hx hc (by rw [e];exact hu) (q u s.toks rfl) hcd) hd
theorem C5 {a b:Expr} {l:EL} {items:Array Value} {k:Int} {x:Value} (ha:Reads P w env h a (·=.ref l)) (hb:Reads P w env h b (fun v=>∃ t,v=.int k t)) (hl:h.IsList l items) (h0:0<=k) (hf:k<2 ^ 63) (hx:items[k.toNat]?=some x) (hs:gJ b) :
  Reads P w env h (.Subscript a b pos) (·=x):=fun A s Q E e q=>by
 refine Subscript_ (ha A s _ E e fun v tk ev=>?_);subst ev;refine hb A _ _ E e fun v tk ⟨t,ev⟩=>?_;subst ev;refine item_listR (items:=items) (by rw [<-e] at hl;exact hl) h0 hf hx ?_ (hs _ _);exact q x tk rfl
end
section
variable {P:Program} {w:World} {A:Around} {s:Shared} {f c:EL} {name qual x:Str} {params:Arguments} {body:Expr} {sc:Scope} {clos:List (Str×EL)} {pm ctv v:Value} {R:Value->Prop} {Q:Value->Shared->Prop} {E:Value->Shared->Prop}
theorem AH (ho:s.heap.get? f=some (JL name qual params body sc clos pm c ctv)) (hcd:s.heap.CodeRec (.ref c) qual) (hroom:A.depth<recursionLimit) (lim:s.heap.NoLimit)
  (hb:bindArgs (PySem.W.kla_fn name qual params body sc clos pm (.ref c) ctv) ⟨[v],[]⟩=pure [(x,v)]) (hx:sc.names.lookup x=some .local) (hcell:∀ y∈sc.names,y.2≠.cell) (hco:sc.isCoroutine=false) (hgen:sc.isGenerator=false) (hk:sc.kind=.function)
  (hr:∀ h₁:Heap,h₁.Ns s.heap.objs.size (fun y=>[(x,v)].reverse.lookup y)->(∀ b o,s.heap.get? b=some o->h₁.get? b=some o)->Reads P w (PySem.W.envX qual sc s.heap.objs.size f (.ref c) clos) h₁ body R)
  (hq:∀ (u:Value) (h₁:Heap) tk,R u->(∀ b o,s.heap.get? b=some o->h₁.get? b=some o)->Q u { s with heap:=h₁,toks:=tk }) :
  Fd (model P w) A (call (.ref f) [v]) Q E s:=by
 refine wpAny_call (PySem.W.kla_callFunE hroom ho rfl hco hgen rfl hcd ?_);rw [hb];refine ES (wpAny_newFunctionEnv hcell (fun y hy=>?_) (fun h₁ hns hsb=>?_) hk)
 ·rw [Fc.mp hy];exact hx
 have hk₁:∀ b o,s.heap.get? b=some o->h₁.get? b=some o:=fun b o e=>hsb.extBut b o (Fp (E4 e)) (EU _ e);refine⟨lim.keeps hk₁,PySem.W.kla_codeExpr ?_⟩;exact hr h₁ hns hk₁ _ _ _ _ rfl fun u tk ru=>hq u h₁ tk ru hk₁
end
noncomputable def ixK (ks ns:List Int) (i:Nat):Int:=ks.getD (ns.getD i 0).toNat 0
def jY (ks ns:List Int) (M:Int):Prop:=∃ i:Nat,ns[i]?=some M/\∀ j,j<ns.length->ixK ks ns i<=ixK ks ns j/\(j<i->ixK ks ns i<ixK ks ns j)
def BN (K:EI) (jy:Nat) (t:TA):TE:=fun σ H Q=>t σ H fun vs H1=>∃ l ns a ks,vs=[.ref l]/\SqL K H1 l (ns.map V.int)/\ns≠[]/\σ[jy]?=some (some (.ref a))/\SqL K H1 a (ks.map V.int)/\(∀ n∈ns,0<=n/\n.toNat<ks.length)/\∀ H' M,Same H1 H'->jY ks ns M->Q (.int M) H'
section
variable {X:Cx} {p pos lpos kpos ypos xpos spos:Pos} {e:Expr} {t:TA} {x y q:Str} {params:Arguments} {sc:Scope} {c P:EL} {jy k:Nat}
theorem sQ {K:EI} (hK:X.K=K) (hr:Room (k+1) X.A) (hg:Gl X "min") (hm:X.mg "min"=none) (ha:PA X [e] t)
  (hq:q∈aq) (hc:X.env.code=.ref c) (h1:FW K c P=true) (h2:FU K (.ref c) q=true) (hqu:X.env.qual ++ "<lambda>"=lamQ q)
  (hfr0:∀ p∈sc.names,p.2=.free->X.env.scope.names.lookup p.1=some .cell)
  (hdef:defaultsOf params X.env=([],[]))
  (hb:∀ (pm ctv v:Value) (cd:EL) clos,bindArgs (PySem.W.kla_fn "<lambda>" (lamQ q) params (.Subscript (.Name y ypos) (.Name x xpos) spos) sc clos pm (.ref cd) ctv) ⟨[v],[]⟩=pure [(x,v)])
  (hx:sc.names.lookup x=some .local) (hy:sc.names.lookup y=some .free) (hcell:∀ z∈sc.names,z.2≠.cell) (hco:sc.isCoroutine=false) (hgen:sc.isGenerator=false) (hk:sc.kind=.function)
  (hN:X.N[jy]?=some y) (hyo:X.env.scope.names.lookup y=some .cell)
  (hv:bootBuiltins "min"=some (.builtin "min"):=by rfl)
  (hst:FA [e] X.env=(false,eval e X.env) :: FA [] X.env:=by rfl) (hpl:(backTo pos (FA [] X.env)).any (·.1)=false:=by rfl)
  (hxd:(x == ("__debug__":Str))=false:=by decide) (hyd:(y == ("__debug__":Str))=false:=by decide) (hyc:(y == ("__classdict__":Str))=false:=by decide) :
  PE X (.Call (.Name "min" p) [e] [⟨some "key",.Lambda params (.Subscript (.Name y ypos) (.Name x xpos) spos) sc lpos,kpos⟩] pos) (BN K jy t):=by
 subst hK;intro Ku s σ H Q I h;have hfr:∀ z,(z,NameKind.free)∈sc.names->∃ d,X.env.cells.lookup z=some d:=fun z hz=>I.ok.has z (.inl (hfr0 _ hz rfl));have hcl:=dQ hfr;refine wpAny_Call_Name_kw (aR I hg hm hv ?_);refine callWith_kw ?_ ?_ ?_
 rotate_left
 ·rw [hst];rfl
 ·rw [hst];exact hpl
 refine thn (ha pos Ku s σ H _ I h) fun us s1 ⟨vs,H1,I1,r,q1⟩=>?_;obtain⟨l,ns,a,ks,rfl,hl,hne,ha,hks,hin,q1⟩:=q1;obtain⟨u,rfl,ru⟩:=vals1 r;cases ru;refine wpAny_evalAll_cons (EJ (wt I1 hq hc h1 h2 hqu hcl hdef fun f c' pm ctv s2 H2 I2 sm ho hcd=>?_));refine EJ (wpAny_standAt (ES (wpAny_evalAll_nil ?_)));obtain⟨its,rv,pl,_⟩:=I2.list (sm.seq hl);obtain⟨its2,rv2,pl2,z2⟩:=I2.list (sm.seq hks);obtain⟨m,hn,hlo⟩:=id I2.loc;obtain⟨ua,rua,lk⟩:=hlo jy y (.ref a) hN ha (.inr (.inl hyo));cases rua;obtain⟨cy,ecy,icy⟩:∃ cy,X.env.cells.lookup y=some cy/\s2.heap.IsCell cy (some (.ref a)):=by
  rcases lk with⟨k1,_⟩ | ⟨_,cy,h3,h4⟩
  ·have k1':X.env.scope.names.lookup y=some .local:=k1;rw [hyo] at k1';cases k1'
  ·exact⟨cy,h3,h4⟩
 have lenV:=rv.length;rw [EF] at lenV;have lenV2:=rv2.length;rw [EF] at lenV2;have hpos:0<its.length:=by
  rw [<-lenV];cases ns with
  | nil=>exact absurd rfl hne
  | cons _ _=>exact HB _
 have lne:∀ {b:EL} {is:Array Value},s2.heap.IsList b is->b≠X.env.locals:=fun {b is} il e=>by
  obtain⟨o,h3,h4,n5,h5⟩:=il;obtain⟨o',es,ep,h6,h7,_⟩:=hn;rw [e,h6] at h3;cases h3;rw [h7] at h5;cases h5
 have fne:f≠X.env.locals:=fun e=>by
  obtain⟨o',es,ep,h6,h7,_⟩:=hn;rw [e,h6] at ho;cases ho;cases h7
 have cne:∀ {b:EL} {o:Obj} {vs:Array Value},s2.heap.get? b=some o->o.data=.fields vs->b≠X.env.locals:=fun {b o vs} e1 e2 e=>by
  obtain⟨o',es,ep,h6,h7,_⟩:=hn;rw [e,h6] at e1;cases e1;rw [h7] at e2;cases e2
 have itI:∀ {i:Nat} {v:Value},its[i]?=some v->∃ n t,ns[i]?=some n/\v=.int n t:=fun {i v} e=>by
  have hi:i<ns.length:=by rw [lenV];exact (EH.mp e).1
  obtain⟨u,e1,e2⟩:=rv.get (i:=i) (x:=.int ns[i]) (by rw [EO,ED hi];rfl);rw [e] at e1;cases e1;obtain⟨t,rfl⟩:=e2;exact⟨_,t,ED hi,rfl⟩
 have itK:∀ {n:Int},n∈ns->∃ t,its2[n.toNat]?=some (.int (ks.getD n.toNat 0) t):=fun {n} hn=>by
  have hi:=(hin n hn).2;obtain⟨u,e1,e2⟩:=rv2.get (i:=n.toNat) (x:=.int ks[n.toNat]) (by rw [EO,ED hi];rfl);obtain⟨t,rfl⟩:=e2;exact⟨t,by rw [e1,EE,ED hi];rfl⟩
 have back:∀ {h:Heap} {tk:Nat} {own:List (EL×Obj)},Fr (Att.noObjs s2.heap) X.env.locals h m->News (Att.noObjs s2.heap) X.env.locals h (ao (Att.noObjs s2.heap) s2.heap X.env.locals++own) ->
   (∀ b o,b≠X.env.locals->s2.heap.get? b=some o->h.get? b=some o)/\Inv X Ku σ H2 { s2 with heap:=h,toks:=tk }:=fun {h tk own} F' N'=>by
  have kp:∀ b o,b≠X.env.locals->s2.heap.get? b=some o->h.get? b=some o:=fun b o nb e=>(N' (b,o) (FE _ (cI nb (Att.noObjs_get _ _) e))).1;refine⟨kp,I2.keptL (t':=tk) kp ?_ fun m' hm'=>?_⟩
  ·obtain⟨o',es,ep,h6,_⟩:=F'.ns;exact⟨o',h6⟩
  ·have:m'=m:=by
    obtain⟨o,es,ep,ho,hd,_,hf⟩:=hn;obtain⟨o',es',ep',ho',hd',_,hf'⟩:=hm';rw [ho] at ho';cases ho';rw [hd] at hd';cases hd'
    funext n
    rw [<-hf n,<- hf' n]
   rw [this];exact F'.ns
 show Fd _ _ (call (.builtin "min") [.ref l] [(Ki "key",.ref f)]) _ _ s2;refine kmk_min (h₀:=Att.noObjs s2.heap) (L:=X.env.locals) (m:=m) (news:=ao (Att.noObjs s2.heap) s2.heap X.env.locals) (vs:=its) (ixK ks ns) hr.hd (Att.fr_all hn) tZ (fun h F' N'=>?_) hpos (fun i v hv h tk own F' N'=>?_) fun i v h' tk' hv hbest F' N'=>?_
 ·obtain⟨o,h3,h4⟩:=pl.isList;exact⟨o,(N' (l,o) (cI (lne pl.isList) (Att.noObjs_get _ _) h3)).1,h4⟩
 ·obtain⟨kp,I3⟩:=back (tk:=tk) F' N';obtain⟨n,t,en,rfl⟩:=itI hv;have hnm:=EK en;obtain⟨tw,ew⟩:=itK hnm;have ek:ixK ks ns i=ks.getD n.toNat 0:=by unfold ixK;rw [EE (l:=ns),en];rfl
  refine AH (x:=x) (R:=(·=.int (ks.getD n.toNat 0) tw)) (kp _ _ fne ho) ?_ hr.in1.depth I3.nolimit (hb _ _ _ _ _) hx hcell hco hgen hk (fun h₁ hns k4=>?_) fun u h₁ tk1 eu k4=>?_
  ·obtain⟨c2,oc,vs,tq,e1,e2,e3,e4⟩:=hcd;exact⟨c2,oc,vs,tq,e1,kp _ _ (cne e2 e3) e2,e3,e4⟩
  ·refine C5 (l:=a) (items:=its2.toArray) (k:=n) (AG (c:=cy) hk hy (vV hfr (mem_of_lookup hy) ecy) ?_ hyd hyc) (fun A s Q E e q'=>wu (env:=PySem.W.envX (lamQ q) sc h.objs.size f (.ref c') (yp X.env sc.names [])) (u:=.int n t) hk hx hns (by simp) hxd A s Q E e fun v tk ev=>q' v tk ⟨t,ev⟩) ?_ (hin n hnm).1 ?_ (by simpa using ew) (fun _ _=>rfl)
   ·obtain⟨o,e1,e2⟩:=icy;exact⟨o,k4 _ _ (kp _ _ (I2.cne y cy ecy) e1),e2⟩
   ·obtain⟨o,h3,h4⟩:=pl2.isList;exact⟨o,k4 _ _ (kp _ _ (lne pl2.isList) h3),h4⟩
   ·have h3:=(hin n hnm).2;have h4:=(hin n hnm).1;have h5:ks.length<=Fu:=by rw [EF] at z2;exact z2
    have:=b7;omega
  ·subst eu;rw [ek];exact⟨h₁,tk1,tw,rfl,rfl,⟨F'.ns.keeps k4,fun b o e=>k4 _ _ (F'.keep b o e),F'.above⟩,N'.grown k4⟩
 ·obtain⟨kp,I3⟩:=back (own:=[]) (tk:=tk') F' (by rw [FT];exact N');obtain⟨n,t,en,rfl⟩:=itI hv;exact⟨.int n,H2,I3,⟨t,rfl⟩,q1 H2 n sm ⟨i,en,fun j hj=>hbest j (by rw [<-lenV];exact hj)⟩⟩
end
theorem cz {β:Type}:∀ {l:List (Nat×β)} {x:Nat} {y:β},l.lookup x=some y->(x,y)∈l
 | [],_,_,h=>by cases h
 | (a,b) :: r,x,y,h=>by
  rw [FK] at h;cases e:x == a with
  | true=>rw [e] at h;cases h;rw [beq_iff_eq.mp e];exact ET
  | false=>rw [e] at h;exact EM _ (cz h)
noncomputable def bN (K:EI) (ts:List (EL×Str)):Bool :=
 ts.all (fun p=>(K.lookup p.1).isNone && K.any fun c=>FW K c.1 p.1) && K.all fun x=>match x.2.data with
  | .fields vs=>(match (vs[1]?:Option Value),(vs[11]?:Option Value) with
   | some (.str q _),some (.ref P)=>!aq.contains q || decide (ts.lookup P=some (lamQ q))
   | _,_=>true)
  | _=>true
theorem C6 {K:EI} {h:Heap} (X:K.In h) {ts:List (EL×Str)} (hB:bN K ts=true) {c P:EL} {q:Str} (hq:q∈aq) (h1:FW K c P=true) (h2:FU K (.ref c) q=true):ts.lookup P=some (lamQ q):=by
 unfold bN at hB;rw [EV] at hB;obtain⟨c2,oc,us,tq,z1,z2,z3,z4⟩:=PySem.W.codeRec_of X h2;cases z1;unfold FW at h1;split at h1
 ·rename_i vs _ hk;have hm:=GD.mp hB.2 _ (cz hk);dsimp only at hm;have z5:=X _ _ hk;rw [z2] at z5;cases z5;cases z3;have e11:(us[11]?:Option Value)=some (.ref P):=by
   simp only [EV] at h1;obtain⟨⟨⟨⟨⟨e1,_⟩,_⟩,_⟩,_⟩,_⟩:=h1;split at e1
   ·rename_i P' h11;rw [h11,beq_iff_eq.mp e1]
   ·cases e1
  rw [z4,e11] at hm;simp only [Bool.or_eq_true,Bool.not_eq_true'] at hm;rcases hm with z | z
  ·have:=List.contains_iff_mem.mpr hq;rw [this] at z;cases z
  ·exact of_decide_eq_true z
 ·cases h1
noncomputable def fY (ts:List (EL×Str)) (tr:Bool) (a:EL) (o:Obj) (xs:List V):Hp:=fun b=>match ts.lookup b with
 | some q=>some (.tbl q)
 | none=>if tr=true/\b=a then some (.frz o (.lst xs)) else none
theorem sR {ts:List (EL×Str)} {tr:Bool} {a b:EL} {o:Obj} {xs:List V} {q:Str} (h:ts.lookup b=some q):fY ts tr a o xs b=some (.tbl q):=by unfold fY;rw [h]
theorem wx {ts:List (EL×Str)} {tr:Bool} {a b:EL} {o:Obj} {xs:List V} {u:HO} (h:fY ts tr a o xs b=some u):(∃ q,ts.lookup b=some q/\u=.tbl q) \/ (tr=true/\b=a/\u=.frz o (.lst xs)):=by
 unfold fY at h;cases e:ts.lookup b with
 | some q=>rw [e] at h;cases h;exact .inl ⟨q,rfl,rfl⟩
 | none =>
  rw [e] at h;dsimp only at h;split at h
  ·rename_i z;cases h;exact .inr ⟨z.1,z.2,rfl⟩
  ·cases h
theorem sS {P:Program} {w:World} {K:EI} {mg mb:Str->Option Value} {CX:CXT} {k:Nat} {fa a:EL} {fd:FuncData} {x:Str} {sp:Sp} {s₁:Shared} {vs:List Value} {ns:List Int} {ts:List (EL×Str)}
  (hB:bN K ts=true) (hts:∀ p∈ts,s₁.heap.get? p.1=some (G8 #[])) (hbm:∃ b o,mg "__builtins__"=some (.ref b)/\b≠builtinsNs/\s₁.heap.get? b=some o/\o.cls=.type "module"/\o.dict=some builtinsNs/\o.data=.plain)
  (KX:K.In s₁.heap) (hns:s₁.heap.Ns Fh mg) (hb:s₁.heap.Ns builtinsNs mb) (hbb:∀ x:Str,x ≠ "__name__"->mb x=bootBuiltins x) (hlim:s₁.heap.NoLimit) (hg:s₁.gens=#[])
  (ha:s₁.heap.get? a=some { cls:=.type "list",data:=.seq vs.toArray }) (hi:IntsAre vs ns) (hl:ns.length<=Fu) (hr:Room k callerA)
  (F:∀ base:Heap,K.In base->base.Ns Fh mg->FnOk P w K mg base CX k fa fd [x] sp) (hbind:∀ (s:Shared) (u:Value),BindsTo s fd ⟨[u],[]⟩ [(x,u)])
  (hsp:∀ H:Hp,SqL K H a (ns.map V.int)->sp [.ref a] H (fun v _=>v=.bl true) fun _ _ _=>False)
  (hCX:∀ H e s',CX [] H s₁ (fun _ _ _=>False) e s'->False) :
  codeAny (model P w) callerA (.call (.ref fa) ⟨[.ref a],[]⟩) (fun r s'=>r=.ok (.ret (.bool true))/\OldK s₁.heap s'.heap/\s'.os=s₁.os/\AllBare s'.gens) s₁:=by
 have rv:=fJ hi;have lenV:=hi.length;have hB1:∀ p∈ts,K.lookup p.1=none/\∃ c,FW K c p.1=true:=fun p hp=>by
  have h1:=GD.mp (EV _ _▸hB).1 p hp;rw [EV] at h1;obtain⟨c,_,hc⟩:=List.any_eq_true.mp h1.2;exact⟨HD.mp h1.1,c.1,hc⟩
 obtain⟨tr,htr⟩:∃ tr:Bool,tr=(K.lookup a).isNone:=⟨_,rfl⟩;generalize hH:fY ts tr a { cls:=.type "list",data:=.seq vs.toArray } (ns.map V.int)=H;have ofH:∀ {b u},H b=some u->(∃ q,(b,q)∈ts/\u=.tbl q/\s₁.heap.get? b=some (G8 #[])) \/ (tr=true/\b=a/\u=.frz { cls:=.type "list",data:=.seq vs.toArray } (.lst (ns.map V.int))):=fun {b u} e=>by
  rw [<-hH] at e;rcases wx e with⟨q,e1,e2⟩ | z
  ·exact .inl ⟨q,cz e1,e2,hts _ (cz e1)⟩
  ·exact .inr z
 have ataT:ts.lookup a=none:=by
  cases e:ts.lookup a with
  | none=>rfl
  | some q=>have:=hts _ (cz e);rw [ha] at this;cases this
 have hok:HOk P w H s₁.heap:=fun b u e=>by
  rcases ofH e with⟨q,e1,rfl,e3⟩ | ⟨e1,rfl,rfl⟩
  ·exact⟨#[],e3,trivial,fun pos cv z=>by cases z⟩
  ·exact⟨ha,by rw [EF];exact hl,vs,_,rv,ha⟩
 have free:∀ {b:EL} {o:Obj},s₁.heap.get? b=some o->(∀ vs,o.data≠.fields vs)->(∀ vs n,o.data≠.seq vs n)->H b=none:=fun {b o} e d1 d2=>by
  cases q:H b with
  | none=>rfl
  | some u =>
   rcases ofH q with⟨_,_,_,e3⟩ | ⟨_,rfl,_⟩
   ·rw [e] at e3;cases e3;exact absurd rfl (d1 _)
   ·rw [ha] at e;cases e;exact absurd rfl (d2 _ _)
 have nsK:∀ {b:EL} {m:Str->Option Value},s₁.heap.Ns b m->(iQ s₁.heap H).Ns b m:=fun {b m} ⟨o,es,ep,e,d,r⟩=>⟨o,es,ep,dE e (free e (fun _ z=>by rw [d] at z;cases z) fun _ _ z=>by rw [d] at z;cases z),d,r⟩;have hKb:K.In (iQ s₁.heap H):=fun b o e=>dE (KX b o e) (by
  cases q:H b with
  | none=>rfl
  | some u =>
   rcases ofH q with⟨_,e1,_,_⟩ | ⟨e1,rfl,_⟩
   ·rw [(hB1 _ e1).1] at e;cases e
   ·rw [htr,HD] at e1;rw [e1] at e;cases e)
 have hM:Mod K mg (iQ s₁.heap H):=⟨hKb,nsK hns,⟨mb,nsK hb,hbb⟩,let⟨mc,h1,h2⟩:=hlim;⟨mc,nsK h1,h2⟩,by
  obtain⟨b,o,h1,h2,h3,h4,h5,h6⟩:=hbm;exact⟨b,o,h1,h2,dE h3 (free h3 (fun _ z=>by rw [h6] at z;cases z) fun _ _ z=>by rw [h6] at z;cases z),h4,h5,h6⟩⟩
 have tabs:TabsOk K H:=fun c P q hq h1 h2=>by rw [<-hH];exact sR (C6 KX hB hq h1 h2)
 have e0:Env0 P w K mg (iQ s₁.heap H) callerA [] s₁ H:=⟨rfl,hM,fun b o e=>xJ e,HA (rK _ _),trivial,(fun b z=>by cases z),tabs,hok,.of_eq hg⟩;have hS:SqL K H a (ns.map V.int):=by
  cases hk:K.lookup a with
  | some o =>
   have e:=KX a o hk;rw [ha] at e;cases e;exact .inr ⟨_,vs.toArray,_,hk,rfl,rfl,rfl,by rw [E3,lenV];exact hl,by simpa using rv⟩
  | none =>
   refine .inl (.inr ⟨{ cls:=.type "list",data:=.seq vs.toArray },?_⟩);rw [<-hH];unfold fY;rw [ataT];exact Kw ⟨by rw [htr,hk];rfl,rfl⟩
 refine Km ((F _ hKb (nsK hns)).run callerA [] s₁ H ⟨[.ref a],[]⟩ [.ref a] [.ref a] _ _ hr e0 (hbind s₁ (.ref a)) (.cons rfl .nil) (hsp H hS)) fun r s' h=>?_;cases r with
 | error e=>exact (hCX H e s' h).elim
 | ok fl =>
  cases fl with
  | next=>exact Hf h
  | brk=>exact Hf h
  | cont=>exact Hf h
  | ret u =>
   obtain⟨v,H',os,bare,un,hok',r',rfl⟩:=h;obtain rfl:u=Value.bool true:=r';refine⟨rfl,⟨fun b o e=>?_,fun b o e=>un.there b o e (by simp)⟩,os,bare⟩;cases q:H b with
   | none=>exact .inl (un.keep b o e q (fun z=>by cases z) (fun z=>by cases z))
   | some u =>
    rcases ofH q with⟨qq,e1,rfl,e3⟩ | ⟨_,rfl,rfl⟩
    ·rw [e] at e3;cases e3;obtain⟨ps,e4,_⟩:=hok' b _ (un.tbls b _ q);obtain⟨c,hc⟩:=(hB1 _ e1).2;obtain⟨oc,us,_,_,_,_,_,_,_,c1,c2,c3,c4,_⟩:=J7 KX hc;refine .inr (.inl ⟨⟨c,oc,us,c1,c2,c3,c4⟩,rfl,#[],ps,rfl,?_⟩);rw [Array.empty_append];exact e4
    ·obtain⟨e1,_⟩:=hok b _ q;obtain⟨e2,_⟩:=hok' b _ (un.frzs b _ _ q);rw [e] at e1;cases e1;exact .inl e2
theorem walk_T {l:PySem.W.OpenLaw} {n k:Nat} {q:Program} {loose:List Str} {XP:(Str->Option Value)->Heap->Prop} {YP:World->Heap->Prop} {d:DefRec} {K:Params->EI} {CX:World->CXT} {sp:World->Sp} {x:Str} (ts:List (EL×Str))
  (hn:l.most=some n) (hn2:n<=Fu) (hdf:d.params.defaults=[]) (hr:Room k callerA)
  (hY:∀ (w:World) (h:Heap),YP w h->(K w.params).In h/\∀ p∈ts,h.get? p.1=some (G8 #[])) (hB:∀ w:World,bN (K w.params) ts=true)
  (F:∀ (w:World) (mg:Str->Option Value) (fa:EL) (h:Heap),(K w.params).In h->h.Ns Fh mg->mg d.name=some (.ref fa) ->
   ∃ fd:FuncData,(∀ (s:Shared) (u:Value),BindsTo s fd ⟨[u],[]⟩ [(x,u)]) /\
    ∀ base:Heap,(K w.params).In base->base.Ns Fh mg->FnOk l.prog w (K w.params) mg base (CX w) k fa fd [x] (sp w))
  (hsp:∀ (w:World) (H:Hp) (a:EL) (ns:List Int),ns.length<=n->SqL (K w.params) H a (ns.map V.int)->sp w [.ref a] H (fun v _=>v=.bl true) fun _ _ _=>False)
  (hCX:∀ (w:World) (H:Hp) (s:Shared) (e:Value) (s':Shared),CX w [] H s (fun _ _ _=>False) e s'->False) :
  PySem.W.WalkO q loose XP YP l.row.toRowW d [] (fun f vs=>PySem.call f vs):=by
 refine Att.attach_call hn hdf fun w s₀ s₁ mg mb fa o pm cd doc a vs ns G Y ho hd hcd hmg hobj hints hlen hg=>?_;obtain⟨KX,hts⟩:=hY w _ Y;obtain⟨fd,hb,hF⟩:=F w mg fa _ KX G.T.g hmg;exact sS (hB w) hts G.T.bmain KX G.T.g G.T.b G.T.builtins G.T.nolimit hg hobj hints (Fm hlen hn2) hr hF hb (fun H hS=>hsp w H a ns hlen hS) fun H e s'=>hCX w H s₁ e s'
noncomputable def oN (K:EI) (q:Str):Bool:=K.all fun x=>!FU K (.ref x.1) q || (match x.2.data with
 | .fields vs=>(match (vs[11]?:Option Value) with | some (.ref P)=>FW K x.1 P | _=>false)
 | _=>false)
theorem C7 {K:EI} {q:Str} {cdv:Value} (h:oN K q=true) (hc:FU K cdv q=true):∃ c P,cdv=.ref c/\FW K c P=true/\FU K (.ref c) q=true:=by
 have hc':=hc;unfold FU at hc';split at hc'
 ·rename_i c;split at hc'
  ·rename_i a b vs d hk;have h1:=GD.mp h _ (cz hk);dsimp only at h1;rw [hc] at h1;simp only [FX,Bool.false_or] at h1;split at h1
   ·rename_i P _;exact⟨c,P,rfl,h1,hc⟩
   ·cases h1
  ·cases hc'
 ·cases hc'
section
variable {P:Program} {w:World} {K:EI} {mg:Str->Option Value} {base:Heap} {j k n:Nat} {x:Str} {st:Stmt} {ps N:List Str} {γ:Type} {pre:γ->List DV->Prop} {post:γ->PyData->Prop} {sp:Sp}
theorem Def.okL (F:Def K mg x st ps) (S:FnScope N ps (zi st)) (hn:ps.length=n) (hl:oN K x=true)
  (h:∀ (fa c Pt:EL) (A:Around) (outer:List Env) (s:Shared) (H:Hp) (E:XK),FW K c Pt=true->FU K (.ref c) x=true->Room k (A.deeper (envOfC x (zi st) s.heap.objs.size fa (.ref c))) ->
   ∃ t,PSs (ye CX0 P w K mg base N x (zi st) fa (.ref c) A outer s H E).nox (yH st) t/\∀ (f:Fx) (xs:List DV) (c:γ),xs.length=n->pre c xs->PSd K f t (qU N xs) { nx:=fun _=>post c .none,rt:=post c }) :
  FnIn P w K mg base (k+1) x ps (spD K n pre post):=by
 obtain⟨fa,fd,F1,F2,F3⟩:=F.ex;refine⟨fa,fd,?_,F3,F1.kp,F2⟩;obtain⟨oc,od,kV,doc,pm,an,cdv,ct,osl,rfl,lk,hcd⟩:=F1.ex;obtain⟨c,Pt,rfl,l1,l2⟩:=C7 hl hcd;refine Bv lk hcd S (fun vs H Q E h=>?_) fun A outer s H vs Q E hr hs=>?_
 ·obtain⟨f,xs,c,r,hl,_⟩:=h;rw [r.length,hl,hn]
 ·obtain⟨f,xs,c,r,hl,fo,hp,q⟩:=hs;obtain⟨t,h1,h2⟩:=h fa _ Pt A outer s H E l1 l2 hr;exact⟨t,h1.nox,h2 f xs c hl hp (start N vs) H _ (qZ r fo) (fun _ _ H' g _ p=>q .none _ H' g (jM.mpr rfl) p) (fun d v H' g r p=>q d v H' g r p) (fun _ _ _ _ _ z=>z.elim) (fun _ _ _ _ _ z=>z.elim)⟩
end
section
variable {w:World} {K:EI} {f:Fx} {Ds:List EL} {ρ:zw} {cs:List OC} {t:TA} {jy j:Nat} {P:PyData->Prop} {ks:List Int}
theorem AI (hi:ρ[jy]?=some (some (.own (f.M.length+j)))) (hc:cs[j]?=some (.lst (ks.map .int))) (h:PAm w K f Ds t ρ cs fun xs=>∃ ns:List Int,xs=[.dat (.list (ns.map .int))]/\ns≠[]/\(∀ n∈ns,0<=n/\n.toNat<ks.length)/\∀ M,jY ks ns M->P (.int M)) :
  PEm w K f Ds (BN K jy t) ρ cs P:=fun se σ H H2 Q x q=>h se σ H H2 _ x fun xs vs H1 g1 r1 ⟨ns,ex,hne,hin,p⟩=>by
 subst ex;have hj:j<Ds.length:=by rw [<-x.len];exact (EH.mp hc).1
 have hD:Ds[j]?=some Ds[j]:=ED hj;have x1:=x.go g1 (x.env.mono g1);obtain⟨us,h1,h2⟩:=x1.own j _ _ hD hc;have eu:=h2.ints;subst eu;cases r1 with
 | cons r0 rt =>
  cases rt;obtain⟨l,ys,rfl,s1,s2⟩:=zG.mp (show Rep K _ (.list (ns.map .int)) _ from r0);have ey:=s2.ints;subst ey;exact⟨l,ns,Ds[j],ks,rfl,(zo _ _).seq s1,hne,vn hi x hD,.inl (.inl h1),hin,fun H' M sm lm=>q (.int M) _ H' (g1.trans (.of_same sm g1.2)) (zt.mpr rfl) (p M lm)⟩
end
section
variable {X:Cx}
def Ef (i j:Int):Prop:=j=2/\i.natAbs<2 ^ 1000
theorem jJ:OpR X (binaryOp .Pow) (rI Ef fun i j=>.int (i ^ j.toNat)):=opI fun _ _ _ _ _ _ _ hc q=>pow_int (by rw [hc.1];decide) (by
 have:=cw (vo hc.2 (by decide));rw [hc.1]
 omega) q
end
section
variable {w:World} {K:EI} {f:Fx} {Ds:List EL} {ρ:zw} {cs:List OC} {ta tb:TE} {P:PyData->Prop}
theorem C8 {g:Int->Int->Int} (h:PEm w K f Ds ta ρ cs fun x=>∃ i,x=.int i/\PEm w K f Ds tb ρ cs fun y=>∃ j,y=.int j/\P (.int (g i j))):PEm w K f Ds (tOp (rI0 fun i j=>.int (g i j)) ta tb) ρ cs P:=fun se σ H H2 Q x q =>
 h se σ H H2 _ x fun d v H1 g1 r1 ⟨i,ed,p1⟩=>p1 se σ H1 H2 _ (x.go g1 (x.env.mono g1)) fun d2 v2 H3 g3 r3 ⟨j,ed2,p3⟩=>by
  subst ed ed2;exact⟨i,j,zt.mp r1,zt.mp r3,q _ _ H3 (g1.trans g3) (zt.mpr rfl) p3⟩
end
end L2
end
section
namespace L2
open PySem PySem.Spec PyProof.Rows
end L2
end
section
namespace My
open PySem PySem.Spec PyProof.Rows L2
abbrev pf:List Str:=["rows","cut","gate"]
abbrev ph:List Str:=["rows"]
abbrev pj:List Str:=["rows","cut","cell"]
abbrev pq:List Str:=["rows","x","y"]
abbrev pz:List Str:=["a","b","c","d"]
abbrev pA:List Str:=["web"]
abbrev pB:List Str:=["rows","cut"]
abbrev pC:List Str:=["a","b","c"]
abbrev pE:List Str:=["gate","rows","cut"]
abbrev pF:List Str:=["one","other"]
abbrev pG:List Str:=["things"]
abbrev pH:List Str:=["rows","cut","point"]
abbrev pI:List Str:=["_law_feed_here","_law_many"]
abbrev pJ:List Str:=["word","path"]
abbrev pK:List Str:=["x","y"]
abbrev pL:List Str:=["rows","gate"]
abbrev pM:List Str:=["x","y","rows"]
abbrev pN:List Str:=["a","b","rows"]
abbrev pO:List Str:=["web","one","other"]
abbrev pP:List Str:=["web","first","second"]
abbrev pQ:List Str:=["ahead","between","behind"]
abbrev pR:List Str:=["point","start","end","bound"]
abbrev pS:List Str:=["points","bound"]
abbrev pV:List Str:=["points","start","end","bound"]
abbrev pW:List Str:=["last_ahead"]
abbrev pX:List Str:=["top","bottom"]
abbrev pY:List Str:=["rows","cut","start"]
abbrev pZ:List Str:=["rows","cuts"]
abbrev qa:List Str:=["rows","cut","gate","scale"]
abbrev qb:List Str:=["_law_script","_law_k"]
abbrev qc:List Str:=["_law_feed_here"]
abbrev qd:List Str:=["_law_feed_here","_law_rows"]
abbrev qe:List Str:=["_law_script"]
abbrev qf:List Str:=["x","y","way"]
abbrev qg:List Str:=["cut","word","path","rows","scale"]
abbrev qh:List Str:=["rows","cut","gate","first","second"]
abbrev qi:List Str:=["rows","cut","gate","across","down"]
abbrev qj:List Str:=["_law_y","_law_feed_here","_law_wide","_law_far","_law_base"]
abbrev qk:List Str:=["_law_x","_law_feed_here","_law_far","_law_base"]
local macro_rules | `(tactic| walk_at "w")=>`(tactic| repeat walk_at "dl")
local macro_rules | `(tactic| walk_at "c")=>`(tactic| exact⟨rfl,by decide +kernel,of_decide_eq_true (by kernel_rfl),of_decide_eq_true (by kernel_rfl),of_decide_eq_true (by kernel_rfl),rfl⟩)
local macro_rules | `(tactic| walk_at "s")=>`(tactic| exact⟨rfl,rfl,rfl,by decide +kernel,rfl,by decide +kernel,by decide +kernel⟩)
noncomputable def top (i:Nat):Stmt:=PySem.Challenge.pw_heightrings_k56_whole_great_maps.main.body.getD i (.Pass ⟨0,0,0,0⟩)
noncomputable abbrev aw:=top 1
noncomputable abbrev sT:List Str:=["web","some","at","one","other"]
theorem qy:FnScope sT pA (zi aw):=by walk_at "s"
noncomputable abbrev vp:=top 2
noncomputable abbrev mM:List Str:=["web","found","k","word","path","i"]
theorem jm:FnScope mM pA (zi vp):=by walk_at "s"
noncomputable abbrev jg:=top 3
noncomputable abbrev c7:List Str:=pJ
theorem cA:FnScope c7 pJ (zi jg):=by walk_at "s"
noncomputable abbrev dq:=top 4
noncomputable abbrev AJ:List Str:=["web","one","other","first","a","b","second","c","d"]
theorem qz:FnScope AJ pO (zi dq):=by walk_at "s"
noncomputable abbrev bO:=top 5
noncomputable abbrev wy:List Str:=["web","first","second","word","path"]
theorem cB:FnScope wy pP (zi bO):=by walk_at "s"
noncomputable abbrev jZ:=top 6
noncomputable abbrev ib:List Str:=["ahead","between","behind","a","b","x","y","c","d"]
theorem yF:FnScope ib pQ (zi jZ):=by walk_at "s"
noncomputable abbrev ic:=top 7
noncomputable abbrev C9:List Str:=pC
theorem AK:FnScope C9 pC (zi ic):=by walk_at "s"
noncomputable abbrev ax:=top 8
noncomputable abbrev fZ:List Str:=pz
theorem mO:FnScope fZ pz (zi ax):=by walk_at "s"
noncomputable abbrev dr:=top 9
noncomputable abbrev AL:List Str:=pz
theorem wz:FnScope AL pz (zi dr):=by walk_at "s"
noncomputable abbrev qK:=top 10
noncomputable abbrev kR:List Str:=["point","start","end","bound","x","y","a","b","c","d","squared","along"]
theorem yq:FnScope kR pR (zi qK):=by walk_at "s"
noncomputable abbrev j7:=top 12
noncomputable abbrev ie:List Str:=["points","bound","fewest","last_ahead","at","usable","best"]
theorem yN:FnScope ie pS (zi j7):=by walk_at "s"
noncomputable abbrev dt:=top 13
noncomputable abbrev AM:List Str:=["points","start","end","bound","point"]
theorem kS:FnScope AM pV (zi dt):=by walk_at "s"
noncomputable abbrev y3:=top 14
noncomputable abbrev cC:List Str:=["last_ahead","way","at"]
theorem yS:FnScope cC pW (zi y3):=by walk_at "s"
noncomputable abbrev ig:=top 16
noncomputable abbrev Dc:List Str:=ph
theorem AN:FnScope Dc ph (zi ig):=by walk_at "s"
noncomputable abbrev bP:=top 17
noncomputable abbrev wA:List Str:=["rows","wide","tall"]
theorem cD:FnScope wA ph (zi bP):=by walk_at "s"
noncomputable abbrev qL:=top 18
noncomputable abbrev kT:List Str:=["rows","x","y","wide","tall"]
theorem vq:FnScope kT pq (zi qL):=by walk_at "s"
noncomputable abbrev j8:=top 19
noncomputable abbrev ij:List Str:=["rows","x","y","beside"]
theorem aN:FnScope ij pq (zi j8):=by walk_at "s"
noncomputable abbrev vt:=top 20
noncomputable abbrev mP:List Str:=pq
theorem kU:FnScope mP pq (zi vt):=by walk_at "s"
noncomputable abbrev ay:=top 21
noncomputable abbrev sU:List Str:=pK
theorem mQ:FnScope sU pK (zi ay):=by walk_at "s"
noncomputable abbrev bQ:=top 23
noncomputable abbrev wB:List Str:=pF
theorem cE:FnScope wB pF (zi bQ):=by walk_at "s"
noncomputable abbrev qM:=top 24
noncomputable abbrev kW:List Str:=["top","bottom","by"]
theorem vw:FnScope kW pX (zi qM):=by walk_at "s"
noncomputable abbrev qN:=top 33
noncomputable abbrev kX:List Str:=["rows","at","row"]
theorem vx:FnScope kX ph (zi qN):=by walk_at "s"
noncomputable abbrev ik:=top 34
noncomputable abbrev Dd:List Str:=pG
theorem AO:FnScope Dd pG (zi ik):=by walk_at "s"
noncomputable abbrev bR:=top 35
noncomputable abbrev wC:List Str:=["row"]
theorem sV:FnScope wC ["row"] (zi bR):=by walk_at "s"
noncomputable abbrev du:=top 39
noncomputable abbrev AQ:List Str:=["rows","cut","sides"]
theorem kY:FnScope AQ pB (zi du):=by walk_at "s"
noncomputable abbrev jK:=top 40
noncomputable abbrev fm:List Str:=["rows","cut","point","x","y"]
theorem qA:FnScope fm pH (zi jK):=by walk_at "s"
noncomputable abbrev jL:=top 41
noncomputable abbrev fq:List Str:=["gate","x","y","way"]
theorem jw:FnScope fq ["gate"] (zi jL):=by walk_at "s"
noncomputable abbrev vy:=top 42
noncomputable abbrev mR:List Str:=pL
theorem kZ:FnScope mR pL (zi vy):=by walk_at "s"
noncomputable abbrev az:=top 43
noncomputable abbrev sW:List Str:=qh
theorem ba:FnScope sW pf (zi az):=by walk_at "s"
noncomputable abbrev j9:=top 44
noncomputable abbrev ir:List Str:=["cell","x","y"]
theorem qV:FnScope ir ["cell"] (zi j9):=by walk_at "s"
noncomputable abbrev ql:=top 45
noncomputable abbrev iu:List Str:=pj
theorem ft:FnScope iu pj (zi ql):=by walk_at "s"
noncomputable abbrev yT:=top 46
noncomputable abbrev bS:List Str:=["rows","cut","cell","x","y"]
theorem jk:FnScope bS pj (zi yT):=by walk_at "s"
noncomputable abbrev qO:=top 47
noncomputable abbrev k7:List Str:=["rows","cut","cell","through"]
theorem bT:FnScope k7 pj (zi qO):=by walk_at "s"
noncomputable abbrev jx:=top 48
noncomputable abbrev eK:List Str:=["rows","cut","cell","above","left","below","right"]
theorem yM:FnScope eK pj (zi jx):=by walk_at "s"
noncomputable abbrev aA:=top 49
noncomputable abbrev sX:List Str:=["rows","cut","gate","x","y","way","near_is_high"]
theorem qB:FnScope sX pf (zi aA):=by walk_at "s"
noncomputable abbrev qm:=top 50
noncomputable abbrev iw:List Str:=qi
theorem qW:FnScope iw pf (zi qm):=by walk_at "s"
noncomputable abbrev vz:=top 51
noncomputable abbrev mS:List Str:=qi
theorem v5:FnScope mS pf (zi vz):=by walk_at "s"
noncomputable abbrev qo:=top 52
noncomputable abbrev ix:List Str:=["rows","cut","gate","x","y","partners","one","other"]
theorem yO:FnScope ix pf (zi qo):=by walk_at "s"
noncomputable abbrev dv:=top 54
noncomputable abbrev AR:List Str:=["rows","cut","through","starts","told","passed","start","line","gate"]
theorem jQ:FnScope AR pB (zi dv):=by walk_at "s"
noncomputable abbrev qP:=top 55
noncomputable abbrev k8:List Str:=["rows","cut","start","path","gate"]
theorem qr:FnScope k8 pY (zi qP):=by walk_at "s"
noncomputable abbrev vA:=top 57
noncomputable abbrev mT:List Str:=["rows","cut","gate","x","y","way","part","whole"]
theorem jn:FnScope mT pf (zi vA):=by walk_at "s"
noncomputable abbrev dw:=top 58
noncomputable abbrev AS:List Str:=qh
theorem eL:FnScope AS pf (zi dw):=by walk_at "s"
noncomputable abbrev vB:=top 60
noncomputable abbrev mU:List Str:=["rows","scale","x","y","a","b","by"]
theorem yJ:FnScope mU ph (zi vB):=by walk_at "s"
noncomputable abbrev bU:=top 61
noncomputable abbrev wD:List Str:=["rows","cuts","scale"]
theorem gc:FnScope wD pZ (zi bU):=by walk_at "s"
noncomputable abbrev jz:=top 62
noncomputable abbrev eN:List Str:=["rows","cut","gate","scale","x","y","by"]
theorem jh:FnScope eN qa (zi jz):=by walk_at "s"
noncomputable abbrev vC:=top 64
noncomputable abbrev bb:List Str:=["_law_script","_law_k","_law_cell"]
theorem v7:FnScope bb qb (zi vC):=by walk_at "s"
noncomputable abbrev vD:=top 65
noncomputable abbrev mV:List Str:=["_law_feed_here","_law_many","_law_found"]
theorem cS:FnScope mV pI (zi vD):=by walk_at "s"
noncomputable abbrev qQ:=top 66
noncomputable abbrev k9:List Str:=["_law_feed_here","_law_wide","_law_high","_law_far","_law_base"]
theorem jA:FnScope k9 qc (zi qQ):=by walk_at "s"
noncomputable abbrev vE:=top 67
noncomputable abbrev mW:List Str:=["_law_feed_here","_law_rows","_law_cuts_here","_law_k","_law_row","_law_cut"]
theorem jR:FnScope mW qd (zi vE):=by walk_at "s"
noncomputable abbrev cT:=top 68
noncomputable abbrev oO:List Str:=["_law_script","_law_feed_here","_law_rows","_law_web","_law_kept","_law_bound","_law_word","_law_points","_law_at"]
theorem vF:FnScope oO qe (zi cT):=by walk_at "s"
noncomputable def tab (Kt:List (List Int)):PyData:=.list (Kt.map fun r=>.list (r.map .int))
structure Good (w:Nat) (Kt:List (List Int)):Prop where
 h1:2<=Kt.length
 h2:Kt.length<=7
 w1:2<=w
 w2:w<=7
 row:∀ r∈Kt,r.length=w
 hgt:∀ r∈Kt,∀ n∈r,-1000000000<=n/\n<=1000000000
theorem Good.ne {w:Nat} {Kt:List (List Int)} (g:Good w Kt):∃ r rs,Kt=r :: rs:=by
 cases Kt with
 | nil=>have:=g.h1;simp at this
 | cons r rs=>exact⟨r,rs,rfl⟩
theorem qs {α β:Type} {F:α->β} {xs:List α} {k:Int} {j:Nat} (hk:(j:Int)=k) (h:j<xs.length):atI (xs.map F) k=some (F xs[j]):=by
 subst hk;exact br (by rw [EO,ED h];rfl)
local macro_rules | `(tactic| walk_at "dl")=>`(tactic| first
 | (with_reducible show PSd _ _ (aH _ (rM (yi _) (tC (V.int 0)) i6)) _ _;refine x9 rfl ?_)
 | (with_reducible show PSd _ _ (aH _ (rM (yi _) (tC (V.int 1)) i6)) _ _;refine Aa rfl ?_)
 | with_reducible refine yg ?_ | with_reducible refine aX ?_ | with_reducible refine yI ?_ | with_reducible refine yk ?_ | with_reducible refine dS ?_ | with_reducible refine jO ?_
 | with_reducible refine zp ?_ | with_reducible refine ju rfl ?_ | with_reducible refine zy ?_ | with_reducible refine yx ?_
 | with_reducible refine yV ?_ | with_reducible refine t_b ?_ | with_reducible refine BA ?_ | with_reducible refine Cn ?_ | with_reducible refine nU ?_ | with_reducible refine jN ?_
 | with_reducible refine xY ?_ | with_reducible refine kh ?_ | with_reducible refine vW ?_ | with_reducible refine yP ?_ | with_reducible refine aL ?_
 | with_reducible refine Cp ?_ | with_reducible refine mw ?_ | with_reducible refine DO ?_ | with_reducible refine Cq ?_
 | with_reducible refine yE ?_ | with_reducible refine uv ?_ | with_reducible refine DM ?_ | with_reducible refine By ?_
 | (with_reducible show PEd _ _ (yi _) _ _;refine zq rfl ?_)
 | (with_reducible show PEd _ _ (tOp (rR _) (yi _) _) _ _;refine DN rfl ?_)
 | with_reducible refine bw ?_ | with_reducible refine Bz ?_
 | (with_reducible show PAd _ _ (z7 (yi _) _) _ _;refine b8 rfl ?_)
 | with_reducible refine zv ?_ | with_reducible refine yd ?_
 | with_reducible refine CD ?_ | with_reducible refine BD ?_ | with_reducible refine DS ?_ | with_reducible refine uF ?_ | with_reducible refine d_int1 ?_ | with_reducible refine nW ?_ | with_reducible refine q9 ?_
 | with_reducible refine vP ?_ | with_reducible refine nT ?_ | with_reducible refine cM ?_ | with_reducible refine Cr ?_ | with_reducible refine Cs ?_ | with_reducible refine Ct ?_ | with_reducible refine Cu ?_
 | (with_reducible show (∃ _,_) \/ (∃ _,_);first | refine Or.inl ⟨_,rfl,?_⟩ | refine Or.inr ⟨_,rfl,?_⟩) | refine⟨_,rfl,?_⟩ | refine⟨_,_,rfl,?_⟩
 | (with_reducible show (_=_/\∀ _,_) \/ _;first | refine Or.inl ⟨rfl,fun a ha=>?_⟩ | refine Or.inr ⟨rfl,fun b hb hb'=>?_⟩)
 | (with_reducible show PyData.canLay0 _=true/\_;refine And.intro (by first | rfl | assumption | decide +kernel) ?_)
 | (with_reducible show min _ _<=60/\_;refine And.intro (by first | assumption | (simp [JE,EZ];done)) ?_)
 | refine⟨rfl,?_⟩
 | (refine And.intro ?side ?_;(case side=>first | omega | exact Int.ediv_nonneg (by omega) (by omega) | exact JK _ (by omega) | exact Hl _ (by omega) | decide | exact⟨by decide,by decide,by decide⟩ | exact⟨by omega,by omega⟩ | exact Or.inl ⟨by omega,by omega⟩ | exact Or.inr ⟨by omega,by omega⟩ | (refine Fm (HA (by rfl)) (show _<=1000 by decide)) | ((repeat' apply And.intro) <;> first | rfl | omega | decide | assumption) | (simp [JE]))))
section
variable {P:Program} {w:World} {K:EI} {mg:Str->Option Value} {base:Heap} {k:Nat}
theorem AU (F:Def K mg "size" ig ph) (uaa:mg "len"=none):FnIn P w K mg base (k+1) "size" ph (spD K 1 (fun (c:List (List Int)×Nat) xs=>xs=[.dat (tab c.1)]/\Good c.2 c.1) fun c r=>r=.tuple [.int c.2,.int c.1.length]):=by
 refine F.ok AN rfl fun fa cdv A outer s H E hr=>⟨_,(zh (zu (zN (za (zF (z8 (K:=K) rfl) rfl uaa Fw (za (zE (zH (K:=K) rfl) (pv 0) zd (fun _ _=>rfl)) zb)) (za (zF (z8 (K:=K) rfl) rfl uaa Fw (za (pv 0) zb)) zb))))),?_⟩;rintro f xs ⟨Kt,wd⟩ hl ⟨rfl,g⟩
 try dsimp only [ye,zj]
 obtain⟨r,rs,rfl⟩:=g.ne;walk_at "w";refine⟨_,qs (j:=0) rfl (by simp),?_⟩;walk_at "w";have hw:=g.row r ET;show PyData.tuple [.int _,.int _]=_;rw [EF,EF];show PyData.tuple [.int (r.length:Nat),_]=_;rw [hw]
theorem AV (F:Def K mg "fits" ik pG) (uaa:mg "len"=none) (uan:∃ t,mg "FEWEST"=some (.int 2 t)) (uao:∃ t,mg "MOST"=some (.int 7 t)) :
  FnIn P w K mg base (k+1) "fits" pG (spD K 1 (fun (c:List PyData) xs=>xs=[.dat (.list c)]) fun c r=>r=.bool (decide (2<=c.length/\c.length<=7))):=by
 obtain⟨_,uan⟩:=uan;obtain⟨_,uao⟩:=uao;refine F.ok AO rfl fun fa cdv A outer s H E hr=>⟨_,(zh (zu (dM vM vM (bz rfl uan) (zF (z8 (K:=K) rfl) rfl uaa Fw (za (pv 0) zb)) (bz rfl uao)))),?_⟩;rintro f xs ds hl rfl
 try dsimp only [ye,zj]
 walk_at "w";by_cases h:2<=ds.length
 ·rw [Kw (by simp;omega)];walk_at "w";show PyData.bool _=_
  congr 1
  by_cases h7:ds.length<=7 <;> simp [h,h7] <;> omega
 ·rw [Kv (by simp;omega)];show PyData.bool _=_
  congr 1
  simp [h]
theorem sY (F:Def K mg "is_row" bR ["row"]) (uad:mg "min"=none) (uah:mg "max"=none) (uap:∃ t,mg "LEAST"=some (.int (-1000000000) t)) (uaq:∃ t,mg "GREATEST"=some (.int 1000000000 t))
  (uaz:FnIn P w K mg base k "fits" pG (spD K 1 (fun (c:List PyData) xs=>xs=[.dat (.list c)]) fun c r=>r=.bool (decide (2<=c.length/\c.length<=7)))) :
  FnIn P w K mg base (k+1) "is_row" ["row"] (spD K 1 (fun (c:List Int) xs=>xs=[.dat (.list (c.map .int))]) fun c r=>r=.bool (decide (2<=c.length/\c.length<=7/\∀ n∈c,-1000000000<=n/\n<=1000000000))):=by
 obtain⟨_,uap⟩:=uap;obtain⟨_,uaq⟩:=uaq;refine F.ok sV rfl fun fa cdv A outer s H E hr=>⟨_,(zh (zu (aS (zf uaz hr rfl (za (pv 0) zb)) (aS (yD vM (bz rfl uap) (zF (r9 (K:=K) rfl rfl) rfl uad boot_min (za (pv 0) zb)) (zQ _)) (b6 (yD vM (zF (sd (K:=K) rfl rfl) rfl uah boot_max (za (pv 0) zb)) (bz rfl uaq) (zQ _))))))),?_⟩;rintro f xs c hl rfl
 try dsimp only [ye,zj]
 walk_at "w";refine zr (c.map .int) ?_;walk_at "w";rintro r rfl;rw [EF];walk_at "w";by_cases h:2<=c.length/\c.length<=7
 ·have hne:c≠[]:=by rintro rfl;simp at h
  rw [Kw (by simpa using h)];walk_at "w";intro M hM hM';walk_at "w";by_cases h2:-1000000000<=M
  ·rw [Kw (by simpa using h2)];walk_at "w";intro M' hN hN';walk_at "w";show PyData.bool _=_
   congr 1
   rw [decide_eq_decide];refine⟨fun q=>⟨h.1,h.2,fun n hn=>⟨Kj h2 (hM' n hn),Kj (hN' n hn) q⟩⟩,fun q=>(q.2.2 M' hN).2⟩
  ·rw [Kv (by simpa using h2)];show PyData.bool _=_
   congr 1
   symm;rw [decide_eq_false_iff_not];exact fun q=>h2 (q.2.2 M hM).1
 ·rw [Kv (by simpa using h)];show PyData.bool _=_
  congr 1
  symm;rw [decide_eq_false_iff_not];exact fun q=>h ⟨q.1,q.2.1⟩
abbrev lg (K:EI):Sp:=spD K 1 (fun (c:List (List Int)×Nat) xs=>xs=[.dat (tab c.1)]/\Good c.2 c.1) fun _ r=>r=.bool true
theorem De (F:Def K mg "ask_table" qN ph) (uaa:mg "len"=none) (uaf:mg "enumerate"=none)
  (uaz:FnIn P w K mg base k "fits" pG (spD K 1 (fun (c:List PyData) xs=>xs=[.dat (.list c)]) fun c r=>r=.bool (decide (2<=c.length/\c.length<=7))))
  (ua7:FnIn P w K mg base k "is_row" ["row"] (spD K 1 (fun (c:List Int) xs=>xs=[.dat (.list (c.map .int))]) fun c r=>r=.bool (decide (2<=c.length/\c.length<=7/\∀ n∈c,-1000000000<=n/\n<=1000000000)))) :
  FnIn P w K mg base (k+1) "ask_table" ph (lg K):=by
 refine F.ok vx rfl fun fa cdv A outer s H E hr=>⟨_,(zc (yC (dG (ym (K:=K) rfl (zf uaz hr rfl (za (pv 0) zb)) (fun _=>rfl))) (zh iV) zV) (zc (jq Fv rfl (dY (K:=K) rfl rfl uaf (za (pv 0) zb)) (zI (K:=K) (n:=2) rfl rfl (ze (zg (i:=1) vx.nd rfl (Or.inl rfl) (Or.inr rfl)) (ze (zg (i:=2) vx.nd rfl (Or.inl rfl) (Or.inr rfl)) zB))) (zh (yC (PW.pt (t6 (zZ (vX (K:=K) rfl hr.units) (zF (z8 (K:=K) rfl) rfl uaa Fw (za (pv 2) zb)) (zF (z8 (K:=K) rfl) rfl uaa Fw (za (zE (zH (K:=K) rfl) (pv 0) zd (fun _ _=>rfl)) zb)) (zQ _)) (l4 (dG (ym (K:=K) rfl (zf ua7 hr rfl (za (pv 2) zb)) (fun _=>rfl)))))) (zh iV) zV))) (zh (zu vR)))),?_⟩;rintro f xs ⟨Kt,wd⟩ hl ⟨rfl,g⟩
 try dsimp only [ye,zj]
 have g1:=g.h1;have g2:=g.h2;walk_at "w";refine zr (Kt.map fun r=>.list (r.map .int)) ?_;walk_at "w";rintro r rfl;dsimp only at g1 g2;refine⟨_,rfl,?_⟩;rw [EF,Kx ⟨g1,g2⟩,FX,Kv EG];walk_at "w";refine my ?_;walk_at "w";refine⟨fun i ρ=>∃ a b,ρ=[some (.dat (tab Kt)),a,b],⟨_,_,rfl⟩,?_,?_⟩
 ·rintro i d ρ hd ⟨a,b,rfl⟩;rw [EO] at hd;cases hr:Kt[i]? with
  | none=>rw [hr] at hd;cases hd
  | some r =>
   rw [hr] at hd;cases hd;have hm:=EK hr;have hw:=g.row r hm;obtain⟨r0,rs,hrs⟩:=g.ne;dsimp only at hrs;subst hrs;have hw0:=g.row r0 ET;walk_at "w";refine⟨_,qs (j:=0) rfl (by simp),?_⟩;walk_at "w";dsimp only at hw hw0;rw [Kw rfl,EF,EF];show (if (!(((r.length:Nat):Int) == ((r0.length:Nat):Int)))=true then _ else _);rw [hw,hw0,beq_self_eq_true,FX,Kv EG];walk_at "w";refine zr r ?_;walk_at "w";rintro _ rfl;refine⟨_,rfl,?_⟩;have w1:=g.w1;have w2:=g.w2;dsimp only at w1 w2;rw [Kx ⟨by omega,by omega,g.hgt r hm⟩,FX,Kv EG];walk_at "w";exact⟨_,_,rfl⟩
 ·rintro ρ ⟨a,b,rfl⟩;walk_at "w";rfl
theorem AW (F:Def K mg "_law_draw" vD pI):FnIn P w K mg base (k+1) "_law_draw" pI (spD K 2 (fun (c:Int) xs=>xs=[.feed,.dat (.int c)]/\0<c/\c<1152921504606846976) fun c r=>∃ i:Int,r=.int i/\0<=i/\i<c):=by
 refine F.ok cS rfl fun fa cdv A outer s H E hr=>⟨_,(zc (yC (zZ uh (zE (zH (K:=K) rfl) (pv 0) zd (fun _ _=>rfl)) (zk l8 zd zd) (zQ _)) (zc (zO (i:=2) cS.nd rfl (Or.inl rfl) (zk vU (zE (zH (K:=K) rfl) (pv 0) zd (fun _ _=>rfl)) (pv 1))) (zc (yn (zk d5 (zE (zH (K:=K) rfl) (pv 0) zd (fun _ _=>rfl)) (pv 1)) (gG (pv 0) zd set_list)) (zh (zu (pv 2))))) zV) (zc (yn (zk vU (zk zX (zk zX (zk aV (zE (zH (K:=K) rfl) (pv 0) zd (fun _ _=>rfl)) zd) (zk vU (zE (zH (K:=K) rfl) (pv 0) zd (fun _ _=>rfl)) zd)) zd) zd) (gG (pv 0) zd set_list)) (zh (zu (zk vU (zk d5 (zk vU (zk aV (zE (zH (K:=K) rfl) (pv 0) zd (fun _ _=>rfl)) zd) zd) zd) (pv 1)))))),?_⟩;rintro f xs c hl ⟨rfl,c0,c1⟩
 try dsimp only [ye,zj]
 walk_at "w";split
 ·walk_at "w";exact Hl _ c0
 ·walk_at "w";exact Hl _ c0
abbrev mX (K:EI):Sp:=spD K 2 (fun (c:Int) xs=>xs=[.feed,.dat (.int c)]/\0<c/\c<1152921504606846976) fun c r=>∃ i:Int,r=.int i/\0<=i/\i<c
abbrev oP (K:EI):Sp:=spD K 1 (fun (_:Unit) xs=>xs=[.feed]) fun _ r=>∃ wd Kt,r=tab Kt/\Good wd Kt/\∃ b:Int,∀ r∈Kt,∀ n∈r,b<=n/\n<b+10
theorem menu {ds:List PyData} {i n:Int} (h0:0<=i) (h1:i<n) (hn:n=(ds.length:Int)):∃ d,atI ds i=some d/\d∈ds:=by
 have hi:i.toNat<ds.length:=by omega
 have e:i=((i.toNat:Nat):Int):=by omega
 have q:=br (ED hi);rw [<-e] at q;exact⟨_,q,Ff hi⟩
theorem oQ:∀ {es:List PyData} {p:Int->Prop},(∀ (i:Nat) e,es[i]?=some e->∃ n:Int,e=.int n/\p n)->∃ ns:List Int,es=ns.map .int/\∀ n∈ns,p n
 | [],p,_=>⟨[],rfl,fun n h=>by cases h⟩
 | e :: es,p,h=>by
  obtain⟨n,rfl,hn⟩:=h 0 e rfl;obtain⟨ns,rfl,hs⟩:=oQ (es:=es) (p:=p) fun i e' he=>h (i+1) e' (by simpa using he);exact⟨n :: ns,rfl,fun m hm=>by
   rcases EW.mp hm with rfl | hm
   ·exact hn
   ·exact hs m hm⟩
theorem oR:∀ {es:List PyData} {p:List Int->Prop},(∀ (i:Nat) e,es[i]?=some e->∃ r:List Int,e=.list (r.map .int)/\p r)->∃ Kt:List (List Int),es=Kt.map (fun r=>.list (r.map .int))/\∀ r∈Kt,p r
 | [],p,_=>⟨[],rfl,fun n h=>by cases h⟩
 | e :: es,p,h=>by
  obtain⟨n,rfl,hn⟩:=h 0 e rfl;obtain⟨ns,rfl,hs⟩:=oR (es:=es) (p:=p) fun i e' he=>h (i+1) e' (by simpa using he);exact⟨n :: ns,rfl,fun m hm=>by
   rcases EW.mp hm with rfl | hm
   ·exact hn
   ·exact hs m hm⟩
theorem wF (F:Def K mg "_law_table" qQ qc) (uab:mg "range"=none) (uac:FnIn P w K mg base k "_law_draw" pI (mX K)) :
  FnIn P w K mg base (k+1) "_law_table" qc (oP K):=by
 refine F.ok jA rfl fun fa cdv A outer s H E hr=>⟨_,(zc (zO (i:=1) jA.nd rfl (Or.inr rfl) (zk zX zd (zf uac hr rfl (za (pv 0) (za zd zb))))) (zc (zO (i:=2) jA.nd rfl (Or.inl rfl) (zk zX zd (zf uac hr rfl (za (pv 0) (za zd zb))))) (zc (zO (i:=3) jA.nd rfl (Or.inr rfl) (zE (zH (K:=K) rfl) (yw (za zd (za zd (za zd (za zd zb))))) (zf uac hr rfl (za (pv 0) (za zd zb))) (fun _ _=>rfl))) (zc (zO (i:=4) jA.nd rfl (Or.inr rfl) (zE (zH (K:=K) rfl) (yw (za zd (za (zk z9 zd zd) (za (zk z9 (zk l8 zd zd) zd) (za (zk z9 zd (zk l8 zd zd)) zb))))) (zf uac hr rfl (za (pv 0) (za zd zb))) (fun _ _=>rfl))) (zh (zu (jb (N:=qj) (own:=1) (fr:=[0,1,3,4]) (by walk_at "c") rfl (jF rfl uab (za (pv 2) zb)) (fun _ _ _ _=>(zg (i:=0) (show (qj:List Str).Nodup by decide +kernel) rfl (Or.inl rfl) (Or.inr rfl))) (fun _ _ _ _=>yX) (fun _ _ _ _=>(jb (N:=qk) (own:=1) (fr:=[1,3,4]) (by walk_at "c") rfl (jF rfl uab (za (pv 2) zb)) (fun _ _ _ _=>(zg (i:=0) (show (qk:List Str).Nodup by decide +kernel) rfl (Or.inl rfl) (Or.inr rfl))) (fun _ _ _ _=>yX) (fun _ _ _ _=>(zk zX (pv 3) (zf uac hr rfl (za (pv 1) (za (pv 2) zb))))) rfl rfl (fun _=>rfl))) rfl rfl (fun _=>rfl)))))))),?_⟩;rintro f xs ⟨⟩ hl rfl
 try dsimp only [ye,zj]
 walk_at "w";refine zr 3 ?_;walk_at "w";rintro r ⟨i1,rfl,h1,h2⟩;walk_at "w";refine zr 3 ?_;walk_at "w";rintro r ⟨i2,rfl,h3,h4⟩;walk_at "w";refine zr 4 ?_;walk_at "w";rintro r ⟨i3,rfl,h5,h6⟩;refine⟨_,rfl,?_⟩;obtain⟨d3,e3,m3⟩:=menu (ds:=[.int 2,.int 3,.int 5,.int 10]) h5 h6 (by simp);obtain⟨far,rfl,f0,f1⟩:∃ n:Int,d3=.int n/\0<n/\n<=10:=by
  simp only [EW,GF,or_false] at m3;rcases m3 with rfl | rfl | rfl | rfl <;> exact⟨_,rfl,by decide,by decide⟩
 refine⟨_,e3,?_⟩;walk_at "w";refine zr 4 ?_;walk_at "w";rintro r ⟨i4,rfl,h7,h8⟩;refine⟨_,rfl,?_⟩;obtain⟨d4,e4,m4⟩:=menu (ds:=[.int 0,.int (0 - 3),.int (10 ^ IT 9 - 9),.int (0 - 10 ^ IT 9)]) h7 h8 (by simp);obtain⟨bs,rfl,b0,b1⟩:∃ n:Int,d4=.int n/\-1000000000<=n/\n<=999999991:=by
  simp only [EW,GF,or_false] at m4;rcases m4 with rfl | rfl | rfl | rfl <;> exact⟨_,rfl,by decide,by decide⟩
 refine⟨_,e4,?_⟩;walk_at "w";refine kn ?_;walk_at "w";refine⟨fun _ e=>∃ r:List Int,e=.list (r.map .int)/\r.length=(5+i1).toNat/\∀ n∈r,bs<=n/\n<bs+far,fun D i hi=>?_,fun es hes hR=>?_⟩
 ·refine kn ?_;walk_at "w";refine⟨fun _ e=>∃ n:Int,e=.int n/\bs<=n/\n<bs+far,fun D' i' hi'=>?_,fun es hes hR=>?_⟩
  ·walk_at "w";refine zr far ?_;walk_at "w";rintro r ⟨n,rfl,n0,n1⟩;walk_at "w";omega
  ·obtain⟨ns,rfl,hs⟩:=oQ (p:=fun n=>bs<=n/\n<bs+far) hR;exact⟨ns,rfl,by rw [EF] at hes;exact hes,hs⟩
 ·obtain⟨Kt,rfl,hs⟩:=oR (p:=fun r=>r.length=(5+i1).toNat/\∀ n∈r,bs<=n/\n<bs+far) hR;rw [EF] at hes;exact⟨(5+i1).toNat,Kt,rfl,⟨by omega,by omega,by omega,by omega,fun r hr=>(hs r hr).1,fun r hr n hn=>by have:=(hs r hr).2 n hn;omega⟩,bs,fun r hr n hn=>by have:=(hs r hr).2 n hn;omega⟩
theorem yt {b:Bool} {p q:Prop} (h1:b=true->p) (h2:b=false->q):if b=true then p else q:=by
 cases b with
 | true=>rw [Kw rfl];exact h1 rfl
 | false=>rw [Kv EG];exact h2 rfl
noncomputable def yj (Kt:List (List Int)) (wd:Nat) (x y:Int):Bool:=decide (0<=x/\x<wd) && decide (0<=y/\y<Kt.length)
noncomputable def zJ (Kt:List (List Int)) (x y:Int):Int:=(Kt.getD y.toNat []).getD x.toNat 0
theorem jB {Kt:List (List Int)} {wd:Nat} {x y:Int} (h:yj Kt wd x y=true):0<=x/\x<wd/\0<=y/\y<Kt.length:=by
 unfold yj at h;rw [EV] at h;have h1:=of_decide_eq_true h.1;have h2:=of_decide_eq_true h.2;omega
noncomputable def qR (x y w:Int):PyData:=.tuple [.int x,.int y,.int w]
noncomputable def px (x:Int) (w:Int):Int:=if w=0 then x+1 else x
noncomputable def py (y:Int) (w:Int):Int:=if w=0 then y else y+1
noncomputable def v8 (Kt:List (List Int)) (wd:Nat) (x y w:Int):Bool:=decide (w=0 \/ w=1) && (yj Kt wd x y && yj Kt wd (px x w) (py y w))
noncomputable def yG (Kt:List (List Int)) (wd:Nat) (cut x y w:Int):Bool:=v8 Kt wd x y w && (decide (cut<zJ Kt x y) != decide (cut<zJ Kt (px x w) (py y w)))
noncomputable def gf (Kt:List (List Int)) (cut x y w:Int):Str:=if w=0 then (if cut<zJ Kt x y then "up" else "down") else (if cut<zJ Kt x y then "right" else "left")
theorem aB (a b:Int):Fi (.int a) (.int b)=decide (a=b):=rfl
theorem lh (a b:Bool):Fi (.bool a) (.bool b)=(a == b):=rfl
abbrev wG (K:EI):Sp:=spD K 1 (fun (c:List (List Int)×Nat) xs=>xs=[.dat (tab c.1)]/\Good c.2 c.1) fun c r=>r=.tuple [.int c.2,.int c.1.length]
abbrev oS (K:EI):Sp:=spD K 3 (fun (c:List (List Int)×Nat×Int×Int) xs=>xs=[.dat (tab c.1),.dat (.int c.2.2.1),.dat (.int c.2.2.2)]/\Good c.2.1 c.1) fun c r=>r=.bool (yj c.1 c.2.1 c.2.2.1 c.2.2.2)
theorem Df (F:Def K mg "has_point" qL pq) (uaA:FnIn P w K mg base k "size" ph (wG K)):FnIn P w K mg base (k+1) "has_point" pq (oS K):=by
 refine F.ok vq rfl fun fa cdv A outer s H E hr=>⟨_,(zc (yn (zf uaA hr rfl (za (pv 0) zb)) (zI (K:=K) (n:=2) rfl rfl (ze (zg (i:=3) vq.nd rfl (Or.inl rfl) (Or.inr rfl)) (ze (zg (i:=4) vq.nd rfl (Or.inl rfl) (Or.inr rfl)) zB)))) (zh (zu (aS (dM vM iX zd (pv 1) (pv 3)) (b6 (dM vM iX zd (pv 2) (pv 4))))))),?_⟩;rintro f xs ⟨Kt,wd,x,y⟩ hl ⟨rfl,g⟩
 try dsimp only [ye,zj]
 dsimp only at *;refine yg (yk (zr (Kt,wd) ?_));walk_at "w";rintro _ rfl;walk_at "w";have fin:∀ b:Bool,b=yj Kt wd x y->PyData.bool b=PyData.bool (yj Kt wd x y):=fun b h=>by rw [h]
 refine yt (fun h1=>?_) fun h1=>?_
 ·have h1':=of_decide_eq_true h1;walk_at "w";refine yt (fun h2=>?_) fun h2=>?_
  ·have h2':=of_decide_eq_true h2;walk_at "w";refine yt (fun h3=>?_) fun h3=>?_
   ·have h3':=of_decide_eq_true h3;walk_at "w";refine fin _ ?_;unfold yj;dsimp only at h2' ⊢;rw [Kx (p:=(0<=x/\x<(wd:Int))) (by omega),G5];exact decide_eq_decide.mpr (by omega)
   ·have h3':=of_decide_eq_false h3;refine fin _ ?_;unfold yj;rw [Ky (p:=(0<=y/\y<(Kt.length:Int))) (by omega),Gv]
  ·have h2':=of_decide_eq_false h2;refine fin _ ?_;unfold yj;dsimp only at h2';rw [Ky (p:=(0<=x/\x<(wd:Int))) (by omega),Gu]
 ·have h1':=of_decide_eq_false h1;refine⟨_,rfl,?_⟩;rw [Kv EG];refine fin _ ?_;unfold yj;rw [Ky (p:=(0<=x/\x<(wd:Int))) (by omega),Gu]
abbrev iy (K:EI):Sp:=spD K 3 (fun (c:List (List Int)×Nat×Int×Int×Int) xs=>xs=[.dat (tab c.1),.dat (.int c.2.2.1),.dat (.tuple [.int c.2.2.2.1,.int c.2.2.2.2])]/\Good c.2.1 c.1/\yj c.1 c.2.1 c.2.2.2.1 c.2.2.2.2=true) fun c r=>r=.bool (decide (c.2.2.1<zJ c.1 c.2.2.2.1 c.2.2.2.2))
theorem eO {Kt:List (List Int)} {wd:Nat} {x y:Int} (g:Good wd Kt) (h:yj Kt wd x y=true):∃ r:List Int,atI (Kt.map fun q=>PyData.list (q.map .int)) y=some (.list (r.map .int))/\atI (r.map PyData.int) x=some (.int (zJ Kt x y)):=by
 obtain⟨x0,x1,y0,y1⟩:=jB h;have hy:y.toNat<Kt.length:=by omega
 have hr:=g.row _ (Ff hy);have hx:x.toNat<Kt[y.toNat].length:=by omega
 refine⟨Kt[y.toNat],qs (F:=fun q:List Int=>PyData.list (q.map .int)) (by omega) hy,?_⟩;rw [qs (j:=x.toNat) (by omega) hx];unfold zJ;rw [EE,EE,ED hy,Ju,ED hx];rfl
theorem AX (F:Def K mg "stands_high" jK pH):FnIn P w K mg base (k+1) "stands_high" pH (iy K):=by
 refine F.ok qA rfl fun fa cdv A outer s H E hr=>⟨_,(zc (yn (pv 2) (zI (K:=K) (n:=2) rfl rfl (ze (zg (i:=3) qA.nd rfl (Or.inl rfl) (Or.inr rfl)) (ze (zg (i:=4) qA.nd rfl (Or.inl rfl) (Or.inr rfl)) zB)))) (zh (zu (yD ug (zE (zH (K:=K) rfl) (zE (zH (K:=K) rfl) (pv 0) (pv 4) (fun _ _=>rfl)) (pv 3) (fun _ _=>rfl)) (pv 1) (zQ _))))),?_⟩;rintro f xs ⟨Kt,wd,cut,x,y⟩ hl ⟨rfl,g,hi⟩
 try dsimp only [ye,zj]
 dsimp only at *;obtain⟨r,h1,h2⟩:=eO g hi;unfold tab;walk_at "w";refine⟨_,h1,?_⟩;walk_at "w";refine⟨_,h2,?_⟩;walk_at "w";rfl
abbrev oT (K:EI):Sp:=spD K 1 (fun (c:Int×Int×Int) xs=>xs=[.dat (qR c.1 c.2.1 c.2.2)]) fun c r=>r=.list [.tuple [.int c.1,.int c.2.1],.tuple [.int (px c.1 c.2.2),.int (py c.2.1 c.2.2)]]
theorem Dg (F:Def K mg "gate_points" jL ["gate"]):FnIn P w K mg base (k+1) "gate_points" ["gate"] (oT K):=by
 refine F.ok jw rfl fun fa cdv A outer s H E hr=>⟨_,(zc (yn (pv 0) (zI (K:=K) (n:=3) rfl rfl (ze (zg (i:=1) jw.nd rfl (Or.inl rfl) (Or.inr rfl)) (ze (zg (i:=2) jw.nd rfl (Or.inl rfl) (Or.inr rfl)) (ze (zg (i:=3) jw.nd rfl (Or.inl rfl) (Or.inr rfl)) zB))))) (zc (yC (zZ (jV (K:=K) rfl hr.units) (pv 3) zd (zQ _)) (zh (zu (yw (za (zN (za (pv 1) (za (pv 2) zb))) (za (zN (za (zk zX (pv 1) zd) (za (pv 2) zb))) zb))))) zV) (zh (zu (yw (za (zN (za (pv 1) (za (pv 2) zb))) (za (zN (za (pv 1) (za (zk zX (pv 2) zd) zb))) zb))))))),?_⟩;rintro f xs ⟨x,y,w⟩ hl rfl
 try dsimp only [ye,zj]
 dsimp only at *;unfold qR;walk_at "w";rw [Kv EG,aB];refine yt (fun h=>?_) fun h=>?_
 ·have h':=of_decide_eq_true h;walk_at "w";unfold px py;rw [Kw h',Kw h']
 ·have h':=of_decide_eq_false h;walk_at "w";unfold px py;rw [Kv h',Kv h']
abbrev wH (K:EI):Sp:=spD K 2 (fun (c:List (List Int)×Nat×Int×Int×Int) xs=>xs=[.dat (tab c.1),.dat (qR c.2.2.1 c.2.2.2.1 c.2.2.2.2)]/\Good c.2.1 c.1) fun c r=>r=.bool (v8 c.1 c.2.1 c.2.2.1 c.2.2.2.1 c.2.2.2.2)
theorem AY (F:Def K mg "has_gate" vy pL) (uaj:mg "all"=none) (uak:FnIn P w K mg base k "has_point" pq (oS K)) (uar:FnIn P w K mg base k "gate_points" ["gate"] (oT K)):FnIn P w K mg base (k+1) "has_gate" pL (wH K):=by
 refine F.ok kZ rfl fun fa cdv A outer s H E hr=>⟨_,(zc (yC (zZ (sk (K:=K) rfl) (zE (zP (K:=K) rfl) (pv 1) zd (fun _ _=>rfl)) (zN (za zd (za zd zb))) rfl) (zh (zu vR)) zV) (zh (zu (zF (fM (K:=K) rfl rfl) rfl uaj JP (za (jb (N:=pM) (own:=2) (fr:=[0]) (by walk_at "c") rfl (yh (K:=K) rfl (zf uar hr rfl (za (pv 1) zb))) (fun _ _ _ _=>(zI (K:=K) (n:=2) rfl rfl (ze (zg (i:=0) (show (pM:List Str).Nodup by decide +kernel) rfl (Or.inl rfl) (Or.inr rfl)) (ze (zg (i:=1) (show (pM:List Str).Nodup by decide +kernel) rfl (Or.inl rfl) (Or.inr rfl)) zB)))) (fun _ _ _ _=>yX) (fun _ _ _ _=>(zf uak hr rfl (za (pv 2) (za (pv 0) (za (pv 1) zb))))) rfl rfl (fun _=>rfl)) zb))))),?_⟩;rintro f xs ⟨Kt,wd,x,y,w⟩ hl ⟨rfl,g⟩
 try dsimp only [ye,zj]
 dsimp only at *;refine yg (aX (yV (uJ ?_)));unfold qR;walk_at "w";refine⟨[0,1],rfl,_,rfl,?_⟩;have hc:(([0,1]:List Int).contains w)=decide (w=0 \/ w=1):=by
  rw [Bool.eq_iff_iff];simp
 rw [hc];by_cases h:w=0 \/ w=1
 ·rw [Kx h,FX,Kv EG];refine jO (yI (BE (PEdO.ped (kr (A:=fun p:Int×Int=>PyData.tuple [.int p.1,.int p.2]) (B:=fun p:Int×Int=>PyData.bool (yj Kt wd p.1 p.2)) [(x,y),(px x w,py y w)] (yQ (zr (x,y,w) ?_))))));walk_at "w";rintro _ rfl;refine⟨_,rfl,rfl,show 2<=1000 by decide,?_,?_⟩
  ·rintro D p ρ' es hp ho hes;obtain⟨u,v,rfl⟩:=ho.two;refine ju rfl (zy (zp (zy (zp (yx (q9 ?_))))));rw [Kw rfl];refine jv hes (zr (Kt,wd,p.1,p.2) ?_);walk_at "w";rintro _ rfl;exact⟨.mk2,rfl⟩
  ·refine⟨[yj Kt wd x y,yj Kt wd (px x w) (py y w)],rfl,?_⟩;show PyData.bool _=PyData.bool _;unfold v8;rw [Kx h,G5];show PyData.bool (yj Kt wd x y && (yj Kt wd (px x w) (py y w) && true))=_;rw [Ke]
 ·rw [Ky h,Ht,Kw rfl];walk_at "w";unfold v8;rw [Ky h];rfl
abbrev iA (K:EI):Sp:=spD K 3 (fun (c:List (List Int)×Nat×Int×Int×Int×Int) xs=>xs=[.dat (tab c.1),.dat (.int c.2.2.1),.dat (qR c.2.2.2.1 c.2.2.2.2.1 c.2.2.2.2.2)]/\Good c.2.1 c.1) fun c r=>r=.bool (yG c.1 c.2.1 c.2.2.1 c.2.2.2.1 c.2.2.2.2.1 c.2.2.2.2.2)
theorem vc {Kt:List (List Int)} {wd:Nat} {x y w:Int} (h:v8 Kt wd x y w=true):yj Kt wd x y=true/\yj Kt wd (px x w) (py y w)=true:=by
 unfold v8 at h;rw [EV,EV] at h;exact h.2
theorem AZ (F:Def K mg "is_open" az pf) (ua8:FnIn P w K mg base k "has_gate" pL (wH K)) (uar:FnIn P w K mg base k "gate_points" ["gate"] (oT K)) (ual:FnIn P w K mg base k "stands_high" pH (iy K)):FnIn P w K mg base (k+1) "is_open" pf (iA K):=by
 refine F.ok ba rfl fun fa cdv A outer s H E hr=>⟨_,(zc (yC (dG (ym (K:=K) rfl (zf ua8 hr rfl (za (pv 0) (za (pv 2) zb))) (fun _=>rfl))) (zh (zu vR)) zV) (zc (yn (zf uar hr rfl (za (pv 2) zb)) (gT (K:=K) (n:=2) rfl rfl (ze (zg (i:=3) ba.nd rfl (Or.inl rfl) (Or.inr rfl)) (ze (zg (i:=4) ba.nd rfl (Or.inl rfl) (Or.inr rfl)) zB)))) (zh (zu (yD (vX (K:=K) rfl hr.units) (zf ual hr rfl (za (pv 0) (za (pv 1) (za (pv 3) zb)))) (zf ual hr rfl (za (pv 0) (za (pv 1) (za (pv 4) zb)))) (zQ _)))))),?_⟩;rintro f xs ⟨Kt,wd,cut,x,y,w⟩ hl ⟨rfl,g⟩
 try dsimp only [ye,zj]
 dsimp only at *;refine yg (aX (nU (jN (zr (Kt,wd,x,y,w) ?_))));walk_at "w";rintro _ rfl;refine⟨_,rfl,?_⟩;dsimp only;cases h:v8 Kt wd x y w with
 | false =>
  rw [Ht,Kw rfl];walk_at "w";unfold yG;rw [h];rfl
 | true =>
  rw [FX,Kv EG];obtain⟨i1,i2⟩:=vc h;refine jO (yg (yk (zr (x,y,w) ?_)));walk_at "w";rintro _ rfl;dsimp only;refine uH rfl (zy (zp (zy (zp (yx ?_)))));refine yI (aL (zr (Kt,wd,cut,x,y) ?_));walk_at "w";rintro _ rfl;refine zr (Kt,wd,cut,px x w,py y w) ?_;walk_at "w";rintro _ rfl;dsimp only;walk_at "w";show PyData.bool _=PyData.bool _;unfold yG;rw [h,G5,Kw rfl,lh];rfl
theorem bV {n i:Nat} {d:PyData} (h:(vk n)[i]?=some d):i<n/\d=.int (i:Int):=by
 unfold vk at h;rw [EO] at h;by_cases hi:i<n
 ·rw [Gd hi] at h;cases h;exact⟨hi,rfl⟩
 ·rw [Fl (by rw [FH];omega)] at h;cases h
theorem aC (n:Nat):(vk n).length=n:=by unfold vk;simp
noncomputable def A0 (x y:Nat):PyData:=.tuple [.int x,.int y]
noncomputable def vd (t n:Nat):List PyData:=(E7 n).flatMap fun x=>(E7 t).map (A0 x)
theorem lq (t n:Nat):vd t (n+1)=vd t n++(E7 t).map (A0 n):=by
 unfold vd;rw [IM,Ge];simp
theorem oU (t:Nat):∀ n,(vd t n).length=t * n
 | 0=>rfl
 | n+1=>by rw [lq,EY,oU t n,EF,FH,Nat.mul_succ]
abbrev eP (K:EI):Sp:=spD K 1 (fun (c:List (List Int)×Nat) xs=>xs=[.dat (tab c.1)]/\Good c.2 c.1) fun c r=>r=.list (vd c.1.length c.2)
theorem sZ (F:Def K mg "points" bP ph) (uab:mg "range"=none) (uaA:FnIn P w K mg base k "size" ph (wG K)):FnIn P w K mg base (k+1) "points" ph (eP K):=by
 refine F.ok cD rfl fun fa cdv A outer s H E hr=>⟨_,(zc (yn (zf uaA hr rfl (za (pv 0) zb)) (zI (K:=K) (n:=2) rfl rfl (ze (zg (i:=1) cD.nd rfl (Or.inl rfl) (Or.inr rfl)) (ze (zg (i:=2) cD.nd rfl (Or.inr rfl) (Or.inl rfl)) zB)))) (zh (zu (kf (N:=["x","y","tall"]) (own:=2) (fr:=[2]) (by walk_at "c") rfl (jF rfl uab (za (pv 1) zb)) (fun _ _ _ _=>(zg (i:=0) (show (["x","y","tall"]:List Str).Nodup by decide +kernel) rfl (Or.inl rfl) (Or.inr rfl))) (fun _ _ _ _=>yX) (fun _ _ _ _=>(jF rfl uab (za (pv 2) zb))) (fun _ _ _ _=>(zg (i:=1) (show (["x","y","tall"]:List Str).Nodup by decide +kernel) rfl (Or.inl rfl) (Or.inr rfl))) (fun _ _ _ _=>yX) (fun _ _ _ _=>(zN (za (pv 0) (za (pv 1) zb)))) rfl rfl (fun _=>rfl) (fun _ _ _ _ _=>rfl))))),?_⟩;rintro f xs ⟨Kt,wd⟩ hl ⟨rfl,g⟩
 try dsimp only [ye,zj]
 dsimp only at *;have g2:=g.h2;have w2:=g.w2;refine yg (yk (zr (Kt,wd) ?_));walk_at "w";rintro _ rfl;refine ju rfl (zy (zp (zy (zp (yx ?_)))));refine yI (PEdO.ped (vY (bA (zv (zq rfl (yd ⟨_,rfl,by dsimp only;omega,by dsimp only;omega,fun n ρ es=>(∃ u v,ρ=[u,v,some (.dat (.int Kt.length))])/\es=vd Kt.length n,⟨⟨_,_,rfl⟩,rfl⟩,?_,?_⟩))))))
 ·rintro D n d ρ' es hd ⟨⟨u,v,rfl⟩,rfl⟩;obtain⟨hn,rfl⟩:=bV hd;have hn':n<wd:=by have:n<((wd:Int)).toNat:=hn;omega
  have l1:Kt.length * n<=7 * 7:=Io g2 (by omega);refine zp (q9 ?_);rw [Kw rfl];refine CA (bA (zv (zq rfl (yd ⟨_,rfl,by omega,by omega,fun m ρ es=>(∃ v,ρ=[some (.dat (.int n)),v,some (.dat (.int Kt.length))])/\es=vd Kt.length n++(E7 m).map (A0 n),⟨⟨_,rfl⟩,by simp⟩,?_,?_⟩))))
  ·rintro m d ρ2 es2 hd2 ⟨⟨v,rfl⟩,rfl⟩;obtain⟨hm,rfl⟩:=bV hd2;have hm':m<Kt.length:=by have:m<((Kt.length:Int)).toNat:=hm;omega
   refine zp (q9 ?_);rw [Kw rfl];refine jv (by rw [EY,oU,EF,FH];omega) ?_;walk_at "w";rw [IM,E9,Gf];rfl
  ·rintro ρ2 es2 ⟨⟨v,rfl⟩,rfl⟩;rw [aC,FG];exact⟨⟨_,_,rfl⟩,by rw [lq]⟩
 ·rintro ρ' es ⟨_,rfl⟩;rw [aC,FG]
noncomputable def F2:PyData->List PyData
 | .tuple [.int x,.int y]=>[qR x y 0,qR x y 1]
 | _=>[]
noncomputable def gD3 (g:Int×Int×Int):PyData:=qR g.1 g.2.1 g.2.2
noncomputable def opG (Kt:List (List Int)) (wd:Nat) (cut:Int) (g:Int×Int×Int):Bool:=yG Kt wd cut g.1 g.2.1 g.2.2
noncomputable def ja (t n:Nat):List (Int×Int×Int):=(E7 n).flatMap fun (x:Nat)=>(E7 t).flatMap fun (y:Nat)=>[((x:Int),(y:Int),(0:Int)),((x:Int),(y:Int),(1:Int))]
theorem lr (t n:Nat):(vd t n).flatMap F2=(ja t n).map gD3:=by
 unfold vd ja;rw [List.flatMap_assoc,IC]
 congr 1
 funext x
 rw [List.flatMap_map,IC];rfl
theorem A1 {t n:Nat} {d:PyData} (h:d∈vd t n):∃ x y:Nat,d=A0 x y:=by
 obtain⟨x,_,h⟩:=Fs.mp h;obtain⟨y,_,rfl⟩:=E6.mp h;exact⟨x,y,rfl⟩
theorem eQ {α:Type} {F:Nat->List α} {b:Nat} (h:∀ n,(F n).length<=b):∀ n,((E7 n).flatMap F).length<=b * n
 | 0=>by simp
 | n+1=>by
  rw [IM,Ge,EY];have:=eQ h n;have:=h n;simp only [Ip,List.flatMap_nil,FT];rw [Nat.mul_succ];omega
theorem gh {t n:Nat} (ht:t<=7) (hn:n<=7):(ja t n).length<=98:=by
 have h:=eQ (F:=fun (x:Nat)=>(E7 t).flatMap fun (y:Nat)=>[((x:Int),(y:Int),(0:Int)),((x:Int),(y:Int),(1:Int))]) (b:=2 * t) (fun x=>eQ (F:=fun (y:Nat)=>[((x:Int),(y:Int),(0:Int)),((x:Int),(y:Int),(1:Int))]) (b:=2) (fun y=>EN 2) t) n;exact Fm h (Io (show 2 * t<=14 by omega) hn)
noncomputable def Dh (Kt:List (List Int)) (wd:Nat) (cut:Int) (x y:Nat):List (Int×Int×Int):=(if yG Kt wd cut x y 0=true then [((x:Int),(y:Int),(0:Int))] else [])++if yG Kt wd cut x y 1=true then [((x:Int),(y:Int),(1:Int))] else []
noncomputable def yy (Kt:List (List Int)) (wd:Nat) (cut:Int):List (Int×Int×Int):=(E7 wd).flatMap fun x=>(E7 Kt.length).flatMap fun y=>Dh Kt wd cut x y
theorem s9 {α:Type} {F:Nat->List α} (n:Nat):(E7 (n+1)).flatMap F=(E7 n).flatMap F++F n:=by
 rw [IM,Ge];simp
theorem A2 (Kt:List (List Int)) (wd:Nat) (cut:Int) (x y:Nat):Dh Kt wd cut x y=[((x:Int),(y:Int),(0:Int)),((x:Int),(y:Int),(1:Int))].filter (opG Kt wd cut):=by
 unfold Dh opG;simp only [FY,JM];cases yG Kt wd cut x y 0 <;> cases yG Kt wd cut x y 1 <;> rfl
theorem v9 (Kt:List (List Int)) (wd:Nat) (cut:Int):yy Kt wd cut=(ja Kt.length wd).filter (opG Kt wd cut):=by
 unfold yy ja;rw [J9]
 congr 1
 funext x
 rw [J9]
 congr 1
 funext y
 exact A2 Kt wd cut x y
def gLt (a b:Int×Int×Int):Prop:=a.1<b.1 \/ (a.1=b.1/\(a.2.1<b.2.1 \/ (a.2.1=b.2.1/\a.2.2<b.2.2)))
theorem oV {α:Type} {R:α->α->Prop} {F:Nat->List α} (n:Nat) (h1:∀ i,i<n->(F i).Pairwise R) (h2:∀ i j,i<j->j<n->∀ a∈F i,∀ b∈F j,R a b):((E7 n).flatMap F).Pairwise R:=by
 induction n with
 | zero=>simp
 | succ n ih =>
  rw [s9,Hu];refine⟨ih (fun i hi=>h1 i (by omega)) (fun i j hij hj=>h2 i j hij (by omega)),h1 n (by omega),fun a ha b hb=>?_⟩;obtain⟨i,hi,ha⟩:=Fs.mp ha;exact h2 i n (Fe.mp hi) (by omega) a ha b hb
theorem lu (t n:Nat):(ja t n).Pairwise gLt:=by
 unfold ja;refine oV n (fun x _=>oV t (fun y _=>?_) fun y y' hy _ a ha b hb=>?_) fun x x' hx _ a ha b hb=>?_
 ·simp [gLt]
 ·simp only [EW,GF,or_false] at ha hb;rcases ha with rfl | rfl <;> rcases hb with rfl | rfl <;> (unfold gLt;dsimp only;omega)
 ·obtain⟨y,_,ha⟩:=Fs.mp ha;obtain⟨y',_,hb⟩:=Fs.mp hb;simp only [EW,GF,or_false] at ha hb;rcases ha with rfl | rfl <;> rcases hb with rfl | rfl <;> (unfold gLt;dsimp only;omega)
theorem gj {Kt:List (List Int)} {wd:Nat} {cut:Int} (g:Good wd Kt):(yy Kt wd cut).length<=98:=by
 rw [v9];exact Fm (Gh _ _) (gh g.h2 g.w2)
abbrev oW (K:EI):Sp:=spN K 2 (fun (c:List (List Int)×Nat×Int) xs=>xs=[.dat (tab c.1),.dat (.int c.2.2)]/\Good c.2.1 c.1) fun c es=>es=((ja c.1.length c.2.1).filter (opG c.1 c.2.1 c.2.2)).map gD3
theorem wI (F:Def K mg "gates" du pB) (uai:FnIn P w K mg base k "ask_table" ph (lg K)) (uaB:FnIn P w K mg base k "points" ph (eP K)) (uas:FnIn P w K mg base k "is_open" pf (iA K)):FnIn P w K mg base (k+1) "gates" pB (oW K):=by
 refine F.okN kY rfl fun fa cdv A outer s H E hr=>⟨_,(zc (jf (zf uai hr rfl (za (pv 0) zb))) (zc (kg (i:=2) (N:=qf) (own:=3) (fr:=[]) (by walk_at "c") rfl kY.nd rfl (Or.inl rfl) (yh (K:=K) rfl (zf uaB hr rfl (za (pv 0) zb))) (fun _ _ _ _=>(zI (K:=K) (n:=2) rfl rfl (ze (zg (i:=0) (show (qf:List Str).Nodup by decide +kernel) rfl (Or.inl rfl) (Or.inr rfl)) (ze (zg (i:=1) (show (qf:List Str).Nodup by decide +kernel) rfl (Or.inl rfl) (Or.inr rfl)) zB)))) (fun _ _ _ _=>yX) (fun _ _ _ _=>(gR (K:=K) rfl (zN (za zd (za zd zb))))) (fun _ _ _ _=>(zg (i:=2) (show (qf:List Str).Nodup by decide +kernel) rfl (Or.inl rfl) (Or.inr rfl))) (fun _ _ _ _=>yX) (fun _ _ _ _=>(zN (za (pv 0) (za (pv 1) (za (pv 2) zb))))) rfl rfl (fun _=>rfl) (fun _ _ _ _ _=>rfl) (Or.inl rfl) rfl) (zh (zu (jb (N:=pE) (own:=1) (fr:=[0,1]) (by walk_at "c") rfl (yh (K:=K) rfl (pv 2)) (fun _ _ _ _=>(zg (i:=0) (show (pE:List Str).Nodup by decide +kernel) rfl (Or.inl rfl) (Or.inr rfl))) (fun _ _ _ _=>(bt (ym (K:=K) rfl (zf uas hr rfl (za (pv 1) (za (pv 2) (za (pv 0) zb)))) (fun _=>rfl)))) (fun _ _ _ _=>(pv 0)) rfl rfl (fun _=>rfl)))))),?_⟩;rintro f xs ⟨Kt,wd,cut⟩ hl ⟨rfl,g⟩
 try dsimp only [ye,zj]
 dsimp only at *;have sl:=gh g.h2 g.w2;refine bC (dS (zr (Kt,wd) ?_));walk_at "w";rintro _ rfl;refine bC (yk (PEdO.ped (CB (yQ (zr (Kt,wd) ?_)))));walk_at "w";rintro _ rfl;refine⟨_,rfl,F2,by rw [lr,EF];exact Fm sl (by decide),?_,?_⟩
 ·rintro D d ρ' es hd ho hes;obtain⟨x,y,rfl⟩:=A1 hd;obtain⟨u1,u2,u3,rfl⟩:=ho.three;refine ju rfl (zy (zp (zy (zp (yx (q9 ?_))))));rw [Kw rfl];have hes':es.length+2<=1000:=hes;refine CA (uA (vP (zv (yE (zv (yE (yd ⟨_,rfl,by simp,_,rfl,fun m ρ es2=>(∃ v,ρ=[some (.dat (.int x)),some (.dat (.int y)),v])/\es2=es++[qR x y 0,qR x y 1].take m,⟨⟨_,rfl⟩,by simp⟩,?_,?_⟩)))))))
  ·rintro m d ρ2 es2 hd2 ⟨⟨v,rfl⟩,rfl⟩;have hm:(m=0/\d=.int 0) \/ (m=1/\d=.int 1):=by
    rcases m with _ | _ | q
    ·cases hd2;exact .inl ⟨rfl,rfl⟩
    ·cases hd2;exact .inr ⟨rfl,rfl⟩
    ·cases hd2
   rcases hm with⟨rfl,rfl⟩ | ⟨rfl,rfl⟩
   ·refine zp (q9 ?_);rw [Kw rfl];refine jv (by simp;omega) ?_;walk_at "w";simp;rfl
   ·refine zp (q9 ?_);rw [Kw rfl];refine jv (by simp;omega) ?_;walk_at "w";simp;rfl
  ·rintro ρ2 es2 ⟨⟨v,rfl⟩,rfl⟩;exact⟨⟨[_,_,_],rfl,rfl⟩,rfl⟩
 ·rw [show List.flatMap F2 (vd (Kt,wd).1.length (Kt,wd).2)=(ja Kt.length wd).map gD3 from lr _ _];refine zp (fO (vY (yQ (zq rfl ⟨_,rfl,fun n ρ es=>(∃ u,ρ=[u,some (.dat (tab Kt)),some (.dat (.int cut))])/\es=(((ja Kt.length wd).take n).filter (opG Kt wd cut)).map gD3,⟨⟨_,rfl⟩,rfl⟩,?_,?_⟩))))
  ·rintro D n d ρ' es hd ⟨⟨u,rfl⟩,rfl⟩;rw [EO] at hd;cases hq:(ja Kt.length wd)[n]? with
   | none=>rw [hq] at hd;cases hd
   | some q =>
    rw [hq] at hd;cases hd;have tk:(ja Kt.length wd).take (n+1)=(ja Kt.length wd).take n++[q]:=by
     rw [Iq,hq];rfl
    have len:((((ja Kt.length wd).take n).filter (opG Kt wd cut)).map gD3).length<1000:=by
     rw [EF];have a1:=Gh (opG Kt wd cut) ((ja Kt.length wd).take n);rw [Fo] at a1;omega
    refine zp (jN (zr (Kt,wd,cut,q.1,q.2.1,q.2.2) ?_));unfold gD3 at *;walk_at "w";rintro _ rfl;dsimp only;refine⟨_,rfl,?_⟩;refine yt (fun h=>?_) fun h=>?_
    ·refine jv len ?_;walk_at "w";rw [tk,Gq,E9,FY,show opG Kt wd cut q=true from h,Kw rfl];rfl
    ·refine⟨⟨_,rfl⟩,?_⟩;rw [tk,Gq,E9,FY,show opG Kt wd cut q=false from h,Kv EG];simp
  ·rintro ρ' es ⟨_,rfl⟩;rw [EF,Fq]
abbrev CC:=List (List Int)×Nat×Int×Int×Int
noncomputable def z6 (Kt:List (List Int)) (wd:Nat) (x y:Int):Bool:=yj Kt wd x y && yj Kt wd (x+1) (y+1)
noncomputable def hiB (Kt:List (List Int)) (cut x y:Int):Bool:=decide (cut<zJ Kt x y)
theorem cell_in {Kt:List (List Int)} {wd:Nat} {x y:Int} (h:z6 Kt wd x y=true):yj Kt wd x y=true/\yj Kt wd (x+1) y=true/\yj Kt wd (x+1) (y+1)=true/\yj Kt wd x (y+1)=true:=by
 unfold z6 at h;rw [EV] at h;obtain⟨a0,a1,a2,a3⟩:=jB h.1;obtain⟨b0,b1,b2,b3⟩:=jB h.2;refine⟨h.1,?_,h.2,?_⟩ <;> unfold yj <;> rw [Kx (by omega),Kx (by omega)] <;> rfl
section
variable {Kt:List (List Int)} {wd:Nat} {cut x y:Int}
theorem oX (h:z6 Kt wd x y=true):yG Kt wd cut x y 0=(hiB Kt cut x y != hiB Kt cut (x+1) y):=by
 obtain⟨a,b,c,d⟩:=cell_in h;unfold yG v8;show (decide ((0:Int)=0 \/ (0:Int)=1) && (yj Kt wd x y && yj Kt wd (x+1) y) && _)=_;rw [a,b];rfl
theorem wJ (h:z6 Kt wd x y=true):yG Kt wd cut x y 1=(hiB Kt cut x y != hiB Kt cut x (y+1)):=by
 obtain⟨a,b,c,d⟩:=cell_in h;unfold yG v8;show (decide ((1:Int)=0 \/ (1:Int)=1) && (yj Kt wd x y && yj Kt wd x (y+1)) && _)=_;rw [a,d];rfl
theorem oY (h:z6 Kt wd x y=true):yG Kt wd cut x (y+1) 0=(hiB Kt cut x (y+1) != hiB Kt cut (x+1) (y+1)):=by
 obtain⟨a,b,c,d⟩:=cell_in h;unfold yG v8;show (decide ((0:Int)=0 \/ (0:Int)=1) && (yj Kt wd x (y+1) && yj Kt wd (x+1) (y+1)) && _)=_;rw [c,d];rfl
theorem oZ (h:z6 Kt wd x y=true):yG Kt wd cut (x+1) y 1=(hiB Kt cut (x+1) y != hiB Kt cut (x+1) (y+1)):=by
 obtain⟨a,b,c,d⟩:=cell_in h;unfold yG v8;show (decide ((1:Int)=0 \/ (1:Int)=1) && (yj Kt wd (x+1) y && yj Kt wd (x+1) (y+1)) && _)=_;rw [b,c];rfl
end
noncomputable def cg (x y:Int):List (Int×Int×Int):=[(x,y,0),(x,y,1),(x,y+1,0),(x+1,y,1)]
noncomputable def iB (Kt:List (List Int)) (wd:Nat) (cut x y:Int):Bool:=(cg x y).all (opG Kt wd cut)
noncomputable def Eg (Kt:List (List Int)) (x y:Int):Int:=zJ Kt x y+(zJ Kt (x+1) y+(zJ Kt (x+1) (y+1)+(zJ Kt x (y+1)+0)))
noncomputable def cF (Kt:List (List Int)) (cut x y:Int):Bool:=decide (4 * cut+2<=Eg Kt x y)
noncomputable def pairD (g h:Int×Int×Int):PyData:=.tuple [gD3 g,gD3 h]
abbrev mY (K:EI):Sp:=spD K 3 (fun (c:List (List Int)×Nat×Int×Int) xs=>xs=[.dat (tab c.1),.dat (.int c.2.2.1),.dat (.int c.2.2.2)]/\Good c.2.1 c.1) fun c r=>r=.bool (z6 c.1 c.2.1 c.2.2.1 c.2.2.2)
theorem A3 (F:Def K mg "has_cell" vt pq) (uak:FnIn P w K mg base k "has_point" pq (oS K)):FnIn P w K mg base (k+1) "has_cell" pq (mY K):=by
 refine F.ok kU rfl fun fa cdv A outer s H E hr=>⟨_,(zh (zu (aS (zf uak hr rfl (za (pv 0) (za (pv 1) (za (pv 2) zb)))) (b6 (zf uak hr rfl (za (pv 0) (za (zk zX (pv 1) zd) (za (zk zX (pv 2) zd) zb)))))))),?_⟩;rintro f xs ⟨Kt,wd,x,y⟩ hl ⟨rfl,g⟩
 try dsimp only [ye,zj]
 dsimp only at *;refine yI (mw (zr (Kt,wd,x,y) ?_));walk_at "w";rintro _ rfl;dsimp only;refine⟨_,rfl,?_⟩;refine yt (fun h=>?_) fun h=>?_
 ·refine zr (Kt,wd,x+1,y+1) ?_;walk_at "w";rintro _ rfl;dsimp only;unfold z6;rw [h,G5]
 ·unfold z6;rw [h,Gu]
abbrev gk (K:EI):Sp:=spD K 2 (fun (c:Int×Int) xs=>xs=[.dat (.int c.1),.dat (.int c.2)]) fun c r=>r=.list [.tuple [.int c.1,.int c.2],.tuple [.int (c.1+1),.int c.2],.tuple [.int (c.1+1),.int (c.2+1)],.tuple [.int c.1,.int (c.2+1)]]
theorem mZ (F:Def K mg "corners" ay pK):FnIn P w K mg base (k+1) "corners" pK (gk K):=by
 refine F.ok mQ rfl fun fa cdv A outer s H E hr=>⟨_,(zh (zu (yw (za (zN (za (pv 0) (za (pv 1) zb))) (za (zN (za (zk zX (pv 0) zd) (za (pv 1) zb))) (za (zN (za (zk zX (pv 0) zd) (za (zk zX (pv 1) zd) zb))) (za (zN (za (pv 0) (za (zk zX (pv 1) zd) zb))) zb))))))),?_⟩;rintro f xs ⟨x,y⟩ hl rfl
 try dsimp only [ye,zj]
 dsimp only at *;walk_at "w";rfl
abbrev bW (K:EI):Sp:=spD K 1 (fun (c:Int×Int) xs=>xs=[.dat (.tuple [.int c.1,.int c.2])]) fun c r=>r=.list ((cg c.1 c.2).map gD3)
theorem td (F:Def K mg "cell_gates" j9 ["cell"]):FnIn P w K mg base (k+1) "cell_gates" ["cell"] (bW K):=by
 refine F.ok qV rfl fun fa cdv A outer s H E hr=>⟨_,(zc (yn (pv 0) (zI (K:=K) (n:=2) rfl rfl (ze (zg (i:=1) qV.nd rfl (Or.inl rfl) (Or.inr rfl)) (ze (zg (i:=2) qV.nd rfl (Or.inl rfl) (Or.inr rfl)) zB)))) (zh (zu (yw (za (zN (za (pv 1) (za (pv 2) (za zd zb)))) (za (zN (za (pv 1) (za (pv 2) (za zd zb)))) (za (zN (za (pv 1) (za (zk zX (pv 2) zd) (za zd zb)))) (za (zN (za (zk zX (pv 1) zd) (za (pv 2) (za zd zb)))) zb)))))))),?_⟩;rintro f xs ⟨x,y⟩ hl rfl
 try dsimp only [ye,zj]
 dsimp only at *;walk_at "w";rfl
abbrev A4 (c:CC) (xs:List DV):Prop:=xs=[.dat (tab c.1),.dat (.int c.2.2.1),.dat (.tuple [.int c.2.2.2.1,.int c.2.2.2.2])]/\Good c.2.1 c.1/\z6 c.1 c.2.1 c.2.2.2.1 c.2.2.2.2=true
abbrev gm (K:EI):Sp:=spD K 3 A4 fun c r=>r=.bool (iB c.1 c.2.1 c.2.2.1 c.2.2.2.1 c.2.2.2.2)
theorem m5 (F:Def K mg "is_crossed" ql pj) (uaj:mg "all"=none) (uas:FnIn P w K mg base k "is_open" pf (iA K)) (uat:FnIn P w K mg base k "cell_gates" ["cell"] (bW K)):FnIn P w K mg base (k+1) "is_crossed" pj (gm K):=by
 refine F.ok ft rfl fun fa cdv A outer s H E hr=>⟨_,(zh (zu (zF (fM (K:=K) rfl rfl) rfl uaj JP (za (jb (N:=pE) (own:=1) (fr:=[0,1]) (by walk_at "c") rfl (yh (K:=K) rfl (zf uat hr rfl (za (pv 2) zb))) (fun _ _ _ _=>(zg (i:=0) (show (pE:List Str).Nodup by decide +kernel) rfl (Or.inl rfl) (Or.inr rfl))) (fun _ _ _ _=>yX) (fun _ _ _ _=>(zf uas hr rfl (za (pv 1) (za (pv 2) (za (pv 0) zb))))) rfl rfl (fun _=>rfl)) zb)))),?_⟩;rintro f xs ⟨Kt,wd,cut,x,y⟩ hl ⟨rfl,g,hc⟩
 try dsimp only [ye,zj]
 dsimp only at *;refine yI (BE (PEdO.ped (kr (A:=gD3) (B:=fun q=>PyData.bool (opG Kt wd cut q)) (cg x y) (yQ (zr (x,y) ?_)))));walk_at "w";rintro _ rfl;refine⟨_,rfl,rfl,show 4<=1000 by decide,?_,?_⟩
 ·rintro D q ρ' es hq ho hes;obtain⟨u,rfl⟩:=ho.one;refine zp (q9 ?_);rw [Kw rfl];refine jv hes (zr (Kt,wd,cut,q.1,q.2.1,q.2.2) ?_);unfold gD3;walk_at "w";rintro _ rfl;exact⟨.mk1,rfl⟩
 ·refine⟨(cg x y).map (opG Kt wd cut),by rw [GG];rfl,?_⟩;show PyData.bool _=PyData.bool _;unfold iB;rw [List.all_map];rfl
abbrev BO (K:EI):Sp:=spD K 3 A4 fun c r=>r=.bool (cF c.1 c.2.2.1 c.2.2.2.1 c.2.2.2.2)
theorem Di (F:Def K mg "has_high_middle" yT pj) (uaC:mg "sum"=none) (ua9:FnIn P w K mg base k "corners" pK (gk K)):FnIn P w K mg base (k+1) "has_high_middle" pj (BO K):=by
 refine F.ok jk rfl fun fa cdv A outer s H E hr=>⟨_,(zc (yn (pv 2) (zI (K:=K) (n:=2) rfl rfl (ze (zg (i:=3) jk.nd rfl (Or.inl rfl) (Or.inr rfl)) (ze (zg (i:=4) jk.nd rfl (Or.inl rfl) (Or.inr rfl)) zB)))) (zh (zu (yD uh (zF (mC (K:=K) rfl rfl) rfl uaC PyProof.Rows.boot_sum (za (jb (N:=pN) (own:=2) (fr:=[0]) (by walk_at "c") rfl (yh (K:=K) rfl (zf ua9 hr rfl (za (pv 3) (za (pv 4) zb)))) (fun _ _ _ _=>(zI (K:=K) (n:=2) rfl rfl (ze (zg (i:=0) (show (pN:List Str).Nodup by decide +kernel) rfl (Or.inl rfl) (Or.inr rfl)) (ze (zg (i:=1) (show (pN:List Str).Nodup by decide +kernel) rfl (Or.inl rfl) (Or.inr rfl)) zB)))) (fun _ _ _ _=>yX) (fun _ _ _ _=>(zE (zH (K:=K) rfl) (zE (zH (K:=K) rfl) (pv 2) (pv 1) (fun _ _=>rfl)) (pv 0) (fun _ _=>rfl))) rfl rfl (fun _=>rfl)) zb)) (zk zX (zk aV zd (pv 1)) zd) (zQ _))))),?_⟩;rintro f xs ⟨Kt,wd,cut,x,y⟩ hl ⟨rfl,g,hc⟩
 try dsimp only [ye,zj]
 dsimp only at *;obtain⟨i1,i2,i3,i4⟩:=cell_in hc;refine yg (yk (zq rfl (ju rfl (zy (zp (zy (zp (yx ?_))))))));refine yI (kh (DY (PEdO.ped (kr (A:=fun p:Int×Int=>PyData.tuple [.int p.1,.int p.2]) (B:=fun p:Int×Int=>PyData.int (zJ Kt p.1 p.2)) [(x,y),(x+1,y),(x+1,y+1),(x,y+1)] (yQ (zr (x,y) ?_))))));walk_at "w";rintro _ rfl;refine⟨_,rfl,rfl,show 4<=1000 by decide,?_,?_⟩
 ·rintro D p ρ' es hp ho hes;obtain⟨u,v,rfl⟩:=ho.two;have hi:yj Kt wd p.1 p.2=true:=by
   simp only [EW,GF,or_false] at hp;rcases hp with rfl | rfl | rfl | rfl
   ·exact i1
   ·exact i2
   ·exact i3
   ·exact i4
  obtain⟨r,h1,h2⟩:=eO g hi;refine ju rfl (zy (zp (zy (zp (yx (q9 ?_))))));rw [Kw rfl];refine jv hes ?_;unfold tab;walk_at "w";refine⟨_,h1,?_⟩;walk_at "w";refine⟨_,h2,?_⟩;exact⟨.mk2,rfl⟩
 ·refine⟨[zJ Kt x y,zJ Kt (x+1) y,zJ Kt (x+1) (y+1),zJ Kt x (y+1)],rfl,?_⟩;walk_at "w";rfl
noncomputable def iC (Kt:List (List Int)) (cut x y:Int):List PyData:=if (hiB Kt cut x y == cF Kt cut x y)=true then [pairD (x,y,0) (x+1,y,1),pairD (x,y,1) (x,y+1,0)] else [pairD (x,y,0) (x,y,1),pairD (x,y+1,0) (x+1,y,1)]
noncomputable def thr (Kt:List (List Int)) (wd:Nat) (cut x y:Int):List (Int×Int×Int):=(cg x y).filter (opG Kt wd cut)
noncomputable def wK:List (Int×Int×Int)->List PyData
 | a :: b :: _=>[pairD a b]
 | _=>[]
noncomputable def o3 (Kt:List (List Int)) (wd:Nat) (cut x y:Int):List PyData:=if iB Kt wd cut x y=true then iC Kt cut x y else wK (thr Kt wd cut x y)
theorem A5 {Kt:List (List Int)} {wd:Nat} {cut x y:Int} (h:z6 Kt wd x y=true):thr Kt wd cut x y=[] \/ ∃ a b r,thr Kt wd cut x y=a :: b :: r:=by
 have e1:opG Kt wd cut (x,y,0)=_:=oX (cut:=cut) h;have e2:opG Kt wd cut (x,y,1)=_:=wJ (cut:=cut) h;have e3:opG Kt wd cut (x,y+1,0)=_:=oY (cut:=cut) h;have e4:opG Kt wd cut (x+1,y,1)=_:=oZ (cut:=cut) h;unfold thr cg;simp only [FY,e1,e2,e3,e4,JM];cases hiB Kt cut x y <;> cases hiB Kt cut (x+1) y <;> cases hiB Kt cut (x+1) (y+1) <;> cases hiB Kt cut x (y+1) <;> simp
abbrev ly (K:EI):Sp:=spN K 3 A4 fun c es=>es=iC c.1 c.2.2.1 c.2.2.2.1 c.2.2.2.2
theorem tf (F:Def K mg "crossed_ties" jx pj) (uat:FnIn P w K mg base k "cell_gates" ["cell"] (bW K)) (ual:FnIn P w K mg base k "stands_high" pH (iy K)) (uba:FnIn P w K mg base k "has_high_middle" pj (BO K)):FnIn P w K mg base (k+1) "crossed_ties" pj (ly K):=by
 refine F.okN yM rfl fun fa cdv A outer s H E hr=>⟨_,(zc (yn (zf uat hr rfl (za (pv 2) zb)) (gT (K:=K) (n:=4) rfl rfl (ze (zg (i:=3) yM.nd rfl (Or.inl rfl) (Or.inr rfl)) (ze (zg (i:=4) yM.nd rfl (Or.inl rfl) (Or.inr rfl)) (ze (zg (i:=5) yM.nd rfl (Or.inl rfl) (Or.inr rfl)) (ze (zg (i:=6) yM.nd rfl (Or.inl rfl) (Or.inr rfl)) zB)))))) (zc (yC (zZ (jV (K:=K) rfl hr.units) (zf ual hr rfl (za (pv 0) (za (pv 1) (za (pv 2) zb)))) (zf uba hr rfl (za (pv 0) (za (pv 1) (za (pv 2) zb)))) (zQ _)) (zh (zu (yw (za (zN (za (pv 3) (za (pv 6) zb))) (za (zN (za (pv 4) (za (pv 5) zb))) zb))))) zV) (zh (zu (yw (za (zN (za (pv 3) (za (pv 4) zb))) (za (zN (za (pv 5) (za (pv 6) zb))) zb))))))),?_⟩;rintro f xs ⟨Kt,wd,cut,x,y⟩ hl ⟨rfl,g,hc⟩
 try dsimp only [ye,zj]
 dsimp only at *;have hi:=(cell_in hc).1;refine bC (yk (zr (x,y) ?_));walk_at "w";rintro _ rfl;refine uH rfl (zy (zp (zy (zp (zy (zp (zy (zp (yx ?_)))))))));refine BG (yV (aL (zr (Kt,wd,cut,x,y) ?_)));walk_at "w";rintro _ rfl;refine zr (Kt,wd,cut,x,y) ?_;walk_at "w";rintro _ rfl;dsimp only;walk_at "w";rw [Kv EG,lh];unfold iC;refine yt (fun h=>?_) fun h=>?_
 ·rw [Kw (show (hiB Kt cut x y == cF Kt cut x y)=true from h)];refine d7 ?_;walk_at "w";rfl
 ·rw [Kv (show ¬ (hiB Kt cut x y == cF Kt cut x y)=true from by rw [show (hiB Kt cut x y == cF Kt cut x y)=false from h];exact EG)];refine fO (d7 ?_);walk_at "w";rfl
abbrev o4 (K:EI):Sp:=spN K 3 A4 fun c es=>es=o3 c.1 c.2.1 c.2.2.1 c.2.2.2.1 c.2.2.2.2
theorem wL (F:Def K mg "cell_ties" qO pj) (ubb:FnIn P w K mg base k "is_crossed" pj (gm K)) (ubc:FnIn P w K mg base k "crossed_ties" pj (ly K)) (uat:FnIn P w K mg base k "cell_gates" ["cell"] (bW K)) (uas:FnIn P w K mg base k "is_open" pf (iA K)):FnIn P w K mg base (k+1) "cell_ties" pj (o4 K):=by
 refine F.okN bT rfl fun fa cdv A outer s H E hr=>⟨_,(zc (yC (ym (K:=K) rfl (zf ubb hr rfl (za (pv 0) (za (pv 1) (za (pv 2) zb)))) (fun _=>rfl)) (zh (zu (zf ubc hr rfl (za (pv 0) (za (pv 1) (za (pv 2) zb)))))) zV) (zc (cK (i:=3) (N:=pE) (own:=1) (fr:=[0,1]) (by walk_at "c") rfl bT.nd rfl (Or.inl rfl) (yh (K:=K) rfl (zf uat hr rfl (za (pv 2) zb))) (fun _ _ _ _=>(zg (i:=0) (show (pE:List Str).Nodup by decide +kernel) rfl (Or.inl rfl) (Or.inr rfl))) (fun _ _ _ _=>(bt (ym (K:=K) rfl (zf uas hr rfl (za (pv 1) (za (pv 2) (za (pv 0) zb)))) (fun _=>rfl)))) (fun _ _ _ _=>(pv 0)) rfl rfl (fun _=>rfl) (Or.inl rfl) rfl) (zh (zu (vT (ym (K:=K) rfl (pv 3) (fun _=>rfl)) (yw (za (zN (za (zE (zH (K:=K) rfl) (pv 3) zd (fun _ _=>rfl)) (za (zE (zH (K:=K) rfl) (pv 3) zd (fun _ _=>rfl)) zb))) zb)) (yw zb)))))),?_⟩;rintro f xs ⟨Kt,wd,cut,x,y⟩ hl ⟨rfl,g,hc⟩
 try dsimp only [ye,zj]
 dsimp only at *;refine BG (jN (zr (Kt,wd,cut,x,y) ?_));walk_at "w";rintro _ rfl;dsimp only;refine⟨_,rfl,?_⟩;unfold o3;refine yt (fun h=>?_) fun h=>?_
 ·rw [Kw h];refine gU (Kt,wd,cut,x,y) ?_;walk_at "w";exact fun es he=>he
 ·rw [Kv (by rw [h];exact EG)];refine bC (yk (PEdO.ped (vY (yQ (zr (x,y) ?_)))));walk_at "w";rintro _ rfl;refine⟨_,rfl,fun n ρ es=>(∃ u,ρ=[u,some (.dat (tab Kt)),some (.dat (.int cut))])/\es=(((cg x y).take n).filter (opG Kt wd cut)).map gD3,⟨⟨_,rfl⟩,rfl⟩,?_,?_⟩
  ·rintro D n d ρ' es hd ⟨⟨u,rfl⟩,rfl⟩;rw [EO] at hd;cases hq:(cg x y)[n]? with
   | none=>rw [hq] at hd;cases hd
   | some q =>
    rw [hq] at hd;cases hd;have hn:n<(cg x y).length:=(EH.mp hq).1;have n4:n<4:=hn;have tk:(cg x y).take (n+1)=(cg x y).take n++[q]:=by
     rw [Iq,hq];rfl
    have len:((((cg x y).take n).filter (opG Kt wd cut)).map gD3).length<1000:=by
     rw [EF];have a1:=Gh (opG Kt wd cut) ((cg x y).take n);rw [Fo] at a1;omega
    refine zp (jN (zr (Kt,wd,cut,q.1,q.2.1,q.2.2) ?_));unfold gD3 at *;walk_at "w";rintro _ rfl;dsimp only;refine⟨_,rfl,?_⟩;refine yt (fun h=>?_) fun h=>?_
    ·refine jv len ?_;walk_at "w";rw [tk,Gq,E9,FY,show opG Kt wd cut q=true from h,Kw rfl];rfl
    ·refine⟨⟨_,rfl⟩,?_⟩;rw [tk,Gq,E9,FY,show opG Kt wd cut q=false from h,Kv EG];simp
  ·rintro ρ' es ⟨_,rfl⟩;rw [EF,Fq];rw [show List.filter (opG Kt wd cut) (cg (x,y).1 (x,y).2)=thr Kt wd cut x y from rfl];rcases A5 (cut:=cut) hc with e | ⟨a,b,r,e⟩
   ·rw [e];refine zp (fO (BH (jN (zq rfl ⟨false,rfl,?_⟩))));rw [Kv EG];exact nV rfl
   ·rw [e];have h0:atI ((a :: b :: r).map gD3) 0=some (gD3 a):=qs (xs:=a :: b :: r) (j:=0) rfl (IS _);have h1:atI ((a :: b :: r).map gD3) 1=some (gD3 b):=qs (xs:=a :: b :: r) (j:=1) rfl (Nat.succ_lt_succ (IS _));refine zp (fO (BH (jN (zq rfl ⟨true,rfl,?_⟩))));rw [Kw rfl];refine d7 ?_;walk_at "w";refine⟨_,h0,?_⟩;walk_at "w";refine⟨_,h1,?_⟩;walk_at "w";rfl
noncomputable def opF (A B C D:Bool) (i:Fin 4):Bool:=match i with
 | 0=>A != B
 | 1=>A != D
 | 2=>D != C
 | 3=>B != C
noncomputable def enF (A B C D:Bool) (i:Fin 4):Bool:=match i with
 | 0=>!A
 | 1=>A
 | 2=>D
 | 3=>!B
noncomputable def aa (A B C D M:Bool):List (Fin 4×Fin 4) :=
 if (opF A B C D 0 && opF A B C D 1 && opF A B C D 2 && opF A B C D 3)=true then (if (A == M)=true then [(0,3),(1,2)] else [(0,1),(2,3)]) else
 match ([0,1,2,3]:List (Fin 4)).filter (opF A B C D) with
 | a :: b :: _=>[(a,b)]
 | _=>[]
noncomputable def prt {α:Type} [DecidableEq α] (l:List (α×α)) (g:α):Option α:=l.findSome? fun p=>if p.1=g then some p.2 else if p.2=g then some p.1 else none
theorem A6:∀ (A B C D M:Bool) (i:Fin 4),opF A B C D i=true->∃ j,prt (aa A B C D M) i=some j/\j≠i/\opF A B C D j=true/\prt (aa A B C D M) j=some i/\enF A B C D j=!enF A B C D i:=by decide
theorem lz:∀ (A B C D M:Bool),aa A B C D M=[] \/ (∃ a b,a≠b/\aa A B C D M=[(a,b)]) \/ ∃ a b c d,a≠b/\a≠c/\a≠d/\b≠c/\b≠d/\c≠d/\aa A B C D M=[(a,b),(c,d)]:=by decide
abbrev Gt:=Int×Int×Int
noncomputable def gt (x y:Int) (i:Fin 4):Gt:=match i with
 | 0=>(x,y,0)
 | 1=>(x,y,1)
 | 2=>(x,y+1,0)
 | 3=>(x+1,y,1)
theorem eR {x y:Int} {i j:Fin 4} (h:gt x y i=gt x y j):i=j:=by
 have h1:(gt x y i).1=(gt x y j).1:=by rw [h]
 have h2:(gt x y i).2.1=(gt x y j).2.1:=by rw [h]
 have h3:(gt x y i).2.2=(gt x y j).2.2:=by rw [h]
 revert h1 h2 h3
 clear h
 match i,j with
 | 0,0=>intros;rfl
 | 0,1=>intro _ _ h;simp [gt] at h
 | 0,2=>intro _ h _;simp [gt] at h;omega
 | 0,3=>intro _ _ h;simp [gt] at h
 | 1,0=>intro _ _ h;simp [gt] at h
 | 1,1=>intros;rfl
 | 1,2=>intro _ _ h;simp [gt] at h
 | 1,3=>intro h _ _;simp [gt] at h;omega
 | 2,0=>intro _ h _;simp [gt] at h;omega
 | 2,1=>intro _ _ h;simp [gt] at h
 | 2,2=>intros;rfl
 | 2,3=>intro _ _ h;simp [gt] at h
 | 3,0=>intro _ _ h;simp [gt] at h
 | 3,1=>intro h _ _;simp [gt] at h;omega
 | 3,2=>intro _ _ h;simp [gt] at h
 | 3,3=>intros;rfl
theorem iE {α β:Type} [DecidableEq α] [DecidableEq β] {f:α->β} (inj:∀ i j,f i=f j->i=j) (l:List (α×α)) (i:α):prt (l.map fun p=>(f p.1,f p.2)) (f i)=(prt l i).map f:=by
 unfold prt
 induction l with
 | nil=>rfl
 | cons p l ih =>
  rw [Fg,HP,HP];have e1:(f p.1=f i)↔p.1=i:=⟨inj _ _,fun z=>by rw [z]⟩;have e2:(f p.2=f i)↔p.2=i:=⟨inj _ _,fun z=>by rw [z]⟩;by_cases h1:p.1=i
  ·rw [Kw h1,Kw (e1.mpr h1)];rfl
  ·rw [Kv h1,Kv (fun z=>h1 (e1.mp z))];by_cases h2:p.2=i
   ·rw [Kw h2,Kw (e2.mpr h2)];rfl
   ·rw [Kv h2,Kv (fun z=>h2 (e2.mp z))];exact ih
section
variable (Kt:List (List Int)) (wd:Nat) (cut:Int)
noncomputable def t4 (x y:Int):List (Fin 4×Fin 4):=aa (hiB Kt cut x y) (hiB Kt cut (x+1) y) (hiB Kt cut (x+1) (y+1)) (hiB Kt cut x (y+1)) (cF Kt cut x y)
noncomputable def qX (x y:Int):List (Gt×Gt):=(t4 Kt cut x y).map fun p=>(gt x y p.1,gt x y p.2)
noncomputable def qC (w:Int) (h:Bool):Int×Int:=if w=0 then (if h=true then (0,-1) else (0,0)) else (if h=true then (0,0) else (-1,0))
noncomputable def qD (w:Int) (h:Bool):Int×Int:=if w=0 then (if h=true then (0,0) else (0,-1)) else (if h=true then (-1,0) else (0,0))
noncomputable def ahC (g:Gt):Int×Int:=(g.1+(qC g.2.2 (hiB Kt cut g.1 g.2.1)).1,g.2.1+(qC g.2.2 (hiB Kt cut g.1 g.2.1)).2)
noncomputable def bhC (g:Gt):Int×Int:=(g.1+(qD g.2.2 (hiB Kt cut g.1 g.2.1)).1,g.2.1+(qD g.2.2 (hiB Kt cut g.1 g.2.1)).2)
noncomputable def yc (g:Gt):Option Gt:=if z6 Kt wd (ahC Kt cut g).1 (ahC Kt cut g).2=true then prt (qX Kt cut (ahC Kt cut g).1 (ahC Kt cut g).2) g else none
noncomputable def y9 (g:Gt):Option Gt:=if z6 Kt wd (bhC Kt cut g).1 (bhC Kt cut g).2=true then prt (qX Kt cut (bhC Kt cut g).1 (bhC Kt cut g).2) g else none
end
section
variable {Kt:List (List Int)} {wd:Nat} {cut x y:Int}
theorem bc (h:z6 Kt wd x y=true) (i:Fin 4):opG Kt wd cut (gt x y i)=opF (hiB Kt cut x y) (hiB Kt cut (x+1) y) (hiB Kt cut (x+1) (y+1)) (hiB Kt cut x (y+1)) i:=by
 match i with
 | 0=>exact oX h
 | 1=>exact wJ h
 | 2=>exact oY h
 | 3=>exact oZ h
theorem o6 (i:Fin 4):(ahC Kt cut (gt x y i)=(x,y)↔enF (hiB Kt cut x y) (hiB Kt cut (x+1) y) (hiB Kt cut (x+1) (y+1)) (hiB Kt cut x (y+1)) i=true)/\(bhC Kt cut (gt x y i)=(x,y)↔enF (hiB Kt cut x y) (hiB Kt cut (x+1) y) (hiB Kt cut (x+1) (y+1)) (hiB Kt cut x (y+1)) i=false):=by
 unfold ahC bhC
 match i with
 | 0 =>
  show ((x+(qC 0 (hiB Kt cut x y)).1,y+(qC 0 (hiB Kt cut x y)).2)=(x,y)↔(!hiB Kt cut x y)=true)/\((x+(qD 0 (hiB Kt cut x y)).1,y+(qD 0 (hiB Kt cut x y)).2)=(x,y)↔(!hiB Kt cut x y)=false);cases hiB Kt cut x y <;> simp [qC,qD] <;> omega
 | 1 =>
  show ((x+(qC 1 (hiB Kt cut x y)).1,y+(qC 1 (hiB Kt cut x y)).2)=(x,y)↔hiB Kt cut x y=true)/\((x+(qD 1 (hiB Kt cut x y)).1,y+(qD 1 (hiB Kt cut x y)).2)=(x,y)↔hiB Kt cut x y=false);cases hiB Kt cut x y <;> simp [qC,qD] <;> omega
 | 2 =>
  show ((x+(qC 0 (hiB Kt cut x (y+1))).1,y+1+(qC 0 (hiB Kt cut x (y+1))).2)=(x,y)↔hiB Kt cut x (y+1)=true)/\((x+(qD 0 (hiB Kt cut x (y+1))).1,y+1+(qD 0 (hiB Kt cut x (y+1))).2)=(x,y)↔hiB Kt cut x (y+1)=false);cases hiB Kt cut x (y+1) <;> simp [qC,qD] <;> omega
 | 3 =>
  show ((x+1+(qC 1 (hiB Kt cut (x+1) y)).1,y+(qC 1 (hiB Kt cut (x+1) y)).2)=(x,y)↔(!hiB Kt cut (x+1) y)=true)/\((x+1+(qD 1 (hiB Kt cut (x+1) y)).1,y+(qD 1 (hiB Kt cut (x+1) y)).2)=(x,y)↔(!hiB Kt cut (x+1) y)=false);cases hiB Kt cut (x+1) y <;> simp [qC,qD] <;> omega
theorem o7 (h:z6 Kt wd x y=true) {i:Fin 4} (o:opG Kt wd cut (gt x y i)=true):∃ j,prt (qX Kt cut x y) (gt x y i)=some (gt x y j)/\j≠i/\opG Kt wd cut (gt x y j)=true/\prt (qX Kt cut x y) (gt x y j)=some (gt x y i) /\
  (ahC Kt cut (gt x y i)=(x,y)->bhC Kt cut (gt x y j)=(x,y))/\(bhC Kt cut (gt x y i)=(x,y)->ahC Kt cut (gt x y j)=(x,y)):=by
 rw [bc h] at o;obtain⟨j,h1,h2,h3,h4,h5⟩:=A6 _ _ _ _ (cF Kt cut x y) i o;have inj:∀ i j,gt x y i=gt x y j->i=j:=fun _ _=>eR;refine⟨j,?_,h2,by rw [bc h];exact h3,?_,fun z=>?_,fun z=>?_⟩
 ·unfold qX t4;rw [iE inj,h1];rfl
 ·unfold qX t4;rw [iE inj,h4];rfl
 ·rw [(o6 j).2,h5,(o6 i).1.mp z];rfl
 ·rw [(o6 j).1,h5,(o6 i).2.mp z];rfl
theorem lA (g:Gt) (hw:g.2.2=0 \/ g.2.2=1):∃ i,g=gt (ahC Kt cut g).1 (ahC Kt cut g).2 i:=by
 obtain⟨x,y,w⟩:=g;unfold ahC;dsimp only at hw ⊢;rcases hw with rfl | rfl
 ·cases hiB Kt cut x y
  ·exact⟨0,by simp [qC,gt]⟩
  ·exact⟨2,by simp [qC,gt];omega⟩
 ·cases hiB Kt cut x y
  ·exact⟨3,by simp [qC,gt];omega⟩
  ·exact⟨1,by simp [qC,gt]⟩
theorem tx (g:Gt) (hw:g.2.2=0 \/ g.2.2=1):∃ i,g=gt (bhC Kt cut g).1 (bhC Kt cut g).2 i:=by
 obtain⟨x,y,w⟩:=g;unfold bhC;dsimp only at hw ⊢;rcases hw with rfl | rfl
 ·cases hiB Kt cut x y
  ·exact⟨2,by simp [qD,gt];omega⟩
  ·exact⟨0,by simp [qD,gt]⟩
 ·cases hiB Kt cut x y
  ·exact⟨1,by simp [qD,gt]⟩
  ·exact⟨3,by simp [qD,gt];omega⟩
theorem vG {g:Gt} (o:opG Kt wd cut g=true):g.2.2=0 \/ g.2.2=1:=by
 unfold opG yG v8 at o;rw [EV,EV] at o;exact of_decide_eq_true o.1.1
theorem vH {g:Gt} (o:opG Kt wd cut g=true) (h:z6 Kt wd (ahC Kt cut g).1 (ahC Kt cut g).2=true):∃ n,yc Kt wd cut g=some n/\n≠g/\opG Kt wd cut n=true/\bhC Kt cut n=ahC Kt cut g/\y9 Kt wd cut n=some g:=by
 obtain⟨i,ei⟩:=lA (Kt:=Kt) (cut:=cut) g (vG o);have o':=o;rw [ei] at o';obtain⟨j,h1,h2,h3,h4,h5,_⟩:=o7 h o';rw [<-ei] at h1 h4 h5;have hb:=h5 rfl;refine⟨gt (ahC Kt cut g).1 (ahC Kt cut g).2 j,?_,fun z=>h2 (eR (z.trans ei)),h3,hb,?_⟩
 ·unfold yc;rw [Kw h];exact h1
 ·unfold y9;rw [hb,Kw h];exact h4
theorem dy {g:Gt} (o:opG Kt wd cut g=true) (h:z6 Kt wd (bhC Kt cut g).1 (bhC Kt cut g).2=true):∃ n,y9 Kt wd cut g=some n/\n≠g/\opG Kt wd cut n=true/\ahC Kt cut n=bhC Kt cut g/\yc Kt wd cut n=some g:=by
 obtain⟨i,ei⟩:=tx (Kt:=Kt) (cut:=cut) g (vG o);have o':=o;rw [ei] at o';obtain⟨j,h1,h2,h3,h4,_,h5⟩:=o7 h o';rw [<-ei] at h1 h4 h5;have hb:=h5 rfl;refine⟨gt (bhC Kt cut g).1 (bhC Kt cut g).2 j,?_,fun z=>h2 (eR (z.trans ei)),h3,hb,?_⟩
 ·unfold y9;rw [Kw h];exact h1
 ·unfold yc;rw [hb,Kw h];exact h4
theorem eT {g g' n:Gt} (o:opG Kt wd cut g=true) (o':opG Kt wd cut g'=true) (h:yc Kt wd cut g=some n) (h':yc Kt wd cut g'=some n):g=g':=by
 have c:z6 Kt wd (ahC Kt cut g).1 (ahC Kt cut g).2=true:=by
  unfold yc at h;by_cases z:z6 Kt wd (ahC Kt cut g).1 (ahC Kt cut g).2=true
  ·exact z
  ·rw [Kv z] at h;cases h
 have c':z6 Kt wd (ahC Kt cut g').1 (ahC Kt cut g').2=true:=by
  unfold yc at h';by_cases z:z6 Kt wd (ahC Kt cut g').1 (ahC Kt cut g').2=true
  ·exact z
  ·rw [Kv z] at h';cases h'
 obtain⟨m,a1,_,_,_,a2⟩:=vH o c;obtain⟨m',b1,_,_,_,b2⟩:=vH o' c';rw [h] at a1;rw [h'] at b1;cases a1;cases b1;rw [a2] at b2;exact Option.some.inj b2
theorem ve {g n:Gt} (o:opG Kt wd cut g=true) (h:yc Kt wd cut g=some n):opG Kt wd cut n=true/\n≠g:=by
 have c:z6 Kt wd (ahC Kt cut g).1 (ahC Kt cut g).2=true:=by
  unfold yc at h;by_cases z:z6 Kt wd (ahC Kt cut g).1 (ahC Kt cut g).2=true
  ·exact z
  ·rw [Kv z] at h;cases h
 obtain⟨m,a1,a2,a3,_,_⟩:=vH o c;rw [h] at a1;cases a1;exact⟨a3,a2⟩
end
abbrev m6 (K:EI):Sp:=spD K 3 (fun (c:List (List Int)×Nat×Int×Int×Int×Int) xs=>xs=[.dat (tab c.1),.dat (.int c.2.2.1),.dat (qR c.2.2.2.1 c.2.2.2.2.1 c.2.2.2.2.2)]/\Good c.2.1 c.1/\yj c.1 c.2.1 c.2.2.2.1 c.2.2.2.2.1=true) fun c r=>r=.str (gf c.1 c.2.2.1 c.2.2.2.1 c.2.2.2.2.1 c.2.2.2.2.2)
theorem m7 (F:Def K mg "heading" aA pf) (ual:FnIn P w K mg base k "stands_high" pH (iy K)):FnIn P w K mg base (k+1) "heading" pf (m6 K):=by
 refine F.ok qB rfl fun fa cdv A outer s H E hr=>⟨_,(zc (yn (pv 2) (zI (K:=K) (n:=3) rfl rfl (ze (zg (i:=3) qB.nd rfl (Or.inl rfl) (Or.inr rfl)) (ze (zg (i:=4) qB.nd rfl (Or.inl rfl) (Or.inr rfl)) (ze (zg (i:=5) qB.nd rfl (Or.inl rfl) (Or.inr rfl)) zB))))) (zc (zO (i:=6) qB.nd rfl (Or.inl rfl) (zf ual hr rfl (za (pv 0) (za (pv 1) (za (zN (za (pv 3) (za (pv 4) zb))) zb))))) (zc (yC (zZ (jV (K:=K) rfl hr.units) (pv 5) zd (zQ _)) (zh (zu (vT (ym (K:=K) rfl (pv 6) (fun _=>rfl)) vS vS))) zV) (zh (zu (vT (ym (K:=K) rfl (pv 6) (fun _=>rfl)) vS vS)))))),?_⟩;rintro f xs ⟨Kt,wd,cut,x,y,w⟩ hl ⟨rfl,g,hi⟩
 try dsimp only [ye,zj]
 dsimp only at *;unfold qR;refine yg (yk (zq rfl (ju rfl (zy (zp (zy (zp (zy (zp (yx ?_))))))))));refine yg (yk (zr (Kt,wd,cut,x,y) ?_));walk_at "w";rintro _ rfl;dsimp only;walk_at "w";rw [Kv EG,aB];unfold gf;refine yt (fun h=>?_) fun h=>?_
 ·have h':=of_decide_eq_true h;rw [Kw h'];walk_at "w";refine yt (fun h2=>?_) fun h2=>?_
  ·walk_at "w";rw [Kw (of_decide_eq_true h2)]
  ·walk_at "w";rw [Kv (of_decide_eq_false h2)]
 ·have h':=of_decide_eq_false h;rw [Kv h'];walk_at "w";refine yt (fun h2=>?_) fun h2=>?_
  ·walk_at "w";rw [Kw (of_decide_eq_true h2)]
  ·walk_at "w";rw [Kv (of_decide_eq_false h2)]
noncomputable abbrev Dj:List (Str×List Int):=[("down",[0,0]),("up",[0,-1]),("right",[0,0]),("left",[-1,0])]
noncomputable abbrev wM:List (Str×List Int):=[("down",[0,-1]),("up",[0,0]),("right",[-1,0]),("left",[0,0])]
theorem Dk {Kt:List (List Int)} {cut x y w:Int} (hw:w=0 \/ w=1):JX (gf Kt cut x y w) Dj=some [(qC w (hiB Kt cut x y)).1,(qC w (hiB Kt cut x y)).2]:=by
 unfold gf qC hiB;rcases hw with rfl | rfl
 ·by_cases h:cut<zJ Kt x y
  ·rw [Kw rfl,Kw h,Kw rfl,Kx h,Kw rfl];decide +kernel
  ·rw [Kw rfl,Kv h,Kw rfl,Ky h,Kv EG];decide +kernel
 ·have e:¬ ((1:Int)=0):=by decide
  by_cases h:cut<zJ Kt x y
  ·rw [Kv e,Kw h,Kv e,Kx h,Kw rfl];decide +kernel
  ·rw [Kv e,Kv h,Kv e,Ky h,Kv EG];decide +kernel
theorem Dm {Kt:List (List Int)} {cut x y w:Int} (hw:w=0 \/ w=1):JX (gf Kt cut x y w) wM=some [(qD w (hiB Kt cut x y)).1,(qD w (hiB Kt cut x y)).2]:=by
 unfold gf qD hiB;rcases hw with rfl | rfl
 ·by_cases h:cut<zJ Kt x y
  ·rw [Kw rfl,Kw h,Kw rfl,Kx h,Kw rfl];decide +kernel
  ·rw [Kw rfl,Kv h,Kw rfl,Ky h,Kv EG];decide +kernel
 ·have e:¬ ((1:Int)=0):=by decide
  by_cases h:cut<zJ Kt x y
  ·rw [Kv e,Kw h,Kv e,Kx h,Kw rfl];decide +kernel
  ·rw [Kv e,Kv h,Kv e,Ky h,Kv EG];decide +kernel
theorem m8 {Kt:List (List Int)} {wd:Nat} {cut:Int} {g:Gt} (o:opG Kt wd cut g=true):yj Kt wd g.1 g.2.1=true:=by
 unfold opG yG v8 at o;rw [EV,EV,EV] at o;exact o.1.2.1
abbrev GO:=List (List Int)×Nat×Int×Gt
abbrev tD (c:GO) (xs:List DV):Prop:=xs=[.dat (tab c.1),.dat (.int c.2.2.1),.dat (gD3 c.2.2.2)]/\Good c.2.1 c.1/\opG c.1 c.2.1 c.2.2.1 c.2.2.2=true
abbrev lC (K:EI):Sp:=spD K 3 tD fun c r=>r=.tuple [.int (ahC c.1 c.2.2.1 c.2.2.2).1,.int (ahC c.1 c.2.2.1 c.2.2.2).2]
theorem tE {uau:EL} (F:Def K mg "cell_ahead" qm pf) (uaD:mg "AHEAD"=some (.ref uau)) (uav:sN K uau Dj=true) (uaE:FnIn P w K mg base k "heading" pf (m6 K)):FnIn P w K mg base (k+1) "cell_ahead" pf (lC K):=by
 refine F.ok qW rfl fun fa cdv A outer s H E hr=>⟨_,(zc (yn (wk (K:=K) rfl rfl uaD uav (zf uaE hr rfl (za (pv 0) (za (pv 1) (za (pv 2) zb)))) (fun _ _=>rfl)) (zI (K:=K) (n:=2) rfl rfl (ze (zg (i:=3) qW.nd rfl (Or.inl rfl) (Or.inr rfl)) (ze (zg (i:=4) qW.nd rfl (Or.inl rfl) (Or.inr rfl)) zB)))) (zh (zu (zN (za (zk zX (zE (zP (K:=K) rfl) (pv 2) zd (fun _ _=>rfl)) (pv 3)) (za (zk zX (zE (zP (K:=K) rfl) (pv 2) zd (fun _ _=>rfl)) (pv 4)) zb)))))),?_⟩;rintro f xs ⟨Kt,wd,cut,x,y,w⟩ hl ⟨rfl,g,o⟩
 try dsimp only [ye,zj]
 dsimp only at *;have hw:=vG o;have hin:=m8 o;refine yg (yk (BJ (zr (Kt,wd,cut,x,y,w) ?_)));unfold gD3 at *;walk_at "w";rintro _ rfl;refine⟨_,_,rfl,Dk hw,?_⟩;refine ju rfl (zy (zp (zy (zp (yx ?_)))));walk_at "w";rfl
abbrev o8 (K:EI):Sp:=spD K 3 tD fun c r=>r=.bool (!z6 c.1 c.2.1 (bhC c.1 c.2.2.1 c.2.2.2).1 (bhC c.1 c.2.2.1 c.2.2.2).2)
theorem wN {uaw:EL} (F:Def K mg "comes_in" vz pf) (uaF:mg "BEHIND"=some (.ref uaw)) (uax:sN K uaw wM=true) (uaE:FnIn P w K mg base k "heading" pf (m6 K)) (uaG:FnIn P w K mg base k "has_cell" pq (mY K)):FnIn P w K mg base (k+1) "comes_in" pf (o8 K):=by
 refine F.ok v5 rfl fun fa cdv A outer s H E hr=>⟨_,(zc (yn (wk (K:=K) rfl rfl uaF uax (zf uaE hr rfl (za (pv 0) (za (pv 1) (za (pv 2) zb)))) (fun _ _=>rfl)) (zI (K:=K) (n:=2) rfl rfl (ze (zg (i:=3) v5.nd rfl (Or.inl rfl) (Or.inr rfl)) (ze (zg (i:=4) v5.nd rfl (Or.inl rfl) (Or.inr rfl)) zB)))) (zh (zu (B3 (zf uaG hr rfl (za (pv 0) (za (zk zX (zE (zP (K:=K) rfl) (pv 2) zd (fun _ _=>rfl)) (pv 3)) (za (zk zX (zE (zP (K:=K) rfl) (pv 2) zd (fun _ _=>rfl)) (pv 4)) zb)))))))),?_⟩;rintro f xs ⟨Kt,wd,cut,x,y,w⟩ hl ⟨rfl,g,o⟩
 try dsimp only [ye,zj]
 dsimp only at *;have hw:=vG o;have hin:=m8 o;refine yg (yk (BJ (zr (Kt,wd,cut,x,y,w) ?_)));unfold gD3 at *;walk_at "w";rintro _ rfl;refine⟨_,_,rfl,Dm hw,?_⟩;refine ju rfl (zy (zp (zy (zp (yx ?_)))));walk_at "w";refine zr (Kt,wd,(bhC Kt cut (x,y,w)).1,(bhC Kt cut (x,y,w)).2) ?_;walk_at "w";rintro _ rfl;exact⟨_,rfl,rfl⟩
noncomputable def aO:List (Gt×Gt)->List (PyData×PyData)->List (PyData×PyData)
 | [],kvs=>kvs
 | p :: l,kvs=>aO l (dput (gD3 p.2) (gD3 p.1) (dput (gD3 p.1) (gD3 p.2) kvs))
theorem m9 (l:List (Gt×Gt)) (p:Gt×Gt):∀ kvs,aO (l++[p]) kvs=dput (gD3 p.2) (gD3 p.1) (dput (gD3 p.1) (gD3 p.2) (aO l kvs)):=by
 induction l with
 | nil=>intro kvs;rfl
 | cons q l ih=>intro kvs;exact ih _
theorem eU (a b:PyData) (kvs:List (PyData×PyData)):(dput a b kvs).length<=kvs.length+1:=by
 unfold dput;split
 ·rw [EF];omega
 ·rw [EY];exact EN _
theorem tF (l:List (Gt×Gt)):∀ kvs,(aO l kvs).length<=kvs.length+2 * l.length:=by
 induction l with
 | nil=>intro kvs;exact EN _
 | cons q l ih =>
  intro kvs;have h1:=ih (dput (gD3 q.2) (gD3 q.1) (dput (gD3 q.1) (gD3 q.2) kvs));have h2:=eU (gD3 q.2) (gD3 q.1) (dput (gD3 q.1) (gD3 q.2) kvs);have h3:=eU (gD3 q.1) (gD3 q.2) kvs;show (aO l _).length<=_;rw [E1];omega
theorem iF {a b:Gt} (h:gD3 a=gD3 b):a=b:=by
 obtain⟨x,y,w⟩:=a;obtain⟨x',y',w'⟩:=b;unfold gD3 qR at h;simp at h;simp [h]
theorem wO {Kt:List (List Int)} {wd:Nat} {cut x y:Int} (h:z6 Kt wd x y=true):o3 Kt wd cut x y=(qX Kt cut x y).map fun p=>pairD p.1 p.2:=by
 have e0:opG Kt wd cut (x,y,0)=_:=bc (cut:=cut) h 0;have e1:opG Kt wd cut (x,y,1)=_:=bc (cut:=cut) h 1;have e2:opG Kt wd cut (x,y+1,0)=_:=bc (cut:=cut) h 2;have e3:opG Kt wd cut (x+1,y,1)=_:=bc (cut:=cut) h 3;unfold o3 qX t4 iB iC thr cg aa;simp only [Kb,List.all_nil,FY,JM,e0,e1,e2,e3,Ke];generalize cF Kt cut x y=M;generalize hiB Kt cut x y=A;generalize hiB Kt cut (x+1) y=B;generalize hiB Kt cut (x+1) (y+1)=C;generalize hiB Kt cut x (y+1)=D;cases A <;> cases B <;> cases C <;> cases D <;> cases M <;> rfl
theorem wQ {Kt:List (List Int)} {cut x y:Int} {g n:Gt} (h:prt (qX Kt cut x y) g=some n):bK (gD3 g) (aO (qX Kt cut x y) [])=some (gD3 n):=by
 have key:∀ a b:Gt,a≠b->gD3 a≠gD3 b:=fun a b ne z=>ne (iF z);have inj:∀ i j:Fin 4,i≠j->gt x y i≠gt x y j:=fun i j ne z=>ne (eR z);unfold qX t4 at h ⊢;rcases lz (hiB Kt cut x y) (hiB Kt cut (x+1) y) (hiB Kt cut (x+1) (y+1)) (hiB Kt cut x (y+1)) (cF Kt cut x y) with e | ⟨a,b,n1,e⟩ | ⟨a,b,c,d,n1,n2,n3,n4,n5,n6,e⟩
 ·rw [e] at h;cases h
 ·rw [e] at h ⊢;have k1:=key _ _ (inj a b n1);have k1':=F6 k1;simp only [Fg,Ie,aO] at h ⊢;unfold prt at h;simp only [HP,List.findSome?_nil] at h;by_cases c1:gt x y a=g
  ·rw [Kw c1] at h;cases h;simp [dput,bK,k1,k1',<- c1]
  ·rw [Kv c1] at h;by_cases c2:gt x y b=g
   ·rw [Kw c2] at h;cases h;simp [dput,bK,k1,k1',<- c2]
   ·rw [Kv c2] at h;cases h
 ·rw [e] at h ⊢;have k1:=key _ _ (inj a b n1);have k2:=key _ _ (inj a c n2);have k3:=key _ _ (inj a d n3);have k4:=key _ _ (inj b c n4);have k5:=key _ _ (inj b d n5);have k6:=key _ _ (inj c d n6);have j1:=F6 k1;have j2:=F6 k2;have j3:=F6 k3;have j4:=F6 k4;have j5:=F6 k5;have j6:=F6 k6;simp only [Fg,Ie,aO] at h ⊢;unfold prt at h;simp only [HP,List.findSome?_nil] at h;by_cases c1:gt x y a=g
  ·rw [Kw c1] at h;cases h;simp [dput,bK,k1,k2,k3,k4,k5,k6,j1,j2,j3,j4,j5,j6,<- c1]
  ·rw [Kv c1] at h;by_cases c2:gt x y b=g
   ·rw [Kw c2] at h;cases h;simp [dput,bK,k1,k2,k3,k4,k5,k6,j1,j2,j3,j4,j5,j6,<- c2]
   ·rw [Kv c2] at h;by_cases c3:gt x y c=g
    ·rw [Kw c3] at h;cases h;simp [dput,bK,k1,k2,k3,k4,k5,k6,j1,j2,j3,j4,j5,j6,<- c3]
    ·rw [Kv c3] at h;by_cases c4:gt x y d=g
     ·rw [Kw c4] at h;cases h;simp [dput,bK,k1,k2,k3,k4,k5,k6,j1,j2,j3,j4,j5,j6,<- c4]
     ·rw [Kv c4] at h;cases h
noncomputable def iG:Option Gt->PyData
 | none=>.none
 | some g=>gD3 g
abbrev wR (K:EI):Sp:=spD K 3 tD fun c r=>r=iG (yc c.1 c.2.1 c.2.2.1 c.2.2.2)
theorem ae (g:Gt):sJ (gD3 g):=⟨⟨rfl,GC rfl⟩,_,rfl⟩
theorem A7 (F:Def K mg "gate_ahead" qo pf) (ubd:FnIn P w K mg base k "cell_ahead" pf (lC K)) (uaG:FnIn P w K mg base k "has_cell" pq (mY K)) (ube:FnIn P w K mg base k "cell_ties" pj (o4 K)) :
  FnIn P w K mg base (k+1) "gate_ahead" pf (wR K):=by
 refine F.ok yO rfl fun fa cdv A outer s H E hr=>⟨_,(zc (yn (zf ubd hr rfl (za (pv 0) (za (pv 1) (za (pv 2) zb)))) (zI (K:=K) (n:=2) rfl rfl (ze (zg (i:=3) yO.nd rfl (Or.inl rfl) (Or.inr rfl)) (ze (zg (i:=4) yO.nd rfl (Or.inl rfl) (Or.inr rfl)) zB)))) (zc (yC (dG (ym (K:=K) rfl (zf uaG hr rfl (za (pv 0) (za (pv 3) (za (pv 4) zb)))) (fun _=>rfl))) (zh (zu aQ)) zV) (zc (zO (i:=5) yO.nd rfl (Or.inl rfl) (sM (w:=w) rfl)) (zc (jq Fv rfl (yh (K:=K) rfl (zf ube hr rfl (za (pv 0) (za (pv 1) (za (zN (za (pv 3) (za (pv 4) zb))) zb))))) (zI (K:=K) (n:=2) rfl rfl (ze (zg (i:=6) yO.nd rfl (Or.inl rfl) (Or.inr rfl)) (ze (zg (i:=7) yO.nd rfl (Or.inl rfl) (Or.inr rfl)) zB))) (zc (yn (pv 7) (gG (pv 5) (pv 6) (kP (w:=w) (K:=K) rfl rfl hr.units))) (zh (yn (pv 6) (gG (pv 5) (pv 7) (kP (w:=w) (K:=K) rfl rfl hr.units)))))) (zh (zu (zE (Az (w:=w) (K:=K) rfl rfl hr.units) (pv 5) (pv 2) (fun _ _=>rfl)))))))),?_⟩;rintro f xs ⟨Kt,wd,cut,g⟩ hl ⟨rfl,gd,o⟩
 try dsimp only [ye,zj]
 dsimp only at *;refine yg (yk (zr (Kt,wd,cut,g) ?_));walk_at "w";rintro _ rfl;dsimp only;refine ju rfl (zy (zp (zy (zp (yx ?_)))));refine yg (aX (nU (jN (zr (Kt,wd,(ahC Kt cut g).1,(ahC Kt cut g).2) ?_))));walk_at "w";rintro _ rfl;refine⟨_,rfl,?_⟩;dsimp only;refine yt (fun h=>?_) fun h=>?_
 ·have hc:z6 Kt wd (ahC Kt cut g).1 (ahC Kt cut g).2=false:=by simpa using h
  walk_at "w";unfold yc;rw [hc,Kv EG];rfl
 ·have hc:z6 Kt wd (ahC Kt cut g).1 (ahC Kt cut g).2=true:=by simpa using h
  obtain⟨n,hn,_⟩:=vH o hc;have hp:prt (qX Kt cut (ahC Kt cut g).1 (ahC Kt cut g).2) g=some n:=by
   unfold yc at hn;rw [Kw hc] at hn;exact hn
  have tl:(qX Kt cut (ahC Kt cut g).1 (ahC Kt cut g).2).length<=2:=by
   unfold qX t4;rw [EF];rcases lz (hiB Kt cut (ahC Kt cut g).1 (ahC Kt cut g).2) (hiB Kt cut ((ahC Kt cut g).1+1) (ahC Kt cut g).2) (hiB Kt cut ((ahC Kt cut g).1+1) ((ahC Kt cut g).2+1)) (hiB Kt cut (ahC Kt cut g).1 ((ahC Kt cut g).2+1)) (cF Kt cut (ahC Kt cut g).1 (ahC Kt cut g).2) with e | ⟨a,b,n1,e⟩ | ⟨a,b,c,d,n1,n2,n3,n4,n5,n6,e⟩ <;> rw [e] <;> simp
  refine jO (eF (w:=w) (fW (CY ⟨show 5<8 by decide,fun D=>?_⟩)));refine jP (kN (yQ (PEdO.ped (gU (Kt,wd,cut,(ahC Kt cut g).1,(ahC Kt cut g).2) ?_))));walk_at "w";rintro _ rfl;dsimp only;rw [wO hc];refine⟨_,rfl,fun i ρ cs=>(∃ u v,ρ=[some (.dat (tab Kt)),some (.dat (.int cut)),some (.dat (gD3 g)),some (.dat (.int (ahC Kt cut g).1)),some (.dat (.int (ahC Kt cut g).2)),some (.own (f.M.length+0)),u,v])/\cs=[.dic (aO ((qX Kt cut (ahC Kt cut g).1 (ahC Kt cut g).2).take i) [])],⟨⟨_,_,rfl⟩,rfl⟩,?_,?_⟩
  ·rintro i d _ _ hd ⟨⟨u,v,rfl⟩,rfl⟩;rw [EO] at hd;cases hq:(qX Kt cut (ahC Kt cut g).1 (ahC Kt cut g).2)[i]? with
   | none=>rw [hq] at hd;cases hd
   | some q =>
    rw [hq] at hd;cases hd;have tk:(qX Kt cut (ahC Kt cut g).1 (ahC Kt cut g).2).take (i+1)=(qX Kt cut (ahC Kt cut g).1 (ahC Kt cut g).2).take i++[q]:=by
     rw [Iq,hq];rfl
    have hl:=tF ((qX Kt cut (ahC Kt cut g).1 (ahC Kt cut g).2).take i) [];rw [Fo] at hl;simp only [G0] at hl;refine ju rfl (zy (zp (zy (zp (yx ?_)))));refine jP (BI (i:=5) (j:=0) rfl rfl (by omega) ?_);walk_at "w";refine⟨ae _,?_⟩;have hl2:=eU (gD3 q.1) (gD3 q.2) (aO ((qX Kt cut (ahC Kt cut g).1 (ahC Kt cut g).2).take i) []);refine BI (i:=5) (j:=0) rfl rfl (by omega) ?_;walk_at "w";refine⟨ae _,⟨_,_,rfl⟩,?_⟩;rw [tk,m9];rfl
  ·rintro _ _ ⟨⟨u,v,rfl⟩,rfl⟩;rw [EF,Fq];refine D7 (D6 (i:=5) (j:=0) rfl rfl (bJ (zq rfl ⟨ae _,_,wQ hp,?_⟩)));show gD3 n=iG (yc Kt wd cut g);rw [hn];rfl
theorem o9 {α:Type} [DecidableEq α]:∀ (l m:List α),l.Nodup->(∀ x∈l,x∈m)->m.length<=l.length->∀ x∈m,x∈l
 | [],m,_,_,hl,x,hx=>by
  have:m=[]:=List.length_eq_zero_iff.mp (Nat.le_zero.mp hl);rw [this] at hx;exact hx
 | a :: l,m,nd,sub,hl,x,hx=>by
  have ha:=sub a (ET ..);have hn:=Gk.mp nd;have le:=Jp ha;rw [E1] at hl;by_cases e:x=a
  ·rw [e];exact ET ..
  ·refine EM _ (o9 l (m.erase a) hn.2 (fun y hy=>?_) (by omega) x ((IH e).mpr hx));exact (IH (fun (z:y=a)=>hn.1 (z▸hy))).mpr (sub y (EM _ hy))
theorem len_sub {α:Type} [DecidableEq α]:∀ (l m:List α),l.Nodup->(∀ x∈l,x∈m)->l.length<=m.length
 | [],m,_,_=>Ft _
 | a :: l,m,nd,sub=>by
  have ha:=sub a (ET ..);have hn:=Gk.mp nd;have le:=Jp ha;have hp:0<m.length:=JF ha;have:=len_sub l (m.erase a) hn.2 (fun y hy=>(IH (fun (z:y=a)=>hn.1 (z▸hy))).mpr (sub y (EM _ hy)));rw [E1];omega
theorem bL {α β:Type} {f:α->β} {l1 l2:List β} (h:l1.Perm l2):∀ ts:List α,l2=ts.map f->∃ us:List α,us.Perm ts/\l1=us.map f:=by
 induction h with
 | nil=>intro ts e;exact⟨ts,.refl _,e⟩
 | cons x _ ih =>
  intro ts e;cases ts with
  | nil=>cases e
  | cons t ts =>
   rw [Fg] at e;injection e with e1 e2;obtain⟨us,p,q⟩:=ih ts e2;exact⟨t :: us,.cons t p,by rw [Fg,<- q,e1]⟩
 | swap x y l =>
  intro ts e
  match ts,e with
  | [],e=>cases e
  | [_],e=>cases e
  | a :: b :: ts,e =>
   simp only [Fg] at e;injection e with e1 e2;injection e2 with e2 e3;exact⟨b :: a :: ts,.swap a b ts,by rw [Fg,Fg,e1,e2,e3]⟩
 | trans _ _ ih1 ih2 =>
  intro ts e;obtain⟨us,p,q⟩:=ih2 ts e;obtain⟨vs,p2,q2⟩:=ih1 us q;exact⟨vs,p2.trans p,q2⟩
section
variable (Kt:List (List Int)) (wd:Nat) (cut:Int)
structure LineOk (ring:Bool) (l:List Gt):Prop where
 op:∀ g∈l,opG Kt wd cut g=true
 nd:l.Nodup
 ch:∀ (i:Nat) a b,l[i]?=some a->l[i+1]?=some b->yc Kt wd cut a=some b
 ne:l≠[]
 last:∀ g,l.getLast?=some g->yc Kt wd cut g=if ring=true then l.head? else none
structure WalkOk (s:Gt) (l:List Gt):Prop where
 op:∀ g∈l,opG Kt wd cut g=true
 nd:l.Nodup
 ch:∀ (i:Nat) a b,l[i]?=some a->l[i+1]?=some b->yc Kt wd cut a=some b
 hd:l.head?=some s
end
section
variable {Kt:List (List Int)} {wd:Nat} {cut:Int}
theorem tG {t n:Nat} {x y w:Int} (hx:0<=x/\x<n) (hy:0<=y/\y<t) (hw:w=0 \/ w=1):(x,y,w)∈ja t n:=by
 obtain⟨a,rfl⟩:=GL hx.1;obtain⟨b,rfl⟩:=GL hy.1;refine Fs.mpr ⟨a,Fe.mpr (by omega),Fs.mpr ⟨b,Fe.mpr (by omega),?_⟩⟩;rcases hw with rfl | rfl
 ·exact ET ..
 ·exact EM _ (ET ..)
theorem A8 {g:Gt} (o:opG Kt wd cut g=true):yj Kt wd g.1 g.2.1=true:=by
 unfold opG yG v8 at o;rw [EV,EV,EV] at o;exact o.1.2.1
theorem jo {g:Gt}:g∈yy Kt wd cut↔opG Kt wd cut g=true:=by
 rw [v9,FR];refine⟨fun h=>h.2,fun o=>⟨?_,o⟩⟩;obtain⟨x,y,w⟩:=g;have hw:=vG o;obtain⟨a,b,c,d⟩:=jB (A8 o);exact tG ⟨a,b⟩ ⟨c,d⟩ hw
theorem wU:(yy Kt wd cut).Nodup:=by
 rw [v9];refine ((lu _ _).filter _).imp fun {a b} h e=>?_;subst e;unfold gLt at h;omega
theorem af {l:List Gt} (gd:Good wd Kt) (o:∀ g∈l,opG Kt wd cut g=true) (nd:l.Nodup):l.length<=98 :=
 Fm (len_sub l (yy Kt wd cut) nd fun x hx=>jo.mpr (o x hx)) (gj gd)
theorem wV {s:Gt} (o:opG Kt wd cut s=true):WalkOk Kt wd cut s [s] :=
 ⟨fun g hg=>by rw [Fc.mp hg];exact o,Gk.mpr ⟨GF,Hc⟩,fun i a b _ h=>(nomatch h),rfl⟩
theorem tH {s n g:Gt} {l:List Gt} (W:WalkOk Kt wd cut s l) (hl:l.getLast?=some g) (hn:yc Kt wd cut g=some n) (ne:n≠s):WalkOk Kt wd cut s (l++[n]):=by
 have hg:g∈l:=J0 hl;have hli:l[l.length - 1]?=some g:=by rw [<-GB];exact hl
 have pos:0<l.length:=JF hg;have hnew:n∉l:=fun hm=>by
  obtain⟨i,hi⟩:=Fy hm
  match i,hi with
  | 0,hi =>
   have:=W.hd;rw [FO,hi] at this;exact ne (Option.some.inj this)
  | i+1,hi =>
   obtain⟨hlt,_⟩:=EH.mp hi;have hi':l[i]?=some l[i]:=ED (by omega);have hc:=W.ch i _ _ hi' hi;have e:=eT (W.op _ (EK hi')) (W.op _ hg) hc hn;rw [e,<- hli] at hi';have:=(List.getElem?_inj (by omega) W.nd).mp hi';omega
 refine⟨fun x hx=>?_,?_,fun i a b ha hb=>?_,?_⟩
 ·rcases Fj.mp hx with h | h
  ·exact W.op x h
  ·rw [Fc.mp h];exact (ve (W.op g hg) hn).1
 ·refine G3.mpr ⟨W.nd,Gk.mpr ⟨GF,Hc⟩,fun a ha b hb e=>?_⟩;rw [Fc.mp hb] at e;exact hnew (e▸ha)
 ·by_cases h:i+1<l.length
  ·rw [ER (by omega)] at ha;rw [ER h] at hb;exact W.ch i a b ha hb
  ·obtain⟨hlt,_⟩:=EH.mp hb;rw [EY,FJ] at hlt;have e:i=l.length - 1:=by omega
   rw [ER (by omega),e,hli] at ha;rw [EX (by omega),show i+1 - l.length=0 by omega] at hb;cases ha;cases hb;exact hn
 ·cases l with
  | nil=>cases pos
  | cons a l=>exact W.hd
theorem gq {s g:Gt} {l:List Gt} (W:WalkOk Kt wd cut s l) (hl:l.getLast?=some g) {ring:Bool} (h:yc Kt wd cut g=if ring=true then some s else none):LineOk Kt wd cut ring l where
 op:=W.op
 nd:=W.nd
 ch:=W.ch
 ne:=fun z=>by rw [z] at hl;cases hl
 last:=fun g' hg'=>by
  rw [hl] at hg';cases hg';rw [h,W.hd]
def iH (Kt:List (List Int)) (wd:Nat) (cut:Int) (t:Bool×List Gt):Prop:=t.1=false->∀ h,t.2.head?=some h->y9 Kt wd cut h=none
theorem next_prev {g n:Gt} (o:opG Kt wd cut g=true) (h:yc Kt wd cut g=some n):y9 Kt wd cut n=some g:=by
 have c:z6 Kt wd (ahC Kt cut g).1 (ahC Kt cut g).2=true:=by
  unfold yc at h;by_cases z:z6 Kt wd (ahC Kt cut g).1 (ahC Kt cut g).2=true
  ·exact z
  ·rw [Kv z] at h;cases h
 obtain⟨m,a1,_,_,_,a2⟩:=vH o c;rw [h] at a1;cases a1;exact a2
theorem prev_next {g n:Gt} (o:opG Kt wd cut g=true) (h:y9 Kt wd cut g=some n):opG Kt wd cut n=true/\yc Kt wd cut n=some g:=by
 have c:z6 Kt wd (bhC Kt cut g).1 (bhC Kt cut g).2=true:=by
  unfold y9 at h;by_cases z:z6 Kt wd (bhC Kt cut g).1 (bhC Kt cut g).2=true
  ·exact z
  ·rw [Kv z] at h;cases h
 obtain⟨m,a1,_,a3,_,a2⟩:=dy o c;rw [h] at a1;cases a1;exact⟨a3,a2⟩
theorem dz {t:Bool×List Gt} (ne:t.2≠[]):∃ z,t.2.getLast?=some z/\z∈t.2:=⟨t.2.getLast ne,List.getLast?_eq_some_getLast ne,List.getLast_mem ne⟩
theorem cU {t:Bool×List Gt} (L:LineOk Kt wd cut t.1 t.2) (st:iH Kt wd cut t) {g n:Gt} (o:opG Kt wd cut g=true) (hn:n∈t.2) (h:yc Kt wd cut g=some n):g∈t.2:=by
 obtain⟨i,hi⟩:=Fy hn
 match i,hi with
 | 0,hi =>
  have hh:t.2.head?=some n:=by rw [FO];exact hi
  cases hr:t.1 with
  | false =>
   have:=st hr n hh;rw [next_prev o h] at this;cases this
  | true =>
   obtain⟨z,hz,hm⟩:=dz L.ne;have:=L.last z hz;rw [hr,Kw rfl,hh] at this;rw [eT o (L.op z hm) h this];exact hm
 | i+1,hi =>
  obtain⟨hlt,_⟩:=EH.mp hi;have hi':t.2[i]?=some t.2[i]:=ED (by omega);have hc:=L.ch i _ _ hi' hi;have hm:=EK hi';rw [eT o (L.op _ hm) h hc];exact hm
theorem cV {t:Bool×List Gt} (L:LineOk Kt wd cut t.1 t.2) {g n:Gt} (hg:g∈t.2) (h:yc Kt wd cut g=some n):n∈t.2:=by
 obtain⟨i,hi⟩:=Fy hg;obtain⟨hlt,_⟩:=EH.mp hi;by_cases hl:i+1<t.2.length
 ·have hi':t.2[i+1]?=some t.2[i+1]:=ED hl;have hc:=L.ch i _ _ hi hi';rw [h] at hc;rw [Option.some.inj hc];exact EK hi'
 ·have e:i=t.2.length - 1:=by omega
  have hz:t.2.getLast?=some g:=by rw [GB,<- e];exact hi
  have:=L.last g hz;rw [h] at this;by_cases hr:t.1=true
  ·rw [Kw hr] at this;exact Ir this.symm
  ·rw [Kv hr] at this;cases this
theorem A9 (gd:Good wd Kt) {g:Gt} (o:opG Kt wd cut g=true):z6 Kt wd (ahC Kt cut g).1 (ahC Kt cut g).2=true \/ z6 Kt wd (bhC Kt cut g).1 (bhC Kt cut g).2=true:=by
 have hw:=vG o;obtain⟨x,y,w⟩:=g;have o':yG Kt wd cut x y w=true:=o;unfold yG v8 at o';rw [EV,EV,EV] at o';obtain⟨a0,a1,a2,a3⟩:=jB o'.1.2.1;obtain⟨b0,b1,b2,b3⟩:=jB o'.1.2.2;have h1:=gd.h1;have w1:=gd.w1;have cb:∀ {u v:Int},0<=u->u+1<wd->0<=v->v+1<Kt.length->z6 Kt wd u v=true:=fun p q r s=>by
  unfold z6 yj;rw [Kx (by omega),Kx (by omega),Kx (by omega),Kx (by omega)];rfl
 unfold ahC bhC qC qD;dsimp only at hw ⊢;rcases hw with rfl | rfl
 ·have e1:px x 0=x+1:=rfl;rw [e1] at b1;cases hiB Kt cut x y
  ·by_cases h:y+1<Kt.length
   ·left;exact cb (by simp;omega) (by simp;omega) (by simp;omega) (by simp;omega)
   ·right;exact cb (by simp;omega) (by simp;omega) (by simp;omega) (by simp;omega)
  ·by_cases h:y+1<Kt.length
   ·right;exact cb (by simp;omega) (by simp;omega) (by simp;omega) (by simp;omega)
   ·left;exact cb (by simp;omega) (by simp;omega) (by simp;omega) (by simp;omega)
 ·have e1:py y 1=y+1:=rfl;rw [e1] at b3;cases hiB Kt cut x y
  ·by_cases h:x+1<wd
   ·right;exact cb (by simp;omega) (by simp;omega) (by simp;omega) (by simp;omega)
   ·left;exact cb (by simp;omega) (by simp;omega) (by simp;omega) (by simp;omega)
  ·by_cases h:x+1<wd
   ·left;exact cb (by simp;omega) (by simp;omega) (by simp;omega) (by simp;omega)
   ·right;exact cb (by simp;omega) (by simp;omega) (by simp;omega) (by simp;omega)
theorem wW (gd:Good wd Kt) {t:Bool×List Gt} (L:LineOk Kt wd cut t.1 t.2) (st:iH Kt wd cut t):2<=t.2.length:=by
 obtain⟨r,l⟩:=t
 match l,L,st with
 | [],L,_=>exact absurd rfl L.ne
 | [g],L,st =>
  have o:=L.op g (ET ..);have hl:=L.last g rfl;cases r with
  | true =>
   exact absurd rfl (ve o hl).2
  | false =>
   have hp:y9 Kt wd cut g=none:=st rfl g rfl;have hl:yc Kt wd cut g=none:=hl;rcases A9 gd o with c | c
   ·obtain⟨n,h,_⟩:=vH o c;rw [hl] at h;cases h
   ·obtain⟨n,h,_⟩:=dy o c;rw [hp] at h;cases h
 | _ :: _ :: _,_,_=>exact Nat.le_add_left 2 _
end
section
variable (Kt:List (List Int)) (wd:Nat) (cut:Int)
noncomputable def flat (ts:List (Bool×List Gt)):List Gt:=ts.flatMap (·.2)
structure Told (ts:List (Bool×List Gt)):Prop where
 line:∀ t∈ts,LineOk Kt wd cut t.1 t.2
 st:∀ t∈ts,iH Kt wd cut t
 nd:(flat ts).Nodup
 least:∀ t∈ts,t.1=true->∀ h,t.2.head?=some h->∀ g∈t.2,g=h \/ gLt h g
end
section
variable {Kt:List (List Int)} {wd:Nat} {cut:Int} {ts:List (Bool×List Gt)}
theorem Told.op (T:Told Kt wd cut ts) {g:Gt} (h:g∈flat ts):opG Kt wd cut g=true:=by
 obtain⟨t,ht,hg⟩:=Fs.mp h;exact (T.line t ht).op g hg
theorem Told.len (T:Told Kt wd cut ts) (gd:Good wd Kt):(flat ts).length<=98:=af gd (fun g hg=>T.op hg) T.nd
theorem lD:∀ (ts:List (Bool×List Gt)),(∀ t∈ts,2<=t.2.length)->2 * ts.length<=(flat ts).length
 | [],_=>EN _
 | t :: ts,h=>by
  have h1:=h t (ET ..);have h2:=lD ts fun u hu=>h u (EM _ hu);show 2 * (ts.length+1)<=(t.2++flat ts).length;rw [EY];omega
theorem Told.few (T:Told Kt wd cut ts) (gd:Good wd Kt):ts.length<=49:=by
 have h1:=lD ts fun t ht=>wW gd (T.line t ht) (T.st t ht);have h2:=T.len gd;omega
theorem aD (ts:List (Bool×List Gt)) (t:Bool×List Gt):flat (ts++[t])=flat ts++t.2:=by
 unfold flat;rw [Ge];simp
theorem Told.fresh (T:Told Kt wd cut ts) {r:Bool} {l:List Gt} (L:LineOk Kt wd cut r l) {s:Gt} (hs:l.head?=some s) (hn:s∉flat ts):∀ g∈l,g∉flat ts:=by
 have key:∀ (i:Nat) g,l[i]?=some g->g∉flat ts:=fun i=>by
  induction i with
  | zero =>
   intro g hg;rw [FO,hg] at hs;rw [Option.some.inj hs];exact hn
  | succ i ih =>
   intro g hg hm;obtain⟨hlt,_⟩:=EH.mp hg;have hi':l[i]?=some l[i]:=ED (by omega);have hc:=L.ch i _ _ hi' hg;obtain⟨t,ht,hgt⟩:=Fs.mp hm;exact ih _ hi' (Fs.mpr ⟨t,ht,cU (T.line t ht) (T.st t ht) (L.op _ (EK hi')) hgt hc⟩)
 intro g hg;obtain⟨i,hi⟩:=Fy hg;exact key i g hi
theorem Told.more (T:Told Kt wd cut ts) {r:Bool} {l:List Gt} (L:LineOk Kt wd cut r l) {s:Gt} (hs:l.head?=some s) (hn:s∉flat ts) (st:r=false->y9 Kt wd cut s=none) (le:r=true->∀ g∈l,g=s \/ gLt s g):Told Kt wd cut (ts++[(r,l)]) where
 line:=fun t ht=>by
  rcases Fj.mp ht with h | h
  ·exact T.line t h
  ·rw [Fc.mp h];exact L
 st:=fun t ht=>by
  rcases Fj.mp ht with h | h
  ·exact T.st t h
  ·rw [Fc.mp h];intro hr h hh;rw [show (r,l).2.head?=some s from hs] at hh;rw [<-Option.some.inj hh];exact st hr
 nd:=by
  rw [aD];refine G3.mpr ⟨T.nd,L.nd,fun a ha b hb e=>?_⟩;exact T.fresh L hs hn b hb (e▸ha)
 least:=fun t ht=>by
  rcases Fj.mp ht with h | h
  ·exact T.least t h
  ·rw [Fc.mp h];intro hr h hh;rw [show (r,l).2.head?=some s from hs] at hh;rw [<-Option.some.inj hh];exact le hr
theorem Dp {r:Bool} {l:List Gt} (L:LineOk Kt wd cut r l) {s:Gt} (hs:l.head?=some s) (hp:y9 Kt wd cut s=none):r=false:=by
 cases r with
 | false=>rfl
 | true =>
  obtain⟨z,hz,hm⟩:=dz (t:=(true,l)) L.ne;have:=L.last z hz;rw [Kw rfl,hs] at this;have:=next_prev (L.op z hm) this;rw [hp] at this;cases this
theorem Ba (T:Told Kt wd cut ts) (all:∀ g,opG Kt wd cut g=true->y9 Kt wd cut g=none->g∈flat ts) {r:Bool} {l:List Gt} (L:LineOk Kt wd cut r l) {s:Gt} (hs:l.head?=some s) (hn:s∉flat ts):r=true:=by
 cases r with
 | true=>rfl
 | false =>
  obtain⟨z,hz,hm⟩:=dz (t:=(false,l)) L.ne;have hnone:yc Kt wd cut z=none:=L.last z hz
  let U:=(yy Kt wd cut).filter fun g=>decide (g∉flat ts)
  have memU:∀ g,g∈U↔opG Kt wd cut g=true/\g∉flat ts:=fun g=>by
   show g∈List.filter _ _↔_;rw [FR,jo,decide_eq_true_eq]
  let pr:Gt->Gt:=fun g=>(y9 Kt wd cut g).getD g
  have prU:∀ g∈U,y9 Kt wd cut g=some (pr g)/\yc Kt wd cut (pr g)=some g/\pr g∈U:=fun g hg=>by
   obtain⟨o,nf⟩:=(memU g).mp hg;cases hp:y9 Kt wd cut g with
   | none=>exact absurd (all g o hp) nf
   | some p =>
    have e:pr g=p:=by show (y9 Kt wd cut g).getD g=p;rw [hp];rfl
    obtain⟨op,hnx⟩:=prev_next o hp;rw [e];refine⟨rfl,hnx,(memU p).mpr ⟨op,fun hm=>?_⟩⟩;obtain⟨t,ht,hpt⟩:=Fs.mp hm;exact nf (Fs.mpr ⟨t,ht,cV (T.line t ht) hpt hnx⟩)
  have ndU:U.Nodup:=wU.filter _;have ndP:(U.map pr).Nodup:=by
   refine Gw.mpr (ndU.imp_of_mem fun {a b} ha hb ne e=>ne ?_);have h1:=(prU a ha).2.1;have h2:=(prU b hb).2.1;rw [e,h2] at h1;exact (Option.some.inj h1).symm
  have zU:z∈U:=(memU z).mpr ⟨L.op z hm,T.fresh L hs hn z hm⟩;have:=o9 (U.map pr) U ndP (fun x hx=>by obtain⟨g,hg,rfl⟩:=E6.mp hx;exact (prU g hg).2.2) (by rw [EF];exact EN _) z zU;obtain⟨g,hg,rfl⟩:=E6.mp this;rw [(prU g hg).2.1] at hnone;cases hnone
noncomputable def je (t:Bool×List Gt):PyData:=.tuple [.str (if t.1=true then "ring" else "run"),.tuple (t.2.map gD3)]
theorem lE (l:List Gt):zT (l.map gD3)=true:=by
 induction l with
 | nil=>rfl
 | cons g l ih=>show (zD (gD3 g) && zT (l.map gD3))=true;rw [ih];rfl
theorem eV (t:Bool×List Gt):zD (je t)=true:=by
 show (zD (.str _) && (zD (.tuple (t.2.map gD3)) && true))=true;rw [show zD (.tuple (t.2.map gD3))=zT (t.2.map gD3) from rfl,lE];cases t.1 <;> decide +kernel
theorem gr:∀ l m:List Gt,bD (l.map gD3) (m.map gD3)=true
 | [],m=>by rw [Ie,bD]
 | g :: l,[]=>rfl
 | (x,y,w) :: l,(x',y',w') :: m=>by
  rw [Fg,Fg,bD];split
  ·exact gr l m
  ·show cZ (.tuple [.int x,.int y,.int w]) (.tuple [.int x',.int y',.int w'])=true;simp only [cZ,bD];split
   ·split
    ·split <;> rfl
    ·rfl
   ·rfl
theorem wX (t u:Bool×List Gt):cZ (je t) (je u)=true:=by
 unfold je;generalize (if t.1=true then ("ring":Str) else "run")=a;generalize (if u.1=true then ("ring":Str) else "run")=b;rw [cZ,bD];split
 ·rw [bD];split
  ·rfl
  ·rw [cZ];exact gr _ _
 ·rfl
theorem lF (l:List Gt):EZ (l.map gD3)<=1:=by
 induction l with
 | nil=>exact Ft _
 | cons g l ih=>exact Nat.max_le.mpr ⟨EN 1,ih⟩
theorem ni (t:Bool×List Gt):(je t).depth<=3:=by
 show max 0 (max (EZ (t.2.map gD3)+1) 0)+1<=3;have:=lF t.2;omega
theorem lG {a b:Gt} (h:gD3 a=gD3 b):a=b:=by
 obtain⟨x,y,w⟩:=a;obtain⟨x',y',w'⟩:=b;unfold gD3 qR at h;simp at h;simp [h]
theorem wY (T:Told Kt wd cut ts):SortOk "str" (ts.map je) where
 plain:=fun d hd=>by obtain⟨t,_,rfl⟩:=E6.mp hd;exact eV t
 head:=fun d hd=>by obtain⟨t,_,rfl⟩:=E6.mp hd;rfl
 cmp:=fun d hd e he=>by
  obtain⟨t,_,rfl⟩:=E6.mp hd;obtain⟨u,_,rfl⟩:=E6.mp he;exact wX t u
 depth:=fun d hd=>by obtain⟨t,_,rfl⟩:=E6.mp hd;exact Fm (ni t) (by decide)
 nd:=by
  have h:=(IA.mp T.nd).2;refine Gw.mpr (h.imp_of_mem fun {a b} ha hb hd e=>?_);unfold je at e;have e2:a.2.map gD3=b.2.map gD3:=by
   injection e with e;injection e with _ e;injection e with e _;injection e
  cases ha2:a.2 with
  | nil=>exact (T.line a ha).ne ha2
  | cons g l =>
   cases hb2:b.2 with
   | nil=>exact (T.line b hb).ne hb2
   | cons g' l' =>
    rw [ha2,hb2,Fg,Fg] at e2;injection e2 with e2 _;exact hd g (by rw [ha2];exact ET ..) g' (by rw [hb2];exact ET ..) (lG e2)
theorem Told.perm {us:List (Bool×List Gt)} (T:Told Kt wd cut ts) (p:us.Perm ts):Told Kt wd cut us where
 line:=fun t ht=>T.line t (p.mem_iff.mp ht)
 st:=fun t ht=>T.st t (p.mem_iff.mp ht)
 nd:=(p.flatMap_right _).nodup_iff.mpr T.nd
 least:=fun t ht=>T.least t (p.mem_iff.mp ht)
end
section
variable {K:EI} {f:Fx} {ρ:zw} {ta:TE} {P:PyData->Prop}
noncomputable def eW:PyData->Bool
 | .none=>true
 | _=>false
theorem gu {H:Hp} {d:PyData} {v:V} (r:Rep K H d v) (h:d=.none \/ ∃ ds,d=.tuple ds):decide (v=.non)=eW d:=by
 rcases h with rfl | ⟨ds,rfl⟩
 ·rw [show v=.non from r];rfl
 ·obtain⟨a,xs,rfl,_⟩:=zS.mp r;rfl
theorem Dq (h:PEd K f ta ρ fun d=>(d=.none \/ ∃ ds,d=.tuple ds)/\P (.bool (!eW d))):PEd K f (tOp (fun x y H Q=>y=.non/\Q (.bl (!decide (x=.non))) H) ta (tC .non)) ρ P:=fun σ H Q e q =>
 h σ H _ e fun d v H1 g1 r1 ⟨hd,p⟩=>⟨rfl,q _ _ H1 g1 (by show Rep K _ (.bool _) (.bl _);rw [gu r1 hd];rfl) p⟩
theorem BP (h:PEd K f ta ρ fun d=>(d=.none \/ ∃ ds,d=.tuple ds)/\P (.bool (eW d))):PEd K f (tOp (fun x y H Q=>y=.non/\Q (.bl (decide (x=.non))) H) ta (tC .non)) ρ P:=fun σ H Q e q =>
 h σ H _ e fun d v H1 g1 r1 ⟨hd,p⟩=>⟨rfl,q _ _ H1 g1 (by show Rep K _ (.bool _) (.bl _);rw [gu r1 hd];rfl) p⟩
end
abbrev wZ (K:EI):Sp:=spD K 3 tD fun c r=>∃ ring l,r=je (ring,l)/\LineOk c.1 c.2.1 c.2.2.1 ring l/\l.head?=some c.2.2.2
theorem Dr (a b:Gt):Fi (gD3 a) (gD3 b)=decide (a=b):=by
 obtain⟨x,y,w⟩:=a;obtain⟨x',y',w'⟩:=b;show (decide (x=x') && (decide (y=y') && (decide (w=w') && true)))=_;by_cases h1:x=x' <;> by_cases h2:y=y' <;> by_cases h3:w=w' <;> simp [h1,h2,h3]
theorem nk (q:Option Gt):iG q=.none \/ ∃ ds,iG q=.tuple ds:=by
 cases q with
 | none=>exact .inl rfl
 | some g=>exact .inr ⟨_,rfl⟩
theorem Bb (F:Def K mg "line_from" qP pY) (uam:mg "tuple"=none) (ua3:FnIn P w K mg base k "gate_ahead" pf (wR K)) :
  FnIn P w K mg base (k+1) "line_from" pY (wZ K):=by
 refine F.ok qr rfl fun fa cdv A outer s H E hr=>⟨_,(zc (zO (i:=3) qr.nd rfl (Or.inl rfl) (yw (za (pv 2) zb))) (zc (zO (i:=4) qr.nd rfl (Or.inl rfl) (zf ua3 hr rfl (za (pv 0) (za (pv 1) (za (pv 2) zb))))) (zc (dI Fv (PW.pt (t5 (zZ gH (pv 4) aQ (zQ _)) (nK (zZ (vX (K:=K) rfl hr.units) (pv 4) (pv 2) (zQ _))))) (zc (jf (dP F8 FZ F4 jG (pv 3) (za (pv 4) zb))) (zh (zO (i:=4) qr.nd rfl (Or.inl rfl) (zf ua3 hr rfl (za (pv 0) (za (pv 1) (za (pv 4) zb)))))))) (zh (zu (zN (za (vT (zZ Ca (pv 4) aQ (zQ _)) vS vS) (za (ar (cN (K:=K) rfl) rfl uam Jw (za (pv 3) zb)) zb)))))))),?_⟩;rintro f xs ⟨Kt,wd,cut,g⟩ hl ⟨rfl,gd,o⟩
 try dsimp only [ye,zj]
 dsimp only at *;refine eF (w:=w) (fW (av (d7 ?_)));walk_at "w";refine⟨show 3<5 by decide,fun D=>?_⟩;refine jP (eG (yk (zr (Kt,wd,cut,g) ?_)));walk_at "w";rintro _ rfl;refine zp ?_;refine jP (oF (fun ρ cs=>∃ l z,ρ=[some (.dat (tab Kt)),some (.dat (.int cut)),some (.dat (gD3 g)),some (.own (f.M.length+0)),some (.dat (iG (yc Kt wd cut z)))]/\cs=[.lst (l.map gD3)]/\WalkOk Kt wd cut g l/\l.getLast?=some z) (fun _ cs=>match cs with | [.lst es]=>200 - es.length | _=>0) ⟨[g],g,rfl,rfl,wV o,rfl⟩ ?_);rintro _ _ ⟨l,z,rfl,rfl,W,hz⟩;have oz:=W.op z (J0 hz);have wl:=af gd W.op W.nd;have ml:(l.map gD3).length=l.length:=EF ..;refine CQ (BA (yV (Dq (zq rfl ⟨nk _,?_⟩))));refine⟨_,rfl,?_⟩;have fr:∀ x:PyData,HU (freed f.M.length [OC.lst (l.map gD3)]) [some (DV.dat (tab Kt)),some (.dat (.int cut)),some (.dat (gD3 g)),some (.own (f.M.length+0)),some (.dat x)]=[some (.dat (tab Kt)),some (.dat (.int cut)),some (.dat (gD3 g)),some (.dat (.list (l.map gD3))),some (.dat x)]:=fun x=>by simp [freed]
 cases hn:yc Kt wd cut z with
 | none =>
  rw [show (!eW (iG none))=false from rfl,Kv EG,Kv EG];refine eH ?_;rw [fr];refine yI (vP (zv (Cp (yV (BP (zq rfl ⟨.inl rfl,_,rfl,?_⟩))))));rw [show eW (iG none)=true from rfl,Kw rfl];walk_at "w";exact⟨false,l,rfl,gq W hz (by rw [hn];rfl),W.hd⟩
 | some n =>
  rw [show (!eW (iG (some n)))=true from rfl,Kw rfl];rw [show iG (some n)=gD3 n from rfl];refine yV (aL (zq rfl (zq rfl ⟨rfl,rfl,GC rfl,_,rfl,?_⟩)));rw [Kw rfl,Dr];by_cases ng:n=g
  ·rw [Kx ng,show (!true)=false from rfl,Kv EG];refine eH ?_;rw [fr];refine yI (vP (zv (Cp (yV (BP (zq rfl ⟨.inr ⟨_,rfl⟩,_,rfl,?_⟩))))));rw [show eW (gD3 n)=false from rfl,Kv EG];walk_at "w";exact⟨true,l,rfl,gq W hz (by rw [hn,ng];rfl),W.hd⟩
  ·rw [Ky ng,show (!false)=true from rfl,Kw rfl];have W2:=tH W hz hn ng;have wl2:=af gd W2.op W2.nd;rw [EY,FJ] at wl2;refine jP (fV (i:=3) (j:=0) rfl rfl (by omega) (bJ (zq rfl ?_)));refine eG (yk (zr (Kt,wd,cut,n) ?_));have on:=(ve oz hn).1;walk_at "w";rintro _ rfl;refine zp ⟨⟨l++[n],n,rfl,?_,W2,by simp⟩,?_⟩
   ·show [OC.lst (l.map gD3++[gD3 n])]=[OC.lst ((l++[n]).map gD3)];rw [E9];rfl
   ·show 200 - (l.map gD3++[gD3 n]).length<200 - (l.map gD3).length;rw [EY,FJ];omega
abbrev p9 (K:EI):Sp:=spN K 2 (fun (c:List (List Int)×Nat×Int) xs=>xs=[.dat (tab c.1),.dat (.int c.2.2)]/\Good c.2.1 c.1) fun c es=>∃ ts,es=ts.map je/\Told c.1 c.2.1 c.2.2 ts/\(∀ g,opG c.1 c.2.1 c.2.2 g=true->g∈flat ts)/\es.Pairwise fun d e=>ltD d e=true
noncomputable def inB (Kt:List (List Int)) (wd:Nat) (cut:Int) (g:Gt):Bool:=!z6 Kt wd (bhC Kt cut g).1 (bhC Kt cut g).2
theorem w4 {Kt:List (List Int)} {wd:Nat} {cut:Int} {g:Gt} (o:opG Kt wd cut g=true):inB Kt wd cut g=true↔y9 Kt wd cut g=none:=by
 unfold inB;by_cases h:z6 Kt wd (bhC Kt cut g).1 (bhC Kt cut g).2=true
 ·obtain⟨n,hn,_⟩:=dy o h;rw [h,hn];simp
 ·rw [Bool.not_eq_true] at h;unfold y9;rw [h];simp
theorem w5 (F:Def K mg "lines" dv pB) (uaH:mg "set"=none) (uaI:mg "sorted"=none) (uai:FnIn P w K mg base k "ask_table" ph (lg K)) (ubf:FnIn P w K mg base k "gates" pB (oW K)) (ubg:FnIn P w K mg base k "comes_in" pf (o8 K)) (ubh:FnIn P w K mg base k "line_from" pY (wZ K)):FnIn P w K mg base (k+1) "lines" pB (p9 K):=by
 refine F.okN jQ rfl fun fa cdv A outer s H E hr=>⟨_,(zc (jf (zf uai hr rfl (za (pv 0) zb))) (zc (zO (i:=2) jQ.nd rfl (Or.inl rfl) (zf ubf hr rfl (za (pv 0) (za (pv 1) zb)))) (zc (zO (i:=3) jQ.nd rfl (Or.inl rfl) (zk (kA (K:=K) rfl) (jb (N:=pE) (own:=1) (fr:=[0,1]) (by walk_at "c") rfl (yh (K:=K) rfl (pv 2)) (fun _ _ _ _=>(zg (i:=0) (show (pE:List Str).Nodup by decide +kernel) rfl (Or.inl rfl) (Or.inr rfl))) (fun _ _ _ _=>(bt (ym (K:=K) rfl (zf ubg hr rfl (za (pv 1) (za (pv 2) (za (pv 0) zb)))) (fun _=>rfl)))) (fun _ _ _ _=>(pv 0)) rfl rfl (fun _=>rfl)) (pv 2))) (zc (zO (i:=4) jQ.nd rfl (Or.inl rfl) (yw zb)) (zc (zO (i:=5) jQ.nd rfl (Or.inl rfl) (md (hU (w:=w) rfl) rfl uaH PyProof.Rows.boot_set)) (zc (jq Fv rfl (yh (K:=K) rfl (pv 3)) (zg (i:=6) jQ.nd rfl (Or.inl rfl) (Or.inr rfl)) (zh (yC (zZ (mH (w:=w) (K:=K) rfl rfl hr.units) (pv 6) (pv 5) rfl) (zc (zO (i:=7) jQ.nd rfl (Or.inl rfl) (zf ubh hr rfl (za (pv 0) (za (pv 1) (za (pv 6) zb))))) (zc (jf (dP F8 FZ F4 jG (pv 4) (za (pv 7) zb))) (zh (jq Fv rfl (gR (K:=K) rfl (zE (zP (K:=K) rfl) (pv 7) zd (fun _ _=>rfl))) (zg (i:=8) jQ.nd rfl (Or.inl rfl) (Or.inr rfl)) (zh (jf (CU (w:=w) rfl JV PySem.F.type_set_add (we (w:=w) (K:=K) rfl rfl hr.units) (pv 5) (za (pv 8) zb)))))))) zV))) (zh (zu (zF (g7 (K:=K) rfl hr.units) rfl uaI PyProof.Rows.boot_sorted (za (pv 4) zb)))))))))),?_⟩;rintro f xs ⟨Kt,wd,cut⟩ hl ⟨rfl,gd⟩
 try dsimp only [ye,zj]
 dsimp only at *;have gl:=gj (cut:=cut) gd;refine bC (dS (zr (Kt,wd) ?_));walk_at "w";rintro _ rfl;refine bC (yk (PEdO.ped (gU (Kt,wd,cut) ?_)));walk_at "w";rintro _ rfl;dsimp only;rw [<-v9];refine zp ?_;refine bC (yk (uN (PEdO.ped (vY (yQ (zq rfl ⟨_,rfl,fun n ρ es=>(∃ u,ρ=[u,some (.dat (tab Kt)),some (.dat (.int cut))])/\es=(((yy Kt wd cut).take n).filter (inB Kt wd cut)).map gD3,⟨⟨_,rfl⟩,rfl⟩,?_,?_⟩))))))
 ·rintro D n d ρ' es hd ⟨⟨u,rfl⟩,rfl⟩;rw [EO] at hd;cases hq:(yy Kt wd cut)[n]? with
  | none=>rw [hq] at hd;cases hd
  | some q =>
   rw [hq] at hd;cases hd;have oq:=jo.mp (EK hq);have tk:(yy Kt wd cut).take (n+1)=(yy Kt wd cut).take n++[q]:=by
    rw [Iq,hq];rfl
   have len:((((yy Kt wd cut).take n).filter (inB Kt wd cut)).map gD3).length<1000:=by
    rw [EF];have a1:=Gh (inB Kt wd cut) ((yy Kt wd cut).take n);rw [Fo] at a1;omega
   refine zp (jN (zr (Kt,wd,cut,q) ?_));walk_at "w";rintro _ rfl;dsimp only;refine⟨_,rfl,?_⟩;refine yt (fun h=>?_) fun h=>?_
   ·refine jv len ?_;walk_at "w";rw [tk,Gq,E9,FY,show inB Kt wd cut q=true from h,Kw rfl];rfl
   ·refine⟨⟨_,rfl⟩,?_⟩;rw [tk,Gq,E9,FY,show inB Kt wd cut q=false from h,Kv EG];simp
 ·rintro ρ' es ⟨_,rfl⟩;rw [EF,Fq];have il:((yy Kt wd cut).filter (inB Kt wd cut)).length<=98:=Fm (Gh _ _) gl;refine⟨_,rfl,zq rfl ⟨_,rfl,by rw [EF,EF];omega,?_⟩⟩;refine zp ?_;dsimp only;rw [<-E9];refine Ar (w:=w) (wb (av (d7 ?_)));walk_at "w";refine⟨show 4<9 by decide,fun D1=>?_⟩;refine wb (CV ⟨show 5<9 by decide,fun D2=>?_⟩);refine CS (kN (yQ (zq rfl ?_)));generalize hS:(yy Kt wd cut).filter (inB Kt wd cut)++yy Kt wd cut=S;generalize hG:PyData.list (HU gD3 (yy Kt wd cut))=G;refine⟨_,rfl,fun i ρ cs=>∃ ts u v x,ρ=[some (.dat (tab Kt)),some (.dat (.int cut)),some (.dat G),some (.dat (.list (S.map gD3))),some (.own (f.M.length+0)),some (.own (f.M.length+1)),u,v,x]/\cs=[.lst (ts.map je),.set ((flat ts).map gD3).reverse]/\Told Kt wd cut ts/\∀ j g,j<i->S[j]?=some g->g∈flat ts,?_,?_,?_⟩
  ·exact⟨[],_,_,_,rfl,rfl,⟨(fun _ h=>nomatch h),(fun _ h=>nomatch h),Hc,(fun _ h=>nomatch h)⟩,fun j g h=>absurd h (FV _)⟩
  ·rintro i d _ _ hd ⟨ts,u,v,x,rfl,rfl,T,past⟩;rw [EO] at hd;cases hq:S[i]? with
   | none=>rw [hq] at hd;cases hd
   | some q =>
    rw [hq] at hd;cases hd;have oq:opG Kt wd cut q=true:=by
     have hm:=EK hq;rw [<-hS] at hm;rcases Fj.mp hm with h | h
     ·exact jo.mp (FR.mp h).1
     ·exact jo.mp h
    have memk:(gD3 q∈((flat ts).map gD3).reverse)↔q∈flat ts:=by
     rw [GW,E6];exact⟨fun⟨a,ha,e⟩=>iF e▸ha,fun h=>⟨q,h,rfl⟩⟩
    refine zp (D0 (D4 (i:=5) (j:=1) rfl rfl (bJ (zq rfl ⟨ae _,?_⟩))));rw [Kw rfl];by_cases hin:q∈flat ts
    ·rw [Kx (memk.mpr hin),show (!true)=false from rfl,Kv EG];refine wa ⟨ts,_,_,_,rfl,rfl,T,fun j g hj hg=>?_⟩;rcases Jq.mp hj with h | h
     ·exact past j g h hg
     ·rw [h,hq] at hg;cases hg;exact hin
    ·rw [Ky (fun z=>hin (memk.mp z)),show (!false)=true from rfl,Kw rfl];refine jP (eG (yk (zr (Kt,wd,cut,q) ?_)));walk_at "w";rintro _ ⟨ring,l,rfl,L,hh⟩;dsimp only at L hh;have T2:Told Kt wd cut (ts++[(ring,l)]):=by
      by_cases hi:i<((yy Kt wd cut).filter (inB Kt wd cut)).length
      ·have hp:y9 Kt wd cut q=none:=by
        rw [<-hS,ER hi] at hq;exact (w4 oq).mp (FR.mp (EK hq)).2
       have r0:=Dp L hh hp;exact T.more L hh hin (fun _=>hp) fun z=>by rw [r0] at z;cases z
      ·have all:∀ g,opG Kt wd cut g=true->y9 Kt wd cut g=none->g∈flat ts:=fun g og hp=>by
        have hm:g∈(yy Kt wd cut).filter (inB Kt wd cut):=FR.mpr ⟨jo.mpr og,(w4 og).mpr hp⟩;obtain⟨j,hj⟩:=Fy hm;obtain⟨hlt,_⟩:=EH.mp hj;refine past j g (by omega) ?_;rw [<-hS,ER hlt];exact hj
       have r1:=Ba T all L hh hin;refine T.more L hh hin (fun z=>by rw [r1] at z;cases z) fun _ g hg=>?_;have fr:=T.fresh L hh hin g hg;obtain⟨j,hj⟩:=Fy (jo.mpr (L.op g hg));have hq':=hq;rw [<-hS,EX (by omega)] at hq';have pw:(yy Kt wd cut).Pairwise gLt:=by rw [v9];exact (lu _ _).filter _
       obtain⟨l1,e1⟩:=EH.mp hj;obtain⟨l2,e2⟩:=EH.mp hq';rcases Nat.lt_trichotomy j (i - ((yy Kt wd cut).filter (inB Kt wd cut)).length) with h | h | h
       ·refine absurd (past (j+((yy Kt wd cut).filter (inB Kt wd cut)).length) g (by omega) ?_) fr;rw [<-hS,EX (by omega),Nat.add_sub_cancel];exact hj
       ·left;rw [<-e1,<- e2]
        congr 1
       ·right;rw [<-e1,<- e2];exact Gb.mp pw _ _ l2 l1 h
     have hf:=T2.len gd;have nd2:=T2.nd;rw [aD] at nd2 hf;have few:=T.few gd;refine zp ?_;refine jP (fV (i:=4) (j:=0) rfl rfl (by rw [EF];omega) (bJ (zq rfl ?_)));refine kN (uA (Bz (zq rfl ?_)));walk_at "w";refine⟨fun m ρ cs=>∃ x,ρ=[some (.dat (tab Kt)),some (.dat (.int cut)),some (.dat G),some (.dat (.list (S.map gD3))),some (.own (f.M.length+0)),some (.own (f.M.length+1)),some (.dat (gD3 q)),some (.dat (je (ring,l))),x]/\cs=[.lst ((ts++[(ring,l)]).map je),.set ((flat ts++l.take m).map gD3).reverse],?_,?_,?_⟩
     ·refine⟨_,rfl,?_⟩;rw [IX,FT,E9];rfl
     ·rintro m d _ _ hd ⟨x,rfl,rfl⟩;rw [EO] at hd;cases hg:l[m]? with
      | none=>rw [show (ring,l).2[m]?=none from hg] at hd;cases hd
      | some g =>
       rw [show (ring,l).2[m]?=some g from hg] at hd;cases hd;have tk:l.take (m+1)=l.take m++[g]:=by
        rw [Iq,hg];rfl
       have sp:l=l.take m++g :: l.drop (m+1):=by
        obtain⟨hlt,e⟩:=EH.mp hg;rw [<-e,<- HF hlt,GX]
       have hnew:g∉flat ts++l.take m:=fun z=>by
        have nd3:(flat ts++l).Nodup:=nd2;rw [sp,<- Gf] at nd3;exact (G3.mp nd3).2.2 g z g (ET ..) rfl
       have len:(((flat ts++l.take m).map gD3).reverse).length<300:=by
        rw [IQ,EF,EY,Fo];have:(flat ts++l).length<=98:=hf;rw [EY] at this;omega
       refine zp (D5 (i:=5) (j:=1) rfl rfl len (bJ (zq rfl ⟨ae _,fun z=>?_,fun _=>?_⟩)))
       ·rw [GW,E6] at z;obtain⟨a,ha,e⟩:=z;exact absurd (iF e▸ha) hnew
       ·refine⟨_,rfl,?_⟩;show [OC.lst _,OC.set (gD3 g :: ((flat ts++l.take m).map gD3).reverse)]=_;rw [tk,<- Gf,E9 (l₁:=flat ts++l.take m),HM];rfl
     ·rintro _ _ ⟨x,rfl,rfl⟩;refine⟨ts++[(ring,l)],_,_,_,rfl,?_,T2,fun j g hj hg=>?_⟩
      ·rw [EF,show (ring,l).2.length=l.length from rfl,Fq,aD]
      ·rw [aD];rcases Jq.mp hj with h | h
       ·exact FE _ (past j g h hg)
       ·rw [h,hq] at hg;cases hg;exact E8 _ (Ir hh)
  ·rintro _ _ ⟨ts,u,v,x,rfl,rfl,T,past⟩;have few:=T.few gd;refine Au (fO (uS "str" (zq (i:=4) (d:=.list (ts.map je)) ?_ ⟨_,rfl,wY T,by rw [EF];omega,.inl (by rw [EF];omega),fun es pm up=>?_⟩)))
   ·show some (freed _ _ _)=_;simp [freed]
   ·obtain⟨us,p,rfl⟩:=bL pm ts rfl;refine⟨us,rfl,T.perm p,fun g og=>?_,up⟩;have hm:g∈S:=by rw [<-hS];exact E8 _ (jo.mpr og)
    obtain⟨j,hj⟩:=Fy hm;obtain⟨hlt,_⟩:=EH.mp hj;exact (p.flatMap_right _).mem_iff.mpr (past j g (by rw [EF];exact hlt) hj)
section
variable {Kt:List (List Int)} {wd:Nat} {cut:Int} {r:List Gt}
theorem tI (L:LineOk Kt wd cut true r) {g:Gt} (hg:g∈r):z6 Kt wd (ahC Kt cut g).1 (ahC Kt cut g).2=true/\z6 Kt wd (bhC Kt cut g).1 (bhC Kt cut g).2=true:=by
 have o:=L.op g hg;constructor
 ·have hn:∃ n,yc Kt wd cut g=some n:=by
   obtain⟨i,hi⟩:=Fy hg;obtain⟨hlt,_⟩:=EH.mp hi;by_cases hl:i+1<r.length
   ·exact⟨_,L.ch i _ _ hi (ED hl)⟩
   ·have e:i=r.length - 1:=by omega
    have hz:r.getLast?=some g:=by rw [GB,<- e];exact hi
    have:=L.last g hz;rw [Kw rfl] at this;cases hh:r.head? with
    | none=>exact absurd (List.head?_eq_none_iff.mp hh) L.ne
    | some h=>exact⟨h,this.trans hh⟩
  obtain⟨n,hn⟩:=hn;unfold yc at hn;by_cases z:z6 Kt wd (ahC Kt cut g).1 (ahC Kt cut g).2=true
  ·exact z
  ·rw [Kv z] at hn;cases hn
 ·have hp:∃ p,opG Kt wd cut p=true/\yc Kt wd cut p=some g:=by
   obtain⟨i,hi⟩:=Fy hg;obtain⟨hlt,_⟩:=EH.mp hi
   match i,hi with
   | 0,hi =>
    obtain⟨z,hz,hzm⟩:=dz (t:=(true,r)) L.ne;have:=L.last z hz;rw [Kw rfl,FO] at this;exact⟨z,L.op z hzm,this.trans hi⟩
   | i+1,hi =>
    have hi':r[i]?=some r[i]:=ED (by omega);exact⟨_,L.op _ (EK hi'),L.ch i _ _ hi' hi⟩
  obtain⟨p,op,hp⟩:=hp;have hq:=next_prev op hp;unfold y9 at hq;by_cases z:z6 Kt wd (bhC Kt cut g).1 (bhC Kt cut g).2=true
  ·exact z
  ·rw [Kv z] at hq;cases hq
end
section
variable {Kt:List (List Int)} {wd:Nat} {cut:Int}
theorem lH {q:Bool} {l m:List Gt} (L:LineOk Kt wd cut q l) (M:LineOk Kt wd cut q m) (hh:l.head?=m.head?):∀ i,i<l.length->i<m.length/\l[i]?=m[i]?:=by
 intro i
 induction i with
 | zero =>
  intro hi;rw [FO,FO] at hh;refine⟨?_,hh⟩;rw [ED hi] at hh;exact (EH.mp hh.symm).1
 | succ i ih =>
  intro hi;obtain⟨h1,h2⟩:=ih (by omega);have a1:l[i]?=some l[i]:=ED (by omega);have a2:l[i+1]?=some l[i+1]:=ED hi;have hn:=L.ch i _ _ a1 a2;rw [a1] at h2;by_cases hm:i+1<m.length
  ·have b2:m[i+1]?=some m[i+1]:=ED hm;have hn':=M.ch i _ _ h2.symm b2;rw [hn] at hn';exact⟨hm,by rw [a2,b2,hn']⟩
  ·have hz:m.getLast?=some l[i]:=by rw [GB,show m.length - 1=i by omega];exact h2.symm
   have hl:=M.last _ hz;rw [hn] at hl;cases q with
   | false=>cases hl
   | true =>
    rw [Kw rfl,<- hh,FO,<- a2] at hl;have:=(List.getElem?_inj hi L.nd).mp hl;omega
theorem w6 {q:Bool} {l m:List Gt} (L:LineOk Kt wd cut q l) (M:LineOk Kt wd cut q m) (hh:l.head?=m.head?):l=m:=by
 refine Ij fun i=>?_;by_cases h:i<l.length
 ·exact (lH L M hh i h).2
 ·by_cases h2:i<m.length
  ·exact ((lH M L hh.symm i h2).2).symm
  ·rw [Fl (by omega),Fl (by omega)]
theorem hI {q:Bool} {l:List Gt} (L:LineOk Kt wd cut q l) {t:Bool×List Gt} (T:LineOk Kt wd cut t.1 t.2) (st:iH Kt wd cut t) {h:Gt} (hl:h∈l) (ht:h∈t.2):∀ g∈l,g∈t.2:=by
 obtain⟨j,hj⟩:=Fy hl;obtain⟨hlt,_⟩:=EH.mp hj;have up:∀ n i,i=j+n->∀ g,l[i]?=some g->g∈t.2:=fun n=>by
  induction n with
  | zero =>
   intro i hi g hg;rw [hi,Nat.add_zero,hj] at hg;cases hg;exact ht
  | succ n ih =>
   intro i hi g hg;obtain⟨hl2,_⟩:=EH.mp hg;have a1:l[j+n]?=some l[j+n]:=ED (by omega);rw [show i=j+n+1 by omega] at hg;exact cV T (ih _ rfl _ a1) (L.ch _ _ _ a1 hg)
 have dn:∀ n i,i+n=j->∀ g,l[i]?=some g->g∈t.2:=fun n=>by
  induction n with
  | zero =>
   intro i hi g hg;rw [show i=j by omega,hj] at hg;cases hg;exact ht
  | succ n ih =>
   intro i hi g hg;have a1:l[i+1]?=some l[i+1]:=ED (by omega);exact cU T st (L.op g (EK hg)) (ih (i+1) (by omega) _ a1) (L.ch i _ _ hg a1)
 intro g hg;obtain⟨i,hi⟩:=Fy hg;by_cases h':j<=i
 ·exact up (i - j) i (by omega) g hi
 ·exact dn (j - i) i (by omega) g hi
theorem w8 {a b:Gt} (h:gLt a b) (h':gLt b a):False:=by
 unfold gLt at h h';omega
theorem lI {ts us:List (Bool×List Gt)} (T:Told Kt wd cut ts) (U:Told Kt wd cut us) (all:∀ g,opG Kt wd cut g=true->g∈flat us) {t:Bool×List Gt} (ht:t∈ts):t∈us:=by
 have L:=T.line t ht;obtain⟨h,hh⟩:∃ h,t.2.head?=some h:=by
  cases q:t.2 with
  | nil=>exact absurd q L.ne
  | cons x l=>exact⟨x,rfl⟩
 have hm:=Ir hh;obtain⟨u,hu,hmu⟩:=Fs.mp (all h (L.op h hm));have M:=U.line u hu;have s1:=hI L M (U.st u hu) hm hmu;have s2:=hI M L (T.st t ht) hmu hm;obtain⟨k,hk⟩:∃ k,u.2.head?=some k:=by
  cases q:u.2 with
  | nil=>exact absurd q M.ne
  | cons x l=>exact⟨x,rfl⟩
 have hkm:=Ir hk;have noPrev:∀ {r:List Gt} {g:Gt},LineOk Kt wd cut true r->g∈r->y9 Kt wd cut g≠none:=fun R hg z=>by
  obtain⟨n,hn,_⟩:=dy (R.op _ hg) (tI R hg).2;rw [z] at hn;cases hn
 have kind:t.1=u.1:=by
  cases h1:t.1 with
  | true =>
   cases h2:u.1 with
   | true=>rfl
   | false =>
    rw [h1] at L;exact absurd (U.st u hu h2 k hk) (noPrev L (s2 k hkm))
  | false =>
   cases h2:u.1 with
   | false=>rfl
   | true =>
    rw [h2] at M;exact absurd (T.st t ht h1 h hh) (noPrev M hmu)
 have hd:h=k:=by
  cases h1:t.1 with
  | true =>
   rcases T.least t ht h1 h hh k (s2 k hkm) with e | e
   ·exact e.symm
   ·rcases U.least u hu (kind▸h1) k hk h hmu with e' | e'
    ·exact e'
    ·exact (w8 e e').elim
  | false =>
   have hp:=T.st t ht h1 h hh;obtain⟨i,hi⟩:=Fy hmu
   match i,hi with
   | 0,hi =>
    rw [FO,hi] at hk;exact Option.some.inj hk
   | i+1,hi =>
    obtain⟨hlt,_⟩:=EH.mp hi;have a1:u.2[i]?=some u.2[i]:=ED (by omega);have:=next_prev (M.op _ (EK a1)) (M.ch i _ _ a1 hi);rw [hp] at this;cases this
 have e2:t.2=u.2:=by
  rw [<-kind] at M;exact w6 L M (by rw [hh,hk,hd])
 have:t=u:=Jx kind e2;rw [this];exact hu
theorem tJ {t u:Bool×List Gt} (h:je t=je u):t=u:=by
 unfold je at h;injection h with h;injection h with h1 h2;injection h2 with h2 _;injection h2 with h2;refine Jx ?_ ?_
 ·have ne:PyData.str "ring"≠PyData.str "run":=fun z=>by
   have:=Ik (PyData.str "ring") (by decide +kernel);rw [show Fi (.str "ring") (.str "ring")=Fi (.str "ring") (.str "run") by rw [<-z]] at this;exact absurd this (by decide +kernel)
  cases h3:t.1 <;> cases h4:u.1
  ·rfl
  ·rw [h3,h4] at h1;exact absurd h1.symm ne
  ·rw [h3,h4] at h1;exact absurd h1 ne
  ·rfl
 ·exact List.map_inj_right (fun _ _=>lG) |>.mp h2
theorem eX:∀ {l m:List PyData},(∀ d∈l,zD d=true)->(l.Pairwise fun d e=>ltD d e=true)->(m.Pairwise fun d e=>ltD d e=true)->(∀ d,d∈l↔d∈m)->l=m
 | [],[],_,_,_,_=>rfl
 | [],b :: m,_,_,_,h=>nomatch (h b).mpr (ET ..)
 | a :: l,[],_,_,_,h=>nomatch (h a).mp (ET ..)
 | a :: l,b :: m,pl,p,q,h=>by
  obtain⟨p1,p2⟩:=Gp.mp p;obtain⟨q1,q2⟩:=Gp.mp q;have pa:=pl a (ET ..);have pb:=pl b ((h b).mpr (ET ..));have ab:a=b:=by
   rcases EW.mp ((h a).mp (ET ..)) with e | e
   ·exact e
   ·rcases EW.mp ((h b).mpr (ET ..)) with e' | e'
    ·exact e'.symm
    ·have:=mF _ _ _ pa pb pa (p1 b e') (q1 a e);rw [gW a pa] at this;cases this
  subst ab;rw [eX (fun d hd=>pl d (EM _ hd)) p2 q2 fun d=>?_];constructor
  ·intro hd;rcases EW.mp ((h d).mp (EM _ hd)) with e | e
   ·have:=p1 d hd;rw [e,gW a pa] at this;cases this
   ·exact e
  ·intro hd;rcases EW.mp ((h d).mpr (EM _ hd)) with e | e
   ·have:=q1 d hd;rw [e,gW a pa] at this;cases this
   ·exact e
theorem w9 {ts us:List (Bool×List Gt)} (T:Told Kt wd cut ts) (U:Told Kt wd cut us) (aT:∀ g,opG Kt wd cut g=true->g∈flat ts) (aU:∀ g,opG Kt wd cut g=true->g∈flat us)
  (pT:(ts.map je).Pairwise fun d e=>ltD d e=true) (pU:(us.map je).Pairwise fun d e=>ltD d e=true):ts=us:=by
 have e:ts.map je=us.map je:=eX (fun d hd=>by obtain⟨t,_,rfl⟩:=E6.mp hd;exact eV t) pT pU fun d=>by
  constructor
  ·intro hd;obtain⟨t,ht,rfl⟩:=E6.mp hd;exact E6.mpr ⟨t,lI T U aU ht,rfl⟩
  ·intro hd;obtain⟨t,ht,rfl⟩:=E6.mp hd;exact E6.mpr ⟨t,lI U T aT ht,rfl⟩
 exact (List.map_inj_right fun _ _=>tJ).mp e
end
noncomputable abbrev scr (ns:List Int):PyData:=.list (ns.map .int)
theorem rf {K:EI} {H:Hp} {a:EL} {ns:List Int} (h:SqL K H a (ns.map V.int)):Rep K (hide H L2.f0) (scr ns) (.ref a):=by
 rw [jl];exact zG.mpr ⟨a,_,rfl,h,Reps.ints' ns⟩
theorem Bc {K:EI} {H:Hp} {v:V} {ns:List Int} (h:Rep K (hide H L2.f0) (scr ns) v):∃ a,v=.ref a/\SqL K H a (ns.map V.int):=by
 rw [jl] at h;obtain⟨a,xs,rfl,h1,h2⟩:=zG.mp h;rw [h2.ints] at h1;exact⟨a,rfl,h1⟩
def nq (K:EI):Sp:=fun vs H Q _=>∃ (a:EL) (ns:List Int) (i:Int),vs=[.ref a,.int i]/\SqL K H a (ns.map V.int)/\ns.length<=63/\0<=i/\i<=63 /\
 ∀ (p:EL) (x y:Int) (H':Hp),Same H H'->H p=none->H' p=some (.lst [.int x,.int y])->0<=x->0<=y->y<2147483647->Q (.ref p) H'
def rg (K:EI):Sp:=fun vs H Q _=>∃ (a:EL) (ns:List Int),vs=[.ref a]/\SqL K H a (ns.map V.int)/\ns.length<=63/\∀ H',Q (.bl true) H'
theorem Bd (F:Def K mg "_law_feed" vC qb) (uaa:mg "len"=none) (uae:mg "abs"=none):FnIn P w K mg base (k+1) "_law_feed" qb (nq K):=by
 refine F.raw v7 (fun vs H Q E h=>?_) fun fa cdv A outer s H vs Q E hr hs=>⟨_,(zc (zO (i:=2) v7.nd rfl (Or.inl rfl) zd) (zc (yC (zZ ug (zF (z8 (K:=K) rfl) rfl uaa Fw (za (pv 0) zb)) zd (zQ _)) (zh (zO (i:=2) v7.nd rfl (Or.inl rfl) (zE (zH (K:=K) rfl) (pv 0) (zk vU (pv 1) (zF (z8 (K:=K) rfl) rfl uaa Fw (za (pv 0) zb))) (fun _ _=>rfl)))) zV) (zh (zu (yw (za (zF (bq) rfl uae Ho (za (pv 2) zb)) (za (zk zX (zk aV zd (pv 1)) zd) zb))))))),?_⟩
 ·obtain⟨a,ns,i,rfl,_⟩:=h;rfl
 obtain⟨a,ns,i,rfl,hS,h63,i0,i1,q⟩:=hs;have e0:EnvOk K L2.f0 (qU bb [.dat (scr ns),.dat (.int i)]) (start bb [.ref a,.int i]) H:=qZ (.cons (rf hS) (.cons (show RepV K L2.f0 H (.dat (.int i)) (.int i) from (zt (K:=K) (H:=hide H L2.f0)).mpr rfl) .nil)) (L2.fok0 H);refine ux (D:={ nx:=fun ρ=>ρ=[some (.dat (scr ns)),some (.dat (.int i)),some (.dat (.int 0))],rt:=fun _=>False }) ?_ e0 ?_ (fun _ _ _ _ _ z=>z.elim) (fun _ z=>z) (fun _ z=>z)
 ·walk_at "w";rfl
 rintro _ σ1 H1 g1 e1 rfl;refine ux (D:={ nx:=fun ρ=>∃ c:Int,ρ=[some (.dat (scr ns)),some (.dat (.int i)),some (.dat (.int c))],rt:=fun _=>False }) ?_ e1 ?_ (fun _ _ _ _ _ z=>z.elim) (fun _ z=>z) (fun _ z=>z)
 ·walk_at "w";rw [EF];by_cases h:0<ns.length
  ·rw [Kw (by simpa using h)];walk_at "w";rw [EF];have z0:=JK i (b:=(ns.length:Int)) (by omega);have z1:=Hl i (b:=(ns.length:Int)) (by omega);refine⟨by omega,_,rfl,_,qs (j:=(i % (ns.length:Int)).toNat) (by omega) (by omega),?_⟩;walk_at "w";exact⟨_,rfl⟩
  ·rw [Kv (by simpa using h)];walk_at "w";exact⟨_,rfl⟩
 rintro _ σ2 H2 g2 e2 ⟨c,rfl⟩;unfold iU;have ss:Same H H2:=(L2.same0 g1).trans (L2.same0 g2);refine uy (R:=fun ds=>∃ x y:Int,ds=[.int x,.int y]/\0<=x/\0<=y/\y<2147483647) ?_ e2 ?_
 ·walk_at "w";omega
 ·rintro p ds vs H3 g3 hn rs ⟨x,y,rfl,hx,hy,hy'⟩;have sf:Same H H3:=ss.trans (L2.same0 g3);have ev:vs=[.int x,.int y]:=Reps.ints (ns:=[x,y]) rs;subst ev;exact q p x y _ (sf.trans (yf hn _)) (sf.free hn) zK hx hy hy'
abbrev eY (K:EI):Sp:=spD K 2 (fun (c:Int×Int) xs=>xs=[.dat (.int c.1),.dat (.int c.2)]) fun c r=>r=.int (Gg c.1 c.2:Int)
noncomputable def EB:zw->Nat
 | [_,some (.dat (.int b))]=>b.toNat
 | _=>0
theorem xa (a b:Nat):Kr b (a % b)=Kr a b:=by rw [Nat.gcd_comm b,<- Nat.gcd_rec,Nat.gcd_comm]
theorem tK (F:Def K mg "common" bQ pF) (uae:mg "abs"=none):FnIn P w K mg base (k+1) "common" pF (eY K):=by
 refine F.ok cE rfl fun fa cdv A outer s H E hr=>⟨_,(zc (t9 (i:=0) (j:=1) rfl cE.nd rfl rfl (by decide) rfl rfl (za (zF (bq) rfl uae Ho (za (pv 0) zb)) (za (zF (bq) rfl uae Ho (za (pv 1) zb)) zb)) rfl) (zc (dI Fv (ym (K:=K) rfl (pv 1) (fun _=>rfl)) (zh (t9 (i:=0) (j:=1) rfl cE.nd rfl rfl (by decide) rfl rfl (za (pv 1) (za (zk vU (pv 0) (pv 1)) zb)) rfl))) (zh (zu (pv 0))))),?_⟩;rintro f xs ⟨a,b⟩ hl rfl
 try dsimp only [ye,zj]
 dsimp only at *;refine yg (BF ?_);walk_at "w";have ha:(if a<0 then -a else a)=(a.natAbs:Int):=by split <;> omega
 have hb:(if b<0 then -b else b)=(b.natAbs:Int):=by split <;> omega
 refine (Ad (fun ρ=>∃ p q:Nat,ρ=[some (.dat (.int p)),some (.dat (.int q))]/\Kr p q=Gg a b) EB ⟨a.natAbs,b.natAbs,?_,rfl⟩ ?_)
 ·rw [ha,hb];rfl
 rintro _ ⟨p,q,rfl,h⟩;walk_at "w";refine yt (fun h2=>?_) fun h2=>?_
 ·have hq:0<q:=by
   have:(q:Int)≠0:=by simpa using h2
   omega
  refine BF ?_;walk_at "w";refine⟨⟨q,p % q,?_,?_⟩,?_⟩
  ·rfl
  ·rw [xa];exact h
  ·show ((p:Int) % (q:Int)).toNat<((q:Int)).toNat;have:=IY p hq;omega
 ·have hq:q=0:=by
   have:(q:Int)=0:=by simpa using h2
   omega
  subst hq;walk_at "w";rw [Nat.gcd_zero_right] at h;rw [h]
abbrev Fr2:=Int×Int
noncomputable def frD (p:Fr2):PyData:=.tuple [.int p.1,.int p.2]
abbrev rh (K:EI):Sp:=spD K 2 (fun (c:Fr2) xs=>xs=[.dat (.int c.1),.dat (.int c.2)]/\c.2≠0/\c.2.natAbs<aI) fun c r=>r=C4 (I9 c.1 c.2)
theorem xb (F:Def K mg "shortened" qM pX) (uaJ:FnIn P w K mg base k "common" pF (eY K)):FnIn P w K mg base (k+1) "shortened" pX (rh K):=by
 refine F.ok vw rfl fun fa cdv A outer s H E hr=>⟨_,(zc (zO (i:=2) vw.nd rfl (Or.inl rfl) (zf uaJ hr rfl (za (pv 0) (za (pv 1) zb)))) (zc (yC (zZ iX (pv 1) zd (zQ _)) (zh (zO (i:=2) vw.nd rfl (Or.inl rfl) (ue l9 (pv 2)))) zV) (zh (zu (zN (za (zk bM (pv 0) (pv 2)) (za (zk bM (pv 1) (pv 2)) zb))))))),?_⟩;rintro f xs ⟨t,b⟩ hl ⟨rfl,b0,bh⟩
 try dsimp only [ye,zj]
 dsimp only at *;obtain⟨s1,s2⟩:=sP (t:=t) b0;have gp:0<Gg t b:=IL t b0;have gl:Gg t b<=b.natAbs:=Kf (by omega) (Int.ofNat_dvd_left.mp (Int.gcd_dvd_right t b));refine yg (yk (zr (t,b) (C2 rfl rfl ⟨rfl,rfl,?_⟩)));rintro _ rfl;refine zp (oK (fun ρ=>ρ=[some (.dat (.int t)),some (.dat (.int b)),some (.dat (.int (b.sign * (Gg t b:Int))))]) ?_ ?_)
 ·refine BL (b<0) (t_b (kh (zq rfl ⟨_,rfl,yE ⟨_,rfl,_,rfl,rfl⟩⟩))) (fun h=>?_) fun h=>jO ?_
  ·refine yk (uK (zq rfl ⟨_,rfl,zp ?_⟩));rw [Gx h,Int.neg_one_mul];rfl
  ·have:0<b:=by omega
   rw [GU this,JY];rfl
 rintro _ rfl;have nz:b.sign * ((Gg t b:Nat):Int)≠0:=Int.mul_ne_zero (fun z=>b0 (Int.sign_eq_zero_iff_zero.mp z)) (by omega);have nh:(b.sign * ((Gg t b:Nat):Int)).natAbs<aI:=by
  rw [Im,Ia];have:b.sign.natAbs=1:=by
   rcases GK b 0 with h | h | h
   ·rw [Gx h];rfl
   ·exact absurd h b0
   ·rw [GU h];rfl
  rw [this,Nat.one_mul];omega
 refine yI (vP (zv (yP (zq rfl ⟨_,rfl,zq rfl ⟨_,rfl,⟨nz,nh⟩,zv (yP (zq rfl ⟨_,rfl,zq rfl ⟨_,rfl,⟨nz,nh⟩,yd ⟨_,rfl,by show 2<=1000;decide,?_⟩⟩⟩))⟩⟩))));show PyData.tuple [.int _,.int _]=C4 _;rw [s1,s2];rfl
theorem vf {Kt:List (List Int)} {wd:Nat} {cut x y w:Int} (h:yG Kt wd cut x y w=true):v8 Kt wd x y w=true:=by
 unfold yG at h;rw [EV] at h;exact h.1
theorem dA {Kt:List (List Int)} {wd:Nat} {x y:Int} (g:Good wd Kt) (h:yj Kt wd x y=true):-1000000000<=zJ Kt x y/\zJ Kt x y<=1000000000:=by
 obtain⟨x0,x1,y0,y1⟩:=jB h;have hy:y.toNat<Kt.length:=by omega
 have hr:=g.row _ (Ff hy);have hx:x.toNat<Kt[y.toNat].length:=by omega
 have:=g.hgt _ (Ff hy) _ (Ff hx);unfold zJ;rw [EE,EE,ED hy,Ju,ED hx];exact this
noncomputable def TT (Kt:List (List Int)) (cut x y:Int):Int:=2 * cut+1 - 2 * zJ Kt x y
noncomputable def BB (Kt:List (List Int)) (x y w:Int):Int:=2 * (zJ Kt (px x w) (py y w) - zJ Kt x y)
theorem ag {Kt:List (List Int)} {wd:Nat} {cut x y w:Int} (h:yG Kt wd cut x y w=true):(0<TT Kt cut x y/\TT Kt cut x y<BB Kt x y w) \/ (TT Kt cut x y<0/\BB Kt x y w<TT Kt cut x y):=by
 unfold yG at h;rw [EV] at h;have h2:=h.2;unfold TT BB;generalize zJ Kt x y=a at *;generalize zJ Kt (px x w) (py y w)=b at *;by_cases ha:cut<a
 ·by_cases hb:cut<b
  ·rw [Kx ha,Kx hb] at h2;cases h2
  ·omega
 ·by_cases hb:cut<b
  ·omega
  ·rw [Ky ha,Ky hb] at h2;cases h2
theorem lJ {Kt:List (List Int)} {wd:Nat} {cut x y w:Int} (h:yG Kt wd cut x y w=true):BB Kt x y w≠0:=by
 have:=ag h;omega
theorem BQ {Kt:List (List Int)} {wd:Nat} {cut x y w:Int} (g:Good wd Kt) (h:yG Kt wd cut x y w=true):(BB Kt x y w).natAbs<=4000000000:=by
 obtain⟨i1,i2⟩:=vc (vf h);have b1:=dA g i1;have b2:=dA g i2;unfold BB;omega
theorem w01 {Kt:List (List Int)} {wd:Nat} {cut x y w:Int} (h:yG Kt wd cut x y w=true):w=0 \/ w=1:=by
 have h:=vf h;unfold v8 at h;rw [EV] at h;exact of_decide_eq_true h.1
noncomputable def shQ (Kt:List (List Int)) (cut:Int) (g:Gt):Rat:=I9 (TT Kt cut g.1 g.2.1) (BB Kt g.1 g.2.1 g.2.2)
noncomputable def plT (Kt:List (List Int)) (cut:Int) (g:Gt):Gt:=if g.2.2=0 then (g.1 * ((shQ Kt cut g).den:Int)+(shQ Kt cut g).num,g.2.1 * ((shQ Kt cut g).den:Int),((shQ Kt cut g).den:Int)) else (g.1 * ((shQ Kt cut g).den:Int),g.2.1 * ((shQ Kt cut g).den:Int)+(shQ Kt cut g).num,((shQ Kt cut g).den:Int))
theorem BR {Kt:List (List Int)} {wd:Nat} {cut:Int} {g:Gt} (gd:Good wd Kt) (o:opG Kt wd cut g=true):(shQ Kt cut g).num.natAbs<=4000000000/\(shQ Kt cut g).den<=4000000000/\0<(shQ Kt cut g).den:=by
 have h1:=BQ gd o;have h2:=ag o;refine⟨Fm (mJ _ _) (by omega),Fm (mK (lJ o)) h1,(shQ Kt cut g).den_pos⟩
def PlB (p:Gt):Prop:=p.1.natAbs<=32000000000/\p.2.1.natAbs<=32000000000/\0<p.2.2/\p.2.2<=4000000000
theorem Eh {Kt:List (List Int)} {wd:Nat} {cut:Int} {g:Gt} (gd:Good wd Kt) (o:opG Kt wd cut g=true):PlB (plT Kt cut g):=by
 obtain⟨b1,b2,b3⟩:=BR gd o;obtain⟨i1,i2⟩:=vc (vf o);obtain⟨x0,x1,y0,y1⟩:=jB i1;have w2:=gd.w2;have h2:=gd.h2;have mx:∀ a:Int,0<=a->a<7->(a * ((shQ Kt cut g).den:Int)).natAbs<=28000000000:=fun a a0 a1=>by
  have:a=0 \/ a=1 \/ a=2 \/ a=3 \/ a=4 \/ a=5 \/ a=6:=by omega
  rcases this with rfl | rfl | rfl | rfl | rfl | rfl | rfl <;> omega
 have m1:=mx g.1 x0 (by omega);have m2:=mx g.2.1 y0 (by omega);unfold PlB plT;split
 ·dsimp only;omega
 ·dsimp only;omega
abbrev rj (K:EI):Sp:=spD K 3 tD fun c r=>r=C4 (shQ c.1 c.2.2.1 c.2.2.2)
theorem xc (F:Def K mg "share" dw pf) (uar:FnIn P w K mg base k "gate_points" ["gate"] (oT K)) (ubi:FnIn P w K mg base k "shortened" pX (rh K)):FnIn P w K mg base (k+1) "share" pf (rj K):=by
 refine F.ok eL rfl fun fa cdv A outer s H E hr=>⟨_,(zc (yn (jb (N:=pM) (own:=2) (fr:=[0]) (by walk_at "c") rfl (yh (K:=K) rfl (zf uar hr rfl (za (pv 2) zb))) (fun _ _ _ _=>(zI (K:=K) (n:=2) rfl rfl (ze (zg (i:=0) (show (pM:List Str).Nodup by decide +kernel) rfl (Or.inl rfl) (Or.inr rfl)) (ze (zg (i:=1) (show (pM:List Str).Nodup by decide +kernel) rfl (Or.inl rfl) (Or.inr rfl)) zB)))) (fun _ _ _ _=>yX) (fun _ _ _ _=>(zE (zH (K:=K) rfl) (zE (zH (K:=K) rfl) (pv 2) (pv 1) (fun _ _=>rfl)) (pv 0) (fun _ _=>rfl))) rfl rfl (fun _=>rfl)) (gT (K:=K) (n:=2) rfl rfl (ze (zg (i:=3) eL.nd rfl (Or.inl rfl) (Or.inr rfl)) (ze (zg (i:=4) eL.nd rfl (Or.inl rfl) (Or.inr rfl)) zB)))) (zh (zu (zf ubi hr rfl (za (zk z9 (zk zX (zk yv zd (pv 1)) zd) (zk yv zd (pv 3))) (za (zk yv zd (zk z9 (pv 4) (pv 3))) zb)))))),?_⟩;rintro f xs ⟨Kt,wd,cut,x,y,w⟩ hl ⟨rfl,g,ho⟩
 try dsimp only [ye,zj]
 dsimp only at *;obtain⟨i1,i2⟩:=vc (vf ho);have n0:BB Kt x y w≠0:=lJ ho;have n1:(BB Kt x y w).natAbs<=4000000000:=BQ g ho;refine yg (yk (PEdO.ped (kr (A:=fun p:Int×Int=>PyData.tuple [.int p.1,.int p.2]) (B:=fun p:Int×Int=>PyData.int (zJ Kt p.1 p.2)) [(x,y),(px x w,py y w)] (yQ (zr (x,y,w) (eI rfl ⟨rfl,rfl,?_⟩))))));rintro _ rfl;refine⟨_,rfl,rfl,show 2<=1000 by decide,?_,?_⟩
 ·rintro D p ρ' es hp ho hes;obtain⟨u,v,rfl⟩:=ho.two;have hi:yj Kt wd p.1 p.2=true:=by
   simp only [EW,GF,or_false] at hp;rcases hp with rfl | rfl
   ·exact i1
   ·exact i2
  obtain⟨r,h1,h2⟩:=eO g hi;refine ju rfl (zy (zp (zy (zp (yx (q9 ?_))))));rw [Kw rfl];refine jv hes ?_;unfold tab;walk_at "w";refine⟨_,h1,?_⟩;walk_at "w";refine⟨_,h2,?_⟩;exact⟨.mk2,rfl⟩
 ·refine uH rfl (zy (zp (zy (zp (yx ?_)))));have sm:∀ {i:Int},i.natAbs<2 ^ 60->i.natAbs<aI:=fun h=>vo h (by decide);have b1:-1000000000<=zJ Kt x y/\zJ Kt x y<=1000000000:=dA g i1;have b2:-1000000000<=zJ Kt (px x w) (py y w)/\zJ Kt (px x w) (py y w)<=1000000000:=dA g i2;have cb:(cut:Int).natAbs<2 ^ 60:=by
   have:(0<TT Kt cut x y/\TT Kt cut x y<BB Kt x y w) \/ (TT Kt cut x y<0/\BB Kt x y w<TT Kt cut x y):=ag ho;unfold TT BB at this;omega
  refine yI (zr (TT Kt cut x y,BB Kt x y w) ?_);refine zv (vW (vW (yP (yE ⟨_,rfl,zq rfl ⟨_,rfl,⟨sm (by decide),sm cb⟩,_,rfl,yE ⟨_,rfl,_,rfl,yP (yE ⟨_,rfl,zq rfl ⟨_,rfl,⟨sm (by decide),sm (show (zJ Kt x y).natAbs<_ by omega)⟩,_,rfl,?_⟩⟩)⟩⟩⟩))));refine zv (yP (yE ⟨_,rfl,vW (zq rfl ⟨_,rfl,zq rfl ⟨_,rfl,_,rfl,⟨sm (by decide),sm (show (zJ Kt (px x w) (py y w) - zJ Kt x y).natAbs<_ by omega)⟩,yd ⟨rfl,⟨rfl,n0,sm (by omega)⟩,?_⟩⟩⟩)⟩));rintro _ rfl;rfl
abbrev gv (K:EI):Sp:=spD K 3 tD fun c r=>r=gD3 (plT c.1 c.2.2.1 c.2.2.2)
theorem lK (F:Def K mg "place_of" vA pf) (ubj:FnIn P w K mg base k "share" pf (rj K)):FnIn P w K mg base (k+1) "place_of" pf (gv K):=by
 refine F.ok jn rfl fun fa cdv A outer s H E hr=>⟨_,(zc (yn (pv 2) (zI (K:=K) (n:=3) rfl rfl (ze (zg (i:=3) jn.nd rfl (Or.inl rfl) (Or.inr rfl)) (ze (zg (i:=4) jn.nd rfl (Or.inl rfl) (Or.inr rfl)) (ze (zg (i:=5) jn.nd rfl (Or.inl rfl) (Or.inr rfl)) zB))))) (zc (yn (zf ubj hr rfl (za (pv 0) (za (pv 1) (za (pv 2) zb)))) (zI (K:=K) (n:=2) rfl rfl (ze (zg (i:=6) jn.nd rfl (Or.inl rfl) (Or.inr rfl)) (ze (zg (i:=7) jn.nd rfl (Or.inl rfl) (Or.inr rfl)) zB)))) (zc (yC (zZ (jV (K:=K) rfl hr.units) (pv 5) zd (zQ _)) (zh (zu (zN (za (zk zX (zk yv (pv 3) (pv 7)) (pv 6)) (za (zk yv (pv 4) (pv 7)) (za (pv 7) zb)))))) zV) (zh (zu (zN (za (zk yv (pv 3) (pv 7)) (za (zk zX (zk yv (pv 4) (pv 7)) (pv 6)) (za (pv 7) zb))))))))),?_⟩;rintro f xs ⟨Kt,wd,cut,x,y,w⟩ hl ⟨rfl,g,ho⟩
 try dsimp only [ye,zj]
 dsimp only at *;obtain⟨b1,b2,b3⟩:=BR g ho;obtain⟨i1,i2⟩:=vc (vf ho);obtain⟨x0,x1,y0,y1⟩:=jB i1;have w2:=g.w2;have h2:=g.h2;have sm:∀ {i:Int},i.natAbs<2 ^ 60->i.natAbs<aI:=fun h=>vo h (by decide);refine yg (yk (zq rfl (ju rfl (zy (zp (zy (zp (zy (zp (yx ?_))))))))));refine yg (yk (zr (Kt,wd,cut,x,y,w) (C3 rfl rfl rfl ⟨rfl,⟨rfl,g,ho⟩,?_⟩)));rintro _ rfl;dsimp only;have cx:CMulH x ((shQ Kt cut (x,y,w)).den:Int):=⟨sm (by dsimp only at x0 x1;omega),sm (by rw [Ia];omega)⟩;have cy:CMulH y ((shQ Kt cut (x,y,w)).den:Int):=⟨sm (by dsimp only at y0 y1;omega),sm (by rw [Ia];omega)⟩;refine ju rfl (zy (zp (zy (zp (yx ?_)))));refine yg (BL (w=0) (Eb rfl) (fun h=>?_) fun h=>jO ?_)
 ·refine yI (vP (zv (vW (yP (zq rfl ⟨_,rfl,zq rfl ⟨_,rfl,cx,_,rfl,zq rfl ⟨_,rfl,zv (yP (zq rfl ⟨_,rfl,zq rfl ⟨_,rfl,cy,zv (zq rfl (yd ⟨_,rfl,by show 3<=1000;decide,?_⟩))⟩⟩))⟩⟩⟩)))));unfold plT;rw [Kw h];rfl
 ·refine yI (vP (zv (yP (zq rfl ⟨_,rfl,zq rfl ⟨_,rfl,cx,zv (vW (yP (zq rfl ⟨_,rfl,zq rfl ⟨_,rfl,cy,_,rfl,zq rfl ⟨_,rfl,zv (zq rfl (yd ⟨_,rfl,by show 3<=1000;decide,?_⟩))⟩⟩⟩)))⟩⟩))));unfold plT;rw [Kv h];rfl
abbrev Pt:=Int×Int
noncomputable def pD (p:Pt):PyData:=.tuple [.int p.1,.int p.2]
noncomputable def inP (Kt:List (List Int)) (wd:Nat) (p:Pt):Bool:=yj Kt wd p.1 p.2
noncomputable def nbL (p:Pt):List Pt:=[(p.1 - 1,p.2),(p.1,p.2 - 1),(p.1,p.2+1),(p.1+1,p.2)]
abbrev TP:=List (List Int)×Nat×Int×Int
abbrev Ei (K:EI):Sp:=spD K 3 (fun (c:TP) xs=>xs=[.dat (tab c.1),.dat (.int c.2.2.1),.dat (.int c.2.2.2)]/\Good c.2.1 c.1) fun c r=>r=.list (((nbL (c.2.2.1,c.2.2.2)).filter (inP c.1 c.2.1)).map pD)
theorem Ej (F:Def K mg "neighbours" j8 pq) (uak:FnIn P w K mg base k "has_point" pq (oS K)):FnIn P w K mg base (k+1) "neighbours" pq (Ei K):=by
 refine F.ok aN rfl fun fa cdv A outer s H E hr=>⟨_,(zc (zO (i:=3) aN.nd rfl (Or.inl rfl) (yw (za (zN (za (zk z9 (pv 1) zd) (za (pv 2) zb))) (za (zN (za (pv 1) (za (zk z9 (pv 2) zd) zb))) (za (zN (za (pv 1) (za (zk zX (pv 2) zd) zb))) (za (zN (za (zk zX (pv 1) zd) (za (pv 2) zb))) zb)))))) (zh (zu (jb (N:=pN) (own:=2) (fr:=[0]) (by walk_at "c") rfl (yh (K:=K) rfl (pv 3)) (fun _ _ _ _=>(zI (K:=K) (n:=2) rfl rfl (ze (zg (i:=0) (show (pN:List Str).Nodup by decide +kernel) rfl (Or.inl rfl) (Or.inr rfl)) (ze (zg (i:=1) (show (pN:List Str).Nodup by decide +kernel) rfl (Or.inl rfl) (Or.inr rfl)) zB)))) (fun _ _ _ _=>(bt (ym (K:=K) rfl (zf uak hr rfl (za (pv 2) (za (pv 0) (za (pv 1) zb)))) (fun _=>rfl)))) (fun _ _ _ _=>(zN (za (pv 0) (za (pv 1) zb)))) rfl rfl (fun _=>rfl))))),?_⟩;rintro f xs ⟨Kt,wd,x,y⟩ hl ⟨rfl,g⟩
 try dsimp only [ye,zj]
 dsimp only at *;refine oK (fun ρ=>ρ=[some (.dat (tab Kt)),some (.dat (.int x)),some (.dat (.int y)),some (.dat (.list ((nbL (x,y)).map pD)))]) ?_ ?_
 ·walk_at "w";rfl
 rintro _ rfl;refine yI (PEdO.ped (wm (A:=pD) (B:=pD) (inP Kt wd) (nbL (x,y)) (yQ (zq rfl ⟨_,rfl,rfl,GC rfl,?_,rfl⟩))));rintro D ⟨a,b⟩ ρ' es hg ho hes;obtain⟨us,hus,rfl⟩:=ho
 match us,hus with
 | [u1,u2],_ =>
  refine ju rfl (zy (zp (zy (zp (yx (jN (zr (Kt,wd,a,b) ?_)))))));walk_at "w";rintro _ rfl;refine⟨_,rfl,rfl,yt (fun h=>?_) fun h=>?_⟩
  ·refine jv hes ?_;walk_at "w";exact⟨⟨[_,_],rfl,rfl⟩,rfl⟩
  ·exact⟨[_,_],rfl,rfl⟩
def Lcm (l:List Nat) (s:Nat):Prop:=0<s/\∀ m:Nat,s ∣ m↔∀ d∈l,d≠0->d ∣ m
theorem Be:Lcm [] 1:=⟨by decide,fun m=>Iff.intro (fun _ d h=>by cases h) (fun _=>Nat.one_dvd m)⟩
theorem lcm_zero {l:List Nat} {s:Nat} (h:Lcm l s):Lcm (l++[0]) s:=⟨h.1,fun m=>by
 rw [h.2 m];constructor
 ·intro q d hd nz;rcases Fj.mp hd with hd | hd
  ·exact q d hd nz
  ·rw [Fc.mp hd] at nz;exact absurd rfl nz
 ·exact fun q d hd=>q d (FE _ hd)⟩
theorem xf {l:List Nat} {s d:Nat} (h:Lcm l s) (hd:0<d):Lcm (l++[d]) (Ks s d):=⟨Nat.lcm_pos h.1 hd,fun m=>by
 rw [Nat.lcm_dvd_iff,h.2 m];constructor
 ·rintro⟨q1,q2⟩ e he nz;rcases Fj.mp he with he | he
  ·exact q1 e he nz
  ·rw [Fc.mp he];exact q2
 ·exact fun q=>⟨fun e he=>q e (FE _ he),q d (E8 _ (Fc.mpr rfl)) (Hy hd)⟩⟩
theorem xg {l m:List Nat} {s t:Nat} (h:Lcm l s) (h':Lcm m t) (e:∀ d,d≠0->(d∈l↔d∈m)):s=t :=
 Nat.dvd_antisymm ((h.2 t).mpr fun d hd nz=>(h'.2 t).mp (Kk t) d ((e d nz).mp hd) nz) ((h'.2 s).mpr fun d hd nz=>(h.2 s).mp (Kk s) d ((e d nz).mpr hd) nz)
theorem lcm_one {s d:Nat} (hd:0<d):s / Kr s d * d=Ks s d:=by
 rw [Ks,Nat.div_mul_right_comm (Nat.gcd_dvd_left s d)]
noncomputable def gap (Kt:List (List Int)) (p q:Pt):Nat:=2 * (zJ Kt p.1 p.2 - zJ Kt q.1 q.2).natAbs
noncomputable def c8 (t n:Nat):List Pt:=(E7 n).flatMap fun (x:Nat)=>(E7 t).map fun (y:Nat)=>((x:Int),(y:Int))
theorem rn (t n:Nat):vd t n=(c8 t n).map pD:=by
 unfold vd c8;rw [IC]
 congr 1
 funext x
 rw [GG];rfl
theorem bX {t n:Nat} {p:Pt}:p∈c8 t n↔0<=p.1/\p.1<n/\0<=p.2/\p.2<t:=by
 unfold c8;rw [Fs];constructor
 ·rintro⟨x,hx,hp⟩;obtain⟨y,hy,rfl⟩:=E6.mp hp;have hx:=Fe.mp hx;have hy:=Fe.mp hy;dsimp only;omega
 ·rintro⟨h1,h2,h3,h4⟩;refine⟨p.1.toNat,Fe.mpr (show p.1.toNat<n by omega),E6.mpr ⟨p.2.toNat,Fe.mpr (show p.2.toNat<t by omega),?_⟩⟩;obtain⟨a,b⟩:=p;dsimp only at *;rw [HQ h1,HQ h3]
noncomputable def ah (Kt:List (List Int)) (wd:Nat) (p:Pt):List Nat:=((nbL p).filter (inP Kt wd)).map (gap Kt p)
noncomputable def qt (Kt:List (List Int)) (wd:Nat):List Nat:=(c8 Kt.length wd).flatMap (ah Kt wd)
theorem lL {Kt:List (List Int)} {wd:Nat} (g:Good wd Kt) {x y:Int} (h:yj Kt wd x y=true):∃ r:List Int,atI (Kt.map fun r=>PyData.list (r.map .int)) y=some (.list (r.map .int))/\atI (r.map PyData.int) x=some (.int (zJ Kt x y)):=by
 obtain⟨h1,h2,h3,h4⟩:=jB h;obtain⟨r,er⟩:∃ r,Kt[y.toNat]?=some r:=⟨_,ED (by omega)⟩;have rl:=g.row r (EK er);obtain⟨c,ec⟩:∃ c,r[x.toNat]?=some c:=⟨_,ED (by omega)⟩;have e1:zJ Kt x y=c:=by
  unfold zJ;rw [EE,EE,er];show (r[x.toNat]?).getD 0=c;rw [ec];rfl
 refine⟨r,?_,?_⟩
 ·have:=br (j:=y.toNat) (show (Kt.map fun r=>PyData.list (r.map .int))[y.toNat]?=some (.list (r.map .int)) by rw [EO,er];rfl);rw [HQ h3] at this;exact this
 ·rw [e1];have:=br (j:=x.toNat) (show (r.map PyData.int)[x.toNat]?=some (.int c) by rw [EO,ec];rfl);rw [HQ h1] at this;exact this
theorem bY {Kt:List (List Int)} {wd:Nat} (g:Good wd Kt) {x y:Int} (h:yj Kt wd x y=true):-1000000000<=zJ Kt x y/\zJ Kt x y<=1000000000:=by
 obtain⟨h1,h2,h3,h4⟩:=jB h;obtain⟨r,er⟩:∃ r,Kt[y.toNat]?=some r:=⟨_,ED (by omega)⟩;have rl:=g.row r (EK er);obtain⟨c,ec⟩:∃ c,r[x.toNat]?=some c:=⟨_,ED (by omega)⟩;have e1:zJ Kt x y=c:=by
  unfold zJ;rw [EE,EE,er];show (r[x.toNat]?).getD 0=c;rw [ec];rfl
 rw [e1];exact g.hgt r (EK er) c (EK ec)
abbrev Ek (c:List (List Int)×Nat) (xs:List DV):Prop:=xs=[.dat (tab c.1)]/\Good c.2 c.1
abbrev iI (K:EI):Sp:=spD K 1 Ek fun c r=>∃ s:Nat,r=.int s/\Lcm (qt c.1 c.2) s
theorem xh (F:Def K mg "scale_of" vB ph) (uae:mg "abs"=none) (uai:FnIn P w K mg base k "ask_table" ph (lg K)) (uaB:FnIn P w K mg base k "points" ph (eP K)) (ubk:FnIn P w K mg base k "neighbours" pq (Ei K)) (uaJ:FnIn P w K mg base k "common" pF (eY K)):FnIn P w K mg base (k+1) "scale_of" ph (iI K):=by
 refine F.ok yJ rfl fun fa cdv A outer s H E hr=>⟨_,(zc (jf (zf uai hr rfl (za (pv 0) zb))) (zc (zO (i:=1) yJ.nd rfl (Or.inl rfl) zd) (zc (jq Fv rfl (yh (K:=K) rfl (zf uaB hr rfl (za (pv 0) zb))) (zI (K:=K) (n:=2) rfl rfl (ze (zg (i:=2) yJ.nd rfl (Or.inl rfl) (Or.inr rfl)) (ze (zg (i:=3) yJ.nd rfl (Or.inl rfl) (Or.inr rfl)) zB))) (zh (jq Fv rfl (yh (K:=K) rfl (zf ubk hr rfl (za (pv 0) (za (pv 2) (za (pv 3) zb))))) (zI (K:=K) (n:=2) rfl rfl (ze (zg (i:=4) yJ.nd rfl (Or.inl rfl) (Or.inr rfl)) (ze (zg (i:=5) yJ.nd rfl (Or.inl rfl) (Or.inr rfl)) zB))) (zc (zO (i:=6) yJ.nd rfl (Or.inl rfl) (zk aV zd (zF (bq) rfl uae Ho (za (zk z9 (zE (zH (K:=K) rfl) (zE (zH (K:=K) rfl) (pv 0) (pv 3) (fun _ _=>rfl)) (pv 2) (fun _ _=>rfl)) (zE (zH (K:=K) rfl) (zE (zH (K:=K) rfl) (pv 0) (pv 5) (fun _ _=>rfl)) (pv 4) (fun _ _=>rfl))) zb)))) (zh (yC (ym (K:=K) rfl (pv 6) (fun _=>rfl)) (zh (zO (i:=1) yJ.nd rfl (Or.inl rfl) (zk aV (zk d5 (pv 1) (zf uaJ hr rfl (za (pv 1) (za (pv 6) zb)))) (pv 6)))) zV)))))) (zh (zu (pv 1)))))),?_⟩;rintro f xs ⟨Kt,wd⟩ hl ⟨rfl,g⟩
 try dsimp only [ye,zj]
 dsimp only at *;refine yg (dS (zr (Kt,wd) ?_));walk_at "w";rintro _ rfl;refine yg (yk (yE (zp ?_)));refine oK (fun ρ=>∃ (s:Nat) (x3 x4 x5 x6 x7:Option DV),ρ=[some (.dat (tab Kt)),some (.dat (.int s)),x3,x4,x5,x6,x7]/\Lcm (qt Kt wd) s) (fK (yQ (zr (Kt,wd) ?_))) ?_
 ·walk_at "w";rintro _ rfl;refine⟨_,rfl,fun i ρ=>∃ (s:Nat) (x3 x4 x5 x6 x7:Option DV),ρ=[some (.dat (tab Kt)),some (.dat (.int s)),x3,x4,x5,x6,x7]/\Lcm (((c8 Kt.length wd).take i).flatMap (ah Kt wd)) s,⟨1,_,_,_,_,_,rfl,Be⟩,?_,?_⟩
  ·rintro i d _ hd ⟨s,x3,x4,x5,x6,x7,rfl,L⟩;dsimp only at hd;rw [rn,EO] at hd;cases ep:(c8 Kt.length wd)[i]? with
   | none=>rw [ep] at hd;cases hd
   | some p =>
    rw [ep] at hd;cases hd;obtain⟨x,y⟩:=p;have tk:((c8 Kt.length wd).take (i+1)).flatMap (ah Kt wd)=((c8 Kt.length wd).take i).flatMap (ah Kt wd)++ah Kt wd (x,y):=by
     rw [FN,ep,Ge];simp
    obtain⟨p1,p2,p3,p4⟩:=bX.mp (EK ep);dsimp only at p1 p2 p3 p4;have ip:yj Kt wd x y=true:=by
     unfold yj;rw [Kx (by omega),Kx (by omega)];rfl
    obtain⟨r,a1,a2⟩:=lL g ip;have b1:=bY g ip;refine ju rfl (zy (zp (zy (zp (yx (fK (yQ (zr (Kt,wd,x,y) ?_))))))));walk_at "w";rintro _ rfl;dsimp only;generalize hB:((c8 Kt.length wd).take i).flatMap (ah Kt wd)=B at L tk;refine⟨_,rfl,fun j ρ=>∃ (s:Nat) (x5 x6 x7:Option DV),ρ=[some (.dat (tab Kt)),some (.dat (.int s)),some (.dat (.int x)),some (.dat (.int y)),x5,x6,x7]/\Lcm (B++(((nbL (x,y)).filter (inP Kt wd)).take j).map (gap Kt (x,y))) s,⟨s,_,_,_,rfl,by simpa using L⟩,?_,?_⟩
    ·rintro j d _ hd ⟨s,x5,x6,x7,rfl,L⟩;rw [EO] at hd;cases eq:((nbL (x,y)).filter (inP Kt wd))[j]? with
     | none=>rw [eq] at hd;cases hd
     | some q =>
      rw [eq] at hd;cases hd;obtain⟨a,b⟩:=q;have iq:yj Kt wd a b=true:=(FR.mp (EK eq)).2;obtain⟨r',a3,a4⟩:=lL g iq;have b2:=bY g iq;have tk2:B++(((nbL (x,y)).filter (inP Kt wd)).take (j+1)).map (gap Kt (x,y))=(B++(((nbL (x,y)).filter (inP Kt wd)).take j).map (gap Kt (x,y)))++[gap Kt (x,y) (a,b)]:=by
       rw [FN,eq,E9,Gf];rfl
      have eb:(2:Int) * (if zJ Kt x y - zJ Kt a b<0 then -(zJ Kt x y - zJ Kt a b) else zJ Kt x y - zJ Kt a b)=(gap Kt (x,y) (a,b):Nat):=by
       unfold gap;dsimp only;split <;> omega
      have gb:gap Kt (x,y) (a,b)<=4000000000:=by
       unfold gap;dsimp only;omega
      refine ju rfl (zy (zp (zy (zp (yx ?_)))));generalize hg:gap Kt (x,y) (a,b)=d at eb gb tk2;refine oK (fun ρ=>ρ=[some (.dat (tab Kt)),some (.dat (.int s)),some (.dat (.int x)),some (.dat (.int y)),some (.dat (.int a)),some (.dat (.int b)),some (.dat (.int (d:Int)))]) (yk ?_) ?_
      ·walk_at "w";refine⟨_,a1,?_⟩;walk_at "w";refine⟨_,a2,?_⟩;walk_at "w";refine⟨_,a3,?_⟩;walk_at "w";refine⟨_,a4,?_⟩;walk_at "w";show [_,_,_,_,_,_,some (DV.dat (.int (2 * (if zJ Kt x y - zJ Kt a b<0 then -(zJ Kt x y - zJ Kt a b) else zJ Kt x y - zJ Kt a b))))]=_;rw [eb]
      rintro _ rfl;refine aX (jN (zq rfl ⟨_,rfl,yt (fun h=>?_) fun h=>?_⟩))
      ·have nz:0<d:=by
        have:(d:Int)≠0:=by simpa using h
        omega
       have gp:=Nat.gcd_pos_of_pos_right s nz;have gl:=Nat.gcd_le_right s nz;have ei:((s:Int) / ((Gg (s:Int) (d:Int):Nat):Int)) * (d:Int)=((Ks s d:Nat):Int):=by
        rw [<-lcm_one nz];rfl
       have gi:((Gg (s:Int) (d:Int):Nat):Int)=((Kr s d:Nat):Int):=rfl;refine yk ?_;walk_at "w";refine zr ((s:Int),(d:Int)) ?_;walk_at "w";rintro _ rfl;refine⟨_,rfl,⟨by dsimp only;omega,by dsimp only;omega⟩,_,rfl,zq rfl ⟨_,rfl,.inr ⟨by omega,by omega⟩,zp ⟨Ks s d,some (.dat (.int a)),some (.dat (.int b)),some (.dat (.int d)),?_,?_⟩⟩⟩
       ·rw [<-ei];rfl
       ·rw [tk2];exact xf L nz
      ·have z:d=0:=by
        have:(d:Int)=0:=by simpa using h
        omega
       refine jO ⟨s,_,_,_,rfl,?_⟩;rw [tk2,z];exact lcm_zero L
    ·rintro _ ⟨s,x5,x6,x7,rfl,L⟩;rw [EF,Fq] at L;exact⟨s,_,_,_,_,_,rfl,by rw [tk];exact L⟩
  ·rintro _ ⟨s,x3,x4,x5,x6,x7,rfl,L⟩;rw [rn,EF,Fq] at L;exact⟨s,_,_,_,_,_,rfl,L⟩
 ·rintro _ ⟨s,x3,x4,x5,x6,x7,rfl,L⟩;exact yI (zq rfl ⟨s,rfl,L⟩)
def ji (Kt:List (List Int)) (wd:Nat) (cut:Int) (ts:List (Bool×List Gt)):Prop:=Told Kt wd cut ts/\(∀ g,opG Kt wd cut g=true->g∈flat ts)/\(ts.map je).Pairwise fun d e=>ltD d e=true
noncomputable def linesOf (Kt:List (List Int)) (wd:Nat) (cut:Int):List (Bool×List Gt):=Classical.epsilon (ji Kt wd cut)
theorem xi {Kt:List (List Int)} {wd:Nat} {cut:Int} {ts:List (Bool×List Gt)} (h:ji Kt wd cut ts):linesOf Kt wd cut=ts:=by
 have h':ji Kt wd cut (linesOf Kt wd cut):=Iu (p:=ji Kt wd cut) ⟨ts,h⟩;exact w9 h'.1 h.1 h'.2.1 h.2.1 h'.2.2 h.2.2
noncomputable def scP (Kt:List (List Int)) (cut:Int) (s:Nat) (g:Gt):Pt:=((plT Kt cut g).1 * s / (plT Kt cut g).2.2,(plT Kt cut g).2.1 * s / (plT Kt cut g).2.2)
noncomputable def wbD (Kt:List (List Int)) (cut:Int) (s:Nat) (t:Bool×List Gt):PyData:=.tuple [.str (if t.1=true then "ring" else "run"),.tuple (t.2.map fun g=>pD (scP Kt cut s g))]
noncomputable def tL (Kt:List (List Int)) (wd:Nat) (s:Nat) (cuts:List Int):List PyData:=cuts.flatMap fun cut=>(linesOf Kt wd cut).map (wbD Kt cut s)
theorem Dt {Kt:List (List Int)} {wd:Nat} {cut:Int} {g:Gt} (o:opG Kt wd cut g=true):(BB Kt g.1 g.2.1 g.2.2).natAbs∈qt Kt wd/\(BB Kt g.1 g.2.1 g.2.2).natAbs≠0:=by
 have nz:=lJ o;obtain⟨i1,i2⟩:=vc (vf o);obtain⟨x0,x1,y0,y1⟩:=jB i1;refine⟨Fs.mpr ⟨(g.1,g.2.1),bX.mpr ⟨x0,x1,y0,y1⟩,E6.mpr ⟨(px g.1 g.2.2,py g.2.1 g.2.2),FR.mpr ⟨?_,i2⟩,?_⟩⟩,by omega⟩
 ·unfold nbL px py;rcases w01 o with h | h
  ·rw [Kw h,Kw h];simp
  ·have:¬ g.2.2=0:=by omega
   rw [Kv this,Kv this];simp
 ·unfold gap BB;dsimp only;omega
theorem Bf {Kt:List (List Int)} {wd:Nat} {cut:Int} {g:Gt} {s:Nat} (h:Lcm (qt Kt wd) s) (o:opG Kt wd cut g=true):(shQ Kt cut g).den ∣ s:=by
 obtain⟨h1,h2⟩:=Dt o;refine Nat.dvd_trans ?_ ((h.2 s).mp (Kk s) _ h1 h2);unfold shQ;rw [JZ,Kv (lJ o)];exact Nat.div_dvd_of_dvd (Int.ofNat_dvd_left.mp (Int.gcd_dvd_left _ _))
theorem Du {l:List Nat} (hl:∀ d∈l,d<2 ^ 32):∀ {s:Nat},Lcm l s->s<=2 ^ (32 * l.length):=by
 intro s h;have key:∀ l:List Nat,(∀ d∈l,d<2 ^ 32)->∃ p:Nat,0<p/\p<=2 ^ (32 * l.length)/\∀ d∈l,d≠0->d ∣ p:=fun l=>by
  induction l with
  | nil=>exact fun _=>⟨1,by decide,by decide,fun d hd=>nomatch hd⟩
  | cons d l ih =>
   intro h;obtain⟨p,p1,p2,p3⟩:=ih fun e he=>h e (EM _ he);have hd:=h d ET;have e:2 ^ (32 * (d :: l).length)=2 ^ (32 * l.length) * 2 ^ 32:=by
    rw [E1,Nat.mul_add,Nat.pow_add]
   rw [e];by_cases z:d=0
   ·refine⟨p,p1,Fm p2 (Nat.le_mul_of_pos_right _ (by decide)),fun e he nz=>?_⟩;rcases EW.mp he with rfl | he
    ·exact absurd z nz
    ·exact p3 e he nz
   ·refine⟨p * d,Nat.mul_pos p1 (by omega),Io p2 (Gj hd),fun e he nz=>?_⟩;rcases EW.mp he with rfl | he
    ·exact Nat.dvd_mul_left _ _
    ·exact Nat.dvd_trans (p3 e he nz) (Nat.dvd_mul_right _ _)
 obtain⟨p,p1,p2,p3⟩:=key l hl;exact Fm (Kf p1 ((h.2 p).mpr p3)) p2
theorem bB {α β:Type} {F:α->List β} {b:Nat} (h:∀ x,(F x).length<=b):∀ l:List α,(l.flatMap F).length<=b * l.length
 | []=>Ft _
 | x :: l=>by
  have:=bB h l;have:=h x;rw [Ip,EY,E1,Nat.mul_add];omega
theorem xj {Kt:List (List Int)} {wd:Nat} {s:Nat} (gd:Good wd Kt) (h:Lcm (qt Kt wd) s):s<2 ^ 6300:=by
 have b1:∀ d∈qt Kt wd,d<2 ^ 32:=fun d hd=>by
  obtain⟨p,hp,hd⟩:=Fs.mp hd;obtain⟨q,hq,rfl⟩:=E6.mp hd;have iq:yj Kt wd q.1 q.2=true:=(FR.mp hq).2;obtain⟨a1,a2,a3,a4⟩:=bX.mp hp;have ip:yj Kt wd p.1 p.2=true:=by
   unfold yj;rw [Kx (by omega),Kx (by omega)];rfl
  have c1:=bY gd ip;have c2:=bY gd iq;unfold gap;omega
 have b2:(qt Kt wd).length<=196:=by
  have f1:∀ p,(ah Kt wd p).length<=4:=fun p=>by
   unfold ah;rw [EF];exact Fm (Gh _ _) (by show 4<=4;decide)
  have f2:=bB f1 (c8 Kt.length wd);have f3:(c8 Kt.length wd).length<=49:=by
   have f4:∀ x:Nat,((E7 Kt.length).map fun (y:Nat)=>((x:Int),(y:Int))).length<=Kt.length:=fun x=>by rw [EF,FH];exact EN _
   have f5:=bB f4 (E7 wd);rw [FH] at f5;exact Fm f5 (Io gd.h2 gd.w2)
  exact Fm f2 (by omega)
 have:=Du b1 h;refine Nat.lt_of_le_of_lt this (Nat.pow_lt_pow_right (by decide) (by omega))
abbrev TSc:=List (List Int)×Nat×Int×Gt×Nat
abbrev El (c:TSc) (xs:List DV):Prop:=xs=[.dat (tab c.1),.dat (.int c.2.2.1),.dat (gD3 c.2.2.2.1),.dat (.int c.2.2.2.2)]/\Good c.2.1 c.1/\opG c.1 c.2.1 c.2.2.1 c.2.2.2.1=true/\Lcm (qt c.1 c.2.1) c.2.2.2.2
abbrev lM (K:EI):Sp:=spD K 4 El fun c r=>r=pD (scP c.1 c.2.2.1 c.2.2.2.2 c.2.2.2.1)
theorem tM (F:Def K mg "scaled_place" jz qa) (ubl:FnIn P w K mg base k "place_of" pf (gv K)):FnIn P w K mg base (k+1) "scaled_place" qa (lM K):=by
 refine F.ok jh rfl fun fa cdv A outer s H E hr=>⟨_,(zc (yn (zf ubl hr rfl (za (pv 0) (za (pv 1) (za (pv 2) zb)))) (zI (K:=K) (n:=3) rfl rfl (ze (zg (i:=4) jh.nd rfl (Or.inl rfl) (Or.inr rfl)) (ze (zg (i:=5) jh.nd rfl (Or.inl rfl) (Or.inr rfl)) (ze (zg (i:=6) jh.nd rfl (Or.inl rfl) (Or.inr rfl)) zB))))) (zh (zu (zN (za (zk bM (zk yv (pv 4) (pv 3)) (pv 6)) (za (zk bM (zk yv (pv 5) (pv 3)) (pv 6)) zb)))))),?_⟩;rintro f xs ⟨Kt,wd,cut,q,sc⟩ hl ⟨rfl,g,o,L⟩
 try dsimp only [ye,zj]
 dsimp only at *;obtain⟨b1,b2,b3,b4⟩:=Eh g o;have sl:=xj g L;refine yg (yk (zr (Kt,wd,cut,q) (C3 rfl rfl rfl ⟨rfl,⟨rfl,g,o⟩,?_⟩)));rintro _ rfl;dsimp only;have sm:∀ {i:Int},i.natAbs<2 ^ 60->i.natAbs<aI:=fun h=>vo h (by decide);have sh:((sc:Nat):Int).natAbs<aI:=by rw [Ia];exact vo sl (by decide)
 clear sl;unfold scP;generalize plT Kt cut q=p at *;obtain⟨X,Y,W⟩:=p;dsimp only at b1 b2 b3 b4;have cd:∀ T,BM T W:=fun T=>⟨by omega,sm (by omega)⟩;refine EA (yI (vP (zv (yP (Ee rfl rfl ⟨sm (show X.natAbs<_ by omega),sh⟩ ⟨_,rfl,zq rfl ⟨_,rfl,cd _,?_⟩⟩)))));refine zv (yP (Ee rfl rfl ⟨sm (show Y.natAbs<_ by omega),sh⟩ ⟨_,rfl,zq rfl ⟨_,rfl,cd _,yd ⟨_,rfl,by show 2<=1000;decide,?_⟩⟩⟩));show PyData.tuple [.int _,.int _]=pD _;have W0:(0:Int)<=(X,Y,W).2.2:=show (0:Int)<=W by omega
 rw [Hr _ W0,Hr _ W0];rfl
abbrev BS (K:EI):Sp:=spN K 2 (fun (c:List (List Int)×Nat×List Int) xs=>xs=[.dat (tab c.1),.dat (.list (c.2.2.map .int))]/\Good c.2.1 c.1/\c.2.2.length<=3) fun c es=>∃ s:Nat,Lcm (qt c.1 c.2.1) s/\es=tL c.1 c.2.1 s c.2.2/\∀ cut∈c.2.2,ji c.1 c.2.1 cut (linesOf c.1 c.2.1 cut)
theorem Dv (F:Def K mg "web_of" bU pZ) (uam:mg "tuple"=none) (uai:FnIn P w K mg base k "ask_table" ph (lg K)) (uaK:FnIn P w K mg base k "scale_of" ph (iI K)) (ubm:FnIn P w K mg base k "scaled_place" qa (lM K)) (ubn:FnIn P w K mg base k "lines" pB (p9 K)):FnIn P w K mg base (k+1) "web_of" pZ (BS K):=by
 refine F.okN gc rfl fun fa cdv A outer s H E hr=>⟨_,(zc (jf (zf uai hr rfl (za (pv 0) zb))) (zc (zO (i:=2) gc.nd rfl (Or.inr rfl) (zf uaK hr rfl (za (pv 0) zb))) (zh (zu (kf (N:=qg) (own:=3) (fr:=[0,2]) (by walk_at "c") rfl (yh (K:=K) rfl (pv 1)) (fun _ _ _ _=>(zg (i:=0) (show (qg:List Str).Nodup by decide +kernel) rfl (Or.inr rfl) (Or.inl rfl))) (fun _ _ _ _=>yX) (fun _ _ _ _=>(yh (K:=K) rfl (zf ubn hr rfl (za (pv 3) (za (pv 0) zb))))) (fun _ _ _ _=>(zI (K:=K) (n:=2) rfl rfl (ze (zg (i:=1) (show (qg:List Str).Nodup by decide +kernel) rfl (Or.inl rfl) (Or.inr rfl)) (ze (zg (i:=2) (show (qg:List Str).Nodup by decide +kernel) rfl (Or.inl rfl) (Or.inr rfl)) zB)))) (fun _ _ _ _=>yX) (fun _ _ _ _=>(zN (za (pv 1) (za (ar (cN (K:=K) rfl) rfl uam Jw (za (jb (N:=["gate","cut","rows","scale"]) (own:=1) (fr:=[0,3,4]) (by walk_at "c") rfl (gR (K:=K) rfl (pv 2)) (fun _ _ _ _=>(zg (i:=0) (show (["gate","cut","rows","scale"]:List Str).Nodup by decide +kernel) rfl (Or.inl rfl) (Or.inr rfl))) (fun _ _ _ _=>yX) (fun _ _ _ _=>(zf ubm hr rfl (za (pv 2) (za (pv 1) (za (pv 0) (za (pv 3) zb)))))) rfl rfl (fun _=>rfl)) zb)) zb)))) rfl rfl (fun _=>rfl) (fun _ _ _ _ _=>rfl)))))),?_⟩;rintro f xs ⟨Kt,wd,cuts⟩ hl ⟨rfl,g,few⟩
 try dsimp only [ye,zj]
 dsimp only at *;refine bC (dS (zr (Kt,wd) (eI rfl ⟨rfl,⟨rfl,g⟩,?_⟩)));rintro _ rfl;refine bC (yk (zr (Kt,wd) (eI rfl ⟨rfl,⟨rfl,g⟩,?_⟩)));rintro _ ⟨sc,rfl,L⟩;dsimp only at L;refine zp (fO (vY (yQ (zq rfl ⟨_,rfl,fun n ρ es=>(∃ u1 u2 u3:Option DV,ρ=[u1,u2,u3,some (.dat (tab Kt)),some (.dat (.int sc))])/\es=tL Kt wd sc (cuts.take n)/\es.length<=49 * n/\∀ c∈cuts.take n,ji Kt wd c (linesOf Kt wd c),⟨⟨_,_,_,rfl⟩,rfl,by simp,fun c hc=>by simp at hc⟩,?_,?_⟩))))
 ·rintro D n d ρ' es hd ⟨⟨u1,u2,u3,rfl⟩,he,le,la⟩;rw [EO] at hd;cases et:cuts[n]? with
  | none=>rw [et] at hd;cases hd
  | some cut =>
   rw [et] at hd;cases hd;have hn:=(EH.mp et).1;have tk:cuts.take (n+1)=cuts.take n++[cut]:=by rw [FN,et];rfl
   refine zp (q9 ?_);rw [Kw rfl];refine CA (yQ (PEdO.ped (gU (Kt,wd,cut) (C2 rfl rfl ⟨rfl,⟨rfl,g⟩,?_⟩))));rintro _ ⟨ts,rfl,T,aT,pT⟩;dsimp only at T aT;have fT:=T.few g;have li:=xi ⟨T,aT,pT⟩;have nx:tL Kt wd sc (cuts.take (n+1))=es++ts.map (wbD Kt cut sc):=by
    rw [tk,he];unfold tL;rw [Ge];simp only [Ip,List.flatMap_nil,FT,li]
   refine⟨_,rfl,fun m ρ es2=>(∃ u2 u3:Option DV,ρ=[some (.dat (.int cut)),u2,u3,some (.dat (tab Kt)),some (.dat (.int sc))])/\es2=es++(ts.take m).map (wbD Kt cut sc),⟨⟨_,_,rfl⟩,by rw [IX,Ie,FT]⟩,?_,?_⟩
   ·rintro m d ρ2 es2 hd2 ⟨⟨u2,u3,rfl⟩,rfl⟩;rw [EO] at hd2;cases e2:ts[m]? with
    | none=>rw [e2] at hd2;cases hd2
    | some t =>
     rw [e2] at hd2;cases hd2;have ht:=EK e2;have Lt:=T.line t ht;have fl:=af g Lt.op Lt.nd;have tk2:ts.take (m+1)=ts.take m++[t]:=by rw [FN,e2];rfl
     refine Ec (q9 ?_);rw [Kw rfl];refine jv ?_ (vP (zv (zq rfl (zv (nW (zv (PEdO.ped (kr (A:=gD3) (B:=fun q=>pD (scP Kt cut sc q)) t.2 (uA (zq rfl ⟨_,rfl,rfl,by omega,?_,?_⟩))))))))))
     ·rw [EY,EF,Fo];omega
     ·rintro D2 q ρ3 es3 hq ho hes;obtain⟨u,rfl⟩:=ho.one;refine zp (q9 ?_);rw [Kw rfl];refine jv hes (zr (Kt,wd,cut,q,sc) (Ey rfl rfl rfl rfl ⟨rfl,⟨rfl,g,Lt.op q hq,L⟩,?_⟩));rintro _ rfl;exact⟨.mk1,rfl⟩
     ·refine yd (.inl ⟨_,rfl,yd ⟨_,rfl,by show 2<=1000;decide,⟨_,_,rfl⟩,?_⟩⟩);rw [tk2,E9,Gf];rfl
   ·rintro ρ2 es2 ⟨⟨u2,u3,rfl⟩,rfl⟩;rw [EF,Fq,<- nx];refine⟨⟨_,_,_,rfl⟩,rfl,?_,fun c hc=>?_⟩
    ·rw [nx,EY,EF];omega
    ·rw [tk] at hc;rcases Fj.mp hc with hc | hc
     ·exact la c hc
     ·rw [Fc.mp hc,li];exact⟨T,aT,pT⟩
 ·rintro ρ' es ⟨_,rfl,_,la⟩;rw [EF,Fq] at la ⊢;exact⟨sc,L,rfl,la⟩
abbrev Ln:=Bool×List Pt
abbrev Web:=List Ln
structure Sg where
 k:Nat
 i:Nat
 p:Pt
 q:Pt
noncomputable def eZ (b:Bool):Str:=if b then "ring" else "run"
noncomputable def lnD (l:Ln):PyData:=.tuple [.str (eZ l.1),.tuple (l.2.map pD)]
noncomputable def c9 (w:Web):PyData:=.list (w.map lnD)
noncomputable def de (s:Sg):PyData:=.tuple [.tuple [.int s.k,.int s.i],pD s.p,pD s.q]
noncomputable def mx (a b:Int):Int:=if b > a then b else a
noncomputable def mn (a b:Int):Int:=if b<a then b else a
noncomputable def zx (a b c:Pt):Int:=(b.1 - a.1) * (c.2 - a.2) - (b.2 - a.2) * (c.1 - a.1)
noncomputable def yL (a b c d:Int):Bool:=decide (mx a b<mn c d) || decide (mx c d<mn a b)
noncomputable def zA (a b c d:Pt):Bool:=!(yL a.1 b.1 c.1 d.1 || yL a.2 b.2 c.2 d.2) && (decide (zx a b c * zx a b d<=0) && decide (zx c d a * zx c d b<=0))
noncomputable def cW (a m c:Pt):Bool:=decide (zx a m c=0) && decide ((a.1 - m.1) * (c.1 - m.1)+(a.2 - m.2) * (c.2 - m.2) > 0)
noncomputable def qE (l:Ln):Nat:=if l.1 then l.2.length else l.2.length - 1
noncomputable def atP (ps:List Pt) (i:Nat):Pt:=ps.getD i (0,0)
noncomputable def yb (k:Nat) (l:Ln):List Sg:=(E7 (qE l)).map fun i=>⟨k,i,atP l.2 i,atP l.2 ((i+1) % l.2.length)⟩
noncomputable def yu (w:Web):List Sg:=(w.mapIdx yb).flatten
noncomputable def yr (w:Web) (k:Nat):Ln:=w.getD k (false,[])
noncomputable def yU (w:Web) (k i l j:Nat):Bool:=(yr w l).1 && (decide (k=l/\i=0) && decide ((j:Int)=(yr w l).2.length - 1))
noncomputable def df (w:Web) (s t:Sg):Bool :=
 if s.k=t.k/\s.i+1=t.i then cW s.p s.q t.q else if yU w s.k s.i t.k t.i=true then cW t.p t.q s.q else zA s.p s.q t.p t.q
noncomputable def yo (w:Web) (s t:Sg):Bool:=if s.k=t.k/\s.i=t.i then decide (s.p=s.q) else df w s t
noncomputable def look (f:Sg->Sg->Bool):List Sg->Option (Sg×Sg)
 | []=>none
 | s :: r=>match (s :: r).find? (f s) with
  | some t=>some (s,t)
  | none=>look f r
noncomputable def aP (w:Web):Option (Sg×Sg):=look (yo w) (yu w)
noncomputable def lN:Option (Sg×Sg)->PyData
 | none=>.none
 | some (s,t)=>.tuple [.int s.k,.int s.i,.int t.k,.int t.i]
structure Near (o p:Pt):Prop where
 a:o.1<=p.1
 b:p.1<=o.1+4398046511104
 c:o.2<=p.2
 d:p.2<=o.2+4398046511104
theorem bnd {B:Int} {x y:Int} (h1:-B<=x) (h2:x<=B) (h3:-B<=y) (h4:y<=B):-(B * B)<=x * y/\x * y<=B * B:=by
 have hB:0<=B:=by omega
 have a:x.natAbs<=B.natAbs:=by omega
 have b:y.natAbs<=B.natAbs:=by omega
 have c:(x * y).natAbs<=(B * B).natAbs:=by rw [Im,Im];exact Io a b
 have d:0<=B * B:=J1 hB hB;omega
theorem Dw {x:Int} (h:x.natAbs<1267650600228229401496703205376):x.natAbs<aI:=Fb (show x.natAbs<2 ^ 100 from h) (Hs (by decide) (by decide))
theorem jS {o a b:Pt} (ha:Near o a) (hb:Near o b):(b.1 - a.1).natAbs<aI/\(b.2 - a.2).natAbs<aI:=by
 obtain⟨a1,a2,a3,a4⟩:=ha;obtain⟨b1,b2,b3,b4⟩:=hb;exact⟨Dw (by omega),Dw (by omega)⟩
theorem lO {o a b c:Pt} (ha:Near o a) (hb:Near o b) (hc:Near o c):-(1267650600228229401496703205376)<zx a b c/\zx a b c<1267650600228229401496703205376:=by
 obtain⟨a1,a2,a3,a4⟩:=ha;obtain⟨b1,b2,b3,b4⟩:=hb;obtain⟨c1,c2,c3,c4⟩:=hc;have e1:=bnd (B:=4398046511104) (x:=b.1 - a.1) (y:=c.2 - a.2) (by omega) (by omega) (by omega) (by omega);have e2:=bnd (B:=4398046511104) (x:=b.2 - a.2) (y:=c.1 - a.1) (by omega) (by omega) (by omega) (by omega);unfold zx;omega
theorem vI {o a b c:Pt} (ha:Near o a) (hb:Near o b) (hc:Near o c):(zx a b c).natAbs<aI:=by
 have:=lO ha hb hc;exact Dw (by omega)
theorem lP {α β:Type} {F:α->β} {xs:List α} {k:Int} {j:Nat} (hk:(j:Int)=k) (h:j<xs.length):atI (xs.map F) k=some (F xs[j]):=by
 subst hk;refine br ?_;rw [EO,ED h];rfl
theorem xk {ps:List Pt} {k:Int} {j:Nat} (hk:(j:Int)=k) (h:j<ps.length):atI (ps.map pD) k=some (pD (atP ps j)):=by
 rw [lP hk h];unfold atP;rw [EE,ED h];rfl
theorem xl {w:Web} {k:Int} {j:Nat} (hk:(j:Int)=k) (h:j<w.length):atI (w.map lnD) k=some (lnD (yr w j)):=by
 rw [lP hk h];unfold yr;rw [EE,ED h];rfl
theorem e6 (b:Bool):(PyData.str (eZ b)).canLay0=true:=by cases b <;> decide +kernel
theorem gw (b:Bool):Fi (.str (eZ b)) (.str "ring")=b:=by cases b <;> rfl
theorem iJ (k i l j:Int):Fi (.tuple [.int k,.int i]) (.tuple [.int l,.int j])=decide (k=l/\i=j):=by
 show ((k == l) && ((i == j) && true))=_;rw [Ke,Bool.decide_and];rfl
theorem Dx (a b:Pt):Fi (pD a) (pD b)=decide (a=b):=by
 unfold pD;rw [iJ]
 congr 1
 rw [Prod.ext_iff]
theorem Dy (a b:Pt):min (pD a).depth (pD b).depth<=60:=by unfold pD;simp [JE,EZ]
noncomputable def jI (w:Web) (n:Nat):List Sg:=((w.take n).mapIdx yb).flatten
theorem ai {w:Web} {n:Nat} {l:Ln} (h:w[n]?=some l):jI w (n+1)=jI w n++yb n l:=by
 unfold jI;have hn:n<w.length:=(EH.mp h).1;rw [FN,h,List.mapIdx_append,Ka]
 congr 1
 simp [Fo,HX (Gj hn)]
theorem bf (w:Web):jI w w.length=yu w:=by
 unfold jI yu;rw [Fq]
theorem vJ (k:Nat) (l:Ln):(yb k l).length=qE l:=by unfold yb;simp
theorem iK (l:Ln):qE l<=l.2.length:=by unfold qE;split <;> omega
noncomputable def vK (w:Web):Nat:=(w.map fun l=>l.2.length).sum
structure OkWeb (o:Pt) (w:Web):Prop where
 len:w.length<=200
 two:∀ l∈w,2<=l.2.length
 few:∀ l∈w,l.2.length<=98
 sum:vK w<=900
 near:∀ l∈w,∀ p∈l.2,Near o p
theorem gx {w:Web}:∀ n,n<=w.length->(jI w n).length<=vK (w.take n)
 | 0,_=>by simp [jI]
 | n+1,hn=>by
  have hl:w[n]?=some w[n]:=ED (by omega);have e:vK (w.take (n+1))=vK (w.take n)+w[n].2.length:=by
   unfold vK;rw [FN,hl,E9,IP];simp
  rw [ai hl,EY,vJ,e];have:=gx (w:=w) n (by omega);have:=iK w[n];omega
theorem OkWeb.upto {o:Pt} {w:Web} (g:OkWeb o w) {n:Nat} {l:Ln} (h:w[n]?=some l):(jI w n).length+l.2.length<=900:=by
 obtain⟨hn,rfl⟩:=EH.mp h;have h1:=gx (w:=w) n (by omega);have h2:vK w=vK (w.take n)+(w[n].2.length+vK (w.drop (n+1))):=by
  have e:w=w.take n++w[n] :: w.drop (n+1):=by rw [<-HF hn,GX]
  have e2:=congrArg vK e;rw [e2];unfold vK;rw [E9,IP,Fg,List.sum_cons]
 have:=g.sum;omega
theorem fv {k m:Nat} {l:Ln} (h:m<qE l):(yb k l).take (m+1)=(yb k l).take m++[⟨k,m,atP l.2 m,atP l.2 ((m+1) % l.2.length)⟩]:=by
 rw [FN]
 congr 1
 unfold yb;rw [EO,Gd h];rfl
theorem iL {ps:List Pt} {i:Nat} (h:i<ps.length):atP ps i∈ps:=by
 unfold atP;rw [EE,ED h];exact Ff h
structure SegOf (w:Web) (s:Sg):Prop where
 k:s.k<w.length
 i:s.i<qE (yr w s.k)
 p:s.p=atP (yr w s.k).2 s.i
 q:s.q=atP (yr w s.k).2 ((s.i+1) % (yr w s.k).2.length)
theorem e7 {w:Web} {s:Sg} (h:s∈yu w):SegOf w s:=by
 unfold yu at h;rw [List.mem_flatten] at h;obtain⟨L,h1,h2⟩:=h;rw [List.mem_mapIdx] at h1;obtain⟨i,hi,rfl⟩:=h1;unfold yb at h2;rw [E6] at h2;obtain⟨j,hj,rfl⟩:=h2;rw [Fe] at hj;have e:yr w i=w[i]:=by
  unfold yr;rw [EE,ED hi];rfl
 exact⟨hi,by rw [e];exact hj,by rw [e],by rw [e]⟩
theorem lQ {w:Web} {k:Nat} (h:k<w.length):yr w k∈w:=by
 unfold yr;rw [EE,ED h];exact Ff h
theorem SegOf.near {o:Pt} {w:Web} {s:Sg} (x:SegOf w s) (g:OkWeb o w):Near o s.p/\Near o s.q:=by
 have m:=lQ x.k;have l2:=g.two _ m;have hi:=x.i;have:=iK (yr w s.k);refine⟨by rw [x.p];exact g.near _ m _ (iL (by omega)),by rw [x.q];exact g.near _ m _ (iL (IY _ (by omega)))⟩
theorem lR {f:Sg->Sg->Bool} {s t:Sg} {r:List Sg} {m:Nat} (ht:(s :: r)[m]?=some t) (h0:∀ u∈(s :: r).take m,f s u=false) (h1:f s t=true):look f (s :: r)=some (s,t):=by
 have e:(s :: r).find? (f s)=some t:=by
  rw [IE];refine⟨h1,(s :: r).take m,(s :: r).drop (m+1),?_,fun u hu=>by rw [h0 u hu];rfl⟩;have hm:m<(s :: r).length:=(EH.mp ht).1;have:=(EH.mp ht).2;rw [<-this,List.getElem_cons_drop,GX]
 show (match (s :: r).find? (f s) with | some t=>some (s,t) | none=>look f r)=_;rw [e]
theorem cG {f:Sg->Sg->Bool} {s:Sg} {r:List Sg} (h0:∀ u∈s :: r,f s u=false):look f (s :: r)=look f r:=by
 have e:(s :: r).find? (f s)=none:=by
  rw [HY];intro u hu;rw [h0 u hu];exact EG
 show (match (s :: r).find? (f s) with | some t=>some (s,t) | none=>look f r)=_;rw [e]
abbrev qS (K:EI):Sp:=spD K 3 (fun (c:Pt×Pt×Pt×Pt) xs=>xs=[.dat (pD c.2.1),.dat (pD c.2.2.1),.dat (pD c.2.2.2)]/\Near c.1 c.2.1/\Near c.1 c.2.2.1/\Near c.1 c.2.2.2) fun c r=>r=.int (zx c.2.1 c.2.2.1 c.2.2.2)
theorem xm (F:Def K mg "turn" ic pC):FnIn P w K mg base (k+1) "turn" pC (qS K):=by
 refine F.ok AK rfl fun fa cdv A outer s H E hr=>⟨_,(zh (zu (zk z9 (zk yv (zk z9 (zE (zP (K:=K) rfl) (pv 1) zd (fun _ _=>rfl)) (zE (zP (K:=K) rfl) (pv 0) zd (fun _ _=>rfl))) (zk z9 (zE (zP (K:=K) rfl) (pv 2) zd (fun _ _=>rfl)) (zE (zP (K:=K) rfl) (pv 0) zd (fun _ _=>rfl)))) (zk yv (zk z9 (zE (zP (K:=K) rfl) (pv 1) zd (fun _ _=>rfl)) (zE (zP (K:=K) rfl) (pv 0) zd (fun _ _=>rfl))) (zk z9 (zE (zP (K:=K) rfl) (pv 2) zd (fun _ _=>rfl)) (zE (zP (K:=K) rfl) (pv 0) zd (fun _ _=>rfl))))))),?_⟩;rintro f xs ⟨o,a,b,c⟩ hl ⟨rfl,na,nb,nc⟩
 try dsimp only [ye,zj]
 unfold pD;dsimp only at *;walk_at "w";refine⟨⟨(jS na nb).1,(jS na nc).2⟩,?_⟩;walk_at "w";refine⟨⟨(jS na nb).2,(jS na nc).1⟩,?_⟩;walk_at "w";rfl
abbrev rp (K:EI):Sp:=spD K 4 (fun (c:Int×Int×Int×Int) xs=>xs=[.dat (.int c.1),.dat (.int c.2.1),.dat (.int c.2.2.1),.dat (.int c.2.2.2)]) fun c r=>r=.bool (yL c.1 c.2.1 c.2.2.1 c.2.2.2)
theorem xn (F:Def K mg "apart" dr pz) (uad:mg "min"=none) (uah:mg "max"=none):FnIn P w K mg base (k+1) "apart" pz (rp K):=by
 refine F.ok wz rfl fun fa cdv A outer s H E hr=>⟨_,(zh (zu (DH (yD iX (zF (fD rfl) rfl uah boot_max (za (pv 0) (za (pv 1) zb))) (zF (fE rfl) rfl uad boot_min (za (pv 2) (za (pv 3) zb))) (zQ _)) (b6 (yD iX (zF (fD rfl) rfl uah boot_max (za (pv 2) (za (pv 3) zb))) (zF (fE rfl) rfl uad boot_min (za (pv 0) (za (pv 1) zb))) (zQ _)))))),?_⟩;rintro f xs ⟨a,b,c,d⟩ hl rfl
 try dsimp only [ye,zj]
 walk_at "w";refine yt (fun h=>?_) fun h=>?_
 ·show PyData.bool true=PyData.bool (yL a b c d);unfold yL mx mn;rw [h];rfl
 ·walk_at "w";show PyData.bool _=PyData.bool (yL a b c d);unfold yL mx mn;rw [h];rfl
abbrev cH (K:EI):Sp:=spD K 4 (fun (c:Pt×Pt×Pt×Pt×Pt) xs=>xs=[.dat (pD c.2.1),.dat (pD c.2.2.1),.dat (pD c.2.2.2.1),.dat (pD c.2.2.2.2)]/\Near c.1 c.2.1/\Near c.1 c.2.2.1/\Near c.1 c.2.2.2.1/\Near c.1 c.2.2.2.2) fun c r=>r=.bool (zA c.2.1 c.2.2.1 c.2.2.2.1 c.2.2.2.2)
theorem nt (F:Def K mg "touches" ax pz) (ua4:FnIn P w K mg base k "apart" pz (rp K)) (uag:FnIn P w K mg base k "turn" pC (qS K)):FnIn P w K mg base (k+1) "touches" pz (cH K):=by
 refine F.ok mO rfl fun fa cdv A outer s H E hr=>⟨_,(zc (yC (PW.pt (t6 (ym (K:=K) rfl (zf ua4 hr rfl (za (zE (zP (K:=K) rfl) (pv 0) zd (fun _ _=>rfl)) (za (zE (zP (K:=K) rfl) (pv 1) zd (fun _ _=>rfl)) (za (zE (zP (K:=K) rfl) (pv 2) zd (fun _ _=>rfl)) (za (zE (zP (K:=K) rfl) (pv 3) zd (fun _ _=>rfl)) zb))))) (fun _=>rfl)) (l4 (ym (K:=K) rfl (zf ua4 hr rfl (za (zE (zP (K:=K) rfl) (pv 0) zd (fun _ _=>rfl)) (za (zE (zP (K:=K) rfl) (pv 1) zd (fun _ _=>rfl)) (za (zE (zP (K:=K) rfl) (pv 2) zd (fun _ _=>rfl)) (za (zE (zP (K:=K) rfl) (pv 3) zd (fun _ _=>rfl)) zb))))) (fun _=>rfl))))) (zh (zu vR)) zV) (zh (zu (aS (yD vM (zk yv (zf uag hr rfl (za (pv 0) (za (pv 1) (za (pv 2) zb)))) (zf uag hr rfl (za (pv 0) (za (pv 1) (za (pv 3) zb))))) zd (zQ _)) (b6 (yD vM (zk yv (zf uag hr rfl (za (pv 2) (za (pv 3) (za (pv 0) zb)))) (zf uag hr rfl (za (pv 2) (za (pv 3) (za (pv 1) zb))))) zd (zQ _))))))),?_⟩;rintro f xs ⟨o,a,b,c,d⟩ hl ⟨rfl,na,nb,nc,nd⟩
 try dsimp only [ye,zj]
 dsimp only at *;have fin:PEd K f (t7
            (tOp (rI0 fun i j=>V.bl (decide (i<=j)))
             (tOp (rI CMulH fun i j=>V.int (i * j))
              (qY (qS K) [] E0 (z7 (yi 0) (z7 (yi 1) (z7 (yi 2) qv))))
              (qY (qS K) [] E0 (z7 (yi 0) (z7 (yi 1) (z7 (yi 3) qv)))))
             (tC (V.int 0)))
            (tOp (rI0 fun i j=>V.bl (decide (i<=j)))
             (tOp (rI CMulH fun i j=>V.int (i * j))
              (qY (qS K) [] E0 (z7 (yi 2) (z7 (yi 3) (z7 (yi 0) qv))))
              (qY (qS K) [] E0 (z7 (yi 2) (z7 (yi 3) (z7 (yi 1) qv)))))
             (tC (V.int 0)))) (qU fZ [DV.dat (pD a),DV.dat (pD b),DV.dat (pD c),DV.dat (pD d)])
   fun r=>r=.bool (decide (zx a b c * zx a b d<=0) && decide (zx c d a * zx c d b<=0)):=by
  refine mw (kh (yP (zr (o,a,b,c) ?_)));walk_at "w";rintro _ rfl;refine⟨_,rfl,zr (o,a,b,d) ?_⟩;walk_at "w";rintro _ rfl;refine⟨_,rfl,⟨vI na nb nc,vI na nb nd⟩,?_⟩;walk_at "w";refine yt (fun h=>?_) fun h=>?_
  ·refine kh (yP (zr (o,c,d,a) ?_));walk_at "w";rintro _ rfl;refine⟨_,rfl,zr (o,c,d,b) ?_⟩;walk_at "w";rintro _ rfl;refine⟨_,rfl,⟨vI nc nd na,vI nc nd nb⟩,?_⟩;walk_at "w";dsimp only at h ⊢;rw [h,G5]
  ·dsimp only at h ⊢;rw [h,Gu]
 refine yg (aX (Cn (jN (zr (a.1,b.1,c.1,d.1) ?_))));walk_at "w";rintro _ rfl;refine⟨_,rfl,?_⟩;have tt:zA a b c d=(!(yL a.1 b.1 c.1 d.1 || yL a.2 b.2 c.2 d.2) && (decide (zx a b c * zx a b d<=0) && decide (zx c d a * zx c d b<=0))):=rfl;dsimp only;cases h1:yL a.1 b.1 c.1 d.1 with
 | true =>
  rw [Kw rfl,Kw rfl];walk_at "w";rw [tt,h1];rfl
 | false =>
  rw [Kv EG];refine jN (zr (a.2,b.2,c.2,d.2) ?_);walk_at "w";rintro _ rfl;refine⟨_,rfl,?_⟩;dsimp only;cases h2:yL a.2 b.2 c.2 d.2 with
  | true =>
   rw [Kw rfl];walk_at "w";rw [tt,h1,h2];rfl
  | false =>
   rw [Kv EG];refine jO (yI (fin.imp fun r hr=>?_));rw [hr,tt,h1,h2];rfl
abbrev nu (K:EI):Sp:=spD K 3 (fun (c:Pt×Pt×Pt×Pt) xs=>xs=[.dat (pD c.2.1),.dat (pD c.2.2.1),.dat (pD c.2.2.2)]/\Near c.1 c.2.1/\Near c.1 c.2.2.1/\Near c.1 c.2.2.2) fun c r=>r=.bool (cW c.2.1 c.2.2.1 c.2.2.2)
theorem fz (F:Def K mg "turns_back" jZ pQ) (uag:FnIn P w K mg base k "turn" pC (qS K)):FnIn P w K mg base (k+1) "turns_back" pQ (nu K):=by
 refine F.ok yF rfl fun fa cdv A outer s H E hr=>⟨_,(zc (yC (zZ (vX (K:=K) rfl hr.units) (zf uag hr rfl (za (pv 0) (za (pv 1) (za (pv 2) zb)))) zd (zQ _)) (zh (zu vR)) zV) (zc (yn (zN (za (pv 0) (za (pv 1) (za (pv 2) zb)))) (zI (K:=K) (n:=3) rfl rfl (ze (zI (K:=K) (n:=2) rfl rfl (ze (zg (i:=3) yF.nd rfl (Or.inl rfl) (Or.inr rfl)) (ze (zg (i:=4) yF.nd rfl (Or.inl rfl) (Or.inr rfl)) zB))) (ze (zI (K:=K) (n:=2) rfl rfl (ze (zg (i:=5) yF.nd rfl (Or.inl rfl) (Or.inr rfl)) (ze (zg (i:=6) yF.nd rfl (Or.inl rfl) (Or.inr rfl)) zB))) (ze (zI (K:=K) (n:=2) rfl rfl (ze (zg (i:=7) yF.nd rfl (Or.inl rfl) (Or.inr rfl)) (ze (zg (i:=8) yF.nd rfl (Or.inl rfl) (Or.inr rfl)) zB))) zB))))) (zh (zu (yD ug (zk zX (zk yv (zk z9 (pv 3) (pv 5)) (zk z9 (pv 7) (pv 5))) (zk yv (zk z9 (pv 4) (pv 6)) (zk z9 (pv 8) (pv 6)))) zd (zQ _)))))),?_⟩;rintro f xs ⟨o,a,b,c⟩ hl ⟨rfl,na,nb,nc⟩
 try dsimp only [ye,zj]
 dsimp only at *;refine yg (aX (yV (aL (zr (o,a,b,c) ?_))));walk_at "w";rintro _ rfl;refine yE ⟨rfl,rfl,by simp [JE],_,rfl,?_⟩;dsimp only;rw [Kw rfl,show Fi (.int (zx a b c)) (.int 0)=decide (zx a b c=0) from rfl];by_cases h:zx a b c=0
 ·rw [Kx h,FX,Kv EG];unfold pD;walk_at "w";refine⟨⟨(jS nb na).1,(jS nb nc).1⟩,?_⟩;walk_at "w";refine⟨⟨(jS nb na).2,(jS nb nc).2⟩,?_⟩;walk_at "w";show PyData.bool _=PyData.bool _;unfold cW;rw [Kx h];rfl
 ·rw [Ky h,Ht,Kw rfl];walk_at "w";show PyData.bool _=PyData.bool _;unfold cW;rw [Ky h];rfl
noncomputable abbrev xo (k i:Nat):PyData:=.tuple [.int k,.int i]
abbrev e8 (K:EI):Sp:=spD K 3 (fun (c:Web×Nat×Nat×Nat×Nat) xs=>xs=[.dat (c9 c.1),.dat (xo c.2.1 c.2.2.1),.dat (xo c.2.2.2.1 c.2.2.2.2)]/\c.2.2.2.1<c.1.length) fun c r=>r=.bool (yU c.1 c.2.1 c.2.2.1 c.2.2.2.1 c.2.2.2.2)
theorem tN (F:Def K mg "closes" bO pP) (uaa:mg "len"=none):FnIn P w K mg base (k+1) "closes" pP (e8 K):=by
 refine F.ok cB rfl fun fa cdv A outer s H E hr=>⟨_,(zc (yn (zE (zH (K:=K) rfl) (pv 0) (zE (zP (K:=K) rfl) (pv 2) zd (fun _ _=>rfl)) (fun _ _=>rfl)) (zI (K:=K) (n:=2) rfl rfl (ze (zg (i:=3) cB.nd rfl (Or.inl rfl) (Or.inr rfl)) (ze (zg (i:=4) cB.nd rfl (Or.inl rfl) (Or.inr rfl)) zB)))) (zh (zu (aS (yD (jV (K:=K) rfl hr.units) (pv 3) vS (zQ _)) (aS (yD (jV (K:=K) rfl hr.units) (pv 1) (zN (za (zE (zP (K:=K) rfl) (pv 2) zd (fun _ _=>rfl)) (za zd zb))) (zQ _)) (b6 (yD (jV (K:=K) rfl hr.units) (zE (zP (K:=K) rfl) (pv 2) zd (fun _ _=>rfl)) (zk z9 (zF (z8 (K:=K) rfl) rfl uaa Fw (za (pv 4) zb)) zd) (zQ _)))))))),?_⟩;rintro f xs ⟨w,k,i,l,j⟩ hl ⟨rfl,hlw⟩
 try dsimp only [ye,zj]
 dsimp only at *;have lw:=e6 (yr w l).1;unfold c9 xo;walk_at "w";refine⟨_,xl rfl hlw,?_⟩;unfold lnD;walk_at "w";rw [Kv EG,gw];refine yt (fun h=>?_) fun h=>?_
 ·walk_at "w";rw [Kv EG,iJ];refine yt (fun h2=>?_) fun h2=>?_
  ·walk_at "w";rw [Kv EG,aB];show PyData.bool _=PyData.bool (yU w k i l j);unfold yU;have h2':k=l/\i=0:=by have:=of_decide_eq_true h2;omega
   rw [h,EF,Kx h2',G5,G5]
  ·show PyData.bool _=PyData.bool (yU w k i l j);unfold yU;have h2':¬ (k=l/\i=0):=by have:=of_decide_eq_false h2;omega
   rw [h,Ky h2'];rfl
 ·show PyData.bool _=PyData.bool (yU w k i l j);unfold yU;rw [h];rfl
abbrev rq (K:EI):Sp:=spD K 3 (fun (c:Pt×Web×Sg×Sg) xs=>xs=[.dat (c9 c.2.1),.dat (de c.2.2.1),.dat (de c.2.2.2)]/\c.2.2.2.k<c.2.1.length/\Near c.1 c.2.2.1.p/\Near c.1 c.2.2.1.q/\Near c.1 c.2.2.2.p/\Near c.1 c.2.2.2.q) fun c r=>r=.bool (yo c.2.1 c.2.2.1 c.2.2.2)
theorem xp (F:Def K mg "meets" dq pO) (ubo:FnIn P w K mg base k "closes" pP (e8 K)) (ua5:FnIn P w K mg base k "turns_back" pQ (nu K)) (ubp:FnIn P w K mg base k "touches" pz (cH K)) :
  FnIn P w K mg base (k+1) "meets" pO (rq K):=by
 refine F.ok qz rfl fun fa cdv A outer s H E hr=>⟨_,(zc (yn (pv 1) (zI (K:=K) (n:=3) rfl rfl (ze (zg (i:=3) qz.nd rfl (Or.inl rfl) (Or.inr rfl)) (ze (zg (i:=4) qz.nd rfl (Or.inl rfl) (Or.inr rfl)) (ze (zg (i:=5) qz.nd rfl (Or.inl rfl) (Or.inr rfl)) zB))))) (zc (yn (pv 2) (zI (K:=K) (n:=3) rfl rfl (ze (zg (i:=6) qz.nd rfl (Or.inl rfl) (Or.inr rfl)) (ze (zg (i:=7) qz.nd rfl (Or.inl rfl) (Or.inr rfl)) (ze (zg (i:=8) qz.nd rfl (Or.inl rfl) (Or.inr rfl)) zB))))) (zc (yC (zZ (jV (K:=K) rfl hr.units) (pv 3) (pv 6) (zQ _)) (zh (zu (yD (jV (K:=K) rfl hr.units) (pv 4) (pv 5) (zQ _)))) zV) (zc (yC (PW.pt (t5 (zZ (jV (K:=K) rfl hr.units) (zE (zP (K:=K) rfl) (pv 3) zd (fun _ _=>rfl)) (zE (zP (K:=K) rfl) (pv 6) zd (fun _ _=>rfl)) (zQ _)) (nK (zZ (jV (K:=K) rfl hr.units) (zk zX (zE (zP (K:=K) rfl) (pv 3) zd (fun _ _=>rfl)) zd) (zE (zP (K:=K) rfl) (pv 6) zd (fun _ _=>rfl)) (zQ _))))) (zh (zu (zf ua5 hr rfl (za (pv 4) (za (pv 5) (za (pv 8) zb)))))) zV) (zc (yC (ym (K:=K) rfl (zf ubo hr rfl (za (pv 0) (za (pv 3) (za (pv 6) zb)))) (fun _=>rfl)) (zh (zu (zf ua5 hr rfl (za (pv 7) (za (pv 8) (za (pv 5) zb)))))) zV) (zh (zu (zf ubp hr rfl (za (pv 4) (za (pv 5) (za (pv 7) (za (pv 8) zb)))))))))))),?_⟩;rintro f xs ⟨o,w,s,t⟩ hl ⟨rfl,hk,n1,n2,n3,n4⟩
 try dsimp only [ye,zj]
 dsimp only at *;unfold de;walk_at "w";rw [Kv EG,iJ];refine yt (fun h=>?_) fun h=>?_
 ·have h':=of_decide_eq_true h;have dp:=Dy s.p s.q;walk_at "w";rw [Kv EG,Dx];show PyData.bool _=PyData.bool (yo w s t);unfold yo;rw [Kw (by omega)]
 ·have h':=of_decide_eq_false h;have e0:yo w s t=df w s t:=by
   unfold yo;rw [Kv (by omega)]
  rw [e0];walk_at "w";rw [Kv EG,aB];have rest:¬ (s.k=t.k/\s.i+1=t.i)->PSd K f (bo (rL (xX K (qY (e8 K) [] E0 (z7 (yi 0) (z7 (yi 3) (z7 (yi 6) qv))))) (iU (qY (nu K) [] E0 (z7 (yi 7) (z7 (yi 8) (z7 (yi 5) qv))))) iS)
    (iU (qY (cH K) [] E0 (z7 (yi 4) (z7 (yi 5) (z7 (yi 7) (z7 (yi 8) qv)))))))
    [some (.dat (c9 w)),some (.dat (de s)),some (.dat (de t)),some (.dat (xo s.k s.i)),some (.dat (pD s.p)),some (.dat (pD s.q)),some (.dat (xo t.k t.i)),some (.dat (pD t.p)),some (.dat (pD t.q))] { nx:=fun _=>PyData.none=PyData.bool (df w s t),rt:=fun r=>r=.bool (df w s t) }:=fun hne=>by
   refine yg (aX (jN (zr (w,s.k,s.i,t.k,t.i) ?_)));walk_at "w";rintro _ rfl;refine⟨_,rfl,?_⟩;dsimp only;refine yt (fun h3=>?_) fun h3=>?_
   ·refine yI (zr (o,t.p,t.q,s.q) ?_);walk_at "w";rintro _ rfl;show PyData.bool _=PyData.bool _;unfold df;rw [Kv hne,Kw h3]
   ·refine jO (yI (zr (o,s.p,s.q,t.p,t.q) ?_));walk_at "w";rintro _ rfl;show PyData.bool _=PyData.bool _;unfold df;rw [Kv hne,Kv (by rw [h3];exact EG)]
  refine yt (fun h1=>?_) fun h1=>?_
  ·have h1':=of_decide_eq_true h1;walk_at "w";rw [Kv EG,aB];refine yt (fun h2=>?_) fun h2=>?_
   ·have h2':=of_decide_eq_true h2;refine yI (zr (o,s.p,s.q,t.q) ?_);walk_at "w";rintro _ rfl;show PyData.bool _=PyData.bool _;unfold df;rw [Kw (by omega)]
   ·have h2':=of_decide_eq_false h2;exact jO (rest (by omega))
  ·have h1':=of_decide_eq_false h1;exact jO (rest (by omega))
abbrev xq (K:EI):Sp:=spD K 2 (fun (c:Ln) xs=>xs=[.dat (.str (eZ c.1)),.dat (.tuple (c.2.map pD))]/\1<=c.2.length) fun c r=>r=.int (qE c)
theorem Bg (F:Def K mg "many_segments" jg pJ) (uaa:mg "len"=none):FnIn P w K mg base (k+1) "many_segments" pJ (xq K):=by
 refine F.ok cA rfl fun fa cdv A outer s H E hr=>⟨_,(zh (zu (vT (zZ (jV (K:=K) rfl hr.units) (pv 0) vS (zQ _)) (zF (z8 (K:=K) rfl) rfl uaa Fw (za (pv 1) zb)) (zk z9 (zF (z8 (K:=K) rfl) rfl uaa Fw (za (pv 1) zb)) zd)))),?_⟩;rintro f xs ⟨b,ps⟩ hl ⟨rfl,hp⟩;have lw:=e6 b
 try dsimp only [ye,zj]
 dsimp only at *;walk_at "w";rw [Kv EG,gw];unfold qE;refine yt (fun h=>?_) fun h=>?_
 ·walk_at "w";show PyData.int _=PyData.int _;rw [EF,h,Kw rfl]
 ·walk_at "w";walk_at "w";show PyData.int _=PyData.int _;rw [EF,h,Kv EG];dsimp only
  congr 1
  omega
theorem rA {ds:List PyData} {i:Nat} {d:PyData} (h:(cO ds)[i]?=some d):∃ e,ds[i]?=some e/\d=.tuple [.int (i:Int),e]:=by
 unfold cO at h;rw [JT] at h;cases eq:ds[i]? with
 | none=>rw [eq] at h;cases h
 | some e=>rw [eq] at h;cases h;exact⟨e,rfl,rfl⟩
theorem lS (ds:List PyData):(cO ds).length=ds.length:=by unfold cO;rw [List.length_mapIdx]
theorem nv {α:Type} {F:α->PyData} {xs:List α} {i:Nat} {d:PyData} (h:(xs.map F)[i]?=some d):∃ x,xs[i]?=some x/\d=F x:=by
 rw [EO] at h;cases eq:xs[i]? with
 | none=>rw [eq] at h;cases h
 | some x=>rw [eq] at h;cases h;exact⟨x,rfl,rfl⟩
abbrev xr (K:EI):Sp:=spD K 1 (fun (c:Pt×Web) xs=>xs=[.dat (c9 c.2)]/\OkWeb c.1 c.2) fun c r=>r=.list ((yu c.2).map de)
theorem lT (F:Def K mg "segments" vp pA) (uaa:mg "len"=none) (uab:mg "range"=none) (uaf:mg "enumerate"=none) (ubq:FnIn P w K mg base k "many_segments" pJ (xq K)):FnIn P w K mg base (k+1) "segments" pA (xr K):=by
 refine F.ok jm rfl fun fa cdv A outer s H E hr=>⟨_,(zc (zO (i:=1) jm.nd rfl (Or.inl rfl) (yw zb)) (zc (jq Fv rfl (dY (K:=K) rfl rfl uaf (za (pv 0) zb)) (zI (K:=K) (n:=2) rfl rfl (ze (zg (i:=2) jm.nd rfl (Or.inl rfl) (Or.inr rfl)) (ze (zI (K:=K) (n:=2) rfl rfl (ze (zg (i:=3) jm.nd rfl (Or.inl rfl) (Or.inr rfl)) (ze (zg (i:=4) jm.nd rfl (Or.inl rfl) (Or.inr rfl)) zB))) zB))) (zh (jq Fv rfl (jF rfl uab (za (zf ubq hr rfl (za (pv 3) (za (pv 4) zb))) zb)) (zg (i:=5) jm.nd rfl (Or.inl rfl) (Or.inr rfl)) (zh (jf (dP F8 FZ F4 jG (pv 1) (za (zN (za (zN (za (pv 2) (za (pv 5) zb))) (za (zE (zP (K:=K) rfl) (pv 4) (pv 5) (fun _ _=>rfl)) (za (zE (zP (K:=K) rfl) (pv 4) (zk vU (zk zX (pv 5) zd) (zF (z8 (K:=K) rfl) rfl uaa Fw (za (pv 4) zb))) (fun _ _=>rfl)) zb)))) zb))))))) (zh (zu (pv 1))))),?_⟩;rintro f xs ⟨o,w⟩ hl ⟨rfl,g⟩
 try dsimp only [ye,zj]
 dsimp only at *;refine DR (nV ⟨show 1<6 by decide,fun D=>?_⟩);refine BC (uB ?_);unfold c9;walk_at "w";refine⟨fun n ρ es=>(∃ x2 x3 x4 x5,ρ=[some (.dat (c9 w)),some (.own f.M.length),x2,x3,x4,x5])/\es=(jI w n).map de,⟨⟨_,_,_,_,rfl⟩,rfl⟩,?_,?_⟩
 ·rintro n d _ _ hd ⟨⟨x2,x3,x4,x5,rfl⟩,rfl⟩;obtain⟨e,h1,rfl⟩:=rA hd;obtain⟨l,h2,rfl⟩:=nv h1;have hm:=EK h2;have hn:n<w.length:=(EH.mp h2).1;have two:=g.two l hm;have few:=g.few l hm;have wl:=g.len;have le:=g.upto h2;have ml:=iK l;unfold lnD;walk_at "w";refine BC (bA (zv (zr l ?_)));walk_at "w";rintro _ rfl;walk_at "w";refine⟨fun m ρ es=>(∃ x5,ρ=[some (.dat (c9 w)),some (.own f.M.length),some (.dat (.int n)),some (.dat (.str (eZ l.1))),some (.dat (.tuple (l.2.map pD))),x5])/\es=(jI w n++(yb n l).take m).map de,⟨⟨_,rfl⟩,by rw [IX,FT]⟩,?_,?_⟩
  ·rintro m d _ _ hd ⟨⟨x5,rfl⟩,rfl⟩;obtain⟨hm',rfl⟩:=bV hd;rw [FG] at hm';refine zp (DQ rfl ?_ ?_)
   ·rw [EF,EY,Fo,vJ];omega
   walk_at "w";refine⟨_,xk rfl (by omega),?_⟩;walk_at "w";rw [EF];refine⟨by omega,_,rfl,_,xk (j:=(m+1) % l.2.length) (by rw [Int.natCast_emod];rfl) (IY _ (by omega)),?_⟩;walk_at "w";rw [fv hm',<- Gf];simp only [E9];rfl
  ·rintro _ _ ⟨⟨x5,rfl⟩,rfl⟩;refine⟨⟨_,_,_,_,rfl⟩,?_⟩;rw [ai h2,aC,FG,Ii (by rw [vJ];exact EN _)]
 ·rintro _ _ ⟨⟨x2,x3,x4,x5,rfl⟩,rfl⟩;refine⟨rfl,?_⟩;rw [lS,EF,bf];walk_at "w";rfl
abbrev gy (K:EI):Sp:=spD K 1 (fun (c:Pt×Web) xs=>xs=[.dat (c9 c.2)]/\OkWeb c.1 c.2) fun c r=>r=lN (aP c.2)
theorem nA (F:Def K mg "meeting" aw pA) (uaf:mg "enumerate"=none) (ubr:FnIn P w K mg base k "segments" pA (xr K)) (ubs:FnIn P w K mg base k "meets" pO (rq K)):FnIn P w K mg base (k+1) "meeting" pA (gy K):=by
 refine F.ok qy rfl fun fa cdv A outer s H E hr=>⟨_,(zc (zO (i:=1) qy.nd rfl (Or.inl rfl) (zf ubr hr rfl (za (pv 0) zb))) (zc (jq Fv rfl (dY (K:=K) rfl rfl uaf (za (pv 1) zb)) (zI (K:=K) (n:=2) rfl rfl (ze (zg (i:=2) qy.nd rfl (Or.inl rfl) (Or.inr rfl)) (ze (zg (i:=3) qy.nd rfl (Or.inl rfl) (Or.inr rfl)) zB))) (zh (jq Fv rfl (yh (K:=K) rfl (iZ (kq (K:=K) rfl) (pv 1) (gI (pv 2)) xR)) (zg (i:=4) qy.nd rfl (Or.inl rfl) (Or.inr rfl)) (zh (yC (ym (K:=K) rfl (zf ubs hr rfl (za (pv 0) (za (pv 3) (za (pv 4) zb)))) (fun _=>rfl)) (zh (zu (zk (uG (K:=K) rfl) (zE (zP (K:=K) rfl) (pv 3) zd (fun _ _=>rfl)) (zE (zP (K:=K) rfl) (pv 4) zd (fun _ _=>rfl))))) zV))))) (zh (zu aQ)))),?_⟩;rintro f xs ⟨o,w⟩ hl ⟨rfl,g⟩
 try dsimp only [ye,zj]
 dsimp only at *;refine yg (yk (zr (o,w) ?_));walk_at "w";rintro _ rfl;dsimp only;refine zp (yg (fK (uB ?_)));walk_at "w";refine⟨fun n ρ=>(∃ x2 x3 x4,ρ=[some (.dat (c9 w)),some (.dat (.list ((yu w).map de))),x2,x3,x4])/\look (yo w) (yu w)=look (yo w) ((yu w).drop n),⟨⟨_,_,_,rfl⟩,rfl⟩,?_,?_⟩
 ·rintro n d _ hd ⟨⟨x2,x3,x4,rfl⟩,hlook⟩;obtain⟨e,h1,rfl⟩:=rA hd;obtain⟨s,h2,rfl⟩:=nv h1;have hn:n<(yu w).length:=(EH.mp h2).1;have hs:(yu w).drop n=s :: (yu w).drop (n+1):=by
   rw [HF hn]
   congr 1
   exact (EH.mp h2).2
  have sm:=e7 (EK h2);walk_at "w";refine fK (yQ ?_);walk_at "w";rw [uE,<- Jo];refine⟨fun m ρ=>(∃ x4,ρ=[some (.dat (c9 w)),some (.dat (.list ((yu w).map de))),some (.dat (.int n)),some (.dat (de s)),x4])/\∀ u∈((yu w).drop n).take m,yo w s u=false,⟨⟨_,rfl⟩,fun u hu=>by simp at hu⟩,?_,?_⟩
  ·rintro m d _ hd ⟨⟨x4,rfl⟩,hall⟩;obtain⟨t,h3,rfl⟩:=nv hd;have tm:=e7 (J2 (EK h3));refine zp (aX (jN (zr (o,w,s,t) ?_)));have n1:=sm.near g;have n2:=tm.near g;have tk:=tm.k;obtain⟨n11,n12⟩:=n1;obtain⟨n21,n22⟩:=n2;walk_at "w";rintro _ rfl;refine⟨_,rfl,?_⟩;dsimp only;refine yt (fun h=>?_) fun h=>?_
   ·unfold de;walk_at "w";show PyData.tuple _=lN (aP w);unfold aP;rw [hlook,hs,lR (m:=m) (by rw [<-hs];exact h3) (fun u hu=>hall u (by rw [hs];exact hu)) h];rfl
   ·refine jO ⟨⟨_,rfl⟩,fun u hu=>?_⟩;rw [FN,h3] at hu;rcases Fj.mp hu with hu | hu
    ·exact hall u hu
    ·cases Fc.mp (by simpa using hu);exact h
  ·rintro _ ⟨⟨x4,rfl⟩,hall⟩;refine⟨⟨_,_,_,rfl⟩,?_⟩;rw [hlook,hs];refine cG fun u hu=>hall u ?_;rw [EF,Fq,hs];exact hu
 ·rintro _ ⟨⟨x2,x3,x4,rfl⟩,hlook⟩;walk_at "w";show PyData.none=lN (aP w);unfold aP;rw [hlook,lS,EF,List.drop_length];rfl
theorem Bh {w:Web} {s:Sg} (h:¬ s.p=s.q):yo w s s=false:=by unfold yo;rw [Kw ⟨rfl,rfl⟩,Ky h]
theorem tO {w:Web} {s t:Sg} (h:¬ (s.k=t.k/\s.i=t.i)):yo w s t=df w s t:=by unfold yo;rw [Kv h]
noncomputable def co (i:Nat) (p:Pt):Int:=if i=0 then p.1 else p.2
noncomputable def eA (i:Fin 4):Fin 4:=if i=2 then 3 else if i=3 then 1 else 0
noncomputable def eB (i:Fin 4):Fin 4:=if i=0 then 1 else if i=1 then 3 else 2
noncomputable def flg (A B C D:Bool) (k:Fin 4):Bool:=if k=0 then A else if k=1 then B else if k=2 then C else D
noncomputable def hiE (A B C D:Bool) (i:Fin 4):Fin 4:=if flg A B C D (eA i)=true then eA i else eB i
noncomputable def loE (A B C D:Bool) (i:Fin 4):Fin 4:=if flg A B C D (eA i)=true then eB i else eA i
noncomputable def fB (i j a b:Fin 4):Bool:=(i == a && j == b) || (i == b && j == a)
noncomputable def vg (i j k:Fin 4):Bool:=if k=0 then fB i j 0 1 || fB i j 0 2 || fB i j 1 3 else if k=1 then fB i j 0 3 || fB i j 1 3 else if k=2 then fB i j 2 3 else fB i j 1 2 || fB i j 0 2
theorem Bi:∀ A B C D M A' B' C' D' M':Bool,(A'=true->A=true)->(B'=true->B=true)->(C'=true->C=true)->(D'=true->D=true)->(M'=true->M=true)->∀ i j k l:Fin 4,prt (aa A B C D M) i=some j->prt (aa A' B' C' D' M') k=some l ->
  vg i j (hiE A' B' C' D' k)=vg i j (hiE A' B' C' D' l) \/ vg k l (loE A B C D i)=vg k l (loE A B C D j):=by decide +kernel
theorem tP:∀ (A B C D M:Bool) (i j k l:Fin 4),prt (aa A B C D M) i=some j->prt (aa A B C D M) k=some l->k≠i->k≠j->vg i j (eA k)=vg i j (eB k)/\vg i j (eA l)=vg i j (eB l)/\vg i j (eA k)=vg i j (eA l):=by decide +kernel
theorem xt:∀ i j k:Fin 4,i≠j->k≠i->k≠j->vg i j (eA k)=vg i j (eB k):=by decide
noncomputable def lp (s:Int) (i:Fin 4) (m:Int):Pt:=if i=0 then (m,0) else if i=1 then (0,m) else if i=2 then (m,s) else (s,m)
noncomputable def cp (s:Int) (k:Fin 4):Pt:=if k=0 then (0,0) else if k=1 then (s,0) else if k=2 then (s,s) else (0,s)
theorem four (i:Fin 4):i=0 \/ i=1 \/ i=2 \/ i=3:=by revert i;decide
noncomputable def sgn (b:Bool):Int:=if b=true then 1 else -1
theorem e9 (s n:Int) (p q:Pt) (i:Fin 4):s * zx p q (lp s i n)=(s - n) * zx p q (cp s (eA i))+n * zx p q (cp s (eB i)):=by
 rcases four i with rfl | rfl | rfl | rfl <;> simp only [lp,cp,eA,eB,zx] <;> simp <;> grind
theorem bg {s m n:Int} {i j:Fin 4} (ne:i≠j) (m0:0<m) (m1:m<s) (n0:0<n) (n1:n<s):∃ δ:Int,(δ=1 \/ δ=-1)/\∀ k,0<δ * (sgn (vg i j k) * zx (lp s i m) (lp s j n) (cp s k)):=by
 have p1:0<m * n:=FP m0 n0;have p2:0<m * (s - n):=FP m0 (by omega);have p3:0<n * (s - m):=FP n0 (by omega);have p4:0<(s - m) * (s - n):=FP (by omega) (by omega);have p5:0<s * m:=FP (by omega) m0;have p6:0<s * n:=FP (by omega) n0;have p7:0<s * (s - m):=FP (by omega) (by omega);have p8:0<s * (s - n):=FP (by omega) (by omega);have c1:n * m=m * n:=Iv _ _;have c2:m * s=s * m:=Iv _ _;have c3:n * s=s * n:=Iv _ _;simp only [Hv,Kp] at p2 p3 p4 p7 p8;rcases four i with rfl | rfl | rfl | rfl <;> rcases four j with rfl | rfl | rfl | rfl <;>
  first
  | exact absurd rfl ne
  | (refine⟨1,.inl rfl,fun k=>?_⟩;rcases four k with rfl | rfl | rfl | rfl <;> simp [sgn,vg,fB,lp,cp,zx,Hv,Kp,J3,J4] <;> omega)
  | (refine⟨-1,.inr rfl,fun k=>?_⟩;rcases four k with rfl | rfl | rfl | rfl <;> simp [sgn,vg,fB,lp,cp,zx,Hv,Kp,J3,J4] <;> omega)
theorem vL {s t:Int} (hs:0<s) (h:0<s * t):0<t:=by
 rcases GK t 0 with h1 | h1 | h1
 ·have:=HG hs h1;omega
 ·subst h1;simp at h
 ·exact h1
theorem aE {s m n r δ:Int} {i j k e:Fin 4} (ne:i≠j) (m0:0<m) (m1:m<s) (n0:0<n) (n1:n<s) (r0:0<r) (r1:r<s) (hδ:∀ k,0<δ * (sgn (vg i j k) * zx (lp s i m) (lp s j n) (cp s k)))
  (he:e=eA k \/ e=eB k) (hi:k=i->(e=eA k/\r<m) \/ (e=eB k/\m<r)) (hj:k=j->(e=eA k/\r<n) \/ (e=eB k/\n<r)):0<δ * (sgn (vg i j e) * zx (lp s i m) (lp s j n) (lp s k r)):=by
 have hs:0<s:=by omega
 have ha:=hδ (eA k);have hb:=hδ (eB k);have mid:=e9 s r (lp s i m) (lp s j n) k;have z1:zx (lp s i m) (lp s j n) (lp s i m)=0:=by unfold zx;grind
 have z2:zx (lp s i m) (lp s j n) (lp s j n)=0:=by unfold zx;grind
 have mi:=e9 s m (lp s i m) (lp s j n) i;have mj:=e9 s n (lp s i m) (lp s j n) j;rw [z1] at mi;rw [z2] at mj;generalize lp s i m=p at *;generalize lp s j n=q at *;generalize zx p q (lp s k r)=T at *;have key:∀ (c:Int) (F G t:Int),s * T=(s - r) * F+r * G->0=s * 0->0<t->t<s->s * 0=(s - t) * F+t * G->(r<t->0<c * F->0<c * T)/\(t<r->0<c * G->0<c * T):=fun c F G t h _ t0 t1 h0=>by
  constructor
  ·intro hr hc;have e:s * (t * (c * T))=s * ((t - r) * (c * F)):=by grind
   have e2:t * (c * T)=(t - r) * (c * F):=HH (by omega) e;have:0<(t - r) * (c * F):=FP (by omega) hc;exact vL t0 (e2▸this)
  ·intro hr hc;have e:s * ((s - t) * (c * T))=s * ((r - t) * (c * G)):=by grind
   have e2:(s - t) * (c * T)=(r - t) * (c * G):=HH (by omega) e;have:0<(r - t) * (c * G):=FP (by omega) hc;exact vL (s:=s - t) (by omega) (e2▸this)
 have as:∀ x y:Int,δ * (x * y)=(δ * x) * y:=fun x y=>(Kg δ x y).symm;by_cases ki:k=i
 ·subst ki;rw [as] at ha hb ⊢;rcases hi rfl with⟨rfl,h⟩ | ⟨rfl,h⟩
  ·exact (key _ _ _ m mid (by simp) m0 m1 mi).1 h ha
  ·exact (key _ _ _ m mid (by simp) m0 m1 mi).2 h hb
 ·by_cases kj:k=j
  ·subst kj;rw [as] at ha hb ⊢;rcases hj rfl with⟨rfl,h⟩ | ⟨rfl,h⟩
   ·exact (key _ _ _ n mid (by simp) n0 n1 mj).1 h ha
   ·exact (key _ _ _ n mid (by simp) n0 n1 mj).2 h hb
  ·have c:=xt i j k ne ki kj;have ce:vg i j e=vg i j (eA k):=by rcases he with rfl | rfl;rfl;exact c.symm
   rw [<-c] at hb;rw [ce];rw [as] at ha hb ⊢;generalize δ * sgn (vg i j (eA k))=c at *;have e1:s * (c * T)=(s - r) * (c * zx p q (cp s (eA k)))+r * (c * zx p q (cp s (eB k))):=by grind
   have q1:0<(s - r) * (c * zx p q (cp s (eA k))):=FP (by omega) ha;have q2:0<r * (c * zx p q (cp s (eB k))):=FP r0 hb;exact vL hs (by omega)
theorem iM {δ x y:Int} (hδ:δ=1 \/ δ=-1) {u v:Bool} (e:u=v) (hx:0<δ * (sgn u * x)) (hy:0<δ * (sgn v * y)):0<x * y:=by
 subst e;have:∀ c:Int,(c=1 \/ c=-1)->0<c * x->0<c * y->0<x * y:=fun c hc h1 h2=>by
  rcases hc with rfl | rfl
  ·exact FP (by omega) (by omega)
  ·exact HI (by omega) (by omega)
 refine this (δ * sgn u) ?_ (by rw [Kg];exact hx) (by rw [Kg];exact hy);unfold sgn;rcases hδ with rfl | rfl <;> cases u <;> simp
theorem xu {a b c d:Pt} (h:0<zx a b c * zx a b d \/ 0<zx c d a * zx c d b):zA a b c d=false:=by
 unfold zA;rcases h with h | h
 ·rw [Ky (by omega:¬ zx a b c * zx a b d<=0),Gu,Gv]
 ·rw [Ky (by omega:¬ zx c d a * zx c d b<=0),Gv,Gv]
theorem aF {a b c d:Pt} (h:(a.1<c.1/\a.1<d.1/\b.1<c.1/\b.1<d.1) \/ (a.2<c.2/\a.2<d.2/\b.2<c.2/\b.2<d.2)):zA a b c d=false:=by
 have k:∀ x y z u:Int,x<z->x<u->y<z->y<u->yL x y z u=true:=fun x y z u h1 h2 h3 h4=>by
  unfold yL;rw [Kx (show mx x y<mn z u by unfold mx mn;split <;> split <;> omega)];rfl
 unfold zA;rcases h with⟨h1,h2,h3,h4⟩ | ⟨h1,h2,h3,h4⟩
 ·rw [k _ _ _ _ h1 h2 h3 h4];rfl
 ·rw [k _ _ _ _ h1 h2 h3 h4,Bool.or_true];rfl
theorem aj (a b c d:Pt):zA a b c d=zA c d a b:=by
 unfold zA;have e:∀ x y z u:Int,yL x y z u=yL z u x y:=fun x y z u=>by unfold yL;exact Bool.or_comm _ _
 rw [e a.1,e a.2,Bool.and_comm (decide (zx a b c * zx a b d<=0))]
theorem fb (a b c d:Pt):zA a b c d=zA b a c d:=by
 have em:∀ x y:Int,mx x y=mx y x:=fun x y=>by unfold mx;split <;> split <;> omega
 have en:∀ x y:Int,mn x y=mn y x:=fun x y=>by unfold mn;split <;> split <;> omega
 have t1:zx b a c * zx b a d=zx a b c * zx a b d:=by unfold zx;grind
 unfold zA yL;rw [em a.1,en a.1,em a.2,en a.2,t1,Iv (zx c d a)]
theorem gz (a b c d:Pt):zA a b c d=zA a b d c:=by rw [aj,fb,aj]
theorem lU {a b c d:Pt} (h1:c.1=a.1) (h2:b.1<a.1) (h3:c.1<d.1) (ne:a.2≠c.2):zA a b c d=false:=by
 cases h:zA a b c d with
 | false=>rfl
 | true =>
  exfalso;unfold zA at h;rw [EV,EV] at h;have f:=of_decide_eq_true h.2.1;have g:=of_decide_eq_true h.2.2;have e1:zx a b c=(b.1 - a.1) * (c.2 - a.2):=by unfold zx;rw [h1];grind
  have e2:zx c d a=(d.1 - c.1) * (a.2 - c.2):=by unfold zx;rw [h1];grind
  have e3:zx a b d - zx a b c=zx c d a - zx c d b:=by unfold zx;grind
  have neg:∀ x y:Int,x * y<=0->x<0->0<=y:=fun x y hxy hx=>by
   rcases Kl y 0 with h | h
   ·have:=HI hx h;omega
   ·exact h
  have pos:∀ x y:Int,x * y<=0->0<x->y<=0:=fun x y hxy hx=>by
   rcases Kl 0 y with h | h
   ·have:=FP hx h;omega
   ·exact h
  rcases Int.lt_or_gt_of_ne ne with lt | lt
  ·have q1:zx a b c<0:=by rw [e1];exact HJ (by omega) (by omega)
   have q2:zx c d a<0:=by rw [e2];exact HG (by omega) (by omega)
   have:=neg _ _ f q1;have:=neg _ _ g q2;omega
  ·have q1:0<zx a b c:=by rw [e1];exact HI (by omega) (by omega)
   have q2:0<zx c d a:=by rw [e2];exact FP (by omega) (by omega)
   have:=pos _ _ f q1;have:=pos _ _ g q2;omega
theorem tQ {a b c d:Pt} (h1:c.2=a.2) (h2:b.2<a.2) (h3:c.2<d.2) (ne:a.1≠c.1):zA a b c d=false:=by
 have k:=lU (a:=(a.2,a.1)) (b:=(b.2,b.1)) (c:=(c.2,c.1)) (d:=(d.2,d.1)) h1 h2 h3 ne;have t:∀ p q r:Pt,zx (p.2,p.1) (q.2,q.1) (r.2,r.1)=- zx p q r:=fun p q r=>by unfold zx;grind
 unfold zA at k ⊢;rw [t,t,t,t,Bool.or_comm,Int.neg_mul_neg,Int.neg_mul_neg] at k;exact k
theorem Bj {a b c d:Pt} {X:Int} (ha:a.1<=X) (hb:b.1<=X) (hc:X<=c.1) (hd:X<=d.1) (h1:¬ (a.1=X/\b.1=X)) (h2:¬ (c.1=X/\d.1=X)) (n1:a≠c) (n2:a≠d) (n3:b≠c) (n4:b≠d):zA a b c d=false:=by
 have one:∀ {a b c d:Pt},a.1=X->b.1<X->X<=c.1->X<=d.1->¬ (c.1=X/\d.1=X)->a≠c->a≠d->zA a b c d=false:=fun {a b c d} ea eb hc hd h2 n1 n2=>by
  have two:∀ {c d:Pt},c.1=X->X<d.1->a≠c->zA a b c d=false:=fun {c d} ec ed n =>
   lU (by omega) (by omega) (by omega) fun z=>n (Jx (by omega) z)
  by_cases ec:c.1=X
  ·exact two ec (by omega) n1
  ·by_cases ed:d.1=X
   ·rw [gz];exact two ed (by omega) n2
   ·exact aF (.inl (by omega))
 by_cases ea:a.1=X
 ·exact one ea (by omega) hc hd h2 n1 n2
 ·by_cases eb:b.1=X
  ·rw [fb];exact one eb (by omega) hc hd h2 n3 n4
  ·exact aF (.inl (by omega))
theorem Bk {a b c d:Pt} {X:Int} (ha:a.2<=X) (hb:b.2<=X) (hc:X<=c.2) (hd:X<=d.2) (h1:¬ (a.2=X/\b.2=X)) (h2:¬ (c.2=X/\d.2=X)) (n1:a≠c) (n2:a≠d) (n3:b≠c) (n4:b≠d):zA a b c d=false:=by
 have one:∀ {a b c d:Pt},a.2=X->b.2<X->X<=c.2->X<=d.2->¬ (c.2=X/\d.2=X)->a≠c->a≠d->zA a b c d=false:=fun {a b c d} ea eb hc hd h2 n1 n2=>by
  have two:∀ {c d:Pt},c.2=X->X<d.2->a≠c->zA a b c d=false:=fun {c d} ec ed n =>
   tQ (by omega) (by omega) (by omega) fun z=>n (Jx z (by omega))
  by_cases ec:c.2=X
  ·exact two ec (by omega) n1
  ·by_cases ed:d.2=X
   ·rw [gz];exact two ed (by omega) n2
   ·exact aF (.inr (by omega))
 by_cases ea:a.2=X
 ·exact one ea (by omega) hc hd h2 n1 n2
 ·by_cases eb:b.2=X
  ·rw [fb];exact one eb (by omega) hc hd h2 n3 n4
  ·exact aF (.inr (by omega))
theorem dB {p q r:Pt} (h:(p.1 - q.1) * (r.1 - q.1)<0 \/ (p.2 - q.2) * (r.2 - q.2)<0):cW p q r=false:=by
 unfold cW;by_cases t:zx p q r=0
 ·have e:(p.1 - q.1) * (r.2 - q.2)=(p.2 - q.2) * (r.1 - q.1):=by unfold zx at t;grind
  have key:∀ a b c d:Int,a * d=b * c->a * c<0->b * d<=0:=fun a b c d h1 h2=>by
   have h3:(a * c) * (b * d)=(a * d) * (a * d):=by grind
   have h4:0<=(a * d) * (a * d):=by
    rcases Int.le_total 0 (a * d) with z | z
    ·exact J1 z z
    ·exact Ib z z
   rcases Kl 0 (b * d) with z | z
   ·have:=HJ h2 z;omega
   ·exact z
  rw [Ky (p:=_ > 0),Gv];rcases h with h | h
  ·have:=key _ _ _ _ e h;omega
  ·have:=key (p.2 - q.2) (p.1 - q.1) (r.2 - q.2) (r.1 - q.1) (by grind) h;omega
 ·rw [Ky t,Gu]
noncomputable def hcr (Kt:List (List Int)) (x y:Int) (k:Fin 4):Int:=zJ Kt (if k=0 \/ k=3 then x else x+1) (if k=0 \/ k=1 then y else y+1)
theorem tR {Kt:List (List Int)} {wd:Nat} {cut:Int} {g:Gt} {s:Nat} (h:Lcm (qt Kt wd) s) (o:opG Kt wd cut g=true) :
  ∃ m:Int,(s:Int) * TT Kt cut g.1 g.2.1=BB Kt g.1 g.2.1 g.2.2 * m/\scP Kt cut s g=(s * g.1+m * (1 - g.2.2),s * g.2.1+m * g.2.2):=by
 obtain⟨c,hc⟩:=Bf h o;have nz:=lJ o;have q0:((shQ Kt cut g).den:Int)≠0:=by have:=(shQ Kt cut g).den_nz;omega
 have e:(shQ Kt cut g).num * BB Kt g.1 g.2.1 g.2.2=TT Kt cut g.1 g.2.1 * ((shQ Kt cut g).den:Int):=by
  have:=Rat.num_divInt_den (shQ Kt cut g);unfold shQ at this;exact (Rat.divInt_eq_divInt_iff q0 nz).mp this
 refine⟨(shQ Kt cut g).num * c,?_,?_⟩
 ·have hs:(s:Int)=((shQ Kt cut g).den:Int) * (c:Int):=by rw [hc,Int.natCast_mul]
  rw [hs,show ((shQ Kt cut g).den:Int) * (c:Int) * TT Kt cut g.1 g.2.1=(TT Kt cut g.1 g.2.1 * ((shQ Kt cut g).den:Int)) * (c:Int) by grind,<- e];grind
 ·have hs:(s:Int)=((shQ Kt cut g).den:Int) * (c:Int):=by rw [hc,Int.natCast_mul]
  unfold scP plT;rw [hs];generalize ((shQ Kt cut g).den:Int)=D at *;generalize (shQ Kt cut g).num=N at *;have key:∀ a:Int,D * a / D=a:=fun a=>HV a q0;rcases w01 o with hw | hw
  ·rw [Kw hw];dsimp only;rw [hw,show (g.1 * D+N) * (D * c)=D * (D * c * g.1+N * c) by grind,show g.2.1 * D * (D * c)=D * (D * c * g.2.1) by grind,key,key];refine Jx ?_ ?_
   ·dsimp only;grind
   ·dsimp only;grind
  ·have:¬ g.2.2=0:=by omega
   rw [Kv this];dsimp only;rw [hw,show g.1 * D * (D * c)=D * (D * c * g.1) by grind,show (g.2.1 * D+N) * (D * c)=D * (D * c * g.2.1+N * c) by grind,key,key];refine Jx ?_ ?_
   ·dsimp only;grind
   ·dsimp only;grind
section
variable {Kt:List (List Int)} {wd:Nat} {s:Nat}
theorem bZ (L:Lcm (qt Kt wd) s) {cut:Int} {g:Gt} (o:opG Kt wd cut g=true):∃ m:Int,0<m/\m<s/\(s:Int) * TT Kt cut g.1 g.2.1=BB Kt g.1 g.2.1 g.2.2 * m/\scP Kt cut s g=(s * g.1+m * (1 - g.2.2),s * g.2.1+m * g.2.2):=by
 obtain⟨m,h1,h2⟩:=tR L o;have hs:0<(s:Int):=by have:=L.1;omega
 refine⟨m,?_,?_,h1,h2⟩
 ·rcases ag o with⟨a,b⟩ | ⟨a,b⟩
  ·exact vL (s:=BB Kt g.1 g.2.1 g.2.2) (by omega) (h1▸FP hs a)
  ·have:0 < -BB Kt g.1 g.2.1 g.2.2 * m:=by
    rw [J3,<- h1,<- J4];exact FP hs (by omega)
   exact vL (s:=-BB Kt g.1 g.2.1 g.2.2) (by omega) this
 ·have e:BB Kt g.1 g.2.1 g.2.2 * ((s:Int) - m)=s * (BB Kt g.1 g.2.1 g.2.2 - TT Kt cut g.1 g.2.1):=by
   rw [Hv,<- h1,Hv,Iv]
  rcases ag o with⟨a,b⟩ | ⟨a,b⟩
  ·have:=vL (s:=BB Kt g.1 g.2.1 g.2.2) (t:=(s:Int) - m) (by omega) (e▸FP hs (by omega));omega
  ·have e2:-BB Kt g.1 g.2.1 g.2.2 * ((s:Int) - m)=s * (TT Kt cut g.1 g.2.1 - BB Kt g.1 g.2.1 g.2.2):=by
    rw [J3,e,<- J4,Int.neg_sub]
   have:=vL (s:=-BB Kt g.1 g.2.1 g.2.2) (t:=(s:Int) - m) (by omega) (e2▸FP hs (by omega));omega
theorem gA (L:Lcm (qt Kt wd) s) {c c':Int} {g g':Gt} (o:opG Kt wd c g=true) (o':opG Kt wd c' g'=true) (h:scP Kt c s g=scP Kt c' s g'):g=g'/\c=c':=by
 obtain⟨m,m0,m1,e,p⟩:=bZ L o;obtain⟨n,n0,n1,e',p'⟩:=bZ L o';have hs:0<(s:Int):=by have:=L.1;omega
 rw [p,p'] at h;have h1:=congrArg JS h;have h2:=congrArg Prod.snd h;obtain⟨x,y,w⟩:=g;obtain⟨x',y',w'⟩:=g';dsimp only at h1 h2 e e';have key:∀ a b u v:Int,0<=u->u<s->0<=v->v<s->(s:Int) * a+u=s * b+v->a=b:=fun a b u v u0 u1 v0 v1 hh=>by
  rcases GK a b with z | z | z
  ·have:(s:Int) * (a+1)<=s * b:=GH (by omega) (by omega);rw [Jg] at this;omega
  ·exact z
  ·have:(s:Int) * (b+1)<=s * a:=GH (by omega) (by omega);rw [Jg] at this;omega
 have fin:∀ {x y w:Int},opG Kt wd c (x,y,w)=true->(s:Int) * TT Kt c x y=BB Kt x y w * m->(s:Int) * TT Kt c' x y=BB Kt x y w * m->c=c':=fun {x y w} _ a b=>by
  have:=HH (by omega) (a.trans b.symm);unfold TT at this;omega
 rcases w01 o with rfl | rfl <;> rcases w01 o' with rfl | rfl
 ·have a:=key x x' m n (by omega) m1 (by omega) n1 (by omega);have b:=key y y' 0 0 (by omega) hs (by omega) hs (by omega);subst a b;have:m=n:=by omega
  subst this;exact⟨rfl,fin o e e'⟩
 ·exfalso;have b:=key y y' 0 n (by omega) hs (by omega) n1 (by omega);subst b;omega
 ·exfalso;have b:=key y y' m 0 (by omega) m1 (by omega) hs (by omega);subst b;omega
 ·have a:=key x x' 0 0 (by omega) hs (by omega) hs (by omega);have b:=key y y' m n (by omega) m1 (by omega) n1 (by omega);subst a b;have:m=n:=by omega
  subst this;exact⟨rfl,fin o e e'⟩
noncomputable def mv (s x y:Int) (p:Pt):Pt:=(s * x+p.1,s * y+p.2)
theorem aG (s x y:Int) (p q r:Pt):zx (mv s x y p) (mv s x y q) (mv s x y r)=zx p q r:=by unfold zx mv;grind
theorem y8 (L:Lcm (qt Kt wd) s) {x y cut:Int} {i:Fin 4} (o:opG Kt wd cut (gt x y i)=true):∃ m:Int,0<m/\m<s/\(s:Int) * (2 * cut+1 - 2 * hcr Kt x y (eA i))=2 * (hcr Kt x y (eB i) - hcr Kt x y (eA i)) * m/\scP Kt cut s (gt x y i)=mv s x y (lp s i m):=by
 obtain⟨m,m0,m1,e,p⟩:=bZ L o;refine⟨m,m0,m1,?_,?_⟩
 ·rcases four i with rfl | rfl | rfl | rfl <;> exact e
 ·rw [p];rcases four i with rfl | rfl | rfl | rfl <;> simp [gt,mv,lp] <;> grind
theorem nB (cut x y:Int) (k:Fin 4):flg (hiB Kt cut x y) (hiB Kt cut (x+1) y) (hiB Kt cut (x+1) (y+1)) (hiB Kt cut x (y+1)) k=decide (cut<hcr Kt x y k):=by
 rcases four k with rfl | rfl | rfl | rfl <;> rfl
theorem dC {x y cut:Int} (hc:z6 Kt wd x y=true) {i:Fin 4} (o:opG Kt wd cut (gt x y i)=true):decide (cut<hcr Kt x y (eA i))=!decide (cut<hcr Kt x y (eB i)):=by
 rw [bc hc] at o;rw [<-nB,<- nB]
 revert o
 generalize hiB Kt cut x y=A;generalize hiB Kt cut (x+1) y=B;generalize hiB Kt cut (x+1) (y+1)=C;generalize hiB Kt cut x (y+1)=D
 revert A B C D i
 decide
theorem way {cut cut':Int} (lt:cut<cut') (hs:0<(s:Int)) {a b m n:Int} (e:(s:Int) * (2 * cut+1 - 2 * a)=2 * (b - a) * m) (e':(s:Int) * (2 * cut'+1 - 2 * a)=2 * (b - a) * n) (h':decide (cut'<a)=!decide (cut'<b)):(cut'<a->n<m)/\(¬ cut'<a->m<n):=by
 have d:2 * (b - a) * (n - m)=s * (2 * (cut' - cut)):=by rw [Hv,<- e,<- e',<- Hv];congr 1;omega
 have pos:0<2 * (b - a) * (n - m):=by rw [d];exact FP hs (by omega)
 constructor
 ·intro h;rw [Kx h] at h';have hb:¬ cut'<b:=fun z=>by rw [Kx z] at h';cases h'
  have:0<(2 * (a - b)) * (m - n):=by rw [show 2 * (a - b) * (m - n)=2 * (b - a) * (n - m) by grind];exact pos
  have:=vL (by omega) this;omega
 ·intro h;rw [Ky h] at h';have hb:cut'<b:=GZ fun z=>by rw [Ky z] at h';cases h'
  have:=vL (by omega) pos;omega
end
section
variable {Kt:List (List Int)} {wd:Nat} {s:Nat}
structure SgAt (Kt:List (List Int)) (wd:Nat) (cut:Int) (g n:Gt) (x y:Int) (i j:Fin 4):Prop where
 c:z6 Kt wd x y=true
 gi:g=gt x y i
 nj:n=gt x y j
 tie:prt (t4 Kt cut x y) i=some j
 og:opG Kt wd cut g=true
 on:opG Kt wd cut n=true
 ne:i≠j
theorem seg_at {cut:Int} {g n:Gt} (o:opG Kt wd cut g=true) (h:yc Kt wd cut g=some n):∃ i j,SgAt Kt wd cut g n (ahC Kt cut g).1 (ahC Kt cut g).2 i j:=by
 obtain⟨on,nn⟩:=ve o h;have c:z6 Kt wd (ahC Kt cut g).1 (ahC Kt cut g).2=true:=by
  unfold yc at h;by_cases z:z6 Kt wd (ahC Kt cut g).1 (ahC Kt cut g).2=true
  ·exact z
  ·rw [Kv z] at h;cases h
 obtain⟨i,ei⟩:=lA (Kt:=Kt) (cut:=cut) g (vG o);unfold yc at h;rw [Kw c] at h;generalize (ahC Kt cut g).1=x at *;generalize (ahC Kt cut g).2=y at *;rw [ei] at h;unfold qX at h;rw [iE fun _ _=>eR] at h;cases q:prt (t4 Kt cut x y) i with
 | none=>rw [q] at h;cases h
 | some j =>
  rw [q] at h;cases h;exact⟨i,j,c,ei,rfl,q,o,on,fun z=>nn (show gt x y j=g from z▸ei.symm)⟩
theorem dD {x y cut:Int} (i:Fin 4):(hiE (hiB Kt cut x y) (hiB Kt cut (x+1) y) (hiB Kt cut (x+1) (y+1)) (hiB Kt cut x (y+1)) i=if cut<hcr Kt x y (eA i) then eA i else eB i)/\(loE (hiB Kt cut x y) (hiB Kt cut (x+1) y) (hiB Kt cut (x+1) (y+1)) (hiB Kt cut x (y+1)) i=if cut<hcr Kt x y (eA i) then eB i else eA i):=by
 unfold hiE loE;rw [nB];by_cases h:cut<hcr Kt x y (eA i)
 ·rw [Kx h,Kw rfl,Kw rfl,Kw h,Kw h];exact⟨rfl,rfl⟩
 ·rw [Ky h,Kv EG,Kv EG,Kv h,Kv h];exact⟨rfl,rfl⟩
theorem rB (L:Lcm (qt Kt wd) s) {cut cut' x y:Int} (lt:cut<cut') {g n g' n':Gt} {i j k l:Fin 4} (S:SgAt Kt wd cut g n x y i j) (S':SgAt Kt wd cut' g' n' x y k l):zA (scP Kt cut s g) (scP Kt cut s n) (scP Kt cut' s g') (scP Kt cut' s n')=false:=by
 have hs:0<(s:Int):=by have:=L.1;omega
 have oi:=S.gi▸S.og;have oj:=S.nj▸S.on;have ok:=S'.gi▸S'.og;have ol:=S'.nj▸S'.on;obtain⟨mi,a1,a2,a3,a4⟩:=y8 L oi;obtain⟨mj,b1,b2,b3,b4⟩:=y8 L oj;obtain⟨mk,c1,c2,c3,c4⟩:=y8 L ok;obtain⟨ml,d1,d2,d3,d4⟩:=y8 L ol;have up:∀ p q:Int,hiB Kt cut' p q=true->hiB Kt cut p q=true:=fun p q h=>by
  unfold hiB at h ⊢;have:=of_decide_eq_true h;exact Kx (by omega)
 have um:cF Kt cut' x y=true->cF Kt cut x y=true:=fun h=>by
  unfold cF at h ⊢;have:=of_decide_eq_true h;exact Kx (by omega)
 have cert:=Bi _ _ _ _ _ _ _ _ _ _ (up x y) (up (x+1) y) (up (x+1) (y+1)) (up x (y+1)) um i j k l S.tie S'.tie;rw [S.gi,S.nj,S'.gi,S'.nj,a4,b4,c4,d4];refine xu ?_;rw [aG,aG,aG,aG]
 -- towards the higher end,seen from the lower chord
 have hiw:∀ {p:Fin 4} {m n:Int} (_:(s:Int) * (2 * cut+1 - 2 * hcr Kt x y (eA p))=2 * (hcr Kt x y (eB p) - hcr Kt x y (eA p)) * m) (_:(s:Int) * (2 * cut'+1 - 2 * hcr Kt x y (eA p))=2 * (hcr Kt x y (eB p) - hcr Kt x y (eA p)) * n) (_:opG Kt wd cut' (gt x y p)=true) {e:Fin 4},e=(if cut'<hcr Kt x y (eA p) then eA p else eB p)->(e=eA p/\n<m) \/ (e=eB p/\m<n):=fun {p m n} q1 q2 o {e} he=>by
  obtain⟨w1,w2⟩:=way lt hs q1 q2 (dC S.c o);by_cases z:cut'<hcr Kt x y (eA p)
  ·rw [Kw z] at he;exact .inl ⟨he,w1 z⟩
  ·rw [Kv z] at he;exact .inr ⟨he,w2 z⟩
 -- towards the lower end,seen from the higher chord
 have low:∀ {p:Fin 4} {m n:Int} (_:(s:Int) * (2 * cut+1 - 2 * hcr Kt x y (eA p))=2 * (hcr Kt x y (eB p) - hcr Kt x y (eA p)) * m) (_:(s:Int) * (2 * cut'+1 - 2 * hcr Kt x y (eA p))=2 * (hcr Kt x y (eB p) - hcr Kt x y (eA p)) * n) (_:opG Kt wd cut (gt x y p)=true) (_:opG Kt wd cut' (gt x y p)=true) {e:Fin 4},e=(if cut<hcr Kt x y (eA p) then eB p else eA p)->(e=eA p/\m<n) \/ (e=eB p/\n<m):=fun {p m n} q1 q2 o o' {e} he=>by
  obtain⟨w1,w2⟩:=way lt hs q1 q2 (dC S.c o');have q3:=dC S.c o;have q4:=dC S.c o';by_cases z:cut<hcr Kt x y (eA p)
  ·rw [Kw z] at he;refine .inr ⟨he,w1 (GZ fun y'=>?_)⟩;rw [Kx z] at q3;rw [Ky y'] at q4;have z1:¬ cut<hcr Kt x y (eB p):=fun t=>by rw [Kx t] at q3;cases q3
   have z2:cut'<hcr Kt x y (eB p):=GZ fun t=>by rw [Ky t] at q4;cases q4
   omega
  ·rw [Kv z] at he;exact .inl ⟨he,w2 (by omega)⟩
 have ends:∀ (c:Prop) [Decidable c] (p:Fin 4),(if c then eA p else eB p)=eA p \/ (if c then eA p else eB p)=eB p:=fun c _ p=>by by_cases z:c;exact .inl (Kw z);exact .inr (Kv z)
 have ends2:∀ (c:Prop) [Decidable c] (p:Fin 4),(if c then eB p else eA p)=eA p \/ (if c then eB p else eA p)=eB p:=fun c _ p=>by by_cases z:c;exact .inr (Kw z);exact .inl (Kv z)
 rcases cert with ce | ce
 ·left;obtain⟨δ,hδ,hS⟩:=bg (s:=s) S.ne a1 a2 b1 b2;rw [(dD k).1,(dD l).1] at ce;refine iM hδ ce (aE S.ne a1 a2 b1 b2 c1 c2 hS (ends _ k) (fun z=>?_) fun z=>?_) (aE S.ne a1 a2 b1 b2 d1 d2 hS (ends _ l) (fun z=>?_) fun z=>?_)
  ·subst z;exact hiw a3 c3 ok rfl
  ·subst z;exact hiw b3 c3 ok rfl
  ·subst z;exact hiw a3 d3 ol rfl
  ·subst z;exact hiw b3 d3 ol rfl
 ·right;obtain⟨δ,hδ,hS⟩:=bg (s:=s) S'.ne c1 c2 d1 d2;rw [(dD i).2,(dD j).2] at ce;refine iM hδ ce (aE S'.ne c1 c2 d1 d2 a1 a2 hS (ends2 _ i) (fun z=>?_) fun z=>?_) (aE S'.ne c1 c2 d1 d2 b1 b2 hS (ends2 _ j) (fun z=>?_) fun z=>?_)
  ·subst z;exact low a3 c3 oi ok rfl
  ·subst z;exact low a3 d3 oi ol rfl
  ·subst z;exact low b3 c3 oj ok rfl
  ·subst z;exact low b3 d3 oj ol rfl
theorem tS (L:Lcm (qt Kt wd) s) {cut x y:Int} {g n g' n':Gt} {i j k l:Fin 4} (S:SgAt Kt wd cut g n x y i j) (S':SgAt Kt wd cut g' n' x y k l) (n1:k≠i) (n2:k≠j) (n3:l≠i) (n4:l≠j):zA (scP Kt cut s g) (scP Kt cut s n) (scP Kt cut s g') (scP Kt cut s n')=false:=by
 obtain⟨mi,a1,a2,a3,a4⟩:=y8 L (S.gi▸S.og);obtain⟨mj,b1,b2,b3,b4⟩:=y8 L (S.nj▸S.on);obtain⟨mk,c1,c2,c3,c4⟩:=y8 L (S'.gi▸S'.og);obtain⟨ml,d1,d2,d3,d4⟩:=y8 L (S'.nj▸S'.on);obtain⟨e1,e2,e3⟩:=tP _ _ _ _ _ i j k l S.tie S'.tie n1 n2;rw [S.gi,S.nj,S'.gi,S'.nj,a4,b4,c4,d4];refine xu (.inl ?_);rw [aG,aG];obtain⟨δ,hδ,hS⟩:=bg (s:=s) S.ne a1 a2 b1 b2;exact iM hδ e3 (aE S.ne a1 a2 b1 b2 c1 c2 hS (.inl rfl) (fun z=>absurd z n1) fun z=>absurd z n2) (aE S.ne a1 a2 b1 b2 d1 d2 hS (.inl rfl) (fun z=>absurd z n3) fun z=>absurd z n4)
structure Box (s:Int) (x y:Int) (p q:Pt):Prop where
 p1:s * x<=p.1
 p2:p.1<=s * (x+1)
 p3:s * y<=p.2
 p4:p.2<=s * (y+1)
 q1:s * x<=q.1
 q2:q.1<=s * (x+1)
 q3:s * y<=q.2
 q4:q.2<=s * (y+1)
 x0:¬ (p.1=s * x/\q.1=s * x)
 x1:¬ (p.1=s * (x+1)/\q.1=s * (x+1))
 y0:¬ (p.2=s * y/\q.2=s * y)
 y1:¬ (p.2=s * (y+1)/\q.2=s * (y+1))
theorem xv (L:Lcm (qt Kt wd) s) {cut x y:Int} {g n:Gt} {i j:Fin 4} (S:SgAt Kt wd cut g n x y i j):Box s x y (scP Kt cut s g) (scP Kt cut s n):=by
 obtain⟨mi,a1,a2,a3,a4⟩:=y8 L (S.gi▸S.og);obtain⟨mj,b1,b2,b3,b4⟩:=y8 L (S.nj▸S.on);have ne:=S.ne;rw [S.gi,S.nj,a4,b4];have ex:(s:Int) * (x+1)=s * x+s:=by rw [Jg,Je]
 have ey:(s:Int) * (y+1)=s * y+s:=by rw [Jg,Je]
 rcases four i with rfl | rfl | rfl | rfl <;> rcases four j with rfl | rfl | rfl | rfl <;>
  first
  | exact absurd rfl ne
  | (constructor <;> simp [mv,lp] <;> omega)
theorem xw {x y x' y':Int} {p q p' q':Pt} (hs:0<(s:Int)) (B:Box s x y p q) (B':Box s x' y' p' q') (ne:(x,y)≠(x',y')) (n1:p≠p') (n2:p≠q') (n3:q≠p') (n4:q≠q'):zA p q p' q'=false:=by
 have mono:∀ a b:Int,a<b->(s:Int) * (a+1)<=s * b:=fun a b h=>GH (by omega) (by omega);have go:∀ {x y x' y':Int} {p q p' q':Pt},Box s x y p q->Box s x' y' p' q'->p≠p'->p≠q'->q≠p'->q≠q'->(x<x' \/ y<y')->zA p q p' q'=false:=fun {x y x' y' p q p' q'} B B' n1 n2 n3 n4 h=>by
  rcases h with h | h
  ·have m:=mono _ _ h;exact Bj (X:=s * (x+1)) B.p2 B.q2 (by have:=B'.p1;omega) (by have:=B'.q1;omega) B.x1 (fun⟨z1,z2⟩=>B'.x0 ⟨by have:=B'.p1;omega,by have:=B'.q1;omega⟩) n1 n2 n3 n4
  ·have m:=mono _ _ h;exact Bk (X:=s * (y+1)) B.p4 B.q4 (by have:=B'.p3;omega) (by have:=B'.q3;omega) B.y1 (fun⟨z1,z2⟩=>B'.y0 ⟨by have:=B'.p3;omega,by have:=B'.q3;omega⟩) n1 n2 n3 n4
 by_cases h:x<x' \/ y<y'
 ·exact go B B' n1 n2 n3 n4 h
 ·rw [aj];refine go B' B (F6 n1) (F6 n3) (F6 n2) (F6 n4) ?_;by_cases e:x=x'
  ·exact .inr (GZ fun z=>ne (Jx e (show y=y' by omega)))
  ·omega
theorem rC (L:Lcm (qt Kt wd) s) {cut cut':Int} {g n g' n':Gt} (o:opG Kt wd cut g=true) (h:yc Kt wd cut g=some n) (o':opG Kt wd cut' g'=true) (h':yc Kt wd cut' g'=some n') (ne:cut=cut'->g≠g'/\g≠n'/\n≠g'/\n≠n') :
  zA (scP Kt cut s g) (scP Kt cut s n) (scP Kt cut' s g') (scP Kt cut' s n')=false:=by
 obtain⟨i,j,S⟩:=seg_at o h;obtain⟨k,l,S'⟩:=seg_at o' h';have hs:0<(s:Int):=by have:=L.1;omega
 have B:=xv L S;have B':=xv L S';generalize (ahC Kt cut g).1=x at *;generalize (ahC Kt cut g).2=y at *;generalize (ahC Kt cut' g').1=x' at *;generalize (ahC Kt cut' g').2=y' at *;by_cases e:(x,y)=(x',y')
 ·cases e;rcases GK cut cut' with lt | rfl | lt
  ·exact rB L lt S S'
  ·obtain⟨n1,n2,n3,n4⟩:=ne rfl;refine tS L S S' (fun z=>n1 ?_) (fun z=>n3 ?_) (fun z=>n2 ?_) fun z=>n4 ?_
   ·rw [S.gi,S'.gi,z]
   ·rw [S.nj,S'.gi,z]
   ·rw [S.gi,S'.nj,z]
   ·rw [S.nj,S'.nj,z]
  ·rw [aj];exact rB L lt S' S
 ·have d:∀ {u v:Gt},opG Kt wd cut u=true->opG Kt wd cut' v=true->(cut=cut'->u≠v)->scP Kt cut s u≠scP Kt cut' s v:=fun a b c z=>by
   obtain⟨z1,z2⟩:=gA L a b z;exact c z2 z1
  exact xw hs B B' e (d S.og S'.og fun z=>(ne z).1) (d S.og S'.on fun z=>(ne z).2.1) (d S.on S'.og fun z=>(ne z).2.2.1) (d S.on S'.on fun z=>(ne z).2.2.2)
theorem rD (L:Lcm (qt Kt wd) s) {cut:Int} {g n m:Gt} (o:opG Kt wd cut g=true) (h:yc Kt wd cut g=some n) (h':yc Kt wd cut n=some m):cW (scP Kt cut s g) (scP Kt cut s n) (scP Kt cut s m)=false:=by
 obtain⟨i,j,S⟩:=seg_at o h;obtain⟨k,l,S'⟩:=seg_at S.on h';have hs:0<(s:Int):=by have:=L.1;omega
 have bh:bhC Kt cut n=ahC Kt cut g:=by
  obtain⟨n',e1,_,_,e2,_⟩:=vH o S.c;rw [h] at e1;cases e1;exact e2
 have ne:ahC Kt cut n≠bhC Kt cut n:=by
  unfold ahC bhC qC qD;intro z;have z1:=congrArg JS z;have z2:=congrArg Prod.snd z
  revert z1 z2
  rcases vG S.on with w | w
  ·rw [w];cases hiB Kt cut n.1 n.2.1 <;> simp <;> omega
  ·rw [w];cases hiB Kt cut n.1 n.2.1 <;> simp <;> omega
 rw [bh] at ne;obtain⟨mi,a1,a2,a3,a4⟩:=y8 L (S.gi▸S.og);obtain⟨mj,b1,b2,b3,b4⟩:=y8 L (S.nj▸S.on);obtain⟨ml,d1,d2,d3,d4⟩:=y8 L (S'.nj▸S'.on);have e1:=S.nj;have e2:=S'.gi;have n1:=S.ne;have n2:=S'.ne;have ea:scP Kt cut s g=mv s (ahC Kt cut g).1 (ahC Kt cut g).2 (lp s i mi):=(congrArg _ S.gi).trans a4;have eb:scP Kt cut s n=mv s (ahC Kt cut g).1 (ahC Kt cut g).2 (lp s j mj):=(congrArg _ S.nj).trans b4;have ed:scP Kt cut s m=mv s (ahC Kt cut n).1 (ahC Kt cut n).2 (lp s l ml):=(congrArg _ S'.nj).trans d4;rw [ea,eb,ed];clear ea eb ed;have pair:(ahC Kt cut n)=((ahC Kt cut n).1,(ahC Kt cut n).2):=rfl;have pair2:(ahC Kt cut g)=((ahC Kt cut g).1,(ahC Kt cut g).2):=rfl;rw [pair,pair2] at ne;generalize (ahC Kt cut g).1=x at *;generalize (ahC Kt cut g).2=y at *;generalize (ahC Kt cut n).1=x' at *;generalize (ahC Kt cut n).2=y' at *;have eq:=e1.symm.trans e2;clear a3 a4 b3 b4 d3 d4 bh pair pair2 S S' h h' o e1 e2;have sx:∀ a:Int,(s:Int) * (a+1)=s * a+s:=fun a=>by rw [Jg,Je]
 have sy:∀ a:Int,(s:Int) * (a - 1)=s * a - s:=fun a=>by rw [Hv,Je]
 have ng:∀ a b:Int,(a<0/\0<b) \/ (0<a/\b<0)->a * b<0:=fun a b h=>by
  rcases h with⟨h1,h2⟩ | ⟨h1,h2⟩
  ·exact HJ h1 h2
  ·exact HG h1 h2
 have g1:=congrArg JS eq;have g2:=congrArg (fun z=>z.2.1) eq;have g3:=congrArg (fun z=>z.2.2) eq;clear eq;have key:¬ (x'=x/\y'=y):=fun⟨a,b⟩=>ne (by rw [a,b]);have case2:∀ (i l:Fin 4),((i≠0->l≠2->y'=y - 1->((mv s x y (lp s i mi)).2 - (mv s x y (lp s 0 mj)).2) * ((mv s x' y' (lp s l ml)).2 - (mv s x y (lp s 0 mj)).2)<0))/\((i≠2->l≠0->y'=y+1->((mv s x y (lp s i mi)).2 - (mv s x y (lp s 2 mj)).2) * ((mv s x' y' (lp s l ml)).2 - (mv s x y (lp s 2 mj)).2)<0)):=fun i l=>by
  constructor
  ·rintro h1 h2 rfl;refine ng _ _ (.inr ?_);rcases four i with rfl | rfl | rfl | rfl <;> rcases four l with rfl | rfl | rfl | rfl <;> first | exact absurd rfl h1 | exact absurd rfl h2 | (simp [mv,lp,sy];omega)
  ·rintro h1 h2 rfl;refine ng _ _ (.inl ?_);rcases four i with rfl | rfl | rfl | rfl <;> rcases four l with rfl | rfl | rfl | rfl <;> first | exact absurd rfl h1 | exact absurd rfl h2 | (simp [mv,lp,sx];omega)
 have case1:∀ (i l:Fin 4),((i≠1->l≠3->x'=x - 1->((mv s x y (lp s i mi)).1 - (mv s x y (lp s 1 mj)).1) * ((mv s x' y' (lp s l ml)).1 - (mv s x y (lp s 1 mj)).1)<0))/\((i≠3->l≠1->x'=x+1->((mv s x y (lp s i mi)).1 - (mv s x y (lp s 3 mj)).1) * ((mv s x' y' (lp s l ml)).1 - (mv s x y (lp s 3 mj)).1)<0)):=fun i l=>by
  constructor
  ·rintro h1 h2 rfl;refine ng _ _ (.inr ?_);rcases four i with rfl | rfl | rfl | rfl <;> rcases four l with rfl | rfl | rfl | rfl <;> first | exact absurd rfl h1 | exact absurd rfl h2 | (simp [mv,lp,sy];omega)
  ·rintro h1 h2 rfl;refine ng _ _ (.inl ?_);rcases four i with rfl | rfl | rfl | rfl <;> rcases four l with rfl | rfl | rfl | rfl <;> first | exact absurd rfl h1 | exact absurd rfl h2 | (simp [mv,lp,sx];omega)
 rcases four j with rfl | rfl | rfl | rfl <;> rcases four k with rfl | rfl | rfl | rfl <;> simp only [gt] at g1 g2 g3 <;> try (exfalso;first | omega | (apply key;constructor <;> omega))
 ·exact dB (.inr ((case2 i l).1 n1 (F6 n2) (by omega)))
 ·exact dB (.inl ((case1 i l).1 n1 (F6 n2) (by omega)))
 ·exact dB (.inr ((case2 i l).2 n1 (F6 n2) (by omega)))
 ·exact dB (.inl ((case1 i l).2 n1 (F6 n2) (by omega)))
end
noncomputable def lwL (Kt:List (List Int)) (wd:Nat) (cuts:List Int):List (Int×Bool×List Gt):=cuts.flatMap fun cut=>(linesOf Kt wd cut).map fun t=>(cut,t)
noncomputable def wbF (Kt:List (List Int)) (s:Nat) (c:Int×Bool×List Gt):Ln:=(c.2.1,c.2.2.map (scP Kt c.1 s))
noncomputable def jW (Kt:List (List Int)) (wd s:Nat) (cuts:List Int):Web:=(lwL Kt wd cuts).map (wbF Kt s)
theorem Dz (Kt:List (List Int)) (wd s:Nat) (cuts:List Int):tL Kt wd s cuts=(jW Kt wd s cuts).map lnD:=by
 unfold tL jW lwL;rw [GG,IC]
 congr 1
 funext cut
 rw [GG];refine G7 fun t _=>?_;show wbD Kt cut s t=lnD (t.1,t.2.map (scP Kt cut s));unfold wbD lnD eZ;rw [GG];rfl
theorem gB {f:Sg->Sg->Bool}:∀ {S:List Sg},(∀ s∈S,f s s=false)->S.Pairwise (fun s t=>f s t=false)->look f S=none
 | [],_,_=>rfl
 | s :: S,h,p=>by
  rw [Gp] at p;rw [cG fun u hu=>?_]
  ·exact gB (fun t ht=>h t (EM _ ht)) p.2
  ·rcases EW.mp hu with rfl | hu
   ·exact h _ ET
   ·exact p.1 u hu
theorem iN {w:Web}:∀ n,n<=w.length->(jI w n).Pairwise (fun s t=>s.k<t.k \/ (s.k=t.k/\s.i<t.i))/\∀ s∈jI w n,s.k<n
 | 0,_=>by simp [jI]
 | n+1,hn=>by
  have hl:w[n]?=some w[n]:=ED (by omega);obtain⟨h1,h2⟩:=iN (w:=w) n (by omega);rw [ai hl];have hk:∀ s∈yb n w[n],s.k=n:=fun s hs=>by
   unfold yb at hs;rw [E6] at hs;obtain⟨j,_,rfl⟩:=hs;rfl
  refine⟨Hu.mpr ⟨h1,?_,fun s hs t ht=>.inl ?_⟩,fun s hs=>?_⟩
  ·unfold yb;rw [Gw];exact Jh (fun hab=>.inr ⟨rfl,hab⟩) JC
  ·have:=h2 s hs;have:=hk t ht;omega
  ·rcases Fj.mp hs with hs | hs
   ·have:=h2 s hs;omega
   ·have:=hk s hs;omega
section
variable {Kt:List (List Int)} {wd s:Nat} {cuts:List Int}
theorem nC {c:Int×Bool×List Gt} (h:c∈lwL Kt wd cuts):c.1∈cuts/\c.2∈linesOf Kt wd c.1:=by
 obtain⟨cut,h1,h2⟩:=Fs.mp h;obtain⟨t,ht,rfl⟩:=E6.mp h2;exact⟨h1,ht⟩
theorem lV (nd:cuts.Nodup) (la:∀ cut∈cuts,ji Kt wd cut (linesOf Kt wd cut)):(lwL Kt wd cuts).Pairwise fun a b=>a.1=b.1->∀ g∈a.2.2,∀ h∈b.2.2,g≠h:=by
 unfold lwL;rw [IA];refine⟨fun cut hc=>?_,Jh (fun {a b} ne x hx y hy e=>?_) nd⟩
 ·rw [Gw];have q:=(la cut hc).1.nd;unfold flat at q;exact Jh (S:=fun a b=>(cut,a).fst=(cut,b).fst->∀ g∈(cut,a).2.2,∀ h∈(cut,b).2.2,g≠h) (fun h _ g hg k hk=>h g hg k hk) ((IA).mp q).2
 ·obtain⟨t,_,rfl⟩:=E6.mp hx;obtain⟨u,_,rfl⟩:=E6.mp hy;exact absurd e ne
theorem xx {f:Gt->Pt} {l:List Gt} {i:Nat} {g:Gt} (h:l[i]?=some g):atP (l.map f) i=f g:=by
 unfold atP;rw [EE,EO,h];rfl
structure SgW (Kt:List (List Int)) (wd s:Nat) (cuts:List Int) (sg:Sg) (c:Int×Bool×List Gt) (g n:Gt):Prop where
 at_:(lwL Kt wd cuts)[sg.k]?=some c
 ln:yr (jW Kt wd s cuts) sg.k=wbF Kt s c
 L:LineOk Kt wd c.1 c.2.1 c.2.2
 lt:sg.i<c.2.2.length
 run:c.2.1=false->sg.i+1<c.2.2.length
 gi:c.2.2[sg.i]?=some g
 nj:c.2.2[(sg.i+1) % c.2.2.length]?=some n
 nx:yc Kt wd c.1 g=some n
 p:sg.p=scP Kt c.1 s g
 q:sg.q=scP Kt c.1 s n
theorem fc (la:∀ cut∈cuts,ji Kt wd cut (linesOf Kt wd cut)) {sg:Sg} (h:sg∈yu (jW Kt wd s cuts)):∃ c g n,SgW Kt wd s cuts sg c g n:=by
 have S:=e7 h;have hk:sg.k<(lwL Kt wd cuts).length:=by have:=S.k;unfold jW at this;rwa [EF] at this
 have e1:(lwL Kt wd cuts)[sg.k]?=some (lwL Kt wd cuts)[sg.k]:=ED hk;have mm:=EK e1;generalize (lwL Kt wd cuts)[sg.k]=c at *;have ln:yr (jW Kt wd s cuts) sg.k=wbF Kt s c:=by
  unfold yr jW;rw [EE,EO,e1];rfl
 obtain⟨m1,m2⟩:=nC mm;have L:=(la _ m1).1.line _ m2;have hi:=S.i;have hp:=S.p;have hq:=S.q;rw [ln] at hi hp hq;have many:qE (wbF Kt s c)=if c.2.1=true then c.2.2.length else c.2.2.length - 1:=by
  unfold qE wbF;rw [EF]
 rw [many] at hi;have len:(wbF Kt s c).2.length=c.2.2.length:=EF _;rw [len] at hq;have lt:sg.i<c.2.2.length:=by split at hi <;> omega
 have ru:c.2.1=false->sg.i+1<c.2.2.length:=fun z=>by
  rw [z,Kv EG] at hi;omega
 have g1:c.2.2[sg.i]?=some c.2.2[sg.i]:=ED lt;have lt2:(sg.i+1) % c.2.2.length<c.2.2.length:=IY _ (by omega);have g2:c.2.2[(sg.i+1) % c.2.2.length]?=some c.2.2[(sg.i+1) % c.2.2.length]:=ED lt2;refine⟨c,_,_,e1,ln,L,lt,ru,g1,g2,?_,hp.trans (xx g1),hq.trans (xx g2)⟩;by_cases z:sg.i+1<c.2.2.length
 ·have zm:(sg.i+1) % c.2.2.length=sg.i+1:=HC z;have g3:=ED z;have:=L.ch _ _ _ g1 g3;rw [this];simp only [zm]
 ·have zl:sg.i+1=c.2.2.length:=by omega
  have zm:(sg.i+1) % c.2.2.length=0:=by rw [zl,JG]
  have rt:c.2.1=true:=by
   cases e:c.2.1 with
   | true=>rfl
   | false=>have:=ru e;omega
  have hl:c.2.2.getLast?=some c.2.2[sg.i]:=by
   rw [GB,show c.2.2.length - 1=sg.i by omega];exact g1
  have:=L.last _ hl;rw [rt,Kw rfl,FO] at this;rw [this];simp only [zm];exact ED (by omega)
theorem iO {l:List Gt} (nd:l.Nodup) {i j:Nat} {a b:Gt} (ha:l[i]?=some a) (hb:l[j]?=some b) (e:a=b):i=j:=by
 obtain⟨h1,r1⟩:=EH.mp ha;obtain⟨h2,r2⟩:=EH.mp hb;exact (Hw nd).mp (r1.trans (e.trans r2.symm))
theorem tT (L:Lcm (qt Kt wd) s) (nd:cuts.Nodup) (la:∀ cut∈cuts,ji Kt wd cut (linesOf Kt wd cut)):aP (jW Kt wd s cuts)=none:=by
 unfold aP;have up:=(iN (w:=jW Kt wd s cuts) _ (EN _)).1;rw [bf] at up;refine gB (fun a ha=>?_) (Jr (fun {a b} ha hb h=>?_) up)
 ·obtain⟨c,g,n,A⟩:=fc la ha;refine Bh fun z=>?_;rw [A.p,A.q] at z;have og:=A.L.op _ (EK A.gi);obtain⟨on,nn⟩:=ve og A.nx;exact nn (gA L og on z).1.symm
 ·obtain⟨c,g,n,A⟩:=fc la ha;obtain⟨c',g',n',B⟩:=fc la hb;have og:=A.L.op _ (EK A.gi);have og':=B.L.op _ (EK B.gi);rw [tO (fun z=>by omega)];unfold df;have same:a.k=b.k->c=c':=fun e=>by
   have:=A.at_;rw [e,B.at_] at this;exact (Option.some.inj this).symm
  by_cases h1:a.k=b.k/\a.i+1=b.i
  ·rw [Kw h1];obtain rfl:=same h1.1;have lt:=B.lt;have en:n=g':=by
    have e1:=A.nj;rw [HC (by omega),h1.2,B.gi] at e1;exact (Option.some.inj e1).symm
   subst en;rw [A.p,A.q,B.q];exact rD L og A.nx B.nx
  ·rw [Kv h1];by_cases h2:yU (jW Kt wd s cuts) a.k a.i b.k b.i=true
   ·rw [Kw h2];unfold yU at h2;rw [EV,EV] at h2;obtain⟨_,h3,h4⟩:=h2;have h3:=of_decide_eq_true h3;have h4:=of_decide_eq_true h4;rw [B.ln] at h4;have len:(wbF Kt s c').2.length=c'.2.2.length:=EF _;rw [len] at h4;obtain rfl:=same h3.1;have en:n'=g:=by
     have e1:=B.nj;rw [show b.i+1=c.2.2.length by have:=B.lt;omega,JG,<- h3.2,A.gi] at e1;exact (Option.some.inj e1).symm
    subst en;rw [B.p,B.q,A.q];exact rD L og' B.nx A.nx
   ·rw [Kv h2,A.p,A.q,B.p,B.q];refine rC L og A.nx og' B.nx fun ec=>?_;rcases h with h | ⟨h,hi⟩
    ·have ap:=Gb.mp (lV (Kt:=Kt) (wd:=wd) nd la);obtain⟨k1,r1⟩:=EH.mp A.at_;obtain⟨k2,r2⟩:=EH.mp B.at_;have d:=ap a.k b.k k1 k2 h;rw [r1,r2] at d;have d:=d ec;have m1:=EK A.gi;have m2:=EK A.nj;have m3:=EK B.gi;have m4:=EK B.nj;exact⟨d _ m1 _ m3,d _ m1 _ m4,d _ m2 _ m3,d _ m2 _ m4⟩
    ·obtain rfl:=same h;have nd:=A.L.nd;have lt:=B.lt;have i1:(a.i+1) % c.2.2.length=a.i+1:=HC (by omega);refine⟨fun z=>?_,fun z=>?_,fun z=>?_,fun z=>?_⟩
     ·have:=iO nd A.gi B.gi z;omega
     ·have e:=iO nd A.gi B.nj z;by_cases w:b.i+1<c.2.2.length
      ·rw [HC w] at e;omega
      ·have wl:b.i+1=c.2.2.length:=by omega
       rw [wl,JG] at e;refine h2 ?_;unfold yU;rw [B.ln];have rt:c.2.1=true:=by
        cases q:c.2.1 with
        | true=>rfl
        | false=>have:=B.run q;omega
       show (c.2.1 && (decide (a.k=b.k/\a.i=0) && decide ((b.i:Int)=((c.2.2.map (scP Kt c.1 s)).length:Int) - 1)))=true;rw [rt,Kx ⟨h,e⟩,EF,Kx (by omega)];rfl
     ·have e:=iO nd A.nj B.gi z;rw [i1] at e;exact h1 ⟨h,e⟩
     ·have e:=iO nd A.nj B.nj z;rw [i1] at e;by_cases w:b.i+1<c.2.2.length
      ·rw [HC w] at e;omega
      ·rw [show b.i+1=c.2.2.length by omega,JG] at e;omega
def Em (Kt:List (List Int)):Prop:=∃ b:Int,∀ r∈Kt,∀ n∈r,b<=n/\n<b+10
theorem tU (gd:Good wd Kt) (fl:Em Kt) (L:Lcm (qt Kt wd) s):s<=5040:=by
 obtain⟨b,hb⟩:=fl;refine Kf (by decide) ((L.2 5040).mpr fun d hd nz=>?_);obtain⟨p,hp,hd⟩:=Fs.mp hd;obtain⟨q,hq,rfl⟩:=E6.mp hd;have iq:yj Kt wd q.1 q.2=true:=(FR.mp hq).2;obtain⟨a1,a2,a3,a4⟩:=bX.mp hp;have ip:yj Kt wd p.1 p.2=true:=by
  unfold yj;rw [Kx (by omega),Kx (by omega)];rfl
 have cb:∀ {x y:Int},yj Kt wd x y=true->b<=zJ Kt x y/\zJ Kt x y<b+10:=fun {x y} h=>by
  obtain⟨x0,x1,y0,y1⟩:=jB h;have hy:y.toNat<Kt.length:=by omega
  have hr:=gd.row _ (Ff hy);have hx:x.toNat<Kt[y.toNat].length:=by omega
  have:=hb _ (Ff hy) _ (Ff hx);unfold zJ;rw [EE,EE,ED hy,Ju,ED hx];exact this
 have c1:=cb ip;have c2:=cb iq;unfold gap at nz ⊢;generalize he:(zJ Kt p.1 p.2 - zJ Kt q.1 q.2).natAbs=e at *;have:e=0 \/ e=1 \/ e=2 \/ e=3 \/ e=4 \/ e=5 \/ e=6 \/ e=7 \/ e=8 \/ e=9:=by omega
 rcases this with rfl | rfl | rfl | rfl | rfl | rfl | rfl | rfl | rfl | rfl
 ·exact absurd rfl nz
 all_goals decide
theorem Bl (hs:s<=5040) {u v:Int} (h1:0<=u) (h2:u<=7 * s) (h3:0<=v) (h4:v<=7 * s):Near (0,0) (u,v):=⟨h1,by dsimp only;omega,h3,by dsimp only;omega⟩
theorem xy (gd:Good wd Kt) (L:Lcm (qt Kt wd) s) {cut:Int} {g:Gt} (o:opG Kt wd cut g=true):0<=(scP Kt cut s g).1/\(scP Kt cut s g).1<=7 * s/\0<=(scP Kt cut s g).2/\(scP Kt cut s g).2<=7 * s:=by
 obtain⟨m,m0,m1,_,e2⟩:=bZ L o;obtain⟨x0,x1,y0,y1⟩:=jB (m8 o);have w2:=gd.w2;have h2:=gd.h2;rw [e2];have key:∀ a k:Int,0<=a->a<7->0<=k->k<=1->0<=(s:Int) * a+m * k/\(s:Int) * a+m * k<=7 * s:=fun a k a0 a1 k0 k1=>by
  have hk:k=0 \/ k=1:=by omega
  have ha:a=0 \/ a=1 \/ a=2 \/ a=3 \/ a=4 \/ a=5 \/ a=6:=by omega
  rcases hk with rfl | rfl <;> rcases ha with rfl | rfl | rfl | rfl | rfl | rfl | rfl <;> omega
 have w:=vG o;obtain⟨a1,a2⟩:=key g.1 (1 - g.2.2) x0 (by omega) (by omega) (by omega);obtain⟨b1,b2⟩:=key g.2.1 g.2.2 y0 (by omega) (by omega) (by omega);exact⟨a1,a2,b1,b2⟩
theorem DA (gd:Good wd Kt) (hs:s<=5040) (L:Lcm (qt Kt wd) s) (few:cuts.length<=3) (la:∀ cut∈cuts,ji Kt wd cut (linesOf Kt wd cut)):OkWeb (0,0) (jW Kt wd s cuts)/\2 * (jW Kt wd s cuts).length<=vK (jW Kt wd s cuts)/\vK (jW Kt wd s cuts)<=294:=by
 have two:∀ l∈jW Kt wd s cuts,2<=l.2.length/\l.2.length<=98/\∀ p∈l.2,Near (0,0) p:=fun l hl=>by
  obtain⟨c,hc,rfl⟩:=E6.mp hl;obtain⟨m1,m2⟩:=nC hc;have T:=(la _ m1).1;have Ln:=T.line _ m2;have e:(wbF Kt s c).2.length=c.2.2.length:=EF _;rw [e];refine⟨wW gd Ln (T.st _ m2),af gd Ln.op Ln.nd,fun p hp=>?_⟩;obtain⟨g,hg,rfl⟩:=E6.mp hp;have o:=Ln.op g hg;obtain⟨a1,a2,b1,b2⟩:=xy gd L o;exact Bl hs a1 a2 b1 b2
 have sum:∀ cs:List Int,(∀ c∈cs,ji Kt wd c (linesOf Kt wd c))->vK (jW Kt wd s cs)<=98 * cs.length:=by
  intro cs
  induction cs with
  | nil=>intro _;exact EN _
  | cons c cs ih =>
   intro hc;have i1:=ih fun d hd=>hc d (EM _ hd);have i2:=(hc c ET).1.len gd;have e:jW Kt wd s (c :: cs)=((linesOf Kt wd c).map fun t=>wbF Kt s (c,t))++jW Kt wd s cs:=by
    unfold jW lwL;rw [Ip,E9,GG];rfl
   have e2:vK ((linesOf Kt wd c).map fun t=>wbF Kt s (c,t))=(flat (linesOf Kt wd c)).length:=by
    unfold vK flat;rw [GG,List.length_flatMap]
    congr 1
    refine G7 fun t _=>?_;exact EF _
   rw [e];unfold vK at *;rw [E9,IP,e2,E1];omega
 have tw:=sum cuts la;have ln:∀ w:Web,(∀ l∈w,2<=l.2.length)->2 * w.length<=vK w:=by
  intro w
  induction w with
  | nil=>intro _;exact EN _
  | cons l w ih =>
   intro h;have h1:=ih fun k hk=>h k (EM _ hk);have h2:=h l ET;unfold vK at *;rw [Fg,List.sum_cons,E1];omega
 have l2:=ln _ fun l hl=>(two l hl).1;exact⟨⟨by omega,fun l hl=>(two l hl).1,fun l hl=>(two l hl).2.1,by omega,fun l hl=>(two l hl).2.2⟩,l2,by omega⟩
end
abbrev xA (K:EI):Sp:=spD K 2 (fun (c:List (List Int)×Nat) xs=>xs=[.feed,.dat (tab c.1)]/\Good c.2 c.1) fun _ r=>∃ cuts:List Int,r=.list (cuts.map .int)/\cuts.length<=3/\cuts.Nodup
theorem Bm (F:Def K mg "_law_cuts" vE qd) (uaa:mg "len"=none) (uab:mg "range"=none) (uac:FnIn P w K mg base k "_law_draw" pI (mX K)):FnIn P w K mg base (k+1) "_law_cuts" qd (xA K):=by
 refine F.ok jR rfl fun fa cdv A outer s H E hr=>⟨_,(zc (zO (i:=2) jR.nd rfl (Or.inl rfl) (yw zb)) (zc (jq Fv rfl (jF rfl uab (za (zk zX zd (zf uac hr rfl (za (pv 0) (za zd zb)))) zb)) (zg (i:=3) jR.nd rfl (Or.inl rfl) (Or.inr rfl)) (zc (zO (i:=4) jR.nd rfl (Or.inl rfl) (zE (zH (K:=K) rfl) (pv 1) (zf uac hr rfl (za (pv 0) (za (zF (z8 (K:=K) rfl) rfl uaa Fw (za (pv 1) zb)) zb))) (fun _ _=>rfl))) (zc (zO (i:=5) jR.nd rfl (Or.inl rfl) (zk z9 (zE (zH (K:=K) rfl) (pv 4) (zf uac hr rfl (za (pv 0) (za (zF (z8 (K:=K) rfl) rfl uaa Fw (za (pv 4) zb)) zb))) (fun _ _=>rfl)) (zf uac hr rfl (za (pv 0) (za zd zb))))) (zh (yC (zZ (mB (K:=K) rfl hr.units) (pv 5) (pv 2) rfl) (zh (jf (dP F8 FZ F4 jG (pv 2) (za (pv 5) zb)))) zV))))) (zh (zu (pv 2))))),?_⟩;rintro f xs ⟨Kt,wd⟩ hl ⟨rfl,g⟩
 try dsimp only [ye,zj]
 dsimp only at *;have g1:=g.h1;have g2:=g.h2;have w1:=g.w1;have w2:=g.w2;have ml:(Kt.map fun r=>PyData.list (r.map .int)).length=Kt.length:=EF _;refine eF (w:=w) (fW (av (nV ⟨show 2<6 by decide,fun D=>?_⟩)));refine jP (kN (bA (zv (vW (yE ⟨_,rfl,zr 3 (b8 rfl (zv (yE (yd ⟨rfl,⟨rfl,by omega,by omega⟩,?_⟩))))⟩)))));rintro _ ⟨n3,rfl,n0,n1⟩;refine⟨_,rfl,yd ⟨_,rfl,by omega,by omega,fun m ρ cs=>∃ (cuts:List Int) (x3 x4 x5:Option DV),ρ=[some .feed,some (.dat (tab Kt)),some (.own (f.M.length+0)),x3,x4,x5]/\cs=[.lst (cuts.map .int)]/\cuts.length<=m/\cuts.Nodup,⟨[],_,_,_,rfl,rfl,EN 0,Hc⟩,?_,?_⟩⟩
 ·rintro m d _ _ hd ⟨cuts,x3,x4,x5,rfl,rfl,lc,nd⟩;obtain⟨hm,rfl⟩:=bV hd;refine zp (jP (eG (yk (bw (zq rfl ⟨_,rfl,zr (Kt.length:Nat) (b8 rfl (zv (cM (eI rfl (.inl ⟨_,rfl,yd ⟨rfl,⟨by rw [ml],by omega,by omega⟩,?_⟩⟩)))))⟩)))));rintro _ ⟨i,rfl,i0,i1⟩;obtain⟨i,rfl⟩:=GL i0;have hi:i<Kt.length:=by omega
  have rl:=g.row _ (Ff hi);refine⟨_,rfl,.list (Kt[i].map .int),qs rfl hi,zp ?_⟩;refine jP (eG (yk (vW (bw (zq rfl ⟨_,rfl,zr (Kt[i].length:Nat) (b8 rfl (zv (cM (eI rfl (.inl ⟨_,rfl,yd ⟨rfl,⟨by rw [EF],by omega,by omega⟩,?_⟩⟩)))))⟩)))));rintro _ ⟨j,rfl,j0,j1⟩;obtain⟨j,rfl⟩:=GL j0;have hj:j<Kt[i].length:=by omega
  refine⟨_,rfl,.int Kt[i][j],qs rfl hj,_,rfl,zr 2 (b8 rfl (zv (yE (yd ⟨rfl,⟨rfl,by omega,by omega⟩,?_⟩))))⟩;rintro _ ⟨i2,rfl,_,_⟩;refine⟨_,rfl,zp ?_⟩;generalize Kt[i][j] - i2=c;generalize (some (DV.dat (.list (Kt[i].map .int))):Option DV)=x4;show PSm w K f [D] _ [some .feed,some (.dat (tab Kt)),some (.own (f.M.length+0)),some (.dat (.int m)),x4,some (.dat (.int c))] [OC.lst (cuts.map PyData.int)] _;have fr:HU (freed f.M.length [OC.lst (cuts.map PyData.int)]) [some DV.feed,some (.dat (tab Kt)),some (.own (f.M.length+0)),some (.dat (.int m)),x4,some (.dat (.int c))]=[some .feed,some (.dat (tab Kt)),some (.dat (.list (cuts.map PyData.int))),some (.dat (.int m)),freed f.M.length [OC.lst (cuts.map PyData.int)] x4,some (.dat (.int c))]:=by simp [freed]
  refine D0 (AD ?_);rw [fr];refine yV (uL (zq rfl (zq rfl ⟨_,rfl,rfl,fun e he=>by obtain⟨z,_,rfl⟩:=E6.mp he;rfl,by show 0<=50;decide,_,rfl,?_⟩)));refine yt (fun h=>?_) fun h=>wa ⟨cuts,_,_,_,rfl,rfl,by omega,nd⟩;have nc:c∉cuts:=fun hc=>by
   simp [aB] at h;exact h c hc rfl
  refine fV (i:=2) (j:=0) rfl rfl (by rw [EF];omega) (bJ (zq rfl ⟨cuts++[c],_,_,_,rfl,?_,by rw [EY,FJ];omega,?_⟩))
  ·show [OC.lst (cuts.map PyData.int++[.int c])]=_;rw [E9];rfl
  ·exact G3.mpr ⟨nd,by simp,fun a ha b hb e=>nc (by rw [<-Fc.mp hb,<- e];exact ha)⟩
 ·rintro _ _ ⟨cuts,x3,x4,x5,rfl,rfl,lc,nd⟩;rw [aC] at lc;have fr:HU (freed f.M.length [OC.lst (cuts.map PyData.int)]) [some DV.feed,some (.dat (tab Kt)),some (.own (f.M.length+0)),x3,x4,x5]=[some .feed,some (.dat (tab Kt)),some (.dat (.list (cuts.map PyData.int))),freed f.M.length [OC.lst (cuts.map PyData.int)] x3,freed f.M.length [OC.lst (cuts.map PyData.int)] x4,freed f.M.length [OC.lst (cuts.map PyData.int)] x5]:=by simp [freed]
  refine eH ?_;rw [fr];exact yI (zq rfl ⟨cuts,rfl,by omega,nd⟩)
noncomputable def sqF (a b:Pt):Int:=(b.1 - a.1) * (b.1 - a.1)+(b.2 - a.2) * (b.2 - a.2)
noncomputable def alF (p a b:Pt):Int:=(p.1 - a.1) * (b.1 - a.1)+(p.2 - a.2) * (b.2 - a.2)
noncomputable def nearF (m:Int) (p a b:Pt):Bool :=
 if alF p a b<=0 then decide (sqF a p<=m * m) else if sqF a b<=alF p a b then decide (sqF b p<=m * m) else decide (zx a b p * zx a b p<=m * m * sqF a b)
theorem sq_nonneg (x:Int):0<=x * x:=by
 rcases Int.le_total 0 x with h | h
 ·exact J1 h h
 ·exact Ib h h
theorem nE (a b:Pt):0<=sqF a b:=by
 have h1:=sq_nonneg (b.1 - a.1);have h2:=sq_nonneg (b.2 - a.2);unfold sqF;omega
noncomputable def jC (ps:List Pt) (m:Int) (i j:Nat):Bool:=((ps.take j).drop (i+1)).all fun p=>nearF m p (atP ps i) (atP ps j)
theorem tV {ps:List Pt} {m:Int} {i j:Nat} (hj:j<=ps.length):jC ps m i j=true↔∀ t,i<t->t<j->nearF m (atP ps t) (atP ps i) (atP ps j)=true:=by
 unfold jC;rw [GD];constructor
 ·intro h t h1 h2;refine h _ (EK (i:=t - (i+1)) ?_);rw [IW,G4 (by omega),show i+1+(t - (i+1))=t by omega];unfold atP;rw [EE,ED (by omega)];rfl
 ·intro h p hp;obtain⟨n,hn,rfl⟩:=Gz hp;rw [Hz,Fo] at hn;have:=h (i+1+n) (by omega) (by omega);rw [List.getElem_drop,List.getElem_take];unfold atP at this;rw [EE,ED (by omega)] at this;exact this
def Ed (ps:List Pt) (m:Int) (i j:Nat):Prop:=i<j/\jC ps m i j=true
inductive Path (E:Nat->Nat->Prop) (i:Nat):Nat->Nat->Prop where
 | one:Path E i i 1
 | snoc {k j c:Nat}:Path E i k c->E k j->Path E i j (c+1)
def BU (E:Nat->Nat->Prop) (i j c:Nat):Prop:=Path E i j c/\∀ c',Path E i j c'->c<=c'
theorem cX (g:Nat->Int):∀ n,0<n->∃ i,i<n/\∀ j,j<n->g i<=g j/\(j<i->g i<g j)
 | 0,h=>absurd h (Gi _)
 | 1,_=>⟨0,by omega,fun j hj=>by
   have z:j=0:=Nat.lt_one_iff.mp hj;subst z;exact⟨Kq _,fun h=>absurd h (Gi _)⟩⟩
 | n+2,_=>by
  obtain⟨i,hi,h⟩:=cX g (n+1) (by omega);by_cases hc:g (n+1)<g i
  ·refine⟨n+1,by omega,fun j hj=>?_⟩;by_cases e:j=n+1
   ·subst e;exact⟨Kq _,fun h=>absurd h (Gi _)⟩
   ·have:=(h j (by omega)).1;exact⟨by omega,fun _=>by omega⟩
  ·refine⟨i,by omega,fun j hj=>?_⟩;by_cases e:j=n+1
   ·subst e;exact⟨by omega,fun h=>by omega⟩
   ·exact h j (by omega)
theorem xB {ks ns:List Int} (h:ns≠[]):∃ M,jY ks ns M:=by
 obtain⟨i,hi,hb⟩:=cX (ixK ks ns) ns.length (HL.mpr h);exact⟨ns[i],i,ED hi,hb⟩
theorem nF {ks ns:List Int} {M M':Int} (h:jY ks ns M) (h':jY ks ns M'):M=M':=by
 obtain⟨i,e,hb⟩:=h;obtain⟨i',e',hb'⟩:=h';have hi:=(EH.mp e).1;have hi':=(EH.mp e').1;have:i=i':=by
  rcases Nat.lt_trichotomy i i' with z | z | z
  ·have h1:=(hb' i hi).2 z;have h2:=(hb i' hi').1;omega
  ·exact z
  ·have h1:=(hb i' hi').2 z;have h2:=(hb' i hi).1;omega
 subst this;rw [e] at e';exact Option.some.inj e'
noncomputable def bestOf (ks ns:List Int):Int:=Classical.epsilon (jY ks ns)
theorem tW {ks ns:List Int} (h:ns≠[]):jY ks ns (bestOf ks ns):=Iu (xB h)
theorem Bn {ks ns:List Int} {M:Int} (h:jY ks ns M):bestOf ks ns=M:=nF (Iu ⟨M,h⟩) h
theorem gC {ks ns:List Int} {M:Int} (h:jY ks ns M):M∈ns/\∀ n∈ns,ks.getD M.toNat 0<=ks.getD n.toNat 0:=by
 obtain⟨i,e,hb⟩:=h;refine⟨EK e,fun n hn=>?_⟩;obtain⟨j,hj,rfl⟩:=Gz hn;have:=(hb j hj).1;unfold ixK at this;rw [EE (l:=ns),e,EE (l:=ns),ED hj] at this;exact this
noncomputable def usF (ps:List Pt) (m:Int) (j:Nat):List Int:=((E7 j).filter fun i=>jC ps m i j).map fun i=>((i:Nat):Int)
theorem ff {ps:List Pt} {m:Int} {j:Nat} {n:Int}:n∈usF ps m j↔∃ i:Nat,n=i/\i<j/\jC ps m i j=true:=by
 unfold usF;rw [E6];constructor
 ·rintro⟨i,hi,rfl⟩;rw [FR,Fe] at hi;exact⟨i,rfl,hi.1,hi.2⟩
 ·rintro⟨i,rfl,h1,h2⟩;exact⟨i,by rw [FR,Fe];exact⟨h1,h2⟩,rfl⟩
theorem nG (ps:List Pt) (m:Int) (j:Nat):jC ps m j (j+1)=true:=by
 unfold jC;rw [JA (by rw [Fo];omega)];rfl
theorem BV (ps:List Pt) (m:Int) (j:Nat):usF ps m (j+1)≠[]:=fun e=>by
 have:(j:Int)∈usF ps m (j+1):=ff.mpr ⟨j,rfl,IB j,nG ps m j⟩;rw [e] at this;cases this
noncomputable def dpF (ps:List Pt) (m:Int):Nat->List Int×List Int
 | 0=>([1],[])
 | j+1=>((dpF ps m j).1++[(dpF ps m j).1.getD (bestOf (dpF ps m j).1 (usF ps m (j+1))).toNat 0+1],(dpF ps m j).2++[bestOf (dpF ps m j).1 (usF ps m (j+1))])
structure DpOk (ps:List Pt) (m:Int) (j:Nat) (fw la:List Int):Prop where
 fl:fw.length=j+1
 ll:la.length=j
 least:∀ i,i<=j->∃ c:Nat,fw[i]?=some (c:Int)/\BU (Ed ps m) 0 i c
 last:∀ i,i<j->∃ b:Nat,la[i]?=some (b:Int)/\Ed ps m b (i+1)/\fw.getD (i+1) 0=fw.getD b 0+1
theorem lW (ps:List Pt) (m:Int):∀ j,DpOk ps m j (dpF ps m j).1 (dpF ps m j).2
 | 0=>⟨rfl,rfl,fun i hi=>by
   have:i=0:=by omega
   subst this;exact⟨1,rfl,.one,fun c' p=>by cases p with | one=>exact EN _ | snoc _ e=>exact absurd e.1 (FV _)⟩,fun i hi=>absurd hi (FV _)⟩
 | j+1=>by
  have D:=lW ps m j;obtain⟨fl,ll,le,la⟩:=D;have bs:=gC (tW (ks:=(dpF ps m j).1) (BV ps m j));obtain⟨b,eb,hb,sb⟩:=ff.mp bs.1;have fwb:(dpF ps m (j+1)).1=(dpF ps m j).1++[(dpF ps m j).1.getD b 0+1]:=by
   show (dpF ps m j).1++[_]=_;rw [eb,FG]
  have lab:(dpF ps m (j+1)).2=(dpF ps m j).2++[((b:Nat):Int)]:=by
   show (dpF ps m j).2++[_]=_;rw [eb]
  rw [fwb,lab];have gd:∀ i,i<=j->((dpF ps m j).1++[(dpF ps m j).1.getD b 0+1]).getD i 0=(dpF ps m j).1.getD i 0:=fun i hi=>by
   rw [EE,ER (by omega),EE]
  have gl:((dpF ps m j).1++[(dpF ps m j).1.getD b 0+1]).getD (j+1) 0=(dpF ps m j).1.getD b 0+1:=by
   rw [EE,EX (by omega),fl];simp
  obtain⟨cb,ecb,lb⟩:=le b (by omega);have gb:(dpF ps m j).1.getD b 0=cb:=by rw [EE,ecb];rfl
  refine⟨by rw [EY,fl];rfl,by rw [EY,ll];rfl,fun i hi=>?_,fun i hi=>?_⟩
  ·by_cases e:i=j+1
   ·subst e;refine⟨cb+1,?_,.snoc lb.1 ⟨hb,sb⟩,fun c' p=>?_⟩
    ·rw [EX (by omega),fl,Gn,gb];rfl
    ·cases p with
     | snoc q e =>
      rename_i k c;obtain⟨ck,eck,lk⟩:=le k (by have:=e.1;omega);have h1:=bs.2 (k:Int) (ff.mpr ⟨k,rfl,e.1,e.2⟩);rw [eb,FG,FG,gb,EE,eck] at h1;have h2:=lk.2 _ q;have h3:(cb:Int)<=(ck:Int):=h1;omega
   ·obtain⟨c,e1,l1⟩:=le i (by omega);exact⟨c,by rw [ER (by omega)];exact e1,l1⟩
  ·by_cases e:i=j
   ·subst e;refine⟨b,by rw [EX (by omega),ll,Gn];rfl,⟨hb,sb⟩,?_⟩;rw [gl,gd b (by omega)]
   ·obtain⟨b',e1,e2,e3⟩:=la i (by omega);refine⟨b',by rw [ER (by omega)];exact e1,e2,?_⟩;rw [gd (i+1) (by omega),gd b' (by have:=e2.1;omega)];exact e3
inductive Row (E:Nat->Nat->Prop):List Nat->Nat->Prop where
 | one:Row E [0] 0
 | snoc {r:List Nat} {k j:Nat}:Row E r k->E k j->Row E (r++[j]) j
theorem Row.facts {E:Nat->Nat->Prop} {r:List Nat} {j:Nat} (h:Row E r j):r[0]?=some 0/\r[r.length - 1]?=some j/\0<r.length/\∀ t,t+1<r.length->E (r.getD t 0) (r.getD (t+1) 0):=by
 induction h with
 | one=>exact⟨rfl,rfl,HB _,fun t ht=>by simp at ht⟩
 | snoc q e ih =>
  rename_i r k j;obtain⟨a,b,c,d⟩:=ih;refine⟨by rw [ER c];exact a,by rw [EY,EX (by simp)];simp,by simp,fun t ht=>?_⟩;rw [EY] at ht;have ht':t+1<=r.length:=Nat.le_of_lt_succ ht;by_cases z:t+1=r.length
  ·have e1:(r++[j]).getD t 0=k:=by
    rw [EE,ER (by omega),show t=r.length - 1 by omega,b];rfl
   have e2:(r++[j]).getD (t+1) 0=j:=by
    rw [EE,EX (by omega),z,Gn];rfl
   rw [e1,e2];exact e
  ·have:=d t (by omega);rw [EE,ER (by omega),EE,ER (by omega),<- EE,<- EE];exact this
noncomputable def lX (la:List Int):Nat->Nat->List Nat
 | 0,_=>[]
 | _+1,0=>[0]
 | n+1,a+1=>lX la n (la.getD a 0).toNat++[a+1]
theorem rE {ps:List Pt} {m:Int} {j:Nat} {fw la:List Int} (D:DpOk ps m j fw la):∀ (n a:Nat),a<=j->a<n->Row (Ed ps m) (lX la n a) a/\fw.getD a 0=(lX la n a).length
 | n+1,0,_,_=>⟨.one,by
   obtain⟨c,e,l⟩:=D.least 0 (Ft _);have e1:c=1:=by
    have h1:=l.2 1 .one;have h2:0<c:=by
     cases l.1 with
     | one=>exact HB _
     | snoc _ _=>exact HB _
    omega
   rw [EE,e,e1]
   rfl⟩
 | n+1,a+1,h1,h2=>by
  obtain⟨b,e,ed,f⟩:=D.last a (by omega);have hb:=ed.1;obtain⟨r,l⟩:=rE D n b (by omega) (by omega);have eg:(la.getD a 0).toNat=b:=by rw [EE,e];rfl
  show Row _ (lX la n (la.getD a 0).toNat++[a+1]) _/\_=((lX la n (la.getD a 0).toNat++[a+1]).length:Int);rw [eg];refine⟨.snoc r ed,?_⟩;rw [f,l,EY];rfl
 | 0,a,_,h=>absurd h (FV _)
noncomputable def ak (ps:List Pt) (m:Int):List Nat:=lX (dpF ps m (ps.length - 1)).2 ps.length (ps.length - 1)
noncomputable def tX (ps:List Pt) (m:Int):Int:=(dpF ps m (ps.length - 1)).1.getD (ps.length - 1) 0
theorem lY (ps:List Pt) (m:Int) (h:0<ps.length):Row (Ed ps m) (ak ps m) (ps.length - 1)/\tX ps m=(ak ps m).length :=
 rE (lW ps m (ps.length - 1)) ps.length (ps.length - 1) (EN _) (by omega)
theorem tY (ps:List Pt) (m:Int) (h:0<ps.length):BU (Ed ps m) 0 (ps.length - 1) (ak ps m).length:=by
 obtain⟨c,e,l⟩:=(lW ps m (ps.length - 1)).least (ps.length - 1) (EN _);have:=(lY ps m h).2;unfold tX at this;rw [EE,e] at this;have h3:(c:Int)=((ak ps m).length:Nat):=this;have h4:c=(ak ps m).length:=by omega
 rw [<-h4];exact l
abbrev xC (K:EI):Sp:=spD K 4 (fun (c:Pt×Pt×Pt×Pt×Int) xs=>xs=[.dat (pD c.2.1),.dat (pD c.2.2.1),.dat (pD c.2.2.2.1),.dat (.int c.2.2.2.2)]/\Near c.1 c.2.1/\Near c.1 c.2.2.1/\Near c.1 c.2.2.2.1/\0<=c.2.2.2.2/\c.2.2.2.2<=10 ^ 60) fun c r=>r=.bool (nearF c.2.2.2.2 c.2.1 c.2.2.1 c.2.2.2.1)
theorem nH (x:Int):x ^ IT 2=x * x:=by rw [show IT 2=2 from rfl,Int.pow_succ,Int.pow_succ,Int.pow_zero,JY]
theorem xD {x:Int} {n:Nat} (h0:-(2 ^ n:Nat)<x) (h1:x<(2 ^ n:Nat)) (hn:n<=1000):x.natAbs<2 ^ 1000:=by
 have:x.natAbs<2 ^ n:=by omega
 exact Fb this (Hs (by decide) hn)
theorem s43 {x:Int} (h0:-4398046511104<=x) (h1:x<=4398046511104):x.natAbs<2 ^ 1000:=xD (n:=43) (by show -(8796093022208:Int)<x;omega) (by show x<(8796093022208:Int);omega) (by decide)
theorem Bo (F:Def K mg "lies_near" qK pR) (uag:FnIn P w K mg base k "turn" pC (qS K)):FnIn P w K mg base (k+1) "lies_near" pR (xC K):=by
 refine F.ok yq rfl fun fa cdv A outer s H E hr=>⟨_,(zc (yn (zN (za (pv 0) (za (pv 1) (za (pv 2) zb)))) (zI (K:=K) (n:=3) rfl rfl (ze (zI (K:=K) (n:=2) rfl rfl (ze (zg (i:=4) yq.nd rfl (Or.inl rfl) (Or.inr rfl)) (ze (zg (i:=5) yq.nd rfl (Or.inl rfl) (Or.inr rfl)) zB))) (ze (zI (K:=K) (n:=2) rfl rfl (ze (zg (i:=6) yq.nd rfl (Or.inl rfl) (Or.inr rfl)) (ze (zg (i:=7) yq.nd rfl (Or.inl rfl) (Or.inr rfl)) zB))) (ze (zI (K:=K) (n:=2) rfl rfl (ze (zg (i:=8) yq.nd rfl (Or.inl rfl) (Or.inr rfl)) (ze (zg (i:=9) yq.nd rfl (Or.inl rfl) (Or.inr rfl)) zB))) zB))))) (zc (zO (i:=10) yq.nd rfl (Or.inl rfl) (zk zX (zk jJ (zk z9 (pv 8) (pv 6)) zd) (zk jJ (zk z9 (pv 9) (pv 7)) zd))) (zc (zO (i:=11) yq.nd rfl (Or.inl rfl) (zk zX (zk yv (zk z9 (pv 4) (pv 6)) (zk z9 (pv 8) (pv 6))) (zk yv (zk z9 (pv 5) (pv 7)) (zk z9 (pv 9) (pv 7))))) (zc (yC (zZ vM (pv 11) zd (zQ _)) (zh (zu (yD vM (zk zX (zk jJ (zk z9 (pv 4) (pv 6)) zd) (zk jJ (zk z9 (pv 5) (pv 7)) zd)) (zk jJ (pv 3) zd) (zQ _)))) zV) (zc (yC (zZ uh (pv 11) (pv 10) (zQ _)) (zh (zu (yD vM (zk zX (zk jJ (zk z9 (pv 4) (pv 8)) zd) (zk jJ (zk z9 (pv 5) (pv 9)) zd)) (zk jJ (pv 3) zd) (zQ _)))) zV) (zh (zu (yD vM (zk jJ (zf uag hr rfl (za (pv 1) (za (pv 2) (za (pv 0) zb)))) zd) (zk yv (zk jJ (pv 3) zd) (pv 10)) (zQ _))))))))),?_⟩;rintro f xs ⟨o,p,a,b,m⟩ hl ⟨rfl,np,na,nb,m0,m1⟩;have np':=np;have na':=na;have nb':=nb;obtain⟨p1,p2,p3,p4⟩:=np';obtain⟨a1,a2,a3,a4⟩:=na';obtain⟨b1,b2,b3,b4⟩:=nb'
 try dsimp only [ye,zj]
 unfold pD;dsimp only at *;have hm:m.natAbs<2 ^ 1000:=by
  have h1:(10:Nat) ^ 60<2 ^ 1000:=by decide +kernel
  have h2:m.natAbs<=10 ^ 60:=by
   have:((10:Int) ^ 60)=(((10:Nat) ^ 60:Nat):Int):=by decide +kernel
   omega
  omega
 have s1:∀ {x y:Int},o.1<=x->x<=o.1+4398046511104->o.1<=y->y<=o.1+4398046511104->(x - y).natAbs<2 ^ 1000:=fun h1 h2 h3 h4=>s43 (by omega) (by omega);have s2:∀ {x y:Int},o.2<=x->x<=o.2+4398046511104->o.2<=y->y<=o.2+4398046511104->(x - y).natAbs<2 ^ 1000:=fun h1 h2 h3 h4=>s43 (by omega) (by omega);have hu:∀ {x:Int},x.natAbs<2 ^ 1000->x.natAbs<aI:=fun h=>vo h (by decide);have fin:∀ {r:PyData},r=.bool (if alF p a b<=0 then decide (sqF a p<=m * m) else if sqF a b<=alF p a b then decide (sqF b p<=m * m) else decide (zx a b p * zx a b p<=m * m * sqF a b))->r=.bool (nearF m p a b):=fun h=>h;have e1:∀ x y:Int,x ^ IT 2+y ^ IT 2=x * x+y * y:=fun x y=>by rw [nH,nH]
 repeat (first | walk_at "dl" | (refine⟨⟨rfl,by first | assumption | exact s1 (by assumption) (by assumption) (by assumption) (by assumption) | exact s2 (by assumption) (by assumption) (by assumption) (by assumption)⟩,?_⟩) | (refine⟨⟨hu (by first | exact s1 (by assumption) (by assumption) (by assumption) (by assumption) | exact s2 (by assumption) (by assumption) (by assumption) (by assumption)),hu (by first | exact s1 (by assumption) (by assumption) (by assumption) (by assumption) | exact s2 (by assumption) (by assumption) (by assumption) (by assumption))⟩,?_⟩))
 rw [e1];have eA:(p.1 - a.1) * (b.1 - a.1)+(p.2 - a.2) * (b.2 - a.2)=alF p a b:=rfl;have eS:(b.1 - a.1) * (b.1 - a.1)+(b.2 - a.2) * (b.2 - a.2)=sqF a b:=rfl;rw [eA,eS];refine yt (fun h=>?_) fun h=>?_
 ·repeat (first | walk_at "dl" | (refine⟨⟨rfl,by first | assumption | exact s1 (by assumption) (by assumption) (by assumption) (by assumption) | exact s2 (by assumption) (by assumption) (by assumption) (by assumption)⟩,?_⟩))
  refine fin ?_;rw [Kw (of_decide_eq_true h),e1,nH];rfl
 ·have h':=of_decide_eq_false h;walk_at "w";refine yt (fun h2=>?_) fun h2=>?_
  ·repeat (first | walk_at "dl" | (refine⟨⟨rfl,by first | assumption | exact s1 (by assumption) (by assumption) (by assumption) (by assumption) | exact s2 (by assumption) (by assumption) (by assumption) (by assumption)⟩,?_⟩))
   refine fin ?_;rw [Kv h',Kw (of_decide_eq_true h2),e1,nH];rfl
  ·have h2':=of_decide_eq_false h2;walk_at "w";refine zr (o,a,b,p) ?_;walk_at "w";rintro _ rfl;have ts:=lO na nb np;have q1:=bnd (B:=4398046511104) (x:=b.1 - a.1) (y:=b.1 - a.1) (by omega) (by omega) (by omega) (by omega);have q2:=bnd (B:=4398046511104) (x:=b.2 - a.2) (y:=b.2 - a.2) (by omega) (by omega) (by omega) (by omega);refine⟨_,rfl,yE ⟨_,rfl,⟨rfl,by dsimp only;exact xD (n:=100) (by show -(1267650600228229401496703205376:Int)<_;exact ts.1) (by show _<(1267650600228229401496703205376:Int);exact ts.2) (by decide)⟩,_,rfl,?_⟩⟩;have cm:CMulH (m ^ IT 2) (sqF a b):=by
    refine⟨?_,?_⟩
    ·rw [nH,Im];have h3:(10:Nat) ^ 60<2 ^ 1000:=by decide +kernel
     exact vo (m:=2000) (Nat.lt_of_lt_of_eq (Nat.mul_lt_mul'' hm hm) (by rw [<-Nat.pow_add])) (by decide)
    ·refine hu (xD (n:=100) ?_ ?_ (by decide))
     ·show -(1267650600228229401496703205376:Int)<_;rw [<-eS];omega
     ·show _<(1267650600228229401496703205376:Int);rw [<-eS];omega
   refine yP (yP (zq rfl ⟨_,rfl,yE ⟨_,rfl,⟨rfl,hm⟩,_,rfl,zq rfl ⟨_,rfl,cm,_,rfl,?_⟩⟩⟩));refine fin ?_;rw [Kv h',Kv h2',nH,nH]
abbrev rF (K:EI):Sp:=spD K 4 (fun (c:Pt×List Pt×Nat×Nat×Int) xs=>xs=[.dat (.list (c.2.1.map pD)),.dat (.int c.2.2.1),.dat (.int c.2.2.2.1),.dat (.int c.2.2.2.2)]/\(∀ p∈c.2.1,Near c.1 p)/\c.2.2.1<c.2.2.2.1/\c.2.2.2.1<c.2.1.length/\c.2.1.length<=98/\0<=c.2.2.2.2/\c.2.2.2.2<=10 ^ 60) fun c r=>r=.bool (jC c.2.1 c.2.2.2.2 c.2.2.1 c.2.2.2.1)
theorem BW {ps:List Pt} {i:Nat} (hi:i<ps.length):atI (ps.map pD) (i:Int)=some (pD (atP ps i)):=by
 unfold atI ixN;rw [Kw (by omega),Kw (by rw [EF];omega)];show (ps.map pD)[_]?=_;rw [EO,FG,ED hi];unfold atP;rw [EE,ED hi];rfl
theorem rG {o:Pt} {ps:List Pt} {i:Nat} (h:∀ p∈ps,Near o p) (hi:i<ps.length):Near o (atP ps i):=by
 unfold atP;rw [EE,ED hi];exact h _ (Ff hi)
theorem Bp {ps:List Pt} {i j:Nat} (h1:i+1<=j) (h2:j<=ps.length):L2.cutD (ps.map pD) (some ((i:Int)+1)) (some (j:Int))=((ps.take j).drop (i+1)).map pD:=by
 have e:((i:Int)+1)=((i+1:Nat):Int):=by omega
 rw [e];unfold L2.cutD;have s1:HT.sIx (ps.map pD).length 0 (some ((i+1:Nat):Int))=i+1:=by rw [HT.sIx_nat,EF,HX (by omega)]
 have s2:HT.sIx (ps.map pD).length (ps.map pD).length (some (j:Int))=j:=by rw [HT.sIx_nat,EF,HX (by omega)]
 rw [s1,s2,Jo,Kd,List.drop_take]
theorem xE (F:Def K mg "spans" dt pV) (ubt:FnIn P w K mg base k "lies_near" pR (xC K)):FnIn P w K mg base (k+1) "spans" pV (rF K):=by
 refine F.ok kS rfl fun fa cdv A outer s H E hr=>⟨_,(zc (jq Fv rfl (yh (K:=K) rfl (iZ (kq (K:=K) rfl) (pv 0) (gI (zk zX (pv 1) zd)) (gI (pv 2)))) (zg (i:=4) kS.nd rfl (Or.inl rfl) (Or.inr rfl)) (zh (yC (dG (ym (K:=K) rfl (zf ubt hr rfl (za (pv 4) (za (zE (zH (K:=K) rfl) (pv 0) (pv 1) (fun _ _=>rfl)) (za (zE (zH (K:=K) rfl) (pv 0) (pv 2) (fun _ _=>rfl)) (za (pv 3) zb))))) (fun _=>rfl))) (zh (zu vR)) zV))) (zh (zu vR))),?_⟩;rintro f xs ⟨o,ps,i,j,m⟩ hl ⟨rfl,hn,hij,hj,h60,m0,m1⟩
 try dsimp only [ye,zj]
 dsimp only at *;have ec:L2.cutD (ps.map pD) (some ((i:Int)+1)) (some (j:Int))=((ps.take j).drop (i+1)).map pD:=Bp (by omega) (by omega);refine yg (fK (yQ (BD (zq rfl ⟨_,rfl,uF (vW (zq rfl ⟨_,rfl,yE ⟨_,rfl,_,rfl,uF (zq rfl ⟨_,rfl,?_⟩)⟩⟩))⟩))));rw [ec];refine⟨_,rfl,fun n ρ=>∃ x,ρ=[some (.dat (.list (ps.map pD))),some (.dat (.int i)),some (.dat (.int j)),some (.dat (.int m)),x]/\(((ps.take j).drop (i+1)).take n).all (fun p=>nearF m p (atP ps i) (atP ps j))=true,⟨_,rfl,rfl⟩,?_,?_⟩
 ·rintro n d _ hd ⟨x,rfl,ha⟩;rw [EO] at hd;cases eq:((ps.take j).drop (i+1))[n]? with
  | none=>rw [eq] at hd;cases hd
  | some p =>
   rw [eq] at hd;cases hd;have hp:p∈ps:=List.mem_of_mem_take (J2 (EK eq));refine zp (aX (nU (jN (zr (o,p,atP ps i,atP ps j,m) (zv (zq rfl (zv (bw (zq rfl ⟨_,rfl,zq rfl ⟨_,rfl,_,BW (by omega),zv (bw (zq rfl ⟨_,rfl,zq rfl ⟨_,rfl,_,BW hj,zv (zq rfl (yd ⟨rfl,⟨rfl,hn p hp,rG hn (by omega),rG hn hj,m0,m1⟩,?_⟩))⟩⟩))⟩⟩)))))))));rintro _ rfl;refine⟨_,rfl,?_⟩;dsimp only;cases en:nearF m p (atP ps i) (atP ps j) with
   | true =>
    rw [FX,Kv EG];refine jO ⟨_,rfl,?_⟩;rw [FN,eq,List.all_append,ha];show (true && (nearF m p (atP ps i) (atP ps j) && true))=true;rw [en];rfl
   | false =>
    rw [Ht,Kw rfl];refine yI (uv ?_);have:jC ps m i j=false:=by
     unfold jC;rw [List.all_eq_false];exact⟨p,EK eq,by rw [en];decide⟩
    rw [this]
 ·rintro _ ⟨x,rfl,ha⟩;rw [EF,Fq] at ha;refine yI (uv ?_);show PyData.bool true=.bool (jC ps m i j);unfold jC;rw [ha]
noncomputable def jE (la:List Int):List PyData:=.none :: la.map .int
theorem Bq {la:List Int} {a:Nat} (h:a<la.length):atI (jE la) ((a+1:Nat):Int)=some (.int (la.getD a 0)):=by
 unfold atI ixN jE;rw [Kw (by omega),Kw (by rw [E1,EF];omega)];show (PyData.none :: la.map .int)[_]?=_;rw [FG,Ic,EO,EE,ED h];rfl
theorem bF (la:List Int):atI (jE la) ((0:Nat):Int)=some .none:=by
 unfold atI ixN jE;rw [Kw (by omega),Kw (by rw [E1];omega)];rfl
noncomputable def lZ (la:List Int):Nat->Nat->List Nat
 | 0,_=>[]
 | _+1,0=>[0]
 | n+1,a+1=>(a+1) :: lZ la n (la.getD a 0).toNat
theorem l0 (la:List Int):∀ n a,(lZ la n a).reverse=lX la n a
 | 0,_=>rfl
 | _+1,0=>rfl
 | n+1,a+1=>by
  show ((a+1) :: lZ la n (la.getD a 0).toNat).reverse=_;rw [FL,l0 la n];rfl
noncomputable def En (ρ:zw):Nat:=match (ρ[2]?:Option (Option DV)) with | some (some (.dat (.int a)))=>a.toNat+1 | _=>0
abbrev BX (K:EI):Sp:=spD K 1 (fun (c:List Int) xs=>xs=[.dat (.list (jE c))]/\c.length<=98/\∀ i,i<c.length->∃ b:Nat,c[i]?=some (b:Int)/\b<=i) fun c r=>r=.list ((lX c (c.length+1) c.length).map fun (i:Nat)=>.int i)
theorem DB (F:Def K mg "way_to_the_end" y3 pW) (uaa:mg "len"=none):FnIn P w K mg base (k+1) "way_to_the_end" pW (BX K):=by
 refine F.ok yS rfl fun fa cdv A outer s H E hr=>⟨_,(zc (zO (i:=1) yS.nd rfl (Or.inl rfl) (yw zb)) (zc (zO (i:=2) yS.nd rfl (Or.inl rfl) (zk z9 (zF (z8 (K:=K) rfl) rfl uaa Fw (za (pv 0) zb)) zd)) (zc (dI Fv (zZ gH (pv 2) aQ (zQ _)) (zc (jf (dP F8 FZ F4 jG (pv 1) (za (pv 2) zb))) (zh (zO (i:=2) yS.nd rfl (Or.inl rfl) (zE (zH (K:=K) rfl) (pv 0) (pv 2) (fun _ _=>rfl)))))) (zh (zu (Ab (K:=K) rfl (pv 1) (ue l9 zd))))))),?_⟩;rintro f xs la hl ⟨rfl,h60,hb⟩
 try dsimp only [ye,zj]
 refine eF (w:=w) (fW (av (nV ⟨show 1<3 by decide,fun D=>?_⟩)));show PSm w K f [D] _ [some (.dat (.list (jE la))),some (.own (f.M.length+0)),none] [OC.lst []] _;refine jP (kQ (bJ (vW (cM (zv (zq rfl (yd (.inl ⟨_,rfl,_,rfl,yE ⟨_,rfl,?_⟩⟩))))))));have e0:(((jE la).length:Nat):Int) - 1=((la.length:Nat):Int):=by unfold jE;rw [E1,EF];omega
 rw [e0];refine jP (oF (fun ρ cs=>(∃ (a n:Nat) (pre:List Nat),a<n/\a+pre.length<=la.length/\ρ=[some (.dat (.list (jE la))),some (.own (f.M.length+0)),some (.dat (.int a))]/\cs=[.lst (pre.map fun (i:Nat)=>.int i)]/\pre++lZ la n a=lZ la (la.length+1) la.length) \/
   (ρ=[some (.dat (.list (jE la))),some (.own (f.M.length+0)),some (.dat .none)]/\cs=[.lst ((lZ la (la.length+1) la.length).map fun (i:Nat)=>.int i)]))
  (fun ρ _=>En ρ) (.inl ⟨la.length,la.length+1,[],by omega,by simp,rfl,rfl,rfl⟩) ?_)
 rintro _ _ (⟨a,n,pre,han,hpl,rfl,rfl,ew⟩ | ⟨rfl,rfl⟩)
 ·refine CQ (yV (oM (zq rfl (.inr ⟨_,rfl,_,rfl,?_⟩))));rw [Kw rfl];obtain⟨n,rfl⟩:∃ n',n=n'+1:=⟨n - 1,by omega⟩;refine jP (fV (j:=0) rfl rfl (by rw [EF];omega) (bJ (zq rfl ?_)));cases a with
  | zero =>
   refine kQ (bJ (bw (zq rfl ⟨_,rfl,zq rfl ⟨_,rfl,.none,bF la,.inr ⟨rfl,?_⟩,by show 0<_;exact HB _⟩⟩)));rw [<-ew];show [OC.lst (pre.map (fun (i:Nat)=>PyData.int i)++[.int ((0:Nat):Int)])]=_;rw [E9];rfl
  | succ a =>
   obtain⟨b,eb,hba⟩:=hb a (by omega);have eg:la.getD a 0=(b:Int):=by rw [EE,eb];rfl
   refine kQ (bJ (bw (zq rfl ⟨_,rfl,zq rfl ⟨_,rfl,_,Bq (by omega),.inl ⟨b,n,pre++[a+1],by omega,by rw [EY];show b+(pre.length+1)<=_;omega,?_,?_,?_⟩,?_⟩⟩)))
   ·rw [eg];rfl
   ·show [OC.lst (pre.map (fun (i:Nat)=>PyData.int i)++[.int ((a+1:Nat):Int)])]=_;rw [E9];rfl
   ·rw [<-ew];show _=pre++((a+1) :: lZ la n (la.getD a 0).toNat);rw [eg,Gf];rfl
   ·rw [eg];show ((b:Int)).toNat+1<((a+1:Nat):Int).toNat+1;omega
 ·refine CQ (yV (oM (zq rfl (.inl ⟨rfl,_,rfl,?_⟩))));rw [Kv EG];refine eH ?_;generalize hfu:(lZ la (la.length+1) la.length).map (fun (i:Nat)=>PyData.int i)=fu;have ee:HU (freed f.M.length [OC.lst fu]) [some (.dat (.list (jE la))),some (.own (f.M.length+0)),some (.dat .none)]=[some (.dat (.list (jE la))),some (.dat (.list fu)),some (.dat .none)]:=by simp [freed]
  rw [ee];refine yI (PEdL.ped (DP (zq rfl ⟨_,rfl,uK (yE ⟨1,rfl,rfl,?_⟩)⟩)));rw [<-hfu,<- List.map_reverse,l0]
noncomputable def iD (i:Nat):PyData:=.int i
abbrev rH (K:EI):Sp:=spD K 2 (fun (c:Pt×List Pt×Int) xs=>xs=[.dat (.list (c.2.1.map pD)),.dat (.int c.2.2)]/\(∀ p∈c.2.1,Near c.1 p)/\0<c.2.1.length/\c.2.1.length<=98/\0<=c.2.2/\c.2.2<=10 ^ 60) fun c r=>r=.tuple [.int (tX c.2.1 c.2.2),.list ((ak c.2.1 c.2.2).map iD)]
theorem xF (F:Def K mg "least_kept" j7 pS) (kl_least:oN K "least_kept"=true) (uaa:mg "len"=none) (uab:mg "range"=none) (uad:mg "min"=none) (ubu:FnIn P w K mg base (k+1) "spans" pV (rF K)) (ubv:FnIn P w K mg base (k+1) "way_to_the_end" pW (BX K)):FnIn P w K mg base (k+2) "least_kept" pS (rH K):=by
 refine F.okL yN rfl kl_least fun fa cL Pt A outer s H E l1 l2 hr=>⟨_,(zc (zO (i:=2) yN.nd rfl (Or.inr rfl) (yw (za zd zb))) (zc (zO (i:=3) yN.nd rfl (Or.inl rfl) (yw (za aQ zb))) (zc (jq Fv rfl (rO rfl uab (za zd (za (zF (z8 (K:=K) rfl) rfl uaa Fw (za (pv 0) zb)) zb))) (zg (i:=4) yN.nd rfl (Or.inr rfl) (Or.inl rfl)) (zc (cK (i:=5) (N:=["start","points","bound","at"]) (own:=1) (fr:=[0,1,4]) (by walk_at "c") rfl yN.nd rfl (Or.inl rfl) (jF rfl uab (za (pv 4) zb)) (fun _ _ _ _=>(zg (i:=0) (show (["start","points","bound","at"]:List Str).Nodup by decide +kernel) rfl (Or.inl rfl) (Or.inr rfl))) (fun _ _ _ _=>(bt (ym (K:=K) rfl (zf ubu hr rfl (za (pv 1) (za (pv 0) (za (pv 3) (za (pv 2) zb))))) (fun _=>rfl)))) (fun _ _ _ _=>(pv 0)) rfl rfl (fun _=>rfl) (Or.inl rfl) rfl) (zc (zO (i:=6) yN.nd rfl (Or.inl rfl) (sQ (q:="least_kept") (c:=cL) (P:=Pt) (jy:=2) (K:=K) rfl hr rfl uad (za (pv 5) zb) (by decide +kernel) rfl l1 l2 rfl (of_decide_eq_true (by kernel_rfl)) rfl (fun _ _ _ _ _=>rfl) rfl rfl (of_decide_eq_true (by kernel_rfl)) rfl rfl rfl rfl rfl)) (zc (jf (dP F8 FZ F4 jG (pv 2) (za (zk zX (zE (zH (K:=K) rfl) (pv 2) (pv 6) (fun _ _=>rfl)) zd) zb))) (zh (jf (dP F8 FZ F4 jG (pv 3) (za (pv 6) zb)))))))) (zh (zu (zN (za (zE (zH (K:=K) rfl) (pv 2) (ue l9 zd) (fun _ _=>rfl)) (za (zf ubv hr rfl (za (pv 3) zb)) zb)))))))),?_⟩;rintro f xs ⟨o,ps,m⟩ hl ⟨rfl,hn,h0,h60,m0,m1⟩
 try dsimp only [ye,zj]
 dsimp only at *;refine eF (w:=w) (fW (av (d7 (zv (yE (yd ⟨[.int 1],rfl,GC rfl,show 2<7 by decide,fun D1=>?_⟩))))));refine fW (av (d7 (zv (By (yd ⟨[.none],rfl,GC rfl,show 3<7 by decide,fun D2=>?_⟩)))));show PSm w K f [D1,D2] _ [some (.dat (.list (ps.map pD))),some (.dat (.int m)),some (.own (f.M.length+0)),some (.own (f.M.length+1)),none,none,none] [OC.lst [.int 1],OC.lst [.none]] _;refine jP (kN (uz (zv (yE (zv (cM (zv (zq rfl (yd (.inl ⟨_,rfl,yd ⟨1,_,rfl,?_,?_⟩⟩))))))))))
 ·rw [EF];omega
 rw [EF];have rl:(vm 1 (ps.length:Int)).length=ps.length - 1:=by unfold vm;simp
 refine⟨fun n ρ cs=>∃ x4 x5 x6,ρ=[some (.dat (.list (ps.map pD))),some (.dat (.int m)),some (.own (f.M.length+0)),some (.own (f.M.length+1)),x4,x5,x6]/\cs=[OC.lst ((dpF ps m n).1.map .int),OC.lst (jE (dpF ps m n).2)],⟨_,_,_,rfl,rfl⟩,?_,?_⟩
 ·rintro n d _ _ hd ⟨x4,x5,x6,rfl,rfl⟩;have D:=lW ps m n;obtain⟨hn1,rfl⟩:n+1<ps.length/\d=.int ((n+1:Nat):Int):=by
   have hl:=(EH.mp hd).1;rw [rl] at hl;refine⟨by omega,?_⟩;unfold vm at hd;rw [EO,Gd (by omega)] at hd;cases hd;exact congrArg PyData.int (by omega)
  refine zp (jP (kQ (bJ (PEdO.ped (wm (A:=iD) (B:=iD) (fun i=>jC ps m i (n+1)) (E7 (n+1)) (bA (zv (zq rfl (yd ⟨_,rfl,by omega,by omega,?_,by rw [FH];omega,?_,?_⟩)))))))))
  ·unfold vk;rw [FG];rfl
  ·rintro Dl i ρ' es hi ho hes;obtain⟨u,rfl⟩:=ho.one;have hi':=Fe.mp hi;refine zp (jN (zr (o,ps,i,n+1,m) (zv (zq rfl (zv (zq rfl (zv (zq rfl (zv (zq rfl (yd ⟨rfl,⟨rfl,hn,hi',hn1,h60,m0,m1⟩,?_⟩)))))))))));rintro _ rfl;refine⟨_,rfl,rfl,?_⟩;refine yt (fun h=>jv hes (zq rfl ⟨.mk1,rfl⟩)) fun h=>.mk1
  have eu:((E7 (n+1)).filter fun i=>jC ps m i (n+1)).map iD=(usF ps m (n+1)).map .int:=by
   unfold usF;rw [GG];rfl
  rw [eu];refine jP (kQ (AI (j:=0) (ks:=(dpF ps m n).1) rfl rfl (Ez (zv (zq rfl (yd ⟨usF ps m (n+1),rfl,BV ps m n,fun b hb=>?_,fun M hM=>?_⟩))))))
  ·obtain⟨i,rfl,hi,_⟩:=ff.mp hb;rw [D.fl];omega
  have eM:=Bn hM;obtain⟨b,eb,hbn,_⟩:=ff.mp (gC hM).1;subst eb;have gb:atI ((dpF ps m n).1.map PyData.int) ((b:Nat):Int)=some (.int ((dpF ps m n).1.getD b 0)):=by
   unfold atI ixN;have hl:=D.fl;rw [Kw (by omega),Kw (by rw [EF];omega)];show ((dpF ps m n).1.map PyData.int)[_]?=_;rw [EO,FG,EE,ED (by omega)];rfl
  refine jP (fV (j:=0) rfl rfl (by rw [EF,D.fl];omega) (C8 (Ea (j:=0) rfl rfl (bJ (zq rfl ⟨_,rfl,_,gb,_,rfl,bJ (yE ⟨_,rfl,?_⟩)⟩)))));refine fV (j:=1) rfl rfl (by show (jE (dpF ps m n).2).length<1000;unfold jE;rw [E1,EF,D.ll];omega) (bJ (zq rfl ⟨_,_,_,rfl,?_⟩));have e1:(dpF ps m (n+1)).1=(dpF ps m n).1++[(dpF ps m n).1.getD b 0+1]:=by
   show (dpF ps m n).1++[_]=_;rw [eM,FG]
  have e2:(dpF ps m (n+1)).2=(dpF ps m n).2++[((b:Nat):Int)]:=by
   show (dpF ps m n).2++[_]=_;rw [eM]
  rw [e1,e2,E9];show [OC.lst ((dpF ps m n).1.map PyData.int++[.int ((dpF ps m n).1.getD b 0+1)]),OC.lst (jE (dpF ps m n).2++[.int (b:Int)])]=_;unfold jE;rw [E9];rfl
 ·rintro _ _ ⟨x4,x5,x6,rfl,rfl⟩;rw [rl];have D:=lW ps m (ps.length - 1);refine eH ?_;generalize hA:(dpF ps m (ps.length - 1)).1.map PyData.int=fA;generalize hB:jE (dpF ps m (ps.length - 1)).2=lB;have ee:∃ y4 y5 y6,HU (freed f.M.length [OC.lst fA,OC.lst lB]) [some (.dat (.list (ps.map pD))),some (.dat (.int m)),some (.own (f.M.length+0)),some (.own (f.M.length+1)),x4,x5,x6]=[some (.dat (.list (ps.map pD))),some (.dat (.int m)),some (.dat (.list fA)),some (.dat (.list lB)),y4,y5,y6]:=⟨_,_,_,by simp [freed];exact⟨rfl,rfl,rfl⟩⟩;obtain⟨y4,y5,y6,ee⟩:=ee;rw [ee];subst hA hB;have g1:atI ((dpF ps m (ps.length - 1)).1.map PyData.int) (-1)=some (.int (tX ps m)):=by
   have hl:=D.fl;unfold atI ixN tX;rw [Kv (by decide),Kw (by rw [EF];omega),EF];show ((dpF ps m (ps.length - 1)).1.map PyData.int)[_]?=_;have e:((-1:Int)+(((dpF ps m (ps.length - 1)).1.length:Nat):Int)).toNat=ps.length - 1:=by omega
   rw [e,EO,EE,ED (by omega)];rfl
  refine yI (vP (zv (bw (zq rfl ⟨_,rfl,uK (yE ⟨1,rfl,_,rfl,_,g1,zv (zr (dpF ps m (ps.length - 1)).2 (zv (zq rfl (yd ⟨rfl,⟨rfl,by rw [D.ll];omega,fun i hi=>?_⟩,?_⟩))))⟩)⟩))))
  ·rw [D.ll] at hi;obtain⟨b,h1,h2,_⟩:=D.last i hi;exact⟨b,h1,by have:=h2.1;omega⟩
  rintro _ rfl;refine yd ⟨_,rfl,GC rfl,?_⟩;rw [D.ll,show ps.length - 1+1=ps.length by omega];rfl
section
variable {Kt:List (List Int)} {wd s:Nat} {cuts:List Int}
theorem nI (L:Lcm (qt Kt wd) s) (nd:cuts.Nodup) (la:∀ cut∈cuts,ji Kt wd cut (linesOf Kt wd cut)) {a b:Sg} (ha:a∈yu (jW Kt wd s cuts)) (hb:b∈yu (jW Kt wd s cuts)) (h:a.k≠b.k):zA a.p a.q b.p b.q=false:=by
 have go:∀ {a b:Sg},a∈yu (jW Kt wd s cuts)->b∈yu (jW Kt wd s cuts)->a.k<b.k->zA a.p a.q b.p b.q=false:=fun {a b} ha hb h=>by
  obtain⟨c,g,n,A⟩:=fc la ha;obtain⟨c',g',n',B⟩:=fc la hb;rw [A.p,A.q,B.p,B.q];refine rC L (A.L.op _ (EK A.gi)) A.nx (B.L.op _ (EK B.gi)) B.nx fun ec=>?_;have ap:=Gb.mp (lV (Kt:=Kt) (wd:=wd) nd la);obtain⟨k1,r1⟩:=EH.mp A.at_;obtain⟨k2,r2⟩:=EH.mp B.at_;have d:=ap a.k b.k k1 k2 h;rw [r1,r2] at d;have d:=d ec;have m1:=EK A.gi;have m2:=EK A.nj;have m3:=EK B.gi;have m4:=EK B.nj;exact⟨d _ m1 _ m3,d _ m1 _ m4,d _ m2 _ m3,d _ m2 _ m4⟩
 rcases Nat.lt_or_gt_of_ne h with h | h
 ·exact go ha hb h
 ·rw [aj];exact go hb ha h
end
theorem l3 {f:Sg->Sg->Bool}:∀ {S:List Sg},look f S=none->(∀ s∈S,f s s=false)/\S.Pairwise (fun s t=>f s t=false)
 | [],_=>⟨(fun _ h=>by cases h),.nil⟩
 | s :: S,h=>by
  have h:(match (s :: S).find? (f s) with | some t=>some (s,t) | none=>look f S)=none:=h;cases e:(s :: S).find? (f s) with
  | some t=>rw [e] at h;cases h
  | none =>
   rw [e] at h;have h:look f S=none:=h;obtain⟨h1,h2⟩:=l3 h;have e':=HY.mp e;have z:∀ t∈s :: S,f s t=false:=fun t ht=>by simpa using e' t ht
   refine⟨fun t ht=>?_,Gp.mpr ⟨fun t ht=>z t (EM _ ht),h2⟩⟩;rcases EW.mp ht with rfl | ht
   ·exact z _ ET
   ·exact h1 t ht
theorem gD {f:Sg->Sg->Bool}:∀ {A R:List Sg},(∀ a∈A,f a a=false)->A.Pairwise (fun s t=>f s t=false)->(∀ a∈A,∀ r∈R,f a r=false)->look f (A++R)=look f R
 | [],_,_,_,_=>rfl
 | a :: A,R,h1,h2,h3=>by
  rw [Gp] at h2;show look f (a :: (A++R))=look f R;rw [cG fun u hu=>?_]
  ·exact gD (fun b hb=>h1 b (EM _ hb)) h2.2 fun b hb=>h3 b (EM _ hb)
  ·rcases EW.mp hu with rfl | hu
   ·exact h1 _ ET
   ·rcases Fj.mp hu with hu | hu
    ·exact h2.1 u hu
    ·exact h3 a ET u hu
theorem xG (p q:Pt):zA p q p q=true:=by
 have z1:zx p q p=0:=by unfold zx;grind
 have z2:zx p q q=0:=by unfold zx;grind
 have ap:∀ a b:Int,yL a b a b=false:=fun a b=>by
  unfold yL;rw [Ky (by unfold mx mn;split <;> split <;> omega:¬ mx a b<mn a b)];rfl
 unfold zA;rw [z1,z2,ap,ap];rfl
theorem nJ {w:Web} {j:Nat} (hj:j<w.length) (m1:1<=qE (yr w j)) (cl:aP w=none) (far:∀ a∈yu w,∀ b∈yu w,a.k≠b.k->zA a.p a.q b.p b.q=false) :
  lN (aP (w++[yr w j]))=.tuple [.int j,.int (0:Nat),.int w.length,.int (0:Nat)]:=by
 have e1:yu (w++[yr w j])=yu w++yb w.length (yr w j):=by
  unfold yu;rw [List.mapIdx_append,Ka];simp
 have lnOld:∀ k,k<w.length->yr (w++[yr w j]) k=yr w k:=fun k hk=>by
  unfold yr;rw [EE,ER hk,<- EE]
 have same:∀ a∈yu w,∀ b∈yu w,yo (w++[yr w j]) a b=yo w a b:=fun a _ b hb=>by
  unfold yo df yU;rw [lnOld _ (e7 hb).k]
 have self:∀ a:Sg,yo (w++[yr w j]) a a=yo w a a:=fun a=>by unfold yo;rw [Kw ⟨rfl,rfl⟩,Kw ⟨rfl,rfl⟩]
 obtain⟨c1,c2⟩:=l3 cl;obtain⟨s0,hs0⟩:∃ s0:Sg,s0=⟨j,0,atP (yr w j).2 0,atP (yr w j).2 ((0+1) % (yr w j).2.length)⟩:=⟨_,rfl⟩;have wj:yr w j=w[j]:=by
  unfold yr;rw [EE,ED hj];rfl
 have mem_j:∀ i,i<qE (yr w j)->(⟨j,i,atP (yr w j).2 i,atP (yr w j).2 ((i+1) % (yr w j).2.length)⟩:Sg)∈yu w:=fun i hi=>by
  unfold yu;rw [List.mem_flatten];refine⟨yb j w[j],?_,?_⟩
  ·rw [List.mem_mapIdx];exact⟨j,hj,rfl⟩
  ·rw [<-wj];unfold yb;exact E6.mpr ⟨i,Fe.mpr hi,rfl⟩
 have m0:s0∈yu w:=hs0▸mem_j 0 (by omega);obtain⟨A,B,eAB⟩:=List.append_of_mem m0;have up:=(iN (w:=w) _ (EN _)).1;rw [bf,eAB,Hu] at up;have t0:∃ C,yb w.length (yr w j)=⟨w.length,0,s0.p,s0.q⟩ :: C:=by
  unfold yb;obtain⟨n,hn⟩:∃ n,qE (yr w j)=n+1:=⟨qE (yr w j) - 1,by omega⟩;rw [hn,List.range_succ_eq_map,Fg,hs0];exact⟨_,rfl⟩
 obtain⟨C,eC⟩:=t0;unfold aP;rw [e1,eAB,eC,Gf];have inA:∀ a∈A,a∈yu w:=fun a ha=>by rw [eAB];exact FE _ ha
 have inB:∀ b∈s0 :: B,b∈yu w:=fun b hb=>by rw [eAB];exact E8 _ hb
 rw [eAB,Hu] at c2;have c1':∀ a∈yu w,yo (w++[yr w j]) a a=false:=fun a ha=>by rw [self];exact c1 a ha
 rw [gD (A:=A) (fun a ha=>c1' a (inA a ha)) (Jr (fun {a b} ha hb h=>by rw [same a (inA a ha) b (inA b hb)];exact h) c2.1) fun a ha r hr=>?_]
 ·have hit:yo (w++[yr w j]) s0 ⟨w.length,0,s0.p,s0.q⟩=true:=by
   have k0:s0.k=j:=by rw [hs0]
   unfold yo df yU;have ne:¬ s0.k=w.length:=by omega
   rw [Kv (fun z=>ne z.1),Kv (fun z=>ne z.1)];dsimp only;rw [Ky (fun z:s0.k=w.length/\s0.i=0=>ne z.1),Gu,Gv,Kv EG];exact xG _ _
  have lk:=lR (f:=yo (w++[yr w j])) (s:=s0) (t:=⟨w.length,0,s0.p,s0.q⟩) (r:=B++⟨w.length,0,s0.p,s0.q⟩ :: C) (m:=B.length+1) (by
   rw [Ic,EX (EN _),Gn]
   rfl) (fun u hu=>by
   rw [List.take_succ_cons,IF (EN _),Fq] at hu;rcases EW.mp hu with rfl | hb
   ·exact c1' _ m0
   ·rw [same _ m0 _ (inB _ (EM _ hb))];exact (Gp.mp c2.2.1).1 u hb) hit
  show lN (look (yo (w++[yr w j])) (s0 :: (B++⟨w.length,0,s0.p,s0.q⟩ :: C)))=_;rw [lk,hs0];rfl
 ·have ia:=inA a ha;rcases Fj.mp hr with hr | hr
  ·rw [same a ia r (inB r hr)];exact c2.2.2 a ha r hr
  ·-- the other's segments lie where the line's own lie
   have hr':r∈yb w.length (yr w j):=by rw [eC];exact hr
   unfold yb at hr';obtain⟨i,hi,rfl⟩:=E6.mp hr';have hi:=Fe.mp hi;have b0:=mem_j i hi;have ka:a.k≠j:=fun z=>by
    have u:=up.2.2 a ha s0 ET;rw [hs0] at u;dsimp only at u;omega
   have kw:=(e7 ia).k;have ne:¬ a.k=w.length:=by omega
   unfold yo df yU;rw [Kv (fun z=>ne z.1),Kv (fun z=>ne z.1)];dsimp only;rw [Ky (fun z:a.k=w.length/\a.i=0=>ne z.1),Gu,Gv,Kv EG];have t:=far a ia _ b0 ka;dsimp only at t ⊢;exact t
theorem EC (u v x y:Int):(u * y - v * x) * (u * y - v * x)+(x * u+y * v) * (x * u+y * v)=(u * u+v * v) * (x * x+y * y):=by grind
theorem xH {s:Int} {p a b:Pt} (hp:0<=p.1/\p.1<=7 * s/\0<=p.2/\p.2<=7 * s) (ha:0<=a.1/\a.1<=7 * s/\0<=a.2/\a.2<=7 * s) (hb:0<=b.1/\b.1<=7 * s/\0<=b.2/\b.2<=7 * s):nearF (10 * s) p a b=true:=by
 have sq:∀ u v:Pt,0<=u.1->u.1<=7 * s->0<=u.2->u.2<=7 * s->0<=v.1->v.1<=7 * s->0<=v.2->v.2<=7 * s->sqF u v<=10 * s * (10 * s):=fun u v a1 a2 a3 a4 b1 b2 b3 b4=>by
  have e1:=bnd (B:=7 * s) (x:=v.1 - u.1) (y:=v.1 - u.1) (by omega) (by omega) (by omega) (by omega);have e2:=bnd (B:=7 * s) (x:=v.2 - u.2) (y:=v.2 - u.2) (by omega) (by omega) (by omega) (by omega);have e3:7 * s * (7 * s)=49 * (s * s):=by grind
  have e4:10 * s * (10 * s)=100 * (s * s):=by grind
  have e5:=sq_nonneg s;unfold sqF;omega
 obtain⟨p1,p2,p3,p4⟩:=hp;obtain⟨a1,a2,a3,a4⟩:=ha;obtain⟨b1,b2,b3,b4⟩:=hb;have q1:=sq a p a1 a2 a3 a4 p1 p2 p3 p4;have q2:=sq b p b1 b2 b3 b4 p1 p2 p3 p4;unfold nearF;split
 ·exact Kx q1
 ·split
  ·exact Kx q2
  ·refine Kx ?_;have lag:zx a b p * zx a b p+alF p a b * alF p a b=sqF a b * sqF a p:=EC (b.1 - a.1) (b.2 - a.2) (p.1 - a.1) (p.2 - a.2);have n1:=sq_nonneg (alF p a b);have n2:sqF a b * sqF a p<=sqF a b * (10 * s * (10 * s)):=GH q1 (nE a b);rw [Iv (10 * s * (10 * s))];omega
theorem xI {ps:List Pt} {m:Int} (h:2<=ps.length) (near:∀ p∈ps,∀ a∈ps,∀ b∈ps,nearF m p a b=true):tX ps m=2/\ak ps m=[0,ps.length - 1]:=by
 have at_:∀ i,i<ps.length->atP ps i∈ps:=fun i hi=>iL hi;have sp:Ed ps m 0 (ps.length - 1):=⟨by omega,(tV (by omega)).mpr fun t _ h2=>near _ (at_ t (by omega)) _ (at_ 0 (by omega)) _ (at_ _ (by omega))⟩;obtain⟨rw',fe⟩:=lY ps m (by omega);have le:=(tY ps m (by omega)).2 2 (.snoc .one sp);obtain⟨f1,f2,f3,_⟩:=rw'.facts;have l2:(ak ps m).length=2:=by
  rcases (show (ak ps m).length=1 \/ (ak ps m).length=2 by omega) with e | e
  ·rw [e,Gn,f1] at f2;have:=Option.some.inj f2;omega
  ·exact e
 rw [fe,l2];refine⟨rfl,?_⟩;generalize ak ps m=r at *
 match r,l2 with
 | [x,y],_ =>
 have g1:x=0:=Option.some.inj f1;have g2:y=ps.length - 1:=Option.some.inj f2;rw [g1,g2]
theorem iP:∀ ps:List Pt,G2 (ps.map pD)=true/\EZ (ps.map pD)<=1
 | []=>⟨rfl,Ft _⟩
 | p :: ps=>⟨(iP ps).1,Nat.max_le.mpr ⟨EN 1,(iP ps).2⟩⟩
theorem rJ:∀ w:Web,G2 (w.map lnD)=true/\EZ (w.map lnD)<=3
 | []=>⟨rfl,Ft _⟩
 | l :: w=>by
  obtain⟨a,b⟩:=rJ w;obtain⟨c1,c2⟩:=iP l.2;refine⟨?_,Nat.max_le.mpr ⟨?_,b⟩⟩
  ·show (((PyData.str (eZ l.1)).canLay0 && (G2 (l.2.map pD) && true)) && G2 (w.map lnD))=true;rw [a,c1,e6];rfl
  ·show max 0 (max (EZ (l.2.map pD)+1) 0)+1<=3;omega
theorem Br {K:EI} {ρ:zw} {ns:List Int} {E2:XK} (h0:ρ[0]?=some (some (.dat (scr ns)))) (hl:ns.length<=63) :
  ∀ (σ:L2.St) (H:Hp) (Q:VK),EnvOk K L2.f0 ρ σ H->(∀ (p:EL) (x y:Int) (H':Hp),Same H H'->H p=none->H' p=some (.lst [.int x,.int y])->0<=x->0<=y->y<2147483647->Q (.ref p) H')->qY (nq K) [] E2 (z7 (yi 0) (z7 (tC (.int 0)) qv)) σ H Q:=by
 intro σ H Q e q;obtain⟨v0,hv0,r0⟩:=e.get 0 _ h0;obtain⟨a,rfl,hS⟩:=Bc r0;exact⟨_,hv0,a,ns,0,rfl,hS,hl,Kq _,by decide,q⟩
theorem DC {f:EL} {fd:FuncData} (F:Fun K "law" "law" cT f fd) (uaa:mg "len"=none) (uay:mg "list"=none)
  (ubw:FnIn P w K mg base k "_law_feed" qb (nq K)) (uac:FnIn P w K mg base k "_law_draw" pI (mX K)) (ubx:FnIn P w K mg base k "_law_table" qc (oP K)) (uby:FnIn P w K mg base k "_law_cuts" qd (xA K)) (ubz:FnIn P w K mg base k "web_of" pZ (BS K)) (ua6:FnIn P w K mg base k "meeting" pA (gy K)) (uaK:FnIn P w K mg base k "scale_of" ph (iI K)) (ubA:FnIn P w K mg base k "least_kept" pS (rH K)) :
  FnOk P w K mg base CX0 (k+1) f fd qe (rg K):=by
 refine F.ok vF (fun vs H Q E h=>?_) fun cdv A outer s H vs Q E hr hs=>⟨_,(zc (zO (i:=1) vF.nd rfl (Or.inl rfl) (zf ubw hr rfl (za (pv 0) (za zd zb)))) (zc (zO (i:=2) vF.nd rfl (Or.inl rfl) (zf ubx hr rfl (za (pv 1) zb))) (zc (zO (i:=3) vF.nd rfl (Or.inl rfl) (zf ubz hr rfl (za (pv 2) (za (zf uby hr rfl (za (pv 1) (za (pv 2) zb))) zb)))) (zc (zO (i:=4) vF.nd rfl (Or.inl rfl) (ar (dX (K:=K) rfl) rfl uay JH (za (pv 3) zb))) (zc (yC (PW.pt (t6 (zZ gH (zf ua6 hr rfl (za (pv 3) zb)) aQ (zQ _)) (l4 (zZ (vX (K:=K) rfl hr.units) (pv 3) (pv 4) (zQ _))))) (zh (zu vR)) zV) (zc (zO (i:=5) vF.nd rfl (Or.inl rfl) (zk aV zd (zf uaK hr rfl (za (pv 2) zb)))) (zc (jq Fv rfl (yh (K:=K) rfl (pv 4)) (zI (K:=K) (n:=2) rfl rfl (ze (zg (i:=6) vF.nd rfl (Or.inl rfl) (Or.inr rfl)) (ze (zg (i:=7) vF.nd rfl (Or.inl rfl) (Or.inr rfl)) zB))) (zh (yC (zZ (vX (K:=K) rfl hr.units) (zf ubA hr rfl (za (ar (dX (K:=K) rfl) rfl uay JH (za (pv 7) zb)) (za (pv 5) zb))) (zN (za zd (za (yw (za zd (za (zk z9 (zF (z8 (K:=K) rfl) rfl uaa Fw (za (pv 7) zb)) zd) zb))) zb))) (zQ _)) (zh (zu vR)) zV))) (zc (yC (zZ (vX (K:=K) rfl hr.units) (pv 4) (yw zb) (zQ _)) (zc (zO (i:=8) vF.nd rfl (Or.inl rfl) (zf uac hr rfl (za (pv 1) (za (zF (z8 (K:=K) rfl) rfl uaa Fw (za (pv 4) zb)) zb)))) (zh (yC (zZ (vX (K:=K) rfl hr.units) (zf ua6 hr rfl (za (zk (kA (K:=K) rfl) (pv 4) (yw (za (zE (zH (K:=K) rfl) (pv 4) (pv 8) (fun _ _=>rfl)) zb))) zb)) (zN (za (pv 8) (za zd (za (zF (z8 (K:=K) rfl) rfl uaa Fw (za (pv 4) zb)) (za zd zb))))) (zQ _)) (zh (zu vR)) zV))) zV) (zh (zu vR)))))))))),?_⟩
 ·obtain⟨a,ns,rfl,_⟩:=h;rfl
 obtain⟨a,ns,rfl,hS,h63,q⟩:=hs;have e0:EnvOk K L2.f0 (qU oO [.dat (scr ns)]) (start oO [.ref a]) H:=qZ (.cons (rf hS) .nil) (L2.fok0 H);suffices h:PSd K L2.f0 _ (qU oO [.dat (scr ns)]) { nx:=fun _=>False,rt:=fun d=>d=.bool true } from
  h _ H _ e0 (fun _ _ _ _ _ z=>z.elim) (fun d v H' _ r z=>by
   subst z;rw [zW.mp r];exact q H') (fun _ _ _ _ _ z=>z) (fun _ _ _ _ _ z=>z)
 refine CF (Br rfl h63) fun p=>?_;refine yg (yk (zr () ?_));walk_at "w";rintro _ ⟨wd,Kt,rfl,g,fl⟩;refine zp (yg (yk (PEdO.ped (AE (zv (zq rfl (zv (zr (Kt,wd) ?_))))))));walk_at "w";rintro _ ⟨cuts,rfl,few,nd⟩;refine yd ⟨(Kt,wd,cuts),rfl,⟨rfl,g,few⟩,?_⟩;rintro _ ⟨sc,L,rfl,la⟩;dsimp only at L la;rw [Dz];have s5:=tU g fl L;obtain⟨ok,okh,okt⟩:=DA g s5 L few la;have cl:=tT L nd la;have far:=fun a ha b hb=>nI (a:=a) (b:=b) L nd la ha hb;have inn:∀ l∈jW Kt wd sc cuts,∀ q∈l.2,0<=q.1/\q.1<=7 * sc/\0<=q.2/\q.2<=7 * sc:=fun l hl q hq=>by
  obtain⟨c,hc,rfl⟩:=E6.mp hl;obtain⟨m1,m2⟩:=nC hc;obtain⟨g',hg,rfl⟩:=E6.mp hq;exact xy g L (((la _ m1).1.line _ m2).op g' hg)
 have same:∀ sc':Nat,Lcm (qt Kt wd) sc'->sc'=sc:=fun sc' L'=>xg L' L fun _ _=>Iff.rfl;generalize jW Kt wd sc cuts=W at *;have wl:W.length<=200:=ok.len;obtain⟨lay,dep⟩:=rJ W;have dW:∀ x:PyData,min (PyData.list (W.map lnD)).depth x.depth<=60:=fun x=>Fm (Nat.min_le_left _ _) (Fm (Nat.succ_le_succ dep) (by decide));refine zp (yg (yk (kl (zv (zq rfl (yd (.inl ⟨_,rfl,zp ?_⟩)))))));refine yg (aX (Cn (yV (C1 (zr ((0,0),W) (eI rfl ⟨rfl,⟨rfl,ok⟩,?_⟩))))));rintro _ rfl;dsimp only;rw [cl];refine⟨true,rfl,false,rfl,?_⟩;rw [Kv EG];refine yV (aL (zq (i:=3) (d:=.list (W.map lnD)) rfl (zq (i:=4) (d:=.list (W.map lnD)) rfl ⟨lay,lay,dW _,false,?_,?_⟩)))
 ·rw [Kw rfl,Ik (.list (W.map lnD)) lay];rfl
 rw [Kv EG];refine jO (yg (yk (yP (yE ⟨_,rfl,zr (Kt,wd) (eI rfl ⟨rfl,⟨rfl,g⟩,?_⟩)⟩))));rintro _ ⟨sc',rfl,L'⟩;obtain rfl:=same sc' L';refine⟨_,rfl,Or.inl ⟨by decide,by omega⟩,zp ?_⟩;refine yg (fK (yQ (zq (i:=4) (d:=.list (W.map lnD)) rfl ⟨_,rfl,fun m ρ=>∃ y6 y7,ρ=[some (.dat (scr ns)),some .feed,some (.dat (tab Kt)),some (.dat (.list (W.map lnD))),some (.dat (.list (W.map lnD))),some (.dat (.int (10 * (sc':Int)))),y6,y7,none],⟨_,_,rfl⟩,?_,?_⟩)))
 ·rintro m d _ hm ⟨y6,y7,rfl⟩;rw [EO] at hm;cases em:W[m]? with
  | none=>rw [em] at hm;cases hm
  | some l =>
   rw [em] at hm;cases hm;have hl:=EK em;have two:=ok.two l hl;have few':=ok.few l hl;have nr:=ok.near l hl;obtain⟨k1,k2⟩:=xI (m:=10 * (sc':Int)) two fun p hp a ha b hb=>xH (inn l hl p hp) (inn l hl a ha) (inn l hl b hb);have big:(50400:Int)<=10 ^ 60:=by decide +kernel
   unfold lnD;refine Ec (aX (yV (aL (zr ((0,0),l.2,10 * (sc':Int)) (zv (kl (zv (zq rfl (yd (.inr ⟨_,rfl,zv (zq rfl (yd ⟨rfl,⟨rfl,nr,Fb Nat.zero_lt_two two,few',(show (0:Int)<=10 * (sc':Int) by omega),Kj (show 10 * (sc':Int)<=50400 by omega) big⟩,?_⟩))⟩))))))))));rintro _ rfl;dsimp only;rw [k1,k2];refine vP (zv (yE (zv (nT (zv (yE (zv (vW (cM (eI rfl (.inr ⟨_,rfl,_,rfl,yE ⟨_,rfl,yd ⟨_,rfl,by show 2<=1000;decide,yd ⟨_,rfl,by show 2<=1000;decide,?_⟩⟩⟩⟩)))))))))));rw [EF,show ((l.2.length:Nat):Int) - 1=((l.2.length - 1:Nat):Int) by omega];generalize l.2.length - 1=z;have e:Fi (.tuple [.int 2,.list ([0,z].map iD)]) (.tuple [.int 2,.list [.int 0,.int (z:Int)]])=true:=Ik (.tuple [.int 2,.list [.int 0,.int (z:Int)]]) rfl;refine⟨rfl,rfl,by show min 2 2<=60;decide,false,?_,?_⟩
   ·rw [Kw rfl,e];rfl
   rw [Kv EG];exact jO ⟨_,_,rfl⟩
 ·rintro _ ⟨y6,y7,rfl⟩;refine yg (aX (yV (aL (zq (i:=4) (d:=.list (W.map lnD)) rfl (nT (yd ⟨_,rfl,by show 0<=1000;decide,lay,rfl,dW _,!decide (W=[]),?_,?_⟩))))))
  ·rw [Kw rfl];cases W <;> rfl
  refine yt (fun h=>?_) fun h=>jO (yI (uv rfl));have ne:W≠[]:=fun z=>by rw [z] at h;cases h
  have pos:0<W.length:=HL.mpr ne;refine yg (yk (zr (W.length:Nat) (b8 rfl (zv (cM (eI (i:=4) rfl (.inl ⟨_,rfl,yd ⟨rfl,⟨by rw [EF],by omega,by omega⟩,?_⟩⟩)))))));rintro _ ⟨i,rfl,i0,i1⟩;obtain⟨j,rfl⟩:=GL i0;have hj:j<W.length:=by omega
  have wj:yr W j=W[j]:=by
   unfold yr;rw [EE,ED hj];rfl
  have mj:yr W j∈W:=lQ hj;have two:=ok.two _ mj;have mt:=nJ hj (by unfold qE;split <;> omega) cl far;have ok2:OkWeb (0,0) (W++[yr W j]):=⟨by rw [EY,FJ];omega,fun l hl=>by
   rcases Fj.mp hl with hl | hl
   ·exact ok.two l hl
   ·rw [Fc.mp hl];exact two,fun l hl=>by
   rcases Fj.mp hl with hl | hl
   ·exact ok.few l hl
   ·rw [Fc.mp hl];exact ok.few _ mj,by
   have h1:=ok.few _ mj;unfold vK at *;rw [E9,IP];simp
   omega,fun l hl=>by
   rcases Fj.mp hl with hl | hl
   ·exact ok.near l hl
   ·rw [Fc.mp hl];exact ok.near _ mj⟩
  refine zp (aX (yV (aL (zr ((0,0),W++[yr W j]) (zv (uN (zq (i:=4) (d:=.list (W.map lnD)) rfl ⟨_,rfl,nT (zv (bw (zq (i:=4) (d:=.list (W.map lnD)) rfl ⟨_,rfl,zq rfl ⟨_,rfl,_,xl rfl hj,yd ⟨_,rfl,by show 1<=1000;decide,?_⟩⟩⟩)))⟩)))))));refine⟨_,rfl,by rw [EF];show _+1<=_;omega,yd ⟨rfl,⟨?_,ok2⟩,?_⟩⟩
  ·unfold c9;rw [E9];rfl
  rintro _ rfl;dsimp only;rw [mt];refine vP (zv (zq rfl (zv (yE (zv (cM (eI (i:=4) rfl (.inl ⟨_,rfl,zv (yE (yd ⟨_,rfl,by show 4<=1000;decide,?_⟩))⟩))))))));rw [EF];refine⟨rfl,rfl,by show min 1 1<=60;decide,false,?_,?_⟩
  ·rw [Kw rfl];exact congrArg (fun b=>PyData.bool !b) (Ik (.tuple [.int (j:Int),.int ((0:Nat):Int),.int ((W.length:Nat):Int),.int ((0:Nat):Int)]) rfl)
  rw [Kv EG];exact jO (yI (uv rfl))
end
theorem _root_.L2.FnIn.m {P w K mg base j k x ps sp} (h:FnIn P w K mg base j x ps sp) (hk:j<=k:=by decide):FnIn P w K mg base k x ps sp:=h.mono hk
theorem xf1 {K:JI} {h:Heap} {mg:Str->Option Value} {x:Str} {st:Stmt} {f:EL} {od an:Option EL} {sl:Array (Option Value)} {oc kV dc pm cd ct:Value} (X:K.In h) (G:h.Ns Fh mg) (a:FD K x st f od an sl oc kV dc pm cd ct) {p0:Str} (hb:∀ (kV doc pm:Value) (an:Option EL) (cdv ct:Value) (u0:Value),bindArgs (Gm x x (jr st) (yH st) (zi st) .none kV doc pm an cdv ct) ⟨[u0],[]⟩=pure ([p0].zip [u0])):Def K mg x st [p0]:=AF X G a (fun _ _ _ _ _ _ us hl=>by
  rcases us with _ | ⟨u0,_ | ⟨z,zs⟩⟩ <;> first | exact hb _ _ _ _ _ _ _ | (simp at hl))
theorem xf2 {K:JI} {h:Heap} {mg:Str->Option Value} {x:Str} {st:Stmt} {f:EL} {od an:Option EL} {sl:Array (Option Value)} {oc kV dc pm cd ct:Value} (X:K.In h) (G:h.Ns Fh mg) (a:FD K x st f od an sl oc kV dc pm cd ct) {p0 p1:Str} (hb:∀ (kV doc pm:Value) (an:Option EL) (cdv ct:Value) (u0 u1:Value),bindArgs (Gm x x (jr st) (yH st) (zi st) .none kV doc pm an cdv ct) ⟨[u0,u1],[]⟩=pure ([p0,p1].zip [u0,u1])):Def K mg x st [p0,p1]:=AF X G a (fun _ _ _ _ _ _ us hl=>by
  rcases us with _ | ⟨u0,_ | ⟨u1,_ | ⟨z,zs⟩⟩⟩ <;> first | exact hb _ _ _ _ _ _ _ _ | (simp at hl))
theorem xf3 {K:JI} {h:Heap} {mg:Str->Option Value} {x:Str} {st:Stmt} {f:EL} {od an:Option EL} {sl:Array (Option Value)} {oc kV dc pm cd ct:Value} (X:K.In h) (G:h.Ns Fh mg) (a:FD K x st f od an sl oc kV dc pm cd ct) {p0 p1 p2:Str} (hb:∀ (kV doc pm:Value) (an:Option EL) (cdv ct:Value) (u0 u1 u2:Value),bindArgs (Gm x x (jr st) (yH st) (zi st) .none kV doc pm an cdv ct) ⟨[u0,u1,u2],[]⟩=pure ([p0,p1,p2].zip [u0,u1,u2])):Def K mg x st [p0,p1,p2]:=AF X G a (fun _ _ _ _ _ _ us hl=>by
  rcases us with _ | ⟨u0,_ | ⟨u1,_ | ⟨u2,_ | ⟨z,zs⟩⟩⟩⟩ <;> first | exact hb _ _ _ _ _ _ _ _ _ | (simp at hl))
theorem xf4 {K:JI} {h:Heap} {mg:Str->Option Value} {x:Str} {st:Stmt} {f:EL} {od an:Option EL} {sl:Array (Option Value)} {oc kV dc pm cd ct:Value} (X:K.In h) (G:h.Ns Fh mg) (a:FD K x st f od an sl oc kV dc pm cd ct) {p0 p1 p2 p3:Str} (hb:∀ (kV doc pm:Value) (an:Option EL) (cdv ct:Value) (u0 u1 u2 u3:Value),bindArgs (Gm x x (jr st) (yH st) (zi st) .none kV doc pm an cdv ct) ⟨[u0,u1,u2,u3],[]⟩=pure ([p0,p1,p2,p3].zip [u0,u1,u2,u3])):Def K mg x st [p0,p1,p2,p3]:=AF X G a (fun _ _ _ _ _ _ us hl=>by
  rcases us with _ | ⟨u0,_ | ⟨u1,_ | ⟨u2,_ | ⟨u3,_ | ⟨z,zs⟩⟩⟩⟩⟩ <;> first | exact hb _ _ _ _ _ _ _ _ _ _ | (simp at hl))
set_option autoImplicit true in
set_option relaxedAutoImplicit true in
theorem all_mk {l:PySem.W.OpenLaw} {w:World} {K:EI} {h:Heap} {mg:Str->Option Value} {fa:EL} (X:K.In h) (G:h.Ns Fh mg) (hfa:mg "law"=some (.ref fa))
  (a1:FD K "meeting" aw f1 od1 an1 sl1 oc1 kV1 dc1 pm1 cd1 ct1)
  (a2:FD K "segments" vp f2 od2 an2 sl2 oc2 kV2 dc2 pm2 cd2 ct2)
  (a3:FD K "many_segments" jg f3 od3 an3 sl3 oc3 kV3 dc3 pm3 cd3 ct3)
  (a4:FD K "meets" dq f4 od4 an4 sl4 oc4 kV4 dc4 pm4 cd4 ct4)
  (a5:FD K "closes" bO f5 od5 an5 sl5 oc5 kV5 dc5 pm5 cd5 ct5)
  (a6:FD K "turns_back" jZ f6 od6 an6 sl6 oc6 kV6 dc6 pm6 cd6 ct6)
  (a7:FD K "turn" ic f7 od7 an7 sl7 oc7 kV7 dc7 pm7 cd7 ct7)
  (a8:FD K "touches" ax f8 od8 an8 sl8 oc8 kV8 dc8 pm8 cd8 ct8)
  (a9:FD K "apart" dr f9 od9 an9 sl9 oc9 kV9 dc9 pm9 cd9 ct9)
  (a10:FD K "lies_near" qK f10 od10 an10 sl10 oc10 kV10 dc10 pm10 cd10 ct10)
  (a11:FD K "least_kept" j7 f11 od11 an11 sl11 oc11 kV11 dc11 pm11 cd11 ct11)
  (a12:FD K "spans" dt f12 od12 an12 sl12 oc12 kV12 dc12 pm12 cd12 ct12)
  (a13:FD K "way_to_the_end" y3 f13 od13 an13 sl13 oc13 kV13 dc13 pm13 cd13 ct13)
  (a14:FD K "size" ig f14 od14 an14 sl14 oc14 kV14 dc14 pm14 cd14 ct14)
  (a15:FD K "points" bP f15 od15 an15 sl15 oc15 kV15 dc15 pm15 cd15 ct15)
  (a16:FD K "has_point" qL f16 od16 an16 sl16 oc16 kV16 dc16 pm16 cd16 ct16)
  (a17:FD K "neighbours" j8 f17 od17 an17 sl17 oc17 kV17 dc17 pm17 cd17 ct17)
  (a18:FD K "has_cell" vt f18 od18 an18 sl18 oc18 kV18 dc18 pm18 cd18 ct18)
  (a19:FD K "corners" ay f19 od19 an19 sl19 oc19 kV19 dc19 pm19 cd19 ct19)
  (a20:FD K "common" bQ f20 od20 an20 sl20 oc20 kV20 dc20 pm20 cd20 ct20)
  (a21:FD K "shortened" qM f21 od21 an21 sl21 oc21 kV21 dc21 pm21 cd21 ct21)
  (a22:FD K "ask_table" qN f22 od22 an22 sl22 oc22 kV22 dc22 pm22 cd22 ct22)
  (a23:FD K "fits" ik f23 od23 an23 sl23 oc23 kV23 dc23 pm23 cd23 ct23)
  (a24:FD K "is_row" bR f24 od24 an24 sl24 oc24 kV24 dc24 pm24 cd24 ct24)
  (a25:FD K "gates" du f25 od25 an25 sl25 oc25 kV25 dc25 pm25 cd25 ct25)
  (a26:FD K "stands_high" jK f26 od26 an26 sl26 oc26 kV26 dc26 pm26 cd26 ct26)
  (a27:FD K "gate_points" jL f27 od27 an27 sl27 oc27 kV27 dc27 pm27 cd27 ct27)
  (a28:FD K "has_gate" vy f28 od28 an28 sl28 oc28 kV28 dc28 pm28 cd28 ct28)
  (a29:FD K "is_open" az f29 od29 an29 sl29 oc29 kV29 dc29 pm29 cd29 ct29)
  (a30:FD K "cell_gates" j9 f30 od30 an30 sl30 oc30 kV30 dc30 pm30 cd30 ct30)
  (a31:FD K "is_crossed" ql f31 od31 an31 sl31 oc31 kV31 dc31 pm31 cd31 ct31)
  (a32:FD K "has_high_middle" yT f32 od32 an32 sl32 oc32 kV32 dc32 pm32 cd32 ct32)
  (a33:FD K "cell_ties" qO f33 od33 an33 sl33 oc33 kV33 dc33 pm33 cd33 ct33)
  (a34:FD K "crossed_ties" jx f34 od34 an34 sl34 oc34 kV34 dc34 pm34 cd34 ct34)
  (a35:FD K "heading" aA f35 od35 an35 sl35 oc35 kV35 dc35 pm35 cd35 ct35)
  (a36:FD K "cell_ahead" qm f36 od36 an36 sl36 oc36 kV36 dc36 pm36 cd36 ct36)
  (a37:FD K "comes_in" vz f37 od37 an37 sl37 oc37 kV37 dc37 pm37 cd37 ct37)
  (a38:FD K "gate_ahead" qo f38 od38 an38 sl38 oc38 kV38 dc38 pm38 cd38 ct38)
  (a39:FD K "lines" dv f39 od39 an39 sl39 oc39 kV39 dc39 pm39 cd39 ct39)
  (a40:FD K "line_from" qP f40 od40 an40 sl40 oc40 kV40 dc40 pm40 cd40 ct40)
  (a41:FD K "place_of" vA f41 od41 an41 sl41 oc41 kV41 dc41 pm41 cd41 ct41)
  (a42:FD K "share" dw f42 od42 an42 sl42 oc42 kV42 dc42 pm42 cd42 ct42)
  (a43:FD K "scale_of" vB f43 od43 an43 sl43 oc43 kV43 dc43 pm43 cd43 ct43)
  (a44:FD K "web_of" bU f44 od44 an44 sl44 oc44 kV44 dc44 pm44 cd44 ct44)
  (a45:FD K "scaled_place" jz f45 od45 an45 sl45 oc45 kV45 dc45 pm45 cd45 ct45)
  (a46:FD K "_law_feed" vC f46 od46 an46 sl46 oc46 kV46 dc46 pm46 cd46 ct46)
  (a47:FD K "_law_draw" vD f47 od47 an47 sl47 oc47 kV47 dc47 pm47 cd47 ct47)
  (a48:FD K "_law_table" qQ f48 od48 an48 sl48 oc48 kV48 dc48 pm48 cd48 ct48)
  (a49:FD K "_law_cuts" vE f49 od49 an49 sl49 oc49 kV49 dc49 pm49 cd49 ct49)
  (a50:FD K "law" cT f50 od50 an50 sl50 oc50 kV50 dc50 pm50 cd50 ct50)
  {ubB:Tok} (uaL:FC K Fh "FEWEST"=some (some (.int (2) ubB)))
  {ubC:Tok} (uaM:FC K Fh "MOST"=some (some (.int (7) ubC)))
  {ubD:Tok} (uaN:FC K Fh "LEAST"=some (some (.int (-1000000000) ubD)))
  {ubE:Tok} (uaO:FC K Fh "GREATEST"=some (some (.int (1000000000) ubE)))
  (uaP:FC K Fh "len"=some none)
  (uaQ:FC K Fh "min"=some none)
  (uaR:FC K Fh "max"=some none)
  (uaS:FC K Fh "enumerate"=some none)
  (uaT:FC K Fh "range"=some none)
  (uaU:FC K Fh "all"=some none)
  (uaV:FC K Fh "sum"=some none)
  (uaW:FC K Fh "tuple"=some none)
  (uaX:FC K Fh "set"=some none)
  (uaY:FC K Fh "sorted"=some none)
  (uaZ:FC K Fh "abs"=some none)
  (ua0:FC K Fh "list"=some none)
  {uau:EL} (ua1:FC K Fh "AHEAD"=some (some (.ref uau)))
  {uaw:EL} (ua2:FC K Fh "BEHIND"=some (some (.ref uaw)))
  (uav:sN K uau Dj=true)
  (uax:sN K uaw wM=true)
  (kl_least:oN K "least_kept"=true) :
  ∃ fd:FuncData,(∀ (s:Shared) (v:Value),BindsTo s fd ⟨[v],[]⟩ [("_law_script",v)])/\∀ base:Heap,K.In base->base.Ns Fh mg->FnOk l.prog w K mg base CX0 11 fa fd qe (rg K):=by
 have ubF:Def K mg "meeting" aw pA:=xf1 X G a1 (fun _ _ _ _ _ _ _=>rfl);have ubG:Def K mg "segments" vp pA:=xf1 X G a2 (fun _ _ _ _ _ _ _=>rfl);have ubH:Def K mg "many_segments" jg pJ:=xf2 X G a3 (fun _ _ _ _ _ _ _ _=>rfl);have ubI:Def K mg "meets" dq pO:=xf3 X G a4 (fun _ _ _ _ _ _ _ _ _=>rfl);have ubJ:Def K mg "closes" bO pP:=xf3 X G a5 (fun _ _ _ _ _ _ _ _ _=>rfl);have ubK:Def K mg "turns_back" jZ pQ:=xf3 X G a6 (fun _ _ _ _ _ _ _ _ _=>rfl);have ubL:Def K mg "turn" ic pC:=xf3 X G a7 (fun _ _ _ _ _ _ _ _ _=>rfl);have ubM:Def K mg "touches" ax pz:=xf4 X G a8 (fun _ _ _ _ _ _ _ _ _ _=>rfl);have ubN:Def K mg "apart" dr pz:=xf4 X G a9 (fun _ _ _ _ _ _ _ _ _ _=>rfl);have ubO:Def K mg "lies_near" qK pR:=xf4 X G a10 (fun _ _ _ _ _ _ _ _ _ _=>rfl);have ubP:Def K mg "least_kept" j7 pS:=xf2 X G a11 (fun _ _ _ _ _ _ _ _=>rfl);have ubQ:Def K mg "spans" dt pV:=xf4 X G a12 (fun _ _ _ _ _ _ _ _ _ _=>rfl);have ubR:Def K mg "way_to_the_end" y3 pW:=xf1 X G a13 (fun _ _ _ _ _ _ _=>rfl);have ubS:Def K mg "size" ig ph:=xf1 X G a14 (fun _ _ _ _ _ _ _=>rfl);have ubT:Def K mg "points" bP ph:=xf1 X G a15 (fun _ _ _ _ _ _ _=>rfl);have ubU:Def K mg "has_point" qL pq:=xf3 X G a16 (fun _ _ _ _ _ _ _ _ _=>rfl);have ubV:Def K mg "neighbours" j8 pq:=xf3 X G a17 (fun _ _ _ _ _ _ _ _ _=>rfl);have ubW:Def K mg "has_cell" vt pq:=xf3 X G a18 (fun _ _ _ _ _ _ _ _ _=>rfl);have ubX:Def K mg "corners" ay pK:=xf2 X G a19 (fun _ _ _ _ _ _ _ _=>rfl);have ubY:Def K mg "common" bQ pF:=xf2 X G a20 (fun _ _ _ _ _ _ _ _=>rfl);have ubZ:Def K mg "shortened" qM pX:=xf2 X G a21 (fun _ _ _ _ _ _ _ _=>rfl);have ub0:Def K mg "ask_table" qN ph:=xf1 X G a22 (fun _ _ _ _ _ _ _=>rfl);have ub1:Def K mg "fits" ik pG:=xf1 X G a23 (fun _ _ _ _ _ _ _=>rfl);have ub2:Def K mg "is_row" bR ["row"]:=xf1 X G a24 (fun _ _ _ _ _ _ _=>rfl);have ub3:Def K mg "gates" du pB:=xf2 X G a25 (fun _ _ _ _ _ _ _ _=>rfl);have ub4:Def K mg "stands_high" jK pH:=xf3 X G a26 (fun _ _ _ _ _ _ _ _ _=>rfl);have ub5:Def K mg "gate_points" jL ["gate"]:=xf1 X G a27 (fun _ _ _ _ _ _ _=>rfl);have ub6:Def K mg "has_gate" vy pL:=xf2 X G a28 (fun _ _ _ _ _ _ _ _=>rfl);have ub7:Def K mg "is_open" az pf:=xf3 X G a29 (fun _ _ _ _ _ _ _ _ _=>rfl);have ub8:Def K mg "cell_gates" j9 ["cell"]:=xf1 X G a30 (fun _ _ _ _ _ _ _=>rfl);have ub9:Def K mg "is_crossed" ql pj:=xf3 X G a31 (fun _ _ _ _ _ _ _ _ _=>rfl);have uca:Def K mg "has_high_middle" yT pj:=xf3 X G a32 (fun _ _ _ _ _ _ _ _ _=>rfl);have ucb:Def K mg "cell_ties" qO pj:=xf3 X G a33 (fun _ _ _ _ _ _ _ _ _=>rfl);have ucc:Def K mg "crossed_ties" jx pj:=xf3 X G a34 (fun _ _ _ _ _ _ _ _ _=>rfl);have ucd:Def K mg "heading" aA pf:=xf3 X G a35 (fun _ _ _ _ _ _ _ _ _=>rfl);have uce:Def K mg "cell_ahead" qm pf:=xf3 X G a36 (fun _ _ _ _ _ _ _ _ _=>rfl);have ucf:Def K mg "comes_in" vz pf:=xf3 X G a37 (fun _ _ _ _ _ _ _ _ _=>rfl);have ucg:Def K mg "gate_ahead" qo pf:=xf3 X G a38 (fun _ _ _ _ _ _ _ _ _=>rfl);have uch:Def K mg "lines" dv pB:=xf2 X G a39 (fun _ _ _ _ _ _ _ _=>rfl);have uci:Def K mg "line_from" qP pY:=xf3 X G a40 (fun _ _ _ _ _ _ _ _ _=>rfl);have ucj:Def K mg "place_of" vA pf:=xf3 X G a41 (fun _ _ _ _ _ _ _ _ _=>rfl);have uck:Def K mg "share" dw pf:=xf3 X G a42 (fun _ _ _ _ _ _ _ _ _=>rfl);have ucl:Def K mg "scale_of" vB ph:=xf1 X G a43 (fun _ _ _ _ _ _ _=>rfl);have ucm:Def K mg "web_of" bU pZ:=xf2 X G a44 (fun _ _ _ _ _ _ _ _=>rfl);have ucn:Def K mg "scaled_place" jz qa:=xf4 X G a45 (fun _ _ _ _ _ _ _ _ _ _=>rfl);have uco:Def K mg "_law_feed" vC qb:=xf2 X G a46 (fun _ _ _ _ _ _ _ _=>rfl);have ucp:Def K mg "_law_draw" vD pI:=xf2 X G a47 (fun _ _ _ _ _ _ _ _=>rfl);have ucq:Def K mg "_law_table" qQ qc:=xf1 X G a48 (fun _ _ _ _ _ _ _=>rfl);have ucr:Def K mg "_law_cuts" vE qd:=xf2 X G a49 (fun _ _ _ _ _ _ _ _=>rfl);have ucs:Def K mg "law" cT qe:=xf1 X G a50 (fun _ _ _ _ _ _ _=>rfl);have uan:=GV X G uaL;have uao:=GV X G uaM;have uap:=GV X G uaN;have uaq:=GV X G uaO;have uaa:=FI X G uaP;have uad:=FI X G uaQ;have uah:=FI X G uaR;have uaf:=FI X G uaS;have uab:=FI X G uaT;have uaj:=FI X G uaU;have uaC:=FI X G uaV;have uam:=FI X G uaW;have uaH:=FI X G uaX;have uaI:=FI X G uaY;have uae:=FI X G uaZ;have uay:=FI X G ua0;have uaD:=GV X G ua1;have uaF:=GV X G ua2;have e:=hfa.symm.trans (GV X G a50.1);cases e;have F0:=mh (st:=cT) a50.2.1 a50.2.2.1 a50.2.2.2;refine⟨Gm "law" "law" (jr cT) (yH cT) (zi cT) .none kV50 dc50 pm50 an50 cd50 ct50,fun s v=>.of_eq rfl,fun base _ _=>?_⟩;have H0:=Bd (P:=l.prog) (w:=w) (base:=base) (k:=0) uco uaa uae;have H1:=AW (P:=l.prog) (w:=w) (base:=base) (k:=0) ucp;have H2:=AV (P:=l.prog) (w:=w) (base:=base) (k:=0) ub1 uaa ⟨_,uan⟩ ⟨_,uao⟩;have H3:=AU (P:=l.prog) (w:=w) (base:=base) (k:=0) ubS uaa;have H4:=tK (P:=l.prog) (w:=w) (base:=base) (k:=0) ubY uae;have H5:=Dg (P:=l.prog) (w:=w) (base:=base) (k:=0) ub5;have H6:=AX (P:=l.prog) (w:=w) (base:=base) (k:=0) ub4;have H7:=td (P:=l.prog) (w:=w) (base:=base) (k:=0) ub8;have H8:=mZ (P:=l.prog) (w:=w) (base:=base) (k:=0) ubX;have H9:=Bg (P:=l.prog) (w:=w) (base:=base) (k:=0) ubH uaa;have H10:=tN (P:=l.prog) (w:=w) (base:=base) (k:=0) ubJ uaa;have H11:=xm (P:=l.prog) (w:=w) (base:=base) (k:=0) ubL;have H12:=xn (P:=l.prog) (w:=w) (base:=base) (k:=0) ubN uad uah;have H13:=DB (P:=l.prog) (w:=w) (base:=base) (k:=0) ubR uaa;have H14:=wF (k:=1) ucq uab H1.m;have H15:=Bm (k:=1) ucr uaa uab H1.m;have H16:=sY (k:=1) ub2 uad uah ⟨_,uap⟩ ⟨_,uaq⟩ H2.m;have H17:=sZ (k:=1) ubT uab H3.m;have H18:=Df (k:=1) ubU H3.m;have H19:=xb (k:=1) ubZ H4.m;have H20:=m7 (k:=1) ucd H6.m;have H21:=Di (k:=1) uca uaC H8.m;have H22:=lT (k:=1) ubG uaa uab uaf H9.m;have H23:=fz (k:=1) ubK H11.m;have H24:=nt (k:=1) ubM H12.m H11.m;have H25:=Bo (k:=1) ubO H11.m;have H26:=De (k:=2) ub0 uaa uaf H2.m H16.m;have H27:=Ej (k:=2) ubV H18.m;have H28:=xc (k:=2) uck H5.m H19.m;have H29:=AY (k:=2) ub6 uaj H18.m H5.m;have H30:=A3 (k:=2) ubW H18.m;have H31:=tE (k:=2) uce uaD uav H20.m;have H32:=tf (k:=2) ucc H7.m H6.m H21.m;have H33:=xp (k:=2) ubI H10.m H23.m H24.m;have H34:=xE (k:=2) ubQ H25.m;have H35:=xh (k:=3) ucl uae H26.m H17.m H27.m H4.m;have H36:=lK (k:=3) ucj H28.m;have H37:=AZ (k:=3) ub7 H29.m H5.m H6.m;have H38:=wN (k:=3) ucf uaF uax H20.m H30.m;have H39:=nA (k:=3) ubF uaf H22.m H33.m;have H40:=tM (k:=4) ucn H36.m;have H41:=wI (k:=4) ub3 H26.m H17.m H37.m;have H42:=m5 (k:=4) ub9 uaj H37.m H7.m;have H43:=xF (k:=3) ubP kl_least uaa uab uad H34.m H13.m;have H44:=wL (k:=5) ucb H42.m H32.m H7.m H37.m;have H45:=A7 (k:=6) ucg H31.m H30.m H44.m;have H46:=Bb (k:=7) uci uam H45.m;have H47:=w5 (k:=8) uch uaH uaI H26.m H41.m H38.m H46.m;have H48:=Dv (k:=9) ucm uam H26.m H35.m H40.m H47.m;exact DC (k:=10) F0 uaa uay H0.m H1.m H14.m H15.m H48.m H39.m H35.m H43.m
theorem walk {l:PySem.W.OpenLaw} {q:Program} {loose:List Str} {XP:(Str->Option Value)->Heap->Prop} {YP:World->Heap->Prop} {d:DefRec} {K:Params->EI} (ts:List (EL×Str)) (hn:l.most=some 63) (hdf:d.params.defaults=[])
  (hY:∀ (w:World) (h:Heap),YP w h->(K w.params).In h/\∀ p∈ts,h.get? p.1=some (G8 #[])) (hB:∀ w:World,bN (K w.params) ts=true)
  (F:∀ (w:World) (mg:Str->Option Value) (fa:EL) (h:Heap),(K w.params).In h->h.Ns Fh mg->mg d.name=some (.ref fa) ->
   ∃ fd:FuncData,(∀ (s:Shared) (u:Value),BindsTo s fd ⟨[u],[]⟩ [("_law_script",u)])/\∀ base:Heap,(K w.params).In base->base.Ns Fh mg->FnOk l.prog w (K w.params) mg base CX0 11 fa fd qe (rg (K w.params))) :
  PySem.W.WalkO q loose XP YP l.row.toRowW d [] (fun f vs=>PySem.call f vs) :=
 L2.walk_T (n:=63) (k:=11) (x:="_law_script") (CX:=fun _=>CX0) (sp:=fun w=>rg (K w.params)) ts hn (by decide) hdf ⟨rfl,by decide,by decide⟩ hY hB F (fun _ _ a ns hl hS=>⟨a,ns,rfl,hS,hl,fun _=>rfl⟩) fun _ _ _ _ _ z=>z
end My
namespace PySem.W.Fast
def tw10359825079306561661:Nat:=0
def tw10483002783159728026:Nat:=0
def tw10838234414315175439:Nat:=0
def tw10870780877868739537:Nat:=0
def tw10891948284661902386:Nat:=0
def tw11087813463070756440:Nat:=0
def tw11094706791874651605:Nat:=0
def tw11128447470732711312:Nat:=0
def tw11262249955202189298:Nat:=0
def tw1176468397480713240:Nat:=0
def tw117871457611063964:Nat:=0
def tw11949201578701909947:Nat:=0
def tw12024423023067225245:Nat:=0
def tw12210196824571112359:Nat:=0
def tw12221159229596026208:Nat:=0
def tw12391501985070703199:Nat:=0
def tw12626974985345030161:Nat:=0
def tw12653773246941467028:Nat:=0
def tw12687274942422118203:Nat:=0
def tw12692637481093984145:Nat:=0
def tw12806409113924335078:Nat:=0
def tw12925597272989204342:Nat:=0
def tw13082454317160153422:Nat:=0
def tw13087528755552063195:Nat:=0
def tw13125061016164274769:Nat:=0
def tw13280277421974136435:Nat:=0
def tw13514207156369577490:Nat:=0
def tw13629383967899631811:Nat:=0
def tw13701642421458612239:Nat:=0
def tw13734641824396701172:Nat:=0
def tw13790971642319155929:Nat:=0
def tw13824709219347132855:Nat:=0
def tw1411489542092574165:Nat:=0
def tw14120806212502464289:Nat:=0
def tw1420317484254527112:Nat:=0
def tw1422525767735071530:Nat:=0
def tw14251275328926599642:Nat:=0
def tw1435867350649054214:Nat:=0
def tw1441479102399814219:Nat:=0
def tw14450937358500287864:Nat:=0
def tw14742836518267626303:Nat:=0
def tw14835627535170098067:Nat:=0
def tw15137115879601267896:Nat:=0
def tw15171011524275284098:Nat:=0
def tw1527724144347167051:Nat:=0
def tw15567204152821618274:Nat:=0
def tw15573715535691870136:Nat:=0
def tw15805350428282925732:Nat:=0
def tw15809148896345678382:Nat:=0
def tw15938878686850179529:Nat:=0
def tw16290880463822894512:Nat:=0
def tw1634594432806065163:Nat:=0
def tw165162673370245910:Nat:=0
def tw16581451028782493504:Nat:=0
def tw16862306248429451951:Nat:=0
def tw16978476773586599838:Nat:=0
def tw17015281579336406248:Nat:=0
def tw17059288824833558329:Nat:=0
def tw17071734307028711609:Nat:=0
def tw1711941235766828478:Nat:=0
def tw17235818534261200984:Nat:=0
def tw17299925124233786867:Nat:=0
def tw17394846310628510560:Nat:=0
def tw17617221115043635154:Nat:=0
def tw1766008362603044368:Nat:=0
def tw17666172504499932521:Nat:=0
def tw1766726468303667909:Nat:=0
def tw17719473298914490201:Nat:=0
def tw17955990582630606281:Nat:=0
def tw18249931579014499336:Nat:=0
def tw18421823339293481377:Nat:=0
def tw1851902470673889010:Nat:=0
def tw2227947315869781861:Nat:=0
def tw232456527249373262:Nat:=0
def tw23828144416595120:Nat:=0
def tw2528146675476080452:Nat:=0
def tw2582585018558660068:Nat:=0
def tw2669056771927381114:Nat:=0
def tw2801745142291224250:Nat:=0
def tw3068029072428275263:Nat:=0
def tw308730358010293636:Nat:=0
def tw3518476225272264917:Nat:=0
def tw3526667245217243748:Nat:=0
def tw3585747229614548894:Nat:=0
def tw3592818452836434711:Nat:=0
def tw3670005581795264:Nat:=0
def tw3712787707680010439:Nat:=0
def tw4013103017742213811:Nat:=0
def tw4039584564423598784:Nat:=0
def tw4256845804348247296:Nat:=0
def tw4414158238353581346:Nat:=0
def tw4557500753387338427:Nat:=0
def tw4557694874668264510:Nat:=0
def tw4630517709293035784:Nat:=0
def tw4646268016106991178:Nat:=0
def tw4850250478444368537:Nat:=0
def tw4853452080456224172:Nat:=0
def tw4878889727876482087:Nat:=0
def tw4924808791044501043:Nat:=0
def tw5037247861634979078:Nat:=0
def tw5052830706808087514:Nat:=0
def tw5073168986933533467:Nat:=0
def tw5085678261734561241:Nat:=0
def tw5095014606829693800:Nat:=0
def tw5317040919212313164:Nat:=0
def tw5340526178960793948:Nat:=0
def tw5348926278713645773:Nat:=0
def tw5500225599919685241:Nat:=0
def tw5561041625772513628:Nat:=0
def tw5730741912681851722:Nat:=0
def tw5743670392521952188:Nat:=0
def tw6098960346017560582:Nat:=0
def tw641945441501982601:Nat:=0
def tw6479752374066264101:Nat:=0
def tw6534068867631087653:Nat:=0
def tw6652064768827496524:Nat:=0
def tw6707475702944893210:Nat:=0
def tw6895330152888857700:Nat:=0
def tw7162703238760933497:Nat:=0
def tw7312425720139848127:Nat:=0
def tw7339868839745243732:Nat:=0
def tw7415416762612839348:Nat:=0
def tw7659822295800095988:Nat:=0
def tw7739388258298086012:Nat:=0
def tw7759893647103511299:Nat:=0
def tw7861332768493532074:Nat:=0
def tw7936374809168799252:Nat:=0
def tw8178803950941727510:Nat:=0
def tw8181860712880314191:Nat:=0
def tw8189140310744416858:Nat:=0
def tw8199554884717026097:Nat:=0
def tw8281686514111000425:Nat:=0
def tw8761674591847024859:Nat:=0
def tw8867878247554716243:Nat:=0
def tw9252777561841929637:Nat:=0
def tw9331203621291894703:Nat:=0
def tw93786818151290974:Nat:=0
def tw9442960609051275498:Nat:=0
def tw9637212000102572583:Nat:=0
def tw9749129007720111029:Nat:=0
def tw9949406419108704865:Nat:=0
end PySem.W.Fast
open PySem PySem.W PyProof.Rows
set_option maxRecDepth 100000 in
set_option maxHeartbeats 0 in
theorem PySem.Challenge.cw_heightrings_k56_whole_great_maps_holds : PySem.Challenge.rw_heightrings_k56_whole_great_maps.Holds := by
 w_on;o_law;k_head;(case hw=>w_witness2)
 k_fill
 refine My.walk (l:=PySem.Challenge.rw_heightrings_k56_whole_great_maps) [(86,L2.lamQ "least_kept")] rfl rfl (fun w h Y=>⟨by first | exact PySem.W.kIn_of Y | exact PySem.W.km_in_of Y,fun p hp=>PySem.W.km_tabs_of Y p.1 (List.mem_map_of_mem (f:=JS) hp)⟩) (fun w=>by kernel_rfl) ?F
 case F =>
  intro w mg fa h KX G hmg
  refine' My.all_mk KX G hmg ?a1 ?a2 ?a3 ?a4 ?a5 ?a6 ?a7 ?a8 ?a9 ?a10 ?a11 ?a12 ?a13 ?a14 ?a15 ?a16 ?a17 ?a18 ?a19 ?a20 ?a21 ?a22 ?a23 ?a24 ?a25 ?a26 ?a27 ?a28 ?a29 ?a30 ?a31 ?a32 ?a33 ?a34 ?a35 ?a36 ?a37 ?a38 ?a39 ?a40 ?a41 ?a42 ?a43 ?a44 ?a45 ?a46 ?a47 ?a48 ?a49 ?a50 ?uaL ?uaM ?uaN ?uaO ?uaP ?uaQ ?uaR ?uaS ?uaT ?uaU ?uaV ?uaW ?uaX ?uaY ?uaZ ?ua0 ?ua1 ?ua2 ?uav ?uax ?kl_least
  (case a1=>refine⟨?_,?_,?_,?_⟩ <;> k_is)
  (case a2=>refine⟨?_,?_,?_,?_⟩ <;> k_is)
  (case a3=>refine⟨?_,?_,?_,?_⟩ <;> k_is)
  (case a4=>refine⟨?_,?_,?_,?_⟩ <;> k_is)
  (case a5=>refine⟨?_,?_,?_,?_⟩ <;> k_is)
  (case a6=>refine⟨?_,?_,?_,?_⟩ <;> k_is)
  (case a7=>refine⟨?_,?_,?_,?_⟩ <;> k_is)
  (case a8=>refine⟨?_,?_,?_,?_⟩ <;> k_is)
  (case a9=>refine⟨?_,?_,?_,?_⟩ <;> k_is)
  (case a10=>refine⟨?_,?_,?_,?_⟩ <;> k_is)
  (case a11=>refine⟨?_,?_,?_,?_⟩ <;> k_is)
  (case a12=>refine⟨?_,?_,?_,?_⟩ <;> k_is)
  (case a13=>refine⟨?_,?_,?_,?_⟩ <;> k_is)
  (case a14=>refine⟨?_,?_,?_,?_⟩ <;> k_is)
  (case a15=>refine⟨?_,?_,?_,?_⟩ <;> k_is)
  (case a16=>refine⟨?_,?_,?_,?_⟩ <;> k_is)
  (case a17=>refine⟨?_,?_,?_,?_⟩ <;> k_is)
  (case a18=>refine⟨?_,?_,?_,?_⟩ <;> k_is)
  (case a19=>refine⟨?_,?_,?_,?_⟩ <;> k_is)
  (case a20=>refine⟨?_,?_,?_,?_⟩ <;> k_is)
  (case a21=>refine⟨?_,?_,?_,?_⟩ <;> k_is)
  (case a22=>refine⟨?_,?_,?_,?_⟩ <;> k_is)
  (case a23=>refine⟨?_,?_,?_,?_⟩ <;> k_is)
  (case a24=>refine⟨?_,?_,?_,?_⟩ <;> k_is)
  (case a25=>refine⟨?_,?_,?_,?_⟩ <;> k_is)
  (case a26=>refine⟨?_,?_,?_,?_⟩ <;> k_is)
  (case a27=>refine⟨?_,?_,?_,?_⟩ <;> k_is)
  (case a28=>refine⟨?_,?_,?_,?_⟩ <;> k_is)
  (case a29=>refine⟨?_,?_,?_,?_⟩ <;> k_is)
  (case a30=>refine⟨?_,?_,?_,?_⟩ <;> k_is)
  (case a31=>refine⟨?_,?_,?_,?_⟩ <;> k_is)
  (case a32=>refine⟨?_,?_,?_,?_⟩ <;> k_is)
  (case a33=>refine⟨?_,?_,?_,?_⟩ <;> k_is)
  (case a34=>refine⟨?_,?_,?_,?_⟩ <;> k_is)
  (case a35=>refine⟨?_,?_,?_,?_⟩ <;> k_is)
  (case a36=>refine⟨?_,?_,?_,?_⟩ <;> k_is)
  (case a37=>refine⟨?_,?_,?_,?_⟩ <;> k_is)
  (case a38=>refine⟨?_,?_,?_,?_⟩ <;> k_is)
  (case a39=>refine⟨?_,?_,?_,?_⟩ <;> k_is)
  (case a40=>refine⟨?_,?_,?_,?_⟩ <;> k_is)
  (case a41=>refine⟨?_,?_,?_,?_⟩ <;> k_is)
  (case a42=>refine⟨?_,?_,?_,?_⟩ <;> k_is)
  (case a43=>refine⟨?_,?_,?_,?_⟩ <;> k_is)
  (case a44=>refine⟨?_,?_,?_,?_⟩ <;> k_is)
  (case a45=>refine⟨?_,?_,?_,?_⟩ <;> k_is)
  (case a46=>refine⟨?_,?_,?_,?_⟩ <;> k_is)
  (case a47=>refine⟨?_,?_,?_,?_⟩ <;> k_is)
  (case a48=>refine⟨?_,?_,?_,?_⟩ <;> k_is)
  (case a49=>refine⟨?_,?_,?_,?_⟩ <;> k_is)
  (case a50=>refine⟨?_,?_,?_,?_⟩ <;> k_is)
  (case uaL=>k_is)
  (case uaM=>k_is)
  (case uaN=>k_is)
  (case uaO=>k_is)
  (case uaP=>k_is)
  (case uaQ=>k_is)
  (case uaR=>k_is)
  (case uaS=>k_is)
  (case uaT=>k_is)
  (case uaU=>k_is)
  (case uaV=>k_is)
  (case uaW=>k_is)
  (case uaX=>k_is)
  (case uaY=>k_is)
  (case uaZ=>k_is)
  (case ua0=>k_is)
  (case ua1=>k_is)
  (case ua2=>k_is)
  (case uav=>kernel_rfl)
  (case uax=>kernel_rfl)
  (case kl_least=>kernel_rfl)
end
