import PyProof.Rows.All
import Wide.All
import OpenK.AllK
import Wide.FinOn
import Lean
import PyProof.EqAt
import PyProof.EqKinds
import PyProof.TupleCall
import KE.KTryMore
import PyProof.ExcArgs
import PyProof.ConsumeWalk
import PyProof.P3Eq
import KE.KRevIter
import PyProof.ListRange
import PyProof.Rows.SumAny
import KE.KSortTup
import PyProof.SetScanFacts
import PyProof.TupleKey
import PyProof.DictRoadsH
import PyProof.SetRoads
import KE.KTabLook
import PyProof.Rows.ListMul
import PyProof.InstStoreFacts
import PyProof.Rows.SetFrom
import PyProof.AutoListH
import PyProof.StrCalls2
import PyProof.MeetsSeq
import PyProof.DictCompW
import KE.KSortKey
import PyProof.SliceStr2
import PyProof.StrWalks
import PyProof.StrOps2
import PyProof.StrLawsIdx
import PyProof.StrLawsTight
import PyProof.StrLawsChain
import PyProof.Rows.StrSplitCount
import KE.KIntText
import PyProof.MaxThree
import PySem.Challenge.RW_heightrings_k54_whole_cuts_never_meet
open List renaming getElem?_eq_getElem → DK,length_map → DM,getElem?_eq_some_iff → DN,getD_eq_getElem?_getD → DO,mem_of_getElem? → DS,mem_cons_of_mem → DT,getElem?_map → DX,mem_cons_self → DZ,mem_cons → D0,getElem?_append_left → D4,length_append → D6,getElem?_append_right → D7,size_toArray → D9,length_cons → Ea,range → Ec,mem_append_right → Ed,mem_map → Ee,map_append → Eg,mem_singleton → Ej,map_cons → Ek,getElem?_eq_none → En,getElem_mem → Eo,mem_append → Ep,mem_range → Es,length_take → Et,take_length → Eu,mem_flatMap → Ew,getElem?_of_mem → EB,lookup_cons → EI,length_range → EJ,take_add_one → EK,head?_eq_getElem? → EL,length_singleton → EO,append_nil → ER,mem_append_left → ES,filter_cons → ET,length_filter_le → EV,mem_filter → E3,toArray → E5,not_mem_nil → E6,flatMap_append → E7,pairwise_map → E8,nodup_cons → Fe,filter_append → Fg,getElem?_set_self → Fi,append_assoc → Fj,pairwise_iff_getElem → Fn,getLast?_eq_getElem? → Fp,drop_eq_getElem_cons → Fq,reverse_cons → Fy,getElem?_range → FG,map_map → FJ,mem_reverse → FP,pairwise_cons → FQ,take_append_drop → FR,length_nil → FX,getElem?_set_ne → FY,nodup_append → FZ,map_congr_left → F5,getElem_of_mem → F6,replicate → F8,getElem?_replicate → F9,all_eq_true → Ga,nodup_nil → Gd,take_of_length_le → Gj,zip_cons_cons → Gn,length_set → Gr,getElem_inj → GD,filterMap_cons → GN,reverse_append → GP,findSome?_cons → GR,getElem?_take_of_lt → GV,forIn_cons → GY,map_nil → G1,forIn_nil → G3,take_zero → G4,ext_getElem? → G5,pairwise_lt_range → G7,flatMap_cons → G8,take_succ → G9,mem_of_head? → Ha,length_replicate → Hc,pairwise_flatMap → Hg,length_drop → Hj,map_flatMap → Hl,eq_nil_of_length_eq_zero → Hn,find?_eq_some_iff_append → Hq,map → Hr,pairwise_append → Ht,mem_erase_of_ne → Hu,find?_cons → Hz,range_succ → HB,mem_filterMap → HF,find?_eq_none → HI,any_cons → HU,map_drop → HZ,length_erase_of_mem → Ia,nodup_range → Ig,length_pos_of_mem → Ip,of_mem_zip → Ir,filter_nil → Iw,sum_append → Iz,getElem?_mapIdx → IF,reverse_reverse → II,mem_of_getLast? → IL,mem_of_mem_drop → IP,length_pos_iff → IU,length_reverse → IW,filter_flatMap → IX,all_cons → IY
open Bool renaming false_ne_true → DL,and_eq_true → DW,false_eq_true → EC,and_false → E1,not_true → E4,false_and → Fc,true_and → FO,not_false → Gb,decide_and → Iy,and_true → I0,or_true → Jd
open PySem.W renaming Frag → DP,nsIn → ED,mg_none_of → EG,keepIn → EZ,fnOf → Ff,mg_of → FN,findIn → F7,cellsFrom_some → Gi,codeIn → Gw,codeHdIn → GC,tabObj → G0,methodObj → HQ,specialIn → HR,Frag → Iq
open PySem renaming wpAny_bind → DQ,Addr → DR,wpAny_pure → DY,wpAny → Ef,mainGlobals → El,sizeLine → Ex,boot_len → EA,wpAny_holding → EF,foldedSetIterable → EM,starEach → EN,compareOp → EU,cLine → Fh,wpAny_truthy_bool → Fm,wpAny_mono → FE,letOwnedTupleGo → FF,mem_of_lookup → F4,wpAny_specialOf → Gs,codeAny_mono → Jf
open Nat renaming le_refl → DU,lt_of_lt_of_le → Eh,le_trans → Em,ne_of_lt → Ez,zero_le → EE,le_of_lt → Fd,lt_succ_of_lt → Fw,not_lt_zero → FC,lt_irrefl → FL,mul_le_mul → Ge,sub_self → Gk,pow_lt_pow_right → GA,ne_of_gt → GF,le_of_eq → GG,mod_eq_of_lt → GI,le_of_succ_le → G2,lt_succ_of_le → G6,le_of_ble_eq_true → Hf,mod_lt → Hk,pow_le_pow_right → Ho,lt_succ_iff → Hw,succ_pos → HC,mod_self → HD,lt_of_le_of_lt → HG,add_assoc → HX,lt_succ_iff_lt_or_eq → Ib,lt_succ_self → Ie,zero_add → Il,min_eq_left → Iu,pow_add → IM,lt_trans → Jb,dvd_refl → Jc,le_succ → Jg,log2_lt → Jh,gcd → Jk,lcm → Jl
open PySem.Heap renaming get?_push_of_some → D3,lt_size → Eb,get?_push_size → Ey,get?_update_other → FH,SameBut → Gg,get?_update_self → Hd,size_push → HH
open PySem.PyData renaming depthAll → D5,eqv → Ei,eqvAll → HW,depth → Io
open Array renaming length_toList → D8,getD_eq_getD_getElem? → FI,getD → Gm,forIn_toList → GZ,mem_toList_iff → Hs,replicate → Hy,getElem?_eq_getElem → HM,getElem?_toList → IA,size_map → IG
open PySem.PassesOwn renaming never → Er
open Int renaming mul_pos → EH,toNat_natCast → EX,gcd → E9,lt_trichotomy → Fb,sign_eq_neg_one_of_neg → Fl,mul_le_mul_of_nonneg_left → Fv,sign_eq_one_of_pos → FK,mul_pos_of_neg_of_neg → FU,mul_neg_of_neg_of_pos → FV,mul_neg_of_pos_of_neg → FW,eq_ofNat_of_zero_le → Gf,emod_lt_of_pos → Gp,natAbs_natCast → Gq,fdiv_eq_ediv_of_nonneg → Gy,natAbs_mul → Gz,mul_sub → GB,mul_comm → GH,eq_of_mul_eq_mul_left → GL,toNat_of_nonneg → GS,mul_ediv_cancel_left → GX,mul_one → Hm,mul_add → Hv,gcd_pos_of_ne_zero_right → HA,emod_nonneg → Iv,neg_mul → IQ,mul_neg → IS,mul_assoc → I9,lt_or_le → Je,one_mul → Ji,sub_mul → Jj
open Ne renaming symm → EW
open Classical renaming propDecidable → EY,byContradiction → Fo
open Decidable renaming byContradiction → Fs
open PySem.F renaming slot_list_append → Ft,type_list_append → Fu,slot_tuple_hash → Fz,plainAttrs_list → FA,slot_set_contains → GK,slot_dict_getitem → HN,args_tuple_add_2 → HS,entry_tuple_add → Ic,slot_tuple_add → Ij,args_list_append_2 → IE,slot_set_add → IH,entry_list_append → IT
open PySem.Builtin.Tuple renaming tupleHashOf → FT
open False renaming elim → Gh
open PyProof.Rows renaming boot_abs → Gu,callWith_type1 → Gv,boot_tuple → Ih,boot_all → IC
open PySem.Obj renaming mapSeq → Gx,putSet → Im
open Option renaming isNone_iff_eq_none → GJ,isSome_iff_exists → GU
open PySem.Builtin.Int renaming intBits → GQ,intTooBig → IB
open PySem.SetTable renaming toList_insertAt → GW,sizeAbove → HK,fill → IZ
open List.Pairwise renaming imp → Hb
open PySem.SeqAt.ReadsAll renaming length → He
open PySem.Calls renaming Name_function_global → HE,callWith_builtin → Ik,evalArgs_plain → ID
open PySem.Builtin.Frozenset renaming oneOther → HJ,addrOf → HY
open Rat renaming divInt → HL,den_divInt → IK
open PySem.Builtin.SmallTypes renaming nextOf → HP
open PyProof renaming noPylong_of_log2 → HV
open Prod renaming ext → Ii,fst → Ja
open PyProof.Rows.KTD renaming datumAt → IJ
open PySem.Heap.SameBut renaming update → IV
set_option Elab.async false
set_option linter.all false
set_option maxRecDepth 100000
set_option maxHeartbeats 4000000
theorem Jo.{u} {c:Prop} {h:Decidable c} (q:¬c) {α:Sort u} {t e:α}:(ite c t e)=e:=if_neg q
theorem Jp.{u} {c:Prop} {h:Decidable c} (q:c) {α:Sort u} {t e:α}:(ite c t e)=t:=if_pos q
theorem Jq {p:Prop} [h:Decidable p]:p → decide p=true:=decide_eq_true
theorem Jr {p:Prop} [h:Decidable p]:¬p → decide p=false:=decide_eq_false
section
namespace L2
open PySem PySem.Spec PyProof.Rows
abbrev Key:=Sum Int Str
noncomputable def AU:Key->Value->Bool
 | .inl k,v=>Value.isInt k v
 | .inr x,v=>Value.isStrOf x v
noncomputable def Dx (w:World):Key->Int
 | .inl k=>hashInt k
 | .inr x=>hashStr w x
theorem yB:∀ {k:Key} {v:Value},AU k v=true->(∃ i t,k=Sum.inl i/\v=Value.int i t) \/ (∃ x t,k=Sum.inr x/\v=Value.str x t)
 | .inl i,v,h=>by
  obtain⟨t,e⟩:=Value.isInt_shape (k:=i) (v:=v) h;exact .inl ⟨i,t,rfl,e⟩
 | .inr x,v,h=>by
  obtain⟨t,e⟩:=Value.isStrOf_shape (x:=x) (v:=v) h;exact .inr ⟨x,t,rfl,e⟩
theorem Bh (a b:Int):decide ((Sum.inl a:Key)=Sum.inl b)=(a == b):=by
 by_cases e:a=b
 ·subst e;simp
 ·have h:¬ (Sum.inl a:Key)=Sum.inl b:=fun q=>e (Sum.inl.inj q);rw [Jr h];exact (beq_eq_false_iff_ne.mpr e).symm
theorem Bi (a b:Str):decide ((Sum.inr a:Key)=Sum.inr b)=decide (a=b):=by
 by_cases e:a=b
 ·subst e;simp
 ·have h:¬ (Sum.inr a:Key)=Sum.inr b:=fun q=>e (Sum.inr.inj q);rw [Jr h,Jr e]
theorem Bj (a:Int) (b:Str):decide ((Sum.inl a:Key)=Sum.inr b)=false:=Jr (fun q=>nomatch q)
theorem Bk (a:Str) (b:Int):decide ((Sum.inr a:Key)=Sum.inl b)=false:=Jr (fun q=>nomatch q)
noncomputable def gD (prog:Program) (w:World):PySem.KeyKind prog w Key where
 is:=AU
 hash:=Dx w
 inj:=fun v a b ha hb=>by
  rcases yB ha with⟨i,t,rfl,rfl⟩ | ⟨x,t,rfl,rfl⟩
  ·rcases yB hb with⟨j,u,rfl,e⟩ | ⟨y,u,rfl,e⟩
   ·injection e with e1 _;rw [e1]
   ·exact nomatch e
  ·rcases yB hb with⟨j,u,rfl,e⟩ | ⟨y,u,rfl,e⟩
   ·exact nomatch e
   ·injection e with e1 _;rw [e1]
 byValue:=fun k v h=>by
  rcases yB h with⟨i,t,rfl,rfl⟩ | ⟨x,t,rfl,rfl⟩ <;> rfl
 pyHash:=fun hv h=>by
  rcases yB hv with⟨i,t,rfl,rfl⟩ | ⟨x,t,rfl,rfl⟩
  ·exact wpAny_pyHash_int h
  ·exact wpAny_pyHash_str h
 eqBool:=fun hu hv h=>by
  rcases yB hu with⟨i,t,rfl,rfl⟩ | ⟨x,t,rfl,rfl⟩
  ·rcases yB hv with⟨j,u,rfl,rfl⟩ | ⟨y,u,rfl,rfl⟩
   ·rw [Bh] at h;exact wpAny_eqBool_int h
   ·rw [Bj] at h;exact SeqAt.EqAt.int_str i t y u _ _ _ _ h
  ·rcases yB hv with⟨j,u,rfl,rfl⟩ | ⟨y,u,rfl,rfl⟩
   ·rw [Bk] at h;exact SeqAt.EqAt.str_int x t j u _ _ _ _ h
   ·rw [Bi] at h;exact wpAny_eqBool_str h
 «strs»:=fun k x t v h=>by
  rcases yB h with⟨i,u,rfl,e⟩ | ⟨y,u,rfl,e⟩
  ·exact nomatch e
  ·injection e with e1 _;subst e1;cases v <;> rfl
inductive V where
 | non | bl (b:Bool) | int (i:Int) | str (x:Str) | byt (b:Array UInt8) | flt (b:UInt64) | ref (a:DR) | ty (n:String)
 deriving DecidableEq
def RelV:V->Value->Prop
 | .non,u=>u=Value.none
 | .bl b,u=>u=Value.bool b
 | .int i,u=>∃ t,u=Value.int i t
 | .str x,u=>∃ t,u=Value.str x t
 | .byt b,u=>∃ t,u=Value.bytes b t
 | .flt b,u=>∃ t,u=Value.float b t
 | .ref a,u=>u=Value.ref a
 | .ty n,u=>u=Value.type n
abbrev Vals:List V->List Value->Prop:=Paired RelV
theorem Vals.length {xs:List V} {us:List Value} (r:Vals xs us):xs.length=us.length:=Paired.length r
theorem Vals.get:∀ {xs:List V} {us:List Value} {i:Nat} {x:V},Vals xs us->xs[i]?=some x->∃ u,us[i]?=some u/\RelV x u
 | _,_,_,_,.nil,e=>by simp at e
 | _,_,0,_,.cons r _,e=>by simp at e;subst e;exact⟨_,rfl,r⟩
 | _,_,i+1,x,.cons _ t,e=>by
  obtain⟨u,h1,h2⟩:=Vals.get (i:=i) (x:=x) t (by simpa using e);exact⟨u,by simpa using h1,h2⟩
theorem Vals.set {x:V} {u:Value} (r:RelV x u):∀ {xs:List V} {us:List Value} (i:Nat),Vals xs us->Vals (xs.set i x) (us.set i u)
 | _,_,_,.nil=>.nil
 | _,_,0,.cons _ t=>.cons r t
 | _,_,i+1,.cons q t=>.cons q (Vals.set r i t)
theorem Vals.append:∀ {xs ys:List V} {us ws:List Value},Vals xs us->Vals ys ws->Vals (xs++ys) (us++ws)
 | _,_,_,_,.nil,s=>s
 | _,_,_,_,.cons r t,s=>.cons r (Vals.append t s)
theorem Vals.take:∀ {xs:List V} {us:List Value} (n:Nat),Vals xs us->Vals (xs.take n) (us.take n)
 | _,_,0,_=>.nil
 | _,_,_+1,.nil=>.nil
 | _,_,n+1,.cons r t=>.cons r (Vals.take n t)
theorem Vals.drop:∀ {xs:List V} {us:List Value} (n:Nat),Vals xs us->Vals (xs.drop n) (us.drop n)
 | _,_,0,r=>r
 | _,_,_+1,.nil=>.nil
 | _,_,n+1,.cons _ t=>Vals.drop n t
def CJ:Option V->Option Value->Prop
 | some v,some u=>RelV v u
 | none,none=>True
 | _,_=>False
def KV {κ:Type}:List (κ×V)->List (κ×Value)->Prop:=Paired fun (p:κ×V) (q:κ×Value)=>p.1=q.1/\RelV p.2 q.2
noncomputable def kV:Key->V
 | .inl i=>.int i
 | .inr x=>.str x
inductive HO where
  | lst (xs:List V)
  | tup (xs:List V)
  | dK (kvs:List (Key×V)) | dT (kvs:List (List Key×V))
  | set (S:Int->Bool) (n:Nat)
  | ins (C dx:DR) (fs:List (Str×V))
  | own (x:DR)
  | xd (fs:List (Str×V))
  | met (f x:DR)
  | rng (lo hi:Int)
  | frz (o:Obj) (u:HO)
  | tbl (q:Str)
  | ext (φ:Heap->Prop)
abbrev Hp:=DR->Option HO
noncomputable def upd (H:Hp) (a:DR) (o:HO):Hp:=fun b=>if b=a then some o else H b
theorem zR {H:Hp} {a:DR} {o:HO}:upd H a o a=some o:=by unfold upd;rw [Jp rfl]
theorem zN {H:Hp} {a b:DR} {o:HO} (h:b≠a):upd H a o b=H b:=by unfold upd;rw [Jo h]
theorem yd {H:Hp} {a b:DR} {o:HO} (h:H a=some o) (h':H b=none):a≠b:=by
 intro e;subst e;rw [h] at h';cases h'
section
variable (P:Program) (w:World)
def ObjOk (H:Hp) (h:Heap) (a:DR):HO->Prop
 | .lst xs=>xs.length<=Ex/\∃ (its:List Value) (n:Nat),Vals xs its/\h.get? a=some { cls:=.type "list",data:=.seq its.toArray n }
 | .tup xs=>xs.length<=Ex/\∃ its:List Value,Vals xs its/\IsTup h a its.toArray
 | .dK kvs=>kvs.length<=Ex/\(a == sysModules)=false/\∃ vs,KV kvs vs/\h.DictOf (gD P w) a vs
 | .dT kvs=>kvs.length<=Ex/\(a == sysModules)=false/\∃ xs:List (List Key×DR×Value),
   Paired (fun (p:List Key×V) (q:List Key×DR×Value)=>p.1=q.1/\H q.2.1=some (.tup (p.1.map kV))/\RelV p.2 q.2.2) kvs xs /\
   ∃ o es ep,h.get? a=some o/\o.ExactDict/\o.data=.dict es ep/\es.toList=xs.map (entryOfKey (tupleKind (gD P w)))/\(xs.map (·.1)).Nodup
 | .set S n=>h.SetOf (intKind P w) a S n
 | .ins C dx fs=>H dx=some (.own a)/\fs.length<=1000/\dx≠a/\h.get? a=some (PySem.W.instObj C dx) /\
   ∃ mA,h.Ns1 dx mA/\(∀ f,CJ (fs.lookup f) (mA f))/\PySem.Within mA (fs.map (·.1))
 | .own _=>∃ o,h.get? a=some o
 | .xd fs=>∃ mA,h.Ns1 a mA/\∀ f,CJ (fs.lookup f) (mA f)
 | .rng lo hi=>∃ t u v,h.get? a=some { cls:=.type "range",data:=.fields #[.int lo t,.int hi u,.int 1 v] }
 | .frz o u=>h.get? a=some o/\ObjOk H h a u
 | .tbl q=>∃ ps,h.get? a=some (G0 ps)/\TriplesOk ps.toList/\∀ pos cv,codeAmong pos ps.toList=some cv->∃ c,cv=.ref c/\H c=some (.own a)/\h.CodeRec (.ref c) q
 | .met f x=>h.get? a=some (HQ (.ref f) (.ref x))
 | .ext φ=>φ h/\(∃ o,h.get? a=some o)/\∀ h1 h2:Heap,φ h1->(∀ o,h1.get? a=some o->h2.get? a=some o)->φ h2
def HOk (H:Hp) (h:Heap):Prop:=∀ a o,H a=some o->ObjOk P w H h a o
end
section
variable {P:Program} {w:World} {H H':Hp} {h h':Heap} {a:DR} {o:HO}
theorem ObjOk.lt (x:ObjOk P w H h a o):a<h.objs.size:=by
 cases o with
 | lst xs=>obtain⟨_,_,_,_,e⟩:=x;exact Eb e
 | tup xs=>obtain⟨_,_,_,p⟩:=x;exact p.lt
 | dK kvs=>obtain⟨_,_,_,_,o,_,_,e,_⟩:=x;exact Eb e
 | dT kvs=>obtain⟨_,_,_,_,o,_,_,e,_⟩:=x;exact Eb e
 | set S n=>obtain⟨o,_,_,_,e,_⟩:=x;exact Eb e
 | ins C dx fs=>obtain⟨_,_,_,e,_⟩:=x;exact Eb e
 | own y=>obtain⟨_,e⟩:=x;exact Eb e
 | xd fs=>obtain⟨_,⟨_,_,_,e,_⟩,_⟩:=x;exact Eb e
 | rng lo hi=>obtain⟨_,_,_,e⟩:=x;exact Eb e
 | frz ob u=>obtain⟨e,_⟩:=x;exact Eb e
 | tbl q=>obtain⟨_,e,_⟩:=x;exact Eb e
 | met f y=>exact Eb (show h.get? a=some _ from x)
 | ext φ=>obtain⟨_,⟨_,e⟩,_⟩:=x;exact Eb e
theorem Paired.mapP {α β:Type} {F G:α->β->Prop}:∀ {l₁:List α} {l₂:List β},Paired F l₁ l₂->(∀ a b,F a b->G a b)->Paired G l₁ l₂
 | _,_,.nil,_=>.nil
 | _,_,.cons r t,f=>.cons (f _ _ r) (Paired.mapP t f)
theorem ObjOk.stay (x:ObjOk P w H h a o) (k:∀ b u,(b=a \/ H b=some (.own a))->h.get? b=some u->h'.get? b=some u)
  (ho:∀ b,H b=some (.own a)->H' b=some (.own a)) (ht:∀ b xs,H b=some (.tup xs)->H' b=some (.tup xs)):ObjOk P w H' h' a o:=by
 induction o with
 | lst xs=>obtain⟨z,its,n,r,e⟩:=x;exact⟨z,its,n,r,k _ _ (.inl rfl) e⟩
 | tup xs=>obtain⟨z,its,r,ob,e,c⟩:=x;exact⟨z,its,r,ob,k _ _ (.inl rfl) e,c⟩
 | dK kvs=>obtain⟨z,y,vs,r,ob,es,ep,e,c⟩:=x;exact⟨z,y,vs,r,ob,es,ep,k _ _ (.inl rfl) e,c⟩
 | dT kvs =>
  obtain⟨z,y,xs,r,ob,es,ep,e,c⟩:=x;exact⟨z,y,xs,Paired.mapP r fun p q z=>⟨z.1,ht _ _ z.2.1,z.2.2⟩,ob,es,ep,k _ _ (.inl rfl) e,c⟩
 | set S n=>obtain⟨ob,es,ep,t,e,c⟩:=x;exact⟨ob,es,ep,t,k _ _ (.inl rfl) e,c⟩
 | ins C dx fs =>
  obtain⟨d,z,ne,e,mA,⟨od,es,ep,e2,c⟩,r⟩:=x;exact⟨ho _ d,z,ne,k _ _ (.inl rfl) e,mA,⟨od,es,ep,k _ _ (.inr d) e2,c⟩,r⟩
 | own y=>obtain⟨ob,e⟩:=x;exact⟨ob,k _ _ (.inl rfl) e⟩
 | xd fs=>obtain⟨mA,⟨od,es,ep,e,c⟩,r⟩:=x;exact⟨mA,⟨od,es,ep,k _ _ (.inl rfl) e,c⟩,r⟩
 | rng lo hi=>obtain⟨t,u,v,e⟩:=x;exact⟨t,u,v,k _ _ (.inl rfl) e⟩
 | frz ob u ih=>obtain⟨e,q⟩:=x;exact⟨k _ _ (.inl rfl) e,ih q⟩
 | tbl q =>
  obtain⟨ps,e,tr,r⟩:=x;refine⟨ps,k _ _ (.inl rfl) e,tr,fun pos cv z=>?_⟩;obtain⟨c,ec,hc,c2,oc,vs,tq,e2,e3,e4,e5⟩:=r pos cv z;cases e2;exact⟨c,ec,ho _ hc,c,oc,vs,tq,rfl,k _ _ (.inr hc) e3,e4,e5⟩
 | met f y =>
  have e:h.get? a=some (HQ (.ref f) (.ref y)):=x;show h'.get? a=some (HQ (.ref f) (.ref y));exact k a _ (.inl rfl) e
 | ext φ=>obtain⟨p,⟨o,e⟩,st⟩:=x;exact⟨st _ _ p fun o q=>k _ _ (.inl rfl) q,⟨o,k _ _ (.inl rfl) e⟩,st⟩
theorem HOk.lt (x:HOk P w H h) (e:H a=some o):a<h.objs.size:=(x a o e).lt
theorem HOk.fresh (x:HOk P w H h) (e:h.objs.size<=a):H a=none:=by
 cases q:H a with
 | none=>rfl
 | some u=>exact absurd (Eh (x.lt q) e) (FL _)
theorem HOk.kept (x:HOk P w H h) (k:∀ b u,h.get? b=some u->h'.get? b=some u):HOk P w H h':=fun a o e =>
 (x a o e).stay (fun b u _ q=>k b u q) (fun _ q=>q) fun _ _ q=>q
theorem HOk.laid (x:HOk P w H h) (k:∀ b u,h.get? b=some u->h'.get? b=some u) (hp:h.objs.size<=a) (new:ObjOk P w (upd H a o) h' a o):HOk P w (upd H a o) h':=fun b u e=>by
 have hn:=x.fresh hp;by_cases hb:b=a
 ·subst hb;rw [zR] at e;cases e;exact new
 ·rw [zN hb] at e;exact (x b u e).stay (fun c v _ q=>k c v q) (fun c q=>by rw [zN (yd q hn)];exact q) fun c xs q=>by rw [zN (yd q hn)];exact q
end
def Rd (H:Hp) (a:DR) (u:HO):Prop:=H a=some u \/ ∃ o,H a=some (.frz o u)
theorem Rd.ok {P:Program} {w:World} {H:Hp} {h:Heap} {a:DR} {u:HO} (r:Rd H a u) (x:HOk P w H h):ObjOk P w H h a u:=by
 rcases r with r | ⟨o,r⟩
 ·exact x a u r
 ·obtain⟨_,q⟩:=x a _ r;exact q
def Mut:Option HO->Prop
 | some (.lst _)=>True
 | some (.dK _)=>True
 | some (.dT _)=>True
 | some (.set _ _)=>True
 | some (.ins _ _ _)=>True
 | some (.ext _)=>True
 | _=>False
section
variable {P:Program} {w:World} {H:Hp} {h h':Heap} {x e:DR} {o':HO}
theorem HOk.write (ok:HOk P w H h) (mu:Mut (H x)) (he:e=x \/ H e=some (.own x)) (k:∀ b u,b≠e->h.get? b=some u->h'.get? b=some u) (heo:∃ u,h'.get? e=some u)
  (new:ObjOk P w (upd H x o') h' x o'):HOk P w (upd H x o') h':=fun b u q=>by
 have nown:∀ c y,H c=some (.own y)->c≠x:=fun c y r z=>by subst z;rw [r] at mu;exact mu
 have ntup:∀ c xs,H c=some (.tup xs)->c≠x:=fun c xs r z=>by subst z;rw [r] at mu;exact mu
 by_cases hb:b=x
 ·subst hb;rw [zR] at q;cases q;exact new
 ·rw [zN hb] at q;by_cases hbe:b=e
  ·have q':H b=some (.own x):=by
    rcases he with z | z
    ·exact absurd (hbe.trans z) hb
    ·rw [hbe];exact z
   rw [q] at q';cases q';obtain⟨v,hv⟩:=heo;exact⟨v,by rw [hbe];exact hv⟩
  ·refine (ok b u q).stay (fun c v hc r=>k c v ?_ r) (fun c r=>by rw [zN (nown c b r)];exact r) fun c xs r=>by rw [zN (ntup c xs r)];exact r
   rcases hc with rfl | hc
   ·exact hbe
   ·rintro rfl;rcases he with z | z
    ·exact nown c b hc z
    ·rw [hc] at z;cases z;exact hb rfl
end
structure Un (fs ex:List DR) (H H':Hp) (h h':Heap):Prop where
 keep:∀ b o,h.get? b=some o->H b=none->b∉fs->b∉ex->h'.get? b=some o
 slot:∀ b o,h.get? b=some o->H b=none->b∈fs->b∉ex->∃ sl,h'.get? b=some { o with slots:=sl }
 free:∀ b o,h.get? b=some o->H b=none->b∉ex->H' b=none
 there:∀ b o,h.get? b=some o->b∉ex->∃ o',h'.get? b=some o'
 tups:∀ b xs,H b=some (.tup xs)->H' b=some (.tup xs)
 frzs:∀ b o u,H b=some (.frz o u)->H' b=some (.frz o u)
 tbls:∀ b q,H b=some (.tbl q)->H' b=some (.tbl q)
section
variable {fs fs' ex ex':List DR} {H H1 H2:Hp} {h h1 h2 h':Heap} {a x e:DR} {o:HO}
theorem Un.any (u:Un fs ex H H1 h h1) {b:DR} {ob:Obj} (q:h.get? b=some ob) (n:H b=none) (hx:b∉ex):∃ sl,h1.get? b=some { ob with slots:=sl }:=by
 by_cases hb:b∈fs
 ·exact u.slot b ob q n hb hx
 ·exact⟨ob.slots,u.keep b ob q n hb hx⟩
theorem Un.kept (k:∀ b u,h.get? b=some u->h'.get? b=some u):Un fs ex H H h h' :=
 ⟨fun b ob q _ _ _=>k b ob q,fun b ob q _ _ _=>⟨ob.slots,k b ob q⟩,fun _ _ _ n _=>n,fun b ob q _=>⟨ob,k b ob q⟩,fun _ _ q=>q,fun _ _ _ q=>q,fun _ ps q=>by exact q⟩
theorem Un.refl:Un fs ex H H h h:=Un.kept fun _ _ q=>q
theorem Un.laid (k:∀ b u,h.get? b=some u->h'.get? b=some u) (hp:h.objs.size<=a) (hn:H a=none):Un fs ex H (upd H a o) h h' where
 keep:=fun b u q _ _ _=>k b u q
 slot:=fun b u q _ _ _=>⟨u.slots,k b u q⟩
 free:=fun b u q n _=>by rw [zN (Ez (Eh (Eb q) hp))];exact n
 there:=fun b u q _=>⟨u,k b u q⟩
 tups:=fun b xs q=>by rw [zN (yd q hn)];exact q
 frzs:=fun b u xs q=>by rw [zN (yd q hn)];exact q
 tbls:=fun b ps q=>by rw [zN (yd q hn)];exact q
theorem Un.write (mu:Mut (H x)) (he:e=x \/ H e=some (.own x)) (k:∀ b u,b≠e->h.get? b=some u->h'.get? b=some u) (heo:∃ u,h'.get? e=some u):Un fs ex H (upd H x o) h h':=by
 have hx:∀ b,H b=none->b≠x:=fun b n z=>by subst z;rw [n] at mu;exact mu
 have hb:∀ b,H b=none->b≠e:=fun b n z=>by
  subst z;rcases he with r | r
  ·exact hx b n r
  ·rw [n] at r;cases r
 have hm:∀ b u,H b=some u->¬ Mut (some u)->b≠x:=fun b u q nm z=>by subst z;rw [q] at mu;exact nm mu
 refine⟨fun b u q n _ _=>k b u (hb b n) q,fun b u q n _ _=>⟨u.slots,k b u (hb b n) q⟩,fun b u q n _=>by rw [zN (hx b n)];exact n,fun b u q _=>?_,
  fun b xs q=>by rw [zN (hm b _ q fun z=>z)];exact q,fun b u xs q=>by rw [zN (hm b _ q fun z=>z)];exact q,fun b ps q=>by rw [zN (hm b _ q fun z=>z)];exact q⟩
 by_cases hbe:b=e
 ·subst hbe;exact heo
 ·exact⟨u,k b u hbe q⟩
end
noncomputable def trk (h:Heap) (H:Hp):List DR:=(Ec h.objs.size).filter fun a=>(H a).isSome
noncomputable def iT (h:Heap) (H:Hp):Heap:=PySem.W.hideAll h (trk h H)
theorem o8 (h:Heap) (H:Hp):(iT h H).objs.size=h.objs.size:=PySem.W.hideAll_size _ _
theorem dO {h:Heap} {H:Hp} {b:DR} {o:Obj} (e:h.get? b=some o) (n:H b=none):(iT h H).get? b=some o :=
 PySem.W.hideAll_get _ e fun hm=>by
  have q:(H b).isSome=true:=(E3.mp hm).2;rw [n] at q;simp at q
theorem xc {h:Heap} {H:Hp} {b:DR} {o:Obj} (e:(iT h H).get? b=some o):h.get? b=some o/\H b=none:=by
 have e':h.get? b=some o:=PySem.W.of_hideAll (trk h H) e;refine⟨e',?_⟩;cases q:H b with
 | none=>rfl
 | some x =>
  have hm:b∈trk h H:=E3.mpr ⟨Es.mpr (Eb e'),by simp [q]⟩;have z:(iT h H).get? b=none:=PySem.W.hideAll_none (trk h H) hm;rw [z] at e;cases e
noncomputable def xf (g h:Heap) (L:DR):List (DR×Obj):=(Ec h.objs.size).filterMap fun a=>if a=L \/ (g.get? a).isSome=true then none else (h.get? a).map fun o=>(a,o)
noncomputable def rest (g h:Heap) (L d:DR):List (DR×Obj):=(xf g h L).filter fun p=>decide (p.1≠d)
structure Mod (K:DP) (mg:Str->Option Value) (base:Heap):Prop where
 kin:K.In base
 glob:base.Ns El mg
 blt:∃ mb,base.Ns builtinsNs mb/\∀ x:Str,x ≠ "__name__"->mb x=bootBuiltins x
 nolimit:base.NoLimit
 bm:∃ b o,mg "__builtins__"=some (.ref b)/\b≠builtinsNs/\base.get? b=some o/\o.cls=.type "module"/\o.dict=some builtinsNs/\o.data=.plain
structure Cx where
 prog:Program
 w:World
 K:DP
 mg:Str->Option Value
 base:Heap
 A:Around
 N:List Str
 s₀:Shared
 H₀:Hp
 env:Env
 outer:List Env
 stack:List Env
 ex:List DR
 fn:Str->Bool
 calm:Bool
 pn:List (DR×Obj)
 xe:Value->Shared->Prop
noncomputable def frs (l:List Env):List DR:=l.filterMap (·.frame)
noncomputable abbrev Cx.fs (X:Cx):List DR:=frs X.outer
def Vis (sc:Scope) (x:Str):Prop:=sc.names.lookup x=some .local \/ sc.names.lookup x=some .cell \/ sc.names.lookup x=some .free
def Loc (sc:Scope) (x:Str):Prop:=sc.names.lookup x=some .local \/ sc.names.lookup x=some .cell
def Look (env:Env) (h:Heap) (m:Str->Option Value) (x:Str) (u:Value):Prop :=
 (env.kindOf x=some .local/\m x=some u) \/ ((env.kindOf x=some .cell \/ env.kindOf x=some .free)/\∃ c,env.cells.lookup x=some c/\h.IsCell c (some u))
noncomputable def gE:List Str:=["least_kept","pair_beside","peaks"]
noncomputable def Bl (q:Str):Str:=(q ++ ".<locals>.") ++ "<lambda>"
def TabsOk (K:DP) (H:Hp):Prop:=∀ c P q,q∈gE->GC K c P=true->Gw K (.ref c) q=true->H P=some (.tbl (Bl q))
structure Cx.Ok (X:Cx):Prop where
 mod:Mod X.K X.mg X.base
 kind:X.env.scope.kind=.function
 glob:X.env.globals=El
 blt:X.env.builtins=builtinsNs
 above:X.s₀.heap.objs.size<=X.env.locals
 inj:∀ x y c,X.env.cells.lookup x=some c->X.env.cells.lookup y=some c->x=y
 has:∀ x,(X.env.kindOf x=some .cell \/ X.env.kindOf x=some .free)->∃ c,X.env.cells.lookup x=some c
 cab:∀ x c,X.fn x=true->X.env.cells.lookup x=some c->X.s₀.heap.objs.size<=c
 hd:X.calm=true->X.A.handled=none
 frames:X.A.frames=some X.stack
 stk:X.stack=X.outer \/ (X.stack=X.env :: X.outer/\X.env.frame=some X.env.locals)
 exf:∀ b∈X.ex,b≠X.env.locals/\∀ x c,X.env.cells.lookup x=some c->c≠b
 bs:∀ b o,X.base.get? b=some o->X.s₀.heap.get? b=some o/\X.H₀ b=none
 bsz:X.base.objs.size<=X.s₀.heap.objs.size
 noex:∀ b o,X.base.get? b=some o->b∉X.ex
 exfs:∀ b∈X.ex,b∉X.fs
 funs:X.s₀.heap.FunFrames X.base X.outer
 frf:∀ b∈X.fs,X.H₀ b=none
 tabs:TabsOk X.K X.H₀
structure Inv (X:Cx) (Jn:List (DR×Obj)) (σ:List (Option V)) (H:Hp) (s:Shared):Prop where
 ok:X.Ok
 os:s.os=X.s₀.os
 bare:AllBare s.gens
 base:Un X.fs X.ex X.H₀ H X.s₀.heap s.heap
 loc:∃ m,s.heap.Ns X.env.locals m/\∀ (i:Nat) (x:Str) (v:V),X.N[i]?=some x->σ[i]?=some (some v)->Vis X.env.scope x->∃ u,RelV v u/\Look X.env s.heap m x u
 cell:∀ x c,X.env.cells.lookup x=some c->∃ v,s.heap.IsCell c v
 free:H X.env.locals=none
 freeC:∀ x c,X.env.cells.lookup x=some c->H c=none
 pin:∀ p∈X.pn++Jn,s.heap.get? p.1=some p.2/\H p.1=none/\p.1≠X.env.locals/\p.1∉X.fs/\∀ v,p.2.data≠.cell v
 hok:HOk X.prog X.w H s.heap
 len:σ.length=X.N.length
section
variable {X:Cx} {Jn:List (DR×Obj)} {σ:List (Option V)} {H H':Hp} {s:Shared} {h':Heap}
theorem Cx.Ok.nofr (ok:X.Ok) {b:DR} {o:Obj} (e:X.base.get? b=some o):b∉X.fs:=fun hb=>by
 have:=(ok.funs.mem hb).1;rw [e] at this;cases this
theorem Inv.bs (I:Inv X Jn σ H s):∀ b o,X.base.get? b=some o->s.heap.get? b=some o/\H b=none:=fun b o e =>
 ⟨I.base.keep b o (I.ok.bs b o e).1 (I.ok.bs b o e).2 (I.ok.nofr e) (I.ok.noex b o e),I.base.free b o (I.ok.bs b o e).1 (I.ok.bs b o e).2 (I.ok.noex b o e)⟩
theorem Inv.bk (I:Inv X Jn σ H s):∀ b o,X.base.get? b=some o->s.heap.get? b=some o:=fun b o e=>(I.bs b o e).1
theorem Inv.mod (I:Inv X Jn σ H s):Mod X.K X.mg X.base:=I.ok.mod
theorem Inv.kIn (I:Inv X Jn σ H s):X.K.In s.heap:=I.ok.mod.kin.keeps I.bk
theorem Inv.fr (I:Inv X Jn σ H s):∃ m,Fr X.base X.env.locals s.heap m :=
 let⟨m,hn,_⟩:=I.loc
 ⟨m,hn,I.bk,Em I.ok.bsz I.ok.above⟩
theorem Inv.lt (I:Inv X Jn σ H s):X.env.locals<s.heap.objs.size:=let⟨_,hn,_⟩:=I.loc;hn.lt
theorem Inv.sz (I:Inv X Jn σ H s):X.s₀.heap.objs.size<=s.heap.objs.size:=Em I.ok.above (Fd I.lt)
theorem Inv.nofs (I:Inv X Jn σ H s) {a:DR} (h:s.heap.objs.size<=a):a∉X.fs:=fun hb=>by
 obtain⟨_,o,ho,_⟩:=I.ok.funs.mem hb;exact absurd (Eh (Eb ho) (Em I.sz h)) (FL _)
theorem Inv.cne (I:Inv X Jn σ H s):∀ x c,X.env.cells.lookup x=some c->c≠X.env.locals:=fun x c e z=>by
 obtain⟨v,o,ho,hd⟩:=I.cell x c e;obtain⟨m,⟨o',es,ep,ho',hd',_⟩,_⟩:=I.loc;rw [z,ho'] at ho;cases ho;rw [hd'] at hd;cases hd
theorem Inv.funs (I:Inv X Jn σ H s):s.heap.FunFrames X.base X.outer:=by
 have all:∀ (l:List Env),(∀ b∈frs l,b∈X.fs)->X.s₀.heap.FunFrames X.base l->s.heap.FunFrames X.base l:=by
  intro l
  induction l with
  | nil=>intro _ _;trivial
  | cons env r ih =>
   intro hs hl;obtain⟨hk,⟨L,o,hf,hn,ho,hd⟩,hr⟩:=hl;have hL:L∈X.fs:=hs L (by unfold frs;rw [GN,hf];exact DZ);obtain⟨sl,e⟩:=I.base.slot L o ho (I.ok.frf L hL) hL fun z=>I.ok.exfs L z hL;exact⟨hk,⟨L,_,hf,hn,e,hd⟩,ih (fun b hb=>hs b (by unfold frs;rw [GN,hf];exact DT _ hb)) hr⟩
 exact all X.outer (fun _ hb=>hb) I.ok.funs
theorem Inv.stack (I:Inv X Jn σ H s):s.heap.FunFrames X.base X.stack:=by
 rcases I.ok.stk with e | ⟨e,hf⟩
 ·rw [e];exact I.funs
 ·rw [e];obtain⟨m,hn,_⟩:=I.loc;refine .cons (by rw [I.ok.kind];decide) hf hn ?_ I.funs;exact Heap.get?_none_of_le (Em I.ok.bsz I.ok.above)
theorem Inv.stkSub (I:Inv X Jn σ H s):∀ b∈frs X.stack,b∈X.env.locals :: X.fs:=fun b hb=>by
 rcases I.ok.stk with e | ⟨e,hf⟩
 ·rw [e] at hb;exact DT _ hb
 ·rw [e] at hb;unfold frs at hb;rw [GN,hf] at hb;exact hb
theorem Inv.stkFree (I:Inv X Jn σ H s):∀ b∈frs X.stack,H b=none:=fun b hb=>by
 rcases D0.mp (I.stkSub b hb) with e | hb
 ·rw [e];exact I.free
 ·obtain⟨_,o,ho,_⟩:=I.ok.funs.mem hb;exact I.base.free b o ho (I.ok.frf b hb) fun z=>I.ok.exfs b z hb
theorem Inv.step {g':Array GenState} {t':Nat} {d':Drawn} {ch:List DR} (I:Inv X Jn σ H s)
  (hch:∀ b∈ch,(b∈X.ex \/ X.s₀.heap.objs.size<=b)/\b≠X.env.locals/\(∀ x c,X.env.cells.lookup x=some c->c≠b)/\∀ p∈X.pn++Jn,p.1≠b)
  (keep:∀ b o,b≠X.env.locals->b∉X.fs->b∉ch->s.heap.get? b=some o->H b=none->h'.get? b=some o)
  (slot:∀ b o,b≠X.env.locals->b∈X.fs->b∉ch->s.heap.get? b=some o->H b=none->∃ sl,h'.get? b=some { o with slots:=sl }) (free:∀ b o,b∉ch->s.heap.get? b=some o->H b=none->H' b=none)
  (there:∀ b o,b∉ch->s.heap.get? b=some o->∃ o',h'.get? b=some o')
  (tups:∀ b xs,H b=some (.tup xs)->H' b=some (.tup xs)) (frzs:∀ b o u,H b=some (.frz o u)->H' b=some (.frz o u)) (tbls:∀ b q,H b=some (.tbl q)->H' b=some (.tbl q))
  (ns:∀ m,s.heap.Ns X.env.locals m->h'.Ns X.env.locals m) (hok:HOk X.prog X.w H' h') (hg:AllBare g') :
  Inv X Jn σ H' { s with heap:=h',gens:=g',drawn:=d',toks:=t' }:=by
 have neL:∀ b o,X.s₀.heap.get? b=some o->b≠X.env.locals:=fun b o e=>Ez (Eh (Eb e) I.ok.above);have neC:∀ b o,X.s₀.heap.get? b=some o->b∉X.ex->b∉ch:=fun b o e hx hb=>by
  rcases (hch b hb).1 with z | z
  ·exact hx z
  ·exact absurd (Eh (Eb e) z) (FL _)
 have cellK:∀ x c,X.env.cells.lookup x=some c->∀ v,s.heap.IsCell c v->h'.IsCell c v:=fun x c e v ⟨o,ho,hd⟩=>by
  have nch:c∉ch:=fun z=>(hch c z).2.2.1 x c e rfl;by_cases hc:c∈X.fs
  ·obtain⟨sl,q⟩:=slot c o (I.cne x c e) hc nch ho (I.freeC x c e);exact⟨_,q,hd⟩
  ·exact⟨o,keep c o (I.cne x c e) hc nch ho (I.freeC x c e),hd⟩
 refine⟨I.ok,I.os,hg,⟨fun b o e n hb hx=>?_,fun b o e n hb hx=>?_,fun b o e n hx=>?_,fun b o e hx=>?_,fun b xs e=>tups b xs (I.base.tups b xs e),fun b o xs e=>frzs b o xs (I.base.frzs b o xs e),fun b ps e=>?_⟩,?_,fun x c e=>?_,?_,fun x c e=>?_,fun p hp=>?_,hok,I.len⟩
 ·exact keep b o (neL b o e) hb (neC b o e hx) (I.base.keep b o e n hb hx) (I.base.free b o e n hx)
 ·obtain⟨sl,e1⟩:=I.base.slot b o e n hb hx;obtain⟨sl',e2⟩:=slot b _ (neL b o e) hb (neC b o e hx) e1 (I.base.free b o e n hx);exact⟨sl',e2⟩
 ·obtain⟨o',e1⟩:=I.base.there b o e hx;exact free b o' (neC b o e hx) e1 (I.base.free b o e n hx)
 ·obtain⟨o',e1⟩:=I.base.there b o e hx;exact there b o' (neC b o e hx) e1
 ·exact tbls b _ (I.base.tbls b _ e)
 ·obtain⟨m,hn,hl⟩:=I.loc;refine⟨m,ns m hn,fun i x v e1 e2 e3=>?_⟩;obtain⟨u,r,l⟩:=hl i x v e1 e2 e3;refine⟨u,r,?_⟩;rcases l with l | ⟨k,c,e,z⟩
  ·exact .inl l
  ·exact .inr ⟨k,c,e,cellK x c e _ z⟩
 ·obtain⟨v,z⟩:=I.cell x c e;exact⟨v,cellK x c e v z⟩
 ·obtain⟨m,⟨o,_,_,ho,_⟩,_⟩:=I.loc;exact free _ o (fun z=>(hch _ z).2.1 rfl) ho I.free
 ·obtain⟨v,o,ho,hd⟩:=I.cell x c e;exact free c o (fun z=>(hch c z).2.2.1 x c e rfl) ho (I.freeC x c e)
 ·obtain⟨e,n,ne,nf,d⟩:=I.pin p hp;have nch:p.1∉ch:=fun z=>(hch p.1 z).2.2.2 p hp rfl;exact⟨keep p.1 p.2 ne nf nch e n,free p.1 p.2 nch e n,ne,nf,d⟩
theorem Inv.un {t':Nat} (I:Inv X Jn σ H s) (u:Un X.fs [] H H' s.heap h') (hok:HOk X.prog X.w H' h'):Inv X Jn σ H' { s with heap:=h',toks:=t' }:=by
 obtain⟨m,⟨o,es,ep,ho,r⟩,_⟩:=id I.loc;obtain⟨sl,hL⟩:=u.any ho I.free (by simp);exact I.step (g':=s.gens) (d':=s.drawn) (ch:=[]) (fun _ z=>nomatch z) (fun b o _ hb _ e n=>u.keep b o e n hb (by simp)) (fun b o _ hb _ e n=>u.slot b o e n hb (by simp)) (fun b o _ e n=>u.free b o e n (by simp)) (fun b o _ e=>u.there b o e (by simp)) u.tups u.frzs u.tbls (fun m' hm=>by
  obtain⟨o',es',ep',ho',r'⟩:=hm;rw [ho] at ho';cases ho';exact⟨_,es',ep',hL,r'⟩) hok I.bare
theorem Inv.call {g':Array GenState} {t':Nat} {d':Drawn} {ch:List DR} (I:Inv X Jn σ H s) (u:Un (frs X.stack) ch H H' s.heap h') (hok:HOk X.prog X.w H' h') (hg:AllBare g')
  (hch:∀ b∈ch,(b∈X.ex \/ X.s₀.heap.objs.size<=b)/\b≠X.env.locals/\(∀ x c,X.env.cells.lookup x=some c->c≠b)/\∀ p∈X.pn++Jn,p.1≠b) :
  Inv X Jn σ H' { s with heap:=h',gens:=g',drawn:=d',toks:=t' }:=by
 obtain⟨m,⟨o,es,ep,ho,r⟩,_⟩:=id I.loc;obtain⟨sl,hL⟩:=u.any ho I.free fun z=>(hch _ z).2.1 rfl;exact I.step (ch:=ch) hch (fun b o hL hb hc e n=>u.keep b o e n (fun z=>(D0.mp (I.stkSub b z)).elim hL hb) hc) (fun b o _ _ hc e n=>u.any e n hc) (fun b o hc e n=>u.free b o e n hc) (fun b o hc e=>u.there b o e hc) u.tups u.frzs u.tbls (fun m' hm=>by
  obtain⟨o',es',ep',ho',r'⟩:=hm;rw [ho] at ho';cases ho';exact⟨_,es',ep',hL,r'⟩) hok hg
theorem Inv.turned {t':Nat} {it:DR} (I:Inv X Jn σ H s) (k:∀ b o,b≠it->s.heap.get? b=some o->h'.get? b=some o) (hn:H it=none) (hL:it≠X.env.locals)
  (h1:it∈X.ex \/ X.s₀.heap.objs.size<=it) (h2:∀ x c,X.env.cells.lookup x=some c->c≠it) (h3:∀ p∈X.pn++Jn,p.1≠it):Inv X Jn σ H { s with heap:=h',toks:=t' }:=by
 have nit:∀ b u,H b=some u->b≠it:=fun b u e z=>by rw [z,hn] at e;cases e
 refine I.step (g':=s.gens) (d':=s.drawn) (ch:=[it]) (fun b hb=>?_) (fun b o _ _ hc e _=>k b o (fun z=>hc (by simp [z])) e) (fun b o _ _ hc e _=>⟨o.slots,k b o (fun z=>hc (by simp [z])) e⟩) (fun _ _ _ _ n=>n)
  (fun b o hc e=>⟨o,k b o (fun z=>hc (by simp [z])) e⟩) (fun _ _ e=>e) (fun _ _ _ e=>e) (fun b ps e=>by exact e) (fun m hm=>?_) (fun b u e=>?_) I.bare
 ·have e:b=it:=by simpa using hb
  subst e;exact⟨h1,hL,h2,h3⟩
 ·obtain⟨o,es,ep,ho,r⟩:=hm;exact⟨o,es,ep,k _ o (EW hL) ho,r⟩
 ·refine (I.hok b u e).stay (fun c v hc q=>k c v ?_ q) (fun _ q=>q) fun _ _ q=>q;rcases hc with z | z
  ·rw [z];exact nit b u e
  ·exact nit c _ z
theorem Inv.tok (I:Inv X Jn σ H s) (t:Nat):Inv X Jn σ H { s with toks:=t }:=I.un (h':=s.heap) (t':=t) Un.refl I.hok
theorem Inv.kept {t':Nat} (I:Inv X Jn σ H s) (k:∀ b u,s.heap.get? b=some u->h'.get? b=some u):Inv X Jn σ H { s with heap:=h',toks:=t' }:=I.un (Un.kept k) (I.hok.kept k)
theorem Inv.laid {a:DR} {o:HO} {t':Nat} (I:Inv X Jn σ H s) (k:∀ b u,s.heap.get? b=some u->h'.get? b=some u) (hp:s.heap.objs.size<=a) (new:ObjOk X.prog X.w (upd H a o) h' a o) :
  Inv X Jn σ (upd H a o) { s with heap:=h',toks:=t' }:=I.un (Un.laid k hp (I.hok.fresh hp)) (I.hok.laid k hp new)
theorem Inv.write {x e:DR} {o:HO} {t':Nat} (I:Inv X Jn σ H s) (mu:Mut (H x)) (he:e=x \/ H e=some (.own x)) (k:∀ b u,b≠e->s.heap.get? b=some u->h'.get? b=some u) (heo:∃ u,h'.get? e=some u)
  (new:ObjOk X.prog X.w (upd H x o) h' x o):Inv X Jn σ (upd H x o) { s with heap:=h',toks:=t' }:=I.un (Un.write mu he k heo) (I.hok.write mu he k heo new)
theorem Inv.pins_of {pins':List (DR×Obj)} (I:Inv X Jn σ H s) (h:∀ p∈pins',s.heap.get? p.1=some p.2/\H p.1=none/\p.1≠X.env.locals/\p.1∉X.fs/\∀ v,p.2.data≠.cell v):Inv X pins' σ H s :=
 ⟨I.ok,I.os,I.bare,I.base,I.loc,I.cell,I.free,I.freeC,fun p hp=>(Ep.mp hp).elim (fun z=>I.pin p (ES _ z)) (h p),I.hok,I.len⟩
theorem iU {N:List Str} (hN:N.Nodup) {i j:Nat} {x:Str} (a:N[i]?=some x) (b:N[j]?=some x):i=j:=by
 obtain⟨h1,e1⟩:=DN.mp a;obtain⟨h2,e2⟩:=DN.mp b;exact (GD hN).mp (e1.trans e2.symm)
theorem fB {M:Model} {A:Around} {E:Value->Shared->Prop} {i:Nat} {x:Str} {v:V} {u:Value} {Q:Unit->Shared->Prop} (I:Inv X Jn σ H s) (hN:X.N.Nodup) (hi:X.N[i]?=some x) (hx:Loc X.env.scope x) (r:RelV v u)
  (h:∀ s',Inv X Jn (σ.set i (some v)) H s'->(∃ a,Gg a s.heap s'.heap/\(a=X.env.locals \/ X.env.cells.lookup x=some a))->Q () s') (hf:X.fn x=true \/ X.env.scope.names.lookup x=some .local:=by first | exact .inl rfl | exact .inr rfl | assumption):Ef M A (storeName X.env x u) Q E s:=by
 obtain⟨m,hn,hl⟩:=id I.loc;have hcls:(X.env.scope.kind == .class || (X.env.scope.kind == .module && X.env.locals != X.env.globals))=false:=by rw [I.ok.kind];rfl
 have hiσ:i<σ.length:=by rw [I.len];exact (DN.mp hi).1
 have cne:=I.cne;have tracked:∀ {a:DR} {h':Heap},(∃ o,s.heap.get? a=some o/\H a=none)->Gg a s.heap h'->HOk X.prog X.w H h':=fun {a h'} ha hs b ob e=>by
  obtain⟨_,_,hfree⟩:=ha;refine (I.hok b ob e).stay (fun c w' hc q=>(hs.2 c ?_).trans q) (fun _ q=>q) fun _ _ q=>q;rintro rfl;rcases hc with rfl | hc
  ·rw [hfree] at e;cases e
  ·rw [hfree] at hc;cases hc
 rcases hx with hk | hk
 ·refine wpAny_storeName_local hk hn (fun h' hn' hs=>?_) hcls;obtain⟨oL,_,_,hoL,_⟩:=id hn;refine h _ ⟨I.ok,I.os,I.bare,⟨fun b o e n hb hx=>?_,fun b o e n hb hx=>?_,I.base.free,fun b o e hx=>?_,I.base.tups,I.base.frzs,I.base.tbls⟩,⟨_,hn',fun j y v' e1 e2 e3=>?_⟩,fun y c e=>?_,I.free,I.freeC,fun p hp=>?_,tracked ⟨oL,hoL,I.free⟩ hs,by simpa using I.len⟩ ⟨_,hs,.inl rfl⟩
  ·exact (hs.2 b (Ez (Eh (Eb e) I.ok.above))).trans (I.base.keep b o e n hb hx)
  ·obtain⟨sl,e1⟩:=I.base.slot b o e n hb hx;exact⟨sl,(hs.2 b (Ez (Eh (Eb e) I.ok.above))).trans e1⟩
  ·obtain⟨o',e1⟩:=I.base.there b o e hx;exact⟨o',(hs.2 b (Ez (Eh (Eb e) I.ok.above))).trans e1⟩
  ·by_cases hj:j=i
   ·subst hj;rw [hi] at e1;cases e1;rw [Fi hiσ] at e2;cases e2;exact⟨u,r,.inl ⟨hk,by simp⟩⟩
   ·rw [FY (EW hj)] at e2;obtain⟨u',r',q⟩:=hl j y v' e1 e2 e3;refine⟨u',r',?_⟩;rcases q with⟨k,e⟩ | ⟨k,c,e,z⟩
    ·refine .inl ⟨k,?_⟩;have:y≠x:=fun e=>hj (iU hN e1 (e▸hi));simp [this,e]
    ·exact .inr ⟨k,c,e,z.sameBut hs (cne y c e)⟩
  ·obtain⟨w',z⟩:=I.cell y c e;exact⟨w',z.sameBut hs (cne y c e)⟩
  ·obtain⟨e,n,ne,nf,d⟩:=I.pin p hp;exact⟨(hs.2 p.1 ne).trans e,n,ne,nf,d⟩
 ·have hfn:X.fn x=true:=by
   rcases hf with z | z
   ·exact z
   ·rw [z] at hk;cases hk
  obtain⟨c,hc⟩:=I.ok.has x (.inl hk);obtain⟨w',z⟩:=I.cell x c hc;refine wpAny_storeName_cell I.ok.kind hk hc z (fun h' hc' hs=>?_);obtain⟨oc,hoc,hocd⟩:=id z;refine h { s with heap:=h' } ⟨I.ok,I.os,I.bare,⟨fun b o e n hb hx=>?_,fun b o e n hb hx=>?_,I.base.free,fun b o e hx=>?_,I.base.tups,I.base.frzs,I.base.tbls⟩,⟨m,hn.sameBut hs (EW (cne x c hc)),fun j y v' e1 e2 e3=>?_⟩,fun y c' e=>?_,I.free,I.freeC,fun p hp=>?_,tracked ⟨oc,hoc,I.freeC x c hc⟩ hs,by simpa using I.len⟩ ⟨c,hs,.inr hc⟩
  ·exact (hs.2 b (Ez (Eh (Eb e) (I.ok.cab x c hfn hc)))).trans (I.base.keep b o e n hb hx)
  ·obtain⟨sl,e1⟩:=I.base.slot b o e n hb hx;exact⟨sl,(hs.2 b (Ez (Eh (Eb e) (I.ok.cab x c hfn hc)))).trans e1⟩
  ·obtain⟨o',e1⟩:=I.base.there b o e hx;exact⟨o',(hs.2 b (Ez (Eh (Eb e) (I.ok.cab x c hfn hc)))).trans e1⟩
  ·by_cases hj:j=i
   ·subst hj;rw [hi] at e1;cases e1;rw [Fi hiσ] at e2;cases e2;exact⟨u,r,.inr ⟨.inl hk,c,hc,hc'⟩⟩
   ·rw [FY (EW hj)] at e2;obtain⟨u',r',q⟩:=hl j y v' e1 e2 e3;refine⟨u',r',?_⟩;rcases q with q | ⟨k,c',e,z'⟩
    ·exact .inl q
    ·refine .inr ⟨k,c',e,z'.sameBut hs ?_⟩;rintro rfl;exact hj (iU hN e1 (I.ok.inj _ _ _ e hc▸hi))
  ·by_cases hcc:c'=c
   ·subst hcc;exact⟨_,hc'⟩
   ·obtain⟨w2,z2⟩:=I.cell y c' e;exact⟨w2,z2.sameBut hs hcc⟩
  ·obtain⟨e,n,ne,nf,d⟩:=I.pin p hp;refine⟨(hs.2 p.1 ?_).trans e,n,ne,nf,d⟩;intro q;rw [q,hoc] at e;have q':oc=p.2:=Option.some.inj e;exact d w' (by rw [<-q'];exact hocd)
theorem bF {M:Model} {A:Around} {E:Value->Shared->Prop} {i:Nat} {x:Str} {v:V} {u:Value} {Q:Unit->Shared->Prop} (I:Inv X Jn σ H s) (hN:X.N.Nodup) (hi:X.N[i]?=some x) (hx:Loc X.env.scope x) (r:RelV v u)
  (h:∀ s',Inv X Jn (σ.set i (some v)) H s'->Q () s') (hf:X.fn x=true \/ X.env.scope.names.lookup x=some .local:=by first | exact .inl rfl | exact .inr rfl | assumption):Ef M A (storeName X.env x u) Q E s :=
 fB I hN hi hx r (fun s' I' _=>h s' I') hf
theorem Inv.call' {s':Shared} {ch:List DR} (I:Inv X Jn σ H s) (ho:s'.os=s.os) (u:Un (frs X.stack) ch H H' s.heap s'.heap) (hok:HOk X.prog X.w H' s'.heap) (hg:AllBare s'.gens)
  (hch:∀ b∈ch,(b∈X.ex \/ X.s₀.heap.objs.size<=b)/\b≠X.env.locals/\(∀ x c,X.env.cells.lookup x=some c->c≠b)/\∀ p∈X.pn++Jn,p.1≠b):Inv X Jn σ H' s':=by
 obtain⟨h',g',d',t',o'⟩:=s';have e:o'=s.os:=ho;subst e;exact I.call (g':=g') (t':=t') (d':=d') u hok hg hch
end
abbrev XK:=Value->Option DR->Hp->Prop
abbrev St:=List (Option V)
abbrev VK:=V->Hp->Prop
abbrev TE:=St->Hp->VK->Prop
noncomputable abbrev TT:=St->Hp->(Bool->Hp->Prop)->Prop
abbrev TA:=St->Hp->(List V->Hp->Prop)->Prop
structure Ends where
 nx:St->Hp->Prop
 rt:VK
 bk:St->Hp->Prop:=fun _ _=>False
 ct:St->Hp->Prop:=fun _ _=>False
abbrev TS:=Ends->St->Hp->Prop
def EP (X:Cx) (Jn:List (DR×Obj)) (σ:St) (Q:VK) (u:Value) (s':Shared):Prop:=∃ v H',Inv X Jn σ H' s'/\RelV v u/\Q v H'
def TP (X:Cx) (Jn:List (DR×Obj)) (σ:St) (Q:Bool->Hp->Prop) (b:Bool) (s':Shared):Prop:=∃ H',Inv X Jn σ H' s'/\Q b H'
def AP (X:Cx) (Jn:List (DR×Obj)) (σ:St) (Q:List V->Hp->Prop) (us:List Value) (s':Shared):Prop:=∃ vs H',Inv X Jn σ H' s'/\Vals vs us/\Q vs H'
def SP (X:Cx) (Jn:List (DR×Obj)) (D:Ends) (f:Flow) (s':Shared):Prop :=
 match f with
 | .next=>∃ σ' H',Inv X Jn σ' H' s'/\D.nx σ' H'
 | .brk=>∃ σ' H',Inv X Jn σ' H' s'/\D.bk σ' H'
 | .cont=>∃ σ' H',Inv X Jn σ' H' s'/\D.ct σ' H'
 | .ret u=>∃ v σ' H',Inv X Jn σ' H' s'/\RelV v u/\D.rt v H'
def PE (X:Cx) (e:Expr) (t:TE):Prop :=
 ∀ (Jn:List (DR×Obj)) (s:Shared) (σ:St) (H:Hp) (Q:VK),Inv X Jn σ H s->t σ H Q->Ef (model X.prog X.w) X.A (eval e X.env) (EP X Jn σ Q) X.xe s
def PT (X:Cx) (e:Expr) (t:TT):Prop :=
 ∀ (Jn:List (DR×Obj)) (s:Shared) (σ:St) (H:Hp) (Q:Bool->Hp->Prop),Inv X Jn σ H s->t σ H Q->Ef (model X.prog X.w) X.A (isTrue e X.env (eval e X.env)) (TP X Jn σ Q) X.xe s
def PW (X:Cx) (e:Expr) (t:TT):Prop :=
 ∀ (whole:Sem Value) (Jn:List (DR×Obj)) (s:Shared) (σ:St) (H:Hp) (Q:Bool->Hp->Prop),Inv X Jn σ H s->t σ H Q->Ef (model X.prog X.w) X.A (isTrue e X.env whole) (TP X Jn σ Q) X.xe s
theorem PW.pt {X:Cx} {e:Expr} {t:TT} (h:PW X e t):PT X e t:=h _
def PA (X:Cx) (es:List Expr) (t:TA):Prop :=
 ∀ (pos:Pos) (Jn:List (DR×Obj)) (s:Shared) (σ:St) (H:Hp) (Q:List V->Hp->Prop),Inv X Jn σ H s->t σ H Q->Ef (model X.prog X.w) X.A (spliced (backTo pos (EN es X.env))) (AP X Jn σ Q) X.xe s
def PS (X:Cx) (st:Stmt) (t:TS):Prop :=
 ∀ (Jn:List (DR×Obj)) (s:Shared) (σ:St) (H:Hp) (D:Ends),Inv X Jn σ H s->t D σ H->Ef (model X.prog X.w) X.A (exec st X.env) (SP X Jn D) X.xe s
def PSs (X:Cx) (st:List Stmt) (t:TS):Prop :=
 ∀ (Jn:List (DR×Obj)) (s:Shared) (σ:St) (H:Hp) (D:Ends),Inv X Jn σ H s->t D σ H->Ef (model X.prog X.w) X.A (execs st X.env) (SP X Jn D) X.xe s
theorem thn {α:Type} {t:Sem α} {Q Q':α->Shared->Prop} {M:Model} {A:Around} {E:Value->Shared->Prop} {s:Shared} (h:Ef M A t Q E s) (hQ:∀ a s,Q a s->Q' a s):Ef M A t Q' E s:=FE h hQ fun _ _ x=>x
section
variable {X:Cx}
def z6 (i:Nat):TE:=fun σ H Q=>∃ v,σ[i]?=some (some v)/\Q v H
def tC (v:V):TE:=fun _ H Q=>Q v H
theorem Bm {i:Nat} {x:Str} {pos:Pos} (hN:X.N[i]?=some x) (hv:Vis X.env.scope x) (hd:(x == ("__debug__":Str))=false:=by decide) (hcd:(x == ("__classdict__":Str))=false:=by decide):PE X (.Name x pos) (z6 i):=by
 intro Jn s σ H Q I h;obtain⟨v,e,h⟩:=h;obtain⟨m,hn,hl⟩:=I.loc;obtain⟨u,r,l⟩:=hl i x v hN e hv;have fin:EP X Jn σ Q u s:=⟨v,H,I,r,h⟩;rcases l with⟨hk,hm⟩ | ⟨hk,c,hc,hcell⟩
 ·exact wpAny_Name (wpAny_loadName_local I.ok.kind hk hn hm fin) hd
 ·rcases hk with hk | hk
  ·exact wpAny_Name (wpAny_loadName_cell I.ok.kind hk hc hcell fin) hd
  ·exact wpAny_Name (wpAny_loadName_free I.ok.kind hk hc hcell fin hcd) hd
theorem zc {i j pos}:PE X (.Constant (.int i) j pos) (tC (.int i)):=fun _ _ _ H _ I h=>wpAny_Constant_int ⟨.int i,H,I.tok _,⟨_,rfl⟩,h⟩
theorem bb {b j pos}:PE X (.Constant (.bool b) j pos) (tC (.bl b)):=fun _ _ _ H _ I h=>Constant_bool ⟨.bl b,H,I,rfl,h⟩
theorem bt {j pos}:PE X (.Constant .none j pos) (tC .non):=fun _ _ _ H _ I h=>Constant_none ⟨.non,H,I,rfl,h⟩
theorem vd {x j pos}:PE X (.Constant (.str x) j pos) (tC (.str x)):=fun _ _ _ H _ I h=>Calls.Constant_str ⟨.str x,H,I.tok _,⟨_,rfl⟩,h⟩
def Gl (X:Cx) (x:Str):Prop:=X.env.kindOf x=some .globalImplicit
theorem gF {E:Value->Shared->Prop} {Jn:List (DR×Obj)} {s:Shared} {σ:St} {H:Hp} {x:Str} {u:Value} {pos:Pos} {Q:Value->Shared->Prop} (I:Inv X Jn σ H s) (hg:Gl X x) (hm:X.mg x=some u) (h:Q u s)
  (hd:(x == ("__debug__":Str))=false:=by decide):Ef (model X.prog X.w) X.A (eval (.Name x pos) X.env) Q E s :=
 HE I.ok.kind hg (Calls.loadGlobal_global (by rw [I.ok.glob];exact I.mod.glob.keeps I.bk) hm h) hd
theorem dP {E:Value->Shared->Prop} {Jn:List (DR×Obj)} {s:Shared} {σ:St} {H:Hp} {x:Str} {u:Value} {pos:Pos} {Q:Value->Shared->Prop} (I:Inv X Jn σ H s) (hg:Gl X x) (hm:X.mg x=none) (hv:bootBuiltins x=some u) (h:Q u s)
  (hn:x ≠ "__name__":=by decide) (hd:(x == ("__debug__":Str))=false:=by decide):Ef (model X.prog X.w) X.A (eval (.Name x pos) X.env) Q E s:=by
 obtain⟨mb,h1,h2⟩:=I.mod.blt;exact HE I.ok.kind hg (Calls.loadGlobal_builtin (by rw [I.ok.glob];exact I.mod.glob.keeps I.bk) hm (by rw [I.ok.blt];exact h1.keeps I.bk) ((h2 x hn).trans hv) h) hd
theorem xg {x:Str} {v:V} {u:Value} {pos:Pos} (hg:Gl X x) (hm:X.mg x=some u) (r:RelV v u) (hd:(x == ("__debug__":Str))=false:=by decide):PE X (.Name x pos) (tC v) :=
 fun _ _ _ H _ I h=>gF I hg hm ⟨v,H,I,r,h⟩ hd
variable {a b:Expr} {ta tb:TE} {pos:Pos}
def tB (t:TE):TT:=fun σ H Q=>t σ H fun x H1=>∃ c,x=.bl c/\Q c H1
variable {tA tB':TT} {rest:List Expr}
def tI (t u:TT):TT:=fun σ H Q=>t σ H fun c H1=>if c=true then u σ H1 Q else Q false H1
def tOr (t u:TT):TT:=fun σ H Q=>t σ H fun c H1=>if c=true then Q true H1 else u σ H1 Q
def CK (t:TT):TT:=fun σ H Q=>t σ H fun c H1=>Q (!c) H1
theorem dk (ha:PT X a tA):PW X (.BoolOp .And [a] pos) tA:=by
 intro wh Jn s σ H Q I h;refine isTrue_and (thn (ha Jn s σ H Q I h) fun c s1 e=>?_);cases c with
 | true=>exact isTrue_and_nil e
 | false=>exact e
theorem dQ (ha:PT X a tA):PW X (.BoolOp .Or [a] pos) tA:=by
 intro wh Jn s σ H Q I h;refine isTrue_or (thn (ha Jn s σ H Q I h) fun c s1 e=>?_);cases c with
 | false=>exact isTrue_or_nil e
 | true=>exact e
theorem ck (ha:PT X a tA) (hb:PW X (.BoolOp .And (b :: rest) pos) tB'):PW X (.BoolOp .And (a :: b :: rest) pos) (tI tA tB'):=by
 intro wh Jn s σ H Q I h;refine isTrue_and (thn (ha Jn s σ H _ I h) fun c s1 ⟨H1,I1,q1⟩=>?_);cases c with
 | true=>exact hb wh Jn s1 σ H1 Q I1 q1
 | false=>exact⟨H1,I1,q1⟩
theorem fC (ha:PT X a tA) (hb:PW X (.BoolOp .Or (b :: rest) pos) tB'):PW X (.BoolOp .Or (a :: b :: rest) pos) (tOr tA tB'):=by
 intro wh Jn s σ H Q I h;refine isTrue_or (thn (ha Jn s σ H _ I h) fun c s1 ⟨H1,I1,q1⟩=>?_);cases c with
 | true=>exact⟨H1,I1,q1⟩
 | false=>exact hb wh Jn s1 σ H1 Q I1 q1
theorem gG (ha:PT X a tA):PT X (.UnaryOp .Not a pos) (CK tA):=by
 intro Jn s σ H Q I h;exact isTrue_not (ha Jn s σ H (fun c H1=>Q (!c) H1) I h)
def tJ (ta tb:TE):TE:=fun σ H Q=>ta σ H fun x H1=>∃ c,x=.bl c/\if c=true then tb σ H1 Q else Q (.bl false) H1
def CL (ta tb:TE):TE:=fun σ H Q=>ta σ H fun x H1=>∃ c,x=.bl c/\if c=true then Q (.bl true) H1 else tb σ H1 Q
def AV (ta:TE):TE:=fun σ H Q=>ta σ H fun x H1=>∃ c,x=.bl c/\Q (.bl (!c)) H1
theorem bu {op} {t:TE} (h:PE X a t):PE X (.BoolOp op [a] pos) t:=fun Jn s σ H Q I hw=>BoolOp_one (h Jn s σ H Q I hw)
theorem ao (ha:PE X a ta) (hb:PE X (.BoolOp .And (b :: rest) pos) tb):PE X (.BoolOp .And (a :: b :: rest) pos) (tJ ta tb):=by
 intro Jn s σ H Q I h;refine BoolOp_and (thn (ha Jn s σ H _ I h) fun v s1 ⟨x,H1,I1,r1,q1⟩=>?_);obtain⟨c,rfl,q1⟩:=q1;cases r1;refine Fm ?_;cases c with
 | true=>exact hb Jn s1 σ H1 Q I1 q1
 | false=>exact⟨.bl false,H1,I1,rfl,q1⟩
theorem CN (ha:PE X a ta) (hb:PE X (.BoolOp .Or (b :: rest) pos) tb):PE X (.BoolOp .Or (a :: b :: rest) pos) (CL ta tb):=by
 intro Jn s σ H Q I h;refine BoolOp_or (thn (ha Jn s σ H _ I h) fun v s1 ⟨x,H1,I1,r1,q1⟩=>?_);obtain⟨c,rfl,q1⟩:=q1;cases r1;refine Fm ?_;cases c with
 | false=>exact hb Jn s1 σ H1 Q I1 q1
 | true=>exact⟨.bl true,H1,I1,rfl,q1⟩
theorem Bn (ha:PE X a ta):PE X (.UnaryOp .Not a pos) (AV ta):=by
 intro Jn s σ H Q I h;refine UnaryOp_ (thn (ha Jn s σ H _ I h) fun v s1 ⟨x,H1,I1,r1,q1⟩=>?_);obtain⟨c,rfl,q1⟩:=q1;cases r1;exact not_of (Fm ⟨.bl (!c),H1,I1,rfl,q1⟩)
def tIf (t:TT) (ta tb:TE):TE:=fun σ H Q=>t σ H fun c H1=>if c=true then ta σ H1 Q else tb σ H1 Q
theorem aq {c:Expr} (hc:PT X c tA) (ha:PE X a ta) (hb:PE X b tb):PE X (.IfExp c a b pos) (tIf tA ta tb):=by
 intro Jn s σ H Q I h;refine wpAny_IfExp (thn (hc Jn s σ H _ I h) fun d s1 ⟨H1,I1,q1⟩=>?_);cases d with
 | true=>exact ha Jn s1 σ H1 Q I1 q1
 | false=>exact hb Jn s1 σ H1 Q I1 q1
end
def SqL (K:DP) (H:Hp) (a:DR) (xs:List V):Prop :=
 Rd H a (.lst xs) \/
  ∃ (o:Obj) (its:Array Value) (n:Nat),K.lookup a=some o/\o.cls=.type "list"/\o.dict=none/\o.data=.seq its n/\its.size<=Ex/\Vals xs its.toList
def SqT (K:DP) (H:Hp) (a:DR) (xs:List V):Prop :=
 Rd H a (.tup xs) \/
  ∃ (o:Obj) (its:Array Value) (n:Nat),K.lookup a=some o/\o.cls=.type "tuple"/\o.data=.seq its n/\its.size<=Ex/\Vals xs its.toList
noncomputable def Dy:Value->Option V
 | .none=>some .non
 | .bool b=>some (.bl b)
 | .int i _=>some (.int i)
 | .str x _=>some (.str x)
 | .bytes b _=>some (.byt b)
 | .float b _=>some (.flt b)
 | .ref a=>some (.ref a)
 | .type n=>some (.ty n)
 | _=>none
theorem RelV.abs {x:V} {u:Value} (r:RelV x u):Dy u=some x:=by
 cases x with
 | non=>cases r;rfl
 | bl _=>cases r;rfl
 | int _=>obtain⟨t,rfl⟩:=r;rfl
 | str _=>obtain⟨t,rfl⟩:=r;rfl
 | byt _=>obtain⟨t,rfl⟩:=r;rfl
 | flt _=>obtain⟨t,rfl⟩:=r;rfl
 | ref _=>cases r;rfl
 | ty _=>cases r;rfl
theorem RelV.inj {x y:V} {u:Value} (r:RelV x u) (q:RelV y u):x=y:=Option.some.inj (r.abs.symm.trans q.abs)
theorem Vals.inj:∀ {xs ys:List V} {us:List Value},Vals xs us->Vals ys us->xs=ys
 | _,_,_,.nil,.nil=>rfl
 | _,_,_,.cons r t,.cons r' t'=>by rw [r.inj r',Vals.inj t t']
section
variable {X:Cx} {Jn:List (DR×Obj)} {σ:St} {H:Hp} {s:Shared} {a:DR} {xs ys:List V}
theorem SqL.of {K:DP} (h:H a=some (.lst xs)):SqL K H a xs:=.inl (.inl h)
theorem SqT.of {K:DP} (h:H a=some (.tup xs)):SqT K H a xs:=.inl (.inl h)
theorem Inv.list (I:Inv X Jn σ H s) (h:SqL X.K H a xs):∃ its:List Value,Vals xs its/\PlainL s.heap a its.toArray/\xs.length<=Ex:=by
 rcases h with h | ⟨o,its,n,hk,hc,hd,hs,hz,r⟩
 ·obtain⟨z,its,n,r,e⟩:=h.ok I.hok;exact⟨its,r,⟨_,n,e,rfl,rfl,rfl⟩,z⟩
 ·refine⟨its.toList,r,⟨o,n,I.kIn a o hk,hc,hd,by simpa using hs⟩,?_⟩;have e:=r.length;simp only [D8] at e;omega
theorem Inv.tuple (I:Inv X Jn σ H s) (h:SqT X.K H a xs):∃ its:List Value,Vals xs its/\IsTup s.heap a its.toArray/\xs.length<=Ex:=by
 rcases h with h | ⟨o,its,n,hk,hc,hs,hz,r⟩
 ·obtain⟨z,its,r,p⟩:=h.ok I.hok;exact⟨its,r,p,z⟩
 ·refine⟨its.toList,r,⟨o,I.kIn a o hk,hc,n,by simpa using hs⟩,?_⟩;have e:=r.length;simp only [D8] at e;omega
theorem Inv.list_inj (I:Inv X Jn σ H s) (h:SqL X.K H a xs) (h':SqL X.K H a ys):xs=ys:=by
 obtain⟨its,r,⟨o,n,e,_,_,d⟩,_⟩:=I.list h;obtain⟨its',r',⟨o',n',e',_,_,d'⟩,_⟩:=I.list h';rw [e] at e';cases e';rw [d] at d';injection d' with d1 _;have:its=its':=by simpa using congrArg Array.toList d1
 subst this;exact r.inj r'
theorem Inv.tuple_inj (I:Inv X Jn σ H s) (h:SqT X.K H a xs) (h':SqT X.K H a ys):xs=ys:=by
 obtain⟨its,r,⟨o,e,_,n,d⟩,_⟩:=I.tuple h;obtain⟨its',r',⟨o',e',_,n',d'⟩,_⟩:=I.tuple h';rw [e] at e';cases e';rw [d] at d';injection d' with d1 _;have:its=its':=by simpa using congrArg Array.toList d1
 subst this;exact r.inj r'
end
noncomputable abbrev Cx.wish (X:Cx) (E:Value->Shared->Prop):Cx:={ X with xe:=E }
noncomputable abbrev Cx.nox (X:Cx):Cx:=X.wish fun _ _=>False
theorem Cx.Ok.wish {X:Cx} (ok:X.Ok) (E:Value->Shared->Prop):(X.wish E).Ok :=
 ⟨ok.mod,ok.kind,ok.glob,ok.blt,ok.above,ok.inj,ok.has,ok.cab,ok.hd,ok.frames,ok.stk,ok.exf,ok.bs,ok.bsz,ok.noex,ok.exfs,ok.funs,ok.frf,ok.tabs⟩
theorem Cx.Ok.unwish {X:Cx} {E:Value->Shared->Prop} (ok:(X.wish E).Ok):X.Ok :=
 ⟨ok.mod,ok.kind,ok.glob,ok.blt,ok.above,ok.inj,ok.has,ok.cab,ok.hd,ok.frames,ok.stk,ok.exf,ok.bs,ok.bsz,ok.noex,ok.exfs,ok.funs,ok.frf,ok.tabs⟩
section
variable {X:Cx} {Jn:List (DR×Obj)} {σ:St} {H:Hp} {s:Shared} {E:Value->Shared->Prop}
theorem Inv.wish (I:Inv X Jn σ H s) (E:Value->Shared->Prop):Inv (X.wish E) Jn σ H s:=⟨I.ok.wish E,I.os,I.bare,I.base,I.loc,I.cell,I.free,I.freeC,I.pin,I.hok,I.len⟩
theorem Inv.unwish (I:Inv (X.wish E) Jn σ H s):Inv X Jn σ H s:=⟨I.ok.unwish,I.os,I.bare,I.base,I.loc,I.cell,I.free,I.freeC,I.pin,I.hok,I.len⟩
theorem SP.unwish {D:Ends} {f:Flow} {s':Shared} (h:SP (X.wish E) Jn D f s'):SP X Jn D f s':=by
 cases f with
 | next=>obtain⟨σ',H',I,q⟩:=h;exact⟨σ',H',I.unwish,q⟩
 | brk=>obtain⟨σ',H',I,q⟩:=h;exact⟨σ',H',I.unwish,q⟩
 | cont=>obtain⟨σ',H',I,q⟩:=h;exact⟨σ',H',I.unwish,q⟩
 | ret u=>obtain⟨v,σ',H',I,r,q⟩:=h;exact⟨v,σ',H',I.unwish,r,q⟩
theorem PSs.nox {st:List Stmt} {t:TS} (h:PSs X.nox st t):PSs X st t:=fun Jn s σ H D I hw =>
 FE (h Jn s σ H D (I.wish _) hw) (fun _ _ q=>q.unwish) fun _ _ z=>Gh z
end
section
variable {X:Cx} {st:Stmt} {rest:List Stmt} {t u:TS} {e:Expr} {te:TE} {pos:Pos}
def fD:TS:=fun D σ H=>D.nx σ H
def aY (t u:TS):TS:=fun D σ H=>t { D with nx:=u D } σ H
theorem zS:PSs X [] fD:=fun _ _ σ H _ I h=>wpAny_execs_nil ⟨σ,H,I,h⟩
theorem zd (h1:PS X st t) (h2:PSs X rest u):PSs X (st :: rest) (aY t u):=by
 intro Jn s σ H D I h;refine wpAny_execs_cons (thn (h1 Jn s σ H { D with nx:=u D } I h) fun f s1 q=>?_);cases f with
 | next =>
  obtain⟨σ',H',I',q⟩:=q;exact h2 Jn s1 σ' H' D I' q
 | ret v=>exact q
 | brk=>exact q
 | cont=>exact q
theorem zh (h1:PS X st t):PSs X [st] t:=by
 intro Jn s σ H D I h;refine wpAny_execs_cons (thn (h1 Jn s σ H D I h) fun f s1 q=>?_);cases f with
 | next=>exact wpAny_execs_nil q
 | ret v=>exact q
 | brk=>exact q
 | cont=>exact q
theorem Inv.quiet {Jn:List (DR×Obj)} {σ:St} {H:Hp} {s:Shared} (I:Inv X Jn σ H s):interactive X.env=false:=by simp [interactive,I.ok.kind]
def iV (te:TE):TS:=fun D σ H=>te σ H fun _ H1=>D.nx σ H1
theorem jx (he:PE X e te) (hs:swapsWith e none pos.line X.env=pure false:=by rfl):PS X (.Expr e pos) (iV te):=by
 intro Jn s σ H D I h;exact wpAny_Expr_any (thn (he Jn s σ H _ I h) fun v s1 ⟨x,H1,I1,r1,q1⟩=>⟨σ,H1,I1,q1⟩) I.quiet hs
def dR (te:TE):TS:=fun D σ H=>te σ H D.rt
theorem zu (he:PE X e te):PS X (.Return (some e) pos) (dR te):=by
 intro Jn s σ H D I h;exact wpAny_Return_some (thn (he Jn s σ H _ I h) fun v s1 ⟨x,H1,I1,r1,q1⟩=>⟨x,σ,H1,I1,r1,q1⟩)
def lU (c:TT) (t u:TS):TS:=fun D σ H=>c σ H fun b H1=>if b=true then t D σ H1 else u D σ H1
theorem yr {c:Expr} {a b:List Stmt} {tc:TT} (hc:PT X c tc) (ha:PSs X a t) (hb:PSs X b u):PS X (.If c a b pos) (lU tc t u):=by
 intro Jn s σ H D I h;refine wpAny_If (thn (hc Jn s σ H _ I h) fun d s1 ⟨H1,I1,q1⟩=>?_);cases d with
 | true=>exact ha Jn s1 σ H1 D I1 q1
 | false=>exact hb Jn s1 σ H1 D I1 q1
def Bo:TS:=fun _ _ _=>False
theorem iW:PS X st Bo:=fun _ _ _ _ _ _ h=>h.elim
end
abbrev TG:=V->St->Hp->(St->Hp->Prop)->Prop
abbrev TGs:=List V->St->Hp->(St->Hp->Prop)->Prop
def PG (X:Cx) (target:Expr) (t:TG):Prop :=
 ∀ (Jn:List (DR×Obj)) (s:Shared) (σ:St) (H:Hp) (v:V) (u:Value) (Q:St->Hp->Prop),Inv X Jn σ H s->RelV v u->t v σ H Q ->
  Ef (model X.prog X.w) X.A (assign target X.env u) (fun _ s'=>∃ σ' H',Inv X Jn σ' H' s'/\Q σ' H') X.xe s
def PGs (X:Cx) (ts:List Expr) (t:TGs):Prop :=
 ∀ (Jn:List (DR×Obj)) (s:Shared) (σ:St) (H:Hp) (vs:List V) (us:List Value) (Q:St->Hp->Prop),Inv X Jn σ H s->Vals vs us->t vs σ H Q ->
  Ef (model X.prog X.w) X.A (assignInOrder ((assignEach ts X.env).map (·.2)) us) (fun _ s'=>∃ σ' H',Inv X Jn σ' H' s'/\Q σ' H') X.xe s
abbrev Bp:=V->V->V->Hp->(Hp->Prop)->Prop
def xh (X:Cx) (t:Bp):Prop :=
 ∀ (Jn:List (DR×Obj)) (s:Shared) (σ:St) (H:Hp) (o i v:V) (ov iv u:Value) (Q:Hp->Prop),Inv X Jn σ H s->RelV o ov->RelV i iv->RelV v u->t o i v H Q ->
  Ef (model X.prog X.w) X.A (setItem ov iv u) (fun _ s'=>∃ H',Inv X Jn σ H' s'/\Q H') X.xe s
section
variable {X:Cx} {pos:Pos}
def jS (i:Nat):TG:=fun v σ H Q=>Q (σ.set i (some v)) H
theorem zf {i:Nat} {x:Str} (hN:X.N.Nodup) (hi:X.N[i]?=some x) (hx:Loc X.env.scope x) (hf:X.fn x=true \/ X.env.scope.names.lookup x=some .local:=by first | exact .inl rfl | exact .inr rfl | assumption):PG X (.Name x pos) (jS i):=by
 intro Jn s σ H v u Q I r h;exact wpAny_assign_Name (bF I hN hi hx r (fun s' I'=>⟨_,H,I',h⟩) hf)
def xi:TGs:=fun vs σ H Q=>vs=[]/\Q σ H
def dS (t:TG) (u:TGs):TGs:=fun vs σ H Q=>∃ v r,vs=v :: r/\t v σ H fun σ' H'=>u r σ' H' Q
theorem zD:PGs X [] xi:=by
 intro Jn s σ H vs us Q I r h;obtain⟨e,h⟩:=h;subst e;cases r;exact assignInOrder_nil ⟨σ,H,I,h⟩
theorem zg {e:Expr} {es:List Expr} {t:TG} {u:TGs} (h1:PG X e t) (h2:PGs X es u)
  (hs:(assignEach (e :: es) X.env).map (·.2)=assign e X.env :: (assignEach es X.env).map (·.2):=by rfl):PGs X (e :: es) (dS t u):=by
 intro Jn s σ H vs us Q I r h;obtain⟨v,vr,e1,h⟩:=h;subst e1;cases r with
 | cons r rr =>
  rw [hs];refine assignInOrder_cons (thn (h1 Jn s σ H _ _ _ I r h) fun _ s1 ⟨σ1,H1,I1,q1⟩=>?_);exact h2 Jn s1 σ1 H1 _ _ Q I1 rr q1
def tK (K:DP) (n:Nat) (t:TGs):TG:=fun v σ H Q=>∃ a xs,v=.ref a/\SqT K H a xs/\xs.length=n/\t xs σ H Q
theorem Bq {es:List Expr} {k:Nat} {t:TGs} {n:Nat} (hc:X.calm=true) (h:PGs X es t)
  (hn:(assignEach es X.env).length=n:=by rfl) (hst:(assignEach es X.env).findIdx? (·.1)=none:=by rfl):PG X (.Tuple es k pos) (tK X.K n t):=by
 intro Jn s σ H v u Q I r hw;obtain⟨a,xs,e1,hq,hl,hw⟩:=hw;subst e1;cases r;obtain⟨its,rv,ht,hz⟩:=I.tuple hq;refine assign_Tuple_tuple (I.ok.hd hc) ht (by simp [hn,<- hl,rv.length]) hst fun h' hx=>?_;have I1:Inv X Jn σ H { s with heap:=h' }:=I.kept (t':=s.toks) fun b o e=>hx b o (Ez (Eb e)) e;exact h Jn _ σ H xs _ Q I1 (by simpa using rv) hw
def o9 (to ti:TE) (t:Bp):TG:=fun v σ H Q=>to σ H fun o H1=>ti σ H1 fun i H2=>t o i v H2 fun H3=>Q σ H3
theorem gH {o i:Expr} {to ti:TE} {t:Bp} (ho:PE X o to) (hi:PE X i ti) (hs:xh X t)
  (ha:∀ v,assign (.Subscript o i pos) X.env v=(do
   let ov <- holding [v] (eval o X.env)
   let iv <- holding [v,ov] (eval i X.env)
   standAt pos
   holding [v,ov,iv] (setItem ov iv v)
   release [v,ov,iv] []):=by intro _;rfl):PG X (.Subscript o i pos) (o9 to ti t):=by
 intro Jn s σ H v u Q I r h;rw [ha];refine DQ (EF (thn (ho Jn s σ H _ I h) fun ov s1 ⟨x,H1,I1,r1,q1⟩=>?_));refine DQ (EF (thn (hi Jn s1 σ H1 _ I1 q1) fun iv s2 ⟨y,H2,I2,r2,q2⟩=>?_));refine DQ (wpAny_standAt (DQ (EF (thn (hs Jn s2 σ H2 x y v ov iv u _ I2 r1 r2 r q2) fun _ s3 ⟨H3,I3,q3⟩=>?_))));exact wpAny_release ⟨σ,H3,I3,q3⟩
def bw (te:TE) (g:TG):TS:=fun D σ H=>te σ H fun x H1=>g x σ H1 D.nx
theorem yl {tg e:Expr} {te:TE} {g:TG} (he:PE X e te) (hg:PG X tg g) (hs:swapsWithSole [tg] e pos.line X.env=pure false:=by rfl) (hw:swappedStores [tg] e X.env=pure none:=by rfl)
  (h1:(assignEach [tg] X.env).map (·.2)=[assign tg X.env]:=by rfl):PS X (.Assign [tg] e pos) (bw te g):=by
 intro Jn s σ H D I h;refine wpAny_Assign_stores (thn (he Jn s σ H _ I h) fun v s1 ⟨x,H1,I1,r1,q1⟩=>?_) hs hw;rw [h1];exact thn (hg Jn s1 σ H1 x v _ I1 r1 q1) fun _ s2 q=>q
theorem zL {i:Nat} {x:Str} {e:Expr} {te:TE} {pos':Pos} (hN:X.N.Nodup) (hi:X.N[i]?=some x) (hx:Loc X.env.scope x) (he:PE X e te) (hs:swapsWith e (some (.Name x pos')) pos.line X.env=pure false:=by rfl) (hf:X.fn x=true \/ X.env.scope.names.lookup x=some .local:=by first | exact .inl rfl | exact .inr rfl | assumption) :
  PS X (.Assign [.Name x pos'] e pos) (bw te (jS i)):=by
 intro Jn s σ H D I h;refine wpAny_Assign_Name (thn (he Jn s σ H _ I h) fun v s1 ⟨y,H1,I1,r1,q1⟩=>?_) hs;exact bF I1 hN hi hx r1 (fun s2 I2=>⟨_,H1,I2,q1⟩) hf
def CO (i j:Nat) (ta:TA):TS:=fun D σ H=>ta σ H fun vs H1=>∃ v w,vs=[v,w]/\D.nx ((σ.set i (some v)).set j (some w)) H1
theorem tL {i j:Nat} {x y:Str} {a b:Expr} {ta:TA} {px py pt:Pos} {kt k2 pt2} (hc:X.calm=true) (hN:X.N.Nodup) (hi:X.N[i]?=some x) (hj:X.N[j]?=some y) (hij:i≠j)
  (hx:X.env.scope.names.lookup x=some .local) (hy:X.env.scope.names.lookup y=some .local) (ha:PA X [a,b] ta)
  (hw:swappedStores [.Tuple [.Name x px,.Name y py] kt pt] (.Tuple [a,b] k2 pt2) X.env=pure (some [x,y]))
  (hs:swapsWithSole [.Tuple [.Name x px,.Name y py] kt pt] (.Tuple [a,b] k2 pt2) pos.line X.env=pure false:=by rfl) :
  PS X (.Assign [.Tuple [.Name x px,.Name y py] kt pt] (.Tuple [a,b] k2 pt2) pos) (CO i j ta):=by
 intro Jn s σ H D I h;rw [exec_Assign_arm];refine DQ (wpAny_standAt ?_);rw [hs];refine DQ (DY ?_);rw [Jo (by decide)];refine DQ (Tuple_ (thn (ha _ Jn s σ H _ I h) fun us s1 ⟨vs,H1,I1,r1,q1⟩=>?_));obtain⟨v,w,e1,q1⟩:=q1;subst e1;obtain⟨u1,u2,rfl,rv,rw'⟩:∃ u1 u2,us=[u1,u2]/\RelV v u1/\RelV w u2:=by
  cases r1 with
  | cons p q =>
   cases q with
   | cons p' q' =>
    cases q';exact⟨_,_,rfl,p,p'⟩
 refine wpAny_newObj_type ?_ (by show 2<=Ex;decide);have I2:Inv X Jn σ H1 { s1 with heap:=s1.heap.push { cls:=.type "tuple",data:=.seq [u1,u2].toArray } }:=I1.kept (t':=s1.toks) fun b o e=>D3 _ e;rw [hw];refine DQ (DY ?_);show Ef (model X.prog X.w) X.A (do rule "assign.swapped-stores";let items <- unpackItems (.ref s1.heap.objs.size) 2 none;assignInOrder [fun v=>bindName X.env y v,fun v=>bindName X.env x v] items.reverse;pure Flow.next) _ _ _;refine DQ (wpAny_rule (DQ (unpackItems_tuple (items:=#[u1,u2]) (I.ok.hd hc) (IsTup.new s1.heap _) fun h' hx'=>?_)));have I3:=I2.kept (h':=h') (t':=s1.toks) fun b o e=>hx' b o (Ez (Eb e)) e;show Ef _ _ (assignInOrder [fun v=>bindName X.env y v,fun v=>bindName X.env x v] [u2,u1] >>= fun _=>pure Flow.next) _ _ _;refine DQ (assignInOrder_cons (wpAny_bindName (bF I3 hN hj (.inl hy) rw' (fun s2 I4=>?_) (.inr hy))));refine assignInOrder_cons (wpAny_bindName (bF I4 hN hi (.inl hx) rv (fun s3 I5=>assignInOrder_nil (DY ?_)) (.inr hx)));rw [List.set_comm _ _ (EW hij)] at I5;exact⟨_,H1,I5,q1⟩
end
section
variable {X:Cx} {pos:Pos}
def lV (c:TT) (tb:TS):TS:=fun D σ H=>∃ W:Nat->St->Hp->Prop,(∃ m,W m σ H)/\∀ m σ H,W m σ H ->
 c σ H fun b H1=>if b=true then ∃ N:St->Hp->Prop,(∀ σ' H',N σ' H'->∃ m',m'<m/\W m' σ' H')/\tb { D with nx:=N,ct:=N,bk:=D.nx } σ H1 else D.nx σ H1
theorem iX {c:Expr} {body:List Stmt} {tc:TT} {tb:TS} (hp:PassesOwn (model X.prog X.w) X.A X.env X.xe) (hc:PT X c tc) (hb:PSs X body tb):PS X (.While c body [] pos) (lV tc tb):=by
 intro Jn s σ H D I h;obtain⟨W,⟨m0,w0⟩,turn⟩:=h;refine wpAny_While (codeAny_whileLoop (fun n s'=>∃ σ' H',Inv X Jn σ' H' s'/\W n σ' H') ?_ m0 ⟨σ,H,I,w0⟩);rintro n s1 ⟨σ1,H1,I1,w1⟩;refine wpAny_passesOwn hp (thn (hc Jn s1 σ1 H1 _ I1 (turn n σ1 H1 w1)) fun b s2 ⟨H2,I2,q2⟩=>?_);cases b with
 | true =>
  obtain⟨N,hN,q2⟩:=q2;rw [Jp rfl];refine wpAny_passesOwn hp (thn (hb Jn s2 σ1 H2 _ I2 q2) fun f s3 q3=>?_);cases f with
  | next =>
   obtain⟨σ3,H3,I3,n3⟩:=q3;obtain⟨m',hm,w3⟩:=hN σ3 H3 n3;exact⟨m',hm,σ3,H3,I3,w3⟩
  | cont =>
   obtain⟨σ3,H3,I3,n3⟩:=q3;obtain⟨m',hm,w3⟩:=hN σ3 H3 n3;exact⟨m',hm,σ3,H3,I3,w3⟩
  | brk=>exact q3
  | ret v=>exact q3
 | false =>
  rw [Jo DL];exact wpAny_execs_nil ⟨σ1,H2,I2,q2⟩
end
structure It where
 go:Nat->Hp->Prop
 yld:Nat->Hp->V->Hp->Prop
 stop:Nat->Hp->Prop
def bG (X:Cx) (Jn:List (DR×Obj)) (H:Hp) (b:DR):Prop :=
 H b=none/\b≠X.env.locals/\b∉X.fs/\(b∈X.ex \/ X.s₀.heap.objs.size<=b)/\(∀ x c,X.env.cells.lookup x=some c->c≠b)/\∀ p∈X.pn++Jn,p.1≠b
theorem Inv.fpOk {X:Cx} {Jn:List (DR×Obj)} {σ:St} {H H':Hp} {s:Shared} {b:DR} (I:Inv X Jn σ H s) (hb:s.heap.objs.size<=b) (hn:H' b=none):bG X Jn H' b:=by
 refine⟨hn,GF (Eh I.lt hb),I.nofs hb,.inr (Em I.sz hb),fun x c e z=>?_,fun p hp z=>?_⟩
 ·obtain⟨v,q⟩:=I.cell x c e;exact absurd (Eh q.lt (by rw [z];exact hb)) (FL _)
 ·exact absurd (Eh (Eb (I.pin p hp).1) (by rw [z];exact hb)) (FL _)
structure Turn (P:Program) (w:World) (K:DP) (tg:Expr) (J:It) (fp:List DR) (it:DR) (tn:Nat->Heap->Prop):Prop where
 mem:it∈fp
 obj:∀ i h,tn i h->∀ b∈fp,∃ o,h.get? b=some o/\∀ v,o.data≠.cell v
 keep:∀ i h h',tn i h->(∀ b∈fp,∀ o,h.get? b=some o->h'.get? b=some o)->tn i h'
 item:∀ (X:Cx),X.prog=P->X.w=w->X.K=K->X.calm=true->∀ (i:Nat) (Jn:List (DR×Obj)) (s:Shared) (σ:St) (H:Hp) (E:Value->Shared->Prop),Inv X Jn σ H s->(∀ b∈fp,bG X Jn H b)->tn i s.heap->J.go i H ->
  Ef (model P w) X.A (pyNext (.ref it)) (fun r s1=>∃ u,r=some u /\
   Ef (model P w) X.A (FF tg (.ref it) u) (fun _ s2=>∃ x H',Inv X Jn σ H' s2/\RelV x u/\J.yld i H x H'/\tn (i+1) s2.heap/\∀ b∈fp,H' b=none) E s1) E s
 done:∀ (X:Cx),X.prog=P->X.w=w->X.K=K->X.calm=true->∀ (i:Nat) (Jn:List (DR×Obj)) (s:Shared) (σ:St) (H:Hp) (E:Value->Shared->Prop),Inv X Jn σ H s->(∀ b∈fp,bG X Jn H b)->tn i s.heap->J.stop i H ->
  Ef (model P w) X.A (pyNext (.ref it)) (fun r s1=>r=none/\Inv X Jn σ H s1) E s
 self:∀ (A:Around) (i:Nat) (s:Shared) (Q:Value->Shared->Prop) (E:Value->Shared->Prop),tn i s.heap->Q (.ref it) s->Ef (model P w) A (pyIter (.ref it)) Q E s
abbrev TI:=St->Hp->(It->Hp->Prop)->Prop
def PIE (X:Cx) (Jn:List (DR×Obj)) (σ:St) (tg:Expr) (R:It->Hp->Prop) (itv:Value) (s2:Shared):Prop :=
 ∃ (it:DR) (fp:List DR) (tn:Nat->Heap->Prop) (J:It) (H':Hp),itv=.ref it/\Inv X Jn σ H' s2/\Turn X.prog X.w X.K tg J fp it tn/\tn 0 s2.heap/\(∀ b∈fp,bG X Jn H' b)/\R J H'
def PI (X:Cx) (tg iter:Expr) (wi:TI):Prop :=
 ∀ (Jn:List (DR×Obj)) (s:Shared) (σ:St) (H:Hp) (R:It->Hp->Prop),Inv X Jn σ H s->wi σ H R ->
  Ef (model X.prog X.w) X.A (eval iter X.env) (fun v s1=>Ef (model X.prog X.w) X.A (pyIter v) (PIE X Jn σ tg R) X.xe s1) X.xe s
theorem tM {M:Model} {A:Around} {E:Value->Shared->Prop} {s:Shared} {tg:Expr} {it:DR} {u:Value} {o:Obj} {n:String} {vs:Array Value} {Q:Unit->Shared->Prop} (ho:s.heap.get? it=some o) (hc:o.cls=.type n) (hd:o.data=.fields vs)
  (hn:["enumerate","zip","dict_itemiterator","dict_reverseitemiterator","odict_iterator","itertools.zip_longest","itertools.pairwise"].contains n=false) (hQ:Q () s):Ef M A (FF tg (.ref it) u) Q E s:=by
 unfold FF;cases tg <;> first
  | exact DY hQ
  | (cases u <;> first
    | exact DY hQ
    | (refine DQ (wpAny_load ho ?_)
       rw [hc,hd];show Ef M A (if (["enumerate","zip","dict_itemiterator","dict_reverseitemiterator","odict_iterator","itertools.zip_longest","itertools.pairwise"].contains n && vs[0]? == some (rawInt _))=true then _ else _) Q E s;rw [Jo (by intro h;rw [hn,Fc] at h;cases h)];exact DY hQ))
noncomputable def Itl (K:DP) (a:DR):It :=
 ⟨fun i H=>∃ xs x,SqL K H a xs/\xs[i]?=some x,fun i H x H'=>H'=H/\∀ xs,SqL K H a xs->xs[i]?=some x,fun i H=>∃ xs,SqL K H a xs/\xs.length<=i⟩
noncomputable def Itt (K:DP) (a:DR):It :=
 ⟨fun i H=>∃ xs x,SqT K H a xs/\xs[i]?=some x,fun i H x H'=>H'=H/\∀ xs,SqT K H a xs->xs[i]?=some x,fun i H=>∃ xs,SqT K H a xs/\xs.length<=i⟩
noncomputable def Itr (lo:Int) (n:Nat):It:=⟨fun i _=>i<n,fun i H x H'=>H'=H/\x=.int (lo+i),fun i _=>n<=i⟩
theorem p9 {P:Program} {w:World} {K:DP} {tg:Expr} (a it:DR):Turn P w K tg (Itl K a) [it] it (fun i h=>h.IsListIter it a i) where
 mem:=by simp
 obj:=fun i h st b hb=>by
  have e:b=it:=by simpa using hb
  subst e;obtain⟨o,e,c,d⟩:=st;exact⟨o,e,fun v z=>by rw [d] at z;cases z⟩
 keep:=fun i h h' st k=>st.at fun o e=>k it (by simp) o e
 item:=by
  intro X hP hw hK hc i Jn s σ H E I hf st hg;subst hP hw hK;obtain⟨xs,x,hq,hx⟩:=hg;obtain⟨its,rv,p,hz⟩:=I.list hq;obtain⟨u,hu,ru⟩:=rv.get hx;obtain⟨f0,f1,f2,f3,f4,f5⟩:=hf it (by simp);refine wpAny_pyNext_list_item st p.isList (x:=u) (by simpa using hu) fun h' st' sb=>?_;have I1:Inv X Jn σ H { s with heap:=h' }:=I.turned (t':=s.toks) (fun b o hb e=>(sb.2 b hb).trans e) f0 f1 f3 f4 f5;obtain⟨o,e,c,d⟩:=id st';exact⟨u,rfl,tM (s:={ s with heap:=h' }) e c d (by decide) ⟨x,H,I1,ru,⟨rfl,fun ys hy=>by rw [I.list_inj hy hq];exact hx⟩,st',fun b hb=>(hf b hb).1⟩⟩
 done:=by
  intro X hP hw hK hc i Jn s σ H E I hf st hg;subst hP hw hK;obtain⟨xs,hq,hx⟩:=hg;obtain⟨its,rv,p,hz⟩:=I.list hq;obtain⟨f0,f1,f2,f3,f4,f5⟩:=hf it (by simp);have hl:=rv.length;exact wpAny_pyNext_list_end (I.ok.hd hc) st p.isList (by simp;omega) fun h' eb=>⟨rfl,I.turned (t':=s.toks) (fun b o hb e=>eb b o hb e) f0 f1 f3 f4 f5⟩
 self:=fun _ _ _ _ _ st h=>wpAny_pyIter_listiter st h
theorem lW {P:Program} {w:World} {K:DP} {tg:Expr} (a it:DR):Turn P w K tg (Itt K a) [it] it (fun i h=>h.IsTupleIter it a i) where
 mem:=by simp
 obj:=fun i h st b hb=>by
  have e:b=it:=by simpa using hb
  subst e;obtain⟨o,e,c,d⟩:=st;exact⟨o,e,fun v z=>by rw [d] at z;cases z⟩
 keep:=fun i h h' st k=>st.at fun o e=>k it (by simp) o e
 item:=by
  intro X hP hw hK hc i Jn s σ H E I hf st hg;subst hP hw hK;obtain⟨xs,x,hq,hx⟩:=hg;obtain⟨its,rv,p,hz⟩:=I.tuple hq;obtain⟨u,hu,ru⟩:=rv.get hx;obtain⟨f0,f1,f2,f3,f4,f5⟩:=hf it (by simp);refine wpAny_pyNext_tuple_item st (show s.heap.IsTuple a its.toArray from p) (x:=u) (by simpa using hu) fun h' st' sb=>?_;have I1:Inv X Jn σ H { s with heap:=h' }:=I.turned (t':=s.toks) (fun b o hb e=>(sb.2 b hb).trans e) f0 f1 f3 f4 f5;obtain⟨o,e,c,d⟩:=id st';exact⟨u,rfl,tM (s:={ s with heap:=h' }) e c d (by decide) ⟨x,H,I1,ru,⟨rfl,fun ys hy=>by rw [I.tuple_inj hy hq];exact hx⟩,st',fun b hb=>(hf b hb).1⟩⟩
 done:=by
  intro X hP hw hK hc i Jn s σ H E I hf st hg;subst hP hw hK;obtain⟨xs,hq,hx⟩:=hg;obtain⟨its,rv,p,hz⟩:=I.tuple hq;obtain⟨f0,f1,f2,f3,f4,f5⟩:=hf it (by simp);have hl:=rv.length;exact wpAny_pyNext_tuple_end (I.ok.hd hc) st (show s.heap.IsTuple a its.toArray from p) (by simp;omega) fun h' eb=>⟨rfl,I.turned (t':=s.toks) (fun b o hb e=>eb b o hb e) f0 f1 f3 f4 f5⟩
 self:=fun _ _ _ _ _ st h=>wpAny_pyIter_tupleiter st h
theorem lX {P:Program} {w:World} {K:DP} {tg:Expr} (it:DR) (lo:Int) (n:Nat):Turn P w K tg (Itr lo n) [it] it (fun i h=>IsRangeIter h it (lo+(i:Nat) * 1) ((n:Int) - (i:Nat)) 1) where
 mem:=by simp
 obj:=fun i h st b hb=>by
  have e:b=it:=by simpa using hb
  subst e;exact⟨_,st,fun v z=>by
   have z':Data.fields _=Data.cell v:=z;cases z'⟩
 keep:=fun i h h' st k=>k it (by simp) _ st
 item:=by
  intro X hP hw hK hc i Jn s σ H E I hf st hg;subst hP hw hK;obtain⟨f0,f1,f2,f3,f4,f5⟩:=hf it (by simp);have W:=Walks.range (prog:=X.prog) (w:=X.w) (I.ok.hd hc) it lo 1 n;refine W.item i s _ _ hg st fun v h' tk hv st' kk=>?_;obtain⟨t,rfl⟩:=hv;have I1:Inv X Jn σ H { s with heap:=h',toks:=tk }:=I.turned (fun b o hb e=>kk b o (by simpa using hb) e) f0 f1 f3 f4 f5;refine⟨_,rfl,tM (s:={ s with heap:=h',toks:=tk }) (n:="range_iterator") st' rfl rfl (by decide) ⟨.int (lo+i),H,I1,⟨t,?_⟩,⟨rfl,rfl⟩,st',fun b hb=>(hf b hb).1⟩⟩;rw [Hm]
 done:=by
  intro X hP hw hK hc i Jn s σ H E I hf st hg;subst hP hw hK;obtain⟨f0,f1,f2,f3,f4,f5⟩:=hf it (by simp);exact wpAny_pyNext_range_end (I.ok.hd hc) st (by have:n<=i:=hg;omega) fun h' eb=>⟨rfl,I.turned (t':=s.toks) (fun b o hb e=>eb b o hb e) f0 f1 f3 f4 f5⟩
 self:=fun _ _ _ _ _ st h=>wpAny_pyIter_rangeiter st h
section
variable {X:Cx} {tg:Expr}
def tN (K:DP) (tl:TE):TI:=fun σ H R=>tl σ H fun x H1=>∃ a,x=.ref a/\(∃ xs,SqL K H1 a xs)/\R (Itl K a) H1
def Br (K:DP) (tl:TE):TI:=fun σ H R=>tl σ H fun x H1=>∃ a,x=.ref a/\(∃ xs,SqT K H1 a xs)/\R (Itt K a) H1
theorem xj {l:Expr} {tl:TE} (hl:PE X l tl):PI X tg l (tN X.K tl):=by
 intro Jn s σ H R I h;refine thn (hl Jn s σ H _ I h) fun v s1 ⟨x,H1,I1,r1,q1⟩=>?_;obtain⟨a,e,⟨xs,hq⟩,q⟩:=q1;subst e;cases r1;obtain⟨its,rv,p,hz⟩:=I1.list hq;refine wpAny_pyIter_list p.isList ?_;refine⟨s1.heap.objs.size,[s1.heap.objs.size],_,_,H1,rfl,I1.kept (t':=s1.toks) fun b o e=>D3 _ e,p9 a _,⟨_,Ey _ rfl,rfl,rfl⟩,fun b hb=>?_,q⟩;have e:b=s1.heap.objs.size:=by simpa using hb
 subst e;exact I1.fpOk (DU _) (I1.hok.fresh (DU _))
theorem Bs {l:Expr} {tl:TE} (hl:PE X l tl):PI X tg l (Br X.K tl):=by
 intro Jn s σ H R I h;refine thn (hl Jn s σ H _ I h) fun v s1 ⟨x,H1,I1,r1,q1⟩=>?_;obtain⟨a,e,⟨xs,hq⟩,q⟩:=q1;subst e;cases r1;obtain⟨its,rv,p,hz⟩:=I1.tuple hq;refine wpAny_pyIter_tuple (show s1.heap.IsTuple a its.toArray from p) ?_;refine⟨s1.heap.objs.size,[s1.heap.objs.size],_,_,H1,rfl,I1.kept (t':=s1.toks) fun b o e=>D3 _ e,lW a _,⟨_,Ey _ rfl,rfl,rfl⟩,fun b hb=>?_,q⟩;have e:b=s1.heap.objs.size:=by simpa using hb
 subst e;exact I1.fpOk (DU _) (I1.hok.fresh (DU _))
theorem tO {Jn:List (DR×Obj)} {σ:St} {H:Hp} {s:Shared} {R:It->Hp->Prop} {E:Value->Shared->Prop} {lo hi:Int} {t u v:Tok} {tk:Nat} (I:Inv X Jn σ H s) (h1:-(2 ^ 62)<=lo) (h2:lo<2 ^ 62) (h3:-(2 ^ 62)<=hi) (h4:hi<2 ^ 62)
  (q:R (Itr lo (hi - lo).toNat) H):Ef (model X.prog X.w) X.A (pyIter (.ref s.heap.objs.size)) (PIE X Jn σ tg R) E { s with heap:=s.heap.push { cls:=.type "range",data:=.fields #[.int lo t,.int hi u,.int 1 v] },toks:=tk }:=by
 refine wpAny_pyIter_range (IsRange.new ..) (small_one h1 h2 h3 h4) ?_;have I1:Inv X Jn σ H { s with heap:=s.heap.push { cls:=.type "range",data:=.fields #[.int lo t,.int hi u,.int 1 v] },toks:=tk }:=I.kept fun b o e=>D3 _ e;refine⟨(s.heap.push { cls:=.type "range",data:=.fields #[.int lo t,.int hi u,.int 1 v] }).objs.size,[(s.heap.push { cls:=.type "range",data:=.fields #[.int lo t,.int hi u,.int 1 v] }).objs.size],_,_,H,rfl,
  I1.kept (t':=tk) fun b o e=>D3 _ e,lX _ lo (hi - lo).toNat,?_,fun b hb=>?_,q⟩
 ·have e1:lo+((0:Nat):Int) * 1=lo:=by simp
  have e2:(((hi - lo).toNat:Nat):Int) - ((0:Nat):Int)=Builtin.Range.rangeSize lo hi 1:=by rw [rangeSize_one];split <;> omega
  show IsRangeIter _ _ (lo+((0:Nat):Int) * 1) ((((hi - lo).toNat:Nat):Int) - ((0:Nat):Int)) 1;rw [e1,e2];exact Ey _ rfl
 ·have e:b=(s.heap.push { cls:=.type "range",data:=.fields #[.int lo t,.int hi u,.int 1 v] }).objs.size:=by simpa using hb
  subst e;exact I1.fpOk (DU _) (I1.hok.fresh (DU _))
def nq (ta:TA):TI:=fun σ H R=>ta σ H fun vs H1=>∃ j:Int,vs=[.int j]/\-(2 ^ 62)<=j/\j<2 ^ 62/\R (Itr 0 j.toNat) H1
theorem yH {a:Expr} {ta:TA} {p pos:Pos} (hg:Gl X "range") (hm:X.mg "range"=none) (ha:PA X [a] ta) (hs:EN [a] X.env=[(false,eval a X.env)]:=by rfl):PI X tg (.Call (.Name "range" p) [a] [] pos) (nq ta):=by
 intro Jn s σ H R I h;refine Call_ (dP I hg hm boot_range (Gv (thn (ha pos Jn s σ H _ I h) fun us s1 ⟨vs,H1,I1,r1,q1⟩=>?_) hs rfl));obtain⟨j,e,q1,q2,q⟩:=q1;subst e;cases r1 with
 | cons r rr =>
  cases rr;obtain⟨t,rfl⟩:=r;exact call_range_1 (tO I1 (by omega) (by omega) q1 q2 (by simpa using q))
def tP (wi:TI) (g:TG) (tb:TS):TS:=fun D σ H=>wi σ H fun J H1=>∃ W:Nat->Nat->St->Hp->Prop,(∃ m,W 0 m σ H1)/\∀ i m σ H,W i m σ H ->
 (J.stop i H/\D.nx σ H) \/ (J.go i H/\∃ N:St->Hp->Prop,(∀ σ' H',N σ' H'->∃ m',m'<m/\W (i+1) m' σ' H')/\∀ x H',J.yld i H x H'->g x σ H' fun σ2 H2=>tb { D with nx:=N,ct:=N,bk:=D.nx } σ2 H2)
noncomputable def dU (fp:List DR) (h:Heap):List (DR×Obj):=fp.filterMap fun b=>(h.get? b).map fun o=>(b,o)
theorem vE {fp:List DR} {h:Heap} {b:DR} {o:Obj} (hb:b∈fp) (e:h.get? b=some o):(b,o)∈dU fp h:=HF.mpr ⟨b,hb,by rw [e];rfl⟩
theorem rf {fp:List DR} {h:Heap} {p:DR×Obj} (hp:p∈dU fp h):p.1∈fp/\h.get? p.1=some p.2:=by
 obtain⟨b,hb,e⟩:=HF.mp hp;cases q:h.get? b with
 | none=>rw [q] at e;cases e
 | some o =>
  rw [q] at e;have e':(b,o)=p:=Option.some.inj e;subst e';exact⟨hb,q⟩
theorem Inv.pinned {Jn:List (DR×Obj)} {σ:St} {H:Hp} {s:Shared} {fp:List DR} (I:Inv X Jn σ H s) (hf:∀ b∈fp,bG X Jn H b) (ho:∀ b∈fp,∃ o,s.heap.get? b=some o/\∀ v,o.data≠.cell v):Inv X (Jn++dU fp s.heap) σ H s :=
 I.pins_of fun p hp=>(Ep.mp hp).elim (fun z=>I.pin p (Ed _ z)) fun z=>by
  obtain⟨hb,e⟩:=rf z;obtain⟨f0,f1,f2,_⟩:=hf p.1 hb;obtain⟨o,e',d⟩:=ho p.1 hb;rw [e] at e';cases e';exact⟨e,f0,f1,f2,d⟩
theorem Inv.unpinned {Jn pl:List (DR×Obj)} {σ:St} {H:Hp} {s:Shared} (I:Inv X (Jn++pl) σ H s):Inv X Jn σ H s:=I.pins_of fun p hp=>I.pin p (Ed _ (ES _ hp))
theorem yK {iter:Expr} {body:List Stmt} {wi:TI} {g:TG} {tb:TS} {pos:Pos} (hp:PassesOwn (model X.prog X.w) X.A X.env X.xe) (hc:X.calm=true) (hi:PI X tg iter wi) (hg:PG X tg g) (hb:PSs X body tb)
  (hs:∀ x,EM iter X.env x=pure x:=by intro _;rfl):PS X (.For tg iter body [] pos) (tP wi g tb):=by
 intro Jn s σ H D I h;refine wpAny_For (thn (hi Jn s σ H _ I h) fun v s1 h1=>thn h1 fun itv s2 h2=>?_) hs;obtain⟨it,fp,tn,J,H2,e,I2,T,st2,f2,W,⟨m0,w0⟩,turn⟩:=h2;subst e
 -- what stays true of the iterator's objects through the loop
 have stat:∀ {H':Hp},(∀ b∈fp,H' b=none)->∀ b∈fp,bG X Jn H' b:=fun hn b hb=>⟨hn b hb,(f2 b hb).2⟩;refine codeAny_forLoop_any (fun n s'=>∃ i σ' H',Inv X Jn σ' H' s'/\tn i s'.heap/\(∀ b∈fp,H' b=none)/\W i n σ' H') ?_ m0 ⟨0,σ,H2,I2,st2,fun b hb=>(f2 b hb).1,w0⟩;rintro n s3 ⟨i,σ3,H3,I3,st3,fr3,w3⟩;rcases turn i n σ3 H3 w3 with⟨stop,qn⟩ | ⟨go,N,hN,step⟩
 ·refine wpAny_passesOwn hp (thn (T.done X rfl rfl rfl hc i Jn s3 σ3 H3 X.xe I3 (stat fr3) st3 stop) fun r s4 ⟨hr,I4⟩=>?_);subst hr;exact wpAny_execs_nil ⟨σ3,H3,I4,qn⟩
 ·refine wpAny_passesOwn hp (thn (T.item X rfl rfl rfl hc i Jn s3 σ3 H3 X.xe I3 (stat fr3) st3 go) fun r s4 ⟨u,hr,h4⟩=>?_);subst hr;refine wpAny_passesOwn hp (thn h4 fun _ s5 ⟨x,H5,I5,r5,y5,st5,fr5⟩=>?_);have I5':=I5.pinned (stat fr5) (T.obj _ _ st5);refine wpAny_passesOwn hp (thn (hg _ s5 σ3 H5 x u _ I5' r5 (step x H5 y5)) fun _ s6 ⟨σ6,H6,I6,q6⟩=>?_);refine wpAny_passesOwn hp (thn (hb _ s6 σ6 H6 _ I6 q6) fun f s7 q7=>?_);have again:∀ {σ7:St} {H7:Hp},Inv X (Jn++dU fp s5.heap) σ7 H7 s7->N σ7 H7->∃ m,m<n/\∃ i σ' H',Inv X Jn σ' H' s7/\tn i s7.heap/\(∀ b∈fp,H' b=none)/\W i m σ' H':=fun {σ7 H7} I7 n7=>by
   obtain⟨m',hm,w7⟩:=hN σ7 H7 n7;refine⟨m',hm,i+1,σ7,H7,I7.unpinned,T.keep _ _ _ st5 fun b hb o e=>(I7.pin (b,o) (Ed _ (Ed _ (vE hb e)))).1,fun b hb=>?_,w7⟩;obtain⟨o,e,d⟩:=T.obj _ _ st5 b hb;exact (I7.pin (b,o) (Ed _ (Ed _ (vE hb e)))).2.1
  cases f with
  | next=>obtain⟨σ7,H7,I7,n7⟩:=q7;exact again I7 n7
  | cont=>obtain⟨σ7,H7,I7,n7⟩:=q7;exact again I7 n7
  | brk=>obtain⟨σ7,H7,I7,q7⟩:=q7;exact⟨σ7,H7,I7.unpinned,q7⟩
  | ret v=>obtain⟨x7,σ7,H7,I7,r7,q7⟩:=q7;exact⟨x7,σ7,H7,I7.unpinned,r7,q7⟩
end
abbrev R2:=V->V->Hp->VK->Prop
def OpR (X:Cx) (f:Value->Value->Sem Value) (r:R2):Prop :=
 ∀ (Jn:List (DR×Obj)) (s:Shared) (σ:St) (H:Hp) (x y:V) (v u:Value) (Q:VK),Inv X Jn σ H s->RelV x v->RelV y u->r x y H Q ->
  Ef (model X.prog X.w) X.A (f v u) (EP X Jn σ Q) X.xe s
def UnR (X:Cx) (f:Value->Sem Value) (r:V->Hp->VK->Prop):Prop :=
 ∀ (Jn:List (DR×Obj)) (s:Shared) (σ:St) (H:Hp) (x:V) (v:Value) (Q:VK),Inv X Jn σ H s->RelV x v->r x H Q ->
  Ef (model X.prog X.w) X.A (f v) (EP X Jn σ Q) X.xe s
def yY (X:Cx) (f:Value) (r:List V->Hp->VK->Prop):Prop :=
 ∀ (Jn:List (DR×Obj)) (s:Shared) (σ:St) (H:Hp) (xs:List V) (us:List Value) (Q:VK),Inv X Jn σ H s->Vals xs us->r xs H Q ->
  Ef (model X.prog X.w) X.A (call f us) (EP X Jn σ Q) X.xe s
def Dz (X:Cx) (r:V->Hp->(Bool->Hp->Prop)->Prop):Prop :=
 ∀ (Jn:List (DR×Obj)) (s:Shared) (σ:St) (H:Hp) (x:V) (v:Value) (Q:Bool->Hp->Prop),Inv X Jn σ H s->RelV x v->r x H Q ->
  Ef (model X.prog X.w) X.A (truthy v) (TP X Jn σ Q) X.xe s
def tOp (r:R2) (ta tb:TE):TE:=fun σ H Q=>ta σ H fun x H1=>tb σ H1 fun y H2=>r x y H2 Q
def tUn (r:V->Hp->VK->Prop) (ta:TE):TE:=fun σ H Q=>ta σ H fun x H1=>r x H1 Q
def rI (C:Int->Int->Prop) (g:Int->Int->V):R2:=fun x y H Q=>∃ i j,x=.int i/\y=.int j/\C i j/\Q (g i j) H
def rI0 (g:Int->Int->V):R2:=fun x y H Q=>∃ i j,x=.int i/\y=.int j/\Q (g i j) H
def rU (g:Int->V):V->Hp->VK->Prop:=fun x H Q=>∃ i,x=.int i/\Q (g i) H
section
variable {X:Cx} {a b c:Expr} {ta tb tc:TE} {pos:Pos}
theorem Bt (ha:PE X a ta) (hb:PE X b tb) {Jn:List (DR×Obj)} {s:Shared} {σ:St} {H:Hp} {R:V->V->Hp->Prop} (I:Inv X Jn σ H s)
  (h:ta σ H fun x H1=>tb σ H1 fun y H2=>R x y H2) {Q:Value->Shared->Prop} {f:Value->Value->Sem Value}
  (hf:∀ v u s2 x y H2,Inv X Jn σ H2 s2->RelV x v->RelV y u->R x y H2->Ef (model X.prog X.w) X.A (f v u) Q X.xe s2) :
  Ef (model X.prog X.w) X.A (eval a X.env) (fun v s₁=>Ef (model X.prog X.w) X.A (eval b X.env) (fun u s₂=>Ef (model X.prog X.w) X.A (f v u) Q X.xe s₂) X.xe s₁) X.xe s:=by
 refine thn (ha Jn s σ H _ I h) fun v s1 ⟨x,H1,I1,r1,q1⟩=>?_;refine thn (hb Jn s1 σ H1 _ I1 q1) fun u s2 ⟨y,H2,I2,r2,q2⟩=>?_;exact hf v u s2 x y H2 I2 r1 r2 q2
theorem zr {op:Operator} {r:R2} (ho:OpR X (binaryOp op) r) (ha:PE X a ta) (hb:PE X b tb):PE X (.BinOp a op b pos) (tOp r ta tb):=by
 intro Jn s σ H Q I h;exact wpAny_BinOp (Bt ha hb I h fun v u s2 x y H2 I2 rx ry q=>ho Jn s2 σ H2 x y v u Q I2 rx ry q)
theorem CP {op:UnaryOp} {r:V->Hp->VK->Prop} (ho:UnR X (unaryOp op) r) (ha:PE X a ta):PE X (.UnaryOp op a pos) (tUn r ta):=by
 intro Jn s σ H Q I h;exact UnaryOp_ (thn (ha Jn s σ H _ I h) fun v s1 ⟨x,H1,I1,r1,q1⟩=>ho Jn s1 σ H1 x v Q I1 r1 q1)
theorem opI {f:Value->Value->Sem Value} {C:Int->Int->Prop} {g:Int->Int->Int}
  (rule:∀ (i j:Int) (t u:Tok) (s:Shared) (Q:Value->Shared->Prop) (E:Value->Shared->Prop),C i j->Q (.int (g i j) s.toks) { s with toks:=s.toks+1 }->Ef (model X.prog X.w) X.A (f (.int i t) (.int j u)) Q E s) :
  OpR X f (rI C fun i j=>.int (g i j)):=by
 intro Jn s σ H x y v u Q I rx ry h;obtain⟨i,j,rfl,rfl,hc,q⟩:=h;obtain⟨t,rfl⟩:=rx;obtain⟨t',rfl⟩:=ry;exact rule i j t t' s _ _ hc ⟨.int (g i j),H,I.tok _,⟨_,rfl⟩,q⟩
theorem CQ {f:Value->Value->Sem Value} {g:Int->Int->Int}
  (rule:∀ (i j:Int) (t u:Tok) (s:Shared) (Q:Value->Shared->Prop) (E:Value->Shared->Prop),Q (.int (g i j) s.toks) { s with toks:=s.toks+1 }->Ef (model X.prog X.w) X.A (f (.int i t) (.int j u)) Q E s) :
  OpR X f (rI0 fun i j=>.int (g i j)):=by
 intro Jn s σ H x y v u Q I rx ry h;obtain⟨i,j,rfl,rfl,q⟩:=h;obtain⟨t,rfl⟩:=rx;obtain⟨t',rfl⟩:=ry;exact rule i j t t' s _ _ ⟨.int (g i j),H,I.tok _,⟨_,rfl⟩,q⟩
theorem xk {f:Value->Value->Sem Value} {g:Int->Int->Bool}
  (rule:∀ (i j:Int) (t u:Tok) (s:Shared) (Q:Value->Shared->Prop) (E:Value->Shared->Prop),Q (.bool (g i j)) s->Ef (model X.prog X.w) X.A (f (.int i t) (.int j u)) Q E s) :
  OpR X f (rI0 fun i j=>.bl (g i j)):=by
 intro Jn s σ H x y v u Q I rx ry h;obtain⟨i,j,rfl,rfl,q⟩:=h;obtain⟨t,rfl⟩:=rx;obtain⟨t',rfl⟩:=ry;exact rule i j t t' s _ _ ⟨.bl (g i j),H,I,rfl,q⟩
def DA (i j:Int):Prop:=0<=j/\j<=1000000/\i.natAbs<2 ^ 64
def CMul (i j:Int):Prop:=(-(2 ^ 64)<i/\i<2 ^ 64) \/ (-(2 ^ 64)<j/\j<2 ^ 64)
theorem CMul.ok {i j:Int} (h:CMul i j):IntMulOk i j:=by
 rcases h with⟨h1,h2⟩ | ⟨h1,h2⟩
 ·exact .of_left (intBits_le_64 h1 h2)
 ·exact .of_right (intBits_le_64 h1 h2)
theorem z8:OpR X (binaryOp .Add) (rI0 fun i j=>.int (i+j)):=CQ fun _ _ _ _ _ _ _ q=>add_int q
theorem yb:OpR X (binaryOp .Sub) (rI0 fun i j=>.int (i - j)):=CQ fun _ _ _ _ _ _ _ q=>sub_int q
theorem bx:OpR X (binaryOp .Mult) (rI CMul fun i j=>.int (i * j)):=opI fun _ _ _ _ _ _ _ hc q=>mul_int q hc.ok
theorem vF:OpR X (binaryOp .Mod) (rI (fun _ j=>0<j) fun i j=>.int (i % j)):=opI fun i j _ _ _ _ _ hc q=>by
 have h1:(0:Int)<j:=hc;exact mod_int' (by omega) (by rw [Int.fmod_eq_emod_of_nonneg i (by omega)];exact q)
theorem dW:OpR X (binaryOp .Pow) (rI DA fun i j=>.int (i ^ j.toNat)):=opI fun _ _ _ _ _ _ _ hc q=>pow_int_small hc.1 hc.2.1 hc.2.2 q
theorem unI {f:Value->Sem Value} {g:Int->Int}
  (rule:∀ (i:Int) (t:Tok) (s:Shared) (Q:Value->Shared->Prop) (E:Value->Shared->Prop),Q (.int (g i) s.toks) { s with toks:=s.toks+1 }->Ef (model X.prog X.w) X.A (f (.int i t)) Q E s) :
  UnR X f (rU fun i=>.int (g i)):=by
 intro Jn s σ H x v Q I rx h;obtain⟨i,rfl,q⟩:=h;obtain⟨t,rfl⟩:=rx;exact rule i t s _ _ ⟨.int (g i),H,I.tok _,⟨_,rfl⟩,q⟩
theorem Bu:UnR X (unaryOp .USub) (rU fun i=>.int (-i)):=unI fun _ _ _ _ _ q=>neg_int q
end
section
variable {X:Cx} {a b c:Expr} {ta tb tc:TE} {pos:Pos}
theorem tQ {Jn:List (DR×Obj)} {σ:St} {H:Hp} {s:Shared} {Q:VK} {k k':Bool} (I:Inv X Jn σ H s) (q:Q (.bl k) H) (e:k=k'):EP X Jn σ Q (.bool k') s:=by
 subst e;exact⟨.bl k,H,I,rfl,q⟩
theorem fE:OpR X (EU .Lt) (rI0 fun i j=>.bl (decide (i<j))):=xk fun _ _ _ _ _ _ _ q=>lt_int q
theorem ae:OpR X (EU .LtE) (rI0 fun i j=>.bl (decide (i<=j))):=xk fun _ _ _ _ _ _ _ q=>le_int q
theorem iY:OpR X (EU .Gt) (rI0 fun i j=>.bl (decide (j<i))):=xk fun _ _ _ _ _ _ _ q=>gt_int q
theorem AW:OpR X (EU .GtE) (rI0 fun i j=>.bl (decide (j<=i))):=xk fun _ _ _ _ _ _ _ q=>ge_int q
theorem Bv:OpR X (EU .Is) (fun x y H Q=>y=.non/\Q (.bl (decide (x=.non))) H):=by
 intro Jn s σ H x y v u Q I rx ry h;obtain⟨rfl,q⟩:=h;cases ry;refine is_none_gen (tQ I q ?_);cases x <;> first
  | (cases rx;rfl)
  | (obtain⟨t,rfl⟩:=rx;rfl)
theorem gI:OpR X (EU .IsNot) (fun x y H Q=>y=.non/\Q (.bl (!decide (x=.non))) H):=by
 intro Jn s σ H x y v u Q I rx ry h;obtain⟨rfl,q⟩:=h;cases ry;refine isnot_none_gen (tQ I q ?_);cases x <;> first
  | (cases rx;rfl)
  | (obtain⟨t,rfl⟩:=rx;rfl)
theorem zI (b:Expr) {op:CmpOp} (h:op≠.In:=by decide) (h2:op≠.NotIn:=by decide):behindInMarks op b=false:=by
 have e1:(op == CmpOp.In)=false:=by cases op <;> first | rfl | exact absurd rfl h
 have e2:(op == CmpOp.NotIn)=false:=by cases op <;> first | rfl | exact absurd rfl h2
 cases b <;> simp [behindInMarks,e1,e2]
theorem yC {op:CmpOp} {r:R2} (ho:OpR X (EU op) r) (ha:PE X a ta) (hb:PE X b tb) (hm:behindInMarks op b=false):PE X (.Compare a [op] [b] pos) (tOp r ta tb):=by
 intro Jn s σ H Q I h;exact wpAny_Compare1 (Bt ha hb I h fun v u s2 x y H2 I2 rx ry q=>ho Jn s2 σ H2 x y v u Q I2 rx ry q) hm
def cP (t:TE):TT:=fun σ H Q=>t σ H fun x H'=>∃ k,x=.bl k/\Q k H'
theorem zQ {op:CmpOp} {r:R2} (ho:OpR X (EU op) r) (ha:PE X a ta) (hb:PE X b tb) (hm:behindInMarks op b=false):PT X (.Compare a [op] [b] pos) (cP (tOp r ta tb)):=by
 intro Jn s σ H Q I h;refine wpAny_isTrue_Compare1 (thn (ha Jn s σ H _ I h) fun v s1 ⟨x,H1,I1,r1,q1⟩=>thn (hb Jn s1 σ H1 _ I1 q1) fun u s2 ⟨y,H2,I2,r2,q2⟩ =>
  thn (ho Jn s2 σ H2 x y v u _ I2 r1 r2 q2) fun c s3 ⟨z,H3,I3,r3,k,e,q3⟩=>?_) hm
 subst e;cases r3;exact Fm ⟨H3,I3,q3⟩
def tR (r r':R2) (ta tb tc:TE):TE:=fun σ H Q=>ta σ H fun x H1=>tb σ H1 fun y H2=>r x y H2 fun z H3=>∃ k,z=.bl k /\
 (if k=true then tc σ H3 fun w' H4=>r' y w' H4 Q else Q (.bl false) H3)
theorem ar {op op':CmpOp} {r r':R2} (ho:OpR X (EU op) r) (ho':OpR X (EU op') r') (ha:PE X a ta) (hb:PE X b tb) (hc:PE X c tc)
  (hm:lastMarks [op,op'] [b,c]=false:=by with_unfolding_all rfl):PE X (.Compare a [op,op'] [b,c] pos) (tR r r' ta tb tc):=by
 intro Jn s σ H Q I h;refine Compare_chain (thn (ha Jn s σ H _ I h) fun v s1 ⟨x,H1,I1,r1,q1⟩=>chain_link (thn (hb Jn s1 σ H1 _ I1 q1) fun u s2 ⟨y,H2,I2,r2,q2⟩ =>
  thn (ho Jn s2 σ H2 x y v u _ I2 r1 r2 q2) fun d s3 ⟨z,H3,I3,r3,k,e,q3⟩=>?_)) hm
 subst e;cases r3;refine Fm ?_;cases k with
 | false=>exact ite_ff ⟨.bl false,H3,I3,rfl,q3⟩
 | true=>exact ite_tt (chain_last (thn (hc Jn s3 σ H3 _ I3 q3) fun w' s4 ⟨z',H4,I4,r4,q4⟩=>ho' Jn s4 σ H4 y z' u w' Q I4 r2 r4 q4))
def Bw (K:DP) (x:V) (H:Hp) (k:Bool):Prop :=
 match x with
 | .non=>k=false
 | .bl b=>k=b
 | .int i=>k=(i != 0)
 | .str y=>y.length<=Ex/\k=((y.length:Int) != 0)
 | .byt y=>y.size<=Ex/\k=((y.size:Int) != 0)
 | .ref p=>(∃ xs,SqL K H p xs/\k=!xs.isEmpty) \/ (∃ xs,SqT K H p xs/\k=!xs.isEmpty) \/ ∃ kvs,H p=some (.dK kvs)/\k=!kvs.isEmpty
 | _=>False
theorem lY {κ:Type} {kvs:List (κ×V)} {vs:List (κ×Value)} (r:KV kvs vs):(!vs.isEmpty)=!kvs.isEmpty:=by
 cases r <;> rfl
theorem dX {xs:List V} {its:List Value} (r:Vals xs its):(!its.toArray.isEmpty)=!xs.isEmpty:=by
 cases r <;> simp
theorem dY:(Ex:Nat)<2 ^ 63:=by rw [sizeLine_eq];decide
theorem Bx:Dz X (fun x H Q=>∃ k,Bw X.K x H k/\Q k H):=by
 intro Jn s σ H x v Q I rx h;obtain⟨k,e,q⟩:=h;have hl:=dY;have hs:Ex=16777216:=sizeLine_eq;cases x with
 | non =>
  cases rx;have e':k=false:=e;subst e';exact truthy_none ⟨H,I,q⟩
 | bl b =>
  cases rx;have e':k=b:=e;subst e';exact Fm ⟨H,I,q⟩
 | int i =>
  obtain⟨t,rfl⟩:=rx;have e':k=(i != 0):=e;subst e';exact PySem.P.truthy_int ⟨H,I,q⟩
 | str y =>
  obtain⟨t,rfl⟩:=rx;obtain⟨hy,e'⟩:y.length<=Ex/\k=((y.length:Int) != 0):=e;subst e';exact PySem.P.truthy_str (by omega) ⟨H,I.tok _,q⟩
 | byt y =>
  obtain⟨t,rfl⟩:=rx;obtain⟨hy,e'⟩:y.size<=Ex/\k=((y.size:Int) != 0):=e;subst e';exact PySem.W.truthy_bytes (by omega) ⟨H,I.tok _,q⟩
 | ref p =>
  cases rx;have e':(∃ xs,SqL X.K H p xs/\k=!xs.isEmpty) \/ (∃ xs,SqT X.K H p xs/\k=!xs.isEmpty) \/ ∃ kvs,H p=some (.dK kvs)/\k=!kvs.isEmpty:=e;rcases e' with⟨xs,hx,e'⟩ | ⟨xs,hx,e'⟩ | ⟨kvs,hx,e'⟩
  ·subst e';obtain⟨its,r,pl,hz⟩:=I.list hx;have hlen:=r.length;exact wpAny_truthy_list pl.isList (by simp only [D9];omega) ⟨H,I.tok _,by rw [dX r];exact q⟩
  ·subst e';obtain⟨its,r,pl,hz⟩:=I.tuple hx;have hlen:=r.length;exact truthy_tuple pl (by simp only [D9];omega) ⟨H,I.tok _,by rw [dX r];exact q⟩
  ·subst e';obtain⟨hz,hS,vs,r,m⟩:kvs.length<=Ex/\(p == sysModules)=false/\∃ vs,KV kvs vs/\s.heap.DictOf (gD X.prog X.w) p vs:=I.hok p _ hx;have hlen:kvs.length=vs.length:=Paired.length r;exact wpAny_truthy_dict hS m (by omega) ⟨H,I.tok _,by rw [lY r];exact q⟩
 | _=>exact (show False from e).elim
theorem tS (ha:PE X a ta) (he:∀ whole,isTrue a X.env whole=(do let v <- whole;standAt a.pos;holding [v] (truthy v))) :
  PT X a (fun σ H Q=>ta σ H fun x H'=>∃ k,Bw X.K x H' k/\Q k H'):=by
 intro Jn s σ H Q I h;exact isTrue_plain (thn (ha Jn s σ H _ I h) fun v s1 ⟨x,H1,I1,r1,q1⟩=>Bx Jn s1 σ H1 x v Q I1 r1 q1) (he _)
theorem vals1 {x:V} {us:List Value} (r:Vals [x] us):∃ u,us=[u]/\RelV x u:=by
 cases r with
 | cons r1 r2=>cases r2;exact⟨_,rfl,r1⟩
theorem vals2 {x y:V} {us:List Value} (r:Vals [x,y] us):∃ u w',us=[u,w']/\RelV x u/\RelV y w':=by
 cases r with
 | cons r1 r2 =>
  cases r2 with
  | cons r3 r4=>cases r4;exact⟨_,_,rfl,r1,r3⟩
theorem bH:yY X (.builtin "abs") (fun xs H Q=>∃ i,xs=[.int i]/\Q (.int (if i<0 then -i else i)) H):=by
 intro Jn s σ H xs us Q I r h;obtain⟨i,rfl,q⟩:=h;obtain⟨u,rfl,t,rfl⟩:=vals1 r;exact call_abs_int fun u tk=>⟨.int (if i<0 then -i else i),H,I.tok _,⟨_,rfl⟩,q⟩
theorem vm (hc:X.calm=true):yY X (.builtin "max") (fun xs H Q=>∃ i j,xs=[.int i,.int j]/\Q (.int (if j > i then j else i)) H):=by
 intro Jn s σ H xs us Q I r h;obtain⟨i,j,rfl,q⟩:=h;obtain⟨u,w',rfl,⟨t,rfl⟩,⟨t',rfl⟩⟩:=vals2 r;refine max_two_ints (I.ok.hd hc) fun h' tk k=>⟨_,H,I.kept k,?_,q⟩;by_cases hj:j > i
 ·rw [Jp hj,Jp hj];exact⟨_,rfl⟩
 ·rw [Jo hj,Jo hj];exact⟨_,rfl⟩
theorem qA (hc:X.calm=true):yY X (.builtin "min") (fun xs H Q=>∃ i j,xs=[.int i,.int j]/\Q (.int (if j<i then j else i)) H):=by
 intro Jn s σ H xs us Q I r h;obtain⟨i,j,rfl,q⟩:=h;obtain⟨u,w',rfl,⟨t,rfl⟩,⟨t',rfl⟩⟩:=vals2 r;refine min_two_ints (I.ok.hd hc) fun h' tk k=>⟨_,H,I.kept k,?_,q⟩;by_cases hj:j<i
 ·rw [Jp hj,Jp hj];exact⟨_,rfl⟩
 ·rw [Jo hj,Jo hj];exact⟨_,rfl⟩
theorem rg:yY X (.type "int") (fun xs H Q=>(∃ i,xs=[.int i]/\Q (.int i) H) \/ ∃ k,xs=[.bl k]/\Q (.int (if k then 1 else 0)) H):=by
 intro Jn s σ H xs us Q I r h;rcases h with⟨i,rfl,q⟩ | ⟨k,rfl,q⟩
 ·obtain⟨u,rfl,t,rfl⟩:=vals1 r;exact call_int_int ⟨.int i,H,I,⟨_,rfl⟩,q⟩
 ·obtain⟨u,rfl,r1⟩:=vals1 r;cases r1;exact call_int_bool ⟨.int (if k then 1 else 0),H,I.tok _,⟨_,rfl⟩,q⟩
end
structure ObjM (h:Heap) (x dx C:DR) (mA:Str->Option Value):Prop where
 obj:h.get? x=some (PySem.W.instObj C dx)
 ns:h.Ns1 dx mA
 ne:dx≠x
section
variable {prog:Program} {w:World} {A:Around} {E:Value->Shared->Prop} {s:Shared} {K:DP} {x dx C f:DR} {mA:Str->Option Value} {name:Str} {v:Value}
end
structure Cls (K:DP) (C:DR):Prop where
 pg:PySem.W.plainGet K C Str.empty=true
 hd:PySem.W.hasDictIn K C=true
 po:PySem.W.plainOver K C=true
 sa:F7 K (.ref C) "__setattr__"=some (some (.builtin "object.__setattr__"))
structure Con (K:DP) (C:DR) (f:Str) (v:V) (u:Value):Prop where
 at_:F7 K (.ref C) f=some (some u)
 rel:RelV v u
 get:HR K u "__get__"=some none
 cp:PySem.W.copiedNames.contains f=false
structure Meth (K:DP) (C:DR) (m:Str) (f:DR):Prop where
 at_:F7 K (.ref C) m=some (some (.ref f))
 fn:PySem.W.isFn K (.ref f)=true
 kp:EZ K (.ref f)=true
section
variable {X:Cx} {Jn:List (DR×Obj)} {σ:St} {H:Hp} {s:Shared} {a C dx:DR} {fs:List (Str×V)} {f:Str} {v:V} {A:Around} {E:Value->Shared->Prop}
end
section
variable {X:Cx} {Jn:List (DR×Obj)} {σ:St} {H:Hp} {s:Shared} {A:Around} {E:Value->Shared->Prop} {Q:Value->Shared->Prop} {c:Value} {b:Bool}
inductive TyOf (K:DP) (H:Hp):V->Value->Prop where
 | non:TyOf K H .non (.type "NoneType")
 | bl (x:Bool):TyOf K H (.bl x) (.type "bool")
 | int (i:Int):TyOf K H (.int i) (.type "int")
 | str (x:Str):TyOf K H (.str x) (.type "str")
 | flt (x:UInt64):TyOf K H (.flt x) (.type "float")
 | lst {a:DR} {xs:List V} (e:H a=some (.lst xs)):TyOf K H (.ref a) (.type "list")
 | frz {a:DR} {o:Obj} {xs:List V} (e:H a=some (.frz o (.lst xs))):TyOf K H (.ref a) (.type "list")
 | tup {a:DR} {xs:List V} (e:H a=some (.tup xs)):TyOf K H (.ref a) (.type "tuple")
 | dK {a:DR} {kvs:List (Key×V)} (e:H a=some (.dK kvs)):TyOf K H (.ref a) (.type "dict")
 | dT {a:DR} {kvs:List (List Key×V)} (e:H a=some (.dT kvs)):TyOf K H (.ref a) (.type "dict")
 | ins {a C dx:DR} {fs:List (Str×V)} (e:H a=some (.ins C dx fs)) (cl:Cls K C) (ha:F7 K (.ref C) "__class__"=some (some (.builtin "object.__class__")))
   (hn:HR K (.builtin "object.__class__") "__get__"=some (some (.builtin "getset_descriptor.__get__"))) (htk:PySem.W.takesIn K (.builtin "object.__class__")=some true)
   (hm:PySem.W.mroIn K C (.type "object")=some true):TyOf K H (.ref a) (.ref C)
end
structure Room (k:Nat) (A:Around):Prop where
 hd:A.handled=none
 dp:A.depth+3 * k+5<recursionLimit
 un:A.units+16 * k+200<Fh
theorem Room.mono {j k:Nat} {A:Around} (r:Room k A) (h:j<=k):Room j A:=⟨r.hd,by have:=r.dp;omega,by have:=r.un;omega⟩
theorem Room.deeper {k:Nat} {A:Around} (r:Room (k+1) A) (env:Env):Room k (A.deeper env) :=
 ⟨r.hd,by have:=r.dp;show A.depth+1+3 * k+5<_;omega,by have:=r.un;show A.units+3+16 * k+200<_;omega⟩
theorem Room.depth {k:Nat} {A:Around} (r:Room k A):A.depth<recursionLimit:=by have:=r.dp;omega
theorem Room.units {k:Nat} {A:Around} (r:Room k A):A.units+64<Fh:=by have:=r.un;omega
def jT:TA:=fun _ H Q=>Q [] H
def zT (ta:TE) (tr:TA):TA:=fun σ H Q=>ta σ H fun x H1=>tr σ H1 fun xs H2=>Q (x :: xs) H2
section
variable {X:Cx} {e:Expr} {es:List Expr} {te:TE} {t:TA} {pos:Pos}
theorem zb:PA X [] jT:=fun _ _ _ _ H Q I h=>Calls.spliced_nil ⟨[],H,I,.nil,h⟩
theorem za (ha:PE X e te) (hr:PA X es t) (hs:EN (e :: es) X.env=(false,eval e X.env) :: EN es X.env:=by rfl):PA X (e :: es) (zT te t):=by
 intro pos Jn s σ H Q I h;rw [hs];show Ef _ _ (spliced ((false,eval e X.env) :: backTo pos (EN es X.env))) _ _ s;refine Calls.spliced_cons (thn (ha Jn s σ H _ I h) fun u s1 ⟨x,H1,I1,r1,q1⟩=>?_);exact thn (hr pos Jn s1 σ H1 _ I1 q1) fun us s2 ⟨xs,H2,I2,r2,q2⟩=>⟨x :: xs,H2,I2,.cons r1 r2,q2⟩
def CS (t:TA):TE:=fun σ H Q=>t σ H fun xs H1=>xs.length<=Ex/\∀ p,H1 p=none->Q (.ref p) (upd H1 p (.tup xs))
def tT (t:TA):TE:=fun σ H Q=>t σ H fun xs H1=>xs.length<=Ex/\∀ p,H1 p=none->Q (.ref p) (upd H1 p (.lst xs))
theorem zJ {x1} (h:PA X es t):PE X (.Tuple es x1 pos) (CS t):=by
 intro Jn s σ H Q I hq;refine wpAny_Tuple_spliced (thn (h pos Jn s σ H _ I hq) fun us s1 ⟨xs,H1,I1,r,z,q⟩=>⟨by rw [<-r.length];exact z,?_⟩);have hf:H1 s1.heap.objs.size=none:=I1.hok.fresh (DU _);refine⟨.ref s1.heap.objs.size,upd H1 s1.heap.objs.size (.tup xs),I1.laid (t':=s1.toks) (fun b u e=>D3 _ e) (DU _) ?_,rfl,q _ hf⟩;exact⟨z,us,r,⟨_,Ey _ rfl,rfl,_,rfl⟩⟩
theorem yL (h:PA X es t):PE X (.List es pos) (tT t):=by
 intro Jn s σ H Q I hq;refine wpAny_List_spliced (thn (h pos Jn s σ H _ I hq) fun us s1 ⟨xs,H1,I1,r,z,q⟩=>⟨by rw [<-r.length];exact z,?_⟩);have hf:H1 s1.heap.objs.size=none:=I1.hok.fresh (DU _);refine⟨.ref s1.heap.objs.size,upd H1 s1.heap.objs.size (.lst xs),I1.laid (t':=s1.toks) (fun b u e=>D3 _ e) (DU _) ?_,rfl,q _ hf⟩;exact⟨z,us,0,r,Ey _ rfl⟩
end
abbrev Sp:=List V->Hp->VK->XK->Prop
abbrev CXT:=List Env->Hp->Shared->XK->Value->Shared->Prop
structure Env0 (P:Program) (w:World) (K:DP) (mg:Str->Option Value) (base:Heap) (A:Around) (outer:List Env) (s:Shared) (H:Hp):Prop where
 frames:A.frames=some outer
 mod:Mod K mg base
 bs:∀ b o,base.get? b=some o->s.heap.get? b=some o/\H b=none
 bsz:base.objs.size<=s.heap.objs.size
 funs:s.heap.FunFrames base outer
 frf:∀ b∈frs outer,H b=none
 tabs:TabsOk K H
 hok:HOk P w H s.heap
 bare:AllBare s.gens
def CE (outer:List Env) (P:Program) (w:World) (H:Hp) (s:Shared) (Q:VK) (u:Value) (s':Shared):Prop :=
 ∃ v H',s'.os=s.os/\AllBare s'.gens/\Un (frs outer) [] H H' s.heap s'.heap/\HOk P w H' s'.heap/\RelV v u/\Q v H'
def CR (CX:CXT) (outer:List Env) (P:Program) (w:World) (H:Hp) (s:Shared) (Q:VK) (E:XK) (r:Result) (s':Shared):Prop :=
 match r with
 | .ok (.ret u)=>CE outer P w H s Q u s'
 | .ok _=>False
 | .error e=>CX outer H s E e s'
structure FnOk (P:Program) (w:World) (K:DP) (mg:Str->Option Value) (base:Heap) (CX:CXT) (k:Nat) (f:DR) (fd:FuncData) (ps:List Str) (sp:Sp):Prop where
 len:∀ vs H Q E,sp vs H Q E->vs.length=ps.length
 run:∀ (A:Around) (outer:List Env) (s:Shared) (H:Hp) (args:Args) (us:List Value) (vs:List V) (Q:VK) (E:XK),Room k A->Env0 P w K mg base A outer s H->BindsTo s fd args (ps.zip us)->Vals vs us->sp vs H Q E ->
  codeAny (model P w) A (.call (.ref f) args) (CR CX outer P w H s Q E) s
theorem FnOk.mono {P:Program} {w:World} {K:DP} {mg:Str->Option Value} {base:Heap} {CX:CXT} {j k:Nat} {f:DR} {fd:FuncData} {ps:List Str} {sp:Sp} (F:FnOk P w K mg base CX j f fd ps sp) (h:j<=k) :
  FnOk P w K mg base CX k f fd ps sp:=⟨F.len,fun A outer s H args us vs Q E hr=>F.run A outer s H args us vs Q E (hr.mono h)⟩
section
variable {X:Cx} {Jn:List (DR×Obj)} {σ:St} {H:Hp} {s s':Shared}
theorem Inv.env0 (I:Inv X Jn σ H s):Env0 X.prog X.w X.K X.mg X.base X.A X.stack s H :=
 ⟨I.ok.frames,I.ok.mod,I.bs,Em I.ok.bsz I.sz,I.stack,I.stkFree,fun c P q h1 h2 h3=>I.base.tbls _ _ (I.ok.tabs c P q h1 h2 h3),I.hok,I.bare⟩
theorem Inv.after {Q:VK} {u:Value} (I:Inv X Jn σ H s) (h:CE X.stack X.prog X.w H s Q u s'):EP X Jn σ Q u s':=by
 obtain⟨v,H',os,bare,un,hok,r,q⟩:=h;obtain⟨hh,g,d,t,os'⟩:=s';obtain rfl:os'=s.os:=os;exact⟨v,H',I.call (h':=hh) (g':=g) (d':=d) (t':=t) (ch:=[]) un hok bare (fun b z=>absurd z (by simp)),r,q⟩
end
def j7 (sp:Sp) (dvs:List V) (E:XK) (t:TA):TE:=fun σ H Q=>t σ H fun vs H1=>sp (vs++dvs) H1 Q E
def Binds (K:DP) (fd:FuncData) (ps:List Str) (ds:List Value):Prop :=
 ∀ (s:Shared) (us:List Value),K.In s.heap->(us++ds).length=ps.length->BindsTo s fd ⟨us,[]⟩ (ps.zip (us++ds))
theorem Binds.all {K:DP} {fd:FuncData} {ps:List Str} (h:∀ us:List Value,us.length=ps.length->bindArgs fd ⟨us,[]⟩=pure (ps.zip us)):Binds K fd ps []:=fun s us _ hl=>by
 rw [ER] at hl ⊢;exact .of_eq (h us hl)
def Passes (CX:CXT) (X:Cx) (E:XK):Prop:=∀ (Jn:List (DR×Obj)) (σ:St) (H:Hp) (s:Shared) (e:Value) (s':Shared),Inv X Jn σ H s->CX X.stack H s E e s'->X.xe e s'
section
variable {X:Cx} {CX:CXT} {k:Nat} {f C:DR} {fd:FuncData} {ps:List Str} {sp:Sp} {dvs:List V} {ds:List Value} {E:XK} {x m:Str} {p pos apos:Pos} {e o:Expr} {es:List Expr} {ta:TE} {t:TA}
theorem By {Jn:List (DR×Obj)} {σ:St} {H:Hp} {s:Shared} {Q:VK} {us:List Value} {vs:List V} (F:FnOk X.prog X.w X.K X.mg X.base CX k f fd ps sp) (hr:Room k X.A) (hb:Binds X.K fd ps ds) (hd:Vals dvs ds) (hx:Passes CX X E)
  (I:Inv X Jn σ H s) (r:Vals vs us) (h:sp (vs++dvs) H Q E):Ef (model X.prog X.w) X.A (call (.ref f) us) (EP X Jn σ Q) X.xe s:=by
 have r2:Vals (vs++dvs) (us++ds):=r.append hd;have hl:(us++ds).length=ps.length:=by rw [<-r2.length];exact F.len _ _ _ _ h
 refine wpAny_call (Jf (F.run X.A X.stack s H ⟨us,[]⟩ (us++ds) (vs++dvs) Q E hr I.env0 (hb s us I.kIn hl) r2 h) fun r s' hq=>?_);cases r with
 | error e=>exact hx Jn σ H s e s' I hq
 | ok fl =>
  cases fl with
  | ret u=>exact I.after hq
  | next=>exact Gh hq
  | brk=>exact Gh hq
  | cont=>exact Gh hq
theorem xl (F:FnOk X.prog X.w X.K X.mg X.base CX k f fd ps sp) (hr:Room k X.A) (hg:Gl X x) (hm:X.mg x=some (.ref f)) (hk:EZ X.K (.ref f)=true) (hb:Binds X.K fd ps ds) (hd:Vals dvs ds) (hx:Passes CX X E)
  (ha:PA X (e :: es) t) (hdb:(x == ("__debug__":Str))=false:=by decide) (he:EN (e :: es) X.env=(false,eval e X.env) :: EN es X.env:=by rfl) (hpl:(backTo pos (EN es X.env)).any (·.1)=false:=by rfl) :
  PE X (.Call (.Name x p) (e :: es) [] pos) (j7 sp dvs E t):=by
 intro Jn s σ H Q I h;refine wpAny_Call_Name_kw (gF I hg hm ?_ hdb);refine PySem.W.callWith_K (h₀:=X.base) I.ok.mod.kin hk (thn (ha pos Jn s σ H _ I h) fun us s1 ⟨vs,H1,I1,r,q⟩=>⟨I1.kIn,?_⟩) he hpl;exact By F hr hb hd hx I1 r q
structure Mk (K:DP) (C f:DR):Prop where
 makes:PySem.W.makesIn K C=true
 init:F7 K (.ref C) "__init__"=some (some (.ref f))
 fn:PySem.W.isFn K (.ref f)=true
 kp:EZ K (.ref C)=true
end
section
variable {X:Cx} {CX:CXT} {k:Nat} {f C:DR} {fd:FuncData} {ps ks:List Str} {sp:Sp} {E:XK} {x m:Str} {p pos apos kpos:Pos} {e o:Expr} {es:List Expr} {kws:List Keyword} {te ta:TE} {t tk:TA} {nm:Option Str}
structure KBinds (K:DP) (fd:FuncData) (ps ks:List Str) (g:List Value->List Value->List Value) (gV:List V->List V->List V):Prop where
 to:∀ (s:Shared) (us ws:List Value),K.In s.heap->(g us ws).length=ps.length->BindsTo s fd ⟨us,ks.zip ws⟩ (ps.zip (g us ws))
 rel:∀ {vs:List V} {us:List Value} {zs:List V} {ws:List Value},Vals vs us->Vals zs ws->Vals (gV vs zs) (g us ws)
variable {g:List Value->List Value->List Value} {gV:List V->List V->List V}
end
structure FnScope (N P:List Str) (sc:Scope):Prop where
 kind:sc.kind=.function
 co:sc.isCoroutine=false
 gen:sc.isGenerator=false
 nd:N.Nodup
 pre:N.take P.length=P
 par:∀ x∈P,sc.names.lookup x=some .local \/ sc.names.lookup x=some .cell
 nofree:∀ y∈sc.names,y.2≠.free
theorem fF {kindOf:Str->Option NameKind} {x:Str}:∀ {binds:List (Str×Value)} {m:Str->Option Value},(∀ v,(x,v)∉binds)->bindL kindOf binds m x=m x
 | [],_,_=>rfl
 | (n,v) :: r,m,h=>by
  unfold bindL;rw [fF fun w hw=>h w (DT _ hw)];split
  ·have:x≠n:=by rintro rfl;exact h v DZ
   simp [this]
  ·rfl
theorem fG {kindOf:Str->Option NameKind} {x:Str}:∀ {binds:List (Str×Value)} {m:Str->Option Value},(∀ v,(x,v)∉binds)->bindC kindOf binds m x=m x
 | [],_,_=>rfl
 | (n,v) :: r,m,h=>by
  unfold bindC;rw [fG fun w hw=>h w (DT _ hw)];split
  ·rfl
  ·have:x≠n:=by rintro rfl;exact h v DZ
   simp [this]
theorem fH {kindOf:Str->Option NameKind} {x:Str} {v:Value}:∀ {P:List Str} {vs:List Value} {i:Nat} {m:Str->Option Value},P.Nodup->P[i]?=some x->vs[i]?=some v->kindOf x=some .local ->
  bindL kindOf (P.zip vs) m x=some v
 | [],_,_,_,_,h,_,_=>by simp at h
 | _ :: _,[],_,_,_,_,h,_=>by simp at h
 | p :: P,w :: vs,0,m,nd,h1,h2,hk=>by
  simp at h1 h2;subst h1;subst h2;show bindL kindOf ((p,w) :: P.zip vs) m p=_;unfold bindL;rw [fF fun v hv=>(Fe.mp nd).1 (Ir hv).1,Jp hk];simp
 | p :: P,w :: vs,i+1,m,nd,h1,h2,hk=>by
  show bindL kindOf ((p,w) :: P.zip vs) m x=_;unfold bindL;exact fH (i:=i) (Fe.mp nd).2 (by simpa using h1) (by simpa using h2) hk
theorem fI {kindOf:Str->Option NameKind} {x:Str} {v:Value}:∀ {P:List Str} {vs:List Value} {i:Nat} {m:Str->Option Value},P.Nodup->P[i]?=some x->vs[i]?=some v->kindOf x≠some .local ->
  bindC kindOf (P.zip vs) m x=some v
 | [],_,_,_,_,h,_,_=>by simp at h
 | _ :: _,[],_,_,_,_,h,_=>by simp at h
 | p :: P,w :: vs,0,m,nd,h1,h2,hk=>by
  simp at h1 h2;subst h1;subst h2;show bindC kindOf ((p,w) :: P.zip vs) m p=_;unfold bindC;rw [fG fun v hv=>(Fe.mp nd).1 (Ir hv).1,Jo hk];simp
 | p :: P,w :: vs,i+1,m,nd,h1,h2,hk=>by
  show bindC kindOf ((p,w) :: P.zip vs) m x=_;unfold bindC;exact fI (i:=i) (Fe.mp nd).2 (by simpa using h1) (by simpa using h2) hk
noncomputable def start (N:List Str) (vs:List V):St:=vs.map some++F8 (N.length - vs.length) none
noncomputable def ye (CX:CXT) (P:Program) (w:World) (K:DP) (mg:Str->Option Value) (base:Heap) (N:List Str) (qual:Str) (scope:Scope) (f:DR) (cd:Value) (A:Around) (outer:List Env) (s:Shared) (H:Hp) (E:XK):Cx where
 prog:=P
 w:=w
 K:=K
 mg:=mg
 base:=base
 A:=A.deeper (envOfC qual scope s.heap.objs.size f cd)
 N:=N
 s₀:=s
 H₀:=H
 env:=envOfC qual scope s.heap.objs.size f cd
 outer:=outer
 stack:=envOfC qual scope s.heap.objs.size f cd :: outer
 ex:=[]
 calm:=true
 fn:=fun _=>true
 pn:=[]
 xe:=fun e s'=>Ef (model P w) (A.deeper (envOfC qual scope s.heap.objs.size f cd)) (leaving (envOfC qual scope s.heap.objs.size f cd) e) (fun _ s''=>CX outer H s E e s'') (fun e' s''=>CX outer H s E e' s'') s'
theorem iZ {sc:Scope} {n:Nat} {x:Str} (h:sc.names.lookup x=some .cell):∃ c,(cellsFrom n sc.names []).lookup x=some c:=by
 have q:=Gi sc.names n [] (.inl h);exact GU.mp q
theorem rh {CX:CXT} {P:Program} {w:World} {K:DP} {mg:Str->Option Value} {base:Heap} {N ps:List Str} {qual:Str} {scope:Scope} {f:DR} {cd:Value} {A:Around} {outer:List Env} {s s1:Shared} {H:Hp} {E:XK} {us:List Value} {vs:List V}
  (S:FnScope N ps scope) (hd:A.handled=none) (e0:Env0 P w K mg base A outer s H) (hl:vs.length=ps.length) (r:Vals vs us)
  (x:InCallC s s.heap.objs.size (bindL (envOfC qual scope s.heap.objs.size f cd).kindOf (ps.zip us) fun _=>none) (cellsFrom (s.heap.objs.size+1) scope.names []) (bindC (envOfC qual scope s.heap.objs.size f cd).kindOf (ps.zip us) fun _=>none) s1) :
  Inv (ye CX P w K mg base N qual scope f cd A outer s H E) [] (start N vs) H s1:=by
 have hpl:ps.length<=N.length:=by have:=congrArg List.length S.pre;rw [Et] at this;omega
 obtain⟨h1,tk,rfl,hk⟩:=x.done;have noA:∀ b:DR,b∉(ye CX P w K mg base N qual scope f cd A outer s H E).ex:=fun b z=>absurd (show b∈([]:List DR) from z) (by simp);refine⟨⟨e0.mod,S.kind,rfl,rfl,DU _,fun y z c h1 h2=>?_,fun y hy=>?_,fun y c _ h=>?_,fun _=>hd,Around.frames_deeper e0.frames,.inr ⟨rfl,rfl⟩,fun b z=>absurd z (noA b),e0.bs,e0.bsz,fun b _ _=>noA b,fun b z=>absurd z (noA b),e0.funs,e0.frf,e0.tabs⟩,
  rfl,e0.bare,Un.kept hk,⟨_,x.toInCall.ns,fun i y v h1 h2 h3=>?_⟩,fun y c h=>⟨_,x.cell y c h⟩,e0.hok.fresh (DU _),fun y c h=>?_,fun p hp=>absurd (show p∈([]:List (DR×Obj)) from hp) (by simp),e0.hok.kept hk,?_⟩
 ·exact name_of_addr x.apart (F4 h1) (F4 h2)
 ·have hy:scope.names.lookup y=some .cell \/ scope.names.lookup y=some .free:=hy;rcases hy with hy | hy
  ·exact iZ hy
  ·exact absurd rfl (S.nofree _ (F4 hy))
 ·exact Fd (x.above y c (F4 h))
 ·have hi:i<vs.length:=by
   unfold start at h2;by_cases hi:i<vs.length
   ·exact hi
   ·rw [D7 (by simpa using hi)] at h2;rw [F9] at h2;split at h2 <;> cases h2
  have ha:vs[i]?=some v:=by
   unfold start at h2;rw [D4 (by simpa using hi),DX] at h2;cases e:vs[i]? with
   | none=>rw [e] at h2;cases h2
   | some a=>rw [e] at h2;cases h2;rfl
  obtain⟨u,hu,rv⟩:=r.get ha;have hp:ps[i]?=some y:=by
   rw [<-S.pre,GV (by omega)];exact h1
  have ndP:ps.Nodup:=by rw [<-S.pre];exact S.nd.sublist (List.take_sublist _ _)
  refine⟨u,rv,?_⟩;rcases S.par y (DS hp) with k | k
  ·exact .inl ⟨k,fH ndP hp hu k⟩
  ·obtain⟨c,e⟩:=iZ (n:=s.heap.objs.size+1) k;refine .inr ⟨.inl k,c,e,?_⟩;have q:=x.cell y c e;rw [fI ndP hp hu (by show scope.names.lookup y≠_;rw [k];decide)] at q;exact q
 ·exact e0.hok.fresh (Fd (x.above y c (F4 h)))
 ·unfold start;show _=N.length;rw [D6,DM,Hc];omega
theorem CT {CX:CXT} {P:Program} {w:World} {K:DP} {mg:Str->Option Value} {base:Heap} {k:Nat} {f:DR} {name qual:Str} {params:Arguments} {body:List Stmt} {scope:Scope} {dV kV doc pm cdv ct oc:Value} {an od:Option DR}
  {osl:Array (Option Value)} {N ps:List Str} {sp:Sp} (lk:K.lookup f=some ⟨oc,od,.func (Ff name qual params body scope dV kV doc pm an cdv ct),osl⟩) (hcd:Gw K cdv qual=true) (S:FnScope N ps scope)
  (len:∀ vs H Q E,sp vs H Q E->vs.length=ps.length)
  (hbody:∀ (A:Around) (outer:List Env) (s:Shared) (H:Hp) (vs:List V) (Q:VK) (E:XK),Room k (A.deeper (envOfC qual scope s.heap.objs.size f cdv))->sp vs H Q E ->
   ∃ t,PSs (ye CX P w K mg base N qual scope f cdv A outer s H E) body t/\t { nx:=fun _ H'=>Q .non H',rt:=Q } (start N vs) H) :
  FnOk P w K mg base CX (k+1) f (Ff name qual params body scope dV kV doc pm an cdv ct) ps sp:=by
 refine⟨len,fun A outer s H args us vs Q E hr e0 hb r hsp=>?_⟩;have hl:=len _ _ _ _ hsp;have KX:K.In s.heap:=e0.mod.kin.keeps fun b o e=>(e0.bs b o e).1;have lim:s.heap.NoLimit:=e0.mod.nolimit.keeps fun b o e=>(e0.bs b o e).1;have hkind:∀ y∈ps.zip us,scope.names.lookup y.1=some .local \/ (scope.names.lookup y.1=some .cell/\((cellsFrom (s.heap.objs.size+1) scope.names []).lookup y.1).isSome=true):=fun⟨n,v⟩ hy=>by
  rcases S.par n (Ir hy).1 with q | q
  ·exact .inl q
  ·exact .inr ⟨q,Gi _ _ _ (.inl q)⟩
 refine codeAny_call_function hr.depth (KX _ _ lk) rfl S.co S.gen rfl (PySem.W.codeRec_of KX hcd) (hb _ _ _ _ ?_);refine wpAny_newFunctionEnv_cells S.kind hkind fun env he s1 x=>?_;subst he;refine⟨lim.keeps x.toInCall.keep,codeAny_func ?_⟩;obtain⟨t,ht,hq⟩:=hbody A outer s H vs Q E (hr.deeper _) hsp;have I:Inv (ye CX P w K mg base N qual scope f cdv A outer s H E) [] (start N vs) H s1:=rh S hr.hd e0 hl r x;refine FE (ht [] s1 (start N vs) H _ I hq) (fun fl s' hs=>?_) fun e s' hs=>hs;have fin:∀ {σ':St} {H':Hp} {v:V} {u:Value},Inv (ye CX P w K mg base N qual scope f cdv A outer s H E) [] σ' H' s'->RelV v u->Q v H'->CE outer P w H s Q u s' :=
  fun {σ' H' v u} J rv q=>⟨v,H',J.os,J.bare,J.base,J.hok,rv,q⟩
 cases fl with
 | ret u =>
  obtain⟨v,σ',H',J,rv,q⟩:=hs;exact fin J rv q
 | next =>
  obtain⟨σ',H',J,q⟩:=hs;exact fin (v:=V.non) (u:=Value.none) J rfl q
 | brk =>
  obtain⟨_,_,_,q⟩:=hs;exact Gh q
 | cont =>
  obtain⟨_,_,_,q⟩:=hs;exact Gh q
section
variable {X:Cx} {x:Str} {p pos:Pos} {e:Expr} {es:List Expr} {t:TA} {id T:String} {r:List V->Hp->VK->Prop}
def tCB (r:List V->Hp->VK->Prop) (t:TA):TE:=fun σ H Q=>t σ H fun vs H1=>r vs H1 Q
theorem zB (hc:yY X (.builtin id) r) (hg:Gl X x) (hm:X.mg x=none) (hv:bootBuiltins x=some (.builtin id)) (ha:PA X (e :: es) t) (hn:x ≠ "__name__":=by decide) (hdb:(x == ("__debug__":Str))=false:=by decide)
  (he:EN (e :: es) X.env=(false,eval e X.env) :: EN es X.env:=by rfl) (hpl:(backTo pos (EN es X.env)).any (·.1)=false:=by rfl):PE X (.Call (.Name x p) (e :: es) [] pos) (tCB r t):=by
 intro Jn s σ H Q I h;refine wpAny_Call_Name_kw (dP I hg hm hv ?_ hn hdb);exact PyProof.Rows.callWith_builtin1 (thn (ha pos Jn s σ H _ I h) fun us s1 ⟨vs,H1,I1,r1,q1⟩=>hc Jn s1 σ H1 vs us Q I1 r1 q1) he hpl
theorem cm (hc:yY X (.type T) r) (hg:Gl X x) (hm:X.mg x=none) (hv:bootBuiltins x=some (.type T)) (ha:PA X (e :: es) t) (hn:x ≠ "__name__":=by decide) (hdb:(x == ("__debug__":Str))=false:=by decide)
  (he:EN (e :: es) X.env=(false,eval e X.env) :: EN es X.env:=by rfl) (hpl:(backTo pos (EN es X.env)).any (·.1)=false:=by rfl):PE X (.Call (.Name x p) (e :: es) [] pos) (tCB r t):=by
 intro Jn s σ H Q I h;refine wpAny_Call_Name_kw (dP I hg hm hv ?_ hn hdb);exact Gv (thn (ha pos Jn s σ H _ I h) fun us s1 ⟨vs,H1,I1,r1,q1⟩=>hc Jn s1 σ H1 vs us Q I1 r1 q1) he hpl
theorem lZ (hc:yY X (.type T) r) (hg:Gl X x) (hm:X.mg x=none) (hv:bootBuiltins x=some (.type T)) (hn:x ≠ "__name__":=by decide) (hdb:(x == ("__debug__":Str))=false:=by decide) :
  PE X (.Call (.Name x p) [] [] pos) (tCB r jT):=by
 intro Jn s σ H Q I h;refine wpAny_Call_Name_kw (dP I hg hm hv ?_ hn hdb);exact PyProof.Rows.callWith_type0 (hc Jn s σ H [] [] Q I .nil h)
end
end L2
namespace HT
open PySem PyProof.Rows
theorem rcLt_int (A:Around) (s:Shared) (a:Int) (t:Tok) (c:Int) (u:Tok) (prog:Program) (w:World) (E:Value->Shared->Prop) (Q:Value->Shared->Prop) (h:Q (.bool (decide (a<c))) s) :
  Ef (model prog w) A (richCompare .Lt (.int a t) (.int c u)) Q E s :=
 (PyProof.Rows.lt_int h:Ef (model prog w) A (EU .Lt (.int a t) (.int c u)) Q E s)
section
open PySem.SeqAt
open PySem.AutoSeq1 (wpAny_loadPart')
open PySem.MeetsSeq PySem.MeetsSeq2 PySem.MeetsSeq3
end
section
variable {prog:Program} {w:World} {A:Around} {E:Value->Shared->Prop} {s:Shared}
theorem cat_tup {t b:DR} {vs ws:List Value} {Q:Value->Shared->Prop} (ht:IsTup s.heap t vs.toArray) (hb:IsTup s.heap b ws.toArray) (hv:vs≠[])
  (h1:ws=[]->Q (.ref t) s) (h2:ws≠[]->Q (.ref s.heap.objs.size) { s with heap:=s.heap.push { cls:=.type "tuple",data:=.seq (vs++ws).toArray } })
  (hsz:vs.length+ws.length<=Ex):Ef (model prog w) A (binaryOp .Add (.ref t) (.ref b)) Q E s:=by
 obtain⟨⟨cls,dd,data,sl⟩,ho,hc,n,hd⟩:=id ht;obtain⟨⟨cls2,dd2,data2,sl2⟩,ho2,hc2,n2,hd2⟩:=id hb;simp only at hc hd hc2 hd2;subst hc hd hc2 hd2;have e:vs.toArray++ws.toArray=(vs++ws).toArray:=by simp
 by_cases hw:ws=[]
 ·exact concat_meets ⟨_,ho,rfl⟩ ⟨_,ho2,rfl⟩ noFill_tuple_add seq_tuple_add Ij Ic (HS _ _)
   (tuple_addW1 t b vs.toArray ws.toArray n n2 dd dd2 sl sl2 (by simpa using hv) (by simp [hw])) ⟨ho,ho2,h1 hw⟩
 ·refine concat_meets ⟨_,ho,rfl⟩ ⟨_,ho2,rfl⟩ noFill_tuple_add seq_tuple_add Ij Ic (HS _ _)
   (tuple_addW2 t b vs.toArray ws.toArray n n2 dd dd2 sl sl2 (by simpa using hv) (by simpa using hw) (by rw [D9,D9];exact hsz)) ⟨ho,ho2,?_⟩
  rw [e];exact h2 hw
def sIx (n d:Nat):Option Int->Nat
 | none=>d
 | some v=>if v<0 then (v+(n:Int)).toNat else min v.toNat n
theorem sIx_none (n d:Nat):sIx n d none=d:=rfl
theorem sIx_nat (n d k:Nat):sIx n d (some (k:Int))=min k n:=by
 show (if (k:Int)<0 then ((k:Int)+(n:Int)).toNat else min (k:Int).toNat n)=min k n;rw [Jo (by omega),EX]
end
end HT
namespace L2
open PySem PySem.Spec PyProof.Rows
abbrev TO:=St->Hp->(Option Int->Hp->Prop)->Prop
def PO (X:Cx) (e:Option Expr) (t:TO):Prop :=
 ∀ (Jn:List (DR×Obj)) (s:Shared) (σ:St) (H:Hp) (Q:Option Int->Hp->Prop),Inv X Jn σ H s->t σ H Q ->
  Ef (model X.prog X.w) X.A (evalPart e X.env) (fun u s'=>∃ o H',Inv X Jn σ H' s'/\IsPart u o/\Q o H') X.xe s
def nt:TO:=fun _ H Q=>Q none H
def AX (t:TE):TO:=fun σ H Q=>t σ H fun x H1=>∃ i,x=.int i/\Q (some i) H1
theorem intsAre_of {ns:List Int}:∀ {us:List Value},Vals (ns.map V.int) us->IntsAre us ns:=by
 induction ns with
 | nil=>intro us r;rw [G1] at r;cases r;exact .nil
 | cons n ns ih =>
  intro us r;rw [Ek] at r;cases r with
  | cons r1 r2 =>
   obtain⟨t,e⟩:=r1;subst e;exact .cons n t (ih r2)
section
variable {X:Cx} {e:Expr} {te:TE} {lo hi:Option Expr} {tl th:TO} {pos p2:Pos}
theorem nu:PO X none nt:=by
 intro Jn s σ H Q I h;rw [evalPart_none];exact DY ⟨none,H,I,.none,h⟩
theorem nv (h:PE X e te):PO X (some e) (AX te):=by
 intro Jn s σ H Q I hw;rw [evalPart_some];refine thn (h Jn s σ H _ I hw) fun u s1 ⟨x,H1,I1,r1,q1⟩=>?_;obtain⟨i,rfl,q⟩:=q1;obtain⟨t,rfl⟩:=r1;exact⟨some i,H1,I1,.int i t,q⟩
def SlR (X:Cx) (r:V->Option Int->Option Int->Hp->VK->Prop):Prop :=
 ∀ (Jn:List (DR×Obj)) (s:Shared) (σ:St) (H:Hp) (x:V) (v vl vu:Value) (lo hi:Option Int) (sl:DR) (Q:VK),Inv X Jn σ H s->RelV x v->s.heap.IsSliceOf sl vl vu .none->IsPart vl lo->IsPart vu hi->r x lo hi H Q ->
  ∃ T id,typeLookup (.type T) "__getitem__"=pure (some (.builtin id))/\s.TypeIs v T/\Ef (model X.prog X.w) X.A (getItem v (.ref sl)) (EP X Jn σ Q) X.xe s
def tSl (r:V->Option Int->Option Int->Hp->VK->Prop) (te:TE) (tl th:TO):TE:=fun σ H Q=>te σ H fun x H1=>tl σ H1 fun l H2=>th σ H2 fun u H3=>r x l u H3 Q
theorem i5 {r:V->Option Int->Option Int->Hp->VK->Prop} (hr:SlR X r) (he:PE X e te) (hl:PO X lo tl) (hu:PO X hi th):PE X (.Subscript e (.Slice lo hi none p2) pos) (tSl r te tl th):=by
 intro Jn s σ H Q I h;refine Subscript_ (thn (he Jn s σ H _ I h) fun v s1 ⟨x,H1,I1,r1,q1⟩=>?_);refine wpAny_Slice (thn (hl Jn s1 σ H1 _ I1 q1) fun vl s2 ⟨l,H2,I2,pl,q2⟩=>thn (hu Jn s2 σ H2 _ I2 q2) fun vu s3 ⟨u,H3,I3,pu,q3⟩=>?_);rw [evalPart_none];refine DY ?_;have I4:Inv X Jn σ H3 { s3 with heap:=s3.heap.push { cls:=.type "slice",data:=.fields #[vl,vu,.none] } }:=I3.kept (t':=s3.toks) fun b ob q=>D3 _ q;obtain⟨T,id,hT,ht,hg⟩:=hr Jn { s3 with heap:=s3.heap.push { cls:=.type "slice",data:=.fields #[vl,vu,.none] } } σ H3 x v vl vu l u s3.heap.objs.size Q I4 r1 (Heap.IsSliceOf.new ..) pl pu q3;show Ef (model X.prog X.w) X.A (subscriptTail e (.Slice lo hi none p2) v (.ref s3.heap.objs.size)) (EP X Jn σ Q) X.xe { s3 with heap:=s3.heap.push { cls:=.type "slice",data:=.fields #[vl,vu,.none] } };exact tail_any (ops:=[.ref s3.heap.objs.size,v]) ht hT hg (by with_unfolding_all rfl)
noncomputable def l0 (xs:List V) (lo hi:Option Int):List V:=(xs.drop (HT.sIx xs.length 0 lo)).take (HT.sIx xs.length xs.length hi - HT.sIx xs.length 0 lo)
theorem i6 (xs:List V) (lo hi:Option Int):(l0 xs lo hi).length<=xs.length:=by
 unfold l0;rw [Et,Hj];omega
def tU (K:DP):R2:=fun x y H Q=>∃ a b xs ys,x=.ref a/\y=.ref b/\SqT K H a xs/\SqT K H b ys/\xs≠[]/\xs.length+ys.length<=Ex /\
 (ys=[]->Q (.ref a) H)/\(ys≠[]->∀ p,H p=none->Q (.ref p) (upd H p (.tup (xs++ys))))
theorem Vals.nil_iff {xs:List V} {us:List Value} (r:Vals xs us):us=[]↔xs=[]:=by
 cases r with
 | nil=>simp
 | cons _ _=>simp
theorem xm:OpR X (binaryOp .Add) (tU X.K):=by
 intro Jn s σ H x y v u Q I rx ry h;obtain⟨a,b,xs,ys,rfl,rfl,ha,hb,hx,hz,q1,q2⟩:=h;cases rx;cases ry;obtain⟨its,r1,p1,_⟩:=I.tuple ha;obtain⟨its2,r2,p2,_⟩:=I.tuple hb;refine HT.cat_tup p1 p2 (fun z=>hx (r1.nil_iff.mp z)) (fun z=>⟨.ref a,H,I,rfl,q1 (r2.nil_iff.mp z)⟩) (fun z=>?_) (by rw [<-r1.length,<- r2.length];exact hz);refine⟨.ref s.heap.objs.size,_,I.laid (t':=s.toks) (o:=.tup (xs++ys)) (fun b ob q=>D3 _ q) (DU _) ?_,rfl,q2 (fun w=>z (r2.nil_iff.mpr w)) _ (I.hok.fresh (DU _))⟩;exact⟨by rw [D6];exact hz,_,r1.append r2,IsTup.new _ _⟩
end
noncomputable def ixN (n:Nat) (i:Int):Option Nat:=if 0<=i then (if i<n then some i.toNat else none) else if -(n:Int)<=i then some (i+n).toNat else none
noncomputable def atI {α:Type} (xs:List α) (i:Int):Option α:=(ixN xs.length i).bind fun j=>xs[j]?
theorem nA {n:Nat} {i:Int} {j:Nat} (h:ixN n i=some j):seqIndex? i n=some j/\j<n/\-(n:Int)<=i/\i<n:=by
 unfold ixN at h;by_cases h0:0<=i
 ·rw [Jp h0] at h;by_cases h1:i<n
  ·rw [Jp h1] at h;have e:i.toNat=j:=Option.some.inj h;exact⟨by rw [seqIndex_of h0 h1,e],by omega,by omega,h1⟩
  ·rw [Jo h1] at h;cases h
 ·rw [Jo h0] at h;by_cases h1:-(n:Int)<=i
  ·rw [Jp h1] at h;have e:(i+n).toNat=j:=Option.some.inj h;exact⟨by rw [seqIndex_neg (by omega) h1,e],by omega,h1,by omega⟩
  ·rw [Jo h1] at h;cases h
theorem nB {α:Type} {xs:List α} {i:Int} {v:α} (h:atI xs i=some v):∃ j,seqIndex? i xs.length=some j/\xs[j]?=some v/\j<xs.length/\-(xs.length:Int)<=i/\i<xs.length:=by
 unfold atI at h;cases e:ixN xs.length i with
 | none=>rw [e] at h;cases h
 | some j =>
  rw [e] at h;obtain⟨h1,h2,h3,h4⟩:=nA e;exact⟨j,h1,h,h2,h3,h4⟩
theorem aK {α:Type} {xs:List α} {j:Nat} {v:α} (h:xs[j]?=some v):atI xs (j:Int)=some v:=by
 have hj:j<xs.length:=(DN.mp h).1;have e:ixN xs.length (j:Int)=some j:=by
  unfold ixN;rw [Jp (by omega),Jp (by omega)];simp
 unfold atI;rw [e];exact h
def nC (b:Expr):Prop:=∀ o i,subscripted b false o i=operate [o,i] (getItem o i)
def IxR (X:Cx) (r:R2):Prop :=
 ∀ (value slice:Expr) (Jn:List (DR×Obj)) (s:Shared) (σ:St) (H:Hp) (x y:V) (v u:Value) (Q:VK),Inv X Jn σ H s->RelV x v->RelV y u->r x y H Q ->
  subscripted slice false v u=operate [v,u] (getItem v u)->Ef (model X.prog X.w) X.A (subscriptTail value slice v u) (EP X Jn σ Q) X.xe s
def MtR (X:Cx) (id:String) (r:V->List V->Hp->VK->Prop):Prop :=
 ∀ (Jn:List (DR×Obj)) (s:Shared) (σ:St) (H:Hp) (x:V) (xs:List V) (v:Value) (us:List Value) (Q:VK),Inv X Jn σ H s->RelV x v->Vals xs us->r x xs H Q ->
  Ef (model X.prog X.w) X.A (call (.builtin id) (v :: us)) (EP X Jn σ Q) X.xe s
section
variable {X:Cx} {a b:Expr} {ta tb:TE} {pos:Pos}
theorem zq {r:R2} (hr:IxR X r) (ha:PE X a ta) (hb:PE X b tb) (hs:nC b):PE X (.Subscript a b pos) (tOp r ta tb):=by
 intro Jn s σ H Q I h;exact Subscript_ (Bt ha hb I h fun v u s2 x y H2 I2 rx ry q=>hr a b Jn s2 σ H2 x y v u Q I2 rx ry q (hs _ _))
def rj (K:DP):R2:=fun x y H Q=>∃ p xs i v,x=.ref p/\y=.int i/\SqL K H p xs/\atI xs i=some v/\Q v H
def df (K:DP):R2:=fun x y H Q=>∃ p xs i v,x=.ref p/\y=.int i/\SqT K H p xs/\atI xs i=some v/\Q v H
theorem xn:IxR X (rj X.K):=by
 intro value slice Jn s σ H x y v u Q I rx ry h hs;obtain⟨p,xs,i,z,rfl,rfl,hq,he,q⟩:=h;cases rx;obtain⟨t,rfl⟩:=ry;obtain⟨its,r,pl,hz⟩:=I.list hq;obtain⟨j,h1,h2,h3,h4,h5⟩:=nB he;obtain⟨w,ew,rw'⟩:=r.get h2;have hl:=r.length;have hn:=dY;have fin:EP X Jn σ Q w s:=⟨z,H,I,rw',q⟩;by_cases h0:0<=i
 ·have hj:i.toNat=j:=by
   rw [seqIndex_of h0 h5] at h1;exact Option.some.inj h1
  exact item_listR pl.isList h0 (by omega) (by rw [hj];simpa using ew) fin hs
 ·have hj:(i+(its.toArray.size:Int)).toNat=j:=by
   rw [seqIndex_neg (by omega) h4] at h1;rw [D9,<- hl];exact Option.some.inj h1
  exact subscriptTail_builtinR (x:=w) pl.isList.typeIs slot_list_getitem.lookup
   (wpAny_getItem_list_neg (Q:=fun r s'=>r=w/\EP X Jn σ Q r s') pl.isList (by omega) (by rw [D9] <;> omega) (by omega) (by rw [hj];simpa using ew) ⟨rfl,fin⟩) hs
theorem Bz:IxR X (df X.K):=by
 intro value slice Jn s σ H x y v u Q I rx ry h hs;obtain⟨p,xs,i,z,rfl,rfl,hq,he,q⟩:=h;cases rx;obtain⟨t,rfl⟩:=ry;obtain⟨its,r,pl,hz⟩:=I.tuple hq;obtain⟨j,h1,h2,h3,h4,h5⟩:=nB he;obtain⟨w,ew,rw'⟩:=r.get h2;have hl:=r.length;have hn:=dY;have fin:EP X Jn σ Q w s:=⟨z,H,I,rw',q⟩;exact subscriptTail_builtinR (x:=w) pl.typeIs slot_tuple_getitem.lookup
  (getItem_tuple (j:=j) (Q:=fun r s'=>r=w/\EP X Jn σ Q r s') pl (by omega) (by omega) (by rw [D9,<- hl];exact h1) (by simpa using ew) ⟨rfl,fin⟩) hs
theorem l3 (its:List Value) (n j:Nat) (u:Value):Gx (·.setIfInBounds j u) { cls:=.type "list",data:=.seq its.toArray n }={ cls:=.type "list",data:=.seq (its.set j u).toArray n }:=by
 simp [Gx]
theorem Inv.lst {Jn:List (DR×Obj)} {σ:St} {H:Hp} {s:Shared} {p:DR} {xs:List V} (I:Inv X Jn σ H s) (h:H p=some (.lst xs)) :
  ∃ (its:List Value) (n:Nat),Vals xs its/\s.heap.get? p=some { cls:=.type "list",data:=.seq its.toArray n }/\xs.length<=Ex:=by
 obtain⟨z,its,n,r,e⟩:=I.hok p _ h;exact⟨its,n,r,e,z⟩
theorem Inv.lstUpd {Jn:List (DR×Obj)} {σ:St} {H:Hp} {s:Shared} {p:DR} {xs ys:List V} {its its':List Value} {n n':Nat} {f:Obj->Obj} (I:Inv X Jn σ H s) (h:H p=some (.lst xs))
  (ho:s.heap.get? p=some { cls:=.type "list",data:=.seq its.toArray n }) (hf:f { cls:=.type "list",data:=.seq its.toArray n }={ cls:=.type "list",data:=.seq its'.toArray n' }) (r:Vals ys its') (hz:ys.length<=Ex) (t:Nat) :
  Inv X Jn σ (upd H p (.lst ys)) { s with heap:=s.heap.update p f,toks:=t }:=by
 have e:(s.heap.update p f).get? p=some { cls:=.type "list",data:=.seq its'.toArray n' }:=by
  rw [Hd f ho (by rw [hf] <;> rfl),hf]
 refine I.write (x:=p) (e:=p) (by rw [h];trivial) (.inl rfl) (fun b u hb q=>(FH _ _ (EW hb)).trans q) ⟨_,e⟩ ?_;exact⟨hz,its',n',r,e⟩
def i7:V->V->V->Hp->(Hp->Prop)->Prop:=fun o i v H Q=>∃ p xs k j,o=.ref p/\i=.int k/\H p=some (.lst xs)/\ixN xs.length k=some j/\Q (upd H p (.lst (xs.set j v)))
theorem set_list:xh X i7:=by
 intro Jn s σ H o i v ov iv u Q I ro ri rv h;obtain⟨p,xs,k,j,rfl,rfl,hp,hj,q⟩:=h;cases ro;obtain⟨t,rfl⟩:=ri;obtain⟨its,n,r,ho,hz⟩:=I.lst hp;obtain⟨h1,h2,h3,h4⟩:=nA hj;have hl:=r.length;have hn:=dY;have I':Inv X Jn σ (upd H p (.lst (xs.set j v))) { s with heap:=s.heap.update p (Gx (·.setIfInBounds j u)) } :=
  I.lstUpd hp ho (l3 its n j u) (r.set rv j) (by rw [Gr];exact hz) s.toks
 by_cases h0:0<=k
 ·have hk:k.toNat=j:=by
   rw [seqIndex_of h0 h4] at h1;exact Option.some.inj h1
  exact PySem.W.ki_setAt ho h0 (by omega) (by rw [D9,<- hl];exact h4) (by rw [hk];exact⟨_,I',q⟩)
 ·have hk:(k+(its.toArray.size:Int)).toNat=j:=by
   rw [seqIndex_neg (by omega) h3] at h1;rw [D9,<- hl];exact Option.some.inj h1
  exact PySem.W.ki_setBack ho (by omega) (by rw [D9,<- hl];exact h3) (by omega) (by rw [hk];exact⟨_,I',q⟩)
theorem gJ (lo hi:Option Int) (n:Nat):(sliceBounds lo hi none n).1=((HT.sIx n 0 lo:Nat):Int)/\(sliceBounds lo hi none n).2.1=((HT.sIx n n hi:Nat):Int)/\(sliceBounds lo hi none n).2.2=1:=by
 refine⟨?_,?_,rfl⟩
 ·cases lo with
  | none=>simp [sliceBounds,HT.sIx]
  | some i =>
   simp only [sliceBounds,HT.sIx,Option.getD_none,show (1:Int) > 0 by decide,if_true];by_cases h:i<0
   ·simp only [h,if_true] <;> omega
   ·simp only [h,if_false] <;> omega
 ·cases hi with
  | none=>simp [sliceBounds,HT.sIx]
  | some i =>
   simp only [sliceBounds,HT.sIx,Option.getD_none,show (1:Int) > 0 by decide,if_true];by_cases h:i<0
   ·simp only [h,if_true] <;> omega
   ·simp only [h,if_false] <;> omega
theorem fg (its:List Value) (lo hi:Option Int):slicePick its.toArray lo hi none=((its.drop (HT.sIx its.length 0 lo)).take (HT.sIx its.length its.length hi - HT.sIx its.length 0 lo)).toArray:=by
 obtain⟨h1,h2,h3⟩:=gJ lo hi its.toArray.size;unfold slicePick;rw [h1,h2,h3];simp only [sliceRange_one,pick_run,D9] <;> rfl
def xo (K:DP):V->Option Int->Option Int->Hp->VK->Prop:=fun x lo hi H Q=>∃ a xs,x=.ref a/\SqL K H a xs/\∀ p,H p=none->Q (.ref p) (upd H p (.lst (l0 xs lo hi)))
theorem xp:SlR X (xo X.K):=by
 intro Jn s σ H x v vl vu lo hi sl Q I rx hs pl pu h;obtain⟨a,xs,rfl,hx,q⟩:=h;cases rx;obtain⟨its,r,ht,hz⟩:=I.list hx;have hlen:=r.length;refine⟨"list",_,slot_list_getitem.lookup,ht.isList.typeIs,?_⟩;refine wpAny_getItem_list_slice ht.isList hs pl pu .none (by simp) ?_ (by rw [D9] <;> omega);rw [fg,<- hlen];refine⟨.ref s.heap.objs.size,_,I.laid (t':=s.toks) (o:=.lst (l0 xs lo hi)) (fun b ob q=>D3 _ q) (DU _) ?_,rfl,q _ (I.hok.fresh (DU _))⟩;exact⟨Em (i6 xs lo hi) hz,_,0,(r.drop (HT.sIx xs.length 0 lo)).take (HT.sIx xs.length xs.length hi - HT.sIx xs.length 0 lo),Ey _ rfl⟩
noncomputable def cQ:V->Bool
 | .non=>true
 | .bl _=>true
 | .int _=>true
 | .str _=>true
 | _=>false
noncomputable def eqV:V->V->Bool
 | .non,.non=>true
 | .bl a,.bl b=>a == b
 | .bl a,.int b=>(if a then 1 else 0) == b
 | .int a,.bl b=>a == (if b then 1 else 0)
 | .int a,.int b=>a == b
 | .str a,.str b=>a == b
 | _,_=>false
theorem BA {A:Around} {s:Shared} {y x:V} {u v:Value} (ry:RelV y u) (rx:RelV x v) (fy:cQ y=true) (fx:cQ x=true):SeqAt.EqAt A s u v (eqV y x):=by
 cases y with
 | non =>
  cases ry;cases x with
  | non=>cases rx;exact SeqAt.EqAt.same _
  | bl b=>cases rx;exact SeqAt.EqAt.none_bool b
  | int b=>obtain⟨t,rfl⟩:=rx;exact SeqAt.EqAt.none_int b t
  | str b=>obtain⟨t,rfl⟩:=rx;exact SeqAt.EqAt.none_str b t
  | _=>exact absurd (show false=true from fx) DL
 | bl a =>
  cases ry;cases x with
  | non=>cases rx;exact SeqAt.EqAt.bool_none a
  | bl b=>cases rx;exact SeqAt.EqAt.bool_bool a b
  | int b=>obtain⟨t,rfl⟩:=rx;exact SeqAt.EqAt.bool_int a b t
  | str b=>obtain⟨t,rfl⟩:=rx;exact SeqAt.EqAt.bool_str a b t
  | _=>exact absurd (show false=true from fx) DL
 | int a =>
  obtain⟨t',rfl⟩:=ry;cases x with
  | non=>cases rx;exact SeqAt.EqAt.int_none a t'
  | bl b=>cases rx;exact SeqAt.EqAt.int_bool a t' b
  | int b=>obtain⟨t,rfl⟩:=rx;exact SeqAt.EqAt.int_int a t' b t
  | str b=>obtain⟨t,rfl⟩:=rx;exact SeqAt.EqAt.int_str a t' b t
  | _=>exact absurd (show false=true from fx) DL
 | str a =>
  obtain⟨t',rfl⟩:=ry;cases x with
  | non=>cases rx;exact SeqAt.EqAt.str_none a t'
  | bl b=>cases rx;exact SeqAt.EqAt.str_bool a t' b
  | int b=>obtain⟨t,rfl⟩:=rx;exact SeqAt.EqAt.str_int a t' b t
  | str b=>obtain⟨t,rfl⟩:=rx;exact SeqAt.EqAt.str_str a t' b t
  | _=>exact absurd (show false=true from fx) DL
 | _=>exact absurd (show false=true from fy) DL
noncomputable def eqU (x:V) (u:Value):Bool:=match u with
 | .none=>eqV .non x
 | .bool b=>eqV (.bl b) x
 | .int i _=>eqV (.int i) x
 | .str z _=>eqV (.str z) x
 | _=>false
theorem tV {x y:V} {u:Value} (r:RelV y u) (f:cQ y=true):eqU x u=eqV y x:=by
 cases y with
 | non=>cases r;rfl
 | bl b=>cases r;rfl
 | int i=>obtain⟨t,rfl⟩:=r;rfl
 | str z=>obtain⟨t,rfl⟩:=r;rfl
 | _=>exact absurd (show false=true from f) DL
theorem gK {x:V}:∀ {xs:List V} {us:List Value},Vals xs us->xs.all cQ=true->us.any (eqU x)=xs.any fun y=>eqV y x
 | _,_,.nil,_=>rfl
 | y :: xs,u :: us,.cons r t,f=>by
  rw [IY,DW] at f;rw [HU,HU,tV r f.1,gK t f.2]
theorem dZ {A:Around} {s:Shared} {x:V} {v:Value} (rx:RelV x v) (fx:cQ x=true):∀ {xs:List V} {us:List Value},Vals xs us->xs.all cQ=true->∀ u∈us,SeqAt.EqAt A s u v (eqU x u)
 | _,_,.nil,_=>fun u hu=>by cases hu
 | y :: xs,u :: us,.cons r t,f=>fun u' hu=>by
  rw [IY,DW] at f;rcases D0.mp hu with rfl | hu
  ·rw [tV r f.1];exact BA r rx f.1 fx
  ·exact dZ rx fx t f.2 u' hu
noncomputable def inV (x:V) (xs:List V):Bool:=xs.any fun y=>eqV y x
def rIn (K:DP) (neg:Bool):R2:=fun x y H Q=>∃ p xs,y=.ref p/\(SqL K H p xs \/ SqT K H p xs)/\cQ x=true/\xs.all cQ=true/\Q (.bl (if neg then !inV x xs else inV x xs)) H
theorem gL:OpR X (EU .NotIn) (rIn X.K true):=by
 intro Jn s σ H x y v u Q I rx ry h;obtain⟨p,xs,rfl,hq,fx,fs,q⟩:=h;cases ry;rcases hq with hq | hq
 ·obtain⟨its,r,pl,hz⟩:=I.list hq;refine SeqAt.notIn_listAt (eqU x) pl.isList (fun w hw=>dZ rx fx r fs w (by simpa using hw)) ⟨.bl _,H,I,rfl,?_⟩;rw [show its.toArray.any (eqU x)=its.any (eqU x) by simp,gK r fs];exact q
 ·obtain⟨its,r,pl,hz⟩:=I.tuple hq;refine SeqAt.notIn_tupleAt (eqU x) pl (fun w hw=>dZ rx fx r fs w (by simpa using hw)) ⟨.bl _,H,I,rfl,?_⟩;rw [show its.toArray.any (eqU x)=its.any (eqU x) by simp,gK r fs];exact q
theorem gM:yY X (.builtin "len") (fun xs H Q=>∃ p ys,xs=[.ref p]/\(SqL X.K H p ys \/ SqT X.K H p ys)/\Q (.int ys.length) H):=by
 intro Jn s σ H xs us Q I r h;obtain⟨p,ys,rfl,hq,q⟩:=h;obtain⟨u,rfl,rx⟩:=vals1 r;cases rx;have hn:=dY;rcases hq with hq | hq
 ·obtain⟨its,r',pl,hz⟩:=I.list hq;have hlen:=r'.length;exact Calls.call_len_list pl.isList (by simp only [D9] <;> omega) ⟨.int ys.length,H,I.tok _,⟨s.toks+1,by rw [D9,hlen]⟩,q⟩
 ·obtain⟨its,r',pl,hz⟩:=I.tuple hq;have hlen:=r'.length;exact len_tuple pl (by simp only [D9] <;> omega) ⟨.int ys.length,H,I.tok _,⟨s.toks+1,by rw [D9,hlen]⟩,q⟩
theorem fh:yY X (.type "tuple") (fun xs H Q=>∃ p ys,xs=[.ref p]/\((SqL X.K H p ys/\∀ l,H l=none->Q (.ref l) (upd H l (.tup ys))) \/ (SqT X.K H p ys/\Q (.ref p) H))):=by
 intro Jn s σ H xs us Q I r h;obtain⟨p,ys,rfl,h⟩:=h;obtain⟨u,rfl,rx⟩:=vals1 r;cases rx;rcases h with⟨hq,q⟩ | ⟨hq,q⟩
 ·obtain⟨its,r',pl,hz⟩:=I.list hq;have hlen:=r'.length;refine call_tuple_list pl.isList (fun h' kp=>?_) (by simp only [D9] <;> omega);have I1:Inv X Jn σ H { s with heap:=h' }:=I.kept (t':=s.toks) kp;have I2:Inv X Jn σ (upd H h'.objs.size (.tup ys)) { s with heap:=h'.push { cls:=.type "tuple",data:=.seq its.toArray } } :=
   I1.laid (t':=s.toks) (fun b o e=>D3 _ e) (DU _) (show ObjOk X.prog X.w _ _ _ (.tup ys) from⟨hz,its,r',IsTup.new _ _⟩)
  exact⟨.ref h'.objs.size,_,I2,rfl,q _ (I1.hok.fresh (DU _))⟩
 ·obtain⟨its,r',pl,hz⟩:=I.tuple hq;exact call_tuple_same pl ⟨.ref p,H,I,rfl,q⟩
def tyV (K:DP) (T:String) (x:V) (H:Hp):Prop:=match x with
 | .str _=>T="str"
 | .int _=>T="int"
 | .ref p=>(T="list"/\∃ xs,SqL K H p xs) \/ (T="tuple"/\∃ o,K.lookup p=some o/\o.cls=.type "tuple"/\o.dict=none) \/
   (T="dict"/\((∃ kvs,H p=some (.dK kvs)) \/ ∃ kvs,H p=some (.dT kvs))) \/ (T="set"/\∃ S n,H p=some (.set S n))
 | _=>False
theorem BC {Jn:List (DR×Obj)} {σ:St} {H:Hp} {s:Shared} {T:String} {x:V} {v:Value} (I:Inv X Jn σ H s) (r:RelV x v) (ty:tyV X.K T x H) :
  s.TypeIs v T/\∀ a,v=.ref a->∃ ob,s.heap.get? a=some ob/\ob.dict=none:=by
 cases x with
 | str z =>
  obtain⟨t,rfl⟩:=r;cases (show T="str" from ty);exact⟨typeIs_str s z t,fun _ e=>nomatch e⟩
 | int i =>
  obtain⟨t,rfl⟩:=r;cases (show T="int" from ty);exact⟨typeIs_int s i t,fun _ e=>nomatch e⟩
 | ref p =>
  cases r;rcases ty with⟨rfl,xs,hq⟩ | ⟨rfl,o,hk,hc,hd⟩ | ⟨rfl,hk⟩ | ⟨rfl,S,n,hk⟩
  ·obtain⟨its,_,pl,_⟩:=I.list hq;refine⟨pl.isList.typeIs,fun a e=>?_⟩;cases e;obtain⟨o,n,e,c,hd,_⟩:=pl;exact⟨o,e,hd⟩
  ·refine⟨⟨o,I.kIn p o hk,hc⟩,fun a e=>?_⟩;cases e;exact⟨o,I.kIn _ o hk,hd⟩
  ·have z:∃ o,s.heap.get? p=some o/\o.ExactDict:=by
    rcases hk with⟨kvs,hk⟩ | ⟨kvs,hk⟩
    ·obtain⟨_,_,_,_,o,_,_,e,ex,_⟩:=I.hok p _ hk;exact⟨o,e,ex⟩
    ·obtain⟨_,_,_,_,o,_,_,e,ex,_⟩:=I.hok p _ hk;exact⟨o,e,ex⟩
   obtain⟨o,e,ex⟩:=z;refine⟨⟨o,e,ex.1⟩,fun a e2=>?_⟩;cases e2;exact⟨o,e,ex.2.1⟩
  ·obtain⟨o,_,_,_,e,ex,_⟩:=I.hok p _ hk;refine⟨⟨o,e,ex.1⟩,fun a e2=>?_⟩;cases e2;exact⟨o,e,ex.2.1⟩
 | _=>exact Gh ty
def tBM (K:DP) (T:String) (r:V->List V->Hp->VK->Prop) (to:TE) (t:TA):TE:=fun σ H Q=>to σ H fun x H1=>tyV K T x H1/\t σ H1 fun xs H2=>r x xs H2 Q
variable {o e:Expr} {es:List Expr} {to:TE} {t:TA} {name:Str} {apos cpos:Pos} {T id:String} {r:V->List V->Hp->VK->Prop}
theorem i8 (pa:PlainAttrs T) (slot:Slot T name id) (hty:typeOf (.builtin id)=pure (.type "method_descriptor")) (hm:MtR X id r) (ho:PE X o to) (ha:PA X (e :: es) t)
  (hbase:attributeBase o name X.env (eval o X.env)=eval o X.env:=by rfl)
  (hfew:((backTo cpos (EN (e :: es) X.env)).all (fun x=>!x.1) && (backToKw cpos (keywordEach [] X.env)).all (fun x=>x.1.isSome)
   && decide ((e :: es).length+([]:List Keyword).length+(if ([]:List Keyword).isEmpty then 0 else 1)<30))=true:=by rfl)
  (hline:(apos.endLine == cpos.line)=true:=by rfl) (hs:EN (e :: es) X.env=(false,eval e X.env) :: EN es X.env:=by rfl) (hplain:(backTo cpos (EN es X.env)).any (·.1)=false:=by rfl) :
  PE X (.Call (.Attribute o name apos) (e :: es) [] cpos) (tBM X.K T r to t):=by
 intro Jn s σ H Q I h;refine wpAny_Call_method_late hbase hfew hline rfl (thn (ho Jn s σ H _ I h) fun v s1 ⟨x,H1,I1,r1,ty,q1⟩=>?_);obtain⟨h1,h2⟩:=BC I1 r1 ty;refine⟨T,id,pa,slot,hty,h1,h2,?_⟩;have hA:=ha cpos Jn s1 σ H1 _ I1 q1;rw [hs] at hA ⊢;refine Ik (by show (false || (backTo cpos (EN es X.env)).any (·.1))=false;rw [hplain] <;> rfl) (ID ?_);exact thn hA fun us s2 ⟨vs,H2,I2,r2,q2⟩=>hm Jn s2 σ H2 x vs v us Q I2 r1 r2 q2
/- xs.append(e),list.index on a module's tuple .. are MtR facts of 06m -/
end
def MtM (X:Cx) (id:String) (r:V->List V->Hp->VK->Prop):Prop :=
 ∀ (Jn:List (DR×Obj)) (s:Shared) (σ:St) (H:Hp) (x:V) (xs:List V) (v:Value) (us:List Value) (Q:VK),Inv X Jn σ H s->RelV x v->Vals xs us->r x xs H Q ->
  Ef (model X.prog X.w) X.A (call (.builtin id) (v :: us)) (EP X Jn σ Q) X.xe s
theorem Vals.one:∀ {x:V} {us:List Value},Vals [x] us->∃ u,us=[u]/\RelV x u
 | _,_,.cons r .nil=>⟨_,rfl,r⟩
section
variable {X:Cx} {Jn:List (DR×Obj)} {σ:St} {H:Hp} {s:Shared} {l b:DR} {xs ys zs:List V}
theorem Inv.lset {its its':List Value} {n:Nat} {f:Array Value->Array Value} {t':Nat} (I:Inv X Jn σ H s) (hH:H l=some (.lst xs))
  (e:s.heap.get? l=some { cls:=.type "list",data:=.seq its.toArray n }) (hf:f its.toArray=its'.toArray) (hv:Vals ys its') (hz:ys.length<=Ex) :
  Inv X Jn σ (upd H l (.lst ys)) { s with heap:=s.heap.update l (Gx f),toks:=t' }:=by
 have q:=PySem.IsL.update e f;rw [hf] at q;refine I.write (x:=l) (e:=l) (by rw [hH];exact trivial) (.inl rfl) (fun b' u hb hu=>(FH s.heap (Gx f) (EW hb)).trans hu) ⟨_,q⟩ ?_;exact⟨hz,its',_,hv,q⟩
theorem Inv.lnew {its:List Value} {t':Nat} (I:Inv X Jn σ H s) (hv:Vals ys its) (hz:ys.length<=Ex) :
  Inv X Jn σ (upd H s.heap.objs.size (.lst ys)) { s with heap:=s.heap.push { cls:=.type "list",data:=.seq its.toArray },toks:=t' } :=
 I.laid (fun _ _ q=>D3 _ q) (DU _) ⟨hz,its,0,hv,Ey _ rfl⟩
theorem Inv.fresh (I:Inv X Jn σ H s):H s.heap.objs.size=none:=I.hok.fresh (DU _)
theorem Inv.lstM (I:Inv X Jn σ H s) (hH:H l=some (.lst xs)):xs.length<=Ex/\∃ (its:List Value) (n:Nat),Vals xs its/\xs.length=its.length/\s.heap.get? l=some { cls:=.type "list",data:=.seq its.toArray n }:=by
 obtain⟨z,its,n,r,e⟩:=I.hok l _ hH;exact⟨z,its,n,r,r.length,e⟩
end
section
variable {X:Cx}
def gN:V->List V->Hp->VK->Prop:=fun x vs H Q=>∃ l xs y,x=.ref l/\vs=[y]/\H l=some (.lst xs)/\xs.length<Ex/\Q .non (upd H l (.lst (xs++[y])))
theorem vn:MtM X "list.append" gN:=by
 intro Jn s σ H x vs v us Q I rx rv h;obtain⟨l,xs,y,rfl,rfl,hH,hz,q⟩:=h;cases rx;obtain⟨u,rfl,ru⟩:=rv.one;obtain⟨z,its,n,r,hl,e⟩:=I.lstM hH;refine call_meets F.slot_list_append ⟨_,e,rfl⟩ IT (IE _ _) (PySem.list_append l its.toArray n u (by rw [D9];omega)) ⟨e,?_⟩;refine⟨.non,_,I.lset (its':=its++[u]) hH e (by simp) (r.append (.cons ru .nil)) ?_,rfl,q⟩;rw [D6,EO];omega
end
end L2
namespace Att
open PySem PySem.W PySem.Calls PyProof.Rows
theorem dg {P:Params} {h:Heap}:∀ (ns:List Int) (vs:List Value),WellAll P h vs (ns.map WData.int)->IntsAre vs ns:=by
 intro ns
 induction ns with
 | nil =>
  intro vs w;rw [G1] at w;cases w;exact .nil
 | cons n ns ih =>
  intro vs w;rw [Ek] at w;cases w with
  | cons a b =>
   cases a;exact .cons _ _ (ih _ b)
theorem rn {l:OpenLaw} {n:Nat} (hn:l.most=some n) {P:Params} {h:Heap} {args:List WData} {vals:List Value}
  (hpre:l.row.toRowW.claim.pre args=true) (hwl:WellAll P h vals args) :
  ∃ a vs ns,vals=[Value.ref a]/\args=[WData.list (ns.map WData.int)]/\h.get? a=some { cls:=.type "list",data:=.seq vs.toArray }/\IntsAre vs ns/\ns.length<=n:=by
 have hsh:WShape.hasAll [] args [.list .int]=true:=(pre_splitW hpre).1;have hc:l.pre.holds [] { args:=args }=true:=(pre_splitW hpre).2;obtain⟨d,r,rfl,h1,h2⟩:=hasAllW_cons hsh;obtain rfl:=hasAllW_nil h2;obtain⟨xs,rfl,h3⟩:=hasW_list h1;obtain⟨ns,rfl⟩:=items_int h3;have hlen:ns.length<=n:=by
  unfold OpenLaw.pre at hc;have h4:(WTm.not (.lt (.lit (.int (n:Int))) (.len (.arg 0)))).holds [] { args:=[.list (ns.map .int)] }=true:=by
   have h4:=(holds_andW hc).1;rw [hn] at h4;exact h4
  have h5:=condW_of h4 (w_not (w_lt w_lit (w_len_list (w_arg rfl))));rw [DM] at h5;refine Nat.le_of_not_lt fun q=>?_;have q':(n:Int)<((ns.length:Nat):Int):=by omega
  first
   | (rw [Jq q'] at h5;exact absurd h5 (by decide))
   | (simp at h5;omega)
 cases hwl with
 | cons w1 w2 =>
  cases w2;cases w1 with
  | list ho hall=>exact⟨_,_,ns,rfl,rfl,ho,dg ns _ hall,hlen⟩
theorem rp (l:OpenLaw) (args:List WData):l.row.toRowW.claim.post args (.bool true) args=true :=
 postW_of (r:=l.row.toRowW) (X:=(true == true))
  (show WShape.has [] (.bool true) .bool=true by first | rfl | decide | simp [WShape.has,WShape.arms,WShape.armsAll])
  (show (WTm.eq .res (.lit (.bool true))).value [] { args:=args,res:=some (.bool true),after:=args }=some (.bool (true == true)) from w_eq_bool (w_res rfl) w_lit) rfl
theorem attach_call {l:OpenLaw} {n:Nat} {q:Program} {loose:List Str} {XP:(Str->Option Value)->Heap->Prop} {YP:World->Heap->Prop} {d:DefRec}
  (hn:l.most=some n) (hdf:d.params.defaults=[])
  (call:∀ (w:World) (s₀ s₁:Shared) (mg mb:Str->Option Value) (fa:DR) (o:Obj) (pm cd doc:Value) (a:DR) (vs:List Value) (ns:List Int),
   Ground q loose [] XP w s₀ mg mb s₁.heap->YP w s₁.heap ->
   s₁.heap.get? fa=some o->o.data=.func (docDef d.name d.params d.body d.scope pm cd doc)->s₁.heap.CodeRec cd d.name->mg d.name=some (.ref fa) ->
   s₁.heap.get? a=some { cls:=.type "list",data:=.seq vs.toArray }->IntsAre vs ns->ns.length<=n->s₁.gens=#[] ->
   codeAny (model l.prog w) callerA (.call (.ref fa) ⟨[.ref a],[]⟩) (fun r s'=>r=.ok (.ret (.bool true))/\OldK s₁.heap s'.heap/\s'.os=s₁.os/\AllBare s'.gens) s₁) :
  WalkO q loose XP YP l.row.toRowW d [] (fun f vs=>PySem.call f vs):=by
 intro w s₀ s₁ mg mb G Y fa o pm cd doc dV kV ho hd hcd hD hmg hg args vals as hpre hlay hrd hwl hlo;obtain rfl:dV=.none:=Dflts.none hD hdf;obtain rfl:kV=.none:=Dflts.noKw hD;obtain⟨a,vs,ns,rfl,rfl,hobj,hints,hlen⟩:=rn hn hpre hwl;refine enter_call (Jf (call w s₀ s₁ mg mb fa o pm cd doc a vs ns G Y ho (fd_plain hd) hcd hmg hobj hints hlen hg) fun r s' hq=>?_);obtain⟨rfl,h2,h3,h4⟩:=hq;exact⟨.inl ⟨.bool true,.bool true,[],rfl,fun _=>rfl,.bool true,rp l _,fun _=>⟨List.Pairwise.nil,fun _ hm=>(nomatch hm)⟩⟩,h2,h3,h4⟩
section
variable {prog:Program} {w:World} {A:Around} {E:Value->Shared->Prop} {s:Shared} {K:Frag}
end
end Att
namespace L2
open PySem PySem.Spec PyProof.Rows
theorem fJ:∀ {vs:List Value} {ns:List Int},IntsAre vs ns->Vals (ns.map V.int) vs
 | _,_,.nil=>.nil
 | _,_,.cons n t h=>.cons ⟨t,rfl⟩ (fJ h)
end L2
/- THE LAST THEOREM (shape;LID,My.* are yours):
   My.Adr: a structure of the addresses that your layer names (classes,functions);My.Txt K t: a structure (Prop) of the equations over K;
   My.txt_mk:{K} {implicit addresses ..} (e1:nsIn K El "law"=some (some (.ref f))) (e2:K.lookup f=some ⟨oc,od,.func (fnOf "law" "law" params body scope dV kV doc pm an cdv ct),sl⟩) (e3:codeIn K cdv "law"=true) ..:∃ t,My.Txt K t
set_option maxRecDepth 100000 in
set_option maxHeartbeats 0 in
theorem PySem.Challenge.cw_LID_holds : PySem.Challenge.rw_LID.Holds := by
 w_on;o_law;k_head;(case hw=>w_witness2)
 k_fill
 refine L2.walk_of (l:=PySem.Challenge.rw_LID) (n:=63) (k:=40) (x:="script") (CX:=fun w=>..) (sp:=fun _=>My.sp_law) rfl (by decide) rfl ⟨rfl,by decide,by decide⟩ (fun w h Y=>PySem.W.kIn_of Y) ?F ?S ?C
 case F =>
  intro w mg fa h KX G hmg;have T:∃ t,My.Txt (L2.KOf KX) t:=by
   dsimp only [L2.KOf]                          -- K must stand as «<heap const> w.params» for k_is
   refine' My.txt_mk ?e1 ?e2 ?e3 ..
   (case e1=>PySem.W.k_is)                    -- in the order: a name->its address->its object->its parts
   (case e2=>PySem.W.k_is)
   ..
  obtain⟨t,T⟩:=T;have e0:=hmg.symm.trans (FN KX G T.law);cases e0                                       -- fa is the law's own address;exact⟨_,fun s u=>.of_eq rfl,fun base kb nb=>My.law_fn T kb nb⟩     -- if «.of_eq rfl» comes too early: refine' ⟨_,?b,fun base kb nb=>My.law_fn T kb nb⟩;exact fun s u=>.of_eq rfl
 case S=>exact fun w H a ns hl hO hS=>..
 case C=>exact ..
(the tactic k_is has no namespace: write k_is) -/
namespace L2
open PySem PySem.Spec PyProof.Rows
noncomputable def jy (s:Stmt):Arguments:=match s with
 | .FunctionDef _ a _ _ _ _ _ _ _ _=>a
 | _=>{ posonlyargs:=[],args:=[],vararg:=none,kwonlyargs:=[],kw_defaults:=[],kwarg:=none,defaults:=[] }
noncomputable def yM (s:Stmt):List Stmt:=match s with
 | .FunctionDef _ _ b _ _ _ _ _ _ _=>b
 | _=>[]
noncomputable def zi (s:Stmt):Scope:=match s with
 | .FunctionDef _ _ _ _ _ _ sc _ _ _=>sc
 | _=>{ kind:=.function,names:=[],isGenerator:=false,isCoroutine:=false }
abbrev CX0:CXT:=fun _ _ _ _ _ _=>False
abbrev E0:XK:=fun _ _ _=>False
theorem CU {X:Cx}:Passes CX0 X E0:=fun _ _ _ _ _ _ _ h=>h.elim
structure Fun (K:DP) (x qual:Str) (st:Stmt) (f:DR) (fd:FuncData):Prop where
 ex:∃ (oc:Value) (od:Option DR) (kV doc pm:Value) (an:Option DR) (cdv ct:Value) (osl:Array (Option Value)),
  fd=Ff x qual (jy st) (yM st) (zi st) .none kV doc pm an cdv ct/\K.lookup f=some ⟨oc,od,.func fd,osl⟩/\Gw K cdv qual=true
 kp:EZ K (.ref f)=true
section
variable {P:Program} {w:World} {K:DP} {mg:Str->Option Value} {base:Heap}
theorem Fun.ok {x qual:Str} {st:Stmt} {f:DR} {fd:FuncData} {N ps:List Str} {k:Nat} {sp:Sp} (F:Fun K x qual st f fd) (S:FnScope N ps (zi st)) (len:∀ vs H Q E,sp vs H Q E->vs.length=ps.length)
  (hbody:∀ (cdv:Value) (A:Around) (outer:List Env) (s:Shared) (H:Hp) (vs:List V) (Q:VK) (E:XK),Room k (A.deeper (envOfC qual (zi st) s.heap.objs.size f cdv))->sp vs H Q E ->
   ∃ t,PSs (ye CX0 P w K mg base N qual (zi st) f cdv A outer s H E).nox (yM st) t/\t { nx:=fun _ H'=>Q .non H',rt:=Q } (start N vs) H):FnOk P w K mg base CX0 (k+1) f fd ps sp:=by
 obtain⟨oc,od,kV,doc,pm,an,cdv,ct,osl,rfl,lk,hcd⟩:=F.ex;refine CT lk hcd S len fun A outer s H vs Q E hr hsp=>?_;obtain⟨t,h,q⟩:=hbody cdv A outer s H vs Q E hr hsp;exact⟨t,h.nox,q⟩
theorem Fun.binds {x qual:Str} {st:Stmt} {f:DR} {fd:FuncData} {ps:List Str} (F:Fun K x qual st f fd)
  (h:∀ (kV doc pm:Value) (an:Option DR) (cdv ct:Value) (us:List Value),us.length=ps.length->bindArgs (Ff x qual (jy st) (yM st) (zi st) .none kV doc pm an cdv ct) ⟨us,[]⟩=pure (ps.zip us)):Binds K fd ps []:=by
 obtain⟨oc,od,kV,doc,pm,an,cdv,ct,osl,rfl,lk,hcd⟩:=F.ex;exact .all (h kV doc pm an cdv ct)
theorem l4 {x qual:Str} {st:Stmt} {f:DR} {oc:Value} {od an:Option DR} {osl:Array (Option Value)} {kV doc pm cdv ct:Value} (l:K.lookup f=some ⟨oc,od,.func (Ff x qual (jy st) (yM st) (zi st) .none kV doc pm an cdv ct),osl⟩)
  (c:Gw K cdv qual=true) (k:EZ K (.ref f)=true):Fun K x qual st f (Ff x qual (jy st) (yM st) (zi st) .none kV doc pm an cdv ct):=⟨⟨oc,od,kV,doc,pm,an,cdv,ct,osl,rfl,l,c⟩,k⟩
end
theorem yy {n:Nat} (h:n<=1000):n<Ex:=HG h (by decide)
section
variable {X:Cx}
theorem pv (i:Nat) {x:Str} {pos:Pos} (hN:X.N[i]?=some x:=by rfl) (hv:Vis X.env.scope x:=by first | exact Or.inl rfl | exact Or.inr (Or.inl rfl) | exact Or.inr (Or.inr rfl)) (hd:(x == ("__debug__":Str))=false:=by decide)
  (hcd:(x == ("__classdict__":Str))=false:=by decide):PE X (.Name x pos) (z6 i):=Bm hN hv hd hcd
end
def Same (H H':Hp):Prop:=∀ b o,H b=some o->H' b=some o
theorem Same.refl (H:Hp):Same H H:=fun _ _ h=>h
theorem Same.trans {H H1 H2:Hp} (a:Same H H1) (b:Same H1 H2):Same H H2:=fun c o h=>b c o (a c o h)
theorem Same.free {H H':Hp} (e:Same H H') {l:DR} (h:H' l=Option.none):H l=Option.none:=by
 cases q:H l with
 | none=>rfl
 | some o =>
  rw [e l o q] at h;cases h
theorem Same.seq {K:DP} {H H':Hp} {a:DR} {xs:List V} (e:Same H H') (h:SqL K H a xs):SqL K H' a xs:=by
 rcases h with (h | ⟨o,h⟩) | h
 ·exact .inl (.inl (e _ _ h))
 ·exact .inl (.inr ⟨o,e _ _ h⟩)
 ·exact .inr h
noncomputable def yt (env:Env):List (Str×NameKind)->List (Str×DR)->List (Str×DR)
 | [],acc=>acc
 | (x,k) :: r,acc=>if k == .free then yt env r ((x,(env.cells.lookup x).getD 0) :: acc) else yt env r acc
theorem l5 {sc:Scope} {env:Env} (h:∀ x,(x,NameKind.free)∈sc.names->∃ c,env.cells.lookup x=some c):closureFor sc env=pure (yt env sc.names []):=by
 have key:∀ (names:List (Str×NameKind)) (acc:List (Str×DR)),(∀ x,(x,NameKind.free)∈names->∃ c,env.cells.lookup x=some c) ->
   (forIn names acc fun (x:Str×NameKind) (cs:List (Str×DR))=>if (x.2 == NameKind.free)=true then (do let c <- cellOf env x.1;pure (ForInStep.yield ((x.1,c) :: cs))) else pure (ForInStep.yield cs))=(pure (yt env names acc):Sem (List (Str×DR))):=by
  intro names
  induction names with
  | nil=>intro acc _;rfl
  | cons p r ih =>
   intro acc hh;obtain⟨x,k⟩:=p;rw [GY];unfold yt;by_cases hk:(k == NameKind.free)=true
   ·have hk':k=.free:=by simpa using hk
    subst hk';obtain⟨c,hc⟩:=hh x DZ;simp only [beq_self_eq_true,if_true];rw [<-ih _ fun y hy=>hh y (DT _ hy)];have:cellOf env x=pure c:=by unfold cellOf;rw [hc]
    rw [this,hc];rfl
   ·simp only [hk,EC,if_false];rw [<-ih _ fun y hy=>hh y (DT _ hy)];rfl
 simp only [closureFor];have q:=key sc.names [] h;refine Eq.trans ?_ (Eq.trans (congrArg (fun z=>z >>= fun r=>pure r) q) ?_)
 ·rfl
 ·rfl
theorem vG {env:Env}:∀ {names:List (Str×NameKind)} {acc:List (Str×DR)} {p:Str×DR},p∈yt env names acc->p∈acc \/ ((p.1,NameKind.free)∈names/\p.2=(env.cells.lookup p.1).getD 0)
 | [],acc,p,h=>.inl h
 | (x,k) :: r,acc,p,h=>by
  unfold yt at h;split at h
  ·rename_i hk;have hk':k=.free:=by simpa using hk
   subst hk';rcases vG h with q | ⟨q,e⟩
   ·rcases D0.mp q with q | q
    ·subst q;exact .inr ⟨DZ,rfl⟩
    ·exact .inl q
   ·exact .inr ⟨DT _ q,e⟩
  ·rcases vG h with q | ⟨q,e⟩
   ·exact .inl q
   ·exact .inr ⟨DT _ q,e⟩
theorem af {α:Type}:∀ {l:List (Str×α)} {x:Str} {v:α},(x,v)∈l->∃ u,l.lookup x=some u
 | (y,u) :: r,x,v,h=>by
  rw [EI];cases hb:x == y with
  | true=>exact⟨u,rfl⟩
  | false =>
   rcases D0.mp h with e | h
   ·have:x=y:=congrArg Ja e;subst this;simp at hb
   ·exact af h
theorem bz {env:Env}:∀ {names:List (Str×NameKind)} {acc:List (Str×DR)} {x:Str},(x,NameKind.free)∈names->(x,(env.cells.lookup x).getD 0)∈yt env names acc
 | (y,k) :: r,acc,x,h=>by
  have mono:∀ (names:List (Str×NameKind)) (acc:List (Str×DR)) (p:Str×DR),p∈acc->p∈yt env names acc:=by
   intro names
   induction names with
   | nil=>intro acc p hp;exact hp
   | cons q r ih =>
    intro acc p hp;obtain⟨a,b⟩:=q;unfold yt;split
    ·exact ih _ _ (DT _ hp)
    ·exact ih _ _ hp
  unfold yt;rcases D0.mp h with e | h
  ·cases e;simp only [beq_self_eq_true,if_true];exact mono _ _ _ DZ
  ·split
   ·exact bz h
   ·exact bz h
theorem bc {env:Env} {names:List (Str×NameKind)} {x:Str} {c:DR} (h:∀ x,(x,NameKind.free)∈names->∃ c,env.cells.lookup x=some c) (e:(yt env names []).lookup x=some c):env.cells.lookup x=some c/\(x,NameKind.free)∈names:=by
 rcases vG (mem_of_lookup e) with q | ⟨q,e'⟩
 ·cases q
 ·obtain⟨c',hc⟩:=h _ q;dsimp only at hc e';rw [hc] at e';exact⟨by rw [hc];exact congrArg some e'.symm,q⟩
theorem cR {env:Env} {names:List (Str×NameKind)} {x:Str} {c:DR} (h:∀ x,(x,NameKind.free)∈names->∃ c,env.cells.lookup x=some c) (hx:(x,NameKind.free)∈names) (e:env.cells.lookup x=some c):(yt env names []).lookup x=some c:=by
 obtain⟨u,hu⟩:=af (bz (env:=env) (acc:=[]) hx);have:=(bc h hu).1;rw [this] at e;rw [hu,e]
theorem jK:∀ {names:List (Str×NameKind)} {n:Nat} {acc:List (Str×DR)} {x:Str} {c:DR},(cellsFrom n names acc).lookup x=some c->(n<=c/\c<n+names.length/\(x,NameKind.cell)∈names) \/ (acc.lookup x=some c/\(x,NameKind.cell)∉names)
 | [],n,acc,x,c,h=>.inr ⟨h,by simp⟩
 | (y,k) :: r,n,acc,x,c,h=>by
  unfold cellsFrom at h;split at h
  ·rename_i hk;have hk':k=.cell:=by simpa using hk
   subst hk';rcases jK h with⟨q1,q2,q3⟩ | ⟨q1,q2⟩
   ·exact .inl ⟨G2 q1,Eh q2 (by rw [Ea];omega),DT _ q3⟩
   ·rw [EI] at q1;cases hb:x == y with
    | true =>
     rw [hb] at q1;cases q1;have:x=y:=by simpa using hb
     subst this;exact .inl ⟨DU _,by rw [Ea];exact Nat.lt_add_of_pos_right (HC _),DZ⟩
    | false =>
     rw [hb] at q1;refine .inr ⟨q1,fun z=>?_⟩;rcases D0.mp z with e | z
     ·have:x=y:=congrArg Ja e;subst this;simp at hb
     ·exact q2 z
  ·rename_i hk;rcases jK h with⟨q1,q2,q3⟩ | ⟨q1,q2⟩
   ·exact .inl ⟨q1,Eh q2 (by rw [Ea];omega),DT _ q3⟩
   ·refine .inr ⟨q1,fun z=>?_⟩;rcases D0.mp z with e | z
    ·have:k=.cell:=(congrArg Prod.snd e).symm;subst this;simp at hk
    ·exact q2 z
theorem jY:∀ (names:List (Str×NameKind)) (n:Nat) (acc:List (Str×DR)),(acc.Pairwise fun x y=>x.2≠y.2)->(∀ p∈acc,p.2<n)->(cellsFrom n names acc).Pairwise fun x y=>x.2≠y.2
 | [],n,acc,h,_=>h
 | (y,k) :: r,n,acc,h,hl=>by
  unfold cellsFrom;split
  ·refine jY r (n+1) _ (FQ.mpr ⟨fun p hp=>?_,h⟩) fun p hp=>?_
   ·exact GF (hl p hp)
   ·rcases D0.mp hp with e | hp
    ·subst e;exact Ie _
    ·exact Fw (hl p hp)
  ·exact jY r n acc h hl
theorem fj {names:List (Str×NameKind)} {n:Nat} {acc:List (Str×DR)} {x:Str} (h:names.lookup x=some .cell):∃ c,(cellsFrom n names acc).lookup x=some c :=
 GU.mp (Gi names n acc (.inl h))
theorem bf {names:List (Str×NameKind)} {n:Nat} {acc:List (Str×DR)} {x:Str} (h:(acc.lookup x).isSome=true):∃ c,(cellsFrom n names acc).lookup x=some c :=
 GU.mp (Gi names n acc (.inr h))
theorem ve:∀ (names:List (Str×NameKind)) (h:Heap) (acc:List (Str×DR)) (x:Str) (c:DR),(cellsFrom h.objs.size names acc).lookup x=some c->h.objs.size<=c->(∀ p∈acc,p.2<h.objs.size)->(pushCells h names).IsCell c none
 | [],h,acc,x,c,e,hc,hl=>absurd (hl _ (mem_of_lookup e)) (Nat.not_lt.mpr hc)
 | (y,k) :: r,h,acc,x,c,e,hc,hl=>by
  unfold cellsFrom at e;unfold pushCells;split at e
  ·rename_i hk;rw [Jp hk];by_cases hcc:c=h.objs.size
   ·subst hcc;exact⟨_,pushCells_keeps _ _ _ _ (Ey _ rfl),rfl⟩
   ·have es:(h.push { cls:=.type "cell",data:=.cell none }).objs.size=h.objs.size+1:=HH ..;refine ve r _ ((y,h.objs.size) :: acc) x c (by rw [es];exact e) (by rw [es];exact Nat.lt_of_le_of_ne hc (EW hcc)) fun p hp=>?_;rw [es];rcases D0.mp hp with e | hp
    ·subst e;exact Ie _
    ·exact Fw (hl p hp)
  ·rename_i hk;rw [Jo hk];exact ve r h acc x c e hc hl
noncomputable def zk (X:Cx) (sc:Scope) (N:List Str) (s₀:Shared) (H₀:Hp) (ex:List DR) (pn:List (DR×Obj)):Cx :=
 { X with N:=N,s₀:=s₀,H₀:=H₀,env:=compEnvC sc (cellsFrom (s₀.heap.objs.size+1) sc.names (yt X.env sc.names [])) s₀.heap.objs.size X.env,
          outer:=X.stack,ex:=ex,fn:=fun x=>decide (sc.names.lookup x=some .cell),pn:=pn,xe:=fun _ _=>False }
structure CompScope (NO:List Str) (scO:Scope) (N:List Str) (sc:Scope) (own:Nat) (fr:List Nat):Prop where
 kind:sc.kind=.function
 nd:N.Nodup
 snd:(sc.names.map (·.1)).Nodup
 free:∀ p∈sc.names,p.2=.free->scO.names.lookup p.1=some .cell \/ scO.names.lookup p.1=some .free
 frn:∀ p∈(N.drop own).zip fr,NO[p.2]?=some p.1/\sc.names.lookup p.1=some .free
 len:N.length=own+fr.length
noncomputable def jZ (own:Nat) (fr:List Nat) (σ:St):St:=F8 own none++fr.map fun j=>(σ[j]?).getD none
theorem yz {α:Type}:∀ {l:List (Str×α)} {x:Str} {k:α},(l.map (·.1)).Nodup->(x,k)∈l->l.lookup x=some k
 | (y,u) :: r,x,k,nd,h=>by
  rw [Ek] at nd;obtain⟨h1,h2⟩:=Fe.mp nd;rw [EI];rcases D0.mp h with e | h'
  ·cases e;simp
  ·have:x≠y:=by
    intro e;subst e;exact h1 (Ee.mpr ⟨(x,k),h',rfl⟩)
   rw [beq_eq_false_iff_ne.mpr this];exact yz h2 h'
theorem qC {env:Env}:∀ {names:List (Str×NameKind)} {x:Str} {k:NameKind},names.lookup x=some k ->
  (names.map fun (n,k)=>if (k == NameKind.free && env.scope.kind == .function && env.kindOf n == some .cell) then (n,NameKind.cell) else (n,k)).lookup x=some (if (k == NameKind.free && env.scope.kind == .function && env.kindOf x == some .cell) then .cell else k)
 | (n,k') :: r,x,k,h=>by
  have ih:=@qC env r x k;show List.lookup x ((if (k' == NameKind.free && env.scope.kind == .function && env.kindOf n == some .cell)=true then (n,NameKind.cell) else (n,k')) :: _)=_;cases hx:x == n with
  | true =>
   have:x=n:=by simpa using hx
   subst this;simp only [EI,hx] at h;cases h;split <;> simp [EI]
  | false =>
   simp only [EI,hx] at h;split
   ·simp only [EI,hx];exact ih h
   ·simp only [EI,hx];exact ih h
theorem j8 {env:Env}:∀ {names:List (Str×NameKind)} {x:Str},names.lookup x=none ->
  (names.map fun (n,k)=>if (k == NameKind.free && env.scope.kind == .function && env.kindOf n == some .cell) then (n,NameKind.cell) else (n,k)).lookup x=none
 | [],_,_=>rfl
 | (n,k') :: r,x,h=>by
  have ih:=@j8 env r x;show List.lookup x ((if (k' == NameKind.free && env.scope.kind == .function && env.kindOf n == some .cell)=true then (n,NameKind.cell) else (n,k')) :: _)=_;cases hx:x == n with
  | true=>simp only [EI,hx] at h;cases h
  | false =>
   simp only [EI,hx] at h;split
   ·simp only [EI,hx];exact ih h
   ·simp only [EI,hx];exact ih h
section
variable {X:Cx} {Jn:List (DR×Obj)} {σ:St} {H:Hp} {s:Shared} {NO N:List Str} {scO sc:Scope} {own:Nat} {fr:List Nat} {fp:List DR}
theorem tW {tk:Nat} (S:CompScope NO scO N sc own fr) (hN:X.N=NO) (hsc:X.env.scope=scO) (I:Inv X Jn σ H s) (hf:∀ b∈fp,bG X Jn H b) (ho:∀ b∈fp,∃ o,s.heap.get? b=some o/\∀ v,o.data≠.cell v) :
  Inv (zk X sc N s H fp (X.pn++Jn)) [] (jZ own fr σ) H { s with heap:=pushCells (s.heap.push { cls:=.type "dict",data:=.dict #[] }) sc.names,toks:=tk }:=by
 have hfree:∀ x,(x,NameKind.free)∈sc.names->∃ c,X.env.cells.lookup x=some c:=fun x hx=>I.ok.has x (by
  show X.env.scope.names.lookup x=_ \/ X.env.scope.names.lookup x=_;rw [hsc];exact S.free _ hx rfl)
 have hclt:∀ p∈yt X.env sc.names [],p.2<s.heap.objs.size:=fun p hp=>by
  rcases vG hp with q | ⟨q,e⟩
  ·cases q
  ·obtain⟨c,hc⟩:=hfree _ q;rw [e,hc];obtain⟨v,o,ho,_⟩:=I.cell _ c hc;exact Eb ho
 have hsz:(s.heap.push { cls:=.type "dict",data:=.dict #[] }).objs.size=s.heap.objs.size+1:=HH ..;have hk:∀ b o,s.heap.get? b=some o->(pushCells (s.heap.push { cls:=.type "dict",data:=.dict #[] }) sc.names).get? b=some o:=fun b o e=>pushCells_keeps _ _ _ _ (D3 _ e);have hcase:∀ {x:Str} {c:DR},(cellsFrom (s.heap.objs.size+1) sc.names (yt X.env sc.names [])).lookup x=some c->(s.heap.objs.size+1<=c/\(x,NameKind.cell)∈sc.names) \/ (X.env.cells.lookup x=some c/\(x,NameKind.free)∈sc.names):=fun {x c} e=>by
  rcases jK e with⟨q1,_,q3⟩ | ⟨q1,_⟩
  ·exact .inl ⟨q1,q3⟩
  ·exact .inr (bc hfree q1)
 have clap:(yt X.env sc.names []).Pairwise fun x y=>x.2≠y.2:=by
  have key:∀ (names:List (Str×NameKind)) (acc:List (Str×DR)),(∀ p∈acc,X.env.cells.lookup p.1=some p.2)->(∀ x,(x,NameKind.free)∈names->∃ c,X.env.cells.lookup x=some c)->(acc.Pairwise fun x y=>x.2≠y.2)->(∀ p∈acc,(p.1,NameKind.free)∉names)->(names.map (·.1)).Nodup ->
    (yt X.env names acc).Pairwise fun x y=>x.2≠y.2:=by
   intro names
   induction names with
   | nil=>intro acc _ _ h _ _;exact h
   | cons p r ih =>
    intro acc h1 h2 h3 h4 h5;obtain⟨y,k⟩:=p;rw [Ek] at h5;obtain⟨n1,n2⟩:=Fe.mp h5;unfold yt;split
    ·rename_i hk;have hk':k=.free:=by simpa using hk
     subst hk';obtain⟨c,hc⟩:=h2 y DZ;rw [hc];refine ih _ (fun p hp=>?_) (fun x hx=>h2 x (DT _ hx)) (FQ.mpr ⟨fun p hp=>?_,h3⟩) (fun p hp=>?_) n2
     ·rcases D0.mp hp with e | hp
      ·subst e;exact hc
      ·exact h1 p hp
     ·intro e;have e':p.2=c:=e.symm;have:=I.ok.inj _ _ _ hc (e'▸h1 p hp);exact h4 p hp (this▸DZ)
     ·rcases D0.mp hp with e | hp
      ·subst e;intro z;exact n1 (Ee.mpr ⟨_,z,rfl⟩)
      ·intro z;exact h4 p hp (DT _ z)
    ·exact ih acc h1 (fun x hx=>h2 x (DT _ hx)) h3 (fun p hp z=>h4 p hp (DT _ z)) n2
  exact key sc.names [] (fun p hp=>by cases hp) hfree List.Pairwise.nil (fun p hp=>by cases hp) S.snd
 have apart:=jY sc.names (s.heap.objs.size+1) _ clap fun p hp=>Fw (hclt p hp);have hkd:∀ x,(zk X sc N s H fp (X.pn++Jn)).env.kindOf x=some .cell \/ (zk X sc N s H fp (X.pn++Jn)).env.kindOf x=some .free->(x,NameKind.cell)∈sc.names \/ (x,NameKind.free)∈sc.names:=fun x hx=>by
  cases q:sc.names.lookup x with
  | none =>
   have e:(zk X sc N s H fp (X.pn++Jn)).env.kindOf x=none:=j8 q;rw [e] at hx;rcases hx with z | z <;> cases z
  | some k =>
   have e:(zk X sc N s H fp (X.pn++Jn)).env.kindOf x=some _:=qC (env:=X.env) q;rw [e] at hx;have hm:=mem_of_lookup q;cases k <;> first | exact .inl hm | exact .inr hm | (rcases hx with z | z <;> cases z)
 have cellAt:∀ x c,(cellsFrom (s.heap.objs.size+1) sc.names (yt X.env sc.names [])).lookup x=some c->∃ v,(pushCells (s.heap.push { cls:=.type "dict",data:=.dict #[] }) sc.names).IsCell c v:=fun x c e=>by
  rcases hcase e with⟨q,_⟩ | ⟨q,_⟩
  ·exact⟨none,ve _ _ _ x c (by rw [hsz];exact e) (by rw [hsz];exact q) fun p hp=>by rw [hsz];exact Fw (hclt p hp)⟩
  ·obtain⟨v,o,ho,hd⟩:=I.cell x c q;exact⟨v,o,hk _ _ ho,hd⟩
 have lt_of_cell:∀ x c,X.env.cells.lookup x=some c->c<s.heap.objs.size:=fun x c e=>by
  obtain⟨v,o,ho,hd⟩:=I.cell x c e;exact Eb ho
 have lt_of_fp:∀ b∈fp,b<s.heap.objs.size:=fun b hb=>by
  obtain⟨o,e,_⟩:=ho b hb;exact Eb e
 have okX:(zk X sc N s H fp (X.pn++Jn)).Ok:=by
  refine⟨I.mod,S.kind,I.ok.glob,I.ok.blt,DU _,fun x y c h1 h2=>name_of_addr apart (mem_of_lookup h1) (mem_of_lookup h2),fun x hx=>?_,fun x c hx hc=>?_,I.ok.hd,I.ok.frames,.inl rfl,fun b hb=>⟨Ez (lt_of_fp b hb),fun x c e=>?_⟩,I.bs,Em I.ok.bsz I.sz,fun b o e hb=>?_,fun b hb z=>?_,I.stack,I.stkFree,I.env0.tabs⟩
  ·rcases hkd x hx with q | q
   ·exact fj (yz S.snd q)
   ·obtain⟨c,hc⟩:=hfree x q;exact bf (by rw [cR hfree q hc];rfl)
  ·have hx':sc.names.lookup x=some .cell:=of_decide_eq_true hx;rcases hcase hc with⟨q,_⟩ | ⟨_,q⟩
   ·exact G2 q
   ·rw [yz S.snd q] at hx';cases hx'
  ·rcases hcase e with⟨q,_⟩ | ⟨q,_⟩
   ·exact GF (Eh (lt_of_fp b hb) (G2 q))
   ·exact (hf b hb).2.2.2.2.1 x c q
  ·rcases (hf b hb).2.2.2.1 with z | z
   ·exact I.ok.noex b o e z
   ·exact absurd (Eb e) (Nat.not_lt.mpr (Em I.ok.bsz z))
  ·rcases D0.mp (I.stkSub b z) with q | q
   ·exact (hf b hb).2.1 q
   ·exact (hf b hb).2.2.1 q
 refine⟨okX,rfl,I.bare,Un.kept hk,⟨fun _=>none,(Heap.Ns.new s.heap (.type "dict")).keeps (pushCells_keeps _ _),fun i x v h1 h2 h3=>?_⟩,cellAt,I.hok.fresh (DU _),fun x c e=>?_,fun p hp=>?_,I.hok.kept hk,?_⟩
 ·obtain⟨m,_,hl⟩:=id I.loc;have h2':(jZ own fr σ)[i]?=some (some v):=h2;have hio:own<=i:=by
   unfold jZ at h2';refine Nat.le_of_not_lt fun hi=>?_;rw [D4 (by simpa using hi),F9] at h2';split at h2' <;> cases h2'
  obtain⟨k,rfl⟩:=Nat.exists_eq_add_of_le hio;have h1':N[own+k]?=some x:=h1;unfold jZ at h2';rw [D7 (by simp)] at h2';simp only [Hc,Nat.add_sub_cancel_left,DX] at h2';cases hj:fr[k]? with
  | none=>rw [hj] at h2';cases h2'
  | some j =>
   rw [hj] at h2';have h2'':(σ[j]?).getD none=some v:=Option.some.inj h2';have hp:(x,j)∈(N.drop own).zip fr:=by
    refine DS (i:=k) ?_;rw [List.getElem?_zip_eq_some];exact⟨by rw [List.getElem?_drop];exact h1',hj⟩
   obtain⟨f1,f2⟩:=S.frn _ hp;have hσ:σ[j]?=some (some v):=by
    cases q:σ[j]? with
    | none=>rw [q] at h2'';cases h2''
    | some w=>rw [q] at h2'';exact congrArg some h2''
   have hxf:(x,NameKind.free)∈sc.names:=mem_of_lookup f2;have hko:=S.free _ hxf rfl;have hvis:Vis X.env.scope x:=by rw [hsc];exact .inr hko
   obtain⟨u,ru,q⟩:=hl j x v (by rw [hN];exact f1) hσ hvis;refine⟨u,ru,.inr ⟨?_,?_⟩⟩
   ·have e:(zk X sc N s H fp (X.pn++Jn)).env.kindOf x=some _:=qC (env:=X.env) f2;rw [e];split
    ·exact .inl rfl
    ·exact .inr rfl
   ·rcases q with⟨k1,_⟩ | ⟨_,c,hc,z⟩
    ·have k1':X.env.scope.names.lookup x=some .local:=k1;rw [hsc] at k1';rcases hko with z | z <;> rw [z] at k1' <;> cases k1'
    ·obtain⟨o,ho,hd⟩:=z;refine⟨c,?_,o,hk _ _ ho,hd⟩;have hcl:=cR hfree hxf hc;obtain⟨c',hc'⟩:=bf (names:=sc.names) (n:=s.heap.objs.size+1) (acc:=yt X.env sc.names []) (x:=x) (by rw [hcl];rfl);rcases hcase hc' with⟨_,z⟩ | ⟨z,_⟩
     ·have:=yz S.snd z;rw [f2] at this;cases this
     ·rw [hc] at z;cases z;exact hc'
 ·rcases hcase e with⟨q,_⟩ | ⟨q,_⟩
  ·exact I.hok.fresh (G2 q)
  ·exact I.freeC x c q
 ·have hp':p∈X.pn++Jn:=by simpa [zk] using hp
  obtain⟨e,n,ne,nf,d⟩:=I.pin p hp';refine⟨hk _ _ e,n,Ez (Eb e),fun z=>?_,d⟩;rcases D0.mp (I.stkSub _ z) with q | q
  ·exact ne q
  ·exact nf q
 ·show (jZ own fr σ).length=N.length;unfold jZ;rw [S.len];simp
end
abbrev TB:=St->Hp->(St->Hp->Prop)->Prop
def PB (X:Cx) (act:Sem Unit) (t:TB):Prop :=
 ∀ (Jn:List (DR×Obj)) (s:Shared) (σ:St) (H:Hp) (Q:St->Hp->Prop),Inv X Jn σ H s->t σ H Q->Ef (model X.prog X.w) X.A act (fun _ s'=>∃ σ' H',Inv X Jn σ' H' s'/\Q σ' H') X.xe s
def PTs (X:Cx) (ifs:List Expr) (t:TT):Prop :=
 ∀ (Jn:List (DR×Obj)) (s:Shared) (σ:St) (H:Hp) (Q:Bool->Hp->Prop),Inv X Jn σ H s->t σ H Q ->
  Ef (model X.prog X.w) X.A (forIn ifs true fun c r=>if r=true then do let ok <- isTrue c X.env (eval c X.env);pure (ForInStep.yield ok) else pure (ForInStep.yield r)) (TP X Jn σ Q) X.xe s
def BD:TT:=fun _ H Q=>Q true H
theorem yV {X:Cx}:PTs X [] BD:=fun Jn s σ H Q I h=>wpAny_tests_nil ⟨H,I,h⟩
theorem dm {X:Cx} {c:Expr} {t:TT} (hc:PT X c t):PTs X [c] t:=fun Jn s σ H Q I h=>wpAny_tests_one (hc Jn s σ H Q I h)
def i9 (J:It) (g:TG) (tt:TT) (tb:TB):TB:=fun σ H Q=>∃ W:Nat->Nat->St->Hp->Prop,(∃ m,W 0 m σ H)/\∀ i m σ H,W i m σ H ->
 (J.stop i H/\Q σ H) \/ (J.go i H/\∀ x H',J.yld i H x H'->g x σ H' fun σ2 H2=>tt σ2 H2 fun b H3=>if b=true then tb σ2 H3 fun σ' H'=>∃ m',m'<m/\W (i+1) m' σ' H' else ∃ m',m'<m/\W (i+1) m' σ2 H3)
section
variable {X:Cx} {Jn:List (DR×Obj)} {s:Shared} {σ:St} {H:Hp} {tg:Expr} {e:Expr} {d:Nat} {acc:Value} {ifs:List Expr} {g:TG} {tt:TT} {tb:TB} {act:Sem Unit} {pos:Pos}
theorem ka (hx:∀ e s,X.xe e s->False) (hc:X.calm=true) (hg:PG X tg g) (ht:PTs X ifs tt) (hb:PB X act tb)
  (heq:∀ it,compTurn e d it acc X.env=(do
   standAt pos
   match <- pyNext it with
   | none=>pure (.done .next)
   | some v =>
    FF tg it v
    assign tg X.env v
    let mut ok:=true
    for c in ifs do
     if ok then ok <- isTrue c X.env (eval c X.env)
    if ok then
     act
    again (.compLoop e d it acc X.env)))
  (hqt:∀ it,(Code.compLoop e d it acc X.env).quiet=true)
  (hden:∀ it,(model X.prog X.w).den (.compLoop e d it acc X.env)=(compTurn e d it acc X.env).onRaise (fun x=>do noteFrame x X.env;theTreesLotGoes x))
  (hund:∀ it,X.A.under (.compLoop e d it acc X.env)=X.A)
  {it:DR} {fp:List DR} {tn:Nat->Heap->Prop} {J:It} {Q:St->Hp->Prop} {R:Result->Shared->Prop} (I:Inv X Jn σ H s) (T:Turn X.prog X.w X.K tg J fp it tn) (st:tn 0 s.heap) (f:∀ b∈fp,bG X Jn H b)
  (h:i9 J g tt tb σ H Q) (hR:∀ σ' H' s',Inv X Jn σ' H' s'->(∀ b∈fp,H' b=none)->Q σ' H'->R (.ok .next) s'):codeAny (model X.prog X.w) X.A (.compLoop e d (.ref it) acc X.env) R s:=by
 obtain⟨W,⟨m0,w0⟩,turn⟩:=h;have stat:∀ {H':Hp},(∀ b∈fp,H' b=none)->∀ b∈fp,bG X Jn H' b:=fun hn b hb=>⟨hn b hb,(f b hb).2⟩;refine codeAny_loop (hqt _) (fun n s'=>∃ i σ' H',Inv X Jn σ' H' s'/\tn i s'.heap/\(∀ b∈fp,H' b=none)/\W i n σ' H') ?_ m0 ⟨0,σ,H,I,st,fun b hb=>(f b hb).1,w0⟩;rintro n s3 ⟨i,σ3,H3,I3,st3,fr3,w3⟩;rw [hden,hund];refine wpAny_noted ?_;rw [heq];have nox:∀ e' s',X.xe e' s'->notedBy (model X.prog X.w) X.A X.env (fun e s'=>R (.error e) s') e' s':=fun e' s' z=>(hx e' s' z).elim;refine DQ (wpAny_standAt (DQ ?_));rcases turn i n σ3 H3 w3 with⟨stop,qn⟩ | ⟨go,step⟩
 ·refine FE (T.done X rfl rfl rfl hc i Jn s3 σ3 H3 X.xe I3 (stat fr3) st3 stop) (fun r s4 hr4=>?_) nox;obtain⟨hr,I4⟩:=hr4;subst hr;exact DY (hR σ3 H3 s4 I4 fr3 qn)
 ·refine FE (T.item X rfl rfl rfl hc i Jn s3 σ3 H3 X.xe I3 (stat fr3) st3 go) (fun r s4 hr4=>?_) nox;obtain⟨u,hr,h4⟩:=hr4;subst hr;refine DQ (FE h4 (fun _ s5 h5=>?_) nox);obtain⟨x,H5,I5,r5,y5,st5,fr5⟩:=h5;have I5':=I5.pinned (stat fr5) (T.obj _ _ st5);refine DQ (FE (hg _ s5 σ3 H5 x u _ I5' r5 (step x H5 y5)) (fun _ s6 h6=>?_) nox);obtain⟨σ6,H6,I6,q6⟩:=h6;refine DQ (FE (ht _ s6 σ6 H6 _ I6 q6) (fun ok s7 h7=>?_) nox);obtain⟨H7,I7,q7⟩:=h7;have again:∀ {σ7:St} {H7:Hp} {s7:Shared},Inv X (Jn++dU fp s5.heap) σ7 H7 s7->(∃ m',m'<n/\W (i+1) m' σ7 H7)->∃ m,m<n/\∃ i σ' H',Inv X Jn σ' H' s7/\tn i s7.heap/\(∀ b∈fp,H' b=none)/\W i m σ' H':=fun {σ7 H7 s7} I7 n7=>by
   obtain⟨m',hm,w7⟩:=n7;refine⟨m',hm,i+1,σ7,H7,I7.unpinned,T.keep _ _ _ st5 fun b hb o e=>(I7.pin (b,o) (Ed _ (Ed _ (vE hb e)))).1,fun b hb=>?_,w7⟩;obtain⟨o,e,d⟩:=T.obj _ _ st5 b hb;exact (I7.pin (b,o) (Ed _ (Ed _ (vE hb e)))).2.1
  cases ok with
  | false =>
   rw [Jo DL] at q7;exact DY ⟨rfl,again I7 q7⟩
  | true =>
   rw [Jp rfl] at q7;refine DQ (FE (hb _ s7 σ6 H7 _ I7 q7) (fun _ s8 h8=>?_) nox);obtain⟨σ8,H8,I8,q8⟩:=h8;exact DY ⟨rfl,again I8 q8⟩
theorem gO {D:DR} {elt:Expr} {te:TE} (he:PE X elt te):PB X (do let _ <- call (.builtin "list.append") [.ref D,<- eval elt X.env]) (fun σ H Q=>te σ H fun y H1=>∃ xs,H1 D=some (.lst xs)/\xs.length<Ex/\Q σ (upd H1 D (.lst (xs++[y])))):=by
 intro Jn s σ H Q I h;refine DQ (thn (he Jn s σ H _ I h) fun v s1 h1=>?_);obtain⟨y,H1,I1,r1,xs,hD,hz,q⟩:=h1;obtain⟨z,its,n,r,hl,e⟩:=I1.lstM hD;refine DQ ?_;refine call_meets F.slot_list_append ⟨_,e,rfl⟩ IT (IE _ _) (PySem.list_append D its.toArray n v (by rw [D9];omega)) ⟨e,?_⟩;refine DY ⟨σ,_,I1.lset (its':=its++[v]) hD e (by simp) (r.append (.cons r1 .nil)) ?_,q⟩;rw [D6,EO];omega
theorem kc {M:Model} {A:Around} {E:Value->Shared->Prop} {sc:Scope} {gl:DR} {cl:List (Str×DR)} {qual:Str} {env:Env} {Q:Env->Shared->Prop} {s:Shared}
  (h:Q { scope:=sc,locals:=s.heap.objs.size,globals:=gl,cells:=cellsFrom (s.heap.objs.size+1) sc.names cl,qual:=qual,func:=none,code:=env.code,frame:=env.frame,builtins:=env.builtins } { s with heap:=pushCells (s.heap.push { cls:=.type "dict",data:=.dict #[] }) sc.names }) :
  Ef M A (newFunctionEnv sc gl cl [] qual none .none (some env)) Q E s:=by
 simp only [newFunctionEnv,Option.isSome_some,if_true];refine DQ (wpAny_alloc ?_);refine DQ (wpAny_layCells _ (fun name kind cells=>by cases hkc:kind == NameKind.cell <;> simp [hkc]) _ _ _ _ ?_);rw [show ({ s with heap:=s.heap.push { cls:=.type "dict",data:=.dict #[] } }:Shared).heap.objs.size=s.heap.objs.size+1 from HH ..];refine DQ ?_;rw [G3];exact DY (DY h)
theorem comp_back {sc:Scope} {N:List Str} {fp:List DR} {σ':St} {H':Hp} {s':Shared} {h':Heap} (I:Inv X Jn σ H s) (hf:∀ b∈fp,bG X Jn H b) (J:Inv (zk X sc N s H fp (X.pn++Jn)) [] σ' H' s') (hs:Gg s.heap.objs.size s'.heap h') :
  Inv X Jn σ H' { s' with heap:=h' }:=by
 have u:Un (frs X.stack) fp H H' s.heap s'.heap:=J.base;have ne:∀ b o,s.heap.get? b=some o->b≠s.heap.objs.size:=fun b o e=>Ez (Eb e);have hfree:H' s.heap.objs.size=none:=J.free;refine I.call' (s':={ s' with heap:=h' }) (ch:=fp) J.os ⟨fun b o e n h1 h2=>(hs.2 b (ne b o e)).trans (u.keep b o e n h1 h2),fun b o e n h1 h2=>?_,u.free,fun b o e h2=>?_,u.tups,u.frzs,u.tbls⟩ (fun a o e=>?_) J.bare fun b hb=>?_
 ·obtain⟨sl,q⟩:=u.slot b o e n h1 h2;exact⟨sl,(hs.2 b (ne b o e)).trans q⟩
 ·obtain⟨o',q⟩:=u.there b o e h2;exact⟨o',(hs.2 b (ne b o e)).trans q⟩
 ·refine (J.hok a o e).stay (fun c v hc q=>(hs.2 c ?_).trans q) (fun _ q=>q) fun _ _ q=>q;intro z;subst z;rcases hc with hc | hc
  ·rw [<-hc] at e;rw [hfree] at e;cases e
  ·rw [hfree] at hc;cases hc
 ·exact⟨(hf b hb).2.2.2.1,(hf b hb).2.1,(hf b hb).2.2.2.2⟩
end
def bI (D:DR) (te:TE):TB:=fun σ H Q=>te σ H fun y H1=>∃ xs,H1 D=some (.lst xs)/\xs.length<Ex/\Q σ (upd H1 D (.lst (xs++[y])))
def ag (wi:TI) (own:Nat) (fr:List Nat) (g:TG) (tt:TT) (tb:DR->TB):TE:=fun σ H Q=>wi σ H fun J H1=>∀ D,H1 D=none ->
 i9 J g tt (tb D) (jZ own fr σ) (upd H1 D (.lst [])) fun _ H2=>Q (.ref D) H2
section
variable {X:Cx} {Jn:List (DR×Obj)} {s:Shared} {σ:St} {H:Hp} {tg elt iter:Expr} {ifs:List Expr} {rest:List Comprehension} {sc scO:Scope} {NO N:List Str} {own:Nat} {fr:List Nat} {wi:TI} {g:TG} {tt:TT} {tb:DR->TB} {pos:Pos}
theorem ke {RR:Value->DR->Result->Shared->Prop} {it:DR} {fp:List DR} {tn:Nat->Heap->Prop} {J:It} {Q:VK} (S:CompScope NO scO N sc own fr) (hN:X.N=NO) (hsc:X.env.scope=scO) (hc:X.calm=true)
  (hg:∀ s₀ H₀ ex pn,PG (zk X sc N s₀ H₀ ex pn) tg g) (ht:∀ s₀ H₀ ex pn,PTs (zk X sc N s₀ H₀ ex pn) ifs tt)
  (hb:∀ D s₀ H₀ ex pn,∃ act,PB (zk X sc N s₀ H₀ ex pn) act (tb D)/\∀ it,compTurn (.ListComp elt (⟨tg,iter,ifs,0⟩ :: rest) sc pos) 0 it (.ref D) (zk X sc N s₀ H₀ ex pn).env=(do
   standAt iter.pos
   match <- pyNext it with
   | none=>pure (.done .next)
   | some v =>
    FF tg it v
    assign tg (zk X sc N s₀ H₀ ex pn).env v
    let mut ok:=true
    for c in ifs do
     if ok then ok <- isTrue c (zk X sc N s₀ H₀ ex pn).env (eval c (zk X sc N s₀ H₀ ex pn).env)
    if ok then
     act
    again (.compLoop (.ListComp elt (⟨tg,iter,ifs,0⟩ :: rest) sc pos) 0 it (.ref D) (zk X sc N s₀ H₀ ex pn).env)))
  (I:Inv X Jn σ H s) (T:Turn X.prog X.w X.K tg J fp it tn) (st:tn 0 s.heap) (f:∀ b∈fp,bG X Jn H b)
  (h:∀ D,H D=none->i9 J g tt (tb D) (jZ own fr σ) (upd H D (.lst [])) fun _ H2=>Q (.ref D) H2)
  (hRR:∀ (D C:DR) (s':Shared) (H':Hp),(∃ m,s'.heap.Ns C m)->C≠X.env.locals->(∀ x c,X.env.cells.lookup x=some c->c≠C)->H' C=none->X.s₀.heap.objs.size<=C->(∀ p∈X.pn++Jn,p.1≠C)->Inv X Jn σ H' s'->Q (.ref D) H'->RR (.ref D) C (.ok .next) s') :
  Ef (model X.prog X.w) X.A (newList []) (fun acc s₃=>Ef (model X.prog X.w) X.A (newFunctionEnv sc X.env.globals (yt X.env sc.names []) [] X.env.qual none .none (some X.env)) (fun cenv s₄ =>
   codeAny (model X.prog X.w) X.A (.compStart (.ListComp elt (⟨tg,iter,ifs,0⟩ :: rest) sc pos) 0 (.ref it) acc { cenv with scope:=relabel sc X.env }) (RR acc cenv.locals) s₄) X.xe s₃) X.xe s:=by
 refine wpAny_newObj_type (kc ?_);have fpsz:∀ b∈fp,b<s.heap.objs.size:=fun b hb=>by
  obtain⟨o,e,_⟩:=T.obj _ _ st b hb;exact Eb e
 have I3:=I.lnew (its:=[]) (ys:=[]) (t':=s.toks) .nil (EE _);have f3:∀ b∈fp,bG X Jn (upd H s.heap.objs.size (.lst [])) b:=fun b hb=>⟨by rw [zN (Ez (fpsz b hb))];exact (f b hb).1,(f b hb).2⟩;have st3:tn 0 (s.heap.push { cls:=.type "list",data:=.seq ([]:List Value).toArray }):=T.keep _ _ _ st fun b _ o e=>D3 _ e;have I4:=tW (tk:=s.toks) S hN hsc I3 f3 (T.obj _ _ st3);obtain⟨act,pb,heq⟩:=hb s.heap.objs.size _ _ _ _;have st4:=T.keep _ _ (pushCells ((s.heap.push { cls:=.type "list",data:=.seq ([]:List Value).toArray }).push { cls:=.type "dict",data:=.dict #[] }) sc.names) st3 fun b _ o e=>pushCells_keeps _ _ _ _ (D3 _ e);have cells_lt:∀ x c,X.env.cells.lookup x=some c->c<s.heap.objs.size:=fun x c e=>by
  obtain⟨v,o,ho,hd⟩:=I.cell x c e;exact Eb ho
 have esz:(s.heap.push { cls:=.type "list",data:=.seq ([]:List Value).toArray }).objs.size=s.heap.objs.size+1:=HH ..;have loop:=ka (X:=zk X sc N { s with heap:=s.heap.push { cls:=.type "list",data:=.seq ([]:List Value).toArray } } (upd H s.heap.objs.size (.lst [])) fp (X.pn++Jn)) (R:=RR (.ref s.heap.objs.size) (s.heap.push { cls:=.type "list",data:=.seq ([]:List Value).toArray }).objs.size) (fun _ _ z=>z) hc (hg _ _ _ _) (ht _ _ _ _) pb heq (fun _=>rfl) (fun _=>rfl) (fun _=>rfl) I4 T st4
  (fun b hb=>⟨(f3 b hb).1,I4.ok.exf b hb |>.1,I4.ok.exfs b hb,.inl hb,I4.ok.exf b hb |>.2,fun p hp=>by
   have hp':p∈X.pn++Jn:=by simpa [zk] using hp
   exact (f b hb).2.2.2.2.2 p hp'⟩) (h _ I.fresh)
  (fun σ' H' s' J' fr' q'=>hRR _ _ s' H' (let⟨m,hm,_⟩:=J'.loc;⟨m,hm⟩) (by rw [esz];exact GF (Fw I.lt)) (fun x c e=>by rw [esz];exact Ez (Fw (cells_lt x c e))) J'.free (by rw [esz];exact Nat.le_succ_of_le I.sz) (fun p hp=>by rw [esz];exact Ez (Fw (Eb (I.pin p hp).1))) (comp_back (h':=s'.heap) I3 f3 J' (Heap.SameBut.refl ..)) q')
 exact codeAny_compStart_list loop (T.self X.A 0 _ _ _ st4 loop)
theorem Inv.touch {C:DR} {h':Heap} (I:Inv X Jn σ H s) (hs:Gg C s.heap h') (hn:H C=none) (h0:C≠X.env.locals) (h1:∀ x c,X.env.cells.lookup x=some c->c≠C) (h2:X.s₀.heap.objs.size<=C) (h3:∀ p∈X.pn++Jn,p.1≠C) :
  Inv X Jn σ H { s with heap:=h' } :=
 I.turned (t':=s.toks) (fun b o hb e=>(hs.2 b hb).trans e) hn h0 (.inr h2) h1 h3
theorem fk {prog:Program} {w:World} {A:Around} {R:Result->Shared->Prop} {s:Shared} {elt':Expr} {g0:Comprehension} {tg' it':Expr} {ifs':List Expr} {sc':Scope} {pos':Pos} {itv acc:Value} {env:Env}
  (here:codeAny (model prog w) A (.compLoop (.ListComp elt' [g0,⟨tg',it',ifs',0⟩] sc' pos') 1 itv acc env) R s)
  (once:Ef (model prog w) A (pyIter itv) (fun j s1=>codeAny (model prog w) A (.compLoop (.ListComp elt' [g0,⟨tg',it',ifs',0⟩] sc' pos') 1 j acc env) R s1) (notedBy (model prog w) A env fun x s1=>R (.error x) s1) s) :
  codeAny (model prog w) A (.compStart (.ListComp elt' [g0,⟨tg',it',ifs',0⟩] sc' pos') 1 itv acc env) R s:=by
 apply codeAny_of_tree;show Ef _ _ ((compStart (.ListComp elt' [g0,⟨tg',it',ifs',0⟩] sc' pos') 1 itv acc env).onRaise (fun z=>do noteFrame z env;standAt theWindowsPlace)) _ _ s;apply wpAny_notedAt;unfold compStart;show Ef _ _ (ask >>= _) _ _ s;apply DQ;apply wpAny_askSetting;apply wpAny_ite;split
 ·first
   | exact DQ (DY (DY (And.intro rfl here)))
   | exact DY (And.intro rfl here)
 ·apply DQ;apply wpAny_rule;show Ef _ _ (standAt it'.pos >>= _) _ _ s;exact DQ (wpAny_standAt (DQ (FE once (fun j s1 q=>DY (And.intro rfl q)) fun _ _ z=>z)))
section
variable {elt2:Expr} {te:TE} {tg2 iter2:Expr} {ifs2:List Expr} {wi2:TI} {g2:TG} {tt2:TT} {tb2:TB} {y:Str} {i:Nat} {py spos:Pos}
def tIn (wi2:TI) (g2:TG) (tt2:TT) (tb2:TB):TB:=fun σ H Q=>wi2 σ H fun J H1=>i9 J g2 tt2 tb2 σ H1 Q
theorem AY {D:DR} (hx:∀ e s,X.xe e s->False) (hc:X.calm=true) (hi:PI X tg2 iter2 wi2) (hg:PG X tg2 g2) (ht:PTs X ifs2 tt2) (he:PE X elt te)
  (hs:∀ x,EM iter2 X.env x=pure x) :
  PB X (do
   let x <- eval iter2 X.env
   standAt iter2.pos
   let x <- EM iter2 X.env x
   let _ <- runOwn (.compStart (.ListComp elt [⟨tg,iter,ifs,0⟩,⟨tg2,iter2,ifs2,0⟩] sc pos) 1 (<- holding [x] (pyIter x)) (.ref D) X.env) X.env) (tIn wi2 g2 tt2 (bI D te)):=by
 intro Jn s σ H Q I h;refine DQ (thn (hi Jn s σ H _ I h) fun v s1 h1=>?_);refine DQ (wpAny_standAt ?_);refine DQ (wpAny_of_eq (hs v) ?_);refine DQ (EF (thn h1 fun itv s2 h2=>?_));obtain⟨it,fp,tn,J,H2,e,I2,T,st2,f2,q⟩:=h2;subst e;refine DQ (wpAny_runOwn ?_);have loop:=ka (e:=.ListComp elt [⟨tg,iter,ifs,0⟩,⟨tg2,iter2,ifs2,0⟩] sc pos) (d:=1) (pos:=iter2.pos)
  (R:=fun r s'=>match r with | .ok f=>Ef (model X.prog X.w) X.A (pure ()) (fun _ s'=>∃ σ' H',Inv X Jn σ' H' s'/\Q σ' H') X.xe s' | .error e=>cameBackBy (model X.prog X.w) X.A X.env X.xe e s')
  hx hc hg ht (gO (D:=D) he) (fun _=>rfl) (fun _=>rfl) (fun _=>rfl) (fun _=>rfl) I2 T st2 f2 q (fun σ' H' s' J' _ q'=>DY ⟨σ',H',J',q'⟩)
 exact fk loop (T.self X.A 0 _ _ _ st2 loop)
theorem nE (S:CompScope NO scO N sc own fr) (hsc:X.env.scope=scO) (ok:X.Ok):closureFor sc X.env=pure (yt X.env sc.names []) :=
 l5 fun x hx=>ok.has x (by
  show X.env.scope.names.lookup x=_ \/ X.env.scope.names.lookup x=_;rw [hsc];exact S.free _ hx rfl)
theorem nF (S:CompScope NO scO N sc own fr) (hc:X.calm=true) (hi:PI X tg iter wi) (hg:∀ s₀ H₀ ex pn,PG (zk X sc N s₀ H₀ ex pn) tg g) (ht:∀ s₀ H₀ ex pn,PTs (zk X sc N s₀ H₀ ex pn) ifs tt)
  (hb:∀ D s₀ H₀ ex pn,∃ act,PB (zk X sc N s₀ H₀ ex pn) act (tb D)/\∀ it,compTurn (.ListComp elt (⟨tg,iter,ifs,0⟩ :: rest) sc pos) 0 it (.ref D) (zk X sc N s₀ H₀ ex pn).env=(do
   standAt iter.pos
   match <- pyNext it with
   | none=>pure (.done .next)
   | some v =>
    FF tg it v
    assign tg (zk X sc N s₀ H₀ ex pn).env v
    let mut ok:=true
    for c in ifs do
     if ok then ok <- isTrue c (zk X sc N s₀ H₀ ex pn).env (eval c (zk X sc N s₀ H₀ ex pn).env)
    if ok then
     act
    again (.compLoop (.ListComp elt (⟨tg,iter,ifs,0⟩ :: rest) sc pos) 0 it (.ref D) (zk X sc N s₀ H₀ ex pn).env)))
  (hN:X.N=NO) (hsc:X.env.scope=scO) (hs:∀ x,EM iter X.env x=pure x) :
  PE X (.ListComp elt (⟨tg,iter,ifs,0⟩ :: rest) sc pos) (ag wi own fr g tt tb):=by
 intro Jn s σ H Q I h;rw [eval_ListComp];refine wpAny_comprehension_free (use:=none) rfl hs (nE S hsc I.ok) S.kind (fun p hp hl=>yz S.snd (k:=.local) (by rw [<-hl];exact hp)) (thn (hi Jn s σ H _ I h) fun v s1 h1=>thn h1 fun itv s2 h2=>?_);obtain⟨it,fp,tn,J,H2,e,I2,T,st2,f2,q⟩:=h2;subst e;refine ke (RR:=fun acc C=>compPost (model X.prog X.w) X.A X.xe none (EP X Jn σ Q) acc C) S hN hsc hc hg ht hb I2 T st2 f2 q ?_;rintro D C s' H' ⟨m,hm⟩ c0 c1 c2 c3 c4 J' q';exact⟨m,hm,fun h' hs'=>⟨.ref D,H',J'.touch hs' c2 c0 c1 c3 c4,rfl,q'⟩⟩
theorem d5 (S:CompScope NO scO N sc own fr) (hc:X.calm=true) (hNd:X.N.Nodup) (hiN:X.N[i]?=some y) (hy:Loc X.env.scope y) (hi:PI X tg iter wi) (hg:∀ s₀ H₀ ex pn,PG (zk X sc N s₀ H₀ ex pn) tg g) (ht:∀ s₀ H₀ ex pn,PTs (zk X sc N s₀ H₀ ex pn) ifs tt)
  (hb:∀ D s₀ H₀ ex pn,∃ act,PB (zk X sc N s₀ H₀ ex pn) act (tb D)/\∀ it,compTurn (.ListComp elt (⟨tg,iter,ifs,0⟩ :: rest) sc pos) 0 it (.ref D) (zk X sc N s₀ H₀ ex pn).env=(do
   standAt iter.pos
   match <- pyNext it with
   | none=>pure (.done .next)
   | some v =>
    FF tg it v
    assign tg (zk X sc N s₀ H₀ ex pn).env v
    let mut ok:=true
    for c in ifs do
     if ok then ok <- isTrue c (zk X sc N s₀ H₀ ex pn).env (eval c (zk X sc N s₀ H₀ ex pn).env)
    if ok then
     act
    again (.compLoop (.ListComp elt (⟨tg,iter,ifs,0⟩ :: rest) sc pos) 0 it (.ref D) (zk X sc N s₀ H₀ ex pn).env)))
  (hN:X.N=NO) (hsc:X.env.scope=scO) (hs:∀ x,EM iter X.env x=pure x) (hf:X.fn y=true \/ X.env.scope.names.lookup y=some .local)
  (hsw:swapsWith (.ListComp elt (⟨tg,iter,ifs,0⟩ :: rest) sc pos) (some (.Name y py)) spos.line X.env=pure true) :
  PS X (.Assign [.Name y py] (.ListComp elt (⟨tg,iter,ifs,0⟩ :: rest) sc pos) spos) (bw (ag wi own fr g tt tb) (jS i)):=by
 intro Jn s σ H D I h;rw [exec_Assign_Name_used _ _ _ _ hsw];refine DQ (wpAny_standAt (DQ ?_));show Ef _ X.A (do let _ <- comprehension (.ListComp elt (⟨tg,iter,ifs,0⟩ :: rest) sc pos) sc X.env _ (newList []) false (eval iter X.env) (some (assign (.Name y py) X.env))) _ _ s;refine DQ (FE (wpAny_comprehension_free (use:=some (assign (.Name y py) X.env)) (Q:=fun _ s'=>SP X Jn D .next s') rfl hs (nE S hsc I.ok) S.kind (fun p hp hl=>yz S.snd (k:=.local) (by rw [<-hl];exact hp))
  (thn (hi Jn s σ H _ I h) fun v s1 h1=>thn h1 fun itv s2 h2=>?_)) (fun _ s' hq=>DY (DY hq)) fun _ _ e=>e)
 obtain⟨it,fp,tn,J,H2,e,I2,T,st2,f2,q⟩:=h2;subst e;refine ke (Q:=fun x H1=>jS i x σ H1 D.nx) (RR:=fun acc C=>compPost (model X.prog X.w) X.A X.xe (some (assign (.Name y py) X.env)) (fun _ s'=>SP X Jn D .next s') acc C) S hN hsc hc hg ht hb I2 T st2 f2 q ?_;rintro A' C s' H' ⟨m,hm⟩ c0 c1 c2 c3 c4 J' q';show Ef _ X.A (assign (.Name y py) X.env (.ref A')) _ _ _;refine wpAny_assign_Name (fB (v:=.ref A') J' hNd hiN hy rfl (fun s2' I2' hsb=>?_) hf);obtain⟨a,hs2,ha⟩:=hsb;have hCa:C≠a:=by
  rcases ha with ha | ha
  ·rw [ha];exact c0
  ·exact EW (c1 _ _ ha)
 exact⟨m,hm.sameBut hs2 hCa,fun h' hs'=>⟨_,H',I2'.touch hs' c2 c0 c1 c3 c4,q'⟩⟩
end
end
section
variable {X:Cx} {tg elt iter tg2 iter2:Expr} {ifs ifs2:List Expr} {sc scO:Scope} {NO N:List Str} {own:Nat} {fr:List Nat} {wi wi2:TI} {g g2:TG} {tt tt2:TT} {te:TE} {pos py spos:Pos} {y:Str} {i:Nat}
theorem yZ (S:CompScope NO scO N sc own fr) (hc:X.calm=true) (hi:PI X tg iter wi) (hg:∀ s₀ H₀ ex pn,PG (zk X sc N s₀ H₀ ex pn) tg g) (ht:∀ s₀ H₀ ex pn,PTs (zk X sc N s₀ H₀ ex pn) ifs tt) (he:∀ s₀ H₀ ex pn,PE (zk X sc N s₀ H₀ ex pn) elt te)
  (hN:X.N=NO) (hsc:X.env.scope=scO) (hs:∀ x,EM iter X.env x=pure x):PE X (.ListComp elt [⟨tg,iter,ifs,0⟩] sc pos) (ag wi own fr g tt fun D=>bI D te) :=
 nF S hc hi hg ht (fun D s₀ H₀ ex pn=>⟨_,gO (D:=D) (he s₀ H₀ ex pn),fun _=>rfl⟩) hN hsc hs
theorem kf (S:CompScope NO scO N sc own fr) (hc:X.calm=true) (hNd:X.N.Nodup) (hiN:X.N[i]?=some y) (hy:Loc X.env.scope y) (hi:PI X tg iter wi) (hg:∀ s₀ H₀ ex pn,PG (zk X sc N s₀ H₀ ex pn) tg g) (ht:∀ s₀ H₀ ex pn,PTs (zk X sc N s₀ H₀ ex pn) ifs tt) (he:∀ s₀ H₀ ex pn,PE (zk X sc N s₀ H₀ ex pn) elt te)
  (hN:X.N=NO) (hsc:X.env.scope=scO) (hs:∀ x,EM iter X.env x=pure x) (hf:X.fn y=true \/ X.env.scope.names.lookup y=some .local)
  (hsw:swapsWith (.ListComp elt [⟨tg,iter,ifs,0⟩] sc pos) (some (.Name y py)) spos.line X.env=pure true) :
  PS X (.Assign [.Name y py] (.ListComp elt [⟨tg,iter,ifs,0⟩] sc pos) spos) (bw (ag wi own fr g tt fun D=>bI D te) (jS i)) :=
 d5 S hc hNd hiN hy hi hg ht (fun D s₀ H₀ ex pn=>⟨_,gO (D:=D) (he s₀ H₀ ex pn),fun _=>rfl⟩) hN hsc hs hf hsw
end
theorem kg {elt tg iter tg2 iter2:Expr} {ifs ifs2:List Expr} {sc:Scope} {pos:Pos} {it acc:Value} {env:Env} :
  compTurn (.ListComp elt [⟨tg,iter,ifs,0⟩,⟨tg2,iter2,ifs2,0⟩] sc pos) 0 it acc env=(do
   standAt iter.pos
   match <- pyNext it with
   | none=>pure (.done .next)
   | some v =>
    FF tg it v
    assign tg env v
    let mut ok:=true
    for c in ifs do
     if ok then ok <- isTrue c env (eval c env)
    if ok then
     (do
      let x <- eval iter2 env
      standAt iter2.pos
      let x <- EM iter2 env x
      let _ <- runOwn (.compStart (.ListComp elt [⟨tg,iter,ifs,0⟩,⟨tg2,iter2,ifs2,0⟩] sc pos) 1 (<- holding [x] (pyIter x)) acc env) env)
    again (.compLoop (.ListComp elt [⟨tg,iter,ifs,0⟩,⟨tg2,iter2,ifs2,0⟩] sc pos) 0 it acc env)):=by
 unfold compTurn;simp only [bind_assoc,pure_bind];rfl
section
variable {X:Cx} {tg elt iter tg2 iter2:Expr} {ifs ifs2:List Expr} {sc scO:Scope} {NO N:List Str} {own:Nat} {fr:List Nat} {wi wi2:TI} {g g2:TG} {tt tt2:TT} {te:TE} {pos py spos:Pos} {y:Str} {i:Nat}
theorem kh (S:CompScope NO scO N sc own fr) (hc:X.calm=true) (hi:PI X tg iter wi) (hg:∀ s₀ H₀ ex pn,PG (zk X sc N s₀ H₀ ex pn) tg g) (ht:∀ s₀ H₀ ex pn,PTs (zk X sc N s₀ H₀ ex pn) ifs tt)
  (hi2:∀ s₀ H₀ ex pn,PI (zk X sc N s₀ H₀ ex pn) tg2 iter2 wi2) (hg2:∀ s₀ H₀ ex pn,PG (zk X sc N s₀ H₀ ex pn) tg2 g2) (ht2:∀ s₀ H₀ ex pn,PTs (zk X sc N s₀ H₀ ex pn) ifs2 tt2)
  (he:∀ s₀ H₀ ex pn,PE (zk X sc N s₀ H₀ ex pn) elt te) (hN:X.N=NO) (hsc:X.env.scope=scO) (hs:∀ x,EM iter X.env x=pure x) (hs2:∀ s₀ H₀ ex pn x,EM iter2 (zk X sc N s₀ H₀ ex pn).env x=pure x) :
  PE X (.ListComp elt [⟨tg,iter,ifs,0⟩,⟨tg2,iter2,ifs2,0⟩] sc pos) (ag wi own fr g tt fun D=>tIn wi2 g2 tt2 (bI D te)) :=
 nF S hc hi hg ht (fun D s₀ H₀ ex pn=>⟨_,AY (D:=D) (fun _ _ z=>z) hc (hi2 s₀ H₀ ex pn) (hg2 s₀ H₀ ex pn) (ht2 s₀ H₀ ex pn) (he s₀ H₀ ex pn) (hs2 s₀ H₀ ex pn),fun it=>kg⟩) hN hsc hs
theorem kl (S:CompScope NO scO N sc own fr) (hc:X.calm=true) (hNd:X.N.Nodup) (hiN:X.N[i]?=some y) (hy:Loc X.env.scope y) (hi:PI X tg iter wi) (hg:∀ s₀ H₀ ex pn,PG (zk X sc N s₀ H₀ ex pn) tg g) (ht:∀ s₀ H₀ ex pn,PTs (zk X sc N s₀ H₀ ex pn) ifs tt)
  (hi2:∀ s₀ H₀ ex pn,PI (zk X sc N s₀ H₀ ex pn) tg2 iter2 wi2) (hg2:∀ s₀ H₀ ex pn,PG (zk X sc N s₀ H₀ ex pn) tg2 g2) (ht2:∀ s₀ H₀ ex pn,PTs (zk X sc N s₀ H₀ ex pn) ifs2 tt2)
  (he:∀ s₀ H₀ ex pn,PE (zk X sc N s₀ H₀ ex pn) elt te) (hN:X.N=NO) (hsc:X.env.scope=scO) (hs:∀ x,EM iter X.env x=pure x) (hs2:∀ s₀ H₀ ex pn x,EM iter2 (zk X sc N s₀ H₀ ex pn).env x=pure x)
  (hf:X.fn y=true \/ X.env.scope.names.lookup y=some .local)
  (hsw:swapsWith (.ListComp elt [⟨tg,iter,ifs,0⟩,⟨tg2,iter2,ifs2,0⟩] sc pos) (some (.Name y py)) spos.line X.env=pure true) :
  PS X (.Assign [.Name y py] (.ListComp elt [⟨tg,iter,ifs,0⟩,⟨tg2,iter2,ifs2,0⟩] sc pos) spos) (bw (ag wi own fr g tt fun D=>tIn wi2 g2 tt2 (bI D te)) (jS i)) :=
 d5 S hc hNd hiN hy hi hg ht (fun D s₀ H₀ ex pn=>⟨_,AY (D:=D) (fun _ _ z=>z) hc (hi2 s₀ H₀ ex pn) (hg2 s₀ H₀ ex pn) (ht2 s₀ H₀ ex pn) (he s₀ H₀ ex pn) (hs2 s₀ H₀ ex pn),fun it=>kg⟩) hN hsc hs hf hsw
end
section
variable {X:Cx} {Jn:List (DR×Obj)} {σ:St} {H:Hp} {s:Shared} {h':Heap} {fp:List DR}
theorem Inv.turnedAll {t':Nat} (I:Inv X Jn σ H s) (hf:∀ b∈fp,bG X Jn H b) (k:∀ b o,b∉fp->s.heap.get? b=some o->h'.get? b=some o):Inv X Jn σ H { s with heap:=h',toks:=t' }:=by
 refine I.step (g':=s.gens) (d':=s.drawn) (ch:=fp) (fun b hb=>⟨(hf b hb).2.2.2.1,(hf b hb).2.1,(hf b hb).2.2.2.2⟩) (fun b o _ _ hc e _=>k b o hc e) (fun b o _ _ hc e _=>⟨o.slots,k b o hc e⟩) (fun _ _ _ _ n=>n)
  (fun b o hc e=>⟨o,k b o hc e⟩) (fun _ _ e=>e) (fun _ _ _ e=>e) (fun _ _ e=>e) (fun m hm=>?_) (fun b u e=>?_) I.bare
 ·obtain⟨o,es,ep,ho,r⟩:=hm;exact⟨o,es,ep,k _ o (fun z=>(hf _ z).2.1 rfl) ho,r⟩
 ·refine (I.hok b u e).stay (fun c v hc q=>k c v (fun z=>?_) q) (fun _ q=>q) fun _ _ q=>q;have hn:=(hf c z).1;rcases hc with hc | hc
  ·subst hc;rw [e] at hn;cases hn
  ·rw [hc] at hn;cases hn
theorem Inv.turnedNew {t':Nat} {t:DR} {o:HO} (I:Inv X Jn σ H s) (hf:∀ b∈fp,bG X Jn H b) (k:∀ b o,b∉fp->s.heap.get? b=some o->h'.get? b=some o) (ht:s.heap.objs.size<=t) (new:ObjOk X.prog X.w (upd H t o) h' t o) :
  Inv X Jn σ (upd H t o) { s with heap:=h',toks:=t' }:=by
 have hn:H t=none:=I.hok.fresh ht;have ne:∀ b ob,s.heap.get? b=some ob->b≠t:=fun b ob e=>Ez (Eh (Eb e) ht);refine I.step (g':=s.gens) (d':=s.drawn) (ch:=fp) (fun b hb=>⟨(hf b hb).2.2.2.1,(hf b hb).2.1,(hf b hb).2.2.2.2⟩) (fun b o _ _ hc e _=>k b o hc e) (fun b o _ _ hc e _=>⟨o.slots,k b o hc e⟩) (fun b ob _ e n=>by rw [zN (ne b ob e)];exact n)
  (fun b o hc e=>⟨o,k b o hc e⟩) (fun b xs e=>by rw [zN (yd e hn)];exact e) (fun b ob u e=>by rw [zN (yd e hn)];exact e) (fun b ps e=>by rw [zN (yd e hn)];exact e) (fun m hm=>?_) (fun b u e=>?_) I.bare
 ·obtain⟨o,es,ep,ho,r⟩:=hm;exact⟨o,es,ep,k _ o (fun z=>(hf _ z).2.1 rfl) ho,r⟩
 ·by_cases hb:b=t
  ·subst hb;rw [zR] at e;cases e;exact new
  ·rw [zN hb] at e;refine (I.hok b u e).stay (fun c v hc q=>k c v (fun z=>?_) q) (fun c q=>by rw [zN (yd q hn)];exact q) fun c xs q=>by rw [zN (yd q hn)];exact q
   have hn':=(hf c z).1;rcases hc with hc | hc
   ·subst hc;rw [e] at hn';cases hn'
   ·rw [hc] at hn';cases hn'
end
noncomputable def Ite (K:DP) (a:DR):It :=
 ⟨fun i H=>∃ xs x,SqL K H a xs/\xs[i]?=some x,fun i H x H'=>∃ t y,x=.ref t/\H t=none/\H'=upd H t (.tup [.int i,y])/\∀ xs,SqL K H a xs->xs[i]?=some y,fun i H=>∃ xs,SqL K H a xs/\xs.length<=i⟩
theorem rq {P:Program} {w:World} {K:DP} {es:List Expr} {k:Nat} {pos:Pos} (a e it:DR) (hne:e≠it):Turn P w K (.Tuple es k pos) (Ite K a) [e,it] e (fun i h=>(∃ old,IsEnum h e it i old)/\h.IsListIter it a i) where
 mem:=by simp
 obj:=fun i h st b hb=>by
  obtain⟨⟨old,se⟩,o,eo,c,d⟩:=st;rcases D0.mp hb with z | z
  ·subst z;exact⟨_,se,fun v z=>by
    have z':Data.fields _=Data.cell v:=z;cases z'⟩
  ·have z:b=it:=by simpa using z
   subst z;exact⟨o,eo,fun v z=>by rw [d] at z;cases z⟩
 keep:=fun i h h' st kk=>⟨let⟨old,se⟩:=st.1;⟨old,kk e (by simp) _ se⟩,st.2.at fun o eo=>kk it (by simp) o eo⟩
 item:=by
  intro X hP hw hK hc i Jn s σ H E I hf st hg;subst hP hw hK;obtain⟨xs,x,hq,hx⟩:=hg;obtain⟨its,rv,p,hz⟩:=I.list hq;obtain⟨u,hu,ru⟩:=rv.get hx;obtain⟨⟨old,se⟩,si⟩:=st;refine wpAny_pyNext_enum_item se si p.isList (x:=u) (by simpa using hu) hne fun h' so si' tp sz kp=>?_;refine⟨_,rfl,?_⟩;refine wpAny_letOwnedTupleGo_enum (s:={ s with heap:=h',toks:=s.toks+1 }) so fun h2 se2 sb=>?_;have hlt:e<s.heap.objs.size:=Eb se;obtain⟨oi,eoi,_,_⟩:=id si;have hlt2:it<s.heap.objs.size:=Eb eoi;have kk:∀ b o,b∉[e,it]->s.heap.get? b=some o->h2.get? b=some o:=fun b o hb eb=>by
   have h1:b≠e:=fun z=>hb (by simp [z]);have h2':b≠it:=fun z=>hb (by simp [z]);exact (sb.2 b h1).trans (kp b o h1 h2' eb)
  have I2:Inv X Jn σ (upd H s.heap.objs.size (.tup [.int i,x])) { s with heap:=h2,toks:=s.toks+1 }:=I.turnedNew hf kk (DU _)
   ⟨by show 2<=Ex;decide,[.int i s.toks,u],.cons ⟨_,rfl⟩ (.cons ru .nil),⟨_,(sb.2 _ (GF hlt)).trans tp,rfl,_,rfl⟩⟩
  refine⟨.ref s.heap.objs.size,_,I2,rfl,⟨_,x,rfl,I.fresh,rfl,fun ys hy=>by rw [I.list_inj hy hq];exact hx⟩,⟨⟨_,se2⟩,?_⟩,fun b hb=>?_⟩
  ·exact si'.at fun o eo=>(sb.2 it (EW hne)).trans eo
  ·rw [zN]
   ·exact (hf b hb).1
   ·rcases D0.mp hb with z | z
    ·subst z;exact Ez hlt
    ·have z:b=it:=by simpa using z
     subst z;exact Ez hlt2
 done:=by
  intro X hP hw hK hc i Jn s σ H E I hf st hg;subst hP hw hK;obtain⟨xs,hq,hx⟩:=hg;obtain⟨its,rv,p,hz⟩:=I.list hq;obtain⟨⟨old,se⟩,si⟩:=st;have hl:=rv.length;exact wpAny_pyNext_enum_end (I.ok.hd hc) se si p.isList (by simp;omega) fun h' eb=>⟨rfl,I.turnedAll (t':=s.toks) hf fun b o hb e'=>eb b o (fun z=>hb (by simp [z])) e'⟩
 self:=fun _ _ _ _ _ st h=>let⟨_,se⟩:=st.1;wpAny_pyIter_enum se h
section
variable {X:Cx} {es:List Expr} {k:Nat} {tpos:Pos}
def nG (K:DP) (ta:TA):TI:=fun σ H R=>ta σ H fun vs H1=>∃ a,vs=[.ref a]/\(∃ xs,SqL K H1 a xs)/\R (Ite K a) H1
theorem xq {a:Expr} {ta:TA} {p pos:Pos} (hg:Gl X "enumerate") (hm:X.mg "enumerate"=none) (ha:PA X [a] ta) (hs:EN [a] X.env=[(false,eval a X.env)]:=by rfl):PI X (.Tuple es k tpos) (.Call (.Name "enumerate" p) [a] [] pos) (nG X.K ta):=by
 intro Jn s σ H R I h;refine Call_ (dP I hg hm boot_enumerate (Gv (thn (ha pos Jn s σ H _ I h) fun us s1 ⟨vs,H1,I1,r1,q1⟩=>?_) hs rfl));obtain⟨l,e,⟨xs,hq⟩,q⟩:=q1;subst e;cases r1 with
 | cons r rr =>
  cases rr;cases r;obtain⟨its,rv,p,hz⟩:=I1.list hq;refine call_enumerate_list p.isList fun h' he hi hsz kp=>?_;refine wpAny_pyIter_enum he ?_;have hne:s1.heap.objs.size+1≠s1.heap.objs.size:=Nat.succ_ne_self _;refine⟨s1.heap.objs.size+1,[s1.heap.objs.size+1,s1.heap.objs.size],_,_,H1,rfl,I1.kept (t':=s1.toks) kp,rq l _ _ hne,⟨⟨_,he⟩,hi⟩,fun b hb=>?_,q⟩;rcases D0.mp hb with z | z
  ·subst z;exact I1.fpOk (Jg _) (I1.hok.fresh (Jg _))
  ·have z:b=s1.heap.objs.size:=by simpa using z
   subst z;exact I1.fpOk (DU _) (I1.hok.fresh (DU _))
end
theorem tX {K:DP} {a:DR} {xs:List V} {g:TG} {tb:TS} {D:Ends} {σ:St} {H:Hp} (Pv:Nat->St->Hp->Prop) (h0:Pv 0 σ H) (hl:∀ i σ H,i<=xs.length->Pv i σ H->SqL K H a xs)
  (hs:∀ i x σ H t,xs[i]?=some x->Pv i σ H->H t=none->g (.ref t) σ (upd H t (.tup [.int i,x])) fun σ2 H2=>tb { D with nx:=Pv (i+1),ct:=Pv (i+1),bk:=D.nx } σ2 H2) (hd:∀ σ H,Pv xs.length σ H->D.nx σ H) :
  ∃ W:Nat->Nat->St->Hp->Prop,(∃ m,W 0 m σ H)/\∀ i m σ H,W i m σ H ->
   ((Ite K a).stop i H/\D.nx σ H) \/ ((Ite K a).go i H/\∃ N:St->Hp->Prop,(∀ σ' H',N σ' H'->∃ m',m'<m/\W (i+1) m' σ' H')/\∀ x H',(Ite K a).yld i H x H'->g x σ H' fun σ2 H2=>tb { D with nx:=N,ct:=N,bk:=D.nx } σ2 H2):=by
 refine⟨fun i m σ H=>Pv i σ H/\i<=xs.length/\m+i=xs.length,⟨xs.length,h0,EE _,rfl⟩,fun i m σ H ⟨p,hi,hm⟩=>?_⟩;have q:=hl i σ H hi p;by_cases hlt:i<xs.length
 ·refine .inr ⟨⟨xs,xs[i],q,DK hlt⟩,Pv (i+1),fun σ' H' n=>⟨m - 1,by omega,n,hlt,by omega⟩,fun x H' hy=>?_⟩;obtain⟨t,y,rfl,ht,rfl,hy⟩:=hy;exact hs i y σ H t (hy xs q) p ht
 ·have e:i=xs.length:=by omega
  subst e;exact .inl ⟨⟨xs,q,DU _⟩,hd σ H p⟩
mutual
def Rep (K:DP) (H:Hp):PyData->V->Prop
 | .none,v=>v=.non
 | .bool b,v=>v=.bl b
 | .int i,v=>v=.int i
 | .str x,v=>v=.str x
 | .list ds,v=>∃ a xs,v=.ref a/\SqL K H a xs/\Reps K H ds xs
 | .tuple ds,v=>∃ a xs,v=.ref a/\SqT K H a xs/\Reps K H ds xs
 | .dict _,_=>False
def Reps (K:DP) (H:Hp):List PyData->List V->Prop
 | [],xs=>xs=[]
 | d :: ds,xs=>∃ x r,xs=x :: r/\Rep K H d x/\Reps K H ds r
end
theorem Same.seqT {K:DP} {H H':Hp} {a:DR} {xs:List V} (e:Same H H') (h:SqT K H a xs):SqT K H' a xs:=by
 rcases h with (h | ⟨o,h⟩) | h
 ·exact .inl (.inl (e _ _ h))
 ·exact .inl (.inr ⟨o,e _ _ h⟩)
 ·exact .inr h
mutual
theorem Rep.mono {K:DP} {H H':Hp} (e:Same H H'):∀ (d:PyData) (v:V),Rep K H d v->Rep K H' d v
 | .none,_,h=>by rw [Rep] at h ⊢;exact h
 | .bool _,_,h=>by rw [Rep] at h ⊢;exact h
 | .int _,_,h=>by rw [Rep] at h ⊢;exact h
 | .str _,_,h=>by rw [Rep] at h ⊢;exact h
 | .list ds,v,h=>by
  rw [Rep] at h ⊢;obtain⟨a,xs,h1,h2,h3⟩:=h;exact⟨a,xs,h1,e.seq h2,Reps.mono e ds xs h3⟩
 | .tuple ds,v,h=>by
  rw [Rep] at h ⊢;obtain⟨a,xs,h1,h2,h3⟩:=h;exact⟨a,xs,h1,e.seqT h2,Reps.mono e ds xs h3⟩
 | .dict _,_,h=>by rw [Rep] at h;exact h.elim
theorem Reps.mono {K:DP} {H H':Hp} (e:Same H H'):∀ (ds:List PyData) (xs:List V),Reps K H ds xs->Reps K H' ds xs
 | [],_,h=>by rw [Reps] at h ⊢;exact h
 | d :: ds,xs,h=>by
  rw [Reps] at h ⊢;obtain⟨x,r,h1,h2,h3⟩:=h;exact⟨x,r,h1,Rep.mono e d x h2,Reps.mono e ds r h3⟩
end
theorem zx {K:DP} {H:Hp} {i:Int} {v:V}:Rep K H (.int i) v↔v=.int i:=by rw [Rep]
theorem zZ {K:DP} {H:Hp} {b:Bool} {v:V}:Rep K H (.bool b) v↔v=.bl b:=by rw [Rep]
theorem vo {K:DP} {H:Hp} {v:V}:Rep K H .none v↔v=.non:=by rw [Rep]
theorem dq {K:DP} {H:Hp} {x:Str} {v:V}:Rep K H (.str x) v↔v=.str x:=by rw [Rep]
theorem zO {K:DP} {H:Hp} {ds:List PyData} {v:V}:Rep K H (.list ds) v↔∃ a xs,v=.ref a/\SqL K H a xs/\Reps K H ds xs:=by rw [Rep]
theorem zX {K:DP} {H:Hp} {ds:List PyData} {v:V}:Rep K H (.tuple ds) v↔∃ a xs,v=.ref a/\SqT K H a xs/\Reps K H ds xs:=by rw [Rep]
theorem zV {K:DP} {H:Hp} {xs:List V}:Reps K H [] xs↔xs=[]:=by rw [Reps]
theorem zG {K:DP} {H:Hp} {d:PyData} {ds:List PyData} {xs:List V}:Reps K H (d :: ds) xs↔∃ x r,xs=x :: r/\Rep K H d x/\Reps K H ds r:=by rw [Reps]
theorem Reps.nil' {K:DP} {H:Hp}:Reps K H [] []:=zV.mpr rfl
theorem Reps.cons' {K:DP} {H:Hp} {d:PyData} {ds:List PyData} {x:V} {r:List V} (h:Rep K H d x) (t:Reps K H ds r):Reps K H (d :: ds) (x :: r):=zG.mpr ⟨x,r,rfl,h,t⟩
theorem Reps.length {K:DP} {H:Hp}:∀ {ds:List PyData} {xs:List V},Reps K H ds xs->xs.length=ds.length
 | [],xs,h=>by rw [zV.mp h];rfl
 | d :: ds,xs,h=>by
  obtain⟨x,r,rfl,_,h3⟩:=zG.mp h;rw [Ea,Ea,Reps.length h3]
theorem Reps.get {K:DP} {H:Hp}:∀ {ds:List PyData} {xs:List V} {i:Nat} {d:PyData},Reps K H ds xs->ds[i]?=some d->∃ x,xs[i]?=some x/\Rep K H d x
 | [],_,_,_,_,e=>by simp at e
 | d :: ds,xs,0,d',h,e=>by
  obtain⟨x,r,rfl,h2,_⟩:=zG.mp h;simp at e;subst e;exact⟨x,rfl,h2⟩
 | d :: ds,xs,i+1,d',h,e=>by
  obtain⟨x,r,rfl,_,h3⟩:=zG.mp h;obtain⟨y,h1,h2⟩:=Reps.get (i:=i) h3 (by simpa using e);exact⟨y,by simpa using h1,h2⟩
theorem Reps.snoc {K:DP} {H:Hp} {d:PyData} {x:V} (h:Rep K H d x):∀ {ds:List PyData} {xs:List V},Reps K H ds xs->Reps K H (ds++[d]) (xs++[x])
 | [],xs,t=>by rw [zV.mp t];exact .cons' h .nil'
 | d' :: ds,xs,t=>by
  obtain⟨y,r,rfl,h2,h3⟩:=zG.mp t;exact .cons' h2 (Reps.snoc h h3)
theorem Reps.append {K:DP} {H:Hp}:∀ {ds es:List PyData} {xs ys:List V},Reps K H ds xs->Reps K H es ys->Reps K H (ds++es) (xs++ys)
 | [],es,xs,ys,t,u=>by rw [zV.mp t];exact u
 | d' :: ds,es,xs,ys,t,u=>by
  obtain⟨y,r,rfl,h2,h3⟩:=zG.mp t;exact .cons' h2 (Reps.append h3 u)
theorem Reps.ints {K:DP} {H:Hp}:∀ {ns:List Int} {xs:List V},Reps K H (ns.map .int) xs->xs=ns.map V.int
 | [],xs,h=>zV.mp h
 | n :: ns,xs,h=>by
  obtain⟨x,r,rfl,h2,h3⟩:=zG.mp h;rw [zx.mp h2,Reps.ints h3];rfl
theorem Reps.ints' {K:DP} {H:Hp}:∀ (ns:List Int),Reps K H (ns.map .int) (ns.map V.int)
 | []=>.nil'
 | n :: ns=>.cons' (zx.mpr rfl) (Reps.ints' ns)
section
variable {X:Cx} {Jn:List (DR×Obj)} {σ:St} {H:Hp} {s:Shared}
mutual
theorem jz (I:Inv X Jn σ H s):∀ (d:PyData) (v:V) (u:Value),Rep X.K H d v->RelV v u->∃ as,Reads s.heap u d as
 | .none,v,u,h,r=>by rw [vo.mp h] at r;cases r;exact⟨_,.none⟩
 | .bool b,v,u,h,r=>by rw [zZ.mp h] at r;cases r;exact⟨_,.bool b⟩
 | .int i,v,u,h,r=>by rw [zx.mp h] at r;obtain⟨t,rfl⟩:=r;exact⟨_,.int i t⟩
 | .str x,v,u,h,r=>by rw [dq.mp h] at r;obtain⟨t,rfl⟩:=r;exact⟨_,.str x t⟩
 | .list ds,v,u,h,r=>by
  obtain⟨a,xs,rfl,h2,h3⟩:=zO.mp h;cases r;obtain⟨its,rv,p,_⟩:=I.list h2;obtain⟨o,ho,hc,n,hd⟩:=p.isList;obtain⟨as,ra⟩:=qO I ds xs its h3 rv;exact⟨_,.list ho hc hd (by simpa using ra)⟩
 | .tuple ds,v,u,h,r=>by
  obtain⟨a,xs,rfl,h2,h3⟩:=zX.mp h;cases r;obtain⟨its,rv,p,_⟩:=I.tuple h2;obtain⟨o,ho,hc,n,hd⟩:=p;obtain⟨as,ra⟩:=qO I ds xs its h3 rv;exact⟨_,.tuple ho hc hd (by simpa using ra)⟩
 | .dict _,_,_,h,_=>by rw [Rep] at h;exact h.elim
theorem qO (I:Inv X Jn σ H s):∀ (ds:List PyData) (xs:List V) (us:List Value),Reps X.K H ds xs->Vals xs us->∃ as,ReadsAll s.heap us ds as
 | [],xs,us,h,r=>by rw [zV.mp h] at r;cases r;exact⟨_,.nil⟩
 | d :: ds,xs,us,h,r=>by
  obtain⟨x,q,rfl,h2,h3⟩:=zG.mp h;cases r with
  | cons r1 r2 =>
   obtain⟨as,ra⟩:=jz I d x _ h2 r1;obtain⟨bs,rb⟩:=qO I ds q _ h3 r2;exact⟨_,.cons ra rb⟩
end
def fm (K:DP) (neg:Bool):R2:=fun x y H Q=>∃ d d',Rep K H d x/\Rep K H d' y/\d.canLay0=true/\d'.canLay0=true/\min d.depth d'.depth<=60/\Q (.bl (if neg then !Ei d d' else Ei d d')) H
theorem BE (hu:X.A.units+64<Fh):OpR X (EU .Eq) (fm X.K false):=by
 intro Jn s σ H x y v u Q I rx ry h;obtain⟨d,d',h1,h2,c1,c2,hm,q⟩:=h;obtain⟨as,ra⟩:=jz I d x v h1 rx;obtain⟨bs,rb⟩:=jz I d' y u h2 ry;exact SeqAt.compareEq_reads ra rb c1 c2 (by omega) ⟨.bl (Ei d d'),H,I,rfl,q⟩
theorem BF (hu:X.A.units+64<Fh):OpR X (EU .NotEq) (fm X.K true):=by
 intro Jn s σ H x y v u Q I rx ry h;obtain⟨d,d',h1,h2,c1,c2,hm,q⟩:=h;obtain⟨as,ra⟩:=jz I d x v h1 rx;obtain⟨bs,rb⟩:=jz I d' y u h2 ry;exact SeqAt.compareNe_reads ra rb c1 c2 (by omega) ⟨.bl (!Ei d d'),H,I,rfl,q⟩
theorem rA (hc:X.calm=true):yY X (.builtin "min") (fun xs H Q=>∃ a ns,xs=[.ref a]/\SqL X.K H a (ns.map V.int)/\ns≠[]/\∀ M,M∈ns->(∀ b∈ns,M<=b)->Q (.int M) H):=by
 intro Jn s σ H xs us Q I r h;obtain⟨a,ns,rfl,hq,hne,q⟩:=h;obtain⟨u,rfl,r1⟩:=vals1 r;cases r1;obtain⟨its,rv,p,_⟩:=I.list hq;obtain⟨m,F⟩:=I.fr;have hi:=intsAre_of rv;obtain⟨ys,e⟩:=hi.allInts.items;have hns:ns=ys.toList.map (·.1):=by rw [<-hi.numsOf,<- nums_intItems,<- e]
 have hsz:0<ys.size:=by
  have h3:0<ns.length:=IU.mpr hne;rw [hns,DM,D8] at h3;exact h3
 have hl:=p.isList;rw [e] at hl;refine min_intList (I.ok.hd hc) hl hsz fun v h' tk hv hk=>?_;obtain⟨t,rfl⟩:=intItems_at hv;obtain⟨_,h2⟩:=argBest_lt (numAt ys) (ys.size - 1);refine⟨.int _,H,I.kept (t':=tk) hk,⟨t,rfl⟩,q _ ?_ fun b hb=>?_⟩
 ·rw [hns,numAt_eq];exact getD_mem (by rw [DM,D8];omega)
 ·rw [hns] at hb;obtain⟨j,hj,rfl⟩:=mem_getD hb;rw [DM,D8] at hj;rw [<-numAt_eq];exact h2 j (by omega)
theorem rB (hc:X.calm=true):yY X (.builtin "max") (fun xs H Q=>∃ a ns,xs=[.ref a]/\SqL X.K H a (ns.map V.int)/\ns≠[]/\∀ M,M∈ns->(∀ b∈ns,b<=M)->Q (.int M) H):=by
 intro Jn s σ H xs us Q I r h;obtain⟨a,ns,rfl,hq,hne,q⟩:=h;obtain⟨u,rfl,r1⟩:=vals1 r;cases r1;obtain⟨its,rv,p,_⟩:=I.list hq;have hi:=intsAre_of rv;obtain⟨ys,e⟩:=hi.allInts.items;have hns:ns=ys.toList.map (·.1):=by rw [<-hi.numsOf,<- nums_intItems,<- e]
 have hsz:0<ys.size:=by
  have h3:0<ns.length:=IU.mpr hne;rw [hns,DM,D8] at h3;exact h3
 have hl:=p.isList;rw [e] at hl;refine max_intList (I.ok.hd hc) hl hsz fun v h' tk hv hk=>?_;obtain⟨t,rfl⟩:=intItems_at hv;obtain⟨_,h2⟩:=argBest_gt (numAt ys) (ys.size - 1);refine⟨.int _,H,I.kept (t':=tk) hk,⟨t,rfl⟩,q _ ?_ fun b hb=>?_⟩
 ·rw [hns,numAt_eq];exact getD_mem (by rw [DM,D8];omega)
 ·rw [hns] at hb;obtain⟨j,hj,rfl⟩:=mem_getD hb;rw [DM,D8] at hj;rw [<-numAt_eq];exact h2 j (by omega)
end
inductive DV where
 | dat (d:PyData)
 | feed
 | own (k:Nat)
 | exc (C:Value)
 | mon (φ:Hp->V->Prop)
abbrev zw:=List (Option DV)
structure Fx where
 f:Option DR
 M:List DR
noncomputable def hide (H:Hp) (f:Fx):Hp:=fun b=>if f.f=some b \/ b∈f.M then none else H b
structure FOk (f:Fx) (H:Hp):Prop where
 fd:∀ p,f.f=some p->∃ a b:Int,H p=some (.lst [.int a,.int b])/\0<=a/\0<=b/\b<2147483647
 mm:∀ b∈f.M,∃ o,H b=some o
 nm:∀ p,f.f=some p->p∉f.M
def RepV (K:DP) (f:Fx) (H:Hp):DV->V->Prop
 | .dat d,v=>Rep K (hide H f) d v
 | .feed,v=>∃ p,f.f=some p/\v=.ref p
 | .own k,v=>∃ p,f.M.reverse[k]?=some p/\v=.ref p
 | .exc C,v=>∃ a,v=.ref a/\hide H f a=some (.ext fun h=>∃ o,h.get? a=some o/\o.cls=C)
 | .mon φ,v=>∀ H',Same (hide H f) H'->φ H' v
structure Goes (f:Fx) (H H':Hp):Prop where
 sm:Same (hide H f) (hide H' f)
 ok:FOk f H'
 kp:∀ b∈f.M,H' b=H b
structure EnvOk (K:DP) (f:Fx) (ρ:zw) (σ:St) (H:Hp):Prop where
 len:ρ.length=σ.length
 get:∀ (i:Nat) x,ρ[i]?=some (some x)->∃ v,σ[i]?=some (some v)/\RepV K f H x v
 fd:FOk f H
theorem jq (H:Hp):hide H ⟨none,[]⟩=H:=by funext b;unfold hide;rw [Jo (by rintro (h | h) <;> cases h)]
theorem zt (H:Hp) (f:Fx):Same (hide H f) H:=fun b o h=>by
 unfold hide at h;split at h
 ·cases h
 ·exact h
theorem zY {H:Hp} {f:Fx} {b:DR} {o:HO} (h:hide H f b=some o):¬ (f.f=some b \/ b∈f.M)/\H b=some o:=by
 unfold hide at h;split at h
 ·cases h
 ·rename_i n;exact⟨n,h⟩
theorem zM {H:Hp} {f:Fx} {b:DR} {o:HO} (n:¬ (f.f=some b \/ b∈f.M)) (h:H b=some o):hide H f b=some o:=by unfold hide;rw [Jo n];exact h
theorem Goes.refl {f:Fx} {H:Hp} (h:FOk f H):Goes f H H:=⟨Same.refl _,h,fun _ _=>rfl⟩
theorem Goes.trans {f:Fx} {H H1 H2:Hp} (a:Goes f H H1) (b:Goes f H1 H2):Goes f H H2:=⟨a.1.trans b.1,b.2,fun x hx=>(b.kp x hx).trans (a.kp x hx)⟩
theorem Goes.of_same {f:Fx} {H H':Hp} (s:Same H H') (h:FOk f H):Goes f H H' :=
 ⟨fun b o e=>zM (zY e).1 (s b o (zY e).2),⟨fun p e=>let⟨a,b,h1,h2⟩:=h.fd p e;⟨a,b,s _ _ h1,h2⟩,fun b hb=>let⟨o,e⟩:=h.mm b hb;⟨o,s _ _ e⟩,h.nm⟩,fun b hb=>let⟨o,e⟩:=h.mm b hb;(s _ _ e).trans e.symm⟩
theorem yD {H:Hp} {p:DR} (h:H p=none) (o:HO):Same H (upd H p o):=fun b u q=>by rw [zN (yd q h)];exact q
theorem RepV.mono {K:DP} {f:Fx} {H H':Hp} (g:Goes f H H'):∀ {x:DV} {v:V},RepV K f H x v->RepV K f H' x v
 | .dat d,v,h=>Rep.mono g.1 d v h
 | .feed,v,h=>h
 | .own _,v,h=>h
 | .exc _,v,h=>let⟨a,e,q⟩:=h;⟨a,e,g.1 _ _ q⟩
 | .mon _,v,h=>fun H' s=>h H' (g.1.trans s)
theorem EnvOk.mono {K:DP} {f:Fx} {ρ:zw} {σ:St} {H H':Hp} (e:EnvOk K f ρ σ H) (g:Goes f H H'):EnvOk K f ρ σ H' :=
 ⟨e.len,fun i x h=>let⟨v,h1,h2⟩:=e.get i x h;⟨v,h1,h2.mono g⟩,g.2⟩
theorem EnvOk.set {K:DP} {f:Fx} {ρ:zw} {σ:St} {H:Hp} {x:DV} {v:V} (e:EnvOk K f ρ σ H) (i:Nat) (r:RepV K f H x v):EnvOk K f (ρ.set i (some x)) (σ.set i (some v)) H:=by
 refine⟨by rw [Gr,Gr];exact e.len,fun j y h=>?_,e.fd⟩;by_cases hj:i=j
 ·subst hj;by_cases hi:i<ρ.length
  ·rw [Fi hi] at h;cases h;exact⟨v,by rw [Fi (by rw [<-e.len];exact hi)],r⟩
  ·rw [En (by rw [Gr];omega)] at h;cases h
 ·rw [FY hj] at h ⊢;exact e.get j y h
theorem fresh_ne {f:Fx} {H:Hp} {p:DR} (h:FOk f H) (n:H p=none):¬ (f.f=some p \/ p∈f.M):=fun e=>by
 rcases e with e | e
 ·obtain⟨a,b,h1,_⟩:=h.fd p e;rw [n] at h1;cases h1
 ·obtain⟨o,h1⟩:=h.mm p e;rw [n] at h1;cases h1
inductive RepVs (K:DP) (f:Fx) (H:Hp):List DV->List V->Prop where
 | nil:RepVs K f H [] []
 | cons {x v xs vs}:RepV K f H x v->RepVs K f H xs vs->RepVs K f H (x :: xs) (v :: vs)
theorem RepVs.mono {K:DP} {f:Fx} {H H':Hp} (g:Goes f H H'):∀ {xs:List DV} {vs:List V},RepVs K f H xs vs->RepVs K f H' xs vs
 | _,_,.nil=>.nil
 | _,_,.cons r t=>.cons (r.mono g) (t.mono g)
theorem RepVs.length {K:DP} {f:Fx} {H:Hp}:∀ {xs:List DV} {vs:List V},RepVs K f H xs vs->vs.length=xs.length
 | _,_,.nil=>rfl
 | _,_,.cons _ t=>by rw [Ea,Ea,t.length]
section
variable (K:DP) (f:Fx)
def PEd (te:TE) (ρ:zw) (P:PyData->Prop):Prop:=∀ (σ:St) (H:Hp) (Q:VK),EnvOk K f ρ σ H->(∀ d v H',Goes f H H'->Rep K (hide H' f) d v->P d->Q v H')->te σ H Q
def PTd (tt:TT) (ρ:zw) (P:Bool->Prop):Prop:=∀ (σ:St) (H:Hp) (Q:Bool->Hp->Prop),EnvOk K f ρ σ H->(∀ b H',Goes f H H'->P b->Q b H')->tt σ H Q
def PAd (ta:TA) (ρ:zw) (P:List DV->Prop):Prop:=∀ (σ:St) (H:Hp) (Q:List V->Hp->Prop),EnvOk K f ρ σ H->(∀ xs vs H',Goes f H H'->RepVs K f H' xs vs->P xs->Q vs H')->ta σ H Q
structure DEnds where
 nx:zw->Prop
 rt:PyData->Prop
 bk:zw->Prop:=fun _=>False
 ct:zw->Prop:=fun _=>False
def PSd (ts:TS) (ρ:zw) (D:DEnds):Prop:=∀ (σ:St) (H:Hp) (E:Ends),EnvOk K f ρ σ H->(∀ ρ' σ' H',Goes f H H'->EnvOk K f ρ' σ' H'->D.nx ρ'->E.nx σ' H')->(∀ d v H',Goes f H H'->Rep K (hide H' f) d v->D.rt d->E.rt v H') ->
 (∀ ρ' σ' H',Goes f H H'->EnvOk K f ρ' σ' H'->D.bk ρ'->E.bk σ' H')->(∀ ρ' σ' H',Goes f H H'->EnvOk K f ρ' σ' H'->D.ct ρ'->E.ct σ' H')->ts E σ H
def spD {γ:Type} (n:Nat) (pre:γ->List DV->Prop) (post:γ->PyData->Prop):Sp:=fun vs H Q _=>∃ f xs c,RepVs K f H xs vs/\xs.length=n/\FOk f H/\pre c xs/\∀ r v H',Goes f H H'->Rep K (hide H' f) r v->post c r->Q v H'
end
section
variable {K:DP} {f:Fx} {ρ:zw} {P:PyData->Prop} {te ta tb tc:TE}
theorem zC {i:Nat} {d:PyData} (h:ρ[i]?=some (some (.dat d))) (p:P d):PEd K f (z6 i) ρ P:=fun σ H Q e q=>by
 obtain⟨v,h1,h2⟩:=e.get i _ h;exact⟨v,h1,q d v H (.refl e.fd) h2 p⟩
theorem qD {i:Int} (p:P (.int i)):PEd K f (tC (.int i)) ρ P:=fun σ H Q e q=>q (.int i) _ H (.refl e.fd) (zx.mpr rfl) p
theorem DB {i:Bool} (p:P (.bool i)):PEd K f (tC (.bl i)) ρ P:=fun σ H Q e q=>q (.bool i) _ H (.refl e.fd) (zZ.mpr rfl) p
theorem CV {i:Str} (p:P (.str i)):PEd K f (tC (.str i)) ρ P:=fun σ H Q e q=>q (.str i) _ H (.refl e.fd) (dq.mpr rfl) p
theorem CW (p:P .none):PEd K f (tC .non) ρ P:=fun σ H Q e q=>q .none _ H (.refl e.fd) (vo.mpr rfl) p
theorem PEd.imp {P':PyData->Prop} (h:PEd K f te ρ P) (i:∀ d,P d->P' d):PEd K f te ρ P':=fun σ H Q e q=>h σ H Q e fun d v H' g r p=>q d v H' g r (i d p)
theorem rC {r:R2} (h:PEd K f ta ρ fun x=>PEd K f tb ρ fun y=>∀ (v w:V) (H:Hp) (Q:VK),FOk f H->Rep K (hide H f) x v->Rep K (hide H f) y w->(∀ d u H',Goes f H H'->Rep K (hide H' f) d u->P d->Q u H')->r v w H Q):PEd K f (tOp r ta tb) ρ P:=fun σ H Q e q =>
 h σ H _ e fun x v H1 g1 r1 p1=>p1 σ H1 _ (e.mono g1) fun y w H2 g2 r2 p2=>p2 v w H2 Q g2.2 (Rep.mono g2.1 x v r1) r2 fun d u H' g' r' p'=>q d u H' (g1.trans (g2.trans g')) r' p'
theorem DC {r:V->Hp->VK->Prop} (h:PEd K f ta ρ fun x=>∀ (v:V) (H:Hp) (Q:VK),FOk f H->Rep K (hide H f) x v->(∀ d u H',Goes f H H'->Rep K (hide H' f) d u->P d->Q u H')->r v H Q):PEd K f (tUn r ta) ρ P:=fun σ H Q e q =>
 h σ H _ e fun x v H1 g1 r1 p1=>p1 v H1 Q g1.2 r1 fun d u H' g' r' p'=>q d u H' (g1.trans g') r' p'
theorem cS {g:Int->Int->Int} (h:PEd K f ta ρ fun x=>∃ i,x=.int i/\PEd K f tb ρ fun y=>∃ j,y=.int j/\P (.int (g i j))):PEd K f (tOp (rI0 fun i j=>.int (g i j)) ta tb) ρ P :=
 rC (h.imp fun x ⟨i,ex,h2⟩=>h2.imp fun y ⟨j,ey,p⟩ v w H Q fo rx ry q=>by
  subst ex ey;exact⟨i,j,zx.mp rx,zx.mp ry,q _ _ H (.refl fo) (zx.mpr rfl) p⟩)
theorem jm {C:Int->Int->Prop} {g:Int->Int->Int} (h:PEd K f ta ρ fun x=>∃ i,x=.int i/\PEd K f tb ρ fun y=>∃ j,y=.int j/\C i j/\P (.int (g i j))):PEd K f (tOp (rI C fun i j=>.int (g i j)) ta tb) ρ P :=
 rC (h.imp fun x ⟨i,ex,h2⟩=>h2.imp fun y ⟨j,ey,c,p⟩ v w H Q fo rx ry q=>by
  subst ex ey;exact⟨i,j,zx.mp rx,zx.mp ry,c,q _ _ H (.refl fo) (zx.mpr rfl) p⟩)
theorem km {g:Int->Int->Bool} (h:PEd K f ta ρ fun x=>∃ i,x=.int i/\PEd K f tb ρ fun y=>∃ j,y=.int j/\P (.bool (g i j))):PEd K f (tOp (rI0 fun i j=>.bl (g i j)) ta tb) ρ P :=
 rC (h.imp fun x ⟨i,ex,h2⟩=>h2.imp fun y ⟨j,ey,p⟩ v w H Q fo rx ry q=>by
  subst ex ey;exact⟨i,j,zx.mp rx,zx.mp ry,q _ _ H (.refl fo) (zZ.mpr rfl) p⟩)
theorem d6 {neg:Bool} (h:PEd K f ta ρ fun x=>PEd K f tb ρ fun y=>x.canLay0=true/\y.canLay0=true/\min x.depth y.depth<=60/\P (.bool (if neg then !Ei x y else Ei x y))):PEd K f (tOp (fm K neg) ta tb) ρ P :=
 rC (h.imp fun x h2=>h2.imp fun y ⟨c1,c2,c3,p⟩ v w H Q fo rx ry q =>
  ⟨x,y,Rep.mono (zt _ _) x v rx,Rep.mono (zt _ _) y w ry,c1,c2,c3,q _ _ H (.refl fo) (zZ.mpr rfl) p⟩)
theorem tY (h:PEd K f ta ρ fun x=>∃ ds,x=.list ds/\PEd K f tb ρ fun y=>∃ k,y=.int k/\∃ d,atI ds k=some d/\P d):PEd K f (tOp (rj K) ta tb) ρ P :=
 rC (h.imp fun x ⟨ds,ex,h2⟩=>h2.imp fun y ⟨k,ey,d,a,p⟩ v w H Q fo rx ry q=>by
  subst ex ey;obtain⟨l,xs,rfl,hs,hr⟩:=zO.mp rx;unfold atI at a;cases hi:ixN ds.length k with
  | none=>rw [hi] at a;cases a
  | some j =>
   rw [hi] at a;obtain⟨u,hu,ru⟩:=hr.get a;exact⟨l,xs,k,u,rfl,zx.mp ry,(zt H f).seq hs,by unfold atI;rw [hr.length,hi];exact hu,q d u H (.refl fo) ru p⟩)
theorem AZ (h:PEd K f ta ρ fun x=>∃ ds,x=.tuple ds/\PEd K f tb ρ fun y=>∃ k,y=.int k/\∃ d,atI ds k=some d/\P d):PEd K f (tOp (df K) ta tb) ρ P :=
 rC (h.imp fun x ⟨ds,ex,h2⟩=>h2.imp fun y ⟨k,ey,d,a,p⟩ v w H Q fo rx ry q=>by
  subst ex ey;obtain⟨l,xs,rfl,hs,hr⟩:=zX.mp rx;unfold atI at a;cases hi:ixN ds.length k with
  | none=>rw [hi] at a;cases a
  | some j =>
   rw [hi] at a;obtain⟨u,hu,ru⟩:=hr.get a;exact⟨l,xs,k,u,rfl,zx.mp ry,(zt H f).seqT hs,by unfold atI;rw [hr.length,hi];exact hu,q d u H (.refl fo) ru p⟩)
theorem CY {i:Nat} (hi:ρ[i]?=some (some .feed)) (h:PEd K f tb ρ fun y=>(y=.int 0/\∀ a:Int,0<=a->P (.int a)) \/ (y=.int 1/\∀ b:Int,0<=b->b<2147483647->P (.int b))):PEd K f (tOp (rj K) (z6 i) tb) ρ P:=fun σ H Q e q=>by
 obtain⟨v,h1,p,ef,ev⟩:=e.get i _ hi;refine⟨v,h1,h σ H _ e fun y w H' g r c=>?_⟩;obtain⟨a,b,hf,c1,c2,c3⟩:=g.2.fd p ef;rcases c with⟨rfl,c⟩ | ⟨rfl,c⟩
 ·exact⟨p,_,0,.int a,ev,zx.mp r,SqL.of hf,rfl,q (.int a) _ H' g (zx.mpr rfl) (c a c1)⟩
 ·exact⟨p,_,1,.int b,ev,zx.mp r,SqL.of hf,rfl,q (.int b) _ H' g (zx.mpr rfl) (c b c2 c3)⟩
theorem jb {R:List DV->Prop} (p:R []):PAd K f jT ρ R:=fun σ H Q e q=>q [] [] H (.refl e.fd) .nil p
theorem zP {R:List DV->Prop} {u:TA} (h:PEd K f te ρ fun x=>PAd K f u ρ fun xs=>R (.dat x :: xs)):PAd K f (zT te u) ρ R:=fun σ H Q e q =>
 h σ H _ e fun x v H1 g1 r1 p1=>p1 σ H1 _ (e.mono g1) fun xs vs H2 g2 r2 p2=>q (.dat x :: xs) (v :: vs) H2 (g1.trans g2) (.cons (RepV.mono (x:=.dat x) g2 r1) r2) p2
theorem d7 {R:List DV->Prop} {u:TA} {i:Nat} (hi:ρ[i]?=some (some .feed)) (h:PAd K f u ρ fun xs=>R (.feed :: xs)):PAd K f (zT (z6 i) u) ρ R:=fun σ H Q e q=>by
 obtain⟨v,h1,h2⟩:=e.get i _ hi;exact⟨v,h1,h σ H _ e fun xs vs H2 g2 r2 p2=>q (.feed :: xs) (v :: vs) H2 g2 (.cons (RepV.mono (x:=.feed) g2 h2) r2) p2⟩
noncomputable def vH:List DV->Option (List PyData)
 | []=>some []
 | .dat d :: r=>(vH r).map (d :: ·)
 | .feed :: _=>none
 | .own _ :: _=>none
 | .exc _ :: _=>none
 | .mon _ :: _=>none
theorem aL {H:Hp}:∀ {xs:List DV} {vs:List V} {ds:List PyData},RepVs K f H xs vs->vH xs=some ds->Reps K (hide H f) ds vs
 | _,_,ds,.nil,e=>by cases e;exact .nil'
 | .dat d :: xs,v :: vs,ds,.cons r t,e=>by
  unfold vH at e;cases q:vH xs with
  | none=>rw [q] at e;cases e
  | some es=>rw [q] at e;cases e;exact .cons' r (aL t q)
 | .feed :: xs,_,ds,.cons r t,e=>by cases e
 | .own _ :: xs,_,ds,.cons r t,e=>by cases e
 | .exc _ :: xs,_,ds,.cons r t,e=>by cases e
 | .mon _ :: xs,_,ds,.cons r t,e=>by cases e
theorem CZ {t:TA} (h:PAd K f t ρ fun xs=>∃ ds,vH xs=some ds/\ds.length<=1000/\P (.list ds)):PEd K f (tT t) ρ P:=fun σ H Q e q =>
 h σ H _ e fun xs vs H1 g1 r1 ⟨ds,ea,hl,p⟩=>by
  have rs:=aL r1 ea;refine⟨by rw [rs.length];exact Fd (yy hl),fun l hn=>?_⟩;have sm:=yD hn (.lst vs);have g2:Goes f H1 (upd H1 l (.lst vs)):=.of_same sm g1.2;exact q (.list ds) _ _ (g1.trans g2) (zO.mpr ⟨l,vs,rfl,.of (zM (fresh_ne g1.2 hn) zR),Reps.mono g2.1 ds vs rs⟩) p
theorem au {t:TA} (h:PAd K f t ρ fun xs=>∃ ds,vH xs=some ds/\ds.length<=1000/\P (.tuple ds)):PEd K f (CS t) ρ P:=fun σ H Q e q =>
 h σ H _ e fun xs vs H1 g1 r1 ⟨ds,ea,hl,p⟩=>by
  have rs:=aL r1 ea;refine⟨by rw [rs.length];exact Fd (yy hl),fun l hn=>?_⟩;have sm:=yD hn (.tup vs);have g2:Goes f H1 (upd H1 l (.tup vs)):=.of_same sm g1.2;exact q (.tuple ds) _ _ (g1.trans g2) (zX.mpr ⟨l,vs,rfl,.of (zM (fresh_ne g1.2 hn) zR),Reps.mono g2.1 ds vs rs⟩) p
theorem zo {γ:Type} {n:Nat} {pre:γ->List DV->Prop} {post:γ->PyData->Prop} {E:XK} {t:TA} (c:γ) (h:PAd K f t ρ fun xs=>xs.length=n/\pre c xs/\∀ r,post c r->P r):PEd K f (j7 (spD K n pre post) [] E t) ρ P:=fun σ H Q e q =>
 h σ H _ e fun xs vs H1 g1 r1 ⟨hl,hp,k⟩=>by
  refine⟨f,xs,c,by rw [ER];exact r1,hl,g1.2,hp,fun r v H' g' r' p'=>q r v H' (g1.trans g') r' (k r p')⟩
theorem l6 {r:List V->Hp->VK->Prop} {t:TA} (h:PAd K f t ρ fun xs=>∃ ds,vH xs=some ds/\∀ (vs:List V) (H:Hp) (Q:VK),FOk f H->Reps K (hide H f) ds vs->(∀ d u H',Goes f H H'->Rep K (hide H' f) d u->P d->Q u H')->r vs H Q):PEd K f (tCB r t) ρ P:=fun σ H Q e q =>
 h σ H _ e fun xs vs H1 g1 r1 ⟨ds,ea,k⟩=>k vs H1 Q g1.2 (aL r1 ea) fun d u H' g' r' p'=>q d u H' (g1.trans g') r' p'
end
section
variable {K:DP} {f:Fx} {ρ:zw} {P:PyData->Prop} {B:Bool->Prop} {te ta tb tc:TE} {tt tu:TT}
theorem PTd.imp {B':Bool->Prop} (h:PTd K f tt ρ B) (i:∀ d,B d->B' d):PTd K f tt ρ B':=fun σ H Q e q=>h σ H Q e fun d H' g p=>q d H' g (i d p)
theorem jL (h:PEd K f te ρ fun d=>∃ k,d=.bool k/\B k):PTd K f (cP te) ρ B:=fun σ H Q e q=>h σ H _ e fun d v H' g r ⟨k,ed,p⟩=>by
 subst ed;exact⟨k,zZ.mp r,q k H' g p⟩
theorem t_b (h:PEd K f te ρ fun d=>∃ k,d=.bool k/\B k):PTd K f (tB te) ρ B:=fun σ H Q e q=>h σ H _ e fun d v H' g r ⟨k,ed,p⟩=>by
 subst ed;exact⟨k,zZ.mp r,q k H' g p⟩
theorem A0 (h:PTd K f tt ρ fun c=>if c=true then PTd K f tu ρ B else B false):PTd K f (tI tt tu) ρ B:=fun σ H Q e q=>h σ H _ e fun c H1 g p=>by
 cases c with
 | true =>
  rw [Jp rfl] at p ⊢;exact p σ H1 Q (e.mono g) fun b H2 g2 p2=>q b H2 (g.trans g2) p2
 | false =>
  rw [Jo DL] at p ⊢;exact q false H1 g p
theorem tZ (h:PTd K f tt ρ fun c=>if c=true then B true else PTd K f tu ρ B):PTd K f (tOr tt tu) ρ B:=fun σ H Q e q=>h σ H _ e fun c H1 g p=>by
 cases c with
 | true =>
  rw [Jp rfl] at p ⊢;exact q true H1 g p
 | false =>
  rw [Jo DL] at p ⊢;exact p σ H1 Q (e.mono g) fun b H2 g2 p2=>q b H2 (g.trans g2) p2
theorem t5 (h:PTd K f tt ρ fun c=>B (!c)):PTd K f (CK tt) ρ B:=fun σ H Q e q=>h σ H _ e fun c H1 g p=>q (!c) H1 g p
noncomputable def DD:PyData->Option Bool
 | .none=>some false
 | .bool b=>some b
 | .int i=>some (i != 0)
 | .list ds=>some (!ds.isEmpty)
 | .tuple ds=>some (!ds.isEmpty)
 | _=>none
def xr (K:DP) (ta:TE):TT:=fun σ H Q=>ta σ H fun x H'=>∃ k,Bw K x H' k/\Q k H'
theorem BG {X:Cx} {a:Expr} (ha:PE X a ta) (he:∀ whole,isTrue a X.env whole=(do let v <- whole;standAt a.pos;holding [v] (truthy v))):PT X a (xr X.K ta):=tS ha he
theorem jA (h:PEd K f ta ρ fun d=>∃ k,DD d=some k/\B k):PTd K f (xr K ta) ρ B:=fun σ H Q e q=>h σ H _ e fun d v H' g r ⟨k,ed,p⟩=>by
 refine⟨k,?_,q k H' g p⟩;cases d with
 | none=>rw [vo.mp r];cases ed;rfl
 | bool b=>rw [zZ.mp r];cases ed;rfl
 | int i=>rw [zx.mp r];cases ed;rfl
 | str x=>cases ed
 | list ds =>
  obtain⟨a,xs,rfl,h1,h2⟩:=zO.mp r;cases ed;refine .inl ⟨xs,(zt _ _).seq h1,?_⟩;cases ds with
  | nil=>rw [zV.mp h2];rfl
  | cons d ds=>obtain⟨x,r,rfl,_⟩:=zG.mp h2;rfl
 | tuple ds =>
  obtain⟨a,xs,rfl,h1,h2⟩:=zX.mp r;cases ed;refine .inr (.inl ⟨xs,(zt _ _).seqT h1,?_⟩);cases ds with
  | nil=>rw [zV.mp h2];rfl
  | cons d ds=>obtain⟨x,r,rfl,_⟩:=zG.mp h2;rfl
 | dict _=>cases ed
theorem BH (h:PTd K f tt ρ fun c=>if c=true then PEd K f ta ρ P else PEd K f tb ρ P):PEd K f (tIf tt ta tb) ρ P:=fun σ H Q e q=>h σ H _ e fun c H1 g p=>by
 cases c with
 | true=>rw [Jp rfl] at p ⊢;exact p σ H1 Q (e.mono g) fun d v H2 g2 r2 p2=>q d v H2 (g.trans g2) r2 p2
 | false=>rw [Jo DL] at p ⊢;exact p σ H1 Q (e.mono g) fun d v H2 g2 r2 p2=>q d v H2 (g.trans g2) r2 p2
theorem l7 (h:PEd K f ta ρ fun x=>∃ c,x=.bool c/\if c=true then PEd K f tb ρ P else P (.bool false)):PEd K f (tJ ta tb) ρ P:=fun σ H Q e q=>h σ H _ e fun x v H1 g r ⟨c,ex,p⟩=>by
 subst ex;refine⟨c,zZ.mp r,?_⟩;cases c with
 | true=>rw [Jp rfl] at p ⊢;exact p σ H1 Q (e.mono g) fun d v H2 g2 r2 p2=>q d v H2 (g.trans g2) r2 p2
 | false=>rw [Jo DL] at p ⊢;exact q _ _ H1 g (zZ.mpr rfl) p
theorem C0 (h:PEd K f ta ρ fun x=>∃ c,x=.bool c/\if c=true then P (.bool true) else PEd K f tb ρ P):PEd K f (CL ta tb) ρ P:=fun σ H Q e q=>h σ H _ e fun x v H1 g r ⟨c,ex,p⟩=>by
 subst ex;refine⟨c,zZ.mp r,?_⟩;cases c with
 | true=>rw [Jp rfl] at p ⊢;exact q _ _ H1 g (zZ.mpr rfl) p
 | false=>rw [Jo DL] at p ⊢;exact p σ H1 Q (e.mono g) fun d v H2 g2 r2 p2=>q d v H2 (g.trans g2) r2 p2
theorem BI (h:PEd K f ta ρ fun x=>∃ c,x=.bool c/\P (.bool !c)):PEd K f (AV ta) ρ P:=fun σ H Q e q=>h σ H _ e fun x v H1 g r ⟨c,ex,p⟩=>by
 subst ex;exact⟨c,zZ.mp r,q _ _ H1 g (zZ.mpr rfl) p⟩
theorem xt {g g':Int->Int->Bool} (h:PEd K f ta ρ fun x=>∃ i,x=.int i/\PEd K f tb ρ fun y=>∃ j,y=.int j/\if g i j=true then PEd K f tc ρ fun z=>∃ k,z=.int k/\P (.bool (g' j k)) else P (.bool false)) :
  PEd K f (tR (rI0 fun i j=>.bl (g i j)) (rI0 fun i j=>.bl (g' i j)) ta tb tc) ρ P:=fun σ H Q e q=>h σ H _ e fun x v H1 g1 r1 ⟨i,ex,p1⟩=>p1 σ H1 _ (e.mono g1) fun y w H2 g2 r2 ⟨j,ey,p2⟩=>by
 subst ex ey;refine⟨i,j,zx.mp r1,zx.mp r2,g i j,rfl,?_⟩;by_cases hg:g i j=true
 ·rw [Jp hg] at p2 ⊢;exact p2 σ H2 _ ((e.mono g1).mono g2) fun z u H3 g3 r3 ⟨k,ez,p3⟩=>by
   subst ez;exact⟨j,k,zx.mp r2,zx.mp r3,q _ _ H3 (g1.trans (g2.trans g3)) (zZ.mpr rfl) p3⟩
 ·rw [Jo hg] at p2 ⊢;exact q _ _ H2 (g1.trans g2) (zZ.mpr rfl) p2
theorem t6 {t:TA} (h:PAd K f t ρ fun xs=>(∃ ds,xs=[.dat (.list ds)]/\P (.int ds.length)) \/ (∃ ds,xs=[.dat (.tuple ds)]/\P (.int ds.length))) :
  PEd K f (tCB (fun xs H Q=>∃ p ys,xs=[.ref p]/\(SqL K H p ys \/ SqT K H p ys)/\Q (.int ys.length) H) t) ρ P :=
 l6 fun σ H Q e q=>h σ H Q e fun xs vs H' g r p=>by
  rcases p with⟨ds,rfl,p⟩ | ⟨ds,rfl,p⟩
  ·refine q _ vs H' g r ⟨_,rfl,fun vs H Q fo rs k=>?_⟩;obtain⟨x,r,rfl,h2,h3⟩:=zG.mp rs;rw [zV.mp h3];obtain⟨a,ys,rfl,s1,s2⟩:=zO.mp h2;exact⟨a,ys,rfl,.inl ((zt _ _).seq s1),k (.int ds.length) _ H (.refl fo) (zx.mpr (by rw [s2.length])) p⟩
  ·refine q _ vs H' g r ⟨_,rfl,fun vs H Q fo rs k=>?_⟩;obtain⟨x,r,rfl,h2,h3⟩:=zG.mp rs;rw [zV.mp h3];obtain⟨a,ys,rfl,s1,s2⟩:=zX.mp h2;exact⟨a,ys,rfl,.inr ((zt _ _).seqT s1),k (.int ds.length) _ H (.refl fo) (zx.mpr (by rw [s2.length])) p⟩
theorem BJ {t:TA} (h:PAd K f t ρ fun xs=>∃ ns:List Int,xs=[.dat (.list (ns.map .int))]/\ns≠[]/\∀ M,M∈ns->(∀ b∈ns,M<=b)->P (.int M)) :
  PEd K f (tCB (fun xs H Q=>∃ a ns,xs=[.ref a]/\SqL K H a (ns.map V.int)/\ns≠[]/\∀ M,M∈ns->(∀ b∈ns,M<=b)->Q (.int M) H) t) ρ P :=
 l6 fun σ H Q e q=>h σ H Q e fun xs vs H' g r ⟨ns,ex,hne,p⟩=>by
  subst ex;refine q _ vs H' g r ⟨_,rfl,fun vs H Q fo rs k=>?_⟩;obtain⟨x,r,rfl,h2,h3⟩:=zG.mp rs;rw [zV.mp h3];obtain⟨a,ys,rfl,s1,s2⟩:=zO.mp h2;rw [s2.ints] at s1;exact⟨a,ns,rfl,(zt _ _).seq s1,hne,fun M h1 h2=>k (.int M) _ H (.refl fo) (zx.mpr rfl) (p M h1 h2)⟩
theorem BK {t:TA} (h:PAd K f t ρ fun xs=>∃ ns:List Int,xs=[.dat (.list (ns.map .int))]/\ns≠[]/\∀ M,M∈ns->(∀ b∈ns,b<=M)->P (.int M)) :
  PEd K f (tCB (fun xs H Q=>∃ a ns,xs=[.ref a]/\SqL K H a (ns.map V.int)/\ns≠[]/\∀ M,M∈ns->(∀ b∈ns,b<=M)->Q (.int M) H) t) ρ P :=
 l6 fun σ H Q e q=>h σ H Q e fun xs vs H' g r ⟨ns,ex,hne,p⟩=>by
  subst ex;refine q _ vs H' g r ⟨_,rfl,fun vs H Q fo rs k=>?_⟩;obtain⟨x,r,rfl,h2,h3⟩:=zG.mp rs;rw [zV.mp h3];obtain⟨a,ys,rfl,s1,s2⟩:=zO.mp h2;rw [s2.ints] at s1;exact⟨a,ns,rfl,(zt _ _).seq s1,hne,fun M h1 h2=>k (.int M) _ H (.refl fo) (zx.mpr rfl) (p M h1 h2)⟩
theorem BL {g:Int->Int->Int} {t:TA} (h:PAd K f t ρ fun xs=>∃ i j,xs=[.dat (.int i),.dat (.int j)]/\P (.int (g i j))):PEd K f (tCB (fun xs H Q=>∃ i j,xs=[.int i,.int j]/\Q (.int (g i j)) H) t) ρ P :=
 l6 fun σ H Q e q=>h σ H Q e fun xs vs H' g' r ⟨i,j,ex,p⟩=>by
  subst ex;refine q _ vs H' g' r ⟨_,rfl,fun vs H Q fo rs k=>?_⟩;obtain⟨x,r,rfl,h2,h3⟩:=zG.mp rs;obtain⟨y,r',rfl,h4,h5⟩:=zG.mp h3;rw [zV.mp h5,zx.mp h2,zx.mp h4];exact⟨i,j,rfl,k _ _ H (.refl fo) (zx.mpr rfl) p⟩
theorem BM {g:Int->Int} {t:TA} (h:PAd K f t ρ fun xs=>∃ i,xs=[.dat (.int i)]/\P (.int (g i))):PEd K f (tCB (fun xs H Q=>∃ i,xs=[.int i]/\Q (.int (g i)) H) t) ρ P :=
 l6 fun σ H Q e q=>h σ H Q e fun xs vs H' g' r ⟨i,ex,p⟩=>by
  subst ex;refine q _ vs H' g' r ⟨_,rfl,fun vs H Q fo rs k=>?_⟩;obtain⟨x,r,rfl,h2,h3⟩:=zG.mp rs;rw [zV.mp h3,zx.mp h2];exact⟨i,rfl,k _ _ H (.refl fo) (zx.mpr rfl) p⟩
end
section
variable {K:DP} {f:Fx} {ρ:zw} {D:DEnds} {te ta tb:TE} {tt:TT} {ts tu:TS}
theorem y3 (p:D.nx ρ):PSd K f fD ρ D:=fun σ H E e n _ _ _=>n ρ σ H (.refl e.fd) e p
theorem yc (h:PSd K f ts ρ { D with nx:=fun ρ'=>PSd K f tu ρ' D }):PSd K f (aY ts tu) ρ D:=fun σ H E e n r b c =>
 h σ H { E with nx:=tu E } e (fun ρ' σ' H' g e' p=>p σ' H' E e' (fun ρ'' σ'' H'' g' e'' p'=>n ρ'' σ'' H'' (g.trans g') e'' p') (fun d v H'' g' r' p'=>r d v H'' (g.trans g') r' p') (fun ρ'' σ'' H'' g' e'' p'=>b ρ'' σ'' H'' (g.trans g') e'' p') (fun ρ'' σ'' H'' g' e'' p'=>c ρ'' σ'' H'' (g.trans g') e'' p')) r b c
theorem yW (h:PEd K f te ρ D.rt):PSd K f (dR te) ρ D:=fun σ H E e n r b c=>h σ H _ e r
theorem cq (h:PEd K f te ρ fun _=>D.nx ρ):PSd K f (iV te) ρ D:=fun σ H E e n r b c=>h σ H _ e fun d v H' g _ p=>n ρ σ H' g (e.mono g) p
theorem aZ (h:PTd K f tt ρ fun b=>if b=true then PSd K f ts ρ D else PSd K f tu ρ D):PSd K f (lU tt ts tu) ρ D:=fun σ H E e n r b c=>h σ H _ e fun k H1 g p=>by
 cases k with
 | true =>
  rw [Jp rfl] at p ⊢;exact p σ H1 E (e.mono g) (fun ρ'' σ'' H'' g' e'' p'=>n ρ'' σ'' H'' (g.trans g') e'' p') (fun d v H'' g' r' p'=>r d v H'' (g.trans g') r' p') (fun ρ'' σ'' H'' g' e'' p'=>b ρ'' σ'' H'' (g.trans g') e'' p') (fun ρ'' σ'' H'' g' e'' p'=>c ρ'' σ'' H'' (g.trans g') e'' p')
 | false =>
  rw [Jo DL] at p ⊢;exact p σ H1 E (e.mono g) (fun ρ'' σ'' H'' g' e'' p'=>n ρ'' σ'' H'' (g.trans g') e'' p') (fun d v H'' g' r' p'=>r d v H'' (g.trans g') r' p') (fun ρ'' σ'' H'' g' e'' p'=>b ρ'' σ'' H'' (g.trans g') e'' p') (fun ρ'' σ'' H'' g' e'' p'=>c ρ'' σ'' H'' (g.trans g') e'' p')
def PGd (K:DP) (f:Fx) (g:TG) (d:PyData) (ρ:zw) (R:zw->Prop):Prop:=∀ (σ:St) (H:Hp) (v:V) (Q:St->Hp->Prop),EnvOk K f ρ σ H->Rep K (hide H f) d v->(∀ ρ' σ' H',Goes f H H'->EnvOk K f ρ' σ' H'->R ρ'->Q σ' H')->g v σ H Q
def t7 (K:DP) (f:Fx) (g:TGs) (ds:List PyData) (ρ:zw) (R:zw->Prop):Prop:=∀ (σ:St) (H:Hp) (vs:List V) (Q:St->Hp->Prop),EnvOk K f ρ σ H->Reps K (hide H f) ds vs->(∀ ρ' σ' H',Goes f H H'->EnvOk K f ρ' σ' H'->R ρ'->Q σ' H')->g vs σ H Q
theorem zp {i:Nat} {d:PyData} {R:zw->Prop} (h:R (ρ.set i (some (.dat d)))):PGd K f (jS i) d ρ R:=fun σ H v Q e r q=>q _ _ H (.refl e.fd) (e.set i (x:=.dat d) r) h
theorem yu {R:zw->Prop} (h:R ρ):t7 K f xi [] ρ R:=fun σ H vs Q e r q=>⟨zV.mp r,q ρ σ H (.refl e.fd) e h⟩
theorem zz {g:TG} {gs:TGs} {d:PyData} {ds:List PyData} {R:zw->Prop} (h:PGd K f g d ρ fun ρ'=>t7 K f gs ds ρ' R):t7 K f (dS g gs) (d :: ds) ρ R:=fun σ H vs Q e r q=>by
 obtain⟨x,r',rfl,h2,h3⟩:=zG.mp r;exact⟨x,r',rfl,h σ H x _ e h2 fun ρ' σ' H' g' e' p=>p σ' H' r' Q e' (Reps.mono g'.1 ds r' h3) fun ρ'' σ'' H'' g'' e'' p'=>q ρ'' σ'' H'' (g'.trans g'') e'' p'⟩
theorem jr {n:Nat} {gs:TGs} {ds:List PyData} {R:zw->Prop} (hn:ds.length=n) (h:t7 K f gs ds ρ R):PGd K f (tK K n gs) (.tuple ds) ρ R:=fun σ H v Q e r q=>by
 obtain⟨a,xs,rfl,h1,h2⟩:=zX.mp r;exact⟨a,xs,rfl,(zt _ _).seqT h1,by rw [h2.length];exact hn,h σ H xs Q e h2 q⟩
theorem yf {g:TG} (h:PEd K f te ρ fun d=>PGd K f g d ρ D.nx):PSd K f (bw te g) ρ D:=fun σ H E e n r b c =>
 h σ H _ e fun d v H1 g1 r1 p1=>p1 σ H1 v _ (e.mono g1) r1 fun ρ' σ' H' g' e' p'=>n ρ' σ' H' (g1.trans g') e' p'
end
section
variable {K:DP} {f:Fx} {ρ:zw} {D:DEnds} {te ta tb:TE} {tt:TT} {ts tu:TS} {g:TG}
theorem l8 {t:TA} (h:PAd K f t ρ fun xs=>∃ ds,xs=[.dat (.list ds)]/\∃ J:Nat->zw->Prop,J 0 ρ /\
   (∀ (i:Nat) d ρ',ds[i]?=some d->J i ρ'->PGd K f g (.tuple [.int i,d]) ρ' fun ρ2=>PSd K f ts ρ2 { D with nx:=J (i+1),ct:=J (i+1),bk:=D.nx })/\∀ ρ',J ds.length ρ'->D.nx ρ') :
  PSd K f (tP (nG K t) g ts) ρ D:=fun σ H E e n r b c=>h σ H _ e fun xs vs H1 g1 r1 ⟨ds,ex,J,j0,js,jd⟩=>by
 subst ex;cases r1 with
 | cons rx r' =>
  cases r';obtain⟨a,xs,rfl,h1,h2⟩:=zO.mp rx;have hl:=h2.length;refine⟨a,rfl,⟨xs,(zt _ _).seq h1⟩,tX (K:=K) (a:=a) (xs:=xs) (fun i σ' H'=>∃ ρ',EnvOk K f ρ' σ' H'/\Goes f H H'/\Goes f H1 H'/\J i ρ') ⟨ρ,e.mono g1,g1,.refl g1.2,j0⟩ (fun i σ' H' _ ⟨ρ',e',g',g1',p⟩=>(zt _ _).seq (g1'.1.seq h1)) (fun i y σ' H' tp hy ⟨ρ',e',g',g1',p⟩ hn=>?_) fun σ' H' ⟨ρ',e',g',_,p⟩=>n ρ' σ' H' g' e' (jd ρ' (by rw [<-hl];exact p))⟩;have hi:i<ds.length:=by rw [<-hl];exact (DN.mp hy).1
  obtain⟨z,hz,rz⟩:=h2.get (DK hi);rw [hy] at hz;cases hz;have gn:Goes f H' (upd H' tp (.tup [.int i,y])):=.of_same (yD hn _) e'.fd;have rt:Rep K (hide (upd H' tp (.tup [.int i,y])) f) (.tuple [.int i,ds[i]]) (.ref tp):=zX.mpr ⟨tp,_,rfl,.of (zM (fresh_ne e'.fd hn) zR),.cons' (zx.mpr rfl) (.cons' (Rep.mono gn.1 _ _ (Rep.mono g1'.1 _ _ rz)) .nil')⟩;refine js i _ ρ' (DK hi) p σ' _ _ _ (e'.mono gn) rt fun ρ2 σ2 H2 g2' e2 p2=>?_;have g2:=gn.trans g2';exact p2 σ2 H2 _ e2 (fun ρ3 σ3 H3 g3 e3 p3=>⟨ρ3,e3,g'.trans (g2.trans g3),g1'.trans (g2.trans g3),p3⟩) (fun d v H3 g3 r3 p3=>r d v H3 (g'.trans (g2.trans g3)) r3 p3) (fun ρ3 σ3 H3 g3 e3 p3=>n ρ3 σ3 H3 (g'.trans (g2.trans g3)) e3 p3) (fun ρ3 σ3 H3 g3 e3 p3=>⟨ρ3,e3,g'.trans (g2.trans g3),g1'.trans (g2.trans g3),p3⟩)
end
noncomputable def frD (fr:List Nat) (ρ:zw):zw:=fr.map fun j=>(ρ[j]?).getD none
noncomputable def cu (own:Nat) (fr:List Nat) (ρ:zw):zw:=F8 own none++frD fr ρ
noncomputable abbrev Fx.with (f:Fx) (D:DR):Fx:=⟨f.f,D :: f.M⟩
section
variable {K:DP} {f:Fx} {ρ:zw} {σ:St} {H H':Hp} {D:DR} {o:HO}
theorem rD {own:Nat} {fr:List Nat} (e:EnvOk K f ρ σ H):EnvOk K f (cu own fr ρ) (jZ own fr σ) H:=by
 refine⟨by unfold cu jZ frD;simp,fun i x h=>?_,e.fd⟩;unfold cu frD at h;unfold jZ;by_cases hi:i<own
 ·rw [D4 (by simpa using hi),F9] at h;split at h <;> cases h
 ·rw [D7 (by simpa using hi)] at h ⊢;simp only [Hc,DX] at h ⊢;cases hj:fr[i - own]? with
  | none=>rw [hj] at h;cases h
  | some j =>
   rw [hj] at h;have h':(ρ[j]?).getD none=some x:=Option.some.inj h;have hρ:ρ[j]?=some (some x):=by
    cases q:ρ[j]? with
    | none=>rw [q] at h';cases h'
    | some w=>rw [q] at h';exact congrArg some h'
   obtain⟨v,h1,h2⟩:=e.get j x hρ;exact⟨v,by simp [h1],h2⟩
theorem jf:hide (upd H D o) (f.with D)=hide H (f.with D):=by
 funext b
 unfold hide;by_cases hb:f.f=some b \/ b∈D :: f.M
 ·rw [Jp hb,Jp hb]
 ·rw [Jo hb,Jo hb];have:b≠D:=fun z=>hb (.inr (z▸DZ));exact zN this
theorem yQ:Same (hide H (f.with D)) (hide H f):=fun b o h=>by
 obtain⟨h1,h2⟩:=zY h;exact zM (fun z=>h1 (z.elim .inl fun z=>.inr (DT _ z))) h2
theorem bJ (hn:H D=none):Same (hide H f) (hide (upd H D o) (f.with D)):=fun b u h=>by
 obtain⟨h1,h2⟩:=zY h;have hb:b≠D:=yd h2 hn;exact zM (fun z=>z.elim (fun z=>h1 (.inl z)) fun z=>(D0.mp z).elim hb fun z=>h1 (.inr z)) (by rw [zN hb];exact h2)
theorem BN (h:FOk f H) (hn:H D=none):FOk (f.with D) (upd H D o) :=
 ⟨fun p e=>let⟨a,b,h1,h2⟩:=h.fd p e;⟨a,b,by rw [zN (yd h1 hn)];exact h1,h2⟩,fun b hb=>by
  rcases D0.mp hb with rfl | hb
  ·exact⟨_,zR⟩
  ·obtain⟨o',h1⟩:=h.mm b hb;exact⟨o',by rw [zN (yd h1 hn)];exact h1⟩,fun p e hp=>by
  rcases D0.mp hp with rfl | hp
  ·exact fresh_ne h hn (.inl e)
  ·exact h.nm p e hp⟩
theorem BO (e:EnvOk K f ρ σ H) (hn:H D=none):EnvOk K (f.with D) ρ σ (upd H D o) :=
 ⟨e.len,fun i x h=>let⟨v,h1,h2⟩:=e.get i x h;⟨v,h1,by
  cases x with
  | dat d=>exact Rep.mono (bJ hn) d v h2
  | feed=>exact h2
  | own k =>
   obtain⟨p,h3,h4⟩:=h2;refine⟨p,?_,h4⟩;show (D :: f.M).reverse[k]?=some p;rw [Fy,D4 (DN.mp h3).1];exact h3
  | exc C =>
   obtain⟨a,h3,h4⟩:=h2;exact⟨a,h3,bJ hn _ _ h4⟩
  | mon φ=>exact fun H' s=>h2 H' ((bJ hn).trans s)⟩,BN e.fd hn⟩
theorem xu (hD:f.f≠some D) (e:EnvOk K (f.with D) ρ σ H):EnvOk K (f.with D) ρ σ (upd H D o) :=
 ⟨e.len,fun i x h=>let⟨v,h1,h2⟩:=e.get i x h;⟨v,h1,by
  cases x with
  | dat d =>
   have h2':Rep K (hide H (f.with D)) d v:=h2;show Rep K (hide (upd H D o) (f.with D)) d v;rw [jf];exact h2'
  | feed=>exact h2
  | own k=>exact h2
  | exc C =>
   obtain⟨a,h3,h4⟩:=h2;refine⟨a,h3,?_⟩;rw [jf];exact h4
  | mon φ =>
   intro H' s;rw [jf] at s;exact h2 H' s⟩,⟨fun p ep=>let⟨a,b,h1,h2⟩:=e.fd.fd p ep;⟨a,b,by rw [zN (fun z=>hD (by rw [<-z];exact ep))];exact h1,h2⟩,fun b hb=>by
   by_cases hb':b=D
   ·subst hb';exact⟨_,zR⟩
   ·rw [zN hb'];exact e.fd.mm b hb,e.fd.nm⟩⟩
end
section
variable {K:DP} {f:Fx} {ρ:zw} {P:PyData->Prop} {te tl:TE} {tt:TT} {g:TG} {own:Nat} {fr:List Nat}
structure CSt (K:DP) (f:Fx) (D:DR) (H2:Hp) (ρ':zw) (es:List PyData) (σ:St) (H:Hp):Prop where
 env:EnvOk K (f.with D) ρ' σ H
 sm:Same (hide H2 (f.with D)) (hide H (f.with D))
 kp:∀ b∈f.M,H b=H2 b
 lst:∃ vs,H D=some (.lst vs)/\Reps K (hide H (f.with D)) es vs
theorem CSt.go {D:DR} {H2 H H':Hp} {ρ':zw} {es:List PyData} {σ:St} (c:CSt K f D H2 ρ' es σ H) (gg:Goes (f.with D) H H') {ρ2:zw} {σ2:St} (e2:EnvOk K (f.with D) ρ2 σ2 H'):CSt K f D H2 ρ2 es σ2 H' :=
 ⟨e2,c.sm.trans gg.sm,fun b hb=>(gg.kp b (DT _ hb)).trans (c.kp b hb),let⟨vs,h1,h2⟩:=c.lst;⟨vs,(gg.kp D DZ).trans h1,Reps.mono gg.sm es vs h2⟩⟩
theorem CSt.put {D:DR} {H2 H:Hp} {ρ':zw} {es:List PyData} {σ:St} {d:PyData} {v:V} {vs:List V} (hD:f.f≠some D) (hM:D∉f.M) (c:CSt K f D H2 ρ' es σ H) (h1:H D=some (.lst vs)) (h2:Reps K (hide H (f.with D)) es vs) (r:Rep K (hide H (f.with D)) d v) :
  CSt K f D H2 ρ' (es++[d]) σ (upd H D (.lst (vs++[v]))) :=
 ⟨xu hD c.env,by rw [jf];exact c.sm,fun b hb=>(zN (fun (z:b=D)=>hM (z▸hb))).trans (c.kp b hb),⟨_,zR,by rw [jf];exact h2.snoc r⟩⟩
theorem rE {D:DR} {H2 H:Hp} {ρ':zw} {es:List PyData} {σ:St} {d:PyData} {v:V} {W:St->Hp->Prop} {R:zw->List PyData->Prop} (hD:f.f≠some D) (hM:D∉f.M) (c:CSt K f D H2 ρ' es σ H) (hl:es.length<1000) (r:Rep K (hide H (f.with D)) d v)
  (h:PGd K (f.with D) g d ρ' fun ρ2=>PTd K (f.with D) tt ρ2 fun b=>if b=true then PEd K (f.with D) te ρ2 fun e=>R ρ2 (es++[e]) else R ρ2 es)
  (hW:∀ ρ2 es2 σ2 H',CSt K f D H2 ρ2 es2 σ2 H'->R ρ2 es2->W σ2 H') :
  g v σ H fun σ2 H3=>tt σ2 H3 fun b H4=>if b=true then bI D te σ2 H4 W else W σ2 H4:=by
 refine h σ H v _ c.env r fun ρ2 σ2 H3 g3 e3 p3=>?_;have c3:=c.go g3 e3;refine p3 σ2 H3 _ e3 fun b H4 g4 p4=>?_;have c4:=c3.go g4 (e3.mono g4);cases b with
 | false =>
  rw [Jo DL] at p4 ⊢;exact hW _ _ _ _ c4 p4
 | true =>
  rw [Jp rfl] at p4 ⊢;refine p4 σ2 H4 _ (e3.mono g4) fun e u H5 g5 r5 p5=>?_;have c5:=c4.go g5 ((e3.mono g4).mono g5);obtain⟨vs,h1,h2⟩:=c5.lst;exact⟨vs,h1,yy (by rw [h2.length];omega),hW _ _ _ _ (c5.put hD hM h1 h2 r5) p5⟩
theorem ko {D:DR} {H1 H:Hp} {ρ':zw} {es:List PyData} {σ σ':St} (hn:H1 D=none) (fo:FOk f H1) (c:CSt K f D (upd H1 D (.lst [])) ρ' es σ H):Goes f H1 H/\Rep K (hide H f) (.list es) (.ref D):=by
 obtain⟨vs,h1,h2⟩:=c.lst;have nD:=fresh_ne fo hn;refine⟨⟨((bJ hn).trans c.sm).trans yQ,⟨c.env.fd.fd,fun b hb=>c.env.fd.mm b (DT _ hb),fun p e hp=>c.env.fd.nm p e (DT _ hp)⟩,fun b hb=>?_⟩,zO.mpr ⟨D,vs,rfl,.of (zM nD h1),Reps.mono yQ es vs h2⟩⟩;rw [c.kp b hb,zN];obtain⟨o,h3⟩:=fo.mm b hb;exact yd h3 hn
theorem d8 {D:DR} {H1:Hp} {σ:St} (hn:H1 D=none) (e:EnvOk K f ρ σ H1):CSt K f D (upd H1 D (.lst [])) (cu own fr ρ) [] (jZ own fr σ) (upd H1 D (.lst [])) :=
 ⟨BO (rD e) hn,Same.refl _,fun _ _=>rfl,⟨[],zR,.nil'⟩⟩
theorem xv {t:TA} (h:PAd K f t ρ fun xs=>∃ j:Int,xs=[.dat (.int j)]/\j<=1000/\-1000<=j/\∃ R:Nat->zw->List PyData->Prop,R 0 (cu own fr ρ) [] /\
   (∀ D (i:Nat) ρ' es,(i:Int)<j->R i ρ' es->PGd K (f.with D) g (.int i) ρ' fun ρ2=>PTd K (f.with D) tt ρ2 fun b=>if b=true then PEd K (f.with D) te ρ2 fun e=>R (i+1) ρ2 (es++[e]) else R (i+1) ρ2 es) /\
   (∀ i ρ' es,R i ρ' es->es.length<=i)/\∀ ρ' es,R j.toNat ρ' es->P (.list es)) :
  PEd K f (ag (nq t) own fr g tt fun D=>bI D te) ρ P:=fun σ H Q e q=>h σ H _ e fun xs vs H1 g1 r1 ⟨j,ex,b1,b2,R,r0,rs,rl,re⟩=>by
 subst ex;cases r1 with
 | @cons _ v0 _ _ rx r' =>
  cases r';have rx':Rep K (hide H1 f) (.int j) v0:=rx;refine⟨j,by rw [zx.mp rx'],by omega,by omega,fun D hn=>?_⟩;have nD:=fresh_ne g1.2 hn;have hD:f.f≠some D:=fun z=>nD (.inl z);have hM:D∉f.M:=fun z=>nD (.inr z);have e1:=e.mono g1;refine⟨fun i m σ' H'=>∃ ρ' es,CSt K f D (upd H1 D (.lst [])) ρ' es σ' H'/\R i ρ' es/\i<=j.toNat/\m+i=j.toNat,⟨j.toNat,_,[],d8 hn e1,r0,EE _,rfl⟩,fun i m σ' H' ⟨ρ',es,c,p,hi,hm⟩=>?_⟩;by_cases hlt:i<j.toNat
  ·refine .inr ⟨hlt,fun x H3 hy=>?_⟩;obtain⟨rfl,rfl⟩:=hy;have hz:(0:Int)+(i:Int)=(i:Int):=Int.zero_add _;rw [hz];refine rE (R:=R (i+1)) hD hM c (by have:=rl i ρ' es p;omega) ((zx (K:=K)).mpr rfl) (rs D i ρ' es (by omega) p) fun ρ2 es2 σ2 H4 c2 p2=>?_;exact⟨m - 1,by omega,ρ2,es2,c2,p2,by omega,by omega⟩
  ·have ei:i=j.toNat:=by omega
   subst ei;obtain⟨ge,rep⟩:=ko (σ':=σ') hn g1.2 c;exact .inl ⟨DU _,q _ _ H' (g1.trans ge) rep (re ρ' es p)⟩
theorem kq {t:TA} (h:PAd K f t ρ fun xs=>∃ j:Int,xs=[.dat (.int j)]/\j<=1000/\-1000<=j/\∃ R:Nat->PyData->Prop,
   (∀ D (i:Nat),(i:Int)<j->PEd K (f.with D) te (some (.dat (.int i)) :: frD fr ρ) (R i))/\∀ es:List PyData,es.length=j.toNat->(∀ (i:Nat) e,es[i]?=some e->R i e)->P (.list es)) :
  PEd K f (ag (nq t) 1 fr (jS 0) BD fun D=>bI D te) ρ P :=
 xv fun σ H Q e q=>h σ H Q e fun xs vs H' g' r' ⟨j,ex,b1,b2,R,rs,re⟩=>by
  refine q xs vs H' g' r' ⟨j,ex,b1,b2,fun i ρ' es=>(∃ x,ρ'=x :: frD fr ρ)/\es.length=i/\∀ (k:Nat) e,es[k]?=some e->R k e,⟨⟨none,rfl⟩,rfl,fun k e h=>by simp at h⟩,fun D i ρ' es hi p=>?_,fun i ρ' es p=>GG p.2.1,fun ρ' es p=>re es p.2.1 p.2.2⟩;obtain⟨⟨x,rfl⟩,hl,hp⟩:=p;refine zp ?_;intro σ H Q e q;refine q true H (.refl e.fd) ?_;dsimp only;rw [Jp rfl];refine (rs D i hi).imp fun d hd=>⟨⟨_,rfl⟩,by rw [D6,hl];rfl,fun k e hk=>?_⟩;by_cases hkl:k<es.length
  ·rw [D4 hkl] at hk;exact hp k e hk
  ·rw [D7 (by omega)] at hk;have hk0:k - es.length=0:=by
    have:=(DN.mp hk).1;simp at this;omega
   rw [hk0] at hk;cases hk;have:k=i:=by omega
   subst this;exact hd
end
section
variable {K:DP} {f:Fx} {ρ:zw} {D:DEnds} {te:TE} {i:Nat}
theorem kr {σ:St} {H:Hp} {p:DR} {a b:Int} (e:EnvOk K f ρ σ H) (ef:f.f=some p) (h0:0<=a) (h1:0<=b) (h2:b<2147483647):Goes f H (upd H p (.lst [.int a,.int b])) :=
 have hM:=e.fd.nm p ef
 ⟨fun x o h=>by
  obtain⟨n,hx⟩:=zY h;exact zM n (by rw [zN (fun z=>n (.inl (by rw [z];exact ef)))];exact hx),
 ⟨fun q eq=>by
   rw [ef] at eq;cases eq;exact⟨a,b,zR,h0,h1,h2⟩,fun x hx=>by
   by_cases hxp:x=p
   ·subst hxp;exact absurd hx hM
   ·rw [zN hxp];exact e.fd.mm x hx,e.fd.nm⟩,
fun x hx=>zN (fun z=>hM (z▸hx))⟩
theorem xw (hi:ρ[i]?=some (some .feed)) (h:PEd K f te ρ fun d=>∃ a:Int,d=.int a/\0<=a/\D.nx ρ):PSd K f (bw te (o9 (z6 i) (tC (.int 0)) i7)) ρ D:=fun σ H E e n r b c=>h σ H _ e fun d v H1 g1 r1 ⟨a,ed,h0,p⟩=>by
 subst ed;obtain⟨u,h1,q,ef,eu⟩:=e.get i _ hi;obtain⟨a',b',hf,c1,c2,c3⟩:=g1.2.fd q ef;refine⟨u,h1,q,_,0,0,eu,rfl,hf,rfl,?_⟩;rw [zx.mp r1];have g2:Goes f H1 (upd H1 q (.lst [.int a,.int b'])):=kr (e.mono g1) ef h0 c2 c3;exact n ρ σ _ (g1.trans g2) ((e.mono g1).mono g2) p
theorem xx (hi:ρ[i]?=some (some .feed)) (h:PEd K f te ρ fun d=>∃ a:Int,d=.int a/\0<=a/\a<2147483647/\D.nx ρ):PSd K f (bw te (o9 (z6 i) (tC (.int 1)) i7)) ρ D:=fun σ H E e n r b c=>h σ H _ e fun d v H1 g1 r1 ⟨a,ed,h0,h0',p⟩=>by
 subst ed;obtain⟨u,h1,q,ef,eu⟩:=e.get i _ hi;obtain⟨a',b',hf,c1,c2,c3⟩:=g1.2.fd q ef;refine⟨u,h1,q,_,1,1,eu,rfl,hf,rfl,?_⟩;rw [zx.mp r1];have g2:Goes f H1 (upd H1 q (.lst [.int a',.int a])):=kr (e.mono g1) ef c1 h0 h0';exact n ρ σ _ (g1.trans g2) ((e.mono g1).mono g2) p
end
theorem bK {X:Cx} {x:Str} {i:Int} {t:Tok} {pos:Pos} (hg:Gl X x) (hm:X.mg x=some (.int i t)) (hd:(x == ("__debug__":Str))=false:=by decide):PE X (.Name x pos) (tC (.int i)):=xg hg hm ⟨t,rfl⟩ hd
noncomputable def vI (N:List Str) (xs:List DV):zw:=xs.map some++F8 (N.length - xs.length) none
theorem aM {K:DP} {f:Fx} {H:Hp} {N:List Str} {xs:List DV} {vs:List V} (r:RepVs K f H xs vs) (fo:FOk f H):EnvOk K f (vI N xs) (start N vs) H:=by
 have hl:=r.length;refine⟨by unfold vI start;simp [hl],fun i x h=>?_,fo⟩;unfold vI at h;unfold start;have get:∀ {xs:List DV} {vs:List V} {i:Nat} {x:DV},RepVs K f H xs vs->xs[i]?=some x->∃ v,vs[i]?=some v/\RepV K f H x v:=by
  intro xs vs i x r
  induction r generalizing i with
  | nil=>intro h;simp at h
  | cons r1 r2 ih =>
   intro h;cases i with
   | zero=>simp at h;subst h;exact⟨_,rfl,r1⟩
   | succ i=>simp at h;obtain⟨v,h1,h2⟩:=ih h;exact⟨v,by simpa using h1,h2⟩
 by_cases hi:i<xs.length
 ·rw [D4 (by simpa using hi),DX] at h;cases q:xs[i]? with
  | none=>rw [q] at h;cases h
  | some y =>
   rw [q] at h;cases h;obtain⟨v,h1,h2⟩:=get r q;exact⟨v,by rw [D4 (by simp;omega),DX,h1];rfl,h2⟩
 ·rw [D7 (by simpa using hi),F9] at h;split at h <;> cases h
structure Def (K:DP) (mg:Str->Option Value) (x:Str) (st:Stmt) (ps:List Str):Prop where
 ex:∃ (f:DR) (fd:FuncData),Fun K x x st f fd/\Binds K fd ps []/\mg x=some (.ref f)
structure FnIn (P:Program) (w:World) (K:DP) (mg:Str->Option Value) (base:Heap) (k:Nat) (x:Str) (ps:List Str) (sp:Sp):Prop where
 ex:∃ (f:DR) (fd:FuncData),FnOk P w K mg base CX0 k f fd ps sp/\mg x=some (.ref f)/\EZ K (.ref f)=true/\Binds K fd ps []
section
variable {P:Program} {w:World} {K:DP} {mg:Str->Option Value} {base:Heap} {j k n:Nat} {x:Str} {st:Stmt} {ps N:List Str} {γ:Type} {pre:γ->List DV->Prop} {post:γ->PyData->Prop} {sp:Sp}
theorem FnIn.mono (h:FnIn P w K mg base j x ps sp) (hk:j<=k):FnIn P w K mg base k x ps sp :=
 let⟨f,fd,a,b,c,d⟩:=h.ex;⟨f,fd,a.mono hk,b,c,d⟩
theorem Def.ok (F:Def K mg x st ps) (S:FnScope N ps (zi st)) (hn:ps.length=n)
  (h:∀ (fa:DR) (cdv:Value) (A:Around) (outer:List Env) (s:Shared) (H:Hp) (E:XK),Room k (A.deeper (envOfC x (zi st) s.heap.objs.size fa cdv)) ->
   ∃ t,PSs (ye CX0 P w K mg base N x (zi st) fa cdv A outer s H E).nox (yM st) t/\∀ (f:Fx) (xs:List DV) (c:γ),xs.length=n->pre c xs->PSd K f t (vI N xs) { nx:=fun _=>post c .none,rt:=post c }) :
  FnIn P w K mg base (k+1) x ps (spD K n pre post):=by
 obtain⟨fa,fd,F1,F2,F3⟩:=F.ex;refine⟨fa,fd,F1.ok S (fun vs H Q E h=>?_) (fun cdv A outer s H vs Q E hr hs=>?_),F3,F1.kp,F2⟩
 ·obtain⟨f,xs,c,r,hl,_⟩:=h;rw [r.length,hl,hn]
 ·obtain⟨f,xs,c,r,hl,fo,hp,q⟩:=hs;obtain⟨t,h1,h2⟩:=h fa cdv A outer s H E hr;exact⟨t,h1,h2 f xs c hl hp (start N vs) H _ (aM r fo) (fun _ _ H' g _ p=>q .none _ H' g (vo.mpr rfl) p) (fun d v H' g r p=>q d v H' g r p) (fun _ _ _ _ _ z=>z.elim) (fun _ _ _ _ _ z=>z.elim)⟩
theorem Def.raw (F:Def K mg x st ps) (S:FnScope N ps (zi st)) (len:∀ vs H Q E,sp vs H Q E->vs.length=ps.length)
  (h:∀ (fa:DR) (cdv:Value) (A:Around) (outer:List Env) (s:Shared) (H:Hp) (vs:List V) (Q:VK) (E:XK),Room k (A.deeper (envOfC x (zi st) s.heap.objs.size fa cdv))->sp vs H Q E ->
   ∃ t,PSs (ye CX0 P w K mg base N x (zi st) fa cdv A outer s H E).nox (yM st) t/\t { nx:=fun _ H'=>Q .non H',rt:=Q } (start N vs) H) :
  FnIn P w K mg base (k+1) x ps sp:=by
 obtain⟨fa,fd,F1,F2,F3⟩:=F.ex;exact⟨fa,fd,F1.ok S len (fun cdv A outer s H vs Q E hr hs=>h fa cdv A outer s H vs Q E hr hs),F3,F1.kp,F2⟩
theorem ze {X:Cx} {e:Expr} {es:List Expr} {t:TA} {p pos:Pos} (G:FnIn X.prog X.w X.K X.mg X.base k x ps sp) (hr:Room k X.A) (hg:Gl X x) (ha:PA X (e :: es) t) (hdb:(x == ("__debug__":Str))=false:=by decide)
  (he:EN (e :: es) X.env=(false,eval e X.env) :: EN es X.env:=by rfl) (hpl:(backTo pos (EN es X.env)).any (·.1)=false:=by rfl):PE X (.Call (.Name x p) (e :: es) [] pos) (j7 sp [] E0 t):=by
 obtain⟨f,fd,a,b,c,d⟩:=G.ex;exact xl a hr hg b c d .nil CU ha hdb he hpl
end
section
variable {K:DP} {f:Fx} {ρ:zw} {σ:St} {H:Hp} {E:Ends} {ts tu:TS} {D:DEnds}
theorem t8 (h:PSd K f ts ρ D) (e:EnvOk K f ρ σ H) (hn:∀ ρ' σ' H',Goes f H H'->EnvOk K f ρ' σ' H'->D.nx ρ'->tu E σ' H') (hr:∀ d v H',Goes f H H'->Rep K (hide H' f) d v->D.rt d->E.rt v H') (hb:∀ ρ,¬ D.bk ρ) (hc:∀ ρ,¬ D.ct ρ):aY ts tu E σ H :=
 h σ H { E with nx:=tu E } e hn hr (fun ρ' _ _ _ _ p=>(hb ρ' p).elim) (fun ρ' _ _ _ _ p=>(hc ρ' p).elim)
theorem t9 {ta:TA} {Q:VK} {R:List PyData->Prop} (h:PAd K f ta ρ fun xs=>∃ ds,vH xs=some ds/\ds.length<=1000/\R ds) (e:EnvOk K f ρ σ H)
  (q:∀ p ds vs H1,Goes f H H1->H1 p=none->Reps K (hide H1 f) ds vs->R ds->Q (.ref p) (upd H1 p (.lst vs))):tT ta σ H Q :=
 h σ H _ e fun xs vs H1 g1 r1 ⟨ds,ea,hl,p⟩=>by
  have rs:=aL r1 ea;exact⟨by rw [rs.length];exact Fd (yy hl),fun l hn=>q l ds vs H1 g1 hn rs p⟩
end
section
variable {K:DP} {f:Fx} {ρ:zw}
theorem Goes.free {H H':Hp} {p:DR} (g:Goes f H H') (fo:FOk f H) (h:H' p=none):H p=none:=by
 cases q:H p with
 | none=>rfl
 | some o =>
  by_cases hh:f.f=some p \/ p∈f.M
  ·rcases hh with hh | hh
   ·obtain⟨a,b,h1,_⟩:=g.ok.fd p hh;rw [h] at h1;cases h1
   ·rw [g.kp p hh,q] at h;cases h
  ·have:=zY (g.sm p o (zM hh q));rw [h] at this;cases this.2
def PEdL (K:DP) (f:Fx) (te:TE) (ρ:zw) (P:List PyData->Prop):Prop:=∀ (σ:St) (H:Hp) (Q:VK),EnvOk K f ρ σ H ->
 (∀ es D vs H',Goes f H H'->H D=none->H' D=some (.lst vs)->Reps K (hide H' f) es vs->P es->Q (.ref D) H')->te σ H Q
theorem PEdL.ped {te:TE} {P:PyData->Prop} (h:PEdL K f te ρ fun es=>P (.list es)):PEd K f te ρ P:=fun σ H Q e q=>h σ H Q e fun es D vs H' g n h1 r p =>
 q (.list es) _ H' g (zO.mpr ⟨D,vs,rfl,.of (zM (fresh_ne e.fd n) h1),r⟩) p
end
structure TabAt (H:Hp) (a:DR) (as:List DR) (Jm:List (List Int)):Prop where
 top:H a=some (.lst (as.map .ref))
 nd:(a :: as).Nodup
 len:as.length=Jm.length
 row:∀ (i:Nat) x r,as[i]?=some x->Jm[i]?=some r->H x=some (.lst (r.map .int))
end L2
end
section
namespace L2
open PySem PySem.Spec PyProof.Rows
section
variable {X:Cx} {K:DP}
theorem zF (hK:X.K=K):IxR X (rj K):=hK▸xn
theorem zj (hK:X.K=K):IxR X (df K):=hK▸Bz
theorem ya (hK:X.K=K):yY X (.builtin "len") (fun xs H Q=>∃ p ys,xs=[.ref p]/\(SqL K H p ys \/ SqT K H p ys)/\Q (.int ys.length) H):=hK▸gM
theorem cT (hK:X.K=K):yY X (.type "tuple") (fun xs H Q=>∃ p ys,xs=[.ref p]/\((SqL K H p ys/\∀ l,H l=none->Q (.ref l) (upd H l (.tup ys))) \/ (SqT K H p ys/\Q (.ref p) H))):=hK▸fh
theorem rF (hK:X.K=K) (hc:X.calm=true):yY X (.builtin "min") (fun xs H Q=>∃ a ns,xs=[.ref a]/\SqL K H a (ns.map V.int)/\ns≠[]/\∀ M,M∈ns->(∀ b∈ns,M<=b)->Q (.int M) H):=hK▸rA hc
theorem rG (hK:X.K=K) (hc:X.calm=true):yY X (.builtin "max") (fun xs H Q=>∃ a ns,xs=[.ref a]/\SqL K H a (ns.map V.int)/\ns≠[]/\∀ M,M∈ns->(∀ b∈ns,b<=M)->Q (.int M) H):=hK▸rB hc
theorem yw (hK:X.K=K) (hu:X.A.units+64<Fh):OpR X (EU .Eq) (fm K false):=hK▸BE hu
theorem d9 (hK:X.K=K) (hu:X.A.units+64<Fh):OpR X (EU .NotEq) (fm K true):=hK▸BF hu
variable {tg l e st:Expr} {tl te ts:TE} {ta:TA} {p pos p2:Pos}
theorem yg (hK:X.K=K) (hl:PE X l tl):PI X tg l (tN K tl):=hK▸xj hl
theorem gP (hK:X.K=K) (hl:PE X l tl):PI X tg l (Br K tl):=hK▸Bs hl
theorem eg {es:List Expr} {k:Nat} {tpos:Pos} (hK:X.K=K) (hg:Gl X "enumerate") (hm:X.mg "enumerate"=none) (ha:PA X [l] ta) (hs:EN [l] X.env=[(false,eval l X.env)]:=by rfl):PI X (.Tuple es k tpos) (.Call (.Name "enumerate" p) [l] [] pos) (nG K ta):=hK▸xq hg hm ha hs
theorem yj (hK:X.K=K) (ha:PE X e te) (he:∀ whole,isTrue e X.env whole=(do let v <- whole;standAt e.pos;holding [v] (truthy v))):PT X e (xr K te):=hK▸BG ha he
theorem zH {es:List Expr} {k:Nat} {t:TGs} {n:Nat} (hK:X.K=K) (hc:X.calm=true) (h:PGs X es t) (hn:(assignEach es X.env).length=n:=by rfl) (hst:(assignEach es X.env).findIdx? (·.1)=none:=by rfl):PG X (.Tuple es k pos) (tK K n t):=hK▸Bq hc h hn hst
end
structure ItD (K:DP) (f:Fx) (ds:List PyData) (J:It) (H1:Hp):Prop where
 go:∀ (f':Fx) (H':Hp) (i:Nat) d,FOk f' H'->Same (hide H1 f) (hide H' f')->ds[i]?=some d->J.go i H'/\∀ x H3,J.yld i H' x H3->Goes f' H' H3/\Rep K (hide H3 f') d x
 st:∀ (f':Fx) (H':Hp),FOk f' H'->Same (hide H1 f) (hide H' f')->J.stop ds.length H'
def PId (K:DP) (f:Fx) (wi:TI) (ρ:zw) (R:List PyData->Prop):Prop:=∀ (σ:St) (H:Hp) (C:It->Hp->Prop),EnvOk K f ρ σ H ->
 (∀ ds J H1,Goes f H H1->ItD K f ds J H1->R ds->C J H1)->wi σ H C
noncomputable def av (n:Nat):List PyData:=(Ec n).map fun (i:Nat)=>.int (i:Int)
noncomputable def cU (ds:List PyData):List PyData:=ds.mapIdx fun i d=>.tuple [.int (i:Int),d]
section
variable {K:DP} {f:Fx} {ρ:zw} {R:List PyData->Prop} {tl:TE} {t:TA}
theorem PId.imp {wi:TI} {R':List PyData->Prop} (h:PId K f wi ρ R) (i:∀ ds,R ds->R' ds):PId K f wi ρ R':=fun σ H C e q=>h σ H C e fun ds J H1 g it r=>q ds J H1 g it (i ds r)
theorem j9 (h:PAd K f t ρ fun xs=>∃ j:Int,xs=[.dat (.int j)]/\-(2 ^ 62)<=j/\j<2 ^ 62/\R (av j.toNat)):PId K f (nq t) ρ R:=fun σ H C e q=>h σ H _ e fun xs vs H1 g1 r1 ⟨j,ex,q1,q2,p⟩=>by
 subst ex;cases r1 with
 | @cons _ v0 _ _ rx r' =>
  cases r';have rx':Rep K (hide H1 f) (.int j) v0:=rx;refine⟨j,by rw [zx.mp rx'],q1,q2,q _ _ H1 g1 ⟨fun f' H' i d fo _ hd=>?_,fun f' H' _ _=>?_⟩ p⟩
  ·unfold av at hd;rw [DX] at hd;by_cases hi:i<j.toNat
   ·rw [FG hi] at hd;cases hd;refine⟨hi,fun x H3 hy=>?_⟩;obtain⟨rfl,rfl⟩:=hy;exact⟨.refl fo,zx.mpr (by rw [Int.zero_add])⟩
   ·rw [En (by rw [EJ];omega)] at hd;cases hd
  ·show j.toNat<=(av j.toNat).length;unfold av;rw [DM,EJ];exact DU _
theorem yI (h:PEd K f tl ρ fun x=>∃ ds,x=.list ds/\R ds):PId K f (tN K tl) ρ R:=fun σ H C e q=>h σ H _ e fun x v H1 g1 r1 ⟨ds,ex,p⟩=>by
 subst ex;obtain⟨a,xs,rfl,h1,h2⟩:=zO.mp r1;have hl:=h2.length;refine⟨a,rfl,⟨xs,(zt _ _).seq h1⟩,q ds _ H1 g1 ⟨fun f' H' i d fo sm hd=>?_,fun f' H' _ sm=>⟨xs,(zt _ _).seq (sm.seq h1),GG hl⟩⟩ p⟩;obtain⟨z,hz,rz⟩:=h2.get hd;have sq:SqL K H' a xs:=(zt _ _).seq (sm.seq h1);refine⟨⟨xs,z,sq,hz⟩,fun x H3 hy=>?_⟩;obtain⟨rfl,hy⟩:=hy;have ez:=hy xs sq;rw [hz] at ez;cases ez;exact⟨.refl fo,Rep.mono sm _ _ rz⟩
theorem ua (h:PEd K f tl ρ fun x=>∃ ds,x=.tuple ds/\R ds):PId K f (Br K tl) ρ R:=fun σ H C e q=>h σ H _ e fun x v H1 g1 r1 ⟨ds,ex,p⟩=>by
 subst ex;obtain⟨a,xs,rfl,h1,h2⟩:=zX.mp r1;have hl:=h2.length;refine⟨a,rfl,⟨xs,(zt _ _).seqT h1⟩,q ds _ H1 g1 ⟨fun f' H' i d fo sm hd=>?_,fun f' H' _ sm=>⟨xs,(zt _ _).seqT (sm.seqT h1),GG hl⟩⟩ p⟩;obtain⟨z,hz,rz⟩:=h2.get hd;have sq:SqT K H' a xs:=(zt _ _).seqT (sm.seqT h1);refine⟨⟨xs,z,sq,hz⟩,fun x H3 hy=>?_⟩;obtain⟨rfl,hy⟩:=hy;have ez:=hy xs sq;rw [hz] at ez;cases ez;exact⟨.refl fo,Rep.mono sm _ _ rz⟩
theorem ub (h:PAd K f t ρ fun xs=>∃ ds,xs=[.dat (.list ds)]/\R (cU ds)):PId K f (nG K t) ρ R:=fun σ H C e q=>h σ H _ e fun xs vs H1 g1 r1 ⟨ds,ex,p⟩=>by
 subst ex;cases r1 with
 | cons rx r' =>
  cases r';obtain⟨a,xs,rfl,h1,h2⟩:=zO.mp rx;have hl:=h2.length;refine⟨a,rfl,⟨xs,(zt _ _).seq h1⟩,q (cU ds) _ H1 g1 ⟨fun f' H' i d fo sm hd=>?_,fun f' H' _ sm=>⟨xs,(zt _ _).seq (sm.seq h1),by unfold cU;rw [List.length_mapIdx];exact GG hl⟩⟩ p⟩;unfold cU at hd;rw [IF] at hd;cases eq:ds[i]? with
  | none=>rw [eq] at hd;cases hd
  | some d0 =>
   rw [eq] at hd;cases hd;obtain⟨z,hz,rz⟩:=h2.get eq;have sq:SqL K H' a xs:=(zt _ _).seq (sm.seq h1);refine⟨⟨xs,z,sq,hz⟩,fun x H3 hy=>?_⟩;obtain⟨tp,y,rfl,hn,rfl,hy⟩:=hy;have ez:=hy xs sq;rw [hz] at ez;cases ez;have gn:Goes f' H' (upd H' tp (.tup [.int i,z])):=.of_same (yD hn _) fo;exact⟨gn,zX.mpr ⟨tp,_,rfl,.of (zM (fresh_ne fo hn) zR),.cons' (zx.mpr rfl) (.cons' (Rep.mono gn.1 _ _ (Rep.mono sm _ _ rz)) .nil')⟩⟩
end
section
variable {K:DP} {f:Fx} {ρ:zw} {D:DEnds} {wi:TI} {g:TG} {ts:TS}
theorem bg (h:PId K f wi ρ fun ds=>∃ J:Nat->zw->Prop,J 0 ρ /\
   (∀ (i:Nat) d ρ',ds[i]?=some d->J i ρ'->PGd K f g d ρ' fun ρ2=>PSd K f ts ρ2 { D with nx:=J (i+1),ct:=J (i+1),bk:=D.nx })/\∀ ρ',J ds.length ρ'->D.nx ρ') :
  PSd K f (tP wi g ts) ρ D:=fun σ H E e n r b c=>h σ H _ e fun ds J H1 g1 it ⟨Jv,j0,js,jd⟩=>by
 refine⟨fun i m σ' H'=>∃ ρ',EnvOk K f ρ' σ' H'/\Goes f H1 H'/\Jv i ρ'/\m+i=ds.length,⟨ds.length,ρ,e.mono g1,.refl g1.2,j0,rfl⟩,fun i m σ' H' ⟨ρ',e',g',p,hm⟩=>?_⟩;by_cases hi:i<ds.length
 ·obtain⟨hgo,hy⟩:=it.go f H' i _ e'.fd g'.sm (DK hi);refine .inr ⟨hgo,fun σ2 H2=>∃ ρ2,EnvOk K f ρ2 σ2 H2/\Goes f H1 H2/\Jv (i+1) ρ2,fun σ2 H2 ⟨ρ2,e2,g2,p2⟩=>⟨m - 1,by omega,ρ2,e2,g2,p2,by omega⟩,fun x H3 hx=>?_⟩;obtain⟨g3,r3⟩:=hy x H3 hx;refine js i _ ρ' (DK hi) p σ' H3 x _ (e'.mono g3) r3 fun ρ2 σ2 H4 g4 e4 p4=>?_;have gg:=g'.trans (g3.trans g4);exact p4 σ2 H4 _ e4 (fun ρ5 σ5 H5 g5 e5 p5=>⟨ρ5,e5,gg.trans g5,p5⟩) (fun d v H5 g5 r5 p5=>r d v H5 (g1.trans (gg.trans g5)) r5 p5) (fun ρ5 σ5 H5 g5 e5 p5=>n ρ5 σ5 H5 (g1.trans (gg.trans g5)) e5 p5) (fun ρ5 σ5 H5 g5 e5 p5=>⟨ρ5,e5,gg.trans g5,p5⟩)
 ·have ei:i=ds.length:=by omega
  subst ei;exact .inl ⟨it.st f H' e'.fd g'.sm,n ρ' σ' H' (g1.trans g') e' (jd ρ' p)⟩
end
section
variable {K:DP} {f:Fx} {ρ:zw} {D:DR} {wi:TI} {g:TG} {tt:TT} {te:TE}
theorem CSt.self {H2 H:Hp} {es:List PyData} {σ:St} (c:CSt K f D H2 ρ es σ H):CSt K f D H ρ es σ H:=⟨c.env,Same.refl _,fun _ _=>rfl,c.lst⟩
theorem CSt.trans {H2 H H':Hp} {es es':List PyData} {ρ':zw} {σ σ':St} (c:CSt K f D H2 ρ es σ H) (d:CSt K f D H ρ' es' σ' H'):CSt K f D H2 ρ' es' σ' H':=⟨d.env,c.sm.trans d.sm,fun b hb=>(d.kp b hb).trans (c.kp b hb),d.lst⟩
def PBd (K:DP) (f:Fx) (D:DR) (tb:TB) (ρ:zw) (es:List PyData) (R:zw->List PyData->Prop):Prop:=f.f≠some D->D∉f.M->∀ (σ:St) (H H2:Hp) (W:St->Hp->Prop),CSt K f D H2 ρ es σ H ->
 (∀ ρ2 es2 σ2 H',CSt K f D H2 ρ2 es2 σ2 H'->R ρ2 es2->W σ2 H')->tb σ H W
theorem jB {es:List PyData} {R:zw->List PyData->Prop} (hl:es.length<1000) (h:PEd K (f.with D) te ρ fun e=>R ρ (es++[e])):PBd K f D (bI D te) ρ es R:=fun hD hM σ H H2 W c q =>
 h σ H _ c.env fun e u H5 g5 r5 p5=>by
  have c5:=c.go g5 (c.env.mono g5);obtain⟨vs,h1,h2⟩:=c5.lst;exact⟨vs,h1,yy (by rw [h2.length];omega),q _ _ _ _ (c5.put hD hM h1 h2 r5) p5⟩
theorem uc {fi:Fx} {Hi H2 H:Hp} {ds es:List PyData} {J:It} {tb:TB} {σ:St} {W:St->Hp->Prop} (it:ItD K fi ds J Hi) (hD:f.f≠some D) (hM:D∉f.M) (c:CSt K f D H2 ρ es σ H) (sm:Same (hide Hi fi) (hide H (f.with D)))
  (Jv:Nat->zw->List PyData->Prop) (j0:Jv 0 ρ es)
  (js:∀ (i:Nat) d ρ' es',ds[i]?=some d->Jv i ρ' es'->PGd K (f.with D) g d ρ' fun ρ2=>PTd K (f.with D) tt ρ2 fun b=>if b=true then PBd K f D tb ρ2 es' (Jv (i+1)) else Jv (i+1) ρ2 es')
  (hW:∀ ρ' es' σ' H',CSt K f D H2 ρ' es' σ' H'->Jv ds.length ρ' es'->W σ' H'):i9 J g tt tb σ H W:=by
 refine⟨fun i m σ' H'=>∃ ρ' es',CSt K f D H2 ρ' es' σ' H'/\Same (hide Hi fi) (hide H' (f.with D))/\Jv i ρ' es'/\m+i=ds.length,⟨ds.length,ρ,es,c,sm,j0,rfl⟩,fun i m σ' H' ⟨ρ',es',c',sm',p,hm⟩=>?_⟩;by_cases hi:i<ds.length
 ·obtain⟨hgo,hy⟩:=it.go (f.with D) H' i _ c'.env.fd sm' (DK hi);refine .inr ⟨hgo,fun x H3 hx=>?_⟩;obtain⟨g3,r3⟩:=hy x H3 hx;have c3:=c'.go g3 (c'.env.mono g3);refine js i _ ρ' es' (DK hi) p σ' H3 x _ c3.env r3 fun ρ2 σ2 H4 g4 e4 p4=>?_;have c4:=c3.go g4 e4;refine p4 σ2 H4 _ e4 fun b H5 g5 p5=>?_;have c5:=c4.go g5 (e4.mono g5);have sm5:=((sm'.trans g3.sm).trans g4.sm).trans g5.sm;cases b with
  | false =>
   rw [Jo DL] at p5 ⊢;exact⟨m - 1,by omega,ρ2,es',c5,sm5,p5,by omega⟩
  | true =>
   rw [Jp rfl] at p5 ⊢;exact p5 hD hM σ2 H5 H5 _ c5.self fun ρ6 es6 σ6 H6 c6 p6=>⟨m - 1,by omega,ρ6,es6,c5.trans c6,sm5.trans c6.sm,p6,by omega⟩
 ·have ei:i=ds.length:=by omega
  subst ei;exact .inl ⟨it.st (f.with D) H' c'.env.fd sm',hW ρ' es' σ' H' c' p⟩
theorem BP {es:List PyData} {tb:TB} {R:zw->List PyData->Prop} (h:PId K (f.with D) wi ρ fun ds=>∃ Jv:Nat->zw->List PyData->Prop,Jv 0 ρ es /\
   (∀ (i:Nat) d ρ' es',ds[i]?=some d->Jv i ρ' es'->PGd K (f.with D) g d ρ' fun ρ2=>PTd K (f.with D) tt ρ2 fun b=>if b=true then PBd K f D tb ρ2 es' (Jv (i+1)) else Jv (i+1) ρ2 es') /\
   ∀ ρ' es',Jv ds.length ρ' es'->R ρ' es'):PBd K f D (tIn wi g tt tb) ρ es R:=fun hD hM σ H H2 W c q =>
 h σ H _ c.env fun ds J H1 g1 it ⟨Jv,j0,js,jd⟩ =>
  uc it hD hM (c.go g1 (c.env.mono g1)) (Same.refl _) Jv j0 js fun ρ' es' σ' H' c' p=>q ρ' es' σ' H' c' (jd ρ' es' p)
def PEdO (K:DP) (f:Fx) (te:TE) (ρ:zw) (P:List PyData->Prop):Prop:=∀ (σ:St) (H:Hp) (Q:VK),EnvOk K f ρ σ H ->
 (∀ es D vs H',Goes f H H'->H D=none->H' D=some (.lst vs)->Reps K (hide H' (f.with D)) es vs->P es->Q (.ref D) H')->te σ H Q
theorem PEdO.pedl {P:List PyData->Prop} (h:PEdO K f te ρ P):PEdL K f te ρ P:=fun σ H Q e q=>h σ H Q e fun es D vs H' g n h1 r p=>q es D vs H' g n h1 (Reps.mono yQ es vs r) p
theorem PEdO.ped {P:PyData->Prop} (h:PEdO K f te ρ fun es=>P (.list es)):PEd K f te ρ P:=h.pedl.ped
theorem nH {P:List PyData->Prop} (h:P []):PEdO K f (tT jT) ρ P:=fun σ H Q e q=>⟨EE _,fun p hn=>q [] p [] _ (.of_same (yD hn _) e.fd) hn zR .nil' h⟩
theorem aw {own:Nat} {fr:List Nat} {tb:DR->TB} {P:List PyData->Prop} (h:PId K f wi ρ fun ds=>∃ Jv:Nat->zw->List PyData->Prop,Jv 0 (cu own fr ρ) [] /\
   (∀ D (i:Nat) d ρ' es',ds[i]?=some d->Jv i ρ' es'->PGd K (f.with D) g d ρ' fun ρ2=>PTd K (f.with D) tt ρ2 fun b=>if b=true then PBd K f D (tb D) ρ2 es' (Jv (i+1)) else Jv (i+1) ρ2 es') /\
   ∀ ρ' es',Jv ds.length ρ' es'->P es'):PEdO K f (ag wi own fr g tt tb) ρ P:=fun σ H Q e q =>
 h σ H _ e fun ds J H1 g1 it ⟨Jv,j0,js,jd⟩ D hn=>by
  have nD:=fresh_ne g1.2 hn;have hD:f.f≠some D:=fun z=>nD (.inl z);have hM:D∉f.M:=fun z=>nD (.inr z);refine uc it hD hM (d8 hn (e.mono g1)) (bJ hn) Jv j0 (js D) fun ρ' es' σ' H' c' p=>?_;obtain⟨ge,rep⟩:=ko (σ':=σ') hn g1.2 c';obtain⟨vs,h1,h2⟩:=c'.lst;exact q es' D vs H' (g1.trans ge) (g1.free e.fd hn) h1 h2 (jd ρ' es' p)
end
section
variable {K:DP} {f:Fx} {ρ:zw} {D:DR} {wi:TI} {g:TG} {tt:TT} {te:TE}
theorem cw {F:PyData->List PyData} {ds:List PyData} {i:Nat} {d:PyData} (h:ds[i]?=some d):(ds.take (i+1)).flatMap F=(ds.take i).flatMap F++F d:=by
 rw [EK,h,E7];simp
theorem vJ {F:PyData->List PyData} {ds:List PyData} {i:Nat}:((ds.take i).flatMap F).length<=(ds.flatMap F).length:=by
 conv=>rhs;rw [<-FR i ds,E7,D6]
 omega
def OwnE (own:Nat) (ρ0:zw) (ρ':zw):Prop:=∃ us:zw,us.length=own/\ρ'=us++ρ0
theorem OwnE.one {ρ0 ρ':zw} (h:OwnE 1 ρ0 ρ'):∃ u,ρ'=u :: ρ0:=by
 obtain⟨us,h1,rfl⟩:=h;rcases us with _ | ⟨u,_ | ⟨z,zs⟩⟩ <;> first | exact⟨_,rfl⟩ | (simp at h1)
theorem OwnE.two {ρ0 ρ':zw} (h:OwnE 2 ρ0 ρ'):∃ u v,ρ'=u :: v :: ρ0:=by
 obtain⟨us,h1,rfl⟩:=h;rcases us with _ | ⟨u,_ | ⟨v,_ | ⟨z,zs⟩⟩⟩ <;> first | exact⟨_,_,rfl⟩ | (simp at h1)
theorem OwnE.three {ρ0 ρ':zw} (h:OwnE 3 ρ0 ρ'):∃ u v w,ρ'=u :: v :: w :: ρ0:=by
 obtain⟨us,h1,rfl⟩:=h
 match us,h1 with
 | [u,v,w],_=>exact⟨u,v,w,rfl⟩
theorem OwnE.mk1 {ρ0:zw} {u:Option DV}:OwnE 1 ρ0 (u :: ρ0):=⟨[u],rfl,rfl⟩
theorem OwnE.mk2 {ρ0:zw} {u v:Option DV}:OwnE 2 ρ0 (u :: v :: ρ0):=⟨[u,v],rfl,rfl⟩
theorem BQ {own:Nat} {fr:List Nat} {tb:DR->TB} {P:List PyData->Prop} (h:PId K f wi ρ fun ds=>∃ F:PyData->List PyData,(ds.flatMap F).length<=1000 /\
   (∀ D d ρ' es,d∈ds->OwnE own (frD fr ρ) ρ'->es.length+(F d).length<=1000->PGd K (f.with D) g d ρ' fun ρ2=>PTd K (f.with D) tt ρ2 fun b=>if b=true then PBd K f D (tb D) ρ2 es fun ρ3 es3=>OwnE own (frD fr ρ) ρ3/\es3=es++F d else OwnE own (frD fr ρ) ρ2/\F d=[]) /\
   P (ds.flatMap F)):PEdO K f (ag wi own fr g tt tb) ρ P :=
 aw (h.imp fun ds ⟨F,hl,hs,hp⟩=>by
  refine⟨fun i ρ' es=>OwnE own (frD fr ρ) ρ'/\es=(ds.take i).flatMap F,⟨⟨F8 own none,by simp,rfl⟩,by simp⟩,fun D i d ρ' es hd ⟨ho,he⟩=>?_,fun ρ' es ⟨_,he⟩=>?_⟩
  ·have hb:es.length+(F d).length<=1000:=by
    rw [he,<- D6,<- cw hd];exact Em vJ hl
   have:=hs D d ρ' es (DS hd) ho hb;intro σ H v Q e r q;refine this σ H v Q e r fun ρ2 σ2 H2 g2 e2 p2=>q ρ2 σ2 H2 g2 e2 (p2.imp fun b hb2=>?_);cases b with
   | false =>
    rw [Jo DL] at hb2 ⊢;exact⟨hb2.1,by rw [cw hd,hb2.2,ER];exact he⟩
   | true =>
    rw [Jp rfl] at hb2 ⊢;intro h1 h2 σ3 H3 H4 W c k;exact hb2 h1 h2 σ3 H3 H4 W c fun ρ5 es5 σ5 H5 c5 ⟨o5,p5⟩=>k ρ5 es5 σ5 H5 c5 ⟨o5,by rw [p5,cw hd,he]⟩
  ·rw [he,Eu];exact hp)
theorem qP {B:Bool->Prop} (h:B true):PTd K f BD ρ B:=fun σ H Q e q=>q true H (.refl e.fd) h
end
structure OEnds where
 nx:zw->List PyData->Prop
 rt:PyData->Prop
 bk:zw->List PyData->Prop:=fun _ _=>False
 ct:zw->List PyData->Prop:=fun _ _=>False
def PSo (K:DP) (f:Fx) (D:DR) (ts:TS) (ρ:zw) (es:List PyData) (O:OEnds):Prop:=f.f≠some D->D∉f.M->∀ (σ:St) (H H2:Hp) (E:Ends),CSt K f D H2 ρ es σ H ->
 (∀ ρ' es' σ' H',CSt K f D H2 ρ' es' σ' H'->O.nx ρ' es'->E.nx σ' H')->(∀ d v ρ' es' σ' H',CSt K f D H2 ρ' es' σ' H'->Rep K (hide H' f) d v->O.rt d->E.rt v H') ->
 (∀ ρ' es' σ' H',CSt K f D H2 ρ' es' σ' H'->O.bk ρ' es'->E.bk σ' H')->(∀ ρ' es' σ' H',CSt K f D H2 ρ' es' σ' H'->O.ct ρ' es'->E.ct σ' H')->ts E σ H
section
variable {K:DP} {f:Fx} {ρ:zw} {D:DR} {wi:TI} {g:TG} {tt:TT} {te:TE} {ts tu:TS} {es:List PyData} {O:OEnds} {i:Nat}
theorem BR (h:PSd K (f.with D) ts ρ { nx:=fun ρ'=>O.nx ρ' es,rt:=O.rt,bk:=fun ρ'=>O.bk ρ' es,ct:=fun ρ'=>O.ct ρ' es }):PSo K f D ts ρ es O:=fun hD hM σ H H2 E c n r b k =>
 h σ H E c.env (fun ρ' σ' H' g' e' p=>n ρ' es σ' H' (c.go g' e') p) (fun d v H' g' r' p=>r d v ρ es σ H' (c.go g' (c.env.mono g')) (Rep.mono yQ d v r') p) (fun ρ' σ' H' g' e' p=>b ρ' es σ' H' (c.go g' e') p) (fun ρ' σ' H' g' e' p=>k ρ' es σ' H' (c.go g' e') p)
theorem C1 (h:PSo K f D ts ρ es { O with nx:=fun ρ' es'=>PSo K f D tu ρ' es' O }):PSo K f D (aY ts tu) ρ es O:=fun hD hM σ H H2 E c n r b k =>
 h hD hM σ H H2 _ c (fun ρ' es' σ' H' c' p=>p hD hM σ' H' H2 E c' n r b k) r b k
theorem ud {σ:St} {H H2:Hp} (hi:ρ[i]?=some (some (.own f.M.length))) (c:CSt K f D H2 ρ es σ H):σ[i]?=some (some (.ref D)):=by
 obtain⟨v,h1,p,h2,rfl⟩:=c.env.get i _ hi;have e:(D :: f.M).reverse[f.M.length]?=some D:=by
  rw [Fy,D7 (by simp)];simp
 have h2':(D :: f.M).reverse[f.M.length]?=some p:=h2;rw [e] at h2';cases h2';exact h1
theorem A1 (hi:ρ[i]?=some (some (.own f.M.length))) (hl:es.length<1000) (h:PEd K (f.with D) te ρ fun d=>O.nx ρ (es++[d])):PSo K f D (iV (tBM K "list" gN (z6 i) (zT te jT))) ρ es O:=fun hD hM σ H H2 E c n r b k=>by
 obtain⟨vs0,h0,_⟩:=c.lst;refine⟨_,ud hi c,Or.inl ⟨rfl,vs0,.of h0⟩,?_⟩;refine h σ H _ c.env fun d v H1 g1 r1 p1=>?_;have c1:=c.go g1 (c.env.mono g1);obtain⟨vs,h1,h2⟩:=c1.lst;exact⟨D,vs,v,rfl,rfl,h1,yy (by rw [h2.length];omega),n _ _ _ _ (c1.put hD hM h1 h2 r1) p1⟩
theorem nI (h:PId K (f.with D) wi ρ fun ds=>∃ J:Nat->zw->List PyData->Prop,J 0 ρ es /\
   (∀ (i:Nat) d ρ' es',ds[i]?=some d->J i ρ' es'->PGd K (f.with D) g d ρ' fun ρ2=>PSo K f D ts ρ2 es' { O with nx:=J (i+1),ct:=J (i+1),bk:=O.nx })/\∀ ρ' es',J ds.length ρ' es'->O.nx ρ' es') :
  PSo K f D (tP wi g ts) ρ es O:=fun hD hM σ H H2 E c n r b k=>h σ H _ c.env fun ds J H1 g1 it ⟨Jv,j0,js,jd⟩=>by
 have c1:=c.go g1 (c.env.mono g1);refine⟨fun i m σ' H'=>∃ ρ' es',CSt K f D H2 ρ' es' σ' H'/\Same (hide H1 (f.with D)) (hide H' (f.with D))/\Jv i ρ' es'/\m+i=ds.length,⟨ds.length,ρ,es,c1,Same.refl _,j0,rfl⟩,fun i m σ' H' ⟨ρ',es',c',sm',p,hm⟩=>?_⟩;by_cases hi:i<ds.length
 ·obtain⟨hgo,hy⟩:=it.go (f.with D) H' i _ c'.env.fd sm' (DK hi);refine .inr ⟨hgo,fun σ2 H3=>∃ ρ2 es2,CSt K f D H2 ρ2 es2 σ2 H3/\Same (hide H1 (f.with D)) (hide H3 (f.with D))/\Jv (i+1) ρ2 es2,fun σ2 H3 ⟨ρ2,es2,e2,g2,p2⟩=>⟨m - 1,by omega,ρ2,es2,e2,g2,p2,by omega⟩,fun x H3 hx=>?_⟩;obtain⟨g3,r3⟩:=hy x H3 hx;have c3:=c'.go g3 (c'.env.mono g3);refine js i _ ρ' es' (DK hi) p σ' H3 x _ c3.env r3 fun ρ2 σ2 H4 g4 e4 p4=>?_;have c4:=c3.go g4 e4;have sm4:=(sm'.trans g3.sm).trans g4.sm;exact p4 hD hM σ2 H4 H4 _ c4.self (fun ρ5 es5 σ5 H5 c5 p5=>⟨ρ5,es5,c4.trans c5,sm4.trans c5.sm,p5⟩) (fun d v ρ5 es5 σ5 H5 c5 r5 p5=>r d v ρ5 es5 σ5 H5 (c4.trans c5) r5 p5) (fun ρ5 es5 σ5 H5 c5 p5=>n ρ5 es5 σ5 H5 (c4.trans c5) p5) (fun ρ5 es5 σ5 H5 c5 p5=>⟨ρ5,es5,c4.trans c5,sm4.trans c5.sm,p5⟩)
 ·have ei:i=ds.length:=by omega
  subst ei;exact .inl ⟨it.st (f.with D) H' c'.env.fd sm',n ρ' es' σ' H' c' (jd ρ' es' p)⟩
noncomputable def qQ (n:Nat):Option DV->Option DV
 | some (.own k)=>if k<n then some (.own k) else none
 | x=>x
theorem dr {σ:St} {H H2:Hp} (c:CSt K f D H2 ρ es σ H):EnvOk K f (ρ.map (qQ f.M.length)) σ H:=by
 refine⟨by rw [DM];exact c.env.len,fun i x h=>?_,⟨c.env.fd.fd,fun b hb=>c.env.fd.mm b (DT _ hb),fun p e hp=>c.env.fd.nm p e (DT _ hp)⟩⟩;rw [DX] at h;cases e:ρ[i]? with
 | none=>rw [e] at h;cases h
 | some y =>
  rw [e] at h;cases y with
  | none=>cases h
  | some y =>
   obtain⟨v,h1,h2⟩:=c.env.get i y e;cases y with
   | dat d =>
    cases h;exact⟨v,h1,Rep.mono yQ d v h2⟩
   | feed =>
    cases h;exact⟨v,h1,h2⟩
   | exc C =>
    cases h;obtain⟨a,h3,h4⟩:=h2;exact⟨v,h1,a,h3,yQ _ _ h4⟩
   | mon φ =>
    cases h;exact⟨v,h1,fun H' s=>h2 H' (yQ.trans s)⟩
   | own k =>
    have h':(if k<f.M.length then some (DV.own k) else none)=some x:=Option.some.inj h;by_cases hk:k<f.M.length
    ·rw [Jp hk] at h';cases h';obtain⟨p,h3,h4⟩:=h2;refine⟨v,h1,p,?_,h4⟩;have h3':(D :: f.M).reverse[k]?=some p:=h3;rw [Fy,D4 (by simpa using hk)] at h3';exact h3'
    ·rw [Jo hk] at h';cases h'
theorem xy {σ:St} {H:Hp} {d:PyData} {v:V} (e:EnvOk K f ρ σ H) (hs:σ[i]?=some (some v)) (r:Rep K (hide H f) d v):EnvOk K f (ρ.set i (some (.dat d))) σ H:=by
 refine⟨by rw [Gr];exact e.len,fun j y h=>?_,e.fd⟩;by_cases hj:i=j
 ·subst hj;have hi:i<ρ.length:=by rw [e.len];exact (DN.mp hs).1
  rw [Fi hi] at h;cases h;exact⟨v,hs,r⟩
 ·rw [FY hj] at h;exact e.get j y h
theorem A2 {Dn:DEnds} (h:PEdO K f te ρ fun es0=>i<ρ.length/\∀ D,PSo K f D ts (ρ.set i (some (.own f.M.length))) es0 { nx:=fun ρ' es=>ρ'[i]?=some (some (.own f.M.length))/\PSd K f tu ((ρ'.map (qQ f.M.length)).set i (some (.dat (.list es)))) Dn,rt:=Dn.rt,bk:=fun ρ' es=>Dn.bk (ρ'.map (qQ f.M.length)),ct:=fun ρ' es=>Dn.ct (ρ'.map (qQ f.M.length)) }) :
  PSd K f (aY (bw te (jS i)) (aY ts tu)) ρ Dn:=fun σ H E e n r b k=>h σ H _ e fun es0 D vs H1 g1 hn h1 rs ⟨hil,p⟩=>by
 have nD:¬ (f.f=some D \/ D∈f.M):=fresh_ne e.fd hn;have hD:f.f≠some D:=fun z=>nD (.inl z);have hM:D∉f.M:=fun z=>nD (.inr z);have sm0:Same (hide H f) (hide H1 (f.with D)):=fun b o hb=>by
  have hb1:=g1.sm b o hb;refine zM (fun z=>?_) (zY hb1).2;rcases z with z | z
  ·exact (zY hb1).1 (.inl z)
  ·rcases D0.mp z with rfl | z
   ·have:=(zY hb).2;rw [hn] at this;cases this
   ·exact (zY hb1).1 (.inr z)
 have fo1:FOk (f.with D) H1:=⟨g1.ok.fd,fun b hb=>by
  rcases D0.mp hb with rfl | hb
  ·exact⟨_,h1⟩
  ·exact g1.ok.mm b hb,fun q eq hq=>by
  rcases D0.mp hq with rfl | hq
  ·exact hD eq
  ·exact g1.ok.nm q eq hq⟩
 have e1:EnvOk K (f.with D) ρ σ H1:=⟨e.len,fun j x hx=>by
  obtain⟨v,a1,a2⟩:=e.get j x hx;refine⟨v,a1,?_⟩;cases x with
  | dat d=>exact Rep.mono sm0 d v a2
  | feed=>exact a2
  | exc C =>
   obtain⟨q,h3,h4⟩:=a2;exact⟨q,h3,sm0 _ _ h4⟩
  | mon φ=>exact fun H' s=>a2 H' (sm0.trans s)
  | own k =>
   obtain⟨q,h3,h4⟩:=a2;refine⟨q,?_,h4⟩;show (D :: f.M).reverse[k]?=some q;rw [Fy,D4 (DN.mp h3).1];exact h3,fo1⟩
 have rv:RepV K (f.with D) H1 (.own f.M.length) (.ref D):=⟨D,by
  show (D :: f.M).reverse[f.M.length]?=some D;rw [Fy,D7 (by simp)]
  simp,rfl⟩
 have c1:CSt K f D H1 (ρ.set i (some (.own f.M.length))) es0 (σ.set i (some (.ref D))) H1:=⟨e1.set i rv,Same.refl _,fun _ _=>rfl,vs,h1,rs⟩;have gg:∀ {ρ':zw} {es':List PyData} {σ':St} {H':Hp},CSt K f D H1 ρ' es' σ' H'->Goes f H H':=fun c=>by
  refine⟨fun b o hb=>?_,(dr c).fd,fun b hb=>(c.kp b hb).trans (g1.kp b hb)⟩;exact yQ (D:=D) b o (c.sm b o (sm0 b o hb))
 refine p D hD hM _ H1 H1 _ c1 (fun ρ' es' σ' H' c' ⟨hi,p'⟩=>?_) (fun d v ρ' es' σ' H' c' r' p'=>r d v H' (gg c') r' p') (fun ρ' es' σ' H' c' p'=>b _ σ' H' (gg c') (dr c') p') (fun ρ' es' σ' H' c' p'=>k _ σ' H' (gg c') (dr c') p');obtain⟨vs',h1',h2'⟩:=c'.lst;have rl:Rep K (hide H' f) (.list es') (.ref D):=zO.mpr ⟨D,vs',rfl,.of (zM nD h1'),Reps.mono yQ es' vs' h2'⟩;exact p' σ' H' E (xy (dr c') (ud hi c') rl) (fun ρ2 σ2 H2 g2=>n ρ2 σ2 H2 ((gg c').trans g2)) (fun d v H2 g2=>r d v H2 ((gg c').trans g2)) (fun ρ2 σ2 H2 g2=>b ρ2 σ2 H2 ((gg c').trans g2)) (fun ρ2 σ2 H2 g2=>k ρ2 σ2 H2 ((gg c').trans g2))
end
section
variable {K:DP} {f:Fx} {ρ:zw} {P:PyData->Prop} {te ta tb:TE} {t:TA}
theorem Reps.drop {H:Hp}:∀ {ds:List PyData} {xs:List V} (n:Nat),Reps K H ds xs->Reps K H (ds.drop n) (xs.drop n)
 | _,_,0,r=>r
 | [],xs,n+1,r=>by
  rw [zV.mp r];exact .nil'
 | d :: ds,xs,n+1,r=>by
  obtain⟨x,r',rfl,_,h⟩:=zG.mp r;exact Reps.drop n h
theorem Reps.take {H:Hp}:∀ {ds:List PyData} {xs:List V} (n:Nat),Reps K H ds xs->Reps K H (ds.take n) (xs.take n)
 | _,_,0,r=>.nil'
 | [],xs,n+1,r=>by
  rw [zV.mp r];exact .nil'
 | d :: ds,xs,n+1,r=>by
  obtain⟨x,r',rfl,h0,h⟩:=zG.mp r;exact .cons' h0 (Reps.take n h)
noncomputable def cutD (ds:List PyData) (lo hi:Option Int):List PyData:=(ds.drop (HT.sIx ds.length 0 lo)).take (HT.sIx ds.length ds.length hi - HT.sIx ds.length 0 lo)
theorem Reps.cut {H:Hp} {ds:List PyData} {xs:List V} {lo hi:Option Int} (r:Reps K H ds xs):Reps K H (cutD ds lo hi) (l0 xs lo hi):=by
 unfold cutD l0;rw [r.length];exact (r.drop _).take _
theorem ku {ds:List PyData} {n:Nat}:cutD ds (some (n:Int)) none=ds.drop n:=by
 unfold cutD;rw [HT.sIx_nat,HT.sIx_none];by_cases h:n<=ds.length
 ·rw [Iu h];exact Gj (by rw [Hj];exact DU _)
 ·rw [Nat.min_eq_right (by omega),Gk,G4,List.drop_eq_nil_of_le (by omega)]
def POd (K:DP) (f:Fx) (t:TO) (ρ:zw) (R:Option Int->Prop):Prop:=∀ (σ:St) (H:Hp) (Q:Option Int->Hp->Prop),EnvOk K f ρ σ H->(∀ o H',Goes f H H'->R o->Q o H')->t σ H Q
theorem C2 {R:Option Int->Prop} (h:R none):POd K f nt ρ R:=fun σ H Q e q=>q none H (.refl e.fd) h
theorem C3 {R:Option Int->Prop} (h:PEd K f te ρ fun d=>∃ i:Int,d=.int i/\R (some i)):POd K f (AX te) ρ R:=fun σ H Q e q=>h σ H _ e fun d v H1 g1 r1 ⟨i,ed,p⟩=>by
 subst ed;exact⟨i,zx.mp r1,q (some i) H1 g1 p⟩
theorem C4 {tl th:TO} {P:List PyData->Prop} (h:PEd K f te ρ fun x=>∃ ds,x=.list ds/\POd K f tl ρ fun lo=>POd K f th ρ fun hi=>P (cutD ds lo hi)):PEdL K f (tSl (xo K) te tl th) ρ P:=fun σ H Q e q =>
 h σ H _ e fun x v H1 g1 r1 ⟨ds,ex,p1⟩=>p1 σ H1 _ (e.mono g1) fun lo H2 g2 p2=>p2 σ H2 _ ((e.mono g1).mono g2) fun hi H3 g3 p3=>by
  subst ex;have gg:=g1.trans (g2.trans g3);obtain⟨a,xs,rfl,h1,h2⟩:=zO.mp (Rep.mono (g2.trans g3).sm _ _ r1);refine⟨a,xs,rfl,(zt _ _).seq h1,fun p hn=>?_⟩;have g4:Goes f H3 (upd H3 p (.lst (l0 xs lo hi))):=.of_same (yD hn _) g3.ok;exact q _ p _ _ (gg.trans g4) (gg.free e.fd hn) zR (Reps.mono g4.sm _ _ h2.cut) p3
theorem C5 {tl th:TO} (h:PEd K f te ρ fun x=>∃ ds,x=.list ds/\POd K f tl ρ fun lo=>POd K f th ρ fun hi=>P (.list (cutD ds lo hi))):PEd K f (tSl (xo K) te tl th) ρ P:=(C4 h).ped
theorem BS (h:PEd K f ta ρ fun x=>∃ ds,x=.tuple ds/\ds≠[]/\PEd K f tb ρ fun y=>∃ es,y=.tuple es/\es≠[]/\ds.length+es.length<=1000/\P (.tuple (ds++es))):PEd K f (tOp (tU K) ta tb) ρ P:=fun σ H Q e q =>
 h σ H _ e fun x v H1 g1 r1 ⟨ds,ex,hd,p1⟩=>p1 σ H1 _ (e.mono g1) fun y w H2 g2 r2 ⟨es,ey,he,hl,p2⟩=>by
  subst ex ey;obtain⟨a,xs,rfl,h1,h2⟩:=zX.mp (Rep.mono g2.sm _ _ r1);obtain⟨b,ys,rfl,h3,h4⟩:=zX.mp r2;have l1:=h2.length;have l2:=h4.length;refine⟨a,b,xs,ys,rfl,rfl,(zt _ _).seqT h1,(zt _ _).seqT h3,fun z=>hd (Hn (by rw [<-l1,z];rfl)),by rw [l1,l2];exact Fd (yy hl),fun z=>absurd (Hn (by rw [<-l2,z];rfl)) he,fun _ p hn=>?_⟩;have g3:Goes f H2 (upd H2 p (.tup (xs++ys))):=.of_same (yD hn _) g2.ok;exact q (.tuple (ds++es)) _ _ (g1.trans (g2.trans g3)) (zX.mpr ⟨p,_,rfl,.of (zM (fresh_ne g2.ok hn) zR),Reps.mono g3.sm _ _ (h2.append h4)⟩) p2
theorem BU (h:PAd K f t ρ fun xs=>(∃ i,xs=[.dat (.int i)]/\P (.int i)) \/ (∃ k:Bool,xs=[.dat (.bool k)]/\P (.int (if k then 1 else 0)))) :
  PEd K f (tCB (fun xs H Q=>(∃ i,xs=[.int i]/\Q (.int i) H) \/ ∃ k:Bool,xs=[.bl k]/\Q (.int (if k then 1 else 0)) H) t) ρ P :=
 l6 fun σ H Q e q=>h σ H Q e fun xs vs H' g r p=>by
  rcases p with⟨i,rfl,p⟩ | ⟨i,rfl,p⟩
  ·refine q _ vs H' g r ⟨_,rfl,fun vs H Q fo rs k=>?_⟩;obtain⟨x,r,rfl,h2,h3⟩:=zG.mp rs;rw [zV.mp h3,zx.mp h2];exact .inl ⟨i,rfl,k _ _ H (.refl fo) (zx.mpr rfl) p⟩
  ·refine q _ vs H' g r ⟨_,rfl,fun vs H Q fo rs k=>?_⟩;obtain⟨x,r,rfl,h2,h3⟩:=zG.mp rs;rw [zV.mp h3,zZ.mp h2];exact .inr ⟨i,rfl,k _ _ H (.refl fo) (zx.mpr rfl) p⟩
theorem nJ (h:PAd K f t ρ fun xs=>(∃ ds,xs=[.dat (.list ds)]/\P (.tuple ds)) \/ (∃ ds,xs=[.dat (.tuple ds)]/\P (.tuple ds))) :
  PEd K f (tCB (fun xs H Q=>∃ p ys,xs=[.ref p]/\((SqL K H p ys/\∀ l,H l=none->Q (.ref l) (upd H l (.tup ys))) \/ (SqT K H p ys/\Q (.ref p) H))) t) ρ P :=
 l6 fun σ H Q e q=>h σ H Q e fun xs vs H' g r p=>by
  rcases p with⟨ds,rfl,p⟩ | ⟨ds,rfl,p⟩
  ·refine q _ vs H' g r ⟨_,rfl,fun vs H Q fo rs k=>?_⟩;obtain⟨x,r,rfl,h2,h3⟩:=zG.mp rs;rw [zV.mp h3];obtain⟨a,ys,rfl,s1,s2⟩:=zO.mp h2;refine⟨a,ys,rfl,.inl ⟨(zt _ _).seq s1,fun l hn=>?_⟩⟩;have g2:Goes f H (upd H l (.tup ys)):=.of_same (yD hn _) fo;exact k (.tuple ds) _ _ g2 (zX.mpr ⟨l,ys,rfl,.of (zM (fresh_ne fo hn) zR),Reps.mono g2.1 ds ys s2⟩) p
  ·refine q _ vs H' g r ⟨_,rfl,fun vs H Q fo rs k=>?_⟩;obtain⟨x,r,rfl,h2,h3⟩:=zG.mp rs;rw [zV.mp h3];obtain⟨a,ys,rfl,s1,s2⟩:=zX.mp h2;exact⟨a,ys,rfl,.inr ⟨(zt _ _).seqT s1,k (.tuple ds) _ H (.refl fo) (zX.mpr ⟨a,ys,rfl,s1,s2⟩) p⟩⟩
end
noncomputable abbrev f0:Fx:=⟨none,[]⟩
theorem fok0 (H:Hp):FOk f0 H:=⟨(fun p e=>by cases e),(fun b hb=>by cases hb),(fun p e=>by cases e)⟩
theorem C6 {H H':Hp} (s:Same H H'):Goes f0 H H':=.of_same s (fok0 H)
theorem same0 {H H':Hp} (g:Goes f0 H H'):Same H H':=fun b o h=>(zY (g.sm b o (by rw [jq];exact h))).2
noncomputable def gQ:Option DV->Option DV
 | some (.dat d)=>some (.dat d)
 | _=>none
section
variable {K:DP} {ρ:zw} {te:TE} {tu:TS} {i:Nat}
theorem ej {p:DR} {σ:St} {H:Hp} (e:EnvOk K ⟨some p,[]⟩ ρ σ H):EnvOk K f0 (ρ.map gQ) σ H:=by
 refine⟨by rw [DM];exact e.len,fun i x h=>?_,fok0 H⟩;rw [DX] at h;cases eq:ρ[i]? with
 | none=>rw [eq] at h;cases h
 | some y =>
  rw [eq] at h;cases y with
  | none=>cases h
  | some y =>
   obtain⟨v,h1,h2⟩:=e.get i y eq;cases y with
   | dat d =>
    cases h;refine⟨v,h1,?_⟩;show Rep K (hide H f0) d v;rw [jq];exact Rep.mono (zt _ _) d v h2
   | feed=>cases h
   | own k=>cases h
   | exc C=>cases h
   | mon φ=>cases h
theorem BV {Dn:DEnds} (h:∀ (σ:St) (H:Hp) (Q:VK),EnvOk K f0 ρ σ H->(∀ (p:DR) (x y:Int) (H':Hp),Same H H'->H p=none->H' p=some (.lst [.int x,.int y])->0<=x->0<=y->y<2147483647->Q (.ref p) H')->te σ H Q)
  (hr:∀ p,PSd K ⟨some p,[]⟩ tu (ρ.set i (some .feed)) { nx:=fun ρ'=>Dn.nx (ρ'.map gQ),rt:=Dn.rt,bk:=fun ρ'=>Dn.bk (ρ'.map gQ),ct:=fun ρ'=>Dn.ct (ρ'.map gQ) }) :
  PSd K f0 (aY (bw te (jS i)) tu) ρ Dn:=fun σ H E e n r b k=>h σ H _ e fun p x y H1 sm hn hp x0 y0 y1=>by
 have fo:FOk ⟨some p,[]⟩ H1:=⟨fun p' e=>by cases e;exact⟨x,y,hp,x0,y0,y1⟩,(fun b hb=>by cases hb),fun _ _ hb=>by cases hb⟩;have sm0:Same H (hide H1 ⟨some p,[]⟩):=fun b o hb=>by
  have nb:b≠p:=fun e=>by rw [e,hn] at hb;cases hb
  refine zM (fun z=>?_) (sm b o hb);rcases z with z | z
  ·cases z;exact nb rfl
  ·cases z
 have e1:EnvOk K ⟨some p,[]⟩ ρ σ H1:=by
  refine⟨e.len,fun j z hz=>?_,fo⟩;obtain⟨v,a1,a2⟩:=e.get j z hz;refine⟨v,a1,?_⟩;cases z with
  | dat d =>
   have a2':Rep K (hide H f0) d v:=a2;rw [jq] at a2';exact Rep.mono sm0 d v a2'
  | feed=>obtain⟨q,hq,_⟩:=a2;cases hq
  | own k=>obtain⟨q,hq,_⟩:=a2;cases hq
  | exc C =>
   obtain⟨q,h3,h4⟩:=a2;refine⟨q,h3,sm0 _ _ ?_⟩;rw [jq] at h4;exact h4
  | mon φ =>
   intro H' s;refine a2 H' (Same.trans ?_ s);rw [jq];exact sm0
 have gg:∀ {H':Hp},Goes ⟨some p,[]⟩ H1 H'->Goes f0 H H':=fun g=>C6 fun b o hb=>zt _ _ b o (g.sm b o (sm0 b o hb));refine hr p _ H1 E (e1.set i (x:=.feed) ⟨p,rfl,rfl⟩) (fun ρ' σ' H' g' e' p'=>n _ σ' H' (gg g') (ej e') p') (fun d v H' g' r' p'=>r d v H' (gg g') ?_ p') (fun ρ' σ' H' g' e' p'=>b _ σ' H' (gg g') (ej e') p') (fun ρ' σ' H' g' e' p'=>k _ σ' H' (gg g') (ej e') p');rw [jq];exact Rep.mono (zt _ _) d v r'
end
section
variable {X:Cx} {K:DP}
def C7 (i j:Int):Prop:=0<j/\j<1152921504606846976
theorem eC:OpR X (binaryOp .FloorDiv) (rI C7 fun i j=>.int (i / j)):=opI fun i j _ _ _ _ _ hc q=>by
 obtain⟨h1,h2⟩:=hc;rw [<-Gy i (Int.le_of_lt h1)] at q;refine floordiv_int (by omega) q (.inl (HV ?_));have h0:j.natAbs≠0:=by omega
 have:j.natAbs.log2<60:=(Jh h0).mpr (by omega);omega
theorem kx (hK:X.K=K):SlR X (xo K):=hK▸xp
theorem ue (hK:X.K=K):OpR X (binaryOp .Add) (tU K):=hK▸xm
end
section
variable {K:DP} {f:Fx} {ρ:zw} {wi:TI} {g:TG} {tt:TT} {own:Nat} {fr:List Nat} {tb:DR->TB} {P:List PyData->Prop}
theorem fK {α:Type} {A B:α->PyData} (xs:List α) (h:PId K f wi ρ fun ds=>ds=xs.map A/\xs.length<=1000 /\
   (∀ D x ρ' es,x∈xs->OwnE own (frD fr ρ) ρ'->es.length<1000->PGd K (f.with D) g (A x) ρ' fun ρ2=>PTd K (f.with D) tt ρ2 fun b=>if b=true then PBd K f D (tb D) ρ2 es fun ρ3 es3=>OwnE own (frD fr ρ) ρ3/\es3=es++[B x] else False)/\P (xs.map B)) :
  PEdO K f (ag wi own fr g tt tb) ρ P :=
 aw (h.imp fun ds ⟨ed,hl,hs,hp⟩=>by
  subst ed;refine⟨fun i ρ' es=>OwnE own (frD fr ρ) ρ'/\es=(xs.take i).map B,⟨⟨F8 own none,by simp,rfl⟩,by simp⟩,fun D i d ρ' es hd ⟨ho,he⟩=>?_,fun ρ' es ⟨_,he⟩=>?_⟩
  ·rw [DX] at hd;cases eq:xs[i]? with
   | none=>rw [eq] at hd;cases hd
   | some x =>
    rw [eq] at hd;cases hd;have hi:i<xs.length:=(DN.mp eq).1;have hb:es.length<1000:=by
     rw [he,DM,Et];omega
    intro σ H v Q e r q;refine hs D x ρ' es (DS eq) ho hb σ H v Q e r fun ρ2 σ2 H2 g2 e2 p2=>q ρ2 σ2 H2 g2 e2 (p2.imp fun b hb2=>?_);cases b with
    | false =>
     rw [Jo DL] at hb2;exact hb2.elim
    | true =>
     rw [Jp rfl] at hb2 ⊢;intro h1 h2 σ3 H3 H4 W c k;exact hb2 h1 h2 σ3 H3 H4 W c fun ρ5 es5 σ5 H5 c5 ⟨o5,p5⟩=>k ρ5 es5 σ5 H5 c5 ⟨o5,by rw [p5,he,EK,eq,Eg];rfl⟩
  ·rw [he,DM,Eu];exact hp)
end
structure XLie (P:Program) (w:World) (outer:List Env) (H:Hp) (s:Shared) (e:DR) (C:Value) (H':Hp) (s':Shared):Prop where
 os:s'.os=s.os
 bare:AllBare s'.gens
 un:Un (frs outer) [] H H' s.heap s'.heap
 hok:HOk P w H' s'.heap
 fly:∃ B a0,Heap.FlyingW B outer e C a0 s'.heap/\(∀ b o,s.heap.get? b=some o->b∉frs outer->∃ o',B.get? b=some o')/\∀ b o,H' b=some o->∃ o',B.get? b=some o'
 new:s.heap.get? e=none
 free:H' e=none
def CXe (P:Program) (w:World):CXT:=fun outer H s E e s'=>∃ a C H',e=.ref a/\XLie P w outer H s a C H' s'/\E C none H'
end L2
end
section
namespace L2
open PySem PySem.Spec PyProof.Rows
end L2
end
section
namespace L2
open PySem PySem.Spec PySem.W PyProof.Rows PySem.Calls PySem.Builtin Builtin Builtin.ObjectAttr Builtin.Getset_descriptor
section
variable {prog:Program} {w:World} {A:Around} {E:Value->Shared->Prop} {s:Shared} {K:DP} {a C:DR}
structure ExcWays (K:DP) (C:DR):Prop where
 ga:findIn K (.ref C) "__getattribute__"=some (some (.builtin "BaseException.__getattribute__"))
 gt:findIn K (.ref C) "__getattr__"=some none
 cl:findIn K (.ref C) "__class__"=some (some (.builtin "object.__class__"))
 gs:specialIn K (.builtin "object.__class__") "__get__"=some (some (.builtin "getset_descriptor.__get__"))
 tk:takesIn K (.builtin "object.__class__")=some true
 ob:mroIn K C (.type "object")=some true
 be:mroIn K C (.type "BaseException")=some true
 iz:(clsIn K C).isSome=true
end
structure FnInX (P:Program) (w:World) (K:DP) (mg:Str->Option Value) (base:Heap) (k:Nat) (x:Str) (ps:List Str) (sp:Sp):Prop where
 ex:∃ (f:DR) (fd:FuncData),FnOk P w K mg base (CXe P w) k f fd ps sp/\mg x=some (.ref f)/\EZ K (.ref f)=true/\Binds K fd ps []
end L2
end
section
namespace L2
open PySem PySem.Spec PyProof.Rows
def BW (K:DP):List V->Hp->VK->Prop:=fun xs H Q=>∃ (a:DR) (bs:List Bool),xs=[.ref a]/\SqL K H a (bs.map V.bl)/\Q (.bl (bs.all id)) H
theorem ky:∀ {bs:List Bool} {us:List Value},Vals (bs.map V.bl) us->us=bs.map Value.bool
 | [],us,r=>by
  cases r;rfl
 | b :: bs,us,r=>by
  cases r with
  | cons h t =>
   rw [ky t];cases (show _=Value.bool b from h);rfl
theorem range_all (bs:List Bool):(Ec bs.length).all (fun i=>bs.getD i false)=bs.all id:=by
 rw [Bool.eq_iff_iff,Ga,Ga];constructor
 ·intro h b hb;obtain⟨i,hi,rfl⟩:=List.mem_iff_getElem.mp hb;have:=h i (Es.mpr hi)
  rwa [DO,DK hi] at this
 ·intro h i hi;have hi':=Es.mp hi;rw [DO,DK hi'];exact h _ (Eo hi')
theorem kA (prog:Program) (w:World) (A:Around) (bs:List Bool):TruthOf prog w A (fun i v=>(bs.map Value.bool).toArray[i]?=some v) (fun i=>bs.getD i false):=by
 intro i v s Q E hv hq;rw [List.getElem?_toArray,DX] at hv;cases eb:bs[i]? with
 | none=>rw [eb] at hv;cases hv
 | some b =>
  rw [eb] at hv;cases hv;dsimp only at hq;rw [DO,eb] at hq;exact DY hq
theorem rH {X:Cx} (hc:X.calm=true):yY X (.builtin "all") (BW X.K):=by
 intro Jn s σ H xs us Q I r h;obtain⟨a,bs,rfl,hq,q⟩:=h;obtain⟨u,rfl,r1⟩:=vals1 r;cases r1;obtain⟨its,rv,p,_⟩:=I.list hq;have hl:=p.isList;rw [ky rv] at hl;have ha:a<s.heap.objs.size:=by
  obtain⟨o,ho,_⟩:=hl;exact Eb ho
 refine call_all_walk (wpAny_pyIter_list hl ?_);have hne:a≠s.heap.objs.size:=Ez ha;refine⟨s.heap.objs.size,_,_,_,_,_,_,rfl,Walks.list (show (X.A.in1).handled=none from I.ok.hd hc) _ a hne _,⟨?_,?_⟩,kA _ _ _ bs,fun h' tk hk=>?_⟩
 ·exact⟨_,Ey _ rfl,rfl,rfl⟩
 ·exact hl.at fun o e=>D3 _ e
 ·have kp:∀ b o,s.heap.get? b=some o->h'.get? b=some o:=fun b o e=>hk b o (by
   intro z;have:=Eb e;rw [Ej.mp z] at this;exact FL _ this) (D3 _ e)
  refine⟨.bl _,H,I.kept (t':=tk) kp,?_,q⟩;show Value.bool _=Value.bool _;rw [D9,DM,range_all]
theorem fL {X:Cx} {K:DP} (hK:X.K=K) (hc:X.calm=true):yY X (.builtin "all") (BW K):=hK▸rH hc
section
variable {K:DP} {f:Fx} {ρ:zw} {P:PyData->Prop} {te:TE}
theorem eD {H:Hp}:∀ {bs:List Bool} {xs:List V},Reps K H (bs.map .bool) xs->xs=bs.map V.bl
 | [],xs,r=>zV.mp r
 | b :: bs,xs,r=>by
  obtain⟨x,r',rfl,h1,h2⟩:=zG.mp r;rw [eD h2,zZ.mp h1];rfl
theorem A3 (h:PEd K f te ρ fun x=>∃ bs:List Bool,x=.list (bs.map .bool)/\P (.bool (bs.all id))):PEd K f (tCB (BW K) (zT te jT)) ρ P:=fun σ H Q e q=>h σ H _ e fun x v H1 g1 r1 ⟨bs,ex,p⟩=>by
 subst ex;obtain⟨a,xs,rfl,h1,h2⟩:=zO.mp r1;rw [eD h2] at h1;exact⟨a,bs,rfl,(zt _ _).seq h1,q _ _ H1 g1 (zZ.mpr rfl) p⟩
end
section
variable {prog:Program} {w:World} {A:Around} {E:Value->Shared->Prop}
theorem fM {I:DR} {fp wr:List DR} {n:Nat} {P:Nat->Value->Prop} {St:Nat->Heap->Prop} (W:Walks prog w A I fp wr n P St):∀ (k i:Nat) (s:Shared) (Q:List Value->Shared->Prop),i+k<=n->St i s.heap ->
  (∀ vs h' tk,vs.length=k->(∀ (j:Nat) v,vs[j]?=some v->P (i+j) v)->St (i+k) h'->(∀ b o,b∉wr->s.heap.get? b=some o->h'.get? b=some o)->Q vs { s with heap:=h',toks:=tk })->Ef (model prog w) A (draw (.ref I) k) Q E s
 | 0,i,s,Q,_,st,hQ=>DY (hQ [] s.heap s.toks rfl (fun j v e=>by simp at e) st fun _ _ _ e=>e)
 | k+1,i,s,Q,hle,st,hQ=>by
  show Ef _ _ (pyNext (.ref I) >>= _) Q E s;refine DQ (W.item i s _ E (by omega) st fun v h1 tk1 hv st1 k1=>?_);refine DQ (EF (fM W k (i+1) _ _ (by omega) st1 fun vs h2 tk2 hl hp st2 k2=>DY ?_));refine hQ (v :: vs) h2 tk2 (by rw [Ea,hl]) (fun j u e=>?_) (by rw [show i+(k+1)=i+1+k by omega];exact st2) fun b o hb e=>k2 b o hb (k1 b o hb e);cases j with
  | zero=>cases e;exact hv
  | succ j =>
   have:=hp j u e
   rwa [show i+(j+1)=i+1+j by omega]
theorem l9 {s:Shared} {a:DR} {items:Array Value} {targets:List (Bool×(Value->Sem Unit))} {Q:Unit->Shared->Prop} (hh:A.handled=none) (hl:s.heap.IsList a items)
  (hn:targets.length=items.size) (hstar:targets.findIdx? (·.1)=none)
  (h:∀ h' tk,(∀ b o,s.heap.get? b=some o->h'.get? b=some o)->Ef (model prog w) A (assignInOrder (targets.map (·.2)) items.toList) Q E { s with heap:=h',toks:=tk }):Ef (model prog w) A (unpack (.ref a) targets) Q E s:=by
 have ha:a<s.heap.objs.size:=by
  obtain⟨o,ho,_⟩:=hl;exact Eb ho
 unfold unpack;rw [hn,hstar];refine DQ (EF ?_);unfold unpackItems;refine DQ ?_;unfold notIterableAtAll;refine DQ (Gs hl.typeIs slot_list_iter.lookup (DY ?_));simp only [EC,if_false];refine DQ (EF (wpAny_pyIter_list hl ?_));have W:=Walks.list (prog:=prog) (w:=w) hh s.heap.objs.size a (Ez ha) items;have fr:∀ b o,s.heap.get? b=some o->b∉[s.heap.objs.size]:=fun b o e z=>by
  have:=Eb e;rw [Ej.mp z] at this;exact FL _ this
 refine DQ (EF (fM W items.size 0 _ _ (by omega) ⟨⟨_,Ey _ rfl,rfl,rfl⟩,hl.at fun o e=>D3 _ e⟩ fun vs h1 tk1 hvl hp st1 k1=>?_));have ev:vs=items.toList:=by
  refine G5 fun j=>?_;by_cases hj:j<vs.length
  ·have:=hp j _ (DK hj);rw [Il] at this;rw [DK hj,<- this,IA]
  ·rw [En (by omega),En (by rw [D8];omega)]
 subst ev;rw [Jo (by simp)];rw [Il] at st1;refine DQ (EF (W.done _ _ _ st1 fun h2 tk2 k2=>?_));simp only [Option.isSome_none,EC,if_false];exact DY (h h2 tk2 fun b o e=>k2 b o (fr b o e) (k1 b o (fr b o e) (D3 _ e)))
end
def C8 (K:DP) (n:Nat) (gs:TGs):TG:=fun v σ H Q=>∃ a xs,v=.ref a/\SqL K H a xs/\xs.length=n/\gs xs σ H Q
theorem gR {X:Cx} {K:DP} {es:List Expr} {k:Nat} {t:TGs} {n:Nat} {pos:Pos} (hK:X.K=K) (hc:X.calm=true) (h:PGs X es t)
  (hn:(assignEach es X.env).length=n:=by rfl) (hst:(assignEach es X.env).findIdx? (·.1)=none:=by rfl):PG X (.Tuple es k pos) (C8 K n t):=by
 subst hK;intro Jn s σ H v u Q I r hw;obtain⟨a,xs,e1,hq,hl,hw⟩:=hw;subst e1;cases r;obtain⟨its,rv,p,hz⟩:=I.list hq;rw [assign_Tuple];refine DQ (wpAny_standAt (l9 (I.ok.hd hc) p.isList (by rw [hn,<- hl,rv.length,D9]) hst fun h' tk kp=>?_));exact h Jn _ σ H xs _ Q (I.kept (t':=tk) kp) rv hw
section
variable {K:DP} {f:Fx} {ρ:zw}
theorem uf {n:Nat} {gs:TGs} {ds:List PyData} {R:zw->Prop} (hn:ds.length=n) (h:t7 K f gs ds ρ R):PGd K f (C8 K n gs) (.list ds) ρ R:=fun σ H v Q e r q=>by
 obtain⟨a,xs,rfl,h1,h2⟩:=zO.mp r;exact⟨a,xs,rfl,(zt _ _).seq h1,by rw [h2.length];exact hn,h σ H xs Q e h2 q⟩
end
def BX (K:DP) (neg:Bool):R2:=fun x y H Q=>∃ d ds,Rep K H d x/\Rep K H (.list ds) y/\d.canLay0=true/\(∀ e∈ds,e.canLay0=true)/\d.depth<=50/\Q (.bl (if neg then !ds.any (fun e=>Ei e d) else ds.any (fun e=>Ei e d))) H
open Classical in
noncomputable def eqR (h:Heap) (d:PyData) (u:Value):Bool:=if z:∃ e as,Reads h u e as/\e.canLay0=true then Ei z.choose d else false
theorem ug {h:Heap} {d e:PyData} {u:Value} {as:List DR} (r:Reads h u e as) (c:e.canLay0=true):eqR h d u=Ei e d:=by
 have z:∃ e as,Reads h u e as/\e.canLay0=true:=⟨e,as,r,c⟩;unfold eqR;rw [dif_pos z];obtain⟨as',r',c'⟩:=z.choose_spec;rw [SeqAt.Reads.unique _ _ _ _ _ c' r' r]
section
variable {X:Cx} {Jn:List (DR×Obj)} {σ:St} {H:Hp} {s:Shared}
theorem nK (I:Inv X Jn σ H s) {d:PyData}:∀ {ds:List PyData} {xs:List V} {us:List Value},Reps X.K H ds xs->Vals xs us->(∀ e∈ds,e.canLay0=true)->us.any (eqR s.heap d)=ds.any (fun e=>Ei e d)
 | [],xs,us,r,v,_=>by
  rw [zV.mp r] at v;cases v;rfl
 | e :: ds,xs,us,r,v,c=>by
  obtain⟨x,xs',rfl,h1,h2⟩:=zG.mp r;cases v with
  | cons r1 r2 =>
   obtain⟨as,ra⟩:=jz I e x _ h1 r1;rw [HU,HU,ug ra (c e DZ),nK I h2 r2 fun e he=>c e (DT _ he)]
theorem kB (I:Inv X Jn σ H s) {A:Around} {d:PyData} {v:Value} {bs:List DR} (rb:Reads s.heap v d bs) (cd:d.canLay0=true) (dd:d.depth<=50) (hu:A.units+60<Fh):∀ {ds:List PyData} {xs:List V} {us:List Value},Reps X.K H ds xs->Vals xs us->(∀ e∈ds,e.canLay0=true)->∀ u∈us,SeqAt.EqAt A s u v (eqR s.heap d u)
 | [],xs,us,r,w,_=>by
  rw [zV.mp r] at w;cases w;intro u hu;cases hu
 | e :: ds,xs,us,r,w,c=>by
  obtain⟨x,xs',rfl,h1,h2⟩:=zG.mp r;cases w with
  | cons r1 r2 =>
   intro u hm;rcases D0.mp hm with rfl | hm
   ·obtain⟨as,ra⟩:=jz I e x _ h1 r1;rw [ug ra (c e DZ)];refine SeqAt.eqAt_reads e d A s _ v as bs ra rb (c e DZ) cd ?_;have:=Nat.min_le_right e.depth d.depth;omega
   ·exact kB I rb cd dd hu h2 r2 (fun e he=>c e (DT _ he)) u hm
theorem rJ {K:DP} (hK:X.K=K):OpR X (EU .NotIn) (rIn K true):=hK▸gL
end
section
variable {K:DP} {f:Fx} {ρ:zw} {P:PyData->Prop} {te ta tb:TE} {t:TA} {D:DEnds} {i j:Nat}
theorem uh (h:PEd K f ta ρ fun d=>∃ n:Int,d=.int n/\PEd K f tb ρ fun y=>∃ ns:List Int,y=.tuple (ns.map .int)/\P (.bool (!ns.contains n))):PEd K f (tOp (rIn K true) ta tb) ρ P:=fun σ H Q e q =>
 h σ H _ e fun d v H1 g1 r1 ⟨n,ed,p1⟩=>p1 σ H1 _ (e.mono g1) fun y w H2 g2 r2 ⟨ns,ey,p2⟩=>by
  subst ed ey;obtain⟨a,xs,rfl,h1,h2⟩:=zX.mp r2;have ex:=h2.ints;subst ex;rw [zx.mp r1];have e1:inV (.int n) (ns.map V.int)=ns.contains n:=by
   unfold inV;rw [List.any_map,List.contains_eq_any_beq]
   congr 1
   funext m
   show (m == n)=(n == m);exact BEq.comm
  refine⟨a,_,rfl,.inr ((zt _ _).seqT h1),rfl,?_,?_⟩
  ·rw [List.all_map];exact Ga.mpr fun _ _=>rfl
  ·rw [Jp rfl,e1];exact q _ _ H2 (g1.trans g2) (zZ.mpr rfl) p2
theorem A4 (h:PAd K f t ρ fun xs=>∃ d d',xs=[.dat d,.dat d']/\D.nx ((ρ.set i (some (.dat d))).set j (some (.dat d')))):PSd K f (CO i j t) ρ D:=fun σ H E e n r b c =>
 h σ H _ e fun xs vs H1 g1 r1 ⟨d,d',ex,p⟩=>by
  subst ex;cases r1 with
  | cons ra rs =>
   cases rs with
   | cons rb rs =>
    cases rs;exact⟨_,_,rfl,n _ _ H1 g1 (((e.mono g1).set i (x:=.dat d) ra).set j (x:=.dat d') rb) p⟩
end
section
variable {K:DP} {f:Fx} {ρ:zw} {D:DEnds}
theorem xA {tc:TT} {tb:TS} (J:zw->Prop) (μ:zw->Nat) (h0:J ρ)
  (hs:∀ ρ',J ρ'->PTd K f tc ρ' fun b=>if b=true then PSd K f tb ρ' { D with nx:=fun r=>J r/\μ r<μ ρ',ct:=fun r=>J r/\μ r<μ ρ',bk:=D.nx } else D.nx ρ'):PSd K f (lV tc tb) ρ D:=fun σ H E e n r b c=>by
 refine⟨fun m σ' H'=>∃ ρ',EnvOk K f ρ' σ' H'/\Goes f H H'/\J ρ'/\m=μ ρ',⟨_,ρ,e,.refl e.fd,h0,rfl⟩,?_⟩;rintro m σ1 H1 ⟨ρ1,e1,g1,j1,rfl⟩;refine hs ρ1 j1 σ1 H1 _ e1 fun t H2 g2 p=>?_;cases t with
 | true =>
  rw [Jp rfl] at p ⊢;refine⟨fun σ' H'=>∃ ρ',EnvOk K f ρ' σ' H'/\Goes f H H'/\J ρ'/\μ ρ'<μ ρ1,fun σ' H' ⟨ρ',e',g',j',l'⟩=>⟨_,l',ρ',e',g',j',rfl⟩,?_⟩;have gg:=g1.trans g2;exact p σ1 H2 _ (e1.mono g2) (fun ρ5 σ5 H5 g5 e5 p5=>⟨ρ5,e5,gg.trans g5,p5⟩) (fun d v H5 g5 r5 p5=>r d v H5 (gg.trans g5) r5 p5) (fun ρ5 σ5 H5 g5 e5 p5=>n ρ5 σ5 H5 (gg.trans g5) e5 p5) (fun ρ5 σ5 H5 g5 e5 p5=>⟨ρ5,e5,gg.trans g5,p5⟩)
 | false =>
  rw [Jo DL] at p ⊢;exact n ρ1 σ1 H2 (g1.trans g2) (e1.mono g2) p
end
section
variable {K:DP} {f:Fx} {ρ:zw} {E:XK} {te:TE} {ts tu:TS} {tt:TT} {t:TA} {P:PyData->Prop} {D:DEnds}
theorem C9 (h:PEd K f te ρ fun x=>∃ i,x=.int i/\P (.int (-i))):PEd K f (tUn (rU fun i=>.int (-i)) te) ρ P :=
 DC (h.imp fun x ⟨i,ex,p⟩ v H Q fo r q=>by
  subst ex;exact⟨i,zx.mp r,q _ _ H (.refl fo) (zx.mpr rfl) p⟩)
end
section
variable {X:Cx}
theorem rK (hu:X.A.units+64<Fh):OpR X (EU .NotIn) (BX X.K true):=by
 intro Jn s σ H x y v u Q I rx ry h;obtain⟨d,ds,h1,h2,c1,c2,dd,q⟩:=h;obtain⟨a,xs,rfl,hq,hr⟩:=zO.mp h2;cases ry;obtain⟨bs,rb⟩:=jz I d x v h1 rx;obtain⟨its,r,pl,hz⟩:=I.list hq;refine SeqAt.notIn_listAt (eqR s.heap d) pl.isList (fun w hw=>kB I rb c1 dd (show X.A.in1.units+60<Fh from by show X.A.units+1+60<Fh;omega) hr r c2 w (by simpa using hw)) ⟨.bl _,H,I,rfl,?_⟩;rw [show its.toArray.any (eqR s.heap d)=its.any (eqR s.heap d) by simp,nK I hr r c2];exact q
theorem ma {K:DP} (hK:X.K=K) (hu:X.A.units+64<Fh):OpR X (EU .NotIn) (BX K true):=hK▸rK hu
end
section
variable {K:DP} {f:Fx} {ρ:zw} {P:PyData->Prop} {te ta tb:TE}
theorem ui (h:PEd K f ta ρ fun d=>PEd K f tb ρ fun y=>∃ ds,y=.list ds/\d.canLay0=true/\(∀ e∈ds,e.canLay0=true)/\d.depth<=50/\P (.bool (!ds.any fun e=>Ei e d))):PEd K f (tOp (BX K true) ta tb) ρ P:=fun σ H Q e q =>
 h σ H _ e fun d v H1 g1 r1 p1=>p1 σ H1 _ (e.mono g1) fun y w H2 g2 r2 ⟨ds,ey,c1,c2,dd,p2⟩=>by
  subst ey;exact⟨d,ds,Rep.mono (zt _ _) _ _ (Rep.mono g2.sm _ _ r1),Rep.mono (zt _ _) _ _ r2,c1,c2,dd,q _ _ H2 (g1.trans g2) (zZ.mpr rfl) p2⟩
end
end L2
end
section
namespace L2
open PySem PySem.Spec PyProof.Rows
def BY (K:DP):List V->Hp->VK->Prop:=fun xs H Q=>∃ (a:DR) (ns:List Int),xs=[.ref a]/\SqL K H a (ns.map V.int)/\Q (.int ns.sum) H
theorem rL {X:Cx} (hc:X.calm=true):yY X (.builtin "sum") (BY X.K):=by
 intro Jn s σ H xs us Q I r h;obtain⟨a,ns,rfl,hq,q⟩:=h;obtain⟨u,rfl,r1⟩:=vals1 r;cases r1;obtain⟨its,rv,p,_⟩:=I.list hq;have hl:=p.isList;have hi:IntsAre its ns:=intsAre_of rv;obtain⟨zs,ez⟩:=hi.allInts.items;rw [ez] at hl;refine sum_intListG (show (X.A).handled=none from I.ok.hd hc) hl fun h' tk t' kp=>⟨.int _,H,I.kept (t':=tk) kp,⟨_,rfl⟩,?_⟩;have e:preSum (numAt zs) zs.size=ns.sum:=by
  rw [<-hi.numsOf,show its=its.toArray.toList from rfl,ez,nums_intItems,preSum_eq,Gj (by simp)]
 rw [e];exact q
theorem md {X:Cx} {K:DP} (hK:X.K=K) (hc:X.calm=true):yY X (.builtin "sum") (BY K):=hK▸rL hc
section
variable {K:DP} {f:Fx} {ρ:zw} {P:PyData->Prop} {te:TE}
theorem Dc (h:PEd K f te ρ fun x=>∃ ns:List Int,x=.list (ns.map .int)/\P (.int ns.sum)):PEd K f (tCB (BY K) (zT te jT)) ρ P:=fun σ H Q e q=>h σ H _ e fun x v H1 g1 r1 ⟨ns,ex,p⟩=>by
 subst ex;obtain⟨a,xs,rfl,h1,h2⟩:=zO.mp r1;rw [h2.ints] at h1;exact⟨a,ns,rfl,(zt _ _).seq h1,q _ _ H1 g1 (zx.mpr rfl) p⟩
end
section
variable {prog:Program} {w:World} {A:Around} {E:Value->Shared->Prop} {s:Shared}
theorem xB {t b:DR} {vs ws:List Value} {Q:Value->Shared->Prop} (ht:PlainL s.heap t vs.toArray) (hb:PlainL s.heap b ws.toArray)
  (h2:Q (.ref s.heap.objs.size) { s with heap:=s.heap.push { cls:=.type "list",data:=.seq (vs++ws).toArray } })
  (hsz:vs.length+ws.length<=Ex):Ef (model prog w) A (binaryOp .Add (.ref t) (.ref b)) Q E s:=by
 obtain⟨⟨cls,dd,data,sl⟩,n,ho,hc,_,hd⟩:=ht;obtain⟨⟨cls2,dd2,data2,sl2⟩,n2,ho2,hc2,_,hd2⟩:=hb;simp only at hc hd hc2 hd2;subst hc hd hc2 hd2;have e:vs.toArray++ws.toArray=(vs++ws).toArray:=by simp
 refine concat_meets ⟨_,ho,rfl⟩ ⟨_,ho2,rfl⟩ noFill_list_add seq_list_add PySem.F.slot_list_add PySem.F.entry_list_add (PySem.F.args_list_add_2 _ _) (list_addW t b vs.toArray ws.toArray n n2 dd dd2 sl sl2 (by rw [D9,D9];exact hsz)) ⟨ho,ho2,?_⟩;rw [e];exact h2
end
def uj (K:DP):R2:=fun x y H Q=>∃ l b xs zs,x=.ref l/\y=.ref b/\SqL K H l xs/\SqL K H b zs/\xs.length+zs.length<=Ex/\∀ p,H p=none->Q (.ref p) (upd H p (.lst (xs++zs)))
section
variable {X:Cx}
theorem xC:OpR X (binaryOp .Add) (uj X.K):=by
 intro Jn s σ H x y v u Q I rx ry h;obtain⟨l,b,xs,zs,rfl,rfl,ha,hb,hz,q⟩:=h;cases rx;cases ry;obtain⟨its,r1,p1,_⟩:=I.list ha;obtain⟨its2,r2,p2,_⟩:=I.list hb;refine xB p1 p2 ?_ (by rw [<-r1.length,<- r2.length];exact hz);exact⟨.ref _,_,I.lnew (t':=s.toks) (r1.append r2) (by rw [D6];omega),rfl,q _ I.fresh⟩
theorem uk {K:DP} (hK:X.K=K):OpR X (binaryOp .Add) (uj K):=hK▸xC
end
section
variable {K:DP} {f:Fx} {ρ:zw} {P:PyData->Prop} {te ta tb:TE} {t:TA}
theorem BZ (h:PEd K f ta ρ fun x=>∃ ds,x=.list ds/\PEd K f tb ρ fun y=>∃ es,y=.list es/\ds.length+es.length<=1000/\P (.list (ds++es))):PEd K f (tOp (uj K) ta tb) ρ P:=fun σ H Q e q =>
 h σ H _ e fun x v H1 g1 r1 ⟨ds,ex,p1⟩=>p1 σ H1 _ (e.mono g1) fun y w H2 g2 r2 ⟨es,ey,hl,p2⟩=>by
  subst ex ey;obtain⟨a,xs,rfl,h1,h2⟩:=zO.mp (Rep.mono g2.sm _ _ r1);obtain⟨b,ys,rfl,h3,h4⟩:=zO.mp r2;have l1:=h2.length;have l2:=h4.length;refine⟨a,b,xs,ys,rfl,rfl,(zt _ _).seq h1,(zt _ _).seq h3,by rw [l1,l2];exact Fd (yy hl),fun p hn=>?_⟩;have g3:Goes f H2 (upd H2 p (.lst (xs++ys))):=.of_same (yD hn _) g2.ok;exact q (.list (ds++es)) _ _ (g1.trans (g2.trans g3)) (zO.mpr ⟨p,_,rfl,.of (zM (fresh_ne g2.ok hn) zR),Reps.mono g3.sm _ _ (h2.append h4)⟩) p2
theorem kC {R:List PyData->Prop} (h:PAd K f t ρ fun xs=>∃ ds,vH xs=some ds/\ds.length<=1000/\R ds):PEdO K f (tT t) ρ R:=fun σ H Q e q =>
 h σ H _ e fun xs vs H1 g1 r1 ⟨ds,ea,hl,p⟩=>by
  have rs:=aL r1 ea;refine⟨by rw [rs.length];exact Fd (yy hl),fun l hn=>?_⟩;have g2:Goes f H1 (upd H1 l (.lst vs)):=.of_same (yD hn _) g1.2;have nl:=fresh_ne g1.2 hn;refine q ds l vs _ (g1.trans g2) (g1.free e.fd hn) zR (Reps.mono (fun b o hb=>?_) _ _ rs) p;have hb':=zY hb;have hbl:b≠l:=fun z=>by
   have:=hb'.2;rw [z,hn] at this;cases this
  refine zM (fun z=>?_) (by rw [zN hbl];exact hb'.2);rcases z with z | z
  ·exact hb'.1 (.inl z)
  ·rcases D0.mp z with z | z
   ·exact hbl z
   ·exact hb'.1 (.inr z)
end
def spN {γ:Type} (K:DP) (n:Nat) (pre:γ->List DV->Prop) (post:γ->List PyData->Prop):Sp:=fun vs H Q _=>∃ f xs c,RepVs K f H xs vs/\xs.length=n/\FOk f H/\pre c xs /\
 ∀ es D vs' H',Goes f H H'->H D=none->H' D=some (.lst vs')->Reps K (hide H' (f.with D)) es vs'->post c es->Q (.ref D) H'
def PSn (K:DP) (f:Fx) (ts:TS) (ρ:zw) (R:List PyData->Prop):Prop:=∀ (σ:St) (H:Hp) (E:Ends),EnvOk K f ρ σ H ->
 (∀ es D vs H',Goes f H H'->H D=none->H' D=some (.lst vs)->Reps K (hide H' (f.with D)) es vs->R es->E.rt (.ref D) H')->ts E σ H
section
variable {K:DP} {f:Fx} {ρ:zw} {R:List PyData->Prop} {te:TE} {ts tu:TS} {tt:TT} {t:TA} {i:Nat} {D:DR} {es:List PyData} {O:OEnds}
theorem eE (h:PEdO K f te ρ R):PSn K f (dR te) ρ R:=fun σ H E e q=>h σ H E.rt e q
theorem ax (h:PSd K f ts ρ { nx:=fun ρ'=>PSn K f tu ρ' R,rt:=fun _=>False }):PSn K f (aY ts tu) ρ R:=fun σ H E e q =>
 h σ H _ e (fun ρ' σ' H' g' e' p=>p σ' H' E e' fun es D vs H2 g2 hn h1 rs r=>q es D vs H2 (g'.trans g2) (g'.free e.fd hn) h1 rs r) (fun _ _ _ _ _ z=>z.elim) (fun _ _ _ _ _ z=>z.elim) (fun _ _ _ _ _ z=>z.elim)
theorem A5 (h:PTd K f tt ρ fun b=>if b=true then PEdO K f te ρ R else PSn K f tu ρ R):PSn K f (aY (lU tt (dR te) fD) tu) ρ R:=fun σ H E e q =>
 h σ H _ e fun b H1 g1 p=>by
  have q1:∀ es D vs H',Goes f H1 H'->H1 D=none->H' D=some (.lst vs)->Reps K (hide H' (f.with D)) es vs->R es->E.rt (.ref D) H':=fun es D vs H' g' hn=>q es D vs H' (g1.trans g') (g1.free e.fd hn);cases b with
  | true=>rw [Jp rfl] at p ⊢;exact p σ H1 E.rt (e.mono g1) q1
  | false=>rw [Jo DL] at p ⊢;exact p σ H1 E (e.mono g1) q1
theorem eF {γ:Type} {n:Nat} {pre:γ->List DV->Prop} {post:γ->List PyData->Prop} {E:XK} (c:γ) (h:PAd K f t ρ fun xs=>xs.length=n/\pre c xs/\∀ es,post c es->R es):PEdO K f (j7 (spN K n pre post) [] E t) ρ R:=fun σ H Q e q =>
 h σ H _ e fun xs vs H1 g1 r1 ⟨hl,hp,k⟩=>⟨f,xs,c,by rw [ER];exact r1,hl,g1.2,hp,fun es D vs' H' g' hn h1 rs p=>q es D vs' H' (g1.trans g') (g1.free e.fd hn) h1 rs (k es p)⟩
theorem A6 {ta tb:TE} (h:PTd K f tt ρ fun b=>if b=true then PEdO K f ta ρ R else PEdO K f tb ρ R):PEdO K f (tIf tt ta tb) ρ R:=fun σ H Q e q =>
 h σ H _ e fun b H1 g1 p=>by
  have q1:∀ es D vs H',Goes f H1 H'->H1 D=none->H' D=some (.lst vs)->Reps K (hide H' (f.with D)) es vs->R es->Q (.ref D) H':=fun es D vs H' g' hn=>q es D vs H' (g1.trans g') (g1.free e.fd hn);cases b with
  | true=>rw [Jp rfl] at p ⊢;exact p σ H1 Q (e.mono g1) q1
  | false=>rw [Jo DL] at p ⊢;exact p σ H1 Q (e.mono g1) q1
end
section
variable {P:Program} {w:World} {K:DP} {mg:Str->Option Value} {base:Heap} {k:Nat} {x:Str} {st:Stmt} {ps:List Str} {N:List Str} {n:Nat} {γ:Type} {pre:γ->List DV->Prop} {post:γ->List PyData->Prop}
theorem Def.okN (F:Def K mg x st ps) (S:FnScope N ps (zi st)) (hn:ps.length=n)
  (h:∀ (fa:DR) (cdv:Value) (A:Around) (outer:List Env) (s:Shared) (H:Hp) (E:XK),Room k (A.deeper (envOfC x (zi st) s.heap.objs.size fa cdv)) ->
   ∃ t,PSs (ye CX0 P w K mg base N x (zi st) fa cdv A outer s H E).nox (yM st) t/\∀ (f:Fx) (xs:List DV) (c:γ),xs.length=n->pre c xs->PSn K f t (vI N xs) (post c)) :
  FnIn P w K mg base (k+1) x ps (spN K n pre post):=by
 obtain⟨fa,fd,F1,F2,F3⟩:=F.ex;refine⟨fa,fd,F1.ok S (fun vs H Q E h=>?_) (fun cdv A outer s H vs Q E hr hs=>?_),F3,F1.kp,F2⟩
 ·obtain⟨f,xs,c,r,hl,_⟩:=h;rw [r.length,hl,hn]
 ·obtain⟨f,xs,c,r,hl,fo,hp,q⟩:=hs;obtain⟨t,h1,h2⟩:=h fa cdv A outer s H E hr;exact⟨t,h1,h2 f xs c hl hp (start N vs) H _ (aM r fo) (fun es D vs' H' g hn' h1' rs p=>q es D vs' H' g hn' h1' rs p)⟩
end
end L2
end
section
namespace L2
open PySem PySem.W PyProof.Rows
structure Tot (n:Nat) (lt:Nat->Nat->Bool):Prop where
 tri:∀ i j,i<n->j<n->i≠j->lt i j=!lt j i
 tra:∀ i j k,i<n->j<n->k<n->lt i j=true->lt j k=true->lt i k=true
def Ans (cmp:Nat->Nat->(Bool->Shared->Prop)->Shared->Prop) (n:Nat) (lt:Nat->Nat->Bool) (s:Shared):Prop:=∀ i j C,i<n->j<n->C (lt i j) s->cmp i j C s
def Pm (n:Nat) (p:Array Nat):Prop:=p.toList.Perm (Ec n)
def Up (lt:Nat->Nat->Bool) (p:Array Nat) (m:Nat):Prop:=∀ i j,i<j->j<m->lt (p.getD i 0) (p.getD j 0)=true
def Dn (lt:Nat->Nat->Bool) (p:Array Nat) (m:Nat):Prop:=∀ i j,i<j->j<m->lt (p.getD j 0) (p.getD i 0)=true
theorem Pm.size {n:Nat} {p:Array Nat} (h:Pm n p):p.size=n:=by
 have:=h.length_eq
 rwa [D8,EJ] at this
theorem qR (p:Array Nat) (i:Nat):p.getD i 0=p.toList.getD i 0:=by
 by_cases h:i<p.size <;> simp [Gm,h,List.getD]
theorem Pm.lt {n:Nat} {p:Array Nat} (h:Pm n p) {i:Nat} (hi:i<n):p.getD i 0<n:=by
 have hs:=h.size;have hl:i<p.toList.length:=by rw [D8,hs];exact hi
 rw [qR,DO,DK hl];exact Es.mp (h.mem_iff.mp (Eo hl))
theorem Pm.ne {n:Nat} {p:Array Nat} (h:Pm n p) {i j:Nat} (hi:i<n) (hj:j<n) (ne:i≠j):p.getD i 0≠p.getD j 0:=by
 have hs:=h.size;have nd:p.toList.Nodup:=h.nodup_iff.mpr Ig;have li:i<p.toList.length:=by rw [D8,hs];exact hi
 have lj:j<p.toList.length:=by rw [D8,hs];exact hj
 rw [qR,qR,DO,DO,DK li,DK lj];intro e;exact ne ((GD nd).mp e)
theorem Pm.range (n:Nat):Pm n (E5 (Ec n)):=List.Perm.refl _
theorem Pm.of {n:Nat} {p q:Array Nat} (h:Pm n p) (e:q.Perm p):Pm n q:=(Array.perm_iff_toList_perm.mp e).trans h
theorem nL {p q:Array Nat} {i j:Nat} (h:p[i]?=q[j]?):p.getD i 0=q.getD j 0:=by
 rw [FI,FI,h]
section
variable {cmp:Nat->Nat->(Bool->Shared->Prop)->Shared->Prop} {n:Nat} {lt:Nat->Nat->Bool} {s:Shared} {p:Array Nat}
theorem Up.more (T:Tot n lt) (hp:Pm n p) {m:Nat} (h1:1<=m) (hm:m<n) (u:Up lt p m) (h:lt (p.getD (m - 1) 0) (p.getD m 0)=true):Up lt p (m+1):=fun i j hij hj=>by
 by_cases e:j=m
 ·subst e;by_cases e2:i=j - 1
  ·subst e2;exact h
  ·exact T.tra _ _ _ (hp.lt (by omega)) (hp.lt (by omega)) (hp.lt hm) (u i (j - 1) (by omega) (by omega)) h
 ·exact u i j hij (by omega)
theorem Dn.more (T:Tot n lt) (hp:Pm n p) {m:Nat} (h1:1<=m) (hm:m<n) (u:Dn lt p m) (h:lt (p.getD m 0) (p.getD (m - 1) 0)=true):Dn lt p (m+1):=fun i j hij hj=>by
 by_cases e:j=m
 ·subst e;by_cases e2:i=j - 1
  ·subst e2;exact h
  ·exact T.tra _ _ _ (hp.lt hm) (hp.lt (by omega)) (hp.lt (by omega)) h (u i (j - 1) (by omega) (by omega))
 ·exact u i j hij (by omega)
theorem dt (T:Tot n lt) (W:Ans cmp n lt s) (hp:Pm n p) {Q:Nat->Shared->Prop}:∀ f m,1<=m->m+f<=n->Up lt p m->(∀ m',m<=m'->m'<=m+f->Up lt p m'->(m'=m+f \/ lt (p.getD m' 0) (p.getD (m' - 1) 0)=true)->Q m' s)->(kas_asc p f m).kasWp cmp Q s
 | 0,m,h1,hf,u,q=>q m (DU _) (DU _) u (.inl rfl)
 | f+1,m,h1,hf,u,q=>by
  refine W _ _ _ (hp.lt (by omega)) (hp.lt (by omega)) ?_;cases e:lt (p.getD m 0) (p.getD (m - 1) 0) with
  | true=>exact q m (DU _) (by omega) u (.inr e)
  | false =>
   have e2:lt (p.getD (m - 1) 0) (p.getD m 0)=true:=by
    rw [T.tri _ _ (hp.lt (by omega)) (hp.lt (by omega)) (hp.ne (by omega) (by omega) (by omega)),e];rfl
   exact dt T W hp f (m+1) (by omega) (by omega) (u.more T hp h1 (by omega) e2) fun m' a b c d=>q m' (by omega) (by omega) c (d.imp (fun z=>by omega) id)
theorem kD (T:Tot n lt) (W:Ans cmp n lt s) (hp:Pm n p) {Q:Array Nat×Nat×Nat->Shared->Prop}:∀ f m,1<=m->m+f<=n->Dn lt p m->(∀ m',m<=m'->m'<=m+f->Dn lt p m'->Q (p,m',0) s)->(kas_desc f p m 0).kasWp cmp Q s
 | 0,m,h1,hf,u,q=>q m (DU _) (DU _) u
 | f+1,m,h1,hf,u,q=>by
  refine W _ _ _ (hp.lt (by omega)) (hp.lt (by omega)) ?_;cases e:lt (p.getD m 0) (p.getD (m - 1) 0) with
  | true=>exact kD T W hp f (m+1) (by omega) (by omega) (u.more T hp h1 (by omega) e) fun m' a b c=>q m' (by omega) (by omega) c
  | false =>
   have e2:lt (p.getD (m - 1) 0) (p.getD m 0)=true:=by
    rw [T.tri _ _ (hp.lt (by omega)) (hp.lt (by omega)) (hp.ne (by omega) (by omega) (by omega)),e];rfl
   refine W _ _ _ (hp.lt (by omega)) (hp.lt (by omega)) ?_;rw [e2];exact q m (DU _) (by omega) u
theorem B0 {m:Nat} (hm:m<=p.size) (d:Dn lt p m):Up lt (kas_rev p 0 m) m:=fun i j hij hj=>by
 have g:∀ k,k<m->(kas_rev p 0 m).getD k 0=p.getD (m - 1 - k) 0:=fun k hk=>nL (by
  unfold kas_rev;rw [getElem?_mirror_all hm,Jp ⟨EE _,hk⟩,Il])
 rw [g i (by omega),g j hj];exact d _ _ (by omega) (by omega)
theorem rM (T:Tot n lt) (W:Ans cmp n lt s) (hp:Pm n p) (hn:1<=n) {Q:Nat×Array Nat->Shared->Prop} (q:∀ m p',1<=m->m<=n->Pm n p'->Up lt p' m->Q (m,p') s):(kas_count n p).kasWp cmp Q s:=by
 unfold kas_count;rw [KasT.kasWp_bind];refine dt T W hp (n - 1) 1 (DU _) (by omega) (fun i j a b=>by omega) fun m h1 h2 u c=>?_;by_cases e:(m == n)=true
 ·rw [Jp e];exact q m p h1 (by omega) hp u
 ·rw [Jo e];have hm:m<n:=by
   have:m≠n:=fun z=>e (by rw [z];exact beq_self_eq_true _);omega
  by_cases e2:m > 1
  ·rw [Jp e2];refine W _ _ _ (hp.lt (by omega)) (hp.lt (by omega)) ?_;rw [u 0 (m - 1) (by omega) (by omega)];exact q m p h1 (by omega) hp u
  ·rw [Jo e2];obtain rfl:m=1:=by omega
   have c':lt (p.getD 1 0) (p.getD (1 - 1) 0)=true:=c.resolve_left (by omega);unfold kas_descPart;rw [KasT.kasWp_bind];refine kD T W hp (n - (1+1)) (1+1) (by omega) (by omega) (Dn.more T hp (DU 1) hm (fun i j a b=>by omega) c') fun m' a b d=>?_;rw [Jo (by show ¬ (0 > 0);omega)];unfold kas_tail3;rw [KasT.kasWp_bind];have hp2:Pm n (kas_rev p 0 m'):=hp.of (mirror_perm _ _ _ _);exact dt T W hp2 (n - m') m' (by omega) (by omega) (B0 (by rw [hp.size];omega) d) fun m2 a2 b2 u2 _=>q m2 _ (by omega) (by omega) hp2 u2
theorem cz (T:Tot n lt) (W:Ans cmp n lt s) (hp:Pm n p) {k:Nat} (hk:k<n) (u:Up lt p k) {Q:Nat->Shared->Prop}:∀ f l r,r - l<=f->l<=r->r<=k->(∀ i,i<l->lt (p.getD i 0) (p.getD k 0)=true)->(∀ i,r<=i->i<k->lt (p.getD k 0) (p.getD i 0)=true) ->
  (∀ m,m<=k->(∀ i,i<m->lt (p.getD i 0) (p.getD k 0)=true)->(∀ i,m<=i->i<k->lt (p.getD k 0) (p.getD i 0)=true)->Q m s)->(kas_place p k f l r).kasWp cmp Q s
 | 0,l,r,hf,hlr,hr,lo,hi,q=>by
  obtain rfl:l=r:=by omega
  exact q l hr lo hi
 | f+1,l,r,hf,hlr,hr,lo,hi,q=>by
  unfold kas_place;by_cases e:l >= r
  ·rw [Jp e];obtain rfl:l=r:=by omega
   exact q l hr lo hi
  ·rw [Jo e];refine W _ _ _ (hp.lt hk) (hp.lt (by omega)) ?_;have hm:(l+r) / 2<k:=by omega
   cases e2:lt (p.getD k 0) (p.getD ((l+r) / 2) 0) with
   | true =>
    refine cz T W hp hk u f l ((l+r) / 2) (by omega) (by omega) (by omega) lo (fun i h1 h2=>?_) q;by_cases e3:i=(l+r) / 2
    ·rw [e3];exact e2
    ·exact T.tra _ _ _ (hp.lt hk) (hp.lt (by omega)) (hp.lt (by omega)) e2 (u _ _ (by omega) h2)
   | false =>
    have e4:lt (p.getD ((l+r) / 2) 0) (p.getD k 0)=true:=by
     rw [T.tri _ _ (hp.lt (by omega)) (hp.lt hk) (hp.ne (by omega) hk (by omega)),e2];rfl
    refine cz T W hp hk u f ((l+r) / 2+1) r (by omega) (by omega) hr (fun i h1=>?_) hi q;by_cases e3:i=(l+r) / 2
    ·rw [e3];exact e4
    ·exact T.tra _ _ _ (hp.lt (by omega)) (hp.lt (by omega)) (hp.lt hk) (u _ _ (by omega) hm) e4
theorem B1 {k m:Nat} (hk:k<p.size) (hm:m<=k) (u:Up lt p k) (lo:∀ i,i<m->lt (p.getD i 0) (p.getD k 0)=true) (hi:∀ i,m<=i->i<k->lt (p.getD k 0) (p.getD i 0)=true):Up lt (bubble p k (k - m)) (k+1):=fun i j hij hj=>by
 have g:∀ t,t<=k->(bubble p k (k - m)).getD t 0=p.getD (if t=m then k else if t<m then t else t - 1) 0:=fun t ht=>nL (by
  rw [getElem?_bubble hk (k - m) (by omega),show k - (k - m)=m by omega];by_cases e1:t=m
  ·rw [Jp e1,Jp e1]
  ·rw [Jo e1,Jo e1];by_cases e2:t<m
   ·rw [Jo (by omega),Jp e2]
   ·rw [Jp (by omega),Jo e2])
 rw [g i (by omega),g j (by omega)];by_cases a1:i=m
 ·rw [Jp a1,Jo (by omega),Jo (by omega)];exact hi _ (by omega) (by omega)
 ·rw [Jo a1];by_cases a2:j=m
  ·rw [Jp a2,Jp (by omega)];exact lo _ (by omega)
  ·rw [Jo a2];by_cases a3:i<m
   ·rw [Jp a3];by_cases a4:j<m
    ·rw [Jp a4];exact u _ _ hij (by omega)
    ·rw [Jo a4];exact u _ _ (by omega) (by omega)
   ·rw [Jo a3,Jo (by omega)];exact u _ _ (by omega) (by omega)
theorem nM (T:Tot n lt) (W:Ans cmp n lt s) {Q:Array Nat->Shared->Prop}:∀ f k (p:Array Nat),Pm n p->k+f=n->Up lt p k->(∀ p',Pm n p'->Up lt p' n->Q p' s)->(kas_bin f p k).kasWp cmp Q s
 | 0,k,p,hp,hf,u,q=>by
  obtain rfl:k=n:=by omega
  exact q p hp u
 | f+1,k,p,hp,hf,u,q=>by
  unfold kas_bin;rw [KasT.kasWp_bind];refine cz T W hp (by omega) u k 0 k (by omega) (EE _) (DU _) (fun i hi=>by omega) (fun i a b=>by omega) fun m h1 lo hi=>?_;exact nM T W f (k+1) _ (hp.of (bubble_perm _ _ _)) (by omega) (B1 (by rw [hp.size];omega) h1 u lo hi) q
theorem uo (T:Tot n lt) (W:Ans cmp n lt s) (hn:1<=n) {Q:Array Nat->Shared->Prop} (q:∀ p,Pm n p->Up lt p n->Q p s):(kas_sort n).kasWp cmp Q s:=by
 unfold kas_sort;rw [KasT.kasWp_bind];refine rM T W (Pm.range n) hn fun m p h1 h2 hp u=>?_;by_cases e:m<n
 ·show (if m<n then _ else _:KasT (Array Nat)).kasWp cmp Q s;rw [Jp e,show max m 1=m by omega];exact nM T W (n - m) m p hp (by omega) u q
 ·show (if m<n then _ else _:KasT (Array Nat)).kasWp cmp Q s;rw [Jo e];obtain rfl:m=n:=by omega
  exact q p hp u
end
end L2
end
section
namespace L2
open PySem PySem.W PySem.Calls PyProof.Rows
theorem fN:∀ f n r,r<=1->minRun' f n r<=n+1
 | 0,n,r,h=>by show n+r<=n+1;omega
 | f+1,n,r,h=>by
  rw [minRun'_succ];by_cases e:n<64
  ·rw [Jp e];omega
  ·rw [Jo e];have:=fN f (n / 2) (max r (n % 2)) (by omega);omega
theorem me {n:Nat} (h:1<=n):minRun' n n 0<=n:=by
 obtain⟨f,rfl⟩:∃ f,n=f+1:=⟨n - 1,by omega⟩;rw [minRun'_succ];by_cases e:f+1<64
 ·rw [Jp e];omega
 ·rw [Jo e];have:=fN f ((f+1) / 2) (max 0 ((f+1) % 2)) (by omega);omega
section
variable {P:Program} {w:World} {A:Around} {X:Value->Shared->Prop} {s:Shared} {κ:SortKind} {it:Array Keyed} {n:Nat} {lt:Nat->Nat->Bool} {Q:SortSt->Shared->Prop}
theorem xD (W:Ans (kas_cmp P w A κ it) n lt s) (T:Tot n lt) (h2:2<=n) (up:∀ i,i+1<n->lt (i+1) i=false)
  (q:∀ st',arrOf st'=(E5 (Ec n)).map (kas_item it)->failedOf st'=none->Q st' s):kasC (model P w) A X sortRuns' (fun _ st' s'=>Q st' s') (kas_st κ it (E5 (Ec n))) s:=by
 obtain⟨r,rfl⟩:∃ r,n=r+2:=⟨n - 2,by omega⟩;have sz:(E5 (Ec (r+2))).size=r+2:=by simp
 have szA:(arrOf (kas_st κ it (E5 (Ec (r+2))))).size=r+2:=by
  show (Array.map _ _).size=_;rw [IG,sz]
 have mr:=me (n:=r+2) (by omega);have at_:∀ i,i<r+2->(E5 (Ec (r+2))).getD i 0=i:=fun i hi=>by simp [Gm,hi]
 have cnt:(kas_count (r+2) (E5 (Ec (r+2)))).kasWp (kas_cmp P w A κ it) (fun z s'=>z=(r+2,E5 (Ec (r+2)))/\s'=s) s:=by
  unfold kas_count;rw [KasT.kasWp_bind];refine dt T W (Pm.range _) (r+2 - 1) 1 (DU _) (by omega) (fun i j a b=>by omega) fun m a b u c=>?_;have e:m=r+2:=by
   rcases c with c | c
   ·omega
   ·by_cases hm:m<r+2
    ·rw [at_ m hm,at_ (m - 1) (by omega)] at c;have:=up (m - 1) (by omega);rw [show m - 1+1=m by omega,c] at this;cases this
    ·omega
  subst e;rw [Jp (beq_self_eq_true _)];exact⟨rfl,rfl⟩
 rw [sortRuns'_eq];apply kasC_bind;apply kasC_get;simp only [szA];apply kasC_bind;apply kasC_range
 change kasC _ _ _ (forIn (0 :: 1 :: List.range' 2 r) _ _) _ _ _
 apply kasC_cons;simp only [Nat.sub_zero,Il,show ¬ (0 >= r+2) by omega,if_false];refine kasC_bind (kas_count_ (by omega) (GG sz.symm) (fun m p' s' _ _ _ z=>?_) cnt);obtain⟨z,rfl⟩:=z;cases z;simp only [show ¬ (r+2<minRun' (r+2) (r+2) 0) by omega,if_false];apply kasC_bind;apply kasC_get
 change kasC _ _ _ (modify (fun st=>setPending st ((pendingOf st).push (0,r+2,0))) >>= _) _ _ _
 apply kasC_bind;apply kasC_modify;apply kasC_pure;apply kasC_cons;simp only [show r+2 >= r+2 from DU _,if_true];apply kasC_pure;apply kasC_bind;apply kasC_range
 change kasC _ _ _ (forIn (0 :: 1 :: List.range' 2 r) _ _) _ _ _
 apply kasC_cons;apply kasC_bind;apply kasC_get;rw [Jp (show (pendingOf (setPending (kas_st κ it (E5 (Ec (r+2)))) ((pendingOf (kas_st κ it (E5 (Ec (r+2))))).push (0,r+2,0)))).size<=1 from DU 1)];apply kasC_pure;exact kasC_pure (q _ rfl rfl)
theorem uq (W:Ans (kas_cmp P w A κ it) n lt s) (T:Tot n lt) (h2:2<=n) (hs:n<64 \/ ∀ i,i+1<n->lt (i+1) i=false)
  (q:∀ st' p,Pm n p->Up lt p n->arrOf st'=p.map (kas_item it)->failedOf st'=none->Q st' s):kasC (model P w) A X sortRuns' (fun _ st' s'=>Q st' s') (kas_st κ it (E5 (Ec n))) s:=by
 rcases hs with hs | hs
 ·exact kas_runs h2 hs (G:=fun p s'=>s'=s/\Pm n p/\Up lt p n) (fun p st' s' _ e f ⟨z,a,b⟩=>by subst z;exact q st' p a b e f) (uo T W (by omega) fun p a b=>⟨rfl,a,b⟩)
 ·refine xD W T h2 hs fun st' e f=>q st' _ (Pm.range n) (fun i j hij hj=>?_) e f;have at_:∀ i,i<n->(E5 (Ec n)).getD i 0=i:=fun i hi=>by simp [Gm,hi]
  rw [at_ i (by omega),at_ j hj];have key:∀ d,i+d+1<n->lt i (i+d+1)=true:=fun d=>by
   induction d with
   | zero=>intro hd;rw [T.tri _ _ (by omega) hd (by omega),hs i hd];rfl
   | succ d ih =>
    intro hd;refine T.tra _ (i+d+1) _ (by omega) (by omega) hd (ih (by omega)) ?_;rw [T.tri _ _ (by omega) hd (by omega),show i+(d+1)+1=i+d+1+1 by omega,hs (i+d+1) (by omega)];rfl
  have:=key (j - i - 1) (by omega)
  rwa [show i+(j - i - 1)+1=j by omega] at this
end
section
variable {P:Program} {w:World} {A:Around} {X:Value->Shared->Prop} {s:Shared} {κ:SortKind} {vs:List Value} {lt:Nat->Nat->Bool}
structure Asks (P:Program) (w:World) (A:Around) (s:Shared) (κ:SortKind) (vs:List Value) (lt:Nat->Nat->Bool):Prop where
 kind:2<=vs.length->∀ (h':Heap),(∀ b o,s.heap.get? b=some o->h'.get? b=some o)->∀ R:SortKind->Shared->Prop,R κ { s with heap:=h' }->Ef (model P w) A (keyKind' vs.toArray) R (fun _ _=>False) { s with heap:=h' }
 less:∀ (h':Heap),(∀ b o,s.heap.get? b=some o->h'.get? b=some o)->Ans (kas_ask P w A κ vs) vs.length lt { s with heap:=h' }
 ord:Tot vs.length lt
 few:vs.length<64 \/ ∀ i,i+1<vs.length->lt (i+1) i=false
theorem xE {a:DR} {e:Nat} {R:PySem.Fin->Shared->Prop} (hz:vs.length<=Ex) (ha:s.heap.get? a=some (seqObj "list" vs.toArray e)) {h0:Heap} (h0s:∀ b o,h0.get? b=some o->b≠a/\s.heap.get? b=some o) (K:Asks P w A { s with heap:=h0 } κ vs lt)
  (q:∀ (h':Heap) p c,Pm vs.length p->Up lt p vs.length->(∀ b o,b≠a->s.heap.get? b=some o->h'.get? b=some o)->h'.get? a=some (seqObj "list" (p.toList.map fun i=>vs.getD i Value.none).toArray c)->R (.done (.ret .none)) { s with heap:=h' }) :
  Ef (model P w) A (Builtin.«list.sort» ⟨[.ref a],[]⟩) R X s:=by
 let h1:=s.heap.update a (Gx fun _=>(#[]:Array Value))
 obtain⟨e1,a1⟩:∃ e1,h1.get? a=some (seqObj "list" #[] e1):=⟨_,get?_update_seq ha fun _=>#[]⟩
 let h2':=(h1.push (seqObj "tuple" vs.toArray 0)).push (seqObj "list" #[] 0)
 have a2:h2'.get? a=some (seqObj "list" #[] e1):=D3 _ (D3 _ a1);have k2:∀ b o,b≠a->s.heap.get? b=some o->h2'.get? b=some o:=fun b o nb eb=>D3 _ (D3 _ ((FH _ _ (EW nb)).trans eb));have kz:∀ b o,h0.get? b=some o->h2'.get? b=some o:=fun b o eb=>k2 b o (h0s b o eb).1 (h0s b o eb).2;rw [list_sort_plain];apply DQ;apply listItems_at ha rfl;apply DQ;refine listUpdate_at ha rfl ?_ (by simpa using hz) (EE _);apply DQ;apply seqEpoch_at a1 rfl;apply DQ;refine wpAny_newTuple ?_ (by simpa using hz);apply DQ;refine wpAny_newList ?_ (EE _);apply EF;dsimp only
 change Ef _ A _ _ _ { s with heap:=h2' }
 have st0:SortSt.mk' κ (vs.toArray.zip vs.toArray) #[] 7 none=kas_st κ (pairsOf vs) (E5 (Ec vs.length)):=by
  have z:=kas_range (pairsOf vs);rw [pairsOf_size] at z;unfold kas_st;rw [z];rfl
 have fin:∀ (st':SortSt) (p:Array Nat),Pm vs.length p->Up lt p vs.length->arrOf st'=p.map (kas_item (pairsOf vs))->failedOf st'=none->Ef (model P w) A (do
   let sorted:=(arrOf st').map (·.2)
   let touched:=(<- seqEpoch a) != e1
   Builtin.List.listUpdate (.ref a) fun _=>sorted
   if let some e:=failedOf st' then rule "list.sort.comparison-raised";throw e
   if touched then rule "list.sort.modified";raiseError "ValueError" "list modified during sort"
   ret .none) R X { s with heap:=h2' }:=fun st' p x1 x2 x3 x4=>by
  have out:(arrOf st').map (·.2)=(p.toList.map fun i=>vs.getD i Value.none).toArray:=by
   apply Array.toList_inj.mp;rw [x3,Array.map_map,Array.toList_map];refine F5 fun i _=>?_;show (kas_item (pairsOf vs) i).2=_;rw [kas_item_eq]
  dsimp only;rw [out,x4];obtain⟨c,a3⟩:∃ c,(h2'.update a (Gx fun _=>(p.toList.map fun i=>vs.getD i Value.none).toArray)).get? a=some (seqObj "list" (p.toList.map fun i=>vs.getD i Value.none).toArray c):=⟨_,get?_update_seq a2 fun _=>(p.toList.map fun i=>vs.getD i Value.none).toArray⟩;apply DQ;apply seqEpoch_at a2 rfl;apply DQ;refine listUpdate_at a2 rfl ?_ (EE _) (by
   rw [D9,DM,D8,x1.size];omega)
  simp only [bne_self_eq_false,EC,if_false];exact DY (q _ p c x1 x2 (fun b o nb eb=>(FH _ _ (EW nb)).trans (k2 b o nb eb)) a3)
 by_cases h2:vs.length<2
 ·have two:vs.toArray.size<2:=by rw [D9];exact h2
  rw [Jp two,Jp two];apply DQ;apply DY;apply DQ;rw [StateT.run_pure];apply DY;have z:=kas_range (pairsOf vs);rw [pairsOf_size] at z;exact fin _ (E5 (Ec vs.length)) (Pm.range _) (fun i j x y=>by omega) z.symm rfl
 have two:¬ vs.toArray.size<2:=by rw [D9];exact h2
 rw [Jo two,Jo two];apply DQ;refine FE (K.kind (by omega) h2' kz (fun κ' s'=>κ'=κ/\s'={ s with heap:=h2' }) ⟨rfl,rfl⟩) ?_ fun _ _ z=>z.elim;rintro κ' s' ⟨eκ,es⟩;rw [eκ,es];have W:=K.less h2' kz;rw [kas_ask_eq] at W;rw [st0];apply DQ;refine FE (uq (Q:=fun st' s'=>s'={ s with heap:=h2' }/\∃ p,Pm vs.length p/\Up lt p vs.length/\arrOf st'=p.map (kas_item (pairsOf vs))/\failedOf st'=none) W K.ord (by omega) K.few fun st' p x1 x2 x3 x4=>⟨rfl,p,x1,x2,x3,x4⟩) ?_ fun _ _ z=>z;rintro⟨⟨⟩,st'⟩ s' ⟨rfl,p,x1,x2,x3,x4⟩;exact fin st' p x1 x2 x3 x4
theorem kE {l:DR} {Q:Value->Shared->Prop} (hz:vs.length<=Ex) (hl:s.heap.IsList l vs.toArray) (K:Asks P w A.in1.in1 s κ vs lt)
  (q:∀ (h':Heap) D p c,Pm vs.length p->Up lt p vs.length->s.heap.objs.size<=D->(∀ b o,s.heap.get? b=some o->h'.get? b=some o)->h'.get? D=some (seqObj "list" (p.toList.map fun i=>vs.getD i Value.none).toArray c)->Q (.ref D) { s with heap:=h' }) :
  Ef (model P w) A (call (.builtin "sorted") [.ref l]) Q X s:=by
 let h1:=(s.heap.push (seqObj "list" #[] 0)).update s.heap.objs.size (Gx (·++vs.toArray))
 have s1:h1.objs.size=s.heap.objs.size+1:=by rw [Heap.size_update,size_push']
 let h2':=h1.push (seqObj "list" vs.toArray 0)
 have at2:h2'.get? (s.heap.objs.size+1)=some (seqObj "list" vs.toArray 0):=by rw [<-s1];exact Ey _ rfl
 have keep:∀ b o,s.heap.get? b=some o->b≠s.heap.objs.size+1/\h2'.get? b=some o:=fun b o eb=>by
  have lb:=Eb eb;refine⟨fun z=>?_,D3 _ ((FH _ _ fun z=>?_).trans (D3 _ eb))⟩
  ·rw [z] at lb;exact FL _ (Jb lb (Ie _))
  ·rw [<-z] at lb;exact FL _ lb
 refine Calls.call_function_entry kind_sorted plain_sorted entry_sorted (args_sorted1 _) ?_;unfold Builtin.«sorted»;apply DQ (m:=checkCount "sorted" 1 1 _);apply DY;apply DQ;refine collect_list hl ?_ hz;apply DQ;refine wpAny_newList ?_ hz
 change Ef _ _ _ _ _ { s with heap:=h2' }
 rw [show Value.ref ((s.heap.push (seqObj "list" #[] 0)).update s.heap.objs.size (Gx (·++vs.toArray))).objs.size=Value.ref (s.heap.objs.size+1) from congrArg Value.ref s1];apply DQ;apply EF;refine wpAny_call_entry slot_list_sort ⟨_,at2,rfl⟩ entry_list_sort ?_ (args_list_sort _);refine xE (s:={ s with heap:=h2' }) hz at2 (h0:=s.heap) keep K fun h' p c x1 x2 x3 x4=>⟨_,rfl,DY ⟨_,rfl,?_⟩⟩;exact q h' _ p c x1 x2 (Jg _) (fun b o eb=>x3 b o (keep b o eb).1 (keep b o eb).2) x4
end
mutual
noncomputable def zE:PyData->Bool
 | .int _=>true
 | .str s=>(PyData.str s).canLay0
 | .tuple xs=>zW xs
 | _=>false
noncomputable def zW:List PyData->Bool
 | []=>true
 | x :: xs=>zE x && zW xs
end
mutual
noncomputable def ltD:PyData->PyData->Bool
 | .int a,.int b=>decide (a<b)
 | .str a,.str b=>decide (a.cps.toList<b.cps.toList)
 | .tuple xs,.tuple ys=>ltL xs ys
 | .int _,.str _=>true
 | .int _,.tuple _=>true
 | .str _,.tuple _=>true
 | _,_=>false
noncomputable def ltL:List PyData->List PyData->Bool
 | [],[]=>false
 | [],_ :: _=>true
 | _ :: _,[]=>false
 | x :: xs,y :: ys=>if Ei x y=true then ltL xs ys else ltD x y
end
mutual
noncomputable def dh:PyData->PyData->Bool
 | .int _,.int _=>true
 | .str _,.str _=>true
 | .tuple xs,.tuple ys=>bL xs ys
 | _,_=>false
noncomputable def bL:List PyData->List PyData->Bool
 | [],_=>true
 | _ :: _,[]=>true
 | x :: xs,y :: ys=>if Ei x y=true then bL xs ys else dh x y
end
mutual
theorem y9:∀ d:PyData,zE d=true->d.canLay0=true
 | .int _,_=>rfl
 | .str _,h=>h
 | .tuple xs,h=>by rw [PyData.canLay0];exact eG xs (by rw [zE] at h;exact h)
 | .none,h=>by cases h
 | .bool _,h=>by cases h
 | .list _,h=>by cases h
 | .dict _,h=>by cases h
theorem eG:∀ xs:List PyData,zW xs=true->PyData.canLayAll0 xs=true
 | [],_=>rfl
 | x :: xs,h=>by
  rw [zW,DW] at h;rw [PyData.canLayAll0,y9 x h.1,eG xs h.2];rfl
end
mutual
theorem ur:∀ a b:PyData,zE a=true->zE b=true->Ei a b=true->a=b
 | .int a,.int b,_,_,h=>by simpa [Ei] using h
 | .str a,.str b,_,_,h=>by simpa [Ei] using h
 | .tuple xs,.tuple ys,h1,h2,h=>by rw [nN xs ys (by rw [zE] at h1;exact h1) (by rw [zE] at h2;exact h2) (by rw [Ei] at h;exact h)]
 | .int _,.str _,_,_,h=>by simp [Ei] at h
 | .int _,.tuple _,_,_,h=>by simp [Ei] at h
 | .str _,.int _,_,_,h=>by simp [Ei] at h
 | .str _,.tuple _,_,_,h=>by simp [Ei] at h
 | .tuple _,.int _,_,_,h=>by simp [Ei] at h
 | .tuple _,.str _,_,_,h=>by simp [Ei] at h
 | .none,_,h,_,_=>by cases h
 | .bool _,_,h,_,_=>by cases h
 | .list _,_,h,_,_=>by cases h
 | .dict _,_,h,_,_=>by cases h
 | .int _,.none,_,h,_=>by cases h
 | .int _,.bool _,_,h,_=>by cases h
 | .int _,.list _,_,h,_=>by cases h
 | .int _,.dict _,_,h,_=>by cases h
 | .str _,.none,_,h,_=>by cases h
 | .str _,.bool _,_,h,_=>by cases h
 | .str _,.list _,_,h,_=>by cases h
 | .str _,.dict _,_,h,_=>by cases h
 | .tuple _,.none,_,h,_=>by cases h
 | .tuple _,.bool _,_,h,_=>by cases h
 | .tuple _,.list _,_,h,_=>by cases h
 | .tuple _,.dict _,_,h,_=>by cases h
theorem nN:∀ xs ys:List PyData,zW xs=true->zW ys=true->HW xs ys=true->xs=ys
 | [],[],_,_,_=>rfl
 | [],_ :: _,_,_,h=>by simp [HW] at h
 | _ :: _,[],_,_,h=>by simp [HW] at h
 | x :: xs,y :: ys,h1,h2,h=>by
  rw [zW,DW] at h1 h2;rw [HW,DW] at h;rw [ur x y h1.1 h2.1 h.1,nN xs ys h1.2 h2.2 h.2]
end
theorem du {a b:PyData} (ha:zE a=true) (hb:zE b=true):Ei a b=true↔a=b :=
 ⟨ur a b ha hb,fun h=>by subst h;exact SeqAt.eqv_refl a (y9 a ha)⟩
theorem vp {x y:PyData} {xs ys:List PyData} (hx:zE x=true) (hy:zE y=true) [Decidable (x=y)]:ltL (x :: xs) (y :: ys)=if x=y then ltL xs ys else ltD x y:=by
 rw [ltL];by_cases h:x=y
 ·rw [Jp ((du hx hy).mpr h),Jp h]
 ·rw [Jo (fun z=>h ((du hx hy).mp z)),Jo h]
theorem uu {a b:List Nat} (h:a≠b):decide (a<b)=!decide (b<a):=by
 by_cases h1:a<b
 ·rw [Jq h1,Jr (fun z=>List.lt_irrefl a (List.lt_trans h1 z))];rfl
 ·have h2:b<a:=by
   have:b<=a:=List.not_lt.mp h1;rcases List.le_iff_lt_or_eq.mp this with z | z
   ·exact z
   ·exact absurd z.symm h
  rw [Jr h1,Jq h2];rfl
theorem B2 {a b:Str} (h:a≠b):a.cps.toList≠b.cps.toList:=fun z=>h (by
 cases a;cases b;simp only [Str.mk.injEq] at *;exact Array.toList_inj.mp z)
mutual
theorem mf:∀ a b:PyData,zE a=true->zE b=true->a≠b->ltD a b=!ltD b a
 | .int a,b,ha,hb,ne=>by
  cases b with
  | int b =>
   rw [ltD,ltD];have:a≠b:=fun z=>ne (by rw [z]);by_cases h:a<b
   ·rw [Jq h,Jr (by omega)];rfl
   ·rw [Jr h,Jq (by omega)];rfl
  | str b=>simp [ltD]
  | tuple ys=>simp [ltD]
  | none=>cases hb
  | bool _=>cases hb
  | list _=>cases hb
  | dict _=>cases hb
 | .str a,b,ha,hb,ne=>by
  cases b with
  | int b=>simp [ltD]
  | str b =>
   rw [ltD,ltD];exact uu (B2 fun z=>ne (by rw [z]))
  | tuple ys=>simp [ltD]
  | none=>cases hb
  | bool _=>cases hb
  | list _=>cases hb
  | dict _=>cases hb
 | .tuple xs,b,ha,hb,ne=>by
  cases b with
  | int b=>simp [ltD]
  | str b=>simp [ltD]
  | tuple ys =>
   rw [ltD,ltD];rw [zE] at ha hb;exact nO xs ys ha hb fun z=>ne (by rw [z])
  | none=>cases hb
  | bool _=>cases hb
  | list _=>cases hb
  | dict _=>cases hb
 | .none,_,h,_,_=>by cases h
 | .bool _,_,h,_,_=>by cases h
 | .list _,_,h,_,_=>by cases h
 | .dict _,_,h,_,_=>by cases h
theorem nO:∀ xs ys:List PyData,zW xs=true->zW ys=true->xs≠ys->ltL xs ys=!ltL ys xs
 | [],[],_,_,ne=>absurd rfl ne
 | [],_ :: _,_,_,_=>by simp [ltL]
 | _ :: _,[],_,_,_=>by simp [ltL]
 | x :: xs,y :: ys,h1,h2,ne=>by
  rw [zW,DW] at h1 h2;have:=EY (x=y);have:=EY (y=x);rw [vp h1.1 h2.1,vp h2.1 h1.1];by_cases e:x=y
  ·rw [Jp e,Jp e.symm];exact nO xs ys h1.2 h2.2 fun z=>ne (by rw [e,z])
  ·rw [Jo e,Jo (EW e)];exact mf x y h1.1 h2.1 e
end
mutual
theorem gS:∀ a:PyData,zE a=true->ltD a a=false
 | .int a,_=>by rw [ltD];exact Jr (Int.lt_irrefl a)
 | .str a,_=>by rw [ltD];exact Jr (List.lt_irrefl _)
 | .tuple xs,h=>by rw [ltD];rw [zE] at h;exact nP xs h
 | .none,h=>by cases h
 | .bool _,h=>by cases h
 | .list _,h=>by cases h
 | .dict _,h=>by cases h
theorem nP:∀ xs:List PyData,zW xs=true->ltL xs xs=false
 | [],_=>by rw [ltL]
 | x :: xs,h=>by
  rw [zW,DW] at h;have:=EY (x=x);rw [vp h.1 h.1,Jp rfl];exact nP xs h.2
end
theorem lt_asymm {a b:PyData} (ha:zE a=true) (hb:zE b=true) (h:ltD a b=true):a≠b:=fun z=>by
 subst z;rw [gS a ha] at h;cases h
mutual
theorem mh:∀ a b c:PyData,zE a=true->zE b=true->zE c=true->ltD a b=true->ltD b c=true->ltD a c=true
 | .int a,b,c,ha,hb,hc,h1,h2=>by
  cases b <;> first | (cases hb;done) | skip
  all_goals cases c <;> first | (cases hc;done) | skip
  all_goals first | (simp [ltD] at h1 h2 ⊢;omega) | (simp [ltD] at h1 h2 ⊢;done) | (simp [ltD] at h1;done) | (simp [ltD] at h2;done)
 | .str a,b,c,ha,hb,hc,h1,h2=>by
  cases b <;> first | (cases hb;done) | skip
  all_goals cases c <;> first | (cases hc;done) | skip
  all_goals first | (simp [ltD] at h1;done) | (simp [ltD] at h2;done) | (rw [ltD] at h1 h2 ⊢;exact Jq (List.lt_trans (of_decide_eq_true h1) (of_decide_eq_true h2))) | (simp [ltD] at h1 h2 ⊢;done)
 | .tuple xs,b,c,ha,hb,hc,h1,h2=>by
  cases b with
  | tuple ys =>
   cases c with
   | tuple zs =>
    rw [ltD] at h1 h2 ⊢;rw [zE] at ha hb hc;exact nQ xs ys zs ha hb hc h1 h2
   | int _=>simp [ltD] at h2
   | str _=>simp [ltD] at h2
   | none=>cases hc
   | bool _=>cases hc
   | list _=>cases hc
   | dict _=>cases hc
  | int _=>simp [ltD] at h1
  | str _=>simp [ltD] at h1
  | none=>cases hb
  | bool _=>cases hb
  | list _=>cases hb
  | dict _=>cases hb
 | .none,_,_,h,_,_,_,_=>by cases h
 | .bool _,_,_,h,_,_,_,_=>by cases h
 | .list _,_,_,h,_,_,_,_=>by cases h
 | .dict _,_,_,h,_,_,_,_=>by cases h
theorem nQ:∀ xs ys zs:List PyData,zW xs=true->zW ys=true->zW zs=true->ltL xs ys=true->ltL ys zs=true->ltL xs zs=true
 | [],ys,[],_,_,_,h1,h2=>by
  cases ys with
  | nil=>exact h1
  | cons y ys=>simp [ltL] at h2
 | [],_,_ :: _,_,_,_,_,_=>by rw [ltL]
 | _ :: _,[],_,_,_,_,h1,_=>by simp [ltL] at h1
 | _ :: _,_ :: _,[],_,_,_,_,h2=>by simp [ltL] at h2
 | x :: xs,y :: ys,z :: zs,p1,p2,p3,h1,h2=>by
  rw [zW,DW] at p1 p2 p3;have:=EY (x=y);have:=EY (y=z);have:=EY (x=z);rw [vp p1.1 p2.1] at h1;rw [vp p2.1 p3.1] at h2;rw [vp p1.1 p3.1];by_cases e1:x=y
  ·rw [Jp e1] at h1;by_cases e2:y=z
   ·rw [Jp e2] at h2;rw [Jp (e1.trans e2)];exact nQ xs ys zs p1.2 p2.2 p3.2 h1 h2
   ·rw [Jo e2] at h2;rw [Jo (fun q=>e2 (e1.symm.trans q)),e1];exact h2
  ·rw [Jo e1] at h1;by_cases e2:y=z
   ·rw [Jo (fun q=>e1 (q.trans e2.symm)),<- e2];exact h1
   ·rw [Jo e2] at h2;have h3:=mh x y z p1.1 p2.1 p3.1 h1 h2;rw [Jo (lt_asymm p1.1 p3.1 h3)];exact h3
end
end L2
end
section
namespace L2
open PySem PySem.Spec PyProof.Rows PySem.SeqAt
open PySem.AutoSeq1 (wpAny_loadPart')
open PySem.MeetsSeq PySem.MeetsSeq2 PySem.MeetsSeq3
def Dd (A:Around) (s:Shared) (y x:Value) (b:Bool):Prop :=
 ∀ (prog:Program) (w:World) (E:Value->Shared->Prop) (Q:Value->Shared->Prop),Q (.bool b) s->Ef (model prog w) A (richCompare .Lt y x) Q E s
inductive Lex (A:Around) (s:Shared):List Value->List Value->Bool->Prop where
 | nn:Lex A s [] [] false
 | nc {w ws}:Lex A s [] (w :: ws) true
 | cn {v vs}:Lex A s (v :: vs) [] false
 | eq {v w vs ws b}:EqAt A s v w true->Lex A s vs ws b->Lex A s (v :: vs) (w :: ws) b
 | lt {v w vs ws b}:EqAt A s v w false->Dd A s v w b->Lex A s (v :: vs) (w :: ws) b
theorem gT (l m:DR) (xs ys:Array Value) (n n2:Nat) (dd dd2:Option DR) (sl sl2:Array (Option Value)) (c:Bool) :
  Meets (Builtin.«tuple.__lt__» ⟨[.ref l,.ref m],[]⟩)
   (fun A R s=>s.heap.get? l=some { cls:=.type "tuple",dict:=dd,data:=.seq xs n,slots:=sl }/\s.heap.get? m=some { cls:=.type "tuple",dict:=dd2,data:=.seq ys n2,slots:=sl2 } /\
    Lex A.in1 s xs.toList ys.toList c/\R (.ok (.ret (.bool c))) s) :=
 .of_wp fun prog w A R s h=>by
  obtain⟨hp,g,d,tk,os⟩:=s;obtain⟨hl,hb,hx,h⟩:=h;have f2:=AutoSeq1.sub_tuple_tuple
  wp_walk using wpAny_loadPart' hl,wpAny_loadPart' hb,wpAny_forIn_list _ (fun rest b s'=>b.1=none/\s'=⟨hp,g,d,tk,os⟩/\∃ (vs ws:List Value),rest=vs.zip ws/\Lex A.in1 ⟨hp,g,d,tk,os⟩ vs ws c/\vs.length+ys.size=ws.length+xs.size) _
  case turn =>
   rintro⟨y,x⟩ rest b s' ⟨hb',rfl,vs,ws,hz,lx,hn⟩;cases lx with
   | nn=>cases hz
   | nc=>cases hz
   | cn=>cases hz
   | eq he lx' =>
    rw [Gn] at hz;cases hz;refine DQ (he prog w _ _ ?_)
    wp_walk
    exact⟨rfl,rfl,_,_,rfl,lx',by simp only [Ea] at hn;omega⟩
   | lt he hlt =>
    rw [Gn] at hz;cases hz;refine DQ (he prog w _ _ ?_);have hri:=hlt prog w
    wp_walk using hri
    exact⟨_,rfl,h⟩
  case fin =>
   rintro⟨b1,b2⟩ s' ⟨hb',rfl,vs,ws,hz,lx,hn⟩;simp only at hb';subst hb';have hv:decide (xs.size<ys.size)=c:=by
    cases lx with
    | nn=>simp only [FX] at hn;exact Jr (by omega)
    | nc=>simp only [FX,Ea] at hn;exact Jq (by omega)
    | cn=>simp only [FX,Ea] at hn;exact Jr (by omega)
    | eq _ _=>cases hz
    | lt _ _=>cases hz
   wp_walk
   rw [<-hv] at h;exact⟨_,rfl,by simpa [Builtin.Tuple.tupleCompareSizes] using h⟩
  case h=>exact⟨rfl,rfl,_,_,rfl,hx,by simp only [D8];omega⟩
mutual
theorem kF:∀ (da db:PyData) (A:Around) (s:Shared) (a b:Value) (as bs:List DR),Reads s.heap a da as->Reads s.heap b db bs->zE da=true->zE db=true->dh da db=true ->
  A.units+max da.depth db.depth<Fh->Dd A s a b (ltD da db)
 | .int x,db,A,s,_,_,_,_,ra,rb,_,_,hc,hu=>by
  cases ra with
  | int _ t =>
   cases db with
   | int y =>
    cases rb with
    | int _ u =>
     intro prog w E Q q;exact HT.rcLt_int A s x t y u prog w E Q (by rw [ltD] at q;exact q)
   | _=>cases hc
 | .str x,db,A,s,_,_,_,_,ra,rb,_,_,hc,hu=>by
  cases ra with
  | str _ t =>
   cases db with
   | str y =>
    cases rb with
    | str _ u =>
     intro prog w E Q q;exact (PyProof.Rows.lt_str (by rw [ltD] at q;exact q):Ef (model prog w) A (EU .Lt (.str x t) (.str y u)) Q E s)
   | _=>cases hc
 | .tuple xs,db,A,s,_,_,_,_,ra,rb,pa,pb,hc,hu=>by
  cases ra with
  | @tuple l o vs n _ as h1 h2 h3 h4 =>
   cases db with
   | tuple ys =>
    cases rb with
    | @tuple m o2 ws n2 _ bs k1 k2 k3 k4 =>
     intro prog w E Q q;obtain⟨cls,dd,data,sl⟩:=o;obtain⟨cls2,dd2,data2,sl2⟩:=o2;simp only at h2 h3 k2 k3;subst h2 h3 k2 k3;rw [zE] at pa pb;rw [dh] at hc;rw [ltD] at q;have hd:A.in1.units+max (D5 xs) (D5 ys)<Fh:=by
      have e1:(PyData.tuple xs).depth=D5 xs+1:=rfl;have e2:(PyData.tuple ys).depth=D5 ys+1:=rfl;have e3:A.in1.units=A.units+1:=rfl;rw [e1,e2] at hu;omega
     have lx:=fO xs ys A.in1 s _ _ _ _ h4 k4 pa pb hc hd;exact richCompare_meets_room (op:=.Lt) ⟨_,h1,rfl⟩ ⟨_,k1,rfl⟩ PySem.F.slot_tuple_lt PySem.F.entry_tuple_lt (PySem.F.args_tuple_lt_2 _ _) (gT l m vs ws n n2 dd dd2 sl sl2 (ltL xs ys))
      ⟨h1,k1,lx,show Value.bool (ltL xs ys)≠Value.notImplemented/\Q (.bool (ltL xs ys)) s from⟨(fun x=>nomatch x),q⟩⟩ (by omega)
   | _=>cases hc
 | .none,_,_,_,_,_,_,_,_,_,h,_,_,_=>by cases h
 | .bool _,_,_,_,_,_,_,_,_,_,h,_,_,_=>by cases h
 | .list _,_,_,_,_,_,_,_,_,_,h,_,_,_=>by cases h
 | .dict _,_,_,_,_,_,_,_,_,_,h,_,_,_=>by cases h
theorem fO:∀ (xs ys:List PyData) (A:Around) (s:Shared) (vs ws:List Value) (as bs:List DR),ReadsAll s.heap vs xs as->ReadsAll s.heap ws ys bs->zW xs=true->zW ys=true->bL xs ys=true ->
  A.units+max (D5 xs) (D5 ys)<Fh->Lex A s vs ws (ltL xs ys)
 | [],[],_,_,_,_,_,_,ra,rb,_,_,_,_=>by cases ra;cases rb;rw [ltL];exact .nn
 | [],_ :: _,_,_,_,_,_,_,ra,rb,_,_,_,_=>by cases ra;cases rb;rw [ltL];exact .nc
 | _ :: _,[],_,_,_,_,_,_,ra,rb,_,_,_,_=>by cases ra;cases rb;rw [ltL];exact .cn
 | x :: xs,y :: ys,A,s,_,_,_,_,ra,rb,pa,pb,hc,hu=>by
  cases ra with
  | cons r rs =>
   cases rb with
   | cons r' rs' =>
    rw [zW,DW] at pa pb;rw [bL] at hc;rw [ltL];have e1:D5 (x :: xs)=max x.depth (D5 xs):=rfl;have e2:D5 (y :: ys)=max y.depth (D5 ys):=rfl;rw [e1,e2] at hu;have eq:=eqAt_reads x y A s _ _ _ _ r r' (y9 x pa.1) (y9 y pb.1) (by omega);by_cases e:Ei x y=true
    ·rw [Jp e] at hc ⊢;rw [e] at eq;exact .eq eq (fO xs ys A s _ _ _ _ rs rs' pa.2 pb.2 hc (by omega))
    ·rw [Jo e] at hc ⊢;rw [Bool.not_eq_true] at e;rw [e] at eq;exact .lt eq (kF x y A s _ _ _ _ r r' pa.1 pb.1 hc (by omega))
end
end L2
end
section
namespace L2
open PySem PySem.Spec PyProof.Rows PySem.SeqAt PySem.W
section
variable {P:Program} {w:World} {A:Around} {s:Shared} {b:Bool} {Q:Bool->Shared->Prop}
theorem gU {fin:Bool} {x y:PyData} {p q:Value} {r:List (Value×Value)} {i:Nat} {as bs:List DR} {c:Bool} (rx:Reads s.heap p x as) (ry:Reads s.heap q y bs) (px:zE x=true) (py:zE y=true) (hu:A.units+max x.depth y.depth<Fh)
  (h1:Ei x y=true->KatLex P w A b fin Q r (i+1) s) (h2:Ei x y=false->Ef (model P w) A (oneLt' (b && i == 0) p q) Q (fun _ _=>False) s):KatLex P w A b fin Q ((p,q) :: r) i s:=by
 refine kat_cons (eqAt_reads x y A s _ _ _ _ rx ry (y9 x px) (y9 y py) (by omega) P w _ _ ?_);exact kat_go (fun e=>kat_yes (h1 e)) fun e=>kat_no (h2 e)
theorem bM {m n:Nat}:∀ (xs ys:List PyData) (vs ws:List Value) (as bs:List DR) (i:Nat),(1<=i \/ b=false)->ReadsAll s.heap vs xs as->ReadsAll s.heap ws ys bs->zW xs=true->zW ys=true->bL xs ys=true ->
  A.units+max (D5 xs) (D5 ys)<Fh->xs.length+n=ys.length+m->Q (ltL xs ys) s->KatLex P w A b (decide (m<n)) Q (vs.zip ws) i s
 | [],[],_,_,_,_,i,_,ra,rb,_,_,_,_,hl,q=>by
  cases ra;cases rb;rw [ltL] at q;simp only [FX] at hl;rw [Jr (show ¬ m<n by omega)];exact kat_nil q
 | [],y :: ys,_,_,_,_,i,_,ra,rb,_,_,_,_,hl,q=>by
  cases ra;cases rb;rw [ltL] at q;simp only [FX,Ea] at hl;rw [Jq (show m<n by omega)];exact kat_nil q
 | x :: xs,[],_,_,_,_,i,_,ra,rb,_,_,_,_,hl,q=>by
  cases ra;cases rb;rw [ltL] at q;simp only [FX,Ea] at hl;rw [Jr (show ¬ m<n by omega),List.zip_nil_right];exact kat_nil q
 | x :: xs,y :: ys,_,_,_,_,i,hi,ra,rb,pa,pb,hc,hu,hl,q=>by
  cases ra with
  | cons r rs =>
   cases rb with
   | cons r' rs' =>
    rw [zW,DW] at pa pb;rw [bL] at hc;rw [ltL] at q;have e1:D5 (x :: xs)=max x.depth (D5 xs):=rfl;have e2:D5 (y :: ys)=max y.depth (D5 ys):=rfl;rw [e1,e2] at hu;simp only [Ea] at hl;rw [Gn];refine gU (c:=true) r r' pa.1 pb.1 (by omega) (fun e=>?_) fun e=>?_
    ·rw [Jp e] at hc q;exact bM xs ys _ _ _ _ (i+1) (.inl (by omega)) rs rs' pa.2 pb.2 hc (by omega) (by omega) q
    ·rw [Jo (by rw [e];exact DL)] at hc q;have ef:(b && i == 0)=false:=by
      rcases hi with hi | hi
      ·rw [show (i == 0)=false from beq_eq_false_iff_ne.mpr (by omega),E1]
      ·rw [hi];rfl
     rw [ef];exact kat_one _ _ (kF x y A s _ _ _ _ r r' pa.1 pb.1 hc (by omega) P w _ _ q)
end
noncomputable def vq:PyData->Option String
 | .tuple (.int _ :: _)=>some "int"
 | .tuple (.str _ :: _)=>some "str"
 | .tuple (.tuple _ :: _)=>some "tuple"
 | _=>none
structure SortOk (T:String) (ds:List PyData):Prop where
 plain:∀ d∈ds,zE d=true
 head:∀ d∈ds,vq d=some T
 cmp:∀ d∈ds,∀ e∈ds,dh d e=true
 depth:∀ d∈ds,d.depth<=50
 nd:ds.Nodup
theorem ay {d:PyData} {T:String} (h:vq d=some T):∃ x xs,d=.tuple (x :: xs)/\((T="int"/\∃ n,x=.int n) \/ (T="str"/\∃ n,x=.str n) \/ (T="tuple"/\∃ n,x=.tuple n)):=by
 unfold vq at h;split at h
 ·cases h;exact⟨_,_,rfl,.inl ⟨rfl,_,rfl⟩⟩
 ·cases h;exact⟨_,_,rfl,.inr (.inl ⟨rfl,_,rfl⟩)⟩
 ·cases h;exact⟨_,_,rfl,.inr (.inr ⟨rfl,_,rfl⟩)⟩
 ·cases h
section
variable {P:Program} {w:World} {A:Around} {s:Shared} {T:String}
theorem B3 {d e:PyData} {v u:Value} {as bs:List DR} {C:Bool->Shared->Prop} (rd:Reads s.heap v d as) (re:Reads s.heap u e bs) (pd:zE d=true) (pe:zE e=true) (hd:vq d=some T) (he:vq e=some T) (hc:dh d e=true)
  (hu:A.units+60<Fh) (d1:d.depth<=50) (d2:e.depth<=50) (q:C (ltD d e) s):Ef (model P w) A (keyLt' (tuples' (Value.type T != Value.type "tuple")) v u) C (fun _ _=>False) s:=by
 obtain⟨x,xs,rfl,hx⟩:=ay hd;obtain⟨y,ys,rfl,hy⟩:=ay he;cases rd with
 | @tuple l o vs n _ as h1 h2 h3 h4 =>
  cases re with
  | @tuple m o2 ws n2 _ bs k1 k2 k3 k4 =>
   have l1:=He _ _ _ h4;have l2:=He _ _ _ k4;rw [D8] at l1 l2;refine kat_lt h1 h3 k1 k3 ?_;rw [zE] at pd pe;rw [dh] at hc;rw [ltD] at q;have e1:(PyData.tuple (x :: xs)).depth=D5 (x :: xs)+1:=rfl;have e2:(PyData.tuple (y :: ys)).depth=D5 (y :: ys)+1:=rfl;have e3:D5 (x :: xs)=max x.depth (D5 xs):=rfl;have e4:D5 (y :: ys)=max y.depth (D5 ys):=rfl;rcases hx with⟨rfl,nx,rfl⟩ | ⟨rfl,nx,rfl⟩ | ⟨rfl,nx,rfl⟩
   ·obtain⟨ny,rfl⟩:∃ ny,y=.int ny:=by
     rcases hy with⟨_,h⟩ | ⟨z,_⟩ | ⟨z,_⟩
     ·exact h
     ·exact absurd z (by decide)
     ·exact absurd z (by decide)
    obtain⟨vl⟩:=vs;obtain⟨wl⟩:=ws;cases h4 with
    | cons r rs =>
     cases k4 with
     | cons r' rs' =>
      rw [zW,DW] at pd pe;rw [bL] at hc;rw [ltL] at q;rw [Gn];refine gU (c:=true) r r' rfl rfl (by omega) (fun e=>?_) fun e=>?_
      ·rw [Jp e] at hc q;exact bM xs ys _ _ _ _ 1 (.inl (DU 1)) rs rs' pd.2 pe.2 hc (by omega) (by simp only [Ea] at l1 l2;omega) q
      ·rw [Jo (by rw [e];exact DL)] at q;rw [show ((Value.type "int" != Value.type "tuple") && (0 == 0))=true by decide];cases r;cases r';rw [ltD] at q;exact oneLt_int q
   ·obtain⟨ny,rfl⟩:∃ ny,y=.str ny:=by
     rcases hy with⟨z,_⟩ | ⟨_,h⟩ | ⟨z,_⟩
     ·exact absurd z (by decide)
     ·exact h
     ·exact absurd z (by decide)
    obtain⟨vl⟩:=vs;obtain⟨wl⟩:=ws;cases h4 with
    | cons r rs =>
     cases k4 with
     | cons r' rs' =>
      rw [zW,DW] at pd pe;rw [bL] at hc;rw [ltL] at q;rw [Gn];refine gU (c:=true) r r' pd.1 pe.1 (by omega) (fun e=>?_) fun e=>?_
      ·rw [Jp e] at hc q;exact bM xs ys _ _ _ _ 1 (.inl (DU 1)) rs rs' pd.2 pe.2 hc (by omega) (by simp only [Ea] at l1 l2;omega) q
      ·rw [Jo (by rw [e];exact DL)] at q;rw [show ((Value.type "str" != Value.type "tuple") && (0 == 0))=true by decide];cases r;cases r';rw [ltD] at q;exact oneLt_str q
   ·exact bM _ _ _ _ _ _ 0 (.inr (by decide)) h4 k4 pd pe hc (by omega) (by rw [l1,l2];omega) q
theorem ReadsAll.at {h:Heap}:∀ {vs:List Value} {ds:List PyData} {as:List DR},ReadsAll h vs ds as->∀ i,i<ds.length->∃ bs,Reads h (vs.getD i Value.none) (ds.getD i .none) bs
 | _,_,_,.nil,i,hi=>absurd hi (FC _)
 | _,_,_,.cons r rs,0,_=>⟨_,r⟩
 | _,_,_,.cons r rs,i+1,hi=>ReadsAll.at rs i (Nat.lt_of_succ_lt_succ hi)
theorem ReadsAll.keep {h h':Heap} (k:∀ b o,h.get? b=some o->h'.get? b=some o):∀ {vs:List Value} {ds:List PyData} {as:List DR},ReadsAll h vs ds as->ReadsAll h' vs ds as
 | _,_,_,.nil=>.nil
 | _,_,_,.cons r rs=>.cons (PyProof.Rows.Reads.keeps k r) (ReadsAll.keep k rs)
theorem nR {h:Heap}:∀ {vs:List Value} {ds:List PyData} {as:List DR},ReadsAll h vs ds as->(∀ d∈ds,vq d=some T)->∃ fs,KatTups h vs fs/\fs.length=vs.length/\∀ v∈fs,Looks (model P w) h (typeOf v) (.type T)
 | _,_,_,.nil,_=>⟨[],.nil,rfl,fun _ h=>nomatch h⟩
 | _,d :: ds,_,.cons r rs,hh=>by
  obtain⟨fs,h1,h2,h3⟩:=nR rs fun d hd=>hh d (DT _ hd);obtain⟨x,xs,rfl,hx⟩:=ay (hh d DZ);cases r with
  | @tuple l o vs n _ as k1 k2 k3 k4 =>
   obtain⟨vl⟩:=vs;cases k4 with
   | @cons v0 vs0 _ _ _ _ r0 rs0 =>
    refine⟨v0 :: fs,.cons k1 k2 k3 rfl h1,by simp [h2],fun v hv=>?_⟩;rcases D0.mp hv with rfl | hv
    ·rcases hx with⟨rfl,nx,rfl⟩ | ⟨rfl,nx,rfl⟩ | ⟨rfl,nx,rfl⟩
     ·cases r0;exact Looks.of_pure rfl
     ·cases r0;exact Looks.of_pure rfl
     ·cases r0 with
      | tuple q1 q2 q3 q4=>rw [<-q2];exact (Looks.ld q1).andThen .now
    ·exact h3 v hv
theorem B4 {ds:List PyData} (ok:SortOk T ds):Tot ds.length fun i j=>ltD (ds.getD i .none) (ds.getD j .none):=by
 have mem:∀ i,i<ds.length->ds.getD i .none∈ds:=fun i hi=>by
  rw [DO,DK hi];exact Eo hi
 refine⟨fun i j hi hj ne=>mf _ _ (ok.plain _ (mem i hi)) (ok.plain _ (mem j hj)) fun z=>ne ?_,fun i j k hi hj hk=>mh _ _ _ (ok.plain _ (mem i hi)) (ok.plain _ (mem j hj)) (ok.plain _ (mem k hk))⟩;rw [DO,DO,DK hi,DK hj] at z;exact (GD ok.nd).mp z
theorem xF {vs:List Value} {ds:List PyData} {as:List DR} (ra:ReadsAll s.heap vs ds as) (ok:SortOk T ds) (hu:A.units+60<Fh) (few:ds.length<64 \/ ds.Pairwise fun d e=>ltD d e=true) :
  Asks P w A s (tuples' (Value.type T != Value.type "tuple")) vs fun i j=>ltD (ds.getD i .none) (ds.getD j .none):=by
 have len:=He _ _ _ ra;have mem:∀ i,i<ds.length->ds.getD i .none∈ds:=fun i hi=>by
  rw [DO,DK hi];exact Eo hi
 refine⟨fun h2 h' k R q=>?_,fun h' k i j C hi hj q=>?_,by rw [len];exact B4 ok,?_⟩
 ·obtain⟨fs,f1,f2,f3⟩:=nR (P:=P) (w:=w) (ReadsAll.keep k ra) ok.head;exact kat_kind f1 (by omega) f3 (beq_self_eq_true _) q
 ·rw [len] at hi hj;obtain⟨b1,r1⟩:=ReadsAll.at (ReadsAll.keep k ra) i hi;obtain⟨b2,r2⟩:=ReadsAll.at (ReadsAll.keep k ra) j hj;exact B3 r1 r2 (ok.plain _ (mem i hi)) (ok.plain _ (mem j hj)) (ok.head _ (mem i hi)) (ok.head _ (mem j hj)) (ok.cmp _ (mem i hi) _ (mem j hj)) hu (ok.depth _ (mem i hi)) (ok.depth _ (mem j hj)) q
 ·rw [len];refine few.imp id fun pw i hi=>?_;have h1:=Fn.mp pw i (i+1) (by omega) hi (by omega);have g:∀ j (hj:j<ds.length),ds.getD j .none=ds[j]:=fun j hj=>by rw [DO,DK hj];rfl
  rw [g _ hi,g i (by omega)];have ne:=lt_asymm (ok.plain _ (Eo _)) (ok.plain _ (Eo _)) h1;have:=mf _ _ (ok.plain _ (Eo _)) (ok.plain _ (Eo _)) ne;rw [h1] at this
  revert this
  cases ltD ds[i+1] ds[i] <;> simp
end
noncomputable def pick {α:Type} (d:α) (p:Array Nat) (xs:List α):List α:=p.toList.map fun i=>xs.getD i d
theorem nS:∀ {xs:List V} {us:List Value},Vals xs us->∀ i,RelV (xs.getD i .non) (us.getD i Value.none)
 | _,_,.nil,i=>rfl
 | _,_,.cons r t,0=>r
 | _,_,.cons r t,i+1=>nS t i
theorem rN {xs:List V} {us:List Value} (r:Vals xs us) (p:Array Nat):Vals (pick .non p xs) (pick Value.none p us):=by
 unfold pick
 induction p.toList with
 | nil=>exact .nil
 | cons i l ih=>exact .cons (nS r i) ih
theorem nT {K:DP} {H:Hp}:∀ {ds:List PyData} {xs:List V},Reps K H ds xs->∀ i,Rep K H (ds.getD i .none) (xs.getD i .non)
 | [],xs,r,i=>by
  rw [zV.mp r];exact vo.mpr rfl
 | d :: ds,xs,r,i=>by
  obtain⟨x,xs',rfl,r1,r2⟩:=zG.mp r;cases i with
  | zero=>exact r1
  | succ i=>exact nT r2 i
theorem rO {K:DP} {H:Hp} {ds:List PyData} {xs:List V} (r:Reps K H ds xs) (p:Array Nat):Reps K H (pick .none p ds) (pick .non p xs):=by
 unfold pick
 induction p.toList with
 | nil=>exact .nil'
 | cons i l ih=>exact .cons' (nT r i) ih
theorem rP {α:Type} {d:α} {n:Nat} {p:Array Nat} {xs:List α} (h:Pm n p) (hn:n=xs.length):(pick d p xs).Perm xs:=by
 have e:(Ec n).map (fun i=>xs.getD i d)=xs:=by
  subst hn;refine G5 fun i=>?_;rw [DX];by_cases hi:i<xs.length
  ·rw [FG hi,DK hi];simp [hi]
  ·rw [En (by simp;omega),En (by omega)];rfl
 have:=h.map fun i=>xs.getD i d;rw [e] at this;exact this
theorem xG {n:Nat} {p:Array Nat} {ds:List PyData} (h:Pm n p) (u:Up (fun i j=>ltD (ds.getD i .none) (ds.getD j .none)) p n):(pick .none p ds).Pairwise fun d e=>ltD d e=true:=by
 unfold pick;rw [E8];refine Fn.mpr fun i j hi hj hij=>?_;have hs:=h.size;rw [D8] at hi hj;have:=u i j hij (by omega);have g:∀ k (hk:k<p.toList.length),p.getD k 0=p.toList[k]:=fun k hk=>by
  rw [qR,DO,DK hk];rfl
 rw [g i (by simpa using hi),g j (by simpa using hj)] at this;exact this
def gW (K:DP):List V->Hp->VK->Prop:=fun xs H Q=>∃ (a:DR) (vs:List V) (ds:List PyData) (T:String),xs=[.ref a]/\SqL K H a vs/\Reps K H ds vs/\SortOk T ds/\ds.length<=1000/\(ds.length<64 \/ ds.Pairwise fun d e=>ltD d e=true) /\
 ∀ l p,H l=none->Pm ds.length p->Up (fun i j=>ltD (ds.getD i .none) (ds.getD j .none)) p ds.length->Q (.ref l) (upd H l (.lst (pick .non p vs)))
theorem gX {X:Cx} (hu:X.A.units+64<Fh):yY X (.builtin "sorted") (gW X.K):=by
 intro Jn s σ H xs us Q I r h;obtain⟨a,vs,ds,T,rfl,ha,rd,ok,hl,few,q⟩:=h;obtain⟨u,rfl,rx⟩:=vals1 r;cases rx;obtain⟨its,rv,pl,hz⟩:=I.list ha;have le:=rv.length;have ld:=rd.length;obtain⟨as,ra⟩:=qO I ds vs its rd rv;have e2:X.A.in1.in1.units=X.A.units+1+1:=rfl;have lt':its.length=ds.length:=by omega
 refine kE (by omega) pl.isList (xF ra ok (by omega) few) fun h' D p c x1 x2 x3 x4 x5=>?_;rw [lt'] at x1 x2;have hD:H D=none:=I.hok.fresh x3;have lp:p.toList.length=ds.length:=by rw [D8];exact x1.size
 exact⟨.ref D,upd H D (.lst (pick .non p vs)),I.laid (t':=s.toks) x4 x3 ⟨by unfold pick;rw [DM];omega,pick Value.none p its,c,rN rv p,x5⟩,rfl,q D p hD x1 x2⟩
theorem gY {X:Cx} {K:DP} (hK:X.K=K) (hu:X.A.units+64<Fh):yY X (.builtin "sorted") (gW K):=hK▸gX hu
section
variable {K:DP} {f:Fx} {ρ:zw} {P:List PyData->Prop} {te:TE}
theorem uv (T:String) (h:PEd K f te ρ fun x=>∃ ds,x=.list ds/\SortOk T ds/\ds.length<=1000/\(ds.length<64 \/ ds.Pairwise fun d e=>ltD d e=true)/\∀ es,es.Perm ds->(es.Pairwise fun d e=>ltD d e=true)->P es) :
  PEdO K f (tCB (gW K) (zT te jT)) ρ P:=fun σ H Q e q=>h σ H _ e fun x v H1 g1 r1 ⟨ds,ex,ok,hl,few,p⟩=>by
 subst ex;obtain⟨a,xs,rfl,h1,h2⟩:=zO.mp r1;refine⟨a,xs,ds,T,rfl,(zt _ _).seq h1,Reps.mono (zt _ _) _ _ h2,ok,hl,few,fun l pm hn m u=>?_⟩;have g2:Goes f H1 (upd H1 l (.lst (pick .non pm xs))):=.of_same (yD hn _) g1.2;refine q (pick .none pm ds) l _ _ (g1.trans g2) (g1.free e.fd hn) zR (Reps.mono (fun b o hb=>?_) _ _ (rO h2 pm)) (p _ (rP m rfl) (xG m u));have hb':=zY hb;have hbl:b≠l:=fun z=>by
  have:=hb'.2;rw [z,hn] at this;cases this
 refine zM (fun z=>?_) (by rw [zN hbl];exact hb'.2);rcases z with z | z
 ·exact hb'.1 (.inl z)
 ·rcases D0.mp z with z | z
  ·exact hbl z
  ·exact hb'.1 (.inr z)
end
end L2
end
section
namespace L2.ST
open PySem PySem.SetTable
def kG (xs:Array Nat):Prop:=∀ i j,i<j->j<xs.size->xs.getD i 0<xs.getD j 0
theorem uw {xs:Array Nat} {i d e:Nat} (h:i<xs.size):xs.getD i d=xs.getD i e:=by simp [Gm,h]
theorem eH {xs:Array Nat} {j:Nat}:∀ f lo hi,hi - lo<=f->lo<=hi->hi<=xs.size->(∀ i,i<lo->xs.getD i 0<j)->(∀ i,hi<=i->i<xs.size->j<=xs.getD i 0)->kG xs ->
  lo<=below.go xs j f lo hi/\below.go xs j f lo hi<=hi/\(∀ i,i<below.go xs j f lo hi->xs.getD i 0<j)/\(∀ i,below.go xs j f lo hi<=i->i<xs.size->j<=xs.getD i 0)
 | 0,lo,hi,hf,hl,hh,a,b,r=>by
  obtain rfl:lo=hi:=by omega
  exact⟨DU _,DU _,a,b⟩
 | f+1,lo,hi,hf,hl,hh,a,b,r=>by
  unfold below.go;by_cases h:lo<hi
  ·rw [Jp h];have hm:(lo+hi) / 2<xs.size:=by omega
   simp only;rw [uw (e:=0) hm];by_cases h2:xs.getD ((lo+hi) / 2) 0<j
   ·rw [Jp h2];have:=eH f ((lo+hi) / 2+1) hi (by omega) (by omega) hh (fun i hi'=>by
     by_cases e:i=(lo+hi) / 2
     ·rw [e];exact h2
     ·exact Jb (r i _ (by omega) hm) h2) b r
    exact⟨by omega,this.2.1,this.2.2⟩
   ·rw [Jo h2];have:=eH f lo ((lo+hi) / 2) (by omega) (by omega) (by omega) a (fun i hi' hs=>by
     by_cases e:i=(lo+hi) / 2
     ·rw [e];omega
     ·have:=r ((lo+hi) / 2) i (by omega) hs;omega) r
    exact⟨this.1,by omega,this.2.2⟩
  ·rw [Jo h];obtain rfl:lo=hi:=by omega
   exact⟨DU _,DU _,a,b⟩
theorem kH {xs:Array Nat} (r:kG xs) (j:Nat):below xs j<=xs.size/\(∀ i,i<below xs j->xs.getD i 0<j)/\(∀ i,below xs j<=i->i<xs.size->j<=xs.getD i 0):=by
 have:=eH (xs:=xs) (j:=j) xs.size 0 xs.size (by omega) (EE _) (DU _) (fun i hi=>absurd hi (FC _)) (fun i a b=>by omega) r;exact this.2
theorem below_at {xs:Array Nat} (r:kG xs) {i:Nat} (hi:i<xs.size):below xs (xs.getD i 0)=i:=by
 obtain⟨a,b,c⟩:=kH r (xs.getD i 0);by_cases h:below xs (xs.getD i 0)<i
 ·have h1:=c _ (DU _) (by omega);have h2:=r _ i h hi;omega
 ·by_cases h2:i<below xs (xs.getD i 0)
  ·have:=b i h2;omega
  ·omega
def Tk (t:SetTable) (j:Nat):Prop:=∃ i,i<t.place.size/\t.place.getD i 0=j
theorem slot_live {t:SetTable} (r:kG t.place) {i:Nat} (hi:i<t.place.size):t.slot (t.place.getD i 0)=.live i:=by
 unfold slot;simp only;rw [below_at r hi];have:(t.place[i]? == some (t.place.getD i 0))=true:=by simp [Gm,hi]
 rw [Jp this]
theorem rQ {t:SetTable} (d:t.dummies=#[]) {j:Nat} (h:¬ Tk t j):t.slot j=.empty:=by
 unfold slot;simp only;have h1:¬ (t.place[below t.place j]? == some j)=true:=fun e=>h (by
  have e2:=eq_of_beq e;obtain⟨hl,e3⟩:=Array.getElem?_eq_some_iff.mp e2;exact⟨_,hl,by simp [Gm,hl,e3]⟩)
 rw [Jo h1];have h2:has t.dummies j=false:=by rw [d];rfl
 rw [h2];rfl
def road (mask:Nat) (h:Int):Nat->Probe
 | 0=>{ j:=bits h % (mask+1),more:=runEnd mask (bits h % (mask+1)) - bits h % (mask+1),i:=bits h % (mask+1),perturb:=bits h,dummy:=none }
 | k+1=>if (road mask h k).more > 0 then { road mask h k with j:=(road mask h k).j+1,more:=(road mask h k).more - 1 } else
  { road mask h k with j:=(leap mask (road mask h k).i (road mask h k).perturb).1,more:=runEnd mask (leap mask (road mask h k).i (road mask h k).perturb).1 - (leap mask (road mask h k).i (road mask h k).perturb).1,i:=(leap mask (road mask h k).i (road mask h k).perturb).1,perturb:=(leap mask (road mask h k).i (road mask h k).perturb).2 }
theorem road_start (t:SetTable) (h:Int):t.probeStart h=road t.mask h 0:=rfl
theorem bA (mask:Nat) (h:Int):∀ k,(road mask h k).dummy=none
 | 0=>rfl
 | k+1=>by
  unfold road;split
  ·exact bA mask h k
  ·exact bA mask h k
abbrev pos (mask:Nat) (h:Int) (k:Nat):Nat:=(road mask h k).j
noncomputable def lp (mask:Nat) (h:Int):Nat->Nat×Nat
 | 0=>(bits h % (mask+1),bits h)
 | r+1=>leap mask (lp mask h r).1 (lp mask h r).2
theorem cA (mask i:Nat) (h:i<=mask):i<=runEnd mask i/\runEnd mask i<=mask/\runEnd mask i - i<=9:=by
 unfold runEnd;split <;> omega
theorem kI (mask:Nat) (h:Int):∀ r,(lp mask h r).1<=mask
 | 0=>Hw.mp (Hk _ (HC _))
 | r+1=>Hw.mp (Hk _ (HC _))
def At (mask:Nat) (h:Int) (k r d:Nat):Prop:=d<=runEnd mask (lp mask h r).1 - (lp mask h r).1/\road mask h k={ j:=(lp mask h r).1+d,more:=runEnd mask (lp mask h r).1 - (lp mask h r).1 - d,i:=(lp mask h r).1,perturb:=(lp mask h r).2,dummy:=none }
theorem gZ (mask:Nat) (h:Int):At mask h 0 0 0:=⟨EE _,rfl⟩
theorem nU {mask:Nat} {h:Int} {k r d:Nat} (a:At mask h k r d) (hd:d<runEnd mask (lp mask h r).1 - (lp mask h r).1):At mask h (k+1) r (d+1):=by
 obtain⟨a1,a2⟩:=a;refine⟨hd,?_⟩;unfold road;rw [a2];simp only;rw [Jp (by omega)];simp only [Probe.mk.injEq,and_true];omega
theorem g6 {mask:Nat} {h:Int} {k r d:Nat} (a:At mask h k r d) (hd:d=runEnd mask (lp mask h r).1 - (lp mask h r).1):At mask h (k+1) (r+1) 0:=by
 obtain⟨a1,a2⟩:=a;refine⟨EE _,?_⟩;unfold road;rw [a2];simp only;rw [Jo (by omega)];rfl
theorem g7 {mask:Nat} {h:Int} {k r:Nat} (a:At mask h k r 0):∀ d,d<=runEnd mask (lp mask h r).1 - (lp mask h r).1->At mask h (k+d) r d
 | 0,_=>a
 | d+1,hd=>nU (g7 a d (by omega)) (by omega)
theorem kJ (mask:Nat) (h:Int):∀ r,∃ k,k<=10 * r/\At mask h k r 0
 | 0=>⟨0,DU _,gZ mask h⟩
 | r+1=>by
  obtain⟨k,hk,a⟩:=kJ mask h r;have:=(cA mask _ (kI mask h r)).2.2;exact⟨_,by omega,g6 (g7 a _ (DU _)) rfl⟩
theorem ux (mask:Nat) (h:Int):∀ k,∃ r d,At mask h k r d
 | 0=>⟨0,0,gZ mask h⟩
 | k+1=>by
  obtain⟨r,d,a⟩:=ux mask h k;by_cases e:d<runEnd mask (lp mask h r).1 - (lp mask h r).1
  ·exact⟨r,d+1,nU a e⟩
  ·exact⟨r+1,0,g6 a (Nat.le_antisymm a.1 (by omega))⟩
theorem g8 (mask:Nat) (h:Int) (k:Nat):pos mask h k<=mask:=by
 obtain⟨r,d,a1,a2⟩:=ux mask h k;unfold pos;rw [a2];have:=cA mask _ (kI mask h r);show (lp mask h r).1+d<=mask;omega
def stp (m i:Nat):Nat:=(i * 5+1) % m
def itr (m:Nat):Nat->Nat->Nat
 | 0,i=>i
 | r+1,i=>stp m (itr m r i)
theorem bN (m:Nat) (a:Nat):∀ b i,itr m (a+b) i=itr m b (itr m a i)
 | 0,i=>rfl
 | b+1,i=>by show stp m (itr m (a+b) i)=stp m (itr m b (itr m a i));rw [bN m a b i]
def orb (m:Nat):Nat->Nat->List Nat
 | 0,_=>[]
 | f+1,i=>i :: orb m f (stp m i)
theorem uy (m:Nat):∀ f i r,r<f->(orb m f i)[r]?=some (itr m r i)
 | 0,_,_,h=>absurd h (FC _)
 | f+1,i,0,_=>rfl
 | f+1,i,r+1,h=>by
  show (orb m f (stp m i))[r]?=_;rw [uy m f (stp m i) r (by omega),show r+1=1+r by omega,bN m 1 r i];rfl
def qE (m:Nat):Bool:=(Ec m).all (fun j=>(orb m m 0).contains j) && itr m m 0 == 0
theorem nV:qE 8=true:=by decide +kernel
theorem kK:qE 32=true:=by decide +kernel
theorem fP:qE 128=true:=by decide +kernel
theorem fQ:qE 512=true:=by decide +kernel
theorem g9 (m:Nat):∀ f i,(orb m f i).length=f
 | 0,_=>rfl
 | f+1,i=>by show (orb m f (stp m i)).length+1=f+1;rw [g9 m f]
theorem kL {m:Nat} (h:qE m=true) {j:Nat} (hj:j<m):∃ r,r<m/\itr m r 0=j:=by
 unfold qE at h;rw [DW] at h;have:=Ga.mp h.1 j (Es.mpr hj);have hm:j∈orb m m 0:=by simpa using this
 obtain⟨r,hr,e⟩:=F6 hm;rw [g9] at hr;have e2:=uy m m 0 r hr;rw [DK (by rw [g9];exact hr),e] at e2;exact⟨r,hr,(Option.some.inj e2).symm⟩
theorem nW {m:Nat} (h:qE m=true) {i j:Nat} (hi:i<m) (hj:j<m):∃ r,r<m/\itr m r i=j:=by
 obtain⟨a,ha,ea⟩:=kL h hi;obtain⟨b,hb,eb⟩:=kL h hj;have e0:itr m m 0=0:=by
  unfold qE at h;rw [DW] at h;exact eq_of_beq h.2
 by_cases hab:a<=b
 ·exact⟨b - a,by omega,by rw [<-ea,<- bN,show a+(b - a)=b by omega];exact eb⟩
 ·refine⟨m - a+b,by omega,?_⟩;rw [<-ea,<- bN,show a+(m - a+b)=m+b by omega,bN,e0];exact eb
theorem nX (mask:Nat) (h:Int):∀ r,(lp mask h r).2=bits h / 32 ^ r
 | 0=>by simp [lp]
 | r+1=>by
  show (lp mask h r).2 / 32=_;rw [nX mask h r,Nat.div_div_eq_div_mul,Nat.pow_succ]
theorem xH (h:Int):bits h<2 ^ 64:=by
 unfold bits;have:=Gp h (show (0:Int)<2 ^ 64 by decide);have:=Iv h (show (2 ^ 64:Int)≠0 by decide);omega
theorem xI (mask:Nat) (h:Int) (r:Nat) (hr:13<=r):(lp mask h r).2=0:=by
 rw [nX];refine Nat.div_eq_of_lt (Eh (xH h) ?_);exact Em (show 2 ^ 64<=32 ^ 13 by decide) (Ho (by decide) hr)
theorem mq (mask:Nat) (h:Int):∀ r,(lp mask h (13+r)).1=itr (mask+1) r (lp mask h 13).1
 | 0=>rfl
 | r+1=>by
  show (leap mask (lp mask h (13+r)).1 (lp mask h (13+r)).2).1=stp (mask+1) (itr (mask+1) r (lp mask h 13).1);rw [xI mask h (13+r) (by omega),mq mask h r];rfl
theorem uz {mask:Nat} (g:qE (mask+1)=true) (h:Int) {j:Nat} (hj:j<=mask):∃ k,k<10 * turns mask/\pos mask h k=j:=by
 obtain⟨r,hr,e⟩:=nW g (i:=(lp mask h 13).1) (j:=j) (G6 (kI mask h 13)) (G6 hj);obtain⟨k,hk,a1,a2⟩:=kJ mask h (13+r);refine⟨k,by unfold turns;omega,?_⟩;unfold pos;rw [a2];show (lp mask h (13+r)).1+0=j;rw [mq,e];rfl
end L2.ST
end
section
namespace L2.ST
open PySem PySem.SetTable
structure TB (t:SetTable) (hs:List Int):Prop where
 mask:t.mask=7 \/ t.mask=31 \/ t.mask=127 \/ t.mask=511
 dum:t.dummies=#[]
 rise:kG t.place
 le:∀ i,i<t.place.size->t.place.getD i 0<=t.mask
 size:t.place.size=hs.length
 most:hs.length<=t.mask
 reach:∀ i,i<hs.length->∃ k,pos t.mask (hs.getD i 0) k=t.place.getD i 0/\∀ k',k'<k->Tk t (pos t.mask (hs.getD i 0) k')
structure TOk (t:SetTable) (hs:List Int):Prop extends TB t hs where
 room:hs.length * 5<t.mask * 3
theorem hC {t:SetTable} {hs:List Int} (o:TB t hs):qE (t.mask+1)=true:=by
 rcases o.mask with e | e | e | e <;> rw [e]
 ·exact nV
 ·exact kK
 ·exact fP
 ·exact fQ
theorem rR {t:SetTable} (r:kG t.place) (hs:t.place.size<=t.mask):∃ j,j<=t.mask/\¬ Tk t j:=by
 refine Fo fun no=>?_;have all:∀ j,j<=t.mask->Tk t j:=fun j hj=>Fo fun z=>no ⟨j,hj,z⟩;have up:∀ j,j<=t.mask->j<=below t.place j/\below t.place j<t.place.size:=fun j=>by
  induction j with
  | zero =>
   intro hj;obtain⟨i,hi,e⟩:=all 0 hj;have:=below_at r hi;rw [e] at this;exact⟨EE _,by omega⟩
  | succ j ih =>
   intro hj;obtain⟨i,hi,e⟩:=all (j+1) hj;obtain⟨i',hi',e'⟩:=all j (by omega);have b1:=below_at r hi;have b2:=below_at r hi';rw [e] at b1;rw [e'] at b2;have lt:i'<i:=by
    by_cases h:i'<i
    ·exact h
    ·by_cases h2:i'=i
     ·subst h2;omega
     ·have:=r i i' (by omega) hi';omega
   have:=ih (by omega);omega
 have:=up t.mask (DU _);omega
structure First (t:SetTable) (h:Int) (E:Nat):Prop where
 lt:E<10 * turns t.mask
 free:¬ Tk t (pos t.mask h E)
 ahead:∀ k,k<E->Tk t (pos t.mask h k)
theorem least {p:Nat->Prop}:∀ n,p n->∃ m,m<=n/\p m/\∀ k,k<m->¬ p k:=fun n=>by
 induction n using Nat.strongRecOn with
 | ind n ih =>
  intro h;by_cases q:∃ k,k<n/\p k
  ·obtain⟨k,hk,pk⟩:=q;obtain⟨m,a,b⟩:=ih k hk pk;exact⟨m,by omega,b⟩
  ·exact⟨n,DU _,h,fun k hk z=>q ⟨k,hk,z⟩⟩
theorem rS {t:SetTable} (g:qE (t.mask+1)=true) (r:kG t.place) (hs:t.place.size<=t.mask) (h:Int):∃ E,First t h E:=by
 obtain⟨j,hj,nj⟩:=rR r hs;obtain⟨k,hk,e⟩:=uz g h hj;obtain⟨m,a,b,c⟩:=least (p:=fun k=>¬ Tk t (pos t.mask h k)) k (by show ¬ Tk t (pos t.mask h k);rw [e];exact nj);exact⟨m,by omega,b,fun q hq=>Fo (c q hq)⟩
theorem first_of {t:SetTable} {hs:List Int} (o:TB t hs) (h:Int):∃ E,First t h E:=rS (hC o) o.rise (by have:=o.size;have:=o.most;omega) h
theorem probe_go {t:SetTable} (d:t.dummies=#[]) (r:kG t.place) {hashAt:Nat->Int} {h:Int} {E:Nat} (F:First t h E):∀ f k,k<=E->E<k+f ->
  (probe.go t hashAt h f (road t.mask h k)=some (.empty (pos t.mask h E) none)/\∀ q i,k<=q->q<E->i<t.place.size->pos t.mask h q=t.place.getD i 0->hashAt i≠h) \/
  ∃ q i,k<=q/\q<E/\i<t.place.size/\pos t.mask h q=t.place.getD i 0/\hashAt i=h/\probe.go t hashAt h f (road t.mask h k)=some (.candidate (pos t.mask h q) i (road t.mask h (q+1)))/\∀ q' i',k<=q'->q'<q->i'<t.place.size->pos t.mask h q'=t.place.getD i' 0->hashAt i'≠h
 | 0,k,h1,h2=>by omega
 | f+1,k,h1,h2=>by
  unfold probe.go;by_cases e:k=E
  ·subst e;refine .inl ⟨?_,fun q i a b=>by omega⟩;rw [rQ d F.free];show some (Met.empty _ _)=_;rw [bA]
  ·obtain⟨i,hi,ei⟩:=F.ahead k (by omega);have sl:t.slot (road t.mask h k).j=.live i:=by
    have:=slot_live r hi;rw [ei] at this;exact this
   rw [sl];show (if (hashAt i == h)=true then _ else _:Option Met)=_/\_ \/ _;have uniq:∀ i',i'<t.place.size->pos t.mask h k=t.place.getD i' 0->i'=i:=fun i' hi' e'=>by
    have b1:=below_at r hi;have b2:=below_at r hi';rw [ei] at b1;rw [<-e'] at b2;omega
   by_cases hh:(hashAt i == h)=true
   ·rw [Jp hh];refine .inr ⟨k,i,DU _,by omega,hi,ei.symm,eq_of_beq hh,?_,fun q' i' a b=>by omega⟩;show (if (hashAt i == h)=true then _ else _:Option Met)=_;rw [Jp hh];rfl
   ·rw [Jo hh];have hne:hashAt i≠h:=fun z=>hh (by rw [z];exact beq_self_eq_true _);rcases probe_go d r (hashAt:=hashAt) F f (k+1) (by omega) (by omega) with⟨a,b⟩ | ⟨q,i2,a1,a2,a3,a4,a5,a6,a7⟩
    ·refine .inl ⟨a,fun q i' c1 c2 c3 c4=>?_⟩;by_cases eq:q=k
     ·subst eq;rw [uniq i' c3 c4];exact hne
     ·exact b q i' (by omega) c2 c3 c4
    ·refine .inr ⟨q,i2,by omega,a2,a3,a4,a5,?_,fun q' i' c1 c2 c3 c4=>?_⟩
     ·show (if (hashAt i == h)=true then _ else _:Option Met)=_;rw [Jo hh];exact a6
     ·by_cases eq:q'=k
      ·subst eq;rw [uniq i' c3 c4];exact hne
      ·exact a7 q' i' (by omega) c2 c3 c4
end L2.ST
end
section
namespace L2.ST
open PySem PySem.SetTable
theorem bO {α:Type} (xs:Array α) (i:Nat) (d:α):xs.getD i d=xs.toList.getD i d:=by
 by_cases h:i<xs.size <;> simp [Gm,h,List.getD]
theorem kM {α:Type} (l:List α) (p:Nat) (x d:α) (hp:p<=l.length) (i:Nat):(l.take p++x :: l.drop p).getD i d=if i<p then l.getD i d else if i=p then x else l.getD (i - 1) d:=by
 have lt:(l.take p).length=p:=by rw [Et];omega
 by_cases h1:i<p
 ·rw [Jp h1,DO,D4 (by omega),GV h1,DO]
 ·rw [Jo h1,DO,D7 (by omega),lt];by_cases h2:i=p
  ·rw [Jp h2,h2,Gk];rfl
  ·rw [Jo h2,show i - p=(i - p - 1)+1 by omega,List.getElem?_cons_succ,List.getElem?_drop,show p+(i - p - 1)=i - 1 by omega,DO]
section
variable {t:SetTable} {hs:List Int} {h:Int} {E:Nat}
theorem put_tb (o:TB t hs) (F:First t h E) (more:hs.length+1<=t.mask):below t.place (pos t.mask h E)<=hs.length/\TB (t.put (pos t.mask h E)).1 (hs.take (below t.place (pos t.mask h E))++h :: hs.drop (below t.place (pos t.mask h E))):=by
 obtain⟨b1,b2,b3⟩:=kH o.rise (pos t.mask h E);have sz:=o.size;generalize hp:below t.place (pos t.mask h E)=p at *;have hpl:p<=t.place.toList.length:=by rw [D8];exact b1
 have pl:∀ i,(t.put (pos t.mask h E)).1.place.getD i 0=if i<p then t.place.getD i 0 else if i=p then pos t.mask h E else t.place.getD (i - 1) 0:=fun i=>by
  show (insertAt t.place (below t.place (pos t.mask h E)) (pos t.mask h E)).getD i 0=_;rw [hp,bO,GW,kM _ _ _ _ hpl,bO,bO]
 have psz:(t.put (pos t.mask h E)).1.place.size=t.place.size+1:=by
  show (insertAt t.place (below t.place (pos t.mask h E)) (pos t.mask h E)).size=_;rw [<-D8,GW,hp,D6,Ea,Et,Hj,D8];omega
 have ne:∀ i,i<t.place.size->t.place.getD i 0≠pos t.mask h E:=fun i hi e=>F.free ⟨i,hi,e⟩;have b3':∀ i,p<=i->i<t.place.size->pos t.mask h E<t.place.getD i 0:=fun i a b=>by
  have:=b3 i a b;have:=ne i b;omega
 have hm:(t.put (pos t.mask h E)).1.mask=t.mask:=rfl;have tk:∀ j,Tk t j->Tk (t.put (pos t.mask h E)).1 j:=fun j ⟨i,hi,e⟩=>by
  by_cases q:i<p
  ·exact⟨i,by omega,by rw [pl,Jp q];exact e⟩
  ·exact⟨i+1,by omega,by rw [pl,Jo (by omega),Jo (by omega),Nat.add_sub_cancel];exact e⟩
 have hl:∀ i,(hs.take p++h :: hs.drop p).getD i 0=if i<p then hs.getD i 0 else if i=p then h else hs.getD (i - 1) 0:=fun i=>kM hs p h 0 (by omega) i
 have ln:(hs.take p++h :: hs.drop p).length=hs.length+1:=by
  rw [D6,Ea,Et,Hj];omega
 refine⟨by omega,⟨o.mask,?_,fun i j hij hj=>?_,fun i hi=>?_,by rw [psz,ln,sz],by rw [ln,hm];exact more,fun i hi=>?_⟩⟩
 ·show (if has t.dummies (pos t.mask h E)=true then _ else t.dummies)=#[];rw [o.dum];rfl
 ·rw [pl,pl];rw [psz] at hj;by_cases c1:i<p
  ·rw [Jp c1];by_cases c2:j<p
   ·rw [Jp c2];exact o.rise i j hij (by omega)
   ·rw [Jo c2];by_cases c3:j=p
    ·rw [Jp c3];exact b2 i c1
    ·rw [Jo c3];exact o.rise i (j - 1) (by omega) (by omega)
  ·rw [Jo c1,Jo (show ¬ j<p by omega)];by_cases c3:i=p
   ·rw [Jp c3,Jo (by omega)];exact b3' (j - 1) (by omega) (by omega)
   ·rw [Jo c3,Jo (by omega)];exact o.rise (i - 1) (j - 1) (by omega) (by omega)
 ·rw [pl,hm];rw [psz] at hi;by_cases c1:i<p
  ·rw [Jp c1];exact o.le i (by omega)
  ·rw [Jo c1];by_cases c3:i=p
   ·rw [Jp c3];exact g8 _ _ _
   ·rw [Jo c3];exact o.le (i - 1) (by omega)
 ·rw [hl,pl,hm];rw [ln] at hi;by_cases c1:i<p
  ·rw [Jp c1,Jp c1];obtain⟨k,e,a⟩:=o.reach i (by omega);exact⟨k,e,fun k' hk=>tk _ (a k' hk)⟩
  ·rw [Jo c1,Jo c1];by_cases c3:i=p
   ·rw [Jp c3,Jp c3];exact⟨E,rfl,fun k' hk=>tk _ (F.ahead k' hk)⟩
   ·rw [Jo c3,Jo c3];obtain⟨k,e,a⟩:=o.reach (i - 1) (by omega);exact⟨k,e,fun k' hk=>tk _ (a k' hk)⟩
end
def Occ (ow:Array (Option Nat)) (j:Nat):Prop:=ow.getD j (some 0)≠none
theorem nY {mask:Nat} {ow:Array (Option Nat)} {h:Int}:∀ f r k,At mask h k r 0->(∃ r',r<=r'/\r'<r+f/\¬ Occ ow (lp mask h r').1) ->
  ∃ E,k<=E/\(∀ q,k<=q->q<E->Occ ow (pos mask h q))/\¬ Occ ow (pos mask h E)/\layClean.free mask ow f (lp mask h r).1 (lp mask h r).2=some (pos mask h E)
 | 0,r,k,a,⟨r',h1,h2,_⟩=>by omega
 | f+1,r,k,a,⟨r',h1,h2,h3⟩=>by
  have re:=cA mask _ (kI mask h r);have at_:∀ d,d<=runEnd mask (lp mask h r).1 - (lp mask h r).1->pos mask h (k+d)=(lp mask h r).1+d:=fun d hd=>by
   have:=(g7 a d hd).2;unfold pos;rw [this]
  unfold layClean.free;cases hf:(Ec (runEnd mask (lp mask h r).1+1 - (lp mask h r).1)).find? fun k=>(ow.getD ((lp mask h r).1+k) (some 0)).isNone with
  | some d =>
   have hm:=List.mem_of_find?_eq_some hf;have hd:=Es.mp hm;have hs:=List.find?_some hf;have bef:∀ d',d'<d->¬ (ow.getD ((lp mask h r).1+d') (some 0)).isNone=true:=fun d' hd'=>by
    obtain⟨_,as,bs,e,al⟩:=Hq.mp hf;have:as=Ec d:=by
     have l1:(Ec (runEnd mask (lp mask h r).1+1 - (lp mask h r).1))[as.length]?=some d:=by
      rw [e,D7 (DU _),Gk];rfl
     have lt:as.length<runEnd mask (lp mask h r).1+1 - (lp mask h r).1:=by
      have:=congrArg List.length e;simp at this;omega
     rw [FG lt] at l1;have el:as.length=d:=Option.some.inj l1;have:as=(Ec (runEnd mask (lp mask h r).1+1 - (lp mask h r).1)).take as.length:=by
      rw [e,List.take_append_of_le_length (DU _),Eu]
     rw [this,List.take_range,Iu (by omega),el]
    have al2:=al d' (by rw [this];exact Es.mpr hd');intro z;have z2:(!(ow.getD ((lp mask h r).1+d') (some 0)).isNone)=true:=al2;rw [z] at z2;cases z2
   refine⟨k+d,by omega,fun q hq1 hq2=>?_,?_,?_⟩
   ·have:=bef (q - k) (by omega);rw [show q=k+(q - k) by omega,at_ (q - k) (by omega)];intro z;rw [z] at this;exact this rfl
   ·rw [at_ d (by omega)];intro z;have hs':(ow.getD ((lp mask h r).1+d) (some 0)).isNone=true:=hs;exact z (GJ.mp hs')
   ·rw [at_ d (by omega)]
  | none =>
   have all:∀ d,d<runEnd mask (lp mask h r).1+1 - (lp mask h r).1->Occ ow ((lp mask h r).1+d):=fun d hd z=>by
    have:=HI.mp hf d (Es.mpr hd);simp [z] at this
   have ne:r'≠r:=fun z=>by
    rw [z] at h3;exact h3 (by have:=all 0 (by omega);rwa [Nat.add_zero] at this)
   have a2:=g6 (g7 a _ (DU _)) rfl;obtain⟨E,e1,e2,e3,e4⟩:=nY f (r+1) _ a2 ⟨r',by omega,by omega,h3⟩;refine⟨E,by omega,fun q hq1 hq2=>?_,e3,e4⟩;by_cases hq:q<k+(runEnd mask (lp mask h r).1 - (lp mask h r).1)+1
   ·rw [show q=k+(q - k) by omega,at_ (q - k) (by omega)];exact all _ (by omega)
   ·exact e2 q (by omega) hq2
end L2.ST
end
section
namespace L2.ST
open PySem PySem.SetTable
structure OwnT (mask:Nat) (ow:Array (Option Nat)) (hs:List Int) (sl:List Nat):Prop where
 size:ow.size=mask+1
 len:sl.length=hs.length
 nd:sl.Nodup
 le:∀ j∈sl,j<=mask
 own:∀ j,j<=mask->∀ i,ow.getD j none=some i↔sl[i]?=some j
 reach:∀ i,i<hs.length->∃ q,pos mask (hs.getD i 0) q=sl.getD i 0/\∀ q',q'<q->pos mask (hs.getD i 0) q'∈sl
theorem OwnT.occ {mask:Nat} {ow:Array (Option Nat)} {hs:List Int} {sl:List Nat} (o:OwnT mask ow hs sl) {j:Nat} (hj:j<=mask):Occ ow j↔j∈sl:=by
 have hs':j<ow.size:=by rw [o.size];omega
 have e:ow.getD j (some 0)=ow.getD j none:=by simp [Gm,hs']
 unfold Occ;rw [e];constructor
 ·intro h;obtain⟨i,hi⟩:=Option.ne_none_iff_exists'.mp h;exact DS ((o.own j hj i).mp hi)
 ·intro h z;obtain⟨i,hi,e2⟩:=F6 h;have:=(o.own j hj i).mpr (by rw [DK hi,e2]);rw [z] at this;cases this
def nZ (mask:Nat):Option (Array (Option Nat)×Nat)->Int->Option (Array (Option Nat)×Nat):=fun acc h=>do
  let (owner,k) <- acc
  let j <- layClean.free mask owner (turns mask) (bits h % (mask+1)) (bits h)
  pure (owner.setIfInBounds j (some k),k+1)
theorem uA {mask:Nat} (g:qE (mask+1)=true) {ow:Array (Option Nat)} {hs:List Int} {sl:List Nat} (o:OwnT mask ow hs sl) (hm:hs.length<=mask) (h:Int) :
  ∃ ow' sl',nZ mask (some (ow,hs.length)) h=some (ow',hs.length+1)/\OwnT mask ow' (hs++[h]) sl':=by
 obtain⟨j,hj,nj⟩:∃ j,j<=mask/\j∉sl:=by
  refine Fo fun no=>?_;have sub:Ec (mask+1) ⊆ sl:=fun j hj=>Fo fun z=>no ⟨j,Hw.mp (Es.mp hj),z⟩;have:=List.Nodup.length_le_of_subset Ig sub;rw [EJ,o.len] at this;omega
 obtain⟨r,hr,e⟩:=nW g (i:=(lp mask h 13).1) (j:=j) (G6 (kI mask h 13)) (G6 hj);obtain⟨E,_,e2,e3,e4⟩:=nY (ow:=ow) (turns mask) 0 0 (gZ mask h) ⟨13+r,EE _,by unfold turns;omega,by rw [mq,e,o.occ hj];exact nj⟩;have e3':pos mask h E∉sl:=fun z=>e3 ((o.occ (g8 mask h E)).mpr z);have e2':∀ q,q<E->pos mask h q∈sl:=fun q hq=>(o.occ (g8 mask h q)).mp (e2 q (EE _) hq);have e4':layClean.free mask ow (turns mask) (bits h % (mask+1)) (bits h)=some (pos mask h E):=e4;refine⟨ow.setIfInBounds (pos mask h E) (some hs.length),sl++[pos mask h E],?_,?_⟩
 ·show (layClean.free mask ow (turns mask) (bits h % (mask+1)) (bits h) >>= fun j=>pure (ow.setIfInBounds j (some hs.length),hs.length+1))=_;rw [e4'];rfl
 ·have ls:∀ i,(sl++[pos mask h E])[i]?=if i<sl.length then sl[i]? else if i=sl.length then some (pos mask h E) else none:=fun i=>by
   by_cases c:i<sl.length
   ·rw [Jp c,D4 c]
   ·rw [Jo c,D7 (by omega)];by_cases c2:i=sl.length
    ·rw [Jp c2,c2,Gk];rfl
    ·rw [Jo c2];exact En (by simp;omega)
  refine⟨by rw [Array.size_setIfInBounds];exact o.size,by simp [o.len],?_,fun j hj=>?_,fun j hj i=>?_,fun i hi=>?_⟩
  ·rw [FZ];refine⟨o.nd,by simp,fun a ha b hb=>?_⟩;rw [Ej.mp hb];intro z;rw [z] at ha;exact e3' ha
  ·rcases Ep.mp hj with hj | hj
   ·exact o.le j hj
   ·rw [Ej.mp hj];exact g8 _ _ _
  ·have hsz:j<ow.size:=by rw [o.size];omega
   rw [ls];by_cases c:j=pos mask h E
   ·subst c;have:(ow.setIfInBounds (pos mask h E) (some hs.length)).getD (pos mask h E) none=some hs.length:=by simp [Gm,hsz]
    rw [this];constructor
    ·intro z;have z':hs.length=i:=Option.some.inj z;rw [Jo (by rw [o.len];omega),Jp (by rw [o.len];omega)]
    ·intro z;by_cases c2:i<sl.length
     ·rw [Jp c2] at z;exact absurd (DS z) e3'
     ·rw [Jo c2] at z;by_cases c3:i=sl.length
      ·rw [c3,o.len]
      ·rw [Jo c3] at z;cases z
   ·have:(ow.setIfInBounds (pos mask h E) (some hs.length)).getD j none=ow.getD j none:=by
     rw [FI,FI,Array.getElem?_setIfInBounds_ne (EW c)]
    rw [this,o.own j hj i];by_cases c2:i<sl.length
    ·rw [Jp c2]
    ·rw [Jo c2];constructor
     ·intro z;rw [En (by omega)] at z;cases z
     ·intro z;by_cases c3:i=sl.length
      ·rw [Jp c3] at z;exact absurd (Option.some.inj z).symm c
      ·rw [Jo c3] at z;cases z
  ·have gl:∀ i,(hs++[h]).getD i 0=if i<hs.length then hs.getD i 0 else if i=hs.length then h else 0:=fun i=>by
    by_cases c:i<hs.length
    ·rw [Jp c,DO,D4 c,DO]
    ·rw [Jo c,DO,D7 (by omega)];by_cases c2:i=hs.length
     ·rw [Jp c2,c2,Gk];rfl
     ·rw [Jo c2,En (by simp;omega)];rfl
   rw [D6,EO] at hi;have gs:(sl++[pos mask h E]).getD i 0=((sl++[pos mask h E])[i]?).getD 0:=DO ..;rw [gl,gs,ls];by_cases c:i<hs.length
   ·rw [Jp c,Jp (by rw [o.len];exact c)];obtain⟨q,a,b⟩:=o.reach i c;exact⟨q,by rw [<-DO];exact a,fun q' hq=>ES _ (b q' hq)⟩
   ·rw [Jo c,Jp (by omega),Jo (by rw [o.len];omega),Jp (by rw [o.len];omega)];exact⟨E,rfl,fun q' hq=>ES _ (e2' q' hq)⟩
theorem n8 {mask:Nat} (g:qE (mask+1)=true):∀ (l:List Int) (ow:Array (Option Nat)) (hs:List Int) (sl:List Nat),OwnT mask ow hs sl->hs.length+l.length<=mask+1 ->
  ∃ ow' sl',l.foldl (nZ mask) (some (ow,hs.length))=some (ow',hs.length+l.length)/\OwnT mask ow' (hs++l) sl'
 | [],ow,hs,sl,o,_=>⟨ow,sl,rfl,by rw [ER];exact o⟩
 | h :: l,ow,hs,sl,o,hm=>by
  rw [Ea] at hm;obtain⟨ow1,sl1,e1,o1⟩:=uA g o (by omega) h;obtain⟨ow2,sl2,e2,o2⟩:=n8 g l ow1 (hs++[h]) sl1 o1 (by rw [D6,EO];omega);refine⟨ow2,sl2,?_,by rw [Fj] at o2;exact o2⟩;rw [List.foldl_cons,e1];rw [D6,EO] at e2;rw [e2,Ea,HX,Nat.add_comm 1]
theorem xJ (mask:Nat):OwnT mask (Hy (mask+1) none) [] [] where
 size:=by simp
 len:=rfl
 nd:=.nil
 le:=fun _ h=>nomatch h
 own:=fun j hj i=>by
  have:(Hy (mask+1) (none:Option Nat)).getD j none=none:=by simp [Gm]
  rw [this];constructor <;> intro z <;> cases z
 reach:=fun i hi=>absurd hi (FC _)
theorem uB {mask:Nat} (g:qE (mask+1)=true) (hs:Array Int) (hm:hs.size<=mask+1):∃ ow sl,layClean mask hs=some ow/\OwnT mask ow hs.toList sl:=by
 obtain⟨ow,sl,e,o⟩:=n8 g hs.toList _ [] [] (xJ mask) (by simpa using hm);refine⟨ow,sl,?_,by simpa using o⟩;unfold layClean;rw [<-Array.foldl_toList];have:hs.toList.foldl (nZ mask) (some (Hy (mask+1) none,0))=some (ow,0+hs.toList.length):=e;show Option.map _ (hs.toList.foldl (nZ mask) (some (Hy (mask+1) none,0)))=_;rw [this];rfl
theorem laid_ok {mask:Nat} (mk:mask=7 \/ mask=31 \/ mask=127 \/ mask=511) (hs:Array Int) (hm:hs.size<=mask) (finger moves:Nat) (led plain:Bool) :
  ∃ t ord,laid mask finger moves led plain hs=some (t,ord)/\t.mask=mask/\t.plain=plain/\t.led=led/\ord.toList.Perm (Ec hs.size)/\TB t (ord.toList.map fun i=>hs.toList.getD i 0):=by
 have g:qE (mask+1)=true:=by
  rcases mk with rfl | rfl | rfl | rfl
  ·exact nV
  ·exact kK
  ·exact fP
  ·exact fQ
 obtain⟨ow,sl,e,o⟩:=uB g hs (by omega)
 let live:=(Ec (mask+1)).filterMap fun j=>(ow.getD j none).map (j,·)
 have mem:∀ p:Nat×Nat,p∈live↔p.1<=mask/\sl[p.2]?=some p.1:=fun⟨j,i⟩=>by
  show (j,i)∈List.filterMap _ _↔_;rw [HF];constructor
  ·rintro⟨j',hj,e⟩;have hj':=Hw.mp (Es.mp hj);cases e2:ow.getD j' none with
   | none=>rw [e2] at e;cases e
   | some i' =>
    rw [e2] at e;cases e;exact⟨hj',(o.own _ hj' _).mp e2⟩
  ·rintro⟨h1,h2⟩;refine⟨j,Es.mpr (by omega),?_⟩;rw [(o.own j h1 i).mpr h2];rfl
 have up:(live.map (·.1)).Pairwise (·<·):=by
  rw [E8];show (List.filterMap _ _).Pairwise _;rw [List.pairwise_filterMap];refine G7.imp fun {a b} hab p hp q hq=>?_;cases e1:ow.getD a none with
  | none=>rw [e1] at hp;cases hp
  | some i =>
   cases e2:ow.getD b none with
   | none=>rw [e2] at hq;cases hq
   | some i2 =>
    rw [e1] at hp;rw [e2] at hq;cases hp;cases hq;exact hab
 have nd2:(live.map (·.2)).Nodup:=by
  show List.Pairwise _ _;rw [E8];have u2:=E8.mp up;refine u2.imp_of_mem fun {p q} hp hq hlt hz=>?_;have a1:=((mem p).mp hp).2;have a2:=((mem q).mp hq).2;rw [hz,a2] at a1;have:=Option.some.inj a1;omega
 have pm:(live.map (·.2)).Perm (Ec hs.size):=by
  refine (List.perm_ext_iff_of_nodup nd2 Ig).mpr fun i=>?_;have ls:sl.length=hs.size:=by rw [o.len,D8]
  constructor
  ·intro hi;obtain⟨p,hp,rfl⟩:=Ee.mp hi;have:=(DN.mp ((mem p).mp hp).2).1;exact Es.mpr (by omega)
  ·intro hi;have hi':=Es.mp hi;have hl:i<sl.length:=by omega
   exact Ee.mpr ⟨(sl[i],i),(mem _).mpr ⟨o.le _ (Eo hl),DK hl⟩,rfl⟩
 refine⟨_,_,by unfold laid;rw [e];rfl,rfl,rfl,rfl,pm,?_⟩;have ln:live.length=hs.size:=by have:=pm.length_eq;rwa [DM,EJ] at this
 have tk:∀ j,j∈sl->∃ i,i<live.length/\(live.map (·.1)).getD i 0=j:=fun j hj=>by
  obtain⟨i,hi,e2⟩:=F6 hj;have:(j,i)∈live:=(mem _).mpr ⟨o.le j hj,by rw [DK hi,e2]⟩;obtain⟨q,hq,e3⟩:=F6 this;exact⟨q,hq,by rw [DO,DX,DK hq,e3];rfl⟩
 have gd:∀ i,(live.map (·.1)).toArray.getD i 0=(live.map (·.1)).getD i 0:=fun i=>by rw [bO]
 refine⟨mk,rfl,fun i j hij hj=>?_,fun i hi=>?_,?_,?_,fun i hi=>?_⟩
 ·show (live.map (·.1)).toArray.getD i 0<(live.map (·.1)).toArray.getD j 0;have hj':j<(live.map (·.1)).length:=by
   have h2:j<(live.map (·.1)).toArray.size:=hj
   rwa [D9] at h2
  rw [gd,gd,DO,DO,DK hj',DK (show i<(live.map (·.1)).length by omega)];exact Fn.mp up i j (by omega) hj' hij
 ·show (live.map (·.1)).toArray.getD i 0<=mask;have hi':i<(live.map (·.1)).length:=by
   have h2:i<(live.map (·.1)).toArray.size:=hi
   rwa [D9] at h2
  rw [gd,DO,DK hi'];obtain⟨p,hp,e2⟩:=Ee.mp (Eo hi');show (live.map (·.1))[i]<=mask;rw [<-e2];exact ((mem p).mp hp).1
 ·show (live.map (·.1)).toArray.size=_;simp
 ·show (Hr _ (live.map (·.2))).length<=mask;rw [DM,DM,ln];exact hm
 ·have hi':i<live.length:=by
   have hi2:i<(Hr (fun i=>hs.toList.getD i 0) (live.map (·.2))).length:=hi
   rwa [DM,DM] at hi2
  have pl:(live.map (·.1)).toArray.getD i 0=live[i].1:=by
   rw [gd,DO,DX,DK hi'];rfl
  have hh:(Hr (fun i=>hs.toList.getD i 0) (live.map (·.2))).getD i 0=hs.toList.getD live[i].2 0:=by
   rw [DO,DX,DX,DK hi'];rfl
  have m2:=(mem live[i]).mp (Eo hi');have l2:=(DN.mp m2.2).1;obtain⟨q,a,b⟩:=o.reach live[i].2 (by rw [<-o.len];exact l2);refine⟨q,?_,fun q' hq=>?_⟩
  ·show pos mask ((Hr (fun i=>hs.toList.getD i 0) (live.map (·.2))).getD i 0) q=(live.map (·.1)).toArray.getD i 0;rw [hh,pl,a,DO,m2.2];rfl
  ·show Tk _ (pos mask ((Hr (fun i=>hs.toList.getD i 0) (live.map (·.2))).getD i 0) q');rw [hh];obtain⟨z,hz,ez⟩:=tk _ (b q' hq);exact⟨z,by show z<(live.map (·.1)).toArray.size;simpa using hz,by show (live.map (·.1)).toArray.getD z 0=_;rw [gd];exact ez⟩
end L2.ST
end
section
namespace L2
open PySem PySem.Spec PyProof.Rows
mutual
noncomputable def zA (w:World):PyData->Int
 | .int i=>hashInt i
 | .str x=>hashStr w x
 | .tuple xs=>reduceHash (FT (ah w xs))
 | _=>0
noncomputable def ah (w:World):List PyData->List Int
 | []=>[]
 | x :: xs=>zA w x :: ah w xs
end
mutual
noncomputable def yo:PyData->Nat
 | .int _=>1
 | .str _=>1
 | .tuple xs=>eI xs+1
 | _=>0
noncomputable def eI:List PyData->Nat
 | []=>0
 | x :: xs=>yo x+eI xs
end
mutual
theorem eJ {P:Program} {w:World}:∀ (d:PyData) (A:Around) (s:Shared) (v:Value) (as:List DR) (E:Value->Shared->Prop) (Q:Int->Shared->Prop),Reads s.heap v d as->zE d=true->A.units+4 * d.depth<Fh ->
  Q (zA w d) { s with toks:=s.toks+yo d }->Ef (model P w) A (pyHash v) Q E s
 | .int i,A,s,_,_,E,Q,r,_,_,q=>by
  cases r;rw [zA,yo] at q;exact wpAny_pyHash_int q
 | .str x,A,s,_,_,E,Q,r,_,_,q=>by
  cases r;rw [zA,yo] at q;exact wpAny_pyHash_str q
 | .tuple xs,A,s,_,_,E,Q,r,p,hu,q=>by
  cases r with
  | @tuple a o vs n _ as h1 h2 h3 h4 =>
   rw [zE] at p;rw [zA,yo] at q;have hT:s.TypeIs (.ref a) "tuple":=⟨o,h1,h2⟩;have e1:(PyData.tuple xs).depth=D5 xs+1:=rfl;rw [e1] at hu;show Ef _ A (pyHashByItsType (.ref a)) Q E s;unfold pyHashByItsType;apply DQ;apply wpAny_cRoomFor_or (.inr (by omega));apply DQ;apply Gs hT Fz.lookup;show Ef _ _ (if (some (Value.builtin "tuple.__hash__") == some Value.none)=true then _ else _) Q E s;rw [Jo (by rw [beq_builtin_none];exact DL)];apply DQ;apply Gs hT Fz.lookup;show Ef _ _ (callSpecialIfBoundUnlessNone? (.ref a) "__hash__" _ >>= _) Q E s;apply DQ;refine wpAny_callSpecialIfBoundUnlessNone?_slot hT Fz (wpAny_call_entry Fz hT PySem.F.entry_tuple_hash ?_ (PySem.F.args_tuple_hash_1 _));show Ef _ _ (Builtin.Tuple.tupleItemsOf (.ref a) >>= _) _ _ s;apply DQ;apply wpAny_tupleItemsOf h1 h3;apply DQ;rw [<-GZ];have hu1:A.in1.units=A.units+1:=rfl;refine eK xs A.in1 s vs.toList _ #[] _ _ h4 p (by omega) ?_;simp only [ER,List.nil_append];show Ef _ _ (retInt (FT (#[]++(ah w xs).toArray).toList)) _ _ _;rw [show (#[]++(ah w xs).toArray:Array Int).toList=ah w xs by simp];refine wpAny_ret_mkInt ?_;show Ef _ _ (pyHashByItsType.reduced _) Q E _;unfold reduceHash at q;unfold pyHashByItsType.reduced;by_cases hr:(decide (-(2:Int) ^ 63<=FT (ah w xs)) && decide (FT (ah w xs)<2 ^ 63))=true
   ·rw [Jp hr] at q ⊢;exact DY (by simpa [HX] using q)
   ·rw [Jo hr] at q ⊢;exact DQ (wpAny_rule (DY (by simpa [HX] using q)))
 | .none,_,_,_,_,_,_,_,h,_,_=>by cases h
 | .bool _,_,_,_,_,_,_,_,h,_,_=>by cases h
 | .list _,_,_,_,_,_,_,_,h,_,_=>by cases h
 | .dict _,_,_,_,_,_,_,_,h,_,_=>by cases h
theorem eK {P:Program} {w:World}:∀ (xs:List PyData) (A:Around) (s:Shared) (vs:List Value) (as:List DR) (acc:Array Int) (E:Value->Shared->Prop) (Q:Array Int->Shared->Prop),ReadsAll s.heap vs xs as->zW xs=true->A.units+4 * D5 xs<Fh ->
  Q (acc++(ah w xs).toArray) { s with toks:=s.toks+eI xs }->Ef (model P w) A (forIn vs acc fun x r=>do
   let h <- pyHash x
   pure (ForInStep.yield (r.push h))) Q E s
 | [],A,s,_,_,acc,E,Q,r,_,_,q=>by
  cases r;rw [G3];rw [ah,eI] at q;exact DY (by simpa using q)
 | x :: xs,A,s,_,_,acc,E,Q,r,p,hu,q=>by
  cases r with
  | cons r1 r2 =>
   rw [zW,DW] at p;rw [ah,eI] at q;have e1:D5 (x :: xs)=max x.depth (D5 xs):=rfl;rw [e1] at hu;rw [GY];apply DQ;apply DQ;refine eJ x A s _ _ _ _ r1 p.1 (by omega) (DY ?_);refine eK xs A { s with toks:=s.toks+yo x } _ _ _ _ _ r2 p.2 (by omega) ?_;have e2:acc.push (zA w x)++(ah w xs).toArray=acc++(zA w x :: ah w xs).toArray:=by simp
   rw [e2];rw [<-HX] at q;exact q
end
mutual
theorem qS {P:Program} {w:World}:∀ (d:PyData) (n:Nat) (A:Around) (s:Shared) (v:Value) (as:List DR) (E:Value->Shared->Prop) (Q:Bool->Shared->Prop),Reads s.heap v d as->zE d=true->d.depth<=n->Q true s->Ef (model P w) A (eqIsQuiet n v) Q E s
 | .int i,n,A,s,_,_,E,Q,r,_,_,q=>by
  cases r;rw [eqIsQuiet_byValue n rfl];exact DY q
 | .str x,n,A,s,_,_,E,Q,r,_,_,q=>by
  cases r;rw [eqIsQuiet_byValue n rfl];exact DY q
 | .tuple xs,n,A,s,_,_,E,Q,r,p,hn,q=>by
  cases r with
  | @tuple a o vs n' _ as h1 h2 h3 h4 =>
   rw [zE] at p;have e1:(PyData.tuple xs).depth=D5 xs+1:=rfl;rw [e1] at hn;obtain⟨m,rfl⟩:∃ m,n=m+1:=⟨n - 1,by omega⟩;have hT:s.TypeIs (.ref a) "tuple":=⟨o,h1,h2⟩;unfold eqIsQuiet;apply DQ;apply Gs hT PySem.F.slot_tuple_eq.lookup;show Ef _ _ (isInstance (.ref a) (.type "tuple") >>= _) _ _ s;apply DQ;apply wpAny_isInstance hT isSubtype_tuple_tuple;simp only [E4,EC,if_false];apply DQ;apply wpAny_seqItems h1 h3;apply DQ;show Ef _ _ (forIn vs _ _) _ _ s;rw [<-GZ];exact cV xs m A s _ _ _ _ h4 p (by omega) (DY q)
 | .none,_,_,_,_,_,_,_,_,h,_,_=>by cases h
 | .bool _,_,_,_,_,_,_,_,_,h,_,_=>by cases h
 | .list _,_,_,_,_,_,_,_,_,h,_,_=>by cases h
 | .dict _,_,_,_,_,_,_,_,_,h,_,_=>by cases h
theorem cV {P:Program} {w:World}:∀ (xs:List PyData) (m:Nat) (A:Around) (s:Shared) (vs:List Value) (as:List DR) (E:Value->Shared->Prop) (Q:Option Bool×Unit->Shared->Prop),ReadsAll s.heap vs xs as->zW xs=true->D5 xs<=m->Q (none,()) s ->
  Ef (model P w) A (forIn vs ((none,()):Option Bool×Unit) fun y _=>do
   let b <- eqIsQuiet m y
   if (!b)=true then pure (ForInStep.done (some false,())) else pure (ForInStep.yield (none,()))) Q E s
 | [],m,A,s,_,_,E,Q,r,_,_,q=>by
  cases r;rw [G3];exact DY q
 | x :: xs,m,A,s,_,_,E,Q,r,p,hn,q=>by
  cases r with
  | cons r1 r2 =>
   rw [zW,DW] at p;have e1:D5 (x :: xs)=max x.depth (D5 xs):=rfl;rw [e1] at hn;rw [GY];apply DQ;apply DQ;refine qS x m A s _ _ _ _ r1 p.1 (by omega) ?_;simp only [E4,EC,if_false];exact DY (cV xs m A s _ _ _ _ r2 p.2 (by omega) q)
end
mutual
theorem cB {P:Program} {w:World}:∀ (d:PyData) (n:Nat) (A:Around) (s:Shared) (v:Value) (as:List DR) (E:Value->Shared->Prop) (Q:Bool->Shared->Prop),Reads s.heap v d as->zE d=true->d.depth<=n->Q false s->Ef (model P w) A (ofAClassStatement n v) Q E s
 | .int i,n,A,s,_,_,E,Q,r,_,_,q=>by
  cases r;unfold ofAClassStatement;exact DY q
 | .str x,n,A,s,_,_,E,Q,r,_,_,q=>by
  cases r;unfold ofAClassStatement;exact DY q
 | .tuple xs,n,A,s,_,_,E,Q,r,p,hn,q=>by
  cases r with
  | @tuple a o vs n' _ as h1 h2 h3 h4 =>
   rw [zE] at p;have e1:(PyData.tuple xs).depth=D5 xs+1:=rfl;rw [e1] at hn;obtain⟨m,rfl⟩:∃ m,n=m+1:=⟨n - 1,by omega⟩;have hT:s.TypeIs (.ref a) "tuple":=⟨o,h1,h2⟩;unfold ofAClassStatement;apply DQ;apply wpAny_typeOf hT;dsimp only;rw [Jp (show ("tuple" == "tuple")=true from rfl)];apply DQ;apply DY;simp only [E4,EC,if_false];apply DQ;apply wpAny_seqItems h1 h3;dsimp only;apply DQ;rw [<-GZ];exact fR xs m A s _ _ _ _ h4 p (by omega) (DY q)
 | .none,_,_,_,_,_,_,_,_,h,_,_=>by cases h
 | .bool _,_,_,_,_,_,_,_,_,h,_,_=>by cases h
 | .list _,_,_,_,_,_,_,_,_,h,_,_=>by cases h
 | .dict _,_,_,_,_,_,_,_,_,h,_,_=>by cases h
theorem fR {P:Program} {w:World}:∀ (xs:List PyData) (m:Nat) (A:Around) (s:Shared) (vs:List Value) (as:List DR) (E:Value->Shared->Prop) (Q:Option Bool×Unit->Shared->Prop),ReadsAll s.heap vs xs as->zW xs=true->D5 xs<=m->Q (none,()) s ->
  Ef (model P w) A (forIn vs ((none,()):Option Bool×Unit) fun y _=>do
   let b <- ofAClassStatement m y
   if b=true then pure (ForInStep.done (some true,())) else pure (ForInStep.yield (none,()))) Q E s
 | [],m,A,s,_,_,E,Q,r,_,_,q=>by
  cases r;rw [G3];exact DY q
 | x :: xs,m,A,s,_,_,E,Q,r,p,hn,q=>by
  cases r with
  | cons r1 r2 =>
   rw [zW,DW] at p;have e1:D5 (x :: xs)=max x.depth (D5 xs):=rfl;rw [e1] at hn;rw [GY];apply DQ;apply DQ;refine cB x m A s _ _ _ _ r1 p.1 (by omega) ?_;simp only [EC,if_false];exact DY (fR xs m A s _ _ _ _ r2 p.2 (by omega) q)
end
mutual
theorem cW {P:Program} {w:World}:∀ (d:PyData) (n:Nat) (A:Around) (s:Shared) (v:Value) (as:List DR) (E:Value->Shared->Prop) (Q:Bool->Shared->Prop),Reads s.heap v d as->zE d=true->(∀ b,Q b s)->Ef (model P w) A (hashByValue n v) Q E s
 | .int i,n,A,s,_,_,E,Q,r,_,q=>by
  cases r;unfold hashByValue;exact DY (q _)
 | .str x,n,A,s,_,_,E,Q,r,_,q=>by
  cases r;unfold hashByValue;exact DY (q _)
 | .tuple xs,n,A,s,_,_,E,Q,r,p,q=>by
  cases r with
  | @tuple a o vs n' _ as h1 h2 h3 h4 =>
   rw [zE] at p;have hT:s.TypeIs (.ref a) "tuple":=⟨o,h1,h2⟩;cases n with
   | zero =>
    unfold hashByValue;exact DY (q _)
   | succ m =>
    unfold hashByValue;apply DQ;apply Gs hT Fz.lookup;show Ef _ _ (seqItems? (.ref a) >>= _) _ _ s;apply DQ;apply wpAny_seqItems h1 h3;apply DQ;show Ef _ _ (forIn vs _ _) _ _ s;rw [<-GZ];exact cX xs m A s _ _ _ _ h4 p (DY (q _)) fun b=>DY (q b)
 | .none,_,_,_,_,_,_,_,_,h,_=>by cases h
 | .bool _,_,_,_,_,_,_,_,_,h,_=>by cases h
 | .list _,_,_,_,_,_,_,_,_,h,_=>by cases h
 | .dict _,_,_,_,_,_,_,_,_,h,_=>by cases h
theorem cX {P:Program} {w:World}:∀ (xs:List PyData) (m:Nat) (A:Around) (s:Shared) (vs:List Value) (as:List DR) (E:Value->Shared->Prop) (Q:Option Bool×Unit->Shared->Prop),ReadsAll s.heap vs xs as->zW xs=true->Q (none,()) s->(∀ b,Q (some b,()) s) ->
  Ef (model P w) A (forIn vs ((none,()):Option Bool×Unit) fun y _=>do
   let b <- hashByValue m y
   if (!b)=true then pure (ForInStep.done (some false,())) else pure (ForInStep.yield (none,()))) Q E s
 | [],m,A,s,_,_,E,Q,r,_,q,_=>by
  cases r;rw [G3];exact DY q
 | x :: xs,m,A,s,_,_,E,Q,r,p,q,q2=>by
  cases r with
  | cons r1 r2 =>
   rw [zW,DW] at p;rw [GY];apply DQ;apply DQ;refine cW x m A s _ _ _ _ r1 p.1 fun b=>?_;cases b with
   | true =>
    simp only [E4,EC,if_false];exact DY (cX xs m A s _ _ _ _ r2 p.2 q q2)
   | false =>
    simp only [Gb,if_true];exact DY (DY (q2 false))
end
noncomputable instance decPy:DecidableEq PyData:=fun a b=>EY _
structure KeyAt (h:Heap) (d:PyData) (a:DR):Prop where
 rd:∃ as,Reads h (.ref a) d as
 pl:zE d=true
 dp:d.depth<=8
theorem KeyAt.keep {h h':Heap} {d:PyData} {a:DR} (x:KeyAt h d a) (k:∀ b o,h.get? b=some o->(∀ es ep,o.data≠.dict es ep)->(∀ es ep t,o.data≠.set es ep t)->h'.get? b=some o):KeyAt h' d a:=by
 obtain⟨⟨as,r⟩,p,q⟩:=x;refine⟨?_,p,q⟩;have go:(∀ (d:PyData) (v:Value) (as:List DR),Reads h v d as->zE d=true->Reads h' v d as):=by
  intro d v as r;refine Reads.rec (motive_1:=fun v d as _=>zE d=true->Reads h' v d as) (motive_2:=fun vs ds as _=>zW ds=true->ReadsAll h' vs ds as) ?_ ?_ ?_ ?_ ?_ ?_ ?_ ?_ ?_ r
  ·intro p;cases p
  ·intro b p;cases p
  ·intro i t p;exact .int i t
  ·intro x t p;exact .str x t
  ·intro a o vs n xs as h1 h2 h3 h4 ih p;cases p
  ·intro a o vs n xs as h1 h2 h3 h4 ih p;rw [zE] at p;exact .tuple (k a o h1 (fun es ep z=>by rw [h3] at z;cases z) (fun es ep t z=>by rw [h3] at z;cases z)) h2 h3 (ih p)
  ·intros;rename_i p;cases p
  ·intro p;exact .nil
  ·intro v vs d ds as bs r rs ih1 ih2 p;rw [zW,DW] at p;exact .cons (ih1 p.1) (ih2 p.2)
 exact⟨as,go d _ as r p⟩
noncomputable def dv (P:Program) (w:World):HeapKind P w PyData where
 is:=KeyAt
 hash:=zA w
 draws:=yo
 room:=fun A=>A.units+40<Fh
 inj:=fun {h a x y} hx hy=>by
  obtain⟨⟨as,r⟩,p,_⟩:=hx;obtain⟨⟨bs,r'⟩,p',_⟩:=hy;exact SeqAt.Reads.unique _ _ _ _ _ (y9 x p) r r'
 keeps:=fun {h h' k a d o es ep} x ho hd sb=>x.keep fun b u hb n1 n2=>by
  have:b≠d:=fun z=>by
   rw [z,ho] at hb;cases hb;exact n1 es ep hd
  exact (sb.2 b this).trans hb
 pyHash:=fun {A E s k a Q} hu x q=>by
  obtain⟨⟨as,r⟩,p,hd⟩:=x;exact eJ k A s _ as E Q r p (by omega) q
 eqBool:=fun {A E s x y a b Q} hu hx hy q=>by
  obtain⟨⟨as,r⟩,p,hd⟩:=hx;obtain⟨⟨bs,r'⟩,p',hd'⟩:=hy;refine SeqAt.eqAt_reads x y A s _ _ _ _ r r' (y9 x p) (y9 y p') (by omega) P w E Q ?_;have:Ei x y=decide (x=y):=by
   by_cases e:x=y
   ·rw [Jq e];exact (du p p').mpr e
   ·rw [Jr e];cases z:Ei x y with
    | false=>rfl
    | true=>exact absurd ((du p p').mp z) e
  rw [this];exact q
 quiet:=fun {A E s k a Q} x q=>by
  obtain⟨⟨as,r⟩,p,hd⟩:=x;exact qS k 8 A s _ as E Q r p hd q
end L2
end
section
namespace L2
open PySem PySem.Spec PyProof.Rows PySem.SetTable
section
variable {P:Program} {w:World} {A:Around} {E:Value->Shared->Prop} {s:Shared}
theorem xK {b:DR} {d:PyData} {Q:Bool->Shared->Prop} (kb:KeyAt s.heap d b):∀ l:List Value,(∀ y∈l,∃ d' b',y=.ref b'/\KeyAt s.heap d' b')->Q false s->Ef (model P w) A (searchCouldBeSeen (.ref b) l) Q E s:=by
 intro l hl q;unfold searchCouldBeSeen;apply DQ;refine wpAny_forIn_list _ (fun rest r s'=>r=(none,())/\s'=s/\∀ y∈rest,y∈l) _ ?_ ?_ _ _ ⟨rfl,rfl,fun _ h=>h⟩
 ·rintro y rest r s' ⟨rfl,rfl,hm⟩;obtain⟨d',b',rfl,kb'⟩:=hl y (hm y DZ);obtain⟨⟨as,rd⟩,pd,dd⟩:=id kb;obtain⟨⟨bs,rd'⟩,pd',dd'⟩:=id kb';have more:∀ z∈rest,z∈l:=fun z hz=>hm z (DT _ hz);dsimp only;split
  ·exact DY ⟨rfl,rfl,more⟩
  ·apply DQ;refine qS d 8 A _ _ as _ _ rd pd dd ?_;simp only [E4,EC,if_false];apply DQ;refine qS d' 8 A _ _ bs _ _ rd' pd' dd' ?_;simp only [E4,EC,if_false];apply DQ;refine cB d 8 A _ _ as _ _ rd pd dd ?_;simp only [EC,if_false];apply DQ;refine cB d' 8 A _ _ bs _ _ rd' pd' dd' ?_;simp only [EC,if_false];exact DY ⟨rfl,rfl,more⟩
 ·rintro r s' ⟨rfl,rfl,_⟩;exact DY q
structure SetObj (w:World) (h:Heap) (a:DR) (xs:List (PyData×DR)) (o:Obj) (es:Array (Int×Value)) (ep:Nat) (t:SetTable):Prop where
 ob:h.get? a=some o
 ex:o.ExactSet
 da:o.data=.set es ep t
 el:es.toList=xs.map fun x=>(zA w x.1,Value.ref x.2)
 ok:ST.TOk t (xs.map fun x=>zA w x.1)
theorem SetObj.size {h:Heap} {a:DR} {xs:List (PyData×DR)} {o:Obj} {es:Array (Int×Value)} {ep:Nat} {t:SetTable} (x:SetObj w h a xs o es ep t):es.size=xs.length:=by
 rw [<-D8,x.el,DM]
theorem SetObj.fits {h:Heap} {a:DR} {xs:List (PyData×DR)} {o:Obj} {es:Array (Int×Value)} {ep:Nat} {t:SetTable} (x:SetObj w h a xs o es ep t):t.fits es.size=true:=by
 unfold SetTable.fits IZ;have h1:=x.ok.size;have h2:=x.ok.most;rw [DM] at h1 h2;rw [x.size,h1,x.ok.dum];simp;exact h2
theorem SetObj.at {h:Heap} {a:DR} {xs:List (PyData×DR)} {o:Obj} {es:Array (Int×Value)} {ep:Nat} {t:SetTable} (x:SetObj w h a xs o es ep t) {i:Nat} (hi:i<xs.length):es[i]?=some (zA w xs[i].1,Value.ref xs[i].2):=by
 rw [<-IA,x.el,DX,DK hi];rfl
theorem uC {t:SetTable} {hs:List Int} (o:ST.TOk t hs):t.gaveWay=false:=by
 unfold SetTable.gaveWay;rcases o.mask with e | e | e | e <;> rw [e] <;> rfl
theorem uD {α:Type} {M:Model} {c:Bool} {m:Sem Bool} {u:Sem Unit} {r:Sem α} {Q:α->Shared->Prop} (hr:Ef M A r Q E s) (hm:∀ R:Bool->Shared->Prop,R false s->Ef M A m R E s) :
  Ef M A (if c=true then (do
   let b <- m
   if b=true then do
    u
    r
   else r) else r) Q E s:=by
 cases c with
 | false=>rw [Jo DL];exact hr
 | true =>
  rw [Jp rfl];apply DQ;refine hm _ ?_;rw [Jo DL];exact hr
theorem kN {M:Model} {a:DR} {Q:Bool->Shared->Prop} (q:Q true s):Ef M A (isSame (.ref a) (.ref a)) Q E s:=by
 unfold isSame;simp only [beq_self_eq_true];exact DY q
theorem cC {a b:DR} {d:PyData} {xs:List (PyData×DR)} {o:Obj} {es:Array (Int×Value)} {ep:Nat} {t:SetTable} {adding:Bool} {Q:SetFound->Shared->Prop} (S:SetObj w s.heap a xs o es ep t) (ks:∀ x∈xs,KeyAt s.heap x.1 x.2)
  (kb:KeyAt s.heap d b) (hu:A.units+40<Fh) {F:Nat} (hF:ST.First t (zA w d) F) (yes:d∈xs.map (·.1)->∀ r:Option Nat,(adding=false->r.isSome=true)->Q (.there r) s) (no:d∉xs.map (·.1)->Q (.free (ST.pos t.mask (zA w d) F) false) s) :
  ∀ f k stand,k<=F->F<k+f->stand.getD (t.probeStart (zA w d))=ST.road t.mask (zA w d) k ->
   (∀ q i,q<k->i<xs.length->ST.pos t.mask (zA w d) q=t.place.getD i 0->(xs.getD i (.none,0)).1≠d) ->
   Ef (model P w) A (setSearchFrom a (.ref b) (zA w d) adding f stand) Q E s
 | 0,k,stand,h1,h2,_,_=>by omega
 | f+1,k,stand,h1,h2,hst,past=>by
  have sz:=S.ok.size;rw [DM] at sz;have key:∀ g:Nat->Int,(∀ i,g i=(es[i]?.map (·.1)).getD 0) ->
    (t.probe g (zA w d) (ST.road t.mask (zA w d) k)=some (.empty (ST.pos t.mask (zA w d) F) none)/\∀ q i,k<=q->q<F->i<t.place.size->ST.pos t.mask (zA w d) q=t.place.getD i 0->g i≠zA w d) \/
    ∃ q i,k<=q/\q<F/\i<t.place.size/\ST.pos t.mask (zA w d) q=t.place.getD i 0/\g i=zA w d/\t.probe g (zA w d) (ST.road t.mask (zA w d) k)=some (.candidate (ST.pos t.mask (zA w d) q) i (ST.road t.mask (zA w d) (q+1)))/\∀ q' i',k<=q'->q'<q->i'<t.place.size->ST.pos t.mask (zA w d) q'=t.place.getD i' 0->g i'≠zA w d :=
   fun g _=>ST.probe_go S.ok.dum S.ok.rise hF (10 * turns t.mask) k h1 (by have:=hF.lt;omega)
  have gat:∀ i (hi:i<xs.length),(es[i]?.map (·.1)).getD 0=zA w xs[i].1:=fun i hi=>by rw [S.at hi];rfl
  unfold setSearchFrom;apply DQ;refine wpAny_setState_of S.ob S.da S.fits ?_;dsimp only;rw [uC S.ok,Jo DL,hst];have reach:∀ i (hi:i<xs.length),xs[i].1=d->∃ q,q<F/\ST.pos t.mask (zA w d) q=t.place.getD i 0:=fun i hi ed=>by
   obtain⟨q,a1,a2⟩:=S.ok.reach i (by rw [DM];exact hi);have eh:(xs.map fun x=>zA w x.1).getD i 0=zA w d:=by
    rw [DO,DX,DK hi,<- ed];rfl
   rw [eh] at a1 a2;refine⟨q,?_,a1⟩;by_cases c:q<F
   ·exact c
   ·by_cases c2:q=F
    ·subst c2;exact absurd ⟨i,by omega,a1.symm⟩ hF.free
    ·exact absurd (a2 F (by omega)) hF.free
  have ggd:∀ i (hi:i<xs.length),xs.getD i (.none,0)=xs[i]:=fun i hi=>by rw [DO,DK hi];rfl
  rcases key (fun i=>(es[i]?.map (·.1)).getD 0) (fun i=>rfl) with⟨e,none_⟩ | ⟨q,i,q1,q2,q3,q4,q5,e,none_⟩
  ·have ee:∀ g:Nat->Int,(∀ i,g i=(es[i]?.map (·.1)).getD 0)->t.probe g (zA w d) (ST.road t.mask (zA w d) k)=some (.empty (ST.pos t.mask (zA w d) F) none):=fun g hg=>by
    rw [show g=fun i=>(es[i]?.map (·.1)).getD 0 from funext hg];exact e
   rw [ee]
   rotate_left
   ·exact fun i=>rfl
   dsimp only;refine DY (no fun hd=>?_);obtain⟨x,hx,ex⟩:=Ee.mp hd;obtain⟨i,hi,ei⟩:=F6 hx;have ed:xs[i].1=d:=by rw [ei];exact ex
   obtain⟨q,qF,qp⟩:=reach i hi ed;by_cases c:q<k
   ·exact past q i c hi qp (by rw [ggd i hi];exact ed)
   ·exact none_ q i (by omega) qF (by omega) qp (by rw [gat i hi,ed])
  ·have ee:∀ g:Nat->Int,(∀ i,g i=(es[i]?.map (·.1)).getD 0)->t.probe g (zA w d) (ST.road t.mask (zA w d) k)=some (.candidate (ST.pos t.mask (zA w d) q) i (ST.road t.mask (zA w d) (q+1))):=fun g hg=>by
    rw [show g=fun i=>(es[i]?.map (·.1)).getD 0 from funext hg];exact e
   have hi:i<xs.length:=by omega
   have mi:xs[i]∈xs:=Eo hi;have ki:=ks _ mi;rw [ee]
   rotate_left
   ·exact fun i=>rfl
   dsimp only;refine uD ?_ fun R hR=>xK kb _ (fun y hy=>?_) hR
   rotate_left
   ·obtain⟨p,hp,rfl⟩:=Ee.mp hy;have hp2:p∈es.toList:=by
     have:=Hs.mp hp;exact Hs.mpr (Array.mem_filter.mp this).1
    rw [S.el] at hp2;obtain⟨x,hx,rfl⟩:=Ee.mp hp2;exact⟨x.1,x.2,rfl,ks x hx⟩
   rw [S.at hi];dsimp only;apply DQ;apply EF;refine (dv P w).eqBool (A:=A) hu ki kb ?_;apply DQ;refine wpAny_setState_of S.ob S.da S.fits ?_;dsimp only;have same:t.sameMemory t.moves t.mask=some true:=by
    unfold SetTable.sameMemory;rw [Jp (beq_self_eq_true _)]
   have live:t.slot (ST.pos t.mask (zA w d) q)=.live i:=by rw [q4];exact ST.slot_live S.ok.rise q3
   by_cases ed:xs[i].1=d
   ·have y2:=yes (Ee.mpr ⟨_,mi,ed⟩);rw [Jq ed];cases adding with
    | true=>exact DY (y2 _ fun z=>nomatch z)
    | false =>
     rw [Fc,Jo DL,same];dsimp only;rw [Jp rfl,live];dsimp only;rw [S.at hi];dsimp only;apply DQ;refine kN ?_;apply DQ;apply DY;rw [Jp rfl];dsimp only;rw [Jp rfl];exact DY (y2 _ fun _=>rfl)
   ·rw [Jr ed,E1,Jo DL,same];dsimp only;rw [Jp rfl,live];dsimp only;rw [S.at hi];dsimp only;apply DQ;refine kN ?_;apply DQ;apply DY;rw [Jp rfl];dsimp only;rw [Jo DL];refine cC S ks kb hu hF yes no f (q+1) _ (by omega) (by omega) rfl fun q' i' c1 c2 c3=>?_;rw [ggd i' c2];intro z;by_cases c4:q'<k
    ·exact past q' i' c4 c2 c3 (by rw [ggd i' c2];exact z)
    ·by_cases c5:q'=q
     ·subst c5;have ii:i'=i:=by
       have b1:=ST.below_at S.ok.rise (i:=i) (by omega);have b2:=ST.below_at S.ok.rise (i:=i') (by omega);rw [<-q4] at b1;rw [<-c3] at b2;omega
      subst ii;exact ed z
     ·exact none_ q' i' (by omega) (by omega) (by omega) c3 (by rw [gat i' c2,z])
end
end L2
end
section
namespace L2
open PySem PySem.Spec PyProof.Rows PySem.SetTable
section
variable {P:Program} {w:World} {A:Around} {E:Value->Shared->Prop} {s:Shared} {a b:DR} {d:PyData} {xs:List (PyData×DR)} {o:Obj} {es:Array (Int×Value)} {ep:Nat} {t:SetTable}
theorem SetObj.type (S:SetObj w s.heap a xs o es ep t):s.TypeIs (.ref a) "set":=⟨o,S.ob,S.ex.1⟩
theorem n9 (b:DR) (es:Array (Int×Value)):byScan (.ref b) es=false:=rfl
theorem kO {Q:Bool->Shared->Prop} (S:SetObj w s.heap a xs o es ep t) (ks:∀ x∈xs,KeyAt s.heap x.1 x.2) (kb:KeyAt s.heap d b) (hu:A.units+60<Fh) (q:Q (decide (d∈xs.map (·.1))) { s with toks:=s.toks+yo d }) :
  Ef (model P w) A (contains (.ref a) (.ref b)) Q E s:=by
 obtain⟨F,hF⟩:=ST.first_of S.ok.toTB (zA w d);have hl:=hF.lt;have ht:turns t.mask<=526:=by
  unfold turns;rcases S.ok.mask with e | e | e | e <;> omega
 unfold contains
 try with_reducible refine EF ?_
 apply DQ;apply Gs S.type GK.lookup;show Ef _ _ (if (some (Value.builtin "set.__contains__") == some Value.none)=true then _ else _) _ E s;rw [Jo (by rw [beq_builtin_none];exact DL)];apply DQ;refine wpAny_callSpecialUnlessNone?_slot (name:=Str.ofString "__contains__") S.type GK (wpAny_call_entry GK S.type entry_set_contains ?_ (PySem.F.args_set_contains_2 _ _));unfold Builtin.«frozenset.__contains__» HJ;simp only [List.isEmpty_nil,bind_assoc];unfold HY Builtin.Frozenset.withSetAsKey setContains;apply DQ;apply DY;dsimp only;apply DQ;apply DY;dsimp only;apply DQ;apply wpAny_tryCatch;apply EF;apply DQ;have hu1:A.in1.units=A.units+1:=rfl;have hu2:A.in1.in1.units=A.units+1+1:=rfl;refine (dv P w).pyHash (by show _+40<Fh;omega) kb ?_;apply DQ;unfold setFind setFindIn;apply DQ;refine wpAny_setState_of (s:={ s with toks:=s.toks+yo d }) S.ob S.da S.fits ?_;dsimp only;rw [n9,Jo DL];apply DQ;unfold setSearch;have fin:∀ r:Option Nat,r.isSome=decide (d∈xs.map (·.1))->∀ R:Value->Shared->Prop,R (.bool (decide (d∈xs.map (·.1)))) { s with toks:=s.toks+yo d }->R (.bool r.isSome) { s with toks:=s.toks+yo d }:=fun r e R hR=>by rw [e];exact hR
 refine cC (s:={ s with toks:=s.toks+yo d }) (adding:=false) S ks kb (by omega) hF (fun hd r hr=>?_) (fun hd=>?_) 100000 0 none (EE _) (by omega) (ST.road_start t _) (fun q i c=>by omega)
 ·refine DY (DY ?_);show Ef _ _ (ret (Value.bool r.isSome)) _ _ _;rw [hr rfl];rw [Jq hd] at q;exact DY ⟨_,rfl,Fm q⟩
 ·refine DY (DY ?_);show Ef _ _ (ret (Value.bool false)) _ _ _;rw [Jr hd] at q;exact DY ⟨_,rfl,Fm q⟩
noncomputable def oa (es:Array (Int×Value)) (laid:Option (SetTable×Array Nat)):Sem (Array (Int×Value)×SetTable):=do
 let some (t,order):=laid | unsupported "internal:set-table-without-room"
 let es':=order.filterMap (es[·]?)
 if es'.size != es.size then unsupported "internal:set-table-lost-an-element"
 pure (es',t)
theorem uE (a:DR) (wanted:Nat):setRelay a wanted=(do
  let (es,_,t) <- setState a
  if HK wanted > Ex then unsupported "set:memory"
  let (es,t) <- oa es (t.relaid (es.map (·.1)) wanted)
  storeSet a es t):=rfl
theorem bj {α:Type} (es:Array α):∀ l:List Nat,(∀ i∈l,i<es.size)->∀ dflt:α,l.filterMap (fun i=>es[i]?)=l.map fun i=>es.toList.getD i dflt
 | [],_,_=>rfl
 | i :: l,h,dflt=>by
  have hi:=h i DZ;rw [GN,HM hi,Ek,bj es l (fun j hj=>h j (DT _ hj)) dflt];simp [hi]
theorem uF {Q:Unit->Shared->Prop} {mask wanted:Nat} (S0:s.heap.get? a=some o) (ex:o.ExactSet) (da:o.data=.set es ep t) (el:es.toList=xs.map fun x=>(zA w x.1,Value.ref x.2)) (tb:ST.TB t (xs.map fun x=>zA w x.1)) (mk:mask=31 \/ mask=127 \/ mask=511) (hw:HK wanted=mask+1)
  (room:xs.length * 5<mask * 3) (q:∀ xs' o' es' ep' t' h',xs'.Perm xs->Gg a s.heap h'->SetObj w h' a xs' o' es' ep' t'->Q () { s with heap:=h' }):Ef (model P w) A (setRelay a wanted) Q E s:=by
 have sz:es.size=xs.length:=by rw [<-D8,el,DM]
 have fits:t.fits es.size=true:=by
  unfold SetTable.fits IZ;have h1:=tb.size;have h2:=tb.most;rw [DM] at h1 h2;rw [sz,h1,tb.dum];simp;exact h2
 have mk2:mask=7 \/ mask=31 \/ mask=127 \/ mask=511:=.inr mk;obtain⟨t2,ord,e1,e2,_,_,pm,tb2⟩:=ST.laid_ok mk2 (es.map (·.1)) (by rw [IG,sz];omega) t.finger (t.movedTo mask) t.led t.plain;rw [IG] at pm;have hlt:∀ i∈ord.toList,i<es.size:=fun i hi=>Es.mp (pm.mem_iff.mp hi)
 let xs':=ord.toList.map fun i=>xs.getD i (.none,0)
 have px:xs'.Perm xs:=by
  have e:(Ec es.size).map (fun i=>xs.getD i (.none,0))=xs:=by
   rw [sz];refine G5 fun i=>?_;rw [DX];by_cases hi:i<xs.length
   ·rw [FG hi,DK hi];simp [hi]
   ·rw [En (by simp;omega),En (by omega)];rfl
  have:=pm.map fun i=>xs.getD i (.none,0);rw [e] at this;exact this
 have ee:(ord.filterMap (es[·]?)).toList=xs'.map fun x=>(zA w x.1,Value.ref x.2):=by
  rw [Array.toList_filterMap,bj es ord.toList hlt (0,Value.none),FJ];refine F5 fun i hi=>?_;have h2:=hlt i hi;have h3:i<xs.length:=by omega
  rw [el,DO,DX,DK h3];show _=(zA w (xs.getD i (.none,0)).1,Value.ref (xs.getD i (.none,0)).2);rw [DO,DK h3];rfl
 have es_sz:(ord.filterMap (es[·]?)).size=es.size:=by
  rw [<-D8,ee,DM,px.length_eq,sz]
 have tok:ST.TOk t2 (xs'.map fun x=>zA w x.1):=by
  have eh:(ord.toList.map fun i=>(es.map (·.1)).toList.getD i 0)=xs'.map fun x=>zA w x.1:=by
   rw [FJ];refine F5 fun i hi=>?_;have h3:i<xs.length:=by have:=hlt i hi;omega
   rw [Array.toList_map,el,FJ,DO,DX,DK h3];show zA w xs[i].1=zA w (xs.getD i (.none,0)).1;rw [DO,DK h3];rfl
  rw [eh] at tb2;refine⟨tb2,?_⟩;rw [DM,px.length_eq,e2];exact room
 rw [uE];apply DQ;refine wpAny_setState_of S0 da fits ?_;dsimp only;rw [hw,Jo (by rw [sizeLine_eq];omega)];have e1':t.relaid (es.map (·.1)) wanted=some (t2,ord):=by
  unfold SetTable.relaid;rw [hw];exact e1
 unfold oa;rw [e1'];apply DQ;dsimp only;rw [es_sz,bne_self_eq_false,Jo DL];apply DY;dsimp only;refine wpAny_storeSet_of S0 da ?_ (by rw [es_sz,sz,sizeLine_eq];omega);refine q xs' { o with data:=.set (ord.filterMap (es[·]?)) (ep+1) t2 } (ord.filterMap (es[·]?)) (ep+1) t2 _ px (IV _ _ _) ⟨?_,ex,rfl,ee,tok⟩;have:=Hd (Im (ord.filterMap (es[·]?)) t2) S0 (by rw [putSet_of _ _ da];rfl);rw [putSet_of _ _ da] at this;exact this
theorem uG {t:SetTable} {hs:List Int} {p:Bool} (x:ST.TB t hs):ST.TB { t with plain:=p } hs:=⟨x.mask,x.dum,x.rise,x.le,x.size,x.most,x.reach⟩
theorem xM {Q:Shared->Prop} (S:SetObj w s.heap a xs o es ep t) (ks:∀ x∈xs,KeyAt s.heap x.1 x.2) (kb:KeyAt s.heap d b) (hu:A.units+59<Fh) (few:xs.length<300)
  (old:d∈xs.map (·.1)->Q { s with toks:=s.toks+yo d })
  (new:d∉xs.map (·.1)->∀ xs' o' es' ep' t' h',xs'.Perm ((d,b) :: xs)->Gg a s.heap h'->SetObj w h' a xs' o' es' ep' t'->Q { s with heap:=h',toks:=s.toks+yo d }) :
  Ef (model P w) A (setAdd a (.ref b)) (fun _ s'=>Q s') E s:=by
 obtain⟨F,hF⟩:=ST.first_of S.ok.toTB (zA w d);have hl:=hF.lt;have ht:turns t.mask<=526:=by
  unfold turns;rcases S.ok.mask with e | e | e | e <;> omega
 have room:=S.ok.room;rw [DM] at room;unfold setAdd;apply EF;apply DQ;refine (dv P w).pyHash (by show _+40<Fh;omega) kb ?_;show Ef _ _ (setAddHashed a (.ref b) (zA w d)) _ _ _;unfold setAddHashed setAddHashedIn;apply EF;apply DQ;refine wpAny_setState_of (s:={ s with toks:=s.toks+yo d }) S.ob S.da S.fits ?_;dsimp only;rw [n9,Jo DL];apply DQ;unfold setSearch;refine cC (s:={ s with toks:=s.toks+yo d }) (adding:=true) S ks kb (by omega) hF (fun hd r _=>?_) (fun hd=>?_) 100000 0 none (EE _) (by omega) (ST.road_start t _) (fun q i c=>by omega)
 ·exact DY (old hd)
 ·dsimp only;apply DQ;refine wpAny_setState_of (s:={ s with toks:=s.toks+yo d }) S.ob S.da S.fits ?_;dsimp only;obtain⟨hp,tb⟩:=ST.put_tb S.ok.toTB hF (by rw [DM];rcases S.ok.mask with e | e | e | e <;> rw [e] at room ⊢ <;> omega);rw [DM] at hp;have ep2:(t.put (ST.pos t.mask (zA w d) F)).2=below t.place (ST.pos t.mask (zA w d) F):=rfl;rw [ep2];generalize below t.place (ST.pos t.mask (zA w d) F)=p at *;have pm:(xs.take p++(d,b) :: xs.drop p).Perm ((d,b) :: xs):=by
   refine List.perm_middle.trans ?_;rw [FR]
  have el:(insertAt es p (zA w d,Value.ref b)).toList=(xs.take p++(d,b) :: xs.drop p).map fun x=>(zA w x.1,Value.ref x.2):=by
   rw [GW,S.el,Eg,Ek,List.map_take,HZ]
  have eh:(xs.map fun x=>zA w x.1).take p++zA w d :: (xs.map fun x=>zA w x.1).drop p=(xs.take p++(d,b) :: xs.drop p).map fun x=>zA w x.1:=by
   rw [Eg,Ek,List.map_take,HZ]
  rw [eh] at tb;have ln:(xs.take p++(d,b) :: xs.drop p).length=xs.length+1:=by rw [pm.length_eq];rfl
  have sze:(insertAt es p (zA w d,Value.ref b)).size=xs.length+1:=by rw [<-D8,el,DM,ln]
  have step:∀ bv:Bool,∀ t2,t2=(if bv=true then (t.put (ST.pos t.mask (zA w d) F)).1 else { (t.put (ST.pos t.mask (zA w d) F)).1 with plain:=false }) ->
    ST.TB t2 ((xs.take p++(d,b) :: xs.drop p).map fun x=>zA w x.1)/\t2.mask=t.mask:=fun bv t2 e=>by
   subst e;cases bv with
   | true=>exact⟨tb,rfl⟩
   | false=>exact⟨uG tb,rfl⟩
  have tail:∀ bv:Bool,Ef (model P w) A (do
    storeSet a (insertAt es p (zA w d,Value.ref b)) (if bv=true then (t.put (ST.pos t.mask (zA w d) F)).1 else { (t.put (ST.pos t.mask (zA w d) F)).1 with plain:=false })
    if (!false && (if bv=true then (t.put (ST.pos t.mask (zA w d) F)).1 else { (t.put (ST.pos t.mask (zA w d) F)).1 with plain:=false }).tooFull)=true then do
     setRelay a (SetTable.grown (es.size+1))
     pure true
    else pure true) (fun _ s'=>Q s') E { s with toks:=s.toks+yo d }:=fun bv=>by
   obtain⟨tb2,em⟩:=step bv _ rfl;generalize (if bv=true then (t.put (ST.pos t.mask (zA w d) F)).1 else { (t.put (ST.pos t.mask (zA w d) F)).1 with plain:=false })=t2 at *;apply DQ;refine wpAny_storeSet_of (s:={ s with toks:=s.toks+yo d }) S.ob S.da ?_ (by rw [sze,sizeLine_eq];omega);have g:(s.heap.update a (Im (insertAt es p (zA w d,Value.ref b)) t2)).get? a=some { o with data:=.set (insertAt es p (zA w d,Value.ref b)) (ep+1) t2 }:=by
    have:=Hd (Im (insertAt es p (zA w d,Value.ref b)) t2) S.ob (by rw [putSet_of _ _ S.da];rfl);rw [putSet_of _ _ S.da] at this;exact this
   have sb:=IV s.heap a (Im (insertAt es p (zA w d,Value.ref b)) t2);have fill:t2.tooFull=decide ((xs.length+1) * 5 >= t.mask * 3):=by
    unfold SetTable.tooFull IZ;have h1:=tb2.size;rw [DM,ln] at h1;rw [h1,tb2.dum,em];rfl
   rw [Gb,FO,fill];by_cases full:(xs.length+1) * 5 >= t.mask * 3
   ·rw [Jp (Jq full),S.size];have:∃ mask,(mask=31 \/ mask=127 \/ mask=511)/\HK (SetTable.grown (xs.length+1))=mask+1/\(xs.length+1) * 5<mask * 3:=by
     rcases S.ok.mask with e | e | e | e
     ·rw [e] at room full;have:xs.length=4:=by omega
      rw [this];exact⟨31,.inl rfl,by decide,by decide⟩
     ·rw [e] at room full;have:xs.length=18:=by omega
      rw [this];exact⟨127,.inr (.inl rfl),by decide,by decide⟩
     ·rw [e] at room full;have:xs.length=76:=by omega
      rw [this];exact⟨511,.inr (.inr rfl),by decide,by decide⟩
     ·rw [e] at room full;omega
    obtain⟨mask,mk,hw,rm⟩:=this;apply DQ;refine uF (s:={ s with heap:=s.heap.update a (Im (insertAt es p (zA w d,Value.ref b)) t2),toks:=s.toks+yo d }) (o:={ o with data:=.set (insertAt es p (zA w d,Value.ref b)) (ep+1) t2 }) g S.ex rfl el tb2 mk hw (by rw [ln];exact rm) fun xs' o' es' ep' t' h' px sb' S'=>DY ?_;exact new hd xs' o' es' ep' t' h' (px.trans pm) (sb.trans sb') S'
   ·rw [Jo (by rw [Jr full];exact DL)];refine DY (new hd _ _ _ _ _ _ pm sb ⟨g,S.ex,rfl,el,⟨tb2,?_⟩⟩);rw [DM,ln,em];omega
  obtain⟨as,rd⟩:=kb.rd;split
  ·apply DQ;exact cW d 8 _ { s with toks:=s.toks+yo d } _ as _ _ rd kb.pl fun bv=>tail bv
  ·apply DQ;apply DY;exact tail true
theorem B5 {Q:Value->Shared->Prop} (S:SetObj w s.heap a xs o es ep t) (ks:∀ x∈xs,KeyAt s.heap x.1 x.2) (kb:KeyAt s.heap d b) (hu:A.units+60<Fh) (few:xs.length<300)
  (old:d∈xs.map (·.1)->Q .none { s with toks:=s.toks+yo d })
  (new:d∉xs.map (·.1)->∀ xs' o' es' ep' t' h',xs'.Perm ((d,b) :: xs)->Gg a s.heap h'->SetObj w h' a xs' o' es' ep' t'->Q .none { s with heap:=h',toks:=s.toks+yo d }) :
  Ef (model P w) A (call (.builtin "set.add") [.ref a,.ref b]) Q E s:=by
 refine wpAny_call_entry IH S.type PySem.F.entry_set_add ?_ (PySem.F.args_set_add_2 _ _);unfold Builtin.«set.add» HJ;simp only [List.isEmpty_nil,bind_assoc];unfold HY;apply DQ;apply DY
 try dsimp only
 apply DQ;apply DY
 try dsimp only
 apply DQ;have hu1:A.in1.units=A.units+1:=rfl;refine xM (Q:=fun s'=>Ef (model P w) A.in1 (ret Value.none) (fun fin s'=>∃ r,fin=.done (.ret r)/\Q r s') E s') S ks kb (by omega) few (fun hd=>DY ⟨_,rfl,old hd⟩) fun hd xs' o' es' ep' t' h' p1 p2 p3=>DY ⟨_,rfl,new hd xs' o' es' ep' t' h' p1 p2 p3⟩
end
inductive OC where
 | lst (es:List PyData)
 | set (ks:List PyData)
 | dic (kvs:List (PyData×PyData))
 | gen (φ:Hp->HO->Prop)
noncomputable def SetO (w:World) (a:DR) (xs:List (PyData×DR)):HO:=.ext fun h=>∃ o es ep t,SetObj w h a xs o es ep t
structure DicObj (w:World) (h:Heap) (a:DR) (xs:List (PyData×DR×Value)) (o:Obj) (es:Array DictEntry) (ep:Nat):Prop where
 ob:h.get? a=some o
 ex:o.ExactDict
 da:o.data=.dict es ep
 el:es.toList=xs.map fun x=>(⟨zA w x.1,.ref x.2.1,x.2.2⟩:DictEntry)
 nd:(xs.map (·.1)).Nodup
 ns:(a == sysModules)=false
noncomputable def DicO (w:World) (a:DR) (xs:List (PyData×DR×Value)):HO:=.ext fun h=>∃ o es ep,DicObj w h a xs o es ep
def bP (d:PyData):Prop:=zE d=true/\d.depth<=8
def EntR (K:DP) (Hh:Hp) (x:PyData×DR×Value) (p:PyData×PyData):Prop:=x.1=p.1/\bP x.1/\Rep K Hh x.1 (.ref x.2.1)/\∃ v,Rep K Hh p.2 v/\RelV v x.2.2
theorem EntR.mono {K:DP} {Hh Hh':Hp} (s:Same Hh Hh'):∀ {xs:List (PyData×DR×Value)} {kvs:List (PyData×PyData)},Paired (EntR K Hh) xs kvs->Paired (EntR K Hh') xs kvs
 | _,_,.nil=>.nil
 | _,_,.cons ⟨h1,h2,h3,v,h4,h5⟩ t=>.cons ⟨h1,h2,Rep.mono s _ _ h3,v,Rep.mono s _ _ h4,h5⟩ (EntR.mono s t)
def OwnAt (w:World) (K:DP) (Hh H:Hp) (D:DR):OC->Prop
 | .lst es=>∃ vs,H D=some (.lst vs)/\Reps K Hh es vs
 | .set ks=>∃ xs:List (PyData×DR),H D=some (SetO w D xs)/\(∀ x∈xs,bP x.1/\Rep K Hh x.1 (.ref x.2))/\(∀ d,d∈xs.map (·.1)↔d∈ks)/\xs.length<=ks.length
 | .dic kvs=>∃ xs:List (PyData×DR×Value),H D=some (DicO w D xs)/\Paired (EntR K Hh) xs kvs
 | .gen φ=>∃ o,H D=some o/\∀ Hx,Same Hh Hx->φ Hx o
theorem OwnAt.mono {w:World} {K:DP} {Hh Hh' H H':Hp} {D:DR} (e:H' D=H D) (s:Same Hh Hh'):∀ {c:OC},OwnAt w K Hh H D c->OwnAt w K Hh' H' D c
 | .lst es,⟨vs,h1,h2⟩=>⟨vs,e.trans h1,Reps.mono s es vs h2⟩
 | .set ks,⟨xs,h1,h2,h3⟩=>⟨xs,e.trans h1,fun x hx=>⟨(h2 x hx).1,Rep.mono s _ _ (h2 x hx).2⟩,h3⟩
 | .dic kvs,⟨xs,h1,h2⟩=>⟨xs,e.trans h1,EntR.mono s h2⟩
 | .gen φ,⟨o,h1,h2⟩=>⟨o,e.trans h1,fun Hx t=>h2 Hx (s.trans t)⟩
noncomputable def Fx.withs (f:Fx) (Ds:List DR):Fx:={ f with M:=Ds.reverse++f.M }
theorem yN (f:Fx) (Ds:List DR) (D:DR):f.withs (Ds++[D])=(f.withs Ds).with D:=by
 unfold Fx.withs Fx.with;rw [GP];rfl
structure CM (w:World) (K:DP) (f:Fx) (Ds:List DR) (H2:Hp) (ρ:zw) (cs:List OC) (σ:St) (H:Hp):Prop where
 env:EnvOk K (f.withs Ds) ρ σ H
 sm:Same (hide H2 (f.withs Ds)) (hide H (f.withs Ds))
 kp:∀ b∈f.M,H b=H2 b
 len:cs.length=Ds.length
 own:∀ (i:Nat) D c,Ds[i]?=some D->cs[i]?=some c->OwnAt w K (hide H (f.withs Ds)) H D c
structure Sep (f:Fx) (Ds:List DR):Prop where
 nd:Ds.Nodup
 nf:∀ D∈Ds,f.f≠some D
 nm:∀ D∈Ds,D∉f.M
section
variable {w:World} {K:DP} {f:Fx} {Ds:List DR} {H H' H2:Hp} {ρ ρ2:zw} {cs:List OC} {σ σ2:St} {i:Nat} {D:DR} {c:OC} {o:HO}
theorem qB (hD:D∈Ds):D∈(f.withs Ds).M:=ES _ (FP.mpr hD)
theorem y4 (hD:D∈Ds):hide (upd H D o) (f.withs Ds)=hide H (f.withs Ds):=by
 funext b
 unfold hide;by_cases h:(f.withs Ds).f=some b \/ b∈(f.withs Ds).M
 ·rw [Jp h,Jp h]
 ·rw [Jo h,Jo h,zN fun (z:b=D)=>h (.inr (z▸qB hD))]
theorem CM.go (x:CM w K f Ds H2 ρ cs σ H) (g:Goes (f.withs Ds) H H') (e2:EnvOk K (f.withs Ds) ρ2 σ2 H'):CM w K f Ds H2 ρ2 cs σ2 H' :=
 ⟨e2,x.sm.trans g.sm,fun b hb=>(g.kp b (Ed _ hb)).trans (x.kp b hb),x.len,fun i D c h1 h2=>(x.own i D c h1 h2).mono (g.kp D (qB (DS h1))) g.sm⟩
theorem CM.self (x:CM w K f Ds H2 ρ cs σ H):CM w K f Ds H ρ cs σ H:=⟨x.env,Same.refl _,fun _ _=>rfl,x.len,x.own⟩
theorem CM.trans {cs':List OC} {ρ':zw} {σ':St} (x:CM w K f Ds H2 ρ cs σ H) (y:CM w K f Ds H ρ' cs' σ' H'):CM w K f Ds H2 ρ' cs' σ' H':=⟨y.env,x.sm.trans y.sm,fun b hb=>(y.kp b hb).trans (x.kp b hb),y.len,y.own⟩
theorem xN (se:Sep f Ds) (hD:D∈Ds) (h:FOk (f.withs Ds) H):FOk (f.withs Ds) (upd H D o) :=
 ⟨fun p e=>let⟨a,b,h1,h2⟩:=h.fd p e;⟨a,b,by rw [zN (fun (z:p=D)=>se.nf D hD (z▸e))];exact h1,h2⟩,fun b hb=>by
  by_cases e:b=D
  ·exact⟨o,by rw [e];exact zR⟩
  ·obtain⟨u,hu⟩:=h.mm b hb;exact⟨u,by rw [zN e];exact hu⟩,h.nm⟩
theorem xO (se:Sep f Ds) (hD:D∈Ds) (e:EnvOk K (f.withs Ds) ρ σ H):EnvOk K (f.withs Ds) ρ σ (upd H D o) :=
 ⟨e.len,fun i x h=>by
  obtain⟨v,h1,h2⟩:=e.get i x h;refine⟨v,h1,?_⟩;cases x with
  | dat d =>
   show Rep K (hide (upd H D o) (f.withs Ds)) d v;rw [y4 hD];exact h2
  | feed=>exact h2
  | own k=>exact h2
  | exc C =>
   obtain⟨a,e1,q⟩:=h2;exact⟨a,e1,by rw [y4 hD];exact q⟩
  | mon φ =>
   intro H' s;rw [y4 hD] at s;exact h2 H' s,xN se hD e.fd⟩
theorem CM.put {c':OC} (se:Sep f Ds) (x:CM w K f Ds H2 ρ cs σ H) (hi:Ds[i]?=some D) (ho:OwnAt w K (hide H (f.withs Ds)) (upd H D o) D c'):CM w K f Ds H2 ρ (cs.set i c') σ (upd H D o):=by
 have hD:=DS hi;refine⟨xO se hD x.env,by rw [y4 hD];exact x.sm,fun b hb=>(zN (fun (z:b=D)=>se.nm D hD (z▸hb))).trans (x.kp b hb),by rw [Gr];exact x.len,fun j D' c h1 h2=>?_⟩;rw [y4 hD];by_cases e:i=j
 ·subst e;rw [hi] at h1;cases h1;have hl:i<cs.length:=by rw [x.len];exact (DN.mp hi).1
  rw [Fi hl] at h2;cases h2;exact ho
 ·rw [FY e] at h2;have ne:D'≠D:=fun z=>by
   subst z;obtain⟨l1,e1⟩:=DN.mp hi;obtain⟨l2,e2⟩:=DN.mp h1;exact e ((GD se.nd).mp (e1.trans e2.symm))
  exact (x.own j D' c h1 h2).mono (zN ne) (Same.refl _)
end
structure MEnds where
 nx:zw->List OC->Prop
 rt:PyData->Prop
 bk:zw->List OC->Prop:=fun _ _=>False
 ct:zw->List OC->Prop:=fun _ _=>False
def PSm (w:World) (K:DP) (f:Fx) (Ds:List DR) (ts:TS) (ρ:zw) (cs:List OC) (O:MEnds):Prop:=Sep f Ds->∀ (σ:St) (H H2:Hp) (E:Ends),CM w K f Ds H2 ρ cs σ H ->
 (∀ ρ' cs' σ' H',CM w K f Ds H2 ρ' cs' σ' H'->O.nx ρ' cs'->E.nx σ' H')->(∀ d v ρ' cs' σ' H',CM w K f Ds H2 ρ' cs' σ' H'->Rep K (hide H' f) d v->O.rt d->E.rt v H') ->
 (∀ ρ' cs' σ' H',CM w K f Ds H2 ρ' cs' σ' H'->O.bk ρ' cs'->E.bk σ' H')->(∀ ρ' cs' σ' H',CM w K f Ds H2 ρ' cs' σ' H'->O.ct ρ' cs'->E.ct σ' H')->ts E σ H
def PTm (w:World) (K:DP) (f:Fx) (Ds:List DR) (tt:TT) (ρ:zw) (cs:List OC) (B:Bool->Prop):Prop:=Sep f Ds->∀ (σ:St) (H H2:Hp) (Q:Bool->Hp->Prop),CM w K f Ds H2 ρ cs σ H->(∀ b H',Goes (f.withs Ds) H H'->B b->Q b H')->tt σ H Q
def PEm (w:World) (K:DP) (f:Fx) (Ds:List DR) (te:TE) (ρ:zw) (cs:List OC) (P:PyData->Prop):Prop:=Sep f Ds->∀ (σ:St) (H H2:Hp) (Q:VK),CM w K f Ds H2 ρ cs σ H->(∀ d v H',Goes (f.withs Ds) H H'->Rep K (hide H' (f.withs Ds)) d v->P d->Q v H')->te σ H Q
def uH (w:World) (K:DP) (f:Fx) (te:TE) (ρ:zw) (P:OC->Prop):Prop:=∀ (σ:St) (H:Hp) (Q:VK),EnvOk K f ρ σ H ->
 (∀ c D H',Goes f H H'->H D=none->OwnAt w K (hide H' (f.with D)) H' D c->P c->Q (.ref D) H')->te σ H Q
section
variable {w:World} {K:DP} {f:Fx} {Ds:List DR} {ρ:zw} {cs:List OC} {ts tu:TS} {tt:TT} {te:TE} {wi:TI} {g:TG} {O:MEnds} {i j:Nat}
theorem jn {H:Hp}:Same (hide H (f.withs Ds)) (hide H f):=fun b o h=>by
 obtain⟨h1,h2⟩:=zY h;exact zM (fun z=>h1 (z.elim .inl fun z=>.inr (Ed _ z))) h2
theorem mw {D:DEnds} (h:PSm w K f [] ts ρ [] { nx:=fun ρ' _=>D.nx ρ',rt:=D.rt,bk:=fun ρ' _=>D.bk ρ',ct:=fun ρ' _=>D.ct ρ' }):PSd K f ts ρ D:=fun σ H E e n r b k=>by
 have gg:∀ {ρ':zw} {cs':List OC} {σ':St} {H':Hp},CM w K f [] H ρ' cs' σ' H'->Goes f H H':=fun x=>⟨x.sm,x.env.fd,x.kp⟩;exact h ⟨Gd,(fun _ z=>nomatch z),(fun _ z=>nomatch z)⟩ σ H H E ⟨e,Same.refl _,fun _ _=>rfl,rfl,(fun i D c z=>nomatch z)⟩
  (fun ρ' cs' σ' H' x p=>n ρ' σ' H' (gg x) x.env p) (fun d v ρ' cs' σ' H' x r' p=>r d v H' (gg x) r' p) (fun ρ' cs' σ' H' x p=>b ρ' σ' H' (gg x) x.env p) (fun ρ' cs' σ' H' x p=>k ρ' σ' H' (gg x) x.env p)
theorem eL (h:PSd K (f.withs Ds) ts ρ { nx:=fun ρ'=>O.nx ρ' cs,rt:=O.rt,bk:=fun ρ'=>O.bk ρ' cs,ct:=fun ρ'=>O.ct ρ' cs }):PSm w K f Ds ts ρ cs O:=fun se σ H H2 E x n r b k =>
 h σ H E x.env (fun ρ' σ' H' g' e' p=>n ρ' cs σ' H' (x.go g' e') p) (fun d v H' g' r' p=>r d v ρ cs σ H' (x.go g' (x.env.mono g')) (Rep.mono jn d v r') p) (fun ρ' σ' H' g' e' p=>b ρ' cs σ' H' (x.go g' e') p) (fun ρ' σ' H' g' e' p=>k ρ' cs σ' H' (x.go g' e') p)
theorem bo (h:PSm w K f Ds ts ρ cs { O with nx:=fun ρ' cs'=>PSm w K f Ds tu ρ' cs' O }):PSm w K f Ds (aY ts tu) ρ cs O:=fun se σ H H2 E x n r b k =>
 h se σ H H2 _ x (fun ρ' cs' σ' H' x' p=>p se σ' H' H2 E x' n r b k) r b k
theorem uI (h:O.nx ρ cs):PSm w K f Ds fD ρ cs O:=fun _ σ H H2 E x n r b k=>n ρ cs σ H x h
theorem DE {B:Bool->Prop} (h:PTd K (f.withs Ds) tt ρ B):PTm w K f Ds tt ρ cs B:=fun se σ H H2 Q x q=>h σ H Q x.env q
theorem rT {P:PyData->Prop} (h:PEd K (f.withs Ds) te ρ P):PEm w K f Ds te ρ cs P:=fun se σ H H2 Q x q=>h σ H Q x.env q
theorem De (h:PTm w K f Ds tt ρ cs fun b=>if b=true then PSm w K f Ds ts ρ cs O else PSm w K f Ds tu ρ cs O):PSm w K f Ds (lU tt ts tu) ρ cs O:=fun se σ H H2 E x n r b k =>
 h se σ H H2 _ x fun q H1 g1 p=>by
  have x1:=x.go g1 (x.env.mono g1);cases q with
  | false =>
   rw [Jo DL] at p ⊢;exact p se σ H1 H2 E x1 n r b k
  | true =>
   rw [Jp rfl] at p ⊢;exact p se σ H1 H2 E x1 n r b k
theorem oe (h:PId K (f.withs Ds) wi ρ fun ds=>∃ J:Nat->zw->List OC->Prop,J 0 ρ cs /\
   (∀ (i:Nat) d ρ' cs',ds[i]?=some d->J i ρ' cs'->PGd K (f.withs Ds) g d ρ' fun ρ2=>PSm w K f Ds ts ρ2 cs' { O with nx:=J (i+1),ct:=J (i+1),bk:=O.nx })/\∀ ρ' cs',J ds.length ρ' cs'->O.nx ρ' cs') :
  PSm w K f Ds (tP wi g ts) ρ cs O:=fun se σ H H2 E x n r b k=>h σ H _ x.env fun ds J H1 g1 it ⟨Jv,j0,js,jd⟩=>by
 have x1:=x.go g1 (x.env.mono g1);refine⟨fun i m σ' H'=>∃ ρ' cs',CM w K f Ds H2 ρ' cs' σ' H'/\Same (hide H1 (f.withs Ds)) (hide H' (f.withs Ds))/\Jv i ρ' cs'/\m+i=ds.length,⟨ds.length,ρ,cs,x1,Same.refl _,j0,rfl⟩,fun i m σ' H' ⟨ρ',cs',x',sm',p,hm⟩=>?_⟩;by_cases hi:i<ds.length
 ·obtain⟨hgo,hy⟩:=it.go (f.withs Ds) H' i _ x'.env.fd sm' (DK hi);refine .inr ⟨hgo,fun σ2 H3=>∃ ρ2 cs2,CM w K f Ds H2 ρ2 cs2 σ2 H3/\Same (hide H1 (f.withs Ds)) (hide H3 (f.withs Ds))/\Jv (i+1) ρ2 cs2,fun σ2 H3 ⟨ρ2,cs2,e2,g2,p2⟩=>⟨m - 1,by omega,ρ2,cs2,e2,g2,p2,by omega⟩,fun v H3 hx=>?_⟩;obtain⟨g3,r3⟩:=hy v H3 hx;have x3:=x'.go g3 (x'.env.mono g3);refine js i _ ρ' cs' (DK hi) p σ' H3 v _ x3.env r3 fun ρ2 σ2 H4 g4 e4 p4=>?_;have x4:=x3.go g4 e4;have sm4:=(sm'.trans g3.sm).trans g4.sm;exact p4 se σ2 H4 H4 _ x4.self (fun ρ5 cs5 σ5 H5 x5 p5=>⟨ρ5,cs5,x4.trans x5,sm4.trans x5.sm,p5⟩) (fun d v ρ5 cs5 σ5 H5 x5 r5 p5=>r d v ρ5 cs5 σ5 H5 (x4.trans x5) r5 p5) (fun ρ5 cs5 σ5 H5 x5 p5=>n ρ5 cs5 σ5 H5 (x4.trans x5) p5) (fun ρ5 cs5 σ5 H5 x5 p5=>⟨ρ5,cs5,x4.trans x5,sm4.trans x5.sm,p5⟩)
 ·have ei:i=ds.length:=by omega
  subst ei;exact .inl ⟨it.st (f.withs Ds) H' x'.env.fd sm',n ρ' cs' σ' H' x' (jd ρ' cs' p)⟩
theorem xP {tb:TS} (J:zw->List OC->Prop) (μ:zw->List OC->Nat) (h0:J ρ cs)
  (hs:∀ ρ' cs',J ρ' cs'->PTm w K f Ds tt ρ' cs' fun b=>if b=true then PSm w K f Ds tb ρ' cs' { O with nx:=fun r c=>J r c/\μ r c<μ ρ' cs',ct:=fun r c=>J r c/\μ r c<μ ρ' cs',bk:=O.nx } else O.nx ρ' cs'):PSm w K f Ds (lV tt tb) ρ cs O:=fun se σ H H2 E x n r b k=>by
 refine⟨fun m σ' H'=>∃ ρ' cs',CM w K f Ds H2 ρ' cs' σ' H'/\J ρ' cs'/\m=μ ρ' cs',⟨_,ρ,cs,x,h0,rfl⟩,?_⟩;rintro m σ1 H1 ⟨ρ1,cs1,x1,j1,rfl⟩;refine hs ρ1 cs1 j1 se σ1 H1 H2 _ x1 fun t H3 g3 p=>?_;have x3:=x1.go g3 (x1.env.mono g3);cases t with
 | true =>
  rw [Jp rfl] at p ⊢;refine⟨fun σ' H'=>∃ ρ' cs',CM w K f Ds H2 ρ' cs' σ' H'/\J ρ' cs'/\μ ρ' cs'<μ ρ1 cs1,fun σ' H' ⟨ρ',cs',x',j',l'⟩=>⟨_,l',ρ',cs',x',j',rfl⟩,?_⟩;exact p se σ1 H3 H2 _ x3 (fun ρ5 cs5 σ5 H5 x5 p5=>⟨ρ5,cs5,x5,p5⟩) r (fun ρ5 cs5 σ5 H5 x5 p5=>n ρ5 cs5 σ5 H5 x5 p5) (fun ρ5 cs5 σ5 H5 x5 p5=>⟨ρ5,cs5,x5,p5⟩)
 | false =>
  rw [Jo DL] at p ⊢;exact n ρ1 cs1 σ1 H3 x3 p
theorem bQ {σ:St} {H H2:Hp} {D:DR} (hi:ρ[i]?=some (some (.own (f.M.length+j)))) (x:CM w K f Ds H2 ρ cs σ H) (hD:Ds[j]?=some D):σ[i]?=some (some (.ref D)):=by
 obtain⟨v,h1,p,h2,rfl⟩:=x.env.get i _ hi;have e:(f.withs Ds).M.reverse[f.M.length+j]?=some D:=by
  show (Ds.reverse++f.M).reverse[f.M.length+j]?=some D;rw [GP,II,D7 (by simp)];simpa using hD
 rw [e] at h2;cases h2;exact h1
theorem uJ {es:List PyData} (hi:ρ[i]?=some (some (.own (f.M.length+j)))) (hc:cs[j]?=some (.lst es)) (hl:es.length<1000) (h:PEm w K f Ds te ρ cs fun d=>O.nx ρ (cs.set j (.lst (es++[d])))):PSm w K f Ds (iV (tBM K "list" gN (z6 i) (zT te jT))) ρ cs O:=fun se σ H H2 E x n r b k=>by
 have hj:j<Ds.length:=by rw [<-x.len];exact (DN.mp hc).1
 have hD:Ds[j]?=some Ds[j]:=DK hj;obtain⟨vs0,h0,_⟩:=x.own j _ _ hD hc;refine⟨_,bQ hi x hD,Or.inl ⟨rfl,vs0,.of h0⟩,?_⟩;refine h se σ H H2 _ x fun d v H1 g1 r1 p1=>?_;have x1:=x.go g1 (x.env.mono g1);obtain⟨vs,h1,h2⟩:=x1.own j _ _ hD hc;refine⟨_,vs,v,rfl,rfl,h1,yy (by rw [h2.length];omega),n _ _ _ _ (x1.put se hD (o:=.lst (vs++[v])) (c':=.lst (es++[d])) ⟨vs++[v],zR,h2.snoc r1⟩) p1⟩
theorem CM.more {σ:St} {H H1 H2:Hp} {D:DR} {c:OC} (x:CM w K f Ds H2 ρ cs σ H) (g:Goes (f.withs Ds) H H1) (hn:H D=none) (ho:OwnAt w K (hide H1 ((f.withs Ds).with D)) H1 D c) (hi:i<ρ.length) :
  CM w K f (Ds++[D]) H1 (ρ.set i (some (.own (f.M.length+Ds.length)))) (cs++[c]) (σ.set i (some (.ref D))) H1:=by
 have nD:¬ ((f.withs Ds).f=some D \/ D∈(f.withs Ds).M):=fresh_ne x.env.fd hn;have sm0:Same (hide H (f.withs Ds)) (hide H1 (f.withs (Ds++[D]))):=fun b o hb=>by
  have hb1:=g.sm b o hb;rw [yN];refine zM (fun z=>?_) (zY hb1).2;rcases z with z | z
  ·exact (zY hb1).1 (.inl z)
  ·rcases D0.mp z with rfl | z
   ·have:=(zY hb).2;rw [hn] at this;cases this
   ·exact (zY hb1).1 (.inr z)
 have hD1:∃ o,H1 D=some o:=by
  cases c with
  | lst es=>exact⟨_,ho.choose_spec.1⟩
  | set ks=>exact⟨_,ho.choose_spec.1⟩
  | dic kvs=>exact⟨_,ho.choose_spec.1⟩
  | gen φ=>exact⟨_,ho.choose_spec.1⟩
 have fo1:FOk (f.withs (Ds++[D])) H1:=by
  rw [yN];refine⟨g.ok.fd,fun b hb=>?_,fun q eq hq=>?_⟩
  ·rcases D0.mp hb with rfl | hb
   ·exact hD1
   ·exact g.ok.mm b hb
  ·rcases D0.mp hq with rfl | hq
   ·exact nD (.inl eq)
   ·exact g.ok.nm q eq hq
 have rev:(f.withs (Ds++[D])).M.reverse=(f.withs Ds).M.reverse++[D]:=by
  rw [yN];show (D :: (f.withs Ds).M).reverse=_;rw [Fy]
 have lenr:(f.withs Ds).M.reverse.length=f.M.length+Ds.length:=by
  show (Ds.reverse++f.M).reverse.length=_;simp
 have e1:EnvOk K (f.withs (Ds++[D])) ρ σ H1:=⟨x.env.len,fun q y hy=>by
  obtain⟨v,a1,a2⟩:=x.env.get q y hy;refine⟨v,a1,?_⟩;cases y with
  | dat d=>exact Rep.mono sm0 d v a2
  | feed=>exact a2
  | exc C =>
   obtain⟨b,h3,h4⟩:=a2;exact⟨b,h3,sm0 _ _ h4⟩
  | mon φ=>exact fun H' s=>a2 H' (sm0.trans s)
  | own k =>
   obtain⟨b,h3,h4⟩:=a2;refine⟨b,?_,h4⟩;rw [rev,D4 (DN.mp h3).1];exact h3,fo1⟩
 have rv:RepV K (f.withs (Ds++[D])) H1 (.own (f.M.length+Ds.length)) (.ref D):=⟨D,by
  rw [rev,D7 (by omega),lenr,Gk]
  rfl,rfl⟩
 refine⟨e1.set i rv,Same.refl _,fun _ _=>rfl,by simp [x.len],fun q D' c' h1 h2=>?_⟩;by_cases hq:q<Ds.length
 ·rw [D4 hq] at h1;rw [D4 (by rw [x.len];exact hq)] at h2;exact (x.own q D' c' h1 h2).mono (g.kp D' (qB (DS h1))) sm0
 ·by_cases hq2:q=Ds.length
  ·subst hq2;rw [D7 (DU _),Gk] at h1;rw [D7 (by rw [x.len];exact DU _),x.len,Gk] at h2;cases h1;cases h2;rw [yN];exact ho
  ·rw [En (by simp;omega)] at h1;cases h1
theorem Sep.more {H:Hp} {D:DR} (se:Sep f Ds) (fo:FOk (f.withs Ds) H) (hn:H D=none):Sep f (Ds++[D]):=by
 have nD:=fresh_ne fo hn;refine⟨FZ.mpr ⟨se.nd,by simp,fun a ha b hb=>?_⟩,fun D' h=>?_,fun D' h=>?_⟩
 ·rw [Ej.mp hb];intro z;exact nD (.inr (qB (z▸ha)))
 ·rcases Ep.mp h with h | h
  ·exact se.nf D' h
  ·rw [Ej.mp h];exact fun z=>nD (.inl z)
 ·rcases Ep.mp h with h | h
  ·exact se.nm D' h
  ·rw [Ej.mp h];exact fun z=>nD (.inr (Ed _ z))
theorem CM.less {σ σ':St} {H H1 H2 H':Hp} {D:DR} {ρ':zw} {cs':List OC} (x:CM w K f Ds H2 ρ cs σ H) (g:Goes (f.withs Ds) H H1) (hn:H D=none) (y:CM w K f (Ds++[D]) H1 ρ' cs' σ' H') :
  CM w K f Ds H2 (ρ'.map (qQ (f.M.length+Ds.length))) (cs'.take Ds.length) σ' H':=by
 have sub:Same (hide H' (f.withs (Ds++[D]))) (hide H' (f.withs Ds)):=by rw [yN];exact yQ
 have sm1:Same (hide H (f.withs Ds)) (hide H1 (f.withs (Ds++[D]))):=fun b o hb=>by
  have hb1:=g.sm b o hb;rw [yN];refine zM (fun z=>?_) (zY hb1).2;rcases z with z | z
  ·exact (zY hb1).1 (.inl z)
  ·rcases D0.mp z with rfl | z
   ·have:=(zY hb).2;rw [hn] at this;cases this
   ·exact (zY hb1).1 (.inr z)
 have lenr:(f.withs Ds).M.reverse.length=f.M.length+Ds.length:=by
  show (Ds.reverse++f.M).reverse.length=_;simp
 have rev:(f.withs (Ds++[D])).M.reverse=(f.withs Ds).M.reverse++[D]:=by
  rw [yN];show (D :: (f.withs Ds).M).reverse=_;rw [Fy]
 have fo:FOk (f.withs Ds) H':=by
  have h:=y.env.fd;rw [yN] at h;exact⟨h.fd,fun b hb=>h.mm b (DT _ hb),fun p e hp=>h.nm p e (DT _ hp)⟩
 refine⟨⟨by rw [DM];exact y.env.len,fun q z hz=>?_,fo⟩,(x.sm.trans sm1).trans (y.sm.trans sub),fun b hb=>(y.kp b hb).trans ((g.kp b (Ed _ hb)).trans (x.kp b hb)),?_,fun q D' c' h1 h2=>?_⟩
 ·rw [DX] at hz;cases e:ρ'[q]? with
  | none=>rw [e] at hz;cases hz
  | some z0 =>
   rw [e] at hz;cases z0 with
   | none=>cases hz
   | some z0 =>
    obtain⟨v,a1,a2⟩:=y.env.get q z0 e;cases z0 with
    | dat d =>
     cases hz;exact⟨v,a1,Rep.mono sub d v a2⟩
    | feed =>
     cases hz;rw [yN] at a2;exact⟨v,a1,a2⟩
    | exc C =>
     cases hz;obtain⟨b,h3,h4⟩:=a2;exact⟨v,a1,b,h3,sub _ _ h4⟩
    | mon φ =>
     cases hz;exact⟨v,a1,fun H' s=>a2 H' (sub.trans s)⟩
    | own k =>
     have hz':(if k<f.M.length+Ds.length then some (DV.own k) else none)=some z:=Option.some.inj hz;by_cases hk:k<f.M.length+Ds.length
     ·rw [Jp hk] at hz';cases hz';obtain⟨b,h3,h4⟩:=a2;refine⟨v,a1,b,?_,h4⟩;rw [rev,D4 (by omega)] at h3;exact h3
     ·rw [Jo hk] at hz';cases hz'
 ·rw [Et,y.len];simp
 ·have hq:q<Ds.length:=(DN.mp h1).1;rw [GV hq] at h2;exact (y.own q D' c' (by rw [D4 hq];exact h1) h2).mono rfl sub
theorem uK (h:uH w K (f.withs Ds) te ρ fun c=>i<ρ.length/\∀ D,PSm w K f (Ds++[D]) ts (ρ.set i (some (.own (f.M.length+Ds.length)))) (cs++[c]) { nx:=fun ρ' cs'=>O.nx (ρ'.map (qQ (f.M.length+Ds.length))) (cs'.take Ds.length),rt:=O.rt,bk:=fun ρ' cs'=>O.bk (ρ'.map (qQ (f.M.length+Ds.length))) (cs'.take Ds.length),ct:=fun ρ' cs'=>O.ct (ρ'.map (qQ (f.M.length+Ds.length))) (cs'.take Ds.length) }) :
  PSm w K f Ds (aY (bw te (jS i)) ts) ρ cs O:=fun se σ H H2 E x n r b k =>
 h σ H _ x.env fun c D H1 g1 hn ho ⟨hi,p⟩ =>
  p D (se.more x.env.fd hn) _ H1 H1 E (x.more g1 hn ho hi) (fun ρ' cs' σ' H' y q=>n _ _ σ' H' (x.less g1 hn y) q) (fun d v ρ' cs' σ' H' y r' q=>r d v _ _ σ' H' (x.less g1 hn y) r' q) (fun ρ' cs' σ' H' y q=>b _ _ σ' H' (x.less g1 hn y) q) (fun ρ' cs' σ' H' y q=>k _ _ σ' H' (x.less g1 hn y) q)
theorem hE {P:OC->Prop} (h:PEdO K f te ρ fun es=>P (.lst es)):uH w K f te ρ P:=fun σ H Q e q=>h σ H Q e fun es D vs H' g hn h1 rs p=>q (.lst es) D H' g hn ⟨vs,h1,rs⟩ p
noncomputable def freed (n:Nat) (cs:List OC):Option DV->Option DV
 | some (.own k)=>if k<n then some (.own k) else match cs[k - n]? with
  | some (.lst es)=>some (.dat (.list es))
  | _=>none
 | x=>x
theorem CM.free {σ:St} {H H2:Hp} (se:Sep f Ds) (x:CM w K f Ds H2 ρ cs σ H):EnvOk K f (ρ.map (freed f.M.length cs)) σ H:=by
 have fo:FOk f H:=⟨x.env.fd.fd,fun b hb=>x.env.fd.mm b (Ed _ hb),fun p e hp=>x.env.fd.nm p e (Ed _ hp)⟩;refine⟨by rw [DM];exact x.env.len,fun q z hz=>?_,fo⟩;rw [DX] at hz;cases e:ρ[q]? with
 | none=>rw [e] at hz;cases hz
 | some z0 =>
  rw [e] at hz;cases z0 with
  | none=>cases hz
  | some z0 =>
   obtain⟨v,a1,a2⟩:=x.env.get q z0 e;cases z0 with
   | dat d =>
    cases hz;exact⟨v,a1,Rep.mono jn d v a2⟩
   | feed =>
    cases hz;exact⟨v,a1,a2⟩
   | exc C =>
    cases hz;obtain⟨b,h3,h4⟩:=a2;exact⟨v,a1,b,h3,jn _ _ h4⟩
   | mon φ =>
    cases hz;exact⟨v,a1,fun H' s=>a2 H' (jn.trans s)⟩
   | own k =>
    obtain⟨b,h3,h4⟩:=a2;have h3':(Ds.reverse++f.M).reverse[k]?=some b:=h3;rw [GP,II] at h3';have hz':(if k<f.M.length then some (DV.own k) else match cs[k - f.M.length]? with | some (.lst es)=>some (.dat (.list es)) | _=>none)=some z:=Option.some.inj hz;by_cases hk:k<f.M.length
    ·rw [Jp hk] at hz';cases hz';rw [D4 (by simpa using hk)] at h3';exact⟨v,a1,b,h3',h4⟩
    ·rw [Jo hk] at hz';rw [D7 (by simpa using Nat.not_lt.mp hk),IW] at h3';cases ec:cs[k - f.M.length]? with
     | none=>rw [ec] at hz';cases hz'
     | some c =>
      rw [ec] at hz';cases c with
      | lst es =>
       cases hz';obtain⟨vs,h5,h6⟩:=x.own _ _ _ h3' ec;have hb:=DS h3';exact⟨v,a1,zO.mpr ⟨b,vs,h4,.of (zM (fun z=>z.elim (se.nf b hb) (se.nm b hb)) h5),Reps.mono jn es vs h6⟩⟩
      | set ks=>cases hz'
      | dic kvs=>cases hz'
      | gen φ=>cases hz'
theorem CM.goF {σ:St} {H H2 H':Hp} (se:Sep f Ds) (x:CM w K f Ds H2 ρ cs σ H) (g:Goes f H H'):CM w K f Ds H2 ρ cs σ H':=by
 have keep:∀ b∈Ds,H' b=H b:=fun b hb=>by
  obtain⟨o,ho⟩:=x.env.fd.mm b (qB hb);rw [ho];exact (zY (g.sm b o (zM (fun z=>z.elim (se.nf b hb) (se.nm b hb)) ho))).2
 have g2:Goes (f.withs Ds) H H':=⟨fun b o hb=>by
   have hb':=zY hb;have:=zY (g.sm b o (jn b o hb));exact zM hb'.1 this.2,⟨g.ok.fd,fun b hb=>by
   rcases Ep.mp hb with hb | hb
   ·obtain⟨o,ho⟩:=x.env.fd.mm b (ES _ hb);exact⟨o,by rw [keep b (FP.mp hb)];exact ho⟩
   ·exact g.ok.mm b hb,x.env.fd.nm⟩,fun b hb=>by
   rcases Ep.mp hb with hb | hb
   ·exact keep b (FP.mp hb)
   ·exact g.kp b hb⟩
 exact x.go g2 (x.env.mono g2)
theorem my (h:PSd K f ts (ρ.map (freed f.M.length cs)) { nx:=fun _=>False,rt:=O.rt }):PSm w K f Ds ts ρ cs O:=fun se σ H H2 E x n r b k =>
 h σ H E (x.free se) (fun _ _ _ _ _ z=>z.elim) (fun d v H' g' r' p=>r d v ρ cs σ H' (x.goF se g') r' p) (fun _ _ _ _ _ z=>z.elim) (fun _ _ _ _ _ z=>z.elim)
end
def rV (w:World) (K:DP) (f:Fx) (Ds:List DR) (ts:TS) (ρ:zw) (cs:List OC) (R:List PyData->Prop):Prop:=Sep f Ds->∀ (σ:St) (H H2:Hp) (E:Ends),CM w K f Ds H2 ρ cs σ H ->
 (∀ es D vs ρ' cs' σ' H0 H',CM w K f Ds H2 ρ' cs' σ' H0->Goes f H0 H'->H0 D=none->H' D=some (.lst vs)->Reps K (hide H' (f.with D)) es vs->R es->E.rt (.ref D) H')->ts E σ H
section
variable {w:World} {K:DP} {f:Fx} {Ds:List DR} {ρ:zw} {cs:List OC} {ts tu:TS} {te:TE} {R:List PyData->Prop} {i:Nat}
theorem xQ (h:rV w K f [] ts ρ [] R):PSn K f ts ρ R:=fun σ H E e q=>by
 refine h ⟨Gd,(fun _ z=>nomatch z),(fun _ z=>nomatch z)⟩ σ H H E ⟨e,Same.refl _,fun _ _=>rfl,rfl,(fun i D c z=>nomatch z)⟩ fun es D vs ρ' cs' σ' H0 H' x g hn h1 rs p=>?_;have g0:Goes f H H0:=⟨x.sm,x.env.fd,x.kp⟩;exact q es D vs H' (g0.trans g) (g0.free e.fd hn) h1 rs p
theorem B6 (h:PSm w K f Ds ts ρ cs { nx:=fun ρ' cs'=>rV w K f Ds tu ρ' cs' R,rt:=fun _=>False }):rV w K f Ds (aY ts tu) ρ cs R:=fun se σ H H2 E x q =>
 h se σ H H2 _ x (fun ρ' cs' σ' H' x' p=>p se σ' H' H2 E x' q) (fun _ _ _ _ _ _ _ _ z=>z.elim) (fun _ _ _ _ _ z=>z.elim) (fun _ _ _ _ _ z=>z.elim)
theorem uL (h:uH w K (f.withs Ds) te ρ fun c=>i<ρ.length/\∀ D,rV w K f (Ds++[D]) ts (ρ.set i (some (.own (f.M.length+Ds.length)))) (cs++[c]) R) :
  rV w K f Ds (aY (bw te (jS i)) ts) ρ cs R:=fun se σ H H2 E x q =>
 h σ H _ x.env fun c D H1 g1 hn ho ⟨hi,p⟩ =>
  p D (se.more x.env.fd hn) _ H1 H1 E (x.more g1 hn ho hi) fun es D' vs ρ' cs' σ' H0 H' y g hn' h1 rs pr=>q es D' vs _ _ σ' H0 H' (x.less g1 hn y) g hn' h1 rs pr
theorem xR (h:PSn K f ts (ρ.map (freed f.M.length cs)) R):rV w K f Ds ts ρ cs R:=fun se σ H H2 E x q =>
 h σ H E (x.free se) fun es D vs H' g hn h1 rs p=>q es D vs ρ cs σ H H' x g hn h1 rs p
end
theorem SetO.ok {P:Program} {w:World} {H:Hp} {h:Heap} {a:DR} {xs:List (PyData×DR)} {o:Obj} {es:Array (Int×Value)} {ep:Nat} {t:SetTable} (S:SetObj w h a xs o es ep t):ObjOk P w H h a (SetO w a xs) :=
 ⟨⟨o,es,ep,t,S⟩,⟨o,S.ob⟩,fun h1 h2 ⟨o,es,ep,t,S⟩ k=>⟨o,es,ep,t,⟨k o S.ob,S.ex,S.da,S.el,S.ok⟩⟩⟩
theorem rW (led:Bool):ST.TOk (SetTable.fresh 0 0 led) [] where
 mask:=.inl rfl
 dum:=rfl
 rise:=fun i j _ hj=>absurd hj (FC _)
 le:=fun i hi=>absurd hi (FC _)
 size:=rfl
 most:=EE _
 reach:=fun i hi=>absurd hi (FC _)
 room:=by show 0 * 5<7 * 3;decide
def hI (w:World):List V->Hp->VK->Prop:=fun xs H Q=>xs=[]/\∀ a,H a=none->Q (.ref a) (upd H a (SetO w a []))
theorem kP {X:Cx}:yY X (.type "set") (hI X.w):=by
 intro Jn s σ H xs us Q I r h;obtain⟨rfl,q⟩:=h;cases r;refine call_set_0 fun led=>?_;refine⟨.ref s.heap.objs.size,_,I.laid (t':=s.toks) (fun b u e=>D3 _ e) (DU _) (SetO.ok (xs:=[]) (o:={ cls:=.type "set",dict:=none,data:=.set #[] 0 (.fresh 0 0 led) }) (es:=#[]) (ep:=0) (t:=.fresh 0 0 led) ⟨Ey _ rfl,⟨rfl,rfl,rfl⟩,rfl,rfl,rW led⟩),rfl,q _ (I.hok.fresh (DU _))⟩
def rX (d:PyData):Prop:=bP d/\∃ xs,d=.tuple xs
theorem dw {K:DP} {H:Hp} {d:PyData} {v:V} (k:rX d) (r:Rep K H d v):∃ b,v=.ref b:=by
 obtain⟨_,xs,rfl⟩:=k;obtain⟨a,_,e,_⟩:=zX.mp r;exact⟨a,e⟩
theorem bB {X:Cx} {Jn:List (DR×Obj)} {σ:St} {H:Hp} {s:Shared} {d:PyData} {b:DR} (I:Inv X Jn σ H s) (k:bP d) (r:Rep X.K H d (.ref b)):KeyAt s.heap d b:=by
 obtain⟨as,ra⟩:=jz I d (.ref b) (.ref b) r rfl;exact⟨⟨as,ra⟩,k.1,k.2⟩
def B7 (w:World) (K:DP) (neg:Bool):R2:=fun x y H Q=>∃ a b d xs,x=.ref b/\y=.ref a/\H a=some (SetO w a xs)/\(∀ z∈xs,bP z.1/\Rep K H z.1 (.ref z.2))/\bP d/\Rep K H d (.ref b)/\Q (.bl (if neg then !decide (d∈xs.map (·.1)) else decide (d∈xs.map (·.1)))) H
theorem xS {X:Cx} (hu:X.A.units+64<Fh) {Jn:List (DR×Obj)} {s:Shared} {σ:St} {H:Hp} {a b:DR} {d:PyData} {xs:List (PyData×DR)} (I:Inv X Jn σ H s) (hS:H a=some (SetO X.w a xs)) (ks:∀ z∈xs,bP z.1/\Rep X.K H z.1 (.ref z.2)) (kd:bP d) (rd:Rep X.K H d (.ref b)) {Q:Bool->Shared->Prop} {E:Value->Shared->Prop}
  (q:Q (decide (d∈xs.map (·.1))) { s with toks:=s.toks+yo d }):Ef (model X.prog X.w) X.A (contains (.ref a) (.ref b)) Q E s:=by
 obtain⟨⟨o,es,ep,t,S⟩,_⟩:=I.hok a _ hS;exact kO S (fun x hx=>bB I (ks x hx).1 (ks x hx).2) (bB I kd rd) (by omega) q
theorem rY {X:Cx} (hu:X.A.units+64<Fh):OpR X (EU .NotIn) (B7 X.w X.K true):=by
 intro Jn s σ H x y v u Q I rx ry h;obtain⟨a,b,d,xs,rfl,rfl,hS,ks,kd,rd,q⟩:=h;cases rx;cases ry;show Ef _ _ (do return Value.bool (!(<- contains (.ref a) (.ref b)))) _ _ s;apply DQ;exact xS hu I hS ks kd rd (DY ⟨.bl _,H,I.tok _,rfl,q⟩)
theorem mz {X:Cx} {K:DP} {w:World} (hw:X.w=w) (hK:X.K=K) (hu:X.A.units+64<Fh):OpR X (EU .NotIn) (B7 w K true):=hw▸hK▸rY hu
def uM (w:World) (K:DP):V->List V->Hp->VK->Prop:=fun x ys H Q=>∃ a b d xs,x=.ref a/\ys=[.ref b]/\H a=some (SetO w a xs)/\(∀ z∈xs,bP z.1/\Rep K H z.1 (.ref z.2))/\bP d/\Rep K H d (.ref b)/\xs.length<300 /\
 (d∈xs.map (·.1)->Q .non H)/\(d∉xs.map (·.1)->∀ xs',xs'.Perm ((d,b) :: xs)->Q .non (upd H a (SetO w a xs')))
theorem xT {X:Cx} (hu:X.A.units+64<Fh):MtR X "set.add" (uM X.w X.K):=by
 intro Jn s σ H x ys v us Q I rx ry h;obtain⟨a,b,d,xs,rfl,rfl,hS,ks,kd,rd,few,q1,q2⟩:=h;obtain⟨u,rfl,ru⟩:=vals1 ry;cases rx;cases ru;obtain⟨⟨o,es,ep,t,S⟩,_⟩:=I.hok a _ hS;refine B5 S (fun x hx=>bB I (ks x hx).1 (ks x hx).2) (bB I kd rd) (by omega) few (fun hd=>⟨.non,H,I.tok _,rfl,q1 hd⟩) fun hd xs' o' es' ep' t' h' pm sb S'=>?_;refine⟨.non,_,I.write (t':=s.toks+yo d) (x:=a) (e:=a) (by rw [hS];exact trivial) (.inl rfl) (fun b u nb e=>(sb.2 b nb).trans e) ⟨o',S'.ob⟩ (SetO.ok S'),rfl,q2 hd xs' pm⟩
theorem uN {X:Cx} {K:DP} {w:World} (hw:X.w=w) (hK:X.K=K) (hu:X.A.units+64<Fh):MtR X "set.add" (uM w K):=hw▸hK▸xT hu
theorem hJ {X:Cx} {w:World} (hw:X.w=w):yY X (.type "set") (hI w):=hw▸kP
def Df (w:World) (r:V->List V->Hp->VK->Prop) (to:TE) (t:TA):TE:=fun σ H Q=>to σ H fun x H1=>(∃ a xs,x=.ref a/\H1 a=some (SetO w a xs))/\t σ H1 fun xs H2=>r x xs H2 Q
theorem B8 {X:Cx} {w:World} {o e:Expr} {es:List Expr} {to:TE} {t:TA} {name:Str} {apos cpos:Pos} {id:String} {r:V->List V->Hp->VK->Prop} (hw:X.w=w) (slot:Slot "set" name id) (hty:typeOf (.builtin id)=pure (.type "method_descriptor")) (hm:MtR X id r) (ho:PE X o to) (ha:PA X (e :: es) t)
  (hbase:attributeBase o name X.env (eval o X.env)=eval o X.env:=by rfl)
  (hfew:((backTo cpos (EN (e :: es) X.env)).all (fun x=>!x.1) && (backToKw cpos (keywordEach [] X.env)).all (fun x=>x.1.isSome)
   && decide ((e :: es).length+([]:List Keyword).length+(if ([]:List Keyword).isEmpty then 0 else 1)<30))=true:=by rfl)
  (hline:(apos.endLine == cpos.line)=true:=by rfl) (hs:EN (e :: es) X.env=(false,eval e X.env) :: EN es X.env:=by rfl) (hplain:(backTo cpos (EN es X.env)).any (·.1)=false:=by rfl) :
  PE X (.Call (.Attribute o name apos) (e :: es) [] cpos) (Df w r to t):=by
 subst hw;intro Jn s σ H Q I h;refine wpAny_Call_method_late hbase hfew hline rfl (thn (ho Jn s σ H _ I h) fun v s1 ⟨x,H1,I1,r1,ty,q1⟩=>?_);obtain⟨a,xs,rfl,hS⟩:=ty;cases r1;obtain⟨⟨ob,es',ep,t',S⟩,_⟩:=I1.hok a _ hS;refine⟨"set",id,PySem.F.plainAttrs_set,slot,hty,⟨ob,S.ob,S.ex.1⟩,fun b e=>?_,?_⟩
 ·cases e;exact⟨ob,S.ob,S.ex.2.1⟩
 have hA:=ha cpos Jn s1 σ H1 _ I1 q1;rw [hs] at hA ⊢;refine Ik (by show (false || (backTo cpos (EN es X.env)).any (·.1))=false;rw [hplain] <;> rfl) (ID ?_);exact thn hA fun us s2 ⟨vs,H2,I2,r2,q2⟩=>hm Jn s2 σ H2 (.ref a) vs (.ref a) us Q I2 rfl r2 q2
section
variable {w:World} {K:DP} {f:Fx} {Ds:List DR} {ρ:zw} {cs:List OC} {te:TE} {O:MEnds} {i j:Nat} {ks:List PyData}
theorem B9 {P:OC->Prop} (p:P (.set [])):uH w K f (tCB (hI w) jT) ρ P:=fun σ H Q e q =>
 ⟨rfl,fun a hn=>q (.set []) a _ (.of_same (yD hn _) e.fd) hn ⟨[],zR,(fun _ z=>nomatch z),(fun d=>Iff.rfl),DU 0⟩ p⟩
theorem Dg {neg:Bool} {B:Bool->Prop} (hi:ρ[i]?=some (some (.own (f.M.length+j)))) (hc:cs[j]?=some (.set ks)) (h:PEm w K f Ds te ρ cs fun d=>rX d/\B (if neg then !decide (d∈ks) else decide (d∈ks))) :
  PTm w K f Ds (cP (tOp (B7 w K neg) te (z6 i))) ρ cs B:=fun se σ H H2 Q x q=>by
 have hj:j<Ds.length:=by rw [<-x.len];exact (DN.mp hc).1
 have hD:Ds[j]?=some Ds[j]:=DK hj;refine h se σ H H2 _ x fun d v H1 g1 r1 ⟨kd,p⟩=>?_;have x1:=x.go g1 (x.env.mono g1);obtain⟨b,rfl⟩:=dw kd r1;obtain⟨xs,h1,h2,h3,_⟩:=x1.own j _ _ hD hc;refine⟨_,bQ hi x1 hD,Ds[j],b,d,xs,rfl,rfl,h1,fun z hz=>⟨(h2 z hz).1,Rep.mono (zt _ _) _ _ (h2 z hz).2⟩,kd.1,Rep.mono (zt _ _) _ _ r1,_,rfl,?_⟩;have:decide (d∈xs.map (·.1))=decide (d∈ks):=decide_eq_decide.mpr (h3 d);rw [this];exact q _ H1 g1 p
theorem Dh (hi:ρ[i]?=some (some (.own (f.M.length+j)))) (hc:cs[j]?=some (.set ks)) (hl:ks.length<300) (h:PEm w K f Ds te ρ cs fun d=>rX d/\(d∈ks->O.nx ρ cs)/\(d∉ks->O.nx ρ (cs.set j (.set (d :: ks))))) :
  PSm w K f Ds (iV (Df w (uM w K) (z6 i) (zT te jT))) ρ cs O:=fun se σ H H2 E x n r b k=>by
 have hj:j<Ds.length:=by rw [<-x.len];exact (DN.mp hc).1
 have hD:Ds[j]?=some Ds[j]:=DK hj;obtain⟨xs0,h0,_⟩:=x.own j _ _ hD hc;refine⟨_,bQ hi x hD,⟨Ds[j],xs0,rfl,h0⟩,?_⟩;refine h se σ H H2 _ x fun d v H1 g1 r1 ⟨kd,p1,p2⟩=>?_;have x1:=x.go g1 (x.env.mono g1);obtain⟨b,rfl⟩:=dw kd r1;obtain⟨xs,h1,h2,h3,h4⟩:=x1.own j _ _ hD hc;refine⟨Ds[j],b,d,xs,rfl,rfl,h1,fun z hz=>⟨(h2 z hz).1,Rep.mono (zt _ _) _ _ (h2 z hz).2⟩,kd.1,Rep.mono (zt _ _) _ _ r1,by omega,fun hd=>n _ _ _ _ x1 (p1 ((h3 d).mp hd)),fun hd xs' pm=>n _ _ _ _ (x1.put se hD (c':=.set (d :: ks)) ⟨xs',zR,fun z hz=>?_,fun e=>?_,?_⟩) (p2 fun z=>hd ((h3 d).mpr z))⟩
 ·rcases D0.mp (pm.mem_iff.mp hz) with rfl | hz
  ·exact⟨kd.1,r1⟩
  ·exact h2 z hz
 ·rw [(pm.map (·.1)).mem_iff,Ek,D0,D0,h3 e]
 ·rw [pm.length_eq,Ea,Ea];omega
end
theorem DicO.ok {P:Program} {w:World} {H:Hp} {h:Heap} {a:DR} {xs:List (PyData×DR×Value)} {o:Obj} {es:Array DictEntry} {ep:Nat} (S:DicObj w h a xs o es ep):ObjOk P w H h a (DicO w a xs) :=
 ⟨⟨o,es,ep,S⟩,⟨o,S.ob⟩,fun h1 h2 ⟨o,es,ep,S⟩ k=>⟨o,es,ep,⟨k o S.ob,S.ex,S.da,S.el,S.nd,S.ns⟩⟩⟩
theorem xU {X:Cx} {Jn:List (DR×Obj)} {σ:St} {H:Hp} {s:Shared} (I:Inv X Jn σ H s):sysModules<s.heap.objs.size :=
 Jb (by decide) (I.ok.mod.glob.keeps I.bk).lt
def oh (w:World):TE:=fun _ H Q=>∀ p,H p=none->Q (.ref p) (upd H p (DicO w p []))
theorem rZ {X:Cx} {w:World} {pos:Pos} (hw:X.w=w):PE X (.Dict [] [] pos) (oh w):=by
 subst hw;intro Jn s σ H Q I h;refine wpAny_Dict_empty ⟨.ref s.heap.objs.size,_,I.laid (a:=s.heap.objs.size) (t':=s.toks) (fun _ _ q=>D3 _ q) (DU _) (DicO.ok (xs:=[]) (o:={ cls:=.type "dict",data:=.dict #[] }) (es:=#[]) (ep:=0) ⟨Ey _ rfl,⟨rfl,rfl,rfl⟩,rfl,rfl,Gd,beq_eq_false_iff_ne.mpr (EW (Ez (xU I)))⟩),rfl,h _ (I.hok.fresh (DU _))⟩
abbrev hU (K:DP) (H:Hp) (xs:List (PyData×DR×Value)):Prop:=∀ z∈xs,bP z.1/\Rep K H z.1 (.ref z.2.1)
theorem uO {X:Cx} {Jn:List (DR×Obj)} {σ:St} {H:Hp} {s:Shared} {a:DR} {xs:List (PyData×DR×Value)} (I:Inv X Jn σ H s) (hS:H a=some (DicO X.w a xs)) (ks:hU X.K H xs):s.heap.DictOfH (dv X.prog X.w) a xs/\(a == sysModules)=false:=by
 obtain⟨⟨o,es,ep,S⟩,_⟩:=I.hok a _ hS;exact⟨⟨o,es,ep,S.ob,S.ex,S.da,S.el,fun x hx=>bB I (ks x hx).1 (ks x hx).2,S.nd⟩,S.ns⟩
def hV (w:World) (K:DP):V->V->V->Hp->(Hp->Prop)->Prop:=fun o i v H Q=>∃ a b d xs,o=.ref a/\i=.ref b/\H a=some (DicO w a xs)/\hU K H xs/\bP d/\Rep K H d (.ref b)/\xs.length<=1000/\∀ u,RelV v u->Q (upd H a (DicO w a (storedH xs d b u)))
theorem xV {X:Cx} (hu:X.A.units+64<Fh):xh X (hV X.w X.K):=by
 intro Jn s σ H o i v ov iv u Q I ro ri rv h;obtain⟨a,b,d,xs,rfl,rfl,hS,ks,kd,rd,hl,q⟩:=h;cases ro;cases ri;obtain⟨hm,ns⟩:=uO I hS ks;have hu1:X.A.in1.units=X.A.units+1:=rfl;refine wpAny_setItem_heap (by show _+40<Fh;omega) (bB I kd rd) hm (fun h' hm' sb=>?_) (Fd (yy hl));obtain⟨o',es',ep',x1,x2,x3,x4,x5,x6⟩:=hm';exact⟨_,I.write (t':=s.toks+yo d) (x:=a) (e:=a) (by rw [hS];exact trivial) (.inl rfl) (fun b u nb e=>(sb.2 b nb).trans e) ⟨o',x1⟩ (DicO.ok ⟨x1,x2,x3,x4,x6,ns⟩),q u rv⟩
theorem kQ {X:Cx} {K:DP} {w:World} (hw:X.w=w) (hK:X.K=K) (hu:X.A.units+64<Fh):xh X (hV w K):=hw▸hK▸xV hu
def mB (w:World) (K:DP):R2:=fun x y H Q=>∃ a b d xs p v,x=.ref a/\y=.ref b/\H a=some (DicO w a xs)/\hU K H xs/\bP d/\Rep K H d (.ref b)/\atKey xs d=some p/\RelV v p.2/\Q v H
theorem Ca {X:Cx} (hu:X.A.units+64<Fh):IxR X (mB X.w X.K):=by
 intro value slice Jn s σ H x y v u Q I rx ry h hs;obtain⟨a,b,d,xs,p,z,rfl,rfl,hS,ks,kd,rd,hp,rz,q⟩:=h;cases rx;cases ry;obtain⟨hm,ns⟩:=uO I hS ks;have hu1:X.A.in1.units=X.A.units+1:=rfl;refine subscriptTail_builtinR (x:=p.2) hm.typeIs HN.lookup ?_ hs;exact wpAny_getItem_heap (by show _+40<Fh;omega) (bB I kd rd) hm hp ⟨rfl,z,H,I.tok _,rz,q⟩
theorem xW {X:Cx} {K:DP} {w:World} (hw:X.w=w) (hK:X.K=K) (hu:X.A.units+64<Fh):IxR X (mB w K):=hw▸hK▸Ca hu
noncomputable def dput (k v:PyData) (kvs:List (PyData×PyData)):List (PyData×PyData):=if k∈kvs.map (·.1) then kvs.map (fun p=>if p.1=k then (p.1,v) else p) else kvs++[(k,v)]
noncomputable def bR (k:PyData) (kvs:List (PyData×PyData)):Option PyData:=(kvs.find? fun p=>decide (p.1=k)).map (·.2)
section
variable {K:DP} {Hh:Hp}
theorem om:∀ {xs:List (PyData×DR×Value)} {kvs:List (PyData×PyData)},Paired (EntR K Hh) xs kvs->xs.length=kvs.length
 | _,_,.nil=>rfl
 | _,_,.cons _ t=>by rw [Ea,Ea,om t]
theorem az:∀ {xs:List (PyData×DR×Value)} {kvs:List (PyData×PyData)},Paired (EntR K Hh) xs kvs->hU K Hh xs
 | _,_,.nil=>fun z hz=>nomatch hz
 | _,_,.cons h t=>fun z hz=>by
  rcases D0.mp hz with rfl | hz
  ·exact⟨h.2.1,h.2.2.1⟩
  ·exact az t z hz
theorem hX (k:PyData):∀ {xs:List (PyData×DR×Value)} {kvs:List (PyData×PyData)},Paired (EntR K Hh) xs kvs->(atKey xs k=none/\bR k kvs=none/\k∉kvs.map (·.1)) \/ ∃ p d v,atKey xs k=some p/\bR k kvs=some d/\Rep K Hh d v/\RelV v p.2/\k∈kvs.map (·.1)
 | _,_,.nil=>.inl ⟨rfl,rfl,fun z=>nomatch z⟩
 | x :: xs,p :: kvs,.cons ⟨h1,h2,h3,v,h4,h5⟩ t=>by
  by_cases e:x.1=k
  ·refine .inr ⟨x.2,p.2,v,?_,?_,h4,h5,?_⟩
   ·unfold atKey;rw [Hz,Jq e];rfl
   ·unfold bR;rw [Hz,Jq (h1▸e)];rfl
   ·rw [Ek];exact D0.mpr (.inl (h1▸e).symm)
  ·have e':¬ p.1=k:=fun z=>e (h1.trans z);have a1:atKey (x :: xs) k=atKey xs k:=by unfold atKey;rw [Hz,Jr e]
   have a2:bR k (p :: kvs)=bR k kvs:=by unfold bR;rw [Hz,Jr e']
   rw [a1,a2,Ek];rcases hX k t with⟨b1,b2,b3⟩ | ⟨q,d,u,b1,b2,b3,b4,b5⟩
   ·exact .inl ⟨b1,b2,fun z=>(D0.mp z).elim (fun z=>e' z.symm) b3⟩
   ·exact .inr ⟨q,d,u,b1,b2,b3,b4,DT _ b5⟩
theorem oo (k:PyData) {d:PyData} {v:V} {u:Value} (rd:Rep K Hh d v) (rv:RelV v u):∀ {xs:List (PyData×DR×Value)} {kvs:List (PyData×PyData)},Paired (EntR K Hh) xs kvs->Paired (EntR K Hh) (xs.map (putAt k u)) (kvs.map fun p=>if p.1=k then (p.1,d) else p)
 | _,_,.nil=>.nil
 | x :: xs,p :: kvs,.cons ⟨h1,h2,h3,w,h4,h5⟩ t=>by
  rw [Ek,Ek];refine .cons ?_ (oo k rd rv t);unfold putAt;by_cases e:x.1=k
  ·rw [Jp e,Jp (h1▸e)];exact⟨h1,h2,h3,v,rd,rv⟩
  ·rw [Jo e,Jo (fun z=>e (h1.trans z))];exact⟨h1,h2,h3,w,h4,h5⟩
theorem ot {x:PyData×DR×Value} {p:PyData×PyData} (h:EntR K Hh x p):∀ {xs:List (PyData×DR×Value)} {kvs:List (PyData×PyData)},Paired (EntR K Hh) xs kvs->Paired (EntR K Hh) (xs++[x]) (kvs++[p])
 | _,_,.nil=>.cons h .nil
 | _,_,.cons h' t=>.cons h' (ot h t)
theorem xX {k d:PyData} {b:DR} {v:V} {u:Value} (kk:bP k) (rk:Rep K Hh k (.ref b)) (rd:Rep K Hh d v) (rv:RelV v u) {xs:List (PyData×DR×Value)} {kvs:List (PyData×PyData)} (t:Paired (EntR K Hh) xs kvs):Paired (EntR K Hh) (storedH xs k b u) (dput k d kvs):=by
 unfold storedH dput;rcases hX k t with⟨b1,b2,b3⟩ | ⟨q,d',v',b1,b2,b3,b4,b5⟩
 ·rw [b1,Jo (by simp),Jo b3];exact ot ⟨rfl,kk,rk,v,rd,rv⟩ t
 ·rw [b1,Jp (show (some q).isSome=true from rfl),Jp b5];exact oo k rd rv t
end
section
variable {w:World} {K:DP} {f:Fx} {Ds:List DR} {ρ:zw} {cs:List OC} {te tk:TE} {O:MEnds} {i j:Nat} {kvs:List (PyData×PyData)}
theorem Cb {P:OC->Prop} (p:P (.dic [])):uH w K f (oh w) ρ P:=fun σ H Q e q =>
 fun a hn=>q (.dic []) a _ (.of_same (yD hn _) e.fd) hn ⟨[],zR,.nil⟩ p
theorem A7 (hi:ρ[i]?=some (some (.own (f.M.length+j)))) (hc:cs[j]?=some (.dic kvs)) (hl:kvs.length<=1000)
  (h:PEd K (f.withs Ds) te ρ fun v=>PEd K (f.withs Ds) tk ρ fun k=>rX k/\O.nx ρ (cs.set j (.dic (dput k v kvs)))) :
  PSm w K f Ds (bw te (o9 (z6 i) tk (hV w K))) ρ cs O:=fun se σ H H2 E x n r b k=>by
 have hj:j<Ds.length:=by rw [<-x.len];exact (DN.mp hc).1
 have hD:Ds[j]?=some Ds[j]:=DK hj;refine h σ H _ x.env fun v vv H1 g1 r1 p1=>?_;have x1:=x.go g1 (x.env.mono g1);refine⟨_,bQ hi x1 hD,?_⟩;refine p1 σ H1 _ x1.env fun kd kv H3 g3 r3 ⟨kt,p3⟩=>?_;have x3:=x1.go g3 (x1.env.mono g3);obtain⟨b',rfl⟩:=dw kt r3;obtain⟨xs,h1,h2⟩:=x3.own j _ _ hD hc;have rv:=Rep.mono g3.sm _ _ r1;refine⟨Ds[j],b',kd,xs,rfl,rfl,h1,fun z hz=>⟨(az h2 z hz).1,Rep.mono (zt _ _) _ _ (az h2 z hz).2⟩,kt.1,Rep.mono (zt _ _) _ _ r3,by rw [om h2];exact hl,fun u ru=>?_⟩;exact n _ _ _ _ (x3.put se hD (c':=.dic (dput kd v kvs)) ⟨_,zR,xX kt.1 r3 rv ru h2⟩) p3
theorem Di {P:PyData->Prop} (hi:ρ[i]?=some (some (.own (f.M.length+j)))) (hc:cs[j]?=some (.dic kvs)) (h:PEm w K f Ds tk ρ cs fun k=>rX k/\∃ d,bR k kvs=some d/\P d):PEm w K f Ds (tOp (mB w K) (z6 i) tk) ρ cs P:=fun se σ H H2 Q x q=>by
 have hj:j<Ds.length:=by rw [<-x.len];exact (DN.mp hc).1
 have hD:Ds[j]?=some Ds[j]:=DK hj;refine⟨_,bQ hi x hD,?_⟩;refine h se σ H H2 _ x fun k v H1 g1 r1 ⟨kt,d,hd,p⟩=>?_;have x1:=x.go g1 (x.env.mono g1);obtain⟨b,rfl⟩:=dw kt r1;obtain⟨xs,h1,h2⟩:=x1.own j _ _ hD hc;rcases hX k h2 with⟨b1,b2,b3⟩ | ⟨pp,d',v',b1,b2,b3,b4,b5⟩
 ·rw [b2] at hd;cases hd
 ·rw [b2] at hd;cases hd;exact⟨Ds[j],b,k,xs,pp,v',rfl,rfl,h1,fun z hz=>⟨(az h2 z hz).1,Rep.mono (zt _ _) _ _ (az h2 z hz).2⟩,kt.1,Rep.mono (zt _ _) _ _ r1,b1,b4,q _ _ H1 g1 b3 p⟩
theorem Dj (h:PEm w K f Ds te ρ cs O.rt):PSm w K f Ds (dR te) ρ cs O:=fun se σ H H2 E x n r b k =>
 h se σ H H2 _ x fun d v H' g' r' p=>r d v ρ cs σ H' (x.go g' (x.env.mono g')) (Rep.mono jn d v r') p
end
noncomputable def xY (K:DP) (ns:List Int) (v:Value):Bool:=match v with
 | .ref t=>(match K.lookup t with
  | some o=>o.cls == .type "tuple" && (match o.data with
   | .seq its _=>KTD.intsLook its.toList ns && decide (its.size<=1000)
   | _=>false)
  | none=>false)
 | _=>false
noncomputable def r6 (K:DP) (a:DR) (D:List (Str×List Int)):Bool:=!(a == sysModules) && (match K.lookup a with
 | some o=>o.cls == .type "dict" && o.dict.isNone && o.slots.isEmpty && (match o.data with
  | .dict es _=>KTD.rowsLook (xY K) es.toList D
  | _=>false)
 | none=>false)
theorem fS:∀ {vs:List Value} {ns:List Int},IntsAre vs ns->Vals (ns.map V.int) vs
 | _,_,.nil=>.nil
 | _,_,.cons n t h=>.cons ⟨t,rfl⟩ (fS h)
theorem Cc {K:DP} {ns:List Int} {v:Value} (h:xY K ns v=true):∃ t,v=.ref t/\∀ H,SqT K H t (ns.map V.int):=by
 unfold xY at h;split at h
 ·rename_i t;split at h
  ·rename_i o ho;rw [DW] at h;obtain⟨h1,h2⟩:=h;split at h2
   ·rename_i its n hd;rw [DW] at h2;exact⟨t,rfl,fun H=>.inr ⟨o,its,n,ho,beq_iff_eq.mp h1,hd,Fd (yy (of_decide_eq_true h2.2)),fS (KTD.ints_of_look h2.1)⟩⟩
   ·cases h2
  ·cases h
 ·cases h
def Dk (K:DP) (D:List (Str×List Int)) (tk:TE):TE:=fun σ H Q=>tk σ H fun y H1=>∃ x ns,y=.str x/\IJ x D=some ns/\∀ t,(∀ H',SqT K H' t (ns.map V.int))->Q (.ref t) H1
theorem uP {X:Cx} {K:DP} {x:Str} {a:DR} {D:List (Str×List Int)} {key:Expr} {tk:TE} {p pos:Pos} (hK:X.K=K) (hg:Gl X x) (hm:X.mg x=some (.ref a)) (hT:r6 K a D=true) (hk:PE X key tk) (hs:nC key) (hd:(x == ("__debug__":Str))=false:=by decide) :
  PE X (.Subscript (.Name x p) key pos) (Dk K D tk):=by
 subst hK;intro Jn s σ H Q I h;unfold r6 at hT;rw [DW] at hT;obtain⟨h0,hT⟩:=hT;split at hT
 case h_2=>cases hT
 case h_1 o ho =>
  simp only [DW] at hT;obtain⟨⟨⟨e1,e2⟩,e3⟩,e4⟩:=hT;split at e4
  case h_2=>cases e4
  case h_1 es ep hdat =>
   have Jm:KTD.Rows (fun ns v=>xY X.K ns v=true) es.toList D:=KTD.rows_of_look (fun _ _ z=>z) e4;refine Subscript_ (gF I hg hm ?_ hd);refine thn (hk Jn s σ H _ I h) fun u s1 ⟨y,H1,I1,ry,z,ns,ey,dat,q⟩=>?_;subst ey;obtain⟨tk',rfl⟩:=ry;have ho1:s1.heap.get? a=some o:=I1.kIn a o ho;have hT1:s1.TypeIs (.ref a) "dict":=⟨o,ho1,beq_iff_eq.mp e1⟩;obtain⟨v,hv,hr⟩:=Jm.find_some dat;obtain⟨t,rfl,sq⟩:=Cc hr;refine subscriptTail_builtinR (x:=.ref t) hT1 HN.lookup ?_ (hs _ _);unfold getItem
   try with_reducible refine EF ?_
   apply DQ;refine wpAny_sequenceKey hT1 (by decide) ?_;apply DQ;refine wpAny_callSpecial?_slot (name:=Str.ofString "__getitem__") hT1 slot_dict_getitem (wpAny_call_entry slot_dict_getitem hT1 entry_dict_getitem ?_ (args_dict_getitem _ _));show Ef _ _ (dictGet a (.str z tk') >>= _) _ _ s1;apply DQ;unfold dictGet
   try with_reducible refine EF ?_
   apply DQ;apply wpAny_pyHash_str;apply DQ;refine KTD.kt_dictFind_strs (s:={ s1 with toks:=s1.toks+1 }) ho1 hdat (by obtain⟨l⟩:=es;simpa using Jm.exact) ?_;cases hi:es.findIdx? fun e=>e.key.isStr z with
   | none =>
    exfalso;have hn:es.toList.find? (fun e=>e.key.isStr z)=none:=by
     rw [HI];intro e he;have:=Array.findIdx?_eq_none_iff.mp hi e (Hs.mp he);simpa using this
    rw [hn] at hv;cases hv
   | some i =>
    obtain⟨hlt,hi1,hi2⟩:=Array.findIdx?_eq_some_iff_getElem.mp hi;have hval:es[i].val=.ref t:=by
     have hf:es.toList.find? (fun e=>e.key.isStr z)=some es[i]:=by
      rw [List.find?_eq_some_iff_getElem];refine⟨hi1,i,by simpa using hlt,by simp,fun j hj=>?_⟩;have:=hi2 j hj;simpa using this
     rw [hf] at hv;exact Option.some.inj hv
    apply DQ;refine wpAny_dictEntries (s:={ s1 with toks:=s1.toks+1 }) ho1 hdat (DY ?_);rw [HM hlt];refine DY ⟨es[i].val,rfl,DY ?_⟩;rw [hval];exact⟨rfl,.ref t,H1,I1.tok _,rfl,q t sq⟩
section
variable {K:DP} {f:Fx} {ρ:zw} {P:PyData->Prop} {tk:TE} {D:List (Str×List Int)}
theorem A8 (h:PEd K f tk ρ fun y=>∃ x ns,y=.str x/\IJ x D=some ns/\P (.tuple (ns.map .int))):PEd K f (Dk K D tk) ρ P:=fun σ H Q e q =>
 h σ H _ e fun y v H1 g1 r1 ⟨x,ns,ey,hd,p⟩=>by
  subst ey;exact⟨x,ns,dq.mp r1,hd,fun t sq=>q _ _ H1 g1 (zX.mpr ⟨t,ns.map V.int,rfl,sq _,Reps.ints' ns⟩) p⟩
end
structure MinAt (h0:Heap) (its:List Value) (ds:List PyData) (as:List DR):Prop where
 ra:ReadsAll h0 its ds as
 pl:∀ d∈ds,zE d=true
 cp:∀ d∈ds,∀ e∈ds,dh d e=true
 dp:∀ d∈ds,d.depth<=50
section
variable {w:World} {K:DP} {f:Fx} {Ds:List DR} {ρ:zw} {cs:List OC} {O:MEnds} {tt:TT} {te:TE} {i j n:Nat}
theorem r8 {H H' H2:Hp} {σ:St} (se:Sep f Ds) (x:CM w K f Ds H2 ρ cs σ H) (g:Goes f H H'):Goes (f.withs Ds) H H':=by
 have kp:∀ D∈Ds,H' D=H D:=fun D hD=>by
  obtain⟨o,ho⟩:=x.env.fd.mm D (qB hD);have h1:hide H f D=some o:=zM (fun z=>z.elim (se.nf D hD) (se.nm D hD)) ho;rw [ho,(zY (g.sm D o h1)).2]
 refine⟨fun b o hb=>?_,⟨fun p e=>?_,fun b hb=>?_,x.env.fd.nm⟩,fun b hb=>?_⟩
 ·obtain⟨n1,n2⟩:=zY hb;have h1:hide H f b=some o:=zM (fun z=>n1 (z.elim .inl fun z=>.inr (Ed _ z))) n2;exact zM n1 (zY (g.sm b o h1)).2
 ·exact g.2.fd p e
 ·rcases Ep.mp hb with h | h
  ·rw [kp b (FP.mp h)];exact x.env.fd.mm b hb
  ·exact g.2.mm b h
 ·rcases Ep.mp hb with h | h
  ·exact kp b (FP.mp h)
  ·exact g.kp b h
theorem xZ {B:Bool->Prop} (h:PTd K f tt (ρ.map (freed f.M.length cs)) B):PTm w K f Ds tt ρ cs B:=fun se σ H H2 Q x q =>
 h σ H Q (x.free se) fun b H' g p=>q b H' (r8 se x g) p
end
end L2
end
section
namespace L2
open PySem PySem.Spec PyProof.Rows
structure TM (K:DP) (f:Fx) (a:DR) (as:List DR) (H2:Hp) (ρ:zw) (Jm:List (List Int)) (σ:St) (H:Hp):Prop where
 env:EnvOk K (f.withs (a :: as)) ρ σ H
 sm:Same (hide H2 (f.withs (a :: as))) (hide H (f.withs (a :: as)))
 kp:∀ b∈f.M,H b=H2 b
 tab:TabAt H a as Jm
end L2
end
section
namespace L2
open PySem PySem.Spec PyProof.Rows
section
variable {K:DP} {f:Fx} {ρ:zw} {ts tu:TS} {O:DEnds} {te:TE} {i:Nat}
theorem ou (J:zw->Prop) (h1:PSd K f ts ρ { O with nx:=J }) (h2:∀ ρ',J ρ'->PSd K f tu ρ' O):PSd K f (aY ts tu) ρ O :=
 yc fun σ H E e n r b k=>h1 σ H E e (fun ρ' σ' H' g' e' p=>n ρ' σ' H' g' e' (h2 ρ' p)) r b k
end
section
variable {K:DP} {f:Fx} {ρ:zw} {wi:TI} {g:TG} {tt:TT} {own:Nat} {fr:List Nat} {tb:DR->TB} {P:List PyData->Prop}
theorem Cd {α:Type} {A B:α->PyData} (p:α->Bool) (xs:List α) (h:PId K f wi ρ fun ds=>ds=xs.map A/\xs.length<=1000 /\
   (∀ D x ρ' es,x∈xs->OwnE own (frD fr ρ) ρ'->es.length<1000->PGd K (f.with D) g (A x) ρ' fun ρ2=>PTd K (f.with D) tt ρ2 fun b=>b=p x/\if b=true then PBd K f D (tb D) ρ2 es fun ρ3 es3=>OwnE own (frD fr ρ) ρ3/\es3=es++[B x] else OwnE own (frD fr ρ) ρ2)/\P ((xs.filter p).map B)) :
  PEdO K f (ag wi own fr g tt tb) ρ P :=
 aw (h.imp fun ds ⟨ed,hl,hs,hp⟩=>by
  subst ed;refine⟨fun i ρ' es=>OwnE own (frD fr ρ) ρ'/\es=((xs.take i).filter p).map B,⟨⟨F8 own none,by simp,rfl⟩,by simp⟩,fun D i d ρ' es hd ⟨ho,he⟩=>?_,fun ρ' es ⟨_,he⟩=>?_⟩
  ·rw [DX] at hd;cases eq:xs[i]? with
   | none=>rw [eq] at hd;cases hd
   | some x =>
    rw [eq] at hd;cases hd;have hi:i<xs.length:=(DN.mp eq).1;have tk:xs.take (i+1)=xs.take i++[x]:=by rw [EK,eq];rfl
    have hb:es.length<1000:=by
     have:=EV p (xs.take i);rw [Et] at this;rw [he,DM];omega
    intro σ H v Q e r q;refine hs D x ρ' es (DS eq) ho hb σ H v Q e r fun ρ2 σ2 H2 g2 e2 p2=>q ρ2 σ2 H2 g2 e2 (p2.imp fun b hb2=>?_);obtain⟨eb,hb2⟩:=hb2;cases b with
    | false =>
     rw [Jo DL] at hb2 ⊢;refine⟨hb2,?_⟩;rw [tk,Fg,Eg,ET,<- eb,Jo DL,he];simp
    | true =>
     rw [Jp rfl] at hb2 ⊢;intro h1 h2 σ3 H3 H4 W c k;exact hb2 h1 h2 σ3 H3 H4 W c fun ρ5 es5 σ5 H5 c5 ⟨o5,p5⟩=>k ρ5 es5 σ5 H5 c5 ⟨o5,by rw [p5,he,tk,Fg,Eg,ET,<- eb,Jp rfl];rfl⟩
  ·rw [he,DM,Eu];exact hp)
end
end L2
end
section
namespace L2
open PySem PySem.Spec PyProof.Rows
end L2
end
section
namespace L2
open PySem PySem.Spec PyProof.Rows
end L2
end
section
namespace L2
open PySem PySem.Spec PyProof.Rows
open PySem.SeqAt
open PySem.AutoSeq1 (wpAny_loadPart')
def DF (A:Around) (s:Shared) (y x:Value) (b:Bool):Prop :=
 ∀ (prog:Program) (w:World) (E:Value->Shared->Prop) (Q:Value->Shared->Prop),Q (.bool b) s->Ef (model prog w) A (richCompare .GtE y x) Q E s
inductive Gex (A:Around) (s:Shared):List Value->List Value->Bool->Prop where
 | nn:Gex A s [] [] true
 | eq {v w vs ws b}:EqAt A s v w true->Gex A s vs ws b->Gex A s (v :: vs) (w :: ws) b
 | ge {v w vs ws b}:EqAt A s v w false->DF A s v w b->vs.length=ws.length->Gex A s (v :: vs) (w :: ws) b
noncomputable def DG (o:Obj):Option Value:=match o.data with
 | .fields vs=>vs[2]?
 | _=>none
local macro_rules | `(tactic| walk_at "kd")=>`(tactic| with_reducible first
  | assumption
  | exact kd_pure _
  | exact kd_uns _
  | exact kd_load _
  | exact kd_loadPart _ _
  | exact kd_stack
  | exact kd_alloc _
  | exact kd_reg _
  | apply kd_ite
  | apply kd_bind
  | intro _
  | split)
def Dct (a:DR) (o:Option DR) (h:Heap):Prop:=∃ u,h.get? a=some u/\DG u=some .none/\∀ dx,o=some dx->u.dict=some dx
def CXf (P:Program) (w:World):CXT:=fun outer H s E e s'=>∃ a C o H',e=.ref a/\XLie P w outer H s a C H' s'/\Dct a o s'.heap/\E C o H'
def A9 (a:DR) (C:Value) (o:Option DR) (h:Heap):Prop:=∃ t,h.get? a=some { cls:=C,dict:=o,data:=.fields #[.ref t,.none,.none,.none,.bool false,.none] }
end L2
end
section
namespace L2
open PySem PySem.Spec PyProof.Rows PySem.Builtin Builtin Builtin.ObjectAttr
noncomputable def uQ (K:DP) (C f:DR) (bmB:List Value) (newId:String):Bool :=
 match K.lookup C with
 | some ⟨c0,_,.cls cd,sl⟩=>c0 == .type "type" && cd.mro.head? == some (.ref C) && cd.hasDel == false && cd.hasDict && PySem.W.tailIn K bmB cd.mro.tail && PySem.W.nsOkIn K cd.ns && ED K cd.ns "__init__" == some (some (.ref f))
   && sl.toList.length == 6 && sl.toList[4]? == some (some (.builtin newId))
 | _=>false
structure XCls (h:Heap) (C f:DR) (bmB:List Value) (newId:String):Prop where
 ex:∃ nm q N bs bm sn sub ab col dd k0 k1 k2 k3 k5 mN,h.get? C=some (excClassObj nm q C N bs bm true sn sub ab col dd k0 k1 k2 k3 k5 newId)/\h.Ns N mN/\mN "__init__"=some (.ref f)/\OwnTail h bmB bm
end L2
end
section
namespace L2
open PySem PySem.Spec PySem.W PyProof.Rows PySem.Calls PySem.Builtin Builtin Builtin.ObjectAttr
noncomputable abbrev bare (C:DR) (o:Option DR) (t:DR):Obj:={ cls:=.ref C,dict:=o,data:=.fields #[.ref t,.none,.none,.none,.bool false,.none] }
noncomputable abbrev bmV:List Value:=[.type "ValueError",.type "Exception",.type "BaseException",.type "object"]
structure FldC (K:DP) (C f D:DR) (name:Str):Prop where
 wi:uQ K C f bmV "ValueError.__new__"=true
 fn:PySem.W.typeIn K (.ref f)=some (.type "function")
 ob:PySem.W.mroIn K C (.type "object")=some true
 sa:F7 K (.ref C) "__setattr__"=some (some (.builtin "object.__setattr__"))
 na:F7 K (.ref C) name=some none
 rd:PySem.W.readsIn K D (.type "type")=true
 sp:HR K (.ref D) "__getattribute__"=some (some (.builtin "type.__getattribute__"))
 kp:EZ K (.ref C)=true
 fi:PySem.W.findCls K (.ref D) (.type "type") "__init__"=some (.val (.builtin "ValueError.__init__"))
section
variable {X:Cx} {Jn:List (DR×Obj)} {σ:St} {H H':Hp} {s s':Shared} {h':Heap} {a b dx C D f:DR} {o:HO} {t':Nat} {name:Str}
def Ce (C:DR) (name:Str):Sp:=fun vs H Q _=>∃ a y,vs=[.ref a,y]/\H a=some (.ext (A9 a (.ref C) none))/\∀ dx,H dx=none->dx≠a->Q .non (upd (upd H dx (.xd [(name,y)])) a (.ext (A9 a (.ref C) (some dx))))
end
end L2
end
section
namespace L2
open PySem PySem.Spec PyProof.Rows
end L2
end
section
namespace L2
open PySem PySem.Spec PySem.W PyProof.Rows PySem.Calls PySem.Builtin Builtin Builtin.ObjectAttr Builtin.Getset_descriptor
abbrev XD:=Option (Str×PyData)
structure FnInF (P:Program) (w:World) (K:DP) (mg:Str->Option Value) (base:Heap) (k:Nat) (x:Str) (ps:List Str) (sp:Sp):Prop where
 ex:∃ (f:DR) (fd:FuncData),FnOk P w K mg base (CXf P w) k f fd ps sp/\mg x=some (.ref f)/\EZ K (.ref f)=true/\Binds K fd ps []
structure FCls (K:DP) (mg:Str->Option Value) (x base:Str) (C:DR) (name:Str) (st:Stmt) (ps:List Str):Prop where
 ex:∃ (f D:DR) (fd:FuncData),FldC K C f D name/\mg x=some (.ref C)/\mg base=some (.ref D)/\Fun K "__init__" (x ++ ".__init__") st f fd/\Binds K fd ps []
structure InitOk (P:Program) (w:World) (K:DP) (mg:Str->Option Value) (base:Heap) (k:Nat) (C:DR) (name:Str):Prop where
 ex:∃ (f D:DR) (fd:FuncData) (ps:List Str),FldC K C f D name/\FnOk P w K mg base CX0 k f fd ps (Ce C name)/\Binds K fd ps []
theorem Ba {K:DP} {f:Fx} {ρ:zw} {D:DEnds} {tt:TT} {ts tu:TS} (p:Prop) [Decidable p] (h:PTd K f tt ρ fun b=>b=decide p) (h1:p->PSd K f ts ρ D) (h2:¬ p->PSd K f tu ρ D):PSd K f (lU tt ts tu) ρ D:=aZ fun σ H Q e q=>h σ H Q e fun b H' g z=>q b H' g (by
 subst z;by_cases hp:p
 ·rw [Jq hp,Jp rfl];exact h1 hp
 ·rw [Jr hp,Jo DL];exact h2 hp)
structure RoomM (k:Nat) (A:Around):Prop where
 dp:A.depth+3 * k+5<recursionLimit
 un:A.units+16 * k+200<Fh
structure FnOkM (P:Program) (w:World) (K:DP) (mg:Str->Option Value) (base:Heap) (k:Nat) (f:DR) (fd:FuncData) (ps:List Str) (sp:DR->Sp):Prop where
 len:∀ a vs H Q E,sp a vs H Q E->vs.length=ps.length
 run:∀ (A:Around) (outer:List Env) (s:Shared) (H:Hp) (args:Args) (us:List Value) (vs:List V) (Q:VK) (a:DR),A.handled=some (.ref a)->RoomM k A->Env0 P w K mg base A outer s H->BindsTo s fd args (ps.zip us)->Vals vs us->sp a vs H Q E0 ->
  codeAny (model P w) A (.call (.ref f) args) (CR CX0 outer P w H s Q E0) s
structure FnInM (P:Program) (w:World) (K:DP) (mg:Str->Option Value) (base:Heap) (k:Nat) (x:Str) (ps:List Str) (sp:DR->Sp):Prop where
 ex:∃ (f:DR) (fd:FuncData),FnOkM P w K mg base k f fd ps sp/\mg x=some (.ref f)/\EZ K (.ref f)=true/\Binds K fd ps []
noncomputable def Dl:PyData->Option Bool
 | .none=>some true
 | .int _=>some false
 | .bool _=>some false
 | .str _=>some false
 | .tuple _=>some false
 | .list _=>some false
 | _=>none
theorem uR {K:DP} {H:Hp} {d:PyData} {v:V} {b:Bool} (r:Rep K H d v) (h:Dl d=some b):decide (v=.non)=b:=by
 cases d with
 | none=>cases h;rw [vo.mp r];rfl
 | int i=>cases h;rw [zx.mp r];rfl
 | bool i=>cases h;rw [zZ.mp r];rfl
 | str i=>cases h;rw [dq.mp r];rfl
 | tuple ds=>cases h;obtain⟨a,xs,rfl,_⟩:=zX.mp r;rfl
 | list ds=>cases h;obtain⟨a,xs,rfl,_⟩:=zO.mp r;rfl
 | _=>cases h
section
variable {K:DP} {f:Fx} {ρ:zw} {P:PyData->Prop} {ta:TE}
theorem uS (h:PEd K f ta ρ fun d=>∃ b,Dl d=some b/\P (.bool (!b))):PEd K f (tOp (fun x y H Q=>y=.non/\Q (.bl (!decide (x=.non))) H) ta (tC .non)) ρ P:=fun σ H Q e q =>
 h σ H _ e fun d v H1 g1 r1 ⟨b,hb,p⟩=>⟨rfl,q _ _ H1 g1 (zZ.mpr (by rw [uR r1 hb])) p⟩
end
structure TN (K:DP) (f:Fx) (a:DR) (as:List DR) (H2:Hp) (ρ:zw) (R:Option (List (List Int))) (σ:St) (H:Hp):Prop where
 env:EnvOk K (f.withs (a :: as)) ρ σ H
 sm:Same (hide H2 (f.withs (a :: as))) (hide H (f.withs (a :: as)))
 kp:∀ b∈f.M,H b=H2 b
 tab:∀ Jm,R=some Jm->TabAt H a as Jm
end L2
end
section
namespace L2
open PySem PySem.Spec PyProof.Rows
structure GoesW (f:Fx) (As:List DR) (H2 H':Hp):Prop where
 sm:Same (hide H2 (f.withs As)) (hide H' f)
 ok:FOk f H'
 kp:∀ b∈f.M,H' b=H2 b
structure FnAt (P:Program) (w:World) (K:DP) (mg:Str->Option Value) (base:Heap) (CX:CXT) (k:Nat) (a:DR) (sp:Sp):Prop where
 ex:∃ (fd:FuncData) (ps:List Str),FnOk P w K mg base CX k a fd ps sp/\EZ K (.ref a)=true/\Binds K fd ps []
end L2
end
section
namespace L2
open PySem PySem.Spec PyProof.Rows
end L2
end
section
namespace L2
open PySem PySem.Spec PyProof.Rows
structure Src (prog:Program) (w:World) (j:DR) (xs:Array Value) (dep:List DR) (St:Nat->Heap->Prop):Prop where
 own:j∈dep
 keep:∀ {k:Nat} {h h':Heap},St k h->(∀ c∈dep,∀ o,h.get? c=some o->h'.get? c=some o)->St k h'
 there:∀ {k:Nat} {h:Heap},St k h->∃ o,h.get? j=some o
 item:∀ {A:Around} {E:Value->Shared->Prop} {s:Shared} {k:Nat} {x:Value} {Q:Value->Shared->Prop},St k s.heap->xs[k]?=some x->(∀ h',St (k+1) h'->Gg j s.heap h'->Q x { s with heap:=h' })->Ef (model prog w) A (HP (.ref j)) Q E s
 stop:∀ {A:Around} {E:Value->Shared->Prop} {s:Shared} {k:Nat} {Q:Value->Shared->Prop},A.handled=none->St k s.heap->xs[k]?=none->(∀ h' e,Heap.ExtBut j s.heap h'->(∃ o,h'.get? e=some o/\o.cls=.type "StopIteration")->E (.ref e) { s with heap:=h' })->Ef (model prog w) A (HP (.ref j)) Q E s
section
variable {prog:Program} {w:World} {A:Around} {E:Value->Shared->Prop} {s:Shared}
structure Far (z q1 q2 j1 j2:DR) (e1 e2:List DR):Prop where
 q1z:q1≠z
 q2z:q2≠z
 q12:q1≠q2
 j12:j1≠j2
 q1j1:q1≠j1
 q1j2:q1≠j2
 z1:z∉e1
 z2:z∉e2
 o1:q2∉e1
 o2:q2∉e2
 d12:j2∉e1
 d21:j1∉e2
end
end L2
end
section
namespace L2
open PySem PySem.Spec PyProof.Rows
end L2
end
section
namespace L2
open PySem PySem.Spec PyProof.Rows
section
variable {K:DP} {f:Fx} {ρ:zw} {R:List DV->Prop} {i j m n:Nat} {d0 d1 d2 d3:PyData}
theorem cD (h0:ρ[i]?=some (some (.dat d0))) (h:R [.dat d0]):PAd K f (zT (z6 i) jT) ρ R:=zP (zC h0 (jb h))
theorem Cf (h0:ρ[i]?=some (some (.dat d0))) (h1:ρ[j]?=some (some (.dat d1))) (h:R [.dat d0,.dat d1]):PAd K f (zT (z6 i) (zT (z6 j) jT)) ρ R:=zP (zC h0 (cD h1 h))
theorem Cg (h0:ρ[i]?=some (some (.dat d0))) (h1:ρ[j]?=some (some (.dat d1))) (h2:ρ[m]?=some (some (.dat d2))) (h:R [.dat d0,.dat d1,.dat d2]):PAd K f (zT (z6 i) (zT (z6 j) (zT (z6 m) jT))) ρ R:=zP (zC h0 (Cf h1 h2 h))
theorem DH (h0:ρ[i]?=some (some (.dat d0))) (h1:ρ[j]?=some (some (.dat d1))) (h2:ρ[m]?=some (some (.dat d2))) (h3:ρ[n]?=some (some (.dat d3))) (h:R [.dat d0,.dat d1,.dat d2,.dat d3]):PAd K f (zT (z6 i) (zT (z6 j) (zT (z6 m) (zT (z6 n) jT)))) ρ R:=zP (zC h0 (Cg h1 h2 h3 h))
end
section
variable {w:World} {K:DP} {f:Fx} {Ds:List DR} {ρ:zw} {cs:List OC} {ts tu:TS} {tt:TT} {te:TE} {R:List PyData->Prop} {i j:Nat}
theorem x9 {γ:Type} {n:Nat} {pre:γ->List DV->Prop} {post:γ->List PyData->Prop} {E:XK} {t:TA} (h:PAd K f t ρ fun xs=>∃ c,xs.length=n/\pre c xs/\∀ es,post c es->R es):PEdO K f (j7 (spN K n pre post) [] E t) ρ R:=fun σ H Q e q =>
 h σ H _ e fun xs vs H1 g1 r1 ⟨c,hl,hp,k⟩=>⟨f,xs,c,by rw [ER];exact r1,hl,g1.2,hp,fun es D us H2 g2 hn h1 rs p=>q es D us H2 (g1.trans g2) (g1.free e.fd hn) h1 rs (k es p)⟩
end
theorem bS {α β:Type} {F:α->β} {l:List β} {m:List α} (h:l.Perm (m.map F)):∃ m':List α,m'.Perm m/\l=m'.map F:=by
 generalize e:m.map F=k at h
 induction h generalizing m with
 | nil=>exact⟨m,.refl _,e.symm⟩
 | cons x _ ih =>
  cases m with
  | nil=>cases e
  | cons a m =>
   injection e with e1 e2;obtain⟨m',p,r⟩:=ih e2;exact⟨a :: m',p.cons a,by rw [Ek,e1,r]⟩
 | swap x y l =>
  cases m with
  | nil=>cases e
  | cons a m =>
   cases m with
   | nil=>injection e with _ e;cases e
   | cons b m =>
    injection e with e1 e2;injection e2 with e2 e3;exact⟨b :: a :: m,.swap a b m,by rw [Ek,Ek,e1,e2,e3]⟩
 | trans _ _ ih1 ih2 =>
  obtain⟨m',p,r⟩:=ih2 e;obtain⟨m'',p',r'⟩:=ih1 r.symm;exact⟨m'',p'.trans p,r'⟩
abbrev FD (K:DP) (x:Str) (st:Stmt) (f:DR) (od an:Option DR) (sl:Array (Option Value)) (oc kV dc pm cd ct:Value):Prop:=ED K El x=some (some (.ref f))/\K.lookup f=some ⟨oc,od,.func (Ff x x (jy st) (yM st) (zi st) .none kV dc pm an cd ct),sl⟩/\Gw K cd x=true/\EZ K (.ref f)=true
theorem Aa {K:DP} {h:Heap} {mg:Str->Option Value} {x:Str} {st:Stmt} {f:DR} {od an:Option DR} {sl:Array (Option Value)} {oc kV dc pm cd ct:Value} (X:K.In h) (G:h.Ns El mg) (a:FD K x st f od an sl oc kV dc pm cd ct) {ps:List Str}
  (hb:∀ (kV doc pm:Value) (an:Option DR) (cdv ct:Value) (us:List Value),us.length=ps.length->bindArgs (Ff x x (jy st) (yM st) (zi st) .none kV doc pm an cdv ct) ⟨us,[]⟩=pure (ps.zip us)):Def K mg x st ps :=
 ⟨f,_,l4 a.2.1 a.2.2.1 a.2.2.2,(l4 (st:=st) a.2.1 a.2.2.1 a.2.2.2).binds hb,FN X G a.1⟩
section
variable {w:World} {K:DP} {f:Fx} {Ds:List DR} {ρ:zw} {cs:List OC} {O:MEnds} {i:Nat}
theorem Dm {v k:Int} (hi:ρ[i]?=some (some (.dat (.int v)))):PTd K f (cP (tOp (fm K false) (z6 i) (tC (.int k)))) ρ fun b=>b=decide (v=k) :=
 jL (d6 (zC hi (qD ⟨rfl,rfl,by show min 0 0<=60;decide,_,rfl,rfl⟩)))
end
end L2
end
section
namespace L2
open PySem PySem.Spec PyProof.Rows
noncomputable def vf:Nat:=2 ^ 9000
theorem vK {n m:Nat} (h:n<2 ^ m) (hm:m<=9000):n<vf:=Eh h (Ho (by decide) hm)
theorem fU {k:Int} (h:k.natAbs<vf):GQ k<=9000:=by
 unfold GQ;split
 ·exact EE _
 ·have:k.natAbs.log2<9000:=by
   rcases Nat.eq_zero_or_pos k.natAbs with h0 | hp
   ·rw [h0];decide
   ·exact (Jh (GF hp)).mpr h
  omega
def CMulH (i j:Int):Prop:=i.natAbs<vf/\j.natAbs<vf
theorem CMulH.ok {i j:Int} (h:CMulH i j):IntMulOk i j:=by
 have e1:=fU h.1;have e2:=fU h.2;have:IB ((GQ i:Int)+(GQ j:Int))=false:=by
  unfold IB;refine Jr ?_;have:(100000:Int)<=(bitsLine:Int):=by decide +kernel
  omega
 unfold IntMulOk;rw [this,E1];exact DL
theorem ym {X:Cx}:OpR X (binaryOp .Mult) (rI CMulH fun i j=>.int (i * j)):=opI fun _ _ _ _ _ _ _ hc q=>mul_int q hc.ok
def Bb (_ j:Int):Prop:=j≠0/\j.natAbs<vf
theorem bT {X:Cx}:OpR X (binaryOp .FloorDiv) (rI Bb fun i j=>.int (i.fdiv j)):=opI fun i j _ _ _ _ _ hc q=>by
 obtain⟨h1,h2⟩:=hc;refine floordiv_int h1 q (.inl (HV ?_));exact (Jh (by omega)).mpr h2
noncomputable def Ci (q:Rat):PyData:=.tuple [.int q.num,.int (q.den:Nat)]
theorem eM {g t:Int} (h:g≠0):(g * t).fdiv g=t:=by
 rw [Int.mul_fdiv_cancel_left _ h]
theorem r9 {t b:Int} (hb:b≠0):(t.fdiv (b.sign * (E9 t b:Int))=(HL t b).num)/\(b.fdiv (b.sign * (E9 t b:Int))=((HL t b).den:Int)):=by
 have gp:0<E9 t b:=HA t hb;have g0:((E9 t b:Nat):Int)≠0:=by omega
 obtain⟨u,hu⟩:=Int.gcd_dvd_left t b;obtain⟨v,hv⟩:=Int.gcd_dvd_right t b;have ss:b.sign * b.sign=1:=by
  rcases Fb b 0 with h | h | h
  ·rw [Fl h];rfl
  ·exact absurd h hb
  ·rw [FK h];rfl
 have s0:b.sign * ((E9 t b:Nat):Int)≠0:=Int.mul_ne_zero (fun z=>by rw [z] at ss;cases ss) g0;refine⟨?_,?_⟩
 ·rw [Rat.num_divInt,Int.gcd_comm b t];have e1:t=b.sign * ((E9 t b:Nat):Int) * (b.sign * u):=by
   rw [show b.sign * ((E9 t b:Nat):Int) * (b.sign * u)=(b.sign * b.sign) * (((E9 t b:Nat):Int) * u) by grind,ss,Ji,<- hu]
  have e2:b.sign * t=((E9 t b:Nat):Int) * (b.sign * u):=by rw [show ((E9 t b:Nat):Int) * (b.sign * u)=b.sign * (((E9 t b:Nat):Int) * u) by grind,<- hu]
  rw [e2,GX _ g0];generalize hG:b.sign * ((E9 t b:Nat):Int)=G at *;rw [e1];exact eM s0
 ·rw [IK,Jo hb,Int.gcd_comm b t];have e1:b=b.sign * ((E9 t b:Nat):Int) * (b.sign * v):=by
   rw [show b.sign * ((E9 t b:Nat):Int) * (b.sign * v)=(b.sign * b.sign) * (((E9 t b:Nat):Int) * v) by grind,ss,Ji,<- hv]
  have e3:(b.natAbs:Int)=((E9 t b:Nat):Int) * (b.sign * v):=by
   rw [show ((E9 t b:Nat):Int) * (b.sign * v)=b.sign * (((E9 t b:Nat):Int) * v) by grind,<- hv];rcases Fb b 0 with h | h | h
   ·rw [Fl h];omega
   ·exact absurd h hb
   ·rw [FK h];omega
  rw [Int.natCast_ediv,e3,GX _ g0];have key:∀ G X:Int,G≠0->b=G * X->b.fdiv G=X:=fun G X h e=>by rw [e];exact eM h
  exact key _ _ s0 e1
theorem mC (t b:Int):(HL t b).num.natAbs<=t.natAbs:=by
 rw [Rat.num_divInt];refine Em (Int.natAbs_ediv_le_natAbs _ _) ?_;rw [Gz];refine Em (Nat.mul_le_mul_right _ (show b.sign.natAbs<=1 from ?_)) (by rw [Nat.one_mul];exact DU _);rcases Fb b 0 with h | h | h
 ·rw [Fl h];decide
 ·rw [h];decide
 ·rw [FK h];decide
theorem mD {t b:Int} (h:b≠0):(HL t b).den<=b.natAbs:=by
 rw [IK,Jo h];exact Nat.div_le_self _ _
section
variable {K:DP} {f:Fx} {ρ:zw} {R:zw->Prop} {P:PyData->Prop} {i j m:Nat}
theorem DI {a b:PyData} (h:R ((ρ.set i (some (.dat a))).set j (some (.dat b)))):PGd K f (tK K 2 (dS (jS i) (dS (jS j) xi))) (.tuple [a,b]) ρ R:=jr rfl (zz (zp (zz (zp (yu h)))))
theorem Dp {a b c:PyData} (h:R (((ρ.set i (some (.dat a))).set j (some (.dat b))).set m (some (.dat c)))):PGd K f (tK K 3 (dS (jS i) (dS (jS j) (dS (jS m) xi)))) (.tuple [a,b,c]) ρ R:=jr rfl (zz (zp (zz (zp (zz (zp (yu h)))))))
theorem Ab {C:Int->Int->Prop} {g:Int->Int->Int} {a b:Int} (hi:ρ[i]?=some (some (.dat (.int a)))) (hj:ρ[j]?=some (some (.dat (.int b)))) (c:C a b) (p:P (.int (g a b))):PEd K f (tOp (rI C fun i j=>.int (g i j)) (z6 i) (z6 j)) ρ P:=jm (zC hi ⟨_,rfl,zC hj ⟨_,rfl,c,p⟩⟩)
end
end L2
end
section
open PySem PySem.Spec PyProof.Rows
namespace L2
end L2
end
section
namespace L2
open PySem PySem.Spec PyProof.Rows
end L2
end
section
namespace L2
open PySem PySem.Spec PyProof.Rows
end L2
end
section
namespace L2
open PySem PySem.Spec PyProof.Rows
structure TQ (K:DP) (f:Fx) (a:DR) (as:List DR) (H2:Hp) (ρ:zw) (Jm:List (List PyData)) (σ:St) (H:Hp):Prop where
 env:EnvOk K (f.withs (a :: as)) ρ σ H
 sm:Same (hide H2 (f.withs (a :: as))) (hide H (f.withs (a :: as)))
 kp:∀ b∈f.M,H b=H2 b
 top:H a=some (.lst (as.map .ref))
 nd:(a :: as).Nodup
 len:as.length=Jm.length
 row:∀ (i:Nat) x r,as[i]?=some x->Jm[i]?=some r->∃ vs,H x=some (.lst vs)/\Reps K (hide H (f.withs (a :: as))) r vs
end L2
end
section
namespace L2
open PySem PySem.Spec PyProof.Rows
inductive PEs (X:Cx):List (Expr×Expr)->List (TE×TE)->Prop where
 | nil:PEs X [] []
 | cons {k v:Expr} {tk tv:TE} {es:List (Expr×Expr)} {ts:List (TE×TE)}:PE X k tk->PE X v tv->PEs X es ts->PEs X ((k,v) :: es) ((tk,tv) :: ts)
inductive RelPs:List (V×V)->List (Value×Value)->Prop where
 | nil:RelPs [] []
 | cons {k v:V} {a b:Value} {l:List (V×V)} {us:List (Value×Value)}:RelV k a->RelV v b->RelPs l us->RelPs ((k,v) :: l) ((a,b) :: us)
inductive RepP (K:DP) (Hh:Hp):List (PyData×PyData)->List (V×V)->Prop where
 | nil:RepP K Hh [] []
 | cons {k v:PyData} {a b:V} {l:List (PyData×PyData)} {us:List (V×V)}:Rep K Hh k a->Rep K Hh v b->RepP K Hh l us->RepP K Hh ((k,v) :: l) ((a,b) :: us)
end L2
end
section
set_option maxHeartbeats 400000
namespace L2
open PySem PySem.Spec PyProof.Rows
structure PEw (X:Cx) (e:Expr) (t:TE):Prop where
 pe:PE X e t
structure PEsW (X:Cx) (es:List (Expr×Expr)) (ts:List (TE×TE)):Prop where
 pes:PEs X es ts
structure CSo (w:World) (K:DP) (f:Fx) (D:DR) (H2:Hp) (ρ':zw) (kvs:List (PyData×PyData)) (σ:St) (H:Hp):Prop where
 env:EnvOk K (f.with D) ρ' σ H
 sm:Same (hide H2 (f.with D)) (hide H (f.with D))
 kp:∀ b∈f.M,H b=H2 b
 own:OwnAt w K (hide H (f.with D)) H D (.dic kvs)
end L2
end
section
namespace L2
open PySem PySem.Spec PyProof.Rows PySem.SetTable
end L2
end
section
namespace L2
open PySem PySem.Spec PyProof.Rows PySem.SetTable
noncomputable def byT (w:World):Bool:=w.params.followText "set-order"
structure ISet (w:World) (h:Heap) (a:DR) (xs:List (Int×Tok)) (o:Obj) (es:Array (Int×Value)) (ep:Nat) (t:SetTable):Prop where
 ob:h.get? a=some o
 ex:o.ExactSet
 da:o.data=.set es ep t
 el:es.toList=xs.map fun x=>(hashInt x.1,Value.int x.1 x.2)
 ok:ST.TOk t (xs.map fun x=>hashInt x.1)
 pl:t.plain=true
 ld:byT w=true \/ t.led=true
end L2
end
section
namespace L2
open PySem PySem.Spec PyProof.Rows PySem.SetTable
end L2
end
section
namespace L2
open PySem PySem.Spec PyProof.Rows PySem.SetTable PySem.W
end L2
end
section
namespace L2
open PySem PySem.Spec PyProof.Rows
end L2
end
section
namespace L2
open PySem PySem.Spec PyProof.Rows
structure TV (K:DP) (f:Fx) (H0:Hp) (a:DR) (as:List DR) (ρ:zw) (Jm:List (List Int)) (σ:St) (H:Hp):Prop where
 env:EnvOk K (f.withs (a :: as)) ρ σ H
 go:Goes f H0 H
 na:H0 a=none
 nas:∀ x∈as,H0 x=none
 tab:TabAt H a as Jm
end L2
end
section
namespace L2
open PySem PySem.Spec PyProof.Rows
end L2
end
section
namespace L2
open PySem PySem.Spec PyProof.Rows
def Reads (P:Program) (w:World) (env:Env) (h:Heap) (e:Expr) (R:Value->Prop):Prop :=
 ∀ (A:Around) (s:Shared) (Q:Value->Shared->Prop) (E:Value->Shared->Prop),s.heap=h->(∀ v tk,R v->Q v { s with toks:=tk })->Ef (model P w) A (eval e env) Q E s
end L2
end
section
namespace L2
open PySem PySem.Spec PyProof.Rows
theorem eN {β:Type}:∀ {l:List (Nat×β)} {x:Nat} {y:β},l.lookup x=some y->(x,y)∈l
 | [],_,_,h=>by cases h
 | (a,b) :: r,x,y,h=>by
  rw [EI] at h;cases e:x == a with
  | true=>rw [e] at h;cases h;rw [beq_iff_eq.mp e];exact DZ
  | false=>rw [e] at h;exact DT _ (eN h)
noncomputable def bU (K:DP) (ts:List (DR×Str)):Bool :=
 ts.all (fun p=>(K.lookup p.1).isNone && K.any fun c=>GC K c.1 p.1) && K.all fun x=>match x.2.data with
  | .fields vs=>(match (vs[1]?:Option Value),(vs[11]?:Option Value) with
   | some (.str q _),some (.ref P)=>!gE.contains q || decide (ts.lookup P=some (Bl q))
   | _,_=>true)
  | _=>true
theorem Cj {K:DP} {h:Heap} (X:K.In h) {ts:List (DR×Str)} (hB:bU K ts=true) {c P:DR} {q:Str} (hq:q∈gE) (h1:GC K c P=true) (h2:Gw K (.ref c) q=true):ts.lookup P=some (Bl q):=by
 unfold bU at hB;rw [DW] at hB;obtain⟨c2,oc,us,tq,z1,z2,z3,z4⟩:=PySem.W.codeRec_of X h2;cases z1;unfold GC at h1;split at h1
 ·rename_i vs _ hk;have hm:=Ga.mp hB.2 _ (eN hk);dsimp only at hm;have z5:=X _ _ hk;rw [z2] at z5;cases z5;cases z3;have e11:(us[11]?:Option Value)=some (.ref P):=by
   simp only [DW] at h1;obtain⟨⟨⟨⟨⟨e1,_⟩,_⟩,_⟩,_⟩,_⟩:=h1;split at e1
   ·rename_i P' h11;rw [h11,beq_iff_eq.mp e1]
   ·cases e1
  rw [z4,e11] at hm;simp only [Bool.or_eq_true,Bool.not_eq_true'] at hm;rcases hm with z | z
  ·have:=List.contains_iff_mem.mpr hq;rw [this] at z;cases z
  ·exact of_decide_eq_true z
 ·cases h1
noncomputable def fV (ts:List (DR×Str)) (tr:Bool) (a:DR) (o:Obj) (xs:List V):Hp:=fun b=>match ts.lookup b with
 | some q=>some (.tbl q)
 | none=>if tr=true/\b=a then some (.frz o (.lst xs)) else none
theorem sd {ts:List (DR×Str)} {tr:Bool} {a b:DR} {o:Obj} {xs:List V} {q:Str} (h:ts.lookup b=some q):fV ts tr a o xs b=some (.tbl q):=by unfold fV;rw [h]
theorem uT {ts:List (DR×Str)} {tr:Bool} {a b:DR} {o:Obj} {xs:List V} {u:HO} (h:fV ts tr a o xs b=some u):(∃ q,ts.lookup b=some q/\u=.tbl q) \/ (tr=true/\b=a/\u=.frz o (.lst xs)):=by
 unfold fV at h;cases e:ts.lookup b with
 | some q=>rw [e] at h;cases h;exact .inl ⟨q,rfl,rfl⟩
 | none =>
  rw [e] at h;dsimp only at h;split at h
  ·rename_i z;cases h;exact .inr ⟨z.1,z.2,rfl⟩
  ·cases h
theorem sj {P:Program} {w:World} {K:DP} {mg mb:Str->Option Value} {CX:CXT} {k:Nat} {fa a:DR} {fd:FuncData} {x:Str} {sp:Sp} {s₁:Shared} {vs:List Value} {ns:List Int} {ts:List (DR×Str)}
  (hB:bU K ts=true) (hts:∀ p∈ts,s₁.heap.get? p.1=some (G0 #[])) (hbm:∃ b o,mg "__builtins__"=some (.ref b)/\b≠builtinsNs/\s₁.heap.get? b=some o/\o.cls=.type "module"/\o.dict=some builtinsNs/\o.data=.plain)
  (KX:K.In s₁.heap) (hns:s₁.heap.Ns El mg) (hb:s₁.heap.Ns builtinsNs mb) (hbb:∀ x:Str,x ≠ "__name__"->mb x=bootBuiltins x) (hlim:s₁.heap.NoLimit) (hg:s₁.gens=#[])
  (ha:s₁.heap.get? a=some { cls:=.type "list",data:=.seq vs.toArray }) (hi:IntsAre vs ns) (hl:ns.length<=Ex) (hr:Room k callerA)
  (F:∀ base:Heap,K.In base->base.Ns El mg->FnOk P w K mg base CX k fa fd [x] sp) (hbind:∀ (s:Shared) (u:Value),BindsTo s fd ⟨[u],[]⟩ [(x,u)])
  (hsp:∀ H:Hp,SqL K H a (ns.map V.int)->sp [.ref a] H (fun v _=>v=.bl true) fun _ _ _=>False)
  (hCX:∀ H e s',CX [] H s₁ (fun _ _ _=>False) e s'->False) :
  codeAny (model P w) callerA (.call (.ref fa) ⟨[.ref a],[]⟩) (fun r s'=>r=.ok (.ret (.bool true))/\OldK s₁.heap s'.heap/\s'.os=s₁.os/\AllBare s'.gens) s₁:=by
 have rv:=fJ hi;have lenV:=hi.length;have hB1:∀ p∈ts,K.lookup p.1=none/\∃ c,GC K c p.1=true:=fun p hp=>by
  have h1:=Ga.mp (DW _ _▸hB).1 p hp;rw [DW] at h1;obtain⟨c,_,hc⟩:=List.any_eq_true.mp h1.2;exact⟨GJ.mp h1.1,c.1,hc⟩
 obtain⟨tr,htr⟩:∃ tr:Bool,tr=(K.lookup a).isNone:=⟨_,rfl⟩;generalize hH:fV ts tr a { cls:=.type "list",data:=.seq vs.toArray } (ns.map V.int)=H;have ofH:∀ {b u},H b=some u->(∃ q,(b,q)∈ts/\u=.tbl q/\s₁.heap.get? b=some (G0 #[])) \/ (tr=true/\b=a/\u=.frz { cls:=.type "list",data:=.seq vs.toArray } (.lst (ns.map V.int))):=fun {b u} e=>by
  rw [<-hH] at e;rcases uT e with⟨q,e1,e2⟩ | z
  ·exact .inl ⟨q,eN e1,e2,hts _ (eN e1)⟩
  ·exact .inr z
 have ataT:ts.lookup a=none:=by
  cases e:ts.lookup a with
  | none=>rfl
  | some q=>have:=hts _ (eN e);rw [ha] at this;cases this
 have hok:HOk P w H s₁.heap:=fun b u e=>by
  rcases ofH e with⟨q,e1,rfl,e3⟩ | ⟨e1,rfl,rfl⟩
  ·exact⟨#[],e3,trivial,fun pos cv z=>by cases z⟩
  ·exact⟨ha,by rw [DM];exact hl,vs,_,rv,ha⟩
 have free:∀ {b:DR} {o:Obj},s₁.heap.get? b=some o->(∀ vs,o.data≠.fields vs)->(∀ vs n,o.data≠.seq vs n)->H b=none:=fun {b o} e d1 d2=>by
  cases q:H b with
  | none=>rfl
  | some u =>
   rcases ofH q with⟨_,_,_,e3⟩ | ⟨_,rfl,_⟩
   ·rw [e] at e3;cases e3;exact absurd rfl (d1 _)
   ·rw [ha] at e;cases e;exact absurd rfl (d2 _ _)
 have nsK:∀ {b:DR} {m:Str->Option Value},s₁.heap.Ns b m->(iT s₁.heap H).Ns b m:=fun {b m} ⟨o,es,ep,e,d,r⟩=>⟨o,es,ep,dO e (free e (fun _ z=>by rw [d] at z;cases z) fun _ _ z=>by rw [d] at z;cases z),d,r⟩;have hKb:K.In (iT s₁.heap H):=fun b o e=>dO (KX b o e) (by
  cases q:H b with
  | none=>rfl
  | some u =>
   rcases ofH q with⟨_,e1,_,_⟩ | ⟨e1,rfl,_⟩
   ·rw [(hB1 _ e1).1] at e;cases e
   ·rw [htr,GJ] at e1;rw [e1] at e;cases e)
 have hM:Mod K mg (iT s₁.heap H):=⟨hKb,nsK hns,⟨mb,nsK hb,hbb⟩,let⟨mc,h1,h2⟩:=hlim;⟨mc,nsK h1,h2⟩,by
  obtain⟨b,o,h1,h2,h3,h4,h5,h6⟩:=hbm;exact⟨b,o,h1,h2,dO h3 (free h3 (fun _ z=>by rw [h6] at z;cases z) fun _ _ z=>by rw [h6] at z;cases z),h4,h5,h6⟩⟩
 have tabs:TabsOk K H:=fun c P q hq h1 h2=>by rw [<-hH];exact sd (Cj KX hB hq h1 h2)
 have e0:Env0 P w K mg (iT s₁.heap H) callerA [] s₁ H:=⟨rfl,hM,fun b o e=>xc e,GG (o8 _ _),trivial,(fun b z=>by cases z),tabs,hok,.of_eq hg⟩;have hS:SqL K H a (ns.map V.int):=by
  cases hk:K.lookup a with
  | some o =>
   have e:=KX a o hk;rw [ha] at e;cases e;exact .inr ⟨_,vs.toArray,_,hk,rfl,rfl,rfl,by rw [D9,lenV];exact hl,by simpa using rv⟩
  | none =>
   refine .inl (.inr ⟨{ cls:=.type "list",data:=.seq vs.toArray },?_⟩);rw [<-hH];unfold fV;rw [ataT];exact Jp ⟨by rw [htr,hk];rfl,rfl⟩
 refine Jf ((F _ hKb (nsK hns)).run callerA [] s₁ H ⟨[.ref a],[]⟩ [.ref a] [.ref a] _ _ hr e0 (hbind s₁ (.ref a)) (.cons rfl .nil) (hsp H hS)) fun r s' h=>?_;cases r with
 | error e=>exact (hCX H e s' h).elim
 | ok fl =>
  cases fl with
  | next=>exact Gh h
  | brk=>exact Gh h
  | cont=>exact Gh h
  | ret u =>
   obtain⟨v,H',os,bare,un,hok',r',rfl⟩:=h;obtain rfl:u=Value.bool true:=r';refine⟨rfl,⟨fun b o e=>?_,fun b o e=>un.there b o e (by simp)⟩,os,bare⟩;cases q:H b with
   | none=>exact .inl (un.keep b o e q (fun z=>by cases z) (fun z=>by cases z))
   | some u =>
    rcases ofH q with⟨qq,e1,rfl,e3⟩ | ⟨_,rfl,rfl⟩
    ·rw [e] at e3;cases e3;obtain⟨ps,e4,_⟩:=hok' b _ (un.tbls b _ q);obtain⟨c,hc⟩:=(hB1 _ e1).2;obtain⟨oc,us,_,_,_,_,_,_,_,c1,c2,c3,c4,_⟩:=PySem.W.codeHd_of_K KX hc;refine .inr (.inl ⟨⟨c,oc,us,c1,c2,c3,c4⟩,rfl,#[],ps,rfl,?_⟩);rw [Array.empty_append];exact e4
    ·obtain⟨e1,_⟩:=hok b _ q;obtain⟨e2,_⟩:=hok' b _ (un.frzs b _ _ q);rw [e] at e1;cases e1;exact .inl e2
theorem walk_T {l:PySem.W.OpenLaw} {n k:Nat} {q:Program} {loose:List Str} {XP:(Str->Option Value)->Heap->Prop} {YP:World->Heap->Prop} {d:DefRec} {K:Params->DP} {CX:World->CXT} {sp:World->Sp} {x:Str} (ts:List (DR×Str))
  (hn:l.most=some n) (hn2:n<=Ex) (hdf:d.params.defaults=[]) (hr:Room k callerA)
  (hY:∀ (w:World) (h:Heap),YP w h->(K w.params).In h/\∀ p∈ts,h.get? p.1=some (G0 #[])) (hB:∀ w:World,bU (K w.params) ts=true)
  (F:∀ (w:World) (mg:Str->Option Value) (fa:DR) (h:Heap),(K w.params).In h->h.Ns El mg->mg d.name=some (.ref fa) ->
   ∃ fd:FuncData,(∀ (s:Shared) (u:Value),BindsTo s fd ⟨[u],[]⟩ [(x,u)]) /\
    ∀ base:Heap,(K w.params).In base->base.Ns El mg->FnOk l.prog w (K w.params) mg base (CX w) k fa fd [x] (sp w))
  (hsp:∀ (w:World) (H:Hp) (a:DR) (ns:List Int),ns.length<=n->SqL (K w.params) H a (ns.map V.int)->sp w [.ref a] H (fun v _=>v=.bl true) fun _ _ _=>False)
  (hCX:∀ (w:World) (H:Hp) (s:Shared) (e:Value) (s':Shared),CX w [] H s (fun _ _ _=>False) e s'->False) :
  PySem.W.WalkO q loose XP YP l.row.toRowW d [] (fun f vs=>PySem.call f vs):=by
 refine Att.attach_call hn hdf fun w s₀ s₁ mg mb fa o pm cd doc a vs ns G Y ho hd hcd hmg hobj hints hlen hg=>?_;obtain⟨KX,hts⟩:=hY w _ Y;obtain⟨fd,hb,hF⟩:=F w mg fa _ KX G.T.g hmg;exact sj (hB w) hts G.T.bmain KX G.T.g G.T.b G.T.builtins G.T.nolimit hg hobj hints (Em hlen hn2) hr hF hb (fun H hS=>hsp w H a ns hlen hS) fun H e s'=>hCX w H s₁ e s'
end L2
end
section
namespace L2
open PySem PySem.Spec PyProof.Rows
end L2
end
section
namespace L2
open PySem PySem.Spec PyProof.Rows
end L2
end
section
namespace My
open PySem PySem.Spec PyProof.Rows L2
abbrev pf:List Str:=["rows","cut","gate"]
abbrev ph:List Str:=["rows"]
abbrev pj:List Str:=["rows","cut","cell"]
abbrev pq:List Str:=["rows","x","y"]
abbrev pz:List Str:=["a","b","c","d"]
abbrev pA:List Str:=["_law_web"]
abbrev pB:List Str:=["web"]
abbrev pC:List Str:=["rows","cut"]
abbrev pE:List Str:=["gate","rows","cut"]
abbrev pF:List Str:=["a","b","c"]
abbrev pG:List Str:=["one","other"]
abbrev pH:List Str:=["things"]
abbrev pI:List Str:=["rows","cut","point"]
abbrev pJ:List Str:=["_law_feed_here","_law_many"]
abbrev pK:List Str:=["word","path"]
abbrev pL:List Str:=["x","y"]
abbrev pM:List Str:=["rows","gate"]
abbrev pN:List Str:=["_law_feed_here","_law_far","_law_base"]
abbrev pO:List Str:=["_law_one","_law_other","_law_point"]
abbrev pP:List Str:=["_law_one","_law_other","_law_k"]
abbrev pQ:List Str:=["_law_one","_law_other"]
abbrev pR:List Str:=["x","y","rows"]
abbrev pS:List Str:=["a","b","rows"]
abbrev pV:List Str:=["web","one","other"]
abbrev pW:List Str:=["web","first","second"]
abbrev pX:List Str:=["ahead","between","behind"]
abbrev pY:List Str:=["top","bottom"]
abbrev pZ:List Str:=["rows","cut","start"]
abbrev qa:List Str:=["rows","cuts"]
abbrev qb:List Str:=["rows","cut","gate","scale"]
abbrev qc:List Str:=["_law_script","_law_k"]
abbrev qd:List Str:=["_law_one","_law_middle","_law_other"]
abbrev qe:List Str:=["_law_web","_law_here","_law_there"]
abbrev qf:List Str:=["_law_feed_here"]
abbrev qg:List Str:=["_law_feed_here","_law_rows"]
abbrev qh:List Str:=["_law_script"]
abbrev qi:List Str:=["x","y","way"]
abbrev qj:List Str:=["cut","word","path","rows","scale"]
abbrev qk:List Str:=["rows","cut","gate","first","second"]
abbrev ql:List Str:=["rows","cut","gate","across","down"]
abbrev qm:List Str:=["_law_y","_law_feed_here","_law_wide","_law_far","_law_base"]
abbrev qo:List Str:=["_law_x","_law_feed_here","_law_far","_law_base"]
local macro_rules | `(tactic| walk_at "w")=>`(tactic| repeat walk_at "dl")
local macro_rules | `(tactic| walk_at "c")=>`(tactic| exact⟨rfl,by decide +kernel,of_decide_eq_true (by kernel_rfl),of_decide_eq_true (by kernel_rfl),of_decide_eq_true (by kernel_rfl),rfl⟩)
local macro_rules | `(tactic| walk_at "s")=>`(tactic| exact⟨rfl,rfl,rfl,by decide +kernel,rfl,by decide +kernel,by decide +kernel⟩)
noncomputable def top (i:Nat):Stmt:=PySem.Challenge.pw_heightrings_k54_whole_cuts_never_meet.main.body.getD i (.Pass ⟨0,0,0,0⟩)
noncomputable abbrev aN:=top 1
noncomputable abbrev sk:List Str:=["web","some","at","one","other"]
theorem qG:FnScope sk pB (zi aN):=by walk_at "s"
noncomputable abbrev vL:=top 2
noncomputable abbrev mE:List Str:=["web","found","k","word","path","i"]
theorem jt:FnScope mE pB (zi vL):=by walk_at "s"
noncomputable abbrev ji:=top 3
noncomputable abbrev di:List Str:=pK
theorem cE:FnScope di pK (zi ji):=by walk_at "s"
noncomputable abbrev dy:=top 4
noncomputable abbrev Ac:List Str:=["web","one","other","first","a","b","second","c","d"]
theorem qH:FnScope Ac pV (zi dy):=by walk_at "s"
noncomputable abbrev bV:=top 5
noncomputable abbrev uU:List Str:=["web","first","second","word","path"]
theorem cF:FnScope uU pW (zi bV):=by walk_at "s"
noncomputable abbrev qr:=top 6
noncomputable abbrev hZ:List Str:=["ahead","between","behind","a","b","x","y","c","d"]
theorem yE:FnScope hZ pX (zi qr):=by walk_at "s"
noncomputable abbrev h9:=top 7
noncomputable abbrev Ck:List Str:=pF
theorem Ad:FnScope Ck pF (zi h9):=by walk_at "s"
noncomputable abbrev aO:=top 8
noncomputable abbrev fW:List Str:=pz
theorem mF:FnScope fW pz (zi aO):=by walk_at "s"
noncomputable abbrev dz:=top 9
noncomputable abbrev Ae:List Str:=pz
theorem uV:FnScope Ae pz (zi dz):=by walk_at "s"
noncomputable abbrev ia:=top 11
noncomputable abbrev Cm:List Str:=ph
theorem Af:FnScope Cm ph (zi ia):=by walk_at "s"
noncomputable abbrev bW:=top 12
noncomputable abbrev uW:List Str:=["rows","wide","tall"]
theorem cG:FnScope uW ph (zi bW):=by walk_at "s"
noncomputable abbrev qT:=top 13
noncomputable abbrev kR:List Str:=["rows","x","y","wide","tall"]
theorem vM:FnScope kR pq (zi qT):=by walk_at "s"
noncomputable abbrev qs:=top 14
noncomputable abbrev ib:List Str:=["rows","x","y","beside"]
theorem bp:FnScope ib pq (zi qs):=by walk_at "s"
noncomputable abbrev vN:=top 15
noncomputable abbrev mG:List Str:=pq
theorem kS:FnScope mG pq (zi vN):=by walk_at "s"
noncomputable abbrev aP:=top 16
noncomputable abbrev sr:List Str:=pL
theorem mH:FnScope sr pL (zi aP):=by walk_at "s"
noncomputable abbrev bX:=top 18
noncomputable abbrev uX:List Str:=pG
theorem cH:FnScope uX pG (zi bX):=by walk_at "s"
noncomputable abbrev qU:=top 19
noncomputable abbrev kT:List Str:=["top","bottom","by"]
theorem vO:FnScope kT pY (zi qU):=by walk_at "s"
noncomputable abbrev qV:=top 28
noncomputable abbrev kU:List Str:=["rows","at","row"]
theorem vP:FnScope kU ph (zi qV):=by walk_at "s"
noncomputable abbrev ic:=top 29
noncomputable abbrev Cn:List Str:=pH
theorem Ag:FnScope Cn pH (zi ic):=by walk_at "s"
noncomputable abbrev bY:=top 30
noncomputable abbrev uY:List Str:=["row"]
theorem su:FnScope uY ["row"] (zi bY):=by walk_at "s"
noncomputable abbrev dA:=top 34
noncomputable abbrev Ah:List Str:=["rows","cut","sides"]
theorem kW:FnScope Ah pC (zi dA):=by walk_at "s"
noncomputable abbrev jO:=top 35
noncomputable abbrev fq:List Str:=["rows","cut","point","x","y"]
theorem qI:FnScope fq pI (zi jO):=by walk_at "s"
noncomputable abbrev jP:=top 36
noncomputable abbrev ft:List Str:=["gate","x","y","way"]
theorem jC:FnScope ft ["gate"] (zi jP):=by walk_at "s"
noncomputable abbrev vQ:=top 37
noncomputable abbrev mI:List Str:=pM
theorem kX:FnScope mI pM (zi vQ):=by walk_at "s"
noncomputable abbrev aQ:=top 38
noncomputable abbrev sv:List Str:=qk
theorem bC:FnScope sv pf (zi aQ):=by walk_at "s"
noncomputable abbrev qt:=top 39
noncomputable abbrev ie:List Str:=["cell","x","y"]
theorem vg:FnScope ie ["cell"] (zi qt):=by walk_at "s"
noncomputable abbrev qu:=top 40
noncomputable abbrev ig:List Str:=pj
theorem fu:FnScope ig pj (zi qu):=by walk_at "s"
noncomputable abbrev yX:=top 41
noncomputable abbrev bZ:List Str:=["rows","cut","cell","x","y"]
theorem jo:FnScope bZ pj (zi yX):=by walk_at "s"
noncomputable abbrev qW:=top 42
noncomputable abbrev kY:List Str:=["rows","cut","cell","through"]
theorem b6:FnScope kY pj (zi qW):=by walk_at "s"
noncomputable abbrev jD:=top 43
noncomputable abbrev eO:List Str:=["rows","cut","cell","above","left","below","right"]
theorem yP:FnScope eO pj (zi jD):=by walk_at "s"
noncomputable abbrev aR:=top 44
noncomputable abbrev sA:List Str:=["rows","cut","gate","x","y","way","near_is_high"]
theorem qJ:FnScope sA pf (zi aR):=by walk_at "s"
noncomputable abbrev qv:=top 45
noncomputable abbrev ij:List Str:=ql
theorem vh:FnScope ij pf (zi qv):=by walk_at "s"
noncomputable abbrev vR:=top 46
noncomputable abbrev mJ:List Str:=ql
theorem aA:FnScope mJ pf (zi vR):=by walk_at "s"
noncomputable abbrev qw:=top 47
noncomputable abbrev ik:List Str:=["rows","cut","gate","x","y","partners","one","other"]
theorem yR:FnScope ik pf (zi qw):=by walk_at "s"
noncomputable abbrev dB:=top 49
noncomputable abbrev Ai:List Str:=["rows","cut","through","starts","told","passed","start","line","gate"]
theorem jU:FnScope Ai pC (zi dB):=by walk_at "s"
noncomputable abbrev qX:=top 50
noncomputable abbrev kZ:List Str:=["rows","cut","start","path","gate"]
theorem qx:FnScope kZ pZ (zi qX):=by walk_at "s"
noncomputable abbrev vS:=top 52
noncomputable abbrev mK:List Str:=["rows","cut","gate","x","y","way","part","whole"]
theorem ju:FnScope mK pf (zi vS):=by walk_at "s"
noncomputable abbrev dC:=top 53
noncomputable abbrev Aj:List Str:=qk
theorem eP:FnScope Aj pf (zi dC):=by walk_at "s"
noncomputable abbrev vT:=top 55
noncomputable abbrev mL:List Str:=["rows","scale","x","y","a","b","by"]
theorem yJ:FnScope mL ph (zi vT):=by walk_at "s"
noncomputable abbrev b7:=top 56
noncomputable abbrev uZ:List Str:=["rows","cuts","scale"]
theorem fX:FnScope uZ qa (zi b7):=by walk_at "s"
noncomputable abbrev jE:=top 57
noncomputable abbrev eQ:List Str:=["rows","cut","gate","scale","x","y","by"]
theorem jj:FnScope eQ qb (zi jE):=by walk_at "s"
noncomputable abbrev aS:=top 58
noncomputable abbrev sC:List Str:=["rows","scale"]
theorem eR:FnScope sC ph (zi aS):=by walk_at "s"
noncomputable abbrev vU:=top 60
noncomputable abbrev bD:List Str:=["_law_script","_law_k","_law_cell"]
theorem aB:FnScope bD qc (zi vU):=by walk_at "s"
noncomputable abbrev vV:=top 61
noncomputable abbrev mM:List Str:=["_law_feed_here","_law_many","_law_found"]
theorem cY:FnScope mM pJ (zi vV):=by walk_at "s"
noncomputable abbrev qy:=top 62
noncomputable abbrev ir:List Str:=pN
theorem fv:FnScope ir pN (zi qy):=by walk_at "s"
noncomputable abbrev vW:=top 63
noncomputable abbrev mO:List Str:=["_law_one","_law_other","_law_point","_law_wide","_law_high"]
theorem aC:FnScope mO pO (zi vW):=by walk_at "s"
noncomputable abbrev qY:=top 64
noncomputable abbrev k7:List Str:=pP
theorem iu:FnScope k7 pP (zi qY):=by walk_at "s"
noncomputable abbrev qZ:=top 65
noncomputable abbrev k8:List Str:=["_law_one","_law_other","_law_k","_law_first","_law_second","_law_third","_law_last"]
theorem ja:FnScope k8 pQ (zi qZ):=by walk_at "s"
noncomputable abbrev q9:=top 66
noncomputable abbrev k9:List Str:=["_law_one","_law_middle","_law_other","_law_wide"]
theorem b8:FnScope k9 qd (zi q9):=by walk_at "s"
noncomputable abbrev jF:=top 67
noncomputable abbrev eS:List Str:=["_law_web","_law_found","_law_k","_law_word","_law_points","_law_i"]
theorem yA:FnScope eS pA (zi jF):=by walk_at "s"
noncomputable abbrev aV:=top 68
noncomputable abbrev sD:List Str:=["_law_web","_law_here","_law_there","_law_k","_law_i","_law_one","_law_many"]
theorem qK:FnScope sD qe (zi aV):=by walk_at "s"
noncomputable abbrev jQ:=top 69
noncomputable abbrev fw:List Str:=["_law_web","_law_some","_law_at","_law_k","_law_i","_law_one","_law_there"]
theorem yv:FnScope fw pA (zi jQ):=by walk_at "s"
noncomputable abbrev va:=top 70
noncomputable abbrev lg:List Str:=["_law_feed_here","_law_wide","_law_high","_law_far","_law_base"]
theorem jG:FnScope lg qf (zi va):=by walk_at "s"
noncomputable abbrev vX:=top 71
noncomputable abbrev mP:List Str:=["_law_feed_here","_law_rows","_law_cuts_here","_law_k","_law_row","_law_cut"]
theorem jV:FnScope mP qg (zi vX):=by walk_at "s"
noncomputable abbrev cZ:=top 72
noncomputable abbrev ox:List Str:=["_law_script","_law_k","_law_feed_here","_law_rows","_law_web","_law_pin","_law_line","_law_at","_law_segment"]
theorem vY:FnScope ox qh (zi cZ):=by walk_at "s"
noncomputable def tab (Jm:List (List Int)):PyData:=.list (Jm.map fun r=>.list (r.map .int))
structure Good (w:Nat) (Jm:List (List Int)):Prop where
 h1:2<=Jm.length
 h2:Jm.length<=7
 w1:2<=w
 w2:w<=7
 row:∀ r∈Jm,r.length=w
 hgt:∀ r∈Jm,∀ n∈r,-1000000000<=n/\n<=1000000000
theorem Good.ne {w:Nat} {Jm:List (List Int)} (g:Good w Jm):∃ r rs,Jm=r :: rs:=by
 cases Jm with
 | nil=>have:=g.h1;simp at this
 | cons r rs=>exact⟨r,rs,rfl⟩
theorem qz {α β:Type} {F:α->β} {xs:List α} {k:Int} {j:Nat} (hk:(j:Int)=k) (h:j<xs.length):atI (xs.map F) k=some (F xs[j]):=by
 subst hk;exact aK (by rw [DX,DK h];rfl)
local macro_rules | `(tactic| walk_at "dl")=>`(tactic| first
 | (with_reducible show PSd _ _ (bw _ (o9 (z6 _) (tC (V.int 0)) i7)) _ _;refine xw rfl ?_)
 | (with_reducible show PSd _ _ (bw _ (o9 (z6 _) (tC (V.int 1)) i7)) _ _;refine xx rfl ?_)
 | with_reducible refine yc ?_ | with_reducible refine aZ ?_ | with_reducible refine yW ?_ | with_reducible refine yf ?_ | with_reducible refine cq ?_ | with_reducible refine y3 ?_
 | with_reducible refine zp ?_ | with_reducible refine jr rfl ?_ | with_reducible refine zz ?_ | with_reducible refine yu ?_
 | with_reducible refine jL ?_ | with_reducible refine t_b ?_ | with_reducible refine A0 ?_ | with_reducible refine tZ ?_ | with_reducible refine t5 ?_ | with_reducible refine jA ?_
 | with_reducible refine xt ?_ | with_reducible refine km ?_ | with_reducible refine cS ?_ | with_reducible refine jm ?_ | with_reducible refine d6 ?_
 | with_reducible refine BH ?_ | with_reducible refine l7 ?_ | with_reducible refine C0 ?_ | with_reducible refine BI ?_
 | with_reducible refine qD ?_ | with_reducible refine DB ?_ | with_reducible refine CV ?_ | with_reducible refine CW ?_
 | (with_reducible show PEd _ _ (z6 _) _ _;refine zC rfl ?_)
 | (with_reducible show PEd _ _ (tOp (rj _) (z6 _) _) _ _;refine CY rfl ?_)
 | with_reducible refine tY ?_ | with_reducible refine AZ ?_
 | (with_reducible show PAd _ _ (zT (z6 _) _) _ _;refine d7 rfl ?_)
 | with_reducible refine zP ?_ | with_reducible refine jb ?_
 | with_reducible refine BS ?_ | with_reducible refine C5 ?_ | with_reducible refine C2 ?_ | with_reducible refine C3 ?_ | with_reducible refine BU ?_ | with_reducible refine nJ ?_ | with_reducible refine qP ?_
 | with_reducible refine au ?_ | with_reducible refine CZ ?_ | with_reducible refine t6 ?_ | with_reducible refine BJ ?_ | with_reducible refine BK ?_ | with_reducible refine BL ?_ | with_reducible refine BM ?_
 | (with_reducible show (∃ _,_) \/ (∃ _,_);first | refine Or.inl ⟨_,rfl,?_⟩ | refine Or.inr ⟨_,rfl,?_⟩) | refine⟨_,rfl,?_⟩ | refine⟨_,_,rfl,?_⟩
 | (with_reducible show (_=_/\∀ _,_) \/ _;first | refine Or.inl ⟨rfl,fun a ha=>?_⟩ | refine Or.inr ⟨rfl,fun b hb hb'=>?_⟩)
 | (with_reducible show PyData.canLay0 _=true/\_;refine And.intro (by first | rfl | assumption | decide +kernel) ?_)
 | (with_reducible show min _ _<=60/\_;refine And.intro (by first | assumption | (simp [Io,D5];done)) ?_)
 | refine⟨rfl,?_⟩
 | (refine And.intro ?side ?_;(case side=>first | omega | exact Int.ediv_nonneg (by omega) (by omega) | exact Iv _ (by omega) | exact Gp _ (by omega) | decide | exact⟨by decide,by decide,by decide⟩ | exact⟨by omega,by omega⟩ | exact Or.inl ⟨by omega,by omega⟩ | exact Or.inr ⟨by omega,by omega⟩ | (refine Em (GG (by rfl)) (show _<=1000 by decide)) | ((repeat' apply And.intro) <;> first | rfl | omega | decide | assumption) | (simp [Io]))))
section
variable {P:Program} {w:World} {K:DP} {mg:Str->Option Value} {base:Heap} {k:Nat}
theorem Ak (F:Def K mg "size" ia ph) (uaa:mg "len"=none):FnIn P w K mg base (k+1) "size" ph (spD K 1 (fun (c:List (List Int)×Nat) xs=>xs=[.dat (tab c.1)]/\Good c.2 c.1) fun c r=>r=.tuple [.int c.2,.int c.1.length]):=by
 refine F.ok Af rfl fun fa cdv A outer s H E hr=>⟨_,(zh (zu (zJ (za (zB (ya (K:=K) rfl) rfl uaa EA (za (zq (zF (K:=K) rfl) (pv 0) zc (fun _ _=>rfl)) zb)) (za (zB (ya (K:=K) rfl) rfl uaa EA (za (pv 0) zb)) zb))))),?_⟩;rintro f xs ⟨Jm,wd⟩ hl ⟨rfl,g⟩
 try dsimp only [ye,zk]
 obtain⟨r,rs,rfl⟩:=g.ne;walk_at "w";refine⟨_,qz (j:=0) rfl (by simp),?_⟩;walk_at "w";have hw:=g.row r DZ;show PyData.tuple [.int _,.int _]=_;rw [DM,DM];show PyData.tuple [.int (r.length:Nat),_]=_;rw [hw]
theorem Al (F:Def K mg "fits" ic pH) (uaa:mg "len"=none) (uao:∃ t,mg "FEWEST"=some (.int 2 t)) (uap:∃ t,mg "MOST"=some (.int 7 t)) :
  FnIn P w K mg base (k+1) "fits" pH (spD K 1 (fun (c:List PyData) xs=>xs=[.dat (.list c)]) fun c r=>r=.bool (decide (2<=c.length/\c.length<=7))):=by
 obtain⟨_,uao⟩:=uao;obtain⟨_,uap⟩:=uap;refine F.ok Ag rfl fun fa cdv A outer s H E hr=>⟨_,(zh (zu (ar ae ae (bK rfl uao) (zB (ya (K:=K) rfl) rfl uaa EA (za (pv 0) zb)) (bK rfl uap)))),?_⟩;rintro f xs ds hl rfl
 try dsimp only [ye,zk]
 walk_at "w";by_cases h:2<=ds.length
 ·rw [Jp (by simp;omega)];walk_at "w";show PyData.bool _=_
  congr 1
  by_cases h7:ds.length<=7 <;> simp [h,h7] <;> omega
 ·rw [Jo (by simp;omega)];show PyData.bool _=_
  congr 1
  simp [h]
theorem sE (F:Def K mg "is_row" bY ["row"]) (uac:mg "min"=none) (uad:mg "max"=none) (uaq:∃ t,mg "LEAST"=some (.int (-1000000000) t)) (uar:∃ t,mg "GREATEST"=some (.int 1000000000 t))
  (uaA:FnIn P w K mg base k "fits" pH (spD K 1 (fun (c:List PyData) xs=>xs=[.dat (.list c)]) fun c r=>r=.bool (decide (2<=c.length/\c.length<=7)))) :
  FnIn P w K mg base (k+1) "is_row" ["row"] (spD K 1 (fun (c:List Int) xs=>xs=[.dat (.list (c.map .int))]) fun c r=>r=.bool (decide (2<=c.length/\c.length<=7/\∀ n∈c,-1000000000<=n/\n<=1000000000))):=by
 obtain⟨_,uaq⟩:=uaq;obtain⟨_,uar⟩:=uar;refine F.ok su rfl fun fa cdv A outer s H E hr=>⟨_,(zh (zu (ao (ze uaA hr rfl (za (pv 0) zb)) (ao (yC ae (bK rfl uaq) (zB (rF (K:=K) rfl rfl) rfl uac boot_min (za (pv 0) zb)) (zI _)) (bu (yC ae (zB (rG (K:=K) rfl rfl) rfl uad boot_max (za (pv 0) zb)) (bK rfl uar) (zI _))))))),?_⟩;rintro f xs c hl rfl
 try dsimp only [ye,zk]
 walk_at "w";refine zo (c.map .int) ?_;walk_at "w";rintro r rfl;rw [DM];walk_at "w";by_cases h:2<=c.length/\c.length<=7
 ·have hne:c≠[]:=by rintro rfl;simp at h
  rw [Jp (by simpa using h)];walk_at "w";intro M hM hM';walk_at "w";by_cases h2:-1000000000<=M
  ·rw [Jp (by simpa using h2)];walk_at "w";intro M' hN hN';walk_at "w";show PyData.bool _=_
   congr 1
   rw [decide_eq_decide];refine⟨fun q=>⟨h.1,h.2,fun n hn=>⟨Int.le_trans h2 (hM' n hn),Int.le_trans (hN' n hn) q⟩⟩,fun q=>(q.2.2 M' hN).2⟩
  ·rw [Jo (by simpa using h2)];show PyData.bool _=_
   congr 1
   symm;rw [decide_eq_false_iff_not];exact fun q=>h2 (q.2.2 M hM).1
 ·rw [Jo (by simpa using h)];show PyData.bool _=_
  congr 1
  symm;rw [decide_eq_false_iff_not];exact fun q=>h ⟨q.1,q.2.1⟩
abbrev fY (K:DP):Sp:=spD K 1 (fun (c:List (List Int)×Nat) xs=>xs=[.dat (tab c.1)]/\Good c.2 c.1) fun _ r=>r=.bool true
theorem Co (F:Def K mg "ask_table" qV ph) (uaa:mg "len"=none) (uag:mg "enumerate"=none)
  (uaA:FnIn P w K mg base k "fits" pH (spD K 1 (fun (c:List PyData) xs=>xs=[.dat (.list c)]) fun c r=>r=.bool (decide (2<=c.length/\c.length<=7))))
  (ubb:FnIn P w K mg base k "is_row" ["row"] (spD K 1 (fun (c:List Int) xs=>xs=[.dat (.list (c.map .int))]) fun c r=>r=.bool (decide (2<=c.length/\c.length<=7/\∀ n∈c,-1000000000<=n/\n<=1000000000)))) :
  FnIn P w K mg base (k+1) "ask_table" ph (fY K):=by
 refine F.ok vP rfl fun fa cdv A outer s H E hr=>⟨_,(zd (yr (gG (yj (K:=K) rfl (ze uaA hr rfl (za (pv 0) zb)) (fun _=>rfl))) (zh iW) zS) (zd (yK Er rfl (eg (K:=K) rfl rfl uag (za (pv 0) zb)) (zH (K:=K) (n:=2) rfl rfl (zg (zf (i:=1) vP.nd rfl (Or.inl rfl) (Or.inr rfl)) (zg (zf (i:=2) vP.nd rfl (Or.inl rfl) (Or.inr rfl)) zD))) (zh (yr (PW.pt (fC (zQ (d9 (K:=K) rfl hr.units) (zB (ya (K:=K) rfl) rfl uaa EA (za (pv 2) zb)) (zB (ya (K:=K) rfl) rfl uaa EA (za (zq (zF (K:=K) rfl) (pv 0) zc (fun _ _=>rfl)) zb)) (zI _)) (dQ (gG (yj (K:=K) rfl (ze ubb hr rfl (za (pv 2) zb)) (fun _=>rfl)))))) (zh iW) zS))) (zh (zu bb)))),?_⟩;rintro f xs ⟨Jm,wd⟩ hl ⟨rfl,g⟩
 try dsimp only [ye,zk]
 have g1:=g.h1;have g2:=g.h2;walk_at "w";refine zo (Jm.map fun r=>.list (r.map .int)) ?_;walk_at "w";rintro r rfl;dsimp only at g1 g2;refine⟨_,rfl,?_⟩;rw [DM,Jq ⟨g1,g2⟩,E4,Jo DL];walk_at "w";refine l8 ?_;walk_at "w";refine⟨fun i ρ=>∃ a b,ρ=[some (.dat (tab Jm)),a,b],⟨_,_,rfl⟩,?_,?_⟩
 ·rintro i d ρ hd ⟨a,b,rfl⟩;rw [DX] at hd;cases hr:Jm[i]? with
  | none=>rw [hr] at hd;cases hd
  | some r =>
   rw [hr] at hd;cases hd;have hm:=DS hr;have hw:=g.row r hm;obtain⟨r0,rs,hrs⟩:=g.ne;dsimp only at hrs;subst hrs;have hw0:=g.row r0 DZ;walk_at "w";refine⟨_,qz (j:=0) rfl (by simp),?_⟩;walk_at "w";dsimp only at hw hw0;rw [Jp rfl,DM,DM];show (if (!(((r.length:Nat):Int) == ((r0.length:Nat):Int)))=true then _ else _);rw [hw,hw0,beq_self_eq_true,E4,Jo DL];walk_at "w";refine zo r ?_;walk_at "w";rintro _ rfl;refine⟨_,rfl,?_⟩;have w1:=g.w1;have w2:=g.w2;dsimp only at w1 w2;rw [Jq ⟨by omega,by omega,g.hgt r hm⟩,E4,Jo DL];walk_at "w";exact⟨_,_,rfl⟩
 ·rintro ρ ⟨a,b,rfl⟩;walk_at "w";rfl
theorem Am (F:Def K mg "_law_draw" vV pJ):FnIn P w K mg base (k+1) "_law_draw" pJ (spD K 2 (fun (c:Int) xs=>xs=[.feed,.dat (.int c)]/\0<c/\c<1152921504606846976) fun c r=>∃ i:Int,r=.int i/\0<=i/\i<c):=by
 refine F.ok cY rfl fun fa cdv A outer s H E hr=>⟨_,(zd (yr (zQ AW (zq (zF (K:=K) rfl) (pv 0) zc (fun _ _=>rfl)) (zr dW zc zc) (zI _)) (zd (zL (i:=2) cY.nd rfl (Or.inl rfl) (zr vF (zq (zF (K:=K) rfl) (pv 0) zc (fun _ _=>rfl)) (pv 1))) (zd (yl (zr eC (zq (zF (K:=K) rfl) (pv 0) zc (fun _ _=>rfl)) (pv 1)) (gH (pv 0) zc set_list)) (zh (zu (pv 2))))) zS) (zd (yl (zr vF (zr z8 (zr z8 (zr bx (zq (zF (K:=K) rfl) (pv 0) zc (fun _ _=>rfl)) zc) (zr vF (zq (zF (K:=K) rfl) (pv 0) zc (fun _ _=>rfl)) zc)) zc) zc) (gH (pv 0) zc set_list)) (zh (zu (zr vF (zr eC (zr vF (zr bx (zq (zF (K:=K) rfl) (pv 0) zc (fun _ _=>rfl)) zc) zc) zc) (pv 1)))))),?_⟩;rintro f xs c hl ⟨rfl,c0,c1⟩
 try dsimp only [ye,zk]
 walk_at "w";split
 ·walk_at "w";exact Gp _ c0
 ·walk_at "w";exact Gp _ c0
abbrev mQ (K:DP):Sp:=spD K 2 (fun (c:Int) xs=>xs=[.feed,.dat (.int c)]/\0<c/\c<1152921504606846976) fun c r=>∃ i:Int,r=.int i/\0<=i/\i<c
abbrev lh (K:DP):Sp:=spD K 3 (fun (c:Int×Int) xs=>xs=[.feed,.dat (.int c.1),.dat (.int c.2)]/\0<=c.1/\c.1<=10/\-1000000000<=c.2/\c.2<=999999991) fun c r=>∃ i:Int,r=.int i/\-1000000000<=i/\i<=1000000000
theorem sF (F:Def K mg "_law_height" qy pN) (uac:mg "min"=none) (uae:FnIn P w K mg base k "_law_draw" pJ (mQ K)) :
  FnIn P w K mg base (k+1) "_law_height" pN (lh K):=by
 refine F.ok fv rfl fun fa cdv A outer s H E hr=>⟨_,(zd (yr (zQ iY (pv 1) zc (zI _)) (zh (zu (zr z8 (pv 2) (ze uae hr rfl (za (pv 0) (za (pv 1) zb)))))) zS) (zh (zu (zB (qA rfl) rfl uac boot_min (za (zr dW zc zc) (za (zr yb (zr z8 (zr bx (ze uae hr rfl (za (pv 0) (za zc zb))) zc) (ze uae hr rfl (za (pv 0) (za zc zb)))) (zr dW zc zc)) zb)))))),?_⟩;rintro f xs ⟨far,bs⟩ hl ⟨rfl,c0,c1,c2,c3⟩;dsimp only at c0 c1 c2 c3
 try dsimp only [ye,zk]
 walk_at "w";by_cases h:0<far
 ·rw [Jp (by simpa using h)];walk_at "w";refine zo far ?_;walk_at "w";rintro r ⟨i,rfl,h1,h2⟩;walk_at "w";show bs+i<=1000000000;omega
 ·rw [Jo (by simpa using h)];walk_at "w";refine zo 20001 ?_;walk_at "w";rintro r ⟨i,rfl,h1,h2⟩;walk_at "w";refine zo 100000 ?_;walk_at "w";rintro r ⟨j,rfl,h3,h4⟩;walk_at "w";have e9:(10:Int) ^ Int.toNat 9=1000000000:=by decide
  rw [e9];omega
abbrev oy (K:DP):Sp:=spD K 1 (fun (_:Unit) xs=>xs=[.feed]) fun _ r=>∃ wd Jm,r=tab Jm/\Good wd Jm/\wd<=4/\Jm.length<=4
theorem menu {ds:List PyData} {i n:Int} (h0:0<=i) (h1:i<n) (hn:n=(ds.length:Int)):∃ d,atI ds i=some d/\d∈ds:=by
 have hi:i.toNat<ds.length:=by omega
 have e:i=((i.toNat:Nat):Int):=by omega
 have q:=aK (DK hi);rw [<-e] at q;exact⟨_,q,Eo hi⟩
theorem oA:∀ {es:List PyData} {p:Int->Prop},(∀ (i:Nat) e,es[i]?=some e->∃ n:Int,e=.int n/\p n)->∃ ns:List Int,es=ns.map .int/\∀ n∈ns,p n
 | [],p,_=>⟨[],rfl,fun n h=>by cases h⟩
 | e :: es,p,h=>by
  obtain⟨n,rfl,hn⟩:=h 0 e rfl;obtain⟨ns,rfl,hs⟩:=oA (es:=es) (p:=p) fun i e' he=>h (i+1) e' (by simpa using he);exact⟨n :: ns,rfl,fun m hm=>by
   rcases D0.mp hm with rfl | hm
   ·exact hn
   ·exact hs m hm⟩
theorem oB:∀ {es:List PyData} {p:List Int->Prop},(∀ (i:Nat) e,es[i]?=some e->∃ r:List Int,e=.list (r.map .int)/\p r)->∃ Jm:List (List Int),es=Jm.map (fun r=>.list (r.map .int))/\∀ r∈Jm,p r
 | [],p,_=>⟨[],rfl,fun n h=>by cases h⟩
 | e :: es,p,h=>by
  obtain⟨n,rfl,hn⟩:=h 0 e rfl;obtain⟨ns,rfl,hs⟩:=oB (es:=es) (p:=p) fun i e' he=>h (i+1) e' (by simpa using he);exact⟨n :: ns,rfl,fun m hm=>by
   rcases D0.mp hm with rfl | hm
   ·exact hn
   ·exact hs m hm⟩
theorem u4 (F:Def K mg "_law_table" va qf) (uab:mg "range"=none) (uae:FnIn P w K mg base k "_law_draw" pJ (mQ K)) (ubc:FnIn P w K mg base k "_law_height" pN (lh K)) :
  FnIn P w K mg base (k+1) "_law_table" qf (oy K):=by
 refine F.ok jG rfl fun fa cdv A outer s H E hr=>⟨_,(zd (zL (i:=1) jG.nd rfl (Or.inr rfl) (zq (zF (K:=K) rfl) (yL (za zc (za zc (za zc (za zc zb))))) (ze uae hr rfl (za (pv 0) (za zc zb))) (fun _ _=>rfl))) (zd (zL (i:=2) jG.nd rfl (Or.inl rfl) (zq (zF (K:=K) rfl) (yL (za zc (za zc (za zc (za zc zb))))) (ze uae hr rfl (za (pv 0) (za zc zb))) (fun _ _=>rfl))) (zd (zL (i:=3) jG.nd rfl (Or.inr rfl) (zq (zF (K:=K) rfl) (yL (za zc (za zc (za zc (za zc (za zc (za zc zb))))))) (ze uae hr rfl (za (pv 0) (za zc zb))) (fun _ _=>rfl))) (zd (zL (i:=4) jG.nd rfl (Or.inr rfl) (zq (zF (K:=K) rfl) (yL (za zc (za (zr yb zc zc) (za (zr yb (zr dW zc zc) zc) (za (zr yb zc (zr dW zc zc)) zb))))) (ze uae hr rfl (za (pv 0) (za zc zb))) (fun _ _=>rfl))) (zh (zu (yZ (N:=qm) (own:=1) (fr:=[0,1,3,4]) (by walk_at "c") rfl (yH rfl uab (za (pv 2) zb)) (fun _ _ _ _=>(zf (i:=0) (show (qm:List Str).Nodup by decide +kernel) rfl (Or.inl rfl) (Or.inr rfl))) (fun _ _ _ _=>yV) (fun _ _ _ _=>(yZ (N:=qo) (own:=1) (fr:=[1,3,4]) (by walk_at "c") rfl (yH rfl uab (za (pv 2) zb)) (fun _ _ _ _=>(zf (i:=0) (show (qo:List Str).Nodup by decide +kernel) rfl (Or.inl rfl) (Or.inr rfl))) (fun _ _ _ _=>yV) (fun _ _ _ _=>(ze ubc hr rfl (za (pv 1) (za (pv 2) (za (pv 3) zb))))) rfl rfl (fun _=>rfl))) rfl rfl (fun _=>rfl)))))))),?_⟩;rintro f xs ⟨⟩ hl rfl
 try dsimp only [ye,zk]
 walk_at "w";refine zo 4 ?_;walk_at "w";rintro r ⟨i1,rfl,h1,h2⟩;refine⟨_,rfl,?_⟩;obtain⟨d1,e1,m1⟩:=menu (ds:=[.int 2,.int 3,.int 3,.int 4]) h1 h2 (by simp);obtain⟨wi,rfl,wi0,wi1⟩:∃ n:Int,d1=.int n/\2<=n/\n<=4:=by
  simp only [D0,E6,or_false] at m1;rcases m1 with rfl | rfl | rfl | rfl <;> exact⟨_,rfl,by decide,by decide⟩
 refine⟨_,e1,?_⟩;walk_at "w";refine zo 4 ?_;walk_at "w";rintro r ⟨i2,rfl,h3,h4⟩;refine⟨_,rfl,?_⟩;obtain⟨d2,e2,m2⟩:=menu (ds:=[.int 2,.int 3,.int 3,.int 4]) h3 h4 (by simp);obtain⟨hi,rfl,hi0,hi1⟩:∃ n:Int,d2=.int n/\2<=n/\n<=4:=by
  simp only [D0,E6,or_false] at m2;rcases m2 with rfl | rfl | rfl | rfl <;> exact⟨_,rfl,by decide,by decide⟩
 refine⟨_,e2,?_⟩;walk_at "w";refine zo 6 ?_;walk_at "w";rintro r ⟨i3,rfl,h5,h6⟩;refine⟨_,rfl,?_⟩;obtain⟨d3,e3,m3⟩:=menu (ds:=[.int 5,.int 10,.int 3,.int 2,.int 0,.int 5]) h5 h6 (by simp);obtain⟨far,rfl,f0,f1⟩:∃ n:Int,d3=.int n/\0<=n/\n<=10:=by
  simp only [D0,E6,or_false] at m3;rcases m3 with rfl | rfl | rfl | rfl | rfl | rfl <;> exact⟨_,rfl,by decide,by decide⟩
 refine⟨_,e3,?_⟩;walk_at "w";refine zo 4 ?_;walk_at "w";rintro r ⟨i4,rfl,h7,h8⟩;refine⟨_,rfl,?_⟩;obtain⟨d4,e4,m4⟩:=menu (ds:=[.int 0,.int (0 - 3),.int (10 ^ Int.toNat 9 - 9),.int (0 - 10 ^ Int.toNat 9)]) h7 h8 (by simp);obtain⟨bs,rfl,b0,b1⟩:∃ n:Int,d4=.int n/\-1000000000<=n/\n<=999999991:=by
  simp only [D0,E6,or_false] at m4;rcases m4 with rfl | rfl | rfl | rfl <;> exact⟨_,rfl,by decide,by decide⟩
 refine⟨_,e4,?_⟩;walk_at "w";refine kq ?_;walk_at "w";refine⟨fun _ e=>∃ r:List Int,e=.list (r.map .int)/\r.length=wi.toNat/\∀ n∈r,-1000000000<=n/\n<=1000000000,fun D i hi=>?_,fun es hes hR=>?_⟩
 ·refine kq ?_;walk_at "w";refine⟨fun _ e=>∃ n:Int,e=.int n/\-1000000000<=n/\n<=1000000000,fun D' i' hi'=>?_,fun es hes hR=>?_⟩
  ·refine zo (far,bs) ?_;walk_at "w";rintro r ⟨n,rfl,n0,n1⟩;exact⟨n,rfl,n0,n1⟩
  ·obtain⟨ns,rfl,hs⟩:=oA (p:=fun n=>-1000000000<=n/\n<=1000000000) hR;exact⟨ns,rfl,by rw [DM] at hes;exact hes,hs⟩
 ·obtain⟨Jm,rfl,hs⟩:=oB (p:=fun r=>r.length=wi.toNat/\∀ n∈r,-1000000000<=n/\n<=1000000000) hR;rw [DM] at hes;exact⟨wi.toNat,Jm,rfl,⟨by omega,by omega,by omega,by omega,fun r hr=>(hs r hr).1,fun r hr=>(hs r hr).2⟩,by omega,by omega⟩
theorem z9 {b:Bool} {p q:Prop} (h1:b=true->p) (h2:b=false->q):if b=true then p else q:=by
 cases b with
 | true=>rw [Jp rfl];exact h1 rfl
 | false=>rw [Jo DL];exact h2 rfl
noncomputable def yn (Jm:List (List Int)) (wd:Nat) (x y:Int):Bool:=decide (0<=x/\x<wd) && decide (0<=y/\y<Jm.length)
noncomputable def zK (Jm:List (List Int)) (x y:Int):Int:=(Jm.getD y.toNat []).getD x.toNat 0
theorem jM {Jm:List (List Int)} {wd:Nat} {x y:Int} (h:yn Jm wd x y=true):0<=x/\x<wd/\0<=y/\y<Jm.length:=by
 unfold yn at h;rw [DW] at h;have h1:=of_decide_eq_true h.1;have h2:=of_decide_eq_true h.2;omega
noncomputable def vb (x y w:Int):PyData:=.tuple [.int x,.int y,.int w]
noncomputable def px (x:Int) (w:Int):Int:=if w=0 then x+1 else x
noncomputable def py (y:Int) (w:Int):Int:=if w=0 then y else y+1
noncomputable def aD (Jm:List (List Int)) (wd:Nat) (x y w:Int):Bool:=decide (w=0 \/ w=1) && (yn Jm wd x y && yn Jm wd (px x w) (py y w))
noncomputable def yF (Jm:List (List Int)) (wd:Nat) (cut x y w:Int):Bool:=aD Jm wd x y w && (decide (cut<zK Jm x y) != decide (cut<zK Jm (px x w) (py y w)))
noncomputable def fZ (Jm:List (List Int)) (cut x y w:Int):Str:=if w=0 then (if cut<zK Jm x y then "up" else "down") else (if cut<zK Jm x y then "right" else "left")
theorem jk (a b:Int):Ei (.int a) (.int b)=decide (a=b):=rfl
theorem ll (a b:Bool):Ei (.bool a) (.bool b)=(a == b):=rfl
abbrev u5 (K:DP):Sp:=spD K 1 (fun (c:List (List Int)×Nat) xs=>xs=[.dat (tab c.1)]/\Good c.2 c.1) fun c r=>r=.tuple [.int c.2,.int c.1.length]
abbrev oC (K:DP):Sp:=spD K 3 (fun (c:List (List Int)×Nat×Int×Int) xs=>xs=[.dat (tab c.1),.dat (.int c.2.2.1),.dat (.int c.2.2.2)]/\Good c.2.1 c.1) fun c r=>r=.bool (yn c.1 c.2.1 c.2.2.1 c.2.2.2)
theorem Cp (F:Def K mg "has_point" qT pq) (uaB:FnIn P w K mg base k "size" ph (u5 K)):FnIn P w K mg base (k+1) "has_point" pq (oC K):=by
 refine F.ok vM rfl fun fa cdv A outer s H E hr=>⟨_,(zd (yl (ze uaB hr rfl (za (pv 0) zb)) (zH (K:=K) (n:=2) rfl rfl (zg (zf (i:=3) vM.nd rfl (Or.inl rfl) (Or.inr rfl)) (zg (zf (i:=4) vM.nd rfl (Or.inl rfl) (Or.inr rfl)) zD)))) (zh (zu (ao (ar ae fE zc (pv 1) (pv 3)) (bu (ar ae fE zc (pv 2) (pv 4))))))),?_⟩;rintro f xs ⟨Jm,wd,x,y⟩ hl ⟨rfl,g⟩
 try dsimp only [ye,zk]
 dsimp only at *;refine yc (yf (zo (Jm,wd) ?_));walk_at "w";rintro _ rfl;walk_at "w";have fin:∀ b:Bool,b=yn Jm wd x y->PyData.bool b=PyData.bool (yn Jm wd x y):=fun b h=>by rw [h]
 refine z9 (fun h1=>?_) fun h1=>?_
 ·have h1':=of_decide_eq_true h1;walk_at "w";refine z9 (fun h2=>?_) fun h2=>?_
  ·have h2':=of_decide_eq_true h2;walk_at "w";refine z9 (fun h3=>?_) fun h3=>?_
   ·have h3':=of_decide_eq_true h3;walk_at "w";refine fin _ ?_;unfold yn;dsimp only at h2' ⊢;rw [Jq (p:=(0<=x/\x<(wd:Int))) (by omega),FO];exact decide_eq_decide.mpr (by omega)
   ·have h3':=of_decide_eq_false h3;refine fin _ ?_;unfold yn;rw [Jr (p:=(0<=y/\y<(Jm.length:Int))) (by omega),E1]
  ·have h2':=of_decide_eq_false h2;refine fin _ ?_;unfold yn;dsimp only at h2';rw [Jr (p:=(0<=x/\x<(wd:Int))) (by omega),Fc]
 ·have h1':=of_decide_eq_false h1;refine⟨_,rfl,?_⟩;rw [Jo DL];refine fin _ ?_;unfold yn;rw [Jr (p:=(0<=x/\x<(wd:Int))) (by omega),Fc]
abbrev iw (K:DP):Sp:=spD K 3 (fun (c:List (List Int)×Nat×Int×Int×Int) xs=>xs=[.dat (tab c.1),.dat (.int c.2.2.1),.dat (.tuple [.int c.2.2.2.1,.int c.2.2.2.2])]/\Good c.2.1 c.1/\yn c.1 c.2.1 c.2.2.2.1 c.2.2.2.2=true) fun c r=>r=.bool (decide (c.2.2.1<zK c.1 c.2.2.2.1 c.2.2.2.2))
theorem eT {Jm:List (List Int)} {wd:Nat} {x y:Int} (g:Good wd Jm) (h:yn Jm wd x y=true):∃ r:List Int,atI (Jm.map fun q=>PyData.list (q.map .int)) y=some (.list (r.map .int))/\atI (r.map PyData.int) x=some (.int (zK Jm x y)):=by
 obtain⟨x0,x1,y0,y1⟩:=jM h;have hy:y.toNat<Jm.length:=by omega
 have hr:=g.row _ (Eo hy);have hx:x.toNat<Jm[y.toNat].length:=by omega
 refine⟨Jm[y.toNat],qz (F:=fun q:List Int=>PyData.list (q.map .int)) (by omega) hy,?_⟩;rw [qz (j:=x.toNat) (by omega) hx];unfold zK;rw [DO,DO,DK hy,Option.getD_some,DK hx];rfl
theorem An (F:Def K mg "stands_high" jO pI):FnIn P w K mg base (k+1) "stands_high" pI (iw K):=by
 refine F.ok qI rfl fun fa cdv A outer s H E hr=>⟨_,(zd (yl (pv 2) (zH (K:=K) (n:=2) rfl rfl (zg (zf (i:=3) qI.nd rfl (Or.inl rfl) (Or.inr rfl)) (zg (zf (i:=4) qI.nd rfl (Or.inl rfl) (Or.inr rfl)) zD)))) (zh (zu (yC iY (zq (zF (K:=K) rfl) (zq (zF (K:=K) rfl) (pv 0) (pv 4) (fun _ _=>rfl)) (pv 3) (fun _ _=>rfl)) (pv 1) (zI _))))),?_⟩;rintro f xs ⟨Jm,wd,cut,x,y⟩ hl ⟨rfl,g,hi⟩
 try dsimp only [ye,zk]
 dsimp only at *;obtain⟨r,h1,h2⟩:=eT g hi;unfold tab;walk_at "w";refine⟨_,h1,?_⟩;walk_at "w";refine⟨_,h2,?_⟩;walk_at "w";rfl
abbrev oD (K:DP):Sp:=spD K 1 (fun (c:Int×Int×Int) xs=>xs=[.dat (vb c.1 c.2.1 c.2.2)]) fun c r=>r=.list [.tuple [.int c.1,.int c.2.1],.tuple [.int (px c.1 c.2.2),.int (py c.2.1 c.2.2)]]
theorem Cq (F:Def K mg "gate_points" jP ["gate"]):FnIn P w K mg base (k+1) "gate_points" ["gate"] (oD K):=by
 refine F.ok jC rfl fun fa cdv A outer s H E hr=>⟨_,(zd (yl (pv 0) (zH (K:=K) (n:=3) rfl rfl (zg (zf (i:=1) jC.nd rfl (Or.inl rfl) (Or.inr rfl)) (zg (zf (i:=2) jC.nd rfl (Or.inl rfl) (Or.inr rfl)) (zg (zf (i:=3) jC.nd rfl (Or.inl rfl) (Or.inr rfl)) zD))))) (zd (yr (zQ (yw (K:=K) rfl hr.units) (pv 3) zc (zI _)) (zh (zu (yL (za (zJ (za (pv 1) (za (pv 2) zb))) (za (zJ (za (zr z8 (pv 1) zc) (za (pv 2) zb))) zb))))) zS) (zh (zu (yL (za (zJ (za (pv 1) (za (pv 2) zb))) (za (zJ (za (pv 1) (za (zr z8 (pv 2) zc) zb))) zb))))))),?_⟩;rintro f xs ⟨x,y,w⟩ hl rfl
 try dsimp only [ye,zk]
 dsimp only at *;unfold vb;walk_at "w";rw [Jo DL,jk];refine z9 (fun h=>?_) fun h=>?_
 ·have h':=of_decide_eq_true h;walk_at "w";unfold px py;rw [Jp h',Jp h']
 ·have h':=of_decide_eq_false h;walk_at "w";unfold px py;rw [Jo h',Jo h']
abbrev u6 (K:DP):Sp:=spD K 2 (fun (c:List (List Int)×Nat×Int×Int×Int) xs=>xs=[.dat (tab c.1),.dat (vb c.2.2.1 c.2.2.2.1 c.2.2.2.2)]/\Good c.2.1 c.1) fun c r=>r=.bool (aD c.1 c.2.1 c.2.2.1 c.2.2.2.1 c.2.2.2.2)
theorem Ao (F:Def K mg "has_gate" vQ pM) (uai:mg "all"=none) (uaj:FnIn P w K mg base k "has_point" pq (oC K)) (uas:FnIn P w K mg base k "gate_points" ["gate"] (oD K)):FnIn P w K mg base (k+1) "has_gate" pM (u6 K):=by
 refine F.ok kX rfl fun fa cdv A outer s H E hr=>⟨_,(zd (yr (zQ (rJ (K:=K) rfl) (zq (zj (K:=K) rfl) (pv 1) zc (fun _ _=>rfl)) (zJ (za zc (za zc zb))) rfl) (zh (zu bb)) zS) (zh (zu (zB (fL (K:=K) rfl rfl) rfl uai IC (za (yZ (N:=pR) (own:=2) (fr:=[0]) (by walk_at "c") rfl (yg (K:=K) rfl (ze uas hr rfl (za (pv 1) zb))) (fun _ _ _ _=>(zH (K:=K) (n:=2) rfl rfl (zg (zf (i:=0) (show (pR:List Str).Nodup by decide +kernel) rfl (Or.inl rfl) (Or.inr rfl)) (zg (zf (i:=1) (show (pR:List Str).Nodup by decide +kernel) rfl (Or.inl rfl) (Or.inr rfl)) zD)))) (fun _ _ _ _=>yV) (fun _ _ _ _=>(ze uaj hr rfl (za (pv 2) (za (pv 0) (za (pv 1) zb))))) rfl rfl (fun _=>rfl)) zb))))),?_⟩;rintro f xs ⟨Jm,wd,x,y,w⟩ hl ⟨rfl,g⟩
 try dsimp only [ye,zk]
 dsimp only at *;refine yc (aZ (jL (uh ?_)));unfold vb;walk_at "w";refine⟨[0,1],rfl,_,rfl,?_⟩;have hc:(([0,1]:List Int).contains w)=decide (w=0 \/ w=1):=by
  rw [Bool.eq_iff_iff];simp
 rw [hc];by_cases h:w=0 \/ w=1
 ·rw [Jq h,E4,Jo DL];refine y3 (yW (A3 (PEdO.ped (fK (A:=fun p:Int×Int=>PyData.tuple [.int p.1,.int p.2]) (B:=fun p:Int×Int=>PyData.bool (yn Jm wd p.1 p.2)) [(x,y),(px x w,py y w)] (yI (zo (x,y,w) ?_))))));walk_at "w";rintro _ rfl;refine⟨_,rfl,rfl,show 2<=1000 by decide,?_,?_⟩
  ·rintro D p ρ' es hp ho hes;obtain⟨u,v,rfl⟩:=ho.two;refine jr rfl (zz (zp (zz (zp (yu (qP ?_))))));rw [Jp rfl];refine jB hes (zo (Jm,wd,p.1,p.2) ?_);walk_at "w";rintro _ rfl;exact⟨.mk2,rfl⟩
  ·refine⟨[yn Jm wd x y,yn Jm wd (px x w) (py y w)],rfl,?_⟩;show PyData.bool _=PyData.bool _;unfold aD;rw [Jq h,FO];show PyData.bool (yn Jm wd x y && (yn Jm wd (px x w) (py y w) && true))=_;rw [I0]
 ·rw [Jr h,Gb,Jp rfl];walk_at "w";unfold aD;rw [Jr h];rfl
abbrev ix (K:DP):Sp:=spD K 3 (fun (c:List (List Int)×Nat×Int×Int×Int×Int) xs=>xs=[.dat (tab c.1),.dat (.int c.2.2.1),.dat (vb c.2.2.2.1 c.2.2.2.2.1 c.2.2.2.2.2)]/\Good c.2.1 c.1) fun c r=>r=.bool (yF c.1 c.2.1 c.2.2.1 c.2.2.2.1 c.2.2.2.2.1 c.2.2.2.2.2)
theorem vt {Jm:List (List Int)} {wd:Nat} {x y w:Int} (h:aD Jm wd x y w=true):yn Jm wd x y=true/\yn Jm wd (px x w) (py y w)=true:=by
 unfold aD at h;rw [DW,DW] at h;exact h.2
theorem Ap (F:Def K mg "is_open" aQ pf) (ubd:FnIn P w K mg base k "has_gate" pM (u6 K)) (uas:FnIn P w K mg base k "gate_points" ["gate"] (oD K)) (uak:FnIn P w K mg base k "stands_high" pI (iw K)):FnIn P w K mg base (k+1) "is_open" pf (ix K):=by
 refine F.ok bC rfl fun fa cdv A outer s H E hr=>⟨_,(zd (yr (gG (yj (K:=K) rfl (ze ubd hr rfl (za (pv 0) (za (pv 2) zb))) (fun _=>rfl))) (zh (zu bb)) zS) (zd (yl (ze uas hr rfl (za (pv 2) zb)) (gR (K:=K) (n:=2) rfl rfl (zg (zf (i:=3) bC.nd rfl (Or.inl rfl) (Or.inr rfl)) (zg (zf (i:=4) bC.nd rfl (Or.inl rfl) (Or.inr rfl)) zD)))) (zh (zu (yC (d9 (K:=K) rfl hr.units) (ze uak hr rfl (za (pv 0) (za (pv 1) (za (pv 3) zb)))) (ze uak hr rfl (za (pv 0) (za (pv 1) (za (pv 4) zb)))) (zI _)))))),?_⟩;rintro f xs ⟨Jm,wd,cut,x,y,w⟩ hl ⟨rfl,g⟩
 try dsimp only [ye,zk]
 dsimp only at *;refine yc (aZ (t5 (jA (zo (Jm,wd,x,y,w) ?_))));walk_at "w";rintro _ rfl;refine⟨_,rfl,?_⟩;dsimp only;cases h:aD Jm wd x y w with
 | false =>
  rw [Gb,Jp rfl];walk_at "w";unfold yF;rw [h];rfl
 | true =>
  rw [E4,Jo DL];obtain⟨i1,i2⟩:=vt h;refine y3 (yc (yf (zo (x,y,w) ?_)));walk_at "w";rintro _ rfl;dsimp only;refine uf rfl (zz (zp (zz (zp (yu ?_)))));refine yW (d6 (zo (Jm,wd,cut,x,y) ?_));walk_at "w";rintro _ rfl;refine zo (Jm,wd,cut,px x w,py y w) ?_;walk_at "w";rintro _ rfl;dsimp only;walk_at "w";show PyData.bool _=PyData.bool _;unfold yF;rw [h,FO,Jp rfl,ll];rfl
theorem jH {n i:Nat} {d:PyData} (h:(av n)[i]?=some d):i<n/\d=.int (i:Int):=by
 unfold av at h;rw [DX] at h;by_cases hi:i<n
 ·rw [FG hi] at h;cases h;exact⟨hi,rfl⟩
 ·rw [En (by rw [EJ];omega)] at h;cases h
theorem jN (n:Nat):(av n).length=n:=by unfold av;simp
noncomputable def Aq (x y:Nat):PyData:=.tuple [.int x,.int y]
noncomputable def vw (t n:Nat):List PyData:=(Ec n).flatMap fun x=>(Ec t).map (Aq x)
theorem lq (t n:Nat):vw t (n+1)=vw t n++(Ec t).map (Aq n):=by
 unfold vw;rw [HB,E7];simp
theorem iy (t:Nat):∀ n,(vw t n).length=t * n
 | 0=>rfl
 | n+1=>by rw [lq,D6,iy t n,DM,EJ,Nat.mul_succ]
abbrev b9 (K:DP):Sp:=spD K 1 (fun (c:List (List Int)×Nat) xs=>xs=[.dat (tab c.1)]/\Good c.2 c.1) fun c r=>r=.list (vw c.1.length c.2)
theorem sG (F:Def K mg "points" bW ph) (uab:mg "range"=none) (uaB:FnIn P w K mg base k "size" ph (u5 K)):FnIn P w K mg base (k+1) "points" ph (b9 K):=by
 refine F.ok cG rfl fun fa cdv A outer s H E hr=>⟨_,(zd (yl (ze uaB hr rfl (za (pv 0) zb)) (zH (K:=K) (n:=2) rfl rfl (zg (zf (i:=1) cG.nd rfl (Or.inl rfl) (Or.inr rfl)) (zg (zf (i:=2) cG.nd rfl (Or.inr rfl) (Or.inl rfl)) zD)))) (zh (zu (kh (N:=["x","y","tall"]) (own:=2) (fr:=[2]) (by walk_at "c") rfl (yH rfl uab (za (pv 1) zb)) (fun _ _ _ _=>(zf (i:=0) (show (["x","y","tall"]:List Str).Nodup by decide +kernel) rfl (Or.inl rfl) (Or.inr rfl))) (fun _ _ _ _=>yV) (fun _ _ _ _=>(yH rfl uab (za (pv 2) zb))) (fun _ _ _ _=>(zf (i:=1) (show (["x","y","tall"]:List Str).Nodup by decide +kernel) rfl (Or.inl rfl) (Or.inr rfl))) (fun _ _ _ _=>yV) (fun _ _ _ _=>(zJ (za (pv 0) (za (pv 1) zb)))) rfl rfl (fun _=>rfl) (fun _ _ _ _ _=>rfl))))),?_⟩;rintro f xs ⟨Jm,wd⟩ hl ⟨rfl,g⟩
 try dsimp only [ye,zk]
 dsimp only at *;have g2:=g.h2;have w2:=g.w2;refine yc (yf (zo (Jm,wd) ?_));walk_at "w";rintro _ rfl;refine jr rfl (zz (zp (zz (zp (yu ?_)))));refine yW (PEdO.ped (aw (j9 (zP (zC rfl (jb ⟨_,rfl,by dsimp only;omega,by dsimp only;omega,fun n ρ es=>(∃ u v,ρ=[u,v,some (.dat (.int Jm.length))])/\es=vw Jm.length n,⟨⟨_,_,rfl⟩,rfl⟩,?_,?_⟩))))))
 ·rintro D n d ρ' es hd ⟨⟨u,v,rfl⟩,rfl⟩;obtain⟨hn,rfl⟩:=jH hd;have hn':n<wd:=by have:n<((wd:Int)).toNat:=hn;omega
  have l1:Jm.length * n<=7 * 7:=Ge g2 (by omega);refine zp (qP ?_);rw [Jp rfl];refine BP (j9 (zP (zC rfl (jb ⟨_,rfl,by omega,by omega,fun m ρ es=>(∃ v,ρ=[some (.dat (.int n)),v,some (.dat (.int Jm.length))])/\es=vw Jm.length n++(Ec m).map (Aq n),⟨⟨_,rfl⟩,by simp⟩,?_,?_⟩))))
  ·rintro m d ρ2 es2 hd2 ⟨⟨v,rfl⟩,rfl⟩;obtain⟨hm,rfl⟩:=jH hd2;have hm':m<Jm.length:=by have:m<((Jm.length:Int)).toNat:=hm;omega
   refine zp (qP ?_);rw [Jp rfl];refine jB (by rw [D6,iy,DM,EJ];omega) ?_;walk_at "w";rw [HB,Eg,Fj];rfl
  ·rintro ρ2 es2 ⟨⟨v,rfl⟩,rfl⟩;rw [jN,EX];exact⟨⟨_,_,rfl⟩,by rw [lq]⟩
 ·rintro ρ' es ⟨_,rfl⟩;rw [jN,EX]
noncomputable def F2:PyData->List PyData
 | .tuple [.int x,.int y]=>[vb x y 0,vb x y 1]
 | _=>[]
noncomputable def gD3 (g:Int×Int×Int):PyData:=vb g.1 g.2.1 g.2.2
noncomputable def opG (Jm:List (List Int)) (wd:Nat) (cut:Int) (g:Int×Int×Int):Bool:=yF Jm wd cut g.1 g.2.1 g.2.2
noncomputable def je (t n:Nat):List (Int×Int×Int):=(Ec n).flatMap fun (x:Nat)=>(Ec t).flatMap fun (y:Nat)=>[((x:Int),(y:Int),(0:Int)),((x:Int),(y:Int),(1:Int))]
theorem lr (t n:Nat):(vw t n).flatMap F2=(je t n).map gD3:=by
 unfold vw je;rw [List.flatMap_assoc,Hl]
 congr 1
 funext x
 rw [List.flatMap_map,Hl];rfl
theorem Ar {t n:Nat} {d:PyData} (h:d∈vw t n):∃ x y:Nat,d=Aq x y:=by
 obtain⟨x,_,h⟩:=Ew.mp h;obtain⟨y,_,rfl⟩:=Ee.mp h;exact⟨x,y,rfl⟩
theorem eU {α:Type} {F:Nat->List α} {b:Nat} (h:∀ n,(F n).length<=b):∀ n,((Ec n).flatMap F).length<=b * n
 | 0=>by simp
 | n+1=>by
  rw [HB,E7,D6];have:=eU h n;have:=h n;simp only [G8,List.flatMap_nil,ER];rw [Nat.mul_succ];omega
theorem gc {t n:Nat} (ht:t<=7) (hn:n<=7):(je t n).length<=98:=by
 have h:=eU (F:=fun (x:Nat)=>(Ec t).flatMap fun (y:Nat)=>[((x:Int),(y:Int),(0:Int)),((x:Int),(y:Int),(1:Int))]) (b:=2 * t) (fun x=>eU (F:=fun (y:Nat)=>[((x:Int),(y:Int),(0:Int)),((x:Int),(y:Int),(1:Int))]) (b:=2) (fun y=>DU 2) t) n;exact Em h (Ge (show 2 * t<=14 by omega) hn)
noncomputable def Cr (Jm:List (List Int)) (wd:Nat) (cut:Int) (x y:Nat):List (Int×Int×Int):=(if yF Jm wd cut x y 0=true then [((x:Int),(y:Int),(0:Int))] else [])++if yF Jm wd cut x y 1=true then [((x:Int),(y:Int),(1:Int))] else []
noncomputable def yx (Jm:List (List Int)) (wd:Nat) (cut:Int):List (Int×Int×Int):=(Ec wd).flatMap fun x=>(Ec Jm.length).flatMap fun y=>Cr Jm wd cut x y
theorem sH {α:Type} {F:Nat->List α} (n:Nat):(Ec (n+1)).flatMap F=(Ec n).flatMap F++F n:=by
 rw [HB,E7];simp
theorem Au (Jm:List (List Int)) (wd:Nat) (cut:Int) (x y:Nat):Cr Jm wd cut x y=[((x:Int),(y:Int),(0:Int)),((x:Int),(y:Int),(1:Int))].filter (opG Jm wd cut):=by
 unfold Cr opG;simp only [ET,Iw];cases yF Jm wd cut x y 0 <;> cases yF Jm wd cut x y 1 <;> rfl
theorem aE (Jm:List (List Int)) (wd:Nat) (cut:Int):yx Jm wd cut=(je Jm.length wd).filter (opG Jm wd cut):=by
 unfold yx je;rw [IX]
 congr 1
 funext x
 rw [IX]
 congr 1
 funext y
 exact Au Jm wd cut x y
def gLt (a b:Int×Int×Int):Prop:=a.1<b.1 \/ (a.1=b.1/\(a.2.1<b.2.1 \/ (a.2.1=b.2.1/\a.2.2<b.2.2)))
theorem oE {α:Type} {R:α->α->Prop} {F:Nat->List α} (n:Nat) (h1:∀ i,i<n->(F i).Pairwise R) (h2:∀ i j,i<j->j<n->∀ a∈F i,∀ b∈F j,R a b):((Ec n).flatMap F).Pairwise R:=by
 induction n with
 | zero=>simp
 | succ n ih =>
  rw [sH,Ht];refine⟨ih (fun i hi=>h1 i (by omega)) (fun i j hij hj=>h2 i j hij (by omega)),h1 n (by omega),fun a ha b hb=>?_⟩;obtain⟨i,hi,ha⟩:=Ew.mp ha;exact h2 i n (Es.mp hi) (by omega) a ha b hb
theorem lu (t n:Nat):(je t n).Pairwise gLt:=by
 unfold je;refine oE n (fun x _=>oE t (fun y _=>?_) fun y y' hy _ a ha b hb=>?_) fun x x' hx _ a ha b hb=>?_
 ·simp [gLt]
 ·simp only [D0,E6,or_false] at ha hb;rcases ha with rfl | rfl <;> rcases hb with rfl | rfl <;> (unfold gLt;dsimp only;omega)
 ·obtain⟨y,_,ha⟩:=Ew.mp ha;obtain⟨y',_,hb⟩:=Ew.mp hb;simp only [D0,E6,or_false] at ha hb;rcases ha with rfl | rfl <;> rcases hb with rfl | rfl <;> (unfold gLt;dsimp only;omega)
theorem gf {Jm:List (List Int)} {wd:Nat} {cut:Int} (g:Good wd Jm):(yx Jm wd cut).length<=98:=by
 rw [aE];exact Em (EV _ _) (gc g.h2 g.w2)
abbrev oF (K:DP):Sp:=spN K 2 (fun (c:List (List Int)×Nat×Int) xs=>xs=[.dat (tab c.1),.dat (.int c.2.2)]/\Good c.2.1 c.1) fun c es=>es=((je c.1.length c.2.1).filter (opG c.1 c.2.1 c.2.2)).map gD3
theorem u7 (F:Def K mg "gates" dA pC) (uah:FnIn P w K mg base k "ask_table" ph (fY K)) (uat:FnIn P w K mg base k "points" ph (b9 K)) (uau:FnIn P w K mg base k "is_open" pf (ix K)):FnIn P w K mg base (k+1) "gates" pC (oF K):=by
 refine F.okN kW rfl fun fa cdv A outer s H E hr=>⟨_,(zd (jx (ze uah hr rfl (za (pv 0) zb))) (zd (kl (i:=2) (N:=qi) (own:=3) (fr:=[]) (by walk_at "c") rfl kW.nd rfl (Or.inl rfl) (yg (K:=K) rfl (ze uat hr rfl (za (pv 0) zb))) (fun _ _ _ _=>(zH (K:=K) (n:=2) rfl rfl (zg (zf (i:=0) (show (qi:List Str).Nodup by decide +kernel) rfl (Or.inl rfl) (Or.inr rfl)) (zg (zf (i:=1) (show (qi:List Str).Nodup by decide +kernel) rfl (Or.inl rfl) (Or.inr rfl)) zD)))) (fun _ _ _ _=>yV) (fun _ _ _ _=>(gP (K:=K) rfl (zJ (za zc (za zc zb))))) (fun _ _ _ _=>(zf (i:=2) (show (qi:List Str).Nodup by decide +kernel) rfl (Or.inl rfl) (Or.inr rfl))) (fun _ _ _ _=>yV) (fun _ _ _ _=>(zJ (za (pv 0) (za (pv 1) (za (pv 2) zb))))) rfl rfl (fun _=>rfl) (fun _ _ _ _ _=>rfl) (Or.inl rfl) rfl) (zh (zu (yZ (N:=pE) (own:=1) (fr:=[0,1]) (by walk_at "c") rfl (yg (K:=K) rfl (pv 2)) (fun _ _ _ _=>(zf (i:=0) (show (pE:List Str).Nodup by decide +kernel) rfl (Or.inl rfl) (Or.inr rfl))) (fun _ _ _ _=>(dm (yj (K:=K) rfl (ze uau hr rfl (za (pv 1) (za (pv 2) (za (pv 0) zb)))) (fun _=>rfl)))) (fun _ _ _ _=>(pv 0)) rfl rfl (fun _=>rfl)))))),?_⟩;rintro f xs ⟨Jm,wd,cut⟩ hl ⟨rfl,g⟩
 try dsimp only [ye,zk]
 dsimp only at *;have sl:=gc g.h2 g.w2;refine ax (cq (zo (Jm,wd) ?_));walk_at "w";rintro _ rfl;refine ax (yf (PEdO.ped (BQ (yI (zo (Jm,wd) ?_)))));walk_at "w";rintro _ rfl;refine⟨_,rfl,F2,by rw [lr,DM];exact Em sl (by decide),?_,?_⟩
 ·rintro D d ρ' es hd ho hes;obtain⟨x,y,rfl⟩:=Ar hd;obtain⟨u1,u2,u3,rfl⟩:=ho.three;refine jr rfl (zz (zp (zz (zp (yu (qP ?_))))));rw [Jp rfl];have hes':es.length+2<=1000:=hes;refine BP (ua (au (zP (qD (zP (qD (jb ⟨_,rfl,by simp,_,rfl,fun m ρ es2=>(∃ v,ρ=[some (.dat (.int x)),some (.dat (.int y)),v])/\es2=es++[vb x y 0,vb x y 1].take m,⟨⟨_,rfl⟩,by simp⟩,?_,?_⟩)))))))
  ·rintro m d ρ2 es2 hd2 ⟨⟨v,rfl⟩,rfl⟩;have hm:(m=0/\d=.int 0) \/ (m=1/\d=.int 1):=by
    rcases m with _ | _ | q
    ·cases hd2;exact .inl ⟨rfl,rfl⟩
    ·cases hd2;exact .inr ⟨rfl,rfl⟩
    ·cases hd2
   rcases hm with⟨rfl,rfl⟩ | ⟨rfl,rfl⟩
   ·refine zp (qP ?_);rw [Jp rfl];refine jB (by simp;omega) ?_;walk_at "w";simp;rfl
   ·refine zp (qP ?_);rw [Jp rfl];refine jB (by simp;omega) ?_;walk_at "w";simp;rfl
  ·rintro ρ2 es2 ⟨⟨v,rfl⟩,rfl⟩;exact⟨⟨[_,_,_],rfl,rfl⟩,rfl⟩
 ·rw [show List.flatMap F2 (vw (Jm,wd).1.length (Jm,wd).2)=(je Jm.length wd).map gD3 from lr _ _];refine zp (eE (aw (yI (zC rfl ⟨_,rfl,fun n ρ es=>(∃ u,ρ=[u,some (.dat (tab Jm)),some (.dat (.int cut))])/\es=(((je Jm.length wd).take n).filter (opG Jm wd cut)).map gD3,⟨⟨_,rfl⟩,rfl⟩,?_,?_⟩))))
  ·rintro D n d ρ' es hd ⟨⟨u,rfl⟩,rfl⟩;rw [DX] at hd;cases hq:(je Jm.length wd)[n]? with
   | none=>rw [hq] at hd;cases hd
   | some q =>
    rw [hq] at hd;cases hd;have tk:(je Jm.length wd).take (n+1)=(je Jm.length wd).take n++[q]:=by
     rw [G9,hq];rfl
    have len:((((je Jm.length wd).take n).filter (opG Jm wd cut)).map gD3).length<1000:=by
     rw [DM];have a1:=EV (opG Jm wd cut) ((je Jm.length wd).take n);rw [Et] at a1;omega
    refine zp (jA (zo (Jm,wd,cut,q.1,q.2.1,q.2.2) ?_));unfold gD3 at *;walk_at "w";rintro _ rfl;dsimp only;refine⟨_,rfl,?_⟩;refine z9 (fun h=>?_) fun h=>?_
    ·refine jB len ?_;walk_at "w";rw [tk,Fg,Eg,ET,show opG Jm wd cut q=true from h,Jp rfl];rfl
    ·refine⟨⟨_,rfl⟩,?_⟩;rw [tk,Fg,Eg,ET,show opG Jm wd cut q=false from h,Jo DL];simp
  ·rintro ρ' es ⟨_,rfl⟩;rw [DM,Eu]
abbrev CC:=List (List Int)×Nat×Int×Int×Int
noncomputable def z7 (Jm:List (List Int)) (wd:Nat) (x y:Int):Bool:=yn Jm wd x y && yn Jm wd (x+1) (y+1)
noncomputable def hiB (Jm:List (List Int)) (cut x y:Int):Bool:=decide (cut<zK Jm x y)
theorem cell_in {Jm:List (List Int)} {wd:Nat} {x y:Int} (h:z7 Jm wd x y=true):yn Jm wd x y=true/\yn Jm wd (x+1) y=true/\yn Jm wd (x+1) (y+1)=true/\yn Jm wd x (y+1)=true:=by
 unfold z7 at h;rw [DW] at h;obtain⟨a0,a1,a2,a3⟩:=jM h.1;obtain⟨b0,b1,b2,b3⟩:=jM h.2;refine⟨h.1,?_,h.2,?_⟩ <;> unfold yn <;> rw [Jq (by omega),Jq (by omega)] <;> rfl
section
variable {Jm:List (List Int)} {wd:Nat} {cut x y:Int}
theorem oG (h:z7 Jm wd x y=true):yF Jm wd cut x y 0=(hiB Jm cut x y != hiB Jm cut (x+1) y):=by
 obtain⟨a,b,c,d⟩:=cell_in h;unfold yF aD;show (decide ((0:Int)=0 \/ (0:Int)=1) && (yn Jm wd x y && yn Jm wd (x+1) y) && _)=_;rw [a,b];rfl
theorem u9 (h:z7 Jm wd x y=true):yF Jm wd cut x y 1=(hiB Jm cut x y != hiB Jm cut x (y+1)):=by
 obtain⟨a,b,c,d⟩:=cell_in h;unfold yF aD;show (decide ((1:Int)=0 \/ (1:Int)=1) && (yn Jm wd x y && yn Jm wd x (y+1)) && _)=_;rw [a,d];rfl
theorem oH (h:z7 Jm wd x y=true):yF Jm wd cut x (y+1) 0=(hiB Jm cut x (y+1) != hiB Jm cut (x+1) (y+1)):=by
 obtain⟨a,b,c,d⟩:=cell_in h;unfold yF aD;show (decide ((0:Int)=0 \/ (0:Int)=1) && (yn Jm wd x (y+1) && yn Jm wd (x+1) (y+1)) && _)=_;rw [c,d];rfl
theorem oI (h:z7 Jm wd x y=true):yF Jm wd cut (x+1) y 1=(hiB Jm cut (x+1) y != hiB Jm cut (x+1) (y+1)):=by
 obtain⟨a,b,c,d⟩:=cell_in h;unfold yF aD;show (decide ((1:Int)=0 \/ (1:Int)=1) && (yn Jm wd (x+1) y && yn Jm wd (x+1) (y+1)) && _)=_;rw [b,c];rfl
end
noncomputable def cg (x y:Int):List (Int×Int×Int):=[(x,y,0),(x,y,1),(x,y+1,0),(x+1,y,1)]
noncomputable def iA (Jm:List (List Int)) (wd:Nat) (cut x y:Int):Bool:=(cg x y).all (opG Jm wd cut)
noncomputable def Dq (Jm:List (List Int)) (x y:Int):Int:=zK Jm x y+(zK Jm (x+1) y+(zK Jm (x+1) (y+1)+(zK Jm x (y+1)+0)))
noncomputable def cI (Jm:List (List Int)) (cut x y:Int):Bool:=decide (4 * cut+2<=Dq Jm x y)
noncomputable def pairD (g h:Int×Int×Int):PyData:=.tuple [gD3 g,gD3 h]
abbrev mR (K:DP):Sp:=spD K 3 (fun (c:List (List Int)×Nat×Int×Int) xs=>xs=[.dat (tab c.1),.dat (.int c.2.2.1),.dat (.int c.2.2.2)]/\Good c.2.1 c.1) fun c r=>r=.bool (z7 c.1 c.2.1 c.2.2.1 c.2.2.2)
theorem Av (F:Def K mg "has_cell" vN pq) (uaj:FnIn P w K mg base k "has_point" pq (oC K)):FnIn P w K mg base (k+1) "has_cell" pq (mR K):=by
 refine F.ok kS rfl fun fa cdv A outer s H E hr=>⟨_,(zh (zu (ao (ze uaj hr rfl (za (pv 0) (za (pv 1) (za (pv 2) zb)))) (bu (ze uaj hr rfl (za (pv 0) (za (zr z8 (pv 1) zc) (za (zr z8 (pv 2) zc) zb)))))))),?_⟩;rintro f xs ⟨Jm,wd,x,y⟩ hl ⟨rfl,g⟩
 try dsimp only [ye,zk]
 dsimp only at *;refine yW (l7 (zo (Jm,wd,x,y) ?_));walk_at "w";rintro _ rfl;dsimp only;refine⟨_,rfl,?_⟩;refine z9 (fun h=>?_) fun h=>?_
 ·refine zo (Jm,wd,x+1,y+1) ?_;walk_at "w";rintro _ rfl;dsimp only;unfold z7;rw [h,FO]
 ·unfold z7;rw [h,Fc]
abbrev gj (K:DP):Sp:=spD K 2 (fun (c:Int×Int) xs=>xs=[.dat (.int c.1),.dat (.int c.2)]) fun c r=>r=.list [.tuple [.int c.1,.int c.2],.tuple [.int (c.1+1),.int c.2],.tuple [.int (c.1+1),.int (c.2+1)],.tuple [.int c.1,.int (c.2+1)]]
theorem mS (F:Def K mg "corners" aP pL):FnIn P w K mg base (k+1) "corners" pL (gj K):=by
 refine F.ok mH rfl fun fa cdv A outer s H E hr=>⟨_,(zh (zu (yL (za (zJ (za (pv 0) (za (pv 1) zb))) (za (zJ (za (zr z8 (pv 0) zc) (za (pv 1) zb))) (za (zJ (za (zr z8 (pv 0) zc) (za (zr z8 (pv 1) zc) zb))) (za (zJ (za (pv 0) (za (zr z8 (pv 1) zc) zb))) zb))))))),?_⟩;rintro f xs ⟨x,y⟩ hl rfl
 try dsimp only [ye,zk]
 dsimp only at *;walk_at "w";rfl
abbrev cc (K:DP):Sp:=spD K 1 (fun (c:Int×Int) xs=>xs=[.dat (.tuple [.int c.1,.int c.2])]) fun c r=>r=.list ((cg c.1 c.2).map gD3)
theorem sI (F:Def K mg "cell_gates" qt ["cell"]):FnIn P w K mg base (k+1) "cell_gates" ["cell"] (cc K):=by
 refine F.ok vg rfl fun fa cdv A outer s H E hr=>⟨_,(zd (yl (pv 0) (zH (K:=K) (n:=2) rfl rfl (zg (zf (i:=1) vg.nd rfl (Or.inl rfl) (Or.inr rfl)) (zg (zf (i:=2) vg.nd rfl (Or.inl rfl) (Or.inr rfl)) zD)))) (zh (zu (yL (za (zJ (za (pv 1) (za (pv 2) (za zc zb)))) (za (zJ (za (pv 1) (za (pv 2) (za zc zb)))) (za (zJ (za (pv 1) (za (zr z8 (pv 2) zc) (za zc zb)))) (za (zJ (za (zr z8 (pv 1) zc) (za (pv 2) (za zc zb)))) zb)))))))),?_⟩;rintro f xs ⟨x,y⟩ hl rfl
 try dsimp only [ye,zk]
 dsimp only at *;walk_at "w";rfl
abbrev Aw (c:CC) (xs:List DV):Prop:=xs=[.dat (tab c.1),.dat (.int c.2.2.1),.dat (.tuple [.int c.2.2.2.1,.int c.2.2.2.2])]/\Good c.2.1 c.1/\z7 c.1 c.2.1 c.2.2.2.1 c.2.2.2.2=true
abbrev gk (K:DP):Sp:=spD K 3 Aw fun c r=>r=.bool (iA c.1 c.2.1 c.2.2.1 c.2.2.2.1 c.2.2.2.2)
theorem mT (F:Def K mg "is_crossed" qu pj) (uai:mg "all"=none) (uau:FnIn P w K mg base k "is_open" pf (ix K)) (uav:FnIn P w K mg base k "cell_gates" ["cell"] (cc K)):FnIn P w K mg base (k+1) "is_crossed" pj (gk K):=by
 refine F.ok fu rfl fun fa cdv A outer s H E hr=>⟨_,(zh (zu (zB (fL (K:=K) rfl rfl) rfl uai IC (za (yZ (N:=pE) (own:=1) (fr:=[0,1]) (by walk_at "c") rfl (yg (K:=K) rfl (ze uav hr rfl (za (pv 2) zb))) (fun _ _ _ _=>(zf (i:=0) (show (pE:List Str).Nodup by decide +kernel) rfl (Or.inl rfl) (Or.inr rfl))) (fun _ _ _ _=>yV) (fun _ _ _ _=>(ze uau hr rfl (za (pv 1) (za (pv 2) (za (pv 0) zb))))) rfl rfl (fun _=>rfl)) zb)))),?_⟩;rintro f xs ⟨Jm,wd,cut,x,y⟩ hl ⟨rfl,g,hc⟩
 try dsimp only [ye,zk]
 dsimp only at *;refine yW (A3 (PEdO.ped (fK (A:=gD3) (B:=fun q=>PyData.bool (opG Jm wd cut q)) (cg x y) (yI (zo (x,y) ?_)))));walk_at "w";rintro _ rfl;refine⟨_,rfl,rfl,show 4<=1000 by decide,?_,?_⟩
 ·rintro D q ρ' es hq ho hes;obtain⟨u,rfl⟩:=ho.one;refine zp (qP ?_);rw [Jp rfl];refine jB hes (zo (Jm,wd,cut,q.1,q.2.1,q.2.2) ?_);unfold gD3;walk_at "w";rintro _ rfl;exact⟨.mk1,rfl⟩
 ·refine⟨(cg x y).map (opG Jm wd cut),by rw [FJ];rfl,?_⟩;show PyData.bool _=PyData.bool _;unfold iA;rw [List.all_map];rfl
abbrev Bc (K:DP):Sp:=spD K 3 Aw fun c r=>r=.bool (cI c.1 c.2.2.1 c.2.2.2.1 c.2.2.2.2)
theorem Cs (F:Def K mg "has_high_middle" yX pj) (uaC:mg "sum"=none) (ube:FnIn P w K mg base k "corners" pL (gj K)):FnIn P w K mg base (k+1) "has_high_middle" pj (Bc K):=by
 refine F.ok jo rfl fun fa cdv A outer s H E hr=>⟨_,(zd (yl (pv 2) (zH (K:=K) (n:=2) rfl rfl (zg (zf (i:=3) jo.nd rfl (Or.inl rfl) (Or.inr rfl)) (zg (zf (i:=4) jo.nd rfl (Or.inl rfl) (Or.inr rfl)) zD)))) (zh (zu (yC AW (zB (md (K:=K) rfl rfl) rfl uaC PyProof.Rows.boot_sum (za (yZ (N:=pS) (own:=2) (fr:=[0]) (by walk_at "c") rfl (yg (K:=K) rfl (ze ube hr rfl (za (pv 3) (za (pv 4) zb)))) (fun _ _ _ _=>(zH (K:=K) (n:=2) rfl rfl (zg (zf (i:=0) (show (pS:List Str).Nodup by decide +kernel) rfl (Or.inl rfl) (Or.inr rfl)) (zg (zf (i:=1) (show (pS:List Str).Nodup by decide +kernel) rfl (Or.inl rfl) (Or.inr rfl)) zD)))) (fun _ _ _ _=>yV) (fun _ _ _ _=>(zq (zF (K:=K) rfl) (zq (zF (K:=K) rfl) (pv 2) (pv 1) (fun _ _=>rfl)) (pv 0) (fun _ _=>rfl))) rfl rfl (fun _=>rfl)) zb)) (zr z8 (zr bx zc (pv 1)) zc) (zI _))))),?_⟩;rintro f xs ⟨Jm,wd,cut,x,y⟩ hl ⟨rfl,g,hc⟩
 try dsimp only [ye,zk]
 dsimp only at *;obtain⟨i1,i2,i3,i4⟩:=cell_in hc;refine yc (yf (zC rfl (jr rfl (zz (zp (zz (zp (yu ?_))))))));refine yW (km (Dc (PEdO.ped (fK (A:=fun p:Int×Int=>PyData.tuple [.int p.1,.int p.2]) (B:=fun p:Int×Int=>PyData.int (zK Jm p.1 p.2)) [(x,y),(x+1,y),(x+1,y+1),(x,y+1)] (yI (zo (x,y) ?_))))));walk_at "w";rintro _ rfl;refine⟨_,rfl,rfl,show 4<=1000 by decide,?_,?_⟩
 ·rintro D p ρ' es hp ho hes;obtain⟨u,v,rfl⟩:=ho.two;have hi:yn Jm wd p.1 p.2=true:=by
   simp only [D0,E6,or_false] at hp;rcases hp with rfl | rfl | rfl | rfl
   ·exact i1
   ·exact i2
   ·exact i3
   ·exact i4
  obtain⟨r,h1,h2⟩:=eT g hi;refine jr rfl (zz (zp (zz (zp (yu (qP ?_))))));rw [Jp rfl];refine jB hes ?_;unfold tab;walk_at "w";refine⟨_,h1,?_⟩;walk_at "w";refine⟨_,h2,?_⟩;exact⟨.mk2,rfl⟩
 ·refine⟨[zK Jm x y,zK Jm (x+1) y,zK Jm (x+1) (y+1),zK Jm x (y+1)],rfl,?_⟩;walk_at "w";rfl
noncomputable def iB (Jm:List (List Int)) (cut x y:Int):List PyData:=if (hiB Jm cut x y == cI Jm cut x y)=true then [pairD (x,y,0) (x+1,y,1),pairD (x,y,1) (x,y+1,0)] else [pairD (x,y,0) (x,y,1),pairD (x,y+1,0) (x+1,y,1)]
noncomputable def thr (Jm:List (List Int)) (wd:Nat) (cut x y:Int):List (Int×Int×Int):=(cg x y).filter (opG Jm wd cut)
noncomputable def wa:List (Int×Int×Int)->List PyData
 | a :: b :: _=>[pairD a b]
 | _=>[]
noncomputable def oJ (Jm:List (List Int)) (wd:Nat) (cut x y:Int):List PyData:=if iA Jm wd cut x y=true then iB Jm cut x y else wa (thr Jm wd cut x y)
theorem Ax {Jm:List (List Int)} {wd:Nat} {cut x y:Int} (h:z7 Jm wd x y=true):thr Jm wd cut x y=[] \/ ∃ a b r,thr Jm wd cut x y=a :: b :: r:=by
 have e1:opG Jm wd cut (x,y,0)=_:=oG (cut:=cut) h;have e2:opG Jm wd cut (x,y,1)=_:=u9 (cut:=cut) h;have e3:opG Jm wd cut (x,y+1,0)=_:=oH (cut:=cut) h;have e4:opG Jm wd cut (x+1,y,1)=_:=oI (cut:=cut) h;unfold thr cg;simp only [ET,e1,e2,e3,e4,Iw];cases hiB Jm cut x y <;> cases hiB Jm cut (x+1) y <;> cases hiB Jm cut (x+1) (y+1) <;> cases hiB Jm cut x (y+1) <;> simp
abbrev ly (K:DP):Sp:=spN K 3 Aw fun c es=>es=iB c.1 c.2.2.1 c.2.2.2.1 c.2.2.2.2
theorem sJ (F:Def K mg "crossed_ties" jD pj) (uav:FnIn P w K mg base k "cell_gates" ["cell"] (cc K)) (uak:FnIn P w K mg base k "stands_high" pI (iw K)) (ubf:FnIn P w K mg base k "has_high_middle" pj (Bc K)):FnIn P w K mg base (k+1) "crossed_ties" pj (ly K):=by
 refine F.okN yP rfl fun fa cdv A outer s H E hr=>⟨_,(zd (yl (ze uav hr rfl (za (pv 2) zb)) (gR (K:=K) (n:=4) rfl rfl (zg (zf (i:=3) yP.nd rfl (Or.inl rfl) (Or.inr rfl)) (zg (zf (i:=4) yP.nd rfl (Or.inl rfl) (Or.inr rfl)) (zg (zf (i:=5) yP.nd rfl (Or.inl rfl) (Or.inr rfl)) (zg (zf (i:=6) yP.nd rfl (Or.inl rfl) (Or.inr rfl)) zD)))))) (zd (yr (zQ (yw (K:=K) rfl hr.units) (ze uak hr rfl (za (pv 0) (za (pv 1) (za (pv 2) zb)))) (ze ubf hr rfl (za (pv 0) (za (pv 1) (za (pv 2) zb)))) (zI _)) (zh (zu (yL (za (zJ (za (pv 3) (za (pv 6) zb))) (za (zJ (za (pv 4) (za (pv 5) zb))) zb))))) zS) (zh (zu (yL (za (zJ (za (pv 3) (za (pv 4) zb))) (za (zJ (za (pv 5) (za (pv 6) zb))) zb))))))),?_⟩;rintro f xs ⟨Jm,wd,cut,x,y⟩ hl ⟨rfl,g,hc⟩
 try dsimp only [ye,zk]
 dsimp only at *;have hi:=(cell_in hc).1;refine ax (yf (zo (x,y) ?_));walk_at "w";rintro _ rfl;refine uf rfl (zz (zp (zz (zp (zz (zp (zz (zp (yu ?_)))))))));refine A5 (jL (d6 (zo (Jm,wd,cut,x,y) ?_)));walk_at "w";rintro _ rfl;refine zo (Jm,wd,cut,x,y) ?_;walk_at "w";rintro _ rfl;dsimp only;walk_at "w";rw [Jo DL,ll];unfold iB;refine z9 (fun h=>?_) fun h=>?_
 ·rw [Jp (show (hiB Jm cut x y == cI Jm cut x y)=true from h)];refine kC ?_;walk_at "w";rfl
 ·rw [Jo (show ¬ (hiB Jm cut x y == cI Jm cut x y)=true from by rw [show (hiB Jm cut x y == cI Jm cut x y)=false from h];exact DL)];refine eE (kC ?_);walk_at "w";rfl
abbrev oK (K:DP):Sp:=spN K 3 Aw fun c es=>es=oJ c.1 c.2.1 c.2.2.1 c.2.2.2.1 c.2.2.2.2
theorem wb (F:Def K mg "cell_ties" qW pj) (ubg:FnIn P w K mg base k "is_crossed" pj (gk K)) (ubh:FnIn P w K mg base k "crossed_ties" pj (ly K)) (uav:FnIn P w K mg base k "cell_gates" ["cell"] (cc K)) (uau:FnIn P w K mg base k "is_open" pf (ix K)):FnIn P w K mg base (k+1) "cell_ties" pj (oK K):=by
 refine F.okN b6 rfl fun fa cdv A outer s H E hr=>⟨_,(zd (yr (yj (K:=K) rfl (ze ubg hr rfl (za (pv 0) (za (pv 1) (za (pv 2) zb)))) (fun _=>rfl)) (zh (zu (ze ubh hr rfl (za (pv 0) (za (pv 1) (za (pv 2) zb)))))) zS) (zd (kf (i:=3) (N:=pE) (own:=1) (fr:=[0,1]) (by walk_at "c") rfl b6.nd rfl (Or.inl rfl) (yg (K:=K) rfl (ze uav hr rfl (za (pv 2) zb))) (fun _ _ _ _=>(zf (i:=0) (show (pE:List Str).Nodup by decide +kernel) rfl (Or.inl rfl) (Or.inr rfl))) (fun _ _ _ _=>(dm (yj (K:=K) rfl (ze uau hr rfl (za (pv 1) (za (pv 2) (za (pv 0) zb)))) (fun _=>rfl)))) (fun _ _ _ _=>(pv 0)) rfl rfl (fun _=>rfl) (Or.inl rfl) rfl) (zh (zu (aq (yj (K:=K) rfl (pv 3) (fun _=>rfl)) (yL (za (zJ (za (zq (zF (K:=K) rfl) (pv 3) zc (fun _ _=>rfl)) (za (zq (zF (K:=K) rfl) (pv 3) zc (fun _ _=>rfl)) zb))) zb)) (yL zb)))))),?_⟩;rintro f xs ⟨Jm,wd,cut,x,y⟩ hl ⟨rfl,g,hc⟩
 try dsimp only [ye,zk]
 dsimp only at *;refine A5 (jA (zo (Jm,wd,cut,x,y) ?_));walk_at "w";rintro _ rfl;dsimp only;refine⟨_,rfl,?_⟩;unfold oJ;refine z9 (fun h=>?_) fun h=>?_
 ·rw [Jp h];refine eF (Jm,wd,cut,x,y) ?_;walk_at "w";exact fun es he=>he
 ·rw [Jo (by rw [h];exact DL)];refine ax (yf (PEdO.ped (aw (yI (zo (x,y) ?_)))));walk_at "w";rintro _ rfl;refine⟨_,rfl,fun n ρ es=>(∃ u,ρ=[u,some (.dat (tab Jm)),some (.dat (.int cut))])/\es=(((cg x y).take n).filter (opG Jm wd cut)).map gD3,⟨⟨_,rfl⟩,rfl⟩,?_,?_⟩
  ·rintro D n d ρ' es hd ⟨⟨u,rfl⟩,rfl⟩;rw [DX] at hd;cases hq:(cg x y)[n]? with
   | none=>rw [hq] at hd;cases hd
   | some q =>
    rw [hq] at hd;cases hd;have hn:n<(cg x y).length:=(DN.mp hq).1;have n4:n<4:=hn;have tk:(cg x y).take (n+1)=(cg x y).take n++[q]:=by
     rw [G9,hq];rfl
    have len:((((cg x y).take n).filter (opG Jm wd cut)).map gD3).length<1000:=by
     rw [DM];have a1:=EV (opG Jm wd cut) ((cg x y).take n);rw [Et] at a1;omega
    refine zp (jA (zo (Jm,wd,cut,q.1,q.2.1,q.2.2) ?_));unfold gD3 at *;walk_at "w";rintro _ rfl;dsimp only;refine⟨_,rfl,?_⟩;refine z9 (fun h=>?_) fun h=>?_
    ·refine jB len ?_;walk_at "w";rw [tk,Fg,Eg,ET,show opG Jm wd cut q=true from h,Jp rfl];rfl
    ·refine⟨⟨_,rfl⟩,?_⟩;rw [tk,Fg,Eg,ET,show opG Jm wd cut q=false from h,Jo DL];simp
  ·rintro ρ' es ⟨_,rfl⟩;rw [DM,Eu];rw [show List.filter (opG Jm wd cut) (cg (x,y).1 (x,y).2)=thr Jm wd cut x y from rfl];rcases Ax (cut:=cut) hc with e | ⟨a,b,r,e⟩
   ·rw [e];refine zp (eE (A6 (jA (zC rfl ⟨false,rfl,?_⟩))));rw [Jo DL];exact nH rfl
   ·rw [e];have h0:atI ((a :: b :: r).map gD3) 0=some (gD3 a):=qz (xs:=a :: b :: r) (j:=0) rfl (HC _);have h1:atI ((a :: b :: r).map gD3) 1=some (gD3 b):=qz (xs:=a :: b :: r) (j:=1) rfl (Nat.succ_lt_succ (HC _));refine zp (eE (A6 (jA (zC rfl ⟨true,rfl,?_⟩))));rw [Jp rfl];refine kC ?_;walk_at "w";refine⟨_,h0,?_⟩;walk_at "w";refine⟨_,h1,?_⟩;walk_at "w";rfl
noncomputable def opF (A B C D:Bool) (i:Fin 4):Bool:=match i with
 | 0=>A != B
 | 1=>A != D
 | 2=>D != C
 | 3=>B != C
noncomputable def enF (A B C D:Bool) (i:Fin 4):Bool:=match i with
 | 0=>!A
 | 1=>A
 | 2=>D
 | 3=>!B
noncomputable def aF (A B C D M:Bool):List (Fin 4×Fin 4) :=
 if (opF A B C D 0 && opF A B C D 1 && opF A B C D 2 && opF A B C D 3)=true then (if (A == M)=true then [(0,3),(1,2)] else [(0,1),(2,3)]) else
 match ([0,1,2,3]:List (Fin 4)).filter (opF A B C D) with
 | a :: b :: _=>[(a,b)]
 | _=>[]
noncomputable def prt {α:Type} [DecidableEq α] (l:List (α×α)) (g:α):Option α:=l.findSome? fun p=>if p.1=g then some p.2 else if p.2=g then some p.1 else none
theorem Ay:∀ (A B C D M:Bool) (i:Fin 4),opF A B C D i=true->∃ j,prt (aF A B C D M) i=some j/\j≠i/\opF A B C D j=true/\prt (aF A B C D M) j=some i/\enF A B C D j=!enF A B C D i:=by decide
theorem lz:∀ (A B C D M:Bool),aF A B C D M=[] \/ (∃ a b,a≠b/\aF A B C D M=[(a,b)]) \/ ∃ a b c d,a≠b/\a≠c/\a≠d/\b≠c/\b≠d/\c≠d/\aF A B C D M=[(a,b),(c,d)]:=by decide
abbrev Gt:=Int×Int×Int
noncomputable def gt (x y:Int) (i:Fin 4):Gt:=match i with
 | 0=>(x,y,0)
 | 1=>(x,y,1)
 | 2=>(x,y+1,0)
 | 3=>(x+1,y,1)
theorem eV {x y:Int} {i j:Fin 4} (h:gt x y i=gt x y j):i=j:=by
 have h1:(gt x y i).1=(gt x y j).1:=by rw [h]
 have h2:(gt x y i).2.1=(gt x y j).2.1:=by rw [h]
 have h3:(gt x y i).2.2=(gt x y j).2.2:=by rw [h]
 revert h1 h2 h3
 clear h
 match i,j with
 | 0,0=>intros;rfl
 | 0,1=>intro _ _ h;simp [gt] at h
 | 0,2=>intro _ h _;simp [gt] at h;omega
 | 0,3=>intro _ _ h;simp [gt] at h
 | 1,0=>intro _ _ h;simp [gt] at h
 | 1,1=>intros;rfl
 | 1,2=>intro _ _ h;simp [gt] at h
 | 1,3=>intro h _ _;simp [gt] at h;omega
 | 2,0=>intro _ h _;simp [gt] at h;omega
 | 2,1=>intro _ _ h;simp [gt] at h
 | 2,2=>intros;rfl
 | 2,3=>intro _ _ h;simp [gt] at h
 | 3,0=>intro _ _ h;simp [gt] at h
 | 3,1=>intro h _ _;simp [gt] at h;omega
 | 3,2=>intro _ _ h;simp [gt] at h
 | 3,3=>intros;rfl
theorem iC {α β:Type} [DecidableEq α] [DecidableEq β] {f:α->β} (inj:∀ i j,f i=f j->i=j) (l:List (α×α)) (i:α):prt (l.map fun p=>(f p.1,f p.2)) (f i)=(prt l i).map f:=by
 unfold prt
 induction l with
 | nil=>rfl
 | cons p l ih =>
  rw [Ek,GR,GR];have e1:(f p.1=f i)↔p.1=i:=⟨inj _ _,fun z=>by rw [z]⟩;have e2:(f p.2=f i)↔p.2=i:=⟨inj _ _,fun z=>by rw [z]⟩;by_cases h1:p.1=i
  ·rw [Jp h1,Jp (e1.mpr h1)];rfl
  ·rw [Jo h1,Jo (fun z=>h1 (e1.mp z))];by_cases h2:p.2=i
   ·rw [Jp h2,Jp (e2.mpr h2)];rfl
   ·rw [Jo h2,Jo (fun z=>h2 (e2.mp z))];exact ih
section
variable (Jm:List (List Int)) (wd:Nat) (cut:Int)
noncomputable def t4 (x y:Int):List (Fin 4×Fin 4):=aF (hiB Jm cut x y) (hiB Jm cut (x+1) y) (hiB Jm cut (x+1) (y+1)) (hiB Jm cut x (y+1)) (cI Jm cut x y)
noncomputable def vi (x y:Int):List (Gt×Gt):=(t4 Jm cut x y).map fun p=>(gt x y p.1,gt x y p.2)
noncomputable def qL (w:Int) (h:Bool):Int×Int:=if w=0 then (if h=true then (0,-1) else (0,0)) else (if h=true then (0,0) else (-1,0))
noncomputable def qM (w:Int) (h:Bool):Int×Int:=if w=0 then (if h=true then (0,0) else (0,-1)) else (if h=true then (-1,0) else (0,0))
noncomputable def ahC (g:Gt):Int×Int:=(g.1+(qL g.2.2 (hiB Jm cut g.1 g.2.1)).1,g.2.1+(qL g.2.2 (hiB Jm cut g.1 g.2.1)).2)
noncomputable def bhC (g:Gt):Int×Int:=(g.1+(qM g.2.2 (hiB Jm cut g.1 g.2.1)).1,g.2.1+(qM g.2.2 (hiB Jm cut g.1 g.2.1)).2)
noncomputable def yh (g:Gt):Option Gt:=if z7 Jm wd (ahC Jm cut g).1 (ahC Jm cut g).2=true then prt (vi Jm cut (ahC Jm cut g).1 (ahC Jm cut g).2) g else none
noncomputable def jc (g:Gt):Option Gt:=if z7 Jm wd (bhC Jm cut g).1 (bhC Jm cut g).2=true then prt (vi Jm cut (bhC Jm cut g).1 (bhC Jm cut g).2) g else none
end
section
variable {Jm:List (List Int)} {wd:Nat} {cut x y:Int}
theorem bE (h:z7 Jm wd x y=true) (i:Fin 4):opG Jm wd cut (gt x y i)=opF (hiB Jm cut x y) (hiB Jm cut (x+1) y) (hiB Jm cut (x+1) (y+1)) (hiB Jm cut x (y+1)) i:=by
 match i with
 | 0=>exact oG h
 | 1=>exact u9 h
 | 2=>exact oH h
 | 3=>exact oI h
theorem oM (i:Fin 4):(ahC Jm cut (gt x y i)=(x,y)↔enF (hiB Jm cut x y) (hiB Jm cut (x+1) y) (hiB Jm cut (x+1) (y+1)) (hiB Jm cut x (y+1)) i=true)/\(bhC Jm cut (gt x y i)=(x,y)↔enF (hiB Jm cut x y) (hiB Jm cut (x+1) y) (hiB Jm cut (x+1) (y+1)) (hiB Jm cut x (y+1)) i=false):=by
 unfold ahC bhC
 match i with
 | 0 =>
  show ((x+(qL 0 (hiB Jm cut x y)).1,y+(qL 0 (hiB Jm cut x y)).2)=(x,y)↔(!hiB Jm cut x y)=true)/\((x+(qM 0 (hiB Jm cut x y)).1,y+(qM 0 (hiB Jm cut x y)).2)=(x,y)↔(!hiB Jm cut x y)=false);cases hiB Jm cut x y <;> simp [qL,qM] <;> omega
 | 1 =>
  show ((x+(qL 1 (hiB Jm cut x y)).1,y+(qL 1 (hiB Jm cut x y)).2)=(x,y)↔hiB Jm cut x y=true)/\((x+(qM 1 (hiB Jm cut x y)).1,y+(qM 1 (hiB Jm cut x y)).2)=(x,y)↔hiB Jm cut x y=false);cases hiB Jm cut x y <;> simp [qL,qM] <;> omega
 | 2 =>
  show ((x+(qL 0 (hiB Jm cut x (y+1))).1,y+1+(qL 0 (hiB Jm cut x (y+1))).2)=(x,y)↔hiB Jm cut x (y+1)=true)/\((x+(qM 0 (hiB Jm cut x (y+1))).1,y+1+(qM 0 (hiB Jm cut x (y+1))).2)=(x,y)↔hiB Jm cut x (y+1)=false);cases hiB Jm cut x (y+1) <;> simp [qL,qM] <;> omega
 | 3 =>
  show ((x+1+(qL 1 (hiB Jm cut (x+1) y)).1,y+(qL 1 (hiB Jm cut (x+1) y)).2)=(x,y)↔(!hiB Jm cut (x+1) y)=true)/\((x+1+(qM 1 (hiB Jm cut (x+1) y)).1,y+(qM 1 (hiB Jm cut (x+1) y)).2)=(x,y)↔(!hiB Jm cut (x+1) y)=false);cases hiB Jm cut (x+1) y <;> simp [qL,qM] <;> omega
theorem oN (h:z7 Jm wd x y=true) {i:Fin 4} (o:opG Jm wd cut (gt x y i)=true):∃ j,prt (vi Jm cut x y) (gt x y i)=some (gt x y j)/\j≠i/\opG Jm wd cut (gt x y j)=true/\prt (vi Jm cut x y) (gt x y j)=some (gt x y i) /\
  (ahC Jm cut (gt x y i)=(x,y)->bhC Jm cut (gt x y j)=(x,y))/\(bhC Jm cut (gt x y i)=(x,y)->ahC Jm cut (gt x y j)=(x,y)):=by
 rw [bE h] at o;obtain⟨j,h1,h2,h3,h4,h5⟩:=Ay _ _ _ _ (cI Jm cut x y) i o;have inj:∀ i j,gt x y i=gt x y j->i=j:=fun _ _=>eV;refine⟨j,?_,h2,by rw [bE h];exact h3,?_,fun z=>?_,fun z=>?_⟩
 ·unfold vi t4;rw [iC inj,h1];rfl
 ·unfold vi t4;rw [iC inj,h4];rfl
 ·rw [(oM j).2,h5,(oM i).1.mp z];rfl
 ·rw [(oM j).1,h5,(oM i).2.mp z];rfl
theorem lA (g:Gt) (hw:g.2.2=0 \/ g.2.2=1):∃ i,g=gt (ahC Jm cut g).1 (ahC Jm cut g).2 i:=by
 obtain⟨x,y,w⟩:=g;unfold ahC;dsimp only at hw ⊢;rcases hw with rfl | rfl
 ·cases hiB Jm cut x y
  ·exact⟨0,by simp [qL,gt]⟩
  ·exact⟨2,by simp [qL,gt];omega⟩
 ·cases hiB Jm cut x y
  ·exact⟨3,by simp [qL,gt];omega⟩
  ·exact⟨1,by simp [qL,gt]⟩
theorem sL (g:Gt) (hw:g.2.2=0 \/ g.2.2=1):∃ i,g=gt (bhC Jm cut g).1 (bhC Jm cut g).2 i:=by
 obtain⟨x,y,w⟩:=g;unfold bhC;dsimp only at hw ⊢;rcases hw with rfl | rfl
 ·cases hiB Jm cut x y
  ·exact⟨2,by simp [qM,gt];omega⟩
  ·exact⟨0,by simp [qM,gt]⟩
 ·cases hiB Jm cut x y
  ·exact⟨1,by simp [qM,gt]⟩
  ·exact⟨3,by simp [qM,gt];omega⟩
theorem vZ {g:Gt} (o:opG Jm wd cut g=true):g.2.2=0 \/ g.2.2=1:=by
 unfold opG yF aD at o;rw [DW,DW] at o;exact of_decide_eq_true o.1.1
theorem v3 {g:Gt} (o:opG Jm wd cut g=true) (h:z7 Jm wd (ahC Jm cut g).1 (ahC Jm cut g).2=true):∃ n,yh Jm wd cut g=some n/\n≠g/\opG Jm wd cut n=true/\bhC Jm cut n=ahC Jm cut g/\jc Jm wd cut n=some g:=by
 obtain⟨i,ei⟩:=lA (Jm:=Jm) (cut:=cut) g (vZ o);have o':=o;rw [ei] at o';obtain⟨j,h1,h2,h3,h4,h5,_⟩:=oN h o';rw [<-ei] at h1 h4 h5;have hb:=h5 rfl;refine⟨gt (ahC Jm cut g).1 (ahC Jm cut g).2 j,?_,fun z=>h2 (eV (z.trans ei)),h3,hb,?_⟩
 ·unfold yh;rw [Jp h];exact h1
 ·unfold jc;rw [hb,Jp h];exact h4
theorem dD {g:Gt} (o:opG Jm wd cut g=true) (h:z7 Jm wd (bhC Jm cut g).1 (bhC Jm cut g).2=true):∃ n,jc Jm wd cut g=some n/\n≠g/\opG Jm wd cut n=true/\ahC Jm cut n=bhC Jm cut g/\yh Jm wd cut n=some g:=by
 obtain⟨i,ei⟩:=sL (Jm:=Jm) (cut:=cut) g (vZ o);have o':=o;rw [ei] at o';obtain⟨j,h1,h2,h3,h4,_,h5⟩:=oN h o';rw [<-ei] at h1 h4 h5;have hb:=h5 rfl;refine⟨gt (bhC Jm cut g).1 (bhC Jm cut g).2 j,?_,fun z=>h2 (eV (z.trans ei)),h3,hb,?_⟩
 ·unfold jc;rw [Jp h];exact h1
 ·unfold yh;rw [hb,Jp h];exact h4
theorem eW {g g' n:Gt} (o:opG Jm wd cut g=true) (o':opG Jm wd cut g'=true) (h:yh Jm wd cut g=some n) (h':yh Jm wd cut g'=some n):g=g':=by
 have c:z7 Jm wd (ahC Jm cut g).1 (ahC Jm cut g).2=true:=by
  unfold yh at h;by_cases z:z7 Jm wd (ahC Jm cut g).1 (ahC Jm cut g).2=true
  ·exact z
  ·rw [Jo z] at h;cases h
 have c':z7 Jm wd (ahC Jm cut g').1 (ahC Jm cut g').2=true:=by
  unfold yh at h';by_cases z:z7 Jm wd (ahC Jm cut g').1 (ahC Jm cut g').2=true
  ·exact z
  ·rw [Jo z] at h';cases h'
 obtain⟨m,a1,_,_,_,a2⟩:=v3 o c;obtain⟨m',b1,_,_,_,b2⟩:=v3 o' c';rw [h] at a1;rw [h'] at b1;cases a1;cases b1;rw [a2] at b2;exact Option.some.inj b2
theorem vx {g n:Gt} (o:opG Jm wd cut g=true) (h:yh Jm wd cut g=some n):opG Jm wd cut n=true/\n≠g:=by
 have c:z7 Jm wd (ahC Jm cut g).1 (ahC Jm cut g).2=true:=by
  unfold yh at h;by_cases z:z7 Jm wd (ahC Jm cut g).1 (ahC Jm cut g).2=true
  ·exact z
  ·rw [Jo z] at h;cases h
 obtain⟨m,a1,a2,a3,_,_⟩:=v3 o c;rw [h] at a1;cases a1;exact⟨a3,a2⟩
end
abbrev mU (K:DP):Sp:=spD K 3 (fun (c:List (List Int)×Nat×Int×Int×Int×Int) xs=>xs=[.dat (tab c.1),.dat (.int c.2.2.1),.dat (vb c.2.2.2.1 c.2.2.2.2.1 c.2.2.2.2.2)]/\Good c.2.1 c.1/\yn c.1 c.2.1 c.2.2.2.1 c.2.2.2.2.1=true) fun c r=>r=.str (fZ c.1 c.2.2.1 c.2.2.2.1 c.2.2.2.2.1 c.2.2.2.2.2)
theorem mV (F:Def K mg "heading" aR pf) (uak:FnIn P w K mg base k "stands_high" pI (iw K)):FnIn P w K mg base (k+1) "heading" pf (mU K):=by
 refine F.ok qJ rfl fun fa cdv A outer s H E hr=>⟨_,(zd (yl (pv 2) (zH (K:=K) (n:=3) rfl rfl (zg (zf (i:=3) qJ.nd rfl (Or.inl rfl) (Or.inr rfl)) (zg (zf (i:=4) qJ.nd rfl (Or.inl rfl) (Or.inr rfl)) (zg (zf (i:=5) qJ.nd rfl (Or.inl rfl) (Or.inr rfl)) zD))))) (zd (zL (i:=6) qJ.nd rfl (Or.inl rfl) (ze uak hr rfl (za (pv 0) (za (pv 1) (za (zJ (za (pv 3) (za (pv 4) zb))) zb))))) (zd (yr (zQ (yw (K:=K) rfl hr.units) (pv 5) zc (zI _)) (zh (zu (aq (yj (K:=K) rfl (pv 6) (fun _=>rfl)) vd vd))) zS) (zh (zu (aq (yj (K:=K) rfl (pv 6) (fun _=>rfl)) vd vd)))))),?_⟩;rintro f xs ⟨Jm,wd,cut,x,y,w⟩ hl ⟨rfl,g,hi⟩
 try dsimp only [ye,zk]
 dsimp only at *;unfold vb;refine yc (yf (zC rfl (jr rfl (zz (zp (zz (zp (zz (zp (yu ?_))))))))));refine yc (yf (zo (Jm,wd,cut,x,y) ?_));walk_at "w";rintro _ rfl;dsimp only;walk_at "w";rw [Jo DL,jk];unfold fZ;refine z9 (fun h=>?_) fun h=>?_
 ·have h':=of_decide_eq_true h;rw [Jp h'];walk_at "w";refine z9 (fun h2=>?_) fun h2=>?_
  ·walk_at "w";rw [Jp (of_decide_eq_true h2)]
  ·walk_at "w";rw [Jo (of_decide_eq_false h2)]
 ·have h':=of_decide_eq_false h;rw [Jo h'];walk_at "w";refine z9 (fun h2=>?_) fun h2=>?_
  ·walk_at "w";rw [Jp (of_decide_eq_true h2)]
  ·walk_at "w";rw [Jo (of_decide_eq_false h2)]
noncomputable abbrev Ct:List (Str×List Int):=[("down",[0,0]),("up",[0,-1]),("right",[0,0]),("left",[-1,0])]
noncomputable abbrev wc:List (Str×List Int):=[("down",[0,-1]),("up",[0,0]),("right",[-1,0]),("left",[0,0])]
theorem Cu {Jm:List (List Int)} {cut x y w:Int} (hw:w=0 \/ w=1):IJ (fZ Jm cut x y w) Ct=some [(qL w (hiB Jm cut x y)).1,(qL w (hiB Jm cut x y)).2]:=by
 unfold fZ qL hiB;rcases hw with rfl | rfl
 ·by_cases h:cut<zK Jm x y
  ·rw [Jp rfl,Jp h,Jp rfl,Jq h,Jp rfl];decide +kernel
  ·rw [Jp rfl,Jo h,Jp rfl,Jr h,Jo DL];decide +kernel
 ·have e:¬ ((1:Int)=0):=by decide
  by_cases h:cut<zK Jm x y
  ·rw [Jo e,Jp h,Jo e,Jq h,Jp rfl];decide +kernel
  ·rw [Jo e,Jo h,Jo e,Jr h,Jo DL];decide +kernel
theorem Cv {Jm:List (List Int)} {cut x y w:Int} (hw:w=0 \/ w=1):IJ (fZ Jm cut x y w) wc=some [(qM w (hiB Jm cut x y)).1,(qM w (hiB Jm cut x y)).2]:=by
 unfold fZ qM hiB;rcases hw with rfl | rfl
 ·by_cases h:cut<zK Jm x y
  ·rw [Jp rfl,Jp h,Jp rfl,Jq h,Jp rfl];decide +kernel
  ·rw [Jp rfl,Jo h,Jp rfl,Jr h,Jo DL];decide +kernel
 ·have e:¬ ((1:Int)=0):=by decide
  by_cases h:cut<zK Jm x y
  ·rw [Jo e,Jp h,Jo e,Jq h,Jp rfl];decide +kernel
  ·rw [Jo e,Jo h,Jo e,Jr h,Jo DL];decide +kernel
theorem mW {Jm:List (List Int)} {wd:Nat} {cut:Int} {g:Gt} (o:opG Jm wd cut g=true):yn Jm wd g.1 g.2.1=true:=by
 unfold opG yF aD at o;rw [DW,DW,DW] at o;exact o.1.2.1
abbrev GO:=List (List Int)×Nat×Int×Gt
abbrev sM (c:GO) (xs:List DV):Prop:=xs=[.dat (tab c.1),.dat (.int c.2.2.1),.dat (gD3 c.2.2.2)]/\Good c.2.1 c.1/\opG c.1 c.2.1 c.2.2.1 c.2.2.2=true
abbrev lB (K:DP):Sp:=spD K 3 sM fun c r=>r=.tuple [.int (ahC c.1 c.2.2.1 c.2.2.2).1,.int (ahC c.1 c.2.2.1 c.2.2.2).2]
theorem sN {uaw:DR} (F:Def K mg "cell_ahead" qv pf) (uaD:mg "AHEAD"=some (.ref uaw)) (uax:r6 K uaw Ct=true) (uaE:FnIn P w K mg base k "heading" pf (mU K)):FnIn P w K mg base (k+1) "cell_ahead" pf (lB K):=by
 refine F.ok vh rfl fun fa cdv A outer s H E hr=>⟨_,(zd (yl (uP (K:=K) rfl rfl uaD uax (ze uaE hr rfl (za (pv 0) (za (pv 1) (za (pv 2) zb)))) (fun _ _=>rfl)) (zH (K:=K) (n:=2) rfl rfl (zg (zf (i:=3) vh.nd rfl (Or.inl rfl) (Or.inr rfl)) (zg (zf (i:=4) vh.nd rfl (Or.inl rfl) (Or.inr rfl)) zD)))) (zh (zu (zJ (za (zr z8 (zq (zj (K:=K) rfl) (pv 2) zc (fun _ _=>rfl)) (pv 3)) (za (zr z8 (zq (zj (K:=K) rfl) (pv 2) zc (fun _ _=>rfl)) (pv 4)) zb)))))),?_⟩;rintro f xs ⟨Jm,wd,cut,x,y,w⟩ hl ⟨rfl,g,o⟩
 try dsimp only [ye,zk]
 dsimp only at *;have hw:=vZ o;have hin:=mW o;refine yc (yf (A8 (zo (Jm,wd,cut,x,y,w) ?_)));unfold gD3 at *;walk_at "w";rintro _ rfl;refine⟨_,_,rfl,Cu hw,?_⟩;refine jr rfl (zz (zp (zz (zp (yu ?_)))));walk_at "w";rfl
abbrev oO (K:DP):Sp:=spD K 3 sM fun c r=>r=.bool (!z7 c.1 c.2.1 (bhC c.1 c.2.2.1 c.2.2.2).1 (bhC c.1 c.2.2.1 c.2.2.2).2)
theorem we {uay:DR} (F:Def K mg "comes_in" vR pf) (uaF:mg "BEHIND"=some (.ref uay)) (uaz:r6 K uay wc=true) (uaE:FnIn P w K mg base k "heading" pf (mU K)) (uaG:FnIn P w K mg base k "has_cell" pq (mR K)):FnIn P w K mg base (k+1) "comes_in" pf (oO K):=by
 refine F.ok aA rfl fun fa cdv A outer s H E hr=>⟨_,(zd (yl (uP (K:=K) rfl rfl uaF uaz (ze uaE hr rfl (za (pv 0) (za (pv 1) (za (pv 2) zb)))) (fun _ _=>rfl)) (zH (K:=K) (n:=2) rfl rfl (zg (zf (i:=3) aA.nd rfl (Or.inl rfl) (Or.inr rfl)) (zg (zf (i:=4) aA.nd rfl (Or.inl rfl) (Or.inr rfl)) zD)))) (zh (zu (Bn (ze uaG hr rfl (za (pv 0) (za (zr z8 (zq (zj (K:=K) rfl) (pv 2) zc (fun _ _=>rfl)) (pv 3)) (za (zr z8 (zq (zj (K:=K) rfl) (pv 2) zc (fun _ _=>rfl)) (pv 4)) zb)))))))),?_⟩;rintro f xs ⟨Jm,wd,cut,x,y,w⟩ hl ⟨rfl,g,o⟩
 try dsimp only [ye,zk]
 dsimp only at *;have hw:=vZ o;have hin:=mW o;refine yc (yf (A8 (zo (Jm,wd,cut,x,y,w) ?_)));unfold gD3 at *;walk_at "w";rintro _ rfl;refine⟨_,_,rfl,Cv hw,?_⟩;refine jr rfl (zz (zp (zz (zp (yu ?_)))));walk_at "w";refine zo (Jm,wd,(bhC Jm cut (x,y,w)).1,(bhC Jm cut (x,y,w)).2) ?_;walk_at "w";rintro _ rfl;exact⟨_,rfl,rfl⟩
noncomputable def bq:List (Gt×Gt)->List (PyData×PyData)->List (PyData×PyData)
 | [],kvs=>kvs
 | p :: l,kvs=>bq l (dput (gD3 p.2) (gD3 p.1) (dput (gD3 p.1) (gD3 p.2) kvs))
theorem mX (l:List (Gt×Gt)) (p:Gt×Gt):∀ kvs,bq (l++[p]) kvs=dput (gD3 p.2) (gD3 p.1) (dput (gD3 p.1) (gD3 p.2) (bq l kvs)):=by
 induction l with
 | nil=>intro kvs;rfl
 | cons q l ih=>intro kvs;exact ih _
theorem eX (a b:PyData) (kvs:List (PyData×PyData)):(dput a b kvs).length<=kvs.length+1:=by
 unfold dput;split
 ·rw [DM];omega
 ·rw [D6];exact DU _
theorem sO (l:List (Gt×Gt)):∀ kvs,(bq l kvs).length<=kvs.length+2 * l.length:=by
 induction l with
 | nil=>intro kvs;exact DU _
 | cons q l ih =>
  intro kvs;have h1:=ih (dput (gD3 q.2) (gD3 q.1) (dput (gD3 q.1) (gD3 q.2) kvs));have h2:=eX (gD3 q.2) (gD3 q.1) (dput (gD3 q.1) (gD3 q.2) kvs);have h3:=eX (gD3 q.1) (gD3 q.2) kvs;show (bq l _).length<=_;rw [Ea];omega
theorem iD {a b:Gt} (h:gD3 a=gD3 b):a=b:=by
 obtain⟨x,y,w⟩:=a;obtain⟨x',y',w'⟩:=b;unfold gD3 vb at h;simp at h;simp [h]
theorem wg {Jm:List (List Int)} {wd:Nat} {cut x y:Int} (h:z7 Jm wd x y=true):oJ Jm wd cut x y=(vi Jm cut x y).map fun p=>pairD p.1 p.2:=by
 have e0:opG Jm wd cut (x,y,0)=_:=bE (cut:=cut) h 0;have e1:opG Jm wd cut (x,y,1)=_:=bE (cut:=cut) h 1;have e2:opG Jm wd cut (x,y+1,0)=_:=bE (cut:=cut) h 2;have e3:opG Jm wd cut (x+1,y,1)=_:=bE (cut:=cut) h 3;unfold oJ vi t4 iA iB thr cg aF;simp only [IY,List.all_nil,ET,Iw,e0,e1,e2,e3,I0];generalize cI Jm cut x y=M;generalize hiB Jm cut x y=A;generalize hiB Jm cut (x+1) y=B;generalize hiB Jm cut (x+1) (y+1)=C;generalize hiB Jm cut x (y+1)=D;cases A <;> cases B <;> cases C <;> cases D <;> cases M <;> rfl
theorem wj {Jm:List (List Int)} {cut x y:Int} {g n:Gt} (h:prt (vi Jm cut x y) g=some n):bR (gD3 g) (bq (vi Jm cut x y) [])=some (gD3 n):=by
 have key:∀ a b:Gt,a≠b->gD3 a≠gD3 b:=fun a b ne z=>ne (iD z);have inj:∀ i j:Fin 4,i≠j->gt x y i≠gt x y j:=fun i j ne z=>ne (eV z);unfold vi t4 at h ⊢;rcases lz (hiB Jm cut x y) (hiB Jm cut (x+1) y) (hiB Jm cut (x+1) (y+1)) (hiB Jm cut x (y+1)) (cI Jm cut x y) with e | ⟨a,b,n1,e⟩ | ⟨a,b,c,d,n1,n2,n3,n4,n5,n6,e⟩
 ·rw [e] at h;cases h
 ·rw [e] at h ⊢;have k1:=key _ _ (inj a b n1);have k1':=EW k1;simp only [Ek,G1,bq] at h ⊢;unfold prt at h;simp only [GR,List.findSome?_nil] at h;by_cases c1:gt x y a=g
  ·rw [Jp c1] at h;cases h;simp [dput,bR,k1,k1',<- c1]
  ·rw [Jo c1] at h;by_cases c2:gt x y b=g
   ·rw [Jp c2] at h;cases h;simp [dput,bR,k1,k1',<- c2]
   ·rw [Jo c2] at h;cases h
 ·rw [e] at h ⊢;have k1:=key _ _ (inj a b n1);have k2:=key _ _ (inj a c n2);have k3:=key _ _ (inj a d n3);have k4:=key _ _ (inj b c n4);have k5:=key _ _ (inj b d n5);have k6:=key _ _ (inj c d n6);have j1:=EW k1;have j2:=EW k2;have j3:=EW k3;have j4:=EW k4;have j5:=EW k5;have j6:=EW k6;simp only [Ek,G1,bq] at h ⊢;unfold prt at h;simp only [GR,List.findSome?_nil] at h;by_cases c1:gt x y a=g
  ·rw [Jp c1] at h;cases h;simp [dput,bR,k1,k2,k3,k4,k5,k6,j1,j2,j3,j4,j5,j6,<- c1]
  ·rw [Jo c1] at h;by_cases c2:gt x y b=g
   ·rw [Jp c2] at h;cases h;simp [dput,bR,k1,k2,k3,k4,k5,k6,j1,j2,j3,j4,j5,j6,<- c2]
   ·rw [Jo c2] at h;by_cases c3:gt x y c=g
    ·rw [Jp c3] at h;cases h;simp [dput,bR,k1,k2,k3,k4,k5,k6,j1,j2,j3,j4,j5,j6,<- c3]
    ·rw [Jo c3] at h;by_cases c4:gt x y d=g
     ·rw [Jp c4] at h;cases h;simp [dput,bR,k1,k2,k3,k4,k5,k6,j1,j2,j3,j4,j5,j6,<- c4]
     ·rw [Jo c4] at h;cases h
noncomputable def iE:Option Gt->PyData
 | none=>.none
 | some g=>gD3 g
abbrev wk (K:DP):Sp:=spD K 3 sM fun c r=>r=iE (yh c.1 c.2.1 c.2.2.1 c.2.2.2)
theorem aG (g:Gt):rX (gD3 g):=⟨⟨rfl,Hf rfl⟩,_,rfl⟩
theorem Az (F:Def K mg "gate_ahead" qw pf) (ubi:FnIn P w K mg base k "cell_ahead" pf (lB K)) (uaG:FnIn P w K mg base k "has_cell" pq (mR K)) (ubj:FnIn P w K mg base k "cell_ties" pj (oK K)) :
  FnIn P w K mg base (k+1) "gate_ahead" pf (wk K):=by
 refine F.ok yR rfl fun fa cdv A outer s H E hr=>⟨_,(zd (yl (ze ubi hr rfl (za (pv 0) (za (pv 1) (za (pv 2) zb)))) (zH (K:=K) (n:=2) rfl rfl (zg (zf (i:=3) yR.nd rfl (Or.inl rfl) (Or.inr rfl)) (zg (zf (i:=4) yR.nd rfl (Or.inl rfl) (Or.inr rfl)) zD)))) (zd (yr (gG (yj (K:=K) rfl (ze uaG hr rfl (za (pv 0) (za (pv 3) (za (pv 4) zb)))) (fun _=>rfl))) (zh (zu bt)) zS) (zd (zL (i:=5) yR.nd rfl (Or.inl rfl) (rZ (w:=w) rfl)) (zd (yK Er rfl (yg (K:=K) rfl (ze ubj hr rfl (za (pv 0) (za (pv 1) (za (zJ (za (pv 3) (za (pv 4) zb))) zb))))) (zH (K:=K) (n:=2) rfl rfl (zg (zf (i:=6) yR.nd rfl (Or.inl rfl) (Or.inr rfl)) (zg (zf (i:=7) yR.nd rfl (Or.inl rfl) (Or.inr rfl)) zD))) (zd (yl (pv 7) (gH (pv 5) (pv 6) (kQ (w:=w) (K:=K) rfl rfl hr.units))) (zh (yl (pv 6) (gH (pv 5) (pv 7) (kQ (w:=w) (K:=K) rfl rfl hr.units)))))) (zh (zu (zq (xW (w:=w) (K:=K) rfl rfl hr.units) (pv 5) (pv 2) (fun _ _=>rfl)))))))),?_⟩;rintro f xs ⟨Jm,wd,cut,g⟩ hl ⟨rfl,gd,o⟩
 try dsimp only [ye,zk]
 dsimp only at *;refine yc (yf (zo (Jm,wd,cut,g) ?_));walk_at "w";rintro _ rfl;dsimp only;refine jr rfl (zz (zp (zz (zp (yu ?_)))));refine yc (aZ (t5 (jA (zo (Jm,wd,(ahC Jm cut g).1,(ahC Jm cut g).2) ?_))));walk_at "w";rintro _ rfl;refine⟨_,rfl,?_⟩;dsimp only;refine z9 (fun h=>?_) fun h=>?_
 ·have hc:z7 Jm wd (ahC Jm cut g).1 (ahC Jm cut g).2=false:=by simpa using h
  walk_at "w";unfold yh;rw [hc,Jo DL];rfl
 ·have hc:z7 Jm wd (ahC Jm cut g).1 (ahC Jm cut g).2=true:=by simpa using h
  obtain⟨n,hn,_⟩:=v3 o hc;have hp:prt (vi Jm cut (ahC Jm cut g).1 (ahC Jm cut g).2) g=some n:=by
   unfold yh at hn;rw [Jp hc] at hn;exact hn
  have tl:(vi Jm cut (ahC Jm cut g).1 (ahC Jm cut g).2).length<=2:=by
   unfold vi t4;rw [DM];rcases lz (hiB Jm cut (ahC Jm cut g).1 (ahC Jm cut g).2) (hiB Jm cut ((ahC Jm cut g).1+1) (ahC Jm cut g).2) (hiB Jm cut ((ahC Jm cut g).1+1) ((ahC Jm cut g).2+1)) (hiB Jm cut (ahC Jm cut g).1 ((ahC Jm cut g).2+1)) (cI Jm cut (ahC Jm cut g).1 (ahC Jm cut g).2) with e | ⟨a,b,n1,e⟩ | ⟨a,b,c,d,n1,n2,n3,n4,n5,n6,e⟩ <;> rw [e] <;> simp
  refine y3 (mw (w:=w) (uK (Cb ⟨show 5<8 by decide,fun D=>?_⟩)));refine bo (oe (yI (PEdO.ped (eF (Jm,wd,cut,(ahC Jm cut g).1,(ahC Jm cut g).2) ?_))));walk_at "w";rintro _ rfl;dsimp only;rw [wg hc];refine⟨_,rfl,fun i ρ cs=>(∃ u v,ρ=[some (.dat (tab Jm)),some (.dat (.int cut)),some (.dat (gD3 g)),some (.dat (.int (ahC Jm cut g).1)),some (.dat (.int (ahC Jm cut g).2)),some (.own (f.M.length+0)),u,v])/\cs=[.dic (bq ((vi Jm cut (ahC Jm cut g).1 (ahC Jm cut g).2).take i) [])],⟨⟨_,_,rfl⟩,rfl⟩,?_,?_⟩
  ·rintro i d _ _ hd ⟨⟨u,v,rfl⟩,rfl⟩;rw [DX] at hd;cases hq:(vi Jm cut (ahC Jm cut g).1 (ahC Jm cut g).2)[i]? with
   | none=>rw [hq] at hd;cases hd
   | some q =>
    rw [hq] at hd;cases hd;have tk:(vi Jm cut (ahC Jm cut g).1 (ahC Jm cut g).2).take (i+1)=(vi Jm cut (ahC Jm cut g).1 (ahC Jm cut g).2).take i++[q]:=by
     rw [G9,hq];rfl
    have hl:=sO ((vi Jm cut (ahC Jm cut g).1 (ahC Jm cut g).2).take i) [];rw [Et] at hl;simp only [FX] at hl;refine jr rfl (zz (zp (zz (zp (yu ?_)))));refine bo (A7 (i:=5) (j:=0) rfl rfl (by omega) ?_);walk_at "w";refine⟨aG _,?_⟩;have hl2:=eX (gD3 q.1) (gD3 q.2) (bq ((vi Jm cut (ahC Jm cut g).1 (ahC Jm cut g).2).take i) []);refine A7 (i:=5) (j:=0) rfl rfl (by omega) ?_;walk_at "w";refine⟨aG _,⟨_,_,rfl⟩,?_⟩;rw [tk,mX];rfl
  ·rintro _ _ ⟨⟨u,v,rfl⟩,rfl⟩;rw [DM,Eu];refine Dj (Di (i:=5) (j:=0) rfl rfl (rT (zC rfl ⟨aG _,_,wj hp,?_⟩)));show gD3 n=iE (yh Jm wd cut g);rw [hn];rfl
theorem oP {α:Type} [DecidableEq α]:∀ (l m:List α),l.Nodup->(∀ x∈l,x∈m)->m.length<=l.length->∀ x∈m,x∈l
 | [],m,_,_,hl,x,hx=>by
  have:m=[]:=List.length_eq_zero_iff.mp (Nat.le_zero.mp hl);rw [this] at hx;exact hx
 | a :: l,m,nd,sub,hl,x,hx=>by
  have ha:=sub a (DZ ..);have hn:=Fe.mp nd;have le:=Ia ha;rw [Ea] at hl;by_cases e:x=a
  ·rw [e];exact DZ ..
  ·refine DT _ (oP l (m.erase a) hn.2 (fun y hy=>?_) (by omega) x ((Hu e).mpr hx));exact (Hu (fun (z:y=a)=>hn.1 (z▸hy))).mpr (sub y (DT _ hy))
theorem len_sub {α:Type} [DecidableEq α]:∀ (l m:List α),l.Nodup->(∀ x∈l,x∈m)->l.length<=m.length
 | [],m,_,_=>EE _
 | a :: l,m,nd,sub=>by
  have ha:=sub a (DZ ..);have hn:=Fe.mp nd;have le:=Ia ha;have hp:0<m.length:=Ip ha;have:=len_sub l (m.erase a) hn.2 (fun y hy=>(Hu (fun (z:y=a)=>hn.1 (z▸hy))).mpr (sub y (DT _ hy)));rw [Ea];omega
theorem bS {α β:Type} {f:α->β} {l1 l2:List β} (h:l1.Perm l2):∀ ts:List α,l2=ts.map f->∃ us:List α,us.Perm ts/\l1=us.map f:=by
 induction h with
 | nil=>intro ts e;exact⟨ts,.refl _,e⟩
 | cons x _ ih =>
  intro ts e;cases ts with
  | nil=>cases e
  | cons t ts =>
   rw [Ek] at e;injection e with e1 e2;obtain⟨us,p,q⟩:=ih ts e2;exact⟨t :: us,.cons t p,by rw [Ek,<- q,e1]⟩
 | swap x y l =>
  intro ts e
  match ts,e with
  | [],e=>cases e
  | [_],e=>cases e
  | a :: b :: ts,e =>
   simp only [Ek] at e;injection e with e1 e2;injection e2 with e2 e3;exact⟨b :: a :: ts,.swap a b ts,by rw [Ek,Ek,e1,e2,e3]⟩
 | trans _ _ ih1 ih2 =>
  intro ts e;obtain⟨us,p,q⟩:=ih2 ts e;obtain⟨vs,p2,q2⟩:=ih1 us q;exact⟨vs,p2.trans p,q2⟩
section
variable (Jm:List (List Int)) (wd:Nat) (cut:Int)
structure LineOk (ring:Bool) (l:List Gt):Prop where
 op:∀ g∈l,opG Jm wd cut g=true
 nd:l.Nodup
 ch:∀ (i:Nat) a b,l[i]?=some a->l[i+1]?=some b->yh Jm wd cut a=some b
 ne:l≠[]
 last:∀ g,l.getLast?=some g->yh Jm wd cut g=if ring=true then l.head? else none
structure WalkOk (s:Gt) (l:List Gt):Prop where
 op:∀ g∈l,opG Jm wd cut g=true
 nd:l.Nodup
 ch:∀ (i:Nat) a b,l[i]?=some a->l[i+1]?=some b->yh Jm wd cut a=some b
 hd:l.head?=some s
end
section
variable {Jm:List (List Int)} {wd:Nat} {cut:Int}
theorem sP {t n:Nat} {x y w:Int} (hx:0<=x/\x<n) (hy:0<=y/\y<t) (hw:w=0 \/ w=1):(x,y,w)∈je t n:=by
 obtain⟨a,rfl⟩:=Gf hx.1;obtain⟨b,rfl⟩:=Gf hy.1;refine Ew.mpr ⟨a,Es.mpr (by omega),Ew.mpr ⟨b,Es.mpr (by omega),?_⟩⟩;rcases hw with rfl | rfl
 ·exact DZ ..
 ·exact DT _ (DZ ..)
theorem AA {g:Gt} (o:opG Jm wd cut g=true):yn Jm wd g.1 g.2.1=true:=by
 unfold opG yF aD at o;rw [DW,DW,DW] at o;exact o.1.2.1
theorem jv {g:Gt}:g∈yx Jm wd cut↔opG Jm wd cut g=true:=by
 rw [aE,E3];refine⟨fun h=>h.2,fun o=>⟨?_,o⟩⟩;obtain⟨x,y,w⟩:=g;have hw:=vZ o;obtain⟨a,b,c,d⟩:=jM (AA o);exact sP ⟨a,b⟩ ⟨c,d⟩ hw
theorem wm:(yx Jm wd cut).Nodup:=by
 rw [aE];refine ((lu _ _).filter _).imp fun {a b} h e=>?_;subst e;unfold gLt at h;omega
theorem aH {l:List Gt} (gd:Good wd Jm) (o:∀ g∈l,opG Jm wd cut g=true) (nd:l.Nodup):l.length<=98 :=
 Em (len_sub l (yx Jm wd cut) nd fun x hx=>jv.mpr (o x hx)) (gf gd)
theorem wo {s:Gt} (o:opG Jm wd cut s=true):WalkOk Jm wd cut s [s] :=
 ⟨fun g hg=>by rw [Ej.mp hg];exact o,Fe.mpr ⟨E6,Gd⟩,fun i a b _ h=>(nomatch h),rfl⟩
theorem sQ {s n g:Gt} {l:List Gt} (W:WalkOk Jm wd cut s l) (hl:l.getLast?=some g) (hn:yh Jm wd cut g=some n) (ne:n≠s):WalkOk Jm wd cut s (l++[n]):=by
 have hg:g∈l:=IL hl;have hli:l[l.length - 1]?=some g:=by rw [<-Fp];exact hl
 have pos:0<l.length:=Ip hg;have hnew:n∉l:=fun hm=>by
  obtain⟨i,hi⟩:=EB hm
  match i,hi with
  | 0,hi =>
   have:=W.hd;rw [EL,hi] at this;exact ne (Option.some.inj this)
  | i+1,hi =>
   obtain⟨hlt,_⟩:=DN.mp hi;have hi':l[i]?=some l[i]:=DK (by omega);have hc:=W.ch i _ _ hi' hi;have e:=eW (W.op _ (DS hi')) (W.op _ hg) hc hn;rw [e,<- hli] at hi';have:=(List.getElem?_inj (by omega) W.nd).mp hi';omega
 refine⟨fun x hx=>?_,?_,fun i a b ha hb=>?_,?_⟩
 ·rcases Ep.mp hx with h | h
  ·exact W.op x h
  ·rw [Ej.mp h];exact (vx (W.op g hg) hn).1
 ·refine FZ.mpr ⟨W.nd,Fe.mpr ⟨E6,Gd⟩,fun a ha b hb e=>?_⟩;rw [Ej.mp hb] at e;exact hnew (e▸ha)
 ·by_cases h:i+1<l.length
  ·rw [D4 (by omega)] at ha;rw [D4 h] at hb;exact W.ch i a b ha hb
  ·obtain⟨hlt,_⟩:=DN.mp hb;rw [D6,EO] at hlt;have e:i=l.length - 1:=by omega
   rw [D4 (by omega),e,hli] at ha;rw [D7 (by omega),show i+1 - l.length=0 by omega] at hb;cases ha;cases hb;exact hn
 ·cases l with
  | nil=>cases pos
  | cons a l=>exact W.hd
theorem gm {s g:Gt} {l:List Gt} (W:WalkOk Jm wd cut s l) (hl:l.getLast?=some g) {ring:Bool} (h:yh Jm wd cut g=if ring=true then some s else none):LineOk Jm wd cut ring l where
 op:=W.op
 nd:=W.nd
 ch:=W.ch
 ne:=fun z=>by rw [z] at hl;cases hl
 last:=fun g' hg'=>by
  rw [hl] at hg';cases hg';rw [h,W.hd]
def iF (Jm:List (List Int)) (wd:Nat) (cut:Int) (t:Bool×List Gt):Prop:=t.1=false->∀ h,t.2.head?=some h->jc Jm wd cut h=none
theorem next_prev {g n:Gt} (o:opG Jm wd cut g=true) (h:yh Jm wd cut g=some n):jc Jm wd cut n=some g:=by
 have c:z7 Jm wd (ahC Jm cut g).1 (ahC Jm cut g).2=true:=by
  unfold yh at h;by_cases z:z7 Jm wd (ahC Jm cut g).1 (ahC Jm cut g).2=true
  ·exact z
  ·rw [Jo z] at h;cases h
 obtain⟨m,a1,_,_,_,a2⟩:=v3 o c;rw [h] at a1;cases a1;exact a2
theorem prev_next {g n:Gt} (o:opG Jm wd cut g=true) (h:jc Jm wd cut g=some n):opG Jm wd cut n=true/\yh Jm wd cut n=some g:=by
 have c:z7 Jm wd (bhC Jm cut g).1 (bhC Jm cut g).2=true:=by
  unfold jc at h;by_cases z:z7 Jm wd (bhC Jm cut g).1 (bhC Jm cut g).2=true
  ·exact z
  ·rw [Jo z] at h;cases h
 obtain⟨m,a1,_,a3,_,a2⟩:=dD o c;rw [h] at a1;cases a1;exact⟨a3,a2⟩
theorem dE {t:Bool×List Gt} (ne:t.2≠[]):∃ z,t.2.getLast?=some z/\z∈t.2:=⟨t.2.getLast ne,List.getLast?_eq_some_getLast ne,List.getLast_mem ne⟩
theorem c7 {t:Bool×List Gt} (L:LineOk Jm wd cut t.1 t.2) (st:iF Jm wd cut t) {g n:Gt} (o:opG Jm wd cut g=true) (hn:n∈t.2) (h:yh Jm wd cut g=some n):g∈t.2:=by
 obtain⟨i,hi⟩:=EB hn
 match i,hi with
 | 0,hi =>
  have hh:t.2.head?=some n:=by rw [EL];exact hi
  cases hr:t.1 with
  | false =>
   have:=st hr n hh;rw [next_prev o h] at this;cases this
  | true =>
   obtain⟨z,hz,hm⟩:=dE L.ne;have:=L.last z hz;rw [hr,Jp rfl,hh] at this;rw [eW o (L.op z hm) h this];exact hm
 | i+1,hi =>
  obtain⟨hlt,_⟩:=DN.mp hi;have hi':t.2[i]?=some t.2[i]:=DK (by omega);have hc:=L.ch i _ _ hi' hi;have hm:=DS hi';rw [eW o (L.op _ hm) h hc];exact hm
theorem c8 {t:Bool×List Gt} (L:LineOk Jm wd cut t.1 t.2) {g n:Gt} (hg:g∈t.2) (h:yh Jm wd cut g=some n):n∈t.2:=by
 obtain⟨i,hi⟩:=EB hg;obtain⟨hlt,_⟩:=DN.mp hi;by_cases hl:i+1<t.2.length
 ·have hi':t.2[i+1]?=some t.2[i+1]:=DK hl;have hc:=L.ch i _ _ hi hi';rw [h] at hc;rw [Option.some.inj hc];exact DS hi'
 ·have e:i=t.2.length - 1:=by omega
  have hz:t.2.getLast?=some g:=by rw [Fp,<- e];exact hi
  have:=L.last g hz;rw [h] at this;by_cases hr:t.1=true
  ·rw [Jp hr] at this;exact Ha this.symm
  ·rw [Jo hr] at this;cases this
theorem AB (gd:Good wd Jm) {g:Gt} (o:opG Jm wd cut g=true):z7 Jm wd (ahC Jm cut g).1 (ahC Jm cut g).2=true \/ z7 Jm wd (bhC Jm cut g).1 (bhC Jm cut g).2=true:=by
 have hw:=vZ o;obtain⟨x,y,w⟩:=g;have o':yF Jm wd cut x y w=true:=o;unfold yF aD at o';rw [DW,DW,DW] at o';obtain⟨a0,a1,a2,a3⟩:=jM o'.1.2.1;obtain⟨b0,b1,b2,b3⟩:=jM o'.1.2.2;have h1:=gd.h1;have w1:=gd.w1;have cb:∀ {u v:Int},0<=u->u+1<wd->0<=v->v+1<Jm.length->z7 Jm wd u v=true:=fun p q r s=>by
  unfold z7 yn;rw [Jq (by omega),Jq (by omega),Jq (by omega),Jq (by omega)];rfl
 unfold ahC bhC qL qM;dsimp only at hw ⊢;rcases hw with rfl | rfl
 ·have e1:px x 0=x+1:=rfl;rw [e1] at b1;cases hiB Jm cut x y
  ·by_cases h:y+1<Jm.length
   ·left;exact cb (by simp;omega) (by simp;omega) (by simp;omega) (by simp;omega)
   ·right;exact cb (by simp;omega) (by simp;omega) (by simp;omega) (by simp;omega)
  ·by_cases h:y+1<Jm.length
   ·right;exact cb (by simp;omega) (by simp;omega) (by simp;omega) (by simp;omega)
   ·left;exact cb (by simp;omega) (by simp;omega) (by simp;omega) (by simp;omega)
 ·have e1:py y 1=y+1:=rfl;rw [e1] at b3;cases hiB Jm cut x y
  ·by_cases h:x+1<wd
   ·right;exact cb (by simp;omega) (by simp;omega) (by simp;omega) (by simp;omega)
   ·left;exact cb (by simp;omega) (by simp;omega) (by simp;omega) (by simp;omega)
  ·by_cases h:x+1<wd
   ·left;exact cb (by simp;omega) (by simp;omega) (by simp;omega) (by simp;omega)
   ·right;exact cb (by simp;omega) (by simp;omega) (by simp;omega) (by simp;omega)
theorem wq (gd:Good wd Jm) {t:Bool×List Gt} (L:LineOk Jm wd cut t.1 t.2) (st:iF Jm wd cut t):2<=t.2.length:=by
 obtain⟨r,l⟩:=t
 match l,L,st with
 | [],L,_=>exact absurd rfl L.ne
 | [g],L,st =>
  have o:=L.op g (DZ ..);have hl:=L.last g rfl;cases r with
  | true =>
   exact absurd rfl (vx o hl).2
  | false =>
   have hp:jc Jm wd cut g=none:=st rfl g rfl;have hl:yh Jm wd cut g=none:=hl;rcases AB gd o with c | c
   ·obtain⟨n,h,_⟩:=v3 o c;rw [hl] at h;cases h
   ·obtain⟨n,h,_⟩:=dD o c;rw [hp] at h;cases h
 | _ :: _ :: _,_,_=>exact Nat.le_add_left 2 _
end
section
variable (Jm:List (List Int)) (wd:Nat) (cut:Int)
noncomputable def flat (ts:List (Bool×List Gt)):List Gt:=ts.flatMap (·.2)
structure Told (ts:List (Bool×List Gt)):Prop where
 line:∀ t∈ts,LineOk Jm wd cut t.1 t.2
 st:∀ t∈ts,iF Jm wd cut t
 nd:(flat ts).Nodup
 least:∀ t∈ts,t.1=true->∀ h,t.2.head?=some h->∀ g∈t.2,g=h \/ gLt h g
end
section
variable {Jm:List (List Int)} {wd:Nat} {cut:Int} {ts:List (Bool×List Gt)}
theorem Told.op (T:Told Jm wd cut ts) {g:Gt} (h:g∈flat ts):opG Jm wd cut g=true:=by
 obtain⟨t,ht,hg⟩:=Ew.mp h;exact (T.line t ht).op g hg
theorem Told.len (T:Told Jm wd cut ts) (gd:Good wd Jm):(flat ts).length<=98:=aH gd (fun g hg=>T.op hg) T.nd
theorem lC:∀ (ts:List (Bool×List Gt)),(∀ t∈ts,2<=t.2.length)->2 * ts.length<=(flat ts).length
 | [],_=>DU _
 | t :: ts,h=>by
  have h1:=h t (DZ ..);have h2:=lC ts fun u hu=>h u (DT _ hu);show 2 * (ts.length+1)<=(t.2++flat ts).length;rw [D6];omega
theorem Told.few (T:Told Jm wd cut ts) (gd:Good wd Jm):ts.length<=49:=by
 have h1:=lC ts fun t ht=>wq gd (T.line t ht) (T.st t ht);have h2:=T.len gd;omega
theorem aW (ts:List (Bool×List Gt)) (t:Bool×List Gt):flat (ts++[t])=flat ts++t.2:=by
 unfold flat;rw [E7];simp
theorem Told.fresh (T:Told Jm wd cut ts) {r:Bool} {l:List Gt} (L:LineOk Jm wd cut r l) {s:Gt} (hs:l.head?=some s) (hn:s∉flat ts):∀ g∈l,g∉flat ts:=by
 have key:∀ (i:Nat) g,l[i]?=some g->g∉flat ts:=fun i=>by
  induction i with
  | zero =>
   intro g hg;rw [EL,hg] at hs;rw [Option.some.inj hs];exact hn
  | succ i ih =>
   intro g hg hm;obtain⟨hlt,_⟩:=DN.mp hg;have hi':l[i]?=some l[i]:=DK (by omega);have hc:=L.ch i _ _ hi' hg;obtain⟨t,ht,hgt⟩:=Ew.mp hm;exact ih _ hi' (Ew.mpr ⟨t,ht,c7 (T.line t ht) (T.st t ht) (L.op _ (DS hi')) hgt hc⟩)
 intro g hg;obtain⟨i,hi⟩:=EB hg;exact key i g hi
theorem Told.more (T:Told Jm wd cut ts) {r:Bool} {l:List Gt} (L:LineOk Jm wd cut r l) {s:Gt} (hs:l.head?=some s) (hn:s∉flat ts) (st:r=false->jc Jm wd cut s=none) (le:r=true->∀ g∈l,g=s \/ gLt s g):Told Jm wd cut (ts++[(r,l)]) where
 line:=fun t ht=>by
  rcases Ep.mp ht with h | h
  ·exact T.line t h
  ·rw [Ej.mp h];exact L
 st:=fun t ht=>by
  rcases Ep.mp ht with h | h
  ·exact T.st t h
  ·rw [Ej.mp h];intro hr h hh;rw [show (r,l).2.head?=some s from hs] at hh;rw [<-Option.some.inj hh];exact st hr
 nd:=by
  rw [aW];refine FZ.mpr ⟨T.nd,L.nd,fun a ha b hb e=>?_⟩;exact T.fresh L hs hn b hb (e▸ha)
 least:=fun t ht=>by
  rcases Ep.mp ht with h | h
  ·exact T.least t h
  ·rw [Ej.mp h];intro hr h hh;rw [show (r,l).2.head?=some s from hs] at hh;rw [<-Option.some.inj hh];exact le hr
theorem Cw {r:Bool} {l:List Gt} (L:LineOk Jm wd cut r l) {s:Gt} (hs:l.head?=some s) (hp:jc Jm wd cut s=none):r=false:=by
 cases r with
 | false=>rfl
 | true =>
  obtain⟨z,hz,hm⟩:=dE (t:=(true,l)) L.ne;have:=L.last z hz;rw [Jp rfl,hs] at this;have:=next_prev (L.op z hm) this;rw [hp] at this;cases this
theorem AD (T:Told Jm wd cut ts) (all:∀ g,opG Jm wd cut g=true->jc Jm wd cut g=none->g∈flat ts) {r:Bool} {l:List Gt} (L:LineOk Jm wd cut r l) {s:Gt} (hs:l.head?=some s) (hn:s∉flat ts):r=true:=by
 cases r with
 | true=>rfl
 | false =>
  obtain⟨z,hz,hm⟩:=dE (t:=(false,l)) L.ne;have hnone:yh Jm wd cut z=none:=L.last z hz
  let U:=(yx Jm wd cut).filter fun g=>decide (g∉flat ts)
  have memU:∀ g,g∈U↔opG Jm wd cut g=true/\g∉flat ts:=fun g=>by
   show g∈List.filter _ _↔_;rw [E3,jv,decide_eq_true_eq]
  let pr:Gt->Gt:=fun g=>(jc Jm wd cut g).getD g
  have prU:∀ g∈U,jc Jm wd cut g=some (pr g)/\yh Jm wd cut (pr g)=some g/\pr g∈U:=fun g hg=>by
   obtain⟨o,nf⟩:=(memU g).mp hg;cases hp:jc Jm wd cut g with
   | none=>exact absurd (all g o hp) nf
   | some p =>
    have e:pr g=p:=by show (jc Jm wd cut g).getD g=p;rw [hp];rfl
    obtain⟨op,hnx⟩:=prev_next o hp;rw [e];refine⟨rfl,hnx,(memU p).mpr ⟨op,fun hm=>?_⟩⟩;obtain⟨t,ht,hpt⟩:=Ew.mp hm;exact nf (Ew.mpr ⟨t,ht,c8 (T.line t ht) hpt hnx⟩)
  have ndU:U.Nodup:=wm.filter _;have ndP:(U.map pr).Nodup:=by
   refine E8.mpr (ndU.imp_of_mem fun {a b} ha hb ne e=>ne ?_);have h1:=(prU a ha).2.1;have h2:=(prU b hb).2.1;rw [e,h2] at h1;exact (Option.some.inj h1).symm
  have zU:z∈U:=(memU z).mpr ⟨L.op z hm,T.fresh L hs hn z hm⟩;have:=oP (U.map pr) U ndP (fun x hx=>by obtain⟨g,hg,rfl⟩:=Ee.mp hx;exact (prU g hg).2.2) (by rw [DM];exact DU _) z zU;obtain⟨g,hg,rfl⟩:=Ee.mp this;rw [(prU g hg).2.1] at hnone;cases hnone
noncomputable def jg (t:Bool×List Gt):PyData:=.tuple [.str (if t.1=true then "ring" else "run"),.tuple (t.2.map gD3)]
theorem lD (l:List Gt):zW (l.map gD3)=true:=by
 induction l with
 | nil=>rfl
 | cons g l ih=>show (zE (gD3 g) && zW (l.map gD3))=true;rw [ih];rfl
theorem eY (t:Bool×List Gt):zE (jg t)=true:=by
 show (zE (.str _) && (zE (.tuple (t.2.map gD3)) && true))=true;rw [show zE (.tuple (t.2.map gD3))=zW (t.2.map gD3) from rfl,lD];cases t.1 <;> decide +kernel
theorem gq:∀ l m:List Gt,bL (l.map gD3) (m.map gD3)=true
 | [],m=>by rw [G1,bL]
 | g :: l,[]=>rfl
 | (x,y,w) :: l,(x',y',w') :: m=>by
  rw [Ek,Ek,bL];split
  ·exact gq l m
  ·show dh (.tuple [.int x,.int y,.int w]) (.tuple [.int x',.int y',.int w'])=true;simp only [dh,bL];split
   ·split
    ·split <;> rfl
    ·rfl
   ·rfl
theorem wt (t u:Bool×List Gt):dh (jg t) (jg u)=true:=by
 unfold jg;generalize (if t.1=true then ("ring":Str) else "run")=a;generalize (if u.1=true then ("ring":Str) else "run")=b;rw [dh,bL];split
 ·rw [bL];split
  ·rfl
  ·rw [dh];exact gq _ _
 ·rfl
theorem lE (l:List Gt):D5 (l.map gD3)<=1:=by
 induction l with
 | nil=>exact EE _
 | cons g l ih=>exact Nat.max_le.mpr ⟨DU 1,ih⟩
theorem mY (t:Bool×List Gt):(jg t).depth<=3:=by
 show max 0 (max (D5 (t.2.map gD3)+1) 0)+1<=3;have:=lE t.2;omega
theorem lF {a b:Gt} (h:gD3 a=gD3 b):a=b:=by
 obtain⟨x,y,w⟩:=a;obtain⟨x',y',w'⟩:=b;unfold gD3 vb at h;simp at h;simp [h]
theorem wu (T:Told Jm wd cut ts):SortOk "str" (ts.map jg) where
 plain:=fun d hd=>by obtain⟨t,_,rfl⟩:=Ee.mp hd;exact eY t
 head:=fun d hd=>by obtain⟨t,_,rfl⟩:=Ee.mp hd;rfl
 cmp:=fun d hd e he=>by
  obtain⟨t,_,rfl⟩:=Ee.mp hd;obtain⟨u,_,rfl⟩:=Ee.mp he;exact wt t u
 depth:=fun d hd=>by obtain⟨t,_,rfl⟩:=Ee.mp hd;exact Em (mY t) (by decide)
 nd:=by
  have h:=(Hg.mp T.nd).2;refine E8.mpr (h.imp_of_mem fun {a b} ha hb hd e=>?_);unfold jg at e;have e2:a.2.map gD3=b.2.map gD3:=by
   injection e with e;injection e with _ e;injection e with e _;injection e
  cases ha2:a.2 with
  | nil=>exact (T.line a ha).ne ha2
  | cons g l =>
   cases hb2:b.2 with
   | nil=>exact (T.line b hb).ne hb2
   | cons g' l' =>
    rw [ha2,hb2,Ek,Ek] at e2;injection e2 with e2 _;exact hd g (by rw [ha2];exact DZ ..) g' (by rw [hb2];exact DZ ..) (lF e2)
theorem Told.perm {us:List (Bool×List Gt)} (T:Told Jm wd cut ts) (p:us.Perm ts):Told Jm wd cut us where
 line:=fun t ht=>T.line t (p.mem_iff.mp ht)
 st:=fun t ht=>T.st t (p.mem_iff.mp ht)
 nd:=(p.flatMap_right _).nodup_iff.mpr T.nd
 least:=fun t ht=>T.least t (p.mem_iff.mp ht)
end
section
variable {K:DP} {f:Fx} {ρ:zw} {ta:TE} {P:PyData->Prop}
noncomputable def eZ:PyData->Bool
 | .none=>true
 | _=>false
theorem gr {H:Hp} {d:PyData} {v:V} (r:Rep K H d v) (h:d=.none \/ ∃ ds,d=.tuple ds):decide (v=.non)=eZ d:=by
 rcases h with rfl | ⟨ds,rfl⟩
 ·rw [show v=.non from r];rfl
 ·obtain⟨a,xs,rfl,_⟩:=zX.mp r;rfl
theorem Cy (h:PEd K f ta ρ fun d=>(d=.none \/ ∃ ds,d=.tuple ds)/\P (.bool (!eZ d))):PEd K f (tOp (fun x y H Q=>y=.non/\Q (.bl (!decide (x=.non))) H) ta (tC .non)) ρ P:=fun σ H Q e q =>
 h σ H _ e fun d v H1 g1 r1 ⟨hd,p⟩=>⟨rfl,q _ _ H1 g1 (by show Rep K _ (.bool _) (.bl _);rw [gr r1 hd];rfl) p⟩
theorem Bd (h:PEd K f ta ρ fun d=>(d=.none \/ ∃ ds,d=.tuple ds)/\P (.bool (eZ d))):PEd K f (tOp (fun x y H Q=>y=.non/\Q (.bl (decide (x=.non))) H) ta (tC .non)) ρ P:=fun σ H Q e q =>
 h σ H _ e fun d v H1 g1 r1 ⟨hd,p⟩=>⟨rfl,q _ _ H1 g1 (by show Rep K _ (.bool _) (.bl _);rw [gr r1 hd];rfl) p⟩
end
abbrev wx (K:DP):Sp:=spD K 3 sM fun c r=>∃ ring l,r=jg (ring,l)/\LineOk c.1 c.2.1 c.2.2.1 ring l/\l.head?=some c.2.2.2
theorem Cz (a b:Gt):Ei (gD3 a) (gD3 b)=decide (a=b):=by
 obtain⟨x,y,w⟩:=a;obtain⟨x',y',w'⟩:=b;show (decide (x=x') && (decide (y=y') && (decide (w=w') && true)))=_;by_cases h1:x=x' <;> by_cases h2:y=y' <;> by_cases h3:w=w' <;> simp [h1,h2,h3]
theorem mZ (q:Option Gt):iE q=.none \/ ∃ ds,iE q=.tuple ds:=by
 cases q with
 | none=>exact .inl rfl
 | some g=>exact .inr ⟨_,rfl⟩
theorem AE (F:Def K mg "line_from" qX pZ) (ual:mg "tuple"=none) (ua6:FnIn P w K mg base k "gate_ahead" pf (wk K)) :
  FnIn P w K mg base (k+1) "line_from" pZ (wx K):=by
 refine F.ok qx rfl fun fa cdv A outer s H E hr=>⟨_,(zd (zL (i:=3) qx.nd rfl (Or.inl rfl) (yL (za (pv 2) zb))) (zd (zL (i:=4) qx.nd rfl (Or.inl rfl) (ze ua6 hr rfl (za (pv 0) (za (pv 1) (za (pv 2) zb))))) (zd (iX Er (PW.pt (ck (zQ gI (pv 4) bt (zI _)) (dk (zQ (d9 (K:=K) rfl hr.units) (pv 4) (pv 2) (zI _))))) (zd (jx (i8 FA Ft Fu vn (pv 3) (za (pv 4) zb))) (zh (zL (i:=4) qx.nd rfl (Or.inl rfl) (ze ua6 hr rfl (za (pv 0) (za (pv 1) (za (pv 4) zb)))))))) (zh (zu (zJ (za (aq (zQ Bv (pv 4) bt (zI _)) vd vd) (za (cm (cT (K:=K) rfl) rfl ual Ih (za (pv 3) zb)) zb)))))))),?_⟩;rintro f xs ⟨Jm,wd,cut,g⟩ hl ⟨rfl,gd,o⟩
 try dsimp only [ye,zk]
 dsimp only at *;refine mw (w:=w) (uK (hE (kC ?_)));walk_at "w";refine⟨show 3<5 by decide,fun D=>?_⟩;refine bo (eL (yf (zo (Jm,wd,cut,g) ?_)));walk_at "w";rintro _ rfl;refine zp ?_;refine bo (xP (fun ρ cs=>∃ l z,ρ=[some (.dat (tab Jm)),some (.dat (.int cut)),some (.dat (gD3 g)),some (.own (f.M.length+0)),some (.dat (iE (yh Jm wd cut z)))]/\cs=[.lst (l.map gD3)]/\WalkOk Jm wd cut g l/\l.getLast?=some z) (fun _ cs=>match cs with | [.lst es]=>200 - es.length | _=>0) ⟨[g],g,rfl,rfl,wo o,rfl⟩ ?_);rintro _ _ ⟨l,z,rfl,rfl,W,hz⟩;have oz:=W.op z (IL hz);have wl:=aH gd W.op W.nd;have ml:(l.map gD3).length=l.length:=DM ..;refine DE (A0 (jL (Cy (zC rfl ⟨mZ _,?_⟩))));refine⟨_,rfl,?_⟩;have fr:∀ x:PyData,Hr (freed f.M.length [OC.lst (l.map gD3)]) [some (DV.dat (tab Jm)),some (.dat (.int cut)),some (.dat (gD3 g)),some (.own (f.M.length+0)),some (.dat x)]=[some (.dat (tab Jm)),some (.dat (.int cut)),some (.dat (gD3 g)),some (.dat (.list (l.map gD3))),some (.dat x)]:=fun x=>by simp [freed]
 cases hn:yh Jm wd cut z with
 | none =>
  rw [show (!eZ (iE none))=false from rfl,Jo DL,Jo DL];refine my ?_;rw [fr];refine yW (au (zP (BH (jL (Bd (zC rfl ⟨.inl rfl,_,rfl,?_⟩))))));rw [show eZ (iE none)=true from rfl,Jp rfl];walk_at "w";exact⟨false,l,rfl,gm W hz (by rw [hn];rfl),W.hd⟩
 | some n =>
  rw [show (!eZ (iE (some n)))=true from rfl,Jp rfl];rw [show iE (some n)=gD3 n from rfl];refine jL (d6 (zC rfl (zC rfl ⟨rfl,rfl,Hf rfl,_,rfl,?_⟩)));rw [Jp rfl,Cz];by_cases ng:n=g
  ·rw [Jq ng,show (!true)=false from rfl,Jo DL];refine my ?_;rw [fr];refine yW (au (zP (BH (jL (Bd (zC rfl ⟨.inr ⟨_,rfl⟩,_,rfl,?_⟩))))));rw [show eZ (gD3 n)=false from rfl,Jo DL];walk_at "w";exact⟨true,l,rfl,gm W hz (by rw [hn,ng];rfl),W.hd⟩
  ·rw [Jr ng,show (!false)=true from rfl,Jp rfl];have W2:=sQ W hz hn ng;have wl2:=aH gd W2.op W2.nd;rw [D6,EO] at wl2;refine bo (uJ (i:=3) (j:=0) rfl rfl (by omega) (rT (zC rfl ?_)));refine eL (yf (zo (Jm,wd,cut,n) ?_));have on:=(vx oz hn).1;walk_at "w";rintro _ rfl;refine zp ⟨⟨l++[n],n,rfl,?_,W2,by simp⟩,?_⟩
   ·show [OC.lst (l.map gD3++[gD3 n])]=[OC.lst ((l++[n]).map gD3)];rw [Eg];rfl
   ·show 200 - (l.map gD3++[gD3 n]).length<200 - (l.map gD3).length;rw [D6,EO];omega
abbrev oQ (K:DP):Sp:=spN K 2 (fun (c:List (List Int)×Nat×Int) xs=>xs=[.dat (tab c.1),.dat (.int c.2.2)]/\Good c.2.1 c.1) fun c es=>∃ ts,es=ts.map jg/\Told c.1 c.2.1 c.2.2 ts/\(∀ g,opG c.1 c.2.1 c.2.2 g=true->g∈flat ts)/\es.Pairwise fun d e=>ltD d e=true
noncomputable def inB (Jm:List (List Int)) (wd:Nat) (cut:Int) (g:Gt):Bool:=!z7 Jm wd (bhC Jm cut g).1 (bhC Jm cut g).2
theorem wy {Jm:List (List Int)} {wd:Nat} {cut:Int} {g:Gt} (o:opG Jm wd cut g=true):inB Jm wd cut g=true↔jc Jm wd cut g=none:=by
 unfold inB;by_cases h:z7 Jm wd (bhC Jm cut g).1 (bhC Jm cut g).2=true
 ·obtain⟨n,hn,_⟩:=dD o h;rw [h,hn];simp
 ·rw [Bool.not_eq_true] at h;unfold jc;rw [h];simp
theorem wz (F:Def K mg "lines" dB pC) (uaH:mg "set"=none) (uaI:mg "sorted"=none) (uah:FnIn P w K mg base k "ask_table" ph (fY K)) (ubk:FnIn P w K mg base k "gates" pC (oF K)) (ubl:FnIn P w K mg base k "comes_in" pf (oO K)) (ubm:FnIn P w K mg base k "line_from" pZ (wx K)):FnIn P w K mg base (k+1) "lines" pC (oQ K):=by
 refine F.okN jU rfl fun fa cdv A outer s H E hr=>⟨_,(zd (jx (ze uah hr rfl (za (pv 0) zb))) (zd (zL (i:=2) jU.nd rfl (Or.inl rfl) (ze ubk hr rfl (za (pv 0) (za (pv 1) zb)))) (zd (zL (i:=3) jU.nd rfl (Or.inl rfl) (zr (uk (K:=K) rfl) (yZ (N:=pE) (own:=1) (fr:=[0,1]) (by walk_at "c") rfl (yg (K:=K) rfl (pv 2)) (fun _ _ _ _=>(zf (i:=0) (show (pE:List Str).Nodup by decide +kernel) rfl (Or.inl rfl) (Or.inr rfl))) (fun _ _ _ _=>(dm (yj (K:=K) rfl (ze ubl hr rfl (za (pv 1) (za (pv 2) (za (pv 0) zb)))) (fun _=>rfl)))) (fun _ _ _ _=>(pv 0)) rfl rfl (fun _=>rfl)) (pv 2))) (zd (zL (i:=4) jU.nd rfl (Or.inl rfl) (yL zb)) (zd (zL (i:=5) jU.nd rfl (Or.inl rfl) (lZ (hJ (w:=w) rfl) rfl uaH PyProof.Rows.boot_set)) (zd (yK Er rfl (yg (K:=K) rfl (pv 3)) (zf (i:=6) jU.nd rfl (Or.inl rfl) (Or.inr rfl)) (zh (yr (zQ (mz (w:=w) (K:=K) rfl rfl hr.units) (pv 6) (pv 5) rfl) (zd (zL (i:=7) jU.nd rfl (Or.inl rfl) (ze ubm hr rfl (za (pv 0) (za (pv 1) (za (pv 6) zb))))) (zd (jx (i8 FA Ft Fu vn (pv 4) (za (pv 7) zb))) (zh (yK Er rfl (gP (K:=K) rfl (zq (zj (K:=K) rfl) (pv 7) zc (fun _ _=>rfl))) (zf (i:=8) jU.nd rfl (Or.inl rfl) (Or.inr rfl)) (zh (jx (B8 (w:=w) rfl IH PySem.F.type_set_add (uN (w:=w) (K:=K) rfl rfl hr.units) (pv 5) (za (pv 8) zb)))))))) zS))) (zh (zu (zB (gY (K:=K) rfl hr.units) rfl uaI PyProof.Rows.boot_sorted (za (pv 4) zb)))))))))),?_⟩;rintro f xs ⟨Jm,wd,cut⟩ hl ⟨rfl,gd⟩
 try dsimp only [ye,zk]
 dsimp only at *;have gl:=gf (cut:=cut) gd;refine ax (cq (zo (Jm,wd) ?_));walk_at "w";rintro _ rfl;refine ax (yf (PEdO.ped (eF (Jm,wd,cut) ?_)));walk_at "w";rintro _ rfl;dsimp only;rw [<-aE];refine zp ?_;refine ax (yf (BZ (PEdO.ped (aw (yI (zC rfl ⟨_,rfl,fun n ρ es=>(∃ u,ρ=[u,some (.dat (tab Jm)),some (.dat (.int cut))])/\es=(((yx Jm wd cut).take n).filter (inB Jm wd cut)).map gD3,⟨⟨_,rfl⟩,rfl⟩,?_,?_⟩))))))
 ·rintro D n d ρ' es hd ⟨⟨u,rfl⟩,rfl⟩;rw [DX] at hd;cases hq:(yx Jm wd cut)[n]? with
  | none=>rw [hq] at hd;cases hd
  | some q =>
   rw [hq] at hd;cases hd;have oq:=jv.mp (DS hq);have tk:(yx Jm wd cut).take (n+1)=(yx Jm wd cut).take n++[q]:=by
    rw [G9,hq];rfl
   have len:((((yx Jm wd cut).take n).filter (inB Jm wd cut)).map gD3).length<1000:=by
    rw [DM];have a1:=EV (inB Jm wd cut) ((yx Jm wd cut).take n);rw [Et] at a1;omega
   refine zp (jA (zo (Jm,wd,cut,q) ?_));walk_at "w";rintro _ rfl;dsimp only;refine⟨_,rfl,?_⟩;refine z9 (fun h=>?_) fun h=>?_
   ·refine jB len ?_;walk_at "w";rw [tk,Fg,Eg,ET,show inB Jm wd cut q=true from h,Jp rfl];rfl
   ·refine⟨⟨_,rfl⟩,?_⟩;rw [tk,Fg,Eg,ET,show inB Jm wd cut q=false from h,Jo DL];simp
 ·rintro ρ' es ⟨_,rfl⟩;rw [DM,Eu];have il:((yx Jm wd cut).filter (inB Jm wd cut)).length<=98:=Em (EV _ _) gl;refine⟨_,rfl,zC rfl ⟨_,rfl,by rw [DM,DM];omega,?_⟩⟩;refine zp ?_;dsimp only;rw [<-Eg];refine xQ (w:=w) (uL (hE (kC ?_)));walk_at "w";refine⟨show 4<9 by decide,fun D1=>?_⟩;refine uL (B9 ⟨show 5<9 by decide,fun D2=>?_⟩);refine B6 (oe (yI (zC rfl ?_)));generalize hS:(yx Jm wd cut).filter (inB Jm wd cut)++yx Jm wd cut=S;generalize hG:PyData.list (Hr gD3 (yx Jm wd cut))=G;refine⟨_,rfl,fun i ρ cs=>∃ ts u v x,ρ=[some (.dat (tab Jm)),some (.dat (.int cut)),some (.dat G),some (.dat (.list (S.map gD3))),some (.own (f.M.length+0)),some (.own (f.M.length+1)),u,v,x]/\cs=[.lst (ts.map jg),.set ((flat ts).map gD3).reverse]/\Told Jm wd cut ts/\∀ j g,j<i->S[j]?=some g->g∈flat ts,?_,?_,?_⟩
  ·exact⟨[],_,_,_,rfl,rfl,⟨(fun _ h=>nomatch h),(fun _ h=>nomatch h),Gd,(fun _ h=>nomatch h)⟩,fun j g h=>absurd h (FC _)⟩
  ·rintro i d _ _ hd ⟨ts,u,v,x,rfl,rfl,T,past⟩;rw [DX] at hd;cases hq:S[i]? with
   | none=>rw [hq] at hd;cases hd
   | some q =>
    rw [hq] at hd;cases hd;have oq:opG Jm wd cut q=true:=by
     have hm:=DS hq;rw [<-hS] at hm;rcases Ep.mp hm with h | h
     ·exact jv.mp (E3.mp h).1
     ·exact jv.mp h
    have memk:(gD3 q∈((flat ts).map gD3).reverse)↔q∈flat ts:=by
     rw [FP,Ee];exact⟨fun⟨a,ha,e⟩=>iD e▸ha,fun h=>⟨q,h,rfl⟩⟩
    refine zp (De (Dg (i:=5) (j:=1) rfl rfl (rT (zC rfl ⟨aG _,?_⟩))));rw [Jp rfl];by_cases hin:q∈flat ts
    ·rw [Jq (memk.mpr hin),show (!true)=false from rfl,Jo DL];refine uI ⟨ts,_,_,_,rfl,rfl,T,fun j g hj hg=>?_⟩;rcases Ib.mp hj with h | h
     ·exact past j g h hg
     ·rw [h,hq] at hg;cases hg;exact hin
    ·rw [Jr (fun z=>hin (memk.mp z)),show (!false)=true from rfl,Jp rfl];refine bo (eL (yf (zo (Jm,wd,cut,q) ?_)));walk_at "w";rintro _ ⟨ring,l,rfl,L,hh⟩;dsimp only at L hh;have T2:Told Jm wd cut (ts++[(ring,l)]):=by
      by_cases hi:i<((yx Jm wd cut).filter (inB Jm wd cut)).length
      ·have hp:jc Jm wd cut q=none:=by
        rw [<-hS,D4 hi] at hq;exact (wy oq).mp (E3.mp (DS hq)).2
       have r0:=Cw L hh hp;exact T.more L hh hin (fun _=>hp) fun z=>by rw [r0] at z;cases z
      ·have all:∀ g,opG Jm wd cut g=true->jc Jm wd cut g=none->g∈flat ts:=fun g og hp=>by
        have hm:g∈(yx Jm wd cut).filter (inB Jm wd cut):=E3.mpr ⟨jv.mpr og,(wy og).mpr hp⟩;obtain⟨j,hj⟩:=EB hm;obtain⟨hlt,_⟩:=DN.mp hj;refine past j g (by omega) ?_;rw [<-hS,D4 hlt];exact hj
       have r1:=AD T all L hh hin;refine T.more L hh hin (fun z=>by rw [r1] at z;cases z) fun _ g hg=>?_;have fr:=T.fresh L hh hin g hg;obtain⟨j,hj⟩:=EB (jv.mpr (L.op g hg));have hq':=hq;rw [<-hS,D7 (by omega)] at hq';have pw:(yx Jm wd cut).Pairwise gLt:=by rw [aE];exact (lu _ _).filter _
       obtain⟨l1,e1⟩:=DN.mp hj;obtain⟨l2,e2⟩:=DN.mp hq';rcases Nat.lt_trichotomy j (i - ((yx Jm wd cut).filter (inB Jm wd cut)).length) with h | h | h
       ·refine absurd (past (j+((yx Jm wd cut).filter (inB Jm wd cut)).length) g (by omega) ?_) fr;rw [<-hS,D7 (by omega),Nat.add_sub_cancel];exact hj
       ·left;rw [<-e1,<- e2]
        congr 1
       ·right;rw [<-e1,<- e2];exact Fn.mp pw _ _ l2 l1 h
     have hf:=T2.len gd;have nd2:=T2.nd;rw [aW] at nd2 hf;have few:=T.few gd;refine zp ?_;refine bo (uJ (i:=4) (j:=0) rfl rfl (by rw [DM];omega) (rT (zC rfl ?_)));refine oe (ua (AZ (zC rfl ?_)));walk_at "w";refine⟨fun m ρ cs=>∃ x,ρ=[some (.dat (tab Jm)),some (.dat (.int cut)),some (.dat G),some (.dat (.list (S.map gD3))),some (.own (f.M.length+0)),some (.own (f.M.length+1)),some (.dat (gD3 q)),some (.dat (jg (ring,l))),x]/\cs=[.lst ((ts++[(ring,l)]).map jg),.set ((flat ts++l.take m).map gD3).reverse],?_,?_,?_⟩
     ·refine⟨_,rfl,?_⟩;rw [G4,ER,Eg];rfl
     ·rintro m d _ _ hd ⟨x,rfl,rfl⟩;rw [DX] at hd;cases hg:l[m]? with
      | none=>rw [show (ring,l).2[m]?=none from hg] at hd;cases hd
      | some g =>
       rw [show (ring,l).2[m]?=some g from hg] at hd;cases hd;have tk:l.take (m+1)=l.take m++[g]:=by
        rw [G9,hg];rfl
       have sp:l=l.take m++g :: l.drop (m+1):=by
        obtain⟨hlt,e⟩:=DN.mp hg;rw [<-e,<- Fq hlt,FR]
       have hnew:g∉flat ts++l.take m:=fun z=>by
        have nd3:(flat ts++l).Nodup:=nd2;rw [sp,<- Fj] at nd3;exact (FZ.mp nd3).2.2 g z g (DZ ..) rfl
       have len:(((flat ts++l.take m).map gD3).reverse).length<300:=by
        rw [IW,DM,D6,Et];have:(flat ts++l).length<=98:=hf;rw [D6] at this;omega
       refine zp (Dh (i:=5) (j:=1) rfl rfl len (rT (zC rfl ⟨aG _,fun z=>?_,fun _=>?_⟩)))
       ·rw [FP,Ee] at z;obtain⟨a,ha,e⟩:=z;exact absurd (iD e▸ha) hnew
       ·refine⟨_,rfl,?_⟩;show [OC.lst _,OC.set (gD3 g :: ((flat ts++l.take m).map gD3).reverse)]=_;rw [tk,<- Fj,Eg (l₁:=flat ts++l.take m),GP];rfl
     ·rintro _ _ ⟨x,rfl,rfl⟩;refine⟨ts++[(ring,l)],_,_,_,rfl,?_,T2,fun j g hj hg=>?_⟩
      ·rw [DM,show (ring,l).2.length=l.length from rfl,Eu,aW]
      ·rw [aW];rcases Ib.mp hj with h | h
       ·exact ES _ (past j g h hg)
       ·rw [h,hq] at hg;cases hg;exact Ed _ (Ha hh)
  ·rintro _ _ ⟨ts,u,v,x,rfl,rfl,T,past⟩;have few:=T.few gd;refine xR (eE (uv "str" (zC (i:=4) (d:=.list (ts.map jg)) ?_ ⟨_,rfl,wu T,by rw [DM];omega,.inl (by rw [DM];omega),fun es pm up=>?_⟩)))
   ·show some (freed _ _ _)=_;simp [freed]
   ·obtain⟨us,p,rfl⟩:=bS pm ts rfl;refine⟨us,rfl,T.perm p,fun g og=>?_,up⟩;have hm:g∈S:=by rw [<-hS];exact Ed _ (jv.mpr og)
    obtain⟨j,hj⟩:=EB hm;obtain⟨hlt,_⟩:=DN.mp hj;exact (p.flatMap_right _).mem_iff.mpr (past j g (by rw [DM];exact hlt) hj)
section
variable {Jm:List (List Int)} {wd:Nat} {cut:Int} {r:List Gt}
theorem sR (L:LineOk Jm wd cut true r) {g:Gt} (hg:g∈r):z7 Jm wd (ahC Jm cut g).1 (ahC Jm cut g).2=true/\z7 Jm wd (bhC Jm cut g).1 (bhC Jm cut g).2=true:=by
 have o:=L.op g hg;constructor
 ·have hn:∃ n,yh Jm wd cut g=some n:=by
   obtain⟨i,hi⟩:=EB hg;obtain⟨hlt,_⟩:=DN.mp hi;by_cases hl:i+1<r.length
   ·exact⟨_,L.ch i _ _ hi (DK hl)⟩
   ·have e:i=r.length - 1:=by omega
    have hz:r.getLast?=some g:=by rw [Fp,<- e];exact hi
    have:=L.last g hz;rw [Jp rfl] at this;cases hh:r.head? with
    | none=>exact absurd (List.head?_eq_none_iff.mp hh) L.ne
    | some h=>exact⟨h,this.trans hh⟩
  obtain⟨n,hn⟩:=hn;unfold yh at hn;by_cases z:z7 Jm wd (ahC Jm cut g).1 (ahC Jm cut g).2=true
  ·exact z
  ·rw [Jo z] at hn;cases hn
 ·have hp:∃ p,opG Jm wd cut p=true/\yh Jm wd cut p=some g:=by
   obtain⟨i,hi⟩:=EB hg;obtain⟨hlt,_⟩:=DN.mp hi
   match i,hi with
   | 0,hi =>
    obtain⟨z,hz,hzm⟩:=dE (t:=(true,r)) L.ne;have:=L.last z hz;rw [Jp rfl,EL] at this;exact⟨z,L.op z hzm,this.trans hi⟩
   | i+1,hi =>
    have hi':r[i]?=some r[i]:=DK (by omega);exact⟨_,L.op _ (DS hi'),L.ch i _ _ hi' hi⟩
  obtain⟨p,op,hp⟩:=hp;have hq:=next_prev op hp;unfold jc at hq;by_cases z:z7 Jm wd (bhC Jm cut g).1 (bhC Jm cut g).2=true
  ·exact z
  ·rw [Jo z] at hq;cases hq
end
section
variable {Jm:List (List Int)} {wd:Nat} {cut:Int}
theorem lG {q:Bool} {l m:List Gt} (L:LineOk Jm wd cut q l) (M:LineOk Jm wd cut q m) (hh:l.head?=m.head?):∀ i,i<l.length->i<m.length/\l[i]?=m[i]?:=by
 intro i
 induction i with
 | zero =>
  intro hi;rw [EL,EL] at hh;refine⟨?_,hh⟩;rw [DK hi] at hh;exact (DN.mp hh.symm).1
 | succ i ih =>
  intro hi;obtain⟨h1,h2⟩:=ih (by omega);have a1:l[i]?=some l[i]:=DK (by omega);have a2:l[i+1]?=some l[i+1]:=DK hi;have hn:=L.ch i _ _ a1 a2;rw [a1] at h2;by_cases hm:i+1<m.length
  ·have b2:m[i+1]?=some m[i+1]:=DK hm;have hn':=M.ch i _ _ h2.symm b2;rw [hn] at hn';exact⟨hm,by rw [a2,b2,hn']⟩
  ·have hz:m.getLast?=some l[i]:=by rw [Fp,show m.length - 1=i by omega];exact h2.symm
   have hl:=M.last _ hz;rw [hn] at hl;cases q with
   | false=>cases hl
   | true =>
    rw [Jp rfl,<- hh,EL,<- a2] at hl;have:=(List.getElem?_inj hi L.nd).mp hl;omega
theorem wA {q:Bool} {l m:List Gt} (L:LineOk Jm wd cut q l) (M:LineOk Jm wd cut q m) (hh:l.head?=m.head?):l=m:=by
 refine G5 fun i=>?_;by_cases h:i<l.length
 ·exact (lG L M hh i h).2
 ·by_cases h2:i<m.length
  ·exact ((lG M L hh.symm i h2).2).symm
  ·rw [En (by omega),En (by omega)]
theorem hC {q:Bool} {l:List Gt} (L:LineOk Jm wd cut q l) {t:Bool×List Gt} (T:LineOk Jm wd cut t.1 t.2) (st:iF Jm wd cut t) {h:Gt} (hl:h∈l) (ht:h∈t.2):∀ g∈l,g∈t.2:=by
 obtain⟨j,hj⟩:=EB hl;obtain⟨hlt,_⟩:=DN.mp hj;have up:∀ n i,i=j+n->∀ g,l[i]?=some g->g∈t.2:=fun n=>by
  induction n with
  | zero =>
   intro i hi g hg;rw [hi,Nat.add_zero,hj] at hg;cases hg;exact ht
  | succ n ih =>
   intro i hi g hg;obtain⟨hl2,_⟩:=DN.mp hg;have a1:l[j+n]?=some l[j+n]:=DK (by omega);rw [show i=j+n+1 by omega] at hg;exact c8 T (ih _ rfl _ a1) (L.ch _ _ _ a1 hg)
 have dn:∀ n i,i+n=j->∀ g,l[i]?=some g->g∈t.2:=fun n=>by
  induction n with
  | zero =>
   intro i hi g hg;rw [show i=j by omega,hj] at hg;cases hg;exact ht
  | succ n ih =>
   intro i hi g hg;have a1:l[i+1]?=some l[i+1]:=DK (by omega);exact c7 T st (L.op g (DS hg)) (ih (i+1) (by omega) _ a1) (L.ch i _ _ hg a1)
 intro g hg;obtain⟨i,hi⟩:=EB hg;by_cases h':j<=i
 ·exact up (i - j) i (by omega) g hi
 ·exact dn (j - i) i (by omega) g hi
theorem wB {a b:Gt} (h:gLt a b) (h':gLt b a):False:=by
 unfold gLt at h h';omega
theorem lH {ts us:List (Bool×List Gt)} (T:Told Jm wd cut ts) (U:Told Jm wd cut us) (all:∀ g,opG Jm wd cut g=true->g∈flat us) {t:Bool×List Gt} (ht:t∈ts):t∈us:=by
 have L:=T.line t ht;obtain⟨h,hh⟩:∃ h,t.2.head?=some h:=by
  cases q:t.2 with
  | nil=>exact absurd q L.ne
  | cons x l=>exact⟨x,rfl⟩
 have hm:=Ha hh;obtain⟨u,hu,hmu⟩:=Ew.mp (all h (L.op h hm));have M:=U.line u hu;have s1:=hC L M (U.st u hu) hm hmu;have s2:=hC M L (T.st t ht) hmu hm;obtain⟨k,hk⟩:∃ k,u.2.head?=some k:=by
  cases q:u.2 with
  | nil=>exact absurd q M.ne
  | cons x l=>exact⟨x,rfl⟩
 have hkm:=Ha hk;have noPrev:∀ {r:List Gt} {g:Gt},LineOk Jm wd cut true r->g∈r->jc Jm wd cut g≠none:=fun R hg z=>by
  obtain⟨n,hn,_⟩:=dD (R.op _ hg) (sR R hg).2;rw [z] at hn;cases hn
 have kind:t.1=u.1:=by
  cases h1:t.1 with
  | true =>
   cases h2:u.1 with
   | true=>rfl
   | false =>
    rw [h1] at L;exact absurd (U.st u hu h2 k hk) (noPrev L (s2 k hkm))
  | false =>
   cases h2:u.1 with
   | false=>rfl
   | true =>
    rw [h2] at M;exact absurd (T.st t ht h1 h hh) (noPrev M hmu)
 have hd:h=k:=by
  cases h1:t.1 with
  | true =>
   rcases T.least t ht h1 h hh k (s2 k hkm) with e | e
   ·exact e.symm
   ·rcases U.least u hu (kind▸h1) k hk h hmu with e' | e'
    ·exact e'
    ·exact (wB e e').elim
  | false =>
   have hp:=T.st t ht h1 h hh;obtain⟨i,hi⟩:=EB hmu
   match i,hi with
   | 0,hi =>
    rw [EL,hi] at hk;exact Option.some.inj hk
   | i+1,hi =>
    obtain⟨hlt,_⟩:=DN.mp hi;have a1:u.2[i]?=some u.2[i]:=DK (by omega);have:=next_prev (M.op _ (DS a1)) (M.ch i _ _ a1 hi);rw [hp] at this;cases this
 have e2:t.2=u.2:=by
  rw [<-kind] at M;exact wA L M (by rw [hh,hk,hd])
 have:t=u:=Ii kind e2;rw [this];exact hu
theorem sS {t u:Bool×List Gt} (h:jg t=jg u):t=u:=by
 unfold jg at h;injection h with h;injection h with h1 h2;injection h2 with h2 _;injection h2 with h2;refine Ii ?_ ?_
 ·have ne:PyData.str "ring"≠PyData.str "run":=fun z=>by
   have:=SeqAt.eqv_refl (PyData.str "ring") (by decide +kernel);rw [show Ei (.str "ring") (.str "ring")=Ei (.str "ring") (.str "run") by rw [<-z]] at this;exact absurd this (by decide +kernel)
  cases h3:t.1 <;> cases h4:u.1
  ·rfl
  ·rw [h3,h4] at h1;exact absurd h1.symm ne
  ·rw [h3,h4] at h1;exact absurd h1 ne
  ·rfl
 ·exact List.map_inj_right (fun _ _=>lF) |>.mp h2
theorem e6:∀ {l m:List PyData},(∀ d∈l,zE d=true)->(l.Pairwise fun d e=>ltD d e=true)->(m.Pairwise fun d e=>ltD d e=true)->(∀ d,d∈l↔d∈m)->l=m
 | [],[],_,_,_,_=>rfl
 | [],b :: m,_,_,_,h=>nomatch (h b).mpr (DZ ..)
 | a :: l,[],_,_,_,h=>nomatch (h a).mp (DZ ..)
 | a :: l,b :: m,pl,p,q,h=>by
  obtain⟨p1,p2⟩:=FQ.mp p;obtain⟨q1,q2⟩:=FQ.mp q;have pa:=pl a (DZ ..);have pb:=pl b ((h b).mpr (DZ ..));have ab:a=b:=by
   rcases D0.mp ((h a).mp (DZ ..)) with e | e
   ·exact e
   ·rcases D0.mp ((h b).mpr (DZ ..)) with e' | e'
    ·exact e'.symm
    ·have:=mh _ _ _ pa pb pa (p1 b e') (q1 a e);rw [gS a pa] at this;cases this
  subst ab;rw [e6 (fun d hd=>pl d (DT _ hd)) p2 q2 fun d=>?_];constructor
  ·intro hd;rcases D0.mp ((h d).mp (DT _ hd)) with e | e
   ·have:=p1 d hd;rw [e,gS a pa] at this;cases this
   ·exact e
  ·intro hd;rcases D0.mp ((h d).mpr (DT _ hd)) with e | e
   ·have:=q1 d hd;rw [e,gS a pa] at this;cases this
   ·exact e
theorem wC {ts us:List (Bool×List Gt)} (T:Told Jm wd cut ts) (U:Told Jm wd cut us) (aT:∀ g,opG Jm wd cut g=true->g∈flat ts) (aU:∀ g,opG Jm wd cut g=true->g∈flat us)
  (pT:(ts.map jg).Pairwise fun d e=>ltD d e=true) (pU:(us.map jg).Pairwise fun d e=>ltD d e=true):ts=us:=by
 have e:ts.map jg=us.map jg:=e6 (fun d hd=>by obtain⟨t,_,rfl⟩:=Ee.mp hd;exact eY t) pT pU fun d=>by
  constructor
  ·intro hd;obtain⟨t,ht,rfl⟩:=Ee.mp hd;exact Ee.mpr ⟨t,lH T U aU ht,rfl⟩
  ·intro hd;obtain⟨t,ht,rfl⟩:=Ee.mp hd;exact Ee.mpr ⟨t,lH U T aT ht,rfl⟩
 exact (List.map_inj_right fun _ _=>sS).mp e
end
noncomputable abbrev scr (ns:List Int):PyData:=.list (ns.map .int)
theorem oR {K:DP} {H:Hp} {a:DR} {ns:List Int} (h:SqL K H a (ns.map V.int)):Rep K (hide H L2.f0) (scr ns) (.ref a):=by
 rw [jq];exact zO.mpr ⟨a,_,rfl,h,Reps.ints' ns⟩
theorem AF {K:DP} {H:Hp} {v:V} {ns:List Int} (h:Rep K (hide H L2.f0) (scr ns) v):∃ a,v=.ref a/\SqL K H a (ns.map V.int):=by
 rw [jq] at h;obtain⟨a,xs,rfl,h1,h2⟩:=zO.mp h;rw [h2.ints] at h1;exact⟨a,rfl,h1⟩
def m5 (K:DP):Sp:=fun vs H Q _=>∃ (a:DR) (ns:List Int) (i:Int),vs=[.ref a,.int i]/\SqL K H a (ns.map V.int)/\ns.length<=63/\0<=i/\i<=63 /\
 ∀ (p:DR) (x y:Int) (H':Hp),Same H H'->H p=none->H' p=some (.lst [.int x,.int y])->0<=x->0<=y->y<2147483647->Q (.ref p) H'
def oS (K:DP):Sp:=fun vs H Q _=>∃ (a:DR) (ns:List Int),vs=[.ref a]/\SqL K H a (ns.map V.int)/\ns.length<=63/\∀ H',Q (.bl true) H'
theorem CA {K:DP} {ρ:zw} {ns:List Int} {i:Int} {E2:XK} (h0:ρ[0]?=some (some (.dat (scr ns)))) (h1:ρ[1]?=some (some (.dat (.int i)))) (hl:ns.length<=63) (i0:0<=i) (i1:i<=63) :
  ∀ (σ:L2.St) (H:Hp) (Q:VK),EnvOk K L2.f0 ρ σ H->(∀ (p:DR) (x y:Int) (H':Hp),Same H H'->H p=none->H' p=some (.lst [.int x,.int y])->0<=x->0<=y->y<2147483647->Q (.ref p) H')->j7 (m5 K) [] E2 (zT (z6 0) (zT (z6 1) jT)) σ H Q:=by
 intro σ H Q e q;obtain⟨v0,hv0,r0⟩:=e.get 0 _ h0;obtain⟨v1,hv1,r1⟩:=e.get 1 _ h1;obtain⟨a,rfl,hS⟩:=AF r0;have e1:v1=.int i:=zx.mp (show Rep K (hide H L2.f0) (.int i) v1 from r1);subst e1;exact⟨_,hv0,_,hv1,a,ns,i,rfl,hS,hl,i0,i1,q⟩
theorem AG (F:Def K mg "_law_feed" vU qc) (uaa:mg "len"=none) (uaf:mg "abs"=none):FnIn P w K mg base (k+1) "_law_feed" qc (m5 K):=by
 refine F.raw aB (fun vs H Q E h=>?_) fun fa cdv A outer s H vs Q E hr hs=>⟨_,(zd (zL (i:=2) aB.nd rfl (Or.inl rfl) zc) (zd (yr (zQ iY (zB (ya (K:=K) rfl) rfl uaa EA (za (pv 0) zb)) zc (zI _)) (zh (zL (i:=2) aB.nd rfl (Or.inl rfl) (zq (zF (K:=K) rfl) (pv 0) (zr vF (pv 1) (zB (ya (K:=K) rfl) rfl uaa EA (za (pv 0) zb))) (fun _ _=>rfl)))) zS) (zh (zu (yL (za (zB (bH) rfl uaf Gu (za (pv 2) zb)) (za (zr z8 (zr bx zc (pv 1)) zc) zb))))))),?_⟩
 ·obtain⟨a,ns,i,rfl,_⟩:=h;rfl
 obtain⟨a,ns,i,rfl,hS,h63,i0,i1,q⟩:=hs;have e0:EnvOk K L2.f0 (vI bD [.dat (scr ns),.dat (.int i)]) (start bD [.ref a,.int i]) H:=aM (.cons (oR hS) (.cons (show RepV K L2.f0 H (.dat (.int i)) (.int i) from (zx (K:=K) (H:=hide H L2.f0)).mpr rfl) .nil)) (L2.fok0 H);refine t8 (D:={ nx:=fun ρ=>ρ=[some (.dat (scr ns)),some (.dat (.int i)),some (.dat (.int 0))],rt:=fun _=>False }) ?_ e0 ?_ (fun _ _ _ _ _ z=>z.elim) (fun _ z=>z) (fun _ z=>z)
 ·walk_at "w";rfl
 rintro _ σ1 H1 g1 e1 rfl;refine t8 (D:={ nx:=fun ρ=>∃ c:Int,ρ=[some (.dat (scr ns)),some (.dat (.int i)),some (.dat (.int c))],rt:=fun _=>False }) ?_ e1 ?_ (fun _ _ _ _ _ z=>z.elim) (fun _ z=>z) (fun _ z=>z)
 ·walk_at "w";rw [DM];by_cases h:0<ns.length
  ·rw [Jp (by simpa using h)];walk_at "w";rw [DM];have z0:=Iv i (b:=(ns.length:Int)) (by omega);have z1:=Gp i (b:=(ns.length:Int)) (by omega);refine⟨by omega,_,rfl,_,qz (j:=(i % (ns.length:Int)).toNat) (by omega) (by omega),?_⟩;walk_at "w";exact⟨_,rfl⟩
  ·rw [Jo (by simpa using h)];walk_at "w";exact⟨_,rfl⟩
 rintro _ σ2 H2 g2 e2 ⟨c,rfl⟩;unfold dR;have ss:Same H H2:=(L2.same0 g1).trans (L2.same0 g2);refine t9 (R:=fun ds=>∃ x y:Int,ds=[.int x,.int y]/\0<=x/\0<=y/\y<2147483647) ?_ e2 ?_
 ·walk_at "w";omega
 ·rintro p ds vs H3 g3 hn rs ⟨x,y,rfl,hx,hy,hy'⟩;have sf:Same H H3:=ss.trans (L2.same0 g3);have ev:vs=[.int x,.int y]:=Reps.ints (ns:=[x,y]) rs;subst ev;exact q p x y _ (sf.trans (yD hn _)) (sf.free hn) zR hx hy hy'
abbrev e7 (K:DP):Sp:=spD K 2 (fun (c:Int×Int) xs=>xs=[.dat (.int c.1),.dat (.int c.2)]) fun c r=>r=.int (E9 c.1 c.2:Int)
noncomputable def DJ:zw->Nat
 | [_,some (.dat (.int b))]=>b.toNat
 | _=>0
theorem wD (a b:Nat):Jk b (a % b)=Jk a b:=by rw [Nat.gcd_comm b,<- Nat.gcd_rec,Nat.gcd_comm]
theorem sT (F:Def K mg "common" bX pG) (uaf:mg "abs"=none):FnIn P w K mg base (k+1) "common" pG (e7 K):=by
 refine F.ok cH rfl fun fa cdv A outer s H E hr=>⟨_,(zd (tL (i:=0) (j:=1) rfl cH.nd rfl rfl (by decide) rfl rfl (za (zB (bH) rfl uaf Gu (za (pv 0) zb)) (za (zB (bH) rfl uaf Gu (za (pv 1) zb)) zb)) rfl) (zd (iX Er (yj (K:=K) rfl (pv 1) (fun _=>rfl)) (zh (tL (i:=0) (j:=1) rfl cH.nd rfl rfl (by decide) rfl rfl (za (pv 1) (za (zr vF (pv 0) (pv 1)) zb)) rfl))) (zh (zu (pv 0))))),?_⟩;rintro f xs ⟨a,b⟩ hl rfl
 try dsimp only [ye,zk]
 dsimp only at *;refine yc (A4 ?_);walk_at "w";have ha:(if a<0 then -a else a)=(a.natAbs:Int):=by split <;> omega
 have hb:(if b<0 then -b else b)=(b.natAbs:Int):=by split <;> omega
 refine (xA (fun ρ=>∃ p q:Nat,ρ=[some (.dat (.int p)),some (.dat (.int q))]/\Jk p q=E9 a b) DJ ⟨a.natAbs,b.natAbs,?_,rfl⟩ ?_)
 ·rw [ha,hb];rfl
 rintro _ ⟨p,q,rfl,h⟩;walk_at "w";refine z9 (fun h2=>?_) fun h2=>?_
 ·have hq:0<q:=by
   have:(q:Int)≠0:=by simpa using h2
   omega
  refine A4 ?_;walk_at "w";refine⟨⟨q,p % q,?_,?_⟩,?_⟩
  ·rfl
  ·rw [wD];exact h
  ·show ((p:Int) % (q:Int)).toNat<((q:Int)).toNat;have:=Hk p hq;omega
 ·have hq:q=0:=by
   have:(q:Int)=0:=by simpa using h2
   omega
  subst hq;walk_at "w";rw [Nat.gcd_zero_right] at h;rw [h]
abbrev Fr2:=Int×Int
noncomputable def frD (p:Fr2):PyData:=.tuple [.int p.1,.int p.2]
abbrev oT (K:DP):Sp:=spD K 2 (fun (c:Fr2) xs=>xs=[.dat (.int c.1),.dat (.int c.2)]/\c.2≠0/\c.2.natAbs<vf) fun c r=>r=Ci (HL c.1 c.2)
theorem wF (F:Def K mg "shortened" qU pY) (uaJ:FnIn P w K mg base k "common" pG (e7 K)):FnIn P w K mg base (k+1) "shortened" pY (oT K):=by
 refine F.ok vO rfl fun fa cdv A outer s H E hr=>⟨_,(zd (zL (i:=2) vO.nd rfl (Or.inl rfl) (ze uaJ hr rfl (za (pv 0) (za (pv 1) zb)))) (zd (yr (zQ fE (pv 1) zc (zI _)) (zh (zL (i:=2) vO.nd rfl (Or.inl rfl) (CP Bu (pv 2)))) zS) (zh (zu (zJ (za (zr bT (pv 0) (pv 2)) (za (zr bT (pv 1) (pv 2)) zb))))))),?_⟩;rintro f xs ⟨t,b⟩ hl ⟨rfl,b0,bh⟩
 try dsimp only [ye,zk]
 dsimp only at *;obtain⟨s1,s2⟩:=r9 (t:=t) b0;have gp:0<E9 t b:=HA t b0;have gl:E9 t b<=b.natAbs:=Nat.le_of_dvd (by omega) (Int.ofNat_dvd_left.mp (Int.gcd_dvd_right t b));refine yc (yf (zo (t,b) (Cf rfl rfl ⟨rfl,rfl,?_⟩)));rintro _ rfl;refine zp (ou (fun ρ=>ρ=[some (.dat (.int t)),some (.dat (.int b)),some (.dat (.int (b.sign * (E9 t b:Int))))]) ?_ ?_)
 ·refine Ba (b<0) (t_b (km (zC rfl ⟨_,rfl,qD ⟨_,rfl,_,rfl,rfl⟩⟩))) (fun h=>?_) fun h=>y3 ?_
  ·refine yf (C9 (zC rfl ⟨_,rfl,zp ?_⟩));rw [Fl h,Int.neg_one_mul];rfl
  ·have:0<b:=by omega
   rw [FK this,Ji];rfl
 rintro _ rfl;have nz:b.sign * ((E9 t b:Nat):Int)≠0:=Int.mul_ne_zero (fun z=>b0 (Int.sign_eq_zero_iff_zero.mp z)) (by omega);have nh:(b.sign * ((E9 t b:Nat):Int)).natAbs<vf:=by
  rw [Gz,Gq];have:b.sign.natAbs=1:=by
   rcases Fb b 0 with h | h | h
   ·rw [Fl h];rfl
   ·exact absurd h b0
   ·rw [FK h];rfl
  rw [this,Nat.one_mul];omega
 refine yW (au (zP (jm (zC rfl ⟨_,rfl,zC rfl ⟨_,rfl,⟨nz,nh⟩,zP (jm (zC rfl ⟨_,rfl,zC rfl ⟨_,rfl,⟨nz,nh⟩,jb ⟨_,rfl,by show 2<=1000;decide,?_⟩⟩⟩))⟩⟩))));show PyData.tuple [.int _,.int _]=Ci _;rw [s1,s2];rfl
theorem vy {Jm:List (List Int)} {wd:Nat} {cut x y w:Int} (h:yF Jm wd cut x y w=true):aD Jm wd x y w=true:=by
 unfold yF at h;rw [DW] at h;exact h.1
theorem dF {Jm:List (List Int)} {wd:Nat} {x y:Int} (g:Good wd Jm) (h:yn Jm wd x y=true):-1000000000<=zK Jm x y/\zK Jm x y<=1000000000:=by
 obtain⟨x0,x1,y0,y1⟩:=jM h;have hy:y.toNat<Jm.length:=by omega
 have hr:=g.row _ (Eo hy);have hx:x.toNat<Jm[y.toNat].length:=by omega
 have:=g.hgt _ (Eo hy) _ (Eo hx);unfold zK;rw [DO,DO,DK hy,Option.getD_some,DK hx];exact this
noncomputable def TT (Jm:List (List Int)) (cut x y:Int):Int:=2 * cut+1 - 2 * zK Jm x y
noncomputable def BB (Jm:List (List Int)) (x y w:Int):Int:=2 * (zK Jm (px x w) (py y w) - zK Jm x y)
theorem aI {Jm:List (List Int)} {wd:Nat} {cut x y w:Int} (h:yF Jm wd cut x y w=true):(0<TT Jm cut x y/\TT Jm cut x y<BB Jm x y w) \/ (TT Jm cut x y<0/\BB Jm x y w<TT Jm cut x y):=by
 unfold yF at h;rw [DW] at h;have h2:=h.2;unfold TT BB;generalize zK Jm x y=a at *;generalize zK Jm (px x w) (py y w)=b at *;by_cases ha:cut<a
 ·by_cases hb:cut<b
  ·rw [Jq ha,Jq hb] at h2;cases h2
  ·omega
 ·by_cases hb:cut<b
  ·omega
  ·rw [Jr ha,Jr hb] at h2;cases h2
theorem lI {Jm:List (List Int)} {wd:Nat} {cut x y w:Int} (h:yF Jm wd cut x y w=true):BB Jm x y w≠0:=by
 have:=aI h;omega
theorem Be {Jm:List (List Int)} {wd:Nat} {cut x y w:Int} (g:Good wd Jm) (h:yF Jm wd cut x y w=true):(BB Jm x y w).natAbs<=4000000000:=by
 obtain⟨i1,i2⟩:=vt (vy h);have b1:=dF g i1;have b2:=dF g i2;unfold BB;omega
theorem w01 {Jm:List (List Int)} {wd:Nat} {cut x y w:Int} (h:yF Jm wd cut x y w=true):w=0 \/ w=1:=by
 have h:=vy h;unfold aD at h;rw [DW] at h;exact of_decide_eq_true h.1
noncomputable def shQ (Jm:List (List Int)) (cut:Int) (g:Gt):Rat:=HL (TT Jm cut g.1 g.2.1) (BB Jm g.1 g.2.1 g.2.2)
noncomputable def plT (Jm:List (List Int)) (cut:Int) (g:Gt):Gt:=if g.2.2=0 then (g.1 * ((shQ Jm cut g).den:Int)+(shQ Jm cut g).num,g.2.1 * ((shQ Jm cut g).den:Int),((shQ Jm cut g).den:Int)) else (g.1 * ((shQ Jm cut g).den:Int),g.2.1 * ((shQ Jm cut g).den:Int)+(shQ Jm cut g).num,((shQ Jm cut g).den:Int))
theorem Bf {Jm:List (List Int)} {wd:Nat} {cut:Int} {g:Gt} (gd:Good wd Jm) (o:opG Jm wd cut g=true):(shQ Jm cut g).num.natAbs<=4000000000/\(shQ Jm cut g).den<=4000000000/\0<(shQ Jm cut g).den:=by
 have h1:=Be gd o;have h2:=aI o;refine⟨Em (mC _ _) (by omega),Em (mD (lI o)) h1,(shQ Jm cut g).den_pos⟩
def PlB (p:Gt):Prop:=p.1.natAbs<=32000000000/\p.2.1.natAbs<=32000000000/\0<p.2.2/\p.2.2<=4000000000
theorem Dr {Jm:List (List Int)} {wd:Nat} {cut:Int} {g:Gt} (gd:Good wd Jm) (o:opG Jm wd cut g=true):PlB (plT Jm cut g):=by
 obtain⟨b1,b2,b3⟩:=Bf gd o;obtain⟨i1,i2⟩:=vt (vy o);obtain⟨x0,x1,y0,y1⟩:=jM i1;have w2:=gd.w2;have h2:=gd.h2;have mx:∀ a:Int,0<=a->a<7->(a * ((shQ Jm cut g).den:Int)).natAbs<=28000000000:=fun a a0 a1=>by
  have:a=0 \/ a=1 \/ a=2 \/ a=3 \/ a=4 \/ a=5 \/ a=6:=by omega
  rcases this with rfl | rfl | rfl | rfl | rfl | rfl | rfl <;> omega
 have m1:=mx g.1 x0 (by omega);have m2:=mx g.2.1 y0 (by omega);unfold PlB plT;split
 ·dsimp only;omega
 ·dsimp only;omega
abbrev oU (K:DP):Sp:=spD K 3 sM fun c r=>r=Ci (shQ c.1 c.2.2.1 c.2.2.2)
theorem wG (F:Def K mg "share" dC pf) (uas:FnIn P w K mg base k "gate_points" ["gate"] (oD K)) (ubn:FnIn P w K mg base k "shortened" pY (oT K)):FnIn P w K mg base (k+1) "share" pf (oU K):=by
 refine F.ok eP rfl fun fa cdv A outer s H E hr=>⟨_,(zd (yl (yZ (N:=pR) (own:=2) (fr:=[0]) (by walk_at "c") rfl (yg (K:=K) rfl (ze uas hr rfl (za (pv 2) zb))) (fun _ _ _ _=>(zH (K:=K) (n:=2) rfl rfl (zg (zf (i:=0) (show (pR:List Str).Nodup by decide +kernel) rfl (Or.inl rfl) (Or.inr rfl)) (zg (zf (i:=1) (show (pR:List Str).Nodup by decide +kernel) rfl (Or.inl rfl) (Or.inr rfl)) zD)))) (fun _ _ _ _=>yV) (fun _ _ _ _=>(zq (zF (K:=K) rfl) (zq (zF (K:=K) rfl) (pv 2) (pv 1) (fun _ _=>rfl)) (pv 0) (fun _ _=>rfl))) rfl rfl (fun _=>rfl)) (gR (K:=K) (n:=2) rfl rfl (zg (zf (i:=3) eP.nd rfl (Or.inl rfl) (Or.inr rfl)) (zg (zf (i:=4) eP.nd rfl (Or.inl rfl) (Or.inr rfl)) zD)))) (zh (zu (ze ubn hr rfl (za (zr yb (zr z8 (zr ym zc (pv 1)) zc) (zr ym zc (pv 3))) (za (zr ym zc (zr yb (pv 4) (pv 3))) zb)))))),?_⟩;rintro f xs ⟨Jm,wd,cut,x,y,w⟩ hl ⟨rfl,g,ho⟩
 try dsimp only [ye,zk]
 dsimp only at *;obtain⟨i1,i2⟩:=vt (vy ho);have n0:BB Jm x y w≠0:=lI ho;have n1:(BB Jm x y w).natAbs<=4000000000:=Be g ho;refine yc (yf (PEdO.ped (fK (A:=fun p:Int×Int=>PyData.tuple [.int p.1,.int p.2]) (B:=fun p:Int×Int=>PyData.int (zK Jm p.1 p.2)) [(x,y),(px x w,py y w)] (yI (zo (x,y,w) (cD rfl ⟨rfl,rfl,?_⟩))))));rintro _ rfl;refine⟨_,rfl,rfl,show 2<=1000 by decide,?_,?_⟩
 ·rintro D p ρ' es hp ho hes;obtain⟨u,v,rfl⟩:=ho.two;have hi:yn Jm wd p.1 p.2=true:=by
   simp only [D0,E6,or_false] at hp;rcases hp with rfl | rfl
   ·exact i1
   ·exact i2
  obtain⟨r,h1,h2⟩:=eT g hi;refine jr rfl (zz (zp (zz (zp (yu (qP ?_))))));rw [Jp rfl];refine jB hes ?_;unfold tab;walk_at "w";refine⟨_,h1,?_⟩;walk_at "w";refine⟨_,h2,?_⟩;exact⟨.mk2,rfl⟩
 ·refine uf rfl (zz (zp (zz (zp (yu ?_)))));have sm:∀ {i:Int},i.natAbs<2 ^ 60->i.natAbs<vf:=fun h=>vK h (by decide);have b1:-1000000000<=zK Jm x y/\zK Jm x y<=1000000000:=dF g i1;have b2:-1000000000<=zK Jm (px x w) (py y w)/\zK Jm (px x w) (py y w)<=1000000000:=dF g i2;have cb:(cut:Int).natAbs<2 ^ 60:=by
   have:(0<TT Jm cut x y/\TT Jm cut x y<BB Jm x y w) \/ (TT Jm cut x y<0/\BB Jm x y w<TT Jm cut x y):=aI ho;unfold TT BB at this;omega
  refine yW (zo (TT Jm cut x y,BB Jm x y w) ?_);refine zP (cS (cS (jm (qD ⟨_,rfl,zC rfl ⟨_,rfl,⟨sm (by decide),sm cb⟩,_,rfl,qD ⟨_,rfl,_,rfl,jm (qD ⟨_,rfl,zC rfl ⟨_,rfl,⟨sm (by decide),sm (show (zK Jm x y).natAbs<_ by omega)⟩,_,rfl,?_⟩⟩)⟩⟩⟩))));refine zP (jm (qD ⟨_,rfl,cS (zC rfl ⟨_,rfl,zC rfl ⟨_,rfl,_,rfl,⟨sm (by decide),sm (show (zK Jm (px x w) (py y w) - zK Jm x y).natAbs<_ by omega)⟩,jb ⟨rfl,⟨rfl,n0,sm (by omega)⟩,?_⟩⟩⟩)⟩));rintro _ rfl;rfl
abbrev gu (K:DP):Sp:=spD K 3 sM fun c r=>r=gD3 (plT c.1 c.2.2.1 c.2.2.2)
theorem lJ (F:Def K mg "place_of" vS pf) (ubo:FnIn P w K mg base k "share" pf (oU K)):FnIn P w K mg base (k+1) "place_of" pf (gu K):=by
 refine F.ok ju rfl fun fa cdv A outer s H E hr=>⟨_,(zd (yl (pv 2) (zH (K:=K) (n:=3) rfl rfl (zg (zf (i:=3) ju.nd rfl (Or.inl rfl) (Or.inr rfl)) (zg (zf (i:=4) ju.nd rfl (Or.inl rfl) (Or.inr rfl)) (zg (zf (i:=5) ju.nd rfl (Or.inl rfl) (Or.inr rfl)) zD))))) (zd (yl (ze ubo hr rfl (za (pv 0) (za (pv 1) (za (pv 2) zb)))) (zH (K:=K) (n:=2) rfl rfl (zg (zf (i:=6) ju.nd rfl (Or.inl rfl) (Or.inr rfl)) (zg (zf (i:=7) ju.nd rfl (Or.inl rfl) (Or.inr rfl)) zD)))) (zd (yr (zQ (yw (K:=K) rfl hr.units) (pv 5) zc (zI _)) (zh (zu (zJ (za (zr z8 (zr ym (pv 3) (pv 7)) (pv 6)) (za (zr ym (pv 4) (pv 7)) (za (pv 7) zb)))))) zS) (zh (zu (zJ (za (zr ym (pv 3) (pv 7)) (za (zr z8 (zr ym (pv 4) (pv 7)) (pv 6)) (za (pv 7) zb))))))))),?_⟩;rintro f xs ⟨Jm,wd,cut,x,y,w⟩ hl ⟨rfl,g,ho⟩
 try dsimp only [ye,zk]
 dsimp only at *;obtain⟨b1,b2,b3⟩:=Bf g ho;obtain⟨i1,i2⟩:=vt (vy ho);obtain⟨x0,x1,y0,y1⟩:=jM i1;have w2:=g.w2;have h2:=g.h2;have sm:∀ {i:Int},i.natAbs<2 ^ 60->i.natAbs<vf:=fun h=>vK h (by decide);refine yc (yf (zC rfl (jr rfl (zz (zp (zz (zp (zz (zp (yu ?_))))))))));refine yc (yf (zo (Jm,wd,cut,x,y,w) (Cg rfl rfl rfl ⟨rfl,⟨rfl,g,ho⟩,?_⟩)));rintro _ rfl;dsimp only;have cx:CMulH x ((shQ Jm cut (x,y,w)).den:Int):=⟨sm (by dsimp only at x0 x1;omega),sm (by rw [Gq];omega)⟩;have cy:CMulH y ((shQ Jm cut (x,y,w)).den:Int):=⟨sm (by dsimp only at y0 y1;omega),sm (by rw [Gq];omega)⟩;refine jr rfl (zz (zp (zz (zp (yu ?_)))));refine yc (Ba (w=0) (Dm rfl) (fun h=>?_) fun h=>y3 ?_)
 ·refine yW (au (zP (cS (jm (zC rfl ⟨_,rfl,zC rfl ⟨_,rfl,cx,_,rfl,zC rfl ⟨_,rfl,zP (jm (zC rfl ⟨_,rfl,zC rfl ⟨_,rfl,cy,zP (zC rfl (jb ⟨_,rfl,by show 3<=1000;decide,?_⟩))⟩⟩))⟩⟩⟩)))));unfold plT;rw [Jp h];rfl
 ·refine yW (au (zP (jm (zC rfl ⟨_,rfl,zC rfl ⟨_,rfl,cx,zP (cS (jm (zC rfl ⟨_,rfl,zC rfl ⟨_,rfl,cy,_,rfl,zC rfl ⟨_,rfl,zP (zC rfl (jb ⟨_,rfl,by show 3<=1000;decide,?_⟩))⟩⟩⟩)))⟩⟩))));unfold plT;rw [Jo h];rfl
abbrev Pt:=Int×Int
noncomputable def pD (p:Pt):PyData:=.tuple [.int p.1,.int p.2]
noncomputable def inP (Jm:List (List Int)) (wd:Nat) (p:Pt):Bool:=yn Jm wd p.1 p.2
noncomputable def nbL (p:Pt):List Pt:=[(p.1 - 1,p.2),(p.1,p.2 - 1),(p.1,p.2+1),(p.1+1,p.2)]
abbrev TP:=List (List Int)×Nat×Int×Int
abbrev Dt (K:DP):Sp:=spD K 3 (fun (c:TP) xs=>xs=[.dat (tab c.1),.dat (.int c.2.2.1),.dat (.int c.2.2.2)]/\Good c.2.1 c.1) fun c r=>r=.list (((nbL (c.2.2.1,c.2.2.2)).filter (inP c.1 c.2.1)).map pD)
theorem Du (F:Def K mg "neighbours" qs pq) (uaj:FnIn P w K mg base k "has_point" pq (oC K)):FnIn P w K mg base (k+1) "neighbours" pq (Dt K):=by
 refine F.ok bp rfl fun fa cdv A outer s H E hr=>⟨_,(zd (zL (i:=3) bp.nd rfl (Or.inl rfl) (yL (za (zJ (za (zr yb (pv 1) zc) (za (pv 2) zb))) (za (zJ (za (pv 1) (za (zr yb (pv 2) zc) zb))) (za (zJ (za (pv 1) (za (zr z8 (pv 2) zc) zb))) (za (zJ (za (zr z8 (pv 1) zc) (za (pv 2) zb))) zb)))))) (zh (zu (yZ (N:=pS) (own:=2) (fr:=[0]) (by walk_at "c") rfl (yg (K:=K) rfl (pv 3)) (fun _ _ _ _=>(zH (K:=K) (n:=2) rfl rfl (zg (zf (i:=0) (show (pS:List Str).Nodup by decide +kernel) rfl (Or.inl rfl) (Or.inr rfl)) (zg (zf (i:=1) (show (pS:List Str).Nodup by decide +kernel) rfl (Or.inl rfl) (Or.inr rfl)) zD)))) (fun _ _ _ _=>(dm (yj (K:=K) rfl (ze uaj hr rfl (za (pv 2) (za (pv 0) (za (pv 1) zb)))) (fun _=>rfl)))) (fun _ _ _ _=>(zJ (za (pv 0) (za (pv 1) zb)))) rfl rfl (fun _=>rfl))))),?_⟩;rintro f xs ⟨Jm,wd,x,y⟩ hl ⟨rfl,g⟩
 try dsimp only [ye,zk]
 dsimp only at *;refine ou (fun ρ=>ρ=[some (.dat (tab Jm)),some (.dat (.int x)),some (.dat (.int y)),some (.dat (.list ((nbL (x,y)).map pD)))]) ?_ ?_
 ·walk_at "w";rfl
 rintro _ rfl;refine yW (PEdO.ped (Cd (A:=pD) (B:=pD) (inP Jm wd) (nbL (x,y)) (yI (zC rfl ⟨_,rfl,rfl,Hf rfl,?_,rfl⟩))));rintro D ⟨a,b⟩ ρ' es hg ho hes;obtain⟨us,hus,rfl⟩:=ho
 match us,hus with
 | [u1,u2],_ =>
  refine jr rfl (zz (zp (zz (zp (yu (jA (zo (Jm,wd,a,b) ?_)))))));walk_at "w";rintro _ rfl;refine⟨_,rfl,rfl,z9 (fun h=>?_) fun h=>?_⟩
  ·refine jB hes ?_;walk_at "w";exact⟨⟨[_,_],rfl,rfl⟩,rfl⟩
  ·exact⟨[_,_],rfl,rfl⟩
def Lcm (l:List Nat) (s:Nat):Prop:=0<s/\∀ m:Nat,s ∣ m↔∀ d∈l,d≠0->d ∣ m
theorem AH:Lcm [] 1:=⟨by decide,fun m=>Iff.intro (fun _ d h=>by cases h) (fun _=>Nat.one_dvd m)⟩
theorem lcm_zero {l:List Nat} {s:Nat} (h:Lcm l s):Lcm (l++[0]) s:=⟨h.1,fun m=>by
 rw [h.2 m];constructor
 ·intro q d hd nz;rcases Ep.mp hd with hd | hd
  ·exact q d hd nz
  ·rw [Ej.mp hd] at nz;exact absurd rfl nz
 ·exact fun q d hd=>q d (ES _ hd)⟩
theorem wH {l:List Nat} {s d:Nat} (h:Lcm l s) (hd:0<d):Lcm (l++[d]) (Jl s d):=⟨Nat.lcm_pos h.1 hd,fun m=>by
 rw [Nat.lcm_dvd_iff,h.2 m];constructor
 ·rintro⟨q1,q2⟩ e he nz;rcases Ep.mp he with he | he
  ·exact q1 e he nz
  ·rw [Ej.mp he];exact q2
 ·exact fun q=>⟨fun e he=>q e (ES _ he),q d (Ed _ (Ej.mpr rfl)) (GF hd)⟩⟩
theorem wI {l m:List Nat} {s t:Nat} (h:Lcm l s) (h':Lcm m t) (e:∀ d,d≠0->(d∈l↔d∈m)):s=t :=
 Nat.dvd_antisymm ((h.2 t).mpr fun d hd nz=>(h'.2 t).mp (Jc t) d ((e d nz).mp hd) nz) ((h'.2 s).mpr fun d hd nz=>(h.2 s).mp (Jc s) d ((e d nz).mpr hd) nz)
theorem lcm_one {s d:Nat} (hd:0<d):s / Jk s d * d=Jl s d:=by
 rw [Jl,Nat.div_mul_right_comm (Nat.gcd_dvd_left s d)]
noncomputable def gap (Jm:List (List Int)) (p q:Pt):Nat:=2 * (zK Jm p.1 p.2 - zK Jm q.1 q.2).natAbs
noncomputable def v5 (t n:Nat):List Pt:=(Ec n).flatMap fun (x:Nat)=>(Ec t).map fun (y:Nat)=>((x:Int),(y:Int))
theorem dG (t n:Nat):vw t n=(v5 t n).map pD:=by
 unfold vw v5;rw [Hl]
 congr 1
 funext x
 rw [FJ];rfl
theorem vz {t n:Nat} {p:Pt}:p∈v5 t n↔0<=p.1/\p.1<n/\0<=p.2/\p.2<t:=by
 unfold v5;rw [Ew];constructor
 ·rintro⟨x,hx,hp⟩;obtain⟨y,hy,rfl⟩:=Ee.mp hp;have hx:=Es.mp hx;have hy:=Es.mp hy;dsimp only;omega
 ·rintro⟨h1,h2,h3,h4⟩;refine⟨p.1.toNat,Es.mpr (show p.1.toNat<n by omega),Ee.mpr ⟨p.2.toNat,Es.mpr (show p.2.toNat<t by omega),?_⟩⟩;obtain⟨a,b⟩:=p;dsimp only at *;rw [GS h1,GS h3]
noncomputable def vj (Jm:List (List Int)) (wd:Nat) (p:Pt):List Nat:=((nbL p).filter (inP Jm wd)).map (gap Jm p)
noncomputable def jJ (Jm:List (List Int)) (wd:Nat):List Nat:=(v5 Jm.length wd).flatMap (vj Jm wd)
theorem lK {Jm:List (List Int)} {wd:Nat} (g:Good wd Jm) {x y:Int} (h:yn Jm wd x y=true):∃ r:List Int,atI (Jm.map fun r=>PyData.list (r.map .int)) y=some (.list (r.map .int))/\atI (r.map PyData.int) x=some (.int (zK Jm x y)):=by
 obtain⟨h1,h2,h3,h4⟩:=jM h;obtain⟨r,er⟩:∃ r,Jm[y.toNat]?=some r:=⟨_,DK (by omega)⟩;have rl:=g.row r (DS er);obtain⟨c,ec⟩:∃ c,r[x.toNat]?=some c:=⟨_,DK (by omega)⟩;have e1:zK Jm x y=c:=by
  unfold zK;rw [DO,DO,er];show (r[x.toNat]?).getD 0=c;rw [ec];rfl
 refine⟨r,?_,?_⟩
 ·have:=aK (j:=y.toNat) (show (Jm.map fun r=>PyData.list (r.map .int))[y.toNat]?=some (.list (r.map .int)) by rw [DX,er];rfl);rw [GS h3] at this;exact this
 ·rw [e1];have:=aK (j:=x.toNat) (show (r.map PyData.int)[x.toNat]?=some (.int c) by rw [DX,ec];rfl);rw [GS h1] at this;exact this
theorem vA {Jm:List (List Int)} {wd:Nat} (g:Good wd Jm) {x y:Int} (h:yn Jm wd x y=true):-1000000000<=zK Jm x y/\zK Jm x y<=1000000000:=by
 obtain⟨h1,h2,h3,h4⟩:=jM h;obtain⟨r,er⟩:∃ r,Jm[y.toNat]?=some r:=⟨_,DK (by omega)⟩;have rl:=g.row r (DS er);obtain⟨c,ec⟩:∃ c,r[x.toNat]?=some c:=⟨_,DK (by omega)⟩;have e1:zK Jm x y=c:=by
  unfold zK;rw [DO,DO,er];show (r[x.toNat]?).getD 0=c;rw [ec];rfl
 rw [e1];exact g.hgt r (DS er) c (DS ec)
abbrev Dv (c:List (List Int)×Nat) (xs:List DV):Prop:=xs=[.dat (tab c.1)]/\Good c.2 c.1
abbrev iG (K:DP):Sp:=spD K 1 Dv fun c r=>∃ s:Nat,r=.int s/\Lcm (jJ c.1 c.2) s
theorem wJ (F:Def K mg "scale_of" vT ph) (uaf:mg "abs"=none) (uah:FnIn P w K mg base k "ask_table" ph (fY K)) (uat:FnIn P w K mg base k "points" ph (b9 K)) (ubp:FnIn P w K mg base k "neighbours" pq (Dt K)) (uaJ:FnIn P w K mg base k "common" pG (e7 K)):FnIn P w K mg base (k+1) "scale_of" ph (iG K):=by
 refine F.ok yJ rfl fun fa cdv A outer s H E hr=>⟨_,(zd (jx (ze uah hr rfl (za (pv 0) zb))) (zd (zL (i:=1) yJ.nd rfl (Or.inl rfl) zc) (zd (yK Er rfl (yg (K:=K) rfl (ze uat hr rfl (za (pv 0) zb))) (zH (K:=K) (n:=2) rfl rfl (zg (zf (i:=2) yJ.nd rfl (Or.inl rfl) (Or.inr rfl)) (zg (zf (i:=3) yJ.nd rfl (Or.inl rfl) (Or.inr rfl)) zD))) (zh (yK Er rfl (yg (K:=K) rfl (ze ubp hr rfl (za (pv 0) (za (pv 2) (za (pv 3) zb))))) (zH (K:=K) (n:=2) rfl rfl (zg (zf (i:=4) yJ.nd rfl (Or.inl rfl) (Or.inr rfl)) (zg (zf (i:=5) yJ.nd rfl (Or.inl rfl) (Or.inr rfl)) zD))) (zd (zL (i:=6) yJ.nd rfl (Or.inl rfl) (zr bx zc (zB (bH) rfl uaf Gu (za (zr yb (zq (zF (K:=K) rfl) (zq (zF (K:=K) rfl) (pv 0) (pv 3) (fun _ _=>rfl)) (pv 2) (fun _ _=>rfl)) (zq (zF (K:=K) rfl) (zq (zF (K:=K) rfl) (pv 0) (pv 5) (fun _ _=>rfl)) (pv 4) (fun _ _=>rfl))) zb)))) (zh (yr (yj (K:=K) rfl (pv 6) (fun _=>rfl)) (zh (zL (i:=1) yJ.nd rfl (Or.inl rfl) (zr bx (zr eC (pv 1) (ze uaJ hr rfl (za (pv 1) (za (pv 6) zb)))) (pv 6)))) zS)))))) (zh (zu (pv 1)))))),?_⟩;rintro f xs ⟨Jm,wd⟩ hl ⟨rfl,g⟩
 try dsimp only [ye,zk]
 dsimp only at *;refine yc (cq (zo (Jm,wd) ?_));walk_at "w";rintro _ rfl;refine yc (yf (qD (zp ?_)));refine ou (fun ρ=>∃ (s:Nat) (x3 x4 x5 x6 x7:Option DV),ρ=[some (.dat (tab Jm)),some (.dat (.int s)),x3,x4,x5,x6,x7]/\Lcm (jJ Jm wd) s) (bg (yI (zo (Jm,wd) ?_))) ?_
 ·walk_at "w";rintro _ rfl;refine⟨_,rfl,fun i ρ=>∃ (s:Nat) (x3 x4 x5 x6 x7:Option DV),ρ=[some (.dat (tab Jm)),some (.dat (.int s)),x3,x4,x5,x6,x7]/\Lcm (((v5 Jm.length wd).take i).flatMap (vj Jm wd)) s,⟨1,_,_,_,_,_,rfl,AH⟩,?_,?_⟩
  ·rintro i d _ hd ⟨s,x3,x4,x5,x6,x7,rfl,L⟩;dsimp only at hd;rw [dG,DX] at hd;cases ep:(v5 Jm.length wd)[i]? with
   | none=>rw [ep] at hd;cases hd
   | some p =>
    rw [ep] at hd;cases hd;obtain⟨x,y⟩:=p;have tk:((v5 Jm.length wd).take (i+1)).flatMap (vj Jm wd)=((v5 Jm.length wd).take i).flatMap (vj Jm wd)++vj Jm wd (x,y):=by
     rw [EK,ep,E7];simp
    obtain⟨p1,p2,p3,p4⟩:=vz.mp (DS ep);dsimp only at p1 p2 p3 p4;have ip:yn Jm wd x y=true:=by
     unfold yn;rw [Jq (by omega),Jq (by omega)];rfl
    obtain⟨r,a1,a2⟩:=lK g ip;have b1:=vA g ip;refine jr rfl (zz (zp (zz (zp (yu (bg (yI (zo (Jm,wd,x,y) ?_))))))));walk_at "w";rintro _ rfl;dsimp only;generalize hB:((v5 Jm.length wd).take i).flatMap (vj Jm wd)=B at L tk;refine⟨_,rfl,fun j ρ=>∃ (s:Nat) (x5 x6 x7:Option DV),ρ=[some (.dat (tab Jm)),some (.dat (.int s)),some (.dat (.int x)),some (.dat (.int y)),x5,x6,x7]/\Lcm (B++(((nbL (x,y)).filter (inP Jm wd)).take j).map (gap Jm (x,y))) s,⟨s,_,_,_,rfl,by simpa using L⟩,?_,?_⟩
    ·rintro j d _ hd ⟨s,x5,x6,x7,rfl,L⟩;rw [DX] at hd;cases eq:((nbL (x,y)).filter (inP Jm wd))[j]? with
     | none=>rw [eq] at hd;cases hd
     | some q =>
      rw [eq] at hd;cases hd;obtain⟨a,b⟩:=q;have iq:yn Jm wd a b=true:=(E3.mp (DS eq)).2;obtain⟨r',a3,a4⟩:=lK g iq;have b2:=vA g iq;have tk2:B++(((nbL (x,y)).filter (inP Jm wd)).take (j+1)).map (gap Jm (x,y))=(B++(((nbL (x,y)).filter (inP Jm wd)).take j).map (gap Jm (x,y)))++[gap Jm (x,y) (a,b)]:=by
       rw [EK,eq,Eg,Fj];rfl
      have eb:(2:Int) * (if zK Jm x y - zK Jm a b<0 then -(zK Jm x y - zK Jm a b) else zK Jm x y - zK Jm a b)=(gap Jm (x,y) (a,b):Nat):=by
       unfold gap;dsimp only;split <;> omega
      have gb:gap Jm (x,y) (a,b)<=4000000000:=by
       unfold gap;dsimp only;omega
      refine jr rfl (zz (zp (zz (zp (yu ?_)))));generalize hg:gap Jm (x,y) (a,b)=d at eb gb tk2;refine ou (fun ρ=>ρ=[some (.dat (tab Jm)),some (.dat (.int s)),some (.dat (.int x)),some (.dat (.int y)),some (.dat (.int a)),some (.dat (.int b)),some (.dat (.int (d:Int)))]) (yf ?_) ?_
      ·walk_at "w";refine⟨_,a1,?_⟩;walk_at "w";refine⟨_,a2,?_⟩;walk_at "w";refine⟨_,a3,?_⟩;walk_at "w";refine⟨_,a4,?_⟩;walk_at "w";show [_,_,_,_,_,_,some (DV.dat (.int (2 * (if zK Jm x y - zK Jm a b<0 then -(zK Jm x y - zK Jm a b) else zK Jm x y - zK Jm a b))))]=_;rw [eb]
      rintro _ rfl;refine aZ (jA (zC rfl ⟨_,rfl,z9 (fun h=>?_) fun h=>?_⟩))
      ·have nz:0<d:=by
        have:(d:Int)≠0:=by simpa using h
        omega
       have gp:=Nat.gcd_pos_of_pos_right s nz;have gl:=Nat.gcd_le_right s nz;have ei:((s:Int) / ((E9 (s:Int) (d:Int):Nat):Int)) * (d:Int)=((Jl s d:Nat):Int):=by
        rw [<-lcm_one nz];rfl
       have gi:((E9 (s:Int) (d:Int):Nat):Int)=((Jk s d:Nat):Int):=rfl;refine yf ?_;walk_at "w";refine zo ((s:Int),(d:Int)) ?_;walk_at "w";rintro _ rfl;refine⟨_,rfl,⟨by dsimp only;omega,by dsimp only;omega⟩,_,rfl,zC rfl ⟨_,rfl,.inr ⟨by omega,by omega⟩,zp ⟨Jl s d,some (.dat (.int a)),some (.dat (.int b)),some (.dat (.int d)),?_,?_⟩⟩⟩
       ·rw [<-ei];rfl
       ·rw [tk2];exact wH L nz
      ·have z:d=0:=by
        have:(d:Int)=0:=by simpa using h
        omega
       refine y3 ⟨s,_,_,_,rfl,?_⟩;rw [tk2,z];exact lcm_zero L
    ·rintro _ ⟨s,x5,x6,x7,rfl,L⟩;rw [DM,Eu] at L;exact⟨s,_,_,_,_,_,rfl,by rw [tk];exact L⟩
  ·rintro _ ⟨s,x3,x4,x5,x6,x7,rfl,L⟩;rw [dG,DM,Eu] at L;exact⟨s,_,_,_,_,_,rfl,L⟩
 ·rintro _ ⟨s,x3,x4,x5,x6,x7,rfl,L⟩;exact yW (zC rfl ⟨s,rfl,L⟩)
def jl (Jm:List (List Int)) (wd:Nat) (cut:Int) (ts:List (Bool×List Gt)):Prop:=Told Jm wd cut ts/\(∀ g,opG Jm wd cut g=true->g∈flat ts)/\(ts.map jg).Pairwise fun d e=>ltD d e=true
noncomputable def linesOf (Jm:List (List Int)) (wd:Nat) (cut:Int):List (Bool×List Gt):=Classical.epsilon (jl Jm wd cut)
theorem wK {Jm:List (List Int)} {wd:Nat} {cut:Int} {ts:List (Bool×List Gt)} (h:jl Jm wd cut ts):linesOf Jm wd cut=ts:=by
 have h':jl Jm wd cut (linesOf Jm wd cut):=Classical.epsilon_spec (p:=jl Jm wd cut) ⟨ts,h⟩;exact wC h'.1 h.1 h'.2.1 h.2.1 h'.2.2 h.2.2
noncomputable def scP (Jm:List (List Int)) (cut:Int) (s:Nat) (g:Gt):Pt:=((plT Jm cut g).1 * s / (plT Jm cut g).2.2,(plT Jm cut g).2.1 * s / (plT Jm cut g).2.2)
noncomputable def wbD (Jm:List (List Int)) (cut:Int) (s:Nat) (t:Bool×List Gt):PyData:=.tuple [.str (if t.1=true then "ring" else "run"),.tuple (t.2.map fun g=>pD (scP Jm cut s g))]
noncomputable def sU (Jm:List (List Int)) (wd:Nat) (s:Nat) (cuts:List Int):List PyData:=cuts.flatMap fun cut=>(linesOf Jm wd cut).map (wbD Jm cut s)
theorem CB {Jm:List (List Int)} {wd:Nat} {cut:Int} {g:Gt} (o:opG Jm wd cut g=true):(BB Jm g.1 g.2.1 g.2.2).natAbs∈jJ Jm wd/\(BB Jm g.1 g.2.1 g.2.2).natAbs≠0:=by
 have nz:=lI o;obtain⟨i1,i2⟩:=vt (vy o);obtain⟨x0,x1,y0,y1⟩:=jM i1;refine⟨Ew.mpr ⟨(g.1,g.2.1),vz.mpr ⟨x0,x1,y0,y1⟩,Ee.mpr ⟨(px g.1 g.2.2,py g.2.1 g.2.2),E3.mpr ⟨?_,i2⟩,?_⟩⟩,by omega⟩
 ·unfold nbL px py;rcases w01 o with h | h
  ·rw [Jp h,Jp h];simp
  ·have:¬ g.2.2=0:=by omega
   rw [Jo this,Jo this];simp
 ·unfold gap BB;dsimp only;omega
theorem AI {Jm:List (List Int)} {wd:Nat} {cut:Int} {g:Gt} {s:Nat} (h:Lcm (jJ Jm wd) s) (o:opG Jm wd cut g=true):(shQ Jm cut g).den ∣ s:=by
 obtain⟨h1,h2⟩:=CB o;refine Nat.dvd_trans ?_ ((h.2 s).mp (Jc s) _ h1 h2);unfold shQ;rw [IK,Jo (lI o)];exact Nat.div_dvd_of_dvd (Int.ofNat_dvd_left.mp (Int.gcd_dvd_left _ _))
theorem wL {l:List Nat} (hl:∀ d∈l,d<2 ^ 32):∀ {s:Nat},Lcm l s->s<=2 ^ (32 * l.length):=by
 intro s h;have key:∀ l:List Nat,(∀ d∈l,d<2 ^ 32)->∃ p:Nat,0<p/\p<=2 ^ (32 * l.length)/\∀ d∈l,d≠0->d ∣ p:=fun l=>by
  induction l with
  | nil=>exact fun _=>⟨1,by decide,by decide,fun d hd=>nomatch hd⟩
  | cons d l ih =>
   intro h;obtain⟨p,p1,p2,p3⟩:=ih fun e he=>h e (DT _ he);have hd:=h d DZ;have e:2 ^ (32 * (d :: l).length)=2 ^ (32 * l.length) * 2 ^ 32:=by
    rw [Ea,Nat.mul_add,IM]
   rw [e];by_cases z:d=0
   ·refine⟨p,p1,Em p2 (Nat.le_mul_of_pos_right _ (by decide)),fun e he nz=>?_⟩;rcases D0.mp he with rfl | he
    ·exact absurd z nz
    ·exact p3 e he nz
   ·refine⟨p * d,Nat.mul_pos p1 (by omega),Ge p2 (Fd hd),fun e he nz=>?_⟩;rcases D0.mp he with rfl | he
    ·exact Nat.dvd_mul_left _ _
    ·exact Nat.dvd_trans (p3 e he nz) (Nat.dvd_mul_right _ _)
 obtain⟨p,p1,p2,p3⟩:=key l hl;exact Em (Nat.le_of_dvd p1 ((h.2 p).mpr p3)) p2
theorem vJ {α β:Type} {F:α->List β} {b:Nat} (h:∀ x,(F x).length<=b):∀ l:List α,(l.flatMap F).length<=b * l.length
 | []=>EE _
 | x :: l=>by
  have:=vJ h l;have:=h x;rw [G8,D6,Ea,Nat.mul_add];omega
theorem lL {Jm:List (List Int)} {wd:Nat} {s:Nat} (gd:Good wd Jm) (h:Lcm (jJ Jm wd) s):s<2 ^ 6300:=by
 have b1:∀ d∈jJ Jm wd,d<2 ^ 32:=fun d hd=>by
  obtain⟨p,hp,hd⟩:=Ew.mp hd;obtain⟨q,hq,rfl⟩:=Ee.mp hd;have iq:yn Jm wd q.1 q.2=true:=(E3.mp hq).2;obtain⟨a1,a2,a3,a4⟩:=vz.mp hp;have ip:yn Jm wd p.1 p.2=true:=by
   unfold yn;rw [Jq (by omega),Jq (by omega)];rfl
  have c1:=vA gd ip;have c2:=vA gd iq;unfold gap;omega
 have b2:(jJ Jm wd).length<=196:=by
  have f1:∀ p,(vj Jm wd p).length<=4:=fun p=>by
   unfold vj;rw [DM];exact Em (EV _ _) (by show 4<=4;decide)
  have f2:=vJ f1 (v5 Jm.length wd);have f3:(v5 Jm.length wd).length<=49:=by
   have f4:∀ x:Nat,((Ec Jm.length).map fun (y:Nat)=>((x:Int),(y:Int))).length<=Jm.length:=fun x=>by rw [DM,EJ];exact DU _
   have f5:=vJ f4 (Ec wd);rw [EJ] at f5;exact Em f5 (Ge gd.h2 gd.w2)
  exact Em f2 (by omega)
 have:=wL b1 h;refine HG this (GA (by decide) (by omega))
abbrev TSc:=List (List Int)×Nat×Int×Gt×Nat
abbrev Dw (c:TSc) (xs:List DV):Prop:=xs=[.dat (tab c.1),.dat (.int c.2.2.1),.dat (gD3 c.2.2.2.1),.dat (.int c.2.2.2.2)]/\Good c.2.1 c.1/\opG c.1 c.2.1 c.2.2.1 c.2.2.2.1=true/\Lcm (jJ c.1 c.2.1) c.2.2.2.2
abbrev lM (K:DP):Sp:=spD K 4 Dw fun c r=>r=pD (scP c.1 c.2.2.1 c.2.2.2.2 c.2.2.2.1)
theorem sV (F:Def K mg "scaled_place" jE qb) (ubq:FnIn P w K mg base k "place_of" pf (gu K)):FnIn P w K mg base (k+1) "scaled_place" qb (lM K):=by
 refine F.ok jj rfl fun fa cdv A outer s H E hr=>⟨_,(zd (yl (ze ubq hr rfl (za (pv 0) (za (pv 1) (za (pv 2) zb)))) (zH (K:=K) (n:=3) rfl rfl (zg (zf (i:=4) jj.nd rfl (Or.inl rfl) (Or.inr rfl)) (zg (zf (i:=5) jj.nd rfl (Or.inl rfl) (Or.inr rfl)) (zg (zf (i:=6) jj.nd rfl (Or.inl rfl) (Or.inr rfl)) zD))))) (zh (zu (zJ (za (zr bT (zr ym (pv 4) (pv 3)) (pv 6)) (za (zr bT (zr ym (pv 5) (pv 3)) (pv 6)) zb)))))),?_⟩;rintro f xs ⟨Jm,wd,cut,q,sc⟩ hl ⟨rfl,g,o,L⟩
 try dsimp only [ye,zk]
 dsimp only at *;obtain⟨b1,b2,b3,b4⟩:=Dr g o;have sl:=lL g L;refine yc (yf (zo (Jm,wd,cut,q) (Cg rfl rfl rfl ⟨rfl,⟨rfl,g,o⟩,?_⟩)));rintro _ rfl;dsimp only;have sm:∀ {i:Int},i.natAbs<2 ^ 60->i.natAbs<vf:=fun h=>vK h (by decide);have sh:((sc:Nat):Int).natAbs<vf:=by rw [Gq];exact vK sl (by decide)
 clear sl;unfold scP;generalize plT Jm cut q=p at *;obtain⟨X,Y,W⟩:=p;dsimp only at b1 b2 b3 b4;have cd:∀ T,Bb T W:=fun T=>⟨by omega,sm (by omega)⟩;refine Dp (yW (au (zP (jm (Ab rfl rfl ⟨sm (show X.natAbs<_ by omega),sh⟩ ⟨_,rfl,zC rfl ⟨_,rfl,cd _,?_⟩⟩)))));refine zP (jm (Ab rfl rfl ⟨sm (show Y.natAbs<_ by omega),sh⟩ ⟨_,rfl,zC rfl ⟨_,rfl,cd _,jb ⟨_,rfl,by show 2<=1000;decide,?_⟩⟩⟩));show PyData.tuple [.int _,.int _]=pD _;have W0:(0:Int)<=(X,Y,W).2.2:=show (0:Int)<=W by omega
 rw [Gy _ W0,Gy _ W0];rfl
abbrev Bg (K:DP):Sp:=spN K 2 (fun (c:List (List Int)×Nat×List Int) xs=>xs=[.dat (tab c.1),.dat (.list (c.2.2.map .int))]/\Good c.2.1 c.1/\c.2.2.length<=3) fun c es=>∃ s:Nat,Lcm (jJ c.1 c.2.1) s/\es=sU c.1 c.2.1 s c.2.2/\∀ cut∈c.2.2,jl c.1 c.2.1 cut (linesOf c.1 c.2.1 cut)
theorem CD (F:Def K mg "web_of" b7 qa) (ual:mg "tuple"=none) (uah:FnIn P w K mg base k "ask_table" ph (fY K)) (uaK:FnIn P w K mg base k "scale_of" ph (iG K)) (ubr:FnIn P w K mg base k "scaled_place" qb (lM K)) (ubs:FnIn P w K mg base k "lines" pC (oQ K)):FnIn P w K mg base (k+1) "web_of" qa (Bg K):=by
 refine F.okN fX rfl fun fa cdv A outer s H E hr=>⟨_,(zd (jx (ze uah hr rfl (za (pv 0) zb))) (zd (zL (i:=2) fX.nd rfl (Or.inr rfl) (ze uaK hr rfl (za (pv 0) zb))) (zh (zu (kh (N:=qj) (own:=3) (fr:=[0,2]) (by walk_at "c") rfl (yg (K:=K) rfl (pv 1)) (fun _ _ _ _=>(zf (i:=0) (show (qj:List Str).Nodup by decide +kernel) rfl (Or.inr rfl) (Or.inl rfl))) (fun _ _ _ _=>yV) (fun _ _ _ _=>(yg (K:=K) rfl (ze ubs hr rfl (za (pv 3) (za (pv 0) zb))))) (fun _ _ _ _=>(zH (K:=K) (n:=2) rfl rfl (zg (zf (i:=1) (show (qj:List Str).Nodup by decide +kernel) rfl (Or.inl rfl) (Or.inr rfl)) (zg (zf (i:=2) (show (qj:List Str).Nodup by decide +kernel) rfl (Or.inl rfl) (Or.inr rfl)) zD)))) (fun _ _ _ _=>yV) (fun _ _ _ _=>(zJ (za (pv 1) (za (cm (cT (K:=K) rfl) rfl ual Ih (za (yZ (N:=["gate","cut","rows","scale"]) (own:=1) (fr:=[0,3,4]) (by walk_at "c") rfl (gP (K:=K) rfl (pv 2)) (fun _ _ _ _=>(zf (i:=0) (show (["gate","cut","rows","scale"]:List Str).Nodup by decide +kernel) rfl (Or.inl rfl) (Or.inr rfl))) (fun _ _ _ _=>yV) (fun _ _ _ _=>(ze ubr hr rfl (za (pv 2) (za (pv 1) (za (pv 0) (za (pv 3) zb)))))) rfl rfl (fun _=>rfl)) zb)) zb)))) rfl rfl (fun _=>rfl) (fun _ _ _ _ _=>rfl)))))),?_⟩;rintro f xs ⟨Jm,wd,cuts⟩ hl ⟨rfl,g,few⟩
 try dsimp only [ye,zk]
 dsimp only at *;refine ax (cq (zo (Jm,wd) (cD rfl ⟨rfl,⟨rfl,g⟩,?_⟩)));rintro _ rfl;refine ax (yf (zo (Jm,wd) (cD rfl ⟨rfl,⟨rfl,g⟩,?_⟩)));rintro _ ⟨sc,rfl,L⟩;dsimp only at L;refine zp (eE (aw (yI (zC rfl ⟨_,rfl,fun n ρ es=>(∃ u1 u2 u3:Option DV,ρ=[u1,u2,u3,some (.dat (tab Jm)),some (.dat (.int sc))])/\es=sU Jm wd sc (cuts.take n)/\es.length<=49 * n/\∀ c∈cuts.take n,jl Jm wd c (linesOf Jm wd c),⟨⟨_,_,_,rfl⟩,rfl,by simp,fun c hc=>by simp at hc⟩,?_,?_⟩))))
 ·rintro D n d ρ' es hd ⟨⟨u1,u2,u3,rfl⟩,he,le,la⟩;rw [DX] at hd;cases et:cuts[n]? with
  | none=>rw [et] at hd;cases hd
  | some cut =>
   rw [et] at hd;cases hd;have hn:=(DN.mp et).1;have tk:cuts.take (n+1)=cuts.take n++[cut]:=by rw [EK,et];rfl
   refine zp (qP ?_);rw [Jp rfl];refine BP (yI (PEdO.ped (eF (Jm,wd,cut) (Cf rfl rfl ⟨rfl,⟨rfl,g⟩,?_⟩))));rintro _ ⟨ts,rfl,T,aT,pT⟩;dsimp only at T aT;have fT:=T.few g;have li:=wK ⟨T,aT,pT⟩;have nx:sU Jm wd sc (cuts.take (n+1))=es++ts.map (wbD Jm cut sc):=by
    rw [tk,he];unfold sU;rw [E7];simp only [G8,List.flatMap_nil,ER,li]
   refine⟨_,rfl,fun m ρ es2=>(∃ u2 u3:Option DV,ρ=[some (.dat (.int cut)),u2,u3,some (.dat (tab Jm)),some (.dat (.int sc))])/\es2=es++(ts.take m).map (wbD Jm cut sc),⟨⟨_,_,rfl⟩,by rw [G4,G1,ER]⟩,?_,?_⟩
   ·rintro m d ρ2 es2 hd2 ⟨⟨u2,u3,rfl⟩,rfl⟩;rw [DX] at hd2;cases e2:ts[m]? with
    | none=>rw [e2] at hd2;cases hd2
    | some t =>
     rw [e2] at hd2;cases hd2;have ht:=DS e2;have Lt:=T.line t ht;have fl:=aH g Lt.op Lt.nd;have tk2:ts.take (m+1)=ts.take m++[t]:=by rw [EK,e2];rfl
     refine DI (qP ?_);rw [Jp rfl];refine jB ?_ (au (zP (zC rfl (zP (nJ (zP (PEdO.ped (fK (A:=gD3) (B:=fun q=>pD (scP Jm cut sc q)) t.2 (ua (zC rfl ⟨_,rfl,rfl,by omega,?_,?_⟩))))))))))
     ·rw [D6,DM,Et];omega
     ·rintro D2 q ρ3 es3 hq ho hes;obtain⟨u,rfl⟩:=ho.one;refine zp (qP ?_);rw [Jp rfl];refine jB hes (zo (Jm,wd,cut,q,sc) (DH rfl rfl rfl rfl ⟨rfl,⟨rfl,g,Lt.op q hq,L⟩,?_⟩));rintro _ rfl;exact⟨.mk1,rfl⟩
     ·refine jb (.inl ⟨_,rfl,jb ⟨_,rfl,by show 2<=1000;decide,⟨_,_,rfl⟩,?_⟩⟩);rw [tk2,Eg,Fj];rfl
   ·rintro ρ2 es2 ⟨⟨u2,u3,rfl⟩,rfl⟩;rw [DM,Eu,<- nx];refine⟨⟨_,_,_,rfl⟩,rfl,?_,fun c hc=>?_⟩
    ·rw [nx,D6,DM];omega
    ·rw [tk] at hc;rcases Ep.mp hc with hc | hc
     ·exact la c hc
     ·rw [Ej.mp hc,li];exact⟨T,aT,pT⟩
 ·rintro ρ' es ⟨_,rfl,_,la⟩;rw [DM,Eu] at la ⊢;exact⟨sc,L,rfl,la⟩
abbrev Ln:=Bool×List Pt
abbrev Web:=List Ln
structure Sg where
 k:Nat
 i:Nat
 p:Pt
 q:Pt
noncomputable def c9 (b:Bool):Str:=if b then "ring" else "run"
noncomputable def lnD (l:Ln):PyData:=.tuple [.str (c9 l.1),.tuple (l.2.map pD)]
noncomputable def jW (w:Web):PyData:=.list (w.map lnD)
noncomputable def dj (s:Sg):PyData:=.tuple [.tuple [.int s.k,.int s.i],pD s.p,pD s.q]
noncomputable def jh (s:Sg):PyData:=.tuple [.int s.k,.int s.i,.tuple [pD s.p,pD s.q]]
noncomputable def mx (a b:Int):Int:=if b > a then b else a
noncomputable def mn (a b:Int):Int:=if b<a then b else a
noncomputable def zv (a b c:Pt):Int:=(b.1 - a.1) * (c.2 - a.2) - (b.2 - a.2) * (c.1 - a.1)
noncomputable def yi (a b c d:Int):Bool:=decide (mx a b<mn c d) || decide (mx c d<mn a b)
noncomputable def zy (a b c d:Pt):Bool:=!(yi a.1 b.1 c.1 d.1 || yi a.2 b.2 c.2 d.2) && (decide (zv a b c * zv a b d<=0) && decide (zv c d a * zv c d b<=0))
noncomputable def vc (a m c:Pt):Bool:=decide (zv a m c=0) && decide ((a.1 - m.1) * (c.1 - m.1)+(a.2 - m.2) * (c.2 - m.2) > 0)
noncomputable def ai (l:Ln):Nat:=if l.1 then l.2.length else l.2.length - 1
noncomputable def atP (ps:List Pt) (i:Nat):Pt:=ps.getD i (0,0)
noncomputable def yp (k:Nat) (l:Ln):List Sg:=(Ec (ai l)).map fun i=>⟨k,i,atP l.2 i,atP l.2 ((i+1) % l.2.length)⟩
noncomputable def yk (w:Web):List Sg:=(w.mapIdx yp).flatten
noncomputable def yS (w:Web) (k:Nat):Ln:=w.getD k (false,[])
noncomputable def yG (w:Web) (k i l j:Nat):Bool:=(yS w l).1 && (decide (k=l/\i=0) && decide ((j:Int)=(yS w l).2.length - 1))
noncomputable def vk (w:Web) (s t:Sg):Bool :=
 if s.k=t.k/\s.i+1=t.i then vc s.p s.q t.q else if yG w s.k s.i t.k t.i=true then vc t.p t.q s.q else zy s.p s.q t.p t.q
noncomputable def yT (w:Web) (s t:Sg):Bool:=if s.k=t.k/\s.i=t.i then decide (s.p=s.q) else vk w s t
noncomputable def look (f:Sg->Sg->Bool):List Sg->Option (Sg×Sg)
 | []=>none
 | s :: r=>match (s :: r).find? (f s) with
  | some t=>some (s,t)
  | none=>look f r
noncomputable def vB (w:Web):Option (Sg×Sg):=look (yT w) (yk w)
noncomputable def gv:Option (Sg×Sg)->PyData
 | none=>.none
 | some (s,t)=>.tuple [.int s.k,.int s.i,.int t.k,.int t.i]
noncomputable def hB:Int:=2 ^ 4000
structure Near (o p:Pt):Prop where
 a:o.1<=p.1
 b:p.1<=o.1+hB
 c:o.2<=p.2
 d:p.2<=o.2+hB
theorem bnd {B:Int} {x y:Int} (h1:-B<=x) (h2:x<=B) (h3:-B<=y) (h4:y<=B):-(B * B)<=x * y/\x * y<=B * B:=by
 have hB:0<=B:=by omega
 have a:x.natAbs<=B.natAbs:=by omega
 have b:y.natAbs<=B.natAbs:=by omega
 have c:(x * y).natAbs<=(B * B).natAbs:=by rw [Gz,Gz];exact Ge a b
 have d:0<=B * B:=Int.mul_nonneg hB hB;omega
theorem iH:(2 * (hB * hB)).natAbs<vf/\hB.natAbs<vf/\0<=hB:=by
 have e:hB.natAbs=2 ^ 4000:=rfl;refine⟨?_,?_,by decide +kernel⟩
 ·rw [Gz,Gz,e,<- IM,show (2:Int).natAbs=2 ^ 1 from rfl,<- IM];exact GA (by decide) (by decide)
 ·rw [e];exact GA (by decide) (by decide)
theorem yq {o a b:Pt} (ha:Near o a) (hb:Near o b):(b.1 - a.1).natAbs<vf/\(b.2 - a.2).natAbs<vf:=by
 obtain⟨a1,a2,a3,a4⟩:=ha;obtain⟨b1,b2,b3,b4⟩:=hb;obtain⟨_,h,h0⟩:=iH;omega
theorem v7 {o a b c:Pt} (ha:Near o a) (hb:Near o b) (hc:Near o c):(zv a b c).natAbs<vf:=by
 obtain⟨a1,a2,a3,a4⟩:=ha;obtain⟨b1,b2,b3,b4⟩:=hb;obtain⟨c1,c2,c3,c4⟩:=hc;have e1:=bnd (B:=hB) (x:=b.1 - a.1) (y:=c.2 - a.2) (by omega) (by omega) (by omega) (by omega);have e2:=bnd (B:=hB) (x:=b.2 - a.2) (y:=c.1 - a.1) (by omega) (by omega) (by omega) (by omega);obtain⟨h,_,_⟩:=iH;unfold zv;generalize hB * hB=Z at *;generalize (b.1 - a.1) * (c.2 - a.2)=X at *;generalize (b.2 - a.2) * (c.1 - a.1)=Y at *;omega
theorem sW (x y:Int):x * y<=0↔mn x y<=0/\0<=mx x y:=by
 unfold mn mx;rcases Fb x 0 with hx | hx | hx <;> rcases Fb y 0 with hy | hy | hy
 ·have:=FU hx hy;constructor
  ·intro h;omega
  ·intro h;split at h <;> split at h <;> omega
 ·subst hy;simp;constructor <;> intros <;> split <;> omega
 ·have:=FV hx hy;constructor
  ·intro _;constructor <;> split <;> omega
  ·intro h;omega
 ·subst hx;simp;constructor <;> intros <;> split <;> omega
 ·subst hx hy;simp
 ·subst hx;simp;constructor <;> intros <;> split <;> omega
 ·have:=FW hx hy;constructor
  ·intro _;constructor <;> split <;> omega
  ·intro h;omega
 ·subst hy;simp;constructor <;> intros <;> split <;> omega
 ·have:=EH hx hy;constructor
  ·intro h;omega
  ·intro h;split at h <;> split at h <;> omega
theorem lN {α β:Type} {F:α->β} {xs:List α} {k:Int} {j:Nat} (hk:(j:Int)=k) (h:j<xs.length):atI (xs.map F) k=some (F xs[j]):=by
 subst hk;refine aK ?_;rw [DX,DK h];rfl
theorem iI {ps:List Pt} {k:Int} {j:Nat} (hk:(j:Int)=k) (h:j<ps.length):atI (ps.map pD) k=some (pD (atP ps j)):=by
 rw [lN hk h];unfold atP;rw [DO,DK h];rfl
theorem iJ {w:Web} {k:Int} {j:Nat} (hk:(j:Int)=k) (h:j<w.length):atI (w.map lnD) k=some (lnD (yS w j)):=by
 rw [lN hk h];unfold yS;rw [DO,DK h];rfl
theorem cf (b:Bool):(PyData.str (c9 b)).canLay0=true:=by cases b <;> decide +kernel
theorem cJ (b:Bool):Ei (.str (c9 b)) (.str "ring")=b:=by cases b <;> rfl
theorem wM (b:Bool):Ei (.str (c9 b)) (.str "run")=!b:=by cases b <;> rfl
theorem iK (k i l j:Int):Ei (.tuple [.int k,.int i]) (.tuple [.int l,.int j])=decide (k=l/\i=j):=by
 show ((k == l) && ((i == j) && true))=_;rw [I0,Iy];rfl
theorem iL (a b:Pt):Ei (pD a) (pD b)=decide (a=b):=by
 unfold pD;rw [iK]
 congr 1
 rw [Prod.ext_iff]
theorem iM (a b:Pt):min (pD a).depth (pD b).depth<=60:=by unfold pD;simp [Io,D5]
noncomputable def yU (w:Web) (n:Nat):List Sg:=((w.take n).mapIdx yp).flatten
theorem jX {w:Web} {n:Nat} {l:Ln} (h:w[n]?=some l):yU w (n+1)=yU w n++yp n l:=by
 unfold yU;have hn:n<w.length:=(DN.mp h).1;rw [EK,h,List.mapIdx_append,List.flatten_append]
 congr 1
 simp [Et,Iu (Fd hn)]
theorem qN (w:Web):yU w w.length=yk w:=by
 unfold yU yk;rw [Eu]
theorem jI (k:Nat) (l:Ln):(yp k l).length=ai l:=by unfold yp;simp
theorem dH (l:Ln):ai l<=l.2.length:=by unfold ai;split <;> omega
noncomputable def ba (w:Web):Nat:=(w.map fun l=>l.2.length).sum
structure OkWeb (o:Pt) (w:Web):Prop where
 len:w.length<=147
 two:∀ l∈w,2<=l.2.length
 few:∀ l∈w,l.2.length<=98
 sum:ba w<=900
 near:∀ l∈w,∀ p∈l.2,Near o p
theorem cK {w:Web}:∀ n,n<=w.length->(yU w n).length<=ba (w.take n)
 | 0,_=>by simp [yU]
 | n+1,hn=>by
  have hl:w[n]?=some w[n]:=DK (by omega);have e:ba (w.take (n+1))=ba (w.take n)+w[n].2.length:=by
   unfold ba;rw [EK,hl,Eg,Iz];simp
  rw [jX hl,D6,jI,e];have:=cK (w:=w) n (by omega);have:=dH w[n];omega
theorem OkWeb.upto {o:Pt} {w:Web} (g:OkWeb o w) {n:Nat} {l:Ln} (h:w[n]?=some l):(yU w n).length+l.2.length<=900:=by
 obtain⟨hn,rfl⟩:=DN.mp h;have h1:=cK (w:=w) n (by omega);have h2:ba w=ba (w.take n)+(w[n].2.length+ba (w.drop (n+1))):=by
  have e:w=w.take n++w[n] :: w.drop (n+1):=by rw [<-Fq hn,FR]
  have e2:=congrArg ba e;rw [e2];unfold ba;rw [Eg,Iz,Ek,List.sum_cons]
 have:=g.sum;omega
theorem OkWeb.all {o:Pt} {w:Web} (g:OkWeb o w):(yk w).length<=900:=by
 have h1:=cK (w:=w) w.length (DU _);rw [qN,Eu] at h1;exact Em h1 g.sum
theorem br {k m:Nat} {l:Ln} (h:m<ai l):(yp k l).take (m+1)=(yp k l).take m++[⟨k,m,atP l.2 m,atP l.2 ((m+1) % l.2.length)⟩]:=by
 rw [EK]
 congr 1
 unfold yp;rw [DX,FG h];rfl
theorem oV {ps:List Pt} {i:Nat} (h:i<ps.length):atP ps i∈ps:=by
 unfold atP;rw [DO,DK h];exact Eo h
structure SegOf (w:Web) (s:Sg):Prop where
 k:s.k<w.length
 i:s.i<ai (yS w s.k)
 p:s.p=atP (yS w s.k).2 s.i
 q:s.q=atP (yS w s.k).2 ((s.i+1) % (yS w s.k).2.length)
theorem cL {w:Web} {s:Sg} (h:s∈yk w):SegOf w s:=by
 unfold yk at h;rw [List.mem_flatten] at h;obtain⟨L,h1,h2⟩:=h;rw [List.mem_mapIdx] at h1;obtain⟨i,hi,rfl⟩:=h1;unfold yp at h2;rw [Ee] at h2;obtain⟨j,hj,rfl⟩:=h2;rw [Es] at hj;have e:yS w i=w[i]:=by
  unfold yS;rw [DO,DK hi];rfl
 exact⟨hi,by rw [e];exact hj,by rw [e],by rw [e]⟩
theorem lO {w:Web} {k:Nat} (h:k<w.length):yS w k∈w:=by
 unfold yS;rw [DO,DK h];exact Eo h
theorem SegOf.near {o:Pt} {w:Web} {s:Sg} (x:SegOf w s) (g:OkWeb o w):Near o s.p/\Near o s.q:=by
 have m:=lO x.k;have l2:=g.two _ m;have hi:=x.i;have:=dH (yS w s.k);refine⟨by rw [x.p];exact g.near _ m _ (oV (by omega)),by rw [x.q];exact g.near _ m _ (oV (Hk _ (by omega)))⟩
theorem e8 {f:Sg->Sg->Bool} {s t:Sg} {r:List Sg} {m:Nat} (ht:(s :: r)[m]?=some t) (h0:∀ u∈(s :: r).take m,f s u=false) (h1:f s t=true):look f (s :: r)=some (s,t):=by
 have e:(s :: r).find? (f s)=some t:=by
  rw [Hq];refine⟨h1,(s :: r).take m,(s :: r).drop (m+1),?_,fun u hu=>by rw [h0 u hu];rfl⟩;have hm:m<(s :: r).length:=(DN.mp ht).1;have:=(DN.mp ht).2;rw [<-this,List.getElem_cons_drop,FR]
 show (match (s :: r).find? (f s) with | some t=>some (s,t) | none=>look f r)=_;rw [e]
theorem cM {f:Sg->Sg->Bool} {s:Sg} {r:List Sg} (h0:∀ u∈s :: r,f s u=false):look f (s :: r)=look f r:=by
 have e:(s :: r).find? (f s)=none:=by
  rw [HI];intro u hu;rw [h0 u hu];exact DL
 show (match (s :: r).find? (f s) with | some t=>some (s,t) | none=>look f r)=_;rw [e]
abbrev jR (K:DP):Sp:=spD K 3 (fun (c:Pt×Pt×Pt×Pt) xs=>xs=[.dat (pD c.2.1),.dat (pD c.2.2.1),.dat (pD c.2.2.2)]/\Near c.1 c.2.1/\Near c.1 c.2.2.1/\Near c.1 c.2.2.2) fun c r=>r=.int (zv c.2.1 c.2.2.1 c.2.2.2)
theorem wN (F:Def K mg "turn" h9 pF):FnIn P w K mg base (k+1) "turn" pF (jR K):=by
 refine F.ok Ad rfl fun fa cdv A outer s H E hr=>⟨_,(zh (zu (zr yb (zr ym (zr yb (zq (zj (K:=K) rfl) (pv 1) zc (fun _ _=>rfl)) (zq (zj (K:=K) rfl) (pv 0) zc (fun _ _=>rfl))) (zr yb (zq (zj (K:=K) rfl) (pv 2) zc (fun _ _=>rfl)) (zq (zj (K:=K) rfl) (pv 0) zc (fun _ _=>rfl)))) (zr ym (zr yb (zq (zj (K:=K) rfl) (pv 1) zc (fun _ _=>rfl)) (zq (zj (K:=K) rfl) (pv 0) zc (fun _ _=>rfl))) (zr yb (zq (zj (K:=K) rfl) (pv 2) zc (fun _ _=>rfl)) (zq (zj (K:=K) rfl) (pv 0) zc (fun _ _=>rfl))))))),?_⟩;rintro f xs ⟨o,a,b,c⟩ hl ⟨rfl,na,nb,nc⟩
 try dsimp only [ye,zk]
 unfold pD;dsimp only at *;walk_at "w";refine⟨⟨(yq na nb).1,(yq na nc).2⟩,?_⟩;walk_at "w";refine⟨⟨(yq na nb).2,(yq na nc).1⟩,?_⟩;walk_at "w";rfl
abbrev oW (K:DP):Sp:=spD K 4 (fun (c:Int×Int×Int×Int) xs=>xs=[.dat (.int c.1),.dat (.int c.2.1),.dat (.int c.2.2.1),.dat (.int c.2.2.2)]) fun c r=>r=.bool (yi c.1 c.2.1 c.2.2.1 c.2.2.2)
theorem wO (F:Def K mg "apart" dz pz) (uac:mg "min"=none) (uad:mg "max"=none):FnIn P w K mg base (k+1) "apart" pz (oW K):=by
 refine F.ok uV rfl fun fa cdv A outer s H E hr=>⟨_,(zh (zu (CN (yC fE (zB (vm rfl) rfl uad boot_max (za (pv 0) (za (pv 1) zb))) (zB (qA rfl) rfl uac boot_min (za (pv 2) (za (pv 3) zb))) (zI _)) (bu (yC fE (zB (vm rfl) rfl uad boot_max (za (pv 2) (za (pv 3) zb))) (zB (qA rfl) rfl uac boot_min (za (pv 0) (za (pv 1) zb))) (zI _)))))),?_⟩;rintro f xs ⟨a,b,c,d⟩ hl rfl
 try dsimp only [ye,zk]
 walk_at "w";refine z9 (fun h=>?_) fun h=>?_
 ·show PyData.bool true=PyData.bool (yi a b c d);unfold yi mx mn;rw [h];rfl
 ·walk_at "w";show PyData.bool _=PyData.bool (yi a b c d);unfold yi mx mn;rw [h];rfl
abbrev cN (K:DP):Sp:=spD K 4 (fun (c:Pt×Pt×Pt×Pt×Pt) xs=>xs=[.dat (pD c.2.1),.dat (pD c.2.2.1),.dat (pD c.2.2.2.1),.dat (pD c.2.2.2.2)]/\Near c.1 c.2.1/\Near c.1 c.2.2.1/\Near c.1 c.2.2.2.1/\Near c.1 c.2.2.2.2) fun c r=>r=.bool (zy c.2.1 c.2.2.1 c.2.2.2.1 c.2.2.2.2)
theorem m6 (F:Def K mg "touches" aO pz) (ua7:FnIn P w K mg base k "apart" pz (oW K)) (uam:FnIn P w K mg base k "turn" pF (jR K)):FnIn P w K mg base (k+1) "touches" pz (cN K):=by
 refine F.ok mF rfl fun fa cdv A outer s H E hr=>⟨_,(zd (yr (PW.pt (fC (yj (K:=K) rfl (ze ua7 hr rfl (za (zq (zj (K:=K) rfl) (pv 0) zc (fun _ _=>rfl)) (za (zq (zj (K:=K) rfl) (pv 1) zc (fun _ _=>rfl)) (za (zq (zj (K:=K) rfl) (pv 2) zc (fun _ _=>rfl)) (za (zq (zj (K:=K) rfl) (pv 3) zc (fun _ _=>rfl)) zb))))) (fun _=>rfl)) (dQ (yj (K:=K) rfl (ze ua7 hr rfl (za (zq (zj (K:=K) rfl) (pv 0) zc (fun _ _=>rfl)) (za (zq (zj (K:=K) rfl) (pv 1) zc (fun _ _=>rfl)) (za (zq (zj (K:=K) rfl) (pv 2) zc (fun _ _=>rfl)) (za (zq (zj (K:=K) rfl) (pv 3) zc (fun _ _=>rfl)) zb))))) (fun _=>rfl))))) (zh (zu bb)) zS) (zh (zu (ao (yC ae (zr ym (ze uam hr rfl (za (pv 0) (za (pv 1) (za (pv 2) zb)))) (ze uam hr rfl (za (pv 0) (za (pv 1) (za (pv 3) zb))))) zc (zI _)) (bu (yC ae (zr ym (ze uam hr rfl (za (pv 2) (za (pv 3) (za (pv 0) zb)))) (ze uam hr rfl (za (pv 2) (za (pv 3) (za (pv 1) zb))))) zc (zI _))))))),?_⟩;rintro f xs ⟨o,a,b,c,d⟩ hl ⟨rfl,na,nb,nc,nd⟩
 try dsimp only [ye,zk]
 dsimp only at *;have fin:PEd K f (tJ
            (tOp (rI0 fun i j=>V.bl (decide (i<=j)))
             (tOp (rI CMulH fun i j=>V.int (i * j))
              (j7 (jR K) [] E0 (zT (z6 0) (zT (z6 1) (zT (z6 2) jT))))
              (j7 (jR K) [] E0 (zT (z6 0) (zT (z6 1) (zT (z6 3) jT)))))
             (tC (V.int 0)))
            (tOp (rI0 fun i j=>V.bl (decide (i<=j)))
             (tOp (rI CMulH fun i j=>V.int (i * j))
              (j7 (jR K) [] E0 (zT (z6 2) (zT (z6 3) (zT (z6 0) jT))))
              (j7 (jR K) [] E0 (zT (z6 2) (zT (z6 3) (zT (z6 1) jT)))))
             (tC (V.int 0)))) (vI fW [DV.dat (pD a),DV.dat (pD b),DV.dat (pD c),DV.dat (pD d)])
   fun r=>r=.bool (decide (zv a b c * zv a b d<=0) && decide (zv c d a * zv c d b<=0)):=by
  refine l7 (km (jm (zo (o,a,b,c) ?_)));walk_at "w";rintro _ rfl;refine⟨_,rfl,zo (o,a,b,d) ?_⟩;walk_at "w";rintro _ rfl;refine⟨_,rfl,⟨v7 na nb nc,v7 na nb nd⟩,?_⟩;walk_at "w";refine z9 (fun h=>?_) fun h=>?_
  ·refine km (jm (zo (o,c,d,a) ?_));walk_at "w";rintro _ rfl;refine⟨_,rfl,zo (o,c,d,b) ?_⟩;walk_at "w";rintro _ rfl;refine⟨_,rfl,⟨v7 nc nd na,v7 nc nd nb⟩,?_⟩;walk_at "w";dsimp only at h ⊢;rw [h,FO]
  ·dsimp only at h ⊢;rw [h,Fc]
 refine yc (aZ (tZ (jA (zo (a.1,b.1,c.1,d.1) ?_))));walk_at "w";rintro _ rfl;refine⟨_,rfl,?_⟩;have tt:zy a b c d=(!(yi a.1 b.1 c.1 d.1 || yi a.2 b.2 c.2 d.2) && (decide (zv a b c * zv a b d<=0) && decide (zv c d a * zv c d b<=0))):=rfl;dsimp only;cases h1:yi a.1 b.1 c.1 d.1 with
 | true =>
  rw [Jp rfl,Jp rfl];walk_at "w";rw [tt,h1];rfl
 | false =>
  rw [Jo DL];refine jA (zo (a.2,b.2,c.2,d.2) ?_);walk_at "w";rintro _ rfl;refine⟨_,rfl,?_⟩;dsimp only;cases h2:yi a.2 b.2 c.2 d.2 with
  | true =>
   rw [Jp rfl];walk_at "w";rw [tt,h1,h2];rfl
  | false =>
   rw [Jo DL];refine y3 (yW (fin.imp fun r hr=>?_));rw [hr,tt,h1,h2];rfl
abbrev cO (K:DP):Sp:=spD K 3 (fun (c:Pt×Pt×Pt×Pt) xs=>xs=[.dat (pD c.2.1),.dat (pD c.2.2.1),.dat (pD c.2.2.2)]/\Near c.1 c.2.1/\Near c.1 c.2.2.1/\Near c.1 c.2.2.2) fun c r=>r=.bool (vc c.2.1 c.2.2.1 c.2.2.2)
theorem fz (F:Def K mg "turns_back" qr pX) (uam:FnIn P w K mg base k "turn" pF (jR K)):FnIn P w K mg base (k+1) "turns_back" pX (cO K):=by
 refine F.ok yE rfl fun fa cdv A outer s H E hr=>⟨_,(zd (yr (zQ (d9 (K:=K) rfl hr.units) (ze uam hr rfl (za (pv 0) (za (pv 1) (za (pv 2) zb)))) zc (zI _)) (zh (zu bb)) zS) (zd (yl (zJ (za (pv 0) (za (pv 1) (za (pv 2) zb)))) (zH (K:=K) (n:=3) rfl rfl (zg (zH (K:=K) (n:=2) rfl rfl (zg (zf (i:=3) yE.nd rfl (Or.inl rfl) (Or.inr rfl)) (zg (zf (i:=4) yE.nd rfl (Or.inl rfl) (Or.inr rfl)) zD))) (zg (zH (K:=K) (n:=2) rfl rfl (zg (zf (i:=5) yE.nd rfl (Or.inl rfl) (Or.inr rfl)) (zg (zf (i:=6) yE.nd rfl (Or.inl rfl) (Or.inr rfl)) zD))) (zg (zH (K:=K) (n:=2) rfl rfl (zg (zf (i:=7) yE.nd rfl (Or.inl rfl) (Or.inr rfl)) (zg (zf (i:=8) yE.nd rfl (Or.inl rfl) (Or.inr rfl)) zD))) zD))))) (zh (zu (yC iY (zr z8 (zr ym (zr yb (pv 3) (pv 5)) (zr yb (pv 7) (pv 5))) (zr ym (zr yb (pv 4) (pv 6)) (zr yb (pv 8) (pv 6)))) zc (zI _)))))),?_⟩;rintro f xs ⟨o,a,b,c⟩ hl ⟨rfl,na,nb,nc⟩
 try dsimp only [ye,zk]
 dsimp only at *;refine yc (aZ (jL (d6 (zo (o,a,b,c) ?_))));walk_at "w";rintro _ rfl;refine qD ⟨rfl,rfl,by simp [Io],_,rfl,?_⟩;dsimp only;rw [Jp rfl,show Ei (.int (zv a b c)) (.int 0)=decide (zv a b c=0) from rfl];by_cases h:zv a b c=0
 ·rw [Jq h,E4,Jo DL];unfold pD;walk_at "w";refine⟨⟨(yq nb na).1,(yq nb nc).1⟩,?_⟩;walk_at "w";refine⟨⟨(yq nb na).2,(yq nb nc).2⟩,?_⟩;walk_at "w";show PyData.bool _=PyData.bool _;unfold vc;rw [Jq h];rfl
 ·rw [Jr h,Gb,Jp rfl];walk_at "w";show PyData.bool _=PyData.bool _;unfold vc;rw [Jr h];rfl
noncomputable abbrev wQ (k i:Nat):PyData:=.tuple [.int k,.int i]
abbrev fb (K:DP):Sp:=spD K 3 (fun (c:Web×Nat×Nat×Nat×Nat) xs=>xs=[.dat (jW c.1),.dat (wQ c.2.1 c.2.2.1),.dat (wQ c.2.2.2.1 c.2.2.2.2)]/\c.2.2.2.1<c.1.length) fun c r=>r=.bool (yG c.1 c.2.1 c.2.2.1 c.2.2.2.1 c.2.2.2.2)
theorem sX (F:Def K mg "closes" bV pW) (uaa:mg "len"=none):FnIn P w K mg base (k+1) "closes" pW (fb K):=by
 refine F.ok cF rfl fun fa cdv A outer s H E hr=>⟨_,(zd (yl (zq (zF (K:=K) rfl) (pv 0) (zq (zj (K:=K) rfl) (pv 2) zc (fun _ _=>rfl)) (fun _ _=>rfl)) (zH (K:=K) (n:=2) rfl rfl (zg (zf (i:=3) cF.nd rfl (Or.inl rfl) (Or.inr rfl)) (zg (zf (i:=4) cF.nd rfl (Or.inl rfl) (Or.inr rfl)) zD)))) (zh (zu (ao (yC (yw (K:=K) rfl hr.units) (pv 3) vd (zI _)) (ao (yC (yw (K:=K) rfl hr.units) (pv 1) (zJ (za (zq (zj (K:=K) rfl) (pv 2) zc (fun _ _=>rfl)) (za zc zb))) (zI _)) (bu (yC (yw (K:=K) rfl hr.units) (zq (zj (K:=K) rfl) (pv 2) zc (fun _ _=>rfl)) (zr yb (zB (ya (K:=K) rfl) rfl uaa EA (za (pv 4) zb)) zc) (zI _)))))))),?_⟩;rintro f xs ⟨w,k,i,l,j⟩ hl ⟨rfl,hlw⟩
 try dsimp only [ye,zk]
 dsimp only at *;have lw:=cf (yS w l).1;unfold jW wQ;walk_at "w";refine⟨_,iJ rfl hlw,?_⟩;unfold lnD;walk_at "w";rw [Jo DL,cJ];refine z9 (fun h=>?_) fun h=>?_
 ·walk_at "w";rw [Jo DL,iK];refine z9 (fun h2=>?_) fun h2=>?_
  ·walk_at "w";rw [Jo DL,jk];show PyData.bool _=PyData.bool (yG w k i l j);unfold yG;have h2':k=l/\i=0:=by have:=of_decide_eq_true h2;omega
   rw [h,DM,Jq h2',FO,FO]
  ·show PyData.bool _=PyData.bool (yG w k i l j);unfold yG;have h2':¬ (k=l/\i=0):=by have:=of_decide_eq_false h2;omega
   rw [h,Jr h2'];rfl
 ·show PyData.bool _=PyData.bool (yG w k i l j);unfold yG;rw [h];rfl
abbrev oX (K:DP):Sp:=spD K 3 (fun (c:Pt×Web×Sg×Sg) xs=>xs=[.dat (jW c.2.1),.dat (dj c.2.2.1),.dat (dj c.2.2.2)]/\c.2.2.2.k<c.2.1.length/\Near c.1 c.2.2.1.p/\Near c.1 c.2.2.1.q/\Near c.1 c.2.2.2.p/\Near c.1 c.2.2.2.q) fun c r=>r=.bool (yT c.2.1 c.2.2.1 c.2.2.2)
theorem wR (F:Def K mg "meets" dy pV) (ubt:FnIn P w K mg base k "closes" pW (fb K)) (ua8:FnIn P w K mg base k "turns_back" pX (cO K)) (ubu:FnIn P w K mg base k "touches" pz (cN K)) :
  FnIn P w K mg base (k+1) "meets" pV (oX K):=by
 refine F.ok qH rfl fun fa cdv A outer s H E hr=>⟨_,(zd (yl (pv 1) (zH (K:=K) (n:=3) rfl rfl (zg (zf (i:=3) qH.nd rfl (Or.inl rfl) (Or.inr rfl)) (zg (zf (i:=4) qH.nd rfl (Or.inl rfl) (Or.inr rfl)) (zg (zf (i:=5) qH.nd rfl (Or.inl rfl) (Or.inr rfl)) zD))))) (zd (yl (pv 2) (zH (K:=K) (n:=3) rfl rfl (zg (zf (i:=6) qH.nd rfl (Or.inl rfl) (Or.inr rfl)) (zg (zf (i:=7) qH.nd rfl (Or.inl rfl) (Or.inr rfl)) (zg (zf (i:=8) qH.nd rfl (Or.inl rfl) (Or.inr rfl)) zD))))) (zd (yr (zQ (yw (K:=K) rfl hr.units) (pv 3) (pv 6) (zI _)) (zh (zu (yC (yw (K:=K) rfl hr.units) (pv 4) (pv 5) (zI _)))) zS) (zd (yr (PW.pt (ck (zQ (yw (K:=K) rfl hr.units) (zq (zj (K:=K) rfl) (pv 3) zc (fun _ _=>rfl)) (zq (zj (K:=K) rfl) (pv 6) zc (fun _ _=>rfl)) (zI _)) (dk (zQ (yw (K:=K) rfl hr.units) (zr z8 (zq (zj (K:=K) rfl) (pv 3) zc (fun _ _=>rfl)) zc) (zq (zj (K:=K) rfl) (pv 6) zc (fun _ _=>rfl)) (zI _))))) (zh (zu (ze ua8 hr rfl (za (pv 4) (za (pv 5) (za (pv 8) zb)))))) zS) (zd (yr (yj (K:=K) rfl (ze ubt hr rfl (za (pv 0) (za (pv 3) (za (pv 6) zb)))) (fun _=>rfl)) (zh (zu (ze ua8 hr rfl (za (pv 7) (za (pv 8) (za (pv 5) zb)))))) zS) (zh (zu (ze ubu hr rfl (za (pv 4) (za (pv 5) (za (pv 7) (za (pv 8) zb)))))))))))),?_⟩;rintro f xs ⟨o,w,s,t⟩ hl ⟨rfl,hk,n1,n2,n3,n4⟩
 try dsimp only [ye,zk]
 dsimp only at *;unfold dj;walk_at "w";rw [Jo DL,iK];refine z9 (fun h=>?_) fun h=>?_
 ·have h':=of_decide_eq_true h;have dp:=iM s.p s.q;walk_at "w";rw [Jo DL,iL];show PyData.bool _=PyData.bool (yT w s t);unfold yT;rw [Jp (by omega)]
 ·have h':=of_decide_eq_false h;have e0:yT w s t=vk w s t:=by
   unfold yT;rw [Jo (by omega)]
  rw [e0];walk_at "w";rw [Jo DL,jk];have rest:¬ (s.k=t.k/\s.i+1=t.i)->PSd K f (aY (lU (xr K (j7 (fb K) [] E0 (zT (z6 0) (zT (z6 3) (zT (z6 6) jT))))) (dR (j7 (cO K) [] E0 (zT (z6 7) (zT (z6 8) (zT (z6 5) jT))))) fD)
    (dR (j7 (cN K) [] E0 (zT (z6 4) (zT (z6 5) (zT (z6 7) (zT (z6 8) jT)))))))
    [some (.dat (jW w)),some (.dat (dj s)),some (.dat (dj t)),some (.dat (wQ s.k s.i)),some (.dat (pD s.p)),some (.dat (pD s.q)),some (.dat (wQ t.k t.i)),some (.dat (pD t.p)),some (.dat (pD t.q))] { nx:=fun _=>PyData.none=PyData.bool (vk w s t),rt:=fun r=>r=.bool (vk w s t) }:=fun hne=>by
   refine yc (aZ (jA (zo (w,s.k,s.i,t.k,t.i) ?_)));walk_at "w";rintro _ rfl;refine⟨_,rfl,?_⟩;dsimp only;refine z9 (fun h3=>?_) fun h3=>?_
   ·refine yW (zo (o,t.p,t.q,s.q) ?_);walk_at "w";rintro _ rfl;show PyData.bool _=PyData.bool _;unfold vk;rw [Jo hne,Jp h3]
   ·refine y3 (yW (zo (o,s.p,s.q,t.p,t.q) ?_));walk_at "w";rintro _ rfl;show PyData.bool _=PyData.bool _;unfold vk;rw [Jo hne,Jo (by rw [h3];exact DL)]
  refine z9 (fun h1=>?_) fun h1=>?_
  ·have h1':=of_decide_eq_true h1;walk_at "w";rw [Jo DL,jk];refine z9 (fun h2=>?_) fun h2=>?_
   ·have h2':=of_decide_eq_true h2;refine yW (zo (o,s.p,s.q,t.q) ?_);walk_at "w";rintro _ rfl;show PyData.bool _=PyData.bool _;unfold vk;rw [Jp (by omega)]
   ·have h2':=of_decide_eq_false h2;exact y3 (rest (by omega))
  ·have h1':=of_decide_eq_false h1;exact y3 (rest (by omega))
abbrev wU (K:DP):Sp:=spD K 2 (fun (c:Ln) xs=>xs=[.dat (.str (c9 c.1)),.dat (.tuple (c.2.map pD))]/\1<=c.2.length) fun c r=>r=.int (ai c)
theorem AJ (F:Def K mg "many_segments" ji pK) (uaa:mg "len"=none):FnIn P w K mg base (k+1) "many_segments" pK (wU K):=by
 refine F.ok cE rfl fun fa cdv A outer s H E hr=>⟨_,(zh (zu (aq (zQ (yw (K:=K) rfl hr.units) (pv 0) vd (zI _)) (zB (ya (K:=K) rfl) rfl uaa EA (za (pv 1) zb)) (zr yb (zB (ya (K:=K) rfl) rfl uaa EA (za (pv 1) zb)) zc)))),?_⟩;rintro f xs ⟨b,ps⟩ hl ⟨rfl,hp⟩;have lw:=cf b
 try dsimp only [ye,zk]
 dsimp only at *;walk_at "w";rw [Jo DL,cJ];unfold ai;refine z9 (fun h=>?_) fun h=>?_
 ·walk_at "w";show PyData.int _=PyData.int _;rw [DM,h,Jp rfl]
 ·walk_at "w";walk_at "w";show PyData.int _=PyData.int _;rw [DM,h,Jo DL];dsimp only
  congr 1
  omega
theorem oY {ds:List PyData} {i:Nat} {d:PyData} (h:(cU ds)[i]?=some d):∃ e,ds[i]?=some e/\d=.tuple [.int (i:Int),e]:=by
 unfold cU at h;rw [IF] at h;cases eq:ds[i]? with
 | none=>rw [eq] at h;cases h
 | some e=>rw [eq] at h;cases h;exact⟨e,rfl,rfl⟩
theorem lP (ds:List PyData):(cU ds).length=ds.length:=by unfold cU;rw [List.length_mapIdx]
theorem iN {α:Type} {F:α->PyData} {xs:List α} {i:Nat} {d:PyData} (h:(xs.map F)[i]?=some d):∃ x,xs[i]?=some x/\d=F x:=by
 rw [DX] at h;cases eq:xs[i]? with
 | none=>rw [eq] at h;cases h
 | some x=>rw [eq] at h;cases h;exact⟨x,rfl,rfl⟩
abbrev wV (K:DP):Sp:=spD K 1 (fun (c:Pt×Web) xs=>xs=[.dat (jW c.2)]/\OkWeb c.1 c.2) fun c r=>r=.list ((yk c.2).map dj)
theorem lQ (F:Def K mg "segments" vL pB) (uaa:mg "len"=none) (uab:mg "range"=none) (uag:mg "enumerate"=none) (ubv:FnIn P w K mg base k "many_segments" pK (wU K)):FnIn P w K mg base (k+1) "segments" pB (wV K):=by
 refine F.ok jt rfl fun fa cdv A outer s H E hr=>⟨_,(zd (zL (i:=1) jt.nd rfl (Or.inl rfl) (yL zb)) (zd (yK Er rfl (eg (K:=K) rfl rfl uag (za (pv 0) zb)) (zH (K:=K) (n:=2) rfl rfl (zg (zf (i:=2) jt.nd rfl (Or.inl rfl) (Or.inr rfl)) (zg (zH (K:=K) (n:=2) rfl rfl (zg (zf (i:=3) jt.nd rfl (Or.inl rfl) (Or.inr rfl)) (zg (zf (i:=4) jt.nd rfl (Or.inl rfl) (Or.inr rfl)) zD))) zD))) (zh (yK Er rfl (yH rfl uab (za (ze ubv hr rfl (za (pv 3) (za (pv 4) zb))) zb)) (zf (i:=5) jt.nd rfl (Or.inl rfl) (Or.inr rfl)) (zh (jx (i8 FA Ft Fu vn (pv 1) (za (zJ (za (zJ (za (pv 2) (za (pv 5) zb))) (za (zq (zj (K:=K) rfl) (pv 4) (pv 5) (fun _ _=>rfl)) (za (zq (zj (K:=K) rfl) (pv 4) (zr vF (zr z8 (pv 5) zc) (zB (ya (K:=K) rfl) rfl uaa EA (za (pv 4) zb))) (fun _ _=>rfl)) zb)))) zb))))))) (zh (zu (pv 1))))),?_⟩;rintro f xs ⟨o,w⟩ hl ⟨rfl,g⟩
 try dsimp only [ye,zk]
 dsimp only at *;refine A2 (nH ⟨show 1<6 by decide,fun D=>?_⟩);refine nI (ub ?_);unfold jW;walk_at "w";refine⟨fun n ρ es=>(∃ x2 x3 x4 x5,ρ=[some (.dat (jW w)),some (.own f.M.length),x2,x3,x4,x5])/\es=(yU w n).map dj,⟨⟨_,_,_,_,rfl⟩,rfl⟩,?_,?_⟩
 ·rintro n d _ _ hd ⟨⟨x2,x3,x4,x5,rfl⟩,rfl⟩;obtain⟨e,h1,rfl⟩:=oY hd;obtain⟨l,h2,rfl⟩:=iN h1;have hm:=DS h2;have hn:n<w.length:=(DN.mp h2).1;have two:=g.two l hm;have few:=g.few l hm;have wl:=g.len;have le:=g.upto h2;have ml:=dH l;unfold lnD;walk_at "w";refine nI (j9 (zP (zo l ?_)));walk_at "w";rintro _ rfl;walk_at "w";refine⟨fun m ρ es=>(∃ x5,ρ=[some (.dat (jW w)),some (.own f.M.length),some (.dat (.int n)),some (.dat (.str (c9 l.1))),some (.dat (.tuple (l.2.map pD))),x5])/\es=(yU w n++(yp n l).take m).map dj,⟨⟨_,rfl⟩,by rw [G4,ER]⟩,?_,?_⟩
  ·rintro m d _ _ hd ⟨⟨x5,rfl⟩,rfl⟩;obtain⟨hm',rfl⟩:=jH hd;rw [EX] at hm';refine zp (A1 rfl ?_ ?_)
   ·rw [DM,D6,Et,jI];omega
   walk_at "w";refine⟨_,iI rfl (by omega),?_⟩;walk_at "w";rw [DM];refine⟨by omega,_,rfl,_,iI (j:=(m+1) % l.2.length) (by rw [Int.natCast_emod];rfl) (Hk _ (by omega)),?_⟩;walk_at "w";rw [br hm',<- Fj];simp only [Eg];rfl
  ·rintro _ _ ⟨⟨x5,rfl⟩,rfl⟩;refine⟨⟨_,_,_,_,rfl⟩,?_⟩;rw [jX h2,jN,EX,Gj (by rw [jI];exact DU _)]
 ·rintro _ _ ⟨⟨x2,x3,x4,x5,rfl⟩,rfl⟩;refine⟨rfl,?_⟩;rw [lP,DM,qN];walk_at "w";rfl
abbrev gx (K:DP):Sp:=spD K 1 (fun (c:Pt×Web) xs=>xs=[.dat (jW c.2)]/\OkWeb c.1 c.2) fun c r=>r=gv (vB c.2)
theorem m7 (F:Def K mg "meeting" aN pB) (uag:mg "enumerate"=none) (ubw:FnIn P w K mg base k "segments" pB (wV K)) (ubx:FnIn P w K mg base k "meets" pV (oX K)):FnIn P w K mg base (k+1) "meeting" pB (gx K):=by
 refine F.ok qG rfl fun fa cdv A outer s H E hr=>⟨_,(zd (zL (i:=1) qG.nd rfl (Or.inl rfl) (ze ubw hr rfl (za (pv 0) zb))) (zd (yK Er rfl (eg (K:=K) rfl rfl uag (za (pv 1) zb)) (zH (K:=K) (n:=2) rfl rfl (zg (zf (i:=2) qG.nd rfl (Or.inl rfl) (Or.inr rfl)) (zg (zf (i:=3) qG.nd rfl (Or.inl rfl) (Or.inr rfl)) zD))) (zh (yK Er rfl (yg (K:=K) rfl (i5 (kx (K:=K) rfl) (pv 1) (nv (pv 2)) nu)) (zf (i:=4) qG.nd rfl (Or.inl rfl) (Or.inr rfl)) (zh (yr (yj (K:=K) rfl (ze ubx hr rfl (za (pv 0) (za (pv 3) (za (pv 4) zb)))) (fun _=>rfl)) (zh (zu (zr (ue (K:=K) rfl) (zq (zj (K:=K) rfl) (pv 3) zc (fun _ _=>rfl)) (zq (zj (K:=K) rfl) (pv 4) zc (fun _ _=>rfl))))) zS))))) (zh (zu bt)))),?_⟩;rintro f xs ⟨o,w⟩ hl ⟨rfl,g⟩
 try dsimp only [ye,zk]
 dsimp only at *;refine yc (yf (zo (o,w) ?_));walk_at "w";rintro _ rfl;dsimp only;refine zp (yc (bg (ub ?_)));walk_at "w";refine⟨fun n ρ=>(∃ x2 x3 x4,ρ=[some (.dat (jW w)),some (.dat (.list ((yk w).map dj))),x2,x3,x4])/\look (yT w) (yk w)=look (yT w) ((yk w).drop n),⟨⟨_,_,_,rfl⟩,rfl⟩,?_,?_⟩
 ·rintro n d _ hd ⟨⟨x2,x3,x4,rfl⟩,hlook⟩;obtain⟨e,h1,rfl⟩:=oY hd;obtain⟨s,h2,rfl⟩:=iN h1;have hn:n<(yk w).length:=(DN.mp h2).1;have hs:(yk w).drop n=s :: (yk w).drop (n+1):=by
   rw [Fq hn]
   congr 1
   exact (DN.mp h2).2
  have sm:=cL (DS h2);walk_at "w";refine bg (yI ?_);walk_at "w";rw [ku,<- HZ];refine⟨fun m ρ=>(∃ x4,ρ=[some (.dat (jW w)),some (.dat (.list ((yk w).map dj))),some (.dat (.int n)),some (.dat (dj s)),x4])/\∀ u∈((yk w).drop n).take m,yT w s u=false,⟨⟨_,rfl⟩,fun u hu=>by simp at hu⟩,?_,?_⟩
  ·rintro m d _ hd ⟨⟨x4,rfl⟩,hall⟩;obtain⟨t,h3,rfl⟩:=iN hd;have tm:=cL (IP (DS h3));refine zp (aZ (jA (zo (o,w,s,t) ?_)));have n1:=sm.near g;have n2:=tm.near g;have tk:=tm.k;obtain⟨n11,n12⟩:=n1;obtain⟨n21,n22⟩:=n2;walk_at "w";rintro _ rfl;refine⟨_,rfl,?_⟩;dsimp only;refine z9 (fun h=>?_) fun h=>?_
   ·unfold dj;walk_at "w";show PyData.tuple _=gv (vB w);unfold vB;rw [hlook,hs,e8 (m:=m) (by rw [<-hs];exact h3) (fun u hu=>hall u (by rw [hs];exact hu)) h];rfl
   ·refine y3 ⟨⟨_,rfl⟩,fun u hu=>?_⟩;rw [EK,h3] at hu;rcases Ep.mp hu with hu | hu
    ·exact hall u hu
    ·cases Ej.mp (by simpa using hu);exact h
  ·rintro _ ⟨⟨x4,rfl⟩,hall⟩;refine⟨⟨_,_,_,rfl⟩,?_⟩;rw [hlook,hs];refine cM fun u hu=>hall u ?_;rw [DM,Eu,hs];exact hu
 ·rintro _ ⟨⟨x2,x3,x4,rfl⟩,hlook⟩;walk_at "w";show PyData.none=gv (vB w);unfold vB;rw [hlook,lP,DM,List.drop_length];rfl
theorem de {w:Web}:∀ n,n<=w.length->(yU w n).Pairwise (fun s t=>¬ (s.k=t.k/\s.i=t.i))/\∀ s∈yU w n,s.k<n
 | 0,_=>by simp [yU]
 | n+1,hn=>by
  have hl:w[n]?=some w[n]:=DK (by omega);obtain⟨h1,h2⟩:=de (w:=w) n (by omega);rw [jX hl];have hk:∀ s∈yp n w[n],s.k=n:=fun s hs=>by
   unfold yp at hs;rw [Ee] at hs;obtain⟨j,_,rfl⟩:=hs;rfl
  refine⟨Ht.mpr ⟨h1,?_,fun s hs t ht=>?_⟩,fun s hs=>?_⟩
  ·unfold yp;rw [E8];refine Hb ?_ G7;intro a b hab h;have:=h.2;dsimp only at this;omega
  ·have:=h2 s hs;have:=hk t ht;omega
  ·rcases Ep.mp hs with hs | hs
   ·have:=h2 s hs;omega
   ·have:=hk s hs;omega
theorem AK {w:Web} {n:Nat} {s t:Sg} (h:(yk w)[n]?=some s) (ht:t∈(yk w).drop (n+1)):¬ (s.k=t.k/\s.i=t.i):=by
 have p:=(de (w:=w) w.length (DU _)).1;rw [qN] at p;have hn:n<(yk w).length:=(DN.mp h).1;have e:(yk w).drop n=s :: (yk w).drop (n+1):=by
  rw [Fq hn]
  congr 1
  exact (DN.mp h).2
 have q:=p.sublist (List.drop_sublist n _);rw [e,FQ] at q;exact q.1 t ht
theorem sY {w:Web} {s:Sg} {r:List Sg} (h:s.p=s.q):look (yT w) (s :: r)=some (s,s) :=
 e8 (m:=0) rfl (fun u hu=>by simp at hu) (by unfold yT;rw [Jp ⟨rfl,rfl⟩,Jq h])
theorem iO {w:Web} {s:Sg} (h:¬ s.p=s.q):yT w s s=false:=by unfold yT;rw [Jp ⟨rfl,rfl⟩,Jr h]
theorem gy {w:Web} {s t:Sg} (h:¬ (s.k=t.k/\s.i=t.i)):yT w s t=vk w s t:=by unfold yT;rw [Jo h]
theorem fold_zero (m a c:Pt):(zv m a c=0)↔zv a m c=0:=by
 have:zv m a c=- zv a m c:=by unfold zv;grind
 omega
theorem gz {a m c:Pt} (h:a=m \/ c=m):vc a m c=false:=by
 unfold vc;rw [Bool.and_eq_false_iff];refine .inr (Jr ?_);rcases h with h | h
 ·rw [h];simp
 ·rw [h];simp
theorem sZ {w:Web} {s t:Sg} (hs:SegOf w s) (ht:SegOf w t) (h2:1<=(yS w t.k).2.length) (h:yG w s.k s.i t.k t.i=true):t.q=s.p:=by
 unfold yG at h;rw [DW,DW] at h;obtain⟨h1,h3,h4⟩:=h;have h3:=of_decide_eq_true h3;have h4:=of_decide_eq_true h4;rw [ht.q,hs.p,h3.1,h3.2]
 congr 1
 have:t.i+1=(yS w t.k).2.length:=by omega
 rw [this,HD]
theorem wW (F:Def K mg "_law_turn" vW pO):FnIn P w K mg base (k+1) "_law_turn" pO (jR K):=by
 refine F.ok aC rfl fun fa cdv A outer s H E hr=>⟨_,(zd (zL (i:=3) aC.nd rfl (Or.inl rfl) (zr yb (zq (zj (K:=K) rfl) (pv 1) zc (fun _ _=>rfl)) (zq (zj (K:=K) rfl) (pv 0) zc (fun _ _=>rfl)))) (zd (zL (i:=4) aC.nd rfl (Or.inl rfl) (zr yb (zq (zj (K:=K) rfl) (pv 1) zc (fun _ _=>rfl)) (zq (zj (K:=K) rfl) (pv 0) zc (fun _ _=>rfl)))) (zh (zu (zr yb (zr ym (pv 3) (zr yb (zq (zj (K:=K) rfl) (pv 2) zc (fun _ _=>rfl)) (zq (zj (K:=K) rfl) (pv 0) zc (fun _ _=>rfl)))) (zr ym (pv 4) (zr yb (zq (zj (K:=K) rfl) (pv 2) zc (fun _ _=>rfl)) (zq (zj (K:=K) rfl) (pv 0) zc (fun _ _=>rfl))))))))),?_⟩;rintro f xs ⟨o,a,b,c⟩ hl ⟨rfl,na,nb,nc⟩
 try dsimp only [ye,zk]
 unfold pD;dsimp only at *;walk_at "w";refine⟨⟨(yq na nb).1,(yq na nc).2⟩,?_⟩;walk_at "w";refine⟨⟨(yq na nb).2,(yq na nc).1⟩,?_⟩;walk_at "w";rfl
noncomputable abbrev aj (a b:Pt):PyData:=.tuple [pD a,pD b]
noncomputable def co (i:Nat) (p:Pt):Int:=if i=0 then p.1 else p.2
theorem oZ {p:Pt} {i:Nat} (h:i<2):atI [PyData.int p.1,PyData.int p.2] (i:Int)=some (.int (co i p)):=by
 have:i=0 \/ i=1:=by omega
 rcases this with rfl | rfl <;> rfl
abbrev lR (K:DP):Sp:=spD K 3 (fun (c:Pt×Pt×Pt×Pt×Nat) xs=>xs=[.dat (aj c.1 c.2.1),.dat (aj c.2.2.1 c.2.2.2.1),.dat (.int c.2.2.2.2)]/\c.2.2.2.2<2) fun c r=>r=.bool (decide (mx (co c.2.2.2.2 c.1) (co c.2.2.2.2 c.2.1)<mn (co c.2.2.2.2 c.2.2.1) (co c.2.2.2.2 c.2.2.2.1)))
theorem s9 (F:Def K mg "_law_apart" qY pP) (uac:mg "min"=none) (uad:mg "max"=none):FnIn P w K mg base (k+1) "_law_apart" pP (lR K):=by
 refine F.ok iu rfl fun fa cdv A outer s H E hr=>⟨_,(zh (zu (yC fE (zB (vm rfl) rfl uad boot_max (za (zq (zj (K:=K) rfl) (zq (zj (K:=K) rfl) (pv 0) zc (fun _ _=>rfl)) (pv 2) (fun _ _=>rfl)) (za (zq (zj (K:=K) rfl) (zq (zj (K:=K) rfl) (pv 0) zc (fun _ _=>rfl)) (pv 2) (fun _ _=>rfl)) zb))) (zB (qA rfl) rfl uac boot_min (za (zq (zj (K:=K) rfl) (zq (zj (K:=K) rfl) (pv 1) zc (fun _ _=>rfl)) (pv 2) (fun _ _=>rfl)) (za (zq (zj (K:=K) rfl) (zq (zj (K:=K) rfl) (pv 1) zc (fun _ _=>rfl)) (pv 2) (fun _ _=>rfl)) zb))) (zI _)))),?_⟩;rintro f xs ⟨a,b,c,d,i⟩ hl ⟨rfl,hi⟩
 try dsimp only [ye,zk]
 dsimp only at *;unfold aj pD;walk_at "w";refine⟨_,oZ hi,?_⟩;walk_at "w";refine⟨_,oZ hi,?_⟩;walk_at "w";refine⟨_,oZ hi,?_⟩;walk_at "w";refine⟨_,oZ hi,?_⟩;walk_at "w";rfl
abbrev aJ (K:DP):Sp:=spD K 2 (fun (c:Pt×Pt×Pt×Pt×Pt) xs=>xs=[.dat (aj c.2.1 c.2.2.1),.dat (aj c.2.2.2.1 c.2.2.2.2)]/\Near c.1 c.2.1/\Near c.1 c.2.2.1/\Near c.1 c.2.2.2.1/\Near c.1 c.2.2.2.2) fun c r=>r=.bool (zy c.2.1 c.2.2.1 c.2.2.2.1 c.2.2.2.2)
theorem td (a b c d:Pt) (h:(yi a.1 b.1 c.1 d.1 || yi a.2 b.2 c.2 d.2)=false):zy a b c d=(decide (mn (zv a b c) (zv a b d)<=0/\0<=mx (zv a b c) (zv a b d)) && decide (mn (zv c d a) (zv c d b)<=0/\0<=mx (zv c d a) (zv c d b))):=by
 unfold zy;rw [h,Gb,FO]
 congr 1 <;> exact decide_eq_decide.mpr (sW _ _)
theorem tf (F:Def K mg "_law_touch" qZ pQ) (uac:mg "min"=none) (uad:mg "max"=none) (uab:mg "range"=none) (ua9:FnIn P w K mg base k "_law_apart" pP (lR K)) (uan:FnIn P w K mg base k "_law_turn" pO (jR K)) :
  FnIn P w K mg base (k+1) "_law_touch" pQ (aJ K):=by
 refine F.ok ja rfl fun fa cdv A outer s H E hr=>⟨_,(zd (yK Er rfl (yH rfl uab (za zc zb)) (zf (i:=2) ja.nd rfl (Or.inl rfl) (Or.inr rfl)) (zh (yr (PW.pt (fC (yj (K:=K) rfl (ze ua9 hr rfl (za (pv 0) (za (pv 1) (za (pv 2) zb)))) (fun _=>rfl)) (dQ (yj (K:=K) rfl (ze ua9 hr rfl (za (pv 1) (za (pv 0) (za (pv 2) zb)))) (fun _=>rfl))))) (zh (zu bb)) zS))) (zd (zL (i:=3) ja.nd rfl (Or.inl rfl) (ze uan hr rfl (za (zq (zj (K:=K) rfl) (pv 0) zc (fun _ _=>rfl)) (za (zq (zj (K:=K) rfl) (pv 0) zc (fun _ _=>rfl)) (za (zq (zj (K:=K) rfl) (pv 1) zc (fun _ _=>rfl)) zb))))) (zd (zL (i:=4) ja.nd rfl (Or.inl rfl) (ze uan hr rfl (za (zq (zj (K:=K) rfl) (pv 0) zc (fun _ _=>rfl)) (za (zq (zj (K:=K) rfl) (pv 0) zc (fun _ _=>rfl)) (za (zq (zj (K:=K) rfl) (pv 1) zc (fun _ _=>rfl)) zb))))) (zd (zL (i:=5) ja.nd rfl (Or.inl rfl) (ze uan hr rfl (za (zq (zj (K:=K) rfl) (pv 1) zc (fun _ _=>rfl)) (za (zq (zj (K:=K) rfl) (pv 1) zc (fun _ _=>rfl)) (za (zq (zj (K:=K) rfl) (pv 0) zc (fun _ _=>rfl)) zb))))) (zd (zL (i:=6) ja.nd rfl (Or.inl rfl) (ze uan hr rfl (za (zq (zj (K:=K) rfl) (pv 1) zc (fun _ _=>rfl)) (za (zq (zj (K:=K) rfl) (pv 1) zc (fun _ _=>rfl)) (za (zq (zj (K:=K) rfl) (pv 0) zc (fun _ _=>rfl)) zb))))) (zh (zu (ao (ar ae ae (zB (qA rfl) rfl uac boot_min (za (pv 3) (za (pv 4) zb))) zc (zB (vm rfl) rfl uad boot_max (za (pv 3) (za (pv 4) zb)))) (bu (ar ae ae (zB (qA rfl) rfl uac boot_min (za (pv 5) (za (pv 6) zb))) zc (zB (vm rfl) rfl uad boot_max (za (pv 5) (za (pv 6) zb))))))))))))),?_⟩;rintro f xs ⟨o,a,b,c,d⟩ hl ⟨rfl,na,nb,nc,nd⟩
 try dsimp only [ye,zk]
 dsimp only at *;have ap:∀ i,i<2->yi (co i a) (co i b) (co i c) (co i d)=true->zy a b c d=false:=fun i hi h=>by
  unfold zy;have:i=0 \/ i=1:=by omega
  rcases this with rfl | rfl
  ·rw [show yi a.1 b.1 c.1 d.1=true from h];rfl
  ·rw [show yi a.2 b.2 c.2 d.2=true from h,Jd];rfl
 refine yc (bg (j9 ?_));walk_at "w";refine⟨fun n ρ=>(∃ x2 x3 x4 x5 x6,ρ=[some (.dat (aj a b)),some (.dat (aj c d)),x2,x3,x4,x5,x6])/\∀ i,i<n->yi (co i a) (co i b) (co i c) (co i d)=false,⟨⟨_,_,_,_,_,rfl⟩,fun i hi=>by omega⟩,?_,?_⟩
 ·rintro n e _ he ⟨⟨x2,x3,x4,x5,x6,rfl⟩,hall⟩;obtain⟨hn,rfl⟩:=jH he;have hn2:n<2:=hn;refine zp (aZ (tZ (jA (zo (a,b,c,d,n) ?_))));walk_at "w";rintro _ rfl;refine⟨_,rfl,?_⟩;dsimp only;refine z9 (fun h=>?_) fun h=>?_
  ·rw [Jp rfl];walk_at "w";show PyData.bool false=PyData.bool _;rw [ap n hn2 (by unfold yi;rw [h];rfl)]
  ·refine jA (zo (c,d,a,b,n) ?_);walk_at "w";rintro _ rfl;refine⟨_,rfl,?_⟩;dsimp only;refine z9 (fun h'=>?_) fun h'=>?_
   ·walk_at "w";show PyData.bool false=PyData.bool _;rw [ap n hn2 (by unfold yi;rw [h',Jd])]
   ·refine y3 ⟨⟨_,_,_,_,_,rfl⟩,fun i hi=>?_⟩;by_cases hin:i=n
    ·subst hin;unfold yi;rw [h,h'];rfl
    ·exact hall i (by omega)
 ·rintro _ ⟨⟨x2,x3,x4,x5,x6,rfl⟩,hall⟩;have a0:yi a.1 b.1 c.1 d.1=false:=hall 0 (by show 0<2;decide);have a1:yi a.2 b.2 c.2 d.2=false:=hall 1 (by show 1<2;decide);have tl:=td a b c d (by rw [a0,a1];rfl);refine yc (yf (zo (o,a,b,c) ?_));unfold aj;walk_at "w";rintro _ rfl;refine zp (yc (yf (zo (o,a,b,d) ?_)));walk_at "w";rintro _ rfl;refine zp (yc (yf (zo (o,c,d,a) ?_)));walk_at "w";rintro _ rfl;refine zp (yc (yf (zo (o,c,d,b) ?_)));walk_at "w";rintro _ rfl;dsimp only;walk_at "w";have fin:∀ x:Bool,x=zy a b c d->PyData.bool x=PyData.bool (zy a b c d):=fun x h=>by rw [h]
  rw [Iy,Iy] at tl;unfold mn mx at tl;refine z9 (fun h=>?_) fun h=>?_
  ·walk_at "w";refine z9 (fun h2=>?_) fun h2=>?_
   ·walk_at "w";refine z9 (fun h3=>?_) fun h3=>?_
    ·walk_at "w";refine fin _ ?_;rw [tl,h,h2,h3];rfl
    ·refine fin _ ?_;rw [tl,h,h2,h3];rfl
   ·refine fin _ ?_;rw [tl,h,h2];rfl
  ·refine⟨_,rfl,?_⟩;rw [Jo DL];refine fin _ ?_;rw [tl,h];rfl
theorem tj (F:Def K mg "_law_folds" q9 qd) (uan:FnIn P w K mg base k "_law_turn" pO (jR K)):FnIn P w K mg base (k+1) "_law_folds" qd (cO K):=by
 refine F.ok b8 rfl fun fa cdv A outer s H E hr=>⟨_,(zd (yr (PW.pt (fC (zQ (d9 (K:=K) rfl hr.units) (ze uan hr rfl (za (pv 1) (za (pv 0) (za (pv 2) zb)))) zc (zI _)) (fC (zQ (yw (K:=K) rfl hr.units) (pv 0) (pv 1) (zI _)) (dQ (zQ (yw (K:=K) rfl hr.units) (pv 2) (pv 1) (zI _)))))) (zh (zu bb)) zS) (zd (zL (i:=3) b8.nd rfl (Or.inl rfl) (zr ym (zr yb (zq (zj (K:=K) rfl) (pv 0) zc (fun _ _=>rfl)) (zq (zj (K:=K) rfl) (pv 1) zc (fun _ _=>rfl))) (zr yb (zq (zj (K:=K) rfl) (pv 2) zc (fun _ _=>rfl)) (zq (zj (K:=K) rfl) (pv 1) zc (fun _ _=>rfl))))) (zh (zu (yC iY (zr z8 (pv 3) (zr ym (zr yb (zq (zj (K:=K) rfl) (pv 0) zc (fun _ _=>rfl)) (zq (zj (K:=K) rfl) (pv 1) zc (fun _ _=>rfl))) (zr yb (zq (zj (K:=K) rfl) (pv 2) zc (fun _ _=>rfl)) (zq (zj (K:=K) rfl) (pv 1) zc (fun _ _=>rfl))))) zc (zI _)))))),?_⟩;rintro f xs ⟨o,a,m,c⟩ hl ⟨rfl,na,nm,nc⟩
 try dsimp only [ye,zk]
 dsimp only at *;have fin:∀ x:Bool,x=vc a m c->PyData.bool x=PyData.bool (vc a m c):=fun x h=>by rw [h]
 have d1:=iM a m;have d2:=iM c m;refine yc (aZ (tZ (jL (d6 (zo (o,m,a,c) ?_)))));walk_at "w";rintro _ rfl;dsimp only;walk_at "w";rw [Jp rfl,jk];refine z9 (fun h=>?_) fun h=>?_
 ·rw [Jp rfl];walk_at "w";refine fin _ ?_;have h':¬ zv a m c=0:=fun z=>by
   rw [Jq ((fold_zero m a c).mpr z)] at h;cases h
  unfold vc;rw [Jr h'];rfl
 ·have h':zv a m c=0:=by
   refine (fold_zero m a c).mp (Fs fun z=>?_);rw [Jr z] at h;cases h
  walk_at "w";rw [Jo DL,iL];refine z9 (fun h2=>?_) fun h2=>?_
  ·rw [Jp rfl];walk_at "w";refine fin _ ?_;rw [gz (.inl (of_decide_eq_true h2))]
  ·walk_at "w";rw [Jo DL,iL];refine z9 (fun h3=>?_) fun h3=>?_
   ·walk_at "w";refine fin _ ?_;rw [gz (.inr (of_decide_eq_true h3))]
   ·unfold pD;walk_at "w";refine⟨⟨(yq nm na).1,(yq nm nc).1⟩,?_⟩;walk_at "w";refine⟨⟨(yq nm na).2,(yq nm nc).2⟩,?_⟩;walk_at "w";refine fin _ ?_;unfold vc;rw [Jq h'];rfl
abbrev iP (K:DP):Sp:=spD K 1 (fun (c:Pt×Web) xs=>xs=[.dat (jW c.2)]/\OkWeb c.1 c.2) fun c r=>r=.list ((yk c.2).map jh)
theorem iQ (F:Def K mg "_law_segments" jF pA) (uaa:mg "len"=none) (uab:mg "range"=none) (uaL:mg "int"=none):FnIn P w K mg base (k+1) "_law_segments" pA (iP K):=by
 refine F.ok yA rfl fun fa cdv A outer s H E hr=>⟨_,(zd (zL (i:=1) yA.nd rfl (Or.inl rfl) (yL zb)) (zd (yK Er rfl (yH rfl uab (za (zB (ya (K:=K) rfl) rfl uaa EA (za (pv 0) zb)) zb)) (zf (i:=2) yA.nd rfl (Or.inl rfl) (Or.inr rfl)) (zd (yl (zq (zF (K:=K) rfl) (pv 0) (pv 2) (fun _ _=>rfl)) (zH (K:=K) (n:=2) rfl rfl (zg (zf (i:=3) yA.nd rfl (Or.inl rfl) (Or.inr rfl)) (zg (zf (i:=4) yA.nd rfl (Or.inl rfl) (Or.inr rfl)) zD)))) (zh (yK Er rfl (yH rfl uab (za (zr yb (zB (ya (K:=K) rfl) rfl uaa EA (za (pv 4) zb)) (cm rg rfl uaL PyProof.Rows.boot_int (za (yC (yw (K:=K) rfl hr.units) (pv 3) vd (zI _)) zb))) zb)) (zf (i:=5) yA.nd rfl (Or.inl rfl) (Or.inr rfl)) (zh (jx (i8 FA Ft Fu vn (pv 1) (za (zJ (za (pv 2) (za (pv 5) (za (zJ (za (zq (zj (K:=K) rfl) (pv 4) (pv 5) (fun _ _=>rfl)) (za (zq (zj (K:=K) rfl) (pv 4) (zr vF (zr z8 (pv 5) zc) (zB (ya (K:=K) rfl) rfl uaa EA (za (pv 4) zb))) (fun _ _=>rfl)) zb))) zb)))) zb)))))))) (zh (zu (pv 1))))),?_⟩;rintro f xs ⟨o,w⟩ hl ⟨rfl,g⟩
 try dsimp only [ye,zk]
 dsimp only at *;have wl:=g.len;have wl':(w.map lnD).length<=147:=by rw [DM];exact g.len
 refine A2 (nH ⟨show 1<6 by decide,fun D=>?_⟩);refine nI (j9 ?_);unfold jW;walk_at "w";rw [DM];refine⟨fun n ρ es=>(∃ x2 x3 x4 x5,ρ=[some (.dat (jW w)),some (.own f.M.length),x2,x3,x4,x5])/\es=(yU w n).map jh,⟨⟨_,_,_,_,rfl⟩,rfl⟩,?_,?_⟩
 ·rintro n d _ _ hd ⟨⟨x2,x3,x4,x5,rfl⟩,rfl⟩;obtain⟨hn,rfl⟩:=jH hd;rw [EX] at hn;have h2:w[n]?=some (yS w n):=by
   unfold yS;rw [DO,DK hn];rfl
  have hm:=DS h2;have two:=g.two _ hm;have few:=g.few _ hm;have le:=g.upto h2;have ml:=dH (yS w n);have lw:=cf (yS w n).1;refine zp (C1 (BR (yf ?_)));unfold jW;walk_at "w";refine⟨_,iJ rfl hn,?_⟩;unfold lnD;walk_at "w";refine nI (j9 ?_);walk_at "w";rw [Jo DL,wM,DM];have em:(((yS w n).2.length:Int) - if (!(yS w n).1)=true then 1 else 0)=(ai (yS w n):Int):=by
   unfold ai;cases (yS w n).1 with
   | true=>rw [E4,Jo DL,Jp rfl];omega
   | false=>rw [Gb,Jp rfl,Jo DL];omega
  rw [em];refine⟨by omega,fun m ρ es=>(∃ x5,ρ=[some (.dat (jW w)),some (.own f.M.length),some (.dat (.int n)),some (.dat (.str (c9 (yS w n).1))),some (.dat (.tuple ((yS w n).2.map pD))),x5])/\es=(yU w n++(yp n (yS w n)).take m).map jh,⟨⟨_,rfl⟩,by rw [G4,ER]⟩,?_,?_⟩
  ·rintro m d _ _ hd ⟨⟨x5,rfl⟩,rfl⟩;obtain⟨hm',rfl⟩:=jH hd;rw [EX] at hm';refine zp (A1 rfl ?_ ?_)
   ·rw [DM,D6,Et,jI];omega
   walk_at "w";refine⟨_,iI rfl (by omega),?_⟩;walk_at "w";rw [DM];refine⟨by omega,_,rfl,_,iI (j:=(m+1) % (yS w n).2.length) (by rw [Int.natCast_emod];rfl) (Hk _ (by omega)),?_⟩;walk_at "w";rw [br hm',<- Fj];simp only [Eg];rfl
  ·rintro _ _ ⟨⟨x5,rfl⟩,rfl⟩;refine⟨⟨_,_,_,_,rfl⟩,?_⟩;rw [jX h2,jN,EX,Gj (by rw [jI];exact DU _)]
 ·rintro _ _ ⟨⟨x2,x3,x4,x5,rfl⟩,rfl⟩;refine⟨rfl,?_⟩;rw [jN,EX,qN];walk_at "w";rfl
abbrev wX (K:DP):Sp:=spD K 3 (fun (c:Pt×Web×Sg×Sg) xs=>xs=[.dat (jW c.2.1),.dat (jh c.2.2.1),.dat (jh c.2.2.2)]/\OkWeb c.1 c.2.1/\SegOf c.2.1 c.2.2.1/\SegOf c.2.1 c.2.2.2) fun c r=>r=.bool (vk c.2.1 c.2.2.1 c.2.2.2)
theorem AL (F:Def K mg "_law_bad" aV qe) (uaa:mg "len"=none) (uba:FnIn P w K mg base k "_law_folds" qd (cO K)) (uaM:FnIn P w K mg base k "_law_touch" pQ (aJ K)) :
  FnIn P w K mg base (k+1) "_law_bad" qe (wX K):=by
 refine F.ok qK rfl fun fa cdv A outer s H E hr=>⟨_,(zd (yl (pv 1) (zH (K:=K) (n:=3) rfl rfl (zg (zf (i:=3) qK.nd rfl (Or.inl rfl) (Or.inr rfl)) (zg (zf (i:=4) qK.nd rfl (Or.inl rfl) (Or.inr rfl)) (zg (zf (i:=5) qK.nd rfl (Or.inl rfl) (Or.inr rfl)) zD))))) (zd (zL (i:=6) qK.nd rfl (Or.inl rfl) (zB (ya (K:=K) rfl) rfl uaa EA (za (zq (zj (K:=K) rfl) (zq (zF (K:=K) rfl) (pv 0) (pv 3) (fun _ _=>rfl)) zc (fun _ _=>rfl)) zb))) (zd (yr (PW.pt (ck (zQ (yw (K:=K) rfl hr.units) (pv 3) (zq (zj (K:=K) rfl) (pv 2) zc (fun _ _=>rfl)) (zI _)) (dk (zQ (yw (K:=K) rfl hr.units) (zq (zj (K:=K) rfl) (pv 2) zc (fun _ _=>rfl)) (zr z8 (pv 4) zc) (zI _))))) (zh (zu (ze uba hr rfl (za (zq (zj (K:=K) rfl) (pv 5) zc (fun _ _=>rfl)) (za (zq (zj (K:=K) rfl) (pv 5) zc (fun _ _=>rfl)) (za (zq (zj (K:=K) rfl) (zq (zj (K:=K) rfl) (pv 2) zc (fun _ _=>rfl)) zc (fun _ _=>rfl)) zb)))))) zS) (zd (yr (PW.pt (ck (zQ (yw (K:=K) rfl hr.units) (pv 3) (zq (zj (K:=K) rfl) (pv 2) zc (fun _ _=>rfl)) (zI _)) (ck (zQ (yw (K:=K) rfl hr.units) (zq (zj (K:=K) rfl) (zq (zF (K:=K) rfl) (pv 0) (pv 3) (fun _ _=>rfl)) zc (fun _ _=>rfl)) vd (zI _)) (ck (zQ (yw (K:=K) rfl hr.units) (pv 4) zc (zI _)) (dk (zQ (yw (K:=K) rfl hr.units) (zq (zj (K:=K) rfl) (pv 2) zc (fun _ _=>rfl)) (zr yb (pv 6) zc) (zI _))))))) (zh (zu (ze uba hr rfl (za (zq (zj (K:=K) rfl) (zq (zj (K:=K) rfl) (pv 2) zc (fun _ _=>rfl)) zc (fun _ _=>rfl)) (za (zq (zj (K:=K) rfl) (pv 5) zc (fun _ _=>rfl)) (za (zq (zj (K:=K) rfl) (pv 5) zc (fun _ _=>rfl)) zb)))))) zS) (zh (zu (ze uaM hr rfl (za (pv 5) (za (zq (zj (K:=K) rfl) (pv 2) zc (fun _ _=>rfl)) zb))))))))),?_⟩;rintro f xs ⟨o,w,s,t⟩ hl ⟨rfl,g,sm,tm⟩
 try dsimp only [ye,zk]
 dsimp only at *;obtain⟨n1,n2⟩:=sm.near g;obtain⟨n3,n4⟩:=tm.near g;have lw:=cf (yS w s.k).1;have two:=g.two _ (lO tm.k);have fin:∀ x:Bool,x=vk w s t->PyData.bool x=PyData.bool (vk w s t):=fun x h=>by rw [h]
 have tch:vk w s t=zy s.p s.q t.p t.q->PSd K f (dR (j7 (aJ K) [] E0 (zT (z6 5) (zT (tOp (df K) (z6 2) (tC (V.int 2))) jT))))
   [some (.dat (jW w)),some (.dat (jh s)),some (.dat (jh t)),some (.dat (.int s.k)),some (.dat (.int s.i)),some (.dat (aj s.p s.q)),some (.dat (.int (yS w s.k).2.length))] { nx:=fun _=>PyData.none=PyData.bool (vk w s t),rt:=fun r=>r=.bool (vk w s t) }:=fun he=>by
  refine yW (zo (o,s.p,s.q,t.p,t.q) ?_);unfold jh;walk_at "w";rintro _ rfl;exact fin _ he.symm
 have second:¬ (s.k=t.k/\s.i+1=t.i)->PSd K f (aY (lU (tI (cP (tOp (fm K false) (z6 3) (tOp (df K) (z6 2) (tC (V.int 0))))) (tI (cP (tOp (fm K false) (tOp (df K) (tOp (rj K) (z6 0) (z6 3)) (tC (V.int 0))) (tC (V.str "ring")))) (tI (cP (tOp (fm K false) (z6 4) (tC (V.int 0)))) (cP (tOp (fm K false) (tOp (df K) (z6 2) (tC (V.int 1))) (tOp (rI0 fun i j=>V.int (i - j)) (z6 6) (tC (V.int 1)))))))) (dR (j7 (cO K) [] E0 (zT (tOp (df K) (tOp (df K) (z6 2) (tC (V.int 2))) (tC (V.int 0))) (zT (tOp (df K) (z6 5) (tC (V.int 0))) (zT (tOp (df K) (z6 5) (tC (V.int 1))) jT))))) fD)
   (dR (j7 (aJ K) [] E0 (zT (z6 5) (zT (tOp (df K) (z6 2) (tC (V.int 2))) jT)))))
   [some (.dat (jW w)),some (.dat (jh s)),some (.dat (jh t)),some (.dat (.int s.k)),some (.dat (.int s.i)),some (.dat (aj s.p s.q)),some (.dat (.int (yS w s.k).2.length))] { nx:=fun _=>PyData.none=PyData.bool (vk w s t),rt:=fun r=>r=.bool (vk w s t) }:=fun hne=>by
  have cl:yG w s.k s.i t.k t.i=((yS w t.k).1 && (decide (s.k=t.k/\s.i=0) && decide ((t.i:Int)=(yS w t.k).2.length - 1))):=rfl;have nb:yG w s.k s.i t.k t.i=false->vk w s t=zy s.p s.q t.p t.q:=fun h=>by
   unfold vk;rw [Jo hne,Jo (by rw [h];exact DL)]
  refine yc (aZ ?_);unfold jh;walk_at "w";rw [Jo DL,jk];refine z9 (fun h1=>?_) fun h1=>?_
  ·have h1':=of_decide_eq_true h1;have ek:s.k=t.k:=by omega
   walk_at "w";unfold jW;walk_at "w";refine⟨_,iJ rfl sm.k,?_⟩;unfold lnD;walk_at "w";rw [Jo DL,cJ];refine z9 (fun h2=>?_) fun h2=>?_
   ·walk_at "w";rw [Jo DL,jk];refine z9 (fun h3=>?_) fun h3=>?_
    ·walk_at "w";rw [Jo DL,jk];have h3':=of_decide_eq_true h3;refine z9 (fun h4=>?_) fun h4=>?_
     ·have h4':=of_decide_eq_true h4;have hc:yG w s.k s.i t.k t.i=true:=by
       rw [cl,<- ek,h2,Jq (by omega),Jq (by omega)];rfl
      refine yW (zo (o,t.p,s.p,s.q) ?_);unfold aj;walk_at "w";rintro _ rfl;refine fin _ ?_;unfold vk;rw [Jo hne,Jp hc,sZ sm tm (by omega) hc]
     ·have h4':=of_decide_eq_false h4;refine y3 (tch (nb ?_));rw [cl,<- ek,Jr (p:=((t.i:Int)=(yS w s.k).2.length - 1)) (by omega),E1,E1]
    ·have h3':=of_decide_eq_false h3;refine y3 (tch (nb ?_));rw [cl,Jr (p:=(s.k=t.k/\s.i=0)) (by omega),Fc,E1]
   ·refine y3 (tch (nb ?_));rw [cl,<- ek,h2,Fc]
  ·have h1':=of_decide_eq_false h1;refine y3 (tch (nb ?_));rw [cl,Jr (p:=(s.k=t.k/\s.i=0)) (by omega),Fc,E1]
 unfold jh jW;walk_at "w";refine⟨_,iJ rfl sm.k,?_⟩;unfold lnD;walk_at "w";rw [Jo DL,jk];rw [DM];refine z9 (fun h1=>?_) fun h1=>?_
 ·have h1':=of_decide_eq_true h1;walk_at "w";rw [Jo DL,jk];refine z9 (fun h2=>?_) fun h2=>?_
  ·have h2':=of_decide_eq_true h2;refine yW (zo (o,s.p,s.q,t.q) ?_);walk_at "w";rintro _ rfl;refine fin _ ?_;unfold vk;rw [Jp (by omega)]
  ·have h2':=of_decide_eq_false h2;exact y3 (second (by omega))
 ·have h1':=of_decide_eq_false h1;exact y3 (second (by omega))
abbrev fc (K:DP):Sp:=spD K 1 (fun (c:Pt×Web) xs=>xs=[.dat (jW c.2)]/\OkWeb c.1 c.2) fun c r=>r=gv (vB c.2)
theorem lS (F:Def K mg "_law_meeting" jQ pA) (uaa:mg "len"=none) (uab:mg "range"=none) (uaN:FnIn P w K mg base k "_law_segments" pA (iP K)) (uby:FnIn P w K mg base k "_law_bad" qe (wX K)):FnIn P w K mg base (k+1) "_law_meeting" pA (fc K):=by
 refine F.ok yv rfl fun fa cdv A outer s H E hr=>⟨_,(zd (zL (i:=1) yv.nd rfl (Or.inl rfl) (ze uaN hr rfl (za (pv 0) zb))) (zd (yK Er rfl (yH rfl uab (za (zB (ya (K:=K) rfl) rfl uaa EA (za (pv 1) zb)) zb)) (zf (i:=2) yv.nd rfl (Or.inl rfl) (Or.inr rfl)) (zd (yl (zq (zF (K:=K) rfl) (pv 1) (pv 2) (fun _ _=>rfl)) (zH (K:=K) (n:=3) rfl rfl (zg (zf (i:=3) yv.nd rfl (Or.inl rfl) (Or.inr rfl)) (zg (zf (i:=4) yv.nd rfl (Or.inl rfl) (Or.inr rfl)) (zg (zf (i:=5) yv.nd rfl (Or.inl rfl) (Or.inr rfl)) zD))))) (zd (yr (zQ (yw (K:=K) rfl hr.units) (zq (zj (K:=K) rfl) (pv 5) zc (fun _ _=>rfl)) (zq (zj (K:=K) rfl) (pv 5) zc (fun _ _=>rfl)) (zI _)) (zh (zu (zJ (za (pv 3) (za (pv 4) (za (pv 3) (za (pv 4) zb))))))) zS) (zh (yK Er rfl (yg (K:=K) rfl (i5 (kx (K:=K) rfl) (pv 1) (nv (zr z8 (pv 2) zc)) nu)) (zf (i:=6) yv.nd rfl (Or.inl rfl) (Or.inr rfl)) (zh (yr (yj (K:=K) rfl (ze uby hr rfl (za (pv 0) (za (zq (zF (K:=K) rfl) (pv 1) (pv 2) (fun _ _=>rfl)) (za (pv 6) zb)))) (fun _=>rfl)) (zh (zu (zJ (za (pv 3) (za (pv 4) (za (zq (zj (K:=K) rfl) (pv 6) zc (fun _ _=>rfl)) (za (zq (zj (K:=K) rfl) (pv 6) zc (fun _ _=>rfl)) zb))))))) zS))))))) (zh (zu bt)))),?_⟩;rintro f xs ⟨o,w⟩ hl ⟨rfl,g⟩
 try dsimp only [ye,zk]
 dsimp only at *;have sl:((yk w).map jh).length<=1000:=by
  rw [DM];have:=g.all;omega
 have fin:∀ x:Option (Sg×Sg),x=vB w->gv x=gv (vB w):=fun x h=>by rw [h]
 refine yc (yf (zo (o,w) ?_));walk_at "w";rintro _ rfl;dsimp only;refine zp (yc (bg (j9 ?_)));walk_at "w";rw [DM,EX];refine⟨fun n ρ=>(∃ x2 x3 x4 x5 x6,ρ=[some (.dat (jW w)),some (.dat (.list ((yk w).map jh))),x2,x3,x4,x5,x6])/\look (yT w) (yk w)=look (yT w) ((yk w).drop n),⟨⟨_,_,_,_,_,rfl⟩,rfl⟩,?_,?_⟩
 ·rintro n d _ hd ⟨⟨x2,x3,x4,x5,x6,rfl⟩,hlook⟩;obtain⟨hn,rfl⟩:=jH hd;have h2:(yk w)[n]?=some (yk w)[n]:=DK hn;have sm:=cL (DS h2);have hs:(yk w).drop n=(yk w)[n] :: (yk w).drop (n+1):=Fq hn;have kn:=fun t ht=>AK (t:=t) h2 ht;generalize (yk w)[n]=s at h2 sm hs kn;have hat:atI ((yk w).map jh) (n:Int)=some (jh s):=aK (by rw [DX,h2];rfl);refine zp (yc (yf ?_));walk_at "w";refine⟨_,hat,?_⟩;unfold jh;have dp:=iM s.p s.q;walk_at "w";rw [Jo DL,iL];refine z9 (fun h=>?_) fun h=>?_
  ·walk_at "w";refine fin (some (s,s)) ?_;unfold vB;rw [hlook,hs,sY (of_decide_eq_true h)]
  ·have hpq:=of_decide_eq_false h;refine y3 (bg (yI ?_));walk_at "w";rw [show ((n:Int)+1)=((n+1:Nat):Int) from rfl,ku,<- HZ];refine⟨fun m ρ=>(∃ x6,ρ=[some (.dat (jW w)),some (.dat (.list ((yk w).map jh))),some (.dat (.int n)),some (.dat (.int s.k)),some (.dat (.int s.i)),some (.dat (aj s.p s.q)),x6])/\∀ u∈((yk w).drop (n+1)).take m,yT w s u=false,⟨⟨_,rfl⟩,fun u hu=>by simp at hu⟩,?_,?_⟩
   ·rintro m d _ hd ⟨⟨x6,rfl⟩,hall⟩;obtain⟨t,h3,rfl⟩:=iN (F:=jh) hd;have tin:=DS h3;have tm:=cL (IP tin);refine zp (aZ (jA (zo (o,w,s,t) ?_)));walk_at "w";refine⟨_,hat,?_⟩;walk_at "w";rintro _ rfl;refine⟨_,rfl,?_⟩;dsimp only;have mb:=gy (w:=w) (kn t tin);refine z9 (fun h=>?_) fun h=>?_
    ·unfold jh;walk_at "w";refine fin (some (s,t)) ?_;unfold vB;rw [hlook,hs,e8 (m:=m+1) h3 (fun u hu=>?_) (by rw [mb];exact h)];rcases D0.mp hu with rfl | hu
     ·exact iO hpq
     ·exact hall u hu
    ·refine y3 ⟨⟨_,rfl⟩,fun u hu=>?_⟩;rw [EK,h3] at hu;rcases Ep.mp hu with hu | hu
     ·exact hall u hu
     ·cases Ej.mp (by simpa using hu);rw [mb];exact h
   ·rintro _ ⟨⟨x6,rfl⟩,hall⟩;refine⟨⟨_,_,_,_,_,rfl⟩,?_⟩;rw [hlook,hs];refine cM fun u hu=>?_;rcases D0.mp hu with rfl | hu
    ·exact iO hpq
    ·refine hall u ?_;rw [DM,Eu];exact hu
 ·rintro _ ⟨⟨x2,x3,x4,x5,x6,rfl⟩,hlook⟩;walk_at "w";refine fin none ?_;unfold vB;rw [hlook,jN,List.drop_length];rfl
noncomputable def eA (i:Fin 4):Fin 4:=if i=2 then 3 else if i=3 then 1 else 0
noncomputable def eB (i:Fin 4):Fin 4:=if i=0 then 1 else if i=1 then 3 else 2
noncomputable def flg (A B C D:Bool) (k:Fin 4):Bool:=if k=0 then A else if k=1 then B else if k=2 then C else D
noncomputable def hiE (A B C D:Bool) (i:Fin 4):Fin 4:=if flg A B C D (eA i)=true then eA i else eB i
noncomputable def loE (A B C D:Bool) (i:Fin 4):Fin 4:=if flg A B C D (eA i)=true then eB i else eA i
noncomputable def fA (i j a b:Fin 4):Bool:=(i == a && j == b) || (i == b && j == a)
noncomputable def vC (i j k:Fin 4):Bool:=if k=0 then fA i j 0 1 || fA i j 0 2 || fA i j 1 3 else if k=1 then fA i j 0 3 || fA i j 1 3 else if k=2 then fA i j 2 3 else fA i j 1 2 || fA i j 0 2
theorem AM:∀ A B C D M A' B' C' D' M':Bool,(A'=true->A=true)->(B'=true->B=true)->(C'=true->C=true)->(D'=true->D=true)->(M'=true->M=true)->∀ i j k l:Fin 4,prt (aF A B C D M) i=some j->prt (aF A' B' C' D' M') k=some l ->
  vC i j (hiE A' B' C' D' k)=vC i j (hiE A' B' C' D' l) \/ vC k l (loE A B C D i)=vC k l (loE A B C D j):=by decide +kernel
theorem tx:∀ (A B C D M:Bool) (i j k l:Fin 4),prt (aF A B C D M) i=some j->prt (aF A B C D M) k=some l->k≠i->k≠j->vC i j (eA k)=vC i j (eB k)/\vC i j (eA l)=vC i j (eB l)/\vC i j (eA k)=vC i j (eA l):=by decide +kernel
theorem wY:∀ i j k:Fin 4,i≠j->k≠i->k≠j->vC i j (eA k)=vC i j (eB k):=by decide
noncomputable def lp (s:Int) (i:Fin 4) (m:Int):Pt:=if i=0 then (m,0) else if i=1 then (0,m) else if i=2 then (m,s) else (s,m)
noncomputable def cp (s:Int) (k:Fin 4):Pt:=if k=0 then (0,0) else if k=1 then (s,0) else if k=2 then (s,s) else (0,s)
theorem four (i:Fin 4):i=0 \/ i=1 \/ i=2 \/ i=3:=by revert i;decide
noncomputable def sgn (b:Bool):Int:=if b=true then 1 else -1
theorem fe (s n:Int) (p q:Pt) (i:Fin 4):s * zv p q (lp s i n)=(s - n) * zv p q (cp s (eA i))+n * zv p q (cp s (eB i)):=by
 rcases four i with rfl | rfl | rfl | rfl <;> simp only [lp,cp,eA,eB,zv] <;> simp <;> grind
theorem v8 {s m n:Int} {i j:Fin 4} (ne:i≠j) (m0:0<m) (m1:m<s) (n0:0<n) (n1:n<s):∃ δ:Int,(δ=1 \/ δ=-1)/\∀ k,0<δ * (sgn (vC i j k) * zv (lp s i m) (lp s j n) (cp s k)):=by
 have p1:0<m * n:=EH m0 n0;have p2:0<m * (s - n):=EH m0 (by omega);have p3:0<n * (s - m):=EH n0 (by omega);have p4:0<(s - m) * (s - n):=EH (by omega) (by omega);have p5:0<s * m:=EH (by omega) m0;have p6:0<s * n:=EH (by omega) n0;have p7:0<s * (s - m):=EH (by omega) (by omega);have p8:0<s * (s - n):=EH (by omega) (by omega);have c1:n * m=m * n:=GH _ _;have c2:m * s=s * m:=GH _ _;have c3:n * s=s * n:=GH _ _;simp only [GB,Jj] at p2 p3 p4 p7 p8;rcases four i with rfl | rfl | rfl | rfl <;> rcases four j with rfl | rfl | rfl | rfl <;>
  first
  | exact absurd rfl ne
  | (refine⟨1,.inl rfl,fun k=>?_⟩;rcases four k with rfl | rfl | rfl | rfl <;> simp [sgn,vC,fA,lp,cp,zv,GB,Jj,IQ,IS] <;> omega)
  | (refine⟨-1,.inr rfl,fun k=>?_⟩;rcases four k with rfl | rfl | rfl | rfl <;> simp [sgn,vC,fA,lp,cp,zv,GB,Jj,IQ,IS] <;> omega)
theorem v9 {s t:Int} (hs:0<s) (h:0<s * t):0<t:=by
 rcases Fb t 0 with h1 | h1 | h1
 ·have:=FW hs h1;omega
 ·subst h1;simp at h
 ·exact h1
theorem aX {s m n r δ:Int} {i j k e:Fin 4} (ne:i≠j) (m0:0<m) (m1:m<s) (n0:0<n) (n1:n<s) (r0:0<r) (r1:r<s) (hδ:∀ k,0<δ * (sgn (vC i j k) * zv (lp s i m) (lp s j n) (cp s k)))
  (he:e=eA k \/ e=eB k) (hi:k=i->(e=eA k/\r<m) \/ (e=eB k/\m<r)) (hj:k=j->(e=eA k/\r<n) \/ (e=eB k/\n<r)):0<δ * (sgn (vC i j e) * zv (lp s i m) (lp s j n) (lp s k r)):=by
 have hs:0<s:=by omega
 have ha:=hδ (eA k);have hb:=hδ (eB k);have mid:=fe s r (lp s i m) (lp s j n) k;have z1:zv (lp s i m) (lp s j n) (lp s i m)=0:=by unfold zv;grind
 have z2:zv (lp s i m) (lp s j n) (lp s j n)=0:=by unfold zv;grind
 have mi:=fe s m (lp s i m) (lp s j n) i;have mj:=fe s n (lp s i m) (lp s j n) j;rw [z1] at mi;rw [z2] at mj;generalize lp s i m=p at *;generalize lp s j n=q at *;generalize zv p q (lp s k r)=T at *;have key:∀ (c:Int) (F G t:Int),s * T=(s - r) * F+r * G->0=s * 0->0<t->t<s->s * 0=(s - t) * F+t * G->(r<t->0<c * F->0<c * T)/\(t<r->0<c * G->0<c * T):=fun c F G t h _ t0 t1 h0=>by
  constructor
  ·intro hr hc;have e:s * (t * (c * T))=s * ((t - r) * (c * F)):=by grind
   have e2:t * (c * T)=(t - r) * (c * F):=GL (by omega) e;have:0<(t - r) * (c * F):=EH (by omega) hc;exact v9 t0 (e2▸this)
  ·intro hr hc;have e:s * ((s - t) * (c * T))=s * ((r - t) * (c * G)):=by grind
   have e2:(s - t) * (c * T)=(r - t) * (c * G):=GL (by omega) e;have:0<(r - t) * (c * G):=EH (by omega) hc;exact v9 (s:=s - t) (by omega) (e2▸this)
 have as:∀ x y:Int,δ * (x * y)=(δ * x) * y:=fun x y=>(I9 δ x y).symm;by_cases ki:k=i
 ·subst ki;rw [as] at ha hb ⊢;rcases hi rfl with⟨rfl,h⟩ | ⟨rfl,h⟩
  ·exact (key _ _ _ m mid (by simp) m0 m1 mi).1 h ha
  ·exact (key _ _ _ m mid (by simp) m0 m1 mi).2 h hb
 ·by_cases kj:k=j
  ·subst kj;rw [as] at ha hb ⊢;rcases hj rfl with⟨rfl,h⟩ | ⟨rfl,h⟩
   ·exact (key _ _ _ n mid (by simp) n0 n1 mj).1 h ha
   ·exact (key _ _ _ n mid (by simp) n0 n1 mj).2 h hb
  ·have c:=wY i j k ne ki kj;have ce:vC i j e=vC i j (eA k):=by rcases he with rfl | rfl;rfl;exact c.symm
   rw [<-c] at hb;rw [ce];rw [as] at ha hb ⊢;generalize δ * sgn (vC i j (eA k))=c at *;have e1:s * (c * T)=(s - r) * (c * zv p q (cp s (eA k)))+r * (c * zv p q (cp s (eB k))):=by grind
   have q1:0<(s - r) * (c * zv p q (cp s (eA k))):=EH (by omega) ha;have q2:0<r * (c * zv p q (cp s (eB k))):=EH r0 hb;exact v9 hs (by omega)
theorem dI {δ x y:Int} (hδ:δ=1 \/ δ=-1) {u v:Bool} (e:u=v) (hx:0<δ * (sgn u * x)) (hy:0<δ * (sgn v * y)):0<x * y:=by
 subst e;have:∀ c:Int,(c=1 \/ c=-1)->0<c * x->0<c * y->0<x * y:=fun c hc h1 h2=>by
  rcases hc with rfl | rfl
  ·exact EH (by omega) (by omega)
  ·exact FU (by omega) (by omega)
 refine this (δ * sgn u) ?_ (by rw [I9];exact hx) (by rw [I9];exact hy);unfold sgn;rcases hδ with rfl | rfl <;> cases u <;> simp
theorem m8 {a b c d:Pt} (h:0<zv a b c * zv a b d \/ 0<zv c d a * zv c d b):zy a b c d=false:=by
 unfold zy;rcases h with h | h
 ·rw [Jr (by omega:¬ zv a b c * zv a b d<=0),Fc,E1]
 ·rw [Jr (by omega:¬ zv c d a * zv c d b<=0),E1,E1]
theorem jw {a b c d:Pt} (h:(a.1<c.1/\a.1<d.1/\b.1<c.1/\b.1<d.1) \/ (a.2<c.2/\a.2<d.2/\b.2<c.2/\b.2<d.2)):zy a b c d=false:=by
 have k:∀ x y z u:Int,x<z->x<u->y<z->y<u->yi x y z u=true:=fun x y z u h1 h2 h3 h4=>by
  unfold yi;rw [Jq (show mx x y<mn z u by unfold mx mn;split <;> split <;> omega)];rfl
 unfold zy;rcases h with⟨h1,h2,h3,h4⟩ | ⟨h1,h2,h3,h4⟩
 ·rw [k _ _ _ _ h1 h2 h3 h4];rfl
 ·rw [k _ _ _ _ h1 h2 h3 h4,Jd];rfl
theorem vD (a b c d:Pt):zy a b c d=zy c d a b:=by
 unfold zy;have e:∀ x y z u:Int,yi x y z u=yi z u x y:=fun x y z u=>by unfold yi;exact Bool.or_comm _ _
 rw [e a.1,e a.2,Bool.and_comm (decide (zv a b c * zv a b d<=0))]
theorem ff (a b c d:Pt):zy a b c d=zy b a c d:=by
 have em:∀ x y:Int,mx x y=mx y x:=fun x y=>by unfold mx;split <;> split <;> omega
 have en:∀ x y:Int,mn x y=mn y x:=fun x y=>by unfold mn;split <;> split <;> omega
 have t1:zv b a c * zv b a d=zv a b c * zv a b d:=by unfold zv;grind
 unfold zy yi;rw [em a.1,en a.1,em a.2,en a.2,t1,GH (zv c d a)]
theorem gA (a b c d:Pt):zy a b c d=zy a b d c:=by rw [vD,ff,vD]
theorem lT {a b c d:Pt} (h1:c.1=a.1) (h2:b.1<a.1) (h3:c.1<d.1) (ne:a.2≠c.2):zy a b c d=false:=by
 cases h:zy a b c d with
 | false=>rfl
 | true =>
  exfalso;unfold zy at h;rw [DW,DW] at h;have f:=of_decide_eq_true h.2.1;have g:=of_decide_eq_true h.2.2;have e1:zv a b c=(b.1 - a.1) * (c.2 - a.2):=by unfold zv;rw [h1];grind
  have e2:zv c d a=(d.1 - c.1) * (a.2 - c.2):=by unfold zv;rw [h1];grind
  have e3:zv a b d - zv a b c=zv c d a - zv c d b:=by unfold zv;grind
  have neg:∀ x y:Int,x * y<=0->x<0->0<=y:=fun x y hxy hx=>by
   rcases Je y 0 with h | h
   ·have:=FU hx h;omega
   ·exact h
  have pos:∀ x y:Int,x * y<=0->0<x->y<=0:=fun x y hxy hx=>by
   rcases Je 0 y with h | h
   ·have:=EH hx h;omega
   ·exact h
  rcases Int.lt_or_gt_of_ne ne with lt | lt
  ·have q1:zv a b c<0:=by rw [e1];exact FV (by omega) (by omega)
   have q2:zv c d a<0:=by rw [e2];exact FW (by omega) (by omega)
   have:=neg _ _ f q1;have:=neg _ _ g q2;omega
  ·have q1:0<zv a b c:=by rw [e1];exact FU (by omega) (by omega)
   have q2:0<zv c d a:=by rw [e2];exact EH (by omega) (by omega)
   have:=pos _ _ f q1;have:=pos _ _ g q2;omega
theorem tD {a b c d:Pt} (h1:c.2=a.2) (h2:b.2<a.2) (h3:c.2<d.2) (ne:a.1≠c.1):zy a b c d=false:=by
 have k:=lT (a:=(a.2,a.1)) (b:=(b.2,b.1)) (c:=(c.2,c.1)) (d:=(d.2,d.1)) h1 h2 h3 ne;have t:∀ p q r:Pt,zv (p.2,p.1) (q.2,q.1) (r.2,r.1)=- zv p q r:=fun p q r=>by unfold zv;grind
 unfold zy at k ⊢;rw [t,t,t,t,Bool.or_comm,Int.neg_mul_neg,Int.neg_mul_neg] at k;exact k
theorem AN {a b c d:Pt} {X:Int} (ha:a.1<=X) (hb:b.1<=X) (hc:X<=c.1) (hd:X<=d.1) (h1:¬ (a.1=X/\b.1=X)) (h2:¬ (c.1=X/\d.1=X)) (n1:a≠c) (n2:a≠d) (n3:b≠c) (n4:b≠d):zy a b c d=false:=by
 have one:∀ {a b c d:Pt},a.1=X->b.1<X->X<=c.1->X<=d.1->¬ (c.1=X/\d.1=X)->a≠c->a≠d->zy a b c d=false:=fun {a b c d} ea eb hc hd h2 n1 n2=>by
  have two:∀ {c d:Pt},c.1=X->X<d.1->a≠c->zy a b c d=false:=fun {c d} ec ed n =>
   lT (by omega) (by omega) (by omega) fun z=>n (Ii (by omega) z)
  by_cases ec:c.1=X
  ·exact two ec (by omega) n1
  ·by_cases ed:d.1=X
   ·rw [gA];exact two ed (by omega) n2
   ·exact jw (.inl (by omega))
 by_cases ea:a.1=X
 ·exact one ea (by omega) hc hd h2 n1 n2
 ·by_cases eb:b.1=X
  ·rw [ff];exact one eb (by omega) hc hd h2 n3 n4
  ·exact jw (.inl (by omega))
theorem AO {a b c d:Pt} {X:Int} (ha:a.2<=X) (hb:b.2<=X) (hc:X<=c.2) (hd:X<=d.2) (h1:¬ (a.2=X/\b.2=X)) (h2:¬ (c.2=X/\d.2=X)) (n1:a≠c) (n2:a≠d) (n3:b≠c) (n4:b≠d):zy a b c d=false:=by
 have one:∀ {a b c d:Pt},a.2=X->b.2<X->X<=c.2->X<=d.2->¬ (c.2=X/\d.2=X)->a≠c->a≠d->zy a b c d=false:=fun {a b c d} ea eb hc hd h2 n1 n2=>by
  have two:∀ {c d:Pt},c.2=X->X<d.2->a≠c->zy a b c d=false:=fun {c d} ec ed n =>
   tD (by omega) (by omega) (by omega) fun z=>n (Ii z (by omega))
  by_cases ec:c.2=X
  ·exact two ec (by omega) n1
  ·by_cases ed:d.2=X
   ·rw [gA];exact two ed (by omega) n2
   ·exact jw (.inr (by omega))
 by_cases ea:a.2=X
 ·exact one ea (by omega) hc hd h2 n1 n2
 ·by_cases eb:b.2=X
  ·rw [ff];exact one eb (by omega) hc hd h2 n3 n4
  ·exact jw (.inr (by omega))
theorem dJ {p q r:Pt} (h:(p.1 - q.1) * (r.1 - q.1)<0 \/ (p.2 - q.2) * (r.2 - q.2)<0):vc p q r=false:=by
 unfold vc;by_cases t:zv p q r=0
 ·have e:(p.1 - q.1) * (r.2 - q.2)=(p.2 - q.2) * (r.1 - q.1):=by unfold zv at t;grind
  have key:∀ a b c d:Int,a * d=b * c->a * c<0->b * d<=0:=fun a b c d h1 h2=>by
   have h3:(a * c) * (b * d)=(a * d) * (a * d):=by grind
   have h4:0<=(a * d) * (a * d):=by
    rcases Int.le_total 0 (a * d) with z | z
    ·exact Int.mul_nonneg z z
    ·exact Int.mul_nonneg_of_nonpos_of_nonpos z z
   rcases Je 0 (b * d) with z | z
   ·have:=FV h2 z;omega
   ·exact z
  rw [Jr (p:=_ > 0),E1];rcases h with h | h
  ·have:=key _ _ _ _ e h;omega
  ·have:=key (p.2 - q.2) (p.1 - q.1) (r.2 - q.2) (r.1 - q.1) (by grind) h;omega
 ·rw [Jr t,Fc]
noncomputable def hcr (Jm:List (List Int)) (x y:Int) (k:Fin 4):Int:=zK Jm (if k=0 \/ k=3 then x else x+1) (if k=0 \/ k=1 then y else y+1)
theorem wZ {Jm:List (List Int)} {wd:Nat} {s:Nat} (gd:Good wd Jm) (hw:wd<=4) (hh:Jm.length<=4) (h:Lcm (jJ Jm wd) s):s<2 ^ 2100:=by
 have b1:∀ d∈jJ Jm wd,d<2 ^ 32:=fun d hd=>by
  obtain⟨p,hp,hd⟩:=Ew.mp hd;obtain⟨q,hq,rfl⟩:=Ee.mp hd;have iq:yn Jm wd q.1 q.2=true:=(E3.mp hq).2;obtain⟨a1,a2,a3,a4⟩:=vz.mp hp;have ip:yn Jm wd p.1 p.2=true:=by
   unfold yn;rw [Jq (by omega),Jq (by omega)];rfl
  have c1:=vA gd ip;have c2:=vA gd iq;unfold gap;omega
 have b2:(jJ Jm wd).length<=64:=by
  have f1:∀ p,(vj Jm wd p).length<=4:=fun p=>by
   unfold vj;rw [DM];exact Em (EV _ _) (by show 4<=4;decide)
  have f2:=vJ f1 (v5 Jm.length wd);have f3:(v5 Jm.length wd).length<=16:=by
   have f4:∀ x:Nat,((Ec Jm.length).map fun (y:Nat)=>((x:Int),(y:Int))).length<=Jm.length:=fun x=>by rw [DM,EJ];exact DU _
   have f5:=vJ f4 (Ec wd);rw [EJ] at f5;have f6:Jm.length * wd<=4 * 4:=Ge hh hw;unfold v5;omega
  unfold jJ;omega
 exact HG (wL b1 h) (GA (by decide) (by omega))
theorem tE {Jm:List (List Int)} {wd:Nat} {cut:Int} {g:Gt} {s:Nat} (h:Lcm (jJ Jm wd) s) (o:opG Jm wd cut g=true) :
  ∃ m:Int,(s:Int) * TT Jm cut g.1 g.2.1=BB Jm g.1 g.2.1 g.2.2 * m/\scP Jm cut s g=(s * g.1+m * (1 - g.2.2),s * g.2.1+m * g.2.2):=by
 obtain⟨c,hc⟩:=AI h o;have nz:=lI o;have q0:((shQ Jm cut g).den:Int)≠0:=by have:=(shQ Jm cut g).den_nz;omega
 have e:(shQ Jm cut g).num * BB Jm g.1 g.2.1 g.2.2=TT Jm cut g.1 g.2.1 * ((shQ Jm cut g).den:Int):=by
  have:=Rat.num_divInt_den (shQ Jm cut g);unfold shQ at this;exact (Rat.divInt_eq_divInt_iff q0 nz).mp this
 refine⟨(shQ Jm cut g).num * c,?_,?_⟩
 ·have hs:(s:Int)=((shQ Jm cut g).den:Int) * (c:Int):=by rw [hc,Int.natCast_mul]
  rw [hs,show ((shQ Jm cut g).den:Int) * (c:Int) * TT Jm cut g.1 g.2.1=(TT Jm cut g.1 g.2.1 * ((shQ Jm cut g).den:Int)) * (c:Int) by grind,<- e];grind
 ·have hs:(s:Int)=((shQ Jm cut g).den:Int) * (c:Int):=by rw [hc,Int.natCast_mul]
  unfold scP plT;rw [hs];generalize ((shQ Jm cut g).den:Int)=D at *;generalize (shQ Jm cut g).num=N at *;have key:∀ a:Int,D * a / D=a:=fun a=>GX a q0;rcases w01 o with hw | hw
  ·rw [Jp hw];dsimp only;rw [hw,show (g.1 * D+N) * (D * c)=D * (D * c * g.1+N * c) by grind,show g.2.1 * D * (D * c)=D * (D * c * g.2.1) by grind,key,key];refine Ii ?_ ?_
   ·dsimp only;grind
   ·dsimp only;grind
  ·have:¬ g.2.2=0:=by omega
   rw [Jo this];dsimp only;rw [hw,show g.1 * D * (D * c)=D * (D * c * g.1) by grind,show (g.2.1 * D+N) * (D * c)=D * (D * c * g.2.1+N * c) by grind,key,key];refine Ii ?_ ?_
   ·dsimp only;grind
   ·dsimp only;grind
section
variable {Jm:List (List Int)} {wd:Nat} {s:Nat}
theorem cj (L:Lcm (jJ Jm wd) s) {cut:Int} {g:Gt} (o:opG Jm wd cut g=true):∃ m:Int,0<m/\m<s/\(s:Int) * TT Jm cut g.1 g.2.1=BB Jm g.1 g.2.1 g.2.2 * m/\scP Jm cut s g=(s * g.1+m * (1 - g.2.2),s * g.2.1+m * g.2.2):=by
 obtain⟨m,h1,h2⟩:=tE L o;have hs:0<(s:Int):=by have:=L.1;omega
 refine⟨m,?_,?_,h1,h2⟩
 ·rcases aI o with⟨a,b⟩ | ⟨a,b⟩
  ·exact v9 (s:=BB Jm g.1 g.2.1 g.2.2) (by omega) (h1▸EH hs a)
  ·have:0 < -BB Jm g.1 g.2.1 g.2.2 * m:=by
    rw [IQ,<- h1,<- IS];exact EH hs (by omega)
   exact v9 (s:=-BB Jm g.1 g.2.1 g.2.2) (by omega) this
 ·have e:BB Jm g.1 g.2.1 g.2.2 * ((s:Int) - m)=s * (BB Jm g.1 g.2.1 g.2.2 - TT Jm cut g.1 g.2.1):=by
   rw [GB,<- h1,GB,GH]
  rcases aI o with⟨a,b⟩ | ⟨a,b⟩
  ·have:=v9 (s:=BB Jm g.1 g.2.1 g.2.2) (t:=(s:Int) - m) (by omega) (e▸EH hs (by omega));omega
  ·have e2:-BB Jm g.1 g.2.1 g.2.2 * ((s:Int) - m)=s * (TT Jm cut g.1 g.2.1 - BB Jm g.1 g.2.1 g.2.2):=by
    rw [IQ,e,<- IS,Int.neg_sub]
   have:=v9 (s:=-BB Jm g.1 g.2.1 g.2.2) (t:=(s:Int) - m) (by omega) (e2▸EH hs (by omega));omega
theorem gB (L:Lcm (jJ Jm wd) s) {c c':Int} {g g':Gt} (o:opG Jm wd c g=true) (o':opG Jm wd c' g'=true) (h:scP Jm c s g=scP Jm c' s g'):g=g'/\c=c':=by
 obtain⟨m,m0,m1,e,p⟩:=cj L o;obtain⟨n,n0,n1,e',p'⟩:=cj L o';have hs:0<(s:Int):=by have:=L.1;omega
 rw [p,p'] at h;have h1:=congrArg Ja h;have h2:=congrArg Prod.snd h;obtain⟨x,y,w⟩:=g;obtain⟨x',y',w'⟩:=g';dsimp only at h1 h2 e e';have key:∀ a b u v:Int,0<=u->u<s->0<=v->v<s->(s:Int) * a+u=s * b+v->a=b:=fun a b u v u0 u1 v0 v1 hh=>by
  rcases Fb a b with z | z | z
  ·have:(s:Int) * (a+1)<=s * b:=Fv (by omega) (by omega);rw [Hv] at this;omega
  ·exact z
  ·have:(s:Int) * (b+1)<=s * a:=Fv (by omega) (by omega);rw [Hv] at this;omega
 have fin:∀ {x y w:Int},opG Jm wd c (x,y,w)=true->(s:Int) * TT Jm c x y=BB Jm x y w * m->(s:Int) * TT Jm c' x y=BB Jm x y w * m->c=c':=fun {x y w} _ a b=>by
  have:=GL (by omega) (a.trans b.symm);unfold TT at this;omega
 rcases w01 o with rfl | rfl <;> rcases w01 o' with rfl | rfl
 ·have a:=key x x' m n (by omega) m1 (by omega) n1 (by omega);have b:=key y y' 0 0 (by omega) hs (by omega) hs (by omega);subst a b;have:m=n:=by omega
  subst this;exact⟨rfl,fin o e e'⟩
 ·exfalso;have b:=key y y' 0 n (by omega) hs (by omega) n1 (by omega);subst b;omega
 ·exfalso;have b:=key y y' m 0 (by omega) m1 (by omega) hs (by omega);subst b;omega
 ·have a:=key x x' 0 0 (by omega) hs (by omega) hs (by omega);have b:=key y y' m n (by omega) m1 (by omega) n1 (by omega);subst a b;have:m=n:=by omega
  subst this;exact⟨rfl,fin o e e'⟩
noncomputable def mv (s x y:Int) (p:Pt):Pt:=(s * x+p.1,s * y+p.2)
theorem aa (s x y:Int) (p q r:Pt):zv (mv s x y p) (mv s x y q) (mv s x y r)=zv p q r:=by unfold zv mv;grind
theorem yO (L:Lcm (jJ Jm wd) s) {x y cut:Int} {i:Fin 4} (o:opG Jm wd cut (gt x y i)=true):∃ m:Int,0<m/\m<s/\(s:Int) * (2 * cut+1 - 2 * hcr Jm x y (eA i))=2 * (hcr Jm x y (eB i) - hcr Jm x y (eA i)) * m/\scP Jm cut s (gt x y i)=mv s x y (lp s i m):=by
 obtain⟨m,m0,m1,e,p⟩:=cj L o;refine⟨m,m0,m1,?_,?_⟩
 ·rcases four i with rfl | rfl | rfl | rfl <;> exact e
 ·rw [p];rcases four i with rfl | rfl | rfl | rfl <;> simp [gt,mv,lp] <;> grind
theorem m9 (cut x y:Int) (k:Fin 4):flg (hiB Jm cut x y) (hiB Jm cut (x+1) y) (hiB Jm cut (x+1) (y+1)) (hiB Jm cut x (y+1)) k=decide (cut<hcr Jm x y k):=by
 rcases four k with rfl | rfl | rfl | rfl <;> rfl
theorem dM {x y cut:Int} (hc:z7 Jm wd x y=true) {i:Fin 4} (o:opG Jm wd cut (gt x y i)=true):decide (cut<hcr Jm x y (eA i))=!decide (cut<hcr Jm x y (eB i)):=by
 rw [bE hc] at o;rw [<-m9,<- m9]
 revert o
 generalize hiB Jm cut x y=A;generalize hiB Jm cut (x+1) y=B;generalize hiB Jm cut (x+1) (y+1)=C;generalize hiB Jm cut x (y+1)=D
 revert A B C D i
 decide
theorem way {cut cut':Int} (lt:cut<cut') (hs:0<(s:Int)) {a b m n:Int} (e:(s:Int) * (2 * cut+1 - 2 * a)=2 * (b - a) * m) (e':(s:Int) * (2 * cut'+1 - 2 * a)=2 * (b - a) * n) (h':decide (cut'<a)=!decide (cut'<b)):(cut'<a->n<m)/\(¬ cut'<a->m<n):=by
 have d:2 * (b - a) * (n - m)=s * (2 * (cut' - cut)):=by rw [GB,<- e,<- e',<- GB];congr 1;omega
 have pos:0<2 * (b - a) * (n - m):=by rw [d];exact EH hs (by omega)
 constructor
 ·intro h;rw [Jq h] at h';have hb:¬ cut'<b:=fun z=>by rw [Jq z] at h';cases h'
  have:0<(2 * (a - b)) * (m - n):=by rw [show 2 * (a - b) * (m - n)=2 * (b - a) * (n - m) by grind];exact pos
  have:=v9 (by omega) this;omega
 ·intro h;rw [Jr h] at h';have hb:cut'<b:=Fs fun z=>by rw [Jr z] at h';cases h'
  have:=v9 (by omega) pos;omega
end
section
variable {Jm:List (List Int)} {wd:Nat} {s:Nat}
structure SgAt (Jm:List (List Int)) (wd:Nat) (cut:Int) (g n:Gt) (x y:Int) (i j:Fin 4):Prop where
 c:z7 Jm wd x y=true
 gi:g=gt x y i
 nj:n=gt x y j
 tie:prt (t4 Jm cut x y) i=some j
 og:opG Jm wd cut g=true
 on:opG Jm wd cut n=true
 ne:i≠j
theorem seg_at {cut:Int} {g n:Gt} (o:opG Jm wd cut g=true) (h:yh Jm wd cut g=some n):∃ i j,SgAt Jm wd cut g n (ahC Jm cut g).1 (ahC Jm cut g).2 i j:=by
 obtain⟨on,nn⟩:=vx o h;have c:z7 Jm wd (ahC Jm cut g).1 (ahC Jm cut g).2=true:=by
  unfold yh at h;by_cases z:z7 Jm wd (ahC Jm cut g).1 (ahC Jm cut g).2=true
  ·exact z
  ·rw [Jo z] at h;cases h
 obtain⟨i,ei⟩:=lA (Jm:=Jm) (cut:=cut) g (vZ o);unfold yh at h;rw [Jp c] at h;generalize (ahC Jm cut g).1=x at *;generalize (ahC Jm cut g).2=y at *;rw [ei] at h;unfold vi at h;rw [iC fun _ _=>eV] at h;cases q:prt (t4 Jm cut x y) i with
 | none=>rw [q] at h;cases h
 | some j =>
  rw [q] at h;cases h;exact⟨i,j,c,ei,rfl,q,o,on,fun z=>nn (show gt x y j=g from z▸ei.symm)⟩
theorem dN {x y cut:Int} (i:Fin 4):(hiE (hiB Jm cut x y) (hiB Jm cut (x+1) y) (hiB Jm cut (x+1) (y+1)) (hiB Jm cut x (y+1)) i=if cut<hcr Jm x y (eA i) then eA i else eB i)/\(loE (hiB Jm cut x y) (hiB Jm cut (x+1) y) (hiB Jm cut (x+1) (y+1)) (hiB Jm cut x (y+1)) i=if cut<hcr Jm x y (eA i) then eB i else eA i):=by
 unfold hiE loE;rw [m9];by_cases h:cut<hcr Jm x y (eA i)
 ·rw [Jq h,Jp rfl,Jp rfl,Jp h,Jp h];exact⟨rfl,rfl⟩
 ·rw [Jr h,Jo DL,Jo DL,Jo h,Jo h];exact⟨rfl,rfl⟩
theorem o3 (L:Lcm (jJ Jm wd) s) {cut cut' x y:Int} (lt:cut<cut') {g n g' n':Gt} {i j k l:Fin 4} (S:SgAt Jm wd cut g n x y i j) (S':SgAt Jm wd cut' g' n' x y k l):zy (scP Jm cut s g) (scP Jm cut s n) (scP Jm cut' s g') (scP Jm cut' s n')=false:=by
 have hs:0<(s:Int):=by have:=L.1;omega
 have oi:=S.gi▸S.og;have oj:=S.nj▸S.on;have ok:=S'.gi▸S'.og;have ol:=S'.nj▸S'.on;obtain⟨mi,a1,a2,a3,a4⟩:=yO L oi;obtain⟨mj,b1,b2,b3,b4⟩:=yO L oj;obtain⟨mk,c1,c2,c3,c4⟩:=yO L ok;obtain⟨ml,d1,d2,d3,d4⟩:=yO L ol;have up:∀ p q:Int,hiB Jm cut' p q=true->hiB Jm cut p q=true:=fun p q h=>by
  unfold hiB at h ⊢;have:=of_decide_eq_true h;exact Jq (by omega)
 have um:cI Jm cut' x y=true->cI Jm cut x y=true:=fun h=>by
  unfold cI at h ⊢;have:=of_decide_eq_true h;exact Jq (by omega)
 have cert:=AM _ _ _ _ _ _ _ _ _ _ (up x y) (up (x+1) y) (up (x+1) (y+1)) (up x (y+1)) um i j k l S.tie S'.tie;rw [S.gi,S.nj,S'.gi,S'.nj,a4,b4,c4,d4];refine m8 ?_;rw [aa,aa,aa,aa]
 -- towards the higher end,seen from the lower chord
 have hiw:∀ {p:Fin 4} {m n:Int} (_:(s:Int) * (2 * cut+1 - 2 * hcr Jm x y (eA p))=2 * (hcr Jm x y (eB p) - hcr Jm x y (eA p)) * m) (_:(s:Int) * (2 * cut'+1 - 2 * hcr Jm x y (eA p))=2 * (hcr Jm x y (eB p) - hcr Jm x y (eA p)) * n) (_:opG Jm wd cut' (gt x y p)=true) {e:Fin 4},e=(if cut'<hcr Jm x y (eA p) then eA p else eB p)->(e=eA p/\n<m) \/ (e=eB p/\m<n):=fun {p m n} q1 q2 o {e} he=>by
  obtain⟨w1,w2⟩:=way lt hs q1 q2 (dM S.c o);by_cases z:cut'<hcr Jm x y (eA p)
  ·rw [Jp z] at he;exact .inl ⟨he,w1 z⟩
  ·rw [Jo z] at he;exact .inr ⟨he,w2 z⟩
 -- towards the lower end,seen from the higher chord
 have low:∀ {p:Fin 4} {m n:Int} (_:(s:Int) * (2 * cut+1 - 2 * hcr Jm x y (eA p))=2 * (hcr Jm x y (eB p) - hcr Jm x y (eA p)) * m) (_:(s:Int) * (2 * cut'+1 - 2 * hcr Jm x y (eA p))=2 * (hcr Jm x y (eB p) - hcr Jm x y (eA p)) * n) (_:opG Jm wd cut (gt x y p)=true) (_:opG Jm wd cut' (gt x y p)=true) {e:Fin 4},e=(if cut<hcr Jm x y (eA p) then eB p else eA p)->(e=eA p/\m<n) \/ (e=eB p/\n<m):=fun {p m n} q1 q2 o o' {e} he=>by
  obtain⟨w1,w2⟩:=way lt hs q1 q2 (dM S.c o');have q3:=dM S.c o;have q4:=dM S.c o';by_cases z:cut<hcr Jm x y (eA p)
  ·rw [Jp z] at he;refine .inr ⟨he,w1 (Fs fun y'=>?_)⟩;rw [Jq z] at q3;rw [Jr y'] at q4;have z1:¬ cut<hcr Jm x y (eB p):=fun t=>by rw [Jq t] at q3;cases q3
   have z2:cut'<hcr Jm x y (eB p):=Fs fun t=>by rw [Jr t] at q4;cases q4
   omega
  ·rw [Jo z] at he;exact .inl ⟨he,w2 (by omega)⟩
 have ends:∀ (c:Prop) [Decidable c] (p:Fin 4),(if c then eA p else eB p)=eA p \/ (if c then eA p else eB p)=eB p:=fun c _ p=>by by_cases z:c;exact .inl (Jp z);exact .inr (Jo z)
 have ends2:∀ (c:Prop) [Decidable c] (p:Fin 4),(if c then eB p else eA p)=eA p \/ (if c then eB p else eA p)=eB p:=fun c _ p=>by by_cases z:c;exact .inr (Jp z);exact .inl (Jo z)
 rcases cert with ce | ce
 ·left;obtain⟨δ,hδ,hS⟩:=v8 (s:=s) S.ne a1 a2 b1 b2;rw [(dN k).1,(dN l).1] at ce;refine dI hδ ce (aX S.ne a1 a2 b1 b2 c1 c2 hS (ends _ k) (fun z=>?_) fun z=>?_) (aX S.ne a1 a2 b1 b2 d1 d2 hS (ends _ l) (fun z=>?_) fun z=>?_)
  ·subst z;exact hiw a3 c3 ok rfl
  ·subst z;exact hiw b3 c3 ok rfl
  ·subst z;exact hiw a3 d3 ol rfl
  ·subst z;exact hiw b3 d3 ol rfl
 ·right;obtain⟨δ,hδ,hS⟩:=v8 (s:=s) S'.ne c1 c2 d1 d2;rw [(dN i).2,(dN j).2] at ce;refine dI hδ ce (aX S'.ne c1 c2 d1 d2 a1 a2 hS (ends2 _ i) (fun z=>?_) fun z=>?_) (aX S'.ne c1 c2 d1 d2 b1 b2 hS (ends2 _ j) (fun z=>?_) fun z=>?_)
  ·subst z;exact low a3 c3 oi ok rfl
  ·subst z;exact low a3 d3 oi ol rfl
  ·subst z;exact low b3 c3 oj ok rfl
  ·subst z;exact low b3 d3 oj ol rfl
theorem tF (L:Lcm (jJ Jm wd) s) {cut x y:Int} {g n g' n':Gt} {i j k l:Fin 4} (S:SgAt Jm wd cut g n x y i j) (S':SgAt Jm wd cut g' n' x y k l) (n1:k≠i) (n2:k≠j) (n3:l≠i) (n4:l≠j):zy (scP Jm cut s g) (scP Jm cut s n) (scP Jm cut s g') (scP Jm cut s n')=false:=by
 obtain⟨mi,a1,a2,a3,a4⟩:=yO L (S.gi▸S.og);obtain⟨mj,b1,b2,b3,b4⟩:=yO L (S.nj▸S.on);obtain⟨mk,c1,c2,c3,c4⟩:=yO L (S'.gi▸S'.og);obtain⟨ml,d1,d2,d3,d4⟩:=yO L (S'.nj▸S'.on);obtain⟨e1,e2,e3⟩:=tx _ _ _ _ _ i j k l S.tie S'.tie n1 n2;rw [S.gi,S.nj,S'.gi,S'.nj,a4,b4,c4,d4];refine m8 (.inl ?_);rw [aa,aa];obtain⟨δ,hδ,hS⟩:=v8 (s:=s) S.ne a1 a2 b1 b2;exact dI hδ e3 (aX S.ne a1 a2 b1 b2 c1 c2 hS (.inl rfl) (fun z=>absurd z n1) fun z=>absurd z n2) (aX S.ne a1 a2 b1 b2 d1 d2 hS (.inl rfl) (fun z=>absurd z n3) fun z=>absurd z n4)
structure Box (s:Int) (x y:Int) (p q:Pt):Prop where
 p1:s * x<=p.1
 p2:p.1<=s * (x+1)
 p3:s * y<=p.2
 p4:p.2<=s * (y+1)
 q1:s * x<=q.1
 q2:q.1<=s * (x+1)
 q3:s * y<=q.2
 q4:q.2<=s * (y+1)
 x0:¬ (p.1=s * x/\q.1=s * x)
 x1:¬ (p.1=s * (x+1)/\q.1=s * (x+1))
 y0:¬ (p.2=s * y/\q.2=s * y)
 y1:¬ (p.2=s * (y+1)/\q.2=s * (y+1))
theorem ni (L:Lcm (jJ Jm wd) s) {cut x y:Int} {g n:Gt} {i j:Fin 4} (S:SgAt Jm wd cut g n x y i j):Box s x y (scP Jm cut s g) (scP Jm cut s n):=by
 obtain⟨mi,a1,a2,a3,a4⟩:=yO L (S.gi▸S.og);obtain⟨mj,b1,b2,b3,b4⟩:=yO L (S.nj▸S.on);have ne:=S.ne;rw [S.gi,S.nj,a4,b4];have ex:(s:Int) * (x+1)=s * x+s:=by rw [Hv,Hm]
 have ey:(s:Int) * (y+1)=s * y+s:=by rw [Hv,Hm]
 rcases four i with rfl | rfl | rfl | rfl <;> rcases four j with rfl | rfl | rfl | rfl <;>
  first
  | exact absurd rfl ne
  | (constructor <;> simp [mv,lp] <;> omega)
theorem w4 {x y x' y':Int} {p q p' q':Pt} (hs:0<(s:Int)) (B:Box s x y p q) (B':Box s x' y' p' q') (ne:(x,y)≠(x',y')) (n1:p≠p') (n2:p≠q') (n3:q≠p') (n4:q≠q'):zy p q p' q'=false:=by
 have mono:∀ a b:Int,a<b->(s:Int) * (a+1)<=s * b:=fun a b h=>Fv (by omega) (by omega);have go:∀ {x y x' y':Int} {p q p' q':Pt},Box s x y p q->Box s x' y' p' q'->p≠p'->p≠q'->q≠p'->q≠q'->(x<x' \/ y<y')->zy p q p' q'=false:=fun {x y x' y' p q p' q'} B B' n1 n2 n3 n4 h=>by
  rcases h with h | h
  ·have m:=mono _ _ h;exact AN (X:=s * (x+1)) B.p2 B.q2 (by have:=B'.p1;omega) (by have:=B'.q1;omega) B.x1 (fun⟨z1,z2⟩=>B'.x0 ⟨by have:=B'.p1;omega,by have:=B'.q1;omega⟩) n1 n2 n3 n4
  ·have m:=mono _ _ h;exact AO (X:=s * (y+1)) B.p4 B.q4 (by have:=B'.p3;omega) (by have:=B'.q3;omega) B.y1 (fun⟨z1,z2⟩=>B'.y0 ⟨by have:=B'.p3;omega,by have:=B'.q3;omega⟩) n1 n2 n3 n4
 by_cases h:x<x' \/ y<y'
 ·exact go B B' n1 n2 n3 n4 h
 ·rw [vD];refine go B' B (EW n1) (EW n3) (EW n2) (EW n4) ?_;by_cases e:x=x'
  ·exact .inr (Fs fun z=>ne (Ii e (show y=y' by omega)))
  ·omega
theorem AQ (L:Lcm (jJ Jm wd) s) {cut cut':Int} {g n g' n':Gt} (o:opG Jm wd cut g=true) (h:yh Jm wd cut g=some n) (o':opG Jm wd cut' g'=true) (h':yh Jm wd cut' g'=some n') (ne:cut=cut'->g≠g'/\g≠n'/\n≠g'/\n≠n') :
  zy (scP Jm cut s g) (scP Jm cut s n) (scP Jm cut' s g') (scP Jm cut' s n')=false:=by
 obtain⟨i,j,S⟩:=seg_at o h;obtain⟨k,l,S'⟩:=seg_at o' h';have hs:0<(s:Int):=by have:=L.1;omega
 have B:=ni L S;have B':=ni L S';generalize (ahC Jm cut g).1=x at *;generalize (ahC Jm cut g).2=y at *;generalize (ahC Jm cut' g').1=x' at *;generalize (ahC Jm cut' g').2=y' at *;by_cases e:(x,y)=(x',y')
 ·cases e;rcases Fb cut cut' with lt | rfl | lt
  ·exact o3 L lt S S'
  ·obtain⟨n1,n2,n3,n4⟩:=ne rfl;refine tF L S S' (fun z=>n1 ?_) (fun z=>n3 ?_) (fun z=>n2 ?_) fun z=>n4 ?_
   ·rw [S.gi,S'.gi,z]
   ·rw [S.nj,S'.gi,z]
   ·rw [S.gi,S'.nj,z]
   ·rw [S.nj,S'.nj,z]
  ·rw [vD];exact o3 L lt S' S
 ·have d:∀ {u v:Gt},opG Jm wd cut u=true->opG Jm wd cut' v=true->(cut=cut'->u≠v)->scP Jm cut s u≠scP Jm cut' s v:=fun a b c z=>by
   obtain⟨z1,z2⟩:=gB L a b z;exact c z2 z1
  exact w4 hs B B' e (d S.og S'.og fun z=>(ne z).1) (d S.og S'.on fun z=>(ne z).2.1) (d S.on S'.og fun z=>(ne z).2.2.1) (d S.on S'.on fun z=>(ne z).2.2.2)
theorem CF (L:Lcm (jJ Jm wd) s) {cut:Int} {g n:Gt} (o:opG Jm wd cut g=true) (h:yh Jm wd cut g=some n) (u v:Int):zy (scP Jm cut s g) (scP Jm cut s n) (s * u,s * v) (s * u,s * v)=false:=by
 obtain⟨i,j,S⟩:=seg_at o h;have hs:0<(s:Int):=by have:=L.1;omega
 have B:=ni L S;generalize (ahC Jm cut g).1=x at *;generalize (ahC Jm cut g).2=y at *;have mono:∀ a b:Int,a<b->(s:Int) * (a+1)<=s * b:=fun a b h=>Fv (by omega) (by omega);have st:∀ a:Int,(s:Int) * (a+1)=s * a+s:=fun a=>by rw [Hv,Hm]
 obtain⟨p1,p2,p3,p4,q1,q2,q3,q4,-,-,-,-⟩:=B;have sx:=st x;have sy:=st y;by_cases h1:u<x
 ·have:=mono _ _ h1;have:=st u;rw [vD];exact jw (.inl (by dsimp only;omega))
 by_cases h2:x+1<u
 ·have:=mono _ _ h2;have:=st (x+1);exact jw (.inl (by dsimp only;omega))
 by_cases h3:v<y
 ·have:=mono _ _ h3;have:=st v;rw [vD];exact jw (.inr (by dsimp only;omega))
 by_cases h4:y+1<v
 ·have:=mono _ _ h4;have:=st (y+1);exact jw (.inr (by dsimp only;omega))
 obtain⟨k,hk⟩:∃ k:Fin 4,((s:Int) * u,(s:Int) * v)=mv s x y (cp s k):=by
  have hu:u=x \/ u=x+1:=by omega
  have hv:v=y \/ v=y+1:=by omega
  rcases hu with rfl | rfl <;> rcases hv with rfl | rfl
  ·exact⟨0,by simp [mv,cp]⟩
  ·exact⟨3,by simp [mv,cp];omega⟩
  ·exact⟨1,by simp [mv,cp];omega⟩
  ·exact⟨2,by simp [mv,cp];omega⟩
 obtain⟨mi,a1,a2,a3,a4⟩:=yO L (S.gi▸S.og);obtain⟨mj,b1,b2,b3,b4⟩:=yO L (S.nj▸S.on);rw [hk,S.gi,S.nj,a4,b4];refine m8 (.inl ?_);rw [aa];obtain⟨δ,hδ,hS⟩:=v8 (s:=s) S.ne a1 a2 b1 b2;exact dI hδ rfl (hS k) (hS k)
theorem o4 (L:Lcm (jJ Jm wd) s) {cut:Int} {g n m:Gt} (o:opG Jm wd cut g=true) (h:yh Jm wd cut g=some n) (h':yh Jm wd cut n=some m):vc (scP Jm cut s g) (scP Jm cut s n) (scP Jm cut s m)=false:=by
 obtain⟨i,j,S⟩:=seg_at o h;obtain⟨k,l,S'⟩:=seg_at S.on h';have hs:0<(s:Int):=by have:=L.1;omega
 have bh:bhC Jm cut n=ahC Jm cut g:=by
  obtain⟨n',e1,_,_,e2,_⟩:=v3 o S.c;rw [h] at e1;cases e1;exact e2
 have ne:ahC Jm cut n≠bhC Jm cut n:=by
  unfold ahC bhC qL qM;intro z;have z1:=congrArg Ja z;have z2:=congrArg Prod.snd z
  revert z1 z2
  rcases vZ S.on with w | w
  ·rw [w];cases hiB Jm cut n.1 n.2.1 <;> simp <;> omega
  ·rw [w];cases hiB Jm cut n.1 n.2.1 <;> simp <;> omega
 rw [bh] at ne;obtain⟨mi,a1,a2,a3,a4⟩:=yO L (S.gi▸S.og);obtain⟨mj,b1,b2,b3,b4⟩:=yO L (S.nj▸S.on);obtain⟨ml,d1,d2,d3,d4⟩:=yO L (S'.nj▸S'.on);have e1:=S.nj;have e2:=S'.gi;have n1:=S.ne;have n2:=S'.ne;have ea:scP Jm cut s g=mv s (ahC Jm cut g).1 (ahC Jm cut g).2 (lp s i mi):=(congrArg _ S.gi).trans a4;have eb:scP Jm cut s n=mv s (ahC Jm cut g).1 (ahC Jm cut g).2 (lp s j mj):=(congrArg _ S.nj).trans b4;have ed:scP Jm cut s m=mv s (ahC Jm cut n).1 (ahC Jm cut n).2 (lp s l ml):=(congrArg _ S'.nj).trans d4;rw [ea,eb,ed];clear ea eb ed;have pair:(ahC Jm cut n)=((ahC Jm cut n).1,(ahC Jm cut n).2):=rfl;have pair2:(ahC Jm cut g)=((ahC Jm cut g).1,(ahC Jm cut g).2):=rfl;rw [pair,pair2] at ne;generalize (ahC Jm cut g).1=x at *;generalize (ahC Jm cut g).2=y at *;generalize (ahC Jm cut n).1=x' at *;generalize (ahC Jm cut n).2=y' at *;have eq:=e1.symm.trans e2;clear a3 a4 b3 b4 d3 d4 bh pair pair2 S S' h h' o e1 e2;have sx:∀ a:Int,(s:Int) * (a+1)=s * a+s:=fun a=>by rw [Hv,Hm]
 have sy:∀ a:Int,(s:Int) * (a - 1)=s * a - s:=fun a=>by rw [GB,Hm]
 have ng:∀ a b:Int,(a<0/\0<b) \/ (0<a/\b<0)->a * b<0:=fun a b h=>by
  rcases h with⟨h1,h2⟩ | ⟨h1,h2⟩
  ·exact FV h1 h2
  ·exact FW h1 h2
 have g1:=congrArg Ja eq;have g2:=congrArg (fun z=>z.2.1) eq;have g3:=congrArg (fun z=>z.2.2) eq;clear eq;have key:¬ (x'=x/\y'=y):=fun⟨a,b⟩=>ne (by rw [a,b]);have case2:∀ (i l:Fin 4),((i≠0->l≠2->y'=y - 1->((mv s x y (lp s i mi)).2 - (mv s x y (lp s 0 mj)).2) * ((mv s x' y' (lp s l ml)).2 - (mv s x y (lp s 0 mj)).2)<0))/\((i≠2->l≠0->y'=y+1->((mv s x y (lp s i mi)).2 - (mv s x y (lp s 2 mj)).2) * ((mv s x' y' (lp s l ml)).2 - (mv s x y (lp s 2 mj)).2)<0)):=fun i l=>by
  constructor
  ·rintro h1 h2 rfl;refine ng _ _ (.inr ?_);rcases four i with rfl | rfl | rfl | rfl <;> rcases four l with rfl | rfl | rfl | rfl <;> first | exact absurd rfl h1 | exact absurd rfl h2 | (simp [mv,lp,sy];omega)
  ·rintro h1 h2 rfl;refine ng _ _ (.inl ?_);rcases four i with rfl | rfl | rfl | rfl <;> rcases four l with rfl | rfl | rfl | rfl <;> first | exact absurd rfl h1 | exact absurd rfl h2 | (simp [mv,lp,sx];omega)
 have case1:∀ (i l:Fin 4),((i≠1->l≠3->x'=x - 1->((mv s x y (lp s i mi)).1 - (mv s x y (lp s 1 mj)).1) * ((mv s x' y' (lp s l ml)).1 - (mv s x y (lp s 1 mj)).1)<0))/\((i≠3->l≠1->x'=x+1->((mv s x y (lp s i mi)).1 - (mv s x y (lp s 3 mj)).1) * ((mv s x' y' (lp s l ml)).1 - (mv s x y (lp s 3 mj)).1)<0)):=fun i l=>by
  constructor
  ·rintro h1 h2 rfl;refine ng _ _ (.inr ?_);rcases four i with rfl | rfl | rfl | rfl <;> rcases four l with rfl | rfl | rfl | rfl <;> first | exact absurd rfl h1 | exact absurd rfl h2 | (simp [mv,lp,sy];omega)
  ·rintro h1 h2 rfl;refine ng _ _ (.inl ?_);rcases four i with rfl | rfl | rfl | rfl <;> rcases four l with rfl | rfl | rfl | rfl <;> first | exact absurd rfl h1 | exact absurd rfl h2 | (simp [mv,lp,sx];omega)
 rcases four j with rfl | rfl | rfl | rfl <;> rcases four k with rfl | rfl | rfl | rfl <;> simp only [gt] at g1 g2 g3 <;> try (exfalso;first | omega | (apply key;constructor <;> omega))
 ·exact dJ (.inr ((case2 i l).1 n1 (EW n2) (by omega)))
 ·exact dJ (.inl ((case1 i l).1 n1 (EW n2) (by omega)))
 ·exact dJ (.inr ((case2 i l).2 n1 (EW n2) (by omega)))
 ·exact dJ (.inl ((case1 i l).2 n1 (EW n2) (by omega)))
end
noncomputable def lwL (Jm:List (List Int)) (wd:Nat) (cuts:List Int):List (Int×Bool×List Gt):=cuts.flatMap fun cut=>(linesOf Jm wd cut).map fun t=>(cut,t)
noncomputable def wbF (Jm:List (List Int)) (s:Nat) (c:Int×Bool×List Gt):Ln:=(c.2.1,c.2.2.map (scP Jm c.1 s))
noncomputable def ak (Jm:List (List Int)) (wd s:Nat) (cuts:List Int):Web:=(lwL Jm wd cuts).map (wbF Jm s)
theorem CG (Jm:List (List Int)) (wd s:Nat) (cuts:List Int):sU Jm wd s cuts=(ak Jm wd s cuts).map lnD:=by
 unfold sU ak lwL;rw [FJ,Hl]
 congr 1
 funext cut
 rw [FJ];refine F5 fun t _=>?_;show wbD Jm cut s t=lnD (t.1,t.2.map (scP Jm cut s));unfold wbD lnD c9;rw [FJ];rfl
theorem gC {f:Sg->Sg->Bool}:∀ {S:List Sg},(∀ s∈S,f s s=false)->S.Pairwise (fun s t=>f s t=false)->look f S=none
 | [],_,_=>rfl
 | s :: S,h,p=>by
  rw [FQ] at p;rw [cM fun u hu=>?_]
  ·exact gC (fun t ht=>h t (DT _ ht)) p.2
  ·rcases D0.mp hu with rfl | hu
   ·exact h _ DZ
   ·exact p.1 u hu
theorem o6 {w:Web}:∀ n,n<=w.length->(yU w n).Pairwise (fun s t=>s.k<t.k \/ (s.k=t.k/\s.i<t.i))/\∀ s∈yU w n,s.k<n
 | 0,_=>by simp [yU]
 | n+1,hn=>by
  have hl:w[n]?=some w[n]:=DK (by omega);obtain⟨h1,h2⟩:=o6 (w:=w) n (by omega);rw [jX hl];have hk:∀ s∈yp n w[n],s.k=n:=fun s hs=>by
   unfold yp at hs;rw [Ee] at hs;obtain⟨j,_,rfl⟩:=hs;rfl
  refine⟨Ht.mpr ⟨h1,?_,fun s hs t ht=>.inl ?_⟩,fun s hs=>?_⟩
  ·unfold yp;rw [E8];exact Hb (fun hab=>.inr ⟨rfl,hab⟩) G7
  ·have:=h2 s hs;have:=hk t ht;omega
  ·rcases Ep.mp hs with hs | hs
   ·have:=h2 s hs;omega
   ·have:=hk s hs;omega
section
variable {Jm:List (List Int)} {wd s:Nat} {cuts:List Int}
theorem w5 {c:Int×Bool×List Gt} (h:c∈lwL Jm wd cuts):c.1∈cuts/\c.2∈linesOf Jm wd c.1:=by
 obtain⟨cut,h1,h2⟩:=Ew.mp h;obtain⟨t,ht,rfl⟩:=Ee.mp h2;exact⟨h1,ht⟩
theorem w6 (nd:cuts.Nodup) (la:∀ cut∈cuts,jl Jm wd cut (linesOf Jm wd cut)):(lwL Jm wd cuts).Pairwise fun a b=>a.1=b.1->∀ g∈a.2.2,∀ h∈b.2.2,g≠h:=by
 unfold lwL;rw [Hg];refine⟨fun cut hc=>?_,Hb (fun {a b} ne x hx y hy e=>?_) nd⟩
 ·rw [E8];have q:=(la cut hc).1.nd;unfold flat at q;exact Hb (S:=fun a b=>(cut,a).fst=(cut,b).fst->∀ g∈(cut,a).2.2,∀ h∈(cut,b).2.2,g≠h) (fun h _ g hg k hk=>h g hg k hk) ((Hg).mp q).2
 ·obtain⟨t,_,rfl⟩:=Ee.mp hx;obtain⟨u,_,rfl⟩:=Ee.mp hy;exact absurd e ne
theorem w8 {f:Gt->Pt} {l:List Gt} {i:Nat} {g:Gt} (h:l[i]?=some g):atP (l.map f) i=f g:=by
 unfold atP;rw [DO,DX,h];rfl
structure SgW (Jm:List (List Int)) (wd s:Nat) (cuts:List Int) (sg:Sg) (c:Int×Bool×List Gt) (g n:Gt):Prop where
 at_:(lwL Jm wd cuts)[sg.k]?=some c
 ln:yS (ak Jm wd s cuts) sg.k=wbF Jm s c
 L:LineOk Jm wd c.1 c.2.1 c.2.2
 lt:sg.i<c.2.2.length
 run:c.2.1=false->sg.i+1<c.2.2.length
 gi:c.2.2[sg.i]?=some g
 nj:c.2.2[(sg.i+1) % c.2.2.length]?=some n
 nx:yh Jm wd c.1 g=some n
 p:sg.p=scP Jm c.1 s g
 q:sg.q=scP Jm c.1 s n
theorem iR (la:∀ cut∈cuts,jl Jm wd cut (linesOf Jm wd cut)) {sg:Sg} (h:sg∈yk (ak Jm wd s cuts)):∃ c g n,SgW Jm wd s cuts sg c g n:=by
 have S:=cL h;have hk:sg.k<(lwL Jm wd cuts).length:=by have:=S.k;unfold ak at this;rwa [DM] at this
 have e1:(lwL Jm wd cuts)[sg.k]?=some (lwL Jm wd cuts)[sg.k]:=DK hk;have mm:=DS e1;generalize (lwL Jm wd cuts)[sg.k]=c at *;have ln:yS (ak Jm wd s cuts) sg.k=wbF Jm s c:=by
  unfold yS ak;rw [DO,DX,e1];rfl
 obtain⟨m1,m2⟩:=w5 mm;have L:=(la _ m1).1.line _ m2;have hi:=S.i;have hp:=S.p;have hq:=S.q;rw [ln] at hi hp hq;have many:ai (wbF Jm s c)=if c.2.1=true then c.2.2.length else c.2.2.length - 1:=by
  unfold ai wbF;rw [DM]
 rw [many] at hi;have len:(wbF Jm s c).2.length=c.2.2.length:=DM _;rw [len] at hq;have lt:sg.i<c.2.2.length:=by split at hi <;> omega
 have ru:c.2.1=false->sg.i+1<c.2.2.length:=fun z=>by
  rw [z,Jo DL] at hi;omega
 have g1:c.2.2[sg.i]?=some c.2.2[sg.i]:=DK lt;have lt2:(sg.i+1) % c.2.2.length<c.2.2.length:=Hk _ (by omega);have g2:c.2.2[(sg.i+1) % c.2.2.length]?=some c.2.2[(sg.i+1) % c.2.2.length]:=DK lt2;refine⟨c,_,_,e1,ln,L,lt,ru,g1,g2,?_,hp.trans (w8 g1),hq.trans (w8 g2)⟩;by_cases z:sg.i+1<c.2.2.length
 ·have zm:(sg.i+1) % c.2.2.length=sg.i+1:=GI z;have g3:=DK z;have:=L.ch _ _ _ g1 g3;rw [this];simp only [zm]
 ·have zl:sg.i+1=c.2.2.length:=by omega
  have zm:(sg.i+1) % c.2.2.length=0:=by rw [zl,HD]
  have rt:c.2.1=true:=by
   cases e:c.2.1 with
   | true=>rfl
   | false=>have:=ru e;omega
  have hl:c.2.2.getLast?=some c.2.2[sg.i]:=by
   rw [Fp,show c.2.2.length - 1=sg.i by omega];exact g1
  have:=L.last _ hl;rw [rt,Jp rfl,EL] at this;rw [this];simp only [zm];exact DK (by omega)
theorem iS {l:List Gt} (nd:l.Nodup) {i j:Nat} {a b:Gt} (ha:l[i]?=some a) (hb:l[j]?=some b) (e:a=b):i=j:=by
 obtain⟨h1,r1⟩:=DN.mp ha;obtain⟨h2,r2⟩:=DN.mp hb;exact (GD nd).mp (r1.trans (e.trans r2.symm))
theorem tG (L:Lcm (jJ Jm wd) s) (nd:cuts.Nodup) (la:∀ cut∈cuts,jl Jm wd cut (linesOf Jm wd cut)):vB (ak Jm wd s cuts)=none:=by
 unfold vB;have up:=(o6 (w:=ak Jm wd s cuts) _ (DU _)).1;rw [qN] at up;refine gC (fun a ha=>?_) (List.Pairwise.imp_of_mem (fun {a b} ha hb h=>?_) up)
 ·obtain⟨c,g,n,A⟩:=iR la ha;refine iO fun z=>?_;rw [A.p,A.q] at z;have og:=A.L.op _ (DS A.gi);obtain⟨on,nn⟩:=vx og A.nx;exact nn (gB L og on z).1.symm
 ·obtain⟨c,g,n,A⟩:=iR la ha;obtain⟨c',g',n',B⟩:=iR la hb;have og:=A.L.op _ (DS A.gi);have og':=B.L.op _ (DS B.gi);rw [gy (fun z=>by omega)];unfold vk;have same:a.k=b.k->c=c':=fun e=>by
   have:=A.at_;rw [e,B.at_] at this;exact (Option.some.inj this).symm
  by_cases h1:a.k=b.k/\a.i+1=b.i
  ·rw [Jp h1];obtain rfl:=same h1.1;have lt:=B.lt;have en:n=g':=by
    have e1:=A.nj;rw [GI (by omega),h1.2,B.gi] at e1;exact (Option.some.inj e1).symm
   subst en;rw [A.p,A.q,B.q];exact o4 L og A.nx B.nx
  ·rw [Jo h1];by_cases h2:yG (ak Jm wd s cuts) a.k a.i b.k b.i=true
   ·rw [Jp h2];unfold yG at h2;rw [DW,DW] at h2;obtain⟨_,h3,h4⟩:=h2;have h3:=of_decide_eq_true h3;have h4:=of_decide_eq_true h4;rw [B.ln] at h4;have len:(wbF Jm s c').2.length=c'.2.2.length:=DM _;rw [len] at h4;obtain rfl:=same h3.1;have en:n'=g:=by
     have e1:=B.nj;rw [show b.i+1=c.2.2.length by have:=B.lt;omega,HD,<- h3.2,A.gi] at e1;exact (Option.some.inj e1).symm
    subst en;rw [B.p,B.q,A.q];exact o4 L og' B.nx A.nx
   ·rw [Jo h2,A.p,A.q,B.p,B.q];refine AQ L og A.nx og' B.nx fun ec=>?_;rcases h with h | ⟨h,hi⟩
    ·have ap:=Fn.mp (w6 (Jm:=Jm) (wd:=wd) nd la);obtain⟨k1,r1⟩:=DN.mp A.at_;obtain⟨k2,r2⟩:=DN.mp B.at_;have d:=ap a.k b.k k1 k2 h;rw [r1,r2] at d;have d:=d ec;have m1:=DS A.gi;have m2:=DS A.nj;have m3:=DS B.gi;have m4:=DS B.nj;exact⟨d _ m1 _ m3,d _ m1 _ m4,d _ m2 _ m3,d _ m2 _ m4⟩
    ·obtain rfl:=same h;have nd:=A.L.nd;have lt:=B.lt;have i1:(a.i+1) % c.2.2.length=a.i+1:=GI (by omega);refine⟨fun z=>?_,fun z=>?_,fun z=>?_,fun z=>?_⟩
     ·have:=iS nd A.gi B.gi z;omega
     ·have e:=iS nd A.gi B.nj z;by_cases w:b.i+1<c.2.2.length
      ·rw [GI w] at e;omega
      ·have wl:b.i+1=c.2.2.length:=by omega
       rw [wl,HD] at e;refine h2 ?_;unfold yG;rw [B.ln];have rt:c.2.1=true:=by
        cases q:c.2.1 with
        | true=>rfl
        | false=>have:=B.run q;omega
       show (c.2.1 && (decide (a.k=b.k/\a.i=0) && decide ((b.i:Int)=((c.2.2.map (scP Jm c.1 s)).length:Int) - 1)))=true;rw [rt,Jq ⟨h,e⟩,DM,Jq (by omega)];rfl
     ·have e:=iS nd A.nj B.gi z;rw [i1] at e;exact h1 ⟨h,e⟩
     ·have e:=iS nd A.nj B.nj z;rw [i1] at e;by_cases w:b.i+1<c.2.2.length
      ·rw [GI w] at e;omega
      ·rw [show b.i+1=c.2.2.length by omega,HD] at e;omega
theorem nk (L:Lcm (jJ Jm wd) s) (la:∀ cut∈cuts,jl Jm wd cut (linesOf Jm wd cut)) {sg:Sg} (h:sg∈yk (ak Jm wd s cuts)) (u v:Int):zy sg.p sg.q (u * s,v * s) (u * s,v * s)=false:=by
 obtain⟨c,g,n,A⟩:=iR la h;rw [A.p,A.q,GH u,GH v];exact CF L (A.L.op _ (DS A.gi)) A.nx u v
theorem o7 (gd:Good wd Jm) (hw:wd<=4) (hh:Jm.length<=4) (L:Lcm (jJ Jm wd) s) {u v:Int} (h1:0<=u) (h2:u<=5 * s) (h3:0<=v) (h4:v<=5 * s):Near (0,0) (u,v):=by
 have e:hB.natAbs=2 ^ 4000:=rfl;have h0:=iH.2.2;have sl:5 * s<=2 ^ 4000:=by
  have a:=wZ gd hw hh L;have b:2 ^ 3 * 2 ^ 2100<=2 ^ 4000:=by rw [<-IM];exact Ho (by decide) (by decide)
  generalize (2:Nat) ^ 2100=X at *;generalize (2:Nat) ^ 4000=Y at *;omega
 generalize (2:Nat) ^ 4000=Y at *;exact⟨h1,by dsimp only;omega,h3,by dsimp only;omega⟩
theorem CH (gd:Good wd Jm) (hw:wd<=4) (hh:Jm.length<=4) (L:Lcm (jJ Jm wd) s) (few:cuts.length<=3) (la:∀ cut∈cuts,jl Jm wd cut (linesOf Jm wd cut)):OkWeb (0,0) (ak Jm wd s cuts):=by
 have two:∀ l∈ak Jm wd s cuts,2<=l.2.length/\l.2.length<=98/\∀ p∈l.2,Near (0,0) p:=fun l hl=>by
  obtain⟨c,hc,rfl⟩:=Ee.mp hl;obtain⟨m1,m2⟩:=w5 hc;have T:=(la _ m1).1;have Ln:=T.line _ m2;have e:(wbF Jm s c).2.length=c.2.2.length:=DM _;rw [e];refine⟨wq gd Ln (T.st _ m2),aH gd Ln.op Ln.nd,fun p hp=>?_⟩;obtain⟨g,hg,rfl⟩:=Ee.mp hp;have o:=Ln.op g hg;obtain⟨m,m0,m1,_,e2⟩:=cj L o;obtain⟨x0,x1,y0,y1⟩:=jM (mW o);rw [e2];have key:∀ a k:Int,0<=a->a<4->0<=k->k<=1->0<=(s:Int) * a+m * k/\(s:Int) * a+m * k<=5 * s:=fun a k a0 a1 k0 k1=>by
   have hk:k=0 \/ k=1:=by omega
   have ha:a=0 \/ a=1 \/ a=2 \/ a=3:=by omega
   rcases hk with rfl | rfl <;> rcases ha with rfl | rfl | rfl | rfl <;> omega
  have w:=vZ o;obtain⟨a1,a2⟩:=key g.1 (1 - g.2.2) x0 (by omega) (by omega) (by omega);obtain⟨b1,b2⟩:=key g.2.1 g.2.2 y0 (by omega) (by omega) (by omega);exact o7 gd hw hh L a1 a2 b1 b2
 have sum:∀ cs:List Int,(∀ c∈cs,jl Jm wd c (linesOf Jm wd c))->ba (ak Jm wd s cs)<=98 * cs.length:=by
  intro cs
  induction cs with
  | nil=>intro _;exact DU _
  | cons c cs ih =>
   intro hc;have i1:=ih fun d hd=>hc d (DT _ hd);have i2:=(hc c DZ).1.len gd;have e:ak Jm wd s (c :: cs)=((linesOf Jm wd c).map fun t=>wbF Jm s (c,t))++ak Jm wd s cs:=by
    unfold ak lwL;rw [G8,Eg,FJ];rfl
   have e2:ba ((linesOf Jm wd c).map fun t=>wbF Jm s (c,t))=(flat (linesOf Jm wd c)).length:=by
    unfold ba flat;rw [FJ,List.length_flatMap]
    congr 1
    refine F5 fun t _=>?_;exact DM _
   rw [e];unfold ba at *;rw [Eg,Iz,e2,Ea];omega
 have tw:=sum cuts la;have ln:∀ w:Web,(∀ l∈w,2<=l.2.length)->2 * w.length<=ba w:=by
  intro w
  induction w with
  | nil=>intro _;exact DU _
  | cons l w ih =>
   intro h;have h1:=ih fun k hk=>h k (DT _ hk);have h2:=h l DZ;unfold ba at *;rw [Ek,List.sum_cons,Ea];omega
 have l2:=ln _ fun l hl=>(two l hl).1;exact⟨by omega,fun l hl=>(two l hl).1,fun l hl=>(two l hl).2.1,by omega,fun l hl=>(two l hl).2.2⟩
end
theorem w9 {t n:Nat} (ht:t<=7) (hn:n<=7):(v5 t n).length<=49:=by
 have:=iy t n;rw [dG,DM] at this;rw [this];exact Ge ht hn
noncomputable def tH (s:Nat) (p:Pt):Pt:=(p.1 * s,p.2 * s)
abbrev xa (K:DP):Sp:=spN K 1 (fun (c:List (List Int)×Nat) xs=>xs=[.dat (tab c.1)]/\Good c.2 c.1) fun c es=>∃ s:Nat,es=(v5 c.1.length c.2).map (fun p=>pD (tH s p))/\Lcm (jJ c.1 c.2) s
theorem AR (F:Def K mg "pins_of" aS ph) (uah:FnIn P w K mg base k "ask_table" ph (fY K)) (uaK:FnIn P w K mg base k "scale_of" ph (iG K)) (uat:FnIn P w K mg base k "points" ph (b9 K)):FnIn P w K mg base (k+1) "pins_of" ph (xa K):=by
 refine F.okN eR rfl fun fa cdv A outer s H E hr=>⟨_,(zd (jx (ze uah hr rfl (za (pv 0) zb))) (zd (zL (i:=1) eR.nd rfl (Or.inr rfl) (ze uaK hr rfl (za (pv 0) zb))) (zh (zu (yZ (N:=["x","y","scale"]) (own:=2) (fr:=[1]) (by walk_at "c") rfl (yg (K:=K) rfl (ze uat hr rfl (za (pv 0) zb))) (fun _ _ _ _=>(zH (K:=K) (n:=2) rfl rfl (zg (zf (i:=0) (show (["x","y","scale"]:List Str).Nodup by decide +kernel) rfl (Or.inl rfl) (Or.inr rfl)) (zg (zf (i:=1) (show (["x","y","scale"]:List Str).Nodup by decide +kernel) rfl (Or.inl rfl) (Or.inr rfl)) zD)))) (fun _ _ _ _=>yV) (fun _ _ _ _=>(zJ (za (zr ym (pv 0) (pv 2)) (za (zr ym (pv 1) (pv 2)) zb)))) rfl rfl (fun _=>rfl)))))),?_⟩;rintro f xs ⟨Jm,wd⟩ hl ⟨rfl,g⟩
 try dsimp only [ye,zk]
 dsimp only at *;have nl:=w9 g.h2 g.w2;refine ax (cq (zo (Jm,wd) (cD rfl ⟨rfl,⟨rfl,g⟩,?_⟩)));rintro _ rfl;refine ax (yf (zo (Jm,wd) (cD rfl ⟨rfl,⟨rfl,g⟩,?_⟩)));rintro _ ⟨s,rfl,L⟩;have sl:=lL g L;have sh:((s:Nat):Int).natAbs<vf:=by rw [Gq];exact vK sl (by decide)
 clear sl;refine zp (eE (fK (A:=pD) (B:=fun p=>pD (tH s p)) (v5 Jm.length wd) (yI (zo (Jm,wd) (cD rfl ⟨rfl,⟨rfl,g⟩,?_⟩)))));rintro _ rfl;refine⟨_,rfl,dG _ _,Em nl (by decide),?_,s,rfl,L⟩;rintro D ⟨x,y⟩ ρ' es hp ho hes;obtain⟨h1,h2,h3,h4⟩:=vz.mp hp;dsimp only at h1 h2 h3 h4;have g2:=g.h2;have w2:=g.w2;obtain⟨u,v,rfl⟩:=ho.two;refine jr rfl (zz (zp (zz (zp (yu (qP ?_))))));rw [Jp rfl];have hx:x.natAbs<vf/\((s:Nat):Int).natAbs<vf:=⟨vK (m:=60) (show x.natAbs<2 ^ 60 by omega) (by decide),sh⟩;have hy:y.natAbs<vf/\((s:Nat):Int).natAbs<vf:=⟨vK (m:=60) (show y.natAbs<2 ^ 60 by omega) (by decide),sh⟩;refine jB hes (au (zP (Ab rfl rfl hx ?_)));refine zP (Ab rfl rfl hy ?_);exact jb ⟨_,rfl,by show 2<=1000;decide,.mk2,rfl⟩
abbrev xb (K:DP):Sp:=spD K 2 (fun (c:List (List Int)×Nat) xs=>xs=[.feed,.dat (tab c.1)]/\Good c.2 c.1) fun _ r=>∃ cuts:List Int,r=.list (cuts.map .int)/\cuts.length<=3/\cuts.Nodup
theorem AS (F:Def K mg "_law_cuts" vX qg) (uaa:mg "len"=none) (uab:mg "range"=none) (uae:FnIn P w K mg base k "_law_draw" pJ (mQ K)):FnIn P w K mg base (k+1) "_law_cuts" qg (xb K):=by
 refine F.ok jV rfl fun fa cdv A outer s H E hr=>⟨_,(zd (zL (i:=2) jV.nd rfl (Or.inl rfl) (yL zb)) (zd (yK Er rfl (yH rfl uab (za (zr z8 zc (ze uae hr rfl (za (pv 0) (za zc zb)))) zb)) (zf (i:=3) jV.nd rfl (Or.inl rfl) (Or.inr rfl)) (zd (zL (i:=4) jV.nd rfl (Or.inl rfl) (zq (zF (K:=K) rfl) (pv 1) (ze uae hr rfl (za (pv 0) (za (zB (ya (K:=K) rfl) rfl uaa EA (za (pv 1) zb)) zb))) (fun _ _=>rfl))) (zd (zL (i:=5) jV.nd rfl (Or.inl rfl) (zr yb (zq (zF (K:=K) rfl) (pv 4) (ze uae hr rfl (za (pv 0) (za (zB (ya (K:=K) rfl) rfl uaa EA (za (pv 4) zb)) zb))) (fun _ _=>rfl)) (ze uae hr rfl (za (pv 0) (za zc zb))))) (zh (yr (zQ (ma (K:=K) rfl hr.units) (pv 5) (pv 2) rfl) (zh (jx (i8 FA Ft Fu vn (pv 2) (za (pv 5) zb)))) zS))))) (zh (zu (pv 2))))),?_⟩;rintro f xs ⟨Jm,wd⟩ hl ⟨rfl,g⟩
 try dsimp only [ye,zk]
 dsimp only at *;have g1:=g.h1;have g2:=g.h2;have w1:=g.w1;have w2:=g.w2;have ml:(Jm.map fun r=>PyData.list (r.map .int)).length=Jm.length:=DM _;refine mw (w:=w) (uK (hE (nH ⟨show 2<6 by decide,fun D=>?_⟩)));refine bo (oe (j9 (zP (cS (qD ⟨_,rfl,zo 3 (d7 rfl (zP (qD (jb ⟨rfl,⟨rfl,by omega,by omega⟩,?_⟩))))⟩)))));rintro _ ⟨n3,rfl,n0,n1⟩;refine⟨_,rfl,jb ⟨_,rfl,by omega,by omega,fun m ρ cs=>∃ (cuts:List Int) (x3 x4 x5:Option DV),ρ=[some .feed,some (.dat (tab Jm)),some (.own (f.M.length+0)),x3,x4,x5]/\cs=[.lst (cuts.map .int)]/\cuts.length<=m/\cuts.Nodup,⟨[],_,_,_,rfl,rfl,DU 0,Gd⟩,?_,?_⟩⟩
 ·rintro m d _ _ hd ⟨cuts,x3,x4,x5,rfl,rfl,lc,nd⟩;obtain⟨hm,rfl⟩:=jH hd;refine zp (bo (eL (yf (tY (zC rfl ⟨_,rfl,zo (Jm.length:Nat) (d7 rfl (zP (t6 (cD rfl (.inl ⟨_,rfl,jb ⟨rfl,⟨by rw [ml],by omega,by omega⟩,?_⟩⟩)))))⟩)))));rintro _ ⟨i,rfl,i0,i1⟩;obtain⟨i,rfl⟩:=Gf i0;have hi:i<Jm.length:=by omega
  have rl:=g.row _ (Eo hi);refine⟨_,rfl,.list (Jm[i].map .int),qz rfl hi,zp ?_⟩;refine bo (eL (yf (cS (tY (zC rfl ⟨_,rfl,zo (Jm[i].length:Nat) (d7 rfl (zP (t6 (cD rfl (.inl ⟨_,rfl,jb ⟨rfl,⟨by rw [DM],by omega,by omega⟩,?_⟩⟩)))))⟩)))));rintro _ ⟨j,rfl,j0,j1⟩;obtain⟨j,rfl⟩:=Gf j0;have hj:j<Jm[i].length:=by omega
  refine⟨_,rfl,.int Jm[i][j],qz rfl hj,_,rfl,zo 2 (d7 rfl (zP (qD (jb ⟨rfl,⟨rfl,by omega,by omega⟩,?_⟩))))⟩;rintro _ ⟨i2,rfl,_,_⟩;refine⟨_,rfl,zp ?_⟩;generalize Jm[i][j] - i2=c;generalize (some (DV.dat (.list (Jm[i].map .int))):Option DV)=x4;show PSm w K f [D] _ [some .feed,some (.dat (tab Jm)),some (.own (f.M.length+0)),some (.dat (.int m)),x4,some (.dat (.int c))] [OC.lst (cuts.map PyData.int)] _;have fr:Hr (freed f.M.length [OC.lst (cuts.map PyData.int)]) [some DV.feed,some (.dat (tab Jm)),some (.own (f.M.length+0)),some (.dat (.int m)),x4,some (.dat (.int c))]=[some .feed,some (.dat (tab Jm)),some (.dat (.list (cuts.map PyData.int))),some (.dat (.int m)),freed f.M.length [OC.lst (cuts.map PyData.int)] x4,some (.dat (.int c))]:=by simp [freed]
  refine De (xZ ?_);rw [fr];refine jL (ui (zC rfl (zC rfl ⟨_,rfl,rfl,fun e he=>by obtain⟨z,_,rfl⟩:=Ee.mp he;rfl,by show 0<=50;decide,_,rfl,?_⟩)));refine z9 (fun h=>?_) fun h=>uI ⟨cuts,_,_,_,rfl,rfl,by omega,nd⟩;have nc:c∉cuts:=fun hc=>by
   simp [jk] at h;exact h c hc rfl
  refine uJ (i:=2) (j:=0) rfl rfl (by rw [DM];omega) (rT (zC rfl ⟨cuts++[c],_,_,_,rfl,?_,by rw [D6,EO];omega,?_⟩))
  ·show [OC.lst (cuts.map PyData.int++[.int c])]=_;rw [Eg];rfl
  ·exact FZ.mpr ⟨nd,by simp,fun a ha b hb e=>nc (by rw [<-Ej.mp hb,<- e];exact ha)⟩
 ·rintro _ _ ⟨cuts,x3,x4,x5,rfl,rfl,lc,nd⟩;rw [jN] at lc;have fr:Hr (freed f.M.length [OC.lst (cuts.map PyData.int)]) [some DV.feed,some (.dat (tab Jm)),some (.own (f.M.length+0)),x3,x4,x5]=[some .feed,some (.dat (tab Jm)),some (.dat (.list (cuts.map PyData.int))),freed f.M.length [OC.lst (cuts.map PyData.int)] x3,freed f.M.length [OC.lst (cuts.map PyData.int)] x4,freed f.M.length [OC.lst (cuts.map PyData.int)] x5]:=by simp [freed]
  refine my ?_;rw [fr];exact yW (zC rfl ⟨cuts,rfl,by omega,nd⟩)
theorem CI {f:DR} {fd:FuncData} (F:Fun K "law" "law" cZ f fd) (uab:mg "range"=none)
  (ubz:FnIn P w K mg base k "_law_feed" qc (m5 K)) (ubA:FnIn P w K mg base k "_law_table" qf (oy K)) (ubB:FnIn P w K mg base k "_law_cuts" qg (xb K)) (ubC:FnIn P w K mg base k "web_of" qa (Bg K)) (ubD:FnIn P w K mg base k "meeting" pB (gx K)) (ubE:FnIn P w K mg base k "_law_meeting" pA (fc K)) (ubF:FnIn P w K mg base k "pins_of" ph (xa K)) (uaN:FnIn P w K mg base k "_law_segments" pA (iP K)) (uaM:FnIn P w K mg base k "_law_touch" pQ (aJ K)) :
  FnOk P w K mg base CX0 (k+1) f fd qh (oS K):=by
 refine F.ok vY (fun vs H Q E h=>?_) fun cdv A outer s H vs Q E hr hs=>⟨_,(zd (yK Er rfl (yH rfl uab (za zc zb)) (zf (i:=1) vY.nd rfl (Or.inl rfl) (Or.inr rfl)) (zd (zL (i:=2) vY.nd rfl (Or.inl rfl) (ze ubz hr rfl (za (pv 0) (za (pv 1) zb)))) (zd (zL (i:=3) vY.nd rfl (Or.inl rfl) (ze ubA hr rfl (za (pv 2) zb))) (zd (zL (i:=4) vY.nd rfl (Or.inl rfl) (ze ubC hr rfl (za (pv 3) (za (ze ubB hr rfl (za (pv 2) (za (pv 3) zb))) zb)))) (zd (yr (PW.pt (fC (zQ gI (ze ubD hr rfl (za (pv 4) zb)) bt (zI _)) (dQ (zQ gI (ze ubE hr rfl (za (pv 4) zb)) bt (zI _))))) (zh (zu bb)) zS) (zh (yK Er rfl (yg (K:=K) rfl (ze ubF hr rfl (za (pv 3) zb))) (zf (i:=5) vY.nd rfl (Or.inl rfl) (Or.inr rfl)) (zh (yK Er rfl (yg (K:=K) rfl (ze uaN hr rfl (za (pv 4) zb))) (zH (K:=K) (n:=3) rfl rfl (zg (zf (i:=6) vY.nd rfl (Or.inl rfl) (Or.inr rfl)) (zg (zf (i:=7) vY.nd rfl (Or.inl rfl) (Or.inr rfl)) (zg (zf (i:=8) vY.nd rfl (Or.inl rfl) (Or.inr rfl)) zD)))) (zh (yr (yj (K:=K) rfl (ze uaM hr rfl (za (pv 8) (za (zJ (za (pv 5) (za (pv 5) zb))) zb))) (fun _=>rfl)) (zh (zu bb)) zS))))))))))) (zh (zu bb))),?_⟩
 ·obtain⟨a,ns,rfl,_⟩:=h;rfl
 obtain⟨a,ns,rfl,hS,h63,q⟩:=hs;have e0:EnvOk K L2.f0 (vI ox [.dat (scr ns)]) (start ox [.ref a]) H:=aM (.cons (oR hS) .nil) (L2.fok0 H);suffices h:PSd K L2.f0 _ (vI ox [.dat (scr ns)]) { nx:=fun _=>False,rt:=fun d=>d=.bool true } from
  h _ H _ e0 (fun _ _ _ _ _ z=>z.elim) (fun d v H' _ r z=>by
   subst z;rw [zZ.mp r];exact q H') (fun _ _ _ _ _ z=>z) (fun _ _ _ _ _ z=>z)
 refine yc (bg (j9 (zP (qD (jb ⟨2,rfl,by decide,by decide,fun i ρ=>∃ x1 x2 x3 x4 x5 x6 x7 x8,ρ=[some (.dat (scr ns)),x1,x2,x3,x4,x5,x6,x7,x8],⟨_,_,_,_,_,_,_,_,rfl⟩,?_,?_⟩)))))
 ·rintro i d _ hi ⟨x1,x2,x3,x4,x5,x6,x7,x8,rfl⟩;obtain⟨hi2,rfl⟩:=jH hi;have hi2:i<2:=hi2;refine zp (BV (CA rfl rfl h63 (by omega) (by omega)) fun p=>?_);refine yc (yf (zo () ?_));walk_at "w";rintro _ ⟨wd,Jm,rfl,g,gw,gh⟩;refine zp (yc (yf (PEdO.ped (x9 (zP (zC rfl (zP (zo (Jm,wd) ?_))))))));walk_at "w";rintro _ ⟨cuts,rfl,few,nd⟩;refine jb ⟨(Jm,wd,cuts),rfl,⟨rfl,g,few⟩,?_⟩;rintro _ ⟨sc,L,rfl,la⟩;dsimp only at L la;rw [CG];have ok:=CH g gw gh L few la;have cl:=tG L nd la;have pc:=fun (u v:Int) (sg:Sg) h=>nk (sg:=sg) L la h u v;have nr:=fun (u v:Int)=>o7 (u:=u) (v:=v) g gw gh L;generalize ak Jm wd sc cuts=W at *;refine zp (yc (aZ (tZ (jL (uS (zo ((0,0),W) (cD rfl ⟨rfl,⟨rfl,ok⟩,?_⟩)))))));rintro _ rfl;dsimp only;rw [cl];refine⟨true,rfl,false,rfl,?_⟩;rw [Jo DL];refine jL (uS (zo ((0,0),W) (cD rfl ⟨rfl,⟨rfl,ok⟩,?_⟩)));rintro _ rfl;dsimp only;rw [cl];refine⟨true,rfl,false,rfl,?_⟩;rw [Jo DL];refine y3 (bg (yI (PEdO.ped (eF (Jm,wd) (cD rfl ⟨rfl,⟨rfl,g⟩,?_⟩)))));rintro _ ⟨sc',rfl,L'⟩;obtain rfl:=wI L' L fun _ _=>Iff.rfl;refine⟨_,rfl,fun m ρ=>∃ y5 y6 y7 y8,ρ=[some (.dat (scr ns)),some (.dat (.int i)),some .feed,some (.dat (tab Jm)),some (.dat (jW W)),y5,y6,y7,y8],⟨_,_,_,_,rfl⟩,?_,?_⟩
  ·rintro m d _ hm ⟨y5,y6,y7,y8,rfl⟩;rw [DX] at hm;cases em:(v5 Jm.length wd)[m]? with
   | none=>rw [em] at hm;cases hm
   | some p =>
    rw [em] at hm;cases hm;obtain⟨p1,p2,p3,p4⟩:=vz.mp (DS em);have np:Near (0,0) (tH sc' p):=by
     have k5:∀ a:Int,0<=a->a<4->0<=a * sc'/\a * sc'<=5 * sc':=fun a a0 a1=>by
      have ha:a=0 \/ a=1 \/ a=2 \/ a=3:=by omega
      rcases ha with rfl | rfl | rfl | rfl <;> omega
     obtain⟨z1,z2⟩:=k5 p.1 p1 (by omega);obtain⟨z3,z4⟩:=k5 p.2 p3 (by omega);exact nr _ _ z1 z2 z3 z4
    refine zp (bg (yI (zo ((0,0),W) (cD rfl ⟨rfl,⟨rfl,ok⟩,?_⟩))));rintro _ rfl;refine⟨_,rfl,fun q ρ=>∃ y6 y7 y8,ρ=[some (.dat (scr ns)),some (.dat (.int i)),some .feed,some (.dat (tab Jm)),some (.dat (jW W)),some (.dat (pD (tH sc' p))),y6,y7,y8],⟨_,_,_,rfl⟩,?_,?_⟩
    ·rintro q d _ hq ⟨y6,y7,y8,rfl⟩;rw [DX] at hq;cases eq:(yk W)[q]? with
     | none=>rw [eq] at hq;cases hq
     | some sg =>
      rw [eq] at hq;cases hq;have hm:=DS eq;obtain⟨n1,n2⟩:=(cL hm).near ok;unfold jh;refine Dp (aZ (jA (zo ((0,0),sg.p,sg.q,tH sc' p,tH sc' p) (zP (zC rfl (zP (au (zP (zC rfl (zP (zC rfl (jb ⟨_,rfl,by show 2<=1000;decide,jb ⟨rfl,⟨rfl,n1,n2,np,np⟩,?_⟩⟩))))))))))));rintro _ rfl;refine⟨false,?_,?_⟩
      ·exact congrArg some (pc p.1 p.2 sg hm)
      rw [Jo DL];exact y3 ⟨_,_,_,rfl⟩
    ·rintro _ ⟨y6,y7,y8,rfl⟩;exact⟨_,_,_,_,rfl⟩
  ·rintro _ ⟨y5,y6,y7,y8,rfl⟩;exact⟨_,_,_,_,_,_,_,_,rfl⟩
 ·rintro _ ⟨x1,x2,x3,x4,x5,x6,x7,x8,rfl⟩;walk_at "w";rfl
end
theorem _root_.L2.FnIn.m {P w K mg base j k x ps sp} (h:FnIn P w K mg base j x ps sp) (hk:j<=k:=by decide):FnIn P w K mg base k x ps sp:=h.mono hk
theorem xf1 {K:Iq} {h:Heap} {mg:Str->Option Value} {x:Str} {st:Stmt} {f:DR} {od an:Option DR} {sl:Array (Option Value)} {oc kV dc pm cd ct:Value} (X:K.In h) (G:h.Ns El mg) (a:FD K x st f od an sl oc kV dc pm cd ct) {p0:Str} (hb:∀ (kV doc pm:Value) (an:Option DR) (cdv ct:Value) (u0:Value),bindArgs (Ff x x (jy st) (yM st) (zi st) .none kV doc pm an cdv ct) ⟨[u0],[]⟩=pure ([p0].zip [u0])):Def K mg x st [p0]:=Aa X G a (fun _ _ _ _ _ _ us hl=>by
  rcases us with _ | ⟨u0,_ | ⟨z,zs⟩⟩ <;> first | exact hb _ _ _ _ _ _ _ | (simp at hl))
theorem xf2 {K:Iq} {h:Heap} {mg:Str->Option Value} {x:Str} {st:Stmt} {f:DR} {od an:Option DR} {sl:Array (Option Value)} {oc kV dc pm cd ct:Value} (X:K.In h) (G:h.Ns El mg) (a:FD K x st f od an sl oc kV dc pm cd ct) {p0 p1:Str} (hb:∀ (kV doc pm:Value) (an:Option DR) (cdv ct:Value) (u0 u1:Value),bindArgs (Ff x x (jy st) (yM st) (zi st) .none kV doc pm an cdv ct) ⟨[u0,u1],[]⟩=pure ([p0,p1].zip [u0,u1])):Def K mg x st [p0,p1]:=Aa X G a (fun _ _ _ _ _ _ us hl=>by
  rcases us with _ | ⟨u0,_ | ⟨u1,_ | ⟨z,zs⟩⟩⟩ <;> first | exact hb _ _ _ _ _ _ _ _ | (simp at hl))
theorem xf3 {K:Iq} {h:Heap} {mg:Str->Option Value} {x:Str} {st:Stmt} {f:DR} {od an:Option DR} {sl:Array (Option Value)} {oc kV dc pm cd ct:Value} (X:K.In h) (G:h.Ns El mg) (a:FD K x st f od an sl oc kV dc pm cd ct) {p0 p1 p2:Str} (hb:∀ (kV doc pm:Value) (an:Option DR) (cdv ct:Value) (u0 u1 u2:Value),bindArgs (Ff x x (jy st) (yM st) (zi st) .none kV doc pm an cdv ct) ⟨[u0,u1,u2],[]⟩=pure ([p0,p1,p2].zip [u0,u1,u2])):Def K mg x st [p0,p1,p2]:=Aa X G a (fun _ _ _ _ _ _ us hl=>by
  rcases us with _ | ⟨u0,_ | ⟨u1,_ | ⟨u2,_ | ⟨z,zs⟩⟩⟩⟩ <;> first | exact hb _ _ _ _ _ _ _ _ _ | (simp at hl))
theorem xf4 {K:Iq} {h:Heap} {mg:Str->Option Value} {x:Str} {st:Stmt} {f:DR} {od an:Option DR} {sl:Array (Option Value)} {oc kV dc pm cd ct:Value} (X:K.In h) (G:h.Ns El mg) (a:FD K x st f od an sl oc kV dc pm cd ct) {p0 p1 p2 p3:Str} (hb:∀ (kV doc pm:Value) (an:Option DR) (cdv ct:Value) (u0 u1 u2 u3:Value),bindArgs (Ff x x (jy st) (yM st) (zi st) .none kV doc pm an cdv ct) ⟨[u0,u1,u2,u3],[]⟩=pure ([p0,p1,p2,p3].zip [u0,u1,u2,u3])):Def K mg x st [p0,p1,p2,p3]:=Aa X G a (fun _ _ _ _ _ _ us hl=>by
  rcases us with _ | ⟨u0,_ | ⟨u1,_ | ⟨u2,_ | ⟨u3,_ | ⟨z,zs⟩⟩⟩⟩⟩ <;> first | exact hb _ _ _ _ _ _ _ _ _ _ | (simp at hl))
set_option autoImplicit true in
set_option relaxedAutoImplicit true in
theorem all_mk {l:PySem.W.OpenLaw} {w:World} {K:DP} {h:Heap} {mg:Str->Option Value} {fa:DR} (X:K.In h) (G:h.Ns El mg) (hfa:mg "law"=some (.ref fa))
  (a1:FD K "meeting" aN f1 od1 an1 sl1 oc1 kV1 dc1 pm1 cd1 ct1)
  (a2:FD K "segments" vL f2 od2 an2 sl2 oc2 kV2 dc2 pm2 cd2 ct2)
  (a3:FD K "many_segments" ji f3 od3 an3 sl3 oc3 kV3 dc3 pm3 cd3 ct3)
  (a4:FD K "meets" dy f4 od4 an4 sl4 oc4 kV4 dc4 pm4 cd4 ct4)
  (a5:FD K "closes" bV f5 od5 an5 sl5 oc5 kV5 dc5 pm5 cd5 ct5)
  (a6:FD K "turns_back" qr f6 od6 an6 sl6 oc6 kV6 dc6 pm6 cd6 ct6)
  (a7:FD K "turn" h9 f7 od7 an7 sl7 oc7 kV7 dc7 pm7 cd7 ct7)
  (a8:FD K "touches" aO f8 od8 an8 sl8 oc8 kV8 dc8 pm8 cd8 ct8)
  (a9:FD K "apart" dz f9 od9 an9 sl9 oc9 kV9 dc9 pm9 cd9 ct9)
  (a10:FD K "size" ia f10 od10 an10 sl10 oc10 kV10 dc10 pm10 cd10 ct10)
  (a11:FD K "points" bW f11 od11 an11 sl11 oc11 kV11 dc11 pm11 cd11 ct11)
  (a12:FD K "has_point" qT f12 od12 an12 sl12 oc12 kV12 dc12 pm12 cd12 ct12)
  (a13:FD K "neighbours" qs f13 od13 an13 sl13 oc13 kV13 dc13 pm13 cd13 ct13)
  (a14:FD K "has_cell" vN f14 od14 an14 sl14 oc14 kV14 dc14 pm14 cd14 ct14)
  (a15:FD K "corners" aP f15 od15 an15 sl15 oc15 kV15 dc15 pm15 cd15 ct15)
  (a16:FD K "common" bX f16 od16 an16 sl16 oc16 kV16 dc16 pm16 cd16 ct16)
  (a17:FD K "shortened" qU f17 od17 an17 sl17 oc17 kV17 dc17 pm17 cd17 ct17)
  (a18:FD K "ask_table" qV f18 od18 an18 sl18 oc18 kV18 dc18 pm18 cd18 ct18)
  (a19:FD K "fits" ic f19 od19 an19 sl19 oc19 kV19 dc19 pm19 cd19 ct19)
  (a20:FD K "is_row" bY f20 od20 an20 sl20 oc20 kV20 dc20 pm20 cd20 ct20)
  (a21:FD K "gates" dA f21 od21 an21 sl21 oc21 kV21 dc21 pm21 cd21 ct21)
  (a22:FD K "stands_high" jO f22 od22 an22 sl22 oc22 kV22 dc22 pm22 cd22 ct22)
  (a23:FD K "gate_points" jP f23 od23 an23 sl23 oc23 kV23 dc23 pm23 cd23 ct23)
  (a24:FD K "has_gate" vQ f24 od24 an24 sl24 oc24 kV24 dc24 pm24 cd24 ct24)
  (a25:FD K "is_open" aQ f25 od25 an25 sl25 oc25 kV25 dc25 pm25 cd25 ct25)
  (a26:FD K "cell_gates" qt f26 od26 an26 sl26 oc26 kV26 dc26 pm26 cd26 ct26)
  (a27:FD K "is_crossed" qu f27 od27 an27 sl27 oc27 kV27 dc27 pm27 cd27 ct27)
  (a28:FD K "has_high_middle" yX f28 od28 an28 sl28 oc28 kV28 dc28 pm28 cd28 ct28)
  (a29:FD K "cell_ties" qW f29 od29 an29 sl29 oc29 kV29 dc29 pm29 cd29 ct29)
  (a30:FD K "crossed_ties" jD f30 od30 an30 sl30 oc30 kV30 dc30 pm30 cd30 ct30)
  (a31:FD K "heading" aR f31 od31 an31 sl31 oc31 kV31 dc31 pm31 cd31 ct31)
  (a32:FD K "cell_ahead" qv f32 od32 an32 sl32 oc32 kV32 dc32 pm32 cd32 ct32)
  (a33:FD K "comes_in" vR f33 od33 an33 sl33 oc33 kV33 dc33 pm33 cd33 ct33)
  (a34:FD K "gate_ahead" qw f34 od34 an34 sl34 oc34 kV34 dc34 pm34 cd34 ct34)
  (a35:FD K "lines" dB f35 od35 an35 sl35 oc35 kV35 dc35 pm35 cd35 ct35)
  (a36:FD K "line_from" qX f36 od36 an36 sl36 oc36 kV36 dc36 pm36 cd36 ct36)
  (a37:FD K "place_of" vS f37 od37 an37 sl37 oc37 kV37 dc37 pm37 cd37 ct37)
  (a38:FD K "share" dC f38 od38 an38 sl38 oc38 kV38 dc38 pm38 cd38 ct38)
  (a39:FD K "scale_of" vT f39 od39 an39 sl39 oc39 kV39 dc39 pm39 cd39 ct39)
  (a40:FD K "web_of" b7 f40 od40 an40 sl40 oc40 kV40 dc40 pm40 cd40 ct40)
  (a41:FD K "scaled_place" jE f41 od41 an41 sl41 oc41 kV41 dc41 pm41 cd41 ct41)
  (a42:FD K "pins_of" aS f42 od42 an42 sl42 oc42 kV42 dc42 pm42 cd42 ct42)
  (a43:FD K "_law_feed" vU f43 od43 an43 sl43 oc43 kV43 dc43 pm43 cd43 ct43)
  (a44:FD K "_law_draw" vV f44 od44 an44 sl44 oc44 kV44 dc44 pm44 cd44 ct44)
  (a45:FD K "_law_height" qy f45 od45 an45 sl45 oc45 kV45 dc45 pm45 cd45 ct45)
  (a46:FD K "_law_turn" vW f46 od46 an46 sl46 oc46 kV46 dc46 pm46 cd46 ct46)
  (a47:FD K "_law_apart" qY f47 od47 an47 sl47 oc47 kV47 dc47 pm47 cd47 ct47)
  (a48:FD K "_law_touch" qZ f48 od48 an48 sl48 oc48 kV48 dc48 pm48 cd48 ct48)
  (a49:FD K "_law_folds" q9 f49 od49 an49 sl49 oc49 kV49 dc49 pm49 cd49 ct49)
  (a50:FD K "_law_segments" jF f50 od50 an50 sl50 oc50 kV50 dc50 pm50 cd50 ct50)
  (a51:FD K "_law_bad" aV f51 od51 an51 sl51 oc51 kV51 dc51 pm51 cd51 ct51)
  (a52:FD K "_law_meeting" jQ f52 od52 an52 sl52 oc52 kV52 dc52 pm52 cd52 ct52)
  (a53:FD K "_law_table" va f53 od53 an53 sl53 oc53 kV53 dc53 pm53 cd53 ct53)
  (a54:FD K "_law_cuts" vX f54 od54 an54 sl54 oc54 kV54 dc54 pm54 cd54 ct54)
  (a55:FD K "law" cZ f55 od55 an55 sl55 oc55 kV55 dc55 pm55 cd55 ct55)
  {ubG:Tok} (uaO:ED K El "FEWEST"=some (some (.int (2) ubG)))
  {ubH:Tok} (uaP:ED K El "MOST"=some (some (.int (7) ubH)))
  {ubI:Tok} (uaQ:ED K El "LEAST"=some (some (.int (-1000000000) ubI)))
  {ubJ:Tok} (uaR:ED K El "GREATEST"=some (some (.int (1000000000) ubJ)))
  (uaS:ED K El "len"=some none)
  (uaT:ED K El "min"=some none)
  (uaU:ED K El "max"=some none)
  (uaV:ED K El "enumerate"=some none)
  (uaW:ED K El "range"=some none)
  (uaX:ED K El "all"=some none)
  (uaY:ED K El "sum"=some none)
  (uaZ:ED K El "tuple"=some none)
  (ua0:ED K El "set"=some none)
  (ua1:ED K El "sorted"=some none)
  (ua2:ED K El "abs"=some none)
  (ua3:ED K El "int"=some none)
  {uaw:DR} (ua4:ED K El "AHEAD"=some (some (.ref uaw)))
  {uay:DR} (ua5:ED K El "BEHIND"=some (some (.ref uay)))
  (uax:r6 K uaw Ct=true)
  (uaz:r6 K uay wc=true) :
  ∃ fd:FuncData,(∀ (s:Shared) (v:Value),BindsTo s fd ⟨[v],[]⟩ [("_law_script",v)])/\∀ base:Heap,K.In base->base.Ns El mg->FnOk l.prog w K mg base CX0 11 fa fd qh (oS K):=by
 have ubK:Def K mg "meeting" aN pB:=xf1 X G a1 (fun _ _ _ _ _ _ _=>rfl);have ubL:Def K mg "segments" vL pB:=xf1 X G a2 (fun _ _ _ _ _ _ _=>rfl);have ubM:Def K mg "many_segments" ji pK:=xf2 X G a3 (fun _ _ _ _ _ _ _ _=>rfl);have ubN:Def K mg "meets" dy pV:=xf3 X G a4 (fun _ _ _ _ _ _ _ _ _=>rfl);have ubO:Def K mg "closes" bV pW:=xf3 X G a5 (fun _ _ _ _ _ _ _ _ _=>rfl);have ubP:Def K mg "turns_back" qr pX:=xf3 X G a6 (fun _ _ _ _ _ _ _ _ _=>rfl);have ubQ:Def K mg "turn" h9 pF:=xf3 X G a7 (fun _ _ _ _ _ _ _ _ _=>rfl);have ubR:Def K mg "touches" aO pz:=xf4 X G a8 (fun _ _ _ _ _ _ _ _ _ _=>rfl);have ubS:Def K mg "apart" dz pz:=xf4 X G a9 (fun _ _ _ _ _ _ _ _ _ _=>rfl);have ubT:Def K mg "size" ia ph:=xf1 X G a10 (fun _ _ _ _ _ _ _=>rfl);have ubU:Def K mg "points" bW ph:=xf1 X G a11 (fun _ _ _ _ _ _ _=>rfl);have ubV:Def K mg "has_point" qT pq:=xf3 X G a12 (fun _ _ _ _ _ _ _ _ _=>rfl);have ubW:Def K mg "neighbours" qs pq:=xf3 X G a13 (fun _ _ _ _ _ _ _ _ _=>rfl);have ubX:Def K mg "has_cell" vN pq:=xf3 X G a14 (fun _ _ _ _ _ _ _ _ _=>rfl);have ubY:Def K mg "corners" aP pL:=xf2 X G a15 (fun _ _ _ _ _ _ _ _=>rfl);have ubZ:Def K mg "common" bX pG:=xf2 X G a16 (fun _ _ _ _ _ _ _ _=>rfl);have ub0:Def K mg "shortened" qU pY:=xf2 X G a17 (fun _ _ _ _ _ _ _ _=>rfl);have ub1:Def K mg "ask_table" qV ph:=xf1 X G a18 (fun _ _ _ _ _ _ _=>rfl);have ub2:Def K mg "fits" ic pH:=xf1 X G a19 (fun _ _ _ _ _ _ _=>rfl);have ub3:Def K mg "is_row" bY ["row"]:=xf1 X G a20 (fun _ _ _ _ _ _ _=>rfl);have ub4:Def K mg "gates" dA pC:=xf2 X G a21 (fun _ _ _ _ _ _ _ _=>rfl);have ub5:Def K mg "stands_high" jO pI:=xf3 X G a22 (fun _ _ _ _ _ _ _ _ _=>rfl);have ub6:Def K mg "gate_points" jP ["gate"]:=xf1 X G a23 (fun _ _ _ _ _ _ _=>rfl);have ub7:Def K mg "has_gate" vQ pM:=xf2 X G a24 (fun _ _ _ _ _ _ _ _=>rfl);have ub8:Def K mg "is_open" aQ pf:=xf3 X G a25 (fun _ _ _ _ _ _ _ _ _=>rfl);have ub9:Def K mg "cell_gates" qt ["cell"]:=xf1 X G a26 (fun _ _ _ _ _ _ _=>rfl);have uca:Def K mg "is_crossed" qu pj:=xf3 X G a27 (fun _ _ _ _ _ _ _ _ _=>rfl);have ucb:Def K mg "has_high_middle" yX pj:=xf3 X G a28 (fun _ _ _ _ _ _ _ _ _=>rfl);have ucc:Def K mg "cell_ties" qW pj:=xf3 X G a29 (fun _ _ _ _ _ _ _ _ _=>rfl);have ucd:Def K mg "crossed_ties" jD pj:=xf3 X G a30 (fun _ _ _ _ _ _ _ _ _=>rfl);have uce:Def K mg "heading" aR pf:=xf3 X G a31 (fun _ _ _ _ _ _ _ _ _=>rfl);have ucf:Def K mg "cell_ahead" qv pf:=xf3 X G a32 (fun _ _ _ _ _ _ _ _ _=>rfl);have ucg:Def K mg "comes_in" vR pf:=xf3 X G a33 (fun _ _ _ _ _ _ _ _ _=>rfl);have uch:Def K mg "gate_ahead" qw pf:=xf3 X G a34 (fun _ _ _ _ _ _ _ _ _=>rfl);have uci:Def K mg "lines" dB pC:=xf2 X G a35 (fun _ _ _ _ _ _ _ _=>rfl);have ucj:Def K mg "line_from" qX pZ:=xf3 X G a36 (fun _ _ _ _ _ _ _ _ _=>rfl);have uck:Def K mg "place_of" vS pf:=xf3 X G a37 (fun _ _ _ _ _ _ _ _ _=>rfl);have ucl:Def K mg "share" dC pf:=xf3 X G a38 (fun _ _ _ _ _ _ _ _ _=>rfl);have ucm:Def K mg "scale_of" vT ph:=xf1 X G a39 (fun _ _ _ _ _ _ _=>rfl);have ucn:Def K mg "web_of" b7 qa:=xf2 X G a40 (fun _ _ _ _ _ _ _ _=>rfl);have uco:Def K mg "scaled_place" jE qb:=xf4 X G a41 (fun _ _ _ _ _ _ _ _ _ _=>rfl);have ucp:Def K mg "pins_of" aS ph:=xf1 X G a42 (fun _ _ _ _ _ _ _=>rfl);have ucq:Def K mg "_law_feed" vU qc:=xf2 X G a43 (fun _ _ _ _ _ _ _ _=>rfl);have ucr:Def K mg "_law_draw" vV pJ:=xf2 X G a44 (fun _ _ _ _ _ _ _ _=>rfl);have ucs:Def K mg "_law_height" qy pN:=xf3 X G a45 (fun _ _ _ _ _ _ _ _ _=>rfl);have uct:Def K mg "_law_turn" vW pO:=xf3 X G a46 (fun _ _ _ _ _ _ _ _ _=>rfl);have ucu:Def K mg "_law_apart" qY pP:=xf3 X G a47 (fun _ _ _ _ _ _ _ _ _=>rfl);have ucv:Def K mg "_law_touch" qZ pQ:=xf2 X G a48 (fun _ _ _ _ _ _ _ _=>rfl);have ucw:Def K mg "_law_folds" q9 qd:=xf3 X G a49 (fun _ _ _ _ _ _ _ _ _=>rfl);have ucx:Def K mg "_law_segments" jF pA:=xf1 X G a50 (fun _ _ _ _ _ _ _=>rfl);have ucy:Def K mg "_law_bad" aV qe:=xf3 X G a51 (fun _ _ _ _ _ _ _ _ _=>rfl);have ucz:Def K mg "_law_meeting" jQ pA:=xf1 X G a52 (fun _ _ _ _ _ _ _=>rfl);have ucA:Def K mg "_law_table" va qf:=xf1 X G a53 (fun _ _ _ _ _ _ _=>rfl);have ucB:Def K mg "_law_cuts" vX qg:=xf2 X G a54 (fun _ _ _ _ _ _ _ _=>rfl);have ucC:Def K mg "law" cZ qh:=xf1 X G a55 (fun _ _ _ _ _ _ _=>rfl);have uao:=FN X G uaO;have uap:=FN X G uaP;have uaq:=FN X G uaQ;have uar:=FN X G uaR;have uaa:=EG X G uaS;have uac:=EG X G uaT;have uad:=EG X G uaU;have uag:=EG X G uaV;have uab:=EG X G uaW;have uai:=EG X G uaX;have uaC:=EG X G uaY;have ual:=EG X G uaZ;have uaH:=EG X G ua0;have uaI:=EG X G ua1;have uaf:=EG X G ua2;have uaL:=EG X G ua3;have uaD:=FN X G ua4;have uaF:=FN X G ua5;have e:=hfa.symm.trans (FN X G a55.1);cases e;have F0:=l4 (st:=cZ) a55.2.1 a55.2.2.1 a55.2.2.2;refine⟨Ff "law" "law" (jy cZ) (yM cZ) (zi cZ) .none kV55 dc55 pm55 an55 cd55 ct55,fun s v=>.of_eq rfl,fun base _ _=>?_⟩;have H0:=AG (P:=l.prog) (w:=w) (base:=base) (k:=0) ucq uaa uaf;have H1:=Am (P:=l.prog) (w:=w) (base:=base) (k:=0) ucr;have H2:=Al (P:=l.prog) (w:=w) (base:=base) (k:=0) ub2 uaa ⟨_,uao⟩ ⟨_,uap⟩;have H3:=Ak (P:=l.prog) (w:=w) (base:=base) (k:=0) ubT uaa;have H4:=sT (P:=l.prog) (w:=w) (base:=base) (k:=0) ubZ uaf;have H5:=Cq (P:=l.prog) (w:=w) (base:=base) (k:=0) ub6;have H6:=An (P:=l.prog) (w:=w) (base:=base) (k:=0) ub5;have H7:=sI (P:=l.prog) (w:=w) (base:=base) (k:=0) ub9;have H8:=mS (P:=l.prog) (w:=w) (base:=base) (k:=0) ubY;have H9:=AJ (P:=l.prog) (w:=w) (base:=base) (k:=0) ubM uaa;have H10:=sX (P:=l.prog) (w:=w) (base:=base) (k:=0) ubO uaa;have H11:=wN (P:=l.prog) (w:=w) (base:=base) (k:=0) ubQ;have H12:=wO (P:=l.prog) (w:=w) (base:=base) (k:=0) ubS uac uad;have H13:=iQ (P:=l.prog) (w:=w) (base:=base) (k:=0) ucx uaa uab uaL;have H14:=wW (P:=l.prog) (w:=w) (base:=base) (k:=0) uct;have H15:=s9 (P:=l.prog) (w:=w) (base:=base) (k:=0) ucu uac uad;have H16:=sF (k:=1) ucs uac H1.m;have H17:=AS (k:=1) ucB uaa uab H1.m;have H18:=sE (k:=1) ub3 uac uad ⟨_,uaq⟩ ⟨_,uar⟩ H2.m;have H19:=sG (k:=1) ubU uab H3.m;have H20:=Cp (k:=1) ubV H3.m;have H21:=wF (k:=1) ub0 H4.m;have H22:=mV (k:=1) uce H6.m;have H23:=Cs (k:=1) ucb uaC H8.m;have H24:=lQ (k:=1) ubL uaa uab uag H9.m;have H25:=fz (k:=1) ubP H11.m;have H26:=m6 (k:=1) ubR H12.m H11.m;have H27:=tj (k:=1) ucw H14.m;have H28:=tf (k:=1) ucv uac uad uab H15.m H14.m;have H29:=u4 (k:=2) ucA uab H1.m H16.m;have H30:=Co (k:=2) ub1 uaa uag H2.m H18.m;have H31:=Du (k:=2) ubW H20.m;have H32:=wG (k:=2) ucl H5.m H21.m;have H33:=Ao (k:=2) ub7 uai H20.m H5.m;have H34:=Av (k:=2) ubX H20.m;have H35:=sN (k:=2) ucf uaD uax H22.m;have H36:=sJ (k:=2) ucd H7.m H6.m H23.m;have H37:=wR (k:=2) ubN H10.m H25.m H26.m;have H38:=AL (k:=2) ucy uaa H27.m H28.m;have H39:=wJ (k:=3) ucm uaf H30.m H19.m H31.m H4.m;have H40:=lJ (k:=3) uck H32.m;have H41:=Ap (k:=3) ub8 H33.m H5.m H6.m;have H42:=we (k:=3) ucg uaF uaz H22.m H34.m;have H43:=m7 (k:=3) ubK uag H24.m H37.m;have H44:=lS (k:=3) ucz uaa uab H13.m H38.m;have H45:=sV (k:=4) uco H40.m;have H46:=u7 (k:=4) ub4 H30.m H19.m H41.m;have H47:=mT (k:=4) uca uai H41.m H7.m;have H48:=AR (k:=4) ucp H30.m H39.m H19.m;have H49:=wb (k:=5) ucc H47.m H36.m H7.m H41.m;have H50:=Az (k:=6) uch H35.m H34.m H49.m;have H51:=AE (k:=7) ucj ual H50.m;have H52:=wz (k:=8) uci uaH uaI H30.m H46.m H42.m H51.m;have H53:=CD (k:=9) ucn ual H30.m H39.m H45.m H52.m;exact CI (k:=10) F0 uab H0.m H29.m H17.m H53.m H43.m H44.m H48.m H13.m H28.m
theorem walk {l:PySem.W.OpenLaw} {q:Program} {loose:List Str} {XP:(Str->Option Value)->Heap->Prop} {YP:World->Heap->Prop} {d:DefRec} {K:Params->DP} (ts:List (DR×Str)) (hn:l.most=some 63) (hdf:d.params.defaults=[])
  (hY:∀ (w:World) (h:Heap),YP w h->(K w.params).In h/\∀ p∈ts,h.get? p.1=some (G0 #[])) (hB:∀ w:World,bU (K w.params) ts=true)
  (F:∀ (w:World) (mg:Str->Option Value) (fa:DR) (h:Heap),(K w.params).In h->h.Ns El mg->mg d.name=some (.ref fa) ->
   ∃ fd:FuncData,(∀ (s:Shared) (u:Value),BindsTo s fd ⟨[u],[]⟩ [("_law_script",u)])/\∀ base:Heap,(K w.params).In base->base.Ns El mg->FnOk l.prog w (K w.params) mg base CX0 11 fa fd qh (oS (K w.params))) :
  PySem.W.WalkO q loose XP YP l.row.toRowW d [] (fun f vs=>PySem.call f vs) :=
 L2.walk_T (n:=63) (k:=11) (x:="_law_script") (CX:=fun _=>CX0) (sp:=fun w=>oS (K w.params)) ts hn (by decide) hdf ⟨rfl,by decide,by decide⟩ hY hB F (fun _ _ a ns hl hS=>⟨a,ns,rfl,hS,hl,fun _=>rfl⟩) fun _ _ _ _ _ z=>z
end My
namespace PySem.W.Fast
def tw10327038581016659094:Nat:=0
def tw10435193994999608619:Nat:=0
def tw10454288641489930059:Nat:=0
def tw10478105212894683684:Nat:=0
def tw10605880791105349778:Nat:=0
def tw10748204598908835441:Nat:=0
def tw10758413316094698035:Nat:=0
def tw10770931628710889158:Nat:=0
def tw10893870175659444339:Nat:=0
def tw11077552478173517482:Nat:=0
def tw11180942836200077090:Nat:=0
def tw1142078048255994997:Nat:=0
def tw11471065159489411983:Nat:=0
def tw11568441041517598280:Nat:=0
def tw11663357629530382419:Nat:=0
def tw11786972110380710237:Nat:=0
def tw12006730607020991691:Nat:=0
def tw12164514633712088822:Nat:=0
def tw12390677443904959397:Nat:=0
def tw12447418847610418469:Nat:=0
def tw12493612486998795041:Nat:=0
def tw12551854299169663230:Nat:=0
def tw12557538396563241799:Nat:=0
def tw12614637967227788825:Nat:=0
def tw12796572371816973359:Nat:=0
def tw12980941914355363851:Nat:=0
def tw13012995642306620764:Nat:=0
def tw13047948346711558019:Nat:=0
def tw13230399831942346390:Nat:=0
def tw13257150347392056007:Nat:=0
def tw13267068280060975622:Nat:=0
def tw13556843742502515925:Nat:=0
def tw13595671149825527405:Nat:=0
def tw13617779174431407714:Nat:=0
def tw13635332718329592396:Nat:=0
def tw13648506960473945285:Nat:=0
def tw13701744013967587505:Nat:=0
def tw14122830097357225117:Nat:=0
def tw14135780768107772543:Nat:=0
def tw14599603964547196683:Nat:=0
def tw1470628085398967975:Nat:=0
def tw14848938165583461307:Nat:=0
def tw14850779578294601001:Nat:=0
def tw14957007121265429523:Nat:=0
def tw15036263305360147355:Nat:=0
def tw1514992653718151694:Nat:=0
def tw15181936813514700920:Nat:=0
def tw15201962059283590386:Nat:=0
def tw15217808709162880020:Nat:=0
def tw15432983995583383802:Nat:=0
def tw1548147502591339841:Nat:=0
def tw15703914480087359015:Nat:=0
def tw15790975505075094632:Nat:=0
def tw15801056213491541508:Nat:=0
def tw15904966859068047106:Nat:=0
def tw16021569588512408633:Nat:=0
def tw16029913256505058571:Nat:=0
def tw16112022561475295734:Nat:=0
def tw16209729398985738349:Nat:=0
def tw1633764991432612440:Nat:=0
def tw16367479047705548972:Nat:=0
def tw16570384600038657570:Nat:=0
def tw16636957120865919096:Nat:=0
def tw16649603081000798994:Nat:=0
def tw16696141725329968110:Nat:=0
def tw16818706923260931309:Nat:=0
def tw16836808040995380208:Nat:=0
def tw16989350905767942029:Nat:=0
def tw17112582938316349612:Nat:=0
def tw17232213701761224831:Nat:=0
def tw17262757641390270449:Nat:=0
def tw17330867721951204637:Nat:=0
def tw17470219865809953066:Nat:=0
def tw17573226244732731421:Nat:=0
def tw17689656641486926314:Nat:=0
def tw17707464877573381637:Nat:=0
def tw17914356341726626613:Nat:=0
def tw18032830476686742897:Nat:=0
def tw18207525634244042257:Nat:=0
def tw18314783504510279070:Nat:=0
def tw18445022963913990079:Nat:=0
def tw1987908364593836665:Nat:=0
def tw2212711008792380863:Nat:=0
def tw2255224257365314323:Nat:=0
def tw2348413180253529734:Nat:=0
def tw2442096765901204203:Nat:=0
def tw2675155749393394901:Nat:=0
def tw2773928138258529315:Nat:=0
def tw3066408120291290849:Nat:=0
def tw311993066564372898:Nat:=0
def tw3165017826691220674:Nat:=0
def tw3311220865131256801:Nat:=0
def tw3372903157393270796:Nat:=0
def tw3392625143800259289:Nat:=0
def tw3402383986606661421:Nat:=0
def tw3469553611013874702:Nat:=0
def tw3523577108530203866:Nat:=0
def tw3532833338634237681:Nat:=0
def tw3691652849006111907:Nat:=0
def tw3951874284437836337:Nat:=0
def tw3969591346698596283:Nat:=0
def tw4099561434472629694:Nat:=0
def tw423346658991315799:Nat:=0
def tw4395215338361904829:Nat:=0
def tw444851439957334215:Nat:=0
def tw4558032575547284367:Nat:=0
def tw4746342521627764864:Nat:=0
def tw483086189405496199:Nat:=0
def tw4853140933704590364:Nat:=0
def tw4969788466844564925:Nat:=0
def tw5041378206336661700:Nat:=0
def tw5052078932446713286:Nat:=0
def tw5316364592282621344:Nat:=0
def tw5331261246476073952:Nat:=0
def tw5487424742305051345:Nat:=0
def tw5751214227542964535:Nat:=0
def tw5804196311963839063:Nat:=0
def tw5813574700946069565:Nat:=0
def tw6050908714937268473:Nat:=0
def tw6138477297783665062:Nat:=0
def tw6332942026273821254:Nat:=0
def tw6436794813069170549:Nat:=0
def tw6516773831568470072:Nat:=0
def tw6697028766031742077:Nat:=0
def tw6800356970362365901:Nat:=0
def tw6839306410367592459:Nat:=0
def tw6840082167073456095:Nat:=0
def tw6846862182819894800:Nat:=0
def tw694180725420814104:Nat:=0
def tw6949184148346692373:Nat:=0
def tw734993003555121256:Nat:=0
def tw739724261599215779:Nat:=0
def tw7487922090382513279:Nat:=0
def tw752131472046512734:Nat:=0
def tw7793943155972315663:Nat:=0
def tw7841055151369631336:Nat:=0
def tw8038470079239149215:Nat:=0
def tw8094626473706016131:Nat:=0
def tw8230803120027396700:Nat:=0
def tw8247031659563170910:Nat:=0
def tw8340652473122223355:Nat:=0
def tw8355056796793419055:Nat:=0
def tw8547506557170161679:Nat:=0
def tw8562609780282371281:Nat:=0
def tw8724776736839045541:Nat:=0
def tw8776218740362340144:Nat:=0
def tw8854256543376855070:Nat:=0
def tw9224277734084997385:Nat:=0
def tw9252959709543251488:Nat:=0
def tw9376695161616411864:Nat:=0
def tw9664550803492541515:Nat:=0
def tw9687507574429710211:Nat:=0
def tw9755739704249509162:Nat:=0
def tw9953502227792320278:Nat:=0
end PySem.W.Fast
open PySem PySem.W PyProof.Rows
set_option maxRecDepth 100000 in
set_option maxHeartbeats 0 in
theorem PySem.Challenge.cw_heightrings_k54_whole_cuts_never_meet_holds : PySem.Challenge.rw_heightrings_k54_whole_cuts_never_meet.Holds := by
 w_on;o_law;k_head;(case hw=>w_witness2)
 k_fill
 refine My.walk (l:=PySem.Challenge.rw_heightrings_k54_whole_cuts_never_meet) [] rfl rfl (fun w h Y=>⟨by first | exact PySem.W.kIn_of Y | exact PySem.W.km_in_of Y,fun p hp=>by cases hp⟩) (fun w=>by kernel_rfl) ?F
 case F =>
  intro w mg fa h KX G hmg
  refine' My.all_mk KX G hmg ?a1 ?a2 ?a3 ?a4 ?a5 ?a6 ?a7 ?a8 ?a9 ?a10 ?a11 ?a12 ?a13 ?a14 ?a15 ?a16 ?a17 ?a18 ?a19 ?a20 ?a21 ?a22 ?a23 ?a24 ?a25 ?a26 ?a27 ?a28 ?a29 ?a30 ?a31 ?a32 ?a33 ?a34 ?a35 ?a36 ?a37 ?a38 ?a39 ?a40 ?a41 ?a42 ?a43 ?a44 ?a45 ?a46 ?a47 ?a48 ?a49 ?a50 ?a51 ?a52 ?a53 ?a54 ?a55 ?uaO ?uaP ?uaQ ?uaR ?uaS ?uaT ?uaU ?uaV ?uaW ?uaX ?uaY ?uaZ ?ua0 ?ua1 ?ua2 ?ua3 ?ua4 ?ua5 ?uax ?uaz
  (case a1=>refine⟨?_,?_,?_,?_⟩ <;> k_is)
  (case a2=>refine⟨?_,?_,?_,?_⟩ <;> k_is)
  (case a3=>refine⟨?_,?_,?_,?_⟩ <;> k_is)
  (case a4=>refine⟨?_,?_,?_,?_⟩ <;> k_is)
  (case a5=>refine⟨?_,?_,?_,?_⟩ <;> k_is)
  (case a6=>refine⟨?_,?_,?_,?_⟩ <;> k_is)
  (case a7=>refine⟨?_,?_,?_,?_⟩ <;> k_is)
  (case a8=>refine⟨?_,?_,?_,?_⟩ <;> k_is)
  (case a9=>refine⟨?_,?_,?_,?_⟩ <;> k_is)
  (case a10=>refine⟨?_,?_,?_,?_⟩ <;> k_is)
  (case a11=>refine⟨?_,?_,?_,?_⟩ <;> k_is)
  (case a12=>refine⟨?_,?_,?_,?_⟩ <;> k_is)
  (case a13=>refine⟨?_,?_,?_,?_⟩ <;> k_is)
  (case a14=>refine⟨?_,?_,?_,?_⟩ <;> k_is)
  (case a15=>refine⟨?_,?_,?_,?_⟩ <;> k_is)
  (case a16=>refine⟨?_,?_,?_,?_⟩ <;> k_is)
  (case a17=>refine⟨?_,?_,?_,?_⟩ <;> k_is)
  (case a18=>refine⟨?_,?_,?_,?_⟩ <;> k_is)
  (case a19=>refine⟨?_,?_,?_,?_⟩ <;> k_is)
  (case a20=>refine⟨?_,?_,?_,?_⟩ <;> k_is)
  (case a21=>refine⟨?_,?_,?_,?_⟩ <;> k_is)
  (case a22=>refine⟨?_,?_,?_,?_⟩ <;> k_is)
  (case a23=>refine⟨?_,?_,?_,?_⟩ <;> k_is)
  (case a24=>refine⟨?_,?_,?_,?_⟩ <;> k_is)
  (case a25=>refine⟨?_,?_,?_,?_⟩ <;> k_is)
  (case a26=>refine⟨?_,?_,?_,?_⟩ <;> k_is)
  (case a27=>refine⟨?_,?_,?_,?_⟩ <;> k_is)
  (case a28=>refine⟨?_,?_,?_,?_⟩ <;> k_is)
  (case a29=>refine⟨?_,?_,?_,?_⟩ <;> k_is)
  (case a30=>refine⟨?_,?_,?_,?_⟩ <;> k_is)
  (case a31=>refine⟨?_,?_,?_,?_⟩ <;> k_is)
  (case a32=>refine⟨?_,?_,?_,?_⟩ <;> k_is)
  (case a33=>refine⟨?_,?_,?_,?_⟩ <;> k_is)
  (case a34=>refine⟨?_,?_,?_,?_⟩ <;> k_is)
  (case a35=>refine⟨?_,?_,?_,?_⟩ <;> k_is)
  (case a36=>refine⟨?_,?_,?_,?_⟩ <;> k_is)
  (case a37=>refine⟨?_,?_,?_,?_⟩ <;> k_is)
  (case a38=>refine⟨?_,?_,?_,?_⟩ <;> k_is)
  (case a39=>refine⟨?_,?_,?_,?_⟩ <;> k_is)
  (case a40=>refine⟨?_,?_,?_,?_⟩ <;> k_is)
  (case a41=>refine⟨?_,?_,?_,?_⟩ <;> k_is)
  (case a42=>refine⟨?_,?_,?_,?_⟩ <;> k_is)
  (case a43=>refine⟨?_,?_,?_,?_⟩ <;> k_is)
  (case a44=>refine⟨?_,?_,?_,?_⟩ <;> k_is)
  (case a45=>refine⟨?_,?_,?_,?_⟩ <;> k_is)
  (case a46=>refine⟨?_,?_,?_,?_⟩ <;> k_is)
  (case a47=>refine⟨?_,?_,?_,?_⟩ <;> k_is)
  (case a48=>refine⟨?_,?_,?_,?_⟩ <;> k_is)
  (case a49=>refine⟨?_,?_,?_,?_⟩ <;> k_is)
  (case a50=>refine⟨?_,?_,?_,?_⟩ <;> k_is)
  (case a51=>refine⟨?_,?_,?_,?_⟩ <;> k_is)
  (case a52=>refine⟨?_,?_,?_,?_⟩ <;> k_is)
  (case a53=>refine⟨?_,?_,?_,?_⟩ <;> k_is)
  (case a54=>refine⟨?_,?_,?_,?_⟩ <;> k_is)
  (case a55=>refine⟨?_,?_,?_,?_⟩ <;> k_is)
  (case uaO=>k_is)
  (case uaP=>k_is)
  (case uaQ=>k_is)
  (case uaR=>k_is)
  (case uaS=>k_is)
  (case uaT=>k_is)
  (case uaU=>k_is)
  (case uaV=>k_is)
  (case uaW=>k_is)
  (case uaX=>k_is)
  (case uaY=>k_is)
  (case uaZ=>k_is)
  (case ua0=>k_is)
  (case ua1=>k_is)
  (case ua2=>k_is)
  (case ua3=>k_is)
  (case ua4=>k_is)
  (case ua5=>k_is)
  (case uax=>kernel_rfl)
  (case uaz=>kernel_rfl)
end
