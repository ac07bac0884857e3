import PyProof.Rows.All
import KE.KDictSum
import KE.KEqDict
import KE.KFromBytes
import KE.KIntText
import KE.KLam
import KE.KMinKey
import KE.KNestM
import KE.KRevIter
import KE.KRevSl
import KE.KSortTup
import KE.KTabLook
import KE.KTryMore
import OpenK.ZHead
import PySem.Challenge.RW_heightrings_k43_peaks_and_passes
import Wide.FinOn
open List renaming length_map → Hc,getElem?_eq_getElem → Hd,getElem?_eq_some_iff → Hg,mem_cons_self → Hk,mem_cons_of_mem → Hl,getD_eq_getElem?_getD → Hn,getElem?_map → Ho,mem_of_getElem? → Hu,mem_cons → Hv,mem_singleton → Hw,mem_map → Hz,length_append → HA,mem_append → HC,getElem?_append_left → HE,size_toArray → HG,map_append → HH,map_cons → HI,mem_append_right → HJ,length_cons → HK,getElem?_append_right → HL,range → HN,mem_append_left → HQ,mem_filter → HV,length_range → HY,mem_range → Ia,getElem?_eq_none → Ib,take_length → Ic,mem_flatMap → Ig,find?_cons → Ih,getElem?_of_mem → Ii,length_filter_le → Ij,length_take → Im,getElem_mem → Io,filter_cons → Ip,take_add_one → Iv,map_map → Iw,length_singleton → Iz,nodup_append → IA,not_mem_nil → IB,nodup_cons → ID,nodup_nil → IE,pairwise_map → IF,filter_append → IM,lookup_cons → IS,mem_flatten → IT,toArray → IV,append_nil → IX,append_assoc → Jg,getElem?_range → Jm,flatMap_append → Jn,pairwise_cons → Js,mem_map_of_mem → Jx,exists_mem_of_ne_nil → Jy,replicate → JB,reverse_append → JE,getElem?_set_self → JF,all_eq_true → JI,mem_reverse → JJ,exists_cons_of_ne_nil → JN,pairwise_iff_getElem → JO,length_nil → JR,ext_getElem? → JT,flatMap_cons → JW,mem_of_head? → JX,getElem?_take_of_lt → JY,map_congr_left → J0,getElem_of_mem → J1,getElem?_replicate → J6,take_zero → J7,mem_filterMap → J8,zip_cons_cons → Kc,head?_eq_getElem? → Kf,forIn_cons → Kg,range_succ → Kh,take_append_drop → Kl,getElem?_set_ne → Kn,forIn_nil → Kq,reverse_reverse → Kr,mem_erase_of_ne → Ks,map_nil → Kt,filterMap_cons → Ky,length_pos_iff → Kz,length_reverse → KA,findSome?_cons → KC,all_cons → KG,any_cons → KH,length_erase_of_mem → KL,length_set → KO,map → KY,take_succ → K0,length_pos_of_mem → K1,length_replicate → K2,getElem_inj → K4,getElem?_mapIdx → K6,pairwise_append → K8,filter_sublist → Lc,find?_eq_none → Lj,getElem_range → Lm,getLast?_eq_getElem? → Lp,drop_eq_getElem_cons → Lq,reverse_cons → Lx,nodup_range → LF,map_flatMap → LI,length_eq_zero_iff → LJ,take_of_length_le → LO,pairwise_lt_range → LQ,all_nil → LU,of_mem_zip → LZ,nil_append → L1,filter_nil → L4,length → L9,mem_of_getLast? → Mh,filter_flatMap → Mo,map_eq_nil_iff → Mp
open Bool renaming false_ne_true → He,and_eq_true → Hq,false_eq_true → Iu,not_true → II,true_and → Kj,false_and → Ko,and_true → KJ,not_false → KZ,noConfusion → LL,not_not → LX,and_false → Me
open PySem renaming wpAny_bind → Hf,Addr → Hm,wpAny_pure → Hs,wpAny → HP,mainGlobals → HX,wpAny_holding → Ik,starEach → Iq,sizeLine → Ir,foldedSetIterable → IG,compareOp → IJ,cLine → IZ,letOwnedTupleGo → Jk,wpAny_truthy_bool → Jo,boot_len → Jq,wpAny_mono → Jt,mem_of_lookup → JZ,wpAny_specialOf → Ki,wpAny_execs_cons → LM,codeAny_mono → Ms
open PySem.W renaming Frag → Hj,nsIn → Iy,mg_none_of → IC,codeIn → IK,kitOne → IL,codeHdIn → IQ,kia_one → IW,keepIn → Ji,fnOf → Jl,mg_of → Jz,tabObj → J3,findIn → J5,cellsFrom_some → Ka,envX → Le,Frag → Lf,codeRec_of → Lh,methodObj → Ls,specialIn → Lu,kitx_list → Lv,instObj → LY,kla_obj → L3,lookIn → L8,kla_fn → Mg,codeHd_of_K → Ml
open PySem.Heap renaming get?_push_of_some → Hr,lt_size → HD,get?_push_size → HS,get?_update_other → Il,SameBut → JS,get?_update_self → Kk,size_push → KU,size_update → LG
open Nat renaming le_refl → Ht,le_of_ble_eq_true → HB,le_trans → HM,zero_le → HR,ne_of_lt → HW,lt_of_lt_of_le → HZ,le_of_lt → IH,lt_succ_of_lt → IU,min_le_right → Jd,not_lt_zero → Jr,lt_irrefl → Jw,le_of_eq → JA,mul_le_mul → JC,sub_self → Ku,ne_of_gt → KP,le_of_succ_le → KR,succ_pos → KS,lt_succ_of_le → KW,lt_succ_self → K5,lt_succ_iff → La,zero_add → Ld,le_succ → Lw,add_assoc → LA,lt_succ_iff_lt_or_eq → LC,not_lt → LN,lt_trans → LP,max_le → LV,mul_succ → Mr
open PySem.PyData renaming depthAll → Hy,eqv → HU,canLayAll0 → JU,eqvAll → Lz
open Array renaming length_toList → HF,getElem?_eq_getElem → Ja,getElem?_toList → Jp,getD_eq_getD_getElem? → JG,getElem?_eq_none → JH,forIn_toList → JK,getD → Kb,mem_toList_iff → Kp,replicate → Lb,getElem?_eq_some_iff → Li,size_map → Mc,toList_append → Mm
open PySem.PassesOwn renaming never → Ie
open PySem.F renaming plainAttrs_list → IP,slot_list_append → Je,type_list_append → Jf,slot_tuple_hash → JD,slot_dict_keyiterator_next → JL,slot_set_contains → Kw,slot_dict_getitem → Kx,slot_set_add → K7,slot_dict_iter → LS,args_list_append_2 → Mb,type_set_add → Mi,entry_list_append → Mj
open PyProof.Rows renaming boot_tuple → IY,callWith_type1 → Ju,boot_sorted → KN,boot_list → LW,boot_all → L5,boot_sum → L6,boot_set → L7
open Classical renaming byContradiction → I9,propDecidable → Jh
open Option renaming map_eq_some_iff → Jb,map_some → JQ,isNone_iff_eq_none → Kv,isSome_iff_exists → KD,getD_some → LH
open Ne renaming symm → Jc
open PySem.Obj renaming mapSeq → Jj,putSet → LR
open Prod renaming ext → JM,fst → LD
open PySem.Builtin.Tuple renaming tupleHashOf → JP
open PySem.Str renaming ofString → JV
open PySem.Heap.SameBut renaming update → J2
open PySem.Builtin.Range renaming rangeSize → J4,small → Mn
open False renaming elim → J9
open Int renaming emod_lt_of_pos → Kd,le_trans → Ke,toNat_natCast → Km,eq_ofNat_of_zero_le → LK,emod_nonneg → L0
open PySem.SetTable renaming toList_insertAt → KI,sizeAbove → Ll,fill → Mq
open PySem.Calls renaming callWith_builtin → KQ,Name_function_global → Lg,call_function_entry → Ln,evalArgs_plain → Ma
open PySem.SeqAt.ReadsAll renaming length → K3
open List.Pairwise renaming of_map → K9
open PySem.Builtin.Frozenset renaming oneOther → Lk,addrOf → LB
open PySem.Builtin.SmallTypes renaming nextOf → Lo
open Decidable renaming byContradiction → Lr
open PySem.Paired renaming length → Ly
open PySem.SeqAt renaming eqv_refl → Md
open PyProof.Rows.KTD renaming datumAt → Mf
open Option renaming some → MA,none → MF
open PySem renaming PyData → MB,Value → MD,Shared → ME,World → MH,Program → MI,Around → MJ
open Bool renaming true → MC,false → MG
set_option Elab.async false
set_option linter.all false
set_option maxRecDepth 100000
set_option maxHeartbeats 4000000
abbrev MQ:=List MD
abbrev MR:=Option MD
abbrev MS:=List Hm
abbrev MT:=List (Hm×PySem.Obj)
abbrev MU:=List PySem.Str
abbrev MV:=List PySem.Env
abbrev MW:=Option Hm
abbrev MX:=List PySem.Expr
abbrev MY:=List PySem.Stmt
abbrev MZ:=List PySem.Keyword
abbrev M0:=Option PySem.NameKind
abbrev M3:=Option Int
abbrev M4:=List Int
abbrev M5:=Option Nat
abbrev M6:=List (PySem.Str×PySem.NameKind)
abbrev M7:=List (PySem.Str×Hm)
abbrev M8:=List Nat
abbrev M9:=List MB
abbrev Na:=Option Bool
abbrev Nb:=List (List Int)
abbrev Nc:=List Bool
abbrev Nd:=List (MB×Hm)
abbrev Nf:=List (MB×MB)
abbrev Ng:=List (MB×Hm×MD)
abbrev Nh:=List (PySem.Str×List Int)
abbrev Ni:=List (PySem.Expr×PySem.Expr)
abbrev Nj:=List (Hm×PySem.Str)
abbrev Nk:=List (Int×MB)
abbrev Nl:=List (MB×List MB)
abbrev Nm:=List (Int×Int×Int)
theorem ML {α:Type _} {a b:α} (h:MA a=MA b):a=b:=Option.some.inj h
theorem MM {a b:Prop} (h:a):a\/b:=Or.inl h
theorem MN {a b:Prop} (h:b):a\/b:=Or.inr h
theorem MO {p:Prop} [h:Decidable p]:decide p=MC->p:=of_decide_eq_true
theorem MP {p:Prop} [h:Decidable p]:decide p=MG->¬p:=of_decide_eq_false
theorem Mv.{u} {c:Prop} {h:Decidable c} (q:¬c) {α:Sort u} {t e:α}:(ite c t e)=e:=if_neg q
theorem Mw.{u} {c:Prop} {h:Decidable c} (q:c) {α:Sort u} {t e:α}:(ite c t e)=t:=if_pos q
theorem Mx {p:Prop} [h:Decidable p]:p → decide p=MC:=decide_eq_true
theorem Mz {p:Prop} [h:Decidable p]:¬p → decide p=MG:=decide_eq_false
section
namespace L2
open PySem PySem.Spec PyProof.Rows
abbrev Key:=Sum Int Str
noncomputable def sF:Key->MD->Bool
 | .inl k,v=>Value.isInt k v
 | .inr x,v=>Value.isStrOf x v
noncomputable def G1 (w:MH):Key->Int
 | .inl k=>hashInt k
 | .inr x=>hashStr w x
theorem yD:∀ {k:Key} {v:MD},sF k v=MC->(∃ i t,k=Sum.inl i/\v=Value.int i t) \/ (∃ x t,k=Sum.inr x/\v=Value.str x t)
 | .inl i,v,h=>by
  obtain⟨t,e⟩:=Value.isInt_shape (k:=i) (v:=v) h;exact .inl ⟨i,t,rfl,e⟩
 | .inr x,v,h=>by
  obtain⟨t,e⟩:=Value.isStrOf_shape (x:=x) (v:=v) h;exact .inr ⟨x,t,rfl,e⟩
theorem ig (i:Int) (t:Tok):sF (.inl i) (.int i t)=MC:=by simp [sF,Value.isInt]
theorem D9 (a b:Int):decide ((Sum.inl a:Key)=Sum.inl b)=(a == b):=by
 by_cases e:a=b
 ·subst e;simp
 ·have h:¬ (Sum.inl a:Key)=Sum.inl b:=λq=>e (Sum.inl.inj q);rw [Mz h];exact (beq_eq_false_iff_ne.mpr e).symm
theorem Ea (a b:Str):decide ((Sum.inr a:Key)=Sum.inr b)=decide (a=b):=by
 by_cases e:a=b
 ·subst e;simp
 ·have h:¬ (Sum.inr a:Key)=Sum.inr b:=λq=>e (Sum.inr.inj q);rw [Mz h,Mz e]
theorem Eb (a:Int) (b:Str):decide ((Sum.inl a:Key)=Sum.inr b)=MG:=Mz (λq=>nomatch q)
theorem Ec (a:Str) (b:Int):decide ((Sum.inr a:Key)=Sum.inl b)=MG:=Mz (λq=>nomatch q)
noncomputable def cM (prog:MI) (w:MH):PySem.KeyKind prog w Key where
 is:=sF
 hash:=G1 w
 inj:=λv a b ha hb=>by
  rcases yD ha with⟨i,t,rfl,rfl⟩ | ⟨x,t,rfl,rfl⟩
  ·rcases yD hb with⟨j,u,rfl,e⟩ | ⟨y,u,rfl,e⟩
   ·injection e with e1 _;rw [e1]
   ·exact nomatch e
  ·rcases yD hb with⟨j,u,rfl,e⟩ | ⟨y,u,rfl,e⟩
   ·exact nomatch e
   ·injection e with e1 _;rw [e1]
 byValue:=λk v h=>by
  rcases yD h with⟨i,t,rfl,rfl⟩ | ⟨x,t,rfl,rfl⟩ <;> rfl
 pyHash:=λhv h=>by
  rcases yD hv with⟨i,t,rfl,rfl⟩ | ⟨x,t,rfl,rfl⟩
  ·exact wpAny_pyHash_int h
  ·exact wpAny_pyHash_str h
 eqBool:=λhu hv h=>by
  rcases yD hu with⟨i,t,rfl,rfl⟩ | ⟨x,t,rfl,rfl⟩
  ·rcases yD hv with⟨j,u,rfl,rfl⟩ | ⟨y,u,rfl,rfl⟩
   ·rw [D9] at h;exact wpAny_eqBool_int h
   ·rw [Eb] at h;exact SeqAt.EqAt.int_str i t y u _ _ _ _ h
  ·rcases yD hv with⟨j,u,rfl,rfl⟩ | ⟨y,u,rfl,rfl⟩
   ·rw [Ec] at h;exact SeqAt.EqAt.str_int x t j u _ _ _ _ h
   ·rw [Ea] at h;exact wpAny_eqBool_str h
 «strs»:=λk x t v h=>by
  rcases yD h with⟨i,u,rfl,e⟩ | ⟨y,u,rfl,e⟩
  ·exact nomatch e
  ·injection e with e1 _;subst e1;cases v <;> rfl
inductive V where
 | non | bl (b:Bool) | int (i:Int) | str (x:Str) | byt (b:Array UInt8) | flt (b:UInt64) | ref (a:Hm) | ty (n:String)
 deriving DecidableEq
def RelV:V->MD->Prop
 | .non,u=>u=Value.none
 | .bl b,u=>u=Value.bool b
 | .int i,u=>∃ t,u=Value.int i t
 | .str x,u=>∃ t,u=Value.str x t
 | .byt b,u=>∃ t,u=Value.bytes b t
 | .flt b,u=>∃ t,u=Value.float b t
 | .ref a,u=>u=Value.ref a
 | .ty n,u=>u=Value.type n
abbrev Vals:List V->MQ->Prop:=Paired RelV
theorem Vals.length {xs:List V} {us:MQ} (r:Vals xs us):xs.length=us.length:=Ly r
theorem Vals.get:∀ {xs:List V} {us:MQ} {i:Nat} {x:V},Vals xs us->xs[i]?=MA x->∃ u,us[i]?=MA u/\RelV x u
 | _,_,_,_,.nil,e=>by simp at e
 | _,_,0,_,.cons r _,e=>by simp at e;subst e;exact⟨_,rfl,r⟩
 | _,_,i+1,x,.cons _ t,e=>by
  obtain⟨u,h1,h2⟩:=Vals.get (i:=i) (x:=x) t (by simpa using e);exact⟨u,by simpa using h1,h2⟩
theorem Vals.set {x:V} {u:MD} (r:RelV x u):∀ {xs:List V} {us:MQ} (i:Nat),Vals xs us->Vals (xs.set i x) (us.set i u)
 | _,_,_,.nil=>.nil
 | _,_,0,.cons _ t=>.cons r t
 | _,_,i+1,.cons q t=>.cons q (Vals.set r i t)
theorem Vals.append:∀ {xs ys:List V} {us ws:MQ},Vals xs us->Vals ys ws->Vals (xs++ys) (us++ws)
 | _,_,_,_,.nil,s=>s
 | _,_,_,_,.cons r t,s=>.cons r (Vals.append t s)
def Ed:Option V->MR->Prop
 | some v,MA u=>RelV v u
 | none,MF=>True
 | _,_=>False
def KV {κ:Type}:List (κ×V)->List (κ×MD)->Prop:=Paired λ(p:κ×V) (q:κ×MD)=>p.1=q.1/\RelV p.2 q.2
noncomputable def kV:Key->V
 | .inl i=>.int i
 | .inr x=>.str x
inductive HO where
  | lst (xs:List V)
  | tup (xs:List V)
  | dK (kvs:List (Key×V)) | dT (kvs:List (List Key×V))
  | set (S:Int->Bool) (n:Nat)
  | ins (C dx:Hm) (fs:List (Str×V))
  | own (x:Hm)
  | xd (fs:List (Str×V))
  | met (f x:Hm)
  | rng (lo hi:Int)
  | frz (o:Obj) (u:HO)
  | tbl (q:Str)
  | ext (φ:Heap->Prop)
abbrev Hp:=Hm->Option HO
noncomputable def upd (H:Hp) (a:Hm) (o:HO):Hp:=λb=>if b=a then MA o else H b
theorem zw {H:Hp} {a:Hm} {o:HO}:upd H a o a=MA o:=by unfold upd;rw [Mw rfl]
theorem zz {H:Hp} {a b:Hm} {o:HO} (h:b≠a):upd H a o b=H b:=by unfold upd;rw [Mv h]
theorem zQ {H:Hp} {a b:Hm} {o:HO} (h:H a=MA o) (h':H b=MF):a≠b:=by
 intro e;subst e;rw [h] at h';cases h'
section
variable (P:MI) (w:MH)
def ObjOk (H:Hp) (h:Heap) (a:Hm):HO->Prop
 | .lst xs=>xs.length<=Ir/\∃ (its:MQ) (n:Nat),Vals xs its/\h.get? a=MA { cls:=.type "list",data:=.seq its.toArray n }
 | .tup xs=>xs.length<=Ir/\∃ its:MQ,Vals xs its/\IsTup h a its.toArray
 | .dK kvs=>kvs.length<=Ir/\(a == sysModules)=MG/\∃ vs,KV kvs vs/\h.DictOf (cM P w) a vs
 | .dT kvs=>kvs.length<=Ir/\(a == sysModules)=MG/\∃ xs:List (List Key×Hm×MD),
   Paired (λ(p:List Key×V) (q:List Key×Hm×MD)=>p.1=q.1/\H q.2.1=MA (.tup (p.1.map kV))/\RelV p.2 q.2.2) kvs xs /\
   ∃ o es ep,h.get? a=MA o/\o.ExactDict/\o.data=.dict es ep/\es.toList=xs.map (entryOfKey (tupleKind (cM P w)))/\(xs.map (·.1)).Nodup
 | .set S n=>h.SetOf (intKind P w) a S n
 | .ins C dx fs=>H dx=MA (.own a)/\fs.length<=1000/\dx≠a/\h.get? a=MA (LY C dx) /\
   ∃ mA,h.Ns1 dx mA/\(∀ f,Ed (fs.lookup f) (mA f))/\PySem.Within mA (fs.map (·.1))
 | .own _=>∃ o,h.get? a=MA o
 | .xd fs=>∃ mA,h.Ns1 a mA/\∀ f,Ed (fs.lookup f) (mA f)
 | .rng lo hi=>∃ t u v,h.get? a=MA { cls:=.type "range",data:=.fields #[.int lo t,.int hi u,.int 1 v] }
 | .frz o u=>h.get? a=MA o/\ObjOk H h a u
 | .tbl q=>∃ ps,h.get? a=MA (J3 ps)/\TriplesOk ps.toList/\∀ pos cv,codeAmong pos ps.toList=MA cv->∃ c,cv=.ref c/\H c=MA (.own a)/\h.CodeRec (.ref c) q
 | .met f x=>h.get? a=MA (Ls (.ref f) (.ref x))
 | .ext φ=>φ h/\(∃ o,h.get? a=MA o)/\∀ h1 h2:Heap,φ h1->(∀ o,h1.get? a=MA o->h2.get? a=MA o)->φ h2
def HOk (H:Hp) (h:Heap):Prop:=∀ a o,H a=MA o->ObjOk P w H h a o
end
section
variable {P:MI} {w:MH} {H H':Hp} {h h':Heap} {a:Hm} {o:HO}
theorem ObjOk.lt (x:ObjOk P w H h a o):a<h.objs.size:=by
 cases o with
 | lst xs=>obtain⟨_,_,_,_,e⟩:=x;exact HD e
 | tup xs=>obtain⟨_,_,_,p⟩:=x;exact p.lt
 | dK kvs=>obtain⟨_,_,_,_,o,_,_,e,_⟩:=x;exact HD e
 | dT kvs=>obtain⟨_,_,_,_,o,_,_,e,_⟩:=x;exact HD e
 | set S n=>obtain⟨o,_,_,_,e,_⟩:=x;exact HD e
 | ins C dx fs=>obtain⟨_,_,_,e,_⟩:=x;exact HD e
 | own y=>obtain⟨_,e⟩:=x;exact HD e
 | xd fs=>obtain⟨_,⟨_,_,_,e,_⟩,_⟩:=x;exact HD e
 | rng lo hi=>obtain⟨_,_,_,e⟩:=x;exact HD e
 | frz ob u=>obtain⟨e,_⟩:=x;exact HD e
 | tbl q=>obtain⟨_,e,_⟩:=x;exact HD e
 | met f y=>exact HD (show h.get? a=MA _ from x)
 | ext φ=>obtain⟨_,⟨_,e⟩,_⟩:=x;exact HD e
theorem Paired.mapP {α β:Type} {F G:α->β->Prop}:∀ {l₁:List α} {l₂:List β},Paired F l₁ l₂->(∀ a b,F a b->G a b)->Paired G l₁ l₂
 | _,_,.nil,_=>.nil
 | _,_,.cons r t,f=>.cons (f _ _ r) (Paired.mapP t f)
theorem ObjOk.stay (x:ObjOk P w H h a o) (k:∀ b u,(b=a \/ H b=MA (.own a))->h.get? b=MA u->h'.get? b=MA u)
  (ho:∀ b,H b=MA (.own a)->H' b=MA (.own a)) (ht:∀ b xs,H b=MA (.tup xs)->H' b=MA (.tup xs)):ObjOk P w H' h' a o:=by
 induction o with
 | lst xs=>obtain⟨z,its,n,r,e⟩:=x;exact⟨z,its,n,r,k _ _ (.inl rfl) e⟩
 | tup xs=>obtain⟨z,its,r,ob,e,c⟩:=x;exact⟨z,its,r,ob,k _ _ (.inl rfl) e,c⟩
 | dK kvs=>obtain⟨z,y,vs,r,ob,es,ep,e,c⟩:=x;exact⟨z,y,vs,r,ob,es,ep,k _ _ (.inl rfl) e,c⟩
 | dT kvs =>
  obtain⟨z,y,xs,r,ob,es,ep,e,c⟩:=x;exact⟨z,y,xs,Paired.mapP r λp q z=>⟨z.1,ht _ _ z.2.1,z.2.2⟩,ob,es,ep,k _ _ (.inl rfl) e,c⟩
 | set S n=>obtain⟨ob,es,ep,t,e,c⟩:=x;exact⟨ob,es,ep,t,k _ _ (.inl rfl) e,c⟩
 | ins C dx fs =>
  obtain⟨d,z,ne,e,mA,⟨od,es,ep,e2,c⟩,r⟩:=x;exact⟨ho _ d,z,ne,k _ _ (.inl rfl) e,mA,⟨od,es,ep,k _ _ (.inr d) e2,c⟩,r⟩
 | own y=>obtain⟨ob,e⟩:=x;exact⟨ob,k _ _ (.inl rfl) e⟩
 | xd fs=>obtain⟨mA,⟨od,es,ep,e,c⟩,r⟩:=x;exact⟨mA,⟨od,es,ep,k _ _ (.inl rfl) e,c⟩,r⟩
 | rng lo hi=>obtain⟨t,u,v,e⟩:=x;exact⟨t,u,v,k _ _ (.inl rfl) e⟩
 | frz ob u ih=>obtain⟨e,q⟩:=x;exact⟨k _ _ (.inl rfl) e,ih q⟩
 | tbl q =>
  obtain⟨ps,e,tr,r⟩:=x;refine⟨ps,k _ _ (.inl rfl) e,tr,λpos cv z=>?_⟩;obtain⟨c,ec,hc,c2,oc,vs,tq,e2,e3,e4,e5⟩:=r pos cv z;cases e2;exact⟨c,ec,ho _ hc,c,oc,vs,tq,rfl,k _ _ (.inr hc) e3,e4,e5⟩
 | met f y =>
  have e:h.get? a=MA (Ls (.ref f) (.ref y)):=x;show h'.get? a=MA (Ls (.ref f) (.ref y));exact k a _ (.inl rfl) e
 | ext φ=>obtain⟨p,⟨o,e⟩,st⟩:=x;exact⟨st _ _ p λo q=>k _ _ (.inl rfl) q,⟨o,k _ _ (.inl rfl) e⟩,st⟩
theorem HOk.lt (x:HOk P w H h) (e:H a=MA o):a<h.objs.size:=(x a o e).lt
theorem HOk.fresh (x:HOk P w H h) (e:h.objs.size<=a):H a=MF:=by
 cases q:H a with
 | none=>rfl
 | some u=>exact absurd (HZ (x.lt q) e) (Jw _)
theorem HOk.kept (x:HOk P w H h) (k:∀ b u,h.get? b=MA u->h'.get? b=MA u):HOk P w H h':=λa o e =>
 (x a o e).stay (λb u _ q=>k b u q) (λ_ q=>q) λ_ _ q=>q
theorem HOk.laid (x:HOk P w H h) (k:∀ b u,h.get? b=MA u->h'.get? b=MA u) (hp:h.objs.size<=a) (new:ObjOk P w (upd H a o) h' a o):HOk P w (upd H a o) h':=λb u e=>by
 have hn:=x.fresh hp;by_cases hb:b=a
 ·subst hb;rw [zw] at e;cases e;exact new
 ·rw [zz hb] at e;exact (x b u e).stay (λc v _ q=>k c v q) (λc q=>by rw [zz (zQ q hn)];exact q) λc xs q=>by rw [zz (zQ q hn)];exact q
end
def Rd (H:Hp) (a:Hm) (u:HO):Prop:=H a=MA u \/ ∃ o,H a=MA (.frz o u)
theorem Rd.ok {P:MI} {w:MH} {H:Hp} {h:Heap} {a:Hm} {u:HO} (r:Rd H a u) (x:HOk P w H h):ObjOk P w H h a u:=by
 rcases r with r | ⟨o,r⟩
 ·exact x a u r
 ·obtain⟨_,q⟩:=x a _ r;exact q
def Mut:Option HO->Prop
 | some (.lst _)=>True
 | some (.dK _)=>True
 | some (.dT _)=>True
 | some (.set _ _)=>True
 | some (.ins _ _ _)=>True
 | some (.ext _)=>True
 | _=>False
section
variable {P:MI} {w:MH} {H:Hp} {h h':Heap} {x e:Hm} {o':HO}
theorem HOk.write (ok:HOk P w H h) (mu:Mut (H x)) (he:e=x \/ H e=MA (.own x)) (k:∀ b u,b≠e->h.get? b=MA u->h'.get? b=MA u) (heo:∃ u,h'.get? e=MA u)
  (new:ObjOk P w (upd H x o') h' x o'):HOk P w (upd H x o') h':=λb u q=>by
 have nown:∀ c y,H c=MA (.own y)->c≠x:=λc y r z=>by subst z;rw [r] at mu;exact mu
 have ntup:∀ c xs,H c=MA (.tup xs)->c≠x:=λc xs r z=>by subst z;rw [r] at mu;exact mu
 by_cases hb:b=x
 ·subst hb;rw [zw] at q;cases q;exact new
 ·rw [zz hb] at q;by_cases hbe:b=e
  ·have q':H b=MA (.own x):=by
    rcases he with z | z
    ·exact absurd (hbe.trans z) hb
    ·rw [hbe];exact z
   rw [q] at q';cases q';obtain⟨v,hv⟩:=heo;exact⟨v,by rw [hbe];exact hv⟩
  ·refine (ok b u q).stay (λc v hc r=>k c v ?_ r) (λc r=>by rw [zz (nown c b r)];exact r) λc xs r=>by rw [zz (ntup c xs r)];exact r
   rcases hc with rfl | hc
   ·exact hbe
   ·rintro rfl;rcases he with z | z
    ·exact nown c b hc z
    ·rw [hc] at z;cases z;exact hb rfl
end
structure Un (fs ex:MS) (H H':Hp) (h h':Heap):Prop where
 keep:∀ b o,h.get? b=MA o->H b=MF->b∉fs->b∉ex->h'.get? b=MA o
 slot:∀ b o,h.get? b=MA o->H b=MF->b∈fs->b∉ex->∃ sl,h'.get? b=MA { o with slots:=sl }
 free:∀ b o,h.get? b=MA o->H b=MF->b∉ex->H' b=MF
 there:∀ b o,h.get? b=MA o->b∉ex->∃ o',h'.get? b=MA o'
 tups:∀ b xs,H b=MA (.tup xs)->H' b=MA (.tup xs)
 frzs:∀ b o u,H b=MA (.frz o u)->H' b=MA (.frz o u)
 tbls:∀ b q,H b=MA (.tbl q)->H' b=MA (.tbl q)
section
variable {fs fs' ex ex':MS} {H H1 H2:Hp} {h h1 h2 h':Heap} {a x e:Hm} {o:HO}
theorem Un.any (u:Un fs ex H H1 h h1) {b:Hm} {ob:Obj} (q:h.get? b=MA ob) (n:H b=MF) (hx:b∉ex):∃ sl,h1.get? b=MA { ob with slots:=sl }:=by
 by_cases hb:b∈fs
 ·exact u.slot b ob q n hb hx
 ·exact⟨ob.slots,u.keep b ob q n hb hx⟩
theorem Un.kept (k:∀ b u,h.get? b=MA u->h'.get? b=MA u):Un fs ex H H h h' :=
 ⟨λb ob q _ _ _=>k b ob q,λb ob q _ _ _=>⟨ob.slots,k b ob q⟩,λ_ _ _ n _=>n,λb ob q _=>⟨ob,k b ob q⟩,λ_ _ q=>q,λ_ _ _ q=>q,λ_ ps q=>by exact q⟩
theorem Un.refl:Un fs ex H H h h:=Un.kept λ_ _ q=>q
theorem Un.laid (k:∀ b u,h.get? b=MA u->h'.get? b=MA u) (hp:h.objs.size<=a) (hn:H a=MF):Un fs ex H (upd H a o) h h' where
 keep:=λb u q _ _ _=>k b u q
 slot:=λb u q _ _ _=>⟨u.slots,k b u q⟩
 free:=λb u q n _=>by rw [zz (HW (HZ (HD q) hp))];exact n
 there:=λb u q _=>⟨u,k b u q⟩
 tups:=λb xs q=>by rw [zz (zQ q hn)];exact q
 frzs:=λb u xs q=>by rw [zz (zQ q hn)];exact q
 tbls:=λb ps q=>by rw [zz (zQ q hn)];exact q
theorem Un.write (mu:Mut (H x)) (he:e=x \/ H e=MA (.own x)) (k:∀ b u,b≠e->h.get? b=MA u->h'.get? b=MA u) (heo:∃ u,h'.get? e=MA u):Un fs ex H (upd H x o) h h':=by
 have hx:∀ b,H b=MF->b≠x:=λb n z=>by subst z;rw [n] at mu;exact mu
 have hb:∀ b,H b=MF->b≠e:=λb n z=>by
  subst z;rcases he with r | r
  ·exact hx b n r
  ·rw [n] at r;cases r
 have hm:∀ b u,H b=MA u->¬ Mut (MA u)->b≠x:=λb u q nm z=>by subst z;rw [q] at mu;exact nm mu
 refine⟨λb u q n _ _=>k b u (hb b n) q,λb u q n _ _=>⟨u.slots,k b u (hb b n) q⟩,λb u q n _=>by rw [zz (hx b n)];exact n,λb u q _=>?_,
  λb xs q=>by rw [zz (hm b _ q λz=>z)];exact q,λb u xs q=>by rw [zz (hm b _ q λz=>z)];exact q,λb ps q=>by rw [zz (hm b _ q λz=>z)];exact q⟩
 by_cases hbe:b=e
 ·subst hbe;exact heo
 ·exact⟨u,k b u hbe q⟩
end
noncomputable def trk (h:Heap) (H:Hp):MS:=(HN h.objs.size).filter λa=>(H a).isSome
noncomputable def my (h:Heap) (H:Hp):Heap:=PySem.W.hideAll h (trk h H)
theorem uH (h:Heap) (H:Hp):(my h H).objs.size=h.objs.size:=PySem.W.hideAll_size _ _
theorem fH {h:Heap} {H:Hp} {b:Hm} {o:Obj} (e:h.get? b=MA o) (n:H b=MF):(my h H).get? b=MA o :=
 PySem.W.hideAll_get _ e λhm=>by
  have q:(H b).isSome=MC:=(HV.mp hm).2;rw [n] at q;simp at q
theorem BO {h:Heap} {H:Hp} {b:Hm} {o:Obj} (e:(my h H).get? b=MA o):h.get? b=MA o/\H b=MF:=by
 have e':h.get? b=MA o:=PySem.W.of_hideAll (trk h H) e;refine⟨e',?_⟩;cases q:H b with
 | none=>rfl
 | some x =>
  have hm:b∈trk h H:=HV.mpr ⟨Ia.mpr (HD e'),by simp [q]⟩;have z:(my h H).get? b=MF:=PySem.W.hideAll_none (trk h H) hm;rw [z] at e;cases e
noncomputable def jz (g h:Heap) (L:Hm):MT:=(HN h.objs.size).filterMap λa=>if a=L \/ (g.get? a).isSome=MC then MF else (h.get? a).map λo=>(a,o)
theorem aO {g h:Heap} {L a:Hm} {o:Obj} (h1:a≠L) (h2:g.get? a=MF) (h3:h.get? a=MA o):(a,o)∈jz g h L :=
 J8.mpr ⟨a,Ia.mpr (HD h3),by simp [h1,h2,h3]⟩
theorem fI {g h:Heap} {L:Hm} {p:Hm×Obj} (hp:p∈jz g h L):p.1≠L/\g.get? p.1=MF/\h.get? p.1=MA p.2:=by
 obtain⟨b,_,e⟩:=J8.mp hp;split at e
 ·cases e
 ·rename_i hn;cases q:h.get? b with
  | none=>rw [q] at e;simp at e
  | some u =>
   rw [q] at e;simp only [JQ,Option.some.injEq] at e;subst e;refine⟨λz=>hn (.inl z),?_,q⟩;show g.get? b=MF;cases r:g.get? b with
   | none=>rfl
   | some v=>exact (hn (.inr (by simp [r]))).elim
noncomputable def rest (g h:Heap) (L d:Hm):MT:=(jz g h L).filter λp=>decide (p.1≠d)
theorem xn {g h:Heap} {L:Hm}:News g L h (jz g h L):=λp hp=>let⟨a,b,c⟩:=fI hp;⟨c,a,b⟩
structure Mod (K:Hj) (mg:Str->MR) (base:Heap):Prop where
 kin:K.In base
 glob:base.Ns HX mg
 blt:∃ mb,base.Ns builtinsNs mb/\∀ x:Str,x ≠ "__name__"->mb x=bootBuiltins x
 nolimit:base.NoLimit
 bm:∃ b o,mg "__builtins__"=MA (.ref b)/\b≠builtinsNs/\base.get? b=MA o/\o.cls=.type "module"/\o.dict=MA builtinsNs/\o.data=.plain
structure Cx where
 prog:MI
 w:MH
 K:Hj
 mg:Str->MR
 base:Heap
 A:MJ
 N:MU
 s₀:ME
 H₀:Hp
 env:Env
 outer:MV
 stack:MV
 ex:MS
 fn:Str->Bool
 calm:Bool
 pn:MT
 xe:MD->ME->Prop
noncomputable def frs (l:MV):MS:=l.filterMap (·.frame)
noncomputable abbrev Cx.fs (X:Cx):MS:=frs X.outer
def Vis (sc:Scope) (x:Str):Prop:=sc.names.lookup x=MA .local \/ sc.names.lookup x=MA .cell \/ sc.names.lookup x=MA .free
def Loc (sc:Scope) (x:Str):Prop:=sc.names.lookup x=MA .local \/ sc.names.lookup x=MA .cell
def Look (env:Env) (h:Heap) (m:Str->MR) (x:Str) (u:MD):Prop :=
 (env.kindOf x=MA .local/\m x=MA u) \/ ((env.kindOf x=MA .cell \/ env.kindOf x=MA .free)/\∃ c,env.cells.lookup x=MA c/\h.IsCell c (MA u))
noncomputable def ae:MU:=["least_kept","pair_beside","peaks"]
noncomputable def lamQ (q:Str):Str:=(q ++ ".<locals>.") ++ "<lambda>"
def TabsOk (K:Hj) (H:Hp):Prop:=∀ c P q,q∈ae->IQ K c P=MC->IK K (.ref c) q=MC->H P=MA (.tbl (lamQ q))
structure Cx.Ok (X:Cx):Prop where
 mod:Mod X.K X.mg X.base
 kind:X.env.scope.kind=.function
 glob:X.env.globals=HX
 blt:X.env.builtins=builtinsNs
 above:X.s₀.heap.objs.size<=X.env.locals
 inj:∀ x y c,X.env.cells.lookup x=MA c->X.env.cells.lookup y=MA c->x=y
 has:∀ x,(X.env.kindOf x=MA .cell \/ X.env.kindOf x=MA .free)->∃ c,X.env.cells.lookup x=MA c
 cab:∀ x c,X.fn x=MC->X.env.cells.lookup x=MA c->X.s₀.heap.objs.size<=c
 hd:X.calm=MC->X.A.handled=MF
 frames:X.A.frames=MA X.stack
 stk:X.stack=X.outer \/ (X.stack=X.env :: X.outer/\X.env.frame=MA X.env.locals)
 exf:∀ b∈X.ex,b≠X.env.locals/\∀ x c,X.env.cells.lookup x=MA c->c≠b
 bs:∀ b o,X.base.get? b=MA o->X.s₀.heap.get? b=MA o/\X.H₀ b=MF
 bsz:X.base.objs.size<=X.s₀.heap.objs.size
 noex:∀ b o,X.base.get? b=MA o->b∉X.ex
 exfs:∀ b∈X.ex,b∉X.fs
 funs:X.s₀.heap.FunFrames X.base X.outer
 frf:∀ b∈X.fs,X.H₀ b=MF
 tabs:TabsOk X.K X.H₀
structure Inv (X:Cx) (Mu:MT) (σ:List (Option V)) (H:Hp) (s:ME):Prop where
 ok:X.Ok
 os:s.os=X.s₀.os
 bare:AllBare s.gens
 base:Un X.fs X.ex X.H₀ H X.s₀.heap s.heap
 loc:∃ m,s.heap.Ns X.env.locals m/\∀ (i:Nat) (x:Str) (v:V),X.N[i]?=MA x->σ[i]?=MA (MA v)->Vis X.env.scope x->∃ u,RelV v u/\Look X.env s.heap m x u
 cell:∀ x c,X.env.cells.lookup x=MA c->∃ v,s.heap.IsCell c v
 free:H X.env.locals=MF
 freeC:∀ x c,X.env.cells.lookup x=MA c->H c=MF
 pin:∀ p∈X.pn++Mu,s.heap.get? p.1=MA p.2/\H p.1=MF/\p.1≠X.env.locals/\p.1∉X.fs/\∀ v,p.2.data≠.cell v
 hok:HOk X.prog X.w H s.heap
 len:σ.length=X.N.length
section
variable {X:Cx} {Mu:MT} {σ:List (Option V)} {H H':Hp} {s:ME} {h':Heap}
theorem Cx.Ok.nofr (ok:X.Ok) {b:Hm} {o:Obj} (e:X.base.get? b=MA o):b∉X.fs:=λhb=>by
 have:=(ok.funs.mem hb).1;rw [e] at this;cases this
theorem Inv.bs (I:Inv X Mu σ H s):∀ b o,X.base.get? b=MA o->s.heap.get? b=MA o/\H b=MF:=λb o e =>
 ⟨I.base.keep b o (I.ok.bs b o e).1 (I.ok.bs b o e).2 (I.ok.nofr e) (I.ok.noex b o e),I.base.free b o (I.ok.bs b o e).1 (I.ok.bs b o e).2 (I.ok.noex b o e)⟩
theorem Inv.bk (I:Inv X Mu σ H s):∀ b o,X.base.get? b=MA o->s.heap.get? b=MA o:=λb o e=>(I.bs b o e).1
theorem Inv.mod (I:Inv X Mu σ H s):Mod X.K X.mg X.base:=I.ok.mod
theorem Inv.kIn (I:Inv X Mu σ H s):X.K.In s.heap:=I.ok.mod.kin.keeps I.bk
theorem Inv.nolimit (I:Inv X Mu σ H s):s.heap.NoLimit:=I.ok.mod.nolimit.keeps I.bk
theorem Inv.fr (I:Inv X Mu σ H s):∃ m,Fr X.base X.env.locals s.heap m :=
 let⟨m,hn,_⟩:=I.loc
 ⟨m,hn,I.bk,HM I.ok.bsz I.ok.above⟩
theorem Inv.lt (I:Inv X Mu σ H s):X.env.locals<s.heap.objs.size:=let⟨_,hn,_⟩:=I.loc;hn.lt
theorem Inv.sz (I:Inv X Mu σ H s):X.s₀.heap.objs.size<=s.heap.objs.size:=HM I.ok.above (IH I.lt)
theorem Inv.nofs (I:Inv X Mu σ H s) {a:Hm} (h:s.heap.objs.size<=a):a∉X.fs:=λhb=>by
 obtain⟨_,o,ho,_⟩:=I.ok.funs.mem hb;exact absurd (HZ (HD ho) (HM I.sz h)) (Jw _)
theorem Inv.cne (I:Inv X Mu σ H s):∀ x c,X.env.cells.lookup x=MA c->c≠X.env.locals:=λx c e z=>by
 obtain⟨v,o,ho,hd⟩:=I.cell x c e;obtain⟨m,⟨o',es,ep,ho',hd',_⟩,_⟩:=I.loc;rw [z,ho'] at ho;cases ho;rw [hd'] at hd;cases hd
theorem Inv.funs (I:Inv X Mu σ H s):s.heap.FunFrames X.base X.outer:=by
 have all:∀ (l:MV),(∀ b∈frs l,b∈X.fs)->X.s₀.heap.FunFrames X.base l->s.heap.FunFrames X.base l:=by
  intro l
  induction l with
  | nil=>intro _ _;trivial
  | cons env r ih =>
   intro hs hl;obtain⟨hk,⟨L,o,hf,hn,ho,hd⟩,hr⟩:=hl;have hL:L∈X.fs:=hs L (by unfold frs;rw [Ky,hf];exact Hk);obtain⟨sl,e⟩:=I.base.slot L o ho (I.ok.frf L hL) hL λz=>I.ok.exfs L z hL;exact⟨hk,⟨L,_,hf,hn,e,hd⟩,ih (λb hb=>hs b (by unfold frs;rw [Ky,hf];exact Hl _ hb)) hr⟩
 exact all X.outer (λ_ hb=>hb) I.ok.funs
theorem Inv.stack (I:Inv X Mu σ H s):s.heap.FunFrames X.base X.stack:=by
 rcases I.ok.stk with e | ⟨e,hf⟩
 ·rw [e];exact I.funs
 ·rw [e];obtain⟨m,hn,_⟩:=I.loc;refine .cons (by rw [I.ok.kind];decide) hf hn ?_ I.funs;exact Heap.get?_none_of_le (HM I.ok.bsz I.ok.above)
theorem Inv.stkSub (I:Inv X Mu σ H s):∀ b∈frs X.stack,b∈X.env.locals :: X.fs:=λb hb=>by
 rcases I.ok.stk with e | ⟨e,hf⟩
 ·rw [e] at hb;exact Hl _ hb
 ·rw [e] at hb;unfold frs at hb;rw [Ky,hf] at hb;exact hb
theorem Inv.stkFree (I:Inv X Mu σ H s):∀ b∈frs X.stack,H b=MF:=λb hb=>by
 rcases Hv.mp (I.stkSub b hb) with e | hb
 ·rw [e];exact I.free
 ·obtain⟨_,o,ho,_⟩:=I.ok.funs.mem hb;exact I.base.free b o ho (I.ok.frf b hb) λz=>I.ok.exfs b z hb
theorem Inv.step {g':Array GenState} {t':Nat} {d':Drawn} {ch:MS} (I:Inv X Mu σ H s)
  (hch:∀ b∈ch,(b∈X.ex \/ X.s₀.heap.objs.size<=b)/\b≠X.env.locals/\(∀ x c,X.env.cells.lookup x=MA c->c≠b)/\∀ p∈X.pn++Mu,p.1≠b)
  (keep:∀ b o,b≠X.env.locals->b∉X.fs->b∉ch->s.heap.get? b=MA o->H b=MF->h'.get? b=MA o)
  (slot:∀ b o,b≠X.env.locals->b∈X.fs->b∉ch->s.heap.get? b=MA o->H b=MF->∃ sl,h'.get? b=MA { o with slots:=sl }) (free:∀ b o,b∉ch->s.heap.get? b=MA o->H b=MF->H' b=MF)
  (there:∀ b o,b∉ch->s.heap.get? b=MA o->∃ o',h'.get? b=MA o')
  (tups:∀ b xs,H b=MA (.tup xs)->H' b=MA (.tup xs)) (frzs:∀ b o u,H b=MA (.frz o u)->H' b=MA (.frz o u)) (tbls:∀ b q,H b=MA (.tbl q)->H' b=MA (.tbl q))
  (ns:∀ m,s.heap.Ns X.env.locals m->h'.Ns X.env.locals m) (hok:HOk X.prog X.w H' h') (hg:AllBare g') :
  Inv X Mu σ H' { s with heap:=h',gens:=g',drawn:=d',toks:=t' }:=by
 have neL:∀ b o,X.s₀.heap.get? b=MA o->b≠X.env.locals:=λb o e=>HW (HZ (HD e) I.ok.above);have neC:∀ b o,X.s₀.heap.get? b=MA o->b∉X.ex->b∉ch:=λb o e hx hb=>by
  rcases (hch b hb).1 with z | z
  ·exact hx z
  ·exact absurd (HZ (HD e) z) (Jw _)
 have cellK:∀ x c,X.env.cells.lookup x=MA c->∀ v,s.heap.IsCell c v->h'.IsCell c v:=λx c e v ⟨o,ho,hd⟩=>by
  have nch:c∉ch:=λz=>(hch c z).2.2.1 x c e rfl;by_cases hc:c∈X.fs
  ·obtain⟨sl,q⟩:=slot c o (I.cne x c e) hc nch ho (I.freeC x c e);exact⟨_,q,hd⟩
  ·exact⟨o,keep c o (I.cne x c e) hc nch ho (I.freeC x c e),hd⟩
 refine⟨I.ok,I.os,hg,⟨λb o e n hb hx=>?_,λb o e n hb hx=>?_,λb o e n hx=>?_,λb o e hx=>?_,λb xs e=>tups b xs (I.base.tups b xs e),λb o xs e=>frzs b o xs (I.base.frzs b o xs e),λb ps e=>?_⟩,?_,λx c e=>?_,?_,λx c e=>?_,λp hp=>?_,hok,I.len⟩
 ·exact keep b o (neL b o e) hb (neC b o e hx) (I.base.keep b o e n hb hx) (I.base.free b o e n hx)
 ·obtain⟨sl,e1⟩:=I.base.slot b o e n hb hx;obtain⟨sl',e2⟩:=slot b _ (neL b o e) hb (neC b o e hx) e1 (I.base.free b o e n hx);exact⟨sl',e2⟩
 ·obtain⟨o',e1⟩:=I.base.there b o e hx;exact free b o' (neC b o e hx) e1 (I.base.free b o e n hx)
 ·obtain⟨o',e1⟩:=I.base.there b o e hx;exact there b o' (neC b o e hx) e1
 ·exact tbls b _ (I.base.tbls b _ e)
 ·obtain⟨m,hn,hl⟩:=I.loc;refine⟨m,ns m hn,λi x v e1 e2 e3=>?_⟩;obtain⟨u,r,l⟩:=hl i x v e1 e2 e3;refine⟨u,r,?_⟩;rcases l with l | ⟨k,c,e,z⟩
  ·exact .inl l
  ·exact .inr ⟨k,c,e,cellK x c e _ z⟩
 ·obtain⟨v,z⟩:=I.cell x c e;exact⟨v,cellK x c e v z⟩
 ·obtain⟨m,⟨o,_,_,ho,_⟩,_⟩:=I.loc;exact free _ o (λz=>(hch _ z).2.1 rfl) ho I.free
 ·obtain⟨v,o,ho,hd⟩:=I.cell x c e;exact free c o (λz=>(hch c z).2.2.1 x c e rfl) ho (I.freeC x c e)
 ·obtain⟨e,n,ne,nf,d⟩:=I.pin p hp;have nch:p.1∉ch:=λz=>(hch p.1 z).2.2.2 p hp rfl;exact⟨keep p.1 p.2 ne nf nch e n,free p.1 p.2 nch e n,ne,nf,d⟩
theorem Inv.un {t':Nat} (I:Inv X Mu σ H s) (u:Un X.fs [] H H' s.heap h') (hok:HOk X.prog X.w H' h'):Inv X Mu σ H' { s with heap:=h',toks:=t' }:=by
 obtain⟨m,⟨o,es,ep,ho,r⟩,_⟩:=id I.loc;obtain⟨sl,hL⟩:=u.any ho I.free (by simp);exact I.step (g':=s.gens) (d':=s.drawn) (ch:=[]) (λ_ z=>nomatch z) (λb o _ hb _ e n=>u.keep b o e n hb (by simp)) (λb o _ hb _ e n=>u.slot b o e n hb (by simp)) (λb o _ e n=>u.free b o e n (by simp)) (λb o _ e=>u.there b o e (by simp)) u.tups u.frzs u.tbls (λm' hm=>by
  obtain⟨o',es',ep',ho',r'⟩:=hm;rw [ho] at ho';cases ho';exact⟨_,es',ep',hL,r'⟩) hok I.bare
theorem Inv.call {g':Array GenState} {t':Nat} {d':Drawn} {ch:MS} (I:Inv X Mu σ H s) (u:Un (frs X.stack) ch H H' s.heap h') (hok:HOk X.prog X.w H' h') (hg:AllBare g')
  (hch:∀ b∈ch,(b∈X.ex \/ X.s₀.heap.objs.size<=b)/\b≠X.env.locals/\(∀ x c,X.env.cells.lookup x=MA c->c≠b)/\∀ p∈X.pn++Mu,p.1≠b) :
  Inv X Mu σ H' { s with heap:=h',gens:=g',drawn:=d',toks:=t' }:=by
 obtain⟨m,⟨o,es,ep,ho,r⟩,_⟩:=id I.loc;obtain⟨sl,hL⟩:=u.any ho I.free λz=>(hch _ z).2.1 rfl;exact I.step (ch:=ch) hch (λb o hL hb hc e n=>u.keep b o e n (λz=>(Hv.mp (I.stkSub b z)).elim hL hb) hc) (λb o _ _ hc e n=>u.any e n hc) (λb o hc e n=>u.free b o e n hc) (λb o hc e=>u.there b o e hc) u.tups u.frzs u.tbls (λm' hm=>by
  obtain⟨o',es',ep',ho',r'⟩:=hm;rw [ho] at ho';cases ho';exact⟨_,es',ep',hL,r'⟩) hok hg
theorem Inv.turned {t':Nat} {it:Hm} (I:Inv X Mu σ H s) (k:∀ b o,b≠it->s.heap.get? b=MA o->h'.get? b=MA o) (hn:H it=MF) (hL:it≠X.env.locals)
  (h1:it∈X.ex \/ X.s₀.heap.objs.size<=it) (h2:∀ x c,X.env.cells.lookup x=MA c->c≠it) (h3:∀ p∈X.pn++Mu,p.1≠it):Inv X Mu σ H { s with heap:=h',toks:=t' }:=by
 have nit:∀ b u,H b=MA u->b≠it:=λb u e z=>by rw [z,hn] at e;cases e
 refine I.step (g':=s.gens) (d':=s.drawn) (ch:=[it]) (λb hb=>?_) (λb o _ _ hc e _=>k b o (λz=>hc (by simp [z])) e) (λb o _ _ hc e _=>⟨o.slots,k b o (λz=>hc (by simp [z])) e⟩) (λ_ _ _ _ n=>n)
  (λb o hc e=>⟨o,k b o (λz=>hc (by simp [z])) e⟩) (λ_ _ e=>e) (λ_ _ _ e=>e) (λb ps e=>by exact e) (λm hm=>?_) (λb u e=>?_) I.bare
 ·have e:b=it:=by simpa using hb
  subst e;exact⟨h1,hL,h2,h3⟩
 ·obtain⟨o,es,ep,ho,r⟩:=hm;exact⟨o,es,ep,k _ o (Jc hL) ho,r⟩
 ·refine (I.hok b u e).stay (λc v hc q=>k c v ?_ q) (λ_ q=>q) λ_ _ q=>q;rcases hc with z | z
  ·rw [z];exact nit b u e
  ·exact nit c _ z
theorem Inv.tok (I:Inv X Mu σ H s) (t:Nat):Inv X Mu σ H { s with toks:=t }:=I.un (h':=s.heap) (t':=t) Un.refl I.hok
theorem Inv.kept {t':Nat} (I:Inv X Mu σ H s) (k:∀ b u,s.heap.get? b=MA u->h'.get? b=MA u):Inv X Mu σ H { s with heap:=h',toks:=t' }:=I.un (Un.kept k) (I.hok.kept k)
theorem Inv.laid {a:Hm} {o:HO} {t':Nat} (I:Inv X Mu σ H s) (k:∀ b u,s.heap.get? b=MA u->h'.get? b=MA u) (hp:s.heap.objs.size<=a) (new:ObjOk X.prog X.w (upd H a o) h' a o) :
  Inv X Mu σ (upd H a o) { s with heap:=h',toks:=t' }:=I.un (Un.laid k hp (I.hok.fresh hp)) (I.hok.laid k hp new)
theorem Inv.write {x e:Hm} {o:HO} {t':Nat} (I:Inv X Mu σ H s) (mu:Mut (H x)) (he:e=x \/ H e=MA (.own x)) (k:∀ b u,b≠e->s.heap.get? b=MA u->h'.get? b=MA u) (heo:∃ u,h'.get? e=MA u)
  (new:ObjOk X.prog X.w (upd H x o) h' x o):Inv X Mu σ (upd H x o) { s with heap:=h',toks:=t' }:=I.un (Un.write mu he k heo) (I.hok.write mu he k heo new)
theorem Inv.pins_of {pins':MT} (I:Inv X Mu σ H s) (h:∀ p∈pins',s.heap.get? p.1=MA p.2/\H p.1=MF/\p.1≠X.env.locals/\p.1∉X.fs/\∀ v,p.2.data≠.cell v):Inv X pins' σ H s :=
 ⟨I.ok,I.os,I.bare,I.base,I.loc,I.cell,I.free,I.freeC,λp hp=>(HC.mp hp).elim (λz=>I.pin p (HQ _ z)) (h p),I.hok,I.len⟩
theorem mz {N:MU} (hN:N.Nodup) {i j:Nat} {x:Str} (a:N[i]?=MA x) (b:N[j]?=MA x):i=j:=by
 obtain⟨h1,e1⟩:=Hg.mp a;obtain⟨h2,e2⟩:=Hg.mp b;exact (K4 hN).mp (e1.trans e2.symm)
theorem ij {M:Model} {A:MJ} {E:MD->ME->Prop} {i:Nat} {x:Str} {v:V} {u:MD} {Q:Unit->ME->Prop} (I:Inv X Mu σ H s) (hN:X.N.Nodup) (hi:X.N[i]?=MA x) (hx:Loc X.env.scope x) (r:RelV v u)
  (h:∀ s',Inv X Mu (σ.set i (MA v)) H s'->(∃ a,JS a s.heap s'.heap/\(a=X.env.locals \/ X.env.cells.lookup x=MA a))->Q () s') (hf:X.fn x=MC \/ X.env.scope.names.lookup x=MA .local:=by first | exact .inl rfl | exact .inr rfl | assumption):HP M A (storeName X.env x u) Q E s:=by
 obtain⟨m,hn,hl⟩:=id I.loc;have hcls:(X.env.scope.kind == .class || (X.env.scope.kind == .module && X.env.locals != X.env.globals))=MG:=by rw [I.ok.kind];rfl
 have hiσ:i<σ.length:=by rw [I.len];exact (Hg.mp hi).1
 have cne:=I.cne;have tracked:∀ {a:Hm} {h':Heap},(∃ o,s.heap.get? a=MA o/\H a=MF)->JS a s.heap h'->HOk X.prog X.w H h':=λ{a h'} ha hs b ob e=>by
  obtain⟨_,_,hfree⟩:=ha;refine (I.hok b ob e).stay (λc w' hc q=>(hs.2 c ?_).trans q) (λ_ q=>q) λ_ _ q=>q;rintro rfl;rcases hc with rfl | hc
  ·rw [hfree] at e;cases e
  ·rw [hfree] at hc;cases hc
 rcases hx with hk | hk
 ·refine wpAny_storeName_local hk hn (λh' hn' hs=>?_) hcls;obtain⟨oL,_,_,hoL,_⟩:=id hn;refine h _ ⟨I.ok,I.os,I.bare,⟨λb o e n hb hx=>?_,λb o e n hb hx=>?_,I.base.free,λb o e hx=>?_,I.base.tups,I.base.frzs,I.base.tbls⟩,⟨_,hn',λj y v' e1 e2 e3=>?_⟩,λy c e=>?_,I.free,I.freeC,λp hp=>?_,tracked ⟨oL,hoL,I.free⟩ hs,by simpa using I.len⟩ ⟨_,hs,.inl rfl⟩
  ·exact (hs.2 b (HW (HZ (HD e) I.ok.above))).trans (I.base.keep b o e n hb hx)
  ·obtain⟨sl,e1⟩:=I.base.slot b o e n hb hx;exact⟨sl,(hs.2 b (HW (HZ (HD e) I.ok.above))).trans e1⟩
  ·obtain⟨o',e1⟩:=I.base.there b o e hx;exact⟨o',(hs.2 b (HW (HZ (HD e) I.ok.above))).trans e1⟩
  ·by_cases hj:j=i
   ·subst hj;rw [hi] at e1;cases e1;rw [JF hiσ] at e2;cases e2;exact⟨u,r,.inl ⟨hk,by simp⟩⟩
   ·rw [Kn (Jc hj)] at e2;obtain⟨u',r',q⟩:=hl j y v' e1 e2 e3;refine⟨u',r',?_⟩;rcases q with⟨k,e⟩ | ⟨k,c,e,z⟩
    ·refine .inl ⟨k,?_⟩;have:y≠x:=λe=>hj (mz hN e1 (e▸hi));simp [this,e]
    ·exact .inr ⟨k,c,e,z.sameBut hs (cne y c e)⟩
  ·obtain⟨w',z⟩:=I.cell y c e;exact⟨w',z.sameBut hs (cne y c e)⟩
  ·obtain⟨e,n,ne,nf,d⟩:=I.pin p hp;exact⟨(hs.2 p.1 ne).trans e,n,ne,nf,d⟩
 ·have hfn:X.fn x=MC:=by
   rcases hf with z | z
   ·exact z
   ·rw [z] at hk;cases hk
  obtain⟨c,hc⟩:=I.ok.has x (.inl hk);obtain⟨w',z⟩:=I.cell x c hc;refine wpAny_storeName_cell I.ok.kind hk hc z (λh' hc' hs=>?_);obtain⟨oc,hoc,hocd⟩:=id z;refine h { s with heap:=h' } ⟨I.ok,I.os,I.bare,⟨λb o e n hb hx=>?_,λb o e n hb hx=>?_,I.base.free,λb o e hx=>?_,I.base.tups,I.base.frzs,I.base.tbls⟩,⟨m,hn.sameBut hs (Jc (cne x c hc)),λj y v' e1 e2 e3=>?_⟩,λy c' e=>?_,I.free,I.freeC,λp hp=>?_,tracked ⟨oc,hoc,I.freeC x c hc⟩ hs,by simpa using I.len⟩ ⟨c,hs,.inr hc⟩
  ·exact (hs.2 b (HW (HZ (HD e) (I.ok.cab x c hfn hc)))).trans (I.base.keep b o e n hb hx)
  ·obtain⟨sl,e1⟩:=I.base.slot b o e n hb hx;exact⟨sl,(hs.2 b (HW (HZ (HD e) (I.ok.cab x c hfn hc)))).trans e1⟩
  ·obtain⟨o',e1⟩:=I.base.there b o e hx;exact⟨o',(hs.2 b (HW (HZ (HD e) (I.ok.cab x c hfn hc)))).trans e1⟩
  ·by_cases hj:j=i
   ·subst hj;rw [hi] at e1;cases e1;rw [JF hiσ] at e2;cases e2;exact⟨u,r,.inr ⟨.inl hk,c,hc,hc'⟩⟩
   ·rw [Kn (Jc hj)] at e2;obtain⟨u',r',q⟩:=hl j y v' e1 e2 e3;refine⟨u',r',?_⟩;rcases q with q | ⟨k,c',e,z'⟩
    ·exact .inl q
    ·refine .inr ⟨k,c',e,z'.sameBut hs ?_⟩;rintro rfl;exact hj (mz hN e1 (I.ok.inj _ _ _ e hc▸hi))
  ·by_cases hcc:c'=c
   ·subst hcc;exact⟨_,hc'⟩
   ·obtain⟨w2,z2⟩:=I.cell y c' e;exact⟨w2,z2.sameBut hs hcc⟩
  ·obtain⟨e,n,ne,nf,d⟩:=I.pin p hp;refine⟨(hs.2 p.1 ?_).trans e,n,ne,nf,d⟩;intro q;rw [q,hoc] at e;have q':oc=p.2:=ML e;exact d w' (by rw [<-q'];exact hocd)
theorem mB {M:Model} {A:MJ} {E:MD->ME->Prop} {i:Nat} {x:Str} {v:V} {u:MD} {Q:Unit->ME->Prop} (I:Inv X Mu σ H s) (hN:X.N.Nodup) (hi:X.N[i]?=MA x) (hx:Loc X.env.scope x) (r:RelV v u)
  (h:∀ s',Inv X Mu (σ.set i (MA v)) H s'->Q () s') (hf:X.fn x=MC \/ X.env.scope.names.lookup x=MA .local:=by first | exact .inl rfl | exact .inr rfl | assumption):HP M A (storeName X.env x u) Q E s :=
 ij I hN hi hx r (λs' I' _=>h s' I') hf
theorem Inv.call' {s':ME} {ch:MS} (I:Inv X Mu σ H s) (ho:s'.os=s.os) (u:Un (frs X.stack) ch H H' s.heap s'.heap) (hok:HOk X.prog X.w H' s'.heap) (hg:AllBare s'.gens)
  (hch:∀ b∈ch,(b∈X.ex \/ X.s₀.heap.objs.size<=b)/\b≠X.env.locals/\(∀ x c,X.env.cells.lookup x=MA c->c≠b)/\∀ p∈X.pn++Mu,p.1≠b):Inv X Mu σ H' s':=by
 obtain⟨h',g',d',t',o'⟩:=s';have e:o'=s.os:=ho;subst e;exact I.call (g':=g') (t':=t') (d':=d') u hok hg hch
end
abbrev XK:=MD->MW->Hp->Prop
abbrev St:=List (Option V)
abbrev VK:=V->Hp->Prop
abbrev TE:=St->Hp->VK->Prop
abbrev TT:=St->Hp->(Bool->Hp->Prop)->Prop
abbrev TA:=St->Hp->(List V->Hp->Prop)->Prop
structure Ends where
 nx:St->Hp->Prop
 rt:VK
 bk:St->Hp->Prop:=λ_ _=>False
 ct:St->Hp->Prop:=λ_ _=>False
abbrev TS:=Ends->St->Hp->Prop
def EP (X:Cx) (Mu:MT) (σ:St) (Q:VK) (u:MD) (s':ME):Prop:=∃ v H',Inv X Mu σ H' s'/\RelV v u/\Q v H'
def TP (X:Cx) (Mu:MT) (σ:St) (Q:Bool->Hp->Prop) (b:Bool) (s':ME):Prop:=∃ H',Inv X Mu σ H' s'/\Q b H'
def AP (X:Cx) (Mu:MT) (σ:St) (Q:List V->Hp->Prop) (us:MQ) (s':ME):Prop:=∃ vs H',Inv X Mu σ H' s'/\Vals vs us/\Q vs H'
def SP (X:Cx) (Mu:MT) (D:Ends) (f:Flow) (s':ME):Prop :=
 match f with
 | .next=>∃ σ' H',Inv X Mu σ' H' s'/\D.nx σ' H'
 | .brk=>∃ σ' H',Inv X Mu σ' H' s'/\D.bk σ' H'
 | .cont=>∃ σ' H',Inv X Mu σ' H' s'/\D.ct σ' H'
 | .ret u=>∃ v σ' H',Inv X Mu σ' H' s'/\RelV v u/\D.rt v H'
def PE (X:Cx) (e:Expr) (t:TE):Prop :=
 ∀ (Mu:MT) (s:ME) (σ:St) (H:Hp) (Q:VK),Inv X Mu σ H s->t σ H Q->HP (model X.prog X.w) X.A (eval e X.env) (EP X Mu σ Q) X.xe s
def PT (X:Cx) (e:Expr) (t:TT):Prop :=
 ∀ (Mu:MT) (s:ME) (σ:St) (H:Hp) (Q:Bool->Hp->Prop),Inv X Mu σ H s->t σ H Q->HP (model X.prog X.w) X.A (isTrue e X.env (eval e X.env)) (TP X Mu σ Q) X.xe s
def PW (X:Cx) (e:Expr) (t:TT):Prop :=
 ∀ (whole:Sem MD) (Mu:MT) (s:ME) (σ:St) (H:Hp) (Q:Bool->Hp->Prop),Inv X Mu σ H s->t σ H Q->HP (model X.prog X.w) X.A (isTrue e X.env whole) (TP X Mu σ Q) X.xe s
theorem PW.pt {X:Cx} {e:Expr} {t:TT} (h:PW X e t):PT X e t:=h _
def PA (X:Cx) (es:MX) (t:TA):Prop :=
 ∀ (pos:Pos) (Mu:MT) (s:ME) (σ:St) (H:Hp) (Q:List V->Hp->Prop),Inv X Mu σ H s->t σ H Q->HP (model X.prog X.w) X.A (spliced (backTo pos (Iq es X.env))) (AP X Mu σ Q) X.xe s
def PS (X:Cx) (st:Stmt) (t:TS):Prop :=
 ∀ (Mu:MT) (s:ME) (σ:St) (H:Hp) (D:Ends),Inv X Mu σ H s->t D σ H->HP (model X.prog X.w) X.A (exec st X.env) (SP X Mu D) X.xe s
def PSs (X:Cx) (st:MY) (t:TS):Prop :=
 ∀ (Mu:MT) (s:ME) (σ:St) (H:Hp) (D:Ends),Inv X Mu σ H s->t D σ H->HP (model X.prog X.w) X.A (execs st X.env) (SP X Mu D) X.xe s
theorem thn {α:Type} {t:Sem α} {Q Q':α->ME->Prop} {M:Model} {A:MJ} {E:MD->ME->Prop} {s:ME} (h:HP M A t Q E s) (hQ:∀ a s,Q a s->Q' a s):HP M A t Q' E s:=Jt h hQ λ_ _ x=>x
section
variable {X:Cx}
def yt (i:Nat):TE:=λσ H Q=>∃ v,σ[i]?=MA (MA v)/\Q v H
def tC (v:V):TE:=λ_ H Q=>Q v H
theorem Ee {i:Nat} {x:Str} {pos:Pos} (hN:X.N[i]?=MA x) (hv:Vis X.env.scope x) (hd:(x == ("__debug__":Str))=MG:=by decide) (hcd:(x == ("__classdict__":Str))=MG:=by decide):PE X (.Name x pos) (yt i):=by
 intro Mu s σ H Q I h;obtain⟨v,e,h⟩:=h;obtain⟨m,hn,hl⟩:=I.loc;obtain⟨u,r,l⟩:=hl i x v hN e hv;have fin:EP X Mu σ Q u s:=⟨v,H,I,r,h⟩;rcases l with⟨hk,hm⟩ | ⟨hk,c,hc,hcell⟩
 ·exact wpAny_Name (wpAny_loadName_local I.ok.kind hk hn hm fin) hd
 ·rcases hk with hk | hk
  ·exact wpAny_Name (wpAny_loadName_cell I.ok.kind hk hc hcell fin) hd
  ·exact wpAny_Name (wpAny_loadName_free I.ok.kind hk hc hcell fin hcd) hd
theorem zk {i j pos}:PE X (.Constant (.int i) j pos) (tC (.int i)):=λ_ _ _ H _ I h=>wpAny_Constant_int ⟨.int i,H,I.tok _,⟨_,rfl⟩,h⟩
theorem bU {b j pos}:PE X (.Constant (.bool b) j pos) (tC (.bl b)):=λ_ _ _ H _ I h=>Constant_bool ⟨.bl b,H,I,rfl,h⟩
theorem fJ {j pos}:PE X (.Constant .none j pos) (tC .non):=λ_ _ _ H _ I h=>Constant_none ⟨.non,H,I,rfl,h⟩
theorem yW {x j pos}:PE X (.Constant (.str x) j pos) (tC (.str x)):=λ_ _ _ H _ I h=>Calls.Constant_str ⟨.str x,H,I.tok _,⟨_,rfl⟩,h⟩
def Gl (X:Cx) (x:Str):Prop:=X.env.kindOf x=MA .globalImplicit
theorem e7 {E:MD->ME->Prop} {Mu:MT} {s:ME} {σ:St} {H:Hp} {x:Str} {u:MD} {pos:Pos} {Q:MD->ME->Prop} (I:Inv X Mu σ H s) (hg:Gl X x) (hm:X.mg x=MA u) (h:Q u s)
  (hd:(x == ("__debug__":Str))=MG:=by decide):HP (model X.prog X.w) X.A (eval (.Name x pos) X.env) Q E s :=
 Lg I.ok.kind hg (Calls.loadGlobal_global (by rw [I.ok.glob];exact I.mod.glob.keeps I.bk) hm h) hd
theorem qV {E:MD->ME->Prop} {Mu:MT} {s:ME} {σ:St} {H:Hp} {x:Str} {u:MD} {pos:Pos} {Q:MD->ME->Prop} (I:Inv X Mu σ H s) (hg:Gl X x) (hm:X.mg x=MF) (hv:bootBuiltins x=MA u) (h:Q u s)
  (hn:x ≠ "__name__":=by decide) (hd:(x == ("__debug__":Str))=MG:=by decide):HP (model X.prog X.w) X.A (eval (.Name x pos) X.env) Q E s:=by
 obtain⟨mb,h1,h2⟩:=I.mod.blt;exact Lg I.ok.kind hg (Calls.loadGlobal_builtin (by rw [I.ok.glob];exact I.mod.glob.keeps I.bk) hm (by rw [I.ok.blt];exact h1.keeps I.bk) ((h2 x hn).trans hv) h) hd
theorem BP {x:Str} {v:V} {u:MD} {pos:Pos} (hg:Gl X x) (hm:X.mg x=MA u) (r:RelV v u) (hd:(x == ("__debug__":Str))=MG:=by decide):PE X (.Name x pos) (tC v) :=
 λ_ _ _ H _ I h=>e7 I hg hm ⟨v,H,I,r,h⟩ hd
theorem e8 {x:Str} {v:V} {u:MD} {pos:Pos} (hg:Gl X x) (hm:X.mg x=MF) (hv:bootBuiltins x=MA u) (r:RelV v u) (hn:x ≠ "__name__":=by decide) (hd:(x == ("__debug__":Str))=MG:=by decide):PE X (.Name x pos) (tC v) :=
 λ_ _ _ H _ I h=>qV I hg hm hv ⟨v,H,I,r,h⟩ hn hd
variable {a b:Expr} {ta tb:TE} {pos:Pos}
variable {tA tB':TT} {rest:MX}
def Ef (t u:TT):TT:=λσ H Q=>t σ H λc H1=>if c=MC then u σ H1 Q else Q MG H1
def tOr (t u:TT):TT:=λσ H Q=>t σ H λc H1=>if c=MC then Q MC H1 else u σ H1 Q
def F8 (t:TT):TT:=λσ H Q=>t σ H λc H1=>Q (!c) H1
theorem af (ha:PT X a tA):PW X (.BoolOp .And [a] pos) tA:=by
 intro wh Mu s σ H Q I h;refine isTrue_and (thn (ha Mu s σ H Q I h) λc s1 e=>?_);cases c with
 | true=>exact isTrue_and_nil e
 | false=>exact e
theorem oO (ha:PT X a tA):PW X (.BoolOp .Or [a] pos) tA:=by
 intro wh Mu s σ H Q I h;refine isTrue_or (thn (ha Mu s σ H Q I h) λc s1 e=>?_);cases c with
 | false=>exact isTrue_or_nil e
 | true=>exact e
theorem cf (ha:PT X a tA) (hb:PW X (.BoolOp .And (b :: rest) pos) tB'):PW X (.BoolOp .And (a :: b :: rest) pos) (Ef tA tB'):=by
 intro wh Mu s σ H Q I h;refine isTrue_and (thn (ha Mu s σ H _ I h) λc s1 ⟨H1,I1,q1⟩=>?_);cases c with
 | true=>exact hb wh Mu s1 σ H1 Q I1 q1
 | false=>exact⟨H1,I1,q1⟩
theorem sG (ha:PT X a tA) (hb:PW X (.BoolOp .Or (b :: rest) pos) tB'):PW X (.BoolOp .Or (a :: b :: rest) pos) (tOr tA tB'):=by
 intro wh Mu s σ H Q I h;refine isTrue_or (thn (ha Mu s σ H _ I h) λc s1 ⟨H1,I1,q1⟩=>?_);cases c with
 | true=>exact⟨H1,I1,q1⟩
 | false=>exact hb wh Mu s1 σ H1 Q I1 q1
theorem vH (ha:PT X a tA):PT X (.UnaryOp .Not a pos) (F8 tA):=by
 intro Mu s σ H Q I h;exact isTrue_not (ha Mu s σ H (λc H1=>Q (!c) H1) I h)
def xo (ta tb:TE):TE:=λσ H Q=>ta σ H λx H1=>∃ c,x=.bl c/\if c=MC then tb σ H1 Q else Q (.bl MG) H1
def DF (ta:TE):TE:=λσ H Q=>ta σ H λx H1=>∃ c,x=.bl c/\Q (.bl (!c)) H1
theorem kn {op} {t:TE} (h:PE X a t):PE X (.BoolOp op [a] pos) t:=λMu s σ H Q I hw=>BoolOp_one (h Mu s σ H Q I hw)
theorem fK (ha:PE X a ta) (hb:PE X (.BoolOp .And (b :: rest) pos) tb):PE X (.BoolOp .And (a :: b :: rest) pos) (xo ta tb):=by
 intro Mu s σ H Q I h;refine BoolOp_and (thn (ha Mu s σ H _ I h) λv s1 ⟨x,H1,I1,r1,q1⟩=>?_);obtain⟨c,rfl,q1⟩:=q1;cases r1;refine Jo ?_;cases c with
 | true=>exact hb Mu s1 σ H1 Q I1 q1
 | false=>exact⟨.bl MG,H1,I1,rfl,q1⟩
theorem Eg (ha:PE X a ta):PE X (.UnaryOp .Not a pos) (DF ta):=by
 intro Mu s σ H Q I h;refine UnaryOp_ (thn (ha Mu s σ H _ I h) λv s1 ⟨x,H1,I1,r1,q1⟩=>?_);obtain⟨c,rfl,q1⟩:=q1;cases r1;exact not_of (Jo ⟨.bl (!c),H1,I1,rfl,q1⟩)
def tIf (t:TT) (ta tb:TE):TE:=λσ H Q=>t σ H λc H1=>if c=MC then ta σ H1 Q else tb σ H1 Q
theorem j7 {c:Expr} (hc:PT X c tA) (ha:PE X a ta) (hb:PE X b tb):PE X (.IfExp c a b pos) (tIf tA ta tb):=by
 intro Mu s σ H Q I h;refine wpAny_IfExp (thn (hc Mu s σ H _ I h) λd s1 ⟨H1,I1,q1⟩=>?_);cases d with
 | true=>exact ha Mu s1 σ H1 Q I1 q1
 | false=>exact hb Mu s1 σ H1 Q I1 q1
end
def SqL (K:Hj) (H:Hp) (a:Hm) (xs:List V):Prop :=
 Rd H a (.lst xs) \/
  ∃ (o:Obj) (its:Array MD) (n:Nat),K.lookup a=MA o/\o.cls=.type "list"/\o.dict=MF/\o.data=.seq its n/\its.size<=Ir/\Vals xs its.toList
def SqT (K:Hj) (H:Hp) (a:Hm) (xs:List V):Prop :=
 Rd H a (.tup xs) \/
  ∃ (o:Obj) (its:Array MD) (n:Nat),K.lookup a=MA o/\o.cls=.type "tuple"/\o.data=.seq its n/\its.size<=Ir/\Vals xs its.toList
noncomputable def G2:MD->Option V
 | .none=>MA .non
 | .bool b=>MA (.bl b)
 | .int i _=>MA (.int i)
 | .str x _=>MA (.str x)
 | .bytes b _=>MA (.byt b)
 | .float b _=>MA (.flt b)
 | .ref a=>MA (.ref a)
 | .type n=>MA (.ty n)
 | _=>MF
theorem RelV.abs {x:V} {u:MD} (r:RelV x u):G2 u=MA x:=by
 cases x with
 | non=>cases r;rfl
 | bl _=>cases r;rfl
 | int _=>obtain⟨t,rfl⟩:=r;rfl
 | str _=>obtain⟨t,rfl⟩:=r;rfl
 | byt _=>obtain⟨t,rfl⟩:=r;rfl
 | flt _=>obtain⟨t,rfl⟩:=r;rfl
 | ref _=>cases r;rfl
 | ty _=>cases r;rfl
theorem RelV.inj {x y:V} {u:MD} (r:RelV x u) (q:RelV y u):x=y:=ML (r.abs.symm.trans q.abs)
theorem Vals.inj:∀ {xs ys:List V} {us:MQ},Vals xs us->Vals ys us->xs=ys
 | _,_,_,.nil,.nil=>rfl
 | _,_,_,.cons r t,.cons r' t'=>by rw [r.inj r',Vals.inj t t']
section
variable {X:Cx} {Mu:MT} {σ:St} {H:Hp} {s:ME} {a:Hm} {xs ys:List V}
theorem SqL.of {K:Hj} (h:H a=MA (.lst xs)):SqL K H a xs:=.inl (.inl h)
theorem SqT.of {K:Hj} (h:H a=MA (.tup xs)):SqT K H a xs:=.inl (.inl h)
theorem Inv.list (I:Inv X Mu σ H s) (h:SqL X.K H a xs):∃ its:MQ,Vals xs its/\PlainL s.heap a its.toArray/\xs.length<=Ir:=by
 rcases h with h | ⟨o,its,n,hk,hc,hd,hs,hz,r⟩
 ·obtain⟨z,its,n,r,e⟩:=h.ok I.hok;exact⟨its,r,⟨_,n,e,rfl,rfl,rfl⟩,z⟩
 ·refine⟨its.toList,r,⟨o,n,I.kIn a o hk,hc,hd,by simpa using hs⟩,?_⟩;have e:=r.length;simp only [HF] at e;omega
theorem Inv.tuple (I:Inv X Mu σ H s) (h:SqT X.K H a xs):∃ its:MQ,Vals xs its/\IsTup s.heap a its.toArray/\xs.length<=Ir:=by
 rcases h with h | ⟨o,its,n,hk,hc,hs,hz,r⟩
 ·obtain⟨z,its,r,p⟩:=h.ok I.hok;exact⟨its,r,p,z⟩
 ·refine⟨its.toList,r,⟨o,I.kIn a o hk,hc,n,by simpa using hs⟩,?_⟩;have e:=r.length;simp only [HF] at e;omega
theorem Inv.list_inj (I:Inv X Mu σ H s) (h:SqL X.K H a xs) (h':SqL X.K H a ys):xs=ys:=by
 obtain⟨its,r,⟨o,n,e,_,_,d⟩,_⟩:=I.list h;obtain⟨its',r',⟨o',n',e',_,_,d'⟩,_⟩:=I.list h';rw [e] at e';cases e';rw [d] at d';injection d' with d1 _;have:its=its':=by simpa using congrArg Array.toList d1
 subst this;exact r.inj r'
theorem Inv.tuple_inj (I:Inv X Mu σ H s) (h:SqT X.K H a xs) (h':SqT X.K H a ys):xs=ys:=by
 obtain⟨its,r,⟨o,e,_,n,d⟩,_⟩:=I.tuple h;obtain⟨its',r',⟨o',e',_,n',d'⟩,_⟩:=I.tuple h';rw [e] at e';cases e';rw [d] at d';injection d' with d1 _;have:its=its':=by simpa using congrArg Array.toList d1
 subst this;exact r.inj r'
end
noncomputable abbrev Cx.wish (X:Cx) (E:MD->ME->Prop):Cx:={ X with xe:=E }
noncomputable abbrev Cx.nox (X:Cx):Cx:=X.wish λ_ _=>False
theorem Cx.Ok.wish {X:Cx} (ok:X.Ok) (E:MD->ME->Prop):(X.wish E).Ok :=
 ⟨ok.mod,ok.kind,ok.glob,ok.blt,ok.above,ok.inj,ok.has,ok.cab,ok.hd,ok.frames,ok.stk,ok.exf,ok.bs,ok.bsz,ok.noex,ok.exfs,ok.funs,ok.frf,ok.tabs⟩
theorem Cx.Ok.unwish {X:Cx} {E:MD->ME->Prop} (ok:(X.wish E).Ok):X.Ok :=
 ⟨ok.mod,ok.kind,ok.glob,ok.blt,ok.above,ok.inj,ok.has,ok.cab,ok.hd,ok.frames,ok.stk,ok.exf,ok.bs,ok.bsz,ok.noex,ok.exfs,ok.funs,ok.frf,ok.tabs⟩
section
variable {X:Cx} {Mu:MT} {σ:St} {H:Hp} {s:ME} {E:MD->ME->Prop}
theorem Inv.wish (I:Inv X Mu σ H s) (E:MD->ME->Prop):Inv (X.wish E) Mu σ H s:=⟨I.ok.wish E,I.os,I.bare,I.base,I.loc,I.cell,I.free,I.freeC,I.pin,I.hok,I.len⟩
theorem Inv.unwish (I:Inv (X.wish E) Mu σ H s):Inv X Mu σ H s:=⟨I.ok.unwish,I.os,I.bare,I.base,I.loc,I.cell,I.free,I.freeC,I.pin,I.hok,I.len⟩
theorem SP.unwish {D:Ends} {f:Flow} {s':ME} (h:SP (X.wish E) Mu D f s'):SP X Mu D f s':=by
 cases f with
 | next=>obtain⟨σ',H',I,q⟩:=h;exact⟨σ',H',I.unwish,q⟩
 | brk=>obtain⟨σ',H',I,q⟩:=h;exact⟨σ',H',I.unwish,q⟩
 | cont=>obtain⟨σ',H',I,q⟩:=h;exact⟨σ',H',I.unwish,q⟩
 | ret u=>obtain⟨v,σ',H',I,r,q⟩:=h;exact⟨v,σ',H',I.unwish,r,q⟩
theorem PSs.nox {st:MY} {t:TS} (h:PSs X.nox st t):PSs X st t:=λMu s σ H D I hw =>
 Jt (h Mu s σ H D (I.wish _) hw) (λ_ _ q=>q.unwish) λ_ _ z=>J9 z
end
section
variable {X:Cx} {st:Stmt} {rest:MY} {t u:TS} {e:Expr} {te:TE} {pos:Pos}
def sH:TS:=λD σ H=>D.nx σ H
def aP (t u:TS):TS:=λD σ H=>t { D with nx:=u D } σ H
theorem zV:PSs X [] sH:=λ_ _ σ H _ I h=>wpAny_execs_nil ⟨σ,H,I,h⟩
theorem zc (h1:PS X st t) (h2:PSs X rest u):PSs X (st :: rest) (aP t u):=by
 intro Mu s σ H D I h;refine LM (thn (h1 Mu s σ H { D with nx:=u D } I h) λf s1 q=>?_);cases f with
 | next =>
  obtain⟨σ',H',I',q⟩:=q;exact h2 Mu s1 σ' H' D I' q
 | ret v=>exact q
 | brk=>exact q
 | cont=>exact q
theorem zj (h1:PS X st t):PSs X [st] t:=by
 intro Mu s σ H D I h;refine LM (thn (h1 Mu s σ H D I h) λf s1 q=>?_);cases f with
 | next=>exact wpAny_execs_nil q
 | ret v=>exact q
 | brk=>exact q
 | cont=>exact q
theorem Inv.quiet {Mu:MT} {σ:St} {H:Hp} {s:ME} (I:Inv X Mu σ H s):interactive X.env=MG:=by simp [interactive,I.ok.kind]
def mC (te:TE):TS:=λD σ H=>te σ H λ_ H1=>D.nx σ H1
theorem yE (he:PE X e te) (hs:swapsWith e MF pos.line X.env=pure MG:=by rfl):PS X (.Expr e pos) (mC te):=by
 intro Mu s σ H D I h;exact wpAny_Expr_any (thn (he Mu s σ H _ I h) λv s1 ⟨x,H1,I1,r1,q1⟩=>⟨σ,H1,I1,q1⟩) I.quiet hs
def hJ (te:TE):TS:=λD σ H=>te σ H D.rt
theorem zv (he:PE X e te):PS X (.Return (MA e) pos) (hJ te):=by
 intro Mu s σ H D I h;exact wpAny_Return_some (thn (he Mu s σ H _ I h) λv s1 ⟨x,H1,I1,r1,q1⟩=>⟨x,σ,H1,I1,r1,q1⟩)
def xp (c:TT) (t u:TS):TS:=λD σ H=>c σ H λb H1=>if b=MC then t D σ H1 else u D σ H1
theorem yF {c:Expr} {a b:MY} {tc:TT} (hc:PT X c tc) (ha:PSs X a t) (hb:PSs X b u):PS X (.If c a b pos) (xp tc t u):=by
 intro Mu s σ H D I h;refine wpAny_If (thn (hc Mu s σ H _ I h) λd s1 ⟨H1,I1,q1⟩=>?_);cases d with
 | true=>exact ha Mu s1 σ H1 D I1 q1
 | false=>exact hb Mu s1 σ H1 D I1 q1
def Eh:TS:=λ_ _ _=>False
theorem fM:PS X st Eh:=λ_ _ _ _ _ _ h=>h.elim
end
abbrev TG:=V->St->Hp->(St->Hp->Prop)->Prop
abbrev TGs:=List V->St->Hp->(St->Hp->Prop)->Prop
def PG (X:Cx) (target:Expr) (t:TG):Prop :=
 ∀ (Mu:MT) (s:ME) (σ:St) (H:Hp) (v:V) (u:MD) (Q:St->Hp->Prop),Inv X Mu σ H s->RelV v u->t v σ H Q ->
  HP (model X.prog X.w) X.A (assign target X.env u) (λ_ s'=>∃ σ' H',Inv X Mu σ' H' s'/\Q σ' H') X.xe s
def PGs (X:Cx) (ts:MX) (t:TGs):Prop :=
 ∀ (Mu:MT) (s:ME) (σ:St) (H:Hp) (vs:List V) (us:MQ) (Q:St->Hp->Prop),Inv X Mu σ H s->Vals vs us->t vs σ H Q ->
  HP (model X.prog X.w) X.A (assignInOrder ((assignEach ts X.env).map (·.2)) us) (λ_ s'=>∃ σ' H',Inv X Mu σ' H' s'/\Q σ' H') X.xe s
abbrev Ei:=V->V->V->Hp->(Hp->Prop)->Prop
def xq (X:Cx) (t:Ei):Prop :=
 ∀ (Mu:MT) (s:ME) (σ:St) (H:Hp) (o i v:V) (ov iv u:MD) (Q:Hp->Prop),Inv X Mu σ H s->RelV o ov->RelV i iv->RelV v u->t o i v H Q ->
  HP (model X.prog X.w) X.A (setItem ov iv u) (λ_ s'=>∃ H',Inv X Mu σ H' s'/\Q H') X.xe s
section
variable {X:Cx} {pos:Pos}
def jA (i:Nat):TG:=λv σ H Q=>Q (σ.set i (MA v)) H
theorem zd {i:Nat} {x:Str} (hN:X.N.Nodup) (hi:X.N[i]?=MA x) (hx:Loc X.env.scope x) (hf:X.fn x=MC \/ X.env.scope.names.lookup x=MA .local:=by first | exact .inl rfl | exact .inr rfl | assumption):PG X (.Name x pos) (jA i):=by
 intro Mu s σ H v u Q I r h;exact wpAny_assign_Name (mB I hN hi hx r (λs' I'=>⟨_,H,I',h⟩) hf)
def Ej:TGs:=λvs σ H Q=>vs=[]/\Q σ H
def sI (t:TG) (u:TGs):TGs:=λvs σ H Q=>∃ v r,vs=v :: r/\t v σ H λσ' H'=>u r σ' H' Q
theorem zx:PGs X [] Ej:=by
 intro Mu s σ H vs us Q I r h;obtain⟨e,h⟩:=h;subst e;cases r;exact assignInOrder_nil ⟨σ,H,I,h⟩
theorem ze {e:Expr} {es:MX} {t:TG} {u:TGs} (h1:PG X e t) (h2:PGs X es u)
  (hs:(assignEach (e :: es) X.env).map (·.2)=assign e X.env :: (assignEach es X.env).map (·.2):=by rfl):PGs X (e :: es) (sI t u):=by
 intro Mu s σ H vs us Q I r h;obtain⟨v,vr,e1,h⟩:=h;subst e1;cases r with
 | cons r rr =>
  rw [hs];refine assignInOrder_cons (thn (h1 Mu s σ H _ _ _ I r h) λ_ s1 ⟨σ1,H1,I1,q1⟩=>?_);exact h2 Mu s1 σ1 H1 _ _ Q I1 rr q1
def BQ (K:Hj) (n:Nat) (t:TGs):TG:=λv σ H Q=>∃ a xs,v=.ref a/\SqT K H a xs/\xs.length=n/\t xs σ H Q
theorem Ek {es:MX} {k:Nat} {t:TGs} {n:Nat} (hc:X.calm=MC) (h:PGs X es t)
  (hn:(assignEach es X.env).length=n:=by rfl) (hst:(assignEach es X.env).findIdx? (·.1)=MF:=by rfl):PG X (.Tuple es k pos) (BQ X.K n t):=by
 intro Mu s σ H v u Q I r hw;obtain⟨a,xs,e1,hq,hl,hw⟩:=hw;subst e1;cases r;obtain⟨its,rv,ht,hz⟩:=I.tuple hq;refine assign_Tuple_tuple (I.ok.hd hc) ht (by simp [hn,<- hl,rv.length]) hst λh' hx=>?_;have I1:Inv X Mu σ H { s with heap:=h' }:=I.kept (t':=s.toks) λb o e=>hx b o (HW (HD e)) e;exact h Mu _ σ H xs _ Q I1 (by simpa using rv) hw
def oP (to ti:TE) (t:Ei):TG:=λv σ H Q=>to σ H λo H1=>ti σ H1 λi H2=>t o i v H2 λH3=>Q σ H3
theorem aQ {o i:Expr} {to ti:TE} {t:Ei} (ho:PE X o to) (hi:PE X i ti) (hs:xq X t)
  (ha:∀ v,assign (.Subscript o i pos) X.env v=(do
   let ov <- holding [v] (eval o X.env)
   let iv <- holding [v,ov] (eval i X.env)
   standAt pos
   holding [v,ov,iv] (setItem ov iv v)
   release [v,ov,iv] []):=by intro _;rfl):PG X (.Subscript o i pos) (oP to ti t):=by
 intro Mu s σ H v u Q I r h;rw [ha];refine Hf (Ik (thn (ho Mu s σ H _ I h) λov s1 ⟨x,H1,I1,r1,q1⟩=>?_));refine Hf (Ik (thn (hi Mu s1 σ H1 _ I1 q1) λiv s2 ⟨y,H2,I2,r2,q2⟩=>?_));refine Hf (wpAny_standAt (Hf (Ik (thn (hs Mu s2 σ H2 x y v ov iv u _ I2 r1 r2 r q2) λ_ s3 ⟨H3,I3,q3⟩=>?_))));exact wpAny_release ⟨σ,H3,I3,q3⟩
def vP (te:TE) (g:TG):TS:=λD σ H=>te σ H λx H1=>g x σ H1 D.nx
theorem z9 {tg e:Expr} {te:TE} {g:TG} (he:PE X e te) (hg:PG X tg g) (hs:swapsWithSole [tg] e pos.line X.env=pure MG:=by rfl) (hw:swappedStores [tg] e X.env=pure MF:=by rfl)
  (h1:(assignEach [tg] X.env).map (·.2)=[assign tg X.env]:=by rfl):PS X (.Assign [tg] e pos) (vP te g):=by
 intro Mu s σ H D I h;refine wpAny_Assign_stores (thn (he Mu s σ H _ I h) λv s1 ⟨x,H1,I1,r1,q1⟩=>?_) hs hw;rw [h1];exact thn (hg Mu s1 σ H1 x v _ I1 r1 q1) λ_ s2 q=>q
theorem zO {i:Nat} {x:Str} {e:Expr} {te:TE} {pos':Pos} (hN:X.N.Nodup) (hi:X.N[i]?=MA x) (hx:Loc X.env.scope x) (he:PE X e te) (hs:swapsWith e (MA (.Name x pos')) pos.line X.env=pure MG:=by rfl) (hf:X.fn x=MC \/ X.env.scope.names.lookup x=MA .local:=by first | exact .inl rfl | exact .inr rfl | assumption) :
  PS X (.Assign [.Name x pos'] e pos) (vP te (jA i)):=by
 intro Mu s σ H D I h;refine wpAny_Assign_Name (thn (he Mu s σ H _ I h) λv s1 ⟨y,H1,I1,r1,q1⟩=>?_) hs;exact mB I1 hN hi hx r1 (λs2 I2=>⟨_,H1,I2,q1⟩) hf
end
section
variable {X:Cx} {pos:Pos}
def xr (c:TT) (tb:TS):TS:=λD σ H=>∃ W:Nat->St->Hp->Prop,(∃ m,W m σ H)/\∀ m σ H,W m σ H ->
 c σ H λb H1=>if b=MC then ∃ N:St->Hp->Prop,(∀ σ' H',N σ' H'->∃ m',m'<m/\W m' σ' H')/\tb { D with nx:=N,ct:=N,bk:=D.nx } σ H1 else D.nx σ H1
theorem mD {c:Expr} {body:MY} {tc:TT} {tb:TS} (hp:PassesOwn (model X.prog X.w) X.A X.env X.xe) (hc:PT X c tc) (hb:PSs X body tb):PS X (.While c body [] pos) (xr tc tb):=by
 intro Mu s σ H D I h;obtain⟨W,⟨m0,w0⟩,turn⟩:=h;refine wpAny_While (codeAny_whileLoop (λn s'=>∃ σ' H',Inv X Mu σ' H' s'/\W n σ' H') ?_ m0 ⟨σ,H,I,w0⟩);rintro n s1 ⟨σ1,H1,I1,w1⟩;refine wpAny_passesOwn hp (thn (hc Mu s1 σ1 H1 _ I1 (turn n σ1 H1 w1)) λb s2 ⟨H2,I2,q2⟩=>?_);cases b with
 | true =>
  obtain⟨N,hN,q2⟩:=q2;rw [Mw rfl];refine wpAny_passesOwn hp (thn (hb Mu s2 σ1 H2 _ I2 q2) λf s3 q3=>?_);cases f with
  | next =>
   obtain⟨σ3,H3,I3,n3⟩:=q3;obtain⟨m',hm,w3⟩:=hN σ3 H3 n3;exact⟨m',hm,σ3,H3,I3,w3⟩
  | cont =>
   obtain⟨σ3,H3,I3,n3⟩:=q3;obtain⟨m',hm,w3⟩:=hN σ3 H3 n3;exact⟨m',hm,σ3,H3,I3,w3⟩
  | brk=>exact q3
  | ret v=>exact q3
 | false =>
  rw [Mv He];exact wpAny_execs_nil ⟨σ1,H2,I2,q2⟩
end
structure It where
 go:Nat->Hp->Prop
 yld:Nat->Hp->V->Hp->Prop
 stop:Nat->Hp->Prop
def bT (X:Cx) (Mu:MT) (H:Hp) (b:Hm):Prop :=
 H b=MF/\b≠X.env.locals/\b∉X.fs/\(b∈X.ex \/ X.s₀.heap.objs.size<=b)/\(∀ x c,X.env.cells.lookup x=MA c->c≠b)/\∀ p∈X.pn++Mu,p.1≠b
theorem Inv.fpOk {X:Cx} {Mu:MT} {σ:St} {H H':Hp} {s:ME} {b:Hm} (I:Inv X Mu σ H s) (hb:s.heap.objs.size<=b) (hn:H' b=MF):bT X Mu H' b:=by
 refine⟨hn,KP (HZ I.lt hb),I.nofs hb,.inr (HM I.sz hb),λx c e z=>?_,λp hp z=>?_⟩
 ·obtain⟨v,q⟩:=I.cell x c e;exact absurd (HZ q.lt (by rw [z];exact hb)) (Jw _)
 ·exact absurd (HZ (HD (I.pin p hp).1) (by rw [z];exact hb)) (Jw _)
structure Turn (P:MI) (w:MH) (K:Hj) (tg:Expr) (J:It) (fp:MS) (it:Hm) (tn:Nat->Heap->Prop):Prop where
 mem:it∈fp
 obj:∀ i h,tn i h->∀ b∈fp,∃ o,h.get? b=MA o/\∀ v,o.data≠.cell v
 keep:∀ i h h',tn i h->(∀ b∈fp,∀ o,h.get? b=MA o->h'.get? b=MA o)->tn i h'
 item:∀ (X:Cx),X.prog=P->X.w=w->X.K=K->X.calm=MC->∀ (i:Nat) (Mu:MT) (s:ME) (σ:St) (H:Hp) (E:MD->ME->Prop),Inv X Mu σ H s->(∀ b∈fp,bT X Mu H b)->tn i s.heap->J.go i H ->
  HP (model P w) X.A (pyNext (.ref it)) (λr s1=>∃ u,r=MA u /\
   HP (model P w) X.A (Jk tg (.ref it) u) (λ_ s2=>∃ x H',Inv X Mu σ H' s2/\RelV x u/\J.yld i H x H'/\tn (i+1) s2.heap/\∀ b∈fp,H' b=MF) E s1) E s
 done:∀ (X:Cx),X.prog=P->X.w=w->X.K=K->X.calm=MC->∀ (i:Nat) (Mu:MT) (s:ME) (σ:St) (H:Hp) (E:MD->ME->Prop),Inv X Mu σ H s->(∀ b∈fp,bT X Mu H b)->tn i s.heap->J.stop i H ->
  HP (model P w) X.A (pyNext (.ref it)) (λr s1=>r=MF/\Inv X Mu σ H s1) E s
 self:∀ (A:MJ) (i:Nat) (s:ME) (Q:MD->ME->Prop) (E:MD->ME->Prop),tn i s.heap->Q (.ref it) s->HP (model P w) A (pyIter (.ref it)) Q E s
abbrev TI:=St->Hp->(It->Hp->Prop)->Prop
def PIE (X:Cx) (Mu:MT) (σ:St) (tg:Expr) (R:It->Hp->Prop) (itv:MD) (s2:ME):Prop :=
 ∃ (it:Hm) (fp:MS) (tn:Nat->Heap->Prop) (J:It) (H':Hp),itv=.ref it/\Inv X Mu σ H' s2/\Turn X.prog X.w X.K tg J fp it tn/\tn 0 s2.heap/\(∀ b∈fp,bT X Mu H' b)/\R J H'
def PI (X:Cx) (tg iter:Expr) (wi:TI):Prop :=
 ∀ (Mu:MT) (s:ME) (σ:St) (H:Hp) (R:It->Hp->Prop),Inv X Mu σ H s->wi σ H R ->
  HP (model X.prog X.w) X.A (eval iter X.env) (λv s1=>HP (model X.prog X.w) X.A (pyIter v) (PIE X Mu σ tg R) X.xe s1) X.xe s
theorem sJ {M:Model} {A:MJ} {E:MD->ME->Prop} {s:ME} {tg:Expr} {it:Hm} {u:MD} {o:Obj} {n:String} {vs:Array MD} {Q:Unit->ME->Prop} (ho:s.heap.get? it=MA o) (hc:o.cls=.type n) (hd:o.data=.fields vs)
  (hn:["enumerate","zip","dict_itemiterator","dict_reverseitemiterator","odict_iterator","itertools.zip_longest","itertools.pairwise"].contains n=MG) (hQ:Q () s):HP M A (Jk tg (.ref it) u) Q E s:=by
 unfold Jk;cases tg <;> first
  | exact Hs hQ
  | (cases u <;> first
    | exact Hs hQ
    | (refine Hf (wpAny_load ho ?_)
       rw [hc,hd];show HP M A (if (["enumerate","zip","dict_itemiterator","dict_reverseitemiterator","odict_iterator","itertools.zip_longest","itertools.pairwise"].contains n && vs[0]? == MA (rawInt _))=MC then _ else _) Q E s;rw [Mv (by intro h;rw [hn,Ko] at h;cases h)];exact Hs hQ))
noncomputable def Itl (K:Hj) (a:Hm):It :=
 ⟨λi H=>∃ xs x,SqL K H a xs/\xs[i]?=MA x,λi H x H'=>H'=H/\∀ xs,SqL K H a xs->xs[i]?=MA x,λi H=>∃ xs,SqL K H a xs/\xs.length<=i⟩
noncomputable def Itt (K:Hj) (a:Hm):It :=
 ⟨λi H=>∃ xs x,SqT K H a xs/\xs[i]?=MA x,λi H x H'=>H'=H/\∀ xs,SqT K H a xs->xs[i]?=MA x,λi H=>∃ xs,SqT K H a xs/\xs.length<=i⟩
noncomputable def Itr (lo:Int) (n:Nat):It:=⟨λi _=>i<n,λi H x H'=>H'=H/\x=.int (lo+i),λi _=>n<=i⟩
theorem uI {P:MI} {w:MH} {K:Hj} {tg:Expr} (a it:Hm):Turn P w K tg (Itl K a) [it] it (λi h=>h.IsListIter it a i) where
 mem:=by simp
 obj:=λi h st b hb=>by
  have e:b=it:=by simpa using hb
  subst e;obtain⟨o,e,c,d⟩:=st;exact⟨o,e,λv z=>by rw [d] at z;cases z⟩
 keep:=λi h h' st k=>st.at λo e=>k it (by simp) o e
 item:=by
  intro X hP hw hK hc i Mu s σ H E I hf st hg;subst hP hw hK;obtain⟨xs,x,hq,hx⟩:=hg;obtain⟨its,rv,p,hz⟩:=I.list hq;obtain⟨u,hu,ru⟩:=rv.get hx;obtain⟨f0,f1,f2,f3,f4,f5⟩:=hf it (by simp);refine wpAny_pyNext_list_item st p.isList (x:=u) (by simpa using hu) λh' st' sb=>?_;have I1:Inv X Mu σ H { s with heap:=h' }:=I.turned (t':=s.toks) (λb o hb e=>(sb.2 b hb).trans e) f0 f1 f3 f4 f5;obtain⟨o,e,c,d⟩:=id st';exact⟨u,rfl,sJ (s:={ s with heap:=h' }) e c d (by decide) ⟨x,H,I1,ru,⟨rfl,λys hy=>by rw [I.list_inj hy hq];exact hx⟩,st',λb hb=>(hf b hb).1⟩⟩
 done:=by
  intro X hP hw hK hc i Mu s σ H E I hf st hg;subst hP hw hK;obtain⟨xs,hq,hx⟩:=hg;obtain⟨its,rv,p,hz⟩:=I.list hq;obtain⟨f0,f1,f2,f3,f4,f5⟩:=hf it (by simp);have hl:=rv.length;exact wpAny_pyNext_list_end (I.ok.hd hc) st p.isList (by simp;omega) λh' eb=>⟨rfl,I.turned (t':=s.toks) (λb o hb e=>eb b o hb e) f0 f1 f3 f4 f5⟩
 self:=λ_ _ _ _ _ st h=>wpAny_pyIter_listiter st h
theorem oQ {P:MI} {w:MH} {K:Hj} {tg:Expr} (a it:Hm):Turn P w K tg (Itt K a) [it] it (λi h=>h.IsTupleIter it a i) where
 mem:=by simp
 obj:=λi h st b hb=>by
  have e:b=it:=by simpa using hb
  subst e;obtain⟨o,e,c,d⟩:=st;exact⟨o,e,λv z=>by rw [d] at z;cases z⟩
 keep:=λi h h' st k=>st.at λo e=>k it (by simp) o e
 item:=by
  intro X hP hw hK hc i Mu s σ H E I hf st hg;subst hP hw hK;obtain⟨xs,x,hq,hx⟩:=hg;obtain⟨its,rv,p,hz⟩:=I.tuple hq;obtain⟨u,hu,ru⟩:=rv.get hx;obtain⟨f0,f1,f2,f3,f4,f5⟩:=hf it (by simp);refine wpAny_pyNext_tuple_item st (show s.heap.IsTuple a its.toArray from p) (x:=u) (by simpa using hu) λh' st' sb=>?_;have I1:Inv X Mu σ H { s with heap:=h' }:=I.turned (t':=s.toks) (λb o hb e=>(sb.2 b hb).trans e) f0 f1 f3 f4 f5;obtain⟨o,e,c,d⟩:=id st';exact⟨u,rfl,sJ (s:={ s with heap:=h' }) e c d (by decide) ⟨x,H,I1,ru,⟨rfl,λys hy=>by rw [I.tuple_inj hy hq];exact hx⟩,st',λb hb=>(hf b hb).1⟩⟩
 done:=by
  intro X hP hw hK hc i Mu s σ H E I hf st hg;subst hP hw hK;obtain⟨xs,hq,hx⟩:=hg;obtain⟨its,rv,p,hz⟩:=I.tuple hq;obtain⟨f0,f1,f2,f3,f4,f5⟩:=hf it (by simp);have hl:=rv.length;exact wpAny_pyNext_tuple_end (I.ok.hd hc) st (show s.heap.IsTuple a its.toArray from p) (by simp;omega) λh' eb=>⟨rfl,I.turned (t':=s.toks) (λb o hb e=>eb b o hb e) f0 f1 f3 f4 f5⟩
 self:=λ_ _ _ _ _ st h=>wpAny_pyIter_tupleiter st h
theorem oR {P:MI} {w:MH} {K:Hj} {tg:Expr} (it:Hm) (lo:Int) (n:Nat):Turn P w K tg (Itr lo n) [it] it (λi h=>IsRangeIter h it (lo+(i:Nat) * 1) ((n:Int) - (i:Nat)) 1) where
 mem:=by simp
 obj:=λi h st b hb=>by
  have e:b=it:=by simpa using hb
  subst e;exact⟨_,st,λv z=>by
   have z':Data.fields _=Data.cell v:=z;cases z'⟩
 keep:=λi h h' st k=>k it (by simp) _ st
 item:=by
  intro X hP hw hK hc i Mu s σ H E I hf st hg;subst hP hw hK;obtain⟨f0,f1,f2,f3,f4,f5⟩:=hf it (by simp);have W:=Walks.range (prog:=X.prog) (w:=X.w) (I.ok.hd hc) it lo 1 n;refine W.item i s _ _ hg st λv h' tk hv st' kk=>?_;obtain⟨t,rfl⟩:=hv;have I1:Inv X Mu σ H { s with heap:=h',toks:=tk }:=I.turned (λb o hb e=>kk b o (by simpa using hb) e) f0 f1 f3 f4 f5;refine⟨_,rfl,sJ (s:={ s with heap:=h',toks:=tk }) (n:="range_iterator") st' rfl rfl (by decide) ⟨.int (lo+i),H,I1,⟨t,?_⟩,⟨rfl,rfl⟩,st',λb hb=>(hf b hb).1⟩⟩;rw [Int.mul_one]
 done:=by
  intro X hP hw hK hc i Mu s σ H E I hf st hg;subst hP hw hK;obtain⟨f0,f1,f2,f3,f4,f5⟩:=hf it (by simp);exact wpAny_pyNext_range_end (I.ok.hd hc) st (by have:n<=i:=hg;omega) λh' eb=>⟨rfl,I.turned (t':=s.toks) (λb o hb e=>eb b o hb e) f0 f1 f3 f4 f5⟩
 self:=λ_ _ _ _ _ st h=>wpAny_pyIter_rangeiter st h
section
variable {X:Cx} {tg:Expr}
def fN (K:Hj) (tl:TE):TI:=λσ H R=>tl σ H λx H1=>∃ a,x=.ref a/\(∃ xs,SqL K H1 a xs)/\R (Itl K a) H1
def El (K:Hj) (tl:TE):TI:=λσ H R=>tl σ H λx H1=>∃ a,x=.ref a/\(∃ xs,SqT K H1 a xs)/\R (Itt K a) H1
theorem BR {l:Expr} {tl:TE} (hl:PE X l tl):PI X tg l (fN X.K tl):=by
 intro Mu s σ H R I h;refine thn (hl Mu s σ H _ I h) λv s1 ⟨x,H1,I1,r1,q1⟩=>?_;obtain⟨a,e,⟨xs,hq⟩,q⟩:=q1;subst e;cases r1;obtain⟨its,rv,p,hz⟩:=I1.list hq;refine wpAny_pyIter_list p.isList ?_;refine⟨s1.heap.objs.size,[s1.heap.objs.size],_,_,H1,rfl,I1.kept (t':=s1.toks) λb o e=>Hr _ e,uI a _,⟨_,HS _ rfl,rfl,rfl⟩,λb hb=>?_,q⟩;have e:b=s1.heap.objs.size:=by simpa using hb
 subst e;exact I1.fpOk (Ht _) (I1.hok.fresh (Ht _))
theorem Em {l:Expr} {tl:TE} (hl:PE X l tl):PI X tg l (El X.K tl):=by
 intro Mu s σ H R I h;refine thn (hl Mu s σ H _ I h) λv s1 ⟨x,H1,I1,r1,q1⟩=>?_;obtain⟨a,e,⟨xs,hq⟩,q⟩:=q1;subst e;cases r1;obtain⟨its,rv,p,hz⟩:=I1.tuple hq;refine wpAny_pyIter_tuple (show s1.heap.IsTuple a its.toArray from p) ?_;refine⟨s1.heap.objs.size,[s1.heap.objs.size],_,_,H1,rfl,I1.kept (t':=s1.toks) λb o e=>Hr _ e,oQ a _,⟨_,HS _ rfl,rfl,rfl⟩,λb hb=>?_,q⟩;have e:b=s1.heap.objs.size:=by simpa using hb
 subst e;exact I1.fpOk (Ht _) (I1.hok.fresh (Ht _))
theorem mE {Mu:MT} {σ:St} {H:Hp} {s:ME} {R:It->Hp->Prop} {E:MD->ME->Prop} {lo hi:Int} {t u v:Tok} {tk:Nat} (I:Inv X Mu σ H s) (h1:-(2 ^ 62)<=lo) (h2:lo<2 ^ 62) (h3:-(2 ^ 62)<=hi) (h4:hi<2 ^ 62)
  (q:R (Itr lo (hi - lo).toNat) H):HP (model X.prog X.w) X.A (pyIter (.ref s.heap.objs.size)) (PIE X Mu σ tg R) E { s with heap:=s.heap.push { cls:=.type "range",data:=.fields #[.int lo t,.int hi u,.int 1 v] },toks:=tk }:=by
 refine wpAny_pyIter_range (IsRange.new ..) (small_one h1 h2 h3 h4) ?_;have I1:Inv X Mu σ H { s with heap:=s.heap.push { cls:=.type "range",data:=.fields #[.int lo t,.int hi u,.int 1 v] },toks:=tk }:=I.kept λb o e=>Hr _ e;refine⟨(s.heap.push { cls:=.type "range",data:=.fields #[.int lo t,.int hi u,.int 1 v] }).objs.size,[(s.heap.push { cls:=.type "range",data:=.fields #[.int lo t,.int hi u,.int 1 v] }).objs.size],_,_,H,rfl,
  I1.kept (t':=tk) λb o e=>Hr _ e,oR _ lo (hi - lo).toNat,?_,λb hb=>?_,q⟩
 ·have e1:lo+((0:Nat):Int) * 1=lo:=by simp
  have e2:(((hi - lo).toNat:Nat):Int) - ((0:Nat):Int)=J4 lo hi 1:=by rw [rangeSize_one];split <;> omega
  show IsRangeIter _ _ (lo+((0:Nat):Int) * 1) ((((hi - lo).toNat:Nat):Int) - ((0:Nat):Int)) 1;rw [e1,e2];exact HS _ rfl
 ·have e:b=(s.heap.push { cls:=.type "range",data:=.fields #[.int lo t,.int hi u,.int 1 v] }).objs.size:=by simpa using hb
  subst e;exact I1.fpOk (Ht _) (I1.hok.fresh (Ht _))
def sL (ta:TA):TI:=λσ H R=>ta σ H λvs H1=>∃ j:Int,vs=[.int j]/\-(2 ^ 62)<=j/\j<2 ^ 62/\R (Itr 0 j.toNat) H1
def DG (ta:TA):TI:=λσ H R=>ta σ H λvs H1=>∃ i j:Int,vs=[.int i,.int j]/\(-(2 ^ 62)<=i/\i<2 ^ 62/\-(2 ^ 62)<=j/\j<2 ^ 62)/\R (Itr i (j - i).toNat) H1
theorem jq {a:Expr} {ta:TA} {p pos:Pos} (hg:Gl X "range") (hm:X.mg "range"=MF) (ha:PA X [a] ta) (hs:Iq [a] X.env=[(MG,eval a X.env)]:=by rfl):PI X tg (.Call (.Name "range" p) [a] [] pos) (sL ta):=by
 intro Mu s σ H R I h;refine Call_ (qV I hg hm boot_range (Ju (thn (ha pos Mu s σ H _ I h) λus s1 ⟨vs,H1,I1,r1,q1⟩=>?_) hs rfl));obtain⟨j,e,q1,q2,q⟩:=q1;subst e;cases r1 with
 | cons r rr =>
  cases rr;obtain⟨t,rfl⟩:=r;exact call_range_1 (mE I1 (by omega) (by omega) q1 q2 (by simpa using q))
theorem ik {a b:Expr} {ta:TA} {p pos:Pos} (hg:Gl X "range") (hm:X.mg "range"=MF) (ha:PA X [a,b] ta) (hs:Iq [a,b] X.env=[(MG,eval a X.env),(MG,eval b X.env)]:=by rfl) (hs2:Iq [b] X.env=[(MG,eval b X.env)]:=by rfl) :
  PI X tg (.Call (.Name "range" p) [a,b] [] pos) (DG ta):=by
 intro Mu s σ H R I h;refine Call_ (qV I hg hm boot_range (Ju (thn (ha pos Mu s σ H _ I h) λus s1 ⟨vs,H1,I1,r1,q1⟩=>?_) (by rw [hs,hs2]) (by rw [hs2];rfl)));obtain⟨i,j,e,⟨q1,q2,q3,q4⟩,q⟩:=q1;subst e;cases r1 with
 | cons r rr =>
  cases rr with
  | cons r' rr =>
   cases rr;obtain⟨t,rfl⟩:=r;obtain⟨t',rfl⟩:=r';exact call_range_2 (mE I1 q1 q2 q3 q4 q)
def uJ (wi:TI) (g:TG) (tb:TS):TS:=λD σ H=>wi σ H λJ H1=>∃ W:Nat->Nat->St->Hp->Prop,(∃ m,W 0 m σ H1)/\∀ i m σ H,W i m σ H ->
 (J.stop i H/\D.nx σ H) \/ (J.go i H/\∃ N:St->Hp->Prop,(∀ σ' H',N σ' H'->∃ m',m'<m/\W (i+1) m' σ' H')/\∀ x H',J.yld i H x H'->g x σ H' λσ2 H2=>tb { D with nx:=N,ct:=N,bk:=D.nx } σ2 H2)
noncomputable def fO (fp:MS) (h:Heap):MT:=fp.filterMap λb=>(h.get? b).map λo=>(b,o)
theorem ag {fp:MS} {h:Heap} {b:Hm} {o:Obj} (hb:b∈fp) (e:h.get? b=MA o):(b,o)∈fO fp h:=J8.mpr ⟨b,hb,by rw [e];rfl⟩
theorem uK {fp:MS} {h:Heap} {p:Hm×Obj} (hp:p∈fO fp h):p.1∈fp/\h.get? p.1=MA p.2:=by
 obtain⟨b,hb,e⟩:=J8.mp hp;cases q:h.get? b with
 | none=>rw [q] at e;cases e
 | some o =>
  rw [q] at e;have e':(b,o)=p:=ML e;subst e';exact⟨hb,q⟩
theorem Inv.pinned {Mu:MT} {σ:St} {H:Hp} {s:ME} {fp:MS} (I:Inv X Mu σ H s) (hf:∀ b∈fp,bT X Mu H b) (ho:∀ b∈fp,∃ o,s.heap.get? b=MA o/\∀ v,o.data≠.cell v):Inv X (Mu++fO fp s.heap) σ H s :=
 I.pins_of λp hp=>(HC.mp hp).elim (λz=>I.pin p (HJ _ z)) λz=>by
  obtain⟨hb,e⟩:=uK z;obtain⟨f0,f1,f2,_⟩:=hf p.1 hb;obtain⟨o,e',d⟩:=ho p.1 hb;rw [e] at e';cases e';exact⟨e,f0,f1,f2,d⟩
theorem Inv.unpinned {Mu pl:MT} {σ:St} {H:Hp} {s:ME} (I:Inv X (Mu++pl) σ H s):Inv X Mu σ H s:=I.pins_of λp hp=>I.pin p (HJ _ (HQ _ hp))
theorem yL {iter:Expr} {body:MY} {wi:TI} {g:TG} {tb:TS} {pos:Pos} (hp:PassesOwn (model X.prog X.w) X.A X.env X.xe) (hc:X.calm=MC) (hi:PI X tg iter wi) (hg:PG X tg g) (hb:PSs X body tb)
  (hs:∀ x,IG iter X.env x=pure x:=by intro _;rfl):PS X (.For tg iter body [] pos) (uJ wi g tb):=by
 intro Mu s σ H D I h;refine wpAny_For (thn (hi Mu s σ H _ I h) λv s1 h1=>thn h1 λitv s2 h2=>?_) hs;obtain⟨it,fp,tn,J,H2,e,I2,T,st2,f2,W,⟨m0,w0⟩,turn⟩:=h2;subst e
 -- what stays MC of the iterator's objects through the loop
 have stat:∀ {H':Hp},(∀ b∈fp,H' b=MF)->∀ b∈fp,bT X Mu H' b:=λhn b hb=>⟨hn b hb,(f2 b hb).2⟩;refine codeAny_forLoop_any (λn s'=>∃ i σ' H',Inv X Mu σ' H' s'/\tn i s'.heap/\(∀ b∈fp,H' b=MF)/\W i n σ' H') ?_ m0 ⟨0,σ,H2,I2,st2,λb hb=>(f2 b hb).1,w0⟩;rintro n s3 ⟨i,σ3,H3,I3,st3,fr3,w3⟩;rcases turn i n σ3 H3 w3 with⟨stop,qn⟩ | ⟨go,N,hN,step⟩
 ·refine wpAny_passesOwn hp (thn (T.done X rfl rfl rfl hc i Mu s3 σ3 H3 X.xe I3 (stat fr3) st3 stop) λr s4 ⟨hr,I4⟩=>?_);subst hr;exact wpAny_execs_nil ⟨σ3,H3,I4,qn⟩
 ·refine wpAny_passesOwn hp (thn (T.item X rfl rfl rfl hc i Mu s3 σ3 H3 X.xe I3 (stat fr3) st3 go) λr s4 ⟨u,hr,h4⟩=>?_);subst hr;refine wpAny_passesOwn hp (thn h4 λ_ s5 ⟨x,H5,I5,r5,y5,st5,fr5⟩=>?_);have I5':=I5.pinned (stat fr5) (T.obj _ _ st5);refine wpAny_passesOwn hp (thn (hg _ s5 σ3 H5 x u _ I5' r5 (step x H5 y5)) λ_ s6 ⟨σ6,H6,I6,q6⟩=>?_);refine wpAny_passesOwn hp (thn (hb _ s6 σ6 H6 _ I6 q6) λf s7 q7=>?_);have again:∀ {σ7:St} {H7:Hp},Inv X (Mu++fO fp s5.heap) σ7 H7 s7->N σ7 H7->∃ m,m<n/\∃ i σ' H',Inv X Mu σ' H' s7/\tn i s7.heap/\(∀ b∈fp,H' b=MF)/\W i m σ' H':=λ{σ7 H7} I7 n7=>by
   obtain⟨m',hm,w7⟩:=hN σ7 H7 n7;refine⟨m',hm,i+1,σ7,H7,I7.unpinned,T.keep _ _ _ st5 λb hb o e=>(I7.pin (b,o) (HJ _ (HJ _ (ag hb e)))).1,λb hb=>?_,w7⟩;obtain⟨o,e,d⟩:=T.obj _ _ st5 b hb;exact (I7.pin (b,o) (HJ _ (HJ _ (ag hb e)))).2.1
  cases f with
  | next=>obtain⟨σ7,H7,I7,n7⟩:=q7;exact again I7 n7
  | cont=>obtain⟨σ7,H7,I7,n7⟩:=q7;exact again I7 n7
  | brk=>obtain⟨σ7,H7,I7,q7⟩:=q7;exact⟨σ7,H7,I7.unpinned,q7⟩
  | ret v=>obtain⟨x7,σ7,H7,I7,r7,q7⟩:=q7;exact⟨x7,σ7,H7,I7.unpinned,r7,q7⟩
end
abbrev R2:=V->V->Hp->VK->Prop
def OpR (X:Cx) (f:MD->MD->Sem MD) (r:R2):Prop :=
 ∀ (Mu:MT) (s:ME) (σ:St) (H:Hp) (x y:V) (v u:MD) (Q:VK),Inv X Mu σ H s->RelV x v->RelV y u->r x y H Q ->
  HP (model X.prog X.w) X.A (f v u) (EP X Mu σ Q) X.xe s
def UnR (X:Cx) (f:MD->Sem MD) (r:V->Hp->VK->Prop):Prop :=
 ∀ (Mu:MT) (s:ME) (σ:St) (H:Hp) (x:V) (v:MD) (Q:VK),Inv X Mu σ H s->RelV x v->r x H Q ->
  HP (model X.prog X.w) X.A (f v) (EP X Mu σ Q) X.xe s
def yK (X:Cx) (f:MD) (r:List V->Hp->VK->Prop):Prop :=
 ∀ (Mu:MT) (s:ME) (σ:St) (H:Hp) (xs:List V) (us:MQ) (Q:VK),Inv X Mu σ H s->Vals xs us->r xs H Q ->
  HP (model X.prog X.w) X.A (call f us) (EP X Mu σ Q) X.xe s
def G3 (X:Cx) (r:V->Hp->(Bool->Hp->Prop)->Prop):Prop :=
 ∀ (Mu:MT) (s:ME) (σ:St) (H:Hp) (x:V) (v:MD) (Q:Bool->Hp->Prop),Inv X Mu σ H s->RelV x v->r x H Q ->
  HP (model X.prog X.w) X.A (truthy v) (TP X Mu σ Q) X.xe s
def tOp (r:R2) (ta tb:TE):TE:=λσ H Q=>ta σ H λx H1=>tb σ H1 λy H2=>r x y H2 Q
def tUn (r:V->Hp->VK->Prop) (ta:TE):TE:=λσ H Q=>ta σ H λx H1=>r x H1 Q
def rI (C:Int->Int->Prop) (g:Int->Int->V):R2:=λx y H Q=>∃ i j,x=.int i/\y=.int j/\C i j/\Q (g i j) H
def rI0 (g:Int->Int->V):R2:=λx y H Q=>∃ i j,x=.int i/\y=.int j/\Q (g i j) H
def rU (g:Int->V):V->Hp->VK->Prop:=λx H Q=>∃ i,x=.int i/\Q (g i) H
section
variable {X:Cx} {a b c:Expr} {ta tb tc:TE} {pos:Pos}
theorem En (ha:PE X a ta) (hb:PE X b tb) {Mu:MT} {s:ME} {σ:St} {H:Hp} {R:V->V->Hp->Prop} (I:Inv X Mu σ H s)
  (h:ta σ H λx H1=>tb σ H1 λy H2=>R x y H2) {Q:MD->ME->Prop} {f:MD->MD->Sem MD}
  (hf:∀ v u s2 x y H2,Inv X Mu σ H2 s2->RelV x v->RelV y u->R x y H2->HP (model X.prog X.w) X.A (f v u) Q X.xe s2) :
  HP (model X.prog X.w) X.A (eval a X.env) (λv s₁=>HP (model X.prog X.w) X.A (eval b X.env) (λu s₂=>HP (model X.prog X.w) X.A (f v u) Q X.xe s₂) X.xe s₁) X.xe s:=by
 refine thn (ha Mu s σ H _ I h) λv s1 ⟨x,H1,I1,r1,q1⟩=>?_;refine thn (hb Mu s1 σ H1 _ I1 q1) λu s2 ⟨y,H2,I2,r2,q2⟩=>?_;exact hf v u s2 x y H2 I2 r1 r2 q2
theorem zB {op:Operator} {r:R2} (ho:OpR X (binaryOp op) r) (ha:PE X a ta) (hb:PE X b tb):PE X (.BinOp a op b pos) (tOp r ta tb):=by
 intro Mu s σ H Q I h;exact wpAny_BinOp (En ha hb I h λv u s2 x y H2 I2 rx ry q=>ho Mu s2 σ H2 x y v u Q I2 rx ry q)
theorem F9 {op:UnaryOp} {r:V->Hp->VK->Prop} (ho:UnR X (unaryOp op) r) (ha:PE X a ta):PE X (.UnaryOp op a pos) (tUn r ta):=by
 intro Mu s σ H Q I h;exact UnaryOp_ (thn (ha Mu s σ H _ I h) λv s1 ⟨x,H1,I1,r1,q1⟩=>ho Mu s1 σ H1 x v Q I1 r1 q1)
theorem opI {f:MD->MD->Sem MD} {C:Int->Int->Prop} {g:Int->Int->Int}
  (rule:∀ (i j:Int) (t u:Tok) (s:ME) (Q:MD->ME->Prop) (E:MD->ME->Prop),C i j->Q (.int (g i j) s.toks) { s with toks:=s.toks+1 }->HP (model X.prog X.w) X.A (f (.int i t) (.int j u)) Q E s) :
  OpR X f (rI C λi j=>.int (g i j)):=by
 intro Mu s σ H x y v u Q I rx ry h;obtain⟨i,j,rfl,rfl,hc,q⟩:=h;obtain⟨t,rfl⟩:=rx;obtain⟨t',rfl⟩:=ry;exact rule i j t t' s _ _ hc ⟨.int (g i j),H,I.tok _,⟨_,rfl⟩,q⟩
theorem Ga {f:MD->MD->Sem MD} {g:Int->Int->Int}
  (rule:∀ (i j:Int) (t u:Tok) (s:ME) (Q:MD->ME->Prop) (E:MD->ME->Prop),Q (.int (g i j) s.toks) { s with toks:=s.toks+1 }->HP (model X.prog X.w) X.A (f (.int i t) (.int j u)) Q E s) :
  OpR X f (rI0 λi j=>.int (g i j)):=by
 intro Mu s σ H x y v u Q I rx ry h;obtain⟨i,j,rfl,rfl,q⟩:=h;obtain⟨t,rfl⟩:=rx;obtain⟨t',rfl⟩:=ry;exact rule i j t t' s _ _ ⟨.int (g i j),H,I.tok _,⟨_,rfl⟩,q⟩
theorem BS {f:MD->MD->Sem MD} {g:Int->Int->Bool}
  (rule:∀ (i j:Int) (t u:Tok) (s:ME) (Q:MD->ME->Prop) (E:MD->ME->Prop),Q (.bool (g i j)) s->HP (model X.prog X.w) X.A (f (.int i t) (.int j u)) Q E s) :
  OpR X f (rI0 λi j=>.bl (g i j)):=by
 intro Mu s σ H x y v u Q I rx ry h;obtain⟨i,j,rfl,rfl,q⟩:=h;obtain⟨t,rfl⟩:=rx;obtain⟨t',rfl⟩:=ry;exact rule i j t t' s _ _ ⟨.bl (g i j),H,I,rfl,q⟩
def G4 (i j:Int):Prop:=0<=j/\j<=1000000/\i.natAbs<2 ^ 64
def CMul (i j:Int):Prop:=(-(2 ^ 64)<i/\i<2 ^ 64) \/ (-(2 ^ 64)<j/\j<2 ^ 64)
theorem CMul.ok {i j:Int} (h:CMul i j):IntMulOk i j:=by
 rcases h with⟨h1,h2⟩ | ⟨h1,h2⟩
 ·exact .of_left (intBits_le_64 h1 h2)
 ·exact .of_right (intBits_le_64 h1 h2)
theorem yh:OpR X (binaryOp .Add) (rI0 λi j=>.int (i+j)):=Ga λ_ _ _ _ _ _ _ q=>add_int q
theorem yu:OpR X (binaryOp .Sub) (rI0 λi j=>.int (i - j)):=Ga λ_ _ _ _ _ _ _ q=>sub_int q
theorem aR:OpR X (binaryOp .Mult) (rI CMul λi j=>.int (i * j)):=opI λ_ _ _ _ _ _ _ hc q=>mul_int q hc.ok
theorem dG:OpR X (binaryOp .Mod) (rI (λ_ j=>0<j) λi j=>.int (i % j)):=opI λi j _ _ _ _ _ hc q=>by
 have h1:(0:Int)<j:=hc;exact mod_int' (by omega) (by rw [Int.fmod_eq_emod_of_nonneg i (by omega)];exact q)
theorem oS:OpR X (binaryOp .Pow) (rI G4 λi j=>.int (i ^ j.toNat)):=opI λ_ _ _ _ _ _ _ hc q=>pow_int_small hc.1 hc.2.1 hc.2.2 q
theorem unI {f:MD->Sem MD} {g:Int->Int}
  (rule:∀ (i:Int) (t:Tok) (s:ME) (Q:MD->ME->Prop) (E:MD->ME->Prop),Q (.int (g i) s.toks) { s with toks:=s.toks+1 }->HP (model X.prog X.w) X.A (f (.int i t)) Q E s) :
  UnR X f (rU λi=>.int (g i)):=by
 intro Mu s σ H x v Q I rx h;obtain⟨i,rfl,q⟩:=h;obtain⟨t,rfl⟩:=rx;exact rule i t s _ _ ⟨.int (g i),H,I.tok _,⟨_,rfl⟩,q⟩
theorem Eo:UnR X (unaryOp .USub) (rU λi=>.int (-i)):=unI λ_ _ _ _ _ q=>neg_int q
end
section
variable {X:Cx} {a b c:Expr} {ta tb tc:TE} {pos:Pos}
theorem xt {Mu:MT} {σ:St} {H:Hp} {s:ME} {Q:VK} {k k':Bool} (I:Inv X Mu σ H s) (q:Q (.bl k) H) (e:k=k'):EP X Mu σ Q (.bool k') s:=by
 subst e;exact⟨.bl k,H,I,rfl,q⟩
theorem xu:OpR X (IJ .Lt) (rI0 λi j=>.bl (decide (i<j))):=BS λ_ _ _ _ _ _ _ q=>lt_int q
theorem bV:OpR X (IJ .LtE) (rI0 λi j=>.bl (decide (i<=j))):=BS λ_ _ _ _ _ _ _ q=>le_int q
theorem mF:OpR X (IJ .Gt) (rI0 λi j=>.bl (decide (j<i))):=BS λ_ _ _ _ _ _ _ q=>gt_int q
theorem xw:OpR X (IJ .GtE) (rI0 λi j=>.bl (decide (j<=i))):=BS λ_ _ _ _ _ _ _ q=>ge_int q
theorem Ep:OpR X (IJ .Is) (λx y H Q=>y=.non/\Q (.bl (decide (x=.non))) H):=by
 intro Mu s σ H x y v u Q I rx ry h;obtain⟨rfl,q⟩:=h;cases ry;refine is_none_gen (xt I q ?_);cases x <;> first
  | (cases rx;rfl)
  | (obtain⟨t,rfl⟩:=rx;rfl)
theorem BU:OpR X (IJ .IsNot) (λx y H Q=>y=.non/\Q (.bl (!decide (x=.non))) H):=by
 intro Mu s σ H x y v u Q I rx ry h;obtain⟨rfl,q⟩:=h;cases ry;refine isnot_none_gen (xt I q ?_);cases x <;> first
  | (cases rx;rfl)
  | (obtain⟨t,rfl⟩:=rx;rfl)
theorem zX (b:Expr) {op:CmpOp} (h:op≠.In:=by decide) (h2:op≠.NotIn:=by decide):behindInMarks op b=MG:=by
 have e1:(op == CmpOp.In)=MG:=by cases op <;> first | rfl | exact absurd rfl h
 have e2:(op == CmpOp.NotIn)=MG:=by cases op <;> first | rfl | exact absurd rfl h2
 cases b <;> simp [behindInMarks,e1,e2]
theorem ah {op:CmpOp} {r:R2} (ho:OpR X (IJ op) r) (ha:PE X a ta) (hb:PE X b tb) (hm:behindInMarks op b=MG):PE X (.Compare a [op] [b] pos) (tOp r ta tb):=by
 intro Mu s σ H Q I h;exact wpAny_Compare1 (En ha hb I h λv u s2 x y H2 I2 rx ry q=>ho Mu s2 σ H2 x y v u Q I2 rx ry q) hm
def mG (t:TE):TT:=λσ H Q=>t σ H λx H'=>∃ k,x=.bl k/\Q k H'
theorem zM {op:CmpOp} {r:R2} (ho:OpR X (IJ op) r) (ha:PE X a ta) (hb:PE X b tb) (hm:behindInMarks op b=MG):PT X (.Compare a [op] [b] pos) (mG (tOp r ta tb)):=by
 intro Mu s σ H Q I h;refine wpAny_isTrue_Compare1 (thn (ha Mu s σ H _ I h) λv s1 ⟨x,H1,I1,r1,q1⟩=>thn (hb Mu s1 σ H1 _ I1 q1) λu s2 ⟨y,H2,I2,r2,q2⟩ =>
  thn (ho Mu s2 σ H2 x y v u _ I2 r1 r2 q2) λc s3 ⟨z,H3,I3,r3,k,e,q3⟩=>?_) hm
 subst e;cases r3;exact Jo ⟨H3,I3,q3⟩
def oT (r r':R2) (ta tb tc:TE):TE:=λσ H Q=>ta σ H λx H1=>tb σ H1 λy H2=>r x y H2 λz H3=>∃ k,z=.bl k /\
 (if k=MC then tc σ H3 λw' H4=>r' y w' H4 Q else Q (.bl MG) H3)
theorem cN {op op':CmpOp} {r r':R2} (ho:OpR X (IJ op) r) (ho':OpR X (IJ op') r') (ha:PE X a ta) (hb:PE X b tb) (hc:PE X c tc)
  (hm:lastMarks [op,op'] [b,c]=MG:=by with_unfolding_all rfl):PE X (.Compare a [op,op'] [b,c] pos) (oT r r' ta tb tc):=by
 intro Mu s σ H Q I h;refine Compare_chain (thn (ha Mu s σ H _ I h) λv s1 ⟨x,H1,I1,r1,q1⟩=>chain_link (thn (hb Mu s1 σ H1 _ I1 q1) λu s2 ⟨y,H2,I2,r2,q2⟩ =>
  thn (ho Mu s2 σ H2 x y v u _ I2 r1 r2 q2) λd s3 ⟨z,H3,I3,r3,k,e,q3⟩=>?_)) hm
 subst e;cases r3;refine Jo ?_;cases k with
 | false=>exact ite_ff ⟨.bl MG,H3,I3,rfl,q3⟩
 | true=>exact ite_tt (chain_last (thn (hc Mu s3 σ H3 _ I3 q3) λw' s4 ⟨z',H4,I4,r4,q4⟩=>ho' Mu s4 σ H4 y z' u w' Q I4 r2 r4 q4))
theorem xy {op op':CmpOp} {r r':R2} (ho:OpR X (IJ op) r) (ho':OpR X (IJ op') r') (ha:PE X a ta) (hb:PE X b tb) (hc:PE X c tc)
  (hm:lastMarks [op,op'] [b,c]=MG:=by with_unfolding_all rfl):PT X (.Compare a [op,op'] [b,c] pos) (mG (oT r r' ta tb tc)):=by
 intro Mu s σ H Q I h;refine isTrue_chain (thn (ha Mu s σ H _ I h) λv s1 ⟨x,H1,I1,r1,q1⟩=>test_link (thn (hb Mu s1 σ H1 _ I1 q1) λu s2 ⟨y,H2,I2,r2,q2⟩ =>
  thn (ho Mu s2 σ H2 x y v u _ I2 r1 r2 q2) λd s3 ⟨z,H3,I3,r3,k,e,q3⟩=>?_)) hm
 subst e;cases r3;refine Jo ?_;cases k with
 | false =>
  obtain⟨k',e',q'⟩:=q3;cases e';exact ite_ff ⟨H3,I3,q'⟩
 | true =>
  refine ite_tt (test_last (thn (hc Mu s3 σ H3 _ I3 q3) λw' s4 ⟨z',H4,I4,r4,q4⟩=>thn (ho' Mu s4 σ H4 y z' u w' _ I4 r2 r4 q4) λd' s5 ⟨z2,H5,I5,r5,k2,e2,q5⟩=>?_));subst e2;cases r5;exact Jo ⟨H5,I5,q5⟩
def Er (K:Hj) (x:V) (H:Hp) (k:Bool):Prop :=
 match x with
 | .non=>k=MG
 | .bl b=>k=b
 | .int i=>k=(i != 0)
 | .str y=>y.length<=Ir/\k=((y.length:Int) != 0)
 | .byt y=>y.size<=Ir/\k=((y.size:Int) != 0)
 | .ref p=>(∃ xs,SqL K H p xs/\k=!xs.isEmpty) \/ (∃ xs,SqT K H p xs/\k=!xs.isEmpty) \/ ∃ kvs,H p=MA (.dK kvs)/\k=!kvs.isEmpty
 | _=>False
theorem oU {κ:Type} {kvs:List (κ×V)} {vs:List (κ×MD)} (r:KV kvs vs):(!vs.isEmpty)=!kvs.isEmpty:=by
 cases r <;> rfl
theorem fQ {xs:List V} {its:MQ} (r:Vals xs its):(!its.toArray.isEmpty)=!xs.isEmpty:=by
 cases r <;> simp
theorem dH:(Ir:Nat)<2 ^ 63:=by rw [sizeLine_eq];decide
theorem Es:G3 X (λx H Q=>∃ k,Er X.K x H k/\Q k H):=by
 intro Mu s σ H x v Q I rx h;obtain⟨k,e,q⟩:=h;have hl:=dH;have hs:Ir=16777216:=sizeLine_eq;cases x with
 | non =>
  cases rx;have e':k=MG:=e;subst e';exact truthy_none ⟨H,I,q⟩
 | bl b =>
  cases rx;have e':k=b:=e;subst e';exact Jo ⟨H,I,q⟩
 | int i =>
  obtain⟨t,rfl⟩:=rx;have e':k=(i != 0):=e;subst e';exact PySem.P.truthy_int ⟨H,I,q⟩
 | str y =>
  obtain⟨t,rfl⟩:=rx;obtain⟨hy,e'⟩:y.length<=Ir/\k=((y.length:Int) != 0):=e;subst e';exact PySem.P.truthy_str (by omega) ⟨H,I.tok _,q⟩
 | byt y =>
  obtain⟨t,rfl⟩:=rx;obtain⟨hy,e'⟩:y.size<=Ir/\k=((y.size:Int) != 0):=e;subst e';exact PySem.W.truthy_bytes (by omega) ⟨H,I.tok _,q⟩
 | ref p =>
  cases rx;have e':(∃ xs,SqL X.K H p xs/\k=!xs.isEmpty) \/ (∃ xs,SqT X.K H p xs/\k=!xs.isEmpty) \/ ∃ kvs,H p=MA (.dK kvs)/\k=!kvs.isEmpty:=e;rcases e' with⟨xs,hx,e'⟩ | ⟨xs,hx,e'⟩ | ⟨kvs,hx,e'⟩
  ·subst e';obtain⟨its,r,pl,hz⟩:=I.list hx;have hlen:=r.length;exact wpAny_truthy_list pl.isList (by simp only [HG];omega) ⟨H,I.tok _,by rw [fQ r];exact q⟩
  ·subst e';obtain⟨its,r,pl,hz⟩:=I.tuple hx;have hlen:=r.length;exact truthy_tuple pl (by simp only [HG];omega) ⟨H,I.tok _,by rw [fQ r];exact q⟩
  ·subst e';obtain⟨hz,hS,vs,r,m⟩:kvs.length<=Ir/\(p == sysModules)=MG/\∃ vs,KV kvs vs/\s.heap.DictOf (cM X.prog X.w) p vs:=I.hok p _ hx;have hlen:kvs.length=vs.length:=Ly r;exact wpAny_truthy_dict hS m (by omega) ⟨H,I.tok _,by rw [oU r];exact q⟩
 | _=>exact (show False from e).elim
theorem xA (ha:PE X a ta) (he:∀ whole,isTrue a X.env whole=(do let v <- whole;standAt a.pos;holding [v] (truthy v))) :
  PT X a (λσ H Q=>ta σ H λx H'=>∃ k,Er X.K x H' k/\Q k H'):=by
 intro Mu s σ H Q I h;exact isTrue_plain (thn (ha Mu s σ H _ I h) λv s1 ⟨x,H1,I1,r1,q1⟩=>Es Mu s1 σ H1 x v Q I1 r1 q1) (he _)
theorem vals1 {x:V} {us:MQ} (r:Vals [x] us):∃ u,us=[u]/\RelV x u:=by
 cases r with
 | cons r1 r2=>cases r2;exact⟨_,rfl,r1⟩
theorem vals2 {x y:V} {us:MQ} (r:Vals [x,y] us):∃ u w',us=[u,w']/\RelV x u/\RelV y w':=by
 cases r with
 | cons r1 r2 =>
  cases r2 with
  | cons r3 r4=>cases r4;exact⟨_,_,rfl,r1,r3⟩
theorem xB:yK X (.builtin "abs") (λxs H Q=>∃ i,xs=[.int i]/\Q (.int (if i<0 then -i else i)) H):=by
 intro Mu s σ H xs us Q I r h;obtain⟨i,rfl,q⟩:=h;obtain⟨u,rfl,t,rfl⟩:=vals1 r;exact call_abs_int λu tk=>⟨.int (if i<0 then -i else i),H,I.tok _,⟨_,rfl⟩,q⟩
theorem uL (hc:X.calm=MC):yK X (.builtin "max") (λxs H Q=>∃ i j,xs=[.int i,.int j]/\Q (.int (if j > i then j else i)) H):=by
 intro Mu s σ H xs us Q I r h;obtain⟨i,j,rfl,q⟩:=h;obtain⟨u,w',rfl,⟨t,rfl⟩,⟨t',rfl⟩⟩:=vals2 r;refine max_two_ints (I.ok.hd hc) λh' tk k=>⟨_,H,I.kept k,?_,q⟩;by_cases hj:j > i
 ·rw [Mw hj,Mw hj];exact⟨_,rfl⟩
 ·rw [Mv hj,Mv hj];exact⟨_,rfl⟩
theorem uM (hc:X.calm=MC):yK X (.builtin "min") (λxs H Q=>∃ i j,xs=[.int i,.int j]/\Q (.int (if j<i then j else i)) H):=by
 intro Mu s σ H xs us Q I r h;obtain⟨i,j,rfl,q⟩:=h;obtain⟨u,w',rfl,⟨t,rfl⟩,⟨t',rfl⟩⟩:=vals2 r;refine min_two_ints (I.ok.hd hc) λh' tk k=>⟨_,H,I.kept k,?_,q⟩;by_cases hj:j<i
 ·rw [Mw hj,Mw hj];exact⟨_,rfl⟩
 ·rw [Mv hj,Mv hj];exact⟨_,rfl⟩
end
structure ObjM (h:Heap) (x dx C:Hm) (mA:Str->MR):Prop where
 obj:h.get? x=MA (LY C dx)
 ns:h.Ns1 dx mA
 ne:dx≠x
theorem uN {h:Heap} {dx:Hm} {mA:Str->MR} (n:h.Ns1 dx mA):∃ od,h.get? dx=MA od/\∀ name,L8 name od=MA (mA name):=by
 obtain⟨o,es,ep,ho,hd,hk,_,hm⟩:=n;refine⟨o,ho,λname=>?_⟩;have e:=hm name;unfold nsFind findBy at e;rw [<-Array.find?_toList] at e;unfold L8;rw [hd];dsimp only;split
 ·rename_i y q;rw [q] at e;exact congrArg MA e
 ·rename_i q;rw [q] at e;have a:es.toList.any (·.refKey)=MG:=by
   rw [List.any_eq_false];intro y hy;obtain⟨z,t,hkey⟩:=hk y (Kp.mp hy);simp [DictEntry.refKey,hkey]
  have a':¬ es.toList.any (·.refKey)=MC:=by rw [a];exact He
  rw [Mv a'];exact congrArg MA e
theorem ObjM.look {h:Heap} {x dx C:Hm} {mA:Str->MR} (I:ObjM h x dx C mA):∃ od,PySem.W.InstAt h x (LY C dx) C (MA od)/\∀ name,L8 name od=MA (mA name) :=
 let⟨od,ho,hl⟩:=uN I.ns
 ⟨od,⟨I.obj,rfl,rfl,ho⟩,hl⟩
section
variable {prog:MI} {w:MH} {A:MJ} {E:MD->ME->Prop} {s:ME} {K:Hj} {x dx C f:Hm} {mA:Str->MR} {name:Str} {v:MD}
end
section
variable {P:MI} {w:MH} {H H':Hp} {h h':Heap} {a C dx:Hm} {fs fs':List (Str×V)}
theorem BV (hok:HOk P w H h) (e:H a=MA (.ins C dx fs)):∃ mA,ObjM h a dx C mA/\(∀ f,Ed (fs.lookup f) (mA f))/\PySem.Within mA (fs.map (·.1))/\fs.length<=1000/\H dx=MA (.own a):=by
 obtain⟨d,z,ne,ob,mA,n,r,q⟩:=(show ObjOk P w H h a (.ins C dx fs) from hok a _ e);exact⟨mA,⟨ob,n,ne⟩,r,q,z,d⟩
end
structure Cls (K:Hj) (C:Hm):Prop where
 pg:PySem.W.plainGet K C Str.empty=MC
 hd:PySem.W.hasDictIn K C=MC
 po:PySem.W.plainOver K C=MC
 sa:J5 K (.ref C) "__setattr__"=MA (MA (.builtin "object.__setattr__"))
theorem Cls.get {K:Hj} {C:Hm} (c:Cls K C) (f:Str):PySem.W.plainGet K C f=MC:=c.pg
structure Con (K:Hj) (C:Hm) (f:Str) (v:V) (u:MD):Prop where
 at_:J5 K (.ref C) f=MA (MA u)
 rel:RelV v u
 get:Lu K u "__get__"=MA MF
 cp:PySem.W.copiedNames.contains f=MG
structure Meth (K:Hj) (C:Hm) (m:Str) (f:Hm):Prop where
 at_:J5 K (.ref C) m=MA (MA (.ref f))
 fn:PySem.W.isFn K (.ref f)=MC
 kp:Ji K (.ref f)=MC
section
variable {X:Cx} {Mu:MT} {σ:St} {H:Hp} {s:ME} {a C dx:Hm} {fs:List (Str×V)} {f:Str} {v:V} {A:MJ} {E:MD->ME->Prop}
end
section
variable {X:Cx} {Mu:MT} {σ:St} {H:Hp} {s:ME} {A:MJ} {E:MD->ME->Prop} {Q:MD->ME->Prop} {c:MD} {b:Bool}
inductive TyOf (K:Hj) (H:Hp):V->MD->Prop where
 | non:TyOf K H .non (.type "NoneType")
 | bl (x:Bool):TyOf K H (.bl x) (.type "bool")
 | int (i:Int):TyOf K H (.int i) (.type "int")
 | str (x:Str):TyOf K H (.str x) (.type "str")
 | flt (x:UInt64):TyOf K H (.flt x) (.type "float")
 | lst {a:Hm} {xs:List V} (e:H a=MA (.lst xs)):TyOf K H (.ref a) (.type "list")
 | frz {a:Hm} {o:Obj} {xs:List V} (e:H a=MA (.frz o (.lst xs))):TyOf K H (.ref a) (.type "list")
 | tup {a:Hm} {xs:List V} (e:H a=MA (.tup xs)):TyOf K H (.ref a) (.type "tuple")
 | dK {a:Hm} {kvs:List (Key×V)} (e:H a=MA (.dK kvs)):TyOf K H (.ref a) (.type "dict")
 | dT {a:Hm} {kvs:List (List Key×V)} (e:H a=MA (.dT kvs)):TyOf K H (.ref a) (.type "dict")
 | ins {a C dx:Hm} {fs:List (Str×V)} (e:H a=MA (.ins C dx fs)) (cl:Cls K C) (ha:J5 K (.ref C) "__class__"=MA (MA (.builtin "object.__class__")))
   (hn:Lu K (.builtin "object.__class__") "__get__"=MA (MA (.builtin "getset_descriptor.__get__"))) (htk:PySem.W.takesIn K (.builtin "object.__class__")=MA MC)
   (hm:PySem.W.mroIn K C (.type "object")=MA MC):TyOf K H (.ref a) (.ref C)
theorem uO {x:V} {u t:MD} (I:Inv X Mu σ H s) (rx:RelV x u) (ty:TyOf X.K H x t) (e:IL X.K t c=MA b) (h:∀ tk,Q (.bool b) { s with toks:=tk }) :
  HP (model X.prog X.w) A (call (.builtin "isinstance") [u,c]) Q E s:=by
 cases ty with
 | non=>cases (show u=Value.none from rx);exact IW PySem.W.kitx_none I.kIn True.intro e (λz=>nomatch z) h
 | bl y=>cases (show u=Value.bool y from rx);exact IW PySem.W.kitx_bool I.kIn True.intro e (λz=>nomatch z) h
 | int i=>obtain⟨t,q⟩:=(show ∃ t,u=Value.int i t from rx);cases q;exact IW PySem.W.kitx_int I.kIn True.intro e (λz=>nomatch z) h
 | str y=>obtain⟨t,q⟩:=(show ∃ t,u=Value.str y t from rx);cases q;exact IW PySem.W.kitx_str I.kIn True.intro e (λz=>nomatch z) h
 | flt y=>obtain⟨t,q⟩:=(show ∃ t,u=Value.float y t from rx);cases q;exact IW PySem.W.kitx_float I.kIn True.intro e (λz=>nomatch z) h
 | @lst a xs ea =>
  cases (show u=Value.ref a from rx);obtain⟨_,_,n,_,h1⟩:=(show ObjOk X.prog X.w H s.heap a (.lst xs) from I.hok a _ ea);exact IW Lv I.kIn ⟨_,h1,rfl⟩ e (λz=>nomatch z) h
 | @frz a ob xs ea =>
  cases (show u=Value.ref a from rx);obtain⟨_,_,_,n,_,h1⟩:=(show ObjOk X.prog X.w H s.heap a (.frz ob (.lst xs)) from I.hok a _ ea);exact IW Lv I.kIn ⟨_,h1,rfl⟩ e (λz=>nomatch z) h
 | @tup a xs ea =>
  cases (show u=Value.ref a from rx);obtain⟨_,_,_,p⟩:=(show ObjOk X.prog X.w H s.heap a (.tup xs) from I.hok a _ ea);obtain⟨o,h1,h2,_⟩:=p;exact IW PySem.W.kitx_tuple I.kIn ⟨o,h1,h2⟩ e (λz=>nomatch z) h
 | @dK a kvs ea =>
  cases (show u=Value.ref a from rx);obtain⟨_,_,vs,_,p⟩:=(show ObjOk X.prog X.w H s.heap a (.dK kvs) from I.hok a _ ea);obtain⟨o,es,ep,h1,h2,_⟩:=p;exact IW PySem.W.kitx_dict I.kIn ⟨o,h1,h2.1⟩ e (λz=>nomatch z) h
 | @dT a kvs ea =>
  cases (show u=Value.ref a from rx);obtain⟨_,_,xs,_,o,es,ep,h1,h2,_⟩:=(show ObjOk X.prog X.w H s.heap a (.dT kvs) from I.hok a _ ea);exact IW PySem.W.kitx_dict I.kIn ⟨o,h1,h2.1⟩ e (λz=>nomatch z) h
 | @ins a C dx fs ea cl ha hn htk hm =>
  cases (show u=Value.ref a from rx);obtain⟨mA,O,_⟩:=BV I.hok ea;obtain⟨od,J,_⟩:=O.look;exact IW (PySem.W.kitx_own (cl.get _) cl.hd ha hn htk hm) I.kIn J e (λz=>nomatch z) h
end
structure Room (k:Nat) (A:MJ):Prop where
 hd:A.handled=MF
 dp:A.depth+3 * k+5<recursionLimit
 un:A.units+16 * k+200<IZ
theorem Room.mono {j k:Nat} {A:MJ} (r:Room k A) (h:j<=k):Room j A:=⟨r.hd,by have:=r.dp;omega,by have:=r.un;omega⟩
theorem Room.deeper {k:Nat} {A:MJ} (r:Room (k+1) A) (env:Env):Room k (A.deeper env) :=
 ⟨r.hd,by have:=r.dp;show A.depth+1+3 * k+5<_;omega,by have:=r.un;show A.units+3+16 * k+200<_;omega⟩
theorem Room.in1 {k:Nat} {A:MJ} (r:Room (k+1) A):Room k A.in1 :=
 ⟨r.hd,by have:=r.dp;show A.depth+3 * k+5<_;omega,by have:=r.un;show A.units+1+16 * k+200<_;omega⟩
theorem Room.depth {k:Nat} {A:MJ} (r:Room k A):A.depth<recursionLimit:=by have:=r.dp;omega
theorem Room.units {k:Nat} {A:MJ} (r:Room k A):A.units+64<IZ:=by have:=r.un;omega
def jK:TA:=λ_ H Q=>Q [] H
def yj (ta:TE) (tr:TA):TA:=λσ H Q=>ta σ H λx H1=>tr σ H1 λxs H2=>Q (x :: xs) H2
section
variable {X:Cx} {e:Expr} {es:MX} {te:TE} {t:TA} {pos:Pos}
theorem zb:PA X [] jK:=λ_ _ _ _ H Q I h=>Calls.spliced_nil ⟨[],H,I,.nil,h⟩
theorem za (ha:PE X e te) (hr:PA X es t) (hs:Iq (e :: es) X.env=(MG,eval e X.env) :: Iq es X.env:=by rfl):PA X (e :: es) (yj te t):=by
 intro pos Mu s σ H Q I h;rw [hs];show HP _ _ (spliced ((MG,eval e X.env) :: backTo pos (Iq es X.env))) _ _ s;refine Calls.spliced_cons (thn (ha Mu s σ H _ I h) λu s1 ⟨x,H1,I1,r1,q1⟩=>?_);exact thn (hr pos Mu s1 σ H1 _ I1 q1) λus s2 ⟨xs,H2,I2,r2,q2⟩=>⟨x :: xs,H2,I2,.cons r1 r2,q2⟩
def BW (t:TA):TE:=λσ H Q=>t σ H λxs H1=>xs.length<=Ir/\∀ p,H1 p=MF->Q (.ref p) (upd H1 p (.tup xs))
def uP (t:TA):TE:=λσ H Q=>t σ H λxs H1=>xs.length<=Ir/\∀ p,H1 p=MF->Q (.ref p) (upd H1 p (.lst xs))
theorem zE {x1} (h:PA X es t):PE X (.Tuple es x1 pos) (BW t):=by
 intro Mu s σ H Q I hq;refine wpAny_Tuple_spliced (thn (h pos Mu s σ H _ I hq) λus s1 ⟨xs,H1,I1,r,z,q⟩=>⟨by rw [<-r.length];exact z,?_⟩);have hf:H1 s1.heap.objs.size=MF:=I1.hok.fresh (Ht _);refine⟨.ref s1.heap.objs.size,upd H1 s1.heap.objs.size (.tup xs),I1.laid (t':=s1.toks) (λb u e=>Hr _ e) (Ht _) ?_,rfl,q _ hf⟩;exact⟨z,us,r,⟨_,HS _ rfl,rfl,_,rfl⟩⟩
theorem yw (h:PA X es t):PE X (.List es pos) (uP t):=by
 intro Mu s σ H Q I hq;refine wpAny_List_spliced (thn (h pos Mu s σ H _ I hq) λus s1 ⟨xs,H1,I1,r,z,q⟩=>⟨by rw [<-r.length];exact z,?_⟩);have hf:H1 s1.heap.objs.size=MF:=I1.hok.fresh (Ht _);refine⟨.ref s1.heap.objs.size,upd H1 s1.heap.objs.size (.lst xs),I1.laid (t':=s1.toks) (λb u e=>Hr _ e) (Ht _) ?_,rfl,q _ hf⟩;exact⟨z,us,0,r,HS _ rfl⟩
end
abbrev Sp:=List V->Hp->VK->XK->Prop
abbrev CXT:=MV->Hp->ME->XK->MD->ME->Prop
structure Env0 (P:MI) (w:MH) (K:Hj) (mg:Str->MR) (base:Heap) (A:MJ) (outer:MV) (s:ME) (H:Hp):Prop where
 frames:A.frames=MA outer
 mod:Mod K mg base
 bs:∀ b o,base.get? b=MA o->s.heap.get? b=MA o/\H b=MF
 bsz:base.objs.size<=s.heap.objs.size
 funs:s.heap.FunFrames base outer
 frf:∀ b∈frs outer,H b=MF
 tabs:TabsOk K H
 hok:HOk P w H s.heap
 bare:AllBare s.gens
def CE (outer:MV) (P:MI) (w:MH) (H:Hp) (s:ME) (Q:VK) (u:MD) (s':ME):Prop :=
 ∃ v H',s'.os=s.os/\AllBare s'.gens/\Un (frs outer) [] H H' s.heap s'.heap/\HOk P w H' s'.heap/\RelV v u/\Q v H'
def CR (CX:CXT) (outer:MV) (P:MI) (w:MH) (H:Hp) (s:ME) (Q:VK) (E:XK) (r:Result) (s':ME):Prop :=
 match r with
 | .ok (.ret u)=>CE outer P w H s Q u s'
 | .ok _=>False
 | .error e=>CX outer H s E e s'
structure FnOk (P:MI) (w:MH) (K:Hj) (mg:Str->MR) (base:Heap) (CX:CXT) (k:Nat) (f:Hm) (fd:FuncData) (ps:MU) (sp:Sp):Prop where
 len:∀ vs H Q E,sp vs H Q E->vs.length=ps.length
 run:∀ (A:MJ) (outer:MV) (s:ME) (H:Hp) (args:Args) (us:MQ) (vs:List V) (Q:VK) (E:XK),Room k A->Env0 P w K mg base A outer s H->BindsTo s fd args (ps.zip us)->Vals vs us->sp vs H Q E ->
  codeAny (model P w) A (.call (.ref f) args) (CR CX outer P w H s Q E) s
theorem FnOk.mono {P:MI} {w:MH} {K:Hj} {mg:Str->MR} {base:Heap} {CX:CXT} {j k:Nat} {f:Hm} {fd:FuncData} {ps:MU} {sp:Sp} (F:FnOk P w K mg base CX j f fd ps sp) (h:j<=k) :
  FnOk P w K mg base CX k f fd ps sp:=⟨F.len,λA outer s H args us vs Q E hr=>F.run A outer s H args us vs Q E (hr.mono h)⟩
section
variable {X:Cx} {Mu:MT} {σ:St} {H:Hp} {s s':ME}
theorem Inv.env0 (I:Inv X Mu σ H s):Env0 X.prog X.w X.K X.mg X.base X.A X.stack s H :=
 ⟨I.ok.frames,I.ok.mod,I.bs,HM I.ok.bsz I.sz,I.stack,I.stkFree,λc P q h1 h2 h3=>I.base.tbls _ _ (I.ok.tabs c P q h1 h2 h3),I.hok,I.bare⟩
theorem Inv.after {Q:VK} {u:MD} (I:Inv X Mu σ H s) (h:CE X.stack X.prog X.w H s Q u s'):EP X Mu σ Q u s':=by
 obtain⟨v,H',os,bare,un,hok,r,q⟩:=h;obtain⟨hh,g,d,t,os'⟩:=s';obtain rfl:os'=s.os:=os;exact⟨v,H',I.call (h':=hh) (g':=g) (d':=d) (t':=t) (ch:=[]) un hok bare (λb z=>absurd z (by simp)),r,q⟩
end
def cO (sp:Sp) (dvs:List V) (E:XK) (t:TA):TE:=λσ H Q=>t σ H λvs H1=>sp (vs++dvs) H1 Q E
def Binds (K:Hj) (fd:FuncData) (ps:MU) (ds:MQ):Prop :=
 ∀ (s:ME) (us:MQ),K.In s.heap->(us++ds).length=ps.length->BindsTo s fd ⟨us,[]⟩ (ps.zip (us++ds))
theorem Binds.all {K:Hj} {fd:FuncData} {ps:MU} (h:∀ us:MQ,us.length=ps.length->bindArgs fd ⟨us,[]⟩=pure (ps.zip us)):Binds K fd ps []:=λs us _ hl=>by
 rw [IX] at hl ⊢;exact .of_eq (h us hl)
def Passes (CX:CXT) (X:Cx) (E:XK):Prop:=∀ (Mu:MT) (σ:St) (H:Hp) (s:ME) (e:MD) (s':ME),Inv X Mu σ H s->CX X.stack H s E e s'->X.xe e s'
section
variable {X:Cx} {CX:CXT} {k:Nat} {f C:Hm} {fd:FuncData} {ps:MU} {sp:Sp} {dvs:List V} {ds:MQ} {E:XK} {x m:Str} {p pos apos:Pos} {e o:Expr} {es:MX} {ta:TE} {t:TA}
theorem Et {Mu:MT} {σ:St} {H:Hp} {s:ME} {Q:VK} {us:MQ} {vs:List V} (F:FnOk X.prog X.w X.K X.mg X.base CX k f fd ps sp) (hr:Room k X.A) (hb:Binds X.K fd ps ds) (hd:Vals dvs ds) (hx:Passes CX X E)
  (I:Inv X Mu σ H s) (r:Vals vs us) (h:sp (vs++dvs) H Q E):HP (model X.prog X.w) X.A (call (.ref f) us) (EP X Mu σ Q) X.xe s:=by
 have r2:Vals (vs++dvs) (us++ds):=r.append hd;have hl:(us++ds).length=ps.length:=by rw [<-r2.length];exact F.len _ _ _ _ h
 refine wpAny_call (Ms (F.run X.A X.stack s H ⟨us,[]⟩ (us++ds) (vs++dvs) Q E hr I.env0 (hb s us I.kIn hl) r2 h) λr s' hq=>?_);cases r with
 | error e=>exact hx Mu σ H s e s' I hq
 | ok fl =>
  cases fl with
  | ret u=>exact I.after hq
  | next=>exact J9 hq
  | brk=>exact J9 hq
  | cont=>exact J9 hq
theorem BX (F:FnOk X.prog X.w X.K X.mg X.base CX k f fd ps sp) (hr:Room k X.A) (hg:Gl X x) (hm:X.mg x=MA (.ref f)) (hk:Ji X.K (.ref f)=MC) (hb:Binds X.K fd ps ds) (hd:Vals dvs ds) (hx:Passes CX X E)
  (ha:PA X (e :: es) t) (hdb:(x == ("__debug__":Str))=MG:=by decide) (he:Iq (e :: es) X.env=(MG,eval e X.env) :: Iq es X.env:=by rfl) (hpl:(backTo pos (Iq es X.env)).any (·.1)=MG:=by rfl) :
  PE X (.Call (.Name x p) (e :: es) [] pos) (cO sp dvs E t):=by
 intro Mu s σ H Q I h;refine wpAny_Call_Name_kw (e7 I hg hm ?_ hdb);refine PySem.W.callWith_K (h₀:=X.base) I.ok.mod.kin hk (thn (ha pos Mu s σ H _ I h) λus s1 ⟨vs,H1,I1,r,q⟩=>⟨I1.kIn,?_⟩) he hpl;exact Et F hr hb hd hx I1 r q
structure Mk (K:Hj) (C f:Hm):Prop where
 makes:PySem.W.makesIn K C=MC
 init:J5 K (.ref C) "__init__"=MA (MA (.ref f))
 fn:PySem.W.isFn K (.ref f)=MC
 kp:Ji K (.ref C)=MC
end
section
variable {X:Cx} {CX:CXT} {k:Nat} {f C:Hm} {fd:FuncData} {ps ks:MU} {sp:Sp} {E:XK} {x m:Str} {p pos apos kpos:Pos} {e o:Expr} {es:MX} {kws:MZ} {te ta:TE} {t tk:TA} {nm:Option Str}
structure KBinds (K:Hj) (fd:FuncData) (ps ks:MU) (g:MQ->MQ->MQ) (gV:List V->List V->List V):Prop where
 to:∀ (s:ME) (us ws:MQ),K.In s.heap->(g us ws).length=ps.length->BindsTo s fd ⟨us,ks.zip ws⟩ (ps.zip (g us ws))
 rel:∀ {vs:List V} {us:MQ} {zs:List V} {ws:MQ},Vals vs us->Vals zs ws->Vals (gV vs zs) (g us ws)
variable {g:MQ->MQ->MQ} {gV:List V->List V->List V}
end
structure FnScope (N P:MU) (sc:Scope):Prop where
 kind:sc.kind=.function
 co:sc.isCoroutine=MG
 gen:sc.isGenerator=MG
 nd:N.Nodup
 pre:N.take P.length=P
 par:∀ x∈P,sc.names.lookup x=MA .local \/ sc.names.lookup x=MA .cell
 nofree:∀ y∈sc.names,y.2≠.free
theorem iw {kindOf:Str->M0} {x:Str}:∀ {binds:List (Str×MD)} {m:Str->MR},(∀ v,(x,v)∉binds)->bindL kindOf binds m x=m x
 | [],_,_=>rfl
 | (n,v) :: r,m,h=>by
  unfold bindL;rw [iw λw hw=>h w (Hl _ hw)];split
  ·have:x≠n:=by rintro rfl;exact h v Hk
   simp [this]
  ·rfl
theorem ix {kindOf:Str->M0} {x:Str}:∀ {binds:List (Str×MD)} {m:Str->MR},(∀ v,(x,v)∉binds)->bindC kindOf binds m x=m x
 | [],_,_=>rfl
 | (n,v) :: r,m,h=>by
  unfold bindC;rw [ix λw hw=>h w (Hl _ hw)];split
  ·rfl
  ·have:x≠n:=by rintro rfl;exact h v Hk
   simp [this]
theorem iy {kindOf:Str->M0} {x:Str} {v:MD}:∀ {P:MU} {vs:MQ} {i:Nat} {m:Str->MR},P.Nodup->P[i]?=MA x->vs[i]?=MA v->kindOf x=MA .local ->
  bindL kindOf (P.zip vs) m x=MA v
 | [],_,_,_,_,h,_,_=>by simp at h
 | _ :: _,[],_,_,_,_,h,_=>by simp at h
 | p :: P,w :: vs,0,m,nd,h1,h2,hk=>by
  simp at h1 h2;subst h1;subst h2;show bindL kindOf ((p,w) :: P.zip vs) m p=_;unfold bindL;rw [iw λv hv=>(ID.mp nd).1 (LZ hv).1,Mw hk];simp
 | p :: P,w :: vs,i+1,m,nd,h1,h2,hk=>by
  show bindL kindOf ((p,w) :: P.zip vs) m x=_;unfold bindL;exact iy (i:=i) (ID.mp nd).2 (by simpa using h1) (by simpa using h2) hk
theorem iA {kindOf:Str->M0} {x:Str} {v:MD}:∀ {P:MU} {vs:MQ} {i:Nat} {m:Str->MR},P.Nodup->P[i]?=MA x->vs[i]?=MA v->kindOf x≠MA .local ->
  bindC kindOf (P.zip vs) m x=MA v
 | [],_,_,_,_,h,_,_=>by simp at h
 | _ :: _,[],_,_,_,_,h,_=>by simp at h
 | p :: P,w :: vs,0,m,nd,h1,h2,hk=>by
  simp at h1 h2;subst h1;subst h2;show bindC kindOf ((p,w) :: P.zip vs) m p=_;unfold bindC;rw [ix λv hv=>(ID.mp nd).1 (LZ hv).1,Mv hk];simp
 | p :: P,w :: vs,i+1,m,nd,h1,h2,hk=>by
  show bindC kindOf ((p,w) :: P.zip vs) m x=_;unfold bindC;exact iA (i:=i) (ID.mp nd).2 (by simpa using h1) (by simpa using h2) hk
noncomputable def start (N:MU) (vs:List V):St:=vs.map MA++JB (N.length - vs.length) MF
noncomputable def yd (CX:CXT) (P:MI) (w:MH) (K:Hj) (mg:Str->MR) (base:Heap) (N:MU) (qual:Str) (scope:Scope) (f:Hm) (cd:MD) (A:MJ) (outer:MV) (s:ME) (H:Hp) (E:XK):Cx where
 prog:=P
 w:=w
 K:=K
 mg:=mg
 base:=base
 A:=A.deeper (envOfC qual scope s.heap.objs.size f cd)
 N:=N
 s₀:=s
 H₀:=H
 env:=envOfC qual scope s.heap.objs.size f cd
 outer:=outer
 stack:=envOfC qual scope s.heap.objs.size f cd :: outer
 ex:=[]
 calm:=MC
 fn:=λ_=>MC
 pn:=[]
 xe:=λe s'=>HP (model P w) (A.deeper (envOfC qual scope s.heap.objs.size f cd)) (leaving (envOfC qual scope s.heap.objs.size f cd) e) (λ_ s''=>CX outer H s E e s'') (λe' s''=>CX outer H s E e' s'') s'
theorem mH {sc:Scope} {n:Nat} {x:Str} (h:sc.names.lookup x=MA .cell):∃ c,(cellsFrom n sc.names []).lookup x=MA c:=by
 have q:=Ka sc.names n [] (.inl h);exact KD.mp q
theorem uQ {CX:CXT} {P:MI} {w:MH} {K:Hj} {mg:Str->MR} {base:Heap} {N ps:MU} {qual:Str} {scope:Scope} {f:Hm} {cd:MD} {A:MJ} {outer:MV} {s s1:ME} {H:Hp} {E:XK} {us:MQ} {vs:List V}
  (S:FnScope N ps scope) (hd:A.handled=MF) (e0:Env0 P w K mg base A outer s H) (hl:vs.length=ps.length) (r:Vals vs us)
  (x:InCallC s s.heap.objs.size (bindL (envOfC qual scope s.heap.objs.size f cd).kindOf (ps.zip us) λ_=>MF) (cellsFrom (s.heap.objs.size+1) scope.names []) (bindC (envOfC qual scope s.heap.objs.size f cd).kindOf (ps.zip us) λ_=>MF) s1) :
  Inv (yd CX P w K mg base N qual scope f cd A outer s H E) [] (start N vs) H s1:=by
 have hpl:ps.length<=N.length:=by have:=congrArg L9 S.pre;rw [Im] at this;omega
 obtain⟨h1,tk,rfl,hk⟩:=x.done;have noA:∀ b:Hm,b∉(yd CX P w K mg base N qual scope f cd A outer s H E).ex:=λb z=>absurd (show b∈([]:MS) from z) (by simp);refine⟨⟨e0.mod,S.kind,rfl,rfl,Ht _,λy z c h1 h2=>?_,λy hy=>?_,λy c _ h=>?_,λ_=>hd,Around.frames_deeper e0.frames,.inr ⟨rfl,rfl⟩,λb z=>absurd z (noA b),e0.bs,e0.bsz,λb _ _=>noA b,λb z=>absurd z (noA b),e0.funs,e0.frf,e0.tabs⟩,
  rfl,e0.bare,Un.kept hk,⟨_,x.toInCall.ns,λi y v h1 h2 h3=>?_⟩,λy c h=>⟨_,x.cell y c h⟩,e0.hok.fresh (Ht _),λy c h=>?_,λp hp=>absurd (show p∈([]:MT) from hp) (by simp),e0.hok.kept hk,?_⟩
 ·exact name_of_addr x.apart (JZ h1) (JZ h2)
 ·have hy:scope.names.lookup y=MA .cell \/ scope.names.lookup y=MA .free:=hy;rcases hy with hy | hy
  ·exact mH hy
  ·exact absurd rfl (S.nofree _ (JZ hy))
 ·exact IH (x.above y c (JZ h))
 ·have hi:i<vs.length:=by
   unfold start at h2;by_cases hi:i<vs.length
   ·exact hi
   ·rw [HL (by simpa using hi)] at h2;rw [J6] at h2;split at h2 <;> cases h2
  have ha:vs[i]?=MA v:=by
   unfold start at h2;rw [HE (by simpa using hi),Ho] at h2;cases e:vs[i]? with
   | none=>rw [e] at h2;cases h2
   | some a=>rw [e] at h2;cases h2;rfl
  obtain⟨u,hu,rv⟩:=r.get ha;have hp:ps[i]?=MA y:=by
   rw [<-S.pre,JY (by omega)];exact h1
  have ndP:ps.Nodup:=by rw [<-S.pre];exact S.nd.sublist (List.take_sublist _ _)
  refine⟨u,rv,?_⟩;rcases S.par y (Hu hp) with k | k
  ·exact .inl ⟨k,iy ndP hp hu k⟩
  ·obtain⟨c,e⟩:=mH (n:=s.heap.objs.size+1) k;refine .inr ⟨.inl k,c,e,?_⟩;have q:=x.cell y c e;rw [iA ndP hp hu (by show scope.names.lookup y≠_;rw [k];decide)] at q;exact q
 ·exact e0.hok.fresh (IH (x.above y c (JZ h)))
 ·unfold start;show _=N.length;rw [HA,Hc,K2];omega
theorem xC {CX:CXT} {P:MI} {w:MH} {K:Hj} {mg:Str->MR} {base:Heap} {k:Nat} {f:Hm} {name qual:Str} {params:Arguments} {body:MY} {scope:Scope} {dV kV doc pm cdv ct oc:MD} {an od:MW}
  {osl:Array (MR)} {N ps:MU} {sp:Sp} (lk:K.lookup f=MA ⟨oc,od,.func (Jl name qual params body scope dV kV doc pm an cdv ct),osl⟩) (hcd:IK K cdv qual=MC) (S:FnScope N ps scope)
  (len:∀ vs H Q E,sp vs H Q E->vs.length=ps.length)
  (hbody:∀ (A:MJ) (outer:MV) (s:ME) (H:Hp) (vs:List V) (Q:VK) (E:XK),Room k (A.deeper (envOfC qual scope s.heap.objs.size f cdv))->sp vs H Q E ->
   ∃ t,PSs (yd CX P w K mg base N qual scope f cdv A outer s H E) body t/\t { nx:=λ_ H'=>Q .non H',rt:=Q } (start N vs) H) :
  FnOk P w K mg base CX (k+1) f (Jl name qual params body scope dV kV doc pm an cdv ct) ps sp:=by
 refine⟨len,λA outer s H args us vs Q E hr e0 hb r hsp=>?_⟩;have hl:=len _ _ _ _ hsp;have KX:K.In s.heap:=e0.mod.kin.keeps λb o e=>(e0.bs b o e).1;have lim:s.heap.NoLimit:=e0.mod.nolimit.keeps λb o e=>(e0.bs b o e).1;have hkind:∀ y∈ps.zip us,scope.names.lookup y.1=MA .local \/ (scope.names.lookup y.1=MA .cell/\((cellsFrom (s.heap.objs.size+1) scope.names []).lookup y.1).isSome=MC):=λ⟨n,v⟩ hy=>by
  rcases S.par n (LZ hy).1 with q | q
  ·exact .inl q
  ·exact .inr ⟨q,Ka _ _ _ (.inl q)⟩
 refine codeAny_call_function hr.depth (KX _ _ lk) rfl S.co S.gen rfl (Lh KX hcd) (hb _ _ _ _ ?_);refine wpAny_newFunctionEnv_cells S.kind hkind λenv he s1 x=>?_;subst he;refine⟨lim.keeps x.toInCall.keep,codeAny_func ?_⟩;obtain⟨t,ht,hq⟩:=hbody A outer s H vs Q E (hr.deeper _) hsp;have I:Inv (yd CX P w K mg base N qual scope f cdv A outer s H E) [] (start N vs) H s1:=uQ S hr.hd e0 hl r x;refine Jt (ht [] s1 (start N vs) H _ I hq) (λfl s' hs=>?_) λe s' hs=>hs;have fin:∀ {σ':St} {H':Hp} {v:V} {u:MD},Inv (yd CX P w K mg base N qual scope f cdv A outer s H E) [] σ' H' s'->RelV v u->Q v H'->CE outer P w H s Q u s' :=
  λ{σ' H' v u} J rv q=>⟨v,H',J.os,J.bare,J.base,J.hok,rv,q⟩
 cases fl with
 | ret u =>
  obtain⟨v,σ',H',J,rv,q⟩:=hs;exact fin J rv q
 | next =>
  obtain⟨σ',H',J,q⟩:=hs;exact fin (v:=V.non) (u:=Value.none) J rfl q
 | brk =>
  obtain⟨_,_,_,q⟩:=hs;exact J9 q
 | cont =>
  obtain⟨_,_,_,q⟩:=hs;exact J9 q
section
variable {X:Cx} {x:Str} {p pos:Pos} {e:Expr} {es:MX} {t:TA} {id T:String} {r:List V->Hp->VK->Prop}
def tCB (r:List V->Hp->VK->Prop) (t:TA):TE:=λσ H Q=>t σ H λvs H1=>r vs H1 Q
theorem zD (hc:yK X (.builtin id) r) (hg:Gl X x) (hm:X.mg x=MF) (hv:bootBuiltins x=MA (.builtin id)) (ha:PA X (e :: es) t) (hn:x ≠ "__name__":=by decide) (hdb:(x == ("__debug__":Str))=MG:=by decide)
  (he:Iq (e :: es) X.env=(MG,eval e X.env) :: Iq es X.env:=by rfl) (hpl:(backTo pos (Iq es X.env)).any (·.1)=MG:=by rfl):PE X (.Call (.Name x p) (e :: es) [] pos) (tCB r t):=by
 intro Mu s σ H Q I h;refine wpAny_Call_Name_kw (qV I hg hm hv ?_ hn hdb);exact PyProof.Rows.callWith_builtin1 (thn (ha pos Mu s σ H _ I h) λus s1 ⟨vs,H1,I1,r1,q1⟩=>hc Mu s1 σ H1 vs us Q I1 r1 q1) he hpl
theorem jL (hc:yK X (.type T) r) (hg:Gl X x) (hm:X.mg x=MF) (hv:bootBuiltins x=MA (.type T)) (ha:PA X (e :: es) t) (hn:x ≠ "__name__":=by decide) (hdb:(x == ("__debug__":Str))=MG:=by decide)
  (he:Iq (e :: es) X.env=(MG,eval e X.env) :: Iq es X.env:=by rfl) (hpl:(backTo pos (Iq es X.env)).any (·.1)=MG:=by rfl):PE X (.Call (.Name x p) (e :: es) [] pos) (tCB r t):=by
 intro Mu s σ H Q I h;refine wpAny_Call_Name_kw (qV I hg hm hv ?_ hn hdb);exact Ju (thn (ha pos Mu s σ H _ I h) λus s1 ⟨vs,H1,I1,r1,q1⟩=>hc Mu s1 σ H1 vs us Q I1 r1 q1) he hpl
theorem fR (hc:yK X (.type T) r) (hg:Gl X x) (hm:X.mg x=MF) (hv:bootBuiltins x=MA (.type T)) (hn:x ≠ "__name__":=by decide) (hdb:(x == ("__debug__":Str))=MG:=by decide) :
  PE X (.Call (.Name x p) [] [] pos) (tCB r jK):=by
 intro Mu s σ H Q I h;refine wpAny_Call_Name_kw (qV I hg hm hv ?_ hn hdb);exact PyProof.Rows.callWith_type0 (hc Mu s σ H [] [] Q I .nil h)
end
end L2
namespace HT
open PySem PyProof.Rows
theorem rcLt_int (A:MJ) (s:ME) (a:Int) (t:Tok) (c:Int) (u:Tok) (prog:MI) (w:MH) (E:MD->ME->Prop) (Q:MD->ME->Prop) (h:Q (.bool (decide (a<c))) s) :
  HP (model prog w) A (richCompare .Lt (.int a t) (.int c u)) Q E s :=
 (PyProof.Rows.lt_int h:HP (model prog w) A (IJ .Lt (.int a t) (.int c u)) Q E s)
section
open PySem.SeqAt
open PySem.AutoSeq1 (wpAny_loadPart')
open PySem.MeetsSeq PySem.MeetsSeq2 PySem.MeetsSeq3
end
section
variable {prog:MI} {w:MH} {A:MJ} {E:MD->ME->Prop} {s:ME}
end
end HT
namespace L2
open PySem PySem.Spec PyProof.Rows
abbrev TO:=St->Hp->(M3->Hp->Prop)->Prop
theorem intsAre_of {ns:M4}:∀ {us:MQ},Vals (ns.map V.int) us->IntsAre us ns:=by
 induction ns with
 | nil=>intro us r;rw [Kt] at r;cases r;exact .nil
 | cons n ns ih =>
  intro us r;rw [HI] at r;cases r with
  | cons r1 r2 =>
   obtain⟨t,e⟩:=r1;subst e;exact .cons n t (ih r2)
section
variable {X:Cx} {e:Expr} {te:TE} {lo hi:Option Expr} {tl th:TO} {pos p2:Pos}
end
noncomputable def ixN (n:Nat) (i:Int):M5:=if 0<=i then (if i<n then MA i.toNat else MF) else if -(n:Int)<=i then MA (i+n).toNat else MF
noncomputable def atI {α:Type} (xs:List α) (i:Int):Option α:=(ixN xs.length i).bind λj=>xs[j]?
theorem sM {n:Nat} {i:Int} {j:Nat} (h:ixN n i=MA j):seqIndex? i n=MA j/\j<n/\-(n:Int)<=i/\i<n:=by
 unfold ixN at h;by_cases h0:0<=i
 ·rw [Mw h0] at h;by_cases h1:i<n
  ·rw [Mw h1] at h;have e:i.toNat=j:=ML h;exact⟨by rw [seqIndex_of h0 h1,e],by omega,by omega,h1⟩
  ·rw [Mv h1] at h;cases h
 ·rw [Mv h0] at h;by_cases h1:-(n:Int)<=i
  ·rw [Mw h1] at h;have e:(i+n).toNat=j:=ML h;exact⟨by rw [seqIndex_neg (by omega) h1,e],by omega,h1,by omega⟩
  ·rw [Mv h1] at h;cases h
theorem sN {α:Type} {xs:List α} {i:Int} {v:α} (h:atI xs i=MA v):∃ j,seqIndex? i xs.length=MA j/\xs[j]?=MA v/\j<xs.length/\-(xs.length:Int)<=i/\i<xs.length:=by
 unfold atI at h;cases e:ixN xs.length i with
 | none=>rw [e] at h;cases h
 | some j =>
  rw [e] at h;obtain⟨h1,h2,h3,h4⟩:=sM e;exact⟨j,h1,h,h2,h3,h4⟩
theorem vk {α:Type} {xs:List α} {j:Nat} {v:α} (h:xs[j]?=MA v):atI xs (j:Int)=MA v:=by
 have hj:j<xs.length:=(Hg.mp h).1;have e:ixN xs.length (j:Int)=MA j:=by
  unfold ixN;rw [Mw (by omega),Mw (by omega)];simp
 unfold atI;rw [e];exact h
def e9 (b:Expr):Prop:=∀ o i,subscripted b MG o i=operate [o,i] (getItem o i)
def IxR (X:Cx) (r:R2):Prop :=
 ∀ (value slice:Expr) (Mu:MT) (s:ME) (σ:St) (H:Hp) (x y:V) (v u:MD) (Q:VK),Inv X Mu σ H s->RelV x v->RelV y u->r x y H Q ->
  subscripted slice MG v u=operate [v,u] (getItem v u)->HP (model X.prog X.w) X.A (subscriptTail value slice v u) (EP X Mu σ Q) X.xe s
def MtR (X:Cx) (id:String) (r:V->List V->Hp->VK->Prop):Prop :=
 ∀ (Mu:MT) (s:ME) (σ:St) (H:Hp) (x:V) (xs:List V) (v:MD) (us:MQ) (Q:VK),Inv X Mu σ H s->RelV x v->Vals xs us->r x xs H Q ->
  HP (model X.prog X.w) X.A (call (.builtin id) (v :: us)) (EP X Mu σ Q) X.xe s
section
variable {X:Cx} {a b:Expr} {ta tb:TE} {pos:Pos}
theorem zK {r:R2} (hr:IxR X r) (ha:PE X a ta) (hb:PE X b tb) (hs:e9 b):PE X (.Subscript a b pos) (tOp r ta tb):=by
 intro Mu s σ H Q I h;exact Subscript_ (En ha hb I h λv u s2 x y H2 I2 rx ry q=>hr a b Mu s2 σ H2 x y v u Q I2 rx ry q (hs _ _))
def oV (K:Hj):R2:=λx y H Q=>∃ p xs i v,x=.ref p/\y=.int i/\SqL K H p xs/\atI xs i=MA v/\Q v H
def uR (K:Hj):R2:=λx y H Q=>∃ p xs i v,x=.ref p/\y=.int i/\SqT K H p xs/\atI xs i=MA v/\Q v H
theorem BY:IxR X (oV X.K):=by
 intro value slice Mu s σ H x y v u Q I rx ry h hs;obtain⟨p,xs,i,z,rfl,rfl,hq,he,q⟩:=h;cases rx;obtain⟨t,rfl⟩:=ry;obtain⟨its,r,pl,hz⟩:=I.list hq;obtain⟨j,h1,h2,h3,h4,h5⟩:=sN he;obtain⟨w,ew,rw'⟩:=r.get h2;have hl:=r.length;have hn:=dH;have fin:EP X Mu σ Q w s:=⟨z,H,I,rw',q⟩;by_cases h0:0<=i
 ·have hj:i.toNat=j:=by
   rw [seqIndex_of h0 h5] at h1;exact ML h1
  exact item_listR pl.isList h0 (by omega) (by rw [hj];simpa using ew) fin hs
 ·have hj:(i+(its.toArray.size:Int)).toNat=j:=by
   rw [seqIndex_neg (by omega) h4] at h1;rw [HG,<- hl];exact ML h1
  exact subscriptTail_builtinR (x:=w) pl.isList.typeIs slot_list_getitem.lookup
   (wpAny_getItem_list_neg (Q:=λr s'=>r=w/\EP X Mu σ Q r s') pl.isList (by omega) (by rw [HG] <;> omega) (by omega) (by rw [hj];simpa using ew) ⟨rfl,fin⟩) hs
theorem Eu:IxR X (uR X.K):=by
 intro value slice Mu s σ H x y v u Q I rx ry h hs;obtain⟨p,xs,i,z,rfl,rfl,hq,he,q⟩:=h;cases rx;obtain⟨t,rfl⟩:=ry;obtain⟨its,r,pl,hz⟩:=I.tuple hq;obtain⟨j,h1,h2,h3,h4,h5⟩:=sN he;obtain⟨w,ew,rw'⟩:=r.get h2;have hl:=r.length;have hn:=dH;have fin:EP X Mu σ Q w s:=⟨z,H,I,rw',q⟩;exact subscriptTail_builtinR (x:=w) pl.typeIs slot_tuple_getitem.lookup
  (getItem_tuple (j:=j) (Q:=λr s'=>r=w/\EP X Mu σ Q r s') pl (by omega) (by omega) (by rw [HG,<- hl];exact h1) (by simpa using ew) ⟨rfl,fin⟩) hs
theorem oW (its:MQ) (n j:Nat) (u:MD):Jj (·.setIfInBounds j u) { cls:=.type "list",data:=.seq its.toArray n }={ cls:=.type "list",data:=.seq (its.set j u).toArray n }:=by
 simp [Jj]
theorem Inv.lst {Mu:MT} {σ:St} {H:Hp} {s:ME} {p:Hm} {xs:List V} (I:Inv X Mu σ H s) (h:H p=MA (.lst xs)) :
  ∃ (its:MQ) (n:Nat),Vals xs its/\s.heap.get? p=MA { cls:=.type "list",data:=.seq its.toArray n }/\xs.length<=Ir:=by
 obtain⟨z,its,n,r,e⟩:=I.hok p _ h;exact⟨its,n,r,e,z⟩
theorem Inv.lstUpd {Mu:MT} {σ:St} {H:Hp} {s:ME} {p:Hm} {xs ys:List V} {its its':MQ} {n n':Nat} {f:Obj->Obj} (I:Inv X Mu σ H s) (h:H p=MA (.lst xs))
  (ho:s.heap.get? p=MA { cls:=.type "list",data:=.seq its.toArray n }) (hf:f { cls:=.type "list",data:=.seq its.toArray n }={ cls:=.type "list",data:=.seq its'.toArray n' }) (r:Vals ys its') (hz:ys.length<=Ir) (t:Nat) :
  Inv X Mu σ (upd H p (.lst ys)) { s with heap:=s.heap.update p f,toks:=t }:=by
 have e:(s.heap.update p f).get? p=MA { cls:=.type "list",data:=.seq its'.toArray n' }:=by
  rw [Kk f ho (by rw [hf] <;> rfl),hf]
 refine I.write (x:=p) (e:=p) (by rw [h];trivial) (.inl rfl) (λb u hb q=>(Il _ _ (Jc hb)).trans q) ⟨_,e⟩ ?_;exact⟨hz,its',n',r,e⟩
def mI:V->V->V->Hp->(Hp->Prop)->Prop:=λo i v H Q=>∃ p xs k j,o=.ref p/\i=.int k/\H p=MA (.lst xs)/\ixN xs.length k=MA j/\Q (upd H p (.lst (xs.set j v)))
theorem set_list:xq X mI:=by
 intro Mu s σ H o i v ov iv u Q I ro ri rv h;obtain⟨p,xs,k,j,rfl,rfl,hp,hj,q⟩:=h;cases ro;obtain⟨t,rfl⟩:=ri;obtain⟨its,n,r,ho,hz⟩:=I.lst hp;obtain⟨h1,h2,h3,h4⟩:=sM hj;have hl:=r.length;have hn:=dH;have I':Inv X Mu σ (upd H p (.lst (xs.set j v))) { s with heap:=s.heap.update p (Jj (·.setIfInBounds j u)) } :=
  I.lstUpd hp ho (oW its n j u) (r.set rv j) (by rw [KO];exact hz) s.toks
 by_cases h0:0<=k
 ·have hk:k.toNat=j:=by
   rw [seqIndex_of h0 h4] at h1;exact ML h1
  exact PySem.W.ki_setAt ho h0 (by omega) (by rw [HG,<- hl];exact h4) (by rw [hk];exact⟨_,I',q⟩)
 ·have hk:(k+(its.toArray.size:Int)).toNat=j:=by
   rw [seqIndex_neg (by omega) h3] at h1;rw [HG,<- hl];exact ML h1
  exact PySem.W.ki_setBack ho (by omega) (by rw [HG,<- hl];exact h3) (by omega) (by rw [hk];exact⟨_,I',q⟩)
noncomputable def eB:V->Bool
 | .non=>MC
 | .bl _=>MC
 | .int _=>MC
 | .str _=>MC
 | _=>MG
noncomputable def eqV:V->V->Bool
 | .non,.non=>MC
 | .bl a,.bl b=>a == b
 | .bl a,.int b=>(if a then 1 else 0) == b
 | .int a,.bl b=>a == (if b then 1 else 0)
 | .int a,.int b=>a == b
 | .str a,.str b=>a == b
 | _,_=>MG
theorem Ew {A:MJ} {s:ME} {y x:V} {u v:MD} (ry:RelV y u) (rx:RelV x v) (fy:eB y=MC) (fx:eB x=MC):SeqAt.EqAt A s u v (eqV y x):=by
 cases y with
 | non =>
  cases ry;cases x with
  | non=>cases rx;exact SeqAt.EqAt.same _
  | bl b=>cases rx;exact SeqAt.EqAt.none_bool b
  | int b=>obtain⟨t,rfl⟩:=rx;exact SeqAt.EqAt.none_int b t
  | str b=>obtain⟨t,rfl⟩:=rx;exact SeqAt.EqAt.none_str b t
  | _=>exact absurd (show MG=MC from fx) He
 | bl a =>
  cases ry;cases x with
  | non=>cases rx;exact SeqAt.EqAt.bool_none a
  | bl b=>cases rx;exact SeqAt.EqAt.bool_bool a b
  | int b=>obtain⟨t,rfl⟩:=rx;exact SeqAt.EqAt.bool_int a b t
  | str b=>obtain⟨t,rfl⟩:=rx;exact SeqAt.EqAt.bool_str a b t
  | _=>exact absurd (show MG=MC from fx) He
 | int a =>
  obtain⟨t',rfl⟩:=ry;cases x with
  | non=>cases rx;exact SeqAt.EqAt.int_none a t'
  | bl b=>cases rx;exact SeqAt.EqAt.int_bool a t' b
  | int b=>obtain⟨t,rfl⟩:=rx;exact SeqAt.EqAt.int_int a t' b t
  | str b=>obtain⟨t,rfl⟩:=rx;exact SeqAt.EqAt.int_str a t' b t
  | _=>exact absurd (show MG=MC from fx) He
 | str a =>
  obtain⟨t',rfl⟩:=ry;cases x with
  | non=>cases rx;exact SeqAt.EqAt.str_none a t'
  | bl b=>cases rx;exact SeqAt.EqAt.str_bool a t' b
  | int b=>obtain⟨t,rfl⟩:=rx;exact SeqAt.EqAt.str_int a t' b t
  | str b=>obtain⟨t,rfl⟩:=rx;exact SeqAt.EqAt.str_str a t' b t
  | _=>exact absurd (show MG=MC from fx) He
 | _=>exact absurd (show MG=MC from fy) He
noncomputable def eqU (x:V) (u:MD):Bool:=match u with
 | .none=>eqV .non x
 | .bool b=>eqV (.bl b) x
 | .int i _=>eqV (.int i) x
 | .str z _=>eqV (.str z) x
 | _=>MG
theorem xD {x y:V} {u:MD} (r:RelV y u) (f:eB y=MC):eqU x u=eqV y x:=by
 cases y with
 | non=>cases r;rfl
 | bl b=>cases r;rfl
 | int i=>obtain⟨t,rfl⟩:=r;rfl
 | str z=>obtain⟨t,rfl⟩:=r;rfl
 | _=>exact absurd (show MG=MC from f) He
theorem kq {x:V}:∀ {xs:List V} {us:MQ},Vals xs us->xs.all eB=MC->us.any (eqU x)=xs.any λy=>eqV y x
 | _,_,.nil,_=>rfl
 | y :: xs,u :: us,.cons r t,f=>by
  rw [KG,Hq] at f;rw [KH,KH,xD r f.1,kq t f.2]
theorem fS {A:MJ} {s:ME} {x:V} {v:MD} (rx:RelV x v) (fx:eB x=MC):∀ {xs:List V} {us:MQ},Vals xs us->xs.all eB=MC->∀ u∈us,SeqAt.EqAt A s u v (eqU x u)
 | _,_,.nil,_=>λu hu=>by cases hu
 | y :: xs,u :: us,.cons r t,f=>λu' hu=>by
  rw [KG,Hq] at f;rcases Hv.mp hu with rfl | hu
  ·rw [xD r f.1];exact Ew r rx f.1 fx
  ·exact fS rx fx t f.2 u' hu
noncomputable def inV (x:V) (xs:List V):Bool:=xs.any λy=>eqV y x
def rIn (K:Hj) (neg:Bool):R2:=λx y H Q=>∃ p xs,y=.ref p/\(SqL K H p xs \/ SqT K H p xs)/\eB x=MC/\xs.all eB=MC/\Q (.bl (if neg then !inV x xs else inV x xs)) H
theorem kr:OpR X (IJ .NotIn) (rIn X.K MC):=by
 intro Mu s σ H x y v u Q I rx ry h;obtain⟨p,xs,rfl,hq,fx,fs,q⟩:=h;cases ry;rcases hq with hq | hq
 ·obtain⟨its,r,pl,hz⟩:=I.list hq;refine SeqAt.notIn_listAt (eqU x) pl.isList (λw hw=>fS rx fx r fs w (by simpa using hw)) ⟨.bl _,H,I,rfl,?_⟩;rw [show its.toArray.any (eqU x)=its.any (eqU x) by simp,kq r fs];exact q
 ·obtain⟨its,r,pl,hz⟩:=I.tuple hq;refine SeqAt.notIn_tupleAt (eqU x) pl (λw hw=>fS rx fx r fs w (by simpa using hw)) ⟨.bl _,H,I,rfl,?_⟩;rw [show its.toArray.any (eqU x)=its.any (eqU x) by simp,kq r fs];exact q
theorem ku:yK X (.builtin "len") (λxs H Q=>∃ p ys,xs=[.ref p]/\(SqL X.K H p ys \/ SqT X.K H p ys)/\Q (.int ys.length) H):=by
 intro Mu s σ H xs us Q I r h;obtain⟨p,ys,rfl,hq,q⟩:=h;obtain⟨u,rfl,rx⟩:=vals1 r;cases rx;have hn:=dH;rcases hq with hq | hq
 ·obtain⟨its,r',pl,hz⟩:=I.list hq;have hlen:=r'.length;exact Calls.call_len_list pl.isList (by simp only [HG] <;> omega) ⟨.int ys.length,H,I.tok _,⟨s.toks+1,by rw [HG,hlen]⟩,q⟩
 ·obtain⟨its,r',pl,hz⟩:=I.tuple hq;have hlen:=r'.length;exact len_tuple pl (by simp only [HG] <;> omega) ⟨.int ys.length,H,I.tok _,⟨s.toks+1,by rw [HG,hlen]⟩,q⟩
theorem hU:yK X (.type "tuple") (λxs H Q=>∃ p ys,xs=[.ref p]/\((SqL X.K H p ys/\∀ l,H l=MF->Q (.ref l) (upd H l (.tup ys))) \/ (SqT X.K H p ys/\Q (.ref p) H))):=by
 intro Mu s σ H xs us Q I r h;obtain⟨p,ys,rfl,h⟩:=h;obtain⟨u,rfl,rx⟩:=vals1 r;cases rx;rcases h with⟨hq,q⟩ | ⟨hq,q⟩
 ·obtain⟨its,r',pl,hz⟩:=I.list hq;have hlen:=r'.length;refine call_tuple_list pl.isList (λh' kp=>?_) (by simp only [HG] <;> omega);have I1:Inv X Mu σ H { s with heap:=h' }:=I.kept (t':=s.toks) kp;have I2:Inv X Mu σ (upd H h'.objs.size (.tup ys)) { s with heap:=h'.push { cls:=.type "tuple",data:=.seq its.toArray } } :=
   I1.laid (t':=s.toks) (λb o e=>Hr _ e) (Ht _) (show ObjOk X.prog X.w _ _ _ (.tup ys) from⟨hz,its,r',IsTup.new _ _⟩)
  exact⟨.ref h'.objs.size,_,I2,rfl,q _ (I1.hok.fresh (Ht _))⟩
 ·obtain⟨its,r',pl,hz⟩:=I.tuple hq;exact call_tuple_same pl ⟨.ref p,H,I,rfl,q⟩
def tyV (K:Hj) (T:String) (x:V) (H:Hp):Prop:=match x with
 | .str _=>T="str"
 | .int _=>T="int"
 | .ref p=>(T="list"/\∃ xs,SqL K H p xs) \/ (T="tuple"/\∃ o,K.lookup p=MA o/\o.cls=.type "tuple"/\o.dict=MF) \/
   (T="dict"/\((∃ kvs,H p=MA (.dK kvs)) \/ ∃ kvs,H p=MA (.dT kvs))) \/ (T="set"/\∃ S n,H p=MA (.set S n))
 | _=>False
theorem xE {Mu:MT} {σ:St} {H:Hp} {s:ME} {T:String} {x:V} {v:MD} (I:Inv X Mu σ H s) (r:RelV x v) (ty:tyV X.K T x H) :
  s.TypeIs v T/\∀ a,v=.ref a->∃ ob,s.heap.get? a=MA ob/\ob.dict=MF:=by
 cases x with
 | str z =>
  obtain⟨t,rfl⟩:=r;cases (show T="str" from ty);exact⟨typeIs_str s z t,λ_ e=>nomatch e⟩
 | int i =>
  obtain⟨t,rfl⟩:=r;cases (show T="int" from ty);exact⟨typeIs_int s i t,λ_ e=>nomatch e⟩
 | ref p =>
  cases r;rcases ty with⟨rfl,xs,hq⟩ | ⟨rfl,o,hk,hc,hd⟩ | ⟨rfl,hk⟩ | ⟨rfl,S,n,hk⟩
  ·obtain⟨its,_,pl,_⟩:=I.list hq;refine⟨pl.isList.typeIs,λa e=>?_⟩;cases e;obtain⟨o,n,e,c,hd,_⟩:=pl;exact⟨o,e,hd⟩
  ·refine⟨⟨o,I.kIn p o hk,hc⟩,λa e=>?_⟩;cases e;exact⟨o,I.kIn _ o hk,hd⟩
  ·have z:∃ o,s.heap.get? p=MA o/\o.ExactDict:=by
    rcases hk with⟨kvs,hk⟩ | ⟨kvs,hk⟩
    ·obtain⟨_,_,_,_,o,_,_,e,ex,_⟩:=I.hok p _ hk;exact⟨o,e,ex⟩
    ·obtain⟨_,_,_,_,o,_,_,e,ex,_⟩:=I.hok p _ hk;exact⟨o,e,ex⟩
   obtain⟨o,e,ex⟩:=z;refine⟨⟨o,e,ex.1⟩,λa e2=>?_⟩;cases e2;exact⟨o,e,ex.2.1⟩
  ·obtain⟨o,_,_,_,e,ex,_⟩:=I.hok p _ hk;refine⟨⟨o,e,ex.1⟩,λa e2=>?_⟩;cases e2;exact⟨o,e,ex.2.1⟩
 | _=>exact J9 ty
def Ex (K:Hj) (T:String) (r:V->List V->Hp->VK->Prop) (to:TE):TE:=λσ H Q=>to σ H λx H1=>tyV K T x H1/\r x [] H1 Q
def tBM (K:Hj) (T:String) (r:V->List V->Hp->VK->Prop) (to:TE) (t:TA):TE:=λσ H Q=>to σ H λx H1=>tyV K T x H1/\t σ H1 λxs H2=>r x xs H2 Q
variable {o e:Expr} {es:MX} {to:TE} {t:TA} {name:Str} {apos cpos:Pos} {T id:String} {r:V->List V->Hp->VK->Prop}
theorem xF (pa:PlainAttrs T) (slot:Slot T name id) (hty:typeOf (.builtin id)=pure (.type "method_descriptor")) (hm:MtR X id r) (ho:PE X o to)
  (hbase:attributeBase o name X.env (eval o X.env)=eval o X.env:=by rfl) (hline:(apos.endLine == cpos.line)=MC:=by rfl):PE X (.Call (.Attribute o name apos) [] [] cpos) (Ex X.K T r to):=by
 intro Mu s σ H Q I h;refine wpAny_Call_method0_late hbase hline (thn (ho Mu s σ H _ I h) λv s1 ⟨x,H1,I1,r1,ty,q1⟩=>?_);obtain⟨h1,h2⟩:=xE I1 r1 ty;exact⟨T,id,pa,slot,hty,h1,h2,KQ rfl (PySem.evalArgs_none (hm Mu s1 σ H1 x [] v [] Q I1 r1 .nil q1))⟩
theorem fT (pa:PlainAttrs T) (slot:Slot T name id) (hty:typeOf (.builtin id)=pure (.type "method_descriptor")) (hm:MtR X id r) (ho:PE X o to) (ha:PA X (e :: es) t)
  (hbase:attributeBase o name X.env (eval o X.env)=eval o X.env:=by rfl)
  (hfew:((backTo cpos (Iq (e :: es) X.env)).all (λx=>!x.1) && (backToKw cpos (keywordEach [] X.env)).all (λx=>x.1.isSome)
   && decide ((e :: es).length+([]:MZ).length+(if ([]:MZ).isEmpty then 0 else 1)<30))=MC:=by rfl)
  (hline:(apos.endLine == cpos.line)=MC:=by rfl) (hs:Iq (e :: es) X.env=(MG,eval e X.env) :: Iq es X.env:=by rfl) (hplain:(backTo cpos (Iq es X.env)).any (·.1)=MG:=by rfl) :
  PE X (.Call (.Attribute o name apos) (e :: es) [] cpos) (tBM X.K T r to t):=by
 intro Mu s σ H Q I h;refine wpAny_Call_method_late hbase hfew hline rfl (thn (ho Mu s σ H _ I h) λv s1 ⟨x,H1,I1,r1,ty,q1⟩=>?_);obtain⟨h1,h2⟩:=xE I1 r1 ty;refine⟨T,id,pa,slot,hty,h1,h2,?_⟩;have hA:=ha cpos Mu s1 σ H1 _ I1 q1;rw [hs] at hA ⊢;refine KQ (by show (MG || (backTo cpos (Iq es X.env)).any (·.1))=MG;rw [hplain] <;> rfl) (Ma ?_);exact thn hA λus s2 ⟨vs,H2,I2,r2,q2⟩=>hm Mu s2 σ H2 x vs v us Q I2 r1 r2 q2
/- xs.append(e),list.index on a module's tuple .. are MtR facts of 06m -/
end
def MtM (X:Cx) (id:String) (r:V->List V->Hp->VK->Prop):Prop :=
 ∀ (Mu:MT) (s:ME) (σ:St) (H:Hp) (x:V) (xs:List V) (v:MD) (us:MQ) (Q:VK),Inv X Mu σ H s->RelV x v->Vals xs us->r x xs H Q ->
  HP (model X.prog X.w) X.A (call (.builtin id) (v :: us)) (EP X Mu σ Q) X.xe s
theorem Vals.one:∀ {x:V} {us:MQ},Vals [x] us->∃ u,us=[u]/\RelV x u
 | _,_,.cons r .nil=>⟨_,rfl,r⟩
theorem Vals.zero:∀ {us:MQ},Vals [] us->us=[]
 | _,.nil=>rfl
theorem Vals.dropLast {xs:List V} {us:MQ} (h:Vals xs us):Vals xs.dropLast us.dropLast:=by
 induction h with
 | nil=>exact .nil
 | cons r t ih =>
  cases t with
  | nil=>exact .nil
  | cons q t'=>exact .cons r ih
theorem oX {α:Type} (l:List α):l.eraseIdx (l.length - 1)=l.dropLast:=by
 induction l with
 | nil=>rfl
 | cons a r ih =>
  cases r with
  | nil=>rfl
  | cons b r =>
   have e:(a :: b :: r).length - 1=((b :: r).length - 1)+1:=by
    have h1:(a :: b :: r).length=r.length+2:=rfl;have h2:(b :: r).length=r.length+1:=rfl;omega
   rw [e,List.eraseIdx_cons_succ,ih]
   all_goals rfl
section
variable {X:Cx} {Mu:MT} {σ:St} {H:Hp} {s:ME} {l b:Hm} {xs ys zs:List V}
theorem Inv.lset {its its':MQ} {n:Nat} {f:Array MD->Array MD} {t':Nat} (I:Inv X Mu σ H s) (hH:H l=MA (.lst xs))
  (e:s.heap.get? l=MA { cls:=.type "list",data:=.seq its.toArray n }) (hf:f its.toArray=its'.toArray) (hv:Vals ys its') (hz:ys.length<=Ir) :
  Inv X Mu σ (upd H l (.lst ys)) { s with heap:=s.heap.update l (Jj f),toks:=t' }:=by
 have q:=PySem.IsL.update e f;rw [hf] at q;refine I.write (x:=l) (e:=l) (by rw [hH];exact trivial) (.inl rfl) (λb' u hb hu=>(Il s.heap (Jj f) (Jc hb)).trans hu) ⟨_,q⟩ ?_;exact⟨hz,its',_,hv,q⟩
theorem Inv.lnew {its:MQ} {t':Nat} (I:Inv X Mu σ H s) (hv:Vals ys its) (hz:ys.length<=Ir) :
  Inv X Mu σ (upd H s.heap.objs.size (.lst ys)) { s with heap:=s.heap.push { cls:=.type "list",data:=.seq its.toArray },toks:=t' } :=
 I.laid (λ_ _ q=>Hr _ q) (Ht _) ⟨hz,its,0,hv,HS _ rfl⟩
theorem Inv.fresh (I:Inv X Mu σ H s):H s.heap.objs.size=MF:=I.hok.fresh (Ht _)
theorem Inv.lstM (I:Inv X Mu σ H s) (hH:H l=MA (.lst xs)):xs.length<=Ir/\∃ (its:MQ) (n:Nat),Vals xs its/\xs.length=its.length/\s.heap.get? l=MA { cls:=.type "list",data:=.seq its.toArray n }:=by
 obtain⟨z,its,n,r,e⟩:=I.hok l _ hH;exact⟨z,its,n,r,r.length,e⟩
end
section
variable {X:Cx}
def sO:V->List V->Hp->VK->Prop:=λx vs H Q=>∃ l xs y,x=.ref l/\vs=[y]/\H l=MA (.lst xs)/\xs.length<Ir/\Q .non (upd H l (.lst (xs++[y])))
theorem jM:MtM X "list.append" sO:=by
 intro Mu s σ H x vs v us Q I rx rv h;obtain⟨l,xs,y,rfl,rfl,hH,hz,q⟩:=h;cases rx;obtain⟨u,rfl,ru⟩:=rv.one;obtain⟨z,its,n,r,hl,e⟩:=I.lstM hH;refine call_meets F.slot_list_append ⟨_,e,rfl⟩ Mj (Mb _ _) (PySem.list_append l its.toArray n u (by rw [HG];omega)) ⟨e,?_⟩;refine⟨.non,_,I.lset (its':=its++[u]) hH e (by simp) (r.append (.cons ru .nil)) ?_,rfl,q⟩;rw [HA,Iz];omega
def Gb:V->List V->Hp->VK->Prop:=λx vs H Q=>∃ l xs y,x=.ref l/\vs=[]/\H l=MA (.lst xs)/\xs[xs.length - 1]?=MA y/\Q y (upd H l (.lst xs.dropLast))
theorem Ey:MtM X "list.pop" Gb:=by
 intro Mu s σ H x vs v us Q I rx rv h;obtain⟨l,xs,y,rfl,rfl,hH,hy,q⟩:=h;cases rx;have hus:=rv.zero;subst hus;obtain⟨z,its,n,r,hl,e⟩:=I.lstM hH;obtain⟨u,hu,ru⟩:=r.get hy;have hy':its.toArray[its.toArray.size - 1]?=MA u:=by
  show its.toArray[its.length - 1]?=MA u;rw [<-Jp,<- hl];exact hu
 refine call_meets F.slot_list_pop ⟨_,e,rfl⟩ F.entry_list_pop (F.args_list_pop_1 _) (MeetsSeq.list_pop_last l its.toArray n u hy' (by rw [HG];omega)) ⟨e,?_⟩;refine⟨y,_,I.lset (its':=its.dropLast) hH e ?_ r.dropLast ?_,ru,q⟩
 ·show its.toArray.eraseIdxIfInBounds (its.toArray.size - 1)=its.dropLast.toArray;rw [HG,List.eraseIdxIfInBounds_toArray,oX]
 ·rw [List.length_dropLast];omega
def xG:V->List V->Hp->VK->Prop:=λx vs H Q=>∃ l xs,x=.ref l/\vs=[]/\H l=MA (.lst xs)/\Q .non (upd H l (.lst []))
theorem xH:MtM X "list.clear" xG:=by
 intro Mu s σ H x vs v us Q I rx rv h;obtain⟨l,xs,rfl,rfl,hH,q⟩:=h;cases rx;have hus:=rv.zero;subst hus;obtain⟨z,its,n,r,hl,e⟩:=I.lstM hH;refine call_meets F.slot_list_clear ⟨_,e,rfl⟩ F.entry_list_clear (F.args_list_clear_1 _) (AutoSeq1.list_clear_list_0 l its.toArray n (by rw [HG];omega)) ⟨e,?_⟩;exact⟨.non,_,I.lset (its':=[]) (ys:=[]) hH e rfl .nil (HR _),rfl,q⟩
end
end L2
namespace Att
open PySem PySem.W PySem.Calls PyProof.Rows
theorem eV {P:Params} {h:Heap}:∀ (ns:M4) (vs:MQ),WellAll P h vs (ns.map WData.int)->IntsAre vs ns:=by
 intro ns
 induction ns with
 | nil =>
  intro vs w;rw [Kt] at w;cases w;exact .nil
 | cons n ns ih =>
  intro vs w;rw [HI] at w;cases w with
  | cons a b =>
   cases a;exact .cons _ _ (ih _ b)
theorem uS {l:OpenLaw} {n:Nat} (hn:l.most=MA n) {P:Params} {h:Heap} {args:List WData} {vals:MQ}
  (hpre:l.row.toRowW.claim.pre args=MC) (hwl:WellAll P h vals args) :
  ∃ a vs ns,vals=[Value.ref a]/\args=[WData.list (ns.map WData.int)]/\h.get? a=MA { cls:=.type "list",data:=.seq vs.toArray }/\IntsAre vs ns/\ns.length<=n:=by
 have hsh:WShape.hasAll [] args [.list .int]=MC:=(pre_splitW hpre).1;have hc:l.pre.holds [] { args:=args }=MC:=(pre_splitW hpre).2;obtain⟨d,r,rfl,h1,h2⟩:=hasAllW_cons hsh;obtain rfl:=hasAllW_nil h2;obtain⟨xs,rfl,h3⟩:=hasW_list h1;obtain⟨ns,rfl⟩:=items_int h3;have hlen:ns.length<=n:=by
  unfold OpenLaw.pre at hc;have h4:(WTm.not (.lt (.lit (.int (n:Int))) (.len (.arg 0)))).holds [] { args:=[.list (ns.map .int)] }=MC:=by
   have h4:=(holds_andW hc).1;rw [hn] at h4;exact h4
  have h5:=condW_of h4 (w_not (w_lt w_lit (w_len_list (w_arg rfl))));rw [Hc] at h5;refine Nat.le_of_not_lt λq=>?_;have q':(n:Int)<((ns.length:Nat):Int):=by omega
  first
   | (rw [Mx q'] at h5;exact absurd h5 (by decide))
   | (simp at h5;omega)
 cases hwl with
 | cons w1 w2 =>
  cases w2;cases w1 with
  | list ho hall=>exact⟨_,_,ns,rfl,rfl,ho,eV ns _ hall,hlen⟩
theorem uT (l:OpenLaw) (args:List WData):l.row.toRowW.claim.post args (.bool MC) args=MC :=
 postW_of (r:=l.row.toRowW) (X:=(MC == MC))
  (show WShape.has [] (.bool MC) .bool=MC by first | rfl | decide | simp [WShape.has,WShape.arms,WShape.armsAll])
  (show (WTm.eq .res (.lit (.bool MC))).value [] { args:=args,res:=MA (.bool MC),after:=args }=MA (.bool (MC == MC)) from w_eq_bool (w_res rfl) w_lit) rfl
theorem attach_call {l:OpenLaw} {n:Nat} {q:MI} {loose:MU} {XP:(Str->MR)->Heap->Prop} {YP:MH->Heap->Prop} {d:DefRec}
  (hn:l.most=MA n) (hdf:d.params.defaults=[])
  (call:∀ (w:MH) (s₀ s₁:ME) (mg mb:Str->MR) (fa:Hm) (o:Obj) (pm cd doc:MD) (a:Hm) (vs:MQ) (ns:M4),
   Ground q loose [] XP w s₀ mg mb s₁.heap->YP w s₁.heap ->
   s₁.heap.get? fa=MA o->o.data=.func (docDef d.name d.params d.body d.scope pm cd doc)->s₁.heap.CodeRec cd d.name->mg d.name=MA (.ref fa) ->
   s₁.heap.get? a=MA { cls:=.type "list",data:=.seq vs.toArray }->IntsAre vs ns->ns.length<=n->s₁.gens=#[] ->
   codeAny (model l.prog w) callerA (.call (.ref fa) ⟨[.ref a],[]⟩) (λr s'=>r=.ok (.ret (.bool MC))/\OldK s₁.heap s'.heap/\s'.os=s₁.os/\AllBare s'.gens) s₁) :
  WalkO q loose XP YP l.row.toRowW d [] (λf vs=>PySem.call f vs):=by
 intro w s₀ s₁ mg mb G Y fa o pm cd doc dV kV ho hd hcd hD hmg hg args vals as hpre hlay hrd hwl hlo;obtain rfl:dV=.none:=Dflts.none hD hdf;obtain rfl:kV=.none:=Dflts.noKw hD;obtain⟨a,vs,ns,rfl,rfl,hobj,hints,hlen⟩:=uS hn hpre hwl;refine enter_call (Ms (call w s₀ s₁ mg mb fa o pm cd doc a vs ns G Y ho (fd_plain hd) hcd hmg hobj hints hlen hg) λr s' hq=>?_);obtain⟨rfl,h2,h3,h4⟩:=hq;exact⟨.inl ⟨.bool MC,.bool MC,[],rfl,λ_=>rfl,.bool MC,uT l _,λ_=>⟨List.Pairwise.nil,λ_ hm=>(nomatch hm)⟩⟩,h2,h3,h4⟩
section
variable {prog:MI} {w:MH} {A:MJ} {E:MD->ME->Prop} {s:ME} {K:Frag}
def noObjs (h:Heap):Heap:={ h with objs:=#[] }
theorem noObjs_get (h:Heap) (b:Hm):(noObjs h).get? b=MF:=by
 cases e:(noObjs h).get? b with
 | none=>rfl
 | some o=>exact absurd (HD e) (Jr _)
theorem fr_all {h:Heap} {L:Hm} {m:Str->MR} (n:h.Ns L m):Fr (noObjs h) L h m :=
 ⟨n,λb o e=>(by rw [noObjs_get] at e;cases e),HR _⟩
end
end Att
namespace L2
open PySem PySem.Spec PyProof.Rows
theorem iB:∀ {vs:MQ} {ns:M4},IntsAre vs ns->Vals (ns.map V.int) vs
 | _,_,.nil=>.nil
 | _,_,.cons n t h=>.cons ⟨t,rfl⟩ (iB h)
end L2
/- THE LAST THEOREM (shape;LID,My.* are yours):
   My.Adr: a structure of the addresses that your layer names (classes,functions);My.Txt K t: a structure (Prop) of the equations over K;
   My.txt_mk:{K} {implicit addresses ..} (e1:nsIn K HX "law"=MA (MA (.ref f))) (e2:K.lookup f=MA ⟨oc,od,.func (fnOf "law" "law" params body scope dV kV doc pm an cdv ct),sl⟩) (e3:codeIn K cdv "law"=MC) ..:∃ t,My.Txt K t
set_option maxRecDepth 100000 in
set_option maxHeartbeats 0 in
theorem PySem.Challenge.cw_LID_holds : PySem.Challenge.rw_LID.Holds := by
 w_on;o_law;k_head;(case hw=>w_witness2)
 k_fill
 refine L2.walk_of (l:=PySem.Challenge.rw_LID) (n:=63) (k:=40) (x:="script") (CX:=λw=>..) (sp:=λ_=>My.sp_law) rfl (by decide) rfl ⟨rfl,by decide,by decide⟩ (λw h Y=>PySem.W.kIn_of Y) ?F ?S ?C
 case F =>
  intro w mg fa h KX G hmg;have T:∃ t,My.Txt (L2.KOf KX) t:=by
   dsimp only [L2.KOf]                          -- K must stand as «<heap const> w.params» for k_is
   refine' My.txt_mk ?e1 ?e2 ?e3 ..
   (case e1=>PySem.W.k_is)                    -- in the order: a name->its address->its object->its parts
   (case e2=>PySem.W.k_is)
   ..
  obtain⟨t,T⟩:=T;have e0:=hmg.symm.trans (Jz KX G T.law);cases e0                                       -- fa is the law's own address;exact⟨_,λs u=>.of_eq rfl,λbase kb nb=>My.law_fn T kb nb⟩     -- if «.of_eq rfl» comes too early: refine' ⟨_,?b,λbase kb nb=>My.law_fn T kb nb⟩;exact λs u=>.of_eq rfl
 case S=>exact λw H a ns hl hO hS=>..
 case C=>exact ..
(the tactic k_is has no namespace: write k_is) -/
namespace L2
open PySem PySem.Spec PyProof.Rows
noncomputable def ji (s:Stmt):Arguments:=match s with
 | .FunctionDef _ a _ _ _ _ _ _ _ _=>a
 | _=>{ posonlyargs:=[],args:=[],vararg:=MF,kwonlyargs:=[],kw_defaults:=[],kwarg:=MF,defaults:=[] }
noncomputable def yo (s:Stmt):MY:=match s with
 | .FunctionDef _ _ b _ _ _ _ _ _ _=>b
 | _=>[]
noncomputable def zh (s:Stmt):Scope:=match s with
 | .FunctionDef _ _ _ _ _ _ sc _ _ _=>sc
 | _=>{ kind:=.function,names:=[],isGenerator:=MG,isCoroutine:=MG }
abbrev CX0:CXT:=λ_ _ _ _ _ _=>False
abbrev E0:XK:=λ_ _ _=>False
theorem Gd {X:Cx}:Passes CX0 X E0:=λ_ _ _ _ _ _ _ h=>h.elim
structure Fun (K:Hj) (x qual:Str) (st:Stmt) (f:Hm) (fd:FuncData):Prop where
 ex:∃ (oc:MD) (od:MW) (kV doc pm:MD) (an:MW) (cdv ct:MD) (osl:Array (MR)),
  fd=Jl x qual (ji st) (yo st) (zh st) .none kV doc pm an cdv ct/\K.lookup f=MA ⟨oc,od,.func fd,osl⟩/\IK K cdv qual=MC
 kp:Ji K (.ref f)=MC
section
variable {P:MI} {w:MH} {K:Hj} {mg:Str->MR} {base:Heap}
theorem Fun.ok {x qual:Str} {st:Stmt} {f:Hm} {fd:FuncData} {N ps:MU} {k:Nat} {sp:Sp} (F:Fun K x qual st f fd) (S:FnScope N ps (zh st)) (len:∀ vs H Q E,sp vs H Q E->vs.length=ps.length)
  (hbody:∀ (cdv:MD) (A:MJ) (outer:MV) (s:ME) (H:Hp) (vs:List V) (Q:VK) (E:XK),Room k (A.deeper (envOfC qual (zh st) s.heap.objs.size f cdv))->sp vs H Q E ->
   ∃ t,PSs (yd CX0 P w K mg base N qual (zh st) f cdv A outer s H E).nox (yo st) t/\t { nx:=λ_ H'=>Q .non H',rt:=Q } (start N vs) H):FnOk P w K mg base CX0 (k+1) f fd ps sp:=by
 obtain⟨oc,od,kV,doc,pm,an,cdv,ct,osl,rfl,lk,hcd⟩:=F.ex;refine xC lk hcd S len λA outer s H vs Q E hr hsp=>?_;obtain⟨t,h,q⟩:=hbody cdv A outer s H vs Q E hr hsp;exact⟨t,h.nox,q⟩
theorem Fun.binds {x qual:Str} {st:Stmt} {f:Hm} {fd:FuncData} {ps:MU} (F:Fun K x qual st f fd)
  (h:∀ (kV doc pm:MD) (an:MW) (cdv ct:MD) (us:MQ),us.length=ps.length->bindArgs (Jl x qual (ji st) (yo st) (zh st) .none kV doc pm an cdv ct) ⟨us,[]⟩=pure (ps.zip us)):Binds K fd ps []:=by
 obtain⟨oc,od,kV,doc,pm,an,cdv,ct,osl,rfl,lk,hcd⟩:=F.ex;exact .all (h kV doc pm an cdv ct)
theorem oY {x qual:Str} {st:Stmt} {f:Hm} {oc:MD} {od an:MW} {osl:Array (MR)} {kV doc pm cdv ct:MD} (l:K.lookup f=MA ⟨oc,od,.func (Jl x qual (ji st) (yo st) (zh st) .none kV doc pm an cdv ct),osl⟩)
  (c:IK K cdv qual=MC) (k:Ji K (.ref f)=MC):Fun K x qual st f (Jl x qual (ji st) (yo st) (zh st) .none kV doc pm an cdv ct):=⟨⟨oc,od,kV,doc,pm,an,cdv,ct,osl,rfl,l,c⟩,k⟩
end
theorem zY {n:Nat} (h:n<=1000):n<Ir:=Nat.lt_of_le_of_lt h (by decide)
section
variable {X:Cx}
theorem pv (i:Nat) {x:Str} {pos:Pos} (hN:X.N[i]?=MA x:=by rfl) (hv:Vis X.env.scope x:=by first | exact MM rfl | exact MN (MM rfl) | exact MN (MN rfl)) (hd:(x == ("__debug__":Str))=MG:=by decide)
  (hcd:(x == ("__classdict__":Str))=MG:=by decide):PE X (.Name x pos) (yt i):=Ee hN hv hd hcd
end
def Same (H H':Hp):Prop:=∀ b o,H b=MA o->H' b=MA o
theorem Same.refl (H:Hp):Same H H:=λ_ _ h=>h
theorem Same.trans {H H1 H2:Hp} (a:Same H H1) (b:Same H1 H2):Same H H2:=λc o h=>b c o (a c o h)
theorem Same.free {H H':Hp} (e:Same H H') {l:Hm} (h:H' l=Option.none):H l=Option.none:=by
 cases q:H l with
 | none=>rfl
 | some o =>
  rw [e l o q] at h;cases h
theorem Same.seq {K:Hj} {H H':Hp} {a:Hm} {xs:List V} (e:Same H H') (h:SqL K H a xs):SqL K H' a xs:=by
 rcases h with (h | ⟨o,h⟩) | h
 ·exact .inl (.inl (e _ _ h))
 ·exact .inl (.inr ⟨o,e _ _ h⟩)
 ·exact .inr h
noncomputable def yl (env:Env):M6->M7->M7
 | [],acc=>acc
 | (x,k) :: r,acc=>if k == .free then yl env r ((x,(env.cells.lookup x).getD 0) :: acc) else yl env r acc
theorem cj {sc:Scope} {env:Env} (h:∀ x,(x,NameKind.free)∈sc.names->∃ c,env.cells.lookup x=MA c):closureFor sc env=pure (yl env sc.names []):=by
 have key:∀ (names:M6) (acc:M7),(∀ x,(x,NameKind.free)∈names->∃ c,env.cells.lookup x=MA c) ->
   (forIn names acc λ(x:Str×NameKind) (cs:M7)=>if (x.2 == NameKind.free)=MC then (do let c <- cellOf env x.1;pure (ForInStep.yield ((x.1,c) :: cs))) else pure (ForInStep.yield cs))=(pure (yl env names acc):Sem (M7)):=by
  intro names
  induction names with
  | nil=>intro acc _;rfl
  | cons p r ih =>
   intro acc hh;obtain⟨x,k⟩:=p;rw [Kg];unfold yl;by_cases hk:(k == NameKind.free)=MC
   ·have hk':k=.free:=by simpa using hk
    subst hk';obtain⟨c,hc⟩:=hh x Hk;simp only [beq_self_eq_true,if_true];rw [<-ih _ λy hy=>hh y (Hl _ hy)];have:cellOf env x=pure c:=by unfold cellOf;rw [hc]
    rw [this,hc];rfl
   ·simp only [hk,Iu,if_false];rw [<-ih _ λy hy=>hh y (Hl _ hy)];rfl
 simp only [closureFor];have q:=key sc.names [] h;refine Eq.trans ?_ (Eq.trans (congrArg (λz=>z >>= λr=>pure r) q) ?_)
 ·rfl
 ·rfl
theorem ai {env:Env}:∀ {names:M6} {acc:M7} {p:Str×Hm},p∈yl env names acc->p∈acc \/ ((p.1,NameKind.free)∈names/\p.2=(env.cells.lookup p.1).getD 0)
 | [],acc,p,h=>.inl h
 | (x,k) :: r,acc,p,h=>by
  unfold yl at h;split at h
  ·rename_i hk;have hk':k=.free:=by simpa using hk
   subst hk';rcases ai h with q | ⟨q,e⟩
   ·rcases Hv.mp q with q | q
    ·subst q;exact .inr ⟨Hk,rfl⟩
    ·exact .inl q
   ·exact .inr ⟨Hl _ q,e⟩
  ·rcases ai h with q | ⟨q,e⟩
   ·exact .inl q
   ·exact .inr ⟨Hl _ q,e⟩
theorem aK {α:Type}:∀ {l:List (Str×α)} {x:Str} {v:α},(x,v)∈l->∃ u,l.lookup x=MA u
 | (y,u) :: r,x,v,h=>by
  rw [IS];cases hb:x == y with
  | true=>exact⟨u,rfl⟩
  | false =>
   rcases Hv.mp h with e | h
   ·have:x=y:=congrArg LD e;subst this;simp at hb
   ·exact aK h
theorem ck {env:Env}:∀ {names:M6} {acc:M7} {x:Str},(x,NameKind.free)∈names->(x,(env.cells.lookup x).getD 0)∈yl env names acc
 | (y,k) :: r,acc,x,h=>by
  have mono:∀ (names:M6) (acc:M7) (p:Str×Hm),p∈acc->p∈yl env names acc:=by
   intro names
   induction names with
   | nil=>intro acc p hp;exact hp
   | cons q r ih =>
    intro acc p hp;obtain⟨a,b⟩:=q;unfold yl;split
    ·exact ih _ _ (Hl _ hp)
    ·exact ih _ _ hp
  unfold yl;rcases Hv.mp h with e | h
  ·cases e;simp only [beq_self_eq_true,if_true];exact mono _ _ _ Hk
  ·split
   ·exact ck h
   ·exact ck h
theorem bW {env:Env} {names:M6} {x:Str} {c:Hm} (h:∀ x,(x,NameKind.free)∈names->∃ c,env.cells.lookup x=MA c) (e:(yl env names []).lookup x=MA c):env.cells.lookup x=MA c/\(x,NameKind.free)∈names:=by
 rcases ai (mem_of_lookup e) with q | ⟨q,e'⟩
 ·cases q
 ·obtain⟨c',hc⟩:=h _ q;dsimp only at hc e';rw [hc] at e';exact⟨by rw [hc];exact congrArg MA e'.symm,q⟩
theorem aS {env:Env} {names:M6} {x:Str} {c:Hm} (h:∀ x,(x,NameKind.free)∈names->∃ c,env.cells.lookup x=MA c) (hx:(x,NameKind.free)∈names) (e:env.cells.lookup x=MA c):(yl env names []).lookup x=MA c:=by
 obtain⟨u,hu⟩:=aK (ck (env:=env) (acc:=[]) hx);have:=(bW h hu).1;rw [this] at e;rw [hu,e]
theorem jN:∀ {names:M6} {n:Nat} {acc:M7} {x:Str} {c:Hm},(cellsFrom n names acc).lookup x=MA c->(n<=c/\c<n+names.length/\(x,NameKind.cell)∈names) \/ (acc.lookup x=MA c/\(x,NameKind.cell)∉names)
 | [],n,acc,x,c,h=>.inr ⟨h,by simp⟩
 | (y,k) :: r,n,acc,x,c,h=>by
  unfold cellsFrom at h;split at h
  ·rename_i hk;have hk':k=.cell:=by simpa using hk
   subst hk';rcases jN h with⟨q1,q2,q3⟩ | ⟨q1,q2⟩
   ·exact .inl ⟨KR q1,HZ q2 (by rw [HK];omega),Hl _ q3⟩
   ·rw [IS] at q1;cases hb:x == y with
    | true =>
     rw [hb] at q1;cases q1;have:x=y:=by simpa using hb
     subst this;exact .inl ⟨Ht _,by rw [HK];exact Nat.lt_add_of_pos_right (KS _),Hk⟩
    | false =>
     rw [hb] at q1;refine .inr ⟨q1,λz=>?_⟩;rcases Hv.mp z with e | z
     ·have:x=y:=congrArg LD e;subst this;simp at hb
     ·exact q2 z
  ·rename_i hk;rcases jN h with⟨q1,q2,q3⟩ | ⟨q1,q2⟩
   ·exact .inl ⟨q1,HZ q2 (by rw [HK];omega),Hl _ q3⟩
   ·refine .inr ⟨q1,λz=>?_⟩;rcases Hv.mp z with e | z
    ·have:k=.cell:=(congrArg Prod.snd e).symm;subst this;simp at hk
    ·exact q2 z
theorem qy:∀ (names:M6) (n:Nat) (acc:M7),(acc.Pairwise λx y=>x.2≠y.2)->(∀ p∈acc,p.2<n)->(cellsFrom n names acc).Pairwise λx y=>x.2≠y.2
 | [],n,acc,h,_=>h
 | (y,k) :: r,n,acc,h,hl=>by
  unfold cellsFrom;split
  ·refine qy r (n+1) _ (Js.mpr ⟨λp hp=>?_,h⟩) λp hp=>?_
   ·exact KP (hl p hp)
   ·rcases Hv.mp hp with e | hp
    ·subst e;exact K5 _
    ·exact IU (hl p hp)
  ·exact qy r n acc h hl
theorem hV {names:M6} {n:Nat} {acc:M7} {x:Str} (h:names.lookup x=MA .cell):∃ c,(cellsFrom n names acc).lookup x=MA c :=
 KD.mp (Ka names n acc (.inl h))
theorem bX {names:M6} {n:Nat} {acc:M7} {x:Str} (h:(acc.lookup x).isSome=MC):∃ c,(cellsFrom n names acc).lookup x=MA c :=
 KD.mp (Ka names n acc (.inr h))
theorem vI:∀ (names:M6) (h:Heap) (acc:M7) (x:Str) (c:Hm),(cellsFrom h.objs.size names acc).lookup x=MA c->h.objs.size<=c->(∀ p∈acc,p.2<h.objs.size)->(pushCells h names).IsCell c MF
 | [],h,acc,x,c,e,hc,hl=>absurd (hl _ (mem_of_lookup e)) (LN.mpr hc)
 | (y,k) :: r,h,acc,x,c,e,hc,hl=>by
  unfold cellsFrom at e;unfold pushCells;split at e
  ·rename_i hk;rw [Mw hk];by_cases hcc:c=h.objs.size
   ·subst hcc;exact⟨_,pushCells_keeps _ _ _ _ (HS _ rfl),rfl⟩
   ·have es:(h.push { cls:=.type "cell",data:=.cell MF }).objs.size=h.objs.size+1:=KU ..;refine vI r _ ((y,h.objs.size) :: acc) x c (by rw [es];exact e) (by rw [es];exact Nat.lt_of_le_of_ne hc (Jc hcc)) λp hp=>?_;rw [es];rcases Hv.mp hp with e | hp
    ·subst e;exact K5 _
    ·exact IU (hl p hp)
  ·rename_i hk;rw [Mv hk];exact vI r h acc x c e hc hl
noncomputable def zm (X:Cx) (sc:Scope) (N:MU) (s₀:ME) (H₀:Hp) (ex:MS) (pn:MT):Cx :=
 { X with N:=N,s₀:=s₀,H₀:=H₀,env:=compEnvC sc (cellsFrom (s₀.heap.objs.size+1) sc.names (yl X.env sc.names [])) s₀.heap.objs.size X.env,
          outer:=X.stack,ex:=ex,fn:=λx=>decide (sc.names.lookup x=MA .cell),pn:=pn,xe:=λ_ _=>False }
structure CompScope (NO:MU) (scO:Scope) (N:MU) (sc:Scope) (own:Nat) (fr:M8):Prop where
 kind:sc.kind=.function
 nd:N.Nodup
 snd:(sc.names.map (·.1)).Nodup
 free:∀ p∈sc.names,p.2=.free->scO.names.lookup p.1=MA .cell \/ scO.names.lookup p.1=MA .free
 frn:∀ p∈(N.drop own).zip fr,NO[p.2]?=MA p.1/\sc.names.lookup p.1=MA .free
 len:N.length=own+fr.length
noncomputable def jm (own:Nat) (fr:M8) (σ:St):St:=JB own MF++fr.map λj=>(σ[j]?).getD MF
theorem yx {α:Type}:∀ {l:List (Str×α)} {x:Str} {k:α},(l.map (·.1)).Nodup->(x,k)∈l->l.lookup x=MA k
 | (y,u) :: r,x,k,nd,h=>by
  rw [HI] at nd;obtain⟨h1,h2⟩:=ID.mp nd;rw [IS];rcases Hv.mp h with e | h'
  ·cases e;simp
  ·have:x≠y:=by
    intro e;subst e;exact h1 (Hz.mpr ⟨(x,k),h',rfl⟩)
   rw [beq_eq_false_iff_ne.mpr this];exact yx h2 h'
theorem qW {env:Env}:∀ {names:M6} {x:Str} {k:NameKind},names.lookup x=MA k ->
  (names.map λ(n,k)=>if (k == NameKind.free && env.scope.kind == .function && env.kindOf n == MA .cell) then (n,NameKind.cell) else (n,k)).lookup x=MA (if (k == NameKind.free && env.scope.kind == .function && env.kindOf x == MA .cell) then .cell else k)
 | (n,k') :: r,x,k,h=>by
  have ih:=@qW env r x k;show List.lookup x ((if (k' == NameKind.free && env.scope.kind == .function && env.kindOf n == MA .cell)=MC then (n,NameKind.cell) else (n,k')) :: _)=_;cases hx:x == n with
  | true =>
   have:x=n:=by simpa using hx
   subst this;simp only [IS,hx] at h;cases h;split <;> simp [IS]
  | false =>
   simp only [IS,hx] at h;split
   ·simp only [IS,hx];exact ih h
   ·simp only [IS,hx];exact ih h
theorem qD {env:Env}:∀ {names:M6} {x:Str},names.lookup x=MF ->
  (names.map λ(n,k)=>if (k == NameKind.free && env.scope.kind == .function && env.kindOf n == MA .cell) then (n,NameKind.cell) else (n,k)).lookup x=MF
 | [],_,_=>rfl
 | (n,k') :: r,x,h=>by
  have ih:=@qD env r x;show List.lookup x ((if (k' == NameKind.free && env.scope.kind == .function && env.kindOf n == MA .cell)=MC then (n,NameKind.cell) else (n,k')) :: _)=_;cases hx:x == n with
  | true=>simp only [IS,hx] at h;cases h
  | false =>
   simp only [IS,hx] at h;split
   ·simp only [IS,hx];exact ih h
   ·simp only [IS,hx];exact ih h
section
variable {X:Cx} {Mu:MT} {σ:St} {H:Hp} {s:ME} {NO N:MU} {scO sc:Scope} {own:Nat} {fr:M8} {fp:MS}
theorem mJ {tk:Nat} (S:CompScope NO scO N sc own fr) (hN:X.N=NO) (hsc:X.env.scope=scO) (I:Inv X Mu σ H s) (hf:∀ b∈fp,bT X Mu H b) (ho:∀ b∈fp,∃ o,s.heap.get? b=MA o/\∀ v,o.data≠.cell v) :
  Inv (zm X sc N s H fp (X.pn++Mu)) [] (jm own fr σ) H { s with heap:=pushCells (s.heap.push { cls:=.type "dict",data:=.dict #[] }) sc.names,toks:=tk }:=by
 have hfree:∀ x,(x,NameKind.free)∈sc.names->∃ c,X.env.cells.lookup x=MA c:=λx hx=>I.ok.has x (by
  show X.env.scope.names.lookup x=_ \/ X.env.scope.names.lookup x=_;rw [hsc];exact S.free _ hx rfl)
 have hclt:∀ p∈yl X.env sc.names [],p.2<s.heap.objs.size:=λp hp=>by
  rcases ai hp with q | ⟨q,e⟩
  ·cases q
  ·obtain⟨c,hc⟩:=hfree _ q;rw [e,hc];obtain⟨v,o,ho,_⟩:=I.cell _ c hc;exact HD ho
 have hsz:(s.heap.push { cls:=.type "dict",data:=.dict #[] }).objs.size=s.heap.objs.size+1:=KU ..;have hk:∀ b o,s.heap.get? b=MA o->(pushCells (s.heap.push { cls:=.type "dict",data:=.dict #[] }) sc.names).get? b=MA o:=λb o e=>pushCells_keeps _ _ _ _ (Hr _ e);have hcase:∀ {x:Str} {c:Hm},(cellsFrom (s.heap.objs.size+1) sc.names (yl X.env sc.names [])).lookup x=MA c->(s.heap.objs.size+1<=c/\(x,NameKind.cell)∈sc.names) \/ (X.env.cells.lookup x=MA c/\(x,NameKind.free)∈sc.names):=λ{x c} e=>by
  rcases jN e with⟨q1,_,q3⟩ | ⟨q1,_⟩
  ·exact .inl ⟨q1,q3⟩
  ·exact .inr (bW hfree q1)
 have clap:(yl X.env sc.names []).Pairwise λx y=>x.2≠y.2:=by
  have key:∀ (names:M6) (acc:M7),(∀ p∈acc,X.env.cells.lookup p.1=MA p.2)->(∀ x,(x,NameKind.free)∈names->∃ c,X.env.cells.lookup x=MA c)->(acc.Pairwise λx y=>x.2≠y.2)->(∀ p∈acc,(p.1,NameKind.free)∉names)->(names.map (·.1)).Nodup ->
    (yl X.env names acc).Pairwise λx y=>x.2≠y.2:=by
   intro names
   induction names with
   | nil=>intro acc _ _ h _ _;exact h
   | cons p r ih =>
    intro acc h1 h2 h3 h4 h5;obtain⟨y,k⟩:=p;rw [HI] at h5;obtain⟨n1,n2⟩:=ID.mp h5;unfold yl;split
    ·rename_i hk;have hk':k=.free:=by simpa using hk
     subst hk';obtain⟨c,hc⟩:=h2 y Hk;rw [hc];refine ih _ (λp hp=>?_) (λx hx=>h2 x (Hl _ hx)) (Js.mpr ⟨λp hp=>?_,h3⟩) (λp hp=>?_) n2
     ·rcases Hv.mp hp with e | hp
      ·subst e;exact hc
      ·exact h1 p hp
     ·intro e;have e':p.2=c:=e.symm;have:=I.ok.inj _ _ _ hc (e'▸h1 p hp);exact h4 p hp (this▸Hk)
     ·rcases Hv.mp hp with e | hp
      ·subst e;intro z;exact n1 (Hz.mpr ⟨_,z,rfl⟩)
      ·intro z;exact h4 p hp (Hl _ z)
    ·exact ih acc h1 (λx hx=>h2 x (Hl _ hx)) h3 (λp hp z=>h4 p hp (Hl _ z)) n2
  exact key sc.names [] (λp hp=>by cases hp) hfree List.Pairwise.nil (λp hp=>by cases hp) S.snd
 have apart:=qy sc.names (s.heap.objs.size+1) _ clap λp hp=>IU (hclt p hp);have hkd:∀ x,(zm X sc N s H fp (X.pn++Mu)).env.kindOf x=MA .cell \/ (zm X sc N s H fp (X.pn++Mu)).env.kindOf x=MA .free->(x,NameKind.cell)∈sc.names \/ (x,NameKind.free)∈sc.names:=λx hx=>by
  cases q:sc.names.lookup x with
  | none =>
   have e:(zm X sc N s H fp (X.pn++Mu)).env.kindOf x=MF:=qD q;rw [e] at hx;rcases hx with z | z <;> cases z
  | some k =>
   have e:(zm X sc N s H fp (X.pn++Mu)).env.kindOf x=MA _:=qW (env:=X.env) q;rw [e] at hx;have hm:=mem_of_lookup q;cases k <;> first | exact .inl hm | exact .inr hm | (rcases hx with z | z <;> cases z)
 have cellAt:∀ x c,(cellsFrom (s.heap.objs.size+1) sc.names (yl X.env sc.names [])).lookup x=MA c->∃ v,(pushCells (s.heap.push { cls:=.type "dict",data:=.dict #[] }) sc.names).IsCell c v:=λx c e=>by
  rcases hcase e with⟨q,_⟩ | ⟨q,_⟩
  ·exact⟨MF,vI _ _ _ x c (by rw [hsz];exact e) (by rw [hsz];exact q) λp hp=>by rw [hsz];exact IU (hclt p hp)⟩
  ·obtain⟨v,o,ho,hd⟩:=I.cell x c q;exact⟨v,o,hk _ _ ho,hd⟩
 have lt_of_cell:∀ x c,X.env.cells.lookup x=MA c->c<s.heap.objs.size:=λx c e=>by
  obtain⟨v,o,ho,hd⟩:=I.cell x c e;exact HD ho
 have lt_of_fp:∀ b∈fp,b<s.heap.objs.size:=λb hb=>by
  obtain⟨o,e,_⟩:=ho b hb;exact HD e
 have okX:(zm X sc N s H fp (X.pn++Mu)).Ok:=by
  refine⟨I.mod,S.kind,I.ok.glob,I.ok.blt,Ht _,λx y c h1 h2=>name_of_addr apart (mem_of_lookup h1) (mem_of_lookup h2),λx hx=>?_,λx c hx hc=>?_,I.ok.hd,I.ok.frames,.inl rfl,λb hb=>⟨HW (lt_of_fp b hb),λx c e=>?_⟩,I.bs,HM I.ok.bsz I.sz,λb o e hb=>?_,λb hb z=>?_,I.stack,I.stkFree,I.env0.tabs⟩
  ·rcases hkd x hx with q | q
   ·exact hV (yx S.snd q)
   ·obtain⟨c,hc⟩:=hfree x q;exact bX (by rw [aS hfree q hc];rfl)
  ·have hx':sc.names.lookup x=MA .cell:=MO hx;rcases hcase hc with⟨q,_⟩ | ⟨_,q⟩
   ·exact KR q
   ·rw [yx S.snd q] at hx';cases hx'
  ·rcases hcase e with⟨q,_⟩ | ⟨q,_⟩
   ·exact KP (HZ (lt_of_fp b hb) (KR q))
   ·exact (hf b hb).2.2.2.2.1 x c q
  ·rcases (hf b hb).2.2.2.1 with z | z
   ·exact I.ok.noex b o e z
   ·exact absurd (HD e) (LN.mpr (HM I.ok.bsz z))
  ·rcases Hv.mp (I.stkSub b z) with q | q
   ·exact (hf b hb).2.1 q
   ·exact (hf b hb).2.2.1 q
 refine⟨okX,rfl,I.bare,Un.kept hk,⟨λ_=>MF,(Heap.Ns.new s.heap (.type "dict")).keeps (pushCells_keeps _ _),λi x v h1 h2 h3=>?_⟩,cellAt,I.hok.fresh (Ht _),λx c e=>?_,λp hp=>?_,I.hok.kept hk,?_⟩
 ·obtain⟨m,_,hl⟩:=id I.loc;have h2':(jm own fr σ)[i]?=MA (MA v):=h2;have hio:own<=i:=by
   unfold jm at h2';refine Nat.le_of_not_lt λhi=>?_;rw [HE (by simpa using hi),J6] at h2';split at h2' <;> cases h2'
  obtain⟨k,rfl⟩:=Nat.exists_eq_add_of_le hio;have h1':N[own+k]?=MA x:=h1;unfold jm at h2';rw [HL (by simp)] at h2';simp only [K2,Nat.add_sub_cancel_left,Ho] at h2';cases hj:fr[k]? with
  | none=>rw [hj] at h2';cases h2'
  | some j =>
   rw [hj] at h2';have h2'':(σ[j]?).getD MF=MA v:=ML h2';have hp:(x,j)∈(N.drop own).zip fr:=by
    refine Hu (i:=k) ?_;rw [List.getElem?_zip_eq_some];exact⟨by rw [List.getElem?_drop];exact h1',hj⟩
   obtain⟨f1,f2⟩:=S.frn _ hp;have hσ:σ[j]?=MA (MA v):=by
    cases q:σ[j]? with
    | none=>rw [q] at h2'';cases h2''
    | some w=>rw [q] at h2'';exact congrArg MA h2''
   have hxf:(x,NameKind.free)∈sc.names:=mem_of_lookup f2;have hko:=S.free _ hxf rfl;have hvis:Vis X.env.scope x:=by rw [hsc];exact .inr hko
   obtain⟨u,ru,q⟩:=hl j x v (by rw [hN];exact f1) hσ hvis;refine⟨u,ru,.inr ⟨?_,?_⟩⟩
   ·have e:(zm X sc N s H fp (X.pn++Mu)).env.kindOf x=MA _:=qW (env:=X.env) f2;rw [e];split
    ·exact .inl rfl
    ·exact .inr rfl
   ·rcases q with⟨k1,_⟩ | ⟨_,c,hc,z⟩
    ·have k1':X.env.scope.names.lookup x=MA .local:=k1;rw [hsc] at k1';rcases hko with z | z <;> rw [z] at k1' <;> cases k1'
    ·obtain⟨o,ho,hd⟩:=z;refine⟨c,?_,o,hk _ _ ho,hd⟩;have hcl:=aS hfree hxf hc;obtain⟨c',hc'⟩:=bX (names:=sc.names) (n:=s.heap.objs.size+1) (acc:=yl X.env sc.names []) (x:=x) (by rw [hcl];rfl);rcases hcase hc' with⟨_,z⟩ | ⟨z,_⟩
     ·have:=yx S.snd z;rw [f2] at this;cases this
     ·rw [hc] at z;cases z;exact hc'
 ·rcases hcase e with⟨q,_⟩ | ⟨q,_⟩
  ·exact I.hok.fresh (KR q)
  ·exact I.freeC x c q
 ·have hp':p∈X.pn++Mu:=by simpa [zm] using hp
  obtain⟨e,n,ne,nf,d⟩:=I.pin p hp';refine⟨hk _ _ e,n,HW (HD e),λz=>?_,d⟩;rcases Hv.mp (I.stkSub _ z) with q | q
  ·exact ne q
  ·exact nf q
 ·show (jm own fr σ).length=N.length;unfold jm;rw [S.len];simp
end
abbrev TB:=St->Hp->(St->Hp->Prop)->Prop
def PB (X:Cx) (act:Sem Unit) (t:TB):Prop :=
 ∀ (Mu:MT) (s:ME) (σ:St) (H:Hp) (Q:St->Hp->Prop),Inv X Mu σ H s->t σ H Q->HP (model X.prog X.w) X.A act (λ_ s'=>∃ σ' H',Inv X Mu σ' H' s'/\Q σ' H') X.xe s
def PTs (X:Cx) (ifs:MX) (t:TT):Prop :=
 ∀ (Mu:MT) (s:ME) (σ:St) (H:Hp) (Q:Bool->Hp->Prop),Inv X Mu σ H s->t σ H Q ->
  HP (model X.prog X.w) X.A (forIn ifs MC λc r=>if r=MC then do let ok <- isTrue c X.env (eval c X.env);pure (ForInStep.yield ok) else pure (ForInStep.yield r)) (TP X Mu σ Q) X.xe s
def xI:TT:=λ_ H Q=>Q MC H
theorem z8 {X:Cx}:PTs X [] xI:=λMu s σ H Q I h=>wpAny_tests_nil ⟨H,I,h⟩
theorem jj {X:Cx} {c:Expr} {t:TT} (hc:PT X c t):PTs X [c] t:=λMu s σ H Q I h=>wpAny_tests_one (hc Mu s σ H Q I h)
def eC (J:It) (g:TG) (tt:TT) (tb:TB):TB:=λσ H Q=>∃ W:Nat->Nat->St->Hp->Prop,(∃ m,W 0 m σ H)/\∀ i m σ H,W i m σ H ->
 (J.stop i H/\Q σ H) \/ (J.go i H/\∀ x H',J.yld i H x H'->g x σ H' λσ2 H2=>tt σ2 H2 λb H3=>if b=MC then tb σ2 H3 λσ' H'=>∃ m',m'<m/\W (i+1) m' σ' H' else ∃ m',m'<m/\W (i+1) m' σ2 H3)
section
variable {X:Cx} {Mu:MT} {s:ME} {σ:St} {H:Hp} {tg:Expr} {e:Expr} {d:Nat} {acc:MD} {ifs:MX} {g:TG} {tt:TT} {tb:TB} {act:Sem Unit} {pos:Pos}
theorem fU (hx:∀ e s,X.xe e s->False) (hc:X.calm=MC) (hg:PG X tg g) (ht:PTs X ifs tt) (hb:PB X act tb)
  (heq:∀ it,compTurn e d it acc X.env=(do
   standAt pos
   match <- pyNext it with
   | none=>pure (.done .next)
   | some v =>
    Jk tg it v
    assign tg X.env v
    let mut ok:=MC
    for c in ifs do
     if ok then ok <- isTrue c X.env (eval c X.env)
    if ok then
     act
    again (.compLoop e d it acc X.env)))
  (hqt:∀ it,(Code.compLoop e d it acc X.env).quiet=MC)
  (hden:∀ it,(model X.prog X.w).den (.compLoop e d it acc X.env)=(compTurn e d it acc X.env).onRaise (λx=>do noteFrame x X.env;theTreesLotGoes x))
  (hund:∀ it,X.A.under (.compLoop e d it acc X.env)=X.A)
  {it:Hm} {fp:MS} {tn:Nat->Heap->Prop} {J:It} {Q:St->Hp->Prop} {R:Result->ME->Prop} (I:Inv X Mu σ H s) (T:Turn X.prog X.w X.K tg J fp it tn) (st:tn 0 s.heap) (f:∀ b∈fp,bT X Mu H b)
  (h:eC J g tt tb σ H Q) (hR:∀ σ' H' s',Inv X Mu σ' H' s'->(∀ b∈fp,H' b=MF)->Q σ' H'->R (.ok .next) s'):codeAny (model X.prog X.w) X.A (.compLoop e d (.ref it) acc X.env) R s:=by
 obtain⟨W,⟨m0,w0⟩,turn⟩:=h;have stat:∀ {H':Hp},(∀ b∈fp,H' b=MF)->∀ b∈fp,bT X Mu H' b:=λhn b hb=>⟨hn b hb,(f b hb).2⟩;refine codeAny_loop (hqt _) (λn s'=>∃ i σ' H',Inv X Mu σ' H' s'/\tn i s'.heap/\(∀ b∈fp,H' b=MF)/\W i n σ' H') ?_ m0 ⟨0,σ,H,I,st,λb hb=>(f b hb).1,w0⟩;rintro n s3 ⟨i,σ3,H3,I3,st3,fr3,w3⟩;rw [hden,hund];refine wpAny_noted ?_;rw [heq];have nox:∀ e' s',X.xe e' s'->notedBy (model X.prog X.w) X.A X.env (λe s'=>R (.error e) s') e' s':=λe' s' z=>(hx e' s' z).elim;refine Hf (wpAny_standAt (Hf ?_));rcases turn i n σ3 H3 w3 with⟨stop,qn⟩ | ⟨go,step⟩
 ·refine Jt (T.done X rfl rfl rfl hc i Mu s3 σ3 H3 X.xe I3 (stat fr3) st3 stop) (λr s4 hr4=>?_) nox;obtain⟨hr,I4⟩:=hr4;subst hr;exact Hs (hR σ3 H3 s4 I4 fr3 qn)
 ·refine Jt (T.item X rfl rfl rfl hc i Mu s3 σ3 H3 X.xe I3 (stat fr3) st3 go) (λr s4 hr4=>?_) nox;obtain⟨u,hr,h4⟩:=hr4;subst hr;refine Hf (Jt h4 (λ_ s5 h5=>?_) nox);obtain⟨x,H5,I5,r5,y5,st5,fr5⟩:=h5;have I5':=I5.pinned (stat fr5) (T.obj _ _ st5);refine Hf (Jt (hg _ s5 σ3 H5 x u _ I5' r5 (step x H5 y5)) (λ_ s6 h6=>?_) nox);obtain⟨σ6,H6,I6,q6⟩:=h6;refine Hf (Jt (ht _ s6 σ6 H6 _ I6 q6) (λok s7 h7=>?_) nox);obtain⟨H7,I7,q7⟩:=h7;have again:∀ {σ7:St} {H7:Hp} {s7:ME},Inv X (Mu++fO fp s5.heap) σ7 H7 s7->(∃ m',m'<n/\W (i+1) m' σ7 H7)->∃ m,m<n/\∃ i σ' H',Inv X Mu σ' H' s7/\tn i s7.heap/\(∀ b∈fp,H' b=MF)/\W i m σ' H':=λ{σ7 H7 s7} I7 n7=>by
   obtain⟨m',hm,w7⟩:=n7;refine⟨m',hm,i+1,σ7,H7,I7.unpinned,T.keep _ _ _ st5 λb hb o e=>(I7.pin (b,o) (HJ _ (HJ _ (ag hb e)))).1,λb hb=>?_,w7⟩;obtain⟨o,e,d⟩:=T.obj _ _ st5 b hb;exact (I7.pin (b,o) (HJ _ (HJ _ (ag hb e)))).2.1
  cases ok with
  | false =>
   rw [Mv He] at q7;exact Hs ⟨rfl,again I7 q7⟩
  | true =>
   rw [Mw rfl] at q7;refine Hf (Jt (hb _ s7 σ6 H7 _ I7 q7) (λ_ s8 h8=>?_) nox);obtain⟨σ8,H8,I8,q8⟩:=h8;exact Hs ⟨rfl,again I8 q8⟩
theorem kA {D:Hm} {elt:Expr} {te:TE} (he:PE X elt te):PB X (do let _ <- call (.builtin "list.append") [.ref D,<- eval elt X.env]) (λσ H Q=>te σ H λy H1=>∃ xs,H1 D=MA (.lst xs)/\xs.length<Ir/\Q σ (upd H1 D (.lst (xs++[y])))):=by
 intro Mu s σ H Q I h;refine Hf (thn (he Mu s σ H _ I h) λv s1 h1=>?_);obtain⟨y,H1,I1,r1,xs,hD,hz,q⟩:=h1;obtain⟨z,its,n,r,hl,e⟩:=I1.lstM hD;refine Hf ?_;refine call_meets F.slot_list_append ⟨_,e,rfl⟩ Mj (Mb _ _) (PySem.list_append D its.toArray n v (by rw [HG];omega)) ⟨e,?_⟩;refine Hs ⟨σ,_,I1.lset (its':=its++[v]) hD e (by simp) (r.append (.cons r1 .nil)) ?_,q⟩;rw [HA,Iz];omega
theorem eD {M:Model} {A:MJ} {E:MD->ME->Prop} {sc:Scope} {gl:Hm} {cl:M7} {qual:Str} {env:Env} {Q:Env->ME->Prop} {s:ME}
  (h:Q { scope:=sc,locals:=s.heap.objs.size,globals:=gl,cells:=cellsFrom (s.heap.objs.size+1) sc.names cl,qual:=qual,func:=MF,code:=env.code,frame:=env.frame,builtins:=env.builtins } { s with heap:=pushCells (s.heap.push { cls:=.type "dict",data:=.dict #[] }) sc.names }) :
  HP M A (newFunctionEnv sc gl cl [] qual MF .none (MA env)) Q E s:=by
 simp only [newFunctionEnv,Option.isSome_some,if_true];refine Hf (wpAny_alloc ?_);refine Hf (wpAny_layCells _ (λname kind cells=>by cases hkc:kind == NameKind.cell <;> simp [hkc]) _ _ _ _ ?_);rw [show ({ s with heap:=s.heap.push { cls:=.type "dict",data:=.dict #[] } }:ME).heap.objs.size=s.heap.objs.size+1 from KU ..];refine Hf ?_;rw [Kq];exact Hs (Hs h)
theorem comp_back {sc:Scope} {N:MU} {fp:MS} {σ':St} {H':Hp} {s':ME} {h':Heap} (I:Inv X Mu σ H s) (hf:∀ b∈fp,bT X Mu H b) (J:Inv (zm X sc N s H fp (X.pn++Mu)) [] σ' H' s') (hs:JS s.heap.objs.size s'.heap h') :
  Inv X Mu σ H' { s' with heap:=h' }:=by
 have u:Un (frs X.stack) fp H H' s.heap s'.heap:=J.base;have ne:∀ b o,s.heap.get? b=MA o->b≠s.heap.objs.size:=λb o e=>HW (HD e);have hfree:H' s.heap.objs.size=MF:=J.free;refine I.call' (s':={ s' with heap:=h' }) (ch:=fp) J.os ⟨λb o e n h1 h2=>(hs.2 b (ne b o e)).trans (u.keep b o e n h1 h2),λb o e n h1 h2=>?_,u.free,λb o e h2=>?_,u.tups,u.frzs,u.tbls⟩ (λa o e=>?_) J.bare λb hb=>?_
 ·obtain⟨sl,q⟩:=u.slot b o e n h1 h2;exact⟨sl,(hs.2 b (ne b o e)).trans q⟩
 ·obtain⟨o',q⟩:=u.there b o e h2;exact⟨o',(hs.2 b (ne b o e)).trans q⟩
 ·refine (J.hok a o e).stay (λc v hc q=>(hs.2 c ?_).trans q) (λ_ q=>q) λ_ _ q=>q;intro z;subst z;rcases hc with hc | hc
  ·rw [<-hc] at e;rw [hfree] at e;cases e
  ·rw [hfree] at hc;cases hc
 ·exact⟨(hf b hb).2.2.2.1,(hf b hb).2.1,(hf b hb).2.2.2.2⟩
end
def aL (D:Hm) (te:TE):TB:=λσ H Q=>te σ H λy H1=>∃ xs,H1 D=MA (.lst xs)/\xs.length<Ir/\Q σ (upd H1 D (.lst (xs++[y])))
def qE (wi:TI) (own:Nat) (fr:M8) (g:TG) (tt:TT) (tb:Hm->TB):TE:=λσ H Q=>wi σ H λJ H1=>∀ D,H1 D=MF ->
 eC J g tt (tb D) (jm own fr σ) (upd H1 D (.lst [])) λ_ H2=>Q (.ref D) H2
section
variable {X:Cx} {Mu:MT} {s:ME} {σ:St} {H:Hp} {tg elt iter:Expr} {ifs:MX} {rest:List Comprehension} {sc scO:Scope} {NO N:MU} {own:Nat} {fr:M8} {wi:TI} {g:TG} {tt:TT} {tb:Hm->TB} {pos:Pos}
theorem mK {RR:MD->Hm->Result->ME->Prop} {it:Hm} {fp:MS} {tn:Nat->Heap->Prop} {J:It} {Q:VK} (S:CompScope NO scO N sc own fr) (hN:X.N=NO) (hsc:X.env.scope=scO) (hc:X.calm=MC)
  (hg:∀ s₀ H₀ ex pn,PG (zm X sc N s₀ H₀ ex pn) tg g) (ht:∀ s₀ H₀ ex pn,PTs (zm X sc N s₀ H₀ ex pn) ifs tt)
  (hb:∀ D s₀ H₀ ex pn,∃ act,PB (zm X sc N s₀ H₀ ex pn) act (tb D)/\∀ it,compTurn (.ListComp elt (⟨tg,iter,ifs,0⟩ :: rest) sc pos) 0 it (.ref D) (zm X sc N s₀ H₀ ex pn).env=(do
   standAt iter.pos
   match <- pyNext it with
   | none=>pure (.done .next)
   | some v =>
    Jk tg it v
    assign tg (zm X sc N s₀ H₀ ex pn).env v
    let mut ok:=MC
    for c in ifs do
     if ok then ok <- isTrue c (zm X sc N s₀ H₀ ex pn).env (eval c (zm X sc N s₀ H₀ ex pn).env)
    if ok then
     act
    again (.compLoop (.ListComp elt (⟨tg,iter,ifs,0⟩ :: rest) sc pos) 0 it (.ref D) (zm X sc N s₀ H₀ ex pn).env)))
  (I:Inv X Mu σ H s) (T:Turn X.prog X.w X.K tg J fp it tn) (st:tn 0 s.heap) (f:∀ b∈fp,bT X Mu H b)
  (h:∀ D,H D=MF->eC J g tt (tb D) (jm own fr σ) (upd H D (.lst [])) λ_ H2=>Q (.ref D) H2)
  (hRR:∀ (D C:Hm) (s':ME) (H':Hp),(∃ m,s'.heap.Ns C m)->C≠X.env.locals->(∀ x c,X.env.cells.lookup x=MA c->c≠C)->H' C=MF->X.s₀.heap.objs.size<=C->(∀ p∈X.pn++Mu,p.1≠C)->Inv X Mu σ H' s'->Q (.ref D) H'->RR (.ref D) C (.ok .next) s') :
  HP (model X.prog X.w) X.A (newList []) (λacc s₃=>HP (model X.prog X.w) X.A (newFunctionEnv sc X.env.globals (yl X.env sc.names []) [] X.env.qual MF .none (MA X.env)) (λcenv s₄ =>
   codeAny (model X.prog X.w) X.A (.compStart (.ListComp elt (⟨tg,iter,ifs,0⟩ :: rest) sc pos) 0 (.ref it) acc { cenv with scope:=relabel sc X.env }) (RR acc cenv.locals) s₄) X.xe s₃) X.xe s:=by
 refine wpAny_newObj_type (eD ?_);have fpsz:∀ b∈fp,b<s.heap.objs.size:=λb hb=>by
  obtain⟨o,e,_⟩:=T.obj _ _ st b hb;exact HD e
 have I3:=I.lnew (its:=[]) (ys:=[]) (t':=s.toks) .nil (HR _);have f3:∀ b∈fp,bT X Mu (upd H s.heap.objs.size (.lst [])) b:=λb hb=>⟨by rw [zz (HW (fpsz b hb))];exact (f b hb).1,(f b hb).2⟩;have st3:tn 0 (s.heap.push { cls:=.type "list",data:=.seq ([]:MQ).toArray }):=T.keep _ _ _ st λb _ o e=>Hr _ e;have I4:=mJ (tk:=s.toks) S hN hsc I3 f3 (T.obj _ _ st3);obtain⟨act,pb,heq⟩:=hb s.heap.objs.size _ _ _ _;have st4:=T.keep _ _ (pushCells ((s.heap.push { cls:=.type "list",data:=.seq ([]:MQ).toArray }).push { cls:=.type "dict",data:=.dict #[] }) sc.names) st3 λb _ o e=>pushCells_keeps _ _ _ _ (Hr _ e);have cells_lt:∀ x c,X.env.cells.lookup x=MA c->c<s.heap.objs.size:=λx c e=>by
  obtain⟨v,o,ho,hd⟩:=I.cell x c e;exact HD ho
 have esz:(s.heap.push { cls:=.type "list",data:=.seq ([]:MQ).toArray }).objs.size=s.heap.objs.size+1:=KU ..;have loop:=fU (X:=zm X sc N { s with heap:=s.heap.push { cls:=.type "list",data:=.seq ([]:MQ).toArray } } (upd H s.heap.objs.size (.lst [])) fp (X.pn++Mu)) (R:=RR (.ref s.heap.objs.size) (s.heap.push { cls:=.type "list",data:=.seq ([]:MQ).toArray }).objs.size) (λ_ _ z=>z) hc (hg _ _ _ _) (ht _ _ _ _) pb heq (λ_=>rfl) (λ_=>rfl) (λ_=>rfl) I4 T st4
  (λb hb=>⟨(f3 b hb).1,I4.ok.exf b hb |>.1,I4.ok.exfs b hb,.inl hb,I4.ok.exf b hb |>.2,λp hp=>by
   have hp':p∈X.pn++Mu:=by simpa [zm] using hp
   exact (f b hb).2.2.2.2.2 p hp'⟩) (h _ I.fresh)
  (λσ' H' s' J' fr' q'=>hRR _ _ s' H' (let⟨m,hm,_⟩:=J'.loc;⟨m,hm⟩) (by rw [esz];exact KP (IU I.lt)) (λx c e=>by rw [esz];exact HW (IU (cells_lt x c e))) J'.free (by rw [esz];exact Nat.le_succ_of_le I.sz) (λp hp=>by rw [esz];exact HW (IU (HD (I.pin p hp).1))) (comp_back (h':=s'.heap) I3 f3 J' (Heap.SameBut.refl ..)) q')
 exact codeAny_compStart_list loop (T.self X.A 0 _ _ _ st4 loop)
theorem Inv.touch {C:Hm} {h':Heap} (I:Inv X Mu σ H s) (hs:JS C s.heap h') (hn:H C=MF) (h0:C≠X.env.locals) (h1:∀ x c,X.env.cells.lookup x=MA c->c≠C) (h2:X.s₀.heap.objs.size<=C) (h3:∀ p∈X.pn++Mu,p.1≠C) :
  Inv X Mu σ H { s with heap:=h' } :=
 I.turned (t':=s.toks) (λb o hb e=>(hs.2 b hb).trans e) hn h0 (.inr h2) h1 h3
theorem hX {prog:MI} {w:MH} {A:MJ} {R:Result->ME->Prop} {s:ME} {elt':Expr} {g0:Comprehension} {tg' it':Expr} {ifs':MX} {sc':Scope} {pos':Pos} {itv acc:MD} {env:Env}
  (here:codeAny (model prog w) A (.compLoop (.ListComp elt' [g0,⟨tg',it',ifs',0⟩] sc' pos') 1 itv acc env) R s)
  (once:HP (model prog w) A (pyIter itv) (λj s1=>codeAny (model prog w) A (.compLoop (.ListComp elt' [g0,⟨tg',it',ifs',0⟩] sc' pos') 1 j acc env) R s1) (notedBy (model prog w) A env λx s1=>R (.error x) s1) s) :
  codeAny (model prog w) A (.compStart (.ListComp elt' [g0,⟨tg',it',ifs',0⟩] sc' pos') 1 itv acc env) R s:=by
 apply codeAny_of_tree;show HP _ _ ((compStart (.ListComp elt' [g0,⟨tg',it',ifs',0⟩] sc' pos') 1 itv acc env).onRaise (λz=>do noteFrame z env;standAt theWindowsPlace)) _ _ s;apply wpAny_notedAt;unfold compStart;show HP _ _ (ask >>= _) _ _ s;apply Hf;apply wpAny_askSetting;apply wpAny_ite;split
 ·first
   | exact Hf (Hs (Hs (And.intro rfl here)))
   | exact Hs (And.intro rfl here)
 ·apply Hf;apply wpAny_rule;show HP _ _ (standAt it'.pos >>= _) _ _ s;exact Hf (wpAny_standAt (Hf (Jt once (λj s1 q=>Hs (And.intro rfl q)) λ_ _ z=>z)))
section
variable {elt2:Expr} {te:TE} {tg2 iter2:Expr} {ifs2:MX} {wi2:TI} {g2:TG} {tt2:TT} {tb2:TB} {y:Str} {i:Nat} {py spos:Pos}
def tIn (wi2:TI) (g2:TG) (tt2:TT) (tb2:TB):TB:=λσ H Q=>wi2 σ H λJ H1=>eC J g2 tt2 tb2 σ H1 Q
theorem DH {D:Hm} (hx:∀ e s,X.xe e s->False) (hc:X.calm=MC) (hi:PI X tg2 iter2 wi2) (hg:PG X tg2 g2) (ht:PTs X ifs2 tt2) (he:PE X elt te)
  (hs:∀ x,IG iter2 X.env x=pure x) :
  PB X (do
   let x <- eval iter2 X.env
   standAt iter2.pos
   let x <- IG iter2 X.env x
   let _ <- runOwn (.compStart (.ListComp elt [⟨tg,iter,ifs,0⟩,⟨tg2,iter2,ifs2,0⟩] sc pos) 1 (<- holding [x] (pyIter x)) (.ref D) X.env) X.env) (tIn wi2 g2 tt2 (aL D te)):=by
 intro Mu s σ H Q I h;refine Hf (thn (hi Mu s σ H _ I h) λv s1 h1=>?_);refine Hf (wpAny_standAt ?_);refine Hf (wpAny_of_eq (hs v) ?_);refine Hf (Ik (thn h1 λitv s2 h2=>?_));obtain⟨it,fp,tn,J,H2,e,I2,T,st2,f2,q⟩:=h2;subst e;refine Hf (wpAny_runOwn ?_);have loop:=fU (e:=.ListComp elt [⟨tg,iter,ifs,0⟩,⟨tg2,iter2,ifs2,0⟩] sc pos) (d:=1) (pos:=iter2.pos)
  (R:=λr s'=>match r with | .ok f=>HP (model X.prog X.w) X.A (pure ()) (λ_ s'=>∃ σ' H',Inv X Mu σ' H' s'/\Q σ' H') X.xe s' | .error e=>cameBackBy (model X.prog X.w) X.A X.env X.xe e s')
  hx hc hg ht (kA (D:=D) he) (λ_=>rfl) (λ_=>rfl) (λ_=>rfl) (λ_=>rfl) I2 T st2 f2 q (λσ' H' s' J' _ q'=>Hs ⟨σ',H',J',q'⟩)
 exact hX loop (T.self X.A 0 _ _ _ st2 loop)
theorem kB (S:CompScope NO scO N sc own fr) (hsc:X.env.scope=scO) (ok:X.Ok):closureFor sc X.env=pure (yl X.env sc.names []) :=
 cj λx hx=>ok.has x (by
  show X.env.scope.names.lookup x=_ \/ X.env.scope.names.lookup x=_;rw [hsc];exact S.free _ hx rfl)
theorem sP (S:CompScope NO scO N sc own fr) (hc:X.calm=MC) (hi:PI X tg iter wi) (hg:∀ s₀ H₀ ex pn,PG (zm X sc N s₀ H₀ ex pn) tg g) (ht:∀ s₀ H₀ ex pn,PTs (zm X sc N s₀ H₀ ex pn) ifs tt)
  (hb:∀ D s₀ H₀ ex pn,∃ act,PB (zm X sc N s₀ H₀ ex pn) act (tb D)/\∀ it,compTurn (.ListComp elt (⟨tg,iter,ifs,0⟩ :: rest) sc pos) 0 it (.ref D) (zm X sc N s₀ H₀ ex pn).env=(do
   standAt iter.pos
   match <- pyNext it with
   | none=>pure (.done .next)
   | some v =>
    Jk tg it v
    assign tg (zm X sc N s₀ H₀ ex pn).env v
    let mut ok:=MC
    for c in ifs do
     if ok then ok <- isTrue c (zm X sc N s₀ H₀ ex pn).env (eval c (zm X sc N s₀ H₀ ex pn).env)
    if ok then
     act
    again (.compLoop (.ListComp elt (⟨tg,iter,ifs,0⟩ :: rest) sc pos) 0 it (.ref D) (zm X sc N s₀ H₀ ex pn).env)))
  (hN:X.N=NO) (hsc:X.env.scope=scO) (hs:∀ x,IG iter X.env x=pure x) :
  PE X (.ListComp elt (⟨tg,iter,ifs,0⟩ :: rest) sc pos) (qE wi own fr g tt tb):=by
 intro Mu s σ H Q I h;rw [eval_ListComp];refine wpAny_comprehension_free (use:=MF) rfl hs (kB S hsc I.ok) S.kind (λp hp hl=>yx S.snd (k:=.local) (by rw [<-hl];exact hp)) (thn (hi Mu s σ H _ I h) λv s1 h1=>thn h1 λitv s2 h2=>?_);obtain⟨it,fp,tn,J,H2,e,I2,T,st2,f2,q⟩:=h2;subst e;refine mK (RR:=λacc C=>compPost (model X.prog X.w) X.A X.xe MF (EP X Mu σ Q) acc C) S hN hsc hc hg ht hb I2 T st2 f2 q ?_;rintro D C s' H' ⟨m,hm⟩ c0 c1 c2 c3 c4 J' q';exact⟨m,hm,λh' hs'=>⟨.ref D,H',J'.touch hs' c2 c0 c1 c3 c4,rfl,q'⟩⟩
theorem fV (S:CompScope NO scO N sc own fr) (hc:X.calm=MC) (hNd:X.N.Nodup) (hiN:X.N[i]?=MA y) (hy:Loc X.env.scope y) (hi:PI X tg iter wi) (hg:∀ s₀ H₀ ex pn,PG (zm X sc N s₀ H₀ ex pn) tg g) (ht:∀ s₀ H₀ ex pn,PTs (zm X sc N s₀ H₀ ex pn) ifs tt)
  (hb:∀ D s₀ H₀ ex pn,∃ act,PB (zm X sc N s₀ H₀ ex pn) act (tb D)/\∀ it,compTurn (.ListComp elt (⟨tg,iter,ifs,0⟩ :: rest) sc pos) 0 it (.ref D) (zm X sc N s₀ H₀ ex pn).env=(do
   standAt iter.pos
   match <- pyNext it with
   | none=>pure (.done .next)
   | some v =>
    Jk tg it v
    assign tg (zm X sc N s₀ H₀ ex pn).env v
    let mut ok:=MC
    for c in ifs do
     if ok then ok <- isTrue c (zm X sc N s₀ H₀ ex pn).env (eval c (zm X sc N s₀ H₀ ex pn).env)
    if ok then
     act
    again (.compLoop (.ListComp elt (⟨tg,iter,ifs,0⟩ :: rest) sc pos) 0 it (.ref D) (zm X sc N s₀ H₀ ex pn).env)))
  (hN:X.N=NO) (hsc:X.env.scope=scO) (hs:∀ x,IG iter X.env x=pure x) (hf:X.fn y=MC \/ X.env.scope.names.lookup y=MA .local)
  (hsw:swapsWith (.ListComp elt (⟨tg,iter,ifs,0⟩ :: rest) sc pos) (MA (.Name y py)) spos.line X.env=pure MC) :
  PS X (.Assign [.Name y py] (.ListComp elt (⟨tg,iter,ifs,0⟩ :: rest) sc pos) spos) (vP (qE wi own fr g tt tb) (jA i)):=by
 intro Mu s σ H D I h;rw [exec_Assign_Name_used _ _ _ _ hsw];refine Hf (wpAny_standAt (Hf ?_));show HP _ X.A (do let _ <- comprehension (.ListComp elt (⟨tg,iter,ifs,0⟩ :: rest) sc pos) sc X.env _ (newList []) MG (eval iter X.env) (MA (assign (.Name y py) X.env))) _ _ s;refine Hf (Jt (wpAny_comprehension_free (use:=MA (assign (.Name y py) X.env)) (Q:=λ_ s'=>SP X Mu D .next s') rfl hs (kB S hsc I.ok) S.kind (λp hp hl=>yx S.snd (k:=.local) (by rw [<-hl];exact hp))
  (thn (hi Mu s σ H _ I h) λv s1 h1=>thn h1 λitv s2 h2=>?_)) (λ_ s' hq=>Hs (Hs hq)) λ_ _ e=>e)
 obtain⟨it,fp,tn,J,H2,e,I2,T,st2,f2,q⟩:=h2;subst e;refine mK (Q:=λx H1=>jA i x σ H1 D.nx) (RR:=λacc C=>compPost (model X.prog X.w) X.A X.xe (MA (assign (.Name y py) X.env)) (λ_ s'=>SP X Mu D .next s') acc C) S hN hsc hc hg ht hb I2 T st2 f2 q ?_;rintro A' C s' H' ⟨m,hm⟩ c0 c1 c2 c3 c4 J' q';show HP _ X.A (assign (.Name y py) X.env (.ref A')) _ _ _;refine wpAny_assign_Name (ij (v:=.ref A') J' hNd hiN hy rfl (λs2' I2' hsb=>?_) hf);obtain⟨a,hs2,ha⟩:=hsb;have hCa:C≠a:=by
  rcases ha with ha | ha
  ·rw [ha];exact c0
  ·exact Jc (c1 _ _ ha)
 exact⟨m,hm.sameBut hs2 hCa,λh' hs'=>⟨_,H',I2'.touch hs' c2 c0 c1 c3 c4,q'⟩⟩
end
end
section
variable {X:Cx} {tg elt iter tg2 iter2:Expr} {ifs ifs2:MX} {sc scO:Scope} {NO N:MU} {own:Nat} {fr:M8} {wi wi2:TI} {g g2:TG} {tt tt2:TT} {te:TE} {pos py spos:Pos} {y:Str} {i:Nat}
theorem z6 (S:CompScope NO scO N sc own fr) (hc:X.calm=MC) (hi:PI X tg iter wi) (hg:∀ s₀ H₀ ex pn,PG (zm X sc N s₀ H₀ ex pn) tg g) (ht:∀ s₀ H₀ ex pn,PTs (zm X sc N s₀ H₀ ex pn) ifs tt) (he:∀ s₀ H₀ ex pn,PE (zm X sc N s₀ H₀ ex pn) elt te)
  (hN:X.N=NO) (hsc:X.env.scope=scO) (hs:∀ x,IG iter X.env x=pure x):PE X (.ListComp elt [⟨tg,iter,ifs,0⟩] sc pos) (qE wi own fr g tt λD=>aL D te) :=
 sP S hc hi hg ht (λD s₀ H₀ ex pn=>⟨_,kA (D:=D) (he s₀ H₀ ex pn),λ_=>rfl⟩) hN hsc hs
theorem y3 (S:CompScope NO scO N sc own fr) (hc:X.calm=MC) (hNd:X.N.Nodup) (hiN:X.N[i]?=MA y) (hy:Loc X.env.scope y) (hi:PI X tg iter wi) (hg:∀ s₀ H₀ ex pn,PG (zm X sc N s₀ H₀ ex pn) tg g) (ht:∀ s₀ H₀ ex pn,PTs (zm X sc N s₀ H₀ ex pn) ifs tt) (he:∀ s₀ H₀ ex pn,PE (zm X sc N s₀ H₀ ex pn) elt te)
  (hN:X.N=NO) (hsc:X.env.scope=scO) (hs:∀ x,IG iter X.env x=pure x) (hf:X.fn y=MC \/ X.env.scope.names.lookup y=MA .local)
  (hsw:swapsWith (.ListComp elt [⟨tg,iter,ifs,0⟩] sc pos) (MA (.Name y py)) spos.line X.env=pure MC) :
  PS X (.Assign [.Name y py] (.ListComp elt [⟨tg,iter,ifs,0⟩] sc pos) spos) (vP (qE wi own fr g tt λD=>aL D te) (jA i)) :=
 fV S hc hNd hiN hy hi hg ht (λD s₀ H₀ ex pn=>⟨_,kA (D:=D) (he s₀ H₀ ex pn),λ_=>rfl⟩) hN hsc hs hf hsw
end
theorem mL {elt tg iter tg2 iter2:Expr} {ifs ifs2:MX} {sc:Scope} {pos:Pos} {it acc:MD} {env:Env} :
  compTurn (.ListComp elt [⟨tg,iter,ifs,0⟩,⟨tg2,iter2,ifs2,0⟩] sc pos) 0 it acc env=(do
   standAt iter.pos
   match <- pyNext it with
   | none=>pure (.done .next)
   | some v =>
    Jk tg it v
    assign tg env v
    let mut ok:=MC
    for c in ifs do
     if ok then ok <- isTrue c env (eval c env)
    if ok then
     (do
      let x <- eval iter2 env
      standAt iter2.pos
      let x <- IG iter2 env x
      let _ <- runOwn (.compStart (.ListComp elt [⟨tg,iter,ifs,0⟩,⟨tg2,iter2,ifs2,0⟩] sc pos) 1 (<- holding [x] (pyIter x)) acc env) env)
    again (.compLoop (.ListComp elt [⟨tg,iter,ifs,0⟩,⟨tg2,iter2,ifs2,0⟩] sc pos) 0 it acc env)):=by
 unfold compTurn;simp only [bind_assoc,pure_bind];rfl
section
variable {X:Cx} {tg elt iter tg2 iter2:Expr} {ifs ifs2:MX} {sc scO:Scope} {NO N:MU} {own:Nat} {fr:M8} {wi wi2:TI} {g g2:TG} {tt tt2:TT} {te:TE} {pos py spos:Pos} {y:Str} {i:Nat}
theorem fW (S:CompScope NO scO N sc own fr) (hc:X.calm=MC) (hi:PI X tg iter wi) (hg:∀ s₀ H₀ ex pn,PG (zm X sc N s₀ H₀ ex pn) tg g) (ht:∀ s₀ H₀ ex pn,PTs (zm X sc N s₀ H₀ ex pn) ifs tt)
  (hi2:∀ s₀ H₀ ex pn,PI (zm X sc N s₀ H₀ ex pn) tg2 iter2 wi2) (hg2:∀ s₀ H₀ ex pn,PG (zm X sc N s₀ H₀ ex pn) tg2 g2) (ht2:∀ s₀ H₀ ex pn,PTs (zm X sc N s₀ H₀ ex pn) ifs2 tt2)
  (he:∀ s₀ H₀ ex pn,PE (zm X sc N s₀ H₀ ex pn) elt te) (hN:X.N=NO) (hsc:X.env.scope=scO) (hs:∀ x,IG iter X.env x=pure x) (hs2:∀ s₀ H₀ ex pn x,IG iter2 (zm X sc N s₀ H₀ ex pn).env x=pure x) :
  PE X (.ListComp elt [⟨tg,iter,ifs,0⟩,⟨tg2,iter2,ifs2,0⟩] sc pos) (qE wi own fr g tt λD=>tIn wi2 g2 tt2 (aL D te)) :=
 sP S hc hi hg ht (λD s₀ H₀ ex pn=>⟨_,DH (D:=D) (λ_ _ z=>z) hc (hi2 s₀ H₀ ex pn) (hg2 s₀ H₀ ex pn) (ht2 s₀ H₀ ex pn) (he s₀ H₀ ex pn) (hs2 s₀ H₀ ex pn),λit=>mL⟩) hN hsc hs
theorem mO (S:CompScope NO scO N sc own fr) (hc:X.calm=MC) (hNd:X.N.Nodup) (hiN:X.N[i]?=MA y) (hy:Loc X.env.scope y) (hi:PI X tg iter wi) (hg:∀ s₀ H₀ ex pn,PG (zm X sc N s₀ H₀ ex pn) tg g) (ht:∀ s₀ H₀ ex pn,PTs (zm X sc N s₀ H₀ ex pn) ifs tt)
  (hi2:∀ s₀ H₀ ex pn,PI (zm X sc N s₀ H₀ ex pn) tg2 iter2 wi2) (hg2:∀ s₀ H₀ ex pn,PG (zm X sc N s₀ H₀ ex pn) tg2 g2) (ht2:∀ s₀ H₀ ex pn,PTs (zm X sc N s₀ H₀ ex pn) ifs2 tt2)
  (he:∀ s₀ H₀ ex pn,PE (zm X sc N s₀ H₀ ex pn) elt te) (hN:X.N=NO) (hsc:X.env.scope=scO) (hs:∀ x,IG iter X.env x=pure x) (hs2:∀ s₀ H₀ ex pn x,IG iter2 (zm X sc N s₀ H₀ ex pn).env x=pure x)
  (hf:X.fn y=MC \/ X.env.scope.names.lookup y=MA .local)
  (hsw:swapsWith (.ListComp elt [⟨tg,iter,ifs,0⟩,⟨tg2,iter2,ifs2,0⟩] sc pos) (MA (.Name y py)) spos.line X.env=pure MC) :
  PS X (.Assign [.Name y py] (.ListComp elt [⟨tg,iter,ifs,0⟩,⟨tg2,iter2,ifs2,0⟩] sc pos) spos) (vP (qE wi own fr g tt λD=>tIn wi2 g2 tt2 (aL D te)) (jA i)) :=
 fV S hc hNd hiN hy hi hg ht (λD s₀ H₀ ex pn=>⟨_,DH (D:=D) (λ_ _ z=>z) hc (hi2 s₀ H₀ ex pn) (hg2 s₀ H₀ ex pn) (ht2 s₀ H₀ ex pn) (he s₀ H₀ ex pn) (hs2 s₀ H₀ ex pn),λit=>mL⟩) hN hsc hs hf hsw
end
section
variable {X:Cx} {Mu:MT} {σ:St} {H:Hp} {s:ME} {h':Heap} {fp:MS}
theorem Inv.turnedAll {t':Nat} (I:Inv X Mu σ H s) (hf:∀ b∈fp,bT X Mu H b) (k:∀ b o,b∉fp->s.heap.get? b=MA o->h'.get? b=MA o):Inv X Mu σ H { s with heap:=h',toks:=t' }:=by
 refine I.step (g':=s.gens) (d':=s.drawn) (ch:=fp) (λb hb=>⟨(hf b hb).2.2.2.1,(hf b hb).2.1,(hf b hb).2.2.2.2⟩) (λb o _ _ hc e _=>k b o hc e) (λb o _ _ hc e _=>⟨o.slots,k b o hc e⟩) (λ_ _ _ _ n=>n)
  (λb o hc e=>⟨o,k b o hc e⟩) (λ_ _ e=>e) (λ_ _ _ e=>e) (λ_ _ e=>e) (λm hm=>?_) (λb u e=>?_) I.bare
 ·obtain⟨o,es,ep,ho,r⟩:=hm;exact⟨o,es,ep,k _ o (λz=>(hf _ z).2.1 rfl) ho,r⟩
 ·refine (I.hok b u e).stay (λc v hc q=>k c v (λz=>?_) q) (λ_ q=>q) λ_ _ q=>q;have hn:=(hf c z).1;rcases hc with hc | hc
  ·subst hc;rw [e] at hn;cases hn
  ·rw [hc] at hn;cases hn
theorem Inv.turnedNew {t':Nat} {t:Hm} {o:HO} (I:Inv X Mu σ H s) (hf:∀ b∈fp,bT X Mu H b) (k:∀ b o,b∉fp->s.heap.get? b=MA o->h'.get? b=MA o) (ht:s.heap.objs.size<=t) (new:ObjOk X.prog X.w (upd H t o) h' t o) :
  Inv X Mu σ (upd H t o) { s with heap:=h',toks:=t' }:=by
 have hn:H t=MF:=I.hok.fresh ht;have ne:∀ b ob,s.heap.get? b=MA ob->b≠t:=λb ob e=>HW (HZ (HD e) ht);refine I.step (g':=s.gens) (d':=s.drawn) (ch:=fp) (λb hb=>⟨(hf b hb).2.2.2.1,(hf b hb).2.1,(hf b hb).2.2.2.2⟩) (λb o _ _ hc e _=>k b o hc e) (λb o _ _ hc e _=>⟨o.slots,k b o hc e⟩) (λb ob _ e n=>by rw [zz (ne b ob e)];exact n)
  (λb o hc e=>⟨o,k b o hc e⟩) (λb xs e=>by rw [zz (zQ e hn)];exact e) (λb ob u e=>by rw [zz (zQ e hn)];exact e) (λb ps e=>by rw [zz (zQ e hn)];exact e) (λm hm=>?_) (λb u e=>?_) I.bare
 ·obtain⟨o,es,ep,ho,r⟩:=hm;exact⟨o,es,ep,k _ o (λz=>(hf _ z).2.1 rfl) ho,r⟩
 ·by_cases hb:b=t
  ·subst hb;rw [zw] at e;cases e;exact new
  ·rw [zz hb] at e;refine (I.hok b u e).stay (λc v hc q=>k c v (λz=>?_) q) (λc q=>by rw [zz (zQ q hn)];exact q) λc xs q=>by rw [zz (zQ q hn)];exact q
   have hn':=(hf c z).1;rcases hc with hc | hc
   ·subst hc;rw [e] at hn';cases hn'
   ·rw [hc] at hn';cases hn'
end
noncomputable def Ite (K:Hj) (a:Hm):It :=
 ⟨λi H=>∃ xs x,SqL K H a xs/\xs[i]?=MA x,λi H x H'=>∃ t y,x=.ref t/\H t=MF/\H'=upd H t (.tup [.int i,y])/\∀ xs,SqL K H a xs->xs[i]?=MA y,λi H=>∃ xs,SqL K H a xs/\xs.length<=i⟩
theorem uU {P:MI} {w:MH} {K:Hj} {es:MX} {k:Nat} {pos:Pos} (a e it:Hm) (hne:e≠it):Turn P w K (.Tuple es k pos) (Ite K a) [e,it] e (λi h=>(∃ old,IsEnum h e it i old)/\h.IsListIter it a i) where
 mem:=by simp
 obj:=λi h st b hb=>by
  obtain⟨⟨old,se⟩,o,eo,c,d⟩:=st;rcases Hv.mp hb with z | z
  ·subst z;exact⟨_,se,λv z=>by
    have z':Data.fields _=Data.cell v:=z;cases z'⟩
  ·have z:b=it:=by simpa using z
   subst z;exact⟨o,eo,λv z=>by rw [d] at z;cases z⟩
 keep:=λi h h' st kk=>⟨let⟨old,se⟩:=st.1;⟨old,kk e (by simp) _ se⟩,st.2.at λo eo=>kk it (by simp) o eo⟩
 item:=by
  intro X hP hw hK hc i Mu s σ H E I hf st hg;subst hP hw hK;obtain⟨xs,x,hq,hx⟩:=hg;obtain⟨its,rv,p,hz⟩:=I.list hq;obtain⟨u,hu,ru⟩:=rv.get hx;obtain⟨⟨old,se⟩,si⟩:=st;refine wpAny_pyNext_enum_item se si p.isList (x:=u) (by simpa using hu) hne λh' so si' tp sz kp=>?_;refine⟨_,rfl,?_⟩;refine wpAny_letOwnedTupleGo_enum (s:={ s with heap:=h',toks:=s.toks+1 }) so λh2 se2 sb=>?_;have hlt:e<s.heap.objs.size:=HD se;obtain⟨oi,eoi,_,_⟩:=id si;have hlt2:it<s.heap.objs.size:=HD eoi;have kk:∀ b o,b∉[e,it]->s.heap.get? b=MA o->h2.get? b=MA o:=λb o hb eb=>by
   have h1:b≠e:=λz=>hb (by simp [z]);have h2':b≠it:=λz=>hb (by simp [z]);exact (sb.2 b h1).trans (kp b o h1 h2' eb)
  have I2:Inv X Mu σ (upd H s.heap.objs.size (.tup [.int i,x])) { s with heap:=h2,toks:=s.toks+1 }:=I.turnedNew hf kk (Ht _)
   ⟨by show 2<=Ir;decide,[.int i s.toks,u],.cons ⟨_,rfl⟩ (.cons ru .nil),⟨_,(sb.2 _ (KP hlt)).trans tp,rfl,_,rfl⟩⟩
  refine⟨.ref s.heap.objs.size,_,I2,rfl,⟨_,x,rfl,I.fresh,rfl,λys hy=>by rw [I.list_inj hy hq];exact hx⟩,⟨⟨_,se2⟩,?_⟩,λb hb=>?_⟩
  ·exact si'.at λo eo=>(sb.2 it (Jc hne)).trans eo
  ·rw [zz]
   ·exact (hf b hb).1
   ·rcases Hv.mp hb with z | z
    ·subst z;exact HW hlt
    ·have z:b=it:=by simpa using z
     subst z;exact HW hlt2
 done:=by
  intro X hP hw hK hc i Mu s σ H E I hf st hg;subst hP hw hK;obtain⟨xs,hq,hx⟩:=hg;obtain⟨its,rv,p,hz⟩:=I.list hq;obtain⟨⟨old,se⟩,si⟩:=st;have hl:=rv.length;exact wpAny_pyNext_enum_end (I.ok.hd hc) se si p.isList (by simp;omega) λh' eb=>⟨rfl,I.turnedAll (t':=s.toks) hf λb o hb e'=>eb b o (λz=>hb (by simp [z])) e'⟩
 self:=λ_ _ _ _ _ st h=>let⟨_,se⟩:=st.1;wpAny_pyIter_enum se h
section
variable {X:Cx} {es:MX} {k:Nat} {tpos:Pos}
def sQ (K:Hj) (ta:TA):TI:=λσ H R=>ta σ H λvs H1=>∃ a,vs=[.ref a]/\(∃ xs,SqL K H1 a xs)/\R (Ite K a) H1
theorem BZ {a:Expr} {ta:TA} {p pos:Pos} (hg:Gl X "enumerate") (hm:X.mg "enumerate"=MF) (ha:PA X [a] ta) (hs:Iq [a] X.env=[(MG,eval a X.env)]:=by rfl):PI X (.Tuple es k tpos) (.Call (.Name "enumerate" p) [a] [] pos) (sQ X.K ta):=by
 intro Mu s σ H R I h;refine Call_ (qV I hg hm boot_enumerate (Ju (thn (ha pos Mu s σ H _ I h) λus s1 ⟨vs,H1,I1,r1,q1⟩=>?_) hs rfl));obtain⟨l,e,⟨xs,hq⟩,q⟩:=q1;subst e;cases r1 with
 | cons r rr =>
  cases rr;cases r;obtain⟨its,rv,p,hz⟩:=I1.list hq;refine call_enumerate_list p.isList λh' he hi hsz kp=>?_;refine wpAny_pyIter_enum he ?_;have hne:s1.heap.objs.size+1≠s1.heap.objs.size:=Nat.succ_ne_self _;refine⟨s1.heap.objs.size+1,[s1.heap.objs.size+1,s1.heap.objs.size],_,_,H1,rfl,I1.kept (t':=s1.toks) kp,uU l _ _ hne,⟨⟨_,he⟩,hi⟩,λb hb=>?_,q⟩;rcases Hv.mp hb with z | z
  ·subst z;exact I1.fpOk (Lw _) (I1.hok.fresh (Lw _))
  ·have z:b=s1.heap.objs.size:=by simpa using z
   subst z;exact I1.fpOk (Ht _) (I1.hok.fresh (Ht _))
end
theorem xJ {K:Hj} {a:Hm} {xs:List V} {g:TG} {tb:TS} {D:Ends} {σ:St} {H:Hp} (Pv:Nat->St->Hp->Prop) (h0:Pv 0 σ H) (hl:∀ i σ H,i<=xs.length->Pv i σ H->SqL K H a xs)
  (hs:∀ i x σ H t,xs[i]?=MA x->Pv i σ H->H t=MF->g (.ref t) σ (upd H t (.tup [.int i,x])) λσ2 H2=>tb { D with nx:=Pv (i+1),ct:=Pv (i+1),bk:=D.nx } σ2 H2) (hd:∀ σ H,Pv xs.length σ H->D.nx σ H) :
  ∃ W:Nat->Nat->St->Hp->Prop,(∃ m,W 0 m σ H)/\∀ i m σ H,W i m σ H ->
   ((Ite K a).stop i H/\D.nx σ H) \/ ((Ite K a).go i H/\∃ N:St->Hp->Prop,(∀ σ' H',N σ' H'->∃ m',m'<m/\W (i+1) m' σ' H')/\∀ x H',(Ite K a).yld i H x H'->g x σ H' λσ2 H2=>tb { D with nx:=N,ct:=N,bk:=D.nx } σ2 H2):=by
 refine⟨λi m σ H=>Pv i σ H/\i<=xs.length/\m+i=xs.length,⟨xs.length,h0,HR _,rfl⟩,λi m σ H ⟨p,hi,hm⟩=>?_⟩;have q:=hl i σ H hi p;by_cases hlt:i<xs.length
 ·refine .inr ⟨⟨xs,xs[i],q,Hd hlt⟩,Pv (i+1),λσ' H' n=>⟨m - 1,by omega,n,hlt,by omega⟩,λx H' hy=>?_⟩;obtain⟨t,y,rfl,ht,rfl,hy⟩:=hy;exact hs i y σ H t (hy xs q) p ht
 ·have e:i=xs.length:=by omega
  subst e;exact .inl ⟨⟨xs,q,Ht _⟩,hd σ H p⟩
mutual
def Rep (K:Hj) (H:Hp):MB->V->Prop
 | .none,v=>v=.non
 | .bool b,v=>v=.bl b
 | .int i,v=>v=.int i
 | .str x,v=>v=.str x
 | .list ds,v=>∃ a xs,v=.ref a/\SqL K H a xs/\Reps K H ds xs
 | .tuple ds,v=>∃ a xs,v=.ref a/\SqT K H a xs/\Reps K H ds xs
 | .dict _,_=>False
def Reps (K:Hj) (H:Hp):M9->List V->Prop
 | [],xs=>xs=[]
 | d :: ds,xs=>∃ x r,xs=x :: r/\Rep K H d x/\Reps K H ds r
end
theorem Same.seqT {K:Hj} {H H':Hp} {a:Hm} {xs:List V} (e:Same H H') (h:SqT K H a xs):SqT K H' a xs:=by
 rcases h with (h | ⟨o,h⟩) | h
 ·exact .inl (.inl (e _ _ h))
 ·exact .inl (.inr ⟨o,e _ _ h⟩)
 ·exact .inr h
mutual
theorem Rep.mono {K:Hj} {H H':Hp} (e:Same H H'):∀ (d:MB) (v:V),Rep K H d v->Rep K H' d v
 | .none,_,h=>by rw [Rep] at h ⊢;exact h
 | .bool _,_,h=>by rw [Rep] at h ⊢;exact h
 | .int _,_,h=>by rw [Rep] at h ⊢;exact h
 | .str _,_,h=>by rw [Rep] at h ⊢;exact h
 | .list ds,v,h=>by
  rw [Rep] at h ⊢;obtain⟨a,xs,h1,h2,h3⟩:=h;exact⟨a,xs,h1,e.seq h2,Reps.mono e ds xs h3⟩
 | .tuple ds,v,h=>by
  rw [Rep] at h ⊢;obtain⟨a,xs,h1,h2,h3⟩:=h;exact⟨a,xs,h1,e.seqT h2,Reps.mono e ds xs h3⟩
 | .dict _,_,h=>by rw [Rep] at h;exact h.elim
theorem Reps.mono {K:Hj} {H H':Hp} (e:Same H H'):∀ (ds:M9) (xs:List V),Reps K H ds xs->Reps K H' ds xs
 | [],_,h=>by rw [Reps] at h ⊢;exact h
 | d :: ds,xs,h=>by
  rw [Reps] at h ⊢;obtain⟨x,r,h1,h2,h3⟩:=h;exact⟨x,r,h1,Rep.mono e d x h2,Reps.mono e ds r h3⟩
end
theorem zu {K:Hj} {H:Hp} {i:Int} {v:V}:Rep K H (.int i) v↔v=.int i:=by rw [Rep]
theorem zW {K:Hj} {H:Hp} {b:Bool} {v:V}:Rep K H (.bool b) v↔v=.bl b:=by rw [Rep]
theorem jB {K:Hj} {H:Hp} {v:V}:Rep K H .none v↔v=.non:=by rw [Rep]
theorem cP {K:Hj} {H:Hp} {x:Str} {v:V}:Rep K H (.str x) v↔v=.str x:=by rw [Rep]
theorem zJ {K:Hj} {H:Hp} {ds:M9} {v:V}:Rep K H (.list ds) v↔∃ a xs,v=.ref a/\SqL K H a xs/\Reps K H ds xs:=by rw [Rep]
theorem zR {K:Hj} {H:Hp} {ds:M9} {v:V}:Rep K H (.tuple ds) v↔∃ a xs,v=.ref a/\SqT K H a xs/\Reps K H ds xs:=by rw [Rep]
theorem zT {K:Hj} {H:Hp} {xs:List V}:Reps K H [] xs↔xs=[]:=by rw [Reps]
theorem zG {K:Hj} {H:Hp} {d:MB} {ds:M9} {xs:List V}:Reps K H (d :: ds) xs↔∃ x r,xs=x :: r/\Rep K H d x/\Reps K H ds r:=by rw [Reps]
theorem Reps.nil' {K:Hj} {H:Hp}:Reps K H [] []:=zT.mpr rfl
theorem Reps.cons' {K:Hj} {H:Hp} {d:MB} {ds:M9} {x:V} {r:List V} (h:Rep K H d x) (t:Reps K H ds r):Reps K H (d :: ds) (x :: r):=zG.mpr ⟨x,r,rfl,h,t⟩
theorem Reps.length {K:Hj} {H:Hp}:∀ {ds:M9} {xs:List V},Reps K H ds xs->xs.length=ds.length
 | [],xs,h=>by rw [zT.mp h];rfl
 | d :: ds,xs,h=>by
  obtain⟨x,r,rfl,_,h3⟩:=zG.mp h;rw [HK,HK,Reps.length h3]
theorem Reps.get {K:Hj} {H:Hp}:∀ {ds:M9} {xs:List V} {i:Nat} {d:MB},Reps K H ds xs->ds[i]?=MA d->∃ x,xs[i]?=MA x/\Rep K H d x
 | [],_,_,_,_,e=>by simp at e
 | d :: ds,xs,0,d',h,e=>by
  obtain⟨x,r,rfl,h2,_⟩:=zG.mp h;simp at e;subst e;exact⟨x,rfl,h2⟩
 | d :: ds,xs,i+1,d',h,e=>by
  obtain⟨x,r,rfl,_,h3⟩:=zG.mp h;obtain⟨y,h1,h2⟩:=Reps.get (i:=i) h3 (by simpa using e);exact⟨y,by simpa using h1,h2⟩
theorem Reps.snoc {K:Hj} {H:Hp} {d:MB} {x:V} (h:Rep K H d x):∀ {ds:M9} {xs:List V},Reps K H ds xs->Reps K H (ds++[d]) (xs++[x])
 | [],xs,t=>by rw [zT.mp t];exact .cons' h .nil'
 | d' :: ds,xs,t=>by
  obtain⟨y,r,rfl,h2,h3⟩:=zG.mp t;exact .cons' h2 (Reps.snoc h h3)
theorem Reps.append {K:Hj} {H:Hp}:∀ {ds es:M9} {xs ys:List V},Reps K H ds xs->Reps K H es ys->Reps K H (ds++es) (xs++ys)
 | [],es,xs,ys,t,u=>by rw [zT.mp t];exact u
 | d' :: ds,es,xs,ys,t,u=>by
  obtain⟨y,r,rfl,h2,h3⟩:=zG.mp t;exact .cons' h2 (Reps.append h3 u)
theorem Reps.ints {K:Hj} {H:Hp}:∀ {ns:M4} {xs:List V},Reps K H (ns.map .int) xs->xs=ns.map V.int
 | [],xs,h=>zT.mp h
 | n :: ns,xs,h=>by
  obtain⟨x,r,rfl,h2,h3⟩:=zG.mp h;rw [zu.mp h2,Reps.ints h3];rfl
theorem Reps.ints' {K:Hj} {H:Hp}:∀ (ns:M4),Reps K H (ns.map .int) (ns.map V.int)
 | []=>.nil'
 | n :: ns=>.cons' (zu.mpr rfl) (Reps.ints' ns)
section
variable {X:Cx} {Mu:MT} {σ:St} {H:Hp} {s:ME}
mutual
theorem je (I:Inv X Mu σ H s):∀ (d:MB) (v:V) (u:MD),Rep X.K H d v->RelV v u->∃ as,Reads s.heap u d as
 | .none,v,u,h,r=>by rw [jB.mp h] at r;cases r;exact⟨_,.none⟩
 | .bool b,v,u,h,r=>by rw [zW.mp h] at r;cases r;exact⟨_,.bool b⟩
 | .int i,v,u,h,r=>by rw [zu.mp h] at r;obtain⟨t,rfl⟩:=r;exact⟨_,.int i t⟩
 | .str x,v,u,h,r=>by rw [cP.mp h] at r;obtain⟨t,rfl⟩:=r;exact⟨_,.str x t⟩
 | .list ds,v,u,h,r=>by
  obtain⟨a,xs,rfl,h2,h3⟩:=zJ.mp h;cases r;obtain⟨its,rv,p,_⟩:=I.list h2;obtain⟨o,ho,hc,n,hd⟩:=p.isList;obtain⟨as,ra⟩:=jt I ds xs its h3 rv;exact⟨_,.list ho hc hd (by simpa using ra)⟩
 | .tuple ds,v,u,h,r=>by
  obtain⟨a,xs,rfl,h2,h3⟩:=zR.mp h;cases r;obtain⟨its,rv,p,_⟩:=I.tuple h2;obtain⟨o,ho,hc,n,hd⟩:=p;obtain⟨as,ra⟩:=jt I ds xs its h3 rv;exact⟨_,.tuple ho hc hd (by simpa using ra)⟩
 | .dict _,_,_,h,_=>by rw [Rep] at h;exact h.elim
theorem jt (I:Inv X Mu σ H s):∀ (ds:M9) (xs:List V) (us:MQ),Reps X.K H ds xs->Vals xs us->∃ as,ReadsAll s.heap us ds as
 | [],xs,us,h,r=>by rw [zT.mp h] at r;cases r;exact⟨_,.nil⟩
 | d :: ds,xs,us,h,r=>by
  obtain⟨x,q,rfl,h2,h3⟩:=zG.mp h;cases r with
  | cons r1 r2 =>
   obtain⟨as,ra⟩:=je I d x _ h2 r1;obtain⟨bs,rb⟩:=jt I ds q _ h3 r2;exact⟨_,.cons ra rb⟩
end
def xK (K:Hj) (neg:Bool):R2:=λx y H Q=>∃ d d',Rep K H d x/\Rep K H d' y/\d.canLay0=MC/\d'.canLay0=MC/\min d.depth d'.depth<=60/\Q (.bl (if neg then !HU d d' else HU d d')) H
theorem Ez (hu:X.A.units+64<IZ):OpR X (IJ .Eq) (xK X.K MG):=by
 intro Mu s σ H x y v u Q I rx ry h;obtain⟨d,d',h1,h2,c1,c2,hm,q⟩:=h;obtain⟨as,ra⟩:=je I d x v h1 rx;obtain⟨bs,rb⟩:=je I d' y u h2 ry;exact SeqAt.compareEq_reads ra rb c1 c2 (by omega) ⟨.bl (HU d d'),H,I,rfl,q⟩
theorem EA (hu:X.A.units+64<IZ):OpR X (IJ .NotEq) (xK X.K MC):=by
 intro Mu s σ H x y v u Q I rx ry h;obtain⟨d,d',h1,h2,c1,c2,hm,q⟩:=h;obtain⟨as,ra⟩:=je I d x v h1 rx;obtain⟨bs,rb⟩:=je I d' y u h2 ry;exact SeqAt.compareNe_reads ra rb c1 c2 (by omega) ⟨.bl (!HU d d'),H,I,rfl,q⟩
theorem uV (hc:X.calm=MC):yK X (.builtin "min") (λxs H Q=>∃ a ns,xs=[.ref a]/\SqL X.K H a (ns.map V.int)/\ns≠[]/\∀ M,M∈ns->(∀ b∈ns,M<=b)->Q (.int M) H):=by
 intro Mu s σ H xs us Q I r h;obtain⟨a,ns,rfl,hq,hne,q⟩:=h;obtain⟨u,rfl,r1⟩:=vals1 r;cases r1;obtain⟨its,rv,p,_⟩:=I.list hq;obtain⟨m,F⟩:=I.fr;have hi:=intsAre_of rv;obtain⟨ys,e⟩:=hi.allInts.items;have hns:ns=ys.toList.map (·.1):=by rw [<-hi.numsOf,<- nums_intItems,<- e]
 have hsz:0<ys.size:=by
  have h3:0<ns.length:=Kz.mpr hne;rw [hns,Hc,HF] at h3;exact h3
 have hl:=p.isList;rw [e] at hl;refine min_intList (I.ok.hd hc) hl hsz λv h' tk hv hk=>?_;obtain⟨t,rfl⟩:=intItems_at hv;obtain⟨_,h2⟩:=argBest_lt (numAt ys) (ys.size - 1);refine⟨.int _,H,I.kept (t':=tk) hk,⟨t,rfl⟩,q _ ?_ λb hb=>?_⟩
 ·rw [hns,numAt_eq];exact getD_mem (by rw [Hc,HF];omega)
 ·rw [hns] at hb;obtain⟨j,hj,rfl⟩:=mem_getD hb;rw [Hc,HF] at hj;rw [<-numAt_eq];exact h2 j (by omega)
theorem uW (hc:X.calm=MC):yK X (.builtin "max") (λxs H Q=>∃ a ns,xs=[.ref a]/\SqL X.K H a (ns.map V.int)/\ns≠[]/\∀ M,M∈ns->(∀ b∈ns,b<=M)->Q (.int M) H):=by
 intro Mu s σ H xs us Q I r h;obtain⟨a,ns,rfl,hq,hne,q⟩:=h;obtain⟨u,rfl,r1⟩:=vals1 r;cases r1;obtain⟨its,rv,p,_⟩:=I.list hq;have hi:=intsAre_of rv;obtain⟨ys,e⟩:=hi.allInts.items;have hns:ns=ys.toList.map (·.1):=by rw [<-hi.numsOf,<- nums_intItems,<- e]
 have hsz:0<ys.size:=by
  have h3:0<ns.length:=Kz.mpr hne;rw [hns,Hc,HF] at h3;exact h3
 have hl:=p.isList;rw [e] at hl;refine max_intList (I.ok.hd hc) hl hsz λv h' tk hv hk=>?_;obtain⟨t,rfl⟩:=intItems_at hv;obtain⟨_,h2⟩:=argBest_gt (numAt ys) (ys.size - 1);refine⟨.int _,H,I.kept (t':=tk) hk,⟨t,rfl⟩,q _ ?_ λb hb=>?_⟩
 ·rw [hns,numAt_eq];exact getD_mem (by rw [Hc,HF];omega)
 ·rw [hns] at hb;obtain⟨j,hj,rfl⟩:=mem_getD hb;rw [Hc,HF] at hj;rw [<-numAt_eq];exact h2 j (by omega)
end
inductive DV where
 | dat (d:MB)
 | feed
 | own (k:Nat)
 | exc (C:MD)
 | mon (φ:Hp->V->Prop)
abbrev zr:=List (Option DV)
structure Fx where
 f:MW
 M:MS
noncomputable def hide (H:Hp) (f:Fx):Hp:=λb=>if f.f=MA b \/ b∈f.M then MF else H b
structure FOk (f:Fx) (H:Hp):Prop where
 fd:∀ p,f.f=MA p->∃ a b:Int,H p=MA (.lst [.int a,.int b])/\0<=a/\0<=b/\b<2147483647
 mm:∀ b∈f.M,∃ o,H b=MA o
 nm:∀ p,f.f=MA p->p∉f.M
def RepV (K:Hj) (f:Fx) (H:Hp):DV->V->Prop
 | .dat d,v=>Rep K (hide H f) d v
 | .feed,v=>∃ p,f.f=MA p/\v=.ref p
 | .own k,v=>∃ p,f.M.reverse[k]?=MA p/\v=.ref p
 | .exc C,v=>∃ a,v=.ref a/\hide H f a=MA (.ext λh=>∃ o,h.get? a=MA o/\o.cls=C)
 | .mon φ,v=>∀ H',Same (hide H f) H'->φ H' v
structure Goes (f:Fx) (H H':Hp):Prop where
 sm:Same (hide H f) (hide H' f)
 ok:FOk f H'
 kp:∀ b∈f.M,H' b=H b
structure EnvOk (K:Hj) (f:Fx) (ρ:zr) (σ:St) (H:Hp):Prop where
 len:ρ.length=σ.length
 get:∀ (i:Nat) x,ρ[i]?=MA (MA x)->∃ v,σ[i]?=MA (MA v)/\RepV K f H x v
 fd:FOk f H
theorem bA (H:Hp):hide H ⟨MF,[]⟩=H:=by funext b;unfold hide;rw [Mv (by rintro (h | h) <;> cases h)]
theorem zp (H:Hp) (f:Fx):Same (hide H f) H:=λb o h=>by
 unfold hide at h;split at h
 ·cases h
 ·exact h
theorem zZ {H:Hp} {f:Fx} {b:Hm} {o:HO} (h:hide H f b=MA o):¬ (f.f=MA b \/ b∈f.M)/\H b=MA o:=by
 unfold hide at h;split at h
 ·cases h
 ·rename_i n;exact⟨n,h⟩
theorem zI {H:Hp} {f:Fx} {b:Hm} {o:HO} (n:¬ (f.f=MA b \/ b∈f.M)) (h:H b=MA o):hide H f b=MA o:=by unfold hide;rw [Mv n];exact h
theorem Goes.refl {f:Fx} {H:Hp} (h:FOk f H):Goes f H H:=⟨Same.refl _,h,λ_ _=>rfl⟩
theorem Goes.trans {f:Fx} {H H1 H2:Hp} (a:Goes f H H1) (b:Goes f H1 H2):Goes f H H2:=⟨a.1.trans b.1,b.2,λx hx=>(b.kp x hx).trans (a.kp x hx)⟩
theorem Goes.of_same {f:Fx} {H H':Hp} (s:Same H H') (h:FOk f H):Goes f H H' :=
 ⟨λb o e=>zI (zZ e).1 (s b o (zZ e).2),⟨λp e=>let⟨a,b,h1,h2⟩:=h.fd p e;⟨a,b,s _ _ h1,h2⟩,λb hb=>let⟨o,e⟩:=h.mm b hb;⟨o,s _ _ e⟩,h.nm⟩,λb hb=>let⟨o,e⟩:=h.mm b hb;(s _ _ e).trans e.symm⟩
theorem ye {H:Hp} {p:Hm} (h:H p=MF) (o:HO):Same H (upd H p o):=λb u q=>by rw [zz (zQ q h)];exact q
theorem RepV.mono {K:Hj} {f:Fx} {H H':Hp} (g:Goes f H H'):∀ {x:DV} {v:V},RepV K f H x v->RepV K f H' x v
 | .dat d,v,h=>Rep.mono g.1 d v h
 | .feed,v,h=>h
 | .own _,v,h=>h
 | .exc _,v,h=>let⟨a,e,q⟩:=h;⟨a,e,g.1 _ _ q⟩
 | .mon _,v,h=>λH' s=>h H' (g.1.trans s)
theorem EnvOk.mono {K:Hj} {f:Fx} {ρ:zr} {σ:St} {H H':Hp} (e:EnvOk K f ρ σ H) (g:Goes f H H'):EnvOk K f ρ σ H' :=
 ⟨e.len,λi x h=>let⟨v,h1,h2⟩:=e.get i x h;⟨v,h1,h2.mono g⟩,g.2⟩
theorem EnvOk.set {K:Hj} {f:Fx} {ρ:zr} {σ:St} {H:Hp} {x:DV} {v:V} (e:EnvOk K f ρ σ H) (i:Nat) (r:RepV K f H x v):EnvOk K f (ρ.set i (MA x)) (σ.set i (MA v)) H:=by
 refine⟨by rw [KO,KO];exact e.len,λj y h=>?_,e.fd⟩;by_cases hj:i=j
 ·subst hj;by_cases hi:i<ρ.length
  ·rw [JF hi] at h;cases h;exact⟨v,by rw [JF (by rw [<-e.len];exact hi)],r⟩
  ·rw [Ib (by rw [KO];omega)] at h;cases h
 ·rw [Kn hj] at h ⊢;exact e.get j y h
theorem fresh_ne {f:Fx} {H:Hp} {p:Hm} (h:FOk f H) (n:H p=MF):¬ (f.f=MA p \/ p∈f.M):=λe=>by
 rcases e with e | e
 ·obtain⟨a,b,h1,_⟩:=h.fd p e;rw [n] at h1;cases h1
 ·obtain⟨o,h1⟩:=h.mm p e;rw [n] at h1;cases h1
inductive RepVs (K:Hj) (f:Fx) (H:Hp):List DV->List V->Prop where
 | nil:RepVs K f H [] []
 | cons {x v xs vs}:RepV K f H x v->RepVs K f H xs vs->RepVs K f H (x :: xs) (v :: vs)
theorem RepVs.mono {K:Hj} {f:Fx} {H H':Hp} (g:Goes f H H'):∀ {xs:List DV} {vs:List V},RepVs K f H xs vs->RepVs K f H' xs vs
 | _,_,.nil=>.nil
 | _,_,.cons r t=>.cons (r.mono g) (t.mono g)
theorem RepVs.length {K:Hj} {f:Fx} {H:Hp}:∀ {xs:List DV} {vs:List V},RepVs K f H xs vs->vs.length=xs.length
 | _,_,.nil=>rfl
 | _,_,.cons _ t=>by rw [HK,HK,t.length]
section
variable (K:Hj) (f:Fx)
def PEd (te:TE) (ρ:zr) (P:MB->Prop):Prop:=∀ (σ:St) (H:Hp) (Q:VK),EnvOk K f ρ σ H->(∀ d v H',Goes f H H'->Rep K (hide H' f) d v->P d->Q v H')->te σ H Q
def PTd (tt:TT) (ρ:zr) (P:Bool->Prop):Prop:=∀ (σ:St) (H:Hp) (Q:Bool->Hp->Prop),EnvOk K f ρ σ H->(∀ b H',Goes f H H'->P b->Q b H')->tt σ H Q
def PAd (ta:TA) (ρ:zr) (P:List DV->Prop):Prop:=∀ (σ:St) (H:Hp) (Q:List V->Hp->Prop),EnvOk K f ρ σ H->(∀ xs vs H',Goes f H H'->RepVs K f H' xs vs->P xs->Q vs H')->ta σ H Q
structure DEnds where
 nx:zr->Prop
 rt:MB->Prop
 bk:zr->Prop:=λ_=>False
 ct:zr->Prop:=λ_=>False
def PSd (ts:TS) (ρ:zr) (D:DEnds):Prop:=∀ (σ:St) (H:Hp) (E:Ends),EnvOk K f ρ σ H->(∀ ρ' σ' H',Goes f H H'->EnvOk K f ρ' σ' H'->D.nx ρ'->E.nx σ' H')->(∀ d v H',Goes f H H'->Rep K (hide H' f) d v->D.rt d->E.rt v H') ->
 (∀ ρ' σ' H',Goes f H H'->EnvOk K f ρ' σ' H'->D.bk ρ'->E.bk σ' H')->(∀ ρ' σ' H',Goes f H H'->EnvOk K f ρ' σ' H'->D.ct ρ'->E.ct σ' H')->ts E σ H
def spD {γ:Type} (n:Nat) (pre:γ->List DV->Prop) (post:γ->MB->Prop):Sp:=λvs H Q _=>∃ f xs c,RepVs K f H xs vs/\xs.length=n/\FOk f H/\pre c xs/\∀ r v H',Goes f H H'->Rep K (hide H' f) r v->post c r->Q v H'
end
section
variable {K:Hj} {f:Fx} {ρ:zr} {P:MB->Prop} {te ta tb tc:TE}
theorem zi {i:Nat} {d:MB} (h:ρ[i]?=MA (MA (.dat d))) (p:P d):PEd K f (yt i) ρ P:=λσ H Q e q=>by
 obtain⟨v,h1,h2⟩:=e.get i _ h;exact⟨v,h1,q d v H (.refl e.fd) h2 p⟩
theorem yp {i:Int} (p:P (.int i)):PEd K f (tC (.int i)) ρ P:=λσ H Q e q=>q (.int i) _ H (.refl e.fd) (zu.mpr rfl) p
theorem xM {i:Bool} (p:P (.bool i)):PEd K f (tC (.bl i)) ρ P:=λσ H Q e q=>q (.bool i) _ H (.refl e.fd) (zW.mpr rfl) p
theorem aT {i:Str} (p:P (.str i)):PEd K f (tC (.str i)) ρ P:=λσ H Q e q=>q (.str i) _ H (.refl e.fd) (cP.mpr rfl) p
theorem xN (p:P .none):PEd K f (tC .non) ρ P:=λσ H Q e q=>q .none _ H (.refl e.fd) (jB.mpr rfl) p
theorem PEd.imp {P':MB->Prop} (h:PEd K f te ρ P) (i:∀ d,P d->P' d):PEd K f te ρ P':=λσ H Q e q=>h σ H Q e λd v H' g r p=>q d v H' g r (i d p)
theorem uX {r:R2} (h:PEd K f ta ρ λx=>PEd K f tb ρ λy=>∀ (v w:V) (H:Hp) (Q:VK),FOk f H->Rep K (hide H f) x v->Rep K (hide H f) y w->(∀ d u H',Goes f H H'->Rep K (hide H' f) d u->P d->Q u H')->r v w H Q):PEd K f (tOp r ta tb) ρ P:=λσ H Q e q =>
 h σ H _ e λx v H1 g1 r1 p1=>p1 σ H1 _ (e.mono g1) λy w H2 g2 r2 p2=>p2 v w H2 Q g2.2 (Rep.mono g2.1 x v r1) r2 λd u H' g' r' p'=>q d u H' (g1.trans (g2.trans g')) r' p'
theorem G5 {r:V->Hp->VK->Prop} (h:PEd K f ta ρ λx=>∀ (v:V) (H:Hp) (Q:VK),FOk f H->Rep K (hide H f) x v->(∀ d u H',Goes f H H'->Rep K (hide H' f) d u->P d->Q u H')->r v H Q):PEd K f (tUn r ta) ρ P:=λσ H Q e q =>
 h σ H _ e λx v H1 g1 r1 p1=>p1 v H1 Q g1.2 r1 λd u H' g' r' p'=>q d u H' (g1.trans g') r' p'
theorem j8 {g:Int->Int->Int} (h:PEd K f ta ρ λx=>∃ i,x=.int i/\PEd K f tb ρ λy=>∃ j,y=.int j/\P (.int (g i j))):PEd K f (tOp (rI0 λi j=>.int (g i j)) ta tb) ρ P :=
 uX (h.imp λx ⟨i,ex,h2⟩=>h2.imp λy ⟨j,ey,p⟩ v w H Q fo rx ry q=>by
  subst ex ey;exact⟨i,j,zu.mp rx,zu.mp ry,q _ _ H (.refl fo) (zu.mpr rfl) p⟩)
theorem oZ {C:Int->Int->Prop} {g:Int->Int->Int} (h:PEd K f ta ρ λx=>∃ i,x=.int i/\PEd K f tb ρ λy=>∃ j,y=.int j/\C i j/\P (.int (g i j))):PEd K f (tOp (rI C λi j=>.int (g i j)) ta tb) ρ P :=
 uX (h.imp λx ⟨i,ex,h2⟩=>h2.imp λy ⟨j,ey,c,p⟩ v w H Q fo rx ry q=>by
  subst ex ey;exact⟨i,j,zu.mp rx,zu.mp ry,c,q _ _ H (.refl fo) (zu.mpr rfl) p⟩)
theorem iC {g:Int->Int->Bool} (h:PEd K f ta ρ λx=>∃ i,x=.int i/\PEd K f tb ρ λy=>∃ j,y=.int j/\P (.bool (g i j))):PEd K f (tOp (rI0 λi j=>.bl (g i j)) ta tb) ρ P :=
 uX (h.imp λx ⟨i,ex,h2⟩=>h2.imp λy ⟨j,ey,p⟩ v w H Q fo rx ry q=>by
  subst ex ey;exact⟨i,j,zu.mp rx,zu.mp ry,q _ _ H (.refl fo) (zW.mpr rfl) p⟩)
theorem jH {neg:Bool} (h:PEd K f ta ρ λx=>PEd K f tb ρ λy=>x.canLay0=MC/\y.canLay0=MC/\min x.depth y.depth<=60/\P (.bool (if neg then !HU x y else HU x y))):PEd K f (tOp (xK K neg) ta tb) ρ P :=
 uX (h.imp λx h2=>h2.imp λy ⟨c1,c2,c3,p⟩ v w H Q fo rx ry q =>
  ⟨x,y,Rep.mono (zp _ _) x v rx,Rep.mono (zp _ _) y w ry,c1,c2,c3,q _ _ H (.refl fo) (zW.mpr rfl) p⟩)
theorem mP (h:PEd K f ta ρ λx=>∃ ds,x=.list ds/\PEd K f tb ρ λy=>∃ k,y=.int k/\∃ d,atI ds k=MA d/\P d):PEd K f (tOp (oV K) ta tb) ρ P :=
 uX (h.imp λx ⟨ds,ex,h2⟩=>h2.imp λy ⟨k,ey,d,a,p⟩ v w H Q fo rx ry q=>by
  subst ex ey;obtain⟨l,xs,rfl,hs,hr⟩:=zJ.mp rx;unfold atI at a;cases hi:ixN ds.length k with
  | none=>rw [hi] at a;cases a
  | some j =>
   rw [hi] at a;obtain⟨u,hu,ru⟩:=hr.get a;exact⟨l,xs,k,u,rfl,zu.mp ry,(zp H f).seq hs,by unfold atI;rw [hr.length,hi];exact hu,q d u H (.refl fo) ru p⟩)
theorem vQ (h:PEd K f ta ρ λx=>∃ ds,x=.tuple ds/\PEd K f tb ρ λy=>∃ k,y=.int k/\∃ d,atI ds k=MA d/\P d):PEd K f (tOp (uR K) ta tb) ρ P :=
 uX (h.imp λx ⟨ds,ex,h2⟩=>h2.imp λy ⟨k,ey,d,a,p⟩ v w H Q fo rx ry q=>by
  subst ex ey;obtain⟨l,xs,rfl,hs,hr⟩:=zR.mp rx;unfold atI at a;cases hi:ixN ds.length k with
  | none=>rw [hi] at a;cases a
  | some j =>
   rw [hi] at a;obtain⟨u,hu,ru⟩:=hr.get a;exact⟨l,xs,k,u,rfl,zu.mp ry,(zp H f).seqT hs,by unfold atI;rw [hr.length,hi];exact hu,q d u H (.refl fo) ru p⟩)
theorem Ge {i:Nat} (hi:ρ[i]?=MA (MA .feed)) (h:PEd K f tb ρ λy=>(y=.int 0/\∀ a:Int,0<=a->P (.int a)) \/ (y=.int 1/\∀ b:Int,0<=b->b<2147483647->P (.int b))):PEd K f (tOp (oV K) (yt i) tb) ρ P:=λσ H Q e q=>by
 obtain⟨v,h1,p,ef,ev⟩:=e.get i _ hi;refine⟨v,h1,h σ H _ e λy w H' g r c=>?_⟩;obtain⟨a,b,hf,c1,c2,c3⟩:=g.2.fd p ef;rcases c with⟨rfl,c⟩ | ⟨rfl,c⟩
 ·exact⟨p,_,0,.int a,ev,zu.mp r,SqL.of hf,rfl,q (.int a) _ H' g (zu.mpr rfl) (c a c1)⟩
 ·exact⟨p,_,1,.int b,ev,zu.mp r,SqL.of hf,rfl,q (.int b) _ H' g (zu.mpr rfl) (c b c2 c3)⟩
theorem zL {R:List DV->Prop} (p:R []):PAd K f jK ρ R:=λσ H Q e q=>q [] [] H (.refl e.fd) .nil p
theorem zq {R:List DV->Prop} {u:TA} (h:PEd K f te ρ λx=>PAd K f u ρ λxs=>R (.dat x :: xs)):PAd K f (yj te u) ρ R:=λσ H Q e q =>
 h σ H _ e λx v H1 g1 r1 p1=>p1 σ H1 _ (e.mono g1) λxs vs H2 g2 r2 p2=>q (.dat x :: xs) (v :: vs) H2 (g1.trans g2) (.cons (RepV.mono (x:=.dat x) g2 r1) r2) p2
theorem EB {R:List DV->Prop} {u:TA} {i:Nat} (hi:ρ[i]?=MA (MA .feed)) (h:PAd K f u ρ λxs=>R (.feed :: xs)):PAd K f (yj (yt i) u) ρ R:=λσ H Q e q=>by
 obtain⟨v,h1,h2⟩:=e.get i _ hi;exact⟨v,h1,h σ H _ e λxs vs H2 g2 r2 p2=>q (.feed :: xs) (v :: vs) H2 g2 (.cons (RepV.mono (x:=.feed) g2 h2) r2) p2⟩
noncomputable def vJ:List DV->Option (List MB)
 | []=>MA []
 | .dat d :: r=>(vJ r).map (d :: ·)
 | .feed :: _=>MF
 | .own _ :: _=>MF
 | .exc _ :: _=>MF
 | .mon _ :: _=>MF
theorem aj {H:Hp}:∀ {xs:List DV} {vs:List V} {ds:M9},RepVs K f H xs vs->vJ xs=MA ds->Reps K (hide H f) ds vs
 | _,_,ds,.nil,e=>by cases e;exact .nil'
 | .dat d :: xs,v :: vs,ds,.cons r t,e=>by
  unfold vJ at e;cases q:vJ xs with
  | none=>rw [q] at e;cases e
  | some es=>rw [q] at e;cases e;exact .cons' r (aj t q)
 | .feed :: xs,_,ds,.cons r t,e=>by cases e
 | .own _ :: xs,_,ds,.cons r t,e=>by cases e
 | .exc _ :: xs,_,ds,.cons r t,e=>by cases e
 | .mon _ :: xs,_,ds,.cons r t,e=>by cases e
theorem xO {t:TA} (h:PAd K f t ρ λxs=>∃ ds,vJ xs=MA ds/\ds.length<=1000/\P (.list ds)):PEd K f (uP t) ρ P:=λσ H Q e q =>
 h σ H _ e λxs vs H1 g1 r1 ⟨ds,ea,hl,p⟩=>by
  have rs:=aj r1 ea;refine⟨by rw [rs.length];exact IH (zY hl),λl hn=>?_⟩;have sm:=ye hn (.lst vs);have g2:Goes f H1 (upd H1 l (.lst vs)):=.of_same sm g1.2;exact q (.list ds) _ _ (g1.trans g2) (zJ.mpr ⟨l,vs,rfl,.of (zI (fresh_ne g1.2 hn) zw),Reps.mono g2.1 ds vs rs⟩) p
theorem jI {t:TA} (h:PAd K f t ρ λxs=>∃ ds,vJ xs=MA ds/\ds.length<=1000/\P (.tuple ds)):PEd K f (BW t) ρ P:=λσ H Q e q =>
 h σ H _ e λxs vs H1 g1 r1 ⟨ds,ea,hl,p⟩=>by
  have rs:=aj r1 ea;refine⟨by rw [rs.length];exact IH (zY hl),λl hn=>?_⟩;have sm:=ye hn (.tup vs);have g2:Goes f H1 (upd H1 l (.tup vs)):=.of_same sm g1.2;exact q (.tuple ds) _ _ (g1.trans g2) (zR.mpr ⟨l,vs,rfl,.of (zI (fresh_ne g1.2 hn) zw),Reps.mono g2.1 ds vs rs⟩) p
theorem zt {γ:Type} {n:Nat} {pre:γ->List DV->Prop} {post:γ->MB->Prop} {E:XK} {t:TA} (c:γ) (h:PAd K f t ρ λxs=>xs.length=n/\pre c xs/\∀ r,post c r->P r):PEd K f (cO (spD K n pre post) [] E t) ρ P:=λσ H Q e q =>
 h σ H _ e λxs vs H1 g1 r1 ⟨hl,hp,k⟩=>by
  refine⟨f,xs,c,by rw [IX];exact r1,hl,g1.2,hp,λr v H' g' r' p'=>q r v H' (g1.trans g') r' (k r p')⟩
theorem uY {r:List V->Hp->VK->Prop} {t:TA} (h:PAd K f t ρ λxs=>∃ ds,vJ xs=MA ds/\∀ (vs:List V) (H:Hp) (Q:VK),FOk f H->Reps K (hide H f) ds vs->(∀ d u H',Goes f H H'->Rep K (hide H' f) d u->P d->Q u H')->r vs H Q):PEd K f (tCB r t) ρ P:=λσ H Q e q =>
 h σ H _ e λxs vs H1 g1 r1 ⟨ds,ea,k⟩=>k vs H1 Q g1.2 (aj r1 ea) λd u H' g' r' p'=>q d u H' (g1.trans g') r' p'
end
section
variable {K:Hj} {f:Fx} {ρ:zr} {P:MB->Prop} {B:Bool->Prop} {te ta tb tc:TE} {tt tu:TT}
theorem PTd.imp {B':Bool->Prop} (h:PTd K f tt ρ B) (i:∀ d,B d->B' d):PTd K f tt ρ B':=λσ H Q e q=>h σ H Q e λd H' g p=>q d H' g (i d p)
theorem yi (h:PEd K f te ρ λd=>∃ k,d=.bool k/\B k):PTd K f (mG te) ρ B:=λσ H Q e q=>h σ H _ e λd v H' g r ⟨k,ed,p⟩=>by
 subst ed;exact⟨k,zW.mp r,q k H' g p⟩
theorem iD (h:PTd K f tt ρ λc=>if c=MC then PTd K f tu ρ B else B MG):PTd K f (Ef tt tu) ρ B:=λσ H Q e q=>h σ H _ e λc H1 g p=>by
 cases c with
 | true =>
  rw [Mw rfl] at p ⊢;exact p σ H1 Q (e.mono g) λb H2 g2 p2=>q b H2 (g.trans g2) p2
 | false =>
  rw [Mv He] at p ⊢;exact q MG H1 g p
theorem B0 (h:PTd K f tt ρ λc=>if c=MC then B MC else PTd K f tu ρ B):PTd K f (tOr tt tu) ρ B:=λσ H Q e q=>h σ H _ e λc H1 g p=>by
 cases c with
 | true =>
  rw [Mw rfl] at p ⊢;exact q MC H1 g p
 | false =>
  rw [Mv He] at p ⊢;exact p σ H1 Q (e.mono g) λb H2 g2 p2=>q b H2 (g.trans g2) p2
theorem cQ (h:PTd K f tt ρ λc=>B (!c)):PTd K f (F8 tt) ρ B:=λσ H Q e q=>h σ H _ e λc H1 g p=>q (!c) H1 g p
noncomputable def Gf:MB->Na
 | .none=>MA MG
 | .bool b=>MA b
 | .int i=>MA (i != 0)
 | .list ds=>MA (!ds.isEmpty)
 | .tuple ds=>MA (!ds.isEmpty)
 | _=>MF
def EC (K:Hj) (ta:TE):TT:=λσ H Q=>ta σ H λx H'=>∃ k,Er K x H' k/\Q k H'
theorem ED {X:Cx} {a:Expr} (ha:PE X a ta) (he:∀ whole,isTrue a X.env whole=(do let v <- whole;standAt a.pos;holding [v] (truthy v))):PT X a (EC X.K ta):=xA ha he
theorem yY (h:PEd K f ta ρ λd=>∃ k,Gf d=MA k/\B k):PTd K f (EC K ta) ρ B:=λσ H Q e q=>h σ H _ e λd v H' g r ⟨k,ed,p⟩=>by
 refine⟨k,?_,q k H' g p⟩;cases d with
 | none=>rw [jB.mp r];cases ed;rfl
 | bool b=>rw [zW.mp r];cases ed;rfl
 | int i=>rw [zu.mp r];cases ed;rfl
 | str x=>cases ed
 | list ds =>
  obtain⟨a,xs,rfl,h1,h2⟩:=zJ.mp r;cases ed;refine .inl ⟨xs,(zp _ _).seq h1,?_⟩;cases ds with
  | nil=>rw [zT.mp h2];rfl
  | cons d ds=>obtain⟨x,r,rfl,_⟩:=zG.mp h2;rfl
 | tuple ds =>
  obtain⟨a,xs,rfl,h1,h2⟩:=zR.mp r;cases ed;refine .inr (.inl ⟨xs,(zp _ _).seqT h1,?_⟩);cases ds with
  | nil=>rw [zT.mp h2];rfl
  | cons d ds=>obtain⟨x,r,rfl,_⟩:=zG.mp h2;rfl
 | dict _=>cases ed
theorem o3 (h:PTd K f tt ρ λc=>if c=MC then PEd K f ta ρ P else PEd K f tb ρ P):PEd K f (tIf tt ta tb) ρ P:=λσ H Q e q=>h σ H _ e λc H1 g p=>by
 cases c with
 | true=>rw [Mw rfl] at p ⊢;exact p σ H1 Q (e.mono g) λd v H2 g2 r2 p2=>q d v H2 (g.trans g2) r2 p2
 | false=>rw [Mv He] at p ⊢;exact p σ H1 Q (e.mono g) λd v H2 g2 r2 p2=>q d v H2 (g.trans g2) r2 p2
theorem o4 (h:PEd K f ta ρ λx=>∃ c,x=.bool c/\if c=MC then PEd K f tb ρ P else P (.bool MG)):PEd K f (xo ta tb) ρ P:=λσ H Q e q=>h σ H _ e λx v H1 g r ⟨c,ex,p⟩=>by
 subst ex;refine⟨c,zW.mp r,?_⟩;cases c with
 | true=>rw [Mw rfl] at p ⊢;exact p σ H1 Q (e.mono g) λd v H2 g2 r2 p2=>q d v H2 (g.trans g2) r2 p2
 | false=>rw [Mv He] at p ⊢;exact q _ _ H1 g (zW.mpr rfl) p
theorem EE (h:PEd K f ta ρ λx=>∃ c,x=.bool c/\P (.bool !c)):PEd K f (DF ta) ρ P:=λσ H Q e q=>h σ H _ e λx v H1 g r ⟨c,ex,p⟩=>by
 subst ex;exact⟨c,zW.mp r,q _ _ H1 g (zW.mpr rfl) p⟩
theorem kC {g g':Int->Int->Bool} (h:PEd K f ta ρ λx=>∃ i,x=.int i/\PEd K f tb ρ λy=>∃ j,y=.int j/\if g i j=MC then PEd K f tc ρ λz=>∃ k,z=.int k/\P (.bool (g' j k)) else P (.bool MG)) :
  PEd K f (oT (rI0 λi j=>.bl (g i j)) (rI0 λi j=>.bl (g' i j)) ta tb tc) ρ P:=λσ H Q e q=>h σ H _ e λx v H1 g1 r1 ⟨i,ex,p1⟩=>p1 σ H1 _ (e.mono g1) λy w H2 g2 r2 ⟨j,ey,p2⟩=>by
 subst ex ey;refine⟨i,j,zu.mp r1,zu.mp r2,g i j,rfl,?_⟩;by_cases hg:g i j=MC
 ·rw [Mw hg] at p2 ⊢;exact p2 σ H2 _ ((e.mono g1).mono g2) λz u H3 g3 r3 ⟨k,ez,p3⟩=>by
   subst ez;exact⟨j,k,zu.mp r2,zu.mp r3,q _ _ H3 (g1.trans (g2.trans g3)) (zW.mpr rfl) p3⟩
 ·rw [Mv hg] at p2 ⊢;exact q _ _ H2 (g1.trans g2) (zW.mpr rfl) p2
theorem sR {t:TA} (h:PAd K f t ρ λxs=>(∃ ds,xs=[.dat (.list ds)]/\P (.int ds.length)) \/ (∃ ds,xs=[.dat (.tuple ds)]/\P (.int ds.length))) :
  PEd K f (tCB (λxs H Q=>∃ p ys,xs=[.ref p]/\(SqL K H p ys \/ SqT K H p ys)/\Q (.int ys.length) H) t) ρ P :=
 uY λσ H Q e q=>h σ H Q e λxs vs H' g r p=>by
  rcases p with⟨ds,rfl,p⟩ | ⟨ds,rfl,p⟩
  ·refine q _ vs H' g r ⟨_,rfl,λvs H Q fo rs k=>?_⟩;obtain⟨x,r,rfl,h2,h3⟩:=zG.mp rs;rw [zT.mp h3];obtain⟨a,ys,rfl,s1,s2⟩:=zJ.mp h2;exact⟨a,ys,rfl,.inl ((zp _ _).seq s1),k (.int ds.length) _ H (.refl fo) (zu.mpr (by rw [s2.length])) p⟩
  ·refine q _ vs H' g r ⟨_,rfl,λvs H Q fo rs k=>?_⟩;obtain⟨x,r,rfl,h2,h3⟩:=zG.mp rs;rw [zT.mp h3];obtain⟨a,ys,rfl,s1,s2⟩:=zR.mp h2;exact⟨a,ys,rfl,.inr ((zp _ _).seqT s1),k (.int ds.length) _ H (.refl fo) (zu.mpr (by rw [s2.length])) p⟩
theorem fX {t:TA} (h:PAd K f t ρ λxs=>∃ ns:M4,xs=[.dat (.list (ns.map .int))]/\ns≠[]/\∀ M,M∈ns->(∀ b∈ns,M<=b)->P (.int M)) :
  PEd K f (tCB (λxs H Q=>∃ a ns,xs=[.ref a]/\SqL K H a (ns.map V.int)/\ns≠[]/\∀ M,M∈ns->(∀ b∈ns,M<=b)->Q (.int M) H) t) ρ P :=
 uY λσ H Q e q=>h σ H Q e λxs vs H' g r ⟨ns,ex,hne,p⟩=>by
  subst ex;refine q _ vs H' g r ⟨_,rfl,λvs H Q fo rs k=>?_⟩;obtain⟨x,r,rfl,h2,h3⟩:=zG.mp rs;rw [zT.mp h3];obtain⟨a,ys,rfl,s1,s2⟩:=zJ.mp h2;rw [s2.ints] at s1;exact⟨a,ns,rfl,(zp _ _).seq s1,hne,λM h1 h2=>k (.int M) _ H (.refl fo) (zu.mpr rfl) (p M h1 h2)⟩
theorem cm {t:TA} (h:PAd K f t ρ λxs=>∃ ns:M4,xs=[.dat (.list (ns.map .int))]/\ns≠[]/\∀ M,M∈ns->(∀ b∈ns,b<=M)->P (.int M)) :
  PEd K f (tCB (λxs H Q=>∃ a ns,xs=[.ref a]/\SqL K H a (ns.map V.int)/\ns≠[]/\∀ M,M∈ns->(∀ b∈ns,b<=M)->Q (.int M) H) t) ρ P :=
 uY λσ H Q e q=>h σ H Q e λxs vs H' g r ⟨ns,ex,hne,p⟩=>by
  subst ex;refine q _ vs H' g r ⟨_,rfl,λvs H Q fo rs k=>?_⟩;obtain⟨x,r,rfl,h2,h3⟩:=zG.mp rs;rw [zT.mp h3];obtain⟨a,ys,rfl,s1,s2⟩:=zJ.mp h2;rw [s2.ints] at s1;exact⟨a,ns,rfl,(zp _ _).seq s1,hne,λM h1 h2=>k (.int M) _ H (.refl fo) (zu.mpr rfl) (p M h1 h2)⟩
theorem EF {g:Int->Int->Int} {t:TA} (h:PAd K f t ρ λxs=>∃ i j,xs=[.dat (.int i),.dat (.int j)]/\P (.int (g i j))):PEd K f (tCB (λxs H Q=>∃ i j,xs=[.int i,.int j]/\Q (.int (g i j)) H) t) ρ P :=
 uY λσ H Q e q=>h σ H Q e λxs vs H' g' r ⟨i,j,ex,p⟩=>by
  subst ex;refine q _ vs H' g' r ⟨_,rfl,λvs H Q fo rs k=>?_⟩;obtain⟨x,r,rfl,h2,h3⟩:=zG.mp rs;obtain⟨y,r',rfl,h4,h5⟩:=zG.mp h3;rw [zT.mp h5,zu.mp h2,zu.mp h4];exact⟨i,j,rfl,k _ _ H (.refl fo) (zu.mpr rfl) p⟩
theorem EG {g:Int->Int} {t:TA} (h:PAd K f t ρ λxs=>∃ i,xs=[.dat (.int i)]/\P (.int (g i))):PEd K f (tCB (λxs H Q=>∃ i,xs=[.int i]/\Q (.int (g i)) H) t) ρ P :=
 uY λσ H Q e q=>h σ H Q e λxs vs H' g' r ⟨i,ex,p⟩=>by
  subst ex;refine q _ vs H' g' r ⟨_,rfl,λvs H Q fo rs k=>?_⟩;obtain⟨x,r,rfl,h2,h3⟩:=zG.mp rs;rw [zT.mp h3,zu.mp h2];exact⟨i,rfl,k _ _ H (.refl fo) (zu.mpr rfl) p⟩
end
section
variable {K:Hj} {f:Fx} {ρ:zr} {D:DEnds} {te ta tb:TE} {tt:TT} {ts tu:TS}
theorem aM (p:D.nx ρ):PSd K f sH ρ D:=λσ H E e n _ _ _=>n ρ σ H (.refl e.fd) e p
theorem yq (h:PSd K f ts ρ { D with nx:=λρ'=>PSd K f tu ρ' D }):PSd K f (aP ts tu) ρ D:=λσ H E e n r b c =>
 h σ H { E with nx:=tu E } e (λρ' σ' H' g e' p=>p σ' H' E e' (λρ'' σ'' H'' g' e'' p'=>n ρ'' σ'' H'' (g.trans g') e'' p') (λd v H'' g' r' p'=>r d v H'' (g.trans g') r' p') (λρ'' σ'' H'' g' e'' p'=>b ρ'' σ'' H'' (g.trans g') e'' p') (λρ'' σ'' H'' g' e'' p'=>c ρ'' σ'' H'' (g.trans g') e'' p')) r b c
theorem yA (h:PEd K f te ρ D.rt):PSd K f (hJ te) ρ D:=λσ H E e n r b c=>h σ H _ e r
theorem aU (h:PEd K f te ρ λ_=>D.nx ρ):PSd K f (mC te) ρ D:=λσ H E e n r b c=>h σ H _ e λd v H' g _ p=>n ρ σ H' g (e.mono g) p
theorem fY (h:PTd K f tt ρ λb=>if b=MC then PSd K f ts ρ D else PSd K f tu ρ D):PSd K f (xp tt ts tu) ρ D:=λσ H E e n r b c=>h σ H _ e λk H1 g p=>by
 cases k with
 | true =>
  rw [Mw rfl] at p ⊢;exact p σ H1 E (e.mono g) (λρ'' σ'' H'' g' e'' p'=>n ρ'' σ'' H'' (g.trans g') e'' p') (λd v H'' g' r' p'=>r d v H'' (g.trans g') r' p') (λρ'' σ'' H'' g' e'' p'=>b ρ'' σ'' H'' (g.trans g') e'' p') (λρ'' σ'' H'' g' e'' p'=>c ρ'' σ'' H'' (g.trans g') e'' p')
 | false =>
  rw [Mv He] at p ⊢;exact p σ H1 E (e.mono g) (λρ'' σ'' H'' g' e'' p'=>n ρ'' σ'' H'' (g.trans g') e'' p') (λd v H'' g' r' p'=>r d v H'' (g.trans g') r' p') (λρ'' σ'' H'' g' e'' p'=>b ρ'' σ'' H'' (g.trans g') e'' p') (λρ'' σ'' H'' g' e'' p'=>c ρ'' σ'' H'' (g.trans g') e'' p')
def PGd (K:Hj) (f:Fx) (g:TG) (d:MB) (ρ:zr) (R:zr->Prop):Prop:=∀ (σ:St) (H:Hp) (v:V) (Q:St->Hp->Prop),EnvOk K f ρ σ H->Rep K (hide H f) d v->(∀ ρ' σ' H',Goes f H H'->EnvOk K f ρ' σ' H'->R ρ'->Q σ' H')->g v σ H Q
def xP (K:Hj) (f:Fx) (g:TGs) (ds:M9) (ρ:zr) (R:zr->Prop):Prop:=∀ (σ:St) (H:Hp) (vs:List V) (Q:St->Hp->Prop),EnvOk K f ρ σ H->Reps K (hide H f) ds vs->(∀ ρ' σ' H',Goes f H H'->EnvOk K f ρ' σ' H'->R ρ'->Q σ' H')->g vs σ H Q
theorem zg {i:Nat} {d:MB} {R:zr->Prop} (h:R (ρ.set i (MA (.dat d)))):PGd K f (jA i) d ρ R:=λσ H v Q e r q=>q _ _ H (.refl e.fd) (e.set i (x:=.dat d) r) h
theorem zP {R:zr->Prop} (h:R ρ):xP K f Ej [] ρ R:=λσ H vs Q e r q=>⟨zT.mp r,q ρ σ H (.refl e.fd) e h⟩
theorem zo {g:TG} {gs:TGs} {d:MB} {ds:M9} {R:zr->Prop} (h:PGd K f g d ρ λρ'=>xP K f gs ds ρ' R):xP K f (sI g gs) (d :: ds) ρ R:=λσ H vs Q e r q=>by
 obtain⟨x,r',rfl,h2,h3⟩:=zG.mp r;exact⟨x,r',rfl,h σ H x _ e h2 λρ' σ' H' g' e' p=>p σ' H' r' Q e' (Reps.mono g'.1 ds r' h3) λρ'' σ'' H'' g'' e'' p'=>q ρ'' σ'' H'' (g'.trans g'') e'' p'⟩
theorem yg {n:Nat} {gs:TGs} {ds:M9} {R:zr->Prop} (hn:ds.length=n) (h:xP K f gs ds ρ R):PGd K f (BQ K n gs) (.tuple ds) ρ R:=λσ H v Q e r q=>by
 obtain⟨a,xs,rfl,h1,h2⟩:=zR.mp r;exact⟨a,xs,rfl,(zp _ _).seqT h1,by rw [h2.length];exact hn,h σ H xs Q e h2 q⟩
theorem yb {g:TG} (h:PEd K f te ρ λd=>PGd K f g d ρ D.nx):PSd K f (vP te g) ρ D:=λσ H E e n r b c =>
 h σ H _ e λd v H1 g1 r1 p1=>p1 σ H1 v _ (e.mono g1) r1 λρ' σ' H' g' e' p'=>n ρ' σ' H' (g1.trans g') e' p'
end
section
variable {K:Hj} {f:Fx} {ρ:zr} {D:DEnds} {te ta tb:TE} {tt:TT} {ts tu:TS} {g:TG}
theorem o6 {t:TA} (h:PAd K f t ρ λxs=>∃ ds,xs=[.dat (.list ds)]/\∃ J:Nat->zr->Prop,J 0 ρ /\
   (∀ (i:Nat) d ρ',ds[i]?=MA d->J i ρ'->PGd K f g (.tuple [.int i,d]) ρ' λρ2=>PSd K f ts ρ2 { D with nx:=J (i+1),ct:=J (i+1),bk:=D.nx })/\∀ ρ',J ds.length ρ'->D.nx ρ') :
  PSd K f (uJ (sQ K t) g ts) ρ D:=λσ H E e n r b c=>h σ H _ e λxs vs H1 g1 r1 ⟨ds,ex,J,j0,js,jd⟩=>by
 subst ex;cases r1 with
 | cons rx r' =>
  cases r';obtain⟨a,xs,rfl,h1,h2⟩:=zJ.mp rx;have hl:=h2.length;refine⟨a,rfl,⟨xs,(zp _ _).seq h1⟩,xJ (K:=K) (a:=a) (xs:=xs) (λi σ' H'=>∃ ρ',EnvOk K f ρ' σ' H'/\Goes f H H'/\Goes f H1 H'/\J i ρ') ⟨ρ,e.mono g1,g1,.refl g1.2,j0⟩ (λi σ' H' _ ⟨ρ',e',g',g1',p⟩=>(zp _ _).seq (g1'.1.seq h1)) (λi y σ' H' tp hy ⟨ρ',e',g',g1',p⟩ hn=>?_) λσ' H' ⟨ρ',e',g',_,p⟩=>n ρ' σ' H' g' e' (jd ρ' (by rw [<-hl];exact p))⟩;have hi:i<ds.length:=by rw [<-hl];exact (Hg.mp hy).1
  obtain⟨z,hz,rz⟩:=h2.get (Hd hi);rw [hy] at hz;cases hz;have gn:Goes f H' (upd H' tp (.tup [.int i,y])):=.of_same (ye hn _) e'.fd;have rt:Rep K (hide (upd H' tp (.tup [.int i,y])) f) (.tuple [.int i,ds[i]]) (.ref tp):=zR.mpr ⟨tp,_,rfl,.of (zI (fresh_ne e'.fd hn) zw),.cons' (zu.mpr rfl) (.cons' (Rep.mono gn.1 _ _ (Rep.mono g1'.1 _ _ rz)) .nil')⟩;refine js i _ ρ' (Hd hi) p σ' _ _ _ (e'.mono gn) rt λρ2 σ2 H2 g2' e2 p2=>?_;have g2:=gn.trans g2';exact p2 σ2 H2 _ e2 (λρ3 σ3 H3 g3 e3 p3=>⟨ρ3,e3,g'.trans (g2.trans g3),g1'.trans (g2.trans g3),p3⟩) (λd v H3 g3 r3 p3=>r d v H3 (g'.trans (g2.trans g3)) r3 p3) (λρ3 σ3 H3 g3 e3 p3=>n ρ3 σ3 H3 (g'.trans (g2.trans g3)) e3 p3) (λρ3 σ3 H3 g3 e3 p3=>⟨ρ3,e3,g'.trans (g2.trans g3),g1'.trans (g2.trans g3),p3⟩)
end
noncomputable def frD (fr:M8) (ρ:zr):zr:=fr.map λj=>(ρ[j]?).getD MF
noncomputable def ao (own:Nat) (fr:M8) (ρ:zr):zr:=JB own MF++frD fr ρ
noncomputable abbrev Fx.with (f:Fx) (D:Hm):Fx:=⟨f.f,D :: f.M⟩
section
variable {K:Hj} {f:Fx} {ρ:zr} {σ:St} {H H':Hp} {D:Hm} {o:HO}
theorem iE {own:Nat} {fr:M8} (e:EnvOk K f ρ σ H):EnvOk K f (ao own fr ρ) (jm own fr σ) H:=by
 refine⟨by unfold ao jm frD;simp,λi x h=>?_,e.fd⟩;unfold ao frD at h;unfold jm;by_cases hi:i<own
 ·rw [HE (by simpa using hi),J6] at h;split at h <;> cases h
 ·rw [HL (by simpa using hi)] at h ⊢;simp only [K2,Ho] at h ⊢;cases hj:fr[i - own]? with
  | none=>rw [hj] at h;cases h
  | some j =>
   rw [hj] at h;have h':(ρ[j]?).getD MF=MA x:=ML h;have hρ:ρ[j]?=MA (MA x):=by
    cases q:ρ[j]? with
    | none=>rw [q] at h';cases h'
    | some w=>rw [q] at h';exact congrArg MA h'
   obtain⟨v,h1,h2⟩:=e.get j x hρ;exact⟨v,by simp [h1],h2⟩
theorem yy:hide (upd H D o) (f.with D)=hide H (f.with D):=by
 funext b
 unfold hide;by_cases hb:f.f=MA b \/ b∈D :: f.M
 ·rw [Mw hb,Mw hb]
 ·rw [Mv hb,Mv hb];have:b≠D:=λz=>hb (.inr (z▸Hk));exact zz this
theorem jO:Same (hide H (f.with D)) (hide H f):=λb o h=>by
 obtain⟨h1,h2⟩:=zZ h;exact zI (λz=>h1 (z.elim .inl λz=>.inr (Hl _ z))) h2
theorem qH (hn:H D=MF):Same (hide H f) (hide (upd H D o) (f.with D)):=λb u h=>by
 obtain⟨h1,h2⟩:=zZ h;have hb:b≠D:=zQ h2 hn;exact zI (λz=>z.elim (λz=>h1 (.inl z)) λz=>(Hv.mp z).elim hb λz=>h1 (.inr z)) (by rw [zz hb];exact h2)
theorem EH (h:FOk f H) (hn:H D=MF):FOk (f.with D) (upd H D o) :=
 ⟨λp e=>let⟨a,b,h1,h2⟩:=h.fd p e;⟨a,b,by rw [zz (zQ h1 hn)];exact h1,h2⟩,λb hb=>by
  rcases Hv.mp hb with rfl | hb
  ·exact⟨_,zw⟩
  ·obtain⟨o',h1⟩:=h.mm b hb;exact⟨o',by rw [zz (zQ h1 hn)];exact h1⟩,λp e hp=>by
  rcases Hv.mp hp with rfl | hp
  ·exact fresh_ne h hn (.inl e)
  ·exact h.nm p e hp⟩
theorem o7 (e:EnvOk K f ρ σ H) (hn:H D=MF):EnvOk K (f.with D) ρ σ (upd H D o) :=
 ⟨e.len,λi x h=>let⟨v,h1,h2⟩:=e.get i x h;⟨v,h1,by
  cases x with
  | dat d=>exact Rep.mono (qH hn) d v h2
  | feed=>exact h2
  | own k =>
   obtain⟨p,h3,h4⟩:=h2;refine⟨p,?_,h4⟩;show (D :: f.M).reverse[k]?=MA p;rw [Lx,HE (Hg.mp h3).1];exact h3
  | exc C =>
   obtain⟨a,h3,h4⟩:=h2;exact⟨a,h3,qH hn _ _ h4⟩
  | mon φ=>exact λH' s=>h2 H' ((qH hn).trans s)⟩,EH e.fd hn⟩
theorem sS (hD:f.f≠MA D) (e:EnvOk K (f.with D) ρ σ H):EnvOk K (f.with D) ρ σ (upd H D o) :=
 ⟨e.len,λi x h=>let⟨v,h1,h2⟩:=e.get i x h;⟨v,h1,by
  cases x with
  | dat d =>
   have h2':Rep K (hide H (f.with D)) d v:=h2;show Rep K (hide (upd H D o) (f.with D)) d v;rw [yy];exact h2'
  | feed=>exact h2
  | own k=>exact h2
  | exc C =>
   obtain⟨a,h3,h4⟩:=h2;refine⟨a,h3,?_⟩;rw [yy];exact h4
  | mon φ =>
   intro H' s;rw [yy] at s;exact h2 H' s⟩,⟨λp ep=>let⟨a,b,h1,h2⟩:=e.fd.fd p ep;⟨a,b,by rw [zz (λz=>hD (by rw [<-z];exact ep))];exact h1,h2⟩,λb hb=>by
   by_cases hb':b=D
   ·subst hb';exact⟨_,zw⟩
   ·rw [zz hb'];exact e.fd.mm b hb,e.fd.nm⟩⟩
end
section
variable {K:Hj} {f:Fx} {ρ:zr} {P:MB->Prop} {te tl:TE} {tt:TT} {g:TG} {own:Nat} {fr:M8}
structure CSt (K:Hj) (f:Fx) (D:Hm) (H2:Hp) (ρ':zr) (es:M9) (σ:St) (H:Hp):Prop where
 env:EnvOk K (f.with D) ρ' σ H
 sm:Same (hide H2 (f.with D)) (hide H (f.with D))
 kp:∀ b∈f.M,H b=H2 b
 lst:∃ vs,H D=MA (.lst vs)/\Reps K (hide H (f.with D)) es vs
theorem CSt.go {D:Hm} {H2 H H':Hp} {ρ':zr} {es:M9} {σ:St} (c:CSt K f D H2 ρ' es σ H) (gg:Goes (f.with D) H H') {ρ2:zr} {σ2:St} (e2:EnvOk K (f.with D) ρ2 σ2 H'):CSt K f D H2 ρ2 es σ2 H' :=
 ⟨e2,c.sm.trans gg.sm,λb hb=>(gg.kp b (Hl _ hb)).trans (c.kp b hb),let⟨vs,h1,h2⟩:=c.lst;⟨vs,(gg.kp D Hk).trans h1,Reps.mono gg.sm es vs h2⟩⟩
theorem CSt.put {D:Hm} {H2 H:Hp} {ρ':zr} {es:M9} {σ:St} {d:MB} {v:V} {vs:List V} (hD:f.f≠MA D) (hM:D∉f.M) (c:CSt K f D H2 ρ' es σ H) (h1:H D=MA (.lst vs)) (h2:Reps K (hide H (f.with D)) es vs) (r:Rep K (hide H (f.with D)) d v) :
  CSt K f D H2 ρ' (es++[d]) σ (upd H D (.lst (vs++[v]))) :=
 ⟨sS hD c.env,by rw [yy];exact c.sm,λb hb=>(zz (λ(z:b=D)=>hM (z▸hb))).trans (c.kp b hb),⟨_,zw,by rw [yy];exact h2.snoc r⟩⟩
theorem iF {D:Hm} {H2 H:Hp} {ρ':zr} {es:M9} {σ:St} {d:MB} {v:V} {W:St->Hp->Prop} {R:zr->M9->Prop} (hD:f.f≠MA D) (hM:D∉f.M) (c:CSt K f D H2 ρ' es σ H) (hl:es.length<1000) (r:Rep K (hide H (f.with D)) d v)
  (h:PGd K (f.with D) g d ρ' λρ2=>PTd K (f.with D) tt ρ2 λb=>if b=MC then PEd K (f.with D) te ρ2 λe=>R ρ2 (es++[e]) else R ρ2 es)
  (hW:∀ ρ2 es2 σ2 H',CSt K f D H2 ρ2 es2 σ2 H'->R ρ2 es2->W σ2 H') :
  g v σ H λσ2 H3=>tt σ2 H3 λb H4=>if b=MC then aL D te σ2 H4 W else W σ2 H4:=by
 refine h σ H v _ c.env r λρ2 σ2 H3 g3 e3 p3=>?_;have c3:=c.go g3 e3;refine p3 σ2 H3 _ e3 λb H4 g4 p4=>?_;have c4:=c3.go g4 (e3.mono g4);cases b with
 | false =>
  rw [Mv He] at p4 ⊢;exact hW _ _ _ _ c4 p4
 | true =>
  rw [Mw rfl] at p4 ⊢;refine p4 σ2 H4 _ (e3.mono g4) λe u H5 g5 r5 p5=>?_;have c5:=c4.go g5 ((e3.mono g4).mono g5);obtain⟨vs,h1,h2⟩:=c5.lst;exact⟨vs,h1,zY (by rw [h2.length];omega),hW _ _ _ _ (c5.put hD hM h1 h2 r5) p5⟩
theorem fZ {D:Hm} {H1 H:Hp} {ρ':zr} {es:M9} {σ σ':St} (hn:H1 D=MF) (fo:FOk f H1) (c:CSt K f D (upd H1 D (.lst [])) ρ' es σ H):Goes f H1 H/\Rep K (hide H f) (.list es) (.ref D):=by
 obtain⟨vs,h1,h2⟩:=c.lst;have nD:=fresh_ne fo hn;refine⟨⟨((qH hn).trans c.sm).trans jO,⟨c.env.fd.fd,λb hb=>c.env.fd.mm b (Hl _ hb),λp e hp=>c.env.fd.nm p e (Hl _ hp)⟩,λb hb=>?_⟩,zJ.mpr ⟨D,vs,rfl,.of (zI nD h1),Reps.mono jO es vs h2⟩⟩;rw [c.kp b hb,zz];obtain⟨o,h3⟩:=fo.mm b hb;exact zQ h3 hn
theorem cq {D:Hm} {H1:Hp} {σ:St} (hn:H1 D=MF) (e:EnvOk K f ρ σ H1):CSt K f D (upd H1 D (.lst [])) (ao own fr ρ) [] (jm own fr σ) (upd H1 D (.lst [])) :=
 ⟨o7 (iE e) hn,Same.refl _,λ_ _=>rfl,⟨[],zw,.nil'⟩⟩
theorem B1 {t:TA} (h:PAd K f t ρ λxs=>∃ j:Int,xs=[.dat (.int j)]/\j<=1000/\-1000<=j/\∃ R:Nat->zr->M9->Prop,R 0 (ao own fr ρ) [] /\
   (∀ D (i:Nat) ρ' es,(i:Int)<j->R i ρ' es->PGd K (f.with D) g (.int i) ρ' λρ2=>PTd K (f.with D) tt ρ2 λb=>if b=MC then PEd K (f.with D) te ρ2 λe=>R (i+1) ρ2 (es++[e]) else R (i+1) ρ2 es) /\
   (∀ i ρ' es,R i ρ' es->es.length<=i)/\∀ ρ' es,R j.toNat ρ' es->P (.list es)) :
  PEd K f (qE (sL t) own fr g tt λD=>aL D te) ρ P:=λσ H Q e q=>h σ H _ e λxs vs H1 g1 r1 ⟨j,ex,b1,b2,R,r0,rs,rl,re⟩=>by
 subst ex;cases r1 with
 | @cons _ v0 _ _ rx r' =>
  cases r';have rx':Rep K (hide H1 f) (.int j) v0:=rx;refine⟨j,by rw [zu.mp rx'],by omega,by omega,λD hn=>?_⟩;have nD:=fresh_ne g1.2 hn;have hD:f.f≠MA D:=λz=>nD (.inl z);have hM:D∉f.M:=λz=>nD (.inr z);have e1:=e.mono g1;refine⟨λi m σ' H'=>∃ ρ' es,CSt K f D (upd H1 D (.lst [])) ρ' es σ' H'/\R i ρ' es/\i<=j.toNat/\m+i=j.toNat,⟨j.toNat,_,[],cq hn e1,r0,HR _,rfl⟩,λi m σ' H' ⟨ρ',es,c,p,hi,hm⟩=>?_⟩;by_cases hlt:i<j.toNat
  ·refine .inr ⟨hlt,λx H3 hy=>?_⟩;obtain⟨rfl,rfl⟩:=hy;have hz:(0:Int)+(i:Int)=(i:Int):=Int.zero_add _;rw [hz];refine iF (R:=R (i+1)) hD hM c (by have:=rl i ρ' es p;omega) ((zu (K:=K)).mpr rfl) (rs D i ρ' es (by omega) p) λρ2 es2 σ2 H4 c2 p2=>?_;exact⟨m - 1,by omega,ρ2,es2,c2,p2,by omega,by omega⟩
  ·have ei:i=j.toNat:=by omega
   subst ei;obtain⟨ge,rep⟩:=fZ (σ':=σ') hn g1.2 c;exact .inl ⟨Ht _,q _ _ H' (g1.trans ge) rep (re ρ' es p)⟩
theorem EI (h:PEd K f tl ρ λx=>∃ ds,x=.list ds/\ds.length<=1000/\∃ R:Nat->zr->M9->Prop,R 0 (ao own fr ρ) [] /\
   (∀ D (i:Nat) d ρ' es,ds[i]?=MA d->R i ρ' es->PGd K (f.with D) g d ρ' λρ2=>PTd K (f.with D) tt ρ2 λb=>if b=MC then PEd K (f.with D) te ρ2 λe=>R (i+1) ρ2 (es++[e]) else R (i+1) ρ2 es) /\
   (∀ i ρ' es,R i ρ' es->es.length<=i)/\∀ ρ' es,R ds.length ρ' es->P (.list es)) :
  PEd K f (qE (fN K tl) own fr g tt λD=>aL D te) ρ P:=λσ H Q e q=>h σ H _ e λx v H1 g1 r1 ⟨ds,ex,hz,R,r0,rs,rl,re⟩=>by
 subst ex;obtain⟨a,xs,rfl,s1,s2⟩:=zJ.mp r1;have hl:=s2.length;refine⟨a,rfl,⟨xs,(zp _ _).seq s1⟩,λD hn=>?_⟩;have nD:=fresh_ne g1.2 hn;have hD:f.f≠MA D:=λz=>nD (.inl z);have hM:D∉f.M:=λz=>nD (.inr z);have e1:=e.mono g1;have keep:∀ {ρ':zr} {es:M9} {σ':St} {H':Hp},CSt K f D (upd H1 D (.lst [])) ρ' es σ' H'->Same (hide H1 f) (hide H' (f.with D)):=λc=>(qH hn).trans c.sm;refine⟨λi m σ' H'=>∃ ρ' es,CSt K f D (upd H1 D (.lst [])) ρ' es σ' H'/\R i ρ' es/\i<=ds.length/\m+i=ds.length,⟨ds.length,_,[],cq hn e1,r0,HR _,rfl⟩,λi m σ' H' ⟨ρ',es,c,p,hi,hm⟩=>?_⟩;have sq:SqL K H' a xs:=(zp _ _).seq ((keep c).seq s1);by_cases hlt:i<ds.length
 ·obtain⟨z,hzz,rz⟩:=s2.get (Hd hlt);refine .inr ⟨⟨xs,z,sq,hzz⟩,λx H3 hy=>?_⟩;obtain⟨rfl,hy⟩:=hy;have ez:=hy xs sq;rw [hzz] at ez;cases ez;refine iF (R:=R (i+1)) hD hM c (by have:=rl i ρ' es p;omega) (Rep.mono (keep c) _ _ rz) (rs D i _ ρ' es (Hd hlt) p) λρ2 es2 σ2 H4 c2 p2=>?_;exact⟨m - 1,by omega,ρ2,es2,c2,p2,by omega,by omega⟩
 ·have ei:i=ds.length:=by omega
  subst ei;obtain⟨ge,rep⟩:=fZ (σ':=σ') hn g1.2 c;exact .inl ⟨⟨xs,sq,by omega⟩,q _ _ H' (g1.trans ge) rep (re ρ' es p)⟩
theorem mQ {t:TA} (h:PAd K f t ρ λxs=>∃ j:Int,xs=[.dat (.int j)]/\j<=1000/\-1000<=j/\∃ R:Nat->MB->Prop,
   (∀ D (i:Nat),(i:Int)<j->PEd K (f.with D) te (MA (.dat (.int i)) :: frD fr ρ) (R i))/\∀ es:M9,es.length=j.toNat->(∀ (i:Nat) e,es[i]?=MA e->R i e)->P (.list es)) :
  PEd K f (qE (sL t) 1 fr (jA 0) xI λD=>aL D te) ρ P :=
 B1 λσ H Q e q=>h σ H Q e λxs vs H' g' r' ⟨j,ex,b1,b2,R,rs,re⟩=>by
  refine q xs vs H' g' r' ⟨j,ex,b1,b2,λi ρ' es=>(∃ x,ρ'=x :: frD fr ρ)/\es.length=i/\∀ (k:Nat) e,es[k]?=MA e->R k e,⟨⟨MF,rfl⟩,rfl,λk e h=>by simp at h⟩,λD i ρ' es hi p=>?_,λi ρ' es p=>JA p.2.1,λρ' es p=>re es p.2.1 p.2.2⟩;obtain⟨⟨x,rfl⟩,hl,hp⟩:=p;refine zg ?_;intro σ H Q e q;refine q MC H (.refl e.fd) ?_;dsimp only;rw [Mw rfl];refine (rs D i hi).imp λd hd=>⟨⟨_,rfl⟩,by rw [HA,hl];rfl,λk e hk=>?_⟩;by_cases hkl:k<es.length
  ·rw [HE hkl] at hk;exact hp k e hk
  ·rw [HL (by omega)] at hk;have hk0:k - es.length=0:=by
    have:=(Hg.mp hk).1;simp at this;omega
   rw [hk0] at hk;cases hk;have:k=i:=by omega
   subst this;exact hd
theorem fb (h:PEd K f tl ρ λx=>∃ ds,x=.list ds/\ds.length<=1000/\∃ R:Nat->MB->Prop,
   (∀ D (i:Nat) d,ds[i]?=MA d->PEd K (f.with D) te (MA (.dat d) :: frD fr ρ) (R i))/\∀ es:M9,es.length=ds.length->(∀ (i:Nat) e,es[i]?=MA e->R i e)->P (.list es)) :
  PEd K f (qE (fN K tl) 1 fr (jA 0) xI λD=>aL D te) ρ P :=
 EI (h.imp λx ⟨ds,ex,hz,R,rs,re⟩=>by
  refine⟨ds,ex,hz,λi ρ' es=>(∃ x,ρ'=x :: frD fr ρ)/\es.length=i/\∀ (k:Nat) e,es[k]?=MA e->R k e,⟨⟨MF,rfl⟩,rfl,λk e h=>by simp at h⟩,λD i d ρ' es hi p=>?_,λi ρ' es p=>JA p.2.1,λρ' es p=>re es p.2.1 p.2.2⟩;obtain⟨⟨x,rfl⟩,hl,hp⟩:=p;refine zg ?_;intro σ H Q e q;refine q MC H (.refl e.fd) ?_;dsimp only;rw [Mw rfl];refine (rs D i d hi).imp λd hd=>⟨⟨_,rfl⟩,by rw [HA,hl];rfl,λk e hk=>?_⟩;by_cases hkl:k<es.length
  ·rw [HE hkl] at hk;exact hp k e hk
  ·rw [HL (by omega)] at hk;have hk0:k - es.length=0:=by
    have:=(Hg.mp hk).1;simp at this;omega
   rw [hk0] at hk;cases hk;have:k=i:=by omega
   subst this;exact hd)
end
section
variable {K:Hj} {f:Fx} {ρ:zr} {D:DEnds} {te:TE} {i:Nat}
theorem mR {σ:St} {H:Hp} {p:Hm} {a b:Int} (e:EnvOk K f ρ σ H) (ef:f.f=MA p) (h0:0<=a) (h1:0<=b) (h2:b<2147483647):Goes f H (upd H p (.lst [.int a,.int b])) :=
 have hM:=e.fd.nm p ef
 ⟨λx o h=>by
  obtain⟨n,hx⟩:=zZ h;exact zI n (by rw [zz (λz=>n (.inl (by rw [z];exact ef)))];exact hx),
 ⟨λq eq=>by
   rw [ef] at eq;cases eq;exact⟨a,b,zw,h0,h1,h2⟩,λx hx=>by
   by_cases hxp:x=p
   ·subst hxp;exact absurd hx hM
   ·rw [zz hxp];exact e.fd.mm x hx,e.fd.nm⟩,
λx hx=>zz (λz=>hM (z▸hx))⟩
theorem B2 (hi:ρ[i]?=MA (MA .feed)) (h:PEd K f te ρ λd=>∃ a:Int,d=.int a/\0<=a/\D.nx ρ):PSd K f (vP te (oP (yt i) (tC (.int 0)) mI)) ρ D:=λσ H E e n r b c=>h σ H _ e λd v H1 g1 r1 ⟨a,ed,h0,p⟩=>by
 subst ed;obtain⟨u,h1,q,ef,eu⟩:=e.get i _ hi;obtain⟨a',b',hf,c1,c2,c3⟩:=g1.2.fd q ef;refine⟨u,h1,q,_,0,0,eu,rfl,hf,rfl,?_⟩;rw [zu.mp r1];have g2:Goes f H1 (upd H1 q (.lst [.int a,.int b'])):=mR (e.mono g1) ef h0 c2 c3;exact n ρ σ _ (g1.trans g2) ((e.mono g1).mono g2) p
theorem B3 (hi:ρ[i]?=MA (MA .feed)) (h:PEd K f te ρ λd=>∃ a:Int,d=.int a/\0<=a/\a<2147483647/\D.nx ρ):PSd K f (vP te (oP (yt i) (tC (.int 1)) mI)) ρ D:=λσ H E e n r b c=>h σ H _ e λd v H1 g1 r1 ⟨a,ed,h0,h0',p⟩=>by
 subst ed;obtain⟨u,h1,q,ef,eu⟩:=e.get i _ hi;obtain⟨a',b',hf,c1,c2,c3⟩:=g1.2.fd q ef;refine⟨u,h1,q,_,1,1,eu,rfl,hf,rfl,?_⟩;rw [zu.mp r1];have g2:Goes f H1 (upd H1 q (.lst [.int a',.int a])):=mR (e.mono g1) ef c1 h0 h0';exact n ρ σ _ (g1.trans g2) ((e.mono g1).mono g2) p
end
theorem aV {X:Cx} {x:Str} {i:Int} {t:Tok} {pos:Pos} (hg:Gl X x) (hm:X.mg x=MA (.int i t)) (hd:(x == ("__debug__":Str))=MG:=by decide):PE X (.Name x pos) (tC (.int i)):=BP hg hm ⟨t,rfl⟩ hd
noncomputable def qz (N:MU) (xs:List DV):zr:=xs.map MA++JB (N.length - xs.length) MF
theorem jP {K:Hj} {f:Fx} {H:Hp} {N:MU} {xs:List DV} {vs:List V} (r:RepVs K f H xs vs) (fo:FOk f H):EnvOk K f (qz N xs) (start N vs) H:=by
 have hl:=r.length;refine⟨by unfold qz start;simp [hl],λi x h=>?_,fo⟩;unfold qz at h;unfold start;have get:∀ {xs:List DV} {vs:List V} {i:Nat} {x:DV},RepVs K f H xs vs->xs[i]?=MA x->∃ v,vs[i]?=MA v/\RepV K f H x v:=by
  intro xs vs i x r
  induction r generalizing i with
  | nil=>intro h;simp at h
  | cons r1 r2 ih =>
   intro h;cases i with
   | zero=>simp at h;subst h;exact⟨_,rfl,r1⟩
   | succ i=>simp at h;obtain⟨v,h1,h2⟩:=ih h;exact⟨v,by simpa using h1,h2⟩
 by_cases hi:i<xs.length
 ·rw [HE (by simpa using hi),Ho] at h;cases q:xs[i]? with
  | none=>rw [q] at h;cases h
  | some y =>
   rw [q] at h;cases h;obtain⟨v,h1,h2⟩:=get r q;exact⟨v,by rw [HE (by simp;omega),Ho,h1];rfl,h2⟩
 ·rw [HL (by simpa using hi),J6] at h;split at h <;> cases h
structure Def (K:Hj) (mg:Str->MR) (x:Str) (st:Stmt) (ps:MU):Prop where
 ex:∃ (f:Hm) (fd:FuncData),Fun K x x st f fd/\Binds K fd ps []/\mg x=MA (.ref f)
structure FnIn (P:MI) (w:MH) (K:Hj) (mg:Str->MR) (base:Heap) (k:Nat) (x:Str) (ps:MU) (sp:Sp):Prop where
 ex:∃ (f:Hm) (fd:FuncData),FnOk P w K mg base CX0 k f fd ps sp/\mg x=MA (.ref f)/\Ji K (.ref f)=MC/\Binds K fd ps []
section
variable {P:MI} {w:MH} {K:Hj} {mg:Str->MR} {base:Heap} {j k n:Nat} {x:Str} {st:Stmt} {ps N:MU} {γ:Type} {pre:γ->List DV->Prop} {post:γ->MB->Prop} {sp:Sp}
theorem FnIn.mono (h:FnIn P w K mg base j x ps sp) (hk:j<=k):FnIn P w K mg base k x ps sp :=
 let⟨f,fd,a,b,c,d⟩:=h.ex;⟨f,fd,a.mono hk,b,c,d⟩
theorem Def.ok (F:Def K mg x st ps) (S:FnScope N ps (zh st)) (hn:ps.length=n)
  (h:∀ (fa:Hm) (cdv:MD) (A:MJ) (outer:MV) (s:ME) (H:Hp) (E:XK),Room k (A.deeper (envOfC x (zh st) s.heap.objs.size fa cdv)) ->
   ∃ t,PSs (yd CX0 P w K mg base N x (zh st) fa cdv A outer s H E).nox (yo st) t/\∀ (f:Fx) (xs:List DV) (c:γ),xs.length=n->pre c xs->PSd K f t (qz N xs) { nx:=λ_=>post c .none,rt:=post c }) :
  FnIn P w K mg base (k+1) x ps (spD K n pre post):=by
 obtain⟨fa,fd,F1,F2,F3⟩:=F.ex;refine⟨fa,fd,F1.ok S (λvs H Q E h=>?_) (λcdv A outer s H vs Q E hr hs=>?_),F3,F1.kp,F2⟩
 ·obtain⟨f,xs,c,r,hl,_⟩:=h;rw [r.length,hl,hn]
 ·obtain⟨f,xs,c,r,hl,fo,hp,q⟩:=hs;obtain⟨t,h1,h2⟩:=h fa cdv A outer s H E hr;exact⟨t,h1,h2 f xs c hl hp (start N vs) H _ (jP r fo) (λ_ _ H' g _ p=>q .none _ H' g (jB.mpr rfl) p) (λd v H' g r p=>q d v H' g r p) (λ_ _ _ _ _ z=>z.elim) (λ_ _ _ _ _ z=>z.elim)⟩
theorem Def.raw (F:Def K mg x st ps) (S:FnScope N ps (zh st)) (len:∀ vs H Q E,sp vs H Q E->vs.length=ps.length)
  (h:∀ (fa:Hm) (cdv:MD) (A:MJ) (outer:MV) (s:ME) (H:Hp) (vs:List V) (Q:VK) (E:XK),Room k (A.deeper (envOfC x (zh st) s.heap.objs.size fa cdv))->sp vs H Q E ->
   ∃ t,PSs (yd CX0 P w K mg base N x (zh st) fa cdv A outer s H E).nox (yo st) t/\t { nx:=λ_ H'=>Q .non H',rt:=Q } (start N vs) H) :
  FnIn P w K mg base (k+1) x ps sp:=by
 obtain⟨fa,fd,F1,F2,F3⟩:=F.ex;exact⟨fa,fd,F1.ok S len (λcdv A outer s H vs Q E hr hs=>h fa cdv A outer s H vs Q E hr hs),F3,F1.kp,F2⟩
theorem zf {X:Cx} {e:Expr} {es:MX} {t:TA} {p pos:Pos} (G:FnIn X.prog X.w X.K X.mg X.base k x ps sp) (hr:Room k X.A) (hg:Gl X x) (ha:PA X (e :: es) t) (hdb:(x == ("__debug__":Str))=MG:=by decide)
  (he:Iq (e :: es) X.env=(MG,eval e X.env) :: Iq es X.env:=by rfl) (hpl:(backTo pos (Iq es X.env)).any (·.1)=MG:=by rfl):PE X (.Call (.Name x p) (e :: es) [] pos) (cO sp [] E0 t):=by
 obtain⟨f,fd,a,b,c,d⟩:=G.ex;exact BX a hr hg b c d .nil Gd ha hdb he hpl
end
section
variable {K:Hj} {f:Fx} {ρ:zr} {σ:St} {H:Hp} {E:Ends} {ts tu:TS} {D:DEnds}
theorem xQ (h:PSd K f ts ρ D) (e:EnvOk K f ρ σ H) (hn:∀ ρ' σ' H',Goes f H H'->EnvOk K f ρ' σ' H'->D.nx ρ'->tu E σ' H') (hr:∀ d v H',Goes f H H'->Rep K (hide H' f) d v->D.rt d->E.rt v H') (hb:∀ ρ,¬ D.bk ρ) (hc:∀ ρ,¬ D.ct ρ):aP ts tu E σ H :=
 h σ H { E with nx:=tu E } e hn hr (λρ' _ _ _ _ p=>(hb ρ' p).elim) (λρ' _ _ _ _ p=>(hc ρ' p).elim)
theorem xR {ta:TA} {Q:VK} {R:M9->Prop} (h:PAd K f ta ρ λxs=>∃ ds,vJ xs=MA ds/\ds.length<=1000/\R ds) (e:EnvOk K f ρ σ H)
  (q:∀ p ds vs H1,Goes f H H1->H1 p=MF->Reps K (hide H1 f) ds vs->R ds->Q (.ref p) (upd H1 p (.lst vs))):uP ta σ H Q :=
 h σ H _ e λxs vs H1 g1 r1 ⟨ds,ea,hl,p⟩=>by
  have rs:=aj r1 ea;exact⟨by rw [rs.length];exact IH (zY hl),λl hn=>q l ds vs H1 g1 hn rs p⟩
end
section
variable {K:Hj} {f:Fx} {ρ:zr}
theorem Goes.free {H H':Hp} {p:Hm} (g:Goes f H H') (fo:FOk f H) (h:H' p=MF):H p=MF:=by
 cases q:H p with
 | none=>rfl
 | some o =>
  by_cases hh:f.f=MA p \/ p∈f.M
  ·rcases hh with hh | hh
   ·obtain⟨a,b,h1,_⟩:=g.ok.fd p hh;rw [h] at h1;cases h1
   ·rw [g.kp p hh,q] at h;cases h
  ·have:=zZ (g.sm p o (zI hh q));rw [h] at this;cases this.2
def PEdL (K:Hj) (f:Fx) (te:TE) (ρ:zr) (P:M9->Prop):Prop:=∀ (σ:St) (H:Hp) (Q:VK),EnvOk K f ρ σ H ->
 (∀ es D vs H',Goes f H H'->H D=MF->H' D=MA (.lst vs)->Reps K (hide H' f) es vs->P es->Q (.ref D) H')->te σ H Q
theorem PEdL.ped {te:TE} {P:MB->Prop} (h:PEdL K f te ρ λes=>P (.list es)):PEd K f te ρ P:=λσ H Q e q=>h σ H Q e λes D vs H' g n h1 r p =>
 q (.list es) _ H' g (zJ.mpr ⟨D,vs,rfl,.of (zI (fresh_ne e.fd n) h1),r⟩) p
end
structure TabAt (H:Hp) (a:Hm) (as:MS) (Mt:Nb):Prop where
 top:H a=MA (.lst (as.map .ref))
 nd:(a :: as).Nodup
 len:as.length=Mt.length
 row:∀ (i:Nat) x r,as[i]?=MA x->Mt[i]?=MA r->H x=MA (.lst (r.map .int))
def xS (K:Hj):List V->Hp->VK->Prop:=λxs H Q=>∃ x n b,xs=[x,.ty n]/\((∃ a ys,x=.ref a/\SqL K H a ys/\IL K (.type "list") (.type n)=MA b) \/ (∃ a ys,x=.ref a/\SqT K H a ys/\IL K (.type "tuple") (.type n)=MA b) \/ ∃ t,TyOf K H x t/\IL K t (.type n)=MA b)/\Q (.bl b) H
theorem xT {X:Cx}:yK X (.builtin "isinstance") (xS X.K):=by
 intro Mu s σ H xs us Q I r h;obtain⟨x,n,b,rfl,hx,q⟩:=h;obtain⟨u,w',rfl,rx,rn⟩:=vals2 r;cases rn;rcases hx with⟨a,ys,rfl,hq,hk⟩ | ⟨a,ys,rfl,hq,hk⟩ | ⟨t,ty,hk⟩
 ·cases rx;obtain⟨its,_,p,_⟩:=I.list hq;obtain⟨o,ho,hc,_⟩:=p.isList;exact IW Lv I.kIn ⟨o,ho,hc⟩ hk (λz=>nomatch z) λtk=>⟨.bl b,H,I.tok tk,rfl,q⟩
 ·cases rx;obtain⟨its,_,p,_⟩:=I.tuple hq;obtain⟨o,ho,hc,_⟩:=p;exact IW PySem.W.kitx_tuple I.kIn ⟨o,ho,hc⟩ hk (λz=>nomatch z) λtk=>⟨.bl b,H,I.tok tk,rfl,q⟩
 ·exact uO I rx ty hk λtk=>⟨.bl b,H,I.tok tk,rfl,q⟩
section
variable {K:Hj} {f:Fx} {ρ:zr} {P:MB->Prop} {te ta tb:TE}
theorem Gg {n:String} {b:Bool} (hk:IL K (.type "list") (.type n)=MA b) (h:PEd K f te ρ λd=>∃ ds,d=.list ds/\P (.bool b)):PEd K f (tCB (xS K) (yj te (yj (tC (.ty n)) jK))) ρ P:=λσ H Q e q=>h σ H _ e λd v H1 g r ⟨ds,ed,p⟩=>by
 subst ed;obtain⟨a,xs,rfl,s1,_⟩:=zJ.mp r;exact⟨_,n,b,rfl,.inl ⟨a,xs,rfl,(zp _ _).seq s1,hk⟩,q _ _ H1 g (zW.mpr rfl) p⟩
theorem DI {n:String} {b:Bool} (hk:IL K (.type "tuple") (.type n)=MA b) (h:PEd K f te ρ λd=>∃ ds,d=.tuple ds/\P (.bool b)):PEd K f (tCB (xS K) (yj te (yj (tC (.ty n)) jK))) ρ P:=λσ H Q e q=>h σ H _ e λd v H1 g r ⟨ds,ed,p⟩=>by
 subst ed;obtain⟨a,xs,rfl,s1,_⟩:=zR.mp r;exact⟨_,n,b,rfl,.inr (.inl ⟨a,xs,rfl,(zp _ _).seqT s1,hk⟩),q _ _ H1 g (zW.mpr rfl) p⟩
end
section
variable {X:Cx} {K:Hj}
theorem zH (hK:X.K=K):IxR X (oV K):=hK▸BY
theorem yG (hK:X.K=K):IxR X (uR K):=hK▸Eu
theorem yM (hK:X.K=K):yK X (.builtin "len") (λxs H Q=>∃ p ys,xs=[.ref p]/\(SqL K H p ys \/ SqT K H p ys)/\Q (.int ys.length) H):=hK▸ku
theorem ju (hK:X.K=K):yK X (.type "tuple") (λxs H Q=>∃ p ys,xs=[.ref p]/\((SqL K H p ys/\∀ l,H l=MF->Q (.ref l) (upd H l (.tup ys))) \/ (SqT K H p ys/\Q (.ref p) H))):=hK▸hU
theorem vR (hK:X.K=K) (hc:X.calm=MC):yK X (.builtin "min") (λxs H Q=>∃ a ns,xs=[.ref a]/\SqL K H a (ns.map V.int)/\ns≠[]/\∀ M,M∈ns->(∀ b∈ns,M<=b)->Q (.int M) H):=hK▸uV hc
theorem jQ (hK:X.K=K) (hc:X.calm=MC):yK X (.builtin "max") (λxs H Q=>∃ a ns,xs=[.ref a]/\SqL K H a (ns.map V.int)/\ns≠[]/\∀ M,M∈ns->(∀ b∈ns,b<=M)->Q (.int M) H):=hK▸uW hc
theorem y7 (hK:X.K=K) (hu:X.A.units+64<IZ):OpR X (IJ .Eq) (xK K MG):=hK▸Ez hu
theorem dI (hK:X.K=K) (hu:X.A.units+64<IZ):OpR X (IJ .NotEq) (xK K MC):=hK▸EA hu
theorem bB (hK:X.K=K):yK X (.builtin "isinstance") (xS K):=hK▸xT
variable {tg l e st:Expr} {tl te ts:TE} {ta:TA} {p pos p2:Pos}
theorem zF (hK:X.K=K) (hl:PE X l tl):PI X tg l (fN K tl):=hK▸BR hl
theorem vm (hK:X.K=K) (hl:PE X l tl):PI X tg l (El K tl):=hK▸Em hl
theorem gf {es:MX} {k:Nat} {tpos:Pos} (hK:X.K=K) (hg:Gl X "enumerate") (hm:X.mg "enumerate"=MF) (ha:PA X [l] ta) (hs:Iq [l] X.env=[(MG,eval l X.env)]:=by rfl):PI X (.Tuple es k tpos) (.Call (.Name "enumerate" p) [l] [] pos) (sQ K ta):=hK▸BZ hg hm ha hs
theorem ya (hK:X.K=K) (ha:PE X e te) (he:∀ whole,isTrue e X.env whole=(do let v <- whole;standAt e.pos;holding [v] (truthy v))):PT X e (EC K te):=hK▸ED ha he
theorem zC {es:MX} {k:Nat} {t:TGs} {n:Nat} (hK:X.K=K) (hc:X.calm=MC) (h:PGs X es t) (hn:(assignEach es X.env).length=n:=by rfl) (hst:(assignEach es X.env).findIdx? (·.1)=MF:=by rfl):PG X (.Tuple es k pos) (BQ K n t):=hK▸Ek hc h hn hst
end
structure ItD (K:Hj) (f:Fx) (ds:M9) (J:It) (H1:Hp):Prop where
 go:∀ (f':Fx) (H':Hp) (i:Nat) d,FOk f' H'->Same (hide H1 f) (hide H' f')->ds[i]?=MA d->J.go i H'/\∀ x H3,J.yld i H' x H3->Goes f' H' H3/\Rep K (hide H3 f') d x
 st:∀ (f':Fx) (H':Hp),FOk f' H'->Same (hide H1 f) (hide H' f')->J.stop ds.length H'
def PId (K:Hj) (f:Fx) (wi:TI) (ρ:zr) (R:M9->Prop):Prop:=∀ (σ:St) (H:Hp) (C:It->Hp->Prop),EnvOk K f ρ σ H ->
 (∀ ds J H1,Goes f H H1->ItD K f ds J H1->R ds->C J H1)->wi σ H C
noncomputable def aW (n:Nat):M9:=(HN n).map λ(i:Nat)=>.int (i:Int)
noncomputable def jW (i j:Int):M9:=(HN (j - i).toNat).map λ(k:Nat)=>.int (i+(k:Int))
noncomputable def cR (ds:M9):M9:=ds.mapIdx λi d=>.tuple [.int (i:Int),d]
section
variable {K:Hj} {f:Fx} {ρ:zr} {R:M9->Prop} {tl:TE} {t:TA}
theorem PId.imp {wi:TI} {R':M9->Prop} (h:PId K f wi ρ R) (i:∀ ds,R ds->R' ds):PId K f wi ρ R':=λσ H C e q=>h σ H C e λds J H1 g it r=>q ds J H1 g it (i ds r)
theorem bC (h:PAd K f t ρ λxs=>∃ j:Int,xs=[.dat (.int j)]/\-(2 ^ 62)<=j/\j<2 ^ 62/\R (aW j.toNat)):PId K f (sL t) ρ R:=λσ H C e q=>h σ H _ e λxs vs H1 g1 r1 ⟨j,ex,q1,q2,p⟩=>by
 subst ex;cases r1 with
 | @cons _ v0 _ _ rx r' =>
  cases r';have rx':Rep K (hide H1 f) (.int j) v0:=rx;refine⟨j,by rw [zu.mp rx'],q1,q2,q _ _ H1 g1 ⟨λf' H' i d fo _ hd=>?_,λf' H' _ _=>?_⟩ p⟩
  ·unfold aW at hd;rw [Ho] at hd;by_cases hi:i<j.toNat
   ·rw [Jm hi] at hd;cases hd;refine⟨hi,λx H3 hy=>?_⟩;obtain⟨rfl,rfl⟩:=hy;exact⟨.refl fo,zu.mpr (by rw [Int.zero_add])⟩
   ·rw [Ib (by rw [HY];omega)] at hd;cases hd
  ·show j.toNat<=(aW j.toNat).length;unfold aW;rw [Hc,HY];exact Ht _
theorem mS (h:PAd K f t ρ λxs=>∃ i j:Int,xs=[.dat (.int i),.dat (.int j)]/\(-(2 ^ 62)<=i/\i<2 ^ 62/\-(2 ^ 62)<=j/\j<2 ^ 62)/\R (jW i j)):PId K f (DG t) ρ R:=λσ H C e q=>h σ H _ e λxs vs H1 g1 r1 ⟨i,j,ex,q1,p⟩=>by
 subst ex;cases r1 with
 | @cons _ v0 _ _ rx r' =>
  cases r' with
  | @cons _ v1 _ _ ry r'' =>
   cases r'';have rx':Rep K (hide H1 f) (.int i) v0:=rx;have ry':Rep K (hide H1 f) (.int j) v1:=ry;refine⟨i,j,by rw [zu.mp rx',zu.mp ry'],q1,q _ _ H1 g1 ⟨λf' H' k d fo _ hd=>?_,λf' H' _ _=>?_⟩ p⟩
   ·unfold jW at hd;rw [Ho] at hd;by_cases hi:k<(j - i).toNat
    ·rw [Jm hi] at hd;cases hd;refine⟨hi,λx H3 hy=>?_⟩;obtain⟨rfl,rfl⟩:=hy;exact⟨.refl fo,zu.mpr rfl⟩
    ·rw [Ib (by rw [HY];omega)] at hd;cases hd
   ·show (j - i).toNat<=(jW i j).length;unfold jW;rw [Hc,HY];exact Ht _
theorem yf (h:PEd K f tl ρ λx=>∃ ds,x=.list ds/\R ds):PId K f (fN K tl) ρ R:=λσ H C e q=>h σ H _ e λx v H1 g1 r1 ⟨ds,ex,p⟩=>by
 subst ex;obtain⟨a,xs,rfl,h1,h2⟩:=zJ.mp r1;have hl:=h2.length;refine⟨a,rfl,⟨xs,(zp _ _).seq h1⟩,q ds _ H1 g1 ⟨λf' H' i d fo sm hd=>?_,λf' H' _ sm=>⟨xs,(zp _ _).seq (sm.seq h1),JA hl⟩⟩ p⟩;obtain⟨z,hz,rz⟩:=h2.get hd;have sq:SqL K H' a xs:=(zp _ _).seq (sm.seq h1);refine⟨⟨xs,z,sq,hz⟩,λx H3 hy=>?_⟩;obtain⟨rfl,hy⟩:=hy;have ez:=hy xs sq;rw [hz] at ez;cases ez;exact⟨.refl fo,Rep.mono sm _ _ rz⟩
theorem eE (h:PEd K f tl ρ λx=>∃ ds,x=.tuple ds/\R ds):PId K f (El K tl) ρ R:=λσ H C e q=>h σ H _ e λx v H1 g1 r1 ⟨ds,ex,p⟩=>by
 subst ex;obtain⟨a,xs,rfl,h1,h2⟩:=zR.mp r1;have hl:=h2.length;refine⟨a,rfl,⟨xs,(zp _ _).seqT h1⟩,q ds _ H1 g1 ⟨λf' H' i d fo sm hd=>?_,λf' H' _ sm=>⟨xs,(zp _ _).seqT (sm.seqT h1),JA hl⟩⟩ p⟩;obtain⟨z,hz,rz⟩:=h2.get hd;have sq:SqT K H' a xs:=(zp _ _).seqT (sm.seqT h1);refine⟨⟨xs,z,sq,hz⟩,λx H3 hy=>?_⟩;obtain⟨rfl,hy⟩:=hy;have ez:=hy xs sq;rw [hz] at ez;cases ez;exact⟨.refl fo,Rep.mono sm _ _ rz⟩
theorem xU (h:PAd K f t ρ λxs=>∃ ds,xs=[.dat (.list ds)]/\R (cR ds)):PId K f (sQ K t) ρ R:=λσ H C e q=>h σ H _ e λxs vs H1 g1 r1 ⟨ds,ex,p⟩=>by
 subst ex;cases r1 with
 | cons rx r' =>
  cases r';obtain⟨a,xs,rfl,h1,h2⟩:=zJ.mp rx;have hl:=h2.length;refine⟨a,rfl,⟨xs,(zp _ _).seq h1⟩,q (cR ds) _ H1 g1 ⟨λf' H' i d fo sm hd=>?_,λf' H' _ sm=>⟨xs,(zp _ _).seq (sm.seq h1),by unfold cR;rw [List.length_mapIdx];exact JA hl⟩⟩ p⟩;unfold cR at hd;rw [K6] at hd;cases eq:ds[i]? with
  | none=>rw [eq] at hd;cases hd
  | some d0 =>
   rw [eq] at hd;cases hd;obtain⟨z,hz,rz⟩:=h2.get eq;have sq:SqL K H' a xs:=(zp _ _).seq (sm.seq h1);refine⟨⟨xs,z,sq,hz⟩,λx H3 hy=>?_⟩;obtain⟨tp,y,rfl,hn,rfl,hy⟩:=hy;have ez:=hy xs sq;rw [hz] at ez;cases ez;have gn:Goes f' H' (upd H' tp (.tup [.int i,z])):=.of_same (ye hn _) fo;exact⟨gn,zR.mpr ⟨tp,_,rfl,.of (zI (fresh_ne fo hn) zw),.cons' (zu.mpr rfl) (.cons' (Rep.mono gn.1 _ _ (Rep.mono sm _ _ rz)) .nil')⟩⟩
end
section
variable {K:Hj} {f:Fx} {ρ:zr} {D:DEnds} {wi:TI} {g:TG} {ts:TS}
theorem sT (h:PId K f wi ρ λds=>∃ J:Nat->zr->Prop,J 0 ρ /\
   (∀ (i:Nat) d ρ',ds[i]?=MA d->J i ρ'->PGd K f g d ρ' λρ2=>PSd K f ts ρ2 { D with nx:=J (i+1),ct:=J (i+1),bk:=D.nx })/\∀ ρ',J ds.length ρ'->D.nx ρ') :
  PSd K f (uJ wi g ts) ρ D:=λσ H E e n r b c=>h σ H _ e λds J H1 g1 it ⟨Jv,j0,js,jd⟩=>by
 refine⟨λi m σ' H'=>∃ ρ',EnvOk K f ρ' σ' H'/\Goes f H1 H'/\Jv i ρ'/\m+i=ds.length,⟨ds.length,ρ,e.mono g1,.refl g1.2,j0,rfl⟩,λi m σ' H' ⟨ρ',e',g',p,hm⟩=>?_⟩;by_cases hi:i<ds.length
 ·obtain⟨hgo,hy⟩:=it.go f H' i _ e'.fd g'.sm (Hd hi);refine .inr ⟨hgo,λσ2 H2=>∃ ρ2,EnvOk K f ρ2 σ2 H2/\Goes f H1 H2/\Jv (i+1) ρ2,λσ2 H2 ⟨ρ2,e2,g2,p2⟩=>⟨m - 1,by omega,ρ2,e2,g2,p2,by omega⟩,λx H3 hx=>?_⟩;obtain⟨g3,r3⟩:=hy x H3 hx;refine js i _ ρ' (Hd hi) p σ' H3 x _ (e'.mono g3) r3 λρ2 σ2 H4 g4 e4 p4=>?_;have gg:=g'.trans (g3.trans g4);exact p4 σ2 H4 _ e4 (λρ5 σ5 H5 g5 e5 p5=>⟨ρ5,e5,gg.trans g5,p5⟩) (λd v H5 g5 r5 p5=>r d v H5 (g1.trans (gg.trans g5)) r5 p5) (λρ5 σ5 H5 g5 e5 p5=>n ρ5 σ5 H5 (g1.trans (gg.trans g5)) e5 p5) (λρ5 σ5 H5 g5 e5 p5=>⟨ρ5,e5,gg.trans g5,p5⟩)
 ·have ei:i=ds.length:=by omega
  subst ei;exact .inl ⟨it.st f H' e'.fd g'.sm,n ρ' σ' H' (g1.trans g') e' (jd ρ' p)⟩
end
section
variable {K:Hj} {f:Fx} {ρ:zr} {D:Hm} {wi:TI} {g:TG} {tt:TT} {te:TE}
theorem CSt.self {H2 H:Hp} {es:M9} {σ:St} (c:CSt K f D H2 ρ es σ H):CSt K f D H ρ es σ H:=⟨c.env,Same.refl _,λ_ _=>rfl,c.lst⟩
theorem CSt.trans {H2 H H':Hp} {es es':M9} {ρ':zr} {σ σ':St} (c:CSt K f D H2 ρ es σ H) (d:CSt K f D H ρ' es' σ' H'):CSt K f D H2 ρ' es' σ' H':=⟨d.env,c.sm.trans d.sm,λb hb=>(d.kp b hb).trans (c.kp b hb),d.lst⟩
def PBd (K:Hj) (f:Fx) (D:Hm) (tb:TB) (ρ:zr) (es:M9) (R:zr->M9->Prop):Prop:=f.f≠MA D->D∉f.M->∀ (σ:St) (H H2:Hp) (W:St->Hp->Prop),CSt K f D H2 ρ es σ H ->
 (∀ ρ2 es2 σ2 H',CSt K f D H2 ρ2 es2 σ2 H'->R ρ2 es2->W σ2 H')->tb σ H W
theorem yn {es:M9} {R:zr->M9->Prop} (hl:es.length<1000) (h:PEd K (f.with D) te ρ λe=>R ρ (es++[e])):PBd K f D (aL D te) ρ es R:=λhD hM σ H H2 W c q =>
 h σ H _ c.env λe u H5 g5 r5 p5=>by
  have c5:=c.go g5 (c.env.mono g5);obtain⟨vs,h1,h2⟩:=c5.lst;exact⟨vs,h1,zY (by rw [h2.length];omega),q _ _ _ _ (c5.put hD hM h1 h2 r5) p5⟩
theorem xV {fi:Fx} {Hi H2 H:Hp} {ds es:M9} {J:It} {tb:TB} {σ:St} {W:St->Hp->Prop} (it:ItD K fi ds J Hi) (hD:f.f≠MA D) (hM:D∉f.M) (c:CSt K f D H2 ρ es σ H) (sm:Same (hide Hi fi) (hide H (f.with D)))
  (Jv:Nat->zr->M9->Prop) (j0:Jv 0 ρ es)
  (js:∀ (i:Nat) d ρ' es',ds[i]?=MA d->Jv i ρ' es'->PGd K (f.with D) g d ρ' λρ2=>PTd K (f.with D) tt ρ2 λb=>if b=MC then PBd K f D tb ρ2 es' (Jv (i+1)) else Jv (i+1) ρ2 es')
  (hW:∀ ρ' es' σ' H',CSt K f D H2 ρ' es' σ' H'->Jv ds.length ρ' es'->W σ' H'):eC J g tt tb σ H W:=by
 refine⟨λi m σ' H'=>∃ ρ' es',CSt K f D H2 ρ' es' σ' H'/\Same (hide Hi fi) (hide H' (f.with D))/\Jv i ρ' es'/\m+i=ds.length,⟨ds.length,ρ,es,c,sm,j0,rfl⟩,λi m σ' H' ⟨ρ',es',c',sm',p,hm⟩=>?_⟩;by_cases hi:i<ds.length
 ·obtain⟨hgo,hy⟩:=it.go (f.with D) H' i _ c'.env.fd sm' (Hd hi);refine .inr ⟨hgo,λx H3 hx=>?_⟩;obtain⟨g3,r3⟩:=hy x H3 hx;have c3:=c'.go g3 (c'.env.mono g3);refine js i _ ρ' es' (Hd hi) p σ' H3 x _ c3.env r3 λρ2 σ2 H4 g4 e4 p4=>?_;have c4:=c3.go g4 e4;refine p4 σ2 H4 _ e4 λb H5 g5 p5=>?_;have c5:=c4.go g5 (e4.mono g5);have sm5:=((sm'.trans g3.sm).trans g4.sm).trans g5.sm;cases b with
  | false =>
   rw [Mv He] at p5 ⊢;exact⟨m - 1,by omega,ρ2,es',c5,sm5,p5,by omega⟩
  | true =>
   rw [Mw rfl] at p5 ⊢;exact p5 hD hM σ2 H5 H5 _ c5.self λρ6 es6 σ6 H6 c6 p6=>⟨m - 1,by omega,ρ6,es6,c5.trans c6,sm5.trans c6.sm,p6,by omega⟩
 ·have ei:i=ds.length:=by omega
  subst ei;exact .inl ⟨it.st (f.with D) H' c'.env.fd sm',hW ρ' es' σ' H' c' p⟩
theorem B4 {es:M9} {tb:TB} {R:zr->M9->Prop} (h:PId K (f.with D) wi ρ λds=>∃ Jv:Nat->zr->M9->Prop,Jv 0 ρ es /\
   (∀ (i:Nat) d ρ' es',ds[i]?=MA d->Jv i ρ' es'->PGd K (f.with D) g d ρ' λρ2=>PTd K (f.with D) tt ρ2 λb=>if b=MC then PBd K f D tb ρ2 es' (Jv (i+1)) else Jv (i+1) ρ2 es') /\
   ∀ ρ' es',Jv ds.length ρ' es'->R ρ' es'):PBd K f D (tIn wi g tt tb) ρ es R:=λhD hM σ H H2 W c q =>
 h σ H _ c.env λds J H1 g1 it ⟨Jv,j0,js,jd⟩ =>
  xV it hD hM (c.go g1 (c.env.mono g1)) (Same.refl _) Jv j0 js λρ' es' σ' H' c' p=>q ρ' es' σ' H' c' (jd ρ' es' p)
def PEdO (K:Hj) (f:Fx) (te:TE) (ρ:zr) (P:M9->Prop):Prop:=∀ (σ:St) (H:Hp) (Q:VK),EnvOk K f ρ σ H ->
 (∀ es D vs H',Goes f H H'->H D=MF->H' D=MA (.lst vs)->Reps K (hide H' (f.with D)) es vs->P es->Q (.ref D) H')->te σ H Q
theorem PEdO.pedl {P:M9->Prop} (h:PEdO K f te ρ P):PEdL K f te ρ P:=λσ H Q e q=>h σ H Q e λes D vs H' g n h1 r p=>q es D vs H' g n h1 (Reps.mono jO es vs r) p
theorem PEdO.ped {P:MB->Prop} (h:PEdO K f te ρ λes=>P (.list es)):PEd K f te ρ P:=h.pedl.ped
theorem DJ {P:M9->Prop} (h:P []):PEdO K f (uP jK) ρ P:=λσ H Q e q=>⟨HR _,λp hn=>q [] p [] _ (.of_same (ye hn _) e.fd) hn zw .nil' h⟩
theorem qX {own:Nat} {fr:M8} {tb:Hm->TB} {P:M9->Prop} (h:PId K f wi ρ λds=>∃ Jv:Nat->zr->M9->Prop,Jv 0 (ao own fr ρ) [] /\
   (∀ D (i:Nat) d ρ' es',ds[i]?=MA d->Jv i ρ' es'->PGd K (f.with D) g d ρ' λρ2=>PTd K (f.with D) tt ρ2 λb=>if b=MC then PBd K f D (tb D) ρ2 es' (Jv (i+1)) else Jv (i+1) ρ2 es') /\
   ∀ ρ' es',Jv ds.length ρ' es'->P es'):PEdO K f (qE wi own fr g tt tb) ρ P:=λσ H Q e q =>
 h σ H _ e λds J H1 g1 it ⟨Jv,j0,js,jd⟩ D hn=>by
  have nD:=fresh_ne g1.2 hn;have hD:f.f≠MA D:=λz=>nD (.inl z);have hM:D∉f.M:=λz=>nD (.inr z);refine xV it hD hM (cq hn (e.mono g1)) (qH hn) Jv j0 (js D) λρ' es' σ' H' c' p=>?_;obtain⟨ge,rep⟩:=fZ (σ':=σ') hn g1.2 c';obtain⟨vs,h1,h2⟩:=c'.lst;exact q es' D vs H' (g1.trans ge) (g1.free e.fd hn) h1 h2 (jd ρ' es' p)
end
section
variable {K:Hj} {f:Fx} {ρ:zr} {D:Hm} {wi:TI} {g:TG} {tt:TT} {te:TE}
theorem dJ {F:MB->M9} {ds:M9} {i:Nat} {d:MB} (h:ds[i]?=MA d):(ds.take (i+1)).flatMap F=(ds.take i).flatMap F++F d:=by
 rw [Iv,h,Jn];simp
theorem B5 {F:MB->M9} {ds:M9} {i:Nat}:((ds.take i).flatMap F).length<=(ds.flatMap F).length:=by
 conv=>rhs;rw [<-Kl i ds,Jn,HA]
 omega
def OwnE (own:Nat) (ρ0:zr) (ρ':zr):Prop:=∃ us:zr,us.length=own/\ρ'=us++ρ0
theorem OwnE.one {ρ0 ρ':zr} (h:OwnE 1 ρ0 ρ'):∃ u,ρ'=u :: ρ0:=by
 obtain⟨us,h1,rfl⟩:=h;rcases us with _ | ⟨u,_ | ⟨z,zs⟩⟩ <;> first | exact⟨_,rfl⟩ | (simp at h1)
theorem OwnE.two {ρ0 ρ':zr} (h:OwnE 2 ρ0 ρ'):∃ u v,ρ'=u :: v :: ρ0:=by
 obtain⟨us,h1,rfl⟩:=h;rcases us with _ | ⟨u,_ | ⟨v,_ | ⟨z,zs⟩⟩⟩ <;> first | exact⟨_,_,rfl⟩ | (simp at h1)
theorem OwnE.three {ρ0 ρ':zr} (h:OwnE 3 ρ0 ρ'):∃ u v w,ρ'=u :: v :: w :: ρ0:=by
 obtain⟨us,h1,rfl⟩:=h
 match us,h1 with
 | [u,v,w],_=>exact⟨u,v,w,rfl⟩
theorem OwnE.mk1 {ρ0:zr} {u:Option DV}:OwnE 1 ρ0 (u :: ρ0):=⟨[u],rfl,rfl⟩
theorem OwnE.mk2 {ρ0:zr} {u v:Option DV}:OwnE 2 ρ0 (u :: v :: ρ0):=⟨[u,v],rfl,rfl⟩
theorem EJ {own:Nat} {fr:M8} {tb:Hm->TB} {P:M9->Prop} (h:PId K f wi ρ λds=>∃ F:MB->M9,(ds.flatMap F).length<=1000 /\
   (∀ D d ρ' es,d∈ds->OwnE own (frD fr ρ) ρ'->es.length+(F d).length<=1000->PGd K (f.with D) g d ρ' λρ2=>PTd K (f.with D) tt ρ2 λb=>if b=MC then PBd K f D (tb D) ρ2 es λρ3 es3=>OwnE own (frD fr ρ) ρ3/\es3=es++F d else OwnE own (frD fr ρ) ρ2/\F d=[]) /\
   P (ds.flatMap F)):PEdO K f (qE wi own fr g tt tb) ρ P :=
 qX (h.imp λds ⟨F,hl,hs,hp⟩=>by
  refine⟨λi ρ' es=>OwnE own (frD fr ρ) ρ'/\es=(ds.take i).flatMap F,⟨⟨JB own MF,by simp,rfl⟩,by simp⟩,λD i d ρ' es hd ⟨ho,he⟩=>?_,λρ' es ⟨_,he⟩=>?_⟩
  ·have hb:es.length+(F d).length<=1000:=by
    rw [he,<- HA,<- dJ hd];exact HM B5 hl
   have:=hs D d ρ' es (Hu hd) ho hb;intro σ H v Q e r q;refine this σ H v Q e r λρ2 σ2 H2 g2 e2 p2=>q ρ2 σ2 H2 g2 e2 (p2.imp λb hb2=>?_);cases b with
   | false =>
    rw [Mv He] at hb2 ⊢;exact⟨hb2.1,by rw [dJ hd,hb2.2,IX];exact he⟩
   | true =>
    rw [Mw rfl] at hb2 ⊢;intro h1 h2 σ3 H3 H4 W c k;exact hb2 h1 h2 σ3 H3 H4 W c λρ5 es5 σ5 H5 c5 ⟨o5,p5⟩=>k ρ5 es5 σ5 H5 c5 ⟨o5,by rw [p5,dJ hd,he]⟩
  ·rw [he,Ic];exact hp)
theorem jf {B:Bool->Prop} (h:B MC):PTd K f xI ρ B:=λσ H Q e q=>q MC H (.refl e.fd) h
end
structure OEnds where
 nx:zr->M9->Prop
 rt:MB->Prop
 bk:zr->M9->Prop:=λ_ _=>False
 ct:zr->M9->Prop:=λ_ _=>False
section
variable {K:Hj} {f:Fx} {ρ:zr} {D:Hm} {wi:TI} {g:TG} {tt:TT} {te:TE} {ts tu:TS} {es:M9} {O:OEnds} {i:Nat}
noncomputable def fc (n:Nat):Option DV->Option DV
 | some (.own k)=>if k<n then MA (.own k) else MF
 | x=>x
end
section
variable {K:Hj} {f:Fx} {ρ:zr} {P:MB->Prop} {te ta tb:TE} {t:TA}
theorem cS (h:PAd K f t ρ λxs=>(∃ ds,xs=[.dat (.list ds)]/\P (.tuple ds)) \/ (∃ ds,xs=[.dat (.tuple ds)]/\P (.tuple ds))) :
  PEd K f (tCB (λxs H Q=>∃ p ys,xs=[.ref p]/\((SqL K H p ys/\∀ l,H l=MF->Q (.ref l) (upd H l (.tup ys))) \/ (SqT K H p ys/\Q (.ref p) H))) t) ρ P :=
 uY λσ H Q e q=>h σ H Q e λxs vs H' g r p=>by
  rcases p with⟨ds,rfl,p⟩ | ⟨ds,rfl,p⟩
  ·refine q _ vs H' g r ⟨_,rfl,λvs H Q fo rs k=>?_⟩;obtain⟨x,r,rfl,h2,h3⟩:=zG.mp rs;rw [zT.mp h3];obtain⟨a,ys,rfl,s1,s2⟩:=zJ.mp h2;refine⟨a,ys,rfl,.inl ⟨(zp _ _).seq s1,λl hn=>?_⟩⟩;have g2:Goes f H (upd H l (.tup ys)):=.of_same (ye hn _) fo;exact k (.tuple ds) _ _ g2 (zR.mpr ⟨l,ys,rfl,.of (zI (fresh_ne fo hn) zw),Reps.mono g2.1 ds ys s2⟩) p
  ·refine q _ vs H' g r ⟨_,rfl,λvs H Q fo rs k=>?_⟩;obtain⟨x,r,rfl,h2,h3⟩:=zG.mp rs;rw [zT.mp h3];obtain⟨a,ys,rfl,s1,s2⟩:=zR.mp h2;exact⟨a,ys,rfl,.inr ⟨(zp _ _).seqT s1,k (.tuple ds) _ H (.refl fo) (zR.mpr ⟨a,ys,rfl,s1,s2⟩) p⟩⟩
end
noncomputable abbrev f0:Fx:=⟨MF,[]⟩
theorem fok0 (H:Hp):FOk f0 H:=⟨(λp e=>by cases e),(λb hb=>by cases hb),(λp e=>by cases e)⟩
theorem Gh {H H':Hp} (s:Same H H'):Goes f0 H H':=.of_same s (fok0 H)
theorem same0 {H H':Hp} (g:Goes f0 H H'):Same H H':=λb o h=>(zZ (g.sm b o (by rw [bA];exact h))).2
section
variable {X:Cx} {K:Hj}
def Gi (i j:Int):Prop:=0<j/\j<1152921504606846976
theorem mT:OpR X (binaryOp .FloorDiv) (rI Gi λi j=>.int (i / j)):=opI λi j _ _ _ _ _ hc q=>by
 obtain⟨h1,h2⟩:=hc;rw [<-Int.fdiv_eq_ediv_of_nonneg i (Int.le_of_lt h1)] at q;refine floordiv_int (by omega) q (.inl (PyProof.noPylong_of_log2 ?_));have h0:j.natAbs≠0:=by omega
 have:j.natAbs.log2<60:=(Nat.log2_lt h0).mpr (by omega);omega
end
section
variable {K:Hj} {f:Fx} {ρ:zr} {wi:TI} {g:TG} {tt:TT} {own:Nat} {fr:M8} {tb:Hm->TB} {P:M9->Prop}
theorem gh {α:Type} {A B:α->MB} (xs:List α) (h:PId K f wi ρ λds=>ds=xs.map A/\xs.length<=1000 /\
   (∀ D x ρ' es,x∈xs->OwnE own (frD fr ρ) ρ'->es.length<1000->PGd K (f.with D) g (A x) ρ' λρ2=>PTd K (f.with D) tt ρ2 λb=>if b=MC then PBd K f D (tb D) ρ2 es λρ3 es3=>OwnE own (frD fr ρ) ρ3/\es3=es++[B x] else False)/\P (xs.map B)) :
  PEdO K f (qE wi own fr g tt tb) ρ P :=
 qX (h.imp λds ⟨ed,hl,hs,hp⟩=>by
  subst ed;refine⟨λi ρ' es=>OwnE own (frD fr ρ) ρ'/\es=(xs.take i).map B,⟨⟨JB own MF,by simp,rfl⟩,by simp⟩,λD i d ρ' es hd ⟨ho,he⟩=>?_,λρ' es ⟨_,he⟩=>?_⟩
  ·rw [Ho] at hd;cases eq:xs[i]? with
   | none=>rw [eq] at hd;cases hd
   | some x =>
    rw [eq] at hd;cases hd;have hi:i<xs.length:=(Hg.mp eq).1;have hb:es.length<1000:=by
     rw [he,Hc,Im];omega
    intro σ H v Q e r q;refine hs D x ρ' es (Hu eq) ho hb σ H v Q e r λρ2 σ2 H2 g2 e2 p2=>q ρ2 σ2 H2 g2 e2 (p2.imp λb hb2=>?_);cases b with
    | false =>
     rw [Mv He] at hb2;exact hb2.elim
    | true =>
     rw [Mw rfl] at hb2 ⊢;intro h1 h2 σ3 H3 H4 W c k;exact hb2 h1 h2 σ3 H3 H4 W c λρ5 es5 σ5 H5 c5 ⟨o5,p5⟩=>k ρ5 es5 σ5 H5 c5 ⟨o5,by rw [p5,he,Iv,eq,HH];rfl⟩
  ·rw [he,Hc,Ic];exact hp)
end
structure XLie (P:MI) (w:MH) (outer:MV) (H:Hp) (s:ME) (e:Hm) (C:MD) (H':Hp) (s':ME):Prop where
 os:s'.os=s.os
 bare:AllBare s'.gens
 un:Un (frs outer) [] H H' s.heap s'.heap
 hok:HOk P w H' s'.heap
 fly:∃ B a0,Heap.FlyingW B outer e C a0 s'.heap/\(∀ b o,s.heap.get? b=MA o->b∉frs outer->∃ o',B.get? b=MA o')/\∀ b o,H' b=MA o->∃ o',B.get? b=MA o'
 new:s.heap.get? e=MF
 free:H' e=MF
def CXe (P:MI) (w:MH):CXT:=λouter H s E e s'=>∃ a C H',e=.ref a/\XLie P w outer H s a C H' s'/\E C MF H'
section
variable {P:MI} {w:MH} {H H':Hp} {h h':Heap}
theorem ObjOk.is {a:Hm} {o:HO} (x:ObjOk P w H h a o):∃ u,h.get? a=MA u:=by
 induction o with
 | lst xs=>obtain⟨_,_,_,_,e⟩:=x;exact⟨_,e⟩
 | tup xs=>obtain⟨_,_,_,ob,e,_⟩:=x;exact⟨_,e⟩
 | dK kvs=>obtain⟨_,_,_,_,o,_,_,e,_⟩:=x;exact⟨_,e⟩
 | dT kvs=>obtain⟨_,_,_,_,o,_,_,e,_⟩:=x;exact⟨_,e⟩
 | set S n=>obtain⟨o,_,_,_,e,_⟩:=x;exact⟨_,e⟩
 | ins C dx fs=>obtain⟨_,_,_,e,_⟩:=x;exact⟨_,e⟩
 | own y=>exact x
 | xd fs=>obtain⟨_,⟨o,_,_,e,_⟩,_⟩:=x;exact⟨_,e⟩
 | rng lo hi=>obtain⟨_,_,_,e⟩:=x;exact⟨_,e⟩
 | frz ob u ih=>exact⟨_,x.1⟩
 | tbl ps=>obtain⟨_,e,_⟩:=x;exact⟨_,e⟩
 | met f y=>exact⟨_,x⟩
 | ext φ=>exact x.2.1
end
end L2
end
section
namespace L2
open PySem PySem.Spec PyProof.Rows
end L2
end
section
namespace L2
open PySem PySem.Spec PySem.W PyProof.Rows PySem.Calls PySem.Builtin Builtin Builtin.ObjectAttr Builtin.Getset_descriptor
section
variable {prog:MI} {w:MH} {A:MJ} {E:MD->ME->Prop} {s:ME} {K:Hj} {a C:Hm}
structure ExcWays (K:Hj) (C:Hm):Prop where
 ga:findIn K (.ref C) "__getattribute__"=MA (MA (.builtin "BaseException.__getattribute__"))
 gt:findIn K (.ref C) "__getattr__"=MA MF
 cl:findIn K (.ref C) "__class__"=MA (MA (.builtin "object.__class__"))
 gs:specialIn K (.builtin "object.__class__") "__get__"=MA (MA (.builtin "getset_descriptor.__get__"))
 tk:takesIn K (.builtin "object.__class__")=MA MC
 ob:mroIn K C (.type "object")=MA MC
 be:mroIn K C (.type "BaseException")=MA MC
 iz:(clsIn K C).isSome=MC
end
structure FnInX (P:MI) (w:MH) (K:Hj) (mg:Str->MR) (base:Heap) (k:Nat) (x:Str) (ps:MU) (sp:Sp):Prop where
 ex:∃ (f:Hm) (fd:FuncData),FnOk P w K mg base (CXe P w) k f fd ps sp/\mg x=MA (.ref f)/\Ji K (.ref f)=MC/\Binds K fd ps []
end L2
end
section
namespace L2
open PySem PySem.Spec PyProof.Rows
def EK (K:Hj):List V->Hp->VK->Prop:=λxs H Q=>∃ (a:Hm) (bs:Nc),xs=[.ref a]/\SqL K H a (bs.map V.bl)/\Q (.bl (bs.all id)) H
theorem mU:∀ {bs:Nc} {us:MQ},Vals (bs.map V.bl) us->us=bs.map Value.bool
 | [],us,r=>by
  cases r;rfl
 | b :: bs,us,r=>by
  cases r with
  | cons h t =>
   rw [mU t];cases (show _=Value.bool b from h);rfl
theorem range_all (bs:Nc):(HN bs.length).all (λi=>bs.getD i MG)=bs.all id:=by
 rw [Bool.eq_iff_iff,JI,JI];constructor
 ·intro h b hb;obtain⟨i,hi,rfl⟩:=List.mem_iff_getElem.mp hb;have:=h i (Ia.mpr hi)
  rwa [Hn,Hd hi] at this
 ·intro h i hi;have hi':=Ia.mp hi;rw [Hn,Hd hi'];exact h _ (Io hi')
theorem mV (prog:MI) (w:MH) (A:MJ) (bs:Nc):TruthOf prog w A (λi v=>(bs.map Value.bool).toArray[i]?=MA v) (λi=>bs.getD i MG):=by
 intro i v s Q E hv hq;rw [List.getElem?_toArray,Ho] at hv;cases eb:bs[i]? with
 | none=>rw [eb] at hv;cases hv
 | some b =>
  rw [eb] at hv;cases hv;dsimp only at hq;rw [Hn,eb] at hq;exact Hs hq
theorem uZ {X:Cx} (hc:X.calm=MC):yK X (.builtin "all") (EK X.K):=by
 intro Mu s σ H xs us Q I r h;obtain⟨a,bs,rfl,hq,q⟩:=h;obtain⟨u,rfl,r1⟩:=vals1 r;cases r1;obtain⟨its,rv,p,_⟩:=I.list hq;have hl:=p.isList;rw [mU rv] at hl;have ha:a<s.heap.objs.size:=by
  obtain⟨o,ho,_⟩:=hl;exact HD ho
 refine call_all_walk (wpAny_pyIter_list hl ?_);have hne:a≠s.heap.objs.size:=HW ha;refine⟨s.heap.objs.size,_,_,_,_,_,_,rfl,Walks.list (show (X.A.in1).handled=MF from I.ok.hd hc) _ a hne _,⟨?_,?_⟩,mV _ _ _ bs,λh' tk hk=>?_⟩
 ·exact⟨_,HS _ rfl,rfl,rfl⟩
 ·exact hl.at λo e=>Hr _ e
 ·have kp:∀ b o,s.heap.get? b=MA o->h'.get? b=MA o:=λb o e=>hk b o (by
   intro z;have:=HD e;rw [Hw.mp z] at this;exact Jw _ this) (Hr _ e)
  refine⟨.bl _,H,I.kept (t':=tk) kp,?_,q⟩;show Value.bool _=Value.bool _;rw [HG,Hc,range_all]
theorem iG {X:Cx} {K:Hj} (hK:X.K=K) (hc:X.calm=MC):yK X (.builtin "all") (EK K):=hK▸uZ hc
section
variable {K:Hj} {f:Fx} {ρ:zr} {P:MB->Prop} {te:TE}
theorem gj {H:Hp}:∀ {bs:Nc} {xs:List V},Reps K H (bs.map .bool) xs->xs=bs.map V.bl
 | [],xs,r=>zT.mp r
 | b :: bs,xs,r=>by
  obtain⟨x,r',rfl,h1,h2⟩:=zG.mp r;rw [gj h2,zW.mp h1];rfl
theorem DK (h:PEd K f te ρ λx=>∃ bs:Nc,x=.list (bs.map .bool)/\P (.bool (bs.all id))):PEd K f (tCB (EK K) (yj te jK)) ρ P:=λσ H Q e q=>h σ H _ e λx v H1 g1 r1 ⟨bs,ex,p⟩=>by
 subst ex;obtain⟨a,xs,rfl,h1,h2⟩:=zJ.mp r1;rw [gj h2] at h1;exact⟨a,bs,rfl,(zp _ _).seq h1,q _ _ H1 g1 (zW.mpr rfl) p⟩
end
section
variable {prog:MI} {w:MH} {A:MJ} {E:MD->ME->Prop}
theorem iH {I:Hm} {fp wr:MS} {n:Nat} {P:Nat->MD->Prop} {St:Nat->Heap->Prop} (W:Walks prog w A I fp wr n P St):∀ (k i:Nat) (s:ME) (Q:MQ->ME->Prop),i+k<=n->St i s.heap ->
  (∀ vs h' tk,vs.length=k->(∀ (j:Nat) v,vs[j]?=MA v->P (i+j) v)->St (i+k) h'->(∀ b o,b∉wr->s.heap.get? b=MA o->h'.get? b=MA o)->Q vs { s with heap:=h',toks:=tk })->HP (model prog w) A (draw (.ref I) k) Q E s
 | 0,i,s,Q,_,st,hQ=>Hs (hQ [] s.heap s.toks rfl (λj v e=>by simp at e) st λ_ _ _ e=>e)
 | k+1,i,s,Q,hle,st,hQ=>by
  show HP _ _ (pyNext (.ref I) >>= _) Q E s;refine Hf (W.item i s _ E (by omega) st λv h1 tk1 hv st1 k1=>?_);refine Hf (Ik (iH W k (i+1) _ _ (by omega) st1 λvs h2 tk2 hl hp st2 k2=>Hs ?_));refine hQ (v :: vs) h2 tk2 (by rw [HK,hl]) (λj u e=>?_) (by rw [show i+(k+1)=i+1+k by omega];exact st2) λb o hb e=>k2 b o hb (k1 b o hb e);cases j with
  | zero=>cases e;exact hv
  | succ j =>
   have:=hp j u e
   rwa [show i+(j+1)=i+1+j by omega]
theorem o8 {s:ME} {a:Hm} {items:Array MD} {targets:List (Bool×(MD->Sem Unit))} {Q:Unit->ME->Prop} (hh:A.handled=MF) (hl:s.heap.IsList a items)
  (hn:targets.length=items.size) (hstar:targets.findIdx? (·.1)=MF)
  (h:∀ h' tk,(∀ b o,s.heap.get? b=MA o->h'.get? b=MA o)->HP (model prog w) A (assignInOrder (targets.map (·.2)) items.toList) Q E { s with heap:=h',toks:=tk }):HP (model prog w) A (unpack (.ref a) targets) Q E s:=by
 have ha:a<s.heap.objs.size:=by
  obtain⟨o,ho,_⟩:=hl;exact HD ho
 unfold unpack;rw [hn,hstar];refine Hf (Ik ?_);unfold unpackItems;refine Hf ?_;unfold notIterableAtAll;refine Hf (Ki hl.typeIs slot_list_iter.lookup (Hs ?_));simp only [Iu,if_false];refine Hf (Ik (wpAny_pyIter_list hl ?_));have W:=Walks.list (prog:=prog) (w:=w) hh s.heap.objs.size a (HW ha) items;have fr:∀ b o,s.heap.get? b=MA o->b∉[s.heap.objs.size]:=λb o e z=>by
  have:=HD e;rw [Hw.mp z] at this;exact Jw _ this
 refine Hf (Ik (iH W items.size 0 _ _ (by omega) ⟨⟨_,HS _ rfl,rfl,rfl⟩,hl.at λo e=>Hr _ e⟩ λvs h1 tk1 hvl hp st1 k1=>?_));have ev:vs=items.toList:=by
  refine JT λj=>?_;by_cases hj:j<vs.length
  ·have:=hp j _ (Hd hj);rw [Ld] at this;rw [Hd hj,<- this,Jp]
  ·rw [Ib (by omega),Ib (by rw [HF];omega)]
 subst ev;rw [Mv (by simp)];rw [Ld] at st1;refine Hf (Ik (W.done _ _ _ st1 λh2 tk2 k2=>?_));simp only [Option.isSome_none,Iu,if_false];exact Hs (h h2 tk2 λb o e=>k2 b o (fr b o e) (k1 b o (fr b o e) (Hr _ e)))
end
def Gj (K:Hj) (n:Nat) (gs:TGs):TG:=λv σ H Q=>∃ a xs,v=.ref a/\SqL K H a xs/\xs.length=n/\gs xs σ H Q
theorem kE {X:Cx} {K:Hj} {es:MX} {k:Nat} {t:TGs} {n:Nat} {pos:Pos} (hK:X.K=K) (hc:X.calm=MC) (h:PGs X es t)
  (hn:(assignEach es X.env).length=n:=by rfl) (hst:(assignEach es X.env).findIdx? (·.1)=MF:=by rfl):PG X (.Tuple es k pos) (Gj K n t):=by
 subst hK;intro Mu s σ H v u Q I r hw;obtain⟨a,xs,e1,hq,hl,hw⟩:=hw;subst e1;cases r;obtain⟨its,rv,p,hz⟩:=I.list hq;rw [assign_Tuple];refine Hf (wpAny_standAt (o8 (I.ok.hd hc) p.isList (by rw [hn,<- hl,rv.length,HG]) hst λh' tk kp=>?_));exact h Mu _ σ H xs _ Q (I.kept (t':=tk) kp) rv hw
section
variable {K:Hj} {f:Fx} {ρ:zr}
theorem sU {n:Nat} {gs:TGs} {ds:M9} {R:zr->Prop} (hn:ds.length=n) (h:xP K f gs ds ρ R):PGd K f (Gj K n gs) (.list ds) ρ R:=λσ H v Q e r q=>by
 obtain⟨a,xs,rfl,h1,h2⟩:=zJ.mp r;exact⟨a,xs,rfl,(zp _ _).seq h1,by rw [h2.length];exact hn,h σ H xs Q e h2 q⟩
end
def EL (K:Hj) (neg:Bool):R2:=λx y H Q=>∃ d ds,Rep K H d x/\Rep K H (.list ds) y/\d.canLay0=MC/\(∀ e∈ds,e.canLay0=MC)/\d.depth<=50/\Q (.bl (if neg then !ds.any (λe=>HU e d) else ds.any (λe=>HU e d))) H
open Classical in
noncomputable def eqR (h:Heap) (d:MB) (u:MD):Bool:=if z:∃ e as,Reads h u e as/\e.canLay0=MC then HU z.choose d else MG
theorem xW {h:Heap} {d e:MB} {u:MD} {as:MS} (r:Reads h u e as) (c:e.canLay0=MC):eqR h d u=HU e d:=by
 have z:∃ e as,Reads h u e as/\e.canLay0=MC:=⟨e,as,r,c⟩;unfold eqR;rw [dif_pos z];obtain⟨as',r',c'⟩:=z.choose_spec;rw [SeqAt.Reads.unique _ _ _ _ _ c' r' r]
section
variable {X:Cx} {Mu:MT} {σ:St} {H:Hp} {s:ME}
theorem kF (I:Inv X Mu σ H s) {d:MB}:∀ {ds:M9} {xs:List V} {us:MQ},Reps X.K H ds xs->Vals xs us->(∀ e∈ds,e.canLay0=MC)->us.any (eqR s.heap d)=ds.any (λe=>HU e d)
 | [],xs,us,r,v,_=>by
  rw [zT.mp r] at v;cases v;rfl
 | e :: ds,xs,us,r,v,c=>by
  obtain⟨x,xs',rfl,h1,h2⟩:=zG.mp r;cases v with
  | cons r1 r2 =>
   obtain⟨as,ra⟩:=je I e x _ h1 r1;rw [KH,KH,xW ra (c e Hk),kF I h2 r2 λe he=>c e (Hl _ he)]
theorem gk (I:Inv X Mu σ H s) {A:MJ} {d:MB} {v:MD} {bs:MS} (rb:Reads s.heap v d bs) (cd:d.canLay0=MC) (dd:d.depth<=50) (hu:A.units+60<IZ):∀ {ds:M9} {xs:List V} {us:MQ},Reps X.K H ds xs->Vals xs us->(∀ e∈ds,e.canLay0=MC)->∀ u∈us,SeqAt.EqAt A s u v (eqR s.heap d u)
 | [],xs,us,r,w,_=>by
  rw [zT.mp r] at w;cases w;intro u hu;cases hu
 | e :: ds,xs,us,r,w,c=>by
  obtain⟨x,xs',rfl,h1,h2⟩:=zG.mp r;cases w with
  | cons r1 r2 =>
   intro u hm;rcases Hv.mp hm with rfl | hm
   ·obtain⟨as,ra⟩:=je I e x _ h1 r1;rw [xW ra (c e Hk)];refine SeqAt.eqAt_reads e d A s _ v as bs ra rb (c e Hk) cd ?_;have:=Jd e.depth d.depth;omega
   ·exact gk I rb cd dd hu h2 r2 (λe he=>c e (Hl _ he)) u hm
theorem EM (hu:X.A.units+64<IZ):OpR X (IJ .In) (EL X.K MG):=by
 intro Mu s σ H x y v u Q I rx ry h;obtain⟨d,ds,h1,h2,c1,c2,dd,q⟩:=h;obtain⟨a,xs,rfl,hq,hr⟩:=zJ.mp h2;cases ry;obtain⟨bs,rb⟩:=je I d x v h1 rx;obtain⟨its,r,pl,hz⟩:=I.list hq;refine SeqAt.in_listAt (eqR s.heap d) pl.isList (λw hw=>gk I rb c1 dd (show X.A.in1.units+60<IZ from by show X.A.units+1+60<IZ;omega) hr r c2 w (by simpa using hw)) ⟨.bl _,H,I,rfl,?_⟩;rw [show its.toArray.any (eqR s.heap d)=its.any (eqR s.heap d) by simp,kF I hr r c2];exact q
theorem sV {K:Hj} (hK:X.K=K) (hu:X.A.units+64<IZ):OpR X (IJ .In) (EL K MG):=hK▸EM hu
theorem wa {K:Hj} (hK:X.K=K):OpR X (IJ .NotIn) (rIn K MC):=hK▸kr
end
section
variable {K:Hj} {f:Fx} {ρ:zr} {P:MB->Prop} {te ta tb:TE} {t:TA} {D:DEnds} {i j:Nat}
theorem DL (h:PEd K f ta ρ λd=>PEd K f tb ρ λy=>∃ ds,y=.list ds/\d.canLay0=MC/\(∀ e∈ds,e.canLay0=MC)/\d.depth<=50/\P (.bool (ds.any λe=>HU e d))):PEd K f (tOp (EL K MG) ta tb) ρ P:=λσ H Q e q =>
 h σ H _ e λd v H1 g1 r1 p1=>p1 σ H1 _ (e.mono g1) λy w H2 g2 r2 ⟨ds,ey,c1,c2,dd,p2⟩=>by
  subst ey;exact⟨d,ds,Rep.mono (zp _ _) _ _ (Rep.mono g2.sm _ _ r1),Rep.mono (zp _ _) _ _ r2,c1,c2,dd,q _ _ H2 (g1.trans g2) (zW.mpr rfl) p2⟩
theorem xX (h:PEd K f ta ρ λd=>∃ n:Int,d=.int n/\PEd K f tb ρ λy=>∃ ns:M4,y=.tuple (ns.map .int)/\P (.bool (!ns.contains n))):PEd K f (tOp (rIn K MC) ta tb) ρ P:=λσ H Q e q =>
 h σ H _ e λd v H1 g1 r1 ⟨n,ed,p1⟩=>p1 σ H1 _ (e.mono g1) λy w H2 g2 r2 ⟨ns,ey,p2⟩=>by
  subst ed ey;obtain⟨a,xs,rfl,h1,h2⟩:=zR.mp r2;have ex:=h2.ints;subst ex;rw [zu.mp r1];have e1:inV (.int n) (ns.map V.int)=ns.contains n:=by
   unfold inV;rw [List.any_map,List.contains_eq_any_beq]
   congr 1
   funext m
   show (m == n)=(n == m);exact BEq.comm
  refine⟨a,_,rfl,.inr ((zp _ _).seqT h1),rfl,?_,?_⟩
  ·rw [List.all_map];exact JI.mpr λ_ _=>rfl
  ·rw [Mw rfl,e1];exact q _ _ H2 (g1.trans g2) (zW.mpr rfl) p2
end
end L2
end
section
namespace L2
open PySem PySem.Spec PyProof.Rows
section
variable {K:Hj} {f:Fx} {ρ:zr} {E:XK} {te:TE} {ts tu:TS} {tt:TT} {t:TA} {P:MB->Prop} {D:DEnds}
theorem Gk (h:PEd K f te ρ λx=>∃ i,x=.int i/\P (.int (-i))):PEd K f (tUn (rU λi=>.int (-i)) te) ρ P :=
 G5 (h.imp λx ⟨i,ex,p⟩ v H Q fo r q=>by
  subst ex;exact⟨i,zu.mp r,q _ _ H (.refl fo) (zu.mpr rfl) p⟩)
end
end L2
end
section
namespace L2
open PySem PySem.Spec PyProof.Rows
end L2
end
section
namespace L2
open PySem PySem.Spec PyProof.Rows
def EN (K:Hj):List V->Hp->VK->Prop:=λxs H Q=>∃ (a:Hm) (ns:M4),xs=[.ref a]/\SqL K H a (ns.map V.int)/\Q (.int ns.sum) H
theorem wb {X:Cx} (hc:X.calm=MC):yK X (.builtin "sum") (EN X.K):=by
 intro Mu s σ H xs us Q I r h;obtain⟨a,ns,rfl,hq,q⟩:=h;obtain⟨u,rfl,r1⟩:=vals1 r;cases r1;obtain⟨its,rv,p,_⟩:=I.list hq;have hl:=p.isList;have hi:IntsAre its ns:=intsAre_of rv;obtain⟨zs,ez⟩:=hi.allInts.items;rw [ez] at hl;refine sum_intListG (show (X.A).handled=MF from I.ok.hd hc) hl λh' tk t' kp=>⟨.int _,H,I.kept (t':=tk) kp,⟨_,rfl⟩,?_⟩;have e:preSum (numAt zs) zs.size=ns.sum:=by
  rw [<-hi.numsOf,show its=its.toArray.toList from rfl,ez,nums_intItems,preSum_eq,LO (by simp)]
 rw [e];exact q
theorem gm {X:Cx} {K:Hj} (hK:X.K=K) (hc:X.calm=MC):yK X (.builtin "sum") (EN K):=hK▸wb hc
section
variable {K:Hj} {f:Fx} {ρ:zr} {P:MB->Prop} {te:TE}
theorem DM (h:PEd K f te ρ λx=>∃ ns:M4,x=.list (ns.map .int)/\P (.int ns.sum)):PEd K f (tCB (EN K) (yj te jK)) ρ P:=λσ H Q e q=>h σ H _ e λx v H1 g1 r1 ⟨ns,ex,p⟩=>by
 subst ex;obtain⟨a,xs,rfl,h1,h2⟩:=zJ.mp r1;rw [h2.ints] at h1;exact⟨a,ns,rfl,(zp _ _).seq h1,q _ _ H1 g1 (zu.mpr rfl) p⟩
end
section
variable {prog:MI} {w:MH} {A:MJ} {E:MD->ME->Prop} {s:ME}
theorem B6 {t b:Hm} {vs ws:MQ} {Q:MD->ME->Prop} (ht:PlainL s.heap t vs.toArray) (hb:PlainL s.heap b ws.toArray)
  (h2:Q (.ref s.heap.objs.size) { s with heap:=s.heap.push { cls:=.type "list",data:=.seq (vs++ws).toArray } })
  (hsz:vs.length+ws.length<=Ir):HP (model prog w) A (binaryOp .Add (.ref t) (.ref b)) Q E s:=by
 obtain⟨⟨cls,dd,data,sl⟩,n,ho,hc,_,hd⟩:=ht;obtain⟨⟨cls2,dd2,data2,sl2⟩,n2,ho2,hc2,_,hd2⟩:=hb;simp only at hc hd hc2 hd2;subst hc hd hc2 hd2;have e:vs.toArray++ws.toArray=(vs++ws).toArray:=by simp
 refine concat_meets ⟨_,ho,rfl⟩ ⟨_,ho2,rfl⟩ noFill_list_add seq_list_add PySem.F.slot_list_add PySem.F.entry_list_add (PySem.F.args_list_add_2 _ _) (list_addW t b vs.toArray ws.toArray n n2 dd dd2 sl sl2 (by rw [HG,HG];exact hsz)) ⟨ho,ho2,?_⟩;rw [e];exact h2
end
def xY (K:Hj):R2:=λx y H Q=>∃ l b xs zs,x=.ref l/\y=.ref b/\SqL K H l xs/\SqL K H b zs/\xs.length+zs.length<=Ir/\∀ p,H p=MF->Q (.ref p) (upd H p (.lst (xs++zs)))
section
variable {X:Cx}
theorem B7:OpR X (binaryOp .Add) (xY X.K):=by
 intro Mu s σ H x y v u Q I rx ry h;obtain⟨l,b,xs,zs,rfl,rfl,ha,hb,hz,q⟩:=h;cases rx;cases ry;obtain⟨its,r1,p1,_⟩:=I.list ha;obtain⟨its2,r2,p2,_⟩:=I.list hb;refine B6 p1 p2 ?_ (by rw [<-r1.length,<- r2.length];exact hz);exact⟨.ref _,_,I.lnew (t':=s.toks) (r1.append r2) (by rw [HA];omega),rfl,q _ I.fresh⟩
theorem gp {K:Hj} (hK:X.K=K):OpR X (binaryOp .Add) (xY K):=hK▸B7
end
section
variable {K:Hj} {f:Fx} {ρ:zr} {P:MB->Prop} {te ta tb:TE} {t:TA}
theorem o9 (h:PEd K f ta ρ λx=>∃ ds,x=.list ds/\PEd K f tb ρ λy=>∃ es,y=.list es/\ds.length+es.length<=1000/\P (.list (ds++es))):PEd K f (tOp (xY K) ta tb) ρ P:=λσ H Q e q =>
 h σ H _ e λx v H1 g1 r1 ⟨ds,ex,p1⟩=>p1 σ H1 _ (e.mono g1) λy w H2 g2 r2 ⟨es,ey,hl,p2⟩=>by
  subst ex ey;obtain⟨a,xs,rfl,h1,h2⟩:=zJ.mp (Rep.mono g2.sm _ _ r1);obtain⟨b,ys,rfl,h3,h4⟩:=zJ.mp r2;have l1:=h2.length;have l2:=h4.length;refine⟨a,b,xs,ys,rfl,rfl,(zp _ _).seq h1,(zp _ _).seq h3,by rw [l1,l2];exact IH (zY hl),λp hn=>?_⟩;have g3:Goes f H2 (upd H2 p (.lst (xs++ys))):=.of_same (ye hn _) g2.ok;exact q (.list (ds++es)) _ _ (g1.trans (g2.trans g3)) (zJ.mpr ⟨p,_,rfl,.of (zI (fresh_ne g2.ok hn) zw),Reps.mono g3.sm _ _ (h2.append h4)⟩) p2
theorem bY {R:M9->Prop} (h:PAd K f t ρ λxs=>∃ ds,vJ xs=MA ds/\ds.length<=1000/\R ds):PEdO K f (uP t) ρ R:=λσ H Q e q =>
 h σ H _ e λxs vs H1 g1 r1 ⟨ds,ea,hl,p⟩=>by
  have rs:=aj r1 ea;refine⟨by rw [rs.length];exact IH (zY hl),λl hn=>?_⟩;have g2:Goes f H1 (upd H1 l (.lst vs)):=.of_same (ye hn _) g1.2;have nl:=fresh_ne g1.2 hn;refine q ds l vs _ (g1.trans g2) (g1.free e.fd hn) zw (Reps.mono (λb o hb=>?_) _ _ rs) p;have hb':=zZ hb;have hbl:b≠l:=λz=>by
   have:=hb'.2;rw [z,hn] at this;cases this
  refine zI (λz=>?_) (by rw [zz hbl];exact hb'.2);rcases z with z | z
  ·exact hb'.1 (.inl z)
  ·rcases Hv.mp z with z | z
   ·exact hbl z
   ·exact hb'.1 (.inr z)
end
def spN {γ:Type} (K:Hj) (n:Nat) (pre:γ->List DV->Prop) (post:γ->M9->Prop):Sp:=λvs H Q _=>∃ f xs c,RepVs K f H xs vs/\xs.length=n/\FOk f H/\pre c xs /\
 ∀ es D vs' H',Goes f H H'->H D=MF->H' D=MA (.lst vs')->Reps K (hide H' (f.with D)) es vs'->post c es->Q (.ref D) H'
def PSn (K:Hj) (f:Fx) (ts:TS) (ρ:zr) (R:M9->Prop):Prop:=∀ (σ:St) (H:Hp) (E:Ends),EnvOk K f ρ σ H ->
 (∀ es D vs H',Goes f H H'->H D=MF->H' D=MA (.lst vs)->Reps K (hide H' (f.with D)) es vs->R es->E.rt (.ref D) H')->ts E σ H
section
variable {K:Hj} {f:Fx} {ρ:zr} {R:M9->Prop} {te:TE} {ts tu:TS} {tt:TT} {t:TA} {i:Nat} {D:Hm} {es:M9} {O:OEnds}
theorem eF (h:PEdO K f te ρ R):PSn K f (hJ te) ρ R:=λσ H E e q=>h σ H E.rt e q
theorem qY (h:PSd K f ts ρ { nx:=λρ'=>PSn K f tu ρ' R,rt:=λ_=>False }):PSn K f (aP ts tu) ρ R:=λσ H E e q =>
 h σ H _ e (λρ' σ' H' g' e' p=>p σ' H' E e' λes D vs H2 g2 hn h1 rs r=>q es D vs H2 (g'.trans g2) (g'.free e.fd hn) h1 rs r) (λ_ _ _ _ _ z=>z.elim) (λ_ _ _ _ _ z=>z.elim) (λ_ _ _ _ _ z=>z.elim)
theorem xZ (h:PTd K f tt ρ λb=>if b=MC then PEdO K f te ρ R else PSn K f tu ρ R):PSn K f (aP (xp tt (hJ te) sH) tu) ρ R:=λσ H E e q =>
 h σ H _ e λb H1 g1 p=>by
  have q1:∀ es D vs H',Goes f H1 H'->H1 D=MF->H' D=MA (.lst vs)->Reps K (hide H' (f.with D)) es vs->R es->E.rt (.ref D) H':=λes D vs H' g' hn=>q es D vs H' (g1.trans g') (g1.free e.fd hn);cases b with
  | true=>rw [Mw rfl] at p ⊢;exact p σ H1 E.rt (e.mono g1) q1
  | false=>rw [Mv He] at p ⊢;exact p σ H1 E (e.mono g1) q1
theorem qZ {γ:Type} {n:Nat} {pre:γ->List DV->Prop} {post:γ->M9->Prop} {E:XK} (c:γ) (h:PAd K f t ρ λxs=>xs.length=n/\pre c xs/\∀ es,post c es->R es):PEdO K f (cO (spN K n pre post) [] E t) ρ R:=λσ H Q e q =>
 h σ H _ e λxs vs H1 g1 r1 ⟨hl,hp,k⟩=>⟨f,xs,c,by rw [IX];exact r1,hl,g1.2,hp,λes D vs' H' g' hn h1 rs p=>q es D vs' H' (g1.trans g') (g1.free e.fd hn) h1 rs (k es p)⟩
theorem DN {ta tb:TE} (h:PTd K f tt ρ λb=>if b=MC then PEdO K f ta ρ R else PEdO K f tb ρ R):PEdO K f (tIf tt ta tb) ρ R:=λσ H Q e q =>
 h σ H _ e λb H1 g1 p=>by
  have q1:∀ es D vs H',Goes f H1 H'->H1 D=MF->H' D=MA (.lst vs)->Reps K (hide H' (f.with D)) es vs->R es->Q (.ref D) H':=λes D vs H' g' hn=>q es D vs H' (g1.trans g') (g1.free e.fd hn);cases b with
  | true=>rw [Mw rfl] at p ⊢;exact p σ H1 Q (e.mono g1) q1
  | false=>rw [Mv He] at p ⊢;exact p σ H1 Q (e.mono g1) q1
end
section
variable {P:MI} {w:MH} {K:Hj} {mg:Str->MR} {base:Heap} {k:Nat} {x:Str} {st:Stmt} {ps:MU} {N:MU} {n:Nat} {γ:Type} {pre:γ->List DV->Prop} {post:γ->M9->Prop}
theorem Def.okN (F:Def K mg x st ps) (S:FnScope N ps (zh st)) (hn:ps.length=n)
  (h:∀ (fa:Hm) (cdv:MD) (A:MJ) (outer:MV) (s:ME) (H:Hp) (E:XK),Room k (A.deeper (envOfC x (zh st) s.heap.objs.size fa cdv)) ->
   ∃ t,PSs (yd CX0 P w K mg base N x (zh st) fa cdv A outer s H E).nox (yo st) t/\∀ (f:Fx) (xs:List DV) (c:γ),xs.length=n->pre c xs->PSn K f t (qz N xs) (post c)) :
  FnIn P w K mg base (k+1) x ps (spN K n pre post):=by
 obtain⟨fa,fd,F1,F2,F3⟩:=F.ex;refine⟨fa,fd,F1.ok S (λvs H Q E h=>?_) (λcdv A outer s H vs Q E hr hs=>?_),F3,F1.kp,F2⟩
 ·obtain⟨f,xs,c,r,hl,_⟩:=h;rw [r.length,hl,hn]
 ·obtain⟨f,xs,c,r,hl,fo,hp,q⟩:=hs;obtain⟨t,h1,h2⟩:=h fa cdv A outer s H E hr;exact⟨t,h1,h2 f xs c hl hp (start N vs) H _ (jP r fo) (λes D vs' H' g hn' h1' rs p=>q es D vs' H' g hn' h1' rs p)⟩
end
section
variable {X:Cx} {Mu:MT} {σ:St} {H:Hp} {s:ME} {h':Heap}
theorem Inv.keptL {t':Nat} (I:Inv X Mu σ H s) (k:∀ b u,b≠X.env.locals->s.heap.get? b=MA u->h'.get? b=MA u) (hL:∃ o,h'.get? X.env.locals=MA o) (ns:∀ m,s.heap.Ns X.env.locals m->h'.Ns X.env.locals m):Inv X Mu σ H { s with heap:=h',toks:=t' }:=by
 have fL:H X.env.locals=MF:=I.free;refine I.step (g':=s.gens) (d':=s.drawn) (ch:=[]) (λ_ z=>nomatch z) (λb o n _ _ e _=>k b o n e) (λb o n _ _ e _=>⟨o.slots,k b o n e⟩) (λb o _ _ e=>e) (λb o _ e=>?_) (λ_ _ e=>e) (λ_ _ _ e=>e) (λ_ _ e=>e) ns (λa o e=>(I.hok a o e).stay (λb u hb q=>k b u (λz=>?_) q) (λ_ q=>q) λ_ _ q=>q) I.bare
 ·by_cases hb:b=X.env.locals
  ·subst hb;exact hL
  ·exact⟨o,k b o hb e⟩
 ·rcases hb with hb | hb
  ·rw [<-hb,z,fL] at e;cases e
  ·rw [z,fL] at hb;cases hb
end
section
variable {X:Cx} {Mu:MT} {σ:St} {H:Hp} {s:ME} {h':Heap}
theorem Inv.laidL {t':Nat} {D:Hm} {o:HO} (I:Inv X Mu σ H s) (k:∀ b u,b≠X.env.locals->s.heap.get? b=MA u->h'.get? b=MA u) (hL:∃ o,h'.get? X.env.locals=MA o) (ns:∀ m,s.heap.Ns X.env.locals m->h'.Ns X.env.locals m)
  (nD:∀ b u,s.heap.get? b=MA u->b≠D) (hD:H D=MF) (new:ObjOk X.prog X.w (upd H D o) h' D o):Inv X Mu σ (upd H D o) { s with heap:=h',toks:=t' }:=by
 have fL:H X.env.locals=MF:=I.free;refine I.step (g':=s.gens) (d':=s.drawn) (ch:=[]) (λ_ z=>nomatch z) (λb o n _ _ e _=>k b o n e) (λb o n _ _ e _=>⟨o.slots,k b o n e⟩) (λb u _ e n=>by rw [zz (nD b u e)];exact n) (λb o _ e=>?_) (λb xs e=>by rw [zz (zQ e hD)];exact e) (λb u v e=>by rw [zz (zQ e hD)];exact e) (λb ps e=>by rw [zz (zQ e hD)];exact e) ns (λa u e=>?_) I.bare
 ·by_cases hb:b=X.env.locals
  ·subst hb;exact hL
  ·exact⟨o,k b o hb e⟩
 ·by_cases ha:a=D
  ·subst ha;rw [zw] at e;cases e;exact new
  ·rw [zz ha] at e;refine (I.hok a u e).stay (λb v hb q=>k b v (λz=>?_) q) (λc q=>by rw [zz (zQ q hD)];exact q) λc xs q=>by rw [zz (zQ q hD)];exact q
   rcases hb with hb | hb
   ·rw [<-hb,z,fL] at e;cases e
   ·rw [z,fL] at hb;cases hb
end
theorem tup_ne {h:Heap} {L a:Hm} {m:Str->MR} {its:Array MD} (n:h.Ns L m) (t:IsTup h a its):a≠L:=λz=>by
 obtain⟨o,es,ep,ho,r⟩:=n;obtain⟨o2,ho2,hc,k,hd⟩:=t;rw [z,ho] at ho2;cases ho2;rw [r.1] at hd;cases hd
theorem gq {h h':Heap} {a:Hm} {its:Array MD} (t:IsTup h a its) (k:∀ u,h.get? a=MA u->h'.get? a=MA u):IsTup h' a its :=
 let⟨o,ho,r⟩:=t
 ⟨o,k o ho,r⟩
end L2
end
section
namespace L2
open PySem PySem.W PyProof.Rows
structure Tot (n:Nat) (lt:Nat->Nat->Bool):Prop where
 tri:∀ i j,i<n->j<n->i≠j->lt i j=!lt j i
 tra:∀ i j k,i<n->j<n->k<n->lt i j=MC->lt j k=MC->lt i k=MC
def Ans (cmp:Nat->Nat->(Bool->ME->Prop)->ME->Prop) (n:Nat) (lt:Nat->Nat->Bool) (s:ME):Prop:=∀ i j C,i<n->j<n->C (lt i j) s->cmp i j C s
def Pm (n:Nat) (p:Array Nat):Prop:=p.toList.Perm (HN n)
def Up (lt:Nat->Nat->Bool) (p:Array Nat) (m:Nat):Prop:=∀ i j,i<j->j<m->lt (p.getD i 0) (p.getD j 0)=MC
def Dn (lt:Nat->Nat->Bool) (p:Array Nat) (m:Nat):Prop:=∀ i j,i<j->j<m->lt (p.getD j 0) (p.getD i 0)=MC
theorem Pm.size {n:Nat} {p:Array Nat} (h:Pm n p):p.size=n:=by
 have:=h.length_eq
 rwa [HF,HY] at this
theorem vn (p:Array Nat) (i:Nat):p.getD i 0=p.toList.getD i 0:=by
 by_cases h:i<p.size <;> simp [Kb,h,List.getD]
theorem Pm.lt {n:Nat} {p:Array Nat} (h:Pm n p) {i:Nat} (hi:i<n):p.getD i 0<n:=by
 have hs:=h.size;have hl:i<p.toList.length:=by rw [HF,hs];exact hi
 rw [vn,Hn,Hd hl];exact Ia.mp (h.mem_iff.mp (Io hl))
theorem Pm.ne {n:Nat} {p:Array Nat} (h:Pm n p) {i j:Nat} (hi:i<n) (hj:j<n) (ne:i≠j):p.getD i 0≠p.getD j 0:=by
 have hs:=h.size;have nd:p.toList.Nodup:=h.nodup_iff.mpr LF;have li:i<p.toList.length:=by rw [HF,hs];exact hi
 have lj:j<p.toList.length:=by rw [HF,hs];exact hj
 rw [vn,vn,Hn,Hn,Hd li,Hd lj];intro e;exact ne ((K4 nd).mp e)
theorem Pm.range (n:Nat):Pm n (IV (HN n)):=List.Perm.refl _
theorem Pm.of {n:Nat} {p q:Array Nat} (h:Pm n p) (e:q.Perm p):Pm n q:=(Array.perm_iff_toList_perm.mp e).trans h
theorem sW {p q:Array Nat} {i j:Nat} (h:p[i]?=q[j]?):p.getD i 0=q.getD j 0:=by
 rw [JG,JG,h]
section
variable {cmp:Nat->Nat->(Bool->ME->Prop)->ME->Prop} {n:Nat} {lt:Nat->Nat->Bool} {s:ME} {p:Array Nat}
theorem Up.more (T:Tot n lt) (hp:Pm n p) {m:Nat} (h1:1<=m) (hm:m<n) (u:Up lt p m) (h:lt (p.getD (m - 1) 0) (p.getD m 0)=MC):Up lt p (m+1):=λi j hij hj=>by
 by_cases e:j=m
 ·subst e;by_cases e2:i=j - 1
  ·subst e2;exact h
  ·exact T.tra _ _ _ (hp.lt (by omega)) (hp.lt (by omega)) (hp.lt hm) (u i (j - 1) (by omega) (by omega)) h
 ·exact u i j hij (by omega)
theorem Dn.more (T:Tot n lt) (hp:Pm n p) {m:Nat} (h1:1<=m) (hm:m<n) (u:Dn lt p m) (h:lt (p.getD m 0) (p.getD (m - 1) 0)=MC):Dn lt p (m+1):=λi j hij hj=>by
 by_cases e:j=m
 ·subst e;by_cases e2:i=j - 1
  ·subst e2;exact h
  ·exact T.tra _ _ _ (hp.lt hm) (hp.lt (by omega)) (hp.lt (by omega)) h (u i (j - 1) (by omega) (by omega))
 ·exact u i j hij (by omega)
theorem ff (T:Tot n lt) (W:Ans cmp n lt s) (hp:Pm n p) {Q:Nat->ME->Prop}:∀ f m,1<=m->m+f<=n->Up lt p m->(∀ m',m<=m'->m'<=m+f->Up lt p m'->(m'=m+f \/ lt (p.getD m' 0) (p.getD (m' - 1) 0)=MC)->Q m' s)->(kas_asc p f m).kasWp cmp Q s
 | 0,m,h1,hf,u,q=>q m (Ht _) (Ht _) u (.inl rfl)
 | f+1,m,h1,hf,u,q=>by
  refine W _ _ _ (hp.lt (by omega)) (hp.lt (by omega)) ?_;cases e:lt (p.getD m 0) (p.getD (m - 1) 0) with
  | true=>exact q m (Ht _) (by omega) u (.inr e)
  | false =>
   have e2:lt (p.getD (m - 1) 0) (p.getD m 0)=MC:=by
    rw [T.tri _ _ (hp.lt (by omega)) (hp.lt (by omega)) (hp.ne (by omega) (by omega) (by omega)),e];rfl
   exact ff T W hp f (m+1) (by omega) (by omega) (u.more T hp h1 (by omega) e2) λm' a b c d=>q m' (by omega) (by omega) c (d.imp (λz=>by omega) id)
theorem mW (T:Tot n lt) (W:Ans cmp n lt s) (hp:Pm n p) {Q:Array Nat×Nat×Nat->ME->Prop}:∀ f m,1<=m->m+f<=n->Dn lt p m->(∀ m',m<=m'->m'<=m+f->Dn lt p m'->Q (p,m',0) s)->(kas_desc f p m 0).kasWp cmp Q s
 | 0,m,h1,hf,u,q=>q m (Ht _) (Ht _) u
 | f+1,m,h1,hf,u,q=>by
  refine W _ _ _ (hp.lt (by omega)) (hp.lt (by omega)) ?_;cases e:lt (p.getD m 0) (p.getD (m - 1) 0) with
  | true=>exact mW T W hp f (m+1) (by omega) (by omega) (u.more T hp h1 (by omega) e) λm' a b c=>q m' (by omega) (by omega) c
  | false =>
   have e2:lt (p.getD (m - 1) 0) (p.getD m 0)=MC:=by
    rw [T.tri _ _ (hp.lt (by omega)) (hp.lt (by omega)) (hp.ne (by omega) (by omega) (by omega)),e];rfl
   refine W _ _ _ (hp.lt (by omega)) (hp.lt (by omega)) ?_;rw [e2];exact q m (Ht _) (by omega) u
theorem EO {m:Nat} (hm:m<=p.size) (d:Dn lt p m):Up lt (kas_rev p 0 m) m:=λi j hij hj=>by
 have g:∀ k,k<m->(kas_rev p 0 m).getD k 0=p.getD (m - 1 - k) 0:=λk hk=>sW (by
  unfold kas_rev;rw [getElem?_mirror_all hm,Mw ⟨HR _,hk⟩,Ld])
 rw [g i (by omega),g j hj];exact d _ _ (by omega) (by omega)
theorem wc (T:Tot n lt) (W:Ans cmp n lt s) (hp:Pm n p) (hn:1<=n) {Q:Nat×Array Nat->ME->Prop} (q:∀ m p',1<=m->m<=n->Pm n p'->Up lt p' m->Q (m,p') s):(kas_count n p).kasWp cmp Q s:=by
 unfold kas_count;rw [KasT.kasWp_bind];refine ff T W hp (n - 1) 1 (Ht _) (by omega) (λi j a b=>by omega) λm h1 h2 u c=>?_;by_cases e:(m == n)=MC
 ·rw [Mw e];exact q m p h1 (by omega) hp u
 ·rw [Mv e];have hm:m<n:=by
   have:m≠n:=λz=>e (by rw [z];exact beq_self_eq_true _);omega
  by_cases e2:m > 1
  ·rw [Mw e2];refine W _ _ _ (hp.lt (by omega)) (hp.lt (by omega)) ?_;rw [u 0 (m - 1) (by omega) (by omega)];exact q m p h1 (by omega) hp u
  ·rw [Mv e2];obtain rfl:m=1:=by omega
   have c':lt (p.getD 1 0) (p.getD (1 - 1) 0)=MC:=c.resolve_left (by omega);unfold kas_descPart;rw [KasT.kasWp_bind];refine mW T W hp (n - (1+1)) (1+1) (by omega) (by omega) (Dn.more T hp (Ht 1) hm (λi j a b=>by omega) c') λm' a b d=>?_;rw [Mv (by show ¬ (0 > 0);omega)];unfold kas_tail3;rw [KasT.kasWp_bind];have hp2:Pm n (kas_rev p 0 m'):=hp.of (mirror_perm _ _ _ _);exact ff T W hp2 (n - m') m' (by omega) (by omega) (EO (by rw [hp.size];omega) d) λm2 a2 b2 u2 _=>q m2 _ (by omega) (by omega) hp2 u2
theorem dM (T:Tot n lt) (W:Ans cmp n lt s) (hp:Pm n p) {k:Nat} (hk:k<n) (u:Up lt p k) {Q:Nat->ME->Prop}:∀ f l r,r - l<=f->l<=r->r<=k->(∀ i,i<l->lt (p.getD i 0) (p.getD k 0)=MC)->(∀ i,r<=i->i<k->lt (p.getD k 0) (p.getD i 0)=MC) ->
  (∀ m,m<=k->(∀ i,i<m->lt (p.getD i 0) (p.getD k 0)=MC)->(∀ i,m<=i->i<k->lt (p.getD k 0) (p.getD i 0)=MC)->Q m s)->(kas_place p k f l r).kasWp cmp Q s
 | 0,l,r,hf,hlr,hr,lo,hi,q=>by
  obtain rfl:l=r:=by omega
  exact q l hr lo hi
 | f+1,l,r,hf,hlr,hr,lo,hi,q=>by
  unfold kas_place;by_cases e:l >= r
  ·rw [Mw e];obtain rfl:l=r:=by omega
   exact q l hr lo hi
  ·rw [Mv e];refine W _ _ _ (hp.lt hk) (hp.lt (by omega)) ?_;have hm:(l+r) / 2<k:=by omega
   cases e2:lt (p.getD k 0) (p.getD ((l+r) / 2) 0) with
   | true =>
    refine dM T W hp hk u f l ((l+r) / 2) (by omega) (by omega) (by omega) lo (λi h1 h2=>?_) q;by_cases e3:i=(l+r) / 2
    ·rw [e3];exact e2
    ·exact T.tra _ _ _ (hp.lt hk) (hp.lt (by omega)) (hp.lt (by omega)) e2 (u _ _ (by omega) h2)
   | false =>
    have e4:lt (p.getD ((l+r) / 2) 0) (p.getD k 0)=MC:=by
     rw [T.tri _ _ (hp.lt (by omega)) (hp.lt hk) (hp.ne (by omega) hk (by omega)),e2];rfl
    refine dM T W hp hk u f ((l+r) / 2+1) r (by omega) (by omega) hr (λi h1=>?_) hi q;by_cases e3:i=(l+r) / 2
    ·rw [e3];exact e4
    ·exact T.tra _ _ _ (hp.lt (by omega)) (hp.lt (by omega)) (hp.lt hk) (u _ _ (by omega) hm) e4
theorem ER {k m:Nat} (hk:k<p.size) (hm:m<=k) (u:Up lt p k) (lo:∀ i,i<m->lt (p.getD i 0) (p.getD k 0)=MC) (hi:∀ i,m<=i->i<k->lt (p.getD k 0) (p.getD i 0)=MC):Up lt (bubble p k (k - m)) (k+1):=λi j hij hj=>by
 have g:∀ t,t<=k->(bubble p k (k - m)).getD t 0=p.getD (if t=m then k else if t<m then t else t - 1) 0:=λt ht=>sW (by
  rw [getElem?_bubble hk (k - m) (by omega),show k - (k - m)=m by omega];by_cases e1:t=m
  ·rw [Mw e1,Mw e1]
  ·rw [Mv e1,Mv e1];by_cases e2:t<m
   ·rw [Mv (by omega),Mw e2]
   ·rw [Mw (by omega),Mv e2])
 rw [g i (by omega),g j (by omega)];by_cases a1:i=m
 ·rw [Mw a1,Mv (by omega),Mv (by omega)];exact hi _ (by omega) (by omega)
 ·rw [Mv a1];by_cases a2:j=m
  ·rw [Mw a2,Mw (by omega)];exact lo _ (by omega)
  ·rw [Mv a2];by_cases a3:i<m
   ·rw [Mw a3];by_cases a4:j<m
    ·rw [Mw a4];exact u _ _ hij (by omega)
    ·rw [Mv a4];exact u _ _ (by omega) (by omega)
   ·rw [Mv a3,Mv (by omega)];exact u _ _ (by omega) (by omega)
theorem sX (T:Tot n lt) (W:Ans cmp n lt s) {Q:Array Nat->ME->Prop}:∀ f k (p:Array Nat),Pm n p->k+f=n->Up lt p k->(∀ p',Pm n p'->Up lt p' n->Q p' s)->(kas_bin f p k).kasWp cmp Q s
 | 0,k,p,hp,hf,u,q=>by
  obtain rfl:k=n:=by omega
  exact q p hp u
 | f+1,k,p,hp,hf,u,q=>by
  unfold kas_bin;rw [KasT.kasWp_bind];refine dM T W hp (by omega) u k 0 k (by omega) (HR _) (Ht _) (λi hi=>by omega) (λi a b=>by omega) λm h1 lo hi=>?_;exact sX T W f (k+1) _ (hp.of (bubble_perm _ _ _)) (by omega) (ER (by rw [hp.size];omega) h1 u lo hi) q
theorem x8 (T:Tot n lt) (W:Ans cmp n lt s) (hn:1<=n) {Q:Array Nat->ME->Prop} (q:∀ p,Pm n p->Up lt p n->Q p s):(kas_sort n).kasWp cmp Q s:=by
 unfold kas_sort;rw [KasT.kasWp_bind];refine wc T W (Pm.range n) hn λm p h1 h2 hp u=>?_;by_cases e:m<n
 ·show (if m<n then _ else _:KasT (Array Nat)).kasWp cmp Q s;rw [Mw e,show max m 1=m by omega];exact sX T W (n - m) m p hp (by omega) u q
 ·show (if m<n then _ else _:KasT (Array Nat)).kasWp cmp Q s;rw [Mv e];obtain rfl:m=n:=by omega
  exact q p hp u
end
end L2
end
section
namespace L2
open PySem PySem.W PySem.Calls PyProof.Rows
theorem iI:∀ f n r,r<=1->minRun' f n r<=n+1
 | 0,n,r,h=>by show n+r<=n+1;omega
 | f+1,n,r,h=>by
  rw [minRun'_succ];by_cases e:n<64
  ·rw [Mw e];omega
  ·rw [Mv e];have:=iI f (n / 2) (max r (n % 2)) (by omega);omega
theorem p7 {n:Nat} (h:1<=n):minRun' n n 0<=n:=by
 obtain⟨f,rfl⟩:∃ f,n=f+1:=⟨n - 1,by omega⟩;rw [minRun'_succ];by_cases e:f+1<64
 ·rw [Mw e];omega
 ·rw [Mv e];have:=iI f ((f+1) / 2) (max 0 ((f+1) % 2)) (by omega);omega
section
variable {P:MI} {w:MH} {A:MJ} {X:MD->ME->Prop} {s:ME} {κ:SortKind} {it:Array Keyed} {n:Nat} {lt:Nat->Nat->Bool} {Q:SortSt->ME->Prop}
theorem B8 (W:Ans (kas_cmp P w A κ it) n lt s) (T:Tot n lt) (h2:2<=n) (up:∀ i,i+1<n->lt (i+1) i=MG)
  (q:∀ st',arrOf st'=(IV (HN n)).map (kas_item it)->failedOf st'=MF->Q st' s):kasC (model P w) A X sortRuns' (λ_ st' s'=>Q st' s') (kas_st κ it (IV (HN n))) s:=by
 obtain⟨r,rfl⟩:∃ r,n=r+2:=⟨n - 2,by omega⟩;have sz:(IV (HN (r+2))).size=r+2:=by simp
 have szA:(arrOf (kas_st κ it (IV (HN (r+2))))).size=r+2:=by
  show (Array.map _ _).size=_;rw [Mc,sz]
 have mr:=p7 (n:=r+2) (by omega);have at_:∀ i,i<r+2->(IV (HN (r+2))).getD i 0=i:=λi hi=>by simp [Kb,hi]
 have cnt:(kas_count (r+2) (IV (HN (r+2)))).kasWp (kas_cmp P w A κ it) (λz s'=>z=(r+2,IV (HN (r+2)))/\s'=s) s:=by
  unfold kas_count;rw [KasT.kasWp_bind];refine ff T W (Pm.range _) (r+2 - 1) 1 (Ht _) (by omega) (λi j a b=>by omega) λm a b u c=>?_;have e:m=r+2:=by
   rcases c with c | c
   ·omega
   ·by_cases hm:m<r+2
    ·rw [at_ m hm,at_ (m - 1) (by omega)] at c;have:=up (m - 1) (by omega);rw [show m - 1+1=m by omega,c] at this;cases this
    ·omega
  subst e;rw [Mw (beq_self_eq_true _)];exact⟨rfl,rfl⟩
 rw [sortRuns'_eq];apply kasC_bind;apply kasC_get;simp only [szA];apply kasC_bind;apply kasC_range
 change kasC _ _ _ (forIn (0 :: 1 :: List.range' 2 r) _ _) _ _ _
 apply kasC_cons;simp only [Nat.sub_zero,Ld,show ¬ (0 >= r+2) by omega,if_false];refine kasC_bind (kas_count_ (by omega) (JA sz.symm) (λm p' s' _ _ _ z=>?_) cnt);obtain⟨z,rfl⟩:=z;cases z;simp only [show ¬ (r+2<minRun' (r+2) (r+2) 0) by omega,if_false];apply kasC_bind;apply kasC_get
 change kasC _ _ _ (modify (λst=>setPending st ((pendingOf st).push (0,r+2,0))) >>= _) _ _ _
 apply kasC_bind;apply kasC_modify;apply kasC_pure;apply kasC_cons;simp only [show r+2 >= r+2 from Ht _,if_true];apply kasC_pure;apply kasC_bind;apply kasC_range
 change kasC _ _ _ (forIn (0 :: 1 :: List.range' 2 r) _ _) _ _ _
 apply kasC_cons;apply kasC_bind;apply kasC_get;rw [Mw (show (pendingOf (setPending (kas_st κ it (IV (HN (r+2)))) ((pendingOf (kas_st κ it (IV (HN (r+2))))).push (0,r+2,0)))).size<=1 from Ht 1)];apply kasC_pure;exact kasC_pure (q _ rfl rfl)
theorem mX (W:Ans (kas_cmp P w A κ it) n lt s) (T:Tot n lt) (h2:2<=n) (hs:n<64 \/ ∀ i,i+1<n->lt (i+1) i=MG)
  (q:∀ st' p,Pm n p->Up lt p n->arrOf st'=p.map (kas_item it)->failedOf st'=MF->Q st' s):kasC (model P w) A X sortRuns' (λ_ st' s'=>Q st' s') (kas_st κ it (IV (HN n))) s:=by
 rcases hs with hs | hs
 ·exact kas_runs h2 hs (G:=λp s'=>s'=s/\Pm n p/\Up lt p n) (λp st' s' _ e f ⟨z,a,b⟩=>by subst z;exact q st' p a b e f) (x8 T W (by omega) λp a b=>⟨rfl,a,b⟩)
 ·refine B8 W T h2 hs λst' e f=>q st' _ (Pm.range n) (λi j hij hj=>?_) e f;have at_:∀ i,i<n->(IV (HN n)).getD i 0=i:=λi hi=>by simp [Kb,hi]
  rw [at_ i (by omega),at_ j hj];have key:∀ d,i+d+1<n->lt i (i+d+1)=MC:=λd=>by
   induction d with
   | zero=>intro hd;rw [T.tri _ _ (by omega) hd (by omega),hs i hd];rfl
   | succ d ih =>
    intro hd;refine T.tra _ (i+d+1) _ (by omega) (by omega) hd (ih (by omega)) ?_;rw [T.tri _ _ (by omega) hd (by omega),show i+(d+1)+1=i+d+1+1 by omega,hs (i+d+1) (by omega)];rfl
  have:=key (j - i - 1) (by omega)
  rwa [show i+(j - i - 1)+1=j by omega] at this
end
section
variable {P:MI} {w:MH} {A:MJ} {X:MD->ME->Prop} {s:ME} {κ:SortKind} {vs:MQ} {lt:Nat->Nat->Bool}
structure Asks (P:MI) (w:MH) (A:MJ) (s:ME) (κ:SortKind) (vs:MQ) (lt:Nat->Nat->Bool):Prop where
 kind:2<=vs.length->∀ (h':Heap),(∀ b o,s.heap.get? b=MA o->h'.get? b=MA o)->∀ R:SortKind->ME->Prop,R κ { s with heap:=h' }->HP (model P w) A (keyKind' vs.toArray) R (λ_ _=>False) { s with heap:=h' }
 less:∀ (h':Heap),(∀ b o,s.heap.get? b=MA o->h'.get? b=MA o)->Ans (kas_ask P w A κ vs) vs.length lt { s with heap:=h' }
 ord:Tot vs.length lt
 few:vs.length<64 \/ ∀ i,i+1<vs.length->lt (i+1) i=MG
theorem sY {a:Hm} {e:Nat} {R:PySem.Fin->ME->Prop} (hz:vs.length<=Ir) (ha:s.heap.get? a=MA (seqObj "list" vs.toArray e)) {h0:Heap} (h0s:∀ b o,h0.get? b=MA o->b≠a/\s.heap.get? b=MA o) (K:Asks P w A { s with heap:=h0 } κ vs lt)
  (q:∀ (h':Heap) p c,Pm vs.length p->Up lt p vs.length->(∀ b o,b≠a->s.heap.get? b=MA o->h'.get? b=MA o)->h'.get? a=MA (seqObj "list" (p.toList.map λi=>vs.getD i Value.none).toArray c)->R (.done (.ret .none)) { s with heap:=h' }) :
  HP (model P w) A (Builtin.«list.sort» ⟨[.ref a],[]⟩) R X s:=by
 let h1:=s.heap.update a (Jj λ_=>(#[]:Array MD))
 obtain⟨e1,a1⟩:∃ e1,h1.get? a=MA (seqObj "list" #[] e1):=⟨_,get?_update_seq ha λ_=>#[]⟩
 let h2':=(h1.push (seqObj "tuple" vs.toArray 0)).push (seqObj "list" #[] 0)
 have a2:h2'.get? a=MA (seqObj "list" #[] e1):=Hr _ (Hr _ a1);have k2:∀ b o,b≠a->s.heap.get? b=MA o->h2'.get? b=MA o:=λb o nb eb=>Hr _ (Hr _ ((Il _ _ (Jc nb)).trans eb));have kz:∀ b o,h0.get? b=MA o->h2'.get? b=MA o:=λb o eb=>k2 b o (h0s b o eb).1 (h0s b o eb).2;rw [list_sort_plain];apply Hf;apply listItems_at ha rfl;apply Hf;refine listUpdate_at ha rfl ?_ (by simpa using hz) (HR _);apply Hf;apply seqEpoch_at a1 rfl;apply Hf;refine wpAny_newTuple ?_ (by simpa using hz);apply Hf;refine wpAny_newList ?_ (HR _);apply Ik;dsimp only
 change HP _ A _ _ _ { s with heap:=h2' }
 have st0:SortSt.mk' κ (vs.toArray.zip vs.toArray) #[] 7 MF=kas_st κ (pairsOf vs) (IV (HN vs.length)):=by
  have z:=kas_range (pairsOf vs);rw [pairsOf_size] at z;unfold kas_st;rw [z];rfl
 have fin:∀ (st':SortSt) (p:Array Nat),Pm vs.length p->Up lt p vs.length->arrOf st'=p.map (kas_item (pairsOf vs))->failedOf st'=MF->HP (model P w) A (do
   let sorted:=(arrOf st').map (·.2)
   let touched:=(<- seqEpoch a) != e1
   Builtin.List.listUpdate (.ref a) λ_=>sorted
   if let MA e:=failedOf st' then rule "list.sort.comparison-raised";throw e
   if touched then rule "list.sort.modified";raiseError "ValueError" "list modified during sort"
   ret .none) R X { s with heap:=h2' }:=λst' p x1 x2 x3 x4=>by
  have out:(arrOf st').map (·.2)=(p.toList.map λi=>vs.getD i Value.none).toArray:=by
   apply Array.toList_inj.mp;rw [x3,Array.map_map,Array.toList_map];refine J0 λi _=>?_;show (kas_item (pairsOf vs) i).2=_;rw [kas_item_eq]
  dsimp only;rw [out,x4];obtain⟨c,a3⟩:∃ c,(h2'.update a (Jj λ_=>(p.toList.map λi=>vs.getD i Value.none).toArray)).get? a=MA (seqObj "list" (p.toList.map λi=>vs.getD i Value.none).toArray c):=⟨_,get?_update_seq a2 λ_=>(p.toList.map λi=>vs.getD i Value.none).toArray⟩;apply Hf;apply seqEpoch_at a2 rfl;apply Hf;refine listUpdate_at a2 rfl ?_ (HR _) (by
   rw [HG,Hc,HF,x1.size];omega)
  simp only [bne_self_eq_false,Iu,if_false];exact Hs (q _ p c x1 x2 (λb o nb eb=>(Il _ _ (Jc nb)).trans (k2 b o nb eb)) a3)
 by_cases h2:vs.length<2
 ·have two:vs.toArray.size<2:=by rw [HG];exact h2
  rw [Mw two,Mw two];apply Hf;apply Hs;apply Hf;rw [StateT.run_pure];apply Hs;have z:=kas_range (pairsOf vs);rw [pairsOf_size] at z;exact fin _ (IV (HN vs.length)) (Pm.range _) (λi j x y=>by omega) z.symm rfl
 have two:¬ vs.toArray.size<2:=by rw [HG];exact h2
 rw [Mv two,Mv two];apply Hf;refine Jt (K.kind (by omega) h2' kz (λκ' s'=>κ'=κ/\s'={ s with heap:=h2' }) ⟨rfl,rfl⟩) ?_ λ_ _ z=>z.elim;rintro κ' s' ⟨eκ,es⟩;rw [eκ,es];have W:=K.less h2' kz;rw [kas_ask_eq] at W;rw [st0];apply Hf;refine Jt (mX (Q:=λst' s'=>s'={ s with heap:=h2' }/\∃ p,Pm vs.length p/\Up lt p vs.length/\arrOf st'=p.map (kas_item (pairsOf vs))/\failedOf st'=MF) W K.ord (by omega) K.few λst' p x1 x2 x3 x4=>⟨rfl,p,x1,x2,x3,x4⟩) ?_ λ_ _ z=>z;rintro⟨⟨⟩,st'⟩ s' ⟨rfl,p,x1,x2,x3,x4⟩;exact fin st' p x1 x2 x3 x4
theorem mY {l:Hm} {Q:MD->ME->Prop} (hz:vs.length<=Ir) (hl:s.heap.IsList l vs.toArray) (K:Asks P w A.in1.in1 s κ vs lt)
  (q:∀ (h':Heap) D p c,Pm vs.length p->Up lt p vs.length->s.heap.objs.size<=D->(∀ b o,s.heap.get? b=MA o->h'.get? b=MA o)->h'.get? D=MA (seqObj "list" (p.toList.map λi=>vs.getD i Value.none).toArray c)->Q (.ref D) { s with heap:=h' }) :
  HP (model P w) A (call (.builtin "sorted") [.ref l]) Q X s:=by
 let h1:=(s.heap.push (seqObj "list" #[] 0)).update s.heap.objs.size (Jj (·++vs.toArray))
 have s1:h1.objs.size=s.heap.objs.size+1:=by rw [LG,size_push']
 let h2':=h1.push (seqObj "list" vs.toArray 0)
 have at2:h2'.get? (s.heap.objs.size+1)=MA (seqObj "list" vs.toArray 0):=by rw [<-s1];exact HS _ rfl
 have keep:∀ b o,s.heap.get? b=MA o->b≠s.heap.objs.size+1/\h2'.get? b=MA o:=λb o eb=>by
  have lb:=HD eb;refine⟨λz=>?_,Hr _ ((Il _ _ λz=>?_).trans (Hr _ eb))⟩
  ·rw [z] at lb;exact Jw _ (LP lb (K5 _))
  ·rw [<-z] at lb;exact Jw _ lb
 refine Ln kind_sorted plain_sorted entry_sorted (args_sorted1 _) ?_;unfold Builtin.«sorted»;apply Hf (m:=checkCount "sorted" 1 1 _);apply Hs;apply Hf;refine collect_list hl ?_ hz;apply Hf;refine wpAny_newList ?_ hz
 change HP _ _ _ _ _ { s with heap:=h2' }
 rw [show Value.ref ((s.heap.push (seqObj "list" #[] 0)).update s.heap.objs.size (Jj (·++vs.toArray))).objs.size=Value.ref (s.heap.objs.size+1) from congrArg Value.ref s1];apply Hf;apply Ik;refine wpAny_call_entry slot_list_sort ⟨_,at2,rfl⟩ entry_list_sort ?_ (args_list_sort _);refine sY (s:={ s with heap:=h2' }) hz at2 (h0:=s.heap) keep K λh' p c x1 x2 x3 x4=>⟨_,rfl,Hs ⟨_,rfl,?_⟩⟩;exact q h' _ p c x1 x2 (Lw _) (λb o eb=>x3 b o (keep b o eb).1 (keep b o eb).2) x4
end
mutual
noncomputable def zA:MB->Bool
 | .int _=>MC
 | .str s=>(PyData.str s).canLay0
 | .tuple xs=>zN xs
 | _=>MG
noncomputable def zN:M9->Bool
 | []=>MC
 | x :: xs=>zA x && zN xs
end
mutual
noncomputable def ltD:MB->MB->Bool
 | .int a,.int b=>decide (a<b)
 | .str a,.str b=>decide (a.cps.toList<b.cps.toList)
 | .tuple xs,.tuple ys=>ltL xs ys
 | .int _,.str _=>MC
 | .int _,.tuple _=>MC
 | .str _,.tuple _=>MC
 | _,_=>MG
noncomputable def ltL:M9->M9->Bool
 | [],[]=>MG
 | [],_ :: _=>MC
 | _ :: _,[]=>MG
 | x :: xs,y :: ys=>if HU x y=MC then ltL xs ys else ltD x y
end
mutual
noncomputable def vK:MB->MB->Bool
 | .int _,.int _=>MC
 | .str _,.str _=>MC
 | .tuple xs,.tuple ys=>qA xs ys
 | _,_=>MG
noncomputable def qA:M9->M9->Bool
 | [],_=>MC
 | _ :: _,[]=>MC
 | x :: xs,y :: ys=>if HU x y=MC then qA xs ys else vK x y
end
mutual
theorem y4:∀ d:MB,zA d=MC->d.canLay0=MC
 | .int _,_=>rfl
 | .str _,h=>h
 | .tuple xs,h=>by rw [PyData.canLay0];exact gr xs (by rw [zA] at h;exact h)
 | .none,h=>by cases h
 | .bool _,h=>by cases h
 | .list _,h=>by cases h
 | .dict _,h=>by cases h
theorem gr:∀ xs:M9,zN xs=MC->JU xs=MC
 | [],_=>rfl
 | x :: xs,h=>by
  rw [zN,Hq] at h;rw [JU,y4 x h.1,gr xs h.2];rfl
end
mutual
theorem x9:∀ a b:MB,zA a=MC->zA b=MC->HU a b=MC->a=b
 | .int a,.int b,_,_,h=>by simpa [HU] using h
 | .str a,.str b,_,_,h=>by simpa [HU] using h
 | .tuple xs,.tuple ys,h1,h2,h=>by rw [sZ xs ys (by rw [zA] at h1;exact h1) (by rw [zA] at h2;exact h2) (by rw [HU] at h;exact h)]
 | .int _,.str _,_,_,h=>by simp [HU] at h
 | .int _,.tuple _,_,_,h=>by simp [HU] at h
 | .str _,.int _,_,_,h=>by simp [HU] at h
 | .str _,.tuple _,_,_,h=>by simp [HU] at h
 | .tuple _,.int _,_,_,h=>by simp [HU] at h
 | .tuple _,.str _,_,_,h=>by simp [HU] at h
 | .none,_,h,_,_=>by cases h
 | .bool _,_,h,_,_=>by cases h
 | .list _,_,h,_,_=>by cases h
 | .dict _,_,h,_,_=>by cases h
 | .int _,.none,_,h,_=>by cases h
 | .int _,.bool _,_,h,_=>by cases h
 | .int _,.list _,_,h,_=>by cases h
 | .int _,.dict _,_,h,_=>by cases h
 | .str _,.none,_,h,_=>by cases h
 | .str _,.bool _,_,h,_=>by cases h
 | .str _,.list _,_,h,_=>by cases h
 | .str _,.dict _,_,h,_=>by cases h
 | .tuple _,.none,_,h,_=>by cases h
 | .tuple _,.bool _,_,h,_=>by cases h
 | .tuple _,.list _,_,h,_=>by cases h
 | .tuple _,.dict _,_,h,_=>by cases h
theorem sZ:∀ xs ys:M9,zN xs=MC->zN ys=MC->Lz xs ys=MC->xs=ys
 | [],[],_,_,_=>rfl
 | [],_ :: _,_,_,h=>by simp [Lz] at h
 | _ :: _,[],_,_,h=>by simp [Lz] at h
 | x :: xs,y :: ys,h1,h2,h=>by
  rw [zN,Hq] at h1 h2;rw [Lz,Hq] at h;rw [x9 x y h1.1 h2.1 h.1,sZ xs ys h1.2 h2.2 h.2]
end
theorem fg {a b:MB} (ha:zA a=MC) (hb:zA b=MC):HU a b=MC↔a=b :=
 ⟨x9 a b ha hb,λh=>by subst h;exact Md a (y4 a ha)⟩
theorem vS {x y:MB} {xs ys:M9} (hx:zA x=MC) (hy:zA y=MC) [Decidable (x=y)]:ltL (x :: xs) (y :: ys)=if x=y then ltL xs ys else ltD x y:=by
 rw [ltL];by_cases h:x=y
 ·rw [Mw ((fg hx hy).mpr h),Mw h]
 ·rw [Mv (λz=>h ((fg hx hy).mp z)),Mv h]
theorem Aa {a b:M8} (h:a≠b):decide (a<b)=!decide (b<a):=by
 by_cases h1:a<b
 ·rw [Mx h1,Mz (λz=>List.lt_irrefl a (List.lt_trans h1 z))];rfl
 ·have h2:b<a:=by
   have:b<=a:=List.not_lt.mp h1;rcases List.le_iff_lt_or_eq.mp this with z | z
   ·exact z
   ·exact absurd z.symm h
  rw [Mz h1,Mx h2];rfl
theorem ES {a b:Str} (h:a≠b):a.cps.toList≠b.cps.toList:=λz=>h (by
 cases a;cases b;simp only [Str.mk.injEq] at *;exact Array.toList_inj.mp z)
mutual
theorem p8:∀ a b:MB,zA a=MC->zA b=MC->a≠b->ltD a b=!ltD b a
 | .int a,b,ha,hb,ne=>by
  cases b with
  | int b =>
   rw [ltD,ltD];have:a≠b:=λz=>ne (by rw [z]);by_cases h:a<b
   ·rw [Mx h,Mz (by omega)];rfl
   ·rw [Mz h,Mx (by omega)];rfl
  | str b=>simp [ltD]
  | tuple ys=>simp [ltD]
  | none=>cases hb
  | bool _=>cases hb
  | list _=>cases hb
  | dict _=>cases hb
 | .str a,b,ha,hb,ne=>by
  cases b with
  | int b=>simp [ltD]
  | str b =>
   rw [ltD,ltD];exact Aa (ES λz=>ne (by rw [z]))
  | tuple ys=>simp [ltD]
  | none=>cases hb
  | bool _=>cases hb
  | list _=>cases hb
  | dict _=>cases hb
 | .tuple xs,b,ha,hb,ne=>by
  cases b with
  | int b=>simp [ltD]
  | str b=>simp [ltD]
  | tuple ys =>
   rw [ltD,ltD];rw [zA] at ha hb;exact s9 xs ys ha hb λz=>ne (by rw [z])
  | none=>cases hb
  | bool _=>cases hb
  | list _=>cases hb
  | dict _=>cases hb
 | .none,_,h,_,_=>by cases h
 | .bool _,_,h,_,_=>by cases h
 | .list _,_,h,_,_=>by cases h
 | .dict _,_,h,_,_=>by cases h
theorem s9:∀ xs ys:M9,zN xs=MC->zN ys=MC->xs≠ys->ltL xs ys=!ltL ys xs
 | [],[],_,_,ne=>absurd rfl ne
 | [],_ :: _,_,_,_=>by simp [ltL]
 | _ :: _,[],_,_,_=>by simp [ltL]
 | x :: xs,y :: ys,h1,h2,ne=>by
  rw [zN,Hq] at h1 h2;have:=Jh (x=y);have:=Jh (y=x);rw [vS h1.1 h2.1,vS h2.1 h1.1];by_cases e:x=y
  ·rw [Mw e,Mw e.symm];exact s9 xs ys h1.2 h2.2 λz=>ne (by rw [e,z])
  ·rw [Mv e,Mv (Jc e)];exact p8 x y h1.1 h2.1 e
end
mutual
theorem qB:∀ a:MB,zA a=MC->ltD a a=MG
 | .int a,_=>by rw [ltD];exact Mz (Int.lt_irrefl a)
 | .str a,_=>by rw [ltD];exact Mz (List.lt_irrefl _)
 | .tuple xs,h=>by rw [ltD];rw [zA] at h;exact td xs h
 | .none,h=>by cases h
 | .bool _,h=>by cases h
 | .list _,h=>by cases h
 | .dict _,h=>by cases h
theorem td:∀ xs:M9,zN xs=MC->ltL xs xs=MG
 | [],_=>by rw [ltL]
 | x :: xs,h=>by
  rw [zN,Hq] at h;have:=Jh (x=x);rw [vS h.1 h.1,Mw rfl];exact td xs h.2
end
theorem lt_asymm {a b:MB} (ha:zA a=MC) (hb:zA b=MC) (h:ltD a b=MC):a≠b:=λz=>by
 subst z;rw [qB a ha] at h;cases h
mutual
theorem gw:∀ a b c:MB,zA a=MC->zA b=MC->zA c=MC->ltD a b=MC->ltD b c=MC->ltD a c=MC
 | .int a,b,c,ha,hb,hc,h1,h2=>by
  cases b <;> first | (cases hb;done) | skip
  all_goals cases c <;> first | (cases hc;done) | skip
  all_goals first | (simp [ltD] at h1 h2 ⊢;omega) | (simp [ltD] at h1 h2 ⊢;done) | (simp [ltD] at h1;done) | (simp [ltD] at h2;done)
 | .str a,b,c,ha,hb,hc,h1,h2=>by
  cases b <;> first | (cases hb;done) | skip
  all_goals cases c <;> first | (cases hc;done) | skip
  all_goals first | (simp [ltD] at h1;done) | (simp [ltD] at h2;done) | (rw [ltD] at h1 h2 ⊢;exact Mx (List.lt_trans (MO h1) (MO h2))) | (simp [ltD] at h1 h2 ⊢;done)
 | .tuple xs,b,c,ha,hb,hc,h1,h2=>by
  cases b with
  | tuple ys =>
   cases c with
   | tuple zs =>
    rw [ltD] at h1 h2 ⊢;rw [zA] at ha hb hc;exact tf xs ys zs ha hb hc h1 h2
   | int _=>simp [ltD] at h2
   | str _=>simp [ltD] at h2
   | none=>cases hc
   | bool _=>cases hc
   | list _=>cases hc
   | dict _=>cases hc
  | int _=>simp [ltD] at h1
  | str _=>simp [ltD] at h1
  | none=>cases hb
  | bool _=>cases hb
  | list _=>cases hb
  | dict _=>cases hb
 | .none,_,_,h,_,_,_,_=>by cases h
 | .bool _,_,_,h,_,_,_,_=>by cases h
 | .list _,_,_,h,_,_,_,_=>by cases h
 | .dict _,_,_,h,_,_,_,_=>by cases h
theorem tf:∀ xs ys zs:M9,zN xs=MC->zN ys=MC->zN zs=MC->ltL xs ys=MC->ltL ys zs=MC->ltL xs zs=MC
 | [],ys,[],_,_,_,h1,h2=>by
  cases ys with
  | nil=>exact h1
  | cons y ys=>simp [ltL] at h2
 | [],_,_ :: _,_,_,_,_,_=>by rw [ltL]
 | _ :: _,[],_,_,_,_,h1,_=>by simp [ltL] at h1
 | _ :: _,_ :: _,[],_,_,_,_,h2=>by simp [ltL] at h2
 | x :: xs,y :: ys,z :: zs,p1,p2,p3,h1,h2=>by
  rw [zN,Hq] at p1 p2 p3;have:=Jh (x=y);have:=Jh (y=z);have:=Jh (x=z);rw [vS p1.1 p2.1] at h1;rw [vS p2.1 p3.1] at h2;rw [vS p1.1 p3.1];by_cases e1:x=y
  ·rw [Mw e1] at h1;by_cases e2:y=z
   ·rw [Mw e2] at h2;rw [Mw (e1.trans e2)];exact tf xs ys zs p1.2 p2.2 p3.2 h1 h2
   ·rw [Mv e2] at h2;rw [Mv (λq=>e2 (e1.symm.trans q)),e1];exact h2
  ·rw [Mv e1] at h1;by_cases e2:y=z
   ·rw [Mv (λq=>e1 (q.trans e2.symm)),<- e2];exact h1
   ·rw [Mv e2] at h2;have h3:=gw x y z p1.1 p2.1 p3.1 h1 h2;rw [Mv (lt_asymm p1.1 p3.1 h3)];exact h3
end
end L2
end
section
namespace L2
open PySem PySem.Spec PyProof.Rows PySem.SeqAt
open PySem.AutoSeq1 (wpAny_loadPart')
open PySem.MeetsSeq PySem.MeetsSeq2 PySem.MeetsSeq3
def Gm (A:MJ) (s:ME) (y x:MD) (b:Bool):Prop :=
 ∀ (prog:MI) (w:MH) (E:MD->ME->Prop) (Q:MD->ME->Prop),Q (.bool b) s->HP (model prog w) A (richCompare .Lt y x) Q E s
inductive Lex (A:MJ) (s:ME):MQ->MQ->Bool->Prop where
 | nn:Lex A s [] [] MG
 | nc {w ws}:Lex A s [] (w :: ws) MC
 | cn {v vs}:Lex A s (v :: vs) [] MG
 | eq {v w vs ws b}:EqAt A s v w MC->Lex A s vs ws b->Lex A s (v :: vs) (w :: ws) b
 | lt {v w vs ws b}:EqAt A s v w MG->Gm A s v w b->Lex A s (v :: vs) (w :: ws) b
theorem kG (l m:Hm) (xs ys:Array MD) (n n2:Nat) (dd dd2:MW) (sl sl2:Array (MR)) (c:Bool) :
  Meets (Builtin.«tuple.__lt__» ⟨[.ref l,.ref m],[]⟩)
   (λA R s=>s.heap.get? l=MA { cls:=.type "tuple",dict:=dd,data:=.seq xs n,slots:=sl }/\s.heap.get? m=MA { cls:=.type "tuple",dict:=dd2,data:=.seq ys n2,slots:=sl2 } /\
    Lex A.in1 s xs.toList ys.toList c/\R (.ok (.ret (.bool c))) s) :=
 .of_wp λprog w A R s h=>by
  obtain⟨hp,g,d,tk,os⟩:=s;obtain⟨hl,hb,hx,h⟩:=h;have f2:=AutoSeq1.sub_tuple_tuple
  wp_walk using wpAny_loadPart' hl,wpAny_loadPart' hb,wpAny_forIn_list _ (λrest b s'=>b.1=MF/\s'=⟨hp,g,d,tk,os⟩/\∃ (vs ws:MQ),rest=vs.zip ws/\Lex A.in1 ⟨hp,g,d,tk,os⟩ vs ws c/\vs.length+ys.size=ws.length+xs.size) _
  case turn =>
   rintro⟨y,x⟩ rest b s' ⟨hb',rfl,vs,ws,hz,lx,hn⟩;cases lx with
   | nn=>cases hz
   | nc=>cases hz
   | cn=>cases hz
   | eq he lx' =>
    rw [Kc] at hz;cases hz;refine Hf (he prog w _ _ ?_)
    wp_walk
    exact⟨rfl,rfl,_,_,rfl,lx',by simp only [HK] at hn;omega⟩
   | lt he hlt =>
    rw [Kc] at hz;cases hz;refine Hf (he prog w _ _ ?_);have hri:=hlt prog w
    wp_walk using hri
    exact⟨_,rfl,h⟩
  case fin =>
   rintro⟨b1,b2⟩ s' ⟨hb',rfl,vs,ws,hz,lx,hn⟩;simp only at hb';subst hb';have hv:decide (xs.size<ys.size)=c:=by
    cases lx with
    | nn=>simp only [JR] at hn;exact Mz (by omega)
    | nc=>simp only [JR,HK] at hn;exact Mx (by omega)
    | cn=>simp only [JR,HK] at hn;exact Mz (by omega)
    | eq _ _=>cases hz
    | lt _ _=>cases hz
   wp_walk
   rw [<-hv] at h;exact⟨_,rfl,by simpa [Builtin.Tuple.tupleCompareSizes] using h⟩
  case h=>exact⟨rfl,rfl,_,_,rfl,hx,by simp only [HF];omega⟩
mutual
theorem mZ:∀ (da db:MB) (A:MJ) (s:ME) (a b:MD) (as bs:MS),Reads s.heap a da as->Reads s.heap b db bs->zA da=MC->zA db=MC->vK da db=MC ->
  A.units+max da.depth db.depth<IZ->Gm A s a b (ltD da db)
 | .int x,db,A,s,_,_,_,_,ra,rb,_,_,hc,hu=>by
  cases ra with
  | int _ t =>
   cases db with
   | int y =>
    cases rb with
    | int _ u =>
     intro prog w E Q q;exact HT.rcLt_int A s x t y u prog w E Q (by rw [ltD] at q;exact q)
   | _=>cases hc
 | .str x,db,A,s,_,_,_,_,ra,rb,_,_,hc,hu=>by
  cases ra with
  | str _ t =>
   cases db with
   | str y =>
    cases rb with
    | str _ u =>
     intro prog w E Q q;exact (PyProof.Rows.lt_str (by rw [ltD] at q;exact q):HP (model prog w) A (IJ .Lt (.str x t) (.str y u)) Q E s)
   | _=>cases hc
 | .tuple xs,db,A,s,_,_,_,_,ra,rb,pa,pb,hc,hu=>by
  cases ra with
  | @tuple l o vs n _ as h1 h2 h3 h4 =>
   cases db with
   | tuple ys =>
    cases rb with
    | @tuple m o2 ws n2 _ bs k1 k2 k3 k4 =>
     intro prog w E Q q;obtain⟨cls,dd,data,sl⟩:=o;obtain⟨cls2,dd2,data2,sl2⟩:=o2;simp only at h2 h3 k2 k3;subst h2 h3 k2 k3;rw [zA] at pa pb;rw [vK] at hc;rw [ltD] at q;have hd:A.in1.units+max (Hy xs) (Hy ys)<IZ:=by
      have e1:(PyData.tuple xs).depth=Hy xs+1:=rfl;have e2:(PyData.tuple ys).depth=Hy ys+1:=rfl;have e3:A.in1.units=A.units+1:=rfl;rw [e1,e2] at hu;omega
     have lx:=iJ xs ys A.in1 s _ _ _ _ h4 k4 pa pb hc hd;exact richCompare_meets_room (op:=.Lt) ⟨_,h1,rfl⟩ ⟨_,k1,rfl⟩ PySem.F.slot_tuple_lt PySem.F.entry_tuple_lt (PySem.F.args_tuple_lt_2 _ _) (kG l m vs ws n n2 dd dd2 sl sl2 (ltL xs ys))
      ⟨h1,k1,lx,show Value.bool (ltL xs ys)≠Value.notImplemented/\Q (.bool (ltL xs ys)) s from⟨(λx=>nomatch x),q⟩⟩ (by omega)
   | _=>cases hc
 | .none,_,_,_,_,_,_,_,_,_,h,_,_,_=>by cases h
 | .bool _,_,_,_,_,_,_,_,_,_,h,_,_,_=>by cases h
 | .list _,_,_,_,_,_,_,_,_,_,h,_,_,_=>by cases h
 | .dict _,_,_,_,_,_,_,_,_,_,h,_,_,_=>by cases h
theorem iJ:∀ (xs ys:M9) (A:MJ) (s:ME) (vs ws:MQ) (as bs:MS),ReadsAll s.heap vs xs as->ReadsAll s.heap ws ys bs->zN xs=MC->zN ys=MC->qA xs ys=MC ->
  A.units+max (Hy xs) (Hy ys)<IZ->Lex A s vs ws (ltL xs ys)
 | [],[],_,_,_,_,_,_,ra,rb,_,_,_,_=>by cases ra;cases rb;rw [ltL];exact .nn
 | [],_ :: _,_,_,_,_,_,_,ra,rb,_,_,_,_=>by cases ra;cases rb;rw [ltL];exact .nc
 | _ :: _,[],_,_,_,_,_,_,ra,rb,_,_,_,_=>by cases ra;cases rb;rw [ltL];exact .cn
 | x :: xs,y :: ys,A,s,_,_,_,_,ra,rb,pa,pb,hc,hu=>by
  cases ra with
  | cons r rs =>
   cases rb with
   | cons r' rs' =>
    rw [zN,Hq] at pa pb;rw [qA] at hc;rw [ltL];have e1:Hy (x :: xs)=max x.depth (Hy xs):=rfl;have e2:Hy (y :: ys)=max y.depth (Hy ys):=rfl;rw [e1,e2] at hu;have eq:=eqAt_reads x y A s _ _ _ _ r r' (y4 x pa.1) (y4 y pb.1) (by omega);by_cases e:HU x y=MC
    ·rw [Mw e] at hc ⊢;rw [e] at eq;exact .eq eq (iJ xs ys A s _ _ _ _ rs rs' pa.2 pb.2 hc (by omega))
    ·rw [Mv e] at hc ⊢;rw [Bool.not_eq_true] at e;rw [e] at eq;exact .lt eq (mZ x y A s _ _ _ _ r r' pa.1 pb.1 hc (by omega))
end
end L2
end
section
namespace L2
open PySem PySem.Spec PyProof.Rows PySem.SeqAt PySem.W
section
variable {P:MI} {w:MH} {A:MJ} {s:ME} {b:Bool} {Q:Bool->ME->Prop}
theorem kH {fin:Bool} {x y:MB} {p q:MD} {r:List (MD×MD)} {i:Nat} {as bs:MS} {c:Bool} (rx:Reads s.heap p x as) (ry:Reads s.heap q y bs) (px:zA x=MC) (py:zA y=MC) (hu:A.units+max x.depth y.depth<IZ)
  (h1:HU x y=MC->KatLex P w A b fin Q r (i+1) s) (h2:HU x y=MG->HP (model P w) A (oneLt' (b && i == 0) p q) Q (λ_ _=>False) s):KatLex P w A b fin Q ((p,q) :: r) i s:=by
 refine kat_cons (eqAt_reads x y A s _ _ _ _ rx ry (y4 x px) (y4 y py) (by omega) P w _ _ ?_);exact kat_go (λe=>kat_yes (h1 e)) λe=>kat_no (h2 e)
theorem cT {m n:Nat}:∀ (xs ys:M9) (vs ws:MQ) (as bs:MS) (i:Nat),(1<=i \/ b=MG)->ReadsAll s.heap vs xs as->ReadsAll s.heap ws ys bs->zN xs=MC->zN ys=MC->qA xs ys=MC ->
  A.units+max (Hy xs) (Hy ys)<IZ->xs.length+n=ys.length+m->Q (ltL xs ys) s->KatLex P w A b (decide (m<n)) Q (vs.zip ws) i s
 | [],[],_,_,_,_,i,_,ra,rb,_,_,_,_,hl,q=>by
  cases ra;cases rb;rw [ltL] at q;simp only [JR] at hl;rw [Mz (show ¬ m<n by omega)];exact kat_nil q
 | [],y :: ys,_,_,_,_,i,_,ra,rb,_,_,_,_,hl,q=>by
  cases ra;cases rb;rw [ltL] at q;simp only [JR,HK] at hl;rw [Mx (show m<n by omega)];exact kat_nil q
 | x :: xs,[],_,_,_,_,i,_,ra,rb,_,_,_,_,hl,q=>by
  cases ra;cases rb;rw [ltL] at q;simp only [JR,HK] at hl;rw [Mz (show ¬ m<n by omega),List.zip_nil_right];exact kat_nil q
 | x :: xs,y :: ys,_,_,_,_,i,hi,ra,rb,pa,pb,hc,hu,hl,q=>by
  cases ra with
  | cons r rs =>
   cases rb with
   | cons r' rs' =>
    rw [zN,Hq] at pa pb;rw [qA] at hc;rw [ltL] at q;have e1:Hy (x :: xs)=max x.depth (Hy xs):=rfl;have e2:Hy (y :: ys)=max y.depth (Hy ys):=rfl;rw [e1,e2] at hu;simp only [HK] at hl;rw [Kc];refine kH (c:=MC) r r' pa.1 pb.1 (by omega) (λe=>?_) λe=>?_
    ·rw [Mw e] at hc q;exact cT xs ys _ _ _ _ (i+1) (.inl (by omega)) rs rs' pa.2 pb.2 hc (by omega) (by omega) q
    ·rw [Mv (by rw [e];exact He)] at hc q;have ef:(b && i == 0)=MG:=by
      rcases hi with hi | hi
      ·rw [show (i == 0)=MG from beq_eq_false_iff_ne.mpr (by omega),Me]
      ·rw [hi];rfl
     rw [ef];exact kat_one _ _ (mZ x y A s _ _ _ _ r r' pa.1 pb.1 hc (by omega) P w _ _ q)
end
noncomputable def vT:MB->Option String
 | .tuple (.int _ :: _)=>MA "int"
 | .tuple (.str _ :: _)=>MA "str"
 | .tuple (.tuple _ :: _)=>MA "tuple"
 | _=>MF
structure SortOk (T:String) (ds:M9):Prop where
 plain:∀ d∈ds,zA d=MC
 head:∀ d∈ds,vT d=MA T
 cmp:∀ d∈ds,∀ e∈ds,vK d e=MC
 depth:∀ d∈ds,d.depth<=50
 nd:ds.Nodup
theorem aX {d:MB} {T:String} (h:vT d=MA T):∃ x xs,d=.tuple (x :: xs)/\((T="int"/\∃ n,x=.int n) \/ (T="str"/\∃ n,x=.str n) \/ (T="tuple"/\∃ n,x=.tuple n)):=by
 unfold vT at h;split at h
 ·cases h;exact⟨_,_,rfl,.inl ⟨rfl,_,rfl⟩⟩
 ·cases h;exact⟨_,_,rfl,.inr (.inl ⟨rfl,_,rfl⟩)⟩
 ·cases h;exact⟨_,_,rfl,.inr (.inr ⟨rfl,_,rfl⟩)⟩
 ·cases h
section
variable {P:MI} {w:MH} {A:MJ} {s:ME} {T:String}
theorem ET {d e:MB} {v u:MD} {as bs:MS} {C:Bool->ME->Prop} (rd:Reads s.heap v d as) (re:Reads s.heap u e bs) (pd:zA d=MC) (pe:zA e=MC) (hd:vT d=MA T) (he:vT e=MA T) (hc:vK d e=MC)
  (hu:A.units+60<IZ) (d1:d.depth<=50) (d2:e.depth<=50) (q:C (ltD d e) s):HP (model P w) A (keyLt' (tuples' (Value.type T != Value.type "tuple")) v u) C (λ_ _=>False) s:=by
 obtain⟨x,xs,rfl,hx⟩:=aX hd;obtain⟨y,ys,rfl,hy⟩:=aX he;cases rd with
 | @tuple l o vs n _ as h1 h2 h3 h4 =>
  cases re with
  | @tuple m o2 ws n2 _ bs k1 k2 k3 k4 =>
   have l1:=K3 _ _ _ h4;have l2:=K3 _ _ _ k4;rw [HF] at l1 l2;refine kat_lt h1 h3 k1 k3 ?_;rw [zA] at pd pe;rw [vK] at hc;rw [ltD] at q;have e1:(PyData.tuple (x :: xs)).depth=Hy (x :: xs)+1:=rfl;have e2:(PyData.tuple (y :: ys)).depth=Hy (y :: ys)+1:=rfl;have e3:Hy (x :: xs)=max x.depth (Hy xs):=rfl;have e4:Hy (y :: ys)=max y.depth (Hy ys):=rfl;rcases hx with⟨rfl,nx,rfl⟩ | ⟨rfl,nx,rfl⟩ | ⟨rfl,nx,rfl⟩
   ·obtain⟨ny,rfl⟩:∃ ny,y=.int ny:=by
     rcases hy with⟨_,h⟩ | ⟨z,_⟩ | ⟨z,_⟩
     ·exact h
     ·exact absurd z (by decide)
     ·exact absurd z (by decide)
    obtain⟨vl⟩:=vs;obtain⟨wl⟩:=ws;cases h4 with
    | cons r rs =>
     cases k4 with
     | cons r' rs' =>
      rw [zN,Hq] at pd pe;rw [qA] at hc;rw [ltL] at q;rw [Kc];refine kH (c:=MC) r r' rfl rfl (by omega) (λe=>?_) λe=>?_
      ·rw [Mw e] at hc q;exact cT xs ys _ _ _ _ 1 (.inl (Ht 1)) rs rs' pd.2 pe.2 hc (by omega) (by simp only [HK] at l1 l2;omega) q
      ·rw [Mv (by rw [e];exact He)] at q;rw [show ((Value.type "int" != Value.type "tuple") && (0 == 0))=MC by decide];cases r;cases r';rw [ltD] at q;exact oneLt_int q
   ·obtain⟨ny,rfl⟩:∃ ny,y=.str ny:=by
     rcases hy with⟨z,_⟩ | ⟨_,h⟩ | ⟨z,_⟩
     ·exact absurd z (by decide)
     ·exact h
     ·exact absurd z (by decide)
    obtain⟨vl⟩:=vs;obtain⟨wl⟩:=ws;cases h4 with
    | cons r rs =>
     cases k4 with
     | cons r' rs' =>
      rw [zN,Hq] at pd pe;rw [qA] at hc;rw [ltL] at q;rw [Kc];refine kH (c:=MC) r r' pd.1 pe.1 (by omega) (λe=>?_) λe=>?_
      ·rw [Mw e] at hc q;exact cT xs ys _ _ _ _ 1 (.inl (Ht 1)) rs rs' pd.2 pe.2 hc (by omega) (by simp only [HK] at l1 l2;omega) q
      ·rw [Mv (by rw [e];exact He)] at q;rw [show ((Value.type "str" != Value.type "tuple") && (0 == 0))=MC by decide];cases r;cases r';rw [ltD] at q;exact oneLt_str q
   ·exact cT _ _ _ _ _ _ 0 (.inr (by decide)) h4 k4 pd pe hc (by omega) (by rw [l1,l2];omega) q
theorem ReadsAll.at {h:Heap}:∀ {vs:MQ} {ds:M9} {as:MS},ReadsAll h vs ds as->∀ i,i<ds.length->∃ bs,Reads h (vs.getD i Value.none) (ds.getD i .none) bs
 | _,_,_,.nil,i,hi=>absurd hi (Jr _)
 | _,_,_,.cons r rs,0,_=>⟨_,r⟩
 | _,_,_,.cons r rs,i+1,hi=>ReadsAll.at rs i (Nat.lt_of_succ_lt_succ hi)
theorem ReadsAll.keep {h h':Heap} (k:∀ b o,h.get? b=MA o->h'.get? b=MA o):∀ {vs:MQ} {ds:M9} {as:MS},ReadsAll h vs ds as->ReadsAll h' vs ds as
 | _,_,_,.nil=>.nil
 | _,_,_,.cons r rs=>.cons (PyProof.Rows.Reads.keeps k r) (ReadsAll.keep k rs)
theorem tm {h:Heap}:∀ {vs:MQ} {ds:M9} {as:MS},ReadsAll h vs ds as->(∀ d∈ds,vT d=MA T)->∃ fs,KatTups h vs fs/\fs.length=vs.length/\∀ v∈fs,Looks (model P w) h (typeOf v) (.type T)
 | _,_,_,.nil,_=>⟨[],.nil,rfl,λ_ h=>nomatch h⟩
 | _,d :: ds,_,.cons r rs,hh=>by
  obtain⟨fs,h1,h2,h3⟩:=tm rs λd hd=>hh d (Hl _ hd);obtain⟨x,xs,rfl,hx⟩:=aX (hh d Hk);cases r with
  | @tuple l o vs n _ as k1 k2 k3 k4 =>
   obtain⟨vl⟩:=vs;cases k4 with
   | @cons v0 vs0 _ _ _ _ r0 rs0 =>
    refine⟨v0 :: fs,.cons k1 k2 k3 rfl h1,by simp [h2],λv hv=>?_⟩;rcases Hv.mp hv with rfl | hv
    ·rcases hx with⟨rfl,nx,rfl⟩ | ⟨rfl,nx,rfl⟩ | ⟨rfl,nx,rfl⟩
     ·cases r0;exact Looks.of_pure rfl
     ·cases r0;exact Looks.of_pure rfl
     ·cases r0 with
      | tuple q1 q2 q3 q4=>rw [<-q2];exact (Looks.ld q1).andThen .now
    ·exact h3 v hv
theorem EU {ds:M9} (ok:SortOk T ds):Tot ds.length λi j=>ltD (ds.getD i .none) (ds.getD j .none):=by
 have mem:∀ i,i<ds.length->ds.getD i .none∈ds:=λi hi=>by
  rw [Hn,Hd hi];exact Io hi
 refine⟨λi j hi hj ne=>p8 _ _ (ok.plain _ (mem i hi)) (ok.plain _ (mem j hj)) λz=>ne ?_,λi j k hi hj hk=>gw _ _ _ (ok.plain _ (mem i hi)) (ok.plain _ (mem j hj)) (ok.plain _ (mem k hk))⟩;rw [Hn,Hn,Hd hi,Hd hj] at z;exact (K4 ok.nd).mp z
theorem kJ {vs:MQ} {ds:M9} {as:MS} (ra:ReadsAll s.heap vs ds as) (ok:SortOk T ds) (hu:A.units+60<IZ) (few:ds.length<64 \/ ds.Pairwise λd e=>ltD d e=MC) :
  Asks P w A s (tuples' (Value.type T != Value.type "tuple")) vs λi j=>ltD (ds.getD i .none) (ds.getD j .none):=by
 have len:=K3 _ _ _ ra;have mem:∀ i,i<ds.length->ds.getD i .none∈ds:=λi hi=>by
  rw [Hn,Hd hi];exact Io hi
 refine⟨λh2 h' k R q=>?_,λh' k i j C hi hj q=>?_,by rw [len];exact EU ok,?_⟩
 ·obtain⟨fs,f1,f2,f3⟩:=tm (P:=P) (w:=w) (ReadsAll.keep k ra) ok.head;exact kat_kind f1 (by omega) f3 (beq_self_eq_true _) q
 ·rw [len] at hi hj;obtain⟨b1,r1⟩:=ReadsAll.at (ReadsAll.keep k ra) i hi;obtain⟨b2,r2⟩:=ReadsAll.at (ReadsAll.keep k ra) j hj;exact ET r1 r2 (ok.plain _ (mem i hi)) (ok.plain _ (mem j hj)) (ok.head _ (mem i hi)) (ok.head _ (mem j hj)) (ok.cmp _ (mem i hi) _ (mem j hj)) hu (ok.depth _ (mem i hi)) (ok.depth _ (mem j hj)) q
 ·rw [len];refine few.imp id λpw i hi=>?_;have h1:=JO.mp pw i (i+1) (by omega) hi (by omega);have g:∀ j (hj:j<ds.length),ds.getD j .none=ds[j]:=λj hj=>by rw [Hn,Hd hj];rfl
  rw [g _ hi,g i (by omega)];have ne:=lt_asymm (ok.plain _ (Io _)) (ok.plain _ (Io _)) h1;have:=p8 _ _ (ok.plain _ (Io _)) (ok.plain _ (Io _)) ne;rw [h1] at this
  revert this
  cases ltD ds[i+1] ds[i] <;> simp
end
noncomputable def pick {α:Type} (d:α) (p:Array Nat) (xs:List α):List α:=p.toList.map λi=>xs.getD i d
theorem tw:∀ {xs:List V} {us:MQ},Vals xs us->∀ i,RelV (xs.getD i .non) (us.getD i Value.none)
 | _,_,.nil,i=>rfl
 | _,_,.cons r t,0=>r
 | _,_,.cons r t,i+1=>tw t i
theorem dN {xs:List V} {us:MQ} (r:Vals xs us) (p:Array Nat):Vals (pick .non p xs) (pick Value.none p us):=by
 unfold pick
 induction p.toList with
 | nil=>exact .nil
 | cons i l ih=>exact .cons (tw r i) ih
theorem tB {K:Hj} {H:Hp}:∀ {ds:M9} {xs:List V},Reps K H ds xs->∀ i,Rep K H (ds.getD i .none) (xs.getD i .non)
 | [],xs,r,i=>by
  rw [zT.mp r];exact jB.mpr rfl
 | d :: ds,xs,r,i=>by
  obtain⟨x,xs',rfl,r1,r2⟩:=zG.mp r;cases i with
  | zero=>exact r1
  | succ i=>exact tB r2 i
theorem dO {K:Hj} {H:Hp} {ds:M9} {xs:List V} (r:Reps K H ds xs) (p:Array Nat):Reps K H (pick .none p ds) (pick .non p xs):=by
 unfold pick
 induction p.toList with
 | nil=>exact .nil'
 | cons i l ih=>exact .cons' (tB r i) ih
theorem dP {α:Type} {d:α} {n:Nat} {p:Array Nat} {xs:List α} (h:Pm n p) (hn:n=xs.length):(pick d p xs).Perm xs:=by
 have e:(HN n).map (λi=>xs.getD i d)=xs:=by
  subst hn;refine JT λi=>?_;rw [Ho];by_cases hi:i<xs.length
  ·rw [Jm hi,Hd hi];simp [hi]
  ·rw [Ib (by simp;omega),Ib (by omega)];rfl
 have:=h.map λi=>xs.getD i d;rw [e] at this;exact this
theorem kK {n:Nat} {p:Array Nat} {ds:M9} (h:Pm n p) (u:Up (λi j=>ltD (ds.getD i .none) (ds.getD j .none)) p n):(pick .none p ds).Pairwise λd e=>ltD d e=MC:=by
 unfold pick;rw [IF];refine JO.mpr λi j hi hj hij=>?_;have hs:=h.size;rw [HF] at hi hj;have:=u i j hij (by omega);have g:∀ k (hk:k<p.toList.length),p.getD k 0=p.toList[k]:=λk hk=>by
  rw [vn,Hn,Hd hk];rfl
 rw [g i (by simpa using hi),g j (by simpa using hj)] at this;exact this
def kM (K:Hj):List V->Hp->VK->Prop:=λxs H Q=>∃ (a:Hm) (vs:List V) (ds:M9) (T:String),xs=[.ref a]/\SqL K H a vs/\Reps K H ds vs/\SortOk T ds/\ds.length<=1000/\(ds.length<64 \/ ds.Pairwise λd e=>ltD d e=MC) /\
 ∀ l p,H l=MF->Pm ds.length p->Up (λi j=>ltD (ds.getD i .none) (ds.getD j .none)) p ds.length->Q (.ref l) (upd H l (.lst (pick .non p vs)))
theorem kO {X:Cx} (hu:X.A.units+64<IZ):yK X (.builtin "sorted") (kM X.K):=by
 intro Mu s σ H xs us Q I r h;obtain⟨a,vs,ds,T,rfl,ha,rd,ok,hl,few,q⟩:=h;obtain⟨u,rfl,rx⟩:=vals1 r;cases rx;obtain⟨its,rv,pl,hz⟩:=I.list ha;have le:=rv.length;have ld:=rd.length;obtain⟨as,ra⟩:=jt I ds vs its rd rv;have e2:X.A.in1.in1.units=X.A.units+1+1:=rfl;have lt':its.length=ds.length:=by omega
 refine mY (by omega) pl.isList (kJ ra ok (by omega) few) λh' D p c x1 x2 x3 x4 x5=>?_;rw [lt'] at x1 x2;have hD:H D=MF:=I.hok.fresh x3;have lp:p.toList.length=ds.length:=by rw [HF];exact x1.size
 exact⟨.ref D,upd H D (.lst (pick .non p vs)),I.laid (t':=s.toks) x4 x3 ⟨by unfold pick;rw [Hc];omega,pick Value.none p its,c,dN rv p,x5⟩,rfl,q D p hD x1 x2⟩
theorem cU {X:Cx} {K:Hj} (hK:X.K=K) (hu:X.A.units+64<IZ):yK X (.builtin "sorted") (kM K):=hK▸kO hu
section
variable {K:Hj} {f:Fx} {ρ:zr} {P:M9->Prop} {te:TE}
theorem m5 (T:String) (h:PEd K f te ρ λx=>∃ ds,x=.list ds/\SortOk T ds/\ds.length<=1000/\(ds.length<64 \/ ds.Pairwise λd e=>ltD d e=MC)/\∀ es,es.Perm ds->(es.Pairwise λd e=>ltD d e=MC)->P es) :
  PEdO K f (tCB (kM K) (yj te jK)) ρ P:=λσ H Q e q=>h σ H _ e λx v H1 g1 r1 ⟨ds,ex,ok,hl,few,p⟩=>by
 subst ex;obtain⟨a,xs,rfl,h1,h2⟩:=zJ.mp r1;refine⟨a,xs,ds,T,rfl,(zp _ _).seq h1,Reps.mono (zp _ _) _ _ h2,ok,hl,few,λl pm hn m u=>?_⟩;have g2:Goes f H1 (upd H1 l (.lst (pick .non pm xs))):=.of_same (ye hn _) g1.2;refine q (pick .none pm ds) l _ _ (g1.trans g2) (g1.free e.fd hn) zw (Reps.mono (λb o hb=>?_) _ _ (dO h2 pm)) (p _ (dP m rfl) (kK m u));have hb':=zZ hb;have hbl:b≠l:=λz=>by
  have:=hb'.2;rw [z,hn] at this;cases this
 refine zI (λz=>?_) (by rw [zz hbl];exact hb'.2);rcases z with z | z
 ·exact hb'.1 (.inl z)
 ·rcases Hv.mp z with z | z
  ·exact hbl z
  ·exact hb'.1 (.inr z)
end
end L2
end
section
namespace L2.ST
open PySem PySem.SetTable
def m6 (xs:Array Nat):Prop:=∀ i j,i<j->j<xs.size->xs.getD i 0<xs.getD j 0
theorem Ab {xs:Array Nat} {i d e:Nat} (h:i<xs.size):xs.getD i d=xs.getD i e:=by simp [Kb,h]
theorem gx {xs:Array Nat} {j:Nat}:∀ f lo hi,hi - lo<=f->lo<=hi->hi<=xs.size->(∀ i,i<lo->xs.getD i 0<j)->(∀ i,hi<=i->i<xs.size->j<=xs.getD i 0)->m6 xs ->
  lo<=below.go xs j f lo hi/\below.go xs j f lo hi<=hi/\(∀ i,i<below.go xs j f lo hi->xs.getD i 0<j)/\(∀ i,below.go xs j f lo hi<=i->i<xs.size->j<=xs.getD i 0)
 | 0,lo,hi,hf,hl,hh,a,b,r=>by
  obtain rfl:lo=hi:=by omega
  exact⟨Ht _,Ht _,a,b⟩
 | f+1,lo,hi,hf,hl,hh,a,b,r=>by
  unfold below.go;by_cases h:lo<hi
  ·rw [Mw h];have hm:(lo+hi) / 2<xs.size:=by omega
   simp only;rw [Ab (e:=0) hm];by_cases h2:xs.getD ((lo+hi) / 2) 0<j
   ·rw [Mw h2];have:=gx f ((lo+hi) / 2+1) hi (by omega) (by omega) hh (λi hi'=>by
     by_cases e:i=(lo+hi) / 2
     ·rw [e];exact h2
     ·exact LP (r i _ (by omega) hm) h2) b r
    exact⟨by omega,this.2.1,this.2.2⟩
   ·rw [Mv h2];have:=gx f lo ((lo+hi) / 2) (by omega) (by omega) (by omega) a (λi hi' hs=>by
     by_cases e:i=(lo+hi) / 2
     ·rw [e];omega
     ·have:=r ((lo+hi) / 2) i (by omega) hs;omega) r
    exact⟨this.1,by omega,this.2.2⟩
  ·rw [Mv h];obtain rfl:lo=hi:=by omega
   exact⟨Ht _,Ht _,a,b⟩
theorem m7 {xs:Array Nat} (r:m6 xs) (j:Nat):below xs j<=xs.size/\(∀ i,i<below xs j->xs.getD i 0<j)/\(∀ i,below xs j<=i->i<xs.size->j<=xs.getD i 0):=by
 have:=gx (xs:=xs) (j:=j) xs.size 0 xs.size (by omega) (HR _) (Ht _) (λi hi=>absurd hi (Jr _)) (λi a b=>by omega) r;exact this.2
theorem below_at {xs:Array Nat} (r:m6 xs) {i:Nat} (hi:i<xs.size):below xs (xs.getD i 0)=i:=by
 obtain⟨a,b,c⟩:=m7 r (xs.getD i 0);by_cases h:below xs (xs.getD i 0)<i
 ·have h1:=c _ (Ht _) (by omega);have h2:=r _ i h hi;omega
 ·by_cases h2:i<below xs (xs.getD i 0)
  ·have:=b i h2;omega
  ·omega
def Tk (t:SetTable) (j:Nat):Prop:=∃ i,i<t.place.size/\t.place.getD i 0=j
theorem slot_live {t:SetTable} (r:m6 t.place) {i:Nat} (hi:i<t.place.size):t.slot (t.place.getD i 0)=.live i:=by
 unfold slot;simp only;rw [below_at r hi];have:(t.place[i]? == MA (t.place.getD i 0))=MC:=by simp [Kb,hi]
 rw [Mw this]
theorem we {t:SetTable} (d:t.dummies=#[]) {j:Nat} (h:¬ Tk t j):t.slot j=.empty:=by
 unfold slot;simp only;have h1:¬ (t.place[below t.place j]? == MA j)=MC:=λe=>h (by
  have e2:=eq_of_beq e;obtain⟨hl,e3⟩:=Li.mp e2;exact⟨_,hl,by simp [Kb,hl,e3]⟩)
 rw [Mv h1];have h2:has t.dummies j=MG:=by rw [d];rfl
 rw [h2];rfl
def road (mask:Nat) (h:Int):Nat->Probe
 | 0=>{ j:=bits h % (mask+1),more:=runEnd mask (bits h % (mask+1)) - bits h % (mask+1),i:=bits h % (mask+1),perturb:=bits h,dummy:=MF }
 | k+1=>if (road mask h k).more > 0 then { road mask h k with j:=(road mask h k).j+1,more:=(road mask h k).more - 1 } else
  { road mask h k with j:=(leap mask (road mask h k).i (road mask h k).perturb).1,more:=runEnd mask (leap mask (road mask h k).i (road mask h k).perturb).1 - (leap mask (road mask h k).i (road mask h k).perturb).1,i:=(leap mask (road mask h k).i (road mask h k).perturb).1,perturb:=(leap mask (road mask h k).i (road mask h k).perturb).2 }
theorem road_start (t:SetTable) (h:Int):t.probeStart h=road t.mask h 0:=rfl
theorem cw (mask:Nat) (h:Int):∀ k,(road mask h k).dummy=MF
 | 0=>rfl
 | k+1=>by
  unfold road;split
  ·exact cw mask h k
  ·exact cw mask h k
abbrev pos (mask:Nat) (h:Int) (k:Nat):Nat:=(road mask h k).j
def lp (mask:Nat) (h:Int):Nat->Nat×Nat
 | 0=>(bits h % (mask+1),bits h)
 | r+1=>leap mask (lp mask h r).1 (lp mask h r).2
theorem dQ (mask i:Nat) (h:i<=mask):i<=runEnd mask i/\runEnd mask i<=mask/\runEnd mask i - i<=9:=by
 unfold runEnd;split <;> omega
theorem m8 (mask:Nat) (h:Int):∀ r,(lp mask h r).1<=mask
 | 0=>La.mp (Nat.mod_lt _ (KS _))
 | r+1=>La.mp (Nat.mod_lt _ (KS _))
def At (mask:Nat) (h:Int) (k r d:Nat):Prop:=d<=runEnd mask (lp mask h r).1 - (lp mask h r).1/\road mask h k={ j:=(lp mask h r).1+d,more:=runEnd mask (lp mask h r).1 - (lp mask h r).1 - d,i:=(lp mask h r).1,perturb:=(lp mask h r).2,dummy:=MF }
theorem kP (mask:Nat) (h:Int):At mask h 0 0 0:=⟨HR _,rfl⟩
theorem tD {mask:Nat} {h:Int} {k r d:Nat} (a:At mask h k r d) (hd:d<runEnd mask (lp mask h r).1 - (lp mask h r).1):At mask h (k+1) r (d+1):=by
 obtain⟨a1,a2⟩:=a;refine⟨hd,?_⟩;unfold road;rw [a2];simp only;rw [Mw (by omega)];simp only [Probe.mk.injEq,and_true];omega
theorem kQ {mask:Nat} {h:Int} {k r d:Nat} (a:At mask h k r d) (hd:d=runEnd mask (lp mask h r).1 - (lp mask h r).1):At mask h (k+1) (r+1) 0:=by
 obtain⟨a1,a2⟩:=a;refine⟨HR _,?_⟩;unfold road;rw [a2];simp only;rw [Mv (by omega)];rfl
theorem kR {mask:Nat} {h:Int} {k r:Nat} (a:At mask h k r 0):∀ d,d<=runEnd mask (lp mask h r).1 - (lp mask h r).1->At mask h (k+d) r d
 | 0,_=>a
 | d+1,hd=>tD (kR a d (by omega)) (by omega)
theorem m9 (mask:Nat) (h:Int):∀ r,∃ k,k<=10 * r/\At mask h k r 0
 | 0=>⟨0,Ht _,kP mask h⟩
 | r+1=>by
  obtain⟨k,hk,a⟩:=m9 mask h r;have:=(dQ mask _ (m8 mask h r)).2.2;exact⟨_,by omega,kQ (kR a _ (Ht _)) rfl⟩
theorem Ac (mask:Nat) (h:Int):∀ k,∃ r d,At mask h k r d
 | 0=>⟨0,0,kP mask h⟩
 | k+1=>by
  obtain⟨r,d,a⟩:=Ac mask h k;by_cases e:d<runEnd mask (lp mask h r).1 - (lp mask h r).1
  ·exact⟨r,d+1,tD a e⟩
  ·exact⟨r+1,0,kQ a (Nat.le_antisymm a.1 (by omega))⟩
theorem kU (mask:Nat) (h:Int) (k:Nat):pos mask h k<=mask:=by
 obtain⟨r,d,a1,a2⟩:=Ac mask h k;unfold pos;rw [a2];have:=dQ mask _ (m8 mask h r);show (lp mask h r).1+d<=mask;omega
def stp (m i:Nat):Nat:=(i * 5+1) % m
def itr (m:Nat):Nat->Nat->Nat
 | 0,i=>i
 | r+1,i=>stp m (itr m r i)
theorem cV (m:Nat) (a:Nat):∀ b i,itr m (a+b) i=itr m b (itr m a i)
 | 0,i=>rfl
 | b+1,i=>by show stp m (itr m (a+b) i)=stp m (itr m b (itr m a i));rw [cV m a b i]
def orb (m:Nat):Nat->Nat->M8
 | 0,_=>[]
 | f+1,i=>i :: orb m f (stp m i)
theorem Ad (m:Nat):∀ f i r,r<f->(orb m f i)[r]?=MA (itr m r i)
 | 0,_,_,h=>absurd h (Jr _)
 | f+1,i,0,_=>rfl
 | f+1,i,r+1,h=>by
  show (orb m f (stp m i))[r]?=_;rw [Ad m f (stp m i) r (by omega),show r+1=1+r by omega,cV m 1 r i];rfl
def q9 (m:Nat):Bool:=(HN m).all (λj=>(orb m m 0).contains j) && itr m m 0 == 0
theorem tE:q9 8=MC:=by decide +kernel
theorem nh:q9 32=MC:=by decide +kernel
theorem iK:q9 128=MC:=by decide +kernel
theorem iL:q9 512=MC:=by decide +kernel
theorem kW (m:Nat):∀ f i,(orb m f i).length=f
 | 0,_=>rfl
 | f+1,i=>by show (orb m f (stp m i)).length+1=f+1;rw [kW m f]
theorem ni {m:Nat} (h:q9 m=MC) {j:Nat} (hj:j<m):∃ r,r<m/\itr m r 0=j:=by
 unfold q9 at h;rw [Hq] at h;have:=JI.mp h.1 j (Ia.mpr hj);have hm:j∈orb m m 0:=by simpa using this
 obtain⟨r,hr,e⟩:=J1 hm;rw [kW] at hr;have e2:=Ad m m 0 r hr;rw [Hd (by rw [kW];exact hr),e] at e2;exact⟨r,hr,(ML e2).symm⟩
theorem tF {m:Nat} (h:q9 m=MC) {i j:Nat} (hi:i<m) (hj:j<m):∃ r,r<m/\itr m r i=j:=by
 obtain⟨a,ha,ea⟩:=ni h hi;obtain⟨b,hb,eb⟩:=ni h hj;have e0:itr m m 0=0:=by
  unfold q9 at h;rw [Hq] at h;exact eq_of_beq h.2
 by_cases hab:a<=b
 ·exact⟨b - a,by omega,by rw [<-ea,<- cV,show a+(b - a)=b by omega];exact eb⟩
 ·refine⟨m - a+b,by omega,?_⟩;rw [<-ea,<- cV,show a+(m - a+b)=m+b by omega,cV,e0];exact eb
theorem tG (mask:Nat) (h:Int):∀ r,(lp mask h r).2=bits h / 32 ^ r
 | 0=>by simp [lp]
 | r+1=>by
  show (lp mask h r).2 / 32=_;rw [tG mask h r,Nat.div_div_eq_div_mul,Nat.pow_succ]
theorem B9 (h:Int):bits h<2 ^ 64:=by
 unfold bits;have:=Kd h (show (0:Int)<2 ^ 64 by decide);have:=L0 h (show (2 ^ 64:Int)≠0 by decide);omega
theorem Ca (mask:Nat) (h:Int) (r:Nat) (hr:13<=r):(lp mask h r).2=0:=by
 rw [tG];refine Nat.div_eq_of_lt (HZ (B9 h) ?_);exact HM (show 2 ^ 64<=32 ^ 13 by decide) (Nat.pow_le_pow_right (by decide) hr)
theorem p9 (mask:Nat) (h:Int):∀ r,(lp mask h (13+r)).1=itr (mask+1) r (lp mask h 13).1
 | 0=>rfl
 | r+1=>by
  show (leap mask (lp mask h (13+r)).1 (lp mask h (13+r)).2).1=stp (mask+1) (itr (mask+1) r (lp mask h 13).1);rw [Ca mask h (13+r) (by omega),p9 mask h r];rfl
theorem Ae {mask:Nat} (g:q9 (mask+1)=MC) (h:Int) {j:Nat} (hj:j<=mask):∃ k,k<10 * turns mask/\pos mask h k=j:=by
 obtain⟨r,hr,e⟩:=tF g (i:=(lp mask h 13).1) (j:=j) (KW (m8 mask h 13)) (KW hj);obtain⟨k,hk,a1,a2⟩:=m9 mask h (13+r);refine⟨k,by unfold turns;omega,?_⟩;unfold pos;rw [a2];show (lp mask h (13+r)).1+0=j;rw [p9,e];rfl
end L2.ST
end
section
namespace L2.ST
open PySem PySem.SetTable
structure TB (t:SetTable) (hs:M4):Prop where
 mask:t.mask=7 \/ t.mask=31 \/ t.mask=127 \/ t.mask=511
 dum:t.dummies=#[]
 rise:m6 t.place
 le:∀ i,i<t.place.size->t.place.getD i 0<=t.mask
 size:t.place.size=hs.length
 most:hs.length<=t.mask
 reach:∀ i,i<hs.length->∃ k,pos t.mask (hs.getD i 0) k=t.place.getD i 0/\∀ k',k'<k->Tk t (pos t.mask (hs.getD i 0) k')
structure TOk (t:SetTable) (hs:M4):Prop extends TB t hs where
 room:hs.length * 5<t.mask * 3
theorem Af {t:SetTable} {hs:M4} (o:TB t hs):q9 (t.mask+1)=MC:=by
 rcases o.mask with e | e | e | e <;> rw [e]
 ·exact tE
 ·exact nh
 ·exact iK
 ·exact iL
theorem wg {t:SetTable} (r:m6 t.place) (hs:t.place.size<=t.mask):∃ j,j<=t.mask/\¬ Tk t j:=by
 refine I9 λno=>?_;have all:∀ j,j<=t.mask->Tk t j:=λj hj=>I9 λz=>no ⟨j,hj,z⟩;have up:∀ j,j<=t.mask->j<=below t.place j/\below t.place j<t.place.size:=λj=>by
  induction j with
  | zero =>
   intro hj;obtain⟨i,hi,e⟩:=all 0 hj;have:=below_at r hi;rw [e] at this;exact⟨HR _,by omega⟩
  | succ j ih =>
   intro hj;obtain⟨i,hi,e⟩:=all (j+1) hj;obtain⟨i',hi',e'⟩:=all j (by omega);have b1:=below_at r hi;have b2:=below_at r hi';rw [e] at b1;rw [e'] at b2;have lt:i'<i:=by
    by_cases h:i'<i
    ·exact h
    ·by_cases h2:i'=i
     ·subst h2;omega
     ·have:=r i i' (by omega) hi';omega
   have:=ih (by omega);omega
 have:=up t.mask (Ht _);omega
structure First (t:SetTable) (h:Int) (E:Nat):Prop where
 lt:E<10 * turns t.mask
 free:¬ Tk t (pos t.mask h E)
 ahead:∀ k,k<E->Tk t (pos t.mask h k)
theorem least {p:Nat->Prop}:∀ n,p n->∃ m,m<=n/\p m/\∀ k,k<m->¬ p k:=λn=>by
 induction n using Nat.strongRecOn with
 | ind n ih =>
  intro h;by_cases q:∃ k,k<n/\p k
  ·obtain⟨k,hk,pk⟩:=q;obtain⟨m,a,b⟩:=ih k hk pk;exact⟨m,by omega,b⟩
  ·exact⟨n,Ht _,h,λk hk z=>q ⟨k,hk,z⟩⟩
theorem wj {t:SetTable} (g:q9 (t.mask+1)=MC) (r:m6 t.place) (hs:t.place.size<=t.mask) (h:Int):∃ E,First t h E:=by
 obtain⟨j,hj,nj⟩:=wg r hs;obtain⟨k,hk,e⟩:=Ae g h hj;obtain⟨m,a,b,c⟩:=least (p:=λk=>¬ Tk t (pos t.mask h k)) k (by show ¬ Tk t (pos t.mask h k);rw [e];exact nj);exact⟨m,by omega,b,λq hq=>I9 (c q hq)⟩
theorem first_of {t:SetTable} {hs:M4} (o:TB t hs) (h:Int):∃ E,First t h E:=wj (Af o) o.rise (by have:=o.size;have:=o.most;omega) h
theorem probe_go {t:SetTable} (d:t.dummies=#[]) (r:m6 t.place) {hashAt:Nat->Int} {h:Int} {E:Nat} (F:First t h E):∀ f k,k<=E->E<k+f ->
  (probe.go t hashAt h f (road t.mask h k)=MA (.empty (pos t.mask h E) MF)/\∀ q i,k<=q->q<E->i<t.place.size->pos t.mask h q=t.place.getD i 0->hashAt i≠h) \/
  ∃ q i,k<=q/\q<E/\i<t.place.size/\pos t.mask h q=t.place.getD i 0/\hashAt i=h/\probe.go t hashAt h f (road t.mask h k)=MA (.candidate (pos t.mask h q) i (road t.mask h (q+1)))/\∀ q' i',k<=q'->q'<q->i'<t.place.size->pos t.mask h q'=t.place.getD i' 0->hashAt i'≠h
 | 0,k,h1,h2=>by omega
 | f+1,k,h1,h2=>by
  unfold probe.go;by_cases e:k=E
  ·subst e;refine .inl ⟨?_,λq i a b=>by omega⟩;rw [we d F.free];show MA (Met.empty _ _)=_;rw [cw]
  ·obtain⟨i,hi,ei⟩:=F.ahead k (by omega);have sl:t.slot (road t.mask h k).j=.live i:=by
    have:=slot_live r hi;rw [ei] at this;exact this
   rw [sl];show (if (hashAt i == h)=MC then _ else _:Option Met)=_/\_ \/ _;have uniq:∀ i',i'<t.place.size->pos t.mask h k=t.place.getD i' 0->i'=i:=λi' hi' e'=>by
    have b1:=below_at r hi;have b2:=below_at r hi';rw [ei] at b1;rw [<-e'] at b2;omega
   by_cases hh:(hashAt i == h)=MC
   ·rw [Mw hh];refine .inr ⟨k,i,Ht _,by omega,hi,ei.symm,eq_of_beq hh,?_,λq' i' a b=>by omega⟩;show (if (hashAt i == h)=MC then _ else _:Option Met)=_;rw [Mw hh];rfl
   ·rw [Mv hh];have hne:hashAt i≠h:=λz=>hh (by rw [z];exact beq_self_eq_true _);rcases probe_go d r (hashAt:=hashAt) F f (k+1) (by omega) (by omega) with⟨a,b⟩ | ⟨q,i2,a1,a2,a3,a4,a5,a6,a7⟩
    ·refine .inl ⟨a,λq i' c1 c2 c3 c4=>?_⟩;by_cases eq:q=k
     ·subst eq;rw [uniq i' c3 c4];exact hne
     ·exact b q i' (by omega) c2 c3 c4
    ·refine .inr ⟨q,i2,by omega,a2,a3,a4,a5,?_,λq' i' c1 c2 c3 c4=>?_⟩
     ·show (if (hashAt i == h)=MC then _ else _:Option Met)=_;rw [Mv hh];exact a6
     ·by_cases eq:q'=k
      ·subst eq;rw [uniq i' c3 c4];exact hne
      ·exact a7 q' i' (by omega) c2 c3 c4
end L2.ST
end
section
namespace L2.ST
open PySem PySem.SetTable
theorem cW {α:Type} (xs:Array α) (i:Nat) (d:α):xs.getD i d=xs.toList.getD i d:=by
 by_cases h:i<xs.size <;> simp [Kb,h,List.getD]
theorem nt {α:Type} (l:List α) (p:Nat) (x d:α) (hp:p<=l.length) (i:Nat):(l.take p++x :: l.drop p).getD i d=if i<p then l.getD i d else if i=p then x else l.getD (i - 1) d:=by
 have lt:(l.take p).length=p:=by rw [Im];omega
 by_cases h1:i<p
 ·rw [Mw h1,Hn,HE (by omega),JY h1,Hn]
 ·rw [Mv h1,Hn,HL (by omega),lt];by_cases h2:i=p
  ·rw [Mw h2,h2,Ku];rfl
  ·rw [Mv h2,show i - p=(i - p - 1)+1 by omega,List.getElem?_cons_succ,List.getElem?_drop,show p+(i - p - 1)=i - 1 by omega,Hn]
section
variable {t:SetTable} {hs:M4} {h:Int} {E:Nat}
theorem put_tb (o:TB t hs) (F:First t h E) (more:hs.length+1<=t.mask):below t.place (pos t.mask h E)<=hs.length/\TB (t.put (pos t.mask h E)).1 (hs.take (below t.place (pos t.mask h E))++h :: hs.drop (below t.place (pos t.mask h E))):=by
 obtain⟨b1,b2,b3⟩:=m7 o.rise (pos t.mask h E);have sz:=o.size;generalize hp:below t.place (pos t.mask h E)=p at *;have hpl:p<=t.place.toList.length:=by rw [HF];exact b1
 have pl:∀ i,(t.put (pos t.mask h E)).1.place.getD i 0=if i<p then t.place.getD i 0 else if i=p then pos t.mask h E else t.place.getD (i - 1) 0:=λi=>by
  show (insertAt t.place (below t.place (pos t.mask h E)) (pos t.mask h E)).getD i 0=_;rw [hp,cW,KI,nt _ _ _ _ hpl,cW,cW]
 have psz:(t.put (pos t.mask h E)).1.place.size=t.place.size+1:=by
  show (insertAt t.place (below t.place (pos t.mask h E)) (pos t.mask h E)).size=_;rw [<-HF,KI,hp,HA,HK,Im,List.length_drop,HF];omega
 have ne:∀ i,i<t.place.size->t.place.getD i 0≠pos t.mask h E:=λi hi e=>F.free ⟨i,hi,e⟩;have b3':∀ i,p<=i->i<t.place.size->pos t.mask h E<t.place.getD i 0:=λi a b=>by
  have:=b3 i a b;have:=ne i b;omega
 have hm:(t.put (pos t.mask h E)).1.mask=t.mask:=rfl;have tk:∀ j,Tk t j->Tk (t.put (pos t.mask h E)).1 j:=λj ⟨i,hi,e⟩=>by
  by_cases q:i<p
  ·exact⟨i,by omega,by rw [pl,Mw q];exact e⟩
  ·exact⟨i+1,by omega,by rw [pl,Mv (by omega),Mv (by omega),Nat.add_sub_cancel];exact e⟩
 have hl:∀ i,(hs.take p++h :: hs.drop p).getD i 0=if i<p then hs.getD i 0 else if i=p then h else hs.getD (i - 1) 0:=λi=>nt hs p h 0 (by omega) i
 have ln:(hs.take p++h :: hs.drop p).length=hs.length+1:=by
  rw [HA,HK,Im,List.length_drop];omega
 refine⟨by omega,⟨o.mask,?_,λi j hij hj=>?_,λi hi=>?_,by rw [psz,ln,sz],by rw [ln,hm];exact more,λi hi=>?_⟩⟩
 ·show (if has t.dummies (pos t.mask h E)=MC then _ else t.dummies)=#[];rw [o.dum];rfl
 ·rw [pl,pl];rw [psz] at hj;by_cases c1:i<p
  ·rw [Mw c1];by_cases c2:j<p
   ·rw [Mw c2];exact o.rise i j hij (by omega)
   ·rw [Mv c2];by_cases c3:j=p
    ·rw [Mw c3];exact b2 i c1
    ·rw [Mv c3];exact o.rise i (j - 1) (by omega) (by omega)
  ·rw [Mv c1,Mv (show ¬ j<p by omega)];by_cases c3:i=p
   ·rw [Mw c3,Mv (by omega)];exact b3' (j - 1) (by omega) (by omega)
   ·rw [Mv c3,Mv (by omega)];exact o.rise (i - 1) (j - 1) (by omega) (by omega)
 ·rw [pl,hm];rw [psz] at hi;by_cases c1:i<p
  ·rw [Mw c1];exact o.le i (by omega)
  ·rw [Mv c1];by_cases c3:i=p
   ·rw [Mw c3];exact kU _ _ _
   ·rw [Mv c3];exact o.le (i - 1) (by omega)
 ·rw [hl,pl,hm];rw [ln] at hi;by_cases c1:i<p
  ·rw [Mw c1,Mw c1];obtain⟨k,e,a⟩:=o.reach i (by omega);exact⟨k,e,λk' hk=>tk _ (a k' hk)⟩
  ·rw [Mv c1,Mv c1];by_cases c3:i=p
   ·rw [Mw c3,Mw c3];exact⟨E,rfl,λk' hk=>tk _ (F.ahead k' hk)⟩
   ·rw [Mv c3,Mv c3];obtain⟨k,e,a⟩:=o.reach (i - 1) (by omega);exact⟨k,e,λk' hk=>tk _ (a k' hk)⟩
end
def Occ (ow:Array (M5)) (j:Nat):Prop:=ow.getD j (MA 0)≠MF
theorem tH {mask:Nat} {ow:Array (M5)} {h:Int}:∀ f r k,At mask h k r 0->(∃ r',r<=r'/\r'<r+f/\¬ Occ ow (lp mask h r').1) ->
  ∃ E,k<=E/\(∀ q,k<=q->q<E->Occ ow (pos mask h q))/\¬ Occ ow (pos mask h E)/\layClean.free mask ow f (lp mask h r).1 (lp mask h r).2=MA (pos mask h E)
 | 0,r,k,a,⟨r',h1,h2,_⟩=>by omega
 | f+1,r,k,a,⟨r',h1,h2,h3⟩=>by
  have re:=dQ mask _ (m8 mask h r);have at_:∀ d,d<=runEnd mask (lp mask h r).1 - (lp mask h r).1->pos mask h (k+d)=(lp mask h r).1+d:=λd hd=>by
   have:=(kR a d hd).2;unfold pos;rw [this]
  unfold layClean.free;cases hf:(HN (runEnd mask (lp mask h r).1+1 - (lp mask h r).1)).find? λk=>(ow.getD ((lp mask h r).1+k) (MA 0)).isNone with
  | some d =>
   have hm:=List.mem_of_find?_eq_some hf;have hd:=Ia.mp hm;have hs:=List.find?_some hf;have bef:∀ d',d'<d->¬ (ow.getD ((lp mask h r).1+d') (MA 0)).isNone=MC:=λd' hd'=>by
    obtain⟨_,as,bs,e,al⟩:=List.find?_eq_some_iff_append.mp hf;have:as=HN d:=by
     have l1:(HN (runEnd mask (lp mask h r).1+1 - (lp mask h r).1))[as.length]?=MA d:=by
      rw [e,HL (Ht _),Ku];rfl
     have lt:as.length<runEnd mask (lp mask h r).1+1 - (lp mask h r).1:=by
      have:=congrArg L9 e;simp at this;omega
     rw [Jm lt] at l1;have el:as.length=d:=ML l1;have:as=(HN (runEnd mask (lp mask h r).1+1 - (lp mask h r).1)).take as.length:=by
      rw [e,List.take_append_of_le_length (Ht _),Ic]
     rw [this,List.take_range,Nat.min_eq_left (by omega),el]
    have al2:=al d' (by rw [this];exact Ia.mpr hd');intro z;have z2:(!(ow.getD ((lp mask h r).1+d') (MA 0)).isNone)=MC:=al2;rw [z] at z2;cases z2
   refine⟨k+d,by omega,λq hq1 hq2=>?_,?_,?_⟩
   ·have:=bef (q - k) (by omega);rw [show q=k+(q - k) by omega,at_ (q - k) (by omega)];intro z;rw [z] at this;exact this rfl
   ·rw [at_ d (by omega)];intro z;have hs':(ow.getD ((lp mask h r).1+d) (MA 0)).isNone=MC:=hs;exact z (Kv.mp hs')
   ·rw [at_ d (by omega)]
  | none =>
   have all:∀ d,d<runEnd mask (lp mask h r).1+1 - (lp mask h r).1->Occ ow ((lp mask h r).1+d):=λd hd z=>by
    have:=Lj.mp hf d (Ia.mpr hd);simp [z] at this
   have ne:r'≠r:=λz=>by
    rw [z] at h3;exact h3 (by have:=all 0 (by omega);rwa [Nat.add_zero] at this)
   have a2:=kQ (kR a _ (Ht _)) rfl;obtain⟨E,e1,e2,e3,e4⟩:=tH f (r+1) _ a2 ⟨r',by omega,by omega,h3⟩;refine⟨E,by omega,λq hq1 hq2=>?_,e3,e4⟩;by_cases hq:q<k+(runEnd mask (lp mask h r).1 - (lp mask h r).1)+1
   ·rw [show q=k+(q - k) by omega,at_ (q - k) (by omega)];exact all _ (by omega)
   ·exact e2 q (by omega) hq2
end L2.ST
end
section
namespace L2.ST
open PySem PySem.SetTable
structure OwnT (mask:Nat) (ow:Array (M5)) (hs:M4) (sl:M8):Prop where
 size:ow.size=mask+1
 len:sl.length=hs.length
 nd:sl.Nodup
 le:∀ j∈sl,j<=mask
 own:∀ j,j<=mask->∀ i,ow.getD j MF=MA i↔sl[i]?=MA j
 reach:∀ i,i<hs.length->∃ q,pos mask (hs.getD i 0) q=sl.getD i 0/\∀ q',q'<q->pos mask (hs.getD i 0) q'∈sl
theorem OwnT.occ {mask:Nat} {ow:Array (M5)} {hs:M4} {sl:M8} (o:OwnT mask ow hs sl) {j:Nat} (hj:j<=mask):Occ ow j↔j∈sl:=by
 have hs':j<ow.size:=by rw [o.size];omega
 have e:ow.getD j (MA 0)=ow.getD j MF:=by simp [Kb,hs']
 unfold Occ;rw [e];constructor
 ·intro h;obtain⟨i,hi⟩:=Option.ne_none_iff_exists'.mp h;exact Hu ((o.own j hj i).mp hi)
 ·intro h z;obtain⟨i,hi,e2⟩:=J1 h;have:=(o.own j hj i).mpr (by rw [Hd hi,e2]);rw [z] at this;cases this
def tI (mask:Nat):Option (Array (M5)×Nat)->Int->Option (Array (M5)×Nat):=λacc h=>do
  let (owner,k) <- acc
  let j <- layClean.free mask owner (turns mask) (bits h % (mask+1)) (bits h)
  pure (owner.setIfInBounds j (MA k),k+1)
theorem Ag {mask:Nat} (g:q9 (mask+1)=MC) {ow:Array (M5)} {hs:M4} {sl:M8} (o:OwnT mask ow hs sl) (hm:hs.length<=mask) (h:Int) :
  ∃ ow' sl',tI mask (MA (ow,hs.length)) h=MA (ow',hs.length+1)/\OwnT mask ow' (hs++[h]) sl':=by
 obtain⟨j,hj,nj⟩:∃ j,j<=mask/\j∉sl:=by
  refine I9 λno=>?_;have sub:HN (mask+1) ⊆ sl:=λj hj=>I9 λz=>no ⟨j,La.mp (Ia.mp hj),z⟩;have:=List.Nodup.length_le_of_subset LF sub;rw [HY,o.len] at this;omega
 obtain⟨r,hr,e⟩:=tF g (i:=(lp mask h 13).1) (j:=j) (KW (m8 mask h 13)) (KW hj);obtain⟨E,_,e2,e3,e4⟩:=tH (ow:=ow) (turns mask) 0 0 (kP mask h) ⟨13+r,HR _,by unfold turns;omega,by rw [p9,e,o.occ hj];exact nj⟩;have e3':pos mask h E∉sl:=λz=>e3 ((o.occ (kU mask h E)).mpr z);have e2':∀ q,q<E->pos mask h q∈sl:=λq hq=>(o.occ (kU mask h q)).mp (e2 q (HR _) hq);have e4':layClean.free mask ow (turns mask) (bits h % (mask+1)) (bits h)=MA (pos mask h E):=e4;refine⟨ow.setIfInBounds (pos mask h E) (MA hs.length),sl++[pos mask h E],?_,?_⟩
 ·show (layClean.free mask ow (turns mask) (bits h % (mask+1)) (bits h) >>= λj=>pure (ow.setIfInBounds j (MA hs.length),hs.length+1))=_;rw [e4'];rfl
 ·have ls:∀ i,(sl++[pos mask h E])[i]?=if i<sl.length then sl[i]? else if i=sl.length then MA (pos mask h E) else MF:=λi=>by
   by_cases c:i<sl.length
   ·rw [Mw c,HE c]
   ·rw [Mv c,HL (by omega)];by_cases c2:i=sl.length
    ·rw [Mw c2,c2,Ku];rfl
    ·rw [Mv c2];exact Ib (by simp;omega)
  refine⟨by rw [Array.size_setIfInBounds];exact o.size,by simp [o.len],?_,λj hj=>?_,λj hj i=>?_,λi hi=>?_⟩
  ·rw [IA];refine⟨o.nd,by simp,λa ha b hb=>?_⟩;rw [Hw.mp hb];intro z;rw [z] at ha;exact e3' ha
  ·rcases HC.mp hj with hj | hj
   ·exact o.le j hj
   ·rw [Hw.mp hj];exact kU _ _ _
  ·have hsz:j<ow.size:=by rw [o.size];omega
   rw [ls];by_cases c:j=pos mask h E
   ·subst c;have:(ow.setIfInBounds (pos mask h E) (MA hs.length)).getD (pos mask h E) MF=MA hs.length:=by simp [Kb,hsz]
    rw [this];constructor
    ·intro z;have z':hs.length=i:=ML z;rw [Mv (by rw [o.len];omega),Mw (by rw [o.len];omega)]
    ·intro z;by_cases c2:i<sl.length
     ·rw [Mw c2] at z;exact absurd (Hu z) e3'
     ·rw [Mv c2] at z;by_cases c3:i=sl.length
      ·rw [c3,o.len]
      ·rw [Mv c3] at z;cases z
   ·have:(ow.setIfInBounds (pos mask h E) (MA hs.length)).getD j MF=ow.getD j MF:=by
     rw [JG,JG,Array.getElem?_setIfInBounds_ne (Jc c)]
    rw [this,o.own j hj i];by_cases c2:i<sl.length
    ·rw [Mw c2]
    ·rw [Mv c2];constructor
     ·intro z;rw [Ib (by omega)] at z;cases z
     ·intro z;by_cases c3:i=sl.length
      ·rw [Mw c3] at z;exact absurd (ML z).symm c
      ·rw [Mv c3] at z;cases z
  ·have gl:∀ i,(hs++[h]).getD i 0=if i<hs.length then hs.getD i 0 else if i=hs.length then h else 0:=λi=>by
    by_cases c:i<hs.length
    ·rw [Mw c,Hn,HE c,Hn]
    ·rw [Mv c,Hn,HL (by omega)];by_cases c2:i=hs.length
     ·rw [Mw c2,c2,Ku];rfl
     ·rw [Mv c2,Ib (by simp;omega)];rfl
   rw [HA,Iz] at hi;have gs:(sl++[pos mask h E]).getD i 0=((sl++[pos mask h E])[i]?).getD 0:=Hn ..;rw [gl,gs,ls];by_cases c:i<hs.length
   ·rw [Mw c,Mw (by rw [o.len];exact c)];obtain⟨q,a,b⟩:=o.reach i c;exact⟨q,by rw [<-Hn];exact a,λq' hq=>HQ _ (b q' hq)⟩
   ·rw [Mv c,Mw (by omega),Mv (by rw [o.len];omega),Mw (by rw [o.len];omega)];exact⟨E,rfl,λq' hq=>HQ _ (e2' q' hq)⟩
theorem tJ {mask:Nat} (g:q9 (mask+1)=MC):∀ (l:M4) (ow:Array (M5)) (hs:M4) (sl:M8),OwnT mask ow hs sl->hs.length+l.length<=mask+1 ->
  ∃ ow' sl',l.foldl (tI mask) (MA (ow,hs.length))=MA (ow',hs.length+l.length)/\OwnT mask ow' (hs++l) sl'
 | [],ow,hs,sl,o,_=>⟨ow,sl,rfl,by rw [IX];exact o⟩
 | h :: l,ow,hs,sl,o,hm=>by
  rw [HK] at hm;obtain⟨ow1,sl1,e1,o1⟩:=Ag g o (by omega) h;obtain⟨ow2,sl2,e2,o2⟩:=tJ g l ow1 (hs++[h]) sl1 o1 (by rw [HA,Iz];omega);refine⟨ow2,sl2,?_,by rw [Jg] at o2;exact o2⟩;rw [List.foldl_cons,e1];rw [HA,Iz] at e2;rw [e2,HK,LA,Nat.add_comm 1]
theorem Cb (mask:Nat):OwnT mask (Lb (mask+1) MF) [] [] where
 size:=by simp
 len:=rfl
 nd:=.nil
 le:=λ_ h=>nomatch h
 own:=λj hj i=>by
  have:(Lb (mask+1) (MF:M5)).getD j MF=MF:=by simp [Kb]
  rw [this];constructor <;> intro z <;> cases z
 reach:=λi hi=>absurd hi (Jr _)
theorem Ah {mask:Nat} (g:q9 (mask+1)=MC) (hs:Array Int) (hm:hs.size<=mask+1):∃ ow sl,layClean mask hs=MA ow/\OwnT mask ow hs.toList sl:=by
 obtain⟨ow,sl,e,o⟩:=tJ g hs.toList _ [] [] (Cb mask) (by simpa using hm);refine⟨ow,sl,?_,by simpa using o⟩;unfold layClean;rw [<-Array.foldl_toList];have:hs.toList.foldl (tI mask) (MA (Lb (mask+1) MF,0))=MA (ow,0+hs.toList.length):=e;show Option.map _ (hs.toList.foldl (tI mask) (MA (Lb (mask+1) MF,0)))=_;rw [this];rfl
theorem laid_ok {mask:Nat} (mk:mask=7 \/ mask=31 \/ mask=127 \/ mask=511) (hs:Array Int) (hm:hs.size<=mask) (finger moves:Nat) (led plain:Bool) :
  ∃ t ord,laid mask finger moves led plain hs=MA (t,ord)/\t.mask=mask/\t.plain=plain/\t.led=led/\ord.toList.Perm (HN hs.size)/\TB t (ord.toList.map λi=>hs.toList.getD i 0):=by
 have g:q9 (mask+1)=MC:=by
  rcases mk with rfl | rfl | rfl | rfl
  ·exact tE
  ·exact nh
  ·exact iK
  ·exact iL
 obtain⟨ow,sl,e,o⟩:=Ah g hs (by omega)
 let live:=(HN (mask+1)).filterMap λj=>(ow.getD j MF).map (j,·)
 have mem:∀ p:Nat×Nat,p∈live↔p.1<=mask/\sl[p.2]?=MA p.1:=λ⟨j,i⟩=>by
  show (j,i)∈List.filterMap _ _↔_;rw [J8];constructor
  ·rintro⟨j',hj,e⟩;have hj':=La.mp (Ia.mp hj);cases e2:ow.getD j' MF with
   | none=>rw [e2] at e;cases e
   | some i' =>
    rw [e2] at e;cases e;exact⟨hj',(o.own _ hj' _).mp e2⟩
  ·rintro⟨h1,h2⟩;refine⟨j,Ia.mpr (by omega),?_⟩;rw [(o.own j h1 i).mpr h2];rfl
 have up:(live.map (·.1)).Pairwise (·<·):=by
  rw [IF];show (List.filterMap _ _).Pairwise _;rw [List.pairwise_filterMap];refine LQ.imp λ{a b} hab p hp q hq=>?_;cases e1:ow.getD a MF with
  | none=>rw [e1] at hp;cases hp
  | some i =>
   cases e2:ow.getD b MF with
   | none=>rw [e2] at hq;cases hq
   | some i2 =>
    rw [e1] at hp;rw [e2] at hq;cases hp;cases hq;exact hab
 have nd2:(live.map (·.2)).Nodup:=by
  show List.Pairwise _ _;rw [IF];have u2:=IF.mp up;refine u2.imp_of_mem λ{p q} hp hq hlt hz=>?_;have a1:=((mem p).mp hp).2;have a2:=((mem q).mp hq).2;rw [hz,a2] at a1;have:=ML a1;omega
 have pm:(live.map (·.2)).Perm (HN hs.size):=by
  refine (List.perm_ext_iff_of_nodup nd2 LF).mpr λi=>?_;have ls:sl.length=hs.size:=by rw [o.len,HF]
  constructor
  ·intro hi;obtain⟨p,hp,rfl⟩:=Hz.mp hi;have:=(Hg.mp ((mem p).mp hp).2).1;exact Ia.mpr (by omega)
  ·intro hi;have hi':=Ia.mp hi;have hl:i<sl.length:=by omega
   exact Hz.mpr ⟨(sl[i],i),(mem _).mpr ⟨o.le _ (Io hl),Hd hl⟩,rfl⟩
 refine⟨_,_,by unfold laid;rw [e];rfl,rfl,rfl,rfl,pm,?_⟩;have ln:live.length=hs.size:=by have:=pm.length_eq;rwa [Hc,HY] at this
 have tk:∀ j,j∈sl->∃ i,i<live.length/\(live.map (·.1)).getD i 0=j:=λj hj=>by
  obtain⟨i,hi,e2⟩:=J1 hj;have:(j,i)∈live:=(mem _).mpr ⟨o.le j hj,by rw [Hd hi,e2]⟩;obtain⟨q,hq,e3⟩:=J1 this;exact⟨q,hq,by rw [Hn,Ho,Hd hq,e3];rfl⟩
 have gd:∀ i,(live.map (·.1)).toArray.getD i 0=(live.map (·.1)).getD i 0:=λi=>by rw [cW]
 refine⟨mk,rfl,λi j hij hj=>?_,λi hi=>?_,?_,?_,λi hi=>?_⟩
 ·show (live.map (·.1)).toArray.getD i 0<(live.map (·.1)).toArray.getD j 0;have hj':j<(live.map (·.1)).length:=by
   have h2:j<(live.map (·.1)).toArray.size:=hj
   rwa [HG] at h2
  rw [gd,gd,Hn,Hn,Hd hj',Hd (show i<(live.map (·.1)).length by omega)];exact JO.mp up i j (by omega) hj' hij
 ·show (live.map (·.1)).toArray.getD i 0<=mask;have hi':i<(live.map (·.1)).length:=by
   have h2:i<(live.map (·.1)).toArray.size:=hi
   rwa [HG] at h2
  rw [gd,Hn,Hd hi'];obtain⟨p,hp,e2⟩:=Hz.mp (Io hi');show (live.map (·.1))[i]<=mask;rw [<-e2];exact ((mem p).mp hp).1
 ·show (live.map (·.1)).toArray.size=_;simp
 ·show (KY _ (live.map (·.2))).length<=mask;rw [Hc,Hc,ln];exact hm
 ·have hi':i<live.length:=by
   have hi2:i<(KY (λi=>hs.toList.getD i 0) (live.map (·.2))).length:=hi
   rwa [Hc,Hc] at hi2
  have pl:(live.map (·.1)).toArray.getD i 0=live[i].1:=by
   rw [gd,Hn,Ho,Hd hi'];rfl
  have hh:(KY (λi=>hs.toList.getD i 0) (live.map (·.2))).getD i 0=hs.toList.getD live[i].2 0:=by
   rw [Hn,Ho,Ho,Hd hi'];rfl
  have m2:=(mem live[i]).mp (Io hi');have l2:=(Hg.mp m2.2).1;obtain⟨q,a,b⟩:=o.reach live[i].2 (by rw [<-o.len];exact l2);refine⟨q,?_,λq' hq=>?_⟩
  ·show pos mask ((KY (λi=>hs.toList.getD i 0) (live.map (·.2))).getD i 0) q=(live.map (·.1)).toArray.getD i 0;rw [hh,pl,a,Hn,m2.2];rfl
  ·show Tk _ (pos mask ((KY (λi=>hs.toList.getD i 0) (live.map (·.2))).getD i 0) q');rw [hh];obtain⟨z,hz,ez⟩:=tk _ (b q' hq);exact⟨z,by show z<(live.map (·.1)).toArray.size;simpa using hz,by show (live.map (·.1)).toArray.getD z 0=_;rw [gd];exact ez⟩
end L2.ST
end
section
namespace L2
open PySem PySem.Spec PyProof.Rows
mutual
noncomputable def zy (w:MH):MB->Int
 | .int i=>hashInt i
 | .str x=>hashStr w x
 | .tuple xs=>reduceHash (JP (aN w xs))
 | _=>0
noncomputable def aN (w:MH):M9->M4
 | []=>[]
 | x :: xs=>zy w x :: aN w xs
end
mutual
noncomputable def ym:MB->Nat
 | .int _=>1
 | .str _=>1
 | .tuple xs=>gy xs+1
 | _=>0
noncomputable def gy:M9->Nat
 | []=>0
 | x :: xs=>ym x+gy xs
end
mutual
theorem gz {P:MI} {w:MH}:∀ (d:MB) (A:MJ) (s:ME) (v:MD) (as:MS) (E:MD->ME->Prop) (Q:Int->ME->Prop),Reads s.heap v d as->zA d=MC->A.units+4 * d.depth<IZ ->
  Q (zy w d) { s with toks:=s.toks+ym d }->HP (model P w) A (pyHash v) Q E s
 | .int i,A,s,_,_,E,Q,r,_,_,q=>by
  cases r;rw [zy,ym] at q;exact wpAny_pyHash_int q
 | .str x,A,s,_,_,E,Q,r,_,_,q=>by
  cases r;rw [zy,ym] at q;exact wpAny_pyHash_str q
 | .tuple xs,A,s,_,_,E,Q,r,p,hu,q=>by
  cases r with
  | @tuple a o vs n _ as h1 h2 h3 h4 =>
   rw [zA] at p;rw [zy,ym] at q;have hT:s.TypeIs (.ref a) "tuple":=⟨o,h1,h2⟩;have e1:(PyData.tuple xs).depth=Hy xs+1:=rfl;rw [e1] at hu;show HP _ A (pyHashByItsType (.ref a)) Q E s;unfold pyHashByItsType;apply Hf;apply wpAny_cRoomFor_or (.inr (by omega));apply Hf;apply Ki hT JD.lookup;show HP _ _ (if (MA (Value.builtin "tuple.__hash__") == MA Value.none)=MC then _ else _) Q E s;rw [Mv (by rw [beq_builtin_none];exact He)];apply Hf;apply Ki hT JD.lookup;show HP _ _ (callSpecialIfBoundUnlessNone? (.ref a) "__hash__" _ >>= _) Q E s;apply Hf;refine wpAny_callSpecialIfBoundUnlessNone?_slot hT JD (wpAny_call_entry JD hT PySem.F.entry_tuple_hash ?_ (PySem.F.args_tuple_hash_1 _));show HP _ _ (Builtin.Tuple.tupleItemsOf (.ref a) >>= _) _ _ s;apply Hf;apply wpAny_tupleItemsOf h1 h3;apply Hf;rw [<-JK];have hu1:A.in1.units=A.units+1:=rfl;refine gC xs A.in1 s vs.toList _ #[] _ _ h4 p (by omega) ?_;simp only [IX,L1];show HP _ _ (retInt (JP (#[]++(aN w xs).toArray).toList)) _ _ _;rw [show (#[]++(aN w xs).toArray:Array Int).toList=aN w xs by simp];refine wpAny_ret_mkInt ?_;show HP _ _ (pyHashByItsType.reduced _) Q E _;unfold reduceHash at q;unfold pyHashByItsType.reduced;by_cases hr:(decide (-(2:Int) ^ 63<=JP (aN w xs)) && decide (JP (aN w xs)<2 ^ 63))=MC
   ·rw [Mw hr] at q ⊢;exact Hs (by simpa [LA] using q)
   ·rw [Mv hr] at q ⊢;exact Hf (wpAny_rule (Hs (by simpa [LA] using q)))
 | .none,_,_,_,_,_,_,_,h,_,_=>by cases h
 | .bool _,_,_,_,_,_,_,_,h,_,_=>by cases h
 | .list _,_,_,_,_,_,_,_,h,_,_=>by cases h
 | .dict _,_,_,_,_,_,_,_,h,_,_=>by cases h
theorem gC {P:MI} {w:MH}:∀ (xs:M9) (A:MJ) (s:ME) (vs:MQ) (as:MS) (acc:Array Int) (E:MD->ME->Prop) (Q:Array Int->ME->Prop),ReadsAll s.heap vs xs as->zN xs=MC->A.units+4 * Hy xs<IZ ->
  Q (acc++(aN w xs).toArray) { s with toks:=s.toks+gy xs }->HP (model P w) A (forIn vs acc λx r=>do
   let h <- pyHash x
   pure (ForInStep.yield (r.push h))) Q E s
 | [],A,s,_,_,acc,E,Q,r,_,_,q=>by
  cases r;rw [Kq];rw [aN,gy] at q;exact Hs (by simpa using q)
 | x :: xs,A,s,_,_,acc,E,Q,r,p,hu,q=>by
  cases r with
  | cons r1 r2 =>
   rw [zN,Hq] at p;rw [aN,gy] at q;have e1:Hy (x :: xs)=max x.depth (Hy xs):=rfl;rw [e1] at hu;rw [Kg];apply Hf;apply Hf;refine gz x A s _ _ _ _ r1 p.1 (by omega) (Hs ?_);refine gC xs A { s with toks:=s.toks+ym x } _ _ _ _ _ r2 p.2 (by omega) ?_;have e2:acc.push (zy w x)++(aN w xs).toArray=acc++(zy w x :: aN w xs).toArray:=by simp
   rw [e2];rw [<-LA] at q;exact q
end
mutual
theorem vo {P:MI} {w:MH}:∀ (d:MB) (n:Nat) (A:MJ) (s:ME) (v:MD) (as:MS) (E:MD->ME->Prop) (Q:Bool->ME->Prop),Reads s.heap v d as->zA d=MC->d.depth<=n->Q MC s->HP (model P w) A (eqIsQuiet n v) Q E s
 | .int i,n,A,s,_,_,E,Q,r,_,_,q=>by
  cases r;rw [eqIsQuiet_byValue n rfl];exact Hs q
 | .str x,n,A,s,_,_,E,Q,r,_,_,q=>by
  cases r;rw [eqIsQuiet_byValue n rfl];exact Hs q
 | .tuple xs,n,A,s,_,_,E,Q,r,p,hn,q=>by
  cases r with
  | @tuple a o vs n' _ as h1 h2 h3 h4 =>
   rw [zA] at p;have e1:(PyData.tuple xs).depth=Hy xs+1:=rfl;rw [e1] at hn;obtain⟨m,rfl⟩:∃ m,n=m+1:=⟨n - 1,by omega⟩;have hT:s.TypeIs (.ref a) "tuple":=⟨o,h1,h2⟩;unfold eqIsQuiet;apply Hf;apply Ki hT PySem.F.slot_tuple_eq.lookup;show HP _ _ (isInstance (.ref a) (.type "tuple") >>= _) _ _ s;apply Hf;apply wpAny_isInstance hT isSubtype_tuple_tuple;simp only [II,Iu,if_false];apply Hf;apply wpAny_seqItems h1 h3;apply Hf;show HP _ _ (forIn vs _ _) _ _ s;rw [<-JK];exact eG xs m A s _ _ _ _ h4 p (by omega) (Hs q)
 | .none,_,_,_,_,_,_,_,_,h,_,_=>by cases h
 | .bool _,_,_,_,_,_,_,_,_,h,_,_=>by cases h
 | .list _,_,_,_,_,_,_,_,_,h,_,_=>by cases h
 | .dict _,_,_,_,_,_,_,_,_,h,_,_=>by cases h
theorem eG {P:MI} {w:MH}:∀ (xs:M9) (m:Nat) (A:MJ) (s:ME) (vs:MQ) (as:MS) (E:MD->ME->Prop) (Q:Na×Unit->ME->Prop),ReadsAll s.heap vs xs as->zN xs=MC->Hy xs<=m->Q (MF,()) s ->
  HP (model P w) A (forIn vs ((MF,()):Na×Unit) λy _=>do
   let b <- eqIsQuiet m y
   if (!b)=MC then pure (ForInStep.done (MA MG,())) else pure (ForInStep.yield (MF,()))) Q E s
 | [],m,A,s,_,_,E,Q,r,_,_,q=>by
  cases r;rw [Kq];exact Hs q
 | x :: xs,m,A,s,_,_,E,Q,r,p,hn,q=>by
  cases r with
  | cons r1 r2 =>
   rw [zN,Hq] at p;have e1:Hy (x :: xs)=max x.depth (Hy xs):=rfl;rw [e1] at hn;rw [Kg];apply Hf;apply Hf;refine vo x m A s _ _ _ _ r1 p.1 (by omega) ?_;simp only [II,Iu,if_false];exact Hs (eG xs m A s _ _ _ _ r2 p.2 (by omega) q)
end
mutual
theorem dR {P:MI} {w:MH}:∀ (d:MB) (n:Nat) (A:MJ) (s:ME) (v:MD) (as:MS) (E:MD->ME->Prop) (Q:Bool->ME->Prop),Reads s.heap v d as->zA d=MC->d.depth<=n->Q MG s->HP (model P w) A (ofAClassStatement n v) Q E s
 | .int i,n,A,s,_,_,E,Q,r,_,_,q=>by
  cases r;unfold ofAClassStatement;exact Hs q
 | .str x,n,A,s,_,_,E,Q,r,_,_,q=>by
  cases r;unfold ofAClassStatement;exact Hs q
 | .tuple xs,n,A,s,_,_,E,Q,r,p,hn,q=>by
  cases r with
  | @tuple a o vs n' _ as h1 h2 h3 h4 =>
   rw [zA] at p;have e1:(PyData.tuple xs).depth=Hy xs+1:=rfl;rw [e1] at hn;obtain⟨m,rfl⟩:∃ m,n=m+1:=⟨n - 1,by omega⟩;have hT:s.TypeIs (.ref a) "tuple":=⟨o,h1,h2⟩;unfold ofAClassStatement;apply Hf;apply wpAny_typeOf hT;dsimp only;rw [Mw (show ("tuple" == "tuple")=MC from rfl)];apply Hf;apply Hs;simp only [II,Iu,if_false];apply Hf;apply wpAny_seqItems h1 h3;dsimp only;apply Hf;rw [<-JK];exact iM xs m A s _ _ _ _ h4 p (by omega) (Hs q)
 | .none,_,_,_,_,_,_,_,_,h,_,_=>by cases h
 | .bool _,_,_,_,_,_,_,_,_,h,_,_=>by cases h
 | .list _,_,_,_,_,_,_,_,_,h,_,_=>by cases h
 | .dict _,_,_,_,_,_,_,_,_,h,_,_=>by cases h
theorem iM {P:MI} {w:MH}:∀ (xs:M9) (m:Nat) (A:MJ) (s:ME) (vs:MQ) (as:MS) (E:MD->ME->Prop) (Q:Na×Unit->ME->Prop),ReadsAll s.heap vs xs as->zN xs=MC->Hy xs<=m->Q (MF,()) s ->
  HP (model P w) A (forIn vs ((MF,()):Na×Unit) λy _=>do
   let b <- ofAClassStatement m y
   if b=MC then pure (ForInStep.done (MA MC,())) else pure (ForInStep.yield (MF,()))) Q E s
 | [],m,A,s,_,_,E,Q,r,_,_,q=>by
  cases r;rw [Kq];exact Hs q
 | x :: xs,m,A,s,_,_,E,Q,r,p,hn,q=>by
  cases r with
  | cons r1 r2 =>
   rw [zN,Hq] at p;have e1:Hy (x :: xs)=max x.depth (Hy xs):=rfl;rw [e1] at hn;rw [Kg];apply Hf;apply Hf;refine dR x m A s _ _ _ _ r1 p.1 (by omega) ?_;simp only [Iu,if_false];exact Hs (iM xs m A s _ _ _ _ r2 p.2 (by omega) q)
end
mutual
theorem eH {P:MI} {w:MH}:∀ (d:MB) (n:Nat) (A:MJ) (s:ME) (v:MD) (as:MS) (E:MD->ME->Prop) (Q:Bool->ME->Prop),Reads s.heap v d as->zA d=MC->(∀ b,Q b s)->HP (model P w) A (hashByValue n v) Q E s
 | .int i,n,A,s,_,_,E,Q,r,_,q=>by
  cases r;unfold hashByValue;exact Hs (q _)
 | .str x,n,A,s,_,_,E,Q,r,_,q=>by
  cases r;unfold hashByValue;exact Hs (q _)
 | .tuple xs,n,A,s,_,_,E,Q,r,p,q=>by
  cases r with
  | @tuple a o vs n' _ as h1 h2 h3 h4 =>
   rw [zA] at p;have hT:s.TypeIs (.ref a) "tuple":=⟨o,h1,h2⟩;cases n with
   | zero =>
    unfold hashByValue;exact Hs (q _)
   | succ m =>
    unfold hashByValue;apply Hf;apply Ki hT JD.lookup;show HP _ _ (seqItems? (.ref a) >>= _) _ _ s;apply Hf;apply wpAny_seqItems h1 h3;apply Hf;show HP _ _ (forIn vs _ _) _ _ s;rw [<-JK];exact eI xs m A s _ _ _ _ h4 p (Hs (q _)) λb=>Hs (q b)
 | .none,_,_,_,_,_,_,_,_,h,_=>by cases h
 | .bool _,_,_,_,_,_,_,_,_,h,_=>by cases h
 | .list _,_,_,_,_,_,_,_,_,h,_=>by cases h
 | .dict _,_,_,_,_,_,_,_,_,h,_=>by cases h
theorem eI {P:MI} {w:MH}:∀ (xs:M9) (m:Nat) (A:MJ) (s:ME) (vs:MQ) (as:MS) (E:MD->ME->Prop) (Q:Na×Unit->ME->Prop),ReadsAll s.heap vs xs as->zN xs=MC->Q (MF,()) s->(∀ b,Q (MA b,()) s) ->
  HP (model P w) A (forIn vs ((MF,()):Na×Unit) λy _=>do
   let b <- hashByValue m y
   if (!b)=MC then pure (ForInStep.done (MA MG,())) else pure (ForInStep.yield (MF,()))) Q E s
 | [],m,A,s,_,_,E,Q,r,_,q,_=>by
  cases r;rw [Kq];exact Hs q
 | x :: xs,m,A,s,_,_,E,Q,r,p,q,q2=>by
  cases r with
  | cons r1 r2 =>
   rw [zN,Hq] at p;rw [Kg];apply Hf;apply Hf;refine eH x m A s _ _ _ _ r1 p.1 λb=>?_;cases b with
   | true =>
    simp only [II,Iu,if_false];exact Hs (eI xs m A s _ _ _ _ r2 p.2 q q2)
   | false =>
    simp only [KZ,if_true];exact Hs (Hs (q2 MG))
end
noncomputable instance decPy:DecidableEq MB:=λa b=>Jh _
structure KeyAt (h:Heap) (d:MB) (a:Hm):Prop where
 rd:∃ as,Reads h (.ref a) d as
 pl:zA d=MC
 dp:d.depth<=8
theorem KeyAt.keep {h h':Heap} {d:MB} {a:Hm} (x:KeyAt h d a) (k:∀ b o,h.get? b=MA o->(∀ es ep,o.data≠.dict es ep)->(∀ es ep t,o.data≠.set es ep t)->h'.get? b=MA o):KeyAt h' d a:=by
 obtain⟨⟨as,r⟩,p,q⟩:=x;refine⟨?_,p,q⟩;have go:(∀ (d:MB) (v:MD) (as:MS),Reads h v d as->zA d=MC->Reads h' v d as):=by
  intro d v as r;refine Reads.rec (motive_1:=λv d as _=>zA d=MC->Reads h' v d as) (motive_2:=λvs ds as _=>zN ds=MC->ReadsAll h' vs ds as) ?_ ?_ ?_ ?_ ?_ ?_ ?_ ?_ ?_ r
  ·intro p;cases p
  ·intro b p;cases p
  ·intro i t p;exact .int i t
  ·intro x t p;exact .str x t
  ·intro a o vs n xs as h1 h2 h3 h4 ih p;cases p
  ·intro a o vs n xs as h1 h2 h3 h4 ih p;rw [zA] at p;exact .tuple (k a o h1 (λes ep z=>by rw [h3] at z;cases z) (λes ep t z=>by rw [h3] at z;cases z)) h2 h3 (ih p)
  ·intros;rename_i p;cases p
  ·intro p;exact .nil
  ·intro v vs d ds as bs r rs ih1 ih2 p;rw [zN,Hq] at p;exact .cons (ih1 p.1) (ih2 p.2)
 exact⟨as,go d _ as r p⟩
noncomputable def fh (P:MI) (w:MH):HeapKind P w MB where
 is:=KeyAt
 hash:=zy w
 draws:=ym
 room:=λA=>A.units+40<IZ
 inj:=λ{h a x y} hx hy=>by
  obtain⟨⟨as,r⟩,p,_⟩:=hx;obtain⟨⟨bs,r'⟩,p',_⟩:=hy;exact SeqAt.Reads.unique _ _ _ _ _ (y4 x p) r r'
 keeps:=λ{h h' k a d o es ep} x ho hd sb=>x.keep λb u hb n1 n2=>by
  have:b≠d:=λz=>by
   rw [z,ho] at hb;cases hb;exact n1 es ep hd
  exact (sb.2 b this).trans hb
 pyHash:=λ{A E s k a Q} hu x q=>by
  obtain⟨⟨as,r⟩,p,hd⟩:=x;exact gz k A s _ as E Q r p (by omega) q
 eqBool:=λ{A E s x y a b Q} hu hx hy q=>by
  obtain⟨⟨as,r⟩,p,hd⟩:=hx;obtain⟨⟨bs,r'⟩,p',hd'⟩:=hy;refine SeqAt.eqAt_reads x y A s _ _ _ _ r r' (y4 x p) (y4 y p') (by omega) P w E Q ?_;have:HU x y=decide (x=y):=by
   by_cases e:x=y
   ·rw [Mx e];exact (fg p p').mpr e
   ·rw [Mz e];cases z:HU x y with
    | false=>rfl
    | true=>exact absurd ((fg p p').mp z) e
  rw [this];exact q
 quiet:=λ{A E s k a Q} x q=>by
  obtain⟨⟨as,r⟩,p,hd⟩:=x;exact vo k 8 A s _ as E Q r p hd q
end L2
end
section
namespace L2
open PySem PySem.Spec PyProof.Rows PySem.SetTable
section
variable {P:MI} {w:MH} {A:MJ} {E:MD->ME->Prop} {s:ME}
theorem Cc {b:Hm} {d:MB} {Q:Bool->ME->Prop} (kb:KeyAt s.heap d b):∀ l:MQ,(∀ y∈l,∃ d' b',y=.ref b'/\KeyAt s.heap d' b')->Q MG s->HP (model P w) A (searchCouldBeSeen (.ref b) l) Q E s:=by
 intro l hl q;unfold searchCouldBeSeen;apply Hf;refine wpAny_forIn_list _ (λrest r s'=>r=(MF,())/\s'=s/\∀ y∈rest,y∈l) _ ?_ ?_ _ _ ⟨rfl,rfl,λ_ h=>h⟩
 ·rintro y rest r s' ⟨rfl,rfl,hm⟩;obtain⟨d',b',rfl,kb'⟩:=hl y (hm y Hk);obtain⟨⟨as,rd⟩,pd,dd⟩:=id kb;obtain⟨⟨bs,rd'⟩,pd',dd'⟩:=id kb';have more:∀ z∈rest,z∈l:=λz hz=>hm z (Hl _ hz);dsimp only;split
  ·exact Hs ⟨rfl,rfl,more⟩
  ·apply Hf;refine vo d 8 A _ _ as _ _ rd pd dd ?_;simp only [II,Iu,if_false];apply Hf;refine vo d' 8 A _ _ bs _ _ rd' pd' dd' ?_;simp only [II,Iu,if_false];apply Hf;refine dR d 8 A _ _ as _ _ rd pd dd ?_;simp only [Iu,if_false];apply Hf;refine dR d' 8 A _ _ bs _ _ rd' pd' dd' ?_;simp only [Iu,if_false];exact Hs ⟨rfl,rfl,more⟩
 ·rintro r s' ⟨rfl,rfl,_⟩;exact Hs q
structure SetObj (w:MH) (h:Heap) (a:Hm) (xs:Nd) (o:Obj) (es:Array (Int×MD)) (ep:Nat) (t:SetTable):Prop where
 ob:h.get? a=MA o
 ex:o.ExactSet
 da:o.data=.set es ep t
 el:es.toList=xs.map λx=>(zy w x.1,Value.ref x.2)
 ok:ST.TOk t (xs.map λx=>zy w x.1)
theorem SetObj.size {h:Heap} {a:Hm} {xs:Nd} {o:Obj} {es:Array (Int×MD)} {ep:Nat} {t:SetTable} (x:SetObj w h a xs o es ep t):es.size=xs.length:=by
 rw [<-HF,x.el,Hc]
theorem SetObj.fits {h:Heap} {a:Hm} {xs:Nd} {o:Obj} {es:Array (Int×MD)} {ep:Nat} {t:SetTable} (x:SetObj w h a xs o es ep t):t.fits es.size=MC:=by
 unfold SetTable.fits Mq;have h1:=x.ok.size;have h2:=x.ok.most;rw [Hc] at h1 h2;rw [x.size,h1,x.ok.dum];simp;exact h2
theorem SetObj.at {h:Heap} {a:Hm} {xs:Nd} {o:Obj} {es:Array (Int×MD)} {ep:Nat} {t:SetTable} (x:SetObj w h a xs o es ep t) {i:Nat} (hi:i<xs.length):es[i]?=MA (zy w xs[i].1,Value.ref xs[i].2):=by
 rw [<-Jp,x.el,Ho,Hd hi];rfl
theorem Ai {t:SetTable} {hs:M4} (o:ST.TOk t hs):t.gaveWay=MG:=by
 unfold SetTable.gaveWay;rcases o.mask with e | e | e | e <;> rw [e] <;> rfl
theorem Aj {α:Type} {M:Model} {c:Bool} {m:Sem Bool} {u:Sem Unit} {r:Sem α} {Q:α->ME->Prop} (hr:HP M A r Q E s) (hm:∀ R:Bool->ME->Prop,R MG s->HP M A m R E s) :
  HP M A (if c=MC then (do
   let b <- m
   if b=MC then do
    u
    r
   else r) else r) Q E s:=by
 cases c with
 | false=>rw [Mv He];exact hr
 | true =>
  rw [Mw rfl];apply Hf;refine hm _ ?_;rw [Mv He];exact hr
theorem nu {M:Model} {a:Hm} {Q:Bool->ME->Prop} (q:Q MC s):HP M A (isSame (.ref a) (.ref a)) Q E s:=by
 unfold isSame;simp only [beq_self_eq_true];exact Hs q
theorem dS {a b:Hm} {d:MB} {xs:Nd} {o:Obj} {es:Array (Int×MD)} {ep:Nat} {t:SetTable} {adding:Bool} {Q:SetFound->ME->Prop} (S:SetObj w s.heap a xs o es ep t) (ks:∀ x∈xs,KeyAt s.heap x.1 x.2)
  (kb:KeyAt s.heap d b) (hu:A.units+40<IZ) {F:Nat} (hF:ST.First t (zy w d) F) (yes:d∈xs.map (·.1)->∀ r:M5,(adding=MG->r.isSome=MC)->Q (.there r) s) (no:d∉xs.map (·.1)->Q (.free (ST.pos t.mask (zy w d) F) MG) s) :
  ∀ f k stand,k<=F->F<k+f->stand.getD (t.probeStart (zy w d))=ST.road t.mask (zy w d) k ->
   (∀ q i,q<k->i<xs.length->ST.pos t.mask (zy w d) q=t.place.getD i 0->(xs.getD i (.none,0)).1≠d) ->
   HP (model P w) A (setSearchFrom a (.ref b) (zy w d) adding f stand) Q E s
 | 0,k,stand,h1,h2,_,_=>by omega
 | f+1,k,stand,h1,h2,hst,past=>by
  have sz:=S.ok.size;rw [Hc] at sz;have key:∀ g:Nat->Int,(∀ i,g i=(es[i]?.map (·.1)).getD 0) ->
    (t.probe g (zy w d) (ST.road t.mask (zy w d) k)=MA (.empty (ST.pos t.mask (zy w d) F) MF)/\∀ q i,k<=q->q<F->i<t.place.size->ST.pos t.mask (zy w d) q=t.place.getD i 0->g i≠zy w d) \/
    ∃ q i,k<=q/\q<F/\i<t.place.size/\ST.pos t.mask (zy w d) q=t.place.getD i 0/\g i=zy w d/\t.probe g (zy w d) (ST.road t.mask (zy w d) k)=MA (.candidate (ST.pos t.mask (zy w d) q) i (ST.road t.mask (zy w d) (q+1)))/\∀ q' i',k<=q'->q'<q->i'<t.place.size->ST.pos t.mask (zy w d) q'=t.place.getD i' 0->g i'≠zy w d :=
   λg _=>ST.probe_go S.ok.dum S.ok.rise hF (10 * turns t.mask) k h1 (by have:=hF.lt;omega)
  have gat:∀ i (hi:i<xs.length),(es[i]?.map (·.1)).getD 0=zy w xs[i].1:=λi hi=>by rw [S.at hi];rfl
  unfold setSearchFrom;apply Hf;refine wpAny_setState_of S.ob S.da S.fits ?_;dsimp only;rw [Ai S.ok,Mv He,hst];have reach:∀ i (hi:i<xs.length),xs[i].1=d->∃ q,q<F/\ST.pos t.mask (zy w d) q=t.place.getD i 0:=λi hi ed=>by
   obtain⟨q,a1,a2⟩:=S.ok.reach i (by rw [Hc];exact hi);have eh:(xs.map λx=>zy w x.1).getD i 0=zy w d:=by
    rw [Hn,Ho,Hd hi,<- ed];rfl
   rw [eh] at a1 a2;refine⟨q,?_,a1⟩;by_cases c:q<F
   ·exact c
   ·by_cases c2:q=F
    ·subst c2;exact absurd ⟨i,by omega,a1.symm⟩ hF.free
    ·exact absurd (a2 F (by omega)) hF.free
  have ggd:∀ i (hi:i<xs.length),xs.getD i (.none,0)=xs[i]:=λi hi=>by rw [Hn,Hd hi];rfl
  rcases key (λi=>(es[i]?.map (·.1)).getD 0) (λi=>rfl) with⟨e,none_⟩ | ⟨q,i,q1,q2,q3,q4,q5,e,none_⟩
  ·have ee:∀ g:Nat->Int,(∀ i,g i=(es[i]?.map (·.1)).getD 0)->t.probe g (zy w d) (ST.road t.mask (zy w d) k)=MA (.empty (ST.pos t.mask (zy w d) F) MF):=λg hg=>by
    rw [show g=λi=>(es[i]?.map (·.1)).getD 0 from funext hg];exact e
   rw [ee]
   rotate_left
   ·exact λi=>rfl
   dsimp only;refine Hs (no λhd=>?_);obtain⟨x,hx,ex⟩:=Hz.mp hd;obtain⟨i,hi,ei⟩:=J1 hx;have ed:xs[i].1=d:=by rw [ei];exact ex
   obtain⟨q,qF,qp⟩:=reach i hi ed;by_cases c:q<k
   ·exact past q i c hi qp (by rw [ggd i hi];exact ed)
   ·exact none_ q i (by omega) qF (by omega) qp (by rw [gat i hi,ed])
  ·have ee:∀ g:Nat->Int,(∀ i,g i=(es[i]?.map (·.1)).getD 0)->t.probe g (zy w d) (ST.road t.mask (zy w d) k)=MA (.candidate (ST.pos t.mask (zy w d) q) i (ST.road t.mask (zy w d) (q+1))):=λg hg=>by
    rw [show g=λi=>(es[i]?.map (·.1)).getD 0 from funext hg];exact e
   have hi:i<xs.length:=by omega
   have mi:xs[i]∈xs:=Io hi;have ki:=ks _ mi;rw [ee]
   rotate_left
   ·exact λi=>rfl
   dsimp only;refine Aj ?_ λR hR=>Cc kb _ (λy hy=>?_) hR
   rotate_left
   ·obtain⟨p,hp,rfl⟩:=Hz.mp hy;have hp2:p∈es.toList:=by
     have:=Kp.mp hp;exact Kp.mpr (Array.mem_filter.mp this).1
    rw [S.el] at hp2;obtain⟨x,hx,rfl⟩:=Hz.mp hp2;exact⟨x.1,x.2,rfl,ks x hx⟩
   rw [S.at hi];dsimp only;apply Hf;apply Ik;refine (fh P w).eqBool (A:=A) hu ki kb ?_;apply Hf;refine wpAny_setState_of S.ob S.da S.fits ?_;dsimp only;have same:t.sameMemory t.moves t.mask=MA MC:=by
    unfold SetTable.sameMemory;rw [Mw (beq_self_eq_true _)]
   have live:t.slot (ST.pos t.mask (zy w d) q)=.live i:=by rw [q4];exact ST.slot_live S.ok.rise q3
   by_cases ed:xs[i].1=d
   ·have y2:=yes (Hz.mpr ⟨_,mi,ed⟩);rw [Mx ed];cases adding with
    | true=>exact Hs (y2 _ λz=>nomatch z)
    | false =>
     rw [Ko,Mv He,same];dsimp only;rw [Mw rfl,live];dsimp only;rw [S.at hi];dsimp only;apply Hf;refine nu ?_;apply Hf;apply Hs;rw [Mw rfl];dsimp only;rw [Mw rfl];exact Hs (y2 _ λ_=>rfl)
   ·rw [Mz ed,Me,Mv He,same];dsimp only;rw [Mw rfl,live];dsimp only;rw [S.at hi];dsimp only;apply Hf;refine nu ?_;apply Hf;apply Hs;rw [Mw rfl];dsimp only;rw [Mv He];refine dS S ks kb hu hF yes no f (q+1) _ (by omega) (by omega) rfl λq' i' c1 c2 c3=>?_;rw [ggd i' c2];intro z;by_cases c4:q'<k
    ·exact past q' i' c4 c2 c3 (by rw [ggd i' c2];exact z)
    ·by_cases c5:q'=q
     ·subst c5;have ii:i'=i:=by
       have b1:=ST.below_at S.ok.rise (i:=i) (by omega);have b2:=ST.below_at S.ok.rise (i:=i') (by omega);rw [<-q4] at b1;rw [<-c3] at b2;omega
      subst ii;exact ed z
     ·exact none_ q' i' (by omega) (by omega) (by omega) c3 (by rw [gat i' c2,z])
end
end L2
end
section
namespace L2
open PySem PySem.Spec PyProof.Rows PySem.SetTable
section
variable {P:MI} {w:MH} {A:MJ} {E:MD->ME->Prop} {s:ME} {a b:Hm} {d:MB} {xs:Nd} {o:Obj} {es:Array (Int×MD)} {ep:Nat} {t:SetTable}
theorem SetObj.type (S:SetObj w s.heap a xs o es ep t):s.TypeIs (.ref a) "set":=⟨o,S.ob,S.ex.1⟩
theorem tK (b:Hm) (es:Array (Int×MD)):byScan (.ref b) es=MG:=rfl
theorem nz {Q:Bool->ME->Prop} (S:SetObj w s.heap a xs o es ep t) (ks:∀ x∈xs,KeyAt s.heap x.1 x.2) (kb:KeyAt s.heap d b) (hu:A.units+60<IZ) (q:Q (decide (d∈xs.map (·.1))) { s with toks:=s.toks+ym d }) :
  HP (model P w) A (contains (.ref a) (.ref b)) Q E s:=by
 obtain⟨F,hF⟩:=ST.first_of S.ok.toTB (zy w d);have hl:=hF.lt;have ht:turns t.mask<=526:=by
  unfold turns;rcases S.ok.mask with e | e | e | e <;> omega
 unfold contains
 try with_reducible refine Ik ?_
 apply Hf;apply Ki S.type Kw.lookup;show HP _ _ (if (MA (Value.builtin "set.__contains__") == MA Value.none)=MC then _ else _) _ E s;rw [Mv (by rw [beq_builtin_none];exact He)];apply Hf;refine wpAny_callSpecialUnlessNone?_slot (name:=JV "__contains__") S.type Kw (wpAny_call_entry Kw S.type entry_set_contains ?_ (PySem.F.args_set_contains_2 _ _));unfold Builtin.«frozenset.__contains__» Lk;simp only [List.isEmpty_nil,bind_assoc];unfold LB Builtin.Frozenset.withSetAsKey setContains;apply Hf;apply Hs;dsimp only;apply Hf;apply Hs;dsimp only;apply Hf;apply wpAny_tryCatch;apply Ik;apply Hf;have hu1:A.in1.units=A.units+1:=rfl;have hu2:A.in1.in1.units=A.units+1+1:=rfl;refine (fh P w).pyHash (by show _+40<IZ;omega) kb ?_;apply Hf;unfold setFind setFindIn;apply Hf;refine wpAny_setState_of (s:={ s with toks:=s.toks+ym d }) S.ob S.da S.fits ?_;dsimp only;rw [tK,Mv He];apply Hf;unfold setSearch;have fin:∀ r:M5,r.isSome=decide (d∈xs.map (·.1))->∀ R:MD->ME->Prop,R (.bool (decide (d∈xs.map (·.1)))) { s with toks:=s.toks+ym d }->R (.bool r.isSome) { s with toks:=s.toks+ym d }:=λr e R hR=>by rw [e];exact hR
 refine dS (s:={ s with toks:=s.toks+ym d }) (adding:=MG) S ks kb (by omega) hF (λhd r hr=>?_) (λhd=>?_) 100000 0 MF (HR _) (by omega) (ST.road_start t _) (λq i c=>by omega)
 ·refine Hs (Hs ?_);show HP _ _ (ret (Value.bool r.isSome)) _ _ _;rw [hr rfl];rw [Mx hd] at q;exact Hs ⟨_,rfl,Jo q⟩
 ·refine Hs (Hs ?_);show HP _ _ (ret (Value.bool MG)) _ _ _;rw [Mz hd] at q;exact Hs ⟨_,rfl,Jo q⟩
noncomputable def tL (es:Array (Int×MD)) (laid:Option (SetTable×Array Nat)):Sem (Array (Int×MD)×SetTable):=do
 let MA (t,order):=laid | unsupported "internal:set-table-without-room"
 let es':=order.filterMap (es[·]?)
 if es'.size != es.size then unsupported "internal:set-table-lost-an-element"
 pure (es',t)
theorem Ak (a:Hm) (wanted:Nat):setRelay a wanted=(do
  let (es,_,t) <- setState a
  if Ll wanted > Ir then unsupported "set:memory"
  let (es,t) <- tL es (t.relaid (es.map (·.1)) wanted)
  storeSet a es t):=rfl
theorem bZ {α:Type} (es:Array α):∀ l:M8,(∀ i∈l,i<es.size)->∀ dflt:α,l.filterMap (λi=>es[i]?)=l.map λi=>es.toList.getD i dflt
 | [],_,_=>rfl
 | i :: l,h,dflt=>by
  have hi:=h i Hk;rw [Ky,Ja hi,HI,bZ es l (λj hj=>h j (Hl _ hj)) dflt];simp [hi]
theorem Al {Q:Unit->ME->Prop} {mask wanted:Nat} (S0:s.heap.get? a=MA o) (ex:o.ExactSet) (da:o.data=.set es ep t) (el:es.toList=xs.map λx=>(zy w x.1,Value.ref x.2)) (tb:ST.TB t (xs.map λx=>zy w x.1)) (mk:mask=31 \/ mask=127 \/ mask=511) (hw:Ll wanted=mask+1)
  (room:xs.length * 5<mask * 3) (q:∀ xs' o' es' ep' t' h',xs'.Perm xs->JS a s.heap h'->SetObj w h' a xs' o' es' ep' t'->Q () { s with heap:=h' }):HP (model P w) A (setRelay a wanted) Q E s:=by
 have sz:es.size=xs.length:=by rw [<-HF,el,Hc]
 have fits:t.fits es.size=MC:=by
  unfold SetTable.fits Mq;have h1:=tb.size;have h2:=tb.most;rw [Hc] at h1 h2;rw [sz,h1,tb.dum];simp;exact h2
 have mk2:mask=7 \/ mask=31 \/ mask=127 \/ mask=511:=.inr mk;obtain⟨t2,ord,e1,e2,_,_,pm,tb2⟩:=ST.laid_ok mk2 (es.map (·.1)) (by rw [Mc,sz];omega) t.finger (t.movedTo mask) t.led t.plain;rw [Mc] at pm;have hlt:∀ i∈ord.toList,i<es.size:=λi hi=>Ia.mp (pm.mem_iff.mp hi)
 let xs':=ord.toList.map λi=>xs.getD i (.none,0)
 have px:xs'.Perm xs:=by
  have e:(HN es.size).map (λi=>xs.getD i (.none,0))=xs:=by
   rw [sz];refine JT λi=>?_;rw [Ho];by_cases hi:i<xs.length
   ·rw [Jm hi,Hd hi];simp [hi]
   ·rw [Ib (by simp;omega),Ib (by omega)];rfl
  have:=pm.map λi=>xs.getD i (.none,0);rw [e] at this;exact this
 have ee:(ord.filterMap (es[·]?)).toList=xs'.map λx=>(zy w x.1,Value.ref x.2):=by
  rw [Array.toList_filterMap,bZ es ord.toList hlt (0,Value.none),Iw];refine J0 λi hi=>?_;have h2:=hlt i hi;have h3:i<xs.length:=by omega
  rw [el,Hn,Ho,Hd h3];show _=(zy w (xs.getD i (.none,0)).1,Value.ref (xs.getD i (.none,0)).2);rw [Hn,Hd h3];rfl
 have es_sz:(ord.filterMap (es[·]?)).size=es.size:=by
  rw [<-HF,ee,Hc,px.length_eq,sz]
 have tok:ST.TOk t2 (xs'.map λx=>zy w x.1):=by
  have eh:(ord.toList.map λi=>(es.map (·.1)).toList.getD i 0)=xs'.map λx=>zy w x.1:=by
   rw [Iw];refine J0 λi hi=>?_;have h3:i<xs.length:=by have:=hlt i hi;omega
   rw [Array.toList_map,el,Iw,Hn,Ho,Hd h3];show zy w xs[i].1=zy w (xs.getD i (.none,0)).1;rw [Hn,Hd h3];rfl
  rw [eh] at tb2;refine⟨tb2,?_⟩;rw [Hc,px.length_eq,e2];exact room
 rw [Ak];apply Hf;refine wpAny_setState_of S0 da fits ?_;dsimp only;rw [hw,Mv (by rw [sizeLine_eq];omega)];have e1':t.relaid (es.map (·.1)) wanted=MA (t2,ord):=by
  unfold SetTable.relaid;rw [hw];exact e1
 unfold tL;rw [e1'];apply Hf;dsimp only;rw [es_sz,bne_self_eq_false,Mv He];apply Hs;dsimp only;refine wpAny_storeSet_of S0 da ?_ (by rw [es_sz,sz,sizeLine_eq];omega);refine q xs' { o with data:=.set (ord.filterMap (es[·]?)) (ep+1) t2 } (ord.filterMap (es[·]?)) (ep+1) t2 _ px (J2 _ _ _) ⟨?_,ex,rfl,ee,tok⟩;have:=Kk (LR (ord.filterMap (es[·]?)) t2) S0 (by rw [putSet_of _ _ da];rfl);rw [putSet_of _ _ da] at this;exact this
theorem Am {t:SetTable} {hs:M4} {p:Bool} (x:ST.TB t hs):ST.TB { t with plain:=p } hs:=⟨x.mask,x.dum,x.rise,x.le,x.size,x.most,x.reach⟩
theorem Cd {Q:ME->Prop} (S:SetObj w s.heap a xs o es ep t) (ks:∀ x∈xs,KeyAt s.heap x.1 x.2) (kb:KeyAt s.heap d b) (hu:A.units+59<IZ) (few:xs.length<300)
  (old:d∈xs.map (·.1)->Q { s with toks:=s.toks+ym d })
  (new:d∉xs.map (·.1)->∀ xs' o' es' ep' t' h',xs'.Perm ((d,b) :: xs)->JS a s.heap h'->SetObj w h' a xs' o' es' ep' t'->Q { s with heap:=h',toks:=s.toks+ym d }) :
  HP (model P w) A (setAdd a (.ref b)) (λ_ s'=>Q s') E s:=by
 obtain⟨F,hF⟩:=ST.first_of S.ok.toTB (zy w d);have hl:=hF.lt;have ht:turns t.mask<=526:=by
  unfold turns;rcases S.ok.mask with e | e | e | e <;> omega
 have room:=S.ok.room;rw [Hc] at room;unfold setAdd;apply Ik;apply Hf;refine (fh P w).pyHash (by show _+40<IZ;omega) kb ?_;show HP _ _ (setAddHashed a (.ref b) (zy w d)) _ _ _;unfold setAddHashed setAddHashedIn;apply Ik;apply Hf;refine wpAny_setState_of (s:={ s with toks:=s.toks+ym d }) S.ob S.da S.fits ?_;dsimp only;rw [tK,Mv He];apply Hf;unfold setSearch;refine dS (s:={ s with toks:=s.toks+ym d }) (adding:=MC) S ks kb (by omega) hF (λhd r _=>?_) (λhd=>?_) 100000 0 MF (HR _) (by omega) (ST.road_start t _) (λq i c=>by omega)
 ·exact Hs (old hd)
 ·dsimp only;apply Hf;refine wpAny_setState_of (s:={ s with toks:=s.toks+ym d }) S.ob S.da S.fits ?_;dsimp only;obtain⟨hp,tb⟩:=ST.put_tb S.ok.toTB hF (by rw [Hc];rcases S.ok.mask with e | e | e | e <;> rw [e] at room ⊢ <;> omega);rw [Hc] at hp;have ep2:(t.put (ST.pos t.mask (zy w d) F)).2=below t.place (ST.pos t.mask (zy w d) F):=rfl;rw [ep2];generalize below t.place (ST.pos t.mask (zy w d) F)=p at *;have pm:(xs.take p++(d,b) :: xs.drop p).Perm ((d,b) :: xs):=by
   refine List.perm_middle.trans ?_;rw [Kl]
  have el:(insertAt es p (zy w d,Value.ref b)).toList=(xs.take p++(d,b) :: xs.drop p).map λx=>(zy w x.1,Value.ref x.2):=by
   rw [KI,S.el,HH,HI,List.map_take,List.map_drop]
  have eh:(xs.map λx=>zy w x.1).take p++zy w d :: (xs.map λx=>zy w x.1).drop p=(xs.take p++(d,b) :: xs.drop p).map λx=>zy w x.1:=by
   rw [HH,HI,List.map_take,List.map_drop]
  rw [eh] at tb;have ln:(xs.take p++(d,b) :: xs.drop p).length=xs.length+1:=by rw [pm.length_eq];rfl
  have sze:(insertAt es p (zy w d,Value.ref b)).size=xs.length+1:=by rw [<-HF,el,Hc,ln]
  have step:∀ bv:Bool,∀ t2,t2=(if bv=MC then (t.put (ST.pos t.mask (zy w d) F)).1 else { (t.put (ST.pos t.mask (zy w d) F)).1 with plain:=MG }) ->
    ST.TB t2 ((xs.take p++(d,b) :: xs.drop p).map λx=>zy w x.1)/\t2.mask=t.mask:=λbv t2 e=>by
   subst e;cases bv with
   | true=>exact⟨tb,rfl⟩
   | false=>exact⟨Am tb,rfl⟩
  have tail:∀ bv:Bool,HP (model P w) A (do
    storeSet a (insertAt es p (zy w d,Value.ref b)) (if bv=MC then (t.put (ST.pos t.mask (zy w d) F)).1 else { (t.put (ST.pos t.mask (zy w d) F)).1 with plain:=MG })
    if (!false && (if bv=MC then (t.put (ST.pos t.mask (zy w d) F)).1 else { (t.put (ST.pos t.mask (zy w d) F)).1 with plain:=MG }).tooFull)=MC then do
     setRelay a (SetTable.grown (es.size+1))
     pure MC
    else pure MC) (λ_ s'=>Q s') E { s with toks:=s.toks+ym d }:=λbv=>by
   obtain⟨tb2,em⟩:=step bv _ rfl;generalize (if bv=MC then (t.put (ST.pos t.mask (zy w d) F)).1 else { (t.put (ST.pos t.mask (zy w d) F)).1 with plain:=MG })=t2 at *;apply Hf;refine wpAny_storeSet_of (s:={ s with toks:=s.toks+ym d }) S.ob S.da ?_ (by rw [sze,sizeLine_eq];omega);have g:(s.heap.update a (LR (insertAt es p (zy w d,Value.ref b)) t2)).get? a=MA { o with data:=.set (insertAt es p (zy w d,Value.ref b)) (ep+1) t2 }:=by
    have:=Kk (LR (insertAt es p (zy w d,Value.ref b)) t2) S.ob (by rw [putSet_of _ _ S.da];rfl);rw [putSet_of _ _ S.da] at this;exact this
   have sb:=J2 s.heap a (LR (insertAt es p (zy w d,Value.ref b)) t2);have fill:t2.tooFull=decide ((xs.length+1) * 5 >= t.mask * 3):=by
    unfold SetTable.tooFull Mq;have h1:=tb2.size;rw [Hc,ln] at h1;rw [h1,tb2.dum,em];rfl
   rw [KZ,Kj,fill];by_cases full:(xs.length+1) * 5 >= t.mask * 3
   ·rw [Mw (Mx full),S.size];have:∃ mask,(mask=31 \/ mask=127 \/ mask=511)/\Ll (SetTable.grown (xs.length+1))=mask+1/\(xs.length+1) * 5<mask * 3:=by
     rcases S.ok.mask with e | e | e | e
     ·rw [e] at room full;have:xs.length=4:=by omega
      rw [this];exact⟨31,.inl rfl,by decide,by decide⟩
     ·rw [e] at room full;have:xs.length=18:=by omega
      rw [this];exact⟨127,.inr (.inl rfl),by decide,by decide⟩
     ·rw [e] at room full;have:xs.length=76:=by omega
      rw [this];exact⟨511,.inr (.inr rfl),by decide,by decide⟩
     ·rw [e] at room full;omega
    obtain⟨mask,mk,hw,rm⟩:=this;apply Hf;refine Al (s:={ s with heap:=s.heap.update a (LR (insertAt es p (zy w d,Value.ref b)) t2),toks:=s.toks+ym d }) (o:={ o with data:=.set (insertAt es p (zy w d,Value.ref b)) (ep+1) t2 }) g S.ex rfl el tb2 mk hw (by rw [ln];exact rm) λxs' o' es' ep' t' h' px sb' S'=>Hs ?_;exact new hd xs' o' es' ep' t' h' (px.trans pm) (sb.trans sb') S'
   ·rw [Mv (by rw [Mz full];exact He)];refine Hs (new hd _ _ _ _ _ _ pm sb ⟨g,S.ex,rfl,el,⟨tb2,?_⟩⟩);rw [Hc,ln,em];omega
  obtain⟨as,rd⟩:=kb.rd;split
  ·apply Hf;exact eH d 8 _ { s with toks:=s.toks+ym d } _ as _ _ rd kb.pl λbv=>tail bv
  ·apply Hf;apply Hs;exact tail MC
theorem EV {Q:MD->ME->Prop} (S:SetObj w s.heap a xs o es ep t) (ks:∀ x∈xs,KeyAt s.heap x.1 x.2) (kb:KeyAt s.heap d b) (hu:A.units+60<IZ) (few:xs.length<300)
  (old:d∈xs.map (·.1)->Q .none { s with toks:=s.toks+ym d })
  (new:d∉xs.map (·.1)->∀ xs' o' es' ep' t' h',xs'.Perm ((d,b) :: xs)->JS a s.heap h'->SetObj w h' a xs' o' es' ep' t'->Q .none { s with heap:=h',toks:=s.toks+ym d }) :
  HP (model P w) A (call (.builtin "set.add") [.ref a,.ref b]) Q E s:=by
 refine wpAny_call_entry K7 S.type PySem.F.entry_set_add ?_ (PySem.F.args_set_add_2 _ _);unfold Builtin.«set.add» Lk;simp only [List.isEmpty_nil,bind_assoc];unfold LB;apply Hf;apply Hs
 try dsimp only
 apply Hf;apply Hs
 try dsimp only
 apply Hf;have hu1:A.in1.units=A.units+1:=rfl;refine Cd (Q:=λs'=>HP (model P w) A.in1 (ret Value.none) (λfin s'=>∃ r,fin=.done (.ret r)/\Q r s') E s') S ks kb (by omega) few (λhd=>Hs ⟨_,rfl,old hd⟩) λhd xs' o' es' ep' t' h' p1 p2 p3=>Hs ⟨_,rfl,new hd xs' o' es' ep' t' h' p1 p2 p3⟩
end
inductive OC where
 | lst (es:M9)
 | set (ks:M9)
 | dic (kvs:Nf)
 | gen (φ:Hp->HO->Prop)
noncomputable def SetO (w:MH) (a:Hm) (xs:Nd):HO:=.ext λh=>∃ o es ep t,SetObj w h a xs o es ep t
structure DicObj (w:MH) (h:Heap) (a:Hm) (xs:Ng) (o:Obj) (es:Array DictEntry) (ep:Nat):Prop where
 ob:h.get? a=MA o
 ex:o.ExactDict
 da:o.data=.dict es ep
 el:es.toList=xs.map λx=>(⟨zy w x.1,.ref x.2.1,x.2.2⟩:DictEntry)
 nd:(xs.map (·.1)).Nodup
 ns:(a == sysModules)=MG
noncomputable def DicO (w:MH) (a:Hm) (xs:Ng):HO:=.ext λh=>∃ o es ep,DicObj w h a xs o es ep
def cx (d:MB):Prop:=zA d=MC/\d.depth<=8
def EntR (K:Hj) (Hh:Hp) (x:MB×Hm×MD) (p:MB×MB):Prop:=x.1=p.1/\cx x.1/\Rep K Hh x.1 (.ref x.2.1)/\∃ v,Rep K Hh p.2 v/\RelV v x.2.2
theorem EntR.mono {K:Hj} {Hh Hh':Hp} (s:Same Hh Hh'):∀ {xs:Ng} {kvs:Nf},Paired (EntR K Hh) xs kvs->Paired (EntR K Hh') xs kvs
 | _,_,.nil=>.nil
 | _,_,.cons ⟨h1,h2,h3,v,h4,h5⟩ t=>.cons ⟨h1,h2,Rep.mono s _ _ h3,v,Rep.mono s _ _ h4,h5⟩ (EntR.mono s t)
def OwnAt (w:MH) (K:Hj) (Hh H:Hp) (D:Hm):OC->Prop
 | .lst es=>∃ vs,H D=MA (.lst vs)/\Reps K Hh es vs
 | .set ks=>∃ xs:Nd,H D=MA (SetO w D xs)/\(∀ x∈xs,cx x.1/\Rep K Hh x.1 (.ref x.2))/\(∀ d,d∈xs.map (·.1)↔d∈ks)/\xs.length<=ks.length
 | .dic kvs=>∃ xs:Ng,H D=MA (DicO w D xs)/\Paired (EntR K Hh) xs kvs
 | .gen φ=>∃ o,H D=MA o/\∀ Hx,Same Hh Hx->φ Hx o
theorem OwnAt.mono {w:MH} {K:Hj} {Hh Hh' H H':Hp} {D:Hm} (e:H' D=H D) (s:Same Hh Hh'):∀ {c:OC},OwnAt w K Hh H D c->OwnAt w K Hh' H' D c
 | .lst es,⟨vs,h1,h2⟩=>⟨vs,e.trans h1,Reps.mono s es vs h2⟩
 | .set ks,⟨xs,h1,h2,h3⟩=>⟨xs,e.trans h1,λx hx=>⟨(h2 x hx).1,Rep.mono s _ _ (h2 x hx).2⟩,h3⟩
 | .dic kvs,⟨xs,h1,h2⟩=>⟨xs,e.trans h1,EntR.mono s h2⟩
 | .gen φ,⟨o,h1,h2⟩=>⟨o,e.trans h1,λHx t=>h2 Hx (s.trans t)⟩
noncomputable def Fx.withs (f:Fx) (Ds:MS):Fx:={ f with M:=Ds.reverse++f.M }
theorem yP (f:Fx) (Ds:MS) (D:Hm):f.withs (Ds++[D])=(f.withs Ds).with D:=by
 unfold Fx.withs Fx.with;rw [JE];rfl
structure CM (w:MH) (K:Hj) (f:Fx) (Ds:MS) (H2:Hp) (ρ:zr) (cs:List OC) (σ:St) (H:Hp):Prop where
 env:EnvOk K (f.withs Ds) ρ σ H
 sm:Same (hide H2 (f.withs Ds)) (hide H (f.withs Ds))
 kp:∀ b∈f.M,H b=H2 b
 len:cs.length=Ds.length
 own:∀ (i:Nat) D c,Ds[i]?=MA D->cs[i]?=MA c->OwnAt w K (hide H (f.withs Ds)) H D c
structure Sep (f:Fx) (Ds:MS):Prop where
 nd:Ds.Nodup
 nf:∀ D∈Ds,f.f≠MA D
 nm:∀ D∈Ds,D∉f.M
section
variable {w:MH} {K:Hj} {f:Fx} {Ds:MS} {H H' H2:Hp} {ρ ρ2:zr} {cs:List OC} {σ σ2:St} {i:Nat} {D:Hm} {c:OC} {o:HO}
theorem qS (hD:D∈Ds):D∈(f.withs Ds).M:=HQ _ (JJ.mpr hD)
theorem yN (hD:D∈Ds):hide (upd H D o) (f.withs Ds)=hide H (f.withs Ds):=by
 funext b
 unfold hide;by_cases h:(f.withs Ds).f=MA b \/ b∈(f.withs Ds).M
 ·rw [Mw h,Mw h]
 ·rw [Mv h,Mv h,zz λ(z:b=D)=>h (.inr (z▸qS hD))]
theorem CM.go (x:CM w K f Ds H2 ρ cs σ H) (g:Goes (f.withs Ds) H H') (e2:EnvOk K (f.withs Ds) ρ2 σ2 H'):CM w K f Ds H2 ρ2 cs σ2 H' :=
 ⟨e2,x.sm.trans g.sm,λb hb=>(g.kp b (HJ _ hb)).trans (x.kp b hb),x.len,λi D c h1 h2=>(x.own i D c h1 h2).mono (g.kp D (qS (Hu h1))) g.sm⟩
theorem CM.self (x:CM w K f Ds H2 ρ cs σ H):CM w K f Ds H ρ cs σ H:=⟨x.env,Same.refl _,λ_ _=>rfl,x.len,x.own⟩
theorem CM.trans {cs':List OC} {ρ':zr} {σ':St} (x:CM w K f Ds H2 ρ cs σ H) (y:CM w K f Ds H ρ' cs' σ' H'):CM w K f Ds H2 ρ' cs' σ' H':=⟨y.env,x.sm.trans y.sm,λb hb=>(y.kp b hb).trans (x.kp b hb),y.len,y.own⟩
theorem Ce (se:Sep f Ds) (hD:D∈Ds) (h:FOk (f.withs Ds) H):FOk (f.withs Ds) (upd H D o) :=
 ⟨λp e=>let⟨a,b,h1,h2⟩:=h.fd p e;⟨a,b,by rw [zz (λ(z:p=D)=>se.nf D hD (z▸e))];exact h1,h2⟩,λb hb=>by
  by_cases e:b=D
  ·exact⟨o,by rw [e];exact zw⟩
  ·obtain⟨u,hu⟩:=h.mm b hb;exact⟨u,by rw [zz e];exact hu⟩,h.nm⟩
theorem Cf (se:Sep f Ds) (hD:D∈Ds) (e:EnvOk K (f.withs Ds) ρ σ H):EnvOk K (f.withs Ds) ρ σ (upd H D o) :=
 ⟨e.len,λi x h=>by
  obtain⟨v,h1,h2⟩:=e.get i x h;refine⟨v,h1,?_⟩;cases x with
  | dat d =>
   show Rep K (hide (upd H D o) (f.withs Ds)) d v;rw [yN hD];exact h2
  | feed=>exact h2
  | own k=>exact h2
  | exc C =>
   obtain⟨a,e1,q⟩:=h2;exact⟨a,e1,by rw [yN hD];exact q⟩
  | mon φ =>
   intro H' s;rw [yN hD] at s;exact h2 H' s,Ce se hD e.fd⟩
theorem CM.put {c':OC} (se:Sep f Ds) (x:CM w K f Ds H2 ρ cs σ H) (hi:Ds[i]?=MA D) (ho:OwnAt w K (hide H (f.withs Ds)) (upd H D o) D c'):CM w K f Ds H2 ρ (cs.set i c') σ (upd H D o):=by
 have hD:=Hu hi;refine⟨Cf se hD x.env,by rw [yN hD];exact x.sm,λb hb=>(zz (λ(z:b=D)=>se.nm D hD (z▸hb))).trans (x.kp b hb),by rw [KO];exact x.len,λj D' c h1 h2=>?_⟩;rw [yN hD];by_cases e:i=j
 ·subst e;rw [hi] at h1;cases h1;have hl:i<cs.length:=by rw [x.len];exact (Hg.mp hi).1
  rw [JF hl] at h2;cases h2;exact ho
 ·rw [Kn e] at h2;have ne:D'≠D:=λz=>by
   subst z;obtain⟨l1,e1⟩:=Hg.mp hi;obtain⟨l2,e2⟩:=Hg.mp h1;exact e ((K4 se.nd).mp (e1.trans e2.symm))
  exact (x.own j D' c h1 h2).mono (zz ne) (Same.refl _)
end
structure MEnds where
 nx:zr->List OC->Prop
 rt:MB->Prop
 bk:zr->List OC->Prop:=λ_ _=>False
 ct:zr->List OC->Prop:=λ_ _=>False
def PSm (w:MH) (K:Hj) (f:Fx) (Ds:MS) (ts:TS) (ρ:zr) (cs:List OC) (O:MEnds):Prop:=Sep f Ds->∀ (σ:St) (H H2:Hp) (E:Ends),CM w K f Ds H2 ρ cs σ H ->
 (∀ ρ' cs' σ' H',CM w K f Ds H2 ρ' cs' σ' H'->O.nx ρ' cs'->E.nx σ' H')->(∀ d v ρ' cs' σ' H',CM w K f Ds H2 ρ' cs' σ' H'->Rep K (hide H' f) d v->O.rt d->E.rt v H') ->
 (∀ ρ' cs' σ' H',CM w K f Ds H2 ρ' cs' σ' H'->O.bk ρ' cs'->E.bk σ' H')->(∀ ρ' cs' σ' H',CM w K f Ds H2 ρ' cs' σ' H'->O.ct ρ' cs'->E.ct σ' H')->ts E σ H
def PTm (w:MH) (K:Hj) (f:Fx) (Ds:MS) (tt:TT) (ρ:zr) (cs:List OC) (B:Bool->Prop):Prop:=Sep f Ds->∀ (σ:St) (H H2:Hp) (Q:Bool->Hp->Prop),CM w K f Ds H2 ρ cs σ H->(∀ b H',Goes (f.withs Ds) H H'->B b->Q b H')->tt σ H Q
def PEm (w:MH) (K:Hj) (f:Fx) (Ds:MS) (te:TE) (ρ:zr) (cs:List OC) (P:MB->Prop):Prop:=Sep f Ds->∀ (σ:St) (H H2:Hp) (Q:VK),CM w K f Ds H2 ρ cs σ H->(∀ d v H',Goes (f.withs Ds) H H'->Rep K (hide H' (f.withs Ds)) d v->P d->Q v H')->te σ H Q
def eW (w:MH) (K:Hj) (f:Fx) (te:TE) (ρ:zr) (P:OC->Prop):Prop:=∀ (σ:St) (H:Hp) (Q:VK),EnvOk K f ρ σ H ->
 (∀ c D H',Goes f H H'->H D=MF->OwnAt w K (hide H' (f.with D)) H' D c->P c->Q (.ref D) H')->te σ H Q
section
variable {w:MH} {K:Hj} {f:Fx} {Ds:MS} {ρ:zr} {cs:List OC} {ts tu:TS} {tt:TT} {te:TE} {wi:TI} {g:TG} {O:MEnds} {i j:Nat}
theorem yH {H:Hp}:Same (hide H (f.withs Ds)) (hide H f):=λb o h=>by
 obtain⟨h1,h2⟩:=zZ h;exact zI (λz=>h1 (z.elim .inl λz=>.inr (HJ _ z))) h2
theorem gD {D:DEnds} (h:PSm w K f [] ts ρ [] { nx:=λρ' _=>D.nx ρ',rt:=D.rt,bk:=λρ' _=>D.bk ρ',ct:=λρ' _=>D.ct ρ' }):PSd K f ts ρ D:=λσ H E e n r b k=>by
 have gg:∀ {ρ':zr} {cs':List OC} {σ':St} {H':Hp},CM w K f [] H ρ' cs' σ' H'->Goes f H H':=λx=>⟨x.sm,x.env.fd,x.kp⟩;exact h ⟨IE,(λ_ z=>nomatch z),(λ_ z=>nomatch z)⟩ σ H H E ⟨e,Same.refl _,λ_ _=>rfl,rfl,(λi D c z=>nomatch z)⟩
  (λρ' cs' σ' H' x p=>n ρ' σ' H' (gg x) x.env p) (λd v ρ' cs' σ' H' x r' p=>r d v H' (gg x) r' p) (λρ' cs' σ' H' x p=>b ρ' σ' H' (gg x) x.env p) (λρ' cs' σ' H' x p=>k ρ' σ' H' (gg x) x.env p)
theorem aY (h:PSd K (f.withs Ds) ts ρ { nx:=λρ'=>O.nx ρ' cs,rt:=O.rt,bk:=λρ'=>O.bk ρ' cs,ct:=λρ'=>O.ct ρ' cs }):PSm w K f Ds ts ρ cs O:=λse σ H H2 E x n r b k =>
 h σ H E x.env (λρ' σ' H' g' e' p=>n ρ' cs σ' H' (x.go g' e') p) (λd v H' g' r' p=>r d v ρ cs σ H' (x.go g' (x.env.mono g')) (Rep.mono yH d v r') p) (λρ' σ' H' g' e' p=>b ρ' cs σ' H' (x.go g' e') p) (λρ' σ' H' g' e' p=>k ρ' cs σ' H' (x.go g' e') p)
theorem jg (h:PSm w K f Ds ts ρ cs { O with nx:=λρ' cs'=>PSm w K f Ds tu ρ' cs' O }):PSm w K f Ds (aP ts tu) ρ cs O:=λse σ H H2 E x n r b k =>
 h se σ H H2 _ x (λρ' cs' σ' H' x' p=>p se σ' H' H2 E x' n r b k) r b k
theorem va (h:O.nx ρ cs):PSm w K f Ds sH ρ cs O:=λ_ σ H H2 E x n r b k=>n ρ cs σ H x h
theorem rf {B:Bool->Prop} (h:PTd K (f.withs Ds) tt ρ B):PTm w K f Ds tt ρ cs B:=λse σ H H2 Q x q=>h σ H Q x.env q
theorem aZ {P:MB->Prop} (h:PEd K (f.withs Ds) te ρ P):PEm w K f Ds te ρ cs P:=λse σ H H2 Q x q=>h σ H Q x.env q
theorem hZ (h:PTm w K f Ds tt ρ cs λb=>if b=MC then PSm w K f Ds ts ρ cs O else PSm w K f Ds tu ρ cs O):PSm w K f Ds (xp tt ts tu) ρ cs O:=λse σ H H2 E x n r b k =>
 h se σ H H2 _ x λq H1 g1 p=>by
  have x1:=x.go g1 (x.env.mono g1);cases q with
  | false =>
   rw [Mv He] at p ⊢;exact p se σ H1 H2 E x1 n r b k
  | true =>
   rw [Mw rfl] at p ⊢;exact p se σ H1 H2 E x1 n r b k
theorem vU (h:PId K (f.withs Ds) wi ρ λds=>∃ J:Nat->zr->List OC->Prop,J 0 ρ cs /\
   (∀ (i:Nat) d ρ' cs',ds[i]?=MA d->J i ρ' cs'->PGd K (f.withs Ds) g d ρ' λρ2=>PSm w K f Ds ts ρ2 cs' { O with nx:=J (i+1),ct:=J (i+1),bk:=O.nx })/\∀ ρ' cs',J ds.length ρ' cs'->O.nx ρ' cs') :
  PSm w K f Ds (uJ wi g ts) ρ cs O:=λse σ H H2 E x n r b k=>h σ H _ x.env λds J H1 g1 it ⟨Jv,j0,js,jd⟩=>by
 have x1:=x.go g1 (x.env.mono g1);refine⟨λi m σ' H'=>∃ ρ' cs',CM w K f Ds H2 ρ' cs' σ' H'/\Same (hide H1 (f.withs Ds)) (hide H' (f.withs Ds))/\Jv i ρ' cs'/\m+i=ds.length,⟨ds.length,ρ,cs,x1,Same.refl _,j0,rfl⟩,λi m σ' H' ⟨ρ',cs',x',sm',p,hm⟩=>?_⟩;by_cases hi:i<ds.length
 ·obtain⟨hgo,hy⟩:=it.go (f.withs Ds) H' i _ x'.env.fd sm' (Hd hi);refine .inr ⟨hgo,λσ2 H3=>∃ ρ2 cs2,CM w K f Ds H2 ρ2 cs2 σ2 H3/\Same (hide H1 (f.withs Ds)) (hide H3 (f.withs Ds))/\Jv (i+1) ρ2 cs2,λσ2 H3 ⟨ρ2,cs2,e2,g2,p2⟩=>⟨m - 1,by omega,ρ2,cs2,e2,g2,p2,by omega⟩,λv H3 hx=>?_⟩;obtain⟨g3,r3⟩:=hy v H3 hx;have x3:=x'.go g3 (x'.env.mono g3);refine js i _ ρ' cs' (Hd hi) p σ' H3 v _ x3.env r3 λρ2 σ2 H4 g4 e4 p4=>?_;have x4:=x3.go g4 e4;have sm4:=(sm'.trans g3.sm).trans g4.sm;exact p4 se σ2 H4 H4 _ x4.self (λρ5 cs5 σ5 H5 x5 p5=>⟨ρ5,cs5,x4.trans x5,sm4.trans x5.sm,p5⟩) (λd v ρ5 cs5 σ5 H5 x5 r5 p5=>r d v ρ5 cs5 σ5 H5 (x4.trans x5) r5 p5) (λρ5 cs5 σ5 H5 x5 p5=>n ρ5 cs5 σ5 H5 (x4.trans x5) p5) (λρ5 cs5 σ5 H5 x5 p5=>⟨ρ5,cs5,x4.trans x5,sm4.trans x5.sm,p5⟩)
 ·have ei:i=ds.length:=by omega
  subst ei;exact .inl ⟨it.st (f.withs Ds) H' x'.env.fd sm',n ρ' cs' σ' H' x' (jd ρ' cs' p)⟩
theorem tM {tb:TS} (J:zr->List OC->Prop) (μ:zr->List OC->Nat) (h0:J ρ cs)
  (hs:∀ ρ' cs',J ρ' cs'->PTm w K f Ds tt ρ' cs' λb=>if b=MC then PSm w K f Ds tb ρ' cs' { O with nx:=λr c=>J r c/\μ r c<μ ρ' cs',ct:=λr c=>J r c/\μ r c<μ ρ' cs',bk:=O.nx } else O.nx ρ' cs'):PSm w K f Ds (xr tt tb) ρ cs O:=λse σ H H2 E x n r b k=>by
 refine⟨λm σ' H'=>∃ ρ' cs',CM w K f Ds H2 ρ' cs' σ' H'/\J ρ' cs'/\m=μ ρ' cs',⟨_,ρ,cs,x,h0,rfl⟩,?_⟩;rintro m σ1 H1 ⟨ρ1,cs1,x1,j1,rfl⟩;refine hs ρ1 cs1 j1 se σ1 H1 H2 _ x1 λt H3 g3 p=>?_;have x3:=x1.go g3 (x1.env.mono g3);cases t with
 | true =>
  rw [Mw rfl] at p ⊢;refine⟨λσ' H'=>∃ ρ' cs',CM w K f Ds H2 ρ' cs' σ' H'/\J ρ' cs'/\μ ρ' cs'<μ ρ1 cs1,λσ' H' ⟨ρ',cs',x',j',l'⟩=>⟨_,l',ρ',cs',x',j',rfl⟩,?_⟩;exact p se σ1 H3 H2 _ x3 (λρ5 cs5 σ5 H5 x5 p5=>⟨ρ5,cs5,x5,p5⟩) r (λρ5 cs5 σ5 H5 x5 p5=>n ρ5 cs5 σ5 H5 x5 p5) (λρ5 cs5 σ5 H5 x5 p5=>⟨ρ5,cs5,x5,p5⟩)
 | false =>
  rw [Mv He] at p ⊢;exact n ρ1 cs1 σ1 H3 x3 p
theorem yQ {σ:St} {H H2:Hp} {D:Hm} (hi:ρ[i]?=MA (MA (.own (f.M.length+j)))) (x:CM w K f Ds H2 ρ cs σ H) (hD:Ds[j]?=MA D):σ[i]?=MA (MA (.ref D)):=by
 obtain⟨v,h1,p,h2,rfl⟩:=x.env.get i _ hi;have e:(f.withs Ds).M.reverse[f.M.length+j]?=MA D:=by
  show (Ds.reverse++f.M).reverse[f.M.length+j]?=MA D;rw [JE,Kr,HL (by simp)];simpa using hD
 rw [e] at h2;cases h2;exact h1
theorem gE {es:M9} (hi:ρ[i]?=MA (MA (.own (f.M.length+j)))) (hc:cs[j]?=MA (.lst es)) (hl:es.length<1000) (h:PEm w K f Ds te ρ cs λd=>O.nx ρ (cs.set j (.lst (es++[d])))):PSm w K f Ds (mC (tBM K "list" sO (yt i) (yj te jK))) ρ cs O:=λse σ H H2 E x n r b k=>by
 have hj:j<Ds.length:=by rw [<-x.len];exact (Hg.mp hc).1
 have hD:Ds[j]?=MA Ds[j]:=Hd hj;obtain⟨vs0,h0,_⟩:=x.own j _ _ hD hc;refine⟨_,yQ hi x hD,MM ⟨rfl,vs0,.of h0⟩,?_⟩;refine h se σ H H2 _ x λd v H1 g1 r1 p1=>?_;have x1:=x.go g1 (x.env.mono g1);obtain⟨vs,h1,h2⟩:=x1.own j _ _ hD hc;refine⟨_,vs,v,rfl,rfl,h1,zY (by rw [h2.length];omega),n _ _ _ _ (x1.put se hD (o:=.lst (vs++[v])) (c':=.lst (es++[d])) ⟨vs++[v],zw,h2.snoc r1⟩) p1⟩
theorem CM.more {σ:St} {H H1 H2:Hp} {D:Hm} {c:OC} (x:CM w K f Ds H2 ρ cs σ H) (g:Goes (f.withs Ds) H H1) (hn:H D=MF) (ho:OwnAt w K (hide H1 ((f.withs Ds).with D)) H1 D c) (hi:i<ρ.length) :
  CM w K f (Ds++[D]) H1 (ρ.set i (MA (.own (f.M.length+Ds.length)))) (cs++[c]) (σ.set i (MA (.ref D))) H1:=by
 have nD:¬ ((f.withs Ds).f=MA D \/ D∈(f.withs Ds).M):=fresh_ne x.env.fd hn;have sm0:Same (hide H (f.withs Ds)) (hide H1 (f.withs (Ds++[D]))):=λb o hb=>by
  have hb1:=g.sm b o hb;rw [yP];refine zI (λz=>?_) (zZ hb1).2;rcases z with z | z
  ·exact (zZ hb1).1 (.inl z)
  ·rcases Hv.mp z with rfl | z
   ·have:=(zZ hb).2;rw [hn] at this;cases this
   ·exact (zZ hb1).1 (.inr z)
 have hD1:∃ o,H1 D=MA o:=by
  cases c with
  | lst es=>exact⟨_,ho.choose_spec.1⟩
  | set ks=>exact⟨_,ho.choose_spec.1⟩
  | dic kvs=>exact⟨_,ho.choose_spec.1⟩
  | gen φ=>exact⟨_,ho.choose_spec.1⟩
 have fo1:FOk (f.withs (Ds++[D])) H1:=by
  rw [yP];refine⟨g.ok.fd,λb hb=>?_,λq eq hq=>?_⟩
  ·rcases Hv.mp hb with rfl | hb
   ·exact hD1
   ·exact g.ok.mm b hb
  ·rcases Hv.mp hq with rfl | hq
   ·exact nD (.inl eq)
   ·exact g.ok.nm q eq hq
 have rev:(f.withs (Ds++[D])).M.reverse=(f.withs Ds).M.reverse++[D]:=by
  rw [yP];show (D :: (f.withs Ds).M).reverse=_;rw [Lx]
 have lenr:(f.withs Ds).M.reverse.length=f.M.length+Ds.length:=by
  show (Ds.reverse++f.M).reverse.length=_;simp
 have e1:EnvOk K (f.withs (Ds++[D])) ρ σ H1:=⟨x.env.len,λq y hy=>by
  obtain⟨v,a1,a2⟩:=x.env.get q y hy;refine⟨v,a1,?_⟩;cases y with
  | dat d=>exact Rep.mono sm0 d v a2
  | feed=>exact a2
  | exc C =>
   obtain⟨b,h3,h4⟩:=a2;exact⟨b,h3,sm0 _ _ h4⟩
  | mon φ=>exact λH' s=>a2 H' (sm0.trans s)
  | own k =>
   obtain⟨b,h3,h4⟩:=a2;refine⟨b,?_,h4⟩;rw [rev,HE (Hg.mp h3).1];exact h3,fo1⟩
 have rv:RepV K (f.withs (Ds++[D])) H1 (.own (f.M.length+Ds.length)) (.ref D):=⟨D,by
  rw [rev,HL (by omega),lenr,Ku]
  rfl,rfl⟩
 refine⟨e1.set i rv,Same.refl _,λ_ _=>rfl,by simp [x.len],λq D' c' h1 h2=>?_⟩;by_cases hq:q<Ds.length
 ·rw [HE hq] at h1;rw [HE (by rw [x.len];exact hq)] at h2;exact (x.own q D' c' h1 h2).mono (g.kp D' (qS (Hu h1))) sm0
 ·by_cases hq2:q=Ds.length
  ·subst hq2;rw [HL (Ht _),Ku] at h1;rw [HL (by rw [x.len];exact Ht _),x.len,Ku] at h2;cases h1;cases h2;rw [yP];exact ho
  ·rw [Ib (by simp;omega)] at h1;cases h1
theorem Sep.more {H:Hp} {D:Hm} (se:Sep f Ds) (fo:FOk (f.withs Ds) H) (hn:H D=MF):Sep f (Ds++[D]):=by
 have nD:=fresh_ne fo hn;refine⟨IA.mpr ⟨se.nd,by simp,λa ha b hb=>?_⟩,λD' h=>?_,λD' h=>?_⟩
 ·rw [Hw.mp hb];intro z;exact nD (.inr (qS (z▸ha)))
 ·rcases HC.mp h with h | h
  ·exact se.nf D' h
  ·rw [Hw.mp h];exact λz=>nD (.inl z)
 ·rcases HC.mp h with h | h
  ·exact se.nm D' h
  ·rw [Hw.mp h];exact λz=>nD (.inr (HJ _ z))
theorem CM.less {σ σ':St} {H H1 H2 H':Hp} {D:Hm} {ρ':zr} {cs':List OC} (x:CM w K f Ds H2 ρ cs σ H) (g:Goes (f.withs Ds) H H1) (hn:H D=MF) (y:CM w K f (Ds++[D]) H1 ρ' cs' σ' H') :
  CM w K f Ds H2 (ρ'.map (fc (f.M.length+Ds.length))) (cs'.take Ds.length) σ' H':=by
 have sub:Same (hide H' (f.withs (Ds++[D]))) (hide H' (f.withs Ds)):=by rw [yP];exact jO
 have sm1:Same (hide H (f.withs Ds)) (hide H1 (f.withs (Ds++[D]))):=λb o hb=>by
  have hb1:=g.sm b o hb;rw [yP];refine zI (λz=>?_) (zZ hb1).2;rcases z with z | z
  ·exact (zZ hb1).1 (.inl z)
  ·rcases Hv.mp z with rfl | z
   ·have:=(zZ hb).2;rw [hn] at this;cases this
   ·exact (zZ hb1).1 (.inr z)
 have lenr:(f.withs Ds).M.reverse.length=f.M.length+Ds.length:=by
  show (Ds.reverse++f.M).reverse.length=_;simp
 have rev:(f.withs (Ds++[D])).M.reverse=(f.withs Ds).M.reverse++[D]:=by
  rw [yP];show (D :: (f.withs Ds).M).reverse=_;rw [Lx]
 have fo:FOk (f.withs Ds) H':=by
  have h:=y.env.fd;rw [yP] at h;exact⟨h.fd,λb hb=>h.mm b (Hl _ hb),λp e hp=>h.nm p e (Hl _ hp)⟩
 refine⟨⟨by rw [Hc];exact y.env.len,λq z hz=>?_,fo⟩,(x.sm.trans sm1).trans (y.sm.trans sub),λb hb=>(y.kp b hb).trans ((g.kp b (HJ _ hb)).trans (x.kp b hb)),?_,λq D' c' h1 h2=>?_⟩
 ·rw [Ho] at hz;cases e:ρ'[q]? with
  | none=>rw [e] at hz;cases hz
  | some z0 =>
   rw [e] at hz;cases z0 with
   | none=>cases hz
   | some z0 =>
    obtain⟨v,a1,a2⟩:=y.env.get q z0 e;cases z0 with
    | dat d =>
     cases hz;exact⟨v,a1,Rep.mono sub d v a2⟩
    | feed =>
     cases hz;rw [yP] at a2;exact⟨v,a1,a2⟩
    | exc C =>
     cases hz;obtain⟨b,h3,h4⟩:=a2;exact⟨v,a1,b,h3,sub _ _ h4⟩
    | mon φ =>
     cases hz;exact⟨v,a1,λH' s=>a2 H' (sub.trans s)⟩
    | own k =>
     have hz':(if k<f.M.length+Ds.length then MA (DV.own k) else MF)=MA z:=ML hz;by_cases hk:k<f.M.length+Ds.length
     ·rw [Mw hk] at hz';cases hz';obtain⟨b,h3,h4⟩:=a2;refine⟨v,a1,b,?_,h4⟩;rw [rev,HE (by omega)] at h3;exact h3
     ·rw [Mv hk] at hz';cases hz'
 ·rw [Im,y.len];simp
 ·have hq:q<Ds.length:=(Hg.mp h1).1;rw [JY hq] at h2;exact (y.own q D' c' (by rw [HE hq];exact h1) h2).mono rfl sub
theorem iN (h:eW w K (f.withs Ds) te ρ λc=>i<ρ.length/\∀ D,PSm w K f (Ds++[D]) ts (ρ.set i (MA (.own (f.M.length+Ds.length)))) (cs++[c]) { nx:=λρ' cs'=>O.nx (ρ'.map (fc (f.M.length+Ds.length))) (cs'.take Ds.length),rt:=O.rt,bk:=λρ' cs'=>O.bk (ρ'.map (fc (f.M.length+Ds.length))) (cs'.take Ds.length),ct:=λρ' cs'=>O.ct (ρ'.map (fc (f.M.length+Ds.length))) (cs'.take Ds.length) }) :
  PSm w K f Ds (aP (vP te (jA i)) ts) ρ cs O:=λse σ H H2 E x n r b k =>
 h σ H _ x.env λc D H1 g1 hn ho ⟨hi,p⟩ =>
  p D (se.more x.env.fd hn) _ H1 H1 E (x.more g1 hn ho hi) (λρ' cs' σ' H' y q=>n _ _ σ' H' (x.less g1 hn y) q) (λd v ρ' cs' σ' H' y r' q=>r d v _ _ σ' H' (x.less g1 hn y) r' q) (λρ' cs' σ' H' y q=>b _ _ σ' H' (x.less g1 hn y) q) (λρ' cs' σ' H' y q=>k _ _ σ' H' (x.less g1 hn y) q)
theorem vp {P:OC->Prop} (h:PEdO K f te ρ λes=>P (.lst es)):eW w K f te ρ P:=λσ H Q e q=>h σ H Q e λes D vs H' g hn h1 rs p=>q (.lst es) D H' g hn ⟨vs,h1,rs⟩ p
noncomputable def freed (n:Nat) (cs:List OC):Option DV->Option DV
 | some (.own k)=>if k<n then MA (.own k) else match cs[k - n]? with
  | some (.lst es)=>MA (.dat (.list es))
  | _=>MF
 | x=>x
theorem CM.free {σ:St} {H H2:Hp} (se:Sep f Ds) (x:CM w K f Ds H2 ρ cs σ H):EnvOk K f (ρ.map (freed f.M.length cs)) σ H:=by
 have fo:FOk f H:=⟨x.env.fd.fd,λb hb=>x.env.fd.mm b (HJ _ hb),λp e hp=>x.env.fd.nm p e (HJ _ hp)⟩;refine⟨by rw [Hc];exact x.env.len,λq z hz=>?_,fo⟩;rw [Ho] at hz;cases e:ρ[q]? with
 | none=>rw [e] at hz;cases hz
 | some z0 =>
  rw [e] at hz;cases z0 with
  | none=>cases hz
  | some z0 =>
   obtain⟨v,a1,a2⟩:=x.env.get q z0 e;cases z0 with
   | dat d =>
    cases hz;exact⟨v,a1,Rep.mono yH d v a2⟩
   | feed =>
    cases hz;exact⟨v,a1,a2⟩
   | exc C =>
    cases hz;obtain⟨b,h3,h4⟩:=a2;exact⟨v,a1,b,h3,yH _ _ h4⟩
   | mon φ =>
    cases hz;exact⟨v,a1,λH' s=>a2 H' (yH.trans s)⟩
   | own k =>
    obtain⟨b,h3,h4⟩:=a2;have h3':(Ds.reverse++f.M).reverse[k]?=MA b:=h3;rw [JE,Kr] at h3';have hz':(if k<f.M.length then MA (DV.own k) else match cs[k - f.M.length]? with | some (.lst es)=>MA (.dat (.list es)) | _=>MF)=MA z:=ML hz;by_cases hk:k<f.M.length
    ·rw [Mw hk] at hz';cases hz';rw [HE (by simpa using hk)] at h3';exact⟨v,a1,b,h3',h4⟩
    ·rw [Mv hk] at hz';rw [HL (by simpa using LN.mp hk),KA] at h3';cases ec:cs[k - f.M.length]? with
     | none=>rw [ec] at hz';cases hz'
     | some c =>
      rw [ec] at hz';cases c with
      | lst es =>
       cases hz';obtain⟨vs,h5,h6⟩:=x.own _ _ _ h3' ec;have hb:=Hu h3';exact⟨v,a1,zJ.mpr ⟨b,vs,h4,.of (zI (λz=>z.elim (se.nf b hb) (se.nm b hb)) h5),Reps.mono yH es vs h6⟩⟩
      | set ks=>cases hz'
      | dic kvs=>cases hz'
      | gen φ=>cases hz'
theorem CM.goF {σ:St} {H H2 H':Hp} (se:Sep f Ds) (x:CM w K f Ds H2 ρ cs σ H) (g:Goes f H H'):CM w K f Ds H2 ρ cs σ H':=by
 have keep:∀ b∈Ds,H' b=H b:=λb hb=>by
  obtain⟨o,ho⟩:=x.env.fd.mm b (qS hb);rw [ho];exact (zZ (g.sm b o (zI (λz=>z.elim (se.nf b hb) (se.nm b hb)) ho))).2
 have g2:Goes (f.withs Ds) H H':=⟨λb o hb=>by
   have hb':=zZ hb;have:=zZ (g.sm b o (yH b o hb));exact zI hb'.1 this.2,⟨g.ok.fd,λb hb=>by
   rcases HC.mp hb with hb | hb
   ·obtain⟨o,ho⟩:=x.env.fd.mm b (HQ _ hb);exact⟨o,by rw [keep b (JJ.mp hb)];exact ho⟩
   ·exact g.ok.mm b hb,x.env.fd.nm⟩,λb hb=>by
   rcases HC.mp hb with hb | hb
   ·exact keep b (JJ.mp hb)
   ·exact g.kp b hb⟩
 exact x.go g2 (x.env.mono g2)
theorem An (h:PSd K f ts (ρ.map (freed f.M.length cs)) { nx:=λ_=>False,rt:=O.rt }):PSm w K f Ds ts ρ cs O:=λse σ H H2 E x n r b k =>
 h σ H E (x.free se) (λ_ _ _ _ _ z=>z.elim) (λd v H' g' r' p=>r d v ρ cs σ H' (x.goF se g') r' p) (λ_ _ _ _ _ z=>z.elim) (λ_ _ _ _ _ z=>z.elim)
end
def nA (w:MH) (K:Hj) (f:Fx) (Ds:MS) (ts:TS) (ρ:zr) (cs:List OC) (R:M9->Prop):Prop:=Sep f Ds->∀ (σ:St) (H H2:Hp) (E:Ends),CM w K f Ds H2 ρ cs σ H ->
 (∀ es D vs ρ' cs' σ' H0 H',CM w K f Ds H2 ρ' cs' σ' H0->Goes f H0 H'->H0 D=MF->H' D=MA (.lst vs)->Reps K (hide H' (f.with D)) es vs->R es->E.rt (.ref D) H')->ts E σ H
section
variable {w:MH} {K:Hj} {f:Fx} {Ds:MS} {ρ:zr} {cs:List OC} {ts tu:TS} {te:TE} {R:M9->Prop} {i:Nat}
theorem fj (h:nA w K f [] ts ρ [] R):PSn K f ts ρ R:=λσ H E e q=>by
 refine h ⟨IE,(λ_ z=>nomatch z),(λ_ z=>nomatch z)⟩ σ H H E ⟨e,Same.refl _,λ_ _=>rfl,rfl,(λi D c z=>nomatch z)⟩ λes D vs ρ' cs' σ' H0 H' x g hn h1 rs p=>?_;have g0:Goes f H H0:=⟨x.sm,x.env.fd,x.kp⟩;exact q es D vs H' (g0.trans g) (g0.free e.fd hn) h1 rs p
theorem kX (h:PSm w K f Ds ts ρ cs { nx:=λρ' cs'=>nA w K f Ds tu ρ' cs' R,rt:=λ_=>False }):nA w K f Ds (aP ts tu) ρ cs R:=λse σ H H2 E x q =>
 h se σ H H2 _ x (λρ' cs' σ' H' x' p=>p se σ' H' H2 E x' q) (λ_ _ _ _ _ _ _ _ z=>z.elim) (λ_ _ _ _ _ z=>z.elim) (λ_ _ _ _ _ z=>z.elim)
theorem dU (h:eW w K (f.withs Ds) te ρ λc=>i<ρ.length/\∀ D,nA w K f (Ds++[D]) ts (ρ.set i (MA (.own (f.M.length+Ds.length)))) (cs++[c]) R) :
  nA w K f Ds (aP (vP te (jA i)) ts) ρ cs R:=λse σ H H2 E x q =>
 h σ H _ x.env λc D H1 g1 hn ho ⟨hi,p⟩ =>
  p D (se.more x.env.fd hn) _ H1 H1 E (x.more g1 hn ho hi) λes D' vs ρ' cs' σ' H0 H' y g hn' h1 rs pr=>q es D' vs _ _ σ' H0 H' (x.less g1 hn y) g hn' h1 rs pr
theorem fk (h:PSn K f ts (ρ.map (freed f.M.length cs)) R):nA w K f Ds ts ρ cs R:=λse σ H H2 E x q =>
 h σ H E (x.free se) λes D vs H' g hn h1 rs p=>q es D vs ρ cs σ H H' x g hn h1 rs p
end
theorem SetO.ok {P:MI} {w:MH} {H:Hp} {h:Heap} {a:Hm} {xs:Nd} {o:Obj} {es:Array (Int×MD)} {ep:Nat} {t:SetTable} (S:SetObj w h a xs o es ep t):ObjOk P w H h a (SetO w a xs) :=
 ⟨⟨o,es,ep,t,S⟩,⟨o,S.ob⟩,λh1 h2 ⟨o,es,ep,t,S⟩ k=>⟨o,es,ep,t,⟨k o S.ob,S.ex,S.da,S.el,S.ok⟩⟩⟩
theorem wk (led:Bool):ST.TOk (SetTable.fresh 0 0 led) [] where
 mask:=.inl rfl
 dum:=rfl
 rise:=λi j _ hj=>absurd hj (Jr _)
 le:=λi hi=>absurd hi (Jr _)
 size:=rfl
 most:=HR _
 reach:=λi hi=>absurd hi (Jr _)
 room:=by show 0 * 5<7 * 3;decide
def kY (w:MH):List V->Hp->VK->Prop:=λxs H Q=>xs=[]/\∀ a,H a=MF->Q (.ref a) (upd H a (SetO w a []))
theorem nB {X:Cx}:yK X (.type "set") (kY X.w):=by
 intro Mu s σ H xs us Q I r h;obtain⟨rfl,q⟩:=h;cases r;refine call_set_0 λled=>?_;refine⟨.ref s.heap.objs.size,_,I.laid (t':=s.toks) (λb u e=>Hr _ e) (Ht _) (SetO.ok (xs:=[]) (o:={ cls:=.type "set",dict:=MF,data:=.set #[] 0 (.fresh 0 0 led) }) (es:=#[]) (ep:=0) (t:=.fresh 0 0 led) ⟨HS _ rfl,⟨rfl,rfl,rfl⟩,rfl,rfl,wk led⟩),rfl,q _ (I.hok.fresh (Ht _))⟩
def eX (d:MB):Prop:=cx d/\∃ xs,d=.tuple xs
theorem vq {K:Hj} {H:Hp} {d:MB} {v:V} (k:eX d) (r:Rep K H d v):∃ b,v=.ref b:=by
 obtain⟨_,xs,rfl⟩:=k;obtain⟨a,_,e,_⟩:=zR.mp r;exact⟨a,e⟩
theorem vL {X:Cx} {Mu:MT} {σ:St} {H:Hp} {s:ME} {d:MB} {b:Hm} (I:Inv X Mu σ H s) (k:cx d) (r:Rep X.K H d (.ref b)):KeyAt s.heap d b:=by
 obtain⟨as,ra⟩:=je I d (.ref b) (.ref b) r rfl;exact⟨⟨as,ra⟩,k.1,k.2⟩
def EW (w:MH) (K:Hj) (neg:Bool):R2:=λx y H Q=>∃ a b d xs,x=.ref b/\y=.ref a/\H a=MA (SetO w a xs)/\(∀ z∈xs,cx z.1/\Rep K H z.1 (.ref z.2))/\cx d/\Rep K H d (.ref b)/\Q (.bl (if neg then !decide (d∈xs.map (·.1)) else decide (d∈xs.map (·.1)))) H
theorem Cg {X:Cx} (hu:X.A.units+64<IZ) {Mu:MT} {s:ME} {σ:St} {H:Hp} {a b:Hm} {d:MB} {xs:Nd} (I:Inv X Mu σ H s) (hS:H a=MA (SetO X.w a xs)) (ks:∀ z∈xs,cx z.1/\Rep X.K H z.1 (.ref z.2)) (kd:cx d) (rd:Rep X.K H d (.ref b)) {Q:Bool->ME->Prop} {E:MD->ME->Prop}
  (q:Q (decide (d∈xs.map (·.1))) { s with toks:=s.toks+ym d }):HP (model X.prog X.w) X.A (contains (.ref a) (.ref b)) Q E s:=by
 obtain⟨⟨o,es,ep,t,S⟩,_⟩:=I.hok a _ hS;exact nz S (λx hx=>vL I (ks x hx).1 (ks x hx).2) (vL I kd rd) (by omega) q
theorem wm {X:Cx} (hu:X.A.units+64<IZ):OpR X (IJ .NotIn) (EW X.w X.K MC):=by
 intro Mu s σ H x y v u Q I rx ry h;obtain⟨a,b,d,xs,rfl,rfl,hS,ks,kd,rd,q⟩:=h;cases rx;cases ry;show HP _ _ (do return Value.bool (!(<- contains (.ref a) (.ref b)))) _ _ s;apply Hf;exact Cg hu I hS ks kd rd (Hs ⟨.bl _,H,I.tok _,rfl,q⟩)
theorem gF {X:Cx} {K:Hj} {w:MH} (hw:X.w=w) (hK:X.K=K) (hu:X.A.units+64<IZ):OpR X (IJ .NotIn) (EW w K MC):=hw▸hK▸wm hu
def Ao (w:MH) (K:Hj):V->List V->Hp->VK->Prop:=λx ys H Q=>∃ a b d xs,x=.ref a/\ys=[.ref b]/\H a=MA (SetO w a xs)/\(∀ z∈xs,cx z.1/\Rep K H z.1 (.ref z.2))/\cx d/\Rep K H d (.ref b)/\xs.length<300 /\
 (d∈xs.map (·.1)->Q .non H)/\(d∉xs.map (·.1)->∀ xs',xs'.Perm ((d,b) :: xs)->Q .non (upd H a (SetO w a xs')))
theorem Ci {X:Cx} (hu:X.A.units+64<IZ):MtR X "set.add" (Ao X.w X.K):=by
 intro Mu s σ H x ys v us Q I rx ry h;obtain⟨a,b,d,xs,rfl,rfl,hS,ks,kd,rd,few,q1,q2⟩:=h;obtain⟨u,rfl,ru⟩:=vals1 ry;cases rx;cases ru;obtain⟨⟨o,es,ep,t,S⟩,_⟩:=I.hok a _ hS;refine EV S (λx hx=>vL I (ks x hx).1 (ks x hx).2) (vL I kd rd) (by omega) few (λhd=>⟨.non,H,I.tok _,rfl,q1 hd⟩) λhd xs' o' es' ep' t' h' pm sb S'=>?_;refine⟨.non,_,I.write (t':=s.toks+ym d) (x:=a) (e:=a) (by rw [hS];exact trivial) (.inl rfl) (λb u nb e=>(sb.2 b nb).trans e) ⟨o',S'.ob⟩ (SetO.ok S'),rfl,q2 hd xs' pm⟩
theorem nC {X:Cx} {K:Hj} {w:MH} (hw:X.w=w) (hK:X.K=K) (hu:X.A.units+64<IZ):MtR X "set.add" (Ao w K):=hw▸hK▸Ci hu
theorem cX {X:Cx} {w:MH} (hw:X.w=w):yK X (.type "set") (kY w):=hw▸nB
def Gn (w:MH) (r:V->List V->Hp->VK->Prop) (to:TE) (t:TA):TE:=λσ H Q=>to σ H λx H1=>(∃ a xs,x=.ref a/\H1 a=MA (SetO w a xs))/\t σ H1 λxs H2=>r x xs H2 Q
theorem Ap {X:Cx} {w:MH} {o e:Expr} {es:MX} {to:TE} {t:TA} {name:Str} {apos cpos:Pos} {id:String} {r:V->List V->Hp->VK->Prop} (hw:X.w=w) (slot:Slot "set" name id) (hty:typeOf (.builtin id)=pure (.type "method_descriptor")) (hm:MtR X id r) (ho:PE X o to) (ha:PA X (e :: es) t)
  (hbase:attributeBase o name X.env (eval o X.env)=eval o X.env:=by rfl)
  (hfew:((backTo cpos (Iq (e :: es) X.env)).all (λx=>!x.1) && (backToKw cpos (keywordEach [] X.env)).all (λx=>x.1.isSome)
   && decide ((e :: es).length+([]:MZ).length+(if ([]:MZ).isEmpty then 0 else 1)<30))=MC:=by rfl)
  (hline:(apos.endLine == cpos.line)=MC:=by rfl) (hs:Iq (e :: es) X.env=(MG,eval e X.env) :: Iq es X.env:=by rfl) (hplain:(backTo cpos (Iq es X.env)).any (·.1)=MG:=by rfl) :
  PE X (.Call (.Attribute o name apos) (e :: es) [] cpos) (Gn w r to t):=by
 subst hw;intro Mu s σ H Q I h;refine wpAny_Call_method_late hbase hfew hline rfl (thn (ho Mu s σ H _ I h) λv s1 ⟨x,H1,I1,r1,ty,q1⟩=>?_);obtain⟨a,xs,rfl,hS⟩:=ty;cases r1;obtain⟨⟨ob,es',ep,t',S⟩,_⟩:=I1.hok a _ hS;refine⟨"set",id,PySem.F.plainAttrs_set,slot,hty,⟨ob,S.ob,S.ex.1⟩,λb e=>?_,?_⟩
 ·cases e;exact⟨ob,S.ob,S.ex.2.1⟩
 have hA:=ha cpos Mu s1 σ H1 _ I1 q1;rw [hs] at hA ⊢;refine KQ (by show (MG || (backTo cpos (Iq es X.env)).any (·.1))=MG;rw [hplain] <;> rfl) (Ma ?_);exact thn hA λus s2 ⟨vs,H2,I2,r2,q2⟩=>hm Mu s2 σ H2 (.ref a) vs (.ref a) us Q I2 rfl r2 q2
section
variable {w:MH} {K:Hj} {f:Fx} {Ds:MS} {ρ:zr} {cs:List OC} {te:TE} {O:MEnds} {i j:Nat} {ks:M9}
theorem Aq {P:OC->Prop} (p:P (.set [])):eW w K f (tCB (kY w) jK) ρ P:=λσ H Q e q =>
 ⟨rfl,λa hn=>q (.set []) a _ (.of_same (ye hn _) e.fd) hn ⟨[],zw,(λ_ z=>nomatch z),(λd=>Iff.rfl),Ht 0⟩ p⟩
theorem DO {neg:Bool} {B:Bool->Prop} (hi:ρ[i]?=MA (MA (.own (f.M.length+j)))) (hc:cs[j]?=MA (.set ks)) (h:PEm w K f Ds te ρ cs λd=>eX d/\B (if neg then !decide (d∈ks) else decide (d∈ks))) :
  PTm w K f Ds (mG (tOp (EW w K neg) te (yt i))) ρ cs B:=λse σ H H2 Q x q=>by
 have hj:j<Ds.length:=by rw [<-x.len];exact (Hg.mp hc).1
 have hD:Ds[j]?=MA Ds[j]:=Hd hj;refine h se σ H H2 _ x λd v H1 g1 r1 ⟨kd,p⟩=>?_;have x1:=x.go g1 (x.env.mono g1);obtain⟨b,rfl⟩:=vq kd r1;obtain⟨xs,h1,h2,h3,_⟩:=x1.own j _ _ hD hc;refine⟨_,yQ hi x1 hD,Ds[j],b,d,xs,rfl,rfl,h1,λz hz=>⟨(h2 z hz).1,Rep.mono (zp _ _) _ _ (h2 z hz).2⟩,kd.1,Rep.mono (zp _ _) _ _ r1,_,rfl,?_⟩;have:decide (d∈xs.map (·.1))=decide (d∈ks):=decide_eq_decide.mpr (h3 d);rw [this];exact q _ H1 g1 p
theorem DP (hi:ρ[i]?=MA (MA (.own (f.M.length+j)))) (hc:cs[j]?=MA (.set ks)) (hl:ks.length<300) (h:PEm w K f Ds te ρ cs λd=>eX d/\(d∈ks->O.nx ρ cs)/\(d∉ks->O.nx ρ (cs.set j (.set (d :: ks))))) :
  PSm w K f Ds (mC (Gn w (Ao w K) (yt i) (yj te jK))) ρ cs O:=λse σ H H2 E x n r b k=>by
 have hj:j<Ds.length:=by rw [<-x.len];exact (Hg.mp hc).1
 have hD:Ds[j]?=MA Ds[j]:=Hd hj;obtain⟨xs0,h0,_⟩:=x.own j _ _ hD hc;refine⟨_,yQ hi x hD,⟨Ds[j],xs0,rfl,h0⟩,?_⟩;refine h se σ H H2 _ x λd v H1 g1 r1 ⟨kd,p1,p2⟩=>?_;have x1:=x.go g1 (x.env.mono g1);obtain⟨b,rfl⟩:=vq kd r1;obtain⟨xs,h1,h2,h3,h4⟩:=x1.own j _ _ hD hc;refine⟨Ds[j],b,d,xs,rfl,rfl,h1,λz hz=>⟨(h2 z hz).1,Rep.mono (zp _ _) _ _ (h2 z hz).2⟩,kd.1,Rep.mono (zp _ _) _ _ r1,by omega,λhd=>n _ _ _ _ x1 (p1 ((h3 d).mp hd)),λhd xs' pm=>n _ _ _ _ (x1.put se hD (c':=.set (d :: ks)) ⟨xs',zw,λz hz=>?_,λe=>?_,?_⟩) (p2 λz=>hd ((h3 d).mpr z))⟩
 ·rcases Hv.mp (pm.mem_iff.mp hz) with rfl | hz
  ·exact⟨kd.1,r1⟩
  ·exact h2 z hz
 ·rw [(pm.map (·.1)).mem_iff,HI,Hv,Hv,h3 e]
 ·rw [pm.length_eq,HK,HK];omega
end
theorem DicO.ok {P:MI} {w:MH} {H:Hp} {h:Heap} {a:Hm} {xs:Ng} {o:Obj} {es:Array DictEntry} {ep:Nat} (S:DicObj w h a xs o es ep):ObjOk P w H h a (DicO w a xs) :=
 ⟨⟨o,es,ep,S⟩,⟨o,S.ob⟩,λh1 h2 ⟨o,es,ep,S⟩ k=>⟨o,es,ep,⟨k o S.ob,S.ex,S.da,S.el,S.nd,S.ns⟩⟩⟩
theorem fm {X:Cx} {Mu:MT} {σ:St} {H:Hp} {s:ME} (I:Inv X Mu σ H s):sysModules<s.heap.objs.size :=
 LP (by decide) (I.ok.mod.glob.keeps I.bk).lt
def tN (w:MH):TE:=λ_ H Q=>∀ p,H p=MF->Q (.ref p) (upd H p (DicO w p []))
theorem dW {X:Cx} {w:MH} {pos:Pos} (hw:X.w=w):PE X (.Dict [] [] pos) (tN w):=by
 subst hw;intro Mu s σ H Q I h;refine wpAny_Dict_empty ⟨.ref s.heap.objs.size,_,I.laid (a:=s.heap.objs.size) (t':=s.toks) (λ_ _ q=>Hr _ q) (Ht _) (DicO.ok (xs:=[]) (o:={ cls:=.type "dict",data:=.dict #[] }) (es:=#[]) (ep:=0) ⟨HS _ rfl,⟨rfl,rfl,rfl⟩,rfl,rfl,IE,beq_eq_false_iff_ne.mpr (Jc (HW (fm I)))⟩),rfl,h _ (I.hok.fresh (Ht _))⟩
abbrev cz (K:Hj) (H:Hp) (xs:Ng):Prop:=∀ z∈xs,cx z.1/\Rep K H z.1 (.ref z.2.1)
theorem gG {X:Cx} {Mu:MT} {σ:St} {H:Hp} {s:ME} {a:Hm} {xs:Ng} (I:Inv X Mu σ H s) (hS:H a=MA (DicO X.w a xs)) (ks:cz X.K H xs):s.heap.DictOfH (fh X.prog X.w) a xs/\(a == sysModules)=MG:=by
 obtain⟨⟨o,es,ep,S⟩,_⟩:=I.hok a _ hS;exact⟨⟨o,es,ep,S.ob,S.ex,S.da,S.el,λx hx=>vL I (ks x hx).1 (ks x hx).2,S.nd⟩,S.ns⟩
def cY (w:MH) (K:Hj):V->V->V->Hp->(Hp->Prop)->Prop:=λo i v H Q=>∃ a b d xs,o=.ref a/\i=.ref b/\H a=MA (DicO w a xs)/\cz K H xs/\cx d/\Rep K H d (.ref b)/\xs.length<=1000/\∀ u,RelV v u->Q (upd H a (DicO w a (storedH xs d b u)))
theorem Cj {X:Cx} (hu:X.A.units+64<IZ):xq X (cY X.w X.K):=by
 intro Mu s σ H o i v ov iv u Q I ro ri rv h;obtain⟨a,b,d,xs,rfl,rfl,hS,ks,kd,rd,hl,q⟩:=h;cases ro;cases ri;obtain⟨hm,ns⟩:=gG I hS ks;have hu1:X.A.in1.units=X.A.units+1:=rfl;refine wpAny_setItem_heap (by show _+40<IZ;omega) (vL I kd rd) hm (λh' hm' sb=>?_) (IH (zY hl));obtain⟨o',es',ep',x1,x2,x3,x4,x5,x6⟩:=hm';exact⟨_,I.write (t':=s.toks+ym d) (x:=a) (e:=a) (by rw [hS];exact trivial) (.inl rfl) (λb u nb e=>(sb.2 b nb).trans e) ⟨o',x1⟩ (DicO.ok ⟨x1,x2,x3,x4,x6,ns⟩),q u rv⟩
theorem bf {X:Cx} {K:Hj} {w:MH} (hw:X.w=w) (hK:X.K=K) (hu:X.A.units+64<IZ):xq X (cY w K):=hw▸hK▸Cj hu
def dX (w:MH) (K:Hj):R2:=λx y H Q=>∃ a b d xs p v,x=.ref a/\y=.ref b/\H a=MA (DicO w a xs)/\cz K H xs/\cx d/\Rep K H d (.ref b)/\atKey xs d=MA p/\RelV v p.2/\Q v H
theorem EX {X:Cx} (hu:X.A.units+64<IZ):IxR X (dX X.w X.K):=by
 intro value slice Mu s σ H x y v u Q I rx ry h hs;obtain⟨a,b,d,xs,p,z,rfl,rfl,hS,ks,kd,rd,hp,rz,q⟩:=h;cases rx;cases ry;obtain⟨hm,ns⟩:=gG I hS ks;have hu1:X.A.in1.units=X.A.units+1:=rfl;refine subscriptTail_builtinR (x:=p.2) hm.typeIs Kx.lookup ?_ hs;exact wpAny_getItem_heap (by show _+40<IZ;omega) (vL I kd rd) hm hp ⟨rfl,z,H,I.tok _,rz,q⟩
theorem qI {X:Cx} {K:Hj} {w:MH} (hw:X.w=w) (hK:X.K=K) (hu:X.A.units+64<IZ):IxR X (dX w K):=hw▸hK▸EX hu
def rg (w:MH) (K:Hj) (neg:Bool):R2:=λx y H Q=>∃ a b d xs,x=.ref b/\y=.ref a/\H a=MA (DicO w a xs)/\cz K H xs/\cx d/\Rep K H d (.ref b)/\Q (.bl (if neg then !(atKey xs d).isSome else (atKey xs d).isSome)) H
noncomputable def dput (k v:MB) (kvs:Nf):Nf:=if k∈kvs.map (·.1) then kvs.map (λp=>if p.1=k then (p.1,v) else p) else kvs++[(k,v)]
noncomputable def jG (k:MB) (kvs:Nf):Option MB:=(kvs.find? λp=>decide (p.1=k)).map (·.2)
section
variable {K:Hj} {Hh:Hp}
theorem cZ:∀ {xs:Ng} {kvs:Nf},Paired (EntR K Hh) xs kvs->xs.length=kvs.length
 | _,_,.nil=>rfl
 | _,_,.cons _ t=>by rw [HK,HK,cZ t]
theorem yO:∀ {xs:Ng} {kvs:Nf},Paired (EntR K Hh) xs kvs->cz K Hh xs
 | _,_,.nil=>λz hz=>nomatch hz
 | _,_,.cons h t=>λz hz=>by
  rcases Hv.mp hz with rfl | hz
  ·exact⟨h.2.1,h.2.2.1⟩
  ·exact yO t z hz
theorem c7 (k:MB):∀ {xs:Ng} {kvs:Nf},Paired (EntR K Hh) xs kvs->(atKey xs k=MF/\jG k kvs=MF/\k∉kvs.map (·.1)) \/ ∃ p d v,atKey xs k=MA p/\jG k kvs=MA d/\Rep K Hh d v/\RelV v p.2/\k∈kvs.map (·.1)
 | _,_,.nil=>.inl ⟨rfl,rfl,λz=>nomatch z⟩
 | x :: xs,p :: kvs,.cons ⟨h1,h2,h3,v,h4,h5⟩ t=>by
  by_cases e:x.1=k
  ·refine .inr ⟨x.2,p.2,v,?_,?_,h4,h5,?_⟩
   ·unfold atKey;rw [Ih,Mx e];rfl
   ·unfold jG;rw [Ih,Mx (h1▸e)];rfl
   ·rw [HI];exact Hv.mpr (.inl (h1▸e).symm)
  ·have e':¬ p.1=k:=λz=>e (h1.trans z);have a1:atKey (x :: xs) k=atKey xs k:=by unfold atKey;rw [Ih,Mz e]
   have a2:jG k (p :: kvs)=jG k kvs:=by unfold jG;rw [Ih,Mz e']
   rw [a1,a2,HI];rcases c7 k t with⟨b1,b2,b3⟩ | ⟨q,d,u,b1,b2,b3,b4,b5⟩
   ·exact .inl ⟨b1,b2,λz=>(Hv.mp z).elim (λz=>e' z.symm) b3⟩
   ·exact .inr ⟨q,d,u,b1,b2,b3,b4,Hl _ b5⟩
theorem tO (k:MB) {d:MB} {v:V} {u:MD} (rd:Rep K Hh d v) (rv:RelV v u):∀ {xs:Ng} {kvs:Nf},Paired (EntR K Hh) xs kvs->Paired (EntR K Hh) (xs.map (putAt k u)) (kvs.map λp=>if p.1=k then (p.1,d) else p)
 | _,_,.nil=>.nil
 | x :: xs,p :: kvs,.cons ⟨h1,h2,h3,w,h4,h5⟩ t=>by
  rw [HI,HI];refine .cons ?_ (tO k rd rv t);unfold putAt;by_cases e:x.1=k
  ·rw [Mw e,Mw (h1▸e)];exact⟨h1,h2,h3,v,rd,rv⟩
  ·rw [Mv e,Mv (λz=>e (h1.trans z))];exact⟨h1,h2,h3,w,h4,h5⟩
theorem tP {x:MB×Hm×MD} {p:MB×MB} (h:EntR K Hh x p):∀ {xs:Ng} {kvs:Nf},Paired (EntR K Hh) xs kvs->Paired (EntR K Hh) (xs++[x]) (kvs++[p])
 | _,_,.nil=>.cons h .nil
 | _,_,.cons h' t=>.cons h' (tP h t)
theorem kZ {k d:MB} {b:Hm} {v:V} {u:MD} (kk:cx k) (rk:Rep K Hh k (.ref b)) (rd:Rep K Hh d v) (rv:RelV v u) {xs:Ng} {kvs:Nf} (t:Paired (EntR K Hh) xs kvs):Paired (EntR K Hh) (storedH xs k b u) (dput k d kvs):=by
 unfold storedH dput;rcases c7 k t with⟨b1,b2,b3⟩ | ⟨q,d',v',b1,b2,b3,b4,b5⟩
 ·rw [b1,Mv (by simp),Mv b3];exact tP ⟨rfl,kk,rk,v,rd,rv⟩ t
 ·rw [b1,Mw (show (MA q).isSome=MC from rfl),Mw b5];exact tO k rd rv t
end
section
variable {w:MH} {K:Hj} {f:Fx} {Ds:MS} {ρ:zr} {cs:List OC} {te tk:TE} {O:MEnds} {i j:Nat} {kvs:Nf}
theorem rh {P:OC->Prop} (p:P (.dic [])):eW w K f (tN w) ρ P:=λσ H Q e q =>
 λa hn=>q (.dic []) a _ (.of_same (ye hn _) e.fd) hn ⟨[],zw,.nil⟩ p
theorem nE (hi:ρ[i]?=MA (MA (.own (f.M.length+j)))) (hc:cs[j]?=MA (.dic kvs)) (hl:kvs.length<=1000)
  (h:PEd K (f.withs Ds) te ρ λv=>PEd K (f.withs Ds) tk ρ λk=>eX k/\O.nx ρ (cs.set j (.dic (dput k v kvs)))) :
  PSm w K f Ds (vP te (oP (yt i) tk (cY w K))) ρ cs O:=λse σ H H2 E x n r b k=>by
 have hj:j<Ds.length:=by rw [<-x.len];exact (Hg.mp hc).1
 have hD:Ds[j]?=MA Ds[j]:=Hd hj;refine h σ H _ x.env λv vv H1 g1 r1 p1=>?_;have x1:=x.go g1 (x.env.mono g1);refine⟨_,yQ hi x1 hD,?_⟩;refine p1 σ H1 _ x1.env λkd kv H3 g3 r3 ⟨kt,p3⟩=>?_;have x3:=x1.go g3 (x1.env.mono g3);obtain⟨b',rfl⟩:=vq kt r3;obtain⟨xs,h1,h2⟩:=x3.own j _ _ hD hc;have rv:=Rep.mono g3.sm _ _ r1;refine⟨Ds[j],b',kd,xs,rfl,rfl,h1,λz hz=>⟨(yO h2 z hz).1,Rep.mono (zp _ _) _ _ (yO h2 z hz).2⟩,kt.1,Rep.mono (zp _ _) _ _ r3,by rw [cZ h2];exact hl,λu ru=>?_⟩;exact n _ _ _ _ (x3.put se hD (c':=.dic (dput kd v kvs)) ⟨_,zw,kZ kt.1 r3 rv ru h2⟩) p3
theorem Gp {P:MB->Prop} (hi:ρ[i]?=MA (MA (.own (f.M.length+j)))) (hc:cs[j]?=MA (.dic kvs)) (h:PEm w K f Ds tk ρ cs λk=>eX k/\∃ d,jG k kvs=MA d/\P d):PEm w K f Ds (tOp (dX w K) (yt i) tk) ρ cs P:=λse σ H H2 Q x q=>by
 have hj:j<Ds.length:=by rw [<-x.len];exact (Hg.mp hc).1
 have hD:Ds[j]?=MA Ds[j]:=Hd hj;refine⟨_,yQ hi x hD,?_⟩;refine h se σ H H2 _ x λk v H1 g1 r1 ⟨kt,d,hd,p⟩=>?_;have x1:=x.go g1 (x.env.mono g1);obtain⟨b,rfl⟩:=vq kt r1;obtain⟨xs,h1,h2⟩:=x1.own j _ _ hD hc;rcases c7 k h2 with⟨b1,b2,b3⟩ | ⟨pp,d',v',b1,b2,b3,b4,b5⟩
 ·rw [b2] at hd;cases hd
 ·rw [b2] at hd;cases hd;exact⟨Ds[j],b,k,xs,pp,v',rfl,rfl,h1,λz hz=>⟨(yO h2 z hz).1,Rep.mono (zp _ _) _ _ (yO h2 z hz).2⟩,kt.1,Rep.mono (zp _ _) _ _ r1,b1,b4,q _ _ H1 g1 b3 p⟩
theorem Ar (h:PEm w K f Ds te ρ cs O.rt):PSm w K f Ds (hJ te) ρ cs O:=λse σ H H2 E x n r b k =>
 h se σ H H2 _ x λd v H' g' r' p=>r d v ρ cs σ H' (x.go g' (x.env.mono g')) (Rep.mono yH d v r') p
end
noncomputable def Ck (K:Hj) (ns:M4) (v:MD):Bool:=match v with
 | .ref t=>(match K.lookup t with
  | some o=>o.cls == .type "tuple" && (match o.data with
   | .seq its _=>KTD.intsLook its.toList ns && decide (its.size<=1000)
   | _=>MG)
  | none=>MG)
 | _=>MG
noncomputable def wo (K:Hj) (a:Hm) (D:Nh):Bool:=!(a == sysModules) && (match K.lookup a with
 | some o=>o.cls == .type "dict" && o.dict.isNone && o.slots.isEmpty && (match o.data with
  | .dict es _=>KTD.rowsLook (Ck K) es.toList D
  | _=>MG)
 | none=>MG)
theorem iO:∀ {vs:MQ} {ns:M4},IntsAre vs ns->Vals (ns.map V.int) vs
 | _,_,.nil=>.nil
 | _,_,.cons n t h=>.cons ⟨t,rfl⟩ (iO h)
theorem EY {K:Hj} {ns:M4} {v:MD} (h:Ck K ns v=MC):∃ t,v=.ref t/\∀ H,SqT K H t (ns.map V.int):=by
 unfold Ck at h;split at h
 ·rename_i t;split at h
  ·rename_i o ho;rw [Hq] at h;obtain⟨h1,h2⟩:=h;split at h2
   ·rename_i its n hd;rw [Hq] at h2;exact⟨t,rfl,λH=>.inr ⟨o,its,n,ho,beq_iff_eq.mp h1,hd,IH (zY (MO h2.2)),iO (KTD.ints_of_look h2.1)⟩⟩
   ·cases h2
  ·cases h
 ·cases h
def Gq (K:Hj) (D:Nh) (tk:TE):TE:=λσ H Q=>tk σ H λy H1=>∃ x ns,y=.str x/\Mf x D=MA ns/\∀ t,(∀ H',SqT K H' t (ns.map V.int))->Q (.ref t) H1
theorem Au {X:Cx} {K:Hj} {x:Str} {a:Hm} {D:Nh} {key:Expr} {tk:TE} {p pos:Pos} (hK:X.K=K) (hg:Gl X x) (hm:X.mg x=MA (.ref a)) (hT:wo K a D=MC) (hk:PE X key tk) (hs:e9 key) (hd:(x == ("__debug__":Str))=MG:=by decide) :
  PE X (.Subscript (.Name x p) key pos) (Gq K D tk):=by
 subst hK;intro Mu s σ H Q I h;unfold wo at hT;rw [Hq] at hT;obtain⟨h0,hT⟩:=hT;split at hT
 case h_2=>cases hT
 case h_1 o ho =>
  simp only [Hq] at hT;obtain⟨⟨⟨e1,e2⟩,e3⟩,e4⟩:=hT;split at e4
  case h_2=>cases e4
  case h_1 es ep hdat =>
   have Mt:KTD.Rows (λns v=>Ck X.K ns v=MC) es.toList D:=KTD.rows_of_look (λ_ _ z=>z) e4;refine Subscript_ (e7 I hg hm ?_ hd);refine thn (hk Mu s σ H _ I h) λu s1 ⟨y,H1,I1,ry,z,ns,ey,dat,q⟩=>?_;subst ey;obtain⟨tk',rfl⟩:=ry;have ho1:s1.heap.get? a=MA o:=I1.kIn a o ho;have hT1:s1.TypeIs (.ref a) "dict":=⟨o,ho1,beq_iff_eq.mp e1⟩;obtain⟨v,hv,hr⟩:=Mt.find_some dat;obtain⟨t,rfl,sq⟩:=EY hr;refine subscriptTail_builtinR (x:=.ref t) hT1 Kx.lookup ?_ (hs _ _);unfold getItem
   try with_reducible refine Ik ?_
   apply Hf;refine wpAny_sequenceKey hT1 (by decide) ?_;apply Hf;refine wpAny_callSpecial?_slot (name:=JV "__getitem__") hT1 slot_dict_getitem (wpAny_call_entry slot_dict_getitem hT1 entry_dict_getitem ?_ (args_dict_getitem _ _));show HP _ _ (dictGet a (.str z tk') >>= _) _ _ s1;apply Hf;unfold dictGet
   try with_reducible refine Ik ?_
   apply Hf;apply wpAny_pyHash_str;apply Hf;refine KTD.kt_dictFind_strs (s:={ s1 with toks:=s1.toks+1 }) ho1 hdat (by obtain⟨l⟩:=es;simpa using Mt.exact) ?_;cases hi:es.findIdx? λe=>e.key.isStr z with
   | none =>
    exfalso;have hn:es.toList.find? (λe=>e.key.isStr z)=MF:=by
     rw [Lj];intro e he;have:=Array.findIdx?_eq_none_iff.mp hi e (Kp.mp he);simpa using this
    rw [hn] at hv;cases hv
   | some i =>
    obtain⟨hlt,hi1,hi2⟩:=Array.findIdx?_eq_some_iff_getElem.mp hi;have hval:es[i].val=.ref t:=by
     have hf:es.toList.find? (λe=>e.key.isStr z)=MA es[i]:=by
      rw [List.find?_eq_some_iff_getElem];refine⟨hi1,i,by simpa using hlt,by simp,λj hj=>?_⟩;have:=hi2 j hj;simpa using this
     rw [hf] at hv;exact ML hv
    apply Hf;refine wpAny_dictEntries (s:={ s1 with toks:=s1.toks+1 }) ho1 hdat (Hs ?_);rw [Ja hlt];refine Hs ⟨es[i].val,rfl,Hs ?_⟩;rw [hval];exact⟨rfl,.ref t,H1,I1.tok _,rfl,q t sq⟩
section
variable {K:Hj} {f:Fx} {ρ:zr} {P:MB->Prop} {tk:TE} {D:Nh}
theorem DQ (h:PEd K f tk ρ λy=>∃ x ns,y=.str x/\Mf x D=MA ns/\P (.tuple (ns.map .int))):PEd K f (Gq K D tk) ρ P:=λσ H Q e q =>
 h σ H _ e λy v H1 g1 r1 ⟨x,ns,ey,hd,p⟩=>by
  subst ey;exact⟨x,ns,cP.mp r1,hd,λt sq=>q _ _ H1 g1 (zR.mpr ⟨t,ns.map V.int,rfl,sq _,Reps.ints' ns⟩) p⟩
end
structure MinAt (h0:Heap) (its:MQ) (ds:M9) (as:MS):Prop where
 ra:ReadsAll h0 its ds as
 pl:∀ d∈ds,zA d=MC
 cp:∀ d∈ds,∀ e∈ds,vK d e=MC
 dp:∀ d∈ds,d.depth<=50
section
variable {w:MH} {K:Hj} {f:Fx} {Ds:MS} {ρ:zr} {cs:List OC} {O:MEnds} {tt:TT} {te:TE} {i j n:Nat}
theorem iP {H H' H2:Hp} {σ:St} (se:Sep f Ds) (x:CM w K f Ds H2 ρ cs σ H) (g:Goes f H H'):Goes (f.withs Ds) H H':=by
 have kp:∀ D∈Ds,H' D=H D:=λD hD=>by
  obtain⟨o,ho⟩:=x.env.fd.mm D (qS hD);have h1:hide H f D=MA o:=zI (λz=>z.elim (se.nf D hD) (se.nm D hD)) ho;rw [ho,(zZ (g.sm D o h1)).2]
 refine⟨λb o hb=>?_,⟨λp e=>?_,λb hb=>?_,x.env.fd.nm⟩,λb hb=>?_⟩
 ·obtain⟨n1,n2⟩:=zZ hb;have h1:hide H f b=MA o:=zI (λz=>n1 (z.elim .inl λz=>.inr (HJ _ z))) n2;exact zI n1 (zZ (g.sm b o h1)).2
 ·exact g.2.fd p e
 ·rcases HC.mp hb with h | h
  ·rw [kp b (JJ.mp h)];exact x.env.fd.mm b hb
  ·exact g.2.mm b h
 ·rcases HC.mp hb with h | h
  ·exact kp b (JJ.mp h)
  ·exact g.kp b h
theorem k7 {B:Bool->Prop} (h:PTd K f tt (ρ.map (freed f.M.length cs)) B):PTm w K f Ds tt ρ cs B:=λse σ H H2 Q x q =>
 h σ H Q (x.free se) λb H' g p=>q b H' (iP se x g) p
end
end L2
end
section
namespace L2
open PySem PySem.Spec PyProof.Rows
structure TM (K:Hj) (f:Fx) (a:Hm) (as:MS) (H2:Hp) (ρ:zr) (Mt:Nb) (σ:St) (H:Hp):Prop where
 env:EnvOk K (f.withs (a :: as)) ρ σ H
 sm:Same (hide H2 (f.withs (a :: as))) (hide H (f.withs (a :: as)))
 kp:∀ b∈f.M,H b=H2 b
 tab:TabAt H a as Mt
section
variable {P:MI} {w:MH} {A:MJ} {E:MD->ME->Prop} {s:ME} {I d:Hm} {o:Obj} {es:Array DictEntry} {ep i:Nat}
theorem rj {Q:MD->ME->Prop} (nd:(d == sysModules)=MG) (g:s.heap.get? d=MA o) (x:o.ExactDict) (y:o.data=.dict es ep)
  (q:Q (.ref s.heap.objs.size) { s with heap:=s.heap.push { cls:=.type "dict_keyiterator",data:=.fields #[.ref d,.int 0 0,.int es.size 0,.int ep 0] } }):HP (model P w) A (pyIter (.ref d)) Q E s:=by
 have T:s.TypeIs (.ref d) "dict":=⟨o,g,x.1⟩;refine wpAny_pyIter_slot T LS (wpAny_call_entry LS T PySem.F.entry_dict_iter ?_ (PySem.F.args_dict_iter_1 _));unfold Builtin.«dict.__iter__» Builtin.Dict.dictSlotNone Builtin.Dict.showsAll;apply Hf;apply Hf;apply wpAny_notOrdered_dict T;apply Hs;apply Hf;refine Hs (a:=d) ?_;apply Hf;rw [Mv (λz=>He (nd.symm.trans z))];apply Hs;apply Hf;apply wpAny_dictEntries g y;apply Hf;apply wpAny_dictEpoch g y;apply Hf;refine wpAny_newObj_type ?_ (by size_fits);exact Hs ⟨_,rfl, "dict_keyiterator",_,⟨_,HS _ rfl,rfl⟩,JL.lookup,q⟩
theorem iQ {Q:MR->ME->Prop} (hh:A.handled=MF) (t:s.heap.IsKeyIter I d i es.size ep) (g:s.heap.get? d=MA o) (y:o.data=.dict es ep)
  (q1:∀ e h',es[i]?=MA e->h'.IsKeyIter I d (i+1) es.size ep->JS I s.heap h'->Q (MA e.key) { s with heap:=h' })
  (q2:es[i]?=MF->∀ h',Heap.ExtBut I s.heap h'->Q MF { s with heap:=h' }):HP (model P w) A (pyNext (.ref I)) Q E s:=by
 obtain⟨oi,gi,ci,di⟩:=id t;have T:=t.typeIs;have own:Builtin.Dict_items.ownsTuple "dict_keyiterator"=MG:=by decide
 have nn:¬ ((Value.ref d == Value.none)=MC):=He;have pos:¬ ((i:Int)<0):=by omega
 unfold pyNext;apply Hf;apply wpAny_attempt;refine wpAny_callSpecial?_slot (name:=JV "__next__") T JL (wpAny_call_entry JL T PySem.F.entry_dict_keyiterator_next ?_ (PySem.F.args_dict_keyiterator_next_1 _));apply Hf;apply Hs;apply Hf;apply Hf;apply Hf;apply wpAny_typeNameOfWhole_keyiter T;apply Hs;apply Hf;apply wpAny_fieldsOf gi di;simp only [own,Iu,if_false];show HP _ _ (if (Value.ref d == Value.none)=MC then _ else _) _ _ s;rw [Mv nn];apply Hf;apply Hs;apply Hf;apply wpAny_dictEntries g y;rw [Mv (by simp)];apply Hf;apply Hs;apply Hf;apply wpAny_dictEpoch g y;rw [Mv (by simp)];apply Hs;cases hx:es[i]? with
 | some e =>
  simp only [pos,if_false,Km,hx];apply Hf;apply Hf;apply wpAny_typeNameOfWhole_keyiter T;apply Hs;apply Hf;apply wpAny_isOneOf_keyiter T;apply Hf (m:=setField (.ref I) 1 (rawInt ((i:Int)+1)));refine wpAny_setField gi di (by simp) ?_;have t':(s.heap.update I (Obj.mapFields (·.setIfInBounds 1 (rawInt ((i:Int)+1))))).IsKeyIter I d (i+1) es.size ep:=by
   refine⟨_,Kk _ gi (Obj.isFreed_of_fields (Obj.data_mapFields di _)),?_,?_⟩
   ·rw [Obj.cls_mapFields];exact ci
   ·rw [Obj.data_mapFields di];simp [rawInt]
  apply Hf;apply Ik;apply Hf;refine wpAny_isOneOf_keyiter (s:={ s with heap:=s.heap.update I (Obj.mapFields (·.setIfInBounds 1 (rawInt ((i:Int)+1)))) }) t'.typeIs ?_;exact Hs (Hs ⟨_,rfl,Hs (q1 e _ hx t' (J2 ..))⟩)
 | none =>
  simp only [pos,if_false,Km,hx];apply Hf;apply Hf;apply wpAny_typeNameOfWhole_keyiter T;apply Hs;apply Hf (m:=setField (.ref I) 0 .none);refine wpAny_setField gi di (by simp) ?_;apply Hf (m:=newExc (.type "StopIteration") []);simp only [newExc,newTuple];apply Hf;refine wpAny_newObj_type ?_ (by size_fits);apply Hf (m:=firstArgMember _ _);refine wpAny_of_eq (a:=Value.none) rfl ?_;refine wpAny_newObj_type ?_ (by size_fits);simp only [raiseNew];apply Hf;apply wpAny_handled;rw [show A.in1.handled=MF from hh];refine Hf (Hs ?_);apply wpAny_throw;apply Hf;refine wpAny_isInstance (T:="StopIteration") (b:=MC) ⟨_,HS _ rfl,rfl⟩ isSubtype_stop ?_;exact Hs (q2 hx _ (((J2 ..).extBut.push _).push _))
end
section
variable {P:MI} {w:MH} {A:MJ} {E:MD->ME->Prop} {s:ME} {d:Hm} {o:Obj} {es:Array DictEntry} {ep:Nat}
theorem wq (hh:A.handled=MF) (I:Hm) (ne:d≠I) (y:o.data=.dict es ep) :
  Walks P w A I [I,d] [I] es.size (λi v=>∃ e,es[i]?=MA e/\v=e.key) (λi h=>h.IsKeyIter I d i es.size ep/\h.get? d=MA o) where
 sub:=λb hb=>by rw [Hw.mp hb];exact Hk ..
 frame:=λi h h' ⟨t,g⟩ k=>⟨t.at (k I (Hk ..)),k d (Hl _ (Hk ..)) o g⟩
 item:=λi s Q E hi ⟨t,g⟩ q=>iQ hh t g y (λe h' he t' sb=>q e.key h' s.toks ⟨e,he,rfl⟩ ⟨t',(sb.2 d ne).trans g⟩ λb u hb hu=>(sb.2 b λz=>hb (by rw [z];exact Hk ..)).trans hu) λz=>by
  rw [Ja hi] at z;cases z
 done:=λs Q E ⟨t,g⟩ q=>iQ hh t g y (λe h' he=>by
  rw [JH (Ht _)] at he;cases he) λ_ h' eb=>q h' s.toks λb u hb hu=>eb b u (λz=>hb (by rw [z];exact Hk ..)) hu
 self:=λi s Q E st q=>wpAny_pyIter_keyiter st.1 q
theorem nF (nd:(d == sysModules)=MG) (x:o.ExactDict) (y:o.data=.dict es ep):PySem.W.KdlSrc P w "dict" d d es.size (λi v=>∃ e,es[i]?=MA e/\v=e.key) (λh=>h.get? d=MA o) where
 type:=λs g=>⟨o,g,x.1⟩
 there:=λh g=>⟨HD g,HD g⟩
 keep:=λh h' g k=>k d (.inl rfl) o g
 notList:=rfl
 notTuple:=rfl
 hint:=λA E s Q g q=>PySem.W.kdl_hint_dict ⟨o,g,x.1⟩ q
 iter:=λA s hh g=>⟨_,_,λE Q q=>rj nd g x y q,wq hh _ (HW (HD g)) y,⟨_,HS _ rfl,rfl,rfl⟩,Hr _ g⟩
theorem eY {vs:MQ} {κ:SortKind} {lt:Nat->Nat->Bool} {Q:MD->ME->Prop} (hh:A.handled=MF) (nd:(d == sysModules)=MG) (g:s.heap.get? d=MA o) (x:o.ExactDict) (y:o.data=.dict es ep) (ev:vs=es.toList.map (·.key)) (hz:vs.length<=Ir)
  (K:∀ tk,Asks P w A.in1.in1 { s with toks:=tk } κ vs lt)
  (q:∀ (h':Heap) tk D p c,Pm vs.length p->Up lt p vs.length->(∃ h1:Heap,(∀ b u,s.heap.get? b=MA u->h1.get? b=MA u)/\h1.objs.size<=D)->(∀ b u,s.heap.get? b=MA u->h'.get? b=MA u)->h'.get? D=MA (seqObj "list" (p.toList.map λi=>vs.getD i Value.none).toArray c)->Q (.ref D) { s with heap:=h',toks:=tk }) :
  HP (model P w) A (call (.builtin "sorted") [.ref d]) Q E s:=by
 have hn:es.size<=Ir:=by rw [ev,Hc,HF] at hz;exact hz
 refine Ln kind_sorted plain_sorted entry_sorted (args_sorted1 _) ?_;unfold Builtin.«sorted»;apply Hf (m:=checkCount "sorted" 1 1 _);apply Hs;apply Hf;refine PySem.W.kdu_collect (A:=A.in1) (nF nd x y) hh g hn λh1 tk acc k1 hacc=>?_;have ea:acc.toList=vs:=by
  rw [ev];refine JT λi=>?_;rw [Ho,Jp,Jp];by_cases hi:i<acc.size
  ·obtain⟨e,he,hv⟩:=hacc.2 i _ (Ja hi);rw [Ja hi,he,hv];rfl
  ·rw [JH (by omega),JH (by rw [<-hacc.1];omega)];rfl
 rw [ea]
 let h2':=h1.push (seqObj "list" vs.toArray 0)
 have at2:h2'.get? h1.objs.size=MA (seqObj "list" vs.toArray 0):=HS _ rfl;have keep:∀ b u,s.heap.get? b=MA u->b≠h1.objs.size/\h2'.get? b=MA u:=λb u eb =>
  ⟨HW (HD (k1 b u eb)),Hr _ (k1 b u eb)⟩
 apply Hf;refine wpAny_newList ?_ hz
 change HP _ _ _ _ _ { s with heap:=h2',toks:=tk }
 apply Hf;apply Ik;refine wpAny_call_entry slot_list_sort ⟨_,at2,rfl⟩ entry_list_sort ?_ (args_list_sort _);refine sY (s:={ s with heap:=h2',toks:=tk }) hz at2 (h0:=s.heap) keep (K tk) λh' p c x1 x2 x3 x4=>⟨_,rfl,Hs ⟨_,rfl,?_⟩⟩;exact q h' tk _ p c x1 x2 ⟨h1,k1,Ht _⟩ (λb u eb=>x3 b u (keep b u eb).1 (keep b u eb).2) x4
end
def rp (w:MH) (K:Hj):List V->Hp->VK->Prop:=λxs H Q=>∃ (a:Hm) (es:Ng) (T:String),xs=[.ref a]/\H a=MA (DicO w a es)/\cz K H es/\SortOk T (es.map (·.1))/\es.length<64 /\
 ∀ l p,H l=MF->Pm es.length p->Up (λi j=>ltD ((es.map (·.1)).getD i .none) ((es.map (·.1)).getD j .none)) p es.length->Q (.ref l) (upd H l (.lst (pick .non p (es.map λx=>.ref x.2.1))))
theorem bD {K:Hj} {H:Hp}:∀ {es:Ng},cz K H es->Reps K H (es.map (·.1)) (es.map λx=>V.ref x.2.1)
 | [],_=>.nil'
 | x :: es,h=>.cons' (h x (Hk ..)).2 (bD λz hz=>h z (Hl _ hz))
theorem bE:∀ es:Ng,Vals (es.map λx=>V.ref x.2.1) (es.map λx=>Value.ref x.2.1)
 | []=>.nil
 | x :: es=>.cons rfl (bE es)
theorem rA {X:Cx} (hc:X.calm=MC) (hu:X.A.units+64<IZ):yK X (.builtin "sorted") (rp X.w X.K):=by
 intro Mu s σ H xs us Q I r h;obtain⟨a,es,T,rfl,hS,ks,ok,few,q⟩:=h;obtain⟨u,rfl,rx⟩:=vals1 r;cases rx;obtain⟨⟨o,es',ep,S⟩,_⟩:=I.hok a _ hS;obtain⟨as,ra⟩:=jt I _ _ _ (bD ks) (bE es);have e2:X.A.in1.in1.units=X.A.units+1+1:=rfl;have ev:(es.map λx=>Value.ref x.2.1)=es'.toList.map (·.key):=by
  rw [S.el,Iw];rfl
 have lm:(es.map λx=>Value.ref x.2.1).length=es.length:=Hc _;have lm2:(es.map (·.1)).length=es.length:=Hc _;refine eY (I.ok.hd hc) S.ns S.ob S.ex S.da ev (by rw [lm];exact IH (zY (by omega))) (λtk=>kJ (s:={ s with toks:=tk }) ra ok (by omega) (.inl (by rw [lm2];exact few))) λh' tk D p c x1 x2 x3 x4 x5=>?_;rw [lm] at x1 x2;obtain⟨h1,k1,l1⟩:=x3;have hD:H D=MF:=(I.hok.kept k1).fresh l1;have x3:∀ b u,s.heap.get? b=MA u->b≠D:=λb u e=>HW (HZ (HD (k1 b u e)) l1);have lp:p.toList.length=es.length:=by rw [HF];exact x1.size
 obtain⟨m,hm,_⟩:=I.loc;refine⟨.ref D,upd H D (.lst (pick .non p (es.map λx=>.ref x.2.1))),I.laidL (t':=tk) (λb u _ e=>x4 b u e) ?_ (λm hm=>hm.keeps x4) x3 hD ⟨by unfold pick;rw [Hc];exact IH (zY (by omega)),_,c,dN (bE es) p,x5⟩,rfl,q D p hD x1 x2⟩;obtain⟨o2,g2⟩:∃ o2,s.heap.get? X.env.locals=MA o2:=let⟨u,_,_,hu,_⟩:=hm;⟨u,hu⟩
 exact⟨o2,x4 _ _ g2⟩
theorem nG {X:Cx} {K:Hj} {w:MH} (hc:X.calm=MC) (hw:X.w=w) (hK:X.K=K) (hu:X.A.units+64<IZ):yK X (.builtin "sorted") (rp w K):=hw▸hK▸rA hc hu
def DR (w:MH) (K:Hj) (tk tv:TE):TE:=λσ H Q=>∀ p,H p=MF->tk σ (upd H p (DicO w p [])) λkx H1=>tv σ H1 λvx H2=>cY w K (.ref p) kx vx H2 λH3=>Q (.ref p) H3
theorem nH {X:Cx} (hu:X.A.units+64<IZ):OpR X (IJ .NotIn) (rg X.w X.K MC):=by
 intro Mu s σ H x y v u Q I rx ry h;obtain⟨a,b,d,xs,rfl,rfl,hS,ks,kd,rd,q⟩:=h;cases rx;cases ry;obtain⟨hm,ns⟩:=gG I hS ks;have hu1:X.A.in1.units=X.A.units+1:=rfl;exact wpAny_notIn_heap (by show _+40<IZ;omega) (vL I kd rd) ns hm ⟨.bl _,H,I.tok _,rfl,q⟩
theorem k8 {X:Cx} {K:Hj} {w:MH} (hw:X.w=w) (hK:X.K=K) (hu:X.A.units+64<IZ):OpR X (IJ .NotIn) (rg w K MC):=hw▸hK▸nH hu
theorem Cm {X:Cx} {w:MH} {K:Hj} {pos:Pos} {k v:Expr} {tk tv:TE} (hw:X.w=w) (hK:X.K=K) (hu:X.A.units+64<IZ) (hk:PE X k tk) (hv:PE X v tv):PE X (.Dict [MA k] [v] pos) (DR w K tk tv):=by
 subst hw hK;intro Mu s σ H Q I h;refine wpAny_Dict_any rfl rfl (by simp) (HB rfl) ?_;have I0:=I.laid (a:=s.heap.objs.size) (t':=s.toks) (λ_ _ q=>Hr _ q) (Ht _) (DicO.ok (xs:=[]) (o:={ cls:=.type "dict",data:=.dict #[] }) (es:=#[]) (ep:=0) ⟨HS _ rfl,⟨rfl,rfl,rfl⟩,rfl,rfl,IE,beq_eq_false_iff_ne.mpr (Jc (HW (fm I)))⟩);refine pairTrees_cons_walk (thn (hk Mu _ σ _ _ I0 (h _ (I.hok.fresh (Ht _)))) λkv s1 ⟨kx,H1,I1,r1,q1⟩=>?_);refine thn (hv Mu s1 σ H1 _ I1 q1) λvv s2 ⟨vx,H2,I2,r2,q2⟩=>?_;refine pairTrees_nil_walk ?_;obtain⟨a,b,d,xs,ea,rfl,hS,ks,kd,rd,hl,q⟩:=q2;cases ea;cases r1;obtain⟨hm,ns⟩:=gG I2 hS ks;unfold storeAll;rw [Kg];refine Hf (Hf (wpAny_dictSet_heap (by show _+40<IZ;omega) (vL I2 kd rd) hm (λh' hm' sb=>?_) (IH (zY hl))));refine Hs ?_;show HP _ _ (forIn [] _ _) _ _ _;rw [Kq];refine Hs ?_;obtain⟨o',es',ep',x1,x2,x3,x4,x5,x6⟩:=hm';exact⟨.ref _,_,I2.write (t':=s2.toks+ym d) (x:=s.heap.objs.size) (e:=s.heap.objs.size) (by rw [hS];exact trivial) (.inl rfl) (λb u nb e=>(sb.2 b nb).trans e) ⟨o',x1⟩ (DicO.ok ⟨x1,x2,x3,x4,x6,ns⟩),rfl,q _ r2⟩
section
variable {w:MH} {K:Hj} {f:Fx} {Ds:MS} {ρ:zr} {cs:List OC} {te tk tv:TE} {O:MEnds} {i j n:Nat} {kvs:Nf}
theorem Gr {es:M9} {d:MB} (hi:ρ[i]?=MA (MA (.own (f.M.length+j)))) (hc:cs[j]?=MA (.lst (es++[d]))) (h:O.nx (ρ.set n (MA (.dat d))) (cs.set j (.lst es))):PSm w K f Ds (vP (Ex K "list" Gb (yt i)) (jA n)) ρ cs O:=λse σ H H2 E x nn r b k=>by
 have hj:j<Ds.length:=by rw [<-x.len];exact (Hg.mp hc).1
 have hD:Ds[j]?=MA Ds[j]:=Hd hj;obtain⟨vs,h0,rs⟩:=x.own j _ _ hD hc;obtain⟨vs',v,rfl,rs',rv⟩:∃ vs' v,vs=vs'++[v]/\Reps K (hide H (f.withs Ds)) es vs'/\Rep K (hide H (f.withs Ds)) d v:=by
  have key:∀ (es:M9) (vs:List V),Reps K (hide H (f.withs Ds)) (es++[d]) vs->∃ vs' v,vs=vs'++[v]/\Reps K (hide H (f.withs Ds)) es vs'/\Rep K (hide H (f.withs Ds)) d v:=λes=>by
   induction es with
   | nil =>
    intro vs q;obtain⟨v,vs',rfl,r1,r2⟩:=zG.mp q;rw [zT.mp r2];exact⟨[],v,rfl,.nil',r1⟩
   | cons e es ih =>
    intro vs q;obtain⟨v,vs',rfl,r1,r2⟩:=zG.mp q;obtain⟨us,z,rfl,r3,r4⟩:=ih vs' r2;exact⟨v :: us,z,rfl,.cons' r1 r3,r4⟩
  exact key es vs rs
 refine⟨_,yQ hi x hD,MM ⟨rfl,_,.of h0⟩,Ds[j],vs'++[v],v,rfl,rfl,h0,by simp,?_⟩;rw [List.dropLast_concat];have x1:=x.put se hD (o:=.lst vs') (c':=.lst es) ⟨vs',zw,rs'⟩;have hm:=Hu hD;refine nn _ _ _ _ ⟨x1.env.set n (x:=.dat d) ?_,x1.sm,x1.kp,x1.len,x1.own⟩ h;show Rep K (hide (upd H Ds[j] (.lst vs')) (f.withs Ds)) d v;rw [yN hm];exact rv
theorem Cn {neg:Bool} {B:Bool->Prop} (hi:ρ[i]?=MA (MA (.own (f.M.length+j)))) (hc:cs[j]?=MA (.dic kvs)) (h:PEm w K f Ds te ρ cs λd=>eX d/\B (if neg then !decide (d∈kvs.map (·.1)) else decide (d∈kvs.map (·.1)))) :
  PTm w K f Ds (mG (tOp (rg w K neg) te (yt i))) ρ cs B:=λse σ H H2 Q x q=>by
 have hj:j<Ds.length:=by rw [<-x.len];exact (Hg.mp hc).1
 have hD:Ds[j]?=MA Ds[j]:=Hd hj;refine h se σ H H2 _ x λd v H1 g1 r1 ⟨kd,p⟩=>?_;have x1:=x.go g1 (x.env.mono g1);obtain⟨b,rfl⟩:=vq kd r1;obtain⟨xs,h1,h2⟩:=x1.own j _ _ hD hc;refine⟨_,yQ hi x1 hD,Ds[j],b,d,xs,rfl,rfl,h1,λz hz=>⟨(yO h2 z hz).1,Rep.mono (zp _ _) _ _ (yO h2 z hz).2⟩,kd.1,Rep.mono (zp _ _) _ _ r1,_,rfl,?_⟩;have:(atKey xs d).isSome=decide (d∈kvs.map (·.1)):=by
  rcases c7 d h2 with⟨a1,_,a3⟩ | ⟨p',_,_,a1,_,_,_,a3⟩
  ·rw [a1,Mz a3];rfl
  ·rw [a1,Mx a3];rfl
 rw [this];exact q _ H1 g1 p
theorem Co {P:OC->Prop} (h:∀ p,PEd K (f.with p) tk ρ λk=>eX k/\PEd K (f.with p) tv ρ λv=>P (.dic [(k,v)])):eW w K f (DR w K tk tv) ρ P:=λσ H Q e q p hp=>by
 have np:=fresh_ne e.fd hp;have e0:EnvOk K (f.with p) ρ σ (upd H p (DicO w p [])):=o7 e hp;have top:(upd H p (DicO w p [])) p=MA (DicO w p []):=zw;refine h p σ _ _ e0 λk kx H1 g1 r1 ⟨kt,h2⟩=>h2 σ H1 _ (e0.mono g1) λv vx H2 g2 r2 pv=>?_;obtain⟨b,rfl⟩:=vq kt r1;have g12:=g1.trans g2;have hp2:H2 p=MA (DicO w p []):=(g12.kp p (Hk ..)).trans top;have rk:=Rep.mono g2.sm _ _ r1;refine⟨p,b,k,[],rfl,rfl,hp2,(λz hz=>nomatch hz),kt.1,Rep.mono (zp _ _) _ _ rk,HR _,λu ru=>?_⟩;have hw:hide (upd H2 p (DicO w p (storedH [] k b u))) (f.with p)=hide H2 (f.with p):=yy;have fo:FOk f (upd H2 p (DicO w p (storedH [] k b u))):=by
  have fo2:=g12.ok;refine⟨λc ec=>?_,λc hc=>?_,λc ec hc=>fo2.nm c ec (Hl _ hc)⟩
  ·obtain⟨a1,a2,a3,a4⟩:=fo2.fd c ec;exact⟨a1,a2,by rw [zz (λ(z:c=p)=>np (.inl (z▸ec)))];exact a3,a4⟩
  ·obtain⟨o,ho⟩:=fo2.mm c (Hl _ hc);exact⟨o,by rw [zz (λ(z:c=p)=>np (.inr (z▸hc)))];exact ho⟩
 have sm:Same (hide H f) (hide (upd H2 p (DicO w p (storedH [] k b u))) (f.with p)):=by
  rw [hw];exact (qH hp).trans g12.sm
 refine q (.dic [(k,v)]) p _ ⟨sm.trans jO,fo,λc hc=>?_⟩ hp ⟨_,zw,?_⟩ pv
 ·have ncp:c≠p:=λz=>np (.inr (z▸hc));rw [zz ncp,g12.kp c (Hl _ hc),zz ncp]
 ·rw [hw];exact kZ (xs:=[]) (kvs:=[]) kt.1 rk r2 ru .nil
abbrev EZ (K:Hj):List V->Hp->VK->Prop:=λxs H Q=>∃ p ys,xs=[V.ref p]/\((SqL K H p ys/\∀ l,H l=MF->Q (V.ref l) (upd H l (HO.tup ys))) \/ (SqT K H p ys/\Q (V.ref p) H))
theorem E3 {P:MB->Prop} (T:String) (hi:ρ[i]?=MA (MA (.own (f.M.length+j)))) (hc:cs[j]?=MA (.dic kvs)) (ok:SortOk T (kvs.map (·.1))) (few:kvs.length<64) (h:∀ es,es.Perm (kvs.map (·.1))->(es.Pairwise λd e=>ltD d e=MC)->P (.tuple es)) :
  PEm w K f Ds (tCB (EZ K) (yj (tCB (rp w K) (yj (yt i) jK)) jK)) ρ cs P:=λse σ H H2 Q x q=>by
 have hj:j<Ds.length:=by rw [<-x.len];exact (Hg.mp hc).1
 have hD:Ds[j]?=MA Ds[j]:=Hd hj;obtain⟨xs,h1,h2⟩:=x.own j _ _ hD hc;have ek:xs.map (·.1)=kvs.map (·.1):=by
  have key:∀ {xs:Ng} {kvs:Nf},Paired (EntR K (hide H (f.withs Ds))) xs kvs->xs.map (·.1)=kvs.map (·.1):=λ{xs kvs} t=>by
   induction t with
   | nil=>rfl
   | cons a _ ih=>rw [HI,HI,ih,a.1]
  exact key h2
 have el:=cZ h2;have ko:=yO h2;refine⟨_,yQ hi x hD,Ds[j],xs,T,rfl,h1,λz hz=>⟨(ko z hz).1,Rep.mono (zp _ _) _ _ (ko z hz).2⟩,by rw [ek];exact ok,by rw [el];exact few,λl p hl pm up=>?_⟩;have nl:=fresh_ne x.env.fd hl;have g1:Goes (f.withs Ds) H (upd H l (.lst (pick .non p (xs.map λz=>.ref z.2.1)))):=.of_same (ye hl _) x.env.fd;refine⟨l,_,rfl,.inl ⟨.inl (.inl zw),λl2 hl2=>?_⟩⟩;have g2:Goes (f.withs Ds) (upd H l (.lst (pick .non p (xs.map λz=>.ref z.2.1)))) (upd (upd H l (.lst (pick .non p (xs.map λz=>.ref z.2.1)))) l2 (.tup (pick .non p (xs.map λz=>.ref z.2.1)))):=.of_same (ye hl2 _) g1.ok;have rr:Reps K (hide H (f.withs Ds)) (pick .none p (xs.map (·.1))) (pick .non p (xs.map λz=>.ref z.2.1)):=dO (bD ko) p;have pr:(pick .none p (xs.map (·.1))).Perm (xs.map (·.1)):=dP pm (by rw [Hc]);have pu:=kK (ds:=xs.map (·.1)) pm (λa b hab hb=>up a b hab hb);refine q (.tuple (pick .none p (xs.map (·.1)))) _ _ (g1.trans g2) (zR.mpr ⟨l2,_,rfl,.of (zI (fresh_ne g1.ok hl2) zw),Reps.mono (g1.trans g2).sm _ _ rr⟩) (h _ ?_ pu);rw [<-ek];exact pr
end
section
variable {K:Hj} {f:Fx} {ρ:zr} {ts tu:TS} {O:DEnds} {te:TE} {i:Nat}
theorem gH (J:zr->Prop) (h1:PSd K f ts ρ { O with nx:=J }) (h2:∀ ρ',J ρ'->PSd K f tu ρ' O):PSd K f (aP ts tu) ρ O :=
 yq λσ H E e n r b k=>h1 σ H E e (λρ' σ' H' g' e' p=>n ρ' σ' H' g' e' (h2 ρ' p)) r b k
theorem Av {w:MH} {Ds:MS} {cs:List OC} {O:MEnds} (J:zr->List OC->Prop) (h1:PSm w K f Ds ts ρ cs { O with nx:=J }) (h2:∀ ρ' cs',J ρ' cs'->PSm w K f Ds tu ρ' cs' O):PSm w K f Ds (aP ts tu) ρ cs O :=
 jg λse σ H H2 E x n r b k=>h1 se σ H H2 E x (λρ' cs' σ' H' x' p=>n ρ' cs' σ' H' x' (h2 ρ' cs' p)) r b k
end
section
variable {K:Hj} {f:Fx} {ρ:zr} {wi:TI} {g:TG} {tt:TT} {own:Nat} {fr:M8} {tb:Hm->TB} {P:M9->Prop}
theorem cC {α:Type} {A B:α->MB} (p:α->Bool) (xs:List α) (h:PId K f wi ρ λds=>ds=xs.map A/\xs.length<=1000 /\
   (∀ D x ρ' es,x∈xs->OwnE own (frD fr ρ) ρ'->es.length<1000->PGd K (f.with D) g (A x) ρ' λρ2=>PTd K (f.with D) tt ρ2 λb=>b=p x/\if b=MC then PBd K f D (tb D) ρ2 es λρ3 es3=>OwnE own (frD fr ρ) ρ3/\es3=es++[B x] else OwnE own (frD fr ρ) ρ2)/\P ((xs.filter p).map B)) :
  PEdO K f (qE wi own fr g tt tb) ρ P :=
 qX (h.imp λds ⟨ed,hl,hs,hp⟩=>by
  subst ed;refine⟨λi ρ' es=>OwnE own (frD fr ρ) ρ'/\es=((xs.take i).filter p).map B,⟨⟨JB own MF,by simp,rfl⟩,by simp⟩,λD i d ρ' es hd ⟨ho,he⟩=>?_,λρ' es ⟨_,he⟩=>?_⟩
  ·rw [Ho] at hd;cases eq:xs[i]? with
   | none=>rw [eq] at hd;cases hd
   | some x =>
    rw [eq] at hd;cases hd;have hi:i<xs.length:=(Hg.mp eq).1;have tk:xs.take (i+1)=xs.take i++[x]:=by rw [Iv,eq];rfl
    have hb:es.length<1000:=by
     have:=Ij p (xs.take i);rw [Im] at this;rw [he,Hc];omega
    intro σ H v Q e r q;refine hs D x ρ' es (Hu eq) ho hb σ H v Q e r λρ2 σ2 H2 g2 e2 p2=>q ρ2 σ2 H2 g2 e2 (p2.imp λb hb2=>?_);obtain⟨eb,hb2⟩:=hb2;cases b with
    | false =>
     rw [Mv He] at hb2 ⊢;refine⟨hb2,?_⟩;rw [tk,IM,HH,Ip,<- eb,Mv He,he];simp
    | true =>
     rw [Mw rfl] at hb2 ⊢;intro h1 h2 σ3 H3 H4 W c k;exact hb2 h1 h2 σ3 H3 H4 W c λρ5 es5 σ5 H5 c5 ⟨o5,p5⟩=>k ρ5 es5 σ5 H5 c5 ⟨o5,by rw [p5,he,tk,IM,HH,Ip,<- eb,Mw rfl];rfl⟩
  ·rw [he,Hc,Ic];exact hp)
end
def rB (w:MH) (K:Hj):List V->Hp->VK->Prop:=λxs H Q=>∃ (a:Hm) (es:Ng),xs=[.ref a]/\H a=MA (DicO w a es)/\es.length<=1000/\∀ l,H l=MF->Q (.ref l) (upd H l (.lst (es.map λx=>.ref x.2.1)))
theorem rC {X:Cx} (hc:X.calm=MC):yK X (.type "list") (rB X.w X.K):=by
 intro Mu s σ H xs us Q I r h;obtain⟨a,es,rfl,hS,hl,q⟩:=h;obtain⟨u,rfl,rx⟩:=vals1 r;cases rx;obtain⟨⟨o,es',ep,S⟩,_⟩:=I.hok a _ hS;have sz:es'.size=es.length:=by rw [<-HF,S.el,Hc]
 refine PySem.W.kdl_call (nF S.ns S.ex S.da) (I.ok.hd hc) S.ob (by rw [sz];exact IH (zY hl)) λh' tk acc c k1 g1 hacc=>?_;have ea:acc.toList=es.map λx=>Value.ref x.2.1:=by
  have e2:(es.map λx=>Value.ref x.2.1)=es'.toList.map (·.key):=by rw [S.el,Iw];rfl
  rw [e2];refine JT λi=>?_;rw [Ho,Jp,Jp];by_cases hi:i<acc.size
  ·obtain⟨e,he,hv⟩:=hacc.2 i _ (Ja hi);rw [Ja hi,he,hv];rfl
  ·rw [JH (by omega),JH (by rw [<-hacc.1];omega)];rfl
 have hn:=I.hok.fresh (Ht s.heap.objs.size);refine⟨.ref _,_,I.laid (t':=tk) (a:=s.heap.objs.size) (o:=.lst (es.map λx=>.ref x.2.1)) k1 (Ht _) ⟨by rw [Hc];exact IH (zY hl),_,c,bE es,?_⟩,rfl,q _ hn⟩;rw [g1,<- ea]
theorem nI {X:Cx} {K:Hj} {w:MH} (hc:X.calm=MC) (hw:X.w=w) (hK:X.K=K):yK X (.type "list") (rB w K):=hw▸hK▸rC hc
def j9 (w:MH) (K:Hj) (kvs:Nf):Hp->V->Prop:=λHh v=>∃ a xs,v=.ref a/\Hh a=MA (DicO w a xs)/\Paired (EntR K Hh) xs kvs
def PEv (K:Hj) (f:Fx) (te:TE) (ρ:zr) (P:DV->Prop):Prop:=∀ (σ:St) (H:Hp) (Q:VK),EnvOk K f ρ σ H->(∀ x v H',Goes f H H'->RepV K f H' x v->P x->Q v H')->te σ H Q
def spV {γ:Type} (K:Hj) (n:Nat) (pre:γ->List DV->Prop) (post:γ->DV->Prop):Sp:=λvs H Q _=>∃ f xs c,RepVs K f H xs vs/\xs.length=n/\FOk f H/\pre c xs/\∀ r v H',Goes f H H'->RepV K f H' r v->post c r->Q v H'
def PSv (K:Hj) (f:Fx) (ts:TS) (ρ:zr) (R:DV->Prop):Prop:=∀ (σ:St) (H:Hp) (E:Ends),EnvOk K f ρ σ H->(∀ x v H',Goes f H H'->RepV K f H' x v->R x->E.rt v H')->ts E σ H
def Cp (w:MH) (K:Hj) (f:Fx) (Ds:MS) (ts:TS) (ρ:zr) (cs:List OC) (j:Nat) (R:OC->Prop):Prop:=Sep f Ds->∀ (σ:St) (H H2:Hp) (E:Ends),CM w K f Ds H2 ρ cs σ H ->
 (∀ D c ρ' cs' σ' H',CM w K f Ds H2 ρ' cs' σ' H'->Ds[j]?=MA D->cs'[j]?=MA c->R c->E.rt (.ref D) H')->ts E σ H
section
variable {w:MH} {K:Hj} {f:Fx} {ρ:zr} {Ds:MS} {cs:List OC} {te ta tk:TE} {ts tu:TS} {t:TA} {O:DEnds} {i j:Nat} {R:OC->Prop}
theorem v_var {P:DV->Prop} {x:DV} (h:ρ[i]?=MA (MA x)) (p:P x):PEv K f (yt i) ρ P:=λσ H Q e q=>by
 obtain⟨v,h1,h2⟩:=e.get i x h;exact⟨v,h1,q x v H (.refl e.fd) h2 p⟩
theorem rD {P:DV->Prop} {γ:Type} {n:Nat} {pre:γ->List DV->Prop} {post:γ->DV->Prop} {E:XK} (c:γ) (h:PAd K f t ρ λxs=>xs.length=n/\pre c xs/\∀ r,post c r->P r):PEv K f (cO (spV K n pre post) [] E t) ρ P:=λσ H Q e q =>
 h σ H _ e λxs vs H1 g1 r1 ⟨hl,hp,k⟩=>⟨f,xs,c,by rw [IX];exact r1,hl,g1.2,hp,λr v H' g' r' p'=>q r v H' (g1.trans g') r' (k r p')⟩
theorem rE (h:PEv K f te ρ λx=>O.nx (ρ.set i (MA x))):PSd K f (vP te (jA i)) ρ O:=λσ H E e n r b k =>
 h σ H _ e λx v H1 g1 r1 p=>n _ _ H1 g1 ((e.mono g1).set i (x:=x) r1) p
theorem iR {R:List DV->Prop} {u:TA} (h:PEv K f te ρ λx=>PAd K f u ρ λxs=>R (x :: xs)):PAd K f (yj te u) ρ R:=λσ H Q e q =>
 h σ H _ e λx v H1 g1 r1 p=>p σ H1 _ (e.mono g1) λxs vs H2 g2 r2 p2=>q (x :: xs) (v :: vs) H2 (g1.trans g2) (.cons (RepV.mono g2 r1) r2) p2
theorem eJ {P:MB->Prop} (h:PEv K f ta ρ λx=>∃ kvs,x=.mon (j9 w K kvs)/\PEd K f tk ρ λk=>eX k/\∃ d,jG k kvs=MA d/\P d):PEd K f (tOp (dX w K) ta tk) ρ P:=λσ H Q e q =>
 h σ H _ e λx v H1 g1 r1 ⟨kvs,ex,h2⟩=>h2 σ H1 _ (e.mono g1) λk kv H2 g2 r2 ⟨kt,d,hd,p⟩=>by
  subst ex;obtain⟨b,rfl⟩:=vq kt r2;obtain⟨a,xs,rfl,h3,h4⟩:=(RepV.mono g2 r1:RepV K f H2 (.mon (j9 w K kvs)) v) (hide H2 f) (Same.refl _);rcases c7 k h4 with⟨_,a2,_⟩ | ⟨p',d',v',a1,a2,a3,a4,_⟩
  ·rw [hd] at a2;cases a2
  ·rw [hd] at a2;cases a2;exact⟨a,b,k,xs,p',v',rfl,rfl,(zZ h3).2,λz hz=>⟨(yO h4 z hz).1,Rep.mono (zp _ _) _ _ (yO h4 z hz).2⟩,kt.1,Rep.mono (zp _ _) _ _ r2,a1,a4,q d v' H2 (g1.trans g2) a3 p⟩
theorem DS {R:DV->Prop} (h:PSd K f ts ρ { nx:=λρ'=>PSv K f tu ρ' R,rt:=λ_=>False }):PSv K f (aP ts tu) ρ R:=λσ H E e q =>
 h σ H _ e (λρ' σ' H' g' e' p=>p σ' H' E e' λx v H2 g2=>q x v H2 (g'.trans g2)) (λ_ _ _ _ _ z=>z.elim) (λ_ _ _ _ _ z=>z.elim) (λ_ _ _ _ _ z=>z.elim)
theorem E4 (h:PSm w K f Ds ts ρ cs { nx:=λρ' cs'=>Cp w K f Ds tu ρ' cs' j R,rt:=λ_=>False }):Cp w K f Ds (aP ts tu) ρ cs j R:=λse σ H H2 E x q =>
 h se σ H H2 _ x (λρ' cs' σ' H' x' p=>p se σ' H' H2 E x' q) (λ_ _ _ _ _ _ _ _ z=>z.elim) (λ_ _ _ _ _ z=>z.elim) (λ_ _ _ _ _ z=>z.elim)
theorem E5 {c:OC} (hi:ρ[i]?=MA (MA (.own (f.M.length+j)))) (hc:cs[j]?=MA c) (h:R c):Cp w K f Ds (hJ (yt i)) ρ cs j R:=λse σ H H2 E x q=>by
 have hj:j<Ds.length:=by rw [<-x.len];exact (Hg.mp hc).1
 have hD:Ds[j]?=MA Ds[j]:=Hd hj;exact⟨_,yQ hi x hD,q _ c ρ cs σ H x hD hc h⟩
theorem E6 {R:DV->Prop} (h:eW w K f te ρ λc=>i<ρ.length/\∀ D,Cp w K f [D] ts (ρ.set i (MA (.own (f.M.length+0)))) [c] 0 λc=>∃ kvs,c=.dic kvs/\R (.mon (j9 w K kvs))):PSv K f (aP (vP te (jA i)) ts) ρ R:=λσ H E e q=>by
 have se0:Sep f []:=⟨IE,(λ_ z=>nomatch z),(λ_ z=>nomatch z)⟩;have x0:CM w K f [] H ρ [] σ H:=⟨e,Same.refl _,λ_ _=>rfl,rfl,(λi D c z=>nomatch z)⟩;refine h σ H _ e λc D H1 g1 hn ho ⟨hi,p⟩=>?_;have nD:=fresh_ne e.fd hn;refine p D (se0.more e.fd hn) _ H1 H1 E (x0.more g1 hn ho hi) λD' c' ρ' cs' σ' H' y h1 h2 ⟨kvs,ec,r⟩=>?_;cases h1;subst ec;have z:=x0.less g1 hn y;obtain⟨xs,h3,h4⟩:=y.own 0 D _ rfl h2;exact q (.mon (j9 w K kvs)) _ H' ⟨z.sm,z.env.fd,z.kp⟩ (λH'' s=>⟨D,xs,rfl,s D _ (zI nD h3),EntR.mono (yH.trans s) h4⟩) r
end
theorem iS (k v:MB) (kvs:Nf):jG k (dput k v kvs)=MA v:=by
 unfold dput jG;by_cases h:k∈kvs.map (·.1)
 ·rw [Mw h]
  induction kvs with
  | nil=>cases h
  | cons p kvs ih =>
   rw [HI,Ih];by_cases e:p.1=k
   ·rw [Mw e,Mx (show p.1=k from e)];rfl
   ·rw [Mv e,Mz (show ¬ p.1=k from e)];rw [HI,Hv] at h;exact ih (h.resolve_left λz=>e z.symm)
 ·rw [Mv h,List.find?_append,Lj.mpr,Option.none_or,Ih,Mx rfl]
  ·rfl
  ·intro p hp;have:p.1≠k:=λz=>h (Hz.mpr ⟨p,hp,z⟩);simpa using this
theorem cD {k k':MB} (v:MB) (ne:k'≠k) (kvs:Nf):jG k' (dput k v kvs)=jG k' kvs:=by
 unfold dput jG;split
 ·rename_i hk;clear hk
  congr 1
  induction kvs with
  | nil=>rfl
  | cons p kvs ih =>
   rw [HI,Ih,Ih];by_cases e:p.1=k
   ·rw [Mw e,Mz (show ¬ (p.1,v).1=k' from λz=>ne (z.symm.trans e))];exact ih
   ·rw [Mv e];cases decide (p.1=k')
    ·exact ih
    ·rfl
 ·rw [List.find?_append,Ih,Mz (show ¬ (k,v).1=k' from λz=>ne z.symm)];simp
section
variable {γ:Type} {P:MI} {w:MH} {K:Hj} {mg:Str->MR} {base:Heap} {k:Nat} {x:Str} {st:Stmt} {N:MU} {ps:MU} {n:Nat} {pre:γ->List DV->Prop} {post:γ->DV->Prop}
theorem Def.okV (F:Def K mg x st ps) (S:FnScope N ps (zh st)) (hn:ps.length=n)
  (h:∀ (fa:Hm) (cdv:MD) (A:MJ) (outer:MV) (s:ME) (H:Hp) (E:XK),Room k (A.deeper (envOfC x (zh st) s.heap.objs.size fa cdv)) ->
   ∃ t,PSs (yd CX0 P w K mg base N x (zh st) fa cdv A outer s H E).nox (yo st) t/\∀ (f:Fx) (xs:List DV) (c:γ),xs.length=n->pre c xs->PSv K f t (qz N xs) (post c)) :
  FnIn P w K mg base (k+1) x ps (spV K n pre post):=by
 obtain⟨fa,fd,F1,F2,F3⟩:=F.ex;refine⟨fa,fd,F1.ok S (λvs H Q E h=>?_) (λcdv A outer s H vs Q E hr hs=>?_),F3,F1.kp,F2⟩
 ·obtain⟨f,xs,c,r,hl,_⟩:=h;rw [r.length,hl,hn]
 ·obtain⟨f,xs,c,r,hl,fo,hp,q⟩:=hs;obtain⟨t,h1,h2⟩:=h fa cdv A outer s H E hr;exact⟨t,h1,h2 f xs c hl hp (start N vs) H _ (jP r fo) λx v H' g r p=>q x v H' g r p⟩
end
end L2
end
section
namespace L2
open PySem PySem.Spec PyProof.Rows
end L2
end
section
namespace L2
open PySem PySem.Spec PyProof.Rows
open PySem.SeqAt
open PySem.AutoSeq1 (wpAny_loadPart')
def G6 (A:MJ) (s:ME) (y x:MD) (b:Bool):Prop :=
 ∀ (prog:MI) (w:MH) (E:MD->ME->Prop) (Q:MD->ME->Prop),Q (.bool b) s->HP (model prog w) A (richCompare .GtE y x) Q E s
inductive Gex (A:MJ) (s:ME):MQ->MQ->Bool->Prop where
 | nn:Gex A s [] [] MC
 | eq {v w vs ws b}:EqAt A s v w MC->Gex A s vs ws b->Gex A s (v :: vs) (w :: ws) b
 | ge {v w vs ws b}:EqAt A s v w MG->G6 A s v w b->vs.length=ws.length->Gex A s (v :: vs) (w :: ws) b
noncomputable def G7 (o:Obj):MR:=match o.data with
 | .fields vs=>vs[2]?
 | _=>MF
local macro_rules | `(tactic| walk_at "kd")=>`(tactic| with_reducible first
  | assumption
  | exact kd_pure _
  | exact kd_uns _
  | exact kd_load _
  | exact kd_loadPart _ _
  | exact kd_stack
  | exact kd_alloc _
  | exact kd_reg _
  | apply kd_ite
  | apply kd_bind
  | intro _
  | split)
def Dct (a:Hm) (o:MW) (h:Heap):Prop:=∃ u,h.get? a=MA u/\G7 u=MA .none/\∀ dx,o=MA dx->u.dict=MA dx
def CXf (P:MI) (w:MH):CXT:=λouter H s E e s'=>∃ a C o H',e=.ref a/\XLie P w outer H s a C H' s'/\Dct a o s'.heap/\E C o H'
def DT (a:Hm) (C:MD) (o:MW) (h:Heap):Prop:=∃ t,h.get? a=MA { cls:=C,dict:=o,data:=.fields #[.ref t,.none,.none,.none,.bool MG,.none] }
end L2
end
section
namespace L2
open PySem PySem.Spec PyProof.Rows PySem.Builtin Builtin Builtin.ObjectAttr
noncomputable def Aw (K:Hj) (C f:Hm) (bmB:MQ) (newId:String):Bool :=
 match K.lookup C with
 | some ⟨c0,_,.cls cd,sl⟩=>c0 == .type "type" && cd.mro.head? == MA (.ref C) && cd.hasDel == MG && cd.hasDict && PySem.W.tailIn K bmB cd.mro.tail && PySem.W.nsOkIn K cd.ns && Iy K cd.ns "__init__" == MA (MA (.ref f))
   && sl.toList.length == 6 && sl.toList[4]? == MA (MA (.builtin newId))
 | _=>MG
structure XCls (h:Heap) (C f:Hm) (bmB:MQ) (newId:String):Prop where
 ex:∃ nm q N bs bm sn sub ab col dd k0 k1 k2 k3 k5 mN,h.get? C=MA (excClassObj nm q C N bs bm MC sn sub ab col dd k0 k1 k2 k3 k5 newId)/\h.Ns N mN/\mN "__init__"=MA (.ref f)/\OwnTail h bmB bm
end L2
end
section
namespace L2
open PySem PySem.Spec PySem.W PyProof.Rows PySem.Calls PySem.Builtin Builtin Builtin.ObjectAttr
noncomputable abbrev bare (C:Hm) (o:MW) (t:Hm):Obj:={ cls:=.ref C,dict:=o,data:=.fields #[.ref t,.none,.none,.none,.bool MG,.none] }
noncomputable abbrev bmV:MQ:=[.type "ValueError",.type "Exception",.type "BaseException",.type "object"]
structure FldC (K:Hj) (C f D:Hm) (name:Str):Prop where
 wi:Aw K C f bmV "ValueError.__new__"=MC
 fn:PySem.W.typeIn K (.ref f)=MA (.type "function")
 ob:PySem.W.mroIn K C (.type "object")=MA MC
 sa:J5 K (.ref C) "__setattr__"=MA (MA (.builtin "object.__setattr__"))
 na:J5 K (.ref C) name=MA MF
 rd:PySem.W.readsIn K D (.type "type")=MC
 sp:Lu K (.ref D) "__getattribute__"=MA (MA (.builtin "type.__getattribute__"))
 kp:Ji K (.ref C)=MC
 fi:PySem.W.findCls K (.ref D) (.type "type") "__init__"=MA (.val (.builtin "ValueError.__init__"))
section
variable {X:Cx} {Mu:MT} {σ:St} {H H':Hp} {s s':ME} {h':Heap} {a b dx C D f:Hm} {o:HO} {t':Nat} {name:Str}
def E7 (C:Hm) (name:Str):Sp:=λvs H Q _=>∃ a y,vs=[.ref a,y]/\H a=MA (.ext (DT a (.ref C) MF))/\∀ dx,H dx=MF->dx≠a->Q .non (upd (upd H dx (.xd [(name,y)])) a (.ext (DT a (.ref C) (MA dx))))
end
end L2
end
section
namespace L2
open PySem PySem.Spec PyProof.Rows
end L2
end
section
namespace L2
open PySem PySem.Spec PySem.W PyProof.Rows PySem.Calls PySem.Builtin Builtin Builtin.ObjectAttr Builtin.Getset_descriptor
abbrev XD:=Option (Str×MB)
structure FnInF (P:MI) (w:MH) (K:Hj) (mg:Str->MR) (base:Heap) (k:Nat) (x:Str) (ps:MU) (sp:Sp):Prop where
 ex:∃ (f:Hm) (fd:FuncData),FnOk P w K mg base (CXf P w) k f fd ps sp/\mg x=MA (.ref f)/\Ji K (.ref f)=MC/\Binds K fd ps []
structure FCls (K:Hj) (mg:Str->MR) (x base:Str) (C:Hm) (name:Str) (st:Stmt) (ps:MU):Prop where
 ex:∃ (f D:Hm) (fd:FuncData),FldC K C f D name/\mg x=MA (.ref C)/\mg base=MA (.ref D)/\Fun K "__init__" (x ++ ".__init__") st f fd/\Binds K fd ps []
structure InitOk (P:MI) (w:MH) (K:Hj) (mg:Str->MR) (base:Heap) (k:Nat) (C:Hm) (name:Str):Prop where
 ex:∃ (f D:Hm) (fd:FuncData) (ps:MU),FldC K C f D name/\FnOk P w K mg base CX0 k f fd ps (E7 C name)/\Binds K fd ps []
theorem Gs {K:Hj} {f:Fx} {ρ:zr} {D:DEnds} {tt:TT} {ts tu:TS} (h:PTd K f tt ρ λ_=>True) (h1:PSd K f ts ρ D) (h2:PSd K f tu ρ D):PSd K f (xp tt ts tu) ρ D:=fY λσ H Q e q=>h σ H Q e λb H' g _=>q b H' g (by cases b <;> simpa)
section
variable {w:MH} {K:Hj} {f:Fx} {Ds:MS} {ts:TS} {te tk:TE} {ρ:zr} {cs:List OC} {O:MEnds} {i j n:Nat}
theorem DU (h:PEm w K f Ds te ρ cs λd=>O.nx (ρ.set n (MA (.dat d))) cs):PSm w K f Ds (vP te (jA n)) ρ cs O:=λse σ H H2 E x nn r b k =>
 h se σ H H2 _ x λd v H1 g1 r1 p1=>by
  have x1:=x.go g1 (x.env.mono g1);exact nn _ cs _ H1 ⟨x1.env.set n (x:=.dat d) r1,x1.sm,x1.kp,x1.len,x1.own⟩ p1
end
structure RoomM (k:Nat) (A:MJ):Prop where
 dp:A.depth+3 * k+5<recursionLimit
 un:A.units+16 * k+200<IZ
structure FnOkM (P:MI) (w:MH) (K:Hj) (mg:Str->MR) (base:Heap) (k:Nat) (f:Hm) (fd:FuncData) (ps:MU) (sp:Hm->Sp):Prop where
 len:∀ a vs H Q E,sp a vs H Q E->vs.length=ps.length
 run:∀ (A:MJ) (outer:MV) (s:ME) (H:Hp) (args:Args) (us:MQ) (vs:List V) (Q:VK) (a:Hm),A.handled=MA (.ref a)->RoomM k A->Env0 P w K mg base A outer s H->BindsTo s fd args (ps.zip us)->Vals vs us->sp a vs H Q E0 ->
  codeAny (model P w) A (.call (.ref f) args) (CR CX0 outer P w H s Q E0) s
structure FnInM (P:MI) (w:MH) (K:Hj) (mg:Str->MR) (base:Heap) (k:Nat) (x:Str) (ps:MU) (sp:Hm->Sp):Prop where
 ex:∃ (f:Hm) (fd:FuncData),FnOkM P w K mg base k f fd ps sp/\mg x=MA (.ref f)/\Ji K (.ref f)=MC/\Binds K fd ps []
structure TN (K:Hj) (f:Fx) (a:Hm) (as:MS) (H2:Hp) (ρ:zr) (R:Option (Nb)) (σ:St) (H:Hp):Prop where
 env:EnvOk K (f.withs (a :: as)) ρ σ H
 sm:Same (hide H2 (f.withs (a :: as))) (hide H (f.withs (a :: as)))
 kp:∀ b∈f.M,H b=H2 b
 tab:∀ Mt,R=MA Mt->TabAt H a as Mt
end L2
end
section
namespace L2
open PySem PySem.Spec PyProof.Rows
section
variable {w:MH} {K:Hj} {f:Fx} {Ds:MS} {ρ:zr} {cs:List OC} {g:TG} {ts:TS} {O:MEnds} {i j:Nat}
theorem E8 {es:M9} (hi:ρ[i]?=MA (MA (.own (f.M.length+j)))) (hc:cs[j]?=MA (.lst es)) (J:Nat->zr->Prop) (j0:J 0 ρ)
  (js:∀ (n:Nat) e ρ',es[n]?=MA e->J n ρ'->PGd K (f.withs Ds) g e ρ' λρ2=>PSm w K f Ds ts ρ2 cs { O with nx:=λρ3 cs3=>cs3=cs/\J (n+1) ρ3,ct:=λρ3 cs3=>cs3=cs/\J (n+1) ρ3,bk:=O.nx }) (jd:∀ ρ',J es.length ρ'->O.nx ρ' cs) :
  PSm w K f Ds (uJ (fN K (yt i)) g ts) ρ cs O:=λse σ H H2 E x n r b k=>by
 have hj:j<Ds.length:=by rw [<-x.len];exact (Hg.mp hc).1
 have hD:Ds[j]?=MA Ds[j]:=Hd hj;obtain⟨vs0,h0,_⟩:=x.own j _ _ hD hc;refine⟨_,yQ hi x hD,Ds[j],rfl,⟨vs0,.of h0⟩,?_⟩;refine⟨λq m σ' H'=>∃ ρ',CM w K f Ds H ρ' cs σ' H'/\J q ρ'/\m+q=es.length,⟨es.length,ρ,x.self,j0,rfl⟩,λq m σ' H' ⟨ρ',x',p,hm⟩=>?_⟩;obtain⟨vs,g1,g2⟩:=x'.own j _ _ hD hc;have hl2:=g2.length;by_cases hq:q<es.length
 ·obtain⟨z2,hz2,rz2⟩:=g2.get (Hd hq);refine .inr ⟨⟨vs,z2,.of g1,hz2⟩,λσ3 H3=>∃ ρ3,CM w K f Ds H ρ3 cs σ3 H3/\J (q+1) ρ3,λσ3 H3 ⟨ρ3,x3,p3⟩=>⟨m - 1,by omega,ρ3,x3,p3,by omega⟩,λv H3 hy=>?_⟩;obtain⟨rfl,hy2⟩:=hy;have e2:=hy2 vs (.of g1);rw [hz2] at e2;cases e2;refine js q _ ρ' (Hd hq) p σ' _ _ _ x'.env rz2 λρ4 σ4 H4 g4 e4 p4=>?_;have x4:=x'.go g4 e4;exact p4 se σ4 H4 H _ x4 (λρ5 cs5 σ5 H5 x5 ⟨ec,p5⟩=>⟨ρ5,ec▸x5,p5⟩) (λd v ρ5 cs5 σ5 H5 x5=>r d v ρ5 cs5 σ5 H5 (x.trans x5)) (λρ5 cs5 σ5 H5 x5=>n ρ5 cs5 σ5 H5 (x.trans x5)) (λρ5 cs5 σ5 H5 x5 ⟨ec,p5⟩=>⟨ρ5,ec▸x5,p5⟩)
 ·have ei:q=es.length:=by omega
  subst ei;exact .inl ⟨⟨vs,.of g1,JA hl2⟩,n ρ' cs σ' H' (x.trans x') (jd ρ' p)⟩
end
structure GoesW (f:Fx) (As:MS) (H2 H':Hp):Prop where
 sm:Same (hide H2 (f.withs As)) (hide H' f)
 ok:FOk f H'
 kp:∀ b∈f.M,H' b=H2 b
structure FnAt (P:MI) (w:MH) (K:Hj) (mg:Str->MR) (base:Heap) (CX:CXT) (k:Nat) (a:Hm) (sp:Sp):Prop where
 ex:∃ (fd:FuncData) (ps:MU),FnOk P w K mg base CX k a fd ps sp/\Ji K (.ref a)=MC/\Binds K fd ps []
end L2
end
section
namespace L2
open PySem PySem.Spec PyProof.Rows
def Ax (K:Hj):R2:=λx y H Q=>∃ d ds,Rep K H d x/\Rep K H (.tuple ds) y/\d.canLay0=MC/\(∀ e∈ds,e.canLay0=MC)/\d.depth<=50/\Q (.bl (ds.any λe=>HU e d)) H
theorem Cq {X:Cx} (hu:X.A.units+64<IZ):OpR X (IJ .In) (Ax X.K):=by
 intro Mu s σ H x y v u Q I rx ry ⟨d,ds,h1,h2,c1,c2,dd,q⟩;obtain⟨a,xs,rfl,hq,hr⟩:=zR.mp h2;cases ry;obtain⟨bs,rb⟩:=je I d x v h1 rx;obtain⟨its,r,pl,_⟩:=I.tuple hq;have hu':X.A.in1.units+60<IZ:=by show X.A.units+1+60<IZ;omega
 refine SeqAt.in_tupleAt (eqR s.heap d) pl (λw hw=>gk I rb c1 dd hu' hr r c2 w (by simpa using hw)) ⟨.bl _,H,I,rfl,?_⟩;rw [show its.toArray.any (eqR s.heap d)=its.any (eqR s.heap d) by simp,kF I hr r c2];exact q
theorem nJ {X:Cx} {K:Hj} (hK:X.K=K) (hu:X.A.units+64<IZ):OpR X (IJ .In) (Ax K):=hK▸Cq hu
theorem Ay {K:Hj} {f:Fx} {ρ:zr} {P:MB->Prop} {ta tb:TE} (h:PEd K f ta ρ λd=>PEd K f tb ρ λy=>∃ ds,y=.tuple ds/\d.canLay0=MC/\(∀ e∈ds,e.canLay0=MC)/\d.depth<=50/\P (.bool (ds.any λe=>HU e d))):PEd K f (tOp (Ax K) ta tb) ρ P:=λσ H Q e q =>
 h σ H _ e λd v H1 g1 r1 p1=>p1 σ H1 _ (e.mono g1) λy w H2 g2 r2 ⟨ds,ey,c1,c2,dd,p2⟩=>by
  subst ey;exact⟨d,ds,Rep.mono ((g2.sm).trans (zp _ _)) _ _ r1,Rep.mono (zp _ _) _ _ r2,c1,c2,dd,q _ _ H2 (g1.trans g2) (zW.mpr rfl) p2⟩
end L2
end
section
namespace L2
open PySem PySem.Spec PyProof.Rows
structure Src (prog:MI) (w:MH) (j:Hm) (xs:Array MD) (dep:MS) (St:Nat->Heap->Prop):Prop where
 own:j∈dep
 keep:∀ {k:Nat} {h h':Heap},St k h->(∀ c∈dep,∀ o,h.get? c=MA o->h'.get? c=MA o)->St k h'
 there:∀ {k:Nat} {h:Heap},St k h->∃ o,h.get? j=MA o
 item:∀ {A:MJ} {E:MD->ME->Prop} {s:ME} {k:Nat} {x:MD} {Q:MD->ME->Prop},St k s.heap->xs[k]?=MA x->(∀ h',St (k+1) h'->JS j s.heap h'->Q x { s with heap:=h' })->HP (model prog w) A (Lo (.ref j)) Q E s
 stop:∀ {A:MJ} {E:MD->ME->Prop} {s:ME} {k:Nat} {Q:MD->ME->Prop},A.handled=MF->St k s.heap->xs[k]?=MF->(∀ h' e,Heap.ExtBut j s.heap h'->(∃ o,h'.get? e=MA o/\o.cls=.type "StopIteration")->E (.ref e) { s with heap:=h' })->HP (model prog w) A (Lo (.ref j)) Q E s
section
variable {prog:MI} {w:MH} {A:MJ} {E:MD->ME->Prop} {s:ME}
structure Far (z q1 q2 j1 j2:Hm) (e1 e2:MS):Prop where
 q1z:q1≠z
 q2z:q2≠z
 q12:q1≠q2
 j12:j1≠j2
 q1j1:q1≠j1
 q1j2:q1≠j2
 z1:z∉e1
 z2:z∉e2
 o1:q2∉e1
 o2:q2∉e2
 d12:j2∉e1
 d21:j1∉e2
end
end L2
end
section
namespace L2
open PySem PySem.Spec PyProof.Rows
end L2
end
section
namespace L2
open PySem PySem.Spec PyProof.Rows
section
variable {w:MH} {K:Hj} {f:Fx} {Ds:MS} {ρ:zr} {cs:List OC} {te:TE} {O:MEnds} {i j n:Nat} {kvs:Nf}
def nK (φ:Hp->HO->Prop):Hp->V->Prop:=λHh v=>∃ a o,v=.ref a/\Hh a=MA o/\φ Hh o
noncomputable def k9 (w:MH) (K:Hj) (n:Nat) (cs:List OC):Option DV->Option DV
 | some (.own k)=>if k<n then MA (.own k) else match cs[k - n]? with
  | some (.lst es)=>MA (.dat (.list es))
  | some (.dic kvs)=>MA (.mon (j9 w K kvs))
  | some (.gen φ)=>MA (.mon (nK φ))
  | _=>MF
 | x=>x
theorem CM.freeD {σ:St} {H H2:Hp} (se:Sep f Ds) (x:CM w K f Ds H2 ρ cs σ H):EnvOk K f (ρ.map (k9 w K f.M.length cs)) σ H:=by
 have e0:=x.free se;refine⟨by rw [Hc];exact x.env.len,λq z hz=>?_,e0.fd⟩;rw [Ho] at hz;cases e:ρ[q]? with
 | none=>rw [e] at hz;cases hz
 | some z0 =>
  rw [e] at hz;have old:∀ z',freed f.M.length cs z0=MA z'->∃ v,σ[q]?=MA (MA v)/\RepV K f H z' v:=λz' h=>e0.get q z' (by rw [Ho,e];exact congrArg MA h);cases z0 with
  | none=>cases hz
  | some z0 =>
   cases z0 with
   | dat d=>cases hz;exact old _ rfl
   | feed=>cases hz;exact old _ rfl
   | exc C=>cases hz;exact old _ rfl
   | mon φ=>cases hz;exact old _ rfl
   | own k =>
    have hz':(if k<f.M.length then MA (DV.own k) else match cs[k - f.M.length]? with | some (.lst es)=>MA (.dat (.list es)) | some (.dic kvs)=>MA (.mon (j9 w K kvs)) | some (.gen φ)=>MA (.mon (nK φ)) | _=>MF)=MA z:=ML hz;have hold:freed f.M.length cs (MA (.own k))=(if k<f.M.length then MA (DV.own k) else match cs[k - f.M.length]? with | some (.lst es)=>MA (.dat (.list es)) | _=>MF):=rfl;by_cases hk:k<f.M.length
    ·rw [Mw hk] at hz' hold;cases hz';exact old _ hold
    ·rw [Mv hk] at hz' hold;cases ec:cs[k - f.M.length]? with
     | none=>rw [ec] at hz';cases hz'
     | some c =>
      rw [ec] at hz' hold;cases c with
      | lst es=>cases hz';exact old _ hold
      | set ks=>cases hz'
      | dic kvs =>
       cases hz';obtain⟨v,a1,b,h3,h4⟩:=x.env.get q _ e;subst h4;have h3':(Ds.reverse++f.M).reverse[k]?=MA b:=h3;rw [JE,Kr,HL (by simpa using LN.mp hk),KA] at h3';obtain⟨xs,h5,h6⟩:=x.own _ _ _ h3' ec;have hb:=Hu h3';exact⟨_,a1,λH' s=>⟨b,xs,rfl,s b _ (zI (λz=>z.elim (se.nf b hb) (se.nm b hb)) h5),EntR.mono (yH.trans s) h6⟩⟩
      | gen φ =>
       cases hz';obtain⟨v,a1,b,h3,h4⟩:=x.env.get q _ e;subst h4;have h3':(Ds.reverse++f.M).reverse[k]?=MA b:=h3;rw [JE,Kr,HL (by simpa using LN.mp hk),KA] at h3';obtain⟨o,h5,h6⟩:=x.own _ _ _ h3' ec;have hb:=Hu h3';exact⟨_,a1,λH' s=>⟨b,o,rfl,s b _ (zI (λz=>z.elim (se.nf b hb) (se.nm b hb)) h5),h6 _ (yH.trans s)⟩⟩
end
section
variable {K:Hj} {f:Fx} {ρ:zr} {R:List DV->Prop} {i j m n:Nat} {d0 d1 d2 d3:MB}
theorem lg (h0:ρ[i]?=MA (MA (.dat d0))) (h:R [.dat d0]):PAd K f (yj (yt i) jK) ρ R:=zq (zi h0 (zL h))
theorem eZ (h0:ρ[i]?=MA (MA (.dat d0))) (h1:ρ[j]?=MA (MA (.dat d1))) (h:R [.dat d0,.dat d1]):PAd K f (yj (yt i) (yj (yt j) jK)) ρ R:=zq (zi h0 (lg h1 h))
theorem Gu (h0:ρ[i]?=MA (MA (.dat d0))) (h1:ρ[j]?=MA (MA (.dat d1))) (h2:ρ[m]?=MA (MA (.dat d2))) (h:R [.dat d0,.dat d1,.dat d2]):PAd K f (yj (yt i) (yj (yt j) (yj (yt m) jK))) ρ R:=zq (zi h0 (eZ h1 h2 h))
end
theorem perm_map_inv {α β:Type} {F:α->β} {l:List β} {m:List α} (h:l.Perm (m.map F)):∃ m':List α,m'.Perm m/\l=m'.map F:=by
 generalize e:m.map F=k at h
 induction h generalizing m with
 | nil=>exact⟨m,.refl _,e.symm⟩
 | cons x _ ih =>
  cases m with
  | nil=>cases e
  | cons a m =>
   injection e with e1 e2;obtain⟨m',p,r⟩:=ih e2;exact⟨a :: m',p.cons a,by rw [HI,e1,r]⟩
 | swap x y l =>
  cases m with
  | nil=>cases e
  | cons a m =>
   cases m with
   | nil=>injection e with _ e;cases e
   | cons b m =>
    injection e with e1 e2;injection e2 with e2 e3;exact⟨b :: a :: m,.swap a b m,by rw [HI,HI,e1,e2,e3]⟩
 | trans _ _ ih1 ih2 =>
  obtain⟨m',p,r⟩:=ih2 e;obtain⟨m'',p',r'⟩:=ih1 r.symm;exact⟨m'',p'.trans p,r'⟩
abbrev FD (K:Hj) (x:Str) (st:Stmt) (f:Hm) (od an:MW) (sl:Array (MR)) (oc kV dc pm cd ct:MD):Prop:=Iy K HX x=MA (MA (.ref f))/\K.lookup f=MA ⟨oc,od,.func (Jl x x (ji st) (yo st) (zh st) .none kV dc pm an cd ct),sl⟩/\IK K cd x=MC/\Ji K (.ref f)=MC
theorem Az {K:Hj} {h:Heap} {mg:Str->MR} {x:Str} {st:Stmt} {f:Hm} {od an:MW} {sl:Array (MR)} {oc kV dc pm cd ct:MD} (X:K.In h) (G:h.Ns HX mg) (a:FD K x st f od an sl oc kV dc pm cd ct) {ps:MU}
  (hb:∀ (kV doc pm:MD) (an:MW) (cdv ct:MD) (us:MQ),us.length=ps.length->bindArgs (Jl x x (ji st) (yo st) (zh st) .none kV doc pm an cdv ct) ⟨us,[]⟩=pure (ps.zip us)):Def K mg x st ps :=
 ⟨f,_,oY a.2.1 a.2.2.1 a.2.2.2,(oY (st:=st) a.2.1 a.2.2.1 a.2.2.2).binds hb,Jz X G a.1⟩
def PAm (w:MH) (K:Hj) (f:Fx) (Ds:MS) (t:TA) (ρ:zr) (cs:List OC) (R:List DV->Prop):Prop:=Sep f Ds->∀ (σ:St) (H H2:Hp) (Q:List V->Hp->Prop),CM w K f Ds H2 ρ cs σ H->(∀ xs vs H',Goes (f.withs Ds) H H'->RepVs K (f.withs Ds) H' xs vs->R xs->Q vs H')->t σ H Q
section
variable {w:MH} {K:Hj} {f:Fx} {Ds:MS} {ρ:zr} {cs:List OC} {te tk:TE} {t:TA} {O:MEnds} {i j:Nat} {R:List DV->Prop} {P:MB->Prop} {es:M9}
theorem E9 (h:R []):PAm w K f Ds jK ρ cs R:=λse σ H H2 Q x q=>q [] [] H (.refl x.env.fd) .nil h
theorem lh (h:PEm w K f Ds te ρ cs λd=>PAm w K f Ds t ρ cs λxs=>R (.dat d :: xs)):PAm w K f Ds (yj te t) ρ cs R:=λse σ H H2 Q x q =>
 h se σ H H2 _ x λd v H1 g1 r1 p1=>p1 se σ H1 H2 _ (x.go g1 (x.env.mono g1)) λxs vs H3 g3 r3 p3=>q (.dat d :: xs) (v :: vs) H3 (g1.trans g3) (.cons (RepV.mono (x:=.dat d) g3 r1) r3) p3
theorem Fb (h:PAm w K f Ds t ρ cs λxs=>∃ ds,vJ xs=MA ds/\ds.length<=1000/\P (.tuple ds)):PEm w K f Ds (BW t) ρ cs P:=λse σ H H2 Q x q =>
 h se σ H H2 _ x λxs vs H1 g1 r1 ⟨ds,ea,hl,p⟩=>by
  have rs:=aj r1 ea;refine⟨by rw [rs.length];exact IH (zY hl),λl hn=>?_⟩;have g2:Goes (f.withs Ds) H1 (upd H1 l (.tup vs)):=.of_same (ye hn _) g1.2;exact q (.tuple ds) _ _ (g1.trans g2) (zR.mpr ⟨l,vs,rfl,.of (zI (fresh_ne g1.2 hn) zw),Reps.mono g2.1 ds vs rs⟩) p
end
end L2
end
section
namespace L2
open PySem PySem.Spec PyProof.Rows
end L2
end
section
open PySem PySem.Spec PyProof.Rows
namespace L2
end L2
end
section
namespace L2
open PySem PySem.Spec PyProof.Rows
end L2
end
section
namespace L2
open PySem PySem.Spec PyProof.Rows
end L2
end
section
namespace L2
open PySem PySem.Spec PyProof.Rows
structure TQ (K:Hj) (f:Fx) (a:Hm) (as:MS) (H2:Hp) (ρ:zr) (Mt:List (List MB)) (σ:St) (H:Hp):Prop where
 env:EnvOk K (f.withs (a :: as)) ρ σ H
 sm:Same (hide H2 (f.withs (a :: as))) (hide H (f.withs (a :: as)))
 kp:∀ b∈f.M,H b=H2 b
 top:H a=MA (.lst (as.map .ref))
 nd:(a :: as).Nodup
 len:as.length=Mt.length
 row:∀ (i:Nat) x r,as[i]?=MA x->Mt[i]?=MA r->∃ vs,H x=MA (.lst vs)/\Reps K (hide H (f.withs (a :: as))) r vs
end L2
end
section
namespace L2
open PySem PySem.Spec PyProof.Rows
inductive PEs (X:Cx):Ni->List (TE×TE)->Prop where
 | nil:PEs X [] []
 | cons {k v:Expr} {tk tv:TE} {es:Ni} {ts:List (TE×TE)}:PE X k tk->PE X v tv->PEs X es ts->PEs X ((k,v) :: es) ((tk,tv) :: ts)
inductive RelPs:List (V×V)->List (MD×MD)->Prop where
 | nil:RelPs [] []
 | cons {k v:V} {a b:MD} {l:List (V×V)} {us:List (MD×MD)}:RelV k a->RelV v b->RelPs l us->RelPs ((k,v) :: l) ((a,b) :: us)
inductive RepP (K:Hj) (Hh:Hp):Nf->List (V×V)->Prop where
 | nil:RepP K Hh [] []
 | cons {k v:MB} {a b:V} {l:Nf} {us:List (V×V)}:Rep K Hh k a->Rep K Hh v b->RepP K Hh l us->RepP K Hh ((k,v) :: l) ((a,b) :: us)
end L2
end
section
set_option maxHeartbeats 400000
namespace L2
open PySem PySem.Spec PyProof.Rows
structure PEw (X:Cx) (e:Expr) (t:TE):Prop where
 pe:PE X e t
structure PEsW (X:Cx) (es:Ni) (ts:List (TE×TE)):Prop where
 pes:PEs X es ts
def rF (w:MH) (K:Hj) (D:Hm) (tk tv:TE):TB:=λσ H Q=>tk σ H λk H1=>tv σ H1 λv H2=>cY w K (.ref D) k v H2 λH3=>Q σ H3
def rG (w:MH) (wi:TI) (own:Nat) (fr:M8) (g:TG) (tt:TT) (tb:Hm->TB):TE:=λσ H Q=>wi σ H λJ H1=>∀ D,H1 D=MF ->
 eC J g tt (tb D) (jm own fr σ) (upd H1 D (DicO w D [])) λ_ H2=>Q (.ref D) H2
theorem AA {X:Cx} {w:MH} {K:Hj} {D:Hm} {kx vx:Expr} {tk tv:TE} {pos:Pos} (hw:X.w=w) (hK:X.K=K) (hu:X.A.units+64<IZ) (hk:PE X kx tk) (hv:PE X vx tv) :
  PB X (do
   let kv <- eval kx X.env
   let vv <- holding [kv] (eval vx X.env)
   standAt pos
   holding [kv,vv] (dictSet D kv vv)) (rF w K D tk tv):=by
 subst hw hK;intro Mu s σ H Q I h;refine Hf (thn (hk Mu s σ H _ I h) λkv s1 ⟨k,H1,I1,r1,q1⟩=>?_);refine Hf (Ik (thn (hv Mu s1 σ H1 _ I1 q1) λvv s2 ⟨v,H2,I2,r2,q2⟩=>?_));refine Hf (wpAny_standAt ?_);obtain⟨a,b,d,xs,ea,rfl,hS,ks,kd,rd,hl,q⟩:=q2;cases ea;cases r1;obtain⟨hm,ns⟩:=gG I2 hS ks;refine Ik (wpAny_dictSet_heap (by show _+40<IZ;omega) (vL I2 kd rd) hm (λh' hm' sb=>?_) (IH (zY hl)));obtain⟨o',es',ep',x1,x2,x3,x4,x5,x6⟩:=hm';exact⟨σ,_,I2.write (t':=s2.toks+ym d) (x:=D) (e:=D) (by rw [hS];exact trivial) (.inl rfl) (λb u nb e=>(sb.2 b nb).trans e) ⟨o',x1⟩ (DicO.ok ⟨x1,x2,x3,x4,x6,ns⟩),q _ r2⟩
section
variable {X:Cx} {Mu:MT} {s:ME} {σ:St} {H:Hp} {tg kx vx iter:Expr} {ifs:MX} {rest:List Comprehension} {sc scO:Scope} {NO N:MU} {own:Nat} {fr:M8} {wi:TI} {g:TG} {tt:TT} {tb:Hm->TB} {pos:Pos}
theorem wt {RR:MD->Hm->Result->ME->Prop} {it:Hm} {fp:MS} {tn:Nat->Heap->Prop} {J:It} {Q:VK} (S:CompScope NO scO N sc own fr) (hN:X.N=NO) (hsc:X.env.scope=scO) (hc:X.calm=MC)
  (hg:∀ s₀ H₀ ex pn,PG (zm X sc N s₀ H₀ ex pn) tg g) (ht:∀ s₀ H₀ ex pn,PTs (zm X sc N s₀ H₀ ex pn) ifs tt)
  (hb:∀ D s₀ H₀ ex pn,∃ act,PB (zm X sc N s₀ H₀ ex pn) act (tb D)/\∀ it,compTurn (.DictComp kx vx (⟨tg,iter,ifs,0⟩ :: rest) sc pos) 0 it (.ref D) (zm X sc N s₀ H₀ ex pn).env=(do
   standAt iter.pos
   match <- pyNext it with
   | none=>pure (.done .next)
   | some v =>
    Jk tg it v
    assign tg (zm X sc N s₀ H₀ ex pn).env v
    let mut ok:=MC
    for c in ifs do
     if ok then ok <- isTrue c (zm X sc N s₀ H₀ ex pn).env (eval c (zm X sc N s₀ H₀ ex pn).env)
    if ok then
     act
    again (.compLoop (.DictComp kx vx (⟨tg,iter,ifs,0⟩ :: rest) sc pos) 0 it (.ref D) (zm X sc N s₀ H₀ ex pn).env)))
  (I:Inv X Mu σ H s) (T:Turn X.prog X.w X.K tg J fp it tn) (st:tn 0 s.heap) (f:∀ b∈fp,bT X Mu H b)
  (h:∀ D,H D=MF->eC J g tt (tb D) (jm own fr σ) (upd H D (DicO X.w D [])) λ_ H2=>Q (.ref D) H2)
  (hRR:∀ (D C:Hm) (s':ME) (H':Hp),(∃ m,s'.heap.Ns C m)->C≠X.env.locals->(∀ x c,X.env.cells.lookup x=MA c->c≠C)->H' C=MF->X.s₀.heap.objs.size<=C->(∀ p∈X.pn++Mu,p.1≠C)->Inv X Mu σ H' s'->Q (.ref D) H'->RR (.ref D) C (.ok .next) s') :
  HP (model X.prog X.w) X.A newDict (λacc s₃=>HP (model X.prog X.w) X.A (newFunctionEnv sc X.env.globals (yl X.env sc.names []) [] X.env.qual MF .none (MA X.env)) (λcenv s₄ =>
   codeAny (model X.prog X.w) X.A (.compStart (.DictComp kx vx (⟨tg,iter,ifs,0⟩ :: rest) sc pos) 0 (.ref it) acc { cenv with scope:=relabel sc X.env }) (RR acc cenv.locals) s₄) X.xe s₃) X.xe s:=by
 refine wpAny_newObj_type (eD ?_);have fpsz:∀ b∈fp,b<s.heap.objs.size:=λb hb=>by
  obtain⟨o,e,_⟩:=T.obj _ _ st b hb;exact HD e
 have I3:=I.laid (a:=s.heap.objs.size) (t':=s.toks) (λ_ _ q=>Hr _ q) (Ht _) (DicO.ok (xs:=[]) (o:={ cls:=.type "dict",data:=.dict #[] }) (es:=#[]) (ep:=0) ⟨HS _ rfl,⟨rfl,rfl,rfl⟩,rfl,rfl,IE,beq_eq_false_iff_ne.mpr (Jc (HW (fm I)))⟩);have f3:∀ b∈fp,bT X Mu (upd H s.heap.objs.size (DicO X.w s.heap.objs.size [])) b:=λb hb=>⟨by rw [zz (HW (fpsz b hb))];exact (f b hb).1,(f b hb).2⟩;have st3:tn 0 (s.heap.push { cls:=.type "dict",data:=.dict #[] }):=T.keep _ _ _ st λb _ o e=>Hr _ e;have I4:=mJ (tk:=s.toks) S hN hsc I3 f3 (T.obj _ _ st3);obtain⟨act,pb,heq⟩:=hb s.heap.objs.size _ _ _ _;have st4:=T.keep _ _ (pushCells ((s.heap.push { cls:=.type "dict",data:=.dict #[] }).push { cls:=.type "dict",data:=.dict #[] }) sc.names) st3 λb _ o e=>pushCells_keeps _ _ _ _ (Hr _ e);have cells_lt:∀ x c,X.env.cells.lookup x=MA c->c<s.heap.objs.size:=λx c e=>by
  obtain⟨v,o,ho,hd⟩:=I.cell x c e;exact HD ho
 have esz:(s.heap.push { cls:=.type "dict",data:=.dict #[] }).objs.size=s.heap.objs.size+1:=KU ..;have loop:=fU (X:=zm X sc N { s with heap:=s.heap.push { cls:=.type "dict",data:=.dict #[] } } (upd H s.heap.objs.size (DicO X.w s.heap.objs.size [])) fp (X.pn++Mu)) (R:=RR (.ref s.heap.objs.size) (s.heap.push { cls:=.type "dict",data:=.dict #[] }).objs.size) (λ_ _ z=>z) hc (hg _ _ _ _) (ht _ _ _ _) pb heq (λ_=>rfl) (λ_=>rfl) (λ_=>rfl) I4 T st4
  (λb hb=>⟨(f3 b hb).1,I4.ok.exf b hb |>.1,I4.ok.exfs b hb,.inl hb,I4.ok.exf b hb |>.2,λp hp=>by
   have hp':p∈X.pn++Mu:=by simpa [zm] using hp
   exact (f b hb).2.2.2.2.2 p hp'⟩) (h _ I.fresh)
  (λσ' H' s' J' fr' q'=>hRR _ _ s' H' (let⟨m,hm,_⟩:=J'.loc;⟨m,hm⟩) (by rw [esz];exact KP (IU I.lt)) (λx c e=>by rw [esz];exact HW (IU (cells_lt x c e))) J'.free (by rw [esz];exact Nat.le_succ_of_le I.sz) (λp hp=>by rw [esz];exact HW (IU (HD (I.pin p hp).1))) (comp_back (h':=s'.heap) I3 f3 J' (Heap.SameBut.refl ..)) q')
 exact codeAny_compStart_dict loop (T.self X.A 0 _ _ _ st4 loop)
theorem AB (S:CompScope NO scO N sc own fr) (hc:X.calm=MC) (hi:PI X tg iter wi) (hg:∀ s₀ H₀ ex pn,PG (zm X sc N s₀ H₀ ex pn) tg g) (ht:∀ s₀ H₀ ex pn,PTs (zm X sc N s₀ H₀ ex pn) ifs tt)
  (hb:∀ D s₀ H₀ ex pn,∃ act,PB (zm X sc N s₀ H₀ ex pn) act (tb D)/\∀ it,compTurn (.DictComp kx vx (⟨tg,iter,ifs,0⟩ :: rest) sc pos) 0 it (.ref D) (zm X sc N s₀ H₀ ex pn).env=(do
   standAt iter.pos
   match <- pyNext it with
   | none=>pure (.done .next)
   | some v =>
    Jk tg it v
    assign tg (zm X sc N s₀ H₀ ex pn).env v
    let mut ok:=MC
    for c in ifs do
     if ok then ok <- isTrue c (zm X sc N s₀ H₀ ex pn).env (eval c (zm X sc N s₀ H₀ ex pn).env)
    if ok then
     act
    again (.compLoop (.DictComp kx vx (⟨tg,iter,ifs,0⟩ :: rest) sc pos) 0 it (.ref D) (zm X sc N s₀ H₀ ex pn).env)))
  (hN:X.N=NO) (hsc:X.env.scope=scO) (hs:∀ x,IG iter X.env x=pure x) {w:MH} (hw:X.w=w) :
  PE X (.DictComp kx vx (⟨tg,iter,ifs,0⟩ :: rest) sc pos) (rG w wi own fr g tt tb):=by
 subst hw;intro Mu s σ H Q I h;rw [arm_eval_DictComp];refine wpAny_comprehension_free (use:=MF) rfl hs (kB S hsc I.ok) S.kind (λp hp hl=>yx S.snd (k:=.local) (by rw [<-hl];exact hp)) (thn (hi Mu s σ H _ I h) λv s1 h1=>thn h1 λitv s2 h2=>?_);obtain⟨it,fp,tn,J,H2,e,I2,T,st2,f2,q⟩:=h2;subst e;refine wt (RR:=λacc C=>compPost (model X.prog X.w) X.A X.xe MF (EP X Mu σ Q) acc C) S hN hsc hc hg ht hb I2 T st2 f2 q ?_;rintro D C s' H' ⟨m,hm⟩ c0 c1 c2 c3 c4 J' q';exact⟨m,hm,λh' hs'=>⟨.ref D,H',J'.touch hs' c2 c0 c1 c3 c4,rfl,q'⟩⟩
theorem wu {it acc:MD} {D:Hm} {env:Env}:compTurn (.DictComp kx vx [⟨tg,iter,ifs,0⟩] sc pos) 0 it (.ref D) env=(do
   standAt iter.pos
   match <- pyNext it with
   | none=>pure (.done .next)
   | some v =>
    Jk tg it v
    assign tg env v
    let mut ok:=MC
    for c in ifs do
     if ok then ok <- isTrue c env (eval c env)
    if ok then
     (do
      let kv <- eval kx env
      let vv <- holding [kv] (eval vx env)
      standAt { kx.pos with endLine:=vx.pos.endLine,endCol:=vx.pos.endCol }
      holding [kv,vv] (dictSet D kv vv))
    again (.compLoop (.DictComp kx vx [⟨tg,iter,ifs,0⟩] sc pos) 0 it (.ref D) env)):=compTurn_dict ..
theorem wx {w:MH} {K:Hj} {tk tv:TE} (hw:X.w=w) (hK:X.K=K) (hu:X.A.units+64<IZ) (S:CompScope NO scO N sc own fr) (hc:X.calm=MC) (hi:PI X tg iter wi) (hg:∀ s₀ H₀ ex pn,PG (zm X sc N s₀ H₀ ex pn) tg g) (ht:∀ s₀ H₀ ex pn,PTs (zm X sc N s₀ H₀ ex pn) ifs tt) (hk:∀ s₀ H₀ ex pn,PE (zm X sc N s₀ H₀ ex pn) kx tk) (hv:∀ s₀ H₀ ex pn,PE (zm X sc N s₀ H₀ ex pn) vx tv)
  (hN:X.N=NO) (hsc:X.env.scope=scO) (hs:∀ x,IG iter X.env x=pure x):PE X (.DictComp kx vx [⟨tg,iter,ifs,0⟩] sc pos) (rG w wi own fr g tt λD=>rF w K D tk tv) :=
 AB S hc hi hg ht (λD s₀ H₀ ex pn=>⟨_,AA (X:=zm X sc N s₀ H₀ ex pn) (D:=D) hw hK hu (hk s₀ H₀ ex pn) (hv s₀ H₀ ex pn),λ_=>wu (acc:=.none)⟩) hN hsc hs hw
end
structure CSo (w:MH) (K:Hj) (f:Fx) (D:Hm) (H2:Hp) (ρ':zr) (kvs:Nf) (σ:St) (H:Hp):Prop where
 env:EnvOk K (f.with D) ρ' σ H
 sm:Same (hide H2 (f.with D)) (hide H (f.with D))
 kp:∀ b∈f.M,H b=H2 b
 own:OwnAt w K (hide H (f.with D)) H D (.dic kvs)
section
variable {w:MH} {K:Hj} {f:Fx} {ρ:zr} {D:Hm} {wi:TI} {g:TG} {tt:TT} {tk tv:TE} {kvs:Nf}
theorem CSo.go {H2 H H':Hp} {σ:St} (c:CSo w K f D H2 ρ kvs σ H) (gg:Goes (f.with D) H H') {ρ2:zr} {σ2:St} (e2:EnvOk K (f.with D) ρ2 σ2 H'):CSo w K f D H2 ρ2 kvs σ2 H' :=
 ⟨e2,c.sm.trans gg.sm,λb hb=>(gg.kp b (Hl _ hb)).trans (c.kp b hb),c.own.mono (gg.kp D Hk) gg.sm⟩
theorem CSo.self {H2 H:Hp} {σ:St} (c:CSo w K f D H2 ρ kvs σ H):CSo w K f D H ρ kvs σ H:=⟨c.env,Same.refl _,λ_ _=>rfl,c.own⟩
theorem CSo.trans {H2 H H':Hp} {kvs':Nf} {ρ':zr} {σ σ':St} (c:CSo w K f D H2 ρ kvs σ H) (d:CSo w K f D H ρ' kvs' σ' H'):CSo w K f D H2 ρ' kvs' σ' H':=⟨d.env,c.sm.trans d.sm,λb hb=>(d.kp b hb).trans (c.kp b hb),d.own⟩
def PBo (w:MH) (K:Hj) (f:Fx) (D:Hm) (tb:TB) (ρ:zr) (kvs:Nf) (R:zr->Nf->Prop):Prop:=f.f≠MA D->D∉f.M->∀ (σ:St) (H H2:Hp) (W:St->Hp->Prop),CSo w K f D H2 ρ kvs σ H ->
 (∀ ρ2 kvs2 σ2 H',CSo w K f D H2 ρ2 kvs2 σ2 H'->R ρ2 kvs2->W σ2 H')->tb σ H W
theorem Cr {R:zr->Nf->Prop} (hl:kvs.length<=1000) (h:PEd K (f.with D) tk ρ λk=>eX k/\PEd K (f.with D) tv ρ λv=>R ρ (dput k v kvs)):PBo w K f D (rF w K D tk tv) ρ kvs R:=λhD hM σ H H2 W c q =>
 h σ H _ c.env λk kv H3 g3 r3 ⟨kt,h3⟩=>by
  have c3:=c.go g3 (c.env.mono g3);refine h3 σ H3 _ c3.env λv vv H4 g4 r4 p4=>?_;have c4:=c3.go g4 (c3.env.mono g4);obtain⟨b,rfl⟩:=vq kt r3;obtain⟨xs,h1,h2⟩:=c4.own;have rk:=Rep.mono g4.sm _ _ r3;refine⟨D,b,k,xs,rfl,rfl,h1,λz hz=>⟨(yO h2 z hz).1,Rep.mono (zp _ _) _ _ (yO h2 z hz).2⟩,kt.1,Rep.mono (zp _ _) _ _ rk,by rw [cZ h2];exact hl,λu ru=>?_⟩;refine q _ _ _ _ ⟨sS hD c4.env,by rw [yy];exact c4.sm,λb hb=>(zz (λ(z:b=D)=>hM (z▸hb))).trans (c4.kp b hb),_,zw,?_⟩ p4;rw [yy];exact kZ kt.1 rk r4 ru h2
theorem Cs {fi:Fx} {Hi H2 H:Hp} {ds:M9} {J:It} {tb:TB} {σ:St} {W:St->Hp->Prop} (it:ItD K fi ds J Hi) (hD:f.f≠MA D) (hM:D∉f.M) (c:CSo w K f D H2 ρ kvs σ H) (sm:Same (hide Hi fi) (hide H (f.with D)))
  (Jv:Nat->zr->Nf->Prop) (j0:Jv 0 ρ kvs)
  (js:∀ (i:Nat) d ρ' es',ds[i]?=MA d->Jv i ρ' es'->PGd K (f.with D) g d ρ' λρ2=>PTd K (f.with D) tt ρ2 λb=>if b=MC then PBo w K f D tb ρ2 es' (Jv (i+1)) else Jv (i+1) ρ2 es')
  (hW:∀ ρ' es' σ' H',CSo w K f D H2 ρ' es' σ' H'->Jv ds.length ρ' es'->W σ' H'):eC J g tt tb σ H W:=by
 refine⟨λi m σ' H'=>∃ ρ' es',CSo w K f D H2 ρ' es' σ' H'/\Same (hide Hi fi) (hide H' (f.with D))/\Jv i ρ' es'/\m+i=ds.length,⟨ds.length,ρ,kvs,c,sm,j0,rfl⟩,λi m σ' H' ⟨ρ',es',c',sm',p,hm⟩=>?_⟩;by_cases hi:i<ds.length
 ·obtain⟨hgo,hy⟩:=it.go (f.with D) H' i _ c'.env.fd sm' (Hd hi);refine .inr ⟨hgo,λx H3 hx=>?_⟩;obtain⟨g3,r3⟩:=hy x H3 hx;have c3:=c'.go g3 (c'.env.mono g3);refine js i _ ρ' es' (Hd hi) p σ' H3 x _ c3.env r3 λρ2 σ2 H4 g4 e4 p4=>?_;have c4:=c3.go g4 e4;refine p4 σ2 H4 _ e4 λb H5 g5 p5=>?_;have c5:=c4.go g5 (e4.mono g5);have sm5:=((sm'.trans g3.sm).trans g4.sm).trans g5.sm;cases b with
  | false =>
   rw [Mv He] at p5 ⊢;exact⟨m - 1,by omega,ρ2,es',c5,sm5,p5,by omega⟩
  | true =>
   rw [Mw rfl] at p5 ⊢;exact p5 hD hM σ2 H5 H5 _ c5.self λρ6 es6 σ6 H6 c6 p6=>⟨m - 1,by omega,ρ6,es6,c5.trans c6,sm5.trans c6.sm,p6,by omega⟩
 ·have ei:i=ds.length:=by omega
  subst ei;exact .inl ⟨it.st (f.with D) H' c'.env.fd sm',hW ρ' es' σ' H' c' p⟩
theorem Ct {own:Nat} {fr:M8} {tb:Hm->TB} {P:OC->Prop} (h:PId K f wi ρ λds=>∃ Jv:Nat->zr->Nf->Prop,Jv 0 (ao own fr ρ) [] /\
   (∀ D (i:Nat) d ρ' es',ds[i]?=MA d->Jv i ρ' es'->PGd K (f.with D) g d ρ' λρ2=>PTd K (f.with D) tt ρ2 λb=>if b=MC then PBo w K f D (tb D) ρ2 es' (Jv (i+1)) else Jv (i+1) ρ2 es') /\
   ∀ ρ' es',Jv ds.length ρ' es'->P (.dic es')):eW w K f (rG w wi own fr g tt tb) ρ P:=λσ H Q e q =>
 h σ H _ e λds J H1 g1 it ⟨Jv,j0,js,jd⟩ D hn=>by
  have nD:=fresh_ne g1.2 hn;have hD:f.f≠MA D:=λz=>nD (.inl z);have hM:D∉f.M:=λz=>nD (.inr z);have e1:=e.mono g1;have c0:CSo w K f D (upd H1 D (DicO w D [])) (ao own fr ρ) [] (jm own fr σ) (upd H1 D (DicO w D [])):=⟨o7 (iE e1) hn,Same.refl _,λ_ _=>rfl,[],zw,.nil⟩;refine Cs it hD hM c0 (qH hn) Jv j0 (js D) λρ' es' σ' H' c' p=>?_;refine q (.dic es') D H' (g1.trans ⟨((qH hn).trans c'.sm).trans jO,⟨c'.env.fd.fd,λb hb=>c'.env.fd.mm b (Hl _ hb),λp e hp=>c'.env.fd.nm p e (Hl _ hp)⟩,λb hb=>?_⟩) (g1.free e.fd hn) c'.own (jd ρ' es' p);rw [c'.kp b hb,zz];obtain⟨o,h3⟩:=g1.2.mm b hb;exact zQ h3 hn
theorem Fc {te:TE} {P:DV->Prop} (h:eW w K f te ρ λc=>∃ kvs,c=.dic kvs/\P (.mon (j9 w K kvs))):PEv K f te ρ P:=λσ H Q e q=>h σ H Q e λc D H' g hn ow ⟨kvs,ec,p⟩=>by
 subst ec;obtain⟨xs,h1,h2⟩:=ow;have nD:=fresh_ne e.fd hn;exact q (.mon (j9 w K kvs)) (.ref D) H' g (λH'' s=>⟨D,xs,rfl,s D _ (zI nD h1),EntR.mono (jO.trans s) h2⟩) p
theorem Gv {te:TE} {R:DV->Prop} (h:PEv K f te ρ R):PSv K f (hJ te) ρ R:=λσ H E e q=>h σ H _ e λx v H' g r p=>q x v H' g r p
end
end L2
end
section
namespace L2
open PySem PySem.Spec PyProof.Rows PySem.SetTable
end L2
end
section
namespace L2
open PySem PySem.Spec PyProof.Rows PySem.SetTable
noncomputable def byT (w:MH):Bool:=w.params.followText "set-order"
structure ISet (w:MH) (h:Heap) (a:Hm) (xs:List (Int×Tok)) (o:Obj) (es:Array (Int×MD)) (ep:Nat) (t:SetTable):Prop where
 ob:h.get? a=MA o
 ex:o.ExactSet
 da:o.data=.set es ep t
 el:es.toList=xs.map λx=>(hashInt x.1,Value.int x.1 x.2)
 ok:ST.TOk t (xs.map λx=>hashInt x.1)
 pl:t.plain=MC
 ld:byT w=MC \/ t.led=MC
end L2
end
section
namespace L2
open PySem PySem.Spec PyProof.Rows PySem.SetTable
end L2
end
section
namespace L2
open PySem PySem.Spec PyProof.Rows PySem.SetTable PySem.W
end L2
end
section
namespace L2
open PySem PySem.Spec PyProof.Rows
end L2
end
section
namespace L2
open PySem PySem.Spec PyProof.Rows
structure TV (K:Hj) (f:Fx) (H0:Hp) (a:Hm) (as:MS) (ρ:zr) (Mt:Nb) (σ:St) (H:Hp):Prop where
 env:EnvOk K (f.withs (a :: as)) ρ σ H
 go:Goes f H0 H
 na:H0 a=MF
 nas:∀ x∈as,H0 x=MF
 tab:TabAt H a as Mt
end L2
end
section
namespace L2
open PySem PySem.Spec PyProof.Rows
theorem lr {a b:Int} {s t:Tok} {c:MD}:∀ (l:MQ),TriplesOk l->TriplesOk (l++[.int a s,.int b t,c]):=by
 intro l
 fun_induction TriplesOk l with
 | case1=>intro _;trivial
 | case2 _ _ _ _ _ r ih=>intro h;exact ih h
 | case3=>intro h;exact h.elim
theorem rH {pos:Pos} {a b:Int} {s t:Tok} {c cv:MD}:∀ (l:MQ),TriplesOk l->codeAmong pos (l++[.int a s,.int b t,c])=MA cv->codeAmong pos l=MA cv \/ cv=c:=by
 intro l
 fun_induction TriplesOk l with
 | case1 =>
  intro _ h;have h':(if a == pos.line && b == pos.col then MA c else codeAmong pos [])=MA cv:=h;split at h'
  ·cases h';exact .inr rfl
  ·cases h'
 | case2 i ti j tj v r ih =>
  intro h0 h;have h':(if i == pos.line && j == pos.col then MA v else codeAmong pos (r++[.int a s,.int b t,c]))=MA cv:=h;show (if i == pos.line && j == pos.col then MA v else codeAmong pos r)=MA cv \/ _;split at h'
  ·rename_i q;rw [Mw q];exact .inl h'
  ·rename_i q;rw [Mv q];exact ih h0 h'
 | case3=>intro h;exact h.elim
section
variable {X:Cx} {Mu:MT} {σ:St} {H:Hp} {s:ME}
theorem Inv.tabAt (I:Inv X Mu σ H s) {c P:Hm} {q:Str} (hq:q∈ae) (h1:IQ X.K c P=MC) (h2:IK X.K (.ref c) q=MC):H P=MA (.tbl (lamQ q)) :=
 I.env0.tabs c P q hq h1 h2
theorem Inv.bltAt (I:Inv X Mu σ H s) {P:Hm} {ps:Array MD} (hP:s.heap.get? P=MA (J3 ps)):s.heap.BuiltinsAt X.mg P:=by
 obtain⟨b,o,h1,h2,h3,h4,h5,h6⟩:=I.ok.mod.bm;have h3':=I.bk _ _ h3;refine⟨b,o,h1,h2,λe=>?_,λe=>?_,h3',h4,h5,h6⟩
 ·obtain⟨u,es,ep,e1,d,_⟩:=I.ok.mod.glob.keeps I.bk;rw [e,e1] at h3';cases h3';rw [h6] at d;cases d
 ·rw [e,hP] at h3';cases h3';cases h6
theorem nL {params:Arguments} {body:Expr} {sc:Scope} {pos:Pos} {c P:Hm} {q:Str} {clos:M7} {Q:MD->ME->Prop} {E:MD->ME->Prop} (I:Inv X Mu σ H s)
  (hq:q∈ae) (hc:X.env.code=.ref c) (h1:IQ X.K c P=MC) (h2:IK X.K (.ref c) q=MC) (hqu:X.env.qual ++ "<lambda>"=lamQ q)
  (hcl:closureFor sc X.env=pure clos) (hdef:defaultsOf params X.env=([],[]))
  (h:∀ f c' pm ctv s' H',Inv X Mu σ H' s'->Same H H'->s'.heap.get? f=MA (L3 "<lambda>" (lamQ q) params body sc clos pm c' ctv)->s'.heap.CodeRec (.ref c') (lamQ q)->Q (.ref f) s') :
  HP (model X.prog X.w) X.A (eval (.Lambda params body sc pos) X.env) Q E s:=by
 have hH:=I.tabAt hq h1 h2;obtain⟨ps,hP,tr,am⟩:=I.hok P _ hH;have gl:=I.ok.mod.glob.keeps I.bk;have C:=Ml I.kIn h1;refine PySem.W.kla_eval hdef ?_;rw [hqu];cases hf:codeAmong pos ps.toList with
 | some cv =>
  obtain⟨c',rfl,hc',rc⟩:=am pos cv hf;refine PySem.W.kla_makeFunctionHit hcl I.ok.glob gl hc C hP tr hf (I.bltAt hP) λctv h' tk k sz=>?_;refine h _ c' _ ctv _ H (I.kept (t':=tk) λb u e=>Hr _ (k b u e)) (Same.refl _) (HS _ rfl) ?_;obtain⟨c2,oc,vs,tq,e1,e2,e3⟩:=rc;exact⟨c2,oc,vs,tq,e1,Hr _ (k _ _ e2),e3⟩
 | none =>
  have hgP:HX≠P:=λe=>by
   obtain⟨u,es,ep,e1,d,_⟩:=gl;rw [e,hP] at e1;cases e1;cases d
  refine PySem.W.kla_makeFunction hcl I.ok.glob gl hc C hP tr hf hgP (I.bltAt hP) λc' ctv h' tk hx hge hlt hrec htb=>?_;have hn:H c'=MF:=I.hok.fresh hge;have nc:∀ b o,s.heap.get? b=MA o->b≠c':=λb o e=>HW (HZ (HD e) hge);have hPc:P≠c':=nc _ _ hP;have kp:∀ (ob:Obj) b o,b≠P->s.heap.get? b=MA o->(h'.push ob).get? b=MA o:=λob b o n e=>Hr _ (hx b o n e);have tp:∀ ob:Obj,(h'.push ob).get? P=MA (J3 (ps++#[rawInt pos.line,rawInt pos.col,.ref c'])):=λob=>Hr _ htb;have hrec':∀ ob:Obj,(h'.push ob).CodeRec (.ref c') (lamQ q):=λob=>by
   obtain⟨c2,oc,vs,tq,e1,e2,e3⟩:=hrec;exact⟨c2,oc,vs,tq,e1,Hr _ e2,e3⟩
  have sm:Same H (upd H c' (.own P)):=ye hn _;refine h _ c' _ ctv _ (upd H c' (.own P)) (I.un (t':=tk) ⟨λb o e n _ _=>kp _ b o (λz=>by rw [z,hH] at n;cases n) e,λb o e n _ _=>⟨o.slots,kp _ b o (λz=>by rw [z,hH] at n;cases n) e⟩,λb o e n _=>by rw [zz (nc b o e)];exact n,λb o e _=>?_,
   λb xs e=>sm _ _ e,λb o u e=>sm _ _ e,λb z e=>sm _ _ e⟩ λb o e=>?_) sm (HS _ rfl) (hrec' _)
  ·by_cases hb:b=P
   ·subst hb;exact⟨_,tp _⟩
   ·exact⟨o,kp _ b o hb e⟩
  ·by_cases hb:b=c'
   ·subst hb;rw [zw] at e;cases e;obtain⟨c2,oc,vs,tq,e1,e2,e3⟩:=hrec' (L3 "<lambda>" (lamQ q) params body sc clos ((X.mg "__name__").getD .none) b ctv);cases e1;exact⟨_,e2⟩
   ·rw [zz hb] at e;by_cases hbP:b=P
    ·subst hbP;rw [hH] at e;cases e;refine⟨_,tp _,?_,λpos' cv z=>?_⟩
     ·rw [Mm];exact lr _ tr
     ·rw [Mm] at z;rcases rH _ tr z with z | z
      ·obtain⟨c3,e1,e2,c4,oc,vs,tq,e3,e4,e5⟩:=am pos' cv z;cases e3;exact⟨c3,e1,sm _ _ e2,c3,oc,vs,tq,rfl,kp _ _ _ (λw=>by rw [w,hH] at e2;cases e2) e4,e5⟩
      ·exact⟨c',z,zw,hrec' _⟩
    ·refine (I.hok b o e).stay (λd u hd r=>kp _ d u ?_ r) (λd r=>sm _ _ r) λd xs r=>sm _ _ r;rcases hd with hd | hd
     ·rw [hd];exact hbP
     ·intro w;rw [w,hH] at hd;cases hd
end
def Reads (P:MI) (w:MH) (env:Env) (h:Heap) (e:Expr) (R:MD->Prop):Prop :=
 ∀ (A:MJ) (s:ME) (Q:MD->ME->Prop) (E:MD->ME->Prop),s.heap=h->(∀ v tk,R v->Q v { s with toks:=tk })->HP (model P w) A (eval e env) Q E s
section
variable {P:MI} {w:MH} {env:Env} {h:Heap} {pos:Pos}
theorem gI {x:Str} {u:MD} {m:Str->MR} (hk:env.scope.kind=.function) (hx:env.kindOf x=MA .local) (hn:h.Ns env.locals m) (hm:m x=MA u) (hd:(x == ("__debug__":Str))=MG:=by decide) :
  Reads P w env h (.Name x pos) (·=u):=λA s Q E e q=>wpAny_Name (wpAny_loadName_local hk hx (by rw [e];exact hn) hm (q u s.toks rfl)) hd
theorem Cu {x:Str} {u:MD} {c:Hm} (hk:env.scope.kind=.function) (hx:env.kindOf x=MA .free) (hc:env.cells.lookup x=MA c) (hu:h.IsCell c (MA u)) (hd:(x == ("__debug__":Str))=MG:=by decide) (hcd:(x == ("__classdict__":Str))=MG:=by decide) :
  Reads P w env h (.Name x pos) (·=u):=λA s Q E e q=>wpAny_Name (wpAny_loadName_free hk hx hc (by rw [e];exact hu) (q u s.toks rfl) hcd) hd
theorem lu {i:Int} {j:_}:Reads P w env h (.Constant (.int i) j pos) (λv=>∃ t,v=.int i t):=λA s Q E e q=>wpAny_Constant_int (q _ _ ⟨_,rfl⟩)
theorem AD {a b:Expr} {l:Hm} {items:Array MD} {k:Int} {x:MD} (ha:Reads P w env h a (·=.ref l)) (hb:Reads P w env h b (λv=>∃ t,v=.int k t)) (hl:h.IsList l items) (h0:0<=k) (hf:k<2 ^ 63) (hx:items[k.toNat]?=MA x) (hs:e9 b) :
  Reads P w env h (.Subscript a b pos) (·=x):=λA s Q E e q=>by
 refine Subscript_ (ha A s _ E e λv tk ev=>?_);subst ev;refine hb A _ _ E e λv tk ⟨t,ev⟩=>?_;subst ev;refine item_listR (items:=items) (by rw [<-e] at hl;exact hl) h0 hf hx ?_ (hs _ _);exact q x tk rfl
end
section
variable {P:MI} {w:MH} {A:MJ} {s:ME} {f c:Hm} {name qual x:Str} {params:Arguments} {body:Expr} {sc:Scope} {clos:M7} {pm ctv v:MD} {R:MD->Prop} {Q:MD->ME->Prop} {E:MD->ME->Prop}
theorem tQ (ho:s.heap.get? f=MA (L3 name qual params body sc clos pm c ctv)) (hcd:s.heap.CodeRec (.ref c) qual) (hroom:A.depth<recursionLimit) (lim:s.heap.NoLimit)
  (hb:bindArgs (Mg name qual params body sc clos pm (.ref c) ctv) ⟨[v],[]⟩=pure [(x,v)]) (hx:sc.names.lookup x=MA .local) (hcell:∀ y∈sc.names,y.2≠.cell) (hco:sc.isCoroutine=MG) (hgen:sc.isGenerator=MG) (hk:sc.kind=.function)
  (hr:∀ h₁:Heap,h₁.Ns s.heap.objs.size (λy=>[(x,v)].reverse.lookup y)->(∀ b o,s.heap.get? b=MA o->h₁.get? b=MA o)->Reads P w (Le qual sc s.heap.objs.size f (.ref c) clos) h₁ body R)
  (hq:∀ (u:MD) (h₁:Heap) tk,R u->(∀ b o,s.heap.get? b=MA o->h₁.get? b=MA o)->Q u { s with heap:=h₁,toks:=tk }) :
  HP (model P w) A (call (.ref f) [v]) Q E s:=by
 refine wpAny_call (PySem.W.kla_callFunE hroom ho rfl hco hgen rfl hcd ?_);rw [hb];refine Hs (wpAny_newFunctionEnv hcell (λy hy=>?_) (λh₁ hns hsb=>?_) hk)
 ·rw [Hw.mp hy];exact hx
 have hk₁:∀ b o,s.heap.get? b=MA o->h₁.get? b=MA o:=λb o e=>hsb.extBut b o (HW (HD e)) (Hr _ e);refine⟨lim.keeps hk₁,PySem.W.kla_codeExpr ?_⟩;exact hr h₁ hns hk₁ _ _ _ _ rfl λu tk ru=>hq u h₁ tk ru hk₁
end
end L2
end
section
namespace L2
open PySem PySem.Spec PyProof.Rows
theorem dY {β:Type}:∀ {l:List (Nat×β)} {x:Nat} {y:β},l.lookup x=MA y->(x,y)∈l
 | [],_,_,h=>by cases h
 | (a,b) :: r,x,y,h=>by
  rw [IS] at h;cases e:x == a with
  | true=>rw [e] at h;cases h;rw [beq_iff_eq.mp e];exact Hk
  | false=>rw [e] at h;exact Hl _ (dY h)
noncomputable def c8 (K:Hj) (ts:Nj):Bool :=
 ts.all (λp=>(K.lookup p.1).isNone && K.any λc=>IQ K c.1 p.1) && K.all λx=>match x.2.data with
  | .fields vs=>(match (vs[1]?:MR),(vs[11]?:MR) with
   | some (.str q _),MA (.ref P)=>!ae.contains q || decide (ts.lookup P=MA (lamQ q))
   | _,_=>MC)
  | _=>MC
theorem Fd {K:Hj} {h:Heap} (X:K.In h) {ts:Nj} (hB:c8 K ts=MC) {c P:Hm} {q:Str} (hq:q∈ae) (h1:IQ K c P=MC) (h2:IK K (.ref c) q=MC):ts.lookup P=MA (lamQ q):=by
 unfold c8 at hB;rw [Hq] at hB;obtain⟨c2,oc,us,tq,z1,z2,z3,z4⟩:=Lh X h2;cases z1;unfold IQ at h1;split at h1
 ·rename_i vs _ hk;have hm:=JI.mp hB.2 _ (dY hk);dsimp only at hm;have z5:=X _ _ hk;rw [z2] at z5;cases z5;cases z3;have e11:(us[11]?:MR)=MA (.ref P):=by
   simp only [Hq] at h1;obtain⟨⟨⟨⟨⟨e1,_⟩,_⟩,_⟩,_⟩,_⟩:=h1;split at e1
   ·rename_i P' h11;rw [h11,beq_iff_eq.mp e1]
   ·cases e1
  rw [z4,e11] at hm;simp only [Bool.or_eq_true,Bool.not_eq_true'] at hm;rcases hm with z | z
  ·have:=List.contains_iff_mem.mpr hq;rw [this] at z;cases z
  ·exact MO z
 ·cases h1
noncomputable def iT (ts:Nj) (tr:Bool) (a:Hm) (o:Obj) (xs:List V):Hp:=λb=>match ts.lookup b with
 | some q=>MA (.tbl q)
 | none=>if tr=MC/\b=a then MA (.frz o (.lst xs)) else MF
theorem wy {ts:Nj} {tr:Bool} {a b:Hm} {o:Obj} {xs:List V} {q:Str} (h:ts.lookup b=MA q):iT ts tr a o xs b=MA (.tbl q):=by unfold iT;rw [h]
theorem AE {ts:Nj} {tr:Bool} {a b:Hm} {o:Obj} {xs:List V} {u:HO} (h:iT ts tr a o xs b=MA u):(∃ q,ts.lookup b=MA q/\u=.tbl q) \/ (tr=MC/\b=a/\u=.frz o (.lst xs)):=by
 unfold iT at h;cases e:ts.lookup b with
 | some q=>rw [e] at h;cases h;exact .inl ⟨q,rfl,rfl⟩
 | none =>
  rw [e] at h;dsimp only at h;split at h
  ·rename_i z;cases h;exact .inr ⟨z.1,z.2,rfl⟩
  ·cases h
theorem wz {P:MI} {w:MH} {K:Hj} {mg mb:Str->MR} {CX:CXT} {k:Nat} {fa a:Hm} {fd:FuncData} {x:Str} {sp:Sp} {s₁:ME} {vs:MQ} {ns:M4} {ts:Nj}
  (hB:c8 K ts=MC) (hts:∀ p∈ts,s₁.heap.get? p.1=MA (J3 #[])) (hbm:∃ b o,mg "__builtins__"=MA (.ref b)/\b≠builtinsNs/\s₁.heap.get? b=MA o/\o.cls=.type "module"/\o.dict=MA builtinsNs/\o.data=.plain)
  (KX:K.In s₁.heap) (hns:s₁.heap.Ns HX mg) (hb:s₁.heap.Ns builtinsNs mb) (hbb:∀ x:Str,x ≠ "__name__"->mb x=bootBuiltins x) (hlim:s₁.heap.NoLimit) (hg:s₁.gens=#[])
  (ha:s₁.heap.get? a=MA { cls:=.type "list",data:=.seq vs.toArray }) (hi:IntsAre vs ns) (hl:ns.length<=Ir) (hr:Room k callerA)
  (F:∀ base:Heap,K.In base->base.Ns HX mg->FnOk P w K mg base CX k fa fd [x] sp) (hbind:∀ (s:ME) (u:MD),BindsTo s fd ⟨[u],[]⟩ [(x,u)])
  (hsp:∀ H:Hp,SqL K H a (ns.map V.int)->sp [.ref a] H (λv _=>v=.bl MC) λ_ _ _=>False)
  (hCX:∀ H e s',CX [] H s₁ (λ_ _ _=>False) e s'->False) :
  codeAny (model P w) callerA (.call (.ref fa) ⟨[.ref a],[]⟩) (λr s'=>r=.ok (.ret (.bool MC))/\OldK s₁.heap s'.heap/\s'.os=s₁.os/\AllBare s'.gens) s₁:=by
 have rv:=iB hi;have lenV:=hi.length;have hB1:∀ p∈ts,K.lookup p.1=MF/\∃ c,IQ K c p.1=MC:=λp hp=>by
  have h1:=JI.mp (Hq _ _▸hB).1 p hp;rw [Hq] at h1;obtain⟨c,_,hc⟩:=List.any_eq_true.mp h1.2;exact⟨Kv.mp h1.1,c.1,hc⟩
 obtain⟨tr,htr⟩:∃ tr:Bool,tr=(K.lookup a).isNone:=⟨_,rfl⟩;generalize hH:iT ts tr a { cls:=.type "list",data:=.seq vs.toArray } (ns.map V.int)=H;have ofH:∀ {b u},H b=MA u->(∃ q,(b,q)∈ts/\u=.tbl q/\s₁.heap.get? b=MA (J3 #[])) \/ (tr=MC/\b=a/\u=.frz { cls:=.type "list",data:=.seq vs.toArray } (.lst (ns.map V.int))):=λ{b u} e=>by
  rw [<-hH] at e;rcases AE e with⟨q,e1,e2⟩ | z
  ·exact .inl ⟨q,dY e1,e2,hts _ (dY e1)⟩
  ·exact .inr z
 have ataT:ts.lookup a=MF:=by
  cases e:ts.lookup a with
  | none=>rfl
  | some q=>have:=hts _ (dY e);rw [ha] at this;cases this
 have hok:HOk P w H s₁.heap:=λb u e=>by
  rcases ofH e with⟨q,e1,rfl,e3⟩ | ⟨e1,rfl,rfl⟩
  ·exact⟨#[],e3,trivial,λpos cv z=>by cases z⟩
  ·exact⟨ha,by rw [Hc];exact hl,vs,_,rv,ha⟩
 have free:∀ {b:Hm} {o:Obj},s₁.heap.get? b=MA o->(∀ vs,o.data≠.fields vs)->(∀ vs n,o.data≠.seq vs n)->H b=MF:=λ{b o} e d1 d2=>by
  cases q:H b with
  | none=>rfl
  | some u =>
   rcases ofH q with⟨_,_,_,e3⟩ | ⟨_,rfl,_⟩
   ·rw [e] at e3;cases e3;exact absurd rfl (d1 _)
   ·rw [ha] at e;cases e;exact absurd rfl (d2 _ _)
 have nsK:∀ {b:Hm} {m:Str->MR},s₁.heap.Ns b m->(my s₁.heap H).Ns b m:=λ{b m} ⟨o,es,ep,e,d,r⟩=>⟨o,es,ep,fH e (free e (λ_ z=>by rw [d] at z;cases z) λ_ _ z=>by rw [d] at z;cases z),d,r⟩;have hKb:K.In (my s₁.heap H):=λb o e=>fH (KX b o e) (by
  cases q:H b with
  | none=>rfl
  | some u =>
   rcases ofH q with⟨_,e1,_,_⟩ | ⟨e1,rfl,_⟩
   ·rw [(hB1 _ e1).1] at e;cases e
   ·rw [htr,Kv] at e1;rw [e1] at e;cases e)
 have hM:Mod K mg (my s₁.heap H):=⟨hKb,nsK hns,⟨mb,nsK hb,hbb⟩,let⟨mc,h1,h2⟩:=hlim;⟨mc,nsK h1,h2⟩,by
  obtain⟨b,o,h1,h2,h3,h4,h5,h6⟩:=hbm;exact⟨b,o,h1,h2,fH h3 (free h3 (λ_ z=>by rw [h6] at z;cases z) λ_ _ z=>by rw [h6] at z;cases z),h4,h5,h6⟩⟩
 have tabs:TabsOk K H:=λc P q hq h1 h2=>by rw [<-hH];exact wy (Fd KX hB hq h1 h2)
 have e0:Env0 P w K mg (my s₁.heap H) callerA [] s₁ H:=⟨rfl,hM,λb o e=>BO e,JA (uH _ _),trivial,(λb z=>by cases z),tabs,hok,.of_eq hg⟩;have hS:SqL K H a (ns.map V.int):=by
  cases hk:K.lookup a with
  | some o =>
   have e:=KX a o hk;rw [ha] at e;cases e;exact .inr ⟨_,vs.toArray,_,hk,rfl,rfl,rfl,by rw [HG,lenV];exact hl,by simpa using rv⟩
  | none =>
   refine .inl (.inr ⟨{ cls:=.type "list",data:=.seq vs.toArray },?_⟩);rw [<-hH];unfold iT;rw [ataT];exact Mw ⟨by rw [htr,hk];rfl,rfl⟩
 refine Ms ((F _ hKb (nsK hns)).run callerA [] s₁ H ⟨[.ref a],[]⟩ [.ref a] [.ref a] _ _ hr e0 (hbind s₁ (.ref a)) (.cons rfl .nil) (hsp H hS)) λr s' h=>?_;cases r with
 | error e=>exact (hCX H e s' h).elim
 | ok fl =>
  cases fl with
  | next=>exact J9 h
  | brk=>exact J9 h
  | cont=>exact J9 h
  | ret u =>
   obtain⟨v,H',os,bare,un,hok',r',rfl⟩:=h;obtain rfl:u=Value.bool MC:=r';refine⟨rfl,⟨λb o e=>?_,λb o e=>un.there b o e (by simp)⟩,os,bare⟩;cases q:H b with
   | none=>exact .inl (un.keep b o e q (λz=>by cases z) (λz=>by cases z))
   | some u =>
    rcases ofH q with⟨qq,e1,rfl,e3⟩ | ⟨_,rfl,rfl⟩
    ·rw [e] at e3;cases e3;obtain⟨ps,e4,_⟩:=hok' b _ (un.tbls b _ q);obtain⟨c,hc⟩:=(hB1 _ e1).2;obtain⟨oc,us,_,_,_,_,_,_,_,c1,c2,c3,c4,_⟩:=Ml KX hc;refine .inr (.inl ⟨⟨c,oc,us,c1,c2,c3,c4⟩,rfl,#[],ps,rfl,?_⟩);rw [Array.empty_append];exact e4
    ·obtain⟨e1,_⟩:=hok b _ q;obtain⟨e2,_⟩:=hok' b _ (un.frzs b _ _ q);rw [e] at e1;cases e1;exact .inl e2
theorem walk_T {l:PySem.W.OpenLaw} {n k:Nat} {q:MI} {loose:MU} {XP:(Str->MR)->Heap->Prop} {YP:MH->Heap->Prop} {d:DefRec} {K:Params->Hj} {CX:MH->CXT} {sp:MH->Sp} {x:Str} (ts:Nj)
  (hn:l.most=MA n) (hn2:n<=Ir) (hdf:d.params.defaults=[]) (hr:Room k callerA)
  (hY:∀ (w:MH) (h:Heap),YP w h->(K w.params).In h/\∀ p∈ts,h.get? p.1=MA (J3 #[])) (hB:∀ w:MH,c8 (K w.params) ts=MC)
  (F:∀ (w:MH) (mg:Str->MR) (fa:Hm) (h:Heap),(K w.params).In h->h.Ns HX mg->mg d.name=MA (.ref fa) ->
   ∃ fd:FuncData,(∀ (s:ME) (u:MD),BindsTo s fd ⟨[u],[]⟩ [(x,u)]) /\
    ∀ base:Heap,(K w.params).In base->base.Ns HX mg->FnOk l.prog w (K w.params) mg base (CX w) k fa fd [x] (sp w))
  (hsp:∀ (w:MH) (H:Hp) (a:Hm) (ns:M4),ns.length<=n->SqL (K w.params) H a (ns.map V.int)->sp w [.ref a] H (λv _=>v=.bl MC) λ_ _ _=>False)
  (hCX:∀ (w:MH) (H:Hp) (s:ME) (e:MD) (s':ME),CX w [] H s (λ_ _ _=>False) e s'->False) :
  PySem.W.WalkO q loose XP YP l.row.toRowW d [] (λf vs=>PySem.call f vs):=by
 refine Att.attach_call hn hdf λw s₀ s₁ mg mb fa o pm cd doc a vs ns G Y ho hd hcd hmg hobj hints hlen hg=>?_;obtain⟨KX,hts⟩:=hY w _ Y;obtain⟨fd,hb,hF⟩:=F w mg fa _ KX G.T.g hmg;exact wz (hB w) hts G.T.bmain KX G.T.g G.T.b G.T.builtins G.T.nolimit hg hobj hints (HM hlen hn2) hr hF hb (λH hS=>hsp w H a ns hlen hS) λH e s'=>hCX w H s₁ e s'
noncomputable def gJ (K:Hj) (q:Str):Bool:=K.all λx=>!IK K (.ref x.1) q || (match x.2.data with
 | .fields vs=>(match (vs[11]?:MR) with | some (.ref P)=>IQ K x.1 P | _=>MG)
 | _=>MG)
theorem AF {K:Hj} {q:Str} {cdv:MD} (h:gJ K q=MC) (hc:IK K cdv q=MC):∃ c P,cdv=.ref c/\IQ K c P=MC/\IK K (.ref c) q=MC:=by
 have hc':=hc;unfold IK at hc';split at hc'
 ·rename_i c;split at hc'
  ·rename_i a b vs d hk;have h1:=JI.mp h _ (dY hk);dsimp only at h1;rw [hc] at h1;simp only [II,Bool.false_or] at h1;split at h1
   ·rename_i P _;exact⟨c,P,rfl,h1,hc⟩
   ·cases h1
  ·cases hc'
 ·cases hc'
section
variable {P:MI} {w:MH} {K:Hj} {mg:Str->MR} {base:Heap} {j k n:Nat} {x:Str} {st:Stmt} {ps N:MU} {γ:Type} {pre:γ->List DV->Prop} {post:γ->MB->Prop} {sp:Sp}
theorem Def.okL (F:Def K mg x st ps) (S:FnScope N ps (zh st)) (hn:ps.length=n) (hl:gJ K x=MC)
  (h:∀ (fa c Pt:Hm) (A:MJ) (outer:MV) (s:ME) (H:Hp) (E:XK),IQ K c Pt=MC->IK K (.ref c) x=MC->Room k (A.deeper (envOfC x (zh st) s.heap.objs.size fa (.ref c))) ->
   ∃ t,PSs (yd CX0 P w K mg base N x (zh st) fa (.ref c) A outer s H E).nox (yo st) t/\∀ (f:Fx) (xs:List DV) (c:γ),xs.length=n->pre c xs->PSd K f t (qz N xs) { nx:=λ_=>post c .none,rt:=post c }) :
  FnIn P w K mg base (k+1) x ps (spD K n pre post):=by
 obtain⟨fa,fd,F1,F2,F3⟩:=F.ex;refine⟨fa,fd,?_,F3,F1.kp,F2⟩;obtain⟨oc,od,kV,doc,pm,an,cdv,ct,osl,rfl,lk,hcd⟩:=F1.ex;obtain⟨c,Pt,rfl,l1,l2⟩:=AF hl hcd;refine xC lk hcd S (λvs H Q E h=>?_) λA outer s H vs Q E hr hs=>?_
 ·obtain⟨f,xs,c,r,hl,_⟩:=h;rw [r.length,hl,hn]
 ·obtain⟨f,xs,c,r,hl,fo,hp,q⟩:=hs;obtain⟨t,h1,h2⟩:=h fa _ Pt A outer s H E l1 l2 hr;exact⟨t,h1.nox,h2 f xs c hl hp (start N vs) H _ (jP r fo) (λ_ _ H' g _ p=>q .none _ H' g (jB.mpr rfl) p) (λd v H' g r p=>q d v H' g r p) (λ_ _ _ _ _ z=>z.elim) (λ_ _ _ _ _ z=>z.elim)⟩
end
end L2
end
section
namespace L2
open PySem PySem.Spec PyProof.Rows
section
variable {P:MI} {w:MH} {env:Env} {h:Heap} {pos:Pos}
theorem Reads.imp {e:Expr} {R R':MD->Prop} (a:Reads P w env h e R) (i:∀ v,R v->R' v):Reads P w env h e R':=λA s Q E e q=>a A s Q E e λv tk r=>q v tk (i v r)
theorem ly {a b:Expr} {l:Hm} {items:Array MD} {k:Nat} {x:MD} (ha:Reads P w env h a (·=.ref l)) (hb:Reads P w env h b (λv=>∃ t,v=.int k t)) (hl:IsTup h l items) (hk:k<1000) (hx:items[k]?=MA x) (hs:e9 b) (hg:∀ v r,letTemporaryGo a v r=pure ()) :
  Reads P w env h (.Subscript a b pos) (·=x):=λA s Q E e q=>by
 refine Subscript_ (ha A s _ E e λv tk ev=>?_);subst ev;refine hb A _ _ E e λv tk ⟨t,ev⟩=>?_;subst ev;have hlt:k<items.size:=(Li.mp hx).1;exact @item_tuple _ _ _ _ _ _ _ l items (k:Int) t k x _ (by rw [<-e] at hl;exact hl) (by omega) (by omega) (seqIndex_of (by omega) (by omega) |>.trans (by rw [Km])) hx (q x tk rfl) (hs _ _) (hg _)
end
def At2 (Mt:Nb) (p:Int×Int) (k:Int):Prop:=0<=p.1/\0<=p.2/\∃ row,Mt[p.2.toNat]?=MA row/\row[p.1.toNat]?=MA k
def TabQ2 (K:Hj) (H:Hp) (r:Hm) (Mt:Nb):Prop:=∃ rs,SqL K H r rs/\rs.length=Mt.length/\∀ (i:Nat) row,Mt[i]?=MA row->∃ a,rs[i]?=MA (.ref a)/\SqL K H a (row.map V.int)
theorem TabQ2.mono {K:Hj} {H H':Hp} {r:Hm} {Mt:Nb} (s:Same H H') (h:TabQ2 K H r Mt):TabQ2 K H' r Mt :=
 let⟨rs,h1,h2,h3⟩:=h;⟨rs,s.seq h1,h2,λi row e=>let⟨a,e1,e2⟩:=h3 i row e;⟨a,e1,s.seq e2⟩⟩
def tR (K:Hj) (jr:Nat) (t:TA):TE:=λσ H Q=>t σ H λvs H1=>∃ l p1 p2 r Mt,∃ (q1 q2:Int×Int),∃ k1 k2,vs=[.ref l]/\SqL K H1 l [.ref p1,.ref p2]/\SqT K H1 p1 [.int q1.1,.int q1.2]/\SqT K H1 p2 [.int q2.1,.int q2.2]/\σ[jr]?=MA (MA (.ref r))/\TabQ2 K H1 r Mt/\At2 Mt q1 k1/\At2 Mt q2 k2 /\
 (k1<k2->∀ D H',Same H1 H'->H1 D=MF->H' D=MA (.lst [.ref p1,.ref p2])->Q (.ref D) H')/\(k2<k1->∀ D H',Same H1 H'->H1 D=MF->H' D=MA (.lst [.ref p2,.ref p1])->Q (.ref D) H')/\k1≠k2
section
variable {X:Cx} {p pos lpos kpos ypos xpos xpos' s1 s2 s3 s4 c1 c2:Pos} {j1 j2:_} {e:Expr} {t:TA} {x y q:Str} {params:Arguments} {sc:Scope} {c P:Hm} {jy k:Nat}
theorem rJ {K:Hj} (hK:X.K=K) (hr:Room (k+2) X.A) (hg:Gl X "sorted") (hm:X.mg "sorted"=MF) (ha:PA X [e] t)
  (hq:q∈ae) (hc:X.env.code=.ref c) (h1:IQ K c P=MC) (h2:IK K (.ref c) q=MC) (hqu:X.env.qual ++ "<lambda>"=lamQ q)
  (hfr0:∀ p∈sc.names,p.2=.free->X.env.scope.names.lookup p.1=MA .cell)
  (hdef:defaultsOf params X.env=([],[]))
  (hb:∀ (pm ctv v:MD) (cd:Hm) clos,bindArgs (Mg "<lambda>" (lamQ q) params (.Subscript (.Subscript (.Name y ypos) (.Subscript (.Name x xpos) (.Constant (.int 1) j1 c1) s1) s2) (.Subscript (.Name x xpos') (.Constant (.int 0) j2 c2) s3) s4) sc clos pm (.ref cd) ctv) ⟨[v],[]⟩=pure [(x,v)])
  (hx:sc.names.lookup x=MA .local) (hy:sc.names.lookup y=MA .free) (hcell:∀ z∈sc.names,z.2≠.cell) (hco:sc.isCoroutine=MG) (hgen:sc.isGenerator=MG) (hk:sc.kind=.function)
  (hN:X.N[jy]?=MA y) (hyo:X.env.scope.names.lookup y=MA .cell)
  (hv:bootBuiltins "sorted"=MA (.builtin "sorted"):=by rfl)
  (hst:Iq [e] X.env=(MG,eval e X.env) :: Iq [] X.env:=by rfl) (hpl:(backTo pos (Iq [] X.env)).any (·.1)=MG:=by rfl)
  (hxd:(x == ("__debug__":Str))=MG:=by decide) (hyd:(y == ("__debug__":Str))=MG:=by decide) (hyc:(y == ("__classdict__":Str))=MG:=by decide) :
  PE X (.Call (.Name "sorted" p) [e] [⟨MA "key",.Lambda params (.Subscript (.Subscript (.Name y ypos) (.Subscript (.Name x xpos) (.Constant (.int 1) j1 c1) s1) s2) (.Subscript (.Name x xpos') (.Constant (.int 0) j2 c2) s3) s4) sc lpos,kpos⟩] pos) (tR K jy t):=by
 subst hK;intro Mu s σ H Q I h;have hfr:∀ z,(z,NameKind.free)∈sc.names->∃ d,X.env.cells.lookup z=MA d:=λz hz=>I.ok.has z (.inl (hfr0 _ hz rfl));have hcl:=cj hfr;refine wpAny_Call_Name_kw (qV I hg hm hv ?_);refine callWith_kw ?_ ?_ ?_
 rotate_left
 ·rw [hst];rfl
 ·rw [hst];exact hpl
 refine thn (ha pos Mu s σ H _ I h) λus s1 ⟨vs,H1,I1,r,q1⟩=>?_;obtain⟨l,p1,p2,ra,Mt,z1,z2,k1,k2,rfl,hl,ht1,ht2,ha,hT,a1,a2,cA,cB,kne⟩:=q1;obtain⟨u,rfl,ru⟩:=vals1 r;cases ru;refine wpAny_evalAll_cons (Hf (nL I1 hq hc h1 h2 hqu hcl hdef λf c' pm ctv s2 H2 I2 sm ho hcd=>?_));refine Hf (wpAny_standAt (Hs (wpAny_evalAll_nil ?_)));obtain⟨its,rv,pl,_⟩:=I2.list (sm.seq hl);have eits:its=[.ref p1,.ref p2]:=by
  cases rv with
  | cons r1 t1 =>
   cases t1 with
   | cons r2 t2 =>
    cases t2;cases r1;cases r2;rfl
 subst eits;obtain⟨m,hn,hlo⟩:=id I2.loc;obtain⟨ua,rua,lk⟩:=hlo jy y (.ref ra) hN ha (.inr (.inl hyo));cases rua;obtain⟨cy,ecy,icy⟩:∃ cy,X.env.cells.lookup y=MA cy/\s2.heap.IsCell cy (MA (.ref ra)):=by
  rcases lk with⟨k1,_⟩ | ⟨_,cy,h3,h4⟩
  ·have k1':X.env.scope.names.lookup y=MA .local:=k1;rw [hyo] at k1';cases k1'
  ·exact⟨cy,h3,h4⟩
 obtain⟨rs,hrs,rlen,hrow⟩:=hT.mono sm;obtain⟨tits,trv,tpl,tz⟩:=I2.list hrs;have lne:∀ {b:Hm} {is:Array MD},s2.heap.IsList b is->b≠X.env.locals:=λ{b is} il e=>by
  obtain⟨o,h3,h4,n5,h5⟩:=il;obtain⟨o',es,ep,h6,h7,_⟩:=hn;rw [e,h6] at h3;cases h3;rw [h7] at h5;cases h5
 have fne:f≠X.env.locals:=λe=>by
  obtain⟨o',es,ep,h6,h7,_⟩:=hn;rw [e,h6] at ho;cases ho;cases h7
 have cne:∀ {b:Hm} {o:Obj} {vs:Array MD},s2.heap.get? b=MA o->o.data=.fields vs->b≠X.env.locals:=λ{b o vs} e1 e2 e=>by
  obtain⟨o',es,ep,h6,h7,_⟩:=hn;rw [e,h6] at e1;cases e1;rw [h7] at e2;cases e2
 have back:∀ {h:Heap} {tk:Nat} {own:MT},Fr (Att.noObjs s2.heap) X.env.locals h m->News (Att.noObjs s2.heap) X.env.locals h (jz (Att.noObjs s2.heap) s2.heap X.env.locals++own) ->
   (∀ b o,b≠X.env.locals->s2.heap.get? b=MA o->h.get? b=MA o)/\Inv X Mu σ H2 { s2 with heap:=h,toks:=tk }:=λ{h tk own} F' N'=>by
  have kp:∀ b o,b≠X.env.locals->s2.heap.get? b=MA o->h.get? b=MA o:=λb o nb e=>(N' (b,o) (HQ _ (aO nb (Att.noObjs_get _ _) e))).1;refine⟨kp,I2.keptL (t':=tk) kp ?_ λm' hm'=>?_⟩
  ·obtain⟨o',es,ep,h6,_⟩:=F'.ns;exact⟨o',h6⟩
  ·have:m'=m:=by
    obtain⟨o,es,ep,ho,hd,_,hf⟩:=hn;obtain⟨o',es',ep',ho',hd',_,hf'⟩:=hm';rw [ho] at ho';cases ho';rw [hd] at hd';cases hd'
    funext n
    rw [<-hf n,<- hf' n]
   rw [this];exact F'.ns
 have kept:∀ {h:Heap},Fr (Att.noObjs s2.heap) X.env.locals h m->News (Att.noObjs s2.heap) X.env.locals h (jz (Att.noObjs s2.heap) s2.heap X.env.locals)->∀ b o,b≠X.env.locals->s2.heap.get? b=MA o->h.get? b=MA o:=λF' N' b o nb e=>(N' (b,o) (aO nb (Att.noObjs_get _ _) e)).1
 -- one turn of the key
 have turn:∀ {pa:Hm} {z:Int×Int} {kk:Int},SqT X.K H2 pa [.int z.1,.int z.2]->At2 Mt z kk->∀ (h:Heap) (tk:Nat) (own:MT),Fr (Att.noObjs s2.heap) X.env.locals h m->News (Att.noObjs s2.heap) X.env.locals h (jz (Att.noObjs s2.heap) s2.heap X.env.locals++own) ->
   HP (model X.prog X.w) X.A.in1.in1 (call (.ref f) [.ref pa]) (KskEnd (Att.noObjs s2.heap) X.env.locals m (jz (Att.noObjs s2.heap) s2.heap X.env.locals++own) kk { s2 with heap:=h,toks:=tk }) (λ_ _=>False) { s2 with heap:=h,toks:=tk }:=by
  intro pa z kk hpt hat h tk own F' N';obtain⟨kp,I3⟩:=back (tk:=tk) F' N';obtain⟨z0,z1',row,er,ek⟩:=hat;obtain⟨pits,prv,pit,_⟩:=I2.tuple hpt;obtain⟨ra',era,hra⟩:=hrow _ _ er;obtain⟨wv,ewv,rwv⟩:=trv.get era;cases rwv;obtain⟨rits,rrv,rpl,rz⟩:=I2.list hra;obtain⟨kv,ekv,rkv⟩:=rrv.get (i:=z.1.toNat) (x:=.int kk) (by rw [Ho,ek];rfl);obtain⟨tkv,rfl⟩:=rkv;obtain⟨xv,exv,rxv⟩:=prv.get (i:=0) (x:=.int z.1) rfl;obtain⟨yv,eyv,ryv⟩:=prv.get (i:=1) (x:=.int z.2) rfl;obtain⟨tx,rfl⟩:=rxv;obtain⟨ty,rfl⟩:=ryv;have pne:=tup_ne hn pit;have l1:z.2.toNat<Mt.length:=(Hg.mp er).1;have l2:z.1.toNat<row.length:=(Hg.mp ek).1;have b1:row.length<=Ir:=by rw [Hc] at rz;exact rz
  have b2:rs.length<=Ir:=tz;have hline:=dH;refine tQ (x:=x) (R:=(·=.int kk tkv)) (kp _ _ fne ho) ?_ hr.in1.in1.depth I3.nolimit (hb _ _ _ _ _) hx hcell hco hgen hk (λh₁ hns k4=>?_) λu h₁ tk1 eu k4=>?_
  ·obtain⟨c2,oc,vs,tq,e1,e2,e3,e4⟩:=hcd;exact⟨c2,oc,vs,tq,e1,kp _ _ (cne e2 e3) e2,e3,e4⟩
  ·have pit':IsTup h₁ pa pits.toArray:=gq pit λu eu=>k4 _ _ (kp _ u pne eu);have rx:∀ {po:Pos},Reads X.prog X.w (Le (lamQ q) sc h.objs.size f (.ref c') (yl X.env sc.names [])) h₁ (.Name x po) (·=.ref pa):=gI (env:=Le (lamQ q) sc h.objs.size f (.ref c') (yl X.env sc.names [])) hk hx hns (by simp) hxd;have hyv:pits.toArray[1]?=MA (.int z.2 ty):=by simpa using eyv
   have hxv:pits.toArray[0]?=MA (.int z.1 tx):=by simpa using exv
   refine AD (l:=ra') (items:=rits.toArray) (k:=z.1) (AD (l:=ra) (items:=tits.toArray) (k:=z.2) (Cu (c:=cy) hk hy (aS hfr (mem_of_lookup hy) ecy) ?_ hyd hyc) ((ly (k:=1) rx lu pit' (by decide) hyv (λ_ _=>rfl) λ_ _=>rfl).imp λv e=>⟨ty,e⟩) ?_ z1' ?_ (by simpa using ewv) (λ_ _=>rfl)) ((ly (k:=0) rx lu pit' (by decide) hxv (λ_ _=>rfl) λ_ _=>rfl).imp λv e=>⟨tx,e⟩) ?_ z0 ?_ (by simpa using ekv) (λ_ _=>rfl)
   ·obtain⟨o,e1,e2⟩:=icy;exact⟨o,k4 _ _ (kp _ _ (I2.cne y cy ecy) e1),e2⟩
   ·obtain⟨o,h3,h4⟩:=tpl.isList;exact⟨o,k4 _ _ (kp _ _ (lne tpl.isList) h3),h4⟩
   ·omega
   ·obtain⟨o,h3,h4⟩:=rpl.isList;exact⟨o,k4 _ _ (kp _ _ (lne rpl.isList) h3),h4⟩
   ·omega
  ·subst eu;exact⟨h₁,tk1,tkv,rfl,rfl,⟨F'.ns.keeps k4,λb o e=>k4 _ _ (F'.keep b o e),F'.above⟩,N'.grown k4⟩
 show HP _ _ (call (.builtin "sorted") [.ref l] [(JV "key",.ref f)]) _ _ s2;have fin:∀ {pa pb:Hm},(∀ D H',Same H1 H'->H1 D=MF->H' D=MA (.lst [.ref pa,.ref pb])->Q (.ref D) H')->∀ (D:Hm) c (h':Heap) tk,Fr (Att.noObjs s2.heap) X.env.locals h' m->News (Att.noObjs s2.heap) X.env.locals h' ((D,PySem.W.listOf (IV [.ref pa,.ref pb]) c) :: jz (Att.noObjs s2.heap) s2.heap X.env.locals)->(∀ q∈jz (Att.noObjs s2.heap) s2.heap X.env.locals,q.1<D)->EP X Mu σ Q (.ref D) { s2 with heap:=h',toks:=tk }:=by
  intro pa pb cc D c h' tk F' N' hD;have kp:=kept F' λp hp=>N' p (Hl _ hp);have nD:∀ b u,s2.heap.get? b=MA u->b≠D:=λb u eb=>by
   by_cases hb:b=X.env.locals
   ·intro z;have:=(N' _ Hk).2.1;exact this (z.symm.trans hb)
   ·exact HW (hD (b,u) (aO hb (Att.noObjs_get _ _) eb))
  have hDn:H2 D=MF:=by
   cases z:H2 D with
   | none=>rfl
   | some u =>
    obtain⟨v,hv⟩:=(I2.hok D u z).is;exact absurd rfl (nD D v hv)
  have nsK:∀ m',s2.heap.Ns X.env.locals m'->h'.Ns X.env.locals m':=λm' hm'=>by
   have:m'=m:=by
    obtain⟨o,es,ep,ho,hd,_,hf⟩:=hn;obtain⟨o',es',ep',ho',hd',_,hf'⟩:=hm';rw [ho] at ho';cases ho';rw [hd] at hd';cases hd'
    funext n
    rw [<-hf n,<- hf' n]
   rw [this];exact F'.ns
  have hLo:∃ o,h'.get? X.env.locals=MA o:=let⟨o,_,_,ho,_⟩:=F'.ns;⟨o,ho⟩
  refine⟨.ref D,upd H2 D (.lst [.ref pa,.ref pb]),I2.laidL (t':=tk) kp hLo nsK nD hDn ⟨by show 2<=Ir;decide +kernel,[.ref pa,.ref pb],c,.cons rfl (.cons rfl .nil),(N' _ Hk).1⟩,rfl,cc D _ (sm.trans (ye hDn _)) (sm.free hDn) zw⟩
 refine ksk_two (h₀:=Att.noObjs s2.heap) (L:=X.env.locals) (m:=m) (news:=jz (Att.noObjs s2.heap) s2.heap X.env.locals) (b:=MG) (f:=.ref f) k1 k2 (Att.fr_all hn) xn pl.isList (ksk_s1 _ _) (λx=>ksk_l1 _ _) (λx=>rfl) (turn (sm.seqT ht1) a1) (turn (sm.seqT ht2) a2) (λhle=>?_) λhle=>?_
 ·have hle':k1<=k2:=hle;exact fin (cA (by omega))
 ·have hle':k2<=k1:=hle;exact fin (cB (by omega))
end
section
variable {K:Hj} {f:Fx} {ρ:zr} {t:TA} {P:MB->Prop} {jr:Nat} {Mt:Nb}
theorem AG {H:Hp} {v:V} (r:Rep K H (.list (Mt.map λr=>.list (r.map .int))) v):∃ a,v=.ref a/\TabQ2 K H a Mt:=by
 obtain⟨a,xs,rfl,h1,h2⟩:=zJ.mp r;refine⟨a,rfl,xs,h1,by rw [h2.length,Hc],λi row e=>?_⟩;obtain⟨u,e1,e2⟩:=h2.get (i:=i) (d:=.list (row.map .int)) (by rw [Ho,e];rfl);obtain⟨b,ys,rfl,h3,h4⟩:=zJ.mp e2;rw [h4.ints] at h3;exact⟨b,e1,h3⟩
theorem wA (hi:ρ[jr]?=MA (MA (.dat (.list (Mt.map λr=>.list (r.map .int)))))) (h:PAd K f t ρ λxs=>∃ (p q:Int×Int) (k1 k2:Int),xs=[.dat (.list [.tuple [.int p.1,.int p.2],.tuple [.int q.1,.int q.2]])]/\At2 Mt p k1/\At2 Mt q k2/\k1≠k2/\(k1<k2->P (.list [.tuple [.int p.1,.int p.2],.tuple [.int q.1,.int q.2]]))/\(k2<k1->P (.list [.tuple [.int q.1,.int q.2],.tuple [.int p.1,.int p.2]]))) :
  PEd K f (tR K jr t) ρ P:=λσ H Q e q=>h σ H _ e λxs vs H1 g1 r1 ⟨p,z,k1,k2,ex,a1,a2,ne,c1,c2⟩=>by
 subst ex;obtain⟨v,s1,r2⟩:=(e.mono g1).get jr _ hi;obtain⟨ra,rfl,hT⟩:=AG (show Rep K (hide H1 f) _ v from r2);cases r1 with
 | cons r0 rt =>
  cases rt;obtain⟨l,ys,rfl,h1,h2⟩:=zJ.mp (show Rep K (hide H1 f) _ _ from r0);obtain⟨y1,ys',rfl,hy1,h2'⟩:=zG.mp h2;obtain⟨y2,ys'',rfl,hy2,h2''⟩:=zG.mp h2';have:=zT.mp h2'';subst this;obtain⟨p1,w1,rfl,hp1,hw1⟩:=zR.mp hy1;obtain⟨p2,w2,rfl,hp2,hw2⟩:=zR.mp hy2;have e1:=Reps.ints (ns:=[p.1,p.2]) hw1;have e2:=Reps.ints (ns:=[z.1,z.2]) hw2;subst e1 e2;have done:∀ {pa pb:Hm} {da db:MB},Rep K (hide H1 f) da (.ref pa)->Rep K (hide H1 f) db (.ref pb)->P (.list [da,db])->∀ D H',Same H1 H'->H1 D=MF->H' D=MA (.lst [.ref pa,.ref pb])->Q (.ref D) H':=λ{pa pb da db} ra rb pp D H' sm hn hD=>by
   have g2:Goes f H1 H':=.of_same sm g1.2;exact q _ _ H' (g1.trans g2) (zJ.mpr ⟨D,_,rfl,.of (zI (fresh_ne g1.2 hn) hD),.cons' (Rep.mono g2.1 _ _ ra) (.cons' (Rep.mono g2.1 _ _ rb) (zT.mpr rfl))⟩) pp
  exact⟨l,p1,p2,ra,Mt,p,z,k1,k2,rfl,(zp _ _).seq h1,(zp _ _).seqT hp1,(zp _ _).seqT hp2,s1,hT.mono (zp _ _),a1,a2,λlt=>done hy1 hy2 (c1 lt),λlt=>done hy2 hy1 (c2 lt),ne⟩
end
end L2
end
section
namespace L2
open PySem PySem.W PySem.Calls PyProof.Rows
section
variable {P:MI} {w:MH} {A:MJ} {X:MD->ME->Prop} {s:ME} {κ:SortKind} {vs ks:MQ} {lt:Nat->Nat->Bool} {f:MD}
def tS (P:MI) (w:MH) (A:MJ) (s:ME) (h0:Heap) (f:MD) (vs ks:MQ):Prop :=
 ∀ (i:Nat) (v k:MD),vs[i]?=MA v->ks[i]?=MA k->∀ (h:Heap) (tk:Nat),(∀ b o,h0.get? b=MA o->h.get? b=MA o)->∀ R:MD->ME->Prop,
  (∀ (h':Heap) tk',(∀ b o,h.get? b=MA o->h'.get? b=MA o)->R k { s with heap:=h',toks:=tk' })->HP (model P w) A (call f [v]) R (λ_ _=>False) { s with heap:=h,toks:=tk }
theorem AH {a:Hm} {e:Nat} {R:PySem.Fin->ME->Prop} (hz:vs.length<=1000) (hl:ks.length=vs.length) (ha:s.heap.get? a=MA (seqObj "list" vs.toArray e)) {h0:Heap} (h0s:∀ b o,h0.get? b=MA o->b≠a/\s.heap.get? b=MA o)
  (turn:tS P w A s h0 f vs ks) (K:∀ tk,Asks P w A { s with heap:=h0,toks:=tk } κ ks lt)
  (q:∀ (h':Heap) tk p c,Pm vs.length p->Up lt p vs.length->(∀ b o,h0.get? b=MA o->h'.get? b=MA o)->h'.get? a=MA (seqObj "list" (p.toList.map λi=>vs.getD i Value.none).toArray c)->R (.done (.ret .none)) { s with heap:=h',toks:=tk }) :
  HP (model P w) A (ksk_tree a f MG) R X s:=by
 have h1000:(1000:Nat)<Ir:=by rw [sizeLine_eq];decide
 let h1:=s.heap.update a (Jj λ_=>(#[]:Array MD))
 obtain⟨e1,a1⟩:∃ e1,h1.get? a=MA (seqObj "list" #[] e1):=⟨_,get?_update_seq ha λ_=>#[]⟩
 let h2':=h1.push (seqObj "tuple" vs.toArray 0)
 let kS:=h2'.objs.size
 let h3:=h2'.push (seqObj "list" #[] 0)
 have a3:h3.get? a=MA (seqObj "list" #[] e1):=Hr _ (Hr _ a1);have k3:h3.get? kS=MA (seqObj "list" #[] 0):=HS _ rfl;have kz:∀ b o,h0.get? b=MA o->h3.get? b=MA o:=λb o eb=>Hr _ (Hr _ ((Il _ _ (Jc (h0s b o eb).1)).trans (h0s b o eb).2));have sz1:h1.objs.size=s.heap.objs.size:=LG _ _ _;have sz2:h2'.objs.size=s.heap.objs.size+1:=by show (h1.push _).objs.size=_;rw [size_push',sz1]
 have lt0:∀ b o,h0.get? b=MA o->b≠kS:=λb o eb=>by
  have:=HD (h0s b o eb).2;exact HW (show b<h2'.objs.size from sz2▸IU this)
 have ak:a≠kS:=HW (show a<h2'.objs.size from sz2▸IU (HD ha));unfold ksk_tree;refine Hf (listItems_at ha rfl ?_);refine Hf (listUpdate_at ha rfl ?_ (by rw [HG];omega) (HR _));refine Hf (seqEpoch_at a1 rfl ?_);refine Hf (wpAny_newTuple ?_ (by show vs.length<=_;omega));refine Hf (wpAny_newList ?_ (HR _));refine Ik ?_;show HP _ A (ksk_rest a f MG vs.toArray e1 (.ref kS)) _ _ { s with heap:=h3 };unfold ksk_rest;refine Hf (wpAny_rule ?_)
 first
  | rw [List.forIn_toArray]
  | (rw [<-JK];simp only [List.toList_toArray])
  | rw [<-JK]
 refine Hf (ksk_fold (λi s'=>∃ h' tk e,s'={ s with heap:=h',toks:=tk }/\(∀ b o,h0.get? b=MA o->h'.get? b=MA o)/\h'.get? a=MA (seqObj "list" #[] e1)/\h'.get? kS=MA (seqObj "list" (ks.take i).toArray e)) vs 0 _
  ⟨h3,s.toks,0,rfl,kz,a3,k3⟩ ?_ ?_)
 ·rintro j x s' hx ⟨h',tk,e,rfl,F',a',k'⟩;simp only [Ld] at k' ⊢;have hj:j<vs.length:=(Hg.mp hx).1;obtain⟨k,hkj⟩:∃ k,ks[j]?=MA k:=⟨_,Hd (by omega)⟩;refine Hf (wpAny_attempt (Jt (turn j x k hx hkj h' tk F' (λv s''=>∃ h4 tk4,v=k/\s''={ s with heap:=h4,toks:=tk4 }/\∀ b o,h'.get? b=MA o->h4.get? b=MA o) λh4 tk4 k4=>⟨h4,tk4,rfl,rfl,k4⟩) ?_ λ_ _ hF=>hF.elim));rintro v s'' ⟨h4,tk4,rfl,rfl,k4⟩;dsimp only;have nk:=k4 _ _ k';have s1:=J2 h4 kS (Jj (·.push v));obtain⟨c2,hc2⟩:∃ c2,(h4.update kS (Jj (·.push v))).get? kS=MA (seqObj "list" ((ks.take j).toArray.push v) c2):=⟨_,get?_update_seq nk (·.push v)⟩;have ek:(ks.take (j+1)).toArray=(ks.take j).toArray.push v:=by rw [Iv,hkj];simp
  have lk:(ks.take j).length<=1000:=by rw [Im];omega
  refine Hf (listUpdate_at nk rfl ?_ (by rw [HG];omega) (HM (JA (Array.size_push ..)) (by rw [HG];omega)));refine Hs ⟨rfl,_,_,c2,rfl,λb o eb=>?_,?_,by rw [ek];exact hc2⟩
  ·exact (Il _ _ (Jc (lt0 b o eb))).trans (k4 _ _ (F' b o eb))
  ·exact (Il _ _ (Jc ak)).trans (k4 _ _ a')
 ·rintro s' ⟨h',tk,e,rfl,F',a',k'⟩;have e3:ks.take (0+vs.length)=ks:=LO (by omega);rw [e3] at k';refine Hf (listItems_at k' rfl ?_);have st0:SortSt.mk' κ (ks.toArray.zip vs.toArray) #[] 7 MF=kas_st κ (ks.toArray.zip vs.toArray) (IV (HN vs.length)):=by
   have z:=kas_range (ks.toArray.zip vs.toArray);have zl:(ks.toArray.zip vs.toArray).size=vs.length:=by simp [hl]
   rw [zl] at z;unfold kas_st;rw [z]
  have fin:∀ (st':SortSt) (p:Array Nat),Pm vs.length p->Up lt p vs.length->arrOf st'=p.map (kas_item (ks.toArray.zip vs.toArray))->failedOf st'=MF->HP (model P w) A (ksk_tail a MG e1 (.ref kS) st') R X { s with heap:=h',toks:=tk }:=λst' p x1 x2 x3 x4=>by
   have out:=kat_snds hl x3;unfold ksk_tail
   try dsimp only
   rw [out,x4];have s1:=Il (h:=h') (Jj λ_=>(#[]:Array MD)) (Jc ak:kS≠a);have a4:(h'.update kS (Jj λ_=>(#[]:Array MD))).get? a=MA (seqObj "list" #[] e1):=(Il _ _ (Jc ak)).trans a';obtain⟨c,a5⟩:∃ c,((h'.update kS (Jj λ_=>(#[]:Array MD))).update a (Jj λ_=>(p.toList.map λi=>vs.getD i Value.none).toArray)).get? a=MA (seqObj "list" (p.toList.map λi=>vs.getD i Value.none).toArray c):=⟨_,get?_update_seq a4 λ_=>(p.toList.map λi=>vs.getD i Value.none).toArray⟩;refine Hf (listUpdate_at k' rfl ?_ (by rw [HG];omega) (HR _));refine Hf (wpAny_letGo ?_);refine Hf (seqEpoch_at a4 rfl ?_);refine Hf (listUpdate_at a4 rfl ?_ (HR _) (by
    show (p.toList.map λi=>vs.getD i Value.none).toArray.size<=_;rw [HG,Hc,HF,x1.size];omega))
   simp only [bne_self_eq_false,Iu,if_false];refine Hs (q _ tk p c x1 x2 (λb o eb=>?_) a5);exact (Il _ _ (Jc (h0s b o eb).1)).trans ((Il _ _ (Jc (lt0 b o eb))).trans (F' b o eb))
  unfold ksk_end
  try dsimp only
  have step:∀ t:Sem PySem.Fin,HP (model P w) A t R X { s with heap:=h',toks:=tk }->HP (model P w) A (if MG=MC then (do let _ <- rule "list.sort.reverse";t) else t) R X { s with heap:=h',toks:=tk }:=λt ht=>by rw [Mv He];exact ht
  refine step _ ?_;by_cases h2:vs.length<2
  ·have two:vs.toArray.size<2:=by rw [HG];exact h2
   rw [Mw two,Mw two];refine Hf (Hs ?_);refine Hf ?_;rw [StateT.run_pure];refine Hs ?_;have z:=kas_range (ks.toArray.zip vs.toArray);have zl:(ks.toArray.zip vs.toArray).size=vs.length:=by simp [hl]
   rw [zl] at z;exact fin _ (IV (HN vs.length)) (Pm.range _) (λi j x y=>by omega) z.symm rfl
  have two:¬ vs.toArray.size<2:=by rw [HG];exact h2
  rw [Mv two,Mv two];refine Hf ?_;refine Jt ((K tk).kind (by omega) h' F' (λκ' s'=>κ'=κ/\s'={ s with heap:=h',toks:=tk }) ⟨rfl,rfl⟩) ?_ λ_ _ z=>z.elim;rintro κ' s' ⟨eκ,es⟩;rw [eκ,es];have W:=(K tk).less h' F';rw [kat_ask_eq hl,hl] at W;have T:=(K tk).ord;have few:=(K tk).few;rw [hl] at T few;rw [Mv He,st0];refine Hf ?_;refine Jt (mX (Q:=λst' s'=>s'={ s with heap:=h',toks:=tk }/\∃ p,Pm vs.length p/\Up lt p vs.length/\arrOf st'=p.map (kas_item (ks.toArray.zip vs.toArray))/\failedOf st'=MF) W T (by omega) few λst' p x1 x2 x3 x4=>⟨rfl,p,x1,x2,x3,x4⟩) ?_ λ_ _ z=>z;rintro⟨⟨⟩,st'⟩ s' ⟨rfl,p,x1,x2,x3,x4⟩;exact fin st' p x1 x2 x3 x4
theorem gK {l:Hm} {fa:Hm} {Q:MD->ME->Prop} (hz:vs.length<=1000) (hlk:ks.length=vs.length) (hl:s.heap.IsList l vs.toArray)
  (turn:tS P w A.in1.in1 s s.heap (.ref fa) vs ks) (K:∀ tk,Asks P w A.in1.in1 { s with toks:=tk } κ ks lt)
  (q:∀ (h':Heap) tk D p c,Pm vs.length p->Up lt p vs.length->s.heap.objs.size<=D->(∀ b o,s.heap.get? b=MA o->h'.get? b=MA o)->h'.get? D=MA (seqObj "list" (p.toList.map λi=>vs.getD i Value.none).toArray c)->Q (.ref D) { s with heap:=h',toks:=tk }) :
  HP (model P w) A (call (.builtin "sorted") [.ref l] [(JV "key",.ref fa)]) Q X s:=by
 have h1000:(1000:Nat)<Ir:=by rw [sizeLine_eq];decide
 let h1:=(s.heap.push (seqObj "list" #[] 0)).update s.heap.objs.size (Jj (·++vs.toArray))
 have s1:h1.objs.size=s.heap.objs.size+1:=by rw [LG,size_push']
 let h2':=h1.push (seqObj "list" vs.toArray 0)
 have at2:h2'.get? (s.heap.objs.size+1)=MA (seqObj "list" vs.toArray 0):=by rw [<-s1];exact HS _ rfl
 have keep:∀ b o,s.heap.get? b=MA o->b≠s.heap.objs.size+1/\h2'.get? b=MA o:=λb o eb=>by
  have lb:=HD eb;refine⟨λz=>?_,Hr _ ((Il _ _ λz=>?_).trans (Hr _ eb))⟩
  ·rw [z] at lb;exact Jw _ (LP lb (K5 _))
  ·rw [<-z] at lb;exact Jw _ lb
 refine call_function_entry_kw kind_sorted plain_sorted entry_sorted (ksk_s1 _ _) ?_;unfold Builtin.«sorted»;apply Hf (m:=checkCount "sorted" 1 1 _);apply Hs;apply Hf;refine collect_list hl ?_ (by omega);apply Hf;refine wpAny_newList ?_ (by omega)
 change HP _ _ _ _ _ { s with heap:=h2' }
 rw [show Value.ref ((s.heap.push (seqObj "list" #[] 0)).update s.heap.objs.size (Jj (·++vs.toArray))).objs.size=Value.ref (s.heap.objs.size+1) from congrArg Value.ref s1];refine Hf (Ik (wpAny_call_entry_kw slot_list_sort ⟨_,at2,rfl⟩ entry_list_sort ?_ (ksk_l1 _ _)));show HP (model P w) A.in1.in1 (Builtin.«list.sort» ⟨[.ref (s.heap.objs.size+1)],[(JV "key",.ref fa)]⟩) _ _ _;rw [ksk_t1];refine AH (s:={ s with heap:=h2' }) hz hlk at2 (h0:=s.heap) keep turn K λh' tk p c x1 x2 x3 x4=>⟨_,rfl,Hs ⟨_,rfl,?_⟩⟩;exact q h' tk _ p c x1 x2 (Lw _) x3 x4
end
noncomputable def kvI (xs:List (Int×V)):List (Key×V):=xs.map λp=>(.inl p.1,p.2)
noncomputable def lkI {α:Type} (k:Int) (xs:List (Int×α)):Option α:=(xs.find? λp=>decide (p.1=k)).map (·.2)
def nM:TE:=λ_ H Q=>∀ p,H p=MF->Q (.ref p) (upd H p (.dK []))
theorem rK {X:Cx} {pos:Pos}:PE X (.Dict [] [] pos) nM:=λMu s σ H Q I h =>
 wpAny_Dict_empty ⟨.ref s.heap.objs.size,_,I.laid (a:=s.heap.objs.size) (o:=.dK []) (t':=s.toks) (λ_ _ q=>Hr _ q) (Ht _)
  ⟨HR _,beq_eq_false_iff_ne.mpr (Jc (HW (fm I))),[],.nil,Heap.DictOf.new s.heap⟩,rfl,h _ (I.hok.fresh (Ht _))⟩
theorem rL {k:Int}:∀ {xs:List (Int×V)} {vs:List (Key×MD)},KV (kvI xs) vs->(lkI k xs=MF/\valueAt vs (.inl k)=MF) \/ ∃ v u,lkI k xs=MA v/\valueAt vs (.inl k)=MA u/\RelV v u
 | [],_,.nil=>.inl ⟨rfl,rfl⟩
 | x :: xs,_ :: vs,.cons h t=>by
  obtain⟨h1,h2⟩:=h;by_cases e:x.1=k
  ·refine .inr ⟨x.2,_,?_,?_,h2⟩
   ·unfold lkI;rw [Ih,Mx e];rfl
   ·unfold valueAt;rw [Ih,Mx (show _=(Sum.inl k:Key) from h1.symm.trans (congrArg Sum.inl e))];rfl
  ·have a1:lkI k (x :: xs)=lkI k xs:=by unfold lkI;rw [Ih,Mz e]
   have a2:∀ q:Key×MD,q.1=Sum.inl x.1->valueAt (q :: vs) (.inl k)=valueAt vs (.inl k):=λq hq=>by
    unfold valueAt;rw [Ih,Mz (show ¬ q.1=(Sum.inl k:Key) from λz=>e (Sum.inl.inj (hq.symm.trans z)))]
   rw [a1,a2 _ h1.symm];exact rL t
def DW:V->V->V->Hp->(Hp->Prop)->Prop:=λo i v H Q=>∃ a k xs,o=.ref a/\i=.int k/\H a=MA (.dK (kvI xs))/\lkI k xs=MF/\xs.length<=1000/\Q (upd H a (.dK (kvI (xs++[(k,v)]))))
theorem set_int {X:Cx}:xq X DW:=by
 intro Mu s σ H o i v ov iv u Q I ro ri rv h;obtain⟨a,k,xs,rfl,rfl,hS,nk,hl,q⟩:=h;cases ro;obtain⟨t,rfl⟩:=ri;obtain⟨z,ns,vs,kv,dd⟩:ObjOk X.prog X.w H s.heap a (.dK (kvI xs)):=I.hok a _ hS;have lv:vs.length=xs.length:=by
  have:=Ly kv;unfold kvI at this;rw [Hc] at this;exact this.symm
 have nv:valueAt vs (.inl k)=MF:=by
  rcases rL (k:=k) kv with⟨_,h⟩ | ⟨_,_,h,_⟩
  ·exact h
  ·rw [nk] at h;cases h
 refine wpAny_setItem_pairs (knd:=cM X.prog X.w) (k:=Sum.inl k) (ig k t) dd (λh' hm' sb=>?_) (by rw [lv];exact IH (zY hl));rw [stored_absent nv] at hm';obtain⟨o',es',ep',x1,x2⟩:=id hm';refine⟨_,I.write (t':=s.toks+1) (x:=a) (e:=a) (by rw [hS];exact trivial) (.inl rfl) (λb u nb e=>(sb.2 b nb).trans e) ⟨o',x1⟩ ?_,q⟩;refine⟨?_,ns,vs++[(.inl k,u)],?_,hm'⟩
 ·unfold kvI;rw [Hc,HA,Iz];exact IH (Nat.lt_of_le_of_lt (Nat.succ_le_succ hl) (by rw [sizeLine_eq];decide))
 ·unfold kvI;rw [HH];exact Paired.snoc kv ⟨rfl,rv⟩
def Fe:R2:=λx y H Q=>∃ a k xs v,x=.ref a/\y=.int k/\H a=MA (.dK (kvI xs))/\lkI k xs=MA v/\Q v H
theorem AI {X:Cx}:IxR X Fe:=by
 intro value slice Mu s σ H x y v u Q I rx ry h hs;obtain⟨a,k,xs,z,rfl,rfl,hS,hz,q⟩:=h;cases rx;obtain⟨t,rfl⟩:=ry;obtain⟨_,ns,vs,kv,dd⟩:ObjOk X.prog X.w H s.heap a (.dK (kvI xs)):=I.hok a _ hS;rcases rL (k:=k) kv with⟨h,_⟩ | ⟨v',u',h1,h2,rv⟩
 ·rw [hz] at h;cases h
 rw [hz] at h1;cases h1;refine subscriptTail_builtinR (x:=u') dd.mapOf.typeIs Kx.lookup ?_ hs;exact wpAny_getItem_of (knd:=cM X.prog X.w) (k:=Sum.inl k) (ig k t) dd.mapOf h2 ⟨rfl,z,H,I.tok _,rv,q⟩
def cE (K:Hj) (kvs:Nk):Hp->HO->Prop:=λHh o=>∃ xs:List (Int×V),o=.dK (kvI xs)/\Paired (λ(p:Int×V) (q:Int×MB)=>p.1=q.1/\Rep K Hh q.2 p.2) xs kvs
theorem rM {K:Hj} {Hh Hh':Hp} (s:Same Hh Hh') {xs:List (Int×V)} {kvs:Nk} (t:Paired (λ(p:Int×V) (q:Int×MB)=>p.1=q.1/\Rep K Hh q.2 p.2) xs kvs):Paired (λ(p:Int×V) (q:Int×MB)=>p.1=q.1/\Rep K Hh' q.2 p.2) xs kvs :=
 Paired.mapP t λ_ _ z=>⟨z.1,Rep.mono s _ _ z.2⟩
theorem fq {K:Hj} {Hh:Hp} {k:Int}:∀ {xs:List (Int×V)} {kvs:Nk},Paired (λ(p:Int×V) (q:Int×MB)=>p.1=q.1/\Rep K Hh q.2 p.2) xs kvs->(lkI k xs=MF/\lkI k kvs=MF) \/ ∃ v d,lkI k xs=MA v/\lkI k kvs=MA d/\Rep K Hh d v
 | [],_,.nil=>.inl ⟨rfl,rfl⟩
 | x :: xs,q :: kvs,.cons h t=>by
  obtain⟨h1,h2⟩:=h;by_cases e:x.1=k
  ·refine .inr ⟨x.2,q.2,?_,?_,h2⟩
   ·unfold lkI;rw [Ih,Mx e];rfl
   ·unfold lkI;rw [Ih,Mx (h1▸e)];rfl
  ·have a1:lkI k (x :: xs)=lkI k xs:=by unfold lkI;rw [Ih,Mz e]
   have a2:lkI k (q :: kvs)=lkI k kvs:=by unfold lkI;rw [Ih,Mz (show ¬ q.1=k from λz=>e (h1.trans z))]
   rw [a1,a2];exact fq t
section
variable {w:MH} {K:Hj} {f:Fx} {Ds:MS} {ρ:zr} {cs:List OC} {te tk ta:TE} {ts:TS} {g:TG} {O:MEnds} {i j:Nat} {kvs:Nk}
theorem Cv {P:OC->Prop} (p:P (.gen (cE K []))):eW w K f nM ρ P:=λσ H Q e q =>
 λa hn=>q (.gen (cE K [])) a _ (.of_same (ye hn _) e.fd) hn ⟨_,zw,λ_ _=>⟨[],rfl,.nil⟩⟩ p
theorem Ff (hi:ρ[i]?=MA (MA (.own (f.M.length+j)))) (hc:cs[j]?=MA (.gen (cE K kvs))) (hl:kvs.length<=1000)
  (h:PEd K (f.withs Ds) te ρ λv=>PEd K (f.withs Ds) tk ρ λk=>∃ n,k=.int n/\lkI n kvs=MF/\O.nx ρ (cs.set j (.gen (cE K (kvs++[(n,v)]))))) :
  PSm w K f Ds (vP te (oP (yt i) tk DW)) ρ cs O:=λse σ H H2 E x n r b k=>by
 have hj:j<Ds.length:=by rw [<-x.len];exact (Hg.mp hc).1
 have hD:Ds[j]?=MA Ds[j]:=Hd hj;refine h σ H _ x.env λv vv H1 g1 r1 p1=>?_;have x1:=x.go g1 (x.env.mono g1);refine⟨_,yQ hi x1 hD,?_⟩;refine p1 σ H1 _ x1.env λkd kv H3 g3 r3 ⟨m,ek,nk,p3⟩=>?_;subst ek;rw [zu.mp r3];have x3:=x1.go g3 (x1.env.mono g3);obtain⟨o,h1,h2⟩:=x3.own j _ _ hD hc;obtain⟨xs,rfl,h4⟩:=h2 _ (Same.refl _);have rv:=Rep.mono g3.sm _ _ r1;have lx:xs.length=kvs.length:=Ly h4;refine⟨Ds[j],m,xs,rfl,rfl,h1,?_,by omega,?_⟩
 ·rcases fq (k:=m) h4 with⟨z,_⟩ | ⟨_,_,_,z,_⟩
  ·exact z
  ·rw [nk] at z;cases z
 ·exact n _ _ _ _ (x3.put se hD (c':=.gen (cE K (kvs++[(m,v)]))) ⟨_,zw,λHx s=>⟨_,rfl,Paired.snoc (rM s h4) ⟨rfl,Rep.mono s _ _ rv⟩⟩⟩) p3
theorem Fg {P:MB->Prop} (hi:ρ[i]?=MA (MA (.own (f.M.length+j)))) (hc:cs[j]?=MA (.gen (cE K kvs))) (h:PEm w K f Ds tk ρ cs λk=>∃ n,k=.int n/\∃ d,lkI n kvs=MA d/\P d):PEm w K f Ds (tOp Fe (yt i) tk) ρ cs P:=λse σ H H2 Q x q=>by
 have hj:j<Ds.length:=by rw [<-x.len];exact (Hg.mp hc).1
 have hD:Ds[j]?=MA Ds[j]:=Hd hj;refine⟨_,yQ hi x hD,?_⟩;refine h se σ H H2 _ x λk v H1 g1 r1 ⟨m,ek,d,hd,p⟩=>?_;subst ek;rw [zu.mp r1];have x1:=x.go g1 (x.env.mono g1);obtain⟨o,h1,h2⟩:=x1.own j _ _ hD hc;obtain⟨xs,rfl,h4⟩:=h2 _ (Same.refl _);rcases fq (k:=m) h4 with⟨_,z⟩ | ⟨v',d',z1,z2,z3⟩
 ·rw [hd] at z;cases z
 ·rw [hd] at z2;cases z2;exact⟨Ds[j],m,xs,v',rfl,rfl,h1,z1,q _ _ H1 g1 z3 p⟩
theorem Gw {P:MB->Prop} (h:PEv K f ta ρ λx=>∃ kvs,x=.mon (nK (cE K kvs))/\PEd K f tk ρ λk=>∃ n,k=.int n/\∃ d,lkI n kvs=MA d/\P d):PEd K f (tOp Fe ta tk) ρ P:=λσ H Q e q =>
 h σ H _ e λx v H1 g1 r1 ⟨kvs,ex,h2⟩=>h2 σ H1 _ (e.mono g1) λk kv H2 g2 r2 ⟨m,ek,d,hd,p⟩=>by
  subst ex ek;rw [zu.mp r2];obtain⟨a,o,rfl,h3,xs,rfl,h4⟩:=(RepV.mono g2 r1:RepV K f H2 (.mon (nK (cE K kvs))) v) (hide H2 f) (Same.refl _);rcases fq (k:=m) h4 with⟨_,z⟩ | ⟨v',d',z1,z2,z3⟩
  ·rw [hd] at z;cases z
  ·rw [hd] at z2;cases z2;exact⟨a,m,xs,v',rfl,rfl,(zZ h3).2,z1,q d v' H2 (g1.trans g2) z3 p⟩
noncomputable def DX:MB->Bool
 | .int _=>MC
 | .str _=>MC
 | .bool _=>MC
 | .none=>MC
 | _=>MG
theorem AJ {Hh Hh':Hp} {d:MB} {v:V} (h:DX d=MC) (r:Rep K Hh d v):Rep K Hh' d v:=by
 cases d <;> first | (cases h;done) | skip
 ·exact jB.mpr (jB.mp r)
 ·exact zW.mpr (zW.mp r)
 ·exact zu.mpr (zu.mp r)
 ·exact cP.mpr (cP.mp r)
theorem Cw {P:MB->Prop} (h:PEd K f te (ρ.map (k9 w K f.M.length cs)) λd=>DX d=MC/\P d):PEm w K f Ds te ρ cs P:=λse σ H H2 Q x q =>
 h σ H _ (x.freeD se) λd v H' g r p=>q d v H' (iP se x g) (AJ p.1 r) p.2
theorem Fh {tl:TE} (h:PEm w K f Ds tl ρ cs λx=>∃ ds,x=.list ds/\∃ J:Nat->zr->List OC->Prop,J 0 ρ cs /\
   (∀ (i:Nat) d ρ' cs',ds[i]?=MA d->J i ρ' cs'->PGd K (f.withs Ds) g d ρ' λρ2=>PSm w K f Ds ts ρ2 cs' { O with nx:=J (i+1),ct:=J (i+1),bk:=O.nx })/\∀ ρ' cs',J ds.length ρ' cs'->O.nx ρ' cs') :
  PSm w K f Ds (uJ (fN K tl) g ts) ρ cs O:=λse σ H H2 E x n r b k=>h se σ H H2 _ x λxx vv H1 g1 r1 ⟨ds,ex,Jv,j0,js,jd⟩=>by
 subst ex;have x1:=x.go g1 (x.env.mono g1);obtain⟨a,xs,rfl,h1,h2⟩:=zJ.mp r1;have hl:=h2.length;have it:ItD K (f.withs Ds) ds (Itl K a) H1:=by
  refine⟨λf' H' i d fo sm hd=>?_,λf' H' _ sm=>⟨xs,(zp _ _).seq (sm.seq h1),JA hl⟩⟩;obtain⟨z,hz,rz⟩:=h2.get hd;have sq:SqL K H' a xs:=(zp _ _).seq (sm.seq h1);refine⟨⟨xs,z,sq,hz⟩,λx H3 hy=>?_⟩;obtain⟨rfl,hy⟩:=hy;have ez:=hy xs sq;rw [hz] at ez;cases ez;exact⟨.refl fo,Rep.mono sm _ _ rz⟩
 refine⟨a,rfl,⟨xs,(zp _ _).seq h1⟩,λi m σ' H'=>∃ ρ' cs',CM w K f Ds H2 ρ' cs' σ' H'/\Same (hide H1 (f.withs Ds)) (hide H' (f.withs Ds))/\Jv i ρ' cs'/\m+i=ds.length,⟨ds.length,ρ,cs,x1,Same.refl _,j0,rfl⟩,λi m σ' H' ⟨ρ',cs',x',sm',p,hm⟩=>?_⟩;by_cases hi:i<ds.length
 ·obtain⟨hgo,hy⟩:=it.go (f.withs Ds) H' i _ x'.env.fd sm' (Hd hi);refine .inr ⟨hgo,λσ2 H3=>∃ ρ2 cs2,CM w K f Ds H2 ρ2 cs2 σ2 H3/\Same (hide H1 (f.withs Ds)) (hide H3 (f.withs Ds))/\Jv (i+1) ρ2 cs2,λσ2 H3 ⟨ρ2,cs2,e2,g2,p2⟩=>⟨m - 1,by omega,ρ2,cs2,e2,g2,p2,by omega⟩,λv H3 hx=>?_⟩;obtain⟨g3,r3⟩:=hy v H3 hx;have x3:=x'.go g3 (x'.env.mono g3);refine js i _ ρ' cs' (Hd hi) p σ' H3 v _ x3.env r3 λρ2 σ2 H4 g4 e4 p4=>?_;have x4:=x3.go g4 e4;have sm4:=(sm'.trans g3.sm).trans g4.sm;exact p4 se σ2 H4 H4 _ x4.self (λρ5 cs5 σ5 H5 x5 p5=>⟨ρ5,cs5,x4.trans x5,sm4.trans x5.sm,p5⟩) (λd v ρ5 cs5 σ5 H5 x5 r5 p5=>r d v ρ5 cs5 σ5 H5 (x4.trans x5) r5 p5) (λρ5 cs5 σ5 H5 x5 p5=>n ρ5 cs5 σ5 H5 (x4.trans x5) p5) (λρ5 cs5 σ5 H5 x5 p5=>⟨ρ5,cs5,x4.trans x5,sm4.trans x5.sm,p5⟩)
 ·have ei:i=ds.length:=by omega
  subst ei;exact .inl ⟨it.st (f.withs Ds) H' x'.env.fd sm',n ρ' cs' σ' H' x' (jd ρ' cs' p)⟩
end
inductive KeyHd (K:Hj) (H:Hp):List V->M9->Prop where
 | nil:KeyHd K H [] []
 | cons {p:Hm} {y:V} {ys xs:List V} {k:MB} {kd:M9}:SqT K H p (y :: ys)->Rep K H k y->KeyHd K H xs kd->KeyHd K H (.ref p :: xs) (k :: kd)
theorem KeyHd.mono {K:Hj} {H H':Hp} (s:Same H H') {xs:List V} {kd:M9} (h:KeyHd K H xs kd):KeyHd K H' xs kd:=by
 induction h with
 | nil=>exact .nil
 | cons a b _ ih=>exact .cons (s.seqT a) (Rep.mono s _ _ b) ih
theorem KeyHd.length {K:Hj} {H:Hp}:∀ {xs:List V} {kd:M9},KeyHd K H xs kd->kd.length=xs.length
 | _,_,.nil=>rfl
 | _,_,.cons _ _ c=>by rw [HK,HK,c.length]
theorem KeyHd.vals {X:Cx} {Mu:MT} {σ:St} {H:Hp} {s:ME} (I:Inv X Mu σ H s) {xs:List V} {kd:M9} (kh:KeyHd X.K H xs kd):∀ {its:MQ},Vals xs its ->
  ∃ (ys:List V) (ks:MQ),Reps X.K H kd ys/\Vals ys ks/\ks.length=its.length/\∀ (i:Nat) (v k:MD),its[i]?=MA v->ks[i]?=MA k->∃ (pa:Hm) (pits:Array MD),v=Value.ref pa/\IsTup s.heap pa pits/\pits[0]?=MA k:=by
 induction kh with
 | nil =>
  intro its rv;cases rv;exact⟨[],[],.nil',.nil,rfl,λi v k h=>by simp at h⟩
 | @cons p y ys _ _ _ a b c ih =>
  intro its rv;cases rv with
  | cons r rv =>
   obtain⟨ys',ks,h1,h2,h3,h4⟩:=ih rv;obtain⟨pits,prv,pit,_⟩:=I.tuple a;cases r;cases prv with
   | @cons _ u _ us ru rus =>
    refine⟨y :: ys',u :: ks,.cons' b h1,.cons ru h2,by rw [HK,HK,h3],λi v k e1 e2=>?_⟩;cases i with
    | zero =>
     cases e1;cases e2;exact⟨p,_,rfl,pit,rfl⟩
    | succ i=>exact h4 i v k e1 e2
def lz (K:Hj) (t:TA):TE:=λσ H Q=>t σ H λvs H1=>∃ l xs kd T,vs=[.ref l]/\SqL K H1 l xs/\KeyHd K H1 xs kd/\SortOk T kd/\kd.length<=1000/\(kd.length<64 \/ kd.Pairwise λd e=>ltD d e=MC) /\
 ∀ D H' p,Same H1 H'->H1 D=MF->Pm kd.length p->Up (λi j=>ltD (kd.getD i .none) (kd.getD j .none)) p kd.length->H' D=MA (.lst (pick .non p xs))->Q (.ref D) H'
section
variable {X:Cx} {p pos lpos kpos xpos s1 c1 gpos:Pos} {j1:_} {e:Expr} {t:TA} {x q g:Str} {params:Arguments} {sc:Scope} {c P fa:Hm} {k:Nat}
theorem gL {A:MJ} {Mu:MT} {σ:St} {H1 H2:Hp} {s2:ME} {Q:VK} {E:MD->ME->Prop} {l:Hm} {xs:List V} {kd:M9} {T:String} (hu:A.units+64<IZ) (I2:Inv X Mu σ H2 s2) (sm:Same H1 H2) (hl:SqL X.K H1 l xs) (kh:KeyHd X.K H1 xs kd) (ok:SortOk T kd) (le:kd.length<=1000) (few:kd.length<64 \/ kd.Pairwise λd e=>ltD d e=MC)
  (turn:∀ (pa:Hm) (pits:Array MD) (k:MD),IsTup s2.heap pa pits->pits[0]?=MA k->∀ (h:Heap) (tk:Nat),(∀ b o,s2.heap.get? b=MA o->h.get? b=MA o)->∀ R:MD->ME->Prop,
   (∀ (h':Heap) tk',(∀ b o,h.get? b=MA o->h'.get? b=MA o)->R k { s2 with heap:=h',toks:=tk' })->HP (model X.prog X.w) A.in1.in1 (call (.ref fa) [.ref pa]) R (λ_ _=>False) { s2 with heap:=h,toks:=tk })
  (q:∀ D H' p,Same H1 H'->H1 D=MF->Pm kd.length p->Up (λi j=>ltD (kd.getD i .none) (kd.getD j .none)) p kd.length->H' D=MA (.lst (pick .non p xs))->Q (.ref D) H') :
  HP (model X.prog X.w) A (call (.builtin "sorted") [.ref l] [(JV "key",.ref fa)]) (EP X Mu σ Q) E s2:=by
 obtain⟨its,rv,pl,hz⟩:=I2.list (sm.seq hl);obtain⟨ys,ks,r1,r2,lk,each⟩:=(kh.mono sm).vals I2 rv;have lv:=rv.length;have lx:=kh.length;obtain⟨as,ra⟩:=jt I2 kd ys ks r1 r2;have lkd:ks.length=kd.length:=by omega
 have e2:A.in1.in1.units=A.units+1+1:=rfl;refine gK (ks:=ks) (lt:=λi j=>ltD (kd.getD i .none) (kd.getD j .none)) (by omega) lk pl.isList (λi v k hv hk h tk kp R hR=>?_) (λtk=>kJ (s:={ s2 with toks:=tk }) ra ok (by omega) few) λh' tk D p c x1 x2 x3 x4 x5=>?_
 ·obtain⟨pa,pits,rfl,it,hp⟩:=each i v k hv hk;exact turn pa pits k it hp h tk kp R hR
 ·rw [show its.length=kd.length by omega] at x1 x2;have hD:H2 D=MF:=I2.hok.fresh x3;have lp:p.toList.length=kd.length:=by rw [HF];exact x1.size
  have hD1:H1 D=MF:=sm.free hD;exact⟨.ref D,upd H2 D (.lst (pick .non p xs)),I2.laid (t':=tk) x4 x3 ⟨by unfold pick;rw [Hc];exact IH (zY (by omega)),pick Value.none p its,c,dN rv p,x5⟩,rfl,q D _ p (sm.trans (ye hD _)) hD1 x1 x2 zw⟩
theorem wB {K:Hj} (hK:X.K=K) (hr:Room (k+2) X.A) (hg:Gl X "sorted") (hm:X.mg "sorted"=MF) (ha:PA X [e] t)
  (hq:q∈ae) (hc:X.env.code=.ref c) (h1:IQ K c P=MC) (h2:IK K (.ref c) q=MC) (hqu:X.env.qual ++ "<lambda>"=lamQ q)
  (hfr0:∀ p∈sc.names,p.2=.free->X.env.scope.names.lookup p.1=MA .cell)
  (hdef:defaultsOf params X.env=([],[]))
  (hb:∀ (pm ctv v:MD) (cd:Hm) clos,bindArgs (Mg "<lambda>" (lamQ q) params (.Subscript (.Name x xpos) (.Constant (.int 0) j1 c1) s1) sc clos pm (.ref cd) ctv) ⟨[v],[]⟩=pure [(x,v)])
  (hx:sc.names.lookup x=MA .local) (hcell:∀ z∈sc.names,z.2≠.cell) (hco:sc.isCoroutine=MG) (hgen:sc.isGenerator=MG) (hk:sc.kind=.function)
  (hv:bootBuiltins "sorted"=MA (.builtin "sorted"):=by rfl)
  (hst:Iq [e] X.env=(MG,eval e X.env) :: Iq [] X.env:=by rfl) (hpl:(backTo pos (Iq [] X.env)).any (·.1)=MG:=by rfl)
  (hxd:(x == ("__debug__":Str))=MG:=by decide) :
  PE X (.Call (.Name "sorted" p) [e] [⟨MA "key",.Lambda params (.Subscript (.Name x xpos) (.Constant (.int 0) j1 c1) s1) sc lpos,kpos⟩] pos) (lz K t):=by
 subst hK;intro Mu s σ H Q I h;have hfr:∀ z,(z,NameKind.free)∈sc.names->∃ d,X.env.cells.lookup z=MA d:=λz hz=>I.ok.has z (.inl (hfr0 _ hz rfl));have hcl:=cj hfr;refine wpAny_Call_Name_kw (qV I hg hm hv ?_);refine callWith_kw ?_ ?_ ?_
 rotate_left
 ·rw [hst];rfl
 ·rw [hst];exact hpl
 refine thn (ha pos Mu s σ H _ I h) λus s1 ⟨vs,H1,I1,r,q1⟩=>?_;obtain⟨l,xs,kd,T,rfl,hl,kh,ok,le,few,q1⟩:=q1;obtain⟨u,rfl,ru⟩:=vals1 r;cases ru;refine wpAny_evalAll_cons (Hf (nL I1 hq hc h1 h2 hqu hcl hdef λf c' pm ctv s2 H2 I2 sm ho hcd=>?_));refine Hf (wpAny_standAt (Hs (wpAny_evalAll_nil ?_)));show HP _ _ (call (.builtin "sorted") [.ref l] [(JV "key",.ref f)]) _ _ s2;refine gL hr.units I2 sm hl kh ok le few (λpa pits kv it hp h tk kp R hR=>?_) q1;refine tQ (x:=x) (R:=(·=kv)) (kp _ _ ho) ?_ hr.in1.in1.depth (I2.nolimit.keeps kp) (hb _ _ _ _ _) hx hcell hco hgen hk (λh₁ hns k4=>?_) λu h₁ tk1 eu k4=>?_
 ·obtain⟨c2,oc,vs,tq,e1,e2,e3,e4⟩:=hcd;exact⟨c2,oc,vs,tq,e1,kp _ _ e2,e3,e4⟩
 ·have it':IsTup h₁ pa pits:=gq it λu eu=>k4 _ _ (kp _ u eu);have rx:Reads X.prog X.w (Le (lamQ q) sc h.objs.size f (.ref c') (yl X.env sc.names [])) h₁ (.Name x xpos) (·=.ref pa):=gI (env:=Le (lamQ q) sc h.objs.size f (.ref c') (yl X.env sc.names [])) hk hx hns (by simp) hxd;exact ly (k:=0) rx lu it' (by decide) hp (λ_ _=>rfl) λ_ _=>rfl
 ·subst eu;exact hR h₁ tk1 k4
theorem Cy {Pr:MI} {w:MH} {A:MJ} {s:ME} {K:Hj} {qual:Str} {st:Stmt} {fd:FuncData} {N:MU} {rpos:Pos} {v kv:MD} {Q:MD->ME->Prop} {E:MD->ME->Prop} (F:Fun K g qual st fa fd) (kin:K.In s.heap) (hroom:A.depth<recursionLimit) (lim:s.heap.NoLimit)
  (S:FnScope N [x] (zh st)) (hbody:yo st=[.Return (MA (.Subscript (.Name x xpos) (.Constant (.int 0) j1 c1) s1)) rpos]) (hb:Binds K fd [x] []) (hx:(zh st).names.lookup x=MA .local) (hcell:∀ z∈(zh st).names,z.2≠.cell)
  (hr:∀ (env:Env) (h₁:Heap),env.scope=zh st->h₁.Ns env.locals (λy=>[(x,v)].reverse.lookup y)->(∀ b o,s.heap.get? b=MA o->h₁.get? b=MA o)->Reads Pr w env h₁ (.Subscript (.Name x xpos) (.Constant (.int 0) j1 c1) s1) (·=kv))
  (hq:∀ (h₁:Heap) tk,(∀ b o,s.heap.get? b=MA o->h₁.get? b=MA o)->Q kv { s with heap:=h₁,toks:=tk }) :
  HP (model Pr w) A (call (.ref fa) [v]) Q E s:=by
 obtain⟨oc,od,kV,doc,pm,an,cdv,ct,osl,rfl,lk,hcd⟩:=F.ex;refine wpAny_call (codeAny_call_function hroom (kin _ _ lk) rfl S.co S.gen rfl (Lh kin hcd) (hb s [v] kin rfl _ _ _ _ ?_));refine wpAny_newFunctionEnv hcell (λy hy=>?_) (λh₁ hns hsb=>?_) S.kind
 ·rw [Hw.mp hy];exact hx
 have hk₁:∀ b o,s.heap.get? b=MA o->h₁.get? b=MA o:=λb o e=>hsb.extBut b o (HW (HD e)) (Hr _ e);refine⟨lim.keeps hk₁,codeAny_func ?_⟩;rw [hbody];refine LM (wpAny_Return_some (hr _ h₁ rfl hns hk₁ _ _ _ _ rfl λu tk eu=>?_));subst eu;exact hq h₁ tk hk₁
end
structure FnInH (P:MI) (w:MH) (K:Hj) (mg:Str->MR) (base:Heap) (k:Nat) (x:Str) (ps:MU) (sp:Sp):Prop where
 ex:∃ (f:Hm) (st:Stmt) (fd:FuncData) (N:MU) (p:Str) (xpos s1 c1 rpos:Pos) (j1:Nat),mg x=MA (.ref f)/\Fun K x x st f fd/\Binds K fd [p] []/\FnScope N [p] (zh st) /\
  yo st=[.Return (MA (.Subscript (.Name p xpos) (.Constant (.int 0) j1 c1) s1)) rpos]/\(zh st).names.lookup p=MA .local/\(∀ z∈(zh st).names,z.2≠.cell)/\(p == ("__debug__":Str))=MG
theorem FnInH.mono {P:MI} {w:MH} {K:Hj} {mg:Str->MR} {base:Heap} {j k:Nat} {x:Str} {ps:MU} {sp:Sp} (h:FnInH P w K mg base j x ps sp) (_:j<=k):FnInH P w K mg base k x ps sp:=⟨h.ex⟩
abbrev Gx:Sp:=λ_ _ _ _=>True
section
variable {X:Cx} {p pos kpos gpos:Pos} {e:Expr} {t:TA} {g:Str} {k:Nat}
theorem wC {K:Hj} {Pr:MI} {w:MH} {base:Heap} {kk:Nat} {ps:MU} {sp:Sp} (G:FnInH Pr w K X.mg base kk g ps sp) (hK:X.K=K) (hr:Room (k+2) X.A) (hg:Gl X "sorted") (hm:X.mg "sorted"=MF) (hgg:Gl X g) (ha:PA X [e] t)
  (hgd:(g == ("__debug__":Str))=MG:=by decide)
  (hv:bootBuiltins "sorted"=MA (.builtin "sorted"):=by rfl)
  (hst:Iq [e] X.env=(MG,eval e X.env) :: Iq [] X.env:=by rfl) (hpl:(backTo pos (Iq [] X.env)).any (·.1)=MG:=by rfl) :
  PE X (.Call (.Name "sorted" p) [e] [⟨MA "key",.Name g gpos,kpos⟩] pos) (lz K t):=by
 subst hK;obtain⟨f,st,fd,N,pn,xpos,s1,c1,rpos,j1,hmg,F,B,S,hbody,hx,hcell,hxd⟩:=G.ex;intro Mu s σ H Q I h;refine wpAny_Call_Name_kw (qV I hg hm hv ?_);refine callWith_kw ?_ ?_ ?_
 rotate_left
 ·rw [hst];rfl
 ·rw [hst];exact hpl
 refine thn (ha pos Mu s σ H _ I h) λus s2 ⟨vs,H1,I1,r,q1⟩=>?_;obtain⟨l,xs,kd,T,rfl,hl,kh,ok,le,few,q1⟩:=q1;obtain⟨u,rfl,ru⟩:=vals1 r;cases ru;refine wpAny_evalAll_cons (Hf (e7 I1 hgg hmg ?_ hgd));refine Hf (wpAny_standAt (Hs (wpAny_evalAll_nil ?_)));show HP _ _ (call (.builtin "sorted") [.ref l] [(JV "key",.ref f)]) _ _ s2;refine gL hr.units I1 (Same.refl _) hl kh ok le few (λpa pits kv it hp h tk kp R hR=>?_) q1;refine Cy F (I1.kIn.keeps kp) hr.in1.in1.depth (I1.nolimit.keeps kp) S hbody B hx hcell (λenv h₁ es hns k4=>?_) λh₁ tk1 k4=>hR h₁ tk1 k4;have it':IsTup h₁ pa pits:=gq it λu eu=>k4 _ _ (kp _ u eu);have rx:Reads X.prog X.w env h₁ (.Name pn xpos) (·=.ref pa):=gI (env:=env) (by rw [es];exact S.kind) (by show env.scope.names.lookup pn=_;rw [es];exact hx) hns (by simp) hxd;exact ly (k:=0) rx lu it' (by decide) hp (λ_ _=>rfl) λ_ _=>rfl
end
section
variable {K:Hj} {f:Fx} {ρ:zr} {t:TA} {P:MB->Prop}
theorem nN {H:Hp}:∀ {ds:Nl} {xs:List V},Reps K H (ds.map λp=>.tuple (p.1 :: p.2)) xs->KeyHd K H xs (ds.map (·.1))
 | [],xs,r=>by rw [zT.mp r];exact .nil
 | d :: ds,xs,r=>by
  obtain⟨x,xs',rfl,r1,r2⟩:=zG.mp r;obtain⟨a,zs,rfl,h1,h2⟩:=zR.mp r1;obtain⟨y,ys,rfl,h3,h4⟩:=zG.mp h2;exact .cons h1 h3 (nN r2)
theorem nO {α β:Type} (F:α->β) (d:α) (e:β) {p:Array Nat} {xs:List α} (h:∀ i∈p.toList,i<xs.length):pick e p (xs.map F)=(pick d p xs).map F:=by
 unfold pick;rw [Iw];refine J0 λi hi=>?_;have:=h i hi;show (xs.map F).getD i e=F (xs.getD i d);rw [Hn,Ho,Hd this,Hn,Hd this];rfl
theorem Cz (T:String) {P:M9->Prop} (h:PAd K f t ρ λxs=>∃ ds:Nl,xs=[.dat (.list (ds.map λp=>.tuple (p.1 :: p.2)))]/\SortOk T (ds.map (·.1))/\ds.length<=1000/\(ds.length<64 \/ (ds.map (·.1)).Pairwise λd e=>ltD d e=MC) /\
   ∀ es:Nl,es.Perm ds->((es.map (·.1)).Pairwise λd e=>ltD d e=MC)->P (es.map λp=>.tuple (p.1 :: p.2))):PEdO K f (lz K t) ρ P:=λσ H Q e q=>h σ H _ e λxs vs H1 g1 r1 ⟨ds,ex,ok,le,few,c⟩=>by
 subst ex;cases r1 with
 | cons r0 rt =>
  cases rt;obtain⟨l,ys,rfl,h1,h2⟩:=zJ.mp (show Rep K (hide H1 f) _ _ from r0);have kh:=(nN h2).mono (zp _ _);refine⟨l,ys,ds.map (·.1),T,rfl,(zp _ _).seq h1,kh,ok,by rw [Hc];exact le,by rw [Hc];exact few,λD H' p sm hn pm up hD=>?_⟩;have g2:Goes f H1 H':=.of_same sm g1.2;rw [Hc] at pm up;have hin:∀ i∈p.toList,i<ds.length:=λi hi=>Ia.mp (pm.mem_iff.mp hi);refine q ((pick (.none,[]) p ds).map λz=>.tuple (z.1 :: z.2)) D _ H' (g1.trans g2) (g1.free e.fd hn) hD (Reps.mono (H:=hide H1 f) (λb o hb=>?_) _ _ ?_) ?_
  ·have hb':=zZ hb;have hbl:b≠D:=λz=>by
    have:=hb'.2;rw [z,hn] at this;cases this
   refine zI (λz=>?_) (sm b _ hb'.2);rcases z with z | z
   ·exact hb'.1 (.inl z)
   ·rcases Hv.mp z with z | z
    ·exact hbl z
    ·exact hb'.1 (.inr z)
  ·rw [<-nO (λz:MB×M9=>PyData.tuple (z.1 :: z.2)) (.none,[]) .none hin];exact dO h2 p
  ·refine c _ (dP pm rfl) ?_;rw [<-nO (λz:MB×M9=>z.1) (.none,[]) .none hin];exact kK pm up
end
section
variable {P:MI} {w:MH} {K:Hj} {mg:Str->MR} {base:Heap} {k:Nat} {x:Str} {st:Stmt} {ps:MU} {N:MU} {n:Nat} {γ:Type} {pre:γ->List DV->Prop} {post:γ->M9->Prop}
theorem Def.okLN (F:Def K mg x st ps) (S:FnScope N ps (zh st)) (hn:ps.length=n) (hl:gJ K x=MC)
  (h:∀ (fa c Pt:Hm) (A:MJ) (outer:MV) (s:ME) (H:Hp) (E:XK),IQ K c Pt=MC->IK K (.ref c) x=MC->Room k (A.deeper (envOfC x (zh st) s.heap.objs.size fa (.ref c))) ->
   ∃ t,PSs (yd CX0 P w K mg base N x (zh st) fa (.ref c) A outer s H E).nox (yo st) t/\∀ (f:Fx) (xs:List DV) (c:γ),xs.length=n->pre c xs->PSn K f t (qz N xs) (post c)) :
  FnIn P w K mg base (k+1) x ps (spN K n pre post):=by
 obtain⟨fa,fd,F1,F2,F3⟩:=F.ex;refine⟨fa,fd,?_,F3,F1.kp,F2⟩;obtain⟨oc,od,kV,doc,pm,an,cdv,ct,osl,rfl,lk,hcd⟩:=F1.ex;obtain⟨c,Pt,rfl,l1,l2⟩:=AF hl hcd;refine xC lk hcd S (λvs H Q E h=>?_) λA outer s H vs Q E hr hs=>?_
 ·obtain⟨f,xs,c,r,hl,_⟩:=h;rw [r.length,hl,hn]
 ·obtain⟨f,xs,c,r,hl,fo,hp,q⟩:=hs;obtain⟨t,h1,h2⟩:=h fa _ Pt A outer s H E l1 l2 hr;exact⟨t,h1.nox,h2 f xs c hl hp (start N vs) H _ (jP r fo) (λes D vs' H' g hn' h1' rs p=>q es D vs' H' g hn' h1' rs p)⟩
end
noncomputable def Itd (hi:Int) (n:Nat):It:=⟨λi _=>i<n,λi H x H'=>H'=H/\x=.int (hi - i),λi _=>n<=i⟩
theorem nP {P:MI} {w:MH} {K:Hj} {tg:Expr} (it:Hm) (hi:Int) (n:Nat):Turn P w K tg (Itd hi n) [it] it (λi h=>IsRangeIter h it (hi+(i:Nat) * (-1)) ((n:Int) - (i:Nat)) (-1)) where
 mem:=by simp
 obj:=λi h st b hb=>by
  have e:b=it:=by simpa using hb
  subst e;exact⟨_,st,λv z=>by
   have z':Data.fields _=Data.cell v:=z;cases z'⟩
 keep:=λi h h' st k=>k it (by simp) _ st
 item:=by
  intro X hP hw hK hc i Mu s σ H E I hf st hg;subst hP hw hK;obtain⟨f0,f1,f2,f3,f4,f5⟩:=hf it (by simp);have W:=Walks.range (prog:=X.prog) (w:=X.w) (I.ok.hd hc) it hi (-1) n;refine W.item i s _ _ hg st λv h' tk hv st' kk=>?_;obtain⟨t,rfl⟩:=hv;have I1:Inv X Mu σ H { s with heap:=h',toks:=tk }:=I.turned (λb o hb e=>kk b o (by simpa using hb) e) f0 f1 f3 f4 f5;have e:hi+(i:Int) * (-1)=hi - i:=by omega
  refine⟨_,rfl,sJ (s:={ s with heap:=h',toks:=tk }) (n:="range_iterator") st' rfl rfl (by decide) ⟨.int (hi - i),H,I1,⟨t,?_⟩,⟨rfl,rfl⟩,st',λb hb=>(hf b hb).1⟩⟩;rw [e]
 done:=by
  intro X hP hw hK hc i Mu s σ H E I hf st hg;subst hP hw hK;obtain⟨f0,f1,f2,f3,f4,f5⟩:=hf it (by simp);exact wpAny_pyNext_range_end (I.ok.hd hc) st (by have:n<=i:=hg;omega) λh' eb=>⟨rfl,I.turned (t':=s.toks) (λb o hb e=>eb b o hb e) f0 f1 f3 f4 f5⟩
 self:=λ_ _ _ _ _ st h=>wpAny_pyIter_rangeiter st h
theorem b6 (a b:Int):J4 a b (-1)=if a > b then a - b else 0:=by
 unfold J4;simp only [show ¬ (-1:Int) > 0 by decide,if_false,Int.neg_neg,Int.ediv_one];split <;> omega
theorem wD {a b:Int} (ha:-(2 ^ 62)<=a) (ha':a<2 ^ 62) (hb:-(2 ^ 62)<=b) (hb':b<2 ^ 62):Mn a b (-1)=MC:=by
 unfold Mn;rw [b6];simp only [Builtin.Range.rangeFitsLong,Hq,Bool.or_eq_true,decide_eq_true_eq,beq_iff_eq,show ¬ (-1:Int) > 0 by decide,if_false];split <;> omega
section
variable {X:Cx} {tg:Expr}
def DY (ta:TA):TI:=λσ H R=>ta σ H λvs H1=>∃ i j:Int,vs=[.int i,.int j,.int (-1)]/\(-(2 ^ 62)<=i/\i<2 ^ 62/\-(2 ^ 62)<=j/\j<2 ^ 62)/\R (Itd i (i - j).toNat) H1
theorem wF {Mu:MT} {σ:St} {H:Hp} {s:ME} {R:It->Hp->Prop} {E:MD->ME->Prop} {lo hi:Int} {t u v:Tok} {tk:Nat} (I:Inv X Mu σ H s) (h1:-(2 ^ 62)<=lo) (h2:lo<2 ^ 62) (h3:-(2 ^ 62)<=hi) (h4:hi<2 ^ 62)
  (q:R (Itd lo (lo - hi).toNat) H):HP (model X.prog X.w) X.A (pyIter (.ref s.heap.objs.size)) (PIE X Mu σ tg R) E { s with heap:=s.heap.push { cls:=.type "range",data:=.fields #[.int lo t,.int hi u,.int (-1) v] },toks:=tk }:=by
 refine wpAny_pyIter_range (IsRange.new ..) (wD h1 h2 h3 h4) ?_;have I1:Inv X Mu σ H { s with heap:=s.heap.push { cls:=.type "range",data:=.fields #[.int lo t,.int hi u,.int (-1) v] },toks:=tk }:=I.kept λb o e=>Hr _ e;refine⟨(s.heap.push { cls:=.type "range",data:=.fields #[.int lo t,.int hi u,.int (-1) v] }).objs.size,[(s.heap.push { cls:=.type "range",data:=.fields #[.int lo t,.int hi u,.int (-1) v] }).objs.size],_,_,H,rfl,
  I1.kept (t':=tk) λb o e=>Hr _ e,nP _ lo (lo - hi).toNat,?_,λb hb=>?_,q⟩
 ·have e1:lo+((0:Nat):Int) * (-1)=lo:=by omega
  have e2:(((lo - hi).toNat:Nat):Int) - ((0:Nat):Int)=J4 lo hi (-1):=by rw [b6];split <;> omega
  show IsRangeIter _ _ (lo+((0:Nat):Int) * (-1)) ((((lo - hi).toNat:Nat):Int) - ((0:Nat):Int)) (-1);rw [e1,e2];exact HS _ rfl
 ·have e:b=(s.heap.push { cls:=.type "range",data:=.fields #[.int lo t,.int hi u,.int (-1) v] }).objs.size:=by simpa using hb
  subst e;exact I1.fpOk (Ht _) (I1.hok.fresh (Ht _))
theorem wG {a b c:Expr} {ta:TA} {p pos:Pos} (hg:Gl X "range") (hm:X.mg "range"=MF) (ha:PA X [a,b,c] ta) (hs:Iq [a,b,c] X.env=[(MG,eval a X.env),(MG,eval b X.env),(MG,eval c X.env)]:=by rfl) (hs2:Iq [b,c] X.env=[(MG,eval b X.env),(MG,eval c X.env)]:=by rfl) :
  PI X tg (.Call (.Name "range" p) [a,b,c] [] pos) (DY ta):=by
 intro Mu s σ H R I h;refine Call_ (qV I hg hm boot_range (Ju (thn (ha pos Mu s σ H _ I h) λus s1 ⟨vs,H1,I1,r1,q1⟩=>?_) (by rw [hs,hs2]) (by rw [hs2];rfl)));obtain⟨i,j,e,⟨q1,q2,q3,q4⟩,q⟩:=q1;subst e;cases r1 with
 | cons r rr =>
  cases rr with
  | cons r' rr =>
   cases rr with
   | cons r2 rr =>
    cases rr;obtain⟨t,rfl⟩:=r;obtain⟨t',rfl⟩:=r';obtain⟨t2,rfl⟩:=r2;exact call_range_3 (by decide) (wF I1 q1 q2 q3 q4 q) (.inl (PyProof.noPylong_small (by decide)))
end
noncomputable def bF (i j:Int):M9:=(HN (i - j).toNat).map λ(k:Nat)=>.int (i - (k:Int))
section
variable {K:Hj} {f:Fx} {ρ:zr} {t:TA} {R:M9->Prop}
theorem AK (h:PAd K f t ρ λxs=>∃ i j:Int,xs=[.dat (.int i),.dat (.int j),.dat (.int (-1))]/\(-(2 ^ 62)<=i/\i<2 ^ 62/\-(2 ^ 62)<=j/\j<2 ^ 62)/\R (bF i j)):PId K f (DY t) ρ R:=λσ H C e q=>h σ H _ e λxs vs H1 g1 r1 ⟨i,j,ex,q1,p⟩=>by
 subst ex;cases r1 with
 | @cons _ v0 _ _ rx r' =>
  cases r' with
  | @cons _ v1 _ _ ry r'' =>
   cases r'' with
   | @cons _ v2 _ _ rz r3 =>
    cases r3;have rx':Rep K (hide H1 f) (.int i) v0:=rx;have ry':Rep K (hide H1 f) (.int j) v1:=ry;have rz':Rep K (hide H1 f) (.int (-1)) v2:=rz;refine⟨i,j,by rw [zu.mp rx',zu.mp ry',zu.mp rz'],q1,q _ _ H1 g1 ⟨λf' H' k d fo _ hd=>?_,λf' H' _ _=>?_⟩ p⟩
    ·unfold bF at hd;rw [Ho] at hd;by_cases hi:k<(i - j).toNat
     ·rw [Jm hi] at hd;cases hd;refine⟨hi,λx H3 hy=>?_⟩;obtain⟨rfl,rfl⟩:=hy;exact⟨.refl fo,zu.mpr rfl⟩
     ·rw [Ib (by rw [HY];omega)] at hd;cases hd
    ·show (i - j).toNat<=(bF i j).length;unfold bF;rw [Hc,HY];exact Ht _
end
end L2
end
section
namespace My
open PySem PySem.Spec PyProof.Rows L2
abbrev pf:MU:=["rows"]
abbrev ph:MU:=["rows","cut","gate"]
abbrev pj:MU:=["rows","x","y"]
abbrev pq:MU:=["rows","cut","cell"]
abbrev pz:MU:=["rows","cut"]
abbrev pA:MU:=["rows","cut","point"]
abbrev pB:MU:=["rows","height","pair","regions_at"]
abbrev pC:MU:=["a","b","rows"]
abbrev pE:MU:=["rows","cut","start"]
abbrev pF:MU:=["_law_rows"]
abbrev pG:MU:=["row"]
abbrev pH:MU:=["rows","height"]
abbrev pI:MU:=["x","y"]
abbrev pJ:MU:=["gate","rows","cut"]
abbrev pK:MU:=["things"]
abbrev pL:MU:=["rows","gate"]
abbrev pM:MU:=["pair","some"]
abbrev pN:MU:=["_law_peak"]
abbrev pO:MU:=["x","y","rows"]
abbrev pP:MU:=["x","y","tall"]
abbrev pQ:MU:=["lower","upper"]
abbrev pR:MU:=["word","path","rows","regions_at"]
abbrev pS:MU:=["rows","height","regions_at"]
abbrev pT:MU:=["rows","path","regions_at"]
abbrev pU:MU:=["rows","height","cell"]
abbrev pW:MU:=["cell","pair","regions_at"]
abbrev pX:MU:=["rows","height","point"]
abbrev pY:MU:=["_law_script","_law_k"]
abbrev pZ:MU:=["_law_feed_here","_law_many"]
abbrev qa:MU:=["_law_feed_here","_law_k"]
abbrev qb:MU:=["_law_rows","_law_lots","_law_low","_law_point","_law_height"]
abbrev qc:MU:=["_law_script"]
abbrev qd:MU:=["x","y","way"]
abbrev qe:MU:=["a","b","rows","cut","x","y","high"]
abbrev qf:MU:=["at","other","pair"]
abbrev qg:MU:=["x","y","rows","height","pair","regions_at"]
abbrev qh:MU:=["height","node","rows"]
abbrev qi:MU:=["_law_x","_law_y","_law_rows","_law_height"]
abbrev qj:MU:=["_law_x","_law_y","_law_rows"]
abbrev qk:MU:=["rows","cut","gate","across","down"]
abbrev ql:MU:=["cell","rows","height","pair","regions_at"]
abbrev qm:MU:=["_law_point","_law_rows","_law_height"]
abbrev qo:MU:=["_law_y","_law_feed_here","_law_wide","_law_far","_law_base"]
abbrev qr:MU:=["_law_x","_law_feed_here","_law_far","_law_base"]
local macro_rules | `(tactic| walk_at "w")=>`(tactic| repeat walk_at "dl")
local macro_rules | `(tactic| walk_at "c")=>`(tactic| exact⟨rfl,by decide +kernel,MO (by kernel_rfl),MO (by kernel_rfl),MO (by kernel_rfl),rfl⟩)
local macro_rules | `(tactic| walk_at "s")=>`(tactic| exact⟨rfl,rfl,rfl,by decide +kernel,rfl,by decide +kernel,by decide +kernel⟩)
noncomputable def top (i:Nat):Stmt:=PySem.Challenge.pw_heightrings_k43_peaks_and_passes.main.body.getD i (.Pass ⟨0,0,0,0⟩)
noncomputable abbrev lA:=top 1
noncomputable abbrev Fi:MU:=pf
theorem CA:FnScope Fi pf (zh lA):=by walk_at "s"
noncomputable abbrev c9:=top 2
noncomputable abbrev AL:MU:=["rows","wide","tall"]
theorem dZ:FnScope AL pf (zh c9):=by walk_at "s"
noncomputable abbrev vt:=top 3
noncomputable abbrev nQ:MU:=["rows","x","y","wide","tall"]
theorem aq:FnScope nQ pj (zh vt):=by walk_at "s"
noncomputable abbrev qJ:=top 4
noncomputable abbrev lB:MU:=["rows","x","y","beside"]
theorem b7:FnScope lB pj (zh qJ):=by walk_at "s"
noncomputable abbrev ft:=top 5
noncomputable abbrev CB:MU:=["rows","wide","tall"]
theorem gM:FnScope CB pf (zh ft):=by walk_at "s"
noncomputable abbrev ar:=top 6
noncomputable abbrev rN:MU:=pj
theorem nR:FnScope rN pj (zh ar):=by walk_at "s"
noncomputable abbrev bG:=top 7
noncomputable abbrev wH:MU:=pI
theorem rO:FnScope wH pI (zh bG):=by walk_at "s"
noncomputable abbrev au:=top 8
noncomputable abbrev rP:MU:=["rows","x","y","around"]
theorem eM:FnScope rP pj (zh au):=by walk_at "s"
noncomputable abbrev vu:=top 18
noncomputable abbrev nS:MU:=["rows","at","row"]
theorem av:FnScope nS pf (zh vu):=by walk_at "s"
noncomputable abbrev lC:=top 19
noncomputable abbrev Fj:MU:=pK
theorem CD:FnScope Fj pK (zh lC):=by walk_at "s"
noncomputable abbrev de:=top 20
noncomputable abbrev AM:MU:=pG
theorem wI:FnScope AM pG (zh de):=by walk_at "s"
noncomputable abbrev lD:=top 21
noncomputable abbrev Fl:MU:=pf
theorem CF:FnScope Fl pf (zh lD):=by walk_at "s"
noncomputable abbrev fu:=top 25
noncomputable abbrev CG:MU:=["rows","cut","sides"]
theorem nT:FnScope CG pz (zh fu):=by walk_at "s"
noncomputable abbrev jX:=top 26
noncomputable abbrev h9:MU:=["rows","cut","point","x","y"]
theorem vb:FnScope h9 pA (zh jX):=by walk_at "s"
noncomputable abbrev jY:=top 27
noncomputable abbrev ia:MU:=["gate","x","y","way"]
theorem jC:FnScope ia ["gate"] (zh jY):=by walk_at "s"
noncomputable abbrev aw:=top 28
noncomputable abbrev rQ:MU:=pL
theorem nU:FnScope rQ pL (zh aw):=by walk_at "s"
noncomputable abbrev bH:=top 29
noncomputable abbrev wJ:MU:=["rows","cut","gate","first","second"]
theorem cF:FnScope wJ ph (zh bH):=by walk_at "s"
noncomputable abbrev qK:=top 30
noncomputable abbrev lE:MU:=["cell","x","y"]
theorem vM:FnScope lE ["cell"] (zh qK):=by walk_at "s"
noncomputable abbrev qL:=top 31
noncomputable abbrev lF:MU:=pq
theorem ib:FnScope lF pq (zh qL):=by walk_at "s"
noncomputable abbrev yZ:=top 32
noncomputable abbrev df:MU:=["rows","cut","cell","x","y"]
theorem jn:FnScope df pq (zh yZ):=by walk_at "s"
noncomputable abbrev vw:=top 33
noncomputable abbrev nV:MU:=["rows","cut","cell","through"]
theorem dh:FnScope nV pq (zh vw):=by walk_at "s"
noncomputable abbrev jD:=top 34
noncomputable abbrev gN:MU:=["rows","cut","cell","above","left","below","right"]
theorem yS:FnScope gN pq (zh jD):=by walk_at "s"
noncomputable abbrev bI:=top 35
noncomputable abbrev wK:MU:=["rows","cut","gate","x","y","way","near_is_high"]
theorem vc:FnScope wK ph (zh bI):=by walk_at "s"
noncomputable abbrev qM:=top 36
noncomputable abbrev lG:MU:=qk
theorem vN:FnScope lG ph (zh qM):=by walk_at "s"
noncomputable abbrev ax:=top 37
noncomputable abbrev rR:MU:=qk
theorem bg:FnScope rR ph (zh ax):=by walk_at "s"
noncomputable abbrev qN:=top 38
noncomputable abbrev lH:MU:=["rows","cut","gate","x","y","partners","one","other"]
theorem yU:FnScope lH ph (zh qN):=by walk_at "s"
noncomputable abbrev fv:=top 40
noncomputable abbrev CH:MU:=["rows","cut","through","starts","told","passed","start","line","gate"]
theorem qt:FnScope CH pz (zh fv):=by walk_at "s"
noncomputable abbrev vy:=top 41
noncomputable abbrev nW:MU:=["rows","cut","start","path","gate"]
theorem qO:FnScope nW pE (zh vy):=by walk_at "s"
noncomputable abbrev bJ:=top 43
noncomputable abbrev wL:MU:=["rows","cut","told","placed","point","within","other"]
theorem jR:FnScope wL pz (zh bJ):=by walk_at "s"
noncomputable abbrev bK:=top 44
noncomputable abbrev wM:MU:=["rows","cut","places","at","word","within","point"]
theorem jS:FnScope wM pz (zh bK):=by walk_at "s"
noncomputable abbrev qP:=top 45
noncomputable abbrev lI:MU:=["rows","cut","start","found","waiting","point","other"]
theorem jh:FnScope lI pE (zh qP):=by walk_at "s"
noncomputable abbrev dk:=top 46
noncomputable abbrev AN:MU:=["rows","cut","point","x","y","high","beside","aslant"]
theorem qU:FnScope AN pA (zh dk):=by walk_at "s"
noncomputable abbrev ay:=top 49
noncomputable abbrev rS:MU:=["rows","height","least","greatest","regions_at","below","above","told","pair","on_height","in_band"]
theorem yz:FnScope rS pH (zh ay):=by walk_at "s"
noncomputable abbrev lJ:=top 50
noncomputable abbrev Fm:MU:=["rows","least","greatest"]
theorem lK:FnScope Fm pf (zh lJ):=by walk_at "s"
noncomputable abbrev bL:=top 51
noncomputable abbrev wN:MU:=["node","height","below","above","on_height","in_band"]
theorem jT:FnScope wN ["node"] (zh bL):=by walk_at "s"
noncomputable abbrev jE:=top 52
noncomputable abbrev gO:MU:=["rows","height","lower","upper"]
theorem qC:FnScope gO pH (zh jE):=by walk_at "s"
noncomputable abbrev fz:=top 53
noncomputable abbrev CI:MU:=["rows","height","regions_at","found","x","y","a","b"]
theorem vV:FnScope CI pS (zh fz):=by walk_at "s"
noncomputable abbrev jZ:=top 54
noncomputable abbrev b8:MU:=["rows","path","regions_at","low","high"]
theorem vd:FnScope b8 pT (zh jZ):=by walk_at "s"
noncomputable abbrev vz:=top 55
noncomputable abbrev nX:MU:=pM
theorem lM:FnScope nX pM (zh vz):=by walk_at "s"
noncomputable abbrev vA:=top 56
noncomputable abbrev nY:MU:=pB
theorem lO:FnScope nY pB (zh vA):=by walk_at "s"
noncomputable abbrev az:=top 57
noncomputable abbrev rT:MU:=pB
theorem nZ:FnScope rT pB (zh az):=by walk_at "s"
noncomputable abbrev jk:=top 58
noncomputable abbrev e6:MU:=["rows","height","cell","x","y"]
theorem jU:FnScope e6 pU (zh jk):=by walk_at "s"
noncomputable abbrev fA:=top 59
noncomputable abbrev CJ:MU:=["cell","pair","regions_at","x","y","high","low","beside"]
theorem vW:FnScope CJ pW (zh fA):=by walk_at "s"
noncomputable abbrev fB:=top 61
noncomputable abbrev CK:MU:=["rows","told","node","height","below","above","top","in_band"]
theorem qu:FnScope CK pf (zh fB):=by walk_at "s"
noncomputable abbrev bM:=top 62
noncomputable abbrev wO:MU:=["rows","height","point","least","greatest","cut"]
theorem aA:FnScope wO pX (zh bM):=by walk_at "s"
noncomputable abbrev aB:=top 64
noncomputable abbrev cG:MU:=["_law_script","_law_k","_law_cell"]
theorem bh:FnScope cG pY (zh aB):=by walk_at "s"
noncomputable abbrev aC:=top 65
noncomputable abbrev rV:MU:=["_law_feed_here","_law_many","_law_found"]
theorem eN:FnScope rV pZ (zh aC):=by walk_at "s"
noncomputable abbrev vB:=top 66
noncomputable abbrev n8:MU:=["_law_feed_here","_law_k","_law_sizes","_law_wide","_law_high","_law_far","_law_base"]
theorem yR:FnScope n8 qa (zh vB):=by walk_at "s"
noncomputable abbrev aD:=top 67
noncomputable abbrev rW:MU:=pF
theorem n9:FnScope rW pF (zh aD):=by walk_at "s"
noncomputable abbrev aE:=top 68
noncomputable abbrev rX:MU:=["_law_rows","_law_lots","_law_low","_law_point","_law_height","_law_far","_law_cut","_law_word","_law_some"]
theorem qv:FnScope rX qb (zh aE):=by walk_at "s"
noncomputable abbrev bN:=top 69
noncomputable abbrev wQ:MU:=["_law_rows","_law_low","_law_top","_law_found","_law_lots","_law_height","_law_word","_law_some","_law_heights","_law_points"]
theorem yI:FnScope wQ pF (zh bN):=by walk_at "s"
noncomputable abbrev vC:=top 70
noncomputable abbrev oa:MU:=pN
theorem lP:FnScope oa pN (zh vC):=by walk_at "s"
noncomputable abbrev eO:=top 71
noncomputable abbrev tT:MU:=["_law_script","_law_k","_law_rows","_law_found","_law_due_here","_law_peak"]
theorem d5:FnScope tT qc (zh eO):=by walk_at "s"
noncomputable def tab (Mt:Nb):MB:=.list (Mt.map λr=>.list (r.map .int))
structure Good (w:Nat) (Mt:Nb):Prop where
 h1:2<=Mt.length
 h2:Mt.length<=7
 w1:2<=w
 w2:w<=7
 row:∀ r∈Mt,r.length=w
 hgt:∀ r∈Mt,∀ n∈r,-1000000000<=n/\n<=1000000000
theorem Good.ne {w:Nat} {Mt:Nb} (g:Good w Mt):∃ r rs,Mt=r :: rs:=by
 cases Mt with
 | nil=>have:=g.h1;simp at this
 | cons r rs=>exact⟨r,rs,rfl⟩
theorem vE {α β:Type} {F:α->β} {xs:List α} {k:Int} {j:Nat} (hk:(j:Int)=k) (h:j<xs.length):atI (xs.map F) k=MA (F xs[j]):=by
 subst hk;exact vk (by rw [Ho,Hd h];rfl)
local macro_rules | `(tactic| walk_at "dl")=>`(tactic| first
 | (with_reducible show PSd _ _ (vP _ (oP (yt _) (tC (V.int 0)) mI)) _ _;refine B2 rfl ?_)
 | (with_reducible show PSd _ _ (vP _ (oP (yt _) (tC (V.int 1)) mI)) _ _;refine B3 rfl ?_)
 | with_reducible refine yq ?_ | with_reducible refine fY ?_ | with_reducible refine yA ?_ | with_reducible refine yb ?_ | with_reducible refine aU ?_ | with_reducible refine aM ?_
 | with_reducible refine zg ?_ | with_reducible refine yg rfl ?_ | with_reducible refine zo ?_ | with_reducible refine zP ?_
 | with_reducible refine yi ?_ | with_reducible refine t_b ?_ | with_reducible refine iD ?_ | with_reducible refine B0 ?_ | with_reducible refine cQ ?_ | with_reducible refine yY ?_
 | with_reducible refine kC ?_ | with_reducible refine iC ?_ | with_reducible refine j8 ?_ | with_reducible refine oZ ?_ | with_reducible refine jH ?_
 | with_reducible refine o3 ?_ | with_reducible refine o4 ?_ | with_reducible refine d_orV ?_ | with_reducible refine EE ?_
 | with_reducible refine yp ?_ | with_reducible refine xM ?_ | with_reducible refine aT ?_ | with_reducible refine xN ?_
 | (with_reducible show PEd _ _ (yt _) _ _;refine zi rfl ?_)
 | (with_reducible show PEd _ _ (tOp (oV _) (yt _) _) _ _;refine Ge rfl ?_)
 | with_reducible refine mP ?_ | with_reducible refine vQ ?_
 | (with_reducible show PAd _ _ (yj (yt _) _) _ _;refine EB rfl ?_)
 | with_reducible refine zq ?_ | with_reducible refine zL ?_
 | with_reducible refine d_catT ?_ | with_reducible refine d_cut ?_ | with_reducible refine po_no ?_ | with_reducible refine po_at ?_ | with_reducible refine d_int1 ?_ | with_reducible refine cS ?_ | with_reducible refine jf ?_
 | with_reducible refine jI ?_ | with_reducible refine xO ?_ | with_reducible refine sR ?_ | with_reducible refine fX ?_ | with_reducible refine cm ?_ | with_reducible refine EF ?_ | with_reducible refine EG ?_
 | (with_reducible show (∃ _,_) \/ (∃ _,_);first | refine MM ⟨_,rfl,?_⟩ | refine MN ⟨_,rfl,?_⟩) | refine⟨_,rfl,?_⟩ | refine⟨_,_,rfl,?_⟩
 | (with_reducible show (_=_/\∀ _,_) \/ _;first | refine MM ⟨rfl,λa ha=>?_⟩ | refine MN ⟨rfl,λb hb hb'=>?_⟩)
 | (with_reducible show PyData.canLay0 _=MC/\_;refine And.intro (by first | rfl | assumption | decide +kernel) ?_)
 | (with_reducible show min _ _<=60/\_;refine And.intro (by first | assumption | (simp [PyData.depth,Hy];done)) ?_)
 | refine⟨rfl,?_⟩
 | (refine And.intro ?side ?_;(case side=>first | omega | exact Int.ediv_nonneg (by omega) (by omega) | exact L0 _ (by omega) | exact Kd _ (by omega) | decide | exact⟨by decide,by decide,by decide⟩ | exact⟨by omega,by omega⟩ | exact MM ⟨by omega,by omega⟩ | exact MN ⟨by omega,by omega⟩ | (refine HM (JA (by rfl)) (show _<=1000 by decide)) | ((repeat' apply And.intro) <;> first | rfl | omega | decide | assumption) | (simp [PyData.depth]))))
section
variable {P:MI} {w:MH} {K:Hj} {mg:Str->MR} {base:Heap} {k:Nat}
theorem CL (F:Def K mg "size" lA pf) (uab:mg "len"=MF):FnIn P w K mg base (k+1) "size" pf (spD K 1 (λ(c:Nb×Nat) xs=>xs=[.dat (tab c.1)]/\Good c.2 c.1) λc r=>r=.tuple [.int c.2,.int c.1.length]):=by
 refine F.ok CA rfl λfa cdv A outer s H E hr=>⟨_,(zj (zv (zE (za (zD (yM (K:=K) rfl) rfl uab Jq (za (zK (zH (K:=K) rfl) (pv 0) zk (λ_ _=>rfl)) zb)) (za (zD (yM (K:=K) rfl) rfl uab Jq (za (pv 0) zb)) zb))))),?_⟩;rintro f xs ⟨Mt,wd⟩ hl ⟨rfl,g⟩
 try dsimp only [yd,zm]
 obtain⟨r,rs,rfl⟩:=g.ne;walk_at "w";refine⟨_,vE (j:=0) rfl (by simp),?_⟩;walk_at "w";have hw:=g.row r Hk;show PyData.tuple [.int _,.int _]=_;rw [Hc,Hc];show PyData.tuple [.int (r.length:Nat),_]=_;rw [hw]
theorem CN (F:Def K mg "fits" lC pK) (uab:mg "len"=MF) (uar:∃ t,mg "FEWEST"=MA (.int 2 t)) (uas:∃ t,mg "MOST"=MA (.int 7 t)) :
  FnIn P w K mg base (k+1) "fits" pK (spD K 1 (λ(c:M9) xs=>xs=[.dat (.list c)]) λc r=>r=.bool (decide (2<=c.length/\c.length<=7))):=by
 obtain⟨_,uar⟩:=uar;obtain⟨_,uas⟩:=uas;refine F.ok CD rfl λfa cdv A outer s H E hr=>⟨_,(zj (zv (cN bV bV (aV rfl uar) (zD (yM (K:=K) rfl) rfl uab Jq (za (pv 0) zb)) (aV rfl uas)))),?_⟩;rintro f xs ds hl rfl
 try dsimp only [yd,zm]
 walk_at "w";by_cases h:2<=ds.length
 ·rw [Mw (by simp;omega)];walk_at "w";show PyData.bool _=_
  congr 1
  by_cases h7:ds.length<=7 <;> simp [h,h7] <;> omega
 ·rw [Mv (by simp;omega)];show PyData.bool _=_
  congr 1
  simp [h]
theorem wR (F:Def K mg "is_row" de pG) (uaf:mg "min"=MF) (uad:mg "max"=MF) (uat:∃ t,mg "LEAST"=MA (.int (-1000000000) t)) (uau:∃ t,mg "GREATEST"=MA (.int 1000000000 t))
  (uaH:FnIn P w K mg base k "fits" pK (spD K 1 (λ(c:M9) xs=>xs=[.dat (.list c)]) λc r=>r=.bool (decide (2<=c.length/\c.length<=7)))) :
  FnIn P w K mg base (k+1) "is_row" pG (spD K 1 (λ(c:M4) xs=>xs=[.dat (.list (c.map .int))]) λc r=>r=.bool (decide (2<=c.length/\c.length<=7/\∀ n∈c,-1000000000<=n/\n<=1000000000))):=by
 obtain⟨_,uat⟩:=uat;obtain⟨_,uau⟩:=uau;refine F.ok wI rfl λfa cdv A outer s H E hr=>⟨_,(zj (zv (fK (zf uaH hr rfl (za (pv 0) zb)) (fK (ah bV (aV rfl uat) (zD (vR (K:=K) rfl rfl) rfl uaf boot_min (za (pv 0) zb)) (zX _)) (kn (ah bV (zD (jQ (K:=K) rfl rfl) rfl uad boot_max (za (pv 0) zb)) (aV rfl uau) (zX _))))))),?_⟩;rintro f xs c hl rfl
 try dsimp only [yd,zm]
 walk_at "w";refine zt (c.map .int) ?_;walk_at "w";rintro r rfl;rw [Hc];walk_at "w";by_cases h:2<=c.length/\c.length<=7
 ·have hne:c≠[]:=by rintro rfl;simp at h
  rw [Mw (by simpa using h)];walk_at "w";intro M hM hM';walk_at "w";by_cases h2:-1000000000<=M
  ·rw [Mw (by simpa using h2)];walk_at "w";intro M' hN hN';walk_at "w";show PyData.bool _=_
   congr 1
   rw [decide_eq_decide];refine⟨λq=>⟨h.1,h.2,λn hn=>⟨Ke h2 (hM' n hn),Ke (hN' n hn) q⟩⟩,λq=>(q.2.2 M' hN).2⟩
  ·rw [Mv (by simpa using h2)];show PyData.bool _=_
   congr 1
   symm;rw [decide_eq_false_iff_not];exact λq=>h2 (q.2.2 M hM).1
 ·rw [Mv (by simpa using h)];show PyData.bool _=_
  congr 1
  symm;rw [decide_eq_false_iff_not];exact λq=>h ⟨q.1,q.2.1⟩
abbrev eP (K:Hj):Sp:=spD K 1 (λ(c:Nb×Nat) xs=>xs=[.dat (tab c.1)]/\Good c.2 c.1) λ_ r=>r=.bool MC
theorem Fn (F:Def K mg "ask_table" vu pf) (uab:mg "len"=MF) (uai:mg "enumerate"=MF)
  (uaH:FnIn P w K mg base k "fits" pK (spD K 1 (λ(c:M9) xs=>xs=[.dat (.list c)]) λc r=>r=.bool (decide (2<=c.length/\c.length<=7))))
  (ubj:FnIn P w K mg base k "is_row" pG (spD K 1 (λ(c:M4) xs=>xs=[.dat (.list (c.map .int))]) λc r=>r=.bool (decide (2<=c.length/\c.length<=7/\∀ n∈c,-1000000000<=n/\n<=1000000000)))) :
  FnIn P w K mg base (k+1) "ask_table" pf (eP K):=by
 refine F.ok av rfl λfa cdv A outer s H E hr=>⟨_,(zc (yF (vH (ya (K:=K) rfl (zf uaH hr rfl (za (pv 0) zb)) (λ_=>rfl))) (zj fM) zV) (zc (yL Ie rfl (gf (K:=K) rfl rfl uai (za (pv 0) zb)) (zC (K:=K) (n:=2) rfl rfl (ze (zd (i:=1) av.nd rfl (MM rfl) (MN rfl)) (ze (zd (i:=2) av.nd rfl (MM rfl) (MN rfl)) zx))) (zj (yF (PW.pt (sG (zM (dI (K:=K) rfl hr.units) (zD (yM (K:=K) rfl) rfl uab Jq (za (pv 2) zb)) (zD (yM (K:=K) rfl) rfl uab Jq (za (zK (zH (K:=K) rfl) (pv 0) zk (λ_ _=>rfl)) zb)) (zX _)) (oO (vH (ya (K:=K) rfl (zf ubj hr rfl (za (pv 2) zb)) (λ_=>rfl)))))) (zj fM) zV))) (zj (zv bU)))),?_⟩;rintro f xs ⟨Mt,wd⟩ hl ⟨rfl,g⟩
 try dsimp only [yd,zm]
 have g1:=g.h1;have g2:=g.h2;walk_at "w";refine zt (Mt.map λr=>.list (r.map .int)) ?_;walk_at "w";rintro r rfl;dsimp only at g1 g2;refine⟨_,rfl,?_⟩;rw [Hc,Mx ⟨g1,g2⟩,II,Mv He];walk_at "w";refine o6 ?_;walk_at "w";refine⟨λi ρ=>∃ a b,ρ=[MA (.dat (tab Mt)),a,b],⟨_,_,rfl⟩,?_,?_⟩
 ·rintro i d ρ hd ⟨a,b,rfl⟩;rw [Ho] at hd;cases hr:Mt[i]? with
  | none=>rw [hr] at hd;cases hd
  | some r =>
   rw [hr] at hd;cases hd;have hm:=Hu hr;have hw:=g.row r hm;obtain⟨r0,rs,hrs⟩:=g.ne;dsimp only at hrs;subst hrs;have hw0:=g.row r0 Hk;walk_at "w";refine⟨_,vE (j:=0) rfl (by simp),?_⟩;walk_at "w";dsimp only at hw hw0;rw [Mw rfl,Hc,Hc];show (if (!(((r.length:Nat):Int) == ((r0.length:Nat):Int)))=MC then _ else _);rw [hw,hw0,beq_self_eq_true,II,Mv He];walk_at "w";refine zt r ?_;walk_at "w";rintro _ rfl;refine⟨_,rfl,?_⟩;have w1:=g.w1;have w2:=g.w2;dsimp only at w1 w2;rw [Mx ⟨by omega,by omega,g.hgt r hm⟩,II,Mv He];walk_at "w";exact⟨_,_,rfl⟩
 ·rintro ρ ⟨a,b,rfl⟩;walk_at "w";rfl
theorem CO (F:Def K mg "_law_draw" aC pZ):FnIn P w K mg base (k+1) "_law_draw" pZ (spD K 2 (λ(c:Int) xs=>xs=[.feed,.dat (.int c)]/\0<c/\c<1152921504606846976) λc r=>∃ i:Int,r=.int i/\0<=i/\i<c):=by
 refine F.ok eN rfl λfa cdv A outer s H E hr=>⟨_,(zc (yF (zM xw (zK (zH (K:=K) rfl) (pv 0) zk (λ_ _=>rfl)) (zB oS zk zk) (zX _)) (zc (zO (i:=2) eN.nd rfl (MM rfl) (zB dG (zK (zH (K:=K) rfl) (pv 0) zk (λ_ _=>rfl)) (pv 1))) (zc (z9 (zB mT (zK (zH (K:=K) rfl) (pv 0) zk (λ_ _=>rfl)) (pv 1)) (aQ (pv 0) zk set_list)) (zj (zv (pv 2))))) zV) (zc (z9 (zB dG (zB yh (zB yh (zB aR (zK (zH (K:=K) rfl) (pv 0) zk (λ_ _=>rfl)) zk) (zB dG (zK (zH (K:=K) rfl) (pv 0) zk (λ_ _=>rfl)) zk)) zk) zk) (aQ (pv 0) zk set_list)) (zj (zv (zB dG (zB mT (zB dG (zB aR (zK (zH (K:=K) rfl) (pv 0) zk (λ_ _=>rfl)) zk) zk) zk) (pv 1)))))),?_⟩;rintro f xs c hl ⟨rfl,c0,c1⟩
 try dsimp only [yd,zm]
 walk_at "w";split
 ·walk_at "w";exact Kd _ c0
 ·walk_at "w";exact Kd _ c0
abbrev Fo (K:Hj):Sp:=spD K 2 (λ(c:Int) xs=>xs=[.feed,.dat (.int c)]/\0<c/\c<1152921504606846976) λc r=>∃ i:Int,r=.int i/\0<=i/\i<c
theorem menu {ds:M9} {i n:Int} (h0:0<=i) (h1:i<n) (hn:n=(ds.length:Int)):∃ d,atI ds i=MA d/\d∈ds:=by
 have hi:i.toNat<ds.length:=by omega
 have e:i=((i.toNat:Nat):Int):=by omega
 have q:=vk (Hd hi);rw [<-e] at q;exact⟨_,q,Io hi⟩
theorem tU:∀ {es:M9} {p:Int->Prop},(∀ (i:Nat) e,es[i]?=MA e->∃ n:Int,e=.int n/\p n)->∃ ns:M4,es=ns.map .int/\∀ n∈ns,p n
 | [],p,_=>⟨[],rfl,λn h=>by cases h⟩
 | e :: es,p,h=>by
  obtain⟨n,rfl,hn⟩:=h 0 e rfl;obtain⟨ns,rfl,hs⟩:=tU (es:=es) (p:=p) λi e' he=>h (i+1) e' (by simpa using he);exact⟨n :: ns,rfl,λm hm=>by
   rcases Hv.mp hm with rfl | hm
   ·exact hn
   ·exact hs m hm⟩
theorem tV:∀ {es:M9} {p:M4->Prop},(∀ (i:Nat) e,es[i]?=MA e->∃ r:M4,e=.list (r.map .int)/\p r)->∃ Mt:Nb,es=Mt.map (λr=>.list (r.map .int))/\∀ r∈Mt,p r
 | [],p,_=>⟨[],rfl,λn h=>by cases h⟩
 | e :: es,p,h=>by
  obtain⟨n,rfl,hn⟩:=h 0 e rfl;obtain⟨ns,rfl,hs⟩:=tV (es:=es) (p:=p) λi e' he=>h (i+1) e' (by simpa using he);exact⟨n :: ns,rfl,λm hm=>by
   rcases Hv.mp hm with rfl | hm
   ·exact hn
   ·exact hs m hm⟩
theorem yr {b:Bool} {p q:Prop} (h1:b=MC->p) (h2:b=MG->q):if b=MC then p else q:=by
 cases b with
 | true=>rw [Mw rfl];exact h1 rfl
 | false=>rw [Mv He];exact h2 rfl
noncomputable def z7 (Mt:Nb) (wd:Nat) (x y:Int):Bool:=decide (0<=x/\x<wd) && decide (0<=y/\y<Mt.length)
noncomputable def yc (Mt:Nb) (x y:Int):Int:=(Mt.getD y.toNat []).getD x.toNat 0
theorem bj {Mt:Nb} {wd:Nat} {x y:Int} (h:z7 Mt wd x y=MC):0<=x/\x<wd/\0<=y/\y<Mt.length:=by
 unfold z7 at h;rw [Hq] at h;have h1:=MO h.1;have h2:=MO h.2;omega
noncomputable def vF (x y w:Int):MB:=.tuple [.int x,.int y,.int w]
noncomputable def px (x:Int) (w:Int):Int:=if w=0 then x+1 else x
noncomputable def py (y:Int) (w:Int):Int:=if w=0 then y else y+1
noncomputable def aF (Mt:Nb) (wd:Nat) (x y w:Int):Bool:=decide (w=0 \/ w=1) && (z7 Mt wd x y && z7 Mt wd (px x w) (py y w))
noncomputable def yT (Mt:Nb) (wd:Nat) (MK x y w:Int):Bool:=aF Mt wd x y w && (decide (MK<yc Mt x y) != decide (MK<yc Mt (px x w) (py y w)))
noncomputable def iU (Mt:Nb) (MK x y w:Int):Str:=if w=0 then (if MK<yc Mt x y then "up" else "down") else (if MK<yc Mt x y then "right" else "left")
theorem fC (a b:Int):HU (.int a) (.int b)=decide (a=b):=rfl
theorem oe (a b:Bool):HU (.bool a) (.bool b)=(a == b):=rfl
abbrev rY (K:Hj):Sp:=spD K 1 (λ(c:Nb×Nat) xs=>xs=[.dat (tab c.1)]/\Good c.2 c.1) λc r=>r=.tuple [.int c.2,.int c.1.length]
abbrev tW (K:Hj):Sp:=spD K 3 (λ(c:Nb×Nat×Int×Int) xs=>xs=[.dat (tab c.1),.dat (.int c.2.2.1),.dat (.int c.2.2.2)]/\Good c.2.1 c.1) λc r=>r=.bool (z7 c.1 c.2.1 c.2.2.1 c.2.2.2)
theorem Fp (F:Def K mg "has_point" vt pj) (uav:FnIn P w K mg base k "size" pf (rY K)):FnIn P w K mg base (k+1) "has_point" pj (tW K):=by
 refine F.ok aq rfl λfa cdv A outer s H E hr=>⟨_,(zc (z9 (zf uav hr rfl (za (pv 0) zb)) (zC (K:=K) (n:=2) rfl rfl (ze (zd (i:=3) aq.nd rfl (MM rfl) (MN rfl)) (ze (zd (i:=4) aq.nd rfl (MM rfl) (MN rfl)) zx)))) (zj (zv (fK (cN bV xu zk (pv 1) (pv 3)) (kn (cN bV xu zk (pv 2) (pv 4))))))),?_⟩;rintro f xs ⟨Mt,wd,x,y⟩ hl ⟨rfl,g⟩
 try dsimp only [yd,zm]
 dsimp only at *;refine yq (yb (zt (Mt,wd) ?_));walk_at "w";rintro _ rfl;walk_at "w";have fin:∀ b:Bool,b=z7 Mt wd x y->PyData.bool b=PyData.bool (z7 Mt wd x y):=λb h=>by rw [h]
 refine yr (λh1=>?_) λh1=>?_
 ·have h1':=MO h1;walk_at "w";refine yr (λh2=>?_) λh2=>?_
  ·have h2':=MO h2;walk_at "w";refine yr (λh3=>?_) λh3=>?_
   ·have h3':=MO h3;walk_at "w";refine fin _ ?_;unfold z7;dsimp only at h2' ⊢;rw [Mx (p:=(0<=x/\x<(wd:Int))) (by omega),Kj];exact decide_eq_decide.mpr (by omega)
   ·have h3':=MP h3;refine fin _ ?_;unfold z7;rw [Mz (p:=(0<=y/\y<(Mt.length:Int))) (by omega),Me]
  ·have h2':=MP h2;refine fin _ ?_;unfold z7;dsimp only at h2';rw [Mz (p:=(0<=x/\x<(wd:Int))) (by omega),Ko]
 ·have h1':=MP h1;refine⟨_,rfl,?_⟩;rw [Mv He];refine fin _ ?_;unfold z7;rw [Mz (p:=(0<=x/\x<(wd:Int))) (by omega),Ko]
abbrev d6 (K:Hj):Sp:=spD K 3 (λ(c:Nb×Nat×Int×Int×Int) xs=>xs=[.dat (tab c.1),.dat (.int c.2.2.1),.dat (.tuple [.int c.2.2.2.1,.int c.2.2.2.2])]/\Good c.2.1 c.1/\z7 c.1 c.2.1 c.2.2.2.1 c.2.2.2.2=MC) λc r=>r=.bool (decide (c.2.2.1<yc c.1 c.2.2.2.1 c.2.2.2.2))
theorem vX {Mt:Nb} {wd:Nat} {x y:Int} (g:Good wd Mt) (h:z7 Mt wd x y=MC):∃ r:M4,atI (Mt.map λq=>PyData.list (q.map .int)) y=MA (.list (r.map .int))/\atI (r.map PyData.int) x=MA (.int (yc Mt x y)):=by
 obtain⟨x0,x1,y0,y1⟩:=bj h;have hy:y.toNat<Mt.length:=by omega
 have hr:=g.row _ (Io hy);have hx:x.toNat<Mt[y.toNat].length:=by omega
 refine⟨Mt[y.toNat],vE (F:=λq:M4=>PyData.list (q.map .int)) (by omega) hy,?_⟩;rw [vE (j:=x.toNat) (by omega) hx];unfold yc;rw [Hn,Hn,Hd hy,LH,Hd hx];rfl
theorem CP (F:Def K mg "stands_high" jX pA):FnIn P w K mg base (k+1) "stands_high" pA (d6 K):=by
 refine F.ok vb rfl λfa cdv A outer s H E hr=>⟨_,(zc (z9 (pv 2) (zC (K:=K) (n:=2) rfl rfl (ze (zd (i:=3) vb.nd rfl (MM rfl) (MN rfl)) (ze (zd (i:=4) vb.nd rfl (MM rfl) (MN rfl)) zx)))) (zj (zv (ah mF (zK (zH (K:=K) rfl) (zK (zH (K:=K) rfl) (pv 0) (pv 4) (λ_ _=>rfl)) (pv 3) (λ_ _=>rfl)) (pv 1) (zX _))))),?_⟩;rintro f xs ⟨Mt,wd,MK,x,y⟩ hl ⟨rfl,g,hi⟩
 try dsimp only [yd,zm]
 dsimp only at *;obtain⟨r,h1,h2⟩:=vX g hi;unfold tab;walk_at "w";refine⟨_,h1,?_⟩;walk_at "w";refine⟨_,h2,?_⟩;walk_at "w";rfl
abbrev tX (K:Hj):Sp:=spD K 1 (λ(c:Int×Int×Int) xs=>xs=[.dat (vF c.1 c.2.1 c.2.2)]) λc r=>r=.list [.tuple [.int c.1,.int c.2.1],.tuple [.int (px c.1 c.2.2),.int (py c.2.1 c.2.2)]]
theorem Fq (F:Def K mg "gate_points" jY ["gate"]):FnIn P w K mg base (k+1) "gate_points" ["gate"] (tX K):=by
 refine F.ok jC rfl λfa cdv A outer s H E hr=>⟨_,(zc (z9 (pv 0) (zC (K:=K) (n:=3) rfl rfl (ze (zd (i:=1) jC.nd rfl (MM rfl) (MN rfl)) (ze (zd (i:=2) jC.nd rfl (MM rfl) (MN rfl)) (ze (zd (i:=3) jC.nd rfl (MM rfl) (MN rfl)) zx))))) (zc (yF (zM (y7 (K:=K) rfl hr.units) (pv 3) zk (zX _)) (zj (zv (yw (za (zE (za (pv 1) (za (pv 2) zb))) (za (zE (za (zB yh (pv 1) zk) (za (pv 2) zb))) zb))))) zV) (zj (zv (yw (za (zE (za (pv 1) (za (pv 2) zb))) (za (zE (za (pv 1) (za (zB yh (pv 2) zk) zb))) zb))))))),?_⟩;rintro f xs ⟨x,y,w⟩ hl rfl
 try dsimp only [yd,zm]
 dsimp only at *;unfold vF;walk_at "w";rw [Mv He,fC];refine yr (λh=>?_) λh=>?_
 ·have h':=MO h;walk_at "w";unfold px py;rw [Mw h',Mw h']
 ·have h':=MP h;walk_at "w";unfold px py;rw [Mv h',Mv h']
abbrev AO (K:Hj):Sp:=spD K 2 (λ(c:Nb×Nat×Int×Int×Int) xs=>xs=[.dat (tab c.1),.dat (vF c.2.2.1 c.2.2.2.1 c.2.2.2.2)]/\Good c.2.1 c.1) λc r=>r=.bool (aF c.1 c.2.1 c.2.2.1 c.2.2.2.1 c.2.2.2.2)
theorem CQ (F:Def K mg "has_gate" aw pL) (uak:mg "all"=MF) (ual:FnIn P w K mg base k "has_point" pj (tW K)) (uaw:FnIn P w K mg base k "gate_points" ["gate"] (tX K)):FnIn P w K mg base (k+1) "has_gate" pL (AO K):=by
 refine F.ok nU rfl λfa cdv A outer s H E hr=>⟨_,(zc (yF (zM (wa (K:=K) rfl) (zK (yG (K:=K) rfl) (pv 1) zk (λ_ _=>rfl)) (zE (za zk (za zk zb))) rfl) (zj (zv bU)) zV) (zj (zv (zD (iG (K:=K) rfl rfl) rfl uak L5 (za (z6 (N:=pO) (own:=2) (fr:=[0]) (by walk_at "c") rfl (zF (K:=K) rfl (zf uaw hr rfl (za (pv 1) zb))) (λ_ _ _ _=>(zC (K:=K) (n:=2) rfl rfl (ze (zd (i:=0) (show (pO:MU).Nodup by decide +kernel) rfl (MM rfl) (MN rfl)) (ze (zd (i:=1) (show (pO:MU).Nodup by decide +kernel) rfl (MM rfl) (MN rfl)) zx)))) (λ_ _ _ _=>z8) (λ_ _ _ _=>(zf ual hr rfl (za (pv 2) (za (pv 0) (za (pv 1) zb))))) rfl rfl (λ_=>rfl)) zb))))),?_⟩;rintro f xs ⟨Mt,wd,x,y,w⟩ hl ⟨rfl,g⟩
 try dsimp only [yd,zm]
 dsimp only at *;refine yq (fY (yi (xX ?_)));unfold vF;walk_at "w";refine⟨[0,1],rfl,_,rfl,?_⟩;have hc:(([0,1]:M4).contains w)=decide (w=0 \/ w=1):=by
  rw [Bool.eq_iff_iff];simp
 rw [hc];by_cases h:w=0 \/ w=1
 ·rw [Mx h,II,Mv He];refine aM (yA (DK (PEdO.ped (gh (A:=λp:Int×Int=>PyData.tuple [.int p.1,.int p.2]) (B:=λp:Int×Int=>PyData.bool (z7 Mt wd p.1 p.2)) [(x,y),(px x w,py y w)] (yf (zt (x,y,w) ?_))))));walk_at "w";rintro _ rfl;refine⟨_,rfl,rfl,show 2<=1000 by decide,?_,?_⟩
  ·rintro D p ρ' es hp ho hes;obtain⟨u,v,rfl⟩:=ho.two;refine yg rfl (zo (zg (zo (zg (zP (jf ?_))))));rw [Mw rfl];refine yn hes (zt (Mt,wd,p.1,p.2) ?_);walk_at "w";rintro _ rfl;exact⟨.mk2,rfl⟩
  ·refine⟨[z7 Mt wd x y,z7 Mt wd (px x w) (py y w)],rfl,?_⟩;show PyData.bool _=PyData.bool _;unfold aF;rw [Mx h,Kj];show PyData.bool (z7 Mt wd x y && (z7 Mt wd (px x w) (py y w) && MC))=_;rw [KJ]
 ·rw [Mz h,KZ,Mw rfl];walk_at "w";unfold aF;rw [Mz h];rfl
abbrev lQ (K:Hj):Sp:=spD K 3 (λ(c:Nb×Nat×Int×Int×Int×Int) xs=>xs=[.dat (tab c.1),.dat (.int c.2.2.1),.dat (vF c.2.2.2.1 c.2.2.2.2.1 c.2.2.2.2.2)]/\Good c.2.1 c.1) λc r=>r=.bool (yT c.1 c.2.1 c.2.2.1 c.2.2.2.1 c.2.2.2.2.1 c.2.2.2.2.2)
theorem AQ {Mt:Nb} {wd:Nat} {x y w:Int} (h:aF Mt wd x y w=MC):z7 Mt wd x y=MC/\z7 Mt wd (px x w) (py y w)=MC:=by
 unfold aF at h;rw [Hq,Hq] at h;exact h.2
theorem CS (F:Def K mg "is_open" bH ph) (ubk:FnIn P w K mg base k "has_gate" pL (AO K)) (uaw:FnIn P w K mg base k "gate_points" ["gate"] (tX K)) (uah:FnIn P w K mg base k "stands_high" pA (d6 K)):FnIn P w K mg base (k+1) "is_open" ph (lQ K):=by
 refine F.ok cF rfl λfa cdv A outer s H E hr=>⟨_,(zc (yF (vH (ya (K:=K) rfl (zf ubk hr rfl (za (pv 0) (za (pv 2) zb))) (λ_=>rfl))) (zj (zv bU)) zV) (zc (z9 (zf uaw hr rfl (za (pv 2) zb)) (kE (K:=K) (n:=2) rfl rfl (ze (zd (i:=3) cF.nd rfl (MM rfl) (MN rfl)) (ze (zd (i:=4) cF.nd rfl (MM rfl) (MN rfl)) zx)))) (zj (zv (ah (dI (K:=K) rfl hr.units) (zf uah hr rfl (za (pv 0) (za (pv 1) (za (pv 3) zb)))) (zf uah hr rfl (za (pv 0) (za (pv 1) (za (pv 4) zb)))) (zX _)))))),?_⟩;rintro f xs ⟨Mt,wd,MK,x,y,w⟩ hl ⟨rfl,g⟩
 try dsimp only [yd,zm]
 dsimp only at *;refine yq (fY (cQ (yY (zt (Mt,wd,x,y,w) ?_))));walk_at "w";rintro _ rfl;refine⟨_,rfl,?_⟩;dsimp only;cases h:aF Mt wd x y w with
 | false =>
  rw [KZ,Mw rfl];walk_at "w";unfold yT;rw [h];rfl
 | true =>
  rw [II,Mv He];obtain⟨i1,i2⟩:=AQ h;refine aM (yq (yb (zt (x,y,w) ?_)));walk_at "w";rintro _ rfl;dsimp only;refine sU rfl (zo (zg (zo (zg (zP ?_)))));refine yA (jH (zt (Mt,wd,MK,x,y) ?_));walk_at "w";rintro _ rfl;refine zt (Mt,wd,MK,px x w,py y w) ?_;walk_at "w";rintro _ rfl;dsimp only;walk_at "w";show PyData.bool _=PyData.bool _;unfold yT;rw [h,Kj,Mw rfl,oe];rfl
theorem vY {n i:Nat} {d:MB} (h:(aW n)[i]?=MA d):i<n/\d=.int (i:Int):=by
 unfold aW at h;rw [Ho] at h;by_cases hi:i<n
 ·rw [Jm hi] at h;cases h;exact⟨hi,rfl⟩
 ·rw [Ib (by rw [HY];omega)] at h;cases h
theorem vZ (n:Nat):(aW n).length=n:=by unfold aW;simp
noncomputable def AR (x y:Nat):MB:=.tuple [.int x,.int y]
noncomputable def qG (t n:Nat):M9:=(HN n).flatMap λx=>(HN t).map (AR x)
theorem gP (t n:Nat):qG t (n+1)=qG t n++(HN t).map (AR n):=by
 unfold qG;rw [Kh,Jn];simp
theorem lR (t:Nat):∀ n,(qG t n).length=t * n
 | 0=>rfl
 | n+1=>by rw [gP,HA,lR t n,Hc,HY,Mr]
abbrev v3 (K:Hj):Sp:=spD K 1 (λ(c:Nb×Nat) xs=>xs=[.dat (tab c.1)]/\Good c.2 c.1) λc r=>r=.list (qG c.1.length c.2)
theorem wU (F:Def K mg "points" c9 pf) (uaa:mg "range"=MF) (uav:FnIn P w K mg base k "size" pf (rY K)):FnIn P w K mg base (k+1) "points" pf (v3 K):=by
 refine F.ok dZ rfl λfa cdv A outer s H E hr=>⟨_,(zc (z9 (zf uav hr rfl (za (pv 0) zb)) (zC (K:=K) (n:=2) rfl rfl (ze (zd (i:=1) dZ.nd rfl (MM rfl) (MN rfl)) (ze (zd (i:=2) dZ.nd rfl (MN rfl) (MM rfl)) zx)))) (zj (zv (fW (N:=pP) (own:=2) (fr:=[2]) (by walk_at "c") rfl (jq rfl uaa (za (pv 1) zb)) (λ_ _ _ _=>(zd (i:=0) (show (pP:MU).Nodup by decide +kernel) rfl (MM rfl) (MN rfl))) (λ_ _ _ _=>z8) (λ_ _ _ _=>(jq rfl uaa (za (pv 2) zb))) (λ_ _ _ _=>(zd (i:=1) (show (pP:MU).Nodup by decide +kernel) rfl (MM rfl) (MN rfl))) (λ_ _ _ _=>z8) (λ_ _ _ _=>(zE (za (pv 0) (za (pv 1) zb)))) rfl rfl (λ_=>rfl) (λ_ _ _ _ _=>rfl))))),?_⟩;rintro f xs ⟨Mt,wd⟩ hl ⟨rfl,g⟩
 try dsimp only [yd,zm]
 dsimp only at *;have g2:=g.h2;have w2:=g.w2;refine yq (yb (zt (Mt,wd) ?_));walk_at "w";rintro _ rfl;refine yg rfl (zo (zg (zo (zg (zP ?_)))));refine yA (PEdO.ped (qX (bC (zq (zi rfl (zL ⟨_,rfl,by dsimp only;omega,by dsimp only;omega,λn ρ es=>(∃ u v,ρ=[u,v,MA (.dat (.int Mt.length))])/\es=qG Mt.length n,⟨⟨_,_,rfl⟩,rfl⟩,?_,?_⟩))))))
 ·rintro D n d ρ' es hd ⟨⟨u,v,rfl⟩,rfl⟩;obtain⟨hn,rfl⟩:=vY hd;have hn':n<wd:=by have:n<((wd:Int)).toNat:=hn;omega
  have l1:Mt.length * n<=7 * 7:=JC g2 (by omega);refine zg (jf ?_);rw [Mw rfl];refine B4 (bC (zq (zi rfl (zL ⟨_,rfl,by omega,by omega,λm ρ es=>(∃ v,ρ=[MA (.dat (.int n)),v,MA (.dat (.int Mt.length))])/\es=qG Mt.length n++(HN m).map (AR n),⟨⟨_,rfl⟩,by simp⟩,?_,?_⟩))))
  ·rintro m d ρ2 es2 hd2 ⟨⟨v,rfl⟩,rfl⟩;obtain⟨hm,rfl⟩:=vY hd2;have hm':m<Mt.length:=by have:m<((Mt.length:Int)).toNat:=hm;omega
   refine zg (jf ?_);rw [Mw rfl];refine yn (by rw [HA,lR,Hc,HY];omega) ?_;walk_at "w";rw [Kh,HH,Jg];rfl
  ·rintro ρ2 es2 ⟨⟨v,rfl⟩,rfl⟩;rw [vZ,Km];exact⟨⟨_,_,rfl⟩,by rw [gP]⟩
 ·rintro ρ' es ⟨_,rfl⟩;rw [vZ,Km]
noncomputable def F2:MB->M9
 | .tuple [.int x,.int y]=>[vF x y 0,vF x y 1]
 | _=>[]
noncomputable def gD3 (g:Int×Int×Int):MB:=vF g.1 g.2.1 g.2.2
noncomputable def opG (Mt:Nb) (wd:Nat) (MK:Int) (g:Int×Int×Int):Bool:=yT Mt wd MK g.1 g.2.1 g.2.2
noncomputable def y8 (t n:Nat):Nm:=(HN n).flatMap λ(x:Nat)=>(HN t).flatMap λ(y:Nat)=>[((x:Int),(y:Int),(0:Int)),((x:Int),(y:Int),(1:Int))]
theorem oh (t n:Nat):(qG t n).flatMap F2=(y8 t n).map gD3:=by
 unfold qG y8;rw [List.flatMap_assoc,LI]
 congr 1
 funext x
 rw [List.flatMap_map,LI];rfl
theorem CT {t n:Nat} {d:MB} (h:d∈qG t n):∃ x y:Nat,d=AR x y:=by
 obtain⟨x,_,h⟩:=Ig.mp h;obtain⟨y,_,rfl⟩:=Hz.mp h;exact⟨x,y,rfl⟩
theorem gQ {α:Type} {F:Nat->List α} {b:Nat} (h:∀ n,(F n).length<=b):∀ n,((HN n).flatMap F).length<=b * n
 | 0=>by simp
 | n+1=>by
  rw [Kh,Jn,HA];have:=gQ h n;have:=h n;simp only [JW,List.flatMap_nil,IX];rw [Mr];omega
theorem iV {t n:Nat} (ht:t<=7) (hn:n<=7):(y8 t n).length<=98:=by
 have h:=gQ (F:=λ(x:Nat)=>(HN t).flatMap λ(y:Nat)=>[((x:Int),(y:Int),(0:Int)),((x:Int),(y:Int),(1:Int))]) (b:=2 * t) (λx=>gQ (F:=λ(y:Nat)=>[((x:Int),(y:Int),(0:Int)),((x:Int),(y:Int),(1:Int))]) (b:=2) (λy=>Ht 2) t) n;exact HM h (JC (show 2 * t<=14 by omega) hn)
noncomputable def Fs (Mt:Nb) (wd:Nat) (MK:Int) (x y:Nat):Nm:=(if yT Mt wd MK x y 0=MC then [((x:Int),(y:Int),(0:Int))] else [])++if yT Mt wd MK x y 1=MC then [((x:Int),(y:Int),(1:Int))] else []
noncomputable def yC (Mt:Nb) (wd:Nat) (MK:Int):Nm:=(HN wd).flatMap λx=>(HN Mt.length).flatMap λy=>Fs Mt wd MK x y
theorem wV {α:Type} {F:Nat->List α} (n:Nat):(HN (n+1)).flatMap F=(HN n).flatMap F++F n:=by
 rw [Kh,Jn];simp
theorem CU (Mt:Nb) (wd:Nat) (MK:Int) (x y:Nat):Fs Mt wd MK x y=[((x:Int),(y:Int),(0:Int)),((x:Int),(y:Int),(1:Int))].filter (opG Mt wd MK):=by
 unfold Fs opG;simp only [Ip,L4];cases yT Mt wd MK x y 0 <;> cases yT Mt wd MK x y 1 <;> rfl
theorem bo (Mt:Nb) (wd:Nat) (MK:Int):yC Mt wd MK=(y8 Mt.length wd).filter (opG Mt wd MK):=by
 unfold yC y8;rw [Mo]
 congr 1
 funext x
 rw [Mo]
 congr 1
 funext y
 exact CU Mt wd MK x y
def gLt (a b:Int×Int×Int):Prop:=a.1<b.1 \/ (a.1=b.1/\(a.2.1<b.2.1 \/ (a.2.1=b.2.1/\a.2.2<b.2.2)))
theorem lS {α:Type} {R:α->α->Prop} {F:Nat->List α} (n:Nat) (h1:∀ i,i<n->(F i).Pairwise R) (h2:∀ i j,i<j->j<n->∀ a∈F i,∀ b∈F j,R a b):((HN n).flatMap F).Pairwise R:=by
 induction n with
 | zero=>simp
 | succ n ih =>
  rw [wV,K8];refine⟨ih (λi hi=>h1 i (by omega)) (λi j hij hj=>h2 i j hij (by omega)),h1 n (by omega),λa ha b hb=>?_⟩;obtain⟨i,hi,ha⟩:=Ig.mp ha;exact h2 i n (Ia.mp hi) (by omega) a ha b hb
theorem oj (t n:Nat):(y8 t n).Pairwise gLt:=by
 unfold y8;refine lS n (λx _=>lS t (λy _=>?_) λy y' hy _ a ha b hb=>?_) λx x' hx _ a ha b hb=>?_
 ·simp [gLt]
 ·simp only [Hv,IB,or_false] at ha hb;rcases ha with rfl | rfl <;> rcases hb with rfl | rfl <;> (unfold gLt;dsimp only;omega)
 ·obtain⟨y,_,ha⟩:=Ig.mp ha;obtain⟨y',_,hb⟩:=Ig.mp hb;simp only [Hv,IB,or_false] at ha hb;rcases ha with rfl | rfl <;> rcases hb with rfl | rfl <;> (unfold gLt;dsimp only;omega)
theorem iW {Mt:Nb} {wd:Nat} {MK:Int} (g:Good wd Mt):(yC Mt wd MK).length<=98:=by
 rw [bo];exact HM (Ij _ _) (iV g.h2 g.w2)
abbrev tY (K:Hj):Sp:=spN K 2 (λ(c:Nb×Nat×Int) xs=>xs=[.dat (tab c.1),.dat (.int c.2.2)]/\Good c.2.1 c.1) λc es=>es=((y8 c.1.length c.2.1).filter (opG c.1 c.2.1 c.2.2)).map gD3
theorem AS (F:Def K mg "gates" fu pz) (uag:FnIn P w K mg base k "ask_table" pf (eP K)) (uaj:FnIn P w K mg base k "points" pf (v3 K)) (uax:FnIn P w K mg base k "is_open" ph (lQ K)):FnIn P w K mg base (k+1) "gates" pz (tY K):=by
 refine F.okN nT rfl λfa cdv A outer s H E hr=>⟨_,(zc (yE (zf uag hr rfl (za (pv 0) zb))) (zc (mO (i:=2) (N:=qd) (own:=3) (fr:=[]) (by walk_at "c") rfl nT.nd rfl (MM rfl) (zF (K:=K) rfl (zf uaj hr rfl (za (pv 0) zb))) (λ_ _ _ _=>(zC (K:=K) (n:=2) rfl rfl (ze (zd (i:=0) (show (qd:MU).Nodup by decide +kernel) rfl (MM rfl) (MN rfl)) (ze (zd (i:=1) (show (qd:MU).Nodup by decide +kernel) rfl (MM rfl) (MN rfl)) zx)))) (λ_ _ _ _=>z8) (λ_ _ _ _=>(vm (K:=K) rfl (zE (za zk (za zk zb))))) (λ_ _ _ _=>(zd (i:=2) (show (qd:MU).Nodup by decide +kernel) rfl (MM rfl) (MN rfl))) (λ_ _ _ _=>z8) (λ_ _ _ _=>(zE (za (pv 0) (za (pv 1) (za (pv 2) zb))))) rfl rfl (λ_=>rfl) (λ_ _ _ _ _=>rfl) (MM rfl) rfl) (zj (zv (z6 (N:=pJ) (own:=1) (fr:=[0,1]) (by walk_at "c") rfl (zF (K:=K) rfl (pv 2)) (λ_ _ _ _=>(zd (i:=0) (show (pJ:MU).Nodup by decide +kernel) rfl (MM rfl) (MN rfl))) (λ_ _ _ _=>(jj (ya (K:=K) rfl (zf uax hr rfl (za (pv 1) (za (pv 2) (za (pv 0) zb)))) (λ_=>rfl)))) (λ_ _ _ _=>(pv 0)) rfl rfl (λ_=>rfl)))))),?_⟩;rintro f xs ⟨Mt,wd,MK⟩ hl ⟨rfl,g⟩
 try dsimp only [yd,zm]
 dsimp only at *;have sl:=iV g.h2 g.w2;refine qY (aU (zt (Mt,wd) ?_));walk_at "w";rintro _ rfl;refine qY (yb (PEdO.ped (EJ (yf (zt (Mt,wd) ?_)))));walk_at "w";rintro _ rfl;refine⟨_,rfl,F2,by rw [oh,Hc];exact HM sl (by decide),?_,?_⟩
 ·rintro D d ρ' es hd ho hes;obtain⟨x,y,rfl⟩:=CT hd;obtain⟨u1,u2,u3,rfl⟩:=ho.three;refine yg rfl (zo (zg (zo (zg (zP (jf ?_))))));rw [Mw rfl];have hes':es.length+2<=1000:=hes;refine B4 (eE (jI (zq (yp (zq (yp (zL ⟨_,rfl,by simp,_,rfl,λm ρ es2=>(∃ v,ρ=[MA (.dat (.int x)),MA (.dat (.int y)),v])/\es2=es++[vF x y 0,vF x y 1].take m,⟨⟨_,rfl⟩,by simp⟩,?_,?_⟩)))))))
  ·rintro m d ρ2 es2 hd2 ⟨⟨v,rfl⟩,rfl⟩;have hm:(m=0/\d=.int 0) \/ (m=1/\d=.int 1):=by
    rcases m with _ | _ | q
    ·cases hd2;exact .inl ⟨rfl,rfl⟩
    ·cases hd2;exact .inr ⟨rfl,rfl⟩
    ·cases hd2
   rcases hm with⟨rfl,rfl⟩ | ⟨rfl,rfl⟩
   ·refine zg (jf ?_);rw [Mw rfl];refine yn (by simp;omega) ?_;walk_at "w";simp;rfl
   ·refine zg (jf ?_);rw [Mw rfl];refine yn (by simp;omega) ?_;walk_at "w";simp;rfl
  ·rintro ρ2 es2 ⟨⟨v,rfl⟩,rfl⟩;exact⟨⟨[_,_,_],rfl,rfl⟩,rfl⟩
 ·rw [show List.flatMap F2 (qG (Mt,wd).1.length (Mt,wd).2)=(y8 Mt.length wd).map gD3 from oh _ _];refine zg (eF (qX (yf (zi rfl ⟨_,rfl,λn ρ es=>(∃ u,ρ=[u,MA (.dat (tab Mt)),MA (.dat (.int MK))])/\es=(((y8 Mt.length wd).take n).filter (opG Mt wd MK)).map gD3,⟨⟨_,rfl⟩,rfl⟩,?_,?_⟩))))
  ·rintro D n d ρ' es hd ⟨⟨u,rfl⟩,rfl⟩;rw [Ho] at hd;cases hq:(y8 Mt.length wd)[n]? with
   | none=>rw [hq] at hd;cases hd
   | some q =>
    rw [hq] at hd;cases hd;have tk:(y8 Mt.length wd).take (n+1)=(y8 Mt.length wd).take n++[q]:=by
     rw [K0,hq];rfl
    have len:((((y8 Mt.length wd).take n).filter (opG Mt wd MK)).map gD3).length<1000:=by
     rw [Hc];have a1:=Ij (opG Mt wd MK) ((y8 Mt.length wd).take n);rw [Im] at a1;omega
    refine zg (yY (zt (Mt,wd,MK,q.1,q.2.1,q.2.2) ?_));unfold gD3 at *;walk_at "w";rintro _ rfl;dsimp only;refine⟨_,rfl,?_⟩;refine yr (λh=>?_) λh=>?_
    ·refine yn len ?_;walk_at "w";rw [tk,IM,HH,Ip,show opG Mt wd MK q=MC from h,Mw rfl];rfl
    ·refine⟨⟨_,rfl⟩,?_⟩;rw [tk,IM,HH,Ip,show opG Mt wd MK q=MG from h,Mv He];simp
  ·rintro ρ' es ⟨_,rfl⟩;rw [Hc,Ic]
abbrev CC:=Nb×Nat×Int×Int×Int
noncomputable def zS (Mt:Nb) (wd:Nat) (x y:Int):Bool:=z7 Mt wd x y && z7 Mt wd (x+1) (y+1)
noncomputable def hiB (Mt:Nb) (MK x y:Int):Bool:=decide (MK<yc Mt x y)
theorem cell_in {Mt:Nb} {wd:Nat} {x y:Int} (h:zS Mt wd x y=MC):z7 Mt wd x y=MC/\z7 Mt wd (x+1) y=MC/\z7 Mt wd (x+1) (y+1)=MC/\z7 Mt wd x (y+1)=MC:=by
 unfold zS at h;rw [Hq] at h;obtain⟨a0,a1,a2,a3⟩:=bj h.1;obtain⟨b0,b1,b2,b3⟩:=bj h.2;refine⟨h.1,?_,h.2,?_⟩ <;> unfold z7 <;> rw [Mx (by omega),Mx (by omega)] <;> rfl
section
variable {Mt:Nb} {wd:Nat} {MK x y:Int}
theorem dm (h:zS Mt wd x y=MC):yT Mt wd MK x y 0=(hiB Mt MK x y != hiB Mt MK (x+1) y):=by
 obtain⟨a,b,c,d⟩:=cell_in h;unfold yT aF;show (decide ((0:Int)=0 \/ (0:Int)=1) && (z7 Mt wd x y && z7 Mt wd (x+1) y) && _)=_;rw [a,b];rfl
theorem gR (h:zS Mt wd x y=MC):yT Mt wd MK x y 1=(hiB Mt MK x y != hiB Mt MK x (y+1)):=by
 obtain⟨a,b,c,d⟩:=cell_in h;unfold yT aF;show (decide ((1:Int)=0 \/ (1:Int)=1) && (z7 Mt wd x y && z7 Mt wd x (y+1)) && _)=_;rw [a,d];rfl
theorem dq (h:zS Mt wd x y=MC):yT Mt wd MK x (y+1) 0=(hiB Mt MK x (y+1) != hiB Mt MK (x+1) (y+1)):=by
 obtain⟨a,b,c,d⟩:=cell_in h;unfold yT aF;show (decide ((0:Int)=0 \/ (0:Int)=1) && (z7 Mt wd x (y+1) && z7 Mt wd (x+1) (y+1)) && _)=_;rw [c,d];rfl
theorem dr (h:zS Mt wd x y=MC):yT Mt wd MK (x+1) y 1=(hiB Mt MK (x+1) y != hiB Mt MK (x+1) (y+1)):=by
 obtain⟨a,b,c,d⟩:=cell_in h;unfold yT aF;show (decide ((1:Int)=0 \/ (1:Int)=1) && (z7 Mt wd (x+1) y && z7 Mt wd (x+1) (y+1)) && _)=_;rw [b,c];rfl
end
noncomputable def cg (x y:Int):Nm:=[(x,y,0),(x,y,1),(x,y+1,0),(x+1,y,1)]
noncomputable def yX (Mt:Nb) (wd:Nat) (MK x y:Int):Bool:=(cg x y).all (opG Mt wd MK)
noncomputable def om (Mt:Nb) (x y:Int):Int:=yc Mt x y+(yc Mt (x+1) y+(yc Mt (x+1) (y+1)+(yc Mt x (y+1)+0)))
noncomputable def jV (Mt:Nb) (MK x y:Int):Bool:=decide (4 * MK+2<=om Mt x y)
noncomputable def pairD (g h:Int×Int×Int):MB:=.tuple [gD3 g,gD3 h]
abbrev lU (K:Hj):Sp:=spD K 3 (λ(c:Nb×Nat×Int×Int) xs=>xs=[.dat (tab c.1),.dat (.int c.2.2.1),.dat (.int c.2.2.2)]/\Good c.2.1 c.1) λc r=>r=.bool (zS c.1 c.2.1 c.2.2.1 c.2.2.2)
theorem CV (F:Def K mg "has_cell" ar pj) (ual:FnIn P w K mg base k "has_point" pj (tW K)):FnIn P w K mg base (k+1) "has_cell" pj (lU K):=by
 refine F.ok nR rfl λfa cdv A outer s H E hr=>⟨_,(zj (zv (fK (zf ual hr rfl (za (pv 0) (za (pv 1) (za (pv 2) zb)))) (kn (zf ual hr rfl (za (pv 0) (za (zB yh (pv 1) zk) (za (zB yh (pv 2) zk) zb)))))))),?_⟩;rintro f xs ⟨Mt,wd,x,y⟩ hl ⟨rfl,g⟩
 try dsimp only [yd,zm]
 dsimp only at *;refine yA (o4 (zt (Mt,wd,x,y) ?_));walk_at "w";rintro _ rfl;dsimp only;refine⟨_,rfl,?_⟩;refine yr (λh=>?_) λh=>?_
 ·refine zt (Mt,wd,x+1,y+1) ?_;walk_at "w";rintro _ rfl;dsimp only;unfold zS;rw [h,Kj]
 ·unfold zS;rw [h,Ko]
abbrev bO (K:Hj):Sp:=spD K 2 (λ(c:Int×Int) xs=>xs=[.dat (.int c.1),.dat (.int c.2)]) λc r=>r=.list [.tuple [.int c.1,.int c.2],.tuple [.int (c.1+1),.int c.2],.tuple [.int (c.1+1),.int (c.2+1)],.tuple [.int c.1,.int (c.2+1)]]
theorem rZ (F:Def K mg "corners" bG pI):FnIn P w K mg base (k+1) "corners" pI (bO K):=by
 refine F.ok rO rfl λfa cdv A outer s H E hr=>⟨_,(zj (zv (yw (za (zE (za (pv 0) (za (pv 1) zb))) (za (zE (za (zB yh (pv 0) zk) (za (pv 1) zb))) (za (zE (za (zB yh (pv 0) zk) (za (zB yh (pv 1) zk) zb))) (za (zE (za (pv 0) (za (zB yh (pv 1) zk) zb))) zb))))))),?_⟩;rintro f xs ⟨x,y⟩ hl rfl
 try dsimp only [yd,zm]
 dsimp only at *;walk_at "w";rfl
abbrev dt (K:Hj):Sp:=spD K 1 (λ(c:Int×Int) xs=>xs=[.dat (.tuple [.int c.1,.int c.2])]) λc r=>r=.list ((cg c.1 c.2).map gD3)
theorem wW (F:Def K mg "cell_gates" qK ["cell"]):FnIn P w K mg base (k+1) "cell_gates" ["cell"] (dt K):=by
 refine F.ok vM rfl λfa cdv A outer s H E hr=>⟨_,(zc (z9 (pv 0) (zC (K:=K) (n:=2) rfl rfl (ze (zd (i:=1) vM.nd rfl (MM rfl) (MN rfl)) (ze (zd (i:=2) vM.nd rfl (MM rfl) (MN rfl)) zx)))) (zj (zv (yw (za (zE (za (pv 1) (za (pv 2) (za zk zb)))) (za (zE (za (pv 1) (za (pv 2) (za zk zb)))) (za (zE (za (pv 1) (za (zB yh (pv 2) zk) (za zk zb)))) (za (zE (za (zB yh (pv 1) zk) (za (pv 2) (za zk zb)))) zb)))))))),?_⟩;rintro f xs ⟨x,y⟩ hl rfl
 try dsimp only [yd,zm]
 dsimp only at *;walk_at "w";rfl
abbrev CW (c:CC) (xs:List DV):Prop:=xs=[.dat (tab c.1),.dat (.int c.2.2.1),.dat (.tuple [.int c.2.2.2.1,.int c.2.2.2.2])]/\Good c.2.1 c.1/\zS c.1 c.2.1 c.2.2.2.1 c.2.2.2.2=MC
abbrev d7 (K:Hj):Sp:=spD K 3 CW λc r=>r=.bool (yX c.1 c.2.1 c.2.2.1 c.2.2.2.1 c.2.2.2.2)
theorem r6 (F:Def K mg "is_crossed" qL pq) (uak:mg "all"=MF) (uax:FnIn P w K mg base k "is_open" ph (lQ K)) (uay:FnIn P w K mg base k "cell_gates" ["cell"] (dt K)):FnIn P w K mg base (k+1) "is_crossed" pq (d7 K):=by
 refine F.ok ib rfl λfa cdv A outer s H E hr=>⟨_,(zj (zv (zD (iG (K:=K) rfl rfl) rfl uak L5 (za (z6 (N:=pJ) (own:=1) (fr:=[0,1]) (by walk_at "c") rfl (zF (K:=K) rfl (zf uay hr rfl (za (pv 2) zb))) (λ_ _ _ _=>(zd (i:=0) (show (pJ:MU).Nodup by decide +kernel) rfl (MM rfl) (MN rfl))) (λ_ _ _ _=>z8) (λ_ _ _ _=>(zf uax hr rfl (za (pv 1) (za (pv 2) (za (pv 0) zb))))) rfl rfl (λ_=>rfl)) zb)))),?_⟩;rintro f xs ⟨Mt,wd,MK,x,y⟩ hl ⟨rfl,g,hc⟩
 try dsimp only [yd,zm]
 dsimp only at *;refine yA (DK (PEdO.ped (gh (A:=gD3) (B:=λq=>PyData.bool (opG Mt wd MK q)) (cg x y) (yf (zt (x,y) ?_)))));walk_at "w";rintro _ rfl;refine⟨_,rfl,rfl,show 4<=1000 by decide,?_,?_⟩
 ·rintro D q ρ' es hq ho hes;obtain⟨u,rfl⟩:=ho.one;refine zg (jf ?_);rw [Mw rfl];refine yn hes (zt (Mt,wd,MK,q.1,q.2.1,q.2.2) ?_);unfold gD3;walk_at "w";rintro _ rfl;exact⟨.mk1,rfl⟩
 ·refine⟨(cg x y).map (opG Mt wd MK),by rw [Iw];rfl,?_⟩;show PyData.bool _=PyData.bool _;unfold yX;rw [List.all_map];rfl
abbrev AU (K:Hj):Sp:=spD K 3 CW λc r=>r=.bool (jV c.1 c.2.2.1 c.2.2.2.1 c.2.2.2.2)
theorem Ft (F:Def K mg "has_high_middle" yZ pq) (uam:mg "sum"=MF) (uaz:FnIn P w K mg base k "corners" pI (bO K)):FnIn P w K mg base (k+1) "has_high_middle" pq (AU K):=by
 refine F.ok jn rfl λfa cdv A outer s H E hr=>⟨_,(zc (z9 (pv 2) (zC (K:=K) (n:=2) rfl rfl (ze (zd (i:=3) jn.nd rfl (MM rfl) (MN rfl)) (ze (zd (i:=4) jn.nd rfl (MM rfl) (MN rfl)) zx)))) (zj (zv (ah xw (zD (gm (K:=K) rfl rfl) rfl uam L6 (za (z6 (N:=pC) (own:=2) (fr:=[0]) (by walk_at "c") rfl (zF (K:=K) rfl (zf uaz hr rfl (za (pv 3) (za (pv 4) zb)))) (λ_ _ _ _=>(zC (K:=K) (n:=2) rfl rfl (ze (zd (i:=0) (show (pC:MU).Nodup by decide +kernel) rfl (MM rfl) (MN rfl)) (ze (zd (i:=1) (show (pC:MU).Nodup by decide +kernel) rfl (MM rfl) (MN rfl)) zx)))) (λ_ _ _ _=>z8) (λ_ _ _ _=>(zK (zH (K:=K) rfl) (zK (zH (K:=K) rfl) (pv 2) (pv 1) (λ_ _=>rfl)) (pv 0) (λ_ _=>rfl))) rfl rfl (λ_=>rfl)) zb)) (zB yh (zB aR zk (pv 1)) zk) (zX _))))),?_⟩;rintro f xs ⟨Mt,wd,MK,x,y⟩ hl ⟨rfl,g,hc⟩
 try dsimp only [yd,zm]
 dsimp only at *;obtain⟨i1,i2,i3,i4⟩:=cell_in hc;refine yq (yb (zi rfl (yg rfl (zo (zg (zo (zg (zP ?_))))))));refine yA (iC (DM (PEdO.ped (gh (A:=λp:Int×Int=>PyData.tuple [.int p.1,.int p.2]) (B:=λp:Int×Int=>PyData.int (yc Mt p.1 p.2)) [(x,y),(x+1,y),(x+1,y+1),(x,y+1)] (yf (zt (x,y) ?_))))));walk_at "w";rintro _ rfl;refine⟨_,rfl,rfl,show 4<=1000 by decide,?_,?_⟩
 ·rintro D p ρ' es hp ho hes;obtain⟨u,v,rfl⟩:=ho.two;have hi:z7 Mt wd p.1 p.2=MC:=by
   simp only [Hv,IB,or_false] at hp;rcases hp with rfl | rfl | rfl | rfl
   ·exact i1
   ·exact i2
   ·exact i3
   ·exact i4
  obtain⟨r,h1,h2⟩:=vX g hi;refine yg rfl (zo (zg (zo (zg (zP (jf ?_))))));rw [Mw rfl];refine yn hes ?_;unfold tab;walk_at "w";refine⟨_,h1,?_⟩;walk_at "w";refine⟨_,h2,?_⟩;exact⟨.mk2,rfl⟩
 ·refine⟨[yc Mt x y,yc Mt (x+1) y,yc Mt (x+1) (y+1),yc Mt x (y+1)],rfl,?_⟩;walk_at "w";rfl
noncomputable def lV (Mt:Nb) (MK x y:Int):M9:=if (hiB Mt MK x y == jV Mt MK x y)=MC then [pairD (x,y,0) (x+1,y,1),pairD (x,y,1) (x,y+1,0)] else [pairD (x,y,0) (x,y,1),pairD (x,y+1,0) (x+1,y,1)]
noncomputable def thr (Mt:Nb) (wd:Nat) (MK x y:Int):Nm:=(cg x y).filter (opG Mt wd MK)
noncomputable def AV:Nm->M9
 | a :: b :: _=>[pairD a b]
 | _=>[]
noncomputable def tZ (Mt:Nb) (wd:Nat) (MK x y:Int):M9:=if yX Mt wd MK x y=MC then lV Mt MK x y else AV (thr Mt wd MK x y)
theorem CY {Mt:Nb} {wd:Nat} {MK x y:Int} (h:zS Mt wd x y=MC):thr Mt wd MK x y=[] \/ ∃ a b r,thr Mt wd MK x y=a :: b :: r:=by
 have e1:opG Mt wd MK (x,y,0)=_:=dm (MK:=MK) h;have e2:opG Mt wd MK (x,y,1)=_:=gR (MK:=MK) h;have e3:opG Mt wd MK (x,y+1,0)=_:=dq (MK:=MK) h;have e4:opG Mt wd MK (x+1,y,1)=_:=dr (MK:=MK) h;unfold thr cg;simp only [Ip,e1,e2,e3,e4,L4];cases hiB Mt MK x y <;> cases hiB Mt MK (x+1) y <;> cases hiB Mt MK (x+1) (y+1) <;> cases hiB Mt MK x (y+1) <;> simp
abbrev oo (K:Hj):Sp:=spN K 3 CW λc es=>es=lV c.1 c.2.2.1 c.2.2.2.1 c.2.2.2.2
theorem wX (F:Def K mg "crossed_ties" jD pq) (uay:FnIn P w K mg base k "cell_gates" ["cell"] (dt K)) (uah:FnIn P w K mg base k "stands_high" pA (d6 K)) (uaI:FnIn P w K mg base k "has_high_middle" pq (AU K)):FnIn P w K mg base (k+1) "crossed_ties" pq (oo K):=by
 refine F.okN yS rfl λfa cdv A outer s H E hr=>⟨_,(zc (z9 (zf uay hr rfl (za (pv 2) zb)) (kE (K:=K) (n:=4) rfl rfl (ze (zd (i:=3) yS.nd rfl (MM rfl) (MN rfl)) (ze (zd (i:=4) yS.nd rfl (MM rfl) (MN rfl)) (ze (zd (i:=5) yS.nd rfl (MM rfl) (MN rfl)) (ze (zd (i:=6) yS.nd rfl (MM rfl) (MN rfl)) zx)))))) (zc (yF (zM (y7 (K:=K) rfl hr.units) (zf uah hr rfl (za (pv 0) (za (pv 1) (za (pv 2) zb)))) (zf uaI hr rfl (za (pv 0) (za (pv 1) (za (pv 2) zb)))) (zX _)) (zj (zv (yw (za (zE (za (pv 3) (za (pv 6) zb))) (za (zE (za (pv 4) (za (pv 5) zb))) zb))))) zV) (zj (zv (yw (za (zE (za (pv 3) (za (pv 4) zb))) (za (zE (za (pv 5) (za (pv 6) zb))) zb))))))),?_⟩;rintro f xs ⟨Mt,wd,MK,x,y⟩ hl ⟨rfl,g,hc⟩
 try dsimp only [yd,zm]
 dsimp only at *;have hi:=(cell_in hc).1;refine qY (yb (zt (x,y) ?_));walk_at "w";rintro _ rfl;refine sU rfl (zo (zg (zo (zg (zo (zg (zo (zg (zP ?_)))))))));refine xZ (yi (jH (zt (Mt,wd,MK,x,y) ?_)));walk_at "w";rintro _ rfl;refine zt (Mt,wd,MK,x,y) ?_;walk_at "w";rintro _ rfl;dsimp only;walk_at "w";rw [Mv He,oe];unfold lV;refine yr (λh=>?_) λh=>?_
 ·rw [Mw (show (hiB Mt MK x y == jV Mt MK x y)=MC from h)];refine bY ?_;walk_at "w";rfl
 ·rw [Mv (show ¬ (hiB Mt MK x y == jV Mt MK x y)=MC from by rw [show (hiB Mt MK x y == jV Mt MK x y)=MG from h];exact He)];refine eF (bY ?_);walk_at "w";rfl
abbrev t5 (K:Hj):Sp:=spN K 3 CW λc es=>es=tZ c.1 c.2.1 c.2.2.1 c.2.2.2.1 c.2.2.2.2
theorem AW (F:Def K mg "cell_ties" vw pq) (uaJ:FnIn P w K mg base k "is_crossed" pq (d7 K)) (ubl:FnIn P w K mg base k "crossed_ties" pq (oo K)) (uay:FnIn P w K mg base k "cell_gates" ["cell"] (dt K)) (uax:FnIn P w K mg base k "is_open" ph (lQ K)):FnIn P w K mg base (k+1) "cell_ties" pq (t5 K):=by
 refine F.okN dh rfl λfa cdv A outer s H E hr=>⟨_,(zc (yF (ya (K:=K) rfl (zf uaJ hr rfl (za (pv 0) (za (pv 1) (za (pv 2) zb)))) (λ_=>rfl)) (zj (zv (zf ubl hr rfl (za (pv 0) (za (pv 1) (za (pv 2) zb)))))) zV) (zc (y3 (i:=3) (N:=pJ) (own:=1) (fr:=[0,1]) (by walk_at "c") rfl dh.nd rfl (MM rfl) (zF (K:=K) rfl (zf uay hr rfl (za (pv 2) zb))) (λ_ _ _ _=>(zd (i:=0) (show (pJ:MU).Nodup by decide +kernel) rfl (MM rfl) (MN rfl))) (λ_ _ _ _=>(jj (ya (K:=K) rfl (zf uax hr rfl (za (pv 1) (za (pv 2) (za (pv 0) zb)))) (λ_=>rfl)))) (λ_ _ _ _=>(pv 0)) rfl rfl (λ_=>rfl) (MM rfl) rfl) (zj (zv (j7 (ya (K:=K) rfl (pv 3) (λ_=>rfl)) (yw (za (zE (za (zK (zH (K:=K) rfl) (pv 3) zk (λ_ _=>rfl)) (za (zK (zH (K:=K) rfl) (pv 3) zk (λ_ _=>rfl)) zb))) zb)) (yw zb)))))),?_⟩;rintro f xs ⟨Mt,wd,MK,x,y⟩ hl ⟨rfl,g,hc⟩
 try dsimp only [yd,zm]
 dsimp only at *;refine xZ (yY (zt (Mt,wd,MK,x,y) ?_));walk_at "w";rintro _ rfl;dsimp only;refine⟨_,rfl,?_⟩;unfold tZ;refine yr (λh=>?_) λh=>?_
 ·rw [Mw h];refine qZ (Mt,wd,MK,x,y) ?_;walk_at "w";exact λes he=>he
 ·rw [Mv (by rw [h];exact He)];refine qY (yb (PEdO.ped (qX (yf (zt (x,y) ?_)))));walk_at "w";rintro _ rfl;refine⟨_,rfl,λn ρ es=>(∃ u,ρ=[u,MA (.dat (tab Mt)),MA (.dat (.int MK))])/\es=(((cg x y).take n).filter (opG Mt wd MK)).map gD3,⟨⟨_,rfl⟩,rfl⟩,?_,?_⟩
  ·rintro D n d ρ' es hd ⟨⟨u,rfl⟩,rfl⟩;rw [Ho] at hd;cases hq:(cg x y)[n]? with
   | none=>rw [hq] at hd;cases hd
   | some q =>
    rw [hq] at hd;cases hd;have hn:n<(cg x y).length:=(Hg.mp hq).1;have n4:n<4:=hn;have tk:(cg x y).take (n+1)=(cg x y).take n++[q]:=by
     rw [K0,hq];rfl
    have len:((((cg x y).take n).filter (opG Mt wd MK)).map gD3).length<1000:=by
     rw [Hc];have a1:=Ij (opG Mt wd MK) ((cg x y).take n);rw [Im] at a1;omega
    refine zg (yY (zt (Mt,wd,MK,q.1,q.2.1,q.2.2) ?_));unfold gD3 at *;walk_at "w";rintro _ rfl;dsimp only;refine⟨_,rfl,?_⟩;refine yr (λh=>?_) λh=>?_
    ·refine yn len ?_;walk_at "w";rw [tk,IM,HH,Ip,show opG Mt wd MK q=MC from h,Mw rfl];rfl
    ·refine⟨⟨_,rfl⟩,?_⟩;rw [tk,IM,HH,Ip,show opG Mt wd MK q=MG from h,Mv He];simp
  ·rintro ρ' es ⟨_,rfl⟩;rw [Hc,Ic];rw [show List.filter (opG Mt wd MK) (cg (x,y).1 (x,y).2)=thr Mt wd MK x y from rfl];rcases CY (MK:=MK) hc with e | ⟨a,b,r,e⟩
   ·rw [e];refine zg (eF (DN (yY (zi rfl ⟨MG,rfl,?_⟩))));rw [Mv He];exact DJ rfl
   ·rw [e];have h0:atI ((a :: b :: r).map gD3) 0=MA (gD3 a):=vE (xs:=a :: b :: r) (j:=0) rfl (KS _);have h1:atI ((a :: b :: r).map gD3) 1=MA (gD3 b):=vE (xs:=a :: b :: r) (j:=1) rfl (Nat.succ_lt_succ (KS _));refine zg (eF (DN (yY (zi rfl ⟨MC,rfl,?_⟩))));rw [Mw rfl];refine bY ?_;walk_at "w";refine⟨_,h0,?_⟩;walk_at "w";refine⟨_,h1,?_⟩;walk_at "w";rfl
noncomputable def opF (A B C D:Bool) (i:Fin 4):Bool:=match i with
 | 0=>A != B
 | 1=>A != D
 | 2=>D != C
 | 3=>B != C
noncomputable def enF (A B C D:Bool) (i:Fin 4):Bool:=match i with
 | 0=>!A
 | 1=>A
 | 2=>D
 | 3=>!B
noncomputable def du (A B C D M:Bool):List (Fin 4×Fin 4) :=
 if (opF A B C D 0 && opF A B C D 1 && opF A B C D 2 && opF A B C D 3)=MC then (if (A == M)=MC then [(0,3),(1,2)] else [(0,1),(2,3)]) else
 match ([0,1,2,3]:List (Fin 4)).filter (opF A B C D) with
 | a :: b :: _=>[(a,b)]
 | _=>[]
noncomputable def prt {α:Type} [DecidableEq α] (l:List (α×α)) (g:α):Option α:=l.findSome? λp=>if p.1=g then MA p.2 else if p.2=g then MA p.1 else MF
theorem CZ:∀ (A B C D M:Bool) (i:Fin 4),opF A B C D i=MC->∃ j,prt (du A B C D M) i=MA j/\j≠i/\opF A B C D j=MC/\prt (du A B C D M) j=MA i/\enF A B C D j=!enF A B C D i:=by decide
theorem ot:∀ (A B C D M:Bool),du A B C D M=[] \/ (∃ a b,a≠b/\du A B C D M=[(a,b)]) \/ ∃ a b c d,a≠b/\a≠c/\a≠d/\b≠c/\b≠d/\c≠d/\du A B C D M=[(a,b),(c,d)]:=by decide
abbrev Gt:=Int×Int×Int
noncomputable def gt (x y:Int) (i:Fin 4):Gt:=match i with
 | 0=>(x,y,0)
 | 1=>(x,y,1)
 | 2=>(x,y+1,0)
 | 3=>(x+1,y,1)
theorem gS {x y:Int} {i j:Fin 4} (h:gt x y i=gt x y j):i=j:=by
 have h1:(gt x y i).1=(gt x y j).1:=by rw [h]
 have h2:(gt x y i).2.1=(gt x y j).2.1:=by rw [h]
 have h3:(gt x y i).2.2=(gt x y j).2.2:=by rw [h]
 revert h1 h2 h3
 clear h
 match i,j with
 | 0,0=>intros;rfl
 | 0,1=>intro _ _ h;simp [gt] at h
 | 0,2=>intro _ h _;simp [gt] at h;omega
 | 0,3=>intro _ _ h;simp [gt] at h
 | 1,0=>intro _ _ h;simp [gt] at h
 | 1,1=>intros;rfl
 | 1,2=>intro _ _ h;simp [gt] at h
 | 1,3=>intro h _ _;simp [gt] at h;omega
 | 2,0=>intro _ h _;simp [gt] at h;omega
 | 2,1=>intro _ _ h;simp [gt] at h
 | 2,2=>intros;rfl
 | 2,3=>intro _ _ h;simp [gt] at h
 | 3,0=>intro _ _ h;simp [gt] at h
 | 3,1=>intro h _ _;simp [gt] at h;omega
 | 3,2=>intro _ _ h;simp [gt] at h
 | 3,3=>intros;rfl
theorem lW {α β:Type} [DecidableEq α] [DecidableEq β] {f:α->β} (inj:∀ i j,f i=f j->i=j) (l:List (α×α)) (i:α):prt (l.map λp=>(f p.1,f p.2)) (f i)=(prt l i).map f:=by
 unfold prt
 induction l with
 | nil=>rfl
 | cons p l ih =>
  rw [HI,KC,KC];have e1:(f p.1=f i)↔p.1=i:=⟨inj _ _,λz=>by rw [z]⟩;have e2:(f p.2=f i)↔p.2=i:=⟨inj _ _,λz=>by rw [z]⟩;by_cases h1:p.1=i
  ·rw [Mw h1,Mw (e1.mpr h1)];rfl
  ·rw [Mv h1,Mv (λz=>h1 (e1.mp z))];by_cases h2:p.2=i
   ·rw [Mw h2,Mw (e2.mpr h2)];rfl
   ·rw [Mv h2,Mv (λz=>h2 (e2.mp z))];exact ih
section
variable (Mt:Nb) (wd:Nat) (MK:Int)
noncomputable def t4 (x y:Int):List (Fin 4×Fin 4):=du (hiB Mt MK x y) (hiB Mt MK (x+1) y) (hiB Mt MK (x+1) (y+1)) (hiB Mt MK x (y+1)) (jV Mt MK x y)
noncomputable def vO (x y:Int):List (Gt×Gt):=(t4 Mt MK x y).map λp=>(gt x y p.1,gt x y p.2)
noncomputable def vi (w:Int) (h:Bool):Int×Int:=if w=0 then (if h=MC then (0,-1) else (0,0)) else (if h=MC then (0,0) else (-1,0))
noncomputable def vj (w:Int) (h:Bool):Int×Int:=if w=0 then (if h=MC then (0,0) else (0,-1)) else (if h=MC then (-1,0) else (0,0))
noncomputable def ahC (g:Gt):Int×Int:=(g.1+(vi g.2.2 (hiB Mt MK g.1 g.2.1)).1,g.2.1+(vi g.2.2 (hiB Mt MK g.1 g.2.1)).2)
noncomputable def bhC (g:Gt):Int×Int:=(g.1+(vj g.2.2 (hiB Mt MK g.1 g.2.1)).1,g.2.1+(vj g.2.2 (hiB Mt MK g.1 g.2.1)).2)
noncomputable def yB (g:Gt):Option Gt:=if zS Mt wd (ahC Mt MK g).1 (ahC Mt MK g).2=MC then prt (vO Mt MK (ahC Mt MK g).1 (ahC Mt MK g).2) g else MF
noncomputable def jv (g:Gt):Option Gt:=if zS Mt wd (bhC Mt MK g).1 (bhC Mt MK g).2=MC then prt (vO Mt MK (bhC Mt MK g).1 (bhC Mt MK g).2) g else MF
end
section
variable {Mt:Nb} {wd:Nat} {MK x y:Int}
theorem d8 (h:zS Mt wd x y=MC) (i:Fin 4):opG Mt wd MK (gt x y i)=opF (hiB Mt MK x y) (hiB Mt MK (x+1) y) (hiB Mt MK (x+1) (y+1)) (hiB Mt MK x (y+1)) i:=by
 match i with
 | 0=>exact dm h
 | 1=>exact gR h
 | 2=>exact dq h
 | 3=>exact dr h
theorem t6 (i:Fin 4):(ahC Mt MK (gt x y i)=(x,y)↔enF (hiB Mt MK x y) (hiB Mt MK (x+1) y) (hiB Mt MK (x+1) (y+1)) (hiB Mt MK x (y+1)) i=MC)/\(bhC Mt MK (gt x y i)=(x,y)↔enF (hiB Mt MK x y) (hiB Mt MK (x+1) y) (hiB Mt MK (x+1) (y+1)) (hiB Mt MK x (y+1)) i=MG):=by
 unfold ahC bhC
 match i with
 | 0 =>
  show ((x+(vi 0 (hiB Mt MK x y)).1,y+(vi 0 (hiB Mt MK x y)).2)=(x,y)↔(!hiB Mt MK x y)=MC)/\((x+(vj 0 (hiB Mt MK x y)).1,y+(vj 0 (hiB Mt MK x y)).2)=(x,y)↔(!hiB Mt MK x y)=MG);cases hiB Mt MK x y <;> simp [vi,vj] <;> omega
 | 1 =>
  show ((x+(vi 1 (hiB Mt MK x y)).1,y+(vi 1 (hiB Mt MK x y)).2)=(x,y)↔hiB Mt MK x y=MC)/\((x+(vj 1 (hiB Mt MK x y)).1,y+(vj 1 (hiB Mt MK x y)).2)=(x,y)↔hiB Mt MK x y=MG);cases hiB Mt MK x y <;> simp [vi,vj] <;> omega
 | 2 =>
  show ((x+(vi 0 (hiB Mt MK x (y+1))).1,y+1+(vi 0 (hiB Mt MK x (y+1))).2)=(x,y)↔hiB Mt MK x (y+1)=MC)/\((x+(vj 0 (hiB Mt MK x (y+1))).1,y+1+(vj 0 (hiB Mt MK x (y+1))).2)=(x,y)↔hiB Mt MK x (y+1)=MG);cases hiB Mt MK x (y+1) <;> simp [vi,vj] <;> omega
 | 3 =>
  show ((x+1+(vi 1 (hiB Mt MK (x+1) y)).1,y+(vi 1 (hiB Mt MK (x+1) y)).2)=(x,y)↔(!hiB Mt MK (x+1) y)=MC)/\((x+1+(vj 1 (hiB Mt MK (x+1) y)).1,y+(vj 1 (hiB Mt MK (x+1) y)).2)=(x,y)↔(!hiB Mt MK (x+1) y)=MG);cases hiB Mt MK (x+1) y <;> simp [vi,vj] <;> omega
theorem t7 (h:zS Mt wd x y=MC) {i:Fin 4} (o:opG Mt wd MK (gt x y i)=MC):∃ j,prt (vO Mt MK x y) (gt x y i)=MA (gt x y j)/\j≠i/\opG Mt wd MK (gt x y j)=MC/\prt (vO Mt MK x y) (gt x y j)=MA (gt x y i) /\
  (ahC Mt MK (gt x y i)=(x,y)->bhC Mt MK (gt x y j)=(x,y))/\(bhC Mt MK (gt x y i)=(x,y)->ahC Mt MK (gt x y j)=(x,y)):=by
 rw [d8 h] at o;obtain⟨j,h1,h2,h3,h4,h5⟩:=CZ _ _ _ _ (jV Mt MK x y) i o;have inj:∀ i j,gt x y i=gt x y j->i=j:=λ_ _=>gS;refine⟨j,?_,h2,by rw [d8 h];exact h3,?_,λz=>?_,λz=>?_⟩
 ·unfold vO t4;rw [lW inj,h1];rfl
 ·unfold vO t4;rw [lW inj,h4];rfl
 ·rw [(t6 j).2,h5,(t6 i).1.mp z];rfl
 ·rw [(t6 j).1,h5,(t6 i).2.mp z];rfl
theorem ou (g:Gt) (hw:g.2.2=0 \/ g.2.2=1):∃ i,g=gt (ahC Mt MK g).1 (ahC Mt MK g).2 i:=by
 obtain⟨x,y,w⟩:=g;unfold ahC;dsimp only at hw ⊢;rcases hw with rfl | rfl
 ·cases hiB Mt MK x y
  ·exact⟨0,by simp [vi,gt]⟩
  ·exact⟨2,by simp [vi,gt];omega⟩
 ·cases hiB Mt MK x y
  ·exact⟨3,by simp [vi,gt];omega⟩
  ·exact⟨1,by simp [vi,gt]⟩
theorem wY (g:Gt) (hw:g.2.2=0 \/ g.2.2=1):∃ i,g=gt (bhC Mt MK g).1 (bhC Mt MK g).2 i:=by
 obtain⟨x,y,w⟩:=g;unfold bhC;dsimp only at hw ⊢;rcases hw with rfl | rfl
 ·cases hiB Mt MK x y
  ·exact⟨2,by simp [vj,gt];omega⟩
  ·exact⟨0,by simp [vj,gt]⟩
 ·cases hiB Mt MK x y
  ·exact⟨1,by simp [vj,gt]⟩
  ·exact⟨3,by simp [vj,gt];omega⟩
theorem cH {g:Gt} (o:opG Mt wd MK g=MC):g.2.2=0 \/ g.2.2=1:=by
 unfold opG yT aF at o;rw [Hq,Hq] at o;exact MO o.1.1
theorem bP {g:Gt} (o:opG Mt wd MK g=MC) (h:zS Mt wd (ahC Mt MK g).1 (ahC Mt MK g).2=MC):∃ n,yB Mt wd MK g=MA n/\n≠g/\opG Mt wd MK n=MC/\bhC Mt MK n=ahC Mt MK g/\jv Mt wd MK n=MA g:=by
 obtain⟨i,ei⟩:=ou (Mt:=Mt) (MK:=MK) g (cH o);have o':=o;rw [ei] at o';obtain⟨j,h1,h2,h3,h4,h5,_⟩:=t7 h o';rw [<-ei] at h1 h4 h5;have hb:=h5 rfl;refine⟨gt (ahC Mt MK g).1 (ahC Mt MK g).2 j,?_,λz=>h2 (gS (z.trans ei)),h3,hb,?_⟩
 ·unfold yB;rw [Mw h];exact h1
 ·unfold jv;rw [hb,Mw h];exact h4
theorem lX {g:Gt} (o:opG Mt wd MK g=MC) (h:zS Mt wd (bhC Mt MK g).1 (bhC Mt MK g).2=MC):∃ n,jv Mt wd MK g=MA n/\n≠g/\opG Mt wd MK n=MC/\ahC Mt MK n=bhC Mt MK g/\yB Mt wd MK n=MA g:=by
 obtain⟨i,ei⟩:=wY (Mt:=Mt) (MK:=MK) g (cH o);have o':=o;rw [ei] at o';obtain⟨j,h1,h2,h3,h4,_,h5⟩:=t7 h o';rw [<-ei] at h1 h4 h5;have hb:=h5 rfl;refine⟨gt (bhC Mt MK g).1 (bhC Mt MK g).2 j,?_,λz=>h2 (gS (z.trans ei)),h3,hb,?_⟩
 ·unfold jv;rw [Mw h];exact h1
 ·unfold yB;rw [hb,Mw h];exact h4
theorem gT {g g' n:Gt} (o:opG Mt wd MK g=MC) (o':opG Mt wd MK g'=MC) (h:yB Mt wd MK g=MA n) (h':yB Mt wd MK g'=MA n):g=g':=by
 have c:zS Mt wd (ahC Mt MK g).1 (ahC Mt MK g).2=MC:=by
  unfold yB at h;by_cases z:zS Mt wd (ahC Mt MK g).1 (ahC Mt MK g).2=MC
  ·exact z
  ·rw [Mv z] at h;cases h
 have c':zS Mt wd (ahC Mt MK g').1 (ahC Mt MK g').2=MC:=by
  unfold yB at h';by_cases z:zS Mt wd (ahC Mt MK g').1 (ahC Mt MK g').2=MC
  ·exact z
  ·rw [Mv z] at h';cases h'
 obtain⟨m,a1,_,_,_,a2⟩:=bP o c;obtain⟨m',b1,_,_,_,b2⟩:=bP o' c';rw [h] at a1;rw [h'] at b1;cases a1;cases b1;rw [a2] at b2;exact ML b2
theorem d9 {g n:Gt} (o:opG Mt wd MK g=MC) (h:yB Mt wd MK g=MA n):opG Mt wd MK n=MC/\n≠g:=by
 have c:zS Mt wd (ahC Mt MK g).1 (ahC Mt MK g).2=MC:=by
  unfold yB at h;by_cases z:zS Mt wd (ahC Mt MK g).1 (ahC Mt MK g).2=MC
  ·exact z
  ·rw [Mv z] at h;cases h
 obtain⟨m,a1,a2,a3,_,_⟩:=bP o c;rw [h] at a1;cases a1;exact⟨a3,a2⟩
end
abbrev r8 (K:Hj):Sp:=spD K 3 (λ(c:Nb×Nat×Int×Int×Int×Int) xs=>xs=[.dat (tab c.1),.dat (.int c.2.2.1),.dat (vF c.2.2.2.1 c.2.2.2.2.1 c.2.2.2.2.2)]/\Good c.2.1 c.1/\z7 c.1 c.2.1 c.2.2.2.1 c.2.2.2.2.1=MC) λc r=>r=.str (iU c.1 c.2.2.1 c.2.2.2.1 c.2.2.2.2.1 c.2.2.2.2.2)
theorem r9 (F:Def K mg "heading" bI ph) (uah:FnIn P w K mg base k "stands_high" pA (d6 K)):FnIn P w K mg base (k+1) "heading" ph (r8 K):=by
 refine F.ok vc rfl λfa cdv A outer s H E hr=>⟨_,(zc (z9 (pv 2) (zC (K:=K) (n:=3) rfl rfl (ze (zd (i:=3) vc.nd rfl (MM rfl) (MN rfl)) (ze (zd (i:=4) vc.nd rfl (MM rfl) (MN rfl)) (ze (zd (i:=5) vc.nd rfl (MM rfl) (MN rfl)) zx))))) (zc (zO (i:=6) vc.nd rfl (MM rfl) (zf uah hr rfl (za (pv 0) (za (pv 1) (za (zE (za (pv 3) (za (pv 4) zb))) zb))))) (zc (yF (zM (y7 (K:=K) rfl hr.units) (pv 5) zk (zX _)) (zj (zv (j7 (ya (K:=K) rfl (pv 6) (λ_=>rfl)) yW yW))) zV) (zj (zv (j7 (ya (K:=K) rfl (pv 6) (λ_=>rfl)) yW yW)))))),?_⟩;rintro f xs ⟨Mt,wd,MK,x,y,w⟩ hl ⟨rfl,g,hi⟩
 try dsimp only [yd,zm]
 dsimp only at *;unfold vF;refine yq (yb (zi rfl (yg rfl (zo (zg (zo (zg (zo (zg (zP ?_))))))))));refine yq (yb (zt (Mt,wd,MK,x,y) ?_));walk_at "w";rintro _ rfl;dsimp only;walk_at "w";rw [Mv He,fC];unfold iU;refine yr (λh=>?_) λh=>?_
 ·have h':=MO h;rw [Mw h'];walk_at "w";refine yr (λh2=>?_) λh2=>?_
  ·walk_at "w";rw [Mw (MO h2)]
  ·walk_at "w";rw [Mv (MP h2)]
 ·have h':=MP h;rw [Mv h'];walk_at "w";refine yr (λh2=>?_) λh2=>?_
  ·walk_at "w";rw [Mw (MO h2)]
  ·walk_at "w";rw [Mv (MP h2)]
noncomputable abbrev Fu:Nh:=[("down",[0,0]),("up",[0,-1]),("right",[0,0]),("left",[-1,0])]
noncomputable abbrev AX:Nh:=[("down",[0,-1]),("up",[0,0]),("right",[-1,0]),("left",[0,0])]
theorem Fv {Mt:Nb} {MK x y w:Int} (hw:w=0 \/ w=1):Mf (iU Mt MK x y w) Fu=MA [(vi w (hiB Mt MK x y)).1,(vi w (hiB Mt MK x y)).2]:=by
 unfold iU vi hiB;rcases hw with rfl | rfl
 ·by_cases h:MK<yc Mt x y
  ·rw [Mw rfl,Mw h,Mw rfl,Mx h,Mw rfl];decide +kernel
  ·rw [Mw rfl,Mv h,Mw rfl,Mz h,Mv He];decide +kernel
 ·have e:¬ ((1:Int)=0):=by decide
  by_cases h:MK<yc Mt x y
  ·rw [Mv e,Mw h,Mv e,Mx h,Mw rfl];decide +kernel
  ·rw [Mv e,Mv h,Mv e,Mz h,Mv He];decide +kernel
theorem Fw {Mt:Nb} {MK x y w:Int} (hw:w=0 \/ w=1):Mf (iU Mt MK x y w) AX=MA [(vj w (hiB Mt MK x y)).1,(vj w (hiB Mt MK x y)).2]:=by
 unfold iU vj hiB;rcases hw with rfl | rfl
 ·by_cases h:MK<yc Mt x y
  ·rw [Mw rfl,Mw h,Mw rfl,Mx h,Mw rfl];decide +kernel
  ·rw [Mw rfl,Mv h,Mw rfl,Mz h,Mv He];decide +kernel
 ·have e:¬ ((1:Int)=0):=by decide
  by_cases h:MK<yc Mt x y
  ·rw [Mv e,Mw h,Mv e,Mx h,Mw rfl];decide +kernel
  ·rw [Mv e,Mv h,Mv e,Mz h,Mv He];decide +kernel
theorem AY {Mt:Nb} {wd:Nat} {MK:Int} {g:Gt} (o:opG Mt wd MK g=MC):z7 Mt wd g.1 g.2.1=MC:=by
 unfold opG yT aF at o;rw [Hq,Hq,Hq] at o;exact o.1.2.1
abbrev GO:=Nb×Nat×Int×Gt
abbrev C0 (c:GO) (xs:List DV):Prop:=xs=[.dat (tab c.1),.dat (.int c.2.2.1),.dat (gD3 c.2.2.2)]/\Good c.2.1 c.1/\opG c.1 c.2.1 c.2.2.1 c.2.2.2=MC
abbrev ox (K:Hj):Sp:=spD K 3 C0 λc r=>r=.tuple [.int (ahC c.1 c.2.2.1 c.2.2.2).1,.int (ahC c.1 c.2.2.1 c.2.2.2).2]
theorem wZ {uaA:Hm} (F:Def K mg "cell_ahead" qM ph) (uaK:mg "AHEAD"=MA (.ref uaA)) (uaB:wo K uaA Fu=MC) (uaL:FnIn P w K mg base k "heading" ph (r8 K)):FnIn P w K mg base (k+1) "cell_ahead" ph (ox K):=by
 refine F.ok vN rfl λfa cdv A outer s H E hr=>⟨_,(zc (z9 (Au (K:=K) rfl rfl uaK uaB (zf uaL hr rfl (za (pv 0) (za (pv 1) (za (pv 2) zb)))) (λ_ _=>rfl)) (zC (K:=K) (n:=2) rfl rfl (ze (zd (i:=3) vN.nd rfl (MM rfl) (MN rfl)) (ze (zd (i:=4) vN.nd rfl (MM rfl) (MN rfl)) zx)))) (zj (zv (zE (za (zB yh (zK (yG (K:=K) rfl) (pv 2) zk (λ_ _=>rfl)) (pv 3)) (za (zB yh (zK (yG (K:=K) rfl) (pv 2) zk (λ_ _=>rfl)) (pv 4)) zb)))))),?_⟩;rintro f xs ⟨Mt,wd,MK,x,y,w⟩ hl ⟨rfl,g,o⟩
 try dsimp only [yd,zm]
 dsimp only at *;have hw:=cH o;have hin:=AY o;refine yq (yb (DQ (zt (Mt,wd,MK,x,y,w) ?_)));unfold gD3 at *;walk_at "w";rintro _ rfl;refine⟨_,_,rfl,Fv hw,?_⟩;refine yg rfl (zo (zg (zo (zg (zP ?_)))));walk_at "w";rfl
abbrev t8 (K:Hj):Sp:=spD K 3 C0 λc r=>r=.bool (!zS c.1 c.2.1 (bhC c.1 c.2.2.1 c.2.2.2).1 (bhC c.1 c.2.2.1 c.2.2.2).2)
theorem AZ {uaC:Hm} (F:Def K mg "comes_in" ax ph) (uaM:mg "BEHIND"=MA (.ref uaC)) (uaD:wo K uaC AX=MC) (uaL:FnIn P w K mg base k "heading" ph (r8 K)) (uaE:FnIn P w K mg base k "has_cell" pj (lU K)):FnIn P w K mg base (k+1) "comes_in" ph (t8 K):=by
 refine F.ok bg rfl λfa cdv A outer s H E hr=>⟨_,(zc (z9 (Au (K:=K) rfl rfl uaM uaD (zf uaL hr rfl (za (pv 0) (za (pv 1) (za (pv 2) zb)))) (λ_ _=>rfl)) (zC (K:=K) (n:=2) rfl rfl (ze (zd (i:=3) bg.nd rfl (MM rfl) (MN rfl)) (ze (zd (i:=4) bg.nd rfl (MM rfl) (MN rfl)) zx)))) (zj (zv (Eg (zf uaE hr rfl (za (pv 0) (za (zB yh (zK (yG (K:=K) rfl) (pv 2) zk (λ_ _=>rfl)) (pv 3)) (za (zB yh (zK (yG (K:=K) rfl) (pv 2) zk (λ_ _=>rfl)) (pv 4)) zb)))))))),?_⟩;rintro f xs ⟨Mt,wd,MK,x,y,w⟩ hl ⟨rfl,g,o⟩
 try dsimp only [yd,zm]
 dsimp only at *;have hw:=cH o;have hin:=AY o;refine yq (yb (DQ (zt (Mt,wd,MK,x,y,w) ?_)));unfold gD3 at *;walk_at "w";rintro _ rfl;refine⟨_,_,rfl,Fw hw,?_⟩;refine yg rfl (zo (zg (zo (zg (zP ?_)))));walk_at "w";refine zt (Mt,wd,(bhC Mt MK (x,y,w)).1,(bhC Mt MK (x,y,w)).2) ?_;walk_at "w";rintro _ rfl;exact⟨_,rfl,rfl⟩
noncomputable def b9:List (Gt×Gt)->Nf->Nf
 | [],kvs=>kvs
 | p :: l,kvs=>b9 l (dput (gD3 p.2) (gD3 p.1) (dput (gD3 p.1) (gD3 p.2) kvs))
theorem sd (l:List (Gt×Gt)) (p:Gt×Gt):∀ kvs,b9 (l++[p]) kvs=dput (gD3 p.2) (gD3 p.1) (dput (gD3 p.1) (gD3 p.2) (b9 l kvs)):=by
 induction l with
 | nil=>intro kvs;rfl
 | cons q l ih=>intro kvs;exact ih _
theorem dv (a b:MB) (kvs:Nf):(dput a b kvs).length<=kvs.length+1:=by
 unfold dput;split
 ·rw [Hc];omega
 ·rw [HA];exact Ht _
theorem w4 (l:List (Gt×Gt)):∀ kvs,(b9 l kvs).length<=kvs.length+2 * l.length:=by
 induction l with
 | nil=>intro kvs;exact Ht _
 | cons q l ih =>
  intro kvs;have h1:=ih (dput (gD3 q.2) (gD3 q.1) (dput (gD3 q.1) (gD3 q.2) kvs));have h2:=dv (gD3 q.2) (gD3 q.1) (dput (gD3 q.1) (gD3 q.2) kvs);have h3:=dv (gD3 q.1) (gD3 q.2) kvs;show (b9 l _).length<=_;rw [HK];omega
theorem lY {a b:Gt} (h:gD3 a=gD3 b):a=b:=by
 obtain⟨x,y,w⟩:=a;obtain⟨x',y',w'⟩:=b;unfold gD3 vF at h;simp at h;simp [h]
theorem A0 {Mt:Nb} {wd:Nat} {MK x y:Int} (h:zS Mt wd x y=MC):tZ Mt wd MK x y=(vO Mt MK x y).map λp=>pairD p.1 p.2:=by
 have e0:opG Mt wd MK (x,y,0)=_:=d8 (MK:=MK) h 0;have e1:opG Mt wd MK (x,y,1)=_:=d8 (MK:=MK) h 1;have e2:opG Mt wd MK (x,y+1,0)=_:=d8 (MK:=MK) h 2;have e3:opG Mt wd MK (x+1,y,1)=_:=d8 (MK:=MK) h 3;unfold tZ vO t4 yX lV thr cg du;simp only [KG,LU,Ip,L4,e0,e1,e2,e3,KJ];generalize jV Mt MK x y=M;generalize hiB Mt MK x y=A;generalize hiB Mt MK (x+1) y=B;generalize hiB Mt MK (x+1) (y+1)=C;generalize hiB Mt MK x (y+1)=D;cases A <;> cases B <;> cases C <;> cases D <;> cases M <;> rfl
theorem A1 {Mt:Nb} {MK x y:Int} {g n:Gt} (h:prt (vO Mt MK x y) g=MA n):jG (gD3 g) (b9 (vO Mt MK x y) [])=MA (gD3 n):=by
 have key:∀ a b:Gt,a≠b->gD3 a≠gD3 b:=λa b ne z=>ne (lY z);have inj:∀ i j:Fin 4,i≠j->gt x y i≠gt x y j:=λi j ne z=>ne (gS z);unfold vO t4 at h ⊢;rcases ot (hiB Mt MK x y) (hiB Mt MK (x+1) y) (hiB Mt MK (x+1) (y+1)) (hiB Mt MK x (y+1)) (jV Mt MK x y) with e | ⟨a,b,n1,e⟩ | ⟨a,b,c,d,n1,n2,n3,n4,n5,n6,e⟩
 ·rw [e] at h;cases h
 ·rw [e] at h ⊢;have k1:=key _ _ (inj a b n1);have k1':=Jc k1;simp only [HI,Kt,b9] at h ⊢;unfold prt at h;simp only [KC,List.findSome?_nil] at h;by_cases c1:gt x y a=g
  ·rw [Mw c1] at h;cases h;simp [dput,jG,k1,k1',<- c1]
  ·rw [Mv c1] at h;by_cases c2:gt x y b=g
   ·rw [Mw c2] at h;cases h;simp [dput,jG,k1,k1',<- c2]
   ·rw [Mv c2] at h;cases h
 ·rw [e] at h ⊢;have k1:=key _ _ (inj a b n1);have k2:=key _ _ (inj a c n2);have k3:=key _ _ (inj a d n3);have k4:=key _ _ (inj b c n4);have k5:=key _ _ (inj b d n5);have k6:=key _ _ (inj c d n6);have j1:=Jc k1;have j2:=Jc k2;have j3:=Jc k3;have j4:=Jc k4;have j5:=Jc k5;have j6:=Jc k6;simp only [HI,Kt,b9] at h ⊢;unfold prt at h;simp only [KC,List.findSome?_nil] at h;by_cases c1:gt x y a=g
  ·rw [Mw c1] at h;cases h;simp [dput,jG,k1,k2,k3,k4,k5,k6,j1,j2,j3,j4,j5,j6,<- c1]
  ·rw [Mv c1] at h;by_cases c2:gt x y b=g
   ·rw [Mw c2] at h;cases h;simp [dput,jG,k1,k2,k3,k4,k5,k6,j1,j2,j3,j4,j5,j6,<- c2]
   ·rw [Mv c2] at h;by_cases c3:gt x y c=g
    ·rw [Mw c3] at h;cases h;simp [dput,jG,k1,k2,k3,k4,k5,k6,j1,j2,j3,j4,j5,j6,<- c3]
    ·rw [Mv c3] at h;by_cases c4:gt x y d=g
     ·rw [Mw c4] at h;cases h;simp [dput,jG,k1,k2,k3,k4,k5,k6,j1,j2,j3,j4,j5,j6,<- c4]
     ·rw [Mv c4] at h;cases h
noncomputable def lZ:Option Gt->MB
 | none=>.none
 | some g=>gD3 g
abbrev A2 (K:Hj):Sp:=spD K 3 C0 λc r=>r=lZ (yB c.1 c.2.1 c.2.2.1 c.2.2.2)
theorem bp (g:Gt):eX (gD3 g):=⟨⟨rfl,HB rfl⟩,_,rfl⟩
theorem C1 (F:Def K mg "gate_ahead" qN ph) (ubm:FnIn P w K mg base k "cell_ahead" ph (ox K)) (uaE:FnIn P w K mg base k "has_cell" pj (lU K)) (ubn:FnIn P w K mg base k "cell_ties" pq (t5 K)) :
  FnIn P w K mg base (k+1) "gate_ahead" ph (A2 K):=by
 refine F.ok yU rfl λfa cdv A outer s H E hr=>⟨_,(zc (z9 (zf ubm hr rfl (za (pv 0) (za (pv 1) (za (pv 2) zb)))) (zC (K:=K) (n:=2) rfl rfl (ze (zd (i:=3) yU.nd rfl (MM rfl) (MN rfl)) (ze (zd (i:=4) yU.nd rfl (MM rfl) (MN rfl)) zx)))) (zc (yF (vH (ya (K:=K) rfl (zf uaE hr rfl (za (pv 0) (za (pv 3) (za (pv 4) zb)))) (λ_=>rfl))) (zj (zv fJ)) zV) (zc (zO (i:=5) yU.nd rfl (MM rfl) (dW (w:=w) rfl)) (zc (yL Ie rfl (zF (K:=K) rfl (zf ubn hr rfl (za (pv 0) (za (pv 1) (za (zE (za (pv 3) (za (pv 4) zb))) zb))))) (zC (K:=K) (n:=2) rfl rfl (ze (zd (i:=6) yU.nd rfl (MM rfl) (MN rfl)) (ze (zd (i:=7) yU.nd rfl (MM rfl) (MN rfl)) zx))) (zc (z9 (pv 7) (aQ (pv 5) (pv 6) (bf (w:=w) (K:=K) rfl rfl hr.units))) (zj (z9 (pv 6) (aQ (pv 5) (pv 7) (bf (w:=w) (K:=K) rfl rfl hr.units)))))) (zj (zv (zK (qI (w:=w) (K:=K) rfl rfl hr.units) (pv 5) (pv 2) (λ_ _=>rfl)))))))),?_⟩;rintro f xs ⟨Mt,wd,MK,g⟩ hl ⟨rfl,gd,o⟩
 try dsimp only [yd,zm]
 dsimp only at *;refine yq (yb (zt (Mt,wd,MK,g) ?_));walk_at "w";rintro _ rfl;dsimp only;refine yg rfl (zo (zg (zo (zg (zP ?_)))));refine yq (fY (cQ (yY (zt (Mt,wd,(ahC Mt MK g).1,(ahC Mt MK g).2) ?_))));walk_at "w";rintro _ rfl;refine⟨_,rfl,?_⟩;dsimp only;refine yr (λh=>?_) λh=>?_
 ·have hc:zS Mt wd (ahC Mt MK g).1 (ahC Mt MK g).2=MG:=by simpa using h
  walk_at "w";unfold yB;rw [hc,Mv He];rfl
 ·have hc:zS Mt wd (ahC Mt MK g).1 (ahC Mt MK g).2=MC:=by simpa using h
  obtain⟨n,hn,_⟩:=bP o hc;have hp:prt (vO Mt MK (ahC Mt MK g).1 (ahC Mt MK g).2) g=MA n:=by
   unfold yB at hn;rw [Mw hc] at hn;exact hn
  have tl:(vO Mt MK (ahC Mt MK g).1 (ahC Mt MK g).2).length<=2:=by
   unfold vO t4;rw [Hc];rcases ot (hiB Mt MK (ahC Mt MK g).1 (ahC Mt MK g).2) (hiB Mt MK ((ahC Mt MK g).1+1) (ahC Mt MK g).2) (hiB Mt MK ((ahC Mt MK g).1+1) ((ahC Mt MK g).2+1)) (hiB Mt MK (ahC Mt MK g).1 ((ahC Mt MK g).2+1)) (jV Mt MK (ahC Mt MK g).1 (ahC Mt MK g).2) with e | ⟨a,b,n1,e⟩ | ⟨a,b,c,d,n1,n2,n3,n4,n5,n6,e⟩ <;> rw [e] <;> simp
  refine aM (gD (w:=w) (iN (rh ⟨show 5<8 by decide,λD=>?_⟩)));refine jg (vU (yf (PEdO.ped (qZ (Mt,wd,MK,(ahC Mt MK g).1,(ahC Mt MK g).2) ?_))));walk_at "w";rintro _ rfl;dsimp only;rw [A0 hc];refine⟨_,rfl,λi ρ cs=>(∃ u v,ρ=[MA (.dat (tab Mt)),MA (.dat (.int MK)),MA (.dat (gD3 g)),MA (.dat (.int (ahC Mt MK g).1)),MA (.dat (.int (ahC Mt MK g).2)),MA (.own (f.M.length+0)),u,v])/\cs=[.dic (b9 ((vO Mt MK (ahC Mt MK g).1 (ahC Mt MK g).2).take i) [])],⟨⟨_,_,rfl⟩,rfl⟩,?_,?_⟩
  ·rintro i d _ _ hd ⟨⟨u,v,rfl⟩,rfl⟩;rw [Ho] at hd;cases hq:(vO Mt MK (ahC Mt MK g).1 (ahC Mt MK g).2)[i]? with
   | none=>rw [hq] at hd;cases hd
   | some q =>
    rw [hq] at hd;cases hd;have tk:(vO Mt MK (ahC Mt MK g).1 (ahC Mt MK g).2).take (i+1)=(vO Mt MK (ahC Mt MK g).1 (ahC Mt MK g).2).take i++[q]:=by
     rw [K0,hq];rfl
    have hl:=w4 ((vO Mt MK (ahC Mt MK g).1 (ahC Mt MK g).2).take i) [];rw [Im] at hl;simp only [JR] at hl;refine yg rfl (zo (zg (zo (zg (zP ?_)))));refine jg (nE (i:=5) (j:=0) rfl rfl (by omega) ?_);walk_at "w";refine⟨bp _,?_⟩;have hl2:=dv (gD3 q.1) (gD3 q.2) (b9 ((vO Mt MK (ahC Mt MK g).1 (ahC Mt MK g).2).take i) []);refine nE (i:=5) (j:=0) rfl rfl (by omega) ?_;walk_at "w";refine⟨bp _,⟨_,_,rfl⟩,?_⟩;rw [tk,sd];rfl
  ·rintro _ _ ⟨⟨u,v,rfl⟩,rfl⟩;rw [Hc,Ic];refine Ar (Gp (i:=5) (j:=0) rfl rfl (aZ (zi rfl ⟨bp _,_,A1 hp,?_⟩)));show gD3 n=lZ (yB Mt wd MK g);rw [hn];rfl
theorem t9 {α:Type} [DecidableEq α]:∀ (l m:List α),l.Nodup->(∀ x∈l,x∈m)->m.length<=l.length->∀ x∈m,x∈l
 | [],m,_,_,hl,x,hx=>by
  have:m=[]:=LJ.mp (Nat.le_zero.mp hl);rw [this] at hx;exact hx
 | a :: l,m,nd,sub,hl,x,hx=>by
  have ha:=sub a (Hk ..);have hn:=ID.mp nd;have le:=KL ha;rw [HK] at hl;by_cases e:x=a
  ·rw [e];exact Hk ..
  ·refine Hl _ (t9 l (m.erase a) hn.2 (λy hy=>?_) (by omega) x ((Ks e).mpr hx));exact (Ks (λ(z:y=a)=>hn.1 (z▸hy))).mpr (sub y (Hl _ hy))
theorem len_sub {α:Type} [DecidableEq α]:∀ (l m:List α),l.Nodup->(∀ x∈l,x∈m)->l.length<=m.length
 | [],m,_,_=>HR _
 | a :: l,m,nd,sub=>by
  have ha:=sub a (Hk ..);have hn:=ID.mp nd;have le:=KL ha;have hp:0<m.length:=K1 ha;have:=len_sub l (m.erase a) hn.2 (λy hy=>(Ks (λ(z:y=a)=>hn.1 (z▸hy))).mpr (sub y (Hl _ hy)));rw [HK];omega
theorem perm_map_inv {α β:Type} {f:α->β} {l1 l2:List β} (h:l1.Perm l2):∀ ts:List α,l2=ts.map f->∃ us:List α,us.Perm ts/\l1=us.map f:=by
 induction h with
 | nil=>intro ts e;exact⟨ts,.refl _,e⟩
 | cons x _ ih =>
  intro ts e;cases ts with
  | nil=>cases e
  | cons t ts =>
   rw [HI] at e;injection e with e1 e2;obtain⟨us,p,q⟩:=ih ts e2;exact⟨t :: us,.cons t p,by rw [HI,<- q,e1]⟩
 | swap x y l =>
  intro ts e
  match ts,e with
  | [],e=>cases e
  | [_],e=>cases e
  | a :: b :: ts,e =>
   simp only [HI] at e;injection e with e1 e2;injection e2 with e2 e3;exact⟨b :: a :: ts,.swap a b ts,by rw [HI,HI,e1,e2,e3]⟩
 | trans _ _ ih1 ih2 =>
  intro ts e;obtain⟨us,p,q⟩:=ih2 ts e;obtain⟨vs,p2,q2⟩:=ih1 us q;exact⟨vs,p2.trans p,q2⟩
section
variable (Mt:Nb) (wd:Nat) (MK:Int)
structure LineOk (ring:Bool) (l:List Gt):Prop where
 op:∀ g∈l,opG Mt wd MK g=MC
 nd:l.Nodup
 ch:∀ (i:Nat) a b,l[i]?=MA a->l[i+1]?=MA b->yB Mt wd MK a=MA b
 ne:l≠[]
 last:∀ g,l.getLast?=MA g->yB Mt wd MK g=if ring=MC then l.head? else MF
structure WalkOk (s:Gt) (l:List Gt):Prop where
 op:∀ g∈l,opG Mt wd MK g=MC
 nd:l.Nodup
 ch:∀ (i:Nat) a b,l[i]?=MA a->l[i+1]?=MA b->yB Mt wd MK a=MA b
 hd:l.head?=MA s
end
section
variable {Mt:Nb} {wd:Nat} {MK:Int}
theorem w5 {t n:Nat} {x y w:Int} (hx:0<=x/\x<n) (hy:0<=y/\y<t) (hw:w=0 \/ w=1):(x,y,w)∈y8 t n:=by
 obtain⟨a,rfl⟩:=LK hx.1;obtain⟨b,rfl⟩:=LK hy.1;refine Ig.mpr ⟨a,Ia.mpr (by omega),Ig.mpr ⟨b,Ia.mpr (by omega),?_⟩⟩;rcases hw with rfl | rfl
 ·exact Hk ..
 ·exact Hl _ (Hk ..)
theorem C2 {g:Gt} (o:opG Mt wd MK g=MC):z7 Mt wd g.1 g.2.1=MC:=by
 unfold opG yT aF at o;rw [Hq,Hq,Hq] at o;exact o.1.2.1
theorem jw {g:Gt}:g∈yC Mt wd MK↔opG Mt wd MK g=MC:=by
 rw [bo,HV];refine⟨λh=>h.2,λo=>⟨?_,o⟩⟩;obtain⟨x,y,w⟩:=g;have hw:=cH o;obtain⟨a,b,c,d⟩:=bj (C2 o);exact w5 ⟨a,b⟩ ⟨c,d⟩ hw
theorem A3:(yC Mt wd MK).Nodup:=by
 rw [bo];refine ((oj _ _).filter _).imp λ{a b} h e=>?_;subst e;unfold gLt at h;omega
theorem gU {l:List Gt} (gd:Good wd Mt) (o:∀ g∈l,opG Mt wd MK g=MC) (nd:l.Nodup):l.length<=98 :=
 HM (len_sub l (yC Mt wd MK) nd λx hx=>jw.mpr (o x hx)) (iW gd)
theorem A4 {s:Gt} (o:opG Mt wd MK s=MC):WalkOk Mt wd MK s [s] :=
 ⟨λg hg=>by rw [Hw.mp hg];exact o,ID.mpr ⟨IB,IE⟩,λi a b _ h=>(nomatch h),rfl⟩
theorem w6 {s n g:Gt} {l:List Gt} (W:WalkOk Mt wd MK s l) (hl:l.getLast?=MA g) (hn:yB Mt wd MK g=MA n) (ne:n≠s):WalkOk Mt wd MK s (l++[n]):=by
 have hg:g∈l:=Mh hl;have hli:l[l.length - 1]?=MA g:=by rw [<-Lp];exact hl
 have pos:0<l.length:=K1 hg;have hnew:n∉l:=λhm=>by
  obtain⟨i,hi⟩:=Ii hm
  match i,hi with
  | 0,hi =>
   have:=W.hd;rw [Kf,hi] at this;exact ne (ML this)
  | i+1,hi =>
   obtain⟨hlt,_⟩:=Hg.mp hi;have hi':l[i]?=MA l[i]:=Hd (by omega);have hc:=W.ch i _ _ hi' hi;have e:=gT (W.op _ (Hu hi')) (W.op _ hg) hc hn;rw [e,<- hli] at hi';have:=(List.getElem?_inj (by omega) W.nd).mp hi';omega
 refine⟨λx hx=>?_,?_,λi a b ha hb=>?_,?_⟩
 ·rcases HC.mp hx with h | h
  ·exact W.op x h
  ·rw [Hw.mp h];exact (d9 (W.op g hg) hn).1
 ·refine IA.mpr ⟨W.nd,ID.mpr ⟨IB,IE⟩,λa ha b hb e=>?_⟩;rw [Hw.mp hb] at e;exact hnew (e▸ha)
 ·by_cases h:i+1<l.length
  ·rw [HE (by omega)] at ha;rw [HE h] at hb;exact W.ch i a b ha hb
  ·obtain⟨hlt,_⟩:=Hg.mp hb;rw [HA,Iz] at hlt;have e:i=l.length - 1:=by omega
   rw [HE (by omega),e,hli] at ha;rw [HL (by omega),show i+1 - l.length=0 by omega] at hb;cases ha;cases hb;exact hn
 ·cases l with
  | nil=>cases pos
  | cons a l=>exact W.hd
theorem iX {s g:Gt} {l:List Gt} (W:WalkOk Mt wd MK s l) (hl:l.getLast?=MA g) {ring:Bool} (h:yB Mt wd MK g=if ring=MC then MA s else MF):LineOk Mt wd MK ring l where
 op:=W.op
 nd:=W.nd
 ch:=W.ch
 ne:=λz=>by rw [z] at hl;cases hl
 last:=λg' hg'=>by
  rw [hl] at hg';cases hg';rw [h,W.hd]
def l3 (Mt:Nb) (wd:Nat) (MK:Int) (t:Bool×List Gt):Prop:=t.1=MG->∀ h,t.2.head?=MA h->jv Mt wd MK h=MF
theorem next_prev {g n:Gt} (o:opG Mt wd MK g=MC) (h:yB Mt wd MK g=MA n):jv Mt wd MK n=MA g:=by
 have c:zS Mt wd (ahC Mt MK g).1 (ahC Mt MK g).2=MC:=by
  unfold yB at h;by_cases z:zS Mt wd (ahC Mt MK g).1 (ahC Mt MK g).2=MC
  ·exact z
  ·rw [Mv z] at h;cases h
 obtain⟨m,a1,_,_,_,a2⟩:=bP o c;rw [h] at a1;cases a1;exact a2
theorem prev_next {g n:Gt} (o:opG Mt wd MK g=MC) (h:jv Mt wd MK g=MA n):opG Mt wd MK n=MC/\yB Mt wd MK n=MA g:=by
 have c:zS Mt wd (bhC Mt MK g).1 (bhC Mt MK g).2=MC:=by
  unfold jv at h;by_cases z:zS Mt wd (bhC Mt MK g).1 (bhC Mt MK g).2=MC
  ·exact z
  ·rw [Mv z] at h;cases h
 obtain⟨m,a1,_,a3,_,a2⟩:=lX o c;rw [h] at a1;cases a1;exact⟨a3,a2⟩
theorem l4 {t:Bool×List Gt} (ne:t.2≠[]):∃ z,t.2.getLast?=MA z/\z∈t.2:=⟨t.2.getLast ne,List.getLast?_eq_some_getLast ne,List.getLast_mem ne⟩
theorem eQ {t:Bool×List Gt} (L:LineOk Mt wd MK t.1 t.2) (st:l3 Mt wd MK t) {g n:Gt} (o:opG Mt wd MK g=MC) (hn:n∈t.2) (h:yB Mt wd MK g=MA n):g∈t.2:=by
 obtain⟨i,hi⟩:=Ii hn
 match i,hi with
 | 0,hi =>
  have hh:t.2.head?=MA n:=by rw [Kf];exact hi
  cases hr:t.1 with
  | false =>
   have:=st hr n hh;rw [next_prev o h] at this;cases this
  | true =>
   obtain⟨z,hz,hm⟩:=l4 L.ne;have:=L.last z hz;rw [hr,Mw rfl,hh] at this;rw [gT o (L.op z hm) h this];exact hm
 | i+1,hi =>
  obtain⟨hlt,_⟩:=Hg.mp hi;have hi':t.2[i]?=MA t.2[i]:=Hd (by omega);have hc:=L.ch i _ _ hi' hi;have hm:=Hu hi';rw [gT o (L.op _ hm) h hc];exact hm
theorem eR {t:Bool×List Gt} (L:LineOk Mt wd MK t.1 t.2) {g n:Gt} (hg:g∈t.2) (h:yB Mt wd MK g=MA n):n∈t.2:=by
 obtain⟨i,hi⟩:=Ii hg;obtain⟨hlt,_⟩:=Hg.mp hi;by_cases hl:i+1<t.2.length
 ·have hi':t.2[i+1]?=MA t.2[i+1]:=Hd hl;have hc:=L.ch i _ _ hi hi';rw [h] at hc;rw [ML hc];exact Hu hi'
 ·have e:i=t.2.length - 1:=by omega
  have hz:t.2.getLast?=MA g:=by rw [Lp,<- e];exact hi
  have:=L.last g hz;rw [h] at this;by_cases hr:t.1=MC
  ·rw [Mw hr] at this;exact JX this.symm
  ·rw [Mv hr] at this;cases this
theorem C3 (gd:Good wd Mt) {g:Gt} (o:opG Mt wd MK g=MC):zS Mt wd (ahC Mt MK g).1 (ahC Mt MK g).2=MC \/ zS Mt wd (bhC Mt MK g).1 (bhC Mt MK g).2=MC:=by
 have hw:=cH o;obtain⟨x,y,w⟩:=g;have o':yT Mt wd MK x y w=MC:=o;unfold yT aF at o';rw [Hq,Hq,Hq] at o';obtain⟨a0,a1,a2,a3⟩:=bj o'.1.2.1;obtain⟨b0,b1,b2,b3⟩:=bj o'.1.2.2;have h1:=gd.h1;have w1:=gd.w1;have cb:∀ {u v:Int},0<=u->u+1<wd->0<=v->v+1<Mt.length->zS Mt wd u v=MC:=λp q r s=>by
  unfold zS z7;rw [Mx (by omega),Mx (by omega),Mx (by omega),Mx (by omega)];rfl
 unfold ahC bhC vi vj;dsimp only at hw ⊢;rcases hw with rfl | rfl
 ·have e1:px x 0=x+1:=rfl;rw [e1] at b1;cases hiB Mt MK x y
  ·by_cases h:y+1<Mt.length
   ·left;exact cb (by simp;omega) (by simp;omega) (by simp;omega) (by simp;omega)
   ·right;exact cb (by simp;omega) (by simp;omega) (by simp;omega) (by simp;omega)
  ·by_cases h:y+1<Mt.length
   ·right;exact cb (by simp;omega) (by simp;omega) (by simp;omega) (by simp;omega)
   ·left;exact cb (by simp;omega) (by simp;omega) (by simp;omega) (by simp;omega)
 ·have e1:py y 1=y+1:=rfl;rw [e1] at b3;cases hiB Mt MK x y
  ·by_cases h:x+1<wd
   ·right;exact cb (by simp;omega) (by simp;omega) (by simp;omega) (by simp;omega)
   ·left;exact cb (by simp;omega) (by simp;omega) (by simp;omega) (by simp;omega)
  ·by_cases h:x+1<wd
   ·left;exact cb (by simp;omega) (by simp;omega) (by simp;omega) (by simp;omega)
   ·right;exact cb (by simp;omega) (by simp;omega) (by simp;omega) (by simp;omega)
theorem Fy (gd:Good wd Mt) {t:Bool×List Gt} (L:LineOk Mt wd MK t.1 t.2) (st:l3 Mt wd MK t):2<=t.2.length:=by
 obtain⟨r,l⟩:=t
 match l,L,st with
 | [],L,_=>exact absurd rfl L.ne
 | [g],L,st =>
  have o:=L.op g (Hk ..);have hl:=L.last g rfl;cases r with
  | true =>
   exact absurd rfl (d9 o hl).2
  | false =>
   have hp:jv Mt wd MK g=MF:=st rfl g rfl;have hl:yB Mt wd MK g=MF:=hl;rcases C3 gd o with c | c
   ·obtain⟨n,h,_⟩:=bP o c;rw [hl] at h;cases h
   ·obtain⟨n,h,_⟩:=lX o c;rw [hp] at h;cases h
 | _ :: _ :: _,_,_=>exact Nat.le_add_left 2 _
end
section
variable (Mt:Nb) (wd:Nat) (MK:Int)
noncomputable def flat (ts:List (Bool×List Gt)):List Gt:=ts.flatMap (·.2)
structure Told (ts:List (Bool×List Gt)):Prop where
 line:∀ t∈ts,LineOk Mt wd MK t.1 t.2
 st:∀ t∈ts,l3 Mt wd MK t
 nd:(flat ts).Nodup
 least:∀ t∈ts,t.1=MC->∀ h,t.2.head?=MA h->∀ g∈t.2,g=h \/ gLt h g
end
section
variable {Mt:Nb} {wd:Nat} {MK:Int} {ts:List (Bool×List Gt)}
theorem Told.op (T:Told Mt wd MK ts) {g:Gt} (h:g∈flat ts):opG Mt wd MK g=MC:=by
 obtain⟨t,ht,hg⟩:=Ig.mp h;exact (T.line t ht).op g hg
theorem Told.len (T:Told Mt wd MK ts) (gd:Good wd Mt):(flat ts).length<=98:=gU gd (λg hg=>T.op hg) T.nd
theorem oy:∀ (ts:List (Bool×List Gt)),(∀ t∈ts,2<=t.2.length)->2 * ts.length<=(flat ts).length
 | [],_=>Ht _
 | t :: ts,h=>by
  have h1:=h t (Hk ..);have h2:=oy ts λu hu=>h u (Hl _ hu);show 2 * (ts.length+1)<=(t.2++flat ts).length;rw [HA];omega
theorem Told.few (T:Told Mt wd MK ts) (gd:Good wd Mt):ts.length<=49:=by
 have h1:=oy ts λt ht=>Fy gd (T.line t ht) (T.st t ht);have h2:=T.len gd;omega
theorem bQ (ts:List (Bool×List Gt)) (t:Bool×List Gt):flat (ts++[t])=flat ts++t.2:=by
 unfold flat;rw [Jn];simp
theorem Told.fresh (T:Told Mt wd MK ts) {r:Bool} {l:List Gt} (L:LineOk Mt wd MK r l) {s:Gt} (hs:l.head?=MA s) (hn:s∉flat ts):∀ g∈l,g∉flat ts:=by
 have key:∀ (i:Nat) g,l[i]?=MA g->g∉flat ts:=λi=>by
  induction i with
  | zero =>
   intro g hg;rw [Kf,hg] at hs;rw [ML hs];exact hn
  | succ i ih =>
   intro g hg hm;obtain⟨hlt,_⟩:=Hg.mp hg;have hi':l[i]?=MA l[i]:=Hd (by omega);have hc:=L.ch i _ _ hi' hg;obtain⟨t,ht,hgt⟩:=Ig.mp hm;exact ih _ hi' (Ig.mpr ⟨t,ht,eQ (T.line t ht) (T.st t ht) (L.op _ (Hu hi')) hgt hc⟩)
 intro g hg;obtain⟨i,hi⟩:=Ii hg;exact key i g hi
theorem Told.more (T:Told Mt wd MK ts) {r:Bool} {l:List Gt} (L:LineOk Mt wd MK r l) {s:Gt} (hs:l.head?=MA s) (hn:s∉flat ts) (st:r=MG->jv Mt wd MK s=MF) (le:r=MC->∀ g∈l,g=s \/ gLt s g):Told Mt wd MK (ts++[(r,l)]) where
 line:=λt ht=>by
  rcases HC.mp ht with h | h
  ·exact T.line t h
  ·rw [Hw.mp h];exact L
 st:=λt ht=>by
  rcases HC.mp ht with h | h
  ·exact T.st t h
  ·rw [Hw.mp h];intro hr h hh;rw [show (r,l).2.head?=MA s from hs] at hh;rw [<-ML hh];exact st hr
 nd:=by
  rw [bQ];refine IA.mpr ⟨T.nd,L.nd,λa ha b hb e=>?_⟩;exact T.fresh L hs hn b hb (e▸ha)
 least:=λt ht=>by
  rcases HC.mp ht with h | h
  ·exact T.least t h
  ·rw [Hw.mp h];intro hr h hh;rw [show (r,l).2.head?=MA s from hs] at hh;rw [<-ML hh];exact le hr
theorem Fz {r:Bool} {l:List Gt} (L:LineOk Mt wd MK r l) {s:Gt} (hs:l.head?=MA s) (hp:jv Mt wd MK s=MF):r=MG:=by
 cases r with
 | false=>rfl
 | true =>
  obtain⟨z,hz,hm⟩:=l4 (t:=(MC,l)) L.ne;have:=L.last z hz;rw [Mw rfl,hs] at this;have:=next_prev (L.op z hm) this;rw [hp] at this;cases this
theorem C4 (T:Told Mt wd MK ts) (all:∀ g,opG Mt wd MK g=MC->jv Mt wd MK g=MF->g∈flat ts) {r:Bool} {l:List Gt} (L:LineOk Mt wd MK r l) {s:Gt} (hs:l.head?=MA s) (hn:s∉flat ts):r=MC:=by
 cases r with
 | true=>rfl
 | false =>
  obtain⟨z,hz,hm⟩:=l4 (t:=(MG,l)) L.ne;have hnone:yB Mt wd MK z=MF:=L.last z hz
  let U:=(yC Mt wd MK).filter λg=>decide (g∉flat ts)
  have memU:∀ g,g∈U↔opG Mt wd MK g=MC/\g∉flat ts:=λg=>by
   show g∈List.filter _ _↔_;rw [HV,jw,decide_eq_true_eq]
  let pr:Gt->Gt:=λg=>(jv Mt wd MK g).getD g
  have prU:∀ g∈U,jv Mt wd MK g=MA (pr g)/\yB Mt wd MK (pr g)=MA g/\pr g∈U:=λg hg=>by
   obtain⟨o,nf⟩:=(memU g).mp hg;cases hp:jv Mt wd MK g with
   | none=>exact absurd (all g o hp) nf
   | some p =>
    have e:pr g=p:=by show (jv Mt wd MK g).getD g=p;rw [hp];rfl
    obtain⟨op,hnx⟩:=prev_next o hp;rw [e];refine⟨rfl,hnx,(memU p).mpr ⟨op,λhm=>?_⟩⟩;obtain⟨t,ht,hpt⟩:=Ig.mp hm;exact nf (Ig.mpr ⟨t,ht,eR (T.line t ht) hpt hnx⟩)
  have ndU:U.Nodup:=A3.filter _;have ndP:(U.map pr).Nodup:=by
   refine IF.mpr (ndU.imp_of_mem λ{a b} ha hb ne e=>ne ?_);have h1:=(prU a ha).2.1;have h2:=(prU b hb).2.1;rw [e,h2] at h1;exact (ML h1).symm
  have zU:z∈U:=(memU z).mpr ⟨L.op z hm,T.fresh L hs hn z hm⟩;have:=t9 (U.map pr) U ndP (λx hx=>by obtain⟨g,hg,rfl⟩:=Hz.mp hx;exact (prU g hg).2.2) (by rw [Hc];exact Ht _) z zU;obtain⟨g,hg,rfl⟩:=Hz.mp this;rw [(prU g hg).2.1] at hnone;cases hnone
noncomputable def jF (t:Bool×List Gt):MB:=.tuple [.str (if t.1=MC then "ring" else "run"),.tuple (t.2.map gD3)]
theorem oA (l:List Gt):zN (l.map gD3)=MC:=by
 induction l with
 | nil=>rfl
 | cons g l ih=>show (zA (gD3 g) && zN (l.map gD3))=MC;rw [ih];rfl
theorem sg (t:Bool×List Gt):zA (jF t)=MC:=by
 show (zA (.str _) && (zA (.tuple (t.2.map gD3)) && MC))=MC;rw [show zA (.tuple (t.2.map gD3))=zN (t.2.map gD3) from rfl,oA];cases t.1 <;> decide +kernel
theorem iY:∀ l m:List Gt,qA (l.map gD3) (m.map gD3)=MC
 | [],m=>by rw [Kt,qA]
 | g :: l,[]=>rfl
 | (x,y,w) :: l,(x',y',w') :: m=>by
  rw [HI,HI,qA];split
  ·exact iY l m
  ·show vK (.tuple [.int x,.int y,.int w]) (.tuple [.int x',.int y',.int w'])=MC;simp only [vK,qA];split
   ·split
    ·split <;> rfl
    ·rfl
   ·rfl
theorem A5 (t u:Bool×List Gt):vK (jF t) (jF u)=MC:=by
 unfold jF;generalize (if t.1=MC then ("ring":Str) else "run")=a;generalize (if u.1=MC then ("ring":Str) else "run")=b;rw [vK,qA];split
 ·rw [qA];split
  ·rfl
  ·rw [vK];exact iY _ _
 ·rfl
theorem oB (l:List Gt):Hy (l.map gD3)<=1:=by
 induction l with
 | nil=>exact HR _
 | cons g l ih=>exact LV.mpr ⟨Ht 1,ih⟩
theorem sh (t:Bool×List Gt):(jF t).depth<=3:=by
 show max 0 (max (Hy (t.2.map gD3)+1) 0)+1<=3;have:=oB t.2;omega
theorem A6 {a b:Gt} (h:gD3 a=gD3 b):a=b:=by
 obtain⟨x,y,w⟩:=a;obtain⟨x',y',w'⟩:=b;unfold gD3 vF at h;simp at h;simp [h]
theorem A7 (T:Told Mt wd MK ts):SortOk "str" (ts.map jF) where
 plain:=λd hd=>by obtain⟨t,_,rfl⟩:=Hz.mp hd;exact sg t
 head:=λd hd=>by obtain⟨t,_,rfl⟩:=Hz.mp hd;rfl
 cmp:=λd hd e he=>by
  obtain⟨t,_,rfl⟩:=Hz.mp hd;obtain⟨u,_,rfl⟩:=Hz.mp he;exact A5 t u
 depth:=λd hd=>by obtain⟨t,_,rfl⟩:=Hz.mp hd;exact HM (sh t) (by decide)
 nd:=by
  have h:=(List.pairwise_flatMap.mp T.nd).2;refine IF.mpr (h.imp_of_mem λ{a b} ha hb hd e=>?_);unfold jF at e;have e2:a.2.map gD3=b.2.map gD3:=by
   injection e with e;injection e with _ e;injection e with e _;injection e
  cases ha2:a.2 with
  | nil=>exact (T.line a ha).ne ha2
  | cons g l =>
   cases hb2:b.2 with
   | nil=>exact (T.line b hb).ne hb2
   | cons g' l' =>
    rw [ha2,hb2,HI,HI] at e2;injection e2 with e2 _;exact hd g (by rw [ha2];exact Hk ..) g' (by rw [hb2];exact Hk ..) (A6 e2)
theorem Told.perm {us:List (Bool×List Gt)} (T:Told Mt wd MK ts) (p:us.Perm ts):Told Mt wd MK us where
 line:=λt ht=>T.line t (p.mem_iff.mp ht)
 st:=λt ht=>T.st t (p.mem_iff.mp ht)
 nd:=(p.flatMap_right _).nodup_iff.mpr T.nd
 least:=λt ht=>T.least t (p.mem_iff.mp ht)
end
section
variable {K:Hj} {f:Fx} {ρ:zr} {ta:TE} {P:MB->Prop}
noncomputable def gW:MB->Bool
 | .none=>MC
 | _=>MG
theorem iZ {H:Hp} {d:MB} {v:V} (r:Rep K H d v) (h:d=.none \/ ∃ ds,d=.tuple ds):decide (v=.non)=gW d:=by
 rcases h with rfl | ⟨ds,rfl⟩
 ·rw [show v=.non from r];rfl
 ·obtain⟨a,xs,rfl,_⟩:=zR.mp r;rfl
theorem FA (h:PEd K f ta ρ λd=>(d=.none \/ ∃ ds,d=.tuple ds)/\P (.bool (!gW d))):PEd K f (tOp (λx y H Q=>y=.non/\Q (.bl (!decide (x=.non))) H) ta (tC .non)) ρ P:=λσ H Q e q =>
 h σ H _ e λd v H1 g1 r1 ⟨hd,p⟩=>⟨rfl,q _ _ H1 g1 (by show Rep K _ (.bool _) (.bl _);rw [iZ r1 hd];rfl) p⟩
theorem DZ (h:PEd K f ta ρ λd=>(d=.none \/ ∃ ds,d=.tuple ds)/\P (.bool (gW d))):PEd K f (tOp (λx y H Q=>y=.non/\Q (.bl (decide (x=.non))) H) ta (tC .non)) ρ P:=λσ H Q e q =>
 h σ H _ e λd v H1 g1 r1 ⟨hd,p⟩=>⟨rfl,q _ _ H1 g1 (by show Rep K _ (.bool _) (.bl _);rw [iZ r1 hd];rfl) p⟩
end
abbrev A8 (K:Hj):Sp:=spD K 3 C0 λc r=>∃ ring l,r=jF (ring,l)/\LineOk c.1 c.2.1 c.2.2.1 ring l/\l.head?=MA c.2.2.2
theorem FC (a b:Gt):HU (gD3 a) (gD3 b)=decide (a=b):=by
 obtain⟨x,y,w⟩:=a;obtain⟨x',y',w'⟩:=b;show (decide (x=x') && (decide (y=y') && (decide (w=w') && MC)))=_;by_cases h1:x=x' <;> by_cases h2:y=y' <;> by_cases h3:w=w' <;> simp [h1,h2,h3]
theorem sj (q:Option Gt):lZ q=.none \/ ∃ ds,lZ q=.tuple ds:=by
 cases q with
 | none=>exact .inl rfl
 | some g=>exact .inr ⟨_,rfl⟩
theorem C5 (F:Def K mg "line_from" vy pE) (uac:mg "tuple"=MF) (ubd:FnIn P w K mg base k "gate_ahead" ph (A2 K)) :
  FnIn P w K mg base (k+1) "line_from" pE (A8 K):=by
 refine F.ok qO rfl λfa cdv A outer s H E hr=>⟨_,(zc (zO (i:=3) qO.nd rfl (MM rfl) (yw (za (pv 2) zb))) (zc (zO (i:=4) qO.nd rfl (MM rfl) (zf ubd hr rfl (za (pv 0) (za (pv 1) (za (pv 2) zb))))) (zc (mD Ie (PW.pt (cf (zM BU (pv 4) fJ (zX _)) (af (zM (dI (K:=K) rfl hr.units) (pv 4) (pv 2) (zX _))))) (zc (yE (fT IP Je Jf jM (pv 3) (za (pv 4) zb))) (zj (zO (i:=4) qO.nd rfl (MM rfl) (zf ubd hr rfl (za (pv 0) (za (pv 1) (za (pv 4) zb)))))))) (zj (zv (zE (za (j7 (zM Ep (pv 4) fJ (zX _)) yW yW) (za (jL (ju (K:=K) rfl) rfl uac IY (za (pv 3) zb)) zb)))))))),?_⟩;rintro f xs ⟨Mt,wd,MK,g⟩ hl ⟨rfl,gd,o⟩
 try dsimp only [yd,zm]
 dsimp only at *;refine gD (w:=w) (iN (vp (bY ?_)));walk_at "w";refine⟨show 3<5 by decide,λD=>?_⟩;refine jg (aY (yb (zt (Mt,wd,MK,g) ?_)));walk_at "w";rintro _ rfl;refine zg ?_;refine jg (tM (λρ cs=>∃ l z,ρ=[MA (.dat (tab Mt)),MA (.dat (.int MK)),MA (.dat (gD3 g)),MA (.own (f.M.length+0)),MA (.dat (lZ (yB Mt wd MK z)))]/\cs=[.lst (l.map gD3)]/\WalkOk Mt wd MK g l/\l.getLast?=MA z) (λ_ cs=>match cs with | [.lst es]=>200 - es.length | _=>0) ⟨[g],g,rfl,rfl,A4 o,rfl⟩ ?_);rintro _ _ ⟨l,z,rfl,rfl,W,hz⟩;have oz:=W.op z (Mh hz);have wl:=gU gd W.op W.nd;have ml:(l.map gD3).length=l.length:=Hc ..;refine rf (iD (yi (FA (zi rfl ⟨sj _,?_⟩))));refine⟨_,rfl,?_⟩;have fr:∀ x:MB,KY (freed f.M.length [OC.lst (l.map gD3)]) [MA (DV.dat (tab Mt)),MA (.dat (.int MK)),MA (.dat (gD3 g)),MA (.own (f.M.length+0)),MA (.dat x)]=[MA (.dat (tab Mt)),MA (.dat (.int MK)),MA (.dat (gD3 g)),MA (.dat (.list (l.map gD3))),MA (.dat x)]:=λx=>by simp [freed]
 cases hn:yB Mt wd MK z with
 | none =>
  rw [show (!gW (lZ MF))=MG from rfl,Mv He,Mv He];refine An ?_;rw [fr];refine yA (jI (zq (o3 (yi (DZ (zi rfl ⟨.inl rfl,_,rfl,?_⟩))))));rw [show gW (lZ MF)=MC from rfl,Mw rfl];walk_at "w";exact⟨MG,l,rfl,iX W hz (by rw [hn];rfl),W.hd⟩
 | some n =>
  rw [show (!gW (lZ (MA n)))=MC from rfl,Mw rfl];rw [show lZ (MA n)=gD3 n from rfl];refine yi (jH (zi rfl (zi rfl ⟨rfl,rfl,HB rfl,_,rfl,?_⟩)));rw [Mw rfl,FC];by_cases ng:n=g
  ·rw [Mx ng,show (!true)=MG from rfl,Mv He];refine An ?_;rw [fr];refine yA (jI (zq (o3 (yi (DZ (zi rfl ⟨.inr ⟨_,rfl⟩,_,rfl,?_⟩))))));rw [show gW (gD3 n)=MG from rfl,Mv He];walk_at "w";exact⟨MC,l,rfl,iX W hz (by rw [hn,ng];rfl),W.hd⟩
  ·rw [Mz ng,show (!false)=MC from rfl,Mw rfl];have W2:=w6 W hz hn ng;have wl2:=gU gd W2.op W2.nd;rw [HA,Iz] at wl2;refine jg (gE (i:=3) (j:=0) rfl rfl (by omega) (aZ (zi rfl ?_)));refine aY (yb (zt (Mt,wd,MK,n) ?_));have on:=(d9 oz hn).1;walk_at "w";rintro _ rfl;refine zg ⟨⟨l++[n],n,rfl,?_,W2,by simp⟩,?_⟩
   ·show [OC.lst (l.map gD3++[gD3 n])]=[OC.lst ((l++[n]).map gD3)];rw [HH];rfl
   ·show 200 - (l.map gD3++[gD3 n]).length<200 - (l.map gD3).length;rw [HA,Iz];omega
abbrev ub (K:Hj):Sp:=spN K 2 (λ(c:Nb×Nat×Int) xs=>xs=[.dat (tab c.1),.dat (.int c.2.2)]/\Good c.2.1 c.1) λc es=>∃ ts,es=ts.map jF/\Told c.1 c.2.1 c.2.2 ts/\(∀ g,opG c.1 c.2.1 c.2.2 g=MC->g∈flat ts)/\es.Pairwise λd e=>ltD d e=MC
noncomputable def inB (Mt:Nb) (wd:Nat) (MK:Int) (g:Gt):Bool:=!zS Mt wd (bhC Mt MK g).1 (bhC Mt MK g).2
theorem A9 {Mt:Nb} {wd:Nat} {MK:Int} {g:Gt} (o:opG Mt wd MK g=MC):inB Mt wd MK g=MC↔jv Mt wd MK g=MF:=by
 unfold inB;by_cases h:zS Mt wd (bhC Mt MK g).1 (bhC Mt MK g).2=MC
 ·obtain⟨n,hn,_⟩:=lX o h;rw [h,hn];simp
 ·rw [Bool.not_eq_true] at h;unfold jv;rw [h];simp
theorem Ba (F:Def K mg "lines" fv pz) (uan:mg "set"=MF) (uae:mg "sorted"=MF) (uag:FnIn P w K mg base k "ask_table" pf (eP K)) (ubo:FnIn P w K mg base k "gates" pz (tY K)) (ubp:FnIn P w K mg base k "comes_in" ph (t8 K)) (ubq:FnIn P w K mg base k "line_from" pE (A8 K)):FnIn P w K mg base (k+1) "lines" pz (ub K):=by
 refine F.okN qt rfl λfa cdv A outer s H E hr=>⟨_,(zc (yE (zf uag hr rfl (za (pv 0) zb))) (zc (zO (i:=2) qt.nd rfl (MM rfl) (zf ubo hr rfl (za (pv 0) (za (pv 1) zb)))) (zc (zO (i:=3) qt.nd rfl (MM rfl) (zB (gp (K:=K) rfl) (z6 (N:=pJ) (own:=1) (fr:=[0,1]) (by walk_at "c") rfl (zF (K:=K) rfl (pv 2)) (λ_ _ _ _=>(zd (i:=0) (show (pJ:MU).Nodup by decide +kernel) rfl (MM rfl) (MN rfl))) (λ_ _ _ _=>(jj (ya (K:=K) rfl (zf ubp hr rfl (za (pv 1) (za (pv 2) (za (pv 0) zb)))) (λ_=>rfl)))) (λ_ _ _ _=>(pv 0)) rfl rfl (λ_=>rfl)) (pv 2))) (zc (zO (i:=4) qt.nd rfl (MM rfl) (yw zb)) (zc (zO (i:=5) qt.nd rfl (MM rfl) (fR (cX (w:=w) rfl) rfl uan L7)) (zc (yL Ie rfl (zF (K:=K) rfl (pv 3)) (zd (i:=6) qt.nd rfl (MM rfl) (MN rfl)) (zj (yF (zM (gF (w:=w) (K:=K) rfl rfl hr.units) (pv 6) (pv 5) rfl) (zc (zO (i:=7) qt.nd rfl (MM rfl) (zf ubq hr rfl (za (pv 0) (za (pv 1) (za (pv 6) zb))))) (zc (yE (fT IP Je Jf jM (pv 4) (za (pv 7) zb))) (zj (yL Ie rfl (vm (K:=K) rfl (zK (yG (K:=K) rfl) (pv 7) zk (λ_ _=>rfl))) (zd (i:=8) qt.nd rfl (MM rfl) (MN rfl)) (zj (yE (Ap (w:=w) rfl K7 Mi (nC (w:=w) (K:=K) rfl rfl hr.units) (pv 5) (za (pv 8) zb)))))))) zV))) (zj (zv (zD (cU (K:=K) rfl hr.units) rfl uae KN (za (pv 4) zb)))))))))),?_⟩;rintro f xs ⟨Mt,wd,MK⟩ hl ⟨rfl,gd⟩
 try dsimp only [yd,zm]
 dsimp only at *;have gl:=iW (MK:=MK) gd;refine qY (aU (zt (Mt,wd) ?_));walk_at "w";rintro _ rfl;refine qY (yb (PEdO.ped (qZ (Mt,wd,MK) ?_)));walk_at "w";rintro _ rfl;dsimp only;rw [<-bo];refine zg ?_;refine qY (yb (o9 (PEdO.ped (qX (yf (zi rfl ⟨_,rfl,λn ρ es=>(∃ u,ρ=[u,MA (.dat (tab Mt)),MA (.dat (.int MK))])/\es=(((yC Mt wd MK).take n).filter (inB Mt wd MK)).map gD3,⟨⟨_,rfl⟩,rfl⟩,?_,?_⟩))))))
 ·rintro D n d ρ' es hd ⟨⟨u,rfl⟩,rfl⟩;rw [Ho] at hd;cases hq:(yC Mt wd MK)[n]? with
  | none=>rw [hq] at hd;cases hd
  | some q =>
   rw [hq] at hd;cases hd;have oq:=jw.mp (Hu hq);have tk:(yC Mt wd MK).take (n+1)=(yC Mt wd MK).take n++[q]:=by
    rw [K0,hq];rfl
   have len:((((yC Mt wd MK).take n).filter (inB Mt wd MK)).map gD3).length<1000:=by
    rw [Hc];have a1:=Ij (inB Mt wd MK) ((yC Mt wd MK).take n);rw [Im] at a1;omega
   refine zg (yY (zt (Mt,wd,MK,q) ?_));walk_at "w";rintro _ rfl;dsimp only;refine⟨_,rfl,?_⟩;refine yr (λh=>?_) λh=>?_
   ·refine yn len ?_;walk_at "w";rw [tk,IM,HH,Ip,show inB Mt wd MK q=MC from h,Mw rfl];rfl
   ·refine⟨⟨_,rfl⟩,?_⟩;rw [tk,IM,HH,Ip,show inB Mt wd MK q=MG from h,Mv He];simp
 ·rintro ρ' es ⟨_,rfl⟩;rw [Hc,Ic];have il:((yC Mt wd MK).filter (inB Mt wd MK)).length<=98:=HM (Ij _ _) gl;refine⟨_,rfl,zi rfl ⟨_,rfl,by rw [Hc,Hc];omega,?_⟩⟩;refine zg ?_;dsimp only;rw [<-HH];refine fj (w:=w) (dU (vp (bY ?_)));walk_at "w";refine⟨show 4<9 by decide,λD1=>?_⟩;refine dU (Aq ⟨show 5<9 by decide,λD2=>?_⟩);refine kX (vU (yf (zi rfl ?_)));generalize hS:(yC Mt wd MK).filter (inB Mt wd MK)++yC Mt wd MK=S;generalize hG:PyData.list (KY gD3 (yC Mt wd MK))=G;refine⟨_,rfl,λi ρ cs=>∃ ts u v x,ρ=[MA (.dat (tab Mt)),MA (.dat (.int MK)),MA (.dat G),MA (.dat (.list (S.map gD3))),MA (.own (f.M.length+0)),MA (.own (f.M.length+1)),u,v,x]/\cs=[.lst (ts.map jF),.set ((flat ts).map gD3).reverse]/\Told Mt wd MK ts/\∀ j g,j<i->S[j]?=MA g->g∈flat ts,?_,?_,?_⟩
  ·exact⟨[],_,_,_,rfl,rfl,⟨(λ_ h=>nomatch h),(λ_ h=>nomatch h),IE,(λ_ h=>nomatch h)⟩,λj g h=>absurd h (Jr _)⟩
  ·rintro i d _ _ hd ⟨ts,u,v,x,rfl,rfl,T,past⟩;rw [Ho] at hd;cases hq:S[i]? with
   | none=>rw [hq] at hd;cases hd
   | some q =>
    rw [hq] at hd;cases hd;have oq:opG Mt wd MK q=MC:=by
     have hm:=Hu hq;rw [<-hS] at hm;rcases HC.mp hm with h | h
     ·exact jw.mp (HV.mp h).1
     ·exact jw.mp h
    have memk:(gD3 q∈((flat ts).map gD3).reverse)↔q∈flat ts:=by
     rw [JJ,Hz];exact⟨λ⟨a,ha,e⟩=>lY e▸ha,λh=>⟨q,h,rfl⟩⟩
    refine zg (hZ (DO (i:=5) (j:=1) rfl rfl (aZ (zi rfl ⟨bp _,?_⟩))));rw [Mw rfl];by_cases hin:q∈flat ts
    ·rw [Mx (memk.mpr hin),show (!true)=MG from rfl,Mv He];refine va ⟨ts,_,_,_,rfl,rfl,T,λj g hj hg=>?_⟩;rcases LC.mp hj with h | h
     ·exact past j g h hg
     ·rw [h,hq] at hg;cases hg;exact hin
    ·rw [Mz (λz=>hin (memk.mp z)),show (!false)=MC from rfl,Mw rfl];refine jg (aY (yb (zt (Mt,wd,MK,q) ?_)));walk_at "w";rintro _ ⟨ring,l,rfl,L,hh⟩;dsimp only at L hh;have T2:Told Mt wd MK (ts++[(ring,l)]):=by
      by_cases hi:i<((yC Mt wd MK).filter (inB Mt wd MK)).length
      ·have hp:jv Mt wd MK q=MF:=by
        rw [<-hS,HE hi] at hq;exact (A9 oq).mp (HV.mp (Hu hq)).2
       have r0:=Fz L hh hp;exact T.more L hh hin (λ_=>hp) λz=>by rw [r0] at z;cases z
      ·have all:∀ g,opG Mt wd MK g=MC->jv Mt wd MK g=MF->g∈flat ts:=λg og hp=>by
        have hm:g∈(yC Mt wd MK).filter (inB Mt wd MK):=HV.mpr ⟨jw.mpr og,(A9 og).mpr hp⟩;obtain⟨j,hj⟩:=Ii hm;obtain⟨hlt,_⟩:=Hg.mp hj;refine past j g (by omega) ?_;rw [<-hS,HE hlt];exact hj
       have r1:=C4 T all L hh hin;refine T.more L hh hin (λz=>by rw [r1] at z;cases z) λ_ g hg=>?_;have fr:=T.fresh L hh hin g hg;obtain⟨j,hj⟩:=Ii (jw.mpr (L.op g hg));have hq':=hq;rw [<-hS,HL (by omega)] at hq';have pw:(yC Mt wd MK).Pairwise gLt:=by rw [bo];exact (oj _ _).filter _
       obtain⟨l1,e1⟩:=Hg.mp hj;obtain⟨l2,e2⟩:=Hg.mp hq';rcases Nat.lt_trichotomy j (i - ((yC Mt wd MK).filter (inB Mt wd MK)).length) with h | h | h
       ·refine absurd (past (j+((yC Mt wd MK).filter (inB Mt wd MK)).length) g (by omega) ?_) fr;rw [<-hS,HL (by omega),Nat.add_sub_cancel];exact hj
       ·left;rw [<-e1,<- e2]
        congr 1
       ·right;rw [<-e1,<- e2];exact JO.mp pw _ _ l2 l1 h
     have hf:=T2.len gd;have nd2:=T2.nd;rw [bQ] at nd2 hf;have few:=T.few gd;refine zg ?_;refine jg (gE (i:=4) (j:=0) rfl rfl (by rw [Hc];omega) (aZ (zi rfl ?_)));refine vU (eE (vQ (zi rfl ?_)));walk_at "w";refine⟨λm ρ cs=>∃ x,ρ=[MA (.dat (tab Mt)),MA (.dat (.int MK)),MA (.dat G),MA (.dat (.list (S.map gD3))),MA (.own (f.M.length+0)),MA (.own (f.M.length+1)),MA (.dat (gD3 q)),MA (.dat (jF (ring,l))),x]/\cs=[.lst ((ts++[(ring,l)]).map jF),.set ((flat ts++l.take m).map gD3).reverse],?_,?_,?_⟩
     ·refine⟨_,rfl,?_⟩;rw [J7,IX,HH];rfl
     ·rintro m d _ _ hd ⟨x,rfl,rfl⟩;rw [Ho] at hd;cases hg:l[m]? with
      | none=>rw [show (ring,l).2[m]?=MF from hg] at hd;cases hd
      | some g =>
       rw [show (ring,l).2[m]?=MA g from hg] at hd;cases hd;have tk:l.take (m+1)=l.take m++[g]:=by
        rw [K0,hg];rfl
       have sp:l=l.take m++g :: l.drop (m+1):=by
        obtain⟨hlt,e⟩:=Hg.mp hg;rw [<-e,<- Lq hlt,Kl]
       have hnew:g∉flat ts++l.take m:=λz=>by
        have nd3:(flat ts++l).Nodup:=nd2;rw [sp,<- Jg] at nd3;exact (IA.mp nd3).2.2 g z g (Hk ..) rfl
       have len:(((flat ts++l.take m).map gD3).reverse).length<300:=by
        rw [KA,Hc,HA,Im];have:(flat ts++l).length<=98:=hf;rw [HA] at this;omega
       refine zg (DP (i:=5) (j:=1) rfl rfl len (aZ (zi rfl ⟨bp _,λz=>?_,λ_=>?_⟩)))
       ·rw [JJ,Hz] at z;obtain⟨a,ha,e⟩:=z;exact absurd (lY e▸ha) hnew
       ·refine⟨_,rfl,?_⟩;show [OC.lst _,OC.set (gD3 g :: ((flat ts++l.take m).map gD3).reverse)]=_;rw [tk,<- Jg,HH (l₁:=flat ts++l.take m),JE];rfl
     ·rintro _ _ ⟨x,rfl,rfl⟩;refine⟨ts++[(ring,l)],_,_,_,rfl,?_,T2,λj g hj hg=>?_⟩
      ·rw [Hc,show (ring,l).2.length=l.length from rfl,Ic,bQ]
      ·rw [bQ];rcases LC.mp hj with h | h
       ·exact HQ _ (past j g h hg)
       ·rw [h,hq] at hg;cases hg;exact HJ _ (JX hh)
  ·rintro _ _ ⟨ts,u,v,x,rfl,rfl,T,past⟩;have few:=T.few gd;refine fk (eF (m5 "str" (zi (i:=4) (d:=.list (ts.map jF)) ?_ ⟨_,rfl,A7 T,by rw [Hc];omega,.inl (by rw [Hc];omega),λes pm up=>?_⟩)))
   ·show MA (freed _ _ _)=_;simp [freed]
   ·obtain⟨us,p,rfl⟩:=perm_map_inv pm ts rfl;refine⟨us,rfl,T.perm p,λg og=>?_,up⟩;have hm:g∈S:=by rw [<-hS];exact HJ _ (jw.mpr og)
    obtain⟨j,hj⟩:=Ii hm;obtain⟨hlt,_⟩:=Hg.mp hj;exact (p.flatMap_right _).mem_iff.mpr (past j g (by rw [Hc];exact hlt) hj)
section
variable {Mt:Nb} {wd:Nat} {MK:Int}
theorem Af {q:Bool} {l:List Gt} (L:LineOk Mt wd MK q l) {t:Bool×List Gt} (T:LineOk Mt wd MK t.1 t.2) (st:l3 Mt wd MK t) {h:Gt} (hl:h∈l) (ht:h∈t.2):∀ g∈l,g∈t.2:=by
 obtain⟨j,hj⟩:=Ii hl;obtain⟨hlt,_⟩:=Hg.mp hj;have up:∀ n i,i=j+n->∀ g,l[i]?=MA g->g∈t.2:=λn=>by
  induction n with
  | zero =>
   intro i hi g hg;rw [hi,Nat.add_zero,hj] at hg;cases hg;exact ht
  | succ n ih =>
   intro i hi g hg;obtain⟨hl2,_⟩:=Hg.mp hg;have a1:l[j+n]?=MA l[j+n]:=Hd (by omega);rw [show i=j+n+1 by omega] at hg;exact eR T (ih _ rfl _ a1) (L.ch _ _ _ a1 hg)
 have dn:∀ n i,i+n=j->∀ g,l[i]?=MA g->g∈t.2:=λn=>by
  induction n with
  | zero =>
   intro i hi g hg;rw [show i=j by omega,hj] at hg;cases hg;exact ht
  | succ n ih =>
   intro i hi g hg;have a1:l[i+1]?=MA l[i+1]:=Hd (by omega);exact eQ T st (L.op g (Hu hg)) (ih (i+1) (by omega) _ a1) (L.ch i _ _ hg a1)
 intro g hg;obtain⟨i,hi⟩:=Ii hg;by_cases h':j<=i
 ·exact up (i - j) i (by omega) g hi
 ·exact dn (j - i) i (by omega) g hi
theorem gX:∀ {l m:M9},(∀ d∈l,zA d=MC)->(l.Pairwise λd e=>ltD d e=MC)->(m.Pairwise λd e=>ltD d e=MC)->(∀ d,d∈l↔d∈m)->l=m
 | [],[],_,_,_,_=>rfl
 | [],b :: m,_,_,_,h=>nomatch (h b).mpr (Hk ..)
 | a :: l,[],_,_,_,h=>nomatch (h a).mp (Hk ..)
 | a :: l,b :: m,pl,p,q,h=>by
  obtain⟨p1,p2⟩:=Js.mp p;obtain⟨q1,q2⟩:=Js.mp q;have pa:=pl a (Hk ..);have pb:=pl b ((h b).mpr (Hk ..));have ab:a=b:=by
   rcases Hv.mp ((h a).mp (Hk ..)) with e | e
   ·exact e
   ·rcases Hv.mp ((h b).mpr (Hk ..)) with e' | e'
    ·exact e'.symm
    ·have:=gw _ _ _ pa pb pa (p1 b e') (q1 a e);rw [qB a pa] at this;cases this
  subst ab;rw [gX (λd hd=>pl d (Hl _ hd)) p2 q2 λd=>?_];constructor
  ·intro hd;rcases Hv.mp ((h d).mp (Hl _ hd)) with e | e
   ·have:=p1 d hd;rw [e,qB a pa] at this;cases this
   ·exact e
  ·intro hd;rcases Hv.mp ((h d).mpr (Hl _ hd)) with e | e
   ·have:=q1 d hd;rw [e,qB a pa] at this;cases this
   ·exact e
end
abbrev Pt:=Int×Int
noncomputable def pD (p:Pt):MB:=.tuple [.int p.1,.int p.2]
theorem aG {a b:Pt} (h:pD a=pD b):a=b:=by
 obtain⟨x,y⟩:=a;obtain⟨x',y'⟩:=b;unfold pD at h;simp at h;simp [h]
theorem jo (p:Pt):eX (pD p):=⟨⟨rfl,HB rfl⟩,_,rfl⟩
theorem aH {l:List Pt} {p:Pt}:pD p∈l.map pD↔p∈l:=by
 rw [Hz];exact⟨λ⟨q,hq,e⟩=>aG e▸hq,λh=>⟨p,h,rfl⟩⟩
theorem FE {l:List Pt} (nd:l.Nodup):SortOk "int" (l.map pD) where
 plain:=λd hd=>by obtain⟨g,_,rfl⟩:=Hz.mp hd;rfl
 head:=λd hd=>by obtain⟨g,_,rfl⟩:=Hz.mp hd;rfl
 cmp:=λd hd e he=>by
  obtain⟨⟨x,y⟩,_,rfl⟩:=Hz.mp hd;obtain⟨⟨x',y'⟩,_,rfl⟩:=Hz.mp he;show vK (.tuple [.int x,.int y]) (.tuple [.int x',.int y'])=MC;simp only [vK,qA];split
  ·split <;> rfl
  ·rfl
 depth:=λd hd=>by obtain⟨g,_,rfl⟩:=Hz.mp hd;exact HB rfl
 nd:=IF.mpr (nd.imp λ{a b} h e=>h (aG e))
theorem w8 (l:List Pt):∀ d∈l.map pD,zA d=MC:=λd hd=>by obtain⟨g,_,rfl⟩:=Hz.mp hd;rfl
theorem l5 {l m:List Pt} (p:(l.map pD).Pairwise λd e=>ltD d e=MC) (q:(m.map pD).Pairwise λd e=>ltD d e=MC) (h:∀ x,x∈l↔x∈m):l=m:=by
 have e:l.map pD=m.map pD:=gX (w8 l) p q λd=>by
  constructor
  ·intro hd;obtain⟨x,hx,rfl⟩:=Hz.mp hd;exact aH.mpr ((h x).mp hx)
  ·intro hd;obtain⟨x,hx,rfl⟩:=Hz.mp hd;exact aH.mpr ((h x).mpr hx)
 exact (List.map_inj_right λ_ _=>aG).mp e
section
variable (Mt:Nb) (wd:Nat) (MK:Int)
noncomputable def inP (p:Pt):Bool:=z7 Mt wd p.1 p.2
noncomputable def hiP (p:Pt):Bool:=hiB Mt MK p.1 p.2
noncomputable def nbL (p:Pt):List Pt:=[(p.1 - 1,p.2),(p.1,p.2 - 1),(p.1,p.2+1),(p.1+1,p.2)]
noncomputable def caL (p:Pt):List Pt:=[(p.1 - 1,p.2 - 1),(p.1 - 1,p.2),(p.1,p.2 - 1),(p.1,p.2)]
noncomputable def asl (p c:Pt):Pt:=(2 * c.1+1 - p.1,2 * c.2+1 - p.2)
noncomputable def ve (c:Pt):Bool:=zS Mt wd c.1 c.2
noncomputable def jJ (p:Pt):List Pt:=(((nbL p).filter (inP Mt wd)).filter λq=>hiP Mt MK q == hiP Mt MK p)++((((caL p).filter (ve Mt wd)).filter λc=>yX Mt wd MK c.1 c.2 && (jV Mt MK c.1 c.2 == hiP Mt MK p)).map (asl p))
inductive Reach (s:Pt):Pt->Prop where
 | refl:Reach s s
 | step {p q:Pt}:Reach s p->q∈jJ Mt wd MK p->Reach s q
end
section
variable {Mt:Nb} {wd:Nat} {MK:Int}
theorem gY {a b:Int} (c:zS Mt wd a b=MC) (h:yX Mt wd MK a b=MC):hiB Mt MK (a+1) b=!hiB Mt MK a b/\hiB Mt MK a (b+1)=!hiB Mt MK a b/\hiB Mt MK (a+1) (b+1)=hiB Mt MK a b:=by
 unfold yX cg opG at h;simp only [KG,LU,KJ,Hq] at h;rw [dm c,gR c,dq c,dr c] at h
 revert h
 cases hiB Mt MK a b <;> cases hiB Mt MK (a+1) b <;> cases hiB Mt MK a (b+1) <;> cases hiB Mt MK (a+1) (b+1) <;> decide
theorem y9 {p q:Pt}:q∈nbL p↔(q=(p.1 - 1,p.2) \/ q=(p.1,p.2 - 1) \/ q=(p.1,p.2+1) \/ q=(p.1+1,p.2)):=by
 unfold nbL;simp only [Hv,IB,or_false]
theorem aI {p q:Pt} (h:q∈nbL p):p∈nbL q:=by
 rw [y9] at h ⊢;obtain⟨x,y⟩:=p;rcases h with rfl | rfl | rfl | rfl
 ·exact .inr (.inr (.inr (by simp)))
 ·exact .inr (.inr (.inl (by simp)))
 ·exact .inr (.inl (by simp))
 ·exact .inl (by simp)
theorem FF {p c:Pt}:c∈caL p↔(c=(p.1 - 1,p.2 - 1) \/ c=(p.1 - 1,p.2) \/ c=(p.1,p.2 - 1) \/ c=(p.1,p.2)):=by
 unfold caL;simp only [Hv,IB,or_false]
theorem cI {p c:Pt}:c∈caL p↔((p.1=c.1 \/ p.1=c.1+1)/\(p.2=c.2 \/ p.2=c.2+1)):=by
 rw [FF];obtain⟨x,y⟩:=p;obtain⟨a,b⟩:=c;simp only [Prod.mk.injEq];omega
theorem C6 (p c:Pt):asl (asl p c) c=p:=by
 obtain⟨x,y⟩:=p;unfold asl;simp only [Prod.mk.injEq];omega
theorem FG {p c:Pt} (h:c∈caL p):c∈caL (asl p c):=by
 rw [cI] at h ⊢;unfold asl;dsimp only;omega
theorem sk {p c:Pt} (h:c∈caL p) (cc:ve Mt wd c=MC) (x:yX Mt wd MK c.1 c.2=MC):hiP Mt MK (asl p c)=hiP Mt MK p/\inP Mt wd (asl p c)=MC:=by
 obtain⟨h1,h2,h3⟩:=gY cc x;obtain⟨i1,i2,i3,i4⟩:=cell_in cc;obtain⟨a,b⟩:=c;obtain⟨u,v⟩:=p;rw [cI] at h;dsimp only at h h1 h2 h3 i1 i2 i3 i4;unfold hiP inP asl;dsimp only;obtain⟨hu,hv⟩:=h;rcases hu with rfl | rfl <;> rcases hv with rfl | rfl
 ·rw [show 2 * u+1 - u=u+1 by omega,show 2 * v+1 - v=v+1 by omega];exact⟨h3,i3⟩
 ·rw [show 2 * u+1 - u=u+1 by omega,show 2 * b+1 - (b+1)=b by omega];exact⟨by rw [h1,h2],i2⟩
 ·rw [show 2 * a+1 - (a+1)=a by omega,show 2 * v+1 - v=v+1 by omega];exact⟨by rw [h1,h2],i4⟩
 ·rw [show 2 * a+1 - (a+1)=a by omega,show 2 * b+1 - (b+1)=b by omega];exact⟨h3.symm,i1⟩
theorem mem_join {p q:Pt}:q∈jJ Mt wd MK p↔((q∈nbL p/\inP Mt wd q=MC/\hiP Mt MK q=hiP Mt MK p) \/ ∃ c,c∈caL p/\ve Mt wd c=MC/\yX Mt wd MK c.1 c.2=MC/\jV Mt MK c.1 c.2=hiP Mt MK p/\q=asl p c):=by
 unfold jJ;rw [HC,HV,HV,Hz];constructor
 ·rintro (⟨⟨h1,h2⟩,h3⟩ | ⟨c,hc,rfl⟩)
  ·exact .inl ⟨h1,h2,by simpa using h3⟩
  ·obtain⟨h1,h2⟩:=HV.mp hc;obtain⟨h3,h4⟩:=HV.mp h1;rw [Hq] at h2;exact .inr ⟨c,h3,h4,h2.1,by simpa using h2.2,rfl⟩
 ·rintro (⟨h1,h2,h3⟩ | ⟨c,h1,h2,h3,h4,rfl⟩)
  ·exact .inl ⟨⟨h1,h2⟩,by simpa using h3⟩
  ·refine .inr ⟨c,HV.mpr ⟨HV.mpr ⟨h1,h2⟩,?_⟩,rfl⟩;rw [h3,h4];simp
theorem aJ {p q:Pt} (h:q∈jJ Mt wd MK p):inP Mt wd q=MC/\hiP Mt MK q=hiP Mt MK p:=by
 rcases mem_join.mp h with⟨_,h2,h3⟩ | ⟨c,h1,h2,h3,_,rfl⟩
 ·exact⟨h2,h3⟩
 ·exact⟨(sk h1 h2 h3).2,(sk h1 h2 h3).1⟩
theorem w9 {p q:Pt} (hp:inP Mt wd p=MC) (h:q∈jJ Mt wd MK p):p∈jJ Mt wd MK q:=by
 rcases mem_join.mp h with⟨h1,h2,h3⟩ | ⟨c,h1,h2,h3,h4,rfl⟩
 ·exact mem_join.mpr (.inl ⟨aI h1,hp,h3.symm⟩)
 ·exact mem_join.mpr (.inr ⟨c,FG h1,h2,h3,h4.trans (sk h1 h2 h3).1.symm,(C6 p c).symm⟩)
theorem Reach.trans {s p q:Pt} (h:Reach Mt wd MK s p) (h':Reach Mt wd MK p q):Reach Mt wd MK s q:=by
 induction h' with
 | refl=>exact h
 | step _ hq ih=>exact ih.step hq
theorem Reach.ins {s p:Pt} (hs:inP Mt wd s=MC) (h:Reach Mt wd MK s p):inP Mt wd p=MC/\hiP Mt MK p=hiP Mt MK s:=by
 induction h with
 | refl=>exact⟨hs,rfl⟩
 | step _ hq ih=>exact⟨(aJ hq).1,(aJ hq).2.trans ih.2⟩
theorem Reach.symm {s p:Pt} (hs:inP Mt wd s=MC) (h:Reach Mt wd MK s p):Reach Mt wd MK p s:=by
 induction h with
 | refl=>exact .refl
 | step h1 hq ih=>exact (Reach.refl.step (w9 (h1.ins hs).1 hq)).trans ih
structure Reg (Mt:Nb) (wd:Nat) (MK:Int) (r:Bool×List Pt) (h:Pt):Prop where
 hd:r.2.head?=MA h
 up:(r.2.map pD).Pairwise λd e=>ltD d e=MC
 mem:∀ q,q∈r.2↔Reach Mt wd MK h q
 inn:inP Mt wd h=MC
 hi:r.1=hiP Mt MK h
structure Regs (Mt:Nb) (wd:Nat) (MK:Int) (rs:List (Bool×List Pt)):Prop where
 reg:∀ r∈rs,∃ h,Reg Mt wd MK r h
 all:∀ p,inP Mt wd p=MC->∃ r∈rs,p∈r.2
 ord:rs.Pairwise λa b=>∀ p q,a.2.head?=MA p->b.2.head?=MA q->ltD (pD p) (pD q)=MC
theorem C7 {r r':Bool×List Pt} {h h':Pt} (R:Reg Mt wd MK r h) (R':Reg Mt wd MK r' h') {p:Pt} (hp:p∈r.2) (hp':p∈r'.2):r=r':=by
 have a1:=(R.mem p).mp hp;have a2:=(R'.mem p).mp hp';have e:r.2=r'.2:=l5 R.up R'.up λx=>by
  rw [R.mem,R'.mem];exact⟨λz=>a2.trans ((a1.symm R.inn).trans z),λz=>a1.trans ((a2.symm R'.inn).trans z)⟩
 have eh:h=h':=by
  have:=R.hd;rw [e,R'.hd] at this;exact (ML this).symm
 exact JM (by rw [R.hi,R'.hi,eh]) e
noncomputable def y6 (t n:Nat):List Pt:=(HN n).flatMap λ(x:Nat)=>(HN t).map λ(y:Nat)=>((x:Int),(y:Int))
theorem dw (t n:Nat):qG t n=(y6 t n).map pD:=by
 unfold qG y6;rw [LI]
 congr 1
 funext x
 rw [Iw];rfl
theorem jl {p:Pt}:p∈y6 Mt.length wd↔inP Mt wd p=MC:=by
 unfold y6 inP z7;rw [Ig];constructor
 ·rintro⟨x,hx,h⟩;obtain⟨y,hy,rfl⟩:=Hz.mp h;rw [Ia] at hx hy;simp only [Hq,decide_eq_true_eq];omega
 ·intro h;simp only [Hq,decide_eq_true_eq] at h;obtain⟨u,v⟩:=p;dsimp only at h;refine⟨u.toNat,Ia.mpr (by omega),Hz.mpr ⟨v.toNat,Ia.mpr (by omega),?_⟩⟩;simp only [Prod.mk.injEq];omega
theorem vf (t:Nat):∀ n,(y6 t n).length=t * n
 | 0=>rfl
 | n+1=>by
  unfold y6;rw [Kh,Jn,HA];have:=vf t n;unfold y6 at this;rw [this];simp only [JW,List.flatMap_nil,IX,Hc,HY];rw [Mr]
theorem Bb {a b:Pt} (h:a.1<b.1 \/ (a.1=b.1/\a.2<b.2)):ltD (pD a) (pD b)=MC:=by
 obtain⟨x,y⟩:=a;obtain⟨x',y'⟩:=b;dsimp only at h;show ltD (.tuple [.int x,.int y]) (.tuple [.int x',.int y'])=MC;have e:∀ i j:Int,HU (.int i) (.int j)=(i == j):=λi j=>rfl;simp only [ltD,ltL,e,beq_iff_eq];by_cases h1:x=x'
 ·rw [Mw h1,Mv (by omega)];exact Mx (by omega)
 ·rw [Mv h1];exact Mx (by omega)
theorem uc (t n:Nat):((y6 t n).map pD).Pairwise λd e=>ltD d e=MC:=by
 rw [IF];unfold y6;refine lS n (λx _=>?_) λx x' hx _ a ha b hb=>?_
 ·rw [IF];refine List.Pairwise.imp (λ{a b} h=>?_) LQ;exact Bb (a:=((x:Int),(a:Int))) (b:=((x:Int),(b:Int))) (.inr ⟨rfl,by show (a:Int)<b;omega⟩)
 ·obtain⟨y,_,rfl⟩:=Hz.mp ha;obtain⟨y',_,rfl⟩:=Hz.mp hb;exact Bb (.inl (by show (x:Int)<x';omega))
theorem qQ (g:Good wd Mt) {l:List Pt} (nd:l.Nodup) (h:∀ p∈l,inP Mt wd p=MC):l.length<=49:=by
 have key:∀ (l m:List Pt),l.Nodup->(∀ x∈l,x∈m)->l.length<=m.length:=λl=>by
  induction l with
  | nil=>intro m _ _;exact HR _
  | cons a l ih =>
   intro m nd sub;have ha:=sub a (Hk ..);have hn:=ID.mp nd;have le:=KL ha;have hp:0<m.length:=K1 ha;have:=ih (m.erase a) hn.2 (λy hy=>(Ks (λ(z:y=a)=>hn.1 (z▸hy))).mpr (sub y (Hl _ hy)));rw [HK];omega
 have h1:=key l (y6 Mt.length wd) nd λp hp=>jl.mpr (h p hp);rw [vf] at h1;exact HM h1 (JC g.h2 g.w2)
end
structure Seek (Mt:Nb) (wd:Nat) (MK:Int) (st:Pt) (fs ws:List Pt):Prop where
 nd:fs.Nodup
 wn:ws.Nodup
 fst:st∈fs
 re:∀ p∈fs,Reach Mt wd MK st p
 sub:∀ p∈ws,p∈fs
 cl:∀ p∈fs,p∉ws->∀ q∈jJ Mt wd MK p,q∈fs
theorem Seek.done {Mt:Nb} {wd:Nat} {MK:Int} {st:Pt} {fs:List Pt} (S:Seek Mt wd MK st fs []) (q:Pt):q∈fs↔Reach Mt wd MK st q:=by
 refine⟨S.re q,λh=>?_⟩
 induction h with
 | refl=>exact S.fst
 | step _ hq ih=>exact S.cl _ ih IB _ hq
theorem Seek.turn {Mt:Nb} {wd:Nat} {MK:Int} {st p:Pt} {fs ws new:List Pt} (S:Seek Mt wd MK st fs (ws++[p])) (nd:(fs++new).Nodup) (hn:∀ q∈new,q∈jJ Mt wd MK p) (all:∀ q∈jJ Mt wd MK p,q∈fs++new):Seek Mt wd MK st (fs++new) (ws++new) where
 nd:=nd
 wn:=by
  obtain⟨n1,n2,n3⟩:=IA.mp nd;obtain⟨m1,_,_⟩:=IA.mp S.wn;exact IA.mpr ⟨m1,n2,λa ha b hb=>n3 a (S.sub a (HQ _ ha)) b hb⟩
 fst:=HQ _ S.fst
 re:=λq hq=>by
  rcases HC.mp hq with h | h
  ·exact S.re q h
  ·exact (S.re p (S.sub p (by simp))).step (hn q h)
 sub:=λq hq=>by
  rcases HC.mp hq with h | h
  ·exact HQ _ (S.sub q (HQ _ h))
  ·exact HJ _ h
 cl:=λr hr nw q hq=>by
  by_cases e:r=p
  ·rw [e] at hq;exact all q hq
  ·rcases HC.mp hr with h | h
   ·refine HQ _ (S.cl r h (λz=>?_) q hq);rcases HC.mp z with z | z
    ·exact nw (HQ _ z)
    ·exact e (Hw.mp z)
   ·exact absurd (HJ _ h) nw
theorem Seek.few {Mt:Nb} {wd:Nat} {MK:Int} {st:Pt} {fs ws:List Pt} (S:Seek Mt wd MK st fs ws) (g:Good wd Mt) (hi:inP Mt wd st=MC):fs.length<=49:=qQ g S.nd λp hp=>((S.re p hp).ins hi).1
noncomputable abbrev ic (fs:List Pt):Nf:=fs.map λp=>(pD p,.bool MC)
theorem bR (fs:List Pt):(ic fs).map (·.1)=fs.map pD:=by rw [Iw];rfl
theorem Bc {fs:List Pt} {q:Pt} (h:q∉fs):dput (pD q) (.bool MC) (ic fs)=ic (fs++[q]):=by
 unfold dput;rw [Mv (by rw [bR,aH];exact h)];unfold ic;rw [HH];rfl
noncomputable def eg (r:Bool×List Pt):MB:=.tuple [.str (if r.1=MC then "high" else "low"),.tuple (r.2.map pD)]
abbrev TP:=Nb×Nat×Int×Int
abbrev FH (K:Hj):Sp:=spD K 3 (λ(c:TP) xs=>xs=[.dat (tab c.1),.dat (.int c.2.2.1),.dat (.int c.2.2.2)]/\Good c.2.1 c.1) λc r=>r=.list (((nbL (c.2.2.1,c.2.2.2)).filter (inP c.1 c.2.1)).map pD)
theorem Gy (F:Def K mg "neighbours" qJ pj) (ual:FnIn P w K mg base k "has_point" pj (tW K)):FnIn P w K mg base (k+1) "neighbours" pj (FH K):=by
 refine F.ok b7 rfl λfa cdv A outer s H E hr=>⟨_,(zc (zO (i:=3) b7.nd rfl (MM rfl) (yw (za (zE (za (zB yu (pv 1) zk) (za (pv 2) zb))) (za (zE (za (pv 1) (za (zB yu (pv 2) zk) zb))) (za (zE (za (pv 1) (za (zB yh (pv 2) zk) zb))) (za (zE (za (zB yh (pv 1) zk) (za (pv 2) zb))) zb)))))) (zj (zv (z6 (N:=pC) (own:=2) (fr:=[0]) (by walk_at "c") rfl (zF (K:=K) rfl (pv 3)) (λ_ _ _ _=>(zC (K:=K) (n:=2) rfl rfl (ze (zd (i:=0) (show (pC:MU).Nodup by decide +kernel) rfl (MM rfl) (MN rfl)) (ze (zd (i:=1) (show (pC:MU).Nodup by decide +kernel) rfl (MM rfl) (MN rfl)) zx)))) (λ_ _ _ _=>(jj (ya (K:=K) rfl (zf ual hr rfl (za (pv 2) (za (pv 0) (za (pv 1) zb)))) (λ_=>rfl)))) (λ_ _ _ _=>(zE (za (pv 0) (za (pv 1) zb)))) rfl rfl (λ_=>rfl))))),?_⟩;rintro f xs ⟨Mt,wd,x,y⟩ hl ⟨rfl,g⟩
 try dsimp only [yd,zm]
 dsimp only at *;refine gH (λρ=>ρ=[MA (.dat (tab Mt)),MA (.dat (.int x)),MA (.dat (.int y)),MA (.dat (.list ((nbL (x,y)).map pD)))]) ?_ ?_
 ·walk_at "w";rfl
 rintro _ rfl;refine yA (PEdO.ped (cC (A:=pD) (B:=pD) (inP Mt wd) (nbL (x,y)) (yf (zi rfl ⟨_,rfl,rfl,HB rfl,?_,rfl⟩))));rintro D ⟨a,b⟩ ρ' es hg ho hes;obtain⟨u1,u2,rfl⟩:=ho.two;refine yg rfl (zo (zg (zo (zg (zP (yY (zt (Mt,wd,a,b) ?_)))))));walk_at "w";rintro _ rfl;refine⟨_,rfl,rfl,yr (λh=>?_) λh=>?_⟩
 ·refine yn hes ?_;walk_at "w";exact⟨⟨[_,_],rfl,rfl⟩,rfl⟩
 ·exact⟨[_,_],rfl,rfl⟩
abbrev Gz (K:Hj):Sp:=spD K 3 (λ(c:TP) xs=>xs=[.dat (tab c.1),.dat (.int c.2.2.1),.dat (.int c.2.2.2)]/\Good c.2.1 c.1) λc r=>r=.list (((caL (c.2.2.1,c.2.2.2)).filter (ve c.1 c.2.1)).map pD)
theorem GA (F:Def K mg "cells_at" au pj) (uaE:FnIn P w K mg base k "has_cell" pj (lU K)):FnIn P w K mg base (k+1) "cells_at" pj (Gz K):=by
 refine F.ok eM rfl λfa cdv A outer s H E hr=>⟨_,(zc (zO (i:=3) eM.nd rfl (MM rfl) (yw (za (zE (za (zB yu (pv 1) zk) (za (zB yu (pv 2) zk) zb))) (za (zE (za (zB yu (pv 1) zk) (za (pv 2) zb))) (za (zE (za (pv 1) (za (zB yu (pv 2) zk) zb))) (za (zE (za (pv 1) (za (pv 2) zb))) zb)))))) (zj (zv (z6 (N:=pC) (own:=2) (fr:=[0]) (by walk_at "c") rfl (zF (K:=K) rfl (pv 3)) (λ_ _ _ _=>(zC (K:=K) (n:=2) rfl rfl (ze (zd (i:=0) (show (pC:MU).Nodup by decide +kernel) rfl (MM rfl) (MN rfl)) (ze (zd (i:=1) (show (pC:MU).Nodup by decide +kernel) rfl (MM rfl) (MN rfl)) zx)))) (λ_ _ _ _=>(jj (ya (K:=K) rfl (zf uaE hr rfl (za (pv 2) (za (pv 0) (za (pv 1) zb)))) (λ_=>rfl)))) (λ_ _ _ _=>(zE (za (pv 0) (za (pv 1) zb)))) rfl rfl (λ_=>rfl))))),?_⟩;rintro f xs ⟨Mt,wd,x,y⟩ hl ⟨rfl,g⟩
 try dsimp only [yd,zm]
 dsimp only at *;refine gH (λρ=>ρ=[MA (.dat (tab Mt)),MA (.dat (.int x)),MA (.dat (.int y)),MA (.dat (.list ((caL (x,y)).map pD)))]) ?_ ?_
 ·walk_at "w";rfl
 rintro _ rfl;refine yA (PEdO.ped (cC (A:=pD) (B:=pD) (ve Mt wd) (caL (x,y)) (yf (zi rfl ⟨_,rfl,rfl,HB rfl,?_,rfl⟩))));rintro D ⟨a,b⟩ ρ' es hg ho hes;obtain⟨u1,u2,rfl⟩:=ho.two;refine yg rfl (zo (zg (zo (zg (zP (yY (zt (Mt,wd,a,b) ?_)))))));walk_at "w";rintro _ rfl;refine⟨_,rfl,rfl,yr (λh=>?_) λh=>?_⟩
 ·refine yn hes ?_;walk_at "w";exact⟨⟨[_,_],rfl,rfl⟩,rfl⟩
 ·exact⟨[_,_],rfl,rfl⟩
abbrev TC:=Nb×Nat×Int×Pt
abbrev GB (c:TC) (xs:List DV):Prop:=xs=[.dat (tab c.1),.dat (.int c.2.2.1),.dat (pD c.2.2.2)]/\Good c.2.1 c.1/\inP c.1 c.2.1 c.2.2.2=MC
abbrev Bd (K:Hj):Sp:=spD K 3 GB λc r=>r=.list ((jJ c.1 c.2.1 c.2.2.1 c.2.2.2).map pD)
theorem oC {α:Type} {p q:α->Bool} {l:List α} {n:Nat} (h:l.length<=n):((l.filter p).filter q).length<=n:=HM (Ij _ _) (HM (Ij _ _) h)
theorem C8 (F:Def K mg "joined" dk pA) (uah:FnIn P w K mg base k "stands_high" pA (d6 K)) (uaN:FnIn P w K mg base k "neighbours" pj (FH K)) (ubr:FnIn P w K mg base k "cells_at" pj (Gz K))
  (uaJ:FnIn P w K mg base k "is_crossed" pq (d7 K)) (uaI:FnIn P w K mg base k "has_high_middle" pq (AU K)):FnIn P w K mg base (k+1) "joined" pA (Bd K):=by
 refine F.ok qU rfl λfa cdv A outer s H E hr=>⟨_,(zc (z9 (pv 2) (zC (K:=K) (n:=2) rfl rfl (ze (zd (i:=3) qU.nd rfl (MN rfl) (MM rfl)) (ze (zd (i:=4) qU.nd rfl (MN rfl) (MM rfl)) zx)))) (zc (zO (i:=5) qU.nd rfl (MN rfl) (zf uah hr rfl (za (pv 0) (za (pv 1) (za (pv 2) zb))))) (zc (y3 (i:=6) (N:=["other","rows","cut","high"]) (own:=1) (fr:=[0,1,5]) (by walk_at "c") rfl qU.nd rfl (MM rfl) (zF (K:=K) rfl (zf uaN hr rfl (za (pv 0) (za (pv 3) (za (pv 4) zb))))) (λ_ _ _ _=>(zd (i:=0) (show (["other","rows","cut","high"]:MU).Nodup by decide +kernel) rfl (MM rfl) (MN rfl))) (λ_ _ _ _=>(jj (zM (y7 (K:=K) rfl hr.units) (zf uah hr rfl (za (pv 1) (za (pv 2) (za (pv 0) zb)))) (pv 3) (zX _)))) (λ_ _ _ _=>(pv 0)) rfl rfl (λ_=>rfl) (MM rfl) rfl) (zc (y3 (i:=7) (N:=qe) (own:=2) (fr:=[0,1,3,4,5]) (by walk_at "c") rfl qU.nd rfl (MM rfl) (zF (K:=K) rfl (zf ubr hr rfl (za (pv 0) (za (pv 3) (za (pv 4) zb))))) (λ_ _ _ _=>(zC (K:=K) (n:=2) rfl rfl (ze (zd (i:=0) (show (qe:MU).Nodup by decide +kernel) rfl (MM rfl) (MN rfl)) (ze (zd (i:=1) (show (qe:MU).Nodup by decide +kernel) rfl (MM rfl) (MN rfl)) zx)))) (λ_ _ _ _=>(jj (PW.pt (cf (ya (K:=K) rfl (zf uaJ hr rfl (za (pv 2) (za (pv 3) (za (zE (za (pv 0) (za (pv 1) zb))) zb)))) (λ_=>rfl)) (af (zM (y7 (K:=K) rfl hr.units) (zf uaI hr rfl (za (pv 2) (za (pv 3) (za (zE (za (pv 0) (za (pv 1) zb))) zb)))) (pv 6) (zX _))))))) (λ_ _ _ _=>(zE (za (zB yu (zB yh (zB aR zk (pv 0)) zk) (pv 4)) (za (zB yu (zB yh (zB aR zk (pv 1)) zk) (pv 5)) zb)))) rfl rfl (λ_=>rfl) (MM rfl) rfl) (zj (zv (zB (gp (K:=K) rfl) (pv 6) (pv 7)))))))),?_⟩;rintro f xs ⟨Mt,wd,MK,⟨x,y⟩⟩ hl ⟨rfl,g,ip⟩
 try dsimp only [yd,zm]
 dsimp only at *;refine yq (yb (zi rfl (yg rfl (zo (zg (zo (zg (zP ?_))))))));refine gH (λρ=>ρ=[MA (.dat (tab Mt)),MA (.dat (.int MK)),MA (.dat (pD (x,y))),MA (.dat (.int x)),MA (.dat (.int y)),MA (.dat (.bool (hiP Mt MK (x,y)))),MF,MF]) (yb (zt (Mt,wd,MK,x,y) ?_)) ?_
 ·walk_at "w";rintro _ rfl;exact zg rfl
 rintro _ rfl;refine gH (λρ=>ρ=[MA (.dat (tab Mt)),MA (.dat (.int MK)),MA (.dat (pD (x,y))),MA (.dat (.int x)),MA (.dat (.int y)),MA (.dat (.bool (hiP Mt MK (x,y)))),MA (.dat (.list ((((nbL (x,y)).filter (inP Mt wd)).filter λq=>hiP Mt MK q == hiP Mt MK (x,y)).map pD))),MF])
  (yb (PEdO.ped (cC (A:=pD) (B:=pD) (λq=>hiP Mt MK q == hiP Mt MK (x,y)) ((nbL (x,y)).filter (inP Mt wd)) (yf (zt (Mt,wd,x,y) ?_))))) ?_
 ·walk_at "w";rintro _ rfl;refine⟨_,rfl,rfl,HM (Ij _ _) (HB rfl),?_,zg rfl⟩;rintro D ⟨a,b⟩ ρ' es hg ho hes;have hi:inP Mt wd (a,b)=MC:=(HV.mp hg).2;obtain⟨u1,rfl⟩:=ho.one;refine zg (yi (jH (zt (Mt,wd,MK,a,b) ?_)));walk_at "w";rintro _ rfl;walk_at "w";refine yr (λh=>?_) λh=>?_
  ·refine yn hes ?_;walk_at "w";exact⟨⟨[_],rfl,rfl⟩,rfl⟩
  ·exact⟨[_],rfl,rfl⟩
 rintro _ rfl;refine gH (λρ=>ρ=[MA (.dat (tab Mt)),MA (.dat (.int MK)),MA (.dat (pD (x,y))),MA (.dat (.int x)),MA (.dat (.int y)),MA (.dat (.bool (hiP Mt MK (x,y)))),MA (.dat (.list ((((nbL (x,y)).filter (inP Mt wd)).filter λq=>hiP Mt MK q == hiP Mt MK (x,y)).map pD))),MA (.dat (.list (((((caL (x,y)).filter (ve Mt wd)).filter λc=>yX Mt wd MK c.1 c.2 && (jV Mt MK c.1 c.2 == hiP Mt MK (x,y))).map (asl (x,y))).map pD)))])
  (yb (PEdO.ped (cC (A:=pD) (B:=λc=>pD (asl (x,y) c)) (λc=>yX Mt wd MK c.1 c.2 && (jV Mt MK c.1 c.2 == hiP Mt MK (x,y))) ((caL (x,y)).filter (ve Mt wd)) (yf (zt (Mt,wd,x,y) ?_))))) ?_
 ·walk_at "w";rintro _ rfl;refine⟨_,rfl,rfl,HM (Ij _ _) (HB rfl),?_,zg (by rw [Iw];rfl)⟩;rintro D ⟨a,b⟩ ρ' es hg ho hes;have hi:zS Mt wd a b=MC:=(HV.mp hg).2;obtain⟨u1,u2,rfl⟩:=ho.two;refine yg rfl (zo (zg (zo (zg (zP (iD (yY (zt (Mt,wd,MK,a,b) ?_))))))));walk_at "w";rintro _ rfl;refine⟨_,rfl,yr (λh1=>?_) λh1=>?_⟩
  ·have h1:yX Mt wd MK a b=MC:=h1;refine yi (jH (zt (Mt,wd,MK,a,b) ?_));walk_at "w";rintro _ rfl;walk_at "w";refine⟨by dsimp only;rw [h1,Kj];rfl,yr (λh=>?_) λh=>?_⟩
   ·refine yn hes ?_;walk_at "w";exact⟨⟨[_,_],rfl,rfl⟩,rfl⟩
   ·exact⟨[_,_],rfl,rfl⟩
  ·have h1:yX Mt wd MK a b=MG:=h1;exact⟨by dsimp only;rw [h1,Ko],⟨[_,_],rfl,rfl⟩⟩
 rintro _ rfl;refine yA (o9 (zi rfl ⟨_,rfl,zi rfl ⟨_,rfl,?_,?_⟩⟩))
 ·rw [Hc,Hc,Hc];have h1:=oC (p:=inP Mt wd) (q:=λq=>hiP Mt MK q == hiP Mt MK (x,y)) (l:=nbL (x,y)) (n:=4) (Ht 4);have h2:=oC (p:=ve Mt wd) (q:=λc=>yX Mt wd MK c.1 c.2 && (jV Mt MK c.1 c.2 == hiP Mt MK (x,y))) (l:=caL (x,y)) (n:=4) (Ht 4);omega
 ·rw [<-HH];rfl
noncomputable def GC (cs:List OC):Nat:=match cs with
 | [.dic kvs,.lst es]=>2 * (100 - kvs.length)+es.length
 | _=>0
abbrev sr (K:Hj):Sp:=spD K 3 GB λc r=>∃ l:List Pt,r=.tuple (l.map pD)/\((l.map pD).Pairwise λd e=>ltD d e=MC)/\∀ q,q∈l↔Reach c.1 c.2.1 c.2.2.1 c.2.2.2 q
theorem C9 (F:Def K mg "all_joined" qP pE) (uae:mg "sorted"=MF) (uac:mg "tuple"=MF) (ubs:FnIn P w K mg base k "joined" pA (Bd K)):FnIn P w K mg base (k+1) "all_joined" pE (sr K):=by
 refine F.ok jh rfl λfa cdv A outer s H E hr=>⟨_,(zc (zO (i:=3) jh.nd rfl (MM rfl) (Cm (w:=w) (K:=K) rfl rfl hr.units (pv 2) bU)) (zc (zO (i:=4) jh.nd rfl (MM rfl) (yw (za (pv 2) zb))) (zc (mD Ie (ya (K:=K) rfl (pv 4) (λ_=>rfl)) (zc (zO (i:=5) jh.nd rfl (MM rfl) (xF IP PySem.F.slot_list_pop PySem.F.type_list_pop Ey (pv 4))) (zj (yL Ie rfl (zF (K:=K) rfl (zf ubs hr rfl (za (pv 0) (za (pv 1) (za (pv 5) zb))))) (zd (i:=6) jh.nd rfl (MM rfl) (MN rfl)) (zj (yF (zM (k8 (w:=w) (K:=K) rfl rfl hr.units) (pv 6) (pv 3) rfl) (zc (z9 bU (aQ (pv 3) (pv 6) (bf (w:=w) (K:=K) rfl rfl hr.units))) (zj (yE (fT IP Je Jf jM (pv 4) (za (pv 6) zb))))) zV)))))) (zj (zv (jL (ju (K:=K) rfl) rfl uac IY (za (zD (nG (w:=w) (K:=K) rfl rfl rfl hr.units) rfl uae KN (za (pv 3) zb)) zb))))))),?_⟩;rintro f xs ⟨Mt,wd,MK,st⟩ hl ⟨rfl,g,ip⟩
 try dsimp only [yd,zm]
 dsimp only at *;refine gD (w:=w) (iN (Co λp=>zi rfl ⟨jo st,xM ⟨show 3<7 by decide,λD0=>?_⟩⟩));refine iN (vp (bY (zq (zi rfl (zL ⟨[pD st],rfl,HB rfl,show 4<7 by decide,λD1=>?_⟩)))));refine Av (λρ cs=>∃ (u5 u6:Option DV) (fs:List Pt),ρ=[MA (.dat (tab Mt)),MA (.dat (.int MK)),MA (.dat (pD st)),MA (.own (f.M.length+0)),MA (.own (f.M.length+1)),u5,u6]/\cs=[.dic (ic fs),.lst []]/\Seek Mt wd MK st fs [])
  (tM (λρ cs=>∃ (u5 u6:Option DV) (fs ws:List Pt),ρ=[MA (.dat (tab Mt)),MA (.dat (.int MK)),MA (.dat (pD st)),MA (.own (f.M.length+0)),MA (.own (f.M.length+1)),u5,u6]/\cs=[.dic (ic fs),.lst (ws.map pD)]/\Seek Mt wd MK st fs ws) (λ_ cs=>GC cs) ⟨MF,MF,[st],[st],rfl,rfl,?_⟩ ?_) ?_
 ·exact⟨by simp,by simp,Hw.mpr rfl,λp hp=>by rw [Hw.mp hp];exact .refl,λp hp=>hp,λp hp nw=>absurd hp nw⟩
 ·rintro _ _ ⟨u5,u6,fs,ws,rfl,rfl,S⟩;have few:=S.few g ip;rcases List.eq_nil_or_concat ws with rfl | ⟨ws',p,rfl⟩
  ·refine k7 (yY (zi (i:=4) (d:=.list []) ?_ ⟨MG,rfl,?_⟩))
   ·show MA (freed _ _ _)=_;simp [freed]
   ·rw [Mv He];exact⟨u5,u6,fs,rfl,rfl,S⟩
  ·rw [List.concat_eq_append] at S ⊢;have hp:=S.sub p (by simp);have ipp:=((S.re p hp).ins ip).1;have fw:(ws'++[p]).length<=49:=qQ g S.wn λq hq=>((S.re q (S.sub q hq)).ins ip).1;rw [HA] at fw;refine k7 (yY (zi (i:=4) (d:=.list ((ws'++[p]).map pD)) ?_ ⟨MC,?_,?_⟩))
   ·show MA (freed _ _ _)=_;simp [freed]
   ·rw [HH];show MA _=MA _;simp
   ·rw [Mw rfl];refine jg (Gr (i:=4) (j:=1) (es:=ws'.map pD) (d:=pD p) rfl (by rw [HH];rfl) ?_);refine vU (yf (zt (Mt,wd,MK,p) ?_));walk_at "w";rintro _ rfl;refine⟨_,rfl,λi ρ cs=>∃ (u6:Option DV) (new:List Pt),ρ=[MA (.dat (tab Mt)),MA (.dat (.int MK)),MA (.dat (pD st)),MA (.own (f.M.length+0)),MA (.own (f.M.length+1)),MA (.dat (pD p)),u6]/\cs=[.dic (ic (fs++new)),.lst ((ws'++new).map pD)]/\(fs++new).Nodup/\(∀ q∈new,q∈jJ Mt wd MK p)/\∀ q∈(jJ Mt wd MK p).take i,q∈fs++new,⟨u6,[],rfl,?_,?_,?_,?_⟩,?_,?_⟩
    ·rw [IX,IX];rfl
    ·rw [IX];exact S.nd
    ·exact λq hq=>nomatch hq
    ·exact λq hq=>by rw [J7] at hq;cases hq
    ·rintro i d _ _ hd ⟨u6,new,rfl,rfl,nd,hn,tk⟩;rw [Ho] at hd;cases eq:(jJ Mt wd MK p)[i]? with
     | none=>rw [eq] at hd;cases hd
     | some q =>
      rw [eq] at hd;cases hd;have hq:q∈jJ Mt wd MK p:=Hu eq;have few2:(fs++new).length<=49:=qQ g nd λr hr=>by
       rcases HC.mp hr with h | h
       ·exact ((S.re r h).ins ip).1
       ·exact (aJ (hn r h)).1
      rw [HA] at few2;have tk':(jJ Mt wd MK p).take (i+1)=(jJ Mt wd MK p).take i++[q]:=by rw [Iv,eq];rfl
      have dec:decide (pD q∈(ic (fs++new)).map (·.1))=decide (q∈fs++new):=by
       rw [bR];exact decide_eq_decide.mpr aH
      refine zg (hZ (Cn (neg:=MC) (i:=3) (j:=0) rfl rfl (aZ (zi rfl ⟨jo q,?_⟩))));rw [Mw rfl,dec];refine yr (λh=>?_) λh=>?_
      ·have hq':q∉fs++new:=by simpa using h
       refine jg (nE (i:=3) (j:=0) rfl rfl (by rw [Hc,HA];omega) (xM (zi rfl ⟨jo q,?_⟩)));refine gE (i:=4) (j:=1) rfl rfl (by rw [Hc,HA];omega) (aZ (zi rfl ?_));refine⟨_,new++[q],rfl,?_,?_,?_,?_⟩
       ·rw [Bc hq',Jg,<- Jg ws',HH (l₁:=ws'++new)];rfl
       ·rw [<-Jg];exact IA.mpr ⟨nd,by simp,λa ha b hb e=>hq' (by rw [Hw.mp hb] at e;exact e▸ha)⟩
       ·intro r hr;rcases HC.mp hr with h | h
        ·exact hn r h
        ·rw [Hw.mp h];exact hq
       ·intro r hr;rw [tk'] at hr;rw [<-Jg];rcases HC.mp hr with h | h
        ·exact HQ _ (tk r h)
        ·exact HJ _ h
      ·have hq':q∈fs++new:=I9 λz=>by rw [Mz z] at h;cases h
       refine va ⟨_,new,rfl,rfl,nd,hn,λr hr=>?_⟩;rw [tk'] at hr;rcases HC.mp hr with h | h
       ·exact tk r h
       ·rw [Hw.mp h];exact hq'
    ·rintro _ _ ⟨u6,new,rfl,rfl,nd,hn,tk⟩;rw [Hc] at tk;rw [Ic] at tk;refine⟨⟨_,u6,fs++new,ws'++new,rfl,rfl,S.turn nd hn tk⟩,?_⟩;have few2:=(S.turn nd hn tk).few g ip;show 2 * (100 - (ic (fs++new)).length)+((ws'++new).map pD).length<2 * (100 - (ic fs).length)+((ws'++[p]).map pD).length;simp only [Hc,HA,Iz] at few2 ⊢;omega
 rintro _ _ ⟨u5,u6,fs,rfl,rfl,S⟩;have few:=S.few g ip;refine Ar (E3 "int" (i:=3) (j:=0) rfl rfl (by rw [bR];exact FE S.nd) (by rw [Hc];omega) λes pm up=>?_);rw [bR] at pm;obtain⟨l,pl,rfl⟩:=perm_map_inv pm fs rfl;exact⟨l,rfl,up,λq=>by rw [pl.mem_iff];exact S.done q⟩
theorem xa {Mt:Nb} {wd:Nat} {MK:Int} {st:Pt} {l:List Pt} (up:(l.map pD).Pairwise λd e=>ltD d e=MC) (mem:∀ q,q∈l↔Reach Mt wd MK st q) (least:∀ q,Reach Mt wd MK st q->q=st \/ ltD (pD st) (pD q)=MC):l.head?=MA st:=by
 have hs:st∈l:=(mem st).mpr .refl;cases l with
 | nil=>cases hs
 | cons a l =>
  rcases Hv.mp hs with e | e
  ·rw [e];rfl
  ·have h1:=(Js.mp up).1 (pD st) (aH.mpr e);rcases least a ((mem a).mp (Hk ..)) with e' | e'
   ·rw [e'];rfl
   ·have:=gw (pD a) (pD st) (pD a) rfl rfl rfl h1 e';rw [qB _ rfl] at this;cases this
structure Sofar (Mt:Nb) (wd:Nat) (MK:Int) (ps:List Pt) (rs:List (Bool×List Pt)) (ks:M9):Prop where
 reg:∀ r∈rs,∃ h,Reg Mt wd MK r h/\h∈ps
 all:∀ p∈ps,∃ r∈rs,p∈r.2
 ord:rs.Pairwise λa b=>∀ p q,a.2.head?=MA p->b.2.head?=MA q->ltD (pD p) (pD q)=MC
 key:∀ p,pD p∈ks↔∃ r∈rs,p∈r.2
theorem Sofar.done {Mt:Nb} {wd:Nat} {MK:Int} {rs:List (Bool×List Pt)} {ks:M9} (S:Sofar Mt wd MK (y6 Mt.length wd) rs ks):Regs Mt wd MK rs :=
 ⟨λr hr=>let⟨h,R,_⟩:=S.reg r hr;⟨h,R⟩,λp hp=>S.all p (jl.mpr hp),S.ord⟩
theorem Sofar.more {Mt:Nb} {wd:Nat} {MK:Int} {ps:List Pt} {rs:List (Bool×List Pt)} {ks:M9} (S:Sofar Mt wd MK ps rs ks) {p:Pt} {qs:List Pt} (e:y6 Mt.length wd=ps++p :: qs) (hn:pD p∉ks) {l:List Pt} (up:(l.map pD).Pairwise λd e=>ltD d e=MC) (mem:∀ q,q∈l↔Reach Mt wd MK p q) :
  Sofar Mt wd MK (ps++[p]) (rs++[(hiP Mt MK p,l)]) (l.map pD++ks):=by
 have ip:inP Mt wd p=MC:=jl.mp (by rw [e];simp);have hup:=uc Mt.length wd;rw [e,HH,HI,K8] at hup;obtain⟨_,u2,u3⟩:=hup;obtain⟨u4,_⟩:=Js.mp u2;have free:∀ q,Reach Mt wd MK p q->∀ r∈rs,q∉r.2:=λq hq r hr hm=>by
  obtain⟨h,R,_⟩:=S.reg r hr;exact hn ((S.key p).mpr ⟨r,hr,(R.mem p).mpr (((R.mem q).mp hm).trans (hq.symm ip))⟩)
 have least:∀ q,Reach Mt wd MK p q->q=p \/ ltD (pD p) (pD q)=MC:=λq hq=>by
  have iq:=(hq.ins ip).1;have hm:=jl.mpr iq;rw [e,HC,Hv] at hm;rcases hm with h | h | h
  ·obtain⟨r,hr,hm⟩:=S.all q h;exact absurd hm (free q hq r hr)
  ·exact .inl h
  ·exact .inr (u4 _ (aH.mpr h))
 have hd:=xa up mem least;have R:Reg Mt wd MK (hiP Mt MK p,l) p:=⟨hd,up,mem,ip,rfl⟩;refine⟨λr hr=>?_,λq hq=>?_,?_,λq=>?_⟩
 ·rcases HC.mp hr with h | h
  ·obtain⟨h',R',m⟩:=S.reg r h;exact⟨h',R',HQ _ m⟩
  ·rw [Hw.mp h];exact⟨p,R,by simp⟩
 ·rcases HC.mp hq with h | h
  ·obtain⟨r,hr,hm⟩:=S.all q h;exact⟨r,HQ _ hr,hm⟩
  ·rw [Hw.mp h];exact⟨_,HJ _ (Hw.mpr rfl),(mem p).mpr .refl⟩
 ·refine K8.mpr ⟨S.ord,by simp,λa ha b hb x y hx hy=>?_⟩;rw [Hw.mp hb,hd] at hy;cases hy;obtain⟨h,R',m⟩:=S.reg a ha;rw [R'.hd] at hx;cases hx;exact u3 _ (aH.mpr m) _ (Hk ..)
 ·rw [HC,aH,S.key];constructor
  ·rintro (h | ⟨r,hr,hm⟩)
   ·exact⟨_,HJ _ (Hw.mpr rfl),h⟩
   ·exact⟨r,HQ _ hr,hm⟩
  ·rintro⟨r,hr,hm⟩;rcases HC.mp hr with h | h
   ·exact .inr ⟨r,h,hm⟩
   ·rw [Hw.mp h] at hm;exact .inl hm
theorem Sofar.skip {Mt:Nb} {wd:Nat} {MK:Int} {ps:List Pt} {rs:List (Bool×List Pt)} {ks:M9} (S:Sofar Mt wd MK ps rs ks) {p:Pt} (h:pD p∈ks):Sofar Mt wd MK (ps++[p]) rs ks :=
 ⟨λr hr=>let⟨h,R,m⟩:=S.reg r hr;⟨h,R,HQ _ m⟩,λq hq=>by
  rcases HC.mp hq with h' | h'
  ·exact S.all q h'
  ·rw [Hw.mp h'];exact (S.key p).mp h,S.ord,S.key⟩
theorem Sofar.keys {Mt:Nb} {wd:Nat} {MK:Int} {ps:List Pt} {rs:List (Bool×List Pt)} {ks ks':M9} (S:Sofar Mt wd MK ps rs ks) (h:∀ p,pD p∈ks'↔pD p∈ks):Sofar Mt wd MK ps rs ks':=⟨S.reg,S.all,S.ord,λp=>(h p).trans (S.key p)⟩
theorem Sofar.nil {Mt:Nb} {wd:Nat} {MK:Int}:Sofar Mt wd MK [] [] []:=⟨λ_ h=>(nomatch h),λ_ h=>(nomatch h),List.Pairwise.nil,λp=>⟨λh=>(nomatch h),λ⟨_,h,_⟩=>(nomatch h)⟩⟩
def xb (w:MH) (K:Hj) (f:Fx) (Ds:MS) (ts:TS) (ρ:zr) (cs:List OC) (j:Nat) (R:M9->Prop):Prop:=Sep f Ds->∀ (σ:L2.St) (H H2:Hp) (E:Ends),CM w K f Ds H2 ρ cs σ H ->
 (∀ D es ρ' cs' σ' H',CM w K f Ds H2 ρ' cs' σ' H'->Ds[j]?=MA D->cs'[j]?=MA (.lst es)->R es->E.rt (.ref D) H')->ts E σ H
section
variable {w:MH} {K:Hj} {f:Fx} {Ds:MS} {ρ:zr} {cs:List OC} {ts tu:TS} {te:TE} {R:M9->Prop} {i j:Nat}
theorem FI (h:PSm w K f Ds ts ρ cs { nx:=λρ' cs'=>xb w K f Ds tu ρ' cs' j R,rt:=λ_=>False }):xb w K f Ds (aP ts tu) ρ cs j R:=λse σ H H2 E x q =>
 h se σ H H2 _ x (λρ' cs' σ' H' x' p=>p se σ' H' H2 E x' q) (λ_ _ _ _ _ _ _ _ z=>z.elim) (λ_ _ _ _ _ z=>z.elim) (λ_ _ _ _ _ z=>z.elim)
theorem FJ (hj:j<Ds.length) (h:eW w K (f.withs Ds) te ρ λc=>i<ρ.length/\∀ D,xb w K f (Ds++[D]) ts (ρ.set i (MA (.own (f.M.length+Ds.length)))) (cs++[c]) j R):xb w K f Ds (aP (vP te (jA i)) ts) ρ cs j R:=λse σ H H2 E x q =>
 h σ H _ x.env λc D H1 g1 hn ho ⟨hi,p⟩ =>
  p D (se.more x.env.fd hn) _ H1 H1 E (x.more g1 hn ho hi) λD' es ρ' cs' σ' H' y h1 h2 r=>by
   rw [HE hj] at h1;exact q D' es _ _ σ' H' (x.less g1 hn y) h1 (by rw [JY hj];exact h2) r
theorem FK {es:M9} (hi:ρ[i]?=MA (MA (.own (f.M.length+j)))) (hc:cs[j]?=MA (.lst es)) (h:R es):xb w K f Ds (hJ (yt i)) ρ cs j R:=λse σ H H2 E x q=>by
 have hj:j<Ds.length:=by rw [<-x.len];exact (Hg.mp hc).1
 have hD:Ds[j]?=MA Ds[j]:=Hd hj;exact⟨_,yQ hi x hD,q _ es ρ cs σ H x hD hc h⟩
theorem FL (h:eW w K f te ρ λc=>i<ρ.length/\∀ D,xb w K f [D] ts (ρ.set i (MA (.own (f.M.length+0)))) [c] 0 R):PSn K f (aP (vP te (jA i)) ts) ρ R:=λσ H E e q=>by
 have se0:Sep f []:=⟨IE,(λ_ z=>nomatch z),(λ_ z=>nomatch z)⟩;have x0:CM w K f [] H ρ [] σ H:=⟨e,Same.refl _,λ_ _=>rfl,rfl,(λi D c z=>nomatch z)⟩;refine h σ H _ e λc D H1 g1 hn ho ⟨hi,p⟩=>?_;refine p D (se0.more e.fd hn) _ H1 H1 E (x0.more g1 hn ho hi) λD' es ρ' cs' σ' H' y h1 h2 r=>?_;cases h1;have z:=x0.less g1 hn y;obtain⟨vs,h3,h4⟩:=y.own 0 D _ rfl h2;exact q es D vs H' ⟨z.sm,z.env.fd,z.kp⟩ hn h3 h4 r
end
theorem oD {Mt:Nb} {wd:Nat} (g:Good wd Mt) {ks:M9} (nd:ks.Nodup) (h:∀ d∈ks,∃ p,d=pD p/\inP Mt wd p=MC):ks.length<=49:=by
 have key:∀ ks:M9,(∀ d∈ks,∃ p,d=pD p/\inP Mt wd p=MC)->∃ l:List Pt,ks=l.map pD/\∀ p∈l,inP Mt wd p=MC:=λks=>by
  induction ks with
  | nil=>exact λ_=>⟨[],rfl,(λ_ z=>nomatch z)⟩
  | cons d ks ih =>
   intro h;obtain⟨p,rfl,hp⟩:=h d (Hk ..);obtain⟨l,rfl,hl⟩:=ih λe he=>h e (Hl _ he);exact⟨p :: l,rfl,λq hq=>by
    rcases Hv.mp hq with rfl | hq
    ·exact hp
    ·exact hl q hq⟩
 obtain⟨l,rfl,hl⟩:=key ks h;rw [Hc];exact qQ g (K9 _ (λa b z e=>z (by rw [e])) nd) hl
abbrev GD (c:Nb×Nat×Int) (xs:List DV):Prop:=xs=[.dat (tab c.1),.dat (.int c.2.2)]/\Good c.2.1 c.1
abbrev su (K:Hj):Sp:=spN K 2 GD λc es=>∃ rs,es=rs.map eg/\Regs c.1 c.2.1 c.2.2 rs/\rs.length<=49
theorem Dc (F:Def K mg "regions" bJ pz) (uan:mg "set"=MF) (uag:FnIn P w K mg base k "ask_table" pf (eP K)) (uaj:FnIn P w K mg base k "points" pf (v3 K)) (uaO:FnIn P w K mg base k "all_joined" pE (sr K)) (uah:FnIn P w K mg base k "stands_high" pA (d6 K)):FnIn P w K mg base (k+1) "regions" pz (su K):=by
 refine F.okN jR rfl λfa cdv A outer s H E hr=>⟨_,(zc (yE (zf uag hr rfl (za (pv 0) zb))) (zc (zO (i:=2) jR.nd rfl (MM rfl) (yw zb)) (zc (zO (i:=3) jR.nd rfl (MM rfl) (fR (cX (w:=w) rfl) rfl uan L7)) (zc (yL Ie rfl (zF (K:=K) rfl (zf uaj hr rfl (za (pv 0) zb))) (zd (i:=4) jR.nd rfl (MM rfl) (MN rfl)) (zj (yF (zM (gF (w:=w) (K:=K) rfl rfl hr.units) (pv 4) (pv 3) rfl) (zc (zO (i:=5) jR.nd rfl (MM rfl) (zf uaO hr rfl (za (pv 0) (za (pv 1) (za (pv 4) zb))))) (zc (yE (fT IP Je Jf jM (pv 2) (za (zE (za (j7 (ya (K:=K) rfl (zf uah hr rfl (za (pv 0) (za (pv 1) (za (pv 4) zb)))) (λ_=>rfl)) yW yW) (za (pv 5) zb))) zb))) (zj (yL Ie rfl (vm (K:=K) rfl (pv 5)) (zd (i:=6) jR.nd rfl (MM rfl) (MN rfl)) (zj (yE (Ap (w:=w) rfl K7 Mi (nC (w:=w) (K:=K) rfl rfl hr.units) (pv 3) (za (pv 6) zb)))))))) zV))) (zj (zv (pv 2))))))),?_⟩;rintro f xs ⟨Mt,wd,MK⟩ hl ⟨rfl,g⟩
 try dsimp only [yd,zm]
 dsimp only at *;refine qY (aU (zt (Mt,wd) ?_));walk_at "w";rintro _ rfl;refine FL (w:=w) (vp (DJ ⟨show 2<7 by decide,λD0=>?_⟩));refine FJ (show 0<1 by decide) (Aq ⟨show 3<7 by decide,λD1=>?_⟩);refine FI (vU (yf (zt (Mt,wd) ?_)));walk_at "w";rintro _ rfl;dsimp only;rw [dw];have pl:(y6 Mt.length wd).length<=49:=by rw [vf];exact JC g.h2 g.w2
 refine⟨_,rfl,λi ρ cs=>∃ (u4 u5 u6:Option DV) (rs:List (Bool×List Pt)) (ks:M9),ρ=[MA (.dat (tab Mt)),MA (.dat (.int MK)),MA (.own (f.M.length+0)),MA (.own (f.M.length+1)),u4,u5,u6]/\cs=[.lst (rs.map eg),.set ks]/\Sofar Mt wd MK ((y6 Mt.length wd).take i) rs ks/\rs.length<=i/\ks.Nodup/\∀ d∈ks,∃ p,d=pD p/\inP Mt wd p=MC,⟨_,_,_,[],[],rfl,rfl,by rw [J7];exact .nil,Ht 0,IE,(λ_ z=>nomatch z)⟩,?_,?_⟩
 ·rintro i d _ _ hd ⟨u4,u5,u6,rs,ks,rfl,rfl,S,rl,kl,kp⟩;rw [Ho] at hd;cases eq:(y6 Mt.length wd)[i]? with
  | none=>rw [eq] at hd;cases hd
  | some p =>
   rw [eq] at hd;cases hd;have hil:=(Hg.mp eq).1;have ip:inP Mt wd p=MC:=jl.mp (Hu eq);have tk:(y6 Mt.length wd).take (i+1)=(y6 Mt.length wd).take i++[p]:=by rw [Iv,eq];rfl
   have sp:y6 Mt.length wd=(y6 Mt.length wd).take i++p :: (y6 Mt.length wd).drop (i+1):=by
    have:=Hg.mp eq;rw [<-this.2,<- Lq this.1,Kl]
   refine zg (hZ (DO (neg:=MC) (i:=3) (j:=1) rfl rfl (aZ (zi rfl ⟨jo p,?_⟩))));rw [Mw rfl];refine yr (λh=>?_) λh=>?_
   ·have hn:pD p∉ks:=by simpa using h
    refine Av (λρ cs=>∃ l:List Pt,ρ=[MA (.dat (tab Mt)),MA (.dat (.int MK)),MA (.own (f.M.length+0)),MA (.own (f.M.length+1)),MA (.dat (pD p)),MA (.dat (.tuple (l.map pD))),u6]/\cs=[.lst (rs.map eg),.set ks]/\((l.map pD).Pairwise λd e=>ltD d e=MC)/\∀ q,q∈l↔Reach Mt wd MK p q) (aY (yb (zt (Mt,wd,MK,p) ?_))) ?_
    ·walk_at "w";rintro _ ⟨l,rfl,up,mem⟩;exact zg ⟨l,rfl,rfl,up,mem⟩
    rintro _ _ ⟨l,rfl,rfl,up,mem⟩;have S':=S.more sp hn up mem;rw [<-tk] at S';have nd:l.Nodup:=K9 _ (λa b (z:ltD (pD a) (pD b)=MC) e=>by rw [e,qB _ rfl] at z;cases z) up;have ll:l.length<=49:=qQ g nd λq hq=>(((mem q).mp hq).ins ip).1;refine Av (λρ cs=>ρ=[MA (.dat (tab Mt)),MA (.dat (.int MK)),MA (.own (f.M.length+0)),MA (.own (f.M.length+1)),MA (.dat (pD p)),MA (.dat (.tuple (l.map pD))),u6]/\cs=[.lst ((rs++[(hiP Mt MK p,l)]).map eg),.set ks]) (gE (i:=2) (j:=0) rfl rfl (by rw [Hc];omega) (aZ (jI (zq (o3 (yY (zt (Mt,wd,MK,p.1,p.2) ?_)))))))  ?_
    ·walk_at "w";rintro _ rfl;refine⟨_,rfl,yr (λh1=>?_) λh1=>?_⟩
     ·have h1:hiP Mt MK p=MC:=h1;walk_at "w";rw [h1,HH];rfl
     ·have h1:hiP Mt MK p=MG:=h1;walk_at "w";rw [h1,HH];rfl
    rintro _ _ ⟨rfl,rfl⟩;refine vU (eE (zi rfl ⟨_,rfl,λj ρ cs=>∃ (u6:Option DV) (ks':M9),ρ=[MA (.dat (tab Mt)),MA (.dat (.int MK)),MA (.own (f.M.length+0)),MA (.own (f.M.length+1)),MA (.dat (pD p)),MA (.dat (.tuple (l.map pD))),u6]/\cs=[.lst ((rs++[(hiP Mt MK p,l)]).map eg),.set ks']/\ks'.Nodup/\(∀ d∈ks',∃ p,d=pD p/\inP Mt wd p=MC)/\∀ q,pD q∈ks'↔(q∈l.take j \/ pD q∈ks),⟨_,ks,rfl,rfl,kl,kp,λq=>⟨.inr,λz=>z.elim (λz=>by rw [J7] at z;cases z) id⟩⟩,?_,?_⟩))
    ·rintro j d _ _ hd ⟨u6,ks',rfl,rfl,nd',kp',mk⟩;rw [Ho] at hd;cases eq':l[j]? with
     | none=>rw [eq'] at hd;cases hd
     | some q =>
      rw [eq'] at hd;cases hd;have hq:q∈l:=Hu eq';have iq:=(((mem q).mp hq).ins ip).1;have tk':l.take (j+1)=l.take j++[q]:=by rw [Iv,eq'];rfl
      have kl':=oD g nd' kp';refine zg (DP (i:=3) (j:=1) rfl rfl (by omega) (aZ (zi rfl ⟨jo q,λh=>?_,λh=>?_⟩)))
      ·refine⟨_,ks',rfl,rfl,nd',kp',λr=>?_⟩;rw [tk',HC,Hw,mk];constructor
       ·rintro (z | z)
        ·exact .inl (.inl z)
        ·exact .inr z
       ·rintro ((z | z) | z)
        ·exact .inl z
        ·rw [z];exact (mk q).mp h
        ·exact .inr z
      ·refine⟨_,pD q :: ks',rfl,rfl,ID.mpr ⟨h,nd'⟩,λd hd=>?_,λr=>?_⟩
       ·rcases Hv.mp hd with rfl | hd
        ·exact⟨q,rfl,iq⟩
        ·exact kp' d hd
       ·rw [tk',HC,Hw,Hv,mk];constructor
        ·rintro (z | z | z)
         ·exact .inl (.inr (aG z))
         ·exact .inl (.inl z)
         ·exact .inr z
        ·rintro ((z | z) | z)
         ·exact .inr (.inl z)
         ·exact .inl (by rw [z])
         ·exact .inr (.inr z)
    ·rintro _ _ ⟨u6,ks',rfl,rfl,nd',kp',mk⟩;rw [Hc,Ic] at mk;refine⟨_,_,_,rs++[(hiP Mt MK p,l)],ks',rfl,rfl,S'.keys λq=>?_,by rw [HA,Iz];omega,nd',kp'⟩;rw [mk,HC,aH]
   ·have hm:pD p∈ks:=I9 λz=>by rw [Mz z] at h;cases h
    refine va ⟨_,_,_,rs,ks,rfl,rfl,?_,by omega,kl,kp⟩;rw [tk];exact S.skip hm
 ·rintro _ _ ⟨u4,u5,u6,rs,ks,rfl,rfl,S,rl,kl,kp⟩;rw [Hc,Ic] at S;rw [Hc] at rl;exact FK (i:=2) (j:=0) rfl rfl ⟨rs,rfl,S.done,by omega⟩
theorem Be {Mt:Nb} {wd:Nat} {MK:Int} {rs:List (Bool×List Pt)} (R:Regs Mt wd MK rs) {i j:Nat} {r r':Bool×List Pt} (hi:rs[i]?=MA r) (hj:rs[j]?=MA r') {p:Pt} (h:p∈r.2) (h':p∈r'.2):i=j:=by
 obtain⟨x,X⟩:=R.reg r (Hu hi);obtain⟨y,Y⟩:=R.reg r' (Hu hj);have e:=C7 X Y h h';have nd:rs.Nodup:=R.ord.imp_of_mem λ{a b} ha hb z e=>by
  obtain⟨x,X⟩:=R.reg a ha;have:=z x x X.hd (e▸X.hd);rw [qB _ rfl] at this;cases this
 rw [<-e] at hj;exact (List.getElem?_inj (Hg.mp hi).1 nd).mp (hi.trans hj.symm)
theorem v5 {k v:MB} {kvs:Nf}:(dput k v kvs).map (·.1)=if k∈kvs.map (·.1) then kvs.map (·.1) else kvs.map (·.1)++[k]:=by
 unfold dput;by_cases h:k∈kvs.map (·.1)
 ·rw [Mw h,Mw h,Iw];refine J0 λp _=>?_;show (if p.1=k then (p.1,v) else p).1=p.1;split <;> rfl
 ·rw [Mv h,Mv h,HH];rfl
structure Keyed (Mt:Nb) (wd:Nat) (kvs:Nf):Prop where
 nd:(kvs.map (·.1)).Nodup
 pt:∀ d∈kvs.map (·.1),∃ p,d=pD p/\inP Mt wd p=MC
theorem Keyed.put {Mt:Nb} {wd:Nat} {kvs:Nf} (h:Keyed Mt wd kvs) {p:Pt} (ip:inP Mt wd p=MC) (v:MB):Keyed Mt wd (dput (pD p) v kvs):=by
 by_cases z:pD p∈kvs.map (·.1)
 ·exact⟨by rw [v5,Mw z];exact h.nd,by rw [v5,Mw z];exact h.pt⟩
 ·refine⟨?_,?_⟩
  ·rw [v5,Mv z];exact IA.mpr ⟨h.nd,by simp,λa ha b hb e=>z (by rw [Hw.mp hb] at e;exact e▸ha)⟩
  ·rw [v5,Mv z];intro d hd;rcases HC.mp hd with hd | hd
   ·exact h.pt d hd
   ·rw [Hw.mp hd];exact⟨p,rfl,ip⟩
theorem Keyed.few {Mt:Nb} {wd:Nat} {kvs:Nf} (g:Good wd Mt) (h:Keyed Mt wd kvs):kvs.length<=49:=by
 have:=oD g h.nd h.pt;rw [Hc] at this;exact this
theorem FN {Mt:Nb} {wd:Nat} {MK:Int} {rs:List (Bool×List Pt)} (R:Regs Mt wd MK rs) {r:Bool×List Pt} (hr:r∈rs) {p:Pt} (h:p∈r.2):inP Mt wd p=MC:=by
 obtain⟨x,X⟩:=R.reg r hr;exact (((X.mem p).mp h).ins X.inn).1
def told (rs:List (Bool×List Pt)) (kvs:Nf):Prop:=∀ (n:Nat) r p,rs[n]?=MA r->p∈r.2->jG (pD p) kvs=MA (.int n)
noncomputable def GF (b:Bool):MB:=.str (if b=MC then "high" else "low")
theorem Dd {rs:List (Bool×List Pt)} {n:Nat} {d:MB} (h:(cR (rs.map eg))[n]?=MA d):∃ r,rs[n]?=MA r/\d=.tuple [.int n,eg r]:=by
 unfold cR at h;rw [K6,Ho] at h;cases e:rs[n]? with
 | none=>rw [e] at h;cases h
 | some r =>
  rw [e] at h;cases h;exact⟨r,rfl,rfl⟩
theorem Bf (ds:M9):(cR ds).length=ds.length:=by
 unfold cR;simp
abbrev i5 (w:MH) (K:Hj):Sp:=spV K 2 GD λc x=>∃ rs kvs,x=.mon (j9 w K kvs)/\Regs c.1 c.2.1 c.2.2 rs/\rs.length<=49/\told rs kvs
theorem sv (F:Def K mg "indexes" bK pz) (uai:mg "enumerate"=MF) (uaP:FnIn P w K mg base k "regions" pz (su K)):FnIn P w K mg base (k+1) "indexes" pz (i5 w K):=by
 refine F.okV jS rfl λfa cdv A outer s H E hr=>⟨_,(zc (zO (i:=2) jS.nd rfl (MM rfl) (dW (w:=w) rfl)) (zc (yL Ie rfl (gf (K:=K) rfl rfl uai (za (zf uaP hr rfl (za (pv 0) (za (pv 1) zb))) zb)) (zC (K:=K) (n:=2) rfl rfl (ze (zd (i:=3) jS.nd rfl (MM rfl) (MN rfl)) (ze (zC (K:=K) (n:=2) rfl rfl (ze (zd (i:=4) jS.nd rfl (MM rfl) (MN rfl)) (ze (zd (i:=5) jS.nd rfl (MM rfl) (MN rfl)) zx))) zx))) (zj (yL Ie rfl (vm (K:=K) rfl (pv 5)) (zd (i:=6) jS.nd rfl (MM rfl) (MN rfl)) (zj (z9 (pv 3) (aQ (pv 2) (pv 6) (bf (w:=w) (K:=K) rfl rfl hr.units))))))) (zj (zv (pv 2))))),?_⟩;rintro f xs ⟨Mt,wd,MK⟩ hl ⟨rfl,g⟩
 try dsimp only [yd,zm]
 dsimp only at *;refine E6 (w:=w) (rh ⟨show 2<7 by decide,λD0=>?_⟩);refine E4 (vU (xU (zq (PEdO.ped (qZ (Mt,wd,MK) ?_)))));walk_at "w";rintro _ ⟨rs,rfl,R,rl⟩;dsimp only at R;refine zL ⟨_,rfl,λn ρ cs=>∃ (u3 u4 u5 u6:Option DV) (kvs:Nf),ρ=[MA (.dat (tab Mt)),MA (.dat (.int MK)),MA (.own (f.M.length+0)),u3,u4,u5,u6]/\cs=[.dic kvs]/\Keyed Mt wd kvs/\∀ (m:Nat) r p,m<n->rs[m]?=MA r->p∈r.2->jG (pD p) kvs=MA (.int m),⟨_,_,_,_,[],rfl,rfl,⟨IE,(λ_ z=>nomatch z)⟩,(λm r p z=>absurd z (Jr _))⟩,?_,?_⟩
 ·rintro n d _ _ hd ⟨u3,u4,u5,u6,kvs,rfl,rfl,ky,tl⟩;obtain⟨r,hrn,rfl⟩:∃ r,rs[n]?=MA r/\d=.tuple [.int n,eg r]:=Dd hd;have hm:=Hu hrn;refine yg rfl (zo (zg (zo (yg rfl (zo (zg (zo (zg (zP (zP ?_))))))))));refine vU (eE (zi rfl ⟨_,rfl,λj ρ cs=>∃ (u6:Option DV) (kvs:Nf),ρ=[MA (.dat (tab Mt)),MA (.dat (.int MK)),MA (.own (f.M.length+0)),MA (.dat (.int n)),MA (.dat (GF r.1)),MA (.dat (.tuple (r.2.map pD))),u6]/\cs=[.dic kvs]/\Keyed Mt wd kvs/\(∀ (m:Nat) r p,m<n->rs[m]?=MA r->p∈r.2->jG (pD p) kvs=MA (.int m))/\∀ p∈r.2.take j,jG (pD p) kvs=MA (.int n),⟨_,kvs,rfl,rfl,ky,tl,λp hp=>by rw [J7] at hp;cases hp⟩,?_,?_⟩))
  ·rintro j d _ _ hd ⟨u6,kvs,rfl,rfl,ky,tl,tk⟩;rw [Ho] at hd;cases eq:r.2[j]? with
   | none=>rw [eq] at hd;cases hd
   | some q =>
    rw [eq] at hd;cases hd;have hq:=Hu eq;have few:=ky.few g;refine zg (nE (i:=2) (j:=0) rfl rfl (by omega) (zi rfl (zi rfl ⟨jo q,?_⟩)));refine⟨_,_,rfl,rfl,ky.put (FN R hm hq) _,λm r' p hmn hr hp=>?_,λp hp=>?_⟩
    ·rw [cD _ (λz=>?_)]
     ·exact tl m r' p hmn hr hp
     ·have:=Be R hr hrn hp (aG z▸hq);omega
    ·rw [Iv,eq] at hp;by_cases e:p=q
     ·rw [e];exact iS ..
     ·rw [cD _ (λz=>e (aG z))];rcases HC.mp hp with h | h
      ·exact tk p h
      ·exact absurd (Hw.mp h) e
  ·rintro _ _ ⟨u6,kvs,rfl,rfl,ky,tl,tk⟩;rw [Hc,Ic] at tk;refine⟨_,_,_,_,kvs,rfl,rfl,ky,λm r' p hmn hr hp=>?_⟩;by_cases e:m=n
   ·subst e;rw [hrn] at hr;cases hr;exact tk p hp
   ·exact tl m r' p (by omega) hr hp
 ·rintro _ _ ⟨u3,u4,u5,u6,kvs,rfl,rfl,ky,tl⟩;refine E5 (i:=2) (j:=0) rfl rfl ⟨kvs,rfl,rs,kvs,rfl,R,rl,λn r p hr hp=>tl n r p ?_ hr hp⟩;have:=(Hg.mp hr).1;rw [Bf,Hc];exact this
noncomputable def gA (i:Fin 4):Fin 4:=match i with
 | 0=>0
 | 1=>0
 | 2=>3
 | 3=>1
noncomputable def gB (i:Fin 4):Fin 4:=match i with
 | 0=>1
 | 1=>3
 | 2=>2
 | 3=>2
noncomputable def en (A B C D:Bool) (c:Fin 4):Bool:=match c with
 | 0=>A
 | 1=>B
 | 2=>C
 | 3=>D
noncomputable def ie (c d:Fin 4):Bool:=(c.val+d.val) % 2 == 1
noncomputable def jnF (A B C D M:Bool) (c d:Fin 4):Bool:=(en A B C D c == en A B C D d) && (ie c d || (c != d && ((opF A B C D 0 && (opF A B C D 1 && (opF A B C D 2 && opF A B C D 3))) && (M == en A B C D c))))
noncomputable def upF (h A B C D:Bool) (i:Fin 4):Fin 4:=if en A B C D (gA i)=h then gA i else gB i
theorem Bg:∀ (h A B C D M:Bool) (i j:Fin 4),prt (du A B C D M) i=MA j->upF h A B C D i=upF h A B C D j \/ jnF A B C D M (upF h A B C D i) (upF h A B C D j)=MC \/ ∃ e,jnF A B C D M (upF h A B C D i) e=MC/\jnF A B C D M e (upF h A B C D j)=MC:=by decide +kernel
noncomputable def cor (x y:Int) (c:Fin 4):Pt:=match c with
 | 0=>(x,y)
 | 1=>(x+1,y)
 | 2=>(x+1,y+1)
 | 3=>(x,y+1)
theorem bq (x y:Int) (c d:Fin 4) (h:ie c d=MC):cor x y d∈nbL (cor x y c):=by
 have key:∀ c d:Fin 4,ie c d=MC->(c=0/\d=1) \/ (c=1/\d=0) \/ (c=1/\d=2) \/ (c=2/\d=1) \/ (c=2/\d=3) \/ (c=3/\d=2) \/ (c=0/\d=3) \/ (c=3/\d=0):=by decide
 rcases key c d h with⟨rfl,rfl⟩ | ⟨rfl,rfl⟩ | ⟨rfl,rfl⟩ | ⟨rfl,rfl⟩ | ⟨rfl,rfl⟩ | ⟨rfl,rfl⟩ | ⟨rfl,rfl⟩ | ⟨rfl,rfl⟩ <;> (rw [y9];simp [cor])
theorem De (x y:Int) (c d:Fin 4) (h:ie c d=MG) (n:c≠d):cor x y d=asl (cor x y c) (x,y):=by
 have key:∀ c d:Fin 4,ie c d=MG->c≠d->(c=0/\d=2) \/ (c=2/\d=0) \/ (c=1/\d=3) \/ (c=3/\d=1):=by decide
 rcases key c d h n with⟨rfl,rfl⟩ | ⟨rfl,rfl⟩ | ⟨rfl,rfl⟩ | ⟨rfl,rfl⟩ <;> (unfold asl cor;simp only [Prod.mk.injEq];omega)
theorem FO (x y:Int) (c:Fin 4):(x,y)∈caL (cor x y c):=by
 rw [cI]
 match c with
 | 0=>exact⟨.inl rfl,.inl rfl⟩
 | 1=>exact⟨.inr rfl,.inl rfl⟩
 | 2=>exact⟨.inr rfl,.inr rfl⟩
 | 3=>exact⟨.inl rfl,.inr rfl⟩
section
variable {Mt:Nb} {wd:Nat} {MK x y:Int}
noncomputable abbrev l6 (Mt:Nb) (MK x y:Int) (c:Fin 4):Bool:=en (hiB Mt MK x y) (hiB Mt MK (x+1) y) (hiB Mt MK (x+1) (y+1)) (hiB Mt MK x (y+1)) c
theorem vg (c:Fin 4):hiP Mt MK (cor x y c)=l6 Mt MK x y c:=by
 match c with
 | 0=>rfl
 | 1=>rfl
 | 2=>rfl
 | 3=>rfl
theorem sx (h:zS Mt wd x y=MC) (c:Fin 4):inP Mt wd (cor x y c)=MC:=by
 obtain⟨i1,i2,i3,i4⟩:=cell_in h
 match c with
 | 0=>exact i1
 | 1=>exact i2
 | 2=>exact i3
 | 3=>exact i4
theorem dy (h:zS Mt wd x y=MC) {c d:Fin 4} (j:jnF (hiB Mt MK x y) (hiB Mt MK (x+1) y) (hiB Mt MK (x+1) (y+1)) (hiB Mt MK x (y+1)) (jV Mt MK x y) c d=MC):cor x y d∈jJ Mt wd MK (cor x y c):=by
 unfold jnF at j;rw [Hq] at j;obtain⟨j1,j2⟩:=j;have e:hiP Mt MK (cor x y d)=hiP Mt MK (cor x y c):=by
  rw [vg,vg];exact (eq_of_beq j1).symm
 cases b:ie c d with
 | true=>exact mem_join.mpr (.inl ⟨bq x y c d b,sx h d,e⟩)
 | false =>
  rw [b,Bool.false_or,Hq,Hq] at j2;obtain⟨j3,j4,j5⟩:=j2;refine mem_join.mpr (.inr ⟨(x,y),FO x y c,h,?_,?_,De x y c d b (by simpa using j3)⟩)
  ·unfold yX cg opG;simp only [KG,LU,KJ];rw [dm h,gR h,dq h,dr h];exact j4
  ·rw [vg];exact eq_of_beq j5
end
noncomputable def hpt (Mt:Nb) (MK:Int) (h:Bool) (g:Gt):Pt:=if hiB Mt MK g.1 g.2.1=h then (g.1,g.2.1) else (px g.1 g.2.2,py g.2.1 g.2.2)
section
variable {Mt:Nb} {wd:Nat} {MK:Int} {h:Bool}
theorem Bh (x y:Int) (i:Fin 4):hpt Mt MK h (gt x y i)=cor x y (upF h (hiB Mt MK x y) (hiB Mt MK (x+1) y) (hiB Mt MK (x+1) (y+1)) (hiB Mt MK x (y+1)) i):=by
 unfold hpt upF
 match i with
 | 0 =>
  show (if hiB Mt MK x y=h then (x,y) else (x+1,y))=cor x y (if hiB Mt MK x y=h then 0 else 1);split <;> rfl
 | 1 =>
  show (if hiB Mt MK x y=h then (x,y) else (x,y+1))=cor x y (if hiB Mt MK x y=h then 0 else 3);split <;> rfl
 | 2 =>
  show (if hiB Mt MK x (y+1)=h then (x,y+1) else (x+1,y+1))=cor x y (if hiB Mt MK x (y+1)=h then 3 else 2);split <;> rfl
 | 3 =>
  show (if hiB Mt MK (x+1) y=h then (x+1,y) else (x+1,y+1))=cor x y (if hiB Mt MK (x+1) y=h then 1 else 2);split <;> rfl
theorem sy {g n:Gt} (o:opG Mt wd MK g=MC) (hn:yB Mt wd MK g=MA n):Reach Mt wd MK (hpt Mt MK h g) (hpt Mt MK h n):=by
 unfold yB at hn;by_cases c:zS Mt wd (ahC Mt MK g).1 (ahC Mt MK g).2=MC
 ·rw [Mw c] at hn;obtain⟨i,ei⟩:=ou (Mt:=Mt) (MK:=MK) g (cH o);generalize (ahC Mt MK g).1=x at *;generalize (ahC Mt MK g).2=y at *;subst ei;unfold vO t4 at hn;rw [lW (λ_ _=>gS)] at hn;cases hj:prt (du (hiB Mt MK x y) (hiB Mt MK (x+1) y) (hiB Mt MK (x+1) (y+1)) (hiB Mt MK x (y+1)) (jV Mt MK x y)) i with
  | none=>rw [hj] at hn;cases hn
  | some j =>
   rw [hj] at hn;cases hn;rw [Bh,Bh];rcases Bg h _ _ _ _ _ i j hj with e | e | ⟨d,e1,e2⟩
   ·rw [e];exact .refl
   ·exact Reach.refl.step (dy c e)
   ·exact (Reach.refl.step (dy c e1)).step (dy c e2)
 ·rw [Mv c] at hn;cases hn
theorem gZ {g:Gt} (o:opG Mt wd MK g=MC):inP Mt wd (hpt Mt MK h g)=MC/\hiP Mt MK (hpt Mt MK h g)=h:=by
 unfold opG yT aF at o;rw [Hq,Hq,Hq] at o;obtain⟨⟨_,i1,i2⟩,ne⟩:=o;unfold hpt;by_cases e:hiB Mt MK g.1 g.2.1=h
 ·rw [Mw e];exact⟨i1,e⟩
 ·rw [Mv e];refine⟨i2,?_⟩;have ne':(hiB Mt MK g.1 g.2.1 != hiB Mt MK (px g.1 g.2.2) (py g.2.1 g.2.2))=MC:=ne;show hiB Mt MK (px g.1 g.2.2) (py g.2.1 g.2.2)=h
  revert e ne'
  cases hiB Mt MK g.1 g.2.1 <;> cases hiB Mt MK (px g.1 g.2.2) (py g.2.1 g.2.2) <;> cases h <;> decide
theorem g6 {q:Bool} {l:List Gt} (L:LineOk Mt wd MK q l) {g0:Gt} (h0:l.head?=MA g0):∀ (i:Nat) g,l[i]?=MA g->Reach Mt wd MK (hpt Mt MK h g0) (hpt Mt MK h g):=by
 intro i
 induction i with
 | zero =>
  intro g hg;rw [Kf,hg] at h0;cases h0;exact .refl
 | succ i ih =>
  intro g hg;have hlt:=(Hg.mp hg).1;have a1:l[i]?=MA l[i]:=Hd (by omega);exact (ih _ a1).trans (sy (L.op _ (Hu a1)) (L.ch i _ _ a1 hg))
end
section
variable {Mt:Nb} {wd:Nat} {c c':Int} {b:Bool}
theorem dz {MK u v:Int} (cc:zS Mt wd u v=MC) (h1:hiB Mt MK (u+1) v=!hiB Mt MK u v) (h2:hiB Mt MK u (v+1)=!hiB Mt MK u v) (h3:hiB Mt MK (u+1) (v+1)=hiB Mt MK u v):yX Mt wd MK u v=MC:=by
 unfold yX cg opG;simp only [KG,LU];rw [dm cc,gR cc,dq cc,dr cc,h1,h2,h3];cases hiB Mt MK u v <;> rfl
theorem join_mono (hm:∀ p:Pt,hiP Mt c p=b->hiP Mt c' p=b) (mm:∀ u v,jV Mt c u v=b->jV Mt c' u v=b) {p q:Pt} (hp:hiP Mt c p=b) (h:q∈jJ Mt wd c p):Reach Mt wd c' p q:=by
 have hq:hiP Mt c q=b:=(aJ h).2.trans hp;have hp':=hm p hp;have hq':=hm q hq;rcases mem_join.mp h with⟨h1,h2,_⟩ | ⟨⟨u,v⟩,h1,h2,h3,h4,rfl⟩
 ·exact Reach.refl.step (mem_join.mpr (.inl ⟨h1,h2,hq'.trans hp'.symm⟩))
 ·have cc:zS Mt wd u v=MC:=h2;obtain⟨k1,k2,k3⟩:=gY cc h3;obtain⟨i1,i2,i3,i4⟩:=cell_in cc;have mid:jV Mt c' u v=b:=mm u v (h4.trans hp);rw [cI] at h1;dsimp only at h1
  -- by way of a third corner that stands as they do,or across
  have via:∀ s:Pt,s∈nbL p->asl p (u,v)∈nbL s->inP Mt wd s=MC->hiP Mt c' s=b->Reach Mt wd c' p (asl p (u,v)):=λs n1 n2 is hs =>
   (Reach.refl.step (mem_join.mpr (.inl ⟨n1,is,hs.trans hp'.symm⟩))).step (mem_join.mpr (.inl ⟨n2,(aJ h).1,hq'.trans hs.symm⟩))
  obtain⟨x,y⟩:=p;dsimp only at h1;have e1:asl (x,y) (u,v)=(2 * u+1 - x,2 * v+1 - y):=rfl;by_cases s1:hiP Mt c' (2 * u+1 - x,y)=b
  ·refine via (2 * u+1 - x,y) ?_ ?_ ?_ s1
   ·rcases h1.1 with e | e
    ·exact y9.mpr (.inr (.inr (.inr (JM (by dsimp only;omega) rfl))))
    ·exact y9.mpr (.inl (JM (by dsimp only;omega) rfl))
   ·rcases h1.2 with e | e
    ·exact y9.mpr (.inr (.inr (.inl (JM rfl (by rw [e1];dsimp only;omega)))))
    ·exact y9.mpr (.inr (.inl (JM rfl (by rw [e1];dsimp only;omega))))
   ·unfold inP;rcases h1 with⟨rfl | rfl,rfl | rfl⟩
    ·rw [show 2 * x+1 - x=x+1 by omega];exact i2
    ·rw [show 2 * x+1 - x=x+1 by omega];exact i3
    ·rw [show 2 * u+1 - (u+1)=u by omega];exact i1
    ·rw [show 2 * u+1 - (u+1)=u by omega];exact i4
  ·by_cases s2:hiP Mt c' (x,2 * v+1 - y)=b
   ·refine via (x,2 * v+1 - y) ?_ ?_ ?_ s2
    ·rcases h1.2 with e | e
     ·exact y9.mpr (.inr (.inr (.inl (JM rfl (by dsimp only;omega)))))
     ·exact y9.mpr (.inr (.inl (JM rfl (by dsimp only;omega))))
    ·rcases h1.1 with e | e
     ·exact y9.mpr (.inr (.inr (.inr (JM (by rw [e1];dsimp only;omega) rfl))))
     ·exact y9.mpr (.inl (JM (by rw [e1];dsimp only;omega) rfl))
    ·unfold inP;rcases h1 with⟨rfl | rfl,rfl | rfl⟩
     ·rw [show 2 * y+1 - y=y+1 by omega];exact i4
     ·rw [show 2 * v+1 - (v+1)=v by omega];exact i1
     ·rw [show 2 * y+1 - y=y+1 by omega];exact i3
     ·rw [show 2 * v+1 - (v+1)=v by omega];exact i2
   ·refine Reach.refl.step (mem_join.mpr (.inr ⟨(u,v),cI.mpr h1,cc,?_,mid.trans hp'.symm,rfl⟩));have n1:hiP Mt c' (2 * u+1 - x,y)=!b:=by cases z:hiP Mt c' (2 * u+1 - x,y) <;> cases b <;> simp_all
    have n2:hiP Mt c' (x,2 * v+1 - y)=!b:=by cases z:hiP Mt c' (x,2 * v+1 - y) <;> cases b <;> simp_all
    rw [e1] at hq';unfold hiP at n1 n2 hp' hq';dsimp only at n1 n2 hp' hq';rcases h1 with⟨rfl | rfl,rfl | rfl⟩
    ·rw [show 2 * x+1 - x=x+1 by omega] at n1 hq';rw [show 2 * y+1 - y=y+1 by omega] at n2 hq';exact dz cc (by rw [n1,hp']) (by rw [n2,hp']) (by rw [hq',hp'])
    ·rw [show 2 * x+1 - x=x+1 by omega] at n1 hq';rw [show 2 * v+1 - (v+1)=v by omega] at n2 hq';exact dz cc (by rw [n2,hq'];simp) (by rw [n2,hp'];simp) (by rw [n1,n2])
    ·rw [show 2 * u+1 - (u+1)=u by omega] at n1 hq';rw [show 2 * y+1 - y=y+1 by omega] at n2 hq';exact dz cc (by rw [n1,hp'];simp) (by rw [n1,hq'];simp) (by rw [n1,n2])
    ·rw [show 2 * u+1 - (u+1)=u by omega] at n1 hq';rw [show 2 * v+1 - (v+1)=v by omega] at n2 hq';exact dz cc (by rw [n2,hq']) (by rw [n1,hq']) (by rw [hq',hp'])
theorem g7 (hm:∀ p:Pt,hiP Mt c p=b->hiP Mt c' p=b) (mm:∀ u v,jV Mt c u v=b->jV Mt c' u v=b) {p q:Pt} (hp:hiP Mt c p=b) (h:Reach Mt wd c p q):Reach Mt wd c' p q:=by
 have key:Reach Mt wd c' p q/\hiP Mt c q=b:=by
  induction h with
  | refl=>exact⟨.refl,hp⟩
  | step _ hq ih=>exact⟨ih.1.trans (join_mono hm mm ih.2 hq),(aJ hq).2.trans ih.2⟩
 exact key.1
theorem sA (le:c'<=c) {p q:Pt} (hp:hiP Mt c p=MC) (h:Reach Mt wd c p q):Reach Mt wd c' p q/\hiP Mt c' p=MC:=by
 have hm:∀ p:Pt,hiP Mt c p=MC->hiP Mt c' p=MC:=λp z=>by
  unfold hiP hiB at z ⊢;exact Mx (by have:=MO z;omega)
 refine⟨g7 hm (λu v z=>?_) hp h,hm p hp⟩;unfold jV at z ⊢;exact Mx (by have:=MO z;omega)
theorem xc (le:c<=c') {p q:Pt} (hp:hiP Mt c p=MG) (h:Reach Mt wd c p q):Reach Mt wd c' p q/\hiP Mt c' p=MG:=by
 have hm:∀ p:Pt,hiP Mt c p=MG->hiP Mt c' p=MG:=λp z=>by
  unfold hiP hiB at z ⊢;exact Mz (by have:=MP z;omega)
 refine⟨g7 hm (λu v z=>?_) hp h,hm p hp⟩;unfold jV at z ⊢;exact Mz (by have:=MP z;omega)
end
noncomputable def ixR (rs:List (Bool×List Pt)) (p:Pt):Nat:=rs.findIdx λr=>decide (p∈r.2)
theorem ud {Mt:Nb} {wd:Nat} {MK:Int} {rs:List (Bool×List Pt)} (R:Regs Mt wd MK rs) {p:Pt} (ip:inP Mt wd p=MC):∃ rr,rs[ixR rs p]?=MA rr/\p∈rr.2:=by
 obtain⟨r,hr,hp⟩:=R.all p ip;have hlt:ixR rs p<rs.length:=List.findIdx_lt_length_of_exists ⟨r,hr,Mx hp⟩;exact⟨_,Hd hlt,MO (List.findIdx_getElem (w:=hlt))⟩
noncomputable def hdG (t:Bool×List Gt):Gt:=t.2.headD (0,0,0)
theorem ue {Mt:Nb} {wd:Nat} {MK:Int} {q:Bool} {l:List Gt} (L:LineOk Mt wd MK q l):l.head?=MA (hdG (q,l)):=by
 cases l with
 | nil=>exact absurd rfl L.ne
 | cons a l=>rfl
theorem D3:∀ i:_root_.Fin 4,ie i (i+1)=MC:=by decide
theorem D4:∀ i:_root_.Fin 4,ie (i+1) (i+2)=MC:=by decide
theorem D5:∀ i:_root_.Fin 4,ie (i+2) (i+3)=MC:=by decide
theorem GG:∀ i:_root_.Fin 4,ie (i+3) i=MC:=by decide
theorem D6:∀ i:_root_.Fin 4,i+1+1=i+2:=by decide
theorem GH:∀ i:_root_.Fin 4,i+1+2=i+3:=by decide
theorem GI:∀ i:_root_.Fin 4,i+1+3=i:=by decide
theorem GJ:∀ (A B C D:Bool) (i:_root_.Fin 4),en A B C D i=MC->en A B C D (i+2)=MC->en A B C D (i+1)=MG->en A B C D (i+3)=MG->jnF A B C D MC i (i+2)=MC:=by decide
theorem GK:∀ (A B C D:Bool) (i:_root_.Fin 4),en A B C D i=MC->en A B C D (i+2)=MC->en A B C D (i+1)=MG->en A B C D (i+3)=MG->jnF A B C D MG (i+1) (i+3)=MC:=by decide
theorem dA {α:Type} {f g:α->Bool}:∀ {l:List α},(∀ x∈l,f x=g x)->l.findIdx f=l.findIdx g
 | [],_=>rfl
 | a :: l,h=>by
  rw [List.findIdx_cons,List.findIdx_cons,h a Hk,dA λx hx=>h x (Hl _ hx)]
section
variable {Mt:Nb} {wd:Nat} {MK:Int} {rs:List (Bool×List Pt)}
theorem qw (R:Regs Mt wd MK rs) {p q:Pt} (ip:inP Mt wd p=MC) (h:Reach Mt wd MK p q):ixR rs p=ixR rs q:=by
 unfold ixR;refine dA λr hr=>decide_eq_decide.mpr ?_;obtain⟨h0,X⟩:=R.reg r hr;rw [X.mem,X.mem];exact⟨λz=>z.trans h,λz=>z.trans (h.symm ip)⟩
end
abbrev Key:=Nat×Nat
theorem Df {lo hi:Int} {J:Nat->zr->List OC->Prop} {G:Nat->MB->zr->List OC->Prop} (h:∀ i,i<(hi - lo).toNat->∀ ρ cs,J i ρ cs->G i (.int (lo+i)) ρ cs):∀ (i:Nat) d ρ cs,(jW lo hi)[i]?=MA d->J i ρ cs->G i d ρ cs:=λi d ρ cs hd=>by
 unfold jW at hd;rw [Ho] at hd;obtain⟨i',hi',rfl⟩:=Jb.mp hd;obtain⟨l1,l2⟩:=Hg.mp hi';rw [Lm] at l2;subst l2;rw [HY] at l1;exact h i l1 ρ cs
theorem step_map {α:Type} {F:α->MB} {xs:List α} {J:Nat->zr->List OC->Prop} {G:Nat->MB->zr->List OC->Prop} (h:∀ i x,xs[i]?=MA x->∀ ρ cs,J i ρ cs->G i (F x) ρ cs):∀ (i:Nat) d ρ cs,(xs.map F)[i]?=MA d->J i ρ cs->G i d ρ cs:=λi d ρ cs hd=>by
 rw [Ho] at hd;obtain⟨x,hx,rfl⟩:=Jb.mp hd;exact h i x hx ρ cs
theorem G8 {α β:Type} {R:α->α->α->α->β->zr} {C:α->α->α->α->β->List OC} {I:α->α->α->α->β->Prop} {G:zr->List OC->Prop} (h:∀ a b c d e,I a b c d e->G (R a b c d e) (C a b c d e)):∀ ρ cs,(∃ a b c d e,ρ=R a b c d e/\cs=C a b c d e/\I a b c d e)->G ρ cs:=by
 rintro _ _ ⟨a,b,c,d,e,rfl,rfl,i⟩;exact h a b c d e i
theorem G9 {α β γ:Type} {R:α->α->α->α->α->β->γ->zr} {C:α->α->α->α->α->β->γ->List OC} {I:α->α->α->α->α->β->γ->Prop} {G:zr->List OC->Prop} (h:∀ a b c d e x y,I a b c d e x y->G (R a b c d e x y) (C a b c d e x y)):∀ ρ cs,(∃ a b c d e x y,ρ=R a b c d e x y/\cs=C a b c d e x y/\I a b c d e x y)->G ρ cs:=by
 rintro _ _ ⟨a,b,c,d,e,x,y,rfl,rfl,i⟩;exact h a b c d e x y i
theorem uf {α β:Type} {A:α->β} {Q:α->β->Prop} {G:β->Prop} (h:∀ x,Q x (A x)->G (A x)):∀ e,(∃ x,e=A x/\Q x e)->G e:=by
 rintro _ ⟨x,rfl,q⟩;exact h x q
theorem D7 {c d:Bool} {p q:Prop} (e:c=d) (h1:d=MC->p) (h2:d=MG->q):if (if MG=MC then !c else c)=MC then p else q:=by
 subst e;exact yr (b:=if MG=MC then !c else c) h1 h2
theorem GL {α β:Type} {R:α->α->α->α->α->α->β->zr} {C:α->α->α->α->α->α->β->List OC} {I:α->α->α->α->α->α->β->Prop} {G:zr->List OC->Prop} (h:∀ a b c d e f x,I a b c d e f x->G (R a b c d e f x) (C a b c d e f x)):∀ ρ cs,(∃ a b c d e f x,ρ=R a b c d e f x/\cs=C a b c d e f x/\I a b c d e f x)->G ρ cs:=by
 rintro _ _ ⟨a,b,c,d,e,f,x,rfl,rfl,i⟩;exact h a b c d e f x i
theorem GN {c d:Bool} {p q:Prop} (e:c=d) (h1:d=MC->p) (h2:d=MG->q):if c=MC then p else q:=by
 subst e;exact yr h1 h2
theorem FP {α β γ:Type} {A:α->β->γ} {Q:α->β->Prop} {G:γ->Prop} (h:∀ x y,Q x y->G (A x y)):∀ e,(∃ x y,e=A x y/\Q x y)->G e:=by
 rintro _ ⟨x,y,rfl,q⟩;exact h x y q
theorem FQ {α β γ δ:Type} {A:α->β->γ->δ} {Q:α->β->γ->Prop} {G:δ->Prop} (h:∀ x y z,Q x y z->G (A x y z)):∀ e,(∃ x y z,e=A x y z/\Q x y z)->G e:=by
 rintro _ ⟨x,y,z,rfl,q⟩;exact h x y z q
theorem Ha {α:Type} {R:α->α->α->zr} {C:α->α->α->List OC} {G:zr->List OC->Prop} (h:∀ a b c,G (R a b c) (C a b c)):∀ ρ cs,(∃ a b c,ρ=R a b c/\cs=C a b c)->G ρ cs:=by
 rintro _ _ ⟨a,b,c,rfl,rfl⟩;exact h a b c
theorem GP {α β γ:Type} {R:α->α->α->α->β->γ->zr} {C:α->α->α->α->β->γ->List OC} {I:α->α->α->α->β->γ->Prop} {G:zr->List OC->Prop} (h:∀ a b c d x y,I a b c d x y->G (R a b c d x y) (C a b c d x y)):∀ ρ cs,(∃ a b c d x y,ρ=R a b c d x y/\cs=C a b c d x y/\I a b c d x y)->G ρ cs:=by
 rintro _ _ ⟨a,b,c,d,x,y,rfl,rfl,i⟩;exact h a b c d x y i
theorem GQ {α β γ:Type} {R:α->α->β->γ->zr} {C:α->α->β->γ->List OC} {I:α->α->β->γ->Prop} {G:zr->List OC->Prop} (h:∀ a b x y,I a b x y->G (R a b x y) (C a b x y)):∀ ρ cs,(∃ a b x y,ρ=R a b x y/\cs=C a b x y/\I a b x y)->G ρ cs:=by
 rintro _ _ ⟨a,b,x,y,rfl,rfl,i⟩;exact h a b x y i
noncomputable def hgt (Mt:Nb) (p:Pt):Int:=yc Mt p.1 p.2
structure Two (Mt:Nb) (wd:Nat) (h:Int) (rl ru:List (Bool×List Pt)):Prop where
 lo:Regs Mt wd (h - 1) rl
 up:Regs Mt wd h ru
section
variable {Mt:Nb} {wd:Nat} {h:Int} {rl ru:List (Bool×List Pt)}
theorem br {p:Pt}:hiP Mt (h - 1) p=MC↔h<=hgt Mt p:=by
 unfold hiP hiB hgt;rw [decide_eq_true_iff];omega
theorem dB {p:Pt}:hiP Mt h p=MG↔hgt Mt p<=h:=by
 unfold hiP hiB hgt;rw [decide_eq_false_iff_not];omega
theorem Two.adjL (T:Two Mt wd h rl ru) {p q:Pt} (ip:inP Mt wd p=MC) (iq:inP Mt wd q=MC) (n:q∈nbL p) (a:h<=hgt Mt p) (b:h<=hgt Mt q):ixR rl p=ixR rl q :=
 qw T.lo ip (Reach.refl.step (mem_join.mpr (.inl ⟨n,iq,(br.mpr b).trans (br.mpr a).symm⟩)))
theorem Two.adjU (T:Two Mt wd h rl ru) {p q:Pt} (ip:inP Mt wd p=MC) (iq:inP Mt wd q=MC) (n:q∈nbL p) (a:hgt Mt p<=h) (b:hgt Mt q<=h):ixR ru p=ixR ru q :=
 qw T.up ip (Reach.refl.step (mem_join.mpr (.inl ⟨n,iq,(dB.mpr b).trans (dB.mpr a).symm⟩)))
def i6 (Mt:Nb) (h:Int) (rl ru:List (Bool×List Pt)) (p q:Pt) (k:Key):Prop:=h<=hgt Mt p/\hgt Mt q<=h/\k=(ixR rl p,ixR ru q)
def EdgeK (Mt:Nb) (h:Int) (rl ru:List (Bool×List Pt)) (p q:Pt) (k:Key):Prop:=i6 Mt h rl ru p q k \/ i6 Mt h rl ru q p k
def vh (Mt:Nb) (wd:Nat) (h:Int) (rl ru:List (Bool×List Pt)) (k:Key):Prop:=∃ p q,inP Mt wd p=MC/\inP Mt wd q=MC/\(q∈nbL p \/ q=p)/\i6 Mt h rl ru p q k
theorem EdgeK.one (T:Two Mt wd h rl ru) {p q:Pt} (ip:inP Mt wd p=MC) (iq:inP Mt wd q=MC) (n:q∈nbL p) {k k':Key} (a:EdgeK Mt h rl ru p q k) (b:EdgeK Mt h rl ru p q k'):k=k':=by
 rcases a with⟨a1,a2,rfl⟩ | ⟨a1,a2,rfl⟩ <;> rcases b with⟨b1,b2,rfl⟩ | ⟨b1,b2,rfl⟩
 ·rfl
 ·rw [T.adjL ip iq n a1 b1,T.adjU ip iq n b2 a2]
 ·rw [T.adjL ip iq n b1 a1,T.adjU ip iq n a2 b2]
 ·rfl
theorem diag (T:Two Mt wd h rl ru) {x y:Int} (c:zS Mt wd x y=MC) (i:_root_.Fin 4) (a:h<=hgt Mt (cor x y i)) (a':h<=hgt Mt (cor x y (i+2))) (b:hgt Mt (cor x y (i+1))<=h) (b':hgt Mt (cor x y (i+3))<=h) :
  ixR rl (cor x y i)=ixR rl (cor x y (i+2)) \/ ixR ru (cor x y (i+1))=ixR ru (cor x y (i+3)):=by
 have inn:=sx c;have n0:=bq x y i (i+1) (D3 i);have n1:=bq x y (i+1) (i+2) (D4 i);have n2:=bq x y (i+2) (i+3) (D5 i);have n3:=bq x y (i+3) i (GG i);by_cases e1:h<=hgt Mt (cor x y (i+1))
 ·exact .inl ((T.adjL (inn _) (inn _) n0 a e1).trans (T.adjL (inn _) (inn _) n1 e1 a'))
 by_cases e2:h<=hgt Mt (cor x y (i+3))
 ·exact .inl ((T.adjL (inn _) (inn _) n3 e2 a).symm.trans (T.adjL (inn _) (inn _) (aI n2) e2 a'))
 by_cases e3:hgt Mt (cor x y i)<=h
 ·exact .inr ((T.adjU (inn _) (inn _) n0 e3 b).symm.trans (T.adjU (inn _) (inn _) (aI n3) e3 b'))
 by_cases e4:hgt Mt (cor x y (i+2))<=h
 ·exact .inr ((T.adjU (inn _) (inn _) n1 b e4).trans (T.adjU (inn _) (inn _) n2 e4 b'))
 by_cases mid:jV Mt (h - 1) x y=MC
 ·refine .inl (qw T.lo (inn _) (Reach.refl.step (dy c ?_)));have k0:l6 Mt (h - 1) x y i=MC:=by rw [<-vg];exact br.mpr a
  have k2:l6 Mt (h - 1) x y (i+2)=MC:=by rw [<-vg];exact br.mpr a'
  have k1:l6 Mt (h - 1) x y (i+1)=MG:=by rw [<-vg];exact dB.mpr (by omega)
  have k3:l6 Mt (h - 1) x y (i+3)=MG:=by rw [<-vg];exact dB.mpr (by omega)
  rw [mid];exact GJ _ _ _ _ i k0 k2 k1 k3
 ·refine .inr (qw T.up (inn _) (Reach.refl.step (dy c ?_)));have k0:l6 Mt h x y i=MC:=by rw [<-vg];cases e:hiP Mt h (cor x y i) with | true=>rfl | false=>exact absurd (dB.mp e) e3
  have k2:l6 Mt h x y (i+2)=MC:=by rw [<-vg];cases e:hiP Mt h (cor x y (i+2)) with | true=>rfl | false=>exact absurd (dB.mp e) e4
  have k1:l6 Mt h x y (i+1)=MG:=by rw [<-vg];exact dB.mpr b
  have k3:l6 Mt h x y (i+3)=MG:=by rw [<-vg];exact dB.mpr b'
  have mid':jV Mt h x y=MG:=by
   unfold jV at mid ⊢;rw [decide_eq_true_iff] at mid;exact Mz (by omega)
  rw [mid'];exact GK _ _ _ _ i k0 k2 k1 k3
theorem three (T:Two Mt wd h rl ru) {x y:Int} (c:zS Mt wd x y=MC) (i:_root_.Fin 4) {k1 k2 k3:Key} (a:EdgeK Mt h rl ru (cor x y i) (cor x y (i+1)) k1) (b:EdgeK Mt h rl ru (cor x y (i+1)) (cor x y (i+2)) k2) (d:EdgeK Mt h rl ru (cor x y (i+2)) (cor x y (i+3)) k3):k1=k2 \/ k2=k3:=by
 have inn:=sx c;have n1:=bq x y i (i+1) (D3 i);have n2:=bq x y (i+1) (i+2) (D4 i);have n3:=bq x y (i+2) (i+3) (D5 i);have dg:=diag T c i;have dg2:=diag T c (i+1);rw [D6,GH,GI] at dg2;rcases a with⟨a1,a2,rfl⟩ | ⟨a1,a2,rfl⟩ <;> rcases b with⟨b1,b2,rfl⟩ | ⟨b1,b2,rfl⟩
 ·exact .inl (by rw [T.adjL (inn _) (inn _) n1 a1 b1,T.adjU (inn _) (inn _) n2 a2 b2])
 ·rcases d with⟨d1,d2,rfl⟩ | ⟨d1,d2,rfl⟩
  ·rcases dg a1 d1 a2 d2 with e | e
   ·exact .inl (by rw [e])
   ·exact .inr (by rw [e])
  ·exact .inr (by rw [T.adjU (inn _) (inn _) n2 b2 d2,T.adjL (inn _) (inn _) n3 b1 d1])
 ·rcases d with⟨d1,d2,rfl⟩ | ⟨d1,d2,rfl⟩
  ·exact .inr (by rw [T.adjL (inn _) (inn _) n2 b1 d1,T.adjU (inn _) (inn _) n3 b2 d2])
  ·rcases dg2 b1 d1 b2 a2 with e | e
   ·exact .inr (by rw [e])
   ·exact .inl (by rw [e])
 ·exact .inl (by rw [T.adjL (inn _) (inn _) n2 a1 b1,T.adjU (inn _) (inn _) n1 a2 b2])
end
section
variable {Mt:Nb} {wd:Nat} {h:Int} {rl ru:List (Bool×List Pt)}
def v7 (Mt:Nb) (h:Int) (rl ru:List (Bool×List Pt)) (g:Gt) (k:Key):Prop:=EdgeK Mt h rl ru (g.1,g.2.1) (px g.1 g.2.2,py g.2.1 g.2.2) k
theorem EdgeK.symm {p q:Pt} {k:Key} (a:EdgeK Mt h rl ru p q k):EdgeK Mt h rl ru q p k:=Or.symm a
theorem ug {x y v:Int} (hv:v=0 \/ v=1):((px x v,py y v):Pt)∈nbL (x,y):=by
 rw [y9];rcases hv with rfl | rfl
 ·exact .inr (.inr (.inr rfl))
 ·exact .inr (.inr (.inl rfl))
def vG (Mt:Nb) (wd:Nat) (g:Gt):Prop:=(g.2.2=0 \/ g.2.2=1)/\inP Mt wd (g.1,g.2.1)=MC/\inP Mt wd (px g.1 g.2.2,py g.2.1 g.2.2)=MC
theorem uh {p q:Pt} (ip:inP Mt wd p=MC) (iq:inP Mt wd q=MC) (n:q∈nbL p):∃ g:Gt,vG Mt wd g/\((p=(g.1,g.2.1)/\q=(px g.1 g.2.2,py g.2.1 g.2.2)) \/ (q=(g.1,g.2.1)/\p=(px g.1 g.2.2,py g.2.1 g.2.2))):=by
 obtain⟨x,y⟩:=p;rcases y9.mp n with rfl | rfl | rfl | rfl
 ·have e:(px (x - 1) 0,py y 0)=(x,y):=by unfold px py;rw [Mw rfl,Mw rfl];exact JM (by dsimp only;omega) rfl
  exact⟨(x - 1,y,0),⟨.inl rfl,iq,by show inP Mt wd (px (x - 1) 0,py y 0)=MC;rw [e];exact ip⟩,.inr ⟨rfl,e.symm⟩⟩
 ·have e:(px x 1,py (y - 1) 1)=(x,y):=by unfold px py;rw [Mv (by decide),Mv (by decide)];exact JM rfl (by dsimp only;omega)
  exact⟨(x,y - 1,1),⟨.inr rfl,iq,by show inP Mt wd (px x 1,py (y - 1) 1)=MC;rw [e];exact ip⟩,.inr ⟨rfl,e.symm⟩⟩
 ·exact⟨(x,y,1),⟨.inr rfl,ip,iq⟩,.inl ⟨rfl,rfl⟩⟩
 ·exact⟨(x,y,0),⟨.inl rfl,ip,iq⟩,.inl ⟨rfl,rfl⟩⟩
theorem Dg (g:Good wd Mt) {p:Pt} (ip:inP Mt wd p=MC):∃ q,inP Mt wd q=MC/\q∈nbL p:=by
 have hw:=g.w1;obtain⟨x,y⟩:=p;have ip':z7 Mt wd x y=MC:=ip;unfold z7 at ip';rw [Hq,decide_eq_true_iff,decide_eq_true_iff] at ip';by_cases e:x+1<wd
 ·refine⟨(x+1,y),?_,y9.mpr (.inr (.inr (.inr rfl)))⟩;show z7 Mt wd (x+1) y=MC;unfold z7;rw [Hq,decide_eq_true_iff,decide_eq_true_iff];omega
 ·refine⟨(x - 1,y),?_,y9.mpr (.inl rfl)⟩;show z7 Mt wd (x - 1) y=MC;unfold z7;rw [Hq,decide_eq_true_iff,decide_eq_true_iff];omega
theorem ui (g:Good wd Mt) (T:Two Mt wd h rl ru) {k:Key} (m:vh Mt wd h rl ru k):∃ e:Gt,vG Mt wd e/\v7 Mt h rl ru e k:=by
 obtain⟨p,q,ip,iq,n,a,b,rfl⟩:=m;have fin:∀ {p q:Pt} {k:Key},inP Mt wd p=MC->inP Mt wd q=MC->q∈nbL p->i6 Mt h rl ru p q k->∃ e:Gt,vG Mt wd e/\v7 Mt h rl ru e k:=λip iq n pe=>by
  obtain⟨e,he,⟨e1,e2⟩ | ⟨e1,e2⟩⟩:=uh ip iq n
  ·exact⟨e,he,.inl (by rw [<-e1,<- e2];exact pe)⟩
  ·exact⟨e,he,.inr (by rw [<-e1,<- e2];exact pe)⟩
 rcases n with n | rfl
 ·exact fin ip iq n ⟨a,b,rfl⟩
 ·obtain⟨r,ir,nr⟩:=Dg g ip;by_cases e:hgt Mt r<=h
  ·exact fin ip ir nr ⟨a,e,by rw [T.adjU ip ir nr b e]⟩
  ·exact fin ir ip (aI nr) ⟨by omega,b,by rw [T.adjL ip ir nr a (by omega)]⟩
noncomputable def bk (g:Gt):Pt:=if (g.1+g.2.1) % 2=0 then (g.1,g.2.1) else if g.2.2=0 then (g.1,g.2.1 - 1) else (g.1 - 1,g.2.1)
theorem GR {g:Gt} (hv:g.2.2=0 \/ g.2.2=1):∃ j:_root_.Fin 4,g=gt (bk g).1 (bk g).2 j:=by
 obtain⟨x,y,v⟩:=g;unfold bk;dsimp only at *;by_cases e:(x+y) % 2=0
 ·rw [Mw e];rcases hv with rfl | rfl
  ·exact⟨0,rfl⟩
  ·exact⟨1,rfl⟩
 ·rw [Mv e];rcases hv with rfl | rfl
  ·rw [Mw rfl];exact⟨2,by show (x,y,0)=(x,y - 1+1,0);rw [Int.sub_add_cancel]⟩
  ·rw [Mv (by decide)];exact⟨3,by show (x,y,1)=(x - 1+1,y,1);rw [Int.sub_add_cancel]⟩
theorem ends (x y:Int) (j:_root_.Fin 4):let g:=gt x y (0 - j);((g.1,g.2.1)=cor x y j/\(px g.1 g.2.2,py g.2.1 g.2.2)=cor x y (j+1)) \/ ((g.1,g.2.1)=cor x y (j+1)/\(px g.1 g.2.2,py g.2.1 g.2.2)=cor x y j):=by
 match j with
 | 0=>exact .inl ⟨rfl,rfl⟩
 | 1=>exact .inl ⟨rfl,rfl⟩
 | 2=>exact .inr ⟨rfl,rfl⟩
 | 3=>exact .inr ⟨rfl,rfl⟩
theorem GS:∀ a b c:_root_.Fin 4,a≠b->b≠c->a≠c->∃ j:_root_.Fin 4,(0 - j=a \/ 0 - j=b \/ 0 - j=c)/\(0 - (j+1)=a \/ 0 - (j+1)=b \/ 0 - (j+1)=c)/\(0 - (j+2)=a \/ 0 - (j+2)=b \/ 0 - (j+2)=c):=by decide
theorem GU:∀ j:_root_.Fin 4,j+2+1=j+3:=by decide
theorem Hb:∀ j:_root_.Fin 4,0 - j≠0 - (j+1)/\0 - (j+1)≠0 - (j+2):=by decide
theorem l7 {x y:Int} {j:_root_.Fin 4} {k:Key} (hg:vG Mt wd (gt x y (0 - j))) (a:v7 Mt h rl ru (gt x y (0 - j)) k):EdgeK Mt h rl ru (cor x y j) (cor x y (j+1)) k/\inP Mt wd (cor x y j)=MC/\inP Mt wd (cor x y (j+1))=MC:=by
 obtain⟨_,i1,i2⟩:=hg;unfold v7 at a;rcases ends x y j with⟨e1,e2⟩ | ⟨e1,e2⟩
 ·rw [e1] at i1 a;rw [e2] at i2 a;exact⟨a,i1,i2⟩
 ·rw [e1] at i1 a;rw [e2] at i2 a;exact⟨a.symm,i2,i1⟩
theorem uj:∀ j:_root_.Fin 4,(j=0 \/ j+1=0 \/ j+2=0 \/ j+3=0)/\(j=2 \/ j+1=2 \/ j+2=2 \/ j+3=2):=by decide
theorem no3 (T:Two Mt wd h rl ru) {x y:Int} {a b c:_root_.Fin 4} (ab:a≠b) (bc:b≠c) (ac:a≠c) {ka kb kc:Key} (ga:vG Mt wd (gt x y a)) (gb:vG Mt wd (gt x y b)) (gc:vG Mt wd (gt x y c))
  (ea:v7 Mt h rl ru (gt x y a) ka) (eb:v7 Mt h rl ru (gt x y b) kb) (ec:v7 Mt h rl ru (gt x y c) kc) (nab:ka≠kb) (nbc:kb≠kc) (nac:ka≠kc):False:=by
 obtain⟨j,j0,j1,j2⟩:=GS a b c ab bc ac;have hk:∀ t,(t=a \/ t=b \/ t=c)->∃ k,vG Mt wd (gt x y t)/\v7 Mt h rl ru (gt x y t) k/\((t=a/\k=ka) \/ (t=b/\k=kb) \/ (t=c/\k=kc)):=λt ht=>by
  rcases ht with rfl | rfl | rfl
  ·exact⟨ka,ga,ea,.inl ⟨rfl,rfl⟩⟩
  ·exact⟨kb,gb,eb,.inr (.inl ⟨rfl,rfl⟩)⟩
  ·exact⟨kc,gc,ec,.inr (.inr ⟨rfl,rfl⟩)⟩
 obtain⟨k1,g1,e1,w1⟩:=hk _ j0;obtain⟨k2,g2,e2,w2⟩:=hk _ j1;obtain⟨k3,g3,e3,w3⟩:=hk _ j2;obtain⟨f1,i1,i2⟩:=l7 g1 e1;obtain⟨f2,_,i3⟩:=l7 g2 e2;obtain⟨f3,_,i4⟩:=l7 g3 e3;rw [D6] at f2 i3;rw [GU] at f3 i4;have cell:zS Mt wd x y=MC:=by
  have at':∀ t:_root_.Fin 4,(j=t \/ j+1=t \/ j+2=t \/ j+3=t)->inP Mt wd (cor x y t)=MC:=λt ht=>by
   rcases ht with rfl | rfl | rfl | rfl
   ·exact i1
   ·exact i2
   ·exact i3
   ·exact i4
  have c0:z7 Mt wd x y=MC:=at' 0 (uj j).1;have c2:z7 Mt wd (x+1) (y+1)=MC:=at' 2 (uj j).2;unfold zS;rw [c0,c2];rfl
 have dj:=Hb j;have ne:∀ {s t:_root_.Fin 4} {k k':Key},s≠t->((s=a/\k=ka) \/ (s=b/\k=kb) \/ (s=c/\k=kc))->((t=a/\k'=ka) \/ (t=b/\k'=kb) \/ (t=c/\k'=kc))->k≠k':=λ{s t k k'} st u v=>by
  rcases u with⟨rfl,rfl⟩ | ⟨rfl,rfl⟩ | ⟨rfl,rfl⟩ <;> rcases v with⟨rfl,rfl⟩ | ⟨rfl,rfl⟩ | ⟨rfl,rfl⟩
  ·exact absurd rfl st
  ·exact nab
  ·exact nac
  ·exact nab.symm
  ·exact absurd rfl st
  ·exact nbc
  ·exact nac.symm
  ·exact nbc.symm
  ·exact absurd rfl st
 rcases three T cell j f1 f2 f3 with e | e
 ·exact ne dj.1 w1 w2 e
 ·exact ne dj.2 w2 w3 e
end
theorem i7 {α:Type} (p:α->Bool):∀ l:List α,l.length=(l.filter p).length+(l.filter λx=>!p x).length
 | []=>rfl
 | a :: l=>by
  have ih:=i7 p l;cases e:p a with
  | true=>simp [Ip,e];omega
  | false=>simp [Ip,e];omega
theorem Bi {α β:Type} [DecidableEq β] (f:α->β):∀ (B:List β) (l:List α),(∀ x∈l,f x∈B)->(∀ b,(l.filter λx=>decide (f x=b)).length<=2)->l.length<=2 * B.length
 | [],l,h,_=>by
  cases l with
  | nil=>exact Ht _
  | cons a l=>exact absurd (h a Hk) (by simp)
 | b :: B,l,h,h2=>by
  have e:=i7 (λx=>decide (f x=b)) l;have ih:=Bi f B (l.filter λx=>!decide (f x=b)) (λx hx=>by
   obtain⟨h3,h4⟩:=HV.mp hx;rcases Hv.mp (h x h3) with z | z
   ·rw [Mx z] at h4;cases h4
   ·exact z) λc=>by
   rw [List.filter_filter];refine HM ?_ (h2 c);refine List.Sublist.length_le ?_;have:(λx=>decide (f x=c) && !decide (f x=b))=λx=>(λx=>!decide (f x=b)) x && decide (f x=c):=by funext x;exact Bool.and_comm _ _
   rw [this,<- List.filter_filter];exact Lc
  have:=h2 b;rw [HK];omega
noncomputable def BL:List Pt:=((HN 8).flatMap λ(a:Nat)=>(HN 8).map λ(b:Nat)=>((a:Int) - 1,(b:Int) - 1)).filter λp=>decide ((p.1+p.2) % 2=0) && !(decide (p.1=-1) && decide (p.2=-1))
theorem FR:BL.length=31:=by decide +kernel
section
variable {Mt:Nb} {wd:Nat} {h:Int} {rl ru:List (Bool×List Pt)}
theorem GV (g:Good wd Mt) {e:Gt} (he:vG Mt wd e):bk e∈BL:=by
 obtain⟨hv,i1,i2⟩:=he;obtain⟨x,y,v⟩:=e;have j1:z7 Mt wd x y=MC:=i1;unfold z7 at j1;rw [Hq,decide_eq_true_iff,decide_eq_true_iff] at j1;have hw:=g.w2;have hh:=g.h2;have key:∀ a b:Int,-1<=a->a<=6->-1<=b->b<=6->(a+b) % 2=0->¬ (a=-1/\b=-1)->(a,b)∈BL:=λa b a0 a1 b0 b1 ev nn=>by
  unfold BL;rw [HV,Ig];refine⟨⟨(a+1).toNat,Ia.mpr (by omega),Hz.mpr ⟨(b+1).toNat,Ia.mpr (by omega),JM (by dsimp only;omega) (by dsimp only;omega)⟩⟩,?_⟩;rw [Hq];refine⟨Mx ev,?_⟩;by_cases ha:a=-1
  ·have hb:¬ b=-1:=λz=>nn ⟨ha,z⟩;simp [hb]
  ·simp [ha]
 unfold bk;dsimp only at hv j1 ⊢;by_cases ev:(x+y) % 2=0
 ·rw [Mw ev];exact key x y (by omega) (by omega) (by omega) (by omega) ev (by omega)
 ·rw [Mv ev];rcases hv with rfl | rfl
  ·rw [Mw rfl];exact key x (y - 1) (by omega) (by omega) (by omega) (by omega) (by omega) (by omega)
  ·rw [Mv (by decide)];exact key (x - 1) y (by omega) (by omega) (by omega) (by omega) (by omega) (by omega)
theorem i8 (g:Good wd Mt) (T:Two Mt wd h rl ru) {ks:List Key} (nd:ks.Nodup) (hm:∀ k∈ks,vh Mt wd h rl ru k):ks.length<=62:=by
 have wit:∃ f:Key->Gt,∀ k∈ks,vG Mt wd (f k)/\v7 Mt h rl ru (f k) k:=by
  refine⟨λk=>Classical.epsilon λe=>vG Mt wd e/\v7 Mt h rl ru e k,λk hk=>?_⟩;exact Classical.epsilon_spec (p:=λe=>vG Mt wd e/\v7 Mt h rl ru e k) (ui g T (hm k hk))
 obtain⟨f,hf⟩:=wit;have:=Bi (λk=>bk (f k)) BL ks (λk hk=>GV g (hf k hk).1) λb=>?_
 ·rw [FR] at this;exact this
 have sub:(ks.filter λk=>decide (bk (f k)=b)).Sublist ks:=Lc;have nd2:=nd.sublist sub;have mem:∀ k∈ks.filter λk=>decide (bk (f k)=b),k∈ks/\bk (f k)=b:=λk hk=>⟨(HV.mp hk).1,MO (HV.mp hk).2⟩
 revert nd2 mem
 match (ks.filter λk=>decide (bk (f k)=b)) with
 | []=>intro _ _;exact HR _
 | [_]=>intro _ _;exact Lw _
 | [_,_]=>intro _ _;exact Ht _
 | ka :: kb :: kc :: r =>
  intro nd2 mem;exfalso;obtain⟨n1,n2⟩:=ID.mp nd2;obtain⟨n3,n4⟩:=ID.mp n2;have nab:ka≠kb:=λz=>n1 (z▸Hk);have nac:ka≠kc:=λz=>n1 (z▸Hl _ Hk);have nbc:kb≠kc:=λz=>n3 (z▸Hk);obtain⟨ma,ba⟩:=mem ka Hk;obtain⟨mb,bb⟩:=mem kb (Hl _ Hk);obtain⟨mc,bc⟩:=mem kc (Hl _ (Hl _ Hk));have at':∀ {k:Key},k∈ks->bk (f k)=b->∃ j:_root_.Fin 4,f k=gt b.1 b.2 j:=λ{k} hk e=>by
   obtain⟨j,ej⟩:=GR (hf k hk).1.1;rw [e] at ej;exact⟨j,ej⟩
  obtain⟨ja,ea⟩:=at' ma ba;obtain⟨jb,eb⟩:=at' mb bb;obtain⟨jc,ec⟩:=at' mc bc;have ha:=hf ka ma;have hb:=hf kb mb;have hc:=hf kc mc;rw [ea] at ha;rw [eb] at hb;rw [ec] at hc;have one:∀ {j j':_root_.Fin 4} {k k':Key},vG Mt wd (gt b.1 b.2 j)/\v7 Mt h rl ru (gt b.1 b.2 j) k->v7 Mt h rl ru (gt b.1 b.2 j') k'->k≠k'->j≠j':=λ{j j' k k'} u v ne z=>by
   subst z;exact ne (EdgeK.one T u.1.2.1 u.1.2.2 (ug u.1.1) u.2 v)
  exact no3 T (one ha hb.2 nab) (one hb hc.2 nbc) (one ha hc.2 nac) ha.1 hb.1 hc.1 ha.2 hb.2 hc.2 nab nbc nac
end
noncomputable def yk (Mt:Nb) (MK:Int) (rl ru:List (Bool×List Pt)) (t:Bool×List Gt):Key:=(ixR rl (hpt Mt MK MC (hdG t)),ixR ru (hpt Mt MK MG (hdG t)))
noncomputable def plc (k:Key) (ps:List Key):M8:=(HN ps.length).filter λi=>decide (ps[i]?=MA k)
noncomputable def bt (Mt:Nb) (wd:Nat) (h:Int) (rl ru:List (Bool×List Pt)) (k:Key):List Pt:=(y6 Mt.length wd).filter λp=>decide (hgt Mt p=h) && decide ((ixR rl p,ixR ru p)=k)
noncomputable def eS (Mt:Nb) (h:Int) (c:Pt):Bool:=decide (4 * h - 2<=om Mt c.1 c.2) && decide (om Mt c.1 c.2<4 * h+2)
noncomputable def cJ (c:Pt):List Pt:=[(c.1,c.2),(c.1+1,c.2),(c.1+1,c.2+1),(c.1,c.2+1)]
noncomputable def Dh (rl ru:List (Bool×List Pt)) (k:Key) (c:Pt):Bool:=(cJ c).any (λp=>decide (ixR rl p=k.1)) && (cJ c).any λp=>decide (ixR ru p=k.2)
noncomputable def xf (Mt:Nb) (wd:Nat) (h:Int) (rl ru:List (Bool×List Pt)) (k:Key):List Pt:=(y6 (Mt.length - 1) (wd - 1)).filter λc=>eS Mt h c && Dh rl ru k c
noncomputable def xg (l:M8):MB:=.tuple (l.map λ(i:Nat)=>.int i)
noncomputable def bu (Mt:Nb) (wd:Nat) (h:Int) (rl ru:List (Bool×List Pt)) (bs as:List Key) (k:Key):MB:=.tuple [.int h,xg (plc k bs),xg (plc k as),.tuple ((bt Mt wd h rl ru k).map pD),.tuple ((xf Mt wd h rl ru k).map pD)]
theorem fD {k:Key} {ps:List Key} {i:Nat}:i∈plc k ps↔ps[i]?=MA k:=by
 unfold plc;rw [HV,Ia,decide_eq_true_iff];exact⟨λz=>z.2,λz=>⟨(Hg.mp z).1,z⟩⟩
theorem dC {α:Type} {F:α->MB} (inj:∀ a b,F a=F b->a=b):∀ {l m:List α},l.map F=m.map F->l=m
 | [],[],_=>rfl
 | [],_ :: _,h=>by cases h
 | _ :: _,[],h=>by cases h
 | a :: l,b :: m,h=>by
  rw [HI,HI] at h;obtain⟨h1,h2⟩:=List.cons.inj h;rw [inj a b h1,dC inj h2]
theorem Di (a b:Nat) (h:(PyData.int (a:Int))=.int (b:Int)):a=b:=by
 have:=PyData.int.inj h;omega
section
variable {Mt:Nb} {wd:Nat} {h:Int} {rl ru:List (Bool×List Pt)}
theorem i9 (T:Two Mt wd h rl ru) {c:Int} (hc:c=h - 1 \/ c=h) {t:Bool×List Gt} (L:LineOk Mt wd c t.1 t.2) {e:Gt} (he:e∈t.2):yk Mt c rl ru t=(ixR rl (hpt Mt c MC e),ixR ru (hpt Mt c MG e)):=by
 have h0:=ue L;have o0:=L.op _ (JX h0);obtain⟨i,hi⟩:=Ii he;have r1:=g6 (h:=MC) L h0 i e hi;have r2:=g6 (h:=MG) L h0 i e hi;have i1:=gZ (h:=MC) o0;have i2:=gZ (h:=MG) o0;unfold yk;have e1:ixR rl (hpt Mt c MC (hdG t))=ixR rl (hpt Mt c MC e):=qw T.lo i1.1 (sA (c':=h - 1) (by rcases hc with rfl | rfl <;> omega) i1.2 r1).1;have e2:ixR ru (hpt Mt c MG (hdG t))=ixR ru (hpt Mt c MG e):=qw T.up i2.1 (xc (c':=h) (by rcases hc with rfl | rfl <;> omega) i2.2 r2).1;rw [<-e1,<- e2]
theorem uk {e:Gt} (he:vG Mt wd e) {u v:Pt} (a:(u=(e.1,e.2.1)/\v=(px e.1 e.2.2,py e.2.1 e.2.2)) \/ (v=(e.1,e.2.1)/\u=(px e.1 e.2.2,py e.2.1 e.2.2))) (hu:h<=hgt Mt u) (hv:hgt Mt v<h):opG Mt wd (h - 1) e=MC/\hpt Mt (h - 1) MC e=u/\hpt Mt (h - 1) MG e=v:=by
 obtain⟨hw,i1,i2⟩:=he;obtain⟨x,y,w⟩:=e;have gu:=br.mpr hu;have gv:hiP Mt (h - 1) v=MG:=dB.mpr (by omega);have i1':z7 Mt wd x y=MC:=i1;have i2':z7 Mt wd (px x w) (py y w)=MC:=i2;rcases a with⟨rfl,rfl⟩ | ⟨rfl,rfl⟩
 ·have k1:hiB Mt (h - 1) x y=MC:=gu;have k2:hiB Mt (h - 1) (px x w) (py y w)=MG:=gv;refine⟨?_,Mw k1,Mv (by show ¬ hiB Mt (h - 1) x y=MG;rw [k1];exact LL)⟩;unfold opG yT aF;unfold hiB at k1 k2;rw [i1',i2',k1,k2,Mx hw];rfl
 ·have k1:hiB Mt (h - 1) x y=MG:=gv;have k2:hiB Mt (h - 1) (px x w) (py y w)=MC:=gu;refine⟨?_,Mv (by show ¬ hiB Mt (h - 1) x y=MC;rw [k1];exact LL),Mw k1⟩;unfold opG yT aF;unfold hiB at k1 k2;rw [i1',i2',k1,k2,Mx hw];rfl
theorem Bj (g:Good wd Mt) (T:Two Mt wd h rl ru) {ts:List (Bool×List Gt)} (To:Told Mt wd (h - 1) ts) (al:∀ g,opG Mt wd (h - 1) g=MC->g∈flat ts) {as:List Key} {k k':Key} (m:vh Mt wd h rl ru k)
  (e:bu Mt wd h rl ru (ts.map (yk Mt (h - 1) rl ru)) as k=bu Mt wd h rl ru (ts.map (yk Mt (h - 1) rl ru)) as k'):k=k':=by
 unfold bu at e;have e0:=PyData.tuple.inj e;simp only [List.cons.injEq,and_true,true_and] at e0;obtain⟨eb,ea,ep,ec⟩:=e0;have eb':plc k (ts.map (yk Mt (h - 1) rl ru))=plc k' (ts.map (yk Mt (h - 1) rl ru)):=dC Di (PyData.tuple.inj eb);have ep':bt Mt wd h rl ru k=bt Mt wd h rl ru k':=dC (λa b=>aG) (PyData.tuple.inj ep);have byP:∀ {p:Pt},inP Mt wd p=MC->hgt Mt p=h->(ixR rl p,ixR ru p)=k->k=k':=λ{p} ip hp hk=>by
  have:p∈bt Mt wd h rl ru k:=by
   unfold bt;rw [HV,Hq,decide_eq_true_iff,decide_eq_true_iff];exact⟨jl.mpr ip,hp,hk⟩
  rw [ep'] at this;unfold bt at this;rw [HV,Hq,decide_eq_true_iff,decide_eq_true_iff] at this;exact hk.symm.trans this.2.2
 obtain⟨gt0,hg,hk⟩:=ui g T m;have nb0:((px gt0.1 gt0.2.2,py gt0.2.1 gt0.2.2):Pt)∈nbL (gt0.1,gt0.2.1):=ug hg.1;have main:∀ {u v:Pt},((u=(gt0.1,gt0.2.1)/\v=(px gt0.1 gt0.2.2,py gt0.2.1 gt0.2.2)) \/ (v=(gt0.1,gt0.2.1)/\u=(px gt0.1 gt0.2.2,py gt0.2.1 gt0.2.2)))->inP Mt wd u=MC->inP Mt wd v=MC->v∈nbL u->i6 Mt h rl ru u v k->k=k':=λ{u v} huv iu iv nv pe=>by
  obtain⟨a,b,ek⟩:=pe;by_cases c1:hgt Mt u=h
  ·exact byP iu c1 (by rw [ek,T.adjU iu iv nv (by omega) b])
  by_cases c2:hgt Mt v=h
  ·exact byP iv c2 (by rw [ek,T.adjL iu iv nv a (by omega)])
  obtain⟨op,h1,h2⟩:=uk hg huv a (by omega);obtain⟨t,ht,he⟩:=Ig.mp (al _ op);obtain⟨i,hi⟩:=Ii ht;have pr:=i9 T (.inl rfl) (To.line t ht) he;rw [h1,h2,<- ek] at pr;have mem:i∈plc k (ts.map (yk Mt (h - 1) rl ru)):=fD.mpr (by rw [Ho,hi,JQ,pr]);rw [eb',fD,Ho,hi,JQ,pr] at mem;exact ML mem
 rcases hk with pe | pe
 ·exact main (.inl ⟨rfl,rfl⟩) hg.2.1 hg.2.2 nb0 pe
 ·exact main (.inr ⟨rfl,rfl⟩) hg.2.2 hg.2.1 (aI nb0) pe
end
theorem bw:∀ {es:M9} {p:Nat->Int->Prop},(∀ (i:Nat) e,es[i]?=MA e->∃ n:Int,e=.int n/\p i n)->∃ ns:M4,es=ns.map .int/\∀ (i:Nat) n,ns[i]?=MA n->p i n
 | [],p,_=>⟨[],rfl,λi n h=>by cases h⟩
 | e :: es,p,h=>by
  obtain⟨n,rfl,hn⟩:=h 0 e rfl;obtain⟨ns,rfl,hs⟩:=bw (es:=es) (p:=λi=>p (i+1)) λi e' he=>h (i+1) e' (by simpa using he);refine⟨n :: ns,rfl,λi m hm=>?_⟩;cases i with
  | zero=>cases hm;exact hn
  | succ i=>exact hs i m (by simpa using hm)
abbrev GW (c:Nb×Nat) (xs:List DV):Prop:=xs=[.dat (tab c.1)]/\Good c.2 c.1
abbrev um (K:Hj):Sp:=spD K 1 GW λc r=>r=.list (qG (c.1.length - 1) (c.2 - 1))
theorem Bk (F:Def K mg "cells" ft pf) (uaa:mg "range"=MF) (uav:FnIn P w K mg base k "size" pf (rY K)):FnIn P w K mg base (k+1) "cells" pf (um K):=by
 refine F.ok gM rfl λfa cdv A outer s H E hr=>⟨_,(zc (z9 (zf uav hr rfl (za (pv 0) zb)) (zC (K:=K) (n:=2) rfl rfl (ze (zd (i:=1) gM.nd rfl (MM rfl) (MN rfl)) (ze (zd (i:=2) gM.nd rfl (MN rfl) (MM rfl)) zx)))) (zj (zv (fW (N:=pP) (own:=2) (fr:=[2]) (by walk_at "c") rfl (jq rfl uaa (za (zB yu (pv 1) zk) zb)) (λ_ _ _ _=>(zd (i:=0) (show (pP:MU).Nodup by decide +kernel) rfl (MM rfl) (MN rfl))) (λ_ _ _ _=>z8) (λ_ _ _ _=>(jq rfl uaa (za (zB yu (pv 2) zk) zb))) (λ_ _ _ _=>(zd (i:=1) (show (pP:MU).Nodup by decide +kernel) rfl (MM rfl) (MN rfl))) (λ_ _ _ _=>z8) (λ_ _ _ _=>(zE (za (pv 0) (za (pv 1) zb)))) rfl rfl (λ_=>rfl) (λ_ _ _ _ _=>rfl))))),?_⟩;rintro f xs ⟨Mt,wd⟩ hl ⟨rfl,g⟩
 try dsimp only [yd,zm]
 dsimp only at *;have g2:=g.h2;have w2:=g.w2;have g1:=g.h1;have w1:=g.w1;refine yq (yb (zt (Mt,wd) ?_));walk_at "w";rintro _ rfl;refine yg rfl (zo (zg (zo (zg (zP ?_)))));have ew:((wd:Int) - 1).toNat=wd - 1:=by omega
 have eh:((Mt.length:Int) - 1).toNat=Mt.length - 1:=by omega
 refine yA (PEdO.ped (qX (bC (zq (j8 (zi rfl ⟨_,rfl,yp ⟨_,rfl,zL ⟨_,rfl,by dsimp only;omega,by dsimp only;omega,λn ρ es=>(∃ u v,ρ=[u,v,MA (.dat (.int Mt.length))])/\es=qG (Mt.length - 1) n,⟨⟨_,_,rfl⟩,rfl⟩,?_,?_⟩⟩⟩))))))
 ·rintro D n d ρ' es hd ⟨⟨u,v,rfl⟩,rfl⟩;obtain⟨hn,rfl⟩:=vY hd;have hn':n<wd - 1:=by have:n<((wd:Int) - 1).toNat:=hn;omega
  have l1:(Mt.length - 1) * n<=7 * 7:=JC (by omega) (by omega);refine zg (jf ?_);rw [Mw rfl];refine B4 (bC (zq (j8 (zi rfl ⟨_,rfl,yp ⟨_,rfl,zL ⟨_,rfl,by omega,by omega,λm ρ es=>(∃ v,ρ=[MA (.dat (.int n)),v,MA (.dat (.int Mt.length))])/\es=qG (Mt.length - 1) n++(HN m).map (AR n),⟨⟨_,rfl⟩,by simp⟩,?_,?_⟩⟩⟩))))
  ·rintro m d ρ2 es2 hd2 ⟨⟨v,rfl⟩,rfl⟩;obtain⟨hm,rfl⟩:=vY hd2;have hm':m<Mt.length - 1:=by have:m<((Mt.length:Int) - 1).toNat:=hm;omega
   refine zg (jf ?_);rw [Mw rfl];refine yn (by rw [HA,lR,Hc,HY];omega) ?_;walk_at "w";rw [Kh,HH,Jg];rfl
  ·rintro ρ2 es2 ⟨⟨v,rfl⟩,rfl⟩;rw [vZ,eh];exact⟨⟨_,_,rfl⟩,by rw [gP]⟩
 ·rintro ρ' es ⟨_,rfl⟩;rw [vZ];dsimp only;rw [ew]
theorem dD {R:Int->Int->Prop} (tr:∀ a b c,R a b->R b c->R a c) {Mt:Nb} {ns:M4} (hes:ns.length=Mt.length) (hn:∀ (i:Nat) n,ns[i]?=MA n->∃ r,Mt[i]?=MA r/\n∈r/\∀ z∈r,R n z) {m:Int} (hm:m∈ns) (hm':∀ b∈ns,R m b):m∈Mt.flatten/\∀ n∈Mt.flatten,R m n:=by
 obtain⟨im,him⟩:=Ii hm;obtain⟨rm,erm,hrm,_⟩:=hn im m him;refine⟨IT.mpr ⟨_,Hu erm,hrm⟩,λn hnn=>?_⟩;obtain⟨r,hr,hnr⟩:=IT.mp hnn;obtain⟨i,hi⟩:=Ii hr;have hi':i<ns.length:=by rw [hes];exact (Hg.mp hi).1
 obtain⟨r',er',_,hz⟩:=hn i _ (Hd hi');rw [hi] at er';cases er';exact tr _ _ _ (hm' _ (Io hi')) (hz n hnr)
theorem l8 {wd:Nat} {Mt:Nb} (g:Good wd Mt) {i:Nat} {d:MB} (hd:(Mt.map λr=>PyData.list (r.map .int))[i]?=MA d):∃ r,Mt[i]?=MA r/\d=.list (r.map .int)/\r≠[]:=by
 rw [Ho] at hd;obtain⟨r,er,rfl⟩:=Jb.mp hd;have rl:=g.row r (Hu er);have w1:=g.w1;exact⟨r,er,rfl,by rintro rfl;simp at rl;omega⟩
abbrev et (K:Hj):Sp:=spD K 1 (λ(c:Nb×Nat) xs=>xs=[.dat (tab c.1)]/\Good c.2 c.1) λc r=>∃ m M:Int,r=.tuple [.int m,.int M]/\(m∈c.1.flatten/\∀ n∈c.1.flatten,m<=n)/\M∈c.1.flatten/\∀ n∈c.1.flatten,n<=M
theorem Dj (F:Def K mg "span" lD pf) (uaf:mg "min"=MF) (uad:mg "max"=MF) (uag:FnIn P w K mg base k "ask_table" pf (eP K)):FnIn P w K mg base (k+1) "span" pf (et K):=by
 refine F.ok CF rfl λfa cdv A outer s H E hr=>⟨_,(zc (yE (zf uag hr rfl (za (pv 0) zb))) (zj (zv (zE (za (zD (vR (K:=K) rfl rfl) rfl uaf boot_min (za (z6 (N:=pG) (own:=1) (fr:=[]) (by walk_at "c") rfl (zF (K:=K) rfl (pv 0)) (λ_ _ _ _=>(zd (i:=0) (show (pG:MU).Nodup by decide +kernel) rfl (MM rfl) (MN rfl))) (λ_ _ _ _=>z8) (λ_ _ _ _=>(zD (vR (K:=K) rfl rfl) rfl uaf boot_min (za (pv 0) zb))) rfl rfl (λ_=>rfl)) zb)) (za (zD (jQ (K:=K) rfl rfl) rfl uad boot_max (za (z6 (N:=pG) (own:=1) (fr:=[]) (by walk_at "c") rfl (zF (K:=K) rfl (pv 0)) (λ_ _ _ _=>(zd (i:=0) (show (pG:MU).Nodup by decide +kernel) rfl (MM rfl) (MN rfl))) (λ_ _ _ _=>z8) (λ_ _ _ _=>(zD (jQ (K:=K) rfl rfl) rfl uad boot_max (za (pv 0) zb))) rfl rfl (λ_=>rfl)) zb)) zb)))))),?_⟩;rintro f xs ⟨Mt,wd⟩ hl ⟨rfl,g⟩
 try dsimp only [yd,zm]
 dsimp only at *;have g1:=g.h1;have g2:=g.h2;have ml:(Mt.map λr=>PyData.list (r.map .int)).length=Mt.length:=Hc _;refine yq (aU (zt (Mt,wd) ?_));walk_at "w";rintro _ rfl;refine yA (jI (zq (fX (zq (fb (zi rfl ⟨_,rfl,by rw [ml];omega,λi e=>∃ n:Int,e=.int n/\∃ r,Mt[i]?=MA r/\n∈r/\∀ z∈r,n<=z,λD i d hd=>?_,λes hes hR=>?_⟩))))))
 ·obtain⟨r,er,rfl,ne⟩:=l8 g hd;exact fX (zq (zi rfl (zL ⟨r,rfl,ne,λM hM hM'=>⟨M,rfl,r,er,hM,hM'⟩⟩)))
 obtain⟨ns,rfl,hn⟩:=bw hR;rw [Hc,ml] at hes;refine zL ⟨ns,rfl,by rintro rfl;simp at hes;omega,λm hm hm'=>?_⟩;refine zq (cm (zq (fb (zi rfl ⟨_,rfl,by rw [ml];omega,λi e=>∃ n:Int,e=.int n/\∃ r,Mt[i]?=MA r/\n∈r/\∀ z∈r,z<=n,λD i d hd=>?_,λes2 hes2 hR2=>?_⟩))))
 ·obtain⟨r,er,rfl,ne⟩:=l8 g hd;exact cm (zq (zi rfl (zL ⟨r,rfl,ne,λM hM hM'=>⟨M,rfl,r,er,hM,hM'⟩⟩)))
 obtain⟨ns2,rfl,hn2⟩:=bw hR2;rw [Hc,ml] at hes2;refine zL ⟨ns2,rfl,by rintro rfl;simp at hes2;omega,λM hM hM'=>?_⟩;exact zL ⟨_,rfl,HB rfl,m,M,rfl,dD (R:=λa b=>a<=b) (λ_ _ _=>Ke) hes hn hm hm',dD (R:=λa b=>b<=a) (λ_ _ _ x y=>Ke y x) hes2 hn2 hM hM'⟩
noncomputable def vD (rl ru:List (Bool×List Pt)) (p:Pt):MB:=.tuple [.int (ixR rl p),.int (ixR ru p)]
def ke (Mt:Nb) (wd:Nat) (rl ru:List (Bool×List Pt)) (kvs:Nf):Prop:=∀ p,inP Mt wd p=MC->jG (pD p) kvs=MA (vD rl ru p)
abbrev GX (c:Nb×Nat×Int) (xs:List DV):Prop:=xs=[.dat (tab c.1),.dat (.int c.2.2)]/\Good c.2.1 c.1
def FT (w:MH) (K:Hj) (c:Nb×Nat×Int) (x:DV):Prop:=∃ rl ru kvs,x=.mon (j9 w K kvs)/\Two c.1 c.2.1 c.2.2 rl ru/\rl.length<=49/\ru.length<=49/\ke c.1 c.2.1 rl ru kvs
abbrev Bl (w:MH) (K:Hj):Sp:=spV K 2 GX (FT w K)
theorem Dk (F:Def K mg "both_regions" jE pH) (ube:FnIn P w K mg base k "indexes" pz (i5 w K)) (uaj:FnIn P w K mg base k "points" pf (v3 K)):FnIn P w K mg base (k+1) "both_regions" pH (Bl w K):=by
 refine F.okV qC rfl λfa cdv A outer s H E hr=>⟨_,(zc (zO (i:=2) qC.nd rfl (MN rfl) (zf ube hr rfl (za (pv 0) (za (zB yu (pv 1) zk) zb)))) (zc (zO (i:=3) qC.nd rfl (MN rfl) (zf ube hr rfl (za (pv 0) (za (pv 1) zb)))) (zj (zv (wx (w:=w) (K:=K) (N:=["point","lower","upper"]) (own:=1) (fr:=[2,3])  rfl rfl hr.units (by walk_at "c") rfl (zF (K:=K) rfl (zf uaj hr rfl (za (pv 0) zb))) (λ_ _ _ _=>(zd (i:=0) (show (["point","lower","upper"]:MU).Nodup by decide +kernel) rfl (MM rfl) (MN rfl))) (λ_ _ _ _=>z8) (λ_ _ _ _=>(pv 0)) (λ_ _ _ _=>(zE (za (zK (qI (w:=w) (K:=K) rfl rfl hr.units) (pv 1) (pv 0) (λ_ _=>rfl)) (za (zK (qI (w:=w) (K:=K) rfl rfl hr.units) (pv 2) (pv 0) (λ_ _=>rfl)) zb)))) rfl rfl (λ_=>rfl)))))),?_⟩;rintro f xs ⟨Mt,wd,h⟩ hl ⟨rfl,g⟩
 try dsimp only [yd,zm]
 dsimp only at *;have g2:=g.h2;have w2:=g.w2;have plen:(y6 Mt.length wd).length<=49:=by
  rw [vf];exact JC g2 w2
 refine DS (rE (rD (Mt,wd,h - 1) ?_));walk_at "w";rintro _ ⟨rl,k1,rfl,R1,l1,t1⟩;refine DS (rE (rD (Mt,wd,h) ?_));walk_at "w";rintro _ ⟨ru,k2,rfl,R2,l2,t2⟩;dsimp only at R1 R2;have q1:∀ p,inP Mt wd p=MC->jG (pD p) k1=MA (.int (ixR rl p)):=λp ip=>by
  obtain⟨rr,e1,e2⟩:=ud R1 ip;exact t1 _ rr _ e1 e2
 have q2:∀ p,inP Mt wd p=MC->jG (pD p) k2=MA (.int (ixR ru p)):=λp ip=>by
  obtain⟨rr,e1,e2⟩:=ud R2 ip;exact t2 _ rr _ e1 e2
 refine Gv (Fc (w:=w) (Ct (yf (zt (Mt,wd) (lg rfl ⟨rfl,⟨rfl,g⟩,?_⟩)))));rintro _ rfl;dsimp only;rw [dw];refine⟨_,rfl,λn ρ kvs=>(∃ u,ρ=[u,MA (.mon (j9 w K k1)),MA (.mon (j9 w K k2))])/\kvs.length<=n/\∀ p∈(y6 Mt.length wd).take n,jG (pD p) kvs=MA (vD rl ru p),⟨⟨_,rfl⟩,Ht _,(λp hp=>by cases hp)⟩,?_,?_⟩
 ·rintro D n d _ kvs hd ⟨⟨u,rfl⟩,kl,kk⟩;rw [Ho] at hd;cases eq:(y6 Mt.length wd)[n]? with
  | none=>rw [eq] at hd;cases hd
  | some p =>
   rw [eq] at hd;cases hd;have ip:=jl.mp (Hu eq);have hnl:=(Hg.mp eq).1;refine zg (jf ?_);rw [Mw rfl];refine Cr (by omega) (zi rfl ⟨jo p,jI (zq (eJ (w:=w) (v_var rfl ⟨k1,rfl,zi rfl ⟨jo p,_,q1 p ip,zq (eJ (w:=w) (v_var rfl ⟨k2,rfl,zi rfl ⟨jo p,_,q2 p ip,zL ⟨_,rfl,HB rfl,⟨_,rfl⟩,?_,λq hq=>?_⟩⟩⟩))⟩⟩)))⟩)
   ·exact HM (dv _ _ _) (by omega)
   ·rw [Iv,eq] at hq;by_cases e:q=p
    ·rw [e];exact iS ..
    ·rw [cD _ (λz=>e (aG z))];rcases HC.mp hq with z | z
     ·exact kk q z
     ·exact absurd (Hw.mp z) e
 ·rintro _ kvs ⟨_,_,kk⟩;rw [Hc,Ic] at kk;exact⟨kvs,rfl,rl,ru,kvs,rfl,⟨R1,R2⟩,l1,l2,λp ip=>kk p (jl.mpr ip)⟩
theorem FU {K:Hj} {f:Fx} {ρ:zr} {ta tb:TE} {P:MB->Prop} (b c:Bool) (h1:PEd K f ta ρ λx=>x=.bool b) (h2:b=MC->PEd K f tb ρ λx=>x=.bool c) (p:P (.bool (b && c))):PEd K f (xo ta tb) ρ P:=by
 refine o4 (h1.imp λx ex=>⟨b,ex,?_⟩);cases b with
 | true=>rw [Mw rfl];exact (h2 rfl).imp λy ey=>by subst ey;exact p
 | false=>rw [Mv He];exact p
abbrev GY (c:Nb×Nat×Int×Pt) (xs:List DV):Prop:=xs=[.dat (tab c.1),.dat (.int c.2.2.1),.dat (pD c.2.2.2)]/\Good c.2.1 c.1/\ve c.1 c.2.1 c.2.2.2=MC
abbrev uo (K:Hj):Sp:=spD K 3 GY λc r=>r=.bool (eS c.1 c.2.2.1 c.2.2.2)
theorem Bm (F:Def K mg "has_middle_at" jk pU) (uam:mg "sum"=MF) (uaz:FnIn P w K mg base k "corners" pI (bO K)):FnIn P w K mg base (k+1) "has_middle_at" pU (uo K):=by
 refine F.ok jU rfl λfa cdv A outer s H E hr=>⟨_,(zc (z9 (pv 2) (zC (K:=K) (n:=2) rfl rfl (ze (zd (i:=3) jU.nd rfl (MM rfl) (MN rfl)) (ze (zd (i:=4) jU.nd rfl (MM rfl) (MN rfl)) zx)))) (zj (zv (cN bV xu (zB yu (zB aR zk (pv 1)) zk) (zD (gm (K:=K) rfl rfl) rfl uam L6 (za (z6 (N:=pC) (own:=2) (fr:=[0]) (by walk_at "c") rfl (zF (K:=K) rfl (zf uaz hr rfl (za (pv 3) (za (pv 4) zb)))) (λ_ _ _ _=>(zC (K:=K) (n:=2) rfl rfl (ze (zd (i:=0) (show (pC:MU).Nodup by decide +kernel) rfl (MM rfl) (MN rfl)) (ze (zd (i:=1) (show (pC:MU).Nodup by decide +kernel) rfl (MM rfl) (MN rfl)) zx)))) (λ_ _ _ _=>z8) (λ_ _ _ _=>(zK (zH (K:=K) rfl) (zK (zH (K:=K) rfl) (pv 2) (pv 1) (λ_ _=>rfl)) (pv 0) (λ_ _=>rfl))) rfl rfl (λ_=>rfl)) zb)) (zB yh (zB aR zk (pv 1)) zk))))),?_⟩;rintro f xs ⟨Mt,wd,h,x,y⟩ hl ⟨rfl,g,hc⟩
 try dsimp only [yd,zm]
 dsimp only at *;obtain⟨i1,i2,i3,i4⟩:=cell_in (show zS Mt wd x y=MC from hc);refine yq (yb (zi rfl (yg rfl (zo (zg (zo (zg (zP ?_))))))));have hM:CMul 4 h:=MM (by decide);refine yA (kC (j8 (oZ ?_)));refine yp ⟨_,rfl,zi rfl ⟨_,rfl,hM,⟨_,rfl,yp ⟨_,rfl,⟨_,rfl,DM (PEdO.ped (gh (A:=λp:Int×Int=>PyData.tuple [.int p.1,.int p.2]) (B:=λp:Int×Int=>PyData.int (yc Mt p.1 p.2)) [(x,y),(x+1,y),(x+1,y+1),(x,y+1)] (yf (zt (x,y) ?_))))⟩⟩⟩⟩⟩;walk_at "w";rintro _ rfl;refine⟨_,rfl,rfl,show 4<=1000 by decide,?_,?_⟩
 ·rintro D p ρ' es hp ho hes;obtain⟨u,v,rfl⟩:=ho.two;have hi:z7 Mt wd p.1 p.2=MC:=by
   simp only [Hv,IB,or_false] at hp;rcases hp with rfl | rfl | rfl | rfl
   ·exact i1
   ·exact i2
   ·exact i3
   ·exact i4
  obtain⟨r,h1,h2⟩:=vX g hi;refine yg rfl (zo (zg (zo (zg (zP (jf ?_))))));rw [Mw rfl];refine yn hes ?_;unfold tab;walk_at "w";refine⟨_,h1,?_⟩;walk_at "w";refine⟨_,h2,?_⟩;exact⟨.mk2,rfl⟩
 ·refine⟨[yc Mt x y,yc Mt (x+1) y,yc Mt (x+1) (y+1),yc Mt x (y+1)],rfl,?_⟩;refine⟨_,rfl,?_⟩;have e:([yc Mt x y,yc Mt (x+1) y,yc Mt (x+1) (y+1),yc Mt x (y+1)]:M4).sum=om Mt x y:=rfl;rw [e];by_cases c:4 * h - 2<=om Mt x y
  ·rw [Mw (Mx c)];refine j8 (oZ ?_);refine yp ⟨_,rfl,zi rfl ⟨_,rfl,hM,⟨_,rfl,yp ⟨_,rfl,⟨_,rfl,?_⟩⟩⟩⟩⟩;show PyData.bool _=.bool (eS Mt h (x,y));unfold eS;dsimp only;rw [Mx c,Kj]
  ·rw [Mv (by rw [Mz c];exact He)];show PyData.bool MG=.bool (eS Mt h (x,y));unfold eS;dsimp only;rw [Mz c];rfl
noncomputable def kD (k:Key):MB:=.tuple [.int k.1,.int k.2]
abbrev GZ (w:MH) (K:Hj) (c:Nb×Nat×Int×Pt×Key×List (Bool×List Pt)×List (Bool×List Pt)×Nf) (xs:List DV):Prop:=xs=[.dat (pD c.2.2.2.1),.dat (kD c.2.2.2.2.1),.mon (j9 w K c.2.2.2.2.2.2.2)]/\ve c.1 c.2.1 c.2.2.2.1=MC/\ke c.1 c.2.1 c.2.2.2.2.2.1 c.2.2.2.2.2.2.1 c.2.2.2.2.2.2.2
abbrev uq (w:MH) (K:Hj):Sp:=spD K 3 (GZ w K) λc r=>r=.bool (Dh c.2.2.2.2.2.1 c.2.2.2.2.2.2.1 c.2.2.2.2.1 c.2.2.2.1)
theorem Bn (F:Def K mg "spans" fA pW) (uaz:FnIn P w K mg base k "corners" pI (bO K)):FnIn P w K mg base (k+1) "spans" pW (uq w K):=by
 refine F.ok vW rfl λfa cdv A outer s H E hr=>⟨_,(zc (z9 (pv 0) (zC (K:=K) (n:=2) rfl rfl (ze (zd (i:=3) vW.nd rfl (MM rfl) (MN rfl)) (ze (zd (i:=4) vW.nd rfl (MM rfl) (MN rfl)) zx)))) (zc (z9 (pv 1) (zC (K:=K) (n:=2) rfl rfl (ze (zd (i:=5) vW.nd rfl (MM rfl) (MN rfl)) (ze (zd (i:=6) vW.nd rfl (MM rfl) (MN rfl)) zx)))) (zc (y3 (i:=7) (N:=["corner","regions_at"]) (own:=1) (fr:=[2]) (by walk_at "c") rfl vW.nd rfl (MM rfl) (zF (K:=K) rfl (zf uaz hr rfl (za (pv 3) (za (pv 4) zb)))) (λ_ _ _ _=>(zd (i:=0) (show (["corner","regions_at"]:MU).Nodup by decide +kernel) rfl (MM rfl) (MN rfl))) (λ_ _ _ _=>z8) (λ_ _ _ _=>(zK (qI (w:=w) (K:=K) rfl rfl hr.units) (pv 1) (pv 0) (λ_ _=>rfl))) rfl rfl (λ_=>rfl) (MM rfl) rfl) (zj (zv (fK (ah (sV (K:=K) rfl hr.units) (pv 5) (z6 (N:=pQ) (own:=2) (fr:=[]) (by walk_at "c") rfl (zF (K:=K) rfl (pv 7)) (λ_ _ _ _=>(zC (K:=K) (n:=2) rfl rfl (ze (zd (i:=0) (show (pQ:MU).Nodup by decide +kernel) rfl (MM rfl) (MN rfl)) (ze (zd (i:=1) (show (pQ:MU).Nodup by decide +kernel) rfl (MM rfl) (MN rfl)) zx)))) (λ_ _ _ _=>z8) (λ_ _ _ _=>(pv 0)) rfl rfl (λ_=>rfl)) rfl) (kn (ah (sV (K:=K) rfl hr.units) (pv 6) (z6 (N:=pQ) (own:=2) (fr:=[]) (by walk_at "c") rfl (zF (K:=K) rfl (pv 7)) (λ_ _ _ _=>(zC (K:=K) (n:=2) rfl rfl (ze (zd (i:=0) (show (pQ:MU).Nodup by decide +kernel) rfl (MM rfl) (MN rfl)) (ze (zd (i:=1) (show (pQ:MU).Nodup by decide +kernel) rfl (MM rfl) (MN rfl)) zx)))) (λ_ _ _ _=>z8) (λ_ _ _ _=>(pv 1)) rfl rfl (λ_=>rfl)) rfl)))))))),?_⟩;rintro f xs ⟨Mt,wd,h,⟨x,y⟩,⟨k1,k2⟩,rl,ru,kvs⟩ hl ⟨rfl,hc,hb⟩
 try dsimp only [yd,zm]
 dsimp only at *;obtain⟨i1,i2,i3,i4⟩:=cell_in (show zS Mt wd x y=MC from hc);refine yq (yb (zi rfl (yg rfl (zo (zg (zo (zg (zP ?_))))))));refine yq (yb (zi rfl (yg rfl (zo (zg (zo (zg (zP ?_))))))));refine yq (yb (PEdO.ped (gh (A:=pD) (B:=vD rl ru) (cJ (x,y)) (yf (zt (x,y) (eZ rfl rfl ⟨rfl,rfl,?_⟩))))));rintro _ rfl;refine⟨_,rfl,rfl,show 4<=1000 by decide,?_,?_⟩
 ·rintro D p ρ' es hp ho hes;obtain⟨u,rfl⟩:=ho.one;have hi:inP Mt wd p=MC:=by
   simp only [cJ,Hv,IB,or_false] at hp;rcases hp with rfl | rfl | rfl | rfl
   ·exact i1
   ·exact i2
   ·exact i3
   ·exact i4
  refine zg (jf ?_);rw [Mw rfl];refine yn hes (eJ (w:=w) (v_var rfl ⟨kvs,rfl,zi rfl ⟨jo p,_,hb p hi,?_⟩⟩));exact⟨.mk1,rfl⟩
 refine zg ?_;have side:∀ (B:Pt->Nat) (n:Nat),((cJ (x,y)).map λp=>PyData.int (B p)).any (λe=>HU e (.int n))=(cJ (x,y)).any λp=>decide (B p=n):=λB n=>by
  rw [List.any_map];refine congrArg (λq=>(cJ (x,y)).any q) (funext λp=>?_);show HU (.int (B p)) (.int n)=decide (B p=n);rw [fC];exact decide_eq_decide.mpr (by omega)
 refine yA (FU ((cJ (x,y)).any λp=>decide (ixR rl p=k1)) ((cJ (x,y)).any λp=>decide (ixR ru p=k2)) ?_ ?_ ?_)
 ·refine DL (zi rfl ?_);refine PEdO.ped (gh (A:=vD rl ru) (B:=λp=>PyData.int (ixR rl p)) (cJ (x,y)) (yf (zi rfl ?_)));refine⟨_,rfl,rfl,show 4<=1000 by decide,?_,⟨_,rfl,rfl,?_,HB rfl,?_⟩⟩
  ·rintro D p ρ' es hp ho hes;obtain⟨u,v,rfl⟩:=ho.two;refine yg rfl (zo (zg (zo (zg (zP (jf ?_))))));rw [Mw rfl];exact yn hes (zi rfl ⟨.mk2,rfl⟩)
  ·intro e he;obtain⟨p,_,rfl⟩:=Hz.mp he;rfl
  ·rw [side]
 ·intro _;refine DL (zi rfl ?_);refine PEdO.ped (gh (A:=vD rl ru) (B:=λp=>PyData.int (ixR ru p)) (cJ (x,y)) (yf (zi rfl ?_)));refine⟨_,rfl,rfl,show 4<=1000 by decide,?_,⟨_,rfl,rfl,?_,HB rfl,?_⟩⟩
  ·rintro D p ρ' es hp ho hes;obtain⟨u,v,rfl⟩:=ho.two;refine yg rfl (zo (zg (zo (zg (zP (jf ?_))))));rw [Mw rfl];exact yn hes (zi rfl ⟨.mk2,rfl⟩)
  ·intro e he;obtain⟨p,_,rfl⟩:=Hz.mp he;rfl
  ·rw [side]
 ·rfl
theorem Bo {K:Hj} {f:Fx} {ρ:zr} {tt tu:L2.TT} {B:Bool->Prop} (b c:Bool) (h1:PTd K f tt ρ λx=>x=b) (h2:b=MC->PTd K f tu ρ λx=>x=c) (p:B (b && c)):PTd K f (Ef tt tu) ρ B:=by
 refine iD (h1.imp λx ex=>?_);subst ex;cases x with
 | true=>rw [Mw rfl];exact (h2 rfl).imp λy ey=>by subst ey;exact p
 | false=>rw [Mv He];exact p
theorem l9 (a b:Key):HU (kD a) (kD b)=decide (a=b):=by
 show (decide ((a.1:Int)=b.1) && (decide ((a.2:Int)=b.2) && MC))=_;rw [KJ,<- Bool.decide_and];refine decide_eq_decide.mpr ⟨λ⟨x,y⟩=>JM (by omega) (by omega),λz=>by rw [z];exact⟨rfl,rfl⟩⟩
theorem Bp {Mt:Nb} {wd:Nat} {c:Pt} (h:c∈y6 (Mt.length - 1) (wd - 1)):ve Mt wd c=MC:=by
 unfold y6 at h;obtain⟨x,hx,h⟩:=Ig.mp h;obtain⟨y,hy,rfl⟩:=Hz.mp h;rw [Ia] at hx hy;unfold ve zS z7;simp only [Hq,decide_eq_true_eq];omega
theorem bS {K:Hj} {f:Fx} {ρ:zr} {P:MB->Prop} {Mt:Nb} {wd:Nat} {i jx jy:Nat} {x y:Int} (g:Good wd Mt) (hi:z7 Mt wd x y=MC) (h1:ρ[i]?=MA (MA (.dat (tab Mt)))) (h2:ρ[jy]?=MA (MA (.dat (.int y)))) (h3:ρ[jx]?=MA (MA (.dat (.int x)))) (p:P (.int (yc Mt x y))):PEd K f (tOp (oV K) (tOp (oV K) (yt i) (yt jy)) (yt jx)) ρ P:=by
 obtain⟨r,e1,e2⟩:=vX g hi;exact mP (mP (zi h1 ⟨_,rfl,zi h2 ⟨_,rfl,_,e1,_,rfl,zi h3 ⟨_,rfl,_,e2,p⟩⟩⟩))
abbrev D8 (K:Hj):Sp:=spD K 2 (λ(c:Key×List Key) xs=>xs=[.dat (kD c.1),.dat (.list (c.2.map kD))]/\c.2.length<=500) λc r=>r=xg (plc c.1 c.2)
theorem FV (F:Def K mg "places_of" vz pM) (uac:mg "tuple"=MF) (uai:mg "enumerate"=MF):FnIn P w K mg base (k+1) "places_of" pM (D8 K):=by
 refine F.ok lM rfl λfa cdv A outer s H E hr=>⟨_,(zj (zv (jL (ju (K:=K) rfl) rfl uac IY (za (z6 (N:=qf) (own:=2) (fr:=[0]) (by walk_at "c") rfl (gf (K:=K) rfl rfl uai (za (pv 1) zb)) (λ_ _ _ _=>(zC (K:=K) (n:=2) rfl rfl (ze (zd (i:=0) (show (qf:MU).Nodup by decide +kernel) rfl (MM rfl) (MN rfl)) (ze (zd (i:=1) (show (qf:MU).Nodup by decide +kernel) rfl (MM rfl) (MN rfl)) zx)))) (λ_ _ _ _=>(jj (zM (y7 (K:=K) rfl hr.units) (pv 1) (pv 2) (zX _)))) (λ_ _ _ _=>(pv 0)) rfl rfl (λ_=>rfl)) zb)))),?_⟩;rintro f xs ⟨q,ps⟩ hl ⟨rfl,hp⟩
 try dsimp only [yd,zm]
 dsimp only at *;have eqk:∀ a b:Key,HU (kD a) (kD b)=decide (a=b):=λa b=>l9 a b;refine yA (cS (zq (PEdO.ped (cC (A:=λi:Nat=>PyData.tuple [.int i,kD (ps.getD i (0,0))]) (B:=λi:Nat=>.int i) (λi=>decide (ps[i]?=MA q)) (HN ps.length) (xU (zq (zi rfl (zL ⟨_,rfl,?_,?_,?_,?_⟩))))))))
 ·refine JT λi=>?_;rw [cR,K6,Ho,Ho];by_cases hi:i<ps.length
  ·rw [Jm hi,Hd hi,JQ,JQ,JQ,Hn,Hd hi];rfl
  ·rw [Ib (by omega),Ib (by rw [HY];omega)];rfl
 ·rw [HY];omega
 ·rintro D i ρ' es hi ho hes;obtain⟨u,v,rfl⟩:=ho.two;have hi':=Ia.mp hi;refine yg rfl (zo (zg (zo (zg (zP (yi (jH (zi rfl (zi rfl ⟨rfl,rfl,?_,_,rfl,?_,?_⟩)))))))))
  ·exact HM (Jd _ _) (HB rfl)
  ·rw [Mv He,eqk,Hn,Hd hi',LH];exact decide_eq_decide.mpr ⟨λz=>by rw [z],λz=>ML z⟩
  ·refine yr (λh1=>?_) λh1=>?_
   ·exact yn hes (zi rfl ⟨.mk2,rfl⟩)
   ·exact .mk2
 ·exact zL (.inl ⟨_,rfl,rfl⟩)
abbrev Bq (w:MH) (K:Hj):Sp:=spD K 4 (λ(c:(Nb×Nat×Int)×Key×List (Bool×List Pt)×List (Bool×List Pt)×Nf) xs=>xs=[.dat (tab c.1.1),.dat (.int c.1.2.2),.dat (kD c.2.1),.mon (j9 w K c.2.2.2.2)]/\Good c.1.2.1 c.1.1/\ke c.1.1 c.1.2.1 c.2.2.1 c.2.2.2.1 c.2.2.2.2) λc r=>r=.tuple ((bt c.1.1 c.1.2.1 c.1.2.2 c.2.2.1 c.2.2.2.1 c.2.1).map pD)
theorem Dl (F:Def K mg "points_of" vA pB) (uac:mg "tuple"=MF) (uaj:FnIn P w K mg base k "points" pf (v3 K)):FnIn P w K mg base (k+1) "points_of" pB (Bq w K):=by
 refine F.ok lO rfl λfa cdv A outer s H E hr=>⟨_,(zj (zv (jL (ju (K:=K) rfl) rfl uac IY (za (z6 (N:=qg) (own:=2) (fr:=[0,1,2,3]) (by walk_at "c") rfl (zF (K:=K) rfl (zf uaj hr rfl (za (pv 0) zb))) (λ_ _ _ _=>(zC (K:=K) (n:=2) rfl rfl (ze (zd (i:=0) (show (qg:MU).Nodup by decide +kernel) rfl (MM rfl) (MN rfl)) (ze (zd (i:=1) (show (qg:MU).Nodup by decide +kernel) rfl (MM rfl) (MN rfl)) zx)))) (λ_ _ _ _=>(jj (PW.pt (cf (zM (y7 (K:=K) rfl hr.units) (zK (zH (K:=K) rfl) (zK (zH (K:=K) rfl) (pv 2) (pv 1) (λ_ _=>rfl)) (pv 0) (λ_ _=>rfl)) (pv 3) (zX _)) (af (zM (y7 (K:=K) rfl hr.units) (zK (qI (w:=w) (K:=K) rfl rfl hr.units) (pv 5) (zE (za (pv 0) (za (pv 1) zb))) (λ_ _=>rfl)) (pv 4) (zX _))))))) (λ_ _ _ _=>(zE (za (pv 0) (za (pv 1) zb)))) rfl rfl (λ_=>rfl)) zb)))),?_⟩;rintro f xs ⟨⟨Mt,wd,h⟩,q,rl,ru,kvs⟩ hl ⟨rfl,g,hb⟩
 try dsimp only [yd,zm]
 dsimp only at *;have g2:=g.h2;have w2:=g.w2;have plen:(y6 Mt.length wd).length<=49:=by
  rw [vf];exact JC g2 w2
 refine yA (cS (zq (PEdO.ped (cC (A:=pD) (B:=pD) (λp=>decide (hgt Mt p=h) && decide ((ixR rl p,ixR ru p)=q)) (y6 Mt.length wd) (yf (zt (Mt,wd) (lg rfl ⟨rfl,⟨rfl,g⟩,?_⟩)))))));rintro _ rfl;refine⟨_,rfl,dw _ _,by omega,?_,zL (.inl ⟨_,rfl,rfl⟩)⟩;rintro D p ρ' es hp ho hes;obtain⟨u,v,rfl⟩:=ho.two;have hi:=jl.mp hp;obtain⟨r,h1,h2⟩:=vX g (show z7 Mt wd p.1 p.2=MC from hi);refine yg rfl (zo (zg (zo (zg (zP ?_)))));refine Bo (decide (hgt Mt p=h)) (decide ((ixR rl p,ixR ru p)=q)) (yi (jH ?_)) ?_ ?_
 ·refine bS g (show z7 Mt wd p.1 p.2=MC from hi) rfl rfl rfl (zi rfl ⟨rfl,rfl,HM (Jd _ _) (HB rfl),_,rfl,?_⟩);rw [Mv He];exact fC _ _
 ·intro _;refine yi (jH (eJ (w:=w) (v_var rfl ⟨kvs,rfl,jI (eZ rfl rfl ⟨_,rfl,HB rfl,jo p,_,hb p hi,zi rfl ⟨rfl,rfl,HM (Jd _ _) (HB rfl),_,rfl,?_⟩⟩)⟩)));exact l9 (ixR rl p,ixR ru p) q
 ·refine⟨rfl,?_⟩;refine yr (λh1=>?_) λh1=>?_
  ·exact yn hes (jI (eZ rfl rfl ⟨_,rfl,HB rfl,.mk2,rfl⟩))
  ·exact .mk2
abbrev Br (w:MH) (K:Hj):Sp:=spD K 4 (λ(c:(Nb×Nat×Int)×Key×List (Bool×List Pt)×List (Bool×List Pt)×Nf) xs=>xs=[.dat (tab c.1.1),.dat (.int c.1.2.2),.dat (kD c.2.1),.mon (j9 w K c.2.2.2.2)]/\Good c.1.2.1 c.1.1/\ke c.1.1 c.1.2.1 c.2.2.1 c.2.2.2.1 c.2.2.2.2) λc r=>r=.tuple ((xf c.1.1 c.1.2.1 c.1.2.2 c.2.2.1 c.2.2.2.1 c.2.1).map pD)
theorem Dm (F:Def K mg "cells_of" az pB) (uac:mg "tuple"=MF) (ubt:FnIn P w K mg base k "cells" pf (um K)) (ubu:FnIn P w K mg base k "has_middle_at" pU (uo K)) (ubv:FnIn P w K mg base k "spans" pW (uq w K)):FnIn P w K mg base (k+1) "cells_of" pB (Br w K):=by
 refine F.ok nZ rfl λfa cdv A outer s H E hr=>⟨_,(zj (zv (jL (ju (K:=K) rfl) rfl uac IY (za (z6 (N:=ql) (own:=1) (fr:=[0,1,2,3]) (by walk_at "c") rfl (zF (K:=K) rfl (zf ubt hr rfl (za (pv 0) zb))) (λ_ _ _ _=>(zd (i:=0) (show (ql:MU).Nodup by decide +kernel) rfl (MM rfl) (MN rfl))) (λ_ _ _ _=>(jj (PW.pt (cf (ya (K:=K) rfl (zf ubu hr rfl (za (pv 1) (za (pv 2) (za (pv 0) zb)))) (λ_=>rfl)) (af (ya (K:=K) rfl (zf ubv hr rfl (za (pv 0) (za (pv 3) (za (pv 4) zb)))) (λ_=>rfl))))))) (λ_ _ _ _=>(pv 0)) rfl rfl (λ_=>rfl)) zb)))),?_⟩;rintro f xs ⟨⟨Mt,wd,h⟩,q,rl,ru,kvs⟩ hl ⟨rfl,g,hb⟩
 try dsimp only [yd,zm]
 dsimp only at *;have g2:=g.h2;have w2:=g.w2;have plen:(y6 (Mt.length - 1) (wd - 1)).length<=49:=by
  rw [vf];exact JC (show Mt.length - 1<=7 by omega) (show wd - 1<=7 by omega)
 refine yA (cS (zq (PEdO.ped (cC (A:=pD) (B:=pD) (λc=>eS Mt h c && Dh rl ru q c) (y6 (Mt.length - 1) (wd - 1)) (yf (zt (Mt,wd) (lg rfl ⟨rfl,⟨rfl,g⟩,?_⟩)))))));rintro _ rfl;refine⟨_,rfl,dw _ _,by omega,?_,zL (.inl ⟨_,rfl,rfl⟩)⟩;rintro D c ρ' es hp ho hes;obtain⟨u,rfl⟩:=ho.one;have hc:ve Mt wd c=MC:=Bp hp;refine zg ?_;refine Bo (eS Mt h c) (Dh rl ru q c) (yY (zt (Mt,wd,h,c) (Gu rfl rfl rfl ⟨rfl,⟨rfl,g,hc⟩,?_⟩))) ?_ ?_
 ·rintro _ rfl;exact⟨_,rfl,rfl⟩
 ·intro _;refine yY (zt (Mt,wd,h,c,q,rl,ru,kvs) (zq (zi rfl (zq (zi rfl (iR (v_var rfl (zL ⟨rfl,⟨rfl,hc,hb⟩,?_⟩)))))))) ;rintro _ rfl;exact⟨_,rfl,rfl⟩
 ·refine⟨rfl,?_⟩;refine yr (λh1=>?_) λh1=>?_
  ·exact yn hes (zi rfl ⟨.mk1,rfl⟩)
  ·exact .mk1
theorem Bs {Mt:Nb} {wd:Nat} {p:Pt} (g:Good wd Mt) (h:inP Mt wd p=MC):At2 Mt p (hgt Mt p):=by
 obtain⟨x0,x1,y0,y1⟩:=bj (show z7 Mt wd p.1 p.2=MC from h);have hy:p.2.toNat<Mt.length:=by omega
 have hr:=g.row _ (Io hy);have hx:p.1.toNat<Mt[p.2.toNat].length:=by omega
 refine⟨x0,y0,_,Hd hy,?_⟩;unfold hgt yc;rw [Hn,Hn,Hd hy,LH,Hd hx];rfl
abbrev FW (w:MH) (K:Hj):Sp:=spD K 3 (λ(c:(Nb×Nat×Int)×(Gt×List Gt)×List (Bool×List Pt)×List (Bool×List Pt)×Nf) xs=>xs=[.dat (tab c.1.1),.dat (.tuple ((c.2.1.1 :: c.2.1.2).map gD3)),.mon (j9 w K c.2.2.2.2)]/\Good c.1.2.1 c.1.1/\opG c.1.1 c.1.2.1 c.1.2.2 c.2.1.1=MC/\ke c.1.1 c.1.2.1 c.2.2.1 c.2.2.2.1 c.2.2.2.2) λc r=>r=kD (ixR c.2.2.1 (hpt c.1.1 c.1.2.2 MC c.2.1.1),ixR c.2.2.2.1 (hpt c.1.1 c.1.2.2 MG c.2.1.1))
theorem xh (F:Def K mg "pair_beside" jZ pT) (kl_pair:gJ K "pair_beside"=MC) (uae:mg "sorted"=MF) (uaw:FnIn P w K mg base (k+2) "gate_points" ["gate"] (tX K)):FnIn P w K mg base (k+3) "pair_beside" pT (FW w K):=by
 refine F.okL vd rfl kl_pair λfa cL Pt A outer s H E l1 l2 hr=>⟨_,(zc (z9 (rJ (q:="pair_beside") (c:=cL) (P:=Pt) (jy:=0) (K:=K) rfl hr rfl uae (za (zf uaw hr rfl (za (zK (yG (K:=K) rfl) (pv 1) zk (λ_ _=>rfl)) zb)) zb) (by decide +kernel) rfl l1 l2 rfl (MO (by kernel_rfl)) rfl (λ_ _ _ _ _=>rfl) rfl rfl (MO (by kernel_rfl)) rfl rfl rfl rfl rfl) (kE (K:=K) (n:=2) rfl rfl (ze (zd (i:=3) vd.nd rfl (MM rfl) (MN rfl)) (ze (zd (i:=4) vd.nd rfl (MM rfl) (MN rfl)) zx)))) (zj (zv (zE (za (zK (yG (K:=K) rfl) (zK (qI (w:=w) (K:=K) rfl rfl hr.units) (pv 2) (pv 4) (λ_ _=>rfl)) zk (λ_ _=>rfl)) (za (zK (yG (K:=K) rfl) (zK (qI (w:=w) (K:=K) rfl rfl hr.units) (pv 2) (pv 3) (λ_ _=>rfl)) zk (λ_ _=>rfl)) zb)))))),?_⟩;rintro f xs ⟨⟨Mt,wd,MK⟩,⟨g0,l⟩,rl,ru,kvs⟩ hl ⟨rfl,g,op,hb⟩
 try dsimp only [yd,zm]
 dsimp only at *;have i1:=gZ (h:=MC) op;have i2:=gZ (h:=MG) op;have v1:PEd K f (tOp (uR K) (yt 1) (tC (V.int 0))) (qz b8 [DV.dat (tab Mt),DV.dat (PyData.tuple (KY gD3 (g0 :: l))),DV.mon (j9 w K kvs)]) λx=>x=gD3 g0:=vQ (zi rfl ⟨_,rfl,yp ⟨_,rfl,_,vE (k:=0) (j:=0) (xs:=g0 :: l) rfl (KS _),rfl⟩⟩);have fin:∀ hh lo:My.Pt,hh=hpt Mt MK MC g0->lo=hpt Mt MK MG g0->PSd K f (hJ (BW (yj (tOp (uR K) (tOp (dX w K) (yt 2) (yt 4)) (tC (V.int 0))) (yj (tOp (uR K) (tOp (dX w K) (yt 2) (yt 3)) (tC (V.int 1))) jK)))) [MA (.dat (tab Mt)),MA (.dat (PyData.tuple (KY gD3 (g0 :: l)))),MA (.mon (j9 w K kvs)),MA (.dat (pD lo)),MA (.dat (pD hh))] { nx:=λx=>PyData.none=kD (ixR rl (hpt Mt MK MC g0),ixR ru (hpt Mt MK MG g0)),rt:=λr=>r=kD (ixR rl (hpt Mt MK MC g0),ixR ru (hpt Mt MK MG g0)) }:=by
  rintro _ _ rfl rfl;refine yA (jI (zq (vQ (eJ (w:=w) (v_var rfl ⟨kvs,rfl,zi rfl ⟨jo _,_,hb _ i1.1,⟨_,rfl,yp ⟨_,rfl,_,rfl,?_⟩⟩⟩⟩)))));exact zq (vQ (eJ (w:=w) (v_var rfl ⟨kvs,rfl,zi rfl ⟨jo _,_,hb _ i2.1,⟨_,rfl,yp ⟨_,rfl,_,rfl,zL ⟨_,rfl,HB rfl,rfl⟩⟩⟩⟩⟩)))
 have op':=op;unfold opG yT aF at op';rw [Hq,Hq,Hq] at op';obtain⟨⟨_,j1,j2⟩,ne⟩:=op';have nn:(decide (MK<yc Mt g0.1 g0.2.1)=MC/\decide (MK<yc Mt (px g0.1 g0.2.2) (py g0.2.1 g0.2.2))=MG) \/ (decide (MK<yc Mt g0.1 g0.2.1)=MG/\decide (MK<yc Mt (px g0.1 g0.2.2) (py g0.2.1 g0.2.2))=MC):=by
  cases e1:decide (MK<yc Mt g0.1 g0.2.1) <;> cases e2:decide (MK<yc Mt (px g0.1 g0.2.2) (py g0.2.1 g0.2.2)) <;> rw [e1,e2] at ne <;> first | (cases ne;done) | exact .inl ⟨rfl,rfl⟩ | exact .inr ⟨rfl,rfl⟩
 rw [decide_eq_true_iff,decide_eq_false_iff_not,decide_eq_true_iff,decide_eq_false_iff_not] at nn;refine yq (yb (wA rfl (zq (zt g0 (zq (v1.imp λx ex=>?_))))));subst ex;refine zL ⟨rfl,rfl,?_⟩;rintro _ rfl;refine zL ⟨(g0.1,g0.2.1),(px g0.1 g0.2.2,py g0.2.1 g0.2.2),_,_,rfl,Bs g j1,Bs g j2,?_,λlt=>?_,λlt=>?_⟩
 ·intro e;unfold hgt at e;dsimp only at e;rw [e] at ne;simp at ne
 ·refine sU rfl (zo (zg (zo (zg (zP ?_)))));unfold hgt at lt;dsimp only at lt;refine fin _ _ ?_ ?_
  ·unfold hpt hiB;rw [Mv (by rw [decide_eq_true_iff];omega)]
  ·unfold hpt hiB;rw [Mw (Mz (by omega))]
 ·refine sU rfl (zo (zg (zo (zg (zP ?_)))));unfold hgt at lt;dsimp only at lt;refine fin _ _ ?_ ?_
  ·unfold hpt hiB;rw [Mw (Mx (by omega))]
  ·unfold hpt hiB;rw [Mv (by rw [decide_eq_false_iff_not];omega)]
theorem Dp {w:MH} {K:Hj} {f:Fx} {Ds:MS} {ρ:zr} {cs:List OC} {i j:Nat} {kvs:Nf} {P:MB->Prop} (hi:ρ[i]?=MA (MA (.own (f.M.length+j)))) (hc:cs[j]?=MA (.dic kvs)) (few:kvs.length<=1000) (h:P (.list (kvs.map (·.1)))) :
  PEm w K f Ds (tCB (rB w K) (yj (yt i) jK)) ρ cs P:=λse σ H H2 Q x q=>by
 have hj:j<Ds.length:=by rw [<-x.len];exact (Hg.mp hc).1
 have hD:Ds[j]?=MA Ds[j]:=Hd hj;obtain⟨xs,h1,h2⟩:=x.own j _ _ hD hc;have ek:xs.map (·.1)=kvs.map (·.1):=by
  have key:∀ {xs:Ng} {kvs:Nf},Paired (EntR K (hide H (f.withs Ds))) xs kvs->xs.map (·.1)=kvs.map (·.1):=λ{xs kvs} t=>by
   induction t with
   | nil=>rfl
   | cons a _ ih=>rw [HI,HI,ih,a.1]
  exact key h2
 have el:=cZ h2;have ko:=yO h2;have rr:Reps K (hide H (f.withs Ds)) (xs.map (·.1)) (xs.map λz=>V.ref z.2.1):=bD ko;refine⟨_,yQ hi x hD,Ds[j],xs,rfl,h1,by omega,λl0 hl0=>?_⟩;have g0:Goes (f.withs Ds) H (upd H l0 (.lst (xs.map λz=>.ref z.2.1))):=.of_same (ye hl0 _) x.env.fd;refine q (.list (kvs.map (·.1))) _ _ g0 (zJ.mpr ⟨l0,_,rfl,.inl (.inl (zI (fresh_ne x.env.fd hl0) zw)),?_⟩) h;rw [<-ek];exact Reps.mono g0.sm _ _ rr
theorem FX (k:Key):eX (kD k):=⟨⟨rfl,HB rfl⟩,_,rfl⟩
noncomputable def g8 (k:Key) (ks:List Key):List Key:=if k∈ks then ks else ks++[k]
theorem FY {a b:Key} (h:kD a=kD b):a=b:=by
 have e:=l9 a b;rw [h] at e;have e2:=l9 b b;rw [e,Mx rfl] at e2;exact MO e2
theorem Bt {k:Key} {v:MB} {kvs:Nf} {ks:List Key} (h:kvs.map (·.1)=ks.map kD):(dput (kD k) v kvs).map (·.1)=(g8 k ks).map kD:=by
 rw [v5,h];unfold g8;by_cases m:k∈ks
 ·rw [Mw m,Mw (Jx m)]
 ·rw [Mv m,Mv,HH]
  ·rfl
  ·intro z;obtain⟨a,ha,e⟩:=Hz.mp z;exact m (FY e▸ha)
theorem kf {k a:Key} {ks:List Key}:a∈g8 k ks↔a∈ks \/ a=k:=by
 unfold g8;by_cases m:k∈ks
 ·rw [Mw m];exact⟨.inl,λz=>z.elim id λe=>e▸m⟩
 ·rw [Mv m,HC,Hw]
theorem Bu {k:Key} {ks:List Key} (h:ks.Nodup):(g8 k ks).Nodup:=by
 unfold g8;by_cases m:k∈ks
 ·rw [Mw m];exact h
 ·rw [Mv m,IA];exact⟨h,ID.mpr ⟨IB,IE⟩,λa ha b hb e=>m (Hw.mp hb▸e▸ha)⟩
structure PrJ (Mt:Nb) (wd:Nat) (h:Int) (rl ru:List (Bool×List Pt)) (D:Pt->Pt->Prop) (kvs:Nf) (ks:List Key):Prop where
 key:kvs.map (·.1)=ks.map kD
 nd:ks.Nodup
 all:∀ k∈ks,vh Mt wd h rl ru k
 has:∀ p q,D p q->∀ k,i6 Mt h rl ru p q k->k∈ks
theorem PrJ.len {Mt:Nb} {wd:Nat} {h:Int} {rl ru:List (Bool×List Pt)} {D:Pt->Pt->Prop} {kvs:Nf} {ks:List Key} (J:PrJ Mt wd h rl ru D kvs ks) (g:Good wd Mt) (T:Two Mt wd h rl ru):kvs.length<=1000:=by
 have a:=i8 g T J.nd J.all;have b:=congrArg L9 J.key;rw [Hc,Hc] at b;omega
theorem ur {Mt:Nb} {wd:Nat} {p q:Pt} (ip:inP Mt wd p=MC):q∈(nbL p).filter (inP Mt wd)++[p]↔inP Mt wd q=MC/\(q∈nbL p \/ q=p):=by
 rw [HC,HV,Hw];constructor
 ·rintro (⟨a,b⟩ | rfl)
  ·exact⟨b,.inl a⟩
  ·exact⟨ip,.inr rfl⟩
 ·rintro⟨b,a | rfl⟩
  ·exact .inl ⟨a,b⟩
  ·exact .inr rfl
theorem Dq (Mt:Nb) (wd:Nat) (p:Pt):((nbL p).filter (inP Mt wd)).length<=4:=Ij _ (nbL p)
theorem take_snoc {α:Type} {l:List α} {n:Nat} {a z:α} (h:l[n]?=MA a) (hz:z∈l.take (n+1)):z∈l.take n \/ z=a:=by
 rw [Iv,h] at hz;rcases HC.mp hz with b | b
 ·exact .inl b
 ·exact .inr (Hw.mp b)
abbrev uu (w:MH) (K:Hj):Sp:=spD K 3 (λ(c:(Nb×Nat×Int)×List (Bool×List Pt)×List (Bool×List Pt)×Nf) xs=>xs=[.dat (tab c.1.1),.dat (.int c.1.2.2),.mon (j9 w K c.2.2.2)]/\Good c.1.2.1 c.1.1/\Two c.1.1 c.1.2.1 c.1.2.2 c.2.1 c.2.2.1/\ke c.1.1 c.1.2.1 c.2.1 c.2.2.1 c.2.2.2) λc r=>∃ ks:List Key,r=.list (ks.map kD)/\ks.Nodup/\∀ k,k∈ks↔vh c.1.1 c.1.2.1 c.1.2.2 c.2.1 c.2.2.1 k
theorem Bv (F:Def K mg "pairs" fz pS) (uao:mg "list"=MF) (uaj:FnIn P w K mg base k "points" pf (v3 K)) (uaN:FnIn P w K mg base k "neighbours" pj (FH K)):FnIn P w K mg base (k+1) "pairs" pS (uu w K):=by
 refine F.ok vV rfl λfa cdv A outer s H E hr=>⟨_,(zc (zO (i:=3) vV.nd rfl (MM rfl) (dW (w:=w) rfl)) (zc (yL Ie rfl (zF (K:=K) rfl (zf uaj hr rfl (za (pv 0) zb))) (zC (K:=K) (n:=2) rfl rfl (ze (zd (i:=4) vV.nd rfl (MM rfl) (MN rfl)) (ze (zd (i:=5) vV.nd rfl (MM rfl) (MN rfl)) zx))) (zj (yF (zM xw (zK (zH (K:=K) rfl) (zK (zH (K:=K) rfl) (pv 0) (pv 5) (λ_ _=>rfl)) (pv 4) (λ_ _=>rfl)) (pv 1) (zX _)) (zj (yL Ie rfl (zF (K:=K) rfl (zB (gp (K:=K) rfl) (zf uaN hr rfl (za (pv 0) (za (pv 4) (za (pv 5) zb)))) (yw (za (zE (za (pv 4) (za (pv 5) zb))) zb)))) (zC (K:=K) (n:=2) rfl rfl (ze (zd (i:=6) vV.nd rfl (MM rfl) (MN rfl)) (ze (zd (i:=7) vV.nd rfl (MM rfl) (MN rfl)) zx))) (zj (yF (zM bV (zK (zH (K:=K) rfl) (zK (zH (K:=K) rfl) (pv 0) (pv 7) (λ_ _=>rfl)) (pv 6) (λ_ _=>rfl)) (pv 1) (zX _)) (zj (z9 bU (aQ (pv 3) (zE (za (zK (yG (K:=K) rfl) (zK (qI (w:=w) (K:=K) rfl rfl hr.units) (pv 2) (zE (za (pv 4) (za (pv 5) zb))) (λ_ _=>rfl)) zk (λ_ _=>rfl)) (za (zK (yG (K:=K) rfl) (zK (qI (w:=w) (K:=K) rfl rfl hr.units) (pv 2) (zE (za (pv 6) (za (pv 7) zb))) (λ_ _=>rfl)) zk (λ_ _=>rfl)) zb))) (bf (w:=w) (K:=K) rfl rfl hr.units)))) zV)))) zV))) (zj (zv (jL (nI (w:=w) (K:=K) rfl rfl rfl) rfl uao LW (za (pv 3) zb)))))),?_⟩;rintro f xs ⟨⟨Mt,wd,h⟩,rl,ru,kvs0⟩ hl ⟨rfl,g,T,hb⟩
 try dsimp only [yd,zm]
 dsimp only at *;have g2:=g.h2;have w2:=g.w2;have plen:(y6 Mt.length wd).length<=49:=by
  rw [vf];exact JC g2 w2
 refine gD (w:=w) (iN (rh ⟨show 3<8 by decide,λD1=>?_⟩));show PSm w K f [D1] _ [MA (.dat (tab Mt)),MA (.dat (.int h)),MA (.mon (j9 w K kvs0)),MA (.own (f.M.length+0)),MF,MF,MF,MF] [OC.dic []] _;refine jg (vU (yf (zt (Mt,wd) (lg rfl ⟨rfl,⟨rfl,g⟩,?_⟩))));rintro _ rfl;dsimp only;rw [dw];refine⟨_,rfl,λn ρ cs=>∃ u v a b kvs ks,ρ=[MA (.dat (tab Mt)),MA (.dat (.int h)),MA (.mon (j9 w K kvs0)),MA (.own (f.M.length+0)),u,v,a,b]/\cs=[OC.dic kvs]/\PrJ Mt wd h rl ru (λp q=>p∈(y6 Mt.length wd).take n/\inP Mt wd q=MC/\(q∈nbL p \/ q=p)) kvs ks,⟨_,_,_,_,_,[],rfl,rfl,⟨rfl,IE,(λk hk=>by cases hk),(λp q hd=>by cases hd.1)⟩⟩,?_,?_⟩
 ·refine step_map λn p eq=>GP λu v a b kvs ks J=>?_
  ·have ip:=jl.mp (Hu eq);refine yg rfl (zo (zg (zo (zg (zP ?_)))));refine hZ (rf (yi (iC (bS g (show z7 Mt wd p.1 p.2=MC from ip) rfl rfl rfl ⟨_,rfl,zi rfl ⟨_,rfl,_,rfl,?_⟩⟩))));refine yr (λc1=>?_) λc1=>?_
   ·have c1:h<=hgt Mt p:=MO c1;refine vU (yf (o9 (zt (Mt,wd,p.1,p.2) (Gu rfl rfl rfl ⟨rfl,⟨rfl,g⟩,?_⟩))));rintro _ rfl;have nl:=Dq Mt wd p;have eL:((nbL (p.1,p.2)).filter (inP Mt wd)).map pD++[.tuple [.int p.1,.int p.2]]=((nbL p).filter (inP Mt wd)++[p]).map pD:=by
     rw [HH];rfl
    refine⟨_,rfl,xO (zq (jI (eZ rfl rfl ⟨_,rfl,HB rfl,zL ⟨_,rfl,HB rfl,⟨_,rfl,?_,?_⟩⟩⟩)))⟩
    ·rw [Hc];exact HM (Nat.add_le_add_right nl 1) (by decide)
    dsimp only;rw [eL];refine⟨_,rfl,λm ρ cs=>∃ a b kvs ks,ρ=[MA (.dat (tab Mt)),MA (.dat (.int h)),MA (.mon (j9 w K kvs0)),MA (.own (f.M.length+0)),MA (.dat (.int p.1)),MA (.dat (.int p.2)),a,b]/\cs=[OC.dic kvs]/\PrJ Mt wd h rl ru (λx q=>(x∈(y6 Mt.length wd).take n/\inP Mt wd q=MC/\(q∈nbL x \/ q=x)) \/ (x=p/\q∈((nbL p).filter (inP Mt wd)++[p]).take m)) kvs ks,⟨_,_,_,ks,rfl,rfl,⟨J.key,J.nd,J.all,λx q hd=>hd.elim (J.has x q) λz=>by cases z.2⟩⟩,?_,?_⟩
    ·refine step_map λm q eq2=>GQ λa b kvs ks J=>?_
     ·obtain⟨iq,nq⟩:=(ur ip).mp (Hu eq2);refine yg rfl (zo (zg (zo (zg (zP ?_)))));refine hZ (rf (yi (iC (bS g (show z7 Mt wd q.1 q.2=MC from iq) rfl rfl rfl ⟨_,rfl,zi rfl ⟨_,rfl,_,rfl,?_⟩⟩))));refine yr (λc2=>?_) λc2=>?_
      ·have c2:hgt Mt q<=h:=MO c2;refine nE rfl rfl (J.len g T) (xM ?_);refine jI (zq (vQ (eJ (w:=w) (v_var rfl ⟨kvs0,rfl,jI (eZ rfl rfl ⟨_,rfl,HB rfl,jo p,_,hb p ip,⟨_,rfl,yp ⟨_,rfl,_,rfl,?_⟩⟩⟩)⟩))));refine zq (vQ (eJ (w:=w) (v_var rfl ⟨kvs0,rfl,jI (eZ rfl rfl ⟨_,rfl,HB rfl,jo q,_,hb q iq,⟨_,rfl,yp ⟨_,rfl,_,rfl,zL ⟨_,rfl,HB rfl,?_,?_⟩⟩⟩⟩)⟩)))
       ·exact FX (ixR rl p,ixR ru q)
       refine⟨_,_,_,g8 (ixR rl p,ixR ru q) ks,rfl,rfl,⟨Bt (k:=(ixR rl p,ixR ru q)) J.key,Bu J.nd,λk hk=>?_,λx y hxy k hk=>kf.mpr ?_⟩⟩
       ·rcases kf.mp hk with z | rfl
        ·exact J.all k z
        ·exact⟨p,q,ip,iq,nq,c1,c2,rfl⟩
       ·rcases hxy with z | ⟨rfl,z⟩
        ·exact .inl (J.has x y (.inl z) k hk)
        ·rcases take_snoc eq2 z with z | rfl
         ·exact .inl (J.has x y (.inr ⟨rfl,z⟩) k hk)
         ·exact .inr hk.2.2
      ·have c2:¬ hgt Mt q<=h:=MP c2;refine va ⟨_,_,_,ks,rfl,rfl,⟨J.key,J.nd,J.all,λx y hxy k hk=>?_⟩⟩;rcases hxy with z | ⟨rfl,z⟩
       ·exact J.has x y (.inl z) k hk
       ·rcases take_snoc eq2 z with z | rfl
        ·exact J.has x y (.inr ⟨rfl,z⟩) k hk
        ·exact absurd hk.2.1 c2
    ·rintro _ _ ⟨a,b,kvs,ks,rfl,rfl,J⟩;refine⟨_,_,_,_,_,ks,rfl,rfl,⟨J.key,J.nd,J.all,λx y hxy k hk=>?_⟩⟩;rcases take_snoc eq hxy.1 with z | rfl
     ·exact J.has x y (.inl ⟨z,hxy.2⟩) k hk
     ·refine J.has x y (.inr ⟨rfl,?_⟩) k hk;rw [Hc,Ic];exact (ur ip).mpr hxy.2
   ·have c1:¬ h<=hgt Mt p:=MP c1;refine va ⟨_,_,_,_,_,ks,rfl,rfl,⟨J.key,J.nd,J.all,λx y hxy k hk=>?_⟩⟩;rcases take_snoc eq hxy.1 with z | rfl
    ·exact J.has x y ⟨z,hxy.2⟩ k hk
    ·exact absurd hk.1 c1
 ·rintro _ _ ⟨u,v,a,b,kvs,ks,rfl,rfl,J⟩;refine Ar (Dp rfl rfl (J.len g T) ⟨ks,by rw [J.key],J.nd,λk=>⟨J.all k,?_⟩⟩);rintro⟨p,q,ip,iq,n,pe⟩;refine J.has p q ⟨?_,iq,n⟩ k pe;rw [Hc,Ic];exact jl.mpr ip
theorem qx {x y:MB} {xs ys:M9} (a:vK x y=MC) (b:qA xs ys=MC):qA (x :: xs) (y :: ys)=MC:=by
 rw [qA];split
 ·exact b
 ·exact a
theorem dE {α:Type} {F:α->MB} (h:∀ a b,vK (F a) (F b)=MC):∀ l m:List α,qA (l.map F) (m.map F)=MC
 | [],m=>by rw [Kt,qA]
 | a :: l,[]=>rfl
 | a :: l,b :: m=>by
  rw [HI,HI];exact qx (h a b) (dE h l m)
theorem v8 {α:Type} {F:α->MB} (h:∀ a,zA (F a)=MC):∀ l:List α,zN (l.map F)=MC
 | []=>rfl
 | a :: l=>by
  show (zA (F a) && zN (l.map F))=MC;rw [h a,v8 h l];rfl
theorem v9 {α:Type} {F:α->MB} {n:Nat} (h:∀ a,(F a).depth<=n):∀ l:List α,Hy (l.map F)<=n
 | []=>HR _
 | a :: l=>LV.mpr ⟨h a,v9 h l⟩
theorem Bw (a b:Pt):vK (pD a) (pD b)=MC:=by
 show qA _ _=MC;exact qx rfl (qx rfl rfl)
section
variable {Mt:Nb} {wd:Nat} {h:Int} {rl ru:List (Bool×List Pt)} {bs as:List Key}
theorem g9 (k:Key):zA (bu Mt wd h rl ru bs as k)=MC:=by
 show (MC && (zN ((plc k bs).map λ(i:Nat)=>.int i) && (zN ((plc k as).map λ(i:Nat)=>.int i) && (zN ((bt Mt wd h rl ru k).map pD) && (zN ((xf Mt wd h rl ru k).map pD) && MC)))))=MC;rw [v8 (λ_=>rfl),v8 (λ_=>rfl),v8 (λ_=>rfl),v8 (λ_=>rfl)];rfl
theorem Bx (k k':Key):vK (bu Mt wd h rl ru bs as k) (bu Mt wd h rl ru bs as k')=MC:=by
 show qA _ _=MC;refine qx rfl (qx ?_ (qx ?_ (qx ?_ (qx ?_ rfl))))
 ·exact dE (λ_ _=>rfl) _ _
 ·exact dE (λ_ _=>rfl) _ _
 ·exact dE Bw _ _
 ·exact dE Bw _ _
theorem sC (k:Key):(bu Mt wd h rl ru bs as k).depth<=50:=by
 show max 0 (max (Hy ((plc k bs).map λ(i:Nat)=>.int i)+1) (max (Hy ((plc k as).map λ(i:Nat)=>.int i)+1) (max (Hy ((bt Mt wd h rl ru k).map pD)+1) (max (Hy ((xf Mt wd h rl ru k).map pD)+1) 0))))+1<=50;have a:=v9 (F:=λ(i:Nat)=>PyData.int i) (n:=0) (λ_=>Ht _) (plc k bs);have b:=v9 (F:=λ(i:Nat)=>PyData.int i) (n:=0) (λ_=>Ht _) (plc k as);have c:=v9 (F:=pD) (n:=1) (λ_=>Ht _) (bt Mt wd h rl ru k);have d:=v9 (F:=pD) (n:=1) (λ_=>Ht _) (xf Mt wd h rl ru k);omega
theorem By (g:Good wd Mt) (T:Two Mt wd h rl ru) {ts:List (Bool×List Gt)} (To:Told Mt wd (h - 1) ts) (al:∀ g,opG Mt wd (h - 1) g=MC->g∈flat ts) {ks:List Key} (nd:ks.Nodup) (m:∀ k∈ks,vh Mt wd h rl ru k):SortOk "int" (ks.map (bu Mt wd h rl ru (ts.map (yk Mt (h - 1) rl ru)) as)) where
 plain:=λd hd=>by obtain⟨t,_,rfl⟩:=Hz.mp hd;exact g9 t
 head:=λd hd=>by obtain⟨t,_,rfl⟩:=Hz.mp hd;rfl
 cmp:=λd hd e he=>by
  obtain⟨t,_,rfl⟩:=Hz.mp hd;obtain⟨u,_,rfl⟩:=Hz.mp he;exact Bx t u
 depth:=λd hd=>by obtain⟨t,_,rfl⟩:=Hz.mp hd;exact sC t
 nd:=IF.mpr (nd.imp_of_mem λ{a b} ha hb hd e=>hd (Bj g T To al (m a ha) e))
end
theorem md {K:Hj} {f:Fx} {ρ:zr} {wi:TI} {g:TG} {tt:L2.TT} {own:Nat} {fr:M8} {tb:Hm->TB} {P:M9->Prop} {α:Type} (A B:α->MB) (h:PId K f wi ρ λds=>∃ xs:List α,ds=xs.map A/\xs.length<=1000 /\
   (∀ D x ρ' es,x∈xs->OwnE own (L2.frD fr ρ) ρ'->es.length<1000->PGd K (f.with D) g (A x) ρ' λρ2=>PTd K (f.with D) tt ρ2 λb=>if b=MC then PBd K f D (tb D) ρ2 es λρ3 es3=>OwnE own (L2.frD fr ρ) ρ3/\es3=es++[B x] else False)/\P (xs.map B)) :
  PEdO K f (qE wi own fr g tt tb) ρ P :=
 qX (h.imp λds ⟨xs,ed,hl,hs,hp⟩=>by
  subst ed;refine⟨λi ρ' es=>OwnE own (L2.frD fr ρ) ρ'/\es=(xs.take i).map B,⟨⟨JB own MF,by simp,rfl⟩,by simp⟩,λD i d ρ' es hd ⟨ho,he⟩=>?_,λρ' es ⟨_,he⟩=>?_⟩
  ·rw [Ho] at hd;cases eq:xs[i]? with
   | none=>rw [eq] at hd;cases hd
   | some x =>
    rw [eq] at hd;cases hd;have hi:i<xs.length:=(Hg.mp eq).1;have hb:es.length<1000:=by
     rw [he,Hc,Im];omega
    intro σ H v Q e r q;refine hs D x ρ' es (Hu eq) ho hb σ H v Q e r λρ2 σ2 H2 g2 e2 p2=>q ρ2 σ2 H2 g2 e2 (p2.imp λb hb2=>?_);cases b with
    | false =>
     rw [Mv He] at hb2;exact hb2.elim
    | true =>
     rw [Mw rfl] at hb2 ⊢;intro h1 h2 σ3 H3 H4 W c k;exact hb2 h1 h2 σ3 H3 H4 W c λρ5 es5 σ5 H5 c5 ⟨o5,p5⟩=>k ρ5 es5 σ5 H5 c5 ⟨o5,by rw [p5,he,Iv,eq,HH];rfl⟩
  ·rw [he,Hc,Ic];exact hp)
def xi (Mt:Nb) (h:Int):Prop:=(∃ n∈Mt.flatten,n<=h)/\∃ n∈Mt.flatten,h<=n
structure NodesK (Mt:Nb) (wd:Nat) (h:Int) (es:M9) (rl ru:List (Bool×List Pt)) (ts us:List (Bool×List Gt)) (ks:List Key):Prop where
 two:Two Mt wd h rl ru
 told:Told Mt wd (h - 1) ts
 al:∀ g,opG Mt wd (h - 1) g=MC->g∈flat ts
 up:(ts.map jF).Pairwise λd e=>ltD d e=MC
 told2:Told Mt wd h us
 al2:∀ g,opG Mt wd h g=MC->g∈flat us
 up2:(us.map jF).Pairwise λd e=>ltD d e=MC
 mem:∀ k,k∈ks↔vh Mt wd h rl ru k
 perm:es.Perm (ks.map (bu Mt wd h rl ru (ts.map (yk Mt (h - 1) rl ru)) (us.map (yk Mt h rl ru))))
 ris:es.Pairwise λd e=>ltD d e=MC
 len:es.length<=62
abbrev uv (K:Hj):Sp:=spN K 2 GX λc es=>(xi c.1 c.2.2/\∃ rl ru ts us ks,NodesK c.1 c.2.1 c.2.2 es rl ru ts us ks) \/ (¬ xi c.1 c.2.2/\es=[])
theorem Bz (F:Def K mg "nodes_at" ay pH) (uae:mg "sorted"=MF) (uag:FnIn P w K mg base k "ask_table" pf (eP K)) (uaF:FnIn P w K mg base k "span" pf (et K)) (ubw:FnIn P w K mg base k "both_regions" pH (Bl w K)) (ubf:FnIn P w K mg base k "lines" pz (ub K)) (ubg:FnIn P w K mg base k "pair_beside" pT (FW w K)) (ubx:FnIn P w K mg base k "pairs" pS (uu w K)) (uby:FnIn P w K mg base k "points_of" pB (Bq w K)) (ubz:FnIn P w K mg base k "cells_of" pB (Br w K)) (ubh:FnIn P w K mg base k "places_of" pM (D8 K)):FnIn P w K mg base (k+1) "nodes_at" pH (uv K):=by
 refine F.okN yz rfl λfa cdv A outer s H E hr=>⟨_,(zc (yE (zf uag hr rfl (za (pv 0) zb))) (zc (z9 (zf uaF hr rfl (za (pv 0) zb)) (zC (K:=K) (n:=2) rfl rfl (ze (zd (i:=2) yz.nd rfl (MM rfl) (MN rfl)) (ze (zd (i:=3) yz.nd rfl (MM rfl) (MN rfl)) zx)))) (zc (yF (vH (xy bV bV (pv 2) (pv 1) (pv 3))) (zj (zv (yw zb))) zV) (zc (zO (i:=4) yz.nd rfl (MN rfl) (zf ubw hr rfl (za (pv 0) (za (pv 1) zb)))) (zc (y3 (i:=5) (N:=pR) (own:=2) (fr:=[0,4]) (by walk_at "c") rfl yz.nd rfl (MM rfl) (zF (K:=K) rfl (zf ubf hr rfl (za (pv 0) (za (zB yu (pv 1) zk) zb)))) (λ_ _ _ _=>(zC (K:=K) (n:=2) rfl rfl (ze (zd (i:=0) (show (pR:MU).Nodup by decide +kernel) rfl (MM rfl) (MN rfl)) (ze (zd (i:=1) (show (pR:MU).Nodup by decide +kernel) rfl (MM rfl) (MN rfl)) zx)))) (λ_ _ _ _=>z8) (λ_ _ _ _=>(zf ubg hr rfl (za (pv 2) (za (pv 1) (za (pv 3) zb))))) rfl rfl (λ_=>rfl) (MM rfl) rfl) (zc (y3 (i:=6) (N:=pR) (own:=2) (fr:=[0,4]) (by walk_at "c") rfl yz.nd rfl (MM rfl) (zF (K:=K) rfl (zf ubf hr rfl (za (pv 0) (za (pv 1) zb)))) (λ_ _ _ _=>(zC (K:=K) (n:=2) rfl rfl (ze (zd (i:=0) (show (pR:MU).Nodup by decide +kernel) rfl (MM rfl) (MN rfl)) (ze (zd (i:=1) (show (pR:MU).Nodup by decide +kernel) rfl (MM rfl) (MN rfl)) zx)))) (λ_ _ _ _=>z8) (λ_ _ _ _=>(zf ubg hr rfl (za (pv 2) (za (pv 1) (za (pv 3) zb))))) rfl rfl (λ_=>rfl) (MM rfl) rfl) (zc (zO (i:=7) yz.nd rfl (MM rfl) (yw zb)) (zc (yL Ie rfl (zF (K:=K) rfl (zf ubx hr rfl (za (pv 0) (za (pv 1) (za (pv 4) zb))))) (zd (i:=8) yz.nd rfl (MM rfl) (MN rfl)) (zc (zO (i:=9) yz.nd rfl (MM rfl) (zf uby hr rfl (za (pv 0) (za (pv 1) (za (pv 8) (za (pv 4) zb)))))) (zc (zO (i:=10) yz.nd rfl (MM rfl) (zf ubz hr rfl (za (pv 0) (za (pv 1) (za (pv 8) (za (pv 4) zb)))))) (zj (yE (fT IP Je Jf jM (pv 7) (za (zE (za (pv 1) (za (zf ubh hr rfl (za (pv 8) (za (pv 5) zb))) (za (zf ubh hr rfl (za (pv 8) (za (pv 6) zb))) (za (pv 9) (za (pv 10) zb)))))) zb))))))) (zj (zv (zD (cU (K:=K) rfl hr.units) rfl uae KN (za (pv 7) zb)))))))))))),?_⟩;rintro f xs ⟨Mt,wd,h⟩ hl ⟨rfl,g⟩
 try dsimp only [yd,zm]
 dsimp only at *;have g2:=g.h2;have w2:=g.w2;refine qY (aU (zt (Mt,wd) ?_));walk_at "w";rintro _ rfl;refine qY (yb (zt (Mt,wd) (lg rfl ⟨rfl,⟨rfl,g⟩,?_⟩)));refine FP λm M ⟨⟨m1,m2⟩,M1,M2⟩=>?_;refine yg rfl (zo (zg (zo (zg (zP ?_)))));have spn:(m<=h/\h<=M)↔xi Mt h:=⟨λz=>⟨⟨m,m1,z.1⟩,M,M1,z.2⟩,λ⟨⟨a,ha,la⟩,b,hb,lb⟩=>⟨Ke (m2 a ha) la,Ke lb (M2 b hb)⟩⟩;refine xZ (cQ (yi (kC (zi rfl ⟨_,rfl,zi rfl ⟨_,rfl,?_⟩⟩))));have out:¬ xi Mt h->PEdO K f (uP jK) [MA (.dat (tab Mt)),MA (.dat (.int h)),MA (.dat (.int m)),MA (.dat (.int M)),MF,MF,MF,MF,MF,MF,MF] λes=>(xi Mt h/\∃ rl ru ts us ks,NodesK Mt wd h es rl ru ts us ks) \/ (¬ xi Mt h/\es=[]):=λns=>bY (zL ⟨[],rfl,HR _,.inr ⟨ns,rfl⟩⟩);refine yr (λc1=>?_) λc1=>⟨_,rfl,out λz=>(MP c1) (spn.mpr z).1⟩;have c1:=MO c1;refine zi rfl ⟨_,rfl,_,rfl,?_⟩;by_cases c2:¬ h<=M
 ·rw [Mz c2];exact out λz=>c2 (spn.mpr z).2
 have c2:=Decidable.not_not.mp c2;rw [Mx c2];have hsp:=spn.mp ⟨c1,c2⟩;show PSn K f _ [MA (.dat (tab Mt)),MA (.dat (.int h)),MA (.dat (.int m)),MA (.dat (.int M)),MF,MF,MF,MF,MF,MF,MF] _;refine qY (rE (rD (Mt,wd,h) (eZ rfl rfl ⟨rfl,⟨rfl,g⟩,?_⟩)));refine FQ λrl ru kvs ⟨T,l1,l2,hb⟩=>?_;dsimp only at T hb;have lin:∀ {c:Int} {ts:List (Bool×List Gt)} (To:Told Mt wd c ts),∀ (D:Hm) (t:Bool×List Gt) (ρ':zr) (es:M9),t∈ts->OwnE 2 [MA (.dat (tab Mt)),MA (.mon (j9 w K kvs))] ρ'->es.length<1000->PGd K (f.with D) (BQ K 2 (sI (jA 0) (sI (jA 1) Ej))) (jF t) ρ' λρ2=>PTd K (f.with D) xI ρ2 λb=>if b=MC then PBd K f D (aL D (cO (FW w K) [] E0 (yj (yt 2) (yj (yt 1) (yj (yt 3) jK))))) ρ2 es λρ3 es3=>OwnE 2 [MA (.dat (tab Mt)),MA (.mon (j9 w K kvs))] ρ3/\es3=es++[kD (yk Mt c rl ru t)] else False:=by
  rintro c ts To D t ρ' es ht ho hes;obtain⟨u,v,rfl⟩:=ho.two;have L:=To.line t ht;obtain⟨g0,l,el⟩:=JN L.ne;have op:=L.op g0 (by rw [el];exact Hk);have hd:hdG t=g0:=by unfold hdG;rw [el];rfl
  unfold jF yk;rw [el,hd];refine yg rfl (zo (zg (zo (zg (zP (jf ?_))))));rw [Mw rfl];refine yn hes (zt ((Mt,wd,c),(g0,l),rl,ru,kvs) (zq (zi rfl (zq (zi rfl (iR (v_var rfl (zL ⟨rfl,⟨rfl,g,op,hb⟩,?_⟩))))))));rintro _ rfl;exact⟨.mk2,rfl⟩
 refine qY (yb (PEdO.ped (md jF (λt=>kD (yk Mt (h - 1) rl ru t)) (yf (PEdO.ped (qZ (Mt,wd,h - 1) (zq (zi rfl (zq (j8 (zi rfl ⟨_,rfl,yp ⟨_,rfl,zL ⟨rfl,⟨rfl,g⟩,?_⟩⟩⟩)))))))))));refine uf λts ⟨To,al,up⟩=>?_;have fewT:=To.few g;refine⟨_,rfl,ts,rfl,by omega,lin To,zg ?_⟩;refine qY (yb (PEdO.ped (md jF (λt=>kD (yk Mt h rl ru t)) (yf (PEdO.ped (qZ (Mt,wd,h) (eZ rfl rfl ⟨rfl,⟨rfl,g⟩,?_⟩)))))));refine uf λus ⟨Uo,alU,upU⟩=>?_;have fewU:=Uo.few g;refine⟨_,rfl,us,rfl,by omega,lin Uo,zg ?_⟩;refine fj (w:=w) (dU (vp (bY (zL ⟨[],rfl,HR _,show 7<11 by decide,λD1=>?_⟩))));show nA w K f [D1] _ [MA (.dat (tab Mt)),MA (.dat (.int h)),MA (.dat (.int m)),MA (.dat (.int M)),MA (.mon (j9 w K kvs)),MA (.dat (.list (ts.map λt=>kD (yk Mt (h - 1) rl ru t)))),MA (.dat (.list (us.map λt=>kD (yk Mt h rl ru t)))),MA (.own (f.M.length+0)),MF,MF,MF] [OC.lst []] _;have e1:(ts.map λt=>kD (yk Mt (h - 1) rl ru t))=(ts.map (yk Mt (h - 1) rl ru)).map kD:=by rw [Iw];rfl
 have e2:(us.map λt=>kD (yk Mt h rl ru t))=(us.map (yk Mt h rl ru)).map kD:=by rw [Iw];rfl
 have b1:(ts.map (yk Mt (h - 1) rl ru)).length<=49:=by rw [Hc];exact fewT
 have b2:(us.map (yk Mt h rl ru)).length<=49:=by rw [Hc];exact fewU
 generalize (ts.map λt=>kD (yk Mt (h - 1) rl ru t))=lb at e1 ⊢;generalize (us.map λt=>kD (yk Mt h rl ru t))=la at e2 ⊢;obtain⟨bs,ebs⟩:∃ bs,bs=ts.map (yk Mt (h - 1) rl ru):=⟨_,rfl⟩;obtain⟨as,eas⟩:∃ as,as=us.map (yk Mt h rl ru):=⟨_,rfl⟩;rw [<-ebs] at b1 e1;rw [<-eas] at b2 e2;subst e1;subst e2;refine kX (vU (yf (zt ((Mt,wd,h),rl,ru,kvs) (zq (zi rfl (zq (zi rfl (iR (v_var rfl (zL ⟨rfl,⟨rfl,g,T,hb⟩,?_⟩))))))))));refine uf λks ⟨nd,mem⟩=>?_;dsimp only at mem;have few:=i8 g T nd λk hk=>(mem k).mp hk;refine⟨_,rfl,λn ρ cs=>∃ u v a,ρ=[MA (.dat (tab Mt)),MA (.dat (.int h)),MA (.dat (.int m)),MA (.dat (.int M)),MA (.mon (j9 w K kvs)),MA (.dat (.list (bs.map kD))),MA (.dat (.list (as.map kD))),MA (.own (f.M.length+0)),u,v,a]/\cs=[OC.lst ((ks.take n).map (bu Mt wd h rl ru bs as))],⟨_,_,_,rfl,rfl⟩,?_,?_⟩
 ·refine step_map λn q eq=>Ha λu v a=>?_
  ·refine zg (jg (DU (aZ (zt ((Mt,wd,h),q,rl,ru,kvs) (zq (zi rfl (zq (zi rfl (zq (zi rfl (iR (v_var rfl (zL ⟨rfl,⟨rfl,g,hb⟩,?_⟩)))))))))))));rintro _ rfl;refine jg (DU (aZ (zt ((Mt,wd,h),q,rl,ru,kvs) (zq (zi rfl (zq (zi rfl (zq (zi rfl (iR (v_var rfl (zL ⟨rfl,⟨rfl,g,hb⟩,?_⟩))))))))))));rintro _ rfl;refine gE rfl rfl ?_ (aZ (jI (zq (zi rfl (zq (zt (q,bs) (eZ rfl rfl ⟨rfl,⟨rfl,HM b1 (by decide)⟩,?_⟩)))))))
   ·rw [Hc,Im];omega
   rintro _ rfl;refine zq (zt (q,as) (eZ rfl rfl ⟨rfl,⟨rfl,HM b2 (by decide)⟩,?_⟩));rintro _ rfl;refine eZ rfl rfl ⟨_,rfl,HB rfl,_,_,_,rfl,?_⟩;rw [Iv,eq,HH];rfl
 ·rintro _ _ ⟨u,v,a,rfl,rfl⟩;rw [Hc,Ic];refine fk (eF (m5 "int" (zi (i:=7) (d:=.list (ks.map (bu Mt wd h rl ru bs as))) ?_ ⟨_,rfl,?_,by rw [Hc];omega,.inl (by rw [Hc];omega),λes pm ri=>?_⟩)))
  ·show MA (freed _ _ _)=_;simp [freed]
  ·rw [ebs];exact By g T To al nd λk hk=>(mem k).mp hk
  ·rw [ebs,eas] at pm;exact .inl ⟨hsp,rl,ru,ts,us,ks,⟨T,To,al,up,Uo,alU,upU,mem,pm,ri,by rw [pm.length_eq,Hc];omega⟩⟩
theorem FZ {p c:Pt} (h:c∈caL p):((p.1,2 * c.2+1 - p.2):Pt)∈cJ c/\((p.1,2 * c.2+1 - p.2):Pt)∈nbL p/\asl p c∈nbL ((p.1,2 * c.2+1 - p.2):Pt):=by
 obtain⟨a,b⟩:=c;obtain⟨x,y⟩:=p;obtain⟨hu,hv⟩:=cI.mp h;dsimp only at hu hv;rw [y9,y9];unfold cJ asl;dsimp only;simp only [Hv,Prod.mk.injEq,IB,or_false,true_and,and_true];rcases hu with rfl | rfl <;> rcases hv with rfl | rfl <;> (refine⟨?_,?_,?_⟩ <;> omega)
section
variable {Mt:Nb} {wd:Nat} {MK:Int}
theorem Dr {c u:Pt} (cc:ve Mt wd c=MC) (h:u∈cJ c):inP Mt wd u=MC:=by
 obtain⟨i1,i2,i3,i4⟩:=cell_in (show zS Mt wd c.1 c.2=MC from cc);unfold cJ at h;simp only [Hv,IB,or_false] at h;rcases h with rfl | rfl | rfl | rfl
 ·exact i1
 ·exact i2
 ·exact i3
 ·exact i4
theorem Dt {p c:Pt} (h:c∈caL p) (cc:ve Mt wd c=MC) (cr:yX Mt wd MK c.1 c.2=MC):hiP Mt MK (p.1,2 * c.2+1 - p.2)=!hiP Mt MK p:=by
 obtain⟨c1,c2,c3⟩:=gY (show zS Mt wd c.1 c.2=MC from cc) cr;obtain⟨a,b⟩:=c;obtain⟨x,y⟩:=p;obtain⟨hu,hv⟩:=cI.mp h;dsimp only at hu hv c1 c2 c3 ⊢;unfold hiP;dsimp only;rcases hu with rfl | rfl <;> rcases hv with rfl | rfl
 ·rw [show 2 * y+1 - y=y+1 by omega];exact c2
 ·rw [show 2 * b+1 - (b+1)=b by omega,c2,LX]
 ·rw [show 2 * y+1 - y=y+1 by omega,c1,c3,LX]
 ·rw [show 2 * b+1 - (b+1)=b by omega,c1,c3]
theorem oE {rs:List (Bool×List Pt)} (R:Regs Mt wd MK rs) {p q:Pt} (ip:inP Mt wd p=MC) (iq:inP Mt wd q=MC) (e:ixR rs p=ixR rs q):Reach Mt wd MK p q:=by
 obtain⟨r,hr,hp⟩:=ud R ip;obtain⟨r',hr',hq⟩:=ud R iq;rw [e,hr'] at hr;cases hr;obtain⟨h0,X⟩:=R.reg r (Hu hr');exact (((X.mem p).mp hp).symm X.inn).trans ((X.mem q).mp hq)
def yJ (Mt:Nb) (wd:Nat) (h:Int) (l:List Pt):Prop:=((l.map pD).Pairwise λd e=>ltD d e=MC)/\∃ p,inP Mt wd p=MC/\(∀ q,q∈l↔Reach Mt wd (h - 1) p q)/\∀ q∈l,hgt Mt q=h
theorem yV {h:Int} {l:List Pt} (P:yJ Mt wd h l) {q:Pt} (hq:q∈l):inP Mt wd q=MC/\hgt Mt q=h/\∀ z,z∈l↔Reach Mt wd (h - 1) q z:=by
 obtain⟨_,p,ip,mem,hh⟩:=P;have r:=(mem q).mp hq;exact⟨(r.ins ip).1,hh q hq,λz=>(mem z).trans ⟨λy=>(r.symm ip).trans y,λy=>r.trans y⟩⟩
theorem qR {h:Int} {l:List Pt} (P:yJ Mt wd h l):l≠[]:=λe=>by
 obtain⟨_,p,_,mem,_⟩:=P;have:=(mem p).mpr .refl;rw [e] at this;cases this
theorem hC {h h':Int} {l l':List Pt} (P:yJ Mt wd h l) (P':yJ Mt wd h' l') {q:Pt} (hq:q∈l) (hq':q∈l'):h=h'/\l=l':=by
 obtain⟨_,a1,a2⟩:=yV P hq;obtain⟨_,b1,b2⟩:=yV P' hq';have e:h=h':=a1.symm.trans b1;subst e;exact⟨rfl,l5 P.1 P'.1 λz=>(a2 z).trans (b2 z).symm⟩
end
section
variable {Mt:Nb} {wd:Nat} {h:Int} {rl ru:List (Bool×List Pt)} {us:List (Bool×List Gt)} {k:Key}
theorem bx (T:Two Mt wd h rl ru) (Uo:Told Mt wd h us) (alU:∀ g,opG Mt wd h g=MC->g∈flat us) {p q:Pt} (ip:inP Mt wd p=MC) (iq:inP Mt wd q=MC) (n:q∈nbL p) (hp:h<hgt Mt p) (hq:hgt Mt q<=h):∃ i:Nat,(us.map (yk Mt h rl ru))[i]?=MA (ixR rl p,ixR ru q):=by
 obtain⟨e,he,o⟩:=uh ip iq n;obtain⟨op,h1,h2⟩:=uk (h:=h+1) he (u:=p) (v:=q) o (by omega) (by omega);rw [show h+1 - 1=h by omega] at op h1 h2;obtain⟨t,ht,het⟩:=Ig.mp (alU _ op);obtain⟨i,hi⟩:=Ii ht;have pr:=i9 T (.inr rfl) (Uo.line t ht) het;rw [h1,h2] at pr;exact⟨i,by rw [Ho,hi,JQ,pr]⟩
theorem xj (T:Two Mt wd h rl ru) (Uo:Told Mt wd h us) (alU:∀ g,opG Mt wd h g=MC->g∈flat us) {p:Pt} (ip:inP Mt wd p=MC) (hp:hgt Mt p=h) (no:∀ i:Nat,(us.map (yk Mt h rl ru))[i]?≠MA (ixR rl p,ixR ru p)) {q:Pt} (r:Reach Mt wd (h - 1) p q):hgt Mt q=h/\ixR ru q=ixR ru p:=by
 induction r with
 | refl=>exact⟨hp,rfl⟩
 | @step z z' r j ih =>
  obtain⟨hz,ez⟩:=ih;have iz:=(r.ins ip).1;obtain⟨iz',cz'⟩:=aJ j;have hz':h<=hgt Mt z':=br.mp (cz'.trans (br.mpr (by omega)));have rx:ixR rl z'=ixR rl p:=(qw T.lo ip (r.step j)).symm;rcases mem_join.mp j with⟨n,_,_⟩ | ⟨c,h1,h2,h3,_,rfl⟩
  ·by_cases up:h<hgt Mt z'
   ·obtain⟨i,hi⟩:=bx T Uo alU iz' iz (aI n) up (by omega);rw [rx,ez] at hi;exact absurd hi (no i)
   ·exact⟨by omega,(T.adjU iz iz' n (by omega) (by omega)).symm.trans ez⟩
  ·obtain⟨m1,m2,m3⟩:=FZ h1;have iu:=Dr h2 m1;have cu:=Dt h1 h2 h3;have hu:hgt Mt (z.1,2 * c.2+1 - z.2)<=h:=by
    have c0:=br (Mt:=Mt) (h:=h) (p:=(z.1,2 * c.2+1 - z.2));rw [cu,br.mpr (show h<=hgt Mt z by omega)] at c0;have:¬ h<=hgt Mt (z.1,2 * c.2+1 - z.2):=λy=>LL (c0.mpr y);omega
   have eu:ixR ru (z.1,2 * c.2+1 - z.2)=ixR ru p:=(T.adjU iz iu m2 (by omega) hu).symm.trans ez;by_cases up:h<hgt Mt (asl z c)
   ·obtain⟨i,hi⟩:=bx T Uo alU iz' iu (aI m3) up hu;rw [rx,eu] at hi;exact absurd hi (no i)
   ·exact⟨by omega,(T.adjU iu iz' m3 hu (by omega)).symm.trans eu⟩
theorem aa {p:Pt}:p∈bt Mt wd h rl ru k↔inP Mt wd p=MC/\hgt Mt p=h/\(ixR rl p,ixR ru p)=k:=by
 unfold bt;rw [HV,Hq,decide_eq_true_eq,decide_eq_true_eq,jl]
theorem uw:((bt Mt wd h rl ru k).map pD).Pairwise λd e=>ltD d e=MC:=by
 have:=uc Mt.length wd;rw [IF] at this ⊢;exact this.sublist Lc
theorem oF (T:Two Mt wd h rl ru) (Uo:Told Mt wd h us) (alU:∀ g,opG Mt wd h g=MC->g∈flat us) (m:vh Mt wd h rl ru k) (no:∀ i:Nat,(us.map (yk Mt h rl ru))[i]?≠MA k):yJ Mt wd h (bt Mt wd h rl ru k):=by
 obtain⟨p,q,ip,iq,n,a,b,rfl⟩:=m;have hp:hgt Mt p=h:=by
  refine Lr λz=>?_;rcases n with n | rfl
  ·obtain⟨i,hi⟩:=bx T Uo alU ip iq n (by omega) b;exact no i hi
  ·omega
 have eq:ixR ru q=ixR ru p:=by
  rcases n with n | rfl
  ·exact (T.adjU ip iq n (by omega) b).symm
  ·rfl
 rw [eq] at no ⊢;have w:=λ{z:Pt} (r:Reach Mt wd (h - 1) p z)=>xj T Uo alU ip hp no r;refine⟨uw,p,ip,λz=>aa.trans ⟨λ⟨iz,_,ek⟩=>oE T.lo ip iz (congrArg LD ek).symm,λr=>⟨(r.ins ip).1,(w r).1,by rw [(w r).2,<- qw T.lo ip r]⟩⟩,λz hz=>(aa.mp hz).2.1⟩
theorem BA (T:Two Mt wd h rl ru) (Uo:Told Mt wd h us) (alU:∀ g,opG Mt wd h g=MC->g∈flat us) {l:List Pt} (P:yJ Mt wd h l):∃ k,vh Mt wd h rl ru k/\(∀ i:Nat,(us.map (yk Mt h rl ru))[i]?≠MA k)/\bt Mt wd h rl ru k=l:=by
 obtain⟨p,hp⟩:∃ p,p∈l:=Jy _ (qR P);obtain⟨ip,hh,mem⟩:=yV P hp;have me:vh Mt wd h rl ru (ixR rl p,ixR ru p):=⟨p,p,ip,ip,.inr rfl,by omega,by omega,rfl⟩;have no:∀ i:Nat,(us.map (yk Mt h rl ru))[i]?≠MA (ixR rl p,ixR ru p):=λi hi=>by
  rw [Ho] at hi;cases eq:us[i]? with
  | none=>rw [eq] at hi;cases hi
  | some t =>
   rw [eq] at hi;have hi:=ML hi;have L:=Uo.line t (Hu eq);have h0:=ue L;have o0:=L.op _ (JX h0);have i1:=gZ (h:=MC) o0;unfold yk at hi;have e1:ixR rl (hpt Mt h MC (hdG t))=ixR rl p:=congrArg LD hi;have r:=oE T.lo ip i1.1 e1.symm;have a:=(yV P ((mem _).mpr r)).2.1;have b:=i1.2;unfold hiP hiB at b;have b:=MO b;unfold hgt at a;omega
 have tp:=oF T Uo alU me no;exact⟨_,me,no,(hC tp P (aa.mpr ⟨ip,hh,rfl⟩) hp).2⟩
end
structure ND where
 h:Int
 be:M8
 ab:M8
 ps:List Pt
 cs:List Pt
noncomputable def ndD (n:ND):MB:=.tuple [.int n.h,xg n.be,xg n.ab,.tuple (n.ps.map pD),.tuple (n.cs.map pD)]
structure TPk (Mt:Nb) (wd:Nat) (lo hi:Int) (N:List ND):Prop where
 hh:∀ n∈N,lo<=n.h/\n.h<hi
 pt:∀ n∈N,∀ p∈n.ps,inP Mt wd p=MC/\hgt Mt p=n.h
 pnd:(N.flatMap (·.ps)).Nodup
 pk:∀ n∈N,n.ab=[]->yJ Mt wd n.h n.ps
 all:∀ h l,yJ Mt wd h l->lo<=h->h<hi->∃ n∈N,n.h=h/\n.ps=l/\n.ab=[]
 few:∀ n∈N,n.be.length<=98/\n.ab.length<=98
 len:(N.length:Int)<=62 * (hi - lo)
theorem mf {α β:Type} (f:α->List β):∀ l:List α,l.Nodup->(∀ a∈l,(f a).Nodup)->(∀ a b,a∈l->b∈l->∀ x,x∈f a->x∈f b->a=b)->(l.flatMap f).Nodup
 | [],_,_,_=>IE
 | a :: l,nd,h1,h2=>by
  obtain⟨n1,n2⟩:=ID.mp nd;rw [JW];refine IA.mpr ⟨h1 a (Hk ..),mf f l n2 (λb hb=>h1 b (Hl _ hb)) λb c hb hc=>h2 b c (Hl _ hb) (Hl _ hc),λx hx y hy e=>?_⟩;subst e;obtain⟨b,hb,hxb⟩:=Ig.mp hy;exact n1 (h2 a b (Hk ..) (Hl _ hb) x hx hxb▸hb)
section
variable {Mt:Nb} {wd:Nat} {lo h:Int}
theorem TPk.nil:TPk Mt wd lo lo [] where
 hh:=λn h=>by cases h
 pt:=λn h=>by cases h
 pnd:=IE
 pk:=λn h=>by cases h
 all:=λh l _ a b=>by omega
 few:=λn h=>by cases h
 len:=by simp
theorem TPk.app {hi:Int} {N L:List ND} (A:TPk Mt wd lo h N) (B:TPk Mt wd h hi L) (l1:lo<=h) (l2:h<=hi):TPk Mt wd lo hi (N++L) where
 hh:=λn hn=>(HC.mp hn).elim (λz=>by have:=A.hh n z;omega) λz=>by have:=B.hh n z;omega
 pt:=λn hn=>(HC.mp hn).elim (A.pt n) (B.pt n)
 pnd:=by
  rw [Jn];refine IA.mpr ⟨A.pnd,B.pnd,λx hx y hy e=>?_⟩;subst e;obtain⟨n,hn,h1⟩:=Ig.mp hx;obtain⟨m,hm,h2⟩:=Ig.mp hy;have a:=(A.pt n hn x h1).2;have b:=(B.pt m hm x h2).2;have:=A.hh n hn;have:=B.hh m hm;omega
 pk:=λn hn=>(HC.mp hn).elim (A.pk n) (B.pk n)
 all:=λh' l P a b=>by
  by_cases z:h'<h
  ·obtain⟨n,hn,r⟩:=A.all h' l P a z;exact⟨n,HQ _ hn,r⟩
  ·obtain⟨n,hn,r⟩:=B.all h' l P (by omega) b;exact⟨n,HJ _ hn,r⟩
 few:=λn hn=>(HC.mp hn).elim (A.few n) (B.few n)
 len:=by
  have:=A.len;have:=B.len;rw [HA];omega
theorem ux {k:Key} {bs:List Key}:(plc k bs).length<=bs.length:=HM (Ij _ _) (by rw [HY];exact Ht _)
theorem BB {es:M9} {rl ru:List (Bool×List Pt)} {ts us:List (Bool×List Gt)} {ks:List Key} (A:NodesK Mt wd h es rl ru ts us ks) (l1:ts.length<=98) (l2:us.length<=98):∃ L:List ND,es=L.map ndD/\TPk Mt wd h (h+1) L:=by
 obtain⟨ks',pk,rfl⟩:=L2.perm_map_inv A.perm;have nd:ks'.Nodup:=by
  have r:=A.ris;rw [IF] at r;exact r.imp λ{a b} lt e=>by
   subst e;rw [qB _ (g9 a)] at lt;cases lt
 have mem:∀ k,k∈ks'↔vh Mt wd h rl ru k:=λk=>pk.mem_iff.trans (A.mem k)
 let F:Key->ND:=λk=>⟨h,plc k (ts.map (yk Mt (h - 1) rl ru)),plc k (us.map (yk Mt h rl ru)),bt Mt wd h rl ru k,xf Mt wd h rl ru k⟩
 have fP:(ks'.map F).flatMap (·.ps)=ks'.flatMap (bt Mt wd h rl ru):=by rw [List.flatMap_map]
 have each:∀ n∈ks'.map F,∃ k∈ks',F k=n:=λn hn=>Hz.mp hn;have MF:∀ {k:Key},plc k (us.map (yk Mt h rl ru))=[]↔∀ i:Nat,(us.map (yk Mt h rl ru))[i]?≠MA k:=λ{k}=>by
  constructor
  ·intro e i hi;have:=fD.mpr hi;rw [e] at this;cases this
  ·intro no;exact List.eq_nil_iff_forall_not_mem.mpr λi hi=>no i (fD.mp hi)
 refine⟨ks'.map F,by rw [Iw];rfl,⟨?_,?_,?_,?_,?_,?_,?_⟩⟩
 ·intro n hn;obtain⟨k,hk,rfl⟩:=each n hn;show h<=h/\h<h+1;omega
 ·intro n hn p hp;obtain⟨k,hk,rfl⟩:=each n hn;have:=aa.mp hp;exact⟨this.1,this.2.1⟩
 ·rw [fP];exact mf _ ks' nd (λk _=>by
   have:=uw (Mt:=Mt) (wd:=wd) (h:=h) (rl:=rl) (ru:=ru) (k:=k);rw [IF] at this;exact this.imp λ{a b} lt e=>by
    subst e;rw [qB _ rfl] at lt;cases lt) λa b _ _ p ha hb=>(aa.mp ha).2.2.symm.trans (aa.mp hb).2.2
 ·intro n hn e;obtain⟨k,hk,rfl⟩:=each n hn;exact oF A.two A.told2 A.al2 ((mem k).mp hk) (MF.mp e)
 ·intro h' l P a b;obtain rfl:h'=h:=by omega
  obtain⟨k,mk,no,e⟩:=BA A.two A.told2 A.al2 P;exact⟨F k,Hz.mpr ⟨k,(mem k).mpr mk,rfl⟩,rfl,e,MF.mpr no⟩
 ·intro n hn;obtain⟨k,hk,rfl⟩:=each n hn;have a:=ux (k:=k) (bs:=ts.map (yk Mt (h - 1) rl ru));have b:=ux (k:=k) (bs:=us.map (yk Mt h rl ru));rw [Hc] at a b;exact⟨HM a l1,HM b l2⟩
 ·have:=A.len;rw [Hc] at this ⊢;omega
end
theorem uy:∀ ts:List (Bool×List Gt),(∀ t∈ts,t.2≠[])->ts.length<=(flat ts).length
 | [],_=>Ht _
 | t :: ts,h=>by
  have ih:=uy ts λu hu=>h u (Hl _ hu);have:=Kz.mpr (h t (Hk ..));unfold flat at ih ⊢;rw [JW,HA,HK];omega
theorem oG {Mt:Nb} {wd:Nat} {MK:Int} {ts:List (Bool×List Gt)} (T:Told Mt wd MK ts) (g:Good wd Mt):ts.length<=98:=HM (uy ts λt ht=>(T.line t ht).ne) (T.len g)
theorem Du {Mt:Nb} {wd:Nat} (g:Good wd Mt) {x y:Int} (h:z7 Mt wd x y=MC):yc Mt x y∈Mt.flatten:=by
 obtain⟨a0,a1,a2,a3⟩:=bj h;have hy:y.toNat<Mt.length:=by omega
 have hr:Mt[y.toNat]∈Mt:=Io hy;have hl:=g.row _ hr;have hx:x.toNat<(Mt[y.toNat]).length:=by omega
 refine IT.mpr ⟨_,hr,?_⟩;unfold yc;have e1:Mt.getD y.toNat []=Mt[y.toNat]:=by rw [Hn,Hd hy];rfl
 rw [e1,Hn,Hd hx];exact Io hx
noncomputable def kg (b a:Nat):Str:=if b=0 then (if a=0 then "all" else "birth") else if a=0 then "end" else if a=1 then (if b=1 then "on" else "joining") else if b=1 then "parting" else "knot"
def F4 (c:Nb×Nat) (es:M9):Prop:=∃ (N:List ND) (lo hi:Int),es=N.map ndD/\TPk c.1 c.2 lo hi N/\(∀ n∈c.1.flatten,lo<=n/\n<hi)/\N.length<=620
abbrev BC (K:Hj):Sp:=spD K 1 (λ(c:Nb×Nat) xs=>xs=[.dat (tab c.1)]/\Good c.2 c.1/\∀ a∈c.1.flatten,∀ b∈c.1.flatten,a - b<=9) λc r=>∃ es,r=.list es/\F4 c es
theorem Dv (F:Def K mg "tree" lJ pf) (uaa:mg "range"=MF) (uaG:∃ t,mg "STEEPEST"=MA (.int 9 t)) (uag:FnIn P w K mg base k "ask_table" pf (eP K)) (uaF:FnIn P w K mg base k "span" pf (et K)) (ubA:FnIn P w K mg base k "nodes_at" pH (uv K)):FnIn P w K mg base (k+1) "tree" pf (BC K):=by
 obtain⟨_,uaG⟩:=uaG;refine F.ok lK rfl λfa cdv A outer s H E hr=>⟨_,(zc (yE (zf uag hr rfl (za (pv 0) zb))) (zc (z9 (zf uaF hr rfl (za (pv 0) zb)) (zC (K:=K) (n:=2) rfl rfl (ze (zd (i:=1) lK.nd rfl (MM rfl) (MN rfl)) (ze (zd (i:=2) lK.nd rfl (MM rfl) (MN rfl)) zx)))) (zc (yF (zM mF (zB yu (pv 2) (pv 1)) (aV rfl uaG) (zX _)) (zj fM) zV) (zj (zv (fW (N:=qh) (own:=2) (fr:=[0]) (by walk_at "c") rfl (ik rfl uaa (za (pv 1) (za (zB yh (pv 2) zk) zb))) (λ_ _ _ _=>(zd (i:=0) (show (qh:MU).Nodup by decide +kernel) rfl (MM rfl) (MN rfl))) (λ_ _ _ _=>z8) (λ_ _ _ _=>(zF (K:=K) rfl (zf ubA hr rfl (za (pv 2) (za (pv 0) zb))))) (λ_ _ _ _=>(zd (i:=1) (show (qh:MU).Nodup by decide +kernel) rfl (MM rfl) (MN rfl))) (λ_ _ _ _=>z8) (λ_ _ _ _=>(pv 1)) rfl rfl (λ_=>rfl) (λ_ _ _ _ _=>rfl))))))),?_⟩;rintro f xs ⟨Mt,wd⟩ hl ⟨rfl,g,fl⟩
 try dsimp only [yd,zm]
 dsimp only at *;refine yq (aU (zt (Mt,wd) ?_));walk_at "w";rintro _ rfl;refine yq (yb (zt (Mt,wd) (lg rfl ⟨rfl,⟨rfl,g⟩,?_⟩)));rintro _ ⟨m,M,rfl,⟨m1,m2⟩,M1,M2⟩;refine yg rfl (zo (zg (zo (zg (zP ?_)))));have mM:=fl M M1 m m1;have mM2:=m2 M M1;obtain⟨r0,h0,z0⟩:=IT.mp m1;have b0:=g.hgt r0 h0 m z0;obtain⟨r1,h1,z1⟩:=IT.mp M1;have b1:=g.hgt r1 h1 M z1;refine yq (fY (yi ?_));walk_at "w";rw [Mz (by omega),Mv He];refine aM (yA (PEdO.ped (qX (mS (zq (zi rfl (zq (j8 (zi rfl ⟨_,rfl,yp ⟨_,rfl,zL ⟨m,M+1,rfl,⟨by omega,by omega,by omega,by omega⟩,?_⟩⟩⟩)))))))));refine⟨λn ρ es=>(∃ u v,ρ=[u,v,MA (.dat (tab Mt))])/\∃ N,es=N.map ndD/\TPk Mt wd m (m+n) N,⟨⟨_,_,rfl⟩,[],rfl,by simpa using TPk.nil⟩,?_,?_⟩
 ·rintro D n d ρ' es hd ⟨⟨u,v,rfl⟩,N,rfl,A⟩;unfold jW at hd;rw [Ho] at hd;obtain⟨n',hn,rfl⟩:=Jb.mp hd;obtain⟨hn1,hn2⟩:=Hg.mp hn;rw [Lm] at hn2;subst hn2;rw [HY] at hn1;have hM:m+(n:Int)<=M:=by omega
  refine zg (jf ?_);rw [Mw rfl];refine B4 (yf (PEdO.ped (qZ (Mt,wd,m+(n:Int)) (zq (zi rfl (zq (zi rfl (zL ⟨rfl,⟨rfl,g⟩,?_⟩))))))));rintro es (⟨_,rl,ru,ts,us,ks,NK⟩ | ⟨no,_⟩)
  ·obtain⟨L,rfl,B⟩:=BB NK (oG NK.told g) (oG NK.told2 g);have lN:=A.len;have lL:=B.len;refine⟨_,rfl,λi ρ es=>(∃ v,ρ=[MA (.dat (.int (m+(n:Int)))),v,MA (.dat (tab Mt))])/\es=(N++L.take i).map ndD,⟨⟨_,rfl⟩,by simp⟩,?_,?_⟩
   ·rintro i d ρ2 es2 hd2 ⟨⟨v,rfl⟩,rfl⟩;rw [Ho] at hd2;obtain⟨nn,hnn,rfl⟩:=Jb.mp hd2;have hi:=(Hg.mp hnn).1;refine zg (jf ?_);rw [Mw rfl];refine yn (by rw [Hc,HA,Im];omega) (zi rfl ⟨⟨_,rfl⟩,?_⟩);rw [Iv,hnn,<- Jg,HH (l₁:=N++L.take i)];rfl
   ·rintro ρ2 es2 ⟨⟨v,rfl⟩,rfl⟩;rw [Hc,Ic];refine⟨⟨_,_,rfl⟩,_,rfl,?_⟩;have e:m+((n+1:Nat):Int)=m+(n:Int)+1:=by omega
    rw [e];exact A.app B (by omega) (by omega)
  ·exact (no ⟨⟨m,m1,by dsimp only;omega⟩,M,M1,hM⟩).elim
 ·rintro ρ' es ⟨_,N,rfl,A⟩;have el:(jW m (M+1)).length=(M+1 - m).toNat:=by unfold jW;rw [Hc,HY]
  rw [el] at A;have ee:m+(((M+1 - m).toNat:Nat):Int)=M+1:=by omega
  rw [ee] at A;have lN:=A.len;exact⟨_,rfl,N,m,M+1,rfl,A,λn hn=>⟨m2 n hn,by have:=M2 n hn;omega⟩,by omega⟩
abbrev oH (K:Hj):Sp:=spD K 1 (λ(c:ND) xs=>xs=[.dat (ndD c)]/\c.be.length<=1000/\c.ab.length<=1000) λc r=>r=.str (kg c.be.length c.ab.length)
theorem sD (F:Def K mg "word_of" bL ["node"]) (uab:mg "len"=MF):FnIn P w K mg base (k+1) "word_of" ["node"] (oH K):=by
 refine F.ok jT rfl λfa cdv A outer s H E hr=>⟨_,(zc (z9 (pv 0) (zC (K:=K) (n:=5) rfl rfl (ze (zd (i:=1) jT.nd rfl (MM rfl) (MN rfl)) (ze (zd (i:=2) jT.nd rfl (MM rfl) (MN rfl)) (ze (zd (i:=3) jT.nd rfl (MM rfl) (MN rfl)) (ze (zd (i:=4) jT.nd rfl (MM rfl) (MN rfl)) (ze (zd (i:=5) jT.nd rfl (MM rfl) (MN rfl)) zx))))))) (zc (yF (vH (ya (K:=K) rfl (pv 2) (λ_=>rfl))) (zj (zv (j7 (ya (K:=K) rfl (pv 3) (λ_=>rfl)) yW yW))) zV) (zc (yF (vH (ya (K:=K) rfl (pv 3) (λ_=>rfl))) (zj (zv yW)) zV) (zc (yF (zM (y7 (K:=K) rfl hr.units) (zD (yM (K:=K) rfl) rfl uab Jq (za (pv 3) zb)) zk (zX _)) (zj (zv (j7 (zM (y7 (K:=K) rfl hr.units) (zD (yM (K:=K) rfl) rfl uab Jq (za (pv 2) zb)) zk (zX _)) yW yW))) zV) (zj (zv (j7 (zM (y7 (K:=K) rfl hr.units) (zD (yM (K:=K) rfl) rfl uab Jq (za (pv 2) zb)) zk (zX _)) yW yW))))))),?_⟩;rintro f xs n hl ⟨rfl,l1,l2⟩
 try dsimp only [yd,zm]
 refine yq (yb (zi rfl ?_));refine yg rfl (zo (zg (zo (zg (zo (zg (zo (zg (zo (zg (zP ?_)))))))))));have tr:∀ l:M8,Gf (xg l)=MA (!decide (l.length=0)):=λl=>by cases l <;> rfl
 have ei:∀ a b:Int,HU (.int a) (.int b)=decide (a=b):=λa b=>by rfl
 refine yq (fY (cQ (yY (zi rfl ⟨_,tr _,?_⟩))));rw [LX];unfold kg;by_cases b0:n.be.length=0
 ·rw [Mx b0,Mw rfl];refine yA (o3 (yY (zi rfl ⟨_,tr _,?_⟩)));by_cases a0:n.ab.length=0
  ·rw [Mx a0,II,Mv He];exact aT (by dsimp only;rw [Mw b0,Mw a0])
  ·rw [Mz a0,KZ,Mw rfl];exact aT (by dsimp only;rw [Mw b0,Mv a0])
 rw [Mz b0,Mv He];refine aM (yq (fY (cQ (yY (zi rfl ⟨_,tr _,?_⟩)))));rw [LX];by_cases a0:n.ab.length=0
 ·rw [Mx a0,Mw rfl];exact yA (aT (by dsimp only;rw [Mv b0,Mw a0]))
 rw [Mz a0,Mv He];have one:∀ (l:M8) (D:Prop) [Decidable D] ,(D↔l.length=1)->HU (.int ((l.map λ(i:Nat)=>PyData.int i).length:Nat)) (.int 1)=decide D:=λl D _ h=>by
  rw [ei,Hc];exact decide_eq_decide.mpr (by rw [h];omega)
 refine aM (yq (fY (yi (jH (sR (zq (zi rfl (zL (.inr ⟨_,rfl,yp ⟨rfl,rfl,HM (Jd _ _) (by decide),_,rfl,?_⟩⟩)))))))));rw [Mv He,one n.ab (n.ab.length=1) Iff.rfl];by_cases a1:n.ab.length=1
 ·rw [Mx a1,Mw rfl];refine yA (o3 (yi (jH (sR (zq (zi rfl (zL (.inr ⟨_,rfl,yp ⟨rfl,rfl,HM (Jd _ _) (by decide),_,rfl,?_⟩⟩))))))));rw [Mv He,one n.be (n.be.length=1) Iff.rfl];by_cases b1:n.be.length=1
  ·rw [Mx b1,Mw rfl];exact aT (by dsimp only;rw [Mv b0,Mv a0,Mw a1,Mw b1])
  ·rw [Mz b1,Mv He];exact aT (by dsimp only;rw [Mv b0,Mv a0,Mw a1,Mv b1])
 ·rw [Mz a1,Mv He];refine aM (yA (o3 (yi (jH (sR (zq (zi rfl (zL (.inr ⟨_,rfl,yp ⟨rfl,rfl,HM (Jd _ _) (by decide),_,rfl,?_⟩⟩)))))))));rw [Mv He,one n.be (n.be.length=1) Iff.rfl];by_cases b1:n.be.length=1
  ·rw [Mx b1,Mw rfl];exact aT (by dsimp only;rw [Mv b0,Mv a0,Mv a1,Mw b1])
  ·rw [Mz b1,Mv He];exact aT (by dsimp only;rw [Mv b0,Mv a0,Mv a1,Mv b1])
theorem mj {l:List Pt} (up:(l.map pD).Pairwise λd e=>ltD d e=MC):l.Nodup:=K9 _ (λa b (z:ltD (pD a) (pD b)=MC) e=>by rw [e,qB _ rfl] at z;cases z) up
theorem mq {Mt:Nb} {wd:Nat} (g:Good wd Mt) {h:Int} {l:List Pt} (P:yJ Mt wd h l):h∈Mt.flatten:=by
 obtain⟨p,hp⟩:=Jy _ (qR P);obtain⟨ip,hh,_⟩:=yV P hp;have hm:=Du g (show z7 Mt wd p.1 p.2=MC from ip)
 rwa [show yc Mt p.1 p.2=hgt Mt p from rfl,hh] at hm
noncomputable def opI (o:M3):MB:=o.elim .none .int
def ExH (Mt:Nb) (wd:Nat) (h:Int) (p:Pt) (c:Int):Prop:=∃ q,Reach Mt wd c p q/\h<hgt Mt q
def Pass (Mt:Nb) (wd:Nat) (m h:Int) (p:Pt) (o:M3):Prop:=(∃ c,o=MA c/\(m - 1<=c/\c<h)/\ExH Mt wd h p c/\∀ c',c<c'->c'<h->¬ ExH Mt wd h p c') \/ (o=MF/\∀ c',m - 1<=c'->c'<h->¬ ExH Mt wd h p c')
theorem BD {Mt:Nb} {wd:Nat} {m h:Int} {p:Pt} {o o':M3} (A:Pass Mt wd m h p o) (B:Pass Mt wd m h p o'):o=o':=by
 rcases A with⟨c,rfl,⟨a1,a2⟩,a3,a4⟩ | ⟨rfl,a4⟩ <;> rcases B with⟨d,rfl,⟨b1,b2⟩,b3,b4⟩ | ⟨rfl,b4⟩
 ·rcases Int.lt_trichotomy c d with l | l | l
  ·exact absurd b3 (a4 d l b2)
  ·rw [l]
  ·exact absurd a3 (b4 c l a2)
 ·exact absurd a3 (b4 c a1 a2)
 ·exact absurd b3 (a4 d b1 b2)
 ·rfl
def fE (Mt:Nb) (m:Int):Prop:=m∈Mt.flatten/\∀ n∈Mt.flatten,m<=n
theorem xk {Mt:Nb} {m m':Int} (A:fE Mt m) (B:fE Mt m'):m=m':=by
 have:=A.2 m' B.1;have:=B.2 m A.1;omega
abbrev Pk:=List Pt×Int×M3
noncomputable def pkK (t:Pk):MB:=.tuple (t.1.map pD)
noncomputable def pkD (t:Pk):MB:=.tuple [pkK t,.int t.2.1,opI t.2.2]
noncomputable def hdQ (l:List Pt):Pt:=l.headD (0,0)
structure PkOk (Mt:Nb) (wd:Nat) (t:Pk):Prop where
 pk:yJ Mt wd t.2.1 t.1
 ps:∃ m,fE Mt m/\Pass Mt wd m t.2.1 (hdQ t.1) t.2.2
structure PeakL (Mt:Nb) (wd:Nat) (T:List Pk):Prop where
 ok:∀ t∈T,PkOk Mt wd t
 all:∀ h l,yJ Mt wd h l->∃ t∈T,t.1=l/\t.2.1=h
 up:(T.map pkK).Pairwise λd e=>ltD d e=MC
theorem cK:∀ l:List Pt,zN (l.map pD)=MC
 | []=>rfl
 | p :: l=>by
  rw [HI,zN,cK l];rfl
theorem bz (t:Pk):zA (pkK t)=MC:=by
 unfold pkK;rw [zA];exact cK _
theorem kj {Mt:Nb} {wd:Nat} {T U:List Pk} (A:PeakL Mt wd T) (B:PeakL Mt wd U):T=U:=by
 have sub:∀ {T U:List Pk},PeakL Mt wd T->PeakL Mt wd U->∀ t∈T,t∈U:=λ{T U} A B t ht=>by
  obtain⟨pk,m,lm,ps⟩:=A.ok t ht;obtain⟨u,hu,e1,e2⟩:=B.all _ _ pk;obtain⟨_,m',lm',ps'⟩:=B.ok u hu;rw [xk lm' lm,e1,e2] at ps';have e3:=BD ps ps';have:t=u:=JM e1.symm (JM e2.symm e3);rw [this];exact hu
 have key:∀ {T U:List Pk},(T.map pkK).Pairwise (λd e=>ltD d e=MC)->(U.map pkK).Pairwise (λd e=>ltD d e=MC)->(∀ t,t∈T↔t∈U)->T=U:=λ{T}=>by
  induction T with
  | nil =>
   intro U _ _ h;cases U with
   | nil=>rfl
   | cons u U=>exact nomatch (h u).mpr (Hk ..)
  | cons t T ih =>
   intro U p q h;cases U with
   | nil=>exact nomatch (h t).mp (Hk ..)
   | cons u U =>
    rw [HI] at p q;obtain⟨p1,p2⟩:=Js.mp p;obtain⟨q1,q2⟩:=Js.mp q;have e:t=u:=by
     rcases Hv.mp ((h t).mp (Hk ..)) with e | e
     ·exact e
     ·rcases Hv.mp ((h u).mpr (Hk ..)) with e' | e'
      ·exact e'.symm
      ·have:=gw _ _ _ (bz t) (bz u) (bz t) (p1 _ (Jx e')) (q1 _ (Jx e));rw [qB _ (bz t)] at this;cases this
    subst e;have no:∀ {l:List Pk},(∀ d∈l.map pkK,ltD (pkK t) d=MC)->t∉l:=λhl hm=>by
     have:=hl _ (Jx hm);rw [qB _ (bz t)] at this;cases this
    rw [ih p2 q2 λx=>?_];constructor
    ·intro hx;rcases Hv.mp ((h x).mp (Hl _ hx)) with e | e
     ·exact absurd (e▸hx) (no p1)
     ·exact e
    ·intro hx;rcases Hv.mp ((h x).mpr (Hl _ hx)) with e | e
     ·exact absurd (e▸hx) (no q1)
     ·exact e
 exact key A.up B.up λt=>⟨sub A B t,sub B A t⟩
theorem uz:∀ l m:List Pt,qA (l.map pD) (m.map pD)=MC
 | [],[]=>rfl
 | [],_ :: _=>rfl
 | _ :: _,[]=>rfl
 | (x,y) :: l,(x',y') :: m=>by
  rw [HI,HI,qA];split
  ·exact uz l m
  ·show vK (.tuple [.int x,.int y]) (.tuple [.int x',.int y'])=MC;simp only [vK,qA];split
   ·split <;> rfl
   ·rfl
theorem km:∀ l:List Pt,Hy (l.map pD)<=2
 | []=>HR _
 | p :: l=>by
  have:=km l;rw [HI];show max (pD p).depth (Hy (l.map pD))<=2;exact LV.mpr ⟨HB rfl,this⟩
theorem Dw {L:List (List Pt)} (ne:∀ l∈L,l≠[]) (nd:L.Nodup):SortOk "tuple" (L.map λl=>.tuple (l.map pD)) where
 plain:=λd hd=>by
  obtain⟨l,_,rfl⟩:=Hz.mp hd;rw [zA];exact cK _
 head:=λd hd=>by
  obtain⟨l,hl,rfl⟩:=Hz.mp hd;obtain⟨p,l,rfl⟩:=JN (ne l hl);rfl
 cmp:=λd hd e he=>by
  obtain⟨l,_,rfl⟩:=Hz.mp hd;obtain⟨m,_,rfl⟩:=Hz.mp he;rw [vK];exact uz l m
 depth:=λd hd=>by
  obtain⟨l,_,rfl⟩:=Hz.mp hd;have:=km l;show Hy (l.map pD)+1<=50;omega
 nd:=IF.mpr (nd.imp λ{a b} h e=>h (dC (λa b=>aG) (PyData.tuple.inj e)))
theorem oI {Mt:Nb} {wd:Nat} (g:Good wd Mt):∀ {L:List (List Pt)},(∀ l∈L,l≠[])->(L.flatten).Nodup->(∀ p∈L.flatten,inP Mt wd p=MC)->L.Nodup/\L.length<=49:=λ{L} ne nd inn=>by
 have nodup:∀ {L:List (List Pt)},(∀ l∈L,l≠[])->(L.flatten).Nodup->L.Nodup:=λ{L}=>by
  induction L with
  | nil=>exact λ_ _=>IE
  | cons a L ih =>
   intro ne nd;rw [List.flatten_cons] at nd;obtain⟨n1,n2,n3⟩:=IA.mp nd;refine ID.mpr ⟨λh=>?_,ih (λl hl=>ne l (Hl _ hl)) n2⟩;obtain⟨p,hp⟩:=Jy _ (ne a (Hk ..));exact n3 p hp p (IT.mpr ⟨a,h,hp⟩) rfl
 have many:∀ {L:List (List Pt)},(∀ l∈L,l≠[])->L.length<=L.flatten.length:=λ{L}=>by
  induction L with
  | nil=>exact λ_=>Ht _
  | cons a L ih =>
   intro ne;have:=ih λl hl=>ne l (Hl _ hl);have:=Kz.mpr (ne a (Hk ..));rw [List.flatten_cons,HA,HK];omega
 exact⟨nodup ne nd,HM (many ne) (qQ g nd inn)⟩
theorem oJ (a b:Str):HU (.str a) (.str b)=decide (a=b):=by rfl
abbrev BE (K:Hj):Sp:=spD K 3 (λ(c:Nb×Nat×Int×Pt) xs=>xs=[.dat (tab c.1),.dat (.int c.2.2.1),.dat (pD c.2.2.2)]/\Good c.2.1 c.1/\inP c.1 c.2.1 c.2.2.2=MC/\c.2.2.1∈c.1.flatten) λc r=>∃ m o,r=opI o/\fE c.1 m/\Pass c.1 c.2.1 m c.2.2.1 c.2.2.2 o
theorem Dx (F:Def K mg "pass_of" bM pX) (uaa:mg "range"=MF) (uad:mg "max"=MF) (uaF:FnIn P w K mg base k "span" pf (et K)) (uaO:FnIn P w K mg base k "all_joined" pE (sr K)):FnIn P w K mg base (k+1) "pass_of" pX (BE K):=by
 refine F.ok aA rfl λfa cdv A outer s H E hr=>⟨_,(zc (z9 (zf uaF hr rfl (za (pv 0) zb)) (zC (K:=K) (n:=2) rfl rfl (ze (zd (i:=3) aA.nd rfl (MM rfl) (MN rfl)) (ze (zd (i:=4) aA.nd rfl (MM rfl) (MN rfl)) zx)))) (zc (yL Ie rfl (wG rfl uaa (za (zB yu (pv 1) zk) (za (zB yu (pv 3) zk) (za (F9 Eo zk) zb)))) (zd (i:=5) aA.nd rfl (MM rfl) (MN rfl)) (zj (yF (zM mF (zD (jQ (K:=K) rfl rfl) rfl uad boot_max (za (z6 (N:=pO) (own:=2) (fr:=[0]) (by walk_at "c") rfl (vm (K:=K) rfl (zf uaO hr rfl (za (pv 0) (za (pv 5) (za (pv 2) zb))))) (λ_ _ _ _=>(zC (K:=K) (n:=2) rfl rfl (ze (zd (i:=0) (show (pO:MU).Nodup by decide +kernel) rfl (MM rfl) (MN rfl)) (ze (zd (i:=1) (show (pO:MU).Nodup by decide +kernel) rfl (MM rfl) (MN rfl)) zx)))) (λ_ _ _ _=>z8) (λ_ _ _ _=>(zK (zH (K:=K) rfl) (zK (zH (K:=K) rfl) (pv 2) (pv 1) (λ_ _=>rfl)) (pv 0) (λ_ _=>rfl))) rfl rfl (λ_=>rfl)) zb)) (pv 1) (zX _)) (zj (zv (pv 5))) zV))) (zj (zv fJ)))),?_⟩;rintro f xs ⟨Mt,wd,h,p⟩ hl ⟨rfl,g,ip,hh⟩
 try dsimp only [yd,zm]
 dsimp only at *;refine yq (yb (zt (Mt,wd) (lg rfl ⟨rfl,⟨rfl,g⟩,?_⟩)));rintro _ ⟨m,M,rfl,⟨m1,m2⟩,M1,M2⟩;refine yg rfl (zo (zg (zo (zg (zP ?_)))));dsimp only at m1 m2;have mh:=m2 h hh;obtain⟨r0,h0,z0⟩:=IT.mp m1;have b0:=g.hgt r0 h0 m z0;obtain⟨r1,h1,z1⟩:=IT.mp hh;have b1:=g.hgt r1 h1 h z1;refine yq (sT (AK (zq (j8 (zi rfl ⟨_,rfl,yp ⟨_,rfl,zq (j8 (zi rfl ⟨_,rfl,yp ⟨_,rfl,zq (Gk (yp ⟨_,rfl,zL ⟨h - 1,m - 2,rfl,⟨by omega,by omega,by omega,by omega⟩,?_⟩⟩))⟩⟩))⟩⟩)))));refine⟨λi ρ=>(∃ u,ρ=[MA (.dat (tab Mt)),MA (.dat (.int h)),MA (.dat (pD p)),MA (.dat (.int m)),MA (.dat (.int M)),u])/\∀ c',h - 1 - (i:Int)<c'->c'<h->¬ ExH Mt wd h p c',⟨⟨_,rfl⟩,λc' a b=>by omega⟩,?_,?_⟩
 ·rintro i d _ hd ⟨⟨u,rfl⟩,no⟩;unfold bF at hd;rw [Ho] at hd;obtain⟨i',hi',rfl⟩:=Jb.mp hd;obtain⟨l1,l2⟩:=Hg.mp hi';rw [Lm] at l2;subst l2;rw [HY] at l1;refine zg (fY (yi (iC (cm (zq (PEdO.ped (md pD (λq=>.int (hgt Mt q)) (eE (zt (Mt,wd,h - 1 - (i:Int),p) (zq (zi rfl (zq (zi rfl (zq (zi rfl (zL ⟨rfl,?_,?_⟩))))))))))))))))
  ·exact⟨rfl,g,ip⟩
  rintro _ ⟨l,rfl,up,mem⟩;dsimp only at mem;have few:l.length<=49:=qQ g (mj up) λq hq=>(((mem q).mp hq).ins ip).1;refine⟨_,rfl,l,rfl,by omega,?_,?_⟩
  ·rintro D q ρ' es hq ho hes;obtain⟨u,v,rfl⟩:=ho.two;have iq:=(((mem q).mp hq).ins ip).1;refine yg rfl (zo (zg (zo (zg (zP (jf ?_))))));rw [Mw rfl];exact yn hes (bS g iq rfl rfl rfl ⟨.mk2,rfl⟩)
  ·refine zL ⟨l.map (hgt Mt),by rw [Iw];rfl,?_,λM' M1' M2'=>⟨_,rfl,zi rfl ⟨_,rfl,_,rfl,?_⟩⟩⟩
   ·exact λe=>by
     have:=(mem p).mpr .refl;rw [Mp.mp e] at this;cases this
   refine yr (λc1=>?_) λc1=>?_
   ·have c1:=MO c1;obtain⟨q,hq,eq⟩:=Hz.mp M1';refine yA (zi rfl ⟨m,MA (h - 1 - (i:Int)),rfl,⟨m1,m2⟩,.inl ⟨_,rfl,⟨by omega,by omega⟩,⟨q,(mem q).mp hq,by omega⟩,no⟩⟩)
   ·have c1:=MP c1;refine aM ⟨⟨_,rfl⟩,λc' a b=>?_⟩;by_cases e:h - 1 - (i:Int)<c'
    ·exact no c' e b
    ·obtain rfl:c'=h - 1 - (i:Int):=by omega
     rintro⟨q,rq,hq⟩;have:=M2' _ (Jx (f:=hgt Mt) ((mem q).mpr rq));omega
 ·rintro _ ⟨⟨u,rfl⟩,no⟩;unfold bF at no;rw [Hc,HY] at no;exact yA (xN ⟨m,MF,rfl,⟨m1,m2⟩,.inr ⟨rfl,λc' a b=>no c' (by omega) b⟩⟩)
theorem BF (b a:Nat):([PyData.str "end",PyData.str "all"].any λe=>HU e (.str (kg b a)))=decide (a=0):=by
 simp only [KH,List.any_nil,oJ];unfold kg;by_cases b0:b=0
 ·rw [Mw b0];by_cases a0:a=0
  ·rw [Mw a0,Mx a0];decide +kernel
  ·rw [Mv a0,Mz a0];decide +kernel
 ·rw [Mv b0];by_cases a0:a=0
  ·rw [Mw a0,Mx a0];decide +kernel
  ·rw [Mv a0,Mz a0];by_cases a1:a=1
   ·rw [Mw a1];by_cases b1:b=1
    ·rw [Mw b1];decide +kernel
    ·rw [Mv b1];decide +kernel
   ·rw [Mv a1];by_cases b1:b=1
    ·rw [Mw b1];decide +kernel
    ·rw [Mv b1];decide +kernel
theorem hE {α β:Type} (p:α->Bool) (f:α->List β):∀ l:List α,((l.filter p).flatMap f).Sublist (l.flatMap f)
 | []=>.slnil
 | a :: l=>by
  rw [JW,Ip];split
  ·rw [JW];exact List.Sublist.append (List.Sublist.refl _) (hE p f l)
  ·exact (hE p f l).trans (List.sublist_append_right _ _)
theorem xl (b a:Nat):(PyData.str (kg b a)).canLay0=MC:=by
 unfold kg;split
 ·split <;> decide +kernel
 ·split
  ·decide +kernel
  ·split <;> (split <;> decide +kernel)
theorem dF {K:Hj} {f:Fx} {ρ:zr} {i:Nat} {Mt:Nb} {wd:Nat} {U:List Pk} (hi:ρ[i]?=MA (MA (.dat (.list (U.map pkD))))) (ok:∀ t∈U,PkOk Mt wd t) (nd:(U.map (·.1)).Nodup) (few:U.length<=49) (all:∀ h l,yJ Mt wd h l->∃ t∈U,t.1=l/\t.2.1=h):PEdO K f (lz K (yj (yt i) jK)) ρ λes=>∃ T:List Pk,es=T.map pkD/\PeakL Mt wd T/\T.length<=49:=by
 let G:Pk->MB×M9:=λt=>(pkK t,[.int t.2.1,opI t.2.2])
 have ne:∀ l∈U.map (·.1),l≠[]:=λl hl=>by
  obtain⟨t,ht,rfl⟩:=Hz.mp hl;exact qR (ok t ht).pk
 have eK:(U.map G).map (·.1)=(U.map (·.1)).map λl=>.tuple (l.map pD):=by rw [Iw,Iw];rfl
 refine Cz "tuple" (zq (zi hi (zL ⟨U.map G,?_,?_,by rw [Hc];omega,.inl (by rw [Hc];omega),λes pm ri=>?_⟩)))
 ·rw [Iw];rfl
 ·rw [eK];exact Dw ne nd
 ·obtain⟨V,pV,rfl⟩:=L2.perm_map_inv pm;refine⟨V,by rw [Iw];rfl,⟨λt ht=>ok t (pV.mem_iff.mp ht),λh l P=>?_,by rw [Iw] at ri;exact ri⟩,by rw [pV.length_eq];exact few⟩;obtain⟨t,ht,e⟩:=all h l P;exact⟨t,pV.mem_iff.mpr ht,e⟩
noncomputable abbrev oK (n:ND):Bool:=n.ab.isEmpty
abbrev uA (K:Hj):Sp:=spN K 1 (λ(c:Nb×Nat) xs=>xs=[.dat (tab c.1)]/\Good c.2 c.1/\∀ a∈c.1.flatten,∀ b∈c.1.flatten,a - b<=9) λc es=>∃ T:List Pk,es=T.map pkD/\PeakL c.1 c.2 T/\T.length<=49
theorem BG (F:Def K mg "peaks" fB pf) (kl_peaks:gJ K "peaks"=MC) (uae:mg "sorted"=MF) (uag:FnIn P w K mg base (k+2) "ask_table" pf (eP K)) (ubB:FnIn P w K mg base (k+2) "tree" pf (BC K)) (ubC:FnIn P w K mg base (k+2) "word_of" ["node"] (oH K)) (ubD:FnIn P w K mg base (k+2) "pass_of" pX (BE K)):FnIn P w K mg base (k+3) "peaks" pf (uA K):=by
 refine F.okLN qu rfl kl_peaks λfa cL Pt A outer s H E l1 l2 hr=>⟨_,(zc (yE (zf uag hr rfl (za (pv 0) zb))) (zc (zO (i:=1) qu.nd rfl (MM rfl) (yw zb)) (zc (yL Ie rfl (zF (K:=K) rfl (zf ubB hr rfl (za (pv 0) zb))) (zd (i:=2) qu.nd rfl (MM rfl) (MN rfl)) (zj (yF (zM (nJ (K:=K) rfl hr.units) (zf ubC hr rfl (za (pv 2) zb)) (zE (za yW (za yW zb))) rfl) (zc (z9 (pv 2) (zC (K:=K) (n:=5) rfl rfl (ze (zd (i:=3) qu.nd rfl (MM rfl) (MN rfl)) (ze (zd (i:=4) qu.nd rfl (MM rfl) (MN rfl)) (ze (zd (i:=5) qu.nd rfl (MM rfl) (MN rfl)) (ze (zd (i:=6) qu.nd rfl (MM rfl) (MN rfl)) (ze (zd (i:=7) qu.nd rfl (MM rfl) (MN rfl)) zx))))))) (zj (yE (fT IP Je Jf jM (pv 1) (za (zE (za (pv 6) (za (pv 3) (za (zf ubD hr rfl (za (pv 0) (za (pv 3) (za (zK (yG (K:=K) rfl) (pv 6) zk (λ_ _=>rfl)) zb)))) zb)))) zb))))) zV))) (zj (zv (wB (q:="peaks") (c:=cL) (P:=Pt) (K:=K) rfl hr rfl uae (za (pv 1) zb) (by decide +kernel) rfl l1 l2 rfl (MO (by kernel_rfl)) rfl (λ_ _ _ _ _=>rfl) rfl (MO (by kernel_rfl)) rfl rfl rfl)))))),?_⟩;rintro f xs ⟨Mt,wd⟩ hl ⟨rfl,g,fl⟩
 try dsimp only [yd,zm]
 dsimp only at *;refine qY (aU (zt (Mt,wd) ?_));walk_at "w";rintro _ rfl;refine fj (w:=w) (dU (vp (bY (zL ⟨[],rfl,HR _,show 1<8 by decide,λD1=>?_⟩))));refine kX (vU (yf (zt (Mt,wd) (zq (zi rfl (zL ⟨rfl,⟨rfl,g,fl⟩,?_⟩))))));rintro _ ⟨_,rfl,N,lo,hi,rfl,T,bd,lN⟩;dsimp only at T bd;refine⟨_,rfl,λi ρ cs=>∃ (u2 u3 u4 u5 u6 u7:Option DV) (U:List Pk),ρ=[MA (.dat (tab Mt)),MA (.own (f.M.length+0)),u2,u3,u4,u5,u6,u7]/\cs=[OC.lst (U.map pkD)]/\(U.map λt=>(t.1,t.2.1))=((N.take i).filter oK).map (λn=>(n.ps,n.h))/\∀ t∈U,PkOk Mt wd t,⟨_,_,_,_,_,_,[],rfl,rfl,by rw [J7];rfl,(λ_ z=>nomatch z)⟩,?_,?_⟩
 ·refine step_map λi n hn=>GL λu2 u3 u4 u5 u6 u7 U ⟨eU,okU⟩=>?_;have mn:=Hu hn;obtain⟨f1,f2⟩:=T.few n mn;have tk:N.take (i+1)=N.take i++[n]:=by rw [Iv,hn];rfl
  refine zg (hZ (rf (yi (Ay (zt n (zq (zi rfl (zL ⟨rfl,⟨rfl,by omega,by omega⟩,?_⟩))))))));rintro _ rfl;refine jI (zq (aT (zq (aT (zL ⟨_,rfl,show 2<=1000 by decide,_,rfl,xl _ _,?_,HR _,_,rfl,?_⟩)))))
  ·intro e he;simp only [Hv,IB,or_false] at he;rcases he with rfl | rfl <;> decide +kernel
  have ea:oK n=decide (n.ab.length=0):=by
   unfold oK;cases n.ab <;> rfl
  refine GN (BF _ _) (λc1=>?_) λc1=>?_
  ·have nil:n.ab=[]:=LJ.mp (MO c1);have pk:=T.pk n mn nil;obtain⟨p,ps,ep⟩:=JN (qR pk);obtain⟨ip,hp,_⟩:=yV pk (q:=p) (by rw [ep];exact Hk);refine jg (aY (yb (zi rfl (yg rfl (zo (zg (zo (zg (zo (zg (zo (zg (zo (zg (zP ?_)))))))))))))));have fewU:U.length<=620:=by
    have:=congrArg L9 eU;rw [Hc,Hc] at this;have:=Ij oK (N.take i);rw [Im] at this;omega
   refine gE (i:=1) (j:=0) rfl rfl (by rw [Hc];omega) (aZ (jI (zq (zi rfl (zq (zi rfl (zq (zt (Mt,wd,n.h,p) (zq (zi rfl (zq (zi rfl (zq (vQ (zi rfl ⟨_,rfl,yp ⟨_,rfl,pD p,?_,zL ⟨rfl,⟨rfl,g,ip,mq g pk⟩,?_⟩⟩⟩)))))))))))))))
   ·rw [ep];exact vk (j:=0) rfl
   rintro _ ⟨m,o,rfl,lm,ps'⟩;refine zL ⟨_,rfl,show 3<=1000 by decide,_,_,_,_,_,_,U++[(n.ps,n.h,o)],rfl,?_,?_,?_⟩
   ·rw [HH];rfl
   ·rw [tk,IM,HH,HH,eU,Ip,ea,c1];rfl
   ·intro t ht;rcases HC.mp ht with h | h
    ·exact okU t h
    ·rw [Hw.mp h];refine⟨pk,m,lm,?_⟩;have:hdQ n.ps=p:=by unfold hdQ;rw [ep];rfl
     show Pass Mt wd m n.h (hdQ n.ps) o;rw [this];exact ps'
  ·refine va ⟨_,_,_,_,_,_,U,rfl,rfl,?_,okU⟩;rw [tk,IM,HH,eU,Ip,ea,c1];simp
 ·rintro _ _ ⟨u2,u3,u4,u5,u6,u7,U,rfl,rfl,eU,okU⟩;rw [Hc,Ic] at eU;have e1:U.map (·.1)=(N.filter oK).map (·.ps):=by
   have:=congrArg (KY LD) eU;rw [Iw,Iw] at this;exact this
  have ne:∀ l∈U.map (·.1),l≠[]:=λl hl=>by
   obtain⟨t,ht,rfl⟩:=Hz.mp hl;exact qR (okU t ht).pk
  have fe:(U.map (·.1)).flatten=(N.filter oK).flatMap (·.ps):=by rw [e1,List.flatMap_def]
  have sub:=hE oK (λn:ND=>n.ps) N;obtain⟨nd,few⟩:=oI g ne (by rw [fe];exact T.pnd.sublist sub) λp hp=>by
   rw [fe] at hp;obtain⟨n,hn,h1⟩:=Ig.mp hp;exact (T.pt n (HV.mp hn).1 p h1).1
  rw [Hc] at few;refine fk (eF (dF (i:=1) ?_ okU nd few λh l P=>?_))
  ·show MA (freed _ _ _)=_;simp [freed]
  ·obtain⟨b1,b2⟩:=bd h (mq g P);obtain⟨n,hn,e2,e3,e4⟩:=T.all h l P b1 b2;have:(n.ps,n.h)∈U.map λt=>(t.1,t.2.1):=by
    rw [eU];exact Hz.mpr ⟨n,HV.mpr ⟨hn,by unfold oK;rw [e4];rfl⟩,rfl⟩
   obtain⟨t,ht,e5⟩:=Hz.mp this;exact⟨t,ht,(congrArg LD e5).trans e3,(congrArg Prod.snd e5).trans e2⟩
section
variable {K:Hj} {f:Fx} {ρ:zr} {wi:TI} {g:TG} {tt:TT} {own:Nat} {fr:M8} {tb:Hm->TB} {P:M9->Prop}
theorem uB {α:Type} (A B:α->MB) (p:α->Bool) (h:PId K f wi ρ λds=>∃ xs:List α,ds=xs.map A/\xs.length<=1000 /\
   (∀ D x ρ' es,x∈xs->OwnE own (frD fr ρ) ρ'->es.length<1000->PGd K (f.with D) g (A x) ρ' λρ2=>PTd K (f.with D) tt ρ2 λb=>b=p x/\if b=MC then PBd K f D (tb D) ρ2 es λρ3 es3=>OwnE own (frD fr ρ) ρ3/\es3=es++[B x] else OwnE own (frD fr ρ) ρ2)/\P ((xs.filter p).map B)) :
  PEdO K f (qE wi own fr g tt tb) ρ P :=
 qX (h.imp λds ⟨xs,ed,hl,hs,hp⟩=>by
  subst ed;refine⟨λi ρ' es=>OwnE own (frD fr ρ) ρ'/\es=((xs.take i).filter p).map B,⟨⟨JB own MF,by simp,rfl⟩,by simp⟩,λD i d ρ' es hd ⟨ho,he⟩=>?_,λρ' es ⟨_,he⟩=>?_⟩
  ·rw [Ho] at hd;cases eq:xs[i]? with
   | none=>rw [eq] at hd;cases hd
   | some x =>
    rw [eq] at hd;cases hd;have hi:i<xs.length:=(Hg.mp eq).1;have tk:xs.take (i+1)=xs.take i++[x]:=by rw [Iv,eq];rfl
    have hb:es.length<1000:=by
     have:=Ij p (xs.take i);rw [Im] at this;rw [he,Hc];omega
    intro σ H v Q e r q;refine hs D x ρ' es (Hu eq) ho hb σ H v Q e r λρ2 σ2 H2 g2 e2 p2=>q ρ2 σ2 H2 g2 e2 (p2.imp λb hb2=>?_);obtain⟨eb,hb2⟩:=hb2;cases b with
    | false =>
     rw [Mv He] at hb2 ⊢;refine⟨hb2,?_⟩;rw [tk,IM,HH,Ip,<- eb,Mv He,he];simp
    | true =>
     rw [Mw rfl] at hb2 ⊢;intro h1 h2 σ3 H3 H4 W c k;exact hb2 h1 h2 σ3 H3 H4 W c λρ5 es5 σ5 H5 c5 ⟨o5,p5⟩=>k ρ5 es5 σ5 H5 c5 ⟨o5,by rw [p5,he,tk,IM,HH,Ip,<- eb,Mw rfl];rfl⟩
  ·rw [he,Hc,Ic];exact hp)
end
theorem Dy (a b:Pt):HU (pD a) (pD b)=decide (a=b):=by
 show (decide (a.1=b.1) && (decide (a.2=b.2) && MC))=_;rw [KJ,<- Bool.decide_and];exact decide_eq_decide.mpr ⟨λ⟨x,y⟩=>JM x y,λz=>by rw [z];exact⟨rfl,rfl⟩⟩
theorem uC (p:Pt):∀ l:List Pt,((l.map pD).any λe=>HU e (pD p))=decide (p∈l)
 | []=>by simp
 | q :: l=>by
  rw [HI,KH,uC p l,Dy,<- Bool.decide_or];exact decide_eq_decide.mpr (by rw [Hv,eq_comm])
theorem BH {α:Type} (F:α->MB) (l:List α):HU (.list (l.map F)) (.list [])=l.isEmpty:=by cases l <;> rfl
theorem oM {α:Type}:∀ l:List α,(PyData.list (l.map λ_=>.int 1)).canLay0=MC
 | []=>rfl
 | _ :: l=>oM l
theorem fF {α:Type} (n m:Int) (v:α):∀ l:List (Int×α),lkI n (l++[(m,v)])=(lkI n l).or (if m=n then MA v else MF)
 | []=>by
  unfold lkI;by_cases e:m=n
  ·rw [L1,Ih,Mx e,Mw e];rfl
  ·rw [L1,Ih,Mz e,Mv e];rfl
 | x :: l=>by
  have ih:=fF n m v l;unfold lkI at ih ⊢;rw [List.cons_append,Ih,Ih];by_cases e:x.1=n
  ·rw [Mx e];rfl
  ·rw [Mz e];exact ih
theorem eA {Mt:Nb} {wd:Nat} {MK:Int} {r:Bool×List Pt} {h0:Pt} (X:Reg Mt wd MK r h0) {p:Pt} (hp:p∈r.2) (q:Pt):q∈r.2↔Reach Mt wd MK p q :=
 ⟨λhq=>(((X.mem p).mp hp).symm X.inn).trans ((X.mem q).mp hq),λr=>(X.mem q).mpr (((X.mem p).mp hp).trans r)⟩
theorem BI (F:Def K mg "_law_span" aD pF) (uaf:mg "min"=MF) (uad:mg "max"=MF):FnIn P w K mg base (k+1) "_law_span" pF (et K):=by
 refine F.ok n9 rfl λfa cdv A outer s H E hr=>⟨_,(zj (zv (zE (za (zD (vR (K:=K) rfl rfl) rfl uaf boot_min (za (z6 (N:=["_law_row"]) (own:=1) (fr:=[]) (by walk_at "c") rfl (zF (K:=K) rfl (pv 0)) (λ_ _ _ _=>(zd (i:=0) (show (["_law_row"]:MU).Nodup by decide +kernel) rfl (MM rfl) (MN rfl))) (λ_ _ _ _=>z8) (λ_ _ _ _=>(zD (vR (K:=K) rfl rfl) rfl uaf boot_min (za (pv 0) zb))) rfl rfl (λ_=>rfl)) zb)) (za (zD (jQ (K:=K) rfl rfl) rfl uad boot_max (za (z6 (N:=["_law_row"]) (own:=1) (fr:=[]) (by walk_at "c") rfl (zF (K:=K) rfl (pv 0)) (λ_ _ _ _=>(zd (i:=0) (show (["_law_row"]:MU).Nodup by decide +kernel) rfl (MM rfl) (MN rfl))) (λ_ _ _ _=>z8) (λ_ _ _ _=>(zD (jQ (K:=K) rfl rfl) rfl uad boot_max (za (pv 0) zb))) rfl rfl (λ_=>rfl)) zb)) zb))))),?_⟩;rintro f xs ⟨Mt,wd⟩ hl ⟨rfl,g⟩
 try dsimp only [yd,zm]
 dsimp only at *;have g1:=g.h1;have g2:=g.h2;have ml:(Mt.map λr=>PyData.list (r.map .int)).length=Mt.length:=Hc _;refine yA (jI (zq (fX (zq (fb (zi rfl ⟨_,rfl,by rw [ml];omega,λi e=>∃ n:Int,e=.int n/\∃ r,Mt[i]?=MA r/\n∈r/\∀ z∈r,n<=z,λD i d hd=>?_,λes hes hR=>?_⟩))))))
 ·obtain⟨r,er,rfl,ne⟩:=l8 g hd;exact fX (zq (zi rfl (zL ⟨r,rfl,ne,λM hM hM'=>⟨M,rfl,r,er,hM,hM'⟩⟩)))
 obtain⟨ns,rfl,hn⟩:=bw hR;rw [Hc,ml] at hes;refine zL ⟨ns,rfl,by rintro rfl;simp at hes;omega,λm hm hm'=>?_⟩;refine zq (cm (zq (fb (zi rfl ⟨_,rfl,by rw [ml];omega,λi e=>∃ n:Int,e=.int n/\∃ r,Mt[i]?=MA r/\n∈r/\∀ z∈r,z<=n,λD i d hd=>?_,λes2 hes2 hR2=>?_⟩))))
 ·obtain⟨r,er,rfl,ne⟩:=l8 g hd;exact cm (zq (zi rfl (zL ⟨r,rfl,ne,λM hM hM'=>⟨M,rfl,r,er,hM,hM'⟩⟩)))
 obtain⟨ns2,rfl,hn2⟩:=bw hR2;rw [Hc,ml] at hes2;refine zL ⟨ns2,rfl,by rintro rfl;simp at hes2;omega,λM hM hM'=>?_⟩;exact zL ⟨_,rfl,HB rfl,m,M,rfl,dD (R:=λa b=>a<=b) (λ_ _ _=>Ke) hes hn hm hm',dD (R:=λa b=>b<=a) (λ_ _ _ x y=>Ke y x) hes2 hn2 hM hM'⟩
def sE (Mt:Nb) (wd:Nat) (kvs:Nk) (c:Int):Prop:=∃ rs,lkI c kvs=MA (.list (rs.map eg))/\Regs Mt wd c rs/\rs.length<=49
abbrev uD (K:Hj):Sp:=spD K 5 (λ(c:(Nb×Nat×Int×Pt)×Int×Nk) xs=>xs=[.dat (tab c.1.1),.mon (nK (cE K c.2.2)),.dat (.int c.2.1),.dat (pD c.1.2.2.2),.dat (.int c.1.2.2.1)]/\Good c.1.2.1 c.1.1/\inP c.1.1 c.1.2.1 c.1.2.2.2=MC/\(c.2.1<=c.1.2.2.1/\-(2 ^ 60)<=c.2.1/\c.1.2.2.1<2 ^ 60)/\∀ n,c.2.1 - 1<=n->n<c.1.2.2.1->sE c.1.1 c.1.2.1 c.2.2 n) λc r=>∃ o,r=opI o/\Pass c.1.1 c.1.2.1 c.2.1 c.1.2.2.1 c.1.2.2.2 o
theorem BJ (F:Def K mg "_law_pass" aE qb) (uaa:mg "range"=MF):FnIn P w K mg base (k+1) "_law_pass" qb (uD K):=by
 refine F.ok qv rfl λfa cdv A outer s H E hr=>⟨_,(zc (yL Ie rfl (jq rfl uaa (za (zB yh (zB yu (pv 4) (pv 2)) zk) zb)) (zd (i:=5) qv.nd rfl (MM rfl) (MN rfl)) (zc (zO (i:=6) qv.nd rfl (MM rfl) (zB yu (zB yu (pv 4) zk) (pv 5))) (zj (yL Ie rfl (zF (K:=K) rfl (zK AI (pv 1) (pv 6) (λ_ _=>rfl))) (zC (K:=K) (n:=2) rfl rfl (ze (zd (i:=7) qv.nd rfl (MM rfl) (MN rfl)) (ze (zd (i:=8) qv.nd rfl (MM rfl) (MN rfl)) zx))) (zj (yF (PW.pt (cf (zM (nJ (K:=K) rfl hr.units) (pv 3) (pv 8) rfl) (af (zM (dI (K:=K) rfl hr.units) (z6 (N:=qi) (own:=2) (fr:=[0,4]) (by walk_at "c") rfl (vm (K:=K) rfl (pv 8)) (λ_ _ _ _=>(zC (K:=K) (n:=2) rfl rfl (ze (zd (i:=0) (show (qi:MU).Nodup by decide +kernel) rfl (MM rfl) (MN rfl)) (ze (zd (i:=1) (show (qi:MU).Nodup by decide +kernel) rfl (MM rfl) (MN rfl)) zx)))) (λ_ _ _ _=>(jj (zM mF (zK (zH (K:=K) rfl) (zK (zH (K:=K) rfl) (pv 2) (pv 1) (λ_ _=>rfl)) (pv 0) (λ_ _=>rfl)) (pv 3) (zX _)))) (λ_ _ _ _=>zk) rfl rfl (λ_=>rfl)) (yw zb) (zX _))))) (zj (zv (pv 6))) zV)))))) (zj (zv fJ))),?_⟩;rintro f xs ⟨⟨Mt,wd,h,p⟩,m,kvs⟩ hl ⟨rfl,g,ip,⟨mh,b1,b2⟩,lots⟩
 try dsimp only [yd,zm]
 dsimp only at *;refine yq (sT (bC (zq (j8 (j8 (zi rfl ⟨_,rfl,zi rfl ⟨_,rfl,_,rfl,yp ⟨_,rfl,zL ⟨h - m+1,rfl,by omega,by omega,?_⟩⟩⟩⟩))))));refine⟨λi ρ=>(∃ u5 u6 u7 u8,ρ=[MA (.dat (tab Mt)),MA (.mon (nK (cE K kvs))),MA (.dat (.int m)),MA (.dat (pD p)),MA (.dat (.int h)),u5,u6,u7,u8])/\∀ c',h - 1 - (i:Int)<c'->c'<h->¬ ExH Mt wd h p c',⟨⟨_,_,_,_,rfl⟩,λc' a b=>by omega⟩,?_,?_⟩
 ·rintro i d _ hd ⟨⟨u5,u6,u7,u8,rfl⟩,no⟩;obtain⟨hi,rfl⟩:=vY hd;obtain⟨rs,hrs,R,few⟩:=lots (h - 1 - (i:Int)) (by omega) (by omega);refine zg (yq (yb (j8 (j8 (zi rfl ⟨_,rfl,yp ⟨_,rfl,_,rfl,zi rfl ⟨_,rfl,zg ?_⟩⟩⟩)))));refine sT (yf (Gw (v_var rfl ⟨kvs,rfl,zi rfl ⟨_,rfl,_,hrs,_,rfl,?_⟩⟩)));refine⟨λj ρ=>(∃ u7 u8,ρ=[MA (.dat (tab Mt)),MA (.mon (nK (cE K kvs))),MA (.dat (.int m)),MA (.dat (pD p)),MA (.dat (.int h)),MA (.dat (.int (i:Int))),MA (.dat (.int (h - 1 - (i:Int)))),u7,u8])/\∀ r∈rs.take j,p∈r.2->∀ q∈r.2,hgt Mt q<=h,⟨⟨_,_,rfl⟩,by rw [J7];exact λr hr=>nomatch hr⟩,?_,?_⟩
  ·rintro j d _ hd2 ⟨⟨u7,u8,rfl⟩,nj⟩;rw [Ho] at hd2;obtain⟨r,hr,rfl⟩:=Jb.mp hd2;have mr:=Hu hr;obtain⟨h0,X⟩:=R.reg r mr;have tk:rs.take (j+1)=rs.take j++[r]:=by rw [Iv,hr];rfl
   have inn:∀ q∈r.2,inP Mt wd q=MC:=λq hq=>(((X.mem q).mp hq).ins X.inn).1;have nd:=mj X.up;have fewR:r.2.length<=49:=qQ g nd inn;unfold eg;refine yg rfl (zo (zg (zo (zg (zP ?_)))));have next:(p∈r.2->∀ q∈r.2,hgt Mt q<=h)->∀ r'∈rs.take (j+1),p∈r'.2->∀ q∈r'.2,hgt Mt q<=h:=λh1 r' hr'=>by
    rw [tk] at hr';rcases HC.mp hr' with z | z
    ·exact nj r' z
    ·rw [Hw.mp z];exact h1
   refine fY (iD (yi (Ay (zi rfl (zi rfl ⟨_,rfl,rfl,?_,HB rfl,_,rfl,?_⟩)))))
   ·intro e he;obtain⟨q,_,rfl⟩:=Hz.mp he;rfl
   rw [uC];refine yr (λc1=>?_) λc1=>?_
   ·have hp:=MO c1;refine yi (jH (PEdO.ped (uB pD (λ_=>.int 1) (λq=>decide (h<hgt Mt q)) (eE (zi rfl ⟨_,rfl,r.2,rfl,by omega,?_,?_⟩)))))
    ·rintro D q ρ' es hq ho hes;obtain⟨u,v,rfl⟩:=ho.two;refine yg rfl (zo (zg (zo (zg (zP (yi (iC (bS g (show z7 Mt wd q.1 q.2=MC from inn q hq) rfl rfl rfl ⟨_,rfl,zi rfl ⟨_,rfl,_,rfl,rfl,?_⟩⟩)))))))) ;refine yr (λc2=>?_) λc2=>?_
     ·exact yn hes (yp ⟨.mk2,rfl⟩)
     ·exact .mk2
    ·refine xO (zL ⟨[],rfl,HR _,oM _,rfl,HM (Jd _ _) (HB rfl),_,rfl,?_⟩);rw [Mw rfl,BH];cases ec:(r.2.filter λq=>decide (h<hgt Mt q)) with
     | nil =>
      rw [show (!([]:List Pt).isEmpty)=MG from rfl,Mv He];refine aM ⟨⟨_,_,rfl⟩,next λ_ q hq=>?_⟩;refine Lr λz=>?_;have:q∈r.2.filter λq=>decide (h<hgt Mt q):=HV.mpr ⟨hq,Mx (by omega)⟩;rw [ec] at this;cases this
     | cons q qs =>
      rw [show (!(q :: qs).isEmpty)=MC from rfl,Mw rfl];have:q∈r.2.filter λq=>decide (h<hgt Mt q):=by rw [ec];exact Hk
      obtain⟨hq,lq⟩:=HV.mp this;have lq:=MO lq;exact yA (zi rfl ⟨MA (h - 1 - (i:Int)),rfl,.inl ⟨_,rfl,⟨by omega,by omega⟩,⟨q,(eA X hp q).mp hq,lq⟩,no⟩⟩)
   ·rw [Mv He];exact aM ⟨⟨_,_,rfl⟩,next λhp=>absurd hp (MP c1)⟩
  ·rintro _ ⟨⟨u7,u8,rfl⟩,nj⟩;rw [Hc,Ic] at nj;refine⟨⟨_,_,_,_,rfl⟩,λc' a b=>?_⟩;by_cases e:h - 1 - (i:Int)<c'
   ·exact no c' e b
   ·obtain rfl:c'=h - 1 - (i:Int):=by omega
    rintro⟨q,rq,hq⟩;obtain⟨r,hr,hp⟩:=R.all p ip;obtain⟨h0,X⟩:=R.reg r hr;have:=nj r hr hp q ((eA X hp q).mpr rq);omega
 ·rintro _ ⟨⟨u5,u6,u7,u8,rfl⟩,no⟩;rw [vZ] at no;exact yA (xN ⟨MF,rfl,.inr ⟨rfl,λc' a b=>no c' (by omega) b⟩⟩)
theorem xm (F:Def K mg "_law_first" vC pN):FnInH P w K mg base (k+1) "_law_first" pN Gx:=by
 obtain⟨f,fd,F1,F2,F3⟩:=F.ex;exact⟨f,_,fd,_, "_law_peak",_,_,_,_,_,F3,F1,F2,lP,rfl,rfl,MO (by kernel_rfl),by decide⟩
theorem F5 {Mt:Nb} {wd:Nat} (g:Good wd Mt) {L:List (List Pt)} (pk:∀ l∈L,∃ h,yJ Mt wd h l) (nd:L.Nodup):L.length<=49:=by
 have fl:L.flatten.Nodup:=by
  have:=mf (λl:List Pt=>l) L nd (λl hl=>mj (pk l hl).choose_spec.1) λa b ha hb x hx hy=>(hC (pk a ha).choose_spec (pk b hb).choose_spec hx hy).2;rw [List.flatMap_def,List.map_id'] at this;exact this
 exact (oI g (λl hl=>qR (pk l hl).choose_spec) fl λp hp=>by
  obtain⟨l,hl,h1⟩:=IT.mp hp;exact (yV (pk l hl).choose_spec h1).1).2
theorem uE {Mt:Nb} {wd:Nat} (g:Good wd Mt) {U:List Pk} (ok:∀ t∈U,PkOk Mt wd t) (nd:(U.map (·.1)).Nodup):U.length<=49:=by
 have:=F5 g (L:=U.map (·.1)) (λl hl=>by
  obtain⟨t,ht,rfl⟩:=Hz.mp hl;exact⟨_,(ok t ht).pk⟩) nd
 rwa [Hc] at this
structure DueAt (Mt:Nb) (wd:Nat) (m hi:Int) (U:List Pk) (kvs:Nk):Prop where
 ok:∀ t∈U,PkOk Mt wd t/\t.2.1<hi
 all:∀ h l,yJ Mt wd h l->h<hi->∃ t∈U,t.1=l/\t.2.1=h
 nd:(U.map (·.1)).Nodup
 lots:∀ c,m - 1<=c->c<hi - 1->sE Mt wd kvs c
 new:∀ c,hi - 1<=c->lkI c kvs=MF
 len:(kvs.length:Int)=hi - m
structure InAt (Mt:Nb) (wd:Nat) (h:Int) (rs:List (Bool×List Pt)) (j:Nat) (U:List Pk):Prop where
 ok:∀ t∈U,PkOk Mt wd t/\(t.2.1<h \/ (t.2.1=h/\∃ j':Nat,j'<j/\∃ r',rs[j']?=MA r'/\r'.2=t.1))
 old:∀ h' l,yJ Mt wd h' l->h'<h->∃ t∈U,t.1=l/\t.2.1=h'
 now:∀ j':Nat,j'<j->∀ r',rs[j']?=MA r'->yJ Mt wd h r'.2->∃ t∈U,t.1=r'.2/\t.2.1=h
 nd:(U.map (·.1)).Nodup
theorem Dz {Mt:Nb} {wd:Nat} {h:Int} {r:Bool×List Pt} {h0:Pt} (X:Reg Mt wd (h - 1) r h0) (e1:r.1=MC) (le:∀ q∈r.2,hgt Mt q<=h):yJ Mt wd h r.2 :=
 ⟨X.up,h0,X.inn,X.mem,λq hq=>by
  have a:=le q hq;have c:=(((X.mem q).mp hq).ins X.inn).2;rw [<-X.hi,e1] at c;have:=br.mp c
  omega⟩
theorem mv {Mt:Nb} {wd:Nat} {h:Int} {r:Bool×List Pt} {h0:Pt} (X:Reg Mt wd (h - 1) r h0) (P:yJ Mt wd h r.2):r.1=MC/\∀ q∈r.2,hgt Mt q=h:=by
 have m0:h0∈r.2:=JX X.hd;refine⟨?_,λq hq=>(yV P hq).2.1⟩;rw [X.hi];exact br.mpr (by have:=(yV P m0).2.1;omega)
theorem InAt.skip {Mt:Nb} {wd:Nat} {h:Int} {rs:List (Bool×List Pt)} {j:Nat} {U:List Pk} (A:InAt Mt wd h rs j U) {r:Bool×List Pt} (hr:rs[j]?=MA r) (no:¬ yJ Mt wd h r.2):InAt Mt wd h rs (j+1) U where
 ok:=λt ht=>⟨(A.ok t ht).1,(A.ok t ht).2.imp id λ⟨e,j',l,z⟩=>⟨e,j',by omega,z⟩⟩
 old:=A.old
 now:=λj' hj r' hr' P=>by
  by_cases e:j'=j
  ·subst e;rw [hr] at hr';cases hr';exact absurd P no
  ·exact A.now j' (by omega) r' hr' P
 nd:=A.nd
theorem InAt.more {Mt:Nb} {wd:Nat} {h:Int} {rs:List (Bool×List Pt)} {j:Nat} {U:List Pk} (R:Regs Mt wd (h - 1) rs) (A:InAt Mt wd h rs j U) {r:Bool×List Pt} (hr:rs[j]?=MA r) (P:yJ Mt wd h r.2) {o:M3} (ok:PkOk Mt wd (r.2,h,o)):InAt Mt wd h rs (j+1) (U++[(r.2,h,o)]) where
 ok:=λt ht=>by
  rcases HC.mp ht with z | z
  ·exact⟨(A.ok t z).1,(A.ok t z).2.imp id λ⟨e,j',l,z⟩=>⟨e,j',by omega,z⟩⟩
  ·rw [Hw.mp z];exact⟨ok,.inr ⟨rfl,j,by omega,r,hr,rfl⟩⟩
 old:=λh' l P' lt=>by
  obtain⟨t,ht,e⟩:=A.old h' l P' lt;exact⟨t,HQ _ ht,e⟩
 now:=λj' hj r' hr' P'=>by
  by_cases e:j'=j
  ·subst e;rw [hr] at hr';cases hr';exact⟨_,HJ _ (Hw.mpr rfl),rfl,rfl⟩
  ·obtain⟨t,ht,e⟩:=A.now j' (by omega) r' hr' P';exact⟨t,HQ _ ht,e⟩
 nd:=by
  rw [HH];refine IA.mpr ⟨A.nd,by simp,λa ha b hb e=>?_⟩;rw [HI,Kt,Hw] at hb;subst hb;obtain⟨t,ht,e1⟩:=Hz.mp ha;obtain⟨⟨pk,_⟩,c⟩:=A.ok t ht;obtain⟨p,hp⟩:=Jy _ (qR P);have eh:=(hC pk P (q:=p) (by rw [e1,e];exact hp) hp).1;rcases c with c | ⟨_,j',lj,r',hr',er⟩
  ·omega
  ·have:=Be R hr' hr (p:=p) (by rw [er,e1,e];exact hp) hp;omega
abbrev BK (K:Hj):Sp:=spN K 1 (λ(c:Nb×Nat) xs=>xs=[.dat (tab c.1)]/\Good c.2 c.1/\∀ a∈c.1.flatten,∀ b∈c.1.flatten,a - b<=9) λc es=>∃ T:List Pk,es=T.map pkD/\PeakL c.1 c.2 T/\T.length<=49
theorem DA (F:Def K mg "_law_due" bN pF) (uaa:mg "range"=MF) (uad:mg "max"=MF) (uac:mg "tuple"=MF) (uae:mg "sorted"=MF) (ubE:FnIn P w K mg base (k+2) "_law_span" pF (et K)) (uaP:FnIn P w K mg base (k+2) "regions" pz (su K)) (ubF:FnIn P w K mg base (k+2) "_law_pass" qb (uD K)) (ubG:FnInH P w K mg base (k+2) "_law_first" pN Gx):FnIn P w K mg base (k+3) "_law_due" pF (BK K):=by
 refine F.okN yI rfl λfa cdv A outer s H E hr=>⟨_,(zc (z9 (zf ubE hr rfl (za (pv 0) zb)) (zC (K:=K) (n:=2) rfl rfl (ze (zd (i:=1) yI.nd rfl (MM rfl) (MN rfl)) (ze (zd (i:=2) yI.nd rfl (MM rfl) (MN rfl)) zx)))) (zc (zO (i:=3) yI.nd rfl (MM rfl) (yw zb)) (zc (zO (i:=4) yI.nd rfl (MM rfl) rK) (zc (yL Ie rfl (ik rfl uaa (za (pv 1) (za (zB yh (pv 2) zk) zb))) (zd (i:=5) yI.nd rfl (MN rfl) (MM rfl)) (zc (z9 (zf uaP hr rfl (za (pv 0) (za (zB yu (pv 5) zk) zb))) (aQ (pv 4) (zB yu (pv 5) zk) set_int)) (zj (yL Ie rfl (zF (K:=K) rfl (zK AI (pv 4) (zB yu (pv 5) zk) (λ_ _=>rfl))) (zC (K:=K) (n:=2) rfl rfl (ze (zd (i:=6) yI.nd rfl (MM rfl) (MN rfl)) (ze (zd (i:=7) yI.nd rfl (MM rfl) (MN rfl)) zx))) (zc (y3 (i:=8) (N:=qj) (own:=2) (fr:=[0]) (by walk_at "c") rfl yI.nd rfl (MM rfl) (vm (K:=K) rfl (pv 7)) (λ_ _ _ _=>(zC (K:=K) (n:=2) rfl rfl (ze (zd (i:=0) (show (qj:MU).Nodup by decide +kernel) rfl (MM rfl) (MN rfl)) (ze (zd (i:=1) (show (qj:MU).Nodup by decide +kernel) rfl (MM rfl) (MN rfl)) zx)))) (λ_ _ _ _=>z8) (λ_ _ _ _=>(zK (zH (K:=K) rfl) (zK (zH (K:=K) rfl) (pv 2) (pv 1) (λ_ _=>rfl)) (pv 0) (λ_ _=>rfl))) rfl rfl (λ_=>rfl) (MM rfl) rfl) (zj (yF (PW.pt (cf (zM (y7 (K:=K) rfl hr.units) (pv 6) yW (zX _)) (af (zM (y7 (K:=K) rfl hr.units) (zD (jQ (K:=K) rfl rfl) rfl uad boot_max (za (pv 8) zb)) (pv 5) (zX _))))) (zc (zO (i:=9) yI.nd rfl (MM rfl) (jL (ju (K:=K) rfl) rfl uac IY (za (z6 (N:=qm) (own:=1) (fr:=[0,5]) (by walk_at "c") rfl (vm (K:=K) rfl (pv 7)) (λ_ _ _ _=>(zd (i:=0) (show (qm:MU).Nodup by decide +kernel) rfl (MM rfl) (MN rfl))) (λ_ _ _ _=>(jj (zM (y7 (K:=K) rfl hr.units) (zK (zH (K:=K) rfl) (zK (zH (K:=K) rfl) (pv 1) (zK (yG (K:=K) rfl) (pv 0) zk (λ_ _=>rfl)) (λ_ _=>rfl)) (zK (yG (K:=K) rfl) (pv 0) zk (λ_ _=>rfl)) (λ_ _=>rfl)) (pv 2) (zX _)))) (λ_ _ _ _=>(pv 0)) rfl rfl (λ_=>rfl)) zb))) (zj (yE (fT IP Je Jf jM (pv 3) (za (zE (za (pv 9) (za (pv 5) (za (zf ubF hr rfl (za (pv 0) (za (pv 4) (za (pv 1) (za (zK (yG (K:=K) rfl) (pv 9) zk (λ_ _=>rfl)) (za (pv 5) zb)))))) zb)))) zb))))) zV))))))) (zj (zv (wC (K:=K) ubG rfl hr rfl uae rfl (za (pv 3) zb)))))))),?_⟩;rintro f xs ⟨Mt,wd⟩ hl ⟨rfl,g,fl⟩
 try dsimp only [yd,zm]
 dsimp only at *;refine qY (yb (zt (Mt,wd) (lg rfl ⟨rfl,⟨rfl,g⟩,?_⟩)));rintro _ ⟨m,M,rfl,⟨m1,m2⟩,M1,M2⟩;refine yg rfl (zo (zg (zo (zg (zP ?_)))));dsimp only at m1 m2 M1 M2;obtain⟨r0,h0,z0⟩:=IT.mp m1;have b0:=g.hgt r0 h0 m z0;obtain⟨r1,h1,z1⟩:=IT.mp M1;have b1:=g.hgt r1 h1 M z1;have st:=fl M M1 m m1;have mM:=m2 M M1;refine fj (w:=w) (dU (vp (bY (zL ⟨[],rfl,HR _,show 3<10 by decide,λD1=>?_⟩))));refine dU (Cv ⟨show 4<10 by decide,λD2=>?_⟩);show nA w K f [D1,D2] _ [MA (.dat (tab Mt)),MA (.dat (.int m)),MA (.dat (.int M)),MA (.own (f.M.length+0)),MA (.own (f.M.length+1)),MF,MF,MF,MF,MF] [OC.lst [],OC.gen (cE K [])] _;refine kX (vU (mS (zq (zi rfl (zq (j8 (zi rfl ⟨_,rfl,yp ⟨_,rfl,zL ⟨m,M+1,rfl,⟨by omega,by omega,by omega,by omega⟩,?_⟩⟩⟩)))))));refine⟨λi ρ cs=>∃ (u5 u6 u7 u8 u9:Option DV) (U:List Pk) (kvs:Nk),ρ=[MA (.dat (tab Mt)),MA (.dat (.int m)),MA (.dat (.int M)),MA (.own (f.M.length+0)),MA (.own (f.M.length+1)),u5,u6,u7,u8,u9]/\cs=[OC.lst (U.map pkD),OC.gen (cE K kvs)]/\DueAt Mt wd m (m+i) U kvs,⟨_,_,_,_,_,[],[],rfl,rfl,⟨(λ_ z=>nomatch z),(λh l P lt=>by have:=m2 h (mq g P);omega),IE,(λc a b=>by omega),(λ_ _=>rfl),(by show (0:Int)=_;omega)⟩⟩,?_,?_⟩
 ·refine Df λi l1=>G9 λu5 u6 u7 u8 u9 U kvs A=>?_;generalize eh:m+(i:Int)=h at A ⊢;have eh:=eh.symm;have lk:=A.len;refine zg (jg (Ff (i:=4) (j:=1) rfl rfl (by omega) (PEdO.ped (qZ (Mt,wd,h - 1) (zq (zi rfl (zq (j8 (zi rfl ⟨_,rfl,yp ⟨_,rfl,zL ⟨rfl,⟨rfl,g⟩,?_⟩⟩⟩)))))))));refine uf λrs ⟨R,few⟩=>?_;dsimp only at R;refine j8 (zi rfl ⟨_,rfl,yp ⟨_,rfl,h - 1,rfl,A.new _ (by omega),?_⟩⟩);generalize ek:kvs++[(h - 1,PyData.list (rs.map eg))]=kvs2;have ek:=ek.symm;have lk1:lkI (h - 1) kvs2=MA (.list (rs.map eg)):=by rw [ek,fF,A.new _ (by omega),Mw rfl];rfl
  have lots:∀ c,m - 1<=c->c<h->sE Mt wd kvs2 c:=λc a b=>by
   by_cases e:c=h - 1
   ·subst e;exact⟨rs,lk1,R,few⟩
   ·obtain⟨rs',h1,h2⟩:=A.lots c a (by omega);exact⟨rs',by rw [ek,fF,h1];rfl,h2⟩
  refine Fh (Fg (i:=4) (j:=1) rfl rfl (aZ (j8 (zi rfl ⟨_,rfl,yp ⟨_,rfl,_,rfl,_,lk1,_,rfl,?_⟩⟩))));refine⟨λj ρ cs=>∃ (u6 u7 u8 u9:Option DV) (U:List Pk),ρ=[MA (.dat (tab Mt)),MA (.dat (.int m)),MA (.dat (.int M)),MA (.own (f.M.length+0)),MA (.own (f.M.length+1)),MA (.dat (.int h)),u6,u7,u8,u9]/\cs=[OC.lst (U.map pkD),OC.gen (cE K kvs2)]/\InAt Mt wd h rs j U,⟨_,_,_,_,U,rfl,rfl,⟨λt ht=>⟨(A.ok t ht).1,.inl (A.ok t ht).2⟩,λh' l P lt=>A.all h' l P lt,(λj' hj=>by omega),A.nd⟩⟩,?_,?_⟩
  ·refine step_map λj r hr=>G8 λu6 u7 u8 u9 U B=>?_;obtain⟨q0,X⟩:=R.reg r (Hu hr);have inn:∀ q∈r.2,inP Mt wd q=MC:=λq hq=>(((X.mem q).mp hq).ins X.inn).1;have nd:=mj X.up;have fewR:r.2.length<=49:=qQ g nd inn;have m0:q0∈r.2:=JX X.hd;unfold eg;refine yg rfl (zo (zg (zo (zg (zP ?_)))));refine jg (aY (yb (PEdO.ped (md pD (λq=>.int (hgt Mt q)) (eE (zi rfl ⟨_,rfl,r.2,rfl,by omega,?_,?_⟩))))))
   ·rintro D q ρ' es hq ho hes;obtain⟨u,v,rfl⟩:=ho.two;refine yg rfl (zo (zg (zo (zg (zP (jf ?_))))));rw [Mw rfl];exact yn hes (bS g (show z7 Mt wd q.1 q.2=MC from inn q hq) rfl rfl rfl ⟨.mk2,rfl⟩)
   refine zg (hZ (rf (iD (yi (jH (zi rfl (aT ⟨?_,by decide +kernel,HM (Jd _ _) (HR _),_,rfl,?_⟩)))))))
   ·split <;> decide +kernel
   refine D7 (d:=r.1) (by rw [oJ];cases r.1 <;> decide +kernel) (λc1=>?_) λc1=>?_
   ·refine yi (jH (cm (zq (zi rfl (zL ⟨r.2.map (hgt Mt),by rw [Iw];rfl,(λe=>by rw [Mp.mp e] at m0;cases m0),λT T1 T2=>zi rfl ⟨rfl,rfl,HM (Jd _ _) (HR _),_,rfl,?_⟩⟩)))));obtain⟨qT,hqT,eT⟩:=Hz.mp T1;refine D7 (d:=decide (T=h)) rfl (λc2=>?_) λc2=>?_
    ·have c2:=MO c2;have pk:yJ Mt wd h r.2:=Dz X c1 λq hq=>by
      have:=T2 _ (Jx (f:=hgt Mt) hq);omega
     obtain⟨_,eq⟩:=mv X pk;obtain⟨p,ps,ep⟩:=JN (qR pk);have hp:p∈r.2:=by rw [ep];exact Hk
     refine jg (aY (yb (cS (zq (PEdO.ped (uB pD pD (λq=>decide (hgt Mt q=h)) (eE (zi rfl ⟨_,rfl,r.2,rfl,by omega,?_,?_⟩))))))))
     ·rintro D q ρ' es hq ho hes;obtain⟨u,rfl⟩:=ho.one;obtain⟨r',e1,e2⟩:=vX g (show z7 Mt wd q.1 q.2=MC from inn q hq);refine zg (yi (jH (mP (mP (zi rfl ⟨_,rfl,vQ (zi rfl ⟨_,rfl,yp ⟨_,rfl,.int q.2,vk (j:=1) rfl,_,rfl,_,e1,_,rfl,vQ (zi rfl ⟨_,rfl,yp ⟨_,rfl,.int q.1,vk (j:=0) rfl,_,rfl,_,e2,zi rfl ⟨rfl,rfl,HM (Jd _ _) (HR _),_,rfl,rfl,?_⟩⟩⟩)⟩⟩)⟩)))));refine yr (λc2=>?_) λc2=>?_
      ·exact yn hes (zi rfl ⟨.mk1,rfl⟩)
      ·exact .mk1
     have ef:(r.2.filter λq=>decide (hgt Mt q=h))=r.2:=List.filter_eq_self.mpr λq hq=>Mx (eq q hq);rw [ef];refine zL (.inl ⟨_,rfl,zg ?_⟩);have fewU:=uE g (λt ht=>(B.ok t ht).1) B.nd;refine gE (i:=3) (j:=0) rfl rfl (by rw [Hc];omega) (Fb (lh (aZ (zi rfl (lh (aZ (zi rfl (lh (Cw (zt ((Mt,wd,h,p),m,kvs2) ?_))))))))));refine zq (zi (i:=0) (d:=tab Mt) rfl (iR (v_var (i:=4) (x:=.mon (nK (cE K kvs2))) ?_ (zq (zi (i:=1) (d:=.int m) rfl (zq (vQ (zi (i:=9) (d:=.tuple (r.2.map pD)) rfl ⟨_,rfl,yp ⟨_,rfl,pD p,?_,zq (zi (i:=5) (d:=.int h) rfl (zL ⟨rfl,⟨rfl,g,inn p hp,⟨(by show m<=h;omega),(by show -(2 ^ 60)<=m;omega),(by show h<2 ^ 60;omega)⟩,lots⟩,?_⟩))⟩⟩))))))))
     ·show MA (k9 _ _ _ _ _)=_;simp [k9]
     ·rw [ep];exact vk (j:=0) rfl
     rintro _ ⟨o,rfl,ps'⟩;refine⟨by cases o <;> rfl,E9 ⟨_,rfl,show 3<=1000 by decide,_,_,_,_,U++[(r.2,h,o)],rfl,?_,B.more R hr pk ⟨pk,m,⟨m1,m2⟩,?_⟩⟩⟩
     ·rw [HH];rfl
     ·have:hdQ r.2=p:=by unfold hdQ;rw [ep];rfl
      show Pass Mt wd m h (hdQ r.2) o;rw [this];exact ps'
    ·have c2:=MP c2;exact va ⟨_,_,_,_,U,rfl,rfl,B.skip hr λP=>c2 (by rw [<-eT];exact (mv X P).2 qT hqT)⟩
   ·rw [Mv He];exact va ⟨_,_,_,_,U,rfl,rfl,B.skip hr λP=>by rw [(mv X P).1] at c1;cases c1⟩
  ·rintro _ _ ⟨u6,u7,u8,u9,U,rfl,rfl,B⟩;rw [Hc] at B;refine⟨_,_,_,_,_,U,kvs2,rfl,rfl,⟨λt ht=>⟨(B.ok t ht).1,?_⟩,λh' l P lt=>?_,B.nd,λc a b=>lots c a (by omega),λc a=>?_,?_⟩⟩
   ·rcases (B.ok t ht).2 with z | ⟨z,_⟩ <;> omega
   ·by_cases e:h'<h
    ·exact B.old h' l P e
    ·obtain rfl:h'=h:=by omega
     obtain⟨p,hp⟩:=Jy _ (qR P);obtain⟨ip,_,mem⟩:=yV P hp;obtain⟨r,hr,hpr⟩:=R.all p ip;obtain⟨q0,X⟩:=R.reg r hr;obtain⟨j',hj'⟩:=Ii hr;have el:r.2=l:=l5 X.up P.1 λz=>(eA X hpr z).trans (mem z).symm;obtain⟨t,ht,e1,e2⟩:=B.now j' (Hg.mp hj').1 r hj' (by rw [el];exact P);exact⟨t,ht,e1.trans el,e2⟩
   ·rw [ek,fF,A.new c (by omega),Mv (by omega)];rfl
   ·rw [ek,HA,Iz];omega
 ·rintro _ _ ⟨u5,u6,u7,u8,u9,U,kvs,rfl,rfl,A⟩;unfold jW at A;rw [Hc,HY] at A;have fewU:=uE g (λt ht=>(A.ok t ht).1) A.nd;refine fk (eF (dF (i:=3) ?_ (λt ht=>(A.ok t ht).1) A.nd fewU λh l P=>A.all h l P (by have:=M2 h (mq g P);omega)));show MA (freed _ _ _)=_;simp [freed]
abbrev mw (K:Hj):Sp:=spD K 2 (λ(c:Int) xs=>xs=[.feed,.dat (.int c)]) λ_ r=>∃ wd Mt,r=tab Mt/\Good wd Mt/\∀ a∈Mt.flatten,∀ b∈Mt.flatten,a - b<=9
theorem BM (F:Def K mg "_law_steep" vB qa) (uaa:mg "range"=MF) (uap:FnIn P w K mg base k "_law_draw" pZ (Fo K)) :
  FnIn P w K mg base (k+1) "_law_steep" qa (mw K):=by
 refine F.ok yR rfl λfa cdv A outer s H E hr=>⟨_,(zc (zO (i:=2) yR.nd rfl (MM rfl) (yw (za zk (za zk zb)))) (zc (yF (PW.pt (cf (zM (y7 (K:=K) rfl hr.units) (pv 1) zk (zX _)) (af (zM (y7 (K:=K) rfl hr.units) (zf uap hr rfl (za (pv 0) (za zk zb))) zk (zX _))))) (zj (zO (i:=2) yR.nd rfl (MM rfl) (yw (za zk (za zk zb))))) zV) (zc (zO (i:=3) yR.nd rfl (MN rfl) (zB yh zk (zf uap hr rfl (za (pv 0) (za (zK (zH (K:=K) rfl) (pv 2) zk (λ_ _=>rfl)) zb))))) (zc (zO (i:=4) yR.nd rfl (MM rfl) (zB yh zk (zf uap hr rfl (za (pv 0) (za (zK (zH (K:=K) rfl) (pv 2) zk (λ_ _=>rfl)) zb))))) (zc (zO (i:=5) yR.nd rfl (MN rfl) (zK (zH (K:=K) rfl) (yw (za zk (za zk (za zk (za zk zb))))) (zf uap hr rfl (za (pv 0) (za zk zb))) (λ_ _=>rfl))) (zc (zO (i:=6) yR.nd rfl (MN rfl) (zK (zH (K:=K) rfl) (yw (za zk (za (zB yu zk zk) (za (zB yu (zB oS zk zk) zk) (za (zB yu zk (zB oS zk zk)) zb))))) (zf uap hr rfl (za (pv 0) (za zk zb))) (λ_ _=>rfl))) (zj (zv (z6 (N:=qo) (own:=1) (fr:=[0,3,5,6]) (by walk_at "c") rfl (jq rfl uaa (za (pv 4) zb)) (λ_ _ _ _=>(zd (i:=0) (show (qo:MU).Nodup by decide +kernel) rfl (MM rfl) (MN rfl))) (λ_ _ _ _=>z8) (λ_ _ _ _=>(z6 (N:=qr) (own:=1) (fr:=[1,3,4]) (by walk_at "c") rfl (jq rfl uaa (za (pv 2) zb)) (λ_ _ _ _=>(zd (i:=0) (show (qr:MU).Nodup by decide +kernel) rfl (MM rfl) (MN rfl))) (λ_ _ _ _=>z8) (λ_ _ _ _=>(zB yh (pv 3) (zf uap hr rfl (za (pv 1) (za (pv 2) zb))))) rfl rfl (λ_=>rfl))) rfl rfl (λ_=>rfl)))))))))),?_⟩;rintro f xs c hl rfl
 try dsimp only [yd,zm]
 refine gH (λρ=>ρ=[MA .feed,MA (.dat (.int c)),MA (.dat (.list [.int 3,.int 3])),MF,MF,MF,MF]) ?_ ?_
 ·walk_at "w";rfl
 rintro _ rfl;refine gH (λρ=>∃ q:Int,(q=3 \/ q=6)/\ρ=[MA .feed,MA (.dat (.int c)),MA (.dat (.list [.int q,.int q])),MF,MF,MF,MF]) (Gs ?_ ?_ (aM ⟨3,.inl rfl,rfl⟩)) ?_
 ·walk_at "w";rw [Mv He];cases (PyData.int c).eqv (PyData.int 0)
  ·rw [Mv He];trivial
  ·rw [Mw rfl];walk_at "w";refine zt 8 ?_;walk_at "w";rintro _ ⟨i,rfl,_⟩;walk_at "w";trivial
 ·walk_at "w";exact⟨6,.inr rfl,rfl⟩
 rintro _ ⟨q,hq,rfl⟩;have q0:0<q/\q<=6:=by omega
 walk_at "w";refine zt q ?_;walk_at "w";rintro r ⟨i1,rfl,h1,h2⟩;walk_at "w";refine zt q ?_;walk_at "w";rintro r ⟨i2,rfl,h3,h4⟩;walk_at "w";refine zt 4 ?_;walk_at "w";rintro r ⟨i3,rfl,h5,h6⟩;refine⟨_,rfl,?_⟩;obtain⟨d3,e3,m3⟩:=menu (ds:=[.int 2,.int 3,.int 5,.int 10]) h5 h6 (by simp);obtain⟨far,rfl,f0,f1⟩:∃ n:Int,d3=.int n/\0<n/\n<=10:=by
  simp only [Hv,IB,or_false] at m3;rcases m3 with rfl | rfl | rfl | rfl <;> exact⟨_,rfl,by decide,by decide⟩
 refine⟨_,e3,?_⟩;walk_at "w";refine zt 4 ?_;walk_at "w";rintro r ⟨i4,rfl,h7,h8⟩;refine⟨_,rfl,?_⟩;obtain⟨d4,e4,m4⟩:=menu (ds:=[.int 0,.int (0 - 4),.int (10 ^ Int.toNat 9 - 9),.int (0 - 10 ^ Int.toNat 9)]) h7 h8 (by simp);obtain⟨bs,rfl,b0,b1⟩:∃ n:Int,d4=.int n/\-1000000000<=n/\n<=999999991:=by
  simp only [Hv,IB,or_false] at m4;rcases m4 with rfl | rfl | rfl | rfl <;> exact⟨_,rfl,by decide,by decide⟩
 refine⟨_,e4,?_⟩;walk_at "w";refine mQ ?_;walk_at "w";refine⟨λ_ e=>∃ r:M4,e=.list (r.map .int)/\r.length=(2+i1).toNat/\∀ n∈r,bs<=n/\n<bs+far,λD i hi=>?_,λes hes hR=>?_⟩
 ·refine mQ ?_;walk_at "w";refine⟨λ_ e=>∃ n:Int,e=.int n/\bs<=n/\n<bs+far,λD' i' hi'=>?_,λes hes hR=>?_⟩
  ·walk_at "w";refine zt far ?_;walk_at "w";rintro r ⟨n,rfl,n0,n1⟩;walk_at "w";omega
  ·obtain⟨ns,rfl,hs⟩:=tU (p:=λn=>bs<=n/\n<bs+far) hR;exact⟨ns,rfl,by rw [Hc] at hes;exact hes,hs⟩
 ·obtain⟨Mt,rfl,hs⟩:=tV (p:=λr=>r.length=(2+i1).toNat/\∀ n∈r,bs<=n/\n<bs+far) hR;rw [Hc] at hes;refine⟨(2+i1).toNat,Mt,rfl,⟨by omega,by omega,by omega,by omega,λr hr=>(hs r hr).1,λr hr n hn=>by have:=(hs r hr).2 n hn;omega⟩,λa ha b hb=>?_⟩;obtain⟨r,hr,ha⟩:=IT.mp ha;obtain⟨r',hr',hb⟩:=IT.mp hb;have:=(hs r hr).2 a ha;have:=(hs r' hr').2 b hb;omega
noncomputable abbrev scr (ns:M4):MB:=.list (ns.map .int)
theorem uF {K:Hj} {H:Hp} {a:Hm} {ns:M4} (h:SqL K H a (ns.map V.int)):Rep K (hide H L2.f0) (scr ns) (.ref a):=by
 rw [bA];exact zJ.mpr ⟨a,_,rfl,h,Reps.ints' ns⟩
theorem DB {K:Hj} {H:Hp} {v:V} {ns:M4} (h:Rep K (hide H L2.f0) (scr ns) v):∃ a,v=.ref a/\SqL K H a (ns.map V.int):=by
 rw [bA] at h;obtain⟨a,xs,rfl,h1,h2⟩:=zJ.mp h;rw [h2.ints] at h1;exact⟨a,rfl,h1⟩
def mx (K:Hj):Sp:=λvs H Q _=>∃ (a:Hm) (ns:M4) (i:Int),vs=[.ref a,.int i]/\SqL K H a (ns.map V.int)/\ns.length<=63/\0<=i/\i<=63 /\
 ∀ (p:Hm) (x y:Int) (H':Hp),Same H H'->H p=MF->H' p=MA (.lst [.int x,.int y])->0<=x->0<=y->y<2147483647->Q (.ref p) H'
def uG (K:Hj):Sp:=λvs H Q _=>∃ (a:Hm) (ns:M4),vs=[.ref a]/\SqL K H a (ns.map V.int)/\ns.length<=63/\∀ H',Q (.bl MC) H'
theorem DC {K:Hj} {f:Fx} {t:TA} {ρ:zr} {R R':List DV->Prop} (h:PAd K f t ρ R) (i:∀ xs,R xs->R' xs):PAd K f t ρ R':=λσ H Q e q=>h σ H Q e λxs vs H' g r p=>q xs vs H' g r (i xs p)
theorem F6 {K:Hj} {ρ:zr} {ns:M4} {i:Int} {E2:XK} (h0:ρ[0]?=MA (MA (.dat (scr ns)))) (h1:ρ[1]?=MA (MA (.dat (.int i)))) (hl:ns.length<=63) (i0:0<=i) (i1:i<=63) :
  ∀ (σ:L2.St) (H:Hp) (Q:VK),EnvOk K L2.f0 ρ σ H->(∀ (p:Hm) (x y:Int) (H':Hp),Same H H'->H p=MF->H' p=MA (.lst [.int x,.int y])->0<=x->0<=y->y<2147483647->Q (.ref p) H')->cO (mx K) [] E2 (yj (yt 0) (yj (yt 1) jK)) σ H Q:=by
 intro σ H Q e q;obtain⟨v0,hv0,r0⟩:=e.get 0 _ h0;obtain⟨v1,hv1,r1⟩:=e.get 1 _ h1;obtain⟨a,rfl,hS⟩:=DB r0;have e1:v1=.int i:=zu.mp (show Rep K (hide H L2.f0) (.int i) v1 from r1);subst e1;exact⟨_,hv0,_,hv1,a,ns,i,rfl,hS,hl,i0,i1,q⟩
theorem DD (F:Def K mg "_law_feed" aB pY) (uab:mg "len"=MF) (uaQ:mg "abs"=MF):FnIn P w K mg base (k+1) "_law_feed" pY (mx K):=by
 refine F.raw bh (λvs H Q E h=>?_) λfa cdv A outer s H vs Q E hr hs=>⟨_,(zc (zO (i:=2) bh.nd rfl (MM rfl) zk) (zc (yF (zM mF (zD (yM (K:=K) rfl) rfl uab Jq (za (pv 0) zb)) zk (zX _)) (zj (zO (i:=2) bh.nd rfl (MM rfl) (zK (zH (K:=K) rfl) (pv 0) (zB dG (pv 1) (zD (yM (K:=K) rfl) rfl uab Jq (za (pv 0) zb))) (λ_ _=>rfl)))) zV) (zj (zv (yw (za (zD (xB) rfl uaQ PyProof.Rows.boot_abs (za (pv 2) zb)) (za (zB yh (zB aR zk (pv 1)) zk) zb))))))),?_⟩
 ·obtain⟨a,ns,i,rfl,_⟩:=h;rfl
 obtain⟨a,ns,i,rfl,hS,h63,i0,i1,q⟩:=hs;have e0:EnvOk K L2.f0 (qz cG [.dat (scr ns),.dat (.int i)]) (start cG [.ref a,.int i]) H:=jP (.cons (uF hS) (.cons (show RepV K L2.f0 H (.dat (.int i)) (.int i) from (zu (K:=K) (H:=hide H L2.f0)).mpr rfl) .nil)) (L2.fok0 H);refine xQ (D:={ nx:=λρ=>ρ=[MA (.dat (scr ns)),MA (.dat (.int i)),MA (.dat (.int 0))],rt:=λ_=>False }) ?_ e0 ?_ (λ_ _ _ _ _ z=>z.elim) (λ_ z=>z) (λ_ z=>z)
 ·walk_at "w";rfl
 rintro _ σ1 H1 g1 e1 rfl;refine xQ (D:={ nx:=λρ=>∃ c:Int,ρ=[MA (.dat (scr ns)),MA (.dat (.int i)),MA (.dat (.int c))],rt:=λ_=>False }) ?_ e1 ?_ (λ_ _ _ _ _ z=>z.elim) (λ_ z=>z) (λ_ z=>z)
 ·walk_at "w";rw [Hc];by_cases h:0<ns.length
  ·rw [Mw (by simpa using h)];walk_at "w";rw [Hc];have z0:=L0 i (b:=(ns.length:Int)) (by omega);have z1:=Kd i (b:=(ns.length:Int)) (by omega);refine⟨by omega,_,rfl,_,vE (j:=(i % (ns.length:Int)).toNat) (by omega) (by omega),?_⟩;walk_at "w";exact⟨_,rfl⟩
  ·rw [Mv (by simpa using h)];walk_at "w";exact⟨_,rfl⟩
 rintro _ σ2 H2 g2 e2 ⟨c,rfl⟩;unfold hJ;have ss:Same H H2:=(L2.same0 g1).trans (L2.same0 g2);refine xR (R:=λds=>∃ x y:Int,ds=[.int x,.int y]/\0<=x/\0<=y/\y<2147483647) ?_ e2 ?_
 ·walk_at "w";omega
 ·rintro p ds vs H3 g3 hn rs ⟨x,y,rfl,hx,hy,hy'⟩;have sf:Same H H3:=ss.trans (L2.same0 g3);have ev:vs=[.int x,.int y]:=Reps.ints (ns:=[x,y]) rs;subst ev;exact q p x y _ (sf.trans (ye hn _)) (sf.free hn) zw hx hy hy'
theorem DE {w:MH} {K:Hj} {f:Fx} {Ds:MS} {ρ:zr} {cs:List OC} {O:MEnds} {i j:Nat} {es:M9} (hi:ρ[i]?=MA (MA (.own (f.M.length+j)))) (hc:cs[j]?=MA (.lst es)) (h:O.nx ρ (cs.set j (.lst []))):PSm w K f Ds (mC (Ex K "list" xG (yt i))) ρ cs O:=λse σ H H2 E x n r b k=>by
 have hj:j<Ds.length:=by rw [<-x.len];exact (Hg.mp hc).1
 have hD:Ds[j]?=MA Ds[j]:=Hd hj;obtain⟨vs,h0,h2⟩:=x.own j _ _ hD hc;refine⟨_,yQ hi x hD,MM ⟨rfl,vs,.of h0⟩,?_⟩;exact⟨_,vs,rfl,rfl,h0,n _ _ _ _ (x.put se hD (o:=.lst []) (c':=.lst []) ⟨[],zw,.nil'⟩) h⟩
theorem G0 {K:Hj} {f:Fx} {ρ:zr} {te:TE} {P:MB->Prop} (kI:IL K (.type "int") (.type "bool")=MA MG) (kN:IL K (.type "NoneType") (.type "bool")=MA MG) (h:PEd K f te ρ λd=>∃ o,d=opI o/\P (.bool MG)):PEd K f (tCB (xS K) (yj te (yj (tC (.ty "bool")) jK))) ρ P:=λσ H Q e q=>h σ H _ e λd v H1 g r ⟨o,ed,p⟩=>by
 subst ed;cases o with
 | none =>
  rw [jB.mp (show Rep K _ .none v from r)];exact⟨_, "bool",MG,rfl,.inr (.inr ⟨_,.non,kN⟩),q _ _ H1 g (zW.mpr rfl) p⟩
 | some i =>
  rw [zu.mp (show Rep K _ (.int i) v from r)];exact⟨_, "bool",MG,rfl,.inr (.inr ⟨_,.int i,kI⟩),q _ _ H1 g (zW.mpr rfl) p⟩
theorem oN {K:Hj} {ρ:zr} {P:MB->Prop} {ns:M4} {i:Int} {E1 E2:XK} (h0:ρ[0]?=MA (MA (.dat (scr ns)))) (h1:ρ[1]?=MA (MA (.dat (.int i)))) (hl:ns.length<=63) (i0:0<=i) (i1:i<=63)
  (hp:∀ wd Mt,Good wd Mt->(∀ a∈Mt.flatten,∀ b∈Mt.flatten,a - b<=9)->P (tab Mt)):PEd K L2.f0 (cO (mw K) [] E1 (yj (cO (mx K) [] E2 (yj (yt 0) (yj (yt 1) jK))) (yj (yt 1) jK))) ρ P:=by
 intro σ H Q e q;refine F6 h0 h1 hl i0 i1 σ H _ e λp x y H' s hn hp' x0 y0 y1=>?_;obtain⟨v1,a1,a2⟩:=e.get 1 _ h1;have a2:Rep K (hide H L2.f0) (.int i) v1:=a2;rw [zu.mp a2] at a1;refine⟨_,a1,⟨MA p,[]⟩,[.feed,.dat (.int i)],i,.cons ⟨p,rfl,rfl⟩ (.cons (show RepV K ⟨MA p,[]⟩ H' (.dat (.int i)) (.int i) from (zu (K:=K) (H:=hide H' ⟨MA p,[]⟩)).mpr rfl) .nil),rfl,⟨λp' e=>by cases e;exact⟨x,y,hp',x0,y0,y1⟩,(λb hb=>by cases hb),λ_ _ hb=>by cases hb⟩,rfl,?_⟩;rintro r v H'' gg rr ⟨wd,Mt,rfl,g,st⟩;refine q _ _ _ (Gh λb o hb=>?_) ?_ (hp wd Mt g st)
 ·have nb:b≠p:=λe=>by rw [e,hn] at hb;cases hb
  refine zp _ _ b o (gg.sm b o (zI (f:=⟨MA p,[]⟩) (λz=>?_) (s b o hb)));rcases z with z | z
  ·cases z;exact nb rfl
  ·cases z
 ·rw [bA];exact Rep.mono (zp _ _) _ _ rr
theorem hI:∀ l:List Pt,JU (l.map pD)=MC/\Hy (l.map pD)<=1
 | []=>⟨rfl,HR _⟩
 | p :: l=>⟨(hI l).1,LV.mpr ⟨Ht 1,(hI l).2⟩⟩
theorem BN (t:Pk):(pkD t).canLay0=MC/\(pkD t).depth<=3:=by
 obtain⟨l,h,o⟩:=t;obtain⟨a,b⟩:=hI l;constructor
 ·show (JU (l.map pD) && (MC && ((opI o).canLay0 && MC)))=MC;rw [a];cases o <;> rfl
 ·show max (Hy (l.map pD)+1) (max 0 (max (opI o).depth 0))+1<=3;have:(opI o).depth=0:=by cases o <;> rfl
  rw [this];omega
theorem fG:∀ T:List Pk,JU (T.map pkD)=MC/\Hy (T.map pkD)<=3
 | []=>⟨rfl,HR _⟩
 | t :: T=>⟨by show ((pkD t).canLay0 && JU (T.map pkD))=MC;rw [(BN t).1,(fG T).1];rfl,LV.mpr ⟨(BN t).2,(fG T).2⟩⟩
theorem F7 {f:Hm} {fd:FuncData} (F:Fun K "law" "law" eO f fd) (uab:mg "len"=MF) (uaa:mg "range"=MF) (uad:mg "max"=MF) (uaf:mg "min"=MF) (uao:mg "list"=MF) (uac:mg "tuple"=MF) (uaq:mg "isinstance"=MF) (uaR:mg "bool"=MF) (kI:IL K (.type "int") (.type "bool")=MA MG) (kN:IL K (.type "NoneType") (.type "bool")=MA MG) (kL:IL K (.type "list") (.type "list")=MA MC) (kT:IL K (.type "tuple") (.type "tuple")=MA MC)
  (ubH:FnIn P w K mg base k "_law_feed" pY (mx K)) (ubI:FnIn P w K mg base k "_law_steep" qa (mw K)) (ubi:FnIn P w K mg base k "peaks" pf (uA K)) (ubJ:FnIn P w K mg base k "_law_due" pF (BK K)) :
  FnOk P w K mg base CX0 (k+1) f fd qc (uG K):=by
 refine F.ok d5 (λvs H Q E h=>?_) λcdv A outer s H vs Q E hr hs=>⟨_,(zc (yL Ie rfl (jq rfl uaa (za (zD (uL rfl) rfl uad boot_max (za zk (za (zD (uM rfl) rfl uaf boot_min (za zk (za (zD (yM (K:=K) rfl) rfl uab Jq (za (pv 0) zb)) zb))) zb))) zb)) (zd (i:=1) d5.nd rfl (MM rfl) (MN rfl)) (zc (zO (i:=2) d5.nd rfl (MM rfl) (zf ubI hr rfl (za (zf ubH hr rfl (za (pv 0) (za (pv 1) zb))) (za (pv 1) zb)))) (zc (zO (i:=3) d5.nd rfl (MM rfl) (zf ubi hr rfl (za (pv 2) zb))) (zc (zO (i:=4) d5.nd rfl (MM rfl) (zf ubJ hr rfl (za (pv 2) zb))) (zc (yF (PW.pt (sG (vH (ya (K:=K) rfl (zD (bB (K:=K) rfl) rfl uaq boot_isinstance (za (pv 3) (za (e8 (v:=.ty "list") rfl uao LW rfl) zb))) (λ_=>rfl))) (oO (zM (dI (K:=K) rfl hr.units) (pv 3) (pv 4) (zX _))))) (zj (zv bU)) zV) (zc (yL Ie rfl (zF (K:=K) rfl (pv 3)) (zd (i:=5) d5.nd rfl (MM rfl) (MN rfl)) (zj (yF (PW.pt (sG (vH (ya (K:=K) rfl (zD (bB (K:=K) rfl) rfl uaq boot_isinstance (za (pv 5) (za (e8 (v:=.ty "tuple") rfl uac IY rfl) zb))) (λ_=>rfl))) (sG (vH (ya (K:=K) rfl (zD (bB (K:=K) rfl) rfl uaq boot_isinstance (za (zK (yG (K:=K) rfl) (pv 5) zk (λ_ _=>rfl)) (za (e8 (v:=.ty "tuple") rfl uac IY rfl) zb))) (λ_=>rfl))) (oO (ya (K:=K) rfl (zD (bB (K:=K) rfl) rfl uaq boot_isinstance (za (zK (yG (K:=K) rfl) (pv 5) zk (λ_ _=>rfl)) (za (e8 (v:=.ty "bool") rfl uaR PyProof.Rows.boot_bool rfl) zb))) (λ_=>rfl)))))) (zj (zv bU)) zV))) (zc (yE (xF IP PySem.F.slot_list_clear PySem.F.type_list_clear xH (pv 3))) (zj (yF (zM (dI (K:=K) rfl hr.units) (zf ubi hr rfl (za (pv 2) zb)) (pv 4) (zX _)) (zj (zv bU)) zV))))))))) (zj (zv bU))),?_⟩
 ·obtain⟨a,ns,rfl,_⟩:=h;rfl
 obtain⟨a,ns,rfl,hS,h63,q⟩:=hs;have e0:EnvOk K L2.f0 (qz tT [.dat (scr ns)]) (start tT [.ref a]) H:=jP (.cons (uF hS) .nil) (L2.fok0 H);suffices h:PSd K L2.f0 _ (qz tT [.dat (scr ns)]) { nx:=λ_=>False,rt:=λd=>d=.bool MC } from
  h _ H _ e0 (λ_ _ _ _ _ z=>z.elim) (λd v H' _ r z=>by
   subst z;rw [zW.mp r];exact q H') (λ_ _ _ _ _ z=>z) (λ_ _ _ _ _ z=>z)
 refine yq (sT (bC (DC (R:=λxs=>∃ j:Int,xs=[.dat (.int j)]/\0<=j/\j<=63) ?_ ?_)))
 ·walk_at "w";rw [Hc];split <;> split <;> omega
 rintro _ ⟨j,rfl,j0,j1⟩;refine⟨j,rfl,by omega,by omega,λi ρ=>∃ x1 x2 x3 x4 x5,ρ=[MA (.dat (scr ns)),x1,x2,x3,x4,x5],⟨_,_,_,_,_,rfl⟩,?_,?_⟩
 ·rintro i d _ hi ⟨x1,x2,x3,x4,x5,rfl⟩;obtain⟨hi,rfl⟩:=vY hi;refine zg (yq (yb (oN rfl rfl h63 (by omega) (by omega) λwd Mt g fl=>zg ?_)));refine gD (w:=w) (iN (vp (qZ (Mt,wd) (zq (zi rfl (zL ⟨rfl,⟨rfl,g,fl⟩,?_⟩))))));rintro _ ⟨T,rfl,PT,lT⟩;refine⟨show 3<6 by decide,λD=>?_⟩;refine jg (aY (yb (PEdO.ped (qZ (Mt,wd) (zq (zi rfl (zL ⟨rfl,⟨rfl,g,fl⟩,?_⟩)))))));rintro _ ⟨U,rfl,PU,_⟩;obtain rfl:=kj PT PU;have cl:(PyData.list (T.map pkD)).canLay0=MC:=(fG T).1;have dp:(PyData.list (T.map pkD)).depth<=60:=HM (Nat.succ_le_succ (fG T).2) (by decide);refine zg (jg (hZ (k7 (B0 (cQ (yY (Gg kL (zi (i:=3) (d:=.list (T.map pkD)) rfl ⟨_,rfl,MC,rfl,?_⟩))))))));rw [II,Mv He];refine yi (jH (zi (i:=3) (d:=.list (T.map pkD)) rfl (zi (i:=4) (d:=.list (T.map pkD)) rfl ⟨cl,cl,HM (Nat.min_le_left _ _) dp,_,rfl,?_⟩)));rw [Mw rfl,Md _ cl,II,Mv He];refine va (jg (E8 (i:=3) (j:=0) rfl rfl (λ_ ρ=>∃ x5,ρ=[MA (.dat (scr ns)),MA (.dat (.int i)),MA (.dat (tab Mt)),MA (.own 0),MA (.dat (.list (T.map pkD))),x5]) ⟨_,rfl⟩ ?_ ?_))
  ·rintro n e _ he ⟨x5,rfl⟩;rw [Ho] at he;obtain⟨t,_,rfl⟩:=Jb.mp he;refine zg (hZ (rf (B0 (cQ (yY (DI kT (zi (i:=5) (d:=pkD t) rfl ⟨_,rfl,MC,rfl,?_⟩)))))));rw [II,Mv He];refine B0 (cQ (yY (DI kT (vQ (zi (i:=5) (d:=pkD t) rfl ⟨_,rfl,yp ⟨_,rfl,pkK t,vk (j:=0) rfl,_,rfl,MC,rfl,?_⟩⟩)))));rw [II,Mv He];refine yY (G0 kI kN (vQ (zi (i:=5) (d:=pkD t) rfl ⟨_,rfl,yp ⟨_,rfl,opI t.2.2,vk (j:=2) rfl,_,rfl,MG,rfl,?_⟩⟩)));rw [Mv He];exact va ⟨rfl,_,rfl⟩
  ·rintro _ ⟨x5,rfl⟩;refine jg (DE (i:=3) (j:=0) rfl rfl ?_);refine hZ (rf (yi (jH (PEdO.ped (qZ (Mt,wd) (zq (zi rfl (zL ⟨rfl,⟨rfl,g,fl⟩,?_⟩))))))));rintro _ ⟨U,rfl,PU,_⟩;obtain rfl:=kj PT PU;refine zi (i:=4) (d:=.list (T.map pkD)) rfl ⟨cl,cl,HM (Nat.min_le_left _ _) dp,_,rfl,?_⟩;rw [Mw rfl,Md _ cl,II,Mv He];exact va ⟨_,_,_,_,_,rfl⟩
 ·rintro _ ⟨x1,x2,x3,x4,x5,rfl⟩;exact yA (xM rfl)
end
theorem _root_.L2.FnIn.m {P w K mg base j k x ps sp} (h:FnIn P w K mg base j x ps sp) (hk:j<=k:=by decide):FnIn P w K mg base k x ps sp:=h.mono hk
theorem _root_.L2.FnInH.m {P w K mg base j k x ps sp} (h:FnInH P w K mg base j x ps sp) (hk:j<=k:=by decide):FnInH P w K mg base k x ps sp:=h.mono hk
theorem xf1 {K:Lf} {h:Heap} {mg:Str->MR} {x:Str} {st:Stmt} {f:Hm} {od an:MW} {sl:Array (MR)} {oc kV dc pm cd ct:MD} (X:K.In h) (G:h.Ns HX mg) (a:FD K x st f od an sl oc kV dc pm cd ct) {p0:Str} (hb:∀ (kV doc pm:MD) (an:MW) (cdv ct:MD) (u0:MD),bindArgs (Jl x x (ji st) (yo st) (zh st) .none kV doc pm an cdv ct) ⟨[u0],[]⟩=pure ([p0].zip [u0])):Def K mg x st [p0]:=Az X G a (λ_ _ _ _ _ _ us hl=>by
  rcases us with _ | ⟨u0,_ | ⟨z,zs⟩⟩ <;> first | exact hb _ _ _ _ _ _ _ | (simp at hl))
theorem xf2 {K:Lf} {h:Heap} {mg:Str->MR} {x:Str} {st:Stmt} {f:Hm} {od an:MW} {sl:Array (MR)} {oc kV dc pm cd ct:MD} (X:K.In h) (G:h.Ns HX mg) (a:FD K x st f od an sl oc kV dc pm cd ct) {p0 p1:Str} (hb:∀ (kV doc pm:MD) (an:MW) (cdv ct:MD) (u0 u1:MD),bindArgs (Jl x x (ji st) (yo st) (zh st) .none kV doc pm an cdv ct) ⟨[u0,u1],[]⟩=pure ([p0,p1].zip [u0,u1])):Def K mg x st [p0,p1]:=Az X G a (λ_ _ _ _ _ _ us hl=>by
  rcases us with _ | ⟨u0,_ | ⟨u1,_ | ⟨z,zs⟩⟩⟩ <;> first | exact hb _ _ _ _ _ _ _ _ | (simp at hl))
theorem xf3 {K:Lf} {h:Heap} {mg:Str->MR} {x:Str} {st:Stmt} {f:Hm} {od an:MW} {sl:Array (MR)} {oc kV dc pm cd ct:MD} (X:K.In h) (G:h.Ns HX mg) (a:FD K x st f od an sl oc kV dc pm cd ct) {p0 p1 p2:Str} (hb:∀ (kV doc pm:MD) (an:MW) (cdv ct:MD) (u0 u1 u2:MD),bindArgs (Jl x x (ji st) (yo st) (zh st) .none kV doc pm an cdv ct) ⟨[u0,u1,u2],[]⟩=pure ([p0,p1,p2].zip [u0,u1,u2])):Def K mg x st [p0,p1,p2]:=Az X G a (λ_ _ _ _ _ _ us hl=>by
  rcases us with _ | ⟨u0,_ | ⟨u1,_ | ⟨u2,_ | ⟨z,zs⟩⟩⟩⟩ <;> first | exact hb _ _ _ _ _ _ _ _ _ | (simp at hl))
theorem xf4 {K:Lf} {h:Heap} {mg:Str->MR} {x:Str} {st:Stmt} {f:Hm} {od an:MW} {sl:Array (MR)} {oc kV dc pm cd ct:MD} (X:K.In h) (G:h.Ns HX mg) (a:FD K x st f od an sl oc kV dc pm cd ct) {p0 p1 p2 p3:Str} (hb:∀ (kV doc pm:MD) (an:MW) (cdv ct:MD) (u0 u1 u2 u3:MD),bindArgs (Jl x x (ji st) (yo st) (zh st) .none kV doc pm an cdv ct) ⟨[u0,u1,u2,u3],[]⟩=pure ([p0,p1,p2,p3].zip [u0,u1,u2,u3])):Def K mg x st [p0,p1,p2,p3]:=Az X G a (λ_ _ _ _ _ _ us hl=>by
  rcases us with _ | ⟨u0,_ | ⟨u1,_ | ⟨u2,_ | ⟨u3,_ | ⟨z,zs⟩⟩⟩⟩⟩ <;> first | exact hb _ _ _ _ _ _ _ _ _ _ | (simp at hl))
theorem xf5 {K:Lf} {h:Heap} {mg:Str->MR} {x:Str} {st:Stmt} {f:Hm} {od an:MW} {sl:Array (MR)} {oc kV dc pm cd ct:MD} (X:K.In h) (G:h.Ns HX mg) (a:FD K x st f od an sl oc kV dc pm cd ct) {p0 p1 p2 p3 p4:Str} (hb:∀ (kV doc pm:MD) (an:MW) (cdv ct:MD) (u0 u1 u2 u3 u4:MD),bindArgs (Jl x x (ji st) (yo st) (zh st) .none kV doc pm an cdv ct) ⟨[u0,u1,u2,u3,u4],[]⟩=pure ([p0,p1,p2,p3,p4].zip [u0,u1,u2,u3,u4])):Def K mg x st [p0,p1,p2,p3,p4]:=Az X G a (λ_ _ _ _ _ _ us hl=>by
  rcases us with _ | ⟨u0,_ | ⟨u1,_ | ⟨u2,_ | ⟨u3,_ | ⟨u4,_ | ⟨z,zs⟩⟩⟩⟩⟩⟩ <;> first | exact hb _ _ _ _ _ _ _ _ _ _ _ | (simp at hl))
set_option autoImplicit true in
set_option relaxedAutoImplicit true in
theorem all_mk {l:PySem.W.OpenLaw} {w:MH} {K:Hj} {h:Heap} {mg:Str->MR} {fa:Hm} (X:K.In h) (G:h.Ns HX mg) (hfa:mg "law"=MA (.ref fa))
  (a1:FD K "size" lA f1 od1 an1 sl1 oc1 kV1 dc1 pm1 cd1 ct1)
  (a2:FD K "points" c9 f2 od2 an2 sl2 oc2 kV2 dc2 pm2 cd2 ct2)
  (a3:FD K "has_point" vt f3 od3 an3 sl3 oc3 kV3 dc3 pm3 cd3 ct3)
  (a4:FD K "neighbours" qJ f4 od4 an4 sl4 oc4 kV4 dc4 pm4 cd4 ct4)
  (a5:FD K "cells" ft f5 od5 an5 sl5 oc5 kV5 dc5 pm5 cd5 ct5)
  (a6:FD K "has_cell" ar f6 od6 an6 sl6 oc6 kV6 dc6 pm6 cd6 ct6)
  (a7:FD K "corners" bG f7 od7 an7 sl7 oc7 kV7 dc7 pm7 cd7 ct7)
  (a8:FD K "cells_at" au f8 od8 an8 sl8 oc8 kV8 dc8 pm8 cd8 ct8)
  (a9:FD K "ask_table" vu f9 od9 an9 sl9 oc9 kV9 dc9 pm9 cd9 ct9)
  (a10:FD K "fits" lC f10 od10 an10 sl10 oc10 kV10 dc10 pm10 cd10 ct10)
  (a11:FD K "is_row" de f11 od11 an11 sl11 oc11 kV11 dc11 pm11 cd11 ct11)
  (a12:FD K "span" lD f12 od12 an12 sl12 oc12 kV12 dc12 pm12 cd12 ct12)
  (a13:FD K "gates" fu f13 od13 an13 sl13 oc13 kV13 dc13 pm13 cd13 ct13)
  (a14:FD K "stands_high" jX f14 od14 an14 sl14 oc14 kV14 dc14 pm14 cd14 ct14)
  (a15:FD K "gate_points" jY f15 od15 an15 sl15 oc15 kV15 dc15 pm15 cd15 ct15)
  (a16:FD K "has_gate" aw f16 od16 an16 sl16 oc16 kV16 dc16 pm16 cd16 ct16)
  (a17:FD K "is_open" bH f17 od17 an17 sl17 oc17 kV17 dc17 pm17 cd17 ct17)
  (a18:FD K "cell_gates" qK f18 od18 an18 sl18 oc18 kV18 dc18 pm18 cd18 ct18)
  (a19:FD K "is_crossed" qL f19 od19 an19 sl19 oc19 kV19 dc19 pm19 cd19 ct19)
  (a20:FD K "has_high_middle" yZ f20 od20 an20 sl20 oc20 kV20 dc20 pm20 cd20 ct20)
  (a21:FD K "cell_ties" vw f21 od21 an21 sl21 oc21 kV21 dc21 pm21 cd21 ct21)
  (a22:FD K "crossed_ties" jD f22 od22 an22 sl22 oc22 kV22 dc22 pm22 cd22 ct22)
  (a23:FD K "heading" bI f23 od23 an23 sl23 oc23 kV23 dc23 pm23 cd23 ct23)
  (a24:FD K "cell_ahead" qM f24 od24 an24 sl24 oc24 kV24 dc24 pm24 cd24 ct24)
  (a25:FD K "comes_in" ax f25 od25 an25 sl25 oc25 kV25 dc25 pm25 cd25 ct25)
  (a26:FD K "gate_ahead" qN f26 od26 an26 sl26 oc26 kV26 dc26 pm26 cd26 ct26)
  (a27:FD K "lines" fv f27 od27 an27 sl27 oc27 kV27 dc27 pm27 cd27 ct27)
  (a28:FD K "line_from" vy f28 od28 an28 sl28 oc28 kV28 dc28 pm28 cd28 ct28)
  (a29:FD K "regions" bJ f29 od29 an29 sl29 oc29 kV29 dc29 pm29 cd29 ct29)
  (a30:FD K "indexes" bK f30 od30 an30 sl30 oc30 kV30 dc30 pm30 cd30 ct30)
  (a31:FD K "all_joined" qP f31 od31 an31 sl31 oc31 kV31 dc31 pm31 cd31 ct31)
  (a32:FD K "joined" dk f32 od32 an32 sl32 oc32 kV32 dc32 pm32 cd32 ct32)
  (a33:FD K "nodes_at" ay f33 od33 an33 sl33 oc33 kV33 dc33 pm33 cd33 ct33)
  (a34:FD K "tree" lJ f34 od34 an34 sl34 oc34 kV34 dc34 pm34 cd34 ct34)
  (a35:FD K "word_of" bL f35 od35 an35 sl35 oc35 kV35 dc35 pm35 cd35 ct35)
  (a36:FD K "both_regions" jE f36 od36 an36 sl36 oc36 kV36 dc36 pm36 cd36 ct36)
  (a37:FD K "pairs" fz f37 od37 an37 sl37 oc37 kV37 dc37 pm37 cd37 ct37)
  (a38:FD K "pair_beside" jZ f38 od38 an38 sl38 oc38 kV38 dc38 pm38 cd38 ct38)
  (a39:FD K "places_of" vz f39 od39 an39 sl39 oc39 kV39 dc39 pm39 cd39 ct39)
  (a40:FD K "points_of" vA f40 od40 an40 sl40 oc40 kV40 dc40 pm40 cd40 ct40)
  (a41:FD K "cells_of" az f41 od41 an41 sl41 oc41 kV41 dc41 pm41 cd41 ct41)
  (a42:FD K "has_middle_at" jk f42 od42 an42 sl42 oc42 kV42 dc42 pm42 cd42 ct42)
  (a43:FD K "spans" fA f43 od43 an43 sl43 oc43 kV43 dc43 pm43 cd43 ct43)
  (a44:FD K "peaks" fB f44 od44 an44 sl44 oc44 kV44 dc44 pm44 cd44 ct44)
  (a45:FD K "pass_of" bM f45 od45 an45 sl45 oc45 kV45 dc45 pm45 cd45 ct45)
  (a46:FD K "_law_feed" aB f46 od46 an46 sl46 oc46 kV46 dc46 pm46 cd46 ct46)
  (a47:FD K "_law_draw" aC f47 od47 an47 sl47 oc47 kV47 dc47 pm47 cd47 ct47)
  (a48:FD K "_law_steep" vB f48 od48 an48 sl48 oc48 kV48 dc48 pm48 cd48 ct48)
  (a49:FD K "_law_span" aD f49 od49 an49 sl49 oc49 kV49 dc49 pm49 cd49 ct49)
  (a50:FD K "_law_pass" aE f50 od50 an50 sl50 oc50 kV50 dc50 pm50 cd50 ct50)
  (a51:FD K "_law_due" bN f51 od51 an51 sl51 oc51 kV51 dc51 pm51 cd51 ct51)
  (a52:FD K "_law_first" vC f52 od52 an52 sl52 oc52 kV52 dc52 pm52 cd52 ct52)
  (a53:FD K "law" eO f53 od53 an53 sl53 oc53 kV53 dc53 pm53 cd53 ct53)
  {ubK:Tok} (uaS:Iy K HX "FEWEST"=MA (MA (.int (2) ubK)))
  {ubL:Tok} (uaT:Iy K HX "MOST"=MA (MA (.int (7) ubL)))
  {ubM:Tok} (uaU:Iy K HX "LEAST"=MA (MA (.int (-1000000000) ubM)))
  {ubN:Tok} (uaV:Iy K HX "GREATEST"=MA (MA (.int (1000000000) ubN)))
  {ubO:Tok} (uaW:Iy K HX "STEEPEST"=MA (MA (.int (9) ubO)))
  (uaX:Iy K HX "len"=MA MF)
  (uaY:Iy K HX "min"=MA MF)
  (uaZ:Iy K HX "max"=MA MF)
  (ua0:Iy K HX "enumerate"=MA MF)
  (ua1:Iy K HX "all"=MA MF)
  (ua2:Iy K HX "range"=MA MF)
  (ua3:Iy K HX "sum"=MA MF)
  (ua4:Iy K HX "tuple"=MA MF)
  (ua5:Iy K HX "set"=MA MF)
  (ua6:Iy K HX "sorted"=MA MF)
  (ua7:Iy K HX "list"=MA MF)
  (ua8:Iy K HX "abs"=MA MF)
  (ua9:Iy K HX "isinstance"=MA MF)
  (uba:Iy K HX "bool"=MA MF)
  {uaA:Hm} (ubb:Iy K HX "AHEAD"=MA (MA (.ref uaA)))
  {uaC:Hm} (ubc:Iy K HX "BEHIND"=MA (MA (.ref uaC)))
  (uaB:wo K uaA Fu=MC)
  (uaD:wo K uaC AX=MC)
  (kl_pair:gJ K "pair_beside"=MC)
  (kl_peaks:gJ K "peaks"=MC)
  (kI:IL K (.type "int") (.type "bool")=MA MG)
  (kN:IL K (.type "NoneType") (.type "bool")=MA MG)
  (kL:IL K (.type "list") (.type "list")=MA MC)
  (kT:IL K (.type "tuple") (.type "tuple")=MA MC) :
  ∃ fd:FuncData,(∀ (s:ME) (v:MD),BindsTo s fd ⟨[v],[]⟩ [("_law_script",v)])/\∀ base:Heap,K.In base->base.Ns HX mg->FnOk l.prog w K mg base CX0 16 fa fd qc (uG K):=by
 have ubP:Def K mg "size" lA pf:=xf1 X G a1 (λ_ _ _ _ _ _ _=>rfl);have ubQ:Def K mg "points" c9 pf:=xf1 X G a2 (λ_ _ _ _ _ _ _=>rfl);have ubR:Def K mg "has_point" vt pj:=xf3 X G a3 (λ_ _ _ _ _ _ _ _ _=>rfl);have ubS:Def K mg "neighbours" qJ pj:=xf3 X G a4 (λ_ _ _ _ _ _ _ _ _=>rfl);have ubT:Def K mg "cells" ft pf:=xf1 X G a5 (λ_ _ _ _ _ _ _=>rfl);have ubU:Def K mg "has_cell" ar pj:=xf3 X G a6 (λ_ _ _ _ _ _ _ _ _=>rfl);have ubV:Def K mg "corners" bG pI:=xf2 X G a7 (λ_ _ _ _ _ _ _ _=>rfl);have ubW:Def K mg "cells_at" au pj:=xf3 X G a8 (λ_ _ _ _ _ _ _ _ _=>rfl);have ubX:Def K mg "ask_table" vu pf:=xf1 X G a9 (λ_ _ _ _ _ _ _=>rfl);have ubY:Def K mg "fits" lC pK:=xf1 X G a10 (λ_ _ _ _ _ _ _=>rfl);have ubZ:Def K mg "is_row" de pG:=xf1 X G a11 (λ_ _ _ _ _ _ _=>rfl);have ub0:Def K mg "span" lD pf:=xf1 X G a12 (λ_ _ _ _ _ _ _=>rfl);have ub1:Def K mg "gates" fu pz:=xf2 X G a13 (λ_ _ _ _ _ _ _ _=>rfl);have ub2:Def K mg "stands_high" jX pA:=xf3 X G a14 (λ_ _ _ _ _ _ _ _ _=>rfl);have ub3:Def K mg "gate_points" jY ["gate"]:=xf1 X G a15 (λ_ _ _ _ _ _ _=>rfl);have ub4:Def K mg "has_gate" aw pL:=xf2 X G a16 (λ_ _ _ _ _ _ _ _=>rfl);have ub5:Def K mg "is_open" bH ph:=xf3 X G a17 (λ_ _ _ _ _ _ _ _ _=>rfl);have ub6:Def K mg "cell_gates" qK ["cell"]:=xf1 X G a18 (λ_ _ _ _ _ _ _=>rfl);have ub7:Def K mg "is_crossed" qL pq:=xf3 X G a19 (λ_ _ _ _ _ _ _ _ _=>rfl);have ub8:Def K mg "has_high_middle" yZ pq:=xf3 X G a20 (λ_ _ _ _ _ _ _ _ _=>rfl);have ub9:Def K mg "cell_ties" vw pq:=xf3 X G a21 (λ_ _ _ _ _ _ _ _ _=>rfl);have uca:Def K mg "crossed_ties" jD pq:=xf3 X G a22 (λ_ _ _ _ _ _ _ _ _=>rfl);have ucb:Def K mg "heading" bI ph:=xf3 X G a23 (λ_ _ _ _ _ _ _ _ _=>rfl);have ucc:Def K mg "cell_ahead" qM ph:=xf3 X G a24 (λ_ _ _ _ _ _ _ _ _=>rfl);have ucd:Def K mg "comes_in" ax ph:=xf3 X G a25 (λ_ _ _ _ _ _ _ _ _=>rfl);have uce:Def K mg "gate_ahead" qN ph:=xf3 X G a26 (λ_ _ _ _ _ _ _ _ _=>rfl);have ucf:Def K mg "lines" fv pz:=xf2 X G a27 (λ_ _ _ _ _ _ _ _=>rfl);have ucg:Def K mg "line_from" vy pE:=xf3 X G a28 (λ_ _ _ _ _ _ _ _ _=>rfl);have uch:Def K mg "regions" bJ pz:=xf2 X G a29 (λ_ _ _ _ _ _ _ _=>rfl);have uci:Def K mg "indexes" bK pz:=xf2 X G a30 (λ_ _ _ _ _ _ _ _=>rfl);have ucj:Def K mg "all_joined" qP pE:=xf3 X G a31 (λ_ _ _ _ _ _ _ _ _=>rfl);have uck:Def K mg "joined" dk pA:=xf3 X G a32 (λ_ _ _ _ _ _ _ _ _=>rfl);have ucl:Def K mg "nodes_at" ay pH:=xf2 X G a33 (λ_ _ _ _ _ _ _ _=>rfl);have ucm:Def K mg "tree" lJ pf:=xf1 X G a34 (λ_ _ _ _ _ _ _=>rfl);have ucn:Def K mg "word_of" bL ["node"]:=xf1 X G a35 (λ_ _ _ _ _ _ _=>rfl);have uco:Def K mg "both_regions" jE pH:=xf2 X G a36 (λ_ _ _ _ _ _ _ _=>rfl);have ucp:Def K mg "pairs" fz pS:=xf3 X G a37 (λ_ _ _ _ _ _ _ _ _=>rfl);have ucq:Def K mg "pair_beside" jZ pT:=xf3 X G a38 (λ_ _ _ _ _ _ _ _ _=>rfl);have ucr:Def K mg "places_of" vz pM:=xf2 X G a39 (λ_ _ _ _ _ _ _ _=>rfl);have ucs:Def K mg "points_of" vA pB:=xf4 X G a40 (λ_ _ _ _ _ _ _ _ _ _=>rfl);have uct:Def K mg "cells_of" az pB:=xf4 X G a41 (λ_ _ _ _ _ _ _ _ _ _=>rfl);have ucu:Def K mg "has_middle_at" jk pU:=xf3 X G a42 (λ_ _ _ _ _ _ _ _ _=>rfl);have ucv:Def K mg "spans" fA pW:=xf3 X G a43 (λ_ _ _ _ _ _ _ _ _=>rfl);have ucw:Def K mg "peaks" fB pf:=xf1 X G a44 (λ_ _ _ _ _ _ _=>rfl);have ucx:Def K mg "pass_of" bM pX:=xf3 X G a45 (λ_ _ _ _ _ _ _ _ _=>rfl);have ucy:Def K mg "_law_feed" aB pY:=xf2 X G a46 (λ_ _ _ _ _ _ _ _=>rfl);have ucz:Def K mg "_law_draw" aC pZ:=xf2 X G a47 (λ_ _ _ _ _ _ _ _=>rfl);have ucA:Def K mg "_law_steep" vB qa:=xf2 X G a48 (λ_ _ _ _ _ _ _ _=>rfl);have ucB:Def K mg "_law_span" aD pF:=xf1 X G a49 (λ_ _ _ _ _ _ _=>rfl);have ucC:Def K mg "_law_pass" aE qb:=xf5 X G a50 (λ_ _ _ _ _ _ _ _ _ _ _=>rfl);have ucD:Def K mg "_law_due" bN pF:=xf1 X G a51 (λ_ _ _ _ _ _ _=>rfl);have ucE:Def K mg "_law_first" vC pN:=xf1 X G a52 (λ_ _ _ _ _ _ _=>rfl);have ucF:Def K mg "law" eO qc:=xf1 X G a53 (λ_ _ _ _ _ _ _=>rfl);have uar:=Jz X G uaS;have uas:=Jz X G uaT;have uat:=Jz X G uaU;have uau:=Jz X G uaV;have uaG:=Jz X G uaW;have uab:=IC X G uaX;have uaf:=IC X G uaY;have uad:=IC X G uaZ;have uai:=IC X G ua0;have uak:=IC X G ua1;have uaa:=IC X G ua2;have uam:=IC X G ua3;have uac:=IC X G ua4;have uan:=IC X G ua5;have uae:=IC X G ua6;have uao:=IC X G ua7;have uaQ:=IC X G ua8;have uaq:=IC X G ua9;have uaR:=IC X G uba;have uaK:=Jz X G ubb;have uaM:=Jz X G ubc;have e:=hfa.symm.trans (Jz X G a53.1);cases e;have F0:=oY (st:=eO) a53.2.1 a53.2.2.1 a53.2.2.2;refine⟨Jl "law" "law" (ji eO) (yo eO) (zh eO) .none kV53 dc53 pm53 an53 cd53 ct53,λs v=>.of_eq rfl,λbase _ _=>?_⟩;have H0:=DD (P:=l.prog) (w:=w) (base:=base) (k:=0) ucy uab uaQ;have H1:=CO (P:=l.prog) (w:=w) (base:=base) (k:=0) ucz;have H2:=CN (P:=l.prog) (w:=w) (base:=base) (k:=0) ubY uab ⟨_,uar⟩ ⟨_,uas⟩;have H3:=CL (P:=l.prog) (w:=w) (base:=base) (k:=0) ubP uab;have H4:=CP (P:=l.prog) (w:=w) (base:=base) (k:=0) ub2;have H5:=Fq (P:=l.prog) (w:=w) (base:=base) (k:=0) ub3;have H6:=wW (P:=l.prog) (w:=w) (base:=base) (k:=0) ub6;have H7:=rZ (P:=l.prog) (w:=w) (base:=base) (k:=0) ubV;have H8:=FV (P:=l.prog) (w:=w) (base:=base) (k:=0) ucr uac uai;have H9:=sD (P:=l.prog) (w:=w) (base:=base) (k:=0) ucn uab;have H10:=BI (P:=l.prog) (w:=w) (base:=base) (k:=0) ucB uaf uad;have H11:=BJ (P:=l.prog) (w:=w) (base:=base) (k:=0) ucC uaa;have H12:=xm (P:=l.prog) (w:=w) (base:=base) (k:=0) ucE;have H13:=BM (k:=1) ucA uaa H1.m;have H14:=wR (k:=1) ubZ uaf uad ⟨_,uat⟩ ⟨_,uau⟩ H2.m;have H15:=wU (k:=1) ubQ uaa H3.m;have H16:=Fp (k:=1) ubR H3.m;have H17:=Ft (k:=1) ub8 uam H7.m;have H18:=r9 (k:=1) ucb H4.m;have H19:=Bk (k:=1) ubT uaa H3.m;have H20:=Bm (k:=1) ucu uam H7.m;have H21:=Bn (k:=1) ucv H7.m;have H22:=Fn (k:=2) ubX uab uai H2.m H14.m;have H23:=Gy (k:=2) ubS H16.m;have H24:=CV (k:=2) ubU H16.m;have H25:=CQ (k:=2) ub4 uak H16.m H5.m;have H26:=wZ (k:=2) ucc uaK uaB H18.m;have H27:=wX (k:=2) uca H6.m H4.m H17.m;have H28:=Dl (k:=2) ucs uac H15.m;have H29:=Dm (k:=2) uct uac H19.m H20.m H21.m;have H30:=Dj (k:=3) ub0 uaf uad H22.m;have H31:=GA (k:=3) ubW H24.m;have H32:=CS (k:=3) ub5 H25.m H5.m H4.m;have H33:=AZ (k:=3) ucd uaM uaD H18.m H24.m;have H34:=xh (k:=1) ucq kl_pair uae H5.m;have H35:=Bv (k:=3) ucp uao H15.m H23.m;have H36:=r6 (k:=4) ub7 uak H32.m H6.m;have H37:=AS (k:=4) ub1 H22.m H15.m H32.m;have H38:=C8 (k:=5) uck H4.m H23.m H31.m H36.m H17.m;have H39:=AW (k:=5) ub9 H36.m H27.m H6.m H32.m;have H40:=C9 (k:=6) ucj uae uac H38.m;have H41:=C1 (k:=6) uce H26.m H24.m H39.m;have H42:=Dc (k:=7) uch uan H22.m H15.m H40.m H4.m;have H43:=C5 (k:=7) ucg uac H41.m;have H44:=Dx (k:=7) ucx uaa uad H30.m H40.m;have H45:=sv (k:=8) uci uai H42.m;have H46:=Ba (k:=8) ucf uan uae H22.m H37.m H33.m H43.m;have H47:=Dk (k:=9) uco H45.m H15.m;have H48:=Bz (k:=10) ucl uae H22.m H30.m H47.m H46.m H34.m H35.m H28.m H29.m H8.m;have H49:=DA (k:=8) ucD uaa uad uac uae H10.m H42.m H11.m H12.m;have H50:=Dv (k:=11) ucm uaa ⟨_,uaG⟩ H22.m H30.m H48.m;have H51:=BG (k:=12) ucw kl_peaks uae H22.m H50.m H9.m H44.m;exact F7 (k:=15) F0 uab uaa uad uaf uao uac uaq uaR kI kN kL kT H0.m H13.m H51.m H49.m
theorem walk {l:PySem.W.OpenLaw} {q:MI} {loose:MU} {XP:(Str->MR)->Heap->Prop} {YP:MH->Heap->Prop} {d:DefRec} {K:Params->Hj} (ts:Nj) (hn:l.most=MA 63) (hdf:d.params.defaults=[])
  (hY:∀ (w:MH) (h:Heap),YP w h->(K w.params).In h/\∀ p∈ts,h.get? p.1=MA (J3 #[])) (hB:∀ w:MH,c8 (K w.params) ts=MC)
  (F:∀ (w:MH) (mg:Str->MR) (fa:Hm) (h:Heap),(K w.params).In h->h.Ns HX mg->mg d.name=MA (.ref fa) ->
   ∃ fd:FuncData,(∀ (s:ME) (u:MD),BindsTo s fd ⟨[u],[]⟩ [("_law_script",u)])/\∀ base:Heap,(K w.params).In base->base.Ns HX mg->FnOk l.prog w (K w.params) mg base CX0 16 fa fd qc (uG (K w.params))) :
  PySem.W.WalkO q loose XP YP l.row.toRowW d [] (λf vs=>PySem.call f vs) :=
 L2.walk_T (n:=63) (k:=16) (x:="_law_script") (CX:=λ_=>CX0) (sp:=λw=>uG (K w.params)) ts hn (by decide) hdf ⟨rfl,by decide,by decide⟩ hY hB F (λ_ _ a ns hl hS=>⟨a,ns,rfl,hS,hl,λ_=>rfl⟩) λ_ _ _ _ _ z=>z
end My
namespace PySem.W.Fast
def tw10004717638236002183:Nat:=0
def tw10019187458734433048:Nat:=0
def tw1006220161937291693:Nat:=0
def tw10090335208266866169:Nat:=0
def tw10114025924324042441:Nat:=0
def tw1015628964739393461:Nat:=0
def tw10174431036937857117:Nat:=0
def tw10286550364289266339:Nat:=0
def tw10305169588132972944:Nat:=0
def tw10305411101142530892:Nat:=0
def tw10312498330319916949:Nat:=0
def tw10609740982351469824:Nat:=0
def tw10833676542419316328:Nat:=0
def tw10894828632990585109:Nat:=0
def tw10966720878767983404:Nat:=0
def tw10986534507748090706:Nat:=0
def tw10990995479287272646:Nat:=0
def tw11006492148737561201:Nat:=0
def tw11046453610000105698:Nat:=0
def tw11049981590337550143:Nat:=0
def tw11159816662908715304:Nat:=0
def tw11417473246174500983:Nat:=0
def tw11536218507616517785:Nat:=0
def tw11570108481139527323:Nat:=0
def tw11652248159274558714:Nat:=0
def tw11685202483027916847:Nat:=0
def tw11686927914467896442:Nat:=0
def tw11773718394472402910:Nat:=0
def tw11862700138332582471:Nat:=0
def tw11974370690066957510:Nat:=0
def tw12052814467085821883:Nat:=0
def tw12087022703964363228:Nat:=0
def tw12317277699487887566:Nat:=0
def tw12333666212897394355:Nat:=0
def tw12356386857548811889:Nat:=0
def tw12406017078995425559:Nat:=0
def tw12507118277630516197:Nat:=0
def tw12519980718170789883:Nat:=0
def tw1260483650594432403:Nat:=0
def tw12722544614777675312:Nat:=0
def tw12784754717917550112:Nat:=0
def tw12914024067748630644:Nat:=0
def tw12939390183373396586:Nat:=0
def tw1296502166812053202:Nat:=0
def tw13220676178157500026:Nat:=0
def tw1341429512555201478:Nat:=0
def tw13429670511845347063:Nat:=0
def tw13468217567868576232:Nat:=0
def tw13544722502130528841:Nat:=0
def tw13646826580851670167:Nat:=0
def tw13691077712376967300:Nat:=0
def tw13724268152917057699:Nat:=0
def tw13805557069926441521:Nat:=0
def tw13824720090614007545:Nat:=0
def tw13866335260651214371:Nat:=0
def tw13936233762410314268:Nat:=0
def tw13995675887665584794:Nat:=0
def tw1401296287334900782:Nat:=0
def tw14046962909156241694:Nat:=0
def tw14103691594769346321:Nat:=0
def tw14347683695966326160:Nat:=0
def tw14665087778473097975:Nat:=0
def tw14696970914053702019:Nat:=0
def tw14714087048505699241:Nat:=0
def tw14763291890549217480:Nat:=0
def tw14800387630275992201:Nat:=0
def tw14862302439216796523:Nat:=0
def tw14864997238366501147:Nat:=0
def tw14957189742135475840:Nat:=0
def tw15009548675566872779:Nat:=0
def tw15036426676684942002:Nat:=0
def tw15075008577348652419:Nat:=0
def tw15091790121055280895:Nat:=0
def tw1511906803022219014:Nat:=0
def tw15212515583521960135:Nat:=0
def tw15296080818684336218:Nat:=0
def tw15363668422390723266:Nat:=0
def tw15590902961311016195:Nat:=0
def tw15661078317048879218:Nat:=0
def tw15683251082884771609:Nat:=0
def tw15711212373576334160:Nat:=0
def tw15731563534863527796:Nat:=0
def tw15743510359930846002:Nat:=0
def tw15850603944409321958:Nat:=0
def tw15858510269520121040:Nat:=0
def tw16018552696189954190:Nat:=0
def tw16044840271851565828:Nat:=0
def tw16068538570093346910:Nat:=0
def tw16086418488684032237:Nat:=0
def tw16194670768325369739:Nat:=0
def tw16202704174176809331:Nat:=0
def tw16395545473566964828:Nat:=0
def tw16505285257216411904:Nat:=0
def tw16700604741406439377:Nat:=0
def tw16773735214084137110:Nat:=0
def tw16806754322124356283:Nat:=0
def tw16950119763145215018:Nat:=0
def tw1707810964106835687:Nat:=0
def tw17115840097381552477:Nat:=0
def tw17125049320075245030:Nat:=0
def tw17288668405194519735:Nat:=0
def tw17361259046998509002:Nat:=0
def tw17383156724836676122:Nat:=0
def tw17392703151024115219:Nat:=0
def tw1740223095117411771:Nat:=0
def tw17475693916832154220:Nat:=0
def tw17498391764297377494:Nat:=0
def tw17546465924874751708:Nat:=0
def tw17581939066371760441:Nat:=0
def tw17608181219385957610:Nat:=0
def tw17625851067291531680:Nat:=0
def tw1762638855104737099:Nat:=0
def tw17646350432091816738:Nat:=0
def tw17650266824075703110:Nat:=0
def tw17785068366166191355:Nat:=0
def tw17882574514382849761:Nat:=0
def tw17921367448028455971:Nat:=0
def tw18023316086889861556:Nat:=0
def tw18027167550319783979:Nat:=0
def tw18081026804966944867:Nat:=0
def tw18118075212673125835:Nat:=0
def tw18215870287299244197:Nat:=0
def tw18255751045837263359:Nat:=0
def tw18363751439470914517:Nat:=0
def tw18372725727428124711:Nat:=0
def tw18401012369210233496:Nat:=0
def tw18441243128269436837:Nat:=0
def tw1893517588037347276:Nat:=0
def tw2083249208606038203:Nat:=0
def tw2139020396721576997:Nat:=0
def tw2160371299494194255:Nat:=0
def tw2439919955480484617:Nat:=0
def tw2469932421112569170:Nat:=0
def tw2670321010516874970:Nat:=0
def tw2712932423483127425:Nat:=0
def tw2724613818484035079:Nat:=0
def tw2732177855896466163:Nat:=0
def tw2736058598608889937:Nat:=0
def tw2736782761004644123:Nat:=0
def tw2841198422038580274:Nat:=0
def tw2842655614538162499:Nat:=0
def tw2860988141003294555:Nat:=0
def tw2941552368875539585:Nat:=0
def tw3081587452581570252:Nat:=0
def tw3231138936525288377:Nat:=0
def tw3259827606268626550:Nat:=0
def tw3455615122634098927:Nat:=0
def tw3485716522805372890:Nat:=0
def tw3511509259694521063:Nat:=0
def tw3526319193301908860:Nat:=0
def tw3533662238958666862:Nat:=0
def tw3583048502872480661:Nat:=0
def tw3629109666002936873:Nat:=0
def tw3630831951221642838:Nat:=0
def tw3742626990971357887:Nat:=0
def tw3950544565674051910:Nat:=0
def tw4130395905188828080:Nat:=0
def tw4152393572702476377:Nat:=0
def tw4213619964072800679:Nat:=0
def tw4220741408880865897:Nat:=0
def tw4245397606726340402:Nat:=0
def tw4393915340088696771:Nat:=0
def tw4420295337819002037:Nat:=0
def tw4450591142198027146:Nat:=0
def tw4501409792689794344:Nat:=0
def tw4514252351761889499:Nat:=0
def tw464196634190754539:Nat:=0
def tw4654426457401585166:Nat:=0
def tw4687413318538793820:Nat:=0
def tw4732373260369373212:Nat:=0
def tw4744260255798436199:Nat:=0
def tw481244358170878523:Nat:=0
def tw4875553323275042790:Nat:=0
def tw4932413324134032006:Nat:=0
def tw4941127619314592419:Nat:=0
def tw4952985389305000580:Nat:=0
def tw4978499066228940297:Nat:=0
def tw5032804832145004210:Nat:=0
def tw5069792022843622828:Nat:=0
def tw5079533857692827908:Nat:=0
def tw5221921040925395275:Nat:=0
def tw5255089937454890578:Nat:=0
def tw5307674928459494076:Nat:=0
def tw5373284786850846652:Nat:=0
def tw5454325190440634513:Nat:=0
def tw5582273627452803793:Nat:=0
def tw5583461478106221445:Nat:=0
def tw5830950830015652902:Nat:=0
def tw585017327662039688:Nat:=0
def tw6078936982947160717:Nat:=0
def tw6185148052416303842:Nat:=0
def tw6186687229065686496:Nat:=0
def tw6239034805483217969:Nat:=0
def tw6244571828040799932:Nat:=0
def tw6259104658858377463:Nat:=0
def tw6268454626618572049:Nat:=0
def tw6292148821110868769:Nat:=0
def tw6533588967468358739:Nat:=0
def tw6542638256808029867:Nat:=0
def tw6765048220842108048:Nat:=0
def tw6845631019493247312:Nat:=0
def tw6971769558422562007:Nat:=0
def tw7004812015316126890:Nat:=0
def tw705632682107027141:Nat:=0
def tw7182425882756433010:Nat:=0
def tw7214892377440517216:Nat:=0
def tw7283591861829378993:Nat:=0
def tw7374942471652668058:Nat:=0
def tw7385061045466554154:Nat:=0
def tw7480129217540153616:Nat:=0
def tw7499624396264173609:Nat:=0
def tw7646812345345323972:Nat:=0
def tw7665002004244916861:Nat:=0
def tw7678923583803076308:Nat:=0
def tw7891242752785187306:Nat:=0
def tw7902698070301243822:Nat:=0
def tw7930134190794873828:Nat:=0
def tw8014364832983130713:Nat:=0
def tw8048747147269886028:Nat:=0
def tw8063260565812298626:Nat:=0
def tw8068094713368603314:Nat:=0
def tw8073084258937827184:Nat:=0
def tw8084969284711388639:Nat:=0
def tw8085550676432182968:Nat:=0
def tw8119938100985785454:Nat:=0
def tw8190600584420374215:Nat:=0
def tw8203365354629273068:Nat:=0
def tw8276913511199070686:Nat:=0
def tw8284047706723736375:Nat:=0
def tw8456439439092825405:Nat:=0
def tw846952826579731679:Nat:=0
def tw847993555049277407:Nat:=0
def tw8568287491171798584:Nat:=0
def tw8768600448592261947:Nat:=0
def tw8796182715924981036:Nat:=0
def tw8840964122115415866:Nat:=0
def tw8881570251410333429:Nat:=0
def tw8968001364446284460:Nat:=0
def tw9000954514653868120:Nat:=0
def tw9083807683378099671:Nat:=0
def tw920085657528223852:Nat:=0
def tw9391250323079715130:Nat:=0
def tw9427288371743188891:Nat:=0
def tw9470055087612694674:Nat:=0
def tw9471058278113795423:Nat:=0
def tw9530998656993940130:Nat:=0
def tw9541485069531081856:Nat:=0
def tw9737973508221171221:Nat:=0
def tw976922240775341921:Nat:=0
def tw9791084544056854814:Nat:=0
def tw9870833910556366536:Nat:=0
def tw9960207743926288149:Nat:=0
end PySem.W.Fast
open PySem PySem.W PyProof.Rows
set_option maxRecDepth 100000 in
set_option maxHeartbeats 0 in
theorem PySem.Challenge.cw_heightrings_k43_peaks_and_passes_holds : PySem.Challenge.rw_heightrings_k43_peaks_and_passes.Holds := by
 w_on;o_law;k_head;(case hw=>w_witness2)
 k_fill
 refine My.walk (l:=PySem.Challenge.rw_heightrings_k43_peaks_and_passes) [(299,L2.lamQ "pair_beside"),(331,L2.lamQ "peaks")] rfl rfl (λw h Y=>⟨by first | exact PySem.W.kIn_of Y | exact PySem.W.km_in_of Y,λp hp=>PySem.W.km_tabs_of Y p.1 (Jx (f:=LD) hp)⟩) (λw=>by kernel_rfl) ?F
 case F =>
  intro w mg fa h KX G hmg
  refine' My.all_mk KX G hmg ?a1 ?a2 ?a3 ?a4 ?a5 ?a6 ?a7 ?a8 ?a9 ?a10 ?a11 ?a12 ?a13 ?a14 ?a15 ?a16 ?a17 ?a18 ?a19 ?a20 ?a21 ?a22 ?a23 ?a24 ?a25 ?a26 ?a27 ?a28 ?a29 ?a30 ?a31 ?a32 ?a33 ?a34 ?a35 ?a36 ?a37 ?a38 ?a39 ?a40 ?a41 ?a42 ?a43 ?a44 ?a45 ?a46 ?a47 ?a48 ?a49 ?a50 ?a51 ?a52 ?a53 ?uaS ?uaT ?uaU ?uaV ?uaW ?uaX ?uaY ?uaZ ?ua0 ?ua1 ?ua2 ?ua3 ?ua4 ?ua5 ?ua6 ?ua7 ?ua8 ?ua9 ?uba ?ubb ?ubc ?uaB ?uaD ?kl_pair ?kl_peaks ?kI ?kN ?kL ?kT
  (case a1=>refine⟨?_,?_,?_,?_⟩ <;> k_is)
  (case a2=>refine⟨?_,?_,?_,?_⟩ <;> k_is)
  (case a3=>refine⟨?_,?_,?_,?_⟩ <;> k_is)
  (case a4=>refine⟨?_,?_,?_,?_⟩ <;> k_is)
  (case a5=>refine⟨?_,?_,?_,?_⟩ <;> k_is)
  (case a6=>refine⟨?_,?_,?_,?_⟩ <;> k_is)
  (case a7=>refine⟨?_,?_,?_,?_⟩ <;> k_is)
  (case a8=>refine⟨?_,?_,?_,?_⟩ <;> k_is)
  (case a9=>refine⟨?_,?_,?_,?_⟩ <;> k_is)
  (case a10=>refine⟨?_,?_,?_,?_⟩ <;> k_is)
  (case a11=>refine⟨?_,?_,?_,?_⟩ <;> k_is)
  (case a12=>refine⟨?_,?_,?_,?_⟩ <;> k_is)
  (case a13=>refine⟨?_,?_,?_,?_⟩ <;> k_is)
  (case a14=>refine⟨?_,?_,?_,?_⟩ <;> k_is)
  (case a15=>refine⟨?_,?_,?_,?_⟩ <;> k_is)
  (case a16=>refine⟨?_,?_,?_,?_⟩ <;> k_is)
  (case a17=>refine⟨?_,?_,?_,?_⟩ <;> k_is)
  (case a18=>refine⟨?_,?_,?_,?_⟩ <;> k_is)
  (case a19=>refine⟨?_,?_,?_,?_⟩ <;> k_is)
  (case a20=>refine⟨?_,?_,?_,?_⟩ <;> k_is)
  (case a21=>refine⟨?_,?_,?_,?_⟩ <;> k_is)
  (case a22=>refine⟨?_,?_,?_,?_⟩ <;> k_is)
  (case a23=>refine⟨?_,?_,?_,?_⟩ <;> k_is)
  (case a24=>refine⟨?_,?_,?_,?_⟩ <;> k_is)
  (case a25=>refine⟨?_,?_,?_,?_⟩ <;> k_is)
  (case a26=>refine⟨?_,?_,?_,?_⟩ <;> k_is)
  (case a27=>refine⟨?_,?_,?_,?_⟩ <;> k_is)
  (case a28=>refine⟨?_,?_,?_,?_⟩ <;> k_is)
  (case a29=>refine⟨?_,?_,?_,?_⟩ <;> k_is)
  (case a30=>refine⟨?_,?_,?_,?_⟩ <;> k_is)
  (case a31=>refine⟨?_,?_,?_,?_⟩ <;> k_is)
  (case a32=>refine⟨?_,?_,?_,?_⟩ <;> k_is)
  (case a33=>refine⟨?_,?_,?_,?_⟩ <;> k_is)
  (case a34=>refine⟨?_,?_,?_,?_⟩ <;> k_is)
  (case a35=>refine⟨?_,?_,?_,?_⟩ <;> k_is)
  (case a36=>refine⟨?_,?_,?_,?_⟩ <;> k_is)
  (case a37=>refine⟨?_,?_,?_,?_⟩ <;> k_is)
  (case a38=>refine⟨?_,?_,?_,?_⟩ <;> k_is)
  (case a39=>refine⟨?_,?_,?_,?_⟩ <;> k_is)
  (case a40=>refine⟨?_,?_,?_,?_⟩ <;> k_is)
  (case a41=>refine⟨?_,?_,?_,?_⟩ <;> k_is)
  (case a42=>refine⟨?_,?_,?_,?_⟩ <;> k_is)
  (case a43=>refine⟨?_,?_,?_,?_⟩ <;> k_is)
  (case a44=>refine⟨?_,?_,?_,?_⟩ <;> k_is)
  (case a45=>refine⟨?_,?_,?_,?_⟩ <;> k_is)
  (case a46=>refine⟨?_,?_,?_,?_⟩ <;> k_is)
  (case a47=>refine⟨?_,?_,?_,?_⟩ <;> k_is)
  (case a48=>refine⟨?_,?_,?_,?_⟩ <;> k_is)
  (case a49=>refine⟨?_,?_,?_,?_⟩ <;> k_is)
  (case a50=>refine⟨?_,?_,?_,?_⟩ <;> k_is)
  (case a51=>refine⟨?_,?_,?_,?_⟩ <;> k_is)
  (case a52=>refine⟨?_,?_,?_,?_⟩ <;> k_is)
  (case a53=>refine⟨?_,?_,?_,?_⟩ <;> k_is)
  (case uaS=>k_is)
  (case uaT=>k_is)
  (case uaU=>k_is)
  (case uaV=>k_is)
  (case uaW=>k_is)
  (case uaX=>k_is)
  (case uaY=>k_is)
  (case uaZ=>k_is)
  (case ua0=>k_is)
  (case ua1=>k_is)
  (case ua2=>k_is)
  (case ua3=>k_is)
  (case ua4=>k_is)
  (case ua5=>k_is)
  (case ua6=>k_is)
  (case ua7=>k_is)
  (case ua8=>k_is)
  (case ua9=>k_is)
  (case uba=>k_is)
  (case ubb=>k_is)
  (case ubc=>k_is)
  (case uaB=>kernel_rfl)
  (case uaD=>kernel_rfl)
  (case kl_pair=>kernel_rfl)
  (case kl_peaks=>kernel_rfl)
  (case kI=>kernel_rfl)
  (case kN=>kernel_rfl)
  (case kL=>kernel_rfl)
  (case kT=>kernel_rfl)
end
