import PyProof.Rows.All
import Wide.All
import OpenK.AllK
import Wide.FinOn
import Lean
import PyProof.EqAt
import PyProof.EqKinds
import PyProof.TupleCall
import KE.KTryMore
import PyProof.ExcArgs
import PyProof.ConsumeWalk
import PyProof.P3Eq
import KE.KRevIter
import PyProof.ListRange
import PyProof.Rows.SumAny
import KE.KSortTup
import PyProof.SetScanFacts
import PyProof.TupleKey
import PyProof.DictRoadsH
import PyProof.SetRoads
import KE.KTabLook
import PyProof.Rows.ListMul
import PyProof.InstStoreFacts
import PyProof.Rows.SetFrom
import PyProof.AutoListH
import PyProof.StrCalls2
import PyProof.MeetsSeq
import PyProof.DictCompW
import KE.KSortKey
import PyProof.SliceStr2
import PyProof.StrWalks
import PyProof.StrOps2
import PyProof.StrLawsIdx
import PyProof.StrLawsTight
import PyProof.StrLawsChain
import PyProof.Rows.StrSplitCount
import KE.KIntText
import PyProof.MaxThree
import PySem.Challenge.RW_heightrings_k64_whole_least_of_few
open List renaming getD_eq_getElem?_getD → ad4,length_map → ad5,getElem?_eq_getElem → ad7,getElem?_append_left → ad8,getElem?_eq_some_iff → ad9,mem_cons_of_mem → aeb,getElem?_append_right → aec,getElem?_map → aee,size_toArray → aeh,mem_append_right → aei,mem_cons → aek,length_append → ael,mem_of_getElem? → aem,reverse_cons → aen,mem_cons_self → aep,length_reverse → aeq,lookup_cons → aer,length_cons → aew,mem_singleton → aey,mem_append → aeA,getElem?_set_self → aeD,map_append → aeE,getElem?_eq_none → aeG,length_take → aeH,getElem?_take_of_lt → aeK,length_range → aeN,mem_range → aeP,mem_append_left → aeR,getElem?_set_ne → aeS,getElem?_range → aeX,getElem?_replicate → ae0,all_eq_true → ae2,range → ae5,nodup_cons → ae9,length_set → afa,replicate → afd,mem_filterMap → afh,mem_map → afm,length_replicate → afn,mem_reverse → afp,reverse_reverse → afr,mem_filter → afs,filterMap_cons → afu,reverse_append → afv,take_add_one → afI,take_length → afL,append_nil → afP,of_mem_zip → afQ,length_singleton → afT,getElem?_reverse → afU,getElem_of_mem → af3,map_cons → af4,map_map → af7
open PySem.W renaming Frag → ad6,codeIn → aet,codeHdIn → aev,keepIn → aex,fnOf → aeB,mg_none_of → aeI,nsIn → aeT,tabObj → aeY,findIn → aeZ,cellsFrom_some → ae7,methodObj → afG,specialIn → afH,Frag → afO,kla_obj → afR,codeHd_of_K → af1,mg_of → af5
open PySem.Heap renaming get?_push_of_some → aea,lt_size → aed,get?_push_size → aeo,get?_update_other → afk,SameBut → afw,size_push → afA,get?_update_self → afS
open Bool renaming false_ne_true → aef,not_true → afb,and_eq_true → afq
open Nat renaming lt_of_lt_of_le → aeg,le_refl → aej,ne_of_lt → aes,le_of_ble_eq_true → aez,le_trans → aeC,lt_irrefl → aeJ,lt_succ_of_lt → aeM,le_of_lt → aeQ,zero_lt_succ → ae1,zero_le → ae4,sub_self → ae8,pow_le_pow_right → afe,le_of_succ_le → afl,not_lt_zero → aft,ne_of_gt → afx,lt_succ_self → afK,le_of_eq → af6,pow_succ → af8
open Int renaming toNat_natCast → aeu,emod_lt_of_pos → afi,natAbs_mul → afC,toNat → afY
open PySem.PassesOwn renaming never → aeF
open PySem renaming boot_len → aeL,mem_of_lookup → aeW
open PyProof.Rows renaming callWith_type1 → aeO
open PySem.F renaming slot_list_append → aeU,type_list_append → aeV,plainAttrs_list → ae3,args_list_append_2 → afW,entry_list_append → af0
open False renaming elim → ae6
open PySem.Builtin.List renaming listExtendWith → afc,listLengthHint → afy,listSameRef → afJ,listItems → afM
open PySem.Builtin.Int renaming intBits → aff,intTooBig → afV
open Option renaming isSome_iff_exists → afg,isNone_iff_eq_none → afF
open Ne renaming symm → afj
open PySem.Obj renaming mapSeq → afo
open PySem.Calls renaming Name_function_global → afz
open PySem.PyData renaming eqv → afB
open Array renaming getElem?_eq_getElem → afD,length_toList → afZ,toList_append → af2
open PySem.Builtin.SmallTypes renaming nextOf → afE
open Classical renaming epsilon_spec → afN
open PySem.SeqAt renaming eqv_refl → afX
set_option Elab.async false
set_option linter.all false
set_option maxRecDepth 100000
set_option maxHeartbeats 4000000
section
namespace L2
open PySem PySem.Spec PyProof.Rows
noncomputable abbrev Key:=Sum Int Str
noncomputable def ab5:Key->Value->Bool
 | .inl k,v=>Value.isInt k v
 | .inr x,v=>Value.isStrOf x v
noncomputable def adR (w:World):Key->Int
 | .inl k=>hashInt k
 | .inr x=>hashStr w x
theorem zD:∀ {k:Key} {v:Value},ab5 k v=true->(∃ i t,k=Sum.inl i/\v=Value.int i t) \/ (∃ x t,k=Sum.inr x/\v=Value.str x t)
 | .inl i,v,h=>by
  obtain⟨t,e⟩:=Value.isInt_shape (k:=i) (v:=v) h
  exact .inl ⟨i,t,rfl,e⟩
 | .inr x,v,h=>by
  obtain⟨t,e⟩:=Value.isStrOf_shape (x:=x) (v:=v) h
  exact .inr ⟨x,t,rfl,e⟩
theorem acz (a b:Int):decide ((Sum.inl a:Key)=Sum.inl b)=(a == b):=by
 by_cases e:a=b
 ·subst e;simp
 ·have h:¬ (Sum.inl a:Key)=Sum.inl b:=fun q=>e (Sum.inl.inj q)
  rw [decide_eq_false h]
  exact (beq_eq_false_iff_ne.mpr e).symm
theorem acA (a b:Str):decide ((Sum.inr a:Key)=Sum.inr b)=decide (a=b):=by
 by_cases e:a=b
 ·subst e;simp
 ·have h:¬ (Sum.inr a:Key)=Sum.inr b:=fun q=>e (Sum.inr.inj q)
  rw [decide_eq_false h,decide_eq_false e]
theorem acB (a:Int) (b:Str):decide ((Sum.inl a:Key)=Sum.inr b)=false:=decide_eq_false (fun q=>nomatch q)
theorem acC (a:Str) (b:Int):decide ((Sum.inr a:Key)=Sum.inl b)=false:=decide_eq_false (fun q=>nomatch q)
noncomputable def qm (prog:Program) (w:World):PySem.KeyKind prog w Key where
 is:=ab5
 hash:=adR w
 inj:=fun v a b ha hb=>by
  rcases zD ha with⟨i,t,rfl,rfl⟩ | ⟨x,t,rfl,rfl⟩
  ·rcases zD hb with⟨j,u,rfl,e⟩ | ⟨y,u,rfl,e⟩
   ·injection e with e1 _;rw [e1]
   ·exact nomatch e
  ·rcases zD hb with⟨j,u,rfl,e⟩ | ⟨y,u,rfl,e⟩
   ·exact nomatch e
   ·injection e with e1 _;rw [e1]
 byValue:=fun k v h=>by
  rcases zD h with⟨i,t,rfl,rfl⟩ | ⟨x,t,rfl,rfl⟩ <;> rfl
 pyHash:=fun hv h=>by
  rcases zD hv with⟨i,t,rfl,rfl⟩ | ⟨x,t,rfl,rfl⟩
  ·exact wpAny_pyHash_int h
  ·exact wpAny_pyHash_str h
 eqBool:=fun hu hv h=>by
  rcases zD hu with⟨i,t,rfl,rfl⟩ | ⟨x,t,rfl,rfl⟩
  ·rcases zD hv with⟨j,u,rfl,rfl⟩ | ⟨y,u,rfl,rfl⟩
   ·rw [acz] at h;exact wpAny_eqBool_int h
   ·rw [acB] at h;exact SeqAt.EqAt.int_str i t y u _ _ _ _ h
  ·rcases zD hv with⟨j,u,rfl,rfl⟩ | ⟨y,u,rfl,rfl⟩
   ·rw [acC] at h;exact SeqAt.EqAt.str_int x t j u _ _ _ _ h
   ·rw [acA] at h;exact wpAny_eqBool_str h
 «strs»:=fun k x t v h=>by
  rcases zD h with⟨i,u,rfl,e⟩ | ⟨y,u,rfl,e⟩
  ·exact nomatch e
  ·injection e with e1 _
   subst e1
   cases v <;> rfl
inductive V where
 | non | bl (b:Bool) | int (i:Int) | str (x:Str) | byt (b:Array UInt8) | flt (b:UInt64) | ref (a:Addr) | ty (n:String)
 deriving DecidableEq
noncomputable def RelV:V->Value->Prop
 | .non,u=>u=Value.none
 | .bl b,u=>u=Value.bool b
 | .int i,u=>∃ t,u=Value.int i t
 | .str x,u=>∃ t,u=Value.str x t
 | .byt b,u=>∃ t,u=Value.bytes b t
 | .flt b,u=>∃ t,u=Value.float b t
 | .ref a,u=>u=Value.ref a
 | .ty n,u=>u=Value.type n
noncomputable abbrev Vals:List V->List Value->Prop:=Paired RelV
theorem Vals.length {xs:List V} {us:List Value} (r:Vals xs us):xs.length=us.length:=Paired.length r
theorem Vals.get:∀ {xs:List V} {us:List Value} {i:Nat} {x:V},Vals xs us->xs[i]?=some x->∃ u,us[i]?=some u/\RelV x u
 | _,_,_,_,.nil,e=>by simp at e
 | _,_,0,_,.cons r _,e=>by simp at e;subst e;exact⟨_,rfl,r⟩
 | _,_,i+1,x,.cons _ t,e=>by
  obtain⟨u,h1,h2⟩:=Vals.get (i:=i) (x:=x) t (by simpa using e)
  exact⟨u,by simpa using h1,h2⟩
theorem Vals.set {x:V} {u:Value} (r:RelV x u):∀ {xs:List V} {us:List Value} (i:Nat),Vals xs us->Vals (xs.set i x) (us.set i u)
 | _,_,_,.nil=>.nil
 | _,_,0,.cons _ t=>.cons r t
 | _,_,i+1,.cons q t=>.cons q (Vals.set r i t)
theorem Vals.append:∀ {xs ys:List V} {us ws:List Value},Vals xs us->Vals ys ws->Vals (xs++ys) (us++ws)
 | _,_,_,_,.nil,s=>s
 | _,_,_,_,.cons r t,s=>.cons r (Vals.append t s)
theorem Vals.take:∀ {xs:List V} {us:List Value} (n:Nat),Vals xs us->Vals (xs.take n) (us.take n)
 | _,_,0,_=>.nil
 | _,_,_+1,.nil=>.nil
 | _,_,n+1,.cons r t=>.cons r (Vals.take n t)
theorem Vals.drop:∀ {xs:List V} {us:List Value} (n:Nat),Vals xs us->Vals (xs.drop n) (us.drop n)
 | _,_,0,r=>r
 | _,_,_+1,.nil=>.nil
 | _,_,n+1,.cons _ t=>Vals.drop n t
noncomputable def adm:Option V->Option Value->Prop
 | some v,some u=>RelV v u
 | none,none=>True
 | _,_=>False
noncomputable def KV {κ:Type}:List (κ×V)->List (κ×Value)->Prop:=Paired fun (p:κ×V) (q:κ×Value)=>p.1=q.1/\RelV p.2 q.2
noncomputable def kV:Key->V
 | .inl i=>.int i
 | .inr x=>.str x
inductive HO where
  | lst (xs:List V)
  | tup (xs:List V)
  | dK (kvs:List (Key×V)) | dT (kvs:List (List Key×V))
  | set (S:Int->Bool) (n:Nat)
  | ins (C dx:Addr) (fs:List (Str×V))
  | own (x:Addr)
  | xd (fs:List (Str×V))
  | met (f x:Addr)
  | rng (lo hi:Int)
  | frz (o:Obj) (u:HO)
  | tbl (q:Str)
  | ext (φ:Heap->Prop)
noncomputable abbrev Hp:=Addr->Option HO
noncomputable def upd (H:Hp) (a:Addr) (o:HO):Hp:=fun b=>if b=a then some o else H b
theorem zp {H:Hp} {a:Addr} {o:HO}:upd H a o a=some o:=by unfold upd;rw [if_pos rfl]
theorem zm {H:Hp} {a b:Addr} {o:HO} (h:b≠a):upd H a o b=H b:=by unfold upd;rw [if_neg h]
theorem zF {H:Hp} {a b:Addr} {o:HO} (h:H a=some o) (h':H b=none):a≠b:=by
 intro e;subst e;rw [h] at h';cases h'
section
variable (P:Program) (w:World)
noncomputable def ObjOk (H:Hp) (h:Heap) (a:Addr):HO->Prop
 | .lst xs=>xs.length<=sizeLine/\∃ (its:List Value) (n:Nat),Vals xs its/\h.get? a=some { cls:=.type "list",data:=.seq its.toArray n }
 | .tup xs=>xs.length<=sizeLine/\∃ its:List Value,Vals xs its/\IsTup h a its.toArray
 | .dK kvs=>kvs.length<=sizeLine/\(a == sysModules)=false/\∃ vs,KV kvs vs/\h.DictOf (qm P w) a vs
 | .dT kvs=>kvs.length<=sizeLine/\(a == sysModules)=false/\∃ xs:List (List Key×Addr×Value),
   Paired (fun (p:List Key×V) (q:List Key×Addr×Value)=>p.1=q.1/\H q.2.1=some (.tup (p.1.map kV))/\RelV p.2 q.2.2) kvs xs /\
   ∃ o es ep,h.get? a=some o/\o.ExactDict/\o.data=.dict es ep/\es.toList=xs.map (entryOfKey (tupleKind (qm P w)))/\(xs.map (·.1)).Nodup
 | .set S n=>h.SetOf (intKind P w) a S n
 | .ins C dx fs=>H dx=some (.own a)/\fs.length<=1000/\dx≠a/\h.get? a=some (PySem.W.instObj C dx) /\
   ∃ mA,h.Ns1 dx mA/\(∀ f,adm (fs.lookup f) (mA f))/\PySem.Within mA (fs.map (·.1))
 | .own _=>∃ o,h.get? a=some o
 | .xd fs=>∃ mA,h.Ns1 a mA/\∀ f,adm (fs.lookup f) (mA f)
 | .rng lo hi=>∃ t u v,h.get? a=some { cls:=.type "range",data:=.fields #[.int lo t,.int hi u,.int 1 v] }
 | .frz o u=>h.get? a=some o/\ObjOk H h a u
 | .tbl q=>∃ ps,h.get? a=some (aeY ps)/\TriplesOk ps.toList/\∀ pos cv,codeAmong pos ps.toList=some cv->∃ c,cv=.ref c/\H c=some (.own a)/\h.CodeRec (.ref c) q
 | .met f x=>h.get? a=some (afG (.ref f) (.ref x))
 | .ext φ=>φ h/\(∃ o,h.get? a=some o)/\∀ h1 h2:Heap,φ h1->(∀ o,h1.get? a=some o->h2.get? a=some o)->φ h2
noncomputable def HOk (H:Hp) (h:Heap):Prop:=∀ a o,H a=some o->ObjOk P w H h a o
end
section
variable {P:Program} {w:World} {H H':Hp} {h h':Heap} {a:Addr} {o:HO}
theorem ObjOk.lt (x:ObjOk P w H h a o):a<h.objs.size:=by
 cases o with
 | lst xs=>obtain⟨_,_,_,_,e⟩:=x;exact aed e
 | tup xs=>obtain⟨_,_,_,p⟩:=x;exact p.lt
 | dK kvs=>obtain⟨_,_,_,_,o,_,_,e,_⟩:=x;exact aed e
 | dT kvs=>obtain⟨_,_,_,_,o,_,_,e,_⟩:=x;exact aed e
 | set S n=>obtain⟨o,_,_,_,e,_⟩:=x;exact aed e
 | ins C dx fs=>obtain⟨_,_,_,e,_⟩:=x;exact aed e
 | own y=>obtain⟨_,e⟩:=x;exact aed e
 | xd fs=>obtain⟨_,⟨_,_,_,e,_⟩,_⟩:=x;exact aed e
 | rng lo hi=>obtain⟨_,_,_,e⟩:=x;exact aed e
 | frz ob u=>obtain⟨e,_⟩:=x;exact aed e
 | tbl q=>obtain⟨_,e,_⟩:=x;exact aed e
 | met f y=>exact aed (show h.get? a=some _ from x)
 | ext φ=>obtain⟨_,⟨_,e⟩,_⟩:=x;exact aed e
theorem Paired.mapP {α β:Type} {F G:α->β->Prop}:∀ {l₁:List α} {l₂:List β},Paired F l₁ l₂->(∀ a b,F a b->G a b)->Paired G l₁ l₂
 | _,_,.nil,_=>.nil
 | _,_,.cons r t,f=>.cons (f _ _ r) (Paired.mapP t f)
theorem ObjOk.stay (x:ObjOk P w H h a o) (k:∀ b u,(b=a \/ H b=some (.own a))->h.get? b=some u->h'.get? b=some u)
  (ho:∀ b,H b=some (.own a)->H' b=some (.own a)) (ht:∀ b xs,H b=some (.tup xs)->H' b=some (.tup xs)):ObjOk P w H' h' a o:=by
 induction o with
 | lst xs=>obtain⟨z,its,n,r,e⟩:=x;exact⟨z,its,n,r,k _ _ (.inl rfl) e⟩
 | tup xs=>obtain⟨z,its,r,ob,e,c⟩:=x;exact⟨z,its,r,ob,k _ _ (.inl rfl) e,c⟩
 | dK kvs=>obtain⟨z,y,vs,r,ob,es,ep,e,c⟩:=x;exact⟨z,y,vs,r,ob,es,ep,k _ _ (.inl rfl) e,c⟩
 | dT kvs =>
  obtain⟨z,y,xs,r,ob,es,ep,e,c⟩:=x
  exact⟨z,y,xs,Paired.mapP r fun p q z=>⟨z.1,ht _ _ z.2.1,z.2.2⟩,ob,es,ep,k _ _ (.inl rfl) e,c⟩
 | set S n=>obtain⟨ob,es,ep,t,e,c⟩:=x;exact⟨ob,es,ep,t,k _ _ (.inl rfl) e,c⟩
 | ins C dx fs =>
  obtain⟨d,z,ne,e,mA,⟨od,es,ep,e2,c⟩,r⟩:=x
  exact⟨ho _ d,z,ne,k _ _ (.inl rfl) e,mA,⟨od,es,ep,k _ _ (.inr d) e2,c⟩,r⟩
 | own y=>obtain⟨ob,e⟩:=x;exact⟨ob,k _ _ (.inl rfl) e⟩
 | xd fs=>obtain⟨mA,⟨od,es,ep,e,c⟩,r⟩:=x;exact⟨mA,⟨od,es,ep,k _ _ (.inl rfl) e,c⟩,r⟩
 | rng lo hi=>obtain⟨t,u,v,e⟩:=x;exact⟨t,u,v,k _ _ (.inl rfl) e⟩
 | frz ob u ih=>obtain⟨e,q⟩:=x;exact⟨k _ _ (.inl rfl) e,ih q⟩
 | tbl q =>
  obtain⟨ps,e,tr,r⟩:=x
  refine⟨ps,k _ _ (.inl rfl) e,tr,fun pos cv z=>?_⟩
  obtain⟨c,ec,hc,c2,oc,vs,tq,e2,e3,e4,e5⟩:=r pos cv z
  cases e2
  exact⟨c,ec,ho _ hc,c,oc,vs,tq,rfl,k _ _ (.inr hc) e3,e4,e5⟩
 | met f y =>
  have e:h.get? a=some (afG (.ref f) (.ref y)):=x
  show h'.get? a=some (afG (.ref f) (.ref y))
  exact k a _ (.inl rfl) e
 | ext φ=>obtain⟨p,⟨o,e⟩,st⟩:=x;exact⟨st _ _ p fun o q=>k _ _ (.inl rfl) q,⟨o,k _ _ (.inl rfl) e⟩,st⟩
theorem HOk.lt (x:HOk P w H h) (e:H a=some o):a<h.objs.size:=(x a o e).lt
theorem HOk.fresh (x:HOk P w H h) (e:h.objs.size<=a):H a=none:=by
 cases q:H a with
 | none=>rfl
 | some u=>exact absurd (aeg (x.lt q) e) (aeJ _)
theorem HOk.kept (x:HOk P w H h) (k:∀ b u,h.get? b=some u->h'.get? b=some u):HOk P w H h':=fun a o e =>
 (x a o e).stay (fun b u _ q=>k b u q) (fun _ q=>q) fun _ _ q=>q
theorem HOk.laid (x:HOk P w H h) (k:∀ b u,h.get? b=some u->h'.get? b=some u) (hp:h.objs.size<=a) (new:ObjOk P w (upd H a o) h' a o):HOk P w (upd H a o) h':=fun b u e=>by
 have hn:=x.fresh hp
 by_cases hb:b=a
 ·subst hb;rw [zp] at e;cases e;exact new
 ·rw [zm hb] at e
  exact (x b u e).stay (fun c v _ q=>k c v q) (fun c q=>by rw [zm (zF q hn)];exact q) fun c xs q=>by rw [zm (zF q hn)];exact q
end
noncomputable def Rd (H:Hp) (a:Addr) (u:HO):Prop:=H a=some u \/ ∃ o,H a=some (.frz o u)
theorem Rd.ok {P:Program} {w:World} {H:Hp} {h:Heap} {a:Addr} {u:HO} (r:Rd H a u) (x:HOk P w H h):ObjOk P w H h a u:=by
 rcases r with r | ⟨o,r⟩
 ·exact x a u r
 ·obtain⟨_,q⟩:=x a _ r
  exact q
noncomputable def Mut:Option HO->Prop
 | some (.lst _)=>True
 | some (.dK _)=>True
 | some (.dT _)=>True
 | some (.set _ _)=>True
 | some (.ins _ _ _)=>True
 | some (.ext _)=>True
 | _=>False
section
variable {P:Program} {w:World} {H:Hp} {h h':Heap} {x e:Addr} {o':HO}
theorem HOk.write (ok:HOk P w H h) (mu:Mut (H x)) (he:e=x \/ H e=some (.own x)) (k:∀ b u,b≠e->h.get? b=some u->h'.get? b=some u) (heo:∃ u,h'.get? e=some u)
  (new:ObjOk P w (upd H x o') h' x o'):HOk P w (upd H x o') h':=fun b u q=>by
 have nown:∀ c y,H c=some (.own y)->c≠x:=fun c y r z=>by subst z;rw [r] at mu;exact mu
 have ntup:∀ c xs,H c=some (.tup xs)->c≠x:=fun c xs r z=>by subst z;rw [r] at mu;exact mu
 by_cases hb:b=x
 ·subst hb;rw [zp] at q;cases q;exact new
 ·rw [zm hb] at q
  by_cases hbe:b=e
  ·have q':H b=some (.own x):=by
    rcases he with z | z
    ·exact absurd (hbe.trans z) hb
    ·rw [hbe];exact z
   rw [q] at q';cases q'
   obtain⟨v,hv⟩:=heo
   exact⟨v,by rw [hbe];exact hv⟩
  ·refine (ok b u q).stay (fun c v hc r=>k c v ?_ r) (fun c r=>by rw [zm (nown c b r)];exact r) fun c xs r=>by rw [zm (ntup c xs r)];exact r
   rcases hc with rfl | hc
   ·exact hbe
   ·rintro rfl
    rcases he with z | z
    ·exact nown c b hc z
    ·rw [hc] at z;cases z;exact hb rfl
end
structure Un (fs ex:List Addr) (H H':Hp) (h h':Heap):Prop where
 keep:∀ b o,h.get? b=some o->H b=none->b∉fs->b∉ex->h'.get? b=some o
 slot:∀ b o,h.get? b=some o->H b=none->b∈fs->b∉ex->∃ sl,h'.get? b=some { o with slots:=sl }
 free:∀ b o,h.get? b=some o->H b=none->b∉ex->H' b=none
 there:∀ b o,h.get? b=some o->b∉ex->∃ o',h'.get? b=some o'
 tups:∀ b xs,H b=some (.tup xs)->H' b=some (.tup xs)
 frzs:∀ b o u,H b=some (.frz o u)->H' b=some (.frz o u)
 tbls:∀ b q,H b=some (.tbl q)->H' b=some (.tbl q)
section
variable {fs fs' ex ex':List Addr} {H H1 H2:Hp} {h h1 h2 h':Heap} {a x e:Addr} {o:HO}
theorem Un.any (u:Un fs ex H H1 h h1) {b:Addr} {ob:Obj} (q:h.get? b=some ob) (n:H b=none) (hx:b∉ex):∃ sl,h1.get? b=some { ob with slots:=sl }:=by
 by_cases hb:b∈fs
 ·exact u.slot b ob q n hb hx
 ·exact⟨ob.slots,u.keep b ob q n hb hx⟩
theorem Un.kept (k:∀ b u,h.get? b=some u->h'.get? b=some u):Un fs ex H H h h' :=
 ⟨fun b ob q _ _ _=>k b ob q,fun b ob q _ _ _=>⟨ob.slots,k b ob q⟩,fun _ _ _ n _=>n,fun b ob q _=>⟨ob,k b ob q⟩,fun _ _ q=>q,fun _ _ _ q=>q,fun _ _ q=>q⟩
theorem Un.refl:Un fs ex H H h h:=Un.kept fun _ _ q=>q
theorem Un.laid (k:∀ b u,h.get? b=some u->h'.get? b=some u) (hp:h.objs.size<=a) (hn:H a=none):Un fs ex H (upd H a o) h h' where
 keep:=fun b u q _ _ _=>k b u q
 slot:=fun b u q _ _ _=>⟨u.slots,k b u q⟩
 free:=fun b u q n _=>by rw [zm (aes (aeg (aed q) hp))];exact n
 there:=fun b u q _=>⟨u,k b u q⟩
 tups:=fun b xs q=>by rw [zm (zF q hn)];exact q
 frzs:=fun b u xs q=>by rw [zm (zF q hn)];exact q
 tbls:=fun b ps q=>by rw [zm (zF q hn)];exact q
theorem Un.write (mu:Mut (H x)) (he:e=x \/ H e=some (.own x)) (k:∀ b u,b≠e->h.get? b=some u->h'.get? b=some u) (heo:∃ u,h'.get? e=some u):Un fs ex H (upd H x o) h h':=by
 have hx:∀ b,H b=none->b≠x:=fun b n z=>by subst z;rw [n] at mu;exact mu
 have hb:∀ b,H b=none->b≠e:=fun b n z=>by
  subst z
  rcases he with r | r
  ·exact hx b n r
  ·rw [n] at r;cases r
 have hm:∀ b u,H b=some u->¬ Mut (some u)->b≠x:=fun b u q nm z=>by subst z;rw [q] at mu;exact nm mu
 refine⟨fun b u q n _ _=>k b u (hb b n) q,fun b u q n _ _=>⟨u.slots,k b u (hb b n) q⟩,fun b u q n _=>by rw [zm (hx b n)];exact n,fun b u q _=>?_,
  fun b xs q=>by rw [zm (hm b _ q fun z=>z)];exact q,fun b u xs q=>by rw [zm (hm b _ q fun z=>z)];exact q,fun b ps q=>by rw [zm (hm b _ q fun z=>z)];exact q⟩
 by_cases hbe:b=e
 ·subst hbe;exact heo
 ·exact⟨u,k b u hbe q⟩
end
noncomputable def trk (h:Heap) (H:Hp):List Addr:=(ae5 h.objs.size).filter fun a=>(H a).isSome
noncomputable def qF (h:Heap) (H:Hp):Heap:=PySem.W.hideAll h (trk h H)
theorem aaa (h:Heap) (H:Hp):(qF h H).objs.size=h.objs.size:=PySem.W.hideAll_size _ _
theorem jG {h:Heap} {H:Hp} {b:Addr} {o:Obj} (e:h.get? b=some o) (n:H b=none):(qF h H).get? b=some o :=
 PySem.W.hideAll_get _ e fun hm=>by
  have q:(H b).isSome=true:=(afs.mp hm).2
  rw [n] at q;simp at q
theorem abo {h:Heap} {H:Hp} {b:Addr} {o:Obj} (e:(qF h H).get? b=some o):h.get? b=some o/\H b=none:=by
 have e':h.get? b=some o:=PySem.W.of_hideAll (trk h H) e
 refine⟨e',?_⟩
 cases q:H b with
 | none=>rfl
 | some x =>
  have hm:b∈trk h H:=afs.mpr ⟨aeP.mpr (aed e'),by simp [q]⟩
  have z:(qF h H).get? b=none:=PySem.W.hideAll_none (trk h H) hm
  rw [z] at e;cases e
noncomputable def yO (g h:Heap) (L:Addr):List (Addr×Obj):=(ae5 h.objs.size).filterMap fun a=>if a=L \/ (g.get? a).isSome=true then none else (h.get? a).map fun o=>(a,o)
theorem jt {g h:Heap} {L a:Addr} {o:Obj} (h1:a≠L) (h2:g.get? a=none) (h3:h.get? a=some o):(a,o)∈yO g h L :=
 afh.mpr ⟨a,aeP.mpr (aed h3),by simp [h1,h2,h3]⟩
theorem jH {g h:Heap} {L:Addr} {p:Addr×Obj} (hp:p∈yO g h L):p.1≠L/\g.get? p.1=none/\h.get? p.1=some p.2:=by
 obtain⟨b,_,e⟩:=afh.mp hp
 split at e
 ·cases e
 ·rename_i hn
  cases q:h.get? b with
  | none=>rw [q] at e;simp at e
  | some u =>
   rw [q] at e
   simp only [Option.map_some,Option.some.injEq] at e
   subst e
   refine⟨fun z=>hn (.inl z),?_,q⟩
   show g.get? b=none
   cases r:g.get? b with
   | none=>rfl
   | some v=>exact (hn (.inr (by simp [r]))).elim
noncomputable def rest (g h:Heap) (L d:Addr):List (Addr×Obj):=(yO g h L).filter fun p=>decide (p.1≠d)
theorem aav {g h:Heap} {L:Addr}:News g L h (yO g h L):=fun p hp=>let⟨a,b,c⟩:=jH hp;⟨c,a,b⟩
structure Mod (K:ad6) (mg:Str->Option Value) (base:Heap):Prop where
 kin:K.In base
 glob:base.Ns mainGlobals mg
 blt:∃ mb,base.Ns builtinsNs mb/\∀ x:Str,x ≠ "__name__"->mb x=bootBuiltins x
 nolimit:base.NoLimit
 bm:∃ b o,mg "__builtins__"=some (.ref b)/\b≠builtinsNs/\base.get? b=some o/\o.cls=.type "module"/\o.dict=some builtinsNs/\o.data=.plain
structure Cx where
 prog:Program
 w:World
 K:ad6
 mg:Str->Option Value
 base:Heap
 A:Around
 N:List Str
 s₀:Shared
 H₀:Hp
 env:Env
 outer:List Env
 stack:List Env
 ex:List Addr
 fn:Str->Bool
 calm:Bool
 pn:List (Addr×Obj)
 xe:Value->Shared->Prop
noncomputable def frs (l:List Env):List Addr:=l.filterMap (·.frame)
noncomputable abbrev Cx.fs (X:Cx):List Addr:=frs X.outer
noncomputable def Vis (sc:Scope) (x:Str):Prop:=sc.names.lookup x=some .local \/ sc.names.lookup x=some .cell \/ sc.names.lookup x=some .free
noncomputable def Loc (sc:Scope) (x:Str):Prop:=sc.names.lookup x=some .local \/ sc.names.lookup x=some .cell
noncomputable def Look (env:Env) (h:Heap) (m:Str->Option Value) (x:Str) (u:Value):Prop :=
 (env.kindOf x=some .local/\m x=some u) \/ ((env.kindOf x=some .cell \/ env.kindOf x=some .free)/\∃ c,env.cells.lookup x=some c/\h.IsCell c (some u))
noncomputable def lamDefs:List Str:=["least_kept","pair_beside","peaks"]
noncomputable def lamQ (q:Str):Str:=(q ++ ".<locals>.") ++ "<lambda>"
noncomputable def TabsOk (K:ad6) (H:Hp):Prop:=∀ c P q,q∈lamDefs->aev K c P=true->aet K (.ref c) q=true->H P=some (.tbl (lamQ q))
structure Cx.Ok (X:Cx):Prop where
 mod:Mod X.K X.mg X.base
 kind:X.env.scope.kind=.function
 glob:X.env.globals=mainGlobals
 blt:X.env.builtins=builtinsNs
 above:X.s₀.heap.objs.size<=X.env.locals
 inj:∀ x y c,X.env.cells.lookup x=some c->X.env.cells.lookup y=some c->x=y
 has:∀ x,(X.env.kindOf x=some .cell \/ X.env.kindOf x=some .free)->∃ c,X.env.cells.lookup x=some c
 cab:∀ x c,X.fn x=true->X.env.cells.lookup x=some c->X.s₀.heap.objs.size<=c
 hd:X.calm=true->X.A.handled=none
 frames:X.A.frames=some X.stack
 stk:X.stack=X.outer \/ (X.stack=X.env :: X.outer/\X.env.frame=some X.env.locals)
 exf:∀ b∈X.ex,b≠X.env.locals/\∀ x c,X.env.cells.lookup x=some c->c≠b
 bs:∀ b o,X.base.get? b=some o->X.s₀.heap.get? b=some o/\X.H₀ b=none
 bsz:X.base.objs.size<=X.s₀.heap.objs.size
 noex:∀ b o,X.base.get? b=some o->b∉X.ex
 exfs:∀ b∈X.ex,b∉X.fs
 funs:X.s₀.heap.FunFrames X.base X.outer
 frf:∀ b∈X.fs,X.H₀ b=none
 tabs:TabsOk X.K X.H₀
structure Inv (X:Cx) (pins:List (Addr×Obj)) (σ:List (Option V)) (H:Hp) (s:Shared):Prop where
 ok:X.Ok
 os:s.os=X.s₀.os
 bare:AllBare s.gens
 base:Un X.fs X.ex X.H₀ H X.s₀.heap s.heap
 loc:∃ m,s.heap.Ns X.env.locals m/\∀ (i:Nat) (x:Str) (v:V),X.N[i]?=some x->σ[i]?=some (some v)->Vis X.env.scope x->∃ u,RelV v u/\Look X.env s.heap m x u
 cell:∀ x c,X.env.cells.lookup x=some c->∃ v,s.heap.IsCell c v
 free:H X.env.locals=none
 freeC:∀ x c,X.env.cells.lookup x=some c->H c=none
 pin:∀ p∈X.pn++pins,s.heap.get? p.1=some p.2/\H p.1=none/\p.1≠X.env.locals/\p.1∉X.fs/\∀ v,p.2.data≠.cell v
 hok:HOk X.prog X.w H s.heap
 len:σ.length=X.N.length
section
variable {X:Cx} {pins:List (Addr×Obj)} {σ:List (Option V)} {H H':Hp} {s:Shared} {h':Heap}
theorem Cx.Ok.nofr (ok:X.Ok) {b:Addr} {o:Obj} (e:X.base.get? b=some o):b∉X.fs:=fun hb=>by
 have:=(ok.funs.mem hb).1
 rw [e] at this;cases this
theorem Inv.bs (I:Inv X pins σ H s):∀ b o,X.base.get? b=some o->s.heap.get? b=some o/\H b=none:=fun b o e =>
 ⟨I.base.keep b o (I.ok.bs b o e).1 (I.ok.bs b o e).2 (I.ok.nofr e) (I.ok.noex b o e),I.base.free b o (I.ok.bs b o e).1 (I.ok.bs b o e).2 (I.ok.noex b o e)⟩
theorem Inv.bk (I:Inv X pins σ H s):∀ b o,X.base.get? b=some o->s.heap.get? b=some o:=fun b o e=>(I.bs b o e).1
theorem Inv.mod (I:Inv X pins σ H s):Mod X.K X.mg X.base:=I.ok.mod
theorem Inv.kIn (I:Inv X pins σ H s):X.K.In s.heap:=I.ok.mod.kin.keeps I.bk
theorem Inv.nolimit (I:Inv X pins σ H s):s.heap.NoLimit:=I.ok.mod.nolimit.keeps I.bk
theorem Inv.lt (I:Inv X pins σ H s):X.env.locals<s.heap.objs.size:=let⟨_,hn,_⟩:=I.loc;hn.lt
theorem Inv.sz (I:Inv X pins σ H s):X.s₀.heap.objs.size<=s.heap.objs.size:=aeC I.ok.above (aeQ I.lt)
theorem Inv.nofs (I:Inv X pins σ H s) {a:Addr} (h:s.heap.objs.size<=a):a∉X.fs:=fun hb=>by
 obtain⟨_,o,ho,_⟩:=I.ok.funs.mem hb
 exact absurd (aeg (aed ho) (aeC I.sz h)) (aeJ _)
theorem Inv.cne (I:Inv X pins σ H s):∀ x c,X.env.cells.lookup x=some c->c≠X.env.locals:=fun x c e z=>by
 obtain⟨v,o,ho,hd⟩:=I.cell x c e
 obtain⟨m,⟨o',es,ep,ho',hd',_⟩,_⟩:=I.loc
 rw [z,ho'] at ho;cases ho;rw [hd'] at hd;cases hd
theorem Inv.funs (I:Inv X pins σ H s):s.heap.FunFrames X.base X.outer:=by
 have all:∀ (l:List Env),(∀ b∈frs l,b∈X.fs)->X.s₀.heap.FunFrames X.base l->s.heap.FunFrames X.base l:=by
  intro l
  induction l with
  | nil=>intro _ _;trivial
  | cons env r ih =>
   intro hs hl
   obtain⟨hk,⟨L,o,hf,hn,ho,hd⟩,hr⟩:=hl
   have hL:L∈X.fs:=hs L (by unfold frs;rw [afu,hf];exact aep)
   obtain⟨sl,e⟩:=I.base.slot L o ho (I.ok.frf L hL) hL fun z=>I.ok.exfs L z hL
   exact⟨hk,⟨L,_,hf,hn,e,hd⟩,ih (fun b hb=>hs b (by unfold frs;rw [afu,hf];exact aeb _ hb)) hr⟩
 exact all X.outer (fun _ hb=>hb) I.ok.funs
theorem Inv.stack (I:Inv X pins σ H s):s.heap.FunFrames X.base X.stack:=by
 rcases I.ok.stk with e | ⟨e,hf⟩
 ·rw [e];exact I.funs
 ·rw [e]
  obtain⟨m,hn,_⟩:=I.loc
  refine .cons (by rw [I.ok.kind];decide) hf hn ?_ I.funs
  exact Heap.get?_none_of_le (aeC I.ok.bsz I.ok.above)
theorem Inv.stkSub (I:Inv X pins σ H s):∀ b∈frs X.stack,b∈X.env.locals :: X.fs:=fun b hb=>by
 rcases I.ok.stk with e | ⟨e,hf⟩
 ·rw [e] at hb;exact aeb _ hb
 ·rw [e] at hb
  unfold frs at hb
  rw [afu,hf] at hb
  exact hb
theorem Inv.stkFree (I:Inv X pins σ H s):∀ b∈frs X.stack,H b=none:=fun b hb=>by
 rcases aek.mp (I.stkSub b hb) with e | hb
 ·rw [e];exact I.free
 ·obtain⟨_,o,ho,_⟩:=I.ok.funs.mem hb
  exact I.base.free b o ho (I.ok.frf b hb) fun z=>I.ok.exfs b z hb
theorem Inv.step {g':Array GenState} {t':Nat} {d':Drawn} {ch:List Addr} (I:Inv X pins σ H s)
  (hch:∀ b∈ch,(b∈X.ex \/ X.s₀.heap.objs.size<=b)/\b≠X.env.locals/\(∀ x c,X.env.cells.lookup x=some c->c≠b)/\∀ p∈X.pn++pins,p.1≠b)
  (keep:∀ b o,b≠X.env.locals->b∉X.fs->b∉ch->s.heap.get? b=some o->H b=none->h'.get? b=some o)
  (slot:∀ b o,b≠X.env.locals->b∈X.fs->b∉ch->s.heap.get? b=some o->H b=none->∃ sl,h'.get? b=some { o with slots:=sl }) (free:∀ b o,b∉ch->s.heap.get? b=some o->H b=none->H' b=none)
  (there:∀ b o,b∉ch->s.heap.get? b=some o->∃ o',h'.get? b=some o')
  (tups:∀ b xs,H b=some (.tup xs)->H' b=some (.tup xs)) (frzs:∀ b o u,H b=some (.frz o u)->H' b=some (.frz o u)) (tbls:∀ b q,H b=some (.tbl q)->H' b=some (.tbl q))
  (ns:∀ m,s.heap.Ns X.env.locals m->h'.Ns X.env.locals m) (hok:HOk X.prog X.w H' h') (hg:AllBare g') :
  Inv X pins σ H' { s with heap:=h',gens:=g',drawn:=d',toks:=t' }:=by
 have neL:∀ b o,X.s₀.heap.get? b=some o->b≠X.env.locals:=fun b o e=>aes (aeg (aed e) I.ok.above)
 have neC:∀ b o,X.s₀.heap.get? b=some o->b∉X.ex->b∉ch:=fun b o e hx hb=>by
  rcases (hch b hb).1 with z | z
  ·exact hx z
  ·exact absurd (aeg (aed e) z) (aeJ _)
 have cellK:∀ x c,X.env.cells.lookup x=some c->∀ v,s.heap.IsCell c v->h'.IsCell c v:=fun x c e v ⟨o,ho,hd⟩=>by
  have nch:c∉ch:=fun z=>(hch c z).2.2.1 x c e rfl
  by_cases hc:c∈X.fs
  ·obtain⟨sl,q⟩:=slot c o (I.cne x c e) hc nch ho (I.freeC x c e)
   exact⟨_,q,hd⟩
  ·exact⟨o,keep c o (I.cne x c e) hc nch ho (I.freeC x c e),hd⟩
 refine⟨I.ok,I.os,hg,⟨fun b o e n hb hx=>?_,fun b o e n hb hx=>?_,fun b o e n hx=>?_,fun b o e hx=>?_,fun b xs e=>tups b xs (I.base.tups b xs e),fun b o xs e=>frzs b o xs (I.base.frzs b o xs e),fun b ps e=>?_⟩,?_,fun x c e=>?_,?_,fun x c e=>?_,fun p hp=>?_,hok,I.len⟩
 ·exact keep b o (neL b o e) hb (neC b o e hx) (I.base.keep b o e n hb hx) (I.base.free b o e n hx)
 ·obtain⟨sl,e1⟩:=I.base.slot b o e n hb hx
  obtain⟨sl',e2⟩:=slot b _ (neL b o e) hb (neC b o e hx) e1 (I.base.free b o e n hx)
  exact⟨sl',e2⟩
 ·obtain⟨o',e1⟩:=I.base.there b o e hx
  exact free b o' (neC b o e hx) e1 (I.base.free b o e n hx)
 ·obtain⟨o',e1⟩:=I.base.there b o e hx
  exact there b o' (neC b o e hx) e1
 ·exact tbls b _ (I.base.tbls b _ e)
 ·obtain⟨m,hn,hl⟩:=I.loc
  refine⟨m,ns m hn,fun i x v e1 e2 e3=>?_⟩
  obtain⟨u,r,l⟩:=hl i x v e1 e2 e3
  refine⟨u,r,?_⟩
  rcases l with l | ⟨k,c,e,z⟩
  ·exact .inl l
  ·exact .inr ⟨k,c,e,cellK x c e _ z⟩
 ·obtain⟨v,z⟩:=I.cell x c e
  exact⟨v,cellK x c e v z⟩
 ·obtain⟨m,⟨o,_,_,ho,_⟩,_⟩:=I.loc
  exact free _ o (fun z=>(hch _ z).2.1 rfl) ho I.free
 ·obtain⟨v,o,ho,hd⟩:=I.cell x c e
  exact free c o (fun z=>(hch c z).2.2.1 x c e rfl) ho (I.freeC x c e)
 ·obtain⟨e,n,ne,nf,d⟩:=I.pin p hp
  have nch:p.1∉ch:=fun z=>(hch p.1 z).2.2.2 p hp rfl
  exact⟨keep p.1 p.2 ne nf nch e n,free p.1 p.2 nch e n,ne,nf,d⟩
theorem Inv.un {t':Nat} (I:Inv X pins σ H s) (u:Un X.fs [] H H' s.heap h') (hok:HOk X.prog X.w H' h'):Inv X pins σ H' { s with heap:=h',toks:=t' }:=by
 obtain⟨m,⟨o,es,ep,ho,r⟩,_⟩:=id I.loc
 obtain⟨sl,hL⟩:=u.any ho I.free (by simp)
 exact I.step (g':=s.gens) (d':=s.drawn) (ch:=[]) (fun _ z=>nomatch z) (fun b o _ hb _ e n=>u.keep b o e n hb (by simp)) (fun b o _ hb _ e n=>u.slot b o e n hb (by simp)) (fun b o _ e n=>u.free b o e n (by simp)) (fun b o _ e=>u.there b o e (by simp)) u.tups u.frzs u.tbls (fun m' hm=>by
  obtain⟨o',es',ep',ho',r'⟩:=hm
  rw [ho] at ho';cases ho'
  exact⟨_,es',ep',hL,r'⟩) hok I.bare
theorem Inv.call {g':Array GenState} {t':Nat} {d':Drawn} {ch:List Addr} (I:Inv X pins σ H s) (u:Un (frs X.stack) ch H H' s.heap h') (hok:HOk X.prog X.w H' h') (hg:AllBare g')
  (hch:∀ b∈ch,(b∈X.ex \/ X.s₀.heap.objs.size<=b)/\b≠X.env.locals/\(∀ x c,X.env.cells.lookup x=some c->c≠b)/\∀ p∈X.pn++pins,p.1≠b) :
  Inv X pins σ H' { s with heap:=h',gens:=g',drawn:=d',toks:=t' }:=by
 obtain⟨m,⟨o,es,ep,ho,r⟩,_⟩:=id I.loc
 obtain⟨sl,hL⟩:=u.any ho I.free fun z=>(hch _ z).2.1 rfl
 exact I.step (ch:=ch) hch (fun b o hL hb hc e n=>u.keep b o e n (fun z=>(aek.mp (I.stkSub b z)).elim hL hb) hc) (fun b o _ _ hc e n=>u.any e n hc) (fun b o hc e n=>u.free b o e n hc) (fun b o hc e=>u.there b o e hc) u.tups u.frzs u.tbls (fun m' hm=>by
  obtain⟨o',es',ep',ho',r'⟩:=hm
  rw [ho] at ho';cases ho'
  exact⟨_,es',ep',hL,r'⟩) hok hg
theorem Inv.turned {t':Nat} {it:Addr} (I:Inv X pins σ H s) (k:∀ b o,b≠it->s.heap.get? b=some o->h'.get? b=some o) (hn:H it=none) (hL:it≠X.env.locals)
  (h1:it∈X.ex \/ X.s₀.heap.objs.size<=it) (h2:∀ x c,X.env.cells.lookup x=some c->c≠it) (h3:∀ p∈X.pn++pins,p.1≠it):Inv X pins σ H { s with heap:=h',toks:=t' }:=by
 have nit:∀ b u,H b=some u->b≠it:=fun b u e z=>by rw [z,hn] at e;cases e
 refine I.step (g':=s.gens) (d':=s.drawn) (ch:=[it]) (fun b hb=>?_) (fun b o _ _ hc e _=>k b o (fun z=>hc (by simp [z])) e) (fun b o _ _ hc e _=>⟨o.slots,k b o (fun z=>hc (by simp [z])) e⟩) (fun _ _ _ _ n=>n)
  (fun b o hc e=>⟨o,k b o (fun z=>hc (by simp [z])) e⟩) (fun _ _ e=>e) (fun _ _ _ e=>e) (fun _ _ e=>e) (fun m hm=>?_) (fun b u e=>?_) I.bare
 ·have e:b=it:=by simpa using hb
  subst e
  exact⟨h1,hL,h2,h3⟩
 ·obtain⟨o,es,ep,ho,r⟩:=hm
  exact⟨o,es,ep,k _ o (afj hL) ho,r⟩
 ·refine (I.hok b u e).stay (fun c v hc q=>k c v ?_ q) (fun _ q=>q) fun _ _ q=>q
  rcases hc with z | z
  ·rw [z];exact nit b u e
  ·exact nit c _ z
theorem Inv.tok (I:Inv X pins σ H s) (t:Nat):Inv X pins σ H { s with toks:=t }:=I.un (h':=s.heap) (t':=t) Un.refl I.hok
theorem Inv.kept {t':Nat} (I:Inv X pins σ H s) (k:∀ b u,s.heap.get? b=some u->h'.get? b=some u):Inv X pins σ H { s with heap:=h',toks:=t' }:=I.un (Un.kept k) (I.hok.kept k)
theorem Inv.laid {a:Addr} {o:HO} {t':Nat} (I:Inv X pins σ H s) (k:∀ b u,s.heap.get? b=some u->h'.get? b=some u) (hp:s.heap.objs.size<=a) (new:ObjOk X.prog X.w (upd H a o) h' a o) :
  Inv X pins σ (upd H a o) { s with heap:=h',toks:=t' }:=I.un (Un.laid k hp (I.hok.fresh hp)) (I.hok.laid k hp new)
theorem Inv.write {x e:Addr} {o:HO} {t':Nat} (I:Inv X pins σ H s) (mu:Mut (H x)) (he:e=x \/ H e=some (.own x)) (k:∀ b u,b≠e->s.heap.get? b=some u->h'.get? b=some u) (heo:∃ u,h'.get? e=some u)
  (new:ObjOk X.prog X.w (upd H x o) h' x o):Inv X pins σ (upd H x o) { s with heap:=h',toks:=t' }:=I.un (Un.write mu he k heo) (I.hok.write mu he k heo new)
theorem Inv.pins_of {pins':List (Addr×Obj)} (I:Inv X pins σ H s) (h:∀ p∈pins',s.heap.get? p.1=some p.2/\H p.1=none/\p.1≠X.env.locals/\p.1∉X.fs/\∀ v,p.2.data≠.cell v):Inv X pins' σ H s :=
 ⟨I.ok,I.os,I.bare,I.base,I.loc,I.cell,I.free,I.freeC,fun p hp=>(aeA.mp hp).elim (fun z=>I.pin p (aeR _ z)) (h p),I.hok,I.len⟩
theorem qG {N:List Str} (hN:N.Nodup) {i j:Nat} {x:Str} (a:N[i]?=some x) (b:N[j]?=some x):i=j:=by
 obtain⟨h1,e1⟩:=ad9.mp a
 obtain⟨h2,e2⟩:=ad9.mp b
 exact (List.getElem_inj hN).mp (e1.trans e2.symm)
theorem j4 {M:Model} {A:Around} {E:Value->Shared->Prop} {i:Nat} {x:Str} {v:V} {u:Value} {Q:Unit->Shared->Prop} (I:Inv X pins σ H s) (hN:X.N.Nodup) (hi:X.N[i]?=some x) (hx:Loc X.env.scope x) (r:RelV v u)
  (h:∀ s',Inv X pins (σ.set i (some v)) H s'->(∃ a,afw a s.heap s'.heap/\(a=X.env.locals \/ X.env.cells.lookup x=some a))->Q () s') (hf:X.fn x=true \/ X.env.scope.names.lookup x=some .local:=by first | exact .inl rfl | exact .inr rfl | assumption):wpAny M A (storeName X.env x u) Q E s:=by
 obtain⟨m,hn,hl⟩:=id I.loc
 have hcls:(X.env.scope.kind == .class || (X.env.scope.kind == .module && X.env.locals != X.env.globals))=false:=by rw [I.ok.kind];rfl
 have hiσ:i<σ.length:=by rw [I.len];exact (ad9.mp hi).1
 have cne:=I.cne
 have tracked:∀ {a:Addr} {h':Heap},(∃ o,s.heap.get? a=some o/\H a=none)->afw a s.heap h'->HOk X.prog X.w H h':=fun {a h'} ha hs b ob e=>by
  obtain⟨_,_,hfree⟩:=ha
  refine (I.hok b ob e).stay (fun c w' hc q=>(hs.2 c ?_).trans q) (fun _ q=>q) fun _ _ q=>q
  rintro rfl
  rcases hc with rfl | hc
  ·rw [hfree] at e;cases e
  ·rw [hfree] at hc;cases hc
 rcases hx with hk | hk
 ·refine wpAny_storeName_local hk hn (fun h' hn' hs=>?_) hcls
  obtain⟨oL,_,_,hoL,_⟩:=id hn
  refine h _ ⟨I.ok,I.os,I.bare,⟨fun b o e n hb hx=>?_,fun b o e n hb hx=>?_,I.base.free,fun b o e hx=>?_,I.base.tups,I.base.frzs,I.base.tbls⟩,⟨_,hn',fun j y v' e1 e2 e3=>?_⟩,fun y c e=>?_,I.free,I.freeC,fun p hp=>?_,tracked ⟨oL,hoL,I.free⟩ hs,by simpa using I.len⟩ ⟨_,hs,.inl rfl⟩
  ·exact (hs.2 b (aes (aeg (aed e) I.ok.above))).trans (I.base.keep b o e n hb hx)
  ·obtain⟨sl,e1⟩:=I.base.slot b o e n hb hx
   exact⟨sl,(hs.2 b (aes (aeg (aed e) I.ok.above))).trans e1⟩
  ·obtain⟨o',e1⟩:=I.base.there b o e hx
   exact⟨o',(hs.2 b (aes (aeg (aed e) I.ok.above))).trans e1⟩
  ·by_cases hj:j=i
   ·subst hj
    rw [hi] at e1;cases e1
    rw [aeD hiσ] at e2
    cases e2
    exact⟨u,r,.inl ⟨hk,by simp⟩⟩
   ·rw [aeS (afj hj)] at e2
    obtain⟨u',r',q⟩:=hl j y v' e1 e2 e3
    refine⟨u',r',?_⟩
    rcases q with⟨k,e⟩ | ⟨k,c,e,z⟩
    ·refine .inl ⟨k,?_⟩
     have:y≠x:=fun e=>hj (qG hN e1 (e▸hi))
     simp [this,e]
    ·exact .inr ⟨k,c,e,z.sameBut hs (cne y c e)⟩
  ·obtain⟨w',z⟩:=I.cell y c e
   exact⟨w',z.sameBut hs (cne y c e)⟩
  ·obtain⟨e,n,ne,nf,d⟩:=I.pin p hp
   exact⟨(hs.2 p.1 ne).trans e,n,ne,nf,d⟩
 ·have hfn:X.fn x=true:=by
   rcases hf with z | z
   ·exact z
   ·rw [z] at hk;cases hk
  obtain⟨c,hc⟩:=I.ok.has x (.inl hk)
  obtain⟨w',z⟩:=I.cell x c hc
  refine wpAny_storeName_cell I.ok.kind hk hc z (fun h' hc' hs=>?_)
  obtain⟨oc,hoc,hocd⟩:=id z
  refine h { s with heap:=h' } ⟨I.ok,I.os,I.bare,⟨fun b o e n hb hx=>?_,fun b o e n hb hx=>?_,I.base.free,fun b o e hx=>?_,I.base.tups,I.base.frzs,I.base.tbls⟩,⟨m,hn.sameBut hs (afj (cne x c hc)),fun j y v' e1 e2 e3=>?_⟩,fun y c' e=>?_,I.free,I.freeC,fun p hp=>?_,tracked ⟨oc,hoc,I.freeC x c hc⟩ hs,by simpa using I.len⟩ ⟨c,hs,.inr hc⟩
  ·exact (hs.2 b (aes (aeg (aed e) (I.ok.cab x c hfn hc)))).trans (I.base.keep b o e n hb hx)
  ·obtain⟨sl,e1⟩:=I.base.slot b o e n hb hx
   exact⟨sl,(hs.2 b (aes (aeg (aed e) (I.ok.cab x c hfn hc)))).trans e1⟩
  ·obtain⟨o',e1⟩:=I.base.there b o e hx
   exact⟨o',(hs.2 b (aes (aeg (aed e) (I.ok.cab x c hfn hc)))).trans e1⟩
  ·by_cases hj:j=i
   ·subst hj
    rw [hi] at e1;cases e1
    rw [aeD hiσ] at e2
    cases e2
    exact⟨u,r,.inr ⟨.inl hk,c,hc,hc'⟩⟩
   ·rw [aeS (afj hj)] at e2
    obtain⟨u',r',q⟩:=hl j y v' e1 e2 e3
    refine⟨u',r',?_⟩
    rcases q with q | ⟨k,c',e,z'⟩
    ·exact .inl q
    ·refine .inr ⟨k,c',e,z'.sameBut hs ?_⟩
     rintro rfl
     exact hj (qG hN e1 (I.ok.inj _ _ _ e hc▸hi))
  ·by_cases hcc:c'=c
   ·subst hcc;exact⟨_,hc'⟩
   ·obtain⟨w2,z2⟩:=I.cell y c' e
    exact⟨w2,z2.sameBut hs hcc⟩
  ·obtain⟨e,n,ne,nf,d⟩:=I.pin p hp
   refine⟨(hs.2 p.1 ?_).trans e,n,ne,nf,d⟩
   intro q
   rw [q,hoc] at e
   have q':oc=p.2:=Option.some.inj e
   exact d w' (by rw [<-q'];exact hocd)
theorem qH {M:Model} {A:Around} {E:Value->Shared->Prop} {i:Nat} {x:Str} {v:V} {u:Value} {Q:Unit->Shared->Prop} (I:Inv X pins σ H s) (hN:X.N.Nodup) (hi:X.N[i]?=some x) (hx:Loc X.env.scope x) (r:RelV v u)
  (h:∀ s',Inv X pins (σ.set i (some v)) H s'->Q () s') (hf:X.fn x=true \/ X.env.scope.names.lookup x=some .local:=by first | exact .inl rfl | exact .inr rfl | assumption):wpAny M A (storeName X.env x u) Q E s :=
 j4 I hN hi hx r (fun s' I' _=>h s' I') hf
theorem Inv.call' {s':Shared} {ch:List Addr} (I:Inv X pins σ H s) (ho:s'.os=s.os) (u:Un (frs X.stack) ch H H' s.heap s'.heap) (hok:HOk X.prog X.w H' s'.heap) (hg:AllBare s'.gens)
  (hch:∀ b∈ch,(b∈X.ex \/ X.s₀.heap.objs.size<=b)/\b≠X.env.locals/\(∀ x c,X.env.cells.lookup x=some c->c≠b)/\∀ p∈X.pn++pins,p.1≠b):Inv X pins σ H' s':=by
 obtain⟨h',g',d',t',o'⟩:=s'
 have e:o'=s.os:=ho
 subst e
 exact I.call (g':=g') (t':=t') (d':=d') u hok hg hch
end
noncomputable abbrev XK:=Value->Option Addr->Hp->Prop
noncomputable abbrev St:=List (Option V)
noncomputable abbrev VK:=V->Hp->Prop
noncomputable abbrev TE:=St->Hp->VK->Prop
noncomputable abbrev TT:=St->Hp->(Bool->Hp->Prop)->Prop
noncomputable abbrev TA:=St->Hp->(List V->Hp->Prop)->Prop
structure Ends where
 nx:St->Hp->Prop
 rt:VK
 bk:St->Hp->Prop:=fun _ _=>False
 ct:St->Hp->Prop:=fun _ _=>False
noncomputable abbrev TS:=Ends->St->Hp->Prop
noncomputable def EP (X:Cx) (pins:List (Addr×Obj)) (σ:St) (Q:VK) (u:Value) (s':Shared):Prop:=∃ v H',Inv X pins σ H' s'/\RelV v u/\Q v H'
noncomputable def TP (X:Cx) (pins:List (Addr×Obj)) (σ:St) (Q:Bool->Hp->Prop) (b:Bool) (s':Shared):Prop:=∃ H',Inv X pins σ H' s'/\Q b H'
noncomputable def AP (X:Cx) (pins:List (Addr×Obj)) (σ:St) (Q:List V->Hp->Prop) (us:List Value) (s':Shared):Prop:=∃ vs H',Inv X pins σ H' s'/\Vals vs us/\Q vs H'
noncomputable def SP (X:Cx) (pins:List (Addr×Obj)) (D:Ends) (f:Flow) (s':Shared):Prop :=
 match f with
 | .next=>∃ σ' H',Inv X pins σ' H' s'/\D.nx σ' H'
 | .brk=>∃ σ' H',Inv X pins σ' H' s'/\D.bk σ' H'
 | .cont=>∃ σ' H',Inv X pins σ' H' s'/\D.ct σ' H'
 | .ret u=>∃ v σ' H',Inv X pins σ' H' s'/\RelV v u/\D.rt v H'
noncomputable def PE (X:Cx) (e:Expr) (t:TE):Prop :=
 ∀ (pins:List (Addr×Obj)) (s:Shared) (σ:St) (H:Hp) (Q:VK),Inv X pins σ H s->t σ H Q->wpAny (model X.prog X.w) X.A (eval e X.env) (EP X pins σ Q) X.xe s
noncomputable def PT (X:Cx) (e:Expr) (t:TT):Prop :=
 ∀ (pins:List (Addr×Obj)) (s:Shared) (σ:St) (H:Hp) (Q:Bool->Hp->Prop),Inv X pins σ H s->t σ H Q->wpAny (model X.prog X.w) X.A (isTrue e X.env (eval e X.env)) (TP X pins σ Q) X.xe s
noncomputable def PW (X:Cx) (e:Expr) (t:TT):Prop :=
 ∀ (whole:Sem Value) (pins:List (Addr×Obj)) (s:Shared) (σ:St) (H:Hp) (Q:Bool->Hp->Prop),Inv X pins σ H s->t σ H Q->wpAny (model X.prog X.w) X.A (isTrue e X.env whole) (TP X pins σ Q) X.xe s
theorem PW.pt {X:Cx} {e:Expr} {t:TT} (h:PW X e t):PT X e t:=h _
noncomputable def PA (X:Cx) (es:List Expr) (t:TA):Prop :=
 ∀ (pos:Pos) (pins:List (Addr×Obj)) (s:Shared) (σ:St) (H:Hp) (Q:List V->Hp->Prop),Inv X pins σ H s->t σ H Q->wpAny (model X.prog X.w) X.A (spliced (backTo pos (starEach es X.env))) (AP X pins σ Q) X.xe s
noncomputable def PS (X:Cx) (st:Stmt) (t:TS):Prop :=
 ∀ (pins:List (Addr×Obj)) (s:Shared) (σ:St) (H:Hp) (D:Ends),Inv X pins σ H s->t D σ H->wpAny (model X.prog X.w) X.A (exec st X.env) (SP X pins D) X.xe s
noncomputable def PSs (X:Cx) (st:List Stmt) (t:TS):Prop :=
 ∀ (pins:List (Addr×Obj)) (s:Shared) (σ:St) (H:Hp) (D:Ends),Inv X pins σ H s->t D σ H->wpAny (model X.prog X.w) X.A (execs st X.env) (SP X pins D) X.xe s
theorem thn {α:Type} {t:Sem α} {Q Q':α->Shared->Prop} {M:Model} {A:Around} {E:Value->Shared->Prop} {s:Shared} (h:wpAny M A t Q E s) (hQ:∀ a s,Q a s->Q' a s):wpAny M A t Q' E s:=wpAny_mono h hQ fun _ _ x=>x
section
variable {X:Cx}
noncomputable def yG (i:Nat):TE:=fun σ H Q=>∃ v,σ[i]?=some (some v)/\Q v H
noncomputable def tC (v:V):TE:=fun _ H Q=>Q v H
theorem acD {i:Nat} {x:Str} {pos:Pos} (hN:X.N[i]?=some x) (hv:Vis X.env.scope x) (hd:(x == ("__debug__":Str))=false:=by decide) (hcd:(x == ("__classdict__":Str))=false:=by decide):PE X (.Name x pos) (yG i):=by
 intro pins s σ H Q I h
 obtain⟨v,e,h⟩:=h
 obtain⟨m,hn,hl⟩:=I.loc
 obtain⟨u,r,l⟩:=hl i x v hN e hv
 have fin:EP X pins σ Q u s:=⟨v,H,I,r,h⟩
 rcases l with⟨hk,hm⟩ | ⟨hk,c,hc,hcell⟩
 ·exact wpAny_Name (wpAny_loadName_local I.ok.kind hk hn hm fin) hd
 ·rcases hk with hk | hk
  ·exact wpAny_Name (wpAny_loadName_cell I.ok.kind hk hc hcell fin) hd
  ·exact wpAny_Name (wpAny_loadName_free I.ok.kind hk hc hcell fin hcd) hd
theorem zb {i j pos}:PE X (.Constant (.int i) j pos) (tC (.int i)):=fun _ _ _ H _ I h=>wpAny_Constant_int ⟨.int i,H,I.tok _,⟨_,rfl⟩,h⟩
theorem ju {b j pos}:PE X (.Constant (.bool b) j pos) (tC (.bl b)):=fun _ _ _ H _ I h=>Constant_bool ⟨.bl b,H,I,rfl,h⟩
theorem aaw {j pos}:PE X (.Constant .none j pos) (tC .non):=fun _ _ _ H _ I h=>Constant_none ⟨.non,H,I,rfl,h⟩
noncomputable def Gl (X:Cx) (x:Str):Prop:=X.env.kindOf x=some .globalImplicit
theorem abp {E:Value->Shared->Prop} {pins:List (Addr×Obj)} {s:Shared} {σ:St} {H:Hp} {x:Str} {u:Value} {pos:Pos} {Q:Value->Shared->Prop} (I:Inv X pins σ H s) (hg:Gl X x) (hm:X.mg x=some u) (h:Q u s)
  (hd:(x == ("__debug__":Str))=false:=by decide):wpAny (model X.prog X.w) X.A (eval (.Name x pos) X.env) Q E s :=
 afz I.ok.kind hg (Calls.loadGlobal_global (by rw [I.ok.glob];exact I.mod.glob.keeps I.bk) hm h) hd
theorem jg {E:Value->Shared->Prop} {pins:List (Addr×Obj)} {s:Shared} {σ:St} {H:Hp} {x:Str} {u:Value} {pos:Pos} {Q:Value->Shared->Prop} (I:Inv X pins σ H s) (hg:Gl X x) (hm:X.mg x=none) (hv:bootBuiltins x=some u) (h:Q u s)
  (hn:x ≠ "__name__":=by decide) (hd:(x == ("__debug__":Str))=false:=by decide):wpAny (model X.prog X.w) X.A (eval (.Name x pos) X.env) Q E s:=by
 obtain⟨mb,h1,h2⟩:=I.mod.blt
 exact afz I.ok.kind hg (Calls.loadGlobal_builtin (by rw [I.ok.glob];exact I.mod.glob.keeps I.bk) hm (by rw [I.ok.blt];exact h1.keeps I.bk) ((h2 x hn).trans hv) h) hd
variable {a b:Expr} {ta tb:TE} {pos:Pos}
variable {tA tB':TT} {rest:List Expr}
noncomputable def adn (t u:TT):TT:=fun σ H Q=>t σ H fun c H1=>if c=true then u σ H1 Q else Q false H1
noncomputable def tOr (t u:TT):TT:=fun σ H Q=>t σ H fun c H1=>if c=true then Q true H1 else u σ H1 Q
noncomputable def ado (t:TT):TT:=fun σ H Q=>t σ H fun c H1=>Q (!c) H1
theorem abq (ha:PT X a tA):PW X (.BoolOp .And [a] pos) tA:=by
 intro wh pins s σ H Q I h
 refine isTrue_and (thn (ha pins s σ H Q I h) fun c s1 e=>?_)
 cases c with
 | true=>exact isTrue_and_nil e
 | false=>exact e
theorem aax (ha:PT X a tA):PW X (.BoolOp .Or [a] pos) tA:=by
 intro wh pins s σ H Q I h
 refine isTrue_or (thn (ha pins s σ H Q I h) fun c s1 e=>?_)
 cases c with
 | false=>exact isTrue_or_nil e
 | true=>exact e
theorem acE (ha:PT X a tA) (hb:PW X (.BoolOp .And (b :: rest) pos) tB'):PW X (.BoolOp .And (a :: b :: rest) pos) (adn tA tB'):=by
 intro wh pins s σ H Q I h
 refine isTrue_and (thn (ha pins s σ H _ I h) fun c s1 ⟨H1,I1,q1⟩=>?_)
 cases c with
 | true=>exact hb wh pins s1 σ H1 Q I1 q1
 | false=>exact⟨H1,I1,q1⟩
theorem ab6 (ha:PT X a tA) (hb:PW X (.BoolOp .Or (b :: rest) pos) tB'):PW X (.BoolOp .Or (a :: b :: rest) pos) (tOr tA tB'):=by
 intro wh pins s σ H Q I h
 refine isTrue_or (thn (ha pins s σ H _ I h) fun c s1 ⟨H1,I1,q1⟩=>?_)
 cases c with
 | true=>exact⟨H1,I1,q1⟩
 | false=>exact hb wh pins s1 σ H1 Q I1 q1
theorem ve (ha:PT X a tA):PT X (.UnaryOp .Not a pos) (ado tA):=by
 intro pins s σ H Q I h
 exact isTrue_not (ha pins s σ H (fun c H1=>Q (!c) H1) I h)
end
noncomputable def SqL (K:ad6) (H:Hp) (a:Addr) (xs:List V):Prop :=
 Rd H a (.lst xs) \/
  ∃ (o:Obj) (its:Array Value) (n:Nat),K.lookup a=some o/\o.cls=.type "list"/\o.dict=none/\o.data=.seq its n/\its.size<=sizeLine/\Vals xs its.toList
noncomputable def SqT (K:ad6) (H:Hp) (a:Addr) (xs:List V):Prop :=
 Rd H a (.tup xs) \/
  ∃ (o:Obj) (its:Array Value) (n:Nat),K.lookup a=some o/\o.cls=.type "tuple"/\o.data=.seq its n/\its.size<=sizeLine/\Vals xs its.toList
noncomputable def adS:Value->Option V
 | .none=>some .non
 | .bool b=>some (.bl b)
 | .int i _=>some (.int i)
 | .str x _=>some (.str x)
 | .bytes b _=>some (.byt b)
 | .float b _=>some (.flt b)
 | .ref a=>some (.ref a)
 | .type n=>some (.ty n)
 | _=>none
theorem RelV.abs {x:V} {u:Value} (r:RelV x u):adS u=some x:=by
 cases x with
 | non=>cases r;rfl
 | bl _=>cases r;rfl
 | int _=>obtain⟨t,rfl⟩:=r;rfl
 | str _=>obtain⟨t,rfl⟩:=r;rfl
 | byt _=>obtain⟨t,rfl⟩:=r;rfl
 | flt _=>obtain⟨t,rfl⟩:=r;rfl
 | ref _=>cases r;rfl
 | ty _=>cases r;rfl
theorem RelV.inj {x y:V} {u:Value} (r:RelV x u) (q:RelV y u):x=y:=Option.some.inj (r.abs.symm.trans q.abs)
theorem Vals.inj:∀ {xs ys:List V} {us:List Value},Vals xs us->Vals ys us->xs=ys
 | _,_,_,.nil,.nil=>rfl
 | _,_,_,.cons r t,.cons r' t'=>by rw [r.inj r',Vals.inj t t']
section
variable {X:Cx} {pins:List (Addr×Obj)} {σ:St} {H:Hp} {s:Shared} {a:Addr} {xs ys:List V}
theorem SqL.of {K:ad6} (h:H a=some (.lst xs)):SqL K H a xs:=.inl (.inl h)
theorem SqT.of {K:ad6} (h:H a=some (.tup xs)):SqT K H a xs:=.inl (.inl h)
theorem Inv.list (I:Inv X pins σ H s) (h:SqL X.K H a xs):∃ its:List Value,Vals xs its/\PlainL s.heap a its.toArray/\xs.length<=sizeLine:=by
 rcases h with h | ⟨o,its,n,hk,hc,hd,hs,hz,r⟩
 ·obtain⟨z,its,n,r,e⟩:=h.ok I.hok
  exact⟨its,r,⟨_,n,e,rfl,rfl,rfl⟩,z⟩
 ·refine⟨its.toList,r,⟨o,n,I.kIn a o hk,hc,hd,by simpa using hs⟩,?_⟩
  have e:=r.length
  simp only [afZ] at e
  omega
theorem Inv.tuple (I:Inv X pins σ H s) (h:SqT X.K H a xs):∃ its:List Value,Vals xs its/\IsTup s.heap a its.toArray/\xs.length<=sizeLine:=by
 rcases h with h | ⟨o,its,n,hk,hc,hs,hz,r⟩
 ·obtain⟨z,its,r,p⟩:=h.ok I.hok
  exact⟨its,r,p,z⟩
 ·refine⟨its.toList,r,⟨o,I.kIn a o hk,hc,n,by simpa using hs⟩,?_⟩
  have e:=r.length
  simp only [afZ] at e
  omega
theorem Inv.list_inj (I:Inv X pins σ H s) (h:SqL X.K H a xs) (h':SqL X.K H a ys):xs=ys:=by
 obtain⟨its,r,⟨o,n,e,_,_,d⟩,_⟩:=I.list h
 obtain⟨its',r',⟨o',n',e',_,_,d'⟩,_⟩:=I.list h'
 rw [e] at e';cases e'
 rw [d] at d'
 injection d' with d1 _
 have:its=its':=by simpa using congrArg Array.toList d1
 subst this
 exact r.inj r'
end
noncomputable abbrev Cx.wish (X:Cx) (E:Value->Shared->Prop):Cx:={ X with xe:=E }
noncomputable abbrev Cx.nox (X:Cx):Cx:=X.wish fun _ _=>False
theorem Cx.Ok.wish {X:Cx} (ok:X.Ok) (E:Value->Shared->Prop):(X.wish E).Ok :=
 ⟨ok.mod,ok.kind,ok.glob,ok.blt,ok.above,ok.inj,ok.has,ok.cab,ok.hd,ok.frames,ok.stk,ok.exf,ok.bs,ok.bsz,ok.noex,ok.exfs,ok.funs,ok.frf,ok.tabs⟩
theorem Cx.Ok.unwish {X:Cx} {E:Value->Shared->Prop} (ok:(X.wish E).Ok):X.Ok :=
 ⟨ok.mod,ok.kind,ok.glob,ok.blt,ok.above,ok.inj,ok.has,ok.cab,ok.hd,ok.frames,ok.stk,ok.exf,ok.bs,ok.bsz,ok.noex,ok.exfs,ok.funs,ok.frf,ok.tabs⟩
section
variable {X:Cx} {pins:List (Addr×Obj)} {σ:St} {H:Hp} {s:Shared} {E:Value->Shared->Prop}
theorem Inv.wish (I:Inv X pins σ H s) (E:Value->Shared->Prop):Inv (X.wish E) pins σ H s:=⟨I.ok.wish E,I.os,I.bare,I.base,I.loc,I.cell,I.free,I.freeC,I.pin,I.hok,I.len⟩
theorem Inv.unwish (I:Inv (X.wish E) pins σ H s):Inv X pins σ H s:=⟨I.ok.unwish,I.os,I.bare,I.base,I.loc,I.cell,I.free,I.freeC,I.pin,I.hok,I.len⟩
theorem SP.unwish {D:Ends} {f:Flow} {s':Shared} (h:SP (X.wish E) pins D f s'):SP X pins D f s':=by
 cases f with
 | next=>obtain⟨σ',H',I,q⟩:=h;exact⟨σ',H',I.unwish,q⟩
 | brk=>obtain⟨σ',H',I,q⟩:=h;exact⟨σ',H',I.unwish,q⟩
 | cont=>obtain⟨σ',H',I,q⟩:=h;exact⟨σ',H',I.unwish,q⟩
 | ret u=>obtain⟨v,σ',H',I,r,q⟩:=h;exact⟨v,σ',H',I.unwish,r,q⟩
theorem PSs.nox {st:List Stmt} {t:TS} (h:PSs X.nox st t):PSs X st t:=fun pins s σ H D I hw =>
 wpAny_mono (h pins s σ H D (I.wish _) hw) (fun _ _ q=>q.unwish) fun _ _ z=>ae6 z
end
section
variable {X:Cx} {st:Stmt} {rest:List Stmt} {t u:TS} {e:Expr} {te:TE} {pos:Pos}
noncomputable def ab7:TS:=fun D σ H=>D.nx σ H
noncomputable def qo (t u:TS):TS:=fun D σ H=>t { D with nx:=u D } σ H
theorem ye:PSs X [] ab7:=fun _ _ σ H _ I h=>wpAny_execs_nil ⟨σ,H,I,h⟩
theorem zd (h1:PS X st t) (h2:PSs X rest u):PSs X (st :: rest) (qo t u):=by
 intro pins s σ H D I h
 refine wpAny_execs_cons (thn (h1 pins s σ H { D with nx:=u D } I h) fun f s1 q=>?_)
 cases f with
 | next =>
  obtain⟨σ',H',I',q⟩:=q
  exact h2 pins s1 σ' H' D I' q
 | ret v=>exact q
 | brk=>exact q
 | cont=>exact q
theorem zl (h1:PS X st t):PSs X [st] t:=by
 intro pins s σ H D I h
 refine wpAny_execs_cons (thn (h1 pins s σ H D I h) fun f s1 q=>?_)
 cases f with
 | next=>exact wpAny_execs_nil q
 | ret v=>exact q
 | brk=>exact q
 | cont=>exact q
theorem Inv.quiet {pins:List (Addr×Obj)} {σ:St} {H:Hp} {s:Shared} (I:Inv X pins σ H s):interactive X.env=false:=by simp [interactive,I.ok.kind]
noncomputable def aay (te:TE):TS:=fun D σ H=>te σ H fun _ H1=>D.nx σ H1
theorem jB (he:PE X e te) (hs:swapsWith e none pos.line X.env=pure false:=by rfl):PS X (.Expr e pos) (aay te):=by
 intro pins s σ H D I h
 exact wpAny_Expr_any (thn (he pins s σ H _ I h) fun v s1 ⟨x,H1,I1,r1,q1⟩=>⟨σ,H1,I1,q1⟩) I.quiet hs
noncomputable def acF (te:TE):TS:=fun D σ H=>te σ H D.rt
theorem zJ (he:PE X e te):PS X (.Return (some e) pos) (acF te):=by
 intro pins s σ H D I h
 exact wpAny_Return_some (thn (he pins s σ H _ I h) fun v s1 ⟨x,H1,I1,r1,q1⟩=>⟨x,σ,H1,I1,r1,q1⟩)
noncomputable def adp (c:TT) (t u:TS):TS:=fun D σ H=>c σ H fun b H1=>if b=true then t D σ H1 else u D σ H1
theorem y3 {c:Expr} {a b:List Stmt} {tc:TT} (hc:PT X c tc) (ha:PSs X a t) (hb:PSs X b u):PS X (.If c a b pos) (adp tc t u):=by
 intro pins s σ H D I h
 refine wpAny_If (thn (hc pins s σ H _ I h) fun d s1 ⟨H1,I1,q1⟩=>?_)
 cases d with
 | true=>exact ha pins s1 σ H1 D I1 q1
 | false=>exact hb pins s1 σ H1 D I1 q1
end
noncomputable abbrev TG:=V->St->Hp->(St->Hp->Prop)->Prop
noncomputable abbrev TGs:=List V->St->Hp->(St->Hp->Prop)->Prop
noncomputable def PG (X:Cx) (target:Expr) (t:TG):Prop :=
 ∀ (pins:List (Addr×Obj)) (s:Shared) (σ:St) (H:Hp) (v:V) (u:Value) (Q:St->Hp->Prop),Inv X pins σ H s->RelV v u->t v σ H Q ->
  wpAny (model X.prog X.w) X.A (assign target X.env u) (fun _ s'=>∃ σ' H',Inv X pins σ' H' s'/\Q σ' H') X.xe s
noncomputable def PGs (X:Cx) (ts:List Expr) (t:TGs):Prop :=
 ∀ (pins:List (Addr×Obj)) (s:Shared) (σ:St) (H:Hp) (vs:List V) (us:List Value) (Q:St->Hp->Prop),Inv X pins σ H s->Vals vs us->t vs σ H Q ->
  wpAny (model X.prog X.w) X.A (assignInOrder ((assignEach ts X.env).map (·.2)) us) (fun _ s'=>∃ σ' H',Inv X pins σ' H' s'/\Q σ' H') X.xe s
noncomputable abbrev acG:=V->V->V->Hp->(Hp->Prop)->Prop
noncomputable def adq (X:Cx) (t:acG):Prop :=
 ∀ (pins:List (Addr×Obj)) (s:Shared) (σ:St) (H:Hp) (o i v:V) (ov iv u:Value) (Q:Hp->Prop),Inv X pins σ H s->RelV o ov->RelV i iv->RelV v u->t o i v H Q ->
  wpAny (model X.prog X.w) X.A (setItem ov iv u) (fun _ s'=>∃ H',Inv X pins σ H' s'/\Q H') X.xe s
section
variable {X:Cx} {pos:Pos}
noncomputable def yV (i:Nat):TG:=fun v σ H Q=>Q (σ.set i (some v)) H
theorem zx {i:Nat} {x:Str} (hN:X.N.Nodup) (hi:X.N[i]?=some x) (hx:Loc X.env.scope x) (hf:X.fn x=true \/ X.env.scope.names.lookup x=some .local:=by first | exact .inl rfl | exact .inr rfl | assumption):PG X (.Name x pos) (yV i):=by
 intro pins s σ H v u Q I r h
 exact wpAny_assign_Name (qH I hN hi hx r (fun s' I'=>⟨_,H,I',h⟩) hf)
noncomputable def ads:TGs:=fun vs σ H Q=>vs=[]/\Q σ H
noncomputable def ab8 (t:TG) (u:TGs):TGs:=fun vs σ H Q=>∃ v r,vs=v :: r/\t v σ H fun σ' H'=>u r σ' H' Q
theorem yP:PGs X [] ads:=by
 intro pins s σ H vs us Q I r h
 obtain⟨e,h⟩:=h
 subst e
 cases r
 exact assignInOrder_nil ⟨σ,H,I,h⟩
theorem zI {e:Expr} {es:List Expr} {t:TG} {u:TGs} (h1:PG X e t) (h2:PGs X es u)
  (hs:(assignEach (e :: es) X.env).map (·.2)=assign e X.env :: (assignEach es X.env).map (·.2):=by rfl):PGs X (e :: es) (ab8 t u):=by
 intro pins s σ H vs us Q I r h
 obtain⟨v,vr,e1,h⟩:=h
 subst e1
 cases r with
 | cons r rr =>
  rw [hs]
  refine assignInOrder_cons (thn (h1 pins s σ H _ _ _ I r h) fun _ s1 ⟨σ1,H1,I1,q1⟩=>?_)
  exact h2 pins s1 σ1 H1 _ _ Q I1 rr q1
noncomputable def acH (K:ad6) (n:Nat) (t:TGs):TG:=fun v σ H Q=>∃ a xs,v=.ref a/\SqT K H a xs/\xs.length=n/\t xs σ H Q
theorem acI {es:List Expr} {k:Nat} {t:TGs} {n:Nat} (hc:X.calm=true) (h:PGs X es t)
  (hn:(assignEach es X.env).length=n:=by rfl) (hst:(assignEach es X.env).findIdx? (·.1)=none:=by rfl):PG X (.Tuple es k pos) (acH X.K n t):=by
 intro pins s σ H v u Q I r hw
 obtain⟨a,xs,e1,hq,hl,hw⟩:=hw
 subst e1
 cases r
 obtain⟨its,rv,ht,hz⟩:=I.tuple hq
 refine assign_Tuple_tuple (I.ok.hd hc) ht (by simp [hn,<- hl,rv.length]) hst fun h' hx=>?_
 have I1:Inv X pins σ H { s with heap:=h' }:=I.kept (t':=s.toks) fun b o e=>hx b o (aes (aed e)) e
 exact h pins _ σ H xs _ Q I1 (by simpa using rv) hw
noncomputable def aaz (to ti:TE) (t:acG):TG:=fun v σ H Q=>to σ H fun o H1=>ti σ H1 fun i H2=>t o i v H2 fun H3=>Q σ H3
theorem aaA {o i:Expr} {to ti:TE} {t:acG} (ho:PE X o to) (hi:PE X i ti) (hs:adq X t)
  (ha:∀ v,assign (.Subscript o i pos) X.env v=(do
   let ov <- holding [v] (eval o X.env)
   let iv <- holding [v,ov] (eval i X.env)
   standAt pos
   holding [v,ov,iv] (setItem ov iv v)
   release [v,ov,iv] []):=by intro _;rfl):PG X (.Subscript o i pos) (aaz to ti t):=by
 intro pins s σ H v u Q I r h
 rw [ha]
 refine wpAny_bind (wpAny_holding (thn (ho pins s σ H _ I h) fun ov s1 ⟨x,H1,I1,r1,q1⟩=>?_))
 refine wpAny_bind (wpAny_holding (thn (hi pins s1 σ H1 _ I1 q1) fun iv s2 ⟨y,H2,I2,r2,q2⟩=>?_))
 refine wpAny_bind (wpAny_standAt (wpAny_bind (wpAny_holding (thn (hs pins s2 σ H2 x y v ov iv u _ I2 r1 r2 r q2) fun _ s3 ⟨H3,I3,q3⟩=>?_))))
 exact wpAny_release ⟨σ,H3,I3,q3⟩
noncomputable def jh (te:TE) (g:TG):TS:=fun D σ H=>te σ H fun x H1=>g x σ H1 D.nx
theorem qp {tg e:Expr} {te:TE} {g:TG} (he:PE X e te) (hg:PG X tg g) (hs:swapsWithSole [tg] e pos.line X.env=pure false:=by rfl) (hw:swappedStores [tg] e X.env=pure none:=by rfl)
  (h1:(assignEach [tg] X.env).map (·.2)=[assign tg X.env]:=by rfl):PS X (.Assign [tg] e pos) (jh te g):=by
 intro pins s σ H D I h
 refine wpAny_Assign_stores (thn (he pins s σ H _ I h) fun v s1 ⟨x,H1,I1,r1,q1⟩=>?_) hs hw
 rw [h1]
 exact thn (hg pins s1 σ H1 x v _ I1 r1 q1) fun _ s2 q=>q
theorem zy {i:Nat} {x:Str} {e:Expr} {te:TE} {pos':Pos} (hN:X.N.Nodup) (hi:X.N[i]?=some x) (hx:Loc X.env.scope x) (he:PE X e te) (hs:swapsWith e (some (.Name x pos')) pos.line X.env=pure false:=by rfl) (hf:X.fn x=true \/ X.env.scope.names.lookup x=some .local:=by first | exact .inl rfl | exact .inr rfl | assumption) :
  PS X (.Assign [.Name x pos'] e pos) (jh te (yV i)):=by
 intro pins s σ H D I h
 refine wpAny_Assign_Name (thn (he pins s σ H _ I h) fun v s1 ⟨y,H1,I1,r1,q1⟩=>?_) hs
 exact qH I1 hN hi hx r1 (fun s2 I2=>⟨_,H1,I2,q1⟩) hf
end
section
variable {X:Cx} {pos:Pos}
noncomputable def aaB (c:TT) (tb:TS):TS:=fun D σ H=>∃ W:Nat->St->Hp->Prop,(∃ m,W m σ H)/\∀ m σ H,W m σ H ->
 c σ H fun b H1=>if b=true then ∃ N:St->Hp->Prop,(∀ σ' H',N σ' H'->∃ m',m'<m/\W m' σ' H')/\tb { D with nx:=N,ct:=N,bk:=D.nx } σ H1 else D.nx σ H1
theorem aaC {c:Expr} {body:List Stmt} {tc:TT} {tb:TS} (hp:PassesOwn (model X.prog X.w) X.A X.env X.xe) (hc:PT X c tc) (hb:PSs X body tb):PS X (.While c body [] pos) (aaB tc tb):=by
 intro pins s σ H D I h
 obtain⟨W,⟨m0,w0⟩,turn⟩:=h
 refine wpAny_While (codeAny_whileLoop (fun n s'=>∃ σ' H',Inv X pins σ' H' s'/\W n σ' H') ?_ m0 ⟨σ,H,I,w0⟩)
 rintro n s1 ⟨σ1,H1,I1,w1⟩
 refine wpAny_passesOwn hp (thn (hc pins s1 σ1 H1 _ I1 (turn n σ1 H1 w1)) fun b s2 ⟨H2,I2,q2⟩=>?_)
 cases b with
 | true =>
  obtain⟨N,hN,q2⟩:=q2
  rw [if_pos rfl]
  refine wpAny_passesOwn hp (thn (hb pins s2 σ1 H2 _ I2 q2) fun f s3 q3=>?_)
  cases f with
  | next =>
   obtain⟨σ3,H3,I3,n3⟩:=q3
   obtain⟨m',hm,w3⟩:=hN σ3 H3 n3
   exact⟨m',hm,σ3,H3,I3,w3⟩
  | cont =>
   obtain⟨σ3,H3,I3,n3⟩:=q3
   obtain⟨m',hm,w3⟩:=hN σ3 H3 n3
   exact⟨m',hm,σ3,H3,I3,w3⟩
  | brk=>exact q3
  | ret v=>exact q3
 | false =>
  rw [if_neg aef]
  exact wpAny_execs_nil ⟨σ1,H2,I2,q2⟩
end
structure It where
 go:Nat->Hp->Prop
 yld:Nat->Hp->V->Hp->Prop
 stop:Nat->Hp->Prop
noncomputable def jz (X:Cx) (pins:List (Addr×Obj)) (H:Hp) (b:Addr):Prop :=
 H b=none/\b≠X.env.locals/\b∉X.fs/\(b∈X.ex \/ X.s₀.heap.objs.size<=b)/\(∀ x c,X.env.cells.lookup x=some c->c≠b)/\∀ p∈X.pn++pins,p.1≠b
theorem Inv.fpOk {X:Cx} {pins:List (Addr×Obj)} {σ:St} {H H':Hp} {s:Shared} {b:Addr} (I:Inv X pins σ H s) (hb:s.heap.objs.size<=b) (hn:H' b=none):jz X pins H' b:=by
 refine⟨hn,afx (aeg I.lt hb),I.nofs hb,.inr (aeC I.sz hb),fun x c e z=>?_,fun p hp z=>?_⟩
 ·obtain⟨v,q⟩:=I.cell x c e
  exact absurd (aeg q.lt (by rw [z];exact hb)) (aeJ _)
 ·exact absurd (aeg (aed (I.pin p hp).1) (by rw [z];exact hb)) (aeJ _)
structure Turn (P:Program) (w:World) (K:ad6) (tg:Expr) (J:It) (fp:List Addr) (it:Addr) (tn:Nat->Heap->Prop):Prop where
 mem:it∈fp
 obj:∀ i h,tn i h->∀ b∈fp,∃ o,h.get? b=some o/\∀ v,o.data≠.cell v
 keep:∀ i h h',tn i h->(∀ b∈fp,∀ o,h.get? b=some o->h'.get? b=some o)->tn i h'
 item:∀ (X:Cx),X.prog=P->X.w=w->X.K=K->X.calm=true->∀ (i:Nat) (pins:List (Addr×Obj)) (s:Shared) (σ:St) (H:Hp) (E:Value->Shared->Prop),Inv X pins σ H s->(∀ b∈fp,jz X pins H b)->tn i s.heap->J.go i H ->
  wpAny (model P w) X.A (pyNext (.ref it)) (fun r s1=>∃ u,r=some u /\
   wpAny (model P w) X.A (letOwnedTupleGo tg (.ref it) u) (fun _ s2=>∃ x H',Inv X pins σ H' s2/\RelV x u/\J.yld i H x H'/\tn (i+1) s2.heap/\∀ b∈fp,H' b=none) E s1) E s
 done:∀ (X:Cx),X.prog=P->X.w=w->X.K=K->X.calm=true->∀ (i:Nat) (pins:List (Addr×Obj)) (s:Shared) (σ:St) (H:Hp) (E:Value->Shared->Prop),Inv X pins σ H s->(∀ b∈fp,jz X pins H b)->tn i s.heap->J.stop i H ->
  wpAny (model P w) X.A (pyNext (.ref it)) (fun r s1=>r=none/\Inv X pins σ H s1) E s
 self:∀ (A:Around) (i:Nat) (s:Shared) (Q:Value->Shared->Prop) (E:Value->Shared->Prop),tn i s.heap->Q (.ref it) s->wpAny (model P w) A (pyIter (.ref it)) Q E s
noncomputable abbrev TI:=St->Hp->(It->Hp->Prop)->Prop
noncomputable def PIE (X:Cx) (pins:List (Addr×Obj)) (σ:St) (tg:Expr) (R:It->Hp->Prop) (itv:Value) (s2:Shared):Prop :=
 ∃ (it:Addr) (fp:List Addr) (tn:Nat->Heap->Prop) (J:It) (H':Hp),itv=.ref it/\Inv X pins σ H' s2/\Turn X.prog X.w X.K tg J fp it tn/\tn 0 s2.heap/\(∀ b∈fp,jz X pins H' b)/\R J H'
noncomputable def PI (X:Cx) (tg iter:Expr) (wi:TI):Prop :=
 ∀ (pins:List (Addr×Obj)) (s:Shared) (σ:St) (H:Hp) (R:It->Hp->Prop),Inv X pins σ H s->wi σ H R ->
  wpAny (model X.prog X.w) X.A (eval iter X.env) (fun v s1=>wpAny (model X.prog X.w) X.A (pyIter v) (PIE X pins σ tg R) X.xe s1) X.xe s
theorem ab9 {M:Model} {A:Around} {E:Value->Shared->Prop} {s:Shared} {tg:Expr} {it:Addr} {u:Value} {o:Obj} {n:String} {vs:Array Value} {Q:Unit->Shared->Prop} (ho:s.heap.get? it=some o) (hc:o.cls=.type n) (hd:o.data=.fields vs)
  (hn:["enumerate","zip","dict_itemiterator","dict_reverseitemiterator","odict_iterator","itertools.zip_longest","itertools.pairwise"].contains n=false) (hQ:Q () s):wpAny M A (letOwnedTupleGo tg (.ref it) u) Q E s:=by
 unfold letOwnedTupleGo
 cases tg <;> first
  | exact wpAny_pure hQ
  | (cases u <;> first
    | exact wpAny_pure hQ
    | (refine wpAny_bind (wpAny_load ho ?_)
       rw [hc,hd]
       show wpAny M A (if (["enumerate","zip","dict_itemiterator","dict_reverseitemiterator","odict_iterator","itertools.zip_longest","itertools.pairwise"].contains n && vs[0]? == some (rawInt _))=true then _ else _) Q E s
       rw [if_neg (by intro h;rw [hn,Bool.false_and] at h;cases h)]
       exact wpAny_pure hQ))
noncomputable def Itl (K:ad6) (a:Addr):It :=
 ⟨fun i H=>∃ xs x,SqL K H a xs/\xs[i]?=some x,fun i H x H'=>H'=H/\∀ xs,SqL K H a xs->xs[i]?=some x,fun i H=>∃ xs,SqL K H a xs/\xs.length<=i⟩
noncomputable def Itr (lo:Int) (n:Nat):It:=⟨fun i _=>i<n,fun i H x H'=>H'=H/\x=.int (lo+i),fun i _=>n<=i⟩
theorem aab {P:Program} {w:World} {K:ad6} {tg:Expr} (a it:Addr):Turn P w K tg (Itl K a) [it] it (fun i h=>h.IsListIter it a i) where
 mem:=by simp
 obj:=fun i h st b hb=>by
  have e:b=it:=by simpa using hb
  subst e
  obtain⟨o,e,c,d⟩:=st
  exact⟨o,e,fun v z=>by rw [d] at z;cases z⟩
 keep:=fun i h h' st k=>st.at fun o e=>k it (by simp) o e
 item:=by
  intro X hP hw hK hc i pins s σ H E I hf st hg
  subst hP hw hK
  obtain⟨xs,x,hq,hx⟩:=hg
  obtain⟨its,rv,p,hz⟩:=I.list hq
  obtain⟨u,hu,ru⟩:=rv.get hx
  obtain⟨f0,f1,f2,f3,f4,f5⟩:=hf it (by simp)
  refine wpAny_pyNext_list_item st p.isList (x:=u) (by simpa using hu) fun h' st' sb=>?_
  have I1:Inv X pins σ H { s with heap:=h' }:=I.turned (t':=s.toks) (fun b o hb e=>(sb.2 b hb).trans e) f0 f1 f3 f4 f5
  obtain⟨o,e,c,d⟩:=id st'
  exact⟨u,rfl,ab9 (s:={ s with heap:=h' }) e c d (by decide) ⟨x,H,I1,ru,⟨rfl,fun ys hy=>by rw [I.list_inj hy hq];exact hx⟩,st',fun b hb=>(hf b hb).1⟩⟩
 done:=by
  intro X hP hw hK hc i pins s σ H E I hf st hg
  subst hP hw hK
  obtain⟨xs,hq,hx⟩:=hg
  obtain⟨its,rv,p,hz⟩:=I.list hq
  obtain⟨f0,f1,f2,f3,f4,f5⟩:=hf it (by simp)
  have hl:=rv.length
  exact wpAny_pyNext_list_end (I.ok.hd hc) st p.isList (by simp;omega) fun h' eb=>⟨rfl,I.turned (t':=s.toks) (fun b o hb e=>eb b o hb e) f0 f1 f3 f4 f5⟩
 self:=fun _ _ _ _ _ st h=>wpAny_pyIter_listiter st h
theorem vf {P:Program} {w:World} {K:ad6} {tg:Expr} (it:Addr) (lo:Int) (n:Nat):Turn P w K tg (Itr lo n) [it] it (fun i h=>IsRangeIter h it (lo+(i:Nat) * 1) ((n:Int) - (i:Nat)) 1) where
 mem:=by simp
 obj:=fun i h st b hb=>by
  have e:b=it:=by simpa using hb
  subst e
  exact⟨_,st,fun v z=>by
   have z':Data.fields _=Data.cell v:=z
   cases z'⟩
 keep:=fun i h h' st k=>k it (by simp) _ st
 item:=by
  intro X hP hw hK hc i pins s σ H E I hf st hg
  subst hP hw hK
  obtain⟨f0,f1,f2,f3,f4,f5⟩:=hf it (by simp)
  have W:=Walks.range (prog:=X.prog) (w:=X.w) (I.ok.hd hc) it lo 1 n
  refine W.item i s _ _ hg st fun v h' tk hv st' kk=>?_
  obtain⟨t,rfl⟩:=hv
  have I1:Inv X pins σ H { s with heap:=h',toks:=tk }:=I.turned (fun b o hb e=>kk b o (by simpa using hb) e) f0 f1 f3 f4 f5
  refine⟨_,rfl,ab9 (s:={ s with heap:=h',toks:=tk }) (n:="range_iterator") st' rfl rfl (by decide) ⟨.int (lo+i),H,I1,⟨t,?_⟩,⟨rfl,rfl⟩,st',fun b hb=>(hf b hb).1⟩⟩
  rw [Int.mul_one]
 done:=by
  intro X hP hw hK hc i pins s σ H E I hf st hg
  subst hP hw hK
  obtain⟨f0,f1,f2,f3,f4,f5⟩:=hf it (by simp)
  exact wpAny_pyNext_range_end (I.ok.hd hc) st (by have:n<=i:=hg;omega) fun h' eb=>⟨rfl,I.turned (t':=s.toks) (fun b o hb e=>eb b o hb e) f0 f1 f3 f4 f5⟩
 self:=fun _ _ _ _ _ st h=>wpAny_pyIter_rangeiter st h
section
variable {X:Cx} {tg:Expr}
noncomputable def aaD (K:ad6) (tl:TE):TI:=fun σ H R=>tl σ H fun x H1=>∃ a,x=.ref a/\(∃ xs,SqL K H1 a xs)/\R (Itl K a) H1
theorem abr {l:Expr} {tl:TE} (hl:PE X l tl):PI X tg l (aaD X.K tl):=by
 intro pins s σ H R I h
 refine thn (hl pins s σ H _ I h) fun v s1 ⟨x,H1,I1,r1,q1⟩=>?_
 obtain⟨a,e,⟨xs,hq⟩,q⟩:=q1
 subst e
 cases r1
 obtain⟨its,rv,p,hz⟩:=I1.list hq
 refine wpAny_pyIter_list p.isList ?_
 refine⟨s1.heap.objs.size,[s1.heap.objs.size],_,_,H1,rfl,I1.kept (t':=s1.toks) fun b o e=>aea _ e,aab a _,⟨_,aeo _ rfl,rfl,rfl⟩,fun b hb=>?_,q⟩
 have e:b=s1.heap.objs.size:=by simpa using hb
 subst e
 exact I1.fpOk (aej _) (I1.hok.fresh (aej _))
theorem qI {pins:List (Addr×Obj)} {σ:St} {H:Hp} {s:Shared} {R:It->Hp->Prop} {E:Value->Shared->Prop} {lo hi:Int} {t u v:Tok} {tk:Nat} (I:Inv X pins σ H s) (h1:-(2 ^ 62)<=lo) (h2:lo<2 ^ 62) (h3:-(2 ^ 62)<=hi) (h4:hi<2 ^ 62)
  (q:R (Itr lo (hi - lo).toNat) H):wpAny (model X.prog X.w) X.A (pyIter (.ref s.heap.objs.size)) (PIE X pins σ tg R) E { s with heap:=s.heap.push { cls:=.type "range",data:=.fields #[.int lo t,.int hi u,.int 1 v] },toks:=tk }:=by
 refine wpAny_pyIter_range (IsRange.new ..) (small_one h1 h2 h3 h4) ?_
 have I1:Inv X pins σ H { s with heap:=s.heap.push { cls:=.type "range",data:=.fields #[.int lo t,.int hi u,.int 1 v] },toks:=tk }:=I.kept fun b o e=>aea _ e
 refine⟨(s.heap.push { cls:=.type "range",data:=.fields #[.int lo t,.int hi u,.int 1 v] }).objs.size,[(s.heap.push { cls:=.type "range",data:=.fields #[.int lo t,.int hi u,.int 1 v] }).objs.size],_,_,H,rfl,
  I1.kept (t':=tk) fun b o e=>aea _ e,vf _ lo (hi - lo).toNat,?_,fun b hb=>?_,q⟩
 ·have e1:lo+((0:Nat):Int) * 1=lo:=by simp
  have e2:(((hi - lo).toNat:Nat):Int) - ((0:Nat):Int)=Builtin.Range.rangeSize lo hi 1:=by rw [rangeSize_one];split <;> omega
  show IsRangeIter _ _ (lo+((0:Nat):Int) * 1) ((((hi - lo).toNat:Nat):Int) - ((0:Nat):Int)) 1
  rw [e1,e2]
  exact aeo _ rfl
 ·have e:b=(s.heap.push { cls:=.type "range",data:=.fields #[.int lo t,.int hi u,.int 1 v] }).objs.size:=by simpa using hb
  subst e
  exact I1.fpOk (aej _) (I1.hok.fresh (aej _))
noncomputable def aca (ta:TA):TI:=fun σ H R=>ta σ H fun vs H1=>∃ j:Int,vs=[.int j]/\-(2 ^ 62)<=j/\j<2 ^ 62/\R (Itr 0 j.toNat) H1
noncomputable def acb (ta:TA):TI:=fun σ H R=>ta σ H fun vs H1=>∃ i j:Int,vs=[.int i,.int j]/\(-(2 ^ 62)<=i/\i<2 ^ 62/\-(2 ^ 62)<=j/\j<2 ^ 62)/\R (Itr i (j - i).toNat) H1
theorem ji {a:Expr} {ta:TA} {p pos:Pos} (hg:Gl X "range") (hm:X.mg "range"=none) (ha:PA X [a] ta) (hs:starEach [a] X.env=[(false,eval a X.env)]:=by rfl):PI X tg (.Call (.Name "range" p) [a] [] pos) (aca ta):=by
 intro pins s σ H R I h
 refine Call_ (jg I hg hm boot_range (aeO (thn (ha pos pins s σ H _ I h) fun us s1 ⟨vs,H1,I1,r1,q1⟩=>?_) hs rfl))
 obtain⟨j,e,q1,q2,q⟩:=q1
 subst e
 cases r1 with
 | cons r rr =>
  cases rr
  obtain⟨t,rfl⟩:=r
  exact call_range_1 (qI I1 (by omega) (by omega) q1 q2 (by simpa using q))
theorem yQ {a b:Expr} {ta:TA} {p pos:Pos} (hg:Gl X "range") (hm:X.mg "range"=none) (ha:PA X [a,b] ta) (hs:starEach [a,b] X.env=[(false,eval a X.env),(false,eval b X.env)]:=by rfl) (hs2:starEach [b] X.env=[(false,eval b X.env)]:=by rfl) :
  PI X tg (.Call (.Name "range" p) [a,b] [] pos) (acb ta):=by
 intro pins s σ H R I h
 refine Call_ (jg I hg hm boot_range (aeO (thn (ha pos pins s σ H _ I h) fun us s1 ⟨vs,H1,I1,r1,q1⟩=>?_) (by rw [hs,hs2]) (by rw [hs2];rfl)))
 obtain⟨i,j,e,⟨q1,q2,q3,q4⟩,q⟩:=q1
 subst e
 cases r1 with
 | cons r rr =>
  cases rr with
  | cons r' rr =>
   cases rr
   obtain⟨t,rfl⟩:=r
   obtain⟨t',rfl⟩:=r'
   exact call_range_2 (qI I1 q1 q2 q3 q4 q)
noncomputable def abt (wi:TI) (g:TG) (tb:TS):TS:=fun D σ H=>wi σ H fun J H1=>∃ W:Nat->Nat->St->Hp->Prop,(∃ m,W 0 m σ H1)/\∀ i m σ H,W i m σ H ->
 (J.stop i H/\D.nx σ H) \/ (J.go i H/\∃ N:St->Hp->Prop,(∀ σ' H',N σ' H'->∃ m',m'<m/\W (i+1) m' σ' H')/\∀ x H',J.yld i H x H'->g x σ H' fun σ2 H2=>tb { D with nx:=N,ct:=N,bk:=D.nx } σ2 H2)
noncomputable def jI (fp:List Addr) (h:Heap):List (Addr×Obj):=fp.filterMap fun b=>(h.get? b).map fun o=>(b,o)
theorem yv {fp:List Addr} {h:Heap} {b:Addr} {o:Obj} (hb:b∈fp) (e:h.get? b=some o):(b,o)∈jI fp h:=afh.mpr ⟨b,hb,by rw [e];rfl⟩
theorem aac {fp:List Addr} {h:Heap} {p:Addr×Obj} (hp:p∈jI fp h):p.1∈fp/\h.get? p.1=some p.2:=by
 obtain⟨b,hb,e⟩:=afh.mp hp
 cases q:h.get? b with
 | none=>rw [q] at e;cases e
 | some o =>
  rw [q] at e
  have e':(b,o)=p:=Option.some.inj e
  subst e'
  exact⟨hb,q⟩
theorem Inv.pinned {pins:List (Addr×Obj)} {σ:St} {H:Hp} {s:Shared} {fp:List Addr} (I:Inv X pins σ H s) (hf:∀ b∈fp,jz X pins H b) (ho:∀ b∈fp,∃ o,s.heap.get? b=some o/\∀ v,o.data≠.cell v):Inv X (pins++jI fp s.heap) σ H s :=
 I.pins_of fun p hp=>(aeA.mp hp).elim (fun z=>I.pin p (aei _ z)) fun z=>by
  obtain⟨hb,e⟩:=aac z
  obtain⟨f0,f1,f2,_⟩:=hf p.1 hb
  obtain⟨o,e',d⟩:=ho p.1 hb
  rw [e] at e';cases e'
  exact⟨e,f0,f1,f2,d⟩
theorem Inv.unpinned {pins pl:List (Addr×Obj)} {σ:St} {H:Hp} {s:Shared} (I:Inv X (pins++pl) σ H s):Inv X pins σ H s:=I.pins_of fun p hp=>I.pin p (aei _ (aeR _ hp))
theorem yH {iter:Expr} {body:List Stmt} {wi:TI} {g:TG} {tb:TS} {pos:Pos} (hp:PassesOwn (model X.prog X.w) X.A X.env X.xe) (hc:X.calm=true) (hi:PI X tg iter wi) (hg:PG X tg g) (hb:PSs X body tb)
  (hs:∀ x,foldedSetIterable iter X.env x=pure x:=by intro _;rfl):PS X (.For tg iter body [] pos) (abt wi g tb):=by
 intro pins s σ H D I h
 refine wpAny_For (thn (hi pins s σ H _ I h) fun v s1 h1=>thn h1 fun itv s2 h2=>?_) hs
 obtain⟨it,fp,tn,J,H2,e,I2,T,st2,f2,W,⟨m0,w0⟩,turn⟩:=h2
 subst e
 -- what stays true of the iterator's objects through the loop
 have stat:∀ {H':Hp},(∀ b∈fp,H' b=none)->∀ b∈fp,jz X pins H' b:=fun hn b hb=>⟨hn b hb,(f2 b hb).2⟩
 refine codeAny_forLoop_any (fun n s'=>∃ i σ' H',Inv X pins σ' H' s'/\tn i s'.heap/\(∀ b∈fp,H' b=none)/\W i n σ' H') ?_ m0 ⟨0,σ,H2,I2,st2,fun b hb=>(f2 b hb).1,w0⟩
 rintro n s3 ⟨i,σ3,H3,I3,st3,fr3,w3⟩
 rcases turn i n σ3 H3 w3 with⟨stop,qn⟩ | ⟨go,N,hN,step⟩
 ·refine wpAny_passesOwn hp (thn (T.done X rfl rfl rfl hc i pins s3 σ3 H3 X.xe I3 (stat fr3) st3 stop) fun r s4 ⟨hr,I4⟩=>?_)
  subst hr
  exact wpAny_execs_nil ⟨σ3,H3,I4,qn⟩
 ·refine wpAny_passesOwn hp (thn (T.item X rfl rfl rfl hc i pins s3 σ3 H3 X.xe I3 (stat fr3) st3 go) fun r s4 ⟨u,hr,h4⟩=>?_)
  subst hr
  refine wpAny_passesOwn hp (thn h4 fun _ s5 ⟨x,H5,I5,r5,y5,st5,fr5⟩=>?_)
  have I5':=I5.pinned (stat fr5) (T.obj _ _ st5)
  refine wpAny_passesOwn hp (thn (hg _ s5 σ3 H5 x u _ I5' r5 (step x H5 y5)) fun _ s6 ⟨σ6,H6,I6,q6⟩=>?_)
  refine wpAny_passesOwn hp (thn (hb _ s6 σ6 H6 _ I6 q6) fun f s7 q7=>?_)
  have again:∀ {σ7:St} {H7:Hp},Inv X (pins++jI fp s5.heap) σ7 H7 s7->N σ7 H7->∃ m,m<n/\∃ i σ' H',Inv X pins σ' H' s7/\tn i s7.heap/\(∀ b∈fp,H' b=none)/\W i m σ' H':=fun {σ7 H7} I7 n7=>by
   obtain⟨m',hm,w7⟩:=hN σ7 H7 n7
   refine⟨m',hm,i+1,σ7,H7,I7.unpinned,T.keep _ _ _ st5 fun b hb o e=>(I7.pin (b,o) (aei _ (aei _ (yv hb e)))).1,fun b hb=>?_,w7⟩
   obtain⟨o,e,d⟩:=T.obj _ _ st5 b hb
   exact (I7.pin (b,o) (aei _ (aei _ (yv hb e)))).2.1
  cases f with
  | next=>obtain⟨σ7,H7,I7,n7⟩:=q7;exact again I7 n7
  | cont=>obtain⟨σ7,H7,I7,n7⟩:=q7;exact again I7 n7
  | brk=>obtain⟨σ7,H7,I7,q7⟩:=q7;exact⟨σ7,H7,I7.unpinned,q7⟩
  | ret v=>obtain⟨x7,σ7,H7,I7,r7,q7⟩:=q7;exact⟨x7,σ7,H7,I7.unpinned,r7,q7⟩
end
noncomputable abbrev R2:=V->V->Hp->VK->Prop
noncomputable def OpR (X:Cx) (f:Value->Value->Sem Value) (r:R2):Prop :=
 ∀ (pins:List (Addr×Obj)) (s:Shared) (σ:St) (H:Hp) (x y:V) (v u:Value) (Q:VK),Inv X pins σ H s->RelV x v->RelV y u->r x y H Q ->
  wpAny (model X.prog X.w) X.A (f v u) (EP X pins σ Q) X.xe s
noncomputable def UnR (X:Cx) (f:Value->Sem Value) (r:V->Hp->VK->Prop):Prop :=
 ∀ (pins:List (Addr×Obj)) (s:Shared) (σ:St) (H:Hp) (x:V) (v:Value) (Q:VK),Inv X pins σ H s->RelV x v->r x H Q ->
  wpAny (model X.prog X.w) X.A (f v) (EP X pins σ Q) X.xe s
noncomputable def j5 (X:Cx) (f:Value) (r:List V->Hp->VK->Prop):Prop :=
 ∀ (pins:List (Addr×Obj)) (s:Shared) (σ:St) (H:Hp) (xs:List V) (us:List Value) (Q:VK),Inv X pins σ H s->Vals xs us->r xs H Q ->
  wpAny (model X.prog X.w) X.A (call f us) (EP X pins σ Q) X.xe s
noncomputable def adT (X:Cx) (r:V->Hp->(Bool->Hp->Prop)->Prop):Prop :=
 ∀ (pins:List (Addr×Obj)) (s:Shared) (σ:St) (H:Hp) (x:V) (v:Value) (Q:Bool->Hp->Prop),Inv X pins σ H s->RelV x v->r x H Q ->
  wpAny (model X.prog X.w) X.A (truthy v) (TP X pins σ Q) X.xe s
noncomputable def tOp (r:R2) (ta tb:TE):TE:=fun σ H Q=>ta σ H fun x H1=>tb σ H1 fun y H2=>r x y H2 Q
noncomputable def tUn (r:V->Hp->VK->Prop) (ta:TE):TE:=fun σ H Q=>ta σ H fun x H1=>r x H1 Q
noncomputable def rI (C:Int->Int->Prop) (g:Int->Int->V):R2:=fun x y H Q=>∃ i j,x=.int i/\y=.int j/\C i j/\Q (g i j) H
noncomputable def rI0 (g:Int->Int->V):R2:=fun x y H Q=>∃ i j,x=.int i/\y=.int j/\Q (g i j) H
noncomputable def rU (g:Int->V):V->Hp->VK->Prop:=fun x H Q=>∃ i,x=.int i/\Q (g i) H
section
variable {X:Cx} {a b c:Expr} {ta tb tc:TE} {pos:Pos}
theorem acJ (ha:PE X a ta) (hb:PE X b tb) {pins:List (Addr×Obj)} {s:Shared} {σ:St} {H:Hp} {R:V->V->Hp->Prop} (I:Inv X pins σ H s)
  (h:ta σ H fun x H1=>tb σ H1 fun y H2=>R x y H2) {Q:Value->Shared->Prop} {f:Value->Value->Sem Value}
  (hf:∀ v u s2 x y H2,Inv X pins σ H2 s2->RelV x v->RelV y u->R x y H2->wpAny (model X.prog X.w) X.A (f v u) Q X.xe s2) :
  wpAny (model X.prog X.w) X.A (eval a X.env) (fun v s₁=>wpAny (model X.prog X.w) X.A (eval b X.env) (fun u s₂=>wpAny (model X.prog X.w) X.A (f v u) Q X.xe s₂) X.xe s₁) X.xe s:=by
 refine thn (ha pins s σ H _ I h) fun v s1 ⟨x,H1,I1,r1,q1⟩=>?_
 refine thn (hb pins s1 σ H1 _ I1 q1) fun u s2 ⟨y,H2,I2,r2,q2⟩=>?_
 exact hf v u s2 x y H2 I2 r1 r2 q2
theorem zc {op:Operator} {r:R2} (ho:OpR X (binaryOp op) r) (ha:PE X a ta) (hb:PE X b tb):PE X (.BinOp a op b pos) (tOp r ta tb):=by
 intro pins s σ H Q I h
 exact wpAny_BinOp (acJ ha hb I h fun v u s2 x y H2 I2 rx ry q=>ho pins s2 σ H2 x y v u Q I2 rx ry q)
theorem acd {op:UnaryOp} {r:V->Hp->VK->Prop} (ho:UnR X (unaryOp op) r) (ha:PE X a ta):PE X (.UnaryOp op a pos) (tUn r ta):=by
 intro pins s σ H Q I h
 exact UnaryOp_ (thn (ha pins s σ H _ I h) fun v s1 ⟨x,H1,I1,r1,q1⟩=>ho pins s1 σ H1 x v Q I1 r1 q1)
theorem opI {f:Value->Value->Sem Value} {C:Int->Int->Prop} {g:Int->Int->Int}
  (rule:∀ (i j:Int) (t u:Tok) (s:Shared) (Q:Value->Shared->Prop) (E:Value->Shared->Prop),C i j->Q (.int (g i j) s.toks) { s with toks:=s.toks+1 }->wpAny (model X.prog X.w) X.A (f (.int i t) (.int j u)) Q E s) :
  OpR X f (rI C fun i j=>.int (g i j)):=by
 intro pins s σ H x y v u Q I rx ry h
 obtain⟨i,j,rfl,rfl,hc,q⟩:=h
 obtain⟨t,rfl⟩:=rx
 obtain⟨t',rfl⟩:=ry
 exact rule i j t t' s _ _ hc ⟨.int (g i j),H,I.tok _,⟨_,rfl⟩,q⟩
theorem adt {f:Value->Value->Sem Value} {g:Int->Int->Int}
  (rule:∀ (i j:Int) (t u:Tok) (s:Shared) (Q:Value->Shared->Prop) (E:Value->Shared->Prop),Q (.int (g i j) s.toks) { s with toks:=s.toks+1 }->wpAny (model X.prog X.w) X.A (f (.int i t) (.int j u)) Q E s) :
  OpR X f (rI0 fun i j=>.int (g i j)):=by
 intro pins s σ H x y v u Q I rx ry h
 obtain⟨i,j,rfl,rfl,q⟩:=h
 obtain⟨t,rfl⟩:=rx
 obtain⟨t',rfl⟩:=ry
 exact rule i j t t' s _ _ ⟨.int (g i j),H,I.tok _,⟨_,rfl⟩,q⟩
theorem abu {f:Value->Value->Sem Value} {g:Int->Int->Bool}
  (rule:∀ (i j:Int) (t u:Tok) (s:Shared) (Q:Value->Shared->Prop) (E:Value->Shared->Prop),Q (.bool (g i j)) s->wpAny (model X.prog X.w) X.A (f (.int i t) (.int j u)) Q E s) :
  OpR X f (rI0 fun i j=>.bl (g i j)):=by
 intro pins s σ H x y v u Q I rx ry h
 obtain⟨i,j,rfl,rfl,q⟩:=h
 obtain⟨t,rfl⟩:=rx
 obtain⟨t',rfl⟩:=ry
 exact rule i j t t' s _ _ ⟨.bl (g i j),H,I,rfl,q⟩
noncomputable def adU (i j:Int):Prop:=0<=j/\j<=1000000/\i.natAbs<2 ^ 64
noncomputable def CMul (i j:Int):Prop:=(-(2 ^ 64)<i/\i<2 ^ 64) \/ (-(2 ^ 64)<j/\j<2 ^ 64)
theorem CMul.ok {i j:Int} (h:CMul i j):IntMulOk i j:=by
 rcases h with⟨h1,h2⟩ | ⟨h1,h2⟩
 ·exact .of_left (intBits_le_64 h1 h2)
 ·exact .of_right (intBits_le_64 h1 h2)
theorem zT:OpR X (binaryOp .Add) (rI0 fun i j=>.int (i+j)):=adt fun _ _ _ _ _ _ _ q=>add_int q
theorem zu:OpR X (binaryOp .Sub) (rI0 fun i j=>.int (i - j)):=adt fun _ _ _ _ _ _ _ q=>sub_int q
theorem yY:OpR X (binaryOp .Mult) (rI CMul fun i j=>.int (i * j)):=opI fun _ _ _ _ _ _ _ hc q=>mul_int q hc.ok
theorem jj:OpR X (binaryOp .Mod) (rI (fun _ j=>0<j) fun i j=>.int (i % j)):=opI fun i j _ _ _ _ _ hc q=>by
 have h1:(0:Int)<j:=hc
 exact mod_int' (by omega) (by rw [Int.fmod_eq_emod_of_nonneg i (by omega)];exact q)
theorem acK:OpR X (binaryOp .Pow) (rI adU fun i j=>.int (i ^ j.toNat)):=opI fun _ _ _ _ _ _ _ hc q=>pow_int_small hc.1 hc.2.1 hc.2.2 q
theorem unI {f:Value->Sem Value} {g:Int->Int}
  (rule:∀ (i:Int) (t:Tok) (s:Shared) (Q:Value->Shared->Prop) (E:Value->Shared->Prop),Q (.int (g i) s.toks) { s with toks:=s.toks+1 }->wpAny (model X.prog X.w) X.A (f (.int i t)) Q E s) :
  UnR X f (rU fun i=>.int (g i)):=by
 intro pins s σ H x v Q I rx h
 obtain⟨i,rfl,q⟩:=h
 obtain⟨t,rfl⟩:=rx
 exact rule i t s _ _ ⟨.int (g i),H,I.tok _,⟨_,rfl⟩,q⟩
theorem aaE:UnR X (unaryOp .USub) (rU fun i=>.int (-i)):=unI fun _ _ _ _ _ q=>neg_int q
end
section
variable {X:Cx} {a b c:Expr} {ta tb tc:TE} {pos:Pos}
theorem acL {pins:List (Addr×Obj)} {σ:St} {H:Hp} {s:Shared} {Q:VK} {k k':Bool} (I:Inv X pins σ H s) (q:Q (.bl k) H) (e:k=k'):EP X pins σ Q (.bool k') s:=by
 subst e
 exact⟨.bl k,H,I,rfl,q⟩
theorem adu:OpR X (compareOp .Lt) (rI0 fun i j=>.bl (decide (i<j))):=abu fun _ _ _ _ _ _ _ q=>lt_int q
theorem qJ:OpR X (compareOp .LtE) (rI0 fun i j=>.bl (decide (i<=j))):=abu fun _ _ _ _ _ _ _ q=>le_int q
theorem adv:OpR X (compareOp .Gt) (rI0 fun i j=>.bl (decide (j<i))):=abu fun _ _ _ _ _ _ _ q=>gt_int q
theorem ace:OpR X (compareOp .GtE) (rI0 fun i j=>.bl (decide (j<=i))):=abu fun _ _ _ _ _ _ _ q=>ge_int q
theorem abv:OpR X (compareOp .IsNot) (fun x y H Q=>y=.non/\Q (.bl (!decide (x=.non))) H):=by
 intro pins s σ H x y v u Q I rx ry h
 obtain⟨rfl,q⟩:=h
 cases ry
 refine isnot_none_gen (acL I q ?_)
 cases x <;> first
  | (cases rx;rfl)
  | (obtain⟨t,rfl⟩:=rx;rfl)
theorem z6 (b:Expr) {op:CmpOp} (h:op≠.In:=by decide) (h2:op≠.NotIn:=by decide):behindInMarks op b=false:=by
 have e1:(op == CmpOp.In)=false:=by cases op <;> first | rfl | exact absurd rfl h
 have e2:(op == CmpOp.NotIn)=false:=by cases op <;> first | rfl | exact absurd rfl h2
 cases b <;> simp [behindInMarks,e1,e2]
theorem jC {op:CmpOp} {r:R2} (ho:OpR X (compareOp op) r) (ha:PE X a ta) (hb:PE X b tb) (hm:behindInMarks op b=false):PE X (.Compare a [op] [b] pos) (tOp r ta tb):=by
 intro pins s σ H Q I h
 exact wpAny_Compare1 (acJ ha hb I h fun v u s2 x y H2 I2 rx ry q=>ho pins s2 σ H2 x y v u Q I2 rx ry q) hm
noncomputable def acf (t:TE):TT:=fun σ H Q=>t σ H fun x H'=>∃ k,x=.bl k/\Q k H'
theorem yf {op:CmpOp} {r:R2} (ho:OpR X (compareOp op) r) (ha:PE X a ta) (hb:PE X b tb) (hm:behindInMarks op b=false):PT X (.Compare a [op] [b] pos) (acf (tOp r ta tb)):=by
 intro pins s σ H Q I h
 refine wpAny_isTrue_Compare1 (thn (ha pins s σ H _ I h) fun v s1 ⟨x,H1,I1,r1,q1⟩=>thn (hb pins s1 σ H1 _ I1 q1) fun u s2 ⟨y,H2,I2,r2,q2⟩ =>
  thn (ho pins s2 σ H2 x y v u _ I2 r1 r2 q2) fun c s3 ⟨z,H3,I3,r3,k,e,q3⟩=>?_) hm
 subst e
 cases r3
 exact wpAny_truthy_bool ⟨H3,I3,q3⟩
noncomputable def acM (K:ad6) (x:V) (H:Hp) (k:Bool):Prop :=
 match x with
 | .non=>k=false
 | .bl b=>k=b
 | .int i=>k=(i != 0)
 | .str y=>y.length<=sizeLine/\k=((y.length:Int) != 0)
 | .byt y=>y.size<=sizeLine/\k=((y.size:Int) != 0)
 | .ref p=>(∃ xs,SqL K H p xs/\k=!xs.isEmpty) \/ (∃ xs,SqT K H p xs/\k=!xs.isEmpty) \/ ∃ kvs,H p=some (.dK kvs)/\k=!kvs.isEmpty
 | _=>False
theorem vg {κ:Type} {kvs:List (κ×V)} {vs:List (κ×Value)} (r:KV kvs vs):(!vs.isEmpty)=!kvs.isEmpty:=by
 cases r <;> rfl
theorem jJ {xs:List V} {its:List Value} (r:Vals xs its):(!its.toArray.isEmpty)=!xs.isEmpty:=by
 cases r <;> simp
theorem jk:(sizeLine:Nat)<2 ^ 63:=by rw [sizeLine_eq];decide
theorem acN:adT X (fun x H Q=>∃ k,acM X.K x H k/\Q k H):=by
 intro pins s σ H x v Q I rx h
 obtain⟨k,e,q⟩:=h
 have hl:=jk
 have hs:sizeLine=16777216:=sizeLine_eq
 cases x with
 | non =>
  cases rx
  have e':k=false:=e
  subst e'
  exact truthy_none ⟨H,I,q⟩
 | bl b =>
  cases rx
  have e':k=b:=e
  subst e'
  exact wpAny_truthy_bool ⟨H,I,q⟩
 | int i =>
  obtain⟨t,rfl⟩:=rx
  have e':k=(i != 0):=e
  subst e'
  exact PySem.P.truthy_int ⟨H,I,q⟩
 | str y =>
  obtain⟨t,rfl⟩:=rx
  obtain⟨hy,e'⟩:y.length<=sizeLine/\k=((y.length:Int) != 0):=e
  subst e'
  exact PySem.P.truthy_str (by omega) ⟨H,I.tok _,q⟩
 | byt y =>
  obtain⟨t,rfl⟩:=rx
  obtain⟨hy,e'⟩:y.size<=sizeLine/\k=((y.size:Int) != 0):=e
  subst e'
  exact PySem.W.truthy_bytes (by omega) ⟨H,I.tok _,q⟩
 | ref p =>
  cases rx
  have e':(∃ xs,SqL X.K H p xs/\k=!xs.isEmpty) \/ (∃ xs,SqT X.K H p xs/\k=!xs.isEmpty) \/ ∃ kvs,H p=some (.dK kvs)/\k=!kvs.isEmpty:=e
  rcases e' with⟨xs,hx,e'⟩ | ⟨xs,hx,e'⟩ | ⟨kvs,hx,e'⟩
  ·subst e'
   obtain⟨its,r,pl,hz⟩:=I.list hx
   have hlen:=r.length
   exact wpAny_truthy_list pl.isList (by simp only [aeh];omega) ⟨H,I.tok _,by rw [jJ r];exact q⟩
  ·subst e'
   obtain⟨its,r,pl,hz⟩:=I.tuple hx
   have hlen:=r.length
   exact truthy_tuple pl (by simp only [aeh];omega) ⟨H,I.tok _,by rw [jJ r];exact q⟩
  ·subst e'
   obtain⟨hz,hS,vs,r,m⟩:kvs.length<=sizeLine/\(p == sysModules)=false/\∃ vs,KV kvs vs/\s.heap.DictOf (qm X.prog X.w) p vs:=I.hok p _ hx
   have hlen:kvs.length=vs.length:=Paired.length r
   exact wpAny_truthy_dict hS m (by omega) ⟨H,I.tok _,by rw [vg r];exact q⟩
 | _=>exact (show False from e).elim
theorem aaF (ha:PE X a ta) (he:∀ whole,isTrue a X.env whole=(do let v <- whole;standAt a.pos;holding [v] (truthy v))) :
  PT X a (fun σ H Q=>ta σ H fun x H'=>∃ k,acM X.K x H' k/\Q k H'):=by
 intro pins s σ H Q I h
 exact isTrue_plain (thn (ha pins s σ H _ I h) fun v s1 ⟨x,H1,I1,r1,q1⟩=>acN pins s1 σ H1 x v Q I1 r1 q1) (he _)
theorem vals1 {x:V} {us:List Value} (r:Vals [x] us):∃ u,us=[u]/\RelV x u:=by
 cases r with
 | cons r1 r2=>cases r2;exact⟨_,rfl,r1⟩
theorem vals2 {x y:V} {us:List Value} (r:Vals [x,y] us):∃ u w',us=[u,w']/\RelV x u/\RelV y w':=by
 cases r with
 | cons r1 r2 =>
  cases r2 with
  | cons r3 r4=>cases r4;exact⟨_,_,rfl,r1,r3⟩
theorem aaG:j5 X (.builtin "abs") (fun xs H Q=>∃ i,xs=[.int i]/\Q (.int (if i<0 then -i else i)) H):=by
 intro pins s σ H xs us Q I r h
 obtain⟨i,rfl,q⟩:=h
 obtain⟨u,rfl,t,rfl⟩:=vals1 r
 exact call_abs_int fun u tk=>⟨.int (if i<0 then -i else i),H,I.tok _,⟨_,rfl⟩,q⟩
theorem jl (hc:X.calm=true):j5 X (.builtin "max") (fun xs H Q=>∃ i j,xs=[.int i,.int j]/\Q (.int (if j > i then j else i)) H):=by
 intro pins s σ H xs us Q I r h
 obtain⟨i,j,rfl,q⟩:=h
 obtain⟨u,w',rfl,⟨t,rfl⟩,⟨t',rfl⟩⟩:=vals2 r
 refine max_two_ints (I.ok.hd hc) fun h' tk k=>⟨_,H,I.kept k,?_,q⟩
 by_cases hj:j > i
 ·rw [if_pos hj,if_pos hj];exact⟨_,rfl⟩
 ·rw [if_neg hj,if_neg hj];exact⟨_,rfl⟩
theorem j6 (hc:X.calm=true):j5 X (.builtin "min") (fun xs H Q=>∃ i j,xs=[.int i,.int j]/\Q (.int (if j<i then j else i)) H):=by
 intro pins s σ H xs us Q I r h
 obtain⟨i,j,rfl,q⟩:=h
 obtain⟨u,w',rfl,⟨t,rfl⟩,⟨t',rfl⟩⟩:=vals2 r
 refine min_two_ints (I.ok.hd hc) fun h' tk k=>⟨_,H,I.kept k,?_,q⟩
 by_cases hj:j<i
 ·rw [if_pos hj,if_pos hj];exact⟨_,rfl⟩
 ·rw [if_neg hj,if_neg hj];exact⟨_,rfl⟩
end
structure ObjM (h:Heap) (x dx C:Addr) (mA:Str->Option Value):Prop where
 obj:h.get? x=some (PySem.W.instObj C dx)
 ns:h.Ns1 dx mA
 ne:dx≠x
section
variable {prog:Program} {w:World} {A:Around} {E:Value->Shared->Prop} {s:Shared} {K:ad6} {x dx C f:Addr} {mA:Str->Option Value} {name:Str} {v:Value}
end
structure Cls (K:ad6) (C:Addr):Prop where
 pg:PySem.W.plainGet K C Str.empty=true
 hd:PySem.W.hasDictIn K C=true
 po:PySem.W.plainOver K C=true
 sa:aeZ K (.ref C) "__setattr__"=some (some (.builtin "object.__setattr__"))
structure Con (K:ad6) (C:Addr) (f:Str) (v:V) (u:Value):Prop where
 at_:aeZ K (.ref C) f=some (some u)
 rel:RelV v u
 get:afH K u "__get__"=some none
 cp:PySem.W.copiedNames.contains f=false
structure Meth (K:ad6) (C:Addr) (m:Str) (f:Addr):Prop where
 at_:aeZ K (.ref C) m=some (some (.ref f))
 fn:PySem.W.isFn K (.ref f)=true
 kp:aex K (.ref f)=true
section
variable {X:Cx} {pins:List (Addr×Obj)} {σ:St} {H:Hp} {s:Shared} {a C dx:Addr} {fs:List (Str×V)} {f:Str} {v:V} {A:Around} {E:Value->Shared->Prop}
end
section
variable {X:Cx} {pins:List (Addr×Obj)} {σ:St} {H:Hp} {s:Shared} {A:Around} {E:Value->Shared->Prop} {Q:Value->Shared->Prop} {c:Value} {b:Bool}
inductive TyOf (K:ad6) (H:Hp):V->Value->Prop where
 | non:TyOf K H .non (.type "NoneType")
 | bl (x:Bool):TyOf K H (.bl x) (.type "bool")
 | int (i:Int):TyOf K H (.int i) (.type "int")
 | str (x:Str):TyOf K H (.str x) (.type "str")
 | flt (x:UInt64):TyOf K H (.flt x) (.type "float")
 | lst {a:Addr} {xs:List V} (e:H a=some (.lst xs)):TyOf K H (.ref a) (.type "list")
 | frz {a:Addr} {o:Obj} {xs:List V} (e:H a=some (.frz o (.lst xs))):TyOf K H (.ref a) (.type "list")
 | tup {a:Addr} {xs:List V} (e:H a=some (.tup xs)):TyOf K H (.ref a) (.type "tuple")
 | dK {a:Addr} {kvs:List (Key×V)} (e:H a=some (.dK kvs)):TyOf K H (.ref a) (.type "dict")
 | dT {a:Addr} {kvs:List (List Key×V)} (e:H a=some (.dT kvs)):TyOf K H (.ref a) (.type "dict")
 | ins {a C dx:Addr} {fs:List (Str×V)} (e:H a=some (.ins C dx fs)) (cl:Cls K C) (ha:aeZ K (.ref C) "__class__"=some (some (.builtin "object.__class__")))
   (hn:afH K (.builtin "object.__class__") "__get__"=some (some (.builtin "getset_descriptor.__get__"))) (htk:PySem.W.takesIn K (.builtin "object.__class__")=some true)
   (hm:PySem.W.mroIn K C (.type "object")=some true):TyOf K H (.ref a) (.ref C)
end
structure Room (k:Nat) (A:Around):Prop where
 hd:A.handled=none
 dp:A.depth+3 * k+5<recursionLimit
 un:A.units+16 * k+200<cLine
theorem Room.mono {j k:Nat} {A:Around} (r:Room k A) (h:j<=k):Room j A:=⟨r.hd,by have:=r.dp;omega,by have:=r.un;omega⟩
theorem Room.deeper {k:Nat} {A:Around} (r:Room (k+1) A) (env:Env):Room k (A.deeper env) :=
 ⟨r.hd,by have:=r.dp;show A.depth+1+3 * k+5<_;omega,by have:=r.un;show A.units+3+16 * k+200<_;omega⟩
theorem Room.in1 {k:Nat} {A:Around} (r:Room (k+1) A):Room k A.in1 :=
 ⟨r.hd,by have:=r.dp;show A.depth+3 * k+5<_;omega,by have:=r.un;show A.units+1+16 * k+200<_;omega⟩
theorem Room.depth {k:Nat} {A:Around} (r:Room k A):A.depth<recursionLimit:=by have:=r.dp;omega
theorem Room.units {k:Nat} {A:Around} (r:Room k A):A.units+64<cLine:=by have:=r.un;omega
noncomputable def vh:TA:=fun _ H Q=>Q [] H
noncomputable def y7 (ta:TE) (tr:TA):TA:=fun σ H Q=>ta σ H fun x H1=>tr σ H1 fun xs H2=>Q (x :: xs) H2
section
variable {X:Cx} {e:Expr} {es:List Expr} {te:TE} {t:TA} {pos:Pos}
theorem ze:PA X [] vh:=fun _ _ _ _ H Q I h=>Calls.spliced_nil ⟨[],H,I,.nil,h⟩
theorem za (ha:PE X e te) (hr:PA X es t) (hs:starEach (e :: es) X.env=(false,eval e X.env) :: starEach es X.env:=by rfl):PA X (e :: es) (y7 te t):=by
 intro pos pins s σ H Q I h
 rw [hs]
 show wpAny _ _ (spliced ((false,eval e X.env) :: backTo pos (starEach es X.env))) _ _ s
 refine Calls.spliced_cons (thn (ha pins s σ H _ I h) fun u s1 ⟨x,H1,I1,r1,q1⟩=>?_)
 exact thn (hr pos pins s1 σ H1 _ I1 q1) fun us s2 ⟨xs,H2,I2,r2,q2⟩=>⟨x :: xs,H2,I2,.cons r1 r2,q2⟩
noncomputable def adw (t:TA):TE:=fun σ H Q=>t σ H fun xs H1=>xs.length<=sizeLine/\∀ p,H1 p=none->Q (.ref p) (upd H1 p (.tup xs))
noncomputable def aaH (t:TA):TE:=fun σ H Q=>t σ H fun xs H1=>xs.length<=sizeLine/\∀ p,H1 p=none->Q (.ref p) (upd H1 p (.lst xs))
theorem qr {x1} (h:PA X es t):PE X (.Tuple es x1 pos) (adw t):=by
 intro pins s σ H Q I hq
 refine wpAny_Tuple_spliced (thn (h pos pins s σ H _ I hq) fun us s1 ⟨xs,H1,I1,r,z,q⟩=>⟨by rw [<-r.length];exact z,?_⟩)
 have hf:H1 s1.heap.objs.size=none:=I1.hok.fresh (aej _)
 refine⟨.ref s1.heap.objs.size,upd H1 s1.heap.objs.size (.tup xs),I1.laid (t':=s1.toks) (fun b u e=>aea _ e) (aej _) ?_,rfl,q _ hf⟩
 exact⟨z,us,r,⟨_,aeo _ rfl,rfl,_,rfl⟩⟩
theorem yw (h:PA X es t):PE X (.List es pos) (aaH t):=by
 intro pins s σ H Q I hq
 refine wpAny_List_spliced (thn (h pos pins s σ H _ I hq) fun us s1 ⟨xs,H1,I1,r,z,q⟩=>⟨by rw [<-r.length];exact z,?_⟩)
 have hf:H1 s1.heap.objs.size=none:=I1.hok.fresh (aej _)
 refine⟨.ref s1.heap.objs.size,upd H1 s1.heap.objs.size (.lst xs),I1.laid (t':=s1.toks) (fun b u e=>aea _ e) (aej _) ?_,rfl,q _ hf⟩
 exact⟨z,us,0,r,aeo _ rfl⟩
end
noncomputable abbrev Sp:=List V->Hp->VK->XK->Prop
noncomputable abbrev CXT:=List Env->Hp->Shared->XK->Value->Shared->Prop
structure Env0 (P:Program) (w:World) (K:ad6) (mg:Str->Option Value) (base:Heap) (A:Around) (outer:List Env) (s:Shared) (H:Hp):Prop where
 frames:A.frames=some outer
 mod:Mod K mg base
 bs:∀ b o,base.get? b=some o->s.heap.get? b=some o/\H b=none
 bsz:base.objs.size<=s.heap.objs.size
 funs:s.heap.FunFrames base outer
 frf:∀ b∈frs outer,H b=none
 tabs:TabsOk K H
 hok:HOk P w H s.heap
 bare:AllBare s.gens
noncomputable def CE (outer:List Env) (P:Program) (w:World) (H:Hp) (s:Shared) (Q:VK) (u:Value) (s':Shared):Prop :=
 ∃ v H',s'.os=s.os/\AllBare s'.gens/\Un (frs outer) [] H H' s.heap s'.heap/\HOk P w H' s'.heap/\RelV v u/\Q v H'
noncomputable def CR (CX:CXT) (outer:List Env) (P:Program) (w:World) (H:Hp) (s:Shared) (Q:VK) (E:XK) (r:Result) (s':Shared):Prop :=
 match r with
 | .ok (.ret u)=>CE outer P w H s Q u s'
 | .ok _=>False
 | .error e=>CX outer H s E e s'
structure FnOk (P:Program) (w:World) (K:ad6) (mg:Str->Option Value) (base:Heap) (CX:CXT) (k:Nat) (f:Addr) (fd:FuncData) (ps:List Str) (sp:Sp):Prop where
 len:∀ vs H Q E,sp vs H Q E->vs.length=ps.length
 run:∀ (A:Around) (outer:List Env) (s:Shared) (H:Hp) (args:Args) (us:List Value) (vs:List V) (Q:VK) (E:XK),Room k A->Env0 P w K mg base A outer s H->BindsTo s fd args (ps.zip us)->Vals vs us->sp vs H Q E ->
  codeAny (model P w) A (.call (.ref f) args) (CR CX outer P w H s Q E) s
theorem FnOk.mono {P:Program} {w:World} {K:ad6} {mg:Str->Option Value} {base:Heap} {CX:CXT} {j k:Nat} {f:Addr} {fd:FuncData} {ps:List Str} {sp:Sp} (F:FnOk P w K mg base CX j f fd ps sp) (h:j<=k) :
  FnOk P w K mg base CX k f fd ps sp:=⟨F.len,fun A outer s H args us vs Q E hr=>F.run A outer s H args us vs Q E (hr.mono h)⟩
section
variable {X:Cx} {pins:List (Addr×Obj)} {σ:St} {H:Hp} {s s':Shared}
theorem Inv.env0 (I:Inv X pins σ H s):Env0 X.prog X.w X.K X.mg X.base X.A X.stack s H :=
 ⟨I.ok.frames,I.ok.mod,I.bs,aeC I.ok.bsz I.sz,I.stack,I.stkFree,fun c P q h1 h2 h3=>I.base.tbls _ _ (I.ok.tabs c P q h1 h2 h3),I.hok,I.bare⟩
theorem Inv.after {Q:VK} {u:Value} (I:Inv X pins σ H s) (h:CE X.stack X.prog X.w H s Q u s'):EP X pins σ Q u s':=by
 obtain⟨v,H',os,bare,un,hok,r,q⟩:=h
 obtain⟨hh,g,d,t,os'⟩:=s'
 obtain rfl:os'=s.os:=os
 exact⟨v,H',I.call (h':=hh) (g':=g) (d':=d) (t':=t) (ch:=[]) un hok bare (fun b z=>absurd z (by simp)),r,q⟩
end
noncomputable def vF (sp:Sp) (dvs:List V) (E:XK) (t:TA):TE:=fun σ H Q=>t σ H fun vs H1=>sp (vs++dvs) H1 Q E
noncomputable def Binds (K:ad6) (fd:FuncData) (ps:List Str) (ds:List Value):Prop :=
 ∀ (s:Shared) (us:List Value),K.In s.heap->(us++ds).length=ps.length->BindsTo s fd ⟨us,[]⟩ (ps.zip (us++ds))
theorem Binds.all {K:ad6} {fd:FuncData} {ps:List Str} (h:∀ us:List Value,us.length=ps.length->bindArgs fd ⟨us,[]⟩=pure (ps.zip us)):Binds K fd ps []:=fun s us _ hl=>by
 rw [afP] at hl ⊢
 exact .of_eq (h us hl)
noncomputable def Passes (CX:CXT) (X:Cx) (E:XK):Prop:=∀ (pins:List (Addr×Obj)) (σ:St) (H:Hp) (s:Shared) (e:Value) (s':Shared),Inv X pins σ H s->CX X.stack H s E e s'->X.xe e s'
section
variable {X:Cx} {CX:CXT} {k:Nat} {f C:Addr} {fd:FuncData} {ps:List Str} {sp:Sp} {dvs:List V} {ds:List Value} {E:XK} {x m:Str} {p pos apos:Pos} {e o:Expr} {es:List Expr} {ta:TE} {t:TA}
theorem acO {pins:List (Addr×Obj)} {σ:St} {H:Hp} {s:Shared} {Q:VK} {us:List Value} {vs:List V} (F:FnOk X.prog X.w X.K X.mg X.base CX k f fd ps sp) (hr:Room k X.A) (hb:Binds X.K fd ps ds) (hd:Vals dvs ds) (hx:Passes CX X E)
  (I:Inv X pins σ H s) (r:Vals vs us) (h:sp (vs++dvs) H Q E):wpAny (model X.prog X.w) X.A (call (.ref f) us) (EP X pins σ Q) X.xe s:=by
 have r2:Vals (vs++dvs) (us++ds):=r.append hd
 have hl:(us++ds).length=ps.length:=by rw [<-r2.length];exact F.len _ _ _ _ h
 refine wpAny_call (codeAny_mono (F.run X.A X.stack s H ⟨us,[]⟩ (us++ds) (vs++dvs) Q E hr I.env0 (hb s us I.kIn hl) r2 h) fun r s' hq=>?_)
 cases r with
 | error e=>exact hx pins σ H s e s' I hq
 | ok fl =>
  cases fl with
  | ret u=>exact I.after hq
  | next=>exact ae6 hq
  | brk=>exact ae6 hq
  | cont=>exact ae6 hq
theorem abw (F:FnOk X.prog X.w X.K X.mg X.base CX k f fd ps sp) (hr:Room k X.A) (hg:Gl X x) (hm:X.mg x=some (.ref f)) (hk:aex X.K (.ref f)=true) (hb:Binds X.K fd ps ds) (hd:Vals dvs ds) (hx:Passes CX X E)
  (ha:PA X (e :: es) t) (hdb:(x == ("__debug__":Str))=false:=by decide) (he:starEach (e :: es) X.env=(false,eval e X.env) :: starEach es X.env:=by rfl) (hpl:(backTo pos (starEach es X.env)).any (·.1)=false:=by rfl) :
  PE X (.Call (.Name x p) (e :: es) [] pos) (vF sp dvs E t):=by
 intro pins s σ H Q I h
 refine wpAny_Call_Name_kw (abp I hg hm ?_ hdb)
 refine PySem.W.callWith_K (h₀:=X.base) I.ok.mod.kin hk (thn (ha pos pins s σ H _ I h) fun us s1 ⟨vs,H1,I1,r,q⟩=>⟨I1.kIn,?_⟩) he hpl
 exact acO F hr hb hd hx I1 r q
structure Mk (K:ad6) (C f:Addr):Prop where
 makes:PySem.W.makesIn K C=true
 init:aeZ K (.ref C) "__init__"=some (some (.ref f))
 fn:PySem.W.isFn K (.ref f)=true
 kp:aex K (.ref C)=true
end
section
variable {X:Cx} {CX:CXT} {k:Nat} {f C:Addr} {fd:FuncData} {ps ks:List Str} {sp:Sp} {E:XK} {x m:Str} {p pos apos kpos:Pos} {e o:Expr} {es:List Expr} {kws:List Keyword} {te ta:TE} {t tk:TA} {nm:Option Str}
structure KBinds (K:ad6) (fd:FuncData) (ps ks:List Str) (g:List Value->List Value->List Value) (gV:List V->List V->List V):Prop where
 to:∀ (s:Shared) (us ws:List Value),K.In s.heap->(g us ws).length=ps.length->BindsTo s fd ⟨us,ks.zip ws⟩ (ps.zip (g us ws))
 rel:∀ {vs:List V} {us:List Value} {zs:List V} {ws:List Value},Vals vs us->Vals zs ws->Vals (gV vs zs) (g us ws)
variable {g:List Value->List Value->List Value} {gV:List V->List V->List V}
end
structure FnScope (N P:List Str) (sc:Scope):Prop where
 kind:sc.kind=.function
 co:sc.isCoroutine=false
 gen:sc.isGenerator=false
 nd:N.Nodup
 pre:N.take P.length=P
 par:∀ x∈P,sc.names.lookup x=some .local \/ sc.names.lookup x=some .cell
 nofree:∀ y∈sc.names,y.2≠.free
theorem j7 {kindOf:Str->Option NameKind} {x:Str}:∀ {binds:List (Str×Value)} {m:Str->Option Value},(∀ v,(x,v)∉binds)->bindL kindOf binds m x=m x
 | [],_,_=>rfl
 | (n,v) :: r,m,h=>by
  unfold bindL
  rw [j7 fun w hw=>h w (aeb _ hw)]
  split
  ·have:x≠n:=by rintro rfl;exact h v aep
   simp [this]
  ·rfl
theorem j8 {kindOf:Str->Option NameKind} {x:Str}:∀ {binds:List (Str×Value)} {m:Str->Option Value},(∀ v,(x,v)∉binds)->bindC kindOf binds m x=m x
 | [],_,_=>rfl
 | (n,v) :: r,m,h=>by
  unfold bindC
  rw [j8 fun w hw=>h w (aeb _ hw)]
  split
  ·rfl
  ·have:x≠n:=by rintro rfl;exact h v aep
   simp [this]
theorem j9 {kindOf:Str->Option NameKind} {x:Str} {v:Value}:∀ {P:List Str} {vs:List Value} {i:Nat} {m:Str->Option Value},P.Nodup->P[i]?=some x->vs[i]?=some v->kindOf x=some .local ->
  bindL kindOf (P.zip vs) m x=some v
 | [],_,_,_,_,h,_,_=>by simp at h
 | _ :: _,[],_,_,_,_,h,_=>by simp at h
 | p :: P,w :: vs,0,m,nd,h1,h2,hk=>by
  simp at h1 h2;subst h1;subst h2
  show bindL kindOf ((p,w) :: P.zip vs) m p=_
  unfold bindL
  rw [j7 fun v hv=>(ae9.mp nd).1 (afQ hv).1,if_pos hk]
  simp
 | p :: P,w :: vs,i+1,m,nd,h1,h2,hk=>by
  show bindL kindOf ((p,w) :: P.zip vs) m x=_
  unfold bindL
  exact j9 (i:=i) (ae9.mp nd).2 (by simpa using h1) (by simpa using h2) hk
theorem qe {kindOf:Str->Option NameKind} {x:Str} {v:Value}:∀ {P:List Str} {vs:List Value} {i:Nat} {m:Str->Option Value},P.Nodup->P[i]?=some x->vs[i]?=some v->kindOf x≠some .local ->
  bindC kindOf (P.zip vs) m x=some v
 | [],_,_,_,_,h,_,_=>by simp at h
 | _ :: _,[],_,_,_,_,h,_=>by simp at h
 | p :: P,w :: vs,0,m,nd,h1,h2,hk=>by
  simp at h1 h2;subst h1;subst h2
  show bindC kindOf ((p,w) :: P.zip vs) m p=_
  unfold bindC
  rw [j8 fun v hv=>(ae9.mp nd).1 (afQ hv).1,if_neg hk]
  simp
 | p :: P,w :: vs,i+1,m,nd,h1,h2,hk=>by
  show bindC kindOf ((p,w) :: P.zip vs) m x=_
  unfold bindC
  exact qe (i:=i) (ae9.mp nd).2 (by simpa using h1) (by simpa using h2) hk
noncomputable def start (N:List Str) (vs:List V):St:=vs.map some++afd (N.length - vs.length) none
noncomputable def yF (CX:CXT) (P:Program) (w:World) (K:ad6) (mg:Str->Option Value) (base:Heap) (N:List Str) (qual:Str) (scope:Scope) (f:Addr) (cd:Value) (A:Around) (outer:List Env) (s:Shared) (H:Hp) (E:XK):Cx where
 prog:=P
 w:=w
 K:=K
 mg:=mg
 base:=base
 A:=A.deeper (envOfC qual scope s.heap.objs.size f cd)
 N:=N
 s₀:=s
 H₀:=H
 env:=envOfC qual scope s.heap.objs.size f cd
 outer:=outer
 stack:=envOfC qual scope s.heap.objs.size f cd :: outer
 ex:=[]
 calm:=true
 fn:=fun _=>true
 pn:=[]
 xe:=fun e s'=>wpAny (model P w) (A.deeper (envOfC qual scope s.heap.objs.size f cd)) (leaving (envOfC qual scope s.heap.objs.size f cd) e) (fun _ s''=>CX outer H s E e s'') (fun e' s''=>CX outer H s E e' s'') s'
theorem qK {sc:Scope} {n:Nat} {x:Str} (h:sc.names.lookup x=some .cell):∃ c,(cellsFrom n sc.names []).lookup x=some c:=by
 have q:=ae7 sc.names n [] (.inl h)
 exact afg.mp q
theorem aad {CX:CXT} {P:Program} {w:World} {K:ad6} {mg:Str->Option Value} {base:Heap} {N ps:List Str} {qual:Str} {scope:Scope} {f:Addr} {cd:Value} {A:Around} {outer:List Env} {s s1:Shared} {H:Hp} {E:XK} {us:List Value} {vs:List V}
  (S:FnScope N ps scope) (hd:A.handled=none) (e0:Env0 P w K mg base A outer s H) (hl:vs.length=ps.length) (r:Vals vs us)
  (x:InCallC s s.heap.objs.size (bindL (envOfC qual scope s.heap.objs.size f cd).kindOf (ps.zip us) fun _=>none) (cellsFrom (s.heap.objs.size+1) scope.names []) (bindC (envOfC qual scope s.heap.objs.size f cd).kindOf (ps.zip us) fun _=>none) s1) :
  Inv (yF CX P w K mg base N qual scope f cd A outer s H E) [] (start N vs) H s1:=by
 have hpl:ps.length<=N.length:=by have:=congrArg List.length S.pre;rw [aeH] at this;omega
 obtain⟨h1,tk,rfl,hk⟩:=x.done
 have noA:∀ b:Addr,b∉(yF CX P w K mg base N qual scope f cd A outer s H E).ex:=fun b z=>absurd (show b∈([]:List Addr) from z) (by simp)
 refine⟨⟨e0.mod,S.kind,rfl,rfl,aej _,fun y z c h1 h2=>?_,fun y hy=>?_,fun y c _ h=>?_,fun _=>hd,Around.frames_deeper e0.frames,.inr ⟨rfl,rfl⟩,fun b z=>absurd z (noA b),e0.bs,e0.bsz,fun b _ _=>noA b,fun b z=>absurd z (noA b),e0.funs,e0.frf,e0.tabs⟩,
  rfl,e0.bare,Un.kept hk,⟨_,x.toInCall.ns,fun i y v h1 h2 h3=>?_⟩,fun y c h=>⟨_,x.cell y c h⟩,e0.hok.fresh (aej _),fun y c h=>?_,fun p hp=>absurd (show p∈([]:List (Addr×Obj)) from hp) (by simp),e0.hok.kept hk,?_⟩
 ·exact name_of_addr x.apart (aeW h1) (aeW h2)
 ·have hy:scope.names.lookup y=some .cell \/ scope.names.lookup y=some .free:=hy
  rcases hy with hy | hy
  ·exact qK hy
  ·exact absurd rfl (S.nofree _ (aeW hy))
 ·exact aeQ (x.above y c (aeW h))
 ·have hi:i<vs.length:=by
   unfold start at h2
   by_cases hi:i<vs.length
   ·exact hi
   ·rw [aec (by simpa using hi)] at h2
    rw [ae0] at h2
    split at h2 <;> cases h2
  have ha:vs[i]?=some v:=by
   unfold start at h2
   rw [ad8 (by simpa using hi),aee] at h2
   cases e:vs[i]? with
   | none=>rw [e] at h2;cases h2
   | some a=>rw [e] at h2;cases h2;rfl
  obtain⟨u,hu,rv⟩:=r.get ha
  have hp:ps[i]?=some y:=by
   rw [<-S.pre,aeK (by omega)];exact h1
  have ndP:ps.Nodup:=by rw [<-S.pre];exact S.nd.sublist (List.take_sublist _ _)
  refine⟨u,rv,?_⟩
  rcases S.par y (aem hp) with k | k
  ·exact .inl ⟨k,j9 ndP hp hu k⟩
  ·obtain⟨c,e⟩:=qK (n:=s.heap.objs.size+1) k
   refine .inr ⟨.inl k,c,e,?_⟩
   have q:=x.cell y c e
   rw [qe ndP hp hu (by show scope.names.lookup y≠_;rw [k];decide)] at q
   exact q
 ·exact e0.hok.fresh (aeQ (x.above y c (aeW h)))
 ·unfold start
  show _=N.length
  rw [ael,ad5,afn]
  omega
theorem acg {CX:CXT} {P:Program} {w:World} {K:ad6} {mg:Str->Option Value} {base:Heap} {k:Nat} {f:Addr} {name qual:Str} {params:Arguments} {body:List Stmt} {scope:Scope} {dV kV doc pm cdv ct oc:Value} {an od:Option Addr}
  {osl:Array (Option Value)} {N ps:List Str} {sp:Sp} (lk:K.lookup f=some ⟨oc,od,.func (aeB name qual params body scope dV kV doc pm an cdv ct),osl⟩) (hcd:aet K cdv qual=true) (S:FnScope N ps scope)
  (len:∀ vs H Q E,sp vs H Q E->vs.length=ps.length)
  (hbody:∀ (A:Around) (outer:List Env) (s:Shared) (H:Hp) (vs:List V) (Q:VK) (E:XK),Room k (A.deeper (envOfC qual scope s.heap.objs.size f cdv))->sp vs H Q E ->
   ∃ t,PSs (yF CX P w K mg base N qual scope f cdv A outer s H E) body t/\t { nx:=fun _ H'=>Q .non H',rt:=Q } (start N vs) H) :
  FnOk P w K mg base CX (k+1) f (aeB name qual params body scope dV kV doc pm an cdv ct) ps sp:=by
 refine⟨len,fun A outer s H args us vs Q E hr e0 hb r hsp=>?_⟩
 have hl:=len _ _ _ _ hsp
 have KX:K.In s.heap:=e0.mod.kin.keeps fun b o e=>(e0.bs b o e).1
 have lim:s.heap.NoLimit:=e0.mod.nolimit.keeps fun b o e=>(e0.bs b o e).1
 have hkind:∀ y∈ps.zip us,scope.names.lookup y.1=some .local \/ (scope.names.lookup y.1=some .cell/\((cellsFrom (s.heap.objs.size+1) scope.names []).lookup y.1).isSome=true):=fun⟨n,v⟩ hy=>by
  rcases S.par n (afQ hy).1 with q | q
  ·exact .inl q
  ·exact .inr ⟨q,ae7 _ _ _ (.inl q)⟩
 refine codeAny_call_function hr.depth (KX _ _ lk) rfl S.co S.gen rfl (PySem.W.codeRec_of KX hcd) (hb _ _ _ _ ?_)
 refine wpAny_newFunctionEnv_cells S.kind hkind fun env he s1 x=>?_
 subst he
 refine⟨lim.keeps x.toInCall.keep,codeAny_func ?_⟩
 obtain⟨t,ht,hq⟩:=hbody A outer s H vs Q E (hr.deeper _) hsp
 have I:Inv (yF CX P w K mg base N qual scope f cdv A outer s H E) [] (start N vs) H s1:=aad S hr.hd e0 hl r x
 refine wpAny_mono (ht [] s1 (start N vs) H _ I hq) (fun fl s' hs=>?_) fun e s' hs=>hs
 have fin:∀ {σ':St} {H':Hp} {v:V} {u:Value},Inv (yF CX P w K mg base N qual scope f cdv A outer s H E) [] σ' H' s'->RelV v u->Q v H'->CE outer P w H s Q u s' :=
  fun {σ' H' v u} J rv q=>⟨v,H',J.os,J.bare,J.base,J.hok,rv,q⟩
 cases fl with
 | ret u =>
  obtain⟨v,σ',H',J,rv,q⟩:=hs
  exact fin J rv q
 | next =>
  obtain⟨σ',H',J,q⟩:=hs
  exact fin (v:=V.non) (u:=Value.none) J rfl q
 | brk =>
  obtain⟨_,_,_,q⟩:=hs
  exact ae6 q
 | cont =>
  obtain⟨_,_,_,q⟩:=hs
  exact ae6 q
section
variable {X:Cx} {x:Str} {p pos:Pos} {e:Expr} {es:List Expr} {t:TA} {id T:String} {r:List V->Hp->VK->Prop}
noncomputable def tCB (r:List V->Hp->VK->Prop) (t:TA):TE:=fun σ H Q=>t σ H fun vs H1=>r vs H1 Q
theorem zA (hc:j5 X (.builtin id) r) (hg:Gl X x) (hm:X.mg x=none) (hv:bootBuiltins x=some (.builtin id)) (ha:PA X (e :: es) t) (hn:x ≠ "__name__":=by decide) (hdb:(x == ("__debug__":Str))=false:=by decide)
  (he:starEach (e :: es) X.env=(false,eval e X.env) :: starEach es X.env:=by rfl) (hpl:(backTo pos (starEach es X.env)).any (·.1)=false:=by rfl):PE X (.Call (.Name x p) (e :: es) [] pos) (tCB r t):=by
 intro pins s σ H Q I h
 refine wpAny_Call_Name_kw (jg I hg hm hv ?_ hn hdb)
 exact PyProof.Rows.callWith_builtin1 (thn (ha pos pins s σ H _ I h) fun us s1 ⟨vs,H1,I1,r1,q1⟩=>hc pins s1 σ H1 vs us Q I1 r1 q1) he hpl
end
end L2
namespace HT
open PySem PyProof.Rows
section
open PySem.SeqAt
open PySem.AutoSeq1 (wpAny_loadPart')
open PySem.MeetsSeq PySem.MeetsSeq2 PySem.MeetsSeq3
end
section
variable {prog:Program} {w:World} {A:Around} {E:Value->Shared->Prop} {s:Shared}
noncomputable def sIx (n d:Nat):Option Int->Nat
 | none=>d
 | some v=>if v<0 then (v+(n:Int)).toNat else min v.toNat n
theorem sIx_nat (n d k:Nat):sIx n d (some (k:Int))=min k n:=by
 show (if (k:Int)<0 then ((k:Int)+(n:Int)).toNat else min (k:Int).toNat n)=min k n
 rw [if_neg (by omega),aeu]
end
end HT
namespace L2
open PySem PySem.Spec PyProof.Rows
noncomputable abbrev TO:=St->Hp->(Option Int->Hp->Prop)->Prop
noncomputable def PO (X:Cx) (e:Option Expr) (t:TO):Prop :=
 ∀ (pins:List (Addr×Obj)) (s:Shared) (σ:St) (H:Hp) (Q:Option Int->Hp->Prop),Inv X pins σ H s->t σ H Q ->
  wpAny (model X.prog X.w) X.A (evalPart e X.env) (fun u s'=>∃ o H',Inv X pins σ H' s'/\IsPart u o/\Q o H') X.xe s
noncomputable def ach (t:TE):TO:=fun σ H Q=>t σ H fun x H1=>∃ i,x=.int i/\Q (some i) H1
section
variable {X:Cx} {e:Expr} {te:TE} {lo hi:Option Expr} {tl th:TO} {pos p2:Pos}
theorem vG (h:PE X e te):PO X (some e) (ach te):=by
 intro pins s σ H Q I hw
 rw [evalPart_some]
 refine thn (h pins s σ H _ I hw) fun u s1 ⟨x,H1,I1,r1,q1⟩=>?_
 obtain⟨i,rfl,q⟩:=q1
 obtain⟨t,rfl⟩:=r1
 exact⟨some i,H1,I1,.int i t,q⟩
noncomputable def SlR (X:Cx) (r:V->Option Int->Option Int->Hp->VK->Prop):Prop :=
 ∀ (pins:List (Addr×Obj)) (s:Shared) (σ:St) (H:Hp) (x:V) (v vl vu:Value) (lo hi:Option Int) (sl:Addr) (Q:VK),Inv X pins σ H s->RelV x v->s.heap.IsSliceOf sl vl vu .none->IsPart vl lo->IsPart vu hi->r x lo hi H Q ->
  ∃ T id,typeLookup (.type T) "__getitem__"=pure (some (.builtin id))/\s.TypeIs v T/\wpAny (model X.prog X.w) X.A (getItem v (.ref sl)) (EP X pins σ Q) X.xe s
noncomputable def tSl (r:V->Option Int->Option Int->Hp->VK->Prop) (te:TE) (tl th:TO):TE:=fun σ H Q=>te σ H fun x H1=>tl σ H1 fun l H2=>th σ H2 fun u H3=>r x l u H3 Q
theorem aaI {r:V->Option Int->Option Int->Hp->VK->Prop} (hr:SlR X r) (he:PE X e te) (hl:PO X lo tl) (hu:PO X hi th):PE X (.Subscript e (.Slice lo hi none p2) pos) (tSl r te tl th):=by
 intro pins s σ H Q I h
 refine Subscript_ (thn (he pins s σ H _ I h) fun v s1 ⟨x,H1,I1,r1,q1⟩=>?_)
 refine wpAny_Slice (thn (hl pins s1 σ H1 _ I1 q1) fun vl s2 ⟨l,H2,I2,pl,q2⟩=>thn (hu pins s2 σ H2 _ I2 q2) fun vu s3 ⟨u,H3,I3,pu,q3⟩=>?_)
 rw [evalPart_none]
 refine wpAny_pure ?_
 have I4:Inv X pins σ H3 { s3 with heap:=s3.heap.push { cls:=.type "slice",data:=.fields #[vl,vu,.none] } }:=I3.kept (t':=s3.toks) fun b ob q=>aea _ q
 obtain⟨T,id,hT,ht,hg⟩:=hr pins { s3 with heap:=s3.heap.push { cls:=.type "slice",data:=.fields #[vl,vu,.none] } } σ H3 x v vl vu l u s3.heap.objs.size Q I4 r1 (Heap.IsSliceOf.new ..) pl pu q3
 show wpAny (model X.prog X.w) X.A (subscriptTail e (.Slice lo hi none p2) v (.ref s3.heap.objs.size)) (EP X pins σ Q) X.xe { s3 with heap:=s3.heap.push { cls:=.type "slice",data:=.fields #[vl,vu,.none] } }
 exact tail_any (ops:=[.ref s3.heap.objs.size,v]) ht hT hg (by with_unfolding_all rfl)
noncomputable def vi (xs:List V) (lo hi:Option Int):List V:=(xs.drop (HT.sIx xs.length 0 lo)).take (HT.sIx xs.length xs.length hi - HT.sIx xs.length 0 lo)
theorem qL (xs:List V) (lo hi:Option Int):(vi xs lo hi).length<=xs.length:=by
 unfold vi
 rw [aeH,List.length_drop]
 omega
end
noncomputable def ixN (n:Nat) (i:Int):Option Nat:=if 0<=i then (if i<n then some i.toNat else none) else if -(n:Int)<=i then some (i+n).toNat else none
noncomputable def atI {α:Type} (xs:List α) (i:Int):Option α:=(ixN xs.length i).bind fun j=>xs[j]?
theorem vH {n:Nat} {i:Int} {j:Nat} (h:ixN n i=some j):seqIndex? i n=some j/\j<n/\-(n:Int)<=i/\i<n:=by
 unfold ixN at h
 by_cases h0:0<=i
 ·rw [if_pos h0] at h
  by_cases h1:i<n
  ·rw [if_pos h1] at h
   have e:i.toNat=j:=Option.some.inj h
   exact⟨by rw [seqIndex_of h0 h1,e],by omega,by omega,h1⟩
  ·rw [if_neg h1] at h;cases h
 ·rw [if_neg h0] at h
  by_cases h1:-(n:Int)<=i
  ·rw [if_pos h1] at h
   have e:(i+n).toNat=j:=Option.some.inj h
   exact⟨by rw [seqIndex_neg (by omega) h1,e],by omega,h1,by omega⟩
  ·rw [if_neg h1] at h;cases h
theorem vI {α:Type} {xs:List α} {i:Int} {v:α} (h:atI xs i=some v):∃ j,seqIndex? i xs.length=some j/\xs[j]?=some v/\j<xs.length/\-(xs.length:Int)<=i/\i<xs.length:=by
 unfold atI at h
 cases e:ixN xs.length i with
 | none=>rw [e] at h;cases h
 | some j =>
  rw [e] at h
  obtain⟨h1,h2,h3,h4⟩:=vH e
  exact⟨j,h1,h,h2,h3,h4⟩
noncomputable def vJ (b:Expr):Prop:=∀ o i,subscripted b false o i=operate [o,i] (getItem o i)
noncomputable def IxR (X:Cx) (r:R2):Prop :=
 ∀ (value slice:Expr) (pins:List (Addr×Obj)) (s:Shared) (σ:St) (H:Hp) (x y:V) (v u:Value) (Q:VK),Inv X pins σ H s->RelV x v->RelV y u->r x y H Q ->
  subscripted slice false v u=operate [v,u] (getItem v u)->wpAny (model X.prog X.w) X.A (subscriptTail value slice v u) (EP X pins σ Q) X.xe s
noncomputable def MtR (X:Cx) (id:String) (r:V->List V->Hp->VK->Prop):Prop :=
 ∀ (pins:List (Addr×Obj)) (s:Shared) (σ:St) (H:Hp) (x:V) (xs:List V) (v:Value) (us:List Value) (Q:VK),Inv X pins σ H s->RelV x v->Vals xs us->r x xs H Q ->
  wpAny (model X.prog X.w) X.A (call (.builtin id) (v :: us)) (EP X pins σ Q) X.xe s
section
variable {X:Cx} {a b:Expr} {ta tb:TE} {pos:Pos}
theorem zq {r:R2} (hr:IxR X r) (ha:PE X a ta) (hb:PE X b tb) (hs:vJ b):PE X (.Subscript a b pos) (tOp r ta tb):=by
 intro pins s σ H Q I h
 exact Subscript_ (acJ ha hb I h fun v u s2 x y H2 I2 rx ry q=>hr a b pins s2 σ H2 x y v u Q I2 rx ry q (hs _ _))
noncomputable def aae (K:ad6):R2:=fun x y H Q=>∃ p xs i v,x=.ref p/\y=.int i/\SqL K H p xs/\atI xs i=some v/\Q v H
noncomputable def acP (K:ad6):R2:=fun x y H Q=>∃ p xs i v,x=.ref p/\y=.int i/\SqT K H p xs/\atI xs i=some v/\Q v H
theorem abx:IxR X (aae X.K):=by
 intro value slice pins s σ H x y v u Q I rx ry h hs
 obtain⟨p,xs,i,z,rfl,rfl,hq,he,q⟩:=h
 cases rx
 obtain⟨t,rfl⟩:=ry
 obtain⟨its,r,pl,hz⟩:=I.list hq
 obtain⟨j,h1,h2,h3,h4,h5⟩:=vI he
 obtain⟨w,ew,rw'⟩:=r.get h2
 have hl:=r.length
 have hn:=jk
 have fin:EP X pins σ Q w s:=⟨z,H,I,rw',q⟩
 by_cases h0:0<=i
 ·have hj:i.toNat=j:=by
   rw [seqIndex_of h0 h5] at h1
   exact Option.some.inj h1
  exact item_listR pl.isList h0 (by omega) (by rw [hj];simpa using ew) fin hs
 ·have hj:(i+(its.toArray.size:Int)).toNat=j:=by
   rw [seqIndex_neg (by omega) h4] at h1
   rw [aeh,<- hl]
   exact Option.some.inj h1
  exact subscriptTail_builtinR (x:=w) pl.isList.typeIs slot_list_getitem.lookup
   (wpAny_getItem_list_neg (Q:=fun r s'=>r=w/\EP X pins σ Q r s') pl.isList (by omega) (by rw [aeh] <;> omega) (by omega) (by rw [hj];simpa using ew) ⟨rfl,fin⟩) hs
theorem acQ:IxR X (acP X.K):=by
 intro value slice pins s σ H x y v u Q I rx ry h hs
 obtain⟨p,xs,i,z,rfl,rfl,hq,he,q⟩:=h
 cases rx
 obtain⟨t,rfl⟩:=ry
 obtain⟨its,r,pl,hz⟩:=I.tuple hq
 obtain⟨j,h1,h2,h3,h4,h5⟩:=vI he
 obtain⟨w,ew,rw'⟩:=r.get h2
 have hl:=r.length
 have hn:=jk
 have fin:EP X pins σ Q w s:=⟨z,H,I,rw',q⟩
 exact subscriptTail_builtinR (x:=w) pl.typeIs slot_tuple_getitem.lookup
  (getItem_tuple (j:=j) (Q:=fun r s'=>r=w/\EP X pins σ Q r s') pl (by omega) (by omega) (by rw [aeh,<- hl];exact h1) (by simpa using ew) ⟨rfl,fin⟩) hs
theorem vj (its:List Value) (n j:Nat) (u:Value):afo (·.setIfInBounds j u) { cls:=.type "list",data:=.seq its.toArray n }={ cls:=.type "list",data:=.seq (its.set j u).toArray n }:=by
 simp [afo]
theorem Inv.lst {pins:List (Addr×Obj)} {σ:St} {H:Hp} {s:Shared} {p:Addr} {xs:List V} (I:Inv X pins σ H s) (h:H p=some (.lst xs)) :
  ∃ (its:List Value) (n:Nat),Vals xs its/\s.heap.get? p=some { cls:=.type "list",data:=.seq its.toArray n }/\xs.length<=sizeLine:=by
 obtain⟨z,its,n,r,e⟩:=I.hok p _ h
 exact⟨its,n,r,e,z⟩
theorem Inv.lstUpd {pins:List (Addr×Obj)} {σ:St} {H:Hp} {s:Shared} {p:Addr} {xs ys:List V} {its its':List Value} {n n':Nat} {f:Obj->Obj} (I:Inv X pins σ H s) (h:H p=some (.lst xs))
  (ho:s.heap.get? p=some { cls:=.type "list",data:=.seq its.toArray n }) (hf:f { cls:=.type "list",data:=.seq its.toArray n }={ cls:=.type "list",data:=.seq its'.toArray n' }) (r:Vals ys its') (hz:ys.length<=sizeLine) (t:Nat) :
  Inv X pins σ (upd H p (.lst ys)) { s with heap:=s.heap.update p f,toks:=t }:=by
 have e:(s.heap.update p f).get? p=some { cls:=.type "list",data:=.seq its'.toArray n' }:=by
  rw [afS f ho (by rw [hf] <;> rfl),hf]
 refine I.write (x:=p) (e:=p) (by rw [h];trivial) (.inl rfl) (fun b u hb q=>(afk _ _ (afj hb)).trans q) ⟨_,e⟩ ?_
 exact⟨hz,its',n',r,e⟩
noncomputable def qM:V->V->V->Hp->(Hp->Prop)->Prop:=fun o i v H Q=>∃ p xs k j,o=.ref p/\i=.int k/\H p=some (.lst xs)/\ixN xs.length k=some j/\Q (upd H p (.lst (xs.set j v)))
theorem set_list:adq X qM:=by
 intro pins s σ H o i v ov iv u Q I ro ri rv h
 obtain⟨p,xs,k,j,rfl,rfl,hp,hj,q⟩:=h
 cases ro
 obtain⟨t,rfl⟩:=ri
 obtain⟨its,n,r,ho,hz⟩:=I.lst hp
 obtain⟨h1,h2,h3,h4⟩:=vH hj
 have hl:=r.length
 have hn:=jk
 have I':Inv X pins σ (upd H p (.lst (xs.set j v))) { s with heap:=s.heap.update p (afo (·.setIfInBounds j u)) } :=
  I.lstUpd hp ho (vj its n j u) (r.set rv j) (by rw [afa];exact hz) s.toks
 by_cases h0:0<=k
 ·have hk:k.toNat=j:=by
   rw [seqIndex_of h0 h4] at h1
   exact Option.some.inj h1
  exact PySem.W.ki_setAt ho h0 (by omega) (by rw [aeh,<- hl];exact h4) (by rw [hk];exact⟨_,I',q⟩)
 ·have hk:(k+(its.toArray.size:Int)).toNat=j:=by
   rw [seqIndex_neg (by omega) h3] at h1
   rw [aeh,<- hl]
   exact Option.some.inj h1
  exact PySem.W.ki_setBack ho (by omega) (by rw [aeh,<- hl];exact h3) (by omega) (by rw [hk];exact⟨_,I',q⟩)
theorem qs (lo hi:Option Int) (n:Nat):(sliceBounds lo hi none n).1=((HT.sIx n 0 lo:Nat):Int)/\(sliceBounds lo hi none n).2.1=((HT.sIx n n hi:Nat):Int)/\(sliceBounds lo hi none n).2.2=1:=by
 refine⟨?_,?_,rfl⟩
 ·cases lo with
  | none=>simp [sliceBounds,HT.sIx]
  | some i =>
   simp only [sliceBounds,HT.sIx,Option.getD_none,show (1:Int) > 0 by decide,if_true]
   by_cases h:i<0
   ·simp only [h,if_true] <;> omega
   ·simp only [h,if_false] <;> omega
 ·cases hi with
  | none=>simp [sliceBounds,HT.sIx]
  | some i =>
   simp only [sliceBounds,HT.sIx,Option.getD_none,show (1:Int) > 0 by decide,if_true]
   by_cases h:i<0
   ·simp only [h,if_true] <;> omega
   ·simp only [h,if_false] <;> omega
theorem jY (its:List Value) (lo hi:Option Int):slicePick its.toArray lo hi none=((its.drop (HT.sIx its.length 0 lo)).take (HT.sIx its.length its.length hi - HT.sIx its.length 0 lo)).toArray:=by
 obtain⟨h1,h2,h3⟩:=qs lo hi its.toArray.size
 unfold slicePick
 rw [h1,h2,h3]
 simp only [sliceRange_one,pick_run,aeh] <;> rfl
noncomputable def aby (K:ad6):V->Option Int->Option Int->Hp->VK->Prop:=fun x lo hi H Q=>∃ a xs,x=.ref a/\SqL K H a xs/\∀ p,H p=none->Q (.ref p) (upd H p (.lst (vi xs lo hi)))
theorem abz:SlR X (aby X.K):=by
 intro pins s σ H x v vl vu lo hi sl Q I rx hs pl pu h
 obtain⟨a,xs,rfl,hx,q⟩:=h
 cases rx
 obtain⟨its,r,ht,hz⟩:=I.list hx
 have hlen:=r.length
 refine⟨"list",_,slot_list_getitem.lookup,ht.isList.typeIs,?_⟩
 refine wpAny_getItem_list_slice ht.isList hs pl pu .none (by simp) ?_ (by rw [aeh] <;> omega)
 rw [jY,<- hlen]
 refine⟨.ref s.heap.objs.size,_,I.laid (t':=s.toks) (o:=.lst (vi xs lo hi)) (fun b ob q=>aea _ q) (aej _) ?_,rfl,q _ (I.hok.fresh (aej _))⟩
 exact⟨aeC (qL xs lo hi) hz,_,0,(r.drop (HT.sIx xs.length 0 lo)).take (HT.sIx xs.length xs.length hi - HT.sIx xs.length 0 lo),aeo _ rfl⟩
theorem qt:j5 X (.builtin "len") (fun xs H Q=>∃ p ys,xs=[.ref p]/\(SqL X.K H p ys \/ SqT X.K H p ys)/\Q (.int ys.length) H):=by
 intro pins s σ H xs us Q I r h
 obtain⟨p,ys,rfl,hq,q⟩:=h
 obtain⟨u,rfl,rx⟩:=vals1 r
 cases rx
 have hn:=jk
 rcases hq with hq | hq
 ·obtain⟨its,r',pl,hz⟩:=I.list hq
  have hlen:=r'.length
  exact Calls.call_len_list pl.isList (by simp only [aeh] <;> omega) ⟨.int ys.length,H,I.tok _,⟨s.toks+1,by rw [aeh,hlen]⟩,q⟩
 ·obtain⟨its,r',pl,hz⟩:=I.tuple hq
  have hlen:=r'.length
  exact len_tuple pl (by simp only [aeh] <;> omega) ⟨.int ys.length,H,I.tok _,⟨s.toks+1,by rw [aeh,hlen]⟩,q⟩
noncomputable def tyV (K:ad6) (T:String) (x:V) (H:Hp):Prop:=match x with
 | .str _=>T="str"
 | .int _=>T="int"
 | .ref p=>(T="list"/\∃ xs,SqL K H p xs) \/ (T="tuple"/\∃ o,K.lookup p=some o/\o.cls=.type "tuple"/\o.dict=none) \/
   (T="dict"/\((∃ kvs,H p=some (.dK kvs)) \/ ∃ kvs,H p=some (.dT kvs))) \/ (T="set"/\∃ S n,H p=some (.set S n))
 | _=>False
theorem acR {pins:List (Addr×Obj)} {σ:St} {H:Hp} {s:Shared} {T:String} {x:V} {v:Value} (I:Inv X pins σ H s) (r:RelV x v) (ty:tyV X.K T x H) :
  s.TypeIs v T/\∀ a,v=.ref a->∃ ob,s.heap.get? a=some ob/\ob.dict=none:=by
 cases x with
 | str z =>
  obtain⟨t,rfl⟩:=r
  cases (show T="str" from ty)
  exact⟨typeIs_str s z t,fun _ e=>nomatch e⟩
 | int i =>
  obtain⟨t,rfl⟩:=r
  cases (show T="int" from ty)
  exact⟨typeIs_int s i t,fun _ e=>nomatch e⟩
 | ref p =>
  cases r
  rcases ty with⟨rfl,xs,hq⟩ | ⟨rfl,o,hk,hc,hd⟩ | ⟨rfl,hk⟩ | ⟨rfl,S,n,hk⟩
  ·obtain⟨its,_,pl,_⟩:=I.list hq
   refine⟨pl.isList.typeIs,fun a e=>?_⟩
   cases e
   obtain⟨o,n,e,c,hd,_⟩:=pl
   exact⟨o,e,hd⟩
  ·refine⟨⟨o,I.kIn p o hk,hc⟩,fun a e=>?_⟩
   cases e
   exact⟨o,I.kIn _ o hk,hd⟩
  ·have z:∃ o,s.heap.get? p=some o/\o.ExactDict:=by
    rcases hk with⟨kvs,hk⟩ | ⟨kvs,hk⟩
    ·obtain⟨_,_,_,_,o,_,_,e,ex,_⟩:=I.hok p _ hk
     exact⟨o,e,ex⟩
    ·obtain⟨_,_,_,_,o,_,_,e,ex,_⟩:=I.hok p _ hk
     exact⟨o,e,ex⟩
   obtain⟨o,e,ex⟩:=z
   refine⟨⟨o,e,ex.1⟩,fun a e2=>?_⟩
   cases e2
   exact⟨o,e,ex.2.1⟩
  ·obtain⟨o,_,_,_,e,ex,_⟩:=I.hok p _ hk
   refine⟨⟨o,e,ex.1⟩,fun a e2=>?_⟩
   cases e2
   exact⟨o,e,ex.2.1⟩
 | _=>exact ae6 ty
noncomputable def tBM (K:ad6) (T:String) (r:V->List V->Hp->VK->Prop) (to:TE) (t:TA):TE:=fun σ H Q=>to σ H fun x H1=>tyV K T x H1/\t σ H1 fun xs H2=>r x xs H2 Q
variable {o e:Expr} {es:List Expr} {to:TE} {t:TA} {name:Str} {apos cpos:Pos} {T id:String} {r:V->List V->Hp->VK->Prop}
theorem vK (pa:PlainAttrs T) (slot:Slot T name id) (hty:typeOf (.builtin id)=pure (.type "method_descriptor")) (hm:MtR X id r) (ho:PE X o to) (ha:PA X (e :: es) t)
  (hbase:attributeBase o name X.env (eval o X.env)=eval o X.env:=by rfl)
  (hfew:((backTo cpos (starEach (e :: es) X.env)).all (fun x=>!x.1) && (backToKw cpos (keywordEach [] X.env)).all (fun x=>x.1.isSome)
   && decide ((e :: es).length+([]:List Keyword).length+(if ([]:List Keyword).isEmpty then 0 else 1)<30))=true:=by rfl)
  (hline:(apos.endLine == cpos.line)=true:=by rfl) (hs:starEach (e :: es) X.env=(false,eval e X.env) :: starEach es X.env:=by rfl) (hplain:(backTo cpos (starEach es X.env)).any (·.1)=false:=by rfl) :
  PE X (.Call (.Attribute o name apos) (e :: es) [] cpos) (tBM X.K T r to t):=by
 intro pins s σ H Q I h
 refine wpAny_Call_method_late hbase hfew hline rfl (thn (ho pins s σ H _ I h) fun v s1 ⟨x,H1,I1,r1,ty,q1⟩=>?_)
 obtain⟨h1,h2⟩:=acR I1 r1 ty
 refine⟨T,id,pa,slot,hty,h1,h2,?_⟩
 have hA:=ha cpos pins s1 σ H1 _ I1 q1
 rw [hs] at hA ⊢
 refine Calls.callWith_builtin (by show (false || (backTo cpos (starEach es X.env)).any (·.1))=false;rw [hplain] <;> rfl) (Calls.evalArgs_plain ?_)
 exact thn hA fun us s2 ⟨vs,H2,I2,r2,q2⟩=>hm pins s2 σ H2 x vs v us Q I2 r1 r2 q2
/- xs.append(e),list.index on a module's tuple .. are MtR facts of 06m -/
end
noncomputable def MtM (X:Cx) (id:String) (r:V->List V->Hp->VK->Prop):Prop :=
 ∀ (pins:List (Addr×Obj)) (s:Shared) (σ:St) (H:Hp) (x:V) (xs:List V) (v:Value) (us:List Value) (Q:VK),Inv X pins σ H s->RelV x v->Vals xs us->r x xs H Q ->
  wpAny (model X.prog X.w) X.A (call (.builtin id) (v :: us)) (EP X pins σ Q) X.xe s
theorem Vals.one:∀ {x:V} {us:List Value},Vals [x] us->∃ u,us=[u]/\RelV x u
 | _,_,.cons r .nil=>⟨_,rfl,r⟩
theorem Vals.reverse {xs:List V} {us:List Value} (h:Vals xs us):Vals xs.reverse us.reverse:=by
 induction h with
 | nil=>exact .nil
 | cons r t ih=>rw [aen,aen];exact Vals.append ih (.cons r .nil)
section
variable {X:Cx} {pins:List (Addr×Obj)} {σ:St} {H:Hp} {s:Shared} {l b:Addr} {xs ys zs:List V}
theorem Inv.lset {its its':List Value} {n:Nat} {f:Array Value->Array Value} {t':Nat} (I:Inv X pins σ H s) (hH:H l=some (.lst xs))
  (e:s.heap.get? l=some { cls:=.type "list",data:=.seq its.toArray n }) (hf:f its.toArray=its'.toArray) (hv:Vals ys its') (hz:ys.length<=sizeLine) :
  Inv X pins σ (upd H l (.lst ys)) { s with heap:=s.heap.update l (afo f),toks:=t' }:=by
 have q:=PySem.IsL.update e f
 rw [hf] at q
 refine I.write (x:=l) (e:=l) (by rw [hH];exact trivial) (.inl rfl) (fun b' u hb hu=>(afk s.heap (afo f) (afj hb)).trans hu) ⟨_,q⟩ ?_
 exact⟨hz,its',_,hv,q⟩
theorem Inv.lnew {its:List Value} {t':Nat} (I:Inv X pins σ H s) (hv:Vals ys its) (hz:ys.length<=sizeLine) :
  Inv X pins σ (upd H s.heap.objs.size (.lst ys)) { s with heap:=s.heap.push { cls:=.type "list",data:=.seq its.toArray },toks:=t' } :=
 I.laid (fun _ _ q=>aea _ q) (aej _) ⟨hz,its,0,hv,aeo _ rfl⟩
theorem Inv.fresh (I:Inv X pins σ H s):H s.heap.objs.size=none:=I.hok.fresh (aej _)
theorem Inv.lstM (I:Inv X pins σ H s) (hH:H l=some (.lst xs)):xs.length<=sizeLine/\∃ (its:List Value) (n:Nat),Vals xs its/\xs.length=its.length/\s.heap.get? l=some { cls:=.type "list",data:=.seq its.toArray n }:=by
 obtain⟨z,its,n,r,e⟩:=I.hok l _ hH
 exact⟨z,its,n,r,r.length,e⟩
end
section
variable {X:Cx}
noncomputable def qu:V->List V->Hp->VK->Prop:=fun x vs H Q=>∃ l xs y,x=.ref l/\vs=[y]/\H l=some (.lst xs)/\xs.length<sizeLine/\Q .non (upd H l (.lst (xs++[y])))
theorem yR:MtM X "list.append" qu:=by
 intro pins s σ H x vs v us Q I rx rv h
 obtain⟨l,xs,y,rfl,rfl,hH,hz,q⟩:=h
 cases rx
 obtain⟨u,rfl,ru⟩:=rv.one
 obtain⟨z,its,n,r,hl,e⟩:=I.lstM hH
 refine call_meets F.slot_list_append ⟨_,e,rfl⟩ af0 (afW _ _) (PySem.list_append l its.toArray n u (by rw [aeh];omega)) ⟨e,?_⟩
 refine⟨.non,_,I.lset (its':=its++[u]) hH e (by simp) (r.append (.cons ru .nil)) ?_,rfl,q⟩
 rw [ael,afT]
 omega
end
end L2
namespace Att
open PySem PySem.W PySem.Calls PyProof.Rows
theorem jA {P:Params} {h:Heap}:∀ (ns:List Int) (vs:List Value),WellAll P h vs (ns.map WData.int)->IntsAre vs ns:=by
 intro ns
 induction ns with
 | nil =>
  intro vs w
  rw [List.map_nil] at w
  cases w
  exact .nil
 | cons n ns ih =>
  intro vs w
  rw [af4] at w
  cases w with
  | cons a b =>
   cases a
   exact .cons _ _ (ih _ b)
theorem aaf {l:OpenLaw} {n:Nat} (hn:l.most=some n) {P:Params} {h:Heap} {args:List WData} {vals:List Value}
  (hpre:l.row.toRowW.claim.pre args=true) (hwl:WellAll P h vals args) :
  ∃ a vs ns,vals=[Value.ref a]/\args=[WData.list (ns.map WData.int)]/\h.get? a=some { cls:=.type "list",data:=.seq vs.toArray }/\IntsAre vs ns/\ns.length<=n:=by
 have hsh:WShape.hasAll [] args [.list .int]=true:=(pre_splitW hpre).1
 have hc:l.pre.holds [] { args:=args }=true:=(pre_splitW hpre).2
 obtain⟨d,r,rfl,h1,h2⟩:=hasAllW_cons hsh
 obtain rfl:=hasAllW_nil h2
 obtain⟨xs,rfl,h3⟩:=hasW_list h1
 obtain⟨ns,rfl⟩:=items_int h3
 have hlen:ns.length<=n:=by
  unfold OpenLaw.pre at hc
  have h4:(WTm.not (.lt (.lit (.int (n:Int))) (.len (.arg 0)))).holds [] { args:=[.list (ns.map .int)] }=true:=by
   have h4:=(holds_andW hc).1
   rw [hn] at h4
   exact h4
  have h5:=condW_of h4 (w_not (w_lt w_lit (w_len_list (w_arg rfl))))
  rw [ad5] at h5
  refine Nat.le_of_not_lt fun q=>?_
  have q':(n:Int)<((ns.length:Nat):Int):=by omega
  first
   | (rw [decide_eq_true q'] at h5;exact absurd h5 (by decide))
   | (simp at h5;omega)
 cases hwl with
 | cons w1 w2 =>
  cases w2
  cases w1 with
  | list ho hall=>exact⟨_,_,ns,rfl,rfl,ho,jA ns _ hall,hlen⟩
theorem aag (l:OpenLaw) (args:List WData):l.row.toRowW.claim.post args (.bool true) args=true :=
 postW_of (r:=l.row.toRowW) (X:=(true == true))
  (show WShape.has [] (.bool true) .bool=true by first | rfl | decide | simp [WShape.has,WShape.arms,WShape.armsAll])
  (show (WTm.eq .res (.lit (.bool true))).value [] { args:=args,res:=some (.bool true),after:=args }=some (.bool (true == true)) from w_eq_bool (w_res rfl) w_lit) rfl
theorem attach_call {l:OpenLaw} {n:Nat} {q:Program} {loose:List Str} {XP:(Str->Option Value)->Heap->Prop} {YP:World->Heap->Prop} {d:DefRec}
  (hn:l.most=some n) (hdf:d.params.defaults=[])
  (call:∀ (w:World) (s₀ s₁:Shared) (mg mb:Str->Option Value) (fa:Addr) (o:Obj) (pm cd doc:Value) (a:Addr) (vs:List Value) (ns:List Int),
   Ground q loose [] XP w s₀ mg mb s₁.heap->YP w s₁.heap ->
   s₁.heap.get? fa=some o->o.data=.func (docDef d.name d.params d.body d.scope pm cd doc)->s₁.heap.CodeRec cd d.name->mg d.name=some (.ref fa) ->
   s₁.heap.get? a=some { cls:=.type "list",data:=.seq vs.toArray }->IntsAre vs ns->ns.length<=n->s₁.gens=#[] ->
   codeAny (model l.prog w) callerA (.call (.ref fa) ⟨[.ref a],[]⟩) (fun r s'=>r=.ok (.ret (.bool true))/\OldK s₁.heap s'.heap/\s'.os=s₁.os/\AllBare s'.gens) s₁) :
  WalkO q loose XP YP l.row.toRowW d [] (fun f vs=>PySem.call f vs):=by
 intro w s₀ s₁ mg mb G Y fa o pm cd doc dV kV ho hd hcd hD hmg hg args vals as hpre hlay hrd hwl hlo
 obtain rfl:dV=.none:=Dflts.none hD hdf
 obtain rfl:kV=.none:=Dflts.noKw hD
 obtain⟨a,vs,ns,rfl,rfl,hobj,hints,hlen⟩:=aaf hn hpre hwl
 refine enter_call (codeAny_mono (call w s₀ s₁ mg mb fa o pm cd doc a vs ns G Y ho (fd_plain hd) hcd hmg hobj hints hlen hg) fun r s' hq=>?_)
 obtain⟨rfl,h2,h3,h4⟩:=hq
 exact⟨.inl ⟨.bool true,.bool true,[],rfl,fun _=>rfl,.bool true,aag l _,fun _=>⟨List.Pairwise.nil,fun _ hm=>(nomatch hm)⟩⟩,h2,h3,h4⟩
section
variable {prog:Program} {w:World} {A:Around} {E:Value->Shared->Prop} {s:Shared} {K:Frag}
noncomputable def noObjs (h:Heap):Heap:={ h with objs:=#[] }
theorem noObjs_get (h:Heap) (b:Addr):(noObjs h).get? b=none:=by
 cases e:(noObjs h).get? b with
 | none=>rfl
 | some o=>exact absurd (aed e) (aft _)
theorem fr_all {h:Heap} {L:Addr} {m:Str->Option Value} (n:h.Ns L m):Fr (noObjs h) L h m :=
 ⟨n,fun b o e=>(by rw [noObjs_get] at e;cases e),ae4 _⟩
end
end Att
namespace L2
open PySem PySem.Spec PyProof.Rows
theorem qf:∀ {vs:List Value} {ns:List Int},IntsAre vs ns->Vals (ns.map V.int) vs
 | _,_,.nil=>.nil
 | _,_,.cons n t h=>.cons ⟨t,rfl⟩ (qf h)
end L2
/- THE LAST THEOREM (shape;LID,My.* are yours):
   My.Adr: a structure of the addresses that your layer names (classes,functions);My.Txt K t: a structure (Prop) of the equations over K;
   My.txt_mk:{K} {implicit addresses ..} (e1:nsIn K mainGlobals "law"=some (some (.ref f))) (e2:K.lookup f=some ⟨oc,od,.func (fnOf "law" "law" params body scope dV kV doc pm an cdv ct),sl⟩) (e3:codeIn K cdv "law"=true) ..:∃ t,My.Txt K t
set_option maxRecDepth 100000 in
set_option maxHeartbeats 0 in
theorem PySem.Challenge.cw_LID_holds : PySem.Challenge.rw_LID.Holds := by
 w_on;o_law;k_head;(case hw=>w_witness2)
 k_fill
 refine L2.walk_of (l:=PySem.Challenge.rw_LID) (n:=63) (k:=40) (x:="script") (CX:=fun w=>..) (sp:=fun _=>My.sp_law) rfl (by decide) rfl ⟨rfl,by decide,by decide⟩ (fun w h Y=>PySem.W.kIn_of Y) ?F ?S ?C
 case F =>
  intro w mg fa h KX G hmg
  have T:∃ t,My.Txt (L2.KOf KX) t:=by
   dsimp only [L2.KOf]                          -- K must stand as «<heap const> w.params» for k_is
   refine' My.txt_mk ?e1 ?e2 ?e3 ..
   (case e1=>PySem.W.k_is)                    -- in the order: a name->its address->its object->its parts
   (case e2=>PySem.W.k_is)
   ..
  obtain⟨t,T⟩:=T
  have e0:=hmg.symm.trans (af5 KX G T.law)
  cases e0                                       -- fa is the law's own address
  exact⟨_,fun s u=>.of_eq rfl,fun base kb nb=>My.law_fn T kb nb⟩     -- if «.of_eq rfl» comes too early: refine' ⟨_,?b,fun base kb nb=>My.law_fn T kb nb⟩;exact fun s u=>.of_eq rfl
 case S=>exact fun w H a ns hl hO hS=>..
 case C=>exact ..
(the tactic k_is has no namespace: write k_is) -/
namespace L2
open PySem PySem.Spec PyProof.Rows
noncomputable def zY (s:Stmt):Arguments:=match s with
 | .FunctionDef _ a _ _ _ _ _ _ _ _=>a
 | _=>{ posonlyargs:=[],args:=[],vararg:=none,kwonlyargs:=[],kw_defaults:=[],kwarg:=none,defaults:=[] }
noncomputable def zK (s:Stmt):List Stmt:=match s with
 | .FunctionDef _ _ b _ _ _ _ _ _ _=>b
 | _=>[]
noncomputable def zh (s:Stmt):Scope:=match s with
 | .FunctionDef _ _ _ _ _ _ sc _ _ _=>sc
 | _=>{ kind:=.function,names:=[],isGenerator:=false,isCoroutine:=false }
noncomputable abbrev CX0:CXT:=fun _ _ _ _ _ _=>False
noncomputable abbrev E0:XK:=fun _ _ _=>False
theorem adx {X:Cx}:Passes CX0 X E0:=fun _ _ _ _ _ _ _ h=>h.elim
structure Fun (K:ad6) (x qual:Str) (st:Stmt) (f:Addr) (fd:FuncData):Prop where
 ex:∃ (oc:Value) (od:Option Addr) (kV doc pm:Value) (an:Option Addr) (cdv ct:Value) (osl:Array (Option Value)),
  fd=aeB x qual (zY st) (zK st) (zh st) .none kV doc pm an cdv ct/\K.lookup f=some ⟨oc,od,.func fd,osl⟩/\aet K cdv qual=true
 kp:aex K (.ref f)=true
section
variable {P:Program} {w:World} {K:ad6} {mg:Str->Option Value} {base:Heap}
theorem Fun.ok {x qual:Str} {st:Stmt} {f:Addr} {fd:FuncData} {N ps:List Str} {k:Nat} {sp:Sp} (F:Fun K x qual st f fd) (S:FnScope N ps (zh st)) (len:∀ vs H Q E,sp vs H Q E->vs.length=ps.length)
  (hbody:∀ (cdv:Value) (A:Around) (outer:List Env) (s:Shared) (H:Hp) (vs:List V) (Q:VK) (E:XK),Room k (A.deeper (envOfC qual (zh st) s.heap.objs.size f cdv))->sp vs H Q E ->
   ∃ t,PSs (yF CX0 P w K mg base N qual (zh st) f cdv A outer s H E).nox (zK st) t/\t { nx:=fun _ H'=>Q .non H',rt:=Q } (start N vs) H):FnOk P w K mg base CX0 (k+1) f fd ps sp:=by
 obtain⟨oc,od,kV,doc,pm,an,cdv,ct,osl,rfl,lk,hcd⟩:=F.ex
 refine acg lk hcd S len fun A outer s H vs Q E hr hsp=>?_
 obtain⟨t,h,q⟩:=hbody cdv A outer s H vs Q E hr hsp
 exact⟨t,h.nox,q⟩
theorem Fun.binds {x qual:Str} {st:Stmt} {f:Addr} {fd:FuncData} {ps:List Str} (F:Fun K x qual st f fd)
  (h:∀ (kV doc pm:Value) (an:Option Addr) (cdv ct:Value) (us:List Value),us.length=ps.length->bindArgs (aeB x qual (zY st) (zK st) (zh st) .none kV doc pm an cdv ct) ⟨us,[]⟩=pure (ps.zip us)):Binds K fd ps []:=by
 obtain⟨oc,od,kV,doc,pm,an,cdv,ct,osl,rfl,lk,hcd⟩:=F.ex
 exact .all (h kV doc pm an cdv ct)
theorem vk {x qual:Str} {st:Stmt} {f:Addr} {oc:Value} {od an:Option Addr} {osl:Array (Option Value)} {kV doc pm cdv ct:Value} (l:K.lookup f=some ⟨oc,od,.func (aeB x qual (zY st) (zK st) (zh st) .none kV doc pm an cdv ct),osl⟩)
  (c:aet K cdv qual=true) (k:aex K (.ref f)=true):Fun K x qual st f (aeB x qual (zY st) (zK st) (zh st) .none kV doc pm an cdv ct):=⟨⟨oc,od,kV,doc,pm,an,cdv,ct,osl,rfl,l,c⟩,k⟩
end
theorem zW {n:Nat} (h:n<=1000):n<sizeLine:=Nat.lt_of_le_of_lt h (by decide)
section
variable {X:Cx}
theorem pv (i:Nat) {x:Str} {pos:Pos} (hN:X.N[i]?=some x:=by rfl) (hv:Vis X.env.scope x:=by first | exact Or.inl rfl | exact Or.inr (Or.inl rfl) | exact Or.inr (Or.inr rfl)) (hd:(x == ("__debug__":Str))=false:=by decide)
  (hcd:(x == ("__classdict__":Str))=false:=by decide):PE X (.Name x pos) (yG i):=acD hN hv hd hcd
end
noncomputable def Same (H H':Hp):Prop:=∀ b o,H b=some o->H' b=some o
theorem Same.refl (H:Hp):Same H H:=fun _ _ h=>h
theorem Same.trans {H H1 H2:Hp} (a:Same H H1) (b:Same H1 H2):Same H H2:=fun c o h=>b c o (a c o h)
theorem Same.free {H H':Hp} (e:Same H H') {l:Addr} (h:H' l=Option.none):H l=Option.none:=by
 cases q:H l with
 | none=>rfl
 | some o =>
  rw [e l o q] at h
  cases h
theorem Same.seq {K:ad6} {H H':Hp} {a:Addr} {xs:List V} (e:Same H H') (h:SqL K H a xs):SqL K H' a xs:=by
 rcases h with (h | ⟨o,h⟩) | h
 ·exact .inl (.inl (e _ _ h))
 ·exact .inl (.inr ⟨o,e _ _ h⟩)
 ·exact .inr h
noncomputable def zz (env:Env):List (Str×NameKind)->List (Str×Addr)->List (Str×Addr)
 | [],acc=>acc
 | (x,k) :: r,acc=>if k == .free then zz env r ((x,(env.cells.lookup x).getD 0) :: acc) else zz env r acc
theorem jK {sc:Scope} {env:Env} (h:∀ x,(x,NameKind.free)∈sc.names->∃ c,env.cells.lookup x=some c):closureFor sc env=pure (zz env sc.names []):=by
 have key:∀ (names:List (Str×NameKind)) (acc:List (Str×Addr)),(∀ x,(x,NameKind.free)∈names->∃ c,env.cells.lookup x=some c) ->
   (forIn names acc fun (x:Str×NameKind) (cs:List (Str×Addr))=>if (x.2 == NameKind.free)=true then (do let c <- cellOf env x.1;pure (ForInStep.yield ((x.1,c) :: cs))) else pure (ForInStep.yield cs))=(pure (zz env names acc):Sem (List (Str×Addr))):=by
  intro names
  induction names with
  | nil=>intro acc _;rfl
  | cons p r ih =>
   intro acc hh
   obtain⟨x,k⟩:=p
   rw [List.forIn_cons]
   unfold zz
   by_cases hk:(k == NameKind.free)=true
   ·have hk':k=.free:=by simpa using hk
    subst hk'
    obtain⟨c,hc⟩:=hh x aep
    simp only [beq_self_eq_true,if_true]
    rw [<-ih _ fun y hy=>hh y (aeb _ hy)]
    have:cellOf env x=pure c:=by unfold cellOf;rw [hc]
    rw [this,hc]
    rfl
   ·simp only [hk,Bool.false_eq_true,if_false]
    rw [<-ih _ fun y hy=>hh y (aeb _ hy)]
    rfl
 simp only [closureFor]
 have q:=key sc.names [] h
 refine Eq.trans ?_ (Eq.trans (congrArg (fun z=>z >>= fun r=>pure r) q) ?_)
 ·rfl
 ·rfl
theorem yx {env:Env}:∀ {names:List (Str×NameKind)} {acc:List (Str×Addr)} {p:Str×Addr},p∈zz env names acc->p∈acc \/ ((p.1,NameKind.free)∈names/\p.2=(env.cells.lookup p.1).getD 0)
 | [],acc,p,h=>.inl h
 | (x,k) :: r,acc,p,h=>by
  unfold zz at h
  split at h
  ·rename_i hk
   have hk':k=.free:=by simpa using hk
   subst hk'
   rcases yx h with q | ⟨q,e⟩
   ·rcases aek.mp q with q | q
    ·subst q;exact .inr ⟨aep,rfl⟩
    ·exact .inl q
   ·exact .inr ⟨aeb _ q,e⟩
  ·rcases yx h with q | ⟨q,e⟩
   ·exact .inl q
   ·exact .inr ⟨aeb _ q,e⟩
theorem yE {α:Type}:∀ {l:List (Str×α)} {x:Str} {v:α},(x,v)∈l->∃ u,l.lookup x=some u
 | (y,u) :: r,x,v,h=>by
  rw [aer]
  cases hb:x == y with
  | true=>exact⟨u,rfl⟩
  | false =>
   rcases aek.mp h with e | h
   ·have:x=y:=congrArg Prod.fst e
    subst this
    simp at hb
   ·exact yE h
theorem yZ {env:Env}:∀ {names:List (Str×NameKind)} {acc:List (Str×Addr)} {x:Str},(x,NameKind.free)∈names->(x,(env.cells.lookup x).getD 0)∈zz env names acc
 | (y,k) :: r,acc,x,h=>by
  have mono:∀ (names:List (Str×NameKind)) (acc:List (Str×Addr)) (p:Str×Addr),p∈acc->p∈zz env names acc:=by
   intro names
   induction names with
   | nil=>intro acc p hp;exact hp
   | cons q r ih =>
    intro acc p hp
    obtain⟨a,b⟩:=q
    unfold zz
    split
    ·exact ih _ _ (aeb _ hp)
    ·exact ih _ _ hp
  unfold zz
  rcases aek.mp h with e | h
  ·cases e
   simp only [beq_self_eq_true,if_true]
   exact mono _ _ _ aep
  ·split
   ·exact yZ h
   ·exact yZ h
theorem yW {env:Env} {names:List (Str×NameKind)} {x:Str} {c:Addr} (h:∀ x,(x,NameKind.free)∈names->∃ c,env.cells.lookup x=some c) (e:(zz env names []).lookup x=some c):env.cells.lookup x=some c/\(x,NameKind.free)∈names:=by
 rcases yx (mem_of_lookup e) with q | ⟨q,e'⟩
 ·cases q
 ·obtain⟨c',hc⟩:=h _ q
  dsimp only at hc e'
  rw [hc] at e'
  exact⟨by rw [hc];exact congrArg some e'.symm,q⟩
theorem yI {env:Env} {names:List (Str×NameKind)} {x:Str} {c:Addr} (h:∀ x,(x,NameKind.free)∈names->∃ c,env.cells.lookup x=some c) (hx:(x,NameKind.free)∈names) (e:env.cells.lookup x=some c):(zz env names []).lookup x=some c:=by
 obtain⟨u,hu⟩:=yE (yZ (env:=env) (acc:=[]) hx)
 have:=(yW h hu).1
 rw [this] at e
 rw [hu,e]
theorem z7:∀ {names:List (Str×NameKind)} {n:Nat} {acc:List (Str×Addr)} {x:Str} {c:Addr},(cellsFrom n names acc).lookup x=some c->(n<=c/\c<n+names.length/\(x,NameKind.cell)∈names) \/ (acc.lookup x=some c/\(x,NameKind.cell)∉names)
 | [],n,acc,x,c,h=>.inr ⟨h,by simp⟩
 | (y,k) :: r,n,acc,x,c,h=>by
  unfold cellsFrom at h
  split at h
  ·rename_i hk
   have hk':k=.cell:=by simpa using hk
   subst hk'
   rcases z7 h with⟨q1,q2,q3⟩ | ⟨q1,q2⟩
   ·exact .inl ⟨afl q1,aeg q2 (by rw [aew];omega),aeb _ q3⟩
   ·rw [aer] at q1
    cases hb:x == y with
    | true =>
     rw [hb] at q1
     cases q1
     have:x=y:=by simpa using hb
     subst this
     exact .inl ⟨aej _,by rw [aew];exact Nat.lt_add_of_pos_right (Nat.succ_pos _),aep⟩
    | false =>
     rw [hb] at q1
     refine .inr ⟨q1,fun z=>?_⟩
     rcases aek.mp z with e | z
     ·have:x=y:=congrArg Prod.fst e
      subst this
      simp at hb
     ·exact q2 z
  ·rename_i hk
   rcases z7 h with⟨q1,q2,q3⟩ | ⟨q1,q2⟩
   ·exact .inl ⟨q1,aeg q2 (by rw [aew];omega),aeb _ q3⟩
   ·refine .inr ⟨q1,fun z=>?_⟩
    rcases aek.mp z with e | z
    ·have:k=.cell:=(congrArg Prod.snd e).symm
     subst this
     simp at hk
    ·exact q2 z
theorem yb:∀ (names:List (Str×NameKind)) (n:Nat) (acc:List (Str×Addr)),(acc.Pairwise fun x y=>x.2≠y.2)->(∀ p∈acc,p.2<n)->(cellsFrom n names acc).Pairwise fun x y=>x.2≠y.2
 | [],n,acc,h,_=>h
 | (y,k) :: r,n,acc,h,hl=>by
  unfold cellsFrom
  split
  ·refine yb r (n+1) _ (List.pairwise_cons.mpr ⟨fun p hp=>?_,h⟩) fun p hp=>?_
   ·exact afx (hl p hp)
   ·rcases aek.mp hp with e | hp
    ·subst e;exact afK _
    ·exact aeM (hl p hp)
  ·exact yb r n acc h hl
theorem jZ {names:List (Str×NameKind)} {n:Nat} {acc:List (Str×Addr)} {x:Str} (h:names.lookup x=some .cell):∃ c,(cellsFrom n names acc).lookup x=some c :=
 afg.mp (ae7 names n acc (.inl h))
theorem yX {names:List (Str×NameKind)} {n:Nat} {acc:List (Str×Addr)} {x:Str} (h:(acc.lookup x).isSome=true):∃ c,(cellsFrom n names acc).lookup x=some c :=
 afg.mp (ae7 names n acc (.inr h))
theorem yn:∀ (names:List (Str×NameKind)) (h:Heap) (acc:List (Str×Addr)) (x:Str) (c:Addr),(cellsFrom h.objs.size names acc).lookup x=some c->h.objs.size<=c->(∀ p∈acc,p.2<h.objs.size)->(pushCells h names).IsCell c none
 | [],h,acc,x,c,e,hc,hl=>absurd (hl _ (mem_of_lookup e)) (Nat.not_lt.mpr hc)
 | (y,k) :: r,h,acc,x,c,e,hc,hl=>by
  unfold cellsFrom at e
  unfold pushCells
  split at e
  ·rename_i hk
   rw [if_pos hk]
   by_cases hcc:c=h.objs.size
   ·subst hcc
    exact⟨_,pushCells_keeps _ _ _ _ (aeo _ rfl),rfl⟩
   ·have es:(h.push { cls:=.type "cell",data:=.cell none }).objs.size=h.objs.size+1:=afA ..
    refine yn r _ ((y,h.objs.size) :: acc) x c (by rw [es];exact e) (by rw [es];exact Nat.lt_of_le_of_ne hc (afj hcc)) fun p hp=>?_
    rw [es]
    rcases aek.mp hp with e | hp
    ·subst e;exact afK _
    ·exact aeM (hl p hp)
  ·rename_i hk
   rw [if_neg hk]
   exact yn r h acc x c e hc hl
noncomputable def zj (X:Cx) (sc:Scope) (N:List Str) (s₀:Shared) (H₀:Hp) (ex:List Addr) (pn:List (Addr×Obj)):Cx :=
 { X with N:=N,s₀:=s₀,H₀:=H₀,env:=compEnvC sc (cellsFrom (s₀.heap.objs.size+1) sc.names (zz X.env sc.names [])) s₀.heap.objs.size X.env,
          outer:=X.stack,ex:=ex,fn:=fun x=>decide (sc.names.lookup x=some .cell),pn:=pn,xe:=fun _ _=>False }
structure CompScope (NO:List Str) (scO:Scope) (N:List Str) (sc:Scope) (own:Nat) (fr:List Nat):Prop where
 kind:sc.kind=.function
 nd:N.Nodup
 snd:(sc.names.map (·.1)).Nodup
 free:∀ p∈sc.names,p.2=.free->scO.names.lookup p.1=some .cell \/ scO.names.lookup p.1=some .free
 frn:∀ p∈(N.drop own).zip fr,NO[p.2]?=some p.1/\sc.names.lookup p.1=some .free
 len:N.length=own+fr.length
noncomputable def yc (own:Nat) (fr:List Nat) (σ:St):St:=afd own none++fr.map fun j=>(σ[j]?).getD none
theorem zC {α:Type}:∀ {l:List (Str×α)} {x:Str} {k:α},(l.map (·.1)).Nodup->(x,k)∈l->l.lookup x=some k
 | (y,u) :: r,x,k,nd,h=>by
  rw [af4] at nd
  obtain⟨h1,h2⟩:=ae9.mp nd
  rw [aer]
  rcases aek.mp h with e | h'
  ·cases e;simp
  ·have:x≠y:=by
    intro e
    subst e
    exact h1 (afm.mpr ⟨(x,k),h',rfl⟩)
   rw [beq_eq_false_iff_ne.mpr this]
   exact zC h2 h'
theorem yj {env:Env}:∀ {names:List (Str×NameKind)} {x:Str} {k:NameKind},names.lookup x=some k ->
  (names.map fun (n,k)=>if (k == NameKind.free && env.scope.kind == .function && env.kindOf n == some .cell) then (n,NameKind.cell) else (n,k)).lookup x=some (if (k == NameKind.free && env.scope.kind == .function && env.kindOf x == some .cell) then .cell else k)
 | (n,k') :: r,x,k,h=>by
  have ih:=@yj env r x k
  show List.lookup x ((if (k' == NameKind.free && env.scope.kind == .function && env.kindOf n == some .cell)=true then (n,NameKind.cell) else (n,k')) :: _)=_
  cases hx:x == n with
  | true =>
   have:x=n:=by simpa using hx
   subst this
   simp only [aer,hx] at h
   cases h
   split <;> simp [aer]
  | false =>
   simp only [aer,hx] at h
   split
   ·simp only [aer,hx];exact ih h
   ·simp only [aer,hx];exact ih h
theorem yd {env:Env}:∀ {names:List (Str×NameKind)} {x:Str},names.lookup x=none ->
  (names.map fun (n,k)=>if (k == NameKind.free && env.scope.kind == .function && env.kindOf n == some .cell) then (n,NameKind.cell) else (n,k)).lookup x=none
 | [],_,_=>rfl
 | (n,k') :: r,x,h=>by
  have ih:=@yd env r x
  show List.lookup x ((if (k' == NameKind.free && env.scope.kind == .function && env.kindOf n == some .cell)=true then (n,NameKind.cell) else (n,k')) :: _)=_
  cases hx:x == n with
  | true=>simp only [aer,hx] at h;cases h
  | false =>
   simp only [aer,hx] at h
   split
   ·simp only [aer,hx];exact ih h
   ·simp only [aer,hx];exact ih h
section
variable {X:Cx} {pins:List (Addr×Obj)} {σ:St} {H:Hp} {s:Shared} {NO N:List Str} {scO sc:Scope} {own:Nat} {fr:List Nat} {fp:List Addr}
theorem aaJ {tk:Nat} (S:CompScope NO scO N sc own fr) (hN:X.N=NO) (hsc:X.env.scope=scO) (I:Inv X pins σ H s) (hf:∀ b∈fp,jz X pins H b) (ho:∀ b∈fp,∃ o,s.heap.get? b=some o/\∀ v,o.data≠.cell v) :
  Inv (zj X sc N s H fp (X.pn++pins)) [] (yc own fr σ) H { s with heap:=pushCells (s.heap.push { cls:=.type "dict",data:=.dict #[] }) sc.names,toks:=tk }:=by
 have hfree:∀ x,(x,NameKind.free)∈sc.names->∃ c,X.env.cells.lookup x=some c:=fun x hx=>I.ok.has x (by
  show X.env.scope.names.lookup x=_ \/ X.env.scope.names.lookup x=_
  rw [hsc]
  exact S.free _ hx rfl)
 have hclt:∀ p∈zz X.env sc.names [],p.2<s.heap.objs.size:=fun p hp=>by
  rcases yx hp with q | ⟨q,e⟩
  ·cases q
  ·obtain⟨c,hc⟩:=hfree _ q
   rw [e,hc]
   obtain⟨v,o,ho,_⟩:=I.cell _ c hc
   exact aed ho
 have hsz:(s.heap.push { cls:=.type "dict",data:=.dict #[] }).objs.size=s.heap.objs.size+1:=afA ..
 have hk:∀ b o,s.heap.get? b=some o->(pushCells (s.heap.push { cls:=.type "dict",data:=.dict #[] }) sc.names).get? b=some o:=fun b o e=>pushCells_keeps _ _ _ _ (aea _ e)
 have hcase:∀ {x:Str} {c:Addr},(cellsFrom (s.heap.objs.size+1) sc.names (zz X.env sc.names [])).lookup x=some c->(s.heap.objs.size+1<=c/\(x,NameKind.cell)∈sc.names) \/ (X.env.cells.lookup x=some c/\(x,NameKind.free)∈sc.names):=fun {x c} e=>by
  rcases z7 e with⟨q1,_,q3⟩ | ⟨q1,_⟩
  ·exact .inl ⟨q1,q3⟩
  ·exact .inr (yW hfree q1)
 have clap:(zz X.env sc.names []).Pairwise fun x y=>x.2≠y.2:=by
  have key:∀ (names:List (Str×NameKind)) (acc:List (Str×Addr)),(∀ p∈acc,X.env.cells.lookup p.1=some p.2)->(∀ x,(x,NameKind.free)∈names->∃ c,X.env.cells.lookup x=some c)->(acc.Pairwise fun x y=>x.2≠y.2)->(∀ p∈acc,(p.1,NameKind.free)∉names)->(names.map (·.1)).Nodup ->
    (zz X.env names acc).Pairwise fun x y=>x.2≠y.2:=by
   intro names
   induction names with
   | nil=>intro acc _ _ h _ _;exact h
   | cons p r ih =>
    intro acc h1 h2 h3 h4 h5
    obtain⟨y,k⟩:=p
    rw [af4] at h5
    obtain⟨n1,n2⟩:=ae9.mp h5
    unfold zz
    split
    ·rename_i hk
     have hk':k=.free:=by simpa using hk
     subst hk'
     obtain⟨c,hc⟩:=h2 y aep
     rw [hc]
     refine ih _ (fun p hp=>?_) (fun x hx=>h2 x (aeb _ hx)) (List.pairwise_cons.mpr ⟨fun p hp=>?_,h3⟩) (fun p hp=>?_) n2
     ·rcases aek.mp hp with e | hp
      ·subst e;exact hc
      ·exact h1 p hp
     ·intro e
      have e':p.2=c:=e.symm
      have:=I.ok.inj _ _ _ hc (e'▸h1 p hp)
      exact h4 p hp (this▸aep)
     ·rcases aek.mp hp with e | hp
      ·subst e
       intro z
       exact n1 (afm.mpr ⟨_,z,rfl⟩)
      ·intro z;exact h4 p hp (aeb _ z)
    ·exact ih acc h1 (fun x hx=>h2 x (aeb _ hx)) h3 (fun p hp z=>h4 p hp (aeb _ z)) n2
  exact key sc.names [] (fun p hp=>by cases hp) hfree List.Pairwise.nil (fun p hp=>by cases hp) S.snd
 have apart:=yb sc.names (s.heap.objs.size+1) _ clap fun p hp=>aeM (hclt p hp)
 have hkd:∀ x,(zj X sc N s H fp (X.pn++pins)).env.kindOf x=some .cell \/ (zj X sc N s H fp (X.pn++pins)).env.kindOf x=some .free->(x,NameKind.cell)∈sc.names \/ (x,NameKind.free)∈sc.names:=fun x hx=>by
  cases q:sc.names.lookup x with
  | none =>
   have e:(zj X sc N s H fp (X.pn++pins)).env.kindOf x=none:=yd q
   rw [e] at hx
   rcases hx with z | z <;> cases z
  | some k =>
   have e:(zj X sc N s H fp (X.pn++pins)).env.kindOf x=some _:=yj (env:=X.env) q
   rw [e] at hx
   have hm:=mem_of_lookup q
   cases k <;> first | exact .inl hm | exact .inr hm | (rcases hx with z | z <;> cases z)
 have cellAt:∀ x c,(cellsFrom (s.heap.objs.size+1) sc.names (zz X.env sc.names [])).lookup x=some c->∃ v,(pushCells (s.heap.push { cls:=.type "dict",data:=.dict #[] }) sc.names).IsCell c v:=fun x c e=>by
  rcases hcase e with⟨q,_⟩ | ⟨q,_⟩
  ·exact⟨none,yn _ _ _ x c (by rw [hsz];exact e) (by rw [hsz];exact q) fun p hp=>by rw [hsz];exact aeM (hclt p hp)⟩
  ·obtain⟨v,o,ho,hd⟩:=I.cell x c q
   exact⟨v,o,hk _ _ ho,hd⟩
 have lt_of_cell:∀ x c,X.env.cells.lookup x=some c->c<s.heap.objs.size:=fun x c e=>by
  obtain⟨v,o,ho,hd⟩:=I.cell x c e
  exact aed ho
 have lt_of_fp:∀ b∈fp,b<s.heap.objs.size:=fun b hb=>by
  obtain⟨o,e,_⟩:=ho b hb
  exact aed e
 have okX:(zj X sc N s H fp (X.pn++pins)).Ok:=by
  refine⟨I.mod,S.kind,I.ok.glob,I.ok.blt,aej _,fun x y c h1 h2=>name_of_addr apart (mem_of_lookup h1) (mem_of_lookup h2),fun x hx=>?_,fun x c hx hc=>?_,I.ok.hd,I.ok.frames,.inl rfl,fun b hb=>⟨aes (lt_of_fp b hb),fun x c e=>?_⟩,I.bs,aeC I.ok.bsz I.sz,fun b o e hb=>?_,fun b hb z=>?_,I.stack,I.stkFree,I.env0.tabs⟩
  ·rcases hkd x hx with q | q
   ·exact jZ (zC S.snd q)
   ·obtain⟨c,hc⟩:=hfree x q
    exact yX (by rw [yI hfree q hc];rfl)
  ·have hx':sc.names.lookup x=some .cell:=of_decide_eq_true hx
   rcases hcase hc with⟨q,_⟩ | ⟨_,q⟩
   ·exact afl q
   ·rw [zC S.snd q] at hx';cases hx'
  ·rcases hcase e with⟨q,_⟩ | ⟨q,_⟩
   ·exact afx (aeg (lt_of_fp b hb) (afl q))
   ·exact (hf b hb).2.2.2.2.1 x c q
  ·rcases (hf b hb).2.2.2.1 with z | z
   ·exact I.ok.noex b o e z
   ·exact absurd (aed e) (Nat.not_lt.mpr (aeC I.ok.bsz z))
  ·rcases aek.mp (I.stkSub b z) with q | q
   ·exact (hf b hb).2.1 q
   ·exact (hf b hb).2.2.1 q
 refine⟨okX,rfl,I.bare,Un.kept hk,⟨fun _=>none,(Heap.Ns.new s.heap (.type "dict")).keeps (pushCells_keeps _ _),fun i x v h1 h2 h3=>?_⟩,cellAt,I.hok.fresh (aej _),fun x c e=>?_,fun p hp=>?_,I.hok.kept hk,?_⟩
 ·obtain⟨m,_,hl⟩:=id I.loc
  have h2':(yc own fr σ)[i]?=some (some v):=h2
  have hio:own<=i:=by
   unfold yc at h2'
   refine Nat.le_of_not_lt fun hi=>?_
   rw [ad8 (by simpa using hi),ae0] at h2'
   split at h2' <;> cases h2'
  obtain⟨k,rfl⟩:=Nat.exists_eq_add_of_le hio
  have h1':N[own+k]?=some x:=h1
  unfold yc at h2'
  rw [aec (by simp)] at h2'
  simp only [afn,Nat.add_sub_cancel_left,aee] at h2'
  cases hj:fr[k]? with
  | none=>rw [hj] at h2';cases h2'
  | some j =>
   rw [hj] at h2'
   have h2'':(σ[j]?).getD none=some v:=Option.some.inj h2'
   have hp:(x,j)∈(N.drop own).zip fr:=by
    refine aem (i:=k) ?_
    rw [List.getElem?_zip_eq_some]
    exact⟨by rw [List.getElem?_drop];exact h1',hj⟩
   obtain⟨f1,f2⟩:=S.frn _ hp
   have hσ:σ[j]?=some (some v):=by
    cases q:σ[j]? with
    | none=>rw [q] at h2'';cases h2''
    | some w=>rw [q] at h2'';exact congrArg some h2''
   have hxf:(x,NameKind.free)∈sc.names:=mem_of_lookup f2
   have hko:=S.free _ hxf rfl
   have hvis:Vis X.env.scope x:=by rw [hsc];exact .inr hko
   obtain⟨u,ru,q⟩:=hl j x v (by rw [hN];exact f1) hσ hvis
   refine⟨u,ru,.inr ⟨?_,?_⟩⟩
   ·have e:(zj X sc N s H fp (X.pn++pins)).env.kindOf x=some _:=yj (env:=X.env) f2
    rw [e]
    split
    ·exact .inl rfl
    ·exact .inr rfl
   ·rcases q with⟨k1,_⟩ | ⟨_,c,hc,z⟩
    ·have k1':X.env.scope.names.lookup x=some .local:=k1
     rw [hsc] at k1'
     rcases hko with z | z <;> rw [z] at k1' <;> cases k1'
    ·obtain⟨o,ho,hd⟩:=z
     refine⟨c,?_,o,hk _ _ ho,hd⟩
     have hcl:=yI hfree hxf hc
     obtain⟨c',hc'⟩:=yX (names:=sc.names) (n:=s.heap.objs.size+1) (acc:=zz X.env sc.names []) (x:=x) (by rw [hcl];rfl)
     rcases hcase hc' with⟨_,z⟩ | ⟨z,_⟩
     ·have:=zC S.snd z
      rw [f2] at this;cases this
     ·rw [hc] at z;cases z;exact hc'
 ·rcases hcase e with⟨q,_⟩ | ⟨q,_⟩
  ·exact I.hok.fresh (afl q)
  ·exact I.freeC x c q
 ·have hp':p∈X.pn++pins:=by simpa [zj] using hp
  obtain⟨e,n,ne,nf,d⟩:=I.pin p hp'
  refine⟨hk _ _ e,n,aes (aed e),fun z=>?_,d⟩
  rcases aek.mp (I.stkSub _ z) with q | q
  ·exact ne q
  ·exact nf q
 ·show (yc own fr σ).length=N.length
  unfold yc
  rw [S.len]
  simp
end
noncomputable abbrev TB:=St->Hp->(St->Hp->Prop)->Prop
noncomputable def PB (X:Cx) (act:Sem Unit) (t:TB):Prop :=
 ∀ (pins:List (Addr×Obj)) (s:Shared) (σ:St) (H:Hp) (Q:St->Hp->Prop),Inv X pins σ H s->t σ H Q->wpAny (model X.prog X.w) X.A act (fun _ s'=>∃ σ' H',Inv X pins σ' H' s'/\Q σ' H') X.xe s
noncomputable def PTs (X:Cx) (ifs:List Expr) (t:TT):Prop :=
 ∀ (pins:List (Addr×Obj)) (s:Shared) (σ:St) (H:Hp) (Q:Bool->Hp->Prop),Inv X pins σ H s->t σ H Q ->
  wpAny (model X.prog X.w) X.A (forIn ifs true fun c r=>if r=true then do let ok <- isTrue c X.env (eval c X.env);pure (ForInStep.yield ok) else pure (ForInStep.yield r)) (TP X pins σ Q) X.xe s
noncomputable def ady:TT:=fun _ H Q=>Q true H
theorem qv {X:Cx}:PTs X [] ady:=fun pins s σ H Q I h=>wpAny_tests_nil ⟨H,I,h⟩
theorem abA {X:Cx} {c:Expr} {t:TT} (hc:PT X c t):PTs X [c] t:=fun pins s σ H Q I h=>wpAny_tests_one (hc pins s σ H Q I h)
noncomputable def vL (J:It) (g:TG) (tt:TT) (tb:TB):TB:=fun σ H Q=>∃ W:Nat->Nat->St->Hp->Prop,(∃ m,W 0 m σ H)/\∀ i m σ H,W i m σ H ->
 (J.stop i H/\Q σ H) \/ (J.go i H/\∀ x H',J.yld i H x H'->g x σ H' fun σ2 H2=>tt σ2 H2 fun b H3=>if b=true then tb σ2 H3 fun σ' H'=>∃ m',m'<m/\W (i+1) m' σ' H' else ∃ m',m'<m/\W (i+1) m' σ2 H3)
section
variable {X:Cx} {pins:List (Addr×Obj)} {s:Shared} {σ:St} {H:Hp} {tg:Expr} {e:Expr} {d:Nat} {acc:Value} {ifs:List Expr} {g:TG} {tt:TT} {tb:TB} {act:Sem Unit} {pos:Pos}
theorem aaK (hx:∀ e s,X.xe e s->False) (hc:X.calm=true) (hg:PG X tg g) (ht:PTs X ifs tt) (hb:PB X act tb)
  (heq:∀ it,compTurn e d it acc X.env=(do
   standAt pos
   match <- pyNext it with
   | none=>pure (.done .next)
   | some v =>
    letOwnedTupleGo tg it v
    assign tg X.env v
    let mut ok:=true
    for c in ifs do
     if ok then ok <- isTrue c X.env (eval c X.env)
    if ok then
     act
    again (.compLoop e d it acc X.env)))
  (hqt:∀ it,(Code.compLoop e d it acc X.env).quiet=true)
  (hden:∀ it,(model X.prog X.w).den (.compLoop e d it acc X.env)=(compTurn e d it acc X.env).onRaise (fun x=>do noteFrame x X.env;theTreesLotGoes x))
  (hund:∀ it,X.A.under (.compLoop e d it acc X.env)=X.A)
  {it:Addr} {fp:List Addr} {tn:Nat->Heap->Prop} {J:It} {Q:St->Hp->Prop} {R:Result->Shared->Prop} (I:Inv X pins σ H s) (T:Turn X.prog X.w X.K tg J fp it tn) (st:tn 0 s.heap) (f:∀ b∈fp,jz X pins H b)
  (h:vL J g tt tb σ H Q) (hR:∀ σ' H' s',Inv X pins σ' H' s'->(∀ b∈fp,H' b=none)->Q σ' H'->R (.ok .next) s'):codeAny (model X.prog X.w) X.A (.compLoop e d (.ref it) acc X.env) R s:=by
 obtain⟨W,⟨m0,w0⟩,turn⟩:=h
 have stat:∀ {H':Hp},(∀ b∈fp,H' b=none)->∀ b∈fp,jz X pins H' b:=fun hn b hb=>⟨hn b hb,(f b hb).2⟩
 refine codeAny_loop (hqt _) (fun n s'=>∃ i σ' H',Inv X pins σ' H' s'/\tn i s'.heap/\(∀ b∈fp,H' b=none)/\W i n σ' H') ?_ m0 ⟨0,σ,H,I,st,fun b hb=>(f b hb).1,w0⟩
 rintro n s3 ⟨i,σ3,H3,I3,st3,fr3,w3⟩
 rw [hden,hund]
 refine wpAny_noted ?_
 rw [heq]
 have nox:∀ e' s',X.xe e' s'->notedBy (model X.prog X.w) X.A X.env (fun e s'=>R (.error e) s') e' s':=fun e' s' z=>(hx e' s' z).elim
 refine wpAny_bind (wpAny_standAt (wpAny_bind ?_))
 rcases turn i n σ3 H3 w3 with⟨stop,qn⟩ | ⟨go,step⟩
 ·refine wpAny_mono (T.done X rfl rfl rfl hc i pins s3 σ3 H3 X.xe I3 (stat fr3) st3 stop) (fun r s4 hr4=>?_) nox
  obtain⟨hr,I4⟩:=hr4
  subst hr
  exact wpAny_pure (hR σ3 H3 s4 I4 fr3 qn)
 ·refine wpAny_mono (T.item X rfl rfl rfl hc i pins s3 σ3 H3 X.xe I3 (stat fr3) st3 go) (fun r s4 hr4=>?_) nox
  obtain⟨u,hr,h4⟩:=hr4
  subst hr
  refine wpAny_bind (wpAny_mono h4 (fun _ s5 h5=>?_) nox)
  obtain⟨x,H5,I5,r5,y5,st5,fr5⟩:=h5
  have I5':=I5.pinned (stat fr5) (T.obj _ _ st5)
  refine wpAny_bind (wpAny_mono (hg _ s5 σ3 H5 x u _ I5' r5 (step x H5 y5)) (fun _ s6 h6=>?_) nox)
  obtain⟨σ6,H6,I6,q6⟩:=h6
  refine wpAny_bind (wpAny_mono (ht _ s6 σ6 H6 _ I6 q6) (fun ok s7 h7=>?_) nox)
  obtain⟨H7,I7,q7⟩:=h7
  have again:∀ {σ7:St} {H7:Hp} {s7:Shared},Inv X (pins++jI fp s5.heap) σ7 H7 s7->(∃ m',m'<n/\W (i+1) m' σ7 H7)->∃ m,m<n/\∃ i σ' H',Inv X pins σ' H' s7/\tn i s7.heap/\(∀ b∈fp,H' b=none)/\W i m σ' H':=fun {σ7 H7 s7} I7 n7=>by
   obtain⟨m',hm,w7⟩:=n7
   refine⟨m',hm,i+1,σ7,H7,I7.unpinned,T.keep _ _ _ st5 fun b hb o e=>(I7.pin (b,o) (aei _ (aei _ (yv hb e)))).1,fun b hb=>?_,w7⟩
   obtain⟨o,e,d⟩:=T.obj _ _ st5 b hb
   exact (I7.pin (b,o) (aei _ (aei _ (yv hb e)))).2.1
  cases ok with
  | false =>
   rw [if_neg aef] at q7
   exact wpAny_pure ⟨rfl,again I7 q7⟩
  | true =>
   rw [if_pos rfl] at q7
   refine wpAny_bind (wpAny_mono (hb _ s7 σ6 H7 _ I7 q7) (fun _ s8 h8=>?_) nox)
   obtain⟨σ8,H8,I8,q8⟩:=h8
   exact wpAny_pure ⟨rfl,again I8 q8⟩
theorem vM {D:Addr} {elt:Expr} {te:TE} (he:PE X elt te):PB X (do let _ <- call (.builtin "list.append") [.ref D,<- eval elt X.env]) (fun σ H Q=>te σ H fun y H1=>∃ xs,H1 D=some (.lst xs)/\xs.length<sizeLine/\Q σ (upd H1 D (.lst (xs++[y])))):=by
 intro pins s σ H Q I h
 refine wpAny_bind (thn (he pins s σ H _ I h) fun v s1 h1=>?_)
 obtain⟨y,H1,I1,r1,xs,hD,hz,q⟩:=h1
 obtain⟨z,its,n,r,hl,e⟩:=I1.lstM hD
 refine wpAny_bind ?_
 refine call_meets F.slot_list_append ⟨_,e,rfl⟩ af0 (afW _ _) (PySem.list_append D its.toArray n v (by rw [aeh];omega)) ⟨e,?_⟩
 refine wpAny_pure ⟨σ,_,I1.lset (its':=its++[v]) hD e (by simp) (r.append (.cons r1 .nil)) ?_,q⟩
 rw [ael,afT]
 omega
theorem qN {M:Model} {A:Around} {E:Value->Shared->Prop} {sc:Scope} {gl:Addr} {cl:List (Str×Addr)} {qual:Str} {env:Env} {Q:Env->Shared->Prop} {s:Shared}
  (h:Q { scope:=sc,locals:=s.heap.objs.size,globals:=gl,cells:=cellsFrom (s.heap.objs.size+1) sc.names cl,qual:=qual,func:=none,code:=env.code,frame:=env.frame,builtins:=env.builtins } { s with heap:=pushCells (s.heap.push { cls:=.type "dict",data:=.dict #[] }) sc.names }) :
  wpAny M A (newFunctionEnv sc gl cl [] qual none .none (some env)) Q E s:=by
 simp only [newFunctionEnv,Option.isSome_some,if_true]
 refine wpAny_bind (wpAny_alloc ?_)
 refine wpAny_bind (wpAny_layCells _ (fun name kind cells=>by cases hkc:kind == NameKind.cell <;> simp [hkc]) _ _ _ _ ?_)
 rw [show ({ s with heap:=s.heap.push { cls:=.type "dict",data:=.dict #[] } }:Shared).heap.objs.size=s.heap.objs.size+1 from afA ..]
 refine wpAny_bind ?_
 rw [List.forIn_nil]
 exact wpAny_pure (wpAny_pure h)
theorem comp_back {sc:Scope} {N:List Str} {fp:List Addr} {σ':St} {H':Hp} {s':Shared} {h':Heap} (I:Inv X pins σ H s) (hf:∀ b∈fp,jz X pins H b) (J:Inv (zj X sc N s H fp (X.pn++pins)) [] σ' H' s') (hs:afw s.heap.objs.size s'.heap h') :
  Inv X pins σ H' { s' with heap:=h' }:=by
 have u:Un (frs X.stack) fp H H' s.heap s'.heap:=J.base
 have ne:∀ b o,s.heap.get? b=some o->b≠s.heap.objs.size:=fun b o e=>aes (aed e)
 have hfree:H' s.heap.objs.size=none:=J.free
 refine I.call' (s':={ s' with heap:=h' }) (ch:=fp) J.os ⟨fun b o e n h1 h2=>(hs.2 b (ne b o e)).trans (u.keep b o e n h1 h2),fun b o e n h1 h2=>?_,u.free,fun b o e h2=>?_,u.tups,u.frzs,u.tbls⟩ (fun a o e=>?_) J.bare fun b hb=>?_
 ·obtain⟨sl,q⟩:=u.slot b o e n h1 h2
  exact⟨sl,(hs.2 b (ne b o e)).trans q⟩
 ·obtain⟨o',q⟩:=u.there b o e h2
  exact⟨o',(hs.2 b (ne b o e)).trans q⟩
 ·refine (J.hok a o e).stay (fun c v hc q=>(hs.2 c ?_).trans q) (fun _ q=>q) fun _ _ q=>q
  intro z
  subst z
  rcases hc with hc | hc
  ·rw [<-hc] at e
   rw [hfree] at e;cases e
  ·rw [hfree] at hc;cases hc
 ·exact⟨(hf b hb).2.2.2.1,(hf b hb).2.1,(hf b hb).2.2.2.2⟩
end
noncomputable def aaL (D:Addr) (te:TE):TB:=fun σ H Q=>te σ H fun y H1=>∃ xs,H1 D=some (.lst xs)/\xs.length<sizeLine/\Q σ (upd H1 D (.lst (xs++[y])))
noncomputable def jL (wi:TI) (own:Nat) (fr:List Nat) (g:TG) (tt:TT) (tb:Addr->TB):TE:=fun σ H Q=>wi σ H fun J H1=>∀ D,H1 D=none ->
 vL J g tt (tb D) (yc own fr σ) (upd H1 D (.lst [])) fun _ H2=>Q (.ref D) H2
section
variable {X:Cx} {pins:List (Addr×Obj)} {s:Shared} {σ:St} {H:Hp} {tg elt iter:Expr} {ifs:List Expr} {rest:List Comprehension} {sc scO:Scope} {NO N:List Str} {own:Nat} {fr:List Nat} {wi:TI} {g:TG} {tt:TT} {tb:Addr->TB} {pos:Pos}
theorem qO {RR:Value->Addr->Result->Shared->Prop} {it:Addr} {fp:List Addr} {tn:Nat->Heap->Prop} {J:It} {Q:VK} (S:CompScope NO scO N sc own fr) (hN:X.N=NO) (hsc:X.env.scope=scO) (hc:X.calm=true)
  (hg:∀ s₀ H₀ ex pn,PG (zj X sc N s₀ H₀ ex pn) tg g) (ht:∀ s₀ H₀ ex pn,PTs (zj X sc N s₀ H₀ ex pn) ifs tt)
  (hb:∀ D s₀ H₀ ex pn,∃ act,PB (zj X sc N s₀ H₀ ex pn) act (tb D)/\∀ it,compTurn (.ListComp elt (⟨tg,iter,ifs,0⟩ :: rest) sc pos) 0 it (.ref D) (zj X sc N s₀ H₀ ex pn).env=(do
   standAt iter.pos
   match <- pyNext it with
   | none=>pure (.done .next)
   | some v =>
    letOwnedTupleGo tg it v
    assign tg (zj X sc N s₀ H₀ ex pn).env v
    let mut ok:=true
    for c in ifs do
     if ok then ok <- isTrue c (zj X sc N s₀ H₀ ex pn).env (eval c (zj X sc N s₀ H₀ ex pn).env)
    if ok then
     act
    again (.compLoop (.ListComp elt (⟨tg,iter,ifs,0⟩ :: rest) sc pos) 0 it (.ref D) (zj X sc N s₀ H₀ ex pn).env)))
  (I:Inv X pins σ H s) (T:Turn X.prog X.w X.K tg J fp it tn) (st:tn 0 s.heap) (f:∀ b∈fp,jz X pins H b)
  (h:∀ D,H D=none->vL J g tt (tb D) (yc own fr σ) (upd H D (.lst [])) fun _ H2=>Q (.ref D) H2)
  (hRR:∀ (D C:Addr) (s':Shared) (H':Hp),(∃ m,s'.heap.Ns C m)->C≠X.env.locals->(∀ x c,X.env.cells.lookup x=some c->c≠C)->H' C=none->X.s₀.heap.objs.size<=C->(∀ p∈X.pn++pins,p.1≠C)->Inv X pins σ H' s'->Q (.ref D) H'->RR (.ref D) C (.ok .next) s') :
  wpAny (model X.prog X.w) X.A (newList []) (fun acc s₃=>wpAny (model X.prog X.w) X.A (newFunctionEnv sc X.env.globals (zz X.env sc.names []) [] X.env.qual none .none (some X.env)) (fun cenv s₄ =>
   codeAny (model X.prog X.w) X.A (.compStart (.ListComp elt (⟨tg,iter,ifs,0⟩ :: rest) sc pos) 0 (.ref it) acc { cenv with scope:=relabel sc X.env }) (RR acc cenv.locals) s₄) X.xe s₃) X.xe s:=by
 refine wpAny_newObj_type (qN ?_)
 have fpsz:∀ b∈fp,b<s.heap.objs.size:=fun b hb=>by
  obtain⟨o,e,_⟩:=T.obj _ _ st b hb
  exact aed e
 have I3:=I.lnew (its:=[]) (ys:=[]) (t':=s.toks) .nil (ae4 _)
 have f3:∀ b∈fp,jz X pins (upd H s.heap.objs.size (.lst [])) b:=fun b hb=>⟨by rw [zm (aes (fpsz b hb))];exact (f b hb).1,(f b hb).2⟩
 have st3:tn 0 (s.heap.push { cls:=.type "list",data:=.seq ([]:List Value).toArray }):=T.keep _ _ _ st fun b _ o e=>aea _ e
 have I4:=aaJ (tk:=s.toks) S hN hsc I3 f3 (T.obj _ _ st3)
 obtain⟨act,pb,heq⟩:=hb s.heap.objs.size _ _ _ _
 have st4:=T.keep _ _ (pushCells ((s.heap.push { cls:=.type "list",data:=.seq ([]:List Value).toArray }).push { cls:=.type "dict",data:=.dict #[] }) sc.names) st3 fun b _ o e=>pushCells_keeps _ _ _ _ (aea _ e)
 have cells_lt:∀ x c,X.env.cells.lookup x=some c->c<s.heap.objs.size:=fun x c e=>by
  obtain⟨v,o,ho,hd⟩:=I.cell x c e
  exact aed ho
 have esz:(s.heap.push { cls:=.type "list",data:=.seq ([]:List Value).toArray }).objs.size=s.heap.objs.size+1:=afA ..
 have loop:=aaK (X:=zj X sc N { s with heap:=s.heap.push { cls:=.type "list",data:=.seq ([]:List Value).toArray } } (upd H s.heap.objs.size (.lst [])) fp (X.pn++pins)) (R:=RR (.ref s.heap.objs.size) (s.heap.push { cls:=.type "list",data:=.seq ([]:List Value).toArray }).objs.size) (fun _ _ z=>z) hc (hg _ _ _ _) (ht _ _ _ _) pb heq (fun _=>rfl) (fun _=>rfl) (fun _=>rfl) I4 T st4
  (fun b hb=>⟨(f3 b hb).1,I4.ok.exf b hb |>.1,I4.ok.exfs b hb,.inl hb,I4.ok.exf b hb |>.2,fun p hp=>by
   have hp':p∈X.pn++pins:=by simpa [zj] using hp
   exact (f b hb).2.2.2.2.2 p hp'⟩) (h _ I.fresh)
  (fun σ' H' s' J' fr' q'=>hRR _ _ s' H' (let⟨m,hm,_⟩:=J'.loc;⟨m,hm⟩) (by rw [esz];exact afx (aeM I.lt)) (fun x c e=>by rw [esz];exact aes (aeM (cells_lt x c e))) J'.free (by rw [esz];exact Nat.le_succ_of_le I.sz) (fun p hp=>by rw [esz];exact aes (aeM (aed (I.pin p hp).1))) (comp_back (h':=s'.heap) I3 f3 J' (Heap.SameBut.refl ..)) q')
 exact codeAny_compStart_list loop (T.self X.A 0 _ _ _ st4 loop)
theorem Inv.touch {C:Addr} {h':Heap} (I:Inv X pins σ H s) (hs:afw C s.heap h') (hn:H C=none) (h0:C≠X.env.locals) (h1:∀ x c,X.env.cells.lookup x=some c->c≠C) (h2:X.s₀.heap.objs.size<=C) (h3:∀ p∈X.pn++pins,p.1≠C) :
  Inv X pins σ H { s with heap:=h' } :=
 I.turned (t':=s.toks) (fun b o hb e=>(hs.2 b hb).trans e) hn h0 (.inr h2) h1 h3
section
variable {elt2:Expr} {te:TE} {tg2 iter2:Expr} {ifs2:List Expr} {wi2:TI} {g2:TG} {tt2:TT} {tb2:TB} {y:Str} {i:Nat} {py spos:Pos}
theorem vN (S:CompScope NO scO N sc own fr) (hsc:X.env.scope=scO) (ok:X.Ok):closureFor sc X.env=pure (zz X.env sc.names []) :=
 jK fun x hx=>ok.has x (by
  show X.env.scope.names.lookup x=_ \/ X.env.scope.names.lookup x=_
  rw [hsc]
  exact S.free _ hx rfl)
theorem abB (S:CompScope NO scO N sc own fr) (hc:X.calm=true) (hi:PI X tg iter wi) (hg:∀ s₀ H₀ ex pn,PG (zj X sc N s₀ H₀ ex pn) tg g) (ht:∀ s₀ H₀ ex pn,PTs (zj X sc N s₀ H₀ ex pn) ifs tt)
  (hb:∀ D s₀ H₀ ex pn,∃ act,PB (zj X sc N s₀ H₀ ex pn) act (tb D)/\∀ it,compTurn (.ListComp elt (⟨tg,iter,ifs,0⟩ :: rest) sc pos) 0 it (.ref D) (zj X sc N s₀ H₀ ex pn).env=(do
   standAt iter.pos
   match <- pyNext it with
   | none=>pure (.done .next)
   | some v =>
    letOwnedTupleGo tg it v
    assign tg (zj X sc N s₀ H₀ ex pn).env v
    let mut ok:=true
    for c in ifs do
     if ok then ok <- isTrue c (zj X sc N s₀ H₀ ex pn).env (eval c (zj X sc N s₀ H₀ ex pn).env)
    if ok then
     act
    again (.compLoop (.ListComp elt (⟨tg,iter,ifs,0⟩ :: rest) sc pos) 0 it (.ref D) (zj X sc N s₀ H₀ ex pn).env)))
  (hN:X.N=NO) (hsc:X.env.scope=scO) (hs:∀ x,foldedSetIterable iter X.env x=pure x) :
  PE X (.ListComp elt (⟨tg,iter,ifs,0⟩ :: rest) sc pos) (jL wi own fr g tt tb):=by
 intro pins s σ H Q I h
 rw [eval_ListComp]
 refine wpAny_comprehension_free (use:=none) rfl hs (vN S hsc I.ok) S.kind (fun p hp hl=>zC S.snd (k:=.local) (by rw [<-hl];exact hp)) (thn (hi pins s σ H _ I h) fun v s1 h1=>thn h1 fun itv s2 h2=>?_)
 obtain⟨it,fp,tn,J,H2,e,I2,T,st2,f2,q⟩:=h2
 subst e
 refine qO (RR:=fun acc C=>compPost (model X.prog X.w) X.A X.xe none (EP X pins σ Q) acc C) S hN hsc hc hg ht hb I2 T st2 f2 q ?_
 rintro D C s' H' ⟨m,hm⟩ c0 c1 c2 c3 c4 J' q'
 exact⟨m,hm,fun h' hs'=>⟨.ref D,H',J'.touch hs' c2 c0 c1 c3 c4,rfl,q'⟩⟩
theorem vm (S:CompScope NO scO N sc own fr) (hc:X.calm=true) (hNd:X.N.Nodup) (hiN:X.N[i]?=some y) (hy:Loc X.env.scope y) (hi:PI X tg iter wi) (hg:∀ s₀ H₀ ex pn,PG (zj X sc N s₀ H₀ ex pn) tg g) (ht:∀ s₀ H₀ ex pn,PTs (zj X sc N s₀ H₀ ex pn) ifs tt)
  (hb:∀ D s₀ H₀ ex pn,∃ act,PB (zj X sc N s₀ H₀ ex pn) act (tb D)/\∀ it,compTurn (.ListComp elt (⟨tg,iter,ifs,0⟩ :: rest) sc pos) 0 it (.ref D) (zj X sc N s₀ H₀ ex pn).env=(do
   standAt iter.pos
   match <- pyNext it with
   | none=>pure (.done .next)
   | some v =>
    letOwnedTupleGo tg it v
    assign tg (zj X sc N s₀ H₀ ex pn).env v
    let mut ok:=true
    for c in ifs do
     if ok then ok <- isTrue c (zj X sc N s₀ H₀ ex pn).env (eval c (zj X sc N s₀ H₀ ex pn).env)
    if ok then
     act
    again (.compLoop (.ListComp elt (⟨tg,iter,ifs,0⟩ :: rest) sc pos) 0 it (.ref D) (zj X sc N s₀ H₀ ex pn).env)))
  (hN:X.N=NO) (hsc:X.env.scope=scO) (hs:∀ x,foldedSetIterable iter X.env x=pure x) (hf:X.fn y=true \/ X.env.scope.names.lookup y=some .local)
  (hsw:swapsWith (.ListComp elt (⟨tg,iter,ifs,0⟩ :: rest) sc pos) (some (.Name y py)) spos.line X.env=pure true) :
  PS X (.Assign [.Name y py] (.ListComp elt (⟨tg,iter,ifs,0⟩ :: rest) sc pos) spos) (jh (jL wi own fr g tt tb) (yV i)):=by
 intro pins s σ H D I h
 rw [exec_Assign_Name_used _ _ _ _ hsw]
 refine wpAny_bind (wpAny_standAt (wpAny_bind ?_))
 show wpAny _ X.A (do let _ <- comprehension (.ListComp elt (⟨tg,iter,ifs,0⟩ :: rest) sc pos) sc X.env _ (newList []) false (eval iter X.env) (some (assign (.Name y py) X.env))) _ _ s
 refine wpAny_bind (wpAny_mono (wpAny_comprehension_free (use:=some (assign (.Name y py) X.env)) (Q:=fun _ s'=>SP X pins D .next s') rfl hs (vN S hsc I.ok) S.kind (fun p hp hl=>zC S.snd (k:=.local) (by rw [<-hl];exact hp))
  (thn (hi pins s σ H _ I h) fun v s1 h1=>thn h1 fun itv s2 h2=>?_)) (fun _ s' hq=>wpAny_pure (wpAny_pure hq)) fun _ _ e=>e)
 obtain⟨it,fp,tn,J,H2,e,I2,T,st2,f2,q⟩:=h2
 subst e
 refine qO (Q:=fun x H1=>yV i x σ H1 D.nx) (RR:=fun acc C=>compPost (model X.prog X.w) X.A X.xe (some (assign (.Name y py) X.env)) (fun _ s'=>SP X pins D .next s') acc C) S hN hsc hc hg ht hb I2 T st2 f2 q ?_
 rintro A' C s' H' ⟨m,hm⟩ c0 c1 c2 c3 c4 J' q'
 show wpAny _ X.A (assign (.Name y py) X.env (.ref A')) _ _ _
 refine wpAny_assign_Name (j4 (v:=.ref A') J' hNd hiN hy rfl (fun s2' I2' hsb=>?_) hf)
 obtain⟨a,hs2,ha⟩:=hsb
 have hCa:C≠a:=by
  rcases ha with ha | ha
  ·rw [ha];exact c0
  ·exact afj (c1 _ _ ha)
 exact⟨m,hm.sameBut hs2 hCa,fun h' hs'=>⟨_,H',I2'.touch hs' c2 c0 c1 c3 c4,q'⟩⟩
end
end
section
variable {X:Cx} {tg elt iter tg2 iter2:Expr} {ifs ifs2:List Expr} {sc scO:Scope} {NO N:List Str} {own:Nat} {fr:List Nat} {wi wi2:TI} {g g2:TG} {tt tt2:TT} {te:TE} {pos py spos:Pos} {y:Str} {i:Nat}
theorem qP (S:CompScope NO scO N sc own fr) (hc:X.calm=true) (hi:PI X tg iter wi) (hg:∀ s₀ H₀ ex pn,PG (zj X sc N s₀ H₀ ex pn) tg g) (ht:∀ s₀ H₀ ex pn,PTs (zj X sc N s₀ H₀ ex pn) ifs tt) (he:∀ s₀ H₀ ex pn,PE (zj X sc N s₀ H₀ ex pn) elt te)
  (hN:X.N=NO) (hsc:X.env.scope=scO) (hs:∀ x,foldedSetIterable iter X.env x=pure x):PE X (.ListComp elt [⟨tg,iter,ifs,0⟩] sc pos) (jL wi own fr g tt fun D=>aaL D te) :=
 abB S hc hi hg ht (fun D s₀ H₀ ex pn=>⟨_,vM (D:=D) (he s₀ H₀ ex pn),fun _=>rfl⟩) hN hsc hs
theorem jv (S:CompScope NO scO N sc own fr) (hc:X.calm=true) (hNd:X.N.Nodup) (hiN:X.N[i]?=some y) (hy:Loc X.env.scope y) (hi:PI X tg iter wi) (hg:∀ s₀ H₀ ex pn,PG (zj X sc N s₀ H₀ ex pn) tg g) (ht:∀ s₀ H₀ ex pn,PTs (zj X sc N s₀ H₀ ex pn) ifs tt) (he:∀ s₀ H₀ ex pn,PE (zj X sc N s₀ H₀ ex pn) elt te)
  (hN:X.N=NO) (hsc:X.env.scope=scO) (hs:∀ x,foldedSetIterable iter X.env x=pure x) (hf:X.fn y=true \/ X.env.scope.names.lookup y=some .local)
  (hsw:swapsWith (.ListComp elt [⟨tg,iter,ifs,0⟩] sc pos) (some (.Name y py)) spos.line X.env=pure true) :
  PS X (.Assign [.Name y py] (.ListComp elt [⟨tg,iter,ifs,0⟩] sc pos) spos) (jh (jL wi own fr g tt fun D=>aaL D te) (yV i)) :=
 vm S hc hNd hiN hy hi hg ht (fun D s₀ H₀ ex pn=>⟨_,vM (D:=D) (he s₀ H₀ ex pn),fun _=>rfl⟩) hN hsc hs hf hsw
end
end L2
end
section
namespace L2
open PySem PySem.Spec PyProof.Rows
mutual
noncomputable def Rep (K:ad6) (H:Hp):PyData->V->Prop
 | .none,v=>v=.non
 | .bool b,v=>v=.bl b
 | .int i,v=>v=.int i
 | .str x,v=>v=.str x
 | .list ds,v=>∃ a xs,v=.ref a/\SqL K H a xs/\Reps K H ds xs
 | .tuple ds,v=>∃ a xs,v=.ref a/\SqT K H a xs/\Reps K H ds xs
 | .dict _,_=>False
noncomputable def Reps (K:ad6) (H:Hp):List PyData->List V->Prop
 | [],xs=>xs=[]
 | d :: ds,xs=>∃ x r,xs=x :: r/\Rep K H d x/\Reps K H ds r
end
theorem Same.seqT {K:ad6} {H H':Hp} {a:Addr} {xs:List V} (e:Same H H') (h:SqT K H a xs):SqT K H' a xs:=by
 rcases h with (h | ⟨o,h⟩) | h
 ·exact .inl (.inl (e _ _ h))
 ·exact .inl (.inr ⟨o,e _ _ h⟩)
 ·exact .inr h
mutual
theorem Rep.mono {K:ad6} {H H':Hp} (e:Same H H'):∀ (d:PyData) (v:V),Rep K H d v->Rep K H' d v
 | .none,_,h=>by rw [Rep] at h ⊢;exact h
 | .bool _,_,h=>by rw [Rep] at h ⊢;exact h
 | .int _,_,h=>by rw [Rep] at h ⊢;exact h
 | .str _,_,h=>by rw [Rep] at h ⊢;exact h
 | .list ds,v,h=>by
  rw [Rep] at h ⊢
  obtain⟨a,xs,h1,h2,h3⟩:=h
  exact⟨a,xs,h1,e.seq h2,Reps.mono e ds xs h3⟩
 | .tuple ds,v,h=>by
  rw [Rep] at h ⊢
  obtain⟨a,xs,h1,h2,h3⟩:=h
  exact⟨a,xs,h1,e.seqT h2,Reps.mono e ds xs h3⟩
 | .dict _,_,h=>by rw [Rep] at h;exact h.elim
theorem Reps.mono {K:ad6} {H H':Hp} (e:Same H H'):∀ (ds:List PyData) (xs:List V),Reps K H ds xs->Reps K H' ds xs
 | [],_,h=>by rw [Reps] at h ⊢;exact h
 | d :: ds,xs,h=>by
  rw [Reps] at h ⊢
  obtain⟨x,r,h1,h2,h3⟩:=h
  exact⟨x,r,h1,Rep.mono e d x h2,Reps.mono e ds r h3⟩
end
theorem rep_int {K:ad6} {H:Hp} {i:Int} {v:V}:Rep K H (.int i) v↔v=.int i:=by rw [Rep]
theorem rep_bool {K:ad6} {H:Hp} {b:Bool} {v:V}:Rep K H (.bool b) v↔v=.bl b:=by rw [Rep]
theorem rep_none {K:ad6} {H:Hp} {v:V}:Rep K H .none v↔v=.non:=by rw [Rep]
theorem rep_str {K:ad6} {H:Hp} {x:Str} {v:V}:Rep K H (.str x) v↔v=.str x:=by rw [Rep]
theorem rep_list {K:ad6} {H:Hp} {ds:List PyData} {v:V}:Rep K H (.list ds) v↔∃ a xs,v=.ref a/\SqL K H a xs/\Reps K H ds xs:=by rw [Rep]
theorem rep_tuple {K:ad6} {H:Hp} {ds:List PyData} {v:V}:Rep K H (.tuple ds) v↔∃ a xs,v=.ref a/\SqT K H a xs/\Reps K H ds xs:=by rw [Rep]
theorem reps_nil {K:ad6} {H:Hp} {xs:List V}:Reps K H [] xs↔xs=[]:=by rw [Reps]
theorem reps_cons {K:ad6} {H:Hp} {d:PyData} {ds:List PyData} {xs:List V}:Reps K H (d :: ds) xs↔∃ x r,xs=x :: r/\Rep K H d x/\Reps K H ds r:=by rw [Reps]
theorem Reps.nil' {K:ad6} {H:Hp}:Reps K H [] []:=reps_nil.mpr rfl
theorem Reps.cons' {K:ad6} {H:Hp} {d:PyData} {ds:List PyData} {x:V} {r:List V} (h:Rep K H d x) (t:Reps K H ds r):Reps K H (d :: ds) (x :: r):=reps_cons.mpr ⟨x,r,rfl,h,t⟩
theorem Reps.length {K:ad6} {H:Hp}:∀ {ds:List PyData} {xs:List V},Reps K H ds xs->xs.length=ds.length
 | [],xs,h=>by rw [reps_nil.mp h];rfl
 | d :: ds,xs,h=>by
  obtain⟨x,r,rfl,_,h3⟩:=reps_cons.mp h
  rw [aew,aew,Reps.length h3]
theorem Reps.get {K:ad6} {H:Hp}:∀ {ds:List PyData} {xs:List V} {i:Nat} {d:PyData},Reps K H ds xs->ds[i]?=some d->∃ x,xs[i]?=some x/\Rep K H d x
 | [],_,_,_,_,e=>by simp at e
 | d :: ds,xs,0,d',h,e=>by
  obtain⟨x,r,rfl,h2,_⟩:=reps_cons.mp h
  simp at e;subst e
  exact⟨x,rfl,h2⟩
 | d :: ds,xs,i+1,d',h,e=>by
  obtain⟨x,r,rfl,_,h3⟩:=reps_cons.mp h
  obtain⟨y,h1,h2⟩:=Reps.get (i:=i) h3 (by simpa using e)
  exact⟨y,by simpa using h1,h2⟩
theorem Reps.snoc {K:ad6} {H:Hp} {d:PyData} {x:V} (h:Rep K H d x):∀ {ds:List PyData} {xs:List V},Reps K H ds xs->Reps K H (ds++[d]) (xs++[x])
 | [],xs,t=>by rw [reps_nil.mp t];exact .cons' h .nil'
 | d' :: ds,xs,t=>by
  obtain⟨y,r,rfl,h2,h3⟩:=reps_cons.mp t
  exact .cons' h2 (Reps.snoc h h3)
theorem Reps.append {K:ad6} {H:Hp}:∀ {ds es:List PyData} {xs ys:List V},Reps K H ds xs->Reps K H es ys->Reps K H (ds++es) (xs++ys)
 | [],es,xs,ys,t,u=>by rw [reps_nil.mp t];exact u
 | d' :: ds,es,xs,ys,t,u=>by
  obtain⟨y,r,rfl,h2,h3⟩:=reps_cons.mp t
  exact .cons' h2 (Reps.append h3 u)
theorem Reps.ints {K:ad6} {H:Hp}:∀ {ns:List Int} {xs:List V},Reps K H (ns.map .int) xs->xs=ns.map V.int
 | [],xs,h=>reps_nil.mp h
 | n :: ns,xs,h=>by
  obtain⟨x,r,rfl,h2,h3⟩:=reps_cons.mp h
  rw [rep_int.mp h2,Reps.ints h3];rfl
theorem Reps.ints' {K:ad6} {H:Hp}:∀ (ns:List Int),Reps K H (ns.map .int) (ns.map V.int)
 | []=>.nil'
 | n :: ns=>.cons' (rep_int.mpr rfl) (Reps.ints' ns)
section
variable {X:Cx} {pins:List (Addr×Obj)} {σ:St} {H:Hp} {s:Shared}
mutual
theorem jM (I:Inv X pins σ H s):∀ (d:PyData) (v:V) (u:Value),Rep X.K H d v->RelV v u->∃ as,Reads s.heap u d as
 | .none,v,u,h,r=>by rw [rep_none.mp h] at r;cases r;exact⟨_,.none⟩
 | .bool b,v,u,h,r=>by rw [rep_bool.mp h] at r;cases r;exact⟨_,.bool b⟩
 | .int i,v,u,h,r=>by rw [rep_int.mp h] at r;obtain⟨t,rfl⟩:=r;exact⟨_,.int i t⟩
 | .str x,v,u,h,r=>by rw [rep_str.mp h] at r;obtain⟨t,rfl⟩:=r;exact⟨_,.str x t⟩
 | .list ds,v,u,h,r=>by
  obtain⟨a,xs,rfl,h2,h3⟩:=rep_list.mp h
  cases r
  obtain⟨its,rv,p,_⟩:=I.list h2
  obtain⟨o,ho,hc,n,hd⟩:=p.isList
  obtain⟨as,ra⟩:=yJ I ds xs its h3 rv
  exact⟨_,.list ho hc hd (by simpa using ra)⟩
 | .tuple ds,v,u,h,r=>by
  obtain⟨a,xs,rfl,h2,h3⟩:=rep_tuple.mp h
  cases r
  obtain⟨its,rv,p,_⟩:=I.tuple h2
  obtain⟨o,ho,hc,n,hd⟩:=p
  obtain⟨as,ra⟩:=yJ I ds xs its h3 rv
  exact⟨_,.tuple ho hc hd (by simpa using ra)⟩
 | .dict _,_,_,h,_=>by rw [Rep] at h;exact h.elim
theorem yJ (I:Inv X pins σ H s):∀ (ds:List PyData) (xs:List V) (us:List Value),Reps X.K H ds xs->Vals xs us->∃ as,ReadsAll s.heap us ds as
 | [],xs,us,h,r=>by rw [reps_nil.mp h] at r;cases r;exact⟨_,.nil⟩
 | d :: ds,xs,us,h,r=>by
  obtain⟨x,q,rfl,h2,h3⟩:=reps_cons.mp h
  cases r with
  | cons r1 r2 =>
   obtain⟨as,ra⟩:=jM I d x _ h2 r1
   obtain⟨bs,rb⟩:=yJ I ds q _ h3 r2
   exact⟨_,.cons ra rb⟩
end
noncomputable def acS (K:ad6) (neg:Bool):R2:=fun x y H Q=>∃ d d',Rep K H d x/\Rep K H d' y/\d.canLay0=true/\d'.canLay0=true/\min d.depth d'.depth<=60/\Q (.bl (if neg then !afB d d' else afB d d')) H
theorem acT (hu:X.A.units+64<cLine):OpR X (compareOp .NotEq) (acS X.K true):=by
 intro pins s σ H x y v u Q I rx ry h
 obtain⟨d,d',h1,h2,c1,c2,hm,q⟩:=h
 obtain⟨as,ra⟩:=jM I d x v h1 rx
 obtain⟨bs,rb⟩:=jM I d' y u h2 ry
 exact SeqAt.compareNe_reads ra rb c1 c2 (by omega) ⟨.bl (!afB d d'),H,I,rfl,q⟩
end
inductive DV where
 | dat (d:PyData)
 | feed
 | own (k:Nat)
 | exc (C:Value)
 | mon (φ:Hp->V->Prop)
noncomputable abbrev zi:=List (Option DV)
structure Fx where
 f:Option Addr
 M:List Addr
noncomputable def hide (H:Hp) (f:Fx):Hp:=fun b=>if f.f=some b \/ b∈f.M then none else H b
structure FOk (f:Fx) (H:Hp):Prop where
 fd:∀ p,f.f=some p->∃ a b:Int,H p=some (.lst [.int a,.int b])/\0<=a/\0<=b/\b<2147483647
 mm:∀ b∈f.M,∃ o,H b=some o
 nm:∀ p,f.f=some p->p∉f.M
noncomputable def RepV (K:ad6) (f:Fx) (H:Hp):DV->V->Prop
 | .dat d,v=>Rep K (hide H f) d v
 | .feed,v=>∃ p,f.f=some p/\v=.ref p
 | .own k,v=>∃ p,f.M.reverse[k]?=some p/\v=.ref p
 | .exc C,v=>∃ a,v=.ref a/\hide H f a=some (.ext fun h=>∃ o,h.get? a=some o/\o.cls=C)
 | .mon φ,v=>∀ H',Same (hide H f) H'->φ H' v
structure Goes (f:Fx) (H H':Hp):Prop where
 sm:Same (hide H f) (hide H' f)
 ok:FOk f H'
 kp:∀ b∈f.M,H' b=H b
structure EnvOk (K:ad6) (f:Fx) (ρ:zi) (σ:St) (H:Hp):Prop where
 len:ρ.length=σ.length
 get:∀ (i:Nat) x,ρ[i]?=some (some x)->∃ v,σ[i]?=some (some v)/\RepV K f H x v
 fd:FOk f H
theorem zX (H:Hp):hide H ⟨none,[]⟩=H:=by funext b;unfold hide;rw [if_neg (by rintro (h | h) <;> cases h)]
theorem zk (H:Hp) (f:Fx):Same (hide H f) H:=fun b o h=>by
 unfold hide at h
 split at h
 ·cases h
 ·exact h
theorem zr {H:Hp} {f:Fx} {b:Addr} {o:HO} (h:hide H f b=some o):¬ (f.f=some b \/ b∈f.M)/\H b=some o:=by
 unfold hide at h
 split at h
 ·cases h
 ·rename_i n;exact⟨n,h⟩
theorem zo {H:Hp} {f:Fx} {b:Addr} {o:HO} (n:¬ (f.f=some b \/ b∈f.M)) (h:H b=some o):hide H f b=some o:=by unfold hide;rw [if_neg n];exact h
theorem Goes.refl {f:Fx} {H:Hp} (h:FOk f H):Goes f H H:=⟨Same.refl _,h,fun _ _=>rfl⟩
theorem Goes.trans {f:Fx} {H H1 H2:Hp} (a:Goes f H H1) (b:Goes f H1 H2):Goes f H H2:=⟨a.1.trans b.1,b.2,fun x hx=>(b.kp x hx).trans (a.kp x hx)⟩
theorem Goes.of_same {f:Fx} {H H':Hp} (s:Same H H') (h:FOk f H):Goes f H H' :=
 ⟨fun b o e=>zo (zr e).1 (s b o (zr e).2),⟨fun p e=>let⟨a,b,h1,h2⟩:=h.fd p e;⟨a,b,s _ _ h1,h2⟩,fun b hb=>let⟨o,e⟩:=h.mm b hb;⟨o,s _ _ e⟩,h.nm⟩,fun b hb=>let⟨o,e⟩:=h.mm b hb;(s _ _ e).trans e.symm⟩
theorem zU {H:Hp} {p:Addr} (h:H p=none) (o:HO):Same H (upd H p o):=fun b u q=>by rw [zm (zF q h)];exact q
theorem RepV.mono {K:ad6} {f:Fx} {H H':Hp} (g:Goes f H H'):∀ {x:DV} {v:V},RepV K f H x v->RepV K f H' x v
 | .dat d,v,h=>Rep.mono g.1 d v h
 | .feed,v,h=>h
 | .own _,v,h=>h
 | .exc _,v,h=>let⟨a,e,q⟩:=h;⟨a,e,g.1 _ _ q⟩
 | .mon _,v,h=>fun H' s=>h H' (g.1.trans s)
theorem EnvOk.mono {K:ad6} {f:Fx} {ρ:zi} {σ:St} {H H':Hp} (e:EnvOk K f ρ σ H) (g:Goes f H H'):EnvOk K f ρ σ H' :=
 ⟨e.len,fun i x h=>let⟨v,h1,h2⟩:=e.get i x h;⟨v,h1,h2.mono g⟩,g.2⟩
theorem EnvOk.set {K:ad6} {f:Fx} {ρ:zi} {σ:St} {H:Hp} {x:DV} {v:V} (e:EnvOk K f ρ σ H) (i:Nat) (r:RepV K f H x v):EnvOk K f (ρ.set i (some x)) (σ.set i (some v)) H:=by
 refine⟨by rw [afa,afa];exact e.len,fun j y h=>?_,e.fd⟩
 by_cases hj:i=j
 ·subst hj
  by_cases hi:i<ρ.length
  ·rw [aeD hi] at h
   cases h
   exact⟨v,by rw [aeD (by rw [<-e.len];exact hi)],r⟩
  ·rw [aeG (by rw [afa];omega)] at h;cases h
 ·rw [aeS hj] at h ⊢
  exact e.get j y h
theorem fresh_ne {f:Fx} {H:Hp} {p:Addr} (h:FOk f H) (n:H p=none):¬ (f.f=some p \/ p∈f.M):=fun e=>by
 rcases e with e | e
 ·obtain⟨a,b,h1,_⟩:=h.fd p e
  rw [n] at h1;cases h1
 ·obtain⟨o,h1⟩:=h.mm p e
  rw [n] at h1;cases h1
inductive RepVs (K:ad6) (f:Fx) (H:Hp):List DV->List V->Prop where
 | nil:RepVs K f H [] []
 | cons {x v xs vs}:RepV K f H x v->RepVs K f H xs vs->RepVs K f H (x :: xs) (v :: vs)
theorem RepVs.mono {K:ad6} {f:Fx} {H H':Hp} (g:Goes f H H'):∀ {xs:List DV} {vs:List V},RepVs K f H xs vs->RepVs K f H' xs vs
 | _,_,.nil=>.nil
 | _,_,.cons r t=>.cons (r.mono g) (t.mono g)
theorem RepVs.length {K:ad6} {f:Fx} {H:Hp}:∀ {xs:List DV} {vs:List V},RepVs K f H xs vs->vs.length=xs.length
 | _,_,.nil=>rfl
 | _,_,.cons _ t=>by rw [aew,aew,t.length]
section
variable (K:ad6) (f:Fx)
noncomputable def PEd (te:TE) (ρ:zi) (P:PyData->Prop):Prop:=∀ (σ:St) (H:Hp) (Q:VK),EnvOk K f ρ σ H->(∀ d v H',Goes f H H'->Rep K (hide H' f) d v->P d->Q v H')->te σ H Q
noncomputable def PTd (tt:TT) (ρ:zi) (P:Bool->Prop):Prop:=∀ (σ:St) (H:Hp) (Q:Bool->Hp->Prop),EnvOk K f ρ σ H->(∀ b H',Goes f H H'->P b->Q b H')->tt σ H Q
noncomputable def PAd (ta:TA) (ρ:zi) (P:List DV->Prop):Prop:=∀ (σ:St) (H:Hp) (Q:List V->Hp->Prop),EnvOk K f ρ σ H->(∀ xs vs H',Goes f H H'->RepVs K f H' xs vs->P xs->Q vs H')->ta σ H Q
structure DEnds where
 nx:zi->Prop
 rt:PyData->Prop
 bk:zi->Prop:=fun _=>False
 ct:zi->Prop:=fun _=>False
noncomputable def PSd (ts:TS) (ρ:zi) (D:DEnds):Prop:=∀ (σ:St) (H:Hp) (E:Ends),EnvOk K f ρ σ H->(∀ ρ' σ' H',Goes f H H'->EnvOk K f ρ' σ' H'->D.nx ρ'->E.nx σ' H')->(∀ d v H',Goes f H H'->Rep K (hide H' f) d v->D.rt d->E.rt v H') ->
 (∀ ρ' σ' H',Goes f H H'->EnvOk K f ρ' σ' H'->D.bk ρ'->E.bk σ' H')->(∀ ρ' σ' H',Goes f H H'->EnvOk K f ρ' σ' H'->D.ct ρ'->E.ct σ' H')->ts E σ H
noncomputable def spD {γ:Type} (n:Nat) (pre:γ->List DV->Prop) (post:γ->PyData->Prop):Sp:=fun vs H Q _=>∃ f xs c,RepVs K f H xs vs/\xs.length=n/\FOk f H/\pre c xs/\∀ r v H',Goes f H H'->Rep K (hide H' f) r v->post c r->Q v H'
end
section
variable {K:ad6} {f:Fx} {ρ:zi} {P:PyData->Prop} {te ta tb tc:TE}
theorem zf {i:Nat} {d:PyData} (h:ρ[i]?=some (some (.dat d))) (p:P d):PEd K f (yG i) ρ P:=fun σ H Q e q=>by
 obtain⟨v,h1,h2⟩:=e.get i _ h
 exact⟨v,h1,q d v H (.refl e.fd) h2 p⟩
theorem zN {i:Int} (p:P (.int i)):PEd K f (tC (.int i)) ρ P:=fun σ H Q e q=>q (.int i) _ H (.refl e.fd) (rep_int.mpr rfl) p
theorem aah {i:Bool} (p:P (.bool i)):PEd K f (tC (.bl i)) ρ P:=fun σ H Q e q=>q (.bool i) _ H (.refl e.fd) (rep_bool.mpr rfl) p
theorem aci (p:P .none):PEd K f (tC .non) ρ P:=fun σ H Q e q=>q .none _ H (.refl e.fd) (rep_none.mpr rfl) p
theorem PEd.imp {P':PyData->Prop} (h:PEd K f te ρ P) (i:∀ d,P d->P' d):PEd K f te ρ P':=fun σ H Q e q=>h σ H Q e fun d v H' g r p=>q d v H' g r (i d p)
theorem aai {r:R2} (h:PEd K f ta ρ fun x=>PEd K f tb ρ fun y=>∀ (v w:V) (H:Hp) (Q:VK),FOk f H->Rep K (hide H f) x v->Rep K (hide H f) y w->(∀ d u H',Goes f H H'->Rep K (hide H' f) d u->P d->Q u H')->r v w H Q):PEd K f (tOp r ta tb) ρ P:=fun σ H Q e q =>
 h σ H _ e fun x v H1 g1 r1 p1=>p1 σ H1 _ (e.mono g1) fun y w H2 g2 r2 p2=>p2 v w H2 Q g2.2 (Rep.mono g2.1 x v r1) r2 fun d u H' g' r' p'=>q d u H' (g1.trans (g2.trans g')) r' p'
theorem adV {r:V->Hp->VK->Prop} (h:PEd K f ta ρ fun x=>∀ (v:V) (H:Hp) (Q:VK),FOk f H->Rep K (hide H f) x v->(∀ d u H',Goes f H H'->Rep K (hide H' f) d u->P d->Q u H')->r v H Q):PEd K f (tUn r ta) ρ P:=fun σ H Q e q =>
 h σ H _ e fun x v H1 g1 r1 p1=>p1 v H1 Q g1.2 r1 fun d u H' g' r' p'=>q d u H' (g1.trans g') r' p'
theorem yK {g:Int->Int->Int} (h:PEd K f ta ρ fun x=>∃ i,x=.int i/\PEd K f tb ρ fun y=>∃ j,y=.int j/\P (.int (g i j))):PEd K f (tOp (rI0 fun i j=>.int (g i j)) ta tb) ρ P :=
 aai (h.imp fun x ⟨i,ex,h2⟩=>h2.imp fun y ⟨j,ey,p⟩ v w H Q fo rx ry q=>by
  subst ex ey
  exact⟨i,j,rep_int.mp rx,rep_int.mp ry,q _ _ H (.refl fo) (rep_int.mpr rfl) p⟩)
theorem jN {C:Int->Int->Prop} {g:Int->Int->Int} (h:PEd K f ta ρ fun x=>∃ i,x=.int i/\PEd K f tb ρ fun y=>∃ j,y=.int j/\C i j/\P (.int (g i j))):PEd K f (tOp (rI C fun i j=>.int (g i j)) ta tb) ρ P :=
 aai (h.imp fun x ⟨i,ex,h2⟩=>h2.imp fun y ⟨j,ey,c,p⟩ v w H Q fo rx ry q=>by
  subst ex ey
  exact⟨i,j,rep_int.mp rx,rep_int.mp ry,c,q _ _ H (.refl fo) (rep_int.mpr rfl) p⟩)
theorem acj {g:Int->Int->Bool} (h:PEd K f ta ρ fun x=>∃ i,x=.int i/\PEd K f tb ρ fun y=>∃ j,y=.int j/\P (.bool (g i j))):PEd K f (tOp (rI0 fun i j=>.bl (g i j)) ta tb) ρ P :=
 aai (h.imp fun x ⟨i,ex,h2⟩=>h2.imp fun y ⟨j,ey,p⟩ v w H Q fo rx ry q=>by
  subst ex ey
  exact⟨i,j,rep_int.mp rx,rep_int.mp ry,q _ _ H (.refl fo) (rep_bool.mpr rfl) p⟩)
theorem aaM {neg:Bool} (h:PEd K f ta ρ fun x=>PEd K f tb ρ fun y=>x.canLay0=true/\y.canLay0=true/\min x.depth y.depth<=60/\P (.bool (if neg then !afB x y else afB x y))):PEd K f (tOp (acS K neg) ta tb) ρ P :=
 aai (h.imp fun x h2=>h2.imp fun y ⟨c1,c2,c3,p⟩ v w H Q fo rx ry q =>
  ⟨x,y,Rep.mono (zk _ _) x v rx,Rep.mono (zk _ _) y w ry,c1,c2,c3,q _ _ H (.refl fo) (rep_bool.mpr rfl) p⟩)
theorem yo (h:PEd K f ta ρ fun x=>∃ ds,x=.list ds/\PEd K f tb ρ fun y=>∃ k,y=.int k/\∃ d,atI ds k=some d/\P d):PEd K f (tOp (aae K) ta tb) ρ P :=
 aai (h.imp fun x ⟨ds,ex,h2⟩=>h2.imp fun y ⟨k,ey,d,a,p⟩ v w H Q fo rx ry q=>by
  subst ex ey
  obtain⟨l,xs,rfl,hs,hr⟩:=rep_list.mp rx
  unfold atI at a
  cases hi:ixN ds.length k with
  | none=>rw [hi] at a;cases a
  | some j =>
   rw [hi] at a
   obtain⟨u,hu,ru⟩:=hr.get a
   exact⟨l,xs,k,u,rfl,rep_int.mp ry,(zk H f).seq hs,by unfold atI;rw [hr.length,hi];exact hu,q d u H (.refl fo) ru p⟩)
theorem aaN (h:PEd K f ta ρ fun x=>∃ ds,x=.tuple ds/\PEd K f tb ρ fun y=>∃ k,y=.int k/\∃ d,atI ds k=some d/\P d):PEd K f (tOp (acP K) ta tb) ρ P :=
 aai (h.imp fun x ⟨ds,ex,h2⟩=>h2.imp fun y ⟨k,ey,d,a,p⟩ v w H Q fo rx ry q=>by
  subst ex ey
  obtain⟨l,xs,rfl,hs,hr⟩:=rep_tuple.mp rx
  unfold atI at a
  cases hi:ixN ds.length k with
  | none=>rw [hi] at a;cases a
  | some j =>
   rw [hi] at a
   obtain⟨u,hu,ru⟩:=hr.get a
   exact⟨l,xs,k,u,rfl,rep_int.mp ry,(zk H f).seqT hs,by unfold atI;rw [hr.length,hi];exact hu,q d u H (.refl fo) ru p⟩)
theorem adz {i:Nat} (hi:ρ[i]?=some (some .feed)) (h:PEd K f tb ρ fun y=>(y=.int 0/\∀ a:Int,0<=a->P (.int a)) \/ (y=.int 1/\∀ b:Int,0<=b->b<2147483647->P (.int b))):PEd K f (tOp (aae K) (yG i) tb) ρ P:=fun σ H Q e q=>by
 obtain⟨v,h1,p,ef,ev⟩:=e.get i _ hi
 refine⟨v,h1,h σ H _ e fun y w H' g r c=>?_⟩
 obtain⟨a,b,hf,c1,c2,c3⟩:=g.2.fd p ef
 rcases c with⟨rfl,c⟩ | ⟨rfl,c⟩
 ·exact⟨p,_,0,.int a,ev,rep_int.mp r,SqL.of hf,rfl,q (.int a) _ H' g (rep_int.mpr rfl) (c a c1)⟩
 ·exact⟨p,_,1,.int b,ev,rep_int.mp r,SqL.of hf,rfl,q (.int b) _ H' g (rep_int.mpr rfl) (c b c2 c3)⟩
theorem zB {R:List DV->Prop} (p:R []):PAd K f vh ρ R:=fun σ H Q e q=>q [] [] H (.refl e.fd) .nil p
theorem zg {R:List DV->Prop} {u:TA} (h:PEd K f te ρ fun x=>PAd K f u ρ fun xs=>R (.dat x :: xs)):PAd K f (y7 te u) ρ R:=fun σ H Q e q =>
 h σ H _ e fun x v H1 g1 r1 p1=>p1 σ H1 _ (e.mono g1) fun xs vs H2 g2 r2 p2=>q (.dat x :: xs) (v :: vs) H2 (g1.trans g2) (.cons (RepV.mono (x:=.dat x) g2 r1) r2) p2
theorem acU {R:List DV->Prop} {u:TA} {i:Nat} (hi:ρ[i]?=some (some .feed)) (h:PAd K f u ρ fun xs=>R (.feed :: xs)):PAd K f (y7 (yG i) u) ρ R:=fun σ H Q e q=>by
 obtain⟨v,h1,h2⟩:=e.get i _ hi
 exact⟨v,h1,h σ H _ e fun xs vs H2 g2 r2 p2=>q (.feed :: xs) (v :: vs) H2 g2 (.cons (RepV.mono (x:=.feed) g2 h2) r2) p2⟩
noncomputable def yy:List DV->Option (List PyData)
 | []=>some []
 | .dat d :: r=>(yy r).map (d :: ·)
 | .feed :: _=>none
 | .own _ :: _=>none
 | .exc _ :: _=>none
 | .mon _ :: _=>none
theorem yS {H:Hp}:∀ {xs:List DV} {vs:List V} {ds:List PyData},RepVs K f H xs vs->yy xs=some ds->Reps K (hide H f) ds vs
 | _,_,ds,.nil,e=>by cases e;exact .nil'
 | .dat d :: xs,v :: vs,ds,.cons r t,e=>by
  unfold yy at e
  cases q:yy xs with
  | none=>rw [q] at e;cases e
  | some es=>rw [q] at e;cases e;exact .cons' r (yS t q)
 | .feed :: xs,_,ds,.cons r t,e=>by cases e
 | .own _ :: xs,_,ds,.cons r t,e=>by cases e
 | .exc _ :: xs,_,ds,.cons r t,e=>by cases e
 | .mon _ :: xs,_,ds,.cons r t,e=>by cases e
theorem aaO {t:TA} (h:PAd K f t ρ fun xs=>∃ ds,yy xs=some ds/\ds.length<=1000/\P (.list ds)):PEd K f (aaH t) ρ P:=fun σ H Q e q =>
 h σ H _ e fun xs vs H1 g1 r1 ⟨ds,ea,hl,p⟩=>by
  have rs:=yS r1 ea
  refine⟨by rw [rs.length];exact aeQ (zW hl),fun l hn=>?_⟩
  have sm:=zU hn (.lst vs)
  have g2:Goes f H1 (upd H1 l (.lst vs)):=.of_same sm g1.2
  exact q (.list ds) _ _ (g1.trans g2) (rep_list.mpr ⟨l,vs,rfl,.of (zo (fresh_ne g1.2 hn) zp),Reps.mono g2.1 ds vs rs⟩) p
theorem vO {t:TA} (h:PAd K f t ρ fun xs=>∃ ds,yy xs=some ds/\ds.length<=1000/\P (.tuple ds)):PEd K f (adw t) ρ P:=fun σ H Q e q =>
 h σ H _ e fun xs vs H1 g1 r1 ⟨ds,ea,hl,p⟩=>by
  have rs:=yS r1 ea
  refine⟨by rw [rs.length];exact aeQ (zW hl),fun l hn=>?_⟩
  have sm:=zU hn (.tup vs)
  have g2:Goes f H1 (upd H1 l (.tup vs)):=.of_same sm g1.2
  exact q (.tuple ds) _ _ (g1.trans g2) (rep_tuple.mpr ⟨l,vs,rfl,.of (zo (fresh_ne g1.2 hn) zp),Reps.mono g2.1 ds vs rs⟩) p
theorem zP {γ:Type} {n:Nat} {pre:γ->List DV->Prop} {post:γ->PyData->Prop} {E:XK} {t:TA} (c:γ) (h:PAd K f t ρ fun xs=>xs.length=n/\pre c xs/\∀ r,post c r->P r):PEd K f (vF (spD K n pre post) [] E t) ρ P:=fun σ H Q e q =>
 h σ H _ e fun xs vs H1 g1 r1 ⟨hl,hp,k⟩=>by
  refine⟨f,xs,c,by rw [afP];exact r1,hl,g1.2,hp,fun r v H' g' r' p'=>q r v H' (g1.trans g') r' (k r p')⟩
theorem acV {r:List V->Hp->VK->Prop} {t:TA} (h:PAd K f t ρ fun xs=>∃ ds,yy xs=some ds/\∀ (vs:List V) (H:Hp) (Q:VK),FOk f H->Reps K (hide H f) ds vs->(∀ d u H',Goes f H H'->Rep K (hide H' f) d u->P d->Q u H')->r vs H Q):PEd K f (tCB r t) ρ P:=fun σ H Q e q =>
 h σ H _ e fun xs vs H1 g1 r1 ⟨ds,ea,k⟩=>k vs H1 Q g1.2 (yS r1 ea) fun d u H' g' r' p'=>q d u H' (g1.trans g') r' p'
end
section
variable {K:ad6} {f:Fx} {ρ:zi} {P:PyData->Prop} {B:Bool->Prop} {te ta tb tc:TE} {tt tu:TT}
theorem PTd.imp {B':Bool->Prop} (h:PTd K f tt ρ B) (i:∀ d,B d->B' d):PTd K f tt ρ B':=fun σ H Q e q=>h σ H Q e fun d H' g p=>q d H' g (i d p)
theorem jm (h:PEd K f te ρ fun d=>∃ k,d=.bool k/\B k):PTd K f (acf te) ρ B:=fun σ H Q e q=>h σ H _ e fun d v H' g r ⟨k,ed,p⟩=>by
 subst ed
 exact⟨k,rep_bool.mp r,q k H' g p⟩
theorem ack (h:PTd K f tt ρ fun c=>if c=true then PTd K f tu ρ B else B false):PTd K f (adn tt tu) ρ B:=fun σ H Q e q=>h σ H _ e fun c H1 g p=>by
 cases c with
 | true =>
  rw [if_pos rfl] at p ⊢
  exact p σ H1 Q (e.mono g) fun b H2 g2 p2=>q b H2 (g.trans g2) p2
 | false =>
  rw [if_neg aef] at p ⊢
  exact q false H1 g p
theorem acW (h:PTd K f tt ρ fun c=>if c=true then B true else PTd K f tu ρ B):PTd K f (tOr tt tu) ρ B:=fun σ H Q e q=>h σ H _ e fun c H1 g p=>by
 cases c with
 | true =>
  rw [if_pos rfl] at p ⊢
  exact q true H1 g p
 | false =>
  rw [if_neg aef] at p ⊢
  exact p σ H1 Q (e.mono g) fun b H2 g2 p2=>q b H2 (g.trans g2) p2
theorem vP (h:PTd K f tt ρ fun c=>B (!c)):PTd K f (ado tt) ρ B:=fun σ H Q e q=>h σ H _ e fun c H1 g p=>q (!c) H1 g p
noncomputable def adW:PyData->Option Bool
 | .none=>some false
 | .bool b=>some b
 | .int i=>some (i != 0)
 | .list ds=>some (!ds.isEmpty)
 | .tuple ds=>some (!ds.isEmpty)
 | _=>none
noncomputable def acX (K:ad6) (ta:TE):TT:=fun σ H Q=>ta σ H fun x H'=>∃ k,acM K x H' k/\Q k H'
theorem acY {X:Cx} {a:Expr} (ha:PE X a ta) (he:∀ whole,isTrue a X.env whole=(do let v <- whole;standAt a.pos;holding [v] (truthy v))):PT X a (acX X.K ta):=aaF ha he
theorem qg (h:PEd K f ta ρ fun d=>∃ k,adW d=some k/\B k):PTd K f (acX K ta) ρ B:=fun σ H Q e q=>h σ H _ e fun d v H' g r ⟨k,ed,p⟩=>by
 refine⟨k,?_,q k H' g p⟩
 cases d with
 | none=>rw [rep_none.mp r];cases ed;rfl
 | bool b=>rw [rep_bool.mp r];cases ed;rfl
 | int i=>rw [rep_int.mp r];cases ed;rfl
 | str x=>cases ed
 | list ds =>
  obtain⟨a,xs,rfl,h1,h2⟩:=rep_list.mp r
  cases ed
  refine .inl ⟨xs,(zk _ _).seq h1,?_⟩
  cases ds with
  | nil=>rw [reps_nil.mp h2];rfl
  | cons d ds=>obtain⟨x,r,rfl,_⟩:=reps_cons.mp h2;rfl
 | tuple ds =>
  obtain⟨a,xs,rfl,h1,h2⟩:=rep_tuple.mp r
  cases ed
  refine .inr (.inl ⟨xs,(zk _ _).seqT h1,?_⟩)
  cases ds with
  | nil=>rw [reps_nil.mp h2];rfl
  | cons d ds=>obtain⟨x,r,rfl,_⟩:=reps_cons.mp h2;rfl
 | dict _=>cases ed
theorem qh {t:TA} (h:PAd K f t ρ fun xs=>(∃ ds,xs=[.dat (.list ds)]/\P (.int ds.length)) \/ (∃ ds,xs=[.dat (.tuple ds)]/\P (.int ds.length))) :
  PEd K f (tCB (fun xs H Q=>∃ p ys,xs=[.ref p]/\(SqL K H p ys \/ SqT K H p ys)/\Q (.int ys.length) H) t) ρ P :=
 acV fun σ H Q e q=>h σ H Q e fun xs vs H' g r p=>by
  rcases p with⟨ds,rfl,p⟩ | ⟨ds,rfl,p⟩
  ·refine q _ vs H' g r ⟨_,rfl,fun vs H Q fo rs k=>?_⟩
   obtain⟨x,r,rfl,h2,h3⟩:=reps_cons.mp rs
   rw [reps_nil.mp h3]
   obtain⟨a,ys,rfl,s1,s2⟩:=rep_list.mp h2
   exact⟨a,ys,rfl,.inl ((zk _ _).seq s1),k (.int ds.length) _ H (.refl fo) (rep_int.mpr (by rw [s2.length])) p⟩
  ·refine q _ vs H' g r ⟨_,rfl,fun vs H Q fo rs k=>?_⟩
   obtain⟨x,r,rfl,h2,h3⟩:=reps_cons.mp rs
   rw [reps_nil.mp h3]
   obtain⟨a,ys,rfl,s1,s2⟩:=rep_tuple.mp h2
   exact⟨a,ys,rfl,.inr ((zk _ _).seqT s1),k (.int ds.length) _ H (.refl fo) (rep_int.mpr (by rw [s2.length])) p⟩
theorem acZ {g:Int->Int->Int} {t:TA} (h:PAd K f t ρ fun xs=>∃ i j,xs=[.dat (.int i),.dat (.int j)]/\P (.int (g i j))):PEd K f (tCB (fun xs H Q=>∃ i j,xs=[.int i,.int j]/\Q (.int (g i j)) H) t) ρ P :=
 acV fun σ H Q e q=>h σ H Q e fun xs vs H' g' r ⟨i,j,ex,p⟩=>by
  subst ex
  refine q _ vs H' g' r ⟨_,rfl,fun vs H Q fo rs k=>?_⟩
  obtain⟨x,r,rfl,h2,h3⟩:=reps_cons.mp rs
  obtain⟨y,r',rfl,h4,h5⟩:=reps_cons.mp h3
  rw [reps_nil.mp h5,rep_int.mp h2,rep_int.mp h4]
  exact⟨i,j,rfl,k _ _ H (.refl fo) (rep_int.mpr rfl) p⟩
theorem ac0 {g:Int->Int} {t:TA} (h:PAd K f t ρ fun xs=>∃ i,xs=[.dat (.int i)]/\P (.int (g i))):PEd K f (tCB (fun xs H Q=>∃ i,xs=[.int i]/\Q (.int (g i)) H) t) ρ P :=
 acV fun σ H Q e q=>h σ H Q e fun xs vs H' g' r ⟨i,ex,p⟩=>by
  subst ex
  refine q _ vs H' g' r ⟨_,rfl,fun vs H Q fo rs k=>?_⟩
  obtain⟨x,r,rfl,h2,h3⟩:=reps_cons.mp rs
  rw [reps_nil.mp h3,rep_int.mp h2]
  exact⟨i,rfl,k _ _ H (.refl fo) (rep_int.mpr rfl) p⟩
end
section
variable {K:ad6} {f:Fx} {ρ:zi} {D:DEnds} {te ta tb:TE} {tt:TT} {ts tu:TS}
theorem jO (p:D.nx ρ):PSd K f ab7 ρ D:=fun σ H E e n _ _ _=>n ρ σ H (.refl e.fd) e p
theorem yp (h:PSd K f ts ρ { D with nx:=fun ρ'=>PSd K f tu ρ' D }):PSd K f (qo ts tu) ρ D:=fun σ H E e n r b c =>
 h σ H { E with nx:=tu E } e (fun ρ' σ' H' g e' p=>p σ' H' E e' (fun ρ'' σ'' H'' g' e'' p'=>n ρ'' σ'' H'' (g.trans g') e'' p') (fun d v H'' g' r' p'=>r d v H'' (g.trans g') r' p') (fun ρ'' σ'' H'' g' e'' p'=>b ρ'' σ'' H'' (g.trans g') e'' p') (fun ρ'' σ'' H'' g' e'' p'=>c ρ'' σ'' H'' (g.trans g') e'' p')) r b c
theorem y8 (h:PEd K f te ρ D.rt):PSd K f (acF te) ρ D:=fun σ H E e n r b c=>h σ H _ e r
theorem aaj (h:PTd K f tt ρ fun b=>if b=true then PSd K f ts ρ D else PSd K f tu ρ D):PSd K f (adp tt ts tu) ρ D:=fun σ H E e n r b c=>h σ H _ e fun k H1 g p=>by
 cases k with
 | true =>
  rw [if_pos rfl] at p ⊢
  exact p σ H1 E (e.mono g) (fun ρ'' σ'' H'' g' e'' p'=>n ρ'' σ'' H'' (g.trans g') e'' p') (fun d v H'' g' r' p'=>r d v H'' (g.trans g') r' p') (fun ρ'' σ'' H'' g' e'' p'=>b ρ'' σ'' H'' (g.trans g') e'' p') (fun ρ'' σ'' H'' g' e'' p'=>c ρ'' σ'' H'' (g.trans g') e'' p')
 | false =>
  rw [if_neg aef] at p ⊢
  exact p σ H1 E (e.mono g) (fun ρ'' σ'' H'' g' e'' p'=>n ρ'' σ'' H'' (g.trans g') e'' p') (fun d v H'' g' r' p'=>r d v H'' (g.trans g') r' p') (fun ρ'' σ'' H'' g' e'' p'=>b ρ'' σ'' H'' (g.trans g') e'' p') (fun ρ'' σ'' H'' g' e'' p'=>c ρ'' σ'' H'' (g.trans g') e'' p')
noncomputable def PGd (K:ad6) (f:Fx) (g:TG) (d:PyData) (ρ:zi) (R:zi->Prop):Prop:=∀ (σ:St) (H:Hp) (v:V) (Q:St->Hp->Prop),EnvOk K f ρ σ H->Rep K (hide H f) d v->(∀ ρ' σ' H',Goes f H H'->EnvOk K f ρ' σ' H'->R ρ'->Q σ' H')->g v σ H Q
noncomputable def abC (K:ad6) (f:Fx) (g:TGs) (ds:List PyData) (ρ:zi) (R:zi->Prop):Prop:=∀ (σ:St) (H:Hp) (vs:List V) (Q:St->Hp->Prop),EnvOk K f ρ σ H->Reps K (hide H f) ds vs->(∀ ρ' σ' H',Goes f H H'->EnvOk K f ρ' σ' H'->R ρ'->Q σ' H')->g vs σ H Q
theorem zG {i:Nat} {d:PyData} {R:zi->Prop} (h:R (ρ.set i (some (.dat d)))):PGd K f (yV i) d ρ R:=fun σ H v Q e r q=>q _ _ H (.refl e.fd) (e.set i (x:=.dat d) r) h
theorem vn {R:zi->Prop} (h:R ρ):abC K f ads [] ρ R:=fun σ H vs Q e r q=>⟨reps_nil.mp r,q ρ σ H (.refl e.fd) e h⟩
theorem y9 {g:TG} {gs:TGs} {d:PyData} {ds:List PyData} {R:zi->Prop} (h:PGd K f g d ρ fun ρ'=>abC K f gs ds ρ' R):abC K f (ab8 g gs) (d :: ds) ρ R:=fun σ H vs Q e r q=>by
 obtain⟨x,r',rfl,h2,h3⟩:=reps_cons.mp r
 exact⟨x,r',rfl,h σ H x _ e h2 fun ρ' σ' H' g' e' p=>p σ' H' r' Q e' (Reps.mono g'.1 ds r' h3) fun ρ'' σ'' H'' g'' e'' p'=>q ρ'' σ'' H'' (g'.trans g'') e'' p'⟩
theorem aaP {n:Nat} {gs:TGs} {ds:List PyData} {R:zi->Prop} (hn:ds.length=n) (h:abC K f gs ds ρ R):PGd K f (acH K n gs) (.tuple ds) ρ R:=fun σ H v Q e r q=>by
 obtain⟨a,xs,rfl,h1,h2⟩:=rep_tuple.mp r
 exact⟨a,xs,rfl,(zk _ _).seqT h1,by rw [h2.length];exact hn,h σ H xs Q e h2 q⟩
theorem jP {g:TG} (h:PEd K f te ρ fun d=>PGd K f g d ρ D.nx):PSd K f (jh te g) ρ D:=fun σ H E e n r b c =>
 h σ H _ e fun d v H1 g1 r1 p1=>p1 σ H1 v _ (e.mono g1) r1 fun ρ' σ' H' g' e' p'=>n ρ' σ' H' (g1.trans g') e' p'
end
end L2
end
section
namespace L2
open PySem PySem.Spec PyProof.Rows
noncomputable def frD (fr:List Nat) (ρ:zi):zi:=fr.map fun j=>(ρ[j]?).getD none
noncomputable def jQ (own:Nat) (fr:List Nat) (ρ:zi):zi:=afd own none++frD fr ρ
noncomputable abbrev Fx.with (f:Fx) (D:Addr):Fx:=⟨f.f,D :: f.M⟩
section
variable {K:ad6} {f:Fx} {ρ:zi} {σ:St} {H H':Hp} {D:Addr} {o:HO}
theorem aak {own:Nat} {fr:List Nat} (e:EnvOk K f ρ σ H):EnvOk K f (jQ own fr ρ) (yc own fr σ) H:=by
 refine⟨by unfold jQ yc frD;simp,fun i x h=>?_,e.fd⟩
 unfold jQ frD at h
 unfold yc
 by_cases hi:i<own
 ·rw [ad8 (by simpa using hi),ae0] at h
  split at h <;> cases h
 ·rw [aec (by simpa using hi)] at h ⊢
  simp only [afn,aee] at h ⊢
  cases hj:fr[i - own]? with
  | none=>rw [hj] at h;cases h
  | some j =>
   rw [hj] at h
   have h':(ρ[j]?).getD none=some x:=Option.some.inj h
   have hρ:ρ[j]?=some (some x):=by
    cases q:ρ[j]? with
    | none=>rw [q] at h';cases h'
    | some w=>rw [q] at h';exact congrArg some h'
   obtain⟨v,h1,h2⟩:=e.get j x hρ
   exact⟨v,by simp [h1],h2⟩
theorem zV:hide (upd H D o) (f.with D)=hide H (f.with D):=by
 funext b
 unfold hide
 by_cases hb:f.f=some b \/ b∈D :: f.M
 ·rw [if_pos hb,if_pos hb]
 ·rw [if_neg hb,if_neg hb]
  have:b≠D:=fun z=>hb (.inr (z▸aep))
  exact zm this
theorem same_with:Same (hide H (f.with D)) (hide H f):=fun b o h=>by
 obtain⟨h1,h2⟩:=zr h
 exact zo (fun z=>h1 (z.elim .inl fun z=>.inr (aeb _ z))) h2
theorem ja (hn:H D=none):Same (hide H f) (hide (upd H D o) (f.with D)):=fun b u h=>by
 obtain⟨h1,h2⟩:=zr h
 have hb:b≠D:=zF h2 hn
 exact zo (fun z=>z.elim (fun z=>h1 (.inl z)) fun z=>(aek.mp z).elim hb fun z=>h1 (.inr z)) (by rw [zm hb];exact h2)
theorem ac1 (h:FOk f H) (hn:H D=none):FOk (f.with D) (upd H D o) :=
 ⟨fun p e=>let⟨a,b,h1,h2⟩:=h.fd p e;⟨a,b,by rw [zm (zF h1 hn)];exact h1,h2⟩,fun b hb=>by
  rcases aek.mp hb with rfl | hb
  ·exact⟨_,zp⟩
  ·obtain⟨o',h1⟩:=h.mm b hb
   exact⟨o',by rw [zm (zF h1 hn)];exact h1⟩,fun p e hp=>by
  rcases aek.mp hp with rfl | hp
  ·exact fresh_ne h hn (.inl e)
  ·exact h.nm p e hp⟩
theorem ac2 (e:EnvOk K f ρ σ H) (hn:H D=none):EnvOk K (f.with D) ρ σ (upd H D o) :=
 ⟨e.len,fun i x h=>let⟨v,h1,h2⟩:=e.get i x h;⟨v,h1,by
  cases x with
  | dat d=>exact Rep.mono (ja hn) d v h2
  | feed=>exact h2
  | own k =>
   obtain⟨p,h3,h4⟩:=h2
   refine⟨p,?_,h4⟩
   show (D :: f.M).reverse[k]?=some p
   rw [aen,ad8 (ad9.mp h3).1]
   exact h3
  | exc C =>
   obtain⟨a,h3,h4⟩:=h2
   exact⟨a,h3,ja hn _ _ h4⟩
  | mon φ=>exact fun H' s=>h2 H' ((ja hn).trans s)⟩,ac1 e.fd hn⟩
theorem abD (hD:f.f≠some D) (e:EnvOk K (f.with D) ρ σ H):EnvOk K (f.with D) ρ σ (upd H D o) :=
 ⟨e.len,fun i x h=>let⟨v,h1,h2⟩:=e.get i x h;⟨v,h1,by
  cases x with
  | dat d =>
   have h2':Rep K (hide H (f.with D)) d v:=h2
   show Rep K (hide (upd H D o) (f.with D)) d v
   rw [zV];exact h2'
  | feed=>exact h2
  | own k=>exact h2
  | exc C =>
   obtain⟨a,h3,h4⟩:=h2
   refine⟨a,h3,?_⟩
   rw [zV]
   exact h4
  | mon φ =>
   intro H' s
   rw [zV] at s
   exact h2 H' s⟩,⟨fun p ep=>let⟨a,b,h1,h2⟩:=e.fd.fd p ep;⟨a,b,by rw [zm (fun z=>hD (by rw [<-z];exact ep))];exact h1,h2⟩,fun b hb=>by
   by_cases hb':b=D
   ·subst hb';exact⟨_,zp⟩
   ·rw [zm hb'];exact e.fd.mm b hb,e.fd.nm⟩⟩
end
section
variable {K:ad6} {f:Fx} {ρ:zi} {P:PyData->Prop} {te tl:TE} {tt:TT} {g:TG} {own:Nat} {fr:List Nat}
structure CSt (K:ad6) (f:Fx) (D:Addr) (H2:Hp) (ρ':zi) (es:List PyData) (σ:St) (H:Hp):Prop where
 env:EnvOk K (f.with D) ρ' σ H
 sm:Same (hide H2 (f.with D)) (hide H (f.with D))
 kp:∀ b∈f.M,H b=H2 b
 lst:∃ vs,H D=some (.lst vs)/\Reps K (hide H (f.with D)) es vs
theorem CSt.go {D:Addr} {H2 H H':Hp} {ρ':zi} {es:List PyData} {σ:St} (c:CSt K f D H2 ρ' es σ H) (gg:Goes (f.with D) H H') {ρ2:zi} {σ2:St} (e2:EnvOk K (f.with D) ρ2 σ2 H'):CSt K f D H2 ρ2 es σ2 H' :=
 ⟨e2,c.sm.trans gg.sm,fun b hb=>(gg.kp b (aeb _ hb)).trans (c.kp b hb),let⟨vs,h1,h2⟩:=c.lst;⟨vs,(gg.kp D aep).trans h1,Reps.mono gg.sm es vs h2⟩⟩
theorem CSt.put {D:Addr} {H2 H:Hp} {ρ':zi} {es:List PyData} {σ:St} {d:PyData} {v:V} {vs:List V} (hD:f.f≠some D) (hM:D∉f.M) (c:CSt K f D H2 ρ' es σ H) (h1:H D=some (.lst vs)) (h2:Reps K (hide H (f.with D)) es vs) (r:Rep K (hide H (f.with D)) d v) :
  CSt K f D H2 ρ' (es++[d]) σ (upd H D (.lst (vs++[v]))) :=
 ⟨abD hD c.env,by rw [zV];exact c.sm,fun b hb=>(zm (fun (z:b=D)=>hM (z▸hb))).trans (c.kp b hb),⟨_,zp,by rw [zV];exact h2.snoc r⟩⟩
theorem aaQ {D:Addr} {H1 H:Hp} {ρ':zi} {es:List PyData} {σ σ':St} (hn:H1 D=none) (fo:FOk f H1) (c:CSt K f D (upd H1 D (.lst [])) ρ' es σ H):Goes f H1 H/\Rep K (hide H f) (.list es) (.ref D):=by
 obtain⟨vs,h1,h2⟩:=c.lst
 have nD:=fresh_ne fo hn
 refine⟨⟨((ja hn).trans c.sm).trans same_with,⟨c.env.fd.fd,fun b hb=>c.env.fd.mm b (aeb _ hb),fun p e hp=>c.env.fd.nm p e (aeb _ hp)⟩,fun b hb=>?_⟩,rep_list.mpr ⟨D,vs,rfl,.of (zo nD h1),Reps.mono same_with es vs h2⟩⟩
 rw [c.kp b hb,zm]
 obtain⟨o,h3⟩:=fo.mm b hb
 exact zF h3 hn
theorem vo {D:Addr} {H1:Hp} {σ:St} (hn:H1 D=none) (e:EnvOk K f ρ σ H1):CSt K f D (upd H1 D (.lst [])) (jQ own fr ρ) [] (yc own fr σ) (upd H1 D (.lst [])) :=
 ⟨ac2 (aak e) hn,Same.refl _,fun _ _=>rfl,⟨[],zp,.nil'⟩⟩
end
section
variable {K:ad6} {f:Fx} {ρ:zi} {D:DEnds} {te:TE} {i:Nat}
theorem qQ {σ:St} {H:Hp} {p:Addr} {a b:Int} (e:EnvOk K f ρ σ H) (ef:f.f=some p) (h0:0<=a) (h1:0<=b) (h2:b<2147483647):Goes f H (upd H p (.lst [.int a,.int b])) :=
 have hM:=e.fd.nm p ef
 ⟨fun x o h=>by
  obtain⟨n,hx⟩:=zr h
  exact zo n (by rw [zm (fun z=>n (.inl (by rw [z];exact ef)))];exact hx),
 ⟨fun q eq=>by
   rw [ef] at eq;cases eq
   exact⟨a,b,zp,h0,h1,h2⟩,fun x hx=>by
   by_cases hxp:x=p
   ·subst hxp;exact absurd hx hM
   ·rw [zm hxp];exact e.fd.mm x hx,e.fd.nm⟩,
fun x hx=>zm (fun z=>hM (z▸hx))⟩
theorem abE (hi:ρ[i]?=some (some .feed)) (h:PEd K f te ρ fun d=>∃ a:Int,d=.int a/\0<=a/\D.nx ρ):PSd K f (jh te (aaz (yG i) (tC (.int 0)) qM)) ρ D:=fun σ H E e n r b c=>h σ H _ e fun d v H1 g1 r1 ⟨a,ed,h0,p⟩=>by
 subst ed
 obtain⟨u,h1,q,ef,eu⟩:=e.get i _ hi
 obtain⟨a',b',hf,c1,c2,c3⟩:=g1.2.fd q ef
 refine⟨u,h1,q,_,0,0,eu,rfl,hf,rfl,?_⟩
 rw [rep_int.mp r1]
 have g2:Goes f H1 (upd H1 q (.lst [.int a,.int b'])):=qQ (e.mono g1) ef h0 c2 c3
 exact n ρ σ _ (g1.trans g2) ((e.mono g1).mono g2) p
theorem abF (hi:ρ[i]?=some (some .feed)) (h:PEd K f te ρ fun d=>∃ a:Int,d=.int a/\0<=a/\a<2147483647/\D.nx ρ):PSd K f (jh te (aaz (yG i) (tC (.int 1)) qM)) ρ D:=fun σ H E e n r b c=>h σ H _ e fun d v H1 g1 r1 ⟨a,ed,h0,h0',p⟩=>by
 subst ed
 obtain⟨u,h1,q,ef,eu⟩:=e.get i _ hi
 obtain⟨a',b',hf,c1,c2,c3⟩:=g1.2.fd q ef
 refine⟨u,h1,q,_,1,1,eu,rfl,hf,rfl,?_⟩
 rw [rep_int.mp r1]
 have g2:Goes f H1 (upd H1 q (.lst [.int a',.int a])):=qQ (e.mono g1) ef c1 h0 h0'
 exact n ρ σ _ (g1.trans g2) ((e.mono g1).mono g2) p
end
noncomputable def yL (N:List Str) (xs:List DV):zi:=xs.map some++afd (N.length - xs.length) none
theorem yT {K:ad6} {f:Fx} {H:Hp} {N:List Str} {xs:List DV} {vs:List V} (r:RepVs K f H xs vs) (fo:FOk f H):EnvOk K f (yL N xs) (start N vs) H:=by
 have hl:=r.length
 refine⟨by unfold yL start;simp [hl],fun i x h=>?_,fo⟩
 unfold yL at h
 unfold start
 have get:∀ {xs:List DV} {vs:List V} {i:Nat} {x:DV},RepVs K f H xs vs->xs[i]?=some x->∃ v,vs[i]?=some v/\RepV K f H x v:=by
  intro xs vs i x r
  induction r generalizing i with
  | nil=>intro h;simp at h
  | cons r1 r2 ih =>
   intro h
   cases i with
   | zero=>simp at h;subst h;exact⟨_,rfl,r1⟩
   | succ i=>simp at h;obtain⟨v,h1,h2⟩:=ih h;exact⟨v,by simpa using h1,h2⟩
 by_cases hi:i<xs.length
 ·rw [ad8 (by simpa using hi),aee] at h
  cases q:xs[i]? with
  | none=>rw [q] at h;cases h
  | some y =>
   rw [q] at h
   cases h
   obtain⟨v,h1,h2⟩:=get r q
   exact⟨v,by rw [ad8 (by simp;omega),aee,h1];rfl,h2⟩
 ·rw [aec (by simpa using hi),ae0] at h
  split at h <;> cases h
structure Def (K:ad6) (mg:Str->Option Value) (x:Str) (st:Stmt) (ps:List Str):Prop where
 ex:∃ (f:Addr) (fd:FuncData),Fun K x x st f fd/\Binds K fd ps []/\mg x=some (.ref f)
structure FnIn (P:Program) (w:World) (K:ad6) (mg:Str->Option Value) (base:Heap) (k:Nat) (x:Str) (ps:List Str) (sp:Sp):Prop where
 ex:∃ (f:Addr) (fd:FuncData),FnOk P w K mg base CX0 k f fd ps sp/\mg x=some (.ref f)/\aex K (.ref f)=true/\Binds K fd ps []
section
variable {P:Program} {w:World} {K:ad6} {mg:Str->Option Value} {base:Heap} {j k n:Nat} {x:Str} {st:Stmt} {ps N:List Str} {γ:Type} {pre:γ->List DV->Prop} {post:γ->PyData->Prop} {sp:Sp}
theorem FnIn.mono (h:FnIn P w K mg base j x ps sp) (hk:j<=k):FnIn P w K mg base k x ps sp :=
 let⟨f,fd,a,b,c,d⟩:=h.ex;⟨f,fd,a.mono hk,b,c,d⟩
theorem Def.ok (F:Def K mg x st ps) (S:FnScope N ps (zh st)) (hn:ps.length=n)
  (h:∀ (fa:Addr) (cdv:Value) (A:Around) (outer:List Env) (s:Shared) (H:Hp) (E:XK),Room k (A.deeper (envOfC x (zh st) s.heap.objs.size fa cdv)) ->
   ∃ t,PSs (yF CX0 P w K mg base N x (zh st) fa cdv A outer s H E).nox (zK st) t/\∀ (f:Fx) (xs:List DV) (c:γ),xs.length=n->pre c xs->PSd K f t (yL N xs) { nx:=fun _=>post c .none,rt:=post c }) :
  FnIn P w K mg base (k+1) x ps (spD K n pre post):=by
 obtain⟨fa,fd,F1,F2,F3⟩:=F.ex
 refine⟨fa,fd,F1.ok S (fun vs H Q E h=>?_) (fun cdv A outer s H vs Q E hr hs=>?_),F3,F1.kp,F2⟩
 ·obtain⟨f,xs,c,r,hl,_⟩:=h
  rw [r.length,hl,hn]
 ·obtain⟨f,xs,c,r,hl,fo,hp,q⟩:=hs
  obtain⟨t,h1,h2⟩:=h fa cdv A outer s H E hr
  exact⟨t,h1,h2 f xs c hl hp (start N vs) H _ (yT r fo) (fun _ _ H' g _ p=>q .none _ H' g (rep_none.mpr rfl) p) (fun d v H' g r p=>q d v H' g r p) (fun _ _ _ _ _ z=>z.elim) (fun _ _ _ _ _ z=>z.elim)⟩
theorem Def.raw (F:Def K mg x st ps) (S:FnScope N ps (zh st)) (len:∀ vs H Q E,sp vs H Q E->vs.length=ps.length)
  (h:∀ (fa:Addr) (cdv:Value) (A:Around) (outer:List Env) (s:Shared) (H:Hp) (vs:List V) (Q:VK) (E:XK),Room k (A.deeper (envOfC x (zh st) s.heap.objs.size fa cdv))->sp vs H Q E ->
   ∃ t,PSs (yF CX0 P w K mg base N x (zh st) fa cdv A outer s H E).nox (zK st) t/\t { nx:=fun _ H'=>Q .non H',rt:=Q } (start N vs) H) :
  FnIn P w K mg base (k+1) x ps sp:=by
 obtain⟨fa,fd,F1,F2,F3⟩:=F.ex
 exact⟨fa,fd,F1.ok S len (fun cdv A outer s H vs Q E hr hs=>h fa cdv A outer s H vs Q E hr hs),F3,F1.kp,F2⟩
theorem zw {X:Cx} {e:Expr} {es:List Expr} {t:TA} {p pos:Pos} (G:FnIn X.prog X.w X.K X.mg X.base k x ps sp) (hr:Room k X.A) (hg:Gl X x) (ha:PA X (e :: es) t) (hdb:(x == ("__debug__":Str))=false:=by decide)
  (he:starEach (e :: es) X.env=(false,eval e X.env) :: starEach es X.env:=by rfl) (hpl:(backTo pos (starEach es X.env)).any (·.1)=false:=by rfl):PE X (.Call (.Name x p) (e :: es) [] pos) (vF sp [] E0 t):=by
 obtain⟨f,fd,a,b,c,d⟩:=G.ex
 exact abw a hr hg b c d .nil adx ha hdb he hpl
end
section
variable {K:ad6} {f:Fx} {ρ:zi} {σ:St} {H:Hp} {E:Ends} {ts tu:TS} {D:DEnds}
theorem aaR (h:PSd K f ts ρ D) (e:EnvOk K f ρ σ H) (hn:∀ ρ' σ' H',Goes f H H'->EnvOk K f ρ' σ' H'->D.nx ρ'->tu E σ' H') (hr:∀ d v H',Goes f H H'->Rep K (hide H' f) d v->D.rt d->E.rt v H') (hb:∀ ρ,¬ D.bk ρ) (hc:∀ ρ,¬ D.ct ρ):qo ts tu E σ H :=
 h σ H { E with nx:=tu E } e hn hr (fun ρ' _ _ _ _ p=>(hb ρ' p).elim) (fun ρ' _ _ _ _ p=>(hc ρ' p).elim)
theorem aaS {ta:TA} {Q:VK} {R:List PyData->Prop} (h:PAd K f ta ρ fun xs=>∃ ds,yy xs=some ds/\ds.length<=1000/\R ds) (e:EnvOk K f ρ σ H)
  (q:∀ p ds vs H1,Goes f H H1->H1 p=none->Reps K (hide H1 f) ds vs->R ds->Q (.ref p) (upd H1 p (.lst vs))):aaH ta σ H Q :=
 h σ H _ e fun xs vs H1 g1 r1 ⟨ds,ea,hl,p⟩=>by
  have rs:=yS r1 ea
  exact⟨by rw [rs.length];exact aeQ (zW hl),fun l hn=>q l ds vs H1 g1 hn rs p⟩
end
section
variable {X:Cx} {e st:Expr} {te ts:TE} {pos p2:Pos}
noncomputable def ac3 (K:ad6) (te ts:TE):TE:=fun σ H Q=>te σ H fun x H1=>ts σ H1 fun y H2=>∃ a xs,x=.ref a/\y=.int (-1)/\SqL K H2 a xs/\∀ p,H2 p=none->Q (.ref p) (upd H2 p (.lst xs.reverse))
theorem ac4 (he:PE X e te) (hst:PE X st ts):PE X (.Subscript e (.Slice none none (some st) p2) pos) (ac3 X.K te ts):=by
 intro pins s σ H Q I h
 refine Subscript_ (thn (he pins s σ H _ I h) fun v s1 ⟨x,H1,I1,r1,q1⟩=>?_)
 refine wpAny_Slice ?_
 rw [evalPart_none]
 refine wpAny_pure (wpAny_pure ?_)
 rw [evalPart_some]
 refine thn (hst pins s1 σ H1 _ I1 q1) fun vs s3 ⟨y,H3,I3,r3,a,xs,ex,ey,hq,q⟩=>?_
 subst ex ey
 cases r1
 obtain⟨t,rfl⟩:=r3
 have I4:Inv X pins σ H3 { s3 with heap:=s3.heap.push { cls:=.type "slice",data:=.fields #[.none,.none,.int (-1) t] } }:=I3.kept (t':=s3.toks) fun b ob q=>aea _ q
 show wpAny (model X.prog X.w) X.A (subscriptTail e (.Slice none none (some st) p2) (.ref a) (.ref s3.heap.objs.size)) (EP X pins σ Q) X.xe { s3 with heap:=s3.heap.push { cls:=.type "slice",data:=.fields #[.none,.none,.int (-1) t] } }
 obtain⟨its,r,ht,hz⟩:=I4.list hq
 have hlen:=r.length
 refine tail_any (ops:=[.ref a,.ref s3.heap.objs.size]) ht.isList.typeIs slot_list_getitem.lookup (wpAny_getItem_list_slice ht.isList (Heap.IsSliceOf.new ..) .none .none (.int (-1) t) (by simp) ?_ (by rw [aeh] <;> omega)) (by with_unfolding_all rfl)
 rw [PySem.W.krv_pick]
 refine⟨.ref _,_,I4.laid (t':=s3.toks) (o:=.lst xs.reverse) (fun b ob q=>aea _ q) (aej _) ?_,rfl,q _ (I4.hok.fresh (aej _))⟩
 exact⟨by rw [aeq];exact hz,its.reverse,0,Vals.reverse r,aeo _ rfl⟩
end
section
variable {K:ad6} {f:Fx} {ρ:zi}
theorem Goes.free {H H':Hp} {p:Addr} (g:Goes f H H') (fo:FOk f H) (h:H' p=none):H p=none:=by
 cases q:H p with
 | none=>rfl
 | some o =>
  by_cases hh:f.f=some p \/ p∈f.M
  ·rcases hh with hh | hh
   ·obtain⟨a,b,h1,_⟩:=g.ok.fd p hh
    rw [h] at h1;cases h1
   ·rw [g.kp p hh,q] at h;cases h
  ·have:=zr (g.sm p o (zo hh q))
   rw [h] at this;cases this.2
noncomputable def PEdL (K:ad6) (f:Fx) (te:TE) (ρ:zi) (P:List PyData->Prop):Prop:=∀ (σ:St) (H:Hp) (Q:VK),EnvOk K f ρ σ H ->
 (∀ es D vs H',Goes f H H'->H D=none->H' D=some (.lst vs)->Reps K (hide H' f) es vs->P es->Q (.ref D) H')->te σ H Q
theorem PEdL.ped {te:TE} {P:PyData->Prop} (h:PEdL K f te ρ fun es=>P (.list es)):PEd K f te ρ P:=fun σ H Q e q=>h σ H Q e fun es D vs H' g n h1 r p =>
 q (.list es) _ H' g (rep_list.mpr ⟨D,vs,rfl,.of (zo (fresh_ne e.fd n) h1),r⟩) p
theorem adA {te ts:TE} {P:List PyData->Prop} (h:PEd K f te ρ fun x=>∃ ds,x=.list ds/\PEd K f ts ρ fun y=>y=.int (-1)/\P ds.reverse):PEdL K f (ac3 K te ts) ρ P:=fun σ H Q e q =>
 h σ H _ e fun x v H1 g1 r1 ⟨ds,ex,p1⟩=>p1 σ H1 _ (e.mono g1) fun y u H2 g2 r2 ⟨ey,p2⟩=>by
  subst ex ey
  obtain⟨a,xs,rfl,h1,h2⟩:=rep_list.mp r1
  refine⟨a,xs,rfl,rep_int.mp r2,(zk _ _).seq (g2.1.seq h1),fun l hn=>?_⟩
  have g3:Goes f H2 (upd H2 l (.lst xs.reverse)):=.of_same (zU hn _) g2.2
  have rr:∀ {ds:List PyData} {xs:List V},Reps K (hide (upd H2 l (.lst xs.reverse)) f) ds xs->True:=fun _=>trivial
  have rev:∀ (H:Hp) (ds:List PyData) (xs:List V),Reps K H ds xs->Reps K H ds.reverse xs.reverse:=by
   intro H ds
   induction ds with
   | nil=>intro xs h;rw [reps_nil.mp h];exact .nil'
   | cons d ds ih =>
    intro xs h
    obtain⟨x,r,rfl,h2,h3⟩:=reps_cons.mp h
    rw [aen,aen]
    exact (ih r h3).snoc h2
  exact q ds.reverse l _ _ (g1.trans (g2.trans g3)) ((g1.trans g2).free e.fd hn) zp (Reps.mono g3.1 _ _ (rev _ _ _ (Reps.mono g2.1 _ _ h2))) p2
end
structure TabAt (H:Hp) (a:Addr) (as:List Addr) (rows:List (List Int)):Prop where
 top:H a=some (.lst (as.map .ref))
 nd:(a :: as).Nodup
 len:as.length=rows.length
 row:∀ (i:Nat) x r,as[i]?=some x->rows[i]?=some r->H x=some (.lst (r.map .int))
end L2
end
section
namespace L2
open PySem PySem.Spec PyProof.Rows
section
variable {X:Cx} {K:ad6}
theorem zt (hK:X.K=K):IxR X (aae K):=hK▸abx
theorem zv (hK:X.K=K):IxR X (acP K):=hK▸acQ
theorem zR (hK:X.K=K):j5 X (.builtin "len") (fun xs H Q=>∃ p ys,xs=[.ref p]/\(SqL K H p ys \/ SqT K H p ys)/\Q (.int ys.length) H):=hK▸qt
theorem vp (hK:X.K=K) (hu:X.A.units+64<cLine):OpR X (compareOp .NotEq) (acS K true):=hK▸acT hu
variable {tg l e st:Expr} {tl te ts:TE} {ta:TA} {p pos p2:Pos}
theorem yM (hK:X.K=K) (hl:PE X l tl):PI X tg l (aaD K tl):=hK▸abr hl
theorem jb (hK:X.K=K) (ha:PE X e te) (he:∀ whole,isTrue e X.env whole=(do let v <- whole;standAt e.pos;holding [v] (truthy v))):PT X e (acX K te):=hK▸acY ha he
theorem abG (hK:X.K=K) (he:PE X e te) (hst:PE X st ts):PE X (.Subscript e (.Slice none none (some st) p2) pos) (ac3 K te ts):=hK▸ac4 he hst
theorem yU {es:List Expr} {k:Nat} {t:TGs} {n:Nat} (hK:X.K=K) (hc:X.calm=true) (h:PGs X es t) (hn:(assignEach es X.env).length=n:=by rfl) (hst:(assignEach es X.env).findIdx? (·.1)=none:=by rfl):PG X (.Tuple es k pos) (acH K n t):=hK▸acI hc h hn hst
end
structure ItD (K:ad6) (f:Fx) (ds:List PyData) (J:It) (H1:Hp):Prop where
 go:∀ (f':Fx) (H':Hp) (i:Nat) d,FOk f' H'->Same (hide H1 f) (hide H' f')->ds[i]?=some d->J.go i H'/\∀ x H3,J.yld i H' x H3->Goes f' H' H3/\Rep K (hide H3 f') d x
 st:∀ (f':Fx) (H':Hp),FOk f' H'->Same (hide H1 f) (hide H' f')->J.stop ds.length H'
noncomputable def PId (K:ad6) (f:Fx) (wi:TI) (ρ:zi) (R:List PyData->Prop):Prop:=∀ (σ:St) (H:Hp) (C:It->Hp->Prop),EnvOk K f ρ σ H ->
 (∀ ds J H1,Goes f H H1->ItD K f ds J H1->R ds->C J H1)->wi σ H C
noncomputable def yz (n:Nat):List PyData:=(ae5 n).map fun (i:Nat)=>.int (i:Int)
noncomputable def zO (i j:Int):List PyData:=(ae5 (j - i).toNat).map fun (k:Nat)=>.int (i+(k:Int))
section
variable {K:ad6} {f:Fx} {ρ:zi} {R:List PyData->Prop} {tl:TE} {t:TA}
theorem PId.imp {wi:TI} {R':List PyData->Prop} (h:PId K f wi ρ R) (i:∀ ds,R ds->R' ds):PId K f wi ρ R':=fun σ H C e q=>h σ H C e fun ds J H1 g it r=>q ds J H1 g it (i ds r)
theorem qw (h:PAd K f t ρ fun xs=>∃ j:Int,xs=[.dat (.int j)]/\-(2 ^ 62)<=j/\j<2 ^ 62/\R (yz j.toNat)):PId K f (aca t) ρ R:=fun σ H C e q=>h σ H _ e fun xs vs H1 g1 r1 ⟨j,ex,q1,q2,p⟩=>by
 subst ex
 cases r1 with
 | @cons _ v0 _ _ rx r' =>
  cases r'
  have rx':Rep K (hide H1 f) (.int j) v0:=rx
  refine⟨j,by rw [rep_int.mp rx'],q1,q2,q _ _ H1 g1 ⟨fun f' H' i d fo _ hd=>?_,fun f' H' _ _=>?_⟩ p⟩
  ·unfold yz at hd
   rw [aee] at hd
   by_cases hi:i<j.toNat
   ·rw [aeX hi] at hd
    cases hd
    refine⟨hi,fun x H3 hy=>?_⟩
    obtain⟨rfl,rfl⟩:=hy
    exact⟨.refl fo,rep_int.mpr (by rw [Int.zero_add])⟩
   ·rw [aeG (by rw [aeN];omega)] at hd
    cases hd
  ·show j.toNat<=(yz j.toNat).length
   unfold yz
   rw [ad5,aeN]
   exact aej _
theorem jc (h:PAd K f t ρ fun xs=>∃ i j:Int,xs=[.dat (.int i),.dat (.int j)]/\(-(2 ^ 62)<=i/\i<2 ^ 62/\-(2 ^ 62)<=j/\j<2 ^ 62)/\R (zO i j)):PId K f (acb t) ρ R:=fun σ H C e q=>h σ H _ e fun xs vs H1 g1 r1 ⟨i,j,ex,q1,p⟩=>by
 subst ex
 cases r1 with
 | @cons _ v0 _ _ rx r' =>
  cases r' with
  | @cons _ v1 _ _ ry r'' =>
   cases r''
   have rx':Rep K (hide H1 f) (.int i) v0:=rx
   have ry':Rep K (hide H1 f) (.int j) v1:=ry
   refine⟨i,j,by rw [rep_int.mp rx',rep_int.mp ry'],q1,q _ _ H1 g1 ⟨fun f' H' k d fo _ hd=>?_,fun f' H' _ _=>?_⟩ p⟩
   ·unfold zO at hd
    rw [aee] at hd
    by_cases hi:k<(j - i).toNat
    ·rw [aeX hi] at hd
     cases hd
     refine⟨hi,fun x H3 hy=>?_⟩
     obtain⟨rfl,rfl⟩:=hy
     exact⟨.refl fo,rep_int.mpr rfl⟩
    ·rw [aeG (by rw [aeN];omega)] at hd
     cases hd
   ·show (j - i).toNat<=(zO i j).length
    unfold zO
    rw [ad5,aeN]
    exact aej _
theorem jR (h:PEd K f tl ρ fun x=>∃ ds,x=.list ds/\R ds):PId K f (aaD K tl) ρ R:=fun σ H C e q=>h σ H _ e fun x v H1 g1 r1 ⟨ds,ex,p⟩=>by
 subst ex
 obtain⟨a,xs,rfl,h1,h2⟩:=rep_list.mp r1
 have hl:=h2.length
 refine⟨a,rfl,⟨xs,(zk _ _).seq h1⟩,q ds _ H1 g1 ⟨fun f' H' i d fo sm hd=>?_,fun f' H' _ sm=>⟨xs,(zk _ _).seq (sm.seq h1),af6 hl⟩⟩ p⟩
 obtain⟨z,hz,rz⟩:=h2.get hd
 have sq:SqL K H' a xs:=(zk _ _).seq (sm.seq h1)
 refine⟨⟨xs,z,sq,hz⟩,fun x H3 hy=>?_⟩
 obtain⟨rfl,hy⟩:=hy
 have ez:=hy xs sq
 rw [hz] at ez
 cases ez
 exact⟨.refl fo,Rep.mono sm _ _ rz⟩
end
section
variable {K:ad6} {f:Fx} {ρ:zi} {D:DEnds} {wi:TI} {g:TG} {ts:TS}
theorem qi (h:PId K f wi ρ fun ds=>∃ J:Nat->zi->Prop,J 0 ρ /\
   (∀ (i:Nat) d ρ',ds[i]?=some d->J i ρ'->PGd K f g d ρ' fun ρ2=>PSd K f ts ρ2 { D with nx:=J (i+1),ct:=J (i+1),bk:=D.nx })/\∀ ρ',J ds.length ρ'->D.nx ρ') :
  PSd K f (abt wi g ts) ρ D:=fun σ H E e n r b c=>h σ H _ e fun ds J H1 g1 it ⟨Jv,j0,js,jd⟩=>by
 refine⟨fun i m σ' H'=>∃ ρ',EnvOk K f ρ' σ' H'/\Goes f H1 H'/\Jv i ρ'/\m+i=ds.length,⟨ds.length,ρ,e.mono g1,.refl g1.2,j0,rfl⟩,fun i m σ' H' ⟨ρ',e',g',p,hm⟩=>?_⟩
 by_cases hi:i<ds.length
 ·obtain⟨hgo,hy⟩:=it.go f H' i _ e'.fd g'.sm (ad7 hi)
  refine .inr ⟨hgo,fun σ2 H2=>∃ ρ2,EnvOk K f ρ2 σ2 H2/\Goes f H1 H2/\Jv (i+1) ρ2,fun σ2 H2 ⟨ρ2,e2,g2,p2⟩=>⟨m - 1,by omega,ρ2,e2,g2,p2,by omega⟩,fun x H3 hx=>?_⟩
  obtain⟨g3,r3⟩:=hy x H3 hx
  refine js i _ ρ' (ad7 hi) p σ' H3 x _ (e'.mono g3) r3 fun ρ2 σ2 H4 g4 e4 p4=>?_
  have gg:=g'.trans (g3.trans g4)
  exact p4 σ2 H4 _ e4 (fun ρ5 σ5 H5 g5 e5 p5=>⟨ρ5,e5,gg.trans g5,p5⟩) (fun d v H5 g5 r5 p5=>r d v H5 (g1.trans (gg.trans g5)) r5 p5) (fun ρ5 σ5 H5 g5 e5 p5=>n ρ5 σ5 H5 (g1.trans (gg.trans g5)) e5 p5) (fun ρ5 σ5 H5 g5 e5 p5=>⟨ρ5,e5,gg.trans g5,p5⟩)
 ·have ei:i=ds.length:=by omega
  subst ei
  exact .inl ⟨it.st f H' e'.fd g'.sm,n ρ' σ' H' (g1.trans g') e' (jd ρ' p)⟩
end
section
variable {K:ad6} {f:Fx} {ρ:zi} {D:Addr} {wi:TI} {g:TG} {tt:TT} {te:TE}
theorem CSt.self {H2 H:Hp} {es:List PyData} {σ:St} (c:CSt K f D H2 ρ es σ H):CSt K f D H ρ es σ H:=⟨c.env,Same.refl _,fun _ _=>rfl,c.lst⟩
theorem CSt.trans {H2 H H':Hp} {es es':List PyData} {ρ':zi} {σ σ':St} (c:CSt K f D H2 ρ es σ H) (d:CSt K f D H ρ' es' σ' H'):CSt K f D H2 ρ' es' σ' H':=⟨d.env,c.sm.trans d.sm,fun b hb=>(d.kp b hb).trans (c.kp b hb),d.lst⟩
noncomputable def PBd (K:ad6) (f:Fx) (D:Addr) (tb:TB) (ρ:zi) (es:List PyData) (R:zi->List PyData->Prop):Prop:=f.f≠some D->D∉f.M->∀ (σ:St) (H H2:Hp) (W:St->Hp->Prop),CSt K f D H2 ρ es σ H ->
 (∀ ρ2 es2 σ2 H',CSt K f D H2 ρ2 es2 σ2 H'->R ρ2 es2->W σ2 H')->tb σ H W
theorem qx {es:List PyData} {R:zi->List PyData->Prop} (hl:es.length<1000) (h:PEd K (f.with D) te ρ fun e=>R ρ (es++[e])):PBd K f D (aaL D te) ρ es R:=fun hD hM σ H H2 W c q =>
 h σ H _ c.env fun e u H5 g5 r5 p5=>by
  have c5:=c.go g5 (c.env.mono g5)
  obtain⟨vs,h1,h2⟩:=c5.lst
  exact⟨vs,h1,zW (by rw [h2.length];omega),q _ _ _ _ (c5.put hD hM h1 h2 r5) p5⟩
theorem ac5 {fi:Fx} {Hi H2 H:Hp} {ds es:List PyData} {J:It} {tb:TB} {σ:St} {W:St->Hp->Prop} (it:ItD K fi ds J Hi) (hD:f.f≠some D) (hM:D∉f.M) (c:CSt K f D H2 ρ es σ H) (sm:Same (hide Hi fi) (hide H (f.with D)))
  (Jv:Nat->zi->List PyData->Prop) (j0:Jv 0 ρ es)
  (js:∀ (i:Nat) d ρ' es',ds[i]?=some d->Jv i ρ' es'->PGd K (f.with D) g d ρ' fun ρ2=>PTd K (f.with D) tt ρ2 fun b=>if b=true then PBd K f D tb ρ2 es' (Jv (i+1)) else Jv (i+1) ρ2 es')
  (hW:∀ ρ' es' σ' H',CSt K f D H2 ρ' es' σ' H'->Jv ds.length ρ' es'->W σ' H'):vL J g tt tb σ H W:=by
 refine⟨fun i m σ' H'=>∃ ρ' es',CSt K f D H2 ρ' es' σ' H'/\Same (hide Hi fi) (hide H' (f.with D))/\Jv i ρ' es'/\m+i=ds.length,⟨ds.length,ρ,es,c,sm,j0,rfl⟩,fun i m σ' H' ⟨ρ',es',c',sm',p,hm⟩=>?_⟩
 by_cases hi:i<ds.length
 ·obtain⟨hgo,hy⟩:=it.go (f.with D) H' i _ c'.env.fd sm' (ad7 hi)
  refine .inr ⟨hgo,fun x H3 hx=>?_⟩
  obtain⟨g3,r3⟩:=hy x H3 hx
  have c3:=c'.go g3 (c'.env.mono g3)
  refine js i _ ρ' es' (ad7 hi) p σ' H3 x _ c3.env r3 fun ρ2 σ2 H4 g4 e4 p4=>?_
  have c4:=c3.go g4 e4
  refine p4 σ2 H4 _ e4 fun b H5 g5 p5=>?_
  have c5:=c4.go g5 (e4.mono g5)
  have sm5:=((sm'.trans g3.sm).trans g4.sm).trans g5.sm
  cases b with
  | false =>
   rw [if_neg aef] at p5 ⊢
   exact⟨m - 1,by omega,ρ2,es',c5,sm5,p5,by omega⟩
  | true =>
   rw [if_pos rfl] at p5 ⊢
   exact p5 hD hM σ2 H5 H5 _ c5.self fun ρ6 es6 σ6 H6 c6 p6=>⟨m - 1,by omega,ρ6,es6,c5.trans c6,sm5.trans c6.sm,p6,by omega⟩
 ·have ei:i=ds.length:=by omega
  subst ei
  exact .inl ⟨it.st (f.with D) H' c'.env.fd sm',hW ρ' es' σ' H' c' p⟩
noncomputable def PEdO (K:ad6) (f:Fx) (te:TE) (ρ:zi) (P:List PyData->Prop):Prop:=∀ (σ:St) (H:Hp) (Q:VK),EnvOk K f ρ σ H ->
 (∀ es D vs H',Goes f H H'->H D=none->H' D=some (.lst vs)->Reps K (hide H' (f.with D)) es vs->P es->Q (.ref D) H')->te σ H Q
theorem PEdO.pedl {P:List PyData->Prop} (h:PEdO K f te ρ P):PEdL K f te ρ P:=fun σ H Q e q=>h σ H Q e fun es D vs H' g n h1 r p=>q es D vs H' g n h1 (Reps.mono same_with es vs r) p
theorem PEdO.ped {P:PyData->Prop} (h:PEdO K f te ρ fun es=>P (.list es)):PEd K f te ρ P:=h.pedl.ped
theorem acm {P:List PyData->Prop} (h:P []):PEdO K f (aaH vh) ρ P:=fun σ H Q e q=>⟨ae4 _,fun p hn=>q [] p [] _ (.of_same (zU hn _) e.fd) hn zp .nil' h⟩
theorem aaT {own:Nat} {fr:List Nat} {tb:Addr->TB} {P:List PyData->Prop} (h:PId K f wi ρ fun ds=>∃ Jv:Nat->zi->List PyData->Prop,Jv 0 (jQ own fr ρ) [] /\
   (∀ D (i:Nat) d ρ' es',ds[i]?=some d->Jv i ρ' es'->PGd K (f.with D) g d ρ' fun ρ2=>PTd K (f.with D) tt ρ2 fun b=>if b=true then PBd K f D (tb D) ρ2 es' (Jv (i+1)) else Jv (i+1) ρ2 es') /\
   ∀ ρ' es',Jv ds.length ρ' es'->P es'):PEdO K f (jL wi own fr g tt tb) ρ P:=fun σ H Q e q =>
 h σ H _ e fun ds J H1 g1 it ⟨Jv,j0,js,jd⟩ D hn=>by
  have nD:=fresh_ne g1.2 hn
  have hD:f.f≠some D:=fun z=>nD (.inl z)
  have hM:D∉f.M:=fun z=>nD (.inr z)
  refine ac5 it hD hM (vo hn (e.mono g1)) (ja hn) Jv j0 (js D) fun ρ' es' σ' H' c' p=>?_
  obtain⟨ge,rep⟩:=aaQ (σ':=σ') hn g1.2 c'
  obtain⟨vs,h1,h2⟩:=c'.lst
  exact q es' D vs H' (g1.trans ge) (g1.free e.fd hn) h1 h2 (jd ρ' es' p)
end
section
variable {K:ad6} {f:Fx} {ρ:zi} {D:Addr} {wi:TI} {g:TG} {tt:TT} {te:TE}
noncomputable def OwnE (own:Nat) (ρ0:zi) (ρ':zi):Prop:=∃ us:zi,us.length=own/\ρ'=us++ρ0
theorem OwnE.one {ρ0 ρ':zi} (h:OwnE 1 ρ0 ρ'):∃ u,ρ'=u :: ρ0:=by
 obtain⟨us,h1,rfl⟩:=h
 match us,h1 with
 | [u],_=>exact⟨u,rfl⟩
theorem OwnE.two {ρ0 ρ':zi} (h:OwnE 2 ρ0 ρ'):∃ u v,ρ'=u :: v :: ρ0:=by
 obtain⟨us,h1,rfl⟩:=h
 match us,h1 with
 | [u,v],_=>exact⟨u,v,rfl⟩
theorem OwnE.mk1 {ρ0:zi} {u:Option DV}:OwnE 1 ρ0 (u :: ρ0):=⟨[u],rfl,rfl⟩
theorem OwnE.mk2 {ρ0:zi} {u v:Option DV}:OwnE 2 ρ0 (u :: v :: ρ0):=⟨[u,v],rfl,rfl⟩
theorem vQ {B:Bool->Prop} (h:B true):PTd K f ady ρ B:=fun σ H Q e q=>q true H (.refl e.fd) h
end
structure OEnds where
 nx:zi->List PyData->Prop
 rt:PyData->Prop
 bk:zi->List PyData->Prop:=fun _ _=>False
 ct:zi->List PyData->Prop:=fun _ _=>False
noncomputable def PSo (K:ad6) (f:Fx) (D:Addr) (ts:TS) (ρ:zi) (es:List PyData) (O:OEnds):Prop:=f.f≠some D->D∉f.M->∀ (σ:St) (H H2:Hp) (E:Ends),CSt K f D H2 ρ es σ H ->
 (∀ ρ' es' σ' H',CSt K f D H2 ρ' es' σ' H'->O.nx ρ' es'->E.nx σ' H')->(∀ d v ρ' es' σ' H',CSt K f D H2 ρ' es' σ' H'->Rep K (hide H' f) d v->O.rt d->E.rt v H') ->
 (∀ ρ' es' σ' H',CSt K f D H2 ρ' es' σ' H'->O.bk ρ' es'->E.bk σ' H')->(∀ ρ' es' σ' H',CSt K f D H2 ρ' es' σ' H'->O.ct ρ' es'->E.ct σ' H')->ts E σ H
section
variable {K:ad6} {f:Fx} {ρ:zi} {D:Addr} {wi:TI} {g:TG} {tt:TT} {te:TE} {ts tu:TS} {es:List PyData} {O:OEnds} {i:Nat}
theorem aaU {σ:St} {H H2:Hp} (hi:ρ[i]?=some (some (.own f.M.length))) (c:CSt K f D H2 ρ es σ H):σ[i]?=some (some (.ref D)):=by
 obtain⟨v,h1,p,h2,rfl⟩:=c.env.get i _ hi
 have e:(D :: f.M).reverse[f.M.length]?=some D:=by
  rw [aen,aec (by simp)]
  simp
 have h2':(D :: f.M).reverse[f.M.length]?=some p:=h2
 rw [e] at h2'
 cases h2'
 exact h1
theorem adB (hi:ρ[i]?=some (some (.own f.M.length))) (hl:es.length<1000) (h:PEd K (f.with D) te ρ fun d=>O.nx ρ (es++[d])):PSo K f D (aay (tBM K "list" qu (yG i) (y7 te vh))) ρ es O:=fun hD hM σ H H2 E c n r b k=>by
 obtain⟨vs0,h0,_⟩:=c.lst
 refine⟨_,aaU hi c,Or.inl ⟨rfl,vs0,.of h0⟩,?_⟩
 refine h σ H _ c.env fun d v H1 g1 r1 p1=>?_
 have c1:=c.go g1 (c.env.mono g1)
 obtain⟨vs,h1,h2⟩:=c1.lst
 exact⟨D,vs,v,rfl,rfl,h1,zW (by rw [h2.length];omega),n _ _ _ _ (c1.put hD hM h1 h2 r1) p1⟩
theorem adC (h:PId K (f.with D) wi ρ fun ds=>∃ J:Nat->zi->List PyData->Prop,J 0 ρ es /\
   (∀ (i:Nat) d ρ' es',ds[i]?=some d->J i ρ' es'->PGd K (f.with D) g d ρ' fun ρ2=>PSo K f D ts ρ2 es' { O with nx:=J (i+1),ct:=J (i+1),bk:=O.nx })/\∀ ρ' es',J ds.length ρ' es'->O.nx ρ' es') :
  PSo K f D (abt wi g ts) ρ es O:=fun hD hM σ H H2 E c n r b k=>h σ H _ c.env fun ds J H1 g1 it ⟨Jv,j0,js,jd⟩=>by
 have c1:=c.go g1 (c.env.mono g1)
 refine⟨fun i m σ' H'=>∃ ρ' es',CSt K f D H2 ρ' es' σ' H'/\Same (hide H1 (f.with D)) (hide H' (f.with D))/\Jv i ρ' es'/\m+i=ds.length,⟨ds.length,ρ,es,c1,Same.refl _,j0,rfl⟩,fun i m σ' H' ⟨ρ',es',c',sm',p,hm⟩=>?_⟩
 by_cases hi:i<ds.length
 ·obtain⟨hgo,hy⟩:=it.go (f.with D) H' i _ c'.env.fd sm' (ad7 hi)
  refine .inr ⟨hgo,fun σ2 H3=>∃ ρ2 es2,CSt K f D H2 ρ2 es2 σ2 H3/\Same (hide H1 (f.with D)) (hide H3 (f.with D))/\Jv (i+1) ρ2 es2,fun σ2 H3 ⟨ρ2,es2,e2,g2,p2⟩=>⟨m - 1,by omega,ρ2,es2,e2,g2,p2,by omega⟩,fun x H3 hx=>?_⟩
  obtain⟨g3,r3⟩:=hy x H3 hx
  have c3:=c'.go g3 (c'.env.mono g3)
  refine js i _ ρ' es' (ad7 hi) p σ' H3 x _ c3.env r3 fun ρ2 σ2 H4 g4 e4 p4=>?_
  have c4:=c3.go g4 e4
  have sm4:=(sm'.trans g3.sm).trans g4.sm
  exact p4 hD hM σ2 H4 H4 _ c4.self (fun ρ5 es5 σ5 H5 c5 p5=>⟨ρ5,es5,c4.trans c5,sm4.trans c5.sm,p5⟩) (fun d v ρ5 es5 σ5 H5 c5 r5 p5=>r d v ρ5 es5 σ5 H5 (c4.trans c5) r5 p5) (fun ρ5 es5 σ5 H5 c5 p5=>n ρ5 es5 σ5 H5 (c4.trans c5) p5) (fun ρ5 es5 σ5 H5 c5 p5=>⟨ρ5,es5,c4.trans c5,sm4.trans c5.sm,p5⟩)
 ·have ei:i=ds.length:=by omega
  subst ei
  exact .inl ⟨it.st (f.with D) H' c'.env.fd sm',n ρ' es' σ' H' c' (jd ρ' es' p)⟩
noncomputable def yk (n:Nat):Option DV->Option DV
 | some (.own k)=>if k<n then some (.own k) else none
 | x=>x
theorem jD {σ:St} {H H2:Hp} (c:CSt K f D H2 ρ es σ H):EnvOk K f (ρ.map (yk f.M.length)) σ H:=by
 refine⟨by rw [ad5];exact c.env.len,fun i x h=>?_,⟨c.env.fd.fd,fun b hb=>c.env.fd.mm b (aeb _ hb),fun p e hp=>c.env.fd.nm p e (aeb _ hp)⟩⟩
 rw [aee] at h
 cases e:ρ[i]? with
 | none=>rw [e] at h;cases h
 | some y =>
  rw [e] at h
  cases y with
  | none=>cases h
  | some y =>
   obtain⟨v,h1,h2⟩:=c.env.get i y e
   cases y with
   | dat d =>
    cases h
    exact⟨v,h1,Rep.mono same_with d v h2⟩
   | feed =>
    cases h
    exact⟨v,h1,h2⟩
   | exc C =>
    cases h
    obtain⟨a,h3,h4⟩:=h2
    exact⟨v,h1,a,h3,same_with _ _ h4⟩
   | mon φ =>
    cases h
    exact⟨v,h1,fun H' s=>h2 H' (same_with.trans s)⟩
   | own k =>
    have h':(if k<f.M.length then some (DV.own k) else none)=some x:=Option.some.inj h
    by_cases hk:k<f.M.length
    ·rw [if_pos hk] at h'
     cases h'
     obtain⟨p,h3,h4⟩:=h2
     refine⟨v,h1,p,?_,h4⟩
     have h3':(D :: f.M).reverse[k]?=some p:=h3
     rw [aen,ad8 (by simpa using hk)] at h3'
     exact h3'
    ·rw [if_neg hk] at h'
     cases h'
theorem abH {σ:St} {H:Hp} {d:PyData} {v:V} (e:EnvOk K f ρ σ H) (hs:σ[i]?=some (some v)) (r:Rep K (hide H f) d v):EnvOk K f (ρ.set i (some (.dat d))) σ H:=by
 refine⟨by rw [afa];exact e.len,fun j y h=>?_,e.fd⟩
 by_cases hj:i=j
 ·subst hj
  have hi:i<ρ.length:=by rw [e.len];exact (ad9.mp hs).1
  rw [aeD hi] at h
  cases h
  exact⟨v,hs,r⟩
 ·rw [aeS hj] at h
  exact e.get j y h
theorem adD {Dn:DEnds} (h:PEdO K f te ρ fun es0=>i<ρ.length/\∀ D,PSo K f D ts (ρ.set i (some (.own f.M.length))) es0 { nx:=fun ρ' es=>ρ'[i]?=some (some (.own f.M.length))/\PSd K f tu ((ρ'.map (yk f.M.length)).set i (some (.dat (.list es)))) Dn,rt:=Dn.rt,bk:=fun ρ' es=>Dn.bk (ρ'.map (yk f.M.length)),ct:=fun ρ' es=>Dn.ct (ρ'.map (yk f.M.length)) }) :
  PSd K f (qo (jh te (yV i)) (qo ts tu)) ρ Dn:=fun σ H E e n r b k=>h σ H _ e fun es0 D vs H1 g1 hn h1 rs ⟨hil,p⟩=>by
 have nD:¬ (f.f=some D \/ D∈f.M):=fresh_ne e.fd hn
 have hD:f.f≠some D:=fun z=>nD (.inl z)
 have hM:D∉f.M:=fun z=>nD (.inr z)
 have sm0:Same (hide H f) (hide H1 (f.with D)):=fun b o hb=>by
  have hb1:=g1.sm b o hb
  refine zo (fun z=>?_) (zr hb1).2
  rcases z with z | z
  ·exact (zr hb1).1 (.inl z)
  ·rcases aek.mp z with rfl | z
   ·have:=(zr hb).2
    rw [hn] at this
    cases this
   ·exact (zr hb1).1 (.inr z)
 have fo1:FOk (f.with D) H1:=⟨g1.ok.fd,fun b hb=>by
  rcases aek.mp hb with rfl | hb
  ·exact⟨_,h1⟩
  ·exact g1.ok.mm b hb,fun q eq hq=>by
  rcases aek.mp hq with rfl | hq
  ·exact hD eq
  ·exact g1.ok.nm q eq hq⟩
 have e1:EnvOk K (f.with D) ρ σ H1:=⟨e.len,fun j x hx=>by
  obtain⟨v,a1,a2⟩:=e.get j x hx
  refine⟨v,a1,?_⟩
  cases x with
  | dat d=>exact Rep.mono sm0 d v a2
  | feed=>exact a2
  | exc C =>
   obtain⟨q,h3,h4⟩:=a2
   exact⟨q,h3,sm0 _ _ h4⟩
  | mon φ=>exact fun H' s=>a2 H' (sm0.trans s)
  | own k =>
   obtain⟨q,h3,h4⟩:=a2
   refine⟨q,?_,h4⟩
   show (D :: f.M).reverse[k]?=some q
   rw [aen,ad8 (ad9.mp h3).1]
   exact h3,fo1⟩
 have rv:RepV K (f.with D) H1 (.own f.M.length) (.ref D):=⟨D,by
  show (D :: f.M).reverse[f.M.length]?=some D
  rw [aen,aec (by simp)]
  simp,rfl⟩
 have c1:CSt K f D H1 (ρ.set i (some (.own f.M.length))) es0 (σ.set i (some (.ref D))) H1:=⟨e1.set i rv,Same.refl _,fun _ _=>rfl,vs,h1,rs⟩
 have gg:∀ {ρ':zi} {es':List PyData} {σ':St} {H':Hp},CSt K f D H1 ρ' es' σ' H'->Goes f H H':=fun c=>by
  refine⟨fun b o hb=>?_,(jD c).fd,fun b hb=>(c.kp b hb).trans (g1.kp b hb)⟩
  exact same_with (D:=D) b o (c.sm b o (sm0 b o hb))
 refine p D hD hM _ H1 H1 _ c1 (fun ρ' es' σ' H' c' ⟨hi,p'⟩=>?_) (fun d v ρ' es' σ' H' c' r' p'=>r d v H' (gg c') r' p') (fun ρ' es' σ' H' c' p'=>b _ σ' H' (gg c') (jD c') p') (fun ρ' es' σ' H' c' p'=>k _ σ' H' (gg c') (jD c') p')
 obtain⟨vs',h1',h2'⟩:=c'.lst
 have rl:Rep K (hide H' f) (.list es') (.ref D):=rep_list.mpr ⟨D,vs',rfl,.of (zo nD h1'),Reps.mono same_with es' vs' h2'⟩
 exact p' σ' H' E (abH (jD c') (aaU hi c') rl) (fun ρ2 σ2 H2 g2=>n ρ2 σ2 H2 ((gg c').trans g2)) (fun d v H2 g2=>r d v H2 ((gg c').trans g2)) (fun ρ2 σ2 H2 g2=>b ρ2 σ2 H2 ((gg c').trans g2)) (fun ρ2 σ2 H2 g2=>k ρ2 σ2 H2 ((gg c').trans g2))
end
section
variable {K:ad6} {f:Fx} {ρ:zi} {P:PyData->Prop} {te ta tb:TE} {t:TA}
theorem Reps.drop {H:Hp}:∀ {ds:List PyData} {xs:List V} (n:Nat),Reps K H ds xs->Reps K H (ds.drop n) (xs.drop n)
 | _,_,0,r=>r
 | [],xs,n+1,r=>by
  rw [reps_nil.mp r]
  exact .nil'
 | d :: ds,xs,n+1,r=>by
  obtain⟨x,r',rfl,_,h⟩:=reps_cons.mp r
  exact Reps.drop n h
theorem Reps.take {H:Hp}:∀ {ds:List PyData} {xs:List V} (n:Nat),Reps K H ds xs->Reps K H (ds.take n) (xs.take n)
 | _,_,0,r=>.nil'
 | [],xs,n+1,r=>by
  rw [reps_nil.mp r]
  exact .nil'
 | d :: ds,xs,n+1,r=>by
  obtain⟨x,r',rfl,h0,h⟩:=reps_cons.mp r
  exact .cons' h0 (Reps.take n h)
noncomputable def cutD (ds:List PyData) (lo hi:Option Int):List PyData:=(ds.drop (HT.sIx ds.length 0 lo)).take (HT.sIx ds.length ds.length hi - HT.sIx ds.length 0 lo)
theorem Reps.cut {H:Hp} {ds:List PyData} {xs:List V} {lo hi:Option Int} (r:Reps K H ds xs):Reps K H (cutD ds lo hi) (vi xs lo hi):=by
 unfold cutD vi
 rw [r.length]
 exact (r.drop _).take _
noncomputable def POd (K:ad6) (f:Fx) (t:TO) (ρ:zi) (R:Option Int->Prop):Prop:=∀ (σ:St) (H:Hp) (Q:Option Int->Hp->Prop),EnvOk K f ρ σ H->(∀ o H',Goes f H H'->R o->Q o H')->t σ H Q
theorem aaV {R:Option Int->Prop} (h:PEd K f te ρ fun d=>∃ i:Int,d=.int i/\R (some i)):POd K f (ach te) ρ R:=fun σ H Q e q=>h σ H _ e fun d v H1 g1 r1 ⟨i,ed,p⟩=>by
 subst ed
 exact⟨i,rep_int.mp r1,q (some i) H1 g1 p⟩
theorem adE {tl th:TO} {P:List PyData->Prop} (h:PEd K f te ρ fun x=>∃ ds,x=.list ds/\POd K f tl ρ fun lo=>POd K f th ρ fun hi=>P (cutD ds lo hi)):PEdL K f (tSl (aby K) te tl th) ρ P:=fun σ H Q e q =>
 h σ H _ e fun x v H1 g1 r1 ⟨ds,ex,p1⟩=>p1 σ H1 _ (e.mono g1) fun lo H2 g2 p2=>p2 σ H2 _ ((e.mono g1).mono g2) fun hi H3 g3 p3=>by
  subst ex
  have gg:=g1.trans (g2.trans g3)
  obtain⟨a,xs,rfl,h1,h2⟩:=rep_list.mp (Rep.mono (g2.trans g3).sm _ _ r1)
  refine⟨a,xs,rfl,(zk _ _).seq h1,fun p hn=>?_⟩
  have g4:Goes f H3 (upd H3 p (.lst (vi xs lo hi))):=.of_same (zU hn _) g3.ok
  exact q _ p _ _ (gg.trans g4) (gg.free e.fd hn) zp (Reps.mono g4.sm _ _ h2.cut) p3
theorem acn {tl th:TO} (h:PEd K f te ρ fun x=>∃ ds,x=.list ds/\POd K f tl ρ fun lo=>POd K f th ρ fun hi=>P (.list (cutD ds lo hi))):PEd K f (tSl (aby K) te tl th) ρ P:=(adE h).ped
end
noncomputable abbrev f0:Fx:=⟨none,[]⟩
theorem fok0 (H:Hp):FOk f0 H:=⟨(fun p e=>by cases e),(fun b hb=>by cases hb),(fun p e=>by cases e)⟩
theorem adF {H H':Hp} (s:Same H H'):Goes f0 H H':=.of_same s (fok0 H)
theorem same0 {H H':Hp} (g:Goes f0 H H'):Same H H':=fun b o h=>(zr (g.sm b o (by rw [zX];exact h))).2
noncomputable def qy:Option DV->Option DV
 | some (.dat d)=>some (.dat d)
 | _=>none
section
variable {K:ad6} {ρ:zi} {te:TE} {tu:TS} {i:Nat}
theorem jS {p:Addr} {σ:St} {H:Hp} (e:EnvOk K ⟨some p,[]⟩ ρ σ H):EnvOk K f0 (ρ.map qy) σ H:=by
 refine⟨by rw [ad5];exact e.len,fun i x h=>?_,fok0 H⟩
 rw [aee] at h
 cases eq:ρ[i]? with
 | none=>rw [eq] at h;cases h
 | some y =>
  rw [eq] at h
  cases y with
  | none=>cases h
  | some y =>
   obtain⟨v,h1,h2⟩:=e.get i y eq
   cases y with
   | dat d =>
    cases h
    refine⟨v,h1,?_⟩
    show Rep K (hide H f0) d v
    rw [zX]
    exact Rep.mono (zk _ _) d v h2
   | feed=>cases h
   | own k=>cases h
   | exc C=>cases h
   | mon φ=>cases h
theorem ac6 {Dn:DEnds} (h:∀ (σ:St) (H:Hp) (Q:VK),EnvOk K f0 ρ σ H->(∀ (p:Addr) (x y:Int) (H':Hp),Same H H'->H p=none->H' p=some (.lst [.int x,.int y])->0<=x->0<=y->y<2147483647->Q (.ref p) H')->te σ H Q)
  (hr:∀ p,PSd K ⟨some p,[]⟩ tu (ρ.set i (some .feed)) { nx:=fun ρ'=>Dn.nx (ρ'.map qy),rt:=Dn.rt,bk:=fun ρ'=>Dn.bk (ρ'.map qy),ct:=fun ρ'=>Dn.ct (ρ'.map qy) }) :
  PSd K f0 (qo (jh te (yV i)) tu) ρ Dn:=fun σ H E e n r b k=>h σ H _ e fun p x y H1 sm hn hp x0 y0 y1=>by
 have fo:FOk ⟨some p,[]⟩ H1:=⟨fun p' e=>by cases e;exact⟨x,y,hp,x0,y0,y1⟩,(fun b hb=>by cases hb),fun _ _ hb=>by cases hb⟩
 have sm0:Same H (hide H1 ⟨some p,[]⟩):=fun b o hb=>by
  have nb:b≠p:=fun e=>by rw [e,hn] at hb;cases hb
  refine zo (fun z=>?_) (sm b o hb)
  rcases z with z | z
  ·cases z;exact nb rfl
  ·cases z
 have e1:EnvOk K ⟨some p,[]⟩ ρ σ H1:=by
  refine⟨e.len,fun j z hz=>?_,fo⟩
  obtain⟨v,a1,a2⟩:=e.get j z hz
  refine⟨v,a1,?_⟩
  cases z with
  | dat d =>
   have a2':Rep K (hide H f0) d v:=a2
   rw [zX] at a2'
   exact Rep.mono sm0 d v a2'
  | feed=>obtain⟨q,hq,_⟩:=a2;cases hq
  | own k=>obtain⟨q,hq,_⟩:=a2;cases hq
  | exc C =>
   obtain⟨q,h3,h4⟩:=a2
   refine⟨q,h3,sm0 _ _ ?_⟩
   rw [zX] at h4
   exact h4
  | mon φ =>
   intro H' s
   refine a2 H' (Same.trans ?_ s)
   rw [zX]
   exact sm0
 have gg:∀ {H':Hp},Goes ⟨some p,[]⟩ H1 H'->Goes f0 H H':=fun g=>adF fun b o hb=>zk _ _ b o (g.sm b o (sm0 b o hb))
 refine hr p _ H1 E (e1.set i (x:=.feed) ⟨p,rfl,rfl⟩) (fun ρ' σ' H' g' e' p'=>n _ σ' H' (gg g') (jS e') p') (fun d v H' g' r' p'=>r d v H' (gg g') ?_ p') (fun ρ' σ' H' g' e' p'=>b _ σ' H' (gg g') (jS e') p') (fun ρ' σ' H' g' e' p'=>k _ σ' H' (gg g') (jS e') p')
 rw [zX]
 exact Rep.mono (zk _ _) d v r'
end
section
variable {X:Cx} {K:ad6}
noncomputable def adG (i j:Int):Prop:=0<j/\j<1152921504606846976
theorem qR:OpR X (binaryOp .FloorDiv) (rI adG fun i j=>.int (i / j)):=opI fun i j _ _ _ _ _ hc q=>by
 obtain⟨h1,h2⟩:=hc
 rw [<-Int.fdiv_eq_ediv_of_nonneg i (Int.le_of_lt h1)] at q
 refine floordiv_int (by omega) q (.inl (PyProof.noPylong_of_log2 ?_))
 have h0:j.natAbs≠0:=by omega
 have:j.natAbs.log2<60:=(Nat.log2_lt h0).mpr (by omega)
 omega
theorem aaW (hK:X.K=K):SlR X (aby K):=hK▸abz
end
section
variable {K:ad6} {f:Fx} {ρ:zi} {wi:TI} {g:TG} {tt:TT} {own:Nat} {fr:List Nat} {tb:Addr->TB} {P:List PyData->Prop}
theorem aaX {α:Type} {A B:α->PyData} (xs:List α) (h:PId K f wi ρ fun ds=>ds=xs.map A/\xs.length<=1000 /\
   (∀ D x ρ' es,x∈xs->OwnE own (frD fr ρ) ρ'->es.length<1000->PGd K (f.with D) g (A x) ρ' fun ρ2=>PTd K (f.with D) tt ρ2 fun b=>if b=true then PBd K f D (tb D) ρ2 es fun ρ3 es3=>OwnE own (frD fr ρ) ρ3/\es3=es++[B x] else False)/\P (xs.map B)) :
  PEdO K f (jL wi own fr g tt tb) ρ P :=
 aaT (h.imp fun ds ⟨ed,hl,hs,hp⟩=>by
  subst ed
  refine⟨fun i ρ' es=>OwnE own (frD fr ρ) ρ'/\es=(xs.take i).map B,⟨⟨afd own none,by simp,rfl⟩,by simp⟩,fun D i d ρ' es hd ⟨ho,he⟩=>?_,fun ρ' es ⟨_,he⟩=>?_⟩
  ·rw [aee] at hd
   cases eq:xs[i]? with
   | none=>rw [eq] at hd;cases hd
   | some x =>
    rw [eq] at hd
    cases hd
    have hi:i<xs.length:=(ad9.mp eq).1
    have hb:es.length<1000:=by
     rw [he,ad5,aeH]
     omega
    intro σ H v Q e r q
    refine hs D x ρ' es (aem eq) ho hb σ H v Q e r fun ρ2 σ2 H2 g2 e2 p2=>q ρ2 σ2 H2 g2 e2 (p2.imp fun b hb2=>?_)
    cases b with
    | false =>
     rw [if_neg aef] at hb2
     exact hb2.elim
    | true =>
     rw [if_pos rfl] at hb2 ⊢
     intro h1 h2 σ3 H3 H4 W c k
     exact hb2 h1 h2 σ3 H3 H4 W c fun ρ5 es5 σ5 H5 c5 ⟨o5,p5⟩=>k ρ5 es5 σ5 H5 c5 ⟨o5,by rw [p5,he,afI,eq,aeE];rfl⟩
  ·rw [he,ad5,afL]
   exact hp)
end
structure XLie (P:Program) (w:World) (outer:List Env) (H:Hp) (s:Shared) (e:Addr) (C:Value) (H':Hp) (s':Shared):Prop where
 os:s'.os=s.os
 bare:AllBare s'.gens
 un:Un (frs outer) [] H H' s.heap s'.heap
 hok:HOk P w H' s'.heap
 fly:∃ B a0,Heap.FlyingW B outer e C a0 s'.heap/\(∀ b o,s.heap.get? b=some o->b∉frs outer->∃ o',B.get? b=some o')/\∀ b o,H' b=some o->∃ o',B.get? b=some o'
 new:s.heap.get? e=none
 free:H' e=none
noncomputable def CXe (P:Program) (w:World):CXT:=fun outer H s E e s'=>∃ a C H',e=.ref a/\XLie P w outer H s a C H' s'/\E C none H'
end L2
end
section
namespace L2
open PySem PySem.Spec PyProof.Rows
end L2
end
section
namespace L2
open PySem PySem.Spec PySem.W PyProof.Rows PySem.Calls PySem.Builtin Builtin Builtin.ObjectAttr Builtin.Getset_descriptor
section
variable {prog:Program} {w:World} {A:Around} {E:Value->Shared->Prop} {s:Shared} {K:ad6} {a C:Addr}
structure ExcWays (K:ad6) (C:Addr):Prop where
 ga:findIn K (.ref C) "__getattribute__"=some (some (.builtin "BaseException.__getattribute__"))
 gt:findIn K (.ref C) "__getattr__"=some none
 cl:findIn K (.ref C) "__class__"=some (some (.builtin "object.__class__"))
 gs:specialIn K (.builtin "object.__class__") "__get__"=some (some (.builtin "getset_descriptor.__get__"))
 tk:takesIn K (.builtin "object.__class__")=some true
 ob:mroIn K C (.type "object")=some true
 be:mroIn K C (.type "BaseException")=some true
 iz:(clsIn K C).isSome=true
end
structure FnInX (P:Program) (w:World) (K:ad6) (mg:Str->Option Value) (base:Heap) (k:Nat) (x:Str) (ps:List Str) (sp:Sp):Prop where
 ex:∃ (f:Addr) (fd:FuncData),FnOk P w K mg base (CXe P w) k f fd ps sp/\mg x=some (.ref f)/\aex K (.ref f)=true/\Binds K fd ps []
end L2
end
section
namespace L2
open PySem PySem.Spec PyProof.Rows
end L2
end
section
namespace L2
open PySem PySem.Spec PyProof.Rows
section
variable {K:ad6} {f:Fx} {ρ:zi} {E:XK} {te:TE} {ts tu:TS} {tt:TT} {t:TA} {P:PyData->Prop} {D:DEnds}
theorem aco (h:PEd K f te ρ fun x=>∃ i,x=.int i/\P (.int (-i))):PEd K f (tUn (rU fun i=>.int (-i)) te) ρ P :=
 adV (h.imp fun x ⟨i,ex,p⟩ v H Q fo r q=>by
  subst ex
  exact⟨i,rep_int.mp r,q _ _ H (.refl fo) (rep_int.mpr rfl) p⟩)
end
end L2
end
section
namespace L2
open PySem PySem.Spec PyProof.Rows
section
variable {P:Program} {w:World} {A:Around} {X:Value->Shared->Prop} {s:Shared} {it l:Addr} {xs:Array Value}
theorem vq {A:Around} {Q:Bool->Shared->Prop} (ty:s.TypeIs (.ref it) "list_reverseiterator") (q:Q false s):wpAny (model P w) A (afy (.ref it)) Q X s:=by
 have no:typeLookup (.type "list_reverseiterator") "__len__"=pure none:=by rw [typeLookup_type,builtinLookup_eq_fast];kernel_rfl
 have yes:typeLookup (.type "list_reverseiterator") "__length_hint__"=pure (some (.builtin "list_reverseiterator.__length_hint__")):=by rw [typeLookup_type,builtinLookup_eq_fast];kernel_rfl
 unfold afy
 apply wpAny_bind;apply wpAny_specialOf ty no
 show wpAny _ A (specialOf _ (Str.ofString "__length_hint__") >>= _) _ _ _
 apply wpAny_bind;apply wpAny_specialOf ty yes
 generalize e:("list_reverseiterator.__length_hint__":String)=id0
 wp_delta
 have sp:splitId id0=some ("list_reverseiterator","__length_hint__"):=by rw [<-e];decide +kernel
 rw [sp]
 subst e
 apply wpAny_bind
 apply wpAny_isInstance (T:="list_reverseiterator") (b:=true) ty (by rw [isSubtype_type];kernel_rfl)
 repeat' (refine wpAny_ite_split (fun z=>?_) (fun z=>?_))
 all_goals first
  | exact wpAny_pure q
  | exact absurd z (by decide)
  | exact absurd z (by decide +kernel)
  | exact absurd (by decide +kernel) z
theorem j3 {Q:Value->Shared->Prop} (hh:A.handled=none) (ne:l≠it) (hit:s.heap.IsRevIter it l ((xs.size:Int) - 1)) (hl:s.heap.IsList l xs) (small:xs.size<=sizeLine)
  (q:∀ h' tk ys c,(∀ b o,b≠it->s.heap.get? b=some o->h'.get? b=some o)->h'.get? s.heap.objs.size=some { cls:=.type "list",dict:=none,data:=.seq ys c,slots:=#[] } ->
   ItemsOf (fun i v=>xs[xs.size - 1 - i]?=some v) ys xs.size->Q (.ref s.heap.objs.size) { s with heap:=h',toks:=tk }) :
  wpAny (model P w) A (call (.type "list") [.ref it]) Q X s:=by
 let D:=s.heap.objs.size
 have below:∀ b o,s.heap.get? b=some o->b≠D:=fun b o e z=>aeJ D (by have:=aed e;rwa [z] at this)
 have nit:it≠D:=let⟨o,e,_⟩:=hit;below it o e
 have nl:l≠D:=let⟨o,e,_⟩:=hl;below l o e
 let h1:Heap:=s.heap.push { cls:=.type "list",data:=.seq #[] }
 have at1:h1.get? D=some { cls:=.type "list",data:=.seq #[] }:=aeo _ rfl
 let h2:Heap:=h1.update D (afo fun _=>#[])
 have at2:=afS (afo fun _=>(#[]:Array Value)) at1 rfl
 have stay:∀ b o,s.heap.get? b=some o->h2.get? b=some o:=fun b o e =>
  (afk _ _ (afj (below b o e))).trans (aea _ e)
 have ty:({ s with heap:=h2 }:Shared).TypeIs (.ref it) "list_reverseiterator":=(hit.at fun o e=>stay it o e).typeIs
 have walk:=(Walks.listRev (prog:=P) (w:=w) (A:=A.in1.in1) hh it l ne xs).toS
 refine callType_codes (Q₁:=fun v t=>v=.ref D/\t={ s with heap:=h1 }) F.called_list (F.typeCall_list_1 _) F.entry_list_init (code_list_new _ ⟨rfl,rfl⟩) ?_
 rintro _ _ ⟨rfl,rfl⟩
 refine⟨⟨_,at1,rfl⟩,F.args_list_init_2 _ _,?_⟩
 show wpAny _ A.in1.in1 (afM (.ref D) >>= fun old=>Builtin.List.listUpdate (.ref D) (fun _=>#[]) >>= fun _=>letGo old.toList.reverse >>= fun _=>afc (.ref D) (.ref it) .none) _ _ _
 unfold afM
 apply wpAny_bind;apply wpAny_bind
 apply wpAny_seqItems at1 rfl;apply wpAny_pure
 show wpAny _ A.in1.in1 (updateSeq D (fun _=>#[]) >>= fun _=>letGo [] >>= fun _=>afc (.ref D) (.ref it) .none) _ _ _
 apply wpAny_bind;apply wpAny_updateSeq at1 rfl
 apply wpAny_bind;apply wpAny_letGo
 unfold afc
 apply wpAny_bind;apply wpAny_typeOf ty
 have other:afJ (.ref D) (.ref it)=false:=by simp [afJ,afj nit]
 rw [other]
 have k2:(Value.type "list_reverseiterator" == Value.type "list" || Value.type "list_reverseiterator" == Value.type "tuple")=false:=by decide
 simp only [k2,Bool.false_or,Bool.false_eq_true,if_false]
 have start:(0:Nat)<=xs.size/\h2.IsRevIter it l ((xs.size:Int) - 1 - ((0:Nat):Int))/\h2.IsList l xs:=by
  refine⟨ae4 _,?_,hl.at fun o e=>stay l o e⟩
  rw [Int.natCast_zero,Int.sub_zero]
  exact hit.at fun o e=>stay it o e
 apply wpAny_bind;apply walk.self 0 _ _ _ start
 apply wpAny_bind;apply wpAny_holding;apply vq ty
 refine wpAny_ite_split (fun z=>absurd z (by decide +kernel)) fun _=>wpAny_pure ⟨plainId_quiet F.plain_extend_loop _,?_⟩
 refine codeAny_extend_loopS walk small D (by simp [afj nit,afj nl]) _ _ 0 _ _ _ rfl (ae4 _) start at2 (ItemsOf.nil _) fun s' ys c mv at' its=>?_
 have go:∀ b o,b≠it->s.heap.get? b=some o->s'.heap.get? b=some o:=fun b o nb e =>
  mv.heap b o (by simp [nb];exact below b o e) (stay b o e)
 rw [Moved.eq_with mv]
 exact⟨rfl,q s'.heap s'.toks ys c go at' its⟩
end
theorem aal {its:List Value} {acc:Array Value} (h:ItemsOf (fun i v=>its.toArray[its.toArray.size - 1 - i]?=some v) acc its.toArray.size):acc.toList=its.reverse:=by
 obtain⟨h1,h2⟩:=h
 have h1':acc.toList.length=its.length:=by simpa using h1
 refine List.ext_getElem? fun j=>?_
 by_cases hj:j<its.length
 ·have hj':j<acc.size:=by rw [h1];simpa using hj
  have:=h2 j acc[j] (afD hj')
  rw [afU hj,Array.getElem?_toList,afD hj',<- this]
  simp
 ·rw [aeG (by omega),aeG (by rw [aeq];omega)]
noncomputable def acp (K:ad6) (te:TE):TE:=fun σ H Q=>y7 te vh σ H fun vs H1=>∃ a ys,vs=[.ref a]/\SqL K H1 a ys/\∀ l,H1 l=none->Q (.ref l) (upd H1 l (.lst ys.reverse))
section
variable {X:Cx} {x y:Str} {p p2 pos pos2:Pos} {e:Expr} {te:TE}
theorem vt {K:ad6} (hK:X.K=K) (hc:X.calm=true) (hg:Gl X x) (hm:X.mg x=none) (hv:bootBuiltins x=some (.type "list")) (hg2:Gl X y) (hm2:X.mg y=none) (hv2:bootBuiltins y=some (.type "reversed")) (ha:PE X e te)
  (hs:starEach [e] X.env=(false,eval e X.env) :: starEach [] X.env:=by rfl)
  (hn:x ≠ "__name__":=by decide) (hdb:(x == ("__debug__":Str))=false:=by decide) (hn2:y ≠ "__name__":=by decide) (hdb2:(y == ("__debug__":Str))=false:=by decide)
  (he:starEach [.Call (.Name y p2) [e] [] pos2] X.env=(false,eval (.Call (.Name y p2) [e] [] pos2) X.env) :: starEach [] X.env:=by rfl) :
  PE X (.Call (.Name x p) [.Call (.Name y p2) [e] [] pos2] [] pos) (acp K te):=by
 subst hK
 intro pins s σ H Q I h
 refine wpAny_Call_Name_kw (jg I hg hm hv ?_ hn hdb)
 refine aeO ?_ he rfl
 rw [he]
 show wpAny _ _ (spliced ((false,eval (.Call (.Name y p2) [e] [] pos2) X.env) :: backTo pos (starEach [] X.env))) _ _ s
 refine Calls.spliced_cons ?_
 refine wpAny_Call_Name_kw (jg I hg2 hm2 hv2 ?_ hn2 hdb2)
 refine aeO (thn (za ha ze hs pos2 pins s σ H _ I h) fun us s1 ⟨vs,H1,I1,r1,q1⟩=>?_) hs rfl
 obtain⟨a,ys,rfl,hq,q⟩:=q1
 obtain⟨u,rfl,rx⟩:=vals1 r1
 cases rx
 obtain⟨its,rv,pl,hz⟩:=I1.list hq
 have hl:=pl.isList
 have lt:a<s1.heap.objs.size:=by
  obtain⟨o,ho,_⟩:=hl
  exact aed ho
 refine call_reversed_list hl ?_
 refine Calls.spliced_nil ?_
 refine j3 (show (X.A).handled=none from I1.ok.hd hc) (xs:=its.toArray) (aes lt) ⟨_,aeo _ rfl,rfl,rfl⟩ (hl.at fun o e=>aea _ e) (by rw [aeh,<- rv.length];exact hz) fun h' tk acc' c' hk hS' hacc=>?_
 have kp:∀ b o,s1.heap.get? b=some o->h'.get? b=some o:=fun b o e=>hk b o (fun z=>by
  have:=aed e
  rw [z] at this
  exact aeJ _ this) (aea _ e)
 have sz:(s1.heap.push (revObj a ((its.toArray.size:Int) - 1))).objs.size=s1.heap.objs.size+1:=by simp [Heap.push]
 have ea:=aal hacc
 refine⟨.ref _,_,I1.laid (a:=(s1.heap.push (revObj a ((its.toArray.size:Int) - 1))).objs.size) (t':=tk) kp (by rw [sz];exact Nat.le_succ _) (o:=.lst ys.reverse) ?_,rfl,q _ (I1.hok.fresh (by rw [sz];exact Nat.le_succ _))⟩
 refine⟨by rw [aeq];exact hz,its.reverse,c',rv.reverse,?_⟩
 rw [<-ea]
 exact hS'
end
section
variable {K:ad6} {f:Fx} {ρ:zi} {P:PyData->Prop} {te:TE}
theorem aaY {H:Hp} {ds:List PyData} {xs:List V} (r:Reps K H ds xs):Reps K H ds.reverse xs.reverse:=by
 induction ds generalizing xs with
 | nil =>
  rw [reps_nil.mp r]
  exact reps_nil.mpr rfl
 | cons d ds ih =>
  obtain⟨x,r',rfl,h1,h2⟩:=reps_cons.mp r
  rw [aen,aen]
  exact (ih h2).append (reps_cons.mpr ⟨x,[],rfl,h1,reps_nil.mpr rfl⟩)
theorem aam (h:PEd K f te ρ fun x=>∃ ds,x=.list ds/\P (.list ds.reverse)):PEd K f (acp K te) ρ P:=fun σ H Q e q=>h σ H _ e fun x v H1 g1 r1 ⟨ds,ex,p⟩=>by
 subst ex
 obtain⟨a,xs,rfl,h1,h2⟩:=rep_list.mp r1
 refine⟨a,xs,rfl,(zk _ _).seq h1,fun l hn=>?_⟩
 have sm:=zU hn (.lst xs.reverse)
 have g2:Goes f H1 (upd H1 l (.lst xs.reverse)):=.of_same sm g1.2
 exact q (.list ds.reverse) _ _ (g1.trans g2) (rep_list.mpr ⟨l,xs.reverse,rfl,.of (zo (fresh_ne g1.2 hn) zp),Reps.mono g2.1 _ _ (aaY h2)⟩) p
end
section
variable {prog:Program} {w:World} {A:Around} {E:Value->Shared->Prop} {s:Shared}
theorem abI {t b:Addr} {vs ws:List Value} {Q:Value->Shared->Prop} (ht:PlainL s.heap t vs.toArray) (hb:PlainL s.heap b ws.toArray)
  (h2:Q (.ref s.heap.objs.size) { s with heap:=s.heap.push { cls:=.type "list",data:=.seq (vs++ws).toArray } })
  (hsz:vs.length+ws.length<=sizeLine):wpAny (model prog w) A (binaryOp .Add (.ref t) (.ref b)) Q E s:=by
 obtain⟨⟨cls,dd,data,sl⟩,n,ho,hc,_,hd⟩:=ht
 obtain⟨⟨cls2,dd2,data2,sl2⟩,n2,ho2,hc2,_,hd2⟩:=hb
 simp only at hc hd hc2 hd2
 subst hc hd hc2 hd2
 have e:vs.toArray++ws.toArray=(vs++ws).toArray:=by simp
 refine concat_meets ⟨_,ho,rfl⟩ ⟨_,ho2,rfl⟩ noFill_list_add seq_list_add PySem.F.slot_list_add PySem.F.entry_list_add (PySem.F.args_list_add_2 _ _) (list_addW t b vs.toArray ws.toArray n n2 dd dd2 sl sl2 (by rw [aeh,aeh];exact hsz)) ⟨ho,ho2,?_⟩
 rw [e]
 exact h2
end
noncomputable def aaZ (K:ad6):R2:=fun x y H Q=>∃ l b xs zs,x=.ref l/\y=.ref b/\SqL K H l xs/\SqL K H b zs/\xs.length+zs.length<=sizeLine/\∀ p,H p=none->Q (.ref p) (upd H p (.lst (xs++zs)))
section
variable {X:Cx}
theorem abJ:OpR X (binaryOp .Add) (aaZ X.K):=by
 intro pins s σ H x y v u Q I rx ry h
 obtain⟨l,b,xs,zs,rfl,rfl,ha,hb,hz,q⟩:=h
 cases rx
 cases ry
 obtain⟨its,r1,p1,_⟩:=I.list ha
 obtain⟨its2,r2,p2,_⟩:=I.list hb
 refine abI p1 p2 ?_ (by rw [<-r1.length,<- r2.length];exact hz)
 exact⟨.ref _,_,I.lnew (t':=s.toks) (r1.append r2) (by rw [ael];omega),rfl,q _ I.fresh⟩
theorem jT {K:ad6} (hK:X.K=K):OpR X (binaryOp .Add) (aaZ K):=hK▸abJ
end
section
variable {K:ad6} {f:Fx} {ρ:zi} {P:PyData->Prop} {te ta tb:TE} {t:TA}
theorem vv (h:PEd K f ta ρ fun x=>∃ ds,x=.list ds/\PEd K f tb ρ fun y=>∃ es,y=.list es/\ds.length+es.length<=1000/\P (.list (ds++es))):PEd K f (tOp (aaZ K) ta tb) ρ P:=fun σ H Q e q =>
 h σ H _ e fun x v H1 g1 r1 ⟨ds,ex,p1⟩=>p1 σ H1 _ (e.mono g1) fun y w H2 g2 r2 ⟨es,ey,hl,p2⟩=>by
  subst ex ey
  obtain⟨a,xs,rfl,h1,h2⟩:=rep_list.mp (Rep.mono g2.sm _ _ r1)
  obtain⟨b,ys,rfl,h3,h4⟩:=rep_list.mp r2
  have l1:=h2.length
  have l2:=h4.length
  refine⟨a,b,xs,ys,rfl,rfl,(zk _ _).seq h1,(zk _ _).seq h3,by rw [l1,l2];exact aeQ (zW hl),fun p hn=>?_⟩
  have g3:Goes f H2 (upd H2 p (.lst (xs++ys))):=.of_same (zU hn _) g2.ok
  exact q (.list (ds++es)) _ _ (g1.trans (g2.trans g3)) (rep_list.mpr ⟨p,_,rfl,.of (zo (fresh_ne g2.ok hn) zp),Reps.mono g3.sm _ _ (h2.append h4)⟩) p2
theorem acq {R:List PyData->Prop} (h:PAd K f t ρ fun xs=>∃ ds,yy xs=some ds/\ds.length<=1000/\R ds):PEdO K f (aaH t) ρ R:=fun σ H Q e q =>
 h σ H _ e fun xs vs H1 g1 r1 ⟨ds,ea,hl,p⟩=>by
  have rs:=yS r1 ea
  refine⟨by rw [rs.length];exact aeQ (zW hl),fun l hn=>?_⟩
  have g2:Goes f H1 (upd H1 l (.lst vs)):=.of_same (zU hn _) g1.2
  have nl:=fresh_ne g1.2 hn
  refine q ds l vs _ (g1.trans g2) (g1.free e.fd hn) zp (Reps.mono (fun b o hb=>?_) _ _ rs) p
  have hb':=zr hb
  have hbl:b≠l:=fun z=>by
   have:=hb'.2
   rw [z,hn] at this
   cases this
  refine zo (fun z=>?_) (by rw [zm hbl];exact hb'.2)
  rcases z with z | z
  ·exact hb'.1 (.inl z)
  ·rcases aek.mp z with z | z
   ·exact hbl z
   ·exact hb'.1 (.inr z)
end
end L2
end
section
namespace L2
open PySem PySem.Spec PyProof.Rows
section
variable {X:Cx} {pins:List (Addr×Obj)} {σ:St} {H:Hp} {s:Shared} {h':Heap}
theorem Inv.keptL {t':Nat} (I:Inv X pins σ H s) (k:∀ b u,b≠X.env.locals->s.heap.get? b=some u->h'.get? b=some u) (hL:∃ o,h'.get? X.env.locals=some o) (ns:∀ m,s.heap.Ns X.env.locals m->h'.Ns X.env.locals m):Inv X pins σ H { s with heap:=h',toks:=t' }:=by
 have fL:H X.env.locals=none:=I.free
 refine I.step (g':=s.gens) (d':=s.drawn) (ch:=[]) (fun _ z=>nomatch z) (fun b o n _ _ e _=>k b o n e) (fun b o n _ _ e _=>⟨o.slots,k b o n e⟩) (fun b o _ _ e=>e) (fun b o _ e=>?_) (fun _ _ e=>e) (fun _ _ _ e=>e) (fun _ _ e=>e) ns (fun a o e=>(I.hok a o e).stay (fun b u hb q=>k b u (fun z=>?_) q) (fun _ q=>q) fun _ _ q=>q) I.bare
 ·by_cases hb:b=X.env.locals
  ·subst hb;exact hL
  ·exact⟨o,k b o hb e⟩
 ·rcases hb with hb | hb
  ·rw [<-hb,z,fL] at e;cases e
  ·rw [z,fL] at hb;cases hb
end
end L2
end
section
namespace L2
open PySem PySem.W PyProof.Rows
structure Tot (n:Nat) (lt:Nat->Nat->Bool):Prop where
 tri:∀ i j,i<n->j<n->i≠j->lt i j=!lt j i
 tra:∀ i j k,i<n->j<n->k<n->lt i j=true->lt j k=true->lt i k=true
noncomputable def Ans (cmp:Nat->Nat->(Bool->Shared->Prop)->Shared->Prop) (n:Nat) (lt:Nat->Nat->Bool) (s:Shared):Prop:=∀ i j C,i<n->j<n->C (lt i j) s->cmp i j C s
noncomputable def Dn (lt:Nat->Nat->Bool) (p:Array Nat) (m:Nat):Prop:=∀ i j,i<j->j<m->lt (p.getD j 0) (p.getD i 0)=true
end L2
end
section
namespace L2
open PySem PySem.W PySem.Calls PyProof.Rows
section
variable {P:Program} {w:World} {A:Around} {X:Value->Shared->Prop} {s:Shared} {κ:SortKind} {vs:List Value} {lt:Nat->Nat->Bool}
structure Asks (P:Program) (w:World) (A:Around) (s:Shared) (κ:SortKind) (vs:List Value) (lt:Nat->Nat->Bool):Prop where
 kind:2<=vs.length->∀ (h':Heap),(∀ b o,s.heap.get? b=some o->h'.get? b=some o)->∀ R:SortKind->Shared->Prop,R κ { s with heap:=h' }->wpAny (model P w) A (keyKind' vs.toArray) R (fun _ _=>False) { s with heap:=h' }
 less:∀ (h':Heap),(∀ b o,s.heap.get? b=some o->h'.get? b=some o)->Ans (kas_ask P w A κ vs) vs.length lt { s with heap:=h' }
 ord:Tot vs.length lt
 few:vs.length<64 \/ ∀ i,i+1<vs.length->lt (i+1) i=false
end
mutual
noncomputable def jU:PyData->Bool
 | .int _=>true
 | .str s=>(PyData.str s).canLay0
 | .tuple xs=>aa0 xs
 | _=>false
noncomputable def aa0:List PyData->Bool
 | []=>true
 | x :: xs=>jU x && aa0 xs
end
mutual
noncomputable def ac7:PyData->PyData->Bool
 | .int _,.int _=>true
 | .str _,.str _=>true
 | .tuple xs,.tuple ys=>adH xs ys
 | _,_=>false
noncomputable def adH:List PyData->List PyData->Bool
 | [],_=>true
 | _ :: _,[]=>true
 | x :: xs,y :: ys=>if afB x y=true then adH xs ys else ac7 x y
end
end L2
end
section
namespace L2
open PySem PySem.Spec PyProof.Rows PySem.SeqAt
open PySem.AutoSeq1 (wpAny_loadPart')
open PySem.MeetsSeq PySem.MeetsSeq2 PySem.MeetsSeq3
noncomputable def adX (A:Around) (s:Shared) (y x:Value) (b:Bool):Prop :=
 ∀ (prog:Program) (w:World) (E:Value->Shared->Prop) (Q:Value->Shared->Prop),Q (.bool b) s->wpAny (model prog w) A (richCompare .Lt y x) Q E s
inductive Lex (A:Around) (s:Shared):List Value->List Value->Bool->Prop where
 | nn:Lex A s [] [] false
 | nc {w ws}:Lex A s [] (w :: ws) true
 | cn {v vs}:Lex A s (v :: vs) [] false
 | eq {v w vs ws b}:EqAt A s v w true->Lex A s vs ws b->Lex A s (v :: vs) (w :: ws) b
 | lt {v w vs ws b}:EqAt A s v w false->adX A s v w b->Lex A s (v :: vs) (w :: ws) b
end L2
end
section
namespace L2
open PySem PySem.Spec PyProof.Rows PySem.SeqAt PySem.W
noncomputable def aa1:PyData->Option String
 | .tuple (.int _ :: _)=>some "int"
 | .tuple (.str _ :: _)=>some "str"
 | .tuple (.tuple _ :: _)=>some "tuple"
 | _=>none
structure SortOk (T:String) (ds:List PyData):Prop where
 plain:∀ d∈ds,jU d=true
 head:∀ d∈ds,aa1 d=some T
 cmp:∀ d∈ds,∀ e∈ds,ac7 d e=true
 depth:∀ d∈ds,d.depth<=50
 nd:ds.Nodup
end L2
end
section
namespace L2.ST
open PySem PySem.SetTable
noncomputable def adY (xs:Array Nat):Prop:=∀ i j,i<j->j<xs.size->xs.getD i 0<xs.getD j 0
noncomputable def Tk (t:SetTable) (j:Nat):Prop:=∃ i,i<t.place.size/\t.place.getD i 0=j
noncomputable def road (mask:Nat) (h:Int):Nat->Probe
 | 0=>{ j:=bits h % (mask+1),more:=runEnd mask (bits h % (mask+1)) - bits h % (mask+1),i:=bits h % (mask+1),perturb:=bits h,dummy:=none }
 | k+1=>if (road mask h k).more > 0 then { road mask h k with j:=(road mask h k).j+1,more:=(road mask h k).more - 1 } else
  { road mask h k with j:=(leap mask (road mask h k).i (road mask h k).perturb).1,more:=runEnd mask (leap mask (road mask h k).i (road mask h k).perturb).1 - (leap mask (road mask h k).i (road mask h k).perturb).1,i:=(leap mask (road mask h k).i (road mask h k).perturb).1,perturb:=(leap mask (road mask h k).i (road mask h k).perturb).2 }
noncomputable abbrev pos (mask:Nat) (h:Int) (k:Nat):Nat:=(road mask h k).j
noncomputable def lp (mask:Nat) (h:Int):Nat->Nat×Nat
 | 0=>(bits h % (mask+1),bits h)
 | r+1=>leap mask (lp mask h r).1 (lp mask h r).2
noncomputable def At (mask:Nat) (h:Int) (k r d:Nat):Prop:=d<=runEnd mask (lp mask h r).1 - (lp mask h r).1/\road mask h k={ j:=(lp mask h r).1+d,more:=runEnd mask (lp mask h r).1 - (lp mask h r).1 - d,i:=(lp mask h r).1,perturb:=(lp mask h r).2,dummy:=none }
theorem vR (mask:Nat) (h:Int):At mask h 0 0 0:=⟨ae4 _,rfl⟩
end L2.ST
end
section
namespace L2.ST
open PySem PySem.SetTable
structure TB (t:SetTable) (hs:List Int):Prop where
 mask:t.mask=7 \/ t.mask=31 \/ t.mask=127 \/ t.mask=511
 dum:t.dummies=#[]
 rise:adY t.place
 le:∀ i,i<t.place.size->t.place.getD i 0<=t.mask
 size:t.place.size=hs.length
 most:hs.length<=t.mask
 reach:∀ i,i<hs.length->∃ k,pos t.mask (hs.getD i 0) k=t.place.getD i 0/\∀ k',k'<k->Tk t (pos t.mask (hs.getD i 0) k')
structure TOk (t:SetTable) (hs:List Int):Prop extends TB t hs where
 room:hs.length * 5<t.mask * 3
structure First (t:SetTable) (h:Int) (E:Nat):Prop where
 lt:E<10 * turns t.mask
 free:¬ Tk t (pos t.mask h E)
 ahead:∀ k,k<E->Tk t (pos t.mask h k)
theorem least {p:Nat->Prop}:∀ n,p n->∃ m,m<=n/\p m/\∀ k,k<m->¬ p k:=fun n=>by
 induction n using Nat.strongRecOn with
 | ind n ih =>
  intro h
  by_cases q:∃ k,k<n/\p k
  ·obtain⟨k,hk,pk⟩:=q
   obtain⟨m,a,b⟩:=ih k hk pk
   exact⟨m,by omega,b⟩
  ·exact⟨n,aej _,h,fun k hk z=>q ⟨k,hk,z⟩⟩
end L2.ST
end
section
namespace L2.ST
open PySem PySem.SetTable
end L2.ST
end
section
namespace L2.ST
open PySem PySem.SetTable
structure OwnT (mask:Nat) (ow:Array (Option Nat)) (hs:List Int) (sl:List Nat):Prop where
 size:ow.size=mask+1
 len:sl.length=hs.length
 nd:sl.Nodup
 le:∀ j∈sl,j<=mask
 own:∀ j,j<=mask->∀ i,ow.getD j none=some i↔sl[i]?=some j
 reach:∀ i,i<hs.length->∃ q,pos mask (hs.getD i 0) q=sl.getD i 0/\∀ q',q'<q->pos mask (hs.getD i 0) q'∈sl
end L2.ST
end
section
namespace L2
open PySem PySem.Spec PyProof.Rows
mutual
noncomputable def vS (w:World):PyData->Int
 | .int i=>hashInt i
 | .str x=>hashStr w x
 | .tuple xs=>reduceHash (Builtin.Tuple.tupleHashOf (acr w xs))
 | _=>0
noncomputable def acr (w:World):List PyData->List Int
 | []=>[]
 | x :: xs=>vS w x :: acr w xs
end
noncomputable instance decPy:DecidableEq PyData:=fun a b=>Classical.propDecidable _
structure KeyAt (h:Heap) (d:PyData) (a:Addr):Prop where
 rd:∃ as,Reads h (.ref a) d as
 pl:jU d=true
 dp:d.depth<=8
end L2
end
section
namespace L2
open PySem PySem.Spec PyProof.Rows PySem.SetTable
section
variable {P:Program} {w:World} {A:Around} {E:Value->Shared->Prop} {s:Shared}
structure SetObj (w:World) (h:Heap) (a:Addr) (xs:List (PyData×Addr)) (o:Obj) (es:Array (Int×Value)) (ep:Nat) (t:SetTable):Prop where
 ob:h.get? a=some o
 ex:o.ExactSet
 da:o.data=.set es ep t
 el:es.toList=xs.map fun x=>(vS w x.1,Value.ref x.2)
 ok:ST.TOk t (xs.map fun x=>vS w x.1)
end
end L2
end
section
namespace L2
open PySem PySem.Spec PyProof.Rows PySem.SetTable
inductive OC where
 | lst (es:List PyData)
 | set (ks:List PyData)
 | dic (kvs:List (PyData×PyData))
noncomputable def adZ (w:World) (a:Addr) (xs:List (PyData×Addr)):HO:=.ext fun h=>∃ o es ep t,SetObj w h a xs o es ep t
structure DicObj (w:World) (h:Heap) (a:Addr) (xs:List (PyData×Addr×Value)) (o:Obj) (es:Array DictEntry) (ep:Nat):Prop where
 ob:h.get? a=some o
 ex:o.ExactDict
 da:o.data=.dict es ep
 el:es.toList=xs.map fun x=>(⟨vS w x.1,.ref x.2.1,x.2.2⟩:DictEntry)
 nd:(xs.map (·.1)).Nodup
 ns:(a == sysModules)=false
noncomputable def ad0 (w:World) (a:Addr) (xs:List (PyData×Addr×Value)):HO:=.ext fun h=>∃ o es ep,DicObj w h a xs o es ep
noncomputable def adI (d:PyData):Prop:=jU d=true/\d.depth<=8
noncomputable def EntR (K:ad6) (Hh:Hp) (x:PyData×Addr×Value) (p:PyData×PyData):Prop:=x.1=p.1/\adI x.1/\Rep K Hh x.1 (.ref x.2.1)/\∃ v,Rep K Hh p.2 v/\RelV v x.2.2
theorem EntR.mono {K:ad6} {Hh Hh':Hp} (s:Same Hh Hh'):∀ {xs:List (PyData×Addr×Value)} {kvs:List (PyData×PyData)},Paired (EntR K Hh) xs kvs->Paired (EntR K Hh') xs kvs
 | _,_,.nil=>.nil
 | _,_,.cons ⟨h1,h2,h3,v,h4,h5⟩ t=>.cons ⟨h1,h2,Rep.mono s _ _ h3,v,Rep.mono s _ _ h4,h5⟩ (EntR.mono s t)
noncomputable def OwnAt (w:World) (K:ad6) (Hh H:Hp) (D:Addr):OC->Prop
 | .lst es=>∃ vs,H D=some (.lst vs)/\Reps K Hh es vs
 | .set ks=>∃ xs:List (PyData×Addr),H D=some (adZ w D xs)/\(∀ x∈xs,adI x.1/\Rep K Hh x.1 (.ref x.2))/\(∀ d,d∈xs.map (·.1)↔d∈ks)/\xs.length<=ks.length
 | .dic kvs=>∃ xs:List (PyData×Addr×Value),H D=some (ad0 w D xs)/\Paired (EntR K Hh) xs kvs
theorem OwnAt.mono {w:World} {K:ad6} {Hh Hh' H H':Hp} {D:Addr} (e:H' D=H D) (s:Same Hh Hh'):∀ {c:OC},OwnAt w K Hh H D c->OwnAt w K Hh' H' D c
 | .lst es,⟨vs,h1,h2⟩=>⟨vs,e.trans h1,Reps.mono s es vs h2⟩
 | .set ks,⟨xs,h1,h2,h3⟩=>⟨xs,e.trans h1,fun x hx=>⟨(h2 x hx).1,Rep.mono s _ _ (h2 x hx).2⟩,h3⟩
 | .dic kvs,⟨xs,h1,h2⟩=>⟨xs,e.trans h1,EntR.mono s h2⟩
noncomputable def Fx.withs (f:Fx) (Ds:List Addr):Fx:={ f with M:=Ds.reverse++f.M }
theorem zL (f:Fx) (Ds:List Addr) (D:Addr):f.withs (Ds++[D])=(f.withs Ds).with D:=by
 unfold Fx.withs Fx.with
 rw [afv]
 rfl
structure CM (w:World) (K:ad6) (f:Fx) (Ds:List Addr) (H2:Hp) (ρ:zi) (cs:List OC) (σ:St) (H:Hp):Prop where
 env:EnvOk K (f.withs Ds) ρ σ H
 sm:Same (hide H2 (f.withs Ds)) (hide H (f.withs Ds))
 kp:∀ b∈f.M,H b=H2 b
 len:cs.length=Ds.length
 own:∀ (i:Nat) D c,Ds[i]?=some D->cs[i]?=some c->OwnAt w K (hide H (f.withs Ds)) H D c
structure Sep (f:Fx) (Ds:List Addr):Prop where
 nd:Ds.Nodup
 nf:∀ D∈Ds,f.f≠some D
 nm:∀ D∈Ds,D∉f.M
section
variable {w:World} {K:ad6} {f:Fx} {Ds:List Addr} {H H' H2:Hp} {ρ ρ2:zi} {cs:List OC} {σ σ2:St} {i:Nat} {D:Addr} {c:OC} {o:HO}
theorem yq (hD:D∈Ds):D∈(f.withs Ds).M:=aeR _ (afp.mpr hD)
theorem zQ (hD:D∈Ds):hide (upd H D o) (f.withs Ds)=hide H (f.withs Ds):=by
 funext b
 unfold hide
 by_cases h:(f.withs Ds).f=some b \/ b∈(f.withs Ds).M
 ·rw [if_pos h,if_pos h]
 ·rw [if_neg h,if_neg h,zm fun (z:b=D)=>h (.inr (z▸yq hD))]
theorem CM.go (x:CM w K f Ds H2 ρ cs σ H) (g:Goes (f.withs Ds) H H') (e2:EnvOk K (f.withs Ds) ρ2 σ2 H'):CM w K f Ds H2 ρ2 cs σ2 H' :=
 ⟨e2,x.sm.trans g.sm,fun b hb=>(g.kp b (aei _ hb)).trans (x.kp b hb),x.len,fun i D c h1 h2=>(x.own i D c h1 h2).mono (g.kp D (yq (aem h1))) g.sm⟩
theorem CM.self (x:CM w K f Ds H2 ρ cs σ H):CM w K f Ds H ρ cs σ H:=⟨x.env,Same.refl _,fun _ _=>rfl,x.len,x.own⟩
theorem CM.trans {cs':List OC} {ρ':zi} {σ':St} (x:CM w K f Ds H2 ρ cs σ H) (y:CM w K f Ds H ρ' cs' σ' H'):CM w K f Ds H2 ρ' cs' σ' H':=⟨y.env,x.sm.trans y.sm,fun b hb=>(y.kp b hb).trans (x.kp b hb),y.len,y.own⟩
theorem abK (se:Sep f Ds) (hD:D∈Ds) (h:FOk (f.withs Ds) H):FOk (f.withs Ds) (upd H D o) :=
 ⟨fun p e=>let⟨a,b,h1,h2⟩:=h.fd p e;⟨a,b,by rw [zm (fun (z:p=D)=>se.nf D hD (z▸e))];exact h1,h2⟩,fun b hb=>by
  by_cases e:b=D
  ·exact⟨o,by rw [e];exact zp⟩
  ·obtain⟨u,hu⟩:=h.mm b hb
   exact⟨u,by rw [zm e];exact hu⟩,h.nm⟩
theorem abL (se:Sep f Ds) (hD:D∈Ds) (e:EnvOk K (f.withs Ds) ρ σ H):EnvOk K (f.withs Ds) ρ σ (upd H D o) :=
 ⟨e.len,fun i x h=>by
  obtain⟨v,h1,h2⟩:=e.get i x h
  refine⟨v,h1,?_⟩
  cases x with
  | dat d =>
   show Rep K (hide (upd H D o) (f.withs Ds)) d v
   rw [zQ hD]
   exact h2
  | feed=>exact h2
  | own k=>exact h2
  | exc C =>
   obtain⟨a,e1,q⟩:=h2
   exact⟨a,e1,by rw [zQ hD];exact q⟩
  | mon φ =>
   intro H' s
   rw [zQ hD] at s
   exact h2 H' s,abK se hD e.fd⟩
theorem CM.put {c':OC} (se:Sep f Ds) (x:CM w K f Ds H2 ρ cs σ H) (hi:Ds[i]?=some D) (ho:OwnAt w K (hide H (f.withs Ds)) (upd H D o) D c'):CM w K f Ds H2 ρ (cs.set i c') σ (upd H D o):=by
 have hD:=aem hi
 refine⟨abL se hD x.env,by rw [zQ hD];exact x.sm,fun b hb=>(zm (fun (z:b=D)=>se.nm D hD (z▸hb))).trans (x.kp b hb),by rw [afa];exact x.len,fun j D' c h1 h2=>?_⟩
 rw [zQ hD]
 by_cases e:i=j
 ·subst e
  rw [hi] at h1
  cases h1
  have hl:i<cs.length:=by rw [x.len];exact (ad9.mp hi).1
  rw [aeD hl] at h2
  cases h2
  exact ho
 ·rw [aeS e] at h2
  have ne:D'≠D:=fun z=>by
   subst z
   obtain⟨l1,e1⟩:=ad9.mp hi
   obtain⟨l2,e2⟩:=ad9.mp h1
   exact e ((List.getElem_inj se.nd).mp (e1.trans e2.symm))
  exact (x.own j D' c h1 h2).mono (zm ne) (Same.refl _)
end
structure MEnds where
 nx:zi->List OC->Prop
 rt:PyData->Prop
 bk:zi->List OC->Prop:=fun _ _=>False
 ct:zi->List OC->Prop:=fun _ _=>False
noncomputable def PSm (w:World) (K:ad6) (f:Fx) (Ds:List Addr) (ts:TS) (ρ:zi) (cs:List OC) (O:MEnds):Prop:=Sep f Ds->∀ (σ:St) (H H2:Hp) (E:Ends),CM w K f Ds H2 ρ cs σ H ->
 (∀ ρ' cs' σ' H',CM w K f Ds H2 ρ' cs' σ' H'->O.nx ρ' cs'->E.nx σ' H')->(∀ d v ρ' cs' σ' H',CM w K f Ds H2 ρ' cs' σ' H'->Rep K (hide H' f) d v->O.rt d->E.rt v H') ->
 (∀ ρ' cs' σ' H',CM w K f Ds H2 ρ' cs' σ' H'->O.bk ρ' cs'->E.bk σ' H')->(∀ ρ' cs' σ' H',CM w K f Ds H2 ρ' cs' σ' H'->O.ct ρ' cs'->E.ct σ' H')->ts E σ H
noncomputable def PTm (w:World) (K:ad6) (f:Fx) (Ds:List Addr) (tt:TT) (ρ:zi) (cs:List OC) (B:Bool->Prop):Prop:=Sep f Ds->∀ (σ:St) (H H2:Hp) (Q:Bool->Hp->Prop),CM w K f Ds H2 ρ cs σ H->(∀ b H',Goes (f.withs Ds) H H'->B b->Q b H')->tt σ H Q
noncomputable def PEm (w:World) (K:ad6) (f:Fx) (Ds:List Addr) (te:TE) (ρ:zi) (cs:List OC) (P:PyData->Prop):Prop:=Sep f Ds->∀ (σ:St) (H H2:Hp) (Q:VK),CM w K f Ds H2 ρ cs σ H->(∀ d v H',Goes (f.withs Ds) H H'->Rep K (hide H' (f.withs Ds)) d v->P d->Q v H')->te σ H Q
noncomputable def adJ (w:World) (K:ad6) (f:Fx) (te:TE) (ρ:zi) (P:OC->Prop):Prop:=∀ (σ:St) (H:Hp) (Q:VK),EnvOk K f ρ σ H ->
 (∀ c D H',Goes f H H'->H D=none->OwnAt w K (hide H' (f.with D)) H' D c->P c->Q (.ref D) H')->te σ H Q
section
variable {w:World} {K:ad6} {f:Fx} {Ds:List Addr} {ρ:zi} {cs:List OC} {ts tu:TS} {tt:TT} {te:TE} {wi:TI} {g:TG} {O:MEnds} {i j:Nat}
theorem same_withs {H:Hp}:Same (hide H (f.withs Ds)) (hide H f):=fun b o h=>by
 obtain⟨h1,h2⟩:=zr h
 exact zo (fun z=>h1 (z.elim .inl fun z=>.inr (aei _ z))) h2
theorem aa2 {D:DEnds} (h:PSm w K f [] ts ρ [] { nx:=fun ρ' _=>D.nx ρ',rt:=D.rt,bk:=fun ρ' _=>D.bk ρ',ct:=fun ρ' _=>D.ct ρ' }):PSd K f ts ρ D:=fun σ H E e n r b k=>by
 have gg:∀ {ρ':zi} {cs':List OC} {σ':St} {H':Hp},CM w K f [] H ρ' cs' σ' H'->Goes f H H':=fun x=>⟨x.sm,x.env.fd,x.kp⟩
 exact h ⟨List.nodup_nil,(fun _ z=>nomatch z),(fun _ z=>nomatch z)⟩ σ H H E ⟨e,Same.refl _,fun _ _=>rfl,rfl,(fun i D c z=>nomatch z)⟩
  (fun ρ' cs' σ' H' x p=>n ρ' σ' H' (gg x) x.env p) (fun d v ρ' cs' σ' H' x r' p=>r d v H' (gg x) r' p) (fun ρ' cs' σ' H' x p=>b ρ' σ' H' (gg x) x.env p) (fun ρ' cs' σ' H' x p=>k ρ' σ' H' (gg x) x.env p)
theorem jV (h:PSm w K f Ds ts ρ cs { O with nx:=fun ρ' cs'=>PSm w K f Ds tu ρ' cs' O }):PSm w K f Ds (qo ts tu) ρ cs O:=fun se σ H H2 E x n r b k =>
 h se σ H H2 _ x (fun ρ' cs' σ' H' x' p=>p se σ' H' H2 E x' n r b k) r b k
theorem adK {B:Bool->Prop} (h:PTd K (f.withs Ds) tt ρ B):PTm w K f Ds tt ρ cs B:=fun se σ H H2 Q x q=>h σ H Q x.env q
theorem qS {P:PyData->Prop} (h:PEd K (f.withs Ds) te ρ P):PEm w K f Ds te ρ cs P:=fun se σ H H2 Q x q=>h σ H Q x.env q
theorem adL (h:PId K (f.withs Ds) wi ρ fun ds=>∃ J:Nat->zi->List OC->Prop,J 0 ρ cs /\
   (∀ (i:Nat) d ρ' cs',ds[i]?=some d->J i ρ' cs'->PGd K (f.withs Ds) g d ρ' fun ρ2=>PSm w K f Ds ts ρ2 cs' { O with nx:=J (i+1),ct:=J (i+1),bk:=O.nx })/\∀ ρ' cs',J ds.length ρ' cs'->O.nx ρ' cs') :
  PSm w K f Ds (abt wi g ts) ρ cs O:=fun se σ H H2 E x n r b k=>h σ H _ x.env fun ds J H1 g1 it ⟨Jv,j0,js,jd⟩=>by
 have x1:=x.go g1 (x.env.mono g1)
 refine⟨fun i m σ' H'=>∃ ρ' cs',CM w K f Ds H2 ρ' cs' σ' H'/\Same (hide H1 (f.withs Ds)) (hide H' (f.withs Ds))/\Jv i ρ' cs'/\m+i=ds.length,⟨ds.length,ρ,cs,x1,Same.refl _,j0,rfl⟩,fun i m σ' H' ⟨ρ',cs',x',sm',p,hm⟩=>?_⟩
 by_cases hi:i<ds.length
 ·obtain⟨hgo,hy⟩:=it.go (f.withs Ds) H' i _ x'.env.fd sm' (ad7 hi)
  refine .inr ⟨hgo,fun σ2 H3=>∃ ρ2 cs2,CM w K f Ds H2 ρ2 cs2 σ2 H3/\Same (hide H1 (f.withs Ds)) (hide H3 (f.withs Ds))/\Jv (i+1) ρ2 cs2,fun σ2 H3 ⟨ρ2,cs2,e2,g2,p2⟩=>⟨m - 1,by omega,ρ2,cs2,e2,g2,p2,by omega⟩,fun v H3 hx=>?_⟩
  obtain⟨g3,r3⟩:=hy v H3 hx
  have x3:=x'.go g3 (x'.env.mono g3)
  refine js i _ ρ' cs' (ad7 hi) p σ' H3 v _ x3.env r3 fun ρ2 σ2 H4 g4 e4 p4=>?_
  have x4:=x3.go g4 e4
  have sm4:=(sm'.trans g3.sm).trans g4.sm
  exact p4 se σ2 H4 H4 _ x4.self (fun ρ5 cs5 σ5 H5 x5 p5=>⟨ρ5,cs5,x4.trans x5,sm4.trans x5.sm,p5⟩) (fun d v ρ5 cs5 σ5 H5 x5 r5 p5=>r d v ρ5 cs5 σ5 H5 (x4.trans x5) r5 p5) (fun ρ5 cs5 σ5 H5 x5 p5=>n ρ5 cs5 σ5 H5 (x4.trans x5) p5) (fun ρ5 cs5 σ5 H5 x5 p5=>⟨ρ5,cs5,x4.trans x5,sm4.trans x5.sm,p5⟩)
 ·have ei:i=ds.length:=by omega
  subst ei
  exact .inl ⟨it.st (f.withs Ds) H' x'.env.fd sm',n ρ' cs' σ' H' x' (jd ρ' cs' p)⟩
theorem abM {tb:TS} (J:zi->List OC->Prop) (μ:zi->List OC->Nat) (h0:J ρ cs)
  (hs:∀ ρ' cs',J ρ' cs'->PTm w K f Ds tt ρ' cs' fun b=>if b=true then PSm w K f Ds tb ρ' cs' { O with nx:=fun r c=>J r c/\μ r c<μ ρ' cs',ct:=fun r c=>J r c/\μ r c<μ ρ' cs',bk:=O.nx } else O.nx ρ' cs'):PSm w K f Ds (aaB tt tb) ρ cs O:=fun se σ H H2 E x n r b k=>by
 refine⟨fun m σ' H'=>∃ ρ' cs',CM w K f Ds H2 ρ' cs' σ' H'/\J ρ' cs'/\m=μ ρ' cs',⟨_,ρ,cs,x,h0,rfl⟩,?_⟩
 rintro m σ1 H1 ⟨ρ1,cs1,x1,j1,rfl⟩
 refine hs ρ1 cs1 j1 se σ1 H1 H2 _ x1 fun t H3 g3 p=>?_
 have x3:=x1.go g3 (x1.env.mono g3)
 cases t with
 | true =>
  rw [if_pos rfl] at p ⊢
  refine⟨fun σ' H'=>∃ ρ' cs',CM w K f Ds H2 ρ' cs' σ' H'/\J ρ' cs'/\μ ρ' cs'<μ ρ1 cs1,fun σ' H' ⟨ρ',cs',x',j',l'⟩=>⟨_,l',ρ',cs',x',j',rfl⟩,?_⟩
  exact p se σ1 H3 H2 _ x3 (fun ρ5 cs5 σ5 H5 x5 p5=>⟨ρ5,cs5,x5,p5⟩) r (fun ρ5 cs5 σ5 H5 x5 p5=>n ρ5 cs5 σ5 H5 x5 p5) (fun ρ5 cs5 σ5 H5 x5 p5=>⟨ρ5,cs5,x5,p5⟩)
 | false =>
  rw [if_neg aef] at p ⊢
  exact n ρ1 cs1 σ1 H3 x3 p
theorem qz {σ:St} {H H2:Hp} {D:Addr} (hi:ρ[i]?=some (some (.own (f.M.length+j)))) (x:CM w K f Ds H2 ρ cs σ H) (hD:Ds[j]?=some D):σ[i]?=some (some (.ref D)):=by
 obtain⟨v,h1,p,h2,rfl⟩:=x.env.get i _ hi
 have e:(f.withs Ds).M.reverse[f.M.length+j]?=some D:=by
  show (Ds.reverse++f.M).reverse[f.M.length+j]?=some D
  rw [afv,afr,aec (by simp)]
  simpa using hD
 rw [e] at h2
 cases h2
 exact h1
theorem aa3 {es:List PyData} (hi:ρ[i]?=some (some (.own (f.M.length+j)))) (hc:cs[j]?=some (.lst es)) (hl:es.length<1000) (h:PEm w K f Ds te ρ cs fun d=>O.nx ρ (cs.set j (.lst (es++[d])))):PSm w K f Ds (aay (tBM K "list" qu (yG i) (y7 te vh))) ρ cs O:=fun se σ H H2 E x n r b k=>by
 have hj:j<Ds.length:=by rw [<-x.len];exact (ad9.mp hc).1
 have hD:Ds[j]?=some Ds[j]:=ad7 hj
 obtain⟨vs0,h0,_⟩:=x.own j _ _ hD hc
 refine⟨_,qz hi x hD,Or.inl ⟨rfl,vs0,.of h0⟩,?_⟩
 refine h se σ H H2 _ x fun d v H1 g1 r1 p1=>?_
 have x1:=x.go g1 (x.env.mono g1)
 obtain⟨vs,h1,h2⟩:=x1.own j _ _ hD hc
 refine⟨_,vs,v,rfl,rfl,h1,zW (by rw [h2.length];omega),n _ _ _ _ (x1.put se hD (o:=.lst (vs++[v])) (c':=.lst (es++[d])) ⟨vs++[v],zp,h2.snoc r1⟩) p1⟩
theorem CM.more {σ:St} {H H1 H2:Hp} {D:Addr} {c:OC} (x:CM w K f Ds H2 ρ cs σ H) (g:Goes (f.withs Ds) H H1) (hn:H D=none) (ho:OwnAt w K (hide H1 ((f.withs Ds).with D)) H1 D c) (hi:i<ρ.length) :
  CM w K f (Ds++[D]) H1 (ρ.set i (some (.own (f.M.length+Ds.length)))) (cs++[c]) (σ.set i (some (.ref D))) H1:=by
 have nD:¬ ((f.withs Ds).f=some D \/ D∈(f.withs Ds).M):=fresh_ne x.env.fd hn
 have sm0:Same (hide H (f.withs Ds)) (hide H1 (f.withs (Ds++[D]))):=fun b o hb=>by
  have hb1:=g.sm b o hb
  rw [zL]
  refine zo (fun z=>?_) (zr hb1).2
  rcases z with z | z
  ·exact (zr hb1).1 (.inl z)
  ·rcases aek.mp z with rfl | z
   ·have:=(zr hb).2
    rw [hn] at this
    cases this
   ·exact (zr hb1).1 (.inr z)
 have hD1:∃ o,H1 D=some o:=by
  cases c with
  | lst es=>exact⟨_,ho.choose_spec.1⟩
  | set ks=>exact⟨_,ho.choose_spec.1⟩
  | dic kvs=>exact⟨_,ho.choose_spec.1⟩
 have fo1:FOk (f.withs (Ds++[D])) H1:=by
  rw [zL]
  refine⟨g.ok.fd,fun b hb=>?_,fun q eq hq=>?_⟩
  ·rcases aek.mp hb with rfl | hb
   ·exact hD1
   ·exact g.ok.mm b hb
  ·rcases aek.mp hq with rfl | hq
   ·exact nD (.inl eq)
   ·exact g.ok.nm q eq hq
 have rev:(f.withs (Ds++[D])).M.reverse=(f.withs Ds).M.reverse++[D]:=by
  rw [zL]
  show (D :: (f.withs Ds).M).reverse=_
  rw [aen]
 have lenr:(f.withs Ds).M.reverse.length=f.M.length+Ds.length:=by
  show (Ds.reverse++f.M).reverse.length=_
  simp
 have e1:EnvOk K (f.withs (Ds++[D])) ρ σ H1:=⟨x.env.len,fun q y hy=>by
  obtain⟨v,a1,a2⟩:=x.env.get q y hy
  refine⟨v,a1,?_⟩
  cases y with
  | dat d=>exact Rep.mono sm0 d v a2
  | feed=>exact a2
  | exc C =>
   obtain⟨b,h3,h4⟩:=a2
   exact⟨b,h3,sm0 _ _ h4⟩
  | mon φ=>exact fun H' s=>a2 H' (sm0.trans s)
  | own k =>
   obtain⟨b,h3,h4⟩:=a2
   refine⟨b,?_,h4⟩
   rw [rev,ad8 (ad9.mp h3).1]
   exact h3,fo1⟩
 have rv:RepV K (f.withs (Ds++[D])) H1 (.own (f.M.length+Ds.length)) (.ref D):=⟨D,by
  rw [rev,aec (by omega),lenr,ae8]
  rfl,rfl⟩
 refine⟨e1.set i rv,Same.refl _,fun _ _=>rfl,by simp [x.len],fun q D' c' h1 h2=>?_⟩
 by_cases hq:q<Ds.length
 ·rw [ad8 hq] at h1
  rw [ad8 (by rw [x.len];exact hq)] at h2
  exact (x.own q D' c' h1 h2).mono (g.kp D' (yq (aem h1))) sm0
 ·by_cases hq2:q=Ds.length
  ·subst hq2
   rw [aec (aej _),ae8] at h1
   rw [aec (by rw [x.len];exact aej _),x.len,ae8] at h2
   cases h1
   cases h2
   rw [zL]
   exact ho
  ·rw [aeG (by simp;omega)] at h1
   cases h1
theorem Sep.more {H:Hp} {D:Addr} (se:Sep f Ds) (fo:FOk (f.withs Ds) H) (hn:H D=none):Sep f (Ds++[D]):=by
 have nD:=fresh_ne fo hn
 refine⟨List.nodup_append.mpr ⟨se.nd,by simp,fun a ha b hb=>?_⟩,fun D' h=>?_,fun D' h=>?_⟩
 ·rw [aey.mp hb]
  intro z
  exact nD (.inr (yq (z▸ha)))
 ·rcases aeA.mp h with h | h
  ·exact se.nf D' h
  ·rw [aey.mp h];exact fun z=>nD (.inl z)
 ·rcases aeA.mp h with h | h
  ·exact se.nm D' h
  ·rw [aey.mp h];exact fun z=>nD (.inr (aei _ z))
theorem CM.less {σ σ':St} {H H1 H2 H':Hp} {D:Addr} {ρ':zi} {cs':List OC} (x:CM w K f Ds H2 ρ cs σ H) (g:Goes (f.withs Ds) H H1) (hn:H D=none) (y:CM w K f (Ds++[D]) H1 ρ' cs' σ' H') :
  CM w K f Ds H2 (ρ'.map (yk (f.M.length+Ds.length))) (cs'.take Ds.length) σ' H':=by
 have sub:Same (hide H' (f.withs (Ds++[D]))) (hide H' (f.withs Ds)):=by rw [zL];exact same_with
 have sm1:Same (hide H (f.withs Ds)) (hide H1 (f.withs (Ds++[D]))):=fun b o hb=>by
  have hb1:=g.sm b o hb
  rw [zL]
  refine zo (fun z=>?_) (zr hb1).2
  rcases z with z | z
  ·exact (zr hb1).1 (.inl z)
  ·rcases aek.mp z with rfl | z
   ·have:=(zr hb).2
    rw [hn] at this
    cases this
   ·exact (zr hb1).1 (.inr z)
 have lenr:(f.withs Ds).M.reverse.length=f.M.length+Ds.length:=by
  show (Ds.reverse++f.M).reverse.length=_
  simp
 have rev:(f.withs (Ds++[D])).M.reverse=(f.withs Ds).M.reverse++[D]:=by
  rw [zL]
  show (D :: (f.withs Ds).M).reverse=_
  rw [aen]
 have fo:FOk (f.withs Ds) H':=by
  have h:=y.env.fd
  rw [zL] at h
  exact⟨h.fd,fun b hb=>h.mm b (aeb _ hb),fun p e hp=>h.nm p e (aeb _ hp)⟩
 refine⟨⟨by rw [ad5];exact y.env.len,fun q z hz=>?_,fo⟩,(x.sm.trans sm1).trans (y.sm.trans sub),fun b hb=>(y.kp b hb).trans ((g.kp b (aei _ hb)).trans (x.kp b hb)),?_,fun q D' c' h1 h2=>?_⟩
 ·rw [aee] at hz
  cases e:ρ'[q]? with
  | none=>rw [e] at hz;cases hz
  | some z0 =>
   rw [e] at hz
   cases z0 with
   | none=>cases hz
   | some z0 =>
    obtain⟨v,a1,a2⟩:=y.env.get q z0 e
    cases z0 with
    | dat d =>
     cases hz
     exact⟨v,a1,Rep.mono sub d v a2⟩
    | feed =>
     cases hz
     rw [zL] at a2
     exact⟨v,a1,a2⟩
    | exc C =>
     cases hz
     obtain⟨b,h3,h4⟩:=a2
     exact⟨v,a1,b,h3,sub _ _ h4⟩
    | mon φ =>
     cases hz
     exact⟨v,a1,fun H' s=>a2 H' (sub.trans s)⟩
    | own k =>
     have hz':(if k<f.M.length+Ds.length then some (DV.own k) else none)=some z:=Option.some.inj hz
     by_cases hk:k<f.M.length+Ds.length
     ·rw [if_pos hk] at hz'
      cases hz'
      obtain⟨b,h3,h4⟩:=a2
      refine⟨v,a1,b,?_,h4⟩
      rw [rev,ad8 (by omega)] at h3
      exact h3
     ·rw [if_neg hk] at hz'
      cases hz'
 ·rw [aeH,y.len]
  simp
 ·have hq:q<Ds.length:=(ad9.mp h1).1
  rw [aeK hq] at h2
  exact (y.own q D' c' (by rw [ad8 hq];exact h1) h2).mono rfl sub
theorem aa4 (h:adJ w K (f.withs Ds) te ρ fun c=>i<ρ.length/\∀ D,PSm w K f (Ds++[D]) ts (ρ.set i (some (.own (f.M.length+Ds.length)))) (cs++[c]) { nx:=fun ρ' cs'=>O.nx (ρ'.map (yk (f.M.length+Ds.length))) (cs'.take Ds.length),rt:=O.rt,bk:=fun ρ' cs'=>O.bk (ρ'.map (yk (f.M.length+Ds.length))) (cs'.take Ds.length),ct:=fun ρ' cs'=>O.ct (ρ'.map (yk (f.M.length+Ds.length))) (cs'.take Ds.length) }) :
  PSm w K f Ds (qo (jh te (yV i)) ts) ρ cs O:=fun se σ H H2 E x n r b k =>
 h σ H _ x.env fun c D H1 g1 hn ho ⟨hi,p⟩ =>
  p D (se.more x.env.fd hn) _ H1 H1 E (x.more g1 hn ho hi) (fun ρ' cs' σ' H' y q=>n _ _ σ' H' (x.less g1 hn y) q) (fun d v ρ' cs' σ' H' y r' q=>r d v _ _ σ' H' (x.less g1 hn y) r' q) (fun ρ' cs' σ' H' y q=>b _ _ σ' H' (x.less g1 hn y) q) (fun ρ' cs' σ' H' y q=>k _ _ σ' H' (x.less g1 hn y) q)
theorem qA {P:OC->Prop} (h:PEdO K f te ρ fun es=>P (.lst es)):adJ w K f te ρ P:=fun σ H Q e q=>h σ H Q e fun es D vs H' g hn h1 rs p=>q (.lst es) D H' g hn ⟨vs,h1,rs⟩ p
noncomputable def freed (n:Nat) (cs:List OC):Option DV->Option DV
 | some (.own k)=>if k<n then some (.own k) else match cs[k - n]? with
  | some (.lst es)=>some (.dat (.list es))
  | _=>none
 | x=>x
theorem CM.free {σ:St} {H H2:Hp} (se:Sep f Ds) (x:CM w K f Ds H2 ρ cs σ H):EnvOk K f (ρ.map (freed f.M.length cs)) σ H:=by
 have fo:FOk f H:=⟨x.env.fd.fd,fun b hb=>x.env.fd.mm b (aei _ hb),fun p e hp=>x.env.fd.nm p e (aei _ hp)⟩
 refine⟨by rw [ad5];exact x.env.len,fun q z hz=>?_,fo⟩
 rw [aee] at hz
 cases e:ρ[q]? with
 | none=>rw [e] at hz;cases hz
 | some z0 =>
  rw [e] at hz
  cases z0 with
  | none=>cases hz
  | some z0 =>
   obtain⟨v,a1,a2⟩:=x.env.get q z0 e
   cases z0 with
   | dat d =>
    cases hz
    exact⟨v,a1,Rep.mono same_withs d v a2⟩
   | feed =>
    cases hz
    exact⟨v,a1,a2⟩
   | exc C =>
    cases hz
    obtain⟨b,h3,h4⟩:=a2
    exact⟨v,a1,b,h3,same_withs _ _ h4⟩
   | mon φ =>
    cases hz
    exact⟨v,a1,fun H' s=>a2 H' (same_withs.trans s)⟩
   | own k =>
    obtain⟨b,h3,h4⟩:=a2
    have h3':(Ds.reverse++f.M).reverse[k]?=some b:=h3
    rw [afv,afr] at h3'
    have hz':(if k<f.M.length then some (DV.own k) else match cs[k - f.M.length]? with | some (.lst es)=>some (.dat (.list es)) | _=>none)=some z:=Option.some.inj hz
    by_cases hk:k<f.M.length
    ·rw [if_pos hk] at hz'
     cases hz'
     rw [ad8 (by simpa using hk)] at h3'
     exact⟨v,a1,b,h3',h4⟩
    ·rw [if_neg hk] at hz'
     rw [aec (by simpa using Nat.not_lt.mp hk),aeq] at h3'
     cases ec:cs[k - f.M.length]? with
     | none=>rw [ec] at hz';cases hz'
     | some c =>
      rw [ec] at hz'
      cases c with
      | lst es =>
       cases hz'
       obtain⟨vs,h5,h6⟩:=x.own _ _ _ h3' ec
       have hb:=aem h3'
       exact⟨v,a1,rep_list.mpr ⟨b,vs,h4,.of (zo (fun z=>z.elim (se.nf b hb) (se.nm b hb)) h5),Reps.mono same_withs es vs h6⟩⟩
      | set ks=>cases hz'
      | dic kvs=>cases hz'
theorem CM.goF {σ:St} {H H2 H':Hp} (se:Sep f Ds) (x:CM w K f Ds H2 ρ cs σ H) (g:Goes f H H'):CM w K f Ds H2 ρ cs σ H':=by
 have keep:∀ b∈Ds,H' b=H b:=fun b hb=>by
  obtain⟨o,ho⟩:=x.env.fd.mm b (yq hb)
  rw [ho]
  exact (zr (g.sm b o (zo (fun z=>z.elim (se.nf b hb) (se.nm b hb)) ho))).2
 have g2:Goes (f.withs Ds) H H':=⟨fun b o hb=>by
   have hb':=zr hb
   have:=zr (g.sm b o (same_withs b o hb))
   exact zo hb'.1 this.2,⟨g.ok.fd,fun b hb=>by
   rcases aeA.mp hb with hb | hb
   ·obtain⟨o,ho⟩:=x.env.fd.mm b (aeR _ hb)
    exact⟨o,by rw [keep b (afp.mp hb)];exact ho⟩
   ·exact g.ok.mm b hb,x.env.fd.nm⟩,fun b hb=>by
   rcases aeA.mp hb with hb | hb
   ·exact keep b (afp.mp hb)
   ·exact g.kp b hb⟩
 exact x.go g2 (x.env.mono g2)
theorem aa5 (h:PSd K f ts (ρ.map (freed f.M.length cs)) { nx:=fun _=>False,rt:=O.rt }):PSm w K f Ds ts ρ cs O:=fun se σ H H2 E x n r b k =>
 h σ H E (x.free se) (fun _ _ _ _ _ z=>z.elim) (fun d v H' g' r' p=>r d v ρ cs σ H' (x.goF se g') r' p) (fun _ _ _ _ _ z=>z.elim) (fun _ _ _ _ _ z=>z.elim)
end
end L2
end
section
namespace L2
open PySem PySem.Spec PyProof.Rows
end L2
end
section
namespace L2
open PySem PySem.Spec PyProof.Rows
structure MinAt (h0:Heap) (its:List Value) (ds:List PyData) (as:List Addr):Prop where
 ra:ReadsAll h0 its ds as
 pl:∀ d∈ds,jU d=true
 cp:∀ d∈ds,∀ e∈ds,ac7 d e=true
 dp:∀ d∈ds,d.depth<=50
end L2
end
section
namespace L2
open PySem PySem.Spec PyProof.Rows
structure TM (K:ad6) (f:Fx) (a:Addr) (as:List Addr) (H2:Hp) (ρ:zi) (rows:List (List Int)) (σ:St) (H:Hp):Prop where
 env:EnvOk K (f.withs (a :: as)) ρ σ H
 sm:Same (hide H2 (f.withs (a :: as))) (hide H (f.withs (a :: as)))
 kp:∀ b∈f.M,H b=H2 b
 tab:TabAt H a as rows
end L2
end
section
namespace L2
open PySem PySem.Spec PyProof.Rows
section
variable {K:ad6} {f:Fx} {ρ:zi} {ts tu:TS} {O:DEnds} {te:TE} {i:Nat}
theorem qj (J:zi->Prop) (h1:PSd K f ts ρ { O with nx:=J }) (h2:∀ ρ',J ρ'->PSd K f tu ρ' O):PSd K f (qo ts tu) ρ O :=
 yp fun σ H E e n r b k=>h1 σ H E e (fun ρ' σ' H' g' e' p=>n ρ' σ' H' g' e' (h2 ρ' p)) r b k
end
section
variable {K:ad6} {f:Fx} {ρ:zi} {wi:TI} {g:TG} {tt:TT} {own:Nat} {fr:List Nat} {tb:Addr->TB} {P:List PyData->Prop}
theorem ac8 {α:Type} {A B:α->PyData} (p:α->Bool) (xs:List α) (h:PId K f wi ρ fun ds=>ds=xs.map A/\xs.length<=1000 /\
   (∀ D x ρ' es,x∈xs->OwnE own (frD fr ρ) ρ'->es.length<1000->PGd K (f.with D) g (A x) ρ' fun ρ2=>PTd K (f.with D) tt ρ2 fun b=>b=p x/\if b=true then PBd K f D (tb D) ρ2 es fun ρ3 es3=>OwnE own (frD fr ρ) ρ3/\es3=es++[B x] else OwnE own (frD fr ρ) ρ2)/\P ((xs.filter p).map B)) :
  PEdO K f (jL wi own fr g tt tb) ρ P :=
 aaT (h.imp fun ds ⟨ed,hl,hs,hp⟩=>by
  subst ed
  refine⟨fun i ρ' es=>OwnE own (frD fr ρ) ρ'/\es=((xs.take i).filter p).map B,⟨⟨afd own none,by simp,rfl⟩,by simp⟩,fun D i d ρ' es hd ⟨ho,he⟩=>?_,fun ρ' es ⟨_,he⟩=>?_⟩
  ·rw [aee] at hd
   cases eq:xs[i]? with
   | none=>rw [eq] at hd;cases hd
   | some x =>
    rw [eq] at hd
    cases hd
    have hi:i<xs.length:=(ad9.mp eq).1
    have tk:xs.take (i+1)=xs.take i++[x]:=by rw [afI,eq];rfl
    have hb:es.length<1000:=by
     have:=List.length_filter_le p (xs.take i)
     rw [aeH] at this
     rw [he,ad5]
     omega
    intro σ H v Q e r q
    refine hs D x ρ' es (aem eq) ho hb σ H v Q e r fun ρ2 σ2 H2 g2 e2 p2=>q ρ2 σ2 H2 g2 e2 (p2.imp fun b hb2=>?_)
    obtain⟨eb,hb2⟩:=hb2
    cases b with
    | false =>
     rw [if_neg aef] at hb2 ⊢
     refine⟨hb2,?_⟩
     rw [tk,List.filter_append,aeE,List.filter_cons,<- eb,if_neg aef,he]
     simp
    | true =>
     rw [if_pos rfl] at hb2 ⊢
     intro h1 h2 σ3 H3 H4 W c k
     exact hb2 h1 h2 σ3 H3 H4 W c fun ρ5 es5 σ5 H5 c5 ⟨o5,p5⟩=>k ρ5 es5 σ5 H5 c5 ⟨o5,by rw [p5,he,tk,List.filter_append,aeE,List.filter_cons,<- eb,if_pos rfl];rfl⟩
  ·rw [he,ad5,afL]
   exact hp)
end
end L2
end
section
namespace L2
open PySem PySem.Spec PyProof.Rows
end L2
end
section
namespace L2
open PySem PySem.Spec PyProof.Rows
end L2
end
section
namespace L2
open PySem PySem.Spec PyProof.Rows
open PySem.SeqAt
open PySem.AutoSeq1 (wpAny_loadPart')
noncomputable def ad1 (A:Around) (s:Shared) (y x:Value) (b:Bool):Prop :=
 ∀ (prog:Program) (w:World) (E:Value->Shared->Prop) (Q:Value->Shared->Prop),Q (.bool b) s->wpAny (model prog w) A (richCompare .GtE y x) Q E s
inductive Gex (A:Around) (s:Shared):List Value->List Value->Bool->Prop where
 | nn:Gex A s [] [] true
 | eq {v w vs ws b}:EqAt A s v w true->Gex A s vs ws b->Gex A s (v :: vs) (w :: ws) b
 | ge {v w vs ws b}:EqAt A s v w false->ad1 A s v w b->vs.length=ws.length->Gex A s (v :: vs) (w :: ws) b
noncomputable def ad2 (o:Obj):Option Value:=match o.data with
 | .fields vs=>vs[2]?
 | _=>none
local macro_rules | `(tactic| walk_at "kd")=>`(tactic| with_reducible first
  | assumption
  | exact kd_pure _
  | exact kd_uns _
  | exact kd_load _
  | exact kd_loadPart _ _
  | exact kd_stack
  | exact kd_alloc _
  | exact kd_reg _
  | apply kd_ite
  | apply kd_bind
  | intro _
  | split)
noncomputable def Dct (a:Addr) (o:Option Addr) (h:Heap):Prop:=∃ u,h.get? a=some u/\ad2 u=some .none/\∀ dx,o=some dx->u.dict=some dx
noncomputable def CXf (P:Program) (w:World):CXT:=fun outer H s E e s'=>∃ a C o H',e=.ref a/\XLie P w outer H s a C H' s'/\Dct a o s'.heap/\E C o H'
noncomputable def acs (a:Addr) (C:Value) (o:Option Addr) (h:Heap):Prop:=∃ t,h.get? a=some { cls:=C,dict:=o,data:=.fields #[.ref t,.none,.none,.none,.bool false,.none] }
end L2
end
section
namespace L2
open PySem PySem.Spec PyProof.Rows PySem.Builtin Builtin Builtin.ObjectAttr
noncomputable def aa6 (K:ad6) (C f:Addr) (bmB:List Value) (newId:String):Bool :=
 match K.lookup C with
 | some ⟨c0,_,.cls cd,sl⟩=>c0 == .type "type" && cd.mro.head? == some (.ref C) && cd.hasDel == false && cd.hasDict && PySem.W.tailIn K bmB cd.mro.tail && PySem.W.nsOkIn K cd.ns && aeT K cd.ns "__init__" == some (some (.ref f))
   && sl.toList.length == 6 && sl.toList[4]? == some (some (.builtin newId))
 | _=>false
structure XCls (h:Heap) (C f:Addr) (bmB:List Value) (newId:String):Prop where
 ex:∃ nm q N bs bm sn sub ab col dd k0 k1 k2 k3 k5 mN,h.get? C=some (excClassObj nm q C N bs bm true sn sub ab col dd k0 k1 k2 k3 k5 newId)/\h.Ns N mN/\mN "__init__"=some (.ref f)/\OwnTail h bmB bm
end L2
end
section
namespace L2
open PySem PySem.Spec PySem.W PyProof.Rows PySem.Calls PySem.Builtin Builtin Builtin.ObjectAttr
noncomputable abbrev bare (C:Addr) (o:Option Addr) (t:Addr):Obj:={ cls:=.ref C,dict:=o,data:=.fields #[.ref t,.none,.none,.none,.bool false,.none] }
noncomputable abbrev bmV:List Value:=[.type "ValueError",.type "Exception",.type "BaseException",.type "object"]
structure FldC (K:ad6) (C f D:Addr) (name:Str):Prop where
 wi:aa6 K C f bmV "ValueError.__new__"=true
 fn:PySem.W.typeIn K (.ref f)=some (.type "function")
 ob:PySem.W.mroIn K C (.type "object")=some true
 sa:aeZ K (.ref C) "__setattr__"=some (some (.builtin "object.__setattr__"))
 na:aeZ K (.ref C) name=some none
 rd:PySem.W.readsIn K D (.type "type")=true
 sp:afH K (.ref D) "__getattribute__"=some (some (.builtin "type.__getattribute__"))
 kp:aex K (.ref C)=true
 fi:PySem.W.findCls K (.ref D) (.type "type") "__init__"=some (.val (.builtin "ValueError.__init__"))
section
variable {X:Cx} {pins:List (Addr×Obj)} {σ:St} {H H':Hp} {s s':Shared} {h':Heap} {a b dx C D f:Addr} {o:HO} {t':Nat} {name:Str}
noncomputable def ac9 (C:Addr) (name:Str):Sp:=fun vs H Q _=>∃ a y,vs=[.ref a,y]/\H a=some (.ext (acs a (.ref C) none))/\∀ dx,H dx=none->dx≠a->Q .non (upd (upd H dx (.xd [(name,y)])) a (.ext (acs a (.ref C) (some dx))))
end
end L2
end
section
namespace L2
open PySem PySem.Spec PyProof.Rows
end L2
end
section
namespace L2
open PySem PySem.Spec PySem.W PyProof.Rows PySem.Calls PySem.Builtin Builtin Builtin.ObjectAttr Builtin.Getset_descriptor
noncomputable abbrev XD:=Option (Str×PyData)
structure FnInF (P:Program) (w:World) (K:ad6) (mg:Str->Option Value) (base:Heap) (k:Nat) (x:Str) (ps:List Str) (sp:Sp):Prop where
 ex:∃ (f:Addr) (fd:FuncData),FnOk P w K mg base (CXf P w) k f fd ps sp/\mg x=some (.ref f)/\aex K (.ref f)=true/\Binds K fd ps []
structure FCls (K:ad6) (mg:Str->Option Value) (x base:Str) (C:Addr) (name:Str) (st:Stmt) (ps:List Str):Prop where
 ex:∃ (f D:Addr) (fd:FuncData),FldC K C f D name/\mg x=some (.ref C)/\mg base=some (.ref D)/\Fun K "__init__" (x ++ ".__init__") st f fd/\Binds K fd ps []
structure InitOk (P:Program) (w:World) (K:ad6) (mg:Str->Option Value) (base:Heap) (k:Nat) (C:Addr) (name:Str):Prop where
 ex:∃ (f D:Addr) (fd:FuncData) (ps:List Str),FldC K C f D name/\FnOk P w K mg base CX0 k f fd ps (ac9 C name)/\Binds K fd ps []
section
variable {w:World} {K:ad6} {f:Fx} {Ds:List Addr} {ts:TS} {te tk:TE} {ρ:zi} {cs:List OC} {O:MEnds} {i j n:Nat}
theorem qT (h:PEm w K f Ds te ρ cs fun d=>O.nx (ρ.set n (some (.dat d))) cs):PSm w K f Ds (jh te (yV n)) ρ cs O:=fun se σ H H2 E x nn r b k =>
 h se σ H H2 _ x fun d v H1 g1 r1 p1=>by
  have x1:=x.go g1 (x.env.mono g1)
  exact nn _ cs _ H1 ⟨x1.env.set n (x:=.dat d) r1,x1.sm,x1.kp,x1.len,x1.own⟩ p1
end
structure RoomM (k:Nat) (A:Around):Prop where
 dp:A.depth+3 * k+5<recursionLimit
 un:A.units+16 * k+200<cLine
structure FnOkM (P:Program) (w:World) (K:ad6) (mg:Str->Option Value) (base:Heap) (k:Nat) (f:Addr) (fd:FuncData) (ps:List Str) (sp:Addr->Sp):Prop where
 len:∀ a vs H Q E,sp a vs H Q E->vs.length=ps.length
 run:∀ (A:Around) (outer:List Env) (s:Shared) (H:Hp) (args:Args) (us:List Value) (vs:List V) (Q:VK) (a:Addr),A.handled=some (.ref a)->RoomM k A->Env0 P w K mg base A outer s H->BindsTo s fd args (ps.zip us)->Vals vs us->sp a vs H Q E0 ->
  codeAny (model P w) A (.call (.ref f) args) (CR CX0 outer P w H s Q E0) s
structure FnInM (P:Program) (w:World) (K:ad6) (mg:Str->Option Value) (base:Heap) (k:Nat) (x:Str) (ps:List Str) (sp:Addr->Sp):Prop where
 ex:∃ (f:Addr) (fd:FuncData),FnOkM P w K mg base k f fd ps sp/\mg x=some (.ref f)/\aex K (.ref f)=true/\Binds K fd ps []
structure TN (K:ad6) (f:Fx) (a:Addr) (as:List Addr) (H2:Hp) (ρ:zi) (R:Option (List (List Int))) (σ:St) (H:Hp):Prop where
 env:EnvOk K (f.withs (a :: as)) ρ σ H
 sm:Same (hide H2 (f.withs (a :: as))) (hide H (f.withs (a :: as)))
 kp:∀ b∈f.M,H b=H2 b
 tab:∀ rows,R=some rows->TabAt H a as rows
end L2
end
section
namespace L2
open PySem PySem.Spec PyProof.Rows
structure GoesW (f:Fx) (As:List Addr) (H2 H':Hp):Prop where
 sm:Same (hide H2 (f.withs As)) (hide H' f)
 ok:FOk f H'
 kp:∀ b∈f.M,H' b=H2 b
structure FnAt (P:Program) (w:World) (K:ad6) (mg:Str->Option Value) (base:Heap) (CX:CXT) (k:Nat) (a:Addr) (sp:Sp):Prop where
 ex:∃ (fd:FuncData) (ps:List Str),FnOk P w K mg base CX k a fd ps sp/\aex K (.ref a)=true/\Binds K fd ps []
end L2
end
section
namespace L2
open PySem PySem.Spec PyProof.Rows
end L2
end
section
namespace L2
open PySem PySem.Spec PyProof.Rows
structure Src (prog:Program) (w:World) (j:Addr) (xs:Array Value) (dep:List Addr) (St:Nat->Heap->Prop):Prop where
 own:j∈dep
 keep:∀ {k:Nat} {h h':Heap},St k h->(∀ c∈dep,∀ o,h.get? c=some o->h'.get? c=some o)->St k h'
 there:∀ {k:Nat} {h:Heap},St k h->∃ o,h.get? j=some o
 item:∀ {A:Around} {E:Value->Shared->Prop} {s:Shared} {k:Nat} {x:Value} {Q:Value->Shared->Prop},St k s.heap->xs[k]?=some x->(∀ h',St (k+1) h'->afw j s.heap h'->Q x { s with heap:=h' })->wpAny (model prog w) A (afE (.ref j)) Q E s
 stop:∀ {A:Around} {E:Value->Shared->Prop} {s:Shared} {k:Nat} {Q:Value->Shared->Prop},A.handled=none->St k s.heap->xs[k]?=none->(∀ h' e,Heap.ExtBut j s.heap h'->(∃ o,h'.get? e=some o/\o.cls=.type "StopIteration")->E (.ref e) { s with heap:=h' })->wpAny (model prog w) A (afE (.ref j)) Q E s
section
variable {prog:Program} {w:World} {A:Around} {E:Value->Shared->Prop} {s:Shared}
structure Far (z q1 q2 j1 j2:Addr) (e1 e2:List Addr):Prop where
 q1z:q1≠z
 q2z:q2≠z
 q12:q1≠q2
 j12:j1≠j2
 q1j1:q1≠j1
 q1j2:q1≠j2
 z1:z∉e1
 z2:z∉e2
 o1:q2∉e1
 o2:q2∉e2
 d12:j2∉e1
 d21:j1∉e2
end
end L2
end
section
namespace L2
open PySem PySem.Spec PyProof.Rows
end L2
end
section
namespace L2
open PySem PySem.Spec PyProof.Rows
end L2
end
section
namespace L2
open PySem PySem.Spec PyProof.Rows
section
variable {w:World} {K:ad6} {f:Fx} {Ds:List Addr} {ρ:zi} {cs:List OC} {ts tu:TS} {tt:TT} {te:TE} {R:List PyData->Prop} {i j:Nat}
theorem vT {P:PyData->Prop} (h:PEd K f te ρ fun d=>(d=.none/\P (.bool false)) \/ ∃ i,d=.int i/\P (.bool true)):PEd K f (tOp (fun x y H Q=>y=.non/\Q (.bl (!decide (x=.non))) H) te (tC .non)) ρ P:=fun σ H Q e q =>
 h σ H _ e fun d v H1 g1 r1 hd=>by
  refine⟨rfl,?_⟩
  rcases hd with⟨ed,p⟩ | ⟨i,ed,p⟩
  ·subst ed
   rw [rep_none.mp r1]
   exact q _ _ H1 g1 (rep_bool.mpr rfl) p
  ·subst ed
   rw [rep_int.mp r1]
   exact q _ _ H1 g1 (rep_bool.mpr rfl) p
end
noncomputable abbrev FD (K:ad6) (x:Str) (st:Stmt) (f:Addr) (od an:Option Addr) (sl:Array (Option Value)) (oc kV dc pm cd ct:Value):Prop:=aeT K mainGlobals x=some (some (.ref f))/\K.lookup f=some ⟨oc,od,.func (aeB x x (zY st) (zK st) (zh st) .none kV dc pm an cd ct),sl⟩/\aet K cd x=true/\aex K (.ref f)=true
theorem abN {K:ad6} {h:Heap} {mg:Str->Option Value} {x:Str} {st:Stmt} {f:Addr} {od an:Option Addr} {sl:Array (Option Value)} {oc kV dc pm cd ct:Value} (X:K.In h) (G:h.Ns mainGlobals mg) (a:FD K x st f od an sl oc kV dc pm cd ct) {ps:List Str}
  (hb:∀ (kV doc pm:Value) (an:Option Addr) (cdv ct:Value) (us:List Value),us.length=ps.length->bindArgs (aeB x x (zY st) (zK st) (zh st) .none kV doc pm an cdv ct) ⟨us,[]⟩=pure (ps.zip us)):Def K mg x st ps :=
 ⟨f,_,vk a.2.1 a.2.2.1 a.2.2.2,(vk (st:=st) a.2.1 a.2.2.1 a.2.2.2).binds hb,af5 X G a.1⟩
noncomputable def PAm (w:World) (K:ad6) (f:Fx) (Ds:List Addr) (t:TA) (ρ:zi) (cs:List OC) (R:List DV->Prop):Prop:=Sep f Ds->∀ (σ:St) (H H2:Hp) (Q:List V->Hp->Prop),CM w K f Ds H2 ρ cs σ H->(∀ xs vs H',Goes (f.withs Ds) H H'->RepVs K (f.withs Ds) H' xs vs->R xs->Q vs H')->t σ H Q
section
variable {w:World} {K:ad6} {f:Fx} {Ds:List Addr} {ρ:zi} {cs:List OC} {te tk:TE} {t:TA} {O:MEnds} {i j:Nat} {R:List DV->Prop} {P:PyData->Prop} {es:List PyData}
theorem ad3 (h:PAd K (f.withs Ds) t ρ R):PAm w K f Ds t ρ cs R:=fun se σ H H2 Q x q=>h σ H Q x.env q
theorem adM (hi:ρ[i]?=some (some (.own (f.M.length+j)))) (hc:cs[j]?=some (.lst es)) (h:PEm w K f Ds tk ρ cs fun y=>∃ k,y=.int k/\∃ d,atI es k=some d/\P d):PEm w K f Ds (tOp (aae K) (yG i) tk) ρ cs P:=fun se σ H H2 Q x q=>by
 have hj:j<Ds.length:=by rw [<-x.len];exact (ad9.mp hc).1
 have hD:Ds[j]?=some Ds[j]:=ad7 hj
 refine⟨_,qz hi x hD,?_⟩
 refine h se σ H H2 _ x fun y v H1 g1 r1 ⟨k,ey,d,hd,p⟩=>?_
 subst ey
 have x1:=x.go g1 (x.env.mono g1)
 obtain⟨vs,h1,h2⟩:=x1.own j _ _ hD hc
 have:∃ u,atI vs k=some u/\Rep K (hide H1 (f.withs Ds)) d u:=by
  unfold atI at hd ⊢
  rw [h2.length]
  cases e:ixN es.length k with
  | none=>rw [e] at hd;cases hd
  | some m =>
   rw [e] at hd
   exact h2.get hd
 obtain⟨u,hu,ru⟩:=this
 exact⟨Ds[j],vs,k,u,rfl,rep_int.mp r1,.inl (.inl h1),hu,q d u H1 g1 ru p⟩
end
end L2
end
section
namespace L2
open PySem PySem.Spec PyProof.Rows
noncomputable def aan:Nat:=2 ^ 9000
theorem jE {n m:Nat} (h:n<2 ^ m) (hm:m<=9000):n<aan:=aeg h (afe (by decide) hm)
theorem jn {k:Int} (h:k.natAbs<aan):aff k<=9000:=by
 unfold aff
 split
 ·exact ae4 _
 ·have:k.natAbs.log2<9000:=by
   rcases Nat.eq_zero_or_pos k.natAbs with h0 | hp
   ·rw [h0];decide
   ·exact (Nat.log2_lt (afx hp)).mpr h
  omega
noncomputable def CMulH (i j:Int):Prop:=i.natAbs<aan/\j.natAbs<aan
theorem CMulH.ok {i j:Int} (h:CMulH i j):IntMulOk i j:=by
 have e1:=jn h.1
 have e2:=jn h.2
 have:afV ((aff i:Int)+(aff j:Int))=false:=by
  unfold afV
  refine decide_eq_false ?_
  have:(100000:Int)<=(bitsLine:Int):=by decide +kernel
  omega
 unfold IntMulOk
 rw [this,Bool.and_false]
 exact aef
theorem zH {X:Cx}:OpR X (binaryOp .Mult) (rI CMulH fun i j=>.int (i * j)):=opI fun _ _ _ _ _ _ _ hc q=>mul_int q hc.ok
end L2
end
section
open PySem PySem.Spec PyProof.Rows
namespace L2
end L2
end
section
namespace L2
open PySem PySem.Spec PyProof.Rows
end L2
end
section
namespace L2
open PySem PySem.Spec PyProof.Rows
end L2
end
section
namespace L2
open PySem PySem.Spec PyProof.Rows
structure TQ (K:ad6) (f:Fx) (a:Addr) (as:List Addr) (H2:Hp) (ρ:zi) (rows:List (List PyData)) (σ:St) (H:Hp):Prop where
 env:EnvOk K (f.withs (a :: as)) ρ σ H
 sm:Same (hide H2 (f.withs (a :: as))) (hide H (f.withs (a :: as)))
 kp:∀ b∈f.M,H b=H2 b
 top:H a=some (.lst (as.map .ref))
 nd:(a :: as).Nodup
 len:as.length=rows.length
 row:∀ (i:Nat) x r,as[i]?=some x->rows[i]?=some r->∃ vs,H x=some (.lst vs)/\Reps K (hide H (f.withs (a :: as))) r vs
end L2
end
section
namespace L2
open PySem PySem.Spec PyProof.Rows
inductive PEs (X:Cx):List (Expr×Expr)->List (TE×TE)->Prop where
 | nil:PEs X [] []
 | cons {k v:Expr} {tk tv:TE} {es:List (Expr×Expr)} {ts:List (TE×TE)}:PE X k tk->PE X v tv->PEs X es ts->PEs X ((k,v) :: es) ((tk,tv) :: ts)
inductive RelPs:List (V×V)->List (Value×Value)->Prop where
 | nil:RelPs [] []
 | cons {k v:V} {a b:Value} {l:List (V×V)} {us:List (Value×Value)}:RelV k a->RelV v b->RelPs l us->RelPs ((k,v) :: l) ((a,b) :: us)
inductive RepP (K:ad6) (Hh:Hp):List (PyData×PyData)->List (V×V)->Prop where
 | nil:RepP K Hh [] []
 | cons {k v:PyData} {a b:V} {l:List (PyData×PyData)} {us:List (V×V)}:Rep K Hh k a->Rep K Hh v b->RepP K Hh l us->RepP K Hh ((k,v) :: l) ((a,b) :: us)
end L2
end
section
set_option maxHeartbeats 400000
namespace L2
open PySem PySem.Spec PyProof.Rows
structure PEw (X:Cx) (e:Expr) (t:TE):Prop where
 pe:PE X e t
structure PEsW (X:Cx) (es:List (Expr×Expr)) (ts:List (TE×TE)):Prop where
 pes:PEs X es ts
structure CSo (w:World) (K:ad6) (f:Fx) (D:Addr) (H2:Hp) (ρ':zi) (kvs:List (PyData×PyData)) (σ:St) (H:Hp):Prop where
 env:EnvOk K (f.with D) ρ' σ H
 sm:Same (hide H2 (f.with D)) (hide H (f.with D))
 kp:∀ b∈f.M,H b=H2 b
 own:OwnAt w K (hide H (f.with D)) H D (.dic kvs)
end L2
end
section
namespace L2
open PySem PySem.Spec PyProof.Rows PySem.SetTable
end L2
end
section
namespace L2
open PySem PySem.Spec PyProof.Rows PySem.SetTable
noncomputable def byT (w:World):Bool:=w.params.followText "set-order"
structure ISet (w:World) (h:Heap) (a:Addr) (xs:List (Int×Tok)) (o:Obj) (es:Array (Int×Value)) (ep:Nat) (t:SetTable):Prop where
 ob:h.get? a=some o
 ex:o.ExactSet
 da:o.data=.set es ep t
 el:es.toList=xs.map fun x=>(hashInt x.1,Value.int x.1 x.2)
 ok:ST.TOk t (xs.map fun x=>hashInt x.1)
 pl:t.plain=true
 ld:byT w=true \/ t.led=true
end L2
end
section
namespace L2
open PySem PySem.Spec PyProof.Rows PySem.SetTable
end L2
end
section
namespace L2
open PySem PySem.Spec PyProof.Rows PySem.SetTable PySem.W
end L2
end
section
namespace L2
open PySem PySem.Spec PyProof.Rows
end L2
end
section
namespace L2
open PySem PySem.Spec PyProof.Rows
structure TV (K:ad6) (f:Fx) (H0:Hp) (a:Addr) (as:List Addr) (ρ:zi) (rows:List (List Int)) (σ:St) (H:Hp):Prop where
 env:EnvOk K (f.withs (a :: as)) ρ σ H
 go:Goes f H0 H
 na:H0 a=none
 nas:∀ x∈as,H0 x=none
 tab:TabAt H a as rows
end L2
end
section
namespace L2
open PySem PySem.Spec PyProof.Rows
theorem qB {a b:Int} {s t:Tok} {c:Value}:∀ (l:List Value),TriplesOk l->TriplesOk (l++[.int a s,.int b t,c]):=by
 intro l
 fun_induction TriplesOk l with
 | case1=>intro _;trivial
 | case2 _ _ _ _ _ r ih=>intro h;exact ih h
 | case3=>intro h;exact h.elim
theorem vw {pos:Pos} {a b:Int} {s t:Tok} {c cv:Value}:∀ (l:List Value),TriplesOk l->codeAmong pos (l++[.int a s,.int b t,c])=some cv->codeAmong pos l=some cv \/ cv=c:=by
 intro l
 fun_induction TriplesOk l with
 | case1 =>
  intro _ h
  have h':(if a == pos.line && b == pos.col then some c else codeAmong pos [])=some cv:=h
  split at h'
  ·cases h';exact .inr rfl
  ·cases h'
 | case2 i ti j tj v r ih =>
  intro h0 h
  have h':(if i == pos.line && j == pos.col then some v else codeAmong pos (r++[.int a s,.int b t,c]))=some cv:=h
  show (if i == pos.line && j == pos.col then some v else codeAmong pos r)=some cv \/ _
  split at h'
  ·rename_i q
   rw [if_pos q]
   exact .inl h'
  ·rename_i q
   rw [if_neg q]
   exact ih h0 h'
 | case3=>intro h;exact h.elim
section
variable {X:Cx} {pins:List (Addr×Obj)} {σ:St} {H:Hp} {s:Shared}
theorem Inv.tabAt (I:Inv X pins σ H s) {c P:Addr} {q:Str} (hq:q∈lamDefs) (h1:aev X.K c P=true) (h2:aet X.K (.ref c) q=true):H P=some (.tbl (lamQ q)) :=
 I.env0.tabs c P q hq h1 h2
theorem Inv.bltAt (I:Inv X pins σ H s) {P:Addr} {ps:Array Value} (hP:s.heap.get? P=some (aeY ps)):s.heap.BuiltinsAt X.mg P:=by
 obtain⟨b,o,h1,h2,h3,h4,h5,h6⟩:=I.ok.mod.bm
 have h3':=I.bk _ _ h3
 refine⟨b,o,h1,h2,fun e=>?_,fun e=>?_,h3',h4,h5,h6⟩
 ·obtain⟨u,es,ep,e1,d,_⟩:=I.ok.mod.glob.keeps I.bk
  rw [e,e1] at h3';cases h3';rw [h6] at d;cases d
 ·rw [e,hP] at h3';cases h3';cases h6
theorem aa7 {params:Arguments} {body:Expr} {sc:Scope} {pos:Pos} {c P:Addr} {q:Str} {clos:List (Str×Addr)} {Q:Value->Shared->Prop} {E:Value->Shared->Prop} (I:Inv X pins σ H s)
  (hq:q∈lamDefs) (hc:X.env.code=.ref c) (h1:aev X.K c P=true) (h2:aet X.K (.ref c) q=true) (hqu:X.env.qual ++ "<lambda>"=lamQ q)
  (hcl:closureFor sc X.env=pure clos) (hdef:defaultsOf params X.env=([],[]))
  (h:∀ f c' pm ctv s' H',Inv X pins σ H' s'->Same H H'->s'.heap.get? f=some (afR "<lambda>" (lamQ q) params body sc clos pm c' ctv)->s'.heap.CodeRec (.ref c') (lamQ q)->Q (.ref f) s') :
  wpAny (model X.prog X.w) X.A (eval (.Lambda params body sc pos) X.env) Q E s:=by
 have hH:=I.tabAt hq h1 h2
 obtain⟨ps,hP,tr,am⟩:=I.hok P _ hH
 have gl:=I.ok.mod.glob.keeps I.bk
 have C:=af1 I.kIn h1
 refine PySem.W.kla_eval hdef ?_
 rw [hqu]
 cases hf:codeAmong pos ps.toList with
 | some cv =>
  obtain⟨c',rfl,hc',rc⟩:=am pos cv hf
  refine PySem.W.kla_makeFunctionHit hcl I.ok.glob gl hc C hP tr hf (I.bltAt hP) fun ctv h' tk k sz=>?_
  refine h _ c' _ ctv _ H (I.kept (t':=tk) fun b u e=>aea _ (k b u e)) (Same.refl _) (aeo _ rfl) ?_
  obtain⟨c2,oc,vs,tq,e1,e2,e3⟩:=rc
  exact⟨c2,oc,vs,tq,e1,aea _ (k _ _ e2),e3⟩
 | none =>
  have hgP:mainGlobals≠P:=fun e=>by
   obtain⟨u,es,ep,e1,d,_⟩:=gl
   rw [e,hP] at e1;cases e1;cases d
  refine PySem.W.kla_makeFunction hcl I.ok.glob gl hc C hP tr hf hgP (I.bltAt hP) fun c' ctv h' tk hx hge hlt hrec htb=>?_
  have hn:H c'=none:=I.hok.fresh hge
  have nc:∀ b o,s.heap.get? b=some o->b≠c':=fun b o e=>aes (aeg (aed e) hge)
  have hPc:P≠c':=nc _ _ hP
  have kp:∀ (ob:Obj) b o,b≠P->s.heap.get? b=some o->(h'.push ob).get? b=some o:=fun ob b o n e=>aea _ (hx b o n e)
  have tp:∀ ob:Obj,(h'.push ob).get? P=some (aeY (ps++#[rawInt pos.line,rawInt pos.col,.ref c'])):=fun ob=>aea _ htb
  have hrec':∀ ob:Obj,(h'.push ob).CodeRec (.ref c') (lamQ q):=fun ob=>by
   obtain⟨c2,oc,vs,tq,e1,e2,e3⟩:=hrec
   exact⟨c2,oc,vs,tq,e1,aea _ e2,e3⟩
  have sm:Same H (upd H c' (.own P)):=zU hn _
  refine h _ c' _ ctv _ (upd H c' (.own P)) (I.un (t':=tk) ⟨fun b o e n _ _=>kp _ b o (fun z=>by rw [z,hH] at n;cases n) e,fun b o e n _ _=>⟨o.slots,kp _ b o (fun z=>by rw [z,hH] at n;cases n) e⟩,fun b o e n _=>by rw [zm (nc b o e)];exact n,fun b o e _=>?_,
   fun b xs e=>sm _ _ e,fun b o u e=>sm _ _ e,fun b z e=>sm _ _ e⟩ fun b o e=>?_) sm (aeo _ rfl) (hrec' _)
  ·by_cases hb:b=P
   ·subst hb;exact⟨_,tp _⟩
   ·exact⟨o,kp _ b o hb e⟩
  ·by_cases hb:b=c'
   ·subst hb
    rw [zp] at e
    cases e
    obtain⟨c2,oc,vs,tq,e1,e2,e3⟩:=hrec' (afR "<lambda>" (lamQ q) params body sc clos ((X.mg "__name__").getD .none) b ctv)
    cases e1
    exact⟨_,e2⟩
   ·rw [zm hb] at e
    by_cases hbP:b=P
    ·subst hbP
     rw [hH] at e
     cases e
     refine⟨_,tp _,?_,fun pos' cv z=>?_⟩
     ·rw [af2]
      exact qB _ tr
     ·rw [af2] at z
      rcases vw _ tr z with z | z
      ·obtain⟨c3,e1,e2,c4,oc,vs,tq,e3,e4,e5⟩:=am pos' cv z
       cases e3
       exact⟨c3,e1,sm _ _ e2,c3,oc,vs,tq,rfl,kp _ _ _ (fun w=>by rw [w,hH] at e2;cases e2) e4,e5⟩
      ·exact⟨c',z,zp,hrec' _⟩
    ·refine (I.hok b o e).stay (fun d u hd r=>kp _ d u ?_ r) (fun d r=>sm _ _ r) fun d xs r=>sm _ _ r
     rcases hd with hd | hd
     ·rw [hd];exact hbP
     ·intro w;rw [w,hH] at hd;cases hd
end
noncomputable def Reads (P:Program) (w:World) (env:Env) (h:Heap) (e:Expr) (R:Value->Prop):Prop :=
 ∀ (A:Around) (s:Shared) (Q:Value->Shared->Prop) (E:Value->Shared->Prop),s.heap=h->(∀ v tk,R v->Q v { s with toks:=tk })->wpAny (model P w) A (eval e env) Q E s
section
variable {P:Program} {w:World} {env:Env} {h:Heap} {pos:Pos}
theorem aa8 {x:Str} {u:Value} {m:Str->Option Value} (hk:env.scope.kind=.function) (hx:env.kindOf x=some .local) (hn:h.Ns env.locals m) (hm:m x=some u) (hd:(x == ("__debug__":Str))=false:=by decide) :
  Reads P w env h (.Name x pos) (·=u):=fun A s Q E e q=>wpAny_Name (wpAny_loadName_local hk hx (by rw [e];exact hn) hm (q u s.toks rfl)) hd
theorem abO {x:Str} {u:Value} {c:Addr} (hk:env.scope.kind=.function) (hx:env.kindOf x=some .free) (hc:env.cells.lookup x=some c) (hu:h.IsCell c (some u)) (hd:(x == ("__debug__":Str))=false:=by decide) (hcd:(x == ("__classdict__":Str))=false:=by decide) :
  Reads P w env h (.Name x pos) (·=u):=fun A s Q E e q=>wpAny_Name (wpAny_loadName_free hk hx hc (by rw [e];exact hu) (q u s.toks rfl) hcd) hd
theorem ada {a b:Expr} {l:Addr} {items:Array Value} {k:Int} {x:Value} (ha:Reads P w env h a (·=.ref l)) (hb:Reads P w env h b (fun v=>∃ t,v=.int k t)) (hl:h.IsList l items) (h0:0<=k) (hf:k<2 ^ 63) (hx:items[k.toNat]?=some x) (hs:vJ b) :
  Reads P w env h (.Subscript a b pos) (·=x):=fun A s Q E e q=>by
 refine Subscript_ (ha A s _ E e fun v tk ev=>?_)
 subst ev
 refine hb A _ _ E e fun v tk ⟨t,ev⟩=>?_
 subst ev
 refine item_listR (items:=items) (by rw [<-e] at hl;exact hl) h0 hf hx ?_ (hs _ _)
 exact q x tk rfl
end
section
variable {P:Program} {w:World} {A:Around} {s:Shared} {f c:Addr} {name qual x:Str} {params:Arguments} {body:Expr} {sc:Scope} {clos:List (Str×Addr)} {pm ctv v:Value} {R:Value->Prop} {Q:Value->Shared->Prop} {E:Value->Shared->Prop}
theorem abP (ho:s.heap.get? f=some (afR name qual params body sc clos pm c ctv)) (hcd:s.heap.CodeRec (.ref c) qual) (hroom:A.depth<recursionLimit) (lim:s.heap.NoLimit)
  (hb:bindArgs (PySem.W.kla_fn name qual params body sc clos pm (.ref c) ctv) ⟨[v],[]⟩=pure [(x,v)]) (hx:sc.names.lookup x=some .local) (hcell:∀ y∈sc.names,y.2≠.cell) (hco:sc.isCoroutine=false) (hgen:sc.isGenerator=false) (hk:sc.kind=.function)
  (hr:∀ h₁:Heap,h₁.Ns s.heap.objs.size (fun y=>[(x,v)].reverse.lookup y)->(∀ b o,s.heap.get? b=some o->h₁.get? b=some o)->Reads P w (PySem.W.envX qual sc s.heap.objs.size f (.ref c) clos) h₁ body R)
  (hq:∀ (u:Value) (h₁:Heap) tk,R u->(∀ b o,s.heap.get? b=some o->h₁.get? b=some o)->Q u { s with heap:=h₁,toks:=tk }) :
  wpAny (model P w) A (call (.ref f) [v]) Q E s:=by
 refine wpAny_call (PySem.W.kla_callFunE hroom ho rfl hco hgen rfl hcd ?_)
 rw [hb]
 refine wpAny_pure (wpAny_newFunctionEnv hcell (fun y hy=>?_) (fun h₁ hns hsb=>?_) hk)
 ·rw [aey.mp hy];exact hx
 have hk₁:∀ b o,s.heap.get? b=some o->h₁.get? b=some o:=fun b o e=>hsb.extBut b o (aes (aed e)) (aea _ e)
 refine⟨lim.keeps hk₁,PySem.W.kla_codeExpr ?_⟩
 exact hr h₁ hns hk₁ _ _ _ _ rfl fun u tk ru=>hq u h₁ tk ru hk₁
end
noncomputable def ixK (ks ns:List Int) (i:Nat):Int:=ks.getD (ns.getD i 0).toNat 0
noncomputable def yg (ks ns:List Int) (M:Int):Prop:=∃ i:Nat,ns[i]?=some M/\∀ j,j<ns.length->ixK ks ns i<=ixK ks ns j/\(j<i->ixK ks ns i<ixK ks ns j)
noncomputable def acu (K:ad6) (jy:Nat) (t:TA):TE:=fun σ H Q=>t σ H fun vs H1=>∃ l ns a ks,vs=[.ref l]/\SqL K H1 l (ns.map V.int)/\ns≠[]/\σ[jy]?=some (some (.ref a))/\SqL K H1 a (ks.map V.int)/\(∀ n∈ns,0<=n/\n.toNat<ks.length)/\∀ H' M,Same H1 H'->yg ks ns M->Q (.int M) H'
section
variable {X:Cx} {p pos lpos kpos ypos xpos spos:Pos} {e:Expr} {t:TA} {x y q:Str} {params:Arguments} {sc:Scope} {c P:Addr} {jy k:Nat}
theorem aao {K:ad6} (hK:X.K=K) (hr:Room (k+1) X.A) (hg:Gl X "min") (hm:X.mg "min"=none) (ha:PA X [e] t)
  (hq:q∈lamDefs) (hc:X.env.code=.ref c) (h1:aev K c P=true) (h2:aet K (.ref c) q=true) (hqu:X.env.qual ++ "<lambda>"=lamQ q)
  (hfr0:∀ p∈sc.names,p.2=.free->X.env.scope.names.lookup p.1=some .cell)
  (hdef:defaultsOf params X.env=([],[]))
  (hb:∀ (pm ctv v:Value) (cd:Addr) clos,bindArgs (PySem.W.kla_fn "<lambda>" (lamQ q) params (.Subscript (.Name y ypos) (.Name x xpos) spos) sc clos pm (.ref cd) ctv) ⟨[v],[]⟩=pure [(x,v)])
  (hx:sc.names.lookup x=some .local) (hy:sc.names.lookup y=some .free) (hcell:∀ z∈sc.names,z.2≠.cell) (hco:sc.isCoroutine=false) (hgen:sc.isGenerator=false) (hk:sc.kind=.function)
  (hN:X.N[jy]?=some y) (hyo:X.env.scope.names.lookup y=some .cell)
  (hv:bootBuiltins "min"=some (.builtin "min"):=by rfl)
  (hst:starEach [e] X.env=(false,eval e X.env) :: starEach [] X.env:=by rfl) (hpl:(backTo pos (starEach [] X.env)).any (·.1)=false:=by rfl)
  (hxd:(x == ("__debug__":Str))=false:=by decide) (hyd:(y == ("__debug__":Str))=false:=by decide) (hyc:(y == ("__classdict__":Str))=false:=by decide) :
  PE X (.Call (.Name "min" p) [e] [⟨some "key",.Lambda params (.Subscript (.Name y ypos) (.Name x xpos) spos) sc lpos,kpos⟩] pos) (acu K jy t):=by
 subst hK
 intro pins s σ H Q I h
 have hfr:∀ z,(z,NameKind.free)∈sc.names->∃ d,X.env.cells.lookup z=some d:=fun z hz=>I.ok.has z (.inl (hfr0 _ hz rfl))
 have hcl:=jK hfr
 refine wpAny_Call_Name_kw (jg I hg hm hv ?_)
 refine callWith_kw ?_ ?_ ?_
 rotate_left
 ·rw [hst];rfl
 ·rw [hst];exact hpl
 refine thn (ha pos pins s σ H _ I h) fun us s1 ⟨vs,H1,I1,r,q1⟩=>?_
 obtain⟨l,ns,a,ks,rfl,hl,hne,ha,hks,hin,q1⟩:=q1
 obtain⟨u,rfl,ru⟩:=vals1 r
 cases ru
 refine wpAny_evalAll_cons (wpAny_bind (aa7 I1 hq hc h1 h2 hqu hcl hdef fun f c' pm ctv s2 H2 I2 sm ho hcd=>?_))
 refine wpAny_bind (wpAny_standAt (wpAny_pure (wpAny_evalAll_nil ?_)))
 obtain⟨its,rv,pl,_⟩:=I2.list (sm.seq hl)
 obtain⟨its2,rv2,pl2,z2⟩:=I2.list (sm.seq hks)
 obtain⟨m,hn,hlo⟩:=id I2.loc
 obtain⟨ua,rua,lk⟩:=hlo jy y (.ref a) hN ha (.inr (.inl hyo))
 cases rua
 obtain⟨cy,ecy,icy⟩:∃ cy,X.env.cells.lookup y=some cy/\s2.heap.IsCell cy (some (.ref a)):=by
  rcases lk with⟨k1,_⟩ | ⟨_,cy,h3,h4⟩
  ·have k1':X.env.scope.names.lookup y=some .local:=k1
   rw [hyo] at k1';cases k1'
  ·exact⟨cy,h3,h4⟩
 have lenV:=rv.length
 rw [ad5] at lenV
 have lenV2:=rv2.length
 rw [ad5] at lenV2
 have hpos:0<its.length:=by
  rw [<-lenV]
  cases ns with
  | nil=>exact absurd rfl hne
  | cons _ _=>exact ae1 _
 have lne:∀ {b:Addr} {is:Array Value},s2.heap.IsList b is->b≠X.env.locals:=fun {b is} il e=>by
  obtain⟨o,h3,h4,n5,h5⟩:=il
  obtain⟨o',es,ep,h6,h7,_⟩:=hn
  rw [e,h6] at h3;cases h3
  rw [h7] at h5;cases h5
 have fne:f≠X.env.locals:=fun e=>by
  obtain⟨o',es,ep,h6,h7,_⟩:=hn
  rw [e,h6] at ho;cases ho;cases h7
 have cne:∀ {b:Addr} {o:Obj} {vs:Array Value},s2.heap.get? b=some o->o.data=.fields vs->b≠X.env.locals:=fun {b o vs} e1 e2 e=>by
  obtain⟨o',es,ep,h6,h7,_⟩:=hn
  rw [e,h6] at e1;cases e1;rw [h7] at e2;cases e2
 have itI:∀ {i:Nat} {v:Value},its[i]?=some v->∃ n t,ns[i]?=some n/\v=.int n t:=fun {i v} e=>by
  have hi:i<ns.length:=by rw [lenV];exact (ad9.mp e).1
  obtain⟨u,e1,e2⟩:=rv.get (i:=i) (x:=.int ns[i]) (by rw [aee,ad7 hi];rfl)
  rw [e] at e1;cases e1
  obtain⟨t,rfl⟩:=e2
  exact⟨_,t,ad7 hi,rfl⟩
 have itK:∀ {n:Int},n∈ns->∃ t,its2[n.toNat]?=some (.int (ks.getD n.toNat 0) t):=fun {n} hn=>by
  have hi:=(hin n hn).2
  obtain⟨u,e1,e2⟩:=rv2.get (i:=n.toNat) (x:=.int ks[n.toNat]) (by rw [aee,ad7 hi];rfl)
  obtain⟨t,rfl⟩:=e2
  exact⟨t,by rw [e1,ad4,ad7 hi];rfl⟩
 have back:∀ {h:Heap} {tk:Nat} {own:List (Addr×Obj)},Fr (Att.noObjs s2.heap) X.env.locals h m->News (Att.noObjs s2.heap) X.env.locals h (yO (Att.noObjs s2.heap) s2.heap X.env.locals++own) ->
   (∀ b o,b≠X.env.locals->s2.heap.get? b=some o->h.get? b=some o)/\Inv X pins σ H2 { s2 with heap:=h,toks:=tk }:=fun {h tk own} F' N'=>by
  have kp:∀ b o,b≠X.env.locals->s2.heap.get? b=some o->h.get? b=some o:=fun b o nb e=>(N' (b,o) (aeR _ (jt nb (Att.noObjs_get _ _) e))).1
  refine⟨kp,I2.keptL (t':=tk) kp ?_ fun m' hm'=>?_⟩
  ·obtain⟨o',es,ep,h6,_⟩:=F'.ns
   exact⟨o',h6⟩
  ·have:m'=m:=by
    obtain⟨o,es,ep,ho,hd,_,hf⟩:=hn
    obtain⟨o',es',ep',ho',hd',_,hf'⟩:=hm'
    rw [ho] at ho'
    cases ho'
    rw [hd] at hd'
    cases hd'
    funext n
    rw [<-hf n,<- hf' n]
   rw [this]
   exact F'.ns
 show wpAny _ _ (call (.builtin "min") [.ref l] [(Str.ofString "key",.ref f)]) _ _ s2
 refine kmk_min (h₀:=Att.noObjs s2.heap) (L:=X.env.locals) (m:=m) (news:=yO (Att.noObjs s2.heap) s2.heap X.env.locals) (vs:=its) (ixK ks ns) hr.hd (Att.fr_all hn) aav (fun h F' N'=>?_) hpos (fun i v hv h tk own F' N'=>?_) fun i v h' tk' hv hbest F' N'=>?_
 ·obtain⟨o,h3,h4⟩:=pl.isList
  exact⟨o,(N' (l,o) (jt (lne pl.isList) (Att.noObjs_get _ _) h3)).1,h4⟩
 ·obtain⟨kp,I3⟩:=back (tk:=tk) F' N'
  obtain⟨n,t,en,rfl⟩:=itI hv
  have hnm:=aem en
  obtain⟨tw,ew⟩:=itK hnm
  have ek:ixK ks ns i=ks.getD n.toNat 0:=by unfold ixK;rw [ad4 (l:=ns),en];rfl
  refine abP (x:=x) (R:=(·=.int (ks.getD n.toNat 0) tw)) (kp _ _ fne ho) ?_ hr.in1.depth I3.nolimit (hb _ _ _ _ _) hx hcell hco hgen hk (fun h₁ hns k4=>?_) fun u h₁ tk1 eu k4=>?_
  ·obtain⟨c2,oc,vs,tq,e1,e2,e3,e4⟩:=hcd
   exact⟨c2,oc,vs,tq,e1,kp _ _ (cne e2 e3) e2,e3,e4⟩
  ·refine ada (l:=a) (items:=its2.toArray) (k:=n) (abO (c:=cy) hk hy (yI hfr (mem_of_lookup hy) ecy) ?_ hyd hyc) (fun A s Q E e q'=>aa8 (env:=PySem.W.envX (lamQ q) sc h.objs.size f (.ref c') (zz X.env sc.names [])) (u:=.int n t) hk hx hns (by simp) hxd A s Q E e fun v tk ev=>q' v tk ⟨t,ev⟩) ?_ (hin n hnm).1 ?_ (by simpa using ew) (fun _ _=>rfl)
   ·obtain⟨o,e1,e2⟩:=icy
    exact⟨o,k4 _ _ (kp _ _ (I2.cne y cy ecy) e1),e2⟩
   ·obtain⟨o,h3,h4⟩:=pl2.isList
    exact⟨o,k4 _ _ (kp _ _ (lne pl2.isList) h3),h4⟩
   ·have h3:=(hin n hnm).2
    have h4:=(hin n hnm).1
    have h5:ks.length<=sizeLine:=by rw [ad5] at z2;exact z2
    have:=jk
    omega
  ·subst eu
   rw [ek]
   exact⟨h₁,tk1,tw,rfl,rfl,⟨F'.ns.keeps k4,fun b o e=>k4 _ _ (F'.keep b o e),F'.above⟩,N'.grown k4⟩
 ·obtain⟨kp,I3⟩:=back (own:=[]) (tk:=tk') F' (by rw [afP];exact N')
  obtain⟨n,t,en,rfl⟩:=itI hv
  exact⟨.int n,H2,I3,⟨t,rfl⟩,q1 H2 n sm ⟨i,en,fun j hj=>hbest j (by rw [<-lenV];exact hj)⟩⟩
end
theorem jo {β:Type}:∀ {l:List (Nat×β)} {x:Nat} {y:β},l.lookup x=some y->(x,y)∈l
 | [],_,_,h=>by cases h
 | (a,b) :: r,x,y,h=>by
  rw [aer] at h
  cases e:x == a with
  | true=>rw [e] at h;cases h;rw [beq_iff_eq.mp e];exact aep
  | false=>rw [e] at h;exact aeb _ (jo h)
noncomputable def je (K:ad6) (ts:List (Addr×Str)):Bool :=
 ts.all (fun p=>(K.lookup p.1).isNone && K.any fun c=>aev K c.1 p.1) && K.all fun x=>match x.2.data with
  | .fields vs=>(match (vs[1]?:Option Value),(vs[11]?:Option Value) with
   | some (.str q _),some (.ref P)=>!lamDefs.contains q || decide (ts.lookup P=some (lamQ q))
   | _,_=>true)
  | _=>true
theorem adb {K:ad6} {h:Heap} (X:K.In h) {ts:List (Addr×Str)} (hB:je K ts=true) {c P:Addr} {q:Str} (hq:q∈lamDefs) (h1:aev K c P=true) (h2:aet K (.ref c) q=true):ts.lookup P=some (lamQ q):=by
 unfold je at hB
 rw [afq] at hB
 obtain⟨c2,oc,us,tq,z1,z2,z3,z4⟩:=PySem.W.codeRec_of X h2
 cases z1
 unfold aev at h1
 split at h1
 ·rename_i vs _ hk
  have hm:=ae2.mp hB.2 _ (jo hk)
  dsimp only at hm
  have z5:=X _ _ hk
  rw [z2] at z5
  cases z5
  cases z3
  have e11:(us[11]?:Option Value)=some (.ref P):=by
   simp only [afq] at h1
   obtain⟨⟨⟨⟨⟨e1,_⟩,_⟩,_⟩,_⟩,_⟩:=h1
   split at e1
   ·rename_i P' h11
    rw [h11,beq_iff_eq.mp e1]
   ·cases e1
  rw [z4,e11] at hm
  simp only [Bool.or_eq_true,Bool.not_eq_true'] at hm
  rcases hm with z | z
  ·have:=List.contains_iff_mem.mpr hq
   rw [this] at z;cases z
  ·exact of_decide_eq_true z
 ·cases h1
noncomputable def qk (ts:List (Addr×Str)) (tr:Bool) (a:Addr) (o:Obj) (xs:List V):Hp:=fun b=>match ts.lookup b with
 | some q=>some (.tbl q)
 | none=>if tr=true/\b=a then some (.frz o (.lst xs)) else none
theorem aap {ts:List (Addr×Str)} {tr:Bool} {a b:Addr} {o:Obj} {xs:List V} {q:Str} (h:ts.lookup b=some q):qk ts tr a o xs b=some (.tbl q):=by unfold qk;rw [h]
theorem aa9 {ts:List (Addr×Str)} {tr:Bool} {a b:Addr} {o:Obj} {xs:List V} {u:HO} (h:qk ts tr a o xs b=some u):(∃ q,ts.lookup b=some q/\u=.tbl q) \/ (tr=true/\b=a/\u=.frz o (.lst xs)):=by
 unfold qk at h
 cases e:ts.lookup b with
 | some q=>rw [e] at h;cases h;exact .inl ⟨q,rfl,rfl⟩
 | none =>
  rw [e] at h
  dsimp only at h
  split at h
  ·rename_i z;cases h;exact .inr ⟨z.1,z.2,rfl⟩
  ·cases h
theorem aaq {P:Program} {w:World} {K:ad6} {mg mb:Str->Option Value} {CX:CXT} {k:Nat} {fa a:Addr} {fd:FuncData} {x:Str} {sp:Sp} {s₁:Shared} {vs:List Value} {ns:List Int} {ts:List (Addr×Str)}
  (hB:je K ts=true) (hts:∀ p∈ts,s₁.heap.get? p.1=some (aeY #[])) (hbm:∃ b o,mg "__builtins__"=some (.ref b)/\b≠builtinsNs/\s₁.heap.get? b=some o/\o.cls=.type "module"/\o.dict=some builtinsNs/\o.data=.plain)
  (KX:K.In s₁.heap) (hns:s₁.heap.Ns mainGlobals mg) (hb:s₁.heap.Ns builtinsNs mb) (hbb:∀ x:Str,x ≠ "__name__"->mb x=bootBuiltins x) (hlim:s₁.heap.NoLimit) (hg:s₁.gens=#[])
  (ha:s₁.heap.get? a=some { cls:=.type "list",data:=.seq vs.toArray }) (hi:IntsAre vs ns) (hl:ns.length<=sizeLine) (hr:Room k callerA)
  (F:∀ base:Heap,K.In base->base.Ns mainGlobals mg->FnOk P w K mg base CX k fa fd [x] sp) (hbind:∀ (s:Shared) (u:Value),BindsTo s fd ⟨[u],[]⟩ [(x,u)])
  (hsp:∀ H:Hp,SqL K H a (ns.map V.int)->sp [.ref a] H (fun v _=>v=.bl true) fun _ _ _=>False)
  (hCX:∀ H e s',CX [] H s₁ (fun _ _ _=>False) e s'->False) :
  codeAny (model P w) callerA (.call (.ref fa) ⟨[.ref a],[]⟩) (fun r s'=>r=.ok (.ret (.bool true))/\OldK s₁.heap s'.heap/\s'.os=s₁.os/\AllBare s'.gens) s₁:=by
 have rv:=qf hi
 have lenV:=hi.length
 have hB1:∀ p∈ts,K.lookup p.1=none/\∃ c,aev K c p.1=true:=fun p hp=>by
  have h1:=ae2.mp (afq _ _▸hB).1 p hp
  rw [afq] at h1
  obtain⟨c,_,hc⟩:=List.any_eq_true.mp h1.2
  exact⟨afF.mp h1.1,c.1,hc⟩
 obtain⟨tr,htr⟩:∃ tr:Bool,tr=(K.lookup a).isNone:=⟨_,rfl⟩
 generalize hH:qk ts tr a { cls:=.type "list",data:=.seq vs.toArray } (ns.map V.int)=H
 have ofH:∀ {b u},H b=some u->(∃ q,(b,q)∈ts/\u=.tbl q/\s₁.heap.get? b=some (aeY #[])) \/ (tr=true/\b=a/\u=.frz { cls:=.type "list",data:=.seq vs.toArray } (.lst (ns.map V.int))):=fun {b u} e=>by
  rw [<-hH] at e
  rcases aa9 e with⟨q,e1,e2⟩ | z
  ·exact .inl ⟨q,jo e1,e2,hts _ (jo e1)⟩
  ·exact .inr z
 have ataT:ts.lookup a=none:=by
  cases e:ts.lookup a with
  | none=>rfl
  | some q=>have:=hts _ (jo e);rw [ha] at this;cases this
 have hok:HOk P w H s₁.heap:=fun b u e=>by
  rcases ofH e with⟨q,e1,rfl,e3⟩ | ⟨e1,rfl,rfl⟩
  ·exact⟨#[],e3,trivial,fun pos cv z=>by cases z⟩
  ·exact⟨ha,by rw [ad5];exact hl,vs,_,rv,ha⟩
 have free:∀ {b:Addr} {o:Obj},s₁.heap.get? b=some o->(∀ vs,o.data≠.fields vs)->(∀ vs n,o.data≠.seq vs n)->H b=none:=fun {b o} e d1 d2=>by
  cases q:H b with
  | none=>rfl
  | some u =>
   rcases ofH q with⟨_,_,_,e3⟩ | ⟨_,rfl,_⟩
   ·rw [e] at e3;cases e3;exact absurd rfl (d1 _)
   ·rw [ha] at e;cases e;exact absurd rfl (d2 _ _)
 have nsK:∀ {b:Addr} {m:Str->Option Value},s₁.heap.Ns b m->(qF s₁.heap H).Ns b m:=fun {b m} ⟨o,es,ep,e,d,r⟩=>⟨o,es,ep,jG e (free e (fun _ z=>by rw [d] at z;cases z) fun _ _ z=>by rw [d] at z;cases z),d,r⟩
 have hKb:K.In (qF s₁.heap H):=fun b o e=>jG (KX b o e) (by
  cases q:H b with
  | none=>rfl
  | some u =>
   rcases ofH q with⟨_,e1,_,_⟩ | ⟨e1,rfl,_⟩
   ·rw [(hB1 _ e1).1] at e;cases e
   ·rw [htr,afF] at e1;rw [e1] at e;cases e)
 have hM:Mod K mg (qF s₁.heap H):=⟨hKb,nsK hns,⟨mb,nsK hb,hbb⟩,let⟨mc,h1,h2⟩:=hlim;⟨mc,nsK h1,h2⟩,by
  obtain⟨b,o,h1,h2,h3,h4,h5,h6⟩:=hbm
  exact⟨b,o,h1,h2,jG h3 (free h3 (fun _ z=>by rw [h6] at z;cases z) fun _ _ z=>by rw [h6] at z;cases z),h4,h5,h6⟩⟩
 have tabs:TabsOk K H:=fun c P q hq h1 h2=>by rw [<-hH];exact aap (adb KX hB hq h1 h2)
 have e0:Env0 P w K mg (qF s₁.heap H) callerA [] s₁ H:=⟨rfl,hM,fun b o e=>abo e,af6 (aaa _ _),trivial,(fun b z=>by cases z),tabs,hok,.of_eq hg⟩
 have hS:SqL K H a (ns.map V.int):=by
  cases hk:K.lookup a with
  | some o =>
   have e:=KX a o hk
   rw [ha] at e
   cases e
   exact .inr ⟨_,vs.toArray,_,hk,rfl,rfl,rfl,by rw [aeh,lenV];exact hl,by simpa using rv⟩
  | none =>
   refine .inl (.inr ⟨{ cls:=.type "list",data:=.seq vs.toArray },?_⟩)
   rw [<-hH]
   unfold qk
   rw [ataT]
   exact if_pos ⟨by rw [htr,hk];rfl,rfl⟩
 refine codeAny_mono ((F _ hKb (nsK hns)).run callerA [] s₁ H ⟨[.ref a],[]⟩ [.ref a] [.ref a] _ _ hr e0 (hbind s₁ (.ref a)) (.cons rfl .nil) (hsp H hS)) fun r s' h=>?_
 cases r with
 | error e=>exact (hCX H e s' h).elim
 | ok fl =>
  cases fl with
  | next=>exact ae6 h
  | brk=>exact ae6 h
  | cont=>exact ae6 h
  | ret u =>
   obtain⟨v,H',os,bare,un,hok',r',rfl⟩:=h
   obtain rfl:u=Value.bool true:=r'
   refine⟨rfl,⟨fun b o e=>?_,fun b o e=>un.there b o e (by simp)⟩,os,bare⟩
   cases q:H b with
   | none=>exact .inl (un.keep b o e q (fun z=>by cases z) (fun z=>by cases z))
   | some u =>
    rcases ofH q with⟨qq,e1,rfl,e3⟩ | ⟨_,rfl,rfl⟩
    ·rw [e] at e3
     cases e3
     obtain⟨ps,e4,_⟩:=hok' b _ (un.tbls b _ q)
     obtain⟨c,hc⟩:=(hB1 _ e1).2
     obtain⟨oc,us,_,_,_,_,_,_,_,c1,c2,c3,c4,_⟩:=af1 KX hc
     refine .inr (.inl ⟨⟨c,oc,us,c1,c2,c3,c4⟩,rfl,#[],ps,rfl,?_⟩)
     rw [Array.empty_append]
     exact e4
    ·obtain⟨e1,_⟩:=hok b _ q
     obtain⟨e2,_⟩:=hok' b _ (un.frzs b _ _ q)
     rw [e] at e1;cases e1
     exact .inl e2
theorem walk_T {l:PySem.W.OpenLaw} {n k:Nat} {q:Program} {loose:List Str} {XP:(Str->Option Value)->Heap->Prop} {YP:World->Heap->Prop} {d:DefRec} {K:Params->ad6} {CX:World->CXT} {sp:World->Sp} {x:Str} (ts:List (Addr×Str))
  (hn:l.most=some n) (hn2:n<=sizeLine) (hdf:d.params.defaults=[]) (hr:Room k callerA)
  (hY:∀ (w:World) (h:Heap),YP w h->(K w.params).In h/\∀ p∈ts,h.get? p.1=some (aeY #[])) (hB:∀ w:World,je (K w.params) ts=true)
  (F:∀ (w:World) (mg:Str->Option Value) (fa:Addr) (h:Heap),(K w.params).In h->h.Ns mainGlobals mg->mg d.name=some (.ref fa) ->
   ∃ fd:FuncData,(∀ (s:Shared) (u:Value),BindsTo s fd ⟨[u],[]⟩ [(x,u)]) /\
    ∀ base:Heap,(K w.params).In base->base.Ns mainGlobals mg->FnOk l.prog w (K w.params) mg base (CX w) k fa fd [x] (sp w))
  (hsp:∀ (w:World) (H:Hp) (a:Addr) (ns:List Int),ns.length<=n->SqL (K w.params) H a (ns.map V.int)->sp w [.ref a] H (fun v _=>v=.bl true) fun _ _ _=>False)
  (hCX:∀ (w:World) (H:Hp) (s:Shared) (e:Value) (s':Shared),CX w [] H s (fun _ _ _=>False) e s'->False) :
  PySem.W.WalkO q loose XP YP l.row.toRowW d [] (fun f vs=>PySem.call f vs):=by
 refine Att.attach_call hn hdf fun w s₀ s₁ mg mb fa o pm cd doc a vs ns G Y ho hd hcd hmg hobj hints hlen hg=>?_
 obtain⟨KX,hts⟩:=hY w _ Y
 obtain⟨fd,hb,hF⟩:=F w mg fa _ KX G.T.g hmg
 exact aaq (hB w) hts G.T.bmain KX G.T.g G.T.b G.T.builtins G.T.nolimit hg hobj hints (aeC hlen hn2) hr hF hb (fun H hS=>hsp w H a ns hlen hS) fun H e s'=>hCX w H s₁ e s'
noncomputable def vU (K:ad6) (q:Str):Bool:=K.all fun x=>!aet K (.ref x.1) q || (match x.2.data with
 | .fields vs=>(match (vs[11]?:Option Value) with | some (.ref P)=>aev K x.1 P | _=>false)
 | _=>false)
theorem ade {K:ad6} {q:Str} {cdv:Value} (h:vU K q=true) (hc:aet K cdv q=true):∃ c P,cdv=.ref c/\aev K c P=true/\aet K (.ref c) q=true:=by
 have hc':=hc
 unfold aet at hc'
 split at hc'
 ·rename_i c
  split at hc'
  ·rename_i a b vs d hk
   have h1:=ae2.mp h _ (jo hk)
   dsimp only at h1
   rw [hc] at h1
   simp only [afb,Bool.false_or] at h1
   split at h1
   ·rename_i P _
    exact⟨c,P,rfl,h1,hc⟩
   ·cases h1
  ·cases hc'
 ·cases hc'
section
variable {P:Program} {w:World} {K:ad6} {mg:Str->Option Value} {base:Heap} {j k n:Nat} {x:Str} {st:Stmt} {ps N:List Str} {γ:Type} {pre:γ->List DV->Prop} {post:γ->PyData->Prop} {sp:Sp}
theorem Def.okL (F:Def K mg x st ps) (S:FnScope N ps (zh st)) (hn:ps.length=n) (hl:vU K x=true)
  (h:∀ (fa c Pt:Addr) (A:Around) (outer:List Env) (s:Shared) (H:Hp) (E:XK),aev K c Pt=true->aet K (.ref c) x=true->Room k (A.deeper (envOfC x (zh st) s.heap.objs.size fa (.ref c))) ->
   ∃ t,PSs (yF CX0 P w K mg base N x (zh st) fa (.ref c) A outer s H E).nox (zK st) t/\∀ (f:Fx) (xs:List DV) (c:γ),xs.length=n->pre c xs->PSd K f t (yL N xs) { nx:=fun _=>post c .none,rt:=post c }) :
  FnIn P w K mg base (k+1) x ps (spD K n pre post):=by
 obtain⟨fa,fd,F1,F2,F3⟩:=F.ex
 refine⟨fa,fd,?_,F3,F1.kp,F2⟩
 obtain⟨oc,od,kV,doc,pm,an,cdv,ct,osl,rfl,lk,hcd⟩:=F1.ex
 obtain⟨c,Pt,rfl,l1,l2⟩:=ade hl hcd
 refine acg lk hcd S (fun vs H Q E h=>?_) fun A outer s H vs Q E hr hs=>?_
 ·obtain⟨f,xs,c,r,hl,_⟩:=h
  rw [r.length,hl,hn]
 ·obtain⟨f,xs,c,r,hl,fo,hp,q⟩:=hs
  obtain⟨t,h1,h2⟩:=h fa _ Pt A outer s H E l1 l2 hr
  exact⟨t,h1.nox,h2 f xs c hl hp (start N vs) H _ (yT r fo) (fun _ _ H' g _ p=>q .none _ H' g (rep_none.mpr rfl) p) (fun d v H' g r p=>q d v H' g r p) (fun _ _ _ _ _ z=>z.elim) (fun _ _ _ _ _ z=>z.elim)⟩
end
section
variable {w:World} {K:ad6} {f:Fx} {Ds:List Addr} {ρ:zi} {cs:List OC} {t:TA} {jy j:Nat} {P:PyData->Prop} {ks:List Int}
theorem abQ (hi:ρ[jy]?=some (some (.own (f.M.length+j)))) (hc:cs[j]?=some (.lst (ks.map .int))) (h:PAm w K f Ds t ρ cs fun xs=>∃ ns:List Int,xs=[.dat (.list (ns.map .int))]/\ns≠[]/\(∀ n∈ns,0<=n/\n.toNat<ks.length)/\∀ M,yg ks ns M->P (.int M)) :
  PEm w K f Ds (acu K jy t) ρ cs P:=fun se σ H H2 Q x q=>h se σ H H2 _ x fun xs vs H1 g1 r1 ⟨ns,ex,hne,hin,p⟩=>by
 subst ex
 have hj:j<Ds.length:=by rw [<-x.len];exact (ad9.mp hc).1
 have hD:Ds[j]?=some Ds[j]:=ad7 hj
 have x1:=x.go g1 (x.env.mono g1)
 obtain⟨us,h1,h2⟩:=x1.own j _ _ hD hc
 have eu:=h2.ints
 subst eu
 cases r1 with
 | cons r0 rt =>
  cases rt
  obtain⟨l,ys,rfl,s1,s2⟩:=rep_list.mp (show Rep K _ (.list (ns.map .int)) _ from r0)
  have ey:=s2.ints
  subst ey
  exact⟨l,ns,Ds[j],ks,rfl,(zk _ _).seq s1,hne,qz hi x hD,.inl (.inl h1),hin,fun H' M sm lm=>q (.int M) _ H' (g1.trans (.of_same sm g1.2)) (rep_int.mpr rfl) (p M lm)⟩
end
section
variable {X:Cx}
noncomputable def adN (i j:Int):Prop:=j=2/\i.natAbs<2 ^ 1000
theorem z8:OpR X (binaryOp .Pow) (rI adN fun i j=>.int (i ^ j.toNat)):=opI fun _ _ _ _ _ _ _ hc q=>pow_int (by rw [hc.1];decide) (by
 have:=jn (jE hc.2 (by decide))
 rw [hc.1]
 omega) q
end
section
variable {w:World} {K:ad6} {f:Fx} {Ds:List Addr} {ρ:zi} {cs:List OC} {ta tb:TE} {P:PyData->Prop}
theorem adf {g:Int->Int->Int} (h:PEm w K f Ds ta ρ cs fun x=>∃ i,x=.int i/\PEm w K f Ds tb ρ cs fun y=>∃ j,y=.int j/\P (.int (g i j))):PEm w K f Ds (tOp (rI0 fun i j=>.int (g i j)) ta tb) ρ cs P:=fun se σ H H2 Q x q =>
 h se σ H H2 _ x fun d v H1 g1 r1 ⟨i,ed,p1⟩=>p1 se σ H1 H2 _ (x.go g1 (x.env.mono g1)) fun d2 v2 H3 g3 r3 ⟨j,ed2,p3⟩=>by
  subst ed ed2
  exact⟨i,j,rep_int.mp r1,rep_int.mp r3,q _ _ H3 (g1.trans g3) (rep_int.mpr rfl) p3⟩
end
end L2
end
section
namespace My
open PySem PySem.Spec PyProof.Rows L2
noncomputable abbrev pd:List Str:=["a","b","c"]
noncomputable abbrev pf:List Str:=["point","start","end","bound"]
noncomputable abbrev ph:List Str:=["points","bound"]
noncomputable abbrev pj:List Str:=["points","start","end","bound"]
noncomputable abbrev pq:List Str:=["last_ahead"]
noncomputable abbrev pw:List Str:=["_law_script","_law_k"]
noncomputable abbrev px:List Str:=["_law_feed_here","_law_many"]
noncomputable abbrev pz:List Str:=["_law_one","_law_other","_law_point","_law_bound"]
noncomputable abbrev pA:List Str:=["_law_points","_law_places","_law_bound"]
noncomputable abbrev pB:List Str:=["_law_many"]
noncomputable abbrev pC:List Str:=["_law_script"]
local macro_rules | `(tactic| walk_at "w")=>`(tactic| repeat walk_at "dl")
local macro_rules | `(tactic| walk_at "s")=>`(tactic| exact⟨rfl,rfl,rfl,by decide +kernel,rfl,by decide +kernel,by decide +kernel⟩)
noncomputable abbrev Pt:=Int×Int
noncomputable def ptD (p:Pt):PyData:=.tuple [.int p.1,.int p.2]
noncomputable def atP (ps:List Pt) (i:Nat):Pt:=ps.getD i (0,0)
noncomputable def z9 (a b c:Pt):Int:=(b.1 - a.1) * (c.2 - a.2) - (b.2 - a.2) * (c.1 - a.1)
noncomputable def sqF (a b:Pt):Int:=(b.1 - a.1) * (b.1 - a.1)+(b.2 - a.2) * (b.2 - a.2)
noncomputable def alF (p a b:Pt):Int:=(p.1 - a.1) * (b.1 - a.1)+(p.2 - a.2) * (b.2 - a.2)
noncomputable def nearF (m:Int) (p a b:Pt):Bool :=
 if alF p a b<=0 then decide (sqF a p<=m * m) else if sqF a b<=alF p a b then decide (sqF b p<=m * m) else decide (z9 a b p * z9 a b p<=m * m * sqF a b)
noncomputable def mx (a b:Int):Int:=if b > a then b else a
noncomputable def mn (a b:Int):Int:=if b<a then b else a
noncomputable def vx (m:Int) (a b p:Pt):Bool :=
 let W:=mx 1 ((b.1 - a.1) * (b.1 - a.1)+(b.2 - a.2) * (b.2 - a.2))
 let al:=mx 0 (mn ((p.1 - a.1) * (b.1 - a.1)+(p.2 - a.2) * (b.2 - a.2)) W)
 let r:=(p.1 - a.1) * W - al * (b.1 - a.1)
 let d:=(p.2 - a.2) * W - al * (b.2 - a.2)
 decide (r * r+d * d<=m * m * W * W)
theorem sq_nonneg (x:Int):0<=x * x:=by
 rcases Int.le_total 0 x with h | h
 ·exact Int.mul_nonneg h h
 ·exact Int.mul_nonneg_of_nonpos_of_nonpos h h
theorem jW (a b:Pt):0<=sqF a b:=by
 have h1:=sq_nonneg (b.1 - a.1)
 have h2:=sq_nonneg (b.2 - a.2)
 unfold sqF
 omega
theorem vV {x:Int} (h:x * x=0):x=0:=by
 rcases Int.mul_eq_zero.mp h with h | h <;> exact h
theorem qU {a b:Pt} (h:sqF a b=0):b.1 - a.1=0/\b.2 - a.2=0:=by
 have h1:=sq_nonneg (b.1 - a.1)
 have h2:=sq_nonneg (b.2 - a.2)
 unfold sqF at h
 exact⟨vV (by omega),vV (by omega)⟩
theorem yr {W x y:Int} (hW:0<W):(W * x<=W * y)↔x<=y:=⟨fun h=>Int.le_of_mul_le_mul_left h hW,fun h=>Int.mul_le_mul_of_nonneg_left h (Int.le_of_lt hW)⟩
theorem aba (m:Int) (a b p:Pt):vx m a b p=nearF m p a b:=by
 have hs:=jW a b
 unfold vx nearF
 have eW:(b.1 - a.1) * (b.1 - a.1)+(b.2 - a.2) * (b.2 - a.2)=sqF a b:=rfl
 have eA:(p.1 - a.1) * (b.1 - a.1)+(p.2 - a.2) * (b.2 - a.2)=alF p a b:=rfl
 dsimp only
 rw [eW,eA]
 have hW:0<mx 1 (sqF a b):=by unfold mx;split <;> omega
 by_cases h1:alF p a b<=0
 ·rw [if_pos h1]
  have e:mx 0 (mn (alF p a b) (mx 1 (sqF a b)))=0:=by unfold mx mn;split <;> split <;> omega
  rw [e]
  refine decide_eq_decide.mpr ?_
  generalize mx 1 (sqF a b)=W at *
  have e1:((p.1 - a.1) * W - 0 * (b.1 - a.1)) * ((p.1 - a.1) * W - 0 * (b.1 - a.1))+((p.2 - a.2) * W - 0 * (b.2 - a.2)) * ((p.2 - a.2) * W - 0 * (b.2 - a.2))=W * (W * sqF a p):=by unfold sqF;grind
  have e2:m * m * W * W=W * (W * (m * m)):=by grind
  rw [e1,e2,yr hW,yr hW]
 ·rw [if_neg h1]
  have h0:0<sqF a b:=by
   rcases Int.lt_or_eq_of_le hs with h | h
   ·exact h
   ·obtain⟨z1,z2⟩:=qU h.symm
    exfalso
    apply h1
    unfold alF
    rw [z1,z2]
    simp
  have eM:mx 1 (sqF a b)=sqF a b:=by unfold mx;split <;> omega
  rw [eM]
  by_cases h2:sqF a b<=alF p a b
  ·rw [if_pos h2]
   have e:mx 0 (mn (alF p a b) (sqF a b))=sqF a b:=by
    have:mn (alF p a b) (sqF a b)=sqF a b:=by unfold mn;split <;> omega
    rw [this];unfold mx;split <;> omega
   rw [e]
   refine decide_eq_decide.mpr ?_
   generalize sqF a b=W at *
   have e1:((p.1 - a.1) * W - W * (b.1 - a.1)) * ((p.1 - a.1) * W - W * (b.1 - a.1))+((p.2 - a.2) * W - W * (b.2 - a.2)) * ((p.2 - a.2) * W - W * (b.2 - a.2))=W * (W * sqF b p):=by unfold sqF;grind
   have e2:m * m * W * W=W * (W * (m * m)):=by grind
   rw [e1,e2,yr h0,yr h0]
  ·rw [if_neg h2]
   have e:mx 0 (mn (alF p a b) (sqF a b))=alF p a b:=by
    have:mn (alF p a b) (sqF a b)=alF p a b:=by unfold mn;split <;> omega
    rw [this];unfold mx;split <;> omega
   rw [e]
   refine decide_eq_decide.mpr ?_
   have e1:((p.1 - a.1) * sqF a b - alF p a b * (b.1 - a.1)) * ((p.1 - a.1) * sqF a b - alF p a b * (b.1 - a.1))+((p.2 - a.2) * sqF a b - alF p a b * (b.2 - a.2)) * ((p.2 - a.2) * sqF a b - alF p a b * (b.2 - a.2))=sqF a b * (z9 a b p * z9 a b p):=by unfold sqF alF z9;grind
   have e2:m * m * sqF a b * sqF a b=sqF a b * (m * m * sqF a b):=by grind
   rw [e1,e2,yr h0]
theorem aar (m:Int) (p a b:Pt):nearF m p b a=nearF m p a b:=by
 have hs:=jW a b
 have e1:sqF b a=sqF a b:=by unfold sqF;grind
 have e2:alF p b a=sqF a b - alF p a b:=by unfold sqF alF;grind
 have e3:z9 b a p=- z9 a b p:=by unfold z9;grind
 unfold nearF
 rw [e1,e2,e3,Int.neg_mul_neg]
 by_cases h1:alF p a b<=0
 ·by_cases h2:sqF a b<=alF p a b
  ·have z:sqF a b=0:=by omega
   obtain⟨z1,z2⟩:=qU z
   have q1:b.1=a.1:=by omega
   have q2:b.2=a.2:=by omega
   have q:b=a:=Prod.ext q1 q2
   rw [if_pos (by omega),if_pos h1,q]
  ·rw [if_neg (by omega),if_pos (by omega),if_pos h1]
 ·by_cases h2:sqF a b<=alF p a b
  ·rw [if_pos (by omega),if_neg h1,if_pos h2]
  ·rw [if_neg (by omega),if_neg (by omega),if_neg h1,if_neg h2]
noncomputable def tip (p:Pt):Pt:=(p.2,p.1)
theorem abb (m:Int) (p a b:Pt):nearF m (tip p) (tip a) (tip b)=nearF m p a b:=by
 have e1:∀ a b,sqF (tip a) (tip b)=sqF a b:=fun a b=>by unfold sqF tip;grind
 have e2:alF (tip p) (tip a) (tip b)=alF p a b:=by unfold alF tip;grind
 have e3:z9 (tip a) (tip b) (tip p)=- z9 a b p:=by unfold z9 tip;grind
 unfold nearF
 rw [e1,e1,e1,e2,e3,Int.neg_mul_neg]
noncomputable def zM (ps:List Pt) (m:Int) (i j:Nat):Bool:=((ps.take j).drop (i+1)).all fun p=>nearF m p (atP ps i) (atP ps j)
theorem yi {ps:List Pt} {m:Int} {i j:Nat} (hj:j<=ps.length):zM ps m i j=true↔∀ t,i<t->t<j->nearF m (atP ps t) (atP ps i) (atP ps j)=true:=by
 unfold zM
 rw [ae2]
 constructor
 ·intro h t h1 h2
  refine h _ (aem (i:=t - (i+1)) ?_)
  rw [List.getElem?_drop,aeK (by omega),show i+1+(t - (i+1))=t by omega]
  unfold atP
  rw [ad4,ad7 (by omega)]
  rfl
 ·intro h p hp
  obtain⟨n,hn,rfl⟩:=af3 hp
  rw [List.length_drop,aeH] at hn
  have:=h (i+1+n) (by omega) (by omega)
  rw [List.getElem_drop,List.getElem_take]
  unfold atP at this
  rw [ad4,ad7 (by omega)] at this
  exact this
noncomputable def Ed (ps:List Pt) (m:Int) (i j:Nat):Prop:=i<j/\zM ps m i j=true
inductive Path (E:Nat->Nat->Prop) (i:Nat):Nat->Nat->Prop where
 | one:Path E i i 1
 | snoc {k j c:Nat}:Path E i k c->E k j->Path E i j (c+1)
theorem Path.cons {E:Nat->Nat->Prop} {i k j c:Nat} (e:E i k) (p:Path E k j c):Path E i j (c+1):=by
 induction p with
 | one=>exact .snoc .one e
 | snoc _ e2 ih=>exact .snoc ih e2
noncomputable def acv (E:Nat->Nat->Prop) (i j c:Nat):Prop:=Path E i j c/\∀ c',Path E i j c'->c<=c'
theorem Path.flip {E E':Nat->Nat->Prop} {N:Nat} (h:∀ i j,j<=N->E i j->E' (N - j) (N - i)) (le:∀ i j,E i j->i<=j) {i j c:Nat} (hj:j<=N) (p:Path E i j c):Path E' (N - j) (N - i) c:=by
 induction p with
 | one=>exact .one
 | snoc q e ih=>exact .cons (h _ _ hj e) (ih (aeC (le _ _ e) hj))
theorem jw (g:Nat->Int):∀ n,0<n->∃ i,i<n/\∀ j,j<n->g i<=g j/\(j<i->g i<g j)
 | 0,h=>absurd h (aeJ _)
 | 1,_=>⟨0,by omega,fun j hj=>by
   have z:j=0:=Nat.lt_one_iff.mp hj
   subst z
   exact⟨Int.le_refl _,fun h=>absurd h (aeJ _)⟩⟩
 | n+2,_=>by
  obtain⟨i,hi,h⟩:=jw g (n+1) (by omega)
  by_cases hc:g (n+1)<g i
  ·refine⟨n+1,by omega,fun j hj=>?_⟩
   by_cases e:j=n+1
   ·subst e;exact⟨Int.le_refl _,fun h=>absurd h (aeJ _)⟩
   ·have:=(h j (by omega)).1
    exact⟨by omega,fun _=>by omega⟩
  ·refine⟨i,by omega,fun j hj=>?_⟩
   by_cases e:j=n+1
   ·subst e;exact⟨by omega,fun h=>by omega⟩
   ·exact h j (by omega)
theorem abc {ks ns:List Int} (h:ns≠[]):∃ M,yg ks ns M:=by
 obtain⟨i,hi,hb⟩:=jw (ixK ks ns) ns.length (List.length_pos_iff.mpr h)
 exact⟨ns[i],i,ad7 hi,hb⟩
theorem vy {ks ns:List Int} {M M':Int} (h:yg ks ns M) (h':yg ks ns M'):M=M':=by
 obtain⟨i,e,hb⟩:=h
 obtain⟨i',e',hb'⟩:=h'
 have hi:=(ad9.mp e).1
 have hi':=(ad9.mp e').1
 have:i=i':=by
  rcases Nat.lt_trichotomy i i' with z | z | z
  ·have h1:=(hb' i hi).2 z
   have h2:=(hb i' hi').1
   omega
  ·exact z
  ·have h1:=(hb i' hi').2 z
   have h2:=(hb' i hi).1
   omega
 subst this
 rw [e] at e'
 exact Option.some.inj e'
noncomputable def bestOf (ks ns:List Int):Int:=Classical.epsilon (yg ks ns)
theorem aas {ks ns:List Int} (h:ns≠[]):yg ks ns (bestOf ks ns):=afN (abc h)
theorem abR {ks ns:List Int} {M:Int} (h:yg ks ns M):bestOf ks ns=M:=vy (afN ⟨M,h⟩) h
theorem ql {ks ns:List Int} {M:Int} (h:yg ks ns M):M∈ns/\∀ n∈ns,ks.getD M.toNat 0<=ks.getD n.toNat 0:=by
 obtain⟨i,e,hb⟩:=h
 refine⟨aem e,fun n hn=>?_⟩
 obtain⟨j,hj,rfl⟩:=af3 hn
 have:=(hb j hj).1
 unfold ixK at this
 rw [ad4 (l:=ns),e,ad4 (l:=ns),ad7 hj] at this
 exact this
noncomputable def usF (ps:List Pt) (m:Int) (j:Nat):List Int:=((ae5 j).filter fun i=>zM ps m i j).map fun i=>((i:Nat):Int)
theorem us_mem {ps:List Pt} {m:Int} {j:Nat} {n:Int}:n∈usF ps m j↔∃ i:Nat,n=i/\i<j/\zM ps m i j=true:=by
 unfold usF
 rw [afm]
 constructor
 ·rintro⟨i,hi,rfl⟩
  rw [afs,aeP] at hi
  exact⟨i,rfl,hi.1,hi.2⟩
 ·rintro⟨i,rfl,h1,h2⟩
  exact⟨i,by rw [afs,aeP];exact⟨h1,h2⟩,rfl⟩
theorem vz (ps:List Pt) (m:Int) (j:Nat):zM ps m j (j+1)=true:=by
 unfold zM
 rw [List.drop_eq_nil_of_le (by rw [aeH];omega)]
 rfl
theorem acw (ps:List Pt) (m:Int) (j:Nat):usF ps m (j+1)≠[]:=fun e=>by
 have:(j:Int)∈usF ps m (j+1):=us_mem.mpr ⟨j,rfl,afK j,vz ps m j⟩
 rw [e] at this
 cases this
noncomputable def dpF (ps:List Pt) (m:Int):Nat->List Int×List Int
 | 0=>([1],[])
 | j+1=>((dpF ps m j).1++[(dpF ps m j).1.getD (bestOf (dpF ps m j).1 (usF ps m (j+1))).toNat 0+1],(dpF ps m j).2++[bestOf (dpF ps m j).1 (usF ps m (j+1))])
structure DpOk (ps:List Pt) (m:Int) (j:Nat) (fw la:List Int):Prop where
 fl:fw.length=j+1
 ll:la.length=j
 least:∀ i,i<=j->∃ c:Nat,fw[i]?=some (c:Int)/\acv (Ed ps m) 0 i c
 last:∀ i,i<j->∃ b:Nat,la[i]?=some (b:Int)/\Ed ps m b (i+1)/\fw.getD (i+1) 0=fw.getD b 0+1
theorem qV (ps:List Pt) (m:Int):∀ j,DpOk ps m j (dpF ps m j).1 (dpF ps m j).2
 | 0=>⟨rfl,rfl,fun i hi=>by
   have:i=0:=by omega
   subst this
   exact⟨1,rfl,.one,fun c' p=>by cases p with | one=>exact aej _ | snoc _ e=>exact absurd e.1 (aft _)⟩,fun i hi=>absurd hi (aft _)⟩
 | j+1=>by
  have D:=qV ps m j
  obtain⟨fl,ll,le,la⟩:=D
  have bs:=ql (aas (ks:=(dpF ps m j).1) (acw ps m j))
  obtain⟨b,eb,hb,sb⟩:=us_mem.mp bs.1
  have fwb:(dpF ps m (j+1)).1=(dpF ps m j).1++[(dpF ps m j).1.getD b 0+1]:=by
   show (dpF ps m j).1++[_]=_
   rw [eb,aeu]
  have lab:(dpF ps m (j+1)).2=(dpF ps m j).2++[((b:Nat):Int)]:=by
   show (dpF ps m j).2++[_]=_
   rw [eb]
  rw [fwb,lab]
  have gd:∀ i,i<=j->((dpF ps m j).1++[(dpF ps m j).1.getD b 0+1]).getD i 0=(dpF ps m j).1.getD i 0:=fun i hi=>by
   rw [ad4,ad8 (by omega),ad4]
  have gl:((dpF ps m j).1++[(dpF ps m j).1.getD b 0+1]).getD (j+1) 0=(dpF ps m j).1.getD b 0+1:=by
   rw [ad4,aec (by omega),fl]
   simp
  obtain⟨cb,ecb,lb⟩:=le b (by omega)
  have gb:(dpF ps m j).1.getD b 0=cb:=by rw [ad4,ecb];rfl
  refine⟨by rw [ael,fl];rfl,by rw [ael,ll];rfl,fun i hi=>?_,fun i hi=>?_⟩
  ·by_cases e:i=j+1
   ·subst e
    refine⟨cb+1,?_,.snoc lb.1 ⟨hb,sb⟩,fun c' p=>?_⟩
    ·rw [aec (by omega),fl,ae8,gb]
     rfl
    ·cases p with
     | snoc q e =>
      rename_i k c
      obtain⟨ck,eck,lk⟩:=le k (by have:=e.1;omega)
      have h1:=bs.2 (k:Int) (us_mem.mpr ⟨k,rfl,e.1,e.2⟩)
      rw [eb,aeu,aeu,gb,ad4,eck] at h1
      have h2:=lk.2 _ q
      have h3:(cb:Int)<=(ck:Int):=h1
      omega
   ·obtain⟨c,e1,l1⟩:=le i (by omega)
    exact⟨c,by rw [ad8 (by omega)];exact e1,l1⟩
  ·by_cases e:i=j
   ·subst e
    refine⟨b,by rw [aec (by omega),ll,ae8];rfl,⟨hb,sb⟩,?_⟩
    rw [gl,gd b (by omega)]
   ·obtain⟨b',e1,e2,e3⟩:=la i (by omega)
    refine⟨b',by rw [ad8 (by omega)];exact e1,e2,?_⟩
    rw [gd (i+1) (by omega),gd b' (by have:=e2.1;omega)]
    exact e3
inductive Row (E:Nat->Nat->Prop):List Nat->Nat->Prop where
 | one:Row E [0] 0
 | snoc {r:List Nat} {k j:Nat}:Row E r k->E k j->Row E (r++[j]) j
theorem Row.path {E:Nat->Nat->Prop} {r:List Nat} {j:Nat} (h:Row E r j):Path E 0 j r.length:=by
 induction h with
 | one=>exact .one
 | snoc _ e ih=>rw [ael];exact .snoc ih e
theorem Row.facts {E:Nat->Nat->Prop} {r:List Nat} {j:Nat} (h:Row E r j):r[0]?=some 0/\r[r.length - 1]?=some j/\0<r.length/\∀ t,t+1<r.length->E (r.getD t 0) (r.getD (t+1) 0):=by
 induction h with
 | one=>exact⟨rfl,rfl,ae1 _,fun t ht=>by simp at ht⟩
 | snoc q e ih =>
  rename_i r k j
  obtain⟨a,b,c,d⟩:=ih
  refine⟨by rw [ad8 c];exact a,by rw [ael,aec (by simp)];simp,by simp,fun t ht=>?_⟩
  rw [ael] at ht
  have ht':t+1<=r.length:=Nat.le_of_lt_succ ht
  by_cases z:t+1=r.length
  ·have e1:(r++[j]).getD t 0=k:=by
    rw [ad4,ad8 (by omega),show t=r.length - 1 by omega,b]
    rfl
   have e2:(r++[j]).getD (t+1) 0=j:=by
    rw [ad4,aec (by omega),z,ae8]
    rfl
   rw [e1,e2]
   exact e
  ·have:=d t (by omega)
   rw [ad4,ad8 (by omega),ad4,ad8 (by omega),<- ad4,<- ad4]
   exact this
theorem Row.bnd {ps:List Pt} {m:Int} {r:List Nat} {j:Nat} (h:Row (Ed ps m) r j):(∀ i∈r,i<=j)/\r.length<=j+1:=by
 induction h with
 | one=>exact⟨fun i hi=>by rw [aey.mp hi];exact aej _,aej _⟩
 | snoc q e ih =>
  have:=e.1
  refine⟨fun i hi=>?_,by rw [ael];show _+1<=_;omega⟩
  rcases aeA.mp hi with hi | hi
  ·have:=ih.1 i hi;omega
  ·rw [aey.mp hi];omega
theorem abd {E:Nat->Nat->Prop}:∀ (n:Nat) (r:List Nat),r.length=n+1->r[0]?=some 0->(∀ t,t+1<r.length->E (r.getD t 0) (r.getD (t+1) 0))->Row E r (r.getD n 0)
 | 0,r,hl,h0,_=>by
  match r,hl,h0 with
  | [x],_,h0=>cases h0;exact .one
 | n+1,r,hl,h0,h=>by
  have hr:r=r.take (n+1)++[r.getD (n+1) 0]:=by
   have hi:n+1<r.length:=by omega
   rw [ad4,ad7 hi]
   show r=r.take (n+1)++[r[n+1]]
   rw [List.take_append_getElem]
   exact (List.take_of_length_le (by omega)).symm
  have gt:∀ t,t<n+1->(r.take (n+1)).getD t 0=r.getD t 0:=fun t ht=>by rw [ad4,aeK ht,ad4]
  have lt:(r.take (n+1)).length=n+1:=by rw [aeH];omega
  have ih:=abd n (r.take (n+1)) lt (by rw [aeK (by omega)];exact h0) fun t ht=>by
   rw [gt t (by omega),gt (t+1) (by omega)]
   exact h t (by omega)
  rw [gt n (by omega)] at ih
  have s:=Row.snoc ih (h n (by omega))
  rw [<-hr] at s
  exact s
noncomputable def qW (la:List Int):Nat->Nat->List Nat
 | 0,_=>[]
 | _+1,0=>[0]
 | n+1,a+1=>qW la n (la.getD a 0).toNat++[a+1]
theorem vW {ps:List Pt} {m:Int} {j:Nat} {fw la:List Int} (D:DpOk ps m j fw la):∀ (n a:Nat),a<=j->a<n->Row (Ed ps m) (qW la n a) a/\fw.getD a 0=(qW la n a).length
 | n+1,0,_,_=>⟨.one,by
   obtain⟨c,e,l⟩:=D.least 0 (ae4 _)
   have e1:c=1:=by
    have h1:=l.2 1 .one
    have h2:0<c:=by
     cases l.1 with
     | one=>exact ae1 _
     | snoc _ _=>exact ae1 _
    omega
   rw [ad4,e,e1]
   rfl⟩
 | n+1,a+1,h1,h2=>by
  obtain⟨b,e,ed,f⟩:=D.last a (by omega)
  have hb:=ed.1
  obtain⟨r,l⟩:=vW D n b (by omega) (by omega)
  have eg:(la.getD a 0).toNat=b:=by rw [ad4,e];rfl
  show Row _ (qW la n (la.getD a 0).toNat++[a+1]) _/\_=((qW la n (la.getD a 0).toNat++[a+1]).length:Int)
  rw [eg]
  refine⟨.snoc r ed,?_⟩
  rw [f,l,ael]
  rfl
 | 0,a,_,h=>absurd h (aft _)
noncomputable def ya (ps:List Pt) (m:Int):List Nat:=qW (dpF ps m (ps.length - 1)).2 ps.length (ps.length - 1)
noncomputable def qC (ps:List Pt) (m:Int):Int:=(dpF ps m (ps.length - 1)).1.getD (ps.length - 1) 0
theorem yt (ps:List Pt) (m:Int) (h:0<ps.length):Row (Ed ps m) (ya ps m) (ps.length - 1)/\qC ps m=(ya ps m).length :=
 vW (qV ps m (ps.length - 1)) ps.length (ps.length - 1) (aej _) (by omega)
theorem yu (ps:List Pt) (m:Int) (h:0<ps.length):acv (Ed ps m) 0 (ps.length - 1) (ya ps m).length:=by
 obtain⟨c,e,l⟩:=(qV ps m (ps.length - 1)).least (ps.length - 1) (aej _)
 have:=(yt ps m h).2
 unfold qC at this
 rw [ad4,e] at this
 have h3:(c:Int)=((ya ps m).length:Nat):=this
 have h4:c=(ya ps m).length:=by omega
 rw [<-h4]
 exact l
theorem adg {ps:List Pt} {m:Int} {i j:Nat} (hj:j<ps.length) (h:Ed ps m i j):Ed ps.reverse m (ps.length - 1 - j) (ps.length - 1 - i):=by
 obtain⟨hij,hs⟩:=h
 have rv:∀ t,t<ps.length->atP ps.reverse (ps.length - 1 - t)=atP ps t:=fun t ht=>by
  unfold atP
  rw [ad4,afU (by omega),ad4,show ps.length - 1 - (ps.length - 1 - t)=t by omega]
 refine⟨by omega,(yi (by rw [aeq];omega)).mpr fun t h1 h2=>?_⟩
 have h3:=(yi (by omega)).mp hs (ps.length - 1 - t) (by omega) (by omega)
 rw [rv i (by omega),rv j (by omega),aar]
 have:=rv (ps.length - 1 - t) (by omega)
 rw [show ps.length - 1 - (ps.length - 1 - t)=t by omega] at this
 rw [this]
 exact h3
theorem abS (ps:List Pt) (m:Int) (h:0<ps.length):qC ps.reverse m=qC ps m:=by
 have h':0<ps.reverse.length:=by rw [aeq];exact h
 rw [(yt ps m h).2,(yt _ m h').2]
 have a:=yu ps m h
 have b:=yu ps.reverse m h'
 rw [aeq] at b
 have f1:∀ {ps:List Pt},0<ps.length->∀ c,Path (Ed ps m) 0 (ps.length - 1) c->Path (Ed ps.reverse m) 0 (ps.length - 1) c:=fun {ps} hp c p=>by
  have:=Path.flip (E':=Ed ps.reverse m) (N:=ps.length - 1) (fun i j hj e=>adg (by omega) e) (fun i j e=>aeQ e.1) (aej _) p
  rw [ae8,Nat.sub_zero] at this
  exact this
 have g1:=f1 h _ a.1
 have g2:=f1 h' _ (by rw [aeq];exact b.1)
 rw [afr,aeq] at g2
 have h1:=b.2 _ g1
 have h2:=a.2 _ g2
 have:(ya ps.reverse m).length=(ya ps m).length:=by omega
 rw [this]
theorem abe {ps:List Pt} {m:Int} {i j:Nat} (hj:j<ps.length):Ed (ps.map tip) m i j↔Ed ps m i j:=by
 have at':∀ t,atP (ps.map tip) t=tip (atP ps t):=fun t=>by
  unfold atP
  rw [ad4,aee,ad4]
  cases ps[t]? with
  | none=>rfl
  | some p=>rfl
 unfold Ed
 rw [yi (by rw [ad5];omega),yi (by omega)]
 simp only [at',abb]
theorem qX {ps:List Pt} {m:Int} {j c:Nat} (hj:j<ps.length):Path (Ed (ps.map tip) m) 0 j c↔Path (Ed ps m) 0 j c:=by
 constructor
 ·intro p
  induction p with
  | one=>exact .one
  | snoc q e ih=>exact .snoc (ih (by have:=e.1;omega)) ((abe hj).mp e)
 ·intro p
  induction p with
  | one=>exact .one
  | snoc q e ih=>exact .snoc (ih (by have:=e.1;omega)) ((abe hj).mpr e)
theorem abT (ps:List Pt) (m:Int) (h:0<ps.length):qC (ps.map tip) m=qC ps m:=by
 have h':0<(ps.map tip).length:=by rw [ad5];exact h
 rw [(yt ps m h).2,(yt _ m h').2]
 have a:=yu ps m h
 have b:=yu (ps.map tip) m h'
 rw [ad5] at b
 have h1:=b.2 _ ((qX (by omega)).mpr a.1)
 have h2:=a.2 _ ((qX (by omega)).mp b.1)
 have:(ya (ps.map tip) m).length=(ya ps m).length:=by omega
 rw [this]
noncomputable def top (i:Nat):Stmt:=PySem.Challenge.pw_heightrings_k64_whole_least_of_few.main.body.getD i (.Pass ⟨0,0,0,0⟩)
noncomputable abbrev qD:=top 1
noncomputable abbrev adh:List Str:=pd
theorem abU:FnScope adh pd (zh qD):=by walk_at "s"
noncomputable abbrev yl:=top 2
noncomputable abbrev qY:List Str:=["point","start","end","bound","x","y","a","b","c","d","squared","along"]
theorem sc_lies_near:FnScope qY pf (zh yl):=by walk_at "s"
noncomputable abbrev yh:=top 4
noncomputable abbrev qE:List Str:=["points","bound","fewest","last_ahead","at","usable","best"]
theorem sc_least_kept:FnScope qE ph (zh yh):=by walk_at "s"
noncomputable abbrev jF:=top 5
noncomputable abbrev abV:List Str:=["points","start","end","bound","point"]
theorem sc_spans:FnScope abV pj (zh jF):=by walk_at "s"
noncomputable abbrev zS:=top 6
noncomputable abbrev jq:List Str:=["last_ahead","way","at"]
theorem sc_way_to_the_end:FnScope jq pq (zh zS):=by walk_at "s"
noncomputable abbrev yA:=top 8
noncomputable abbrev y2:List Str:=["_law_script","_law_k","_law_cell"]
theorem sc_law_feed:FnScope y2 pw (zh yA):=by walk_at "s"
noncomputable abbrev yB:=top 9
noncomputable abbrev vA:List Str:=["_law_feed_here","_law_many","_law_found"]
theorem sc_law_draw:FnScope vA px (zh yB):=by walk_at "s"
noncomputable abbrev yC:=top 10
noncomputable abbrev vB:List Str:=["_law_one","_law_other","_law_point","_law_bound","_law_wide","_law_high","_law_whole","_law_along","_law_right","_law_down"]
theorem sc_law_near:FnScope vB pz (zh yC):=by walk_at "s"
noncomputable abbrev ym:=top 11
noncomputable abbrev qZ:List Str:=["_law_points","_law_places","_law_bound","_law_at","_law_k"]
theorem sc_law_keeps:FnScope qZ pA (zh ym):=by walk_at "s"
noncomputable abbrev zE:=top 12
noncomputable abbrev yN:List Str:=["_law_many","_law_found","_law_k"]
theorem sc_law_rows_of_places:FnScope yN pB (zh zE):=by walk_at "s"
noncomputable abbrev jx:=top 13
noncomputable abbrev vX:List Str:=["_law_script","_law_k","_law_feed_here","_law_wide","_law_high","_law_points","_law_at","_law_bound","_law_many","_law_places","_law_row","_law_tipped"]
theorem sc_law:FnScope vX pC (zh jx):=by walk_at "s"
local macro_rules | `(tactic| walk_at "dl")=>`(tactic| first
 | (with_reducible show PSd _ _ (jh _ (aaz (yG _) (tC (V.int 0)) qM)) _ _;refine abE rfl ?_)
 | (with_reducible show PSd _ _ (jh _ (aaz (yG _) (tC (V.int 1)) qM)) _ _;refine abF rfl ?_)
 | with_reducible refine yp ?_ | with_reducible refine aaj ?_ | with_reducible refine y8 ?_ | with_reducible refine jP ?_ | with_reducible refine s_drop ?_ | with_reducible refine jO ?_
 | with_reducible refine zG ?_ | with_reducible refine aaP rfl ?_ | with_reducible refine y9 ?_ | with_reducible refine vn ?_
 | with_reducible refine jm ?_ | with_reducible refine t_b ?_ | with_reducible refine ack ?_ | with_reducible refine acW ?_ | with_reducible refine vP ?_ | with_reducible refine qg ?_
 | with_reducible refine d_chain ?_ | with_reducible refine acj ?_ | with_reducible refine yK ?_ | with_reducible refine jN ?_ | with_reducible refine aaM ?_
 | with_reducible refine d_if ?_ | with_reducible refine d_andV ?_ | with_reducible refine d_orV ?_ | with_reducible refine d_notV ?_
 | with_reducible refine zN ?_ | with_reducible refine aah ?_ | with_reducible refine d_str ?_ | with_reducible refine aci ?_
 | (with_reducible show PEd _ _ (yG _) _ _;refine zf rfl ?_)
 | (with_reducible show PEd _ _ (tOp (aae _) (yG _) _) _ _;refine adz rfl ?_)
 | with_reducible refine yo ?_ | with_reducible refine aaN ?_
 | (with_reducible show PAd _ _ (y7 (yG _) _) _ _;refine acU rfl ?_)
 | with_reducible refine zg ?_ | with_reducible refine zB ?_
 | with_reducible refine d_catT ?_ | with_reducible refine acn ?_ | with_reducible refine po_no ?_ | with_reducible refine aaV ?_ | with_reducible refine d_int1 ?_ | with_reducible refine d_tupof ?_ | with_reducible refine vQ ?_
 | with_reducible refine vO ?_ | with_reducible refine aaO ?_ | with_reducible refine qh ?_ | with_reducible refine d_minL ?_ | with_reducible refine d_maxL ?_ | with_reducible refine acZ ?_ | with_reducible refine ac0 ?_
 | (with_reducible show (∃ _,_) \/ (∃ _,_);first | refine Or.inl ⟨_,rfl,?_⟩ | refine Or.inr ⟨_,rfl,?_⟩) | refine⟨_,rfl,?_⟩ | refine⟨_,_,rfl,?_⟩
 | (with_reducible show (_=_/\∀ _,_) \/ _;first | refine Or.inl ⟨rfl,fun a ha=>?_⟩ | refine Or.inr ⟨rfl,fun b hb hb'=>?_⟩)
 | (with_reducible show PyData.canLay0 _=true/\_;refine And.intro (by first | rfl | assumption | decide +kernel) ?_)
 | (with_reducible show min _ _<=60/\_;refine And.intro (by first | assumption | (simp [PyData.depth,PyData.depthAll];done)) ?_)
 | refine⟨rfl,?_⟩
 | (refine And.intro ?side ?_;(case side=>first | omega | exact Int.ediv_nonneg (by omega) (by omega) | exact Int.emod_nonneg _ (by omega) | exact afi _ (by omega) | decide | exact⟨by decide,by decide,by decide⟩ | exact⟨by omega,by omega⟩ | exact Or.inl ⟨by omega,by omega⟩ | exact Or.inr ⟨by omega,by omega⟩ | (refine aeC (af6 (by rfl)) (show _<=1000 by decide)) | ((repeat' apply And.intro) <;> first | rfl | omega | decide | assumption) | (simp [PyData.depth]))))
theorem vY {b:Bool} {p q:Prop} (h1:b=true->p) (h2:b=false->q):if b=true then p else q:=by
 cases b with
 | true=>rw [if_pos rfl];exact h1 rfl
 | false=>rw [if_neg aef];exact h2 rfl
structure Near (o p:Pt):Prop where
 a:o.1<=p.1
 b:p.1<=o.1+4398046511104
 c:o.2<=p.2
 d:p.2<=o.2+4398046511104
theorem bnd {B:Int} {x y:Int} (h1:-B<=x) (h2:x<=B) (h3:-B<=y) (h4:y<=B):-(B * B)<=x * y/\x * y<=B * B:=by
 have hB:0<=B:=by omega
 have a:x.natAbs<=B.natAbs:=by omega
 have b:y.natAbs<=B.natAbs:=by omega
 have c:(x * y).natAbs<=(B * B).natAbs:=by rw [afC,afC];exact Nat.mul_le_mul a b
 have d:0<=B * B:=Int.mul_nonneg hB hB
 omega
theorem vC {o a b c:Pt} (ha:Near o a) (hb:Near o b) (hc:Near o c):-(1267650600228229401496703205376)<z9 a b c/\z9 a b c<1267650600228229401496703205376:=by
 obtain⟨a1,a2,a3,a4⟩:=ha
 obtain⟨b1,b2,b3,b4⟩:=hb
 obtain⟨c1,c2,c3,c4⟩:=hc
 have e1:=bnd (B:=4398046511104) (x:=b.1 - a.1) (y:=c.2 - a.2) (by omega) (by omega) (by omega) (by omega)
 have e2:=bnd (B:=4398046511104) (x:=b.2 - a.2) (y:=c.1 - a.1) (by omega) (by omega) (by omega) (by omega)
 unfold z9
 omega
section
variable {P:Program} {w:World} {K:ad6} {mg:Str->Option Value} {base:Heap} {k:Nat}
noncomputable abbrev abf (K:ad6):Sp:=spD K 3 (fun (c:Pt×Pt×Pt×Pt) xs=>xs=[.dat (ptD c.2.1),.dat (ptD c.2.2.1),.dat (ptD c.2.2.2)]/\Near c.1 c.2.1/\Near c.1 c.2.2.1/\Near c.1 c.2.2.2) fun c r=>r=.int (z9 c.2.1 c.2.2.1 c.2.2.2)
theorem abW (F:Def K mg "turn" qD pd):FnIn P w K mg base (k+1) "turn" pd (abf K):=by
 refine F.ok abU rfl fun fa cdv A outer s H E hr=>⟨_,(zl (zJ (zc zu (zc yY (zc zu (zq (zv (K:=K) rfl) (pv 1) zb (fun _ _=>rfl)) (zq (zv (K:=K) rfl) (pv 0) zb (fun _ _=>rfl))) (zc zu (zq (zv (K:=K) rfl) (pv 2) zb (fun _ _=>rfl)) (zq (zv (K:=K) rfl) (pv 0) zb (fun _ _=>rfl)))) (zc yY (zc zu (zq (zv (K:=K) rfl) (pv 1) zb (fun _ _=>rfl)) (zq (zv (K:=K) rfl) (pv 0) zb (fun _ _=>rfl))) (zc zu (zq (zv (K:=K) rfl) (pv 2) zb (fun _ _=>rfl)) (zq (zv (K:=K) rfl) (pv 0) zb (fun _ _=>rfl))))))),?_⟩
 rintro f xs ⟨o,a,b,c⟩ hl ⟨rfl,⟨a1,a2,a3,a4⟩,⟨b1,b2,b3,b4⟩,⟨c1,c2,c3,c4⟩⟩
 try dsimp only [yF,zj]
 unfold ptD
 dsimp only at *
 walk_at "w"
 rfl
noncomputable abbrev abg (K:ad6):Sp:=spD K 4 (fun (c:Pt×Pt×Pt×Pt×Int) xs=>xs=[.dat (ptD c.2.1),.dat (ptD c.2.2.1),.dat (ptD c.2.2.2.1),.dat (.int c.2.2.2.2)]/\Near c.1 c.2.1/\Near c.1 c.2.2.1/\Near c.1 c.2.2.2.1/\0<=c.2.2.2.2/\c.2.2.2.2<=10 ^ 60) fun c r=>r=.bool (nearF c.2.2.2.2 c.2.1 c.2.2.1 c.2.2.2.1)
theorem vD (x:Int):x ^ afY 2=x * x:=by rw [show afY 2=2 from rfl,Int.pow_succ,Int.pow_succ,Int.pow_zero,Int.one_mul]
theorem abh {x:Int} {n:Nat} (h0:-(2 ^ n:Nat)<x) (h1:x<(2 ^ n:Nat)) (hn:n<=1000):x.natAbs<2 ^ 1000:=by
 have:x.natAbs<2 ^ n:=by omega
 exact aeg this (afe (by decide) hn)
theorem s43 {x:Int} (h0:-4398046511104<=x) (h1:x<=4398046511104):x.natAbs<2 ^ 1000:=abh (n:=43) (by show -(8796093022208:Int)<x;omega) (by show x<(8796093022208:Int);omega) (by decide)
theorem abX (F:Def K mg "lies_near" yl pf) (uar:FnIn P w K mg base k "turn" pd (abf K)):FnIn P w K mg base (k+1) "lies_near" pf (abg K):=by
 refine F.ok sc_lies_near rfl fun fa cdv A outer s H E hr=>⟨_,(zd (qp (qr (za (pv 0) (za (pv 1) (za (pv 2) ze)))) (yU (K:=K) (n:=3) rfl rfl (zI (yU (K:=K) (n:=2) rfl rfl (zI (zx (i:=4) sc_lies_near.nd rfl (Or.inl rfl) (Or.inr rfl)) (zI (zx (i:=5) sc_lies_near.nd rfl (Or.inl rfl) (Or.inr rfl)) yP))) (zI (yU (K:=K) (n:=2) rfl rfl (zI (zx (i:=6) sc_lies_near.nd rfl (Or.inl rfl) (Or.inr rfl)) (zI (zx (i:=7) sc_lies_near.nd rfl (Or.inl rfl) (Or.inr rfl)) yP))) (zI (yU (K:=K) (n:=2) rfl rfl (zI (zx (i:=8) sc_lies_near.nd rfl (Or.inl rfl) (Or.inr rfl)) (zI (zx (i:=9) sc_lies_near.nd rfl (Or.inl rfl) (Or.inr rfl)) yP))) yP))))) (zd (zy (i:=10) sc_lies_near.nd rfl (Or.inl rfl) (zc zT (zc z8 (zc zu (pv 8) (pv 6)) zb) (zc z8 (zc zu (pv 9) (pv 7)) zb))) (zd (zy (i:=11) sc_lies_near.nd rfl (Or.inl rfl) (zc zT (zc zH (zc zu (pv 4) (pv 6)) (zc zu (pv 8) (pv 6))) (zc zH (zc zu (pv 5) (pv 7)) (zc zu (pv 9) (pv 7))))) (zd (y3 (yf qJ (pv 11) zb (z6 _)) (zl (zJ (jC qJ (zc zT (zc z8 (zc zu (pv 4) (pv 6)) zb) (zc z8 (zc zu (pv 5) (pv 7)) zb)) (zc z8 (pv 3) zb) (z6 _)))) ye) (zd (y3 (yf ace (pv 11) (pv 10) (z6 _)) (zl (zJ (jC qJ (zc zT (zc z8 (zc zu (pv 4) (pv 8)) zb) (zc z8 (zc zu (pv 5) (pv 9)) zb)) (zc z8 (pv 3) zb) (z6 _)))) ye) (zl (zJ (jC qJ (zc z8 (zw uar hr rfl (za (pv 1) (za (pv 2) (za (pv 0) ze)))) zb) (zc zH (zc z8 (pv 3) zb) (pv 10)) (z6 _))))))))),?_⟩
 rintro f xs ⟨o,p,a,b,m⟩ hl ⟨rfl,np,na,nb,m0,m1⟩
 have np':=np
 have na':=na
 have nb':=nb
 obtain⟨p1,p2,p3,p4⟩:=np'
 obtain⟨a1,a2,a3,a4⟩:=na'
 obtain⟨b1,b2,b3,b4⟩:=nb'
 try dsimp only [yF,zj]
 unfold ptD
 dsimp only at *
 have hm:m.natAbs<2 ^ 1000:=by
  have h1:(10:Nat) ^ 60<2 ^ 1000:=by decide +kernel
  have h2:m.natAbs<=10 ^ 60:=by
   have:((10:Int) ^ 60)=(((10:Nat) ^ 60:Nat):Int):=by decide +kernel
   omega
  omega
 have s1:∀ {x y:Int},o.1<=x->x<=o.1+4398046511104->o.1<=y->y<=o.1+4398046511104->(x - y).natAbs<2 ^ 1000:=fun h1 h2 h3 h4=>s43 (by omega) (by omega)
 have s2:∀ {x y:Int},o.2<=x->x<=o.2+4398046511104->o.2<=y->y<=o.2+4398046511104->(x - y).natAbs<2 ^ 1000:=fun h1 h2 h3 h4=>s43 (by omega) (by omega)
 have hu:∀ {x:Int},x.natAbs<2 ^ 1000->x.natAbs<aan:=fun h=>jE h (by decide)
 have fin:∀ {r:PyData},r=.bool (if alF p a b<=0 then decide (sqF a p<=m * m) else if sqF a b<=alF p a b then decide (sqF b p<=m * m) else decide (z9 a b p * z9 a b p<=m * m * sqF a b))->r=.bool (nearF m p a b):=fun h=>h
 have e1:∀ x y:Int,x ^ afY 2+y ^ afY 2=x * x+y * y:=fun x y=>by rw [vD,vD]
 repeat (first | walk_at "dl" | (refine⟨⟨rfl,by first | assumption | exact s1 (by assumption) (by assumption) (by assumption) (by assumption) | exact s2 (by assumption) (by assumption) (by assumption) (by assumption)⟩,?_⟩) | (refine⟨⟨hu (by first | exact s1 (by assumption) (by assumption) (by assumption) (by assumption) | exact s2 (by assumption) (by assumption) (by assumption) (by assumption)),hu (by first | exact s1 (by assumption) (by assumption) (by assumption) (by assumption) | exact s2 (by assumption) (by assumption) (by assumption) (by assumption))⟩,?_⟩))
 rw [e1]
 have eA:(p.1 - a.1) * (b.1 - a.1)+(p.2 - a.2) * (b.2 - a.2)=alF p a b:=rfl
 have eS:(b.1 - a.1) * (b.1 - a.1)+(b.2 - a.2) * (b.2 - a.2)=sqF a b:=rfl
 rw [eA,eS]
 refine vY (fun h=>?_) fun h=>?_
 ·repeat (first | walk_at "dl" | (refine⟨⟨rfl,by first | assumption | exact s1 (by assumption) (by assumption) (by assumption) (by assumption) | exact s2 (by assumption) (by assumption) (by assumption) (by assumption)⟩,?_⟩))
  refine fin ?_
  rw [if_pos (of_decide_eq_true h),e1,vD]
  rfl
 ·have h':=of_decide_eq_false h
  walk_at "w"
  refine vY (fun h2=>?_) fun h2=>?_
  ·repeat (first | walk_at "dl" | (refine⟨⟨rfl,by first | assumption | exact s1 (by assumption) (by assumption) (by assumption) (by assumption) | exact s2 (by assumption) (by assumption) (by assumption) (by assumption)⟩,?_⟩))
   refine fin ?_
   rw [if_neg h',if_pos (of_decide_eq_true h2),e1,vD]
   rfl
  ·have h2':=of_decide_eq_false h2
   walk_at "w"
   refine zP (o,a,b,p) ?_
   walk_at "w"
   rintro _ rfl
   have ts:=vC na nb np
   have q1:=bnd (B:=4398046511104) (x:=b.1 - a.1) (y:=b.1 - a.1) (by omega) (by omega) (by omega) (by omega)
   have q2:=bnd (B:=4398046511104) (x:=b.2 - a.2) (y:=b.2 - a.2) (by omega) (by omega) (by omega) (by omega)
   refine⟨_,rfl,zN ⟨_,rfl,⟨rfl,by dsimp only;exact abh (n:=100) (by show -(1267650600228229401496703205376:Int)<_;exact ts.1) (by show _<(1267650600228229401496703205376:Int);exact ts.2) (by decide)⟩,_,rfl,?_⟩⟩
   have cm:CMulH (m ^ afY 2) (sqF a b):=by
    refine⟨?_,?_⟩
    ·rw [vD,afC]
     have h3:(10:Nat) ^ 60<2 ^ 1000:=by decide +kernel
     exact jE (m:=2000) (Nat.lt_of_lt_of_eq (Nat.mul_lt_mul'' hm hm) (by rw [<-Nat.pow_add])) (by decide)
    ·refine hu (abh (n:=100) ?_ ?_ (by decide))
     ·show -(1267650600228229401496703205376:Int)<_
      rw [<-eS]
      omega
     ·show _<(1267650600228229401496703205376:Int)
      rw [<-eS]
      omega
   refine jN (jN (zf rfl ⟨_,rfl,zN ⟨_,rfl,⟨rfl,hm⟩,_,rfl,zf rfl ⟨_,rfl,cm,_,rfl,?_⟩⟩⟩))
   refine fin ?_
   rw [if_neg h',if_neg h2',vD,vD]
noncomputable abbrev vZ (K:ad6):Sp:=spD K 4 (fun (c:Pt×List Pt×Nat×Nat×Int) xs=>xs=[.dat (.list (c.2.1.map ptD)),.dat (.int c.2.2.1),.dat (.int c.2.2.2.1),.dat (.int c.2.2.2.2)]/\(∀ p∈c.2.1,Near c.1 p)/\c.2.2.1<c.2.2.2.1/\c.2.2.2.1<c.2.1.length/\c.2.1.length<=60/\0<=c.2.2.2.2/\c.2.2.2.2<=10 ^ 60) fun c r=>r=.bool (zM c.2.1 c.2.2.2.2 c.2.2.1 c.2.2.2.1)
theorem q0 {ps:List Pt} {i:Nat} (hi:i<ps.length):atI (ps.map ptD) (i:Int)=some (ptD (atP ps i)):=by
 unfold atI ixN
 rw [if_pos (by omega),if_pos (by rw [ad5];omega)]
 show (ps.map ptD)[_]?=_
 rw [aee,aeu,ad7 hi]
 unfold atP
 rw [ad4,ad7 hi]
 rfl
theorem jf {o:Pt} {ps:List Pt} {i:Nat} (h:∀ p∈ps,Near o p) (hi:i<ps.length):Near o (atP ps i):=by
 unfold atP
 rw [ad4,ad7 hi]
 exact h _ (List.getElem_mem hi)
theorem abY {ps:List Pt} {i j:Nat} (h1:i+1<=j) (h2:j<=ps.length):L2.cutD (ps.map ptD) (some ((i:Int)+1)) (some (j:Int))=((ps.take j).drop (i+1)).map ptD:=by
 have e:((i:Int)+1)=((i+1:Nat):Int):=by omega
 rw [e]
 unfold L2.cutD
 have s1:HT.sIx (ps.map ptD).length 0 (some ((i+1:Nat):Int))=i+1:=by rw [HT.sIx_nat,ad5,Nat.min_eq_left (by omega)]
 have s2:HT.sIx (ps.map ptD).length (ps.map ptD).length (some (j:Int))=j:=by rw [HT.sIx_nat,ad5,Nat.min_eq_left (by omega)]
 rw [s1,s2,List.map_drop,List.map_take,List.drop_take]
theorem abi (F:Def K mg "spans" jF pj) (uas:FnIn P w K mg base k "lies_near" pf (abg K)):FnIn P w K mg base (k+1) "spans" pj (vZ K):=by
 refine F.ok sc_spans rfl fun fa cdv A outer s H E hr=>⟨_,(zd (yH aeF rfl (yM (K:=K) rfl (aaI (aaW (K:=K) rfl) (pv 0) (vG (zc zT (pv 1) zb)) (vG (pv 2)))) (zx (i:=4) sc_spans.nd rfl (Or.inl rfl) (Or.inr rfl)) (zl (y3 (ve (jb (K:=K) rfl (zw uas hr rfl (za (pv 4) (za (zq (zt (K:=K) rfl) (pv 0) (pv 1) (fun _ _=>rfl)) (za (zq (zt (K:=K) rfl) (pv 0) (pv 2) (fun _ _=>rfl)) (za (pv 3) ze))))) (fun _=>rfl))) (zl (zJ ju)) ye))) (zl (zJ ju))),?_⟩
 rintro f xs ⟨o,ps,i,j,m⟩ hl ⟨rfl,hn,hij,hj,h60,m0,m1⟩
 try dsimp only [yF,zj]
 dsimp only at *
 have ec:L2.cutD (ps.map ptD) (some ((i:Int)+1)) (some (j:Int))=((ps.take j).drop (i+1)).map ptD:=abY (by omega) (by omega)
 refine yp (qi (jR (acn (zf rfl ⟨_,rfl,aaV (yK (zf rfl ⟨_,rfl,zN ⟨_,rfl,_,rfl,aaV (zf rfl ⟨_,rfl,?_⟩)⟩⟩))⟩))))
 rw [ec]
 refine⟨_,rfl,fun n ρ=>∃ x,ρ=[some (.dat (.list (ps.map ptD))),some (.dat (.int i)),some (.dat (.int j)),some (.dat (.int m)),x]/\(((ps.take j).drop (i+1)).take n).all (fun p=>nearF m p (atP ps i) (atP ps j))=true,⟨_,rfl,rfl⟩,?_,?_⟩
 ·rintro n d _ hd ⟨x,rfl,ha⟩
  rw [aee] at hd
  cases eq:((ps.take j).drop (i+1))[n]? with
  | none=>rw [eq] at hd;cases hd
  | some p =>
   rw [eq] at hd
   cases hd
   have hp:p∈ps:=List.mem_of_mem_take (List.mem_of_mem_drop (aem eq))
   refine zG (aaj (vP (qg (zP (o,p,atP ps i,atP ps j,m) (zg (zf rfl (zg (yo (zf rfl ⟨_,rfl,zf rfl ⟨_,rfl,_,q0 (by omega),zg (yo (zf rfl ⟨_,rfl,zf rfl ⟨_,rfl,_,q0 hj,zg (zf rfl (zB ⟨rfl,⟨rfl,hn p hp,jf hn (by omega),jf hn hj,m0,m1⟩,?_⟩))⟩⟩))⟩⟩)))))))))
   rintro _ rfl
   refine⟨_,rfl,?_⟩
   dsimp only
   cases en:nearF m p (atP ps i) (atP ps j) with
   | true =>
    rw [afb,if_neg aef]
    refine jO ⟨_,rfl,?_⟩
    rw [afI,eq,List.all_append,ha]
    show (true && (nearF m p (atP ps i) (atP ps j) && true))=true
    rw [en];rfl
   | false =>
    rw [Bool.not_false,if_pos rfl]
    refine y8 (aah ?_)
    have:zM ps m i j=false:=by
     unfold zM
     rw [List.all_eq_false]
     exact⟨p,aem eq,by rw [en];decide⟩
    rw [this]
 ·rintro _ ⟨x,rfl,ha⟩
  rw [ad5,afL] at ha
  refine y8 (aah ?_)
  show PyData.bool true=.bool (zM ps m i j)
  unfold zM
  rw [ha]
noncomputable def zZ (la:List Int):List PyData:=.none :: la.map .int
theorem abZ {la:List Int} {a:Nat} (h:a<la.length):atI (zZ la) ((a+1:Nat):Int)=some (.int (la.getD a 0)):=by
 unfold atI ixN zZ
 rw [if_pos (by omega),if_pos (by rw [aew,ad5];omega)]
 show (PyData.none :: la.map .int)[_]?=_
 rw [aeu,List.getElem?_cons_succ,aee,ad4,ad7 h]
 rfl
theorem vR (la:List Int):atI (zZ la) ((0:Nat):Int)=some .none:=by
 unfold atI ixN zZ
 rw [if_pos (by omega),if_pos (by rw [aew];omega)]
 rfl
noncomputable def va (la:List Int):Nat->Nat->List Nat
 | 0,_=>[]
 | _+1,0=>[0]
 | n+1,a+1=>(a+1) :: va la n (la.getD a 0).toNat
theorem vb (la:List Int):∀ n a,(va la n a).reverse=qW la n a
 | 0,_=>rfl
 | _+1,0=>rfl
 | n+1,a+1=>by
  show ((a+1) :: va la n (la.getD a 0).toNat).reverse=_
  rw [aen,vb la n]
  rfl
noncomputable def adO (ρ:zi):Nat:=match (ρ[2]?:Option (Option DV)) with | some (some (.dat (.int a)))=>a.toNat+1 | _=>0
noncomputable abbrev acx (K:ad6):Sp:=spD K 1 (fun (c:List Int) xs=>xs=[.dat (.list (zZ c))]/\c.length<=60/\∀ i,i<c.length->∃ b:Nat,c[i]?=some (b:Int)/\b<=i) fun c r=>r=.list ((qW c (c.length+1) c.length).map fun (i:Nat)=>.int i)
theorem adi (F:Def K mg "way_to_the_end" zS pq) (uaa:mg "len"=none):FnIn P w K mg base (k+1) "way_to_the_end" pq (acx K):=by
 refine F.ok sc_way_to_the_end rfl fun fa cdv A outer s H E hr=>⟨_,(zd (zy (i:=1) sc_way_to_the_end.nd rfl (Or.inl rfl) (yw ze)) (zd (zy (i:=2) sc_way_to_the_end.nd rfl (Or.inl rfl) (zc zu (zA (zR (K:=K) rfl) rfl uaa aeL (za (pv 0) ze)) zb)) (zd (aaC aeF (yf abv (pv 2) aaw (z6 _)) (zd (jB (vK ae3 aeU aeV yR (pv 1) (za (pv 2) ze))) (zl (zy (i:=2) sc_way_to_the_end.nd rfl (Or.inl rfl) (zq (zt (K:=K) rfl) (pv 0) (pv 2) (fun _ _=>rfl)))))) (zl (zJ (abG (K:=K) rfl (pv 1) (acd aaE zb))))))),?_⟩
 rintro f xs la hl ⟨rfl,h60,hb⟩
 try dsimp only [yF,zj]
 refine aa2 (w:=w) (aa4 (qA (acm ⟨show 1<3 by decide,fun D=>?_⟩)))
 show PSm w K f [D] _ [some (.dat (.list (zZ la))),some (.own (f.M.length+0)),none] [OC.lst []] _
 refine jV (qT (qS (yK (qh (zg (zf rfl (zB (.inl ⟨_,rfl,_,rfl,zN ⟨_,rfl,?_⟩⟩))))))))
 have e0:(((zZ la).length:Nat):Int) - 1=((la.length:Nat):Int):=by unfold zZ;rw [aew,ad5];omega
 rw [e0]
 refine jV (abM (fun ρ cs=>(∃ (a n:Nat) (pre:List Nat),a<n/\a+pre.length<=la.length/\ρ=[some (.dat (.list (zZ la))),some (.own (f.M.length+0)),some (.dat (.int a))]/\cs=[.lst (pre.map fun (i:Nat)=>.int i)]/\pre++va la n a=va la (la.length+1) la.length) \/
   (ρ=[some (.dat (.list (zZ la))),some (.own (f.M.length+0)),some (.dat .none)]/\cs=[.lst ((va la (la.length+1) la.length).map fun (i:Nat)=>.int i)]))
  (fun ρ _=>adO ρ) (.inl ⟨la.length,la.length+1,[],by omega,by simp,rfl,rfl,rfl⟩) ?_)
 rintro _ _ (⟨a,n,pre,han,hpl,rfl,rfl,ew⟩ | ⟨rfl,rfl⟩)
 ·refine adK (jm (vT (zf rfl (.inr ⟨_,rfl,_,rfl,?_⟩))))
  rw [if_pos rfl]
  obtain⟨n,rfl⟩:∃ n',n=n'+1:=⟨n - 1,by omega⟩
  refine jV (aa3 (j:=0) rfl rfl (by rw [ad5];omega) (qS (zf rfl ?_)))
  cases a with
  | zero =>
   refine qT (qS (yo (zf rfl ⟨_,rfl,zf rfl ⟨_,rfl,.none,vR la,.inr ⟨rfl,?_⟩,by show 0<_;exact ae1 _⟩⟩)))
   rw [<-ew]
   show [OC.lst (pre.map (fun (i:Nat)=>PyData.int i)++[.int ((0:Nat):Int)])]=_
   rw [aeE]
   rfl
  | succ a =>
   obtain⟨b,eb,hba⟩:=hb a (by omega)
   have eg:la.getD a 0=(b:Int):=by rw [ad4,eb];rfl
   refine qT (qS (yo (zf rfl ⟨_,rfl,zf rfl ⟨_,rfl,_,abZ (by omega),.inl ⟨b,n,pre++[a+1],by omega,by rw [ael];show b+(pre.length+1)<=_;omega,?_,?_,?_⟩,?_⟩⟩)))
   ·rw [eg];rfl
   ·show [OC.lst (pre.map (fun (i:Nat)=>PyData.int i)++[.int ((a+1:Nat):Int)])]=_
    rw [aeE]
    rfl
   ·rw [<-ew]
    show _=pre++((a+1) :: va la n (la.getD a 0).toNat)
    rw [eg,List.append_assoc]
    rfl
   ·rw [eg]
    show ((b:Int)).toNat+1<((a+1:Nat):Int).toNat+1
    omega
 ·refine adK (jm (vT (zf rfl (.inl ⟨rfl,_,rfl,?_⟩))))
  rw [if_neg aef]
  refine aa5 ?_
  generalize hfu:(va la (la.length+1) la.length).map (fun (i:Nat)=>PyData.int i)=fu
  have ee:List.map (freed f.M.length [OC.lst fu]) [some (.dat (.list (zZ la))),some (.own (f.M.length+0)),some (.dat .none)]=[some (.dat (.list (zZ la))),some (.dat (.list fu)),some (.dat .none)]:=by simp [freed]
  rw [ee]
  refine y8 (PEdL.ped (adA (zf rfl ⟨_,rfl,aco (zN ⟨1,rfl,rfl,?_⟩)⟩)))
  rw [<-hfu,<- List.map_reverse,vb]
noncomputable def iD (i:Nat):PyData:=.int i
noncomputable abbrev v3 (K:ad6):Sp:=spD K 2 (fun (c:Pt×List Pt×Int) xs=>xs=[.dat (.list (c.2.1.map ptD)),.dat (.int c.2.2)]/\(∀ p∈c.2.1,Near c.1 p)/\0<c.2.1.length/\c.2.1.length<=60/\0<=c.2.2/\c.2.2<=10 ^ 60) fun c r=>r=.tuple [.int (qC c.2.1 c.2.2),.list ((ya c.2.1 c.2.2).map iD)]
theorem abj (F:Def K mg "least_kept" yh ph) (kl_least:vU K "least_kept"=true) (uaa:mg "len"=none) (uab:mg "range"=none) (uac:mg "min"=none) (uat:FnIn P w K mg base (k+1) "spans" pj (vZ K)) (uau:FnIn P w K mg base (k+1) "way_to_the_end" pq (acx K)):FnIn P w K mg base (k+2) "least_kept" ph (v3 K):=by
 refine F.okL sc_least_kept rfl kl_least fun fa cL Pt A outer s H E l1 l2 hr=>⟨_,(zd (zy (i:=2) sc_least_kept.nd rfl (Or.inr rfl) (yw (za zb ze))) (zd (zy (i:=3) sc_least_kept.nd rfl (Or.inl rfl) (yw (za aaw ze))) (zd (yH aeF rfl (yQ rfl uab (za zb (za (zA (zR (K:=K) rfl) rfl uaa aeL (za (pv 0) ze)) ze))) (zx (i:=4) sc_least_kept.nd rfl (Or.inr rfl) (Or.inl rfl)) (zd (jv (i:=5) (N:=["start","points","bound","at"]) (own:=1) (fr:=[0,1,4]) ⟨rfl,by decide +kernel,of_decide_eq_true (by kernel_rfl),of_decide_eq_true (by kernel_rfl),of_decide_eq_true (by kernel_rfl),rfl⟩ rfl sc_least_kept.nd rfl (Or.inl rfl) (ji rfl uab (za (pv 4) ze)) (fun _ _ _ _=>(zx (i:=0) (show (["start","points","bound","at"]:List Str).Nodup by decide +kernel) rfl (Or.inl rfl) (Or.inr rfl))) (fun _ _ _ _=>(abA (jb (K:=K) rfl (zw uat hr rfl (za (pv 1) (za (pv 0) (za (pv 3) (za (pv 2) ze))))) (fun _=>rfl)))) (fun _ _ _ _=>(pv 0)) rfl rfl (fun _=>rfl) (Or.inl rfl) rfl) (zd (zy (i:=6) sc_least_kept.nd rfl (Or.inl rfl) (aao (q:="least_kept") (c:=cL) (P:=Pt) (jy:=2) (K:=K) rfl hr rfl uac (za (pv 5) ze) (by decide +kernel) rfl l1 l2 rfl (of_decide_eq_true (by kernel_rfl)) rfl (fun _ _ _ _ _=>rfl) rfl rfl (of_decide_eq_true (by kernel_rfl)) rfl rfl rfl rfl rfl)) (zd (jB (vK ae3 aeU aeV yR (pv 2) (za (zc zT (zq (zt (K:=K) rfl) (pv 2) (pv 6) (fun _ _=>rfl)) zb) ze))) (zl (jB (vK ae3 aeU aeV yR (pv 3) (za (pv 6) ze)))))))) (zl (zJ (qr (za (zq (zt (K:=K) rfl) (pv 2) (acd aaE zb) (fun _ _=>rfl)) (za (zw uau hr rfl (za (pv 3) ze)) ze)))))))),?_⟩
 rintro f xs ⟨o,ps,m⟩ hl ⟨rfl,hn,h0,h60,m0,m1⟩
 try dsimp only [yF,zj]
 dsimp only at *
 refine aa2 (w:=w) (aa4 (qA (acq (zg (zN (zB ⟨[.int 1],rfl,aez rfl,show 2<7 by decide,fun D1=>?_⟩))))))
 refine aa4 (qA (acq (zg (aci (zB ⟨[.none],rfl,aez rfl,show 3<7 by decide,fun D2=>?_⟩)))))
 show PSm w K f [D1,D2] _ [some (.dat (.list (ps.map ptD))),some (.dat (.int m)),some (.own (f.M.length+0)),some (.own (f.M.length+1)),none,none,none] [OC.lst [.int 1],OC.lst [.none]] _
 refine jV (adL (jc (zg (zN (zg (qh (zg (zf rfl (zB (.inl ⟨_,rfl,zB ⟨1,_,rfl,?_,?_⟩⟩))))))))))
 ·rw [ad5];omega
 rw [ad5]
 have rl:(zO 1 (ps.length:Int)).length=ps.length - 1:=by unfold zO;simp
 refine⟨fun n ρ cs=>∃ x4 x5 x6,ρ=[some (.dat (.list (ps.map ptD))),some (.dat (.int m)),some (.own (f.M.length+0)),some (.own (f.M.length+1)),x4,x5,x6]/\cs=[OC.lst ((dpF ps m n).1.map .int),OC.lst (zZ (dpF ps m n).2)],⟨_,_,_,rfl,rfl⟩,?_,?_⟩
 ·rintro n d _ _ hd ⟨x4,x5,x6,rfl,rfl⟩
  have D:=qV ps m n
  obtain⟨hn1,rfl⟩:n+1<ps.length/\d=.int ((n+1:Nat):Int):=by
   have hl:=(ad9.mp hd).1
   rw [rl] at hl
   refine⟨by omega,?_⟩
   unfold zO at hd
   rw [aee,aeX (by omega)] at hd
   cases hd
   exact congrArg PyData.int (by omega)
  refine zG (jV (qT (qS (PEdO.ped (ac8 (A:=iD) (B:=iD) (fun i=>zM ps m i (n+1)) (ae5 (n+1)) (qw (zg (zf rfl (zB ⟨_,rfl,by omega,by omega,?_,by rw [aeN];omega,?_,?_⟩)))))))))
  ·unfold yz
   rw [aeu]
   rfl
  ·rintro Dl i ρ' es hi ho hes
   obtain⟨u,rfl⟩:=ho.one
   have hi':=aeP.mp hi
   refine zG (qg (zP (o,ps,i,n+1,m) (zg (zf rfl (zg (zf rfl (zg (zf rfl (zg (zf rfl (zB ⟨rfl,⟨rfl,hn,hi',hn1,h60,m0,m1⟩,?_⟩)))))))))))
   rintro _ rfl
   refine⟨_,rfl,rfl,?_⟩
   refine vY (fun h=>qx hes (zf rfl ⟨.mk1,rfl⟩)) fun h=>.mk1
  have eu:((ae5 (n+1)).filter fun i=>zM ps m i (n+1)).map iD=(usF ps m (n+1)).map .int:=by
   unfold usF
   rw [af7]
   rfl
  rw [eu]
  refine jV (qT (abQ (j:=0) (ks:=(dpF ps m n).1) rfl rfl (ad3 (zg (zf rfl (zB ⟨usF ps m (n+1),rfl,acw ps m n,fun b hb=>?_,fun M hM=>?_⟩))))))
  ·obtain⟨i,rfl,hi,_⟩:=us_mem.mp hb
   rw [D.fl]
   omega
  have eM:=abR hM
  obtain⟨b,eb,hbn,_⟩:=us_mem.mp (ql hM).1
  subst eb
  have gb:atI ((dpF ps m n).1.map PyData.int) ((b:Nat):Int)=some (.int ((dpF ps m n).1.getD b 0)):=by
   unfold atI ixN
   have hl:=D.fl
   rw [if_pos (by omega),if_pos (by rw [ad5];omega)]
   show ((dpF ps m n).1.map PyData.int)[_]?=_
   rw [aee,aeu,ad4,ad7 (by omega)]
   rfl
  refine jV (aa3 (j:=0) rfl rfl (by rw [ad5,D.fl];omega) (adf (adM (j:=0) rfl rfl (qS (zf rfl ⟨_,rfl,_,gb,_,rfl,qS (zN ⟨_,rfl,?_⟩)⟩)))))
  refine aa3 (j:=1) rfl rfl (by show (zZ (dpF ps m n).2).length<1000;unfold zZ;rw [aew,ad5,D.ll];omega) (qS (zf rfl ⟨_,_,_,rfl,?_⟩))
  have e1:(dpF ps m (n+1)).1=(dpF ps m n).1++[(dpF ps m n).1.getD b 0+1]:=by
   show (dpF ps m n).1++[_]=_
   rw [eM,aeu]
  have e2:(dpF ps m (n+1)).2=(dpF ps m n).2++[((b:Nat):Int)]:=by
   show (dpF ps m n).2++[_]=_
   rw [eM]
  rw [e1,e2,aeE]
  show [OC.lst ((dpF ps m n).1.map PyData.int++[.int ((dpF ps m n).1.getD b 0+1)]),OC.lst (zZ (dpF ps m n).2++[.int (b:Int)])]=_
  unfold zZ
  rw [aeE]
  rfl
 ·rintro _ _ ⟨x4,x5,x6,rfl,rfl⟩
  rw [rl]
  have D:=qV ps m (ps.length - 1)
  refine aa5 ?_
  generalize hA:(dpF ps m (ps.length - 1)).1.map PyData.int=fA
  generalize hB:zZ (dpF ps m (ps.length - 1)).2=lB
  have ee:∃ y4 y5 y6,List.map (freed f.M.length [OC.lst fA,OC.lst lB]) [some (.dat (.list (ps.map ptD))),some (.dat (.int m)),some (.own (f.M.length+0)),some (.own (f.M.length+1)),x4,x5,x6]=[some (.dat (.list (ps.map ptD))),some (.dat (.int m)),some (.dat (.list fA)),some (.dat (.list lB)),y4,y5,y6]:=⟨_,_,_,by simp [freed];exact⟨rfl,rfl,rfl⟩⟩
  obtain⟨y4,y5,y6,ee⟩:=ee
  rw [ee]
  subst hA hB
  have g1:atI ((dpF ps m (ps.length - 1)).1.map PyData.int) (-1)=some (.int (qC ps m)):=by
   have hl:=D.fl
   unfold atI ixN qC
   rw [if_neg (by decide),if_pos (by rw [ad5];omega),ad5]
   show ((dpF ps m (ps.length - 1)).1.map PyData.int)[_]?=_
   have e:((-1:Int)+(((dpF ps m (ps.length - 1)).1.length:Nat):Int)).toNat=ps.length - 1:=by omega
   rw [e,aee,ad4,ad7 (by omega)]
   rfl
  refine y8 (vO (zg (yo (zf rfl ⟨_,rfl,aco (zN ⟨1,rfl,_,rfl,_,g1,zg (zP (dpF ps m (ps.length - 1)).2 (zg (zf rfl (zB ⟨rfl,⟨rfl,by rw [D.ll];omega,fun i hi=>?_⟩,?_⟩))))⟩)⟩))))
  ·rw [D.ll] at hi
   obtain⟨b,h1,h2,_⟩:=D.last i hi
   exact⟨b,h1,by have:=h2.1;omega⟩
  rintro _ rfl
  refine zB ⟨_,rfl,aez rfl,?_⟩
  rw [D.ll,show ps.length - 1+1=ps.length by omega]
  rfl
noncomputable abbrev scr (ns:List Int):PyData:=.list (ns.map .int)
theorem v5 {K:ad6} {H:Hp} {a:Addr} {ns:List Int} (h:SqL K H a (ns.map V.int)):Rep K (hide H L2.f0) (scr ns) (.ref a):=by
 rw [zX]
 exact rep_list.mpr ⟨a,_,rfl,h,Reps.ints' ns⟩
theorem ab0 {K:ad6} {H:Hp} {v:V} {ns:List Int} (h:Rep K (hide H L2.f0) (scr ns) v):∃ a,v=.ref a/\SqL K H a (ns.map V.int):=by
 rw [zX] at h
 obtain⟨a,xs,rfl,h1,h2⟩:=rep_list.mp h
 rw [h2.ints] at h1
 exact⟨a,rfl,h1⟩
noncomputable def vE (K:ad6):Sp:=fun vs H Q _=>∃ (a:Addr) (ns:List Int) (i:Int),vs=[.ref a,.int i]/\SqL K H a (ns.map V.int)/\ns.length<=63/\0<=i/\i<=63 /\
 ∀ (p:Addr) (x y:Int) (H':Hp),Same H H'->H p=none->H' p=some (.lst [.int x,.int y])->0<=x->0<=y->y<2147483647->Q (.ref p) H'
noncomputable def v7 (K:ad6):Sp:=fun vs H Q _=>∃ (a:Addr) (ns:List Int),vs=[.ref a]/\SqL K H a (ns.map V.int)/\ns.length<=63/\∀ H',Q (.bl true) H'
theorem ab1 {K:ad6} {f:Fx} {t:TA} {ρ:zi} {R R':List DV->Prop} (h:PAd K f t ρ R) (i:∀ xs,R xs->R' xs):PAd K f t ρ R':=fun σ H Q e q=>h σ H Q e fun xs vs H' g r p=>q xs vs H' g r (i xs p)
theorem adj {K:ad6} {ρ:zi} {ns:List Int} {i:Int} {E2:XK} (h0:ρ[0]?=some (some (.dat (scr ns)))) (h1:ρ[1]?=some (some (.dat (.int i)))) (hl:ns.length<=63) (i0:0<=i) (i1:i<=63) :
  ∀ (σ:L2.St) (H:Hp) (Q:VK),EnvOk K L2.f0 ρ σ H->(∀ (p:Addr) (x y:Int) (H':Hp),Same H H'->H p=none->H' p=some (.lst [.int x,.int y])->0<=x->0<=y->y<2147483647->Q (.ref p) H')->vF (vE K) [] E2 (y7 (yG 0) (y7 (yG 1) vh)) σ H Q:=by
 intro σ H Q e q
 obtain⟨v0,hv0,r0⟩:=e.get 0 _ h0
 obtain⟨v1,hv1,r1⟩:=e.get 1 _ h1
 obtain⟨a,rfl,hS⟩:=ab0 r0
 have e1:v1=.int i:=rep_int.mp (show Rep K (hide H L2.f0) (.int i) v1 from r1)
 subst e1
 exact⟨_,hv0,_,hv1,a,ns,i,rfl,hS,hl,i0,i1,q⟩
theorem vc {n i:Nat} {d:PyData} (h:(yz n)[i]?=some d):i<n/\d=.int (i:Int):=by
 unfold yz at h
 have hl:=(ad9.mp h).1
 rw [ad5,aeN] at hl
 rw [aee,aeX hl] at h
 cases h
 exact⟨hl,rfl⟩
theorem jr {i j:Int} {n:Nat} {d:PyData} (h:(zO i j)[n]?=some d):d=.int (i+n)/\i+n<j:=by
 unfold zO at h
 have hl:=(ad9.mp h).1
 rw [ad5,aeN] at hl
 rw [aee,aeX hl] at h
 cases h
 exact⟨rfl,by omega⟩
theorem adk {ns:List Int} {k:Int} {j:Nat} (h0:(j:Int)=k) (h1:j<ns.length):atI (ns.map PyData.int) k=some (.int (ns.getD j 0)):=by
 subst h0
 unfold atI ixN
 rw [if_pos (by omega),if_pos (by rw [ad5];omega)]
 show (ns.map PyData.int)[_]?=_
 rw [aeu,aee,ad4,ad7 h1]
 rfl
noncomputable abbrev abk (K:ad6):Sp:=spD K 2 (fun (c:Int) xs=>xs=[.feed,.dat (.int c)]/\0<c/\c<1152921504606846976) fun c r=>∃ i:Int,r=.int i/\0<=i/\i<c
theorem ab2 (F:Def K mg "_law_draw" yB px):FnIn P w K mg base (k+1) "_law_draw" px (abk K):=by
 refine F.ok sc_law_draw rfl fun fa cdv A outer s H E hr=>⟨_,(zd (y3 (yf ace (zq (zt (K:=K) rfl) (pv 0) zb (fun _ _=>rfl)) (zc acK zb zb) (z6 _)) (zd (zy (i:=2) sc_law_draw.nd rfl (Or.inl rfl) (zc jj (zq (zt (K:=K) rfl) (pv 0) zb (fun _ _=>rfl)) (pv 1))) (zd (qp (zc qR (zq (zt (K:=K) rfl) (pv 0) zb (fun _ _=>rfl)) (pv 1)) (aaA (pv 0) zb set_list)) (zl (zJ (pv 2))))) ye) (zd (qp (zc jj (zc zT (zc zT (zc yY (zq (zt (K:=K) rfl) (pv 0) zb (fun _ _=>rfl)) zb) (zc jj (zq (zt (K:=K) rfl) (pv 0) zb (fun _ _=>rfl)) zb)) zb) zb) (aaA (pv 0) zb set_list)) (zl (zJ (zc jj (zc qR (zc jj (zc yY (zq (zt (K:=K) rfl) (pv 0) zb (fun _ _=>rfl)) zb) zb) zb) (pv 1)))))),?_⟩
 rintro f xs c hl ⟨rfl,c0,c1⟩
 try dsimp only [yF,zj]
 walk_at "w"
 split
 ·walk_at "w"
  exact afi _ c0
 ·walk_at "w"
  exact afi _ c0
theorem ab3 (F:Def K mg "_law_feed" yA pw) (uaa:mg "len"=none) (uaf:mg "abs"=none):FnIn P w K mg base (k+1) "_law_feed" pw (vE K):=by
 refine F.raw sc_law_feed (fun vs H Q E h=>?_) fun fa cdv A outer s H vs Q E hr hs=>⟨_,(zd (zy (i:=2) sc_law_feed.nd rfl (Or.inl rfl) zb) (zd (y3 (yf adv (zA (zR (K:=K) rfl) rfl uaa aeL (za (pv 0) ze)) zb (z6 _)) (zl (zy (i:=2) sc_law_feed.nd rfl (Or.inl rfl) (zq (zt (K:=K) rfl) (pv 0) (zc jj (pv 1) (zA (zR (K:=K) rfl) rfl uaa aeL (za (pv 0) ze))) (fun _ _=>rfl)))) ye) (zl (zJ (yw (za (zA (aaG) rfl uaf PyProof.Rows.boot_abs (za (pv 2) ze)) (za (zc zT (zc yY zb (pv 1)) zb) ze))))))),?_⟩
 ·obtain⟨a,ns,i,rfl,_⟩:=h
  rfl
 obtain⟨a,ns,i,rfl,hS,h63,i0,i1,q⟩:=hs
 have e0:EnvOk K L2.f0 (yL y2 [.dat (scr ns),.dat (.int i)]) (start y2 [.ref a,.int i]) H:=yT (.cons (v5 hS) (.cons (show RepV K L2.f0 H (.dat (.int i)) (.int i) from (rep_int (K:=K) (H:=hide H L2.f0)).mpr rfl) .nil)) (L2.fok0 H)
 refine aaR (D:={ nx:=fun ρ=>ρ=[some (.dat (scr ns)),some (.dat (.int i)),some (.dat (.int 0))],rt:=fun _=>False }) ?_ e0 ?_ (fun _ _ _ _ _ z=>z.elim) (fun _ z=>z) (fun _ z=>z)
 ·walk_at "w"
  rfl
 rintro _ σ1 H1 g1 e1 rfl
 refine aaR (D:={ nx:=fun ρ=>∃ c:Int,ρ=[some (.dat (scr ns)),some (.dat (.int i)),some (.dat (.int c))],rt:=fun _=>False }) ?_ e1 ?_ (fun _ _ _ _ _ z=>z.elim) (fun _ z=>z) (fun _ z=>z)
 ·walk_at "w"
  rw [ad5]
  by_cases h:0<ns.length
  ·rw [if_pos (by simpa using h)]
   walk_at "w"
   rw [ad5]
   have z0:=Int.emod_nonneg i (b:=(ns.length:Int)) (by omega)
   have z1:=afi i (b:=(ns.length:Int)) (by omega)
   refine⟨by omega,_,rfl,_,adk (j:=(i % (ns.length:Int)).toNat) (by omega) (by omega),?_⟩
   walk_at "w"
   exact⟨_,rfl⟩
  ·rw [if_neg (by simpa using h)]
   walk_at "w"
   exact⟨_,rfl⟩
 rintro _ σ2 H2 g2 e2 ⟨c,rfl⟩
 unfold acF
 have ss:Same H H2:=(L2.same0 g1).trans (L2.same0 g2)
 refine aaS (R:=fun ds=>∃ x y:Int,ds=[.int x,.int y]/\0<=x/\0<=y/\y<2147483647) ?_ e2 ?_
 ·walk_at "w"
  omega
 ·rintro p ds vs H3 g3 hn rs ⟨x,y,rfl,hx,hy,hy'⟩
  have sf:Same H H3:=ss.trans (L2.same0 g3)
  have ev:vs=[.int x,.int y]:=Reps.ints (ns:=[x,y]) rs
  subst ev
  exact q p x y _ (sf.trans (zU hn _)) (sf.free hn) zp hx hy hy'
theorem jX {x y:Int} {a b:Nat} (hx:x.natAbs<2 ^ a) (hy:y.natAbs<2 ^ b):(x * y).natAbs<2 ^ (a+b):=by
 rw [afC,Nat.pow_add]
 exact Nat.mul_lt_mul'' hx hy
theorem adP {x y:Int} {a:Nat} (hx:x.natAbs<2 ^ a) (hy:y.natAbs<2 ^ a):(x+y).natAbs<2 ^ (a+1):=by
 rw [af8]
 omega
theorem adQ {x y:Int} {a:Nat} (hx:x.natAbs<2 ^ a) (hy:y.natAbs<2 ^ a):(x - y).natAbs<2 ^ (a+1):=by
 rw [af8]
 omega
theorem nMx {x y:Int} {a:Nat} (hx:x.natAbs<2 ^ a) (hy:y.natAbs<2 ^ a):(mx x y).natAbs<2 ^ a:=by unfold mx;split <;> assumption
theorem nMn {x y:Int} {a:Nat} (hx:x.natAbs<2 ^ a) (hy:y.natAbs<2 ^ a):(mn x y).natAbs<2 ^ a:=by unfold mn;split <;> assumption
noncomputable abbrev v8 (K:ad6):Sp:=spD K 4 (fun (c:Pt×Pt×Pt×Pt×Int) xs=>xs=[.dat (ptD c.2.1),.dat (ptD c.2.2.1),.dat (ptD c.2.2.2.1),.dat (.int c.2.2.2.2)]/\Near c.1 c.2.1/\Near c.1 c.2.2.1/\Near c.1 c.2.2.2.1/\0<=c.2.2.2.2/\c.2.2.2.2<=10 ^ 60) fun c r=>r=.bool (nearF c.2.2.2.2 c.2.2.2.1 c.2.1 c.2.2.1)
theorem abl (F:Def K mg "_law_near" yC pz) (uac:mg "min"=none) (uad:mg "max"=none):FnIn P w K mg base (k+1) "_law_near" pz (v8 K):=by
 refine F.ok sc_law_near rfl fun fa cdv A outer s H E hr=>⟨_,(zd (zy (i:=4) sc_law_near.nd rfl (Or.inl rfl) (zc zu (zq (zv (K:=K) rfl) (pv 1) zb (fun _ _=>rfl)) (zq (zv (K:=K) rfl) (pv 0) zb (fun _ _=>rfl)))) (zd (zy (i:=5) sc_law_near.nd rfl (Or.inl rfl) (zc zu (zq (zv (K:=K) rfl) (pv 1) zb (fun _ _=>rfl)) (zq (zv (K:=K) rfl) (pv 0) zb (fun _ _=>rfl)))) (zd (zy (i:=6) sc_law_near.nd rfl (Or.inl rfl) (zA (jl rfl) rfl uad boot_max (za zb (za (zc zT (zc zH (pv 4) (pv 4)) (zc zH (pv 5) (pv 5))) ze)))) (zd (zy (i:=7) sc_law_near.nd rfl (Or.inl rfl) (zc zT (zc zH (zc zu (zq (zv (K:=K) rfl) (pv 2) zb (fun _ _=>rfl)) (zq (zv (K:=K) rfl) (pv 0) zb (fun _ _=>rfl))) (pv 4)) (zc zH (zc zu (zq (zv (K:=K) rfl) (pv 2) zb (fun _ _=>rfl)) (zq (zv (K:=K) rfl) (pv 0) zb (fun _ _=>rfl))) (pv 5)))) (zd (zy (i:=7) sc_law_near.nd rfl (Or.inl rfl) (zA (jl rfl) rfl uad boot_max (za zb (za (zA (j6 rfl) rfl uac boot_min (za (pv 7) (za (pv 6) ze))) ze)))) (zd (zy (i:=8) sc_law_near.nd rfl (Or.inl rfl) (zc zu (zc zH (zc zu (zq (zv (K:=K) rfl) (pv 2) zb (fun _ _=>rfl)) (zq (zv (K:=K) rfl) (pv 0) zb (fun _ _=>rfl))) (pv 6)) (zc zH (pv 7) (pv 4)))) (zd (zy (i:=9) sc_law_near.nd rfl (Or.inl rfl) (zc zu (zc zH (zc zu (zq (zv (K:=K) rfl) (pv 2) zb (fun _ _=>rfl)) (zq (zv (K:=K) rfl) (pv 0) zb (fun _ _=>rfl))) (pv 6)) (zc zH (pv 7) (pv 5)))) (zl (zJ (jC qJ (zc zT (zc zH (pv 8) (pv 8)) (zc zH (pv 9) (pv 9))) (zc zH (zc zH (zc zH (pv 3) (pv 3)) (pv 6)) (pv 6)) (z6 _))))))))))),?_⟩
 rintro f xs ⟨o,a,b,p,m⟩ hl ⟨rfl,na,nb,np,m0,m1⟩
 obtain⟨p1,p2,p3,p4⟩:=np
 obtain⟨a1,a2,a3,a4⟩:=na
 obtain⟨b1,b2,b3,b4⟩:=nb
 try dsimp only [yF,zj]
 unfold ptD
 dsimp only at *
 have hm:m.natAbs<2 ^ 200:=by
  have h1:(10:Nat) ^ 60<2 ^ 200:=by decide +kernel
  have h2:m.natAbs<=10 ^ 60:=by
   have:((10:Int) ^ 60)=(((10:Nat) ^ 60:Nat):Int):=by decide +kernel
   omega
  omega
 have c43:(2:Nat) ^ 43=8796093022208:=rfl
 have d1:(b.1 - a.1).natAbs<2 ^ 43:=by omega
 have d2:(b.2 - a.2).natAbs<2 ^ 43:=by omega
 have d3:(p.1 - a.1).natAbs<2 ^ 43:=by omega
 have d4:(p.2 - a.2).natAbs<2 ^ 43:=by omega
 have hu:∀ {x:Int} {n:Nat},x.natAbs<2 ^ n->n<=9000->x.natAbs<aan:=fun h hn=>jE h hn
 have cm:∀ {x y:Int} {i j:Nat},x.natAbs<2 ^ i->y.natAbs<2 ^ j->i<=9000->j<=9000->CMulH x y:=fun h1 h2 h3 h4=>⟨hu h1 h3,hu h2 h4⟩
 have q1:=cm d1 d1 (by decide) (by decide)
 have q2:=cm d2 d2 (by decide) (by decide)
 have q3:=cm d3 d1 (by decide) (by decide)
 have q4:=cm d4 d2 (by decide) (by decide)
 have hW:(mx 1 ((b.1 - a.1) * (b.1 - a.1)+(b.2 - a.2) * (b.2 - a.2))).natAbs<2 ^ 87:=nMx (by decide) (adP (jX d1 d1) (jX d2 d2))
 have hA:(mx 0 (mn ((p.1 - a.1) * (b.1 - a.1)+(p.2 - a.2) * (b.2 - a.2)) (mx 1 ((b.1 - a.1) * (b.1 - a.1)+(b.2 - a.2) * (b.2 - a.2))))).natAbs<2 ^ 87:=nMx (by decide) (nMn (adP (jX d3 d1) (jX d4 d2)) hW)
 generalize hWe:mx 1 ((b.1 - a.1) * (b.1 - a.1)+(b.2 - a.2) * (b.2 - a.2))=W at hW hA
 generalize hAe:mx 0 (mn ((p.1 - a.1) * (b.1 - a.1)+(p.2 - a.2) * (b.2 - a.2)) W)=al at hA
 have q5:=cm d3 hW (by decide) (by decide)
 have q6:=cm hA d1 (by decide) (by decide)
 have q7:=cm d4 hW (by decide) (by decide)
 have q8:=cm hA d2 (by decide) (by decide)
 have r1:((p.1 - a.1) * W - al * (b.1 - a.1)).natAbs<2 ^ 131:=adQ (jX d3 hW) (jX hA d1)
 have r2:((p.2 - a.2) * W - al * (b.2 - a.2)).natAbs<2 ^ 131:=adQ (jX d4 hW) (jX hA d2)
 have q9:=cm r1 r1 (by decide) (by decide)
 have qa:=cm r2 r2 (by decide) (by decide)
 have qb:=cm hm hm (by decide) (by decide)
 have qc:=cm (jX hm hm) hW (by decide) (by decide)
 have qd:=cm (jX (jX hm hm) hW) hW (by decide) (by decide)
 refine qj (fun ρ=>ρ=[some (.dat (.tuple [.int a.1,.int a.2])),some (.dat (.tuple [.int b.1,.int b.2])),some (.dat (.tuple [.int p.1,.int p.2])),some (.dat (.int m)),some (.dat (.int (b.1 - a.1))),none,none,none,none,none]) ?_ ?_
 ·walk_at "w"
  rfl
 rintro _ rfl
 refine qj (fun ρ=>ρ=[some (.dat (.tuple [.int a.1,.int a.2])),some (.dat (.tuple [.int b.1,.int b.2])),some (.dat (.tuple [.int p.1,.int p.2])),some (.dat (.int m)),some (.dat (.int (b.1 - a.1))),some (.dat (.int (b.2 - a.2))),none,none,none,none]) ?_ ?_
 ·walk_at "w"
  rfl
 rintro _ rfl
 refine qj (fun ρ=>ρ=[some (.dat (.tuple [.int a.1,.int a.2])),some (.dat (.tuple [.int b.1,.int b.2])),some (.dat (.tuple [.int p.1,.int p.2])),some (.dat (.int m)),some (.dat (.int (b.1 - a.1))),some (.dat (.int (b.2 - a.2))),some (.dat (.int W)),none,none,none]) ?_ ?_
 ·repeat (first | walk_at "dl" | refine And.intro (by assumption) ?_)
  rw [<-hWe]
  rfl
 rintro _ rfl
 refine qj (fun ρ=>ρ=[some (.dat (.tuple [.int a.1,.int a.2])),some (.dat (.tuple [.int b.1,.int b.2])),some (.dat (.tuple [.int p.1,.int p.2])),some (.dat (.int m)),some (.dat (.int (b.1 - a.1))),some (.dat (.int (b.2 - a.2))),some (.dat (.int W)),some (.dat (.int ((p.1 - a.1) * (b.1 - a.1)+(p.2 - a.2) * (b.2 - a.2)))),none,none]) ?_ ?_
 ·repeat (first | walk_at "dl" | refine And.intro (by assumption) ?_)
  rfl
 rintro _ rfl
 refine qj (fun ρ=>ρ=[some (.dat (.tuple [.int a.1,.int a.2])),some (.dat (.tuple [.int b.1,.int b.2])),some (.dat (.tuple [.int p.1,.int p.2])),some (.dat (.int m)),some (.dat (.int (b.1 - a.1))),some (.dat (.int (b.2 - a.2))),some (.dat (.int W)),some (.dat (.int al)),none,none]) ?_ ?_
 ·repeat (first | walk_at "dl" | refine And.intro (by assumption) ?_)
  rw [<-hAe]
  rfl
 rintro _ rfl
 repeat (first | walk_at "dl" | refine And.intro (by assumption) ?_)
 rw [<-aba]
 unfold vx
 dsimp only
 rw [hWe,hAe]
noncomputable def yD (ps:List Pt) (m:Int) (r:List Nat):Bool:=(ae5 (r.length - 1)).all fun t=>zM ps m (r.getD t 0) (r.getD (t+1) 0)
theorem acy {r:List Nat} {k:Int} {j:Nat} (h0:(j:Int)=k) (h1:j<r.length):atI (r.map iD) k=some (iD (r.getD j 0)):=by
 subst h0
 unfold atI ixN
 rw [if_pos (by omega),if_pos (by rw [ad5];omega)]
 show (r.map iD)[_]?=_
 rw [aeu,aee,ad4,ad7 h1]
 rfl
theorem getD_mem {r:List Nat} {j:Nat} (h:j<r.length):r.getD j 0∈r:=by
 rw [ad4,ad7 h]
 exact List.getElem_mem h
noncomputable abbrev v9 (K:ad6):Sp:=spD K 3 (fun (c:Pt×List Pt×List Nat×Int) xs=>xs=[.dat (.list (c.2.1.map ptD)),.dat (.list (c.2.2.1.map iD)),.dat (.int c.2.2.2)]/\(∀ p∈c.2.1,Near c.1 p)/\c.2.1.length<=60/\(∀ i∈c.2.2.1,i<c.2.1.length)/\c.2.2.1.length<=60/\0<=c.2.2.2/\c.2.2.2<=10 ^ 60) fun c r=>r=.bool (yD c.2.1 c.2.2.2 c.2.2.1)
theorem abm (F:Def K mg "_law_keeps" ym pA) (uaa:mg "len"=none) (uab:mg "range"=none) (uav:FnIn P w K mg base k "_law_near" pz (v8 K)):FnIn P w K mg base (k+1) "_law_keeps" pA (v9 K):=by
 refine F.ok sc_law_keeps rfl fun fa cdv A outer s H E hr=>⟨_,(zd (yH aeF rfl (yQ rfl uab (za zb (za (zA (zR (K:=K) rfl) rfl uaa aeL (za (pv 1) ze)) ze))) (zx (i:=3) sc_law_keeps.nd rfl (Or.inl rfl) (Or.inr rfl)) (zl (yH aeF rfl (yQ rfl uab (za (zc zT (zq (zt (K:=K) rfl) (pv 1) (zc zu (pv 3) zb) (fun _ _=>rfl)) zb) (za (zq (zt (K:=K) rfl) (pv 1) (pv 3) (fun _ _=>rfl)) ze))) (zx (i:=4) sc_law_keeps.nd rfl (Or.inl rfl) (Or.inr rfl)) (zl (y3 (ve (jb (K:=K) rfl (zw uav hr rfl (za (zq (zt (K:=K) rfl) (pv 0) (zq (zt (K:=K) rfl) (pv 1) (zc zu (pv 3) zb) (fun _ _=>rfl)) (fun _ _=>rfl)) (za (zq (zt (K:=K) rfl) (pv 0) (zq (zt (K:=K) rfl) (pv 1) (pv 3) (fun _ _=>rfl)) (fun _ _=>rfl)) (za (zq (zt (K:=K) rfl) (pv 0) (pv 4) (fun _ _=>rfl)) (za (pv 2) ze))))) (fun _=>rfl))) (zl (zJ ju)) ye))))) (zl (zJ ju))),?_⟩
 rintro f xs ⟨o,ps,r,m⟩ hl ⟨rfl,hn,h60,hin,r60,m0,m1⟩
 try dsimp only [yF,zj]
 dsimp only at *
 refine yp (qi (jc (zg (zN (zg (qh (zg (zf rfl (zB (.inl ⟨_,rfl,zB ⟨1,_,rfl,?_,?_⟩⟩))))))))))
 ·rw [ad5];omega
 rw [ad5]
 have rl:(zO 1 (r.length:Int)).length=r.length - 1:=by unfold zO;simp
 refine⟨fun n ρ=>∃ x4 x5,ρ=[some (.dat (.list (ps.map ptD))),some (.dat (.list (r.map iD))),some (.dat (.int m)),x4,x5]/\(ae5 n).all (fun t=>zM ps m (r.getD t 0) (r.getD (t+1) 0))=true,⟨_,_,rfl,rfl⟩,?_,?_⟩
 ·rintro n d _ hd ⟨x4,x5,rfl,ha⟩
  obtain⟨rfl,hn1⟩:=jr hd
  have e1:(n:Int)=1+(n:Int) - 1:=by omega
  have e2:((n+1:Nat):Int)=1+(n:Int):=by omega
  have l1:=hin _ (getD_mem (r:=r) (j:=n) (by omega))
  have l2:=hin _ (getD_mem (r:=r) (j:=n+1) (by omega))
  have g1:=acy e1 (r:=r) (by omega)
  have g2:=acy e2 (r:=r) (by omega)
  generalize hi0:r.getD n 0=i at *
  generalize hj:r.getD (n+1) 0=j at *
  have step:zM ps m i j=true->(ae5 (n+1)).all (fun t=>zM ps m (r.getD t 0) (r.getD (t+1) 0))=true:=fun h=>by
   rw [List.range_succ,List.all_append,ha]
   show (true && (zM ps m (r.getD n 0) (r.getD (n+1) 0) && true))=true
   rw [hi0,hj,h]
   rfl
  refine zG (qi (jc (zg (yK (yo (zf rfl ⟨_,rfl,yK (zf rfl ⟨_,rfl,zN ⟨_,rfl,_,rfl,_,g1,_,rfl,zN ⟨_,rfl,zg (yo (zf rfl ⟨_,rfl,zf rfl ⟨_,rfl,_,g2,zB ⟨_,_,rfl,by omega,?_⟩⟩⟩))⟩⟩⟩)⟩))))))
  refine⟨fun q ρ=>∃ x5,ρ=[some (.dat (.list (ps.map ptD))),some (.dat (.list (r.map iD))),some (.dat (.int m)),some (.dat (.int (1+(n:Int)))),x5]/\∀ t,i<t->t<i+1+q->nearF m (atP ps t) (atP ps i) (atP ps j)=true,⟨_,rfl,fun t h1 h2=>by omega⟩,?_,?_⟩
  ·rintro q d _ hd2 ⟨x5,rfl,hq⟩
   obtain⟨rfl,hq1⟩:=jr hd2
   have e3:(i:Int)+1+(q:Int)=((i+1+q:Nat):Int):=by omega
   rw [e3]
   refine zG (aaj (vP (qg (zP (o,atP ps i,atP ps j,atP ps (i+1+q),m) (zg (yo (zf rfl ⟨_,rfl,yo (zf rfl ⟨_,rfl,yK (zf rfl ⟨_,rfl,zN ⟨_,rfl,_,rfl,_,g1,_,rfl,_,q0 l1,zg (yo (zf rfl ⟨_,rfl,yo (zf rfl ⟨_,rfl,zf rfl ⟨_,rfl,_,g2,_,rfl,_,q0 l2,zg (yo (zf rfl ⟨_,rfl,zf rfl ⟨_,rfl,_,q0 (by omega),zg (zf rfl (zB ⟨rfl,⟨rfl,jf hn l1,jf hn l2,jf hn (by omega),m0,m1⟩,?_⟩))⟩⟩))⟩⟩)⟩))⟩⟩)⟩)⟩)))))))
   rintro _ rfl
   refine⟨_,rfl,?_⟩
   dsimp only
   cases en:nearF m (atP ps (i+1+q)) (atP ps i) (atP ps j) with
   | true =>
    rw [afb,if_neg aef]
    refine jO ⟨_,rfl,fun t h1 h2=>?_⟩
    by_cases e:t=i+1+q
    ·rw [e];exact en
    ·exact hq t h1 (by omega)
   | false =>
    rw [Bool.not_false,if_pos rfl]
    refine y8 (aah ?_)
    have:yD ps m r=false:=by
     unfold yD
     rw [List.all_eq_false]
     refine⟨n,aeP.mpr (by omega),fun z=>?_⟩
     rw [hi0,hj] at z
     have:=(yi (by omega)).mp z (i+1+q) (by omega) (by omega)
     rw [en] at this
     cases this
    rw [this]
  ·rintro _ ⟨x5,rfl,hq⟩
   refine⟨_,_,rfl,step ((yi (by omega)).mpr fun t h1 h2=>hq t h1 ?_)⟩
   unfold zO
   simp
   omega
 ·rintro _ ⟨x4,x5,rfl,ha⟩
  rw [rl] at ha
  refine y8 (aah ?_)
  unfold yD
  rw [ha]
noncomputable def aat (r:List Nat):PyData:=.list (r.map iD)
structure RowUp (k:Nat) (r:List Nat):Prop where
 len:r.length<=k
 ne:0<r.length
 fst:r[0]?=some 0
 up:∀ t,t+1<r.length->r.getD t 0<r.getD (t+1) 0
 lt:∀ i∈r,i<k
theorem RowUp.snoc {k:Nat} {r:List Nat} (h:RowUp k r):RowUp (k+1) (r++[k]):=by
 obtain⟨a,b,c,d,e⟩:=h
 refine⟨by rw [ael];show r.length+1<=_;omega,by simp,by rw [ad8 b];exact c,fun t ht=>?_,fun i hi=>?_⟩
 ·rw [ael] at ht
  have ht':t+1<=r.length:=Nat.le_of_lt_succ ht
  have g1:(r++[k]).getD t 0=r.getD t 0:=by rw [ad4,ad8 (by omega),ad4]
  by_cases z:t+1=r.length
  ·have g2:(r++[k]).getD (t+1) 0=k:=by rw [ad4,aec (by omega),z,ae8];rfl
   rw [g1,g2]
   exact e _ (getD_mem (by omega))
  ·have g2:(r++[k]).getD (t+1) 0=r.getD (t+1) 0:=by rw [ad4,ad8 (by omega),ad4]
   rw [g1,g2]
   exact d t (by omega)
 ·rcases aeA.mp hi with hi | hi
  ·have:=e i hi;omega
  ·rw [aey.mp hi];omega
theorem RowUp.more {k:Nat} {r:List Nat} (h:RowUp k r):RowUp (k+1) r:=⟨by have:=h.len;omega,h.ne,h.fst,h.up,fun i hi=>by have:=h.lt i hi;omega⟩
theorem vd (rows:List (List Nat)) (k:Nat):(rows.map fun r=>r++[k]).map aat=rows.map fun r=>PyData.list (r.map iD++[.int (k:Int)]):=by
 rw [af7]
 refine List.map_congr_left fun r _=>?_
 show PyData.list ((r++[k]).map iD)=_
 rw [aeE]
 rfl
noncomputable abbrev abn (K:ad6):Sp:=spD K 1 (fun (c:Nat) xs=>xs=[.dat (.int c)]/\2<=c/\c<=8) fun c r=>∃ rows:List (List Nat),r=.list (rows.map aat)/\rows.length<=64/\∀ r∈rows,RowUp c r/\r[r.length - 1]?=some (c - 1)
theorem ab4 (F:Def K mg "_law_rows_of_places" zE pB) (uab:mg "range"=none):FnIn P w K mg base (k+1) "_law_rows_of_places" pB (abn K):=by
 refine F.ok sc_law_rows_of_places rfl fun fa cdv A outer s H E hr=>⟨_,(zd (zy (i:=1) sc_law_rows_of_places.nd rfl (Or.inl rfl) (yw (za (yw (za zb ze)) ze))) (zd (yH aeF rfl (yQ rfl uab (za zb (za (zc zu (pv 0) zb) ze))) (zx (i:=2) sc_law_rows_of_places.nd rfl (Or.inr rfl) (Or.inl rfl)) (zl (zy (i:=1) sc_law_rows_of_places.nd rfl (Or.inl rfl) (zc (jT (K:=K) rfl) (pv 1) (qP (N:=["_law_row","_law_k"]) (own:=1) (fr:=[2]) ⟨rfl,by decide +kernel,of_decide_eq_true (by kernel_rfl),of_decide_eq_true (by kernel_rfl),of_decide_eq_true (by kernel_rfl),rfl⟩ rfl (yM (K:=K) rfl (pv 1)) (fun _ _ _ _=>(zx (i:=0) (show (["_law_row","_law_k"]:List Str).Nodup by decide +kernel) rfl (Or.inl rfl) (Or.inr rfl))) (fun _ _ _ _=>qv) (fun _ _ _ _=>(zc (jT (K:=K) rfl) (pv 0) (yw (za (pv 1) ze)))) rfl rfl (fun _=>rfl)))))) (zl (zJ (qP (N:=["_law_row","_law_many"]) (own:=1) (fr:=[0]) ⟨rfl,by decide +kernel,of_decide_eq_true (by kernel_rfl),of_decide_eq_true (by kernel_rfl),of_decide_eq_true (by kernel_rfl),rfl⟩ rfl (yM (K:=K) rfl (pv 1)) (fun _ _ _ _=>(zx (i:=0) (show (["_law_row","_law_many"]:List Str).Nodup by decide +kernel) rfl (Or.inl rfl) (Or.inr rfl))) (fun _ _ _ _=>qv) (fun _ _ _ _=>(zc (jT (K:=K) rfl) (pv 0) (yw (za (zc zu (pv 1) zb) ze)))) rfl rfl (fun _=>rfl)))))),?_⟩
 rintro f xs c hl ⟨rfl,c0,c1⟩
 try dsimp only [yF,zj]
 refine qj (fun ρ=>ρ=[some (.dat (.int c)),some (.dat (.list ([[0]].map aat))),none]) ?_ ?_
 ·walk_at "w"
  rfl
 rintro _ rfl
 refine yp (qi (jc (zg (zN (zg (yK (zf rfl ⟨_,rfl,zN ⟨_,rfl,zB ⟨1,_,rfl,by omega,?_⟩⟩⟩)))))))
 have rl:(zO 1 ((c:Int) - 1)).length=c - 2:=by unfold zO;simp;omega
 refine⟨fun n ρ=>∃ x2 rows,ρ=[some (.dat (.int c)),some (.dat (.list (rows.map aat))),x2]/\rows.length=2 ^ n/\∀ r∈rows,RowUp (n+1) r,⟨_,[[0]],rfl,rfl,fun r hr=>by
   rw [aey.mp hr]
   exact⟨aej _,ae1 _,rfl,fun t ht=>by simp at ht,fun i hi=>by simp at hi;omega⟩⟩,?_,?_⟩
 ·rintro n d _ hd ⟨x2,rows,rfl,hlen,hrows⟩
  obtain⟨rfl,hn1⟩:=jr hd
  have e1:(1:Int)+(n:Int)=((n+1:Nat):Int):=by omega
  rw [e1]
  have hp:2 ^ n<=2 ^ 5:=afe (by decide) (by omega)
  refine zG (jP (vv (zf rfl ⟨_,rfl,PEdO.ped (aaX (A:=aat) (B:=fun r=>PyData.list (r.map iD++[.int ((n+1:Nat):Int)])) rows (jR (zf rfl ⟨_,rfl,rfl,by omega,?_,?_⟩)))⟩)))
  ·rintro Dl r ρ' es hr2 ho hes
   obtain⟨u,rfl⟩:=ho.one
   have:=(hrows r hr2).len
   refine zG (vQ ?_)
   rw [if_pos rfl]
   refine qx hes (vv (zf rfl ⟨_,rfl,aaO (zg (zf rfl (zB ⟨_,rfl,aez rfl,_,rfl,?_,.mk1,?_⟩)))⟩))
   ·rw [ad5]
    show r.length+1<=1000
    omega
   ·rfl
  ·refine⟨_,rfl,?_,zG ⟨some (.dat (.int ((n+1:Nat):Int))),rows++rows.map (fun r=>r++[n+1]),?_,?_,fun r hr=>?_⟩⟩
   ·rw [ad5,ad5]
    omega
   ·rw [aeE,vd]
    rfl
   ·rw [ael,ad5,hlen,af8]
    omega
   ·rcases aeA.mp hr with hr | hr
    ·exact (hrows r hr).more
    ·obtain⟨q,hq,rfl⟩:=afm.mp hr
     exact (hrows q hq).snoc
 ·rintro _ ⟨x2,rows,rfl,hlen,hrows⟩
  rw [rl] at hlen hrows
  have hp:2 ^ (c - 2)<=2 ^ 6:=afe (by decide) (by omega)
  have ec:((c:Int) - 1)=((c - 1:Nat):Int):=by omega
  refine y8 (PEdO.ped (aaX (A:=aat) (B:=fun r=>PyData.list (r.map iD++[.int ((c - 1:Nat):Int)])) rows (jR (zf rfl ⟨_,rfl,rfl,by omega,?_,?_⟩))))
  ·rintro Dl r ρ' es hr2 ho hes
   obtain⟨u,rfl⟩:=ho.one
   have:=(hrows r hr2).len
   refine zG (vQ ?_)
   rw [if_pos rfl]
   refine qx hes (vv (zf rfl ⟨_,rfl,aaO (zg (yK (zf rfl ⟨_,rfl,zN ⟨_,rfl,zB ⟨_,rfl,aez rfl,_,rfl,?_,.mk1,?_⟩⟩⟩)))⟩))
   ·rw [ad5]
    show r.length+1<=1000
    omega
   ·rw [ec]
  ·refine⟨rows.map fun r=>r++[c - 1],by rw [vd],by rw [ad5];omega,fun r hr=>?_⟩
   obtain⟨q,hq,rfl⟩:=afm.mp hr
   have hu:=hrows q hq
   rw [show c - 2+1=c - 1 by omega] at hu
   have hs:=hu.snoc
   rw [show c - 1+1=c by omega] at hs
   exact⟨hs,by rw [ael,aec (by simp)];simp⟩
theorem aau {ps:List Pt} {m:Int} {r:List Nat} (hu:RowUp ps.length r) (hl:r[r.length - 1]?=some (ps.length - 1)) (hk:yD ps m r=true):(ya ps m).length<=r.length:=by
 have hn:=hu.ne
 have hlt:=hu.lt
 have hne:0<ps.length:=Nat.lt_of_le_of_lt (ae4 _) (hlt _ (getD_mem hn))
 have R:=abd (E:=Ed ps m) (r.length - 1) r (by omega) hu.fst fun t ht=>⟨hu.up t ht,ae2.mp hk t (aeP.mpr (by omega))⟩
 rw [ad4,hl] at R
 exact (yu ps m hne).2 _ R.path
theorem adl {f:Addr} {fd:FuncData} (F:Fun K "law" "law" jx f fd) (uaa:mg "len"=none) (uab:mg "range"=none) (uad:mg "max"=none) (uac:mg "min"=none) (uag:mg "list"=none) (uah:mg "reversed"=none)
  (uaw:FnIn P w K mg base k "_law_feed" pw (vE K)) (uae:FnIn P w K mg base k "_law_draw" px (abk K)) (uai:FnIn P w K mg base k "least_kept" ph (v3 K))
  (uaq:FnIn P w K mg base k "_law_keeps" pA (v9 K)) (uax:FnIn P w K mg base k "_law_rows_of_places" pB (abn K)) :
  FnOk P w K mg base CX0 (k+1) f fd pC (v7 K):=by
 refine F.ok sc_law (fun vs H Q E h=>?_) fun cdv A outer s H vs Q E hr hs=>⟨_,(zd (yH aeF rfl (ji rfl uab (za (zA (jl rfl) rfl uad boot_max (za zb (za (zA (j6 rfl) rfl uac boot_min (za zb (za (zA (zR (K:=K) rfl) rfl uaa aeL (za (pv 0) ze)) ze))) ze))) ze)) (zx (i:=1) sc_law.nd rfl (Or.inl rfl) (Or.inr rfl)) (zd (zy (i:=2) sc_law.nd rfl (Or.inl rfl) (zw uaw hr rfl (za (pv 0) (za (pv 1) ze)))) (zd (zy (i:=3) sc_law.nd rfl (Or.inl rfl) (zc zT zb (zw uae hr rfl (za (pv 2) (za zb ze))))) (zd (zy (i:=4) sc_law.nd rfl (Or.inl rfl) (zc zT zb (zw uae hr rfl (za (pv 2) (za zb ze))))) (zd (zy (i:=5) sc_law.nd rfl (Or.inl rfl) (yw ze)) (zd (yH aeF rfl (ji rfl uab (za (zc zT zb (zw uae hr rfl (za (pv 2) (za zb ze)))) ze)) (zx (i:=6) sc_law.nd rfl (Or.inl rfl) (Or.inr rfl)) (zl (jB (vK ae3 aeU aeV yR (pv 5) (za (qr (za (zc yY zb (zw uae hr rfl (za (pv 2) (za (pv 3) ze)))) (za (zc yY zb (zw uae hr rfl (za (pv 2) (za (pv 4) ze)))) ze))) ze))))) (zd (zy (i:=7) sc_law.nd rfl (Or.inl rfl) (zw uae hr rfl (za (pv 2) (za zb ze)))) (zd (qp (zw uai hr rfl (za (pv 5) (za (pv 7) ze))) (yU (K:=K) (n:=2) rfl rfl (zI (zx (i:=8) sc_law.nd rfl (Or.inl rfl) (Or.inr rfl)) (zI (zx (i:=9) sc_law.nd rfl (Or.inl rfl) (Or.inr rfl)) yP)))) (zd (y3 (PW.pt (ab6 (ve (jb (K:=K) rfl (zw uaq hr rfl (za (pv 5) (za (pv 9) (za (pv 7) ze)))) (fun _=>rfl))) (aax (yf (vp (K:=K) rfl hr.units) (pv 8) (zA (zR (K:=K) rfl) rfl uaa aeL (za (pv 9) ze)) (z6 _))))) (zl (zJ ju)) ye) (zd (yH aeF rfl (yM (K:=K) rfl (zw uax hr rfl (za (zA (zR (K:=K) rfl) rfl uaa aeL (za (pv 5) ze)) ze))) (zx (i:=10) sc_law.nd rfl (Or.inl rfl) (Or.inr rfl)) (zl (y3 (PW.pt (acE (yf adu (zA (zR (K:=K) rfl) rfl uaa aeL (za (pv 10) ze)) (pv 8) (z6 _)) (abq (jb (K:=K) rfl (zw uaq hr rfl (za (pv 5) (za (pv 10) (za (pv 7) ze)))) (fun _=>rfl))))) (zl (zJ ju)) ye))) (zd (jv (i:=11) (N:=["_law_x","_law_y"]) (own:=2) (fr:=[]) ⟨rfl,by decide +kernel,of_decide_eq_true (by kernel_rfl),of_decide_eq_true (by kernel_rfl),of_decide_eq_true (by kernel_rfl),rfl⟩ rfl sc_law.nd rfl (Or.inl rfl) (yM (K:=K) rfl (pv 5)) (fun _ _ _ _=>(yU (K:=K) (n:=2) rfl rfl (zI (zx (i:=0) (show (["_law_x","_law_y"]:List Str).Nodup by decide +kernel) rfl (Or.inl rfl) (Or.inr rfl)) (zI (zx (i:=1) (show (["_law_x","_law_y"]:List Str).Nodup by decide +kernel) rfl (Or.inl rfl) (Or.inr rfl)) yP)))) (fun _ _ _ _=>qv) (fun _ _ _ _=>(qr (za (pv 1) (za (pv 0) ze)))) rfl rfl (fun _=>rfl) (Or.inl rfl) rfl) (zl (y3 (PW.pt (ab6 (yf (vp (K:=K) rfl hr.units) (zq (zv (K:=K) rfl) (zw uai hr rfl (za (vt (K:=K) rfl rfl rfl uag PyProof.Rows.boot_list rfl uah boot_reversed (pv 5)) (za (pv 7) ze))) zb (fun _ _=>rfl)) (pv 8) (z6 _)) (aax (yf (vp (K:=K) rfl hr.units) (zq (zv (K:=K) rfl) (zw uai hr rfl (za (pv 11) (za (pv 7) ze))) zb (fun _ _=>rfl)) (pv 8) (z6 _))))) (zl (zJ ju)) ye))))))))))))) (zl (zJ ju))),?_⟩
 ·obtain⟨a,ns,rfl,_⟩:=h
  rfl
 obtain⟨a,ns,rfl,hS,h63,q⟩:=hs
 have e0:EnvOk K L2.f0 (yL vX [.dat (scr ns)]) (start vX [.ref a]) H:=yT (.cons (v5 hS) .nil) (L2.fok0 H)
 suffices h:PSd K L2.f0 _ (yL vX [.dat (scr ns)]) { nx:=fun _=>False,rt:=fun d=>d=.bool true } from
  h _ H _ e0 (fun _ _ _ _ _ z=>z.elim) (fun d v H' _ r z=>by
   subst z
   rw [rep_bool.mp r]
   exact q H') (fun _ _ _ _ _ z=>z) (fun _ _ _ _ _ z=>z)
 refine yp (qi (qw (ab1 (R:=fun xs=>∃ j:Int,xs=[.dat (.int j)]/\0<=j/\j<=63) ?_ ?_)))
 ·walk_at "w"
  rw [ad5]
  split <;> split <;> omega
 rintro _ ⟨j,rfl,j0,j1⟩
 refine⟨j,rfl,by omega,by omega,fun i ρ=>∃ x1 x2 x3 x4 x5 x6 x7 x8 x9 x10 x11,ρ=[some (.dat (scr ns)),x1,x2,x3,x4,x5,x6,x7,x8,x9,x10,x11],⟨_,_,_,_,_,_,_,_,_,_,_,rfl⟩,?_,?_⟩
 ·rintro i d _ hi ⟨x1,x2,x3,x4,x5,x6,x7,x8,x9,x10,x11,rfl⟩
  obtain⟨hi,rfl⟩:=vc hi
  refine zG (ac6 (adj rfl rfl h63 (by omega) (by omega)) fun p=>?_)
  refine yp (jP (yK (zN ⟨1,rfl,zP 5 ?_⟩)))
  walk_at "w"
  rintro _ ⟨wd,rfl,w0,w1⟩
  refine⟨_,rfl,zG (yp (jP (yK (zN ⟨1,rfl,zP 4 ?_⟩))))⟩
  walk_at "w"
  rintro _ ⟨hg,rfl,g0,g1⟩
  refine⟨_,rfl,zG (adD (acm ⟨show 5<12 by decide,fun D=>?_⟩))⟩
  refine adC (qw (zg (yK (zN ⟨2,rfl,zP 7 ?_⟩))))
  walk_at "w"
  rintro _ ⟨mn,rfl,n0,n1⟩
  refine⟨_,rfl,zB ⟨_,rfl,by omega,by omega,fun n ρ es=>∃ (x6:Option DV) (ps:List Pt),ρ=[some (.dat (scr ns)),some (.dat (.int i)),some .feed,some (.dat (.int (1+wd))),some (.dat (.int (1+hg))),some (.own 0),x6,x7,x8,x9,x10,x11]/\es=ps.map ptD/\ps.length=n/\∀ p∈ps,Near (0,0) p,⟨_,[],rfl,rfl,rfl,(fun p hp=>by cases hp)⟩,?_,?_⟩⟩
  ·rintro n d _ _ hd ⟨x6,ps,rfl,rfl,hps,hnr⟩
   obtain⟨hn,rfl⟩:=vc hd
   refine zG (adB rfl (by rw [ad5];omega) (vO (zg (jN (zN ⟨3,rfl,zP (1+wd) ?_⟩)))))
   walk_at "w"
   rintro _ ⟨z,rfl,z0,z1⟩
   refine⟨_,rfl,Or.inl ⟨by decide,by decide⟩,zg (jN (zN ⟨3,rfl,zP (1+hg) ?_⟩))⟩
   walk_at "w"
   rintro _ ⟨y,rfl,y0,y1⟩
   refine⟨_,rfl,Or.inl ⟨by decide,by decide⟩,zB ⟨_,rfl,aez rfl,_,ps++[(3 * z,3 * y)],rfl,by simp [ptD],by rw [ael,hps];rfl,fun p hp=>?_⟩⟩
   rcases aeA.mp hp with hp | hp
   ·exact hnr p hp
   ·rw [aey.mp hp]
    exact⟨by show 0<=3 * z;omega,by show 3 * z<=0+4398046511104;omega,by show 0<=3 * y;omega,by show 3 * y<=0+4398046511104;omega⟩
  rintro _ _ ⟨x6,ps,rfl,rfl,hps,hnr⟩
  refine⟨rfl,?_⟩
  have hlen:(yz (2+mn).toNat).length=(2+mn).toNat:=by unfold yz;simp
  rw [hlen] at hps
  have p2:2<=ps.length:=by omega
  have p8:ps.length<=8:=by omega
  have pp:0<ps.length:=by omega
  have p60:ps.length<=60:=by omega
  refine yp (jP (zP 7 ?_))
  walk_at "w"
  rintro _ ⟨bd,rfl,b0,b1⟩
  have b60:bd<=10 ^ 60:=Int.le_trans (show bd<=7 by omega) (by decide)
  have hrow:=yt ps bd (by omega)
  have hfx:=hrow.1.facts
  have hkl:(ya ps bd).length<=60:=by have:=hrow.1.bnd.2;omega
  have hkm:∀ i∈ya ps bd,i<ps.length:=fun i hi=>by have:=hrow.1.bnd.1 i hi;omega
  refine zG (yp (jP (zP ((0,0),ps,bd) (zg (zf rfl (zg (zf rfl (zB ⟨rfl,⟨rfl,hnr,pp,p60,b0,b60⟩,?_⟩))))))))
  rintro _ rfl
  dsimp only
  refine aaP rfl (y9 (zG (y9 (zG (vn ?_)))))
  refine yp (aaj (acW (vP (qg (zP ((0,0),ps,ya ps bd,bd) (zg (zf rfl (zg (zf rfl (zg (zf rfl (zB ⟨rfl,⟨rfl,hnr,p60,hkm,hkl,b0,b60⟩,?_⟩))))))))))))
  rintro _ rfl
  dsimp only
  have hkeep:yD ps bd (ya ps bd)=true:=by
   unfold yD
   rw [ae2]
   exact fun t ht=>(hfx.2.2.2 t (by have:=aeP.mp ht;omega)).2
  refine⟨_,rfl,?_⟩
  rw [hkeep,afb,if_neg aef]
  walk_at "w"
  rw [if_pos rfl,hrow.2,ad5,afX _ rfl,afb,if_neg aef]
  refine jO (yp (qi (jR (zP ps.length (zg (qh (zg (zf rfl (zB (.inl ⟨_,rfl,zB ⟨rfl,⟨by rw [ad5],p2,p8⟩,?_⟩⟩))))))))))
  rintro _ ⟨rows,rfl,hrl,hrows⟩
  refine⟨_,rfl,fun n ρ=>∃ y6 y10 y11,ρ=[some (.dat (scr ns)),some (.dat (.int i)),some .feed,some (.dat (.int (1+wd))),some (.dat (.int (1+hg))),some (.dat (.list (ps.map ptD))),y6,some (.dat (.int bd)),some (.dat (.int ((ya ps bd).length:Nat))),some (.dat (.list ((ya ps bd).map iD))),y10,y11],⟨_,_,_,rfl⟩,?_,?_⟩
  ·rintro n d _ hd ⟨y6,y10,y11,rfl⟩
   rw [aee] at hd
   cases eq:rows[n]? with
   | none=>rw [eq] at hd;cases hd
   | some r =>
    rw [eq] at hd
    cases hd
    obtain⟨hu,hlast⟩:=hrows r (aem eq)
    have ul:=hu.len
    refine zG (aaj (ack (jm (acj (qh (zg (zf rfl (zB (.inl ⟨_,rfl,_,rfl,zf rfl ⟨_,rfl,_,rfl,?_⟩⟩)))))))))
    rw [ad5]
    refine vY (fun h=>?_) fun h=>?_
    ·refine qg (zP ((0,0),ps,r,bd) (zg (zf rfl (zg (zf rfl (zg (zf rfl (zB ⟨rfl,⟨rfl,hnr,p60,hu.lt,aeC ul p60,b0,b60⟩,?_⟩))))))))
     rintro _ rfl
     refine⟨_,rfl,?_⟩
     dsimp only
     have h':=of_decide_eq_true h
     have:yD ps bd r=false:=by
      cases e:yD ps bd r with
      | false=>rfl
      | true =>
       have:=aau hu hlast e
       omega
     rw [this,if_neg aef]
     exact jO ⟨_,_,_,rfl⟩
    ·rw [if_neg aef]
     exact jO ⟨_,_,_,rfl⟩
  rintro _ ⟨y6,y10,y11,rfl⟩
  refine yp (jP (PEdO.ped (aaX (A:=ptD) (B:=fun p=>ptD (tip p)) ps (jR (zf rfl ⟨_,rfl,rfl,by omega,?_,?_⟩)))))
  ·rintro Dl z ρ' es hz ho hes
   obtain⟨u,v,rfl⟩:=ho.two
   refine aaP rfl (y9 (zG (y9 (zG (vn (vQ ?_))))))
   rw [if_pos rfl]
   exact qx hes (vO (zg (zf rfl (zg (zf rfl (zB ⟨_,rfl,aez rfl,.mk2,rfl⟩))))))
  have em:ps.map (fun p=>ptD (tip p))=(ps.map tip).map ptD:=by rw [af7];rfl
  rw [em]
  have nt:∀ p∈ps.map tip,Near (0,0) p:=fun p hp=>by
   obtain⟨z,hz,rfl⟩:=afm.mp hp
   obtain⟨h1,h2,h3,h4⟩:=hnr z hz
   exact⟨h3,h4,h1,h2⟩
  have nv:∀ p∈ps.reverse,Near (0,0) p:=fun p hp=>hnr p (afp.mp hp)
  refine zG (aaj (acW (jm (aaM (aaN (zP ((0,0),ps.reverse,bd) (zg (aam (zf rfl ⟨_,rfl,?_⟩)))))))))
  have rp:0<ps.reverse.length:=by rw [aeq];exact pp
  have r60:ps.reverse.length<=60:=by rw [aeq];exact p60
  have tp:0<(ps.map tip).length:=by rw [ad5];exact pp
  have t60:(ps.map tip).length<=60:=by rw [ad5];exact p60
  refine zg (zf rfl (zB ⟨rfl,⟨by rw [<-List.map_reverse],nv,rp,r60,b0,b60⟩,?_⟩))
  rintro _ rfl
  refine⟨_,rfl,zN ⟨0,rfl,_,rfl,zf rfl ⟨rfl,rfl,by show min 0 0<=60;decide,_,rfl,?_⟩⟩⟩
  dsimp only
  rw [abS ps bd pp,hrow.2,if_pos rfl,afX _ rfl,afb,if_neg aef]
  refine jm (aaM (aaN (zP ((0,0),ps.map tip,bd) (zg (zf rfl (zg (zf rfl (zB ⟨rfl,⟨rfl,nt,tp,t60,b0,b60⟩,?_⟩))))))))
  rintro _ rfl
  refine⟨_,rfl,zN ⟨0,rfl,_,rfl,zf rfl ⟨rfl,rfl,by show min 0 0<=60;decide,_,rfl,?_⟩⟩⟩
  dsimp only
  rw [abT ps bd pp,hrow.2,if_pos rfl,afX _ rfl,afb,if_neg aef]
  exact jO ⟨_,_,_,_,_,_,_,_,_,_,_,rfl⟩
 ·rintro _ ⟨x1,x2,x3,x4,x5,x6,x7,x8,x9,x10,x11,rfl⟩
  exact y8 (aah rfl)
end
theorem _root_.L2.FnIn.m {P w K mg base j k x ps sp} (h:FnIn P w K mg base j x ps sp) (hk:j<=k:=by decide):FnIn P w K mg base k x ps sp:=h.mono hk
theorem xf1 {K:afO} {h:Heap} {mg:Str->Option Value} {x:Str} {st:Stmt} {f:Addr} {od an:Option Addr} {sl:Array (Option Value)} {oc kV dc pm cd ct:Value} (X:K.In h) (G:h.Ns mainGlobals mg) (a:FD K x st f od an sl oc kV dc pm cd ct) {p0:Str} (hb:∀ (kV doc pm:Value) (an:Option Addr) (cdv ct:Value) (u0:Value),bindArgs (aeB x x (zY st) (zK st) (zh st) .none kV doc pm an cdv ct) ⟨[u0],[]⟩=pure ([p0].zip [u0])):Def K mg x st [p0]:=abN X G a (fun _ _ _ _ _ _ us hl=>match us,hl with | [u0],_=>hb _ _ _ _ _ _ u0)
theorem xf2 {K:afO} {h:Heap} {mg:Str->Option Value} {x:Str} {st:Stmt} {f:Addr} {od an:Option Addr} {sl:Array (Option Value)} {oc kV dc pm cd ct:Value} (X:K.In h) (G:h.Ns mainGlobals mg) (a:FD K x st f od an sl oc kV dc pm cd ct) {p0 p1:Str} (hb:∀ (kV doc pm:Value) (an:Option Addr) (cdv ct:Value) (u0 u1:Value),bindArgs (aeB x x (zY st) (zK st) (zh st) .none kV doc pm an cdv ct) ⟨[u0,u1],[]⟩=pure ([p0,p1].zip [u0,u1])):Def K mg x st [p0,p1]:=abN X G a (fun _ _ _ _ _ _ us hl=>match us,hl with | [u0,u1],_=>hb _ _ _ _ _ _ u0 u1)
theorem xf3 {K:afO} {h:Heap} {mg:Str->Option Value} {x:Str} {st:Stmt} {f:Addr} {od an:Option Addr} {sl:Array (Option Value)} {oc kV dc pm cd ct:Value} (X:K.In h) (G:h.Ns mainGlobals mg) (a:FD K x st f od an sl oc kV dc pm cd ct) {p0 p1 p2:Str} (hb:∀ (kV doc pm:Value) (an:Option Addr) (cdv ct:Value) (u0 u1 u2:Value),bindArgs (aeB x x (zY st) (zK st) (zh st) .none kV doc pm an cdv ct) ⟨[u0,u1,u2],[]⟩=pure ([p0,p1,p2].zip [u0,u1,u2])):Def K mg x st [p0,p1,p2]:=abN X G a (fun _ _ _ _ _ _ us hl=>match us,hl with | [u0,u1,u2],_=>hb _ _ _ _ _ _ u0 u1 u2)
theorem xf4 {K:afO} {h:Heap} {mg:Str->Option Value} {x:Str} {st:Stmt} {f:Addr} {od an:Option Addr} {sl:Array (Option Value)} {oc kV dc pm cd ct:Value} (X:K.In h) (G:h.Ns mainGlobals mg) (a:FD K x st f od an sl oc kV dc pm cd ct) {p0 p1 p2 p3:Str} (hb:∀ (kV doc pm:Value) (an:Option Addr) (cdv ct:Value) (u0 u1 u2 u3:Value),bindArgs (aeB x x (zY st) (zK st) (zh st) .none kV doc pm an cdv ct) ⟨[u0,u1,u2,u3],[]⟩=pure ([p0,p1,p2,p3].zip [u0,u1,u2,u3])):Def K mg x st [p0,p1,p2,p3]:=abN X G a (fun _ _ _ _ _ _ us hl=>match us,hl with | [u0,u1,u2,u3],_=>hb _ _ _ _ _ _ u0 u1 u2 u3)
set_option autoImplicit true in
set_option relaxedAutoImplicit true in
theorem all_mk {l:PySem.W.OpenLaw} {w:World} {K:ad6} {h:Heap} {mg:Str->Option Value} {fa:Addr} (X:K.In h) (G:h.Ns mainGlobals mg) (hfa:mg "law"=some (.ref fa))
  (a1:FD K "turn" qD f1 od1 an1 sl1 oc1 kV1 dc1 pm1 cd1 ct1)
  (a2:FD K "lies_near" yl f2 od2 an2 sl2 oc2 kV2 dc2 pm2 cd2 ct2)
  (a3:FD K "least_kept" yh f3 od3 an3 sl3 oc3 kV3 dc3 pm3 cd3 ct3)
  (a4:FD K "spans" jF f4 od4 an4 sl4 oc4 kV4 dc4 pm4 cd4 ct4)
  (a5:FD K "way_to_the_end" zS f5 od5 an5 sl5 oc5 kV5 dc5 pm5 cd5 ct5)
  (a6:FD K "_law_feed" yA f6 od6 an6 sl6 oc6 kV6 dc6 pm6 cd6 ct6)
  (a7:FD K "_law_draw" yB f7 od7 an7 sl7 oc7 kV7 dc7 pm7 cd7 ct7)
  (a8:FD K "_law_near" yC f8 od8 an8 sl8 oc8 kV8 dc8 pm8 cd8 ct8)
  (a9:FD K "_law_keeps" ym f9 od9 an9 sl9 oc9 kV9 dc9 pm9 cd9 ct9)
  (a10:FD K "_law_rows_of_places" zE f10 od10 an10 sl10 oc10 kV10 dc10 pm10 cd10 ct10)
  (a11:FD K "law" jx f11 od11 an11 sl11 oc11 kV11 dc11 pm11 cd11 ct11)
  (uaj:aeT K mainGlobals "len"=some none)
  (uak:aeT K mainGlobals "range"=some none)
  (ual:aeT K mainGlobals "min"=some none)
  (uam:aeT K mainGlobals "abs"=some none)
  (uan:aeT K mainGlobals "max"=some none)
  (uao:aeT K mainGlobals "list"=some none)
  (uap:aeT K mainGlobals "reversed"=some none)
  (kl_least:vU K "least_kept"=true) :
  ∃ fd:FuncData,(∀ (s:Shared) (v:Value),BindsTo s fd ⟨[v],[]⟩ [("_law_script",v)])/\∀ base:Heap,K.In base->base.Ns mainGlobals mg->FnOk l.prog w K mg base CX0 6 fa fd pC (v7 K):=by
 have uay:Def K mg "turn" qD pd:=xf3 X G a1 (fun _ _ _ _ _ _ _ _ _=>rfl)
 have uaz:Def K mg "lies_near" yl pf:=xf4 X G a2 (fun _ _ _ _ _ _ _ _ _ _=>rfl)
 have uaA:Def K mg "least_kept" yh ph:=xf2 X G a3 (fun _ _ _ _ _ _ _ _=>rfl)
 have uaB:Def K mg "spans" jF pj:=xf4 X G a4 (fun _ _ _ _ _ _ _ _ _ _=>rfl)
 have uaC:Def K mg "way_to_the_end" zS pq:=xf1 X G a5 (fun _ _ _ _ _ _ _=>rfl)
 have uaD:Def K mg "_law_feed" yA pw:=xf2 X G a6 (fun _ _ _ _ _ _ _ _=>rfl)
 have uaE:Def K mg "_law_draw" yB px:=xf2 X G a7 (fun _ _ _ _ _ _ _ _=>rfl)
 have uaF:Def K mg "_law_near" yC pz:=xf4 X G a8 (fun _ _ _ _ _ _ _ _ _ _=>rfl)
 have uaG:Def K mg "_law_keeps" ym pA:=xf3 X G a9 (fun _ _ _ _ _ _ _ _ _=>rfl)
 have uaH:Def K mg "_law_rows_of_places" zE pB:=xf1 X G a10 (fun _ _ _ _ _ _ _=>rfl)
 have uaI:Def K mg "law" jx pC:=xf1 X G a11 (fun _ _ _ _ _ _ _=>rfl)
 have uaa:=aeI X G uaj
 have uab:=aeI X G uak
 have uac:=aeI X G ual
 have uaf:=aeI X G uam
 have uad:=aeI X G uan
 have uag:=aeI X G uao
 have uah:=aeI X G uap
 have e:=hfa.symm.trans (af5 X G a11.1)
 cases e
 have F0:=vk (st:=jx) a11.2.1 a11.2.2.1 a11.2.2.2
 refine⟨aeB "law" "law" (zY jx) (zK jx) (zh jx) .none kV11 dc11 pm11 an11 cd11 ct11,fun s v=>.of_eq rfl,fun base _ _=>?_⟩
 have H0:=ab3 (P:=l.prog) (w:=w) (base:=base) (k:=0) uaD uaa uaf
 have H1:=ab2 (P:=l.prog) (w:=w) (base:=base) (k:=0) uaE
 have H2:=abW (P:=l.prog) (w:=w) (base:=base) (k:=0) uay
 have H3:=adi (P:=l.prog) (w:=w) (base:=base) (k:=0) uaC uaa
 have H4:=abl (P:=l.prog) (w:=w) (base:=base) (k:=0) uaF uac uad
 have H5:=ab4 (P:=l.prog) (w:=w) (base:=base) (k:=0) uaH uab
 have H6:=abX (k:=1) uaz H2.m
 have H7:=abm (k:=1) uaG uaa uab H4.m
 have H8:=abi (k:=2) uaB H6.m
 have H9:=abj (k:=3) uaA kl_least uaa uab uac H8.m H3.m
 exact adl (k:=5) F0 uaa uab uad uac uag uah H0.m H1.m H9.m H7.m H5.m
theorem walk {l:PySem.W.OpenLaw} {q:Program} {loose:List Str} {XP:(Str->Option Value)->Heap->Prop} {YP:World->Heap->Prop} {d:DefRec} {K:Params->ad6} (ts:List (Addr×Str)) (hn:l.most=some 63) (hdf:d.params.defaults=[])
  (hY:∀ (w:World) (h:Heap),YP w h->(K w.params).In h/\∀ p∈ts,h.get? p.1=some (aeY #[])) (hB:∀ w:World,je (K w.params) ts=true)
  (F:∀ (w:World) (mg:Str->Option Value) (fa:Addr) (h:Heap),(K w.params).In h->h.Ns mainGlobals mg->mg d.name=some (.ref fa) ->
   ∃ fd:FuncData,(∀ (s:Shared) (u:Value),BindsTo s fd ⟨[u],[]⟩ [("_law_script",u)])/\∀ base:Heap,(K w.params).In base->base.Ns mainGlobals mg->FnOk l.prog w (K w.params) mg base CX0 6 fa fd pC (v7 (K w.params))) :
  PySem.W.WalkO q loose XP YP l.row.toRowW d [] (fun f vs=>PySem.call f vs) :=
 L2.walk_T (n:=63) (k:=6) (x:="_law_script") (CX:=fun _=>CX0) (sp:=fun w=>v7 (K w.params)) ts hn (by decide) hdf ⟨rfl,by decide,by decide⟩ hY hB F (fun _ _ a ns hl hS=>⟨a,ns,rfl,hS,hl,fun _=>rfl⟩) fun _ _ _ _ _ z=>z
end My
noncomputable def PySem.W.Fast.tw10221562454299813050:Nat:=0
noncomputable def PySem.W.Fast.tw10426702711351558838:Nat:=0
noncomputable def PySem.W.Fast.tw11177167554805038897:Nat:=0
noncomputable def PySem.W.Fast.tw11432702263214770087:Nat:=0
noncomputable def PySem.W.Fast.tw11617517763416755833:Nat:=0
noncomputable def PySem.W.Fast.tw12270808205229722000:Nat:=0
noncomputable def PySem.W.Fast.tw1227513625252646140:Nat:=0
noncomputable def PySem.W.Fast.tw12606440952949844830:Nat:=0
noncomputable def PySem.W.Fast.tw12989114388762670704:Nat:=0
noncomputable def PySem.W.Fast.tw13116234206358117998:Nat:=0
noncomputable def PySem.W.Fast.tw13172960269538553352:Nat:=0
noncomputable def PySem.W.Fast.tw13697201425658831165:Nat:=0
noncomputable def PySem.W.Fast.tw14234037430794354627:Nat:=0
noncomputable def PySem.W.Fast.tw15878608270251444985:Nat:=0
noncomputable def PySem.W.Fast.tw16881310751347701457:Nat:=0
noncomputable def PySem.W.Fast.tw1857967356838488485:Nat:=0
noncomputable def PySem.W.Fast.tw2686761679840453021:Nat:=0
noncomputable def PySem.W.Fast.tw2702252433621301273:Nat:=0
noncomputable def PySem.W.Fast.tw2713669712104844471:Nat:=0
noncomputable def PySem.W.Fast.tw3395950574457285925:Nat:=0
noncomputable def PySem.W.Fast.tw353319135569387905:Nat:=0
noncomputable def PySem.W.Fast.tw4086668841892394136:Nat:=0
noncomputable def PySem.W.Fast.tw4897415992234498423:Nat:=0
noncomputable def PySem.W.Fast.tw5069842375799112946:Nat:=0
noncomputable def PySem.W.Fast.tw5614661718529245844:Nat:=0
noncomputable def PySem.W.Fast.tw6778313035548953993:Nat:=0
noncomputable def PySem.W.Fast.tw7454231000152682112:Nat:=0
noncomputable def PySem.W.Fast.tw7878595017386374499:Nat:=0
noncomputable def PySem.W.Fast.tw8582801511091599501:Nat:=0
noncomputable def PySem.W.Fast.tw91164999057887362:Nat:=0
noncomputable def PySem.W.Fast.tw9718281639619303200:Nat:=0
noncomputable def PySem.W.Fast.tw9849536644360921976:Nat:=0
open PySem PySem.W PyProof.Rows
set_option maxRecDepth 100000 in
set_option maxHeartbeats 0 in
theorem PySem.Challenge.cw_heightrings_k64_whole_least_of_few_holds : PySem.Challenge.rw_heightrings_k64_whole_least_of_few.Holds := by
 w_on;o_law;k_head;(case hw=>w_witness2)
 k_fill
 refine My.walk (l:=PySem.Challenge.rw_heightrings_k64_whole_least_of_few) [(30,L2.lamQ "least_kept")] rfl rfl (fun w h Y=>⟨by first | exact PySem.W.kIn_of Y | exact PySem.W.km_in_of Y,fun p hp=>PySem.W.km_tabs_of Y p.1 (List.mem_map_of_mem (f:=Prod.fst) hp)⟩) (fun w=>by kernel_rfl) ?F
 case F =>
  intro w mg fa h KX G hmg
  refine' My.all_mk KX G hmg ?a1 ?a2 ?a3 ?a4 ?a5 ?a6 ?a7 ?a8 ?a9 ?a10 ?a11 ?uaj ?uak ?ual ?uam ?uan ?uao ?uap ?kl_least
  (case a1=>refine⟨?_,?_,?_,?_⟩ <;> k_is)
  (case a2=>refine⟨?_,?_,?_,?_⟩ <;> k_is)
  (case a3=>refine⟨?_,?_,?_,?_⟩ <;> k_is)
  (case a4=>refine⟨?_,?_,?_,?_⟩ <;> k_is)
  (case a5=>refine⟨?_,?_,?_,?_⟩ <;> k_is)
  (case a6=>refine⟨?_,?_,?_,?_⟩ <;> k_is)
  (case a7=>refine⟨?_,?_,?_,?_⟩ <;> k_is)
  (case a8=>refine⟨?_,?_,?_,?_⟩ <;> k_is)
  (case a9=>refine⟨?_,?_,?_,?_⟩ <;> k_is)
  (case a10=>refine⟨?_,?_,?_,?_⟩ <;> k_is)
  (case a11=>refine⟨?_,?_,?_,?_⟩ <;> k_is)
  (case uaj=>k_is)
  (case uak=>k_is)
  (case ual=>k_is)
  (case uam=>k_is)
  (case uan=>k_is)
  (case uao=>k_is)
  (case uap=>k_is)
  (case kl_least=>kernel_rfl)
end
