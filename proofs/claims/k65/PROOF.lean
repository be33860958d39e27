import PyProof.Rows.All
import Wide.All
import OpenK.AllK
import Wide.FinOn
import Lean
import PyProof.EqAt
import PyProof.EqKinds
import PyProof.TupleCall
import PyProof.NeKinds
import PyProof.WalksEnum
import PyProof.EnumMake
import KE.KTryMore
import PyProof.NsDelKeeps
import PyProof.SumWalkG
import PyProof.SeqI3
import KE.KDictSum
import PyProof.AttrMiss
import PyProof.IsiH_list
import KE.KDictOf
import PyProof.ZipIter
import PyProof.TupleIter
import PyProof.EnumIter
import PyProof.StrCalls
import PySem.Challenge.RW_fewcounters_k65_whole_webs_of_programs
import PyProof.StrCalls2
import PyProof.StrCalls3
import PyProof.StrLawsTight
import PyProof.StrLawsChain
import PyProof.StrLawsJoin
import PyProof.Rows.StrItems
import PyProof.StrWalks
import PyProof.FString5
import PyProof.Rows.Range3
import KE.KRevIter
import PyProof.MeetsDict
set_option Elab.async false
set_option linter.all false
set_option maxRecDepth 100000
set_option maxHeartbeats 4000000
abbrev Pz:=PySem.Str->Option PySem.Value
abbrev PD:=List (PySem.Addr×PySem.Obj)
abbrev PH:=List Int
abbrev PJ:=List PySem.Str
abbrev PK:=Option PySem.Value
abbrev PM:=List PySem.Addr
abbrev PN:=List PySem.Value
abbrev PQ:=List PySem.Expr
abbrev PR:=List (Int×Int)
theorem VO{a b:Prop}(h:a)(g:¬a):b:=absurd h g
theorem VP{c:Prop}[Decidable c](n:¬c){α:Type _}{t e:α}:(ite c t e)=e:=if_neg n
theorem VQ{c:Prop}[Decidable c](n:c){α:Type _}{t e:α}:(ite c t e)=t:=if_pos n
theorem VR{p:Prop}[Decidable p](h:decide p=true):p:=of_decide_eq_true h
theorem VS{p:Prop}[Decidable p](h:decide p=false):¬p:=of_decide_eq_false h
theorem VT{p:Prop}[Decidable p](h:p):decide p=true:=decide_eq_true h
theorem VU{p:Prop}[Decidable p](h:¬p):decide p=false:=decide_eq_false h
open Array renaming length_toList→PU
open Bool renaming false_ne_true→PX,and_eq_true→PZ,eq_iff_iff→P0,beq_eq_decide_eq→P1,or_eq_true→P2
open False renaming elim→P4
open ForInStep renaming yield→P6
open Int renaming emod_lt_of_pos→P7,emod_nonneg→P8,toNat_natCast→P9,le_refl→Qa,le_trans→Qb
open List renaming getElem?_eq_some_iff→Qc,getElem?_eq_getElem→Qd,mem_singleton→Qe,length_map→Qg,getD_eq_getElem?_getD→Qh,mem_cons_of_mem→Qi,length_append→Qj,mem_cons_self→Qk,getElem?_map→Ql,mem_of_getElem?→Qm,mem_append_right→Qn,length_cons→Qo,getElem?_set_self→Qp,mem_cons→Qq,mem_append→Qr,mem_append_left→Qs,range→Qt,mem_iff_getElem?→Qu,map_append→Qv,mem_map→Qw,size_toArray→Qx,append_assoc→Qy,Nodup→Qz,length_take→QA,getElem?_set_ne→QB,append_nil→QC,length_nil→QD,getElem?_append_right→QE,nodup_cons→QF,length_singleton→QG,getElem?_eq_none→QH,getElem?_append_left→QI,map_cons→QJ,take_succ→QK,not_mem_nil→QL,take_length→QM,length_range→QN,nodup_append→QO,getElem_mem→QP,getElem?_range→QQ,take_succ_cons→QS,mem_filter→QT,mem_range→QU,length_set→QV,nil_append→QW,foldl_cons→QX,map_map→QY,filter_eq_self→QZ,ext_getElem?→Q0,flatMap_cons→Q1,foldl_append→Q2,dropLast_concat_getLast→Q3,replicate→Q4,length_replicate→Q5,lookup→Q6,cons_append→Q7,filter_cons_of_pos→Q8,filter_cons_of_neg→Q9,set_set→Ra,drop_eq_getElem_cons→Rb,lookup_cons→Rc,take_append_drop→Rf,filter_append→Rg,find?_cons→Rh,take_zero→Ri,mem_flatMap→Rj,drop_of_length_le→Rk,flatMap_append→Rl,length_filter_le→Rm,length_zip→Rn,length_drop→Ro,getElem?_replicate→Rp,map_congr_left→Rr,range_succ→Rt,getElem_of_mem→Ru,take_of_length_le→Rv,find?_cons_of_neg→Rx,all_eq_true→Ry,any_eq_true→Rz,nodup_nil→RC,of_mem_zip→RG,length_dropLast→RH,length_erase_of_mem→RJ,filterMap_cons→RK,map_nil→RL,length_reverse→RM,sum_cons→RN,mem_filterMap→RP,mem_replicate→RQ,filter_eq_nil_iff→RR,length_pos_of_mem→RS,find?_cons_of_pos→RU,flatMap_singleton→RV,map_set→RX,any_cons→RY,getElem?_reverse→RZ,mem_iff_getElem→R6,mem_of_mem_take→R7,range'→R8,forIn_cons→R9,map_drop→Sa,sum_append→Sb,filter_map→Sd,getElem?_drop→Se,map_singleton→Sf
open Nat renaming le_refl→Sg,le_trans→Sh,zero_le→Si,lt_of_le_of_lt→Sj,lt_of_lt_of_le→Sk,ne_of_lt→Sl,lt_or_ge→Sm,lt_irrefl→Sn,zero_add→So,le_succ→Sr,lt_succ_self→Ss,le_add_right→Su,ne_of_gt→Sv,min_le_left→Sw,lt_of_le_of_ne→Sx,not_lt→Sz,min_le_right→SD,sub_self→SE,add_zero→SF,not_lt_zero→SG,add_assoc→SH,le_of_lt→SJ,le_of_eq→SK
open Ne renaming symm→SN
open Option renaming map_eq_some_iff→SO,some_ne_none→SQ,map_some→SR,isSome_map→SS
open Prod renaming ext→SU
open PyProof.Rows renaming boot_list→SV,boot_tuple→SW,callWith_type1→SX,slot_tuple_getitem→SY,envOfC→S0,boot_int→S3,AllBare→S4,boot_range→S5,subscriptTail→S6
open PySem renaming Shared→S7,sizeLine→S8,wpAny_bind→S9,mainGlobals→Ta,Program→Tb,wpAny_pure→Tc,starEach→Td,Around→Te,swapsWith→Tf,FuncData→Tg,wpAny_truthy_bool→Ti,compareOp→Tj,mem_of_lookup→Tn,wpAny_field→To,wpAny_mono→Tp,sysModules→Tq,wpAny_callSpecial?_slot→Tr,foldedSetIterable→Ts,IsPair→Tt,boot_len→Tu,wpAny_newObj_type→Tv,valueAt→Tw,behindInMarks→Tx,wpAny_seqItems→Tz,bootBuiltins→TB,wpAny_setField_rec→TC,wpAny_passesOwn→TJ,holding→TK,binaryOp→TL,wpAny_call_entry→TN,assignEach→TQ,call_meets→TR,assign→TU,NameKind→TY,wpAny_holding→TZ,sliceBounds→T1,isTrue→T2,wpAny_Call_Name_kw→T3,tupleKind_room_in1→T4,getItem→T5,wpAny_pyIter_list→T6,attributeBase→T7,wpAny_execs_nil→T8,letOwnedTupleGo→T9,IsPart→Ua,typeIs_str→Ub,wpAny_rule→Uc,wpAny_updateSeq_pair→Ud,standAt→Ue,codeAny→Ug,sizeLine_eq→Uh,backTo→Ui,swapsWithSole→Uj,swappedStores→Uk,intBits_le_64→Ul,wpAny_onRaise→Um,Keyword→Uo,callerA→Uq,codeAny_mono→Ur,tupleKind→Us,PassesOwn→Ut,strValues→Uu,IsRangeIter→Uv,subscripted→Uw,pyNext→Ux,rawInt→Uy,BindsTo→Uz,stored→UA,dictSetDefault→UB,GenState→UC,IntMulOk→UD,ZipApart→UE,wpAny_standAt→UG,Str→UH,Within→UI
open PySem.Around renaming under→UJ
open PySem.Builtin.List renaming listTooLong→UK
open PySem.Builtin.Range renaming rangeSize→UL
open PySem.Builtin.Slice renaming slicePlaces→UM,sliceAdjust→UN
open PySem.Builtin.SmallTypes renaming nextOf→UO,ownedTupleIsFree→UP
open PySem.Builtin.Str renaming occurrences→UQ
open PySem.Builtin.Tuple renaming tupleExact→UR
open PySem.Calls renaming callWith_builtin→US,spliced_cons→UT
open PySem.Code renaming isFrame→UU
open PySem.F renaming plainAttrs_list→UW,slot_list_append→UX,type_list_append→UY,slot_tuple_iterator_next→UZ,slot_list_clear→U0,slot_zip_next→U1,args_str_split_2→U2,entry_str_split→U3,slot_str_split→U4
open PySem.Heap renaming get?_push_of_some→U5,lt_size→U6,get?_push_size→U7,size_push→U8,SameBut→U9,get?_update_self→Va,dictOf_iff→Vb
open PySem.Heap.SameBut renaming update→Vc
open PySem.NameKind renaming cell→Vd
open PySem.Obj renaming mapSeq→Ve
open PySem.PassesOwn renaming never→Vf
open PySem.PyData renaming keyHash→Vg
open PySem.Str renaming join→Vh,ofString→Vi
open PySem.Txt renaming split→Vj
open PySem.Value renaming ref→Vk,none→Vl,int→Vm,str→Vn,bool→Vo,float→Vp,type→Vq
open PySem.W renaming Frag→Vr,nsIn→Vs,mg_none_of→Vt,findIn→Vu,mg_of→Vv,keepIn→Vw,fnOf→Vx,kia_one→Vy,emptyDict→Vz,instObj→VA,codeIn→VB,hasDictIn→VC,plainGet→VD,plainOver→VE,makesIn→VF,methodObj→VG,takerIn→VH,OpenLaw→VI,lookIn→VJ,kitOne→VL,isFn→VM
open True renaming intro→VN
open List(all_cons getElem_inj forIn_nil any_map drop_length drop_zero take_nil prefix_rfl range'_one)
abbrev WW(x:UH):Prop:=(x==("__debug__":UH))=false
abbrev Cd0(x:UH):Prop:=(x==("__classdict__":UH))=false
def vA1:Lean.Syntax:=Lean.Unhygienic.run `(Lean.Parser.Tactic.tacticSeq|first | exact Or.inl rfl | exact Or.inr (Or.inl rfl) | exact Or.inr (Or.inr rfl))
def Xe:Lean.Syntax:=Lean.Unhygienic.run `(Lean.Parser.Tactic.tacticSeq|first | exact Or.inl rfl | exact Or.inr rfl)
def Xd:Lean.Syntax:=Lean.Unhygienic.run `(Lean.Parser.Tactic.tacticSeq|first | exact .inl rfl | exact .inr rfl)
namespace L2
open PySem PySem.Spec PyProof.Rows
variable {a b:Addr}
abbrev Key:=Sum Int Str
def ou:Key->Value->Bool
 | .inl k,v=>Value.isInt k v
 | .inr x,v=>Value.isStrOf x v
def Px (w:World):Key->Int
 | .inl k=>hashInt k
 | .inr x=>hashStr w x
theorem dU:∀{k:Key}{v:Value},ou k v=true->(∃i t,k=Sum.inl i/\v=Vm i t)∨(∃x t,k=Sum.inr x/\v=Vn x t)
 | .inl i,v,h=>by
   obtain⟨t,e⟩:=Value.isInt_shape (k:=i) (v:=v) h;exact .inl ⟨i,t,rfl,e⟩
 | .inr x,v,h=>by
   obtain⟨t,e⟩:=Value.isStrOf_shape (x:=x) (v:=v) h;exact .inr ⟨x,t,rfl,e⟩
theorem z7 (i:Int)(t:Tok):ou (.inl i) (.int i t)=true:=by simp[ou,Value.isInt]
theorem A6 (x:Str)(t:Tok):ou (.inr x) (.str x t)=true:=by simp[ou,Value.isStrOf]
theorem II (a b:Int):decide ((Sum.inl a:Key)=Sum.inl b)=(a==b):=by
 by_cases e:a=b
 ·subst e;simp
 ·have h:¬(Sum.inl a:Key)=Sum.inl b:=λq=>e (Sum.inl.inj q);rw[VU h];exact(beq_eq_false_iff_ne.mpr e).symm
theorem J0 (a b:Str):decide ((Sum.inr a:Key)=Sum.inr b)=decide (a=b):=by
 by_cases e:a=b
 ·subst e;simp
 ·have h:¬(Sum.inr a:Key)=Sum.inr b:=λq=>e (Sum.inr.inj q);rw[VU h,VU e]
theorem J6 (a:Int)(b:Str):decide ((Sum.inl a:Key)=Sum.inr b)=false:=VU (λq=>nomatch q)
theorem Ja (a:Str)(b:Int):decide ((Sum.inr a:Key)=Sum.inl b)=false:=VU (λq=>nomatch q)
def cv (prog:Tb)(w:World):PySem.KeyKind prog w Key where
 is:=ou
 hash:=Px w
 inj:=λv a b ha hb=>by
  rcases dU ha with⟨i,t,rfl,rfl⟩ | ⟨x,t,rfl,rfl⟩
  ·rcases dU hb with⟨j,u,rfl,e⟩ | ⟨y,u,rfl,e⟩
   ·injection e with e1 _;rw[e1]
   ·exact nomatch e
  ·rcases dU hb with⟨j,u,rfl,e⟩ | ⟨y,u,rfl,e⟩
   ·exact nomatch e
   ·injection e with e1 _;rw[e1]
 byValue:=λk v h=>by
  rcases dU h with⟨i,t,rfl,rfl⟩ | ⟨x,t,rfl,rfl⟩<;>rfl
 pyHash:=λhv h=>by
  rcases dU hv with⟨i,t,rfl,rfl⟩ | ⟨x,t,rfl,rfl⟩
  ·exact wpAny_pyHash_int h
  ·exact wpAny_pyHash_str h
 eqBool:=λhu hv h=>by
  rcases dU hu with⟨i,t,rfl,rfl⟩ | ⟨x,t,rfl,rfl⟩
  ·rcases dU hv with⟨j,u,rfl,rfl⟩ | ⟨y,u,rfl,rfl⟩
   ·rw[II] at h;exact wpAny_eqBool_int h
   ·rw[J6] at h;exact SeqAt.EqAt.int_str i t y u _ _ _ _ h
  ·rcases dU hv with⟨j,u,rfl,rfl⟩ | ⟨y,u,rfl,rfl⟩
   ·rw[Ja] at h;exact SeqAt.EqAt.str_int x t j u _ _ _ _ h
   ·rw[J0] at h;exact wpAny_eqBool_str h
 «strs»:=λk x t v h=>by
  rcases dU h with⟨i,u,rfl,e⟩ | ⟨y,u,rfl,e⟩
  ·exact nomatch e
  ·injection e with e1 _;subst e1;cases v<;>rfl
theorem xp (prog:Tb)(w:World)(i:Int)(t:Tok):(cv prog w).is (.inl i) (.int i t)=true:=z7 i t
theorem dW (prog:Tb)(w:World)(x:Str)(t:Tok):(cv prog w).is (.inr x) (.str x t)=true:=A6 x t
inductive V where
 | Wb | bl (b:Bool) | int (i:Int) | str (x:Str) | XU (b:Array UInt8) | ZA (b:UInt64) | ref (a:Addr) | ty (n:String)
 deriving DecidableEq
def RelV:V->Value->Prop
 | .Wb,u=>u=Vl
 | .bl b,u=>u=Vo b
 | .int i,u=>∃t,u=Vm i t
 | .str x,u=>∃t,u=Vn x t
 | .XU b,u=>∃t,u=Value.bytes b t
 | .ZA b,u=>∃t,u=Vp b t
 | .ref a,u=>u=Vk a
 | .ty n,u=>u=Vq n
abbrev Vals:List V->PN->Prop:=Paired RelV
theorem Vals.length {xs:List V}{us:PN}(r:Vals xs us):xs.length=us.length:=Paired.length r
theorem Vals.get:∀{xs:List V}{us:PN}{i:Nat}{x:V},Vals xs us->xs[i]?=some x->∃u,us[i]?=some u/\RelV x u
 | _,_,_,_,.nil,e=>by simp at e
 | _,_,0,_,.cons r _,e=>by simp at e;subst e;exact⟨_,rfl,r⟩
 | _,_,i+1,x,.cons _ t,e=>by
   obtain⟨u,h1,h2⟩:=Vals.get (i:=i) (x:=x) t (by simpa using e);exact⟨u,by simpa using h1,h2⟩
theorem Vals.set {x:V}{u:Value}(r:RelV x u):∀{xs:List V}{us:PN}(i:Nat),Vals xs us->Vals (xs.set i x) (us.set i u)
 | _,_,_,.nil=>.nil
 | _,_,0,.cons _ t=>.cons r t
 | _,_,i+1,.cons q t=>.cons q (Vals.set r i t)
theorem Vals.append:∀{xs ys:List V}{us ws:PN},Vals xs us->Vals ys ws->Vals (xs++ys) (us++ws)
 | _,_,_,_,.nil,s=>s
 | _,_,_,_,.cons r t,s=>.cons r (Vals.append t s)
theorem Vals.take:∀{xs:List V}{us:PN}(n:Nat),Vals xs us->Vals (xs.take n) (us.take n)
 | _,_,0,_=>.nil
 | _,_,_+1,.nil=>.nil
 | _,_,n+1,.cons r t=>.cons r (Vals.take n t)
theorem Vals.drop:∀{xs:List V}{us:PN}(n:Nat),Vals xs us->Vals (xs.drop n) (us.drop n)
 | _,_,0,r=>r
 | _,_,_+1,.nil=>.nil
 | _,_,n+1,.cons _ t=>Vals.drop n t
def ja:Option V->PK->Prop
 | some v,some u=>RelV v u
 | none,none=>True
 | _,_=>False
def KV {κ:Type}:List (κ×V)->List (κ×Value)->Prop:=Paired λ(p:κ×V)(q:κ×Value)=>p.1=q.1/\RelV p.2 q.2
def kV:Key->V
 | .inl i=>.int i
 | .inr x=>.str x
inductive HO where
 | lst (xs:List V)
 | tup (xs:List V)
 | dK (kvs:List (Key×V)) | dT (kvs:List (List Key×V))
 | set (S:Int->Bool) (n:Nat)
 | ins (C dx:Addr) (fs:List (Str×V))
 | own (x:Addr)
 | xd (fs:List (Str×V))
 | met (f x:Addr)
 | Ym (lo hi:Int)
 | WT (o:Obj) (u:HO)
 | Zb (ps:Array Value)
 | ext (φ:Heap->Prop)
abbrev Hp:=Addr->Option HO
def upd (H:Hp)(a:Addr)(o:HO):Hp:=λb=>if b=a then some o else H b
theorem aB {H:Hp}{o:HO}:upd H a o a=some o:=by unfold upd;rw[VQ rfl]
theorem aD {H:Hp}{o:HO}(h:b≠a):upd H a o b=H b:=by unfold upd;rw[VP h]
theorem sQ {H:Hp}{o u:HO}:upd (upd H a o) a u=upd H a u:=by
 funext b;unfold upd;split<;>rfl
theorem LP {H:Hp}{o u:HO}(h:H a=some o)(h':H b=some u)(d:o≠u):a≠b:=by
 intro e;subst e;rw[h] at h';exact d (Option.some.inj h')
theorem c8 {H:Hp}{o:HO}(h:H a=some o)(h':H b=none):a≠b:=by
 intro e;subst e;rw[h] at h';cases h'
section
variable (P:Tb)(w:World)
def cZ (H:Hp)(h:Heap)(a:Addr):HO->Prop
 | .lst xs=>xs.length<=S8/\∃(V1:PN)(n:Nat),Vals xs V1/\h.get? a=some {cls:=.type "list",data:=.seq V1.toArray n}
 | .tup xs=>xs.length<=S8/\∃V1:PN,Vals xs V1/\IsTup h a V1.toArray
 | .dK kvs=>kvs.length<=S8/\(a==Tq)=false/\∃vs,KV kvs vs/\h.DictOf (cv P w) a vs
 | .dT kvs=>kvs.length<=S8/\(a==Tq)=false/\∃xs:List (List Key×Addr×Value),
  Paired (λ(p:List Key×V)(q:List Key×Addr×Value)=>p.1=q.1/\H q.2.1=some (.tup (p.1.map kV))/\RelV p.2 q.2.2) kvs xs/\
  ∃o es ep,h.get? a=some o/\o.ExactDict/\o.data= .dict es ep/\es.toList=xs.map (entryOfKey (Us (cv P w)))/\(xs.map (·.1)).Nodup
 | .set S n=>h.SetOf (intKind P w) a S n
 | .ins C dx fs=>H dx=some (.own a)/\fs.length<=1000/\dx≠a/\h.get? a=some (VA C dx)/\
  ∃mA,h.Ns1 dx mA/\(∀f,ja (fs.lookup f) (mA f))/\UI mA (fs.map (·.1))
 | .own _=>∃o,h.get? a=some o
 | .xd fs=>∃mA,h.Ns1 a mA/\∀f,ja (fs.lookup f) (mA f)
 | .Ym lo hi=>∃t u v,h.get? a=some {cls:=.type "range",data:=.fields #[.int lo t,.int hi u,.int 1 v]}
 | .WT o u=>h.get? a=some o/\cZ H h a u
 | .Zb ps=>h.get? a=some {cls:=.none,data:=.fields ps}
 | .met f x=>h.get? a=some (VG (.ref f) (.ref x))
 | .ext φ=>φ h/\(∃o,h.get? a=some o)/\∀h1 h2:Heap,φ h1->(∀o,h1.get? a=some o->h2.get? a=some o)->φ h2
def eU (H:Hp)(h:Heap):Prop:=∀a o,H a=some o->cZ P w H h a o
end
variable {H:Hp}{P:Tb}{w:World}{H':Hp}{h h':Heap}
section
variable {o:HO}
theorem cZ.lt (x:cZ P w H h a o):a<h.objs.size:=by
 cases o with
 | lst xs=>obtain⟨_,_,_,_,e⟩:=x;exact U6 e
 | tup xs=>obtain⟨_,_,_,p⟩:=x;exact p.lt
 | dK kvs=>obtain⟨_,_,_,_,o,_,_,e,_⟩:=x;exact U6 e
 | dT kvs=>obtain⟨_,_,_,_,o,_,_,e,_⟩:=x;exact U6 e
 | set S n=>obtain⟨o,_,_,_,e,_⟩:=x;exact U6 e
 | ins C dx fs=>obtain⟨_,_,_,e,_⟩:=x;exact U6 e
 | own y=>obtain⟨_,e⟩:=x;exact U6 e
 | xd fs=>obtain⟨_,⟨_,_,_,e,_⟩,_⟩:=x;exact U6 e
 | Ym lo hi=>obtain⟨_,_,_,e⟩:=x;exact U6 e
 | WT ob u=>obtain⟨e,_⟩:=x;exact U6 e
 | Zb ps=>exact U6 (show h.get? a=some _ from x)
 | met f y=>exact U6 (show h.get? a=some _ from x)
 | ext φ=>obtain⟨_,⟨_,e⟩,_⟩:=x;exact U6 e
theorem Paired.CZ {α β:Type}{F G:α->β->Prop}:∀{l₁:List α}{l₂:List β},Paired F l₁ l₂->(∀a b,F a b->G a b)->Paired G l₁ l₂
 | _,_,.nil,_=>.nil
 | _,_,.cons r t,f=>.cons (f _ _ r) (Paired.CZ t f)
theorem cZ.Ww (x:cZ P w H h a o)(k:∀b u,(b=a∨H b=some (.own a))->h.get? b=some u->h'.get? b=some u)(ho:∀b,H b=some (.own a)->H' b=some (.own a))(ht:∀b xs,H b=some (.tup xs)->H' b=some (.tup xs)):cZ P w H' h' a o:=by
 induction o with
 | lst xs=>obtain⟨z,V1,n,r,e⟩:=x;exact⟨z,V1,n,r,k _ _ (.inl rfl) e⟩
 | tup xs=>obtain⟨z,V1,r,ob,e,c⟩:=x;exact⟨z,V1,r,ob,k _ _ (.inl rfl) e,c⟩
 | dK kvs=>obtain⟨z,y,vs,r,ob,es,ep,e,c⟩:=x;exact⟨z,y,vs,r,ob,es,ep,k _ _ (.inl rfl) e,c⟩
 | dT kvs=>
   obtain⟨z,y,xs,r,ob,es,ep,e,c⟩:=x;exact⟨z,y,xs,Paired.CZ r λp q z=>⟨z.1,ht _ _ z.2.1,z.2.2⟩,ob,es,ep,k _ _ (.inl rfl) e,c⟩
 | set S n=>obtain⟨ob,es,ep,t,e,c⟩:=x;exact⟨ob,es,ep,t,k _ _ (.inl rfl) e,c⟩
 | ins C dx fs=>
   obtain⟨d,z,ne,e,mA,⟨od,es,ep,e2,c⟩,r⟩:=x;exact⟨ho _ d,z,ne,k _ _ (.inl rfl) e,mA,⟨od,es,ep,k _ _ (.inr d) e2,c⟩,r⟩
 | own y=>obtain⟨ob,e⟩:=x;exact⟨ob,k _ _ (.inl rfl) e⟩
 | xd fs=>obtain⟨mA,⟨od,es,ep,e,c⟩,r⟩:=x;exact⟨mA,⟨od,es,ep,k _ _ (.inl rfl) e,c⟩,r⟩
 | Ym lo hi=>obtain⟨t,u,v,e⟩:=x;exact⟨t,u,v,k _ _ (.inl rfl) e⟩
 | WT ob u ih=>obtain⟨e,q⟩:=x;exact⟨k _ _ (.inl rfl) e,ih q⟩
 | Zb ps=>
   have e:h.get? a=some {cls:=.none,data:=.fields ps}:=x;show h'.get? a=some {cls:=.none,data:=.fields ps};exact k a _ (.inl rfl) e
 | met f y=>
   have e:h.get? a=some (VG (.ref f) (.ref y)):=x;show h'.get? a=some (VG (.ref f) (.ref y));exact k a _ (.inl rfl) e
 | ext φ=>obtain⟨p,⟨o,e⟩,st⟩:=x;exact⟨st _ _ p λo q=>k _ _ (.inl rfl) q,⟨o,k _ _ (.inl rfl) e⟩,st⟩
theorem eU.lt (x:eU P w H h)(e:H a=some o):a<h.objs.size:=(x a o e).lt
theorem eU.fresh (x:eU P w H h)(e:h.objs.size<=a):H a=none:=by
 cases q:H a with
 | none=>rfl
 | some u=>exact VO (Sk (x.lt q) e) (Sn _)
theorem eU.kept (x:eU P w H h)(k:∀b u,h.get? b=some u->h'.get? b=some u):eU P w H h':=λa o e=>
 (x a o e).Ww (λb u _ q=>k b u q) (λ_ q=>q) λ_ _ q=>q
theorem eU.laid (x:eU P w H h)(k:∀b u,h.get? b=some u->h'.get? b=some u)(hp:h.objs.size<=a)(new:cZ P w (upd H a o) h' a o):eU P w (upd H a o) h':=λb u e=>by
 have hn:=x.fresh hp;by_cases hb:b=a
 ·subst hb;rw[aB] at e;cases e;exact new
 ·rw[aD hb] at e;exact(x b u e).Ww (λc v _ q=>k c v q) (λc q=>by rw[aD (c8 q hn)];exact q) λc xs q=>by rw[aD (c8 q hn)];exact q
end
def Rd (H:Hp)(a:Addr)(u:HO):Prop:=H a=some u∨∃o,H a=some (.WT o u)
theorem Rd.ok {u:HO}(r:Rd H a u)(x:eU P w H h):cZ P w H h a u:=by
 rcases r with r | ⟨o,r⟩
 ·exact x a u r
 ·obtain⟨_,q⟩:=x a _ r;exact q
def B6:Option HO->Prop
 | some (.lst _)=>True
 | some (.dK _)=>True
 | some (.dT _)=>True
 | some (.set _ _)=>True
 | some (.ins _ _ _)=>True
 | some (.ext _)=>True
 | _=>False
section
variable {x e:Addr}{o':HO}
theorem eU.write (ok:eU P w H h)(mu:B6 (H x))(he:e=x∨H e=some (.own x))(k:∀b u,b≠e->h.get? b=some u->h'.get? b=some u)(ZQ:∃u,h'.get? e=some u)(new:cZ P w (upd H x o') h' x o'):eU P w (upd H x o') h':=λb u q=>by
 have Z6:∀c y,H c=some (.own y)->c≠x:=λc y r z=>by subst z;rw[r] at mu;exact mu
 have ntup:∀c xs,H c=some (.tup xs)->c≠x:=λc xs r z=>by subst z;rw[r] at mu;exact mu
 by_cases hb:b=x
 ·subst hb;rw[aB] at q;cases q;exact new
 ·rw[aD hb] at q;by_cases Yr:b=e
  ·have q':H b=some (.own x):=by
    rcases he with z | z
    ·exact VO (Yr.trans z) hb
    ·rw[Yr];exact z
   rw[q] at q';cases q'
   obtain⟨v,hv⟩:=ZQ;exact⟨v,by rw[Yr];exact hv⟩
  ·refine(ok b u q).Ww (λc v hc r=>k c v ?_ r) (λc r=>by rw[aD (Z6 c b r)];exact r) λc xs r=>by rw[aD (ntup c xs r)];exact r
   rcases hc with rfl | hc
   ·exact Yr
   ·rintro rfl;rcases he with z | z
    ·exact Z6 c b hc z
    ·rw[hc] at z;cases z;exact hb rfl
end
structure Un (fs ex:PM)(H H':Hp)(h h':Heap):Prop where
 keep:∀b o,h.get? b=some o->H b=none->b∉fs->b∉ex->h'.get? b=some o
 slot:∀b o,h.get? b=some o->H b=none->b∈fs->b∉ex->∃sl,h'.get? b=some {o with slots:=sl}
 free:∀b o,h.get? b=some o->H b=none->b∉ex->H' b=none
 there:∀b o,h.get? b=some o->b∉ex->∃o',h'.get? b=some o'
 Xf:∀b xs,H b=some (.tup xs)->H' b=some (.tup xs)
 Xa:∀b o u,H b=some (.WT o u)->H' b=some (.WT o u)
 Xg:∀b ps,H b=some (.Zb ps)->∃more,H' b=some (.Zb (ps++more))
section
variable {fs fs' ex ex':PM}{H1 H2:Hp}{h1 h2:Heap}{x e:Addr}{o:HO}
theorem Un.any (u:Un fs ex H H1 h h1){ob:Obj}(q:h.get? b=some ob)(n:H b=none)(hx:b∉ex):∃sl,h1.get? b=some {ob with slots:=sl}:=by
 by_cases hb:b∈fs
 ·exact u.slot b ob q n hb hx
 ·exact⟨ob.slots,u.keep b ob q n hb hx⟩
theorem Un.kept (k:∀b u,h.get? b=some u->h'.get? b=some u):Un fs ex H H h h':=
 ⟨λb ob q _ _ _=>k b ob q,λb ob q _ _ _=>⟨ob.slots,k b ob q⟩,λ_ _ _ n _=>n,λb ob q _=>⟨ob,k b ob q⟩,λ_ _ q=>q,λ_ _ _ q=>q,λ_ ps q=>⟨#[],by rw[q];simp⟩⟩
theorem Un.refl:Un fs ex H H h h:=Un.kept λ_ _ q=>q
theorem Un.laid (k:∀b u,h.get? b=some u->h'.get? b=some u)(hp:h.objs.size<=a)(hn:H a=none):Un fs ex H (upd H a o) h h' where
 keep:=λb u q _ _ _=>k b u q
 slot:=λb u q _ _ _=>⟨u.slots,k b u q⟩
 free:=λb u q n _=>by rw[aD (Sl (Sk (U6 q) hp))];exact n
 there:=λb u q _=>⟨u,k b u q⟩
 Xf:=λb xs q=>by rw[aD (c8 q hn)];exact q
 Xa:=λb u xs q=>by rw[aD (c8 q hn)];exact q
 Xg:=λb ps q=>⟨#[],by rw[aD (c8 q hn),q];simp⟩
theorem Un.write (mu:B6 (H x))(he:e=x∨H e=some (.own x))(k:∀b u,b≠e->h.get? b=some u->h'.get? b=some u)(ZQ:∃u,h'.get? e=some u):Un fs ex H (upd H x o) h h':=by
 have hx:∀b,H b=none->b≠x:=λb n z=>by subst z;rw[n] at mu;exact mu
 have hb:∀b,H b=none->b≠e:=λb n z=>by
  subst z;rcases he with r | r
  ·exact hx b n r
  ·rw[n] at r;cases r
 have hm:∀b u,H b=some u->¬B6 (some u)->b≠x:=λb u q nm z=>by subst z;rw[q] at mu;exact nm mu
 refine⟨λb u q n _ _=>k b u (hb b n) q,λb u q n _ _=>⟨u.slots,k b u (hb b n) q⟩,λb u q n _=>by rw[aD (hx b n)];exact n,λb u q _=>?_,
  λb xs q=>by rw[aD (hm b _ q λz=>z)];exact q,λb u xs q=>by rw[aD (hm b _ q λz=>z)];exact q,λb ps q=>⟨#[],by rw[aD (hm b _ q λz=>z),q];simp⟩⟩
 by_cases Yr:b=e
 ·subst Yr;exact ZQ
 ·exact⟨u,k b u Yr q⟩
end
def Fv (h:Heap)(H:Hp):PM:=(Qt h.objs.size).filter λa=>(H a).isSome
def mY (h:Heap)(H:Hp):Heap:=PySem.W.hideAll h (Fv h H)
theorem B1 (h:Heap)(H:Hp):(mY h H).objs.size=h.objs.size:=PySem.W.hideAll_size _ _
variable {o:Obj}
theorem Dh (e:h.get? b=some o)(n:H b=none):(mY h H).get? b=some o:=
 PySem.W.hideAll_get _ e λhm=>by
  have q:(H b).isSome=true:=(QT.mp hm).2;rw[n] at q;simp at q
theorem GO (e:(mY h H).get? b=some o):h.get? b=some o/\H b=none:=by
 have e':h.get? b=some o:=PySem.W.of_hideAll (Fv h H) e;refine⟨e',?_⟩;cases q:H b with
 | none=>rfl
 | some x=>
   have hm:b∈Fv h H:=QT.mpr ⟨QU.mpr (U6 e'),by simp[q]⟩;have z:(mY h H).get? b=none:=PySem.W.hideAll_none (Fv h H) hm;rw[z] at e;cases e
structure Mod (K:Vr)(mg:Pz)(base:Heap):Prop where
 kin:K.In base
 glob:base.Ns Ta mg
 blt:∃mb,base.Ns builtinsNs mb/\∀x:Str,x≠"__name__"->mb x=TB x
 nolimit:base.NoLimit
structure Cx where
 prog:Tb
 w:World
 K:Vr
 mg:Pz
 base:Heap
 A:Te
 N:PJ
 s₀:S7
 H₀:Hp
 env:Env
 outer:List Env
 stack:List Env
 ex:PM
 fn:Str->Bool
 calm:Bool
 pn:PD
 xe:Value->S7->Prop
def lZ (l:List Env):PM:=l.filterMap (·.frame)
abbrev Cx.fs (X:Cx):PM:=lZ X.outer
def BR (sc:Scope)(x:Str):Prop:=sc.names.lookup x=some .local∨sc.names.lookup x=some .cell∨sc.names.lookup x=some .free
def Loc (sc:Scope)(x:Str):Prop:=sc.names.lookup x=some .local∨sc.names.lookup x=some .cell
abbrev nF (X:Cx)(cp:Pos)(es:PQ):Prop:=((Ui cp (Td es X.env)).all (λx=> !x.1)&&(backToKw cp (keywordEach [] X.env)).all (λx=>x.1.isSome)&&decide (es.length+([]:List Uo).length+(if([]:List Uo).isEmpty then 0 else 1)<30))=true
abbrev du (X:Cx)(e:Expr)(es:PQ):Prop:=Td (e::es) X.env=(false,eval e X.env)::Td es X.env
abbrev fK (X:Cx)(e:Expr):Prop:=Td [e] X.env=[(false,eval e X.env)]
abbrev vc (X:Cx)(a b:Expr):Prop:=Td [a,b] X.env=[(false,eval a X.env),(false,eval b X.env)]
abbrev fm (X:Cx)(cp:Pos)(es:PQ):Prop:=(Ui cp (Td es X.env)).any (·.1)=false
abbrev fD (X:Cx)(e:Expr)(x:Str):Prop:=T7 e x X.env (eval e X.env)=eval e X.env
abbrev fQ (X:Cx)(x:Str):Prop:=X.fn x=true∨X.env.scope.names.lookup x=some .local
structure At (X:Cx)(i:Nat)(x:Str):Prop where
 n:X.N[i]?=some x
 v:BR X.env.scope x
 d:(x==("__debug__":Str))=false
 c:(x==("__classdict__":Str))=false
def cg:Lean.Syntax:=Lean.Unhygienic.run `(Lean.Parser.Tactic.tacticSeq| exact⟨rfl,by first | exact Or.inl rfl | exact Or.inr (Or.inl rfl) | exact Or.inr (Or.inr rfl),by decide,by decide⟩)
def Look (env:Env)(h:Heap)(m:Pz)(x:Str)(u:Value):Prop:=
 (env.kindOf x=some .local/\m x=some u)∨((env.kindOf x=some .cell∨env.kindOf x=some .free)/\∃c,env.cells.lookup x=some c/\h.IsCell c (some u))
structure Cx.Ok (X:Cx):Prop where
 mod:Mod X.K X.mg X.base
 kind:X.env.scope.kind= .function
 glob:X.env.globals=Ta
 blt:X.env.builtins=builtinsNs
 above:X.s₀.heap.objs.size<=X.env.locals
 inj:∀x y c,X.env.cells.lookup x=some c->X.env.cells.lookup y=some c->x=y
 has:∀x,(X.env.kindOf x=some .cell∨X.env.kindOf x=some .free)->∃c,X.env.cells.lookup x=some c
 cab:∀x c,X.fn x=true->X.env.cells.lookup x=some c->X.s₀.heap.objs.size<=c
 hd:X.calm=true->X.A.handled=none
 frames:X.A.frames=some X.stack
 stk:X.stack=X.outer∨(X.stack=X.env::X.outer/\X.env.frame=some X.env.locals)
 exf:∀b∈X.ex,b≠X.env.locals/\∀x c,X.env.cells.lookup x=some c->c≠b
 bs:∀b o,X.base.get? b=some o->X.s₀.heap.get? b=some o/\X.H₀ b=none
 YK:X.base.objs.size<=X.s₀.heap.objs.size
 Yd:∀b o,X.base.get? b=some o->b∉X.ex
 X2:∀b∈X.ex,b∉X.fs
 W3:X.s₀.heap.FunFrames X.base X.outer
 Zz:∀b∈X.fs,X.H₀ b=none
structure Inv (X:Cx)(VZ:PD)(σ:List (Option V))(H:Hp)(s:S7):Prop where
 ok:X.Ok
 os:s.os=X.s₀.os
 bare:S4 s.gens
 base:Un X.fs X.ex X.H₀ H X.s₀.heap s.heap
 loc:∃m,s.heap.Ns X.env.locals m/\∀(i:Nat)(x:Str)(v:V),X.N[i]?=some x->σ[i]?=some (some v)->BR X.env.scope x->∃u,RelV v u/\Look X.env s.heap m x u
 cell:∀x c,X.env.cells.lookup x=some c->∃v,s.heap.IsCell c v
 free:H X.env.locals=none
 WL:∀x c,X.env.cells.lookup x=some c->H c=none
 pin:∀p∈X.pn++VZ,s.heap.get? p.1=some p.2/\H p.1=none/\p.1≠X.env.locals/\p.1∉X.fs/\∀v,p.2.data≠ .cell v
 V4:eU X.prog X.w H s.heap
 len:σ.length=X.N.length
variable {u:Value}{X:Cx}{VZ:PD}{s:S7}{x:Str}{i:Nat}{g':Array UC}{d':Drawn}{it:Addr}{N:PJ}{M:Model}{A:Te}{E:Value->S7->Prop}{v:V}{s':S7}
section
variable {σ:List (Option V)}
variable {t':Nat}{ch:PM}
theorem Cx.Ok.OG (ok:X.Ok)(e:X.base.get? b=some o):b∉X.fs:=λhb=>by
 have:=(ok.W3.mem hb).1;rw[e] at this;cases this
theorem Inv.bs (I:Inv X VZ σ H s):∀b o,X.base.get? b=some o->s.heap.get? b=some o/\H b=none:=λb o e=>
 ⟨I.base.keep b o (I.ok.bs b o e).1 (I.ok.bs b o e).2 (I.ok.OG e) (I.ok.Yd b o e),I.base.free b o (I.ok.bs b o e).1 (I.ok.bs b o e).2 (I.ok.Yd b o e)⟩
theorem Inv.bk (I:Inv X VZ σ H s):∀b o,X.base.get? b=some o->s.heap.get? b=some o:=λb o e=>(I.bs b o e).1
theorem Inv.mod (I:Inv X VZ σ H s):Mod X.K X.mg X.base:=I.ok.mod
theorem Inv.gb (I:Inv X VZ σ H s):X.K.In s.heap:=I.ok.mod.kin.keeps I.bk
theorem Inv.lt (I:Inv X VZ σ H s):X.env.locals<s.heap.objs.size:=let ⟨_,hn,_⟩:=I.loc;hn.lt
theorem Inv.sz (I:Inv X VZ σ H s):X.s₀.heap.objs.size<=s.heap.objs.size:=Sh I.ok.above (SJ I.lt)
theorem Inv.ON (I:Inv X VZ σ H s)(h:s.heap.objs.size<=a):a∉X.fs:=λhb=>by
 obtain⟨_,o,ho,_⟩:=I.ok.W3.mem hb;exact VO (Sk (U6 ho) (Sh I.sz h)) (Sn _)
theorem Inv.ZC (I:Inv X VZ σ H s):∀x c,X.env.cells.lookup x=some c->c≠X.env.locals:=λx c e z=>by
 obtain⟨v,o,ho,hd⟩:=I.cell x c e;obtain⟨m,⟨o',es,ep,Xs,hd',_⟩,_⟩:=I.loc;rw[z,Xs] at ho;cases ho;rw[hd'] at hd;cases hd
theorem Inv.W3 (I:Inv X VZ σ H s):s.heap.FunFrames X.base X.outer:=by
 have all:∀(l:List Env),(∀b∈lZ l,b∈X.fs)->X.s₀.heap.FunFrames X.base l->s.heap.FunFrames X.base l:=by
  intro l
  induction l with
  | nil=>intro _ _;trivial
  | cons env r ih=>
    intro hs hl;obtain⟨hk,⟨L,o,hf,hn,ho,hd⟩,hr⟩:=hl;have hL:L∈X.fs:=hs L (by unfold lZ;rw[RK,hf];exact Qk);obtain⟨sl,e⟩:=I.base.slot L o ho (I.ok.Zz L hL) hL λz=>I.ok.X2 L z hL;exact⟨hk,⟨L,_,hf,hn,e,hd⟩,ih (λb hb=>hs b (by unfold lZ;rw[RK,hf];exact Qi _ hb)) hr⟩
 exact all X.outer (λ_ hb=>hb) I.ok.W3
theorem Inv.stack (I:Inv X VZ σ H s):s.heap.FunFrames X.base X.stack:=by
 rcases I.ok.stk with e | ⟨e,hf⟩
 ·rw[e];exact I.W3
 ·rw[e];obtain⟨m,hn,_⟩:=I.loc;refine .cons (by rw[I.ok.kind];decide) hf hn ?_ I.W3;exact Heap.get?_none_of_le (Sh I.ok.YK I.ok.above)
theorem Inv.v9 (I:Inv X VZ σ H s):∀b∈lZ X.stack,b∈X.env.locals::X.fs:=λb hb=>by
 rcases I.ok.stk with e | ⟨e,hf⟩
 ·rw[e] at hb;exact Qi _ hb
 ·rw[e] at hb;unfold lZ at hb;rw[RK,hf] at hb;exact hb
theorem Inv.xU (I:Inv X VZ σ H s):∀b∈lZ X.stack,H b=none:=λb hb=>by
 rcases Qq.mp (I.v9 b hb) with e | hb
 ·rw[e];exact I.free
 ·obtain⟨_,o,ho,_⟩:=I.ok.W3.mem hb;exact I.base.free b o ho (I.ok.Zz b hb) λz=>I.ok.X2 b z hb
theorem Inv.step (I:Inv X VZ σ H s)(X7:∀b∈ch,(b∈X.ex∨X.s₀.heap.objs.size<=b)/\b≠X.env.locals/\(∀x c,X.env.cells.lookup x=some c->c≠b)/\∀p∈X.pn++VZ,p.1≠b)(keep:∀b o,b≠X.env.locals->b∉X.fs->b∉ch->s.heap.get? b=some o->H b=none->h'.get? b=some o)(slot:∀b o,b≠X.env.locals->b∈X.fs->b∉ch->s.heap.get? b=some o->H b=none->∃sl,h'.get? b=some {o with slots:=sl})(free:∀b o,b∉ch->s.heap.get? b=some o->H b=none->H' b=none)(there:∀b o,b∉ch->s.heap.get? b=some o->∃o',h'.get? b=some o')(Xf:∀b xs,H b=some (.tup xs)->H' b=some (.tup xs))(Xa:∀b o u,H b=some (.WT o u)->H' b=some (.WT o u))(Xg:∀b ps,H b=some (.Zb ps)->∃more,H' b=some (.Zb (ps++more)))(ns:∀m,s.heap.Ns X.env.locals m->h'.Ns X.env.locals m)(V4:eU X.prog X.w H' h')(hg:S4 g'):
 Inv X VZ σ H' {s with heap:=h',gens:=g',drawn:=d',toks:=t'}:=by
 have neL:∀b o,X.s₀.heap.get? b=some o->b≠X.env.locals:=λb o e=>Sl (Sk (U6 e) I.ok.above);have Yf:∀b o,X.s₀.heap.get? b=some o->b∉X.ex->b∉ch:=λb o e hx hb=>by
  rcases(X7 b hb).1 with z | z
  ·exact hx z
  ·exact VO (Sk (U6 e) z) (Sn _)
 have cellK:∀x c,X.env.cells.lookup x=some c->∀v,s.heap.IsCell c v->h'.IsCell c v:=λx c e v ⟨o,ho,hd⟩=>by
  have nch:c∉ch:=λz=>(X7 c z).2.2.1 x c e rfl;by_cases hc:c∈X.fs
  ·obtain⟨sl,q⟩:=slot c o (I.ZC x c e) hc nch ho (I.WL x c e);exact⟨_,q,hd⟩
  ·exact⟨o,keep c o (I.ZC x c e) hc nch ho (I.WL x c e),hd⟩
 refine⟨I.ok,I.os,hg,⟨λb o e n hb hx=>?_,λb o e n hb hx=>?_,λb o e n hx=>?_,λb o e hx=>?_,λb xs e=>Xf b xs (I.base.Xf b xs e),λb o xs e=>Xa b o xs (I.base.Xa b o xs e),λb ps e=>?_⟩,?_,λx c e=>?_,?_,λx c e=>?_,λp hp=>?_,V4,I.len⟩
 ·exact keep b o (neL b o e) hb (Yf b o e hx) (I.base.keep b o e n hb hx) (I.base.free b o e n hx)
 ·obtain⟨sl,e1⟩:=I.base.slot b o e n hb hx;obtain⟨sl',e2⟩:=slot b _ (neL b o e) hb (Yf b o e hx) e1 (I.base.free b o e n hx);exact⟨sl',e2⟩
 ·obtain⟨o',e1⟩:=I.base.there b o e hx;exact free b o' (Yf b o e hx) e1 (I.base.free b o e n hx)
 ·obtain⟨o',e1⟩:=I.base.there b o e hx;exact there b o' (Yf b o e hx) e1
 ·obtain⟨m1,e1⟩:=I.base.Xg b ps e;obtain⟨m2,e2⟩:=Xg b _ e1;exact⟨m1++m2,by rw[e2,Array.append_assoc]⟩
 ·obtain⟨m,hn,hl⟩:=I.loc;refine⟨m,ns m hn,λi x v e1 e2 e3=>?_⟩;obtain⟨u,r,l⟩:=hl i x v e1 e2 e3;refine⟨u,r,?_⟩;rcases l with l | ⟨k,c,e,z⟩
  ·exact .inl l
  ·exact .inr ⟨k,c,e,cellK x c e _ z⟩
 ·obtain⟨v,z⟩:=I.cell x c e;exact⟨v,cellK x c e v z⟩
 ·obtain⟨m,⟨o,_,_,ho,_⟩,_⟩:=I.loc;exact free _ o (λz=>(X7 _ z).2.1 rfl) ho I.free
 ·obtain⟨v,o,ho,hd⟩:=I.cell x c e;exact free c o (λz=>(X7 c z).2.2.1 x c e rfl) ho (I.WL x c e)
 ·obtain⟨e,n,ne,nf,d⟩:=I.pin p hp;have nch:p.1∉ch:=λz=>(X7 p.1 z).2.2.2 p hp rfl;exact⟨keep p.1 p.2 ne nf nch e n,free p.1 p.2 nch e n,ne,nf,d⟩
theorem Inv.un (I:Inv X VZ σ H s)(u:Un X.fs [] H H' s.heap h')(V4:eU X.prog X.w H' h'):Inv X VZ σ H' {s with heap:=h',toks:=t'}:=by
 obtain⟨m,⟨o,es,ep,ho,r⟩,_⟩:=id I.loc;obtain⟨sl,hL⟩:=u.any ho I.free (by simp);exact I.step (g':=s.gens) (d':=s.drawn) (ch:=[]) (λ_ z=>nomatch z) (λb o _ hb _ e n=>u.keep b o e n hb (by simp)) (λb o _ hb _ e n=>u.slot b o e n hb (by simp)) (λb o _ e n=>u.free b o e n (by simp)) (λb o _ e=>u.there b o e (by simp)) u.Xf u.Xa u.Xg (λm' hm=>by
  obtain⟨o',es',ep',Xs,r'⟩:=hm;rw[ho] at Xs;cases Xs
  exact⟨_,es',ep',hL,r'⟩) V4 I.bare
theorem Inv.call (I:Inv X VZ σ H s)(u:Un (lZ X.stack) ch H H' s.heap h')(V4:eU X.prog X.w H' h')(hg:S4 g')(X7:∀b∈ch,(b∈X.ex∨X.s₀.heap.objs.size<=b)/\b≠X.env.locals/\(∀x c,X.env.cells.lookup x=some c->c≠b)/\∀p∈X.pn++VZ,p.1≠b):
 Inv X VZ σ H' {s with heap:=h',gens:=g',drawn:=d',toks:=t'}:=by
 obtain⟨m,⟨o,es,ep,ho,r⟩,_⟩:=id I.loc;obtain⟨sl,hL⟩:=u.any ho I.free λz=>(X7 _ z).2.1 rfl;exact I.step (ch:=ch) X7 (λb o hL hb hc e n=>u.keep b o e n (λz=>(Qq.mp (I.v9 b z)).elim hL hb) hc) (λb o _ _ hc e n=>u.any e n hc) (λb o hc e n=>u.free b o e n hc) (λb o hc e=>u.there b o e hc) u.Xf u.Xa u.Xg (λm' hm=>by
  obtain⟨o',es',ep',Xs,r'⟩:=hm;rw[ho] at Xs;cases Xs
  exact⟨_,es',ep',hL,r'⟩) V4 hg
theorem Inv.turned (I:Inv X VZ σ H s)(k:∀b o,b≠it->s.heap.get? b=some o->h'.get? b=some o)(hn:H it=none)(hL:it≠X.env.locals)(h1:it∈X.ex∨X.s₀.heap.objs.size<=it)(h2:∀x c,X.env.cells.lookup x=some c->c≠it)(h3:∀p∈X.pn++VZ,p.1≠it):Inv X VZ σ H {s with heap:=h',toks:=t'}:=by
 have Z9:∀b u,H b=some u->b≠it:=λb u e z=>by rw[z,hn] at e;cases e
 refine I.step (g':=s.gens) (d':=s.drawn) (ch:=[it]) (λb hb=>?_) (λb o _ _ hc e _=>k b o (λz=>hc (by simp[z])) e) (λb o _ _ hc e _=>⟨o.slots,k b o (λz=>hc (by simp[z])) e⟩) (λ_ _ _ _ n=>n)
  (λb o hc e=>⟨o,k b o (λz=>hc (by simp[z])) e⟩) (λ_ _ e=>e) (λ_ _ _ e=>e) (λb ps e=>⟨#[],by rw[e];simp⟩) (λm hm=>?_) (λb u e=>?_) I.bare
 ·have e:b=it:=by simpa using hb
  subst e;exact⟨h1,hL,h2,h3⟩
 ·obtain⟨o,es,ep,ho,r⟩:=hm;exact⟨o,es,ep,k _ o (SN hL) ho,r⟩
 ·refine(I.V4 b u e).Ww (λc v hc q=>k c v ?_ q) (λ_ q=>q) λ_ _ q=>q;rcases hc with z | z
  ·rw[z];exact Z9 b u e
  ·exact Z9 c _ z
theorem Inv.tok (I:Inv X VZ σ H s)(t:Nat):Inv X VZ σ H {s with toks:=t}:=I.un (h':=s.heap) (t':=t) Un.refl I.V4
theorem Inv.kept (I:Inv X VZ σ H s)(k:∀b u,s.heap.get? b=some u->h'.get? b=some u):Inv X VZ σ H {s with heap:=h',toks:=t'}:=I.un (Un.kept k) (I.V4.kept k)
theorem Inv.laid {a:Addr}{o:HO}(I:Inv X VZ σ H s)(k:∀b u,s.heap.get? b=some u->h'.get? b=some u)(hp:s.heap.objs.size<=a)(new:cZ X.prog X.w (upd H a o) h' a o):
 Inv X VZ σ (upd H a o) {s with heap:=h',toks:=t'}:=I.un (Un.laid k hp (I.V4.fresh hp)) (I.V4.laid k hp new)
theorem Inv.write {x e:Addr}{o:HO}(I:Inv X VZ σ H s)(mu:B6 (H x))(he:e=x∨H e=some (.own x))(k:∀b u,b≠e->s.heap.get? b=some u->h'.get? b=some u)(ZQ:∃u,h'.get? e=some u)(new:cZ X.prog X.w (upd H x o) h' x o):Inv X VZ σ (upd H x o) {s with heap:=h',toks:=t'}:=I.un (Un.write mu he k ZQ) (I.V4.write mu he k ZQ new)
theorem Inv.kg {YN:PD}(I:Inv X VZ σ H s)(h:∀p∈YN,s.heap.get? p.1=some p.2/\H p.1=none/\p.1≠X.env.locals/\p.1∉X.fs/\∀v,p.2.data≠ .cell v):Inv X YN σ H s:=
 ⟨I.ok,I.os,I.bare,I.base,I.loc,I.cell,I.free,I.WL,λp hp=>(Qr.mp hp).elim (λz=>I.pin p (Qs _ z)) (h p),I.V4,I.len⟩
theorem uD (hN:N.Nodup){j:Nat}(a:N[i]?=some x)(b:N[j]?=some x):i=j:=by
 obtain⟨h1,e1⟩:=Qc.mp a;obtain⟨h2,e2⟩:=Qc.mp b;exact(getElem_inj hN).mp (e1.trans e2.symm)
theorem tF {Q:Unit->S7->Prop}(I:Inv X VZ σ H s)(hN:X.N.Nodup)(hi:X.N[i]?=some x)(hx:Loc X.env.scope x)(r:RelV v u)(h:∀s',Inv X VZ (σ.set i (some v)) H s'->(∃a,U9 a s.heap s'.heap/\(a=X.env.locals∨X.env.cells.lookup x=some a))->Q () s')(hf:fQ X x:=by first | exact .inl rfl | exact .inr rfl | assumption):wpAny M A (storeName X.env x u) Q E s:=by
 obtain⟨m,hn,hl⟩:=id I.loc;have hcls:(X.env.scope.kind== .class ||(X.env.scope.kind== .module&&X.env.locals != X.env.globals))=false:=by rw[I.ok.kind];rfl
 have hiσ:i<σ.length:=by rw[I.len];exact(Qc.mp hi).1
 have ZC:=I.ZC;have tracked:∀{a:Addr}{h':Heap},(∃o,s.heap.get? a=some o/\H a=none)->U9 a s.heap h'->eU X.prog X.w H h':=λ{a h'} ha hs b ob e=>by
  obtain⟨_,_,YW⟩:=ha;refine(I.V4 b ob e).Ww (λc w' hc q=>(hs.2 c ?_).trans q) (λ_ q=>q) λ_ _ q=>q;rintro rfl;rcases hc with rfl | hc
  ·rw[YW] at e;cases e
  ·rw[YW] at hc;cases hc
 rcases hx with hk | hk
 ·refine wpAny_storeName_local hk hn (λh' X5 hs=>?_) hcls;obtain⟨oL,_,_,hoL,_⟩:=id hn;refine h _ ⟨I.ok,I.os,I.bare,⟨λb o e n hb hx=>?_,λb o e n hb hx=>?_,I.base.free,λb o e hx=>?_,I.base.Xf,I.base.Xa,I.base.Xg⟩,⟨_,X5,λj y v' e1 e2 e3=>?_⟩,λy c e=>?_,I.free,I.WL,λp hp=>?_,tracked ⟨oL,hoL,I.free⟩ hs,by simpa using I.len⟩ ⟨_,hs,.inl rfl⟩
  ·exact(hs.2 b (Sl (Sk (U6 e) I.ok.above))).trans (I.base.keep b o e n hb hx)
  ·obtain⟨sl,e1⟩:=I.base.slot b o e n hb hx;exact⟨sl,(hs.2 b (Sl (Sk (U6 e) I.ok.above))).trans e1⟩
  ·obtain⟨o',e1⟩:=I.base.there b o e hx;exact⟨o',(hs.2 b (Sl (Sk (U6 e) I.ok.above))).trans e1⟩
  ·by_cases hj:j=i
   ·subst hj;rw[hi] at e1;cases e1
    rw[Qp hiσ] at e2;cases e2
    exact⟨u,r,.inl ⟨hk,by simp⟩⟩
   ·rw[QB (SN hj)] at e2;obtain⟨u',r',q⟩:=hl j y v' e1 e2 e3;refine⟨u',r',?_⟩;rcases q with⟨k,e⟩ | ⟨k,c,e,z⟩
    ·refine .inl ⟨k,?_⟩;have:y≠x:=λe=>hj (uD hN e1 (e▸hi));simp[this,e]
    ·exact .inr ⟨k,c,e,z.sameBut hs (ZC y c e)⟩
  ·obtain⟨w',z⟩:=I.cell y c e;exact⟨w',z.sameBut hs (ZC y c e)⟩
  ·obtain⟨e,n,ne,nf,d⟩:=I.pin p hp;exact⟨(hs.2 p.1 ne).trans e,n,ne,nf,d⟩
 ·have hfn:X.fn x=true:=by
   rcases hf with z | z
   ·exact z
   ·rw[z] at hk;cases hk
  obtain⟨c,hc⟩:=I.ok.has x (.inl hk);obtain⟨w',z⟩:=I.cell x c hc;refine wpAny_storeName_cell I.ok.kind hk hc z (λh' Zw hs=>?_);obtain⟨oc,hoc,hocd⟩:=id z;refine h {s with heap:=h'} ⟨I.ok,I.os,I.bare,⟨λb o e n hb hx=>?_,λb o e n hb hx=>?_,I.base.free,λb o e hx=>?_,I.base.Xf,I.base.Xa,I.base.Xg⟩,⟨m,hn.sameBut hs (SN (ZC x c hc)),λj y v' e1 e2 e3=>?_⟩,λy c' e=>?_,I.free,I.WL,λp hp=>?_,tracked ⟨oc,hoc,I.WL x c hc⟩ hs,by simpa using I.len⟩ ⟨c,hs,.inr hc⟩
  ·exact(hs.2 b (Sl (Sk (U6 e) (I.ok.cab x c hfn hc)))).trans (I.base.keep b o e n hb hx)
  ·obtain⟨sl,e1⟩:=I.base.slot b o e n hb hx;exact⟨sl,(hs.2 b (Sl (Sk (U6 e) (I.ok.cab x c hfn hc)))).trans e1⟩
  ·obtain⟨o',e1⟩:=I.base.there b o e hx;exact⟨o',(hs.2 b (Sl (Sk (U6 e) (I.ok.cab x c hfn hc)))).trans e1⟩
  ·by_cases hj:j=i
   ·subst hj;rw[hi] at e1;cases e1
    rw[Qp hiσ] at e2;cases e2
    exact⟨u,r,.inr ⟨.inl hk,c,hc,Zw⟩⟩
   ·rw[QB (SN hj)] at e2;obtain⟨u',r',q⟩:=hl j y v' e1 e2 e3;refine⟨u',r',?_⟩;rcases q with q | ⟨k,c',e,z'⟩
    ·exact .inl q
    ·refine .inr ⟨k,c',e,z'.sameBut hs ?_⟩;rintro rfl;exact hj (uD hN e1 (I.ok.inj _ _ _ e hc▸hi))
  ·by_cases Y0:c'=c
   ·subst Y0;exact⟨_,Zw⟩
   ·obtain⟨w2,z2⟩:=I.cell y c' e;exact⟨w2,z2.sameBut hs Y0⟩
  ·obtain⟨e,n,ne,nf,d⟩:=I.pin p hp;refine⟨(hs.2 p.1 ?_).trans e,n,ne,nf,d⟩;intro q;rw[q,hoc] at e;have q':oc=p.2:=Option.some.inj e;exact d w' (by rw[← q'];exact hocd)
theorem pA {Q:Unit->S7->Prop}(I:Inv X VZ σ H s)(hN:X.N.Nodup)(hi:X.N[i]?=some x)(hx:Loc X.env.scope x)(r:RelV v u)(h:∀s',Inv X VZ (σ.set i (some v)) H s'->Q () s')(hf:fQ X x:=by first | exact .inl rfl | exact .inr rfl | assumption):wpAny M A (storeName X.env x u) Q E s:=
 tF I hN hi hx r (λs' I' _=>h s' I') hf
theorem Inv.Mn (I:Inv X VZ σ H s)(ho:s'.os=s.os)(u:Un (lZ X.stack) ch H H' s.heap s'.heap)(V4:eU X.prog X.w H' s'.heap)(hg:S4 s'.gens)(X7:∀b∈ch,(b∈X.ex∨X.s₀.heap.objs.size<=b)/\b≠X.env.locals/\(∀x c,X.env.cells.lookup x=some c->c≠b)/\∀p∈X.pn++VZ,p.1≠b):Inv X VZ σ H' s':=by
 obtain⟨h',g',d',t',o'⟩:=s';have e:o'=s.os:=ho;subst e;exact I.call (g':=g') (t':=t') (d':=d') u V4 hg X7
end
abbrev XK:=Value->Option Addr->Hp->Prop
abbrev St:=List (Option V)
abbrev VK:=V->Hp->Prop
abbrev TE:=St->Hp->VK->Prop
abbrev TT:=St->Hp->(Bool->Hp->Prop)->Prop
abbrev TA:=St->Hp->(List V->Hp->Prop)->Prop
structure Ends where
 nx:St->Hp->Prop
 rt:VK
 bk:St->Hp->Prop:=λ_ _=>False
 ct:St->Hp->Prop:=λ_ _=>False
abbrev TS:=Ends->St->Hp->Prop
def EP (X:Cx)(VZ:PD)(σ:St)(Q:VK)(u:Value)(s':S7):Prop:=∃v H',Inv X VZ σ H' s'/\RelV v u/\Q v H'
def TP (X:Cx)(VZ:PD)(σ:St)(Q:Bool->Hp->Prop)(b:Bool)(s':S7):Prop:=∃H',Inv X VZ σ H' s'/\Q b H'
def AP (X:Cx)(VZ:PD)(σ:St)(Q:List V->Hp->Prop)(us:PN)(s':S7):Prop:=∃vs H',Inv X VZ σ H' s'/\Vals vs us/\Q vs H'
def SP (X:Cx)(VZ:PD)(D:Ends)(f:Flow)(s':S7):Prop:=
 match f with
 | .next=>∃σ' H',Inv X VZ σ' H' s'/\D.nx σ' H'
 | .brk=>∃σ' H',Inv X VZ σ' H' s'/\D.bk σ' H'
 | .cont=>∃σ' H',Inv X VZ σ' H' s'/\D.ct σ' H'
 | .ret u=>∃v σ' H',Inv X VZ σ' H' s'/\RelV v u/\D.rt v H'
def PE (X:Cx)(e:Expr)(t:TE):Prop:=
 ∀(VZ:PD)(s:S7)(σ:St)(H:Hp)(Q:VK),Inv X VZ σ H s->t σ H Q->wpAny (model X.prog X.w) X.A (eval e X.env) (EP X VZ σ Q) X.xe s
def PT (X:Cx)(e:Expr)(t:TT):Prop:=
 ∀(VZ:PD)(s:S7)(σ:St)(H:Hp)(Q:Bool->Hp->Prop),Inv X VZ σ H s->t σ H Q->wpAny (model X.prog X.w) X.A (T2 e X.env (eval e X.env)) (TP X VZ σ Q) X.xe s
def PW (X:Cx)(e:Expr)(t:TT):Prop:=
 ∀(whole:Sem Value)(VZ:PD)(s:S7)(σ:St)(H:Hp)(Q:Bool->Hp->Prop),Inv X VZ σ H s->t σ H Q->wpAny (model X.prog X.w) X.A (T2 e X.env whole) (TP X VZ σ Q) X.xe s
variable {e:Expr}
theorem PW.pt {t:TT}(h:PW X e t):PT X e t:=h _
def PA (X:Cx)(es:PQ)(t:TA):Prop:=
 ∀(pos:Pos)(VZ:PD)(s:S7)(σ:St)(H:Hp)(Q:List V->Hp->Prop),Inv X VZ σ H s->t σ H Q->wpAny (model X.prog X.w) X.A (spliced (Ui pos (Td es X.env))) (AP X VZ σ Q) X.xe s
def PS (X:Cx)(st:Stmt)(t:TS):Prop:=
 ∀(VZ:PD)(s:S7)(σ:St)(H:Hp)(D:Ends),Inv X VZ σ H s->t D σ H->wpAny (model X.prog X.w) X.A (exec st X.env) (SP X VZ D) X.xe s
def kD (X:Cx)(st:List Stmt)(t:TS):Prop:=
 ∀(VZ:PD)(s:S7)(σ:St)(H:Hp)(D:Ends),Inv X VZ σ H s->t D σ H->wpAny (model X.prog X.w) X.A (execs st X.env) (SP X VZ D) X.xe s
theorem aX {α:Type}{t:Sem α}{Q Q':α->S7->Prop}(h:wpAny M A t Q E s)(hQ:∀a s,Q a s->Q' a s):wpAny M A t Q' E s:=Tp h hQ λ_ _ x=>x
variable {Q:Value->S7->Prop}{pos:Pos}{σ:St}{ta:TE}{c:Expr}
section
def Ph (i:Nat):TE:=λσ H Q=>∃v,σ[i]?=some (some v)/\Q v H
def tC (v:V):TE:=λ_ H Q=>Q v H
theorem aV (hN:At X i x):PE X (.Name x pos) (Ph i):=by
 intro VZ s σ H Q I h;obtain⟨v,e,h⟩:=h;obtain⟨m,hn,hl⟩:=I.loc;obtain⟨u,r,l⟩:=hl i x v hN.n e hN.v;have fin:EP X VZ σ Q u s:=⟨v,H,I,r,h⟩;rcases l with⟨hk,hm⟩ | ⟨hk,c,hc,Xn⟩
 ·exact wpAny_Name (wpAny_loadName_local I.ok.kind hk hn hm fin) hN.d
 ·rcases hk with hk | hk
  ·exact wpAny_Name (wpAny_loadName_cell I.ok.kind hk hc Xn fin) hN.d
  ·exact wpAny_Name (wpAny_loadName_free I.ok.kind hk hc Xn fin hN.c) hN.d
theorem rF {i j pos}:PE X (.Constant (.int i) j pos) (tC (.int i)):=λ_ _ _ H _ I h=>wpAny_Constant_int ⟨.int i,H,I.tok _,⟨_,rfl⟩,h⟩
theorem qM {b j pos}:PE X (.Constant (.bool b) j pos) (tC (.bl b)):=λ_ _ _ H _ I h=>Constant_bool ⟨.bl b,H,I,rfl,h⟩
theorem JN {j pos}:PE X (.Constant .none j pos) (tC .Wb):=λ_ _ _ H _ I h=>Constant_none ⟨.Wb,H,I,rfl,h⟩
theorem JL {x j pos}:PE X (.Constant (.str x) j pos) (tC (.str x)):=λ_ _ _ H _ I h=>Calls.Constant_str ⟨.str x,H,I.tok _,⟨_,rfl⟩,h⟩
def Gl (X:Cx)(x:Str):Prop:=X.env.kindOf x=some .globalImplicit
theorem sj (I:Inv X VZ σ H s)(hg:Gl X x)(hm:X.mg x=some u)(h:Q u s)(hd:WW x:=by decide):wpAny (model X.prog X.w) X.A (eval (.Name x pos) X.env) Q E s:=
 Calls.Name_function_global I.ok.kind hg (Calls.loadGlobal_global (by rw[I.ok.glob];exact I.mod.glob.keeps I.bk) hm h) hd
theorem iK (I:Inv X VZ σ H s)(hg:Gl X x)(hm:X.mg x=none)(hv:TB x=some u)(h:Q u s)(hn:x≠"__name__":=by decide)(hd:WW x:=by decide):wpAny (model X.prog X.w) X.A (eval (.Name x pos) X.env) Q E s:=by
 obtain⟨mb,h1,h2⟩:=I.mod.blt;exact Calls.Name_function_global I.ok.kind hg (Calls.loadGlobal_builtin (by rw[I.ok.glob];exact I.mod.glob.keeps I.bk) hm (by rw[I.ok.blt];exact h1.keeps I.bk) ((h2 x hn).trans hv) h) hd
theorem ki (hg:Gl X x)(hm:X.mg x=some u)(r:RelV v u)(hd:WW x:=by decide):PE X (.Name x pos) (tC v):=
 λ_ _ _ H _ I h=>sj I hg hm ⟨v,H,I,r,h⟩ hd
theorem He (hg:Gl X x)(hm:X.mg x=none)(hv:TB x=some u)(r:RelV v u)(hn:x≠"__name__":=by decide)(hd:WW x:=by decide):PE X (.Name x pos) (tC v):=
 λ_ _ _ H _ I h=>iK I hg hm hv ⟨v,H,I,r,h⟩ hn hd
variable {a b:Expr}{tb:TE}
def PC (X:Cx)(op:CmpOp)(a b:Expr)(t:TE):Prop:=
 ∀(VZ:PD)(s:S7)(σ:St)(H:Hp)(Q:VK),Inv X VZ σ H s->t σ H Q->
  wpAny (model X.prog X.w) X.A (eval a X.env) (λv s₁=>wpAny (model X.prog X.w) X.A (eval b X.env) (λu s₂=>wpAny (model X.prog X.w) X.A (Tj op v u) (EP X VZ σ Q) X.xe s₂) X.xe s₁) X.xe s
def tB (t:TE):TT:=λσ H Q=>t σ H λx H1=>∃c,x= .bl c/\Q c H1
theorem mf {op:CmpOp}{t:TE}(h:PC X op a b t)(h1:Tx op b=false:=by first | exact Z7 _ (by decide) (by decide) | rfl):PT X (.Compare a [op] [b] pos) (tB t):=by
 intro VZ s σ H Q I hw;refine wpAny_isTrue_Compare1 (aX (h VZ s σ H _ I hw) λv s1 h1=>aX h1 λu s2 h2=>aX h2 λc s3 ⟨x,H1,I1,r1,q1⟩=>?_) h1;obtain⟨d,rfl,q⟩:=q1;cases r1
 exact Ti ⟨H1,I1,q⟩
theorem Kr {t:TE}(h:PE X e t)(he:∀whole,T2 e X.env whole=(do let v ← whole;Ue e.pos;TK [v] (truthy v)):=by intro _;rfl):PT X e (tB t):=by
 intro VZ s σ H Q I hw;refine isTrue_plain (aX (h VZ s σ H _ I hw) λv s1 ⟨x,H1,I1,r1,q1⟩=>?_) (he _);obtain⟨d,rfl,q⟩:=q1;cases r1
 exact Ti ⟨H1,I1,q⟩
variable {tA tB':TT}{rest:PQ}
def OM (t u:TT):TT:=λσ H Q=>t σ H λc H1=>if c=true then u σ H1 Q else Q false H1
def tOr (t u:TT):TT:=λσ H Q=>t σ H λc H1=>if c=true then Q true H1 else u σ H1 Q
def OO (t:TT):TT:=λσ H Q=>t σ H λc H1=>Q (!c) H1
theorem GZ (ha:PT X a tA):PW X (.BoolOp .And [a] pos) tA:=by
 intro wh VZ s σ H Q I h;refine isTrue_and (aX (ha VZ s σ H Q I h) λc s1 e=>?_);cases c with
 | true=>exact isTrue_and_nil e
 | false=>exact e
theorem J8 (ha:PT X a tA):PW X (.BoolOp .Or [a] pos) tA:=by
 intro wh VZ s σ H Q I h;refine isTrue_or (aX (ha VZ s σ H Q I h) λc s1 e=>?_);cases c with
 | false=>exact isTrue_or_nil e
 | true=>exact e
theorem KN (ha:PT X a tA)(hb:PW X (.BoolOp .And (b::rest) pos) tB'):PW X (.BoolOp .And (a::b::rest) pos) (OM tA tB'):=by
 intro wh VZ s σ H Q I h;refine isTrue_and (aX (ha VZ s σ H _ I h) λc s1 ⟨H1,I1,q1⟩=>?_);cases c with
 | true=>exact hb wh VZ s1 σ H1 Q I1 q1
 | false=>exact⟨H1,I1,q1⟩
theorem Ms (ha:PT X a tA)(hb:PW X (.BoolOp .Or (b::rest) pos) tB'):PW X (.BoolOp .Or (a::b::rest) pos) (tOr tA tB'):=by
 intro wh VZ s σ H Q I h;refine isTrue_or (aX (ha VZ s σ H _ I h) λc s1 ⟨H1,I1,q1⟩=>?_);cases c with
 | true=>exact⟨H1,I1,q1⟩
 | false=>exact hb wh VZ s1 σ H1 Q I1 q1
theorem Ji (ha:PT X a tA):PT X (.UnaryOp .Not a pos) (OO tA):=by
 intro VZ s σ H Q I h;exact isTrue_not (ha VZ s σ H (λc H1=>Q (!c) H1) I h)
def LQ (ta tb:TE):TE:=λσ H Q=>ta σ H λx H1=>∃c,x= .bl c/\if c=true then tb σ H1 Q else Q (.bl false) H1
def Pq (ta tb:TE):TE:=λσ H Q=>ta σ H λx H1=>∃c,x= .bl c/\if c=true then Q (.bl true) H1 else tb σ H1 Q
def Mw (ta:TE):TE:=λσ H Q=>ta σ H λx H1=>∃c,x= .bl c/\Q (.bl (!c)) H1
theorem HU {op}{t:TE}(h:PE X a t):PE X (.BoolOp op [a] pos) t:=λVZ s σ H Q I hw=>BoolOp_one (h VZ s σ H Q I hw)
theorem JF (ha:PE X a ta)(hb:PE X (.BoolOp .And (b::rest) pos) tb):PE X (.BoolOp .And (a::b::rest) pos) (LQ ta tb):=by
 intro VZ s σ H Q I h;refine BoolOp_and (aX (ha VZ s σ H _ I h) λv s1 ⟨x,H1,I1,r1,q1⟩=>?_);obtain⟨c,rfl,q1⟩:=q1;cases r1
 refine Ti ?_;cases c with
 | true=>exact hb VZ s1 σ H1 Q I1 q1
 | false=>exact⟨.bl false,H1,I1,rfl,q1⟩
theorem MG (ha:PE X a ta)(hb:PE X (.BoolOp .Or (b::rest) pos) tb):PE X (.BoolOp .Or (a::b::rest) pos) (Pq ta tb):=by
 intro VZ s σ H Q I h;refine BoolOp_or (aX (ha VZ s σ H _ I h) λv s1 ⟨x,H1,I1,r1,q1⟩=>?_);obtain⟨c,rfl,q1⟩:=q1;cases r1
 refine Ti ?_;cases c with
 | false=>exact hb VZ s1 σ H1 Q I1 q1
 | true=>exact⟨.bl true,H1,I1,rfl,q1⟩
theorem Ih (ha:PE X a ta):PE X (.UnaryOp .Not a pos) (Mw ta):=by
 intro VZ s σ H Q I h;refine UnaryOp_ (aX (ha VZ s σ H _ I h) λv s1 ⟨x,H1,I1,r1,q1⟩=>?_);obtain⟨c,rfl,q1⟩:=q1;cases r1
 exact not_of (Ti ⟨.bl (!c),H1,I1,rfl,q1⟩)
def tIf (t:TT)(ta tb:TE):TE:=λσ H Q=>t σ H λc H1=>if c=true then ta σ H1 Q else tb σ H1 Q
theorem Dn (hc:PT X c tA)(ha:PE X a ta)(hb:PE X b tb):PE X (.IfExp c a b pos) (tIf tA ta tb):=by
 intro VZ s σ H Q I h;refine wpAny_IfExp (aX (hc VZ s σ H _ I h) λd s1 ⟨H1,I1,q1⟩=>?_);cases d with
 | true=>exact ha VZ s1 σ H1 Q I1 q1
 | false=>exact hb VZ s1 σ H1 Q I1 q1
end
def bt (K:Vr)(H:Hp)(a:Addr)(xs:List V):Prop:=
 Rd H a (.lst xs)∨
  ∃(o:Obj)(V1:Array Value)(n:Nat),K.lookup a=some o/\o.cls= .type "list"/\o.dict=none/\o.data= .seq V1 n/\V1.size<=S8/\Vals xs V1.toList
def dR (K:Vr)(H:Hp)(a:Addr)(xs:List V):Prop:=
 Rd H a (.tup xs)∨
  ∃(o:Obj)(V1:Array Value)(n:Nat),K.lookup a=some o/\o.cls= .type "tuple"/\o.data= .seq V1 n/\V1.size<=S8/\Vals xs V1.toList
def Pt:Value->Option V
 | .none=>some .Wb
 | .bool b=>some (.bl b)
 | .int i _=>some (.int i)
 | .str x _=>some (.str x)
 | .bytes b _=>some (.XU b)
 | .float b _=>some (.ZA b)
 | .ref a=>some (.ref a)
 | .type n=>some (.ty n)
 | _=>none
theorem RelV.abs {x:V}(r:RelV x u):Pt u=some x:=by
 cases x with
 | Wb=>cases r;rfl
 | bl _=>cases r;rfl
 | int _=>obtain⟨t,rfl⟩:=r;rfl
 | str _=>obtain⟨t,rfl⟩:=r;rfl
 | XU _=>obtain⟨t,rfl⟩:=r;rfl
 | ZA _=>obtain⟨t,rfl⟩:=r;rfl
 | ref _=>cases r;rfl
 | ty _=>cases r;rfl
theorem RelV.inj {x y:V}{u:Value}(r:RelV x u)(q:RelV y u):x=y:=Option.some.inj (r.abs.symm.trans q.abs)
theorem Vals.inj:∀{xs ys:List V}{us:PN},Vals xs us->Vals ys us->xs=ys
 | _,_,_,.nil,.nil=>rfl
 | _,_,_,.cons r t,.cons r' t'=>by rw[r.inj r',Vals.inj t t']
variable {xs:List V}{K:Vr}
section
variable {ys:List V}
theorem bt.of (h:H a=some (.lst xs)):bt K H a xs:=.inl (.inl h)
theorem dR.of (h:H a=some (.tup xs)):dR K H a xs:=.inl (.inl h)
theorem Inv.list (I:Inv X VZ σ H s)(h:bt X.K H a xs):∃V1:PN,Vals xs V1/\PlainL s.heap a V1.toArray/\xs.length<=S8:=by
 rcases h with h | ⟨o,V1,n,hk,hc,hd,hs,hz,r⟩
 ·obtain⟨z,V1,n,r,e⟩:=h.ok I.V4;exact⟨V1,r,⟨_,n,e,rfl,rfl,rfl⟩,z⟩
 ·refine⟨V1.toList,r,⟨o,n,I.gb a o hk,hc,hd,by simpa using hs⟩,?_⟩;have e:=r.length;simp only[PU] at e;omega
theorem Inv.tuple (I:Inv X VZ σ H s)(h:dR X.K H a xs):∃V1:PN,Vals xs V1/\IsTup s.heap a V1.toArray/\xs.length<=S8:=by
 rcases h with h | ⟨o,V1,n,hk,hc,hs,hz,r⟩
 ·obtain⟨z,V1,r,p⟩:=h.ok I.V4;exact⟨V1,r,p,z⟩
 ·refine⟨V1.toList,r,⟨o,I.gb a o hk,hc,n,by simpa using hs⟩,?_⟩;have e:=r.length;simp only[PU] at e;omega
theorem Inv.mO (I:Inv X VZ σ H s)(h:bt X.K H a xs)(h':bt X.K H a ys):xs=ys:=by
 obtain⟨V1,r,⟨o,n,e,_,_,d⟩,_⟩:=I.list h;obtain⟨its',r',⟨o',n',e',_,_,d'⟩,_⟩:=I.list h';rw[e] at e';cases e'
 rw[d] at d';injection d' with d1 _;have:V1=its':=by simpa using congrArg Array.toList d1
 subst this;exact r.inj r'
theorem Inv.tJ (I:Inv X VZ σ H s)(h:dR X.K H a xs)(h':dR X.K H a ys):xs=ys:=by
 obtain⟨V1,r,⟨o,e,_,n,d⟩,_⟩:=I.tuple h;obtain⟨its',r',⟨o',e',_,n',d'⟩,_⟩:=I.tuple h';rw[e] at e';cases e'
 rw[d] at d';injection d' with d1 _;have:V1=its':=by simpa using congrArg Array.toList d1
 subst this;exact r.inj r'
end
abbrev Cx.lM (X:Cx)(E:Value->S7->Prop):Cx:={X with xe:=E}
abbrev Cx.i6 (X:Cx):Cx:=X.lM λ_ _=>False
theorem Cx.Ok.lM {X:Cx}(ok:X.Ok)(E:Value->S7->Prop):(X.lM E).Ok:=
 ⟨ok.mod,ok.kind,ok.glob,ok.blt,ok.above,ok.inj,ok.has,ok.cab,ok.hd,ok.frames,ok.stk,ok.exf,ok.bs,ok.YK,ok.Yd,ok.X2,ok.W3,ok.Zz⟩
theorem Cx.Ok.jz (ok:(X.lM E).Ok):X.Ok:=
 ⟨ok.mod,ok.kind,ok.glob,ok.blt,ok.above,ok.inj,ok.has,ok.cab,ok.hd,ok.frames,ok.stk,ok.exf,ok.bs,ok.YK,ok.Yd,ok.X2,ok.W3,ok.Zz⟩
theorem Inv.lM (I:Inv X VZ σ H s)(E:Value->S7->Prop):Inv (X.lM E) VZ σ H s:=⟨I.ok.lM E,I.os,I.bare,I.base,I.loc,I.cell,I.free,I.WL,I.pin,I.V4,I.len⟩
theorem Inv.jz (I:Inv (X.lM E) VZ σ H s):Inv X VZ σ H s:=⟨I.ok.jz,I.os,I.bare,I.base,I.loc,I.cell,I.free,I.WL,I.pin,I.V4,I.len⟩
theorem SP.jz {D:Ends}{f:Flow}{s':S7}(h:SP (X.lM E) VZ D f s'):SP X VZ D f s':=by
 cases f with
 | next=>obtain⟨σ',H',I,q⟩:=h;exact⟨σ',H',I.jz,q⟩
 | brk=>obtain⟨σ',H',I,q⟩:=h;exact⟨σ',H',I.jz,q⟩
 | cont=>obtain⟨σ',H',I,q⟩:=h;exact⟨σ',H',I.jz,q⟩
 | ret u=>obtain⟨v,σ',H',I,r,q⟩:=h;exact⟨v,σ',H',I.jz,r,q⟩
theorem kD.i6 {st:List Stmt}{t:TS}(h:kD X.i6 st t):kD X st t:=λVZ s σ H D I hw=>
 Tp (h VZ s σ H D (I.lM _) hw) (λ_ _ q=>q.jz) λ_ _ z=>P4 z
variable {te:TE}{tc:TT}
section
variable {st:Stmt}{rest:List Stmt}{t u:TS}
def Me:TS:=λD σ H=>D.nx σ H
def OT (t u:TS):TS:=λD σ H=>t {D with nx:=u D} σ H
theorem Gy:kD X [] Me:=λ_ _ σ H _ I h=>T8 ⟨σ,H,I,h⟩
theorem Eb (h1:PS X st t)(h2:kD X rest u):kD X (st::rest) (OT t u):=by
 intro VZ s σ H D I h;refine wpAny_execs_cons (aX (h1 VZ s σ H {D with nx:=u D} I h) λf s1 q=>?_);cases f with
 | next=>
   obtain⟨σ',H',I',q⟩:=q;exact h2 VZ s1 σ' H' D I' q
 | ret v=>exact q
 | brk=>exact q
 | cont=>exact q
theorem G4 (h1:PS X st t):kD X [st] t:=by
 intro VZ s σ H D I h;refine wpAny_execs_cons (aX (h1 VZ s σ H D I h) λf s1 q=>?_);cases f with
 | next=>exact T8 q
 | ret v=>exact q
 | brk=>exact q
 | cont=>exact q
theorem Inv.quiet (I:Inv X VZ σ H s):interactive X.env=false:=by simp[interactive,I.ok.kind]
def LR (te:TE):TS:=λD σ H=>te σ H λ_ H1=>D.nx σ H1
theorem d9 (he:PE X e te)(hs:Tf e none pos.line X.env=pure false:=by rfl):PS X (.Expr e pos) (LR te):=by
 intro VZ s σ H D I h;exact wpAny_Expr_any (aX (he VZ s σ H _ I h) λv s1 ⟨x,H1,I1,r1,q1⟩=>⟨σ,H1,I1,q1⟩) I.quiet hs
def O8 (te:TE):TS:=λD σ H=>te σ H D.rt
theorem kQ (he:PE X e te):PS X (.Return (some e) pos) (O8 te):=by
 intro VZ s σ H D I h;exact wpAny_Return_some (aX (he VZ s σ H _ I h) λv s1 ⟨x,H1,I1,r1,q1⟩=>⟨x,σ,H1,I1,r1,q1⟩)
def OY (c:TT)(t u:TS):TS:=λD σ H=>c σ H λb H1=>if b=true then t D σ H1 else u D σ H1
theorem Lv {a b:List Stmt}(hc:PT X c tc)(ha:kD X a t)(hb:kD X b u):PS X (.If c a b pos) (OY tc t u):=by
 intro VZ s σ H D I h;refine wpAny_If (aX (hc VZ s σ H _ I h) λd s1 ⟨H1,I1,q1⟩=>?_);cases d with
 | true=>exact ha VZ s1 σ H1 D I1 q1
 | false=>exact hb VZ s1 σ H1 D I1 q1
end
abbrev TG:=V->St->Hp->(St->Hp->Prop)->Prop
abbrev wK:=List V->St->Hp->(St->Hp->Prop)->Prop
def PG (X:Cx)(target:Expr)(t:TG):Prop:=
 ∀(VZ:PD)(s:S7)(σ:St)(H:Hp)(v:V)(u:Value)(Q:St->Hp->Prop),Inv X VZ σ H s->RelV v u->t v σ H Q->
  wpAny (model X.prog X.w) X.A (TU target X.env u) (λ_ s'=>∃σ' H',Inv X VZ σ' H' s'/\Q σ' H') X.xe s
def Fb (X:Cx)(ts:PQ)(t:wK):Prop:=
 ∀(VZ:PD)(s:S7)(σ:St)(H:Hp)(vs:List V)(us:PN)(Q:St->Hp->Prop),Inv X VZ σ H s->Vals vs us->t vs σ H Q->
  wpAny (model X.prog X.w) X.A (assignInOrder ((TQ ts X.env).map (·.2)) us) (λ_ s'=>∃σ' H',Inv X VZ σ' H' s'/\Q σ' H') X.xe s
abbrev D4:=V->V->V->Hp->(Hp->Prop)->Prop
def Kq (X:Cx)(t:D4):Prop:=
 ∀(VZ:PD)(s:S7)(σ:St)(H:Hp)(o i v:V)(ov iv u:Value)(Q:Hp->Prop),Inv X VZ σ H s->RelV o ov->RelV i iv->RelV v u->t o i v H Q->
  wpAny (model X.prog X.w) X.A (setItem ov iv u) (λ_ s'=>∃H',Inv X VZ σ H' s'/\Q H') X.xe s
abbrev E6:=V->V->Hp->VK->Prop
def N9 (X:Cx)(op:Operator)(t:E6):Prop:=
 ∀(VZ:PD)(s:S7)(σ:St)(H:Hp)(x y:V)(v u:Value)(Q:VK),Inv X VZ σ H s->RelV x v->RelV y u->t x y H Q->
  wpAny (model X.prog X.w) X.A (inplaceOp op v u) (EP X VZ σ Q) X.xe s
variable {op:Operator}{es:PQ}{n:Nat}{tg:Expr}{pos':Pos}
def zu (i:Nat):TG:=λv σ H Q=>Q (σ.set i (some v)) H
theorem gg (hN:X.N.Nodup)(hi:X.N[i]?=some x)(hx:Loc X.env.scope x)(hf:fQ X x:=by first | exact .inl rfl | exact .inr rfl | assumption):PG X (.Name x pos) (zu i):=by
 intro VZ s σ H v u Q I r h;exact wpAny_assign_Name (pA I hN hi hx r (λs' I'=>⟨_,H,I',h⟩) hf)
def OR:wK:=λvs σ H Q=>vs=[]/\Q σ H
def Ll (t:TG)(u:wK):wK:=λvs σ H Q=>∃v r,vs=v::r/\t v σ H λσ' H'=>u r σ' H' Q
theorem rP:Fb X [] OR:=by
 intro VZ s σ H vs us Q I r h;obtain⟨e,h⟩:=h;subst e;cases r
 exact assignInOrder_nil ⟨σ,H,I,h⟩
theorem fX {t:TG}{u:wK}(h1:PG X e t)(h2:Fb X es u)(hs:(TQ (e::es) X.env).map (·.2)=TU e X.env::(TQ es X.env).map (·.2):=by rfl):Fb X (e::es) (Ll t u):=by
 intro VZ s σ H vs us Q I r h;obtain⟨v,vr,e1,h⟩:=h;subst e1;cases r with
 | cons r rr=>
   rw[hs];refine assignInOrder_cons (aX (h1 VZ s σ H _ _ _ I r h) λ_ s1 ⟨σ1,H1,I1,q1⟩=>?_);exact h2 VZ s1 σ1 H1 _ _ Q I1 rr q1
def O2 (K:Vr)(n:Nat)(t:wK):TG:=λv σ H Q=>∃a xs,v= .ref a/\dR K H a xs/\xs.length=n/\t xs σ H Q
theorem xf {k:Nat}{t:wK}(hc:X.calm=true)(h:Fb X es t)(hn:(TQ es X.env).length=n:=by rfl)(hst:(TQ es X.env).findIdx? (·.1)=none:=by rfl):PG X (.Tuple es k pos) (O2 X.K n t):=by
 intro VZ s σ H v u Q I r hw;obtain⟨a,xs,e1,hq,hl,hw⟩:=hw;subst e1;cases r
 obtain⟨V1,rv,ht,hz⟩:=I.tuple hq;refine assign_Tuple_tuple (I.ok.hd hc) ht (by simp[hn,← hl,rv.length]) hst λh' hx=>?_;have I1:Inv X VZ σ H {s with heap:=h'}:=I.kept (t':=s.toks) λb o e=>hx b o (Sl (U6 e)) e;exact h VZ _ σ H xs _ Q I1 (by simpa using rv) hw
def OZ (to ti:TE)(t:D4):TG:=λv σ H Q=>to σ H λo H1=>ti σ H1 λi H2=>t o i v H2 λH3=>Q σ H3
theorem Ah {o i:Expr}{to ti:TE}{t:D4}(ho:PE X o to)(hi:PE X i ti)(hs:Kq X t)(ha:∀v,TU (.Subscript o i pos) X.env v=(do
  let ov ← TK [v] (eval o X.env)
  let iv ← TK [v,ov] (eval i X.env)
  Ue pos
  TK [v,ov,iv] (setItem ov iv v)
  release [v,ov,iv] []):=by intro _;rfl):PG X (.Subscript o i pos) (OZ to ti t):=by
 intro VZ s σ H v u Q I r h;rw[ha];refine S9 (TZ (aX (ho VZ s σ H _ I h) λov s1 ⟨x,H1,I1,r1,q1⟩=>?_));refine S9 (TZ (aX (hi VZ s1 σ H1 _ I1 q1) λiv s2 ⟨y,H2,I2,r2,q2⟩=>?_));refine S9 (UG (S9 (TZ (aX (hs VZ s2 σ H2 x y v ov iv u _ I2 r1 r2 r q2) λ_ s3 ⟨H3,I3,q3⟩=>?_))));exact wpAny_release ⟨σ,H3,I3,q3⟩
def Dq (te:TE)(g:TG):TS:=λD σ H=>te σ H λx H1=>g x σ H1 D.nx
theorem vj {g:TG}(he:PE X e te)(hg:PG X tg g)(hs:Uj [tg] e pos.line X.env=pure false:=by rfl)(hw:Uk [tg] e X.env=pure none:=by rfl)(h1:(TQ [tg] X.env).map (·.2)=[TU tg X.env]:=by rfl):PS X (.Assign [tg] e pos) (Dq te g):=by
 intro VZ s σ H D I h;refine wpAny_Assign_stores (aX (he VZ s σ H _ I h) λv s1 ⟨x,H1,I1,r1,q1⟩=>?_) hs hw;rw[h1];exact aX (hg VZ s1 σ H1 x v _ I1 r1 q1) λ_ s2 q=>q
theorem iT (hN:X.N.Nodup)(hi:X.N[i]?=some x)(hx:Loc X.env.scope x)(he:PE X e te)(hs:Tf e (some (.Name x pos')) pos.line X.env=pure false:=by rfl)(hf:fQ X x:=by first | exact .inl rfl | exact .inr rfl | assumption):
 PS X (.Assign [.Name x pos'] e pos) (Dq te (zu i)):=by
 intro VZ s σ H D I h;refine wpAny_Assign_Name (aX (he VZ s σ H _ I h) λv s1 ⟨y,H1,I1,r1,q1⟩=>?_) hs;exact pA I1 hN hi hx r1 (λs2 I2=>⟨_,H1,I2,q1⟩) hf
def OS (i:Nat)(te:TE)(ti:E6):TS:=λD σ H=>∃x,σ[i]?=some (some x)/\te σ H λy H1=>ti x y H1 λz H2=>D.nx (σ.set i (some z)) H2
theorem IU {ti:E6}(hN:X.N.Nodup)(hi:X.N[i]?=some x)(hx:Loc X.env.scope x)(he:PE X e te)(ho:N9 X op ti)(hf:fQ X x:=by first | exact .inl rfl | exact .inr rfl | assumption):
 PS X (.AugAssign (.Name x pos') op e pos) (OS i te ti):=by
 intro VZ s σ H D I h;obtain⟨v,e1,h⟩:=h;obtain⟨m,hn,hl⟩:=I.loc;have vis:BR X.env.scope x:=by rcases hx with k | k;exact .inl k;exact .inr (.inl k)
 obtain⟨u,r,l⟩:=hl i x v hi e1 vis;refine wpAny_AugAssign_Name ?_;have go:wpAny (model X.prog X.w) X.A (eval e X.env) (λw s₂=>wpAny (model X.prog X.w) X.A (inplaceOp op u w) (λr s₃=>wpAny (model X.prog X.w) X.A (storeName X.env x r) (λ_=>SP X VZ D .next) X.xe s₃) X.xe s₂) X.xe s:=by
  refine aX (he VZ s σ H _ I h) λw s1 ⟨y,H1,I1,r1,q1⟩=>?_;refine aX (ho VZ s1 σ H1 v y u w _ I1 r r1 q1) λz s2 ⟨zv,H2,I2,r2,q2⟩=>?_;exact pA I2 hN hi hx r2 (λs3 I3=>⟨_,H2,I3,q2⟩) hf
 rcases l with⟨hk,hm⟩ | ⟨hk,c,hc,Xn⟩
 ·exact wpAny_loadName_local I.ok.kind hk hn hm go
 ·rcases hk with hk | hk
  ·exact wpAny_loadName_cell I.ok.kind hk hc Xn go
  ·rcases hx with k | k
   ·have:X.env.scope.names.lookup x=some .free:=hk;rw[k] at this;cases this
   ·have:X.env.scope.names.lookup x=some .free:=hk;rw[k] at this;cases this
def ipI (f:Int->Int->Int):E6:=λx y H Q=>∃i j,x= .int i/\y= .int j/\Q (.int (f i j)) H
theorem JS:N9 X .Add (ipI λi j=>i+j):=by
 intro VZ s σ H x y v u Q I r1 r2 h;obtain⟨i,j,e1,e2,q⟩:=h;subst e1;subst e2;obtain⟨t,rfl⟩:=r1;obtain⟨t',rfl⟩:=r2;exact iadd_int ⟨.int _,H,I.tok _,⟨_,rfl⟩,q⟩
variable {body:List Stmt}{tb:TS}
def J1 (c:TT)(tb:TS):TS:=λD σ H=>∃W:Nat->St->Hp->Prop,(∃m,W m σ H)/\∀m σ H,W m σ H->
 c σ H λb H1=>if b=true then∃N:St->Hp->Prop,(∀σ' H',N σ' H'->∃m',m'<m/\W m' σ' H')/\tb {D with nx:=N,ct:=N,bk:=D.nx} σ H1 else D.nx σ H1
theorem DK (hp:Ut (model X.prog X.w) X.A X.env X.xe)(hc:PT X c tc)(hb:kD X body tb):PS X (.While c body [] pos) (J1 tc tb):=by
 intro VZ s σ H D I h;obtain⟨W,⟨m0,w0⟩,turn⟩:=h;refine wpAny_While (codeAny_whileLoop (λn s'=>∃σ' H',Inv X VZ σ' H' s'/\W n σ' H') ?_ m0 ⟨σ,H,I,w0⟩);rintro n s1 ⟨σ1,H1,I1,w1⟩;refine TJ hp (aX (hc VZ s1 σ1 H1 _ I1 (turn n σ1 H1 w1)) λb s2 ⟨H2,I2,q2⟩=>?_);cases b with
 | true=>
   obtain⟨N,hN,q2⟩:=q2;rw[VQ rfl];refine TJ hp (aX (hb VZ s2 σ1 H2 _ I2 q2) λf s3 q3=>?_);cases f with
   | next=>
     obtain⟨σ3,H3,I3,n3⟩:=q3;obtain⟨m',hm,w3⟩:=hN σ3 H3 n3;exact⟨m',hm,σ3,H3,I3,w3⟩
   | cont=>
     obtain⟨σ3,H3,I3,n3⟩:=q3;obtain⟨m',hm,w3⟩:=hN σ3 H3 n3;exact⟨m',hm,σ3,H3,I3,w3⟩
   | brk=>exact q3
   | ret v=>exact q3
 | false=>
   rw[VP PX];exact T8 ⟨σ1,H2,I2,q2⟩
structure It where
 go:Nat->Hp->Prop
 ZW:Nat->Hp->V->Hp->Prop
 stop:Nat->Hp->Prop
def lR (X:Cx)(VZ:PD)(H:Hp)(b:Addr):Prop:=
 H b=none/\b≠X.env.locals/\b∉X.fs/\(b∈X.ex∨X.s₀.heap.objs.size<=b)/\(∀x c,X.env.cells.lookup x=some c->c≠b)/\∀p∈X.pn++VZ,p.1≠b
theorem Inv.jM (I:Inv X VZ σ H s)(hb:s.heap.objs.size<=b)(hn:H' b=none):lR X VZ H' b:=by
 refine⟨hn,Sv (Sk I.lt hb),I.ON hb,.inr (Sh I.sz hb),λx c e z=>?_,λp hp z=>?_⟩
 ·obtain⟨v,q⟩:=I.cell x c e;exact VO (Sk q.lt (by rw[z];exact hb)) (Sn _)
 ·exact VO (Sk (U6 (I.pin p hp).1) (by rw[z];exact hb)) (Sn _)
structure Turn (P:Tb)(w:World)(K:Vr)(tg:Expr)(J:It)(fp:PM)(it:Addr)(tn:Nat->Heap->Prop):Prop where
 mem:it∈fp
 obj:∀i h,tn i h->∀b∈fp,∃o,h.get? b=some o/\∀v,o.data≠ .cell v
 keep:∀i h h',tn i h->(∀b∈fp,∀o,h.get? b=some o->h'.get? b=some o)->tn i h'
 item:∀(X:Cx),X.prog=P->X.w=w->X.K=K->X.calm=true->∀(i:Nat)(VZ:PD)(s:S7)(σ:St)(H:Hp)(E:Value->S7->Prop),Inv X VZ σ H s->(∀b∈fp,lR X VZ H b)->tn i s.heap->J.go i H->
  wpAny (model P w) X.A (Ux (.ref it)) (λr s1=>∃u,r=some u/\
   wpAny (model P w) X.A (T9 tg (.ref it) u) (λ_ s2=>∃x H',Inv X VZ σ H' s2/\RelV x u/\J.ZW i H x H'/\tn (i+1) s2.heap/\∀b∈fp,H' b=none) E s1) E s
 done:∀(X:Cx),X.prog=P->X.w=w->X.K=K->X.calm=true->∀(i:Nat)(VZ:PD)(s:S7)(σ:St)(H:Hp)(E:Value->S7->Prop),Inv X VZ σ H s->(∀b∈fp,lR X VZ H b)->tn i s.heap->J.stop i H->
  wpAny (model P w) X.A (Ux (.ref it)) (λr s1=>r=none/\Inv X VZ σ H s1) E s
 self:∀(A:Te)(i:Nat)(s:S7)(Q:Value->S7->Prop)(E:Value->S7->Prop),tn i s.heap->Q (.ref it) s->wpAny (model P w) A (pyIter (.ref it)) Q E s
abbrev TI:=St->Hp->(It->Hp->Prop)->Prop
def Ic (X:Cx)(VZ:PD)(σ:St)(tg:Expr)(R:It->Hp->Prop)(itv:Value)(s2:S7):Prop:=
 ∃(it:Addr)(fp:PM)(tn:Nat->Heap->Prop)(J:It)(H':Hp),itv= .ref it/\Inv X VZ σ H' s2/\Turn X.prog X.w X.K tg J fp it tn/\tn 0 s2.heap/\(∀b∈fp,lR X VZ H' b)/\R J H'
def PI (X:Cx)(tg iter:Expr)(wi:TI):Prop:=
 ∀(VZ:PD)(s:S7)(σ:St)(H:Hp)(R:It->Hp->Prop),Inv X VZ σ H s->wi σ H R->
  wpAny (model X.prog X.w) X.A (eval iter X.env) (λv s1=>wpAny (model X.prog X.w) X.A (pyIter v) (Ic X VZ σ tg R) X.xe s1) X.xe s
theorem oJ {n:String}{vs:Array Value}{Q:Unit->S7->Prop}(ho:s.heap.get? it=some o)(hc:o.cls= .type n)(hd:o.data= .fields vs)(hn:["enumerate","zip","dict_itemiterator","dict_reverseitemiterator","odict_iterator","itertools.zip_longest","itertools.pairwise"].contains n=false)(hQ:Q () s):wpAny M A (T9 tg (.ref it) u) Q E s:=by
 unfold T9;cases tg<;>first
  | exact Tc hQ
  | (cases u<;>first
   | exact Tc hQ
   | (refine S9 (wpAny_load ho ?_)
      rw[hc,hd];show wpAny M A (if(["enumerate","zip","dict_itemiterator","dict_reverseitemiterator","odict_iterator","itertools.zip_longest","itertools.pairwise"].contains n&&vs[0]?==some (Uy _))=true then _ else _) Q E s;rw[VP (by intro h;rw[hn,Bool.false_and] at h;cases h)]
      exact Tc hQ))
def ND (K:Vr)(a:Addr):It:=
 ⟨λi H=>∃xs x,bt K H a xs/\xs[i]?=some x,λi H x H'=>H'=H/\∀xs,bt K H a xs->xs[i]?=some x,λi H=>∃xs,bt K H a xs/\xs.length<=i⟩
def Nv (K:Vr)(a:Addr):It:=
 ⟨λi H=>∃xs x,dR K H a xs/\xs[i]?=some x,λi H x H'=>H'=H/\∀xs,dR K H a xs->xs[i]?=some x,λi H=>∃xs,dR K H a xs/\xs.length<=i⟩
def Bp (lo:Int)(n:Nat):It:=⟨λi _=>i<n,λi H x H'=>H'=H/\x= .int (lo+i),λi _=>n<=i⟩
theorem Bz (a it:Addr):Turn P w K tg (ND K a) [it] it (λi h=>h.IsListIter it a i) where
 mem:=by simp
 obj:=λi h st b hb=>by
  have e:b=it:=by simpa using hb
  subst e;obtain⟨o,e,c,d⟩:=st;exact⟨o,e,λv z=>by rw[d] at z;cases z⟩
 keep:=λi h h' st k=>st.at λo e=>k it (by simp) o e
 item:=by
  intro X hP hw hK hc i VZ s σ H E I hf st hg;subst hP hw hK;obtain⟨xs,x,hq,hx⟩:=hg;obtain⟨V1,rv,p,hz⟩:=I.list hq;obtain⟨u,hu,ru⟩:=rv.get hx;obtain⟨f0,f1,f2,f3,f4,f5⟩:=hf it (by simp);refine wpAny_pyNext_list_item st p.isList (x:=u) (by simpa using hu) λh' XC sb=>?_;have I1:Inv X VZ σ H {s with heap:=h'}:=I.turned (t':=s.toks) (λb o hb e=>(sb.2 b hb).trans e) f0 f1 f3 f4 f5;obtain⟨o,e,c,d⟩:=id XC;exact⟨u,rfl,oJ (s:={s with heap:=h'}) e c d (by decide) ⟨x,H,I1,ru,⟨rfl,λys hy=>by rw[I.mO hy hq];exact hx⟩,XC,λb hb=>(hf b hb).1⟩⟩
 done:=by
  intro X hP hw hK hc i VZ s σ H E I hf st hg;subst hP hw hK;obtain⟨xs,hq,hx⟩:=hg;obtain⟨V1,rv,p,hz⟩:=I.list hq;obtain⟨f0,f1,f2,f3,f4,f5⟩:=hf it (by simp);have hl:=rv.length;exact wpAny_pyNext_list_end (I.ok.hd hc) st p.isList (by simp;omega) λh' eb=>⟨rfl,I.turned (t':=s.toks) (λb o hb e=>eb b o hb e) f0 f1 f3 f4 f5⟩
 self:=λ_ _ _ _ _ st h=>wpAny_pyIter_listiter st h
theorem y9 (a it:Addr):Turn P w K tg (Nv K a) [it] it (λi h=>h.IsTupleIter it a i) where
 mem:=by simp
 obj:=λi h st b hb=>by
  have e:b=it:=by simpa using hb
  subst e;obtain⟨o,e,c,d⟩:=st;exact⟨o,e,λv z=>by rw[d] at z;cases z⟩
 keep:=λi h h' st k=>st.at λo e=>k it (by simp) o e
 item:=by
  intro X hP hw hK hc i VZ s σ H E I hf st hg;subst hP hw hK;obtain⟨xs,x,hq,hx⟩:=hg;obtain⟨V1,rv,p,hz⟩:=I.tuple hq;obtain⟨u,hu,ru⟩:=rv.get hx;obtain⟨f0,f1,f2,f3,f4,f5⟩:=hf it (by simp);refine wpAny_pyNext_tuple_item st (show s.heap.IsTuple a V1.toArray from p) (x:=u) (by simpa using hu) λh' XC sb=>?_;have I1:Inv X VZ σ H {s with heap:=h'}:=I.turned (t':=s.toks) (λb o hb e=>(sb.2 b hb).trans e) f0 f1 f3 f4 f5;obtain⟨o,e,c,d⟩:=id XC;exact⟨u,rfl,oJ (s:={s with heap:=h'}) e c d (by decide) ⟨x,H,I1,ru,⟨rfl,λys hy=>by rw[I.tJ hy hq];exact hx⟩,XC,λb hb=>(hf b hb).1⟩⟩
 done:=by
  intro X hP hw hK hc i VZ s σ H E I hf st hg;subst hP hw hK;obtain⟨xs,hq,hx⟩:=hg;obtain⟨V1,rv,p,hz⟩:=I.tuple hq;obtain⟨f0,f1,f2,f3,f4,f5⟩:=hf it (by simp);have hl:=rv.length;exact wpAny_pyNext_tuple_end (I.ok.hd hc) st (show s.heap.IsTuple a V1.toArray from p) (by simp;omega) λh' eb=>⟨rfl,I.turned (t':=s.toks) (λb o hb e=>eb b o hb e) f0 f1 f3 f4 f5⟩
 self:=λ_ _ _ _ _ st h=>wpAny_pyIter_tupleiter st h
theorem zk (it:Addr)(lo:Int)(n:Nat):Turn P w K tg (Bp lo n) [it] it (λi h=>Uv h it (lo+(i:Nat)*1) ((n:Int)-(i:Nat)) 1) where
 mem:=by simp
 obj:=λi h st b hb=>by
  have e:b=it:=by simpa using hb
  subst e;exact⟨_,st,λv z=>by
   have z':Data.fields _=Data.cell v:=z;cases z'⟩
 keep:=λi h h' st k=>k it (by simp) _ st
 item:=by
  intro X hP hw hK hc i VZ s σ H E I hf st hg;subst hP hw hK;obtain⟨f0,f1,f2,f3,f4,f5⟩:=hf it (by simp);have W:=Walks.range (prog:=X.prog) (w:=X.w) (I.ok.hd hc) it lo 1 n;refine W.item i s _ _ hg st λv h' tk hv XC kk=>?_;obtain⟨t,rfl⟩:=hv;have I1:Inv X VZ σ H {s with heap:=h',toks:=tk}:=I.turned (λb o hb e=>kk b o (by simpa using hb) e) f0 f1 f3 f4 f5;refine⟨_,rfl,oJ (s:={s with heap:=h',toks:=tk}) (n:="range_iterator") XC rfl rfl (by decide) ⟨.int (lo+i),H,I1,⟨t,?_⟩,⟨rfl,rfl⟩,XC,λb hb=>(hf b hb).1⟩⟩;rw[Int.mul_one]
 done:=by
  intro X hP hw hK hc i VZ s σ H E I hf st hg;subst hP hw hK;obtain⟨f0,f1,f2,f3,f4,f5⟩:=hf it (by simp);exact wpAny_pyNext_range_end (I.ok.hd hc) st (by have:n<=i:=hg;omega) λh' eb=>⟨rfl,I.turned (t':=s.toks) (λb o hb e=>eb b o hb e) f0 f1 f3 f4 f5⟩
 self:=λ_ _ _ _ _ st h=>wpAny_pyIter_rangeiter st h
variable {l:Expr}{tl:TE}
def MJ (K:Vr)(tl:TE):TI:=λσ H R=>tl σ H λx H1=>∃a,x= .ref a/\(∃xs,bt K H1 a xs)/\R (ND K a) H1
def OJ (K:Vr)(tl:TE):TI:=λσ H R=>tl σ H λx H1=>∃a,x= .ref a/\(∃xs,dR K H1 a xs)/\R (Nv K a) H1
theorem yH (hl:PE X l tl):PI X tg l (MJ X.K tl):=by
 intro VZ s σ H R I h;refine aX (hl VZ s σ H _ I h) λv s1 ⟨x,H1,I1,r1,q1⟩=>?_;obtain⟨a,e,⟨xs,hq⟩,q⟩:=q1;subst e;cases r1
 obtain⟨V1,rv,p,hz⟩:=I1.list hq;refine T6 p.isList ?_;refine⟨s1.heap.objs.size,[s1.heap.objs.size],_,_,H1,rfl,I1.kept (t':=s1.toks) λb o e=>U5 _ e,Bz a _,⟨_,U7 _ rfl,rfl,rfl⟩,λb hb=>?_,q⟩;have e:b=s1.heap.objs.size:=by simpa using hb
 subst e;exact I1.jM (Sg _) (I1.V4.fresh (Sg _))
theorem AL (hl:PE X l tl):PI X tg l (OJ X.K tl):=by
 intro VZ s σ H R I h;refine aX (hl VZ s σ H _ I h) λv s1 ⟨x,H1,I1,r1,q1⟩=>?_;obtain⟨a,e,⟨xs,hq⟩,q⟩:=q1;subst e;cases r1
 obtain⟨V1,rv,p,hz⟩:=I1.tuple hq;refine wpAny_pyIter_tuple (show s1.heap.IsTuple a V1.toArray from p) ?_;refine⟨s1.heap.objs.size,[s1.heap.objs.size],_,_,H1,rfl,I1.kept (t':=s1.toks) λb o e=>U5 _ e,y9 a _,⟨_,U7 _ rfl,rfl,rfl⟩,λb hb=>?_,q⟩;have e:b=s1.heap.objs.size:=by simpa using hb
 subst e;exact I1.jM (Sg _) (I1.V4.fresh (Sg _))
theorem wq {R:It->Hp->Prop}{lo hi:Int}{t u v:Tok}{tk:Nat}(I:Inv X VZ σ H s)(h1: -(2 ^ 62)<=lo)(h2:lo<2 ^ 62)(h3: -(2 ^ 62)<=hi)(h4:hi<2 ^ 62)(q:R (Bp lo (hi-lo).toNat) H):wpAny (model X.prog X.w) X.A (pyIter (.ref s.heap.objs.size)) (Ic X VZ σ tg R) E {s with heap:=s.heap.push {cls:=.type "range",data:=.fields #[.int lo t,.int hi u,.int 1 v]},toks:=tk}:=by
 refine wpAny_pyIter_range (IsRange.new ..) (small_one h1 h2 h3 h4) ?_;have I1:Inv X VZ σ H {s with heap:=s.heap.push {cls:=.type "range",data:=.fields #[.int lo t,.int hi u,.int 1 v]},toks:=tk}:=I.kept λb o e=>U5 _ e;refine⟨(s.heap.push {cls:=.type "range",data:=.fields #[.int lo t,.int hi u,.int 1 v]}).objs.size,[(s.heap.push {cls:=.type "range",data:=.fields #[.int lo t,.int hi u,.int 1 v]}).objs.size],_,_,H,rfl,
  I1.kept (t':=tk) λb o e=>U5 _ e,zk _ lo (hi-lo).toNat,?_,λb hb=>?_,q⟩
 ·have e1:lo+((0:Nat):Int)*1=lo:=by simp
  have e2:(((hi-lo).toNat:Nat):Int)-((0:Nat):Int)=UL lo hi 1:=by rw[rangeSize_one];split<;>omega
  show Uv _ _ (lo+((0:Nat):Int)*1) ((((hi-lo).toNat:Nat):Int)-((0:Nat):Int)) 1;rw[e1,e2];exact U7 _ rfl
 ·have e:b=(s.heap.push {cls:=.type "range",data:=.fields #[.int lo t,.int hi u,.int 1 v]}).objs.size:=by simpa using hb
  subst e;exact I1.jM (Sg _) (I1.V4.fresh (Sg _))
def Mm (ta:TA):TI:=λσ H R=>ta σ H λvs H1=>∃j:Int,vs=[.int j]/\ -(2 ^ 62)<=j/\j<2 ^ 62/\R (Bp 0 j.toNat) H1
def Lk (ta:TA):TI:=λσ H R=>ta σ H λvs H1=>∃i j:Int,vs=[.int i,.int j]/\(-(2 ^ 62)<=i/\i<2 ^ 62/\ -(2 ^ 62)<=j/\j<2 ^ 62)/\R (Bp i (j-i).toNat) H1
theorem Cd {a:Expr}{ta:TA}{p:Pos}(hg:Gl X "range")(hm:X.mg "range"=none)(ha:PA X [a] ta)(hs:fK X a:=by rfl):PI X tg (.Call (.Name "range" p) [a] [] pos) (Mm ta):=by
 intro VZ s σ H R I h;refine Call_ (iK I hg hm S5 (SX (aX (ha pos VZ s σ H _ I h) λus s1 ⟨vs,H1,I1,r1,q1⟩=>?_) hs rfl));obtain⟨j,e,q1,q2,q⟩:=q1;subst e;cases r1 with
 | cons r rr=>
   cases rr
   obtain⟨t,rfl⟩:=r;exact call_range_1 (wq I1 (by omega) (by omega) q1 q2 (by simpa using q))
theorem Bx {a b:Expr}{ta:TA}{p:Pos}(hg:Gl X "range")(hm:X.mg "range"=none)(ha:PA X [a,b] ta)(hs:vc X a b:=by rfl)(Wv:fK X b:=by rfl):
 PI X tg (.Call (.Name "range" p) [a,b] [] pos) (Lk ta):=by
 intro VZ s σ H R I h;refine Call_ (iK I hg hm S5 (SX (aX (ha pos VZ s σ H _ I h) λus s1 ⟨vs,H1,I1,r1,q1⟩=>?_) (by first | rw[du,hs,Wv] | rw[hs,Wv]) (by rw[Wv];rfl)));obtain⟨i,j,e,⟨q1,q2,q3,q4⟩,q⟩:=q1;subst e;cases r1 with
 | cons r rr=>
   cases rr with
   | cons r' rr=>
     cases rr
     obtain⟨t,rfl⟩:=r;obtain⟨t',rfl⟩:=r';exact call_range_2 (wq I1 q1 q2 q3 q4 q)
def Pc (wi:TI)(g:TG)(tb:TS):TS:=λD σ H=>wi σ H λJ H1=>∃W:Nat->Nat->St->Hp->Prop,(∃m,W 0 m σ H1)/\∀i m σ H,W i m σ H->
 (J.stop i H/\D.nx σ H)∨(J.go i H/\∃N:St->Hp->Prop,(∀σ' H',N σ' H'->∃m',m'<m/\W (i+1) m' σ' H')/\∀x H',J.ZW i H x H'->g x σ H' λσ2 H2=>tb {D with nx:=N,ct:=N,bk:=D.nx} σ2 H2)
def lY (fp:PM)(h:Heap):PD:=fp.filterMap λb=>(h.get? b).map λo=>(b,o)
theorem jZ {fp:PM}(hb:b∈fp)(e:h.get? b=some o):(b,o)∈lY fp h:=RP.mpr ⟨b,hb,by rw[e];rfl⟩
theorem B8 {fp:PM}{p:Addr×Obj}(hp:p∈lY fp h):p.1∈fp/\h.get? p.1=some p.2:=by
 obtain⟨b,hb,e⟩:=RP.mp hp;cases q:h.get? b with
 | none=>rw[q] at e;cases e
 | some o=>
   rw[q] at e;have e':(b,o)=p:=Option.some.inj e;subst e';exact⟨hb,q⟩
theorem Inv.pinned {fp:PM}(I:Inv X VZ σ H s)(hf:∀b∈fp,lR X VZ H b)(ho:∀b∈fp,∃o,s.heap.get? b=some o/\∀v,o.data≠ .cell v):Inv X (VZ++lY fp s.heap) σ H s:=
 I.kg λp hp=>(Qr.mp hp).elim (λz=>I.pin p (Qn _ z)) λz=>by
   obtain⟨hb,e⟩:=B8 z;obtain⟨f0,f1,f2,_⟩:=hf p.1 hb;obtain⟨o,e',d⟩:=ho p.1 hb;rw[e] at e';cases e'
   exact⟨e,f0,f1,f2,d⟩
theorem Inv.pY {pl:PD}(I:Inv X (VZ++pl) σ H s):Inv X VZ σ H s:=I.kg λp hp=>I.pin p (Qn _ (Qs _ hp))
theorem A2 {iter:Expr}{wi:TI}{g:TG}(hp:Ut (model X.prog X.w) X.A X.env X.xe)(hc:X.calm=true)(hi:PI X tg iter wi)(hg:PG X tg g)(hb:kD X body tb)(hs:∀x,Ts iter X.env x=pure x:=by intro _;rfl):PS X (.For tg iter body [] pos) (Pc wi g tb):=by
 intro VZ s σ H D I h;refine wpAny_For (aX (hi VZ s σ H _ I h) λv s1 h1=>aX h1 λitv s2 h2=>?_) hs;obtain⟨it,fp,tn,J,H2,e,I2,T,Yv,f2,W,⟨m0,w0⟩,turn⟩:=h2;subst e
 -- what stays true of Z0 Zh objects through Z0 loop
 have Zc:∀{H':Hp},(∀b∈fp,H' b=none)->∀b∈fp,lR X VZ H' b:=λhn b hb=>⟨hn b hb,(f2 b hb).2⟩;refine codeAny_forLoop_any (λn s'=>∃i σ' H',Inv X VZ σ' H' s'/\tn i s'.heap/\(∀b∈fp,H' b=none)/\W i n σ' H') ?_ m0 ⟨0,σ,H2,I2,Yv,λb hb=>(f2 b hb).1,w0⟩;rintro n s3 ⟨i,σ3,H3,I3,st3,fr3,w3⟩;rcases turn i n σ3 H3 w3 with⟨stop,qn⟩ | ⟨go,N,hN,step⟩
 ·refine TJ hp (aX (T.done X rfl rfl rfl hc i VZ s3 σ3 H3 X.xe I3 (Zc fr3) st3 stop) λr s4 ⟨hr,I4⟩=>?_);subst hr;exact T8 ⟨σ3,H3,I4,qn⟩
 ·refine TJ hp (aX (T.item X rfl rfl rfl hc i VZ s3 σ3 H3 X.xe I3 (Zc fr3) st3 go) λr s4 ⟨u,hr,h4⟩=>?_);subst hr;refine TJ hp (aX h4 λ_ s5 ⟨x,H5,I5,r5,y5,ZE,fr5⟩=>?_);have I5':=I5.pinned (Zc fr5) (T.obj _ _ ZE);refine TJ hp (aX (hg _ s5 σ3 H5 x u _ I5' r5 (step x H5 y5)) λ_ s6 ⟨σ6,H6,I6,q6⟩=>?_);refine TJ hp (aX (hb _ s6 σ6 H6 _ I6 q6) λf s7 q7=>?_);have again:∀{σ7:St}{H7:Hp},Inv X (VZ++lY fp s5.heap) σ7 H7 s7->N σ7 H7->∃m,m<n/\∃i σ' H',Inv X VZ σ' H' s7/\tn i s7.heap/\(∀b∈fp,H' b=none)/\W i m σ' H':=λ{σ7 H7} I7 n7=>by
   obtain⟨m',hm,w7⟩:=hN σ7 H7 n7;refine⟨m',hm,i+1,σ7,H7,I7.pY,T.keep _ _ _ ZE λb hb o e=>(I7.pin (b,o) (Qn _ (Qn _ (jZ hb e)))).1,λb hb=>?_,w7⟩;obtain⟨o,e,d⟩:=T.obj _ _ ZE b hb;exact(I7.pin (b,o) (Qn _ (Qn _ (jZ hb e)))).2.1
  cases f with
  | next=>obtain⟨σ7,H7,I7,n7⟩:=q7;exact again I7 n7
  | cont=>obtain⟨σ7,H7,I7,n7⟩:=q7;exact again I7 n7
  | brk=>obtain⟨σ7,H7,I7,q7⟩:=q7;exact⟨σ7,H7,I7.pY,q7⟩
  | ret v=>obtain⟨x7,σ7,H7,I7,r7,q7⟩:=q7;exact⟨x7,σ7,H7,I7.pY,r7,q7⟩
abbrev R2:=V->V->Hp->VK->Prop
def eJ (X:Cx)(f:Value->Value->Sem Value)(r:R2):Prop:=
 ∀(VZ:PD)(s:S7)(σ:St)(H:Hp)(x y:V)(v u:Value)(Q:VK),Inv X VZ σ H s->RelV x v->RelV y u->r x y H Q->
  wpAny (model X.prog X.w) X.A (f v u) (EP X VZ σ Q) X.xe s
def Ie (X:Cx)(f:Value->Sem Value)(r:V->Hp->VK->Prop):Prop:=
 ∀(VZ:PD)(s:S7)(σ:St)(H:Hp)(x:V)(v:Value)(Q:VK),Inv X VZ σ H s->RelV x v->r x H Q->
  wpAny (model X.prog X.w) X.A (f v) (EP X VZ σ Q) X.xe s
def gv (X:Cx)(f:Value)(r:List V->Hp->VK->Prop):Prop:=
 ∀(VZ:PD)(s:S7)(σ:St)(H:Hp)(xs:List V)(us:PN)(Q:VK),Inv X VZ σ H s->Vals xs us->r xs H Q->
  wpAny (model X.prog X.w) X.A (call f us) (EP X VZ σ Q) X.xe s
def OA (X:Cx)(r:V->Hp->(Bool->Hp->Prop)->Prop):Prop:=
 ∀(VZ:PD)(s:S7)(σ:St)(H:Hp)(x:V)(v:Value)(Q:Bool->Hp->Prop),Inv X VZ σ H s->RelV x v->r x H Q->
  wpAny (model X.prog X.w) X.A (truthy v) (TP X VZ σ Q) X.xe s
def ES (r:R2)(ta tb:TE):TE:=λσ H Q=>ta σ H λx H1=>tb σ H1 λy H2=>r x y H2 Q
def tUn (r:V->Hp->VK->Prop)(ta:TE):TE:=λσ H Q=>ta σ H λx H1=>r x H1 Q
def rI (C:Int->Int->Prop)(g:Int->Int->V):R2:=λx y H Q=>∃i j,x= .int i/\y= .int j/\C i j/\Q (g i j) H
def tD (g:Int->Int->V):R2:=λx y H Q=>∃i j,x= .int i/\y= .int j/\Q (g i j) H
def rU (g:Int->V):V->Hp->VK->Prop:=λx H Q=>∃i,x= .int i/\Q (g i) H
variable {g:Int->Int->Int}{r:R2}
section
variable {a b:Expr}{tb tc:TE}
variable {f:Value->Value->Sem Value}
theorem C6 (ha:PE X a ta)(hb:PE X b tb){R:V->V->Hp->Prop}(I:Inv X VZ σ H s)(h:ta σ H λx H1=>tb σ H1 λy H2=>R x y H2)(hf:∀v u s2 x y H2,Inv X VZ σ H2 s2->RelV x v->RelV y u->R x y H2->wpAny (model X.prog X.w) X.A (f v u) Q X.xe s2):
 wpAny (model X.prog X.w) X.A (eval a X.env) (λv s₁=>wpAny (model X.prog X.w) X.A (eval b X.env) (λu s₂=>wpAny (model X.prog X.w) X.A (f v u) Q X.xe s₂) X.xe s₁) X.xe s:=by
 refine aX (ha VZ s σ H _ I h) λv s1 ⟨x,H1,I1,r1,q1⟩=>?_;refine aX (hb VZ s1 σ H1 _ I1 q1) λu s2 ⟨y,H2,I2,r2,q2⟩=>?_;exact hf v u s2 x y H2 I2 r1 r2 q2
theorem Fm (ho:eJ X (TL op) r)(ha:PE X a ta)(hb:PE X b tb):PE X (.BinOp a op b pos) (ES r ta tb):=by
 intro VZ s σ H Q I h;exact wpAny_BinOp (C6 ha hb I h λv u s2 x y H2 I2 rx ry q=>ho VZ s2 σ H2 x y v u Q I2 rx ry q)
theorem Lm {op:UnaryOp}{r:V->Hp->VK->Prop}(ho:Ie X (unaryOp op) r)(ha:PE X a ta):PE X (.UnaryOp op a pos) (tUn r ta):=by
 intro VZ s σ H Q I h;exact UnaryOp_ (aX (ha VZ s σ H _ I h) λv s1 ⟨x,H1,I1,r1,q1⟩=>ho VZ s1 σ H1 x v Q I1 r1 q1)
theorem yD {C:Int->Int->Prop}(rule:∀(i j:Int)(t u:Tok)(s:S7)(Q:Value->S7->Prop)(E:Value->S7->Prop),C i j->Q (.int (g i j) s.toks) {s with toks:=s.toks+1}->wpAny (model X.prog X.w) X.A (f (.int i t) (.int j u)) Q E s):
 eJ X f (rI C λi j=>.int (g i j)):=by
 intro VZ s σ H x y v u Q I rx ry h;obtain⟨i,j,rfl,rfl,hc,q⟩:=h;obtain⟨t,rfl⟩:=rx;obtain⟨t',rfl⟩:=ry;exact rule i j t t' s _ _ hc ⟨.int (g i j),H,I.tok _,⟨_,rfl⟩,q⟩
theorem JO 
 (rule:∀(i j:Int)(t u:Tok)(s:S7)(Q:Value->S7->Prop)(E:Value->S7->Prop),Q (.int (g i j) s.toks) {s with toks:=s.toks+1}->wpAny (model X.prog X.w) X.A (f (.int i t) (.int j u)) Q E s):
 eJ X f (tD λi j=>.int (g i j)):=by
 intro VZ s σ H x y v u Q I rx ry h;obtain⟨i,j,rfl,rfl,q⟩:=h;obtain⟨t,rfl⟩:=rx;obtain⟨t',rfl⟩:=ry;exact rule i j t t' s _ _ ⟨.int (g i j),H,I.tok _,⟨_,rfl⟩,q⟩
theorem zV {g:Int->Int->Bool}(rule:∀(i j:Int)(t u:Tok)(s:S7)(Q:Value->S7->Prop)(E:Value->S7->Prop),Q (.bool (g i j)) s->wpAny (model X.prog X.w) X.A (f (.int i t) (.int j u)) Q E s):
 eJ X f (tD λi j=>.bl (g i j)):=by
 intro VZ s σ H x y v u Q I rx ry h;obtain⟨i,j,rfl,rfl,q⟩:=h;obtain⟨t,rfl⟩:=rx;obtain⟨t',rfl⟩:=ry;exact rule i j t t' s _ _ ⟨.bl (g i j),H,I,rfl,q⟩
def HH (i j:Int):Prop:=0<j/\j<1073741824
def KD (i j:Int):Prop:=0<=j/\j<=1000000/\i.natAbs<2 ^ 64
def yY (i j:Int):Prop:=(-(2 ^ 64)<i/\i<2 ^ 64)∨(-(2 ^ 64)<j/\j<2 ^ 64)
theorem yY.ok {i j:Int}(h:yY i j):UD i j:=by
 rcases h with⟨h1,h2⟩ | ⟨h1,h2⟩
 ·exact .of_left (Ul h1 h2)
 ·exact .of_right (Ul h1 h2)
theorem Iw:eJ X (TL .Add) (tD λi j=>.int (i+j)):=JO λ_ _ _ _ _ _ _ q=>add_int q
theorem IK:eJ X (TL .Sub) (tD λi j=>.int (i-j)):=JO λ_ _ _ _ _ _ _ q=>sub_int q
theorem JM:eJ X (TL .Mult) (rI yY λi j=>.int (i*j)):=yD λ_ _ _ _ _ _ _ hc q=>mul_int q hc.ok
theorem FC:eJ X (TL .FloorDiv) (rI HH λi j=>.int (i/j)):=yD λi j _ _ _ _ _ hc q=>by
 have h1:(0:Int)<j:=hc.1;have h2:j<1073741824:=hc.2;exact floordiv_int (by omega) (by rw[Int.fdiv_eq_ediv_of_nonneg i (by omega)];exact q) (.inl (PyProof.noPylong_small (by omega)))
theorem J9:eJ X (TL .Mod) (rI (λ_ j=>0<j) λi j=>.int (i%j)):=yD λi j _ _ _ _ _ hc q=>by
 have h1:(0:Int)<j:=hc;exact mod_int' (by omega) (by rw[Int.fmod_eq_emod_of_nonneg i (by omega)];exact q)
theorem Hr:eJ X (TL .Pow) (rI KD λi j=>.int (i ^ j.toNat)):=yD λ_ _ _ _ _ _ _ hc q=>pow_int_small hc.1 hc.2.1 hc.2.2 q
theorem unI {f:Value->Sem Value}{g:Int->Int}(rule:∀(i:Int)(t:Tok)(s:S7)(Q:Value->S7->Prop)(E:Value->S7->Prop),Q (.int (g i) s.toks) {s with toks:=s.toks+1}->wpAny (model X.prog X.w) X.A (f (.int i t)) Q E s):
 Ie X f (rU λi=>.int (g i)):=by
 intro VZ s σ H x v Q I rx h;obtain⟨i,rfl,q⟩:=h;obtain⟨t,rfl⟩:=rx;exact rule i t s _ _ ⟨.int (g i),H,I.tok _,⟨_,rfl⟩,q⟩
theorem KQ:Ie X (unaryOp .USub) (rU λi=>.int (-i)):=unI λ_ _ _ _ _ q=>neg_int q
end
def Jx:V->V->Bool
 | .Wb,.Wb=>true | .Wb,.int _=>true | .int _,.Wb=>true | .Wb,.bl _=>true | .bl _,.Wb=>true | .Wb,.str _=>true | .str _,.Wb=>true
 | .int _,.int _=>true | .bl _,.bl _=>true | .str _,.str _=>true | .XU _,.XU _=>true
 | .int _,.str _=>true | .str _,.int _=>true | .bl _,.str _=>true | .str _,.bl _=>true
 | _,_=>false
def rEq:R2:=λx y H Q=>Jx x y=true/\Q (.bl (decide (x=y))) H
def rNe:R2:=λx y H Q=>Jx x y=true/\Q (.bl (!decide (x=y))) H
theorem oG {i j:Int}:decide (V.int i=V.int j)=(i==j):=by
 rw[P0];simp
theorem vM {i j:Bool}:decide (V.bl i=V.bl j)=(i==j):=by
 rw[P0];simp
theorem mB {i j:Str}:decide (V.str i=V.str j)=(i==j):=by
 rw[P0];simp
theorem xQ {i j:Array UInt8}:decide (V.XU i=V.XU j)=(i.toList==j.toList):=by
 rw[P0];cases i
 cases j
 simp
variable {XG:CmpOp}{r':R2}{us:PN}
section
variable {a b:Expr}{tb tc:TE}
variable {op:CmpOp}
theorem bN {Q:VK}{k k':Bool}(I:Inv X VZ σ H s)(q:Q (.bl k) H)(e:k=k'):EP X VZ σ Q (.bool k') s:=by
 subst e;exact⟨.bl k,H,I,rfl,q⟩
theorem Fe:eJ X (Tj .Eq) rEq:=by
 intro VZ s σ H x y v u Q I rx ry h;obtain⟨hs,q⟩:=h;cases x with
 | Wb=>
   cases rx
   cases y with
   | Wb=>cases ry;exact PySem.EqNone.eq_none_none (bN I q (by simp))
   | bl j=>cases ry;exact PySem.EqNone.eq_none_bool (bN I q (by simp))
   | int j=>obtain⟨t',rfl⟩:=ry;exact PySem.EqNone.eq_none_int (bN I q (by simp))
   | str j=>obtain⟨t',rfl⟩:=ry;exact PySem.EqNone.eq_none_str (bN I q (by simp))
   | _=>exact VO (show false=true from hs) PX
 | bl i=>
   cases rx
   cases y with
   | Wb=>cases ry;exact PySem.EqNone.eq_bool_none (bN I q (by simp))
   | bl j=>cases ry;exact eq_bool (bN I q vM)
   | str j=>obtain⟨t',rfl⟩:=ry;exact PySem.EqMixed.eq_bool_str (bN I q (by simp))
   | _=>exact VO (show false=true from hs) PX
 | int i=>
   obtain⟨t,rfl⟩:=rx;cases y with
   | Wb=>cases ry;exact PySem.EqNone.eq_int_none (bN I q (by simp))
   | int j=>obtain⟨t',rfl⟩:=ry;exact eq_int (bN I q oG)
   | str j=>obtain⟨t',rfl⟩:=ry;exact PySem.EqMixed.eq_int_str (bN I q (by simp))
   | _=>exact VO (show false=true from hs) PX
 | str i=>
   obtain⟨t,rfl⟩:=rx;cases y with
   | Wb=>cases ry;exact PySem.EqNone.eq_str_none (bN I q (by simp))
   | bl j=>cases ry;exact PySem.EqMixed.eq_str_bool (bN I q (by simp))
   | int j=>obtain⟨t',rfl⟩:=ry;exact PySem.EqMixed.eq_str_int (bN I q (by simp))
   | str j=>obtain⟨t',rfl⟩:=ry;exact eq_str (bN I q mB)
   | _=>exact VO (show false=true from hs) PX
 | XU i=>
   obtain⟨t,rfl⟩:=rx;cases y with
   | XU j=>obtain⟨t',rfl⟩:=ry;exact PySem.W.eq_bytes (bN I q xQ)
   | _=>exact VO (show false=true from hs) PX
 | _=>cases y<;>exact VO (show false=true from hs) PX
theorem zc:eJ X (Tj .NotEq) rNe:=by
 intro VZ s σ H x y v u Q I rx ry h;obtain⟨hs,q⟩:=h;cases x with
 | Wb=>
   cases rx
   cases y with
   | Wb=>cases ry;exact PySem.EqNone.ne_none_none (bN I q (by simp))
   | bl j=>cases ry;exact PySem.EqNone.ne_none_bool (bN I q (by simp))
   | int j=>obtain⟨t',rfl⟩:=ry;exact PySem.EqNone.ne_none_int (bN I q (by simp))
   | str j=>obtain⟨t',rfl⟩:=ry;exact PySem.EqNone.ne_none_str (bN I q (by simp))
   | _=>exact VO (show false=true from hs) PX
 | bl i=>
   cases rx
   cases y with
   | Wb=>cases ry;exact PySem.EqNone.ne_bool_none (bN I q (by simp))
   | bl j=>cases ry;exact ne_bool (bN I q (congrArg not vM))
   | str j=>obtain⟨t',rfl⟩:=ry;exact PySem.EqMixed.ne_bool_str (bN I q (by simp))
   | _=>exact VO (show false=true from hs) PX
 | int i=>
   obtain⟨t,rfl⟩:=rx;cases y with
   | Wb=>cases ry;exact PySem.EqNone.ne_int_none (bN I q (by simp))
   | int j=>obtain⟨t',rfl⟩:=ry;exact ne_int (bN I q (congrArg not oG))
   | str j=>obtain⟨t',rfl⟩:=ry;exact PySem.EqMixed.ne_int_str (bN I q (by simp))
   | _=>exact VO (show false=true from hs) PX
 | str i=>
   obtain⟨t,rfl⟩:=rx;cases y with
   | Wb=>cases ry;exact PySem.EqNone.ne_str_none (bN I q (by simp))
   | bl j=>cases ry;exact PySem.EqMixed.ne_str_bool (bN I q (by simp))
   | int j=>obtain⟨t',rfl⟩:=ry;exact PySem.EqMixed.ne_str_int (bN I q (by simp))
   | str j=>obtain⟨t',rfl⟩:=ry;exact ne_str (bN I q (congrArg not mB))
   | _=>exact VO (show false=true from hs) PX
 | XU i=>
   obtain⟨t,rfl⟩:=rx;cases y with
   | XU j=>obtain⟨t',rfl⟩:=ry;exact PySem.W.ne_bytes (bN I q (congrArg not xQ))
   | _=>exact VO (show false=true from hs) PX
 | _=>cases y<;>exact VO (show false=true from hs) PX
theorem K9:eJ X (Tj .Lt) (tD λi j=>.bl (decide (i<j))):=zV λ_ _ _ _ _ _ _ q=>lt_int q
theorem LV:eJ X (Tj .LtE) (tD λi j=>.bl (decide (i<=j))):=zV λ_ _ _ _ _ _ _ q=>le_int q
theorem L4:eJ X (Tj .Gt) (tD λi j=>.bl (decide (j<i))):=zV λ_ _ _ _ _ _ _ q=>gt_int q
theorem MC:eJ X (Tj .GtE) (tD λi j=>.bl (decide (j<=i))):=zV λ_ _ _ _ _ _ _ q=>ge_int q
theorem qq (b:Expr)(h:op≠ .In:=by decide)(h2:op≠ .NotIn:=by decide):Tx op b=false:=by
 have e1:(op==CmpOp.In)=false:=by cases op<;>first | rfl | exact VO rfl h
 have e2:(op==CmpOp.NotIn)=false:=by cases op<;>first | rfl | exact VO rfl h2
 cases b<;>simp[Tx,e1,e2]
theorem Gj (ho:eJ X (Tj op) r)(ha:PE X a ta)(hb:PE X b tb)(hm:Tx op b=false):PE X (.Compare a [op] [b] pos) (ES r ta tb):=by
 intro VZ s σ H Q I h;exact wpAny_Compare1 (C6 ha hb I h λv u s2 x y H2 I2 rx ry q=>ho VZ s2 σ H2 x y v u Q I2 rx ry q) hm
def Ew (t:TE):TT:=λσ H Q=>t σ H λx H'=>∃k,x= .bl k/\Q k H'
theorem F9 (ho:eJ X (Tj op) r)(ha:PE X a ta)(hb:PE X b tb)(hm:Tx op b=false):PT X (.Compare a [op] [b] pos) (Ew (ES r ta tb)):=by
 intro VZ s σ H Q I h;refine wpAny_isTrue_Compare1 (aX (ha VZ s σ H _ I h) λv s1 ⟨x,H1,I1,r1,q1⟩=>aX (hb VZ s1 σ H1 _ I1 q1) λu s2 ⟨y,H2,I2,r2,q2⟩=>
  aX (ho VZ s2 σ H2 x y v u _ I2 r1 r2 q2) λc s3 ⟨z,H3,I3,r3,k,e,q3⟩=>?_) hm
 subst e;cases r3
 exact Ti ⟨H3,I3,q3⟩
def AA (r r':R2)(ta tb tc:TE):TE:=λσ H Q=>ta σ H λx H1=>tb σ H1 λy H2=>r x y H2 λz H3=>∃k,z= .bl k/\
 (if k=true then tc σ H3 λw' H4=>r' y w' H4 Q else Q (.bl false) H3)
theorem CG (ho:eJ X (Tj op) r)(Xs:eJ X (Tj XG) r')(ha:PE X a ta)(hb:PE X b tb)(hc:PE X c tc)(hm:lastMarks [op,XG] [b,c]=false:=by with_unfolding_all rfl):PE X (.Compare a [op,XG] [b,c] pos) (AA r r' ta tb tc):=by
 intro VZ s σ H Q I h;refine Compare_chain (aX (ha VZ s σ H _ I h) λv s1 ⟨x,H1,I1,r1,q1⟩=>chain_link (aX (hb VZ s1 σ H1 _ I1 q1) λu s2 ⟨y,H2,I2,r2,q2⟩=>
  aX (ho VZ s2 σ H2 x y v u _ I2 r1 r2 q2) λd s3 ⟨z,H3,I3,r3,k,e,q3⟩=>?_)) hm
 subst e;cases r3
 refine Ti ?_;cases k with
 | false=>exact ite_ff ⟨.bl false,H3,I3,rfl,q3⟩
 | true=>exact ite_tt (chain_last (aX (hc VZ s3 σ H3 _ I3 q3) λw' s4 ⟨z',H4,I4,r4,q4⟩=>Xs VZ s4 σ H4 y z' u w' Q I4 r2 r4 q4))
theorem D9 (ho:eJ X (Tj op) r)(Xs:eJ X (Tj XG) r')(ha:PE X a ta)(hb:PE X b tb)(hc:PE X c tc)(hm:lastMarks [op,XG] [b,c]=false:=by with_unfolding_all rfl):PT X (.Compare a [op,XG] [b,c] pos) (Ew (AA r r' ta tb tc)):=by
 intro VZ s σ H Q I h;refine isTrue_chain (aX (ha VZ s σ H _ I h) λv s1 ⟨x,H1,I1,r1,q1⟩=>test_link (aX (hb VZ s1 σ H1 _ I1 q1) λu s2 ⟨y,H2,I2,r2,q2⟩=>
  aX (ho VZ s2 σ H2 x y v u _ I2 r1 r2 q2) λd s3 ⟨z,H3,I3,r3,k,e,q3⟩=>?_)) hm
 subst e;cases r3
 refine Ti ?_;cases k with
 | false=>
   obtain⟨k',e',q'⟩:=q3;cases e'
   exact ite_ff ⟨H3,I3,q'⟩
 | true=>
   refine ite_tt (test_last (aX (hc VZ s3 σ H3 _ I3 q3) λw' s4 ⟨z',H4,I4,r4,q4⟩=>aX (Xs VZ s4 σ H4 y z' u w' _ I4 r2 r4 q4) λd' s5 ⟨z2,H5,I5,r5,k2,e2,q5⟩=>?_));subst e2;cases r5
   exact Ti ⟨H5,I5,q5⟩
def IY (K:Vr)(x:V)(H:Hp)(k:Bool):Prop:=
 match x with
 | .Wb=>k=false
 | .bl b=>k=b
 | .int i=>k=(i != 0)
 | .str y=>y.length<=S8/\k=((y.length:Int) != 0)
 | .XU y=>y.size<=S8/\k=((y.size:Int) != 0)
 | .ref p=>(∃xs,bt K H p xs/\k= !xs.isEmpty)∨(∃xs,dR K H p xs/\k= !xs.isEmpty)∨∃kvs,H p=some (.dK kvs)/\k= !kvs.isEmpty
 | _=>False
theorem zq {κ:Type}{kvs:List (κ×V)}{vs:List (κ×Value)}(r:KV kvs vs):(!vs.isEmpty)= !kvs.isEmpty:=by
 cases r<;>rfl
theorem qV {V1:PN}(r:Vals xs V1):(!V1.toArray.isEmpty)= !xs.isEmpty:=by
 cases r<;>simp
theorem kS:(S8:Nat)<2 ^ 63:=by rw[Uh];decide
theorem KL:OA X (λx H Q=>∃k,IY X.K x H k/\Q k H):=by
 intro VZ s σ H x v Q I rx h;obtain⟨k,e,q⟩:=h;have hl:=kS;have hs:S8=16777216:=Uh;cases x with
 | Wb=>
   cases rx
   have e':k=false:=e;subst e';exact truthy_none ⟨H,I,q⟩
 | bl b=>
   cases rx
   have e':k=b:=e;subst e';exact Ti ⟨H,I,q⟩
 | int i=>
   obtain⟨t,rfl⟩:=rx;have e':k=(i != 0):=e;subst e';exact PySem.P.truthy_int ⟨H,I,q⟩
 | str y=>
   obtain⟨t,rfl⟩:=rx;obtain⟨hy,e'⟩:y.length<=S8/\k=((y.length:Int) != 0):=e;subst e';exact PySem.P.truthy_str (by omega) ⟨H,I.tok _,q⟩
 | XU y=>
   obtain⟨t,rfl⟩:=rx;obtain⟨hy,e'⟩:y.size<=S8/\k=((y.size:Int) != 0):=e;subst e';exact PySem.W.truthy_bytes (by omega) ⟨H,I.tok _,q⟩
 | ref p=>
   cases rx
   have e':(∃xs,bt X.K H p xs/\k= !xs.isEmpty)∨(∃xs,dR X.K H p xs/\k= !xs.isEmpty)∨∃kvs,H p=some (.dK kvs)/\k= !kvs.isEmpty:=e;rcases e' with⟨xs,hx,e'⟩ | ⟨xs,hx,e'⟩ | ⟨kvs,hx,e'⟩
   ·subst e';obtain⟨V1,r,pl,hz⟩:=I.list hx;have hlen:=r.length;exact wpAny_truthy_list pl.isList (by simp only[Qx];omega) ⟨H,I.tok _,by rw[qV r];exact q⟩
   ·subst e';obtain⟨V1,r,pl,hz⟩:=I.tuple hx;have hlen:=r.length;exact truthy_tuple pl (by simp only[Qx];omega) ⟨H,I.tok _,by rw[qV r];exact q⟩
   ·subst e';obtain⟨hz,hS,vs,r,m⟩:kvs.length<=S8/\(p==Tq)=false/\∃vs,KV kvs vs/\s.heap.DictOf (cv X.prog X.w) p vs:=I.V4 p _ hx;have hlen:kvs.length=vs.length:=Paired.length r;exact wpAny_truthy_dict hS m (by omega) ⟨H,I.tok _,by rw[zq r];exact q⟩
 | _=>exact(show False from e).elim
theorem vK (ha:PE X a ta)(he:∀whole,T2 a X.env whole=(do let v ← whole;Ue a.pos;TK [v] (truthy v))):
 PT X a (λσ H Q=>ta σ H λx H'=>∃k,IY X.K x H' k/\Q k H'):=by
 intro VZ s σ H Q I h;exact isTrue_plain (aX (ha VZ s σ H _ I h) λv s1 ⟨x,H1,I1,r1,q1⟩=>KL VZ s1 σ H1 x v Q I1 r1 q1) (he _)
theorem zx:eJ X (TL .Add) (λx y H Q=>∃i j,x= .str i/\y= .str j/\i.length+j.length<=S8/\Q (.str (i++j)) H):=by
 intro VZ s σ H x y v u Q I rx ry h;obtain⟨i,j,rfl,rfl,hz,q⟩:=h;obtain⟨t,rfl⟩:=rx;obtain⟨t',rfl⟩:=ry;exact add_str (λt' tk=>⟨.str (i++j),H,I.tok _,⟨_,rfl⟩,q⟩) hz
theorem vals1 {x:V}(r:Vals [x] us):∃u,us=[u]/\RelV x u:=by
 cases r with
 | cons r1 r2=>cases r2;exact⟨_,rfl,r1⟩
theorem vals2 {x y:V}(r:Vals [x,y] us):∃u w',us=[u,w']/\RelV x u/\RelV y w':=by
 cases r with
 | cons r1 r2=>
   cases r2 with
   | cons r3 r4=>cases r4;exact⟨_,_,rfl,r1,r3⟩
theorem Bn (hc:X.calm=true):gv X (.builtin "min") (λxs H Q=>∃i j,xs=[.int i,.int j]/\Q (.int (if j<i then j else i)) H):=by
 intro VZ s σ H xs us Q I r h;obtain⟨i,j,rfl,q⟩:=h;obtain⟨u,w',rfl,⟨t,rfl⟩,⟨t',rfl⟩⟩:=vals2 r;refine min_two_ints (I.ok.hd hc) λh' tk k=>⟨_,H,I.kept k,?_,q⟩;by_cases hj:j<i
 ·rw[VQ hj,VQ hj];exact⟨_,rfl⟩
 ·rw[VP hj,VP hj];exact⟨_,rfl⟩
theorem Bk:gv X (.type "int") (λxs H Q=>(∃i,xs=[.int i]/\Q (.int i) H)∨∃k,xs=[.bl k]/\Q (.int (if k then 1 else 0)) H):=by
 intro VZ s σ H xs us Q I r h;rcases h with⟨i,rfl,q⟩ | ⟨k,rfl,q⟩
 ·obtain⟨u,rfl,t,rfl⟩:=vals1 r;exact call_int_int ⟨.int i,H,I,⟨_,rfl⟩,q⟩
 ·obtain⟨u,rfl,r1⟩:=vals1 r;cases r1
  exact call_int_bool ⟨.int (if k then 1 else 0),H,I.tok _,⟨_,rfl⟩,q⟩
end
structure sA (h:Heap)(x dx C:Addr)(mA:Pz):Prop where
 obj:h.get? x=some (VA C dx)
 ns:h.Ns1 dx mA
 ne:dx≠x
variable {dx:Addr}{mA:Pz}
theorem A4 (n:h.Ns1 dx mA):∃od,h.get? dx=some od/\∀name,VJ name od=some (mA name):=by
 obtain⟨o,es,ep,ho,hd,hk,_,hm⟩:=n;refine⟨o,ho,λname=>?_⟩;have e:=hm name;unfold nsFind findBy at e;rw[← Array.find?_toList] at e;unfold VJ;rw[hd];dsimp only;split
 ·rename_i y q;rw[q] at e;exact congrArg some e
 ·rename_i q;rw[q] at e;have a:es.toList.any (·.refKey)=false:=by
   rw[List.any_eq_false];intro y hy;obtain⟨z,t,Xy⟩:=hk y (Array.mem_toList_iff.mp hy);simp[DictEntry.refKey,Xy]
  have a':¬es.toList.any (·.refKey)=true:=by rw[a];exact PX
  rw[VP a'];exact congrArg some e
variable {C:Addr}
theorem sA.look {x:Addr}(I:sA h x dx C mA):∃od,PySem.W.InstAt h x (VA C dx) C (some od)/\∀name,VJ name od=some (mA name):=
 let ⟨od,ho,hl⟩:=A4 I.ns
 ⟨od,⟨I.obj,rfl,rfl,ho⟩,hl⟩
variable {prog:Tb}{name:Str}{kw:List (Str×Value)}
section
variable {x f:Addr}{v:Value}
theorem get_map {expr:Bool}(X:K.In s.heap)(I:sA s.heap x dx C mA)(hg:VD K C name=true)(hh:VC K C=true)(ha:Vu K (.ref C) name=some none)(hv:mA name=some v)(Yp:PySem.W.handedIn v=true)(h:Q v {s with toks:=s.toks+1}):
 wpAny (model prog w) A (getAttr (.ref x) name expr) Q E s:=by
 obtain⟨od,J,hl⟩:=I.look;exact PySem.W.get_value X J (PySem.W.plainGet_of hg).1 (PySem.W.findObj_own hh ha rfl (by rw[hl,hv])) Yp h
theorem G6 {ns:PJ}{Q:Unit->S7->Prop}(X:K.In s.heap)(I:sA s.heap x dx C mA)(hs:Vu K (.ref C) "__setattr__"=some (some (.builtin "object.__setattr__")))(hp:VE K C=true)(ht:VH K C name=some none)(hh:VC K C=true)(hw:UI mA ns)(hsz:ns.length<=S8)(h:∀h',sA h' x dx C (λy=>if y=name then some v else mA y)->U9 dx s.heap h'->Q () {s with heap:=h',toks:=s.toks+2}):
 wpAny (model prog w) A (setAttr (.ref x) name v) Q E s:=by
 obtain⟨od,J,hl⟩:=I.look;refine PySem.W.set_plain X J hs (PySem.W.osa_open (s:={s with toks:=s.toks+1}) (r:=none) X J hp ht λb=>?_);obtain⟨cd,hc,hd'⟩:=PySem.W.any_some hh;have hx:s.heap.get? x=some ⟨.ref C,some dx,.plain, #[]⟩:=I.obj;refine S9 (Tc (S9 (S9 (wpAny_loadPart hx (S9 (PySem.W.Looks.here (s:={s with toks:=s.toks+1}) (PySem.W.looks_clsIn X hc) ?_))))));rw[hd'];refine Tc (a:=some dx) (S9 (Tc (S9 ?_)));refine wpAny_nsSet1 (s:={s with toks:=s.toks+1}) I.ns λh' hn2 Wv=>?_;obtain⟨oD,esD,epD,hoD,hdD,hcD⟩:=hn2.count (UI.cons name v hw);refine S9 (wpAny_lookBehind hoD (by rw[hdD];exact pastItsLine_dict (Sh hcD (by rw[Qo];omega))) ?_);exact Tc (h _ ⟨(Wv.2 _ (SN I.ne)).trans I.obj,hn2,I.ne⟩ Wv)
theorem Cv {R:Result->S7->Prop}{vs:PN}(X:K.In s.heap)(hm:VF K C=true)(hi:Vu K (.ref C) "__init__"=some (some (.ref f)))(hf:PySem.W.typeIn K (.ref f)=some (.type "function"))(h:Ug (model prog w) (A.under (.builtin "type.__call__" ⟨.ref C::vs,kw⟩)) (.call (.ref f) ⟨.ref (s.heap.objs.size+1)::vs,kw⟩) (PySem.W.InitBack (s.heap.objs.size+1) R)
  {s with heap:=(s.heap.push Vz).push (VA C s.heap.objs.size)}):
 Ug (model prog w) A (.call (.ref C) ⟨vs,kw⟩) R s:=by
 obtain⟨hh,g,d,t,os⟩:=s;exact PySem.W.make_core (PySem.W.makes_of X hm) (PySem.W.looks_findIn X hi) (λself=>PySem.W.bind_fn X self hf) (.inl rfl) h
end
def gj (f:Str)(v:V):List (Str×V)->List (Str×V)
 | []=>[(f,v)]
 | (g,x)::r=>if g=f then(g,v)::r else(g,x)::gj f v r
theorem oZ (f g:Str)(v:V):∀fs:List (Str×V),(gj f v fs).lookup g=if g=f then some v else fs.lookup g
 | []=>by
   show Q6 g [(f,v)]=_;by_cases h:g=f
   ·have hb:(g==f)=true:=beq_iff_eq.mpr h;simp only[Q6,hb,VQ h]
   ·have hb:(g==f)=false:=beq_eq_false_iff_ne.mpr h;simp only[Q6,hb,VP h]
 | (k,x)::r=>by
   have ih:=oZ f g v r;rw[show gj f v ((k,x)::r)=(if k=f then(k,v)::r else(k,x)::gj f v r) from rfl];by_cases hk:k=f
   ·rw[VQ hk];by_cases h:g=k
    ·have hb:(g==k)=true:=beq_iff_eq.mpr h;simp only[Q6,hb,VQ (h.trans hk)]
    ·have hb:(g==k)=false:=beq_eq_false_iff_ne.mpr h;simp only[Q6,hb,VP (λe:g=f=>h (e.trans hk.symm))]
   ·rw[VP hk];by_cases h:g=k
    ·have hb:(g==k)=true:=beq_iff_eq.mpr h;simp only[Q6,hb,VP (λe:g=f=>hk (h.symm.trans e))]
    ·have hb:(g==k)=false:=beq_eq_false_iff_ne.mpr h;simp only[Q6,hb];exact ih
theorem nX (f:Str)(v:V):∀fs:List (Str×V),f∈(gj f v fs).map (·.1)/\∀g,g∈fs.map (·.1)->g∈(gj f v fs).map (·.1)
 | []=>⟨by simp[gj],λg h=>by simp at h⟩
 | (k,x)::r=>by
   obtain⟨i1,i2⟩:=nX f v r;rw[show gj f v ((k,x)::r)=(if k=f then(k,v)::r else(k,x)::gj f v r) from rfl];by_cases hk:k=f
   ·rw[VQ hk];subst hk;exact⟨by simp,λg h=>by simpa using h⟩
   ·rw[VP hk];refine⟨?_,λg h=>?_⟩
    ·rw[QJ];exact Qi _ i1
    ·rw[QJ] at h ⊢;rcases Qq.mp h with e | e
     ·exact Qq.mpr (.inl e)
     ·exact Qi _ (i2 g e)
theorem oU (f:Str)(v:V):∀fs:List (Str×V),(gj f v fs).length<=fs.length+1
 | []=>by simp[gj]
 | (k,x)::r=>by
   have ih:=oU f v r;rw[show gj f v ((k,x)::r)=(if k=f then(k,v)::r else(k,x)::gj f v r) from rfl];by_cases hk:k=f
   ·rw[VQ hk,Qo,Qo];omega
   ·rw[VP hk,Qo,Qo];omega
theorem ja.some_of {o:PK}(r:ja (some v) o):∃u,o=some u/\RelV v u:=by
 cases o with
 | none=>exact(show False from r).elim
 | some u=>exact⟨u,rfl,r⟩
theorem AN (r:RelV v u):PySem.W.handedIn u=true:=by
 cases v with
 | Wb=>cases (show u=Vl from r);rfl
 | bl b=>cases (show u=Vo b from r);rfl
 | int i=>obtain⟨t,e⟩:=(show∃t,u=Vm i t from r);cases e;rfl
 | str x=>obtain⟨t,e⟩:=(show∃t,u=Vn x t from r);cases e;rfl
 | XU b=>obtain⟨t,e⟩:=(show∃t,u=Value.bytes b t from r);cases e;rfl
 | ZA b=>obtain⟨t,e⟩:=(show∃t,u=Vp b t from r);cases e;rfl
 | ref a=>cases (show u=Vk a from r);rfl
 | ty n=>cases (show u=Vq n from r);rfl
section
variable {fs fs':List (Str×V)}
theorem rR (V4:eU P w H h)(e:H a=some (.ins C dx fs)):∃mA,sA h a dx C mA/\(∀f,ja (fs.lookup f) (mA f))/\UI mA (fs.map (·.1))/\fs.length<=1000/\H dx=some (.own a):=by
 obtain⟨d,z,ne,ob,mA,n,r,q⟩:=(show cZ P w H h a (.ins C dx fs) from V4 a _ e);exact⟨mA,⟨ob,n,ne⟩,r,q,z,d⟩
end
structure mD (K:Vr)(C:Addr):Prop where
 pg:VD K C Str.empty=true
 hd:VC K C=true
 po:VE K C=true
 sa:Vu K (.ref C) "__setattr__"=some (some (.builtin "object.__setattr__"))
theorem mD.get (c:mD K C)(f:Str):VD K C f=true:=c.pg
def kx (K:Vr)(C:Addr)(f:Str):Prop:=Vu K (.ref C) f=some none
variable {f:Str}
theorem kx.K0 (n:kx K C f):VH K C f=some none:=by
 unfold VH;rw[show Vu K (.ref C) f=some none from n];rfl
section
variable {fs:List (Str×V)}
theorem zo {b:Bool}(I:Inv X VZ σ H s)(e:H a=some (.ins C dx fs))(c:mD X.K C)(n:kx X.K C f)(l:fs.lookup f=some v)(h:∀u s',Inv X VZ σ H s'->RelV v u->Q u s'):wpAny (model X.prog X.w) A (getAttr (.ref a) f b) Q E s:=by
 obtain⟨mA,O,r,_,_,_⟩:=rR I.V4 e;obtain⟨u,hu,ru⟩:=ja.some_of (v:=v) (o:=mA f) (by rw[← l];exact r f);exact get_map I.gb O (c.get f) c.hd n hu (AN ru) (h u _ (I.tok _) ru)
theorem zm {y:V}{Q:Unit->S7->Prop}(I:Inv X VZ σ H s)(e:H a=some (.ins C dx fs))(c:mD X.K C)(n:kx X.K C f)(hl:fs.length<1000)(ry:RelV y u)(h:∀s',Inv X VZ σ (upd H a (.ins C dx (gj f y fs))) s'->Q () s'):wpAny (model X.prog X.w) A (setAttr (.ref a) f u) Q E s:=by
 obtain⟨mA,O,r,wi,_,ho⟩:=rR I.V4 e;have hz:(fs.map (·.1)).length<=S8:=by rw[Qg,Uh];omega
 refine G6 I.gb O c.sa c.po n.K0 c.hd wi hz λh' O' sb=>h _ ?_;have hd:∃o,h'.get? dx=some o:=let ⟨o,_,_,e',_⟩:=O'.ns;⟨o,e'⟩;refine I.write (x:=a) (e:=dx) (by rw[e];exact VN) (.inr ho) (λb q hb z=>(sb.2 b hb).trans z) hd ?_;refine⟨by rw[aD O.ne];exact ho,?_,O.ne,O'.obj,_,O'.ns,λg=>?_,λg hg=>?_⟩
 ·have:=oU f y fs;omega
 ·show ja ((gj f y fs).lookup g) (if g=f then some u else mA g);rw[oZ];by_cases q:g=f
  ·rw[VQ q,VQ q];exact ry
  ·rw[VP q,VP q];exact r g
 ·by_cases q:g=f
  ·rw[q];exact(nX f y fs).1
  ·refine(nX f y fs).2 g (wi g λz=>hg ?_);show(if g=f then some u else mA g)=none;rw[VP q];exact z
theorem Inv.made (I:Inv X VZ σ H s):Inv X VZ σ (upd (upd H s.heap.objs.size (.own (s.heap.objs.size+1))) (s.heap.objs.size+1) (.ins C s.heap.objs.size []))
 {s with heap:=(s.heap.push Vz).push (VA C s.heap.objs.size)}:=by
 have e1:(s.heap.push Vz).get? s.heap.objs.size=some Vz:=U7 s.heap rfl;have e2:((s.heap.push Vz).push (VA C s.heap.objs.size)).get? (s.heap.objs.size+1)=some (VA C s.heap.objs.size):=by
  have:=U7 (s.heap.push Vz) (o:=VA C s.heap.objs.size) rfl;rwa [U8] at this
 have e3:(s.heap.push Vz).Ns s.heap.objs.size (λ_=>none):=⟨Vz, #[],_,e1,rfl,(λe he=>VO he (by simp)),λ_=>rfl⟩;have I1:=I.laid (a:=s.heap.objs.size) (o:=.own (s.heap.objs.size+1)) (h':=s.heap.push Vz) (t':=s.toks) (λb u q=>U5 _ q) (Sg _) ⟨_,e1⟩;refine I1.laid (a:=s.heap.objs.size+1) (o:=.ins C s.heap.objs.size []) (t':=s.toks) (λb u q=>U5 _ q) (SK (U8 _ _)) ?_;have ne:s.heap.objs.size≠s.heap.objs.size+1:=Sl (Ss _);refine⟨by rw[aD ne,aB],Si _,ne,e2,λ_=>none,(Heap.Ns1.of_empty e3).at λo q=>U5 _ q,λ_=>VN,λy hy=>VO rfl hy⟩
theorem FV {env:Env}(hb:T7 e f env (eval e env)=eval e env)(h:wpAny (model prog w) A (eval e env) (λo s₁=>wpAny (model prog w) A (getAttr o f true) Q E s₁) E s):wpAny (model prog w) A (eval (.Attribute e f pos) env) Q E s:=
 Attribute_any_ h (by rw[arm_eval_Attribute,hb])
end
def OU (K:Vr)(ta:TE)(f:Str):TE:=λσ H Q=>ta σ H λx H1=>∃a C dx fs v,x= .ref a/\H1 a=some (.ins C dx fs)/\mD K C/\kx K C f/\fs.lookup f=some v/\Q v H1
def Pj (K:Vr)(ta tv:TE)(f:Str):TS:=λD σ H=>tv σ H λy H1=>ta σ H1 λx H2=>∃a C dx fs,x= .ref a/\H2 a=some (.ins C dx fs)/\mD K C/\kx K C f/\fs.length<1000/\
 D.nx σ (upd H2 a (.ins C dx (gj f y fs)))
section
variable {o value:Expr}{tpos:Pos}{tv:TE}
theorem vE (he:PE X e ta)(hb:fD X e f):PE X (.Attribute e f pos) (OU X.K ta f):=by
 intro VZ s σ H Q I h;refine FV hb (aX (he VZ s σ H _ I h) λu s1 ⟨x,H1,I1,rx,a,C,dx,fs,v,ex,ea,c,n,l,q⟩=>?_);subst ex;obtain rfl:u=Vk a:=rx;exact zo I1 ea c n l λu' s2 I2 ru=>⟨v,H1,I2,ru,q⟩
theorem J4 (ha:PE X o ta)(hv:PE X value tv)(hs:Tf value (some (.Attribute o f pos')) pos.line X.env=pure false):PS X (.Assign [.Attribute o f pos'] value pos) (Pj X.K ta tv f):=by
 intro VZ s σ H D I h;refine plainObj_wpAny_Assign_Attribute (aX (hv VZ s σ H _ I h) λu s1 ⟨y,H1,I1,ry,q⟩=>aX (ha VZ s1 σ H1 _ I1 q) λov s2 ⟨x,H2,I2,rx,a,C,dx,fs,ex,ea,c,n,l,q2⟩=>?_) hs;subst ex;obtain rfl:ov=Vk a:=rx;exact zm I2 ea c n l ry λs3 I3=>⟨σ,_,I3,q2⟩
end
section
variable {c:Value}{b:Bool}
inductive eY (K:Vr) (H:Hp):V->Value->Prop where
 | Wb:eY K H .Wb (.type "NoneType")
 | bl (x:Bool):eY K H (.bl x) (.type "bool")
 | int (i:Int):eY K H (.int i) (.type "int")
 | str (x:Str):eY K H (.str x) (.type "str")
 | ZA (x:UInt64):eY K H (.ZA x) (.type "float")
 | lst {a:Addr} {xs:List V} (e:H a=some (.lst xs)):eY K H (.ref a) (.type "list")
 | WT {a:Addr} {o:Obj} {xs:List V} (e:H a=some (.WT o (.lst xs))):eY K H (.ref a) (.type "list")
 | tup {a:Addr} {xs:List V} (e:H a=some (.tup xs)):eY K H (.ref a) (.type "tuple")
 | dK {a:Addr} {kvs:List (Key×V)} (e:H a=some (.dK kvs)):eY K H (.ref a) (.type "dict")
 | dT {a:Addr} {kvs:List (List Key×V)} (e:H a=some (.dT kvs)):eY K H (.ref a) (.type "dict")
 | ins {a C dx:Addr} {fs:List (Str×V)} (e:H a=some (.ins C dx fs)) (cl:mD K C) (ha:Vu K (.ref C) "__class__"=some (some (.builtin "object.__class__")))
  (hn:PySem.W.specialIn K (.builtin "object.__class__") "__get__"=some (some (.builtin "getset_descriptor.__get__"))) (htk:PySem.W.takesIn K (.builtin "object.__class__")=some true)
  (hm:PySem.W.mroIn K C (.type "object")=some true):eY K H (.ref a) (.ref C)
theorem BH {x:V}{t:Value}(I:Inv X VZ σ H s)(rx:RelV x u)(ty:eY X.K H x t)(e:VL X.K t c=some b)(h:∀tk,Q (.bool b) {s with toks:=tk}):
 wpAny (model X.prog X.w) A (call (.builtin "isinstance") [u,c]) Q E s:=by
 cases ty with
 | Wb=>cases (show u=Vl from rx);exact Vy PySem.W.kitx_none I.gb VN e (λz=>nomatch z) h
 | bl y=>cases (show u=Vo y from rx);exact Vy PySem.W.kitx_bool I.gb VN e (λz=>nomatch z) h
 | int i=>obtain⟨t,q⟩:=(show∃t,u=Vm i t from rx);cases q;exact Vy PySem.W.kitx_int I.gb VN e (λz=>nomatch z) h
 | str y=>obtain⟨t,q⟩:=(show∃t,u=Vn y t from rx);cases q;exact Vy PySem.W.kitx_str I.gb VN e (λz=>nomatch z) h
 | ZA y=>obtain⟨t,q⟩:=(show∃t,u=Vp y t from rx);cases q;exact Vy PySem.W.kitx_float I.gb VN e (λz=>nomatch z) h
 | @lst a xs ea=>
   cases (show u=Vk a from rx)
   obtain⟨_,_,n,_,h1⟩:=(show cZ X.prog X.w H s.heap a (.lst xs) from I.V4 a _ ea);exact Vy PySem.W.kitx_list I.gb ⟨_,h1,rfl⟩ e (λz=>nomatch z) h
 | @WT a ob xs ea=>
   cases (show u=Vk a from rx)
   obtain⟨_,_,_,n,_,h1⟩:=(show cZ X.prog X.w H s.heap a (.WT ob (.lst xs)) from I.V4 a _ ea);exact Vy PySem.W.kitx_list I.gb ⟨_,h1,rfl⟩ e (λz=>nomatch z) h
 | @tup a xs ea=>
   cases (show u=Vk a from rx)
   obtain⟨_,_,_,p⟩:=(show cZ X.prog X.w H s.heap a (.tup xs) from I.V4 a _ ea);obtain⟨o,h1,h2,_⟩:=p;exact Vy PySem.W.kitx_tuple I.gb ⟨o,h1,h2⟩ e (λz=>nomatch z) h
 | @dK a kvs ea=>
   cases (show u=Vk a from rx)
   obtain⟨_,_,vs,_,p⟩:=(show cZ X.prog X.w H s.heap a (.dK kvs) from I.V4 a _ ea);obtain⟨o,es,ep,h1,h2,_⟩:=p;exact Vy PySem.W.kitx_dict I.gb ⟨o,h1,h2.1⟩ e (λz=>nomatch z) h
 | @dT a kvs ea=>
   cases (show u=Vk a from rx)
   obtain⟨_,_,xs,_,o,es,ep,h1,h2,_⟩:=(show cZ X.prog X.w H s.heap a (.dT kvs) from I.V4 a _ ea);exact Vy PySem.W.kitx_dict I.gb ⟨o,h1,h2.1⟩ e (λz=>nomatch z) h
 | @ins a C dx fs ea cl ha hn htk hm=>
   cases (show u=Vk a from rx)
   obtain⟨mA,O,_⟩:=rR I.V4 ea;obtain⟨od,J,_⟩:=O.look;exact Vy (PySem.W.kitx_own (cl.get _) cl.hd ha hn htk hm) I.gb J e (λz=>nomatch z) h
end
structure bG (k:Nat)(A:Te):Prop where
 hd:A.handled=none
 dp:A.depth+3*k+5<recursionLimit
 un:A.units+16*k+200<cLine
theorem bG.mono {j k:Nat}(r:bG k A)(h:j<=k):bG j A:=⟨r.hd,by have:=r.dp;omega,by have:=r.un;omega⟩
theorem bG.deeper {k:Nat}(r:bG (k+1) A)(env:Env):bG k (A.deeper env):=
 ⟨r.hd,by have:=r.dp;show A.depth+1+3*k+5<_;omega,by have:=r.un;show A.units+3+16*k+200<_;omega⟩
theorem zw :(A.under (.builtin "type.__call__" ⟨.ref C::us,kw⟩)).depth=A.depth+1:=by
 first | rfl | simp[Te.under,Code.weight,Code.isCreation,Code.isGuard,Code.isCaller,Code.frames,UU,guardIds]
theorem yV :(A.under (.builtin "type.__call__" ⟨.ref C::us,kw⟩)).units=A.units+1:=by
 first | rfl | simp[Te.under,Code.cUnits,Code.frames,UU]
theorem bG.make {k:Nat}(r:bG (k+1) A)(C:Addr)(us:PN)(kw:List (Str×Value)):bG k (A.under (.builtin "type.__call__" ⟨.ref C::us,kw⟩)):=
 ⟨r.hd,by have:=r.dp;rw[zw];omega,by have:=r.un;rw[yV];omega⟩
theorem bG.depth {k:Nat}(r:bG k A):A.depth<recursionLimit:=by have:=r.dp;omega
theorem bG.units {k:Nat}(r:bG k A):A.units+64<cLine:=by have:=r.un;omega
def OL:TA:=λ_ H Q=>Q [] H
def Lr (ta:TE)(tr:TA):TA:=λσ H Q=>ta σ H λx H1=>tr σ H1 λxs H2=>Q (x::xs) H2
variable {t:TA}
theorem bo:PA X [] OL:=λ_ _ _ _ H Q I h=>Calls.spliced_nil ⟨[],H,I,.nil,h⟩
theorem aH (ha:PE X e te)(hr:PA X es t)(hs:du X e es:=by rfl):PA X (e::es) (Lr te t):=by
 intro pos VZ s σ H Q I h;rw[hs];show wpAny _ _ (spliced ((false,eval e X.env)::Ui pos (Td es X.env))) _ _ s;refine UT (aX (ha VZ s σ H _ I h) λu s1 ⟨x,H1,I1,r1,q1⟩=>?_);exact aX (hr pos VZ s1 σ H1 _ I1 q1) λus s2 ⟨xs,H2,I2,r2,q2⟩=>⟨x::xs,H2,I2,.cons r1 r2,q2⟩
def Py (t:TA):TE:=λσ H Q=>t σ H λxs H1=>xs.length<=S8/\∀p,H1 p=none->Q (.ref p) (upd H1 p (.tup xs))
def OH (t:TA):TE:=λσ H Q=>t σ H λxs H1=>xs.length<=S8/\∀p,H1 p=none->Q (.ref p) (upd H1 p (.lst xs))
theorem qw {x1}(h:PA X es t):PE X (.Tuple es x1 pos) (Py t):=by
 intro VZ s σ H Q I hq;refine wpAny_Tuple_spliced (aX (h pos VZ s σ H _ I hq) λus s1 ⟨xs,H1,I1,r,z,q⟩=>⟨by rw[← r.length];exact z,?_⟩);have hf:H1 s1.heap.objs.size=none:=I1.V4.fresh (Sg _);refine⟨.ref s1.heap.objs.size,upd H1 s1.heap.objs.size (.tup xs),I1.laid (t':=s1.toks) (λb u e=>U5 _ e) (Sg _) ?_,rfl,q _ hf⟩;exact⟨z,us,r,⟨_,U7 _ rfl,rfl,_,rfl⟩⟩
theorem wO (h:PA X es t):PE X (.List es pos) (OH t):=by
 intro VZ s σ H Q I hq;refine wpAny_List_spliced (aX (h pos VZ s σ H _ I hq) λus s1 ⟨xs,H1,I1,r,z,q⟩=>⟨by rw[← r.length];exact z,?_⟩);have hf:H1 s1.heap.objs.size=none:=I1.V4.fresh (Sg _);refine⟨.ref s1.heap.objs.size,upd H1 s1.heap.objs.size (.lst xs),I1.laid (t':=s1.toks) (λb u e=>U5 _ e) (Sg _) ?_,rfl,q _ hf⟩;exact⟨z,us,0,r,U7 _ rfl⟩
abbrev Sp:=List V->Hp->VK->XK->Prop
abbrev ny:=List Env->Hp->S7->XK->Value->S7->Prop
structure pP (P:Tb)(w:World)(K:Vr)(mg:Pz)(base:Heap)(A:Te)(outer:List Env)(s:S7)(H:Hp):Prop where
 frames:A.frames=some outer
 mod:Mod K mg base
 bs:∀b o,base.get? b=some o->s.heap.get? b=some o/\H b=none
 YK:base.objs.size<=s.heap.objs.size
 W3:s.heap.FunFrames base outer
 Zz:∀b∈lZ outer,H b=none
 V4:eU P w H s.heap
 bare:S4 s.gens
def CE (outer:List Env)(P:Tb)(w:World)(H:Hp)(s:S7)(Q:VK)(u:Value)(s':S7):Prop:=
 ∃v H',s'.os=s.os/\S4 s'.gens/\Un (lZ outer) [] H H' s.heap s'.heap/\eU P w H' s'.heap/\RelV v u/\Q v H'
def CR (CX:ny)(outer:List Env)(P:Tb)(w:World)(H:Hp)(s:S7)(Q:VK)(E:XK)(r:Result)(s':S7):Prop:=
 match r with
 | .ok (.ret u)=>CE outer P w H s Q u s'
 | .ok _=>False
 | .error e=>CX outer H s E e s'
structure eV (P:Tb)(w:World)(K:Vr)(mg:Pz)(base:Heap)(CX:ny)(k:Nat)(f:Addr)(fd:Tg)(ps:PJ)(sp:Sp):Prop where
 len:∀vs H Q E,sp vs H Q E->vs.length=ps.length
 run:∀(A:Te)(outer:List Env)(s:S7)(H:Hp)(args:Args)(us:PN)(vs:List V)(Q:VK)(E:XK),bG k A->pP P w K mg base A outer s H->Uz s fd args (ps.zip us)->Vals vs us->sp vs H Q E->
  Ug (model P w) A (.call (.ref f) args) (CR CX outer P w H s Q E) s
theorem eV.mono {P:Tb}{w:World}{K:Vr}{mg:Pz}{base:Heap}{CX:ny}{j k:Nat}{f:Addr}{fd:Tg}{ps:PJ}{sp:Sp}(F:eV P w K mg base CX j f fd ps sp)(h:j<=k):
 eV P w K mg base CX k f fd ps sp:=⟨F.len,λA outer s H args us vs Q E hr=>F.run A outer s H args us vs Q E (hr.mono h)⟩
variable {mg:Pz}{base:Heap}{outer:List Env}
theorem pP.make (e:pP P w K mg base A outer s H)(C:Addr)(us:PN)(kw:List (Str×Value)):
 pP P w K mg base (A.under (.builtin "type.__call__" ⟨.ref C::us,kw⟩)) outer s H:=⟨by first | exact e.frames | (simpa[Te.under,Code.envs,UU,pushEnvs] using e.frames),e.mod,e.bs,e.YK,e.W3,e.Zz,e.V4,e.bare⟩
theorem Inv.HG (I:Inv X VZ σ H s):pP X.prog X.w X.K X.mg X.base X.A X.stack s H:=
 ⟨I.ok.frames,I.ok.mod,I.bs,Sh I.ok.YK I.sz,I.stack,I.xU,I.V4,I.bare⟩
theorem Inv.after {Q:VK}(I:Inv X VZ σ H s)(h:CE X.stack X.prog X.w H s Q u s'):EP X VZ σ Q u s':=by
 obtain⟨v,H',os,bare,un,V4,r,q⟩:=h;obtain⟨hh,g,d,t,os'⟩:=s';obtain rfl:os'=s.os:=os;exact⟨v,H',I.call (h':=hh) (g':=g) (d':=d) (t':=t) (ch:=[]) un V4 bare (λb z=>VO z (by simp)),r,q⟩
def Mx (sp:Sp)(XQ:List V)(E:XK)(t:TA):TE:=λσ H Q=>t σ H λvs H1=>sp (vs++XQ) H1 Q E
def Lj (C:Addr)(sp:Sp)(XQ:List V)(E:XK)(t:TA):TE:=λσ H Q=>t σ H λvs H1=>∀x dx,H1 x=none->H1 dx=none->dx≠x->
 sp (.ref x::(vs++XQ)) (upd (upd H1 dx (.own x)) x (.ins C dx [])) (λv H2=>v= .Wb/\Q (.ref x) H2) E
def Binds (K:Vr)(fd:Tg)(ps:PJ)(ds:PN):Prop:=
 ∀(s:S7)(us:PN),K.In s.heap->(us++ds).length=ps.length->Uz s fd ⟨us,[]⟩ (ps.zip (us++ds))
variable {fd:Tg}{ps:PJ}
theorem Binds.all (h:∀us:PN,us.length=ps.length->bindArgs fd ⟨us,[]⟩=pure (ps.zip us)):Binds K fd ps []:=λs us _ hl=>by
 rw[QC] at hl ⊢;exact .of_eq (h us hl)
def Passes (CX:ny)(X:Cx)(E:XK):Prop:=∀(VZ:PD)(σ:St)(H:Hp)(s:S7)(e:Value)(s':S7),Inv X VZ σ H s->CX X.stack H s E e s'->X.xe e s'
variable {CX:ny}{sp:Sp}{vs:List V}
section
variable {k:Nat}{f:Addr}{XQ:List V}{ds:PN}{E:XK}{m:Str}{p apos:Pos}{o:Expr}
theorem Iv {Q:VK}(F:eV X.prog X.w X.K X.mg X.base CX k f fd ps sp)(hr:bG k X.A)(hb:Binds X.K fd ps ds)(hd:Vals XQ ds)(hx:Passes CX X E)(I:Inv X VZ σ H s)(r:Vals vs us)(h:sp (vs++XQ) H Q E):wpAny (model X.prog X.w) X.A (call (.ref f) us) (EP X VZ σ Q) X.xe s:=by
 have r2:Vals (vs++XQ) (us++ds):=r.append hd;have hl:(us++ds).length=ps.length:=by rw[← r2.length];exact F.len _ _ _ _ h
 refine wpAny_call (Ur (F.run X.A X.stack s H ⟨us,[]⟩ (us++ds) (vs++XQ) Q E hr I.HG (hb s us I.gb hl) r2 h) λr s' hq=>?_);cases r with
 | error e=>exact hx VZ σ H s e s' I hq
 | ok fl=>
   cases fl with
   | ret u=>exact I.after hq
   | next=>exact P4 hq
   | brk=>exact P4 hq
   | cont=>exact P4 hq
theorem ig (F:eV X.prog X.w X.K X.mg X.base CX k f fd ps sp)(hr:bG k X.A)(hg:Gl X x)(hm:X.mg x=some (.ref f))(hk:Vw X.K (.ref f)=true)(hb:Binds X.K fd ps ds)(hd:Vals XQ ds)(hx:Passes CX X E)(ha:PA X (e::es) t)(Wu:WW x:=by decide)(he:du X e es:=by rfl)(Wg:fm X pos es:=by rfl):
 PE X (.Call (.Name x p) (e::es) [] pos) (Mx sp XQ E t):=by
 intro VZ s σ H Q I h;refine T3 (sj I hg hm ?_ Wu);refine PySem.W.callWith_K (h₀:=X.base) I.ok.mod.kin hk (aX (ha pos VZ s σ H _ I h) λus s1 ⟨vs,H1,I1,r,q⟩=>⟨I1.gb,?_⟩) he Wg;exact Iv F hr hb hd hx I1 r q
structure Mk (K:Vr)(C f:Addr):Prop where
 makes:VF K C=true
 init:Vu K (.ref C) "__init__"=some (some (.ref f))
 fn:VM K (.ref f)=true
 kp:Vw K (.ref C)=true
theorem DN {Q:VK}(M:Mk X.K C f)(F:eV X.prog X.w X.K X.mg X.base CX k f fd ps sp)(hr:bG (k+1) X.A)(hb:Binds X.K fd ps ds)(hd:Vals XQ ds)(hx:Passes CX X E)(I:Inv X VZ σ H s)(r:Vals vs us)(h:∀x dx,H x=none->H dx=none->dx≠x->sp (.ref x::(vs++XQ)) (upd (upd H dx (.own x)) x (.ins C dx [])) (λv H2=>v= .Wb/\Q (.ref x) H2) E):
 wpAny (model X.prog X.w) X.A (call (.ref C) us) (EP X VZ σ Q) X.xe s:=by
 have hq:=h (s.heap.objs.size+1) s.heap.objs.size (I.V4.fresh (Sr _)) (I.V4.fresh (Sg _)) (Sl (Ss _));have I2:=Inv.made (C:=C) I;have r2:Vals (V.ref (s.heap.objs.size+1)::(vs++XQ)) (Vk (s.heap.objs.size+1)::(us++ds)):=.cons rfl (r.append hd);have hl:(Vk (s.heap.objs.size+1)::us++ds).length=ps.length:=by
  have e:=r2.length;rw[F.len _ _ _ _ hq] at e;exact e.symm
 refine wpAny_call (Cv (f:=f) I.gb M.makes M.init (beq_iff_eq.mp M.fn) (Ur (F.run _ X.stack _ _ ⟨Vk (s.heap.objs.size+1)::us,[]⟩ (Vk (s.heap.objs.size+1)::(us++ds)) _ _ E (hr.make C us [])
  (I2.HG.make C us []) (hb _ (Vk (s.heap.objs.size+1)::us) I2.gb hl) r2 hq) λr s' W8=>?_))
 cases r with
 | error e=>exact hx VZ σ _ _ e s' I2 W8
 | ok fl=>
   cases fl with
   | ret u=>
     obtain⟨v,H',I3,rv,ev,q3⟩:=I2.after W8;subst ev;exact⟨rv,⟨V.ref (s.heap.objs.size+1),H',I3,rfl,q3⟩⟩
   | next=>exact P4 W8
   | brk=>exact P4 W8
   | cont=>exact P4 W8
theorem GK (M:Mk X.K C f)(F:eV X.prog X.w X.K X.mg X.base CX k f fd ps sp)(hr:bG (k+1) X.A)(hg:Gl X x)(hm:X.mg x=some (.ref C))(hb:Binds X.K fd ps ds)(hd:Vals XQ ds)(hx:Passes CX X E)(ha:PA X (e::es) t)(Wu:WW x:=by decide)(he:du X e es:=by rfl)(Wg:fm X pos es:=by rfl):
 PE X (.Call (.Name x p) (e::es) [] pos) (Lj C sp XQ E t):=by
 intro VZ s σ H Q I h;refine T3 (sj I hg hm ?_ Wu);refine PySem.W.callWith_K (h₀:=X.base) I.ok.mod.kin M.kp (aX (ha pos VZ s σ H _ I h) λus s1 ⟨vs,H1,I1,r,q⟩=>⟨I1.gb,?_⟩) he Wg;exact DN M F hr hb hd hx I1 r q
end
section
variable {k:Nat}{f:Addr}{ks:PJ}{E:XK}{m:Str}{p apos kpos:Pos}{o:Expr}{kws:List Uo}{tk:TA}{nm:Option Str}
variable {g:PN->PN->PN}{gV:List V->List V->List V}
end
structure bV (N P:PJ)(sc:Scope):Prop where
 kind:sc.kind= .function
 co:sc.isCoroutine=false
 gen:sc.isGenerator=false
 nd:N.Nodup
 pre:N.take P.length=P
 par:∀x∈P,sc.names.lookup x=some .local∨sc.names.lookup x=some .cell
 Ze:∀y∈sc.names,y.2≠ .free
variable {sc:Scope}
theorem Xt{P:PJ}(a:sc.kind=.function:=by rfl)(b:sc.isCoroutine=false:=by rfl)(c:sc.isGenerator=false:=by rfl)(d:N.Nodup:=by decide +kernel)(e:N.take P.length=P:=by rfl)(f:∀x∈P,sc.names.lookup x=some .local∨sc.names.lookup x=some .cell:=by decide +kernel)(g:∀y∈sc.names,y.2≠.free:=by decide +kernel):bV N P sc:=⟨a,b,c,d,e,f,g⟩
theorem tH {kindOf:Str->Option TY}{x:Str}:∀{binds:List (Str×Value)}{m:Pz},(∀v,(x,v)∉binds)->bindL kindOf binds m x=m x
 | [],_,_=>rfl
 | (n,v)::r,m,h=>by
   unfold bindL;rw[tH λw hw=>h w (Qi _ hw)];split
   ·have:x≠n:=by rintro rfl;exact h v Qk
    simp[this]
   ·rfl
theorem tO {kindOf:Str->Option TY}{x:Str}:∀{binds:List (Str×Value)}{m:Pz},(∀v,(x,v)∉binds)->bindC kindOf binds m x=m x
 | [],_,_=>rfl
 | (n,v)::r,m,h=>by
   unfold bindC;rw[tO λw hw=>h w (Qi _ hw)];split
   ·rfl
   ·have:x≠n:=by rintro rfl;exact h v Qk
    simp[this]
theorem tW {kindOf:Str->Option TY}{x:Str}{v:Value}:∀{P:PJ}{vs:PN}{i:Nat}{m:Pz},P.Nodup->P[i]?=some x->vs[i]?=some v->kindOf x=some .local->
 bindL kindOf (P.zip vs) m x=some v
 | [],_,_,_,_,h,_,_=>by simp at h
 | _::_,[],_,_,_,_,h,_=>by simp at h
 | p::P,w::vs,0,m,nd,h1,h2,hk=>by
   simp at h1 h2;subst h1;subst h2;show bindL kindOf ((p,w)::P.zip vs) m p=_;unfold bindL;rw[tH λv hv=>(QF.mp nd).1 (RG hv).1,VQ hk];simp
 | p::P,w::vs,i+1,m,nd,h1,h2,hk=>by
   show bindL kindOf ((p,w)::P.zip vs) m x=_;unfold bindL;exact tW (i:=i) (QF.mp nd).2 (by simpa using h1) (by simpa using h2) hk
theorem tU {kindOf:Str->Option TY}{x:Str}{v:Value}:∀{P:PJ}{vs:PN}{i:Nat}{m:Pz},P.Nodup->P[i]?=some x->vs[i]?=some v->kindOf x≠some .local->
 bindC kindOf (P.zip vs) m x=some v
 | [],_,_,_,_,h,_,_=>by simp at h
 | _::_,[],_,_,_,_,h,_=>by simp at h
 | p::P,w::vs,0,m,nd,h1,h2,hk=>by
   simp at h1 h2;subst h1;subst h2;show bindC kindOf ((p,w)::P.zip vs) m p=_;unfold bindC;rw[tO λv hv=>(QF.mp nd).1 (RG hv).1,VP hk];simp
 | p::P,w::vs,i+1,m,nd,h1,h2,hk=>by
   show bindC kindOf ((p,w)::P.zip vs) m x=_;unfold bindC;exact tU (i:=i) (QF.mp nd).2 (by simpa using h1) (by simpa using h2) hk
def start (N:PJ)(vs:List V):St:=vs.map some++Q4 (N.length-vs.length) none
def fI (CX:ny)(P:Tb)(w:World)(K:Vr)(mg:Pz)(base:Heap)(N:PJ)(qual:Str)(scope:Scope)(f:Addr)(cd:Value)(A:Te)(outer:List Env)(s:S7)(H:Hp)(E:XK):Cx where
 prog:=P
 w:=w
 K:=K
 mg:=mg
 base:=base
 A:=A.deeper (S0 qual scope s.heap.objs.size f cd)
 N:=N
 s₀:=s
 H₀:=H
 env:=S0 qual scope s.heap.objs.size f cd
 outer:=outer
 stack:=S0 qual scope s.heap.objs.size f cd::outer
 ex:=[]
 calm:=true
 fn:=λ_=>true
 pn:=[]
 xe:=λe s'=>wpAny (model P w) (A.deeper (S0 qual scope s.heap.objs.size f cd)) (leaving (S0 qual scope s.heap.objs.size f cd) e) (λ_ s''=>CX outer H s E e s'') (λe' s''=>CX outer H s E e' s'') s'
theorem bb (h:sc.names.lookup x=some .cell):∃c,(cellsFrom n sc.names []).lookup x=some c:=by
 have q:=PySem.W.cellsFrom_some sc.names n [] (.inl h);exact Option.isSome_iff_exists.mp q
variable {qual:Str}{scope:Scope}
theorem B7 {f:Addr}{cd:Value}{s1:S7}{E:XK}(S:bV N ps scope)(hd:A.handled=none)(e0:pP P w K mg base A outer s H)(hl:vs.length=ps.length)(r:Vals vs us)(x:InCallC s s.heap.objs.size (bindL (S0 qual scope s.heap.objs.size f cd).kindOf (ps.zip us) λ_=>none) (cellsFrom (s.heap.objs.size+1) scope.names []) (bindC (S0 qual scope s.heap.objs.size f cd).kindOf (ps.zip us) λ_=>none) s1):
 Inv (fI CX P w K mg base N qual scope f cd A outer s H E) [] (start N vs) H s1:=by
 have Wg:ps.length<=N.length:=by have:=congrArg List.length S.pre;rw[QA] at this;omega
 obtain⟨h1,tk,rfl,hk⟩:=x.done;have Z8:∀b:Addr,b∉(fI CX P w K mg base N qual scope f cd A outer s H E).ex:=λb z=>VO (show b∈([]:PM) from z) (by simp);refine⟨⟨e0.mod,S.kind,rfl,rfl,Sg _,λy z c h1 h2=>?_,λy hy=>?_,λy c _ h=>?_,λ_=>hd,Te.frames_deeper e0.frames,.inr ⟨rfl,rfl⟩,λb z=>VO z (Z8 b),e0.bs,e0.YK,λb _ _=>Z8 b,λb z=>VO z (Z8 b),e0.W3,e0.Zz⟩,
  rfl,e0.bare,Un.kept hk,⟨_,x.toInCall.ns,λi y v h1 h2 h3=>?_⟩,λy c h=>⟨_,x.cell y c h⟩,e0.V4.fresh (Sg _),λy c h=>?_,λp hp=>VO (show p∈([]:PD) from hp) (by simp),e0.V4.kept hk,?_⟩
 ·exact name_of_addr x.apart (Tn h1) (Tn h2)
 ·have hy:scope.names.lookup y=some .cell∨scope.names.lookup y=some .free:=hy;rcases hy with hy | hy
  ·exact bb hy
  ·exact VO rfl (S.Ze _ (Tn hy))
 ·exact SJ (x.above y c (Tn h))
 ·have hi:i<vs.length:=by
   unfold start at h2;by_cases hi:i<vs.length
   ·exact hi
   ·rw[QE (by simpa using hi)] at h2;rw[Rp] at h2;split at h2<;>cases h2
  have ha:vs[i]?=some v:=by
   unfold start at h2;rw[QI (by simpa using hi),Ql] at h2;cases e:vs[i]? with
   | none=>rw[e] at h2;cases h2
   | some a=>rw[e] at h2;cases h2;rfl
  obtain⟨u,hu,rv⟩:=r.get ha;have hp:ps[i]?=some y:=by
   rw[← S.pre,List.getElem?_take_of_lt (by omega)];exact h1
  have ndP:ps.Nodup:=by rw[← S.pre];exact S.nd.sublist (List.take_sublist _ _)
  refine⟨u,rv,?_⟩;rcases S.par y (Qm hp) with k | k
  ·exact .inl ⟨k,tW ndP hp hu k⟩
  ·obtain⟨c,e⟩:=bb (n:=s.heap.objs.size+1) k;refine .inr ⟨.inl k,c,e,?_⟩;have q:=x.cell y c e;rw[tU ndP hp hu (by show scope.names.lookup y≠_;rw[k];decide)] at q;exact q
 ·exact e0.V4.fresh (SJ (x.above y c (Tn h)))
 ·unfold start;show _=N.length;rw[Qj,Qg,Q5];omega
theorem LM {k:Nat}{f:Addr}{params:Arguments}{dV kV doc pm V2 ct oc:Value}{an od:Option Addr}{XF:Array PK}(lk:K.lookup f=some ⟨oc,od,.func (Vx name qual params body scope dV kV doc pm an V2 ct),XF⟩)(X0:VB K V2 qual=true)(S:bV N ps scope)(len:∀vs H Q E,sp vs H Q E->vs.length=ps.length)(Wr:∀(A:Te)(outer:List Env)(s:S7)(H:Hp)(vs:List V)(Q:VK)(E:XK),bG k (A.deeper (S0 qual scope s.heap.objs.size f V2))->sp vs H Q E->
  ∃t,kD (fI CX P w K mg base N qual scope f V2 A outer s H E) body t/\t {nx:=λ_ H'=>Q .Wb H',rt:=Q} (start N vs) H):
 eV P w K mg base CX (k+1) f (Vx name qual params body scope dV kV doc pm an V2 ct) ps sp:=by
 refine⟨len,λA outer s H args us vs Q E hr e0 hb r XY=>?_⟩;have hl:=len _ _ _ _ XY;have KX:K.In s.heap:=e0.mod.kin.keeps λb o e=>(e0.bs b o e).1;have lim:s.heap.NoLimit:=e0.mod.nolimit.keeps λb o e=>(e0.bs b o e).1;have hkind:∀y∈ps.zip us,scope.names.lookup y.1=some .local∨(scope.names.lookup y.1=some .cell/\((cellsFrom (s.heap.objs.size+1) scope.names []).lookup y.1).isSome=true):=λ⟨n,v⟩ hy=>by
  rcases S.par n (RG hy).1 with q | q
  ·exact .inl q
  ·exact .inr ⟨q,PySem.W.cellsFrom_some _ _ _ (.inl q)⟩
 refine codeAny_call_function hr.depth (KX _ _ lk) rfl S.co S.gen rfl (PySem.W.codeRec_of KX X0) (hb _ _ _ _ ?_);refine wpAny_newFunctionEnv_cells S.kind hkind λenv he s1 x=>?_;subst he;refine⟨lim.keeps x.toInCall.keep,codeAny_func ?_⟩;obtain⟨t,ht,hq⟩:=Wr A outer s H vs Q E (hr.deeper _) XY;have I:Inv (fI CX P w K mg base N qual scope f V2 A outer s H E) [] (start N vs) H s1:=B7 S hr.hd e0 hl r x;refine Tp (ht [] s1 (start N vs) H _ I hq) (λfl s' hs=>?_) λe s' hs=>hs;have fin:∀{σ':St}{H':Hp}{v:V}{u:Value},Inv (fI CX P w K mg base N qual scope f V2 A outer s H E) [] σ' H' s'->RelV v u->Q v H'->CE outer P w H s Q u s':=
  λ{σ' H' v u} J rv q=>⟨v,H',J.os,J.bare,J.base,J.V4,rv,q⟩
 cases fl with
 | ret u=>
   obtain⟨v,σ',H',J,rv,q⟩:=hs;exact fin J rv q
 | next=>
   obtain⟨σ',H',J,q⟩:=hs;exact fin (v:=V.Wb) (u:=Vl) J rfl q
 | brk=>
   obtain⟨_,_,_,q⟩:=hs;exact P4 q
 | cont=>
   obtain⟨_,_,_,q⟩:=hs;exact P4 q
section
variable {p:Pos}{id T:String}{r:List V->Hp->VK->Prop}
def Nt (r:List V->Hp->VK->Prop)(t:TA):TE:=λσ H Q=>t σ H λvs H1=>r vs H1 Q
theorem ee (hc:gv X (.builtin id) r)(hg:Gl X x)(hm:X.mg x=none)(hv:TB x=some (.builtin id))(ha:PA X (e::es) t)(hn:x≠"__name__":=by decide)(Wu:WW x:=by decide)(he:du X e es:=by rfl)(Wg:fm X pos es:=by rfl):PE X (.Call (.Name x p) (e::es) [] pos) (Nt r t):=by
 intro VZ s σ H Q I h;refine T3 (iK I hg hm hv ?_ hn Wu);exact PyProof.Rows.callWith_builtin1 (aX (ha pos VZ s σ H _ I h) λus s1 ⟨vs,H1,I1,r1,q1⟩=>hc VZ s1 σ H1 vs us Q I1 r1 q1) he Wg
theorem jw (hc:gv X (.type T) r)(hg:Gl X x)(hm:X.mg x=none)(hv:TB x=some (.type T))(ha:PA X (e::es) t)(hn:x≠"__name__":=by decide)(Wu:WW x:=by decide)(he:du X e es:=by rfl)(Wg:fm X pos es:=by rfl):PE X (.Call (.Name x p) (e::es) [] pos) (Nt r t):=by
 intro VZ s σ H Q I h;refine T3 (iK I hg hm hv ?_ hn Wu);exact SX (aX (ha pos VZ s σ H _ I h) λus s1 ⟨vs,H1,I1,r1,q1⟩=>hc VZ s1 σ H1 vs us Q I1 r1 q1) he Wg
end
end L2
namespace HT
open PySem PyProof.Rows
section
open PySem.SeqAt
open PySem.AutoSeq1 (wpAny_loadPart')
open PySem.MeetsSeq PySem.MeetsSeq2 PySem.MeetsSeq3
end
variable {sl:Addr}
section
variable {prog:Tb}{w:World}{A:Te}{E:Value->S7->Prop}{s:S7}
def Wd (n d:Nat):Option Int->Nat
 | none=>d
 | some v=>if v<0 then(v+(n:Int)).toNat else min v.toNat n
theorem KR (n d:Nat)(hd:d<=n)(o:Option Int):Wd n d o<=n:=by
 cases o with
 | none=>exact hd
 | some v=>
   show(if v<0 then(v+(n:Int)).toNat else min v.toNat n)<=n;by_cases hv:v<0
   ·rw[VQ hv];omega
   ·rw[VP hv];exact SD _ _
theorem yi (v:Int)(n d:Nat):(if v<0 then max (v+(n:Int)) 0 else min v (n:Int))=((Wd n d (some v):Nat):Int):=by
 show(if v<0 then max (v+(n:Int)) 0 else min v (n:Int))=(((if v<0 then(v+(n:Int)).toNat else min v.toNat n):Nat):Int);by_cases hv:v<0
 ·simp only[VQ hv];omega
 ·simp only[VP hv];omega
theorem zD (lo hi:Option Int)(n:Nat):UN lo hi 1 (n:Int)=(((Wd n 0 lo:Nat):Int),((Wd n n hi:Nat):Int)):=by
 have h1:¬((1:Int)<0):=by omega
 unfold UN;simp only[h1,if_false];refine SU ?_ ?_
 ·cases lo with
  | none=>rfl
  | some v=>exact yi v n 0
 ·cases hi with
  | none=>rfl
  | some v=>exact yi v n n
theorem za (i j:Nat):UM (i:Int) (j:Int) 1=j-i:=by
 unfold UM;have h1:(1:Int)>0:=by omega
 simp only[h1,if_true,Int.ediv_one];split<;>omega
theorem rn {v:Value}{o:Option Int}{Q:Option Int->S7->Prop}(p:Ua v o)(h:Q o s):wpAny (model prog w) A (Builtin.Slice.slicePartIndex v) Q E s:=by
 cases p with
 | none=>exact slicePart_none h
 | int i t=>exact slicePart_int h
theorem kH {vl vu:Value}{lo hi:Option Int}{n:Nat}{Q:Int×Int×Nat->S7->Prop}(hs:s.heap.IsSliceOf sl vl vu .none)(pl:Ua vl lo)(pu:Ua vu hi)(h:Q (((Wd n 0 lo:Nat):Int),1,Wd n n hi-Wd n 0 lo) s):wpAny (model prog w) A (Builtin.Slice.sliceApplied (.ref sl) (pure (n:Int))) Q E s:=by
 obtain⟨os,Zo,hcs,hds⟩:=id hs;unfold Builtin.Slice.sliceApplied Builtin.Slice.sliceFields;refine S9 (S9 (To Zo hds (x:=vl) rfl (S9 (To Zo hds (x:=vu) rfl (S9 (To Zo hds (x:=.none) rfl (Tc ?_)))))));refine S9 (slicePart_none ?_);show wpAny _ _ (if((1:Int)==0)=true then _ else _) _ _ s;rw[VP (by decide)];refine S9 (rn pl (S9 (rn pu (S9 (Tc ?_)))));show wpAny _ _ (match UN lo hi 1 (n:Int) with | (lo,hi)=>pure (lo,(1:Int),UM lo hi 1)) _ _ s;rw[zD lo hi n];show wpAny _ _ (pure (((Wd n 0 lo:Nat):Int),(1:Int),UM ((Wd n 0 lo:Nat):Int) ((Wd n n hi:Nat):Int) 1)) _ _ s;rw[za];exact Tc h
theorem CJ (xs:Array Value)(i k:Nat):((Qt k).filterMap λ(m:Nat)=>xs[((i:Int)+(m:Int)*1).toNat]?).toArray=((xs.toList.drop i).take k).toArray:=by
 have e:(λ(m:Nat)=>xs[((i:Int)+(m:Int)*1).toNat]?)=λm=>xs[i+m]?:=by
  funext m;have:((i:Int)+(m:Int)*1).toNat=i+m:=by omega
  rw[this]
 rw[e];have:=pick_run xs i k;rw[List.filterMap_map] at this;have e2:((λx=>xs[x]?) ∘ λx=>i+x)=λm=>xs[i+m]?:=rfl;rw[e2] at this;rw[this]
theorem oS {t:Addr}{items:Array Value}{vl vu:Value}{lo hi:Option Int}{Q:Value->S7->Prop}(ht:IsTup s.heap t items)(hs:s.heap.IsSliceOf sl vl vu .none)(pl:Ua vl lo)(pu:Ua vu hi)(hw:¬(Wd items.size 0 lo=0/\Wd items.size items.size hi=items.size))(h:Q (.ref s.heap.objs.size) {s with heap:=s.heap.push {cls:=.type "tuple",data:=.seq ((items.toList.drop (Wd items.size 0 lo)).take (Wd items.size items.size hi-Wd items.size 0 lo)).toArray}})(hsz:items.size<=S8):wpAny (model prog w) A (T5 (.ref t) (.ref sl)) Q E s:=by
 have XT:sizeOk (.seq ((items.toList.drop (Wd items.size 0 lo)).take (Wd items.size items.size hi-Wd items.size 0 lo)).toArray):=by
  show((items.toList.drop (Wd items.size 0 lo)).take (Wd items.size items.size hi-Wd items.size 0 lo)).toArray.size<=S8;rw[Qx,QA,Ro,PU];omega
 have hj:Wd items.size items.size hi<=items.size:=KR _ _ (Sg _) hi;obtain⟨os,Zo,hcs,hds⟩:=id hs;have hTs:s.TypeIs (.ref sl) "slice":=⟨os,Zo,hcs⟩;unfold T5
 try with_reducible refine TZ ?_
 first | refine S9 (Tc ?_) | skip
 refine S9 (wpAny_sequenceKey ht.typeIs (by decide) ?_);refine S9 (Tr (name:=Vi "__getitem__") ht.typeIs SY
  (TN SY ht.typeIs entry_tuple_getitem ?_ (args_tuple_getitem _ _)))
 show wpAny _ _ (Builtin.Tuple.tupleItemsOf (.ref t) >>=_) _ _ s;refine S9 (tupleItemsOf_ ht ?_);refine S9 (wpAny_typeOf hTs ?_);rw[VQ (by decide)];refine S9 (kH hs pl pu ?_);have Yi:¬((((Wd items.size 0 lo:Nat):Int)==0&&(1:Int)==1&&(Wd items.size items.size hi-Wd items.size 0 lo)==items.size)=true):=by
  intro q;rw[PZ,PZ] at q;have q1:((Wd items.size 0 lo:Nat):Int)=0:=eq_of_beq q.1.1;have q2:Wd items.size items.size hi-Wd items.size 0 lo=items.size:=eq_of_beq q.2;exact hw ⟨by omega,by omega⟩
 show wpAny _ _ (if(((Wd items.size 0 lo:Nat):Int)==0&&(1:Int)==1&&(Wd items.size items.size hi-Wd items.size 0 lo)==items.size)=true then _ else _) _ _ s;rw[VP Yi,CJ]
 first
  | exact S9 (m:=UR _) (Tv (Tc ⟨_,rfl,Tc h⟩) XT)
  | exact S9 (m:=UR _) (Tv (S9 (Tc (Tc ⟨_,rfl,Tc h⟩))) XT)
  | exact S9 (S9 (m:=UR _) (Tv (Tc (Tc ⟨_,rfl,Tc h⟩)) XT))
  | exact S9 (S9 (m:=UR _) (Tv (Tc ⟨_,rfl,Tc h⟩) XT))
end
end HT
namespace L2
open PySem PySem.Spec PyProof.Rows
abbrev TO:=St->Hp->(Option Int->Hp->Prop)->Prop
def PO (X:Cx)(e:Option Expr)(t:TO):Prop:=
 ∀(VZ:PD)(s:S7)(σ:St)(H:Hp)(Q:Option Int->Hp->Prop),Inv X VZ σ H s->t σ H Q->
  wpAny (model X.prog X.w) X.A (evalPart e X.env) (λu s'=>∃o H',Inv X VZ σ H' s'/\Ua u o/\Q o H') X.xe s
def Hi:TO:=λ_ H Q=>Q none H
def MU (t:TE):TO:=λσ H Q=>t σ H λx H1=>∃i,x= .int i/\Q (some i) H1
variable {X:Cx}{e:Expr}{pos:Pos}
section
variable {te:TE}{lo hi:Option Expr}{tl th:TO}{p2:Pos}
theorem GL:PO X none Hi:=by
 intro VZ s σ H Q I h;rw[evalPart_none];exact Tc ⟨none,H,I,.none,h⟩
theorem GB (h:PE X e te):PO X (some e) (MU te):=by
 intro VZ s σ H Q I hw;rw[evalPart_some];refine aX (h VZ s σ H _ I hw) λu s1 ⟨x,H1,I1,r1,q1⟩=>?_;obtain⟨i,rfl,q⟩:=q1;obtain⟨t,rfl⟩:=r1;exact⟨some i,H1,I1,.int i t,q⟩
def Au (X:Cx)(r:V->Option Int->Option Int->Hp->VK->Prop):Prop:=
 ∀(VZ:PD)(s:S7)(σ:St)(H:Hp)(x:V)(v vl vu:Value)(lo hi:Option Int)(sl:Addr)(Q:VK),Inv X VZ σ H s->RelV x v->s.heap.IsSliceOf sl vl vu .none->Ua vl lo->Ua vu hi->r x lo hi H Q->
  ∃T id,typeLookup (.type T) "__getitem__"=pure (some (.builtin id))/\s.TypeIs v T/\wpAny (model X.prog X.w) X.A (T5 v (.ref sl)) (EP X VZ σ Q) X.xe s
def tSl (r:V->Option Int->Option Int->Hp->VK->Prop)(te:TE)(tl th:TO):TE:=λσ H Q=>te σ H λx H1=>tl σ H1 λl H2=>th σ H2 λu H3=>r x l u H3 Q
theorem nt {r:V->Option Int->Option Int->Hp->VK->Prop}(hr:Au X r)(he:PE X e te)(hl:PO X lo tl)(hu:PO X hi th):PE X (.Subscript e (.Slice lo hi none p2) pos) (tSl r te tl th):=by
 intro VZ s σ H Q I h;refine Subscript_ (aX (he VZ s σ H _ I h) λv s1 ⟨x,H1,I1,r1,q1⟩=>?_);refine wpAny_Slice (aX (hl VZ s1 σ H1 _ I1 q1) λvl s2 ⟨l,H2,I2,pl,q2⟩=>aX (hu VZ s2 σ H2 _ I2 q2) λvu s3 ⟨u,H3,I3,pu,q3⟩=>?_);rw[evalPart_none];refine Tc ?_;have I4:Inv X VZ σ H3 {s3 with heap:=s3.heap.push {cls:=.type "slice",data:=.fields #[vl,vu,.none]}}:=I3.kept (t':=s3.toks) λb ob q=>U5 _ q;obtain⟨T,id,hT,ht,hg⟩:=hr VZ {s3 with heap:=s3.heap.push {cls:=.type "slice",data:=.fields #[vl,vu,.none]}} σ H3 x v vl vu l u s3.heap.objs.size Q I4 r1 (Heap.IsSliceOf.new ..) pl pu q3;show wpAny (model X.prog X.w) X.A (S6 e (.Slice lo hi none p2) v (.ref s3.heap.objs.size)) (EP X VZ σ Q) X.xe {s3 with heap:=s3.heap.push {cls:=.type "slice",data:=.fields #[vl,vu,.none]}};exact tail_any (ops:=[.ref s3.heap.objs.size,v]) ht hT hg (by with_unfolding_all rfl)
def lL (xs:List V)(lo hi:Option Int):List V:=(xs.drop (HT.Wd xs.length 0 lo)).take (HT.Wd xs.length xs.length hi-HT.Wd xs.length 0 lo)
theorem o9 (xs:List V)(lo hi:Option Int):(lL xs lo hi).length<=xs.length:=by
 unfold lL;rw[QA,Ro];omega
def OQ (K:Vr):V->Option Int->Option Int->Hp->VK->Prop:=λx lo hi H Q=>∃a xs,x= .ref a/\dR K H a xs/\
 ¬(HT.Wd xs.length 0 lo=0/\HT.Wd xs.length xs.length hi=xs.length)/\∀p,H p=none->Q (.ref p) (upd H p (.tup (lL xs lo hi)))
theorem Js:Au X (OQ X.K):=by
 intro VZ s σ H x v vl vu lo hi sl Q I rx hs pl pu h;obtain⟨a,xs,rfl,hx,hw,q⟩:=h;cases rx
 obtain⟨V1,r,ht,hz⟩:=I.tuple hx;have hlen:V1.toArray.size=xs.length:=by rw[Qx];exact r.length.symm
 refine⟨"tuple",_,SY.lookup,ht.typeIs,?_⟩;refine HT.oS ht hs pl pu (by rw[hlen];exact hw) ?_ (by rw[hlen];exact hz);rw[hlen];refine⟨.ref s.heap.objs.size,_,I.laid (t':=s.toks) (o:=.tup (lL xs lo hi)) (λb ob q=>U5 _ q) (Sg _) ?_,rfl,q _ (I.V4.fresh (Sg _))⟩;exact⟨Sh (o9 xs lo hi) hz,_,(r.drop (HT.Wd xs.length 0 lo)).take (HT.Wd xs.length xs.length hi-HT.Wd xs.length 0 lo),IsTup.new _ _⟩
end
variable {α:Type}{n:Nat}{i:Int}{j:Nat}{xs:List α}
def ij (n:Nat)(i:Int):Option Nat:=if 0<=i then(if i<n then some i.toNat else none) else if -(n:Int)<=i then some (i+n).toNat else none
def cE (xs:List α)(i:Int):Option α:=(ij xs.length i).bind λj=>xs[j]?
theorem x9 (h:ij n i=some j):seqIndex? i n=some j/\j<n/\ -(n:Int)<=i/\i<n:=by
 unfold ij at h;by_cases h0:0<=i
 ·rw[VQ h0] at h;by_cases h1:i<n
  ·rw[VQ h1] at h;have e:i.toNat=j:=Option.some.inj h;exact⟨by rw[seqIndex_of h0 h1,e],by omega,by omega,h1⟩
  ·rw[VP h1] at h;cases h
 ·rw[VP h0] at h;by_cases h1: -(n:Int)<=i
  ·rw[VQ h1] at h;have e:(i+n).toNat=j:=Option.some.inj h;exact⟨by rw[seqIndex_neg (by omega) h1,e],by omega,h1,by omega⟩
  ·rw[VP h1] at h;cases h
theorem sf {v:α}(h:cE xs i=some v):∃j,seqIndex? i xs.length=some j/\xs[j]?=some v/\j<xs.length/\ -(xs.length:Int)<=i/\i<xs.length:=by
 unfold cE at h;cases e:ij xs.length i with
 | none=>rw[e] at h;cases h
 | some j=>
   rw[e] at h;obtain⟨h1,h2,h3,h4⟩:=x9 e;exact⟨j,h1,h,h2,h3,h4⟩
theorem Gm {v:α}(h:xs[j]?=some v):cE xs (j:Int)=some v:=by
 have hj:j<xs.length:=(Qc.mp h).1;have e:ij xs.length (j:Int)=some j:=by
  unfold ij;rw[VQ (by omega),VQ (by omega)];simp
 unfold cE;rw[e];exact h
def eL (b:Expr):Prop:=∀o i,Uw b false o i=operate [o,i] (T5 o i)
def En (X:Cx)(r:R2):Prop:=
 ∀(value slice:Expr)(VZ:PD)(s:S7)(σ:St)(H:Hp)(x y:V)(v u:Value)(Q:VK),Inv X VZ σ H s->RelV x v->RelV y u->r x y H Q->
  Uw slice false v u=operate [v,u] (T5 v u)->wpAny (model X.prog X.w) X.A (S6 value slice v u) (EP X VZ σ Q) X.xe s
def xV (X:Cx)(id:String)(r:V->List V->Hp->VK->Prop):Prop:=
 ∀(VZ:PD)(s:S7)(σ:St)(H:Hp)(x:V)(xs:List V)(v:Value)(us:PN)(Q:VK),Inv X VZ σ H s->RelV x v->Vals xs us->r x xs H Q->
  wpAny (model X.prog X.w) X.A (call (.builtin id) (v::us)) (EP X VZ σ Q) X.xe s
variable {VZ:PD}{σ:St}{H:Hp}{s:S7}{V1:PN}{A:Te}{y x:V}{u:Value}{T:String}{v:Value}
section
variable {a b:Expr}{ta tb:TE}
theorem gG {r:R2}(hr:En X r)(ha:PE X a ta)(hb:PE X b tb)(hs:eL b):PE X (.Subscript a b pos) (ES r ta tb):=by
 intro VZ s σ H Q I h;exact Subscript_ (C6 ha hb I h λv u s2 x y H2 I2 rx ry q=>hr a b VZ s2 σ H2 x y v u Q I2 rx ry q (hs _ _))
def O4 (K:Vr):R2:=λx y H Q=>∃p xs i v,x= .ref p/\y= .int i/\bt K H p xs/\cE xs i=some v/\Q v H
def Pl (K:Vr):R2:=λx y H Q=>∃p xs i v,x= .ref p/\y= .int i/\dR K H p xs/\cE xs i=some v/\Q v H
def OE:R2:=λx y H Q=>∃z i c,x= .str z/\y= .int i/\z.length<=S8/\cE z.cps.toList i=some c/\Q (.str ⟨#[c]⟩) H
theorem iz:En X (O4 X.K):=by
 intro value slice VZ s σ H x y v u Q I rx ry h hs;obtain⟨p,xs,i,z,rfl,rfl,hq,he,q⟩:=h;cases rx
 obtain⟨t,rfl⟩:=ry;obtain⟨V1,r,pl,hz⟩:=I.list hq;obtain⟨j,h1,h2,h3,h4,h5⟩:=sf he;obtain⟨w,ew,Yw⟩:=r.get h2;have hl:=r.length;have hn:=kS;have fin:EP X VZ σ Q w s:=⟨z,H,I,Yw,q⟩;by_cases h0:0<=i
 ·have hj:i.toNat=j:=by
   rw[seqIndex_of h0 h5] at h1;exact Option.some.inj h1
  exact item_listR pl.isList h0 (by omega) (by rw[hj];simpa using ew) fin hs
 ·have hj:(i+(V1.toArray.size:Int)).toNat=j:=by
   rw[seqIndex_neg (by omega) h4] at h1;rw[Qx,← hl];exact Option.some.inj h1
  exact subscriptTail_builtinR (x:=w) pl.isList.typeIs slot_list_getitem.lookup
   (wpAny_getItem_list_neg (Q:=λr s'=>r=w/\EP X VZ σ Q r s') pl.isList (by omega) (by rw[Qx]<;>omega) (by omega) (by rw[hj];simpa using ew) ⟨rfl,fin⟩) hs
theorem rE:En X (Pl X.K):=by
 intro value slice VZ s σ H x y v u Q I rx ry h hs;obtain⟨p,xs,i,z,rfl,rfl,hq,he,q⟩:=h;cases rx
 obtain⟨t,rfl⟩:=ry;obtain⟨V1,r,pl,hz⟩:=I.tuple hq;obtain⟨j,h1,h2,h3,h4,h5⟩:=sf he;obtain⟨w,ew,Yw⟩:=r.get h2;have hl:=r.length;have hn:=kS;have fin:EP X VZ σ Q w s:=⟨z,H,I,Yw,q⟩;exact subscriptTail_builtinR (x:=w) pl.typeIs slot_tuple_getitem.lookup
  (getItem_tuple (j:=j) (Q:=λr s'=>r=w/\EP X VZ σ Q r s') pl (by omega) (by omega) (by rw[Qx,← hl];exact h1) (by simpa using ew) ⟨rfl,fin⟩) hs
theorem JZ:En X OE:=by
 intro value slice VZ s σ H x y v u Q I rx ry h hs;obtain⟨z,i,c,rfl,rfl,hz,he,q⟩:=h;obtain⟨t,rfl⟩:=rx;obtain⟨t',rfl⟩:=ry;obtain⟨j,h1,h2,h3,h4,h5⟩:=sf he;have hl:z.cps.toList.length=z.length:=by simp[Str.length]
 rw[hl] at h1 h4 h5;have hn:=kS;exact tail_any (Ub s z t) slot_str_getitem.lookup (getItem_str (c:=c) (by
  have e1:decide (i < -(2 ^ 63:Int))=false:=VU (by omega);have e2:decide (i≥2 ^ 63)=false:=VU (by omega);rw[e1,e2,Bool.or_false]) (by rw[h1];simpa using h2) ⟨.str ⟨#[c]⟩,H,I.tok _,⟨_,rfl⟩,q⟩) hs
theorem y8 (V1:PN)(n j:Nat)(u:Value):Ve (·.setIfInBounds j u) {cls:=.type "list",data:=.seq V1.toArray n}={cls:=.type "list",data:=.seq (V1.set j u).toArray n}:=by
 simp[Ve]
theorem Inv.lst {VZ:PD}{σ:St}{H:Hp}{s:S7}{p:Addr}{xs:List V}(I:Inv X VZ σ H s)(h:H p=some (.lst xs)):
 ∃(V1:PN)(n:Nat),Vals xs V1/\s.heap.get? p=some {cls:=.type "list",data:=.seq V1.toArray n}/\xs.length<=S8:=by
 obtain⟨z,V1,n,r,e⟩:=I.V4 p _ h;exact⟨V1,n,r,e,z⟩
theorem Inv.JU {p:Addr}{xs ys:List V}{its':PN}{n':Nat}{f:Obj->Obj}(I:Inv X VZ σ H s)(h:H p=some (.lst xs))(ho:s.heap.get? p=some {cls:=.type "list",data:=.seq V1.toArray n})(hf:f {cls:=.type "list",data:=.seq V1.toArray n}={cls:=.type "list",data:=.seq its'.toArray n'})(r:Vals ys its')(hz:ys.length<=S8)(t:Nat):
 Inv X VZ σ (upd H p (.lst ys)) {s with heap:=s.heap.update p f,toks:=t}:=by
 have e:(s.heap.update p f).get? p=some {cls:=.type "list",data:=.seq its'.toArray n'}:=by
  rw[Va f ho (by rw[hf]<;>rfl),hf]
 refine I.write (x:=p) (e:=p) (by rw[h];trivial) (.inl rfl) (λb u hb q=>(Heap.get?_update_other _ _ (SN hb)).trans q) ⟨_,e⟩ ?_;exact⟨hz,its',n',r,e⟩
def Mf:V->V->V->Hp->(Hp->Prop)->Prop:=λo i v H Q=>∃p xs k j,o= .ref p/\i= .int k/\H p=some (.lst xs)/\ij xs.length k=some j/\Q (upd H p (.lst (xs.set j v)))
theorem set_list:Kq X Mf:=by
 intro VZ s σ H o i v ov iv u Q I ro ri rv h;obtain⟨p,xs,k,j,rfl,rfl,hp,hj,q⟩:=h;cases ro
 obtain⟨t,rfl⟩:=ri;obtain⟨V1,n,r,ho,hz⟩:=I.lst hp;obtain⟨h1,h2,h3,h4⟩:=x9 hj;have hl:=r.length;have hn:=kS;have I':Inv X VZ σ (upd H p (.lst (xs.set j v))) {s with heap:=s.heap.update p (Ve (·.setIfInBounds j u))}:=
  I.JU hp ho (y8 V1 n j u) (r.set rv j) (by rw[QV];exact hz) s.toks
 by_cases h0:0<=k
 ·have hk:k.toNat=j:=by
   rw[seqIndex_of h0 h4] at h1;exact Option.some.inj h1
  exact PySem.W.ki_setAt ho h0 (by omega) (by rw[Qx,← hl];exact h4) (by rw[hk];exact⟨_,I',q⟩)
 ·have hk:(k+(V1.toArray.size:Int)).toNat=j:=by
   rw[seqIndex_neg (by omega) h3] at h1;rw[Qx,← hl];exact Option.some.inj h1
  exact PySem.W.ki_setBack ho (by omega) (by rw[Qx,← hl];exact h3) (by omega) (by rw[hk];exact⟨_,I',q⟩)
theorem vH (lo hi:Option Int)(n:Nat):(T1 lo hi none n).1=((HT.Wd n 0 lo:Nat):Int)/\(T1 lo hi none n).2.1=((HT.Wd n n hi:Nat):Int)/\(T1 lo hi none n).2.2=1:=by
 refine⟨?_,?_,rfl⟩
 ·cases lo with
  | none=>simp[T1,HT.Wd]
  | some i=>
    simp only[T1,HT.Wd,Option.getD_none,show(1:Int)>0 by decide,if_true];by_cases h:i<0
    ·simp only[h,if_true]<;>omega
    ·simp only[h,if_false]<;>omega
 ·cases hi with
  | none=>simp[T1,HT.Wd]
  | some i=>
    simp only[T1,HT.Wd,Option.getD_none,show(1:Int)>0 by decide,if_true];by_cases h:i<0
    ·simp only[h,if_true]<;>omega
    ·simp only[h,if_false]<;>omega
theorem t8 (V1:PN)(lo hi:Option Int):slicePick V1.toArray lo hi none=((V1.drop (HT.Wd V1.length 0 lo)).take (HT.Wd V1.length V1.length hi-HT.Wd V1.length 0 lo)).toArray:=by
 obtain⟨h1,h2,h3⟩:=vH lo hi V1.toArray.size;unfold slicePick;rw[h1,h2,h3];simp only[sliceRange_one,pick_run,Qx]<;>rfl
def OI (K:Vr):V->Option Int->Option Int->Hp->VK->Prop:=λx lo hi H Q=>∃a xs,x= .ref a/\bt K H a xs/\∀p,H p=none->Q (.ref p) (upd H p (.lst (lL xs lo hi)))
theorem Gf:Au X (OI X.K):=by
 intro VZ s σ H x v vl vu lo hi sl Q I rx hs pl pu h;obtain⟨a,xs,rfl,hx,q⟩:=h;cases rx
 obtain⟨V1,r,ht,hz⟩:=I.list hx;have hlen:=r.length;refine⟨"list",_,slot_list_getitem.lookup,ht.isList.typeIs,?_⟩;refine wpAny_getItem_list_slice ht.isList hs pl pu .none (by simp) ?_ (by rw[Qx]<;>omega)
 rw[t8,← hlen];refine⟨.ref s.heap.objs.size,_,I.laid (t':=s.toks) (o:=.lst (lL xs lo hi)) (λb ob q=>U5 _ q) (Sg _) ?_,rfl,q _ (I.V4.fresh (Sg _))⟩;exact⟨Sh (o9 xs lo hi) hz,_,0,(r.drop (HT.Wd xs.length 0 lo)).take (HT.Wd xs.length xs.length hi-HT.Wd xs.length 0 lo),U7 _ rfl⟩
def jY:V->Bool
 | .Wb=>true
 | .bl _=>true
 | .int _=>true
 | .str _=>true
 | _=>false
def rB:V->V->Bool
 | .Wb,.Wb=>true
 | .bl a,.bl b=>a==b
 | .bl a,.int b=>(if a then 1 else 0)==b
 | .int a,.bl b=>a==(if b then 1 else 0)
 | .int a,.int b=>a==b
 | .str a,.str b=>a==b
 | _,_=>false
theorem IS (ry:RelV y u)(rx:RelV x v)(fy:jY y=true)(fx:jY x=true):SeqAt.EqAt A s u v (rB y x):=by
 cases y with
 | Wb=>
   cases ry
   cases x with
   | Wb=>cases rx;exact SeqAt.EqAt.same _
   | bl b=>cases rx;exact SeqAt.EqAt.none_bool b
   | int b=>obtain⟨t,rfl⟩:=rx;exact SeqAt.EqAt.none_int b t
   | str b=>obtain⟨t,rfl⟩:=rx;exact SeqAt.EqAt.none_str b t
   | _=>exact VO (show false=true from fx) PX
 | bl a=>
   cases ry
   cases x with
   | Wb=>cases rx;exact SeqAt.EqAt.bool_none a
   | bl b=>cases rx;exact SeqAt.EqAt.bool_bool a b
   | int b=>obtain⟨t,rfl⟩:=rx;exact SeqAt.EqAt.bool_int a b t
   | str b=>obtain⟨t,rfl⟩:=rx;exact SeqAt.EqAt.bool_str a b t
   | _=>exact VO (show false=true from fx) PX
 | int a=>
   obtain⟨t',rfl⟩:=ry;cases x with
   | Wb=>cases rx;exact SeqAt.EqAt.int_none a t'
   | bl b=>cases rx;exact SeqAt.EqAt.int_bool a t' b
   | int b=>obtain⟨t,rfl⟩:=rx;exact SeqAt.EqAt.int_int a t' b t
   | str b=>obtain⟨t,rfl⟩:=rx;exact SeqAt.EqAt.int_str a t' b t
   | _=>exact VO (show false=true from fx) PX
 | str a=>
   obtain⟨t',rfl⟩:=ry;cases x with
   | Wb=>cases rx;exact SeqAt.EqAt.str_none a t'
   | bl b=>cases rx;exact SeqAt.EqAt.str_bool a t' b
   | int b=>obtain⟨t,rfl⟩:=rx;exact SeqAt.EqAt.str_int a t' b t
   | str b=>obtain⟨t,rfl⟩:=rx;exact SeqAt.EqAt.str_str a t' b t
   | _=>exact VO (show false=true from fx) PX
 | _=>exact VO (show false=true from fy) PX
def kN (x:V)(u:Value):Bool:=match u with
 | .none=>rB .Wb x
 | .bool b=>rB (.bl b) x
 | .int i _=>rB (.int i) x
 | .str z _=>rB (.str z) x
 | _=>false
theorem Aa (r:RelV y u)(f:jY y=true):kN x u=rB y x:=by
 cases y with
 | Wb=>cases r;rfl
 | bl b=>cases r;rfl
 | int i=>obtain⟨t,rfl⟩:=r;rfl
 | str z=>obtain⟨t,rfl⟩:=r;rfl
 | _=>exact VO (show false=true from f) PX
theorem mv {x:V}:∀{xs:List V}{us:PN},Vals xs us->xs.all jY=true->us.any (kN x)=xs.any λy=>rB y x
 | _,_,.nil,_=>rfl
 | y::xs,u::us,.cons r t,f=>by
   rw[all_cons,PZ] at f;rw[RY,RY,Aa r f.1,mv t f.2]
theorem kJ {A:Te}{s:S7}{x:V}{v:Value}(rx:RelV x v)(fx:jY x=true):∀{xs:List V}{us:PN},Vals xs us->xs.all jY=true->∀u∈us,SeqAt.EqAt A s u v (kN x u)
 | _,_,.nil,_=>λu hu=>by cases hu
 | y::xs,u::us,.cons r t,f=>λu' hu=>by
   rw[all_cons,PZ] at f;rcases Qq.mp hu with rfl | hu
   ·rw[Aa r f.1];exact IS r rx f.1 fx
   ·exact kJ rx fx t f.2 u' hu
def Fh (x:V)(xs:List V):Bool:=xs.any λy=>rB y x
def Ot (K:Vr)(neg:Bool):R2:=λx y H Q=>∃p xs,y= .ref p/\(bt K H p xs∨dR K H p xs)/\jY x=true/\xs.all jY=true/\Q (.bl (if neg then !Fh x xs else Fh x xs)) H
theorem tQ:eJ X (Tj .In) (Ot X.K false):=by
 intro VZ s σ H x y v u Q I rx ry h;obtain⟨p,xs,rfl,hq,fx,fs,q⟩:=h;cases ry
 rcases hq with hq | hq
 ·obtain⟨V1,r,pl,hz⟩:=I.list hq;refine SeqAt.in_listAt (kN x) pl.isList (λw hw=>kJ rx fx r fs w (by simpa using hw)) ⟨.bl _,H,I,rfl,?_⟩;rw[show V1.toArray.any (kN x)=V1.any (kN x) by simp,mv r fs];exact q
 ·obtain⟨V1,r,pl,hz⟩:=I.tuple hq;refine SeqAt.in_tupleAt (kN x) pl (λw hw=>kJ rx fx r fs w (by simpa using hw)) ⟨.bl _,H,I,rfl,?_⟩;rw[show V1.toArray.any (kN x)=V1.any (kN x) by simp,mv r fs];exact q
theorem wF:eJ X (Tj .NotIn) (Ot X.K true):=by
 intro VZ s σ H x y v u Q I rx ry h;obtain⟨p,xs,rfl,hq,fx,fs,q⟩:=h;cases ry
 rcases hq with hq | hq
 ·obtain⟨V1,r,pl,hz⟩:=I.list hq;refine SeqAt.notIn_listAt (kN x) pl.isList (λw hw=>kJ rx fx r fs w (by simpa using hw)) ⟨.bl _,H,I,rfl,?_⟩;rw[show V1.toArray.any (kN x)=V1.any (kN x) by simp,mv r fs];exact q
 ·obtain⟨V1,r,pl,hz⟩:=I.tuple hq;refine SeqAt.notIn_tupleAt (kN x) pl (λw hw=>kJ rx fx r fs w (by simpa using hw)) ⟨.bl _,H,I,rfl,?_⟩;rw[show V1.toArray.any (kN x)=V1.any (kN x) by simp,mv r fs];exact q
theorem fH:gv X (.builtin "len") (λxs H Q=>∃p ys,xs=[.ref p]/\(bt X.K H p ys∨dR X.K H p ys)/\Q (.int ys.length) H):=by
 intro VZ s σ H xs us Q I r h;obtain⟨p,ys,rfl,hq,q⟩:=h;obtain⟨u,rfl,rx⟩:=vals1 r;cases rx
 have hn:=kS;rcases hq with hq | hq
 ·obtain⟨V1,r',pl,hz⟩:=I.list hq;have hlen:=r'.length;exact Calls.call_len_list pl.isList (by simp only[Qx]<;>omega) ⟨.int ys.length,H,I.tok _,⟨s.toks+1,by rw[Qx,hlen]⟩,q⟩
 ·obtain⟨V1,r',pl,hz⟩:=I.tuple hq;have hlen:=r'.length;exact len_tuple pl (by simp only[Qx]<;>omega) ⟨.int ys.length,H,I.tok _,⟨s.toks+1,by rw[Qx,hlen]⟩,q⟩
theorem xh:gv X (.builtin "len") (λxs H Q=>∃z,xs=[.str z]/\z.length<=S8/\Q (.int z.length) H):=by
 intro VZ s σ H xs us Q I r h;obtain⟨z,rfl,hz,q⟩:=h;obtain⟨u,rfl,t,rfl⟩:=vals1 r;have hn:=kS;exact len_str (by omega) ⟨.int z.length,H,I.tok _,⟨_,rfl⟩,q⟩
def Jf (K:Vr)(T:String)(x:V)(H:Hp):Prop:=match x with
 | .str _=>T="str"
 | .int _=>T="int"
 | .ref p=>(T="list"/\∃xs,bt K H p xs)∨(T="tuple"/\∃o,K.lookup p=some o/\o.cls= .type "tuple"/\o.dict=none)∨
  (T="dict"/\((∃kvs,H p=some (.dK kvs))∨∃kvs,H p=some (.dT kvs)))∨(T="set"/\∃S n,H p=some (.set S n))
 | _=>False
theorem Al (I:Inv X VZ σ H s)(r:RelV x v)(ty:Jf X.K T x H):
 s.TypeIs v T/\∀a,v= .ref a->∃ob,s.heap.get? a=some ob/\ob.dict=none:=by
 cases x with
 | str z=>
   obtain⟨t,rfl⟩:=r;cases (show T="str" from ty)
   exact⟨Ub s z t,λ_ e=>nomatch e⟩
 | int i=>
   obtain⟨t,rfl⟩:=r;cases (show T="int" from ty)
   exact⟨typeIs_int s i t,λ_ e=>nomatch e⟩
 | ref p=>
   cases r
   rcases ty with⟨rfl,xs,hq⟩ | ⟨rfl,o,hk,hc,hd⟩ | ⟨rfl,hk⟩ | ⟨rfl,S,n,hk⟩
   ·obtain⟨V1,_,pl,_⟩:=I.list hq;refine⟨pl.isList.typeIs,λa e=>?_⟩;cases e
    obtain⟨o,n,e,c,hd,_⟩:=pl;exact⟨o,e,hd⟩
   ·refine⟨⟨o,I.gb p o hk,hc⟩,λa e=>?_⟩;cases e
    exact⟨o,I.gb _ o hk,hd⟩
   ·have z:∃o,s.heap.get? p=some o/\o.ExactDict:=by
     rcases hk with⟨kvs,hk⟩ | ⟨kvs,hk⟩
     ·obtain⟨_,_,_,_,o,_,_,e,ex,_⟩:=I.V4 p _ hk;exact⟨o,e,ex⟩
     ·obtain⟨_,_,_,_,o,_,_,e,ex,_⟩:=I.V4 p _ hk;exact⟨o,e,ex⟩
    obtain⟨o,e,ex⟩:=z;refine⟨⟨o,e,ex.1⟩,λa e2=>?_⟩;cases e2
    exact⟨o,e,ex.2.1⟩
   ·obtain⟨o,_,_,_,e,ex,_⟩:=I.V4 p _ hk;refine⟨⟨o,e,ex.1⟩,λa e2=>?_⟩;cases e2
    exact⟨o,e,ex.2.1⟩
 | _=>exact P4 ty
def OB (K:Vr)(T:String)(r:V->List V->Hp->VK->Prop)(to:TE):TE:=λσ H Q=>to σ H λx H1=>Jf K T x H1/\r x [] H1 Q
def tBM (K:Vr)(T:String)(r:V->List V->Hp->VK->Prop)(to:TE)(t:TA):TE:=λσ H Q=>to σ H λx H1=>Jf K T x H1/\t σ H1 λxs H2=>r x xs H2 Q
variable {o:Expr}{es:PQ}{to:TE}{t:TA}{name:Str}{apos WV:Pos}{id:String}{r:V->List V->Hp->VK->Prop}
theorem xc (pa:PlainAttrs T)(slot:Slot T name id)(hty:typeOf (.builtin id)=pure (.type "method_descriptor"))(hm:xV X id r)(ho:PE X o to)(V7:fD X o name:=by rfl)(V6:(apos.endLine==WV.line)=true:=by rfl):PE X (.Call (.Attribute o name apos) [] [] WV) (OB X.K T r to):=by
 intro VZ s σ H Q I h;refine wpAny_Call_method0_late V7 V6 (aX (ho VZ s σ H _ I h) λv s1 ⟨x,H1,I1,r1,ty,q1⟩=>?_);obtain⟨h1,h2⟩:=Al I1 r1 ty;exact⟨T,id,pa,slot,hty,h1,h2,US rfl (PySem.evalArgs_none (hm VZ s1 σ H1 x [] v [] Q I1 r1 .nil q1))⟩
theorem iY (pa:PlainAttrs T)(slot:Slot T name id)(hty:typeOf (.builtin id)=pure (.type "method_descriptor"))(hm:xV X id r)(ho:PE X o to)(ha:PA X (e::es) t)(V7:fD X o name:=by rfl)(Wj:nF X WV (e::es):=by rfl)(V6:(apos.endLine==WV.line)=true:=by rfl)(hs:du X e es:=by rfl)(Zn:fm X WV es:=by rfl):
 PE X (.Call (.Attribute o name apos) (e::es) [] WV) (tBM X.K T r to t):=by
 intro VZ s σ H Q I h;refine wpAny_Call_method_late V7 Wj V6 rfl (aX (ho VZ s σ H _ I h) λv s1 ⟨x,H1,I1,r1,ty,q1⟩=>?_);obtain⟨h1,h2⟩:=Al I1 r1 ty;refine⟨T,id,pa,slot,hty,h1,h2,?_⟩;have hA:=ha WV VZ s1 σ H1 _ I1 q1;rw[hs] at hA ⊢;refine US (by show(false ||(Ui WV (Td es X.env)).any (·.1))=false;rw[Zn]<;>rfl) (Calls.evalArgs_plain ?_)
 exact aX hA λus s2 ⟨vs,H2,I2,r2,q2⟩=>hm VZ s2 σ H2 x vs v us Q I2 r1 r2 q2
end
def AK (X:Cx)(id:String)(r:V->List V->Hp->VK->Prop):Prop:=
 ∀(VZ:PD)(s:S7)(σ:St)(H:Hp)(x:V)(xs:List V)(v:Value)(us:PN)(Q:VK),Inv X VZ σ H s->RelV x v->Vals xs us->r x xs H Q->
  wpAny (model X.prog X.w) X.A (call (.builtin id) (v::us)) (EP X VZ σ Q) X.xe s
theorem Vals.one:∀{x:V}{us:PN},Vals [x] us->∃u,us=[u]/\RelV x u
 | _,_,.cons r .nil=>⟨_,rfl,r⟩
theorem Vals.zero:∀{us:PN},Vals [] us->us=[]
 | _,.nil=>rfl
theorem Vals.dropLast {xs:List V}{us:PN}(h:Vals xs us):Vals xs.dropLast us.dropLast:=by
 induction h with
 | nil=>exact .nil
 | cons r t ih=>
   cases t with
   | nil=>exact .nil
   | cons q t'=>exact .cons r ih
theorem zr (l:List α):l.eraseIdx (l.length-1)=l.dropLast:=by
 induction l with
 | nil=>rfl
 | cons a r ih=>
   cases r with
   | nil=>rfl
   | cons b r=>
     have e:(a::b::r).length-1=((b::r).length-1)+1:=by
      have h1:(a::b::r).length=r.length+2:=rfl;have h2:(b::r).length=r.length+1:=rfl;omega
     rw[e,List.eraseIdx_cons_succ,ih]
     all_goals rfl
variable {t':Nat}
section
variable {l b:Addr}{xs ys zs:List V}
theorem Inv.uP {its':PN}{f:Array Value->Array Value}(I:Inv X VZ σ H s)(hH:H l=some (.lst xs))(e:s.heap.get? l=some {cls:=.type "list",data:=.seq V1.toArray n})(hf:f V1.toArray=its'.toArray)(hv:Vals ys its')(hz:ys.length<=S8):
 Inv X VZ σ (upd H l (.lst ys)) {s with heap:=s.heap.update l (Ve f),toks:=t'}:=by
 have q:=PySem.IsL.update e f;rw[hf] at q;refine I.write (x:=l) (e:=l) (by rw[hH];exact trivial) (.inl rfl) (λb' u hb hu=>(Heap.get?_update_other s.heap (Ve f) (SN hb)).trans hu) ⟨_,q⟩ ?_;exact⟨hz,its',_,hv,q⟩
theorem Inv.OD (I:Inv X VZ σ H s)(hv:Vals ys V1)(hz:ys.length<=S8):
 Inv X VZ σ (upd H s.heap.objs.size (.lst ys)) {s with heap:=s.heap.push {cls:=.type "list",data:=.seq V1.toArray},toks:=t'}:=
 I.laid (λ_ _ q=>U5 _ q) (Sg _) ⟨hz,V1,0,hv,U7 _ rfl⟩
theorem Inv.fresh (I:Inv X VZ σ H s):H s.heap.objs.size=none:=I.V4.fresh (Sg _)
theorem Inv.lT (I:Inv X VZ σ H s)(hH:H l=some (.lst xs)):xs.length<=S8/\∃(V1:PN)(n:Nat),Vals xs V1/\xs.length=V1.length/\s.heap.get? l=some {cls:=.type "list",data:=.seq V1.toArray n}:=by
 obtain⟨z,V1,n,r,e⟩:=I.V4 l _ hH;exact⟨z,V1,n,r,r.length,e⟩
theorem DH (h:n<=S8):UK n=false:=by
 unfold UK;exact VU (by omega)
end
def FK:V->List V->Hp->VK->Prop:=λx vs H Q=>∃l xs y,x= .ref l/\vs=[y]/\H l=some (.lst xs)/\xs.length<S8/\Q .Wb (upd H l (.lst (xs++[y])))
theorem jG:AK X "list.append" FK:=by
 intro VZ s σ H x vs v us Q I rx rv h;obtain⟨l,xs,y,rfl,rfl,hH,hz,q⟩:=h;cases rx
 obtain⟨u,rfl,ru⟩:=rv.one;obtain⟨z,V1,n,r,hl,e⟩:=I.lT hH;refine TR F.slot_list_append ⟨_,e,rfl⟩ F.entry_list_append (F.args_list_append_2 _ _) (PySem.list_append l V1.toArray n u (by rw[Qx];omega)) ⟨e,?_⟩;refine⟨.Wb,_,I.uP (its':=V1++[u]) hH e (by simp) (r.append (.cons ru .nil)) ?_,rfl,q⟩;rw[Qj,QG];omega
def F8:V->List V->Hp->VK->Prop:=λx vs H Q=>∃l b xs zs,x= .ref l/\vs=[.ref b]/\H l=some (.lst xs)/\H b=some (.lst zs)/\xs.length+zs.length<=S8/\Q .Wb (upd H l (.lst (xs++zs)))
theorem Bv:AK X "list.extend" F8:=by
 intro VZ s σ H x vs v us Q I rx rv h;obtain⟨l,b,xs,zs,rfl,rfl,hH,hB,hz,q⟩:=h;cases rx
 obtain⟨u,rfl,ru⟩:=rv.one;cases ru
 obtain⟨z,V1,n,r,hl,e⟩:=I.lT hH;obtain⟨z2,XJ,n2,r2,YF,e2⟩:=I.lT hB;have hsz:V1.toArray.size+XJ.toArray.size<=S8:=by rw[Qx,Qx];omega
 have hlong:¬(!V1.toArray.isEmpty&&UK (V1.toArray.size+XJ.toArray.size))=true:=by
  rw[DH hsz,Bool.and_false];exact PX
 refine TR F.slot_list_extend ⟨_,e,rfl⟩ F.entry_list_extend (F.args_list_extend_2 _ _)
  (AutoSeq1.list_extend_list_list_0 l V1.toArray n b XJ.toArray n2 hlong (by rw[Qx];omega) (by omega)) ⟨e,e2,?_⟩
 refine⟨.Wb,_,I.uP (its':=V1++XJ) hH e (by simp) (r.append r2) ?_,rfl,q⟩;rw[Qj];omega
def O9:V->List V->Hp->VK->Prop:=λx vs H Q=>∃l xs y,x= .ref l/\vs=[]/\H l=some (.lst xs)/\xs[xs.length-1]?=some y/\Q y (upd H l (.lst xs.dropLast))
theorem IG:AK X "list.pop" O9:=by
 intro VZ s σ H x vs v us Q I rx rv h;obtain⟨l,xs,y,rfl,rfl,hH,hy,q⟩:=h;cases rx
 have hus:=rv.zero;subst hus;obtain⟨z,V1,n,r,hl,e⟩:=I.lT hH;obtain⟨u,hu,ru⟩:=r.get hy;have hy':V1.toArray[V1.toArray.size-1]?=some u:=by
  show V1.toArray[V1.length-1]?=some u;rw[← Array.getElem?_toList,← hl];exact hu
 refine TR F.slot_list_pop ⟨_,e,rfl⟩ F.entry_list_pop (F.args_list_pop_1 _) (MeetsSeq.list_pop_last l V1.toArray n u hy' (by rw[Qx];omega)) ⟨e,?_⟩;refine⟨y,_,I.uP (its':=V1.dropLast) hH e ?_ r.dropLast ?_,ru,q⟩
 ·show V1.toArray.eraseIdxIfInBounds (V1.toArray.size-1)=V1.dropLast.toArray;rw[Qx,List.eraseIdxIfInBounds_toArray,zr]
 ·rw[RH];omega
def Pw:R2:=λx y H Q=>∃l b xs zs,x= .ref l/\y= .ref b/\H l=some (.lst xs)/\H b=some (.lst zs)/\xs.length+zs.length<=S8/\∀p,H p=none->Q (.ref p) (upd H p (.lst (xs++zs)))
theorem IQ:eJ X (TL .Add) Pw:=by
 intro VZ s σ H x y v u Q I rx ry h;obtain⟨l,b,xs,zs,rfl,rfl,hH,hB,hz,q⟩:=h;cases rx
 cases ry
 obtain⟨z,V1,n,r,hl,e⟩:=I.lT hH;obtain⟨z2,XJ,n2,r2,YF,e2⟩:=I.lT hB;refine PySem.P.add_list e e2 ?_ (by rw[Qx,Qx];omega);have ea:V1.toArray++XJ.toArray=(V1++XJ).toArray:=by simp
 rw[ea];exact⟨.ref _,_,I.OD (t':=s.toks) (r.append r2) (by rw[Qj];omega),rfl,q _ I.fresh⟩
variable {prog:Tb}{w:World}{E:Value->S7->Prop}
variable {o:Option V}
section
variable {κ:Type} [DecidableEq κ]
variable {kvs:List (κ×V)}{vs:List (κ×Value)}
def dc (kvs:List (κ×V))(k:κ):Option V:=(kvs.find? λkv=>decide (kv.1=k)).map (·.2)
def putK (kvs:List (κ×V))(k:κ)(v:V):List (κ×V):=
 if(kvs.any λkv=>decide (kv.1=k))=true then kvs.map (λkv=>if kv.1=k then(kv.1,v) else kv) else kvs++[(k,v)]
theorem dQ {p:κ×V}{r:List (κ×V)}{k:κ}(e:p.1=k):dc (p::r) k=some p.2:=by simp[dc,Rh,e]
theorem dz {p:κ×V}{r:List (κ×V)}{k:κ}(e:¬p.1=k):dc (p::r) k=dc r k:=by simp[dc,Rh,e]
theorem ia (k:κ):∀kvs:List (κ×V),(kvs.any λkv=>decide (kv.1=k))=(dc kvs k).isSome
 | []=>rfl
 | p::r=>by
   rw[RY];by_cases e:p.1=k
   ·simp only[dQ e,VT e,Bool.true_or,Option.isSome_some]
   ·rw[dz e,VU e,Bool.false_or];exact ia k r
theorem vR (k j:κ)(y:V):∀kvs:List (κ×V),dc (kvs.map λkv=>if kv.1=k then(kv.1,y) else kv) j=(dc kvs j).map λx=>if j=k then y else x
 | []=>rfl
 | p::r=>by
   have ih:=vR k j y r;rw[QJ];by_cases h:p.1=k
   ·rw[VQ h];by_cases e:p.1=j
    ·rw[dQ (p:=(p.1,y)) e,dQ e,SR,VQ (e.symm.trans h)]
    ·rw[dz (p:=(p.1,y)) e,dz e,ih]
   ·rw[VP h];by_cases e:p.1=j
    ·rw[dQ (p:=p) e,dQ e,SR,VP (λz=>h (e.trans z))]
    ·rw[dz (p:=p) e,dz e,ih]
theorem tV (k j:κ)(y:V):∀kvs:List (κ×V),dc kvs k=none->dc (kvs++[(k,y)]) j=if j=k then some y else dc kvs j
 | [],_=>by
   by_cases e:k=j
   ·rw[VQ e.symm];exact dQ (p:=(k,y)) e
   ·rw[VP (λz=>e z.symm)];exact dz (p:=(k,y)) e
 | p::r,hn=>by
   rw[Q7];have hk:¬p.1=k:=λz=>by rw[dQ z] at hn;cases hn
   rw[dz hk] at hn;have ih:=tV k j y r hn;by_cases e:p.1=j
   ·rw[dQ e,dQ e,VP (λz=>hk (e.trans z))]
   ·rw[dz e,dz e,ih]
theorem DL (kvs:List (κ×V))(k j:κ)(y:V):dc (putK kvs k y) j=if j=k then some y else dc kvs j:=by
 unfold putK;by_cases a:(kvs.any λkv=>decide (kv.1=k))=true
 ·rw[VQ a,vR];rw[ia] at a;by_cases e:j=k
  ·obtain⟨x,hx⟩:=Option.isSome_iff_exists.mp a;rw[VQ e,e,hx,SR,VQ rfl]
  ·rw[VP e];cases dc kvs j with
   | none=>rfl
   | some x=>rw[SR,VP e]
 ·rw[VP a];refine tV k j y kvs ?_;rw[ia] at a;cases q:dc kvs k with
  | none=>rfl
  | some x=>rw[q] at a;exact(a rfl).elim
theorem lO (kvs:List (κ×V))(k:κ)(v:V):(putK kvs k v).length<=kvs.length+1:=by
 unfold putK;split
 ·rw[Qg];omega
 ·rw[Qj,Qo,QD];omega
theorem pK {k:κ}(v:V)(h:dc kvs k=none):putK kvs k v=kvs++[(k,v)]:=by
 unfold putK;rw[ia,h];exact VP (by decide)
theorem ja.jD {u:PK}(r:ja o u):o.isSome=u.isSome:=by
 cases o with
 | none=>cases u with
   | none=>rfl
   | some _=>exact(show False from r).elim
 | some _=>cases u with
   | none=>exact(show False from r).elim
   | some _=>rfl
theorem KV.val (r:KV kvs vs)(k:κ):ja (dc kvs k) (Tw vs k):=by
 unfold KV at r
 induction r with
 | nil=>exact VN
 | @cons p q ps qs h t ih=>
   obtain⟨h1,h2⟩:=h;by_cases e:p.1=k
   ·have e':q.1=k:=h1.symm.trans e;have b:Tw (q::qs) k=some q.2:=by simp[Tw,Rh,e']
    rw[dQ e,b];exact h2
   ·have e':¬q.1=k:=λz=>e (h1.trans z);have b:Tw (q::qs) k=Tw qs k:=by simp[Tw,Rh,e']
    rw[dz e,b];exact ih
theorem KV.any (r:KV kvs vs)(k:κ):(kvs.any λkv=>decide (kv.1=k))=vs.any λkv=>decide (kv.1=k):=by
 unfold KV at r
 induction r with
 | nil=>rfl
 | cons h t ih=>rw[RY,RY,ih,h.1]
theorem KV.Yc (r:KV kvs vs)(k:κ)(ry:RelV y u):
 KV (kvs.map λkv=>if kv.1=k then(kv.1,y) else kv) (vs.map λkv=>if kv.1=k then(kv.1,u) else kv):=by
 unfold KV at r ⊢
 induction r with
 | nil=>exact .nil
 | @cons p q ps qs h t ih=>
   rw[QJ,QJ];refine .cons ?_ ih;obtain⟨h1,h2⟩:=h;by_cases e:p.1=k
   ·rw[VQ e,VQ (h1.symm.trans e)];exact⟨h1,ry⟩
   ·rw[VP e,VP (λz=>e (h1.trans z))];exact⟨h1,h2⟩
theorem KV.put (r:KV kvs vs)(k:κ)(ry:RelV y u):KV (putK kvs k y) (UA vs k u):=by
 unfold putK UA;rw[r.any k];by_cases e:(vs.any λkv=>decide (kv.1=k))=true
 ·rw[VQ e,VQ e];exact r.Yc k ry
 ·rw[VP e,VP e];exact Paired.snoc r ⟨rfl,ry⟩
theorem KV.length (r:KV kvs vs):kvs.length=vs.length:=Paired.length r
end
variable {P:Tb}{H':Hp}
section
variable {kvs:List (List Key×V)}{xs:List (List Key×Addr×Value)}
theorem jU {k:Key}(r:RelV (kV k) u):(cv P w).is k u=true:=by
 cases k with
 | inl i=>obtain⟨t,e⟩:=(show∃t,u=Vm i t from r);subst e;exact xp P w i t
 | inr x=>obtain⟨t,e⟩:=(show∃t,u=Vn x t from r);subst e;exact dW P w x t
theorem tG {P:Tb}{w:World}:∀{ks:List Key}{us:PN},Vals (ks.map kV) us->ItemsAre (cv P w) ks us
 | [],_,r=>by rw[RL] at r;cases r;exact .nil
 | k::ks,_,r=>by
   rw[QJ] at r;cases r with
   | cons h t=>exact .cons (jU h) (tG t)
abbrev KT (H:Hp):List (List Key×V)->List (List Key×Addr×Value)->Prop:=Paired λp q=>p.1=q.1/\H q.2.1=some (.tup (p.1.map kV))/\RelV p.2 q.2.2
theorem KT.val (r:KT H kvs xs)(k:List Key):ja (dc kvs k) ((atKey xs k).map (·.2)):=by
 induction r with
 | nil=>exact VN
 | @cons p q ps qs h t ih=>
   obtain⟨h1,_,h2⟩:=h;by_cases e:p.1=k
   ·have e':q.1=k:=h1.symm.trans e;have b:atKey (q::qs) k=some q.2:=by simp[atKey,Rh,e']
    rw[dQ e,b];exact h2
   ·have e':¬q.1=k:=λz=>e (h1.trans z);have b:atKey (q::qs) k=atKey qs k:=by simp[atKey,Rh,e']
    rw[dz e,b];exact ih
theorem KT.Yc (r:KT H kvs xs)(k:List Key)(ry:RelV y u):
 KT H (kvs.map λkv=>if kv.1=k then(kv.1,y) else kv) (xs.map (putAt k u)):=by
 induction r with
 | nil=>exact .nil
 | @cons p q ps qs h t ih=>
   rw[QJ,QJ];refine .cons ?_ ih;obtain⟨h1,h2,h3⟩:=h;unfold putAt;by_cases e:p.1=k
   ·rw[VQ e,VQ (h1.symm.trans e)];exact⟨h1,h2,ry⟩
   ·rw[VP e,VP (λz=>e (h1.trans z))];exact⟨h1,h2,h3⟩
theorem KT.put (r:KT H kvs xs)(k:List Key){b:Addr}(hb:H b=some (.tup (k.map kV)))(ry:RelV y u):
 KT H (putK kvs k y) (storedH xs k b u):=by
 have e:(kvs.any λkv=>decide (kv.1=k))=(atKey xs k).isSome:=by
  rw[ia,(r.val k).jD,SS]
 unfold putK storedH;rw[e];by_cases q:(atKey xs k).isSome=true
 ·rw[VQ q,VQ q];exact r.Yc k ry
 ·rw[VP q,VP q];exact Paired.snoc r ⟨rfl,hb,ry⟩
theorem KT.keeps (r:KT H kvs xs)(ht:∀b ys,H b=some (.tup ys)->H' b=some (.tup ys)):KT H' kvs xs:=
 Paired.CZ r λ_ _ z=>⟨z.1,ht _ _ z.2.1,z.2.2⟩
end
variable {kvs:List (Key×V)}{a:Addr}
section
variable {h:Heap}
theorem E8 {u:HO}(ok:eU P w H h)(e:Rd H a u):cZ P w H h a u:=e.ok ok
theorem oN (ok:eU P w H h)(e:Rd H a (.dK kvs)):kvs.length<=S8/\(a==Tq)=false/\∃vs,KV kvs vs/\h.DictOf (cv P w) a vs:=
 show cZ P w H h a (.dK kvs) from E8 ok e
theorem zR (ok:eU P w H h)(e:H a=some (.dK kvs)):kvs.length<=S8/\(a==Tq)=false/\∃vs,KV kvs vs/\h.DictOf (cv P w) a vs:=oN ok (.inl e)
theorem nH {ks:List Key}(ok:eU P w H h)(e:H a=some (.tup (ks.map kV))):(Us (cv P w)).is h ks a:=by
 obtain⟨_,V1,r,o,h1,h2,n,h3⟩:=(show cZ P w H h a (.tup (ks.map kV)) from ok a _ e);exact⟨o,V1.toArray,n,h1,h2,h3,by simpa using tG r⟩
theorem qH {kvs:List (List Key×V)}(ok:eU P w H h)(e:Rd H a (.dT kvs)):kvs.length<=S8/\(a==Tq)=false/\
 ∃xs,KT H kvs xs/\h.DictOfH (Us (cv P w)) a xs:=by
 obtain⟨z,y,xs,r,o,es,ep,h1,h2,h3,h4,h5⟩:=(show cZ P w H h a (.dT kvs) from E8 ok e);refine⟨z,y,xs,r,o,es,ep,h1,h2,h3,h4,λx hx=>?_,h5⟩;have all:∀{l:List (List Key×V)}{m:List (List Key×Addr×Value)},KT H l m->∀x∈m,(Us (cv P w)).is h x.1 x.2.1:=by
  intro l m q
  induction q with
  | nil=>intro x hx;exact nomatch hx
  | @cons p q ps qs hq t ih=>
    intro x hx;rcases Qq.mp hx with e | hx
    ·subst e;exact nH ok (by rw[← hq.1];exact hq.2.1)
    ·exact ih x hx
 exact all r x hx
theorem K6 {kvs:List (List Key×V)}(ok:eU P w H h)(e:H a=some (.dT kvs)):kvs.length<=S8/\(a==Tq)=false/\
 ∃xs,KT H kvs xs/\h.DictOfH (Us (cv P w)) a xs:=qH ok (.inl e)
end
def g8 (H:Hp)(a:Addr)(y:V)(r:Option V):Prop:=
 (∃kvs k,Rd H a (.dK kvs)/\y=kV k/\r=dc kvs k)∨∃kvs k b,Rd H a (.dT kvs)/\y= .ref b/\H b=some (.tup (k.map kV))/\r=dc kvs k
def pW (H:Hp)(a:Addr)(y v:V)(H':Hp):Prop:=
 (∃kvs k,H a=some (.dK kvs)/\y=kV k/\kvs.length<S8/\H'=upd H a (.dK (putK kvs k v)))∨
 ∃kvs k b,H a=some (.dT kvs)/\y= .ref b/\H b=some (.tup (k.map kV))/\kvs.length<S8/\H'=upd H a (.dT (putK kvs k v))
theorem g8.k {H:Hp}{a:Addr}{kvs:List (Key×V)}{k:Key}(e:H a=some (.dK kvs)):g8 H a (kV k) (dc kvs k):=.inl ⟨kvs,k,.inl e,rfl,rfl⟩
theorem pW.k {H:Hp}{a:Addr}{kvs:List (Key×V)}{k:Key}{v:V}(e:H a=some (.dK kvs))(hl:kvs.length<S8):pW H a (kV k) v (upd H a (.dK (putK kvs k v))):=.inl ⟨kvs,k,e,rfl,hl,rfl⟩
variable {Q:Value->S7->Prop}{h':Heap}
section
variable {v:V}{r:Value}
theorem Inv.big (I:Inv X VZ σ H s):Tq<s.heap.objs.size:=by
 have h:Ta<s.heap.objs.size:=(I.mod.glob.keeps I.bk).lt;exact Nat.lt_trans (by decide) h
theorem BO (hu:A.units+1<cLine)(I:Inv X VZ σ H s)(g:g8 H a y (some v))(ry:RelV y u)(h:∀w' s',Inv X VZ σ H s'->RelV v w'->Q w' s'):
 wpAny (model X.prog X.w) A (T5 (.ref a) u) Q E s:=by
 rcases g with⟨kvs,k,e,ey,l⟩ | ⟨kvs,k,b,e,ey,eb,l⟩
 ·subst ey;obtain⟨z,hd,vs,rel,dd⟩:=oN I.V4 e;obtain⟨w',hw,Yw⟩:=ja.some_of (v:=v) (o:=Tw vs k) (by rw[l];exact rel.val k);exact wpAny_getItem_of (jU ry) dd.mapOf hw (h w' _ (I.tok _) Yw)
 ·subst ey;cases (show u=Vk b from ry)
  obtain⟨z,hd,xs,rel,dd⟩:=qH I.V4 e;obtain⟨w',hw,Yw⟩:=ja.some_of (v:=v) (o:=(atKey xs k).map (·.2)) (by rw[l];exact rel.val k);obtain⟨p,hp,hp2⟩:=SO.mp hw;refine wpAny_getItem_heap (T4 hu) (nH I.V4 eb) dd hp ?_;rw[hp2];exact h w' _ (I.tok _) Yw
theorem Pp (hu:A.units+1<cLine)(I:Inv X VZ σ H s)(g:g8 H a y o)(ry:RelV y u)(h:∀s',Inv X VZ σ H s'->Q (.bool o.isSome) s'):
 wpAny (model X.prog X.w) A (Tj .In u (.ref a)) Q E s:=by
 rcases g with⟨kvs,k,e,ey,l⟩ | ⟨kvs,k,b,e,ey,eb,l⟩
 ·subst ey;obtain⟨z,hd,vs,rel,dd⟩:=oN I.V4 e;refine wpAny_in_of (jU ry) hd dd.mapOf ?_;rw[← (rel.val k).jD,← l];exact h _ (I.tok _)
 ·subst ey;cases (show u=Vk b from ry)
  obtain⟨z,hd,xs,rel,dd⟩:=qH I.V4 e;refine wpAny_in_heap (T4 hu) (nH I.V4 eb) hd dd ?_;have q:=(rel.val k).jD;rw[SS] at q;rw[← q,← l];exact h _ (I.tok _)
theorem FN (hu:A.units+1<cLine)(I:Inv X VZ σ H s)(g:g8 H a y o)(ry:RelV y u)(h:∀s',Inv X VZ σ H s'->Q (.bool (!o.isSome)) s'):
 wpAny (model X.prog X.w) A (Tj .NotIn u (.ref a)) Q E s:=by
 rcases g with⟨kvs,k,e,ey,l⟩ | ⟨kvs,k,b,e,ey,eb,l⟩
 ·subst ey;obtain⟨z,hd,vs,rel,dd⟩:=oN I.V4 e;refine wpAny_notIn_of (jU ry) hd dd.mapOf ?_;rw[← (rel.val k).jD,← l];exact h _ (I.tok _)
 ·subst ey;cases (show u=Vk b from ry)
  obtain⟨z,hd,xs,rel,dd⟩:=qH I.V4 e;refine wpAny_notIn_heap (T4 hu) (nH I.V4 eb) hd dd ?_;have q:=(rel.val k).jD;rw[SS] at q;rw[← q,← l];exact h _ (I.tok _)
theorem oF {ob:HO}(I:Inv X VZ σ H s)(mu:B6 (H a))(hs:U9 a s.heap h')(he:∃q,h'.get? a=some q)(new:cZ X.prog X.w (upd H a ob) h' a ob):
 Inv X VZ σ (upd H a ob) {s with heap:=h',toks:=t'}:=
 I.write (x:=a) (e:=a) mu (.inl rfl) (λb q hb z=>(hs.2 b hb).trans z) he new
theorem uQ {vs:List (Key×Value)}(z:kvs.length<=S8)(hd:(a==Tq)=false)(rel:KV kvs vs)(dd:h'.DictOf (cv P w) a vs):
 cZ P w H' h' a (.dK kvs):=⟨z,hd,vs,rel,dd⟩
theorem A1 {Q:Unit->S7->Prop}(hu:A.units+1<cLine)(I:Inv X VZ σ H s)(g:pW H a y v H')(ry:RelV y u)(rv:RelV v r)(h:∀s',Inv X VZ σ H' s'->Q () s'):
 wpAny (model X.prog X.w) A (setItem (.ref a) u r) Q E s:=by
 rcases g with⟨kvs,k,e,ey,l,eH⟩ | ⟨kvs,k,b,e,ey,eb,l,eH⟩
 ·subst ey eH;obtain⟨z,hd,vs,rel,dd⟩:=zR I.V4 e;have hz:vs.length<=S8:=by rw[← rel.length];exact z
  have hl:(putK kvs k v).length<=S8:=by have:=lO kvs k v;omega
  refine wpAny_setItem_pairs (hsz:=hz) (jU ry) dd λh' Ys hs=>h _ ?_;have he:∃q,h'.get? a=some q:=let ⟨q,_,_,hq,_⟩:=Ys;⟨q,hq⟩;exact oF I (by rw[e];exact VN) hs he (uQ hl hd (rel.put k rv) Ys)
 ·subst ey eH;cases (show u=Vk b from ry)
  obtain⟨z,hd,xs,rel,dd⟩:=K6 I.V4 e;have hz:xs.length<=S8:=by rw[← Paired.length rel];exact z
  have hl:(putK kvs k v).length<=S8:=by have:=lO kvs k v;omega
  refine wpAny_setItem_heap (hsz:=hz) (T4 hu) (nH I.V4 eb) dd λh' Ys hs=>h _ ?_;obtain⟨q,es,ep,hq,h2,h3,h4,_,h5⟩:=Ys;refine oF I (by rw[e];exact VN) hs ⟨q,hq⟩ ⟨hl,hd,_,(rel.put k eb rv).keeps λc ys ec=>?_,q,es,ep,hq,h2,h3,h4,h5⟩;rw[aD (LP ec e (λz=>nomatch z))];exact ec
end
section
variable {k:Key}
theorem Ln (I:Inv X VZ σ H s)(e:Rd H a (.dK kvs))(h:∀t s',Inv X VZ σ H s'->Q (.int kvs.length t) s'):wpAny (model X.prog X.w) A (call (.builtin "len") [.ref a]) Q E s:=by
 obtain⟨z,hd,vs,rel,dd⟩:=oN I.V4 e;refine call_len_dict hd dd (by rw[← rel.length];rw[Uh] at z;omega) ?_;rw[← rel.length];exact h _ _ (I.tok _)
end
def DA (i:Expr):Prop:=∀ov iv,Uw i false ov iv=operate [ov,iv] (T5 ov iv)
theorem GC {env:Env}{value slice:Expr}{id:String}(hl:typeLookup (.type T) "__getitem__"=pure (some (.builtin id)))(hs:DA slice)(h:wpAny (model prog w) A (eval value env) (λo s₁=>wpAny (model prog w) A (eval slice env) (λi s₂=>s₂.TypeIs o T/\wpAny (model prog w) A (T5 o i) Q E s₂) E s₁) E s):
 wpAny (model prog w) A (eval (.Subscript value slice pos) env) Q E s:=by
 refine Subscript_ (Tp h (λo s₁ h₁=>Tp h₁ (λi s₂ h₂=>?_) λ_ _ x=>x) λ_ _ x=>x);obtain⟨hT,h₂⟩:=h₂;unfold S6;refine S9 ?_;rw[getitemInPython_of_ne hT.not_modules];refine S9 (wpAny_specialOf hT hl ?_);have fin:wpAny (model prog w) A (Uw slice false o i) (λr s₃=>wpAny (model prog w) A (letTemporaryGo value o r >>=λ_=>pure r) Q E s₃) E s₂:=by
  rw[hs o i];exact wpAny_operating (Tp h₂ (λr s₃ h₃=>S9 (wpAny_letTemporaryGo (Tc h₃))) λ_ _ x=>x)
 first
  | exact Tc (S9 fin)
  | exact S9 (Tc (S9 fin))
  | exact S9 fin
theorem xk (I:Inv X VZ σ H s)(g:g8 H a y o):s.TypeIs (.ref a) "dict":=by
 rcases g with⟨kvs,k,e,_,_⟩ | ⟨kvs,k,b,e,_,_,_⟩
 ·obtain⟨_,_,vs,_,dd⟩:=oN I.V4 e;exact dd.typeIs
 ·obtain⟨_,_,xs,_,dd⟩:=qH I.V4 e;exact dd.typeIs
def LB (td ty:TE):TE:=λσ H Q=>td σ H λx H1=>ty σ H1 λy H2=>∃a v,x= .ref a/\g8 H2 a y (some v)/\Q v H2
def OX (ty td:TE):TE:=λσ H Q=>ty σ H λy H1=>td σ H1 λx H2=>∃a o,x= .ref a/\g8 H2 a y o/\Q (.bl o.isSome) H2
def FW (ty td:TE):TE:=λσ H Q=>ty σ H λy H1=>td σ H1 λx H2=>∃a o,x= .ref a/\g8 H2 a y o/\Q (.bl (!o.isSome)) H2
def MQ (td ty tv:TE):TS:=λD σ H=>tv σ H λv H1=>td σ H1 λx H2=>ty σ H2 λy H3=>∃a H4,x= .ref a/\pW H3 a y v H4/\D.nx σ H4
section
variable {o i value:Expr}{pos' tpos:Pos}{td ty tv:TE}
theorem Ho (hu:X.A.units+1<cLine)(ho:PE X o td)(hi:PE X i ty)(hs:DA i):PE X (.Subscript o i pos) (LB td ty):=by
 intro VZ s σ H Q I h;refine GC PySem.F.slot_dict_getitem.lookup hs (aX (ho VZ s σ H _ I h) λu s1 ⟨x,H1,I1,rx,q1⟩=>aX (hi VZ s1 σ H1 _ I1 q1) λiv s2 ⟨y,H2,I2,ry,a,v,ex,g,q2⟩=>?_);subst ex;obtain rfl:u=Vk a:=rx;exact⟨xk I2 g,BO hu I2 g ry λw' s3 I3 Yw=>⟨v,H2,I3,Yw,q2⟩⟩
theorem Jn (hu:X.A.units+1<cLine)(hi:PE X i ty)(ho:PE X o td):PC X .In i o (OX ty td):=by
 intro VZ s σ H Q I h;refine aX (hi VZ s σ H _ I h) λiv s1 ⟨y,H1,I1,ry,q1⟩=>aX (ho VZ s1 σ H1 _ I1 q1) λu s2 ⟨x,H2,I2,rx,a,ov,ex,g,q2⟩=>?_;subst ex;obtain rfl:u=Vk a:=rx;exact Pp hu I2 g ry λs3 I3=>⟨.bl ov.isSome,H2,I3,rfl,q2⟩
theorem kW (hu:X.A.units+1<cLine)(hi:PE X i ty)(ho:PE X o td):PC X .NotIn i o (FW ty td):=by
 intro VZ s σ H Q I h;refine aX (hi VZ s σ H _ I h) λiv s1 ⟨y,H1,I1,ry,q1⟩=>aX (ho VZ s1 σ H1 _ I1 q1) λu s2 ⟨x,H2,I2,rx,a,ov,ex,g,q2⟩=>?_;subst ex;obtain rfl:u=Vk a:=rx;exact FN hu I2 g ry λs3 I3=>⟨.bl (!ov.isSome),H2,I3,rfl,q2⟩
theorem sO (hu:X.A.units+1<cLine)(ho:PE X o td)(hi:PE X i ty)(hv:PE X value tv)(hs:Tf value (some (.Subscript o i pos')) pos.line X.env=pure false):
 PS X (.Assign [.Subscript o i pos'] value pos) (MQ td ty tv):=by
 intro VZ s σ H D I h;refine wpAny_Assign_Subscript (aX (hv VZ s σ H _ I h) λr s1 ⟨v,H1,I1,rv,q1⟩=>aX (ho VZ s1 σ H1 _ I1 q1) λu s2 ⟨x,H2,I2,rx,q2⟩=>aX (hi VZ s2 σ H2 _ I2 q2) λiv s3 ⟨y,H3,I3,ry,a,H4,ex,g,q3⟩=>?_) hs;subst ex;obtain rfl:u=Vk a:=rx;exact A1 hu I3 g ry rv λs4 I4=>⟨σ,H4,I4,q3⟩
end
theorem vC (h:Heap)(hb:Tq<h.objs.size):cZ P w H (h.push {cls:=.type "dict",data:=.dict #[]}) h.objs.size (.dK []):=
 ⟨Si _,beq_eq_false_iff_ne.mpr (SN (Sl hb)),[],.nil,Heap.DictOf.new h⟩
def JB:TE:=λ_ H Q=>∀p,H p=none->Q (.ref p) (upd H p (.dK []))
theorem D6:PE X (.Dict [] [] pos) JB:=λVZ s σ H Q I h=>
 wpAny_Dict_empty ⟨.ref s.heap.objs.size,_,I.laid (a:=s.heap.objs.size) (o:=.dK []) (t':=s.toks) (λ_ _ q=>U5 _ q) (Sg _) (vC s.heap I.big),rfl,h _ (I.V4.fresh (Sg _))⟩
variable {Yu:List (TE×TE)}
def wN:List (TE×TE)->St->Hp->(List (V×V)->Hp->Prop)->Prop
 | [],_,H,Q=>Q [] H
 | (tk,tv)::r,σ,H,Q=>tk σ H λx H1=>tv σ H1 λy H2=>wN r σ H2 λps H3=>Q ((x,y)::ps) H3
abbrev VV:List (V×V)->List (Value×Value)->Prop:=Paired λp q=>RelV p.1 q.1/\RelV p.2 q.2
def EJ (X:Cx)(pos:Pos)(keys:List (Option Expr))(values:PQ)(Yu:List (TE×TE)):Prop:=
 ∀(VZ:PD)(s:S7)(σ:St)(H:Hp)(Q:List (V×V)->Hp->Prop),Inv X VZ σ H s->wN Yu σ H Q->
  wpAny (model X.prog X.w) X.A (evalPairs (pairTrees keys values X.env pos)) (λvs s'=>∃ps H',Inv X VZ σ H' s'/\VV ps vs/\Q ps H') X.xe s
theorem yC:EJ X pos [] [] []:=λVZ s σ H Q I h=>pairTrees_nil_walk ⟨[],H,I,.nil,h⟩
theorem pD {k v:Expr}{ks:List (Option Expr)}{vs:PQ}{tk tv:TE}(hk:PE X k tk)(hv:PE X v tv)(hr:EJ X pos ks vs Yu):
 EJ X pos (some k::ks) (v::vs) ((tk,tv)::Yu):=λVZ s σ H Q I h=>
 pairTrees_cons_walk (aX (hk VZ s σ H _ I h) λu s1 ⟨x,H1,I1,rx,q1⟩=>aX (hv VZ s1 σ H1 _ I1 q1) λw2 s2 ⟨y,H2,I2,ry,q2⟩=>
  aX (hr VZ s2 σ H2 _ I2 q2) λws s3 ⟨ps,H3,I3,rel,q3⟩=>⟨(x,y)::ps,H3,I3,.cons ⟨rx,ry⟩ rel,q3⟩)
def ku (kvs more:List (Key×V)):List (Key×V):=more.foldl (λacc kv=>putK acc kv.1 kv.2) kvs
theorem KV.merge:∀{more:List (Key×V)}{rs:List (Key×Value)}{kvs:List (Key×V)}{vs:List (Key×Value)},KV more rs->KV kvs vs->KV (ku kvs more) (merged vs rs):=by
 intro more rs kvs vs r;unfold KV at r
 induction r generalizing kvs vs with
 | nil=>intro q;exact q
 | @cons p q ps qs h t ih=>
   intro r0;have e:KV (putK kvs p.1 p.2) (UA vs q.1 q.2):=by
    have:=r0.put p.1 h.2;rw[← h.1];exact this
   exact ih e
theorem nE:∀(more kvs:List (Key×V)),(ku kvs more).length<=kvs.length+more.length
 | [],kvs=>by show kvs.length<=kvs.length+0;omega
 | p::r,kvs=>by
   have h1:=nE r (putK kvs p.1 p.2);have h2:=lO kvs p.1 p.2;show(ku (putK kvs p.1 p.2) r).length<=_;rw[Qo];omega
theorem qX {P:Tb}{w:World}:∀{kvs:List (Key×V)}{ws:List (Value×Value)},VV (kvs.map λkv=>(kV kv.1,kv.2)) ws->∃rs,Carries (cv P w) ws rs/\KV kvs rs
 | [],_,r=>by rw[RL] at r;cases r;exact⟨[],VN,.nil⟩
 | p::kvs,_,r=>by
   rw[QJ] at r;cases r with
   | @cons a b as bs h t=>
     obtain⟨rs,c,q⟩:=qX (P:=P) (w:=w) t;obtain⟨b1,b2⟩:=b;exact⟨(p.1,b2)::rs,⟨jU h.1,rfl,c⟩,.cons ⟨rfl,h.2⟩ q⟩
def Lz (Yu:List (TE×TE)):TE:=λσ H Q=>∀p,H p=none->wN Yu σ (upd H p (.dK [])) λps H2=>H2 p=some (.dK [])/\∃kvs:List (Key×V),ps=kvs.map (λkv=>(kV kv.1,kv.2))/\kvs.length<=15/\Q (.ref p) (upd H2 p (.dK (ku [] kvs)))
theorem xC {keys:List (Option Expr)}{values:PQ}(h:EJ X pos keys values Yu)(Zx:keys.all (·.isSome)=true)(hl:keys.length=values.length)(h0:keys≠[])(h15:keys.length<=15):PE X (.Dict keys values pos) (Lz Yu):=by
 intro VZ s σ H Q I q;have hn:=I.V4.fresh (Sg s.heap.objs.size);have I1:=I.laid (a:=s.heap.objs.size) (o:=.dK []) (h':=s.heap.push {cls:=.type "dict",data:=.dict #[]}) (t':=s.toks) (λ_ _ q=>U5 _ q) (Sg _) (vC s.heap I.big);refine wpAny_Dict_walk (knd:=cv X.prog X.w) Zx hl h0 h15 (aX (h VZ _ σ _ _ I1 (q _ hn)) λws s2 ⟨ps,H2,I2,rel,e,kvs,ep,lk,q2⟩=>?_);subst ep;obtain⟨rs,c,rk⟩:=qX (P:=X.prog) (w:=X.w) rel;obtain⟨z,hd,ZX,r0,dd⟩:=zR I2.V4 e;cases r0
 refine⟨rs,c,dd,λh' Ys hs=>⟨.ref s.heap.objs.size,_,?_,rfl,q2⟩⟩;have hz:(ku [] kvs).length<=S8:=by
  have h1:=nE kvs [];rw[QD] at h1;rw[Uh];omega
 have he:∃q,h'.get? s.heap.objs.size=some q:=let ⟨q,_,_,hq,_⟩:=Ys;⟨q,hq⟩;exact oF I2 (by rw[e];exact VN) hs he (uQ hz hd (rk.merge .nil) Ys)
structure M2 (X:Cx)(o:Expr)(m:Str)(apos:Pos)(e f:Expr)(WV:Pos):Prop where
 base:T7 o m X.env (eval o X.env)=eval o X.env
 few:((Ui WV (Td [e,f] X.env)).all (λx=> !x.1)&&(backToKw WV (keywordEach [] X.env)).all (λx=>x.1.isSome)
  &&decide (([e,f]:PQ).length+([]:List Uo).length+(if([]:List Uo).isEmpty then 0 else 1)<30))=true
 line:(apos.endLine==WV.line)=true
 trees:Ui WV (Td [e,f] X.env)=[(false,eval e X.env),(false,eval f X.env)]
section
variable {d:V}{r:Value}
end
section
variable {o f:Expr}{apos WV:Pos}{td ty tx:TE}
end
end L2
namespace Att
open PySem PySem.W PySem.Calls PyProof.Rows
variable {P:Params}{h:Heap}
theorem rD :∀(ns:PH)(vs:PN),WellAll P h vs (ns.map WData.int)->IntsAre vs ns:=by
 intro ns
 induction ns with
 | nil=>
   intro vs w;rw[RL] at w;cases w
   exact .nil
 | cons n ns ih=>
   intro vs w;rw[QJ] at w;cases w with
   | cons a b=>
     cases a
     exact .cons _ _ (ih _ b)
theorem Bg {l:OpenLaw}{n:Nat}(hn:l.most=some n){args:List WData}{vals:PN}(YD:l.row.toRowW.claim.pre args=true)(hwl:WellAll P h vals args):
 ∃a vs ns,vals=[Vk a]/\args=[WData.list (ns.map WData.int)]/\h.get? a=some {cls:=.type "list",data:=.seq vs.toArray}/\IntsAre vs ns/\ns.length<=n:=by
 have hsh:WShape.hasAll [] args [.list .int]=true:=(pre_splitW YD).1;have hc:l.pre.holds [] {args:=args}=true:=(pre_splitW YD).2;obtain⟨d,r,rfl,h1,h2⟩:=hasAllW_cons hsh;obtain rfl:=hasAllW_nil h2;obtain⟨xs,rfl,h3⟩:=hasW_list h1;obtain⟨ns,rfl⟩:=items_int h3;have hlen:ns.length<=n:=by
  unfold OpenLaw.pre at hc;have h4:(WTm.not (.lt (.lit (.int (n:Int))) (.len (.arg 0)))).holds [] {args:=[.list (ns.map .int)]}=true:=by
   have h4:=(holds_andW hc).1;rw[hn] at h4;exact h4
  have h5:=condW_of h4 (w_not (w_lt w_lit (w_len_list (w_arg rfl))));rw[Qg] at h5;refine Nat.le_of_not_lt λq=>?_;have q':(n:Int)<((ns.length:Nat):Int):=by omega
  first
   | (rw[VT q'] at h5;exact VO h5 (by decide))
   | (simp at h5;omega)
 cases hwl with
 | cons w1 w2=>
   cases w2
   cases w1 with
   | list ho Zx=>exact⟨_,_,ns,rfl,rfl,ho,rD ns _ Zx,hlen⟩
theorem A0 (l:OpenLaw)(args:List WData):l.row.toRowW.claim.post args (.bool true) args=true:=
 postW_of (r:=l.row.toRowW) (X:=(true==true))
  (show WShape.has [] (.bool true) .bool=true by first | rfl | decide | simp[WShape.has,WShape.arms,WShape.armsAll])
  (show(WTm.eq .res (.lit (.bool true))).value [] {args:=args,res:=some (.bool true),after:=args}=some (.bool (true==true)) from w_eq_bool (w_res rfl) w_lit) rfl
section
variable {prog:Tb}{w:World}{A:Te}{E:Value->S7->Prop}{s:S7}{K:Frag}
end
end Att
namespace L2
open PySem PySem.Spec PyProof.Rows
theorem tZ:∀{vs:PN}{ns:PH},IntsAre vs ns->Vals (ns.map V.int) vs
 | _,_,.nil=>.nil
 | _,_,.cons n t h=>.cons ⟨t,rfl⟩ (tZ h)
def Dk (H:Hp):Prop:=∀b,H b=none∨∃o xs,H b=some (.WT o (.lst xs))
variable {P:Tb}{w:World}{K:Vr}{mg:Pz}{fd:Tg}{sp:Sp}
theorem Cu {mb:Pz}{CX:ny}{k:Nat}{fa a:Addr}{x:Str}{s₁:S7}{vs:PN}{ns:PH}(KX:K.In s₁.heap)(ZK:s₁.heap.Ns Ta mg)(hb:s₁.heap.Ns builtinsNs mb)(hbb:∀x:Str,x≠"__name__"->mb x=TB x)(hlim:s₁.heap.NoLimit)(hg:s₁.gens= #[])(ha:s₁.heap.get? a=some {cls:=.type "list",data:=.seq vs.toArray})(hi:IntsAre vs ns)(hl:ns.length<=S8)(hr:bG k Uq)(F:∀base:Heap,K.In base->base.Ns Ta mg->eV P w K mg base CX k fa fd [x] sp)(hbind:∀(s:S7)(u:Value),Uz s fd ⟨[u],[]⟩ [(x,u)])(XY:∀H:Hp,Dk H->bt K H a (ns.map V.int)->sp [.ref a] H (λv _=>v= .bl true) λ_ _ _=>False)(hCX:∀H e s',CX [] H s₁ (λ_ _ _=>False) e s'->False):
 Ug (model P w) Uq (.call (.ref fa) ⟨[.ref a],[]⟩) (λr s'=>r= .ok (.ret (.bool true))/\OldK s₁.heap s'.heap/\s'.os=s₁.os/\S4 s'.gens) s₁:=by
 have rv:=tZ hi;have lenV:=hi.length
 -- from an abstract heap in which nothing but Z0 Zd may be tracked
 have core:∀H:Hp,Dk H->bt K H a (ns.map V.int)->eU P w H s₁.heap->(∀b,H b≠none->b=a)->(H a≠none->K.lookup a=none)->
  Ug (model P w) Uq (.call (.ref fa) ⟨[.ref a],[]⟩) (λr s'=>r= .ok (.ret (.bool true))/\OldK s₁.heap s'.heap/\s'.os=s₁.os/\S4 s'.gens) s₁:=by
  intro H hO hS V4 hA hK;have base_of:∀{b:Addr}{o:Obj},s₁.heap.get? b=some o->H b=none->(mY s₁.heap H).get? b=some o:=λe n=>Dh e n;have Z8:∀{b:Addr}{o:Obj}{es:Array DictEntry}{ep:Nat},s₁.heap.get? b=some o->o.data= .dict es ep->H b=none:=λ{b o es ep} e d=>by
   cases q:H b with
   | none=>rfl
   | some u=>
     have e':b=a:=hA b (by rw[q];simp);subst e';rw[ha] at e;cases e
     have d':Data.seq vs.toArray _=Data.dict es ep:=d;cases d'
  have nsK:∀{b:Addr}{m:Pz},s₁.heap.Ns b m->(mY s₁.heap H).Ns b m:=λ{b m} ⟨o,es,ep,e,d,r⟩=>⟨o,es,ep,base_of e (Z8 e d),d,r⟩;have hKb:K.In (mY s₁.heap H):=λb o e=>base_of (KX b o e) (by
   cases q:H b with
   | none=>rfl
   | some u=>
     have e':b=a:=hA b (by rw[q];simp);subst e';rw[hK (by rw[q];simp)] at e;cases e)
  have hM:Mod K mg (mY s₁.heap H):=⟨hKb,nsK ZK,⟨mb,nsK hb,hbb⟩,let ⟨mc,h1,h2⟩:=hlim;⟨mc,nsK h1,h2⟩⟩;have e0:pP P w K mg (mY s₁.heap H) Uq [] s₁ H:=⟨rfl,hM,λb o e=>GO e,SK (B1 _ _),trivial,λb hb=>VO (show b∈([]:PM) from hb) (by simp),V4,.of_eq hg⟩;refine Ur ((F _ hKb (nsK ZK)).run Uq [] s₁ H ⟨[.ref a],[]⟩ [.ref a] [.ref a] _ _ hr e0 (hbind s₁ (.ref a)) (.cons rfl .nil) (XY H hO hS)) λr s' h=>?_;cases r with
  | error e=>exact(hCX H e s' h).elim
  | ok fl=>
    cases fl with
    | next=>exact P4 h
    | brk=>exact P4 h
    | cont=>exact P4 h
    | ret u=>
      obtain⟨v,H',os,bare,un,hok',r',q⟩:=h;have q':v= .bl true:=q;subst q';obtain rfl:u=Vo true:=r';refine⟨rfl,OldK.of_keep λb o e=>?_,os,bare⟩;cases q:H b with
      | none=>exact un.keep b o e q (by intro z;exact VO (show b∈([]:PM) from z) (by simp)) (by simp)
      | some u=>
        rcases hO b with z | ⟨ob,xs,z⟩
        ·rw[q] at z;cases z
        ·have z2:=un.Xa b ob _ z;obtain⟨e1,_⟩:=V4 b _ z;obtain⟨e2,_⟩:=hok' b _ z2;rw[e] at e1;cases e1
         exact e2
 cases hk:K.lookup a with
 | some o=>
   -- Z0 Zd is one of Z0 module's own objects
   have e:=KX a o hk;rw[ha] at e;cases e
   refine core (λ_=>none) (λ_=>.inl rfl) (.inr ⟨_,vs.toArray,_,hk,rfl,rfl,rfl,by rw[Qx,lenV];exact hl,by simpa using rv⟩) (λb u z=>by have z':(none:Option HO)=some u:=z;cases z') (λb z=>VO rfl z) λz=>VO rfl z
 | none=>
   refine core (λb=>if b=a then some (.WT {cls:=.type "list",data:=.seq vs.toArray} (.lst (ns.map V.int))) else none) (λb=>?_) (.inl (.inr ⟨{cls:=.type "list",data:=.seq vs.toArray},VQ rfl⟩)) (λb u z=>?_) (λb z=>?_) λ_=>hk
   ·by_cases hb:b=a
    ·exact .inr ⟨_,_,VQ hb⟩
    ·exact .inl (VP hb)
   ·by_cases hb:b=a
    ·have z':=(VQ hb).symm.trans z;cases z'
     subst hb;exact⟨ha,by rw[Qg];exact hl,vs,_,rv,ha⟩
    ·have z':=(VP hb).symm.trans z;cases z'
   ·by_cases hb:b=a
    ·exact hb
    ·exact VO (VP hb) z
abbrev oV {K:Vr}{h:Heap}(_:K.In h):Vr:=K
def fc (s:Stmt):Arguments:=match s with
 | .FunctionDef _ a _ _ _ _ _ _ _ _=>a
 | _=>{posonlyargs:=[],args:=[],vararg:=none,kwonlyargs:=[],kw_defaults:=[],kwarg:=none,defaults:=[]}
def bP (s:Stmt):List Stmt:=match s with
 | .FunctionDef _ _ b _ _ _ _ _ _ _=>b
 | _=>[]
def ao (s:Stmt):Scope:=match s with
 | .FunctionDef _ _ _ _ _ _ sc _ _ _=>sc
 | _=>{kind:=.function,names:=[],isGenerator:=false,isCoroutine:=false}
abbrev eX:ny:=λ_ _ _ _ _ _=>False
abbrev E0:XK:=λ_ _ _=>False
variable {X:Cx}
theorem jT :Passes eX X E0:=λ_ _ _ _ _ _ _ h=>h.elim
structure dZ (K:Vr)(x qual:Str)(st:Stmt)(f:Addr)(fd:Tg):Prop where
 ex:∃(oc:Value)(od:Option Addr)(kV doc pm:Value)(an:Option Addr)(V2 ct:Value)(XF:Array PK),
  fd=Vx x qual (fc st) (bP st) (ao st) .none kV doc pm an V2 ct/\K.lookup f=some ⟨oc,od,.func fd,XF⟩/\VB K V2 qual=true
 kp:Vw K (.ref f)=true
variable {ps:PJ}
section
variable {base:Heap}
variable {x qual:Str}{st:Stmt}{f:Addr}
theorem dZ.ok {N:PJ}{k:Nat}(F:dZ K x qual st f fd)(S:bV N ps (ao st))(len:∀vs H Q E,sp vs H Q E->vs.length=ps.length)(Wr:∀(V2:Value)(A:Te)(outer:List Env)(s:S7)(H:Hp)(vs:List V)(Q:VK)(E:XK),bG k (A.deeper (S0 qual (ao st) s.heap.objs.size f V2))->sp vs H Q E->
  ∃t,kD (fI eX P w K mg base N qual (ao st) f V2 A outer s H E).i6 (bP st) t/\t {nx:=λ_ H'=>Q .Wb H',rt:=Q} (start N vs) H):eV P w K mg base eX (k+1) f fd ps sp:=by
 obtain⟨oc,od,kV,doc,pm,an,V2,ct,XF,rfl,lk,X0⟩:=F.ex;refine LM lk X0 S len λA outer s H vs Q E hr XY=>?_;obtain⟨t,h,q⟩:=Wr V2 A outer s H vs Q E hr XY;exact⟨t,h.i6,q⟩
theorem dZ.binds (F:dZ K x qual st f fd)(h:∀(kV doc pm:Value)(an:Option Addr)(V2 ct:Value)(us:PN),us.length=ps.length->bindArgs (Vx x qual (fc st) (bP st) (ao st) .none kV doc pm an V2 ct) ⟨us,[]⟩=pure (ps.zip us)):Binds K fd ps []:=by
 obtain⟨oc,od,kV,doc,pm,an,V2,ct,XF,rfl,lk,X0⟩:=F.ex;exact .all (h kV doc pm an V2 ct)
theorem kT {oc:Value}{od an:Option Addr}{XF:Array PK}{kV doc pm V2 ct:Value}(l:K.lookup f=some ⟨oc,od,.func (Vx x qual (fc st) (bP st) (ao st) .none kV doc pm an V2 ct),XF⟩)(c:VB K V2 qual=true)(k:Vw K (.ref f)=true):dZ K x qual st f (Vx x qual (fc st) (bP st) (ao st) .none kV doc pm an V2 ct):=⟨⟨oc,od,kV,doc,pm,an,V2,ct,XF,rfl,l,c⟩,k⟩
end
variable {A:Te}
theorem Li {k:Nat}(hr:bG k A):A.units+1<cLine:=Sj (Nat.add_le_add_left (by decide:1<=64) _) hr.units
variable {H H':Hp}
theorem nq {A B:Prop}(h:B):if false=true then A else B:=by
 rw[VP PX];exact h
theorem m7 {A B:Prop}(h:A):if true=true then A else B:=by
 rw[VQ rfl];exact h
def aw (H H':Hp):Prop:=∀b o,H b=some o->H' b=some o
theorem aw.refl (H:Hp):aw H H:=λ_ _ h=>h
theorem aw.trans {H1 H2:Hp}(a:aw H H1)(b:aw H1 H2):aw H H2:=λc o h=>b c o (a c o h)
theorem aw.free (e:aw H H'){l:Addr}(h:H' l=Option.none):H l=Option.none:=by
 cases q:H l with
 | none=>rfl
 | some o=>
   rw[e l o q] at h;cases h
theorem aw.seq {a:Addr}{xs:List V}(e:aw H H')(h:bt K H a xs):bt K H' a xs:=by
 rcases h with(h | ⟨o,h⟩) | h
 ·exact .inl (.inl (e _ _ h))
 ·exact .inl (.inr ⟨o,e _ _ h⟩)
 ·exact .inr h
theorem tM:gv X (.builtin "len") (λxs H Q=>∃a kvs,xs=[V.ref a]/\H a=some (.dK kvs)/\Q (.int kvs.length) H):=by
 intro VZ s σ H xs us Q I r h;obtain⟨a,kvs,rfl,ha,q⟩:=h;obtain⟨u,rfl,ru⟩:=vals1 r;cases ru
 exact Ln I (.inl ha) λt s' I'=>⟨.int kvs.length,H,I',⟨t,rfl⟩,q⟩
section
variable {κ:Type} [DecidableEq κ]
theorem ib:∀{l:List κ}{k:κ},l.Nodup->¬k∈l->(l++[k]).Nodup
 | [],k,_,_=>by simp
 | a::r,k,h,hk=>by
   obtain⟨h1,h2⟩:=QF.mp h;show(a::(r++[k])).Nodup;refine QF.mpr ⟨λm=>?_,ib h2 λm=>hk (Qq.mpr (Or.inr m))⟩;rcases Qr.mp m with q | q
   ·exact h1 q
   ·exact hk (Qq.mpr (Or.inl (Qe.mp q).symm))
end
variable {VZ:PD}{σ:St}
section
variable {elt target iter:Expr}{ifs:PQ}{scope:Scope}{pos:Pos}{s:S7}{fr:PJ}{ix:List Nat}{wi:TI}{g:TG}{tc:TT}{te:TE}
def bZ (X:Cx)(scope:Scope)(cl:List (Str×Addr))(C:Addr)(N':PJ)(s:S7)(H:Hp)(ex:PM):Cx:=
 {X with N:=N',s₀:=s,H₀:=H,env:=compEnvC scope cl C X.env,outer:=X.stack,stack:=X.stack,ex:=ex,fn:=λ_=>false,pn:=[],xe:=λ_ _=>False}
def PF (X:Cx)(ifs:PQ)(t:TT):Prop:=
 ∀(VZ:PD)(s:S7)(σ:St)(H:Hp)(Q:Bool->Hp->Prop),Inv X VZ σ H s->t σ H Q->
  wpAny (model X.prog X.w) X.A (forIn ifs true λc r=>if r=true then do let ok ← T2 c X.env (eval c X.env);pure (P6 ok) else pure (P6 r)) (TP X VZ σ Q) X.xe s
def OP:TT:=λ_ H Q=>Q true H
theorem Kf:PF X [] OP:=by
 intro VZ s σ H Q I h;exact Tc ⟨H,I,h⟩
theorem Jj {c:Expr}{t:TT}(hc:PT X c t):PF X [c] t:=by
 intro VZ s σ H Q I h;show wpAny _ _ (forIn [c] true λc r=>_) _ _ s;rw[R9];simp only[if_true,forIn_nil];refine S9 (S9 (Tp (hc VZ s σ H Q I h) (λb s1 h1=>?_) λ_ _ e=>e));exact Tc (Tc h1)
theorem vw {prog:Tb}{R:Result->S7->Prop}{it acc:Value}{env:Env}(I:Nat->S7->Prop)(turn:∀n s,I n s->wpAny (model prog w) A (Ux it) (λr s₁=>match r with
  | none=>R (.ok .next) s₁
  | some v=>wpAny (model prog w) A (T9 target it v) (λ_ s₁'=>wpAny (model prog w) A (TU target env v) (λ_ s₂=>
   wpAny (model prog w) A (forIn ifs true λc r=>if r=true then do let ok ← T2 c env (eval c env);pure (P6 ok) else pure (P6 r)) (λok s₃=>
    if ok=true then wpAny (model prog w) A (eval elt env) (λx s₄=>
     wpAny (model prog w) A (call (.builtin "list.append") [acc,x]) (λ_ s₅=>∃m,m<n/\I m s₅) (λ_ _=>False) s₄) (λ_ _=>False) s₃
    else∃m,m<n/\I m s₃) (λ_ _=>False) s₂) (λ_ _=>False) s₁') (λ_ _=>False) s₁) (λ_ _=>False) s)(n:Nat)(h:I n s):
 Ug (model prog w) A (.compLoop (.ListComp elt [⟨target,iter,ifs,0⟩] scope pos) 0 it acc env) R s:=by
 have no:∀{α:Type}{t:Sem α}{Q:α->S7->Prop}{E:Value->S7->Prop}{s:S7},wpAny (model prog w) A t Q (λ_ _=>False) s->wpAny (model prog w) A t Q E s:=λh=>Tp h (λ_ _ q=>q) λ_ _ f=>f.elim;refine codeAny_loop rfl I (λn s hI=>?_) n h;show wpAny _ A ((compTurn (.ListComp elt [⟨target,iter,ifs,0⟩] scope pos) 0 it acc env).onRaise (λx=>do noteFrame x env;theTreesLotGoes x)) _ _ s;refine wpAny_noted ?_;rw[compTurn_list];refine S9 (UG (S9 (Tp (no (turn n s hI)) (λr s₁ h₁=>?_) λ_ _ h'=>h')));cases r with
 | none=>exact Tc h₁
 | some v=>
   refine S9 (Tp (no h₁) (λ_ s₁' h₁'=>?_) λ_ _ h'=>h');refine S9 (Tp (no h₁') (λ_ s₂ h₂=>S9 (Tp (no h₂) (λok s₃ h₃=>?_) λ_ _ h'=>h')) λ_ _ h'=>h');cases ok with
   | false=>exact Tc ⟨rfl,h₃⟩
   | true=>
     exact S9 (S9 (Tp (no h₃) (λx s₄ h₄=>S9 (Tp (no h₄) (λ_ s₅ h₅=>Tc (Tc ⟨rfl,h₅⟩)) λ_ _ h'=>h')) λ_ _ h'=>h'))
def yW (wi:TI)(g:TG)(tc:TT)(te:TE)(z:St->St):TE:=λσ H Q=>wi σ H λJ H1=>
 ∃W:Nat->Nat->List V->St->Hp->Prop,(∃m,W 0 m [] (z σ) H1)/\∀i m ys σ' H',W i m ys σ' H'->
  ys.length<=S8/\((J.stop i H'/\∀p,H' p=none->Q (.ref p) (upd H' p (.lst ys)))∨
  (J.go i H'/\∀x H2,J.ZW i H' x H2->g x σ' H2 λσ2 H3=>tc σ2 H3 λb H4=>
    if b=true then te σ2 H4 λv H5=>∃m',m'<m/\W (i+1) m' (ys++[v]) σ2 H5 else∃m',m'<m/\W (i+1) m' ys σ2 H4))
structure gy (X:Cx)(scope:Scope)(cl:List (Str×Addr))(own fr:PJ)(ix:List Nat):Prop where
 clos:closureFor scope X.env=pure cl
 cells:∀x c,cl.lookup x=some c->X.env.cells.lookup x=some c
 kind:scope.kind= .function
 YO:∀y∈scope.names,y.2≠ .cell
 names:∀y∈scope.names,y.2= .local->scope.names.lookup y.1=some .local
 has:∀x,scope.names.lookup x=some .free->∃c,cl.lookup x=some c
 frees:∀x∈fr,scope.names.lookup x=some .free
 len:fr.length=ix.length
 at_:∀(k:Nat)(i:Nat)(x:Str),ix[k]?=some i->fr[k]?=some x->X.N[i]?=some x/\X.env.kindOf x=some .cell
theorem i8 {env:Env}:∀{names:List (Str×TY)}{x:Str}{k:TY},
 (names.map λ(n,k)=>if(k==TY.free&&env.scope.kind== .function&&env.kindOf n==some .cell) then(n,TY.cell) else(n,k)).lookup x=some k->
 ∃k',names.lookup x=some k'/\(k=k'∨(k'= .free/\k= .cell))
 | [],_,_,h=>by simp at h
 | (n,k)::r,x,kk,h=>by
   have ih:=@i8 env r x kk;replace h:Q6 x ((if(k==TY.free&&env.scope.kind== .function&&env.kindOf n==some .cell)=true then(n,TY.cell) else(n,k))::_)=some kk:=h;by_cases hc:(k==TY.free&&env.scope.kind== .function&&env.kindOf n==some .cell)=true
   ·rw[VQ hc] at h;cases hx:x==n with
    | true=>
      simp only[Rc,hx,Option.some.injEq] at h ⊢;have hk:k= .free:=by
       simp only[PZ] at hc;exact eq_of_beq hc.1.1
      exact⟨k,rfl,.inr ⟨hk,h.symm⟩⟩
    | false=>
      simp only[Rc,hx] at h ⊢;exact ih h
   ·rw[VP hc] at h;cases hx:x==n with
    | true=>
      simp only[Rc,hx,Option.some.injEq] at h ⊢;exact⟨k,rfl,.inl h.symm⟩
    | false=>
      simp only[Rc,hx] at h ⊢;exact ih h
theorem nI {env:Env}(hf:env.scope.kind= .function):∀{names:List (Str×TY)}{x:Str},names.lookup x=some .free->env.kindOf x=some .cell->
 (names.map λ(n,k)=>if(k==TY.free&&env.scope.kind== .function&&env.kindOf n==some .cell) then(n,TY.cell) else(n,k)).lookup x=some .cell
 | [],_,h,_=>by simp at h
 | (n,k)::r,x,h,hk=>by
   have ih:=@nI env hf r x;show Q6 x ((if(k==TY.free&&env.scope.kind== .function&&env.kindOf n==some .cell)=true then(n,TY.cell) else(n,k))::_)=_;cases hx:x==n with
   | true=>
     simp only[Rc,hx,Option.some.injEq] at h;have e:x=n:=eq_of_beq hx;subst e;subst h;rw[VQ (by rw[hf,hk];rfl)];simp[Rc]
   | false=>
     simp only[Rc,hx] at h;split
     ·simp only[Rc,hx];exact ih h hk
     ·simp only[Rc,hx];exact ih h hk
def iW (own:PJ)(ix:List Nat)(σ:St):St:=Q4 own.length none++ix.map λi=>(σ[i]?).join
structure Off (X:Cx)(VZ:PD)(H:Hp)(s:S7)(C:Addr):Prop where
 ns:∃m,s.heap.Ns C m
 free:H C=none
 ne:C≠X.env.locals
 young:X.s₀.heap.objs.size<=C
 cell:∀x c,X.env.cells.lookup x=some c->c≠C
 pin:∀p∈X.pn++VZ,p.1≠C
theorem tR {cl:List (Str×Addr)}{own:PJ}{use:Option (Value->Sem Unit)}{Qf:Value->S7->Prop}{Q:VK}(hc:X.calm=true)(S:gy X scope cl own fr ix)(hi:PI X target iter wi)(hb:∀(C:Addr)(s:S7)(H:Hp)(ex:PM),PG (bZ X scope cl C (own++fr) s H ex) target g/\PF (bZ X scope cl C (own++fr) s H ex) ifs tc/\PE (bZ X scope cl C (own++fr) s H ex) elt te)(hs:∀x,Ts iter X.env x=pure x)(I:Inv X VZ σ H s)(h:yW wi g tc te (iW own ix) σ H Q)(XN:∀(D C:Addr)(H6:Hp)(s6:S7),Inv X VZ σ H6 s6->Off X VZ H6 s6 C->Q (.ref D) H6->compPost (model X.prog X.w) X.A X.xe use Qf (.ref D) C (.ok .next) s6):
 wpAny (model X.prog X.w) X.A (comprehension (.ListComp elt [⟨target,iter,ifs,0⟩] scope pos) scope X.env (firstIterPos [⟨target,iter,ifs,0⟩] pos) (newList []) false (eval iter X.env) use) Qf X.xe s:=by
 refine wpAny_comprehension_free (use:=use) rfl hs S.clos S.kind S.names ?_;refine aX (hi VZ s σ H _ I h) λv s1 h1=>aX h1 λitv s2 h2=>?_;obtain⟨it,fp,tn,J,H2,rfl,I2,T,Yv,f2,W,⟨m0,w0⟩,turn⟩:=h2;refine Tv (wpAny_newFunctionEnv S.YO (by intro y hy;simp at hy) (λh₁ hns₁ hsb₁=>?_) S.kind);dsimp only at hns₁ hsb₁ ⊢;generalize hH3:s2.heap.push {cls:=.type "list",dict:=none,data:=.seq ([]:PN).toArray}=h3 at hns₁ hsb₁ ⊢;have hC:h3.objs.size=s2.heap.objs.size+1:=by rw[← hH3,U8]
 have to3:∀b o,s2.heap.get? b=some o->h3.get? b=some o:=λb o e=>by rw[← hH3];exact U5 _ e
 have getD3:h3.get? s2.heap.objs.size=some {cls:=.type "list",data:=.seq ([]:PN).toArray}:=by rw[← hH3];exact U7 _ rfl
 have Za:∀b o,h3.get? b=some o->h₁.get? b=some o:=λb o e=>hsb₁.extBut b o (Sl (U6 e)) (U5 _ e);have frD:∀{b:Addr},b∈fp->b≠s2.heap.objs.size:=λ{b} hb z=>by
  obtain⟨o,e,_⟩:=T.obj 0 _ Yv b hb;exact VO (U6 e) (by rw[z];exact Sn _)
 have frC:∀{b:Addr},b∈fp->b≠h3.objs.size:=λ{b} hb z=>by
  obtain⟨o,e,_⟩:=T.obj 0 _ Yv b hb;exact VO (U6 e) (by rw[z,hC];exact Sz.mpr (Sr _))
 have HD2:H2 s2.heap.objs.size=none:=I2.V4.fresh (Sg _)
 -- Z0 block's context
 let X':Cx:=bZ X scope cl h3.objs.size (own++fr) {s2 with heap:=h3} H2 (s2.heap.objs.size::fp)
 have Z4:X'.Ok:=by
  refine⟨I2.ok.mod,S.kind,I2.ok.glob,I2.ok.blt,Sg _,λx y c e1 e2=>I2.ok.inj x y c (S.cells x c e1) (S.cells y c e2),λx hx=>?_,λx c z=>?_,I2.ok.hd,I2.ok.frames,.inl rfl,λb hb=>?_,λb o e=>?_,?_,λb o e hb=>?_,λb hb z=>?_,?_,I2.xU⟩
  ·have key:scope.names.lookup x=some .free:=by
    have hx:(relabel scope X.env).names.lookup x=some .cell∨(relabel scope X.env).names.lookup x=some .free:=hx;rcases hx with hx | hx
    ·obtain⟨k',e,z⟩:=i8 hx;rcases z with z | z
     ·subst z;exact VO rfl (S.YO _ (Tn e))
     ·rw[e,z.1]
    ·obtain⟨k',e,z⟩:=i8 hx;rcases z with z | z
     ·subst z;exact e
     ·cases z.2
   exact S.has x key
  ·cases z
  ·rcases Qq.mp hb with rfl | hb
   ·refine⟨by rw[show X'.env.locals=h3.objs.size from rfl,hC];exact Sl (Ss _),λx c e z=>?_⟩;obtain⟨v',q⟩:=I2.cell x c (S.cells x c e);exact VO q.lt (by rw[z];exact Sn _)
   ·exact⟨frC hb,λx c e=>(f2 b hb).2.2.2.2.1 x c (S.cells x c e)⟩
  ·obtain⟨e1,e2⟩:=I2.bs b o e;exact⟨to3 b o e1,e2⟩
  ·show X.base.objs.size<=h3.objs.size;have:=I2.ok.YK;have:=I2.sz;omega
  ·rcases Qq.mp hb with rfl | hb
   ·exact VO (U6 (I2.bs _ o e).1) (Sn _)
   ·rcases(f2 b hb).2.2.2.1 with z | z
    ·exact I2.ok.Yd b o e z
    ·exact VO (Sk (Sk (U6 e) I2.ok.YK) z) (Sn _)
  ·replace z:b∈lZ X.stack:=z;rcases Qq.mp hb with rfl | hb
   ·obtain⟨_,o,ho,_⟩:=I2.stack.mem z;exact VO (U6 ho) (Sn _)
   ·rcases Qq.mp (I2.v9 b z) with q | q
    ·exact(f2 b hb).2.1 q
    ·exact(f2 b hb).2.2.1 q
  ·exact I2.stack.of_keeps λb o e _=>⟨o,to3 b o e,rfl⟩
 have I4:Inv X' [] (iW own ix σ) H2 {s2 with heap:=h₁,toks:=s2.toks+([]:List (Str×Value)).length}:=by
  refine⟨Z4,rfl,I2.bare,Un.kept Za,⟨_,hns₁,λi x v e1 e2 e3=>?_⟩,λx c e=>?_,I2.V4.fresh (by show s2.heap.objs.size<=h3.objs.size;rw[hC];exact Sr _),λx c e=>I2.WL x c (S.cells x c e),λp hp=>VO (show p∈([]:PD) from hp) (by simp),I2.V4.kept λb o e=>Za b o (to3 b o e),?_⟩
  ·replace e1:(own++fr)[i]?=some x:=e1;unfold iW at e2;by_cases W5:i<own.length
   ·rw[QI (by simpa using W5),Rp] at e2;split at e2<;>cases e2
   ·rw[QE (by simpa using W5)] at e1 e2;rw[Q5,Ql] at e2;cases ek:ix[i-own.length]? with
    | none=>rw[ek] at e2;cases e2
    | some j=>
      rw[ek] at e2;obtain⟨n1,n2⟩:=S.at_ _ j x ek e1;have e2':σ[j]?=some (some v):=by
       have q:(σ[j]?).join=some v:=Option.some.inj e2;cases es:σ[j]? with
       | none=>rw[es] at q;cases q
       | some o=>rw[es] at q;exact congrArg some q
      obtain⟨m,hn,hl⟩:=I2.loc;obtain⟨u,r,l⟩:=hl j x v n1 e2' (.inr (.inl n2));refine⟨u,r,?_⟩;have Zv:scope.names.lookup x=some .free:=S.frees x (Qm e1);rcases l with⟨k,_⟩ | ⟨_,c,X6,z⟩
      ·rw[n2] at k;cases k
      ·obtain⟨c',Zw⟩:=S.has x Zv;have q:=S.cells x c' Zw;rw[X6] at q;cases q
       obtain⟨oc,ho,hd⟩:=z;exact .inr ⟨.inl (nI I2.ok.kind Zv n2),c,Zw,oc,Za _ _ (to3 _ _ ho),hd⟩
  ·obtain⟨v',oc,ho,hd⟩:=I2.cell x c (S.cells x c e);exact⟨v',oc,Za _ _ (to3 _ _ ho),hd⟩
  ·show(iW own ix σ).length=(own++fr).length;unfold iW;rw[Qj,Qj,Q5,Qg,S.len]
 obtain⟨hg,hf,he⟩:=hb h3.objs.size {s2 with heap:=h3} H2 (s2.heap.objs.size::fp);have hg:PG X' target g:=hg;have hf:PF X' ifs tc:=hf;have he:PE X' elt te:=he;have locX:X'.env.locals=h3.objs.size:=rfl
 -- D's place
 have Dne:s2.heap.objs.size≠X'.env.locals:=by rw[locX,hC];exact Sl (Ss _)
 have Dfs:s2.heap.objs.size∉X'.fs:=Z4.X2 _ (Qk ..);have Dcl:∀x c,X'.env.cells.lookup x=some c->c≠s2.heap.objs.size:=λx c e=>(Z4.exf _ (Qk ..)).2 x c e;have fpX:∀{pl:PD}{H':Hp},(∀p∈pl,p.1=s2.heap.objs.size)->(∀b∈fp,H' b=none)->∀b∈fp,lR X' pl H' b:=λhp hn b hb=>
  ⟨hn b hb,frC hb,Z4.X2 b (Qi _ hb),.inl (Qi _ hb),(Z4.exf b (Qi _ hb)).2,λp q=>by
   rw[hp p (by simpa[show X'.pn=[] from rfl] using q)];exact SN (frD hb)⟩
 have pinD:∀{σ':St}{H':Hp}{s':S7}{o:Obj},Inv X' [] σ' H' s'->s'.heap.get? s2.heap.objs.size=some o->H' s2.heap.objs.size=none->(∀v,o.data≠ .cell v)->Inv X' [(s2.heap.objs.size,o)] σ' H' s':=λI e n d=>
  I.kg λp hp=>by
    obtain rfl:=Qe.mp hp;exact⟨e,n,Dne,Dfs,d⟩
 have loop:Ug (model X.prog X.w) X.A (.compLoop (.ListComp elt [⟨target,iter,ifs,0⟩] scope pos) 0 (.ref it) (.ref s2.heap.objs.size) X'.env)
  (compPost (model X.prog X.w) X.A X.xe use Qf (.ref s2.heap.objs.size) h3.objs.size) {s2 with heap:=h₁,toks:=s2.toks+([]:List (Str×Value)).length}:=by
  refine vw (λn s'=>∃i ys V1 k σ' H',Inv X' [] σ' H' s'/\tn i s'.heap/\(∀b∈fp,H' b=none)/\H' s2.heap.objs.size=none/\Vals ys V1/\s'.heap.get? s2.heap.objs.size=some {cls:=.type "list",data:=.seq V1.toArray k}/\W i n ys σ' H')
   ?_ m0 ⟨0,[],[],0,_,H2,I4,T.keep 0 _ _ Yv λb _ o e=>Za b o (to3 b o e),λb W9=>(f2 b W9).1,HD2,.nil,Za _ _ getD3,w0⟩
  rintro n s5 ⟨i,ys,V1,k,σ5,H5,I5,ZE,fr5,hD5,vs5,get5,w5⟩;obtain⟨hlen,alt⟩:=turn i n ys σ5 H5 w5;have P5:=pinD I5 get5 hD5 (λv z=>by cases z);have okp:∀p∈[(s2.heap.objs.size,({cls:=.type "list",data:=.seq V1.toArray k}:Obj))],p.1=s2.heap.objs.size:=λp hp=>by
   rw[Qe.mp hp]
  rcases alt with⟨stop,q⟩ | ⟨go,step⟩
  ·refine aX (T.done X' rfl rfl rfl hc i _ s5 σ5 H5 _ P5 (fpX okp fr5) ZE stop) λr s6 ⟨hr,I6⟩=>?_;subst hr;obtain⟨m6,hn6,_⟩:=I6.loc;obtain⟨get6,_,_,_,_⟩:=I6.pin (s2.heap.objs.size,({cls:=.type "list",data:=.seq V1.toArray k}:Obj)) (Qn _ (Qe.mpr rfl));have ZZ:∀b o,b≠h3.objs.size->s6.heap.get? b=some o->s6.heap.get? b=some o:=λb o hb e=>e;have exn:∀{b:Addr}{o:Obj},s2.heap.get? b=some o->b∉fp->b∉X'.ex:=λ{b o} e hb z=>by
    rcases Qq.mp z with z | z
    ·exact VO (U6 e) (by rw[z];exact Sn _)
    ·exact hb z
   have Yf:∀{b:Addr}{o:Obj},s2.heap.get? b=some o->b≠h3.objs.size:=λ{b o} e z=>by
    have q1:=U6 e;rw[z,hC] at q1;exact VO q1 (Sz.mpr (Sr _))
   have neD:∀{b:Addr}{o:Obj},s2.heap.get? b=some o->b≠s2.heap.objs.size:=λ{b o} e=>Sl (U6 e);have Zg:∀{b:Addr}{o:HO},H2 b=some o->b≠s2.heap.objs.size:=λ{b o} e=>c8 e HD2;have U:Un (lZ X.stack) fp H2 (upd H5 s2.heap.objs.size (.lst ys)) s2.heap s6.heap:=by
    refine⟨λb o e n hb hx=>?_,λb o e n hb hx=>?_,λb o e n hx=>?_,λb o e hx=>?_,λb xs e=>?_,λb o u e=>?_,λb ps e=>?_⟩
    ·exact ZZ b o (Yf e) (I6.base.keep b o (to3 b o e) n hb (exn e hx))
    ·obtain⟨sl,q1⟩:=I6.base.slot b o (to3 b o e) n hb (exn e hx);exact⟨sl,ZZ b _ (Yf e) q1⟩
    ·rw[aD (neD e)];exact I6.base.free b o (to3 b o e) n (exn e hx)
    ·obtain⟨o',q1⟩:=I6.base.there b o (to3 b o e) (exn e hx);exact⟨o',ZZ b _ (Yf e) q1⟩
    ·rw[aD (Zg e)];exact I6.base.Xf b xs e
    ·rw[aD (Zg e)];exact I6.base.Xa b o u e
    ·rw[aD (Zg e)];exact I6.base.Xg b ps e
   have HC:H5 h3.objs.size=none:=I6.free;have V4:eU X.prog X.w (upd H5 s2.heap.objs.size (.lst ys)) s6.heap:=λb u e=>by
    by_cases hbD:b=s2.heap.objs.size
    ·subst hbD;rw[aB] at e;cases e
     exact⟨hlen,V1,k,vs5,ZZ _ _ (by rw[hC];exact Sl (Ss _)) get6⟩
    ·rw[aD hbD] at e;refine(I6.V4 b u e).Ww (λc o ZR q1=>ZZ c o (λz=>?_) q1) (λc q1=>by rw[aD (c8 q1 hD5)];exact q1) λc xs q1=>by rw[aD (c8 q1 hD5)];exact q1
     rcases ZR with ZR | ZR
     ·rw[← ZR,z,HC] at e;cases e
     ·rw[z,HC] at ZR;cases ZR
   have fin:=I2.Mn (s':=s6) (ch:=fp) I6.os U V4 I6.bare λb W9=>⟨(f2 b W9).2.2.2.1,(f2 b W9).2.1,(f2 b W9).2.2.2.2.1,(f2 b W9).2.2.2.2.2⟩;refine XN _ h3.objs.size _ s6 fin ⟨⟨m6,hn6⟩,?_,?_,?_,λx c e z=>?_,λp hp z=>?_⟩ (q _ hD5)
   ·rw[aD (by rw[hC];exact Sv (Ss _))];exact HC
   ·intro z;have:=I2.lt;rw[← z,hC] at this;exact VO this (Sz.mpr (Sr _))
   ·rw[hC];exact Sh I2.sz (Sr _)
   ·obtain⟨v',q1⟩:=I2.cell x c e;have:=q1.lt;rw[z,hC] at this;exact VO this (Sz.mpr (Sr _))
   ·have:=U6 (I2.pin p hp).1;rw[z,hC] at this;exact VO this (Sz.mpr (Sr _))
  ·refine aX (T.item X' rfl rfl rfl hc i _ s5 σ5 H5 _ P5 (fpX okp fr5) ZE go) λr s6 ⟨u,hr,h6⟩=>?_;subst hr;refine aX h6 λ_ s7 ⟨x,H7,I7,r7,y7,st7,fr7⟩=>?_;have I7':=I7.pinned (fpX okp fr7) (T.obj _ _ st7);refine aX (hg _ s7 σ5 H7 x u _ I7' r7 (step x H7 y7)) λ_ s8 ⟨σ8,H8,I8,q8⟩=>?_;refine aX (hf _ s8 σ8 H8 _ I8 q8) λb s9 ⟨H9,I9,q9⟩=>?_;have out:∀{σ':St}{H':Hp}{s':S7},Inv X' ([(s2.heap.objs.size,({cls:=.type "list",data:=.seq V1.toArray k}:Obj))]++lY fp s7.heap) σ' H' s'->
    tn (i+1) s'.heap/\(∀b∈fp,H' b=none)/\H' s2.heap.objs.size=none/\s'.heap.get? s2.heap.objs.size=some {cls:=.type "list",data:=.seq V1.toArray k}:=λI'=>by
    refine⟨T.keep _ _ _ st7 λb W9 o e=>(I'.pin (b,o) (Qn _ (Qn _ (jZ W9 e)))).1,λb W9=>?_,(I'.pin (s2.heap.objs.size,({cls:=.type "list",data:=.seq V1.toArray k}:Obj)) (Qn _ (Qs _ (Qe.mpr rfl)))).2.1,(I'.pin (s2.heap.objs.size,({cls:=.type "list",data:=.seq V1.toArray k}:Obj)) (Qn _ (Qs _ (Qe.mpr rfl)))).1⟩;obtain⟨o,e,d⟩:=T.obj _ _ st7 b W9;exact(I'.pin (b,o) (Qn _ (Qn _ (jZ W9 e)))).2.1
   cases b with
   | false=>
     rw[VP PX] at q9 ⊢;obtain⟨m',hm,w'⟩:=q9;obtain⟨o1,o2,o3,o4⟩:=out I9;exact⟨m',hm,i+1,ys,V1,k,σ8,H9,I9.kg (λ_ z=>nomatch z),o1,o2,o3,vs5,o4,w'⟩
   | true=>
     rw[VQ rfl] at q9 ⊢;refine aX (he _ s9 σ8 H9 _ I9 q9) λuv s10 ⟨v10,H10,I10,r10,q10⟩=>?_;obtain⟨m',hm,w'⟩:=q10;obtain⟨o1,o2,o3,o4⟩:=out I10;refine wpAny_list_append_plain ⟨k,o4⟩ (λh' Wg Xc=>?_) (by
      have:=vs5.length;rw[Qx,← this];exact hlen)
     obtain⟨k',Xz⟩:=Wg;have I11:Inv X' (lY fp s7.heap) σ8 H10 s10:=I10.kg λp hp=>I10.pin p (Qn _ (Qn _ hp));have I12:Inv X' [] σ8 H10 {s10 with heap:=h'}:=(I10.kg (λ_ z=>nomatch z):Inv X' [] σ8 H10 s10).turned (t':=s10.toks) (λb o W9 e=>Xc.extBut b o W9 e) o3 Dne (.inl (Qk ..)) Dcl (λp hp=>VO (show p∈([]:PD) from hp) (by simp));refine⟨m',hm,i+1,ys++[v10],V1++[uv],k',σ8,H10,I12,T.keep _ _ _ o1 λb W9 o e=>Xc.extBut b o (frD W9) e,o2,o3,vs5.append (.cons r10 .nil),?_,w'⟩;show h'.get? _=_;rw[Xz];simp
 exact codeAny_compStart_list loop (T.self X.A 0 _ _ _ (T.keep 0 _ _ Yv λb _ o e=>Za b o (to3 b o e)) loop)
theorem Off.gone {C:Addr}{h':Heap}(o:Off X VZ H s C)(I:Inv X VZ σ H s)(Xc:U9 C s.heap h'):Inv X VZ σ H {s with heap:=h'}:=
 I.turned (t':=s.toks) (λb u hb e=>Xc.extBut b u hb e) o.free o.ne (.inr o.young) o.cell o.pin
theorem Hj {cl:List (Str×Addr)}{own:PJ}(hc:X.calm=true)(S:gy X scope cl own fr ix)(hi:PI X target iter wi)(hb:∀(C:Addr)(s:S7)(H:Hp)(ex:PM),PG (bZ X scope cl C (own++fr) s H ex) target g/\PF (bZ X scope cl C (own++fr) s H ex) ifs tc/\PE (bZ X scope cl C (own++fr) s H ex) elt te)(hs:∀x,Ts iter X.env x=pure x:=by intro _;rfl):
 PE X (.ListComp elt [⟨target,iter,ifs,0⟩] scope pos) (yW wi g tc te (iW own ix)):=by
 intro VZ s σ H Q I h;rw[eval_ListComp];refine tR (use:=none) hc S hi hb hs I h λD C H6 s6 I6 o6 q=>?_;obtain⟨m,hn⟩:=o6.ns;exact⟨m,hn,λh' Xc=>⟨.ref D,H6,o6.gone I6 Xc,rfl,q⟩⟩
theorem zE {i:Nat}{y:Str}{py Yb:Pos}{cl:List (Str×Addr)}{own:PJ}(WJ:Tf (.ListComp elt [⟨target,iter,ifs,0⟩] scope pos) (some (.Name y py)) Yb.line X.env=pure true)(hN:X.N.Nodup)(hi':X.N[i]?=some y)(hx:Loc X.env.scope y)(hc:X.calm=true)(S:gy X scope cl own fr ix)(hi:PI X target iter wi)(hb:∀(C:Addr)(s:S7)(H:Hp)(ex:PM),PG (bZ X scope cl C (own++fr) s H ex) target g/\PF (bZ X scope cl C (own++fr) s H ex) ifs tc/\PE (bZ X scope cl C (own++fr) s H ex) elt te)(hs:∀x,Ts iter X.env x=pure x:=by intro _;rfl)(hf:fQ X y:=by first | exact .inl rfl | exact .inr rfl | assumption):
 PS X (.Assign [.Name y py] (.ListComp elt [⟨target,iter,ifs,0⟩] scope pos) Yb) (Dq (yW wi g tc te (iW own ix)) (zu i)):=by
 intro VZ s σ H D I h;rw[exec_Assign_Name_used _ _ _ _ WJ];refine S9 (UG (S9 ?_));show wpAny _ _ (do let _ ← comprehension (.ListComp elt [⟨target,iter,ifs,0⟩] scope pos) scope X.env _ (newList []) false (eval iter X.env) (some (TU (.Name y py) X.env))) _ _ s;refine S9 (Tp (tR (use:=some (TU (.Name y py) X.env)) (Qf:=λ_ s'=>SP X VZ D .next s') hc S hi hb hs I h λA C H6 s6 I6 o6 q=>?_) (λ_ s' hq=>Tc (Tc hq)) λ_ _ e=>e);show wpAny _ _ (TU (.Name y py) X.env (.ref A)) _ _ _;refine wpAny_assign_Name (tF I6 hN hi' hx (v:=.ref A) rfl (λs7 I7 hw=>?_) hf);obtain⟨c,hsb7,Y0⟩:=hw;have Yf:C≠c:=by
  rcases Y0 with rfl | Y0
  ·exact o6.ne
  ·exact SN (o6.cell y c Y0)
 obtain⟨m,hn⟩:=o6.ns;have o7:Off X VZ H6 s7 C:=⟨⟨m,hn.sameBut hsb7 Yf⟩,o6.free,o6.ne,o6.young,o6.cell,o6.pin⟩;exact⟨m,hn.sameBut hsb7 Yf,λh' Xc=>⟨_,H6,o7.gone I7 Xc,q⟩⟩
end
end L2
namespace Fc
open PySem PySem.Spec PySem.W PySem.Calls L2
open PyProof.Rows hiding St
variable {X:Cx}{e:Expr}{σ:St}{H:Hp}{v:V}{D:Ends}{Q:VK}
section
variable {t:TT}{Q:Bool->Hp->Prop}
def gK (X:Cx)(e:Expr):TE:=λσ H Q=>∀(VZ:PD)(s:S7),Inv X VZ σ H s->wpAny (model X.prog X.w) X.A (eval e X.env) (EP X VZ σ Q) X.xe s
def Dv (X:Cx)(e:Expr):TT:=λσ H Q=>∀(VZ:PD)(s:S7),Inv X VZ σ H s->wpAny (model X.prog X.w) X.A (T2 e X.env (eval e X.env)) (TP X VZ σ Q) X.xe s
def Ds (X:Cx)(e:Expr):TT:=λσ H Q=>∀(whole:Sem Value)(VZ:PD)(s:S7),Inv X VZ σ H s->wpAny (model X.prog X.w) X.A (T2 e X.env whole) (TP X VZ σ Q) X.xe s
def rQ (X:Cx)(e:Expr):TG:=λv σ H Q=>∀(VZ:PD)(s:S7)(u:Value),Inv X VZ σ H s->RelV v u->wpAny (model X.prog X.w) X.A (TU e X.env u) (λ_ s'=>∃σ' H',Inv X VZ σ' H' s'/\Q σ' H') X.xe s
def El (X:Cx)(st:Stmt):TS:=λD σ H=>∀(VZ:PD)(s:S7),Inv X VZ σ H s->wpAny (model X.prog X.w) X.A (exec st X.env) (SP X VZ D) X.xe s
def ux (X:Cx)(st:List Stmt):TS:=λD σ H=>∀(VZ:PD)(s:S7),Inv X VZ σ H s->wpAny (model X.prog X.w) X.A (execs st X.env) (SP X VZ D) X.xe s
def zy (X:Cx)(es:PQ):TA:=λσ H Q=>∀(pos:Pos)(VZ:PD)(s:S7),Inv X VZ σ H s->wpAny (model X.prog X.w) X.A (spliced (Ui pos (Td es X.env))) (AP X VZ σ Q) X.xe s
def vt (X:Cx)(ifs:PQ):TT:=λσ H Q=>∀(VZ:PD)(s:S7),Inv X VZ σ H s->
 wpAny (model X.prog X.w) X.A (forIn ifs true λc r=>if r=true then do let ok ← T2 c X.env (eval c X.env);pure (P6 ok) else pure (P6 r)) (TP X VZ σ Q) X.xe s
theorem aK:PE X e (gK X e):=λVZ s _ _ _ I h=>h VZ s I
theorem qO:PT X e (Dv X e):=λVZ s _ _ _ I h=>h VZ s I
theorem Iq:PW X e (Ds X e):=λwh VZ s _ _ _ I h=>h wh VZ s I
theorem Nk:PG X e (rQ X e):=λVZ s _ _ _ u _ I r h=>h VZ s u I r
theorem Nm {e:Stmt}:PS X e (El X e):=λVZ s _ _ _ I h=>h VZ s I
theorem jq {e:List Stmt}:kD X e (ux X e):=λVZ s _ _ _ I h=>h VZ s I
theorem nC {e:PQ}:PA X e (zy X e):=λpos VZ s _ _ _ I h=>h pos VZ s I
theorem eS {t:TE}(h:PE X e t){Q:VK}(q:t σ H Q):gK X e σ H Q:=λVZ s I=>h VZ s σ H Q I q
theorem tS (h:PT X e t)(q:t σ H Q):Dv X e σ H Q:=λVZ s I=>h VZ s σ H Q I q
theorem wS (h:PW X e t)(q:t σ H Q):Ds X e σ H Q:=λwh VZ s I=>h wh VZ s σ H Q I q
theorem gS {t:TG}(h:PG X e t){Q:St->Hp->Prop}(q:t v σ H Q):rQ X e v σ H Q:=λVZ s u I r=>h VZ s σ H v u Q I r q
theorem sS {e:Stmt}{t:TS}(h:PS X e t)(q:t D σ H):El X e D σ H:=λVZ s I=>h VZ s σ H D I q
theorem JH {e:List Stmt}{t:TS}(h:kD X e t)(q:t D σ H):ux X e D σ H:=λVZ s I=>h VZ s σ H D I q
theorem aS {e:PQ}{t:TA}(h:PA X e t){Q:List V->Hp->Prop}(q:t σ H Q):zy X e σ H Q:=λpos VZ s I=>h pos VZ s σ H Q I q
theorem fS {e:PQ}(h:PF X e t)(q:t σ H Q):vt X e σ H Q:=λVZ s I=>h VZ s σ H Q I q
end
variable {R:Hp}{α:Type}
theorem aw.fresh {p:Addr}(h:H p=none)(o:HO):aw H (upd H p o):=λb u q=>by rw[aD (c8 q h)];exact q
structure Rep (α:Type) where
 R:Vr->Hp->V->α->Prop
 mono:∀{K:Vr}{H H':Hp}{v:V}{x:α},aw H H'->R K H v x->R K H' v x
def ag:Rep Int:=⟨λ_ _ v x=>v= .int x,λ_ h=>h⟩
def bM:Rep Bool:=⟨λ_ _ v x=>v= .bl x,λ_ h=>h⟩
theorem Paired.map {β:Type}{F G:α->β->Prop}(f:∀a b,F a b->G a b):∀{l:List α}{m:List β},PySem.Paired F l m->PySem.Paired G l m
 | _,_,.nil=>.nil
 | _,_,.cons h t=>.cons (f _ _ h) (Paired.map f t)
def ae (r:Rep α):Rep (List α):=⟨λK H v xs=>∃a vs,v= .ref a/\H a=some (.lst vs)/\PySem.Paired (r.R K H) vs xs/\xs.length<=S8,
 λs ⟨a,vs,e,q,p,z⟩=>⟨a,vs,e,s _ _ q,Paired.map (λ_ _=>r.mono s) p,z⟩⟩
def c6:Rep PH:=⟨λK H v xs=>∃a,v= .ref a/\bt K H a (xs.map V.int)/\xs.length<=63,λs ⟨a,e,q,z⟩=>⟨a,e,s.seq q,z⟩⟩
def dS {β:Type}(r:Rep α)(r':Rep β):Rep (α×β):=⟨λK H v x=>∃a v1 v2,v= .ref a/\H a=some (.tup [v1,v2])/\r.R K H v1 x.1/\r'.R K H v2 x.2,
 λs ⟨a,v1,v2,e,q,h1,h2⟩=>⟨a,v1,v2,e,s _ _ q,r.mono s h1,r'.mono s h2⟩⟩
abbrev Row:=Int×Int×Int×Int
def cX:Rep Row:=⟨λK H v x=>∃a,v= .ref a/\H a=some (.tup [.int x.1,.int x.2.1,.int x.2.2.1,.int x.2.2.2]),λs ⟨a,e,q⟩=>⟨a,e,s _ _ q⟩⟩
abbrev lB:=PH×List Row
def u7:Rep lB:=dS (ae ag) (ae cX)
structure Ext (H R H' R':Hp):Prop where
 h:aw H H'
 r:aw R R'
 s:aw R' H'
 old:∀b,H b≠none->R' b=R b
theorem Ext.refl (s:aw R H):Ext H R H R:=⟨aw.refl _,aw.refl _,s,λ_ _=>rfl⟩
theorem aw.some {H':Hp}(s:aw H H'){b:Addr}(h:H b≠none):H' b≠none:=by
 cases q:H b with
 | none=>exact VO q h
 | some o=>rw[s b o q];exact SQ o
theorem Ext.trans {H1 R1 H2 R2:Hp}(a:Ext H R H1 R1)(b:Ext H1 R1 H2 R2):Ext H R H2 R2:=
 ⟨a.h.trans b.h,a.r.trans b.r,b.s,λc hc=>(b.old c (aw.some a.h hc)).trans (a.old c hc)⟩
theorem Ext.fresh (s:aw R H){p:Addr}(h:H p=none)(o:HO):Ext H R (upd H p o) (upd R p o):=
 ⟨aw.fresh h o,aw.fresh (s.free h) o,λb u q=>by
  by_cases e:b=p
  ·subst e;rw[aB] at q ⊢;exact q
  ·rw[aD e] at q ⊢;exact s b u q,λb hb=>aD λe=>hb (e▸h)⟩
theorem Ext.eD (s:aw R H){p:Addr}(h:H p=none)(o:HO):Ext H R (upd H p o) R:=
 ⟨aw.fresh h o,aw.refl _,s.trans (aw.fresh h o),λ_ _=>rfl⟩
structure oY:Type 1 where
 fp:PM
 R:Vr->Hp->Hp->V->Prop
 loc:∀{K:Vr}{H R0 H' R':Hp}{v:V},(∀a∈fp,H' a=H a)->aw R0 R'->R K H R0 v->R K H' R' v
 has:∀{K:Vr}{H R0:Hp}{v:V},R K H R0 v->∀a∈fp,H a≠none
inductive Ent:Type 1
 | no
 | im {α:Type} (r:Rep α) (x:α)
 | mu {α:Type} (r:Rep α) (xs:List α)
 | di (kvs:List (Int×V))
 | ob (B:oY)
def cz (kvs:List (Int×V)):List (Key×V):=kvs.map λp=>(Sum.inl p.1,p.2)
def Ent.ok (K:Vr)(H R:Hp):Ent->Option V->Prop
 | .no,_=>True
 | .im r x,o=>∃v,o=some v/\r.R K R v x
 | .mu r xs,o=>∃a vs,o=some (.ref a)/\H a=some (.lst vs)/\R a=none/\PySem.Paired (r.R K R) vs xs
 | .di kvs,o=>∃a,o=some (.ref a)/\H a=some (.dK (cz kvs))/\R a=none
 | .ob B,o=>(∃v,o=some v/\B.R K H R v)/\∀a∈B.fp,R a=none
def Ent.own:Ent->Bool
 | .mu .. =>true
 | .di .. =>true
 | _=>false
def refOf:Option V->PM
 | some (.ref a)=>[a]
 | _=>[]
def Ent.fp:Ent->Option V->PM
 | .mu ..,o=>refOf o
 | .di ..,o=>refOf o
 | .ob B,_=>B.fp
 | _,_=>[]
abbrev Ga:=List Ent
structure au (K:Vr)(σ:St)(H0 R0 H R:Hp)(Γ:Ga):Prop where
 ext:Ext H0 R0 H R
 ent:∀(i:Nat)(e:Ent),Γ[i]?=some e->e.ok K H R (σ[i]?).join
 nw:∀(i:Nat)(e:Ent)(a:Addr),Γ[i]?=some e->a∈e.fp (σ[i]?).join->H0 a=none
 ds:∀(i j:Nat)(e e':Ent)(a:Addr),Γ[i]?=some e->Γ[j]?=some e'->a∈e.fp (σ[i]?).join->a∈e'.fp (σ[j]?).join->i=j
 len:Γ.length=σ.length
variable {K:Vr}{H0 R0:Hp}{Γ:Ga}{a:Addr}{o:Option V}{i:Nat}{en:Ent}{Γ':Ga}{r:Rep α}
section
variable {H' R':Hp}
variable {u:HO}
theorem cf:a∈refOf o↔o=some (.ref a):=by
 unfold refOf;split
 ·rw[Qe];constructor
  ·rintro rfl;rfl
  ·intro e;cases e;rfl
 ·rename_i h;constructor
  ·intro z;cases z
  ·intro e;exact VO e (h a)
theorem Ent.qL {e:Ent}(w:e.own=true):a∈e.fp o↔o=some (.ref a):=by
 cases e with
 | no=>cases w
 | im r x=>cases w
 | mu r xs=>exact cf
 | di kvs=>exact cf
 | ob B=>cases w
theorem au.new (E:au K σ H0 R0 H R Γ)(i:Nat)(e:Ent)(a:Addr)(h:Γ[i]?=some e)(w:e.own=true)(ha:(σ[i]?).join=some (.ref a)):H0 a=none:=E.nw i e a h ((Ent.qL w).mpr ha)
theorem Ent.fE {e:Ent}(h:e.ok K H R o)(ha:a∈e.fp o):H a≠none/\R a=none:=by
 cases e with
 | no=>cases ha
 | im r x=>cases ha
 | mu r xs=>
   obtain⟨b,vs,e,q,n,_⟩:=h;rw[Ent.fp,cf,e] at ha;cases ha
   exact⟨by rw[q];exact SQ _,n⟩
 | di kvs=>
   obtain⟨b,e,q,n⟩:=h;rw[Ent.fp,cf,e] at ha;cases ha
   exact⟨by rw[q];exact SQ _,n⟩
 | ob B=>obtain⟨⟨v,e,q⟩,n⟩:=h;exact⟨B.has q a ha,n a ha⟩
theorem Ent.ok.loc {e:Ent}(h:e.ok K H R o)(hH:∀a∈e.fp o,H' a=H a)(hR:aw R R')(hn:∀a∈e.fp o,R' a=none):e.ok K H' R' o:=by
 cases e with
 | no=>trivial
 | im r y=>obtain⟨v,e,q⟩:=h;exact⟨v,e,r.mono hR q⟩
 | mu r xs=>
   obtain⟨a,vs,e,q,n,p⟩:=h;have ha:a∈Ent.fp (.mu r xs) o:=cf.mpr e;exact⟨a,vs,e,(hH a ha).trans q,hn a ha,Paired.map (λ_ _=>r.mono hR) p⟩
 | di kvs=>
   obtain⟨a,e,q,n⟩:=h;have ha:a∈Ent.fp (.di kvs) o:=cf.mpr e;exact⟨a,e,(hH a ha).trans q,hn a ha⟩
 | ob B=>obtain⟨⟨v,e,q⟩,n⟩:=h;exact⟨⟨v,e,B.loc hH hR q⟩,hn⟩
theorem Ent.ok.grow {e:Ent}(h:e.ok K H R o)(x:Ext H R H' R'):e.ok K H' R' o:=by
 refine h.loc (λa ha=>?_) x.r (λa ha=>?_)
 ·cases q:H a with
  | none=>exact VO q (Ent.fE h ha).1
  | some u=>exact x.h _ _ q
 ·obtain⟨h1,h2⟩:=Ent.fE h ha;exact(x.old a h1).trans h2
theorem au.grow (E:au K σ H0 R0 H R Γ)(x:Ext H R H' R'):au K σ H0 R0 H' R' Γ:=
 ⟨E.ext.trans x,λi e h=>(E.ent i e h).grow x,E.nw,E.ds,E.len⟩
theorem au.sub (E:au K σ H0 R0 H R Γ):aw R H:=E.ext.s
def Off (a:Addr)(σ:St)(Γ:Ga):Prop:=∀(i:Nat)(e:Ent),Γ[i]?=some e->a∉e.fp (σ[i]?).join
theorem au.off (E:au K σ H0 R0 H R Γ)(h:H a=none):Off a σ Γ:=λi e q w=>(Ent.fE (E.ent i e q) w).1 h
theorem set_at.{v}{β:Type v}{l:List β}{i:Nat}{y:β}{j:Nat}{e:β}(q:(l.set i y)[j]?=some e):(j=i/\e=y/\i<l.length)∨(j≠i/\l[j]?=some e):=by
 by_cases hj:j=i
 ·subst hj;have hl:j<l.length:=by
   have:=Qc.mp q;simpa using this.1
  rw[Qp hl] at q;exact .inl ⟨rfl,(Option.some.inj q).symm,hl⟩
 ·rw[QB (SN hj)] at q;exact .inr ⟨hj,q⟩
theorem au.setG (E:au K σ H0 R0 H R Γ)(i:Nat)(ho:en.ok K H R (some v))(h0:∀a∈en.fp (some v),H0 a=none)(hf:∀a∈en.fp (some v),∀(j:Nat)(e:Ent),j≠i->Γ[j]?=some e->a∉e.fp (σ[j]?).join):
 au K (σ.set i (some v)) H0 R0 H R (Γ.set i en):=by
 have key:∀(j:Nat)(e:Ent),(Γ.set i en)[j]?=some e->(j=i/\e=en/\((σ.set i (some v))[j]?).join=some v)∨(j≠i/\Γ[j]?=some e/\(σ.set i (some v))[j]?=σ[j]?):=λj e q=>by
  rcases set_at q with⟨rfl,rfl,hl⟩ | ⟨hj,q⟩
  ·exact .inl ⟨rfl,rfl,by rw[Qp (by rw[← E.len];exact hl)];rfl⟩
  ·exact .inr ⟨hj,q,QB (SN hj)⟩
 refine⟨E.ext,λj e q=>?_,λj e a q w=>?_,λj k e e' a q q' w w'=>?_,by rw[QV,QV];exact E.len⟩
 ·rcases key j e q with⟨_,rfl,q2⟩ | ⟨_,q1,q2⟩
  ·rw[q2];exact ho
  ·rw[q2];exact E.ent j e q1
 ·rcases key j e q with⟨_,rfl,q2⟩ | ⟨_,q1,q2⟩
  ·rw[q2] at w;exact h0 a w
  ·rw[q2] at w;exact E.nw j e a q1 w
 ·rcases key j e q with⟨hj,rfl,q2⟩ | ⟨hj,q1,q2⟩
  ·rcases key k e' q' with⟨hk,rfl,ZF⟩ | ⟨hk,Xk,ZF⟩
   ·rw[hj,hk]
   ·rw[q2] at w;rw[ZF] at w';exact VO w' (hf a w k e' hk Xk)
  ·rcases key k e' q' with⟨hk,rfl,ZF⟩ | ⟨hk,Xk,ZF⟩
   ·rw[q2] at w;rw[ZF] at w';exact VO w (hf a w' j e hj q1)
   ·rw[q2] at w;rw[ZF] at w';exact E.ds j k e e' a q1 Xk w w'
theorem au.set (E:au K σ H0 R0 H R Γ)(i:Nat){v:V}{x:α}(h:r.R K R v x):au K (σ.set i (some v)) H0 R0 H R (Γ.set i (.im r x)):=
 E.setG i ⟨v,rfl,h⟩ (λa w=>by cases w) λa w=>by cases w
theorem au.vU (E:au K σ H0 R0 H R Γ)(i:Nat){u:HO}(ho:en.ok K H R (some (.ref a)))(h0:H0 a=none)(hf:∀(j:Nat)(e:Ent),j≠i->Γ[j]?=some e->a∉e.fp (σ[j]?).join)(YX:en.fp (some (.ref a))=[a]:=by rfl):
 au K (σ.set i (some (.ref a))) H0 R0 H R (Γ.set i en):=
 E.setG i ho (λb w=>by rw[YX,Qe] at w;rw[w];exact h0) λb w=>by rw[YX,Qe] at w;rw[w];exact hf
theorem au.mS (E:au K σ H0 R0 H R Γ){e0:Ent}(hi:Γ[i]?=some e0)(ha:a∈e0.fp (σ[i]?).join)(ho:en.ok K (L2.upd H a u) R (σ[i]?).join)(Wq:∀b∈en.fp (σ[i]?).join,b∈e0.fp (σ[i]?).join∨(H0 b=none/\Off b σ Γ)):au K σ H0 R0 (L2.upd H a u) R (Γ.set i en):=by
 have h0:H0 a=none:=E.nw i e0 a hi ha;have hR:R a=none:=(Ent.fE (E.ent i e0 hi) ha).2;refine⟨⟨λb o q=>?_,E.ext.r,λb o q=>?_,E.ext.old⟩,λj e q=>?_,λj e b q w=>?_,λj k e e' b q q' w w'=>?_,by rw[QV];exact E.len⟩
 ·rw[aD (c8 q h0)];exact E.ext.h b o q
 ·rw[aD (c8 q hR)];exact E.ext.s b o q
 ·rcases set_at q with⟨rfl,rfl,_⟩ | ⟨hj,q1⟩
  ·exact ho
  ·refine(E.ent j e q1).loc (λb hb=>aD λz=>hj ?_) (aw.refl _) λb hb=>(Ent.fE (E.ent j e q1) hb).2;rw[z] at hb;exact E.ds j i e e0 a q1 hi hb ha
 ·rcases set_at q with⟨rfl,rfl,_⟩ | ⟨hj,q1⟩
  ·rcases Wq b w with z | z
   ·exact E.nw _ _ b hi z
   ·exact z.1
  ·exact E.nw j e b q1 w
 ·rcases set_at q with⟨rfl,rfl,_⟩ | ⟨hj,q1⟩
  ·rcases set_at q' with⟨rfl,rfl,_⟩ | ⟨hk,Xk⟩
   ·rfl
   ·rcases Wq b w with z | z
    ·exact E.ds _ _ _ _ b hi Xk z w'
    ·exact VO w' (z.2 k e' Xk)
  ·rcases set_at q' with⟨rfl,rfl,_⟩ | ⟨hk,Xk⟩
   ·rcases Wq b w' with z | z
    ·exact E.ds _ _ _ _ b q1 hi w z
    ·exact VO w (z.2 j e q1)
   ·exact E.ds _ _ _ _ b q1 Xk w w'
theorem au.upd (E:au K σ H0 R0 H R Γ){e0 en:Ent}(hi:Γ[i]?=some e0)(w0:e0.own=true)(ha:(σ[i]?).join=some (.ref a))(hR:R a=none)(ho:en.ok K (L2.upd H a u) R (some (.ref a)))(YX:en.fp (some (.ref a))=[a]:=by rfl):
 au K σ H0 R0 (L2.upd H a u) R (Γ.set i en):=
 E.mS hi ((Ent.qL w0).mpr ha) (by rw[ha];exact ho) λb w=>.inl (by rw[ha,YX,Qe] at w;rw[w];exact(Ent.qL w0).mpr ha)
theorem au.qZ (E:au K σ H0 R0 H R Γ)(ha:H a=some u)(hR:R a=none)(h0:H0 a=none)(off:Off a σ Γ):au K σ H0 R0 H (L2.upd R a u) Γ:=by
 have s2:aw R (L2.upd R a u):=aw.fresh hR _;refine⟨⟨E.ext.h,E.ext.r.trans s2,λb o qb=>?_,λb hb=>?_⟩,λi e qe=>?_,E.nw,E.ds,E.len⟩
 ·by_cases hb:b=a
  ·subst hb;rw[aB] at qb;cases qb;exact ha
  ·rw[aD hb] at qb;exact E.ext.s b o qb
 ·rw[aD (show b≠a from λe=>hb (by rw[e];exact h0))];exact E.ext.old b hb
 ·refine(E.ent i e qe).loc (λ_ _=>rfl) s2 λb hb=>?_;rw[aD (show b≠a from λz=>off i e qe (z▸hb))];exact(Ent.fE (E.ent i e qe) hb).2
theorem au.tell (E:au K σ H0 R0 H R Γ){e0:Ent}(hi:Γ[i]?=some e0)(ho:en.ok K H R (σ[i]?).join)(Wq:∀b∈en.fp (σ[i]?).join,b∈e0.fp (σ[i]?).join):au K σ H0 R0 H R (Γ.set i en):=by
 refine⟨E.ext,λj e q=>?_,λj e b q w=>?_,λj k e e' b q q' w w'=>?_,by rw[QV];exact E.len⟩
 ·rcases set_at q with⟨rfl,rfl,_⟩ | ⟨hj,q1⟩
  ·exact ho
  ·exact E.ent j e q1
 ·rcases set_at q with⟨rfl,rfl,_⟩ | ⟨hj,q1⟩
  ·exact E.nw _ _ b hi (Wq b w)
  ·exact E.nw j e b q1 w
 ·rcases set_at q with⟨rfl,rfl,_⟩ | ⟨hj,q1⟩
  ·rcases set_at q' with⟨rfl,rfl,_⟩ | ⟨hk,Xk⟩
   ·rfl
   ·exact E.ds _ _ _ _ b hi Xk (Wq b w) w'
  ·rcases set_at q' with⟨rfl,rfl,_⟩ | ⟨hk,Xk⟩
   ·exact E.ds _ _ _ _ b q1 hi w (Wq b w')
   ·exact E.ds _ _ _ _ b q1 Xk w w'
def Wk:Ga->Ga->Prop
 | [],[]=>True
 | e::r,e'::r'=>(e'=e∨e'= .no)/\Wk r r'
 | _,_=>False
theorem Wk.len:∀{Γ Γ':Ga},Wk Γ Γ'->Γ'.length=Γ.length
 | [],[],_=>rfl
 | _::_,_::_,h=>by rw[Qo,Qo,Wk.len h.2]
theorem Wk.at:∀{Γ Γ':Ga},Wk Γ Γ'->∀(i:Nat)(e:Ent),Γ'[i]?=some e->e= .no∨Γ[i]?=some e
 | [],[],_,i,e,q=>by simp at q
 | a::_,b::_,h,0,e,q=>by
   simp at q;rcases h.1 with z | z
   ·right;simp[← q,z]
   ·left;rw[← q,z]
 | a::r,b::r',h,i+1,e,q=>by
   simp at q;have:=Wk.at h.2 i e q;simpa using this
theorem Wk.refl:∀Γ:Ga,Wk Γ Γ
 | []=>trivial
 | _::r=>⟨.inl rfl,Wk.refl r⟩
theorem au.weak (E:au K σ H0 R0 H R Γ)(w:Wk Γ Γ'):au K σ H0 R0 H R Γ':=by
 refine⟨E.ext,λi e q=>?_,λi e a q z=>?_,λi j e e' a q q' z z'=>?_,w.len.trans E.len⟩
 ·rcases w.at i e q with rfl | q
  ·trivial
  ·exact E.ent i e q
 ·rcases w.at i e q with rfl | q
  ·cases z
  ·exact E.nw i e a q z
 ·rcases w.at i e q with rfl | q
  ·cases z
  ·rcases w.at j e' q' with rfl | q'
   ·cases z'
   ·exact E.ds i j e e' a q q' z z'
end
variable {Γ1 Γ2 Γ3:Ga}{β γ:Type}{pos:Pos}{j:Nat}{n:Int}{b c:Expr}{op:CmpOp}{x:Str}{ys:List α}{ra:Rep α}{rb:Rep β}{rc:Rep γ}{z:γ}
section
def EV (X:Cx)(e:Expr)(Γ:Ga){α:Type}(r:Rep α)(y:α)(Γ':Ga):Prop:=
 ∀(σ:St)(H0 R0 H R:Hp),au X.K σ H0 R0 H R Γ->∀Q:VK,(∀v H' R',au X.K σ H0 R0 H' R' Γ'->aw R R'->r.R X.K R' v y->Q v H')->gK X e σ H Q
def ba (X:Cx)(e:Expr)(Γ:Ga){α:Type}(r:Rep α)(ys:List α)(Γ':Ga):Prop:=
 ∀(σ:St)(H0 R0 H R:Hp),au X.K σ H0 R0 H R Γ->∀Q:VK,(∀a vs H' R',au X.K σ H0 R0 H' R' Γ'->aw R R'->H' a=some (.lst vs)->R' a=none->H0 a=none->Off a σ Γ'->PySem.Paired (r.R X.K R') vs ys->ys.length<=S8->Q (.ref a) H')->gK X e σ H Q
def TV (X:Cx)(e:Expr)(Γ:Ga)(b:Bool)(Γ':Ga):Prop:=
 ∀(σ:St)(H0 R0 H R:Hp),au X.K σ H0 R0 H R Γ->∀Q:Bool->Hp->Prop,(∀H' R',au X.K σ H0 R0 H' R' Γ'->aw R R'->Q b H')->Dv X e σ H Q
def TW (X:Cx)(e:Expr)(Γ:Ga)(b:Bool)(Γ':Ga):Prop:=
 ∀(σ:St)(H0 R0 H R:Hp),au X.K σ H0 R0 H R Γ->∀Q:Bool->Hp->Prop,(∀H' R',au X.K σ H0 R0 H' R' Γ'->aw R R'->Q b H')->Ds X e σ H Q
def TF (X:Cx)(es:PQ)(Γ:Ga)(b:Bool)(Γ':Ga):Prop:=
 ∀(σ:St)(H0 R0 H R:Hp),au X.K σ H0 R0 H R Γ->∀Q:Bool->Hp->Prop,(∀H' R',au X.K σ H0 R0 H' R' Γ'->aw R R'->Q b H')->vt X es σ H Q
def BG (X:Cx)(tg:Expr){α:Type}(r:Rep α)(bf:α->Ga->Ga):Prop:=
 ∀(σ:St)(H0 R0 H R:Hp)(Γ:Ga)(v:V)(x:α),au X.K σ H0 R0 H R Γ->r.R X.K R v x->∀Q:St->Hp->Prop,(∀σ',au X.K σ' H0 R0 H R (bf x Γ)->Q σ' H)->rQ X tg v σ H Q
abbrev RT:=Hp->V->Hp->Hp->Prop
def WS (X:Cx)(W0:List Stmt)(Γ:Ga)(N:Ga->Prop)(T:RT):Prop:=
 ∀(σ:St)(H0 R0 H R:Hp),au X.K σ H0 R0 H R Γ->∀D:Ends,(∀σ' H' R' Γ',au X.K σ' H0 R0 H' R' Γ'->aw R R'->N Γ'->D.nx σ' H')->(∀v H' R',Ext H0 R0 H' R'->T H0 v H' R'->D.rt v H')->ux X W0 D σ H
def W1 (X:Cx)(st:Stmt)(Γ:Ga)(N:Ga->Prop)(T:RT):Prop:=
 ∀(σ:St)(H0 R0 H R:Hp),au X.K σ H0 R0 H R Γ->∀D:Ends,(∀σ' H' R' Γ',au X.K σ' H0 R0 H' R' Γ'->aw R R'->N Γ'->D.nx σ' H')->(∀v H' R',Ext H0 R0 H' R'->T H0 v H' R'->D.rt v H')->El X st D σ H
def cU (K:Vr){β:Type}(r:Rep β)(P:β->Prop):RT:=λ_ v _ R'=>∃y,r.R K R' v y/\P y
theorem ba.im (h:ba X e Γ r ys Γ1):EV X e Γ (ae r) ys Γ1:=by
 intro σ H0 R0 H R E Q q;refine h σ H0 R0 H R E Q λa vs H' R' E' s1 ha hR h0 off p z=>?_;have s2:aw R' (upd R' a (.lst vs)):=aw.fresh hR _;exact q (.ref a) H' (upd R' a (.lst vs)) (E'.qZ ha hR h0 off) (s1.trans s2) ⟨a,vs,rfl,aB,Paired.map (λ_ _=>r.mono s2) p,z⟩
theorem EV.cast {y y':α}(h:EV X e Γ r y Γ1)(e1:y=y'):EV X e Γ r y' Γ1:=e1▸h
theorem TV.cast {b b':Bool}(h:TV X e Γ b Γ1)(e1:b=b'):TV X e Γ b' Γ1:=e1▸h
theorem aa (i:Nat){x:Str}{y:α}(hΓ:Γ[i]?=some (.im r y))(hN:autoParam (At X i x) cg):EV X (.Name x pos) Γ r y Γ:=by
 intro σ H0 R0 H R E Q q;obtain⟨v,e,h⟩:=E.ent i _ hΓ;refine eS (aV hN) ⟨v,?_,q v H R E (aw.refl _) h⟩;cases es:σ[i]? with
 | none=>rw[es] at e;cases e
 | some o=>rw[es] at e;exact congrArg some e
theorem ev_int {i:Int}:EV X (.Constant (.int i) j pos) Γ ag i Γ:=λ_ _ _ _ _ E _ q=>eS rF (q _ _ _ E (aw.refl _) rfl)
theorem eM {b:Bool}:EV X (.Constant (.bool b) j pos) Γ bM b Γ:=λ_ _ _ _ _ E _ q=>eS qM (q _ _ _ E (aw.refl _) rfl)
theorem dO {x:Str}{t:Tok}(hm:X.mg x=some (.int n t))(hg:Gl X x:=by rfl)(hd:WW x:=by decide):EV X (.Name x pos) Γ ag n Γ:=
 λ_ _ _ _ _ E _ q=>eS (ki (v:=.int n) hg hm ⟨t,rfl⟩ hd) (q (.int n) _ _ E (aw.refl _) rfl)
theorem jV {op:Operator}{r2:R2}{a:Expr}{x:α}{y:β}(ho:eJ X (TL op) r2)(ha:EV X a Γ ra x Γ1)(hb:EV X b Γ1 rb y Γ2)(hz:∀(R:Hp) v u H Q,ra.R X.K R v x->rb.R X.K R u y->(∀w,rc.R X.K R w z->Q w H)->r2 v u H Q):EV X (.BinOp a op b pos) Γ rc z Γ2:=by
 intro σ H0 R0 H R E Q q;refine eS (Fm ho aK aK) (ha σ H0 R0 H R E _ λv H1 R1 E1 s1 e1=>hb σ H0 R0 H1 R1 E1 _ λu H2 R2 E2 s2 e2=>?_);exact hz R2 v u H2 _ (ra.mono s2 e1) e2 λw hw=>q w H2 R2 E2 (s1.trans s2) hw
section
variable {a:Expr}{x y z:Int}
theorem ck (ha:EV X a Γ ag x Γ1)(hb:EV X b Γ1 ag y Γ2):EV X (.BinOp a .Add b pos) Γ ag (x+y) Γ2:=jV Iw ha hb λR v u H Q e1 e2 q=>⟨x,y,e1,e2,q _ rfl⟩
theorem iV (ha:EV X a Γ ag x Γ1)(hb:EV X b Γ1 ag y Γ2):EV X (.BinOp a .Sub b pos) Γ ag (x-y) Γ2:=jV IK ha hb λR v u H Q e1 e2 q=>⟨x,y,e1,e2,q _ rfl⟩
theorem AB (ha:EV X a Γ ag x Γ1)(hb:EV X b Γ1 ag y Γ2)(h:yY x y):EV X (.BinOp a .Mult b pos) Γ ag (x*y) Γ2:=jV JM ha hb λR v u H Q e1 e2 q=>⟨x,y,e1,e2,h,q _ rfl⟩
theorem dB (ha:EV X a Γ ag x Γ1)(hb:EV X b Γ1 ag y Γ2)(h:0<y):EV X (.BinOp a .Mod b pos) Γ ag (x%y) Γ2:=jV J9 ha hb λR v u H Q e1 e2 q=>⟨x,y,e1,e2,h,q _ rfl⟩
theorem mh (ha:EV X a Γ ag x Γ1)(hb:EV X b Γ1 ag y Γ2)(h:HH x y):EV X (.BinOp a .FloorDiv b pos) Γ ag (x/y) Γ2:=jV FC ha hb λR v u H Q e1 e2 q=>⟨x,y,e1,e2,h,q _ rfl⟩
theorem uR (ha:EV X a Γ ag x Γ1)(hb:EV X b Γ1 ag y Γ2)(h:KD x y):EV X (.BinOp a .Pow b pos) Γ ag (x ^ y.toNat) Γ2:=jV Hr ha hb λR v u H Q e1 e2 q=>⟨x,y,e1,e2,h,q _ rfl⟩
theorem cO (ha:EV X a Γ ag x Γ1):EV X (.UnaryOp .USub a pos) Γ ag (-x) Γ1:=by
 intro σ H0 R0 H R E Q q;exact eS (Lm KQ aK) (ha σ H0 R0 H R E _ λv H1 R1 E1 s1 e1=>⟨x,e1,q _ H1 R1 E1 s1 rfl⟩)
end
structure iy (X:Cx)(op:CmpOp){α β:Type}(ra:Rep α)(rb:Rep β)(x:α)(y:β)(k:Bool):Prop where
 r2:∃r,eJ X (Tj op) r/\∀(R H:Hp) v u Q,aw R H->ra.R X.K R v x->rb.R X.K R u y->Q (.bl k) H->r v u H Q
theorem fu {a:Expr}{x:α}{y:β}{k:Bool}(c:iy X op ra rb x y k)(ha:EV X a Γ ra x Γ1)(hb:EV X b Γ1 rb y Γ2)(hm:Tx op b=false:=by first | exact qq _ | with_unfolding_all rfl):
 EV X (.Compare a [op] [b] pos) Γ bM k Γ2:=by
 obtain⟨r,ho,hr⟩:=c.r2;intro σ H0 R0 H R E Q q;refine eS (Gj ho aK aK hm) (ha σ H0 R0 H R E _ λv H1 R1 E1 s1 e1=>hb σ H0 R0 H1 R1 E1 _ λu H2 R2 E2 s2 e2=>?_);exact hr R2 H2 v u _ E2.sub (ra.mono s2 e1) e2 (q _ H2 R2 E2 (s1.trans s2) rfl)
theorem aA {a:Expr}{x:α}{y:β}{k:Bool}(c:iy X op ra rb x y k)(ha:EV X a Γ ra x Γ1)(hb:EV X b Γ1 rb y Γ2)(hm:Tx op b=false:=by first | exact qq _ | with_unfolding_all rfl):
 TV X (.Compare a [op] [b] pos) Γ k Γ2:=by
 obtain⟨r,ho,hr⟩:=c.r2;intro σ H0 R0 H R E Q q;refine tS (F9 ho aK aK hm) (ha σ H0 R0 H R E _ λv H1 R1 E1 s1 e1=>hb σ H0 R0 H1 R1 E1 _ λu H2 R2 E2 s2 e2=>?_);exact hr R2 H2 v u _ E2.sub (ra.mono s2 e1) e2 ⟨k,rfl,q H2 R2 E2 (s1.trans s2)⟩
section
variable {x y:Int}
theorem i9:iy X .Lt ag ag x y (decide (x<y)):=⟨_,K9,λR H v u Q _ e1 e2 q=>⟨x,y,e1,e2,q⟩⟩
theorem jJ:iy X .LtE ag ag x y (decide (x<=y)):=⟨_,LV,λR H v u Q _ e1 e2 q=>⟨x,y,e1,e2,q⟩⟩
theorem kM:iy X .Gt ag ag x y (decide (y<x)):=⟨_,L4,λR H v u Q _ e1 e2 q=>⟨x,y,e1,e2,q⟩⟩
theorem OC:iy X .GtE ag ag x y (decide (y<=x)):=⟨_,MC,λR H v u Q _ e1 e2 q=>⟨x,y,e1,e2,q⟩⟩
theorem fT:iy X .Eq ag ag x y (decide (x=y)):=⟨_,Fe,λR H v u Q _ e1 e2 q=>by
 cases e1;cases e2
 exact⟨rfl,by rw[show decide (V.int x=V.int y)=decide (x=y) by rw[oG];exact P1 x y];exact q⟩⟩
theorem y6:iy X .NotEq ag ag x y (!decide (x=y)):=⟨_,zc,λR H v u Q _ e1 e2 q=>by
 cases e1;cases e2
 exact⟨rfl,by rw[show decide (V.int x=V.int y)=decide (x=y) by rw[oG];exact P1 x y];exact q⟩⟩
theorem uo {x y:Bool}:iy X .NotEq bM bM x y (!decide (x=y)):=⟨_,zc,λR H v u Q _ e1 e2 q=>by
 cases e1;cases e2
 exact⟨rfl,by rw[show decide (V.bl x=V.bl y)=decide (x=y) by rw[vM];exact P1 x y];exact q⟩⟩
end
variable {a:Expr}{x:Bool}{y:Bool}{rest:PQ}
theorem nu {XG:CmpOp}{x:α}{y:β}{k k':Bool}(c1:iy X op ra rb x y k)(c2:iy X XG rb rc y z k')(ha:EV X a Γ ra x Γ)(hb:EV X b Γ rb y Γ)(hc:EV X c Γ rc z Γ)(hm:lastMarks [op,XG] [b,c]=false:=by with_unfolding_all rfl):EV X (.Compare a [op,XG] [b,c] pos) Γ bM (k&&k') Γ:=by
 obtain⟨r,ho,hr⟩:=c1.r2;obtain⟨r',Xs,WY⟩:=c2.r2;intro σ H0 R0 H R E Q q;refine eS (CG ho Xs aK aK aK hm) (ha σ H0 R0 H R E _ λv H1 R1 E1 s1 e1=>hb σ H0 R0 H1 R1 E1 _ λu H2 R2 E2 s2 e2=>?_);refine hr R2 H2 v u _ E2.sub (ra.mono s2 e1) e2 ⟨k,rfl,?_⟩;cases k with
 | false=>exact nq (q _ H2 R2 E2 (s1.trans s2) rfl)
 | true=>exact m7 (hc σ H0 R0 H2 R2 E2 _ λw H3 R3 E3 s3 e3=>WY R3 H3 u w _ E3.sub (rb.mono s3 e2) e3 (q _ H3 R3 E3 (s1.trans (s2.trans s3)) rfl))
theorem jf {XG:CmpOp}{x:α}{y:β}{k k':Bool}(c1:iy X op ra rb x y k)(c2:iy X XG rb rc y z k')(ha:EV X a Γ ra x Γ)(hb:EV X b Γ rb y Γ)(hc:EV X c Γ rc z Γ)(hm:lastMarks [op,XG] [b,c]=false:=by with_unfolding_all rfl):TV X (.Compare a [op,XG] [b,c] pos) Γ (k&&k') Γ:=by
 obtain⟨r,ho,hr⟩:=c1.r2;obtain⟨r',Xs,WY⟩:=c2.r2;intro σ H0 R0 H R E Q q;refine tS (D9 ho Xs aK aK aK hm) (ha σ H0 R0 H R E _ λv H1 R1 E1 s1 e1=>hb σ H0 R0 H1 R1 E1 _ λu H2 R2 E2 s2 e2=>?_);refine hr R2 H2 v u _ E2.sub (ra.mono s2 e1) e2 ⟨k,rfl,?_⟩;cases k with
 | false=>exact nq ⟨false,rfl,q H2 R2 E2 (s1.trans s2)⟩
 | true=>exact m7 (hc σ H0 R0 H2 R2 E2 _ λw H3 R3 E3 s3 e3=>WY R3 H3 u w _ E3.sub (rb.mono s3 e2) e3 ⟨k',rfl,q H3 R3 E3 (s1.trans (s2.trans s3))⟩)
theorem iG {op:BoolOp}{x:α}(h:EV X a Γ r x Γ1):EV X (.BoolOp op [a] pos) Γ r x Γ1:=λσ H0 R0 H R E Q q=>eS (HU aK) (h σ H0 R0 H R E Q q)
theorem gT (ha:EV X a Γ bM x Γ)(hb:x=true->EV X (.BoolOp .And (b::rest) pos) Γ bM y Γ):EV X (.BoolOp .And (a::b::rest) pos) Γ bM (x&&y) Γ:=by
 intro σ H0 R0 H R E Q q;refine eS (JF aK aK) (ha σ H0 R0 H R E _ λv H1 R1 E1 s1 e1=>⟨x,e1,?_⟩);cases x with
 | false=>exact nq (q _ H1 R1 E1 s1 rfl)
 | true=>exact m7 (hb rfl σ H0 R0 H1 R1 E1 _ λw H3 R3 E3 s3 e3=>q w H3 R3 E3 (s1.trans s3) e3)
theorem K7 (ha:EV X a Γ bM x Γ)(hb:x=false->EV X (.BoolOp .Or (b::rest) pos) Γ bM y Γ):EV X (.BoolOp .Or (a::b::rest) pos) Γ bM (x ||y) Γ:=by
 intro σ H0 R0 H R E Q q;refine eS (MG aK aK) (ha σ H0 R0 H R E _ λv H1 R1 E1 s1 e1=>⟨x,e1,?_⟩);cases x with
 | true=>exact m7 (q _ H1 R1 E1 s1 rfl)
 | false=>exact nq (hb rfl σ H0 R0 H1 R1 E1 _ λw H3 R3 E3 s3 e3=>q w H3 R3 E3 (s1.trans s3) e3)
theorem vx (ha:EV X a Γ bM x Γ1):EV X (.UnaryOp .Not a pos) Γ bM (!x) Γ1:=by
 intro σ H0 R0 H R E Q q;exact eS (Ih aK) (ha σ H0 R0 H R E _ λv H1 R1 E1 s1 e1=>⟨x,e1,q _ H1 R1 E1 s1 rfl⟩)
theorem dh (ha:TV X a Γ x Γ1):TV X (.UnaryOp .Not a pos) Γ (!x) Γ1:=by
 intro σ H0 R0 H R E Q q;exact tS (Ji qO) (ha σ H0 R0 H R E _ λH1 R1 E1 s1=>q H1 R1 E1 s1)
theorem TW.tv {b:Bool}(h:TW X e Γ b Γ1):TV X e Γ b Γ1:=λσ H0 R0 H R E Q q=>tS (Iq.pt) (h σ H0 R0 H R E Q q)
theorem eO (ha:TV X a Γ x Γ1):TW X (.BoolOp .And [a] pos) Γ x Γ1:=λσ H0 R0 H R E Q q=>wS (GZ qO) (ha σ H0 R0 H R E Q q)
theorem fF (ha:TV X a Γ x Γ1):TW X (.BoolOp .Or [a] pos) Γ x Γ1:=λσ H0 R0 H R E Q q=>wS (J8 qO) (ha σ H0 R0 H R E Q q)
theorem dg (ha:TV X a Γ x Γ)(hb:x=true->TW X (.BoolOp .And (b::rest) pos) Γ y Γ):TW X (.BoolOp .And (a::b::rest) pos) Γ (x&&y) Γ:=by
 intro σ H0 R0 H R E Q q;refine wS (KN qO Iq) (ha σ H0 R0 H R E _ λH1 R1 E1 s1=>?_);cases x with
 | false=>exact nq (q H1 R1 E1 s1)
 | true=>exact m7 (hb rfl σ H0 R0 H1 R1 E1 _ λH3 R3 E3 s3=>q H3 R3 E3 (s1.trans s3))
theorem gu (ha:TV X a Γ x Γ)(hb:x=false->TW X (.BoolOp .Or (b::rest) pos) Γ y Γ):TW X (.BoolOp .Or (a::b::rest) pos) Γ (x ||y) Γ:=by
 intro σ H0 R0 H R E Q q;refine wS (Ms qO Iq) (ha σ H0 R0 H R E _ λH1 R1 E1 s1=>?_);cases x with
 | true=>exact m7 (q H1 R1 E1 s1)
 | false=>exact nq (hb rfl σ H0 R0 H1 R1 E1 _ λH3 R3 E3 s3=>q H3 R3 E3 (s1.trans s3))
theorem bL {k:Bool}(ha:EV X a Γ bM k Γ1)(he:∀whole,T2 a X.env whole=(do let v ← whole;Ue a.pos;TK [v] (truthy v)):=by intro _;rfl):TV X a Γ k Γ1:=by
 intro σ H0 R0 H R E Q q;exact tS (Kr aK he) (ha σ H0 R0 H R E _ λv H1 R1 E1 s1 e1=>⟨k,e1,q H1 R1 E1 s1⟩)
theorem dk:TF X [] Γ true Γ:=λσ H0 R0 H R E Q q=>fS Kf (q H R E (aw.refl _))
theorem gF {b:Bool}(h:TV X c Γ b Γ1):TF X [c] Γ b Γ1:=λσ H0 R0 H R E Q q=>fS (Jj qO) (h σ H0 R0 H R E Q q)
theorem lH {k:Bool}{x y:α}(hc:TV X c Γ k Γ1)(ha:k=true->EV X a Γ1 r x Γ2)(hb:k=false->EV X b Γ1 r y Γ2):EV X (.IfExp c a b pos) Γ r (if k then x else y) Γ2:=by
 intro σ H0 R0 H R E Q q;refine eS (Dn qO aK aK) (hc σ H0 R0 H R E _ λH1 R1 E1 s1=>?_);cases k with
 | true=>exact m7 (ha rfl σ H0 R0 H1 R1 E1 _ λv H3 R3 E3 s3 e3=>q v H3 R3 E3 (s1.trans s3) e3)
 | false=>exact nq (hb rfl σ H0 R0 H1 R1 E1 _ λv H3 R3 E3 s3 e3=>q v H3 R3 E3 (s1.trans s3) e3)
end
variable {δ:Type}{es:PQ}{xs:List α}{p1 p2:Pos}{r':Rep β}{F:α->β->Prop}
section
variable {i:Int}{x:α}{a:Expr}
structure Pk:Type 1 where
 {α:Type}
 r:Rep α
 x:α
inductive lh (K:Vr) (R:Hp):List V->List Pk->Prop
 | nil:lh K R [] []
 | cons {v:V} {vs:List V} {p:Pk} {ps:List Pk}:p.r.R K R v p.x->lh K R vs ps->lh K R (v::vs) (p::ps)
def HA (X:Cx)(es:PQ)(Γ:Ga)(ps:List Pk)(Γ':Ga):Prop:=
 ∀(σ:St)(H0 R0 H R:Hp),au X.K σ H0 R0 H R Γ->∀Q:List V->Hp->Prop,(∀vs H' R',au X.K σ H0 R0 H' R' Γ'->aw R R'->lh X.K R' vs ps->Q vs H')->zy X es σ H Q
theorem ax:HA X [] Γ [] Γ:=λσ H0 R0 H R E Q q=>aS bo (q [] H R E (aw.refl _) .nil)
theorem ah {ps:List Pk}(he:EV X e Γ r x Γ1)(hr:HA X es Γ1 ps Γ2)(hs:du X e es:=by rfl):HA X (e::es) Γ (⟨r,x⟩::ps) Γ2:=by
 intro σ H0 R0 H R E Q q;refine aS (aH aK nC hs) (he σ H0 R0 H R E _ λv H1 R1 E1 s1 e1=>hr σ H0 R0 H1 R1 E1 _ λvs H2 R2 E2 s2 e2=>?_);exact q (v::vs) H2 R2 E2 (s1.trans s2) (.cons (r.mono s2 e1) e2)
def EA (X:Cx)(es:PQ)(Γ:Ga){α:Type}(r:Rep α)(ys:List α)(Γ':Ga):Prop:=
 ∀(σ:St)(H0 R0 H R:Hp),au X.K σ H0 R0 H R Γ->∀Q:List V->Hp->Prop,(∀vs H' R',au X.K σ H0 R0 H' R' Γ'->aw R R'->PySem.Paired (r.R X.K R') vs ys->Q vs H')->zy X es σ H Q
theorem aL:EA X [] Γ r [] Γ:=λσ H0 R0 H R E Q q=>aS bo (q [] H R E (aw.refl _) .nil)
theorem ak (he:EV X e Γ r x Γ1)(hr:EA X es Γ1 r ys Γ2)(hs:du X e es:=by rfl):EA X (e::es) Γ r (x::ys) Γ2:=by
 intro σ H0 R0 H R E Q q;refine aS (aH aK nC hs) (he σ H0 R0 H R E _ λv H1 R1 E1 s1 e1=>hr σ H0 R0 H1 R1 E1 _ λvs H2 R2 E2 s2 e2=>?_);exact q (v::vs) H2 R2 E2 (s1.trans s2) (.cons (r.mono s2 e1) e2)
theorem aR (h:EA X es Γ r ys Γ1)(hz:ys.length<=S8):ba X (.List es pos) Γ r ys Γ1:=by
 intro σ H0 R0 H R E Q q;refine eS (wO nC) (h σ H0 R0 H R E _ λvs H1 R1 E1 s1 p1=>⟨by rw[p1.length];exact hz,λp hp=>?_⟩);exact q p vs _ R1 (E1.grow (Ext.eD E1.sub hp _)) s1 aB (E1.sub.free hp) (E1.ext.h.free hp) (E1.off hp) p1 hz
theorem sU {k:Nat}{y:β}(h:HA X [a,b] Γ [⟨r,x⟩,⟨r',y⟩] Γ1):EV X (.Tuple [a,b] k pos) Γ (dS r r') (x,y) Γ1:=by
 intro σ H0 R0 H R E Q q;refine eS (qw nC) (h σ H0 R0 H R E _ λvs H1 R1 E1 s1 p1=>?_);obtain⟨h1,h2⟩:∃v1 v2,vs=[v1,v2]/\r.R X.K R1 v1 x/\r'.R X.K R1 v2 y:=by
  cases p1 with
  | cons a1 t=>cases t with
    | cons a2 t2=>cases t2;exact⟨_,_,rfl,a1,a2⟩
 obtain⟨v2,rfl,e1,e2⟩:=h2;refine⟨by show 2<=S8;decide,λp hp=>?_⟩;have s2:aw R1 (upd R1 p (.tup [h1,v2])):=aw.fresh (E1.sub.free hp) _;exact q _ _ (upd R1 p (.tup [h1,v2])) (E1.grow (Ext.fresh E1.sub hp _)) (s1.trans s2) ⟨p,_,_,rfl,aB,r.mono s2 e1,r'.mono s2 e2⟩
theorem ft {F:α->β->Prop}:∀{vs:List α}{xs:List β},PySem.Paired F vs xs->∀{i:Nat}{y:β},xs[i]?=some y->∃v,vs[i]?=some v/\F v y
 | _,_,.nil,i,y,h=>by simp at h
 | _,_,.cons h t,0,y,e=>by simp at e;subst e;exact⟨_,rfl,h⟩
 | _,_,.cons h t,i+1,y,e=>by
   obtain⟨v,e1,e2⟩:=ft t (i:=i) (y:=y) (by simpa using e);exact⟨v,by simpa using e1,e2⟩
theorem iL {vs:List α}{xs:List β}(p:PySem.Paired F vs xs){y:β}(h:cE xs i=some y):∃v,cE vs i=some v/\F v y:=by
 unfold cE at h ⊢;rw[p.length];cases e:ij xs.length i with
 | none=>rw[e] at h;cases h
 | some j=>rw[e] at h;exact ft p h
theorem gP (h0:0<=i)(h1:i<xs.length):cE xs i=xs[i.toNat]?:=by
 have e:i=((i.toNat:Nat):Int):=by omega
 have hl:i.toNat<xs.length:=by omega
 have q:cE xs ((i.toNat:Nat):Int)=some xs[i.toNat]:=Gm (Qd hl);rw[← e] at q;rw[q,Qd hl]
theorem a9 {y:α}(ha:EV X a Γ (ae r) xs Γ1)(hb:EV X b Γ1 ag i Γ2)(h:cE xs i=some y)(hs:eL b:=by exact λ_ _=>rfl):EV X (.Subscript a b pos) Γ r y Γ2:=by
 intro σ H0 R0 H R E Q q;refine eS (gG iz aK aK hs) (ha σ H0 R0 H R E _ λv H1 R1 E1 s1 e1=>hb σ H0 R0 H1 R1 E1 _ λu H2 R2 E2 s2 e2=>?_);obtain⟨p,vs,rfl,ha,pp,z⟩:=(ae r).mono s2 e1;obtain⟨w,e3,e4⟩:=iL pp h;exact⟨p,vs,i,w,rfl,e2,bt.of (E2.sub _ _ ha),e3,q w H2 R2 E2 (s1.trans s2) e4⟩
theorem vI {xs:PH}{y:Int}(ha:EV X a Γ c6 xs Γ1)(hb:EV X b Γ1 ag i Γ2)(h:cE xs i=some y)(hs:eL b:=by exact λ_ _=>rfl):EV X (.Subscript a b pos) Γ ag y Γ2:=by
 intro σ H0 R0 H R E Q q;refine eS (gG iz aK aK hs) (ha σ H0 R0 H R E _ λv H1 R1 E1 s1 e1=>hb σ H0 R0 H1 R1 E1 _ λu H2 R2 E2 s2 e2=>?_);obtain⟨p,rfl,ha,z⟩:=c6.mono s2 e1;have e3:cE (xs.map V.int) i=some (.int y):=by
  unfold cE at h ⊢;rw[Qg];cases e:ij xs.length i with
  | none=>rw[e] at h;cases h
  | some j=>
    rw[e] at h;show(xs.map V.int)[j]?=_;rw[Ql,show xs[j]?=some y from h];rfl
 exact⟨p,_,i,_,rfl,e2,E2.sub.seq ha,e3,q _ H2 R2 E2 (s1.trans s2) rfl⟩
theorem Ba (j:Nat){x:Str}{y:α}(hb:EV X b Γ ag i Γ1)(hΓ:Γ[j]?=some (.mu r xs))(hΓ1:Γ1[j]?=some (.mu r xs))(h:cE xs i=some y)(hN:X.N[j]?=some x:=by rfl)(hv:autoParam (BR X.env.scope x) vA1)(hs:eL b:=by exact λ_ _=>rfl)(hd:WW x:=by decide)(X0:Cd0 x:=by decide):EV X (.Subscript (.Name x p1) b pos) Γ r y Γ1:=by
 intro σ H0 R0 H R E Q q;obtain⟨a,vs,e,_,_,_⟩:=E.ent j _ hΓ;refine eS (gG iz (aV ⟨hN,hv,hd,X0⟩) aK hs) ⟨.ref a,?_,hb σ H0 R0 H R E _ λu H2 R2 E2 s2 e2=>?_⟩
 ·cases es:σ[j]? with
  | none=>rw[es] at e;cases e
  | some o=>rw[es] at e;exact congrArg some e
 ·obtain⟨a',WC,e',ha,hR,pp⟩:=E2.ent j _ hΓ1;rw[e] at e';cases e'
  obtain⟨w,e3,e4⟩:=iL pp h;exact⟨a,WC,i,w,rfl,e2,bt.of ha,e3,q w H2 R2 E2 s2 e4⟩
section
variable {a:Expr}{w:Row}
theorem lW {x:α}{y:β}(ha:EV X a Γ r x Γ1)(k:∀(R:Hp) v,r.R X.K R v x->∃p vs w,v= .ref p/\R p=some (.tup vs)/\cE vs n=some w/\r'.R X.K R w y):EV X (.Subscript a (.Constant (.int n) j p1) pos) Γ r' y Γ1:=by
 intro σ H0 R0 H R E Q q;refine eS (gG rE aK rF (λ_ _=>rfl)) (ha σ H0 R0 H R E _ λv H1 R1 E1 s1 e1=>?_);obtain⟨p,vs,w,rfl,hp,e3,e4⟩:=k R1 v e1;exact⟨p,vs,n,w,rfl,rfl,dR.of (E1.sub _ _ hp),e3,q w H1 R1 E1 s1 e4⟩
theorem sr (ha:EV X a Γ cX w Γ1):EV X (.Subscript a (.Constant (.int 0) j p1) pos) Γ ag w.1 Γ1:=lW ha λR v ⟨p,e,h⟩=>⟨p,_,_,e,h,rfl,rfl⟩
theorem oH (ha:EV X a Γ cX w Γ1):EV X (.Subscript a (.Constant (.int 1) j p1) pos) Γ ag w.2.1 Γ1:=lW ha λR v ⟨p,e,h⟩=>⟨p,_,_,e,h,rfl,rfl⟩
theorem sk (ha:EV X a Γ cX w Γ1):EV X (.Subscript a (.Constant (.int 2) j p1) pos) Γ ag w.2.2.1 Γ1:=lW ha λR v ⟨p,e,h⟩=>⟨p,_,_,e,h,rfl,rfl⟩
theorem sT (ha:EV X a Γ cX w Γ1):EV X (.Subscript a (.Constant (.int 3) j p1) pos) Γ ag w.2.2.2 Γ1:=lW ha λR v ⟨p,e,h⟩=>⟨p,_,_,e,h,rfl,rfl⟩
theorem nZ {x:α×β}(ha:EV X a Γ (dS r r') x Γ1):EV X (.Subscript a (.Constant (.int 0) j p1) pos) Γ r x.1 Γ1:=lW ha λR v ⟨p,v1,v2,e,h,h1,h2⟩=>⟨p,_,v1,e,h,rfl,h1⟩
theorem jC {x:α×β}(ha:EV X a Γ (dS r r') x Γ1):EV X (.Subscript a (.Constant (.int 1) j p1) pos) Γ r' x.2 Γ1:=lW ha λR v ⟨p,v1,v2,e,h,h1,h2⟩=>⟨p,_,v2,e,h,rfl,h2⟩
end
variable {a:Expr}
def OV (X:Cx)(e:Option Expr)(Γ:Ga)(o:Option Int):Prop:=∃t,PO X e t/\∀(σ:St)(H0 R0 H R:Hp),au X.K σ H0 R0 H R Γ->∀Q:Option Int->Hp->Prop,(∀H' R',au X.K σ H0 R0 H' R' Γ->aw R R'->Q o H')->t σ H Q
theorem ov_none:OV X none Γ none:=⟨_,GL,λσ H0 R0 H R E Q q=>q H R E (aw.refl _)⟩
theorem ov_some {i:Int}(h:EV X e Γ ag i Γ):OV X (some e) Γ (some i):=⟨_,GB aK,λσ H0 R0 H R E Q q=>h σ H0 R0 H R E _ λv H1 R1 E1 s1 e1=>⟨i,e1,q H1 R1 E1 s1⟩⟩
def cut (xs:List α)(lo hi:Option Int):List α:=(xs.drop (HT.Wd xs.length 0 lo)).take (HT.Wd xs.length xs.length hi-HT.Wd xs.length 0 lo)
theorem lS {F:α->β->Prop}:∀(n:Nat){vs:List α}{xs:List β},PySem.Paired F vs xs->PySem.Paired F (vs.drop n) (xs.drop n)
 | 0,_,_,h=>h
 | _+1,_,_,.nil=>.nil
 | n+1,_,_,.cons _ t=>lS n t
theorem jt {F:α->β->Prop}:∀(n:Nat){vs:List α}{xs:List β},PySem.Paired F vs xs->PySem.Paired F (vs.take n) (xs.take n)
 | 0,_,_,_=>.nil
 | _+1,_,_,.nil=>.nil
 | n+1,_,_,.cons h t=>.cons h (jt n t)
theorem fk {F:α->β->Prop}:∀{vs:List α}{xs:List β}{WC:List α}{xs':List β},PySem.Paired F vs xs->PySem.Paired F WC xs'->PySem.Paired F (vs++WC) (xs++xs')
 | _,_,_,_,.nil,h=>h
 | _,_,_,_,.cons h t,h'=>.cons h (fk t h')
theorem zT (xs:List α)(lo hi:Option Int):(cut xs lo hi).length<=xs.length:=by
 unfold cut;rw[QA,Ro];omega
theorem lx {lo hi:Option Expr}{l h:Option Int}(ha:EV X a Γ (ae r) xs Γ)(hl:OV X lo Γ l)(hh:OV X hi Γ h):ba X (.Subscript a (.Slice lo hi none p2) pos) Γ r (cut xs l h) Γ:=by
 intro σ H0 R0 H R E Q q;obtain⟨tl,pl,kl⟩:=hl;obtain⟨th,ph,kh⟩:=hh;refine eS (nt Gf aK pl ph) (ha σ H0 R0 H R E _ λv H1 R1 E1 s1 e1=>kl σ H0 R0 H1 R1 E1 _ λH2 R2 E2 s2=>kh σ H0 R0 H2 R2 E2 _ λH3 R3 E3 s3=>?_);obtain⟨p,vs,rfl,hp,pp,z⟩:=(ae r).mono (s2.trans s3) e1;refine⟨p,vs,rfl,bt.of (E3.sub _ _ hp),λd hd=>?_⟩;refine q d _ _ R3 (E3.grow (Ext.eD E3.sub hd _)) (s1.trans (s2.trans s3)) aB (E3.sub.free hd) (E3.ext.h.free hd) (E3.off hd) ?_ (Sh (zT _ _ _) z);unfold cut lL;rw[pp.length];exact jt _ (lS _ pp)
theorem cM (ha:EV X a Γ (ae r) xs Γ1)(hb:EV X b Γ1 (ae r) ys Γ2)(hz:xs.length+ys.length<=S8):ba X (.BinOp a .Add b pos) Γ r (xs++ys) Γ2:=by
 intro σ H0 R0 H R E Q q;refine eS (Fm IQ aK aK) (ha σ H0 R0 H R E _ λv H1 R1 E1 s1 e1=>hb σ H0 R0 H1 R1 E1 _ λu H2 R2 E2 s2 e2=>?_);obtain⟨p,vs,rfl,hp,pp,z⟩:=(ae r).mono s2 e1;obtain⟨p',ws,rfl,hp',W6,z'⟩:=e2;refine⟨p,p',vs,ws,rfl,rfl,E2.sub _ _ hp,E2.sub _ _ hp',by rw[pp.length,W6.length];exact hz,λd hd=>?_⟩;exact q d _ _ R2 (E2.grow (Ext.eD E2.sub hd _)) (s1.trans s2) aB (E2.sub.free hd) (E2.ext.h.free hd) (E2.off hd) (fk pp W6) (by rw[Qj];exact hz)
theorem dy {p:Pos}(hm:X.mg "len"=none)(ha:EV X a Γ (ae r) xs Γ1)(hs:fK X a:=by rfl)(hg:Gl X "len":=by rfl):EV X (.Call (.Name "len" p) [a] [] pos) Γ ag (xs.length:Int) Γ1:=by
 intro σ H0 R0 H R E Q q;refine eS (ee fH hg hm Tu (aH aK bo hs) (by decide) (by decide) hs) (ha σ H0 R0 H R E _ λv H1 R1 E1 s1 e1=>?_);obtain⟨p,vs,rfl,hp,pp,z⟩:=e1;refine⟨p,vs,rfl,.inl (bt.of (E1.sub _ _ hp)),?_⟩;rw[pp.length];exact q _ H1 R1 E1 s1 rfl
theorem sD {p:Pos}{xs:PH}(hm:X.mg "len"=none)(ha:EV X a Γ c6 xs Γ1)(hs:fK X a:=by rfl)(hg:Gl X "len":=by rfl):EV X (.Call (.Name "len" p) [a] [] pos) Γ ag (xs.length:Int) Γ1:=by
 intro σ H0 R0 H R E Q q;refine eS (ee fH hg hm Tu (aH aK bo hs) (by decide) (by decide) hs) (ha σ H0 R0 H R E _ λv H1 R1 E1 s1 e1=>?_);obtain⟨p,rfl,hp,z⟩:=e1;refine⟨p,_,rfl,.inl (E1.sub.seq hp),?_⟩;rw[Qg];exact q _ H1 R1 E1 s1 rfl
end
variable {y:Str}{N:Ga->Prop}{T:RT}{st:Stmt}
theorem Ka (w:Wk Γ Γ')(h:N Γ'):WS X [] Γ N T:=λσ H0 R0 H R E D dn dr=>JH Gy (dn σ H R Γ' (E.weak w) (aw.refl _) h)
theorem aF (h:N Γ):WS X [] Γ N T:=Ka (Wk.refl Γ) h
theorem ai {rest:List Stmt}(h:W1 X st Γ (λΓ'=>WS X rest Γ' N T) T):WS X (st::rest) Γ N T:=λσ H0 R0 H R E D dn dr=>
 JH (Eb Nm jq) (h σ H0 R0 H R E {D with nx:=ux X rest D} (λσ' H' R' Γ' E' s' h'=>h' σ' H0 R0 H' R' E' D (λσ2 H2 R2 Γ2 E2 s2=>dn σ2 H2 R2 Γ2 E2 (s'.trans s2)) dr) dr)
theorem aj (h:W1 X st Γ N T):WS X [st] Γ N T:=λσ H0 R0 H R E D dn dr=>JH (G4 Nm) (h σ H0 R0 H R E D dn dr)
theorem bg (i:Nat){y:α}(he:EV X e Γ r y Γ1)(h:N (Γ1.set i (.im r y)))(hN:X.N.Nodup:=by first | assumption | decide)(hi:X.N[i]?=some x:=by rfl)(hx:autoParam (Loc X.env.scope x) Xe)(hs:Tf e (some (.Name x p1)) pos.line X.env=pure false:=by rfl)(hf:autoParam (fQ X x) Xd):W1 X (.Assign [.Name x p1] e pos) Γ N T:=λσ H0 R0 H R E D dn dr=>
 sS (iT hN hi hx aK hs hf) (he σ H0 R0 H R E _ λv H1 R1 E1 s1 e1=>dn _ H1 R1 _ (E1.set i e1) s1 h)
theorem cR (i:Nat)(he:ba X e Γ r ys Γ1)(h:N (Γ1.set i (.mu r ys)))(hN:X.N.Nodup:=by first | assumption | decide)(hi:X.N[i]?=some x:=by rfl)(hx:autoParam (Loc X.env.scope x) Xe)(hs:Tf e (some (.Name x p1)) pos.line X.env=pure false:=by rfl)(hf:autoParam (fQ X x) Xd):W1 X (.Assign [.Name x p1] e pos) Γ N T:=λσ H0 R0 H R E D dn dr=>
 sS (iT hN hi hx aK hs hf) (he σ H0 R0 H R E _ λa vs H1 R1 E1 s1 ha hR h0 off p z=>dn _ H1 R1 _ (E1.vU (u:=.lst vs) (en:=.mu r ys) i ⟨a,vs,rfl,ha,hR,p⟩ h0 λj e _ q w=>off j e q w) s1 h)
theorem aN {P:α->Prop}{y:α}(he:EV X e Γ r y Γ1)(h:P y):W1 X (.Return (some e) pos) Γ N (cU X.K r P):=λσ H0 R0 H R E D dn dr=>
 sS (kQ aK) (he σ H0 R0 H R E _ λv H1 R1 E1 s1 e1=>dr v H1 R1 E1.ext ⟨y,e1,h⟩)
theorem a8 {a b:List Stmt}{k:Bool}(hc:TV X c Γ k Γ1)(h1:k=true->WS X a Γ1 N T)(h2:k=false->WS X b Γ1 N T):W1 X (.If c a b pos) Γ N T:=λσ H0 R0 H R E D dn dr=>by
 refine sS (Lv qO jq jq) (hc σ H0 R0 H R E _ λH1 R1 E1 s1=>?_);cases k with
 | true=>exact m7 (h1 rfl σ H0 R0 H1 R1 E1 D (λσ2 H2 R2 Γ2 E2 s2=>dn σ2 H2 R2 Γ2 E2 (s1.trans s2)) dr)
 | false=>exact nq (h2 rfl σ H0 R0 H1 R1 E1 D (λσ2 H2 R2 Γ2 E2 s2=>dn σ2 H2 R2 Γ2 E2 (s1.trans s2)) dr)
theorem aP (i:Nat)(hN:X.N.Nodup:=by first | assumption | decide)(hi:X.N[i]?=some x:=by rfl)(hx:autoParam (Loc X.env.scope x) Xe)(hf:autoParam (fQ X x) Xd):
 BG X (.Name x pos) r (λy Γ=>Γ.set i (.im r y)):=λσ H0 R0 H R Γ v x E h Q q=>gS (gg hN hi hx hf) (q _ (E.set i h))
theorem eN (i j:Nat){k:Nat}(hc:X.calm=true:=by rfl)(hN:X.N.Nodup:=by first | assumption | decide)(hi:X.N[i]?=some x:=by rfl)(hx:autoParam (Loc X.env.scope x) Xe)(hf:autoParam (fQ X x) Xd)(hj:X.N[j]?=some y:=by rfl)(hy:autoParam (Loc X.env.scope y) Xe)(hf':autoParam (X.fn y=true∨X.env.scope.names.lookup y=some .local) Xd):
 BG X (.Tuple [.Name x p1,.Name y p2] k pos) (dS r r') (λw Γ=>(Γ.set i (.im r w.1)).set j (.im r' w.2)):=λσ H0 R0 H R Γ v w E h Q q=>by
 obtain⟨a,v1,v2,rfl,ha,e1,e2⟩:=h;exact gS (xf hc (fX (gg hN hi hx hf) (fX (gg hN hj hy hf') rP))) ⟨a,_,rfl,dR.of (E.sub _ _ ha),rfl,v1,[v2],rfl,v2,[],rfl,rfl,q _ ((E.set i e1).set j e2)⟩
variable {body:List Stmt}
section
variable {kvs:List (Int×V)}{y:α}
theorem at_of (e:(σ[i]?).join=some v):σ[i]?=some (some v):=by
 cases es:σ[i]? with
 | none=>rw[es] at e;cases e
 | some o=>rw[es] at e;exact congrArg some e
theorem ot (I:Nat->Ga->Prop){m0:Nat}(h0:I m0 Γ)(WN:∀(m:Nat)(Γ:Ga),I m Γ->∃(k:Bool)(Γ':Ga),TV X c Γ k Γ'/\(k=true->WS X body Γ' (λΓ''=>∃m',m'<m/\I m' Γ'') T)/\(k=false->N Γ'))(hp:Ut (model X.prog X.w) X.A X.env X.xe:=by exact Ut.never):W1 X (.While c body [] pos) Γ N T:=λσ H0 R0 H R E D dn dr=>by
 refine sS (DK hp qO jq) ?_;refine⟨λm σ' H'=>∃R' Γ',au X.K σ' H0 R0 H' R' Γ'/\aw R R'/\I m Γ',⟨m0,R,Γ,E,aw.refl _,h0⟩,?_⟩;rintro m σ' H' ⟨R',Γ',E',s',hI⟩;obtain⟨k,Γ2,ht,h1,h2⟩:=WN m Γ' hI;refine ht σ' H0 R0 H' R' E' _ λH1 R1 E1 s1=>?_;cases k with
 | true=>
   refine m7 ⟨_,λσ2 H2 h=>h,h1 rfl σ' H0 R0 H1 R1 E1 _ (λσ3 H3 R3 Γ3 E3 s3 h3=>?_) dr⟩;obtain⟨m',hm,hI'⟩:=h3;exact⟨m',hm,R3,Γ3,E3,s'.trans (s1.trans s3),hI'⟩
 | false=>exact nq (dn σ' H1 R1 Γ2 E1 (s'.trans s1) (h2 rfl))
theorem eT (i:Nat){ap cp:Pos}(he:EV X e Γ r y Γ1)(hΓ:Γ[i]?=some (.mu r xs))(hΓ1:Γ1[i]?=some (.mu r xs))(hz:xs.length<S8)(h:N (Γ1.set i (.mu r (xs++[y]))))(hN:autoParam (At X i x) cg)(WJ:Tf (.Call (.Attribute (.Name x p1) "append" ap) [e] [] cp) none pos.line X.env=pure false:=by rfl)(V7:fD X (.Name x p1) "append":=by rfl)(Wj:nF X cp [e]:=by rfl)(V6:(ap.endLine==cp.line)=true:=by rfl)(hs:du X e []:=by rfl):W1 X (.Expr (.Call (.Attribute (.Name x p1) "append" ap) [e] [] cp) pos) Γ N T:=λσ H0 R0 H R E D dn dr=>by
 obtain⟨a,vs,ea,ha,hR,pp⟩:=E.ent i _ hΓ;refine sS (d9 (iY UW UX UY jG (aV hN) (aH aK bo hs) V7 Wj V6 hs rfl) WJ) ?_;refine⟨.ref a,at_of ea,.inl ⟨rfl,vs,bt.of ha⟩,he σ H0 R0 H R E _ λv H1 R1 E1 s1 e1=>?_⟩;obtain⟨a',WC,Wy,WX,WK,W6⟩:=E1.ent i _ hΓ1;rw[ea] at Wy;cases Wy
 refine⟨a,WC,v,rfl,rfl,WX,by rw[W6.length];exact hz,?_⟩;exact dn σ _ R1 _ (E1.upd (en:=.mu r (xs++[y])) hΓ1 rfl ea WK ⟨a,_,rfl,aB,WK,fk W6 (.cons e1 .nil)⟩) s1 h
theorem ni {F:α->β->Prop}{v:α}{y:β}(h:F v y):∀{vs:List α}{xs:List β}(i:Nat),PySem.Paired F vs xs->PySem.Paired F (vs.set i v) (xs.set i y)
 | _,_,_,.nil=>.nil
 | _,_,0,.cons _ t=>.cons h t
 | _,_,i+1,.cons q t=>.cons q (ni h i t)
theorem GW (i:Nat){k:Int}(he:EV X e Γ r y Γ1)(hb:EV X b Γ1 ag k Γ2)(hΓ1:Γ1[i]?=some (.mu r xs))(hΓ2:Γ2[i]?=some (.mu r xs))(hj:ij xs.length k=some j)(h:N (Γ2.set i (.mu r (xs.set j y))))(hN:autoParam (At X i x) cg)(ha:∀v,TU (.Subscript (.Name x p1) b p2) X.env v=(do
  let ov ← TK [v] (eval (.Name x p1) X.env)
  let iv ← TK [v,ov] (eval b X.env)
  Ue p2
  TK [v,ov,iv] (setItem ov iv v)
  release [v,ov,iv] []):=by intro _;rfl)(hs:Uj [.Subscript (.Name x p1) b p2] e pos.line X.env=pure false:=by rfl)(hw:Uk [.Subscript (.Name x p1) b p2] e X.env=pure none:=by rfl)(h1:(TQ [.Subscript (.Name x p1) b p2] X.env).map (·.2)=[TU (.Subscript (.Name x p1) b p2) X.env]:=by rfl):
 W1 X (.Assign [.Subscript (.Name x p1) b p2] e pos) Γ N T:=λσ H0 R0 H R E D dn dr=>by
 refine sS (vj aK (Ah (aV hN) aK set_list ha) hs hw h1) (he σ H0 R0 H R E _ λv H1 R1 E1 s1 e1=>?_);obtain⟨a,vs,ea,hp,hR,pp⟩:=E1.ent i _ hΓ1;refine⟨.ref a,at_of ea,hb σ H0 R0 H1 R1 E1 _ λu H2 R2 E2 s2 e2=>?_⟩;obtain⟨a',WC,Wy,WX,WK,W6⟩:=E2.ent i _ hΓ2;rw[ea] at Wy;cases Wy
 refine⟨a,WC,k,j,rfl,e2,WX,by rw[W6.length];exact hj,?_⟩;exact dn σ _ R2 _ (E2.upd (en:=.mu r (xs.set j y)) hΓ2 rfl ea WK ⟨a,_,rfl,aB,WK,ni (r.mono s2 e1) j W6⟩) (s1.trans s2) h
theorem qJ {vs:List α}{xs:List β}(p:PySem.Paired F vs xs):PySem.Paired F vs.dropLast xs.dropLast:=by
 rw[List.dropLast_eq_take,List.dropLast_eq_take,p.length];exact jt _ p
theorem wg (i:Nat){ap cp:Pos}(hΓ:Γ[i]?=some (.mu r xs))(hy:xs[xs.length-1]?=some y)(hN:autoParam (At X i x) cg)(V7:fD X (.Name x p1) "pop":=by rfl)(V6:(ap.endLine==cp.line)=true:=by rfl):
 EV X (.Call (.Attribute (.Name x p1) "pop" ap) [] [] cp) Γ r y (Γ.set i (.mu r xs.dropLast)):=by
 intro σ H0 R0 H R E Q q;obtain⟨a,vs,ea,ha,hR,pp⟩:=E.ent i _ hΓ;obtain⟨v,Yp,hr⟩:=ft pp hy;refine eS (xc UW PySem.F.slot_list_pop PySem.F.type_list_pop IG (aV hN) V7 V6) ⟨.ref a,at_of ea,.inl ⟨rfl,vs,bt.of ha⟩,?_⟩;refine⟨a,vs,v,rfl,rfl,ha,by rw[pp.length];exact Yp,?_⟩;exact q v _ R (E.upd hΓ rfl ea hR ⟨a,_,rfl,aB,hR,qJ pp⟩) (aw.refl _) hr
theorem qF (i:Nat)(hΓ:Γ[i]?=some (.mu r xs))(hN:autoParam (At X i x) cg)(he:∀whole,T2 (.Name x pos) X.env whole=(do let v ← whole;Ue (Expr.Name x pos).pos;TK [v] (truthy v)):=by intro _;rfl):TV X (.Name x pos) Γ (!xs.isEmpty) Γ:=by
 intro σ H0 R0 H R E Q q;obtain⟨a,vs,ea,ha,hR,pp⟩:=E.ent i _ hΓ;refine tS (vK (aV hN) he) ⟨.ref a,at_of ea, !xs.isEmpty,.inl ⟨vs,bt.of ha,?_⟩,q H R E (aw.refl _)⟩;cases pp<;>rfl
theorem Ge (i:Nat){p:Pos}(hm:X.mg "len"=none)(hΓ:Γ[i]?=some (.mu r xs))(hN:autoParam (At X i x) cg)(hg:Gl X "len":=by rfl):EV X (.Call (.Name "len" p) [.Name x p1] [] pos) Γ ag (xs.length:Int) Γ:=by
 intro σ H0 R0 H R E Q q;obtain⟨a,vs,ea,ha,hR,pp⟩:=E.ent i _ hΓ;refine eS (ee fH hg hm Tu (aH (aV hN) bo rfl) (by decide) (by decide) rfl) ⟨.ref a,at_of ea,a,vs,rfl,.inl (bt.of ha),?_⟩;rw[pp.length];exact q _ H R E (aw.refl _) rfl
theorem freeze (E:au K σ H0 R0 H R Γ)(hΓ:Γ[i]?=some (.mu r xs))(hz:xs.length<=S8):∃R' v,au K σ H0 R0 H R' (Γ.set i (.im (ae r) xs))/\aw R R'/\(σ[i]?).join=some v/\(ae r).R K R' v xs:=by
 obtain⟨a,vs,ea,ha,hR,pp⟩:=E.ent i _ hΓ;have h0:H0 a=none:=E.new i _ a hΓ rfl ea;have s2:aw R (upd R a (.lst vs)):=aw.fresh hR _;have rr:(ae r).R K (upd R a (.lst vs)) (.ref a) xs:=⟨a,vs,rfl,aB,Paired.map (λ_ _=>r.mono s2) pp,hz⟩;have E1:au K σ H0 R0 H R (Γ.set i .no):=E.tell hΓ trivial λb w=>by cases w
 have E2:=E1.qZ ha hR h0 λj e q w=>by
  rcases set_at q with⟨rfl,rfl,_⟩ | ⟨hj,q1⟩
  ·cases w
  ·exact hj (E.ds j i e _ a q1 hΓ w ((Ent.qL (e:=.mu r xs) rfl).mpr ea))
 have hl:i<Γ.length:=(Qc.mp hΓ).1;have E3:=E2.tell (i:=i) (e0:=.no) (en:=.im (ae r) xs) (Qp hl) ⟨_,ea,rr⟩ λb w=>by cases w
 rw[Ra] at E3;exact⟨_,.ref a,E3,s2,ea,rr⟩
theorem WS.freeze (i:Nat){W0:List Stmt}(hΓ:Γ[i]?=some (.mu r xs))(hz:xs.length<=S8)(h:WS X W0 (Γ.set i (.im (ae r) xs)) N T):WS X W0 Γ N T:=λσ H0 R0 H R E D dn dr=>by
 obtain⟨R',v,E',s',_,_⟩:=Fc.freeze E hΓ hz;exact h σ H0 R0 H R' E' D (λσ2 H2 R2 Γ2 E2 s2=>dn σ2 H2 R2 Γ2 E2 (s'.trans s2)) dr
def kY:Rep (List (Int×V)):=⟨λK H v kvs=>∃a,v= .ref a/\H a=some (.dK (cz kvs)),λs ⟨a,e,q⟩=>⟨a,e,s _ _ q⟩⟩
def gL (kvs:List (Int×V))(k:Int):Bool:=kvs.any λp=>decide (p.1=k)
theorem mm (kvs:List (Int×V))(k:Int):(dc (cz kvs) (Sum.inl k:Key)).isSome=gL kvs k:=by
 rw[← ia];unfold cz gL;rw[any_map];congr 1;funext p;show decide ((Sum.inl p.1:Key)=Sum.inl k)=decide (p.1=k);by_cases h:p.1=k
 ·rw[h];simp
 ·rw[VU h,VU λz=>h (Sum.inl.inj z)]
def EZ (X:Cx)(e:Expr)(Γ:Ga)(k:Int):Prop:=∀(σ:St)(H0 R0 H R:Hp),au X.K σ H0 R0 H R Γ->∀(H':Hp)(Q:VK),Q (.int k) H'->gK X e σ H' Q
theorem zS (i:Nat){y:Int}(hΓ:Γ[i]?=some (.im ag y))(hN:autoParam (At X i x) cg):EZ X (.Name x pos) Γ y:=λσ H0 R0 H R E H' Q q=>by
 obtain⟨v,e,h⟩:=E.ent i _ hΓ;cases h
 exact eS (aV hN) ⟨_,at_of e,q⟩
theorem FE (i:Nat){ke ve:Expr}{k:Int}(hk:EZ X ke Γ k)(hv:PE X ve (tC v))(h:N (Γ.set i (.di [(k,v)])))(hN:X.N.Nodup:=by first | assumption | decide)(hi:X.N[i]?=some x:=by rfl)(hx:autoParam (Loc X.env.scope x) Xe)(hs:Tf (.Dict [some ke] [ve] p2) (some (.Name x p1)) pos.line X.env=pure false:=by rfl)(hf:autoParam (fQ X x) Xd):
 W1 X (.Assign [.Name x p1] (.Dict [some ke] [ve] p2) pos) Γ N T:=λσ H0 R0 H R E D dn dr=>by
 refine sS (iT hN hi hx (xC (pD aK hv yC) rfl rfl (by simp) (by simp)) hs hf) λp hp=>?_;refine hk σ H0 R0 H R E _ _ ?_;refine⟨aB,[(Sum.inl k,v)],rfl,(by show 1<=15;decide),?_⟩;have E1:=E.grow (Ext.eD E.sub hp (.dK (cz [(k,v)])));have e:upd (upd H p (.dK [])) p (.dK (ku [] [(Sum.inl k,v)]))=upd H p (.dK (cz [(k,v)])):=by
  rw[sQ];rfl
 rw[e];exact dn _ _ R _ (E1.vU (u:=.dK (cz [(k,v)])) (en:=.di [(k,v)]) i ⟨p,rfl,aB,E.sub.free hp⟩ (E.ext.h.free hp) λj e _ q w=>E.off hp j e q w) (aw.refl _) h
theorem xP (i:Nat)(neg:Bool){k:Int}(hu:X.A.units+1<cLine)(he:EV X e Γ ag k Γ)(hΓ:Γ[i]?=some (.di kvs))(hN:autoParam (At X i x) cg):
 TV X (.Compare e [if neg then .NotIn else .In] [.Name x p1] pos) Γ (if neg then !gL kvs k else gL kvs k) Γ:=by
 intro σ H0 R0 H R E Q q;cases neg with
 | false=>
   refine tS (mf (Jn hu aK (aV hN)) (by with_unfolding_all rfl)) (he σ H0 R0 H R E _ λv H1 R1 E1 s1 e1=>?_);obtain⟨a,ea,ha,hR⟩:=E1.ent i _ hΓ;cases e1
   refine⟨.ref a,at_of ea,a,_,rfl,g8.k (k:=Sum.inl k) ha,_,rfl,?_⟩;rw[mm];exact q H1 R1 E1 s1
 | true=>
   refine tS (mf (kW hu aK (aV hN)) (by with_unfolding_all rfl)) (he σ H0 R0 H R E _ λv H1 R1 E1 s1 e1=>?_);obtain⟨a,ea,ha,hR⟩:=E1.ent i _ hΓ;cases e1
   refine⟨.ref a,at_of ea,a,_,rfl,g8.k (k:=Sum.inl k) ha,_,rfl,?_⟩;rw[mm];exact q H1 R1 E1 s1
theorem tP (i:Nat){ke ve:Expr}{k:Int}(hu:X.A.units+1<cLine)(hk:EV X ke Γ ag k Γ)(hv:PE X ve (tC v))(hΓ:Γ[i]?=some (.di kvs))(hn:gL kvs k=false)(hz:kvs.length<S8)(h:N (Γ.set i (.di (kvs++[(k,v)]))))(hN:autoParam (At X i x) cg)(hs:Tf ve (some (.Subscript (.Name x p1) ke p2)) pos.line X.env=pure false:=by rfl):W1 X (.Assign [.Subscript (.Name x p1) ke p2] ve pos) Γ N T:=λσ H0 R0 H R E D dn dr=>by
 refine sS (sO hu (aV hN) aK hv hs) ?_;obtain⟨a,ea,ha,hR⟩:=E.ent i _ hΓ;refine⟨.ref a,at_of ea,hk σ H0 R0 H R E _ λu H1 R1 E1 s1 e1=>?_⟩;obtain⟨a',Wy,WX,WK⟩:=E1.ent i _ hΓ;rw[ea] at Wy;cases Wy
 cases e1
 refine⟨a,_,rfl,pW.k (k:=Sum.inl k) WX (by unfold cz;rw[Qg];exact hz),?_⟩;have vn:dc (cz kvs) (Sum.inl k:Key)=none:=by
  have:=mm kvs k;rw[hn] at this;cases q:dc (cz kvs) (Sum.inl k:Key) with
  | none=>rfl
  | some z=>rw[q] at this;cases this
 rw[pK v vn];have e:cz kvs++[((Sum.inl k:Key),v)]=cz (kvs++[(k,v)]):=by unfold cz;rw[Qv];rfl
 rw[e];exact dn σ _ R1 _ (E1.upd (en:=.di (kvs++[(k,v)])) hΓ rfl ea WK ⟨a,rfl,aB,WK⟩) s1 h
theorem Bq (i:Nat){P:List (Int×V)->Prop}(hΓ:Γ[i]?=some (.di kvs))(h:P kvs)(hN:autoParam (At X i x) cg):W1 X (.Return (some (.Name x p1)) pos) Γ N (cU X.K kY P):=λσ H0 R0 H R E D dn dr=>by
 obtain⟨a,ea,ha,hR⟩:=E.ent i _ hΓ;have h0:H0 a=none:=E.new i _ a hΓ rfl ea;refine sS (kQ (aV hN)) ⟨.ref a,at_of ea,dr _ H (upd R a (.dK (cz kvs))) ⟨E.ext.h,E.ext.r.trans (aw.fresh hR _),λb o qb=>?_,λb hb=>?_⟩ ⟨kvs,⟨a,rfl,aB⟩,h⟩⟩
 ·by_cases hb:b=a
  ·subst hb;rw[aB] at qb;cases qb;exact ha
  ·rw[aD hb] at qb;exact E.ext.s b o qb
 ·rw[aD (show b≠a from λe=>hb (by rw[e];exact h0))];exact E.ext.old b hb
theorem sF {a:Expr}{p:Pos}(hm:X.mg "len"=none)(ha:EV X a Γ kY kvs Γ1)(hs:fK X a:=by rfl)(hg:Gl X "len":=by rfl):EV X (.Call (.Name "len" p) [a] [] pos) Γ ag (kvs.length:Int) Γ1:=by
 intro σ H0 R0 H R E Q q;refine eS (ee tM hg hm Tu (aH aK bo hs) (by decide) (by decide) hs) (ha σ H0 R0 H R E _ λv H1 R1 E1 s1 e1=>?_);obtain⟨p,rfl,hp⟩:=e1;refine⟨p,_,rfl,E1.sub _ _ hp,?_⟩;unfold cz;rw[Qg];exact q _ H1 R1 E1 s1 rfl
end
abbrev cS:=Vr->List Pk->RT->Prop
def aM (S:cS)(K:Vr):Sp:=λvs H Q _=>∃R ps T,aw R H/\lh K R vs ps/\S K ps T/\∀v H' R',Ext H R H' R'->T H v H' R'->Q v H'
theorem lh.length {K:Vr}{R:Hp}:∀{vs:List V}{ps:List Pk},lh K R vs ps->vs.length=ps.length
 | _,_,.nil=>rfl
 | _,_,.cons _ t=>by rw[Qo,Qo,lh.length t]
structure aE (P:Tb)(w:World)(K:Vr)(mg:Pz)(base:Heap)(x:Str)(k:Nat)(sp:Sp):Prop where
 ex:∃f fd ps,eV P w K mg base eX k f fd ps sp/\mg x=some (.ref f)/\Vw K (.ref f)=true/\Binds K fd ps []
theorem aE.mono {P:Tb}{w:World}{K:Vr}{mg:Pz}{base:Heap}{x:Str}{j k:Nat}{sp:Sp}(c:aE P w K mg base x j sp)(h:j<=k):aE P w K mg base x k sp:=by
 obtain⟨f,fd,ps,F,a,b,c⟩:=c.ex;exact⟨f,fd,ps,F.mono h,a,b,c⟩
variable {ps:List Pk}{S:cS}
theorem nv {k:Nat}{p:Pos}(C:aE X.prog X.w X.K X.mg X.base x k (aM S X.K))(hr:bG k X.A)(ha:HA X (e::es) Γ ps Γ1)(hS:S X.K ps T)(E:au X.K σ H0 R0 H R Γ)(q:∀H1 R1 v H' R',au X.K σ H0 R0 H1 R1 Γ1->aw R R1->Ext H1 R1 H' R'->T H1 v H' R'->Q v H')(hg:Gl X x)(Wu:(x==("__debug__":Str))=false)(he:du X e es)(Wg:fm X pos es):gK X (.Call (.Name x p) (e::es) [] pos) σ H Q:=by
 obtain⟨f,fd,pn,F,hm,hk,hb⟩:=C.ex;refine eS (ig F hr hg hm hk hb .nil jT nC Wu he Wg) (ha σ H0 R0 H R E _ λvs H1 R1 E1 s1 p1=>?_);refine⟨R1,ps,T,E1.sub,by rw[QC];exact p1,hS,λv H' R' x t=>q H1 R1 v H' R' E1 s1 x t⟩
theorem aI {k:Nat}{p:Pos}{y:α}(C:aE X.prog X.w X.K X.mg X.base x k (aM S X.K))(hr:bG k X.A)(ha:HA X (e::es) Γ ps Γ1)(hS:S X.K ps (cU X.K r (· =y)))(hg:Gl X x:=by rfl)(Wu:WW x:=by decide)(he:du X e es:=by rfl)(Wg:fm X pos es:=by rfl):EV X (.Call (.Name x p) (e::es) [] pos) Γ r y Γ1:=λσ H0 R0 H R E Q q=>
 nv C hr ha hS E (λH1 R1 v H' R' E1 s1 xx t=>by
  obtain⟨z,e1,rfl⟩:=t;exact q v H' R' (E1.grow xx) (s1.trans xx.r) e1) hg Wu he Wg
def gE (ps:List Pk)(n:Nat):Ga:=ps.map (λp=>Ent.im p.r p.x)++Q4 (n-ps.length) .no
variable {vs:List V}
theorem lj {N:PJ}(s:aw R H)(p:lh K R vs ps)(hl:ps.length<=N.length):au K (L2.start N vs) H R H R (gE ps N.length):=by
 have Wl:∀(i:Nat)(e:Ent)(o:Option V),(gE ps N.length)[i]?=some e->e.fp o=[]:=λi e o q=>by
  unfold gE at q;rcases Qr.mp (Qm q) with z | z
  ·obtain⟨p,_,rfl⟩:=Qw.mp z;rfl
  ·obtain⟨_,rfl⟩:=RQ.mp z;rfl
 refine⟨Ext.refl s,λi e q=>?_,λi e a q w=>VO w (by rw[Wl i e _ q];exact QL),λi j e e' a q _ w=>VO w (by rw[Wl i e _ q];exact QL),?_⟩
 ·have hp:=p.length;unfold gE at q;unfold L2.start;by_cases hi:i<ps.length
  ·rw[QI (by simpa using hi),Ql] at q;rw[QI (by simpa[hp] using hi),Ql];have key:∀{vs:List V}{ps:List Pk},lh K R vs ps->∀(i:Nat)(p:Pk),ps[i]?=some p->∃v,vs[i]?=some v/\p.r.R K R v p.x:=by
    intro vs ps h
    induction h with
    | nil=>intro i p e;simp at e
    | cons a b ih=>
      intro i p e;cases i with
      | zero=>simp at e;subst e;exact⟨_,rfl,a⟩
      | succ i=>simpa using ih i p (by simpa using e)
   cases e1:ps[i]? with
   | none=>rw[e1] at q;cases q
   | some p1=>
     rw[e1] at q;cases q
     obtain⟨v,h1,h2⟩:=key p i p1 e1;rw[h1];exact⟨v,rfl,h2⟩
  ·rw[QE (by simpa using hi),Rp] at q;split at q
   ·cases q;trivial
   ·cases q
 ·unfold gE L2.start;rw[Qj,Qj,Qg,Qg,Q5,Q5,p.length]
variable {P:Tb}{w:World}{mg:Pz}{base:Heap}{qual:Str}{f:Addr}{fd:Tg}
def Def (K:Vr)(mg:Pz)(x:Str)(st:Stmt)(ps:PJ):Prop:=∃f fd,dZ K x x st f fd/\mg x=some (.ref f)/\Binds K fd ps []
theorem gZ {N ps:PJ}{k:Nat}(F:dZ K x qual st f fd)(Sc:bV N ps (ao st))(hm:mg x=some (.ref f))(hb:Binds K fd ps [])(len:∀qs T,S K qs T->qs.length=ps.length)(Wr:∀(V2:Value)(A:Te)(outer:List Env)(s:S7)(H:Hp)(E:XK)(qs:List Pk)(T:RT),bG k (A.deeper (S0 qual (ao st) s.heap.objs.size f V2))->S K qs T->
  WS (fI eX P w K mg base N qual (ao st) f V2 A outer s H E).i6 (bP st) (gE qs N.length) (λ_=>False) T):aE P w K mg base x (k+1) (aM S K):=by
 refine⟨f,fd,ps,?_,hm,F.kp,hb⟩;refine F.ok Sc (λvs H Q E h=>?_) (λV2 A outer s H vs Q E hr h=>?_)
 ·obtain⟨R,qs,T,_,p,hS,_⟩:=h;rw[p.length];exact len qs T hS
 ·obtain⟨R,qs,T,sR,p,hS,q⟩:=h;have hl:qs.length<=N.length:=by
   rw[len qs T hS];have:=congrArg List.length Sc.pre;rw[QA] at this;omega
  exact⟨_,jq,Wr V2 A outer s H E qs T hr hS (L2.start N vs) H R H R (lj sR p hl) {nx:=λ_ H'=>Q .Wb H',rt:=Q} (λ_ _ _ _ _ _ f=>f.elim) λv H' R' xx t=>q v H' R' xx t⟩
theorem bD {N ps:PJ}{k:Nat}(D:Def K mg x st ps)(Wr:∀(f:Addr)(V2:Value)(A:Te)(outer:List Env)(s:S7)(H:Hp)(E:XK)(qs:List Pk)(T:RT),N.Nodup->bG k (A.deeper (S0 x (ao st) s.heap.objs.size f V2))->S K qs T->
  WS (fI eX P w K mg base N x (ao st) f V2 A outer s H E).i6 (bP st) (gE qs N.length) (λ_=>False) T)(len:∀qs T,S K qs T->qs.length=ps.length:=by(intros;rename_i h;repeat (first | (rw[h.1];rfl) | obtain⟨_,h⟩:=h)))(Sc:bV N ps (ao st):=by exact Xt):aE P w K mg base x (k+1) (aM S K):=by
 obtain⟨f,fd,F,hm,hb⟩:=D;exact gZ F Sc hm hb len λV2 A outer s H E qs T=>Wr f V2 A outer s H E qs T Sc.nd
section
variable {a:Expr}
theorem vz {bs:List Bool}{us:PN}(r:Vals (bs.map V.bl) us){v:Value}(h:us.toArray[j]?=some v):v= .bool (bs.getD j true):=by
 induction bs generalizing us j with
 | nil=>cases r;simp at h
 | cons b r' ih=>
   cases r with
   | cons h1 t=>
     cases j with
     | zero=>simp at h;rw[← h];exact h1
     | succ j=>exact ih t (by simpa using h)
theorem all_range (bs:List Bool):((Qt bs.length).all λj=>bs.getD j true)=bs.all id:=by
 rw[P0,Ry,Ry];constructor
 ·intro h b hb;obtain⟨j,hj,rfl⟩:=R6.mp hb;have:=h j (QU.mpr hj);simpa[Qh,Qd hj] using this
 ·intro h j hj;have hj:=QU.mp hj;simpa[Qh,Qd hj] using h _ (QP hj)
theorem any_range (bs:List Bool):((Qt bs.length).any λj=>bs.getD j true)=bs.any id:=by
 rw[P0,Rz,Rz];constructor
 ·rintro⟨j,hj,h⟩;have hj:=QU.mp hj;exact⟨_,QP hj,by simpa[Qh,Qd hj] using h⟩
 ·rintro⟨b,hb,h⟩;obtain⟨j,hj,rfl⟩:=R6.mp hb;exact⟨j,QU.mpr hj,by simpa[Qh,Qd hj] using h⟩
theorem CO (hc:X.calm=true):gv X (.builtin "all") (λxs H Q=>∃(p:Addr)(bs:List Bool),xs=[.ref p]/\bt X.K H p (bs.map V.bl)/\Q (.bl (bs.all id)) H):=by
 intro VZ s σ H xs us Q I r h;obtain⟨p,bs,rfl,hq,q⟩:=h;obtain⟨u,rfl,rx⟩:=vals1 r;cases rx
 obtain⟨V1,r',pl,hz⟩:=I.list hq;have Wx:p≠s.heap.objs.size:=λe=>by obtain⟨o,ho,_⟩:=pl.isList;exact VO (U6 ho) (by rw[e];exact Sn _)
 refine call_all_walk (T6 pl.isList ?_);refine⟨s.heap.objs.size,_,[s.heap.objs.size],V1.toArray.size,_,_,λj=>bs.getD j true,rfl,Walks.list (A:=X.A.in1) (show X.A.in1.handled=none from I.ok.hd hc) s.heap.objs.size p Wx V1.toArray,?_,λj v s Q E hv hQ=>?_,λh' tk hk=>?_⟩
 ·refine⟨⟨_,U7 _ rfl,rfl,rfl⟩,?_⟩;obtain⟨o,ho,c,n,d⟩:=pl.isList;exact⟨o,U5 _ ho,c,n,d⟩
 ·rw[vz r' hv];exact Ti hQ
 ·have e:V1.toArray.size=bs.length:=by rw[Qx,← r'.length,Qg]
  rw[e,all_range];exact⟨.bl _,H,I.kept λb o e=>hk b o (λz=>VO (U6 e) (by rw[Qe.mp z];exact Sn _)) (U5 _ e),rfl,q⟩
theorem Dd (hc:X.calm=true):gv X (.builtin "any") (λxs H Q=>∃(p:Addr)(bs:List Bool),xs=[.ref p]/\bt X.K H p (bs.map V.bl)/\Q (.bl (bs.any id)) H):=by
 intro VZ s σ H xs us Q I r h;obtain⟨p,bs,rfl,hq,q⟩:=h;obtain⟨u,rfl,rx⟩:=vals1 r;cases rx
 obtain⟨V1,r',pl,hz⟩:=I.list hq;have Wx:p≠s.heap.objs.size:=λe=>by obtain⟨o,ho,_⟩:=pl.isList;exact VO (U6 ho) (by rw[e];exact Sn _)
 refine call_any_walk (T6 pl.isList ?_);refine⟨s.heap.objs.size,_,[s.heap.objs.size],V1.toArray.size,_,_,λj=>bs.getD j true,rfl,Walks.list (A:=X.A.in1) (show X.A.in1.handled=none from I.ok.hd hc) s.heap.objs.size p Wx V1.toArray,?_,λj v s Q E hv hQ=>?_,λh' tk hk=>?_⟩
 ·refine⟨⟨_,U7 _ rfl,rfl,rfl⟩,?_⟩;obtain⟨o,ho,c,n,d⟩:=pl.isList;exact⟨o,U5 _ ho,c,n,d⟩
 ·rw[vz r' hv];exact Ti hQ
 ·have e:V1.toArray.size=bs.length:=by rw[Qx,← r'.length,Qg]
  rw[e,any_range];exact⟨.bl _,H,I.kept λb o e=>hk b o (λz=>VO (U6 e) (by rw[Qe.mp z];exact Sn _)) (U5 _ e),rfl,q⟩
theorem qf {K:Vr}{R:Hp}:∀{vs:List V}{xs:List Bool},PySem.Paired (bM.R K R) vs xs->vs=xs.map V.bl
 | _,_,.nil=>rfl
 | _,_,.cons h t=>by rw[QJ,← qf t];exact congrArg (· ::_) h
theorem EY {id:String}{r:List V->Hp->VK->Prop}{p:Pos}{y:α}{z:β}(hc:gv X (.builtin id) r)(hm:X.mg x=none)(hv:TB x=some (.builtin id))(ha:EV X a Γ ra y Γ1)(h:∀(R H:Hp) v Q,aw R H->ra.R X.K R v y->(∀w,rb.R X.K R w z->Q w H)->r [v] H Q)(hs:fK X a:=by rfl)(hg:Gl X x:=by rfl)(hn:x≠"__name__":=by decide)(Wu:WW x:=by decide):
 EV X (.Call (.Name x p) [a] [] pos) Γ rb z Γ1:=by
 intro σ H0 R0 H R E Q q;exact eS (ee hc hg hm hv (aH aK bo hs) hn Wu hs) (ha σ H0 R0 H R E _ λv H1 R1 E1 s1 e1=>h R1 H1 v _ E1.sub e1 λw hw=>q w H1 R1 E1 s1 hw)
theorem jI {p:Pos}{bs:List Bool}(hm:X.mg "all"=none)(ha:EV X a Γ (ae bM) bs Γ1)(hs:fK X a:=by rfl)(hc:X.calm=true:=by rfl)(hg:Gl X "all":=by rfl):EV X (.Call (.Name "all" p) [a] [] pos) Γ bM (bs.all id) Γ1:=
 EY (CO hc) hm boot_all ha (λR H v Q s ⟨p,vs,e,hp,pp,_⟩ q=>⟨p,bs,by rw[e],by rw[← qf pp];exact bt.of (s _ _ hp),q _ rfl⟩) hs hg
theorem Bc {p:Pos}{bs:List Bool}(hm:X.mg "any"=none)(ha:EV X a Γ (ae bM) bs Γ1)(hs:fK X a:=by rfl)(hc:X.calm=true:=by rfl)(hg:Gl X "any":=by rfl):EV X (.Call (.Name "any" p) [a] [] pos) Γ bM (bs.any id) Γ1:=
 EY (Dd hc) hm boot_any ha (λR H v Q s ⟨p,vs,e,hp,pp,_⟩ q=>⟨p,bs,by rw[e],by rw[← qf pp];exact bt.of (s _ _ hp),q _ rfl⟩) hs hg
theorem Gs {p:Pos}{b:Bool}(hm:X.mg "int"=none)(ha:EV X a Γ bM b Γ1)(hs:fK X a:=by rfl)(hg:Gl X "int":=by rfl):EV X (.Call (.Name "int" p) [a] [] pos) Γ ag (if b then 1 else 0) Γ1:=by
 intro σ H0 R0 H R E Q q;exact eS (jw Bk hg hm S3 (aH aK bo hs) (by decide) (by decide) hs) (ha σ H0 R0 H R E _ λv H1 R1 E1 s1 e1=>.inr ⟨b,by rw[show v=V.bl b from e1],q _ H1 R1 E1 s1 rfl⟩)
theorem G9 {p:Pos}{x y:Int}(hm:X.mg "min"=none)(ha:HA X [a,b] Γ [⟨ag,x⟩,⟨ag,y⟩] Γ1)(hs:Td [a,b] X.env=(false,eval a X.env)::Td [b] X.env:=by rfl)(hc:X.calm=true:=by rfl)(hg:Gl X "min":=by rfl)(Wg:fm X pos [b]:=by rfl):EV X (.Call (.Name "min" p) [a,b] [] pos) Γ ag (if y<x then y else x) Γ1:=by
 intro σ H0 R0 H R E Q q;refine eS (ee (Bn hc) hg hm PyProof.Rows.boot_min nC (by decide) (by decide) hs Wg) (ha σ H0 R0 H R E _ λvs H1 R1 E1 s1 p1=>?_);cases p1 with
 | cons a1 t=>cases t with
   | cons a2 t2=>cases t2;cases a1;cases a2;exact⟨x,y,rfl,q _ H1 R1 E1 s1 rfl⟩
end
def Src (K:Vr)(J:It)(R1:Hp){α:Type}(r:Rep α)(xs:List α):Prop:=
 ∀(H' R':Hp),aw R1 R'->aw R' H'->∀i:Nat,(∀x,xs[i]?=some x->J.go i H'/\∀v H2,J.ZW i H' v H2->∃R2,Ext H' R' H2 R2/\r.R K R2 v x)/\(xs.length<=i->J.stop i H')
variable {tg iter:Expr}{scope:Scope}{fr:PJ}{ix:List Nat}{R1:Hp}
section
variable {bf:α->Ga->Ga}{elt:Expr}{ifs:PQ}{f:α->β}
def IV (X:Cx)(tg iter:Expr)(Γ:Ga){α:Type}(r:Rep α)(xs:List α)(Γ1:Ga):Prop:=
 ∃wi,PI X tg iter wi/\∀(σ:St)(H0 R0 H R:Hp),au X.K σ H0 R0 H R Γ->∀Rq:It->Hp->Prop,(∀J H1 R1,au X.K σ H0 R0 H1 R1 Γ1->aw R R1->xs.length<=S8->Src X.K J R1 r xs->Rq J H1)->wi σ H Rq
theorem br (h:EV X iter Γ (ae r) xs Γ1):IV X tg iter Γ r xs Γ1:=by
 refine⟨_,yH aK,λσ H0 R0 H R E Rq q=>h σ H0 R0 H R E _ λv H1 R1 E1 s1 e1=>?_⟩;obtain⟨a,vs,rfl,ha,pp,z⟩:=e1;refine⟨a,rfl,⟨vs,bt.of (E1.sub _ _ ha)⟩,q _ H1 R1 E1 s1 z λH' R' sR sH i=>⟨λx hx=>?_,λhi=>?_⟩⟩
 ·have hq:bt X.K H' a vs:=bt.of (sH _ _ (sR _ _ ha));obtain⟨v,hv,hr⟩:=ft pp hx;refine⟨⟨vs,v,hq,hv⟩,λv' H2 hy=>?_⟩;obtain⟨rfl,hy⟩:=hy;have:=hy vs hq;rw[hv] at this;cases this
  exact⟨R',Ext.refl sH,r.mono sR hr⟩
 ·exact⟨vs,bt.of (sH _ _ (sR _ _ ha)),by rw[pp.length];exact hi⟩
def ups (lo:Int)(n:Nat):PH:=(Qt n).map λ(k:Nat)=>lo+(k:Int)
theorem bU (lo:Int)(n:Nat):(ups lo n).length=n:=by unfold ups;rw[Qg,QN]
theorem fJ {lo:Int}{n:Nat}{x:Int}(h:(ups lo n)[i]?=some x):i<n/\x=lo+(i:Int):=by
 have hi:i<n:=by have:=(Qc.mp h).1;rwa [bU] at this
 refine⟨hi,?_⟩;unfold ups at h;rw[Ql,QQ hi] at h;exact(Option.some.inj h).symm
theorem yA (lo:Int)(n:Nat):Src K (Bp lo n) R1 ag (ups lo n):=λH' R' sR sH i=>⟨λx hx=>by
 obtain⟨h1,rfl⟩:=fJ hx;refine⟨h1,λv H2 hy=>?_⟩;obtain⟨rfl,rfl⟩:=hy;exact⟨R',Ext.refl sH,rfl⟩,λhi=>by rw[bU] at hi;exact hi⟩
theorem fo {a:Expr}(hm:X.mg "range"=none)(ha:EV X a Γ ag n Γ1)(hn: -(2 ^ 62)<=n/\n<=1000000)(YB:fK X a:=by rfl)(hg:Gl X "range":=by rfl):IV X tg (.Call (.Name "range" p1) [a] [] p2) Γ ag (ups 0 n.toNat) Γ1:=by
 refine⟨_,Cd hg hm (aH aK bo YB) YB,λσ H0 R0 H R E Rq q=>ha σ H0 R0 H R E _ λv H1 R1 E1 s1 e1=>?_⟩;exact⟨n,by rw[show v=V.int n from e1],hn.1,by omega,q _ H1 R1 E1 s1 (by rw[bU];exact Sh (show n.toNat<=1000000 by omega) (by decide)) (yA 0 n.toNat)⟩
theorem tE {a:Expr}{m:Int}(hm:X.mg "range"=none)(ha:EV X a Γ ag m Γ1)(hb:EV X b Γ1 ag n Γ2)(hn: -1000000<=m/\m<=1000000/\ -1000000<=n/\n<=1000000)(YB:vc X a b:=by rfl)(Wv:fK X b:=by rfl)(hg:Gl X "range":=by rfl):IV X tg (.Call (.Name "range" p1) [a,b] [] p2) Γ ag (ups m (n-m).toNat) Γ2:=by
 refine⟨_,Bx hg hm (aH aK (aH aK bo Wv) (by first | rw[du,YB,Wv] | rw[YB,Wv])) YB Wv,λσ H0 R0 H R E Rq q=>ha σ H0 R0 H R E _ λv H1 R1 E1 s1 e1=>hb σ H0 R0 H1 R1 E1 _ λu H2 R2 E2 s2 e2=>?_⟩;exact⟨m,n,by rw[show v=V.int m from e1,show u=V.int n from e2],⟨by omega,by omega,by omega,by omega⟩,q _ H2 R2 E2 (s1.trans s2) (by rw[bU];exact Sh (show(n-m).toNat<=2000000 by omega) (by decide)) (yA m (n-m).toNat)⟩
theorem bW (I:Nat->Ga->Prop)(hit:IV X tg iter Γ r xs Γ1)(hb:BG X tg r bf)(h0:I 0 Γ1)(WN:∀(i:Nat)(x:α)(Γ:Ga),xs[i]?=some x->I i Γ->WS X body (bf x Γ) (I (i+1)) T)(W2:∀Γ:Ga,I xs.length Γ->N Γ)(hc:X.calm=true:=by rfl)(hp:Ut (model X.prog X.w) X.A X.env X.xe:=by exact Ut.never)(hs:∀x,Ts iter X.env x=pure x:=by intro _;rfl):W1 X (.For tg iter body [] pos) Γ N T:=λσ H0 R0 H R E D dn dr=>by
 obtain⟨wi,hi,hit⟩:=hit;refine sS (A2 hp hc hi Nk jq hs) (hit σ H0 R0 H R E _ λJ H1 R1 E1 s1 hz src=>?_);refine⟨λi m σ' H'=>m=xs.length-i/\i<=xs.length/\∃R' Γ',au X.K σ' H0 R0 H' R' Γ'/\aw R1 R'/\I i Γ',⟨_,rfl,Si _,R1,Γ1,E1,aw.refl _,h0⟩,?_⟩;rintro i m σ' H' ⟨rfl,hle,R',Γ',E',s',hI⟩;obtain⟨sgo,Ya⟩:=src H' R' s' E'.sub i;by_cases W5:i<xs.length
 ·obtain⟨go,yl⟩:=sgo _ (Qd W5);refine .inr ⟨go,λσ' H'=>i+1<=xs.length/\∃R' Γ',au X.K σ' H0 R0 H' R' Γ'/\aw R1 R'/\I (i+1) Γ',λσ2 H2 h=>⟨xs.length-(i+1),by omega,rfl,h.1,h.2⟩,λv H2 hy=>?_⟩;obtain⟨R2,x2,hr⟩:=yl v H2 hy;refine hb σ' H0 R0 H2 R2 Γ' v _ (E'.grow x2) hr _ λσ2 E2=>?_;exact WN i _ Γ' (Qd W5) hI σ2 H0 R0 H2 R2 E2 _ (λσ3 H3 R3 Γ3 E3 s3 h3=>⟨W5,R3,Γ3,E3,s'.trans (x2.r.trans s3),h3⟩) dr
 ·have e:i=xs.length:=by omega
  subst e;exact .inl ⟨Ya (Sg _),dn σ' H' R' Γ' E' (s1.trans s') (W2 Γ' hI)⟩
def zL:Option Ent->Ent
 | some (.im r x)=>.im r x
 | _=>.no
def gm (own:PJ)(ix:List Nat)(Γ:Ga):Ga:=Q4 own.length .no++ix.map λi=>zL Γ[i]?
theorem DV (E:au K σ H0 R0 H R Γ)(own:PJ)(ix:List Nat):au K (iW own ix σ) H R H R (gm own ix Γ):=by
 have Wl:∀(i:Nat)(e:Ent)(o:Option V),(gm own ix Γ)[i]?=some e->e.fp o=[]:=λi e o q=>by
  unfold gm at q;rcases Qr.mp (Qm q) with z | z
  ·obtain⟨_,rfl⟩:=RQ.mp z;rfl
  ·obtain⟨k,_,rfl⟩:=Qw.mp z;unfold zL;split<;>rfl
 refine⟨Ext.refl E.sub,λi e q=>?_,λi e a q w=>VO w (by rw[Wl i e _ q];exact QL),λi j e e' a q _ w=>VO w (by rw[Wl i e _ q];exact QL),by unfold gm iW;simp⟩;unfold gm at q;unfold iW;by_cases hi:i<own.length
 ·rw[QI (by simpa using hi),Rp] at q;rw[VQ hi] at q;cases q;trivial
 ·rw[QE (by simpa using hi),Q5,Ql] at q;rw[QE (by simpa using hi),Q5,Ql];cases ek:ix[i-own.length]? with
  | none=>rw[ek] at q;cases q
  | some k=>
    rw[ek] at q;have q':zL Γ[k]?=e:=Option.some.inj q;subst q';show(zL Γ[k]?).ok K H R (σ[k]?).join;cases eg:Γ[k]? with
    | none=>trivial
    | some e=>
      cases e with
      | im r x=>exact E.ent k _ eg
      | no=>trivial
      | mu r x=>trivial
      | di x=>trivial
      | ob x=>trivial
theorem tI {cl:List (Str×Addr)}{own:PJ}{p:α->Bool}{J:It}{H1:Hp}(E1:au X.K σ H0 R0 H1 R1 Γ1)(src:Src X.K J R1 ra xs)(hz:xs.length<=S8)(hb:∀(C:Addr)(s:S7)(H:Hp)(ex:PM),BG (bZ X scope cl C (own++fr) s H ex) tg ra bf)(hw:∀x,Wk (bf x (gm own ix Γ1)) (gm own ix Γ1))(ht:∀(C:Addr)(s:S7)(H:Hp)(ex:PM) x,x∈xs->TF (bZ X scope cl C (own++fr) s H ex) ifs (bf x (gm own ix Γ1)) (p x) (bf x (gm own ix Γ1)))(he:∀(C:Addr)(s:S7)(H:Hp)(ex:PM) x,x∈xs->p x=true->EV (bZ X scope cl C (own++fr) s H ex) elt (bf x (gm own ix Γ1)) rb (f x) (bf x (gm own ix Γ1)))(q:∀a vs H' R',Ext H1 R1 H' R'->H' a=none->PySem.Paired (rb.R X.K R') vs ((xs.filter p).map f)->Q (.ref a) (upd H' a (.lst vs))):
 ∃W:Nat->Nat->List V->St->Hp->Prop,(∃m,W 0 m [] (iW own ix σ) H1)/\∀i m ys σ' H',W i m ys σ' H'->
  ys.length<=S8/\((J.stop i H'/\∀p,H' p=none->Q (.ref p) (upd H' p (.lst ys)))∨
  (J.go i H'/\∀x H2,J.ZW i H' x H2->(λv σ H Q=>∀C s Hh ex,rQ (bZ X scope cl C (own++fr) s Hh ex) tg v σ H Q:TG) x σ' H2 λσ2 H3=>(λσ H Q=>∀C s Hh ex,vt (bZ X scope cl C (own++fr) s Hh ex) ifs σ H Q:TT) σ2 H3 λb H4=>
    if b=true then(λσ H Q=>∀C s Hh ex,gK (bZ X scope cl C (own++fr) s Hh ex) elt σ H Q:TE) σ2 H4 λv H5=>∃m',m'<m/\W (i+1) m' (ys++[v]) σ2 H5 else∃m',m'<m/\W (i+1) m' ys σ2 H4)):=by
 refine⟨λi m ys σ' H'=>m=xs.length-i/\i<=xs.length/\∃R',au X.K σ' H1 R1 H' R' (gm own ix Γ1)/\PySem.Paired (rb.R X.K R') ys (((xs.take i).filter p).map f),⟨_,rfl,Si _,R1,DV E1 own ix,.nil⟩,?_⟩;rintro i m ys σ' H' ⟨rfl,hle,R',E',pp⟩;have hys:ys.length<=S8:=by
  rw[pp.length,Qg];refine Sh (Rm _ _) (Sh ?_ hz);rw[QA];omega
 obtain⟨sgo,Ya⟩:=src H' R' E'.ext.r E'.sub i;refine⟨hys,?_⟩;by_cases W5:i<xs.length
 ·obtain⟨go,yl⟩:=sgo _ (Qd W5);have hmem:xs[i]∈xs:=QP W5;have tk:(xs.take (i+1))=xs.take i++[xs[i]]:=by rw[QK,Qd W5];rfl
  refine .inr ⟨go,λv H2 hy C s Hh ex=>?_⟩;obtain⟨R2,x2,hr⟩:=yl v H2 hy;refine hb C s Hh ex σ' H1 R1 H2 R2 _ v _ (E'.grow x2) hr _ λσ2 E2=>?_;intro C s Hh ex;refine ht C s Hh ex _ hmem σ2 H1 R1 H2 R2 E2 _ λH4 R4 E4 s4=>?_;cases hpx:p xs[i] with
  | false=>
    rw[VP PX];refine⟨xs.length-(i+1),by omega,rfl,W5,R4,E4.weak (hw _),?_⟩;rw[tk,Rg,List.filter_cons,hpx,VP PX,List.filter_nil,QC];exact Paired.map (λ_ _=>rb.mono (x2.r.trans s4)) pp
  | true=>
    rw[VQ rfl];intro C s Hh ex;refine he C s Hh ex _ hmem hpx σ2 H1 R1 H4 R4 E4 _ λw H5 R5 E5 s5 e5=>?_;refine⟨xs.length-(i+1),by omega,rfl,W5,R5,E5.weak (hw _),?_⟩;rw[tk,Rg,List.filter_cons,hpx,VQ rfl,List.filter_nil,Qv];exact fk (Paired.map (λ_ _=>rb.mono (x2.r.trans (s4.trans s5))) pp) (.cons e5 .nil)
 ·have e:i=xs.length:=by omega
  subst e;rw[QM] at pp;exact .inl ⟨Ya (Sg _),λa ha=>q a ys H' R' E'.ext ha pp⟩
theorem bE {cl:List (Str×Addr)}{own:PJ}{p:α->Bool}(S:gy X scope cl own fr ix)(hit:IV X tg iter Γ ra xs Γ1)(hb:∀(C:Addr)(s:S7)(H:Hp)(ex:PM),BG (bZ X scope cl C (own++fr) s H ex) tg ra bf)(hw:∀x,Wk (bf x (gm own ix Γ1)) (gm own ix Γ1))(ht:∀(C:Addr)(s:S7)(H:Hp)(ex:PM) x,x∈xs->TF (bZ X scope cl C (own++fr) s H ex) ifs (bf x (gm own ix Γ1)) (p x) (bf x (gm own ix Γ1)))(he:∀(C:Addr)(s:S7)(H:Hp)(ex:PM) x,x∈xs->p x=true->EV (bZ X scope cl C (own++fr) s H ex) elt (bf x (gm own ix Γ1)) rb (f x) (bf x (gm own ix Γ1)))(hc:X.calm=true:=by rfl)(hs:∀x,Ts iter X.env x=pure x:=by intro _;rfl):ba X (.ListComp elt [⟨tg,iter,ifs,0⟩] scope pos) Γ rb ((xs.filter p).map f) Γ1:=by
 intro σ H0 R0 H R E Q q;obtain⟨wi,hi,hit⟩:=hit;refine eS (Hj (g:=λv σ H Q=>∀C s Hh ex,rQ (bZ X scope cl C (own++fr) s Hh ex) tg v σ H Q) (tc:=λσ H Q=>∀C s Hh ex,vt (bZ X scope cl C (own++fr) s Hh ex) ifs σ H Q) (te:=λσ H Q=>∀C s Hh ex,gK (bZ X scope cl C (own++fr) s Hh ex) elt σ H Q) hc S hi
  (λC s H ex=>⟨λVZ s1 σ H v u Q I r h=>h C s _ ex VZ s1 u I r,λVZ s1 σ H Q I h=>h C s _ ex VZ s1 I,λVZ s1 σ H Q I h=>h C s _ ex VZ s1 I⟩) hs) ?_
 refine hit σ H0 R0 H R E _ λJ H1 R1 E1 s1 hz src=>tI E1 src hz hb hw ht he λa vs H' R' xx ha pp=>?_;have E2:=E1.grow xx;exact q a vs _ R' (E2.grow (Ext.eD E2.sub ha _)) (s1.trans xx.r) aB (E2.sub.free ha) (E2.ext.h.free ha) (E2.off ha) pp (by
  rw[Qg];exact Sh (Rm _ _) hz)
theorem nP (i:Nat){py Yb:Pos}{cl:List (Str×Addr)}{own:PJ}{p:α->Bool}(S:gy X scope cl own fr ix)(hit:IV X tg iter Γ ra xs Γ1)(hb:∀(C:Addr)(s:S7)(H:Hp)(ex:PM),BG (bZ X scope cl C (own++fr) s H ex) tg ra bf)(hw:∀x,Wk (bf x (gm own ix Γ1)) (gm own ix Γ1))(ht:∀(C:Addr)(s:S7)(H:Hp)(ex:PM) x,x∈xs->TF (bZ X scope cl C (own++fr) s H ex) ifs (bf x (gm own ix Γ1)) (p x) (bf x (gm own ix Γ1)))(he:∀(C:Addr)(s:S7)(H:Hp)(ex:PM) x,x∈xs->p x=true->EV (bZ X scope cl C (own++fr) s H ex) elt (bf x (gm own ix Γ1)) rb (f x) (bf x (gm own ix Γ1)))(h:N (Γ1.set i (.mu rb ((xs.filter p).map f))))(WJ:Tf (.ListComp elt [⟨tg,iter,ifs,0⟩] scope pos) (some (.Name y py)) Yb.line X.env=pure true:=by rfl)(hN:X.N.Nodup:=by first | assumption | decide)(hi':X.N[i]?=some y:=by rfl)(hx:autoParam (Loc X.env.scope y) Xe)(hc:X.calm=true:=by rfl)(hs:∀x,Ts iter X.env x=pure x:=by intro _;rfl)(hf:autoParam (fQ X y) Xd):
 W1 X (.Assign [.Name y py] (.ListComp elt [⟨tg,iter,ifs,0⟩] scope pos) Yb) Γ N T:=λσ H0 R0 H R E D dn dr=>by
 obtain⟨wi,hi,hit⟩:=hit;refine sS (zE (i:=i) (g:=λv σ H Q=>∀C s Hh ex,rQ (bZ X scope cl C (own++fr) s Hh ex) tg v σ H Q) (tc:=λσ H Q=>∀C s Hh ex,vt (bZ X scope cl C (own++fr) s Hh ex) ifs σ H Q) (te:=λσ H Q=>∀C s Hh ex,gK (bZ X scope cl C (own++fr) s Hh ex) elt σ H Q) WJ hN hi' hx hc S hi
  (λC s H ex=>⟨λVZ s1 σ H v u Q I r h=>h C s _ ex VZ s1 u I r,λVZ s1 σ H Q I h=>h C s _ ex VZ s1 I,λVZ s1 σ H Q I h=>h C s _ ex VZ s1 I⟩) hs hf) ?_
 refine hit σ H0 R0 H R E _ λJ H1 R1 E1 s1 hz src=>tI (Q:=λv H'=>D.nx (σ.set i (some v)) H') E1 src hz hb hw ht he λa vs H' R' xx ha pp=>?_;have E2:=E1.grow xx;exact dn _ _ R' _ ((E2.grow (Ext.eD E2.sub ha _)).vU (u:=.lst vs) (en:=.mu rb ((xs.filter p).map f)) i ⟨a,vs,rfl,aB,E2.sub.free ha,pp⟩ (E2.ext.h.free ha) λj e _ q w=>E2.off ha j e q w) (s1.trans xx.r) h
end
variable {VZ:PD}{s:S7}
section
variable {tp:Pos}
theorem oq {h':Heap}{t':Nat}{fp:PM}(I:Inv X VZ σ H s)(k:∀b o,b∉fp->s.heap.get? b=some o->h'.get? b=some o)(hf:∀b∈fp,lR X VZ H b):Inv X VZ σ H {s with heap:=h',toks:=t'}:=by
 have Z9:∀b u,H b=some u->b∉fp:=λb u e z=>by rw[(hf b z).1] at e;cases e
 refine I.step (g':=s.gens) (d':=s.drawn) (ch:=fp) (λb hb=>⟨(hf b hb).2.2.2.1,(hf b hb).2.1,(hf b hb).2.2.2.2.1,(hf b hb).2.2.2.2.2⟩) (λb o _ _ hc e _=>k b o hc e) (λb o _ _ hc e _=>⟨o.slots,k b o hc e⟩) (λ_ _ _ _ n=>n)
  (λb o hc e=>⟨o,k b o hc e⟩) (λ_ _ e=>e) (λ_ _ _ e=>e) (λb ps e=>⟨#[],by rw[e];simp⟩) (λm hm=>?_) (λb u e=>?_) I.bare
 ·obtain⟨o,es,ep,ho,r⟩:=hm;exact⟨o,es,ep,k _ o (λz=>(hf _ z).2.1 rfl) ho,r⟩
 ·refine(I.V4 b u e).Ww (λc v hc q=>k c v ?_ q) (λ_ q=>q) λ_ _ q=>q;rcases hc with z | z
  ·rw[z];exact Z9 b u e
  ·exact Z9 c _ z
theorem adopt {o:HO}(I:Inv X VZ σ H s)(hf:lR X VZ H a)(hy:X.s₀.heap.objs.size<=a)(new:cZ X.prog X.w (upd H a o) s.heap a o):Inv X VZ σ (upd H a o) s:=by
 have ne:∀{b:Addr}{u:HO},H b=some u->b≠a:=λe=>c8 e hf.1;have ne0:∀{b:Addr}{u:Obj},X.s₀.heap.get? b=some u->b≠a:=λe z=>VO (Sk (U6 e) hy) (by rw[z];exact Sn _);refine⟨I.ok,I.os,I.bare,⟨I.base.keep,I.base.slot,λb u e n hx=>by rw[aD (ne0 e)];exact I.base.free b u e n hx,I.base.there,λb xs e=>?_,λb u v e=>?_,λb ps e=>?_⟩,I.loc,I.cell,?_,λx c e=>?_,λp hp=>?_,λb u e=>?_,I.len⟩
 ·have q:=I.base.Xf b xs e;rw[aD (ne q)];exact q
 ·have q:=I.base.Xa b u v e;rw[aD (ne q)];exact q
 ·obtain⟨m,q⟩:=I.base.Xg b ps e;exact⟨m,by rw[aD (ne q)];exact q⟩
 ·rw[aD (SN hf.2.1)];exact I.free
 ·rw[aD (hf.2.2.2.2.1 x c e)];exact I.WL x c e
 ·obtain⟨e,n,r⟩:=I.pin p hp;exact⟨e,by rw[aD (hf.2.2.2.2.2 p hp)];exact n,r⟩
 ·by_cases hb:b=a
  ·subst hb;rw[aB] at e;cases e;exact new
  ·rw[aD hb] at e;exact(I.V4 b u e).Ww (λc v _ q=>q) (λc q=>by rw[aD (ne q)];exact q) λc xs q=>by rw[aD (ne q)];exact q
def N8 (K:Vr)(a:Addr):It:=
 ⟨λi H=>∃xs x,bt K H a xs/\xs[i]?=some x,λi H v H'=>∃p x,H p=none/\v= .ref p/\H'=upd H p (.tup [.int i,x])/\∀xs,bt K H a xs->xs[i]?=some x,λi H=>∃xs,bt K H a xs/\xs.length<=i⟩
theorem Bd {k:Nat}(a e it:Addr)(hei:e≠it):Turn P w K (.Tuple es k tp) (N8 K a) [e,it] e (λi h=>(∃old,IsEnum h e it i old)/\h.IsListIter it a i) where
 mem:=by simp
 obj:=λi h st b hb=>by
  obtain⟨⟨old,he⟩,o,ho,hc,hd⟩:=st;rcases Qq.mp hb with rfl | hb
  ·exact⟨_,he,λv z=>by cases z⟩
  ·have e2:b=it:=by simpa using hb
   subst e2;exact⟨o,ho,λv z=>by rw[hd] at z;cases z⟩
 keep:=λi h h' st kk=>⟨st.1.elim λold he=>⟨old,kk e (by simp) _ he⟩,st.2.at λo x=>kk it (by simp) o x⟩
 item:=by
  intro X hP hw hK hc i VZ s σ H E I hf st hg;subst hP hw hK;obtain⟨⟨old,he⟩,hit⟩:=st;obtain⟨xs,x,hq,hx⟩:=hg;obtain⟨V1,r,pl,hz⟩:=I.list hq;obtain⟨u,hu,rx⟩:=r.get hx;have hn:H s.heap.objs.size=none:=I.V4.fresh (Sg _);refine wpAny_pyNext_enum_item he hit pl.isList (x:=u) (by simpa using hu) hei λh' ho hit' hT hsz hk=>?_;refine⟨_,rfl,?_⟩;refine wpAny_letOwnedTupleGo_enum (s:={s with heap:=h',toks:=s.toks+1}) ho λh2 he2 Wv=>?_;have Zt:∀b o,b∉[e,it]->s.heap.get? b=some o->h2.get? b=some o:=λb o hb q=>by
   have Yr:b≠e:=λz=>hb (by simp[z]);exact Wv.extBut b o Yr (hk b o Yr (λz=>hb (by simp[z])) q)
  have I1:Inv X VZ σ H {s with heap:=h2,toks:=s.toks+1}:=oq I Zt hf;have hel:e≠s.heap.objs.size:=Sl (U6 he);have hT2:h2.get? s.heap.objs.size=some {cls:=.type "tuple",data:=.seq #[.int i s.toks,u]}:=(Wv.2 _ (SN hel)).trans hT;have I2:Inv X VZ σ (upd H s.heap.objs.size (.tup [.int i,x])) {s with heap:=h2,toks:=s.toks+1}:=
   adopt I1 (I.jM (Sg _) hn) (I.sz) ⟨by show 2<=S8;decide,[.int i s.toks,u],.cons ⟨_,rfl⟩ (.cons rx .nil),⟨_,hT2,rfl,_,rfl⟩⟩
  refine⟨.ref s.heap.objs.size,_,I2,rfl,⟨s.heap.objs.size,x,hn,rfl,rfl,λys hy=>?_⟩,⟨⟨u,by simpa using he2⟩,hit'.at λo y=>(Wv.2 it (SN hei)).trans y⟩,λb hb=>?_⟩
  ·rw[I.mO hy hq];exact hx
  ·have W5:b<s.heap.objs.size:=by
    rcases Qq.mp hb with rfl | hb
    ·exact U6 he
    ·have e2:b=it:=by simpa using hb
     subst e2;obtain⟨o,ho,_⟩:=hit;exact U6 ho
   rw[aD (Sl W5)];exact(hf b hb).1
 done:=by
  intro X hP hw hK hc i VZ s σ H E I hf st hg;subst hP hw hK;obtain⟨⟨old,he⟩,hit⟩:=st;obtain⟨xs,hq,hx⟩:=hg;obtain⟨V1,r,pl,hz⟩:=I.list hq;refine wpAny_pyNext_enum_end (I.ok.hd hc) he hit pl.isList (by have:=r.length;simp;omega) λh' hk=>⟨rfl,?_⟩;exact oq (t':=s.toks) I (λb o hb q=>hk b o (λz=>hb (by simp[z])) q) hf
 self:=λ_ _ _ _ _ st h=>st.1.elim λold he=>wpAny_pyIter_enum he h
def LA (K:Vr)(ta:TA):TI:=λσ H R=>ta σ H λvs H1=>∃a xs,vs=[.ref a]/\bt K H1 a xs/\R (N8 K a) H1
theorem FH {a:Expr}{ta:TA}{p:Pos}{k:Nat}(hg:Gl X "enumerate")(hm:X.mg "enumerate"=none)(ha:PA X [a] ta)(hs:fK X a:=by rfl):PI X (.Tuple es k tp) (.Call (.Name "enumerate" p) [a] [] pos) (LA X.K ta):=by
 intro VZ s σ H R I h;refine Call_ (iK I hg hm boot_enumerate (SX (aX (ha pos VZ s σ H _ I h) λus s1 ⟨vs,H1,I1,r1,q1⟩=>?_) hs rfl));obtain⟨l,xs,e,hq,q⟩:=q1;subst e;cases r1 with
 | cons r rr=>
   cases rr
   cases r
   obtain⟨V1,r',pl,hz⟩:=I1.list hq;refine call_enumerate_list pl.isList λh' he hit hsz hk=>?_;refine wpAny_pyIter_enum he ?_;have I2:Inv X VZ σ H1 {s1 with heap:=h'}:=I1.kept (t':=s1.toks) hk;have f0:H1 s1.heap.objs.size=none:=I1.V4.fresh (Sg _);have f1:H1 (s1.heap.objs.size+1)=none:=I1.V4.fresh (Sr _);refine⟨s1.heap.objs.size+1,[s1.heap.objs.size+1,s1.heap.objs.size],_,_,H1,rfl,I2,Bd l (s1.heap.objs.size+1) s1.heap.objs.size (Sv (Ss _)),⟨⟨.none,he⟩,hit⟩,λb hb=>?_,q⟩;rcases Qq.mp hb with rfl | hb
   ·exact I1.jM (Sr _) f1
   ·have e2:b=s1.heap.objs.size:=by simpa using hb
    subst e2;exact I1.jM (Sg _) f0
def nums (xs:List α):List (Int×α):=(xs.zipIdx).map λp=>((p.2:Int),p.1)
theorem cV (xs:List α):(nums xs).length=xs.length:=by unfold nums;rw[Qg,List.length_zipIdx]
theorem fb {y:Int×α}(h:(nums xs)[i]?=some y):y.1=(i:Int)/\xs[i]?=some y.2:=by
 unfold nums at h;rw[Ql,List.getElem?_zipIdx] at h;cases e:xs[i]? with
 | none=>rw[e] at h;cases h
 | some x=>rw[e] at h;cases h;exact⟨by simp,rfl⟩
theorem ic {a:Expr}{p:Pos}{k:Nat}(hm:X.mg "enumerate"=none)(ha:EV X a Γ (ae r) xs Γ1)(hs:fK X a:=by rfl)(hg:Gl X "enumerate":=by rfl):
 IV X (.Tuple es k tp) (.Call (.Name "enumerate" p) [a] [] pos) Γ (dS ag r) (nums xs) Γ1:=by
 refine⟨_,FH hg hm (aH aK bo hs) hs,λσ H0 R0 H R E Rq q=>ha σ H0 R0 H R E _ λv H1 R1 E1 s1 e1=>?_⟩;obtain⟨a,vs,rfl,hp,pp,z⟩:=e1;refine⟨a,vs,rfl,bt.of (E1.sub _ _ hp),q _ H1 R1 E1 s1 (by rw[cV];exact z) λH' R' sR sH i=>⟨λy hy=>?_,λhi=>?_⟩⟩
 ·have hq:bt X.K H' a vs:=bt.of (sH _ _ (sR _ _ hp));obtain⟨e1,e2⟩:=fb hy;obtain⟨v,hv,hr⟩:=ft pp e2;refine⟨⟨vs,v,hq,hv⟩,λv' H2 YA=>?_⟩;obtain⟨p,x,Zm,rfl,rfl,hy⟩:=YA;have:=hy vs hq;rw[hv] at this;cases this
  have s2:aw R' (upd R' p (.tup [.int i,v])):=aw.fresh (sH.free Zm) _;exact⟨upd R' p (.tup [.int i,v]),Ext.fresh sH Zm _,p,_,_,rfl,aB,by rw[e1];rfl,r.mono s2 (r.mono sR hr)⟩
 ·exact⟨vs,bt.of (sH _ _ (sR _ _ hp)),by rw[pp.length,← cV xs];exact hi⟩
theorem xm:gv X (.builtin "isinstance") (λxs H Q=>∃x c t b,xs=[x,.ty c]/\eY X.K H x t/\VL X.K t (.type c)=some b/\Q (.bl b) H):=by
 intro VZ s σ H xs us Q I r h;obtain⟨x,c,t,b,rfl,ty,e,q⟩:=h;obtain⟨u,u2,rfl,r1,r2⟩:=vals2 r;cases (show u2=Vq c from r2)
 exact BH I r1 ty e λtk=>⟨.bl b,H,I.tok tk,rfl,q⟩
theorem bc {p:Pos}{x:α}{c:String}{t:Value}{b:Bool}(hm:X.mg "isinstance"=none)(hmy:X.mg y=none)(hvy:TB y=some (.type c))(he:EV X e Γ r x Γ1)(ty:∀(R H:Hp) v,aw R H->r.R X.K R v x->eY X.K H v t)(ht:∀K:Vr,VL K t (.type c)=some b:=by intro;rfl)(hs:Td [e,.Name y p2] X.env=(false,eval e X.env)::Td [.Name y p2] X.env:=by rfl)(hg:Gl X "isinstance":=by rfl)(hgy:Gl X y:=by rfl)(hny:y≠"__name__":=by decide)(hdy:WW y:=by decide):EV X (.Call (.Name "isinstance" p) [e,.Name y p2] [] pos) Γ bM b Γ1:=by
 intro σ H0 R0 H R E Q q;refine eS (ee xm hg hm PyProof.Rows.boot_isinstance (aH aK (aH (He (v:=.ty c) hgy hmy hvy rfl hny hdy) bo rfl) hs) (by decide) (by decide) hs rfl) (he σ H0 R0 H R E _ λv H1 R1 E1 s1 e1=>?_);exact⟨v,c,t,b,rfl,ty R1 H1 v E1.sub e1,ht _,q _ H1 R1 E1 s1 rfl⟩
theorem ty_int {x:Int}(R H:Hp)(v:V)(_:aw R H)(h:ag.R K R v x):eY K H v (.type "int"):=by cases h;exact .int _
theorem ty_list (R H:Hp)(v:V)(s:aw R H)(h:(ae r).R K R v xs):eY K H v (.type "list"):=by obtain⟨a,vs,rfl,e,_⟩:=h;exact .lst (s _ _ e)
theorem Gi {x:α×β}(R H:Hp)(v:V)(s:aw R H)(h:(dS r r').R K R v x):eY K H v (.type "tuple"):=by obtain⟨a,_,_,rfl,e,_⟩:=h;exact .tup (s _ _ e)
theorem KP {x:Row}(R H:Hp)(v:V)(s:aw R H)(h:cX.R K R v x):eY K H v (.type "tuple"):=by obtain⟨a,rfl,e⟩:=h;exact .tup (s _ _ e)
theorem sX:gv X (.type "range") (λxs H Q=>∃n:Int,xs=[.int n]/\∀p,H p=none->Q (.ref p) (upd H p (.Ym 0 n))):=by
 intro VZ s σ H xs us Q I r h;obtain⟨n,rfl,q⟩:=h;obtain⟨u,rfl,t,rfl⟩:=vals1 r;refine call_range_1 ?_;exact⟨.ref s.heap.objs.size,_,I.laid (o:=.Ym 0 n) (λb o e=>U5 _ e) (Sg _) ⟨_,_,_,U7 _ rfl⟩,rfl,q _ (I.V4.fresh (Sg _))⟩
theorem sq:gv X (.type "range") (λxs H Q=>∃m n:Int,xs=[.int m,.int n]/\∀p,H p=none->Q (.ref p) (upd H p (.Ym m n))):=by
 intro VZ s σ H xs us Q I r h;obtain⟨m,n,rfl,q⟩:=h;obtain⟨u,u2,rfl,⟨t,rfl⟩,⟨t2,rfl⟩⟩:=vals2 r;refine call_range_2 ?_;exact⟨.ref s.heap.objs.size,_,I.laid (o:=.Ym m n) (λb o e=>U5 _ e) (Sg _) ⟨_,_,_,U7 _ rfl⟩,rfl,q _ (I.V4.fresh (Sg _))⟩
theorem nJ (hc:X.calm=true):gv X (.type "list") (λxs H Q=>∃(p:Addr)(m n:Int),xs=[.ref p]/\H p=some (.Ym m n)/\ -1000000<=m/\m<=1000000/\ -1000000<=n/\n<=1000000/\∀d,H d=none->Q (.ref d) (upd H d (.lst ((ups m (n-m).toNat).map V.int)))):=by
 intro VZ s σ H xs us Q I r h;obtain⟨p,m,n,rfl,hp,m1,m2,n1,n2,q⟩:=h;obtain⟨u,rfl,rx⟩:=vals1 r;cases rx
 obtain⟨t,t2,t3,ho⟩:=I.V4 p _ hp;have hsz:UL m n 1=(((n-m).toNat:Nat):Int):=by rw[rangeSize_one];split<;>omega
 refine call_list_range (I.ok.hd hc) ho (small_one (by omega) (by omega) (by omega) (by omega)) hsz (by omega) λh' tk acc c' hk hS hacc=>?_;have vals:Vals ((ups m (n-m).toNat).map V.int) acc.toList:=by
  have key:∀(k:Nat)(V1:PN)(lo:Int),V1.length=k->(∀(j:Nat) v,V1[j]?=some v->∃t,v= .int (lo+(j:Int)*1) t)->Vals ((ups lo k).map V.int) V1:=by
   intro k
   induction k with
   | zero=>intro V1 lo hl _;cases V1 with
     | nil=>exact .nil
     | cons _ _=>cases hl
   | succ k ih=>
     intro V1 lo hl hv;cases V1 with
     | nil=>cases hl
     | cons v r=>
       have e:ups lo (k+1)=lo::ups (lo+1) k:=by
        unfold ups;rw[List.range_succ_eq_map,QJ,QY];congr 1
        ·simp
        ·apply Rr;intro a _;simp;omega
       rw[e,QJ];obtain⟨t,e0⟩:=hv 0 v rfl;refine .cons ⟨t,by rw[e0];simp⟩ (ih r (lo+1) (by simpa using hl) λj v hj=>?_);obtain⟨t,ej⟩:=hv (j+1) v (by simpa using hj);exact⟨t,by rw[ej];congr 1;push_cast;omega⟩
  refine key _ _ m (by rw[PU];exact hacc.1) λj v hj=>hacc.2 j v (by simpa using hj)
 exact⟨.ref _,_,I.laid (a:=s.heap.objs.size) (o:=.lst ((ups m (n-m).toNat).map V.int)) hk (Sg _) ⟨by rw[Qg,bU];exact Sh (show(n-m).toNat<=2000000 by omega) (by decide),acc.toList,c',vals,by rw[hS]⟩,rfl,q _ (I.V4.fresh (Sg _))⟩
end
def sv (scope:Scope)(env:Env):List (Str×Addr):=(scope.names.filterMap λp=>if p.2== .free then(env.cells.lookup p.1).map (λc=>(p.1,c)) else none).reverse
theorem qR {env:Env}:∀(names:List (Str×TY))(acc:List (Str×Addr)),(∀y∈names,y.2= .free->∃c,env.cells.lookup y.1=some c)->
 (forIn names acc λ(x:Str×TY)(r:List (Str×Addr))=>if(x.2==TY.free)=true then do let a ← cellOf env x.1;pure (P6 ((x.1,a)::r)) else pure (P6 r):Sem (List (Str×Addr)))
  =pure ((names.filterMap λp=>if p.2== .free then(env.cells.lookup p.1).map (λc=>(p.1,c)) else none).reverse++acc)
 | [],acc,_=>rfl
 | (n,k)::r,acc,h=>by
   have ih:=qR (env:=env) r;rw[R9,RK];cases hk:(k==TY.free) with
   | false=>
     simp only[hk,Bool.false_eq_true,if_false];rw[pure_bind];exact ih acc λy hy=>h y (Qi _ hy)
   | true=>
     obtain⟨c,hc⟩:=h (n,k) Qk (eq_of_beq hk);have Xn:cellOf env n=pure c:=by unfold cellOf;rw[hc]
     simp only[hk,if_true,hc,SR,Xn];rw[pure_bind,pure_bind];show forIn r ((n,c)::acc) _=_;rw[ih ((n,c)::acc) λy hy=>h y (Qi _ hy)];simp
theorem zK {own:PJ}(hk:scope.kind= .function)(hn:∀y∈scope.names,y.2≠ .cell)(hl:∀y∈scope.names,y.2= .local->scope.names.lookup y.1=some .local)(hc:∀x,X.env.scope.names.lookup x=some .cell->∃c,X.env.cells.lookup x=some c)(hf:∀y∈scope.names,y.2= .free->X.env.scope.names.lookup y.1=some .cell)(Zv:∀x∈fr,scope.names.lookup x=some .free)(hlen:fr.length=ix.length)(WQ:∀(k i:Nat)(x:Str),ix[k]?=some i->fr[k]?=some x->X.N[i]?=some x):gy X scope (sv scope X.env) own fr ix:=by
 have free:∀y∈scope.names,y.2= .free->∃c,X.env.cells.lookup y.1=some c:=λy hy e=>hc _ (hf y hy e);refine⟨?_,λx c e=>?_,hk,hn,hl,λx e=>?_,Zv,hlen,λk i x e1 e2=>⟨WQ k i x e1 e2,hf (x,.free) (Tn (Zv x (Qm e2))) rfl⟩⟩
 ·have:=qR (env:=X.env) scope.names [] free;rw[QC] at this;have e:closureFor scope X.env=((forIn scope.names [] λ(x:Str×TY)(r:List (Str×Addr))=>if(x.2==TY.free)=true then do let a ← cellOf X.env x.1;pure (P6 ((x.1,a)::r)) else pure (P6 r):Sem (List (Str×Addr))) >>=λcs=>pure cs):=rfl;rw[e,this,pure_bind];rfl
 ·have m:=Tn e;unfold sv at m;obtain⟨p,_,hp⟩:=RP.mp (List.mem_reverse.mp m);split at hp
  ·cases q:X.env.cells.lookup p.1 with
   | none=>rw[q] at hp;cases hp
   | some c'=>rw[q] at hp;cases hp;exact q
  ·cases hp
 ·have m:=Tn e;obtain⟨c,Y0⟩:=free _ m rfl;have m2:(x,c)∈sv scope X.env:=by
   unfold sv;refine List.mem_reverse.mpr (RP.mpr ⟨(x,.free),m,?_⟩);simp[Y0]
  cases q:(sv scope X.env).lookup x with
  | some c'=>exact⟨c',rfl⟩
  | none=>
    rw[List.lookup_eq_none_iff] at q;exact VO (q _ m2) (by simp)
def Ca (scope so:Scope)(N0 fr:PJ)(ix:List Nat):Bool:=
 decide (scope.kind= .function)&&scope.names.all (λy=>decide (y.2≠ .cell)&&(decide (y.2≠ .local) ||decide (scope.names.lookup y.1=some .local))&&(decide (y.2≠ .free) ||decide (so.names.lookup y.1=some .cell)))
  &&fr.all (λx=>decide (scope.names.lookup x=some .free))&&decide (fr.length=ix.length)&&(Qt ix.length).all λk=>match ix[k]?,fr[k]? with | some i,some x=>decide (N0[i]?=some x) | _,_=>true
theorem bA {so:Scope}{N0 own:PJ}(hso:X.env.scope=so)(hN0:X.N=N0)(hc:∀x,X.env.scope.names.lookup x=some .cell->∃c,X.env.cells.lookup x=some c)(h:Ca scope so N0 fr ix=true):gy X scope (sv scope X.env) own fr ix:=by
 unfold Ca at h;simp only[PZ,P2,decide_eq_true_eq,Ry] at h;obtain⟨⟨⟨⟨h1,h2⟩,h3⟩,h4⟩,h5⟩:=h;refine zK h1 (λy hy=>(h2 y hy).1.1) (λy hy e=>(h2 y hy).1.2.resolve_left λz=>z e) hc (λy hy e=>by rw[hso];exact(h2 y hy).2.resolve_left λz=>z e) h3 h4 λk i x e1 e2=>?_;have hk:k<ix.length:=(Qc.mp e1).1;have:=h5 k (QU.mpr hk);rw[e1,e2] at this;rw[hN0];simpa using this
theorem oO (i:Nat){k:Nat}{p:Pos}{Pd:α->Prop}(C:aE X.prog X.w X.K X.mg X.base x k (aM S X.K))(hr:bG k X.A)(ha:HA X (e::es) Γ ps Γ1)(hS:S X.K ps (cU X.K r Pd))(h:∀z,Pd z->N (Γ1.set i (.im r z)))(hg:Gl X x:=by rfl)(Wu:WW x:=by decide)(he:du X e es:=by rfl)(Wg:fm X p2 es:=by rfl)(hN:X.N.Nodup:=by first | assumption | decide)(hi:X.N[i]?=some y:=by rfl)(hx:autoParam (Loc X.env.scope y) Xe)(hs:Tf (.Call (.Name x p) (e::es) [] p2) (some (.Name y p1)) pos.line X.env=pure false:=by rfl)(hf:autoParam (fQ X y) Xd):
 W1 X (.Assign [.Name y p1] (.Call (.Name x p) (e::es) [] p2) pos) Γ N T:=λσ H0 R0 H R E D dn dr=>
 sS (iT hN hi hx aK hs hf) (nv C hr ha hS E (λH1 R1 v H' R' E1 s1 xx t=>by
  obtain⟨z,e1,hz⟩:=t;exact dn _ H' R' _ ((E1.grow xx).set i e1) (s1.trans xx.r) (h z hz)) hg Wu he Wg)
theorem IF {w:Row}(h:EV X iter Γ cX w Γ1):IV X tg iter Γ ag [w.1,w.2.1,w.2.2.1,w.2.2.2] Γ1:=by
 refine⟨_,AL aK,λσ H0 R0 H R E Rq q=>h σ H0 R0 H R E _ λv H1 R1 E1 s1 e1=>?_⟩;obtain⟨a,rfl,ha⟩:=e1;have X4:∀H' R':Hp,aw R1 R'->aw R' H'->dR X.K H' a [.int w.1,.int w.2.1,.int w.2.2.1,.int w.2.2.2]:=λH' R' sR sH=>dR.of (sH _ _ (sR _ _ ha));refine⟨a,rfl,⟨_,X4 H1 R1 (aw.refl _) E1.sub⟩,q _ H1 R1 E1 s1 (by show 4<=S8;decide) λH' R' sR sH i=>⟨λx hx=>?_,λhi=>⟨_,X4 H' R' sR sH,hi⟩⟩⟩;have e2:([.int w.1,.int w.2.1,.int w.2.2.1,.int w.2.2.2]:List V)[i]?=some (.int x):=by
  have:=congrArg (Option.map V.int) hx;rw[← Ql] at this;exact this
 refine⟨⟨_,_,X4 H' R' sR sH,e2⟩,λv H2 hy=>?_⟩;obtain⟨rfl,hy⟩:=hy;have:=hy _ (X4 _ R' sR sH);rw[e2] at this;cases this
 exact⟨R',Ext.refl sH,rfl⟩
theorem xR {a:Expr}{p:Pos}{x:α}{n:Nat}(hm:X.mg "len"=none)(ha:EV X a Γ r x Γ1)(ht:∀(R:Hp) v,r.R X.K R v x->∃q vs,v= .ref q/\R q=some (.tup vs)/\vs.length=n)(hs:fK X a:=by rfl)(hg:Gl X "len":=by rfl):EV X (.Call (.Name "len" p) [a] [] pos) Γ ag (n:Int) Γ1:=by
 intro σ H0 R0 H R E Q q;refine eS (ee fH hg hm Tu (aH aK bo hs) (by decide) (by decide) hs) (ha σ H0 R0 H R E _ λv H1 R1 E1 s1 e1=>?_);obtain⟨p,vs,rfl,hp,hl⟩:=ht R1 v e1;refine⟨p,vs,rfl,.inr (dR.of (E1.sub _ _ hp)),?_⟩;rw[hl];exact q _ H1 R1 E1 s1 rfl
theorem FO {x:α×β}(R:Hp)(v:V)(h:(dS r r').R K R v x):∃q vs,v= .ref q/\R q=some (.tup vs)/\vs.length=2:=by
 obtain⟨a,v1,v2,rfl,ha,_⟩:=h;exact⟨a,_,rfl,ha,rfl⟩
theorem Ku {x:Row}(R:Hp)(v:V)(h:cX.R K R v x):∃q vs,v= .ref q/\R q=some (.tup vs)/\vs.length=4:=by
 obtain⟨a,rfl,ha⟩:=h;exact⟨a,_,rfl,ha,rfl⟩
inductive Reach (es:PR) (s:Int):Int->Prop
 | base:Reach es s s
 | step {a b:Int}:Reach es s a->(a,b)∈es->Reach es s b
theorem Reach.sub {es:PR}{s:Int}{P:Int->Prop}(h0:P s)(hc:∀a b,P a->(a,b)∈es->P b):∀{k:Int},Reach es s k->P k
 | _,.base=>h0
 | _,.step r m=>hc _ _ (Reach.sub h0 hc r) m
variable {rr:Rep β}
theorem FX:eJ X (TL .Mult) (rI UD λi j=>.int (i*j)):=yD λ_ _ _ _ _ _ _ hc q=>mul_int q hc
theorem l6 {a:Expr}{x y:Int}(ha:EV X a Γ ag x Γ1)(hb:EV X b Γ1 ag y Γ2)(h:UD x y):EV X (.BinOp a .Mult b pos) Γ ag (x*y) Γ2:=jV FX ha hb λR v u H Q e1 e2 q=>⟨x,y,e1,e2,h,q _ rfl⟩
def aO (a:Addr)(r:Rep α)(xs:List α):oY where
 fp:=[a]
 R:=λK H R v=>v= .ref a/\∃vs,H a=some (.lst vs)/\PySem.Paired (r.R K R) vs xs
 loc:=λhH hR ⟨e,vs,h,p⟩=>⟨e,vs,(hH a (Qe.mpr rfl)).trans h,Paired.map (λ_ _=>r.mono hR) p⟩
 has:=λ⟨e,vs,h,p⟩ b hb=>by rw[Qe.mp hb,h];exact SQ _
theorem oE (h:H a=some (.lst vs))(hR:R a=none)(p:PySem.Paired (r.R K R) vs xs):(Ent.ob (aO a r xs)).ok K H R (some (.ref a)):=
 ⟨⟨_,rfl,rfl,vs,h,p⟩,λb hb=>by rw[Qe.mp hb];exact hR⟩
theorem dD (h:(Ent.ob (aO a r xs)).ok K H R o):o=some (.ref a)/\(∃vs,H a=some (.lst vs)/\PySem.Paired (r.R K R) vs xs)/\R a=none:=by
 obtain⟨⟨v,rfl,rfl,q⟩,n⟩:=h;exact⟨rfl,q,n a (Qe.mpr rfl)⟩
theorem WS.box (i:Nat){W0:List Stmt}(hΓ:Γ[i]?=some (.mu r xs))(h:∀a,WS X W0 (Γ.set i (.ob (aO a r xs))) N T):WS X W0 Γ N T:=λσ H0 R0 H R E D dn dr=>by
 obtain⟨a,vs,ea,ha,hR,pp⟩:=E.ent i _ hΓ;exact h a σ H0 R0 H R (E.tell hΓ (by rw[ea];exact oE ha hR pp) λb w=>by
  rw[show b=a from Qe.mp w];exact cf.mpr ea) D dn dr
theorem EV.box (i:Nat){xs':List α}{y:β}(h:EV X e (Γ.set i (.mu r xs)) rr y Γ1)(hΓ:Γ[i]?=some (.ob (aO a r xs)))(hΓ1:Γ1[i]?=some (.mu r xs')):EV X e Γ rr y (Γ1.set i (.ob (aO a r xs'))):=by
 intro σ H0 R0 H R E Q q;obtain⟨ea,⟨vs,ha,pp⟩,hR⟩:=dD (E.ent i _ hΓ);refine h σ H0 R0 H R (E.tell hΓ (by rw[ea];exact⟨a,vs,rfl,ha,hR,pp⟩) λb w=>by rw[cf.mp w] at ea;cases ea;exact Qe.mpr rfl) Q λv H' R' E' s' hr=>q v H' R' ?_ s' hr
 obtain⟨a',WC,Wy,WX,WK,W6⟩:=E'.ent i _ hΓ1;rw[ea] at Wy;cases Wy
 exact E'.tell hΓ1 (by rw[ea];exact oE WX WK W6) λb w=>by rw[show b=a from Qe.mp w];exact cf.mpr ea
theorem dw (j:Nat){i:Int}{y:α}(hb:EV X b Γ ag i Γ)(hΓ:Γ[j]?=some (.ob (aO a r xs)))(h:cE xs i=some y)(hN:X.N[j]?=some x:=by rfl)(hv:autoParam (BR X.env.scope x) vA1)(hs:eL b:=by exact λ_ _=>rfl)(hd:WW x:=by decide)(X0:Cd0 x:=by decide):EV X (.Subscript (.Name x p1) b pos) Γ r y Γ:=by
 intro σ H0 R0 H R E Q q;obtain⟨ea,⟨vs,ha,pp⟩,hR⟩:=dD (E.ent j _ hΓ);refine eS (gG iz (aV ⟨hN,hv,hd,X0⟩) aK hs) ⟨.ref a,at_of ea,hb σ H0 R0 H R E _ λu H2 R2 E2 s2 e2=>?_⟩;obtain⟨Wy,⟨WC,WX,W6⟩,WK⟩:=dD (E2.ent j _ hΓ);obtain⟨w,e3,e4⟩:=iL W6 h;exact⟨a,WC,i,w,rfl,e2,bt.of WX,e3,q w H2 R2 E2 s2 e4⟩
theorem eP (i:Nat){y:α}{k:Int}(he:EV X e Γ r y Γ1)(hb:EV X b Γ1 ag k Γ2)(hΓ1:Γ1[i]?=some (.ob (aO a r xs)))(hΓ2:Γ2[i]?=some (.ob (aO a r xs)))(hj:ij xs.length k=some j)(h:N (Γ2.set i (.ob (aO a r (xs.set j y)))))(hN:autoParam (At X i x) cg)(ha:∀v,TU (.Subscript (.Name x p1) b p2) X.env v=(do
  let ov ← TK [v] (eval (.Name x p1) X.env)
  let iv ← TK [v,ov] (eval b X.env)
  Ue p2
  TK [v,ov,iv] (setItem ov iv v)
  release [v,ov,iv] []):=by intro _;rfl)(hs:Uj [.Subscript (.Name x p1) b p2] e pos.line X.env=pure false:=by rfl)(hw:Uk [.Subscript (.Name x p1) b p2] e X.env=pure none:=by rfl)(h1:(TQ [.Subscript (.Name x p1) b p2] X.env).map (·.2)=[TU (.Subscript (.Name x p1) b p2) X.env]:=by rfl):
 W1 X (.Assign [.Subscript (.Name x p1) b p2] e pos) Γ N T:=λσ H0 R0 H R E D dn dr=>by
 refine sS (vj aK (Ah (aV hN) aK set_list ha) hs hw h1) (he σ H0 R0 H R E _ λv H1 R1 E1 s1 e1=>?_);obtain⟨ea,⟨vs,hp,pp⟩,hR⟩:=dD (E1.ent i _ hΓ1);refine⟨.ref a,at_of ea,hb σ H0 R0 H1 R1 E1 _ λu H2 R2 E2 s2 e2=>?_⟩;obtain⟨Wy,⟨WC,WX,W6⟩,WK⟩:=dD (E2.ent i _ hΓ2);refine⟨a,WC,k,j,rfl,e2,WX,by rw[W6.length];exact hj,?_⟩;exact dn σ _ R2 _ (E2.mS (en:=.ob (aO a r (xs.set j y))) hΓ2 (Qe.mpr rfl) (by rw[Wy];exact oE aB WK (ni (r.mono s2 e1) j W6)) λb w=>.inl w) (s1.trans s2) h
def del (H:Hp)(a:Addr):Hp:=λb=>if b=a then none else H b
theorem uM :del H a a=none:=VQ rfl
theorem nM {b:Addr}(h:b≠a):del H a b=H b:=VP h
theorem Hc :aw (del H a) H:=λb o q=>by
 by_cases h:b=a
 ·subst h;rw[uM] at q;cases q
 ·rwa [nM h] at q
theorem au.Fp {H' R':Hp}(E:au K σ H0 R0 H R Γ)(off:Off a σ Γ)(h0:H0 a=none)(x:Ext (del H a) R H' R'):au K σ H0 R0 H' R' Γ:=by
 have ne:∀{b:Addr},H0 b≠none->b≠a:=λh e=>h (e▸h0);refine⟨⟨λb o q=>?_,E.ext.r.trans x.r,x.s,λb hb=>?_⟩,λi e q=>?_,E.nw,E.ds,E.len⟩
 ·exact x.h b o (by rw[nM (ne (by rw[q];exact SQ _))];exact E.ext.h b o q)
 ·refine(x.old b ?_).trans (E.ext.old b hb);rw[nM (ne hb)];exact aw.some E.ext.h hb
 ·have h1:=E.ent i e q;have na:∀b∈e.fp (σ[i]?).join,b≠a:=λb hb z=>off i e q (z▸hb);refine h1.loc (λb hb=>?_) x.r λb hb=>?_
  ·cases e2:H b with
   | none=>exact VO e2 (Ent.fE h1 hb).1
   | some u=>exact x.h b u (by rw[nM (na b hb)];exact e2)
  ·exact(x.old b (by rw[nM (na b hb)];exact(Ent.fE h1 hb).1)).trans (Ent.fE h1 hb).2
theorem au.jX (E:au K σ H0 R0 H R Γ){e0:Ent}(hi:Γ[i]?=some e0)(ho:en.ok K H R (σ[i]?).join)(Wq:∀b∈en.fp (σ[i]?).join,H0 b=none/\∀(j:Nat)(e:Ent),j≠i->Γ[j]?=some e->b∉e.fp (σ[j]?).join):au K σ H0 R0 H R (Γ.set i en):=by
 refine⟨E.ext,λj e q=>?_,λj e b q w=>?_,λj k e e' b q q' w w'=>?_,by rw[QV];exact E.len⟩
 ·rcases set_at q with⟨rfl,rfl,_⟩ | ⟨hj,q1⟩
  ·exact ho
  ·exact E.ent j e q1
 ·rcases set_at q with⟨rfl,rfl,_⟩ | ⟨hj,q1⟩
  ·exact(Wq b w).1
  ·exact E.nw j e b q1 w
 ·rcases set_at q with⟨rfl,rfl,_⟩ | ⟨hj,q1⟩
  ·rcases set_at q' with⟨rfl,rfl,_⟩ | ⟨hk,Xk⟩
   ·rfl
   ·exact VO w' ((Wq b w).2 k e' hk Xk)
  ·rcases set_at q' with⟨rfl,rfl,_⟩ | ⟨hk,Xk⟩
   ·exact VO w ((Wq b w').2 j e hj q1)
   ·exact E.ds _ _ _ _ b q1 Xk w w'
abbrev nS (α:Type):=Vr->List α->List Pk->(List α->RT)->Prop
def iC (r:Rep α)(S:nS α)(K:Vr):Sp:=λvs H Q _=>∃R a ws xs WC ps T,vs= .ref a::WC/\aw R H/\R a=none/\H a=some (.lst ws)/\PySem.Paired (r.R K R) ws xs/\lh K R WC ps/\S K xs ps T/\
 ∀v H' R' Xj xs',Ext (del H a) R H' R'->H' a=some (.lst Xj)->R' a=none->PySem.Paired (r.R K R') Xj xs'->T xs' (del H a) v H' R'->Q v H'
theorem Bf {S:nS α}{k:Nat}{p:Pos}{TM:List α->RT}(i:Nat)(C:aE X.prog X.w X.K X.mg X.base x k (iC r S X.K))(hr:bG k X.A)(ha:HA X es Γ ps Γ1)(hΓ:Γ[i]?=some (.mu r xs))(hΓ1:Γ1[i]?=some (.mu r xs))(hS:S X.K xs ps TM)(E:au X.K σ H0 R0 H R Γ)(q:∀H1 v H' R' xs',au X.K σ H0 R0 H' R' (Γ1.set i (.mu r xs'))->aw R R'->TM xs' H1 v H' R'->Q v H')(hg:Gl X x)(Wu:(x==("__debug__":Str))=false)(he:Td (.Name y p1::es) X.env=(false,eval (.Name y p1) X.env)::Td es X.env)(Wg:fm X pos es)(hN:At X i y):gK X (.Call (.Name x p) (.Name y p1::es) [] pos) σ H Q:=by
 obtain⟨f,fd,pn,F,hm,hk,hb⟩:=C.ex;obtain⟨a,vs,ea,_,_,_⟩:=E.ent i _ hΓ;refine eS (ig F hr hg hm hk hb .nil jT (aH (aV hN) nC he) Wu he Wg) ⟨.ref a,at_of ea,ha σ H0 R0 H R E _ λus H1 R1 E1 s1 p1=>?_⟩;obtain⟨a',ws,Wy,hp,hR,pp⟩:=E1.ent i _ hΓ1;rw[ea] at Wy;cases Wy
 have h0:H0 a=none:=E1.new i _ a hΓ1 rfl ea;refine⟨R1,a,ws,xs,us,ps,TM,by rw[QC],E1.sub,hR,hp,pp,p1,hS,λv H' R' Xj xs' xx h1 h2 pq t=>q _ v H' R' xs' ?_ (s1.trans xx.r) t⟩;have apart:∀(j:Nat)(e:Ent),j≠i->Γ1[j]?=some e->a∉e.fp (σ[j]?).join:=λj e hj qj w=>hj (E1.ds j i e _ a qj hΓ1 w (cf.mpr ea));have E2:au X.K σ H0 R0 H1 R1 (Γ1.set i .no):=E1.tell hΓ1 trivial λb w=>by cases w
 have E3:=E2.Fp (a:=a) (λj e qj w=>by
  rcases set_at qj with⟨rfl,rfl,_⟩ | ⟨hj,q1⟩
  ·cases w
  ·exact apart j e hj q1 w) h0 xx
 have hl:i<Γ1.length:=(Qc.mp hΓ1).1;have E4:=E3.jX (i:=i) (e0:=.no) (en:=.mu r xs') (Qp hl) (by rw[ea];exact⟨a,Xj,rfl,h1,h2,pq⟩) λb w=>by
  have eb:b=a:=by rw[cf.mp w] at ea;cases ea;rfl
  subst eb;exact⟨h0,λj e hj qj=>apart j e hj (by rwa [QB (SN hj)] at qj)⟩
 rw[Ra] at E4;exact E4
theorem D5 (i:Nat){S:nS α}{k:Nat}{p:Pos}{st:List α}{z:β}(C:aE X.prog X.w X.K X.mg X.base x k (iC r S X.K))(hr:bG k X.A)(ha:HA X es Γ ps Γ1)(hΓ:Γ[i]?=some (.mu r xs))(hΓ1:Γ1[i]?=some (.mu r xs))(hS:S X.K xs ps (λxs'=>cU X.K rr λw=>xs'=st/\w=z))(hg:Gl X x:=by rfl)(Wu:WW x:=by decide)(he:Td (.Name y p1::es) X.env=(false,eval (.Name y p1) X.env)::Td es X.env:=by rfl)(Wg:fm X pos es:=by rfl)(hN:autoParam (At X i y) cg):
 EV X (.Call (.Name x p) (.Name y p1::es) [] pos) Γ rr z (Γ1.set i (.mu r st)):=λσ H0 R0 H R E Q q=>
 Bf i C hr ha hΓ hΓ1 hS E (λH1 v H' R' xs' E' s' t=>by
  obtain⟨w,e1,rfl,rfl⟩:=t;exact q v H' R' E' s' e1) hg Wu he Wg hN
theorem fO (i:Nat){S:nS α}{k:Nat}{p:Pos}{st:List α}{z:β}(C:aE X.prog X.w X.K X.mg X.base x k (iC r S X.K))(hr:bG k X.A)(ha:HA X es (Γ.set i (.mu r xs)) ps (Γ.set i (.mu r xs)))(hΓ:Γ[i]?=some (.ob (aO a r xs)))(hS:S X.K xs ps (λxs'=>cU X.K rr λw=>xs'=st/\w=z))(hg:Gl X x:=by rfl)(Wu:WW x:=by decide)(he:Td (.Name y p1::es) X.env=(false,eval (.Name y p1) X.env)::Td es X.env:=by rfl)(Wg:fm X pos es:=by rfl)(hN:autoParam (At X i y) cg):
 EV X (.Call (.Name x p) (.Name y p1::es) [] pos) Γ rr z (Γ.set i (.ob (aO a r st))):=by
 have hl:i<Γ.length:=(Qc.mp hΓ).1;have h:=EV.box i (xs':=st) (D5 (p:=p) i C hr ha (Qp hl) (Qp hl) hS hg Wu he Wg hN) hΓ (by rw[Ra];exact Qp hl);rwa [Ra,Ra] at h
def E9 (K:Vr)(a:Addr)(r:Rep α)(T:List α->RT):RT:=λH0 v H' R'=>∃Xj xs',H' a=some (.lst Xj)/\R' a=none/\PySem.Paired (r.R K R') Xj xs'/\T xs' H0 v H' R'
theorem Kn (i:Nat){y:β}{P:List α->β->Prop}(he:EV X e Γ rr y Γ1)(hΓ1:Γ1[i]?=some (.ob (aO a r xs)))(h:P xs y):W1 X (.Return (some e) pos) Γ N (E9 X.K a r λxs'=>cU X.K rr (P xs')):=λσ H0 R0 H R E D dn dr=>
 sS (kQ aK) (he σ H0 R0 H R E _ λv H1 R1 E1 s1 e1=>by
  obtain⟨ea,⟨vs,ha,pp⟩,hR⟩:=dD (E1.ent i _ hΓ1);exact dr v H1 R1 E1.ext ⟨vs,xs,ha,hR,pp,y,e1,h⟩)
theorem zG {ws:List V}{N:PJ}(s:aw R H)(hR:R a=none)(ha:H a=some (.lst ws))(pp:PySem.Paired (r.R K R) ws xs)(p:lh K R vs ps)(hl:ps.length+1<=N.length):
 au K (L2.start N (.ref a::vs)) (del H a) R H R (.ob (aO a r xs)::gE ps (N.length-1)):=by
 obtain⟨n0,N',rfl⟩:∃n0 N',N=n0::N':=by cases N with
  | nil=>exact VO hl (by simp)
  | cons n N'=>exact⟨n,N',rfl⟩
 have Xx:ps.length<=N'.length:=by simpa using hl
 have E0:=lj (N:=N') s p Xx;have es:L2.start (n0::N') (.ref a::vs)=some (.ref a)::L2.start N' vs:=by unfold L2.start;simp
 rw[es];have Wl:∀(i:Nat)(e:Ent)(o:Option V),(gE ps N'.length)[i]?=some e->e.fp o=[]:=λi e o q=>by
  unfold gE at q;rcases Qr.mp (Qm q) with z | z
  ·obtain⟨p,_,rfl⟩:=Qw.mp z;rfl
  ·obtain⟨_,rfl⟩:=RQ.mp z;rfl
 refine⟨⟨Hc,aw.refl _,s,λ_ _=>rfl⟩,λi e q=>?_,λi e b q w=>?_,λi j e e' b q q' w w'=>?_,?_⟩
 ·cases i with
  | zero=>simp at q;subst q;exact oE ha hR pp
  | succ i=>simp at q;simpa using E0.ent i e q
 ·cases i with
  | zero=>simp at q;subst q;rw[show b=a from Qe.mp w];exact uM
  | succ i=>simp at q;rw[Wl i e _ q] at w;cases w
 ·cases i with
  | succ i=>simp at q;rw[Wl i e _ q] at w;cases w
  | zero=>
    cases j with
    | zero=>rfl
    | succ j=>simp at q';rw[Wl j e' _ q'] at w';cases w'
 ·have:=E0.len;simp[this]
theorem vG {S:nS α}{N ps:PJ}{k:Nat}(F:dZ K x qual st f fd)(Sc:bV N ps (ao st))(hm:mg x=some (.ref f))(hb:Binds K fd ps [])(len:∀xs qs T,S K xs qs T->qs.length+1=ps.length)(Wr:∀(V2:Value)(A:Te)(outer:List Env)(s:S7)(H:Hp)(E:XK)(a:Addr)(xs:List α)(qs:List Pk)(T:List α->RT),bG k (A.deeper (S0 qual (ao st) s.heap.objs.size f V2))->S K xs qs T->
  WS (fI eX P w K mg base N qual (ao st) f V2 A outer s H E).i6 (bP st) (.ob (aO a r xs)::gE qs (N.length-1)) (λ_=>False) (E9 K a r T)):aE P w K mg base x (k+1) (iC r S K):=by
 refine⟨f,fd,ps,?_,hm,F.kp,hb⟩;refine F.ok Sc (λvs H Q E h=>?_) (λV2 A outer s H vs Q E hr h=>?_)
 ·obtain⟨R,a,ws,xs,WC,qs,T,rfl,_,_,_,_,p,hS,_⟩:=h;rw[Qo,p.length];exact len xs qs T hS
 ·obtain⟨R,a,ws,xs,WC,qs,T,rfl,sR,hR,ha,pp,p,hS,q⟩:=h;have hl:qs.length+1<=N.length:=by
   rw[len xs qs T hS];have:=congrArg List.length Sc.pre;rw[QA] at this;omega
  refine⟨_,jq,Wr V2 A outer s H E a xs qs T hr hS (L2.start N (.ref a::WC)) (del H a) R H R (zG sR hR ha pp p hl) {nx:=λ_ H'=>Q .Wb H',rt:=Q} (λ_ _ _ _ _ _ f=>f.elim) λv H' R' xx t=>?_⟩;obtain⟨Xj,xs',h1,h2,h3,h4⟩:=t;exact q v H' R' Xj xs' xx h1 h2 h3 h4
theorem GN {S:nS α}{N ps:PJ}{k:Nat}(D:Def K mg x st ps)(Wr:∀(f:Addr)(V2:Value)(A:Te)(outer:List Env)(s:S7)(H:Hp)(E:XK)(a:Addr)(xs:List α)(qs:List Pk)(T:List α->RT),N.Nodup->bG k (A.deeper (S0 x (ao st) s.heap.objs.size f V2))->S K xs qs T->
  WS (fI eX P w K mg base N x (ao st) f V2 A outer s H E).i6 (bP st) (.ob (aO a r xs)::gE qs (N.length-1)) (λ_=>False) (E9 K a r T))(len:∀xs qs T,S K xs qs T->qs.length+1=ps.length:=by(intros;rename_i h;repeat (first | (rw[h.1];rfl) | obtain⟨_,h⟩:=h)))(Sc:bV N ps (ao st):=by exact Xt):aE P w K mg base x (k+1) (iC r S K):=by
 obtain⟨f,fd,F,hm,hb⟩:=D;exact vG F Sc hm hb len λV2 A outer s H E a xs qs T=>Wr f V2 A outer s H E a xs qs T Sc.nd
def cq (k:Nat)(y:α)(xs:List α):List α:=xs.take k++y::xs.drop k
theorem uK {k:Nat}{y:α}:(cq k y xs).length=xs.length+1:=by
 unfold cq;rw[Qj,Qo,QA,Ro];omega
theorem BZ (f:α->β){k:Nat}{y:α}:(cq k y xs).map f=cq k (f y) (xs.map f):=by
 unfold cq;rw[Qv,QJ,List.map_take,Sa]
def FY:V->List V->Hp->VK->Prop:=λx vs H Q=>∃l xs i y,x= .ref l/\vs=[.int i,y]/\H l=some (.lst xs)/\0<=i/\i<=(xs.length:Int)/\xs.length<S8/\Q .Wb (upd H l (.lst (cq i.toNat y xs)))
theorem AU:AK X "list.insert" FY:=by
 intro VZ s σ H x vs v us Q I rx rv h;obtain⟨l,xs,i,y,rfl,rfl,hH,h0,h1,hz,q⟩:=h;cases rx
 obtain⟨u1,u2,rfl,⟨t,rfl⟩,r2⟩:=vals2 rv;obtain⟨z,V1,n,r,hl,e⟩:=I.lT hH;have hfit:Builtin.List.listFitsIndex i=true:=fitsIndex_both (by omega) (by
  have:S8<2 ^ 63:=by decide
  omega)
 refine TR PySem.F.slot_list_insert ⟨_,e,rfl⟩ PySem.F.entry_list_insert (PySem.F.args_list_insert_3 _ _ _) (PySem.AutoSeq1.list_insert_list_int_val_1 l _ n i t u2 (by simp[hfit]) (by rw[Qx];omega)) ⟨e,?_⟩;refine⟨.Wb,_,I.uP (its':=cq i.toNat u2 V1) hH e ?_ ?_ ?_,rfl,q⟩
 ·have hk:(if i<0 then(i+((V1.toArray.size:Nat):Int)).toNat else min i.toNat V1.toArray.size)=i.toNat:=by
   rw[VP (by omega),Qx];omega
  dsimp only;rw[hk];unfold cq;apply Array.ext';simp;exact Rv (by rw[Ro];exact Sg _)
 ·unfold cq;exact(r.take _).append (.cons r2 (r.drop _))
 ·rw[uK];omega
def dv:Rep Addr:=⟨λ_ _ v a=>v= .ref a,λ_ h=>h⟩
def lJ:Ent->Ent
 | .im r x=>.im r x
 | _=>.no
theorem au.WT {K:Vr}{σ:St}{H0 R0 H R:Hp}(E:au K σ H0 R0 H R Γ):au K σ H H H H (Γ.map lJ):=by
 have Wl:∀(i:Nat)(e:Ent)(o:Option V),(Γ.map lJ)[i]?=some e->e.fp o=[]:=λi e o q=>by
  rw[Ql] at q;cases h:Γ[i]? with
  | none=>rw[h] at q;cases q
  | some e'=>rw[h] at q;cases q;cases e'<;>rfl
 refine⟨Ext.refl (aw.refl _),λi e q=>?_,λi e a q w=>VO w (by rw[Wl i e _ q];exact QL),λi j e e' a q _ w=>VO w (by rw[Wl i e _ q];exact QL),by rw[Qg];exact E.len⟩;rw[Ql] at q;cases h:Γ[i]? with
 | none=>rw[h] at q;cases q
 | some e'=>
   rw[h] at q;cases q
   have:=E.ent i e' h;cases e' with
   | im r x=>obtain⟨v,e,hr⟩:=this;exact⟨v,e,r.mono E.sub hr⟩
   | no=>trivial
   | mu r x=>trivial
   | di x=>trivial
   | ob x=>trivial
theorem Hx {N ps:PJ}{k:Nat}(F:dZ K x qual st f fd)(Sc:bV N ps (ao st))(len:∀qs T,S K qs T->qs.length=ps.length)(Wr:∀(V2:Value)(A:Te)(outer:List Env)(s:S7)(H:Hp)(E:XK)(qs:List Pk)(T:RT),bG k (A.deeper (S0 qual (ao st) s.heap.objs.size f V2))->S K qs T->
  WS (fI eX P w K mg base N qual (ao st) f V2 A outer s H E).i6 (bP st) (gE qs N.length) (λ_=>False) T):eV P w K mg base eX (k+1) f fd ps (aM S K):=by
 refine F.ok Sc (λvs H Q E h=>?_) (λV2 A outer s H vs Q E hr h=>?_)
 ·obtain⟨R,qs,T,_,p,hS,_⟩:=h;rw[p.length];exact len qs T hS
 ·obtain⟨R,qs,T,sR,p,hS,q⟩:=h;have hl:qs.length<=N.length:=by
   rw[len qs T hS];have:=congrArg List.length Sc.pre;rw[QA] at this;omega
  exact⟨_,jq,Wr V2 A outer s H E qs T hr hS (L2.start N vs) H R H R (lj sR p hl) {nx:=λ_ H'=>Q .Wb H',rt:=Q} (λ_ _ _ _ _ _ f=>f.elim) λv H' R' xx t=>q v H' R' xx t⟩
theorem Kh {h:Heap}{ps:PJ}{oc:Value}{od an:Option Addr}{XF:Array PK}{kV doc pm V2 ct:Value}(KX:K.In h)(G:h.Ns Ta mg)(a:Vs K Ta x=some (some (.ref f)))(l:K.lookup f=some ⟨oc,od,.func (Vx x x (fc st) (bP st) (ao st) .none kV doc pm an V2 ct),XF⟩)(c:VB K V2 x=true)(k:Vw K (.ref f)=true)(b:∀(kV doc pm:Value)(an:Option Addr)(V2 ct:Value)(us:PN),us.length=ps.length->bindArgs (Vx x x (fc st) (bP st) (ao st) .none kV doc pm an V2 ct) ⟨us,[]⟩=pure (ps.zip us)):Def K mg x st ps:=
 ⟨f,_,kT l c k,Vv KX G a,(kT l c k).binds b⟩
open PySem.Builtin.Int (intBits)
theorem xq {ns:PH}(h:PySem.W.WData.layableAll [.list (ns.map .int)]=true):∀n∈ns,intBits n<=2 ^ 20:=λn hn=>by
 have h1:=PySem.W.layableW_arg h _ (Qe.mpr rfl);have h2:=PySem.W.layableW_item h1 (.int n) (Qw.mpr ⟨n,hn,rfl⟩);exact PySem.PyData.bits_of_layable h2
end Fc
namespace Att
open PySem PySem.W PySem.Calls PyProof.Rows
open PySem.Builtin.Int (intBits)
theorem wG {l:OpenLaw}{n:Nat}{q:Tb}{loose:PJ}{XP:(Pz)->Heap->Prop}{YP:World->Heap->Prop}{d:DefRec}(hn:l.most=some n)(hdf:d.params.defaults=[])(call:∀(w:World)(s₀ s₁:S7)(mg mb:Pz)(fa:Addr)(o:Obj)(pm cd doc:Value)(a:Addr)(vs:PN)(ns:PH),
  Ground q loose [] XP w s₀ mg mb s₁.heap->YP w s₁.heap->
  s₁.heap.get? fa=some o->o.data= .func (docDef d.name d.params d.body d.scope pm cd doc)->s₁.heap.CodeRec cd d.name->mg d.name=some (.ref fa)->
  s₁.heap.get? a=some {cls:=.type "list",data:=.seq vs.toArray}->IntsAre vs ns->ns.length<=n->(∀m∈ns,intBits m<=2 ^ 20)->s₁.gens= #[]->
  Ug (model l.prog w) Uq (.call (.ref fa) ⟨[.ref a],[]⟩) (λr s'=>r= .ok (.ret (.bool true))/\OldK s₁.heap s'.heap/\s'.os=s₁.os/\S4 s'.gens) s₁):
 WalkO q loose XP YP l.row.toRowW d [] (λf vs=>PySem.call f vs):=by
 intro w s₀ s₁ mg mb G Y fa o pm cd doc dV kV ho hd X0 hD hmg hg args vals as YD hlay hrd hwl YE;obtain rfl:dV= .none:=Dflts.none hD hdf;obtain rfl:kV= .none:=Dflts.noKw hD;obtain⟨a,vs,ns,rfl,rfl,Zq,hints,hlen⟩:=Bg hn YD hwl;refine enter_call (Ur (call w s₀ s₁ mg mb fa o pm cd doc a vs ns G Y ho (fd_plain hd) X0 hmg Zq hints hlen (Fc.xq hlay) hg) λr s' hq=>?_);obtain⟨rfl,h2,h3,h4⟩:=hq;exact⟨.inl ⟨.bool true,.bool true,[],rfl,λ_=>rfl,.bool true,A0 l _,λ_=>⟨List.Pairwise.nil,λ_ hm=>(nomatch hm)⟩⟩,h2,h3,h4⟩
end Att
namespace L2
open PySem PySem.Spec PyProof.Rows
open PySem.Builtin.Int (intBits)
theorem Cs {l:VI}{n k:Nat}{q:Tb}{loose:PJ}{XP:(Pz)->Heap->Prop}{YP:World->Heap->Prop}{d:DefRec}{K:Params->Vr}{CX:World->ny}{sp:World->Sp}{x:Str}(hn:l.most=some n)(hn2:n<=S8)(hdf:d.params.defaults=[])(hr:bG k Uq)(hY:∀(w:World)(h:Heap),YP w h->(K w.params).In h)(F:∀(w:World)(mg:Pz)(fa:Addr)(h:Heap),(K w.params).In h->h.Ns Ta mg->mg d.name=some (.ref fa)->
  ∃fd:Tg,(∀(s:S7)(u:Value),Uz s fd ⟨[u],[]⟩ [(x,u)])/\
   ∀base:Heap,(K w.params).In base->base.Ns Ta mg->eV l.prog w (K w.params) mg base (CX w) k fa fd [x] (sp w))(XY:∀(w:World)(H:Hp)(a:Addr)(ns:PH),ns.length<=n->(∀m∈ns,intBits m<=2 ^ 20)->Dk H->bt (K w.params) H a (ns.map V.int)->sp w [.ref a] H (λv _=>v= .bl true) λ_ _ _=>False)(hCX:∀(w:World)(H:Hp)(s:S7)(e:Value)(s':S7),CX w [] H s (λ_ _ _=>False) e s'->False):
 PySem.W.WalkO q loose XP YP l.row.toRowW d [] (λf vs=>PySem.call f vs):=by
 refine Att.wG hn hdf λw s₀ s₁ mg mb fa o pm cd doc a vs ns G Y ho hd X0 hmg Zq hints hlen XA hg=>?_;have KX:=hY w _ Y;obtain⟨fd,hb,hF⟩:=F w mg fa _ KX G.T.g hmg;exact Cu KX G.T.g G.T.b G.T.builtins G.T.nolimit hg Zq hints (Sh hlen hn2) hr hF hb (λH hO hS=>XY w H a ns hlen XA hO hS) λH e s'=>hCX w H s₁ e s'
end L2
namespace Fc
open PySem PySem.Spec PySem.W PySem.Calls L2
open PyProof.Rows hiding St
variable {X:Cx}
section
variable {Γ Γ1:Ga}
end
section
variable {P:Tb}{w:World}{K:Vr}{mg:Pz}{base:Heap}
end
section
variable {VZ:PD}{σ:St}{H:Hp}{s:S7}{e:Addr}{o:Obj}
end
end Fc
namespace Fc
open PySem PySem.Spec PySem.W PySem.Calls L2
open PyProof.Rows hiding St
open PySem PySem.Spec PySem.W PySem.Calls PySem.Builtin.ObjectAttr PySem.Builtin.Getset_descriptor L2
section
variable {K:Frag}{D x:Addr}{prog:Tb}{w:World}{A:Te}{E:Value->S7->Prop}{s:S7}
end
section
variable {X:Cx}{Γ Γ1:Ga}{ea D:Addr}{oe:Obj}
end
end Fc
namespace Fc
open PySem PySem.Spec PySem.W PySem.Calls L2
open PyProof.Rows hiding St
variable {X:Cx}{Γ Γ1:Ga}
section
variable {H0 R0:Hp}
end
variable {P:Tb}{w:World}{K:Vr}{mg:Pz}{base:Heap}{s:S7}{H R:Hp}
section
variable {N:PJ}{qual:Str}{scope:Scope}{f:Addr}{cd:Value}{A:Te}{outer:List Env}{E:XK}
end
variable {VZ:PD}{σ:St}
section
variable {ea D:Addr}{oe:Obj}
end
def ar:Rep Str:=⟨λ_ _ v x=>v= .str x,λ_ h=>h⟩
variable {x:Str}{pos:Pos}
theorem ay {j:Nat}:EV X (.Constant (.str x) j pos) Γ ar x Γ:=λ_ _ _ _ _ E _ q=>eS JL (q _ _ _ E (aw.refl _) rfl)
inductive PV
 | Wb
 | bl (b:Bool)
 | int (i:Int)
 | str (x:Str)
 | tup (xs:List PV)
 | lst (xs:List PV)
mutual
inductive iq (H:Hp):V->PV->Prop
 | Wb:iq H .Wb .Wb
 | bl (b:Bool):iq H (.bl b) (.bl b)
 | int (i:Int):iq H (.int i) (.int i)
 | str (x:Str):iq H (.str x) (.str x)
 | tup {a:Addr} {vs:List V} {xs:List PV}:H a=some (.tup vs)->eR H vs xs->iq H (.ref a) (.tup xs)
 | lst {a:Addr} {vs:List V} {xs:List PV}:H a=some (.lst vs)->eR H vs xs->xs.length<=S8->iq H (.ref a) (.lst xs)
inductive eR (H:Hp):List V->List PV->Prop
 | nil:eR H [] []
 | cons {v:V} {x:PV} {vs:List V} {xs:List PV}:iq H v x->eR H vs xs->eR H (v::vs) (x::xs)
end
mutual
theorem iq.mono {H H':Hp}(s:aw H H'):∀{v:V}{x:PV},iq H v x->iq H' v x
 | _,_,.Wb=>.Wb
 | _,_,.bl b=>.bl b
 | _,_,.int i=>.int i
 | _,_,.str x=>.str x
 | _,_,.tup h t=>.tup (s _ _ h) (eR.mono s t)
 | _,_,.lst h t z=>.lst (s _ _ h) (eR.mono s t) z
theorem eR.mono {H H':Hp}(s:aw H H'):∀{vs:List V}{xs:List PV},eR H vs xs->eR H' vs xs
 | _,_,.nil=>.nil
 | _,_,.cons h t=>.cons (iq.mono s h) (eR.mono s t)
end
theorem eR.pair {H:Hp}:∀{vs:List V}{xs:List PV},eR H vs xs->PySem.Paired (iq H) vs xs
 | _,_,.nil=>.nil
 | _,_,.cons h t=>.cons h (eR.pair t)
theorem eR.of {H:Hp}:∀{vs:List V}{xs:List PV},PySem.Paired (iq H) vs xs->eR H vs xs
 | _,_,.nil=>.nil
 | _,_,.cons h t=>.cons h (eR.of t)
def aq:Rep PV:=⟨λ_ H v x=>iq H v x,λs h=>h.mono s⟩
variable {Γ2 Γ3:Ga}{α β γ δ:Type}{N:Ga->Prop}{T:RT}{e:Expr}{n:Int}{xs:List PV}{vs:List V}{p2:Pos}{r:Rep α}{r':Rep β}{y:β}
section
variable {a:Expr}
theorem EV.re {x:α}(h:EV X e Γ r x Γ1)(f:∀(K:Vr)(R:Hp)(v:V),r.R K R v x->r'.R K R v y):EV X e Γ r' y Γ1:=λσ H0 R0 H R E Q q=>h σ H0 R0 H R E Q λv H' R' E' s' e'=>q v H' R' E' s' (f _ _ v e')
theorem EV.pI (h:EV X e Γ ag n Γ1):EV X e Γ aq (.int n) Γ1:=h.re λK R v e=>by cases e;exact .int n
theorem EV.pS (h:EV X e Γ ar x Γ1):EV X e Γ aq (.str x) Γ1:=h.re λK R v e=>by cases e;exact .str x
theorem EV.pL (h:EV X e Γ (ae aq) xs Γ1):EV X e Γ aq (.lst xs) Γ1:=h.re λK R v ⟨a,vs,e,q,p,z⟩=>by subst e;exact .lst q (.of p) z
theorem sg {K:Vr}{R:Hp}:∀{vs:List V}{xs:PH},PySem.Paired (ag.R K R) vs xs->eR R vs (xs.map PV.int)
 | _,_,.nil=>.nil
 | _,_,.cons h t=>.cons (by cases h;exact .int _) (sg t)
theorem EV.pLI {xs:PH}(h:EV X e Γ (ae ag) xs Γ1):EV X e Γ aq (.lst (xs.map PV.int)) Γ1:=h.re λK R v ⟨a,vs,e,q,p,z⟩=>by subst e;exact .lst q (sg p) (by rw[Qg];exact z)
theorem EV.iP (h:EV X e Γ aq (.int n) Γ1):EV X e Γ ag n Γ1:=h.re λK R v e=>by cases e;rfl
theorem EV.sP (h:EV X e Γ aq (.str x) Γ1):EV X e Γ ar x Γ1:=h.re λK R v e=>by cases e;rfl
theorem EV.lP (h:EV X e Γ aq (.lst xs) Γ1):EV X e Γ (ae aq) xs Γ1:=h.re λK R v e=>by cases e with | lst q p z=>exact⟨_,_,rfl,q,p.pair,z⟩
theorem jo {es:PQ}{k:Nat}(h:EA X es Γ aq xs Γ1)(hz:xs.length<=S8:=by show _<=S8;decide):EV X (.Tuple es k pos) Γ aq (.tup xs) Γ1:=by
 intro σ H0 R0 H R E Q q;refine eS (qw nC) (h σ H0 R0 H R E _ λvs H1 R1 E1 s1 p1=>⟨by rw[p1.length];exact hz,λp hp=>?_⟩);have x:=Ext.fresh E1.sub hp (.tup vs);exact q _ _ _ (E1.grow x) (s1.trans x.r) (.tup aB (.of (Paired.map (λ_ _=>aq.mono x.r) p1)))
theorem dJ {b:Expr}{i:Int}{y:PV}(ha:EV X a Γ aq (.tup xs) Γ1)(hb:EV X b Γ1 ag i Γ2)(h:cE xs i=some y)(hs:eL b:=by exact λ_ _=>rfl):EV X (.Subscript a b pos) Γ aq y Γ2:=by
 intro σ H0 R0 H R E Q q;refine eS (gG rE aK aK hs) (ha σ H0 R0 H R E _ λv H1 R1 E1 s1 e1=>hb σ H0 R0 H1 R1 E1 _ λu H2 R2 E2 s2 e2=>?_);cases aq.mono (K:=X.K) s2 e1 with
 | tup ha pp=>
   obtain⟨w,e3,e4⟩:=iL pp.pair h;exact⟨_,_,i,w,rfl,e2,dR.of (E2.sub _ _ ha),e3,q w H2 R2 E2 (s1.trans s2) e4⟩
theorem yJ {p:Pos}(hm:X.mg "len"=none)(ha:EV X a Γ aq (.tup xs) Γ1)(hs:fK X a:=by rfl)(hg:Gl X "len":=by rfl):EV X (.Call (.Name "len" p) [a] [] pos) Γ ag (xs.length:Int) Γ1:=by
 intro σ H0 R0 H R E Q q;refine eS (ee fH hg hm Tu (aH aK bo hs) (by decide) (by decide) hs) (ha σ H0 R0 H R E _ λv H1 R1 E1 s1 e1=>?_);cases e1 with
 | tup hp pp=>
   refine⟨_,_,rfl,.inr (dR.of (E1.sub _ _ hp)),?_⟩;rw[pp.pair.length];exact q _ H1 R1 E1 s1 rfl
theorem nT (R H:Hp)(v:V)(s:aw R H)(h:aq.R K R v (.tup xs)):eY K H v (.type "tuple"):=by cases h with | tup e _=>exact .tup (s _ _ e)
theorem j8 (R H:Hp)(v:V)(s:aw R H)(h:aq.R K R v (.lst xs)):eY K H v (.type "list"):=by cases h with | lst e _ _=>exact .lst (s _ _ e)
theorem Ap (p:PySem.Paired (iq H) vs xs)(l h:Option Int):PySem.Paired (iq H) (lL vs l h) (cut xs l h):=by
 unfold lL cut;rw[p.length];exact jt _ (lS _ p)
theorem Jl {lo hi:Option Expr}{l h:Option Int}(ha:EV X a Γ aq (.tup xs) Γ)(hl:OV X lo Γ l)(hh:OV X hi Γ h)(hw:¬(HT.Wd xs.length 0 l=0/\HT.Wd xs.length xs.length h=xs.length)):EV X (.Subscript a (.Slice lo hi none p2) pos) Γ aq (.tup (cut xs l h)) Γ:=by
 intro σ H0 R0 H R E Q q;obtain⟨tl,pl,kl⟩:=hl;obtain⟨th,ph,kh⟩:=hh;refine eS (nt Js aK pl ph) (ha σ H0 R0 H R E _ λv H1 R1 E1 s1 e1=>kl σ H0 R0 H1 R1 E1 _ λH2 R2 E2 s2=>kh σ H0 R0 H2 R2 E2 _ λH3 R3 E3 s3=>?_);cases aq.mono (K:=X.K) (s2.trans s3) e1 with
 | @tup a' WC _ hp pp=>
   refine⟨_,_,rfl,dR.of (E3.sub _ _ hp),by rw[pp.pair.length];exact hw,λd hd=>?_⟩;have x:=Ext.fresh E3.sub hd (.tup (lL WC l h));exact q _ _ _ (E3.grow x) (s1.trans (s2.trans (s3.trans x.r))) (.tup aB (.of (Paired.map (λ_ _=>aq.mono (K:=X.K) x.r) (Ap pp.pair l h))))
mutual
def PV.deep:PV->Nat
 | .tup xs=>PV.g7 xs+1
 | .lst xs=>PV.g7 xs+1
 | _=>0
def PV.g7:List PV->Nat
 | []=>0
 | x::xs=>max (PV.deep x) (PV.g7 xs)
end
theorem pX:∀{xs:List PV}{x:PV},x∈xs->x.deep<=PV.g7 xs
 | y::ys,x,h=>by
   rw[PV.g7];rcases Qq.mp h with rfl | h
   ·omega
   ·have:=pX h;omega
end
theorem EV.rep {x:α}(h:EV X e Γ r x Γ1)(c:∀(R:Hp) v,r.R X.K R v x->r'.R X.K R v y):EV X e Γ r' y Γ1:=λσ H0 R0 H R E Q q=>h σ H0 R0 H R E Q λv H' R' E' s' e'=>q v H' R' E' s' (c R' v e')
variable {p1:Pos}
theorem paired_ints {K:Vr}{R:Hp}:∀ys:PH,PySem.Paired (ag.R K R) (ys.map V.int) ys
 | []=>.nil
 | _::r=>.cons rfl (paired_ints r)
theorem ud {a:Expr}{Xu:Pos}(Zs:X.mg "list"=none)(hmr:X.mg "range"=none)(ha:EV X a Γ ag n Γ1)(hn: -1000000<=n/\n<=1000000)(hs:fK X a:=by rfl)(Wv:Td [.Call (.Name "range" p2) [a] [] Xu] X.env=[(false,eval (.Call (.Name "range" p2) [a] [] Xu) X.env)]:=by rfl)(hc:X.calm=true:=by rfl)(hg:Gl X "list":=by rfl)(hgr:Gl X "range":=by rfl):ba X (.Call (.Name "list" p1) [.Call (.Name "range" p2) [a] [] Xu] [] pos) Γ ag (ups 0 n.toNat) Γ1:=by
 intro σ H0 R0 H R E Q q;refine eS (jw (nJ hc) hg Zs SV (aH (jw sX hgr hmr S5 (aH aK bo hs) (by decide) (by decide) hs) bo Wv) (by decide) (by decide) Wv) (ha σ H0 R0 H R E _ λv H1 R1 E1 s1 e1=>⟨n,by rw[show v=V.int n from e1],λp hp=>?_⟩);refine⟨p,0,n,rfl,aB,by decide,by decide,hn.1,hn.2,λd hd=>?_⟩;have E2:=E1.grow (Ext.eD E1.sub hp (.Ym 0 n));rw[Int.sub_zero];exact q d _ _ R1 (E2.grow (Ext.eD E2.sub hd _)) s1 aB (E2.sub.free hd) (E2.ext.h.free hd) (E2.off hd) (paired_ints _) (by rw[bU];exact Sh (show n.toNat<=1000000 by omega) (by decide))
section
variable {F:PR}{Γf:Ga}
def cG (F:PR):List (Int×V):=F.map λp=>(p.1,.int p.2)
def aW (F:PR)(k:Int):Option Int:=(F.find? λp=>decide (p.1=k)).map (·.2)
def jk (F:PR)(k v:Int):PR:=if(aW F k).isSome then F.map (λp=>if p.1=k then(p.1,v) else p) else F++[(k,v)]
theorem kL:∀(F:PR)(k:Int),dc (cz (cG F)) (Sum.inl k:Key)=(aW F k).map V.int
 | [],_=>rfl
 | p::r,k=>by
   have ih:=kL r k;by_cases e:p.1=k
   ·have e':(Sum.inl p.1:Key)=Sum.inl k:=by rw[e]
    have h1:dc (cz (cG (p::r))) (Sum.inl k:Key)=some (.int p.2):=dQ (p:=((Sum.inl p.1:Key),V.int p.2)) e';rw[h1];unfold aW;rw[Rh,VT e];rfl
   ·have e':¬(Sum.inl p.1:Key)=Sum.inl k:=λz=>e (Sum.inl.inj z);have h1:dc (cz (cG (p::r))) (Sum.inl k:Key)=dc (cz (cG r)) (Sum.inl k:Key):=dz (p:=((Sum.inl p.1:Key),V.int p.2)) e';rw[h1,ih];unfold aW;rw[Rh,VU e]
theorem va (F:PR)(k v:Int):putK (cz (cG F)) (Sum.inl k:Key) (.int v)=cz (cG (jk F k v)):=by
 unfold putK jk;rw[ia,kL];have e:((aW F k).map V.int).isSome=(aW F k).isSome:=by cases aW F k<;>rfl
 rw[e];split
 ·unfold cz cG;simp only[QY];apply Rr;intro p _;simp only[Function.comp];by_cases h:p.1=k
  ·rw[VQ (by rw[h]),VQ h]
  ·rw[VP (λz=>h (Sum.inl.inj z)),VP h]
 ·unfold cz cG;rw[Qv,Qv];rfl
theorem FD (F:PR)(k:Int):gL (cG F) k=(aW F k).isSome:=by
 rw[← mm,kL];cases aW F k<;>rfl
def jy:Rep PR:=⟨λ_ H v F=>∃a,v= .ref a/\H a=some (.dK (cz (cG F))),λs ⟨a,e,q⟩=>⟨a,e,s _ _ q⟩⟩
theorem iU {a b:Expr}{k y:Int}(hu:X.A.units+1<cLine)(ha:EV X a Γ jy F Γ1)(hb:EV X b Γ1 ag k Γ2)(h:aW F k=some y)(hs:DA b:=by exact λ_ _=>rfl):EV X (.Subscript a b pos) Γ ag y Γ2:=by
 intro σ H0 R0 H R E Q q;refine eS (Ho hu aK aK hs) (ha σ H0 R0 H R E _ λv H1 R1 E1 s1 e1=>hb σ H0 R0 H1 R1 E1 _ λu H2 R2 E2 s2 e2=>?_);obtain⟨p,rfl,hp⟩:=jy.mono s2 e1;cases e2
 have g:=g8.k (k:=Sum.inl k) (E2.sub _ _ hp);rw[kL,h] at g;exact⟨p,_,rfl,g,q _ H2 R2 E2 (s1.trans s2) rfl⟩
theorem D8 (F:PR)(k v:Int):(jk F k v).length<=F.length+1:=by
 unfold jk;split
 ·rw[Qg];omega
 ·rw[Qj];simp
theorem qI (i:Nat){ke ve:Expr}{k v:Int}(hu:X.A.units+1<cLine)(hk:EV X ke Γ ag k Γ)(Yp:EV X ve Γ ag v Γ)(hΓ:Γ[i]?=some (.di (cG F)))(hz:F.length<S8)(h:N (Γ.set i (.di (cG (jk F k v)))))(hN:autoParam (At X i x) cg)(hs:Tf ve (some (.Subscript (.Name x p1) ke p2)) pos.line X.env=pure false:=by rfl):W1 X (.Assign [.Subscript (.Name x p1) ke p2] ve pos) Γ N T:=λσ H0 R0 H R E D dn dr=>by
 refine sS (sO hu (aV hN) aK aK hs) (Yp σ H0 R0 H R E _ λu0 H0' R0' E0 s0 e0=>?_);obtain⟨a,ea,ha,hR⟩:=E0.ent i _ hΓ;refine⟨.ref a,at_of ea,hk σ H0 R0 H0' R0' E0 _ λu H1 R1 E1 s1 e1=>?_⟩;obtain⟨a',Wy,WX,WK⟩:=E1.ent i _ hΓ;rw[ea] at Wy;cases Wy
 cases e1
 cases e0
 refine⟨a,_,rfl,pW.k (k:=Sum.inl k) WX (by unfold cz cG;rw[Qg,Qg];exact hz),?_⟩;rw[va];exact dn σ _ R1 _ (E1.upd (en:=.di (cG (jk F k v))) hΓ rfl ea WK ⟨a,rfl,aB,WK⟩) (s0.trans s1) h
theorem yF (i:Nat){P:PR->Prop}(hΓ:Γ[i]?=some (.di (cG F)))(h:P F)(hN:autoParam (At X i x) cg):W1 X (.Return (some (.Name x p1)) pos) Γ N (cU X.K jy P):=λσ H0 R0 H R E D dn dr=>by
 obtain⟨a,ea,ha,hR⟩:=E.ent i _ hΓ;have h0:H0 a=none:=E.new i _ a hΓ rfl ea;refine sS (kQ (aV hN)) ⟨.ref a,at_of ea,dr _ H (upd R a (.dK (cz (cG F)))) ⟨E.ext.h,E.ext.r.trans (aw.fresh hR _),λb o qb=>?_,λb hb=>?_⟩ ⟨F,⟨a,rfl,aB⟩,h⟩⟩
 ·by_cases hb:b=a
  ·subst hb;rw[aB] at qb;cases qb;exact ha
  ·rw[aD hb] at qb;exact E.ext.s b o qb
 ·rw[aD (show b≠a from λe=>hb (by rw[e];exact h0))];exact E.ext.old b hb
theorem au.HP {H0 R0 H' R':Hp}(E:au K σ H0 R0 H R Γ)(E':au K σ H H H' R' Γf):au K σ H0 R0 H' R Γ:=
 E.grow ⟨E'.ext.h,aw.refl _,E.sub.trans E'.ext.h,λ_ _=>rfl⟩
theorem TV.WT (hF:∀(σ:St)(H0 R0 H R:Hp),au X.K σ H0 R0 H R Γ->au X.K σ H H H H Γf){e:Expr}{b:Bool}(h:TV X e Γf b Γf):TV X e Γ b Γ:=λσ H0 R0 H R E Q q=>
 h σ H H H H (hF σ H0 R0 H R E) Q λH' R' E' s'=>q H' R (E.HP E') (aw.refl _)
theorem EV.WT (hF:∀(σ:St)(H0 R0 H R:Hp),au X.K σ H0 R0 H R Γ->au X.K σ H H H H Γf){e:Expr}{r:Rep α}{y:α}(flat:∀(K:Vr)(H H':Hp) v y,r.R K H v y->r.R K H' v y)(h:EV X e Γf r y Γf):EV X e Γ r y Γ:=λσ H0 R0 H R E Q q=>
 h σ H H H H (hF σ H0 R0 H R E) Q λv H' R' E' s' e'=>q v H' R (E.HP E') (aw.refl _) (flat X.K R' R v y e')
def DJ:Rep Unit:=⟨λ_ _ v _=>v= .Wb,λ_ h=>h⟩
end
variable {i:Nat}
theorem Az (i:Nat){ap cp:Pos}{xs:List α}{y:α}(he:EV X e Γ r y Γ1)(hΓ:Γ[i]?=some (.mu r xs))(hΓ1:Γ1[i]?=some (.mu r xs))(hz:xs.length<S8)(hN:autoParam (At X i x) cg)(V7:fD X (.Name x p1) "append":=by rfl)(Wj:nF X cp [e]:=by rfl)(V6:(ap.endLine==cp.line)=true:=by rfl)(hs:du X e []:=by rfl):EV X (.Call (.Attribute (.Name x p1) "append" ap) [e] [] cp) Γ DJ () (Γ1.set i (.mu r (xs++[y]))):=λσ H0 R0 H R E Q q=>by
 obtain⟨a,vs,ea,ha,hR,pp⟩:=E.ent i _ hΓ;refine eS (iY UW UX UY jG (aV hN) (aH aK bo hs) V7 Wj V6 hs rfl) ?_;refine⟨.ref a,at_of ea,.inl ⟨rfl,vs,bt.of ha⟩,he σ H0 R0 H R E _ λv H1 R1 E1 s1 e1=>?_⟩;obtain⟨a',WC,Wy,WX,WK,W6⟩:=E1.ent i _ hΓ1;rw[ea] at Wy;cases Wy
 refine⟨a,WC,v,rfl,rfl,WX,by rw[W6.length];exact hz,?_⟩;exact q _ _ R1 (E1.upd (en:=.mu r (xs++[y])) hΓ1 rfl ea WK ⟨a,_,rfl,aB,WK,fk W6 (.cons e1 .nil)⟩) s1 rfl
theorem Kl {xs:List α}(hΓ:Γ[i]?=some (.mu r xs))(hz:xs.length<=S8)(σ:St)(H0 R0 H R:Hp)(E:au X.K σ H0 R0 H R Γ):au X.K σ H H H H ((Γ.map lJ).set i (.im (ae r) xs)):=by
 obtain⟨a,vs,ea,ha,hR,pp⟩:=E.ent i _ hΓ;exact E.WT.jX (i:=i) (e0:=.no) (by rw[Ql,hΓ];rfl) ⟨.ref a,ea,a,vs,rfl,ha,Paired.map (λ_ _=>r.mono E.sub) pp,hz⟩ λb w=>by cases w
def uL (r:Rep α)(r':Rep β):Rep (α ⊕ β):=⟨λK H v o=>match o with | .inl x=>r.R K H v x | .inr y=>r'.R K H v y,λ{K H H' v o} s h=>by cases o with | inl x=>exact r.mono s h | inr y=>exact r'.mono s h⟩
theorem EV.inl {x:α}(h:EV X e Γ r x Γ1):EV X e Γ (uL r r') (.inl x) Γ1:=EV.rep h λ_ _ q=>q
theorem EV.inr {y:β}(h:EV X e Γ r' y Γ1):EV X e Γ (uL r r') (.inr y) Γ1:=EV.rep h λ_ _ q=>q
theorem EV.ofl {x:α}(h:EV X e Γ (uL r r') (.inl x) Γ1):EV X e Γ r x Γ1:=EV.rep h λ_ _ q=>q
theorem EV.pf (h:EV X e Γ (uL r r') (.inr y) Γ1):EV X e Γ r' y Γ1:=EV.rep h λ_ _ q=>q
variable {l:PM}{b:Addr}
def fW (H:Hp)(l:PM):Hp:=λb=>if b∈l then none else H b
theorem kf (h:b∈l):fW H l b=none:=VQ h
theorem eh (h:b∉l):fW H l b=H b:=VP h
theorem pR :aw (fW H l) H:=λb o q=>by
 by_cases h:b∈l
 ·rw[kf h] at q;cases q
 ·rwa [eh h] at q
theorem au.zJ {H0 R0 H' R':Hp}{B B':oY}(E:au K σ H0 R0 H R Γ)(hΓ:Γ[i]?=some (.ob B))(x:Ext (fW H B.fp) R H' R')(ho:(Ent.ob B').ok K H' R' (σ[i]?).join)(YX:∀b∈B'.fp,b∈B.fp):au K σ H0 R0 H' R' (Γ.set i (.ob B')):=by
 have h0:∀b∈B.fp,H0 b=none:=λb hb=>E.nw i _ b hΓ hb;have out:∀{b:Addr},H0 b≠none->b∉B.fp:=λh e=>h (h0 _ e);have apart:∀(j:Nat)(e:Ent),j≠i->Γ[j]?=some e->∀b∈e.fp (σ[j]?).join,b∉B.fp:=λj e hj qj b hb w=>hj (E.ds j i e _ b qj hΓ hb w);refine⟨⟨λb o q=>?_,E.ext.r.trans x.r,x.s,λb hb=>?_⟩,λj e q=>?_,λj e b q w=>?_,λj k e e' b q q' w w'=>?_,by rw[QV];exact E.len⟩
 ·exact x.h b o (by rw[eh (out (by rw[q];exact SQ _))];exact E.ext.h b o q)
 ·refine(x.old b ?_).trans (E.ext.old b hb);rw[eh (out hb)];exact aw.some E.ext.h hb
 ·rcases set_at q with⟨rfl,rfl,_⟩ | ⟨hj,q1⟩
  ·exact ho
  ·have h1:=E.ent j e q1;refine h1.loc (λb hb=>?_) x.r λb hb=>?_
   ·cases e2:H b with
    | none=>exact VO e2 (Ent.fE h1 hb).1
    | some u=>exact x.h b u (by rw[eh (apart j e hj q1 b hb)];exact e2)
   ·exact(x.old b (by rw[eh (apart j e hj q1 b hb)];exact(Ent.fE h1 hb).1)).trans (Ent.fE h1 hb).2
 ·rcases set_at q with⟨rfl,rfl,_⟩ | ⟨hj,q1⟩
  ·exact h0 b (YX b w)
  ·exact E.nw j e b q1 w
 ·rcases set_at q with⟨rfl,rfl,_⟩ | ⟨hj,q1⟩
  ·rcases set_at q' with⟨rfl,rfl,_⟩ | ⟨hk,Xk⟩
   ·rfl
   ·exact VO (YX b w) (apart k e' hk Xk b w')
  ·rcases set_at q' with⟨rfl,rfl,_⟩ | ⟨hk,Xk⟩
   ·exact VO (YX b w') (apart j e hj q1 b w)
   ·exact E.ds _ _ _ _ b q1 Xk w w'
variable {a:Addr}
structure LK (P:Type):Type 1 where
 bx:PM->P->oY
 fp:∀l s,(bx l s).fp=l
 at_:∀{K H R v l s},(bx l s).R K H R v->∃a t,l=a::t/\v= .ref a
abbrev we (R:Hp)(l:PM):Prop:=∀b∈l,R b=none
theorem BY {P:Type}{B:LK P}{s:P}{o:Option V}(h:(Ent.ob (B.bx (a::l) s)).ok K H R o):o=some (.ref a)/\(B.bx (a::l) s).R K H R (.ref a)/\we R (a::l):=by
 obtain⟨⟨v,e,hv⟩,hR⟩:=h;obtain⟨a',t,el,ev⟩:=B.at_ hv;cases el
 subst ev;exact⟨e,hv,λb hb=>hR b (by rw[B.fp];exact hb)⟩
theorem Ce {P:Type}{B:LK P}{s:P}(h:(B.bx (a::l) s).R K H R (.ref a))(hR:we R (a::l)):(Ent.ob (B.bx (a::l) s)).ok K H R (some (.ref a)):=
 ⟨⟨_,rfl,h⟩,λc hc=>hR c (by rw[B.fp] at hc;exact hc)⟩
theorem zA {P:Type}{B:LK P}{st:P}{ps:List Pk}{N:PJ}(s:aw R H)(hR:we R (a::l))(hB:(B.bx (a::l) st).R K H R (.ref a))(p:lh K R vs ps)(hl:ps.length+1<=N.length):
 au K (L2.start N (.ref a::vs)) (fW H (a::l)) R H R (.ob (B.bx (a::l) st)::gE ps (N.length-1)):=by
 obtain⟨n0,N',rfl⟩:∃n0 N',N=n0::N':=by cases N with
  | nil=>exact VO hl (by simp)
  | cons n N'=>exact⟨n,N',rfl⟩
 have Xx:ps.length<=N'.length:=by simpa using hl
 have E0:=lj (N:=N') s p Xx;have es:L2.start (n0::N') (.ref a::vs)=some (.ref a)::L2.start N' vs:=by unfold L2.start;simp
 rw[es];have Wl:∀(i:Nat)(e:Ent)(o:Option V),(gE ps N'.length)[i]?=some e->e.fp o=[]:=λi e o q=>by
  unfold gE at q;rcases Qr.mp (Qm q) with z | z
  ·obtain⟨p,_,rfl⟩:=Qw.mp z;rfl
  ·obtain⟨_,rfl⟩:=RQ.mp z;rfl
 refine⟨⟨pR,aw.refl _,s,λ_ _=>rfl⟩,λi e q=>?_,λi e c q w=>?_,λi j e e' c q q' w w'=>?_,?_⟩
 ·cases i with
  | zero=>simp at q;subst q;exact Ce hB hR
  | succ i=>simp at q;simpa using E0.ent i e q
 ·cases i with
  | zero=>
    simp at q;subst q;have w:c∈(B.bx (a::l) st).fp:=w;rw[B.fp] at w;exact kf w
  | succ i=>simp at q;rw[Wl i e _ q] at w;cases w
 ·cases i with
  | succ i=>simp at q;rw[Wl i e _ q] at w;cases w
  | zero=>
    cases j with
    | zero=>rfl
    | succ j=>simp at q';rw[Wl j e' _ q'] at w';cases w'
 ·have:=E0.len;simp[this]
structure bI (K:Vr)(C:Addr)(ns:PJ):Prop where
 cl:mD K C
 no:∀f∈ns,kx K C f
end Fc
namespace Fc.DP
open PySem PySem.Spec
variable {prog:Tb}{w:World}{A:Te}{E:Value->S7->Prop}
section
variable {h:Heap}{g:Array UC}{d:Drawn}{t:Nat}{os:OsState}{a:Addr}{o:Obj}
end
variable {K:Type}
section
variable  [DecidableEq K]{knd:KeyKind prog w K}{R:Result->S7->Prop}{I:Addr}{fp wr:PM}{G:Array UC->Array UC->Prop}{n:Nat}{P:Nat->Value->Prop}{St:Nat->S7->Prop}
end
section
variable  [DecidableEq K]{knd:KeyKind prog w K}{s:S7}
end
end Fc.DP
namespace Fc
open PySem PySem.Spec PySem.W PySem.Calls L2
open PyProof.Rows hiding St
variable {X:Cx}{N:Ga->Prop}{T:RT}
section
variable {Γ Γ1 Γ2 Γ3:Ga}{α β γ δ:Type}
end
variable {xs:PJ}{pos:Pos}
section
variable {Γ Γ1 Γ2 Γ3:Ga}{α β γ δ:Type}
variable {x y:Str}
theorem mB:decide (V.str x=V.str y)=decide (x=y):=by
 by_cases h:x=y
 ·subst h;simp
 ·rw[VU h,VU λz=>h (by injection z)]
theorem cm:iy X .Eq ar ar x y (decide (x=y)):=⟨_,Fe,λR H v u Q _ e1 e2 q=>by
 cases e1;cases e2
 exact⟨rfl,by rw[mB];exact q⟩⟩
theorem uz:iy X .NotEq ar ar x y (!decide (x=y)):=⟨_,zc,λR H v u Q _ e1 e2 q=>by
 cases e1;cases e2
 exact⟨rfl,by rw[mB];exact q⟩⟩
def vp:Rep PJ:=⟨λK R v xs=>∃a,v= .ref a/\dR K R a (xs.map V.str),λs ⟨a,e,h⟩=>⟨a,e,by
 rcases h with h | h
 ·exact .inl (h.imp (λq=>s _ _ q) λ⟨o,q⟩=>⟨o,s _ _ q⟩)
 ·exact .inr h⟩⟩
theorem mU (x:Str):∀xs:PJ,Fh (.str x) (xs.map V.str)=decide (x∈xs)
 | []=>rfl
 | y::r=>by
   have h:=mU x r;unfold Fh at h ⊢;rw[QJ,RY,h];have e:rB (V.str y) (V.str x)=decide (x=y):=by
    show(y==x)=_;by_cases h:x=y
    ·subst h;simp
    ·rw[VU h];exact beq_eq_false_iff_ne.mpr (SN h)
   rw[e];by_cases h1:x=y<;>simp[h1]
theorem kZ:∀xs:PJ,(xs.map V.str).all jY=true
 | []=>rfl
 | _::r=>by rw[QJ,all_cons,kZ r];rfl
theorem lr :iy X .In ar vp x xs (decide (x∈xs)):=⟨_,tQ,λR H v u Q s e1 e2 q=>by
 cases e1
 obtain⟨a,rfl,h⟩:=e2;exact⟨a,_,rfl,.inr (h.imp (λh=>h.imp (λq=>s _ _ q) λ⟨o,q⟩=>⟨o,s _ _ q⟩) id),rfl,kZ xs,by rw[VP PX,mU];exact q⟩⟩
def sN (K:Vr)(mg:Pz)(x:Str)(xs:PJ):Prop:=∃a o V1 n,mg x=some (.ref a)/\K.lookup a=some o/\o.cls= .type "tuple"/\o.data= .seq V1 n/\V1.size<=S8/\Vals (xs.map V.str) V1.toList
theorem h8 (hm:sN X.K X.mg x xs)(hg:Gl X x:=by rfl)(hd:WW x:=by decide):EV X (.Name x pos) Γ vp xs Γ:=by
 obtain⟨a,o,V1,n,h1,h2⟩:=hm;exact λ_ _ _ _ _ E _ q=>eS (ki (v:=.ref a) hg h1 rfl hd) (q (.ref a) _ _ E (aw.refl _) ⟨a,rfl,.inr ⟨o,V1,n,h2⟩⟩)
end
def nj (P:Tb)(w:World)(K:Vr)(mg:Pz)(x:Str)(D:List (Str×PJ)):Prop:=
 ∃a o vs,mg x=some (.ref a)/\K.lookup a=some o/\o.IsDictOf (cv P w) vs/\(a==Tq)=false/\
  PySem.Paired (λ(d:Str×PJ)(p:Key×Value)=>p.1=Sum.inr d.1/\∃b o V1 n,p.2= .ref b/\K.lookup b=some o/\o.cls= .type "tuple"/\o.data= .seq V1 n/\V1.size<=S8/\Vals (d.2.map V.str) V1.toList) D vs
def c9:List (Str×PJ)->Str->Option PJ
 | [],_=>none
 | (k,v)::r,x=>if k=x then some v else c9 r x
theorem ui {K:Vr}{x:Str}:∀{D:List (Str×PJ)}{vs:List (Key×Value)},PySem.Paired (λ(d:Str×PJ)(p:Key×Value)=>p.1=Sum.inr d.1/\∃b o V1 n,p.2= .ref b/\K.lookup b=some o/\o.cls= .type "tuple"/\o.data= .seq V1 n/\V1.size<=S8/\Vals (d.2.map V.str) V1.toList) D vs->
 (c9 D x=none/\Tw vs (Sum.inr x:Key)=none)∨∃ys b,c9 D x=some ys/\Tw vs (Sum.inr x:Key)=some (.ref b)/\∃o V1 n,K.lookup b=some o/\o.cls= .type "tuple"/\o.data= .seq V1 n/\V1.size<=S8/\Vals (ys.map V.str) V1.toList
 | _,_,.nil=>.inl ⟨rfl,rfl⟩
 | _,_,.cons (a:=d) (b:=p) h t=>by
   obtain⟨k,v⟩:=d;obtain⟨q,u⟩:=p;obtain⟨e1,b,o,V1,n,e2,h3⟩:=h;have e1:q=Sum.inr k:=e1;have e2:u=Vk b:=e2;subst e1;subst e2;rw[c9];unfold Tw;rw[Rh];by_cases e:k=x
   ·subst e;rw[VQ rfl];exact .inr ⟨v,b,rfl,by simp,o,V1,n,h3⟩
   ·rw[VP e];have:decide ((Sum.inr k:Key)=Sum.inr x)=false:=VU λz=>e (Sum.inr.inj z);simp only[this];exact ui t
section
variable {Γ Γ1 Γ2 Γ3:Ga}{α β γ δ:Type}
theorem Am {e:Expr}{x:Str}{p1:Pos}{D:List (Str×PJ)}{k:Str}(hD:nj X.prog X.w X.K X.mg x D)(he:EV X e Γ ar k Γ1)(hg:Gl X x:=by rfl)(hd:WW x:=by decide):TV X (.Compare e [.NotIn] [.Name x p1] pos) Γ (!(c9 D k).isSome) Γ1:=by
 intro σ H0 R0 H R E Q q;obtain⟨a,o,vs,hm,hk,hdo,hs,hp⟩:=hD;have pc:PC X .NotIn e (.Name x p1) (λσ H Q=>gK X e σ H λy H1=>y= .str k/\Q (.bl (!(c9 D k).isSome)) H1):=by
  intro VZ s σ H Q I h;refine aX (h VZ s I) λiv s1 ⟨y,H1,I1,ry,ey,q1⟩=>aX (ki (v:=.ref a) hg hm rfl hd VZ s1 σ H1 (λv H2=>v= .ref a/\H2=H1) I1 ⟨rfl,rfl⟩) λu s2 ⟨y2,H2,I2,ry2,e3,e4⟩=>?_;subst ey;subst e3;subst e4;obtain rfl:u=Vk a:=ry2;have dd:s2.heap.DictOf (cv X.prog X.w) a vs:=Vb.mpr ⟨o,I2.gb a o hk,hdo⟩;refine wpAny_notIn_of (jU (k:=Sum.inr k) ry) hs dd.mapOf ?_;rcases ui (x:=k) hp with⟨h1,h2⟩ | ⟨ys,b,h1,h2,_⟩
  ·rw[h2];rw[h1] at q1;exact⟨.bl _,_,I2.tok _,rfl,q1⟩
  ·rw[h2];rw[h1] at q1;exact⟨.bl _,_,I2.tok _,rfl,q1⟩
 refine tS (mf pc (by with_unfolding_all rfl)) (he σ H0 R0 H R E _ λv H1 R1 E1 s1 e1=>⟨e1,_,rfl,q H1 R1 E1 s1⟩)
end
end Fc
namespace Fc.ZT
open PySem PySem.Spec PyProof.Rows
variable {prog:Tb}{w:World}{A:Te}{E:Value->S7->Prop}{s:S7}{V1:Array Value}{Q:Value->S7->Prop}
structure Dr (prog:Tb)(w:World)(A:Te)(i l:Addr)(V1:Array Value)(St:Nat->Heap->Prop):Prop where
 up:∀{k:Nat}{h h':Heap},St k h->(∀b,b=i∨b=l->∀o,h.get? b=some o->h'.get? b=some o)->St k h'
 there:∀{k:Nat}{h:Heap},St k h->i<h.objs.size
 item:∀{k:Nat}{x:Value}{s:S7}{Q:Value->S7->Prop}{E:Value->S7->Prop},St k s.heap->V1[k]?=some x->(∀h',St (k+1) h'->U9 i s.heap h'->Q x {s with heap:=h'})->wpAny (model prog w) A (UO (.ref i)) Q E s
 done:∀{k:Nat}{s:S7}{Q:Value->S7->Prop}{E:Value->S7->Prop},St k s.heap->V1[k]?=none->(∀h' e,Heap.ExtBut i s.heap h'->(∃o,h'.get? e=some o/\o.cls= .type "StopIteration")->E (.ref e) {s with heap:=h'})->wpAny (model prog w) A (UO (.ref i)) Q E s
theorem DI {i l:Addr}(hh:A.handled=none)(Wx:i≠l):Dr prog w A i l V1 (λk h=>h.IsTupleIter i l k/\h.IsTuple l V1) where
 up:=λ⟨⟨o,ho,r⟩,⟨o',Xs,r'⟩⟩ hk=>⟨⟨o,hk _ (.inl rfl) o ho,r⟩,⟨o',hk _ (.inr rfl) o' Xs,r'⟩⟩
 there:=λ⟨⟨o,ho,_⟩,_⟩=>U6 ho
 item:=λ{k x s Q E} ⟨hit,ht⟩ hx hQ=>by
  obtain⟨o,ho,hc,hd⟩:=id hit;obtain⟨ol,hol,_,nl,YZ⟩:=id ht;unfold UO;refine S9 (Tr (name:=Vi "__next__") hit.typeIs UZ
   (TN UZ hit.typeIs F.entry_tuple_iterator_next ?_ (F.args_tuple_iterator_next_1 _)))
  show wpAny _ _ (field (.ref i) 0 >>=_) _ _ s;refine S9 (To ho hd (x:=.ref l) rfl ?_);refine wpAny_ite ?_;rw[VP (show¬((Vk l==Vl)=true) from PX)];show wpAny _ _ (field (.ref i) 1 >>=_) _ _ s;refine S9 (To ho hd (x:=.int k 0) rfl ?_);show wpAny _ _ (seqItems? (.ref l) >>=_) _ _ s;refine S9 (Tz hol YZ ?_);simp only[P9,hx];have hs:=U9.update s.heap i (λo=>o.mapFields λa=>a.setIfInBounds 1 (Uy (k+1)));refine S9 (wpAny_setField ho hd (by simp) (Tc ⟨x,rfl,Tc (hQ _ ⟨?_,ht.extBut (U9.update ..).extBut (SN Wx)⟩ (U9.update ..))⟩));exact⟨_,Va _ ho (Obj.isFreed_of_fields (Obj.data_mapFields hd _)),(Obj.cls_mapFields ..).trans hc,by rw[Obj.data_mapFields hd];simp[Uy]⟩
 done:=λ{k s Q E} ⟨hit,ht⟩ hx hE=>by
  obtain⟨o,ho,hc,hd⟩:=id hit;obtain⟨ol,hol,_,nl,YZ⟩:=id ht;unfold UO;refine S9 (Tr (name:=Vi "__next__") hit.typeIs UZ
   (TN UZ hit.typeIs F.entry_tuple_iterator_next ?_ (F.args_tuple_iterator_next_1 _)))
  show wpAny _ _ (field (.ref i) 0 >>=_) _ _ s;refine S9 (To ho hd (x:=.ref l) rfl ?_);refine wpAny_ite ?_;rw[VP (show¬((Vk l==Vl)=true) from PX)];show wpAny _ _ (field (.ref i) 1 >>=_) _ _ s;refine S9 (To ho hd (x:=.int k 0) rfl ?_);show wpAny _ _ (seqItems? (.ref l) >>=_) _ _ s;refine S9 (Tz hol YZ ?_);simp only[P9,hx];refine S9 (Uc (S9 (wpAny_setField ho hd (by simp) ?_)));show wpAny _ _ (newExc (.type "StopIteration") [] >>=_) _ _ _;refine S9 ?_;simp only[newExc,newTuple];refine S9 (Tv ?_ (by size_fits));refine S9 (m:=firstArgMember _ _) (wpAny_of_eq (a:=Vl) (by first | rfl | (simp only[firstArgMember];rfl)) ?_);refine Tv ?_ (by size_fits);simp only[raiseNew];refine S9 (wpAny_handled ?_)
  first | rw[show A.in1.handled=none from hh] | rw[hh]
  refine S9 (Tc (wpAny_throw ?_));exact hE _ _ (((U9.update ..).extBut.push _).push _) ⟨_,U7 _ rfl,rfl⟩
section
variable {z TI TO i1 i2 l1 l2:Addr}{k1 k2:Nat}{xs ys:Array Value}{x y a b:Value}{S1 S2:Nat->Heap->Prop}
theorem up1 {i l c:Addr}{St:Nat->Heap->Prop}(d:Dr prog w A i l V1 St){k:Nat}{h h':Heap}(hs:St k h)(e:Heap.ExtBut c h h')(h1:i≠c)(h2:l≠c):St k h':=d.up hs λb hb o q=>e b o (by rcases hb with rfl | rfl<;>assumption) q
theorem FR (D:UE z TI TO i1 i2 l1 l2)(d1:Dr prog w A i1 l1 xs S1)(d2:Dr prog w A i2 l2 ys S2)(hz:IsZip s.heap z TI TO .none)(XB:Tt s.heap TI (.ref i1) (.ref i2))(XD:Tt s.heap TO a b)(h1:S1 k1 s.heap)(h2:S2 k2 s.heap)(hx:xs[k1]?=some x)(hy:ys[k2]?=some y)(hQ:∀h',IsZip h' z TI TO (Uy s.heap.objs.size)->Tt h' TO x y->S1 (k1+1) h'->S2 (k2+1) h'->Tt h' s.heap.objs.size x y->(∀c o,c≠z->c≠TO->c≠i1->c≠i2->s.heap.get? c=some o->h'.get? c=some o)->Q (.ref s.heap.objs.size) {s with heap:=h'}):
 wpAny (model prog w) A (Builtin.«zip.__next__» ⟨[.ref z],[]⟩) (λfin s'=>∃v,fin= .done (.ret v)/\Q v s') E s:=by
 show wpAny _ _ (field (.ref z) 2 >>=_) _ _ _;refine S9 (To hz rfl (x:=.bool false) rfl ?_);show wpAny _ _ (field (.ref z) 3 >>=_) _ _ _;refine S9 (To hz rfl (x:=.ref TI) rfl (S9 (Tz XB rfl ?_)));show wpAny _ _ (UP (.ref z) >>=_) _ _ _;refine S9 ?_;unfold UP;refine S9 (To hz rfl (x:=.none) rfl (Tc ?_));simp only[if_true];refine S9 (Uc (S9 (To hz rfl (x:=.ref TO) rfl (S9 (TC hz (by simp) λha YS Yh=>?_)))));replace YS:IsZip ha z TI TO .ellipsis:=YS;refine S9 ?_;simp only[List.zipIdx_cons,List.zipIdx_nil,R9,forIn_nil];refine S9 (S9 (Um ?_));show wpAny _ _ (UO (.ref i1) >>=_) _ _ _;have g1:S1 k1 ha:=up1 d1 h1 Yh.extBut D.i1z D.l1z;have g2:S2 k2 ha:=up1 d2 h2 Yh.extBut D.i2z D.l2z;refine S9 (d1.item g1 hx λhb n1 Xc=>Tc ?_);have tb:Tt hb TO a b:=Xc.extBut _ _ D.TOi1 (Yh.extBut _ _ D.TOz XD);refine S9 (Tz tb rfl (S9 (Ud tb λhc tc X3=>?_)));replace tc:Tt hc TO x b:=tc;refine S9 (wpAny_letGo (Tc ?_));refine S9 (S9 (Um ?_));show wpAny _ _ (UO (.ref i2) >>=_) _ _ _;have g2c:S2 k2 hc:=up1 d2 (up1 d2 g2 Xc.extBut D.i12.symm D.l2i1) X3.extBut D.TOi2.symm D.l2TO;refine S9 (d2.item g2c hy λhd n2 YU=>Tc ?_);have td:Tt hd TO x b:=YU.extBut _ _ D.TOi2 tc;refine S9 (Tz td rfl (S9 (Ud td λhe te YT=>?_)));replace te:Tt he TO x y:=te;refine S9 (wpAny_letGo (Tc (Tc ?_)));refine S9 (Tz te rfl (S9 (wpAny_newTuple ?_)));have hsz:he.objs.size=s.heap.objs.size:=by rw[YT.1,YU.1,X3.1,Xc.1,Yh.1]
 have ze:IsZip he z TI TO .ellipsis:=YT.extBut _ _ D.TOz.symm (YU.extBut _ _ D.i2z.symm (X3.extBut _ _ D.TOz.symm (Xc.extBut _ _ D.i1z.symm YS)));have ke:∀c o,c≠z->c≠TO->c≠i1->c≠i2->s.heap.get? c=some o->he.get? c=some o:=λc o c1 c2 c3 c4 e=>
  YT.extBut _ _ c2 (YU.extBut _ _ c4 (X3.extBut _ _ c2 (Xc.extBut _ _ c3 (Yh.extBut _ _ c1 e))))
 have m1:S1 (k1+1) he:=up1 d1 (up1 d1 (up1 d1 n1 X3.extBut D.TOi1.symm D.l1TO) YU.extBut D.i12 D.l1i2) YT.extBut D.TOi1.symm D.l1TO;have m2:S2 (k2+1) he:=up1 d2 n2 YT.extBut D.TOi2.symm D.l2TO;have hzlt:z<he.objs.size:=U6 ze;show wpAny _ _ (Builtin.SmallTypes.ownedTupleHandOut (.ref z) (.ref he.objs.size) >>=_) _ _ _;refine S9 ?_;unfold Builtin.SmallTypes.ownedTupleHandOut;have zf:IsZip (he.push {cls:=.type "tuple",data:=.seq #[x,y]}) z TI TO .ellipsis:=U5 _ ze;refine S9 (TC zf (by simp) λhg zg hsg=>?_);replace zg:IsZip hg z TI TO (Uy he.objs.size):=zg;refine TC zg (by simp) λhj zj hsj=>?_;replace zj:IsZip hj z TI TO (Uy he.objs.size):=zj;have up:∀c o,c≠z->he.get? c=some o->hj.get? c=some o:=λc o c1 e=>hsj.extBut _ _ c1 (hsg.extBut _ _ c1 (U5 _ e));have tj:Tt hj he.objs.size x y:=hsj.extBut _ _ (Sv hzlt) (hsg.extBut _ _ (Sv hzlt) (U7 _ rfl));rw[hsz] at zj tj;refine Tc ⟨_,rfl,?_⟩;show Q (.ref he.objs.size) _;rw[hsz];exact hQ hj zj (up _ _ D.TOz te) (d1.up m1 λc hc o e=>up c o (hc.elim (λq=>by rw[q];exact D.i1z) λq=>by rw[q];exact D.l1z) e) (d2.up m2 λc hc o e=>up c o (hc.elim (λq=>by rw[q];exact D.i2z) λq=>by rw[q];exact D.l2z) e) tj λc o c1 c2 c3 c4 e=>up c o c1 (ke c o c1 c2 c3 c4 e)
theorem nV {Q:PySem.Fin->S7->Prop}(D:UE z TI TO i1 i2 l1 l2)(d1:Dr prog w A i1 l1 xs S1)(d2:Dr prog w A i2 l2 ys S2)(hz:IsZip s.heap z TI TO .none)(XB:Tt s.heap TI (.ref i1) (.ref i2))(XD:Tt s.heap TO a b)(h1:S1 k1 s.heap)(h2:S2 k2 s.heap)(W2:xs[k1]?=none∨ys[k2]?=none)(hE:∀h' e,(∀c o,c≠z->c≠TO->c≠i1->c≠i2->s.heap.get? c=some o->h'.get? c=some o)->(∃o,h'.get? e=some o/\o.cls= .type "StopIteration")->E (.ref e) {s with heap:=h'}):
 wpAny (model prog w) A (Builtin.«zip.__next__» ⟨[.ref z],[]⟩) Q E s:=by
 show wpAny _ _ (field (.ref z) 2 >>=_) _ _ _;refine S9 (To hz rfl (x:=.bool false) rfl ?_);show wpAny _ _ (field (.ref z) 3 >>=_) _ _ _;refine S9 (To hz rfl (x:=.ref TI) rfl (S9 (Tz XB rfl ?_)));show wpAny _ _ (UP (.ref z) >>=_) _ _ _;refine S9 ?_;unfold UP;refine S9 (To hz rfl (x:=.none) rfl (Tc ?_));simp only[if_true];refine S9 (Uc (S9 (To hz rfl (x:=.ref TO) rfl (S9 (TC hz (by simp) λha YS Yh=>?_)))));replace YS:IsZip ha z TI TO .ellipsis:=YS;refine S9 ?_;simp only[List.zipIdx_cons,List.zipIdx_nil,R9,forIn_nil];refine S9 (S9 (Um ?_));show wpAny _ _ (UO (.ref i1) >>=_) _ _ _;have g1:S1 k1 ha:=up1 d1 h1 Yh.extBut D.i1z D.l1z;have g2:S2 k2 ha:=up1 d2 h2 Yh.extBut D.i2z D.l2z;cases hx:xs[k1]? with
 | none=>
   refine S9 (d1.done g1 hx λhb e Xc he=>?_);obtain⟨oe,Zp,hce⟩:=he;have zb:IsZip hb z TI TO .ellipsis:=Xc _ _ D.i1z.symm YS;have hez:e≠z:=λq=>by subst q;rw[zb] at Zp;cases Zp;simp at hce
   exact TC zb (by simp) λhc _ X3=>hE hc e (λc o c1 _ c3 _ q=>X3.extBut _ _ c1 (Xc _ _ c3 (Yh.extBut _ _ c1 q))) ⟨oe,X3.extBut _ _ hez Zp,hce⟩
 | some x=>
   have hy:ys[k2]?=none:=by rcases W2 with q | q;rw[hx] at q;cases q;exact q
   refine S9 (d1.item g1 hx λhb n1 Xc=>Tc ?_);have tb:Tt hb TO a b:=Xc.extBut _ _ D.TOi1 (Yh.extBut _ _ D.TOz XD);refine S9 (Tz tb rfl (S9 (Ud tb λhc tc X3=>?_)));refine S9 (wpAny_letGo (Tc ?_));refine S9 (S9 (Um ?_));show wpAny _ _ (UO (.ref i2) >>=_) _ _ _;have g2c:S2 k2 hc:=up1 d2 (up1 d2 g2 Xc.extBut D.i12.symm D.l2i1) X3.extBut D.TOi2.symm D.l2TO;refine S9 (d2.done g2c hy λhd e YU he=>?_);obtain⟨oe,Zp,hce⟩:=he;have zd:IsZip hd z TI TO .ellipsis:=YU _ _ D.i2z.symm (X3.extBut _ _ D.TOz.symm (Xc.extBut _ _ D.i1z.symm YS));have hez:e≠z:=λq=>by subst q;rw[zd] at Zp;cases Zp;simp at hce
   exact TC zd (by simp) λhe _ YT=>hE he e (λc o c1 c2 c3 c4 q=>YT.extBut _ _ c1 (YU _ _ c4 (X3.extBut _ _ c2 (Xc.extBut _ _ c3 (Yh.extBut _ _ c1 q))))) ⟨oe,YT.extBut _ _ hez Zp,hce⟩
theorem GQ {Q:PK->S7->Prop}(D:UE z TI TO i1 i2 l1 l2)(d1:Dr prog w A.in1 i1 l1 xs S1)(d2:Dr prog w A.in1 i2 l2 ys S2)(hz:IsZip s.heap z TI TO .none)(XB:Tt s.heap TI (.ref i1) (.ref i2))(XD:Tt s.heap TO a b)(h1:S1 k1 s.heap)(h2:S2 k2 s.heap)(hx:xs[k1]?=some x)(hy:ys[k2]?=some y)(hQ:∀h',IsZip h' z TI TO (Uy s.heap.objs.size)->Tt h' TO x y->S1 (k1+1) h'->S2 (k2+1) h'->Tt h' s.heap.objs.size x y->(∀c o,c≠z->c≠TO->c≠i1->c≠i2->s.heap.get? c=some o->h'.get? c=some o)->Q (some (.ref s.heap.objs.size)) {s with heap:=h'}):
 wpAny (model prog w) A (Ux (.ref z)) Q E s:=by
 have hT:s.TypeIs (.ref z) "zip":=⟨_,hz,rfl⟩;unfold Ux;exact S9 (wpAny_attempt (Tr (name:=Vi "__next__") hT U1 (TN U1 hT F.entry_zip_next (FR D d1 d2 hz XB XD h1 h2 hx hy λh' a1 a2 a3 a4 a5 a6=>Tc (hQ h' a1 a2 a3 a4 a5 a6)) (F.args_zip_next_1 _))))
theorem Jp {Q:PK->S7->Prop}(D:UE z TI TO i1 i2 l1 l2)(d1:Dr prog w A.in1 i1 l1 xs S1)(d2:Dr prog w A.in1 i2 l2 ys S2)(hz:IsZip s.heap z TI TO .none)(XB:Tt s.heap TI (.ref i1) (.ref i2))(XD:Tt s.heap TO a b)(h1:S1 k1 s.heap)(h2:S2 k2 s.heap)(W2:xs[k1]?=none∨ys[k2]?=none)(hQ:∀h',(∀c o,c≠z->c≠TO->c≠i1->c≠i2->s.heap.get? c=some o->h'.get? c=some o)->Q none {s with heap:=h'}):wpAny (model prog w) A (Ux (.ref z)) Q E s:=by
 have hT:s.TypeIs (.ref z) "zip":=⟨_,hz,rfl⟩;unfold Ux;refine S9 (wpAny_attempt (Tr (name:=Vi "__next__") hT U1 (TN U1 hT F.entry_zip_next (nV D d1 d2 hz XB XD h1 h2 W2 λh' e hk he=>?_) (F.args_zip_next_1 _))));obtain⟨o,ho,hc⟩:=he;exact S9 (wpAny_isInstance (T:="StopIteration") (b:=true) ⟨o,ho,hc⟩ isSubtype_stop (Tc (hQ _ hk)))
end
theorem Gn {i l:Addr}(hh:A.handled=none)(Wx:i≠l):Dr prog w A i l V1 (λk h=>h.IsListIter i l k/\h.IsList l V1) where
 up:=λ⟨⟨o,ho,r⟩,⟨o',Xs,r'⟩⟩ hk=>⟨⟨o,hk _ (.inl rfl) o ho,r⟩,⟨o',hk _ (.inr rfl) o' Xs,r'⟩⟩
 there:=λ⟨⟨o,ho,_⟩,_⟩=>U6 ho
 item:=λ{k x s Q E} ⟨hit,ht⟩ hx hQ=>wpAny_nextOf_list_item hit ht hx λh' h1 h2=>hQ h' ⟨h1,ht.extBut h2.extBut (SN Wx)⟩ h2
 done:=λ{k s Q E} ⟨hit,ht⟩ hx hE=>wpAny_nextOf_list_end hh hit ht hx λh' e h1 h2=>hE h' e h1 h2
abbrev mC (c:String)(l:Addr):Obj:={cls:=.type c,data:=.fields #[.ref l,.int 0 0]}
def wY (c:String)(h:Heap)(a l:Addr)(i:Nat):Prop:=∃o,h.get? a=some o/\o.cls= .type c/\o.data= .fields #[.ref l,.int i 0]
structure Kd (prog:Tb)(w:World)(it:String)(Is:Heap->Addr->Array Value->Prop):Prop where
 nm:it="list_iterator"∨it="tuple_iterator"
 cl:∀{h:Heap}{a:Addr}{V1:Array Value},Is h a V1->∃o,h.get? a=some o/\(o.cls= .type "list"∨o.cls= .type "tuple")
 up:∀{h:Heap}{a:Addr}{V1:Array Value}(o:Obj),Is h a V1->Is (h.push o) a V1
 dr:∀{A:Te}{i l:Addr}{V1:Array Value},A.handled=none->i≠l->Dr prog w A i l V1 (λk h=>wY it h i l k/\Is h l V1)
 iter:∀{A:Te}{E:Value->S7->Prop}{s:S7}{l:Addr}{V1:Array Value}{Q:Value->S7->Prop},Is s.heap l V1->Q (.ref s.heap.objs.size) {s with heap:=s.heap.push (mC it l)}->wpAny (model prog w) A (pyIter (.ref l)) Q E s
theorem O3 :Kd prog w "list_iterator" Heap.IsList:=⟨.inl rfl,λ⟨o,ho,hc,_⟩=>⟨o,ho,.inl hc⟩,λo h=>h.push o,λhh hn=>Gn hh hn,λh q=>T6 h q⟩
theorem Pf :Kd prog w "tuple_iterator" Heap.IsTuple:=⟨.inr rfl,λ⟨o,ho,hc,_⟩=>⟨o,ho,.inr hc⟩,λo ⟨o',ho,r⟩=>⟨o',U5 _ ho,r⟩,λhh hn=>DI hh hn,λh q=>wpAny_pyIter_tuple h q⟩
section
variable {i1 i2:String}{S1 S2:Heap->Addr->Array Value->Prop}
theorem Kd.apart {h:Heap}{l c:Addr}{o:Obj}(k:Kd prog w i1 S1)(p:S1 h l V1)(e:h.get? c=some o)(hc:o.cls= .type "zip"∨o.cls= .type "list_iterator"∨o.cls= .type "tuple_iterator"):l≠c:=λz=>by
 obtain⟨u,e',c'⟩:=k.cl p;rw[z,e] at e';cases e'
 rcases hc with q | q | q<;>rw[q] at c'<;>simp at c'
theorem AH {l1 l2:Addr}{xs ys:Array Value}(k1:∀prog w,Kd prog w i1 S1)(k2:∀prog w,Kd prog w i2 S2)(hl1:S1 s.heap l1 xs)(YF:S2 s.heap l2 ys)(h:∀h',IsZip h' (s.heap.objs.size+4) (s.heap.objs.size+2) (s.heap.objs.size+3) .none->Tt h' (s.heap.objs.size+2) (.ref s.heap.objs.size) (.ref (s.heap.objs.size+1))->Tt h' (s.heap.objs.size+3) .none .none->wY i1 h' s.heap.objs.size l1 0->wY i2 h' (s.heap.objs.size+1) l2 0->
  (∀c o,s.heap.get? c=some o->h'.get? c=some o)->Q (.ref (s.heap.objs.size+4)) {s with heap:=h'}):wpAny (model prog w) A (call (.type "zip") [.ref l1,.ref l2]) Q E s:=by
 have nz:Meets (Builtin.«zip.__new__» ⟨[.type "zip",.ref l1,.ref l2],[]⟩) (λ_ R s=>S1 s.heap l1 xs/\S2 s.heap l2 ys/\R (.ok (.ret (.ref (s.heap.objs.size+4)))) {s with heap:=((((s.heap.push (mC i1 l1)).push (mC i2 l2)).push {cls:=.type "tuple",data:=.seq #[.ref s.heap.objs.size,.ref (s.heap.objs.size+1)]}).push {cls:=.type "tuple",data:=.seq #[.none,.none]}).push {cls:=.type "zip",data:=.fields #[.none,.bool false,.bool false,.ref (s.heap.objs.size+2),.ref (s.heap.objs.size+3)]}}):=
  .of_wp λprog w A R s h=>by
   obtain⟨hp,g,d,tk,os⟩:=s;obtain⟨hl1,YF,h⟩:=h;have Wq:isSubtype (.type "zip") (.type "zip")=pure true:=by rw[isSubtype_type];kernel_rfl
   have hL1:S1 (S7.heap ⟨hp,g,d,tk,os⟩) l1 xs:=hl1;have hL2:S2 (S7.heap ⟨hp.push (mC i1 l1),g,d,tk,os⟩) l2 ys:=(k2 prog w).up _ YF
   wp_walk using(k1 prog w).iter hL1,(k2 prog w).iter hL2
   refine⟨_,rfl,?_⟩;simp only[U8];exact h
 refine callType_new F.called_zip (by decide) (F.typeCall_zip_2 _ _) (F.newCall_zip_2 _ _) (λobj=>F.args_object_init_3 obj _ _) F.entry_zip_new nz ⟨hl1,YF,?_⟩;have at_:∀(h:Heap)(o:Obj)(n:Nat),h.objs.size=n->o.isFreed=false->(h.push o).get? n=some o:=λh o n e f=>by subst e;exact U7 _ f
 have g5:=at_ ((((s.heap.push (mC i1 l1)).push (mC i2 l2)).push {cls:=.type "tuple",data:=.seq #[.ref s.heap.objs.size,.ref (s.heap.objs.size+1)]}).push {cls:=.type "tuple",data:=.seq #[.none,.none]}) {cls:=.type "zip",data:=.fields #[.none,.bool false,.bool false,.ref (s.heap.objs.size+2),.ref (s.heap.objs.size+3)]} (s.heap.objs.size+4) (by simp[U8]) rfl;have g4:=at_ (((s.heap.push (mC i1 l1)).push (mC i2 l2)).push {cls:=.type "tuple",data:=.seq #[.ref s.heap.objs.size,.ref (s.heap.objs.size+1)]}) {cls:=.type "tuple",data:=.seq #[.none,.none]} (s.heap.objs.size+3) (by simp[U8]) rfl;have g3:=at_ ((s.heap.push (mC i1 l1)).push (mC i2 l2)) {cls:=.type "tuple",data:=.seq #[.ref s.heap.objs.size,.ref (s.heap.objs.size+1)]} (s.heap.objs.size+2) (by simp[U8]) rfl;have g2:=at_ (s.heap.push (mC i1 l1)) (mC i2 l2) (s.heap.objs.size+1) (by simp[U8]) rfl;have g1:=at_ s.heap (mC i1 l1) s.heap.objs.size rfl rfl;have p:=@U5;exact⟨⟨_,g5,rfl⟩,h _ g5 (p _ (p _ g3)) (p _ g4) ⟨_,p _ (p _ (p _ (p _ g1))),rfl,rfl⟩ ⟨_,p _ (p _ (p _ g2)),rfl,rfl⟩ λc o x=>p _ (p _ (p _ (p _ (p _ x))))⟩
end
end Fc.ZT
namespace Fc
open PySem PySem.Spec PySem.W PySem.Calls L2
open PyProof.Rows hiding St
variable {i:Nat}{K:Vr}{es:PQ}{tp:Pos}{R:Hp}{v:V}{xs:List PV}{pos:Pos}
section
variable {X:Cx}{Γ Γ1 Γ2 Γ3:Ga}{α β γ δ:Type}{N:Ga->Prop}{T:RT}
structure DG (z TI TO i1 i2:Addr):Prop where
 TIz:TI≠z
 TOz:TO≠z
 i1z:i1≠z
 i2z:i2≠z
 TITO:TI≠TO
 TIi1:TI≠i1
 TIi2:TI≠i2
 TOi1:TO≠i1
 TOi2:TO≠i2
 i12:i1≠i2
theorem XW {a b:Nat}(h:a<b∨b<a): @Ne Addr a b:=h.elim Sl Sv
theorem OK (n:Nat):DG (n+4) (n+2) (n+3) n (n+1):=⟨XW (by omega),XW (by omega),XW (by omega),XW (by omega),XW (by omega),XW (by omega),XW (by omega),XW (by omega),XW (by omega),XW (by omega)⟩
structure Ky where
 it:String
 Is:Heap->Addr->Array Value->Prop
 Sq:Vr->Hp->Addr->List V->Prop
 kd:∀prog w,ZT.Kd prog w it Is
 get:∀{X:Cx}{VZ:PD}{σ:St}{H:Hp}{s:S7}{a:Addr}{xs:List V},Inv X VZ σ H s->Sq X.K H a xs->∃V1,Vals xs V1/\Is s.heap a V1.toArray
 inj:∀{X:Cx}{VZ:PD}{σ:St}{H:Hp}{s:S7}{a:Addr}{xs ys:List V},Inv X VZ σ H s->Sq X.K H a xs->Sq X.K H a ys->xs=ys
def EL:Ky:=⟨_,_,bt,λ_ _=>ZT.O3,λI h=>by obtain⟨V1,r,p,_⟩:=I.list h;exact⟨V1,r,p.isList⟩,λI h h'=>I.mO h h'⟩
def Af:Ky:=⟨_,_,dR,λ_ _=>ZT.Pf,λI h=>by obtain⟨V1,r,p,_⟩:=I.tuple h;exact⟨V1,r,p⟩,λI h h'=>I.tJ h h'⟩
variable {k1 k2:Ky}
def Om (k1 k2:Ky)(K:Vr)(a b:Addr):It:=
 ⟨λi H=>∃xs ys x y,k1.Sq K H a xs/\k2.Sq K H b ys/\xs[i]?=some x/\ys[i]?=some y,
  λi H v H'=>∃p x y,H p=none/\v= .ref p/\H'=upd H p (.tup [x,y])/\(∀xs,k1.Sq K H a xs->xs[i]?=some x)/\∀ys,k2.Sq K H b ys->ys[i]?=some y,
  λi H=>∃xs ys,k1.Sq K H a xs/\k2.Sq K H b ys/\(xs.length<=i∨ys.length<=i)⟩
def NX (k1 k2:Ky)(z TI TO i1 i2 a b:Addr)(i:Nat)(h:Heap):Prop:=
 IsZip h z TI TO .none/\Tt h TI (.ref i1) (.ref i2)/\(∃u v,Tt h TO u v)/\ZT.wY k1.it h i1 a i/\ZT.wY k2.it h i2 b i/\a≠TO/\b≠TO
theorem M8 {P:Tb}{w:World}{h:Heap}{z TI TO i1 i2 a b:Addr}{xs ys:Array Value}(F:DG z TI TO i1 i2)(st:NX k1 k2 z TI TO i1 i2 a b i h)(pa:k1.Is h a xs)(pb:k2.Is h b ys):UE z TI TO i1 i2 a b:=by
 obtain⟨hz,_,_,⟨o1,e1,c1,_⟩,⟨o2,e2,c2,_⟩,n1,n2⟩:=st;have q1:o1.cls= .type "list_iterator"∨o1.cls= .type "tuple_iterator":=(k1.kd P w).nm.imp (λe=>by rw[c1,e]) (λe=>by rw[c1,e]);have q2:o2.cls= .type "list_iterator"∨o2.cls= .type "tuple_iterator":=(k2.kd P w).nm.imp (λe=>by rw[c2,e]) (λe=>by rw[c2,e]);exact⟨F.TIz,F.TOz,F.i1z,F.i2z,F.TITO,F.TIi1,F.TIi2,F.TOi1,F.TOi2,F.i12,
  (k1.kd P w).apart pa hz (.inl rfl),n1,(k1.kd P w).apart pa e1 (.inr q1),(k1.kd P w).apart pa e2 (.inr q2),
  (k2.kd P w).apart pb hz (.inl rfl),n2,(k2.kd P w).apart pb e1 (.inr q1),(k2.kd P w).apart pb e2 (.inr q2)⟩
theorem Ef {P:Tb}{w:World}{k:Nat}(a b z TI TO i1 i2:Addr)(F:DG z TI TO i1 i2):Turn P w K (.Tuple es k tp) (Om k1 k2 K a b) [z,TI,TO,i1,i2] z (NX k1 k2 z TI TO i1 i2 a b) where
 mem:=by simp
 obj:=λi h st c hc=>by
  obtain⟨hz,XB,⟨u,v,XD⟩,⟨o1,e1,c1,d1⟩,⟨o2,e2,c2,d2⟩,_⟩:=st;simp only[Qq,QL,or_false] at hc;rcases hc with rfl | rfl | rfl | rfl | rfl
  ·exact⟨_,hz,λv q=>by cases q⟩
  ·exact⟨_,XB,λv q=>by cases q⟩
  ·exact⟨_,XD,λv q=>by cases q⟩
  ·exact⟨o1,e1,λv q=>by rw[d1] at q;cases q⟩
  ·exact⟨o2,e2,λv q=>by rw[d2] at q;cases q⟩
 keep:=λi h h' st kk=>by
  obtain⟨hz,XB,⟨u,v,XD⟩,h1,h2,n⟩:=st;exact⟨kk z (by simp) _ hz,kk TI (by simp) _ XB,⟨u,v,kk TO (by simp) _ XD⟩,h1.imp λo q=>⟨kk i1 (by simp) o q.1,q.2⟩,h2.imp λo q=>⟨kk i2 (by simp) o q.1,q.2⟩,n⟩
 item:=by
  intro X hP hw hK hc i VZ s σ H E I hf st hg;subst hP hw hK;obtain⟨xs,ys,x,y,hq,W8,hx,hy⟩:=hg;obtain⟨V1,r,pl⟩:=k1.get I hq;obtain⟨its',r',YM⟩:=k2.get I W8;obtain⟨u,hu,rx⟩:=r.get hx;obtain⟨u',hu',ry⟩:=r'.get hy;have D:=M8 (P:=X.prog) (w:=X.w) F st pl YM;have hh:=I.ok.hd hc;obtain⟨hz0,XB,⟨c,d,XD⟩,h1,h2,n⟩:=st;have hn:H s.heap.objs.size=none:=I.V4.fresh (Sg _);refine ZT.GQ D ((k1.kd _ _).dr (A:=X.A.in1) hh (SN D.l1i1)) ((k2.kd _ _).dr (A:=X.A.in1) hh (SN D.l2i2)) hz0 XB XD ⟨h1,pl⟩ ⟨h2,YM⟩ (x:=u) (y:=u') (by simpa using hu) (by simpa using hu') λh' a1 a2 a3 a4 a5 hk=>?_;refine⟨_,rfl,?_⟩;refine wpAny_letOwnedTupleGo_zip (s:={s with heap:=h'}) a1 λh3 hz3 ZI=>?_;have lt:∀{c o},s.heap.get? c=some o->c≠s.heap.objs.size:=λe=>Sl (U6 e);have Zt:∀b o,b∉[z,TI,TO,i1,i2]->s.heap.get? b=some o->h3.get? b=some o:=λb o hb q=>by
   simp only[Qq,QL,or_false,not_or] at hb;exact ZI.extBut b o hb.1 (hk b o hb.1 hb.2.2.1 hb.2.2.2.1 hb.2.2.2.2 q)
  have I1:Inv X VZ σ H {s with heap:=h3,toks:=s.toks}:=oq I Zt hf;have hT2:h3.get? s.heap.objs.size=some {cls:=.type "tuple",data:=.seq #[u,u']}:=ZI.extBut _ _ (SN (lt hz0)) a5;have I2:Inv X VZ σ (upd H s.heap.objs.size (.tup [x,y])) {s with heap:=h3,toks:=s.toks}:=
   adopt I1 (I.jM (Sg _) hn) (I.sz) ⟨by show 2<=S8;decide,[u,u'],.cons rx (.cons ry .nil),⟨_,hT2,rfl,_,rfl⟩⟩
  refine⟨.ref s.heap.objs.size,_,I2,rfl,⟨s.heap.objs.size,x,y,hn,rfl,rfl,λzs hzs=>?_,λzs hzs=>?_⟩,⟨hz3,?_,⟨_,_,ZI.extBut _ _ F.TOz a2⟩,a3.1.imp λo q=>⟨ZI.extBut _ _ F.i1z q.1,q.2⟩,a4.1.imp λo q=>⟨ZI.extBut _ _ F.i2z q.1,q.2⟩,n⟩,λb hb=>?_⟩
  ·rw[k1.inj I hzs hq];exact hx
  ·rw[k2.inj I hzs W8];exact hy
  ·exact ZI.extBut _ _ F.TIz (hk _ _ F.TIz F.TITO F.TIi1 F.TIi2 XB)
  ·have W5:b≠s.heap.objs.size:=by
    simp only[Qq,QL,or_false] at hb;rcases hb with rfl | rfl | rfl | rfl | rfl
    ·exact lt hz0
    ·exact lt XB
    ·exact lt XD
    ·obtain⟨_,e,_⟩:=h1;exact lt e
    ·obtain⟨_,e,_⟩:=h2;exact lt e
   rw[aD W5];exact(hf b hb).1
 done:=by
  intro X hP hw hK hc i VZ s σ H E I hf st hg;subst hP hw hK;obtain⟨xs,ys,hq,W8,hx⟩:=hg;obtain⟨V1,r,pl⟩:=k1.get I hq;obtain⟨its',r',YM⟩:=k2.get I W8;have D:=M8 (P:=X.prog) (w:=X.w) F st pl YM;have hh:=I.ok.hd hc;obtain⟨hz0,XB,⟨c,d,XD⟩,h1,h2,n⟩:=st;have l1:=r.length;have l2:=r'.length;refine ZT.Jp D ((k1.kd _ _).dr (A:=X.A.in1) hh (SN D.l1i1)) ((k2.kd _ _).dr (A:=X.A.in1) hh (SN D.l2i2)) hz0 XB XD ⟨h1,pl⟩ ⟨h2,YM⟩ (hx.imp (λq=>by simp;omega) λq=>by simp;omega) λh' hk=>⟨rfl,?_⟩;refine oq (t':=s.toks) I (λb o hb q=>?_) hf;simp only[Qq,QL,or_false,not_or] at hb;exact hk b o hb.1 hb.2.2.1 hb.2.2.2.1 hb.2.2.2.2 q
 self:=λ_ _ _ _ _ st h=>wpAny_pyIter_zip st.1 h
theorem kA {xs:List α}{ys:List β}{q:α×β}(h:(xs.zip ys)[i]?=some q):xs[i]?=some q.1/\ys[i]?=some q.2:=by
 rw[List.getElem?_zip_eq_some] at h;exact h
structure wU (k:Ky)(K:Vr)(R:Hp)(v:V)(r:Rep α)(xs:List α):Prop where
 ex:∃a vs,v= .ref a/\(∀R' H,aw R R'->aw R' H->k.Sq K H a vs)/\vs.length=xs.length/\∀(i:Nat)(x:α),xs[i]?=some x->∃u,vs[i]?=some u/\r.R K R u x
theorem yZ {r:Rep α}{xs:List α}(h:(ae r).R K R v xs):wU EL K R v r xs:=by
 obtain⟨a,vs,rfl,hp,pp,_⟩:=h;exact⟨a,vs,rfl,λR' H s s'=>bt.of (s' _ _ (s _ _ hp)),pp.length,λi x hx=>ft pp hx⟩
theorem L0 {xs:PJ}(h:vp.R K R v xs):wU Af K R v ar xs:=by
 obtain⟨a,rfl,hq⟩:=h;exact⟨a,_,rfl,λR' H s s'=>hq.imp (λh=>h.imp (λq=>s' _ _ (s _ _ q)) λ⟨o,q⟩=>⟨o,s' _ _ (s _ _ q)⟩) id,by rw[Qg],λi x hx=>⟨_,by rw[Ql,hx];rfl,rfl⟩⟩
theorem EW (h:aq.R K R v (.tup xs)):wU Af K R v aq xs:=by
 have h:iq R v (.tup xs):=h;cases h with
 | @tup a vs _ hp pp=>exact⟨a,vs,rfl,λR' H s s'=>dR.of (s' _ _ (s _ _ hp)),pp.pair.length,λi x hx=>ft pp.pair hx⟩
def Pb (k1 k2:Ky)(K:Vr)(ta:TA):TI:=λσ H R=>ta σ H λvs H1=>∃a b xs ys,vs=[.ref a,.ref b]/\k1.Sq K H1 a xs/\k2.Sq K H1 b ys/\R (Om k1 k2 K a b) H1
theorem IB {a b:Expr}{ta:TA}{p:Pos}{k:Nat}(hg:Gl X "zip")(hm:X.mg "zip"=none)(ha:PA X [a,b] ta)(hs:vc X a b)(Wv:fK X b):PI X (.Tuple es k tp) (.Call (.Name "zip" p) [a,b] [] pos) (Pb k1 k2 X.K ta):=by
 intro VZ s σ H R I h;refine Call_ (iK I hg hm boot_zip (SX (aX (ha pos VZ s σ H _ I h) λus s1 ⟨vs,H1,I1,r1,q1⟩=>?_) (by first | rw[du,hs,Wv] | rw[hs,Wv]) (by rw[Wv];rfl)));obtain⟨l,l',xs,ys,e,hq,W8,q⟩:=q1;subst e;cases r1 with
 | cons r rr=>
   cases rr with
   | cons r' rr=>
     cases rr
     cases r
     cases r'
     obtain⟨V1,_,pl⟩:=k1.get I1 hq;obtain⟨its',_,YM⟩:=k2.get I1 W8;have ll:l<s1.heap.objs.size:=by obtain⟨o,e,_⟩:=(k1.kd X.prog X.w).cl pl;exact U6 e
     have ll':l'<s1.heap.objs.size:=by obtain⟨o,e,_⟩:=(k2.kd X.prog X.w).cl YM;exact U6 e
     refine ZT.AH k1.kd k2.kd pl YM λh' a1 a2 a3 a4 a5 hk=>?_;refine wpAny_pyIter_zip a1 ?_;have I2:Inv X VZ σ H1 {s1 with heap:=h'}:=I1.kept (t':=s1.toks) hk;have ff:∀b,s1.heap.objs.size<=b->lR X VZ H1 b:=λb hb=>I1.jM hb (I1.V4.fresh hb);refine⟨s1.heap.objs.size+4,[s1.heap.objs.size+4,s1.heap.objs.size+2,s1.heap.objs.size+3,s1.heap.objs.size,s1.heap.objs.size+1],_,_,H1,rfl,I2,Ef (k1:=k1) (k2:=k2) l l' _ _ _ _ _ (OK _),⟨a1,a2,⟨_,_,a3⟩,a4,a5,Sl (Sk ll (Su _ 3)),Sl (Sk ll' (Su _ 3))⟩,λb hb=>?_,q⟩;simp only[Qq,QL,or_false] at hb;rcases hb with rfl | rfl | rfl | rfl | rfl
     ·exact ff _ (Su _ 4)
     ·exact ff _ (Su _ 2)
     ·exact ff _ (Su _ 3)
     ·exact ff _ (Sg _)
     ·exact ff _ (Su _ 1)
theorem sG {a b:Expr}{p:Pos}{k:Nat}{q1:Rep γ}{q2:Rep δ}{x1:γ}{x2:δ}{r:Rep α}{r':Rep β}{xs:List α}{ys:List β}(hm:X.mg "zip"=none)(ha:EV X a Γ q1 x1 Γ1)(hb:EV X b Γ1 q2 x2 Γ2)(f1:∀{R:Hp}{v:V},q1.R X.K R v x1->wU k1 X.K R v r xs)(f2:∀{R:Hp}{v:V},q2.R X.K R v x2->wU k2 X.K R v r' ys)(hz:∀{R:Hp}{v v':V},q1.R X.K R v x1->q2.R X.K R v' x2->xs.length<=S8∨ys.length<=S8)(hs:vc X a b:=by rfl)(Wv:fK X b:=by rfl)(hg:Gl X "zip":=by rfl):
 IV X (.Tuple es k tp) (.Call (.Name "zip" p) [a,b] [] pos) Γ (dS r r') (xs.zip ys) Γ2:=by
 refine⟨_,IB (k1:=k1) (k2:=k2) hg hm (aH aK (aH aK bo Wv) (by first | rw[du,hs,Wv] | rw[hs,Wv])) hs Wv,λσ H0 R0 H R E Rq q=>ha σ H0 R0 H R E _ λv H1 R1 E1 s1 e1=>hb σ H0 R0 H1 R1 E1 _ λv' H2 R2 E2 s2 e2=>?_⟩;have e1:=q1.mono (K:=X.K) s2 e1;have z:(xs.zip ys).length<=S8:=by
  rw[Rn];exact(hz e1 e2).elim (Sh (Sw _ _)) (Sh (SD _ _))
 obtain⟨a,vs,rfl,sa,la,pa⟩:=f1 e1;obtain⟨b,WC,rfl,sb,lb,pb⟩:=f2 e2;refine⟨a,b,vs,WC,rfl,sa _ _ (aw.refl _) E2.sub,sb _ _ (aw.refl _) E2.sub,q _ H2 R2 E2 (s1.trans s2) z λH' R' sR sH i=>⟨λy hy=>?_,λhi=>?_⟩⟩
 ·have hq:=sa _ _ sR sH;have W8:=sb _ _ sR sH;obtain⟨e1,e2⟩:=kA hy;obtain⟨v,hv,hr⟩:=pa _ _ e1;obtain⟨v',Yp,WY⟩:=pb _ _ e2;refine⟨⟨vs,WC,v,v',hq,W8,hv,Yp⟩,λv2 H3 YA=>?_⟩;obtain⟨p,x,x',Zm,rfl,rfl,hy,hy'⟩:=YA;have t1:=hy _ hq;have t2:=hy' _ W8;rw[hv] at t1;rw[Yp] at t2;cases t1
  cases t2
  have s3:aw R' (upd R' p (.tup [v,v'])):=aw.fresh (sH.free Zm) _;exact⟨upd R' p (.tup [v,v']),Ext.fresh sH Zm _,p,_,_,rfl,aB,r.mono s3 (r.mono sR hr),r'.mono s3 (r'.mono sR WY)⟩
 ·refine⟨vs,WC,sa _ _ sR sH,sb _ _ sR sH,?_⟩;rw[Rn] at hi;omega
theorem Ci {a b:Expr}{p:Pos}{k:Nat}{r:Rep α}{r':Rep β}{xs:List α}{ys:List β}(hm:X.mg "zip"=none)(ha:EV X a Γ (ae r) xs Γ1)(hb:EV X b Γ1 (ae r') ys Γ2)(hs:vc X a b:=by rfl)(Wv:fK X b:=by rfl)(hg:Gl X "zip":=by rfl):
 IV X (.Tuple es k tp) (.Call (.Name "zip" p) [a,b] [] pos) Γ (dS r r') (xs.zip ys) Γ2:=sG (k1:=EL) (k2:=EL) hm ha hb yZ yZ (λ⟨_,_,_,_,_,z⟩ _=>.inl z) hs Wv hg
theorem DS {a b:Expr}{p:Pos}{k:Nat}{ys:List PV}(hm:X.mg "zip"=none)(ha:EV X a Γ aq (.tup xs) Γ1)(hb:EV X b Γ1 aq (.tup ys) Γ2)(hz:xs.length<=S8)(hs:vc X a b:=by rfl)(Wv:fK X b:=by rfl)(hg:Gl X "zip":=by rfl):
 IV X (.Tuple es k tp) (.Call (.Name "zip" p) [a,b] [] pos) Γ (dS aq aq) (xs.zip ys) Γ2:=sG (k1:=Af) (k2:=Af) hm ha hb EW EW (λ_ _=>.inl hz) hs Wv hg
theorem FU {a b:Expr}{p:Pos}{k:Nat}{ys:PJ}{r:Rep α}{xs:List α}(hm:X.mg "zip"=none)(ha:EV X a Γ vp ys Γ1)(hb:EV X b Γ1 (ae r) xs Γ2)(hs:vc X a b:=by rfl)(Wv:fK X b:=by rfl)(hg:Gl X "zip":=by rfl):
 IV X (.Tuple es k tp) (.Call (.Name "zip" p) [a,b] [] pos) Γ (dS ar r) (ys.zip xs) Γ2:=sG (k1:=Af) (k2:=EL) hm ha hb L0 yZ (λ_ ⟨_,_,_,_,_,z⟩=>.inr z) hs Wv hg
end
end Fc
namespace HT
open PySem PySem.Spec PyProof.Rows
section
variable {prog:Tb}{w:World}{A:Te}{E:Value->S7->Prop}{s:S7}
theorem oT {t sl:Addr}{items:Array Value}{vl vu:Value}{lo hi:Option Int}{Q:Value->S7->Prop}(ht:IsTup s.heap t items)(hs:s.heap.IsSliceOf sl vl vu .none)(pl:Ua vl lo)(pu:Ua vu hi)(hw:Wd items.size 0 lo=0/\Wd items.size items.size hi=items.size)(h:Q (.ref t) s):wpAny (model prog w) A (T5 (.ref t) (.ref sl)) Q E s:=by
 obtain⟨os,Zo,hcs,hds⟩:=id hs;have hTs:s.TypeIs (.ref sl) "slice":=⟨os,Zo,hcs⟩;unfold T5
 try with_reducible refine TZ ?_
 first | refine S9 (Tc ?_) | skip
 refine S9 (wpAny_sequenceKey ht.typeIs (by decide) ?_);refine S9 (Tr (name:=Vi "__getitem__") ht.typeIs SY
  (TN SY ht.typeIs entry_tuple_getitem ?_ (args_tuple_getitem _ _)))
 show wpAny _ _ (Builtin.Tuple.tupleItemsOf (.ref t) >>=_) _ _ s;refine S9 (tupleItemsOf_ ht ?_);refine S9 (wpAny_typeOf hTs ?_);rw[VQ (by decide)];refine S9 (kH hs pl pu ?_);have hyes:(((Wd items.size 0 lo:Nat):Int)==0&&(1:Int)==1&&(Wd items.size items.size hi-Wd items.size 0 lo)==items.size)=true:=by
  rw[hw.1,hw.2];simp
 show wpAny _ _ (if(((Wd items.size 0 lo:Nat):Int)==0&&(1:Int)==1&&(Wd items.size items.size hi-Wd items.size 0 lo)==items.size)=true then _ else _) _ _ s;rw[VQ hyes];refine S9 ?_;unfold Builtin.Tuple.tupleIsExact;refine S9 (wpAny_typeOf ht.typeIs (Tc ?_));rw[VQ (by decide)];exact S9 (Uc (Tc ⟨_,rfl,Tc h⟩))
end
end HT
namespace Fc
open PySem PySem.Spec PySem.W PySem.Calls L2
open PyProof.Rows hiding St
variable {X:Cx}{Γ Γ1 Γ2 Γ3:Ga}{α β γ δ:Type}{N:Ga->Prop}{T:RT}{pos p2:Pos}{xs:List PV}{x y:Str}{H:Hp}
section
variable {a:Expr}
def Pr (K:Vr):V->Option Int->Option Int->Hp->VK->Prop:=λx lo hi H Q=>∃a xs,x= .ref a/\dR K H a xs/\
 (HT.Wd xs.length 0 lo=0/\HT.Wd xs.length xs.length hi=xs.length)/\Q x H
theorem IT:Au X (Pr X.K):=by
 intro VZ s σ H x v vl vu lo hi sl Q I rx hs pl pu h;obtain⟨a,xs,rfl,hx,hw,q⟩:=h;cases rx
 obtain⟨V1,r,ht,hz⟩:=I.tuple hx;have hlen:V1.toArray.size=xs.length:=by rw[Qx];exact r.length.symm
 refine⟨"tuple",_,SY.lookup,ht.typeIs,?_⟩;exact HT.oT ht hs pl pu (by rw[hlen];exact hw) ⟨.ref a,H,I,rfl,q⟩
theorem Hu {lo hi:Option Expr}{l h:Option Int}(ha:EV X a Γ aq (.tup xs) Γ)(hl:OV X lo Γ l)(hh:OV X hi Γ h)(hw:HT.Wd xs.length 0 l=0/\HT.Wd xs.length xs.length h=xs.length):EV X (.Subscript a (.Slice lo hi none p2) pos) Γ aq (.tup xs) Γ:=by
 intro σ H0 R0 H R E Q q;obtain⟨tl,pl,kl⟩:=hl;obtain⟨th,ph,kh⟩:=hh;refine eS (nt IT aK pl ph) (ha σ H0 R0 H R E _ λv H1 R1 E1 s1 e1=>kl σ H0 R0 H1 R1 E1 _ λH2 R2 E2 s2=>kh σ H0 R0 H2 R2 E2 _ λH3 R3 E3 s3=>?_);cases aq.mono (K:=X.K) (s2.trans s3) e1 with
 | @tup a' WC _ hp pp=>
   exact⟨_,_,rfl,dR.of (E3.sub _ _ hp),by rw[pp.pair.length];exact hw,q _ _ _ E3 (s1.trans (s2.trans s3)) (.tup hp pp)⟩
theorem IA {lo hi:Option Expr}{l h:Option Int}(ha:EV X a Γ aq (.tup xs) Γ)(hl:OV X lo Γ l)(hh:OV X hi Γ h):EV X (.Subscript a (.Slice lo hi none p2) pos) Γ aq (.tup (cut xs l h)) Γ:=by
 by_cases hw:HT.Wd xs.length 0 l=0/\HT.Wd xs.length xs.length h=xs.length
 ·have e:cut xs l h=xs:=by
   unfold cut;rw[hw.1,hw.2];simp
  rw[e];exact Hu ha hl hh hw
 ·exact Jl ha hl hh hw
theorem sZ {b:Expr}(ha:EV X a Γ ar x Γ1)(hb:EV X b Γ1 ar y Γ2)(hz:x.length+y.length<=S8):EV X (.BinOp a .Add b pos) Γ ar (x++y) Γ2:=jV zx ha hb λR v u H Q e1 e2 q=>⟨x,y,e1,e2,hz,q _ rfl⟩
theorem GI {p:Pos}(hm:X.mg "len"=none)(ha:EV X a Γ ar x Γ1)(hz:x.length<=S8)(hs:fK X a:=by rfl)(hg:Gl X "len":=by rfl):EV X (.Call (.Name "len" p) [a] [] pos) Γ ag (x.length:Int) Γ1:=by
 intro σ H0 R0 H R E Q q;refine eS (ee xh hg hm Tu (aH aK bo hs) (by decide) (by decide) hs) (ha σ H0 R0 H R E _ λv H1 R1 E1 s1 e1=>?_);cases e1
 exact⟨x,rfl,hz,q _ H1 R1 E1 s1 rfl⟩
theorem sQ {p:Addr}{a b:HO}:upd (upd H p a) p b=upd H p b:=by
 funext c;by_cases h:c=p
 ·subst h;rw[aB,aB]
 ·rw[aD h,aD h,aD h]
end
variable {st:Stmt}
def Fq (i j:Int):Prop:=0<j/\j<=1000000000000000000
theorem DQ:eJ X (TL .FloorDiv) (rI Fq λi j=>.int (i/j)):=yD λi j _ _ _ _ _ hc q=>by
 have h1:(0:Int)<j:=hc.1;have h2:j<=1000000000000000000:=hc.2;exact floordiv_int (by omega) (by rw[Int.fdiv_eq_ediv_of_nonneg i (by omega)];exact q) (.inl (PyProof.noPylong_of_log2 (Sk ((Nat.log2_lt (by omega)).mpr (show j.natAbs<2 ^ 60 by omega)) (by decide))))
theorem bS {N1:Ga->Prop}{rest:List Stmt}(h1:W1 X st Γ N1 T)(h2:∀Γ',N1 Γ'->WS X rest Γ' N T):WS X (st::rest) Γ N T:=ai λσ H0 R0 H R E D dn dr=>h1 σ H0 R0 H R E D (λσ' H' R' Γ' E' s' n=>dn σ' H' R' Γ' E' s' (h2 Γ' n)) dr
theorem wI {a b:Expr}{x y:Int}(ha:EV X a Γ ag x Γ1)(hb:EV X b Γ1 ag y Γ2)(h:Fq x y):EV X (.BinOp a .FloorDiv b pos) Γ ag (x/y) Γ2:=jV DQ ha hb λR v u H Q e1 e2 q=>⟨x,y,e1,e2,h,q _ rfl⟩
theorem Eo {x y:Int}(h0:0<=x)(h1:x<2 ^ 63):UD x y:=.of_left (Ul (by omega) (by omega))
def lN (x:Str)(i:Nat):Str:=⟨#[x.cps.getD i 0]⟩
theorem Bj {a b:Expr}{i:Int}(ha:EV X a Γ ar x Γ1)(hb:EV X b Γ1 ag i Γ2)(h0:0<=i)(h1:i<(x.length:Int))(hz:x.length<=S8)(hs:eL b:=by exact λ_ _=>rfl):EV X (.Subscript a b pos) Γ ar (lN x i.toNat) Γ2:=by
 intro σ H0 R0 H R E Q q;refine eS (gG JZ aK aK hs) (ha σ H0 R0 H R E _ λv H1 R1 E1 s1 e1=>hb σ H0 R0 H1 R1 E1 _ λu H2 R2 E2 s2 e2=>?_);cases e1
 cases e2
 refine⟨x,i,x.cps.getD i.toNat 0,rfl,rfl,hz,?_,q _ H2 R2 E2 (s1.trans s2) rfl⟩;have hl:x.cps.toList.length=x.length:=by simp[Str.length]
 rw[gP h0 (by omega),Qd (by omega)];have:i.toNat<x.cps.size:=by have:x.length=x.cps.size:=rfl;omega
 simp[Array.getD,this]
variable {es:PQ}{p1:Pos}{σ:St}{H0 R0 R:Hp}{r:Rep α}
theorem mn {K:Vr}{R:Hp}:∀{vs:List V}{xs:PJ},PySem.Paired (ar.R K R) vs xs->vs=xs.map V.str
 | _,_,.nil=>rfl
 | _,_,.cons h t=>by rw[QJ,← mn t];exact congrArg (· ::_) h
theorem vf {xs:PJ}:iy X .In ar (ae ar) x xs (decide (x∈xs)):=⟨_,tQ,λR H v u Q s e1 e2 q=>by
 cases e1
 obtain⟨a,vs,rfl,hq,p,_⟩:=e2;have e:=mn p;subst e;exact⟨a,_,rfl,.inl (bt.of (s _ _ hq)),rfl,kZ xs,by rw[VP PX,mU];exact q⟩⟩
theorem zF {S:nS α}{k:Nat}{p:Pos}{ps:List Pk}{xs:List α}{TM:List α->RT}{Q:VK}(i:Nat)(C:aE X.prog X.w X.K X.mg X.base x k (iC r S X.K))(hr:bG k X.A)(ha:HA X es Γ ps Γ1)(hΓ:Γ[i]?=some (.mu r xs))(hΓ1:Γ1[i]?=some (.mu r xs))(hS:S X.K xs ps TM)(E:au X.K σ H0 R0 H R Γ)(q:∀a H1 R1 v H' R' xs',(σ[i]?).join=some (.ref a)->au X.K σ H0 R0 H1 R1 Γ1->au X.K σ H0 R0 H' R' (Γ1.set i (.mu r xs'))->aw R R'->TM xs' (del H1 a) v H' R'->Q v H')(hg:Gl X x)(Wu:(x==("__debug__":Str))=false)(he:Td (.Name y p1::es) X.env=(false,eval (.Name y p1) X.env)::Td es X.env)(Wg:fm X pos es)(hN:At X i y):gK X (.Call (.Name x p) (.Name y p1::es) [] pos) σ H Q:=by
 obtain⟨f,fd,pn,F,hm,hk,hb⟩:=C.ex;obtain⟨a,vs,ea,_,_,_⟩:=E.ent i _ hΓ;refine eS (ig F hr hg hm hk hb .nil jT (aH (aV hN) nC he) Wu he Wg) ⟨.ref a,at_of ea,ha σ H0 R0 H R E _ λus H1 R1 E1 s1 p1=>?_⟩;obtain⟨a',ws,Wy,hp,hR,pp⟩:=E1.ent i _ hΓ1;rw[ea] at Wy;cases Wy
 have h0:H0 a=none:=E1.new i _ a hΓ1 rfl ea;refine⟨R1,a,ws,xs,us,ps,TM,by rw[QC],E1.sub,hR,hp,pp,p1,hS,λv H' R' Xj xs' xx h1 h2 pq t=>q a H1 R1 v H' R' xs' ea E1 ?_ (s1.trans xx.r) t⟩;have apart:∀(j:Nat)(e:Ent),j≠i->Γ1[j]?=some e->a∉e.fp (σ[j]?).join:=λj e hj qj w=>hj (E1.ds j i e _ a qj hΓ1 w (cf.mpr ea));have E2:au X.K σ H0 R0 H1 R1 (Γ1.set i .no):=E1.tell hΓ1 trivial λb w=>by cases w
 have E3:=E2.Fp (a:=a) (λj e qj w=>by
  rcases set_at qj with⟨rfl,rfl,_⟩ | ⟨hj,q1⟩
  ·cases w
  ·exact apart j e hj q1 w) h0 xx
 have hl:i<Γ1.length:=(Qc.mp hΓ1).1;have E4:=E3.jX (i:=i) (e0:=.no) (en:=.mu r xs') (Qp hl) (by rw[ea];exact⟨a,Xj,rfl,h1,h2,pq⟩) λb w=>by
  have eb:b=a:=by rw[cf.mp w] at ea;cases ea;rfl
  subst eb;exact⟨h0,λj e hj qj=>apart j e hj (by rwa [QB (SN hj)] at qj)⟩
 rw[Ra] at E4;exact E4
variable {b:Addr}{j:Nat}
theorem JA {as:PM}{k:Int}(hk:ij as.length k=some j)(hb:as[j]?=some b):cE (as.map V.ref) k=some (.ref b):=by
 unfold cE;rw[Qg,hk];show(as.map V.ref)[j]?=_;rw[Ql,hb];rfl
theorem rS {a b:Expr}{Xu:Pos}{m n:Int}(Zs:X.mg "list"=none)(hmr:X.mg "range"=none)(ha:HA X [a,b] Γ [⟨ag,m⟩,⟨ag,n⟩] Γ1)(hm: -1000000<=m/\m<=1000000)(hn: -1000000<=n/\n<=1000000)(hs:Td [a,b] X.env=(false,eval a X.env)::Td [b] X.env:=by rfl)(Wg:fm X Xu [b]:=by rfl)(Wv:Td [.Call (.Name "range" p2) [a,b] [] Xu] X.env=[(false,eval (.Call (.Name "range" p2) [a,b] [] Xu) X.env)]:=by rfl)(hc:X.calm=true:=by rfl)(hg:Gl X "list":=by rfl)(hgr:Gl X "range":=by rfl):ba X (.Call (.Name "list" p1) [.Call (.Name "range" p2) [a,b] [] Xu] [] pos) Γ ag (ups m (n-m).toNat) Γ1:=by
 intro σ H0 R0 H R E Q q;refine eS (jw (nJ hc) hg Zs SV (aH (jw sq hgr hmr S5 nC (by decide) (by decide) hs Wg) bo Wv) (by decide) (by decide) Wv) (ha σ H0 R0 H R E _ λvs H1 R1 E1 s1 e1=>?_);have e:vs=[.int m,.int n]:=by
  cases e1 with
  | cons a1 t=>cases t with
    | cons a2 t=>cases t;cases a1;cases a2;rfl
 subst e;refine⟨m,n,rfl,λp hp=>⟨p,m,n,rfl,aB,hm.1,hm.2,hn.1,hn.2,λd hd=>?_⟩⟩;have E2:=E1.grow (Ext.eD E1.sub hp (.Ym m n));exact q d _ _ R1 (E2.grow (Ext.eD E2.sub hd _)) s1 aB (E2.sub.free hd) (E2.ext.h.free hd) (E2.off hd) (paired_ints _) (by rw[bU];exact Sh (show(n-m).toNat<=2000000 by omega) (by decide))
mutual
inductive cN (H:Hp):V->PV->PM->Prop
 | str (x:Str):cN H (.str x) (.str x) []
 | int (n:Int):cN H (.int n) (.int n) []
 | lst {a:Addr} {vs:List V} {xs:List PV} {fp:PM}:H a=some (.lst vs)->bq H vs xs fp->xs.length<=S8->cN H (.ref a) (.lst xs) (a::fp)
inductive bq (H:Hp):List V->List PV->PM->Prop
 | nil:bq H [] [] []
 | cons {v:V} {x:PV} {f:PM} {vs:List V} {xs:List PV} {g:PM}:cN H v x f->bq H vs xs g->bq H (v::vs) (x::xs) (f++g)
end
mutual
theorem cN.qC {H:Hp}:∀{v:V}{x:PV}{fp:PM},cN H v x fp->iq H v x
 | _,_,_,.str x=>.str x
 | _,_,_,.int n=>.int n
 | _,_,_,.lst h t z=>.lst h t.qC z
theorem bq.qC {H:Hp}:∀{vs:List V}{xs:List PV}{fp:PM},bq H vs xs fp->eR H vs xs
 | _,_,_,.nil=>.nil
 | _,_,_,.cons h t=>.cons h.qC t.qC
end
mutual
theorem cN.loc {H H':Hp}:∀{v:V}{x:PV}{fp:PM},cN H v x fp->(∀a∈fp,H' a=H a)->cN H' v x fp
 | _,_,_,.str x,_=>.str x
 | _,_,_,.int n,_=>.int n
 | _,_,_,.lst h t z,k=>.lst ((k _ Qk).trans h) (t.loc λa ha=>k a (Qi _ ha)) z
theorem bq.loc {H H':Hp}:∀{vs:List V}{xs:List PV}{fp:PM},bq H vs xs fp->(∀a∈fp,H' a=H a)->bq H' vs xs fp
 | _,_,_,.nil,_=>.nil
 | _,_,_,.cons h t,k=>.cons (h.loc λa ha=>k a (Qs _ ha)) (t.loc λa ha=>k a (Qn _ ha))
end
mutual
theorem cN.has {H:Hp}:∀{v:V}{x:PV}{fp:PM},cN H v x fp->∀a∈fp,H a≠none
 | _,_,_,.str x,_,h=>by cases h
 | _,_,_,.int n,_,h=>by cases h
 | _,_,_,.lst q t z,a,h=>by
   rcases Qq.mp h with rfl | h
   ·rw[q];simp
   ·exact t.has a h
theorem bq.has {H:Hp}:∀{vs:List V}{xs:List PV}{fp:PM},bq H vs xs fp->∀a∈fp,H a≠none
 | _,_,_,.nil,_,h=>by cases h
 | _,_,_,.cons q t,a,h=>(Qr.mp h).elim (q.has a) (t.has a)
end
def Ee:List PV->Bool
 | .lst _:: .int _::_=>true
 | _=>false
mutual
def noMix:PV->Bool
 | .lst xs=> !Ee xs&&gW xs
 | _=>true
def gW:List PV->Bool
 | []=>true
 | x::xs=>noMix x&&gW xs
end
theorem B3 (h:noMix (.lst xs)=true):(∀a k r,xs≠ .lst a:: .int k::r)/\gW xs=true:=by
 rw[noMix,PZ] at h;refine⟨λa k r e=>?_,h.2⟩;subst e;exact VO h.1 (by simp[Ee])
mutual
theorem cN.node {H:Hp}{a s:Addr}{k:Int}{rest:List V}(ha:H a=some (.lst (.ref s:: .int k::rest))):∀{v:V}{x:PV}{fp:PM},cN H v x fp->noMix x=true->a∉fp
 | _,_,_,.str x,_=>by simp
 | _,_,_,.int n,_=>by simp
 | _,_,_,.lst q t z,hx=>by
   obtain⟨h1,h2⟩:=B3 hx;intro h;rcases Qq.mp h with rfl | h
   ·rw[ha] at q;cases q
    cases t with
    | cons p1 t=>cases t with
      | cons p2 t=>
        cases p1
        cases p2
        exact h1 _ _ _ rfl
   ·exact bq.node ha t h2 h
theorem bq.node {H:Hp}{a s:Addr}{k:Int}{rest:List V}(ha:H a=some (.lst (.ref s:: .int k::rest))):∀{vs:List V}{xs:List PV}{fp:PM},bq H vs xs fp->gW xs=true->a∉fp
 | _,_,_,.nil,_=>by simp
 | _,_,_,.cons q t,hx=>by
   rw[gW,PZ] at hx;intro h;rcases Qr.mp h with h | h
   ·exact cN.node ha q hx.1 h
   ·exact bq.node ha t hx.2 h
end
variable {vs:List V}{H':Hp}{v:V}
theorem bq.len {fp:PM}(h:bq H vs xs fp):vs.length=xs.length:=h.qC.pair.length
theorem bq.app:∀{vs us:List V}{xs ys:List PV}{f g:PM},bq H vs xs f->bq H us ys g->bq H (vs++us) (xs++ys) (f++g)
 | _,_,_,_,_,_,.nil,t=>t
 | _,_,_,_,_,_,.cons h t,t'=>by
   rw[Q7,Q7,Qy];exact .cons h (t.app t')
def jW:PV->Bool
 | .str _=>true
 | .int _=>true
 | _=>false
theorem ma {x:PV}(h:iq H v x)(hl:jW x=true):cN H' v x []:=by
 cases h with
 | str x=>exact .str x
 | int n=>exact .int n
 | _=>cases hl
theorem xD {H H':Hp}:∀{vs:List V}{xs:List PV},eR H vs xs->xs.all jW=true->bq H' vs xs []
 | _,_,.nil,_=>.nil
 | _,_,.cons h t,hl=>by
   rw[all_cons,PZ] at hl;exact .cons (f:=[]) (g:=[]) (ma h hl.1) (xD t hl.2)
def gO (x:PV)(fp:PM):oY where
 fp:=fp
 R:=λ_ H _ v=>cN H v x fp/\fp.Nodup
 loc:=λh _ ⟨t,n⟩=>⟨t.loc h,n⟩
 has:=λ⟨t,_⟩=>t.has
def zB (P:PV->Prop):RT:=λH0 v H' R'=>∃x fp,cN H' v x fp/\fp.Nodup/\(∀a∈fp,H0 a=none/\R' a=none)/\P x
variable {a:Addr}{e:Expr}{K:Vr}{ap cp:Pos}{i:Nat}
section
variable {x:PV}{y:PV}{z:PV}
def jA (X:Cx)(e:Expr)(Γ:Ga)(x:PV)(Γ':Ga):Prop:=
 ∀(σ:St)(H0 R0 H R:Hp),au X.K σ H0 R0 H R Γ->∀Q:VK,(∀v fp H' R',au X.K σ H0 R0 H' R' Γ'->aw R R'->cN H' v x fp->fp.Nodup->(∀a∈fp,R' a=none/\H0 a=none/\Off a σ Γ')->Q v H')->gK X e σ H Q
theorem jA.cast (h:jA X e Γ x Γ1)(e1:x=y):jA X e Γ y Γ1:=e1▸h
theorem ba.vF (h:ba X e Γ aq xs Γ1)(hl:xs.all jW=true):jA X e Γ (.lst xs) Γ1:=λσ H0 R0 H R E Q q=>
 h σ H0 R0 H R E Q λa vs H' R' E' s' ha hR h0 off p z=>q _ [a] H' R' E' s' (.lst ha (xD (.of p) hl) z) (QF.mpr ⟨by simp,RC⟩) λb hb=>by rw[Qe.mp hb];exact⟨hR,h0,off⟩
theorem qD (i:Nat){x:Str}(he:jA X e Γ y Γ1)(h:∀fp,N (Γ1.set i (.ob (gO y fp))))(hN:X.N.Nodup:=by first | assumption | decide)(hi:X.N[i]?=some x:=by rfl)(hx:autoParam (Loc X.env.scope x) Xe)(hs:Tf e (some (.Name x p1)) pos.line X.env=pure false:=by rfl)(hf:autoParam (fQ X x) Xd):W1 X (.Assign [.Name x p1] e pos) Γ N T:=λσ H0 R0 H R E D dn dr=>
 sS (iT hN hi hx aK hs hf) (he σ H0 R0 H R E _ λv fp H1 R1 E1 s1 t nd k=>dn _ H1 R1 _ (E1.setG (en:=.ob (gO y fp)) i ⟨⟨v,rfl,t,nd⟩,λa ha=>(k a ha).1⟩ (λa ha=>(k a ha).2.1) λa ha j e _ q w=>(k a ha).2.2 j e q w) s1 (h fp))
theorem iN (i:Nat){S:nS α}{x y:Str}{k:Nat}{p:Pos}{ps:List Pk}{xs st:List α}(C:aE X.prog X.w X.K X.mg X.base x k (iC r S X.K))(hr:bG k X.A)(ha:HA X es (Γ.set i (.mu r xs)) ps (Γ.set i (.mu r xs)))(hΓ:Γ[i]?=some (.ob (aO a r xs)))(hS:S X.K xs ps (λxs'=>zB λw=>xs'=st/\w=z))(Zv:∀(R:Hp)(ws:List V),PySem.Paired (r.R X.K R) ws st->∃s k rest,ws= .ref s:: .int k::rest)(hmx:noMix z=true)(hg:Gl X x:=by rfl)(Wu:WW x:=by decide)(he:Td (.Name y p1::es) X.env=(false,eval (.Name y p1) X.env)::Td es X.env:=by rfl)(Wg:fm X pos es:=by rfl)(hN:autoParam (At X i y) cg):
 jA X (.Call (.Name x p) (.Name y p1::es) [] pos) Γ z (Γ.set i (.ob (aO a r st))):=λσ H0 R0 H R E Q q=>by
 obtain⟨ea,⟨vs,hva,pp⟩,hR⟩:=dD (E.ent i _ hΓ);have hl:i<Γ.length:=(Qc.mp hΓ).1;have E':au X.K σ H0 R0 H R (Γ.set i (.mu r xs)):=E.tell hΓ (by rw[ea];exact⟨a,vs,rfl,hva,hR,pp⟩) λb w=>by
  rw[ea] at w;exact w
 refine zF i C hr ha (Qp hl) (Qp hl) hS E' (λa' H1 R1 v H' R' xs' Wy E1 E2 s' t=>?_) hg Wu he Wg hN;rw[ea] at Wy;cases Wy
 obtain⟨w,fp,t1,nd,k,rfl,rfl⟩:=t;rw[Ra] at E2;obtain⟨a2,ws,ea2,hp2,Y2,pp2⟩:=E2.ent i _ (Qp hl);rw[ea] at ea2;cases ea2
 have E3:au X.K σ H0 R0 H' R' (Γ.set i (.ob (aO a r xs'))):=by
  have:=E2.tell (i:=i) (en:=.ob (aO a r xs')) (Qp hl) (by rw[ea];exact⟨⟨_,rfl,rfl,ws,hp2,pp2⟩,λb hb=>by rw[Qe.mp hb];exact Y2⟩) (λb w=>by rw[ea];exact w);rwa [Ra] at this
 have XW:∀b∈fp,b≠a:=λb hb e=>by
  subst e;obtain⟨s,k,rest,e1⟩:=Zv R' ws pp2;rw[e1] at hp2;exact cN.node hp2 t1 hmx hb
 refine q v fp H' R' E3 s' t1 nd λb hb=>?_;have hb1:H1 b=none:=by
  have:=(k b hb).1;unfold del at this;rwa [VP (XW b hb)] at this
 refine⟨(k b hb).2,E1.ext.h.free hb1,λj e qj w=>?_⟩;rcases set_at qj with⟨rfl,rfl,_⟩ | ⟨hj,q1⟩
 ·exact XW b hb (Qe.mp w)
 ·exact E1.off hb1 j e (by rw[QB (SN hj)];exact q1) w
theorem au.zZ {fp:PM}(E:au K σ H0 R0 H R Γ)(hj:Γ[j]?=some (.ob (gO x fp))):(∃v,(σ[j]?).join=some v/\cN H v x fp)/\fp.Nodup/\au K σ H0 R0 H R (Γ.set j .no)/\∀a∈fp,R a=none/\H0 a=none/\Off a σ (Γ.set j .no):=by
 obtain⟨⟨v,ev,t,nd⟩,hR⟩:=E.ent j _ hj;refine⟨⟨v,ev,t⟩,nd,E.tell (en:=.no) hj trivial (λb w=>by cases w),λa ha=>⟨hR a ha,E.nw j _ a hj ha,λk e q w=>?_⟩⟩;rcases set_at q with⟨rfl,rfl,_⟩ | ⟨hk,q1⟩
 ·cases w
 ·exact hk (E.ds k j e _ a q1 hj w ha)
theorem yy (j:Nat){y:Str}{fp:PM}(hΓ:Γ[j]?=some (.ob (gO x fp)))(hN:autoParam (At X j y) cg):jA X (.Name y pos) Γ x (Γ.set j .no):=λσ H0 R0 H R E Q q=>by
 obtain⟨⟨v,ev,t⟩,nd,E1,k⟩:=E.zZ hΓ;exact eS (aV hN) ⟨v,at_of ev,q v fp H R E1 (aw.refl _) t nd k⟩
theorem cN.fresh {fp:PM}{p:Addr}{o:HO}(h:cN H v x fp)(hp:H p=none):cN (upd H p o) v x fp/\p∉fp:=by
 have hn:p∉fp:=λw=>h.has p w hp;exact⟨h.loc λa ha=>aD λe=>hn (e▸ha),hn⟩
theorem Jv {a b t:Expr}(ha:EV X a Γ aq x Γ1)(hb:EV X b Γ1 aq y Γ2)(ht:jA X t Γ2 z Γ3)(hx:jW x=true)(hy:jW y=true)(h1:Td [a,b,t] X.env=(false,eval a X.env)::Td [b,t] X.env:=by rfl)(h2:Td [b,t] X.env=(false,eval b X.env)::Td [t] X.env:=by rfl)(h3:du X t []:=by rfl):jA X (.List [a,b,t] pos) Γ (.lst [x,y,z]) Γ3:=λσ H0 R0 H R E Q q=>by
 refine eS (wO (aH aK (aH aK (aH aK bo h3) h2) h1)) (ha σ H0 R0 H R E _ λv1 H1 R1 E1 s1 e1=>hb σ H0 R0 H1 R1 E1 _ λv2 H2 R2 E2 s2 e2=>ht σ H0 R0 H2 R2 E2 _ λv3 fp H3 R3 E3 s3 t3 nd k=>⟨by show 3<=S8;decide,λp hp=>?_⟩);obtain⟨t4,hn⟩:=t3.fresh (o:=.lst [v1,v2,v3]) hp;refine q (.ref p) (p::fp) _ R3 (E3.grow (Ext.eD E3.sub hp _)) (s1.trans (s2.trans s3)) ?_ (QF.mpr ⟨hn,nd⟩) λc hc=>?_
 ·have:=bq.cons (ma (H':=upd H3 p (.lst [v1,v2,v3])) e1 hx) (bq.cons (ma (H':=upd H3 p (.lst [v1,v2,v3])) e2 hy) (bq.cons t4 .nil));rw[QC,QW,QW] at this;exact .lst aB this (by show 3<=S8;decide)
 ·rcases Qq.mp hc with rfl | hc
  ·exact⟨E3.sub.free hp,E3.ext.h.free hp,E3.off hp⟩
  ·exact k c hc
theorem Jb (j:Nat){a b t:Expr}{n:Str}{u:PV}{f0:PM}(ha:EV X a Γ aq x Γ1)(hb:EV X b Γ1 aq y Γ2)(ht:jA X t Γ2 z Γ3)(hj:Γ2[j]?=some (.ob (gO u f0)))(hj3:Γ3[j]?=some (.ob (gO u f0)))(hx:jW x=true)(hy:jW y=true)(hN:autoParam (At X j n) cg)(h1:Td [a,b,.Name n p1,t] X.env=(false,eval a X.env)::Td [b,.Name n p1,t] X.env:=by rfl)(h2:Td [b,.Name n p1,t] X.env=(false,eval b X.env)::Td [.Name n p1,t] X.env:=by rfl)(h3:Td [.Name n p1,t] X.env=(false,eval (.Name n p1) X.env)::Td [t] X.env:=by rfl)(h4:du X t []:=by rfl):jA X (.List [a,b,.Name n p1,t] pos) Γ (.lst [x,y,u,z]) (Γ3.set j .no):=λσ H0 R0 H R E Q q=>by
 refine eS (wO (aH aK (aH aK (aH (aV hN) (aH aK bo h4) h3) h2) h1)) (ha σ H0 R0 H R E _ λv1 H1 R1 E1 s1 e1=>hb σ H0 R0 H1 R1 E1 _ λv2 H2 R2 E2 s2 e2=>?_);obtain⟨⟨v0,ev0,_⟩,_⟩:=E2.zZ hj;refine⟨v0,at_of ev0,ht σ H0 R0 H2 R2 E2 _ λv3 fp H3 R3 E3 s3 t3 nd k=>⟨by show 4<=S8;decide,λp hp=>?_⟩⟩;obtain⟨⟨v0',ev0',t0⟩,nd0,E4,k0⟩:=E3.zZ hj3;rw[ev0] at ev0';cases ev0'
 obtain⟨t4,hn⟩:=t3.fresh (o:=.lst [v1,v2,v0,v3]) hp;obtain⟨t5,hn5⟩:=t0.fresh (o:=.lst [v1,v2,v0,v3]) hp;have dj:∀c∈f0,c∉fp:=λc hc w=>(k c w).2.2 j _ hj3 hc;refine q (.ref p) (p::(f0++fp)) _ R3 (E4.grow (Ext.eD E4.sub hp _)) (s1.trans (s2.trans s3)) ?_ (QF.mpr ⟨λw=>(Qr.mp w).elim hn5 hn,QO.mpr ⟨nd0,nd,λc hc d w e=>dj c hc (e▸w)⟩⟩) λc hc=>?_
 ·have:=bq.cons (ma (H':=upd H3 p (.lst [v1,v2,v0,v3])) e1 hx) (bq.cons (ma (H':=upd H3 p (.lst [v1,v2,v0,v3])) e2 hy) (bq.cons t5 (bq.cons t4 .nil)));rw[QC,QW,QW] at this;exact .lst aB this (by show 4<=S8;decide)
 ·rcases Qq.mp hc with rfl | hc
  ·exact⟨E4.sub.free hp,E4.ext.h.free hp,E4.off hp⟩
  ·rcases Qr.mp hc with hc | hc
   ·exact k0 c hc
   ·refine⟨(k c hc).1,(k c hc).2.1,λi e qi w=>?_⟩;rcases set_at qi with⟨rfl,rfl,_⟩ | ⟨hi,q1⟩
    ·cases w
    ·exact(k c hc).2.2 i e q1 w
theorem jn (i:Nat){xs:List α}{P:List α->PV->Prop}(he:jA X e Γ y Γ1)(hΓ1:Γ1[i]?=some (.ob (aO a r xs)))(h:P xs y):W1 X (.Return (some e) pos) Γ N (E9 X.K a r λxs'=>zB (P xs')):=λσ H0 R0 H R E D dn dr=>
 sS (kQ aK) (he σ H0 R0 H R E _ λv fp H1 R1 E1 s1 t nd k=>by
  obtain⟨ea,⟨vs,ha,pp⟩,hR⟩:=dD (E1.ent i _ hΓ1);exact dr v H1 R1 E1.ext ⟨vs,xs,ha,hR,pp,y,fp,t,nd,λb hb=>⟨(k b hb).2.1,(k b hb).1⟩,h⟩)
theorem Je (i:Nat){x:Str}{fp:PM}(he:jA X e Γ z Γ1)(hΓ:Γ[i]?=some (.ob (gO (.lst xs) fp)))(hΓ1:Γ1[i]?=some (.ob (gO (.lst xs) fp)))(hz:xs.length<S8)(h:∀fp',N (Γ1.set i (.ob (gO (.lst (xs++[z])) fp'))))(hN:autoParam (At X i x) cg)(WJ:Tf (.Call (.Attribute (.Name x p1) "append" ap) [e] [] cp) none pos.line X.env=pure false:=by rfl)(V7:fD X (.Name x p1) "append":=by rfl)(Wj:nF X cp [e]:=by rfl)(V6:(ap.endLine==cp.line)=true:=by rfl)(hs:du X e []:=by rfl):W1 X (.Expr (.Call (.Attribute (.Name x p1) "append" ap) [e] [] cp) pos) Γ N T:=λσ H0 R0 H R E D dn dr=>by
 obtain⟨⟨v0,ea,t0,_⟩,_⟩:=E.ent i _ hΓ;cases t0 with
 | @lst a ZX _ f0 ha0 tt0 z0=>
 refine sS (d9 (iY UW UX UY jG (aV hN) (aH aK bo hs) V7 Wj V6 hs rfl) WJ) ?_;refine⟨.ref a,at_of ea,.inl ⟨rfl,ZX,bt.of ha0⟩,he σ H0 R0 H R E _ λv fpz H1 R1 E1 s1 t nd k=>?_⟩;obtain⟨⟨v1,ea1,t1,nd1⟩,Y3⟩:=E1.ent i _ hΓ1;rw[ea] at ea1;cases ea1
 cases t1 with
 | @lst _ vs _ _ ha tt zz=>
 refine⟨a,vs,v,rfl,rfl,ha,by rw[tt.len];exact hz,?_⟩;obtain⟨na,nd2⟩:=QF.mp nd1;have nz:a∉fpz:=λw=>(k a w).2.2 i _ hΓ1 Qk;have dj:∀c∈f0,c∉fpz:=λc hc w=>(k c w).2.2 i _ hΓ1 (Qi _ hc);have tn:cN (upd H1 a (.lst (vs++[v]))) (.ref a) (.lst (xs++[z])) (a::(f0++fpz)):=by
  have:=bq.app (tt.loc (H':=upd H1 a (.lst (vs++[v]))) λc hc=>aD λe=>na (e▸hc)) (bq.cons (t.loc (H':=upd H1 a (.lst (vs++[v]))) λc hc=>aD λe=>nz (e▸hc)) .nil);rw[QC] at this;exact .lst aB this (by rw[Qj,QG];exact hz)
 refine dn σ _ R1 _ (E1.mS (en:=.ob (gO (.lst (xs++[z])) (a::(f0++fpz)))) hΓ1 (a:=a) Qk ?_ λb hb=>?_) s1 (h _)
 ·rw[ea];refine⟨⟨_,rfl,tn,QF.mpr ⟨λw=>(Qr.mp w).elim na nz,QO.mpr ⟨nd2,nd,λc hc d w e=>dj c hc (e▸w)⟩⟩⟩,λb hb=>?_⟩;rcases Qq.mp hb with rfl | hb
  ·exact Y3 _ Qk
  ·rcases Qr.mp hb with hb | hb
   ·exact Y3 _ (Qi _ hb)
   ·exact(k b hb).1
 ·rcases Qq.mp hb with rfl | hb
  ·exact .inl Qk
  ·rcases Qr.mp hb with hb | hb
   ·exact .inl (Qi _ hb)
   ·exact .inr ⟨(k b hb).2.1,(k b hb).2.2⟩
theorem Dy {fp:PM}(hΓ:Γ[i]?=some (.ob (gO x fp)))(σ:St)(H0 R0 H R:Hp)(E:au X.K σ H0 R0 H R Γ):au X.K σ H H H H ((Γ.map lJ).set i (.im aq x)):=by
 obtain⟨⟨v,ea,t,_⟩,_⟩:=E.ent i _ hΓ;exact E.WT.jX (i:=i) (e0:=.no) (by rw[Ql,hΓ];rfl) ⟨v,ea,t.qC⟩ λb w=>by cases w
end
abbrev PT:=List PV×Addr×PM
abbrev cL (p:PT):PM:=p.2.1::p.2.2
abbrev d8 (ps:List PT):PM:=ps.flatMap cL
structure kI (H:Hp)(a:Addr)(ps:List PT):Prop where
 hd:H a=some (.lst (ps.map λp=>.ref p.2.1))
 pt:∀(n:Nat)(p:PT),ps[n]?=some p->cN H (.ref p.2.1) (.lst p.1) (cL p)/\(cL p).Nodup/\a∉cL p
 dj:∀(n m:Nat)(p q:PT),ps[n]?=some p->ps[m]?=some q->∀c∈cL p,c∈cL q->n=m
variable {ps:List PT}
theorem bQ {c:Addr}:c∈d8 ps↔∃(n:Nat)(p:PT),ps[n]?=some p/\c∈cL p:=by
 rw[Rj];constructor
 ·rintro⟨p,hp,hc⟩;obtain⟨n,hn⟩:=Qu.mp hp;exact⟨n,p,hn,hc⟩
 ·rintro⟨n,p,hn,hc⟩;exact⟨p,Qm hn,hc⟩
def bu (a:Addr)(ps:List PT):oY where
 fp:=a::d8 ps
 R:=λ_ H _ v=>v= .ref a/\kI H a ps
 loc:=λh _ ⟨e,k⟩=>⟨e,(h _ Qk).trans k.hd,λn p hn=>⟨(k.pt n p hn).1.loc λc hc=>h c (Qi _ (bQ.mpr ⟨n,p,hn,hc⟩)),(k.pt n p hn).2⟩,k.dj⟩
 has:=λ⟨e,k⟩ c hc=>by
  rcases Qq.mp hc with rfl | hc
  ·rw[k.hd];simp
  ·obtain⟨n,p,hn,hc⟩:=bQ.mp hc;exact(k.pt n p hn).1.has c hc
variable {n:Nat}{ys:List PV}{W0:List Stmt}{q0:PT}{tp:Pos}{S:cS}{f:Str}
theorem au.Ff {ZV:List PV}{g g':PM}{ws:List V}(E:au K σ H0 R0 H R Γ)(hΓ:Γ[i]?=some (.ob (bu a ps)))(hn:ps[n]?=some (ys,b,g))(t:cN (L2.upd H b (.lst ws)) (.ref b) (.lst ZV) (b::g'))(nd:(b::g').Nodup)(hg:∀c∈g',c∈g∨(R c=none/\H0 c=none/\Off c σ Γ)):au K σ H0 R0 (L2.upd H b (.lst ws)) R (Γ.set i (.ob (bu a (ps.set n (ZV,b,g'))))):=by
 obtain⟨⟨v,ea,rfl,k⟩,hR⟩:=E.ent i _ hΓ;have nl:n<ps.length:=(Qc.mp hn).1;have bm:b∈d8 ps:=bQ.mpr ⟨n,_,hn,Qk⟩;have ab:a≠b:=λe=>(k.pt n _ hn).2.2 (by rw[e];exact Qk);have sp:∀(m:Nat)(q:PT),(ps.set n (ZV,b,g'))[m]?=some q->(m=n/\q=(ZV,b,g'))∨(m≠n/\ps[m]?=some q):=λm q h=>by
  by_cases e:n=m
  ·subst e;rw[Qp nl] at h;exact .inl ⟨rfl,(Option.some.inj h).symm⟩
  ·rw[QB e] at h;exact .inr ⟨λz=>e z.symm,h⟩
 have old:∀c∈b::g',c∈d8 ps∨(R c=none/\H0 c=none/\Off c σ Γ):=λc hc=>by
  rcases Qq.mp hc with rfl | hc
  ·exact .inl bm
  ·exact(hg c hc).imp (λw=>bQ.mpr ⟨n,_,hn,Qi _ w⟩) id
 have Z5:∀{c:Addr},Off c σ Γ->c∉(a::d8 ps):=λh w=>h i _ hΓ w;have apart:∀(m:Nat)(q:PT),m≠n->ps[m]?=some q->∀c∈b::g',c∉cL q:=λm q hm hq c hc w=>by
  rcases Qq.mp hc with rfl | hc
  ·exact hm (k.dj m n q _ hq hn _ w Qk)
  ·rcases hg c hc with z | z
   ·exact hm (k.dj m n q _ hq hn c w (Qi _ z))
   ·exact Z5 z.2.2 (Qi _ (bQ.mpr ⟨m,q,hq,w⟩))
 refine E.mS (en:=.ob (bu a (ps.set n (ZV,b,g')))) hΓ (a:=b) (Qi _ bm) ⟨⟨.ref a,ea,rfl,?_,λm q hq=>?_,λm1 m2 q1 q2 h1 h2 c c1 c2=>?_⟩,λc hc=>?_⟩ λc hc=>?_
 ·rw[aD ab,k.hd];congr 2;refine Q0 λm=>?_;rw[Ql,Ql];by_cases e:n=m
  ·subst e;rw[Qp nl,hn];rfl
  ·rw[QB e]
 ·rcases sp m q hq with⟨_,rfl⟩ | ⟨hm,hq⟩
  ·refine⟨t,nd,λw=>?_⟩;rcases Qq.mp w with e | w
   ·exact ab e
   ·rcases hg a w with z | z
    ·exact(k.pt n _ hn).2.2 (Qi _ z)
    ·exact Z5 z.2.2 Qk
  ·obtain⟨t1,t2,t3⟩:=k.pt m q hq;exact⟨t1.loc λc hc=>aD λe=>apart m q hm hq b Qk (e▸hc),t2,t3⟩
 ·rcases sp m1 q1 h1 with⟨e1,rfl⟩ | ⟨hm1,h1⟩
  ·rcases sp m2 q2 h2 with⟨e2,rfl⟩ | ⟨XZ,h2⟩
   ·rw[e1,e2]
   ·exact VO c2 (apart m2 q2 XZ h2 c c1)
  ·rcases sp m2 q2 h2 with⟨e2,rfl⟩ | ⟨XZ,h2⟩
   ·exact VO c1 (apart m1 q1 hm1 h1 c c2)
   ·exact k.dj m1 m2 q1 q2 h1 h2 c c1 c2
 ·rcases Qq.mp hc with rfl | hc
  ·exact hR _ Qk
  ·obtain⟨m,q,hq,hc⟩:=bQ.mp hc;rcases sp m q hq with⟨_,rfl⟩ | ⟨_,hq⟩
   ·rcases old c hc with z | z
    ·exact hR _ (Qi _ z)
    ·exact z.1
   ·exact hR _ (Qi _ (bQ.mpr ⟨m,q,hq,hc⟩))
 ·rcases Qq.mp hc with rfl | hc
  ·exact .inl Qk
  ·obtain⟨m,q,hq,hc⟩:=bQ.mp hc;rcases sp m q hq with⟨_,rfl⟩ | ⟨_,hq⟩
   ·exact(old c hc).imp (λw=>Qi _ w) λz=>z.2
   ·exact .inl (Qi _ (bQ.mpr ⟨m,q,hq,hc⟩))
theorem WS.ME (i:Nat)(hΓ:Γ[i]?=some (.mu r []))(h:∀a,WS X W0 (Γ.set i (.ob (bu a []))) N T):WS X W0 Γ N T:=λσ H0 R0 H R E D dn dr=>by
 obtain⟨a,vs,ea,ha,hR,pp⟩:=E.ent i _ hΓ;cases pp
 refine h a σ H0 R0 H R (E.tell hΓ (by rw[ea];exact⟨⟨_,rfl,rfl,ha,(λn p q=>by simp at q),(λn m p q h1=>by simp at h1)⟩,λb hb=>by rw[Qe.mp hb];exact hR⟩) λb w=>?_) D dn dr;have:b=a:=Qe.mp w;rw[this];exact cf.mpr ea
theorem Hg (i:Nat)(he:jA X e Γ (.lst ys) Γ1)(hΓ:Γ[i]?=some (.ob (bu a ps)))(hΓ1:Γ1[i]?=some (.ob (bu a ps)))(hz:ps.length<S8)(h:∀b g,N (Γ1.set i (.ob (bu a (ps++[(ys,b,g)])))))(hN:autoParam (At X i x) cg)(WJ:Tf (.Call (.Attribute (.Name x p1) "append" ap) [e] [] cp) none pos.line X.env=pure false:=by rfl)(V7:fD X (.Name x p1) "append":=by rfl)(Wj:nF X cp [e]:=by rfl)(V6:(ap.endLine==cp.line)=true:=by rfl)(hs:du X e []:=by rfl):W1 X (.Expr (.Call (.Attribute (.Name x p1) "append" ap) [e] [] cp) pos) Γ N T:=λσ H0 R0 H R E D dn dr=>by
 obtain⟨⟨v0,ea,rfl,k0⟩,_⟩:=E.ent i _ hΓ;refine sS (d9 (iY UW UX UY jG (aV hN) (aH aK bo hs) V7 Wj V6 hs rfl) WJ) ?_;refine⟨.ref a,at_of ea,.inl ⟨rfl,_,bt.of k0.hd⟩,he σ H0 R0 H R E _ λv fpz H1 R1 E1 s1 t nd kz=>?_⟩;obtain⟨⟨v1,ea1,rfl,k⟩,Y3⟩:=E1.ent i _ hΓ1;cases t with
 | @lst b vs _ g hb tt zz=>
 refine⟨a,_,.ref b,rfl,rfl,k.hd,by rw[Qg];exact hz,?_⟩;have off:∀c∈b::g,c∉(a::d8 ps):=λc hc w=>(kz c hc).2.2 i _ hΓ1 w;have sp:∀(m:Nat)(q:PT),(ps++[(ys,b,g)])[m]?=some q->(m=ps.length/\q=(ys,b,g))∨(m<ps.length/\ps[m]?=some q):=λm q hq=>by
  rcases Sm m ps.length with z | z
  ·rw[QI z] at hq;exact .inr ⟨z,hq⟩
  ·rw[QE z] at hq;have:m-ps.length=0:=by
    have:=(Qc.mp hq).1;rw[QG] at this;omega
   rw[this] at hq;exact .inl ⟨by omega,by simpa using hq.symm⟩
 have tb:cN (upd H1 a (.lst ((ps.map λp=>V.ref p.2.1)++[.ref b]))) (.ref b) (.lst ys) (b::g):=(cN.lst hb tt zz).loc λc hc=>aD λe=>off c hc (by rw[e];exact Qk);refine dn σ _ R1 _ (E1.mS (en:=.ob (bu a (ps++[(ys,b,g)]))) hΓ1 (a:=a) Qk ⟨⟨.ref a,ea1,rfl,?_,λm q hq=>?_,λm1 m2 q1 q2 h1 h2 c c1 c2=>?_⟩,λc hc=>?_⟩ λc hc=>?_) s1 (h b g)
 ·rw[aB,Qv];rfl
 ·rcases sp m q hq with⟨_,rfl⟩ | ⟨_,hq⟩
  ·exact⟨tb,nd,λw=>off a w Qk⟩
  ·obtain⟨t1,t2,t3⟩:=k.pt m q hq;exact⟨t1.loc λc hc=>aD λe=>t3 (e▸hc),t2,t3⟩
 ·rcases sp m1 q1 h1 with⟨e1,rfl⟩ | ⟨_,h1⟩
  ·rcases sp m2 q2 h2 with⟨e2,rfl⟩ | ⟨_,h2⟩
   ·rw[e1,e2]
   ·exact VO (Qi _ (bQ.mpr ⟨m2,q2,h2,c2⟩)) (off c c1)
  ·rcases sp m2 q2 h2 with⟨e2,rfl⟩ | ⟨_,h2⟩
   ·exact VO (Qi _ (bQ.mpr ⟨m1,q1,h1,c1⟩)) (off c c2)
   ·exact k.dj m1 m2 q1 q2 h1 h2 c c1 c2
 ·rcases Qq.mp hc with rfl | hc
  ·exact Y3 _ Qk
  ·obtain⟨m,q,hq,hc⟩:=bQ.mp hc;rcases sp m q hq with⟨_,rfl⟩ | ⟨_,hq⟩
   ·exact(kz c hc).1
   ·exact Y3 _ (Qi _ (bQ.mpr ⟨m,q,hq,hc⟩))
 ·rcases Qq.mp hc with rfl | hc
  ·exact .inl Qk
  ·obtain⟨m,q,hq,hc⟩:=bQ.mp hc;rcases sp m q hq with⟨_,rfl⟩ | ⟨_,hq⟩
   ·exact .inr (kz c hc).2
   ·exact .inl (Qi _ (bQ.mpr ⟨m,q,hq,hc⟩))
theorem AM (i j:Nat){b:Expr}{p:Pos}{k:Int}{q:PT}(hb:EV X b Γ ag k Γ1)(hΓ:Γ[i]?=some (.ob (bu a ps)))(hΓ1:Γ1[i]?=some (.ob (bu a ps)))(hk:ij ps.length k=some n)(hq:ps[n]?=some q)(h:N (Γ1.set j (.im dv q.2.1)))(hNx:autoParam (At X i x) cg)(hsx:eL b:=by exact λ_ _=>rfl)(hN:X.N.Nodup:=by first | assumption | decide)(hi:X.N[j]?=some y:=by rfl)(hx:autoParam (Loc X.env.scope y) Xe)(hs:Tf (.Subscript (.Name x p) b p2) (some (.Name y p1)) pos.line X.env=pure false:=by rfl)(hf:autoParam (fQ X y) Xd):
 W1 X (.Assign [.Name y p1] (.Subscript (.Name x p) b p2) pos) Γ N T:=λσ H0 R0 H R E D dn dr=>by
 obtain⟨⟨v,ea,rfl,k0⟩,hR⟩:=E.ent i _ hΓ;refine sS (iT hN hi hx aK hs hf) (eS (gG iz (aV hNx) aK hsx) ⟨.ref a,at_of ea,hb σ H0 R0 H R E _ λu H2 R2 E2 s2 e2=>?_⟩);obtain⟨⟨v,ea2,rfl,k2⟩,Y2⟩:=E2.ent i _ hΓ1;refine⟨a,_,k,.ref q.2.1,rfl,e2,bt.of k2.hd,?_,?_⟩
 ·have e:(ps.map λp=>V.ref p.2.1)=(ps.map λp=>p.2.1).map V.ref:=by rw[QY];rfl
  rw[e];exact JA (by rw[Qg];exact hk) (by rw[Ql,hq];rfl)
 exact dn _ H2 R2 _ (E2.set j (r:=dv) (x:=q.2.1) rfl) s2 h
theorem Ct (i j:Nat){p:Pos}(hm:X.mg "len"=none)(hΓ:Γ[i]?=some (.ob (bu a ps)))(hj:Γ[j]?=some (.im dv q0.2.1))(hq:ps[n]?=some q0)(hN:autoParam (At X j y) cg)(hs:fK X (.Name y p1):=by rfl)(hg:Gl X "len":=by rfl):EV X (.Call (.Name "len" p) [.Name y p1] [] pos) Γ ag (q0.1.length:Int) Γ:=λσ H0 R0 H R E Q q=>by
 obtain⟨⟨v,ea,rfl,k⟩,hR⟩:=E.ent i _ hΓ;obtain⟨v0,e0,Xw⟩:=E.ent j _ hj;cases Xw
 cases (k.pt n q0 hq).1 with
 | @lst _ vs _ _ hb tt zz=>
 refine eS (ee fH hg hm Tu (aH (aV hN) bo hs) (by decide) (by decide) hs) ⟨.ref q0.2.1,at_of e0,_,_,rfl,.inl (bt.of hb),?_⟩;rw[tt.len];exact q _ H R E (aw.refl _) rfl
theorem bq.ins {H:Hp}{v:V}{y:PV}{fy:PM}(h:cN H v y fy):∀(k:Nat){vs:List V}{xs:List PV}{f:PM},bq H vs xs f->∃f1 f2,f=f1++f2/\bq H (cq k v vs) (cq k y xs) (f1++(fy++f2))
 | 0,vs,xs,f,t=>⟨[],f,rfl,(bq.cons h t:bq H (v::vs) (y::xs) (fy++f))⟩
 | k+1,_,_,_,.nil=>⟨[],[],rfl,(bq.cons h .nil:bq H [v] [y] (fy++[]))⟩
 | k+1,_,_,_,.cons (f:=f0) q t=>by
   obtain⟨f1,f2,e,t'⟩:=bq.ins h k t;refine⟨f0++f1,f2,by rw[e,Qy],?_⟩;rw[Qy];exact .cons q t'
theorem lC {α:Type}(y:α):∀(k:Nat)(xs:List α),(cq k y xs).length=xs.length+1
 | 0,xs=>rfl
 | k+1,[]=>rfl
 | k+1,x::xs=>by show(cq k y xs).length+1=_;rw[lC y k xs];rfl
theorem GV (i j:Nat){e1 e2:Expr}{y:PV}{k:Int}(h1:EV X e1 Γ ag k Γ1)(h2:jA X e2 Γ1 y Γ2)(hΓ:Γ[i]?=some (.ob (bu a ps)))(hj:Γ[j]?=some (.im dv q0.2.1))(hq:ps[n]?=some q0)(hΓ2:Γ2[i]?=some (.ob (bu a ps)))(k0:0<=k)(k1:k<=(q0.1.length:Int))(hz:q0.1.length<S8)(h:∀g,N (Γ2.set i (.ob (bu a (ps.set n (cq k.toNat y q0.1,q0.2.1,g))))))(hN:autoParam (At X j x) cg)(WJ:Tf (.Call (.Attribute (.Name x p1) "insert" ap) [e1,e2] [] cp) none pos.line X.env=pure false:=by rfl)(V7:fD X (.Name x p1) "insert":=by rfl)(Wj:nF X cp [e1,e2]:=by rfl)(V6:(ap.endLine==cp.line)=true:=by rfl)(hs:Td [e1,e2] X.env=(false,eval e1 X.env)::Td [e2] X.env:=by rfl)(Wv:du X e2 []:=by rfl)(Wg:fm X cp [e2]:=by rfl):
 W1 X (.Expr (.Call (.Attribute (.Name x p1) "insert" ap) [e1,e2] [] cp) pos) Γ N T:=λσ H0 R0 H R E D dn dr=>by
 obtain⟨⟨v,ea,rfl,kk⟩,hR⟩:=E.ent i _ hΓ;obtain⟨v0,e0,Xw⟩:=E.ent j _ hj;cases Xw
 obtain⟨ys,b,g⟩:=q0;cases (kk.pt n _ hq).1 with
 | @lst _ ZX _ _ hb0 tt0 zz0=>
 refine sS (d9 (iY UW PySem.F.slot_list_insert PySem.F.type_list_insert AU (aV hN) (aH aK (aH aK bo Wv) hs) V7 Wj V6 hs Wg) WJ) ?_;refine⟨.ref b,at_of e0,.inl ⟨rfl,_,bt.of hb0⟩,h1 σ H0 R0 H R E _ λv1 H1 R1 E1 s1 r1=>h2 σ H0 R0 H1 R1 E1 _ λv2 fy H2 R2 E2 s2 t2 ndy ky=>?_⟩;cases r1
 obtain⟨⟨v,ea2,rfl,k2⟩,Y2⟩:=E2.ent i _ hΓ2;obtain⟨tq,ndq,naq⟩:=k2.pt n _ hq;cases tq with
 | @lst _ vs _ _ hb tt zz=>
 obtain⟨nb,ndg⟩:=QF.mp ndq;refine⟨b,vs,k,v2,rfl,rfl,hb,k0,by rw[tt.len];exact k1,by rw[tt.len];exact hz,?_⟩;have Yx:∀c∈fy,c∉b::g:=λc hc w=>(ky c hc).2.2 i _ hΓ2 (Qi _ (bQ.mpr ⟨n,_,hq,w⟩));obtain⟨f1,f2,ef,ti⟩:=bq.ins (t2.loc (H':=upd H2 b (.lst (cq k.toNat v2 vs))) λc hc=>aD λe=>Yx c hc (by rw[e];exact Qk)) k.toNat (tt.loc (H':=upd H2 b (.lst (cq k.toNat v2 vs))) λc hc=>aD λe=>nb (e▸hc));have ef:g=f1++f2:=ef;have nd':(f1++(fy++f2)).Nodup:=by
  rw[ef] at ndg;obtain⟨n1,n2,n3⟩:=QO.mp ndg;refine QO.mpr ⟨n1,QO.mpr ⟨ndy,n2,λc hc d W8 e=>Yx c hc (by rw[e];exact Qi _ (by rw[ef];exact Qn _ W8))⟩,λc hc d W8 e=>?_⟩;rcases Qr.mp W8 with W8 | W8
  ·exact Yx d W8 (by rw[← e];exact Qi _ (by rw[ef];exact Qs _ hc))
  ·exact n3 c hc d W8 e
 refine dn σ _ R2 _ (E2.Ff hΓ2 hq (.lst aB ti (by rw[lC];exact hz)) (QF.mpr ⟨λw=>?_,nd'⟩) λc hc=>?_) (s1.trans s2) (h _)
 ·rcases Qr.mp w with w | w
  ·exact nb (by show b∈g;rw[ef];exact Qs _ w)
  ·rcases Qr.mp w with w | w
   ·exact Yx b w Qk
   ·exact nb (by show b∈g;rw[ef];exact Qn _ w)
 ·rcases Qr.mp hc with w | w
  ·exact .inl (by rw[ef];exact Qs _ w)
  ·rcases Qr.mp w with w | w
   ·exact .inr (ky c w)
   ·exact .inl (by rw[ef];exact Qn _ w)
theorem uI {H:Hp}{K:Vr}:∀{ps:List PT},(∀p∈ps,cN H (.ref p.2.1) (.lst p.1) (cL p))->PySem.Paired ((ae aq).R K H) (ps.map λp=>V.ref p.2.1) (ps.map (·.1))
 | [],_=>.nil
 | p::ps,h=>.cons (by
    cases h p Qk with
    | @lst _ vs _ _ hb tt zz=>exact⟨_,vs,rfl,hb,tt.qC.pair,zz⟩) (uI λq hq=>h q (Qi _ hq))
theorem MH (hΓ:Γ[i]?=some (.ob (bu a ps)))(hz:ps.length<=S8)(σ:St)(H0 R0 H R:Hp)(E:au X.K σ H0 R0 H R Γ):au X.K σ H H H H ((Γ.map lJ).set i (.im (ae (ae aq)) (ps.map (·.1)))):=by
 obtain⟨⟨v,ea,rfl,k⟩,_⟩:=E.ent i _ hΓ;refine E.WT.jX (i:=i) (e0:=.no) (by rw[Ql,hΓ];rfl) ⟨_,ea,a,_,rfl,k.hd,uI λp hp=>?_,by rw[Qg];exact hz⟩ λb w=>by cases w
 obtain⟨n,hn⟩:=Qu.mp hp;exact(k.pt n p hn).1
def Eh (K:Vr)(r:Rep α)(P:α->List (List PV)->Prop):RT:=λH0 v H' R'=>∃p v1 a y ps,v= .ref p/\R' p=some (.tup [v1,.ref a])/\r.R K R' v1 y/\kI H' a ps/\(∀b∈a::d8 ps,H0 b=none/\R' b=none)/\P y (ps.map (·.1))
theorem GJ (i:Nat){z:Str}{k:Nat}{y:α}{P:α->List (List PV)->Prop}(he:EV X e Γ r y Γ1)(hΓ1:Γ1[i]?=some (.ob (bu a ps)))(h:P y (ps.map (·.1)))(hN:autoParam (At X i z) cg)(h1:Td [e,.Name z p1] X.env=(false,eval e X.env)::Td [.Name z p1] X.env:=by rfl)(h2:du X (.Name z p1) []:=by rfl):W1 X (.Return (some (.Tuple [e,.Name z p1] k tp)) pos) Γ N (Eh X.K r P):=λσ H0 R0 H R E D dn dr=>by
 refine sS (kQ (qw (aH aK (aH (aV hN) bo h2) h1))) (he σ H0 R0 H R E _ λv H1 R1 E1 s1 e1=>?_);obtain⟨⟨v0,ea,rfl,kk⟩,hR⟩:=E1.ent i _ hΓ1;refine⟨.ref a,at_of ea,by show 2<=S8;decide,λp hp=>?_⟩;have x:=Ext.fresh E1.sub hp (.tup [v,.ref a]);have E2:=E1.grow x;have nep:∀b∈a::d8 ps,b≠p:=λb hb e=>by
  have:=(bu a ps).has (K:=X.K) (R0:=R1) ⟨rfl,kk⟩ b hb;rw[e,hp] at this;exact this rfl
 refine dr _ _ _ E2.ext ⟨p,v,a,y,ps,rfl,aB,r.mono x.r e1,?_,λb hb=>⟨E1.nw i _ b hΓ1 hb,?_⟩,h⟩
 ·exact((bu a ps).loc (K:=X.K) (R0:=R1) (R':=R1) (λb hb=>aD (nep b hb)) (aw.refl _) ⟨rfl,kk⟩).2
 ·rw[aD (nep b hb)];exact hR b hb
theorem FF (i1 i2:Nat){x1 x2:Str}{k:Nat}{p:Pos}{ps:List Pk}{P:α->List (List PV)->Prop}(C:aE X.prog X.w X.K X.mg X.base f n (aM S X.K))(hr:bG n X.A)(ha:HA X (e::es) Γ ps Γ1)(hS:S X.K ps (Eh X.K r P))(Wx:i1≠i2)(h:∀a y qs,P y (qs.map (·.1))->N ((Γ1.set i1 (.im r y)).set i2 (.ob (bu a qs))))(hg:Gl X f:=by rfl)(Wu:WW f:=by decide)(he:du X e es:=by rfl)(Wg:fm X cp es:=by rfl)(hc:X.calm=true:=by rfl)(hN:X.N.Nodup:=by first | assumption | decide)(h1:X.N[i1]?=some x1:=by rfl)(l1:autoParam (Loc X.env.scope x1) Xe)(f1:autoParam (fQ X x1) Xd)(h2:X.N[i2]?=some x2:=by rfl)(l2:autoParam (Loc X.env.scope x2) Xe)(f2:autoParam (fQ X x2) Xd)(hs:Uj [.Tuple [.Name x1 p1,.Name x2 p2] k tp] (.Call (.Name f p) (e::es) [] cp) pos.line X.env=pure false:=by rfl)(hw:Uk [.Tuple [.Name x1 p1,.Name x2 p2] k tp] (.Call (.Name f p) (e::es) [] cp) X.env=pure none:=by rfl)(ho:(TQ [.Tuple [.Name x1 p1,.Name x2 p2] k tp] X.env).map (·.2)=[TU (.Tuple [.Name x1 p1,.Name x2 p2] k tp) X.env]:=by rfl):W1 X (.Assign [.Tuple [.Name x1 p1,.Name x2 p2] k tp] (.Call (.Name f p) (e::es) [] cp) pos) Γ N T:=λσ H0 R0 H R E D dn dr=>by
 refine sS (vj aK (xf hc (fX (gg hN h1 l1 f1) (fX (gg hN h2 l2 f2) rP))) hs hw ho) ?_;refine nv C hr ha hS E (λH1 R1 v H' R' E1 s1 xx t=>?_) hg Wu he Wg;obtain⟨q,v1,a,y,qs,rfl,hq,r1,kk,fr,hP⟩:=t;have E2:=E1.grow xx;refine⟨q,_,rfl,dR.of (E2.sub _ _ hq),rfl,_,_,rfl,_,_,rfl,rfl,?_⟩;refine dn _ H' R' _ (au.setG (E2.set i1 (r:=r) r1) i2 (en:=.ob (bu a qs)) ⟨⟨_,rfl,rfl,kk⟩,λb hb=>(fr b hb).2⟩ (λb hb=>E1.ext.h.free (fr b hb).1) λb hb j e hj qj w=>?_) (s1.trans xx.r) (h a y qs hP);rcases set_at qj with⟨rfl,rfl,_⟩ | ⟨hj1,q1⟩
 ·cases w
 ·rw[QB (SN hj1)] at w;exact E1.off (fr b hb).1 j e q1 w
theorem yK:∀{ps:List PT},(d8 ps).Nodup->(∀(n:Nat)(p:PT),ps[n]?=some p->(cL p).Nodup)/\∀(n m:Nat)(p q:PT),ps[n]?=some p->ps[m]?=some q->∀c∈cL p,c∈cL q->n=m
 | [],_=>⟨λn p h=>by simp at h,λn m p q h=>by simp at h⟩
 | r::ps,h=>by
   rw[show d8 (r::ps)=cL r++d8 ps from Q1] at h;obtain⟨h1,h2,h3⟩:=QO.mp h;obtain⟨i1,i2⟩:=yK h2;refine⟨λn p hn=>?_,λn m p q hn hm c hc hd=>?_⟩
   ·cases n with
    | zero=>have:r=p:=by simpa using hn
            rw[← this];exact h1
    | succ n=>exact i1 n p (by simpa using hn)
   ·cases n with
    | zero=>
      have e1:r=p:=by simpa using hn
      cases m with
      | zero=>rfl
      | succ m=>exact VO rfl (h3 c (e1▸hc) c (bQ.mpr ⟨m,q,by simpa using hm,hd⟩))
    | succ n=>cases m with
      | zero=>
        have e1:r=q:=by simpa using hm
        exact VO rfl (h3 c (e1▸hd) c (bQ.mpr ⟨n,p,by simpa using hn,hc⟩))
      | succ m=>rw[i2 n m p q (by simpa using hn) (by simpa using hm) c hc hd]
theorem yu:∀{ps:List PT},(∀(n:Nat)(p:PT),ps[n]?=some p->(cL p).Nodup)->(∀(n m:Nat)(p q:PT),ps[n]?=some p->ps[m]?=some q->∀c∈cL p,c∈cL q->n=m)->(d8 ps).Nodup
 | [],_,_=>RC
 | r::ps,h,k=>by
   rw[show d8 (r::ps)=cL r++d8 ps from Q1];refine QO.mpr ⟨h 0 r rfl,yu (λn p hn=>h (n+1) p (by simpa using hn)) λn m p q hn hm c hc hd=>?_,λc hc d hd e=>?_⟩
   ·have:=k (n+1) (m+1) p q (by simpa using hn) (by simpa using hm) c hc hd;omega
   ·subst e;obtain⟨n,p,hn,hp⟩:=bQ.mp hd;exact VO (k 0 (n+1) r p rfl (by simpa using hn) c hc hp) (by omega)
theorem bq.parts:∀{vs:List V}{ZD:List (List PV)}{g:PM},bq H vs (ZD.map PV.lst) g->∃ps:List PT,vs=(ps.map λp=>.ref p.2.1)/\ps.map (·.1)=ZD/\g=d8 ps/\∀p∈ps,cN H (.ref p.2.1) (.lst p.1) (cL p)
 | _,[],_,.nil=>⟨[],rfl,rfl,rfl,λp h=>by cases h⟩
 | _,xs::ZD,_,.cons q t=>by
   obtain⟨ps,h1,h2,h3,h4⟩:=bq.parts t;cases q with
   | @lst b vs _ f hb tt zz=>
   refine⟨(xs,b,f)::ps,by rw[h1];rfl,by rw[QJ,h2],by rw[h3];rfl,λp hp=>?_⟩;rcases Qq.mp hp with rfl | hp
   ·exact .lst hb tt zz
   ·exact h4 p hp
theorem yj {H:Hp}:∀{ps:List PT},(∀p∈ps,cN H (.ref p.2.1) (.lst p.1) (cL p))->bq H (ps.map λp=>.ref p.2.1) ((ps.map (·.1)).map PV.lst) (d8 ps)
 | [],_=>.nil
 | p::ps,h=>bq.cons (h p Qk) (yj λq hq=>h q (Qi _ hq))
theorem cN.pl {ZD:List (List PV)}{g:PM}(h:cN H (.ref b) (.lst (ZD.map PV.lst)) (b::g))(nd:(b::g).Nodup):∃ps:List PT,kI H b ps/\ps.map (·.1)=ZD/\g=d8 ps:=by
 cases h with
 | @lst _ vs _ _ hb tt zz=>
 obtain⟨ps,h1,h2,h3,h4⟩:=tt.parts;obtain⟨n1,n2⟩:=QF.mp nd;rw[h3] at n1 n2;obtain⟨k1,k2⟩:=yK n2;exact⟨ps,⟨by rw[hb,h1],λn p hn=>⟨h4 p (Qm hn),k1 n p hn,λw=>n1 (bQ.mpr ⟨n,p,hn,w⟩)⟩,k2⟩,h2,h3⟩
theorem kI.tpv (h:kI H b ps)(hz:ps.length<=S8):cN H (.ref b) (.lst ((ps.map (·.1)).map PV.lst)) (b::d8 ps)/\(b::d8 ps).Nodup:=by
 refine⟨.lst h.hd (yj λp hp=>?_) (by rw[Qg,Qg];exact hz),QF.mpr ⟨λw=>?_,yu (λn p hn=>(h.pt n p hn).2.1) h.dj⟩⟩
 ·obtain⟨n,hn⟩:=Qu.mp hp;exact(h.pt n p hn).1
 ·obtain⟨n,p,hn,hp⟩:=bQ.mp w;exact(h.pt n p hn).2.2 hp
theorem bq.sub:∀{vs:List V}{xs:List PV}{f:PM}{m:Nat}{zs:List PV},bq H vs xs f->xs[m]?=some (.lst zs)->∃b g f1 f2,vs[m]?=some (.ref b)/\f=f1++((b::g)++f2)/\cN H (.ref b) (.lst zs) (b::g)/\∀(H':Hp)(ZU:List PV),(∀d∈f1++f2,H' d=H d)->cN H' (.ref b) (.lst ZU) (b::g)->bq H' vs (xs.set m (.lst ZU)) f
 | _,_,_,m,zs,.nil,h=>by simp at h
 | _,_,_,0,zs,.cons (x:=x0) (f:=f) (g:=g) (vs:=vs) (xs:=xs) q t,h=>by
   have e:x0=PV.lst zs:=by simpa using h
   subst e;cases q with
   | @lst b ws _ f hb tt zz=>
   refine⟨b,f,[],g,rfl,rfl,.lst hb tt zz,λH' ZU hk tn=>?_⟩;exact bq.cons tn (t.loc λd hd=>hk d hd)
 | _,_,_,m+1,zs,.cons (f:=f) (g:=g) (vs:=vs) (xs:=xs) q t,h=>by
   obtain⟨b,g',f1,f2,h1,h2,h3,h4⟩:=bq.sub (m:=m) t (by simpa using h);refine⟨b,g',f++f1,f2,by simpa using h1,by rw[h2,Qy],h3,λH' ZU hk tn=>?_⟩;rw[List.set_cons_succ];exact bq.cons (q.loc λd hd=>hk d (Qs _ (Qs _ hd))) (h4 H' ZU (λd hd=>hk d (by
    rcases Qr.mp hd with w | w
    ·exact Qs _ (Qn _ w)
    ·exact Qn _ w)) tn)
variable {D:PM}{tg:Expr}
theorem au.K3 {R':Hp}{l:Nat}{B B' C C':oY}(E:au K σ H0 R0 H R Γ)(YG:i≠l)(hi:Γ[i]?=some (.ob B))(hl:Γ[l]?=some (.ob C))(hD:∀d∈D,d∈B.fp∨d∈C.fp)(x:Ext (fW H D) R H' R')(hB:(Ent.ob B').ok K H' R' (σ[i]?).join)(hC:(Ent.ob C').ok K H' R' (σ[l]?).join)(fB:∀b∈B'.fp,b∈B.fp)(fC:∀b∈C'.fp,b∈C.fp):au K σ H0 R0 H' R' ((Γ.set i (.ob B')).set l (.ob C')):=by
 have out:∀{b:Addr},H0 b≠none->b∉D:=λ{b} h e=>(hD b e).elim (λw=>h (E.nw i _ b hi w)) λw=>h (E.nw l _ b hl w);have apart:∀(j:Nat)(e:Ent),j≠i->j≠l->Γ[j]?=some e->∀b∈e.fp (σ[j]?).join,b∉D:=λj e hj ZP qj b hb w=>(hD b w).elim (λz=>hj (E.ds j i e _ b qj hi hb z)) λz=>ZP (E.ds j l e _ b qj hl hb z);have key:∀(j:Nat)(e:Ent),((Γ.set i (.ob B')).set l (.ob C'))[j]?=some e->(j=l/\e= .ob C')∨(j=i/\e= .ob B')∨(j≠i/\j≠l/\Γ[j]?=some e):=λj e q=>by
  rcases set_at q with⟨rfl,rfl,_⟩ | ⟨hj,q1⟩
  ·exact .inl ⟨rfl,rfl⟩
  ·rcases set_at q1 with⟨rfl,rfl,_⟩ | ⟨ZP,q2⟩
   ·exact .inr (.inl ⟨rfl,rfl⟩)
   ·exact .inr (.inr ⟨ZP,hj,q2⟩)
 have own:∀(j:Nat)(e:Ent),((Γ.set i (.ob B')).set l (.ob C'))[j]?=some e->∃e0,Γ[j]?=some e0/\∀b∈e.fp (σ[j]?).join,b∈e0.fp (σ[j]?).join:=λj e q=>by
  rcases key j e q with⟨rfl,rfl⟩ | ⟨rfl,rfl⟩ | ⟨_,_,q1⟩
  ·exact⟨_,hl,fC⟩
  ·exact⟨_,hi,fB⟩
  ·exact⟨e,q1,λb hb=>hb⟩
 refine⟨⟨λb o q=>?_,E.ext.r.trans x.r,x.s,λb hb=>?_⟩,λj e q=>?_,λj e b q w=>?_,λj k e e' b q q' w w'=>?_,by rw[QV,QV];exact E.len⟩
 ·exact x.h b o (by rw[eh (out (by rw[q];exact SQ _))];exact E.ext.h b o q)
 ·refine(x.old b ?_).trans (E.ext.old b hb);rw[eh (out hb)];exact aw.some E.ext.h hb
 ·rcases key j e q with⟨rfl,rfl⟩ | ⟨rfl,rfl⟩ | ⟨hj,ZP,q1⟩
  ·exact hC
  ·exact hB
  ·have h1:=E.ent j e q1;refine h1.loc (λb hb=>?_) x.r λb hb=>?_
   ·cases e2:H b with
    | none=>exact VO e2 (Ent.fE h1 hb).1
    | some u=>exact x.h b u (by rw[eh (apart j e hj ZP q1 b hb)];exact e2)
   ·exact(x.old b (by rw[eh (apart j e hj ZP q1 b hb)];exact(Ent.fE h1 hb).1)).trans (Ent.fE h1 hb).2
 ·obtain⟨e0,q0,s0⟩:=own j e q;exact E.nw j e0 b q0 (s0 b w)
 ·obtain⟨e0,q0,s0⟩:=own j e q;obtain⟨e1,q1,s1⟩:=own k e' q';exact E.ds j k e0 e1 b q0 q1 (s0 b w) (s1 b w')
theorem yf (i:Nat){body:List Stmt}{bf:Addr->Ga->Ga}(I:Nat->Ga->Prop)(hΓ:Γ[i]?=some (.ob (bu a ps)))(hb:BG X tg dv bf)(h0:I 0 Γ)(hI:∀k Γ,I k Γ->∃qs:List PT,Γ[i]?=some (.ob (bu a qs))/\qs.map (·.2)=ps.map (·.2))(WN:∀(k:Nat)(p:PT)(Γ:Ga),ps[k]?=some p->I k Γ->WS X body (bf p.2.1 Γ) (I (k+1)) T)(W2:∀Γ:Ga,I ps.length Γ->N Γ)(hN:autoParam (At X i x) cg)(hc:X.calm=true:=by rfl)(hp:Ut (model X.prog X.w) X.A X.env X.xe:=by exact Ut.never)(hs:∀y,Ts (.Name x p1) X.env y=pure y:=by intro _;rfl):W1 X (.For tg (.Name x p1) body [] pos) Γ N T:=λσ H0 R0 H R E D dn dr=>by
 obtain⟨⟨v,ea,rfl,k0⟩,hR⟩:=E.ent i _ hΓ;have roots:∀qs:List PT,qs.map (·.2)=ps.map (·.2)->(qs.map λp=>V.ref p.2.1)=ps.map λp=>V.ref p.2.1:=λqs h=>by
  have:=congrArg (List.map λz:Addr×PM=>V.ref z.1) h;rwa [QY,QY] at this
 refine sS (A2 hp hc (yH (aV hN)) Nk jq hs) ⟨.ref a,at_of ea,a,rfl,⟨_,bt.of k0.hd⟩,?_⟩;refine⟨λk m σ' H'=>m=ps.length-k/\k<=ps.length/\∃R' Γ',au X.K σ' H0 R0 H' R' Γ'/\aw R R'/\I k Γ',⟨_,rfl,Si _,R,Γ,E,aw.refl _,h0⟩,?_⟩;rintro k m σ' H' ⟨rfl,hle,R',Γ',E',s',hIk⟩;obtain⟨qs,hy,hqs⟩:=hI k Γ' hIk;obtain⟨⟨v,Wy,rfl,k1⟩,_⟩:=E'.ent i _ hy;have WX:H' a=some (.lst (ps.map λp=>.ref p.2.1)):=by rw[k1.hd,roots qs hqs]
 by_cases W5:k<ps.length
 ·have hk:(ps.map λp=>V.ref p.2.1)[k]?=some (.ref ps[k].2.1):=by rw[Ql,Qd W5];rfl
  refine .inr ⟨⟨_,_,bt.of WX,hk⟩,λσ' H'=>k+1<=ps.length/\∃R' Γ',au X.K σ' H0 R0 H' R' Γ'/\aw R R'/\I (k+1) Γ',λσ2 H2 h=>⟨ps.length-(k+1),by omega,rfl,h.1,h.2⟩,λv H2 YA=>?_⟩;obtain⟨rfl,YA⟩:=YA;have:=YA _ (bt.of WX);rw[hk] at this;cases this
  refine hb σ' H0 R0 H2 R' Γ' _ ps[k].2.1 E' rfl _ λσ2 E2=>?_;exact WN k ps[k] Γ' (Qd W5) hIk σ2 H0 R0 H2 R' E2 _ (λσ3 H3 R3 Γ3 E3 s3 h3=>⟨W5,R3,Γ3,E3,s'.trans s3,h3⟩) dr
 ·have e:k=ps.length:=by omega
  subst e;exact .inl ⟨⟨_,bt.of WX,by rw[Qg];exact Sg _⟩,dn σ' H' R' Γ' E' s' (W2 Γ' hIk)⟩
theorem bq.at_ {H:Hp}:∀{vs:List V}{xs:List PV}{f:PM}{m:Nat}{y:PV},bq H vs xs f->xs[m]?=some y->∃v g,vs[m]?=some v/\cN H v y g
 | _,_,_,m,y,.nil,h=>by simp at h
 | _,_,_,0,y,.cons (x:=x0) q t,h=>by
   have e:x0=y:=by simpa using h
   exact⟨_,_,rfl,e▸q⟩
 | _,_,_,m+1,y,.cons q t,h=>by
   obtain⟨v,g,h1,h2⟩:=bq.at_ (m:=m) t (by simpa using h);exact⟨v,g,by simpa using h1,h2⟩
theorem nQ (i j:Nat){jc:Nat}{m:Nat}{y:PV}(hΓ:Γ[i]?=some (.ob (bu a ps)))(hj:Γ[j]?=some (.im dv q0.2.1))(hq:ps[n]?=some q0)(hy:q0.1[m]?=some y)(hl:jW y=true)(hN:autoParam (At X j x) cg)(hs:eL (.Constant (.int (m:Int)) jc p2):=by exact λ_ _=>rfl):EV X (.Subscript (.Name x p1) (.Constant (.int (m:Int)) jc p2) pos) Γ aq y Γ:=λσ H0 R0 H R E Q q=>by
 obtain⟨⟨v,ea,rfl,k⟩,hR⟩:=E.ent i _ hΓ;obtain⟨v0,e0,Xw⟩:=E.ent j _ hj;cases Xw
 cases (k.pt n q0 hq).1 with
 | @lst _ vs _ _ hb tt zz=>
 obtain⟨w,g,hw,tw⟩:=tt.at_ hy;refine eS (gG iz (aV hN) (aK (e:=.Constant (.int (m:Int)) jc p2)) hs) ⟨.ref q0.2.1,at_of e0,(ev_int (i:=(m:Int)) (X:=X) (Γ:=Γ)) σ H0 R0 H R E _ λu H2 R2 E2 s2 e2=>?_⟩;obtain⟨⟨v,ea2,rfl,k2⟩,Y2⟩:=E2.ent i _ hΓ;cases (k2.pt n q0 hq).1 with
 | @lst _ vs2 _ _ YH tt2 zz2=>
 obtain⟨w2,g2,hw2,tw2⟩:=tt2.at_ hy;refine⟨q0.2.1,vs2,(m:Int),w2,rfl,e2,bt.of YH,?_,?_⟩
 ·have ml:=(Qc.mp hw2).1;rw[gP (by omega) (by omega),show((m:Nat):Int).toNat=m by omega];exact hw2
 ·refine q w2 H2 R2 E2 s2 ?_;cases tw2 with
  | str x=>exact .str x
  | int z=>exact .int z
  | lst _ _ _=>cases hl
theorem oP (i j:Nat){y:PV}(he:EV X e Γ aq y Γ1)(hl:jW y=true)(hΓ:Γ[i]?=some (.ob (bu a ps)))(hj:Γ[j]?=some (.im dv q0.2.1))(hq:ps[n]?=some q0)(hΓ1:Γ1[i]?=some (.ob (bu a ps)))(hz:q0.1.length<S8)(h:N (Γ1.set i (.ob (bu a (ps.set n (q0.1++[y],q0.2.1,q0.2.2))))))(hN:autoParam (At X j x) cg)(WJ:Tf (.Call (.Attribute (.Name x p1) "append" ap) [e] [] cp) none pos.line X.env=pure false:=by rfl)(V7:fD X (.Name x p1) "append":=by rfl)(Wj:nF X cp [e]:=by rfl)(V6:(ap.endLine==cp.line)=true:=by rfl)(hs:du X e []:=by rfl):W1 X (.Expr (.Call (.Attribute (.Name x p1) "append" ap) [e] [] cp) pos) Γ N T:=λσ H0 R0 H R E D dn dr=>by
 obtain⟨⟨v,ea,rfl,k⟩,hR⟩:=E.ent i _ hΓ;obtain⟨v0,e0,Xw⟩:=E.ent j _ hj;cases Xw
 obtain⟨ys,b,g⟩:=q0;cases (k.pt n _ hq).1 with
 | @lst _ ZX _ _ hb0 tt0 zz0=>
 refine sS (d9 (iY UW UX UY jG (aV hN) (aH aK bo hs) V7 Wj V6 hs rfl) WJ) ?_;refine⟨.ref b,at_of e0,.inl ⟨rfl,ZX,bt.of hb0⟩,he σ H0 R0 H R E _ λu H1 R1 E1 s1 r1=>?_⟩;obtain⟨⟨v,ea1,rfl,k1⟩,Y3⟩:=E1.ent i _ hΓ1;obtain⟨tq,ndq,naq⟩:=k1.pt n _ hq;cases tq with
 | @lst _ vs _ _ hb tt zz=>
 obtain⟨nb,ndg⟩:=QF.mp ndq;refine⟨b,vs,u,rfl,rfl,hb,by rw[tt.len];exact hz,?_⟩;refine dn σ _ R1 _ (E1.Ff hΓ1 hq (ws:=vs++[u]) ?_ ndq λc hc=>.inl hc) s1 h;have:=bq.app (tt.loc (H':=L2.upd H1 b (.lst (vs++[u]))) λc hc=>aD λe=>nb (e▸hc)) (bq.cons (ma (H':=L2.upd H1 b (.lst (vs++[u]))) r1 hl) .nil);rw[QC,QC] at this;exact .lst aB this (by rw[Qj,QG];exact hz)
theorem kI.put (k:kI H a ps)(hn:ps[n]?=some q0)(hH:∀d∈a::d8 ps,d∉cL q0->H' d=H d)(t:cN H' (.ref q0.2.1) (.lst ys) (cL q0)):kI H' a (ps.set n (ys,q0.2.1,q0.2.2)):=by
 have nl:n<ps.length:=(Qc.mp hn).1;have sp:∀(m:Nat)(q:PT),(ps.set n (ys,q0.2.1,q0.2.2))[m]?=some q->(m=n/\q=(ys,q0.2.1,q0.2.2))∨(m≠n/\ps[m]?=some q):=λm q h=>by
  by_cases e:n=m
  ·subst e;rw[Qp nl] at h;exact .inl ⟨rfl,(Option.some.inj h).symm⟩
  ·rw[QB e] at h;exact .inr ⟨λz=>e z.symm,h⟩
 have fpe:∀(m:Nat)(q:PT),(ps.set n (ys,q0.2.1,q0.2.2))[m]?=some q->∃q',ps[m]?=some q'/\cL q=cL q':=λm q h=>by
  rcases sp m q h with⟨rfl,rfl⟩ | ⟨_,h⟩
  ·exact⟨q0,hn,rfl⟩
  ·exact⟨q,h,rfl⟩
 refine⟨?_,λm q hq=>?_,λm1 m2 q1 q2 h1 h2 c c1 c2=>?_⟩
 ·rw[hH a Qk (k.pt n q0 hn).2.2,k.hd];congr 2;refine Q0 λm=>?_;rw[Ql,Ql];by_cases e:n=m
  ·subst e;rw[Qp nl,hn];rfl
  ·rw[QB e]
 ·rcases sp m q hq with⟨rfl,rfl⟩ | ⟨hm,hq⟩
  ·exact⟨t,(k.pt _ q0 hn).2⟩
  ·obtain⟨t1,t2,t3⟩:=k.pt m q hq;exact⟨t1.loc λc hc=>hH c (Qi _ (bQ.mpr ⟨m,q,hq,hc⟩)) λw=>hm (k.dj m n q q0 hq hn c hc w),t2,t3⟩
 ·obtain⟨p1,e1,f1⟩:=fpe m1 q1 h1;obtain⟨p2,e2,f2⟩:=fpe m2 q2 h2;exact k.dj m1 m2 p1 p2 e1 e2 c (f1▸c1) (f2▸c2)
theorem xy (hn:ps[n]?=some q0):∀b∈a::d8 (ps.set n (ys,q0.2.1,q0.2.2)),b∈a::d8 ps:=λb hb=>by
 rcases Qq.mp hb with rfl | hb
 ·exact Qk
 ·obtain⟨m,q,hq,hc⟩:=bQ.mp hb;refine Qi _ (bQ.mpr ?_);by_cases e:n=m
  ·subst e;rw[Qp (Qc.mp hn).1] at hq;cases Option.some.inj hq
   exact⟨n,q0,hn,hc⟩
  ·rw[QB e] at hq;exact⟨m,q,hq,hc⟩
theorem Ext.keep {R':Hp}(x:Ext (fW H D) R H' R'){d:Addr}(hd:d∉D)(hn:H d≠none):H' d=H d:=by
 cases e:H d with
 | none=>exact VO e hn
 | some o=>exact x.h d o (by rw[eh hd];exact e)
def Rep.at_ {α:Type}(r:Rep α)(y:α):Rep Unit:=⟨λK R v _=>r.R K R v y,λs h=>r.mono s h⟩
abbrev kB:=List (Str×Rep Unit)
abbrev gM (fs:kB)(K:Vr)(R:Hp)(vs:List (Str×V)):Prop:=PySem.Paired (λ(z:Str×V)(f:Str×Rep Unit)=>z.1=f.1/\f.2.R K R z.2 ()) vs fs
theorem gM.mono {fs:kB}{R':Hp}{vs:List (Str×V)}(s:aw R R')(h:gM fs K R vs):gM fs K R' vs:=Paired.map (λ_ f ⟨a,b⟩=>⟨a,f.2.mono s b⟩) h
def pG:kB->Str->Option (Rep Unit)
 | [],_=>none
 | (g,x)::r,f=>if g=f then some x else pG r f
theorem gM.get {f:Str}{r:Rep Unit}:∀{fs:kB}{vs:List (Str×V)},gM fs K R vs->pG fs f=some r->∃v,vs.lookup f=some v/\r.R K R v ()
 | _,_,.nil,h=>by cases h
 | _,_,.cons (a:=z) (b:=p) h t,hg=>by
   obtain⟨g,x⟩:=p;obtain⟨g',v⟩:=z;obtain⟨e,hv⟩:=h;have e:g'=g:=e;subst e;rw[pG] at hg;rw[Q6];by_cases q:g'=f
   ·rw[VQ q] at hg;cases hg;subst q
    exact⟨v,by simp,hv⟩
   ·rw[VP q] at hg;rw[show(f==g')=false from beq_eq_false_iff_ne.mpr λz=>q z.symm];exact gM.get t hg
theorem gM.put {f:Str}{r:Rep Unit}{v:V}(hv:r.R K R v ()):∀{fs:kB}{vs:List (Str×V)},gM fs K R vs->pG fs f=none->gM (fs++[(f,r)]) K R (gj f v vs)
 | _,_,.nil,_=>.cons ⟨rfl,hv⟩ .nil
 | _,_,.cons (a:=z) (b:=p) h t,hg=>by
   obtain⟨g,x⟩:=p;obtain⟨g',u⟩:=z;obtain⟨e,hu⟩:=h;have e:g'=g:=e;subst e;rw[pG] at hg;rw[gj];by_cases q:g'=f
   ·rw[VQ q] at hg;cases hg
   ·rw[VP q] at hg ⊢;exact .cons ⟨rfl,hu⟩ (gM.put hv t hg)
def jm (C:Addr):LK kB where
 bx l fs:=⟨l,λK H R v=>∃x dx vs,l=[x,dx]/\v= .ref x/\H x=some (.ins C dx vs)/\H dx=some (.own x)/\gM fs K R vs/\x≠dx,λ{K H R0 H' R' v} e s ⟨x,dx,vs,el,ev,h1,h2,h3,nd⟩=>by
  subst el;exact⟨x,dx,vs,rfl,ev,(e x (by simp)).trans h1,(e dx (by simp)).trans h2,h3.mono s,nd⟩,λ{K H R0 v} ⟨x,dx,vs,el,ev,h1,h2,h3,nd⟩ a ha=>by
  subst el;rcases Qq.mp ha with rfl | ha
  ·rw[h1];exact SQ _
  ·rw[Qe.mp ha,h2];exact SQ _⟩
 fp:=λ_ _=>rfl
 at_:=λ⟨x,dx,vs,el,ev,_⟩=>⟨x,[dx],el,ev⟩
variable {C:Addr}{ns:PJ}{P:Tb}{w:World}{mg:Pz}{base:Heap}{fd:Tg}{rr:Rep α}{z:α}
theorem B2 {x dx:Addr}{fs:kB}{o:Option V}(h:(Ent.ob ((jm C).bx [x,dx] fs)).ok K H R o):o=some (.ref x)/\we R [x,dx]/\∃vs,H x=some (.ins C dx vs)/\H dx=some (.own x)/\gM fs K R vs/\x≠dx:=by
 obtain⟨e,hB,hR⟩:=BY (B:=jm C) h;obtain⟨x',dx',vs,el,ev,h1,h2,h3,nd⟩:=hB;cases el
 exact⟨e,hR,vs,h1,h2,h3,nd⟩
theorem mP (i:Nat){m:Str}{x dx:Addr}{fs:kB}{y:α}(hC:bI X.K C ns)(hf:f∈ns)(hΓ:Γ[i]?=some (.ob ((jm C).bx [x,dx] fs)))(h:pG fs f=some (r.at_ y))(hN:autoParam (At X i m) cg)(hb:fD X (.Name m p1) f:=by rfl):EV X (.Attribute (.Name m p1) f pos) Γ r y Γ:=λσ H0 R0 H R E Q q=>by
 obtain⟨ea,hR,vs,h1,h2,h3,nd⟩:=B2 (E.ent i _ hΓ);obtain⟨v,hl,Yp⟩:=h3.get h;exact eS (vE (aV hN) hb) ⟨.ref x,at_of ea,x,C,dx,vs,v,rfl,h1,hC.cl,hC.no f hf,hl,q v H R E (aw.refl _) Yp⟩
theorem iF (i:Nat){m:Str}{x dx:Addr}{fs:kB}{y:α}(hC:bI X.K C ns)(hf:f∈ns)(he:EV X e Γ r y Γ1)(hΓ1:Γ1[i]?=some (.ob ((jm C).bx [x,dx] fs)))(h:pG fs f=none)(hz:fs.length<1000)(hn:N (Γ1.set i (.ob ((jm C).bx [x,dx] (fs++[(f,r.at_ y)])))))(hN:autoParam (At X i m) cg)(WJ:Tf e (some (.Attribute (.Name m p1) f ap)) pos.line X.env=pure false:=by rfl):W1 X (.Assign [.Attribute (.Name m p1) f ap] e pos) Γ N T:=λσ H0 R0 H R E D dn dr=>
 sS (J4 (aV hN) aK WJ) (he σ H0 R0 H R E _ λv H1 R1 E1 s1 e1=>by
  obtain⟨ea,hR,vs,h1,h2,h3,nd⟩:=B2 (E1.ent i _ hΓ1);refine⟨.ref x,at_of ea,x,C,dx,vs,rfl,h1,hC.cl,hC.no f hf,by rw[h3.length];exact hz,?_⟩;refine dn σ _ R1 _ (E1.mS (en:=.ob ((jm C).bx [x,dx] (fs++[(f,r.at_ y)]))) hΓ1 (a:=x) (by show x∈[x,dx];simp) ?_ λb hb=>.inl hb) s1 hn;rw[ea];exact Ce (B:=jm C) ⟨x,dx,_,rfl,rfl,aB,by rw[aD (SN nd)];exact h2,gM.put (r:=r.at_ y) e1 h3 h,nd⟩ hR)
abbrev Bt:=Vr->Addr->List Pk->(kB->Prop)->Prop
def yP (S:Bt)(K:Vr):Sp:=λvs H Q _=>∃R x dx C WC ps Pd,vs= .ref x::WC/\aw R H/\we R [x,dx]/\((jm C).bx [x,dx] []).R K H R (.ref x)/\lh K R WC ps/\S K C ps Pd/\
 ∀H' R' fs,Ext (fW H [x,dx]) R H' R'->((jm C).bx [x,dx] fs).R K H' R' (.ref x)->we R' [x,dx]->Pd fs->Q .Wb H'
theorem Ac {S:Bt}{qual:Str}{f:Addr}{N ps:PJ}{k:Nat}(F:dZ K x qual st f fd)(Sc:bV N ps (ao st))(len:∀C qs Pd,S K C qs Pd->qs.length+1=ps.length)(Wr:∀(V2:Value)(A:Te)(outer:List Env)(s:S7)(H:Hp)(E:XK)(C a dx:Addr)(qs:List Pk)(Pd:kB->Prop),bG k (A.deeper (S0 qual (ao st) s.heap.objs.size f V2))->S K C qs Pd->
  WS (fI eX P w K mg base N qual (ao st) f V2 A outer s H E).i6 (bP st) (.ob ((jm C).bx [a,dx] [])::gE qs (N.length-1)) (λΓ=>∃fs,Γ[0]?=some (.ob ((jm C).bx [a,dx] fs))/\Pd fs) (λ_ _ _ _=>False)):eV P w K mg base eX (k+1) f fd ps (yP S K):=by
 refine F.ok Sc (λvs H Q E h=>?_) (λV2 A outer s H vs Q E hr h=>?_)
 ·obtain⟨R,a,dx,C,WC,qs,Pd,rfl,_,_,_,p,hS,_⟩:=h;rw[Qo,p.length];exact len C qs Pd hS
 ·obtain⟨R,a,dx,C,WC,qs,Pd,rfl,sR,hR,hB,p,hS,q⟩:=h;have hl:qs.length+1<=N.length:=by
   rw[len C qs Pd hS];have:=congrArg List.length Sc.pre;rw[QA] at this;omega
  refine⟨_,jq,Wr V2 A outer s H E C a dx qs Pd hr hS (L2.start N (.ref a::WC)) (fW H [a,dx]) R H R (zA (B:=jm C) sR hR hB p hl) {nx:=λ_ H'=>Q .Wb H',rt:=Q} (λσ' H' R' Γ' E' _ ⟨fs,hΓ,t⟩=>?_) λv H' R' xx t=>t.elim⟩;obtain⟨ea,hB',WK⟩:=BY (B:=jm C) (E'.ent 0 _ hΓ);exact q H' R' fs E'.ext hB' WK t
theorem yn {S:Bt}{c:Str}{k:Nat}{p:Pos}{ps:List Pk}{Pd:kB->Prop}{f:Addr}{pn:PJ}(M:Mk X.K C f)(F:eV X.prog X.w X.K X.mg X.base eX k f fd pn (yP S X.K))(hr:bG (k+1) X.A)(hm:X.mg c=some (.ref C))(hb:Binds X.K fd pn [])(ha:HA X (e::es) Γ ps Γ1)(hS:S X.K C ps Pd)(hz:∀(fs:kB)(R:Hp)(x dx:Addr)(vs:List (Str×V)),Pd fs->gM fs X.K R vs->R x=some (.ins C dx vs)->rr.R X.K R (.ref x) z)(hg:Gl X c:=by rfl)(Wu:WW c:=by decide)(he:du X e es:=by rfl)(Wg:fm X pos es:=by rfl):
 EV X (.Call (.Name c p) (e::es) [] pos) Γ rr z Γ1:=λσ H0 R0 H R E Q q=>
 eS (GK M F hr hg hm hb .nil jT nC Wu he Wg) (ha σ H0 R0 H R E _ λvs H1 R1 E1 s1 p1 x dx hx hdx Wx=>by
  have hd1:∀b,fW (upd (upd H1 dx (.own x)) x (.ins C dx [])) [x,dx] b=H1 b:=λb=>by
   by_cases hb:b∈[x,dx]
   ·rw[kf hb];rcases Qq.mp hb with rfl | hb
    ·exact hx.symm
    ·rw[Qe.mp hb];exact hdx.symm
   ·rw[eh hb];simp at hb;rw[aD hb.1,aD hb.2]
  have hR:we R1 [x,dx]:=λb hb=>by
   rcases Qq.mp hb with rfl | hb
   ·exact E1.sub.free hx
   ·rw[Qe.mp hb];exact E1.sub.free hdx
  refine⟨R1,x,dx,C,vs,ps,Pd,by rw[QC],λb o q=>?_,hR,⟨x,dx,[],rfl,rfl,aB,by rw[aD Wx,aB],.nil,SN Wx⟩,p1,hS,λH' R' fs xx hB WK hP=>⟨rfl,?_⟩⟩
  ·have b1:b≠x:=λe=>by rw[e,hR x (by simp)] at q;cases q
   have b2:b≠dx:=λe=>by rw[e,hR dx (by simp)] at q;cases q
   rw[aD b1,aD b2];exact E1.sub b o q
  ·rw[show fW (upd (upd H1 dx (.own x)) x (.ins C dx [])) [x,dx]=H1 from funext hd1] at xx;obtain⟨x',dx',ws,el,ev,h1,h2,h3,nd⟩:=hB;cases el
   have E2:=E1.grow xx;have E3:=E2.qZ h2 (WK dx (by simp)) (E1.ext.h.free hdx) (E1.off hdx);have sd:aw R' (upd R' dx (.own x)):=aw.fresh (WK dx (by simp)) _;have hRx:upd R' dx (.own x) x=none:=by rw[aD nd];exact WK x (by simp)
   have E4:=E3.qZ h1 hRx (E1.ext.h.free hx) (E1.off hx);have sx:=sd.trans (aw.fresh hRx (.ins C dx ws));exact q (.ref x) H' _ E4 ((s1.trans xx.r).trans sx) (hz fs _ x dx ws hP (h3.mono sx) aB))
theorem jS {r:Rep β}{y:β}(hC:bI X.K C ns)(hf:f∈ns)(he:EV X e Γ rr z Γ1)(hz:∀(K:Vr)(R:Hp)(v:V),rr.R K R v z->∃x dx vs u,v= .ref x/\R x=some (.ins C dx vs)/\vs.lookup f=some u/\r.R K R u y)(hb:fD X e f:=by rfl):EV X (.Attribute e f pos) Γ r y Γ1:=λσ H0 R0 H R E Q q=>
 eS (vE aK hb) (he σ H0 R0 H R E _ λv H1 R1 E1 s1 e1=>by
  obtain⟨x,dx,vs,u,rfl,h1,h2,h3⟩:=hz _ _ _ e1;exact⟨x,C,dx,vs,u,rfl,E1.sub _ _ h1,hC.cl,hC.no f hf,h2,q u H1 R1 E1 s1 h3⟩)
variable {prog:Tb}{A:Te}{E:Value->S7->Prop}{s:S7}{Q:Value->S7->Prop}{ws:PJ}
theorem vv:∀{ws:PJ}{V1:PN},Vals (ws.map V.str) V1->∃l:List (Str×Tok),V1=Uu l/\l.map (·.1)=ws
 | [],_,.nil=>⟨[],rfl,rfl⟩
 | w::ws,_,.cons h t=>by
   obtain⟨k,rfl⟩:=h;obtain⟨l,rfl,e⟩:=vv t;exact⟨(w,k)::l,rfl,by rw[QJ,e]⟩
theorem wV:∀(l:List (Str×Tok)),Vals ((l.map (·.1)).map V.str) (Uu l)
 | []=>.nil
 | (w,k)::l=>.cons ⟨k,rfl⟩ (wV l)
theorem GG:xV X "str.join" (λx xs H Q=>∃(z:Str)(a:Addr)(ws:PJ),x= .str z/\xs=[.ref a]/\H a=some (.lst (ws.map V.str))/\JoinOk z ws=true/\Q (.str (Txt.join z ws)) H):=by
 intro VZ s σ H x xs v us Q I rx r h;obtain⟨z,a,ws,rfl,rfl,hH,V4,q⟩:=h;obtain⟨t,rfl⟩:=rx;obtain⟨u,rfl,ru⟩:=r.one;cases ru
 obtain⟨hz,V1,n,r1,hl,e⟩:=I.lT hH;obtain⟨l,rfl,el⟩:=vv r1;exact PySem.SC.join ⟨_,e,rfl,_,rfl⟩ el V4 λt' k=>⟨.str _,H,I.tok _,⟨_,rfl⟩,q⟩
theorem Bh {t u:Tok}(hy:(y.length==0)=false)(hsz:x.length<=S8)(hsz2:(Vj x y).length<=S8)(hq:∀(l:List (Str×Tok))(k:Nat)(n:Nat),l.map (·.1)=Vj x y->Q (.ref s.heap.objs.size) {s with toks:=k,heap:=s.heap.push {cls:=.type "list",data:=.seq (Uu l).toArray n}}):
 wpAny (model prog w) A (call (.builtin "str.split") [.str x t,.str y u]) Q E s:=by
 cases h1:(decide (x.length<y.length) ||decide (Builtin.Str.strKind x<Builtin.Str.strKind y))
 ·cases hf:(UQ x y 0 x.length (x.length+1)).isEmpty
  ·have es:Vj x y=Builtin.Str.partsBetween x (UQ x y 0 x.length (x.length+1)) y.length:=(VP (ne_true_of_eq_false h1)).trans (VP (ne_true_of_eq_false hf));refine TR U4 (Ub _ _ _) U3 (U2 _ _) (meets_str_split_sep x y t u h1 hy hf hsz (by rw[← es];exact hsz2)) ?_;show wants Q E _ {s with toks:=_,heap:=s.heap.push {cls:=.type "list",data:=.seq (strsFrom s.toks (Builtin.Str.partsBetween x (UQ x y 0 x.length (x.length+1)) y.length)).toArray}};rw[strsFrom_eq];exact hq (numbered s.toks _) _ _ ((numbered_texts _ _).trans es.symm)
  ·exact TR U4 (Ub _ _ _) U3 (U2 _ _) (meets_str_split_not_found x y t u h1 hy hf)
    (hq [(x,t)] s.toks _ ((VP (ne_true_of_eq_false h1)).trans (VQ hf)).symm)
 ·exact TR U4 (Ub _ _ _) U3 (U2 _ _) (meets_str_split_cannot_occur x y t u h1)
   (hq [(x,t)] s.toks _ (VQ h1).symm)
theorem Dm:xV X "str.split" (λx xs H Q=>∃z y:Str,x= .str z/\xs=[.str y]/\(y.length==0)=false/\z.length<=S8/\(Vj z y).length<=S8/\∀a,H a=none->Q (.ref a) (upd H a (.lst ((Vj z y).map V.str)))):=by
 intro VZ s σ H x xs v us Q I rx r h;obtain⟨z,y,rfl,rfl,hy,hz,hz2,q⟩:=h;obtain⟨t,rfl⟩:=rx;obtain⟨u,rfl,ru⟩:=r.one;obtain⟨tu,rfl⟩:=ru;refine Bh hy hz hz2 λl k n el=>?_;have I1:Inv X VZ σ H {s with toks:=k,heap:=s.heap.push {cls:=.type "list",data:=.seq (Uu l).toArray n}}:=I.kept (t':=k) λb o e=>U5 _ e;have hn:H s.heap.objs.size=none:=I.fresh;refine⟨.ref s.heap.objs.size,_,adopt (o:=.lst ((Vj z y).map V.str)) I1 (I.jM (Sg _) hn) I.sz ⟨?_,Uu l,n,?_,U7 _ rfl⟩,rfl,q _ hn⟩
 ·rw[Qg];exact hz2
 ·rw[← el];exact wV l
theorem G3 {a:Expr}(ha:EV X a Γ ar x Γ1)(he:EV X e Γ1 (ae ar) ws Γ2)(V4:JoinOk x ws=true)(V7:fD X a "join":=by rfl)(Wj:nF X cp [e]:=by rfl)(V6:(ap.endLine==cp.line)=true:=by rfl)(hs:du X e []:=by rfl):EV X (.Call (.Attribute a "join" ap) [e] [] cp) Γ ar (Txt.join x ws) Γ2:=by
 intro σ H0 R0 H R E Q q;refine eS (iY PySem.F.plainAttrs_str PySem.F.slot_str_join PySem.F.type_str_join GG aK (aH aK bo hs) V7 Wj V6 hs rfl) (ha σ H0 R0 H R E _ λv H1 R1 E1 s1 e1=>?_);cases e1
 refine⟨rfl,he σ H0 R0 H1 R1 E1 _ λu H2 R2 E2 s2 e2=>?_⟩;obtain⟨b,vs,rfl,hb,pp,hz⟩:=e2;have ev:=mn pp;subst ev;exact⟨x,b,ws,rfl,rfl,E2.sub _ _ hb,V4,q _ H2 R2 E2 (s1.trans s2) rfl⟩
theorem pj {K:Vr}{R:Hp}:∀ws:PJ,PySem.Paired (ar.R K R) (ws.map V.str) ws
 | []=>.nil
 | _::r=>.cons rfl (pj r)
theorem A9 {a:Expr}(ha:EV X a Γ ar x Γ1)(he:EV X e Γ1 ar y Γ2)(hy:(y.length==0)=false)(hz:x.length<=S8)(hz2:(Vj x y).length<=S8)(V7:fD X a "split":=by rfl)(Wj:nF X cp [e]:=by rfl)(V6:(ap.endLine==cp.line)=true:=by rfl)(hs:du X e []:=by rfl):ba X (.Call (.Attribute a "split" ap) [e] [] cp) Γ ar (Vj x y) Γ2:=by
 intro σ H0 R0 H R E Q q;refine eS (iY PySem.F.plainAttrs_str PySem.F.slot_str_split PySem.F.type_str_split Dm aK (aH aK bo hs) V7 Wj V6 hs rfl) (ha σ H0 R0 H R E _ λv H1 R1 E1 s1 e1=>?_);cases e1
 refine⟨rfl,he σ H0 R0 H1 R1 E1 _ λu H2 R2 E2 s2 e2=>?_⟩;cases e2
 exact⟨x,y,rfl,rfl,hy,hz,hz2,λd hd=>q d _ _ R2 (E2.grow (Ext.eD E2.sub hd _)) (s1.trans s2) aB (E2.sub.free hd) (E2.ext.h.free hd) (E2.off hd) (pj _) hz2⟩
variable {c:Nat}
theorem xa {c:Nat}:∀{a b x y:List Nat},c∉a->c∉b->a++c::x=b++c::y->a=b/\x=y
 | [],[],_,_,_,_,h=>⟨rfl,(List.cons.inj h).2⟩
 | [],d::b,_,_,_,hb,h=>VO (List.cons.inj h).1 (λe=>hb (e▸Qk))
 | d::a,[],_,_,ha,_,h=>VO (List.cons.inj h).1 (λe=>ha (e▸Qk))
 | d::a,e::b,x,y,ha,hb,h=>by
   obtain⟨h1,h2⟩:=List.cons.inj h;obtain⟨q1,q2⟩:=xa (λz=>ha (Qi _ z)) (λz=>hb (Qi _ z)) h2;exact⟨by rw[h1,q1],q2⟩
theorem w9 {a b y:List Nat}(ha:c∉a)(h:a=b++c::y):False:=ha (by rw[h];exact Qn _ Qk)
theorem xv (x y:Str):(x++y).cps.toList=x.cps.toList++y.cps.toList:=by show(x.cps++y.cps).toList=_;simp
theorem mW (c:Nat)(x y:Str)(r:PJ):(Vh ⟨#[c]⟩ (x::y::r)).cps.toList=x.cps.toList++c::(Vh ⟨#[c]⟩ (y::r)).cps.toList:=by
 rw[Vh,xv,xv];simp;intro h;cases h
theorem xw (h:x.cps.toList=y.cps.toList):x=y:=by
 cases x;cases y
 congr 1;exact Array.toList_inj.mp h
theorem w8 {c:Nat}:∀{ws us:PJ},ws≠[]->us≠[]->(∀w∈ws,c∉w.cps.toList)->(∀u∈us,c∉u.cps.toList)->(Vh ⟨#[c]⟩ ws).cps.toList=(Vh ⟨#[c]⟩ us).cps.toList->ws=us
 | [],_,h,_,_,_,_=>VO rfl h
 | _,[],_,h,_,_,_=>VO rfl h
 | [x],[y],_,_,_,_,h=>by rw[show x=y from xw h]
 | [x],y::z::r,_,_,hx,_,h=>by
   rw[mW] at h;exact VO h λh=>w9 (hx x Qk) h
 | x::z::r,[y],_,_,_,hy,h=>by
   rw[mW] at h;exact VO h.symm λh=>w9 (hy y Qk) h
 | x::x2::r,y::y2::q,_,_,hx,hy,h=>by
   rw[mW,mW] at h;obtain⟨h1,h2⟩:=xa (hx x Qk) (hy y Qk) h;rw[xw h1,w8 (List.cons_ne_nil _ _) (List.cons_ne_nil _ _) (λw hw=>hx w (Qi _ hw)) (λw hw=>hy w (Qi _ hw)) h2]
theorem yX (h:ws≠[])(hf:∀w∈ws,c∉w.cps.toList):Vj (Vh ⟨#[c]⟩ ws) ⟨#[c]⟩=ws:=by
 refine w8 (c:=c) (λe=>?_) h (StrLaws.split_free _ c) hf (by rw[StrLaws.join_split]);have:=split_pos (Vh ⟨#[c]⟩ ws) ⟨#[c]⟩;rw[e] at this;exact VO this (by decide)
theorem DC:(" ":Str)=⟨#[32]⟩:=by decide +kernel
theorem yL (x:Str)(ws:PJ):Txt.join x ws=Vh x ws:=StrLaws.glued_eq_join x ws
def NZ (x:Str):It:=⟨λi _=>i<x.cps.size,λi H v H'=>H'=H/\v= .str (lN x i),λi _=>x.cps.size<=i⟩
theorem Cr (x:Str)(t:Tok)(it:Addr):Turn P w K tg (NZ x) [it] it (λi h=>h.IsStrIter it "str_ascii_iterator" x t i) where
 mem:=by simp
 obj:=λi h st b hb=>by
  have e:b=it:=by simpa using hb
  subst e;obtain⟨o,e,c,d⟩:=st;exact⟨o,e,λv z=>by rw[d] at z;cases z⟩
 keep:=λi h h' st k=>by
  obtain⟨o,e,r⟩:=st;exact⟨o,k it (by simp) o e,r⟩
 item:=by
  intro X hP hw hK hc i VZ s σ H E I hf st hg;subst hP hw hK;obtain⟨f0,f1,f2,f3,f4,f5⟩:=hf it (by simp);have W:=Walks.strAscii (prog:=X.prog) (w:=X.w) (I.ok.hd hc) it x t;refine W.item i s _ _ hg st λv h' tk hv XC kk=>?_;obtain⟨c,u,hx,rfl⟩:=hv;have I1:Inv X VZ σ H {s with heap:=h',toks:=tk}:=I.turned (λb o hb e=>kk b o (by simpa using hb) e) f0 f1 f3 f4 f5;obtain⟨o,e,cc,d⟩:=id XC;have X7:lN x i=⟨#[c]⟩:=by unfold lN;rw[show x.cps.getD i 0=c by rw[Array.getD_eq_getD_getElem?,hx];rfl]
  exact⟨_,rfl,oJ (s:={s with heap:=h',toks:=tk}) e cc d (by decide) ⟨.str (lN x i),H,I1,⟨u,by rw[X7]⟩,⟨rfl,rfl⟩,XC,λb hb=>(hf b hb).1⟩⟩
 done:=by
  intro X hP hw hK hc i VZ s σ H E I hf st hg;subst hP hw hK;obtain⟨f0,f1,f2,f3,f4,f5⟩:=hf it (by simp);exact wpAny_pyNext_ascii_end (I.ok.hd hc) st (by have:x.cps.size<=i:=hg;simp[this]) λh' eb=>⟨rfl,I.turned (t':=s.toks) (λb o hb e=>eb b o hb e) f0 f1 f3 f4 f5⟩
 self:=λ_ _ _ _ _ st h=>wpAny_pyIter_striter_ascii st h
def Pu (tl:TE):TI:=λσ H R=>tl σ H λx H1=>∃z:Str,x= .str z/\z.cps.all (· < 128)=true/\R (NZ z) H1
theorem IH {l:Expr}{tl:TE}(hl:PE X l tl):PI X tg l (Pu tl):=by
 intro VZ s σ H R I h;refine aX (hl VZ s σ H _ I h) λv s1 ⟨x,H1,I1,r1,q1⟩=>?_;obtain⟨z,e,ha,q⟩:=q1;subst e;obtain⟨t,rfl⟩:=r1;refine wpAny_pyIter_ascii ha ?_;refine⟨s1.heap.objs.size,[s1.heap.objs.size],_,_,H1,rfl,I1.kept (t':=s1.toks) λb o e=>U5 _ e,Cr z t _,⟨_,U7 _ rfl,rfl,rfl⟩,λb hb=>?_,q⟩;have e:b=s1.heap.objs.size:=by simpa using hb
 subst e;exact I1.jM (Sg _) (I1.V4.fresh (Sg _))
def g9 (x:Str):PJ:=(Qt x.cps.size).map (lN x)
theorem A8 {a:Expr}(ha:EV X a Γ ar x Γ1)(hx:x.cps.all (· < 128)=true)(hz:x.cps.size<=S8):IV X tg a Γ ar (g9 x) Γ1:=by
 refine⟨_,IH aK,λσ H0 R0 H R E Rq q=>ha σ H0 R0 H R E _ λv H1 R1 E1 s1 e1=>?_⟩;cases e1
 refine⟨x,rfl,hx,q _ H1 R1 E1 s1 (by unfold g9;rw[Qg,QN];exact hz) λH' R' sR sH i=>⟨λy hy=>?_,λhi=>?_⟩⟩
 ·unfold g9 at hy;rw[Ql] at hy;obtain⟨j,hj,rfl⟩:=SO.mp hy;obtain⟨hl,e⟩:=Qc.mp hj;rw[QN] at hl;rw[List.getElem_range] at e;subst e;refine⟨hl,λv' H2 hy=>?_⟩;obtain⟨rfl,rfl⟩:=hy;exact⟨R',Ext.refl sH,rfl⟩
 ·unfold g9 at hi;rw[Qg,QN] at hi;exact hi
theorem Be {y:α}(he:EV X e Γ r y Γ1)(h:N Γ1)(WJ:Tf e none pos.line X.env=pure false:=by rfl):W1 X (.Expr e pos) Γ N T:=λσ H0 R0 H R E D dn dr=>
 sS (d9 aK WJ) (he σ H0 R0 H R E _ λv H1 R1 E1 s1 e1=>dn σ H1 R1 _ E1 s1 h)
theorem Ke (i:Nat){a c:Int}(he:EV X e Γ ag c Γ)(hΓ:Γ[i]?=some (.im ag a))(h:N (Γ.set i (.im ag (a+c))))(hN:X.N.Nodup:=by first | assumption | decide)(hi:X.N[i]?=some x:=by rfl)(hx:autoParam (Loc X.env.scope x) Xe)(hf:autoParam (fQ X x) Xd):
 W1 X (.AugAssign (.Name x p1) .Add e pos) Γ N T:=λσ H0 R0 H R E D dn dr=>by
 obtain⟨v,ea,hr⟩:=E.ent i _ hΓ;cases (show v=V.int a from hr)
 refine sS (IU hN hi hx aK JS hf) ⟨.int a,at_of ea,he σ H0 R0 H R E _ λu H2 R2 E2 s2 e2=>?_⟩;cases (show u=V.int c from e2)
 exact⟨a,c,rfl,rfl,dn _ H2 R2 _ (E2.set i (r:=ag) (x:=a+c) rfl) s2 h⟩
theorem FP {r':Rep β}{xs:List α}{ys:List β}(hij:i≠j)(hΓ:Γ[i]?=some (.mu r xs))(hj:Γ[j]?=some (.mu r' ys))(hz:xs.length<=S8)(Yz:ys.length<=S8)(σ:St)(H0 R0 H R:Hp)(E:au X.K σ H0 R0 H R Γ):au X.K σ H H H H (((Γ.map lJ).set i (.im (ae r) xs)).set j (.im (ae r') ys)):=by
 obtain⟨a,vs,ea,ha,hR,pp⟩:=E.ent i _ hΓ;obtain⟨b,ws,eb,hb,hRb,pq⟩:=E.ent j _ hj;have E1:=E.WT.jX (i:=i) (e0:=.no) (en:=.im (ae r) xs) (by rw[Ql,hΓ];rfl) ⟨.ref a,ea,a,vs,rfl,ha,Paired.map (λ_ _=>r.mono E.sub) pp,hz⟩ λb w=>by cases w
 exact E1.jX (i:=j) (e0:=.no) (by rw[QB hij,Ql,hj];rfl) ⟨.ref b,eb,b,ws,rfl,hb,Paired.map (λ_ _=>r'.mono E.sub) pq,Yz⟩ λb w=>by cases w
theorem Bm:eJ X (Tj .LtE) (λx y H Q=>∃i j,x= .str i/\y= .str j/\Q (.bl (!decide (j.cps.toList<i.cps.toList))) H):=by
 intro VZ s σ H x y v u Q I rx ry h;obtain⟨i,j,rfl,rfl,q⟩:=h;obtain⟨t,rfl⟩:=rx;obtain⟨t',rfl⟩:=ry;exact PySem.P.le_str (bN I q rfl)
theorem EF :iy X .LtE ar ar x y (!decide (y.cps.toList<x.cps.toList)):=⟨_,Bm,λR H v u Q _ e1 e2 q=>by
 cases e1;cases e2
 exact⟨x,y,rfl,rfl,q⟩⟩
theorem BS {xs:PJ}:iy X .NotIn ar (ae ar) x xs (!decide (x∈xs)):=⟨_,wF,λR H v u Q s e1 e2 q=>by
 cases e1
 obtain⟨a,vs,rfl,hq,p,_⟩:=e2;have e:=mn p;subst e;exact⟨a,_,rfl,.inl (bt.of (s _ _ hq)),rfl,kZ xs,by rw[VQ rfl,mU];exact q⟩⟩
theorem wW {xs:List α}(h:EV X e Γ (ae r) xs Γ1)(he:∀whole,T2 e X.env whole=(do let v ← whole;Ue e.pos;TK [v] (truthy v)):=by intro _;rfl):TV X e Γ (!xs.isEmpty) Γ1:=by
 intro σ H0 R0 H R E Q q;refine tS (vK aK he) (h σ H0 R0 H R E _ λv H1 R1 E1 s1 e1=>?_);obtain⟨a,vs,rfl,ha,pp,_⟩:=e1;refine⟨!xs.isEmpty,.inl ⟨vs,bt.of (E1.sub _ _ ha),?_⟩,q H1 R1 E1 s1⟩;cases pp<;>rfl
theorem wm {α:Type}(l:List α):∀m,m<=l.length->(Qt m).filterMap (l[·]?)=l.take m
 | 0,_=>rfl
 | m+1,h=>by
   rw[Rt,List.filterMap_append,wm l m (by omega),QK];simp[Qd (show m<l.length by omega)]
def hZ (x:Str):Str:=⟨(x.cps.toList.take 7).toArray⟩
theorem Pa:∀n,n<=8->Builtin.Str.strSliceIndices none (some 7) 1 n=Qt (min n 7):=by
 intro n hn;have:∀j:Fin 9,Builtin.Str.strSliceIndices none (some 7) 1 j.val=Qt (min j.val 7):=by decide +kernel
 exact this ⟨n,by omega⟩
theorem LD (hx:x.length<=8):((Qt (min x.length 7)).filterMap (x.cps[·]?)).toArray=(x.cps.toList.take 7).toArray:=by
 have hl:x.cps.toList.length=x.length:=by simp[Str.length]
 have e:(Qt (min x.length 7)).filterMap (x.cps[·]?)=(Qt (min x.length 7)).filterMap (x.cps.toList[·]?):=by
  congr 1;funext i;simp
 rw[e,wm _ _ (by omega)];congr 1;by_cases h:x.length<=7
 ·rw[Nat.min_eq_left h,← hl,QM,Rv (by omega)]
 ·rw[Nat.min_eq_right (by omega)]
def O5:V->Option Int->Option Int->Hp->VK->Prop:=λx lo hi H Q=>∃z:Str,x= .str z/\lo=none/\hi=some 7/\z.length<=8/\Q (.str (hZ z)) H
theorem O7 :Au X O5:=by
 intro VZ s σ H x v vl vu lo hi sl Q I rx hs pl pu h;obtain⟨z,rfl,rfl,rfl,hz,q⟩:=h;obtain⟨t,rfl⟩:=rx;cases pl
 cases pu with
 | int _ tu=>
   refine⟨"str",_,PySem.F.slot_str_getitem.lookup,Ub _ _ _,wpAny_getItem_str_slice (l:=none) (u:=some (7,tu)) (st:=none) hs rfl ?_⟩;have e:slicePicked z none (some (7,tu)) none=Qt (min z.length 7):=Pa z.length hz;unfold sliceMade;rw[e,QN];split
   ·rename_i hh;have hl:min z.length 7=z.length:=by simpa using hh
    have hp:hZ z=z:=by
     unfold hZ;rw[Rv (by simp[Str.length] at hl ⊢;omega)]
    rw[hp] at q;exact⟨.str z,H,I,⟨t,rfl⟩,q⟩
   ·rw[LD hz];refine⟨?_,.str (hZ z),H,I.tok _,⟨_,rfl⟩,q⟩;show(List.take 7 z.cps.toList).toArray.size<=S8;rw[Qx,QA];exact Sh (Sw _ _) (by decide)
theorem Jr {a:Expr}(ha:EV X a Γ ar x Γ)(hx:x.length<=8):EV X (.Subscript a (.Slice none (some (.Constant (.int 7) j p1)) none p2) pos) Γ ar (hZ x) Γ:=by
 intro σ H0 R0 H R E Q q;obtain⟨tl,pl,kl⟩:=(ov_none:OV X none Γ none);obtain⟨th,ph,kh⟩:=(ov_some ev_int:OV X (some (.Constant (.int 7) j p1)) Γ (some 7));refine eS (nt O7 aK pl ph) (ha σ H0 R0 H R E _ λv H1 R1 E1 s1 e1=>kl σ H0 R0 H1 R1 E1 _ λH2 R2 E2 s2=>kh σ H0 R0 H2 R2 E2 _ λH3 R3 E3 s3=>?_);cases e1
 exact⟨x,rfl,rfl,rfl,hx,q _ _ _ E3 (s1.trans (s2.trans s3)) rfl⟩
theorem ow (i:Nat)(h:N (Γ.set i (.di [])))(hN:X.N.Nodup:=by first | assumption | decide)(hi:X.N[i]?=some x:=by rfl)(hx:autoParam (Loc X.env.scope x) Xe)(hs:Tf (.Dict [] [] p2) (some (.Name x p1)) pos.line X.env=pure false:=by rfl)(hf:autoParam (fQ X x) Xd):
 W1 X (.Assign [.Name x p1] (.Dict [] [] p2) pos) Γ N T:=λσ H0 R0 H R E D dn dr=>by
 refine sS (iT hN hi hx D6 hs hf) λp hp=>?_;have E1:=E.grow (Ext.eD E.sub hp (.dK (cz [])));exact dn _ _ R _ (E1.vU (u:=.dK (cz [])) (en:=.di []) i ⟨p,rfl,aB,E.sub.free hp⟩ (E.ext.h.free hp) λj e _ q w=>E.off hp j e q w) (aw.refl _) h
theorem v7 {R:Hp}:∀{xs:PJ}{vs:List V},eR R vs (xs.map PV.str)->vs=xs.map V.str
 | [],_,.nil=>rfl
 | x::xs,_,.cons h t=>by cases h;rw[v7 t];rfl
theorem yB {k:Nat}{xs:PJ}(h:EA X es Γ aq (xs.map PV.str) Γ1)(hz:xs.length<=S8):EV X (.Tuple es k pos) Γ vp xs Γ1:=
 EV.re (jo h (by rw[Qg];exact hz)) λK R v e=>by
   cases e with
   | tup hp pp=>rw[v7 pp] at hp;exact⟨_,rfl,dR.of hp⟩
def ET (lo:Int)(n:Nat):It:=⟨λi _=>i<n,λi H x H'=>H'=H/\x= .int (lo-i),λi _=>n<=i⟩
theorem Av (it:Addr)(lo:Int)(n:Nat):Turn P w K tg (ET lo n) [it] it (λi h=>Uv h it (lo+(i:Nat)*(-1)) ((n:Int)-(i:Nat)) (-1)) where
 mem:=by simp
 obj:=λi h st b hb=>by
  have e:b=it:=by simpa using hb
  subst e;exact⟨_,st,λv z=>by
   have z':Data.fields _=Data.cell v:=z;cases z'⟩
 keep:=λi h h' st k=>k it (by simp) _ st
 item:=by
  intro X hP hw hK hc i VZ s σ H E I hf st hg;subst hP hw hK;obtain⟨f0,f1,f2,f3,f4,f5⟩:=hf it (by simp);have W:=Walks.range (prog:=X.prog) (w:=X.w) (I.ok.hd hc) it lo (-1) n;refine W.item i s _ _ hg st λv h' tk hv XC kk=>?_;obtain⟨t,rfl⟩:=hv;have I1:Inv X VZ σ H {s with heap:=h',toks:=tk}:=I.turned (λb o hb e=>kk b o (by simpa using hb) e) f0 f1 f3 f4 f5;refine⟨_,rfl,oJ (s:={s with heap:=h',toks:=tk}) (n:="range_iterator") XC rfl rfl (by decide) ⟨.int (lo-i),H,I1,⟨t,?_⟩,⟨rfl,rfl⟩,XC,λb hb=>(hf b hb).1⟩⟩;rw[show lo+(i:Int)*(-1)=lo-(i:Int) by omega]
 done:=by
  intro X hP hw hK hc i VZ s σ H E I hf st hg;subst hP hw hK;obtain⟨f0,f1,f2,f3,f4,f5⟩:=hf it (by simp);exact wpAny_pyNext_range_end (I.ok.hd hc) st (by have:n<=i:=hg;omega) λh' eb=>⟨rfl,I.turned (t':=s.toks) (λb o hb e=>eb b o hb e) f0 f1 f3 f4 f5⟩
 self:=λ_ _ _ _ _ st h=>wpAny_pyIter_rangeiter st h
theorem tf {a b:Int}:UL a b (-1)=((a-b).toNat:Int):=by
 unfold UL;rw[VP (by decide)];split
 ·rw[show -(-1:Int)=1 by decide,Int.ediv_one];omega
 ·omega
theorem small_down {a b:Int}(ha: -(2 ^ 40)<=a)(WX:a<2 ^ 40)(hb: -(2 ^ 40)<=b)(W9:b<2 ^ 40):Builtin.Range.small a b (-1)=true:=by
 unfold Builtin.Range.small;rw[tf];simp only[Builtin.Range.rangeFitsLong,PZ,P2,decide_eq_true_eq,beq_iff_eq,show¬(-1:Int)>0 by decide,if_false];omega
variable {lo:Int}{ta:TA}
def Mc (ta:TA):TI:=λσ H R=>ta σ H λvs H1=>∃i j:Int,vs=[.int i,.int j,.int (-1)]/\(-(2 ^ 40)<=i/\i<2 ^ 40/\ -(2 ^ 40)<=j/\j<2 ^ 40)/\R (ET i (i-j).toNat) H1
theorem Hd {VZ:PD}{R:It->Hp->Prop}{hi:Int}{t u v:Tok}{tk:Nat}(I:Inv X VZ σ H s)(h1: -(2 ^ 40)<=lo)(h2:lo<2 ^ 40)(h3: -(2 ^ 40)<=hi)(h4:hi<2 ^ 40)(q:R (ET lo (lo-hi).toNat) H):wpAny (model X.prog X.w) X.A (pyIter (.ref s.heap.objs.size)) (Ic X VZ σ tg R) E {s with heap:=s.heap.push {cls:=.type "range",data:=.fields #[.int lo t,.int hi u,.int (-1) v]},toks:=tk}:=by
 refine wpAny_pyIter_range (IsRange.new ..) (small_down h1 h2 h3 h4) ?_;have I1:Inv X VZ σ H {s with heap:=s.heap.push {cls:=.type "range",data:=.fields #[.int lo t,.int hi u,.int (-1) v]},toks:=tk}:=I.kept λb o e=>U5 _ e;refine⟨(s.heap.push {cls:=.type "range",data:=.fields #[.int lo t,.int hi u,.int (-1) v]}).objs.size,[(s.heap.push {cls:=.type "range",data:=.fields #[.int lo t,.int hi u,.int (-1) v]}).objs.size],_,_,H,rfl,
  I1.kept (t':=tk) λb o e=>U5 _ e,Av _ lo (lo-hi).toNat,?_,λb hb=>?_,q⟩
 ·have e1:lo+((0:Nat):Int)*(-1)=lo:=by simp
  have e2:(((lo-hi).toNat:Nat):Int)-((0:Nat):Int)=UL lo hi (-1):=by rw[tf];simp
  show Uv _ _ (lo+((0:Nat):Int)*(-1)) ((((lo-hi).toNat:Nat):Int)-((0:Nat):Int)) (-1);rw[e1,e2];exact U7 _ rfl
 ·have e:b=(s.heap.push {cls:=.type "range",data:=.fields #[.int lo t,.int hi u,.int (-1) v]}).objs.size:=by simpa using hb
  subst e;exact I1.jM (Sg _) (I1.V4.fresh (Sg _))
theorem z8 {a b c:Expr}{p:Pos}(hg:Gl X "range")(hm:X.mg "range"=none)(ha:PA X [a,b,c] ta)(hs:Td [a,b,c] X.env=(false,eval a X.env)::Td [b,c] X.env:=by rfl)(Wg:fm X pos [b,c]:=by rfl):
 PI X tg (.Call (.Name "range" p) [a,b,c] [] pos) (Mc ta):=by
 intro VZ s σ H R I h;refine Call_ (iK I hg hm S5 (SX (aX (ha pos VZ s σ H _ I h) λus s1 ⟨vs,H1,I1,r1,q1⟩=>?_) hs Wg));obtain⟨i,j,e,⟨q1,q2,q3,q4⟩,q⟩:=q1;subst e;cases r1 with
 | cons r rr=>
   cases rr with
   | cons r' rr=>
     cases rr with
     | cons r'' rr=>
       cases rr
       obtain⟨t,rfl⟩:=r;obtain⟨t',rfl⟩:=r';obtain⟨t'',rfl⟩:=r'';exact call_range_3 (by decide) (Hd I1 q1 q2 q3 q4 q) (.inl (PyProof.noPylong_of_log2 (by decide +kernel)))
def downs (lo:Int)(n:Nat):PH:=(Qt n).map λ(k:Nat)=>lo-(k:Int)
theorem iE (lo:Int)(n:Nat):(downs lo n).length=n:=by unfold downs;rw[Qg,QN]
theorem uU {x:Int}(h:(downs lo n)[i]?=some x):i<n/\x=lo-(i:Int):=by
 have hi:i<n:=by have:=(Qc.mp h).1;rwa [iE] at this
 refine⟨hi,?_⟩;unfold downs at h;rw[Ql,QQ hi] at h;exact(Option.some.inj h).symm
theorem Dw {R1:Hp}(lo:Int)(n:Nat):Src K (ET lo n) R1 ag (downs lo n):=λH' R' sR sH i=>⟨λx hx=>by
 obtain⟨h1,rfl⟩:=uU hx;refine⟨h1,λv H2 hy=>?_⟩;obtain⟨rfl,rfl⟩:=hy;exact⟨R',Ext.refl sH,rfl⟩,λhi=>by rw[iE] at hi;exact hi⟩
theorem Ai {a b c:Expr}{m n:Int}(hm:X.mg "range"=none)(ha:HA X [a,b,c] Γ [⟨ag,m⟩,⟨ag,n⟩,⟨ag, -1⟩] Γ1)(hn: -1000000<=m/\m<=1000000/\ -1000000<=n/\n<=1000000)(hs:Td [a,b,c] X.env=(false,eval a X.env)::Td [b,c] X.env:=by rfl)(Wg:fm X p2 [b,c]:=by rfl)(hg:Gl X "range":=by rfl):IV X tg (.Call (.Name "range" p1) [a,b,c] [] p2) Γ ag (downs m (m-n).toNat) Γ1:=by
 refine⟨_,z8 hg hm nC hs Wg,λσ H0 R0 H R E Rq q=>ha σ H0 R0 H R E _ λvs H1 R1 E1 s1 e1=>?_⟩;have e:vs=[.int m,.int n,.int (-1)]:=by
  cases e1 with
  | cons a1 t=>cases t with
    | cons a2 t=>cases t with
      | cons a3 t=>cases t;cases a1;cases a2;cases a3;rfl
 subst e;exact⟨m,n,rfl,⟨by omega,by omega,by omega,by omega⟩,q _ H1 R1 E1 s1 (by rw[iE];exact Sh (show(m-n).toNat<=2000000 by omega) (by decide)) (Dw m (m-n).toNat)⟩
theorem ba.cst {xs ys:List α}(h:ba X e Γ r xs Γ1)(q:xs=ys):ba X e Γ r ys Γ1:=q▸h
theorem Gw {f:Expr}{D:List (Str×PJ)}{k:Str}{zs:PJ}(hD:nj X.prog X.w X.K X.mg x D)(he:EV X e Γ ar k Γ1)(hf:EV X f Γ1 vp zs Γ2)(hg:Gl X x:=by rfl)(hd:WW x:=by decide)(m:M2 X (.Name x p1) "get" ap e f cp:=by exact⟨rfl,rfl,rfl,rfl⟩):EV X (.Call (.Attribute (.Name x p1) "get" ap) [e,f] [] cp) Γ vp ((c9 D k).getD zs) Γ2:=by
 intro σ H0 R0 H R E Q q;obtain⟨a,o,vs,hm,hk,hdo,hs,hp⟩:=hD;have pe:PE X (.Call (.Attribute (.Name x p1) "get" ap) [e,f] [] cp) (λσ H Q=>gK X e σ H λy H1=>y= .str k/\gK X f σ H1 λz H2=>(∀b,c9 D k≠none->Tw vs (Sum.inr k:Key)=some (.ref b)->Q (.ref b) H2)/\(c9 D k=none->Q z H2)):=by
  intro VZ s σ H Q I h;refine wpAny_Call_method m.base m.few m.line PySem.F.plainAttrs_dict PySem.F.slot_dict_get PySem.F.type_dict_get (aX (ki (v:=.ref a) hg hm rfl hd VZ s σ H (λv H2=>v= .ref a/\H2=H) I ⟨rfl,rfl⟩) λu s1 ⟨x1,H1,I1,rx,e3,e4⟩=>?_);subst e3;subst e4;obtain rfl:u=Vk a:=rx;have dd:s1.heap.DictOf (cv X.prog X.w) a vs:=Vb.mpr ⟨o,I1.gb a o hk,hdo⟩;refine⟨dd.typeIs,λb q=>?_,?_⟩
  ·cases q
   obtain⟨ob,_,_,h1,h2,_⟩:=dd;exact⟨ob,h1,h2.2.1⟩
  rw[m.trees];refine US rfl (Calls.evalArgs_plain (UT (aX (h VZ s1 I1) λiv s2 ⟨y,H2,I2,ry,ey,q2⟩=>
   UT (aX (q2 VZ s2 I2) λfv s3 ⟨z,H3,I3,rz,q3,q4⟩=>Calls.spliced_nil ?_))))
  subst ey;have dd3:s3.heap.DictOf (cv X.prog X.w) a vs:=Vb.mpr ⟨o,I3.gb a o hk,hdo⟩;refine call_meetsIn PySem.F.slot_dict_get dd3.typeIs PySem.F.entry_dict_get (PySem.F.args_dict_get_3 _ _ _) (meets_dict_get_default (cv X.prog X.w) a (jU (k:=Sum.inr k) ry) hs fv) ⟨_,dd3.mapOf,?_⟩;rcases ui (x:=k) hp with⟨h1,h2⟩ | ⟨ys,b,h1,h2,_⟩
  ·rw[h2];exact⟨z,_,I3.tok _,rz,q4 h1⟩
  ·rw[h2];exact⟨.ref b,_,I3.tok _,rfl,q3 b (by rw[h1];exact SQ _) h2⟩
 refine eS pe (he σ H0 R0 H R E _ λv H1 R1 E1 s1 e1=>⟨e1,hf σ H0 R0 H1 R1 E1 _ λv2 H2 R2 E2 s2 e2=>⟨λb hb hv=>?_,λhn=>?_⟩⟩)
 ·rcases ui (x:=k) hp with⟨h1,h2⟩ | ⟨ys,b',h1,h2,o',V1,n,h3⟩
  ·exact VO h1 hb
  ·rw[hv] at h2;cases h2
   refine q _ H2 R2 E2 (s1.trans s2) ?_;rw[h1];exact⟨b,rfl,.inr ⟨o',V1,n,h3⟩⟩
 ·refine q _ H2 R2 E2 (s1.trans s2) ?_;rw[hn];exact e2
def Nu (K:Vr)(a:Addr)(n:Nat):It:=
 ⟨λi H=>∃xs,bt K H a xs/\xs.length=n/\i<n,λi H x H'=>H'=H/\∀xs,bt K H a xs->xs[n-1-i]?=some x,λi _=>n<=i⟩
theorem Dx (a it:Addr)(n:Nat):Turn P w K tg (Nu K a n) [it] it (λi h=>i<=n/\h.IsRevIter it a ((n:Int)-1-(i:Int))) where
 mem:=by simp
 obj:=λi h st b hb=>by
  have e:b=it:=by simpa using hb
  subst e;obtain⟨_,o,e,c,d⟩:=st;exact⟨o,e,λv z=>by rw[d] at z;cases z⟩
 keep:=λi h h' st k=>⟨st.1,st.2.at λo e=>k it (by simp) o e⟩
 item:=by
  intro X hP hw hK hc i VZ s σ H E I hf st hg;subst hP hw hK;obtain⟨xs,hq,hl,hi⟩:=hg;obtain⟨V1,rv,p,hz⟩:=I.list hq;have hx:xs[n-1-i]?=some xs[n-1-i]:=Qd (by omega);obtain⟨u,hu,ru⟩:=rv.get hx;obtain⟨f0,f1,f2,f3,f4,f5⟩:=hf it (by simp);have st0:s.heap.IsRevIter it a (((n-1-i:Nat)):Int):=by rw[show(((n-1-i:Nat)):Int)=(n:Int)-1-(i:Int) by omega];exact st.2
  refine wpAny_pyNext_rev_item st0 p.isList (x:=u) (by simpa using hu) λh' XC sb=>?_;have I1:Inv X VZ σ H {s with heap:=h'}:=I.turned (t':=s.toks) (λb o hb e=>(sb.2 b hb).trans e) f0 f1 f3 f4 f5;have Yv:h'.IsRevIter it a ((n:Int)-1-((i+1:Nat):Int)):=by rw[show(n:Int)-1-((i+1:Nat):Int)=(((n-1-i:Nat)):Int)-1 by omega];exact XC
  obtain⟨o,e,c,d⟩:=id Yv;exact⟨u,rfl,oJ (s:={s with heap:=h'}) e c d (by decide) ⟨_,H,I1,ru,⟨rfl,λys hy=>by rw[I.mO hy hq];exact hx⟩,⟨by omega,Yv⟩,λb hb=>(hf b hb).1⟩⟩
 done:=by
  intro X hP hw hK hc i VZ s σ H E I hf st hg;subst hP hw hK;obtain⟨f0,f1,f2,f3,f4,f5⟩:=hf it (by simp);obtain⟨Xm,st⟩:=st;have e:(n:Int)-1-(i:Int)= -1:=by have:n<=i:=hg;omega
  rw[e] at st;exact wpAny_pyNext_rev_end (I.ok.hd hc) st λh' eb=>⟨rfl,I.turned (t':=s.toks) (λb o hb e=>eb b o hb e) f0 f1 f3 f4 f5⟩
 self:=λ_ _ _ _ _ st h=>wpAny_pyIter_revIter st.2 h
variable {ks:PJ}
def O6 (K:Vr)(ta:TA):TI:=λσ H R=>ta σ H λvs H1=>∃a xs,vs=[.ref a]/\bt K H1 a xs/\R (Nu K a xs.length) H1
theorem HN {a:Expr}{p:Pos}(hg:Gl X "reversed")(hm:X.mg "reversed"=none)(ha:PA X [a] ta)(hs:fK X a:=by rfl):PI X tg (.Call (.Name "reversed" p) [a] [] pos) (O6 X.K ta):=by
 intro VZ s σ H R I h;refine Call_ (iK I hg hm PyProof.Rows.boot_reversed (SX (aX (ha pos VZ s σ H _ I h) λus s1 ⟨vs,H1,I1,r1,q1⟩=>?_) hs rfl));obtain⟨l,xs,e,hq,q⟩:=q1;subst e;cases r1 with
 | cons r rr=>
   cases rr
   cases r
   obtain⟨V1,rv,pl,hz⟩:=I1.list hq;have hl:=rv.length;refine call_reversed_list pl.isList ?_;have I2:Inv X VZ σ H1 {s1 with heap:=s1.heap.push (revObj l ((V1.toArray.size:Int)-1))}:=I1.kept (t':=s1.toks) λb o e=>U5 _ e;have it0:(s1.heap.push (revObj l ((V1.toArray.size:Int)-1))).IsRevIter s1.heap.objs.size l ((xs.length:Int)-1-((0:Nat):Int)):=⟨_,U7 _ rfl,rfl,by
    rw[show((xs.length:Int)-1-((0:Nat):Int))=((V1.toArray.size:Int)-1) by simp;omega];rfl⟩
   refine wpAny_pyIter_revIter it0 ?_;refine⟨s1.heap.objs.size,[s1.heap.objs.size],_,_,H1,rfl,I2,Dx l _ xs.length,⟨Si _,it0⟩,λb hb=>?_,q⟩;have e:b=s1.heap.objs.size:=by simpa using hb
   subst e;exact I1.jM (Sg _) (I1.V4.fresh (Sg _))
theorem JQ {a:Expr}{p:Pos}{xs:List α}(hm:X.mg "reversed"=none)(ha:EV X a Γ (ae r) xs Γ1)(hs:fK X a:=by rfl)(hg:Gl X "reversed":=by rfl):IV X tg (.Call (.Name "reversed" p) [a] [] pos) Γ r xs.reverse Γ1:=by
 refine⟨_,HN hg hm (aH aK bo hs) hs,λσ H0 R0 H R E Rq q=>ha σ H0 R0 H R E _ λv H1 R1 E1 s1 e1=>?_⟩;obtain⟨a,vs,rfl,hp,pp,z⟩:=e1;have hvl:=pp.length;refine⟨a,vs,rfl,bt.of (E1.sub _ _ hp),q _ H1 R1 E1 s1 (by rw[RM];exact z) λH' R' sR sH i=>⟨λx hx=>?_,λhi=>?_⟩⟩
 ·have hq:bt X.K H' a vs:=bt.of (sH _ _ (sR _ _ hp));have hi:i<xs.length:=by have:=(Qc.mp hx).1;rwa [RM] at this
  rw[RZ hi] at hx;obtain⟨v,hv,hr⟩:=ft pp hx;refine⟨⟨vs,hq,rfl,by omega⟩,λv' H2 hy=>?_⟩;obtain⟨rfl,hy⟩:=hy;have:=hy vs hq;rw[show vs.length-1-i=xs.length-1-i by omega,hv] at this;cases this
  exact⟨R',Ext.refl sH,r.mono sR hr⟩
 ·rw[RM] at hi;show vs.length<=i;omega
theorem AF (i:Nat){xs ys:List α}(he:EV X e Γ (ae r) ys Γ1)(hΓ:Γ[i]?=some (.mu r xs))(hΓ1:Γ1[i]?=some (.mu r xs))(hz:xs.length+ys.length<=S8)(h:N (Γ1.set i (.mu r (xs++ys))))(hN:autoParam (At X i x) cg)(WJ:Tf (.Call (.Attribute (.Name x p1) "extend" ap) [e] [] cp) none pos.line X.env=pure false:=by rfl)(V7:fD X (.Name x p1) "extend":=by rfl)(Wj:nF X cp [e]:=by rfl)(V6:(ap.endLine==cp.line)=true:=by rfl)(hs:du X e []:=by rfl):W1 X (.Expr (.Call (.Attribute (.Name x p1) "extend" ap) [e] [] cp) pos) Γ N T:=λσ H0 R0 H R E D dn dr=>by
 obtain⟨a,vs,ea,ha,hR,pp⟩:=E.ent i _ hΓ;refine sS (d9 (iY UW PySem.F.slot_list_extend PySem.F.type_list_extend Bv (aV hN) (aH aK bo hs) V7 Wj V6 hs rfl) WJ) ?_;refine⟨.ref a,at_of ea,.inl ⟨rfl,vs,bt.of ha⟩,he σ H0 R0 H R E _ λu H1 R1 E1 s1 e1=>?_⟩;obtain⟨b,ws,rfl,hb,pw,hw⟩:=e1;obtain⟨a',WC,Wy,WX,WK,W6⟩:=E1.ent i _ hΓ1;rw[ea] at Wy;cases Wy
 refine⟨a,b,WC,ws,rfl,rfl,WX,E1.sub _ _ hb,by rw[W6.length,pw.length];exact hz,?_⟩;exact dn σ _ R1 _ (E1.upd (en:=.mu r (xs++ys)) hΓ1 rfl ea WK ⟨a,_,rfl,aB,WK,fk W6 pw⟩) s1 h
theorem xF {d:Expr}{kvs:List (Int×V)}{k:Int}(hu:X.A.units+1<cLine)(he:EV X e Γ ag k Γ1)(hd:EV X d Γ1 kY kvs Γ2)(hm:Tx .NotIn d=false:=by first | exact qq _ | with_unfolding_all rfl):TV X (.Compare e [.NotIn] [d] pos) Γ (!gL kvs k) Γ2:=by
 intro σ H0 R0 H R E Q q;refine tS (mf (kW hu aK aK) hm) (he σ H0 R0 H R E _ λv H1 R1 E1 s1 e1=>hd σ H0 R0 H1 R1 E1 _ λu H2 R2 E2 s2 e2=>?_);cases e1
 obtain⟨p,rfl,hp⟩:=e2;refine⟨p,_,rfl,g8.k (k:=Sum.inl k) (E2.sub _ _ hp),_,rfl,?_⟩;rw[mm];exact q H2 R2 E2 (s1.trans s2)
abbrev uY (ks:PJ):List (Key×V):=ks.map λk=>(Sum.inr k,V.bl true)
def qE (a:Addr)(ks:PJ):oY where
 fp:=[a]
 R:=λK H R v=>v= .ref a/\H a=some (.dK (uY ks))
 loc:=λhH hR ⟨e,h1⟩=>⟨e,(hH a (by simp)).trans h1⟩
 has:=λ⟨e,h1⟩ b hb=>by rw[Qe.mp hb,h1];exact SQ _
theorem WS.L6 (i:Nat)(hΓ:Γ[i]?=some (.di []))(h:∀a,WS X W0 (Γ.set i (.ob (qE a []))) N T):WS X W0 Γ N T:=λσ H0 R0 H R E D dn dr=>by
 obtain⟨a,ea,ha,hR⟩:=E.ent i _ hΓ;refine h a σ H0 R0 H R (E.tell hΓ ⟨⟨.ref a,ea,rfl,ha⟩,λb hb=>?_⟩ λb w=>?_) D dn dr
 ·rw[Qe.mp hb];exact hR
 ·rw[show b=a from Qe.mp w];exact cf.mpr ea
theorem D1 (k:Str):∀ks:PJ,dc (uY ks) (Sum.inr k:Key)=if k∈ks then some (.bl true) else none
 | []=>rfl
 | x::ks=>by
   by_cases e:x=k
   ·show dc ((Sum.inr x,V.bl true)::uY ks) _=_;rw[dQ (p:=((Sum.inr x:Key),V.bl true)) (by rw[e]),VQ (by rw[e];exact Qk)]
   ·show dc ((Sum.inr x,V.bl true)::uY ks) _=_;rw[dz (p:=((Sum.inr x:Key),V.bl true)) (λz=>e (Sum.inr.inj z)),D1 k ks];by_cases h:k∈ks
    ·rw[VQ h,VQ (Qi _ h)]
    ·rw[VP h,VP λz=>by rcases Qq.mp z with q | q;exact e q.symm;exact h q]
theorem Gd (i:Nat){ke ve:Expr}{k:Str}(hu:X.A.units+1<cLine)(hk:EV X ke Γ ar k Γ)(hv:PE X ve (tC (.bl true)))(hΓ:Γ[i]?=some (.ob (qE a ks)))(hn:k∉ks)(hz:ks.length<S8)(h:N (Γ.set i (.ob (qE a (ks++[k])))))(hN:autoParam (At X i x) cg)(hs:Tf ve (some (.Subscript (.Name x p1) ke p2)) pos.line X.env=pure false:=by rfl):W1 X (.Assign [.Subscript (.Name x p1) ke p2] ve pos) Γ N T:=λσ H0 R0 H R E D dn dr=>by
 refine sS (sO hu (aV hN) aK hv hs) ?_;obtain⟨⟨v,ea,rfl,ha⟩,hR⟩:=E.ent i _ hΓ;refine⟨.ref a,at_of ea,hk σ H0 R0 H R E _ λu H1 R1 E1 s1 e1=>?_⟩;obtain⟨⟨v,Wy,rfl,WX⟩,WK⟩:=E1.ent i _ hΓ;cases e1
 refine⟨a,_,rfl,pW.k (k:=Sum.inr k) WX (by rw[Qg];exact hz),?_⟩;rw[pK (.bl true) (by rw[D1,VP hn])];have e:uY ks++[((Sum.inr k:Key),V.bl true)]=uY (ks++[k]):=by unfold uY;rw[Qv];rfl
 rw[e];exact dn σ _ R1 _ (E1.mS (en:=.ob (qE a (ks++[k]))) hΓ (a:=a) (by show a∈[a];simp) ⟨⟨.ref a,Wy,rfl,aB⟩,WK⟩ λc w=>.inl w) s1 h
theorem Dz (i:Nat){k:Str}(hu:X.A.units+1<cLine)(he:EV X e Γ ar k Γ)(hΓ:Γ[i]?=some (.ob (qE a ks)))(hN:autoParam (At X i x) cg):TV X (.Compare e [.NotIn] [.Name x p1] pos) Γ (!decide (k∈ks)) Γ:=by
 intro σ H0 R0 H R E Q q;refine tS (mf (kW hu aK (aV hN)) (by with_unfolding_all rfl)) (he σ H0 R0 H R E _ λv H1 R1 E1 s1 e1=>?_);obtain⟨⟨v,ea,rfl,ha⟩,hR⟩:=E1.ent i _ hΓ;cases e1
 refine⟨.ref a,at_of ea,a,_,rfl,g8.k (k:=Sum.inr k) ha,_,rfl,?_⟩;rw[D1];have e:(if k∈ks then some (V.bl true) else none).isSome=decide (k∈ks):=by by_cases h:k∈ks<;>simp[h]
 rw[e];exact q H1 R1 E1 s1
variable {key:Value}
section
variable {K:Type} [DecidableEq K]{knd:KeyKind prog w K}
theorem D3 {d:Addr}{kvs:List (K×Value)}{k:K}{dflt:Value}(Xy:knd.is k key=true)(hm:s.heap.DictOf knd d kvs)(Zj:∀v,Tw kvs k=some v->Q v {s with toks:=s.toks+1})(hnew:Tw kvs k=none->∀h',h'.DictOf knd d (UA kvs k dflt)->U9 d s.heap h'->Q dflt {s with heap:=h',toks:=s.toks+1})(hsz:kvs.length<=S8):wpAny (model prog w) A (UB d key dflt) Q E s:=by
 have hmap:=hm.mapOf;obtain⟨o,es,ep,ho,hc,hd,hk,hp,hn⟩:=hm;have hes:es.size<=S8:=by
  have e1:=hp.length;have e2:es.toList.length=es.size:=by simp
  omega
 obtain⟨o2,es2,ep2,ho2,hc2,hd2,Zt,hf⟩:=hmap;rw[ho] at ho2;cases ho2
 rw[hd] at hd2;cases hd2
 unfold UB
 try with_reducible refine TZ ?_
 refine S9 (knd.pyHash Xy ?_);refine S9 (wpAny_dictFind_of (s:={s with toks:=s.toks+1}) Xy ho hd hk ?_);have hidx:(es.findIdx? λe=>knd.is k e.key)=kvs.findIdx? λkv=>decide (kv.1=k):=by
  rw[← hp.findIdx k];obtain⟨l⟩:=es;simp
 cases hi:es.findIdx? λe=>knd.is k e.key with
 | some i=>
   have hfk:Tw kvs k=(es[i]?).map (·.val):=by rw[← hf k,findBy_of_findIdx?,hi]
   refine S9 (wpAny_dictEntries (s:={s with toks:=s.toks+1}) ho hd ?_);cases he:es[i]? with
   | none=>
     exfalso;have:=Array.findIdx?_eq_some_iff_findIdx_eq.mp hi;have W5:i<es.size:=this.1;rw[Array.getElem?_eq_getElem W5] at he;exact nomatch he
   | some e=>
     rw[he] at hfk;exact S9 (Uc (Tc (Zj e.val hfk)))
 | none=>
   have hfk:Tw kvs k=none:=by rw[← hf k,findBy_of_findIdx?,hi]
   have hnot:k∉kvs.map (·.1):=not_mem_of_findIdx_none (hidx▸hi);have hany:¬(kvs.any λkv=>decide (kv.1=k))=true:=by
    rw[Rz];rintro⟨kv,hkv,he⟩;exact hnot (Qw.mpr ⟨kv,hkv,VR he⟩)
   refine S9 (Uc (S9 (wpAny_updateDictKeys (hz:=hes) (s:={s with toks:=s.toks+1}) ho hd (Tc (hnew hfk _ ⟨_,_,ep+1,Va _ ho (Obj.isFreed_of_dict (Obj.data_mapDictKeys hd _)),
    hc.mapDictKeys _,Obj.data_mapDictKeys hd _,hk.push Xy _,?_,?_⟩ (U9.update ..))))))
   ·rw[UA,VP hany];have:=hp.append Xy (knd.hash k) dflt;obtain⟨l⟩:=es;simpa using this
   ·rw[UA,VP hany,Qv,QO];refine⟨hn,by simp,?_⟩;intro a ha b hb;simp only[QJ,RL,Qe] at hb;subst hb;exact λe=>hnot (e▸ha)
theorem DM {d:Addr}{kvs:List (K×Value)}{k:K}(Xy:knd.is k key=true)(hd:(d==Tq)=false)(dflt:Value)(hsz:kvs.length<=S8):
 MeetsIn prog w (Builtin.«dict.setdefault» ⟨[.ref d,key,dflt],[]⟩) (λ_ R s=>s.heap.DictOf knd d kvs/\
  (∀v,Tw kvs k=some v->R (.ok (.ret v)) {s with toks:=s.toks+1})/\
  (Tw kvs k=none->∀h',h'.DictOf knd d (UA kvs k dflt)->U9 d s.heap h'->R (.ok (.ret dflt)) {s with heap:=h',toks:=s.toks+1})):=
 .of_wp λA R s ⟨hm,h1,h2⟩=>by
  unfold Builtin.«dict.setdefault»;refine S9 ?_;unfold Builtin.Dict.keyAndDefault;refine S9 (wpAny_notOrdered_dict hm.mapOf.typeIs ?_);show wpAny _ _ (pure (d,key,some dflt)) _ _ s;refine Tc ?_;show wpAny _ _ (if(d==Tq)=true then _ else(UB d key dflt >>=_)) _ _ s;rw[VP (by rw[hd];exact PX)];exact S9 (D3 Xy hm (λv hv=>Tc ⟨v,rfl,h1 v hv⟩) (λhn h' hm' hs'=>Tc ⟨dflt,rfl,h2 hn h' hm' hs'⟩) hsz)
end
variable {F:PR}
def KW:V->List V->Hp->VK->Prop:=λx vs H Q=>∃(a:Addr)(F:PR)(k v:Int),x= .ref a/\vs=[.int k,.int v]/\H a=some (.dK (cz (cG F)))/\F.length<S8/\∀u,Q u (if(aW F k).isSome then H else upd H a (.dK (cz (cG (F++[(k,v)])))))
theorem G0:xV X "dict.setdefault" KW:=by
 intro VZ s σ H x vs u us Q I rx rv h;obtain⟨a,F,k,v,rfl,rfl,hH,hz,q⟩:=h;cases rx
 obtain⟨u1,u2,rfl,⟨t,rfl⟩,⟨t2,rfl⟩⟩:=vals2 rv;obtain⟨z,hd,kvs,rel,dd⟩:=zR I.V4 hH;have hzl:kvs.length<=S8:=by rw[← rel.length];exact z
 have XM:=rel.val (Sum.inl k:Key);rw[kL] at XM;refine call_meetsIn PySem.F.slot_dict_setdefault dd.typeIs PySem.F.entry_dict_setdefault (PySem.F.args_dict_setdefault_3 _ _ _) (DM (knd:=cv X.prog X.w) (kvs:=kvs) (jU (k:=Sum.inl k) (u:=.int k t) ⟨t,rfl⟩) hd (.int v t2) hzl) ⟨dd,λw' hw=>?_,λhn h' Ys hs=>?_⟩
 ·cases e:aW F k with
  | none=>rw[e,hw] at XM;cases XM
  | some y=>
    rw[e,hw] at XM;have:=q (.int y);rw[e,VQ (show(some y).isSome=true from rfl)] at this;exact⟨.int y,H,I.tok _,XM,this⟩
 ·cases e:aW F k with
  | some y=>rw[e,hn] at XM;cases XM
  | none=>
    have:=q (.int v);rw[e,VP (by decide)] at this;have hput:putK (cz (cG F)) (Sum.inl k:Key) (.int v)=cz (cG (F++[(k,v)])):=by
     rw[va];unfold jk;rw[e,VP (by decide)]
    have hl:(cz (cG (F++[(k,v)]))).length<=S8:=by unfold cz cG;simp;omega
    refine⟨.int v,_,oF I (by rw[hH];exact VN) hs (let ⟨q,_,_,hq,_⟩:=Ys;⟨q,hq⟩) (uQ hl hd ?_ Ys),⟨t2,rfl⟩,this⟩;rw[← hput];exact rel.put (Sum.inl k:Key) ⟨t2,rfl⟩
theorem set_same.{u}{A:Type u}{l:List A}{i:Nat}{x:A}(h:l[i]?=some x):l.set i x=l:=by
 refine Q0 λj=>?_;by_cases e:i=j
 ·subst e;rw[Qp (Qc.mp h).1,h]
 ·rw[QB e]
theorem HZ (i:Nat){f:Expr}{k v:Int}(he:EV X e Γ ag k Γ)(hf:EV X f Γ ag v Γ)(hΓ:Γ[i]?=some (.di (cG F)))(hz:F.length<S8)(h:N (Γ.set i (.di (cG (if(aW F k).isSome then F else F++[(k,v)])))))(hN:autoParam (At X i x) cg)(WJ:Tf (.Call (.Attribute (.Name x p1) "setdefault" ap) [e,f] [] cp) none pos.line X.env=pure false:=by rfl)(V7:fD X (.Name x p1) "setdefault":=by rfl)(Wj:nF X cp [e,f]:=by rfl)(V6:(ap.endLine==cp.line)=true:=by rfl)(hs:Td [e,f] X.env=(false,eval e X.env)::Td [f] X.env:=by rfl)(Wv:du X f []:=by rfl)(Wg:fm X cp [f]:=by rfl):
 W1 X (.Expr (.Call (.Attribute (.Name x p1) "setdefault" ap) [e,f] [] cp) pos) Γ N T:=λσ H0 R0 H R E D dn dr=>by
 obtain⟨a,ea,ha,hR⟩:=E.ent i _ hΓ;refine sS (d9 (iY PySem.F.plainAttrs_dict PySem.F.slot_dict_setdefault PySem.F.type_dict_setdefault G0 (aV hN) (aH aK (aH aK bo Wv) hs) V7 Wj V6 hs Wg) WJ) ?_;refine⟨.ref a,at_of ea,.inr (.inr (.inl ⟨rfl,.inl ⟨_,ha⟩⟩)),he σ H0 R0 H R E _ λv1 H1 R1 E1 s1 q1=>hf σ H0 R0 H1 R1 E1 _ λv2 H2 R2 E2 s2 q2=>?_⟩;cases q1
 cases q2
 obtain⟨a',Wy,WX,WK⟩:=E2.ent i _ hΓ;rw[ea] at Wy;cases Wy
 refine⟨a,F,k,v,rfl,rfl,WX,hz,λu=>?_⟩;cases q:(aW F k).isSome with
 | true=>
   rw[q,VQ rfl] at h;rw[VQ rfl];refine dn σ H2 R2 _ E2 (s1.trans s2) ?_;rwa [set_same hΓ] at h
 | false=>
   rw[q,VP (by decide)] at h;rw[VP (by decide)];exact dn σ _ R2 _ (E2.upd (en:=.di (cG (F++[(k,v)]))) hΓ rfl ea WK ⟨a,rfl,aB,WK⟩) (s1.trans s2) h
def qk (X:Cx)(e:Expr)(Γ:Ga)(k:Int):Prop:=∀(σ:St)(H0 R0 H R:Hp),au X.K σ H0 R0 H R Γ->∀(H':Hp)(Q:VK),aw R H'->Q (.int k) H'->gK X e σ H' Q
theorem xr (i:Nat){y:Int}(hΓ:Γ[i]?=some (.im ag y))(hN:autoParam (At X i x) cg):qk X (.Name x pos) Γ y:=λσ H0 R0 H R E H' Q s q=>by
 obtain⟨v,e,h⟩:=E.ent i _ hΓ;cases h
 exact eS (aV hN) ⟨_,at_of e,q⟩
theorem GD (i:Nat){ke ve le ue:Expr}{k l v u:Int}(hk:qk X ke Γ k)(hl:qk X le Γ l)(hv:PE X ve (tC (.int v)))(hu:PE X ue (tC (.int u)))(ZO:k≠l)(h:N (Γ.set i (.di (cG [(k,v),(l,u)]))))(hN:X.N.Nodup:=by first | assumption | decide)(hi:X.N[i]?=some x:=by rfl)(hx:autoParam (Loc X.env.scope x) Xe)(hs:Tf (.Dict [some ke,some le] [ve,ue] p2) (some (.Name x p1)) pos.line X.env=pure false:=by rfl)(hf:autoParam (fQ X x) Xd):
 W1 X (.Assign [.Name x p1] (.Dict [some ke,some le] [ve,ue] p2) pos) Γ N T:=λσ H0 R0 H R E D dn dr=>by
 refine sS (iT hN hi hx (xC (pD aK hv (pD aK hu yC)) rfl rfl (by simp) (by simp)) hs hf) λp hp=>?_;have sR:aw R (upd H p (.dK [])):=E.sub.trans (aw.fresh hp _);refine hk σ H0 R0 H R E _ _ sR ?_;refine hl σ H0 R0 H R E _ _ sR ?_;refine⟨aB,[(Sum.inl k,.int v),(Sum.inl l,.int u)],rfl,(by show 2<=15;decide),?_⟩;have E1:=E.grow (Ext.eD E.sub hp (.dK (cz (cG [(k,v),(l,u)]))));have e:upd (upd H p (.dK [])) p (.dK (ku [] [(Sum.inl k,.int v),(Sum.inl l,.int u)]))=upd H p (.dK (cz (cG [(k,v),(l,u)]))):=by
  rw[sQ];congr 2;show putK [((Sum.inl k:Key),V.int v)] (Sum.inl l) (.int u)=_;rw[pK (.int u) (by
   rw[dz (p:=((Sum.inl k:Key),V.int v)) (λz=>ZO (Sum.inl.inj z))];rfl)]
  rfl
 rw[e];exact dn _ _ R _ (E1.vU (u:=.dK (cz (cG [(k,v),(l,u)]))) (en:=.di (cG [(k,v),(l,u)])) i ⟨p,rfl,aB,E.sub.free hp⟩ (E.ext.h.free hp) λj e _ q w=>E.off hp j e q w) (aw.refl _) h
theorem GY {iter:Expr}(hz:xs.length<=S8)(h:EV X iter Γ aq (.tup xs) Γ1):IV X tg iter Γ aq xs Γ1:=by
 refine⟨_,AL aK,λσ H0 R0 H R E Rq q=>h σ H0 R0 H R E _ λv H1 R1 E1 s1 e1=>?_⟩;cases e1 with
 | @tup a vs _ hp pp=>
   have X4:∀H' R':Hp,aw R1 R'->aw R' H'->dR X.K H' a vs:=λH' R' sR sH=>dR.of (sH _ _ (sR _ _ hp));refine⟨a,rfl,⟨_,X4 H1 R1 (aw.refl _) E1.sub⟩,q _ H1 R1 E1 s1 hz λH' R' sR sH i=>⟨λx hx=>?_,λhi=>⟨_,X4 H' R' sR sH,by rw[pp.pair.length];exact hi⟩⟩⟩;obtain⟨v,hv,hr⟩:=ft pp.pair hx;refine⟨⟨_,_,X4 H' R' sR sH,hv⟩,λv2 H2 hy=>?_⟩;obtain⟨rfl,hy⟩:=hy;have:=hy _ (X4 _ R' sR sH);rw[hv] at this;cases this
   exact⟨R',Ext.refl sH,hr.mono sR⟩
theorem nk (i:Nat){p:Pos}(hm:X.mg "len"=none)(hΓ:Γ[i]?=some (.di (cG F)))(hN:autoParam (At X i x) cg)(hs:fK X (.Name x p1):=by rfl)(hg:Gl X "len":=by rfl):EV X (.Call (.Name "len" p) [.Name x p1] [] pos) Γ ag (F.length:Int) Γ:=by
 intro σ H0 R0 H R E Q q;obtain⟨a,ea,ha,hR⟩:=E.ent i _ hΓ;refine eS (ee tM hg hm Tu (aH (aV hN) bo hs) (by decide) (by decide) hs) ⟨.ref a,at_of ea,a,_,rfl,ha,?_⟩;unfold cz cG;rw[Qg,Qg];exact q _ H R E (aw.refl _) rfl
abbrev iX:=Str×Str×Int×Int×Int
def fM (w:iX):PV:=.tup [.str w.1,.str w.2.1,.int w.2.2.1,.int w.2.2.2.1,.int w.2.2.2.2]
def wJ:Rep iX:=⟨λK H v w=>aq.R K H v (fM w),λs h=>aq.mono s h⟩
theorem AY {w:iX}(h:wJ.R K R v w):∃a,v= .ref a/\R a=some (.tup [.str w.1,.str w.2.1,.int w.2.2.1,.int w.2.2.2.1,.int w.2.2.2.2]):=by
 have h:iq R v (fM w):=h;unfold fM at h;cases h with
 | tup hp pp=>
   cases pp with
   | cons h1 t=>cases t with
     | cons h2 t=>cases t with
       | cons h3 t=>cases t with
         | cons h4 t=>cases t with
           | cons h5 t=>cases t;cases h1;cases h2;cases h3;cases h4;cases h5;exact⟨_,rfl,hp⟩
theorem yc {K:Vr}{R:Hp}:∀{vs:List V}{ws:List iX},PySem.Paired (aq.R K R) vs (ws.map fM)->PySem.Paired (wJ.R K R) vs ws
 | _,[],.nil=>.nil
 | _,_::_,.cons h t=>.cons h (yc t)
theorem EV.N2 {ws:List iX}(h:EV X e Γ (ae aq) (ws.map fM) Γ1):EV X e Γ (ae wJ) ws Γ1:=h.re λK R v ⟨a,vs,e,q,p,z⟩=>⟨a,vs,e,q,yc p,by rw[Qg] at z;exact z⟩
theorem E7 (i1 i2 i3 i4 i5:Nat){x1 x2 x3 x4 x5:Str}{k:Nat}{p3 p4 p5:Pos}(hc:X.calm=true:=by rfl)(hN:X.N.Nodup:=by first | assumption | decide)(h1:X.N[i1]?=some x1:=by rfl)(l1:autoParam (Loc X.env.scope x1) Xe)(f1:autoParam (fQ X x1) Xd)(h2:X.N[i2]?=some x2:=by rfl)(l2:autoParam (Loc X.env.scope x2) Xe)(f2:autoParam (fQ X x2) Xd)(h3:X.N[i3]?=some x3:=by rfl)(l3:autoParam (Loc X.env.scope x3) Xe)(f3:autoParam (fQ X x3) Xd)(h4:X.N[i4]?=some x4:=by rfl)(l4:autoParam (Loc X.env.scope x4) Xe)(f4:autoParam (fQ X x4) Xd)(h5:X.N[i5]?=some x5:=by rfl)(l5:autoParam (Loc X.env.scope x5) Xe)(f5:autoParam (fQ X x5) Xd):
 BG X (.Tuple [.Name x1 p1,.Name x2 p2,.Name x3 p3,.Name x4 p4,.Name x5 p5] k pos) wJ (λw Γ=>((((Γ.set i1 (.im ar w.1)).set i2 (.im ar w.2.1)).set i3 (.im ag w.2.2.1)).set i4 (.im ag w.2.2.2.1)).set i5 (.im ag w.2.2.2.2)):=λσ H0 R0 H R Γ v w E h Q q=>by
 obtain⟨a,rfl,ha⟩:=AY h;exact gS (xf hc (fX (gg hN h1 l1 f1) (fX (gg hN h2 l2 f2) (fX (gg hN h3 l3 f3) (fX (gg hN h4 l4 f4) (fX (gg hN h5 l5 f5) rP)))))) ⟨a,_,rfl,dR.of (E.sub _ _ ha),rfl,_,_,rfl,_,_,rfl,_,_,rfl,_,_,rfl,_,_,rfl,rfl,q _ (((((E.set i1 (r:=ar) rfl).set i2 (r:=ar) rfl).set i3 rfl).set i4 rfl).set i5 rfl)⟩
theorem WS.unb (i:Nat){xs:List α}(hΓ:Γ[i]?=some (.ob (aO a r xs)))(h:WS X W0 (Γ.set i (.mu r xs)) N T):WS X W0 Γ N T:=λσ H0 R0 H R E D dn dr=>by
 obtain⟨ea,⟨vs,ha,pp⟩,hR⟩:=dD (E.ent i _ hΓ);refine h σ H0 R0 H R (E.tell (en:=.mu r xs) hΓ (by rw[ea];exact⟨a,vs,rfl,ha,hR,pp⟩) λb w=>?_) D dn dr;rw[ea] at w;exact w
theorem WS.L8 (i:Nat)(hΓ:Γ[i]?=some (.di (cG F)))(h:WS X W0 (Γ.set i (.im jy F)) N T):WS X W0 Γ N T:=λσ H0 R0 H R E D dn dr=>by
 obtain⟨a,ea,ha,hR⟩:=E.ent i _ hΓ;have h0:H0 a=none:=E.new i _ a hΓ rfl ea;have E1:au X.K σ H0 R0 H R (Γ.set i .no):=E.tell (en:=.no) hΓ trivial λb w=>by cases w
 have off:Off a σ (Γ.set i .no):=λj e q w=>by
  rcases set_at q with⟨rfl,rfl,_⟩ | ⟨hj,q1⟩
  ·cases w
  ·exact hj (E.ds j i e _ a q1 hΓ w (cf.mpr ea))
 have E2:=E1.qZ ha hR h0 off;have hl:i<Γ.length:=(Qc.mp hΓ).1;have E3:=E2.tell (i:=i) (en:=.im jy F) (e0:=.no) (Qp hl) ⟨.ref a,ea,a,rfl,aB⟩ λb w=>by cases w
 rw[Ra] at E3;exact h σ H0 R0 H _ E3 D (λσ2 H2 R2 Γ2 E4 s2=>dn σ2 H2 R2 Γ2 E4 ((aw.fresh hR _).trans s2)) dr
theorem pM {a:Expr}{p:Pos}(hm:X.mg "len"=none)(ha:EV X a Γ jy F Γ1)(hs:fK X a:=by rfl)(hg:Gl X "len":=by rfl):EV X (.Call (.Name "len" p) [a] [] pos) Γ ag (F.length:Int) Γ1:=
 EV.cast (sF (kvs:=cG F) hm (EV.rep ha λ_ _ q=>q) hs hg) (by unfold cG;rw[Qg])
theorem Cg :EV X (.Constant .none j pos) Γ DJ () Γ:=λσ H0 R0 H R E Q q=>eS JN (q .Wb H R E (aw.refl _) rfl)
variable {c0:Nat}
section
variable {xs:PH}{rs:List Row}{c:Addr}
def Ii:V->List V->Hp->VK->Prop:=λx vs H Q=>∃l xs,x= .ref l/\vs=[]/\H l=some (.lst xs)/\Q .Wb (upd H l (.lst []))
theorem uS:AK X "list.clear" Ii:=by
 intro VZ s σ H x vs v us Q I rx rv h;obtain⟨l,xs,rfl,rfl,hH,q⟩:=h;cases rx
 have hus:=rv.zero;subst hus;obtain⟨z,V1,n,r,hl,e⟩:=I.lT hH;refine TR U0 ⟨_,e,rfl⟩ PySem.F.entry_list_clear (PySem.F.args_list_clear_1 _) (PySem.AutoSeq1.list_clear_list_0 l V1.toArray n (by rw[Qx];omega)) ⟨e,?_⟩;exact⟨.Wb,_,I.uP (its':=[]) hH e rfl .nil (Si _),rfl,q⟩
theorem AJ:eJ X (Tj .IsNot) (λx y H Q=>∃a b,x= .bl a/\y= .bl b/\Q (.bl (a != b)) H):=by
 intro VZ s σ H x y v u Q I rx ry h;obtain⟨a,b,rfl,rfl,q⟩:=h;cases rx
 cases ry
 exact isnot_bool (bN I q rfl)
theorem Dg {x y:Bool}:iy X .IsNot bM bM x y (x != y):=⟨_,AJ,λR H v u Q _ e1 e2 q=>⟨x,y,e1,e2,q⟩⟩
def o8 (a b c:Addr)(xs:PH)(rs:List Row):oY where
 fp:=[a,b,c]
 R:=λK H R v=>v= .ref a/\(a≠b/\a≠c/\b≠c)/\H a=some (.tup [.ref b,.ref c])/\(∃ws,H b=some (.lst ws)/\PySem.Paired (ag.R K R) ws xs)/\∃zs,H c=some (.lst zs)/\PySem.Paired (cX.R K R) zs rs
 loc:=λhH hR ⟨e,n,ha,⟨ws,hb,pb⟩,zs,hc,pc⟩=>⟨e,n,(hH _ (by simp)).trans ha,⟨ws,(hH _ (by simp)).trans hb,Paired.map (λ_ _=>ag.mono hR) pb⟩,zs,(hH _ (by simp)).trans hc,Paired.map (λ_ _=>cX.mono hR) pc⟩
 has:=λ⟨_,_,ha,⟨ws,hb,_⟩,zs,hc,_⟩ x hx=>by
  simp only[Qq,QL,or_false] at hx;rcases hx with rfl | rfl | rfl
  ·rw[ha];exact SQ _
  ·rw[hb];exact SQ _
  ·rw[hc];exact SQ _
def zt (K:Vr)(P:PH->List Row->Prop):RT:=λH0 v H' R'=>∃a b c xs rs,(o8 a b c xs rs).R K H' R' v/\(∀x∈[a,b,c],H0 x=none/\R' x=none)/\P xs rs
theorem Gu (i:Nat){e0:Expr}{k:Nat}{P:PH->List Row->Prop}(h0:ba X e0 Γ ag xs Γ)(hΓ:Γ[i]?=some (.mu cX rs))(h:P xs rs)(hN:autoParam (At X i y) cg)(s0:Td [e0,.Name y p1] X.env=(false,eval e0 X.env)::Td [.Name y p1] X.env:=by rfl)(s1:du X (.Name y p1) []:=by rfl):
 W1 X (.Return (some (.Tuple [e0,.Name y p1] k p2)) pos) Γ N (zt X.K P):=λσ H0 R0 H R E D dn dr=>by
 refine sS (kQ (qw (aH aK (aH (aV hN) bo s1) s0))) ?_;refine h0 σ H0 R0 H R E _ λb ws H1 R1 E1 s1 hb hRb hb0 off pb _=>?_;obtain⟨c,zs,ec,hc,YI,pc⟩:=E1.ent i _ hΓ;refine⟨.ref c,at_of ec,by show 2<=S8;decide,λp hp=>?_⟩;have hc0:H0 c=none:=E1.nw i _ c hΓ (cf.mpr ec);have npb:p≠b:=λe=>by rw[e,hb] at hp;cases hp
 have npc:p≠c:=λe=>by rw[e,hc] at hp;cases hp
 have nbc:b≠c:=λe=>off i _ hΓ (by rw[e];exact cf.mpr ec);refine dr _ _ R1 (E1.grow (Ext.eD E1.sub hp (.tup [.ref b,.ref c]))).ext ⟨p,b,c,xs,rs,⟨rfl,⟨npb,npc,nbc⟩,aB,⟨ws,by rw[aD (SN npb)];exact hb,pb⟩,zs,by rw[aD (SN npc)];exact hc,pc⟩,λx hx=>?_,h⟩;simp only[Qq,QL,or_false] at hx;rcases hx with rfl | rfl | rfl
 ·exact⟨E1.ext.h.free hp,E1.sub.free hp⟩
 ·exact⟨hb0,hRb⟩
 ·exact⟨hc0,YI⟩
theorem Di (i:Nat){k:Nat}{p:Pos}{ps:List Pk}{Pd:PH->List Row->Prop}(C:aE X.prog X.w X.K X.mg X.base x k (aM S X.K))(hr:bG k X.A)(ha:HA X (e::es) Γ ps Γ1)(hS:S X.K ps (zt X.K Pd))(h:∀a b c xs rs,Pd xs rs->N (Γ1.set i (.ob (o8 a b c xs rs))))(hg:Gl X x:=by rfl)(Wu:WW x:=by decide)(he:du X e es:=by rfl)(Wg:fm X p2 es:=by rfl)(hN:X.N.Nodup:=by first | assumption | decide)(hi:X.N[i]?=some y:=by rfl)(hx:autoParam (Loc X.env.scope y) Xe)(hs:Tf (.Call (.Name x p) (e::es) [] p2) (some (.Name y p1)) pos.line X.env=pure false:=by rfl)(hf:autoParam (fQ X y) Xd):
 W1 X (.Assign [.Name y p1] (.Call (.Name x p) (e::es) [] p2) pos) Γ N T:=λσ H0 R0 H R E D dn dr=>
 sS (iT hN hi hx aK hs hf) (nv C hr ha hS E (λH1 R1 v H' R' E1 s1 xx t=>by
  obtain⟨a,b,c,xs,rs,hB,hn,h4⟩:=t;have hv:v= .ref a:=hB.1;subst hv;refine dn _ H' R' _ ((E1.grow xx).setG (en:=.ob (o8 a b c xs rs)) i ⟨⟨.ref a,rfl,hB⟩,λb hb=>(hn b hb).2⟩ (λb hb=>E1.ext.h.free (hn b hb).1) λb hb j e _ qj w=>?_) (s1.trans xx.r) (h a b c xs rs h4);exact(Ent.fE (E1.ent j e qj) w).1 (hn b hb).1) hg Wu he Wg)
theorem L7 (hΓ:Γ[i]?=some (.ob (o8 a b c xs rs)))(hz:xs.length<=S8)(Yz:rs.length<=S8)(σ:St)(H0 R0 H R:Hp)(E:au X.K σ H0 R0 H R Γ):au X.K σ H H H H ((Γ.map lJ).set i (.im (dS (ae ag) (ae cX)) (xs,rs))):=by
 obtain⟨⟨v,ea,rfl,n,ha,⟨ws,hb,pb⟩,zs,hc,pc⟩,hR⟩:=E.ent i _ hΓ;exact E.WT.jX (i:=i) (e0:=.no) (by rw[Ql,hΓ];rfl) ⟨.ref a,ea,a,.ref b,.ref c,rfl,ha,⟨b,ws,rfl,hb,Paired.map (λ_ _=>ag.mono E.sub) pb,hz⟩,c,zs,rfl,hc,Paired.map (λ_ _=>cX.mono E.sub) pc,Yz⟩ λb w=>by cases w
theorem Hb (i:Nat){p3:Pos}(hΓ:Γ[i]?=some (.ob (o8 a b c xs rs)))(h:N (Γ.set i (.ob (o8 a b c xs []))))(hN:autoParam (At X i x) cg)(WJ:Tf (.Call (.Attribute (.Subscript (.Name x p1) (.Constant (.int 1) c0 p3) p2) "clear" ap) [] [] cp) none pos.line X.env=pure false:=by rfl)(V7:T7 (.Subscript (.Name x p1) (.Constant (.int 1) c0 p3) p2) "clear" X.env (eval (.Subscript (.Name x p1) (.Constant (.int 1) c0 p3) p2) X.env)=eval (.Subscript (.Name x p1) (.Constant (.int 1) c0 p3) p2) X.env:=by rfl)(V6:(ap.endLine==cp.line)=true:=by rfl):
 W1 X (.Expr (.Call (.Attribute (.Subscript (.Name x p1) (.Constant (.int 1) c0 p3) p2) "clear" ap) [] [] cp) pos) Γ N T:=λσ H0 R0 H R E D dn dr=>by
 refine sS (d9 (xc UW U0 PySem.F.type_list_clear uS (gG rE (aV hN) rF (λ_ _=>rfl)) V7 V6) WJ) ?_;obtain⟨⟨v,ea,rfl,n,ha,⟨ws,hb,pb⟩,zs,hc,pc⟩,hR⟩:=E.ent i _ hΓ;refine⟨.ref a,at_of ea,a,_,1,.ref c,rfl,rfl,dR.of ha,rfl,.inl ⟨rfl,_,bt.of hc⟩,c,zs,rfl,rfl,hc,?_⟩;refine dn σ _ R _ (E.mS (en:=.ob (o8 a b c xs [])) hΓ (show c∈[a,b,c] by simp) ⟨⟨.ref a,ea,rfl,n,?_,⟨ws,?_,pb⟩,_,aB,.nil⟩,hR⟩ λc w=>.inl w) (aw.refl _) h
 ·rw[aD n.2.1];exact ha
 ·rw[aD n.2.2];exact hb
theorem Cp (i:Nat){p3:Pos}(hΓ:Γ[i]?=some (.ob (o8 a b c xs rs)))(h:N (Γ.set i (.ob (o8 a b c [] rs))))(hN:autoParam (At X i x) cg)(WJ:Tf (.Call (.Attribute (.Subscript (.Name x p1) (.Constant (.int 0) c0 p3) p2) "clear" ap) [] [] cp) none pos.line X.env=pure false:=by rfl)(V7:T7 (.Subscript (.Name x p1) (.Constant (.int 0) c0 p3) p2) "clear" X.env (eval (.Subscript (.Name x p1) (.Constant (.int 0) c0 p3) p2) X.env)=eval (.Subscript (.Name x p1) (.Constant (.int 0) c0 p3) p2) X.env:=by rfl)(V6:(ap.endLine==cp.line)=true:=by rfl):
 W1 X (.Expr (.Call (.Attribute (.Subscript (.Name x p1) (.Constant (.int 0) c0 p3) p2) "clear" ap) [] [] cp) pos) Γ N T:=λσ H0 R0 H R E D dn dr=>by
 refine sS (d9 (xc UW U0 PySem.F.type_list_clear uS (gG rE (aV hN) rF (λ_ _=>rfl)) V7 V6) WJ) ?_;obtain⟨⟨v,ea,rfl,n,ha,⟨ws,hb,pb⟩,zs,hc,pc⟩,hR⟩:=E.ent i _ hΓ;refine⟨.ref a,at_of ea,a,_,0,.ref b,rfl,rfl,dR.of ha,rfl,.inl ⟨rfl,_,bt.of hb⟩,b,ws,rfl,rfl,hb,?_⟩;refine dn σ _ R _ (E.mS (en:=.ob (o8 a b c [] rs)) hΓ (show b∈[a,b,c] by simp) ⟨⟨.ref a,ea,rfl,n,?_,⟨_,aB,.nil⟩,zs,?_,pc⟩,hR⟩ λc w=>.inl w) (aw.refl _) h
 ·rw[aD n.1];exact ha
 ·rw[aD (SN n.2.2)];exact hc
end
def Ec (k:Str):Value->Bool
 | .str x _=>decide (x=k)
 | _=>false
def Gz:V->List V->Hp->VK->Prop:=λx vs H Q=>∃(l:Addr)(ns:PJ)(k:Str)(j:Nat),x= .ref l/\vs=[.str k]/\H l=some (.lst (ns.map V.str))/\ns[j]?=some k/\(∀m,m<j->ns[m]?≠some k)/\Q (.int (j:Nat)) H
theorem As:xV X "list.index" Gz:=by
 intro VZ s σ H x vs v us Q I rx rv h;obtain⟨l,ns,k,j,rfl,rfl,hH,hj,Yi,q⟩:=h;cases rx
 obtain⟨u,rfl,t,rfl⟩:=rv.one;obtain⟨hz,V1,m,r1,hl,ho⟩:=I.lT hH;have jl:j<ns.length:=(Qc.mp hj).1;have YF:V1.length=ns.length:=by rw[← hl,Qg]
 have at_:∀(n:Nat)(h1:n<V1.length)(h2:n<ns.length),∃t',V1[n]= .str ns[n] t':=λn h1 h2=>by
  obtain⟨u,e1,t',e2⟩:=r1.get (show(ns.map V.str)[n]?=some (.str ns[n]) by rw[Ql,Qd h2];rfl);rw[Qd h1] at e1;exact⟨t',(Option.some.inj e1).trans e2⟩
 refine TR PySem.F.slot_list_index ⟨_,ho,rfl⟩ PySem.F.entry_list_index (PySem.F.args_list_index_2 _ _)
  (SeqAt.list_indexAt l V1.toArray m _ _ (.str k t) (Ec k) j (by simpa[YF] using jl) ?_ ?_ ?_) ⟨ho,λw hw=>?_,?_⟩
 ·have:S8<2 ^ 63-1:=by decide
  rw[Qg] at hz;omega
 ·obtain⟨t',e⟩:=at_ j (by omega) jl;show Ec k V1[j]=true;rw[e];rw[Qd jl] at hj;exact VT (Option.some.inj hj)
 ·intro n hn hnj;obtain⟨t',e⟩:=at_ n (by simpa using hn) (by omega);show Ec k V1[n]=false;rw[e];refine VU λz=>Yi n hnj ?_;rw[Qd (by omega),z]
 ·have hw:w∈V1:=by simpa using hw
  obtain⟨n,hn,rfl⟩:=R6.mp hw;obtain⟨t',e⟩:=at_ n hn (by omega);rw[e];intro prog w E Q hq;exact wpAny_eqBool_str hq
 ·exact⟨.int _,H,I.tok _,⟨_,rfl⟩,q⟩
theorem Cc {a:Expr}{k:Str}(ha:EV X a Γ (ae ar) ns Γ1)(he:EV X e Γ1 ar k Γ2)(hj:ns[j]?=some k)(Yi:∀m,m<j->ns[m]?≠some k)(V7:fD X a "index":=by rfl)(Wj:nF X cp [e]:=by rfl)(V6:(ap.endLine==cp.line)=true:=by rfl)(hs:du X e []:=by rfl):EV X (.Call (.Attribute a "index" ap) [e] [] cp) Γ ag (j:Nat) Γ2:=λσ H0 R0 H R E Q q=>by
 refine eS (iY UW PySem.F.slot_list_index PySem.F.type_list_index As aK (aH aK bo hs) V7 Wj V6 hs rfl) (ha σ H0 R0 H R E _ λv H1 R1 E1 s1 e1=>?_);obtain⟨b,vs,rfl,hb,pp,hz⟩:=e1;have ev:=mn pp;subst ev;refine⟨.inl ⟨rfl,_,bt.of (E1.sub _ _ hb)⟩,he σ H0 R0 H1 R1 E1 _ λu H2 R2 E2 s2 e2=>?_⟩;cases e2
 exact⟨b,ns,k,j,rfl,rfl,E2.sub _ _ (s2 _ _ hb),hj,Yi,q _ _ _ E2 (s1.trans s2) rfl⟩
theorem ints4 {a b c d:Int}(h:eR R vs [.int a,.int b,.int c,.int d]):vs=[.int a,.int b,.int c,.int d]:=by
 cases h with
 | cons h1 t=>cases t with
   | cons h2 t=>cases t with
     | cons h3 t=>cases t with
       | cons h4 t=>cases t;cases h1;cases h2;cases h3;cases h4;rfl
theorem G7 {k:Nat}{r:Row}(h:EA X es Γ aq [.int r.1,.int r.2.1,.int r.2.2.1,.int r.2.2.2] Γ1):EV X (.Tuple es k pos) Γ cX r Γ1:=
 EV.re (jo h (by show 4<=S8;decide)) λK R v e=>by
   cases e with
   | tup hp pp=>rw[ints4 pp] at hp;exact⟨_,rfl,hp⟩
theorem j5 {n:Int}(R H:Hp)(v:V)(_:aw R H)(h:aq.R K R v (.int n)):eY K H v (.type "int"):=by cases h;exact .int _
theorem j6 (R H:Hp)(v:V)(_:aw R H)(h:aq.R K R v (.str x)):eY K H v (.type "str"):=by cases h;exact .str _
theorem xI {K:Vr}{R:Hp}:∀{vs:List V}{xs:List Row},PySem.Paired (cX.R K R) vs xs->eR R vs (xs.map λr=>.tup [.int r.1,.int r.2.1,.int r.2.2.1,.int r.2.2.2])
 | _,_,.nil=>.nil
 | _,_,.cons ⟨a,e,q⟩ t=>by
   subst e;exact .cons (.tup q (.cons (.int _) (.cons (.int _) (.cons (.int _) (.cons (.int _) .nil))))) (xI t)
def hX (r:Row):PV:=.tup [.int r.1,.int r.2.1,.int r.2.2.1,.int r.2.2.2]
def V9 (v:lB):PV:=.tup [.lst (v.1.map PV.int),.lst (v.2.map hX)]
theorem EV.Pg {v:lB}(h:EV X e Γ u7 v Γ1):EV X e Γ aq (V9 v) Γ1:=h.re λK R u ⟨a,v1,v2,e,q,⟨a1,vs1,e1,q1,p1,z1⟩,⟨a2,vs2,e2,q2,p2,z2⟩⟩=>by
 subst e e1 e2;exact .tup q (.cons (.lst q1 (sg p1) (by rw[Qg];exact z1)) (.cons (.lst q2 (xI p2) (by rw[Qg];exact z2)) .nil))
end Fc
namespace K1
open PySem L2 Fc
open PySem.Spec hiding Row
open PyProof.Rows hiding St
open PySem.Builtin.Int (intBits)
variable {P:Tb}{w:World}{K:Vr}{mg:Pz}{base:Heap}{f:Addr}{fd:Tg}
abbrev aJ (x:Int):Ent:=.im ag x
abbrev jF (x:PH):Ent:=.im (ae ag) x
theorem nU {x y:Int}(h0:0<=x)(h1:x<4294967296):UD x y:=.of_left (Ul (by omega) (by omega))
variable {n:Nat}{i:Int}
theorem AI (h0:0<=i)(h1:i<n):ij n i=some i.toNat:=by unfold ij;rw[VQ h0,VQ h1]
abbrev vZ:Rep (Int×Int):=dS ag ag
theorem aT (h:n<=1000000):n<=S8:=Sh h (by decide)
theorem bw {α:Type}{xs:List α}(d:α)(h0:0<=i)(h1:i<xs.length):cE xs i=some (xs.getD i.toNat d):=by
 rw[gP h0 h1,Qd (by omega),Qh,Qd (by omega)];rfl
end K1
namespace K1
open PySem
variable {P:Tb}{w:World}{K:Vr}{mg:Pz}{base:Heap}{f:Addr}{fd:Tg}
abbrev top (i:Nat):Stmt:=PySem.Challenge.pw_fewcounters_k65_whole_webs_of_programs.main.body.getD i (.Pass ⟨0,0,0,0⟩)
abbrev xn:Nat:=13
abbrev uV:Nat:=14
abbrev Cn:Nat:=15
abbrev qo:Nat:=16
abbrev rH:Nat:=17
abbrev pC:Nat:=18
abbrev rA:Nat:=19
abbrev uG:Nat:=20
abbrev qS:Nat:=21
abbrev zO:Nat:=22
abbrev GF:Nat:=31
abbrev Ek:Nat:=32
abbrev FT:Nat:=33
abbrev wX:Nat:=34
abbrev rM:Nat:=35
abbrev zY:Nat:=36
abbrev pN:Nat:=37
abbrev xl:Nat:=38
abbrev xt:Nat:=39
abbrev uf:Nat:=40
abbrev BE:Nat:=41
abbrev vS:Nat:=42
abbrev zI:Nat:=43
abbrev zU:Nat:=44
abbrev wR:Nat:=45
abbrev rh:Nat:=48
abbrev t9:Nat:=49
abbrev t7:Nat:=50
abbrev sE:Nat:=51
abbrev pE:Nat:=52
abbrev zN:Nat:=53
abbrev r6:Nat:=54
abbrev ua:Nat:=55
abbrev oR:Nat:=56
abbrev rW:Nat:=57
abbrev pH:Nat:=58
abbrev qQ:Nat:=59
abbrev AS:Nat:=61
abbrev uc:Nat:=63
abbrev vk:Nat:=64
abbrev vq:Nat:=65
abbrev sL:Nat:=66
abbrev ug:Nat:=67
abbrev vd:Nat:=68
abbrev uh:Nat:=69
abbrev ub:Nat:=70
abbrev vo:Nat:=71
abbrev pT:Nat:=72
abbrev t6:Nat:=73
abbrev uH:Nat:=74
abbrev sy:Nat:=75
abbrev xo:Nat:=76
abbrev vb:Nat:=77
abbrev Il:Nat:=78
end K1
namespace K1
open PySem L2 Fc
open PySem.Spec hiding Row
open PyProof.Rows hiding St
open PySem.Builtin.Int (intBits)
variable {P:Tb}{w:World}{K:Vr}{mg:Pz}{base:Heap}{f:Addr}{fd:Tg}
structure cD (K:Vr)(mg:Pz):Prop where
 len:mg "len"=none
 min:mg "min"=none
 range:mg "range"=none
 int:mg "int"=none
 list:mg "list"=none
 zip:mg "zip"=none
 enumerate:mg "enumerate"=none
 reversed:mg "reversed"=none
 any:mg "any"=none
 all:mg "all"=none
def z4 (c:Int):Nat->Int
 | 0=>c
 | n+1=>z4 c n/2147483587
def iI (d k:Int):Int:=d%10 ^ 18+48271*(k+1)
def pO (u k:Int):Int:=u*u%2147483629+69621*k
def uZ (d k:Int):Int:=pO (iI d k) k*pO (iI d k) k%2147483587
def vi (ns:PH)(k:Int):Int:=z4 (ns.getD (k/8%63).toNat 0/10 ^ 18) (k%8).toNat
def uj (ns:PH)(k:Int):Bool:=decide (k/8%63<(ns.length:Int))&&decide (10 ^ 18<=ns.getD (k/8%63).toNat 0)
def aY (ns:PH)(k:Int):Int:=
 if uj ns k=true/\0<vi ns k then vi ns k%2147483587
 else uZ (if 0<ns.length then ns.getD (k%(ns.length:Int)).toNat 0 else 0) k
theorem yk (ns:PH)(k:Int):0<=aY ns k/\aY ns k<2147483587:=by
 unfold aY;split
 ·exact⟨P8 _ (by decide),P7 _ (by decide)⟩
 ·unfold uZ;exact⟨P8 _ (by decide),P7 _ (by decide)⟩
abbrev EG:Stmt:=top uc
abbrev Nf:PJ:=["_law_script","_law_k","_law_at","_law_cell","_law_j","_law_number"]
structure AD (ns:PH):Prop where
 l:ns.length<=63
 b:∀n∈ns,intBits n<=2 ^ 20
def Og:cS:=λK ps T=>∃(ns:PH)(k:Int),ps=[⟨c6,ns⟩,⟨ag,k⟩]/\AD ns/\0<=k/\k<=1000000/\T=cU K ag (· =aY ns k)
theorem MI (M:cD K mg)(Df:Def K mg "_law_mixed" EG ["_law_script","_law_k"]):aE P w K mg base "_law_mixed" 1 (aM Og K):=by
 refine bD (N:=Nf) Df (λf V2 A outer s H E qs T nd hr hS=>?_);obtain⟨ns,k,rfl,hs,k0,k1,rfl⟩:=hS;have h63:=hs.l;have a0:=P8 (k/8) (show(63:Int)≠0 by decide);refine ai (bg 2 (dB (mh (aa 1 rfl) ev_int ⟨by decide,by decide⟩) ev_int (by decide)) ?_);have rest:∀e3 e4:Ent,¬(uj ns k=true/\0<vi ns k)->WS (fI eX P w K mg base Nf "_law_mixed" (ao EG) f V2 A outer s H E).i6 ((bP EG).drop 2) [.im c6 ns,aJ k,aJ (k/8%63),e3,e4,.no] (λ_=>False) (cU K ag (· =aY ns k)):=by
  intro e3 e4 hn;refine ai (bg 3 ev_int ?_);change WS _ _ [.im c6 ns,aJ k,aJ (k/8%63),aJ 0,e4,.no] _ _;refine bS (N1:=λΓ=>Γ=[.im c6 ns,aJ k,aJ (k/8%63),aJ (if 0<ns.length then ns.getD (k%(ns.length:Int)).toNat 0 else 0),e4,.no]) (a8 (aA kM (sD M.len (aa 0 rfl)) ev_int) (λh=>?_) (λh=>aF ?_)) ?_
  ·have hl:(0:Int)<ns.length:=VR h;have hmin:(if(ns.length:Int)<63 then(ns.length:Int) else 63)=ns.length:=by
    by_cases q:(ns.length:Int)<63
    ·rw[VQ q]
    ·rw[VP q];omega
   have q0:=P8 k (show(ns.length:Int)≠0 by omega);have q1:=P7 k hl;refine aj (bg 3 (vI (aa 0 rfl) (dB (aa 1 rfl) (EV.cast (G9 M.min (ah ev_int (ah (sD M.len (aa 0 rfl)) ax))) hmin) hl) (bw 0 q0 q1)) ?_);rw[VQ (by omega:0<ns.length)];rfl
  ·have hl:¬(0:Int)<ns.length:=VS h;rw[VP (by omega)]
  rintro _ rfl;have e:aY ns k=uZ (if 0<ns.length then ns.getD (k%(ns.length:Int)).toNat 0 else 0) k:=by unfold aY;rw[VP hn]
  rw[e];generalize (if 0<ns.length then ns.getD (k%(ns.length:Int)).toNat 0 else 0)=d;have u0:=P8 d (show(10:Int) ^ 18≠0 by decide);have u1:=P7 d (show(0:Int)<10 ^ 18 by decide);refine ai (bg 5 (y:=iI d k) (ck (dB (aa 3 rfl) (uR ev_int ev_int ⟨by decide,by decide,by decide⟩) (by decide)) (l6 ev_int (ck (aa 1 rfl) ev_int) (nU (by decide) (by decide)))) ?_);have n0:0<=iI d k:=by unfold iI;omega
  have n1:iI d k<2 ^ 63:=by unfold iI;omega
  have m0:=P8 (iI d k*iI d k) (show(2147483629:Int)≠0 by decide);have m1:=P7 (iI d k*iI d k) (show(0:Int)<2147483629 by decide);refine ai (bg 5 (y:=pO (iI d k) k) (ck (dB (l6 (aa 5 rfl) (aa 5 rfl) (Eo n0 n1)) ev_int (by decide)) (l6 ev_int (aa 1 rfl) (nU (by decide) (by decide)))) ?_);have v0:0<=pO (iI d k) k:=by unfold pO;omega
  have v1:pO (iI d k) k<2 ^ 63:=by unfold pO;omega
  exact aj (aN (dB (l6 (aa 5 rfl) (aa 5 rfl) (Eo v0 v1)) ev_int (by decide)) rfl)
 refine ai (a8 (TW.tv (dg (aA i9 (aa 2 rfl) (sD M.len (aa 0 rfl))) (λh=>eO (aA OC (vI (aa 0 rfl) (aa 2 rfl) (bw 0 a0 (VR h))) (uR ev_int ev_int ⟨by decide,by decide,by decide⟩))))) (λh=>?_) (λh=>aF (rest _ _ (λ⟨q,_⟩=>by rw[show uj ns k=false from h] at q;cases q))))
 have hbig:uj ns k=true:=h;obtain⟨hl,_⟩:=Bool.and_eq_true_iff.mp hbig;have hl:=VR hl;refine ai (bg 3 (wI (vI (aa 0 rfl) (aa 2 rfl) (bw 0 a0 hl)) (uR ev_int ev_int ⟨by decide,by decide,by decide⟩) ⟨by decide,by decide⟩) ?_);have j0:=P8 k (show(8:Int)≠0 by decide);have j1:=P7 k (show(0:Int)<8 by decide);refine bS (N1:=λΓ=>∃e4,Γ=[.im c6 ns,aJ k,aJ (k/8%63),aJ (vi ns k),e4,.no]) (bW (λi Γ=>∃e4,Γ=[.im c6 ns,aJ k,aJ (k/8%63),aJ (z4 (ns.getD (k/8%63).toNat 0/10 ^ 18) i),e4,.no]) (fo M.range (dB (aa 1 rfl) ev_int (by decide)) ⟨by omega,by omega⟩) (aP 4) ⟨_,rfl⟩ (λi j Γ _ hΓ=>?_) (λΓ hΓ=>?_)) ?_
 ·obtain⟨e4,rfl⟩:=hΓ;exact aj (bg 3 (wI (aa 3 rfl) ev_int ⟨by decide,by decide⟩) ⟨_,rfl⟩)
 ·obtain⟨e4,rfl⟩:=hΓ;rw[bU];exact⟨e4,rfl⟩
 rintro _ ⟨e4,rfl⟩;refine aj (a8 (aA kM (aa 3 rfl) ev_int) (λh=>?_) (λh=>aF (rest _ _ (λ⟨_,q⟩=>VO q (VS h)))));have h:0<vi ns k:=VR h;exact aj (aN (dB (aa 3 rfl) ev_int (by decide)) (by unfold aY;rw[VQ ⟨hbig,h⟩]))
abbrev cY:Rep (PH ⊕ Int):=uL c6 ag
abbrev cb (ns:PH)(k c:Int):List (PH ⊕ Int):=[.inl ns,.inr k,.inr c]
abbrev NN:Stmt:=top vk
def xA:nS (PH ⊕ Int):=λK xs ps T=>∃(ns:PH)(k c:Int),xs=cb ns k c/\ps=[]/\AD ns/\0<=k/\k<1000000/\T=λxs'=>cU K ag λz=>xs'=cb ns (k+1) c/\z=aY ns (k+1)
theorem L5 (CM:aE P w K mg base "_law_mixed" 1 (aM Og K))(Df:Def K mg "_law_pull" NN ["_law_pen"]):aE P w K mg base "_law_pull" 2 (iC cY xA K):=by
 refine GN (N:=["_law_pen"]) Df (λf V2 A outer s H E a xs qs T nd hr hS=>?_);obtain⟨ns,k,c,rfl,rfl,hs,k0,k1,rfl⟩:=hS;refine ai (eP 0 (j:=1) (EV.inr (ck (EV.pf (dw 0 ev_int rfl (y:=(Sum.inr k:PH ⊕ Int)) rfl)) ev_int)) ev_int rfl rfl rfl ?_);exact aj (Kn 0 (aI CM hr (ah (EV.ofl (dw 0 ev_int rfl (y:=(Sum.inl ns:PH ⊕ Int)) rfl)) (ah (EV.pf (dw 0 ev_int rfl (y:=(Sum.inr (k+1):PH ⊕ Int)) rfl)) ax)) ⟨ns,k+1,rfl,hs,by omega,by omega,rfl⟩) rfl ⟨rfl,rfl⟩)
abbrev jd:Str:="abcdefghijklmnopqrstuvwxyz"
abbrev jg:PJ:=["part","end","do","call","if","else","while","leave","back"]
def oW (m:Int):Nat->Str
 | 0=>""
 | n+1=>oW m n++lN jd ((m/8+(n:Int)*(m/88))%26).toNat
def Wf (n:Int):Str:=
 if n%4=0 then jg.getD (n/4%9).toNat ""
 else if n%4=1 then jg.getD (n/4%9).toNat ""++lN jd (n/4/9%26).toNat
 else oW (n/4) (1+n/4%8).toNat
structure cP (x:Str):Prop where
 l1:1<=x.length
 l8:x.length<=8
 az:∀c∈x.cps.toList,97<=c/\c<=122
theorem len_app (x y:Str):(x++y).length=x.length+y.length:=by
 show(x.cps++y.cps).size=_;rw[Array.size_append];rfl
theorem sW {x y:Str}{c:Nat}(h:c∈(x++y).cps.toList):c∈x.cps.toList∨c∈y.cps.toList:=by
 have e:(x++y).cps.toList=x.cps.toList++y.cps.toList:=by show(x.cps++y.cps).toList=_;simp
 rw[e] at h;exact Qr.mp h
theorem KU (i:Nat)(h:i<26):97<=jd.cps.getD i 0/\jd.cps.getD i 0<=122:=by
 have:∀j:Fin 26,97<=jd.cps.getD j.val 0/\jd.cps.getD j.val 0<=122:=by decide +kernel
 exact this ⟨i,h⟩
variable {i:Nat}
theorem BW (h:i<26):∀c∈(lN jd i).cps.toList,97<=c/\c<=122:=by
 intro c hc;have:c=jd.cps.getD i 0:=by simpa[lN] using hc
 rw[this];exact KU i h
theorem Oq (x:Int):(x%26).toNat<26:=by
 have:=P8 x (show(26:Int)≠0 by decide);have:=P7 x (show(0:Int)<26 by decide);omega
theorem oy (m:Int):∀n,(oW m n).length=n
 | 0=>rfl
 | n+1=>by rw[oW,len_app,oy m n];rfl
theorem Ak (m:Int):∀n,∀c∈(oW m n).cps.toList,97<=c/\c<=122
 | 0,c,h=>by
   have e:(oW m 0).cps.toList=[]:=rfl;rw[e] at h;cases h
 | n+1,c,h=>by
   rcases sW h with z | z
   ·exact Ak m n c z
   ·exact BW (Oq _) c z
theorem Bi (i:Nat)(h:i<9):cP (jg.getD i "")/\(jg.getD i "").length<=5:=by
 have:∀j:Fin 9,(1<=(jg.getD j.val "").length/\(jg.getD j.val "").length<=5)/\∀c∈(jg.getD j.val "").cps.toList,97<=c/\c<=122:=by decide +kernel
 obtain⟨⟨a,b⟩,c⟩:=this ⟨i,h⟩;exact⟨⟨a,Sh b (by decide),c⟩,b⟩
theorem ji (n:Int):cP (Wf n):=by
 have q0:=P8 (n/4) (show(9:Int)≠0 by decide);have q1:=P7 (n/4) (show(0:Int)<9 by decide);have r0:=P8 (n/4) (show(8:Int)≠0 by decide);have r1:=P7 (n/4) (show(0:Int)<8 by decide);obtain⟨w1,w2⟩:=Bi (n/4%9).toNat (by omega);unfold Wf;split
 ·exact w1
 split
 ·refine⟨?_,?_,λc hc=>?_⟩
  ·rw[len_app];have:=w1.l1;omega
  ·rw[len_app];show _+1<=8;omega
  ·rcases sW hc with z | z
   ·exact w1.az c z
   ·exact BW (Oq _) c z
 ·exact⟨by rw[oy];omega,by rw[oy];omega,Ak _ _⟩
abbrev M1:Stmt:=top vq
abbrev nNM:PJ:=["_law_number","_law_letters","_law_words_here","_law_way","_law_name_here","_law_k"]
def EK:cS:=λK ps T=>∃n:Int,ps=[⟨ag,n⟩]/\0<=n/\n<2147483587/\T=cU K ar (· =Wf n)
theorem MA (M:cD K mg)(Df:Def K mg "_law_name" M1 ["_law_number"]):aE P w K mg base "_law_name" 1 (aM EK K):=by
 refine bD (N:=nNM) Df (λf V2 A outer s H E qs T nd hr hS=>?_);obtain⟨n,rfl,n0,n1,rfl⟩:=hS;have q0:=P8 (n/4) (show(9:Int)≠0 by decide);have q1:=P7 (n/4) (show(0:Int)<9 by decide);have r0:=P8 (n/4) (show(8:Int)≠0 by decide);have r1:=P7 (n/4) (show(0:Int)<8 by decide);have ll:jd.length=26:=by decide +kernel
 have lz:jd.length<=S8:=by rw[ll];decide
 refine ai (bg 1 (y:=jd) ay ?_);refine ai (bg 2 (y:=jg) (ba.im (aR (r:=ar) (ak ay (ak ay (ak ay (ak ay (ak ay (ak ay (ak ay (ak ay (ak ay aL))))))))) (by show 9<=S8;decide))) ?_);refine ai (bg 3 (dB (aa 0 rfl) ev_int (by decide)) ?_);refine ai (bg 0 (mh (aa 0 rfl) ev_int ⟨by decide,by decide⟩) ?_);have hw:cE jg (n/4%9)=some (jg.getD (n/4%9).toNat ""):=bw (xs:=jg) "" q0 (by show _<((9:Nat):Int);omega);refine ai (a8 (aA fT (aa 3 rfl) ev_int) (λh=>?_) (λh=>aF ?_))
 ·have h:n%4=0:=VR h;exact aj (aN (a9 (aa 2 rfl) (dB (aa 0 rfl) ev_int (by decide)) hw) (by unfold Wf;rw[VQ h]))
 have h0:¬n%4=0:=VS h;have wl:=(Bi (n/4%9).toNat (by omega)).2;have s0:=P8 (n/4/9) (show(26:Int)≠0 by decide);have s1:=P7 (n/4/9) (show(0:Int)<26 by decide);refine ai (a8 (aA fT (aa 3 rfl) ev_int) (λh=>?_) (λh=>aF ?_))
 ·have h:n%4=1:=VR h;exact aj (aN (sZ (a9 (aa 2 rfl) (dB (aa 0 rfl) ev_int (by decide)) hw) (Bj (aa 1 rfl) (dB (mh (aa 0 rfl) ev_int ⟨by decide,by decide⟩) ev_int (by decide)) s0 (by rw[ll];exact s1) lz) (Sh (show _<=6 by show _+1<=6;omega) (by decide))) (by unfold Wf;rw[VP h0,VQ h]))
 have h1:¬n%4=1:=VS h;refine ai (bg 4 (y:=oW (n/4) 0) ay ?_);refine bS (N1:=λΓ=>∃e5,Γ=[aJ (n/4),.im ar jd,.im (ae ar) jg,aJ (n%4),.im ar (Wf n),e5]) (bW (λi Γ=>∃e5,Γ=[aJ (n/4),.im ar jd,.im (ae ar) jg,aJ (n%4),.im ar (oW (n/4) i),e5]) (fo M.range (ck ev_int (dB (aa 0 rfl) ev_int (by decide))) ⟨by omega,by omega⟩) (aP 5) ⟨_,rfl⟩ (λi j Γ hj hΓ=>?_) (λΓ hΓ=>?_)) ?_
 ·obtain⟨e5,rfl⟩:=hΓ;obtain⟨jl,ej⟩:=fJ hj;obtain rfl:j=(i:Int):=by omega
  have t0:=P8 (n/4/8+(i:Int)*(n/4/88)) (show(26:Int)≠0 by decide);have t1:=P7 (n/4/8+(i:Int)*(n/4/88)) (show(0:Int)<26 by decide);exact aj (bg 4 (y:=oW (n/4) (i+1)) (sZ (aa 4 rfl) (Bj (aa 1 rfl) (dB (ck (mh (aa 0 rfl) ev_int ⟨by decide,by decide⟩) (l6 (aa 5 rfl) (mh (aa 0 rfl) ev_int ⟨by decide,by decide⟩) (nU (by omega) (by omega)))) ev_int (by decide)) t0 (by rw[ll];exact t1) lz) (by rw[oy];exact Sh (show _<=20 by show _+1<=20;omega) (by decide))) ⟨_,rfl⟩)
 ·obtain⟨e5,rfl⟩:=hΓ;rw[bU];refine⟨e5,?_⟩;have e:Wf n=oW (n/4) (1+n/4%8).toNat:=by unfold Wf;rw[VP h0,VP h1]
  rw[e]
 rintro _ ⟨e5,rfl⟩;exact aj (aN (aa 4 rfl) rfl)
inductive Th
 | Wi (x:Str)
 | call (j:Int)
 | ifs (x:Str) (a b:List Th)
 | V5 (x:Str) (a:List Th)
 | leave
 | back
mutual
def gH:Th->PV
 | .Wi x=>.lst [.str "do",.str x]
 | .call j=>.lst [.str "call",.int j]
 | .ifs x a b=>.lst [.str "if",.str x,.lst (bC a),.lst (bC b)]
 | .V5 x a=>.lst [.str "while",.str x,.lst (bC a)]
 | .leave=>.lst [.str "leave"]
 | .back=>.lst [.str "back"]
def bC:List Th->List PV
 | []=>[]
 | t::ts=>gH t::bC ts
end
theorem fg:∀ts:List Th,bC ts=ts.map gH
 | []=>by rw[bC];rfl
 | t::ts=>by rw[bC,fg ts];rfl
mutual
def dI:Th->Bool
 | .leave=>false
 | .back=>false
 | .ifs _ a b=>c7 a ||c7 b
 | _=>true
def c7:List Th->Bool
 | []=>true
 | t::ts=>dI t&&c7 ts
end
mutual
def fZ:Th->Nat
 | .ifs _ a b=>1+max (dA a) (dA b)
 | .V5 _ a=>1+dA a
 | _=>0
def dA:List Th->Nat
 | []=>0
 | t::ts=>max (fZ t) (dA ts)
end
mutual
def bX:Th->Nat
 | .Wi _=>1
 | .call _=>1
 | .ifs _ a b=>2+bR a+bR b
 | .V5 _ a=>2+bR a
 | _=>0
def bR:List Th->Nat
 | []=>0
 | t::ts=>bX t+bR ts
end
variable {ns:PH}{VY:Int}
section
variable {VX:PH}{n b:Nat}
theorem kq:∀a b:List Th,bR (a++b)=bR a+bR b
 | [],b=>by rw[bR];simp
 | t::a,b=>by rw[Q7,bR,bR,kq a b];omega
theorem mz:∀a b:List Th,dA (a++b)=max (dA a) (dA b)
 | [],b=>by rw[dA];simp
 | t::a,b=>by rw[Q7,dA,dA,mz a b];omega
abbrev Pn:=Int×Int
def Wn (ns VX:PH)(sub:Option (Int->Pn->List Th×Pn))(VY:Int)(s:Pn):Th×Pn:=
 if aY ns (s.1+1)%12=0/\0<VY then(.leave,(s.1+2,s.2))
 else if aY ns (s.1+1)%12=1 then(.back,(s.1+2,s.2))
 else if 9<aY ns (s.1+1)%12/\0<VX.length then(.call (VX.getD (aY ns (s.1+3)%(VX.length:Int)).toNat 0),(s.1+3,s.2-1))
 else match sub with
  | some L=>
    if(3<aY ns (s.1+1)%12/\aY ns (s.1+1)%12<7)/\1<s.2 then(.ifs (Wf (aY ns (s.1+2))) (L VY (s.1+2,s.2-2)).1 (L VY (L VY (s.1+2,s.2-2)).2).1,(L VY (L VY (s.1+2,s.2-2)).2).2)
    else if(6<aY ns (s.1+1)%12/\aY ns (s.1+1)%12<10)/\1<s.2 then(.V5 (Wf (aY ns (s.1+2))) (L (VY+1) (s.1+2,s.2-2)).1,(L (VY+1) (s.1+2,s.2-2)).2)
    else(.Wi (Wf (aY ns (s.1+2))),(s.1+2,s.2-1))
  | none=>(.Wi (Wf (aY ns (s.1+2))),(s.1+2,s.2-1))
def nW:Th->Bool
 | .back=>true
 | _=>false
def iH (ns VX:PH)(sub:Option (Int->Pn->List Th×Pn))(tp:Bool)(VY:Int)(x:List Th×Pn):List Th×Pn:=
 if 0<x.2.2/\c7 x.1=true then
  if tp=true/\x.1.length=0/\nW (Wn ns VX sub VY x.2).1=true then(x.1++[.Wi "back"],((Wn ns VX sub VY x.2).2.1,(Wn ns VX sub VY x.2).2.2-1))
  else(x.1++[(Wn ns VX sub VY x.2).1],(Wn ns VX sub VY x.2).2)
 else x
def Wm {α:Type}(f:α->α):Nat->α->α
 | 0,x=>x
 | n+1,x=>f (Wm f n x)
def fV (ns:PH)(tp:Bool)(k:Int):Nat:=(aY ns (k+1)%4+2*(if tp then 1 else 0)).toNat
def We (ns VX:PH):Nat->Bool->Int->Pn->List Th×Pn
 | 0,tp,VY,s=>Wm (iH ns VX none tp VY) (fV ns tp s.1) ([],(s.1+1,s.2))
 | n+1,tp,VY,s=>Wm (iH ns VX (some (We ns VX n false)) tp VY) (fV ns tp s.1) ([],(s.1+1,s.2))
structure Em (n b:Nat)(s:Pn)(r:List Th×Pn):Prop where
 dp:dA r.1<=n
 c:(bR r.1:Int)+r.2.2=s.2/\0<=r.2.2
 k:s.1<=r.2.1/\r.2.1<=s.1+b
 l:r.1.length<=5
def FA (n b:Nat)(L:Int->Pn->List Th×Pn):Prop:=∀lp s,0<=s.2->Em n b s (L lp s)
theorem yM (ns:PH)(tp:Bool)(k:Int):fV ns tp k<=5:=by
 unfold fV;have a:=P8 (aY ns (k+1)) (show(4:Int)≠0 by decide);have b:=P7 (aY ns (k+1)) (show(0:Int)<4 by decide);cases tp<;>simp<;>omega
structure rL (n:Nat)(b:Nat)(s:Pn)(r:Th×Pn):Prop where
 dp:fZ r.1<=n
 c:(bX r.1:Int)+r.2.2=s.2/\0<=r.2.2
 k:s.1<=r.2.1/\r.2.1<=s.1+b
theorem vY (ns VX:PH)(VY:Int)(s:Pn)(h:0<s.2):rL 0 3 s (Wn ns VX none VY s):=by
 unfold Wn;split
 ·exact⟨by simp[fZ],⟨by simp[bX],by show 0<=s.2;omega⟩,by constructor<;>simp<;>omega⟩
 split
 ·exact⟨by simp[fZ],⟨by simp[bX],by show 0<=s.2;omega⟩,by constructor<;>simp<;>omega⟩
 split
 ·exact⟨by simp[fZ],⟨by simp[bX];omega,by show 0<=s.2-1;omega⟩,by constructor<;>simp<;>omega⟩
 ·exact⟨by simp[fZ],⟨by simp[bX];omega,by show 0<=s.2-1;omega⟩,by constructor<;>simp<;>omega⟩
theorem uX {L:Int->Pn->List Th×Pn}(hL:FA n b L)(VY:Int)(s:Pn)(h:0<s.2):rL (n+1) (3+2*b) s (Wn ns VX (some L) VY s):=by
 unfold Wn;split
 ·exact⟨by simp[fZ],⟨by simp[bX],by show 0<=s.2;omega⟩,by constructor<;>simp<;>omega⟩
 split
 ·exact⟨by simp[fZ],⟨by simp[bX],by show 0<=s.2;omega⟩,by constructor<;>simp<;>omega⟩
 split
 ·exact⟨by simp[fZ],⟨by simp[bX];omega,by show 0<=s.2-1;omega⟩,by constructor<;>simp<;>omega⟩
 dsimp only;split
 ·rename_i hh;have c2:1<s.2:=hh.2;obtain⟨d1,⟨a1,a2⟩,k1,_⟩:=hL VY (s.1+2,s.2-2) (by show 0<=s.2-2;omega);obtain⟨d2,⟨a3,a4⟩,k2,_⟩:=hL VY (L VY (s.1+2,s.2-2)).2 a2;dsimp only at a1 k1;refine⟨by simp only[fZ];omega,⟨by simp only[bX];push_cast;omega,a4⟩,?_⟩;constructor
  ·exact Qb (by omega) (Qb k1.1 k2.1)
  ·show(L VY (L VY (s.1+2,s.2-2)).2).2.1<=s.1+((3+2*b:Nat):Int);have:=k2.2;have:=k1.2;push_cast;omega
 split
 ·rename_i _ hh;have c2:1<s.2:=hh.2;obtain⟨d1,⟨a1,a2⟩,k1,_⟩:=hL (VY+1) (s.1+2,s.2-2) (by show 0<=s.2-2;omega);dsimp only at a1 k1;refine⟨by simp only[fZ];omega,⟨by simp only[bX];push_cast;omega,a2⟩,?_⟩;constructor
  ·exact Qb (by omega) k1.1
  ·show(L (VY+1) (s.1+2,s.2-2)).2.1<=s.1+((3+2*b:Nat):Int);have:=k1.2;push_cast;omega
 ·exact⟨by simp[fZ],⟨by simp[bX];omega,by show 0<=s.2-1;omega⟩,by constructor<;>simp<;>omega⟩
structure rJ (n b i:Nat)(k0 c0:Int)(x:List Th×Pn):Prop where
 dp:dA x.1<=n
 c:(bR x.1:Int)+x.2.2=c0/\0<=x.2.2
 k:k0<=x.2.1/\x.2.1<=k0+b*i
 l:x.1.length<=i
theorem rJ.step {k0 c0:Int}{x:List Th×Pn}{sub:Option (Int->Pn->List Th×Pn)}{tp:Bool}(h:rJ n b i k0 c0 x)(ht:0<x.2.2->rL n b x.2 (Wn ns VX sub VY x.2))(hb:1<=b):rJ n b (i+1) k0 c0 (iH ns VX sub tp VY x):=by
 have hm:((b*(i+1):Nat):Int)=(b*i:Nat)+b:=by push_cast;rw[Int.mul_add];omega
 have hk:=h.k;have hc:=h.c;have hl:=h.l;have hd:=h.dp;unfold iH;split
 ·rename_i hh;have t:=ht hh.1;have tk:=t.k;have tc:=t.c;split
  ·rename_i h2;have hbk:(Wn ns VX sub VY x.2).1= .back:=by
    have:=h2.2.2;cases e:(Wn ns VX sub VY x.2).1<;>rw[e] at this<;>first | rfl | cases this
   rw[hbk] at tc;have hrw:(bX .back:Int)=0:=by simp[bX]
   rw[hrw] at tc;refine⟨?_,⟨?_,?_⟩,⟨?_,?_⟩,?_⟩
   ·rw[mz];simp[dA,fZ];exact hd
   ·rw[kq];simp[bR,bX];omega
   ·show 0<=(Wn ns VX sub VY x.2).2.2-1;have:=hh.1;omega
   ·exact Qb hk.1 tk.1
   ·show(Wn ns VX sub VY x.2).2.1<=k0+((b*(i+1):Nat):Int);have:=tk.2;have:=hk.2;rw[hm];push_cast at *;omega
   ·simp;omega
  ·refine⟨?_,⟨?_,tc.2⟩,⟨?_,?_⟩,?_⟩
   ·rw[mz];have:=t.dp;simp[dA];omega
   ·rw[kq];simp[bR];omega
   ·exact Qb hk.1 tk.1
   ·show(Wn ns VX sub VY x.2).2.1<=k0+((b*(i+1):Nat):Int);have:=tk.2;have:=hk.2;rw[hm];push_cast at *;omega
   ·simp;omega
 ·refine⟨hd,hc,⟨hk.1,?_⟩,by omega⟩;have:=hk.2;show x.2.1<=k0+((b*(i+1):Nat):Int);rw[hm];push_cast at *;omega
def mq:Nat->Nat
 | 0=>16
 | n+1=>1+5*(3+2*mq n)
theorem vP {ns VX:PH}{sub:Option (Int->Pn->List Th×Pn)}{n b:Nat}(hb:1<=b)(hT:∀(lp:Int)(s:Pn),0<s.2->rL n b s (Wn ns VX sub lp s))(tp:Bool)(lp:Int)(s:Pn)(hs:0<=s.2):∀m,rJ n b m (s.1+1) s.2 (Wm (iH ns VX sub tp lp) m ([],(s.1+1,s.2)))
 | 0=>⟨by simp[Wm,dA],⟨by simp[Wm,bR],hs⟩,⟨Qa _,by simp[Wm]⟩,by simp[Wm]⟩
 | m+1=>rJ.step (vP hb hT tp lp s hs m) (λh=>hT lp _ h) hb
theorem z9 {sub:Option (Int->Pn->List Th×Pn)}(hb:1<=b)(hT:∀(lp:Int)(s:Pn),0<s.2->rL n b s (Wn ns VX sub lp s))(tp:Bool)(lp:Int)(s:Pn)(hs:0<=s.2):Em n (1+5*b) s (Wm (iH ns VX sub tp lp) (fV ns tp s.1) ([],(s.1+1,s.2))):=by
 have h:=vP hb hT tp lp s hs (fV ns tp s.1);have hm:=yM ns tp s.1;have hmul:b*fV ns tp s.1<=b*5:=Nat.mul_le_mul_left b hm;refine⟨h.dp,h.c,⟨by have:=h.k.1;omega,?_⟩,Sh h.l hm⟩;have:=h.k.2;omega
theorem mw (ns VX:PH):∀(n:Nat)(tp:Bool),FA n (mq n) (We ns VX n tp)
 | 0,tp=>λlp s hs=>z9 (b:=3) (by decide) (λlp s h=>vY ns VX lp s h) tp lp s hs
 | n+1,tp=>λlp s hs=>z9 (b:=3+2*mq n) (by omega) (λlp s h=>uX (mw ns VX n false) lp s h) tp lp s hs
def eC:Th->Str
 | .Wi _=>"do"
 | .call _=>"call"
 | .ifs _ _ _=>"if"
 | .V5 _ _=>"while"
 | .leave=>"leave"
 | .back=>"back"
def eQ:Th->List PV
 | .Wi x=>[.str "do",.str x]
 | .call j=>[.str "call",.int j]
 | .ifs x a b=>[.str "if",.str x,.lst (bC a),.lst (bC b)]
 | .V5 x a=>[.str "while",.str x,.lst (bC a)]
 | .leave=>[.str "leave"]
 | .back=>[.str "back"]
theorem dY (t:Th):gH t= .lst (eQ t):=by cases t<;>rw[gH]<;>rfl
theorem Ik (t:Th):cE (eQ t) 0=some (.str (eC t)):=by cases t<;>rfl
end
variable {a:Expr}{j:Nat}{t:Th}
section
variable {X:Cx}{Γ Γ1:Ga}
theorem jr {p1 pos:Pos}(h:EV X a Γ aq (gH t) Γ1):EV X (.Subscript a (.Constant (.int 0) j p1) pos) Γ ar (eC t) Γ1:=EV.sP (a9 (EV.lP (by rw[dY] at h;exact h)) ev_int (Ik t))
theorem n5 {p1 pos:Pos}{i:Int}{xs:List PV}(h:EV X a Γ aq (gH t) Γ1)(hx:cE (eQ t) i=some (.lst xs)):EV X (.Subscript a (.Constant (.int i) j p1) pos) Γ (ae aq) xs Γ1:=EV.lP (a9 (EV.lP (by rw[dY] at h;exact h)) ev_int hx)
end
abbrev Jw:Stmt:=top sL
abbrev nPA:PJ:=["_law_items","_law_one"]
theorem Cw:bV nPA ["_law_items"] (ao Jw):=Xt
def EI (n:Nat):cS:=λK ps T=>∃ts:List Th,ps=[⟨ae aq,bC ts⟩]/\dA ts<n/\T=cU K bM (· =c7 ts)
theorem DU (t:Th):(eC t="leave"∨eC t="back")->dI t=false:=by
 intro h;cases t<;>simp[eC] at h<;>first | (exfalso;revert h;decide) | simp[dI]
theorem nG {t:Th}:∀{ts:List Th},t∈ts->fZ t<=dA ts
 | s::ts,h=>by
   rw[dA];rcases Qq.mp h with rfl | h
   ·omega
   ·have:=nG h;omega
theorem Mj (F:dZ K "_law_passes" "_law_passes" Jw f fd)(hm:mg "_law_passes"=some (.ref f))(hb:Binds K fd ["_law_items"] []):∀n:Nat,aE P w K mg base "_law_passes" (n+1) (aM (EI n) K):=by
 intro n;have nd:=Cw.nd
 induction n with
 | zero=>
   refine gZ F Cw hm hb (λqs T ⟨_,e,_⟩=>by rw[e];rfl) (λV2 A outer s H E qs T hr hS=>?_);obtain⟨ts,_,h,_⟩:=hS;exact VO h (SG _)
 | succ n ih=>
   refine gZ F Cw hm hb (λqs T ⟨_,e,_⟩=>by rw[e];rfl) (λV2 A outer s H E qs T hr hS=>?_);obtain⟨ts,rfl,hd,rfl⟩:=hS;refine ai (bW (r:=aq) (λi Γ=>∃e1,Γ=[.im (ae aq) (bC ts),e1]/\c7 ts=c7 (ts.drop i)) (br (aa 0 rfl)) (aP 1) ⟨_,rfl,rfl⟩ (λi x Γ hx hΓ=>?_) (λΓ hΓ=>?_))
   ·obtain⟨e1,rfl,hp⟩:=hΓ;rw[fg,Ql] at hx;obtain⟨t,ht,rfl⟩:=SO.mp hx;have hdr:ts.drop i=t::ts.drop (i+1):=by
     obtain⟨h1,h2⟩:=Qc.mp ht;rw[Rb h1,h2]
    rw[hdr,c7] at hp;have hdt:=nG (Qm ht);refine ai (a8 (TW.tv (gu (aA cm (jr (aa 1 rfl)) ay) (λ_=>fF (aA cm (jr (aa 1 rfl)) ay)))) (λh=>?_) (λh=>aF ?_))
    ·have h:eC t="leave"∨eC t="back":=by simpa using h
     exact aj (aN eM (by rw[hp,DU t h];rfl))
    ·have h:¬(eC t="leave"∨eC t="back"):=by simpa using h
     by_cases hif:∃x a b,t= .ifs x a b
     ·obtain⟨x,a,b,rfl⟩:=hif;have X8:dA a<n/\dA b<n:=by rw[fZ] at hdt;omega
      refine aj (a8 (TW.tv (dg (aA cm (jr (aa 1 rfl)) ay) (λ_=>dg (dh (bL (aI ih hr (ah (n5 (aa 1 rfl) (xs:=bC a) rfl) ax) ⟨a,rfl,X8.1,rfl⟩))) (λ_=>eO (dh (bL (aI ih hr (ah (n5 (aa 1 rfl) (xs:=bC b) rfl) ax) ⟨b,rfl,X8.2,rfl⟩))))))) (λh=>?_) (λh=>aF ⟨_,rfl,?_⟩))
      ·have h:c7 a=false/\c7 b=false:=by simpa[eC] using h
       exact aj (aN eM (by rw[hp,dI,h.1,h.2];rfl))
      ·have h:c7 a=false->c7 b=true:=by simpa[eC] using h
       rw[hp,dI];cases ea:c7 a with
       | true=>simp
       | false=>rw[h ea];simp
     ·have hk:decide (eC t="if")=false:=by cases t<;>first | rfl | exact VO ⟨_,_,_,rfl⟩ hif
      have hpt:dI t=true:=by cases t<;>first | (simp[dI];done) | exact VO ⟨_,_,_,rfl⟩ hif | exact VO (.inl rfl) h | exact VO (.inr rfl) h
      refine aj (a8 (TW.tv (dg (y:=true) (aA cm (jr (aa 1 rfl)) ay) (λh=>VO (hk.symm.trans h) (by decide)))) (λh=>?_) (λh=>aF ⟨_,rfl,?_⟩))
      ·rw[hk] at h;cases h
      ·rw[hp,hpt];rfl
   ·obtain⟨e1,rfl,hp⟩:=hΓ;rw[show(bC ts).length=ts.length by rw[fg,Qg],drop_length,c7] at hp;exact aj (aN eM hp.symm)
def dX (ns VX:PH):Nat->Option (Int->Pn->List Th×Pn)
 | 0=>none
 | n+1=>some (We ns VX n false)
theorem lX (ns VX:PH)(n:Nat)(tp:Bool)(VY:Int)(s:Pn):We ns VX n tp VY s=Wm (iH ns VX (dX ns VX n) tp VY) (fV ns tp s.1) ([],(s.1+1,s.2)):=by cases n<;>rfl
def bT:Nat->Nat
 | 0=>3
 | n+1=>3+2*mq n
theorem Fu (n:Nat):3<=bT n:=by cases n<;>simp[bT]
structure oM (ns VX:PH)(n b:Nat)(k c:Int):Prop where
 s:AD ns
 k0:0<=k
 k1:k+(b:Int)<=900000
 c0:0<=c
 c1:c<=100
 l:VX.length<=100
 n4:n<=4
abbrev Od (n:Nat)(VY:Int)(VX:PH):List Pk:=[⟨ag,4-(n:Int)⟩,⟨ag,VY⟩,⟨ae ag,VX⟩]
def JC (n:Nat):nS (PH ⊕ Int):=λK xs ps T=>∃(ns VX:PH)(k c VY:Int),xs=cb ns k c/\ps=Od n VY VX/\oM ns VX n (bT n) k c/\0<c/\T=λxs'=>zB λy=>xs'=cb ns (Wn ns VX (dX ns VX n) VY (k,c)).2.1 (Wn ns VX (dX ns VX n) VY (k,c)).2.2/\y=gH (Wn ns VX (dX ns VX n) VY (k,c)).1
def Et (n:Nat):nS (PH ⊕ Int):=λK xs ps T=>∃(ns VX:PH)(k c VY:Int),xs=cb ns k c/\ps=Od n VY VX/\oM ns VX n (mq n) k c/\T=λxs'=>zB λy=>xs'=cb ns (We ns VX n (decide (n=4)) VY (k,c)).2.1 (We ns VX n (decide (n=4)) VY (k,c)).2.2/\y= .lst (bC (We ns VX n (decide (n=4)) VY (k,c)).1)
variable {L:Int->Pn->List Th×Pn}
section
variable {VX:PH}{sub:Option (Int->Pn->List Th×Pn)}{k c:Int}
abbrev gx (ns:PH)(k:Int):Int:=aY ns (k+1)%12
abbrev C0 (ns:PH)(k VY:Int):Prop:=gx ns k=0/\0<VY
abbrev C2 (ns VX:PH)(k:Int):Prop:=9<gx ns k/\0<VX.length
abbrev C3 (ns:PH)(k c:Int):Prop:=(3<gx ns k/\gx ns k<7)/\1<c
abbrev C4 (ns:PH)(k c:Int):Prop:=(6<gx ns k/\gx ns k<10)/\1<c
theorem Bu (h:C0 ns k VY):Wn ns VX sub VY (k,c)=(.leave,(k+2,c)):=VQ h
theorem Cy (h0:¬C0 ns k VY)(h:gx ns k=1):Wn ns VX sub VY (k,c)=(.back,(k+2,c)):=by
 unfold Wn;rw[VP h0,VQ h]
theorem DD (h0:¬C0 ns k VY)(h1:¬gx ns k=1)(h:C2 ns VX k):Wn ns VX sub VY (k,c)=(.call (VX.getD (aY ns (k+3)%(VX.length:Int)).toNat 0),(k+3,c-1)):=by
 unfold Wn;rw[VP h0,VP h1,VQ h]
theorem Hy (h0:¬C0 ns k VY)(h1:¬gx ns k=1)(h2:¬C2 ns VX k)(h:C3 ns k c):Wn ns VX (some L) VY (k,c)=(.ifs (Wf (aY ns (k+2))) (L VY (k+2,c-2)).1 (L VY (L VY (k+2,c-2)).2).1,(L VY (L VY (k+2,c-2)).2).2):=by
 unfold Wn;rw[VP h0,VP h1,VP h2];dsimp only;rw[VQ h]
theorem KG (h0:¬C0 ns k VY)(h1:¬gx ns k=1)(h2:¬C2 ns VX k)(h3:¬C3 ns k c)(h:C4 ns k c):Wn ns VX (some L) VY (k,c)=(.V5 (Wf (aY ns (k+2))) (L (VY+1) (k+2,c-2)).1,(L (VY+1) (k+2,c-2)).2):=by
 unfold Wn;rw[VP h0,VP h1,VP h2];dsimp only;rw[VP h3,VQ h]
theorem KO (h0:¬C0 ns k VY)(h1:¬gx ns k=1)(h2:¬C2 ns VX k)(h:∀L,sub=some L->¬C3 ns k c/\¬C4 ns k c):Wn ns VX sub VY (k,c)=(.Wi (Wf (aY ns (k+2))),(k+2,c-1)):=by
 unfold Wn;rw[VP h0,VP h1,VP h2];cases sub with
 | none=>rfl
 | some L=>dsimp only;rw[VP (h L rfl).1,VP (h L rfl).2]
end
theorem vV:∀ts:List Th,Ee (bC ts)=false
 | []=>by rw[bC];rfl
 | [t]=>by rw[bC,bC,dY];rfl
 | t::u::ts=>by rw[bC,bC,dY,dY];rfl
mutual
theorem Ft:∀t:Th,noMix (gH t)=true
 | .Wi x=>by rw[dY];rfl
 | .call x=>by rw[dY];rfl
 | .leave=>by rw[dY];rfl
 | .back=>by rw[dY];rfl
 | .ifs x A B=>by
   have hA:=n9 A;have hB:=n9 B;rw[dY];simp only[eQ,noMix,gW,vV,hA,hB,Bool.not_false,Bool.true_and,Bool.and_true];rfl
 | .V5 x A=>by
   have hA:=n9 A;rw[dY];simp only[eQ,noMix,gW,vV,hA,Bool.not_false,Bool.true_and,Bool.and_true];rfl
theorem n9:∀ts:List Th,gW (bC ts)=true
 | []=>by rw[bC,gW]
 | t::ts=>by rw[bC,gW,Ft t,n9 ts];rfl
end
theorem um (ts:List Th):noMix (.lst (bC ts))=true:=by rw[noMix,vV,n9];rfl
theorem om {k c:Int}(R:Hp)(ws:List V)(h:PySem.Paired (cY.R K R) ws (cb ns k c)):∃s k' rest,ws= .ref s:: .int k'::rest:=by
 cases h with
 | cons a1 t1=>cases t1 with
   | cons a2 t2=>
     obtain⟨s,e,_⟩:=(a1:c6.R K R _ ns);have e2:_=V.int k:=a2;exact⟨s,k,_,by rw[e,e2]⟩
abbrev Ep:Stmt:=top ug
abbrev nTH:PJ:=["_law_pen","_law_depth","_law_loops","_law_calls","_law_way","_law_name_here","_law_first"]
abbrev xB:PJ:=["_law_pen","_law_depth","_law_loops","_law_calls"]
theorem Iy:bV nTH xB (ao Ep):=Xt
theorem EE (M:cD K mg)(CP:aE P w K mg base "_law_pull" 2 (iC cY xA K))(CN:aE P w K mg base "_law_name" 1 (aM EK K))(n:Nat)(CL:∀m,n=m+1->aE P w K mg base "_law_list" (2*m+8) (iC cY (Et m) K))(F:dZ K "_law_thing" "_law_thing" Ep f fd)(hm:mg "_law_thing"=some (.ref f))(hb:Binds K fd xB []):aE P w K mg base "_law_thing" (2*n+7) (iC cY (JC n) K):=by
 have nd:=Iy.nd;have CP:=CP.mono (show 2<=2*n+6 by omega);have CN:=CN.mono (show 1<=2*n+6 by omega);refine vG (k:=2*n+6) F Iy hm hb (λxs qs T ⟨_,_,_,_,_,_,e,_⟩=>by rw[e];rfl) (λV2 A outer s H E a xs qs T hr hS=>?_);obtain⟨ns,VX,k,c,VY,rfl,rfl,hp,c0,rfl⟩:=hS;have hb16:=Fu n;have k0:=hp.k0;have k1:=hp.k1;have cl:=hp.l;have c1:=hp.c1;refine ai (bg 4 (dB (fO 0 (st:=cb ns (k+1) c) (z:=aY ns (k+1)) CP hr ax rfl ⟨ns,k,c,rfl,rfl,hp.s,k0,by omega,rfl⟩) ev_int (by decide)) ?_);have m2:=yk ns (k+2);have e2:k+1+1=k+2:=by omega
 refine ai (bg 5 (y:=Wf (aY ns (k+2))) (aI CN hr (ah (fO 0 (st:=cb ns (k+2) c) (z:=aY ns (k+2)) CP hr ax rfl ⟨ns,k+1,c,rfl,rfl,hp.s,by omega,by omega,by rw[e2]⟩) ax) ⟨_,rfl,m2.1,m2.2,rfl⟩) ?_);have fin:∀(k' c':Int)(t:Th)(r:Th×Pn),Wn ns VX (dX ns VX n) VY (k,c)=(t,(k',c'))->(λxs' (y:PV)=>xs'=cb ns (Wn ns VX (dX ns VX n) VY (k,c)).2.1 (Wn ns VX (dX ns VX n) VY (k,c)).2.2/\y=gH (Wn ns VX (dX ns VX n) VY (k,c)).1) (cb ns k' c') (.lst (eQ t)):=λk' c' t r h=>by rw[h];exact⟨rfl,(dY t).symm⟩
 refine ai (a8 (TW.tv (dg (aA fT (aa 4 rfl) ev_int) (λ_=>eO (aA kM (aa 2 rfl) ev_int)))) (λh=>?_) (λh=>aF ?_))
 ·have h:C0 ns k VY:=by simpa using h
  exact aj (jn 0 (ba.vF (aR (r:=aq) (ak (EV.pS ay) aL) (by show 1<=S8;decide)) rfl) rfl (fin _ _ .leave (.leave,(k,c)) (Bu h)))
 have h0:¬C0 ns k VY:=by simpa using h
 refine ai (a8 (aA fT (aa 4 rfl) ev_int) (λh=>?_) (λh=>aF ?_))
 ·have h:gx ns k=1:=VR h;exact aj (jn 0 (ba.vF (aR (r:=aq) (ak (EV.pS ay) aL) (by show 1<=S8;decide)) rfl) rfl (fin _ _ .back (.leave,(k,c)) (Cy h0 h)))
 have h1:¬gx ns k=1:=VS h;refine ai (a8 (TW.tv (dg (aA kM (aa 4 rfl) ev_int) (λ_=>eO (aA kM (dy M.len (aa 3 rfl)) ev_int)))) (λh=>?_) (λh=>aF ?_))
 ·have h:C2 ns VX k:=by
   have h:9<gx ns k/\(0:Int)<(VX.length:Int):=by simpa using h
   exact⟨h.1,by omega⟩
  have hl:(0:Int)<(VX.length:Int):=by have:=h.2;omega
  refine ai (eP 0 (j:=2) (EV.inr (iV (EV.pf (dw 0 ev_int rfl (y:=(Sum.inr c:PH ⊕ Int)) rfl)) ev_int)) ev_int rfl rfl rfl ?_);have e3:k+2+1=k+3:=by omega
  have q0:=P8 (aY ns (k+3)) (show(VX.length:Int)≠0 by omega);have q1:=P7 (aY ns (k+3)) hl;exact aj (jn 0 (ba.vF (aR (r:=aq) (ak (EV.pS ay) (ak (EV.pI (a9 (aa 3 rfl) (dB (fO 0 (st:=cb ns (k+3) (c-1)) (z:=aY ns (k+3)) CP hr ax rfl ⟨ns,k+2,c-1,rfl,rfl,hp.s,by omega,by omega,by rw[e3]⟩) (dy M.len (aa 3 rfl)) hl) (bw 0 q0 q1))) aL)) (by show 2<=S8;decide)) rfl) rfl (fin _ _ (.call _) (.leave,(k,c)) (DD h0 h1 h)))
 have h2:¬C2 ns VX k:=by
  have h:9<gx ns k->¬(0:Int)<(VX.length:Int):=by simpa using h
  exact λ⟨x,y⟩=>h x (by omega)
 refine ai (a8 (TW.tv (dg (aA kM (aa 4 rfl) ev_int) (λ_=>dg (aA i9 (aa 4 rfl) ev_int) (λ_=>dg (aA i9 (aa 1 rfl) ev_int) (λ_=>eO (aA kM (EV.pf (dw 0 ev_int rfl (y:=(Sum.inr c:PH ⊕ Int)) rfl)) ev_int)))))) (λh=>?_) (λh=>aF ?_))
 ·have h:3<gx ns k/\gx ns k<7/\4-(n:Int)<4/\1<c:=by simpa using h
  have h3:C3 ns k c:=⟨⟨h.1,h.2.1⟩,h.2.2.2⟩;have hc:=h.2.2.2;have hn:=h.2.2.1;obtain⟨m,rfl⟩:∃m,n=m+1:=⟨n-1,by omega⟩;have CL:=(CL m rfl).mono (show 2*m+8<=2*(m+1)+6 by omega);have n4:=hp.n4;have hf:decide (m=4)=false:=VU (by omega);have hbd:bT (m+1)=3+2*mq m:=rfl;refine ai (eP 0 (j:=2) (EV.inr (iV (EV.pf (dw 0 ev_int rfl (y:=(Sum.inr c:PH ⊕ Int)) rfl)) ev_int)) ev_int rfl rfl rfl ?_);change WS _ _ [.ob (aO a cY (cb ns (k+2) (c-2))),aJ (4-((m+1:Nat):Int)),aJ VY,jF VX,aJ (aY ns (k+1)%12),.im ar (Wf (aY ns (k+2))),.no] _ _;have p1:oM ns VX m (mq m) (k+2) (c-2):=⟨hp.s,by omega,by omega,by omega,by omega,hp.l,by omega⟩;obtain⟨g1,g2,g3,g4⟩:=mw ns VX m false VY (k+2,c-2) (by show 0<=c-2;omega);have e1:=Hy (L:=We ns VX m false) h0 h1 h2 h3;generalize hr1:We ns VX m false VY (k+2,c-2)=r1 at g1 g2 g3 g4 e1;dsimp only at g2 g3;refine ai (qD 6 (iN 0 (st:=cb ns (We ns VX m false VY (k+2,c-2)).2.1 (We ns VX m false VY (k+2,c-2)).2.2) (z:=.lst (bC (We ns VX m false VY (k+2,c-2)).1)) CL hr (ah (EV.cast (y':=4-(m:Int)) (ck (aa 1 rfl) ev_int) (by omega)) (ah (aa 2 rfl) (ah (aa 3 rfl) ax))) rfl ⟨ns,VX,_,_,VY,rfl,rfl,p1,by rw[hf]⟩ om (um _)) λf6=>?_);rw[hr1];change WS _ _ [.ob (aO a cY (cb ns r1.2.1 r1.2.2)),aJ (4-((m+1:Nat):Int)),aJ VY,jF VX,aJ (aY ns (k+1)%12),.im ar (Wf (aY ns (k+2))),.ob (gO (.lst (bC r1.1)) f6)] _ _;have p2:oM ns VX m (mq m) r1.2.1 r1.2.2:=⟨hp.s,by omega,by omega,by omega,by omega,hp.l,by omega⟩;exact aj (jn 0 (Jb 6 (EV.pS ay) (EV.pS (aa 5 rfl)) (iN 0 (st:=cb ns (We ns VX m false VY r1.2).2.1 (We ns VX m false VY r1.2).2.2) (z:=.lst (bC (We ns VX m false VY r1.2).1)) CL hr (ah (EV.cast (y':=4-(m:Int)) (ck (aa 1 rfl) ev_int) (by omega)) (ah (aa 2 rfl) (ah (aa 3 rfl) ax))) rfl ⟨ns,VX,_,_,VY,rfl,rfl,p2,by rw[hf]⟩ om (um _)) rfl rfl rfl rfl) rfl (fin _ _ (.ifs _ _ _) (.leave,(k,c)) e1))
 have h3:n=0∨¬C3 ns k c:=by
  have h:3<gx ns k->gx ns k<7->4-(n:Int)<4->¬1<c:=by simpa using h
  by_cases z:n=0
  ·exact .inl z
  ·exact .inr λ⟨⟨x,y⟩,u⟩=>h x y (by omega) u
 refine ai (a8 (TW.tv (dg (aA kM (aa 4 rfl) ev_int) (λ_=>dg (aA i9 (aa 4 rfl) ev_int) (λ_=>dg (aA i9 (aa 1 rfl) ev_int) (λ_=>eO (aA kM (EV.pf (dw 0 ev_int rfl (y:=(Sum.inr c:PH ⊕ Int)) rfl)) ev_int)))))) (λh=>?_) (λh=>aF ?_))
 ·have h:6<gx ns k/\gx ns k<10/\4-(n:Int)<4/\1<c:=by simpa using h
  have h4:C4 ns k c:=⟨⟨h.1,h.2.1⟩,h.2.2.2⟩;have hc:=h.2.2.2;have hn:=h.2.2.1;have h3x:¬C3 ns k c:=h3.resolve_left (by omega);obtain⟨m,rfl⟩:∃m,n=m+1:=⟨n-1,by omega⟩;have CL:=(CL m rfl).mono (show 2*m+8<=2*(m+1)+6 by omega);have n4:=hp.n4;have hf:decide (m=4)=false:=VU (by omega);have hbd:bT (m+1)=3+2*mq m:=rfl;refine ai (eP 0 (j:=2) (EV.inr (iV (EV.pf (dw 0 ev_int rfl (y:=(Sum.inr c:PH ⊕ Int)) rfl)) ev_int)) ev_int rfl rfl rfl ?_);change WS _ _ [.ob (aO a cY (cb ns (k+2) (c-2))),aJ (4-((m+1:Nat):Int)),aJ VY,jF VX,aJ (aY ns (k+1)%12),.im ar (Wf (aY ns (k+2))),.no] _ _;have p1:oM ns VX m (mq m) (k+2) (c-2):=⟨hp.s,by omega,by omega,by omega,by omega,hp.l,by omega⟩;have e1:=KG (L:=We ns VX m false) h0 h1 h2 h3x h4;exact aj (jn 0 (Jv (EV.pS ay) (EV.pS (aa 5 rfl)) (iN 0 (st:=cb ns (We ns VX m false (VY+1) (k+2,c-2)).2.1 (We ns VX m false (VY+1) (k+2,c-2)).2.2) (z:=.lst (bC (We ns VX m false (VY+1) (k+2,c-2)).1)) CL hr (ah (EV.cast (y':=4-(m:Int)) (ck (aa 1 rfl) ev_int) (by omega)) (ah (ck (aa 2 rfl) ev_int) (ah (aa 3 rfl) ax))) rfl ⟨ns,VX,_,_,VY+1,rfl,rfl,p1,by rw[hf]⟩ om (um _)) rfl rfl) rfl (fin _ _ (.V5 _ _) (.leave,(k,c)) e1))
 have h4:n=0∨¬C4 ns k c:=by
  have h:6<gx ns k->gx ns k<10->4-(n:Int)<4->¬1<c:=by simpa using h
  by_cases z:n=0
  ·exact .inl z
  ·exact .inr λ⟨⟨x,y⟩,u⟩=>h x y (by omega) u
 refine ai (eP 0 (j:=2) (EV.inr (iV (EV.pf (dw 0 ev_int rfl (y:=(Sum.inr c:PH ⊕ Int)) rfl)) ev_int)) ev_int rfl rfl rfl ?_);refine aj (jn 0 (ba.vF (aR (r:=aq) (ak (EV.pS ay) (ak (EV.pS (aa 5 rfl)) aL)) (by show 2<=S8;decide)) rfl) rfl (fin _ _ (.Wi _) (.leave,(k,c)) (KO h0 h1 h2 λL e=>?_)));cases n with
 | zero=>cases e
 | succ m=>exact⟨h3.resolve_left (by omega),h4.resolve_left (by omega)⟩
mutual
def bB:Th->Int->List PV×Int
 | .Wi x,k=>([.str "do",.str x,.int k],k+1)
 | .call j,k=>([.str "call",.int j,.int k],k+1)
 | .ifs x A B,k=>([.str "if",.str x,.lst ((aQ A (k+1)).1.map PV.lst),.lst ((aQ B (aQ A (k+1)).2).1.map PV.lst),.int k],(aQ B (aQ A (k+1)).2).2)
 | .V5 x A,k=>([.str "while",.str x,.lst ((aQ A (k+1)).1.map PV.lst),.int k],(aQ A (k+1)).2)
 | .leave,k=>([.str "leave"],k)
 | .back,k=>([.str "back"],k)
def aQ:List Th->Int->List (List PV)×Int
 | [],k=>([],k)
 | t::ts,k=>((bB t k).1::(aQ ts (bB t k).2).1,(aQ ts (bB t k).2).2)
end
theorem A3 (ts:List Th):bC ts=(ts.map eQ).map PV.lst:=by
 rw[fg,QY];exact Rr λt _=>dY t
theorem mV:∀(ts:List Th)(k:Int),(aQ ts k).1.length=ts.length
 | [],k=>by rw[aQ];rfl
 | t::ts,k=>by rw[aQ,Qo,Qo,mV ts]
def lQ (n:Nat):Sp:=λvs H Q _=>∃(R:Hp)(b c:Addr)(g:PM)(ts:List Th)(k:Int),vs=[.ref b,.ref c]/\aw R H/\cN H (.ref b) (.lst (bC ts)) (b::g)/\(b::g).Nodup/\(∀d∈b::g,R d=none)/\c∉b::g/\R c=none/\H c=some (.lst [.int k])/\dA ts<=n/\
 ∀H' R',Ext (fW H (c::b::g)) R H' R'->cN H' (.ref b) (.lst ((aQ ts k).1.map PV.lst)) (b::g)->H' c=some (.lst [.int (aQ ts k).2])->(∀d∈c::b::g,R' d=none)->Q .Wb H'
end K1
namespace Fc
open PySem PySem.Spec PySem.W PySem.Calls L2
open PyProof.Rows hiding St
open PySem PySem.Spec L2 K1
section
variable {X:Cx}{Γ Γ1 Γ2 Γ3:Ga}{α β γ δ:Type}{N:Ga->Prop}{T:RT}
variable {x:Str}{n':Nat}{a c:Addr}{ps:List PT}{q0:PT}{ts:List Th}
theorem yp {x:Str}{n d:Nat}{es:PQ}{σ:St}{H0 R0 H R:Hp}{i l:Nat}{b:Addr}{g:PM}{k:Int}{Q:VK}{Ex:XK}{ys:List PV}(E:au X.K σ H0 R0 H R Γ)(YG:i≠l)(hΓ:Γ[i]?=some (.ob (bu a ps)))(hl:Γ[l]?=some (.ob (aO c ag [k])))(hq:ps[n']?=some q0)(Wq:∀e∈b::g,e∈cL q0)(t:cN H (.ref b) (.lst (bC ts)) (b::g))(nd:(b::g).Nodup)(hd:dA ts<=d)(hys:∀H':Hp,(∀e∈cL q0,e∉b::g->H' e=H e)->cN H' (.ref b) (.lst ((aQ ts k).1.map PV.lst)) (b::g)->cN H' (.ref q0.2.1) (.lst ys) (cL q0))(hQ:∀H' R',au X.K σ H0 R0 H' R' ((Γ.set i (.ob (bu a (ps.set n' (ys,q0.2.1,q0.2.2))))).set l (.ob (aO c ag [(aQ ts k).2])))->aw R R'->Q .Wb H'):lQ d [.ref b,.ref c] H Q Ex:=by
 obtain⟨⟨v,ea,rfl,kk⟩,hR⟩:=E.ent i _ hΓ;obtain⟨ec,⟨ws,hc,pc⟩,YI⟩:=dD (E.ent l _ hl);have ews:ws=[.int k]:=by
  cases pc with
  | cons a1 t1=>cases t1;have:_=V.int k:=a1;rw[this]
 subst ews;have ZH:∀e∈b::g,e∈(bu a ps).fp:=λe he=>Qi _ (bQ.mpr ⟨n',q0,hq,Wq e he⟩);have cB:∀e∈(bu a ps).fp,e≠c:=λe he z=>YG (E.ds i l _ _ e hΓ hl he (by rw[z];exact Qe.mpr rfl));refine⟨R,b,c,g,ts,k,rfl,E.sub,t,nd,λe he=>hR e (ZH e he),λw=>cB c (ZH c w) rfl,YI,hc,hd,λH' R' xx t' Zw WY=>?_⟩;have keep:∀e∈(bu a ps).fp,e∉b::g->H' e=H e:=λe he hn=>xx.keep (λw=>(Qq.mp w).elim (cB e he) hn) ((bu a ps).has (K:=X.K) (R0:=R) ⟨rfl,kk⟩ e he);have tq:=hys H' (λe he hn=>keep e (Qi _ (bQ.mpr ⟨n',q0,hq,he⟩)) hn) t';have nR:∀e∈(bu a ps).fp,R' e=none:=λe he=>by
  by_cases w:e∈c::b::g
  ·exact WY e w
  ·exact(xx.old e (by rw[eh w];exact(bu a ps).has (K:=X.K) (R0:=R) ⟨rfl,kk⟩ e he)).trans (hR e he)
 refine hQ H' R' (E.K3 YG hΓ hl (D:=c::b::g) (λe he=>?_) xx ?_ ?_ (xy hq) λe he=>he) xx.r
 ·rcases Qq.mp he with rfl | he
  ·exact .inr (Qe.mpr rfl)
  ·exact .inl (ZH e he)
 ·rw[ea];refine⟨⟨_,rfl,rfl,kk.put hq (λe he hn=>keep e he λw=>hn (Wq e w)) tq⟩,λe he=>nR e (xy hq e he)⟩
 ·rw[ec];exact⟨⟨_,rfl,rfl,[.int (aQ ts k).2],Zw,.cons rfl .nil⟩,λe he=>by rw[Qe.mp he];exact WY c Qk⟩
theorem Po (i j l:Nat){y z:Str}{d m0:Nat}{p p1 p2 cp pos:Pos}{k:Int}(C:aE X.prog X.w X.K X.mg X.base x m0 (lQ d))(hr:bG m0 X.A)(YG:i≠l)(hΓ:Γ[i]?=some (.ob (bu a ps)))(hj:Γ[j]?=some (.im dv q0.2.1))(hl:Γ[l]?=some (.ob (aO c ag [k])))(hq:ps[n']?=some q0)(hts:q0.1=bC ts)(hd:dA ts<=d)(h:N ((Γ.set i (.ob (bu a (ps.set n' ((aQ ts k).1.map PV.lst,q0.2.1,q0.2.2))))).set l (.ob (aO c ag [(aQ ts k).2]))))(hg:Gl X x:=by rfl)(Wu:WW x:=by decide)(he:Td [.Name y p1,.Name z p2] X.env=(false,eval (.Name y p1) X.env)::Td [.Name z p2] X.env:=by rfl)(he2:du X (.Name z p2) []:=by rfl)(Wg:fm X cp [.Name z p2]:=by rfl)(hNj:autoParam (At X j y) cg)(hNl:autoParam (At X l z) cg)(WJ:Tf (.Call (.Name x p) [.Name y p1,.Name z p2] [] cp) none pos.line X.env=pure false:=by rfl):W1 X (.Expr (.Call (.Name x p) [.Name y p1,.Name z p2] [] cp) pos) Γ N T:=λσ H0 R0 H R E D dn dr=>by
 obtain⟨f,fd,pn,F,hm,hk,hb⟩:=C.ex;obtain⟨⟨v,ea,rfl,kk⟩,hR⟩:=E.ent i _ hΓ;obtain⟨v0,e0,Xw⟩:=E.ent j _ hj;cases Xw
 obtain⟨ec,_,_⟩:=dD (E.ent l _ hl);obtain⟨t,nd,_⟩:=kk.pt n' q0 hq;rw[hts] at t;refine sS (d9 (ig F hr hg hm hk hb .nil jT (aH (aV hNj) (aH (aV hNl) bo he2) he) Wu he Wg) WJ) ⟨.ref q0.2.1,at_of e0,.ref c,at_of ec,?_⟩;show lQ d [.ref q0.2.1,.ref c] H (λ_ H1=>D.nx σ H1) E0;refine yp (x:=x) (n:=0) (es:=[]) (Q:=λ_ H'=>D.nx σ H') (g:=q0.2.2) (ys:=(aQ ts k).1.map PV.lst) E YG hΓ hl hq (λe he=>he) t nd hd (λH' _ t'=>t') λH' R' E' s'=>dn σ H' R' _ E' s' h
theorem r9 (i j l:Nat){y z:Str}{d m0 m jc:Nat}{p p1 p2 p3 p4 cp pos:Pos}{k:Int}(C:aE X.prog X.w X.K X.mg X.base x m0 (lQ d))(hr:bG m0 X.A)(YG:i≠l)(hΓ:Γ[i]?=some (.ob (bu a ps)))(hj:Γ[j]?=some (.im dv q0.2.1))(hl:Γ[l]?=some (.ob (aO c ag [k])))(hq:ps[n']?=some q0)(hts:q0.1[m]?=some (.lst (bC ts)))(hd:dA ts<=d)(h:N ((Γ.set i (.ob (bu a (ps.set n' (q0.1.set m (.lst ((aQ ts k).1.map PV.lst)),q0.2.1,q0.2.2))))).set l (.ob (aO c ag [(aQ ts k).2]))))(hg:Gl X x:=by rfl)(Wu:WW x:=by decide)(he:Td [.Subscript (.Name y p1) (.Constant (.int (m:Int)) jc p3) p4,.Name z p2] X.env=(false,eval (.Subscript (.Name y p1) (.Constant (.int (m:Int)) jc p3) p4) X.env)::Td [.Name z p2] X.env:=by rfl)(he2:du X (.Name z p2) []:=by rfl)(Wg:fm X cp [.Name z p2]:=by rfl)(hNj:autoParam (At X j y) cg)(hNl:autoParam (At X l z) cg)(hpi:eL (.Constant (.int (m:Int)) jc p3):=by exact λ_ _=>rfl)(WJ:Tf (.Call (.Name x p) [.Subscript (.Name y p1) (.Constant (.int (m:Int)) jc p3) p4,.Name z p2] [] cp) none pos.line X.env=pure false:=by rfl):W1 X (.Expr (.Call (.Name x p) [.Subscript (.Name y p1) (.Constant (.int (m:Int)) jc p3) p4,.Name z p2] [] cp) pos) Γ N T:=λσ H0 R0 H R E D dn dr=>by
 obtain⟨f,fd,pn,F,hm,hk,hb⟩:=C.ex;obtain⟨v0,e0,Xw⟩:=E.ent j _ hj;cases Xw
 refine sS (d9 (ig F hr hg hm hk hb .nil jT (aH (gG iz (aV hNj) (aK (e:=.Constant (.int (m:Int)) jc p3)) hpi) (aH (aV hNl) bo he2) he) Wu he Wg) WJ) ⟨.ref q0.2.1,at_of e0,(ev_int (i:=(m:Int)) (X:=X) (Γ:=Γ)) σ H0 R0 H R E _ λu H2 R2 E2 s2 e2=>?_⟩;obtain⟨⟨v,ea,rfl,kk⟩,hR⟩:=E2.ent i _ hΓ;obtain⟨ec,_,_⟩:=dD (E2.ent l _ hl);obtain⟨t0,nd,_⟩:=kk.pt n' q0 hq;cases t0 with
 | @lst _ vs _ _ YH tt zz=>
 obtain⟨b,g,f1,f2,hv,ef,t,Yc⟩:=tt.sub hts;obtain⟨n1,n2⟩:=QF.mp nd;rw[ef] at n2;obtain⟨m1,m2,m3⟩:=QO.mp n2;obtain⟨m4,m5,m6⟩:=QO.mp m2;have ml:=(Qc.mp hv).1;refine⟨q0.2.1,vs,(m:Int),.ref b,rfl,e2,bt.of YH,by rw[gP (by omega) (by omega),show((m:Nat):Int).toNat=m by omega];exact hv,.ref c,at_of ec,?_⟩;have sub:∀e∈b::g,e∈q0.2.2:=λe he=>by rw[ef];exact Qn _ (Qs _ he)
 show lQ d [.ref b,.ref c] H2 (λ_ H1=>D.nx σ H1) E0;refine yp (x:=x) (n:=0) (es:=[]) (Q:=λ_ H'=>D.nx σ H') (ys:=q0.1.set m (.lst ((aQ ts k).1.map PV.lst))) E2 YG hΓ hl hq (λe he=>Qi _ (sub e he)) t m4 hd (λH' Zt t'=>?_) λH' R' E' s'=>dn σ H' R' _ E' (s2.trans s') h;refine .lst ((Zt _ Qk λw=>n1 (sub _ w)).trans YH) (Yc H' _ (λe he=>Zt e ?_ ?_) t') (by rw[QV];exact zz)
 ·refine Qi _ ?_;rw[ef];rcases Qr.mp he with w | w
  ·exact Qs _ w
  ·exact Qn _ (Qn _ w)
 ·intro w;rcases Qr.mp he with z | z
  ·exact m3 e z e (Qs _ w) rfl
  ·exact m6 e w e z rfl
end
end Fc
namespace K1
open PySem L2 Fc
open PySem.Spec hiding Row
open PyProof.Rows hiding St
open PySem.Builtin.Int (intBits)
variable {P:Tb}{w:World}{K:Vr}{mg:Pz}{base:Heap}{f:Addr}{fd:Tg}
theorem oj:∀(ts:List Th)(t:Th)(k:Int),aQ (ts++[t]) k=((aQ ts k).1++[(bB t (aQ ts k).2).1],(bB t (aQ ts k).2).2)
 | [],t,k=>by rw[QW,aQ,aQ,aQ];rfl
 | u::ts,t,k=>by rw[Q7,aQ,oj ts t,aQ];rfl
variable {H:Hp}{b:Addr}
theorem JK {R:Hp}{c:Addr}{ps:List PT}{k:Int}{N:PJ}(hN:N.length=3)(s:aw R H)(kk:kI H b ps)(hR:∀d∈b::d8 ps,R d=none)(hc:c∉b::d8 ps)(YI:R c=none)(hHc:H c=some (.lst [.int k])):
 au K (L2.start N [.ref b,.ref c]) (fW H (c::b::d8 ps)) R H R [.ob (bu b ps),.ob (aO c ag [k]),.no]:=by
 have es:L2.start N [.ref b,.ref c]=[some (.ref b),some (.ref c),none]:=by unfold L2.start;rw[hN];rfl
 rw[es];have at_:∀(i:Nat)(e:Ent),([.ob (bu b ps),.ob (aO c ag [k]),.no]:Ga)[i]?=some e->(i=0/\e= .ob (bu b ps))∨(i=1/\e= .ob (aO c ag [k]))∨(i=2/\e= .no):=λi e q=>by
  match i with
  | 0=>exact .inl ⟨rfl,by simpa using q.symm⟩
  | 1=>exact .inr (.inl ⟨rfl,by simpa using q.symm⟩)
  | 2=>exact .inr (.inr ⟨rfl,by simpa using q.symm⟩)
  | i+3=>simp at q
 refine⟨⟨pR,aw.refl _,s,λ_ _=>rfl⟩,λi e q=>?_,λi e d q w=>?_,λi j e e' d q q' w w'=>?_,rfl⟩
 ·rcases at_ i e q with⟨rfl,rfl⟩ | ⟨rfl,rfl⟩ | ⟨rfl,rfl⟩
  ·exact⟨⟨_,rfl,rfl,kk⟩,hR⟩
  ·exact⟨⟨_,rfl,rfl,_,hHc,.cons rfl .nil⟩,λd hd=>by rw[Qe.mp hd];exact YI⟩
  ·trivial
 ·rcases at_ i e q with⟨rfl,rfl⟩ | ⟨rfl,rfl⟩ | ⟨rfl,rfl⟩
  ·exact kf (Qi _ w)
  ·rw[Qe.mp w];exact kf Qk
  ·cases w
 ·rcases at_ i e q with⟨rfl,rfl⟩ | ⟨rfl,rfl⟩ | ⟨rfl,rfl⟩
  ·rcases at_ j e' q' with⟨rfl,rfl⟩ | ⟨rfl,rfl⟩ | ⟨rfl,rfl⟩
   ·rfl
   ·exact VO w (by rw[Qe.mp w'];exact hc)
   ·cases w'
  ·rcases at_ j e' q' with⟨rfl,rfl⟩ | ⟨rfl,rfl⟩ | ⟨rfl,rfl⟩
   ·exact VO w' (by rw[Qe.mp w];exact hc)
   ·rfl
   ·cases w'
  ·cases w
variable {α:Type}{i:Nat}
theorem lg {l:List α}{x:α}(h:l[i]?=some x):l.set i x=l:=by
 obtain⟨hl,rfl⟩:=Qc.mp h;exact List.set_getElem_self hl
variable {N:Ga->Prop}{X:Cx}{g:Addr×PM}{qs:List PT}{p1 pos:Pos}{Γ:Ga}{T:RT}{n:Nat}{V2:Value}{A:Te}{outer:List Env}{E:XK}{t:Th}
abbrev qz:Stmt:=top pT
abbrev EO:PJ:=["_law_items","_law_keys","_law_one"]
abbrev Ez:PJ:=["_law_items","_law_keys"]
theorem Cz:bV EO Ez (ao qz):=Xt
section
variable {cs:List PV}{e:Ent}{k s s':Str}{y z:Bool}{j1 j2 j3 j4:Nat}{p2 p3 p4 p5 p6 p7 p8 p9 p10:Pos}
theorem cn {c:Expr}{bd W0:List Stmt}(h:TV X c Γ false Γ)(k:WS X W0 Γ N T):WS X (.If c bd [] pos::W0) Γ N T:=ai (a8 h (λh=>by cases h) (λ_=>aF k))
theorem gY {c:Expr}{bd W0:List Stmt}(h:TV X c Γ true Γ)(k:WS X bd Γ (λΓ=>WS X W0 Γ N T) T):WS X (.If c bd [] pos::W0) Γ N T:=ai (a8 h (λ_=>k) (λh=>by cases h))
theorem jK (hq:qs[i]?=some (cs,g))(h0:cs[0]?=some (.str k))(hb:decide (k=s)=y)(hN:autoParam (At X 2 "_law_one") cg):TV X (.Compare (.Subscript (.Name "_law_one" p1) (.Constant (.int 0) j1 p2) p3) [.Eq] [.Constant (.str s) j2 p4] pos) [.ob (bu b qs),e,.im dv g.1] y [.ob (bu b qs),e,.im dv g.1]:=
 TV.cast (aA cm (EV.sP (x:=k) (nQ 0 2 (m:=0) rfl rfl hq h0 rfl hN)) ay) hb
theorem rV (hq:qs[i]?=some (cs,g))(h0:cs[0]?=some (.str k))(hb:(!decide (k=s)&& !decide (k=s'))=y)(hN:autoParam (At X 2 "_law_one") cg):TV X (.BoolOp .And [.Compare (.Subscript (.Name "_law_one" p1) (.Constant (.int 0) j1 p2) p3) [.NotEq] [.Constant (.str s) j2 p4] p5,.Compare (.Subscript (.Name "_law_one" p6) (.Constant (.int 0) j4 p9) p10) [.NotEq] [.Constant (.str s') j3 p7] p8] pos) [.ob (bu b qs),e,.im dv g.1] y [.ob (bu b qs),e,.im dv g.1]:=
 TV.cast (TW.tv (dg (aA uz (EV.sP (x:=k) (nQ 0 2 (m:=0) rfl rfl hq h0 rfl hN)) ay) (λ_=>eO (aA uz (EV.sP (x:=k) (nQ 0 2 (m:=0) rfl rfl hq h0 rfl hN)) ay)))) hb
end
theorem Gx (CN:∀m,n=m+1->aE P w K mg base "_law_numbered" (m+1) (lQ m)){s:S7}(hr:bG n (A.deeper (S0 "_law_numbered" (ao qz) s.heap.objs.size f V2))){c:Addr}{k:Int}(hd:fZ t<=n)(hq:qs[i]?=some (eQ t,g))(hN:N [.ob (bu b (qs.set i ((bB t k).1,g))),.ob (aO c ag [(bB t k).2]),.im dv g.1]):
 WS (fI eX P w K mg base EO "_law_numbered" (ao qz) f V2 A outer s H E).i6 (match bP qz with | .For _ _ bd _ _::_=>bd | _=>[]) [.ob (bu b qs),.ob (aO c ag [k]),.im dv g.1] N T:=by
 have nd:=Cz.nd;have il:=(Qc.mp hq).1;have Yl:∀y:List PV,(qs.set i (y,g))[i]?=some (y,g):=λy=>Qp il;cases t with
 | leave=>
   have:qs.set i ((bB (.leave) k).1,g)=qs:=by rw[bB];exact lg hq
   rw[this,bB] at hN;exact cn (rV hq rfl rfl) (cn (jK hq rfl rfl) (cn (jK hq rfl rfl) (aF hN)))
 | back=>
   have:qs.set i ((bB (.back) k).1,g)=qs:=by rw[bB];exact lg hq
   rw[this,bB] at hN;exact cn (rV hq rfl rfl) (cn (jK hq rfl rfl) (cn (jK hq rfl rfl) (aF hN)))
 | Wi x=>
   rw[bB] at hN;exact gY (rV hq rfl rfl) (ai (oP 0 2 (y:=.int k) (EV.pI (dw 1 ev_int rfl (y:=k) rfl)) rfl rfl rfl hq rfl (by show 2<S8;decide) (aj (eP 1 (j:=0) (ck (dw 1 ev_int rfl (y:=k) rfl) ev_int) ev_int rfl rfl rfl (cn (jK (Yl _) rfl rfl) (cn (jK (Yl _) rfl rfl) (aF hN)))))))
 | call x=>
   rw[bB] at hN;exact gY (rV hq rfl rfl) (ai (oP 0 2 (y:=.int k) (EV.pI (dw 1 ev_int rfl (y:=k) rfl)) rfl rfl rfl hq rfl (by show 2<S8;decide) (aj (eP 1 (j:=0) (ck (dw 1 ev_int rfl (y:=k) rfl) ev_int) ev_int rfl rfl rfl (cn (jK (Yl _) rfl rfl) (cn (jK (Yl _) rfl rfl) (aF hN)))))))
 | ifs x L M=>
   have hd:1+max (dA L) (dA M)<=n:=by rw[fZ] at hd;exact hd
   obtain⟨m,rfl⟩:∃m,n=m+1:=⟨n-1,by omega⟩;refine gY (rV hq rfl rfl) (ai (oP 0 2 (y:=.int k) (EV.pI (dw 1 ev_int rfl (y:=k) rfl)) rfl rfl rfl hq rfl (by show 4<S8;decide) (aj (eP 1 (j:=0) (ck (dw 1 ev_int rfl (y:=k) rfl) ev_int) ev_int rfl rfl rfl (gY (jK (Yl _) rfl rfl) ?_)))));refine ai (r9 0 2 1 (m:=2) (ts:=L) (CN m rfl) hr (by decide) rfl rfl rfl (Yl ([.str "if",.str x,.lst (bC L),.lst (bC M)]++[.int k])) rfl (by omega) ?_);rw[Ra];generalize hA:aQ L (k+1)=RA;refine aj (r9 0 2 1 (m:=3) (ts:=M) (CN m rfl) hr (by decide) rfl rfl rfl (Yl [.str "if",.str x,.lst (RA.1.map PV.lst),.lst (bC M),.int k]) rfl (by omega) ?_);rw[Ra];rw[bB,hA] at hN;exact cn (jK (Yl _) rfl rfl) (aF hN)
 | V5 x L=>
   have hd:1+dA L<=n:=by rw[fZ] at hd;exact hd
   obtain⟨m,rfl⟩:∃m,n=m+1:=⟨n-1,by omega⟩;refine gY (rV hq rfl rfl) (ai (oP 0 2 (y:=.int k) (EV.pI (dw 1 ev_int rfl (y:=k) rfl)) rfl rfl rfl hq rfl (by show 3<S8;decide) (aj (eP 1 (j:=0) (ck (dw 1 ev_int rfl (y:=k) rfl) ev_int) ev_int rfl rfl rfl (cn (jK (Yl _) rfl rfl) (gY (jK (Yl _) rfl rfl) ?_))))));refine aj (r9 0 2 1 (m:=2) (ts:=L) (CN m rfl) hr (by decide) rfl rfl rfl (Yl ([.str "while",.str x,.lst (bC L)]++[.int k])) rfl (by omega) (aF ?_));rw[Ra];rw[bB] at hN;exact hN
theorem AX (CN:∀m,n=m+1->aE P w K mg base "_law_numbered" (m+1) (lQ m))(F:dZ K "_law_numbered" "_law_numbered" qz f fd)(hm:mg "_law_numbered"=some (.ref f))(hb:Binds K fd Ez []):aE P w K mg base "_law_numbered" (n+1) (lQ n):=by
 have nd:=Cz.nd;refine⟨f,fd,Ez,?_,hm,F.kp,hb⟩;refine F.ok Cz (λvs H Q E h=>?_) (λV2 A outer s H vs Q E hr h=>?_)
 ·obtain⟨R,b,c,g,ts,k,rfl,_⟩:=h;rfl
 ·obtain⟨R,b,c,g,ts,k,rfl,sR,t,ndb,hR,hc,YI,hHc,hd,q⟩:=h;have hz:ts.length<=S8:=by
   cases t with
   | lst _ _ z=>rw[fg,Qg] at z;exact z
  rw[A3] at t;obtain⟨ps,kk,e1,rfl⟩:=t.pl ndb;have pl:ps.length=ts.length:=by
   have:=congrArg List.length e1;rwa [Qg,Qg] at this
  have body:WS (fI eX P w K mg base EO "_law_numbered" (ao qz) f V2 A outer s H E).i6 (bP qz) [.ob (bu b ps),.ob (aO c ag [k]),.no] (λΓ=>∃(qs:List PT)(e:Ent),Γ=[.ob (bu b qs),.ob (aO c ag [(aQ ts k).2]),e]/\qs.map (·.2)=ps.map (·.2)/\qs.map (·.1)=(aQ ts k).1) (λ_ _ _ _=>False):=by
   refine aj (yf 0 (a:=b) (ps:=ps) (λi Γ=>∃(qs:List PT)(e:Ent),Γ=[.ob (bu b qs),.ob (aO c ag [(aQ (ts.take i) k).2]),e]/\qs.map (·.2)=ps.map (·.2)/\qs.map (·.1)=(aQ (ts.take i) k).1++(ts.drop i).map eQ) rfl (aP 2) ⟨ps,.no,rfl,rfl,?_⟩ (λi Γ ⟨qs,e,h1,h2,_⟩=>⟨qs,by rw[h1];rfl,h2⟩) (λi p Γ hp hΓ=>?_) (λΓ hΓ=>?_))
   ·rw[Ri,aQ,drop_zero,e1];rfl
   ·obtain⟨qs,e,rfl,h2,h3⟩:=hΓ;have il:i<ts.length:=by rw[← pl];exact(Qc.mp hp).1
    have ti:ts[i]?=some ts[i]:=Qd il;have lt:(aQ (ts.take i) k).1.length=i:=by rw[mV,QA];omega
    have q1:(qs.map (·.1))[i]?=some (eQ ts[i]):=by
     rw[h3,QE (by omega),lt,SE,Ql,Se,SF,ti];rfl
    have q2:(qs.map (·.2))[i]?=some p.2:=by rw[h2,Ql,hp];rfl
    rw[Ql] at q1 q2;obtain⟨q0,X4,e3⟩:=SO.mp q1;rw[X4] at q2;have e4:q0.2=p.2:=Option.some.inj q2;have hq:qs[i]?=some (eQ ts[i],p.2):=by rw[X4];exact congrArg some (SU e3 e4)
    have nx:aQ (ts.take (i+1)) k=((aQ (ts.take i) k).1++[(bB ts[i] (aQ (ts.take i) k).2).1],(bB ts[i] (aQ (ts.take i) k).2).2):=by
     rw[QK,ti];exact oj _ _ _
    refine Gx (t:=ts[i]) (i:=i) (qs:=qs) (g:=p.2) CN hr (Sh (nG (QP il)) hd) hq ⟨qs.set i ((bB ts[i] (aQ (ts.take i) k).2).1,p.2),.im dv p.2.1,by rw[nx],?_,?_⟩
    ·rw[RX,h2];exact lg (by rw[Ql,hp];rfl)
    ·rw[RX,h3,nx,List.set_append_right _ _ (by omega),lt,SE,Qy];congr 1;rw[show ts.drop i=ts[i]::ts.drop (i+1) from Rb il];rfl
   ·obtain⟨qs,e,rfl,h2,h3⟩:=hΓ;rw[pl,QM] at h3 ⊢;rw[drop_length,RL,QC] at h3;exact⟨qs,e,rfl,h2,h3⟩
  refine⟨_,jq,body (L2.start EO [.ref b,.ref c]) (fW H (c::b::d8 ps)) R H R (JK rfl sR kk hR hc YI hHc) {nx:=λ_ H'=>Q .Wb H',rt:=Q} (λσ' H' R' Γ' E' _ ⟨qs,e,hΓ,h2,h3⟩=>?_) λv H' R' xx t=>t.elim⟩;subst hΓ;obtain⟨⟨v,ea,rfl,k2⟩,Y2⟩:=E'.ent 0 _ rfl;obtain⟨ec,⟨ws,hwc,pw⟩,hRc2⟩:=dD (E'.ent 1 _ rfl);have ews:ws=[.int (aQ ts k).2]:=by
   cases pw with
   | cons a1 t1=>cases t1;have:_=V.int (aQ ts k).2:=a1;rw[this]
  subst ews;have fe:d8 qs=d8 ps:=by
   have:=congrArg (λl:List (Addr×PM)=>l.flatMap λz=>z.1::z.2) h2;simpa only[List.flatMap_map] using this
  have ql:qs.length<=S8:=by
   have:=congrArg List.length h2;rw[Qg,Qg] at this;omega
  obtain⟨t2,_⟩:=k2.tpv ql;rw[h3,fe] at t2;refine q H' R' E'.ext t2 hwc λd hd=>?_;rcases Qq.mp hd with rfl | hd
  ·exact hRc2
  ·exact Y2 d (by show d∈b::d8 qs;rw[fe];exact hd)
theorem Eu (F:dZ K "_law_numbered" "_law_numbered" qz f fd)(hm:mg "_law_numbered"=some (.ref f))(hb:Binds K fd Ez []):∀n,aE P w K mg base "_law_numbered" (n+1) (lQ n)
 | 0=>AX (λm h=>VO h (by omega)) F hm hb
 | n+1=>AX (λm h=>by cases h;exact Eu F hm hb n) F hm hb
def kC (ts:List Th)(k:Int)(bh lp:PV):PV:=match ts with
 | []=>bh
 | .leave::_=>lp
 | .back::_=>.int (-1)
 | _::_=>.int k
mutual
def eW:Th->Int->PV->PV->List PV
 | .Wi x,k,af,lp=>[.tup [.str "do",.str x,.int k,af,.int (-1)]]
 | .call j,k,af,lp=>[.tup [.str "call",.str "",.int k,af,.int j]]
 | .ifs x A B,k,af,lp=>[.tup [.str "yes",.str x,.int k,kC A (k+1) af lp,.int (-1)],.tup [.str "no",.str x,.int k,kC B (aQ A (k+1)).2 af lp,.int (-1)]]++(eZ A (k+1) af lp++eZ B (aQ A (k+1)).2 af lp)
 | .V5 x A,k,af,lp=>[.tup [.str "yes",.str x,.int k,kC A (k+1) (.int k) af,.int (-1)],.tup [.str "no",.str x,.int k,af,.int (-1)]]++eZ A (k+1) (.int k) af
 | .leave,_,_,_=>[]
 | .back,_,_,_=>[]
def eZ:List Th->Int->PV->PV->List PV
 | [],_,_,_=>[]
 | t::ts,k,bh,lp=>eW t k (kC ts (bB t k).2 bh lp) lp++eZ ts (bB t k).2 bh lp
end
mutual
theorem vA:∀(t:Th)(k:Int)(af lp:PV),(eW t k af lp).length=bX t
 | .Wi x,k,af,lp=>by rw[eW,bX];rfl
 | .call j,k,af,lp=>by rw[eW,bX];rfl
 | .ifs x A B,k,af,lp=>by rw[eW,bX,Qj,Qj,hU A,hU B];show 2+_=_;omega
 | .V5 x A,k,af,lp=>by rw[eW,bX,Qj,hU A];rfl
 | .leave,k,af,lp=>by simp only[eW,bX];rfl
 | .back,k,af,lp=>by simp only[eW,bX];rfl
theorem hU:∀(ts:List Th)(k:Int)(bh lp:PV),(eZ ts k bh lp).length=bR ts
 | [],k,bh,lp=>by rw[eZ,bR];rfl
 | t::ts,k,bh,lp=>by rw[eZ,bR,Qj,vA t,hU ts]
end
theorem xO (t:Th)(k:Int):cE (bB t k).1 0=some (.str (eC t)):=by cases t<;>rw[bB]<;>rfl
theorem sM:∀{ts:List Th}{j:Nat}{t:Th}(k:Int),ts[j]?=some t->(aQ ts k).1[j]?=some (bB t (aQ (ts.take j) k).2).1
 | u::ts,0,t,k,h=>by
   have e:u=t:=by simpa using h
   rw[aQ,Ri,aQ,e];rfl
 | u::ts,j+1,t,k,h=>by
   rw[aQ,QS,aQ];exact sM (bB u k).2 (by simpa using h)
theorem BD:∀(ts:List Th)(j:Nat){t:Th}(k:Int)(bh lp:PV),ts[j]?=some t->eZ (ts.drop j) (aQ (ts.take j) k).2 bh lp=eW t (aQ (ts.take j) k).2 (kC (ts.drop (j+1)) (aQ (ts.take (j+1)) k).2 bh lp) lp++eZ (ts.drop (j+1)) (aQ (ts.take (j+1)) k).2 bh lp
 | ts,j,t,k,bh,lp,h=>by
   have jl:=(Qc.mp h).1;have e:ts.drop j=t::ts.drop (j+1):=by
    rw[Rb jl];congr 1;exact Option.some.inj ((Qd jl).symm.trans h)
   have e2:(aQ (ts.take (j+1)) k).2=(bB t (aQ (ts.take j) k).2).2:=by
    rw[QK,h];show(aQ (ts.take j++[t]) k).2=_;rw[oj]
   rw[e,eZ,e2]
abbrev f9 (ts:List Th)(k:Int):List PV:=(aQ ts k).1.map PV.lst
abbrev Ox:Stmt:=top t6
abbrev Oc:PJ:=["_law_items","_law_j","_law_behind","_law_loop"]
def BU:cS:=λK ps T=>∃(ts:List Th)(k:Int)(j:Nat)(bh lp:PV),ps=[⟨ae aq,f9 ts k⟩,⟨ag,(j:Int)⟩,⟨aq,bh⟩,⟨aq,lp⟩]/\j<=ts.length/\T=cU K aq (· =kC (ts.drop j) (aQ (ts.take j) k).2 bh lp)
theorem MB (M:cD K mg)(Df:Def K mg "_law_entry" Ox Oc):aE P w K mg base "_law_entry" 1 (aM BU K):=by
 refine bD (N:=Oc) (k:=0) Df (λf V2 A outer s H E qs T nd hr hS=>?_);obtain⟨ts,k,j,bh,lp,rfl,hj,rfl⟩:=hS;have ln:(f9 ts k).length=ts.length:=by rw[Qg,mV]
 refine ai (a8 (aA fT (aa 1 rfl) (dy M.len (aa 0 rfl))) (λh=>?_) (λh=>aF ?_))
 ·have h:(j:Int)=((f9 ts k).length:Int):=VR h;refine aj (aN (aa 2 rfl) ?_);rw[Rk (by omega)];rfl
 have h:¬(j:Int)=((f9 ts k).length:Int):=VS h;have jl:j<ts.length:=by omega
 have tj:ts[j]?=some ts[j]:=Qd jl;have ed:ts.drop j=ts[j]::ts.drop (j+1):=Rb jl;have at_:cE (f9 ts k) (j:Int)=some (.lst (bB ts[j] (aQ (ts.take j) k).2).1):=by
  rw[gP (by omega) (by omega),show((j:Nat):Int).toNat=j by omega,Ql,sM k tj];rfl
 rw[ed];generalize ts[j]=t at at_;generalize (aQ (ts.take j) k).2=kk at at_;refine ai (a8 (aA cm (EV.sP (a9 (EV.lP (a9 (aa 0 rfl) (aa 1 rfl) at_)) ev_int (xO t kk))) ay) (λh=>?_) (λh=>aF ?_))
 ·have h:eC t="leave":=VR h;refine aj (aN (aa 3 rfl) ?_);cases t with
  | leave=>rfl
  | _=>simp only[eC] at h;exact VO h (by decide +kernel)
 have h1:eC t≠"leave":=VS h;refine ai (a8 (aA cm (EV.sP (a9 (EV.lP (a9 (aa 0 rfl) (aa 1 rfl) at_)) ev_int (xO t kk))) ay) (λh=>?_) (λh=>aF ?_))
 ·have h:eC t="back":=VR h;refine aj (aN (EV.pI (cO ev_int)) ?_);cases t with
  | back=>rfl
  | _=>simp only[eC] at h;exact VO h (by decide +kernel)
 have h2:eC t≠"back":=VS h;have lst:cE (bB t kk).1 (-1)=some (.int kk)/\kC (t::ts.drop (j+1)) kk bh lp= .int kk:=by
  cases t with
  | leave=>exact VO rfl h1
  | back=>exact VO rfl h2
  | _=>exact⟨by rw[bB];rfl,rfl⟩
 exact aj (aN (a9 (EV.lP (a9 (aa 0 rfl) (aa 1 rfl) at_)) (cO ev_int) lst.1) lst.2.symm)
def mZ (n:Nat)(K:Vr):Sp:=λvs H Q _=>∃(R:Hp)(a:Addr)(ws:List V)(xs:List PV)(v0 v1 v2:V)(ts:List Th)(k:Int)(bh lp:PV),vs=[v0,v1,v2,.ref a]/\aw R H/\R a=none/\H a=some (.lst ws)/\PySem.Paired (aq.R K R) ws xs/\(ae aq).R K R v0 (f9 ts k)/\aq.R K R v1 bh/\aq.R K R v2 lp/\dA ts<=n/\xs.length+bR ts<=1000/\
 ∀H' R' Xj,Ext (del H a) R H' R'->H' a=some (.lst Xj)->R' a=none->PySem.Paired (aq.R K R') Xj (xs++eZ ts k bh lp)->Q .Wb H'
variable {x:Str}{xs:List PV}{e:Expr}{es:PQ}{a:Addr}{y:Str}{ts:List Th}
theorem fA (i:Nat){n:Int}{y:PV}(hΓ:Γ[i]?=some (.im aq (.lst xs)))(he:EV X e Γ ag n Γ)(hy:cE xs n=some y)(hN:autoParam (At X i x) cg)(hs:eL e:=by exact λ_ _=>rfl):EV X (.Subscript (.Name x p1) e pos) Γ aq y Γ:=
 a9 (EV.lP (aa i hΓ hN)) he hy hs
theorem eE (i:Nat){k s:Str}{jc:Nat}{p2 p3:Pos}{b:Bool}(hΓ:Γ[i]?=some (.im aq (.lst (.str k::xs))))(he:EV X e Γ ag 0 Γ)(hb:decide (k=s)=b)(hN:autoParam (At X i x) cg)(hs:eL e:=by exact λ_ _=>rfl):TV X (.Compare (.Subscript (.Name x p1) e p2) [.Eq] [.Constant (.str s) jc p3] pos) Γ b Γ:=
 TV.cast (aA cm (EV.sP (fA i hΓ he (by rw[gP (by omega) (by simp)];rfl) hN hs)) ay) hb
theorem sY (i:Nat){k:Nat}{tp ap cp:Pos}{ys:List PV}(he:EA X es (Γ.set i (.mu aq xs)) aq ys (Γ.set i (.mu aq xs)))(hΓ:Γ[i]?=some (.ob (aO a aq xs)))(hz:xs.length<=1100)(h:N (Γ.set i (.ob (aO a aq (xs++[.tup ys])))))(hy:ys.length<=S8:=by show 5<=S8;decide)(hN:autoParam (At X i x) cg)(WJ:Tf (.Call (.Attribute (.Name x p1) "append" ap) [.Tuple es k tp] [] cp) none pos.line X.env=pure false:=by rfl)(V7:fD X (.Name x p1) "append":=by rfl)(Wj:((Ui cp (Td [.Tuple es k tp] X.env)).all (λx=> !x.1)&&(backToKw cp (keywordEach [] X.env)).all (λx=>x.1.isSome)
  &&decide ([(.Tuple es k tp:Expr)].length+([]:List Uo).length+(if([]:List Uo).isEmpty then 0 else 1)<30))=true:=by rfl)(V6:(ap.endLine==cp.line)=true:=by rfl)(hs:Td [.Tuple es k tp] X.env=(false,eval (.Tuple es k tp) X.env)::Td [] X.env:=by rfl):W1 X (.Expr (.Call (.Attribute (.Name x p1) "append" ap) [.Tuple es k tp] [] cp) pos) Γ N T:=by
 have hl:i<Γ.length:=(Qc.mp hΓ).1;refine Be (EV.box i (Az i (r:=aq) (jo he hy) (Qp hl) (Qp hl) (Sj hz (by decide)) hN V7 Wj V6 hs) hΓ (Qp (by rw[QV];exact hl))) ?_ WJ;rw[Ra,Ra];exact h
theorem CU (i:Nat){m:Nat}{e0 e1 e2:Expr}{p cp:Pos}{k:Int}{bh lp:PV}(C:aE X.prog X.w X.K X.mg X.base x m (mZ n X.K))(hr:bG m X.A)(h0:EV X e0 Γ (ae aq) (f9 ts k) Γ)(h1:EV X e1 Γ aq bh Γ)(h2:EV X e2 Γ aq lp Γ)(hΓ:Γ[i]?=some (.ob (aO a aq xs)))(hd:dA ts<=n)(hz:xs.length+bR ts<=1000)(h:N (Γ.set i (.ob (aO a aq (xs++eZ ts k bh lp)))))(hg:Gl X x:=by rfl)(Wu:WW x:=by decide)(s0:Td [e0,e1,e2,.Name y p1] X.env=(false,eval e0 X.env)::Td [e1,e2,.Name y p1] X.env:=by rfl)(s1:Td [e1,e2,.Name y p1] X.env=(false,eval e1 X.env)::Td [e2,.Name y p1] X.env:=by rfl)(s2:Td [e2,.Name y p1] X.env=(false,eval e2 X.env)::Td [.Name y p1] X.env:=by rfl)(s3:du X (.Name y p1) []:=by rfl)(Wg:fm X cp [e1,e2,.Name y p1]:=by rfl)(hN:autoParam (At X i y) cg)(WJ:Tf (.Call (.Name x p) [e0,e1,e2,.Name y p1] [] cp) none pos.line X.env=pure false:=by rfl):W1 X (.Expr (.Call (.Name x p) [e0,e1,e2,.Name y p1] [] cp) pos) Γ N T:=λσ H0 R0 H R E D dn dr=>by
 obtain⟨f,fd,pn,F,hm,hk,hb⟩:=C.ex;refine sS (d9 (ig F hr hg hm hk hb .nil jT (aH aK (aH aK (aH aK (aH (aV hN) bo s3) s2) s1) s0) Wu s0 Wg) WJ) ?_;refine h0 σ H0 R0 H R E _ λv0 H1 R1 E1 q1 g0=>h1 σ H0 R0 H1 R1 E1 _ λv1 H2 R2 E2 q2 g1=>h2 σ H0 R0 H2 R2 E2 _ λv2 H3 R3 E3 q3 g2=>?_;obtain⟨ea,⟨ws,ha,pp⟩,hR⟩:=dD (E3.ent i _ hΓ);refine⟨.ref a,at_of ea,?_⟩;show mZ n X.K [v0,v1,v2,.ref a] H3 (λ_ H1=>D.nx σ H1) E0;refine⟨R3,a,ws,xs,v0,v1,v2,ts,k,bh,lp,rfl,E3.sub,hR,ha,pp,(ae aq).mono (q2.trans q3) g0,aq.mono (K:=X.K) q3 g1,g2,hd,hz,λH' R' Xj xx h1 h2 pq=>?_⟩;have hl:i<Γ.length:=(Qc.mp hΓ).1;have E4:au X.K σ H0 R0 H' R' (Γ.set i (.ob (aO a aq (xs++eZ ts k bh lp)))):=E3.zJ hΓ (B:=aO a aq xs) (by
  have:fW H3 (aO a aq xs).fp=del H3 a:=by funext b;show(if b∈[a] then none else H3 b)=_;unfold del;simp only[Qe]
  rw[this];exact xx) (by rw[ea];exact⟨⟨_,rfl,rfl,Xj,h1,pq⟩,λb hb=>by rw[Qe.mp hb];exact h2⟩) λc hc=>hc
 exact dn σ H' R' _ E4 (q1.trans (q2.trans (q3.trans xx.r))) h
abbrev rG:Stmt:=top uH
abbrev Es:PJ:=["_law_items","_law_behind","_law_loop","_law_rows_here","_law_j","_law_one","_law_after"]
abbrev ED:PJ:=["_law_items","_law_behind","_law_loop","_law_rows_here"]
theorem CV:bV Es ED (ao rG):=Xt
theorem JE {R:Hp}{ws:List V}{items:List PV}{bh lp:PV}{u0 u1 u2:V}{N:PJ}(hN:N.length=7)(s:aw R H)(hR:R a=none)(ha:H a=some (.lst ws))(pp:PySem.Paired (aq.R K R) ws xs)(g0:(ae aq).R K R u0 items)(g1:aq.R K R u1 bh)(g2:aq.R K R u2 lp):
 au K (L2.start N [u0,u1,u2,.ref a]) (del H a) R H R [.im (ae aq) items,.im aq bh,.im aq lp,.ob (aO a aq xs),.no,.no,.no]:=by
 have es:L2.start N [u0,u1,u2,.ref a]=[some u0,some u1,some u2,some (.ref a),none,none,none]:=by unfold L2.start;rw[hN];rfl
 rw[es];have key:∀(i:Nat)(e:Ent),([Ent.im (ae aq) items,.im aq bh,.im aq lp,.ob (aO a aq xs),.no,.no,.no]:Ga)[i]?=some e->(i=0/\e= .im (ae aq) items)∨(i=1/\e= .im aq bh)∨(i=2/\e= .im aq lp)∨(i=3/\e= .ob (aO a aq xs))∨e= .no:=by
  intro i e q
  match i,q with
  | 0,q=>simp at q;exact .inl ⟨rfl,q.symm⟩
  | 1,q=>simp at q;exact .inr (.inl ⟨rfl,q.symm⟩)
  | 2,q=>simp at q;exact .inr (.inr (.inl ⟨rfl,q.symm⟩))
  | 3,q=>simp at q;exact .inr (.inr (.inr (.inl ⟨rfl,q.symm⟩)))
  | 4,q=>simp at q;exact .inr (.inr (.inr (.inr q.symm)))
  | 5,q=>simp at q;exact .inr (.inr (.inr (.inr q.symm)))
  | 6,q=>simp at q;exact .inr (.inr (.inr (.inr q.symm)))
  | i+7,q=>simp at q
 have dsub:aw (del H a) H:=λb o q=>by
  unfold del at q;by_cases h:b=a
  ·rw[VQ h] at q;cases q
  ·rwa [VP h] at q
 refine⟨⟨dsub,aw.refl _,s,λ_ _=>rfl⟩,λi e q=>?_,λi e d q w=>?_,λi j e e' d q q' w w'=>?_,rfl⟩
 ·rcases key i e q with⟨rfl,rfl⟩ | ⟨rfl,rfl⟩ | ⟨rfl,rfl⟩ | ⟨rfl,rfl⟩ | rfl
  ·exact⟨u0,rfl,g0⟩
  ·exact⟨u1,rfl,g1⟩
  ·exact⟨u2,rfl,g2⟩
  ·exact⟨⟨_,rfl,rfl,ws,ha,pp⟩,λb hb=>by rw[Qe.mp hb];exact hR⟩
  ·trivial
 ·rcases key i e q with⟨rfl,rfl⟩ | ⟨rfl,rfl⟩ | ⟨rfl,rfl⟩ | ⟨rfl,rfl⟩ | rfl
  ·cases w
  ·cases w
  ·cases w
  ·rw[Qe.mp w];unfold del;rw[VQ rfl]
  ·cases w
 ·rcases key i e q with⟨rfl,rfl⟩ | ⟨rfl,rfl⟩ | ⟨rfl,rfl⟩ | ⟨rfl,rfl⟩ | rfl
  ·cases w
  ·cases w
  ·cases w
  ·rcases key j e' q' with⟨rfl,rfl⟩ | ⟨rfl,rfl⟩ | ⟨rfl,rfl⟩ | ⟨rfl,rfl⟩ | rfl
   ·cases w'
   ·cases w'
   ·cases w'
   ·rfl
   ·cases w'
  ·cases w
theorem Gg (CE:aE P w K mg base "_law_entry" 1 (aM BU K))(CR:∀m,n=m+1->aE P w K mg base "_law_rows" (m+2) (mZ m K)){s:S7}(hr:bG (n+1) (A.deeper (S0 "_law_rows" (ao rG) s.heap.objs.size f V2))){items:List PV}{bh lp af:PV}{k:Int}{e4:Ent}(hd:fZ t<=n)(hz:xs.length+bX t<=1000)(hN:N [.im (ae aq) items,.im aq bh,.im aq lp,.ob (aO a aq (xs++eW t k af lp)),e4,.im aq (.lst (bB t k).1),.im aq af]):
 WS (fI eX P w K mg base Es "_law_rows" (ao rG) f V2 A outer s H E).i6 (match bP rG with | .For _ _ bd _ _::_=>bd.drop 1 | _=>[]) [.im (ae aq) items,.im aq bh,.im aq lp,.ob (aO a aq xs),e4,.im aq (.lst (bB t k).1),.im aq af] N T:=by
 have nd:=CV.nd;have CE:=CE.mono (show 1<=n+1 by omega);have hzl:∀m:Nat,m<=1100->m<S8:=λm h=>Sj h (by decide);cases t with
 | leave=>
   rw[bB,eW,QC] at hN;rw[bB];exact cn (eE 5 rfl ev_int rfl) (cn (eE 5 rfl ev_int rfl) (cn (eE 5 rfl ev_int rfl) (cn (eE 5 rfl ev_int rfl) (aF hN))))
 | back=>
   rw[bB,eW,QC] at hN;rw[bB];exact cn (eE 5 rfl ev_int rfl) (cn (eE 5 rfl ev_int rfl) (cn (eE 5 rfl ev_int rfl) (cn (eE 5 rfl ev_int rfl) (aF hN))))
 | Wi x=>
   rw[bB,eW] at hN;simp only[bX] at hz;rw[bB];refine gY (eE 5 rfl ev_int rfl) (aj (sY 3 (ak (EV.pS ay) (ak (fA 5 rfl ev_int rfl) (ak (fA 5 rfl (cO ev_int) rfl) (ak (aa 6 rfl) (ak (EV.pI (cO ev_int)) aL))))) rfl (by omega) ?_));exact cn (eE 5 rfl ev_int rfl) (cn (eE 5 rfl ev_int rfl) (cn (eE 5 rfl ev_int rfl) (aF hN)))
 | call x=>
   rw[bB,eW] at hN;simp only[bX] at hz;rw[bB];refine cn (eE 5 rfl ev_int rfl) (gY (eE 5 rfl ev_int rfl) (aj (sY 3 (ak (EV.pS ay) (ak (EV.pS ay) (ak (fA 5 rfl (cO ev_int) rfl) (ak (aa 6 rfl) (ak (fA 5 rfl ev_int rfl) aL))))) rfl (by omega) ?_)));exact cn (eE 5 rfl ev_int rfl) (cn (eE 5 rfl ev_int rfl) (aF hN))
 | ifs x L M=>
   rw[bB,eW] at hN;simp only[bX] at hz;rw[bB];have hd:1+max (dA L) (dA M)<=n:=by rw[fZ] at hd;exact hd
   obtain⟨m,rfl⟩:∃m,n=m+1:=⟨n-1,by omega⟩;refine cn (eE 5 rfl ev_int rfl) (cn (eE 5 rfl ev_int rfl) (gY (eE 5 rfl ev_int rfl) ?_));refine ai (sY 3 (ak (EV.pS ay) (ak (fA 5 rfl ev_int rfl) (ak (fA 5 rfl (cO ev_int) rfl) (ak (aI CE hr (ah (EV.lP (fA 5 rfl ev_int rfl)) (ah ev_int (ah (aa 6 rfl) (ah (aa 2 rfl) ax)))) ⟨L,k+1,0,af,lp,rfl,Si _,rfl⟩) (ak (EV.pI (cO ev_int)) aL))))) rfl (by omega) ?_);refine ai (sY 3 (ak (EV.pS ay) (ak (fA 5 rfl ev_int rfl) (ak (fA 5 rfl (cO ev_int) rfl) (ak (aI CE hr (ah (EV.lP (fA 5 rfl ev_int rfl)) (ah ev_int (ah (aa 6 rfl) (ah (aa 2 rfl) ax)))) ⟨M,(aQ L (k+1)).2,0,af,lp,rfl,Si _,rfl⟩) (ak (EV.pI (cO ev_int)) aL))))) rfl (by simp only[Qj,Qo,QD];omega) ?_);refine ai (CU 3 (ts:=L) (k:=k+1) (CR m rfl) hr (EV.lP (fA 5 rfl ev_int rfl)) (aa 6 rfl) (aa 2 rfl) rfl (by omega) (by simp only[Qj,Qo,QD];omega) ?_);refine aj (CU 3 (ts:=M) (k:=(aQ L (k+1)).2) (CR m rfl) hr (EV.lP (fA 5 rfl ev_int rfl)) (aa 6 rfl) (aa 2 rfl) rfl (by omega) (by simp only[Qj,Qo,QD,hU];omega) ?_);refine cn (eE 5 rfl ev_int rfl) (aF ?_);simp only[Qy,Q7,QW] at hN ⊢;exact hN
 | V5 x L=>
   rw[bB,eW] at hN;simp only[bX] at hz;rw[bB];have hd:1+dA L<=n:=by rw[fZ] at hd;exact hd
   obtain⟨m,rfl⟩:∃m,n=m+1:=⟨n-1,by omega⟩;refine cn (eE 5 rfl ev_int rfl) (cn (eE 5 rfl ev_int rfl) (cn (eE 5 rfl ev_int rfl) (gY (eE 5 rfl ev_int rfl) ?_)));refine ai (sY 3 (ak (EV.pS ay) (ak (fA 5 rfl ev_int rfl) (ak (fA 5 rfl (cO ev_int) rfl) (ak (aI CE hr (ah (EV.lP (fA 5 rfl ev_int rfl)) (ah ev_int (ah (fA 5 rfl (cO ev_int) rfl) (ah (aa 6 rfl) ax)))) ⟨L,k+1,0,.int k,af,rfl,Si _,rfl⟩) (ak (EV.pI (cO ev_int)) aL))))) rfl (by omega) ?_);refine ai (sY 3 (ak (EV.pS ay) (ak (fA 5 rfl ev_int rfl) (ak (fA 5 rfl (cO ev_int) rfl) (ak (aa 6 rfl) (ak (EV.pI (cO ev_int)) aL))))) rfl (by simp only[Qj,Qo,QD];omega) ?_);refine aj (CU 3 (ts:=L) (k:=k+1) (CR m rfl) hr (EV.lP (fA 5 rfl ev_int rfl)) (fA 5 rfl (cO ev_int) rfl) (aa 6 rfl) rfl (by omega) (by simp only[Qj,Qo,QD];omega) (aF ?_));simp only[Qy,Q7,QW] at hN ⊢;exact hN
theorem BC (M:cD K mg)(CE:aE P w K mg base "_law_entry" 1 (aM BU K))(CR:∀m,n=m+1->aE P w K mg base "_law_rows" (m+2) (mZ m K))(F:dZ K "_law_rows" "_law_rows" rG f fd)(hm:mg "_law_rows"=some (.ref f))(hb:Binds K fd ED []):aE P w K mg base "_law_rows" (n+2) (mZ n K):=by
 have nd:=CV.nd;refine⟨f,fd,ED,?_,hm,F.kp,hb⟩;refine F.ok (k:=n+1) CV (λvs H Q E h=>?_) (λV2 A outer s H vs Q E hr h=>?_)
 ·obtain⟨R,a,ws,xs,v0,v1,v2,ts,k,bh,lp,rfl,_⟩:=h;rfl
 ·obtain⟨R,a,ws,xs,v0,v1,v2,ts,k,bh,lp,rfl,sR,hR,ha,pp,g0,g1,g2,hd,hz,q⟩:=h;have CE':=CE.mono (show 1<=n+1 by omega);have ln:(f9 ts k).length=ts.length:=by rw[Qg,mV]
  have body:WS (fI eX P w K mg base Es "_law_rows" (ao rG) f V2 A outer s H E).i6 (bP rG) [.im (ae aq) (f9 ts k),.im aq bh,.im aq lp,.ob (aO a aq xs),.no,.no,.no] (λΓ=>∃e4 e5 e6,Γ=[.im (ae aq) (f9 ts k),.im aq bh,.im aq lp,.ob (aO a aq (xs++eZ ts k bh lp)),e4,e5,e6]) (λ_ _ _ _=>False):=by
   refine aj (bW (r:=dS ag aq) (λi Γ=>∃ys e4 e5 e6,Γ=[.im (ae aq) (f9 ts k),.im aq bh,.im aq lp,.ob (aO a aq ys),e4,e5,e6]/\ys++eZ (ts.drop i) (aQ (ts.take i) k).2 bh lp=xs++eZ ts k bh lp) (ic M.enumerate (aa 0 rfl)) (eN 4 5) ⟨xs,_,_,_,rfl,?_⟩ (λi z Γ hzi hΓ=>?_) (λΓ hΓ=>?_))
   ·rw[drop_zero,Ri,aQ]
   ·obtain⟨ys,e4,e5,e6,rfl,he⟩:=hΓ;obtain⟨z1,z2⟩:=fb hzi;have il:i<ts.length:=by rw[← ln];exact(Qc.mp z2).1
    have ti:ts[i]?=some ts[i]:=Qd il;have ez:z.2= .lst (bB ts[i] (aQ (ts.take i) k).2).1:=by
     rw[Ql,sM k ti] at z2;exact(Option.some.inj z2).symm
    rw[BD ts i k bh lp ti] at he;have hlen:ys.length+(bX ts[i]+bR (ts.drop (i+1)))=xs.length+bR ts:=by
     have:=congrArg List.length he;simpa only[Qj,vA,hU] using this
    obtain⟨zi,zp⟩:=z;dsimp only at z1 ez;subst z1 ez;refine ai (bg 6 (r:=aq) (y:=kC (ts.drop (i+1)) (aQ (ts.take (i+1)) k).2 bh lp) (aI CE' hr (ah (aa 0 rfl) (ah (EV.cast (y':=((i+1:Nat):Int)) (ck (aa 4 rfl) ev_int) (by push_cast;rfl)) (ah (aa 1 rfl) (ah (aa 2 rfl) ax)))) ⟨ts,k,i+1,bh,lp,rfl,il,rfl⟩) ?_);refine Gg CE CR hr (Sh (nG (QP il)) hd) (by omega) ⟨_,_,_,_,rfl,?_⟩;rw[Qy];exact he
   ·obtain⟨ys,e4,e5,e6,rfl,he⟩:=hΓ;rw[cV,ln,drop_length,eZ,QC] at he;rw[← he];exact⟨_,_,_,rfl⟩
  refine⟨_,jq,body (L2.start Es [v0,v1,v2,.ref a]) (del H a) R H R (JE rfl sR hR ha pp g0 g1 g2) {nx:=λ_ H'=>Q .Wb H',rt:=Q} (λσ' H' R' Γ' E' _ ⟨e4,e5,e6,hΓ⟩=>?_) λv H' R' xx t=>t.elim⟩;subst hΓ;obtain⟨ea,⟨Xj,WX,W6⟩,WK⟩:=dD (E'.ent 3 _ rfl);exact q H' R' Xj E'.ext WX WK W6
theorem Fz (M:cD K mg)(CE:aE P w K mg base "_law_entry" 1 (aM BU K))(F:dZ K "_law_rows" "_law_rows" rG f fd)(hm:mg "_law_rows"=some (.ref f))(hb:Binds K fd ED []):∀n,aE P w K mg base "_law_rows" (n+2) (mZ n K)
 | 0=>BC M CE (λm h=>VO h (by omega)) F hm hb
 | n+1=>BC M CE (λm h=>by cases h;exact Fz M CE F hm hb n) F hm hb
theorem ID (n:Nat):mq n=1+5*bT n:=by cases n<;>rfl
theorem ER (ns VX:PH):∀(n:Nat)(lp:Int)(s:Pn),0<s.2->rL n (bT n) s (Wn ns VX (dX ns VX n) lp s)
 | 0,lp,s,h=>vY ns VX lp s h
 | n+1,lp,s,h=>uX (mw ns VX n false) lp s h
theorem LY (K:Vr)(H H':Hp)(v:V)(y:Int)(h:ag.R K H v y):ag.R K H' v y:=h
theorem Lx (K:Vr)(H H':Hp)(v:V)(y:Str)(h:ar.R K H v y):ar.R K H' v y:=h
theorem yq (t:Th):nW t=decide (eC t="back"):=by cases t<;>rfl
theorem FQ (a b:List Th):bC (a++b)=bC a++bC b:=by rw[fg,fg,fg,Qv]
theorem j9 (a:List Th):(bC a).length=a.length:=by rw[fg,Qg]
abbrev qu:Stmt:=top vd
abbrev HS:PJ:=["_law_pen","_law_depth","_law_loops","_law_calls","_law_items","_law_k","_law_one"]
theorem Ed:bV HS xB (ao qu):=Xt
theorem ls_run (M:cD K mg)(CP:aE P w K mg base "_law_pull" 2 (iC cY xA K))(CA:aE P w K mg base "_law_passes" 6 (aM (EI 5) K))(CT:aE P w K mg base "_law_thing" (2*n+7) (iC cY (JC n) K)){s:S7}{ns VX:PH}{k c VY:Int}(hr:bG (2*n+7) (A.deeper (S0 "_law_list" (ao qu) s.heap.objs.size f V2)))(hp:oM ns VX n (mq n) k c)(XN:∀(e5 e6:Ent)(fp:PM),WS (fI eX P w K mg base HS "_law_list" (ao qu) f V2 A outer s H E).i6 ((bP qu).drop 2) [.ob (aO a cY (cb ns (We ns VX n (decide (n=4)) VY (k,c)).2.1 (We ns VX n (decide (n=4)) VY (k,c)).2.2)),aJ (4-(n:Int)),aJ VY,jF VX,.ob (gO (.lst (bC (We ns VX n (decide (n=4)) VY (k,c)).1)) fp),e5,e6] N T):
 WS (fI eX P w K mg base HS "_law_list" (ao qu) f V2 A outer s H E).i6 (bP qu) [.ob (aO a cY (cb ns k c)),aJ (4-(n:Int)),aJ VY,jF VX,.no,.no,.no] N T:=by
 have nd:=Ed.nd;have CP:=CP.mono (show 2<=2*n+7 by omega);have CA:=CA.mono (show 6<=2*n+7 by omega);have k0:=hp.k0;have k1:=hp.k1;have c0:=hp.c0;have c1:=hp.c1;have n4:=hp.n4;have hbd:=ID n;have b3:=Fu n;rw[lX] at XN;generalize htp:decide (n=4)=tp at XN;have YC:=vP (ns:=ns) (VX:=VX) (sub:=dX ns VX n) (n:=n) (b:=bT n) (by omega) (ER ns VX n) tp VY (k,c) c0;dsimp only at YC XN;have hmany:=yM ns tp k;generalize hx:(λi=>Wm (iH ns VX (dX ns VX n) tp VY) i ([],(k+1,c)))=x at YC;have hxi:∀i,Wm (iH ns VX (dX ns VX n) tp VY) i ([],(k+1,c))=x i:=λi=>by rw[← hx]
 have hxs:∀i,x (i+1)=iH ns VX (dX ns VX n) tp VY (x i):=λi=>by rw[← hx];rfl
 have hx0:x 0=([],(k+1,c)):=by rw[← hx];rfl
 simp only[hxi] at YC XN;refine ai (qD 4 (y:=.lst []) (ba.vF (aR aL (Si _)) rfl) λf4=>?_);have m0:=P8 (aY ns (k+1)) (show(4:Int)≠0 by decide);have m1:=P7 (aY ns (k+1)) (show(0:Int)<4 by decide);have Zi:decide (4-(n:Int)=0)=tp:=by rw[← htp];exact decide_eq_decide.mpr ⟨λh=>by omega,λh=>by omega⟩
 have hman:(aY ns (k+1)%4+2*(if decide (4-(n:Int)=0)=true then 1 else 0)).toNat=fV ns tp k:=by rw[Zi];rfl
 have YH:0<=(if decide (4-(n:Int)=0)=true then(1:Int) else 0)/\(if decide (4-(n:Int)=0)=true then(1:Int) else 0)<=1:=by split<;>decide
 refine ai (bW (r:=ag) (λi Γ=>∃e5 e6 fp,Γ=[.ob (aO a cY (cb ns (x i).2.1 (x i).2.2)),aJ (4-(n:Int)),aJ VY,jF VX,.ob (gO (.lst (bC (x i).1)) fp),e5,e6]) (fo M.range (ck (dB (fO 0 (st:=cb ns (k+1) c) (z:=aY ns (k+1)) CP hr ax rfl ⟨ns,k,c,rfl,rfl,hp.s,k0,by omega,rfl⟩) ev_int (by decide)) (AB ev_int (Gs M.int (fu fT (aa 1 rfl) ev_int)) (.inl (by decide)))) ⟨by omega,by omega⟩) (aP 5) ⟨_,_,f4,by rw[hx0];rfl⟩ (λi j Γ hj hΓ=>?_) (λΓ hΓ=>?_))
 ·obtain⟨e5,e6,fp,rfl⟩:=hΓ;have il:=(fJ hj).1;rw[hman] at il;obtain⟨rd,⟨rc,rc0⟩,⟨rk0,rk1⟩,rll⟩:=YC i;have hmul:bT n*i<=bT n*4:=Nat.mul_le_mul_left _ (by omega);have hs:=hxs i;generalize x i=xi at rd rc rc0 rk0 rk1 rll hs;obtain⟨V1,kk,cc⟩:=xi;dsimp only at rd rc rc0 rk0 rk1 rll ⊢;change WS _ _ [.ob (aO a cY (cb ns kk cc)),aJ (4-(n:Int)),aJ VY,jF VX,.ob (gO (.lst (bC V1)) fp),aJ j,e6] _ _;have rkk:kk+(bT n:Int)<=900000:=by push_cast at rk1;omega
  refine aj (a8 (TW.tv (dg (aA kM (EV.pf (dw 0 ev_int rfl (y:=(Sum.inr cc:PH ⊕ Int)) rfl)) ev_int) (λ_=>eO (TV.WT (Dy (i:=4) rfl) (bL (aI CA hr (ah (EV.lP (aa 4 rfl)) ax) ⟨V1,rfl,by omega,rfl⟩)))))) (λh=>?_) (λh=>aF ?_))
  ·have h:0<cc/\c7 V1=true:=by simpa using h
   have ht:=ER ns VX n VY (kk,cc) h.1;have e1:iH ns VX (dX ns VX n) tp VY (V1,kk,cc)=if tp=true/\V1.length=0/\nW (Wn ns VX (dX ns VX n) VY (kk,cc)).1=true then(V1++[.Wi "back"],((Wn ns VX (dX ns VX n) VY (kk,cc)).2.1,(Wn ns VX (dX ns VX n) VY (kk,cc)).2.2-1)) else(V1++[(Wn ns VX (dX ns VX n) VY (kk,cc)).1],(Wn ns VX (dX ns VX n) VY (kk,cc)).2):=VQ h;refine ai (qD 6 (iN 0 (st:=cb ns (Wn ns VX (dX ns VX n) VY (kk,cc)).2.1 (Wn ns VX (dX ns VX n) VY (kk,cc)).2.2) (z:=gH (Wn ns VX (dX ns VX n) VY (kk,cc)).1) CT hr (ah (aa 1 rfl) (ah (aa 2 rfl) (ah (aa 3 rfl) ax))) rfl ⟨ns,VX,kk,cc,VY,rfl,rfl,⟨hp.s,by omega,rkk,by omega,by omega,hp.l,n4⟩,h.1,rfl⟩ om (Ft _)) λf6=>?_);generalize Wn ns VX (dX ns VX n) VY (kk,cc)=r at ht e1;obtain⟨tt,kr,cr⟩:=r;dsimp only at e1 ⊢;change WS _ _ [.ob (aO a cY (cb ns kr cr)),aJ (4-(n:Int)),aJ VY,jF VX,.ob (gO (.lst (bC V1)) fp),aJ j,.ob (gO (gH tt) f6)] _ _;refine bS (N1:=λΓ=>∃t' c' f',Γ=[.ob (aO a cY (cb ns kr c')),aJ (4-(n:Int)),aJ VY,jF VX,.ob (gO (.lst (bC V1)) fp),aJ j,.ob (gO (gH t') f')]/\iH ns VX (dX ns VX n) tp VY (V1,kk,cc)=(V1++[t'],(kr,c'))) (a8 (TW.tv (dg (aA fT (aa 1 rfl) ev_int) (λ_=>dg (aA fT (EV.WT (Dy (i:=4) rfl) LY (dy M.len (EV.lP (aa 4 rfl)))) ev_int) (λ_=>eO (aA cm (EV.WT (Dy (i:=6) rfl) Lx (jr (aa 6 rfl))) ay))))) (λh=>?_) (λh=>aF ⟨tt,cr,f6,rfl,?_⟩)) ?_
   ·have h:tp=true/\V1.length=0/\nW tt=true:=by
     rw[Zi,j9] at h;rw[yq];simpa using h
    refine ai (eP 0 (j:=2) (EV.inr (iV (EV.pf (dw 0 ev_int rfl (y:=(Sum.inr cr:PH ⊕ Int)) rfl)) ev_int)) ev_int rfl rfl rfl ?_);change WS _ _ [.ob (aO a cY (cb ns kr (cr-1))),aJ (4-(n:Int)),aJ VY,jF VX,.ob (gO (.lst (bC V1)) fp),aJ j,.ob (gO (gH tt) f6)] _ _;refine aj (qD 6 (y:=gH (.Wi "back")) (jA.cast (x:=.lst (eQ (.Wi "back"))) (ba.vF (aR (r:=aq) (ak (EV.pS ay) (ak (EV.pS ay) aL)) (by show 2<=S8;decide)) rfl) (dY _).symm) λf'=>⟨.Wi "back",cr-1,f',rfl,?_⟩);rw[e1,VQ h]
   ·have h:¬(tp=true/\V1.length=0/\nW tt=true):=by
     rw[Zi,j9] at h;rw[yq];simpa using h
    rw[e1,VP h]
   rintro _ ⟨t',c',f',rfl,e2⟩;refine aj (Je 4 (yy 6 rfl) rfl rfl (Sj (show _<=10 by rw[j9];omega) (by decide)) λfp'=>⟨aJ j,.no,fp',?_⟩);rw[hs,e2,FQ,bC,bC];rfl
  ·have h:¬(0<cc/\c7 V1=true):=by simpa using h
   refine⟨aJ j,e6,fp,?_⟩;rw[hs,show iH ns VX (dX ns VX n) tp VY (V1,kk,cc)=(V1,kk,cc) from VP h]
 ·obtain⟨e5,e6,fp,rfl⟩:=hΓ;rw[bU,hman];exact XN e5 e6 fp
theorem BV (M:cD K mg)(CP:aE P w K mg base "_law_pull" 2 (iC cY xA K))(CA:aE P w K mg base "_law_passes" 6 (aM (EI 5) K))(CT:aE P w K mg base "_law_thing" (2*n+7) (iC cY (JC n) K))(F:dZ K "_law_list" "_law_list" qu f fd)(hm:mg "_law_list"=some (.ref f))(hb:Binds K fd xB []):aE P w K mg base "_law_list" (2*n+8) (iC cY (Et n) K):=by
 have nd:=Ed.nd;refine vG (k:=2*n+7) F Ed hm hb (λxs qs T ⟨_,_,_,_,_,_,e,_⟩=>by rw[e];rfl) (λV2 A outer s H E a xs qs T hr hS=>?_);obtain⟨ns,VX,k,c,VY,rfl,rfl,hp,rfl⟩:=hS;exact ls_run M CP CA CT hr hp λe5 e6 fp=>aj (jn 0 (yy 4 rfl) rfl ⟨rfl,rfl⟩)
theorem Fx (M:cD K mg)(CP:aE P w K mg base "_law_pull" 2 (iC cY xA K))(CN:aE P w K mg base "_law_name" 1 (aM EK K))(CA:aE P w K mg base "_law_passes" 6 (aM (EI 5) K)){f2:Addr}{fd2:Tg}(F:dZ K "_law_list" "_law_list" qu f fd)(hm:mg "_law_list"=some (.ref f))(hb:Binds K fd xB [])(F2:dZ K "_law_thing" "_law_thing" Ep f2 fd2)(XZ:mg "_law_thing"=some (.ref f2))(YH:Binds K fd2 xB []):∀n,aE P w K mg base "_law_list" (2*n+8) (iC cY (Et n) K)
 | 0=>BV M CP CA (EE M CP CN 0 (λm h=>VO h (by omega)) F2 XZ YH) F hm hb
 | n+1=>BV M CP CA (EE M CP CN (n+1) (λm h=>by cases h;exact Fx M CP CN CA F hm hb F2 XZ YH n) F2 XZ YH) F hm hb
variable {c:Str}{m:Int}{VW:PJ}
def jO (VW:PJ)(x c:Str):Str:=if x∈VW then hZ x++c else x
abbrev lU:Str:="qwer"
def uJ (VW:PJ)(x:Str):Str:=(g9 lU).foldl (jO VW) x
def dH (ns:PH)(s:Int):Nat->PJ
 | 0=>[]
 | i+1=>dH ns s i++[uJ (dH ns s i) (Wf (aY ns (s+2+(i:Int))))]
def WH (ns:PH)(s:Int):Int:=1+aY ns (s+1)%4
def dt (m:Int):Int:=([14,12,8,6]:PH).getD (m-1).toNat 0
def fG (i:Nat)(m:Int):PH:=ups ((i:Int)+1) (m-((i:Int)+1)).toNat
def Wc (ns:PH)(m k:Int):Nat->List (List Th)×Int
 | 0=>([],k)
 | i+1=>((Wc ns m k i).1++[(We ns (fG i m) 4 true 0 ((Wc ns m k i).2,dt m)).1],(We ns (fG i m) 4 true 0 ((Wc ns m k i).2,dt m)).2.1)
def Yk (ns:PH)(k:Int)(j:Nat):Nat:=(aY ns (k+1)%(j:Int)).toNat
def qg (ns:PH)(x:List (List Th)×Int)(j:Nat):List (List Th)×Int:=
 (x.1.set (Yk ns x.2 j) (cq (aY ns (x.2+2)%((x.1.getD (Yk ns x.2 j) []).length:Int)).toNat (.call (j:Int)) (x.1.getD (Yk ns x.2 j) [])),x.2+2)
def Ws (ns:PH)(x:List (List Th)×Int):Nat->List (List Th)×Int
 | 0=>x
 | i+1=>qg ns (Ws ns x i) (i+1)
def Wz (ns:PH)(s:Int):PJ:=dH ns s (WH ns s).toNat
def WA (ns:PH)(s:Int):List (List Th):=(Ws ns (Wc ns (WH ns s) (s+1+WH ns s) (WH ns s).toNat) (WH ns s-1).toNat).1
theorem xG (ns:PH)(s:Int):1<=WH ns s/\WH ns s<=4:=by
 unfold WH;have:=P8 (aY ns (s+1)) (show(4:Int)≠0 by decide);have:=P7 (aY ns (s+1)) (show(0:Int)<4 by decide);omega
theorem Bl (h1:1<=m)(h4:m<=4):6<=dt m/\dt m<=14:=by
 have:∀j:Fin 4,6<=([14,12,8,6]:PH).getD j.val 0/\([14,12,8,6]:PH).getD j.val 0<=14:=by decide
 exact this ⟨(m-1).toNat,by omega⟩
theorem uW (x:Str):(hZ x).length<=7:=by
 unfold hZ;show(List.take 7 x.cps.toList).toArray.size<=7;rw[Qx,QA];omega
theorem DO {c:Nat}(h:c∈(hZ x).cps.toList):c∈x.cps.toList:=by
 unfold hZ at h;have:c∈List.take 7 x.cps.toList:=by simpa using h
 exact R7 this
theorem sI (h:c∈g9 lU):cP c/\c.length=1:=by
 have:∀c∈g9 lU,((1<=c.length/\c.length<=8)/\∀d∈c.cps.toList,97<=d/\d<=122)/\c.length=1:=by decide +kernel
 obtain⟨⟨⟨a,b⟩,d⟩,e⟩:=this c h;exact⟨⟨a,b,d⟩,e⟩
theorem IM (hx:cP x)(hc:cP c/\c.length=1):cP (jO VW x c):=by
 unfold jO;split
 ·refine⟨?_,?_,λd hd=>?_⟩
  ·rw[len_app,hc.2];omega
  ·rw[len_app,hc.2];have:=uW x;omega
  ·rcases sW hd with z | z
   ·exact hx.az d (DO z)
   ·exact hc.1.az d z
 ·exact hx
theorem oo {VW:PJ}:∀{cs:PJ}{x:Str},cP x->(∀c∈cs,cP c/\c.length=1)->cP (cs.foldl (jO VW) x)
 | [],_,hx,_=>hx
 | c::cs,x,hx,h=>oo (cs:=cs) (x:=jO VW x c) (IM hx (h c Qk)) λd hd=>h d (Qi _ hd)
theorem KA (hx:cP x):cP (uJ VW x):=oo hx λc hc=>sI hc
theorem mx (ns:PH)(s:Int):∀i,(dH ns s i).length=i
 | 0=>rfl
 | i+1=>by rw[dH,Qj,mx ns s i];rfl
theorem BJ (ns:PH)(s:Int):∀i,∀x∈dH ns s i,cP x
 | 0,x,h=>by cases h
 | i+1,x,h=>by
   rw[dH] at h;rcases Qr.mp h with z | z
   ·exact BJ ns s i x z
   ·rw[Qe.mp z];exact KA (ji _)
theorem l7 (ns:PH)(m k:Int):∀i,(Wc ns m k i).1.length=i
 | 0=>rfl
 | i+1=>by rw[Wc,Qj,l7 ns m k i];rfl
theorem OF:mq 4=177776:=rfl
theorem Fi (ns:PH)(m k:Int)(hb:0<=dt m):∀i:Nat,k<=(Wc ns m k i).2/\(Wc ns m k i).2<=k+177776*(i:Int)
 | 0=>⟨Qa _,by show k<=_;omega⟩
 | i+1=>by
   obtain⟨a,b⟩:=Fi ns m k hb i;obtain⟨c,d⟩:=(mw ns (fG i m) 4 true 0 ((Wc ns m k i).2,dt m) hb).k;rw[OF] at d;dsimp only at c d;rw[Wc];dsimp only;exact⟨by omega,by push_cast;omega⟩
theorem Hq (ns VX:PH)(c k:Int)(hc:0<c):0<(We ns VX 4 true 0 (k,c)).1.length:=by
 rw[lX];have hm:2<=fV ns true k:=by
  unfold fV;have:=P8 (aY ns (k+1)) (show(4:Int)≠0 by decide);simp;omega
 have key:∀(f:List Th×Pn->List Th×Pn)(x:List Th×Pn),(∀y,y.1.length<=(f y).1.length)->0<(f x).1.length->∀m,1<=m->0<(Wm f m x).1.length:=by
  intro f x h1 h2 m
  induction m with
  | zero=>intro h;omega
  | succ m ih=>
    intro _;rw[Wm];cases m with
    | zero=>exact h2
    | succ m=>exact Sk (ih (by omega)) (h1 _)
 refine key _ _ (λy=>?_) ?_ _ (show 1<=fV ns true k by omega)
 ·unfold iH;split
  ·split<;>simp
  ·exact Sg _
 ·unfold iH;rw[VQ ⟨hc,by simp[c7]⟩];split<;>simp
theorem AV (ns:PH)(m k:Int)(hb:0<dt m):∀i,∀L∈(Wc ns m k i).1,0<L.length/\L.length<=5
 | 0,L,h=>by cases h
 | i+1,L,h=>by
   rw[Wc] at h;rcases Qr.mp h with z | z
   ·exact AV ns m k hb i L z
   ·rw[Qe.mp z];exact⟨Hq ns _ _ _ hb,(mw ns (fG i m) 4 true 0 ((Wc ns m k i).2,dt m) (Int.le_of_lt hb)).l⟩
theorem lC (k:Nat)(y:α)(xs:List α):(cq k y xs).length=xs.length+1:=by
 unfold cq;rw[Qj,Qo,QA,Ro];omega
theorem mem_set {l:List α}{x y:α}(h:y∈l.set i x):y∈l∨y=x:=List.mem_or_eq_of_mem_set h
theorem xW (ns:PH)(x:List (List Th)×Int)(hx:∀L∈x.1,0<L.length/\L.length<=5):∀i,(Ws ns x i).1.length=x.1.length/\(Ws ns x i).2=x.2+2*(i:Int)/\∀L∈(Ws ns x i).1,0<L.length/\L.length<=5+i
 | 0=>⟨rfl,by show x.2=_;omega,λL h=>⟨(hx L h).1,(hx L h).2⟩⟩
 | i+1=>by
   obtain⟨a,b,c⟩:=xW ns x hx i;rw[Ws];refine⟨by unfold qg;dsimp only;rw[QV];exact a,by unfold qg;dsimp only;rw[b];push_cast;omega,λL h=>?_⟩;unfold qg at h;dsimp only at h;rcases mem_set h with z | z
   ·have:=c L z;omega
   ·rw[z,lC];generalize hn:Yk ns (Ws ns x i).2 (i+1)=n;refine⟨by omega,?_⟩;rw[Qh];cases e:(Ws ns x i).1[n]? with
    | none=>show 0+1<=_;omega
    | some L'=>
      have:=(c L' (Qm e)).2;show L'.length+1<=_;omega
abbrev Nb:Stmt:=top uh
abbrev nDR:PJ:=["_law_script","_law_start","_law_pen","_law_many","_law_names","_law_k","_law_name_here","_law_letter","_law_lists","_law_items"]
def M9:cS:=λK ps T=>∃(ns:PH)(s:Int),ps=[⟨c6,ns⟩,⟨ag,s⟩]/\AD ns/\0<=s/\s<=1000/\T=Eh K (ae ar) λy L=>y=Wz ns s/\L=(WA ns s).map bC
theorem Mr (M:cD K mg)(CP:aE P w K mg base "_law_pull" 2 (iC cY xA K))(CN:aE P w K mg base "_law_name" 1 (aM EK K))(CL:aE P w K mg base "_law_list" 16 (iC cY (Et 4) K))(Df:Def K mg "_law_drawn" Nb ["_law_script","_law_start"]):aE P w K mg base "_law_drawn" 17 (aM M9 K):=by
 have CP:=CP.mono (show 2<=16 by decide);have CN:=CN.mono (show 1<=16 by decide);refine bD (N:=nDR) (k:=16) Df (λf V2 A outer st H E qs T nd hr hS=>?_);obtain⟨ns,s,rfl,hs,s0,s1,rfl⟩:=hS;obtain⟨m1,m4⟩:=xG ns s;refine ai (cR 2 (r:=cY) (ys:=cb ns s 0) (aR (ak (EV.inl (aa 0 rfl)) (ak (EV.inr (aa 1 rfl)) (ak (EV.inr ev_int) aL))) (by show 3<=S8;decide)) ?_);refine WS.box 2 rfl λa0=>?_;refine ai (bg 3 (y:=WH ns s) (ck ev_int (dB (fO 2 (st:=cb ns (s+1) 0) (z:=aY ns (s+1)) CP hr ax rfl ⟨ns,s,0,rfl,rfl,hs,s0,by omega,rfl⟩) ev_int (by decide))) ?_);generalize hM:WH ns s=m at m1 m4;refine ai (cR 4 (r:=ar) (ys:=[]) (aR aL (Si _)) ?_);refine bS (N1:=λΓ=>∃e5 e6 e7,Γ=[.im c6 ns,aJ s,.ob (aO a0 cY (cb ns (s+1+m) 0)),aJ m,.mu ar (Wz ns s),e5,e6,e7,.no,.no]) (bW (λi Γ=>∃e5 e6 e7,Γ=[.im c6 ns,aJ s,.ob (aO a0 cY (cb ns (s+1+(i:Int)) 0)),aJ m,.mu ar (dH ns s i),e5,e6,e7,.no,.no]) (fo M.range (aa 3 rfl) ⟨by omega,by omega⟩) (aP 5) ⟨_,_,_,by rw[show s+1+((0:Nat):Int)=s+1 from Int.add_zero _];rfl⟩ (λi j Γ hj hΓ=>?_) (λΓ hΓ=>?_)) ?_
 ·obtain⟨e5,e6,e7,rfl⟩:=hΓ;obtain⟨jl,ej⟩:=fJ hj;obtain rfl:j=(i:Int):=by omega
  have b:=yk ns (s+1+(i:Int)+1);refine ai (bg 6 (y:=Wf (aY ns (s+1+(i:Int)+1))) (aI CN hr (ah (fO 2 (st:=cb ns (s+1+(i:Int)+1) 0) (z:=aY ns (s+1+(i:Int)+1)) CP hr ax rfl ⟨ns,_,0,rfl,rfl,hs,by omega,by omega,rfl⟩) ax) ⟨_,rfl,b.1,b.2,rfl⟩) ?_);have hx:=ji (aY ns (s+1+(i:Int)+1));have he:s+1+(i:Int)+1=s+2+(i:Int):=by omega
  have YV:dH ns s (i+1)=dH ns s i++[uJ (dH ns s i) (Wf (aY ns (s+1+(i:Int)+1)))]:=by rw[dH,he]
  generalize Wf (aY ns (s+1+(i:Int)+1))=x at hx YV;have hlen:=mx ns s i;have hfold:∀n,cP (((g9 lU).take n).foldl (jO (dH ns s i)) x):=λn=>oo hx λc hc=>sI (R7 hc);refine bS (N1:=λΓ=>∃e7,Γ=[.im c6 ns,aJ s,.ob (aO a0 cY (cb ns (s+1+(i:Int)+1) 0)),aJ m,.mu ar (dH ns s i),aJ (i:Int),.im ar (uJ (dH ns s i) x),e7,.no,.no]) (bW (λn Γ=>∃e7,Γ=[.im c6 ns,aJ s,.ob (aO a0 cY (cb ns (s+1+(i:Int)+1) 0)),aJ m,.mu ar (dH ns s i),aJ (i:Int),.im ar (((g9 lU).take n).foldl (jO (dH ns s i)) x),e7,.no,.no]) (A8 (x:=lU) ay (by decide +kernel) (by decide +kernel)) (aP 7) ⟨_,rfl⟩ (λn c Γ hc hΓ=>?_) (λΓ hΓ=>?_)) ?_
  ·obtain⟨e7,rfl⟩:=hΓ;have hf:=hfold n;have WN:((g9 lU).take (n+1)).foldl (jO (dH ns s i)) x=jO (dH ns s i) (((g9 lU).take n).foldl (jO (dH ns s i)) x) c:=by
    rw[QK,hc,Q2];rfl
   rw[WN];generalize ((g9 lU).take n).foldl (jO (dH ns s i)) x=z at hf;have cl:=(sI (Qm hc)).2;change WS _ _ [.im c6 ns,aJ s,.ob (aO a0 cY (cb ns (s+1+(i:Int)+1) 0)),aJ m,.mu ar (dH ns s i),aJ (i:Int),.im ar z,.im ar c,.no,.no] _ _;refine aj (a8 (TV.WT (Kl (i:=4) rfl (aT (by rw[hlen];omega))) (aA vf (aa 6 rfl) (aa 4 rfl))) (λh=>?_) (λh=>aF ⟨.im ar c,?_⟩))
   ·have h:z∈dH ns s i:=VR h;refine aj (bg 6 (y:=jO (dH ns s i) z c) (EV.cast (sZ (Jr (aa 6 rfl) hf.l8) (aa 7 rfl) (Sh (show _<=8 by have:=uW z;omega) (by decide))) (by unfold jO;rw[VQ h])) ⟨.im ar c,rfl⟩)
   ·have h:¬z∈dH ns s i:=VS h;unfold jO;rw[VP h]
  ·obtain⟨e7,rfl⟩:=hΓ;refine⟨e7,?_⟩;rw[QM];rfl
  rintro _ ⟨e7,rfl⟩;refine aj (eT 4 (aa 6 rfl) rfl rfl (Sj (show _<=10 by rw[hlen];omega) (by decide)) ⟨aJ (i:Int),.im ar (uJ (dH ns s i) x),e7,?_⟩);rw[YV,show s+1+((i+1:Nat):Int)=s+1+(i:Int)+1 by push_cast;omega];rfl
 ·obtain⟨e5,e6,e7,rfl⟩:=hΓ;rw[bU];refine⟨e5,e6,e7,?_⟩;unfold Wz;rw[hM,show((m.toNat:Nat):Int)=m by omega]
 rintro _ ⟨e5,e6,e7,rfl⟩;have hdN:(Wz ns s).length<=4:=by unfold Wz;rw[mx,hM];omega
 generalize hdn:Wz ns s=dn at hdN;obtain⟨b6,b14⟩:=Bl m1 m4;refine ai (cR 8 (r:=aq) (ys:=[]) (aR aL (Si _)) ?_);refine WS.ME 8 rfl λa=>?_;have kb:=Fi ns m (s+1+m) (by omega);refine bS (N1:=λΓ=>∃e5 c ps,Γ=[.im c6 ns,aJ s,.ob (aO a0 cY (cb ns (Wc ns m (s+1+m) m.toNat).2 c)),aJ m,.mu ar dn,e5,e6,e7,.ob (bu a ps),.no]/\ps.map (·.1)=(Wc ns m (s+1+m) m.toNat).1.map bC) (bW (λi Γ=>∃e5 c ps,Γ=[.im c6 ns,aJ s,.ob (aO a0 cY (cb ns (Wc ns m (s+1+m) i).2 c)),aJ m,.mu ar dn,e5,e6,e7,.ob (bu a ps),.no]/\ps.map (·.1)=(Wc ns m (s+1+m) i).1.map bC) (fo M.range (aa 3 rfl) ⟨by omega,by omega⟩) (aP 5) ⟨_,_,[],rfl,rfl⟩ (λi j Γ hj hΓ=>?_) (λΓ hΓ=>?_)) ?_
 ·obtain⟨e5,c,ps,rfl,WU⟩:=hΓ;obtain⟨jl,ej⟩:=fJ hj;obtain rfl:j=(i:Int):=by omega
  obtain⟨k0,k1⟩:=kb i;have hl:=l7 ns m (s+1+m) i;have Xl:Wc ns m (s+1+m) (i+1)=((Wc ns m (s+1+m) i).1++[(We ns (fG i m) 4 true 0 ((Wc ns m (s+1+m) i).2,dt m)).1],(We ns (fG i m) 4 true 0 ((Wc ns m (s+1+m) i).2,dt m)).2.1):=rfl;generalize Wc ns m (s+1+m) i=x at k0 k1 hl Xl WU;rw[Xl];obtain⟨Ls,k⟩:=x;dsimp only at k0 k1 hl ⊢;have hbud:cE ([14,12,8,6]:PH) (m-1)=some (dt m):=bw 0 (by omega) (by show m-1<((4:Nat):Int);omega);refine ai (eP 2 (j:=2) (EV.inr (a9 (ba.im (aR (r:=ag) (ak ev_int (ak ev_int (ak ev_int (ak ev_int aL)))) (by show 4<=S8;decide))) (iV (aa 3 rfl) ev_int) hbud)) ev_int rfl rfl rfl ?_);have X6:(fG i m).length<=100:=by unfold fG;rw[bU];omega
  have Wg:ps.length=i:=by
   have:=congrArg List.length WU;rw[Qg,Qg,hl] at this;exact this
  refine aj (Hg 8 (ys:=bC (We ns (fG i m) 4 true 0 (k,dt m)).1) (iN 2 (st:=cb ns (We ns (fG i m) 4 true 0 (k,dt m)).2.1 (We ns (fG i m) 4 true 0 (k,dt m)).2.2) CL hr (ah ev_int (ah ev_int (ah (ba.im (rS M.list M.range (ah (ck (aa 5 rfl) ev_int) (ah (aa 3 rfl) ax)) ⟨by omega,by omega⟩ ⟨by omega,by omega⟩)) ax))) rfl ⟨ns,fG i m,k,dt m,0,rfl,rfl,⟨hs,by omega,show k+((177776:Nat):Int)<=900000 by omega,by omega,by omega,X6,by decide⟩,rfl⟩ om (um _)) rfl rfl (Sj (show _<=10 by omega) (by decide)) λb g=>⟨aJ (i:Int),(We ns (fG i m) 4 true 0 (k,dt m)).2.2,ps++[(bC (We ns (fG i m) 4 true 0 (k,dt m)).1,b,g)],rfl,?_⟩);rw[Qv,Qv,WU];rfl
 ·obtain⟨e5,c,ps,rfl,WU⟩:=hΓ;rw[bU] at WU ⊢;exact⟨e5,c,ps,rfl,WU⟩
 rintro _ ⟨e5,c,ps,rfl,WU⟩;have Wx:=AV ns m (s+1+m) (by omega) m.toNat;have hxl:=l7 ns m (s+1+m) m.toNat;obtain⟨k0,k1⟩:=kb m.toNat;have YZ:WA ns s=(Ws ns (Wc ns m (s+1+m) m.toNat) (m-1).toNat).1:=by unfold WA;rw[hM]
 generalize Wc ns m (s+1+m) m.toNat=x at Wx hxl k0 k1 YZ WU;have hinv:=xW ns x Wx;refine bS (N1:=λΓ=>∃e5 e9 k ps,Γ=[.im c6 ns,aJ s,.ob (aO a0 cY (cb ns k c)),aJ m,.mu ar dn,e5,e6,e7,.ob (bu a ps),e9]/\ps.map (·.1)=(WA ns s).map bC) (bW (λi Γ=>∃e5 e9 ps,Γ=[.im c6 ns,aJ s,.ob (aO a0 cY (cb ns (Ws ns x i).2 c)),aJ m,.mu ar dn,e5,e6,e7,.ob (bu a ps),e9]/\ps.map (·.1)=(Ws ns x i).1.map bC) (tE M.range ev_int (aa 3 rfl) ⟨by omega,by omega,by omega,by omega⟩) (aP 5) ⟨_,_,ps,rfl,WU⟩ (λi j Γ hj hΓ=>?_) (λΓ hΓ=>?_)) ?_
 ·obtain⟨e5,e9,ps,rfl,WU⟩:=hΓ;obtain⟨jl,ej⟩:=fJ hj;obtain rfl:j=((i+1:Nat):Int):=by push_cast;omega
  obtain⟨i1,i2,i3⟩:=hinv i;have Xl:Ws ns x (i+1)=qg ns (Ws ns x i) (i+1):=rfl;rw[Xl];generalize Ws ns x i=y at i1 i2 i3 WU;obtain⟨Ls,k⟩:=y;dsimp only at i1 i2 i3 WU;have Wg:ps.length=Ls.length:=by
   have:=congrArg List.length WU;rwa [Qg,Qg] at this
  unfold qg;dsimp only;have q0:=P8 (aY ns (k+1)) (show((i+1:Nat):Int)≠0 by omega);have q1:=P7 (aY ns (k+1)) (show(0:Int)<((i+1:Nat):Int) by omega);have WQ:Yk ns k (i+1)<Ls.length:=by unfold Yk;omega
  have hix:ij ps.length (aY ns (k+1)%((i+1:Nat):Int))=some (Yk ns k (i+1)):=AI q0 (by omega);generalize hatn:Yk ns k (i+1)=n at WQ hix;have hL:Ls[n]?=some (Ls.getD n []):=by rw[Qh,Qd WQ];rfl
  have hq:ps[n]?=some (ps[n]'(by omega)):=Qd (by omega);generalize (ps[n]'(by omega))=q at hq;have ZJ:q.1=bC (Ls.getD n []):=by
   have:=congrArg (λl=>l[n]?) WU;simp only[Ql,hq,hL] at this;exact Option.some.inj this
  refine ai (AM 8 9 (dB (fO 2 (st:=cb ns (k+1) c) (z:=aY ns (k+1)) CP hr ax rfl ⟨ns,k,c,rfl,rfl,hs,by omega,by omega,rfl⟩) (aa 5 rfl) (by omega)) rfl rfl hix hq ?_);obtain⟨l0,l5⟩:=i3 _ (Qm hL);generalize Ls.getD n []=L at hL l0 l5 ZJ;have Yq:(q.1.length:Int)=(L.length:Int):=by rw[ZJ,j9]
  have r0:=P8 (aY ns (k+2)) (show(L.length:Int)≠0 by omega);have r1:=P7 (aY ns (k+2)) (show(0:Int)<(L.length:Int) by omega);have e3:k+1+1=k+2:=by omega
  refine aj (GV 8 9 (k:=aY ns (k+2)%(L.length:Int)) (y:=gH (.call ((i+1:Nat):Int))) (dB (fO 2 (st:=cb ns (k+2) c) (z:=aY ns (k+2)) CP hr ax rfl ⟨ns,k+1,c,rfl,rfl,hs,by omega,by omega,by rw[e3]⟩) (EV.cast (Ct 8 9 M.len rfl rfl hq) Yq) (by omega)) (jA.cast (x:=.lst (eQ (.call ((i+1:Nat):Int)))) (ba.vF (aR (r:=aq) (ak (EV.pS ay) (ak (EV.pI (aa 5 rfl)) aL)) (by show 2<=S8;decide)) rfl) (dY _).symm) rfl rfl hq rfl r0 (by omega) (Sj (show _<=20 by rw[ZJ,j9];omega) (by decide)) λg=>⟨aJ ((i+1:Nat):Int),.im dv q.2.1,_,rfl,?_⟩);rw[RX,WU];show(Ls.map bC).set n (cq _ _ q.1)=_;rw[ZJ];rw[RX,fg (cq _ _ _),BZ,← fg]
 ·obtain⟨e5,e9,ps,rfl,WU⟩:=hΓ;rw[bU] at WU ⊢;exact⟨e5,e9,_,ps,rfl,by rw[YZ];exact WU⟩
 rintro _ ⟨e5,e9,k,ps,rfl,WU⟩;obtain⟨i1,i2,i3⟩:=hinv (m-1).toNat;rw[← YZ] at i1 i3;refine WS.freeze 4 rfl (aT (by omega)) ?_;exact aj (GJ 8 (aa 4 rfl) rfl ⟨rfl,WU⟩)
mutual
def bO (lo m:Int):Bool->Th->Prop
 | _,.Wi x=>cP x
 | _,.call j=>lo<j/\j<m
 | lp,.ifs x a b=>cP x/\bz lo m lp a/\bz lo m lp b
 | _,.V5 x a=>cP x/\bz lo m true a
 | lp,.leave=>lp=true
 | _,.back=>True
def bz (lo m:Int):Bool->List Th->Prop
 | _,[]=>True
 | lp,t::ts=>bO lo m lp t/\(dI t=true∨ts=[])/\bz lo m lp ts
end
variable {lo:Int}{lp:Bool}
theorem kO {t:Th}:∀{a:List Th},bz lo m lp a->c7 a=true->bO lo m lp t->bz lo m lp (a++[t])
 | [],_,_,ht=>by rw[QW,bz];exact⟨ht,.inr rfl,by rw[bz];trivial⟩
 | x::a,h,hp,ht=>by
   rw[bz] at h;rw[c7,PZ] at hp;rw[Q7,bz];exact⟨h.1,.inl hp.1,kO h.2.2 hp.2 ht⟩
theorem yG {t:Th}(ht:bO lo m lp t)(hp:dI t=true):∀{k:Nat}{L:List Th},bz lo m lp L->k<L.length->bz lo m lp (cq k t L)
 | 0,L,h,_=>by show bz lo m lp (t::L);rw[bz];exact⟨ht,.inl hp,h⟩
 | k+1,[],_,hk=>by cases hk
 | k+1,x::L,h,hk=>by
   rw[bz] at h;have hk:k<L.length:=by simpa using hk
   have hx:dI x=true:=h.2.1.resolve_right λe=>by rw[e] at hk;cases hk
   show bz lo m lp (x::cq k t L);rw[bz];exact⟨h.1,.inl hx,yG ht hp h.2.2 hk⟩
theorem xX {ns VX:PH}{sub:Option (Int->Pn->List Th×Pn)}(hc:∀j∈VX,lo<j/\j<m)(Wq:∀L,sub=some L->∀lp s,0<=lp->bz lo m (decide (0<lp)) (L lp s).1)(VY:Int)(s:Pn)(hl:0<=VY):bO lo m (decide (0<VY)) (Wn ns VX sub VY s).1:=by
 unfold Wn;split
 ·rename_i h;simp only[bO];exact VT h.2
 split
 ·simp only[bO]
 split
 ·rename_i h;simp only[bO];have hl:(0:Int)<(VX.length:Int):=by have:=h.2;omega
  have q0:=P8 (aY ns (s.1+3)) (show(VX.length:Int)≠0 by omega);have q1:=P7 (aY ns (s.1+3)) hl;have hi:(aY ns (s.1+3)%(VX.length:Int)).toNat<VX.length:=by omega
  rw[Qh,Qd hi];exact hc _ (QP hi)
 cases sub with
 | none=>simp only[bO];exact ji _
 | some L=>
   dsimp only;split
   ·simp only[bO];exact⟨ji _,Wq L rfl _ _ hl,Wq L rfl _ _ hl⟩
   split
   ·simp only[bO];have:=Wq L rfl (VY+1) (s.1+2,s.2-2) (by omega);rw[VT (show 0<VY+1 by omega)] at this;exact⟨ji _,this⟩
   ·simp only[bO];exact ji _
theorem xT:cP "back":=⟨by decide +kernel,by decide +kernel,by decide +kernel⟩
theorem r8 {α:Type}{f:α->α}{P:α->Prop}(h:∀x,P x->P (f x)):∀n x,P x->P (Wm f n x)
 | 0,_,hx=>hx
 | n+1,x,hx=>h _ (r8 h n x hx)
theorem Hn {ns VX:PH}(hc:∀j∈VX,lo<j/\j<m):∀(n:Nat)(tp:Bool)(lp:Int)(s:Pn),0<=lp->bz lo m (decide (0<lp)) (We ns VX n tp lp s).1:=by
 intro n
 induction n with
 | zero=>
   intro tp lp s hl;rw[lX];refine r8 (P:=λ(x:List Th×Pn)=>bz lo m (decide (0<lp)) x.1) (λx hx=>?_) _ _ (by simp only[bz]);unfold iH;split
   ·rename_i h;split
    ·exact kO hx h.2 (by simp only[bO];exact xT)
    ·exact kO hx h.2 (xX hc (λL e=>by cases e) lp x.2 hl)
   ·exact hx
 | succ n ih=>
   intro tp lp s hl;rw[lX];refine r8 (P:=λ(x:List Th×Pn)=>bz lo m (decide (0<lp)) x.1) (λx hx=>?_) _ _ (by simp only[bz]);unfold iH;split
   ·rename_i h;split
    ·exact kO hx h.2 (by simp only[bO];exact xT)
    ·exact kO hx h.2 (xX hc (λL e lp' s' Xx=>by cases e;exact ih false lp' s' Xx) lp x.2 hl)
   ·exact hx
section
variable {L:List Th}
def h9 (L:List Th):Prop:=∃t ts,L=t::ts/\nW t=false
theorem Gh (h:h9 L)(t:Th):h9 (L++[t]):=by
 obtain⟨x,ts,rfl,h⟩:=h;exact⟨x,ts++[t],rfl,h⟩
theorem Ju (ns VX:PH)(c k:Int)(hc:0<c):h9 (We ns VX 4 true 0 (k,c)).1:=by
 rw[lX];have hm:2<=fV ns true k:=by
  unfold fV;have:=P8 (aY ns (k+1)) (show(4:Int)≠0 by decide);simp;omega
 have key:∀(f:List Th×Pn->List Th×Pn)(x:List Th×Pn),(∀y,h9 y.1->h9 (f y).1)->h9 (f x).1->∀m,1<=m->h9 (Wm f m x).1:=by
  intro f x h1 h2 m
  induction m with
  | zero=>intro h;omega
  | succ m ih=>
    intro _;rw[Wm];cases m with
    | zero=>exact h2
    | succ m=>exact h1 _ (ih (by omega))
 refine key _ _ (λy hy=>?_) ?_ _ (show 1<=fV ns true k by omega)
 ·unfold iH;split
  ·split<;>exact Gh hy _
  ·exact hy
 ·unfold iH;rw[VQ ⟨hc,by simp[c7]⟩];split
  ·exact⟨_,[],rfl,rfl⟩
  ·rename_i h;refine⟨_,[],rfl,?_⟩;cases e:nW (Wn ns VX (dX ns VX 4) 0 ([],k+1,c).2).1 with
   | false=>rfl
   | true=>exact VO ⟨rfl,rfl,e⟩ h
def lE (x:Str):Option Nat:=x.cps.toList.getLast?
theorem mQ (x:Str)(c:Nat):lE (x++⟨#[c]⟩)=some c:=by
 unfold lE;have e:(x++(⟨#[c]⟩:Str)).cps.toList=x.cps.toList++[c]:=by show(x.cps++ #[c]).toList=_;simp
 rw[e];simp
theorem Du:g9 lU=[⟨#[113]⟩,⟨#[119]⟩,⟨#[101]⟩,⟨#[114]⟩]:=by decide +kernel
theorem G5 (hl:VW.length<=3)(x:Str):uJ VW x∉VW:=by
 unfold uJ;rw[Du];simp only[List.foldl];have Ww:∀{y:Str},y∉VW->∀c,jO VW y c=y:=λh c=>VP h;have go:∀{y:Str},y∈VW->∀c,jO VW y c=hZ y++c:=λh c=>VQ h;by_cases h0:x∈VW;rotate_left
 ·rw[Ww h0,Ww h0,Ww h0,Ww h0];exact h0
 rw[go h0];generalize hx1:hZ x++(⟨#[113]⟩:Str)=x1;have l1:lE x1=some 113:=by rw[← hx1];exact mQ _ _
 by_cases h1:x1∈VW;rotate_left
 ·rw[Ww h1,Ww h1,Ww h1];exact h1
 rw[go h1];generalize hx2:hZ x1++(⟨#[119]⟩:Str)=x2;have l2:lE x2=some 119:=by rw[← hx2];exact mQ _ _
 by_cases h2:x2∈VW;rotate_left
 ·rw[Ww h2,Ww h2];exact h2
 rw[go h2];generalize hx3:hZ x2++(⟨#[101]⟩:Str)=x3;have l3:lE x3=some 101:=by rw[← hx3];exact mQ _ _
 by_cases h3:x3∈VW;rotate_left
 ·rw[Ww h3];exact h3
 rw[go h3];generalize hx4:hZ x3++(⟨#[114]⟩:Str)=x4;have l4:lE x4=some 114:=by rw[← hx4];exact mQ _ _
 intro h4;obtain⟨n1,b1,e1⟩:=Ru h1;obtain⟨n2,b2,e2⟩:=Ru h2;obtain⟨n3,b3,e3⟩:=Ru h3;obtain⟨n4,b4,e4⟩:=Ru h4;have ne:∀{i j:Nat}{hi:i<VW.length}{hj:j<VW.length}{y z:Str}{c d:Nat},VW[i]=y->VW[j]=z->lE y=some c->lE z=some d->c≠d->i≠j:=by
  intro i j hi hj y z c d e e' l l' X0 z;subst z;rw[← e] at l;rw[← e',l] at l';exact X0 (Option.some.inj l')
 have:=ne e1 e2 l1 l2 (by decide);have:=ne e1 e3 l1 l3 (by decide);have:=ne e1 e4 l1 l4 (by decide);have:=ne e2 e3 l2 l3 (by decide);have:=ne e2 e4 l2 l4 (by decide);have:=ne e3 e4 l3 l4 (by decide);omega
theorem Ab (ns:PH)(s:Int):∀i,i<=4->(dH ns s i).Nodup
 | 0,_=>RC
 | i+1,h=>by
   rw[dH];exact ib (Ab ns s i (by omega)) (G5 (by rw[mx];omega) _)
theorem Kz (i:Nat)(m:Int):∀j∈fG i m,(i:Int)<j/\j<m:=by
 intro j hj;unfold fG at hj;obtain⟨n,hn⟩:=Qu.mp hj;obtain⟨a,b⟩:=fJ hn;omega
structure LsOk (m:Int)(b:Nat)(Ls:List (List Th)):Prop where
 ok:∀(p:Nat)(L:List Th),Ls[p]?=some L->bz (p:Int) m false L
 dp:∀L∈Ls,dA L<=4
 hd:∀L∈Ls,h9 L
 rw:∀L∈Ls,bR L<=b
theorem BL (ns:PH)(m k:Int)(hb:0<dt m):∀i,LsOk m (dt m).toNat (Wc ns m k i).1/\((Wc ns m k i).1.map bR).sum<=i*(dt m).toNat
 | 0=>⟨⟨(λp L h=>by simp[Wc] at h),(λL h=>by simp[Wc] at h),(λL h=>by simp[Wc] at h),(λL h=>by simp[Wc] at h)⟩,Si _⟩
 | i+1=>by
   obtain⟨h,hs⟩:=BL ns m k hb i;have hl:=l7 ns m k i;have g:=mw ns (fG i m) 4 true 0 ((Wc ns m k i).2,dt m) (Int.le_of_lt hb);have go:=Hn (lo:=(i:Int)) (m:=m) (ns:=ns) (Kz i m) 4 true 0 ((Wc ns m k i).2,dt m) (Qa 0);have gh:=Ju ns (fG i m) (dt m) (Wc ns m k i).2 hb;have gr:bR (We ns (fG i m) 4 true 0 ((Wc ns m k i).2,dt m)).1<=(dt m).toNat:=by
    have:=g.c;dsimp only at this;omega
   rw[Wc];dsimp only;generalize We ns (fG i m) 4 true 0 ((Wc ns m k i).2,dt m)=r at g go gh gr;generalize Wc ns m k i=x at h hs hl;have mem:∀{L},L∈x.1++[r.1]->L∈x.1∨L=r.1:=λh=>(Qr.mp h).imp id Qe.mp;refine⟨⟨λp L hp=>?_,λL hL=>?_,λL hL=>?_,λL hL=>?_⟩,?_⟩
   ·rcases Sm p x.1.length with z | z
    ·rw[QI z] at hp;exact h.ok p L hp
    ·rw[QE z] at hp;have hz:p-x.1.length=0:=by
      have:=(Qc.mp hp).1;simp at this;omega
     rw[hz] at hp;have e:r.1=L:=by simpa using hp
     have ep:p=i:=by omega
     rw[← e,ep];exact go
   ·rcases mem hL with z | rfl
    ·exact h.dp L z
    ·exact g.dp
   ·rcases mem hL with z | rfl
    ·exact h.hd L z
    ·exact gh
   ·rcases mem hL with z | rfl
    ·exact h.rw L z
    ·exact gr
   ·rw[Qv,Sb,Nat.add_mul];simp;omega
theorem ly (k:Nat)(y:α)(xs:List α):cq k y xs=xs.take k++y::xs.drop k:=rfl
theorem B0 (k:Nat)(j:Int)(L:List Th):bR (cq k (.call j) L)=bR L+1:=by
 rw[ly,kq,bR,bX];have:=kq (L.take k) (L.drop k);rw[Rf] at this;omega
theorem Io (k:Nat)(j:Int)(L:List Th):dA (cq k (.call j) L)=dA L:=by
 rw[ly,mz,dA,show fZ (.call j)=0 by simp[fZ]];have:=mz (L.take k) (L.drop k);rw[Rf] at this;omega
theorem FZ {k:Nat}{y x:Th}(h:x∈L):x∈cq k y L:=by
 rw[ly];rw[← Rf k L] at h;rcases Qr.mp h with z | z
 ·exact Qs _ z
 ·exact Qn _ (Qi _ z)
theorem C9 {k:Nat}{y:Th}:y∈cq k y L:=by
 rw[ly];exact Qn _ Qk
theorem Hs {k:Nat}{j:Int}(h:h9 L):h9 (cq k (.call j) L):=by
 obtain⟨t,ts,rfl,h⟩:=h;cases k with
 | zero=>exact⟨_,_,rfl,rfl⟩
 | succ k=>exact⟨t,cq k (.call j) ts,rfl,h⟩
theorem sum_set:∀{l:List Nat}{n a b:Nat},l[n]?=some a->(l.set n b).sum+a=l.sum+b
 | x::l,0,a,b,h=>by
   have e:x=a:=by simpa using h
   rw[List.set_cons_zero,RN,RN,e];omega
 | x::l,n+1,a,b,h=>by
   have:=sum_set (l:=l) (n:=n) (a:=a) (b:=b) (by simpa using h);rw[List.set_cons_succ,RN,RN];omega
theorem AG (ns:PH)(x:List (List Th)×Int)(m:Int)(b:Nat)(hx:LsOk m b x.1)(hl:(x.1.length:Int)=m):∀i:Nat,(i:Int)<m->LsOk m (b+i) (Ws ns x i).1/\(Ws ns x i).1.length=x.1.length/\((Ws ns x i).1.map bR).sum=(x.1.map bR).sum+i/\∀j:Nat,1<=j->j<=i->∃L∈(Ws ns x i).1,Th.call (j:Int)∈L
 | 0,_=>⟨hx,rfl,rfl,λj h1 h2=>by omega⟩
 | i+1,hi=>by
   obtain⟨h,Yq,hs,hc⟩:=AG ns x m b hx hl i (by omega);rw[Ws];generalize Ws ns x i=y at h Yq hs hc;unfold qg;have q0:=P8 (aY ns (y.2+1)) (show((i+1:Nat):Int)≠0 by omega);have q1:=P7 (aY ns (y.2+1)) (show(0:Int)<((i+1:Nat):Int) by omega);have WQ:Yk ns y.2 (i+1)<=i:=by unfold Yk;omega
   generalize Yk ns y.2 (i+1)=n at WQ;have hn:n<y.1.length:=by omega
   have hL:y.1[n]?=some (y.1.getD n []):=by rw[Qh,Qd hn];rfl
   generalize y.1.getD n []=L at hL;have mL:=Qm hL;have l0:0<L.length:=by obtain⟨t,ts,rfl,_⟩:=h.hd L mL;simp
   have r0:=P8 (aY ns (y.2+2)) (show(L.length:Int)≠0 by omega);have r1:=P7 (aY ns (y.2+2)) (show(0:Int)<(L.length:Int) by omega);have hk:(aY ns (y.2+2)%(L.length:Int)).toNat<L.length:=by omega
   dsimp only;generalize (aY ns (y.2+2)%(L.length:Int)).toNat=k at hk;refine⟨⟨λp L' hp=>?_,λL' YJ=>?_,λL' YJ=>?_,λL' YJ=>?_⟩,by rw[QV];exact Yq,?_,λj h1 h2=>?_⟩
   ·by_cases e:p=n
    ·subst e;rw[Qp hn] at hp;cases hp
     exact yG (by simp only[bO];omega) (by simp only[dI]) (h.ok p L hL) hk
    ·rw[QB (SN e)] at hp;exact h.ok p L' hp
   ·rcases mem_set YJ with z | rfl
    ·exact h.dp L' z
    ·rw[Io];exact h.dp L mL
   ·rcases mem_set YJ with z | rfl
    ·exact h.hd L' z
    ·exact Hs (h.hd L mL)
   ·rcases mem_set YJ with z | rfl
    ·have:=h.rw L' z;omega
    ·rw[B0];have:=h.rw L mL;omega
   ·rw[RX];have:=sum_set (l:=y.1.map bR) (n:=n) (a:=bR L) (b:=bR (cq k (.call ((i+1:Nat):Int)) L)) (by rw[Ql,hL];rfl);rw[B0] at this ⊢;omega
   ·have sets:∀{L':List Th},L'∈y.1->∃L2∈y.1.set n (cq k (.call ((i+1:Nat):Int)) L),∀t∈L',t∈L2:=λ{L'} YJ=>by
     obtain⟨q,hq⟩:=Qu.mp YJ;by_cases e:q=n
     ·subst e;rw[hL] at hq;cases hq
      exact⟨_,Qm (Qp hn),λt ht=>FZ ht⟩
     ·exact⟨L',Qm ((QB (SN e)).trans hq),λt ht=>ht⟩
    by_cases e:j=i+1
    ·subst e;exact⟨_,Qm (Qp hn),C9⟩
    ·obtain⟨L',YJ,hj⟩:=hc j h1 (by omega);obtain⟨L2,m2,s2⟩:=sets YJ;exact⟨L2,m2,s2 _ hj⟩
structure cy (xs:PJ)(Ls:List (List Th)):Prop where
 l:xs.length=Ls.length
 l1:1<=Ls.length
 l4:Ls.length<=4
 nm:∀x∈xs,cP x
 nd:xs.Nodup
 ok:∀(p:Nat)(L:List Th),Ls[p]?=some L->bz (p:Int) (Ls.length:Int) false L
 dp:∀L∈Ls,dA L<=4
 hd:∀L∈Ls,h9 L
 rw:∀L∈Ls,bR L<=14
 ZY:(Ls.map bR).sum<=30
 cl:∀j:Nat,1<=j->j<Ls.length->∃L∈Ls,Th.call (j:Int)∈L
theorem ye (ns:PH)(s:Int):cy (Wz ns s) (WA ns s):=by
 obtain⟨m1,m4⟩:=xG ns s;unfold Wz WA;generalize WH ns s=m at m1 m4;obtain⟨b6,b14⟩:=Bl m1 m4;obtain⟨h,hs⟩:=BL ns m (s+1+m) (by omega) m.toNat;have hl:=l7 ns m (s+1+m) m.toNat;generalize Wc ns m (s+1+m) m.toNat=x at h hs hl;obtain⟨o,oll,os,oc⟩:=AG ns x m _ h (by omega) (m-1).toNat (by omega);have bm:(dt m).toNat+(m-1).toNat<=14/\m.toNat*(dt m).toNat+(m-1).toNat<=30:=by
  have:∀j:Fin 4,(dt ((j.val:Int)+1)).toNat+j.val<=14/\(j.val+1)*(dt ((j.val:Int)+1)).toNat+j.val<=30:=by decide +kernel
  have:=this ⟨(m-1).toNat,by omega⟩;dsimp only at this;rw[show(((m-1).toNat:Nat):Int)+1=m by omega,show(m-1).toNat+1=m.toNat by omega] at this;exact this
 generalize Ws ns x (m-1).toNat=y at o oll os oc;have em:((y.1.length:Nat):Int)=m:=by omega
 exact⟨by rw[mx];omega,by omega,by omega,BJ ns s _,Ab ns s _ (by omega),by rw[em];exact o.ok,o.dp,o.hd,λL hL=>Sh (o.rw L hL) bm.1,by omega,λj h1 h2=>oc j h1 (by omega)⟩
end
abbrev S1 (x:Str):PJ:=[x]
abbrev S2 (x y:Str):PJ:=[x,y]
mutual
def cW (VW:PJ):Th->PJ
 | .Wi x=>S2 "do" x
 | .call j=>S2 "call" (VW.getD j.toNat "")
 | .ifs x a b=>S2 "if" x++V8 VW a++S1 "else"++(V8 VW b++S1 "end")
 | .V5 x a=>S2 "while" x++V8 VW a++S1 "end"
 | .leave=>S1 "leave"
 | .back=>S1 "back"
def V8 (VW:PJ):List Th->PJ
 | []=>[]
 | t::ts=>cW VW t++V8 VW ts
end
theorem yR (VW:PJ):∀a b:List Th,V8 VW (a++b)=V8 VW a++V8 VW b
 | [],b=>by rw[V8];rfl
 | t::a,b=>by rw[Q7,V8,V8,yR VW a b,Qy]
theorem F6 (VW:PJ)(t:Th):V8 VW [t]=cW VW t:=by rw[V8,V8,QC]
mutual
theorem GU {VW:PJ}{lo m:Int}:∀(t:Th)(lp:Bool),bO lo m lp t->(cW VW t).length<=4*bX t+(if bX t=0 then 1 else 0)
 | .Wi x,_,_=>by simp[cW,bX]
 | .call j,_,_=>by simp[cW,bX]
 | .ifs x a b,lp,h=>by
   simp only[bO] at h;have h1:=fL (VW:=VW) a lp h.2.1;have h2:=fL (VW:=VW) b lp h.2.2;simp[cW,bX];omega
 | .V5 x a,lp,h=>by
   simp only[bO] at h;have h1:=fL (VW:=VW) a true h.2;simp[cW,bX];omega
 | .leave,_,_=>by simp[cW,bX]
 | .back,_,_=>by simp[cW,bX]
theorem fL {VW:PJ}{lo m:Int}:∀(ts:List Th)(lp:Bool),bz lo m lp ts->(V8 VW ts).length<=4*bR ts+1
 | [],_,_=>by simp[V8]
 | t::ts,lp,h=>by
   simp only[bz] at h;have h1:=GU (VW:=VW) t lp h.1;have h2:=fL (VW:=VW) ts lp h.2.2;rw[V8,bR,Qj];by_cases e:bX t=0
   ·rw[e,VQ rfl] at h1;have hp:dI t=false:=by cases t<;>simp[bX] at e<;>simp[dI]
    have:ts=[]:=h.2.1.resolve_left (by rw[hp];decide);subst this;simp[V8,bR];omega
   ·rw[VP e] at h1;omega
end
theorem xK {lo m:Int}{lp:Bool}{t:Th}:∀{ts:List Th},bz lo m lp ts->t∈ts->bO lo m lp t
 | s::ts,h,hm=>by
   simp only[bz] at h;rcases Qq.mp hm with rfl | hm
   ·exact h.1
   ·exact xK h.2.2 hm
theorem Ag {t:Th}:∀{ts:List Th},t∈ts->bX t<=bR ts
 | s::ts,h=>by
   rw[bR];rcases Qq.mp h with rfl | h
   ·omega
   ·have:=Ag h;omega
theorem uT {lo m:Int}{lp:Bool}:∀{ts:List Th}(i:Nat),bz lo m lp ts->bz lo m lp (ts.take i)
 | [],i,h=>by rw[take_nil];exact h
 | t::ts,0,h=>by simp only[Ri,bz]
 | t::ts,i+1,h=>by
   simp only[bz] at h;rw[QS,bz];exact⟨h.1,h.2.1.imp id λe=>by rw[e,take_nil],uT i h.2.2⟩
theorem GH (ts:List Th)(i:Nat):bR (ts.take i)<=bR ts:=by
 have:=kq (ts.take i) (ts.drop i);rw[Rf] at this;omega
variable {Γ1:Ga}{j:Nat}
theorem wc {a:Expr}{i:Int}(h:EV X a Γ aq (gH t) Γ1)(hx:cE (eQ t) i=some (.str x)):EV X (.Subscript a (.Constant (.int i) j p1) pos) Γ ar x Γ1:=EV.sP (a9 (EV.lP (by rw[dY] at h;exact h)) ev_int hx)
theorem HQ {a:Expr}{i:Int}{x:Int}(h:EV X a Γ aq (gH t) Γ1)(hx:cE (eQ t) i=some (.int x)):EV X (.Subscript a (.Constant (.int i) j p1) pos) Γ ag x Γ1:=EV.iP (a9 (EV.lP (by rw[dY] at h;exact h)) ev_int hx)
variable {Ls:List (List Th)}{z:Str×List Th}{ws:PJ}
abbrev Kb:Stmt:=top ub
abbrev nWD:PJ:=["_law_items","_law_names","_law_words_here","_law_one"]
theorem DT:bV nWD ["_law_items","_law_names"] (ao Kb):=Xt
def NV (n:Nat):cS:=λK ps T=>∃(ts:List Th)(VW:PJ)(lo m:Int)(lp:Bool),ps=[⟨ae aq,bC ts⟩,⟨ae ar,VW⟩]/\dA ts<n/\bz lo m lp ts/\0<=lo/\m<=(VW.length:Int)/\bR ts<=100/\T=cU K (ae ar) (· =V8 VW ts)
theorem l1 (x:Str):([x]:PJ).length<=S8:=by show 1<=S8;decide
theorem l2 (x y:Str):([x,y]:PJ).length<=S8:=by show 2<=S8;decide
theorem Mq (F:dZ K "_law_words" "_law_words" Kb f fd)(hm:mg "_law_words"=some (.ref f))(hb:Binds K fd ["_law_items","_law_names"] []):∀n:Nat,aE P w K mg base "_law_words" (n+1) (aM (NV n) K):=by
 intro n;have nd:=DT.nd
 induction n with
 | zero=>
   refine gZ F DT hm hb (λqs T ⟨_,_,_,_,_,e,_⟩=>by rw[e];rfl) (λV2 A outer s H E qs T hr hS=>?_);obtain⟨ts,_,_,_,_,_,h,_⟩:=hS;exact VO h (SG _)
 | succ n ih=>
   refine gZ F DT hm hb (λqs T ⟨_,_,_,_,_,e,_⟩=>by rw[e];rfl) (λV2 A outer s H E qs T hr hS=>?_);obtain⟨ts,VW,lo,m,lp,rfl,hd,V4,lo0,Zs,hrw,rfl⟩:=hS;refine ai (cR 2 (r:=ar) (ys:=[]) (aR aL (Si _)) ?_);refine bS (N1:=λΓ=>∃e3,Γ=[.im (ae aq) (bC ts),.im (ae ar) VW,.mu ar (V8 VW ts),e3]) (bW (r:=aq) (λi Γ=>∃e3,Γ=[.im (ae aq) (bC ts),.im (ae ar) VW,.mu ar (V8 VW (ts.take i)),e3]) (br (aa 0 rfl)) (aP 3) ⟨_,rfl⟩ (λi x Γ hx hΓ=>?_) (λΓ hΓ=>?_)) ?_
   ·obtain⟨e3,rfl⟩:=hΓ;rw[fg,Ql] at hx;obtain⟨t,ht,rfl⟩:=SO.mp hx;have tm:=Qm ht;have tok:=xK V4 tm;have tdp:=nG tm;have trw:=Ag tm;have wl:=fL (VW:=VW) (ts.take i) lp (uT i V4);have wr:=GH ts i;have Xl:V8 VW (ts.take (i+1))=V8 VW (ts.take i)++cW VW t:=by rw[QK,ht,yR];rw[show(some t).toList=[t] from rfl,F6]
    rw[Xl];generalize V8 VW (ts.take i)=ws at wl;have wz:ws.length<=401:=by omega
    refine aj (a8 (aA cm (jr (aa 3 rfl)) ay) (λh=>?_) (λh1=>?_))
    ·have h:eC t="do":=VR h;cases t with
     | Wi x=>
       refine WS.freeze 2 rfl (aT (by omega)) ?_;refine aj (cR 2 (ys:=ws++S2 "do" x) (cM (aa 2 rfl) (ba.im (aR (r:=ar) (ak ay (ak (wc (aa 3 rfl) rfl) aL)) (l2 _ _))) (aT (by simp;omega))) ⟨.im aq (gH (.Wi x)),?_⟩);rw[cW];rfl
     | _=>exact VO h (by simp only[eC];decide)
    have h1:¬eC t="do":=VS h1;refine aj (a8 (aA cm (jr (aa 3 rfl)) ay) (λh=>?_) (λh2=>?_))
    ·have h:eC t="call":=VR h;cases t with
     | call j=>
       simp only[bO] at tok;refine WS.freeze 2 rfl (aT (by omega)) ?_;refine aj (cR 2 (ys:=ws++S2 "call" (VW.getD j.toNat "")) (cM (aa 2 rfl) (ba.im (aR (r:=ar) (ak ay (ak (a9 (aa 1 rfl) (HQ (aa 3 rfl) rfl) (bw (xs:=VW) (i:=j) "" (by omega) (by omega))) aL)) (l2 _ _))) (aT (by simp;omega))) ⟨.im aq (gH (.call j)),?_⟩);rw[cW];rfl
     | _=>exact VO h (by simp only[eC];decide)
    have h2:¬eC t="call":=VS h2;refine aj (a8 (aA cm (jr (aa 3 rfl)) ay) (λh=>?_) (λh3=>?_))
    ·have h:eC t="if":=VR h;cases t with
     | ifs x a b=>
       simp only[bO] at tok;rw[fZ] at tdp;rw[bX] at trw;have la:=fL (VW:=VW) a lp tok.2.1;have lb:=fL (VW:=VW) b lp tok.2.2;refine WS.freeze 2 rfl (aT (by omega)) ?_;refine ai (cR 2 (ys:=ws++S2 "if" x++V8 VW a++S1 "else") (cM (ba.im (cM (ba.im (cM (aa 2 rfl) (ba.im (aR (r:=ar) (ak ay (ak (wc (aa 3 rfl) rfl) aL)) (l2 _ _))) (aT (by simp;omega)))) (aI ih hr (ah (n5 (aa 3 rfl) rfl) (ah (aa 1 rfl) ax)) ⟨a,VW,lo,m,lp,rfl,by omega,tok.2.1,lo0,Zs,by omega,rfl⟩) (aT (by simp;omega)))) (ba.im (aR (r:=ar) (ak ay aL) (l1 _))) (aT (by simp;omega))) ?_);refine WS.freeze 2 rfl (aT (by simp;omega)) ?_;refine aj (cR 2 (ys:=ws++S2 "if" x++V8 VW a++S1 "else"++V8 VW b++S1 "end") (cM (ba.im (cM (aa 2 rfl) (aI ih hr (ah (n5 (aa 3 rfl) rfl) (ah (aa 1 rfl) ax)) ⟨b,VW,lo,m,lp,rfl,by omega,tok.2.2,lo0,Zs,by omega,rfl⟩) (aT (by simp;omega)))) (ba.im (aR (r:=ar) (ak ay aL) (l1 _))) (aT (by simp;omega))) ⟨.im aq (gH (.ifs x a b)),?_⟩);rw[cW];simp only[Qy];rfl
     | _=>exact VO h (by simp only[eC];decide)
    have h3:¬eC t="if":=VS h3;refine aj (a8 (aA cm (jr (aa 3 rfl)) ay) (λh=>?_) (λh4=>?_))
    ·have h:eC t="while":=VR h;cases t with
     | V5 x a=>
       simp only[bO] at tok;rw[fZ] at tdp;rw[bX] at trw;have la:=fL (VW:=VW) a true tok.2;refine WS.freeze 2 rfl (aT (by omega)) ?_;refine aj (cR 2 (ys:=ws++S2 "while" x++V8 VW a++S1 "end") (cM (ba.im (cM (ba.im (cM (aa 2 rfl) (ba.im (aR (r:=ar) (ak ay (ak (wc (aa 3 rfl) rfl) aL)) (l2 _ _))) (aT (by simp;omega)))) (aI ih hr (ah (n5 (aa 3 rfl) rfl) (ah (aa 1 rfl) ax)) ⟨a,VW,lo,m,true,rfl,by omega,tok.2,lo0,Zs,by omega,rfl⟩) (aT (by simp;omega)))) (ba.im (aR (r:=ar) (ak ay aL) (l1 _))) (aT (by simp;omega))) ⟨.im aq (gH (.V5 x a)),?_⟩);rw[cW];simp only[Qy];rfl
     | _=>exact VO h (by simp only[eC];decide)
    have h4:¬eC t="while":=VS h4;have ew:cW VW t=[eC t]:=by
     cases t with
     | Wi x=>exact VO rfl h1
     | call x=>exact VO rfl h2
     | ifs x a b=>exact VO rfl h3
     | V5 x a=>exact VO rfl h4
     | leave=>rw[cW];rfl
     | back=>rw[cW];rfl
    rw[ew];exact aj (eT 2 (jr (aa 3 rfl)) rfl rfl (Sj wz (by decide)) ⟨.im aq (gH t),rfl⟩)
   ·obtain⟨e3,rfl⟩:=hΓ;rw[j9,QM];exact⟨e3,rfl⟩
   rintro _ ⟨e3,rfl⟩;have wl:=fL (VW:=VW) ts lp V4;refine WS.freeze 2 rfl (aT (by omega)) ?_;exact aj (aN (aa 2 rfl) rfl)
def fY (VW:PJ)(z:Str×List Th):PJ:=S2 "part" (z.1)++V8 VW z.2++S1 "end"
def jP (VW:PJ)(Ls:List (List Th)):PJ:=(VW.zip Ls).flatMap (fY VW)
abbrev NJ:Stmt:=top vo
abbrev nTX:PJ:=["_law_names","_law_lists","_law_words_here","_law_name_here","_law_items"]
def Oo:cS:=λK ps T=>∃(VW:PJ)(Ls:List (List Th)),ps=[⟨ae ar,VW⟩,⟨ae (ae aq),Ls.map bC⟩]/\cy VW Ls/\T=cU K ar (· =Vh " " (jP VW Ls))
structure gJ (w:Str):Prop where
 l:w.length<=8
 f:32∉w.cps.toList
theorem cP.wo (h:cP x):gJ x:=⟨h.l8,λz=>by have:=(h.az _ z).1;omega⟩
theorem f7 {w:Str}(h:(decide (w.length<=8)&&decide (32∉w.cps.toList))=true):gJ w:=by
 rw[PZ] at h;exact⟨VR h.1,VR h.2⟩
theorem FG (h:∀x∈VW,cP x)(i:Nat):gJ (VW.getD i ""):=by
 rw[Qh];cases e:VW[i]? with
 | none=>exact f7 (by decide +kernel)
 | some x=>exact(h x (Qm e)).wo
theorem nL (hx:gJ x)(hy:gJ y):∀w∈S2 x y,gJ w:=λw hw=>by
 rcases Qq.mp hw with rfl | hw
 ·exact hx
 ·rw[Qe.mp hw];exact hy
theorem l9 (hx:gJ x):∀w∈S1 x,gJ w:=λw hw=>by rw[Qe.mp hw];exact hx
theorem gf {a b:PJ}(ha:∀w∈a,gJ w)(hb:∀w∈b,gJ w):∀w∈a++b,gJ w:=λw hw=>(Qr.mp hw).elim (ha w) (hb w)
mutual
theorem KS {VW:PJ}{lo m:Int}(hn:∀x∈VW,cP x):∀(t:Th)(lp:Bool),bO lo m lp t->∀w∈cW VW t,gJ w
 | .Wi x,_,h=>by
   simp only[bO] at h;rw[cW];exact nL (f7 (by decide +kernel)) h.wo
 | .call j,_,_=>by rw[cW];exact nL (f7 (by decide +kernel)) (FG hn _)
 | .ifs x a b,lp,h=>by
   simp only[bO] at h;rw[cW];exact gf (gf (gf (nL (f7 (by decide +kernel)) h.1.wo) (og hn a lp h.2.1)) (l9 (f7 (by decide +kernel)))) (gf (og hn b lp h.2.2) (l9 (f7 (by decide +kernel))))
 | .V5 x a,lp,h=>by
   simp only[bO] at h;rw[cW];exact gf (gf (nL (f7 (by decide +kernel)) h.1.wo) (og hn a true h.2)) (l9 (f7 (by decide +kernel)))
 | .leave,_,_=>by rw[cW];exact l9 (f7 (by decide +kernel))
 | .back,_,_=>by rw[cW];exact l9 (f7 (by decide +kernel))
theorem og {VW:PJ}{lo m:Int}(hn:∀x∈VW,cP x):∀(ts:List Th)(lp:Bool),bz lo m lp ts->∀w∈V8 VW ts,gJ w
 | [],_,_=>by rw[V8];intro w h;cases h
 | t::ts,lp,h=>by
   simp only[bz] at h;rw[V8];exact gf (KS hn t lp h.1) (og hn ts lp h.2.2)
end
theorem kA (h:(VW.zip Ls)[i]?=some z):VW[i]?=some z.1/\Ls[i]?=some z.2:=by
 rw[List.getElem?_zip_eq_some] at h;exact h
theorem LL (h:cy VW Ls)(hz:z∈VW.zip Ls):(fY VW z).length<=60/\∀w∈fY VW z,gJ w:=by
 obtain⟨i,hi⟩:=Qu.mp hz;obtain⟨h1,h2⟩:=kA hi;have hk:=h.ok i z.2 h2;have hl:=fL (VW:=VW) z.2 false hk;have hr:=h.rw z.2 (Qm h2);unfold fY;refine⟨by simp;omega,gf (gf (nL (f7 (by decide +kernel)) (h.nm z.1 (Qm h1)).wo) (og h.nm z.2 false hk)) (l9 (f7 (by decide +kernel)))⟩
theorem yI {VW:PJ}:∀{zs:List (Str×List Th)},(∀z∈zs,(fY VW z).length<=60/\∀w∈fY VW z,gJ w)->(zs.flatMap (fY VW)).length<=60*zs.length/\∀w∈zs.flatMap (fY VW),gJ w
 | [],_=>⟨Si _,λw h=>by cases h⟩
 | z::zs,h=>by
   obtain⟨a,b⟩:=yI (zs:=zs) λy hy=>h y (Qi _ hy);obtain⟨c,d⟩:=h z Qk;rw[Q1];exact⟨by rw[Qj,Qo];omega,gf d b⟩
theorem x6 (h:cy VW Ls)(i:Nat):(((VW.zip Ls).take i).flatMap (fY VW)).length<=240/\∀w∈((VW.zip Ls).take i).flatMap (fY VW),gJ w:=by
 obtain⟨a,b⟩:=yI (VW:=VW) (zs:=(VW.zip Ls).take i) λz hz=>LL h (R7 hz);refine⟨?_,b⟩;have:=h.l;have:=h.l4;rw[QA,Rn] at a;omega
theorem xb (h:cy VW Ls):(jP VW Ls).length<=240/\∀w∈jP VW Ls,gJ w:=by
 have:=x6 h (VW.zip Ls).length;rw[QM] at this;exact this
theorem yx (hl:ws.length<=240)(h:∀w∈ws,gJ w):JoinOk " " ws=true:=by
 unfold JoinOk;rw[StrLaws.joinFits (B:=8) (λy hy=>(h y hy).l) (by rw[show(" ":Str).length=1 by decide +kernel];omega)];rfl
theorem MY (M:cD K mg)(CW:aE P w K mg base "_law_words" 6 (aM (NV 5) K))(Df:Def K mg "_law_text" NJ ["_law_names","_law_lists"]):aE P w K mg base "_law_text" 7 (aM Oo K):=by
 refine bD (N:=nTX) (k:=6) Df (λf V2 A outer s H E qs T nd hr hS=>?_);obtain⟨VW,Ls,rfl,hP,rfl⟩:=hS;refine ai (bg 2 (y:=([]:PJ)) (ba.im (aR (r:=ar) aL (Si _))) ?_);refine bS (N1:=λΓ=>∃e3 e4,Γ=[.im (ae ar) VW,.im (ae (ae aq)) (Ls.map bC),.im (ae ar) (jP VW Ls),e3,e4]) (bW (λi Γ=>∃e3 e4,Γ=[.im (ae ar) VW,.im (ae (ae aq)) (Ls.map bC),.im (ae ar) (((VW.zip Ls).take i).flatMap (fY VW)),e3,e4]) (Ci M.zip (aa 0 rfl) (aa 1 rfl)) (eN 3 4) ⟨_,_,rfl⟩ (λi x Γ hx hΓ=>?_) (λΓ hΓ=>?_)) ?_
 ·obtain⟨e3,e4,rfl⟩:=hΓ;rw[List.zip_map_right,Ql] at hx;obtain⟨z,hz,rfl⟩:=SO.mp hx;obtain⟨h1,h2⟩:=kA hz;obtain⟨tl,_⟩:=x6 hP i;have hk:=hP.ok i z.2 h2;have hl:=fL (VW:=VW) z.2 false hk;have hrw:=hP.rw z.2 (Qm h2);have hdp:=hP.dp z.2 (Qm h2);have Yq:=hP.l;have Xl:((VW.zip Ls).take (i+1)).flatMap (fY VW)=((VW.zip Ls).take i).flatMap (fY VW)++fY VW z:=by
   rw[QK,hz,Rl];simp
  rw[Xl];generalize ((VW.zip Ls).take i).flatMap (fY VW)=ws at tl;refine aj (bg 2 (y:=ws++S2 "part" z.1++V8 VW z.2++S1 "end") (ba.im (cM (ba.im (cM (ba.im (cM (aa 2 rfl) (ba.im (aR (r:=ar) (ak ay (ak (aa 3 rfl) aL)) (l2 _ _))) (aT (by simp;omega)))) (aI CW hr (ah (aa 4 rfl) (ah (aa 0 rfl) ax)) ⟨z.2,VW,(i:Int),(Ls.length:Int),false,rfl,by omega,hk,by omega,by omega,by omega,rfl⟩) (aT (by simp;omega)))) (ba.im (aR (r:=ar) (ak ay aL) (l1 _))) (aT (by simp;omega)))) ⟨.im ar z.1,.im (ae aq) (bC z.2),?_⟩);unfold fY;simp only[Qy];rfl
 ·obtain⟨e3,e4,rfl⟩:=hΓ;refine⟨e3,e4,?_⟩;rw[List.zip_map_right,Qg,QM];rfl
 rintro _ ⟨e3,e4,rfl⟩;obtain⟨pl,po⟩:=xb hP;exact aj (aN (G3 ay (aa 2 rfl) (yx pl po)) (yL _ _))
structure aG where
 kind:Str
 name:Str
 word:Int
 within:Int
abbrev dq:aG:=⟨"","",0,0⟩
abbrev named:PJ:=["part","do","call","if","while"]
abbrev Wh:PJ:=["do","call","if","while","leave","back"]
abbrev Wt:PJ:=["part","if","else","while"]
abbrev V3:PJ:=["else","end"]
structure fP where
 S:List aG
 O:PH
 w:Nat
def aU (S:List aG)(o:Int):Str:=(S.getD o.toNat dq).kind
def gi (k:Str)(ks:PJ):Bool:=
 if ks.isEmpty then decide (k="part")
 else if k="leave" then decide (("while":Str)∈ks)
 else if k="else" then decide (ks.getLast?.getD ""="if")
 else if k="end" then !decide (ks.getLast?.getD ""="if")
 else decide (k∈Wh)
abbrev ym (ws:PJ)(x:fP):Str:=ws.getD x.w ""
def px (k:Str)(n:Str)(x:fP):aG:=⟨k,n,(x.w:Int),x.O.getLast?.getD (-1)⟩
def Xh (k n:Str)(x:fP):fP:=
 ⟨x.S++[px k (if k∈named then n else "") x],(if k∈V3 then x.O.dropLast else x.O)++(if k∈Wt then[(x.S.length:Int)] else[]),x.w+(if k∈named then 2 else 1)⟩
def jQ (ws:PJ)(x:fP):fP:=Xh (ym ws x) (ws.getD (x.w+1) "") x
structure JD (ws:PJ)(x:fP):Prop where
 w:x.w<ws.length
 may:gi (ym ws x) (x.O.map (aU x.S))=true
 nm:ym ws x∈named->x.w+1<ws.length/\cP (ws.getD (x.w+1) "")
 o:∀o∈x.O,0<=o/\o<(x.S.length:Int)
theorem oB {α:Type}(f:α->α)(m:Nat)(x:α):∀n,Wm f (m+n) x=Wm f n (Wm f m x)
 | 0=>rfl
 | n+1=>by rw[← SH,Wm,Wm,oB f m x n]
def gU (ws:PJ)(n:Nat)(x y:fP):Prop:=Wm (jQ ws) n x=y/\∀i,i<n->JD ws (Wm (jQ ws) i x)
theorem gU.refl {x:fP}:gU ws 0 x x:=⟨rfl,λi h=>by omega⟩
theorem gU.trans {m:Nat}{x y z:fP}(h:gU ws m x y)(h':gU ws n y z):gU ws (m+n) x z:=by
 refine⟨by rw[oB,h.1];exact h'.1,λi hi=>?_⟩;by_cases q:i<m
 ·exact h.2 i q
 ·have e:i=m+(i-m):=by omega
  rw[e,oB,h.1];exact h'.2 (i-m) (by omega)
theorem gU.cast {x y y':fP}(h:gU ws n x y)(e:y=y'):gU ws n x y':=e▸h
theorem gU.one {x y:fP}(h:JD ws x)(e:jQ ws x=y):gU ws 1 x y:=by
 refine⟨e,λi hi=>?_⟩;obtain rfl:i=0:=by omega
 exact h
def qp (ws:PJ)(w:Nat)(vs:PJ):Prop:=∀(i:Nat)(v:Str),vs[i]?=some v->ws[w+i]?=some v
theorem qp.app {w:Nat}{a b:PJ}(h:qp ws w (a++b)):qp ws w a/\qp ws (w+a.length) b:=by
 refine⟨λi v hv=>h i v ?_,λi v hv=>?_⟩
 ·rw[QI (Qc.mp hv).1];exact hv
 ·have:=h (a.length+i) v (by rw[QE (by omega),show a.length+i-a.length=i by omega];exact hv);rw[show w+a.length+i=w+(a.length+i) by omega];exact this
theorem qp.d {w:Nat}{vs:PJ}(h:qp ws w vs){v:Str}(hv:vs[i]?=some v):ws.getD (w+i) ""=v/\w+i<ws.length:=by
 have:=h i v hv;exact⟨by rw[Qh,this];rfl,(Qc.mp this).1⟩
mutual
def bp:Th->Nat
 | .ifs _ a b=>3+V0 a+V0 b
 | .V5 _ a=>2+V0 a
 | _=>1
def V0:List Th->Nat
 | []=>0
 | t::ts=>bp t+V0 ts
end
mutual
def spT (VW:PJ)(a w u:Int):Th->List aG
 | .Wi x=>[⟨"do",x,w,u⟩]
 | .call j=>[⟨"call",VW.getD j.toNat "",w,u⟩]
 | .ifs x A B=>[⟨"if",x,w,u⟩]++bY VW (a+1) (w+2) a A++([⟨"else","",w+2+(V8 VW A).length,a⟩]++(bY VW (a+2+V0 A) (w+3+(V8 VW A).length) (a+1+V0 A) B++[⟨"end","",w+3+(V8 VW A).length+(V8 VW B).length,a+1+V0 A⟩]))
 | .V5 x A=>[⟨"while",x,w,u⟩]++(bY VW (a+1) (w+2) a A++[⟨"end","",w+2+(V8 VW A).length,a⟩])
 | .leave=>[⟨"leave","",w,u⟩]
 | .back=>[⟨"back","",w,u⟩]
def bY (VW:PJ)(a w u:Int):List Th->List aG
 | []=>[]
 | t::ts=>spT VW a w u t++bY VW (a+bp t) (w+(cW VW t).length) u ts
end
mutual
theorem ka {VW:PJ}:∀(t:Th)(a w u:Int),(spT VW a w u t).length=bp t
 | .Wi _,_,_,_=>by simp[spT,bp]
 | .call _,_,_,_=>by simp[spT,bp]
 | .ifs x A B,a,w,u=>by
   simp only[spT,bp,Qj,cj A,cj B,Qo,QD];omega
 | .V5 x A,a,w,u=>by
   simp only[spT,bp,Qj,cj A,Qo,QD];omega
 | .leave,_,_,_=>by simp[spT,bp]
 | .back,_,_,_=>by simp[spT,bp]
theorem cj {VW:PJ}:∀(ts:List Th)(a w u:Int),(bY VW a w u ts).length=V0 ts
 | [],_,_,_=>by simp[bY,V0]
 | t::ts,a,w,u=>by rw[bY,V0,Qj,ka t,cj ts]
end
variable {s:aG}{O:PH}{S:List aG}{ks:PJ}
section
variable {x:fP}{n:Str}{a:Int}{S':List aG}{f:Int->Str}
structure Ctx (x:fP)(lp:Bool):Prop where
 ne:x.O≠[]
 o:∀o∈x.O,0<=o/\o<(x.S.length:Int)
 lp:lp=true->("while":Str)∈x.O.map (aU x.S)
theorem G2 {o:Int}(h0:0<=o)(h1:o<(S.length:Int)):aU (S++S') o=aU S o:=by
 unfold aU;rw[Qh,Qh,QI (by omega)]
theorem BK:aU (S++s::S') (S.length:Int)=s.kind:=by
 unfold aU;rw[Qh,show((S.length:Nat):Int).toNat=S.length by omega];simp
theorem xM (h:∀o∈O,0<=o/\o<(S.length:Int)):O.map (aU (S++S'))=O.map (aU S):=Rr λo ho=>G2 (h o ho).1 (h o ho).2
theorem Ctx.more (h:Ctx x lp)(S':List aG)(w:Nat):Ctx ⟨x.S++S',x.O,w⟩ lp:=
 ⟨h.ne,λo ho=>⟨(h.o o ho).1,by have:=(h.o o ho).2;show o<((x.S++S').length:Int);rw[Qj];omega⟩,λe=>by show _∈x.O.map (aU (x.S++S'));rw[xM h.o];exact h.lp e⟩
theorem Ctx.inner {lp':Bool}(h:Ctx x lp)(s:aG)(w:Nat)(hl:lp'=true->lp=true∨s.kind="while"):Ctx ⟨x.S++[s],x.O++[(x.S.length:Int)],w⟩ lp':=by
 refine⟨by simp,λo ho=>?_,λe=>?_⟩
 ·show _/\o<((x.S++[s]).length:Int);rw[Qj,QG];rcases Qr.mp ho with z | z
  ·have:=h.o o z;omega
  ·rw[Qe.mp z];omega
 ·show _∈(x.O++[(x.S.length:Int)]).map (aU (x.S++[s]));rw[Qv,xM h.o];rcases hl e with z | z
  ·exact Qs _ (h.lp z)
  ·refine Qn _ ?_;rw[Sf,BK,z];exact Qe.mpr rfl
theorem kE {k:Str}(Wx:ks≠[])(h:k∈Wh)(hl:k≠"leave"):gi k ks=true:=by
 unfold gi;have e:ks.isEmpty=false:=by cases ks with
  | nil=>exact VO rfl Wx
  | cons _ _=>rfl
 have h1:k≠"else":=λz=>by rw[z] at h;revert h;decide +kernel
 have h2:k≠"end":=λz=>by rw[z] at h;revert h;decide +kernel
 rw[VP (by rw[e];decide),VP hl,VP h1,VP h2];exact VT h
theorem nK (h:O≠[]):O.map f≠[]:=λe=>h (List.map_eq_nil_iff.mp e)
theorem gC {k:Str}{vs:PJ}{i:Nat}(hk:ws.getD x.w ""=k/\x.w<ws.length)(hn:k∈named->ws.getD (x.w+1) ""=n/\x.w+1<ws.length/\cP n)(hm:gi k (x.O.map (aU x.S))=true)(ho:∀o∈x.O,0<=o/\o<(x.S.length:Int)):gU ws 1 x (Xh k n x):=by
 obtain⟨e1,h1⟩:=hk;have e:ym ws x=k:=e1;refine gU.one ⟨h1,by rw[e];exact hm,λh=>?_,ho⟩ ?_
 ·rw[e] at h;obtain⟨e2,h2,h3⟩:=hn h;exact⟨h2,by rw[e2];exact h3⟩
 ·unfold jQ;rw[e];by_cases h:k∈named
  ·rw[(hn h).1]
  ·unfold Xh;rw[VP h,VP h,VP h]
theorem uO:((O++[a]).map f).getLast?.getD ""=f a:=by simp
theorem Dt (h:f a="if"):gi "else" ((O++[a]).map f)=true:=by
 unfold gi;rw[VP (by simp),VP (by decide +kernel),VQ rfl,uO,h];rfl
theorem sJ (h:f a≠"if"):gi "end" ((O++[a]).map f)=true:=by
 unfold gi;rw[VP (by simp),VP (by decide +kernel),VP (by decide +kernel),VQ rfl,uO,VU h];rfl
theorem Co (h:("while":Str)∈ks):gi "leave" ks=true:=by
 unfold gi;rw[VP (by cases ks with
  | nil=>cases h
  | cons _ _=>simp),VQ rfl]
 exact VT h
abbrev uF (x:fP):Int:=x.O.getLast?.getD (-1)
theorem wk {k:Str}(h1:k∈named)(h2:k∉V3)(h3:k∉Wt):Xh k n x=⟨x.S++[⟨k,n,x.w,uF x⟩],x.O,x.w+2⟩:=by
 unfold Xh px;rw[VQ h1,VQ h1,VP h2,VP h3,QC]
theorem x8 {k:Str}(h1:k∉named)(h2:k∉V3)(h3:k∉Wt):Xh k n x=⟨x.S++[⟨k,"",x.w,uF x⟩],x.O,x.w+1⟩:=by
 unfold Xh px;rw[VP h1,VP h1,VP h2,VP h3,QC]
theorem rY {k:Str}(h1:k∈named)(h2:k∉V3)(h3:k∈Wt):Xh k n x=⟨x.S++[⟨k,n,x.w,uF x⟩],x.O++[(x.S.length:Int)],x.w+2⟩:=by
 unfold Xh px;rw[VQ h1,VQ h1,VP h2,VQ h3]
theorem F3 {w:Nat}:Xh "else" n ⟨S,O++[a],w⟩=⟨S++[⟨"else","",w,a⟩],O++[(S.length:Int)],w+1⟩:=by
 unfold Xh px;rw[VP (show¬("else":Str)∈named by decide +kernel),VP (show¬("else":Str)∈named by decide +kernel),VQ (show("else":Str)∈V3 by decide +kernel),VQ (show("else":Str)∈Wt by decide +kernel)];simp
theorem nV {w:Nat}:Xh "end" n ⟨S,O++[a],w⟩=⟨S++[⟨"end","",w,a⟩],O,w+1⟩:=by
 unfold Xh px;rw[VP (show¬("end":Str)∈named by decide +kernel),VP (show¬("end":Str)∈named by decide +kernel),VQ (show("end":Str)∈V3 by decide +kernel),VP (show¬("end":Str)∈Wt by decide +kernel)];simp
theorem qr (h:∀o∈O,0<=o/\o<(S.length:Int))(S':List aG):∀o∈O++[(S.length:Int)],0<=o/\o<(((S++[s])++S').length:Int):=λo ho=>by
 rw[Qj,Qj,QG];rcases Qr.mp ho with z | z
 ·have:=h o z;omega
 ·rw[Qe.mp z];omega
theorem rK:aU ((S++[s])++S') (S.length:Int)=s.kind:=by rw[Qy];exact BK
mutual
theorem OW {ws VW:PJ}{lo m:Int}(hn:∀x∈VW,cP x)(hm:m<=(VW.length:Int))(YE:0<=lo):∀(t:Th)(lp:Bool)(x:fP),bO lo m lp t->qp ws x.w (cW VW t)->Ctx x lp->
 gU ws (bp t) x ⟨x.S++spT VW (x.S.length:Int) (x.w:Int) (uF x) t,x.O,x.w+(cW VW t).length⟩
 | .Wi y,lp,x,h,hw,hc=>by
   simp only[bO] at h;rw[cW] at hw;have e1:=hw.d (i:=0) rfl;have e2:=hw.d (i:=1) rfl;have s:=gC (n:=y) (vs:=[]) (i:=0) e1 (λ_=>⟨e2.1,e2.2,h⟩) (kE (nK hc.ne) (by decide +kernel) (by decide +kernel)) hc.o;rw[wk (by decide +kernel) (by decide +kernel) (by decide +kernel)] at s;simp only[bp,spT,cW];exact s
 | .call j,lp,x,h,hw,hc=>by
   simp only[bO] at h;rw[cW] at hw;have e1:=hw.d (i:=0) rfl;have e2:=hw.d (i:=1) rfl;have hj:cP (VW.getD j.toNat ""):=by
    have hl:j.toNat<VW.length:=by omega
    rw[Qh,Qd hl];exact hn _ (QP hl)
   have s:=gC (n:=VW.getD j.toNat "") (vs:=[]) (i:=0) e1 (λ_=>⟨e2.1,e2.2,hj⟩) (kE (nK hc.ne) (by decide +kernel) (by decide +kernel)) hc.o;rw[wk (by decide +kernel) (by decide +kernel) (by decide +kernel)] at s;simp only[bp,spT,cW];exact s
 | .leave,lp,x,h,hw,hc=>by
   simp only[bO] at h;rw[cW] at hw;have e1:=hw.d (i:=0) rfl;have s:=gC (n:="") (vs:=[]) (i:=0) e1 (λz=>VO z (by decide +kernel)) (Co (hc.lp h)) hc.o;rw[x8 (by decide +kernel) (by decide +kernel) (by decide +kernel)] at s;simp only[bp,spT,cW];exact s
 | .back,lp,x,h,hw,hc=>by
   rw[cW] at hw;have e1:=hw.d (i:=0) rfl;have s:=gC (n:="") (vs:=[]) (i:=0) e1 (λz=>VO z (by decide +kernel)) (kE (nK hc.ne) (by decide +kernel) (by decide +kernel)) hc.o;rw[x8 (by decide +kernel) (by decide +kernel) (by decide +kernel)] at s;simp only[bp,spT,cW];exact s
 | .V5 y A,lp,x,h,hw,hc=>by
   simp only[bO] at h;rw[cW,Qy] at hw;obtain⟨w1,w2⟩:=hw.app;obtain⟨w2,w3⟩:=w2.app;have e1:=w1.d (i:=0) rfl;have e2:=w1.d (i:=1) rfl;have s1:=gC (n:=y) (vs:=[]) (i:=0) e1 (λ_=>⟨e2.1,e2.2,h.1⟩) (kE (nK hc.ne) (by decide +kernel) (by decide +kernel)) hc.o;rw[rY (by decide +kernel) (by decide +kernel) (by decide +kernel)] at s1;have s2:=wa (lo:=lo) (m:=m) hn hm YE A true ⟨x.S++[(⟨"while",y,x.w,uF x⟩:aG)],x.O++[(x.S.length:Int)],x.w+2⟩ h.2 w2 (hc.inner _ _ λ_=>.inr rfl);have hu:uF ⟨x.S++[(⟨"while",y,x.w,uF x⟩:aG)],x.O++[(x.S.length:Int)],x.w+2⟩=(x.S.length:Int):=by unfold uF;simp
   rw[hu] at s2;have e3:=w3.d (i:=0) rfl;have s3:=gC (ws:=ws) (x:=⟨x.S++[(⟨"while",y,x.w,uF x⟩:aG)]++bY VW ((x.S++[(⟨"while",y,x.w,uF x⟩:aG)]).length:Int) ((x.w+2:Nat):Int) (x.S.length:Int) A,x.O++[(x.S.length:Int)],x.w+2+(V8 VW A).length⟩) (n:="") (vs:=[]) (i:=0) e3 (λz=>VO z (by decide +kernel)) (sJ (by rw[rK];show("while":Str)≠"if";decide +kernel)) (qr hc.o _);rw[nV] at s3;have s:=(s1.trans s2).trans s3;simp only[bp,spT,cW];rw[show 1+V0 A+1=2+V0 A by omega] at s;refine s.cast ?_;simp only[Qj,Qo,QD,Qy];push_cast;simp only[fP.mk.injEq];refine⟨?_,trivial,?_⟩
   ·rw[show(x.w:Int)+1+1=(x.w:Int)+2 by omega]
   ·omega
 | .ifs y A B,lp,x,h,hw,hc=>by
   simp only[bO] at h;rw[cW,Qy,Qy] at hw;obtain⟨w1,w2⟩:=hw.app;obtain⟨w2,w3⟩:=w2.app;obtain⟨w3,w4⟩:=w3.app;obtain⟨w4,w5⟩:=w4.app;have e1:=w1.d (i:=0) rfl;have e2:=w1.d (i:=1) rfl;have s1:=gC (n:=y) (vs:=[]) (i:=0) e1 (λ_=>⟨e2.1,e2.2,h.1⟩) (kE (nK hc.ne) (by decide +kernel) (by decide +kernel)) hc.o;rw[rY (by decide +kernel) (by decide +kernel) (by decide +kernel)] at s1;generalize hs0:(⟨"if",y,x.w,uF x⟩:aG)=s0 at s1;have k0:s0.kind="if":=by rw[← hs0]
   have s2:=wa (lo:=lo) (m:=m) hn hm YE A lp ⟨x.S++[s0],x.O++[(x.S.length:Int)],x.w+2⟩ h.2.1 w2 (hc.inner _ _ λz=>.inl z);have hu:uF ⟨x.S++[s0],x.O++[(x.S.length:Int)],x.w+2⟩=(x.S.length:Int):=by unfold uF;simp
   rw[hu] at s2;have e3:=w3.d (i:=0) rfl;generalize Zy:bY VW ((x.S++[s0]).length:Int) ((x.w+2:Nat):Int) (x.S.length:Int) A=SA at s2;have lSA:SA.length=V0 A:=by rw[← Zy,cj]
   have s3:=gC (ws:=ws) (x:=(⟨x.S++[s0]++SA,x.O++[(x.S.length:Int)],x.w+2+(V8 VW A).length⟩:fP)) (n:="") (vs:=[]) (i:=0) e3 (λz=>VO z (by decide +kernel)) (Dt (by rw[rK,k0])) (qr hc.o _);rw[F3] at s3;have c3:=(hc.more (s0::SA) (x.w+2+(V8 VW A).length)).inner (⟨"else","",((x.w+2+(V8 VW A).length:Nat):Int),(x.S.length:Int)⟩:aG) (x.w+2+(V8 VW A).length+1) (lp':=lp) λz=>.inl z;have el:x.S++s0::SA=x.S++[s0]++SA:=by simp
   dsimp only at c3;rw[el] at c3;generalize YB:(⟨"else","",((x.w+2+(V8 VW A).length:Nat):Int),(x.S.length:Int)⟩:aG)=s1' at s3 c3;have k1:s1'.kind≠"if":=by rw[← YB];show("else":Str)≠"if";decide +kernel
   have s4:=wa (lo:=lo) (m:=m) hn hm YE B lp _ h.2.2 w4 c3;have hu2:uF ⟨x.S++[s0]++SA++[s1'],x.O++[((x.S++[s0]++SA).length:Int)],x.w+2+(V8 VW A).length+1⟩=((x.S++[s0]++SA).length:Int):=by unfold uF;simp
   rw[hu2] at s4;have e5:=w5.d (i:=0) rfl;dsimp only at s4;generalize hSB:bY VW ((x.S++[s0]++SA++[s1']).length:Int) ((x.w+2+(V8 VW A).length+1:Nat):Int) ((x.S++[s0]++SA).length:Int) B=SB at s4;have s5:=gC (ws:=ws) (x:=(⟨x.S++[s0]++SA++[s1']++SB,x.O++[((x.S++[s0]++SA).length:Int)],x.w+2+(V8 VW A).length+1+(V8 VW B).length⟩:fP)) (n:="") (vs:=[]) (i:=0) e5 (λz=>VO z (by decide +kernel)) (sJ (by rw[rK];exact k1)) (qr (by
    intro o ho;have:=(hc.more (s0::SA) 0).o o ho;dsimp only at this;rw[el] at this;exact this) _)
   rw[nV] at s5;have s:=(((s1.trans s2).trans s3).trans s4).trans s5;simp only[bp,spT,cW];rw[show 1+V0 A+1+V0 B+1=3+V0 A+V0 B by omega] at s;refine s.cast ?_;subst hs0 YB;simp only[Qj,Qo,QD,Qy,lSA] at Zy hSB ⊢;rw[← Zy,← hSB];push_cast;simp only[fP.mk.injEq];refine⟨?_,trivial,?_⟩
   ·rw[show(x.w:Int)+1+1=(x.w:Int)+2 by omega,show(x.w:Int)+2+((V8 VW A).length:Int)+1=(x.w:Int)+3+((V8 VW A).length:Int) by omega,show(x.S.length:Int)+(1+((V0 A:Int)+1))=(x.S.length:Int)+2+(V0 A:Int) by omega,show(x.S.length:Int)+(1+(V0 A:Int))=(x.S.length:Int)+1+(V0 A:Int) by omega]
   ·omega
theorem wa {ws VW:PJ}{lo m:Int}(hn:∀x∈VW,cP x)(hm:m<=(VW.length:Int))(YE:0<=lo):∀(ts:List Th)(lp:Bool)(x:fP),bz lo m lp ts->qp ws x.w (V8 VW ts)->Ctx x lp->
 gU ws (V0 ts) x ⟨x.S++bY VW (x.S.length:Int) (x.w:Int) (uF x) ts,x.O,x.w+(V8 VW ts).length⟩
 | [],lp,x,h,hw,hc=>by
   simp only[V0,bY,V8];refine gU.refl.cast ?_;simp
 | t::ts,lp,x,h,hw,hc=>by
   simp only[bz] at h;rw[V8] at hw;obtain⟨w1,w2⟩:=hw.app;have s1:=OW hn hm YE t lp x h.1 w1 hc;have s2:=wa hn hm YE ts lp ⟨x.S++spT VW (x.S.length:Int) (x.w:Int) (uF x) t,x.O,x.w+(cW VW t).length⟩ h.2.2 w2 (hc.more _ _);have s:=s1.trans s2;simp only[V0,bY,V8];refine s.cast ?_;simp only[Qj,ka,Qy];push_cast;simp only[fP.mk.injEq];refine⟨trivial,trivial,?_⟩;omega
end
end
def iu (VW:PJ)(a w:Int):List (Str×List Th)->List aG
 | []=>[]
 | z::r=>[⟨"part",z.1,w, -1⟩]++(bY VW (a+1) (w+2) a z.2++([⟨"end","",w+2+(V8 VW z.2).length,a⟩]++iu VW (a+2+V0 z.2) (w+3+(V8 VW z.2).length) r))
def da:List (Str×List Th)->Nat
 | []=>0
 | z::r=>2+V0 z.2+da r
theorem xE {VW:PJ}:∀(zs:List (Str×List Th))(a w:Int),(iu VW a w zs).length=da zs
 | [],_,_=>rfl
 | z::r,a,w=>by
   rw[iu,da];simp only[Qj,cj,xE r,Qo,QD];omega
theorem Ia {ws VW:PJ}{m:Int}(hn:∀x∈VW,cP x)(hm:m<=(VW.length:Int)):∀(zs:List (Str×List Th))(x:fP),(∀z∈zs,cP z.1/\∃lo,0<=lo/\bz lo m false z.2)->qp ws x.w (zs.flatMap (fY VW))->x.O=[]->
 gU ws (da zs) x ⟨x.S++iu VW (x.S.length:Int) (x.w:Int) zs,[],x.w+(zs.flatMap (fY VW)).length⟩
 | [],x,h,hw,hc=>by
   refine gU.refl.cast ?_;simp[iu,← hc]
 | z::r,x,h,hw,hc=>by
   obtain⟨S,O,w⟩:=x;obtain rfl:O=[]:=hc;obtain⟨hz,lo,YE,V4⟩:=h z Qk;rw[Q1] at hw;obtain⟨hw,hwr⟩:=hw.app;rw[show fY VW z=S2 "part" z.1++(V8 VW z.2++S1 "end") by unfold fY;rw[Qy]] at hw;obtain⟨w1,w2⟩:=hw.app;obtain⟨w2,w3⟩:=w2.app;dsimp only at w1 w2 w3 hwr ⊢;have e1:=w1.d (i:=0) rfl;have e2:=w1.d (i:=1) rfl;have s1:=gC (x:=(⟨S,[],w⟩:fP)) (n:=z.1) (vs:=[]) (i:=0) e1 (λ_=>⟨e2.1,e2.2,hz⟩) (show gi "part" []=true by decide +kernel) (λo ho=>by cases ho);rw[rY (by decide +kernel) (by decide +kernel) (by decide +kernel)] at s1;dsimp only at s1;rw[show uF ⟨S,[],w⟩= -1 from rfl] at s1;generalize hs0:(⟨"part",z.1,(w:Int), -1⟩:aG)=s0 at s1;have k0:s0.kind="part":=by rw[← hs0]
   have c1:Ctx ⟨S++[s0],[]++[(S.length:Int)],w+2⟩ false:=⟨by simp,λo ho=>by
    have e:o=(S.length:Int):=by simpa using ho
    show _/\o<((S++[s0]).length:Int);rw[Qj,QG,e];omega,λe=>by cases e⟩
   have s2:=wa (lo:=lo) (m:=m) hn hm YE z.2 false _ V4 w2 c1;rw[show uF ⟨S++[s0],[]++[(S.length:Int)],w+2⟩=(S.length:Int) from rfl] at s2;dsimp only at s2;generalize Zy:bY VW ((S++[s0]).length:Int) ((w+2:Nat):Int) (S.length:Int) z.2=SA at s2;have lSA:SA.length=V0 z.2:=by rw[← Zy,cj]
   have e3:=w3.d (i:=0) rfl;have s3:=gC (ws:=ws) (x:=(⟨S++[s0]++SA,[]++[(S.length:Int)],w+2+(V8 VW z.2).length⟩:fP)) (n:="") (vs:=[]) (i:=0) e3 (λz=>VO z (by decide +kernel)) (sJ (by rw[rK,k0];decide +kernel)) (qr (λo ho=>by cases ho) _);rw[nV] at s3;have s4:=Ia hn hm r ⟨S++[s0]++SA++[⟨"end","",((w+2+(V8 VW z.2).length:Nat):Int),(S.length:Int)⟩],[],w+2+(V8 VW z.2).length+1⟩ (λy hy=>h y (Qi _ hy)) (by
    have e:w+2+(V8 VW z.2).length+1=w+(fY VW z).length:=by unfold fY;simp only[Qj,Qo,QD];omega
    dsimp only;rw[e];exact hwr) rfl
   have s:=((s1.trans s2).trans s3).trans s4;rw[da,show 2+V0 z.2+da r=1+V0 z.2+1+da r by omega];refine s.cast ?_;subst hs0;dsimp only;rw[iu,Q1];have lp:(fY VW z).length=3+(V8 VW z.2).length:=by unfold fY;simp only[Qj,Qo,QD];omega
   simp only[Qj,Qo,QD,Qy,lSA,lp] at Zy ⊢;rw[← Zy];push_cast;simp only[fP.mk.injEq];refine⟨?_,trivial,?_⟩
   ·rw[show(w:Int)+1+1=(w:Int)+2 by omega,show(w:Int)+2+((V8 VW z.2).length:Int)+1=(w:Int)+3+((V8 VW z.2).length:Int) by omega,show(S.length:Int)+(1+((V0 z.2:Int)+1))=(S.length:Int)+2+(V0 z.2:Int) by omega]
   ·omega
abbrev av (VW:PJ)(Ls:List (List Th)):List aG:=iu VW 0 0 (VW.zip Ls)
theorem tY (h:cy VW Ls):gU (jP VW Ls) (da (VW.zip Ls)) ⟨[],[],0⟩ ⟨av VW Ls,[],(jP VW Ls).length⟩:=by
 have:=Ia (ws:=jP VW Ls) (VW:=VW) (m:=(Ls.length:Int)) h.nm (by rw[h.l];omega) (VW.zip Ls) ⟨[],[],0⟩ (λz hz=>by
  obtain⟨i,hi⟩:=Qu.mp hz;obtain⟨h1,h2⟩:=kA hi;exact⟨h.nm z.1 (Qm h1),(i:Int),by omega,h.ok i z.2 h2⟩) (λi v hv=>by
   show(jP VW Ls)[0+i]?=some v;rw[So];exact hv) rfl
 refine this.cast ?_;simp[av,jP]
structure lu (K:Vr)(mg:Pz):Prop where
 most:∃t,mg "MOST_LETTERS"=some (.int 8 t)
 nost:∃t,mg "NO_STEP"=some (.int (-1) t)
 named:sN K mg "NAMED" named
 Wh:sN K mg "SENTENCES" Wh
 Wt:sN K mg "OPENING" Wt
 V3:sN K mg "CLOSING" V3
abbrev iR:PJ:=["kind","name","word","within"]
theorem jH (h:decide (x∈iR)=true):x∈iR:=VR h
def NH (s:aG):kB:=[("kind",ar.at_ s.kind),("name",ar.at_ s.name),("word",ag.at_ s.word),("within",ag.at_ s.within)]
def bH (C:Addr):Rep aG:=⟨λK R v s=>∃x dx vs,v= .ref x/\R x=some (.ins C dx vs)/\gM (NH s) K R vs,λs ⟨x,dx,vs,e,h1,h2⟩=>⟨x,dx,vs,e,s _ _ h1,h2.mono s⟩⟩
variable {C:Addr}
theorem g6 (hC:bI X.K C iR)(he:EV X e Γ (bH C) s Γ1)(hb:fD X e "kind":=by rfl):EV X (.Attribute e "kind" pos) Γ ar s.kind Γ1:=jS hC (jH (by decide)) he (λK R v ⟨x,dx,vs,e,h1,h2⟩=>by obtain⟨u,q1,q2⟩:=h2.get (f:="kind") rfl;exact⟨x,dx,vs,u,e,h1,q1,q2⟩) hb
theorem qv (hC:bI X.K C iR)(he:EV X e Γ (bH C) s Γ1)(hb:fD X e "name":=by rfl):EV X (.Attribute e "name" pos) Γ ar s.name Γ1:=jS hC (jH (by decide)) he (λK R v ⟨x,dx,vs,e,h1,h2⟩=>by obtain⟨u,q1,q2⟩:=h2.get (f:="name") rfl;exact⟨x,dx,vs,u,e,h1,q1,q2⟩) hb
theorem Lf (hC:bI X.K C iR)(he:EV X e Γ (bH C) s Γ1)(hb:fD X e "word":=by rfl):EV X (.Attribute e "word" pos) Γ ag s.word Γ1:=jS hC (jH (by decide)) he (λK R v ⟨x,dx,vs,e,h1,h2⟩=>by obtain⟨u,q1,q2⟩:=h2.get (f:="word") rfl;exact⟨x,dx,vs,u,e,h1,q1,q2⟩) hb
theorem qK (hC:bI X.K C iR)(he:EV X e Γ (bH C) s Γ1)(hb:fD X e "within":=by rfl):EV X (.Attribute e "within" pos) Γ ag s.within Γ1:=jS hC (jH (by decide)) he (λK R v ⟨x,dx,vs,e,h1,h2⟩=>by obtain⟨u,q1,q2⟩:=h2.get (f:="within") rfl;exact⟨x,dx,vs,u,e,h1,q1,q2⟩) hb
abbrev tL:Stmt:=match top GF with
 | .ClassDef _ _ _ b _ _ _ _ _ _ _=>b.getD 0 (.Pass ⟨0,0,0,0⟩)
 | s=>s
abbrev wu:PJ:=["self","kind","name","word","within"]
theorem IE:bV wu wu (ao tL):=Xt
def N6 (C0:Addr):Bt:=λK C ps Pd=>C=C0/\∃s:aG,ps=[⟨ar,s.kind⟩,⟨ar,s.name⟩,⟨ag,s.word⟩,⟨ag,s.within⟩]/\Pd=λfs=>fs=NH s
theorem Mg {C0:Addr}(HC:bI K C0 iR)(F:dZ K "__init__" "Step.__init__" tL f fd):eV P w K mg base eX 1 f fd wu (yP (N6 C0) K):=by
 have nd:=IE.nd;refine Ac F IE (λC qs Pd ⟨_,m,e,_⟩=>by rw[e];rfl) (λV2 A outer st H E C x dx qs Pd hr hS=>?_);obtain⟨rfl,s,rfl,rfl⟩:=hS;refine ai (iF 0 HC (jH (by decide)) (aa 1 rfl) rfl rfl (by show 0<1000;decide) ?_);refine ai (iF 0 HC (jH (by decide)) (aa 2 rfl) rfl rfl (by show 1<1000;decide) ?_);refine ai (iF 0 HC (jH (by decide)) (aa 3 rfl) rfl rfl (by show 2<1000;decide) ?_);exact aj (iF 0 HC (jH (by decide)) (aa 4 rfl) rfl rfl (by show 3<1000;decide) ⟨_,rfl,rfl⟩)
abbrev JX:Stmt:=top zY
def NI:cS:=λK ps T=>∃x:Str,ps=[⟨ar,x⟩]/\cP x/\T=cU K bM (· =true)
theorem Ko (h:cP x)(hc:c∈g9 x):∃n,c=⟨#[n]⟩/\97<=n/\n<=122:=by
 unfold g9 at hc;obtain⟨i,hi,rfl⟩:=Qw.mp hc;have hi:i<x.cps.size:=by simpa using hi
 refine⟨x.cps.getD i 0,rfl,h.az _ ?_⟩;rw[Array.getD_eq_getD_getElem?];simp[hi]
theorem LX (h:97<=n/\n<=122):(!decide ((⟨#[n]⟩:Str).cps.toList<("a":Str).cps.toList))=true/\(!decide (("z":Str).cps.toList<(⟨#[n]⟩:Str).cps.toList))=true:=by
 have ea:("a":Str).cps.toList=[97]:=by decide +kernel
 have ez:("z":Str).cps.toList=[122]:=by decide +kernel
 rw[ea,ez];have e1:¬([n]:List Nat) < [97]:=by intro z;cases z with
  | rel h1=>omega
  | cons h1=>cases h1
 have e2:¬([122]:List Nat) < [n]:=by intro z;cases z with
  | rel h1=>omega
  | cons h1=>cases h1
 exact⟨by rw[show(⟨#[n]⟩:Str).cps.toList=[n] from rfl,VU e1];rfl,by rw[show(⟨#[n]⟩:Str).cps.toList=[n] from rfl,VU e2];rfl⟩
theorem MM (M:cD K mg)(M2:lu K mg)(Df:Def K mg "is_name" JX ["word"]):aE P w K mg base "is_name" 1 (aM NI K):=by
 have Xq:Qz [("sign":Str)]:=by decide
 refine bD (N:=["word"]) Df (λf V2 A outer s H E qs T nd hr hS=>?_);obtain⟨x,rfl,hx,rfl⟩:=hS;obtain⟨t,hmo⟩:=M2.most;have hl:x.cps.size<=S8:=Sh hx.l8 (by decide);have hasc:x.cps.all (· < 128)=true:=by
  rw[Array.all_eq_true];intro i hi;have:=hx.az x.cps[i] (by simp);exact VT (by omega)
 have l1:=hx.l1;have l8:=hx.l8;refine aj (aN (gT (nu jJ jJ ev_int (GI M.len (aa 0 rfl) hl) (dO hmo)) (λ_=>iG (jI M.all (ba.im (bE (own:=["sign"]) (fr:=[]) (ix:=[]) (ra:=ar) (rb:=bM) (p:=λ_=>true) (f:=λ_=>true) (bA (so:=ao JX) (N0:=["word"]) rfl rfl (λx h=>bb h) (by decide +kernel)) (A8 (aa 0 rfl) hasc hl)
  (λC s H ex=>aP 0) (λx=>⟨.inr rfl,trivial⟩) (λC s H ex c hc=>dk) (λC s H ex c hc _=>?_)))))) ?_)
 ·obtain⟨n,rfl,hn⟩:=Ko hx hc;obtain⟨q1,q2⟩:=LX hn;exact EV.cast (nu EF EF ay (aa 0 rfl) ay) (by rw[q1,q2];rfl)
 ·have e1:decide ((1:Int)<=(x.length:Int))=true:=VT (by omega);have e2:decide ((x.length:Int)<=8)=true:=VT (by omega);rw[e1,e2];simp
abbrev Oe:Stmt:=top rM
def NR:cS:=λK ps T=>∃(ws:PJ)(i:Nat),ps=[⟨ae ar,ws⟩,⟨ag,(i:Int)⟩]/\i+1<ws.length/\cP (ws.getD (i+1) "")/\T=cU K ar (· =ws.getD (i+1) "")
theorem Lh (M:cD K mg)(CI:aE P w K mg base "is_name" 1 (aM NI K))(Df:Def K mg "name_behind" Oe ["words","word"]):aE P w K mg base "name_behind" 2 (aM NR K):=by
 refine bD (N:=["words","word"]) Df (λf V2 A outer s H E qs T nd hr hS=>?_);obtain⟨ws,i,rfl,hi,hn,rfl⟩:=hS;have WQ:cE ws ((i:Int)+1)=some (ws.getD (i+1) ""):=bw (xs:=ws) (i:=((i:Int)+1)) "" (by omega) (by omega);refine ai (a8 (TW.tv (gu (aA fT (ck (aa 1 rfl) ev_int) (dy M.len (aa 0 rfl))) (λ_=>fF (dh (bL (aI CI hr (ah (a9 (aa 0 rfl) (ck (aa 1 rfl) ev_int) WQ) ax) ⟨_,rfl,hn,rfl⟩)))))) (λh=>?_) (λh=>aF ?_))
 ·rw[VU (show¬(i:Int)+1=(ws.length:Int) by omega)] at h;cases h
 ·exact aj (aN (a9 (aa 0 rfl) (ck (aa 1 rfl) ev_int) WQ) rfl)
abbrev Nx:Stmt:=top wX
def Ni:cS:=λK ps T=>∃(k:Str)(ks:PJ),ps=[⟨ar,k⟩,⟨ae ar,ks⟩]/\T=cU K bM (· =gi k ks)
theorem yS (h:ks≠[]):cE ks (-1)=some (ks.getLast?.getD ""):=by
 obtain⟨l,x,rfl⟩:∃l x,ks=l++[x]:=⟨ks.dropLast,ks.getLast h,(Q3 h).symm⟩;unfold cE;rw[show ij (l++[x]).length (-1)=some l.length by unfold ij;simp;omega];simp
theorem Mp (M2:lu K mg)(Df:Def K mg "may_stand" Nx ["kind","opened"]):aE P w K mg base "may_stand" 1 (aM Ni K):=by
 refine bD (N:=["kind","opened"]) Df (λf V2 A outer s H E qs T nd hr hS=>?_);obtain⟨k,ks,rfl,rfl⟩:=hS;refine ai (a8 (dh (wW (aa 1 rfl))) (λh=>?_) (λh=>aF ?_))
 ·have h:ks.isEmpty=true:=by simpa using h
  exact aj (aN (fu cm (aa 0 rfl) ay) (by unfold gi;rw[VQ h]))
 have h0:¬ks.isEmpty=true:=by simpa using h
 have Wx:ks≠[]:=λz=>h0 (by rw[z];rfl);refine ai (a8 (aA cm (aa 0 rfl) ay) (λh=>?_) (λh=>aF ?_))
 ·have h:k="leave":=VR h;exact aj (aN (fu vf ay (aa 1 rfl)) (by unfold gi;rw[VP h0,VQ h]))
 have h1:¬k="leave":=VS h;refine ai (a8 (aA cm (aa 0 rfl) ay) (λh=>?_) (λh=>aF ?_))
 ·have h:k="else":=VR h;exact aj (aN (fu cm (a9 (aa 1 rfl) (cO ev_int) (yS Wx)) ay) (by unfold gi;rw[VP h0,VP h1,VQ h]))
 have h2:¬k="else":=VS h;refine ai (a8 (aA cm (aa 0 rfl) ay) (λh=>?_) (λh=>aF ?_))
 ·have h:k="end":=VR h;exact aj (aN (fu uz (a9 (aa 1 rfl) (cO ev_int) (yS Wx)) ay) (by unfold gi;rw[VP h0,VP h1,VP h2,VQ h]))
 have h3:¬k="end":=VS h;exact aj (aN (fu lr (aa 0 rfl) (h8 M2.Wh)) (by unfold gi;rw[VP h0,VP h1,VP h2,VP h3]))
theorem wj (ws:PJ):∀i,(Wm (jQ ws) i ⟨[],[],0⟩).S.length=i/\i<=(Wm (jQ ws) i ⟨[],[],0⟩).w/\(Wm (jQ ws) i ⟨[],[],0⟩).O.length<=i
 | 0=>⟨rfl,Sg _,Sg _⟩
 | i+1=>by
   obtain⟨a,b,c⟩:=wj ws i;rw[Wm];generalize Wm (jQ ws) i ⟨[],[],0⟩=x at a b c;unfold jQ Xh;refine⟨by rw[Qj,a];rfl,?_,?_⟩
   ·dsimp only;split<;>omega
   ·rw[Qj];have h1:(if ym ws x∈V3 then x.O.dropLast else x.O).length<=x.O.length:=by
     split
     ·rw[RH];omega
     ·exact Sg _
    have h2:(if ym ws x∈Wt then[(x.S.length:Int)] else[]).length<=1:=by split<;>simp
    omega
theorem Eg (h:O≠[]):cE O (-1)=some (O.getLast?.getD (-1)):=by
 obtain⟨l,x,rfl⟩:∃l x,O=l++[x]:=⟨O.dropLast,O.getLast h,(Q3 h).symm⟩;unfold cE;rw[show ij (l++[x]).length (-1)=some l.length by unfold ij;simp;omega];simp
theorem DW (h:O≠[]):O[O.length-1]?=some (O.getLast?.getD (-1)):=by
 obtain⟨l,x,rfl⟩:∃l x,O=l++[x]:=⟨O.dropLast,O.getLast h,(Q3 h).symm⟩;simp
structure zC (P:Tb)(w:World)(K:Vr)(mg:Pz)(base:Heap)(C:Addr):Prop where
 cl:bI K C iR
 ex:∃fi XO,Mk K C fi/\eV P w K mg base eX 1 fi XO wu (yP (N6 C) K)/\Binds K XO wu []
 mg:mg "Step"=some (.ref C)
theorem FL {p:Pos}(G:zC X.prog X.w X.K X.mg X.base C)(hr:bG 2 X.A)(ha:HA X (e::es) Γ [⟨ar,s.kind⟩,⟨ar,s.name⟩,⟨ag,s.word⟩,⟨ag,s.within⟩] Γ1)(hg:Gl X "Step":=by rfl)(he:du X e es:=by rfl)(Wg:fm X pos es:=by rfl):EV X (.Call (.Name "Step" p) (e::es) [] pos) Γ (bH C) s Γ1:=by
 obtain⟨fi,XO,MK,SI,bi⟩:=G.ex;exact yn MK SI hr G.mg bi ha ⟨rfl,s,rfl,rfl⟩ (λfs R x dx vs hP h1 h2=>by subst hP;exact⟨x,dx,vs,rfl,h2,h1⟩) hg (by decide) he Wg
abbrev Km:Stmt:=top FT
abbrev NG:PJ:=["text","words","steps","opened","word","kind","name"]
def NO (C:Addr):cS:=λK ps T=>∃(ws:PJ)(n:Nat)(S:List aG),ps=[⟨ar,Vh " " ws⟩]/\ws≠[]/\ws.length<=240/\(∀w∈ws,gJ w)/\gU ws n ⟨[],[],0⟩ ⟨S,[],ws.length⟩/\T=cU K (ae (bH C)) (· =S)
theorem Ea (h:∀w∈ws,gJ w)(hl:ws.length<=240):(Vh " " ws).length<=S8:=by
 have:=joinOk_length (yx hl h);rwa [yL] at this
theorem L9 (M:cD K mg)(M2:lu K mg)(G:zC P w K mg base C)(CM:aE P w K mg base "may_stand" 1 (aM Ni K))(CN:aE P w K mg base "name_behind" 2 (aM NR K))(Df:Def K mg "read" Km ["text"]):aE P w K mg base "read" 3 (aM (NO C) K):=by
 have Xq:Qz [("number":Str),"steps"]:=by decide
 have CM:=CM.mono (show 1<=2 by decide);refine bD (N:=NG) (k:=2) Df (λf V2 A outer s H E qs T nd hr hS=>?_);obtain⟨ws,n,S,rfl,Wx,hl,hw,Zl,rfl⟩:=hS;obtain⟨t,Yi⟩:=M2.nost;have XY:Vj (Vh " " ws) " "=ws:=by
  rw[DC];exact yX Wx λw h=>(hw w h).f
 generalize hj:Vh " " ws=txt at XY;have htl:txt.length<=S8:=by rw[← hj];exact Ea hw hl
 refine ai (bg 1 (y:=ws) (EV.cast (ba.im (A9 (aa 0 rfl) ay (by decide +kernel) htl (by rw[XY];exact aT (by omega)))) XY) ?_);refine ai (cR 2 (r:=bH C) (ys:=[]) (aR aL (Si _)) ?_);refine ai (cR 3 (r:=ag) (ys:=[]) (aR aL (Si _)) ?_);refine ai (bg 4 (y:=(0:Int)) ev_int ?_);have hinv:=wj ws;have WN:∀i,Wm (jQ ws) (i+1) ⟨[],[],0⟩=jQ ws (Wm (jQ ws) i ⟨[],[],0⟩):=λi=>rfl;have h0:Wm (jQ ws) 0 ⟨[],[],0⟩=⟨[],[],0⟩:=rfl;obtain⟨W2,hrd⟩:=Zl;generalize hx:(λi=>Wm (jQ ws) i ⟨[],[],0⟩)=x at *;have hxi:∀i,Wm (jQ ws) i ⟨[],[],0⟩=x i:=λi=>by rw[← hx]
 simp only[hxi] at hinv WN h0 W2 hrd;refine bS (N1:=λΓ=>∃e5 e6,Γ=[.im ar txt,.im (ae ar) ws,.mu (bH C) S,.mu ag [],aJ (ws.length:Int),e5,e6]) (ot (λk Γ=>∃i,k+i=n/\∃e5 e6,Γ=[.im ar txt,.im (ae ar) ws,.mu (bH C) (x i).S,.mu ag (x i).O,aJ ((x i).w:Int),e5,e6]) (m0:=n) ⟨0,rfl,_,_,by rw[h0];rfl⟩ (λk Γ hI=>?_)) ?_
 ·obtain⟨i,hki,e5,e6,rfl⟩:=hI;obtain⟨iS,iw,iO⟩:=hinv i;refine⟨decide (((x i).w:Int)<(ws.length:Int)),_,aA i9 (aa 4 rfl) (dy M.len (aa 1 rfl)),λh=>?_,λh=>?_⟩
  ·have h:((x i).w:Int)<(ws.length:Int):=VR h;have Xm:i<n:=by
    rcases Sm i n with z | z
    ·exact z
    ·exfalso;have:i=n:=by omega
     rw[this,W2] at h;exact VO h (Int.lt_irrefl _)
   obtain⟨rw_,XE,Z2,ro⟩:=hrd i Xm;have hs:=WN i;generalize x i=y at iS iw iO rw_ XE Z2 ro hs h;obtain⟨Sy,Oy,wy⟩:=y;dsimp only at iS iw iO rw_ XE Z2 ro h ⊢;have WQ:cE ws (wy:Int)=some (ws.getD wy ""):=bw (xs:=ws) (i:=(wy:Int)) "" (by omega) h;refine ai (bg 5 (y:=ws.getD wy "") (a9 (aa 1 rfl) (aa 4 rfl) WQ) ?_);rw[show jQ ws ⟨Sy,Oy,wy⟩=Xh (ws.getD wy "") (ws.getD (wy+1) "") ⟨Sy,Oy,wy⟩ from rfl] at hs;change gi (ws.getD wy "") (Oy.map (aU Sy))=true at XE;change ws.getD wy ""∈named->wy+1<ws.length/\cP (ws.getD (wy+1) "") at Z2;generalize hkd:ws.getD wy ""=kd at XE Z2 hs;have cc:(Oy.filter λ_=>true).map (aU Sy)=Oy.map (aU Sy):=by rw[QZ.mpr λ_ _=>rfl]
   refine ai (a8 (TV.WT (FP (i:=2) (j:=3) (by decide) rfl rfl (aT (by omega)) (aT (by omega))) (dh (bL (aI CM hr (ah (aa 5 rfl) (ah (ba.im (bE (own:=["number"]) (fr:=["steps"]) (ix:=[2]) (ra:=ag) (rb:=ar) (p:=λ_=>true) (f:=aU Sy) (bA (so:=ao Km) (N0:=NG) rfl rfl (λx h=>bb h) (by decide +kernel)) (br (aa 3 rfl))
    (λC s H ex=>aP 0) (λx=>⟨.inr rfl,.inl rfl,trivial⟩) (λC s H ex c hc=>dk) (λC' s H ex o ho _=>g6 (C:=C) G.cl (a9 (aa 1 rfl) (aa 0 rfl) (bw (xs:=Sy) (i:=o) dq (ro o ho).1 (ro o ho).2))))) ax)) ⟨kd,Oy.map (aU Sy),by rw[cc],rfl⟩)))) (λhh=>?_) (λ_=>aF ?_))
   ·rw[XE] at hh;cases hh
   have ZL:kd∈named->wy+1<ws.length/\cP (ws.getD (wy+1) ""):=Z2;refine ai (bg 6 (y:=if kd∈named then ws.getD (wy+1) "" else "") (EV.cast (lH (aA lr (aa 5 rfl) (h8 M2.named)) (λhh=>aI CN hr (ah (aa 1 rfl) (ah (aa 4 rfl) ax)) ⟨ws,wy,rfl,(ZL (VR hh)).1,(ZL (VR hh)).2,rfl⟩) (λ_=>ay)) (by by_cases z:kd∈named<;>simp[z])) ?_)
   generalize hnam:(if kd∈named then ws.getD (wy+1) "" else "")=YQ;have hlast:(if(!Oy.isEmpty)=true then Oy.getLast?.getD (-1) else -1)=Oy.getLast?.getD (-1):=by cases Oy<;>rfl
   refine ai (eT 2 (y:=(⟨kd,YQ,(wy:Int),Oy.getLast?.getD (-1)⟩:aG)) (FL (s:=⟨kd,YQ,(wy:Int),Oy.getLast?.getD (-1)⟩) G hr (ah (aa 5 rfl) (ah (aa 6 rfl) (ah (aa 4 rfl) (ah (EV.cast (lH (qF 3 rfl) (λhh=>Ba 3 (cO ev_int) rfl rfl (Eg (λz=>by rw[z] at hh;cases hh))) (λ_=>dO Yi)) hlast) ax))))) rfl rfl (Sj (show _<=1000 by omega) (by decide)) ?_)
   change WS _ _ [.im ar txt,.im (ae ar) ws,.mu (bH C) (Sy++[⟨kd,YQ,(wy:Int),Oy.getLast?.getD (-1)⟩]),.mu ag Oy,aJ (wy:Int),.im ar kd,.im ar YQ] _ _;have hS':(Xh kd (ws.getD (wy+1) "") ⟨Sy,Oy,wy⟩).S=Sy++[⟨kd,YQ,(wy:Int),Oy.getLast?.getD (-1)⟩]:=by unfold Xh px;dsimp only;rw[hnam]
   rw[← hS'];have hSl:(Xh kd (ws.getD (wy+1) "") ⟨Sy,Oy,wy⟩).S.length=Sy.length+1:=by rw[hS',Qj];rfl
   have hOe:(Xh kd (ws.getD (wy+1) "") ⟨Sy,Oy,wy⟩).O=(if kd∈V3 then Oy.dropLast else Oy)++(if kd∈Wt then[(Sy.length:Int)] else[]):=rfl;have hwe:(Xh kd (ws.getD (wy+1) "") ⟨Sy,Oy,wy⟩).w=wy+(if kd∈named then 2 else 1):=rfl;generalize Xh kd (ws.getD (wy+1) "") ⟨Sy,Oy,wy⟩=z at hs hS' hSl hOe hwe;refine bS (N1:=λΓ=>Γ=[.im ar txt,.im (ae ar) ws,.mu (bH C) z.S,.mu ag (if kd∈V3 then Oy.dropLast else Oy),aJ (wy:Int),.im ar kd,.im ar YQ]) (a8 (aA lr (aa 5 rfl) (h8 M2.V3)) (λhh=>?_) (λhh=>aF ?_)) ?_
   ·have hh:kd∈V3:=VR hh;have hOne:Oy≠[]:=λe=>by
     rw[e] at XE;have:kd="part":=VR XE;rw[this] at hh;exact VO hh (by decide +kernel)
    refine aj (Be (wg 3 rfl (DW hOne)) ?_);rw[VQ hh];rfl
   ·have hh:¬kd∈V3:=VS hh;rw[VP hh]
   rintro _ rfl;have hOl:(if kd∈V3 then Oy.dropLast else Oy).length<=Oy.length:=by
    split
    ·rw[RH];omega
    ·exact Sg _
   generalize (if kd∈V3 then Oy.dropLast else Oy)=O1 at hOe hOl;refine bS (N1:=λΓ=>Γ=[.im ar txt,.im (ae ar) ws,.mu (bH C) z.S,.mu ag z.O,aJ (wy:Int),.im ar kd,.im ar YQ]) (a8 (aA lr (aa 5 rfl) (h8 M2.Wt)) (λhh=>?_) (λhh=>aF ?_)) ?_
   ·have hh:kd∈Wt:=VR hh;refine aj (eT 3 (EV.cast (y':=(Sy.length:Int)) (iV (Ge 2 M.len rfl) ev_int) (by omega)) rfl rfl (Sj (show _<=1000 by omega) (by decide)) ?_);rw[hOe,VQ hh];rfl
   ·have hh:¬kd∈Wt:=VS hh;rw[hOe,VP hh,QC]
   rintro _ rfl;refine aj (Ke 4 (c:=if kd∈named then 2 else 1) (EV.cast (lH (aA lr (aa 5 rfl) (h8 M2.named)) (λ_=>ev_int) (λ_=>ev_int)) (by by_cases z:kd∈named<;>simp[z])) rfl ⟨k-1,by omega,i+1,by omega,.im ar kd,.im ar YQ,?_⟩)
   rw[hs,hwe];by_cases q:kd∈named
   ·rw[VQ q,VQ q];rfl
   ·rw[VP q,VP q];rfl
  ·have h:¬((x i).w:Int)<(ws.length:Int):=VS h;have Xm:i=n:=by
    rcases Sm i n with z | z
    ·exact VO (by have:=(hrd i z).w;omega) h
    ·omega
   subst Xm;refine⟨e5,e6,?_⟩;rw[W2]
 rintro _ ⟨e5,e6,rfl⟩;have hSn:S.length<=240:=by
  obtain⟨a,b,c⟩:=hinv n;rw[W2] at a b;dsimp only at a b;omega
 refine ai (a8 (qF 3 rfl) (λhh=>by cases hh) (λ_=>aF ?_));refine WS.freeze 2 rfl (aT (by omega)) ?_;exact aj (aN (aa 2 rfl) rfl)
theorem ru {k:Nat}(hr:bG k A):A.units+1<cLine:=by have:=hr.units;omega
def gN (F:PR)(z:Int×aG):PR:=if z.2.kind∈V3 then jk F z.2.within z.1 else F
def eK (S:List aG):PR:=(nums S).foldl gN []
variable {F:PR}
theorem Dp {z:Int×aG}:(gN F z).length<=F.length+1:=by
 unfold gN;split
 ·exact D8 _ _ _
 ·omega
theorem Jm (S:List aG)(i:Nat):(((nums S).take i).foldl gN []).length<=i:=by
 induction i with
 | zero=>exact Sg _
 | succ i ih=>
   rw[QK,Q2];cases e:(nums S)[i]? with
   | none=>exact Nat.le_succ_of_le ih
   | some z=>
     show(gN _ z).length<=_;exact Sh Dp (by omega)
abbrev cK (S:List aG)(o:Int):Int:=(S.getD o.toNat dq).within
def Ar (S:List aG)(n:Int)(kd:Str)(a:Int):Prop:=∃k:Nat,Wm (cK S) k (cK S n)=a/\(∀j,j<=k->0<=Wm (cK S) j (cK S n)/\Wm (cK S) j (cK S n)<(S.length:Int))/\(∀j,j<k->aU S (Wm (cK S) j (cK S n))≠kd)/\aU S a=kd
inductive fz (S:List aG) (F:PR) (n:Int):PH->Prop
 | row {c:Int} (h:aU S n="if"∨aU S n="while") (hc:aW F n=some c):fz S F n [n+1,c+1]
 | Y7 {c:Int} (h:aU S n="else") (hc:aW F n=some c):fz S F n [c]
 | YR {a c:Int} (h:aU S n="leave") (ha:Ar S n "while" a) (hc:aW F a=some c):fz S F n [c+1]
 | Y9 {a c:Int} (h:aU S n="back") (ha:Ar S n "part" a) (hc:aW F a=some c):fz S F n [c]
 | Y4 (h:aU S n="end") (h0:0<=cK S n) (h1:cK S n<(S.length:Int)) (hk:aU S (cK S n)="while"):fz S F n [cK S n]
 | Y5 (h:aU S n="end") (h0:0<=cK S n) (h1:cK S n<(S.length:Int)) (hk:aU S (cK S n)="part"):fz S F n []
 | Y6 (h:aU S n="end") (h0:0<=cK S n) (h1:cK S n<(S.length:Int)) (hk:aU S (cK S n)="else"):fz S F n [n+1]
 | Yn (h:aU S n="part"∨aU S n="do"∨aU S n="call"):fz S F n [n+1]
abbrev Nz:Stmt:=top pN
abbrev nCS:PJ:=["steps","closing","number","step"]
def HR (C:Addr):cS:=λK ps T=>∃S:List aG,ps=[⟨ae (bH C),S⟩]/\S.length<=1000/\T=cU K jy (· =eK S)
theorem ML (M:cD K mg)(M2:lu K mg)(HC:bI K C iR)(Df:Def K mg "closing_steps" Nz ["steps"]):aE P w K mg base "closing_steps" 1 (aM (HR C) K):=by
 refine bD (N:=nCS) Df (λf V2 A outer s H E qs T nd hr hS=>?_);obtain⟨S,rfl,hl,rfl⟩:=hS;refine ai (ow 1 ?_);refine bS (N1:=λΓ=>∃e2 e3,Γ=[.im (ae (bH C)) S,.di (cG (eK S)),e2,e3]) (bW (λi Γ=>∃e2 e3,Γ=[.im (ae (bH C)) S,.di (cG (((nums S).take i).foldl gN [])),e2,e3]) (ic M.enumerate (aa 0 rfl)) (eN 2 3) ⟨_,_,rfl⟩ (λi z Γ hz hΓ=>?_) (λΓ hΓ=>?_)) ?_
 ·obtain⟨e2,e3,rfl⟩:=hΓ;obtain⟨n,st⟩:=z;have fl:=Jm S i;have il:i<S.length:=by have:=(Qc.mp hz).1;rwa [cV] at this
  have Xl:((nums S).take (i+1)).foldl gN []=gN (((nums S).take i).foldl gN []) (n,st):=by rw[QK,hz,Q2];rfl
  rw[Xl];generalize ((nums S).take i).foldl gN []=Fd at fl;change WS _ _ [.im (ae (bH C)) S,.di (cG Fd),aJ n,.im (bH C) st] _ _;refine aj (a8 (aA lr (g6 (C:=C) HC (aa 3 rfl)) (h8 M2.V3)) (λh=>?_) (λh=>aF ⟨aJ n,.im (bH C) st,?_⟩))
  ·have h:st.kind∈V3:=VR h;refine aj (qI 1 (ru hr) (qK (C:=C) HC (aa 3 rfl)) (aa 2 rfl) rfl (Sj (show _<=1000 by omega) (by decide)) ⟨aJ n,.im (bH C) st,?_⟩);unfold gN;rw[VQ h];rfl
  ·have h:¬st.kind∈V3:=VS h;unfold gN;rw[VP h]
 ·obtain⟨e2,e3,rfl⟩:=hΓ;refine⟨e2,e3,?_⟩;rw[QM];rfl
 rintro _ ⟨e2,e3,rfl⟩;exact aj (yF 1 rfl rfl)
abbrev Nn:Stmt:=top BE
abbrev nAR:PJ:=["steps","number","kind","found"]
def Ou (C:Addr):cS:=λK ps T=>∃(S:List aG)(n a:Int)(kd:Str),ps=[⟨ae (bH C),S⟩,⟨ag,n⟩,⟨ar,kd⟩]/\0<=n/\n<(S.length:Int)/\Ar S n kd a/\T=cU K ag (· =a)
theorem KZ (HC:bI K C iR)(Df:Def K mg "around" Nn ["steps","number","kind"]):aE P w K mg base "around" 1 (aM (Ou C) K):=by
 refine bD (N:=nAR) Df (λf V2 A outer s H E qs T nd hr hS=>?_);obtain⟨S,n,a,kd,rfl,n0,n1,⟨k,ha,Xm,Wx,hk⟩,rfl⟩:=hS;refine ai (bg 3 (y:=cK S n) (qK (C:=C) HC (a9 (aa 0 rfl) (aa 1 rfl) (bw (xs:=S) (i:=n) dq n0 n1))) ?_);refine bS (N1:=λΓ=>Γ=[.im (ae (bH C)) S,aJ n,.im ar kd,aJ a]) (ot (λm Γ=>∃i,m+i=k/\Γ=[.im (ae (bH C)) S,aJ n,.im ar kd,aJ (Wm (cK S) i (cK S n))]) (m0:=k) ⟨0,rfl,rfl⟩ (λm Γ hI=>?_)) ?_
 ·obtain⟨i,hi,rfl⟩:=hI;obtain⟨o0,o1⟩:=Xm i (by omega);have hs:Wm (cK S) (i+1) (cK S n)=cK S (Wm (cK S) i (cK S n)):=rfl;have hne':=Wx i;have hki:i=k->aU S (Wm (cK S) i (cK S n))=kd/\Wm (cK S) i (cK S n)=a:=λe=>by rw[e,ha];exact⟨hk,rfl⟩
  generalize Wm (cK S) i (cK S n)=o at o0 o1 hs hne' hki;refine⟨!decide (aU S o=kd),_,aA uz (g6 (C:=C) HC (a9 (aa 0 rfl) (aa 3 rfl) (bw (xs:=S) (i:=o) dq o0 o1))) (aa 2 rfl),λh=>?_,λh=>?_⟩
  ·have h:¬aU S o=kd:=by simpa using h
   have ik:i<k:=by
    rcases Sm i k with z | z
    ·exact z
    ·exact VO (hki (by omega)).1 h
   exact aj (bg 3 (qK (C:=C) HC (a9 (aa 0 rfl) (aa 3 rfl) (bw (xs:=S) (i:=o) dq o0 o1))) ⟨m-1,by omega,i+1,by omega,by rw[hs];rfl⟩)
  ·have h:aU S o=kd:=by simpa using h
   have ik:i=k:=by
    rcases Sm i k with z | z
    ·exact VO h (hne' z)
    ·omega
   rw[(hki ik).2]
 rintro _ rfl;exact aj (aN (aa 3 rfl) rfl)
abbrev N4:Stmt:=top uf
abbrev nLF:PJ:=["steps","closing","number","kind","ended"]
abbrev pLF:PJ:=["steps","closing","number"]
def Of (C:Addr):cS:=λK ps T=>∃(S:List aG)(F:PR)(n:Int)(ls:PH),ps=[⟨ae (bH C),S⟩,⟨jy,F⟩,⟨ag,n⟩]/\0<=n/\n<(S.length:Int)/\fz S F n ls/\T=cU K (ae ag) (· =ls)
def BN (S:List aG)(n:Int):Str:=if aU S n="end" then aU S (cK S n) else ""
theorem K2 (HC:bI K C iR)(CA:aE P w K mg base "around" 1 (aM (Ou C) K))(Df:Def K mg "leads_from" N4 pLF):aE P w K mg base "leads_from" 2 (aM (Of C) K):=by
 refine bD (N:=nLF) Df (λf V2 A outer s H E qs T nd hr hS=>?_);obtain⟨S,Fd,n,ls,rfl,n0,n1,hL,rfl⟩:=hS;have hu:=ru hr;have WQ:cE S n=some (S.getD n.toNat dq):=bw (xs:=S) (i:=n) dq n0 n1;have YY:aU S n="end"->0<=cK S n/\cK S n<(S.length:Int):=λh=>by
  cases hL with
  | row g hc=>rcases g with g | g<;>rw[g] at h<;>exact VO h (by decide +kernel)
  | Y7 g hc=>rw[g] at h;exact VO h (by decide +kernel)
  | YR g ha hc=>rw[g] at h;exact VO h (by decide +kernel)
  | Y9 g ha hc=>rw[g] at h;exact VO h (by decide +kernel)
  | Y4 g h0 h1 hk=>exact⟨h0,h1⟩
  | Y5 g h0 h1 hk=>exact⟨h0,h1⟩
  | Y6 g h0 h1 hk=>exact⟨h0,h1⟩
  | Yn g=>rcases g with g | g | g<;>rw[g] at h<;>exact VO h (by decide +kernel)
 refine ai (bg 3 (y:=aU S n) (g6 (C:=C) HC (a9 (aa 0 rfl) (aa 2 rfl) WQ)) ?_);refine ai (bg 4 (y:=BN S n) (EV.cast (lH (x:=aU S (cK S n)) (aA cm (aa 3 rfl) ay) (λh=>g6 (C:=C) HC (a9 (aa 0 rfl) (qK (C:=C) HC (a9 (aa 0 rfl) (aa 2 rfl) WQ)) (bw (xs:=S) (i:=cK S n) dq (YY (VR h)).1 (YY (VR h)).2))) (λ_=>ay)) (by unfold BN;by_cases h:aU S n="end"<;>simp[h])) ?_)
 have en0:aU S n≠"end"->BN S n="":=λh=>VP h;have ZS:aU S n="end"->BN S n=aU S (cK S n):=λh=>VQ h;generalize hE:BN S n=ed at en0 ZS;have one_le:(1:Nat)<=S8:=by decide
 refine ai (a8 (aA lr (aa 3 rfl) (yB (xs:=["if","while"]) (ak (EV.pS ay) (ak (EV.pS ay) aL)) (by show 2<=S8;decide))) (λh=>?_) (λh=>aF ?_))
 ·have h:aU S n∈(["if","while"]:PJ):=VR h;cases hL with
  | row g hc=>exact aj (aN (ba.im (aR (r:=ag) (ak (ck (aa 2 rfl) ev_int) (ak (ck (iU hu (aa 1 rfl) (aa 2 rfl) hc) ev_int) aL)) (by show 2<=S8;decide))) rfl)
  | Y7 g hc=>rw[g] at h;exact VO h (by decide +kernel)
  | YR g ha hc=>rw[g] at h;exact VO h (by decide +kernel)
  | Y9 g ha hc=>rw[g] at h;exact VO h (by decide +kernel)
  | Y4 g h0 h1 hk=>rw[g] at h;exact VO h (by decide +kernel)
  | Y5 g h0 h1 hk=>rw[g] at h;exact VO h (by decide +kernel)
  | Y6 g h0 h1 hk=>rw[g] at h;exact VO h (by decide +kernel)
  | Yn g=>rcases g with g | g | g<;>rw[g] at h<;>exact VO h (by decide +kernel)
 have h1:¬aU S n∈(["if","while"]:PJ):=VS h;refine ai (a8 (aA cm (aa 3 rfl) ay) (λh=>?_) (λh=>aF ?_))
 ·have h:aU S n="else":=VR h;cases hL with
  | row g hc=>rcases g with g | g<;>rw[g] at h<;>exact VO h (by decide +kernel)
  | Y7 g hc=>exact aj (aN (ba.im (aR (r:=ag) (ak (iU hu (aa 1 rfl) (aa 2 rfl) hc) aL) one_le)) rfl)
  | YR g ha hc=>rw[g] at h;exact VO h (by decide +kernel)
  | Y9 g ha hc=>rw[g] at h;exact VO h (by decide +kernel)
  | Y4 g h0 h1 hk=>rw[g] at h;exact VO h (by decide +kernel)
  | Y5 g h0 h1 hk=>rw[g] at h;exact VO h (by decide +kernel)
  | Y6 g h0 h1 hk=>rw[g] at h;exact VO h (by decide +kernel)
  | Yn g=>rcases g with g | g | g<;>rw[g] at h<;>exact VO h (by decide +kernel)
 have h2:¬aU S n="else":=VS h;refine ai (a8 (aA cm (aa 3 rfl) ay) (λh=>?_) (λh=>aF ?_))
 ·have h:aU S n="leave":=VR h;cases hL with
  | row g hc=>rcases g with g | g<;>rw[g] at h<;>exact VO h (by decide +kernel)
  | Y7 g hc=>rw[g] at h;exact VO h (by decide +kernel)
  | YR g ha hc=>exact aj (aN (ba.im (aR (r:=ag) (ak (ck (iU hu (aa 1 rfl) (aI CA hr (ah (aa 0 rfl) (ah (aa 2 rfl) (ah ay ax))) ⟨S,n,_,_,rfl,n0,n1,ha,rfl⟩) hc) ev_int) aL) one_le)) rfl)
  | Y9 g ha hc=>rw[g] at h;exact VO h (by decide +kernel)
  | Y4 g h0 h1 hk=>rw[g] at h;exact VO h (by decide +kernel)
  | Y5 g h0 h1 hk=>rw[g] at h;exact VO h (by decide +kernel)
  | Y6 g h0 h1 hk=>rw[g] at h;exact VO h (by decide +kernel)
  | Yn g=>rcases g with g | g | g<;>rw[g] at h<;>exact VO h (by decide +kernel)
 have h3:¬aU S n="leave":=VS h;refine ai (a8 (aA cm (aa 3 rfl) ay) (λh=>?_) (λh=>aF ?_))
 ·have h:aU S n="back":=VR h;cases hL with
  | row g hc=>rcases g with g | g<;>rw[g] at h<;>exact VO h (by decide +kernel)
  | Y7 g hc=>rw[g] at h;exact VO h (by decide +kernel)
  | YR g ha hc=>rw[g] at h;exact VO h (by decide +kernel)
  | Y9 g ha hc=>exact aj (aN (ba.im (aR (r:=ag) (ak (iU hu (aa 1 rfl) (aI CA hr (ah (aa 0 rfl) (ah (aa 2 rfl) (ah ay ax))) ⟨S,n,_,_,rfl,n0,n1,ha,rfl⟩) hc) aL) one_le)) rfl)
  | Y4 g h0 h1 hk=>rw[g] at h;exact VO h (by decide +kernel)
  | Y5 g h0 h1 hk=>rw[g] at h;exact VO h (by decide +kernel)
  | Y6 g h0 h1 hk=>rw[g] at h;exact VO h (by decide +kernel)
  | Yn g=>rcases g with g | g | g<;>rw[g] at h<;>exact VO h (by decide +kernel)
 have h4:¬aU S n="back":=VS h;have Yi:∀{k:Str},k≠""->aU S n≠"end"->ed≠k:=λhk h z=>hk (by rw[← z,en0 h]);refine ai (a8 (aA cm (aa 4 rfl) ay) (λh=>?_) (λh=>aF ?_))
 ·have h:ed="while":=VR h;cases hL with
  | row g hc=>exact VO h (Yi (by decide +kernel) (by rcases g with g | g<;>rw[g]<;>decide +kernel))
  | Y7 g hc=>exact VO g h2
  | YR g ha hc=>exact VO g h3
  | Y9 g ha hc=>exact VO g h4
  | Y4 g h0 h1 hk=>exact aj (aN (ba.im (aR (r:=ag) (ak (qK (C:=C) HC (a9 (aa 0 rfl) (aa 2 rfl) WQ)) aL) one_le)) rfl)
  | Y5 g h0 h1 hk=>rw[ZS g,hk] at h;exact VO h (by decide +kernel)
  | Y6 g h0 h1 hk=>rw[ZS g,hk] at h;exact VO h (by decide +kernel)
  | Yn g=>exact VO h (Yi (by decide +kernel) (by rcases g with g | g | g<;>rw[g]<;>decide +kernel))
 have h5:¬ed="while":=VS h;cases hL with
 | row g hc=>exact VO (by rcases g with g | g<;>rw[g]<;>decide +kernel) h1
 | Y7 g hc=>exact VO g h2
 | YR g ha hc=>exact VO g h3
 | Y9 g ha hc=>exact VO g h4
 | Y4 g h0 h1 hk=>exact VO ((ZS g).trans hk) h5
 | Y5 g h0 h1 hk=>
   have e:ed="part":=(ZS g).trans hk;exact aj (aN (y:=([]:PH)) (EV.cast (lH (y:=([]:PH)) (aA cm (aa 4 rfl) ay) (λ_=>ba.im (aR (r:=ag) aL (Si _))) (λh=>VO e (VS h))) (by split<;>rfl)) rfl)
 | Y6 g h0 h1 hk=>
   have e:ed≠"part":=by rw[ZS g,hk];decide +kernel
   exact aj (aN (y:=[n+1]) (EV.cast (lH (x:=[n+1]) (aA cm (aa 4 rfl) ay) (λh=>VO (VR h) e) (λ_=>ba.im (aR (r:=ag) (ak (ck (aa 2 rfl) ev_int) aL) one_le))) (by split<;>rfl)) rfl)
 | Yn g=>
   have e:ed≠"part":=Yi (by decide +kernel) (by rcases g with g | g | g<;>rw[g]<;>decide +kernel)
   exact aj (aN (y:=[n+1]) (EV.cast (lH (x:=[n+1]) (aA cm (aa 4 rfl) ay) (λh=>VO (VR h) e) (λ_=>ba.im (aR (r:=ag) (ak (ck (aa 2 rfl) ev_int) aL) one_le))) (by split<;>rfl)) rfl)
abbrev IX:Stmt:=top xt
abbrev Nr:PJ:=["steps","closing"]
def zM (S:List aG)(Ld:List PH):Prop:=Ld.length=S.length/\∀n:Nat,n<S.length->fz S (eK S) (n:Int) (Ld.getD n [])
def Nw (C:Addr):cS:=λK ps T=>∃(S:List aG)(Ld:List PH),ps=[⟨ae (bH C),S⟩]/\S.length<=1000/\zM S Ld/\T=cU K (ae (ae ag)) (· =Ld)
theorem CY (Ld:List PH):((ups 0 Ld.length).filter λ_=>true).map (λn=>Ld.getD n.toNat [])=Ld:=by
 rw[QZ.mpr λ_ _=>rfl];refine Q0 λi=>?_;unfold ups;rw[Ql,Ql];rcases Sm i Ld.length with h | h
 ·rw[QQ h,Qd h];show some (Ld.getD (0+(i:Int)).toNat [])=_;rw[show(0+(i:Int)).toNat=i by omega,Qh,Qd h];rfl
 ·rw[QH (by simpa using h),QH h];rfl
theorem Mt (M:cD K mg)(CC:aE P w K mg base "closing_steps" 1 (aM (HR C) K))(CF:aE P w K mg base "leads_from" 2 (aM (Of C) K))(Df:Def K mg "leads_in" IX ["steps"]):aE P w K mg base "leads_in" 3 (aM (Nw C) K):=by
 have Xq:Qz [("number":Str),"steps","closing"]:=by decide
 have CC:=CC.mono (show 1<=2 by decide);refine bD (N:=Nr) (k:=2) Df (λf V2 A outer s H E qs T nd hr hS=>?_);obtain⟨S,Ld,rfl,hl,⟨Yq,hL⟩,rfl⟩:=hS;refine ai (bg 1 (y:=eK S) (aI CC hr (ah (aa 0 rfl) ax) ⟨S,rfl,hl,rfl⟩) ?_);change WS _ _ [.im (ae (bH C)) S,.im jy (eK S)] _ _;have cc:=CY Ld;rw[Yq] at cc;refine aj (aN (ba.im (bE (own:=["number"]) (fr:=["steps","closing"]) (ix:=[0,1]) (ra:=ag) (rb:=ae ag) (p:=λ_=>true) (f:=λn=>Ld.getD n.toNat []) (bA (so:=ao IX) (N0:=Nr) rfl rfl (λx h=>bb h) (by decide +kernel)) (fo M.range (dy M.len (aa 0 rfl)) ⟨by omega,by omega⟩)
  (λC s H ex=>aP 0) (λx=>⟨.inr rfl,.inl rfl,.inl rfl,trivial⟩) (λC s H ex c hc=>dk) (λC' s H ex o ho _=>?_))) ?_)
 ·obtain⟨i,hi⟩:=Qu.mp ho;obtain⟨il,rfl⟩:=fJ hi;have il:i<S.length:=by omega
  have:=hL i il;rw[show(i:Int)=0+(i:Int) by omega] at this;exact aI CF hr (ah (aa 1 rfl) (ah (aa 2 rfl) (ah (aa 0 rfl) ax))) ⟨S,eK S,0+(i:Int),_,rfl,by omega,by omega,by rw[show(0+(i:Int)).toNat=i by omega];exact this,rfl⟩
 ·rw[show((S.length:Int)).toNat=S.length by omega];exact cc
abbrev Kx:Stmt:=top xl
abbrev Ob:PJ:=["steps","closing"]
abbrev ie:=Str×Int×Int
def nB (p:ie):PV:=.tup [.str p.1,.int p.2.1,.int p.2.2]
def Kv (z:Int×aG):Bool:=decide (z.2.kind="part")
def Hz (S:List aG)(z:Int×aG):ie:=(z.2.name,z.1,(aW (eK S) z.1).getD 0)
def cQ (S:List aG):List ie:=((nums S).filter Kv).map (Hz S)
def N3 (C:Addr):cS:=λK ps T=>∃S:List aG,ps=[⟨ae (bH C),S⟩]/\S.length<=1000/\(∀n:Nat,n<S.length->aU S (n:Int)="part"->(aW (eK S) (n:Int)).isSome)/\T=cU K (ae aq) (· =(cQ S).map nB)
theorem oK {z:Int×aG}(h:z∈nums S):∃n:Nat,n<S.length/\z.1=(n:Int)/\S.getD n dq=z.2:=by
 obtain⟨i,hi⟩:=Qu.mp h;obtain⟨e1,e2⟩:=fb hi;exact⟨i,(Qc.mp e2).1,e1,by rw[Qh,e2];rfl⟩
theorem K4 (M:cD K mg)(HC:bI K C iR)(CC:aE P w K mg base "closing_steps" 1 (aM (HR C) K))(Df:Def K mg "parts_in" Kx ["steps"]):aE P w K mg base "parts_in" 2 (aM (N3 C) K):=by
 have Xq:Qz [("number":Str),"step","closing"]:=by decide
 refine bD (N:=Ob) (k:=1) Df (λf V2 A outer s H E qs T nd hr hS=>?_);obtain⟨S,rfl,hl,hp,rfl⟩:=hS;refine ai (bg 1 (y:=eK S) (aI CC hr (ah (aa 0 rfl) ax) ⟨S,rfl,hl,rfl⟩) ?_);refine aj (aN (ba.im (bE (own:=["number","step"]) (fr:=["closing"]) (ix:=[1]) (ra:=dS ag (bH C)) (rb:=aq) (p:=Kv) (f:=λz=>nB (Hz S z)) (bA (so:=ao Kx) (N0:=Ob) rfl rfl (λx h=>bb h) (by decide +kernel)) (ic M.enumerate (aa 0 rfl))
  (λC s H ex=>eN 0 1) (λx=>⟨.inr rfl,.inr rfl,.inl rfl,trivial⟩) (λC' s H ex z hz=>?_) (λC' s H ex z hz hpz=>?_))) ?_)
 ·exact gF (aA cm (g6 (C:=C) HC (aa 1 rfl)) ay)
 ·obtain⟨n,nl,e1,e2⟩:=oK hz;have hk:aU S (n:Int)="part":=by
   unfold aU;rw[show((n:Nat):Int).toNat=n by omega,e2];exact VR hpz
  have hs:=hp n nl hk;rw[← e1] at hs;have hc:aW (eK S) z.1=some ((aW (eK S) z.1).getD 0):=by
   cases q:aW (eK S) z.1 with
   | none=>rw[q] at hs;cases hs
   | some c=>rfl
  exact jo (ak (EV.pS (qv (C:=C) HC (aa 1 rfl))) (ak (EV.pI (aa 0 rfl)) (ak (EV.pI (iU (ru hr) (aa 2 rfl) (aa 0 rfl) hc)) aL))) (by show 3<=S8;decide)
 ·unfold cQ;rw[QY];rfl
abbrev d7:List (Str×PJ):=[("do",["do"]),("call",["call"]),("if",["yes","no"]),("while",["yes","no"])]
def a7 (k:Str):Bool:=(c9 d7 k).isSome
def qB (S:List aG)(Ld:List PH)(td:PH)(n:Int):PH:=
 if(Ld.getD n.toNat []).isEmpty=false/\a7 (aU S n)=false then td.set n.toNat (td.getD ((Ld.getD n.toNat []).getD 0 0).toNat 0) else td
variable {Ld:List PH}
theorem F7 {td:PH}{n:Int}:(qB S Ld td n).length=td.length:=by
 unfold qB;split
 ·rw[QV]
 ·rfl
def XR (S:List aG)(Ld:List PH)(i:Nat):PH:=((downs ((S.length:Int)-1) S.length).take i).foldl (qB S Ld) (ups 0 S.length)
theorem kK (h:i<S.length):XR S Ld (i+1)=qB S Ld (XR S Ld i) ((S.length:Int)-1-(i:Int)):=by
 have hd:(downs ((S.length:Int)-1) S.length)[i]?=some ((S.length:Int)-1-(i:Int)):=by
  unfold downs;rw[Ql,QQ h];rfl
 unfold XR;rw[QK,hd,Q2];rfl
theorem j7 {S:List aG}{Ld:List PH}:∀i,i<=S.length->(XR S Ld i).length=S.length
 | 0,_=>bU _ _
 | i+1,h=>by rw[kK h,F7];exact j7 i (by omega)
abbrev aZ (S:List aG)(Ld:List PH):PH:=XR S Ld S.length
def vh (S:List aG)(Ld:List PH):Prop:=Ld.length=S.length/\∀ls∈Ld,∀l∈ls,0<=l/\l<(S.length:Int)
abbrev Ow:Stmt:=top vS
abbrev nST:PJ:=["steps","leads","told","number"]
def Ny (C:Addr):cS:=λK ps T=>∃(S:List aG)(Ld:List PH),ps=[⟨ae (bH C),S⟩,⟨ae (ae ag),Ld⟩]/\S.length<=1000/\vh S Ld/\T=cU K (ae ag) (· =aZ S Ld)
theorem Lp (M:cD K mg)(HC:bI K C iR)(RW:nj P w K mg "ROW_WORDS" d7)(Df:Def K mg "stands_in" Ow ["steps","leads"]):aE P w K mg base "stands_in" 1 (aM (Ny C) K):=by
 refine bD (N:=nST) Df (λf V2 A outer s H E qs T nd hr hS=>?_);obtain⟨S,Ld,rfl,hl,⟨Yq,Xm⟩,rfl⟩:=hS;change WS _ _ [.im (ae (bH C)) S,.im (ae (ae ag)) Ld,.no,.no] _ _;refine ai (cR 2 (r:=ag) (ys:=ups 0 S.length) (ba.cst (ud M.list M.range (dy M.len (aa 0 rfl)) ⟨by omega,by omega⟩) (by rw[show((S.length:Int)).toNat=S.length by omega])) ?_);refine bS (N1:=λΓ=>∃e3,Γ=[.im (ae (bH C)) S,.im (ae (ae ag)) Ld,.mu ag (aZ S Ld),e3]) (bW (λi Γ=>∃e3,Γ=[.im (ae (bH C)) S,.im (ae (ae ag)) Ld,.mu ag (XR S Ld i),e3]) (Ai M.range (ah (iV (dy M.len (aa 0 rfl)) ev_int) (ah (cO ev_int) (ah (cO ev_int) ax))) ⟨by omega,by omega,by omega,by omega⟩) (aP 3) ⟨_,rfl⟩ (λi n Γ hn hΓ=>?_) (λΓ hΓ=>?_)) ?_
 ·obtain⟨e3,rfl⟩:=hΓ;obtain⟨il,rfl⟩:=uU hn;have il:i<S.length:=by omega
  rw[kK il];have tl:=j7 (S:=S) (Ld:=Ld) i (by omega);generalize XR S Ld i=td at tl;generalize hnn:(S.length:Int)-1-(i:Int)=n;have n0:0<=n:=by omega
  have n1:n<(S.length:Int):=by omega
  change WS _ _ [.im (ae (bH C)) S,.im (ae (ae ag)) Ld,.mu ag td,aJ n] _ _;have WQ:cE Ld n=some (Ld.getD n.toNat []):=bw (xs:=Ld) (i:=n) [] n0 (by omega);have XZ:Ld.getD n.toNat []∈Ld:=by
   rw[Qh,Qd (show n.toNat<Ld.length by omega)];exact QP _
  refine aj (a8 (TW.tv (dg (wW (a9 (aa 1 rfl) (aa 3 rfl) WQ)) (λ_=>eO (Am RW (g6 (C:=C) HC (a9 (aa 0 rfl) (aa 3 rfl) (bw (xs:=S) (i:=n) dq n0 n1))))))) (λh=>?_) (λh=>aF ⟨aJ n,?_⟩))
  ·have h:(Ld.getD n.toNat []).isEmpty=false/\a7 (aU S n)=false:=by simpa[a7,aU] using h
   have hls:=Xm _ XZ;obtain⟨l,r,hlr⟩:∃l r,Ld.getD n.toNat []=l::r:=by
    cases e:Ld.getD n.toNat [] with
    | nil=>rw[e] at h;exact VO h.1 (by decide)
    | cons l r=>exact⟨l,r,rfl⟩
   have e0:(Ld.getD n.toNat []).getD 0 0=l:=by rw[hlr];rfl
   have hl0:cE (Ld.getD n.toNat []) 0=some l:=by rw[hlr,gP (by decide) (by simp)];rfl
   obtain⟨l0,l1⟩:=hls l (by rw[hlr];exact Qk);refine aj (GW 2 (y:=td.getD l.toNat 0) (j:=n.toNat) (Ba 2 (a9 (a9 (aa 1 rfl) (aa 3 rfl) WQ) ev_int hl0) rfl rfl (bw (xs:=td) (i:=l) 0 l0 (by omega))) (aa 3 rfl) rfl rfl (AI n0 (by omega)) ⟨aJ n,?_⟩);unfold qB;rw[VQ h,e0];rfl
  ·have h:¬((Ld.getD n.toNat []).isEmpty=false/\a7 (aU S n)=false):=by
    intro z;unfold a7 at z;unfold aU at z;rw[z.1,z.2] at h;exact VO h (by decide)
   unfold qB;rw[VP h]
 ·obtain⟨e3,rfl⟩:=hΓ;rw[iE,show((S.length:Int)-1 - -1).toNat=S.length by omega];exact⟨e3,rfl⟩
 rintro _ ⟨e3,rfl⟩;refine WS.freeze 2 rfl (aT (by rw[j7 S.length (Sg _)];omega)) ?_;exact aj (aN (aa 2 rfl) rfl)
abbrev Rw:=Int×Int×Str×Str
def jE (r:Rw):PV:=.tup [.int r.1,.int r.2.1,.str r.2.2.1,.str r.2.2.2]
def jR (Ld:List PH)(z:Int×aG):List (Str×Int):=((c9 d7 z.2.kind).getD []).zip (Ld.getD z.1.toNat [])
def tK (St:PH)(z:Int×aG)(y:Str×Int):Rw:=(z.1,St.getD y.2.toNat 0,y.1,z.2.name)
def d6 (Ld:List PH)(St:PH)(z:Int×aG):List Rw:=(jR Ld z).map (tK St z)
def gw (S:List aG)(Ld:List PH)(St:PH):List Rw:=(nums S).flatMap (d6 Ld St)
theorem xY (Ld:List PH)(z:Int×aG):(jR Ld z).length<=2:=by
 unfold jR;rw[Rn];refine Sh (Sw _ _) ?_;unfold c9;split
 ·decide
 unfold c9;split
 ·decide
 unfold c9;split
 ·decide
 unfold c9;split
 ·decide
 ·exact Si _
theorem pZ {α β:Type}{f:α->List β}{n:Nat}(h:∀x,(f x).length<=n):∀xs:List α,(xs.flatMap f).length<=n*xs.length
 | []=>Si _
 | x::xs=>by
   rw[Q1,Qj,Qo,Nat.mul_succ];have:=h x;have:=pZ h xs;omega
theorem qU (Ld:List PH)(St:PH)(z:Int×aG):(d6 Ld St z).length<=2:=by unfold d6;rw[Qg];exact xY Ld z
abbrev Nd:Stmt:=top zI
abbrev nRI:PJ:=["steps","leads","stands","told","number","step","word","lead"]
abbrev pRI:PJ:=["steps","leads","stands"]
def Ov (C:Addr):cS:=λK ps T=>∃(S:List aG)(Ld:List PH)(St:PH),ps=[⟨ae (bH C),S⟩,⟨ae (ae ag),Ld⟩,⟨ae ag,St⟩]/\S.length<=1000/\vh S Ld/\St.length=S.length/\T=cU K (ae aq) (· =(gw S Ld St).map jE)
theorem MR (M:cD K mg)(HC:bI K C iR)(RW:nj P w K mg "ROW_WORDS" d7)(Df:Def K mg "rows_in" Nd pRI):aE P w K mg base "rows_in" 1 (aM (Ov C) K):=by
 refine bD (N:=nRI) Df (λf V2 A outer s H E qs T nd hr hS=>?_);obtain⟨S,Ld,St,rfl,hl,⟨Yq,Xm⟩,hst,rfl⟩:=hS;change WS _ _ [.im (ae (bH C)) S,.im (ae (ae ag)) Ld,jF St,.no,.no,.no,.no,.no] _ _;refine ai (cR 3 (r:=aq) (ys:=[]) (aR aL (Si _)) ?_);refine bS (N1:=λΓ=>∃e4 e5 e6 e7,Γ=[.im (ae (bH C)) S,.im (ae (ae ag)) Ld,jF St,.mu aq ((gw S Ld St).map jE),e4,e5,e6,e7]) (bW (λi Γ=>∃e4 e5 e6 e7,Γ=[.im (ae (bH C)) S,.im (ae (ae ag)) Ld,jF St,.mu aq ((((nums S).take i).flatMap (d6 Ld St)).map jE),e4,e5,e6,e7]) (ic M.enumerate (aa 0 rfl)) (eN 4 5) ⟨_,_,_,_,rfl⟩ (λi z Γ hz hΓ=>?_) (λΓ hΓ=>?_)) ?_
 ·obtain⟨e4,e5,e6,e7,rfl⟩:=hΓ;obtain⟨n,nl,e1,e2⟩:=oK (Qm hz);have il:i<S.length:=by have:=(Qc.mp hz).1;rwa [cV] at this
  have fl:=pZ (qU Ld St) ((nums S).take i);have hti:((nums S).take i).length<=i:=by rw[QA];omega
  have Xl:((nums S).take (i+1)).flatMap (d6 Ld St)=((nums S).take i).flatMap (d6 Ld St)++d6 Ld St z:=by
   rw[QK,hz,Rl];simp
  rw[Xl];generalize ((nums S).take i).flatMap (d6 Ld St)=rs at fl;have rl:rs.length<=2000:=by omega
  obtain⟨zn,zs⟩:=z;dsimp only at e1 e2;subst e1;change WS _ _ [.im (ae (bH C)) S,.im (ae (ae ag)) Ld,jF St,.mu aq (rs.map jE),aJ (n:Int),.im (bH C) zs,e6,e7] _ _;have WQ:cE Ld (n:Int)=some (Ld.getD n []):=bw (xs:=Ld) (i:=(n:Int)) [] (by omega) (by omega);have XZ:Ld.getD n []∈Ld:=by
   rw[Qh,Qd (show n<Ld.length by omega)];exact QP _
  have hls:=Xm _ XZ;have hzl:=xY Ld ((n:Int),zs);have hzz:jR Ld ((n:Int),zs)=((c9 d7 zs.kind).getD []).zip (Ld.getD n []):=rfl;refine aj (bW (λj Γ=>∃e6 e7,Γ=[.im (ae (bH C)) S,.im (ae (ae ag)) Ld,jF St,.mu aq ((rs++((jR Ld ((n:Int),zs)).take j).map (tK St ((n:Int),zs))).map jE),aJ (n:Int),.im (bH C) zs,e6,e7]) (FU M.zip (Gw RW (g6 (C:=C) HC (aa 5 rfl)) (yB (xs:=[]) aL (Si _))) (a9 (aa 1 rfl) (aa 4 rfl) WQ)) (eN 6 7) ⟨e6,e7,by rw[Ri,RL,QC]⟩ (λj y Γ hy hΓ=>?_) (λΓ hΓ=>?_))
  ·obtain⟨e6,e7,rfl⟩:=hΓ;rw[← hzz] at hy;have hjl:j<(jR Ld ((n:Int),zs)).length:=(Qc.mp hy).1;have htj:(((jR Ld ((n:Int),zs)).take j).map (tK St ((n:Int),zs))).length<=2:=by rw[Qg,QA];omega
   have hnj:((jR Ld ((n:Int),zs)).take (j+1)).map (tK St ((n:Int),zs))=((jR Ld ((n:Int),zs)).take j).map (tK St ((n:Int),zs))++[tK St ((n:Int),zs) y]:=by
    rw[QK,hy,Qv];rfl
   rw[hnj];have YA:y.2∈Ld.getD n []:=by
    rw[hzz] at hy;exact(RG (Qm hy)).2
   obtain⟨y0,y1⟩:=hls y.2 YA;generalize ((jR Ld ((n:Int),zs)).take j).map (tK St ((n:Int),zs))=ts at htj;obtain⟨yw,yl⟩:=y;refine aj (eT 3 (y:=jE (tK St ((n:Int),zs) (yw,yl))) (jo (ak (EV.pI (aa 4 rfl)) (ak (EV.pI (a9 (aa 2 rfl) (aa 7 rfl) (bw (xs:=St) (i:=yl) 0 y0 (by omega)))) (ak (EV.pS (aa 6 rfl)) (ak (EV.pS (qv (C:=C) HC (aa 5 rfl))) aL)))) (by show 4<=S8;decide)) rfl rfl (Sj (show _<=3000 by rw[Qg,Qj];omega) (by decide)) ⟨.im ar yw,aJ yl,?_⟩);rw[← Qy,Qv (l₁:=rs++ts)];rfl
  ·obtain⟨e6,e7,rfl⟩:=hΓ;refine⟨aJ (n:Int),.im (bH C) zs,e6,e7,?_⟩;rw[← hzz,QM];rfl
 ·obtain⟨e4,e5,e6,e7,rfl⟩:=hΓ;refine⟨e4,e5,e6,e7,?_⟩;rw[QM];rfl
 rintro _ ⟨e4,e5,e6,e7,rfl⟩;have fl:=pZ (qU Ld St) (nums S);rw[cV] at fl;refine WS.freeze 3 rfl (aT (by rw[Qg];unfold gw;omega)) ?_;exact aj (aN (aa 3 rfl) rfl)
structure ir where
 S:List aG
 parts:List ie
 Ld:List PH
 St:PH
 rows:List Rw
abbrev gp:PJ:=["steps","parts","leads","stands","rows"]
theorem dN (h:decide (x∈gp)=true):x∈gp:=VR h
def NQ (C:Addr)(s:ir):kB:=[("steps",(ae (bH C)).at_ s.S),("parts",(ae aq).at_ (s.parts.map nB)),("leads",(ae (ae ag)).at_ s.Ld),("stands",(ae ag).at_ s.St),("rows",(ae aq).at_ (s.rows.map jE))]
def cT (C D:Addr):Rep ir:=⟨λK R v s=>∃x dx vs,v= .ref x/\R x=some (.ins D dx vs)/\gM (NQ C s) K R vs,λs ⟨x,dx,vs,e,h1,h2⟩=>⟨x,dx,vs,e,s _ _ h1,h2.mono s⟩⟩
variable {D:Addr}
section
variable {s:ir}
theorem zh (hC:bI X.K D gp)(he:EV X e Γ (cT C D) s Γ1)(hb:fD X e "steps":=by rfl):EV X (.Attribute e "steps" pos) Γ (ae (bH C)) s.S Γ1:=jS hC (dN (by decide)) he (λK R v ⟨x,dx,vs,e,h1,h2⟩=>by obtain⟨u,q1,q2⟩:=h2.get (f:="steps") rfl;exact⟨x,dx,vs,u,e,h1,q1,q2⟩) hb
theorem iM (hC:bI X.K D gp)(he:EV X e Γ (cT C D) s Γ1)(hb:fD X e "parts":=by rfl):EV X (.Attribute e "parts" pos) Γ (ae aq) (s.parts.map nB) Γ1:=jS hC (dN (by decide)) he (λK R v ⟨x,dx,vs,e,h1,h2⟩=>by obtain⟨u,q1,q2⟩:=h2.get (f:="parts") rfl;exact⟨x,dx,vs,u,e,h1,q1,q2⟩) hb
theorem LJ (hC:bI X.K D gp)(he:EV X e Γ (cT C D) s Γ1)(hb:fD X e "leads":=by rfl):EV X (.Attribute e "leads" pos) Γ (ae (ae ag)) s.Ld Γ1:=jS hC (dN (by decide)) he (λK R v ⟨x,dx,vs,e,h1,h2⟩=>by obtain⟨u,q1,q2⟩:=h2.get (f:="leads") rfl;exact⟨x,dx,vs,u,e,h1,q1,q2⟩) hb
theorem K8 (hC:bI X.K D gp)(he:EV X e Γ (cT C D) s Γ1)(hb:fD X e "stands":=by rfl):EV X (.Attribute e "stands" pos) Γ (ae ag) s.St Γ1:=jS hC (dN (by decide)) he (λK R v ⟨x,dx,vs,e,h1,h2⟩=>by obtain⟨u,q1,q2⟩:=h2.get (f:="stands") rfl;exact⟨x,dx,vs,u,e,h1,q1,q2⟩) hb
theorem uC (hC:bI X.K D gp)(he:EV X e Γ (cT C D) s Γ1)(hb:fD X e "rows":=by rfl):EV X (.Attribute e "rows" pos) Γ (ae aq) (s.rows.map jE) Γ1:=jS hC (dN (by decide)) he (λK R v ⟨x,dx,vs,e,h1,h2⟩=>by obtain⟨u,q1,q2⟩:=h2.get (f:="rows") rfl;exact⟨x,dx,vs,u,e,h1,q1,q2⟩) hb
end
structure sV (S:List aG)(Ld:List PH):Prop where
 l:S.length<=240
 ld:zM S Ld
 li:vh S Ld
 pt:∀n:Nat,n<S.length->aU S (n:Int)="part"->(aW (eK S) (n:Int)).isSome
def Wo (S:List aG)(Ld:List PH):ir:=⟨S,cQ S,Ld,aZ S Ld,gw S Ld (aZ S Ld)⟩
def w6 (x:Str)(S:List aG):Prop:=∃(ws:PJ)(n:Nat),x=Vh " " ws/\ws≠[]/\ws.length<=240/\(∀w∈ws,gJ w)/\gU ws n ⟨[],[],0⟩ ⟨S,[],ws.length⟩
abbrev tT:Stmt:=match top Ek with
 | .ClassDef _ _ _ b _ _ _ _ _ _ _=>b.getD 0 (.Pass ⟨0,0,0,0⟩)
 | s=>s
abbrev xg:PJ:=["self","text"]
theorem Iu:bV xg xg (ao tT):=Xt
def Nc (C D0:Addr):Bt:=λK D ps Pd=>D=D0/\∃(x:Str)(S:List aG)(Ld:List PH),ps=[⟨ar,x⟩]/\w6 x S/\sV S Ld/\Pd=λfs=>fs=NQ C (Wo S Ld)
theorem Mi (HD:bI K D gp)(CR:aE P w K mg base "read" 3 (aM (NO C) K))(CP:aE P w K mg base "parts_in" 2 (aM (N3 C) K))(CL:aE P w K mg base "leads_in" 3 (aM (Nw C) K))(CS:aE P w K mg base "stands_in" 1 (aM (Ny C) K))(CW:aE P w K mg base "rows_in" 1 (aM (Ov C) K))(F:dZ K "__init__" "Spots.__init__" tT f fd):eV P w K mg base eX 4 f fd xg (yP (Nc C D) K):=by
 have nd:=Iu.nd;have CP:=CP.mono (show 2<=3 by decide);have CS:=CS.mono (show 1<=3 by decide);have CW:=CW.mono (show 1<=3 by decide);refine Ac (k:=3) F Iu (λD qs Pd ⟨_,_,_,_,e,_⟩=>by rw[e];rfl) (λV2 A outer st H E D' x dx qs Pd hr hS=>?_);obtain⟨rfl,tx,S,Ld,rfl,⟨ws,n,et,Wx,hl,hw,Zl⟩,hOk,rfl⟩:=hS;have XS:S.length<=1000:=by have:=hOk.l;omega
 refine ai (iF 0 HD (dN (by decide)) (aI (y:=S) (r:=ae (bH C)) CR hr (ah (aa 1 rfl) ax) ⟨ws,n,S,by rw[et],Wx,hl,hw,Zl,rfl⟩) rfl rfl (by show 0<1000;decide) ?_);refine ai (iF 0 HD (dN (by decide)) (aI CP hr (ah (mP 0 HD (dN (by decide)) rfl rfl) ax) ⟨S,rfl,XS,hOk.pt,rfl⟩) rfl rfl (by show 1<1000;decide) ?_);refine ai (iF 0 HD (dN (by decide)) (aI CL hr (ah (mP 0 HD (dN (by decide)) rfl rfl) ax) ⟨S,Ld,rfl,XS,hOk.ld,rfl⟩) rfl rfl (by show 2<1000;decide) ?_);refine ai (iF 0 HD (dN (by decide)) (aI CS hr (ah (mP 0 HD (dN (by decide)) rfl rfl) (ah (mP 0 HD (dN (by decide)) rfl rfl) ax)) ⟨S,Ld,rfl,XS,hOk.li,rfl⟩) rfl rfl (by show 3<1000;decide) ?_);exact aj (iF 0 HD (dN (by decide)) (aI CW hr (ah (mP 0 HD (dN (by decide)) rfl rfl) (ah (mP 0 HD (dN (by decide)) rfl rfl) (ah (mP 0 HD (dN (by decide)) rfl rfl) ax))) ⟨S,Ld,aZ S Ld,rfl,XS,hOk.li,j7 S.length (Sg _),rfl⟩) rfl rfl (by show 4<1000;decide) ⟨_,rfl,rfl⟩)
structure wC (P:Tb)(w:World)(K:Vr)(mg:Pz)(base:Heap)(C D:Addr):Prop where
 cl:bI K D gp
 ex:∃fi XO,Mk K D fi/\eV P w K mg base eX 4 fi XO xg (yP (Nc C D) K)/\Binds K XO xg []
 mg:mg "Spots"=some (.ref D)
theorem C7 {p:Pos}(G:wC X.prog X.w X.K X.mg X.base C D)(hr:bG 5 X.A)(ha:HA X [e] Γ [⟨ar,x⟩] Γ1)(hx:w6 x S)(hk:sV S Ld)(hg:Gl X "Spots":=by rfl)(he:du X e []:=by rfl)(Wg:fm X pos []:=by rfl):EV X (.Call (.Name "Spots" p) [e] [] pos) Γ (cT C D) (Wo S Ld) Γ1:=by
 obtain⟨fi,XO,MK,SI,bi⟩:=G.ex;exact yn MK SI hr G.mg bi ha ⟨rfl,x,S,Ld,rfl,hx,hk,rfl⟩ (λfs R x dx vs hP h1 h2=>by subst hP;exact⟨x,dx,vs,rfl,h2,h1⟩) hg (by decide) he Wg
theorem Kc {xs:List α}(h:i<=xs.length):cut xs none (some (i:Int))=xs.take i:=by
 have e:HT.Wd xs.length xs.length (some (i:Int))=i:=by
  show(if(i:Int)<0 then((i:Int)+(xs.length:Int)).toNat else min (i:Int).toNat xs.length)=i;rw[VP (by omega)];omega
 unfold cut;rw[e];rfl
theorem qW {xs:List α}:cut xs (some (i:Int)) none=xs.drop i:=by
 have e:HT.Wd xs.length 0 (some (i:Int))=min i xs.length:=by
  show(if(i:Int)<0 then((i:Int)+(xs.length:Int)).toNat else min (i:Int).toNat xs.length)=_;rw[VP (by omega)];rfl
 have e2:HT.Wd xs.length xs.length none=xs.length:=rfl;unfold cut;rw[e,e2];rcases Sm i xs.length with h | h
 ·rw[Nat.min_eq_left (by omega),Rv (by rw[Ro];omega)]
 ·rw[Nat.min_eq_right h,Rk (Sg _),Rk h,take_nil]
theorem rp:∀(n:Nat)(l:PH),l.Nodup->(∀x∈l,0<=x/\x<(n:Int))->l.length<=n
 | 0,l,_,h=>by
   cases l with
   | nil=>exact Sg _
   | cons x r=>have:=h x Qk;omega
 | n+1,l,nd,h=>by
   by_cases q:(n:Int)∈l
   ·have:=rp n (l.erase (n:Int)) (nd.erase _) λx hx=>by
     have hm:=(nd.mem_erase_iff.mp hx);have:=h x hm.2;have:=hm.1;omega
    rw[RJ q] at this;omega
   ·have:=rp n l nd λx hx=>by
     have:=h x hx;have:x≠(n:Int):=λe=>q (e▸hx);omega
    omega
def cH (F:PR)(k:Int):PR:=if(aW F k).isSome then F else F++[(k,(F.length:Int))]
def gR (p:ie)(r:Rw):Bool:=decide (p.2.1<r.1)&&decide (r.1<p.2.2)
def eu (p:ie)(F:PR)(r:Rw):PR:=if gR p r then cH (cH F r.1) r.2.1 else F
def dE (s:ir)(p:ie):PR:=s.rows.foldl (eu p) [(s.St.getD p.2.1.toNat 0,0),(p.2.2,1)]
def Reach (s:ir)(fd:PH):Prop:=(∀p∈s.parts,p.2.1∈fd)/\∀n∈fd,∀l∈s.Ld.getD n.toNat [],l∈fd
structure Good (s:ir):Prop where
 l:s.S.length<=240
 pl:s.parts.length<=4
 pn:(s.parts.map (·.1)).Nodup
 pv:∀p∈s.parts,0<=p.2.1/\p.2.1<(s.S.length:Int)
 li:vh s.S s.Ld
 l2:∀ls∈s.Ld,ls.length<=2
 sl:s.St.length=s.S.length
 sn:((s.S.filter λt=>decide (t.kind=("part":Str))).map (·.name)).Nodup
 ca:∀(n:Nat)(t:aG),s.S[n]?=some t->t.kind="call"->∃(m:Nat)(u:aG),n<m/\s.S[m]?=some u/\u.kind="part"/\u.name=t.name
 ct:∀fd,Reach s fd->∀n:Nat,n<s.S.length->aU s.S (n:Int)∈Wh->(n:Int)∈fd
 nc:∀p∈s.parts.drop 1,∃t∈s.S,t.kind="call"/\t.name=p.1
 eb:∀p∈s.parts,s.St.getD p.2.1.toNat 0≠p.2.2
 rl:s.rows.length<=30
 rk:∀r∈s.rows,(0<=r.1/\r.1<(s.S.length:Int))/\aU s.S r.1∈Wh
 pc:∀p∈s.parts,(dE s p).length<=16
def u9:PV->Str
 | .tup (.str x::_)=>x
 | _=>""
theorem BA (p:ie):u9 (nB p)=p.1:=rfl
abbrev JT:Stmt:=top t7
def yg (C D:Addr):cS:=λK ps T=>∃s:ir,ps=[⟨cT C D,s⟩,⟨ae aq,[]⟩]/\T=cU K (ae ag) (· =[])
theorem Mh (Df:Def K mg "name_words" JT ["spots","parts"]):aE P w K mg base "name_words" 1 (aM (yg C D) K):=by
 have Xq:Qz [("part":Str),"spots"]:=by decide
 refine bD (N:=["spots","parts"]) Df (λf V2 A outer st H E qs T nd hr hS=>?_);obtain⟨s,rfl,rfl⟩:=hS;exact aj (aN (ba.im (bE (own:=["part"]) (fr:=["spots"]) (ix:=[0]) (ra:=aq) (rb:=ag) (p:=λ_=>true) (f:=λ_=>0) (bA (so:=ao JT) (N0:=["spots","parts"]) rfl rfl (λx h=>bb h) (by decide +kernel)) (br (aa 1 rfl))
  (λC s H ex=>aP 0) (λx=>⟨.inr rfl,.inl rfl,trivial⟩) (λC' s H ex c hc=>dk) (λC' s H ex o ho _=>by cases ho))) rfl)
abbrev EU:Stmt:=top sE
abbrev IL:PJ:=["spots","names"]
def iZ (C D:Addr):cS:=λK ps T=>∃s:ir,ps=[⟨cT C D,s⟩]/\Good s/\T=cU K (ae ag) (· =[])
theorem jv {β:Type}{xs:List α}{p:α->Bool}{f:α->β}(h:∀x∈xs,p x=false):(xs.filter p).map f=[]:=by
 rw[RR.mpr λx hx=>by rw[h x hx];decide];rfl
theorem Ha {xs:PJ}(h:xs.Nodup)(hx:xs[i]?=some x):x∉xs.take i:=by
 intro hm;obtain⟨j,hj⟩:=Qu.mp hm;obtain⟨jl,ej⟩:=Qc.mp hj;obtain⟨il,ei⟩:=Qc.mp hx;rw[QA] at jl;rw[List.getElem_take] at ej;have:=(getElem_inj (h₀:=by omega) (h₁:=il) h).mp (ej.trans ei.symm);omega
theorem Le (M:cD K mg)(HD:bI K D gp)(CN:aE P w K mg base "name_words" 1 (aM (yg C D) K))(Df:Def K mg "named_again" EU ["spots"]):aE P w K mg base "named_again" 2 (aM (iZ C D) K):=by
 have Xq:Qz [("part":Str)]:=by decide
 have Yy:Qz [("place":Str),"part","names"]:=by decide
 refine bD (N:=IL) (k:=1) Df (λf V2 A outer st H E qs T nd hr hS=>?_);obtain⟨s,rfl,hG,rfl⟩:=hS;have ZL:((s.parts.map nB).filter λ_=>true).map u9=s.parts.map (·.1):=by rw[QZ.mpr λ_ _=>rfl,QY];rfl
 refine ai (bg 1 (y:=s.parts.map (·.1)) (EV.cast (ba.im (bE (own:=["part"]) (fr:=[]) (ix:=[]) (ra:=aq) (rb:=ar) (p:=λ_=>true) (f:=u9) (bA (so:=ao EU) (N0:=IL) rfl rfl (λx h=>bb h) (by decide +kernel)) (br (iM (C:=C) HD (aa 0 rfl)))
  (λC s H ex=>aP 0) (λx=>⟨.inr rfl,trivial⟩) (λC' s H ex c hc=>dk) (λC' s H ex o ho _=>by
   obtain⟨p,_,rfl⟩:=Qw.mp ho;exact EV.sP (x:=p.1) (dJ (aa 0 rfl) ev_int rfl)))) ZL) ?_)
 change WS _ _ [.im (cT C D) s,.im (ae ar) (s.parts.map (·.1))] _ _;refine aj (aN (y:=([]:PH)) (aI CN hr (ah (aa 0 rfl) (ah (x:=([]:List PV)) (EV.cast (ba.im (bE (own:=["place","part"]) (fr:=["names"]) (ix:=[1]) (ra:=dS ag aq) (rb:=aq) (p:=λz=>decide (u9 z.2∈cut (s.parts.map (·.1)) none (some z.1))) (f:=λz=>z.2) (bA (so:=ao EU) (N0:=IL) rfl rfl (λx h=>bb h) (by decide +kernel)) (ic M.enumerate (iM (C:=C) HD (aa 0 rfl)))
  (λC s H ex=>eN 0 1) (λx=>⟨.inr rfl,.inr rfl,.inl rfl,trivial⟩) (λC' s H ex z hz=>?_) (λC' s H ex z hz _=>aa 1 rfl))) ?_) ax)) ⟨s,rfl,rfl⟩) rfl)
 ·obtain⟨i,hi⟩:=Qu.mp hz;obtain⟨e1,e2⟩:=fb hi;rw[Ql] at e2;obtain⟨p,_,ep⟩:=SO.mp e2;obtain⟨zn,zp⟩:=z;dsimp only at e1 ep;subst ep;exact gF (aA vf (EV.sP (x:=p.1) (dJ (aa 1 rfl) ev_int rfl)) (ba.im (lx (aa 2 rfl) ov_none (ov_some (aa 0 rfl)))))
 ·refine jv λz hz=>?_;obtain⟨i,hi⟩:=Qu.mp hz;obtain⟨e1,e2⟩:=fb hi;rw[Ql] at e2;obtain⟨p,hp,ep⟩:=SO.mp e2;rw[e1,← ep,BA];have il:=(Qc.mp hp).1;rw[Kc (by rw[Qg];omega)];exact VU (Ha hG.pn (by rw[Ql,hp];rfl))
abbrev Nq:Stmt:=top pE
abbrev nCA:PJ:=["spots","found","behind","step"]
def WM (S:List aG):PJ:=(S.filter λt=>decide (t.kind=("part":Str))).map (·.name)
theorem mF (a b:List aG):WM (a++b)=WM a++WM b:=by unfold WM;rw[Rg,Qv]
theorem JV (h:(WM S).Nodup):(WM S.reverse).Nodup:=by
 unfold WM at h ⊢;rw[List.filter_reverse,List.map_reverse];exact List.pairwise_reverse.mpr (h.imp λz=>SN z)
theorem MV (M:cD K mg)(HC:bI K C iR)(HD:bI K D gp)(Df:Def K mg "called_astray" Nq ["spots"]):aE P w K mg base "called_astray" 1 (aM (iZ C D) K):=by
 refine bD (N:=nCA) Df (λf V2 A outer st H E qs T nd hr hS=>?_);obtain⟨s,rfl,hG,rfl⟩:=hS;have hu:=ru hr;have hl:=hG.l;have hnd:=JV (S:=s.S) hG.sn;refine ai (cR 1 (r:=ag) (ys:=[]) (aR aL (Si _)) ?_);refine ai (ow 2 ?_);refine WS.L6 2 rfl λa=>?_;refine bS (N1:=λΓ=>∃ks e3,Γ=[.im (cT C D) s,.mu ag [],.ob (qE a ks),e3]) (bW (λi Γ=>∃e3,Γ=[.im (cT C D) s,.mu ag [],.ob (qE a (WM (s.S.reverse.take i))),e3]) (JQ M.reversed (zh (C:=C) HD (aa 0 rfl))) (aP 3) ⟨_,rfl⟩ (λi t Γ ht hΓ=>?_) (λΓ hΓ=>?_)) ?_
 ·obtain⟨e3,rfl⟩:=hΓ;have il:i<s.S.length:=by have:=(Qc.mp ht).1;rwa [RM] at this
  have Xl:WM (s.S.reverse.take (i+1))=WM (s.S.reverse.take i)++WM [t]:=by rw[QK,ht,mF];rfl
  have Wq:(WM (s.S.reverse.take (i+1))).Nodup:=by
   have:WM s.S.reverse=WM (s.S.reverse.take (i+1))++WM (s.S.reverse.drop (i+1)):=by rw[← mF,Rf]
   rw[this] at hnd;exact(QO.mp hnd).1
  have ZO:(WM (s.S.reverse.take i)).length<=240:=by
   unfold WM;rw[Qg];refine Sh (Rm _ _) ?_;rw[QA];omega
  have Y1:t.kind="call"->t.name∈WM (s.S.reverse.take i):=λhk=>by
   rw[RZ il] at ht;obtain⟨m,u,hm',hu',Xz,X5⟩:=hG.ca _ t ht hk;have ml:=(Qc.mp hu').1;unfold WM;refine Qw.mpr ⟨u,QT.mpr ⟨Qm (i:=s.S.length-1-m) ?_,VT Xz⟩,X5⟩;rw[List.getElem?_take,VQ (by omega),RZ (by omega),show s.S.length-1-(s.S.length-1-m)=m by omega];exact hu'
  rw[Xl];generalize WM (s.S.reverse.take i)=ks at Xl ZO Y1;rw[Xl] at Wq;change WS _ _ [.im (cT C D) s,.mu ag [],.ob (qE a ks),.im (bH C) t] _ _;refine bS (N1:=λΓ=>Γ=[.im (cT C D) s,.mu ag [],.ob (qE a (ks++WM [t])),.im (bH C) t]) (a8 (aA cm (g6 (C:=C) HC (aa 3 rfl)) ay) (λh=>?_) (λh=>aF ?_)) ?_
  ·have h:t.kind="part":=VR h;have hp:WM [t]=[t.name]:=by unfold WM;rw[Q8 (by simpa using h)];rfl
   rw[hp] at Wq ⊢;refine aj (Gd 2 hu (qv (C:=C) HC (aa 3 rfl)) qM rfl (λz=>?_) (Sj ZO (by decide)) rfl);exact(QO.mp Wq).2.2 t.name z t.name (Qe.mpr rfl) rfl
  ·have h:¬t.kind="part":=VS h;have hp:WM [t]=[]:=by unfold WM;rw[Q9 (by simpa using h)];rfl
   rw[hp,QC]
  rintro _ rfl;refine aj (a8 (TW.tv (dg (aA cm (g6 (C:=C) HC (aa 3 rfl)) ay) (λ_=>eO (Dz 2 hu (qv (C:=C) HC (aa 3 rfl)) rfl)))) (λh=>?_) (λh=>aF ⟨.im (bH C) t,rfl⟩));exfalso;obtain⟨h1,h2⟩:=Bool.and_eq_true_iff.mp h;have h1:t.kind="call":=VR h1;rw[VT (Qs _ (Y1 h1))] at h2;cases h2
 ·obtain⟨e3,rfl⟩:=hΓ;exact⟨_,e3,rfl⟩
 rintro _ ⟨ks,e3,rfl⟩;refine WS.freeze 1 rfl (Si _) ?_;exact aj (aN (aa 1 rfl) rfl)
abbrev EM:Stmt:=top zN
abbrev Np:PJ:=["spots","found","waiting","number"]
theorem Ht:bV Np ["spots"] (ao EM):=Xt
def dT (fd:PH):List (Int×V):=fd.map λk=>(k,V.bl true)
theorem nO (fd:PH)(k:Int):gL (dT fd) k=decide (k∈fd):=by
 unfold gL dT;rw[any_map];by_cases h:k∈fd
 ·rw[VT h,Rz];exact⟨k,h,by simp⟩
 ·rw[VU h];rw[List.any_eq_false];intro x hx;have:x≠k:=λe=>h (e▸hx);simpa using this
def HM (C D:Addr):cS:=λK ps T=>∃s:ir,ps=[⟨cT C D,s⟩]/\Good s/\T=cU K kY (λkvs=>∃fd,kvs=dT fd/\Reach s fd)
structure CtI (s:ir)(fd wt:PH):Prop where
 nd:fd.Nodup
 fv:∀n∈fd,0<=n/\n<(s.S.length:Int)
 wv:∀n∈wt,0<=n/\n<(s.S.length:Int)
 st:∀p∈s.parts,p.2.1∈fd∨p.2.1∈wt
 cl:∀n∈fd,∀l∈s.Ld.getD n.toNat [],l∈fd∨l∈wt
def z3:PV->Int
 | .tup (_:: .int n::_)=>n
 | _=>0
theorem KY (M:cD K mg)(HD:bI K D gp)(F:dZ K "come_to" "come_to" EM f fd)(hm:mg "come_to"=some (.ref f))(hb:Binds K fd ["spots"] []):aE P w K mg base "come_to" 1 (aM (HM C D) K):=by
 have nd:=Ht.nd;have Xq:Qz [("part":Str)]:=by decide
 refine gZ F Ht hm hb (λqs T ⟨_,e,_⟩=>by rw[e];rfl) (λV2 A outer st H E qs T hr hS=>?_);obtain⟨s,rfl,hG,rfl⟩:=hS;have hu:=ru hr;have hl:=hG.l;obtain⟨Yq,Xm⟩:=hG.li;have Wg:=hG.pl;refine ai (ow 1 ?_);have hst:((s.parts.map nB).filter λ_=>true).map z3=s.parts.map (·.2.1):=by rw[QZ.mpr λ_ _=>rfl,QY];rfl
 refine ai (nP 2 (own:=["part"]) (fr:=[]) (ix:=[]) (ra:=aq) (rb:=ag) (p:=λ_=>true) (f:=z3) (bA (so:=ao EM) (N0:=Np) rfl rfl (λx h=>bb h) (by decide +kernel)) (br (iM (C:=C) HD (aa 0 rfl)))
  (λC s H ex=>aP 0) (λx=>⟨.inr rfl,trivial⟩) (λC' s H ex c hc=>dk) (λC' s H ex o ho _=>by
   obtain⟨p,_,rfl⟩:=Qw.mp ho;exact EV.iP (n:=p.2.1) (dJ (aa 0 rfl) ev_int rfl)) ?_)
 rw[hst];refine bS (N1:=λΓ=>∃fd e3,Γ=[.im (cT C D) s,.di (dT fd),.mu ag [],e3]/\Reach s fd) (ot (λm Γ=>∃fd wt e3,Γ=[.im (cT C D) s,.di (dT fd),.mu ag wt,e3]/\CtI s fd wt/\3*(s.S.length-fd.length)+wt.length=m/\m<=1000) (m0:=3*s.S.length+s.parts.length) ⟨[],s.parts.map (·.2.1),.no,rfl,⟨RC,(λn h=>by cases h),(λn h=>?_),(λp hp=>.inr (Qw.mpr ⟨p,hp,rfl⟩)),(λn h=>by cases h)⟩,by rw[Qg];rfl,by omega⟩ (λm Γ hI=>?_)) ?_
 ·obtain⟨p,hp,rfl⟩:=Qw.mp h;exact hG.pv p hp
 ·obtain⟨fd,wt,e3,rfl,hC,hmm,hm1⟩:=hI;have fl:=rp s.S.length fd hC.nd hC.fv;refine⟨!wt.isEmpty,_,qF 2 rfl,λh=>?_,λh=>?_⟩
  ·have Wx:wt≠[]:=λz=>by rw[z] at h;cases h
   obtain⟨wi,n,rfl⟩:∃l x,wt=l++[x]:=⟨wt.dropLast,wt.getLast Wx,(Q3 Wx).symm⟩;rw[Qj,QG] at hmm;obtain⟨n0,n1⟩:=hC.wv n (Qn _ (Qe.mpr rfl));refine ai (bg 3 (y:=n) (wg 2 rfl (by simp)) ?_);rw[show(wi++[n]).dropLast=wi by simp];refine aj (a8 (xP 1 true hu (aa 3 rfl) rfl) (λh=>?_) (λh=>aF ?_))
   ·have ZM:n∉fd:=by rw[VQ rfl,nO] at h;simpa using h
    have WQ:cE s.Ld n=some (s.Ld.getD n.toNat []):=bw (xs:=s.Ld) (i:=n) [] n0 (by omega);have XZ:s.Ld.getD n.toNat []∈s.Ld:=by
     rw[Qh,Qd (show n.toNat<s.Ld.length by omega)];exact QP _
    have h2:=hG.l2 _ XZ;have hls:=Xm _ XZ;have fl2:=rp s.S.length (fd++[n]) (ib hC.nd ZM) λx hx=>by
     rcases Qr.mp hx with z | z
     ·exact hC.fv x z
     ·rw[Qe.mp z];exact⟨n0,n1⟩
    rw[Qj,QG] at fl2;refine ai (tP 1 hu (aa 3 rfl) qM rfl (by rw[nO];exact VU ZM) (by unfold dT;rw[Qg];exact Sj (show _<=1000 by omega) (by decide)) ?_);have e:dT fd++[(n,V.bl true)]=dT (fd++[n]):=by unfold dT;rw[Qv];rfl
    rw[e];refine aj (AF 2 (a9 (LJ (C:=C) HD (aa 0 rfl)) (aa 3 rfl) WQ) rfl rfl (aT (by omega)) ⟨3*(s.S.length-(fd++[n]).length)+(wi++s.Ld.getD n.toNat []).length,by rw[Qj,Qj,QG];omega,fd++[n],wi++s.Ld.getD n.toNat [],aJ n,rfl,⟨ib hC.nd ZM,λx hx=>?_,λx hx=>?_,λp hp=>?_,λx hx l Xx=>?_⟩,rfl,by rw[Qj,Qj,QG];omega⟩)
    ·rcases Qr.mp hx with z | z
     ·exact hC.fv x z
     ·rw[Qe.mp z];exact⟨n0,n1⟩
    ·rcases Qr.mp hx with z | z
     ·exact hC.wv x (Qs _ z)
     ·exact hls x z
    ·rcases hC.st p hp with z | z
     ·exact .inl (Qs _ z)
     ·rcases Qr.mp z with z | z
      ·exact .inr (Qs _ z)
      ·exact .inl (Qn _ z)
    ·rcases Qr.mp hx with z | z
     ·rcases hC.cl x z l Xx with q | q
      ·exact .inl (Qs _ q)
      ·rcases Qr.mp q with q | q
       ·exact .inr (Qs _ q)
       ·exact .inl (Qn _ q)
     ·rw[Qe.mp z] at Xx;exact .inr (Qn _ Xx)
   ·have ZM:n∈fd:=by rw[VQ rfl,nO] at h;simpa using h
    refine⟨3*(s.S.length-fd.length)+wi.length,by omega,fd,wi,aJ n,rfl,⟨hC.nd,hC.fv,λx hx=>hC.wv x (Qs _ hx),λp hp=>?_,λx hx l Xx=>?_⟩,rfl,by omega⟩
    ·rcases hC.st p hp with z | z
     ·exact .inl z
     ·rcases Qr.mp z with z | z
      ·exact .inr z
      ·rw[Qe.mp z];exact .inl ZM
    ·rcases hC.cl x hx l Xx with q | q
     ·exact .inl q
     ·rcases Qr.mp q with q | q
      ·exact .inr q
      ·rw[Qe.mp q];exact .inl ZM
  ·have hwt:wt=[]:=by cases wt with
    | nil=>rfl
    | cons _ _=>cases h
   subst hwt;exact⟨fd,e3,rfl,λp hp=>(hC.st p hp).resolve_right (by simp),λn hn l Xx=>(hC.cl n hn l Xx).resolve_right (by simp)⟩
 rintro _ ⟨fd,e3,rfl,hR⟩;exact aj (Bq 1 rfl ⟨fd,rfl,hR⟩)
abbrev Ax:Stmt:=top r6
abbrev HE:PJ:=["spots","known","lost"]
theorem JG:bV HE ["spots"] (ao Ax):=Xt
theorem Mz (M:cD K mg)(M2:lu K mg)(HC:bI K C iR)(HD:bI K D gp)(CT:aE P w K mg base "come_to" 1 (aM (HM C D) K))(F:dZ K "not_come_to" "not_come_to" Ax f fd)(hm:mg "not_come_to"=some (.ref f))(hb:Binds K fd ["spots"] []):aE P w K mg base "not_come_to" 2 (aM (iZ C D) K):=by
 have nd:=JG.nd;have Xq:Qz [("number":Str),"step","known"]:=by decide
 have Yy:Qz [("step":Str)]:=by decide
 refine gZ (k:=1) F JG hm hb (λqs T ⟨_,e,_⟩=>by rw[e];rfl) (λV2 A outer st H E qs T hr hS=>?_);obtain⟨s,rfl,hG,rfl⟩:=hS;have hu:=ru hr;have hl:=hG.l;refine ai (oO 1 CT hr (ah (aa 0 rfl) ax) ⟨s,rfl,hG,rfl⟩ ?_);rintro _ ⟨fd,rfl,hR⟩;change WS _ _ [.im (cT C D) s,.im kY (dT fd),.no] _ _;refine ai (nP 2 (own:=["number","step"]) (fr:=["known"]) (ix:=[1]) (ra:=dS ag (bH C)) (rb:=bH C) (p:=λz=> !gL (dT fd) z.1) (f:=λz=>z.2) (bA (so:=ao Ax) (N0:=HE) rfl rfl (λx h=>bb h) (by decide +kernel)) (ic M.enumerate (zh (C:=C) HD (aa 0 rfl)))
  (λC s H ex=>eN 0 1) (λx=>⟨.inr rfl,.inr rfl,.inl rfl,trivial⟩) (λC' s H ex z hz=>gF (xF hu (aa 0 rfl) (aa 2 rfl))) (λC' s H ex z hz _=>aa 1 rfl) ?_)
 have lz:(((nums s.S).filter λz=> !gL (dT fd) z.1).map λz=>z.2).length<=240:=by
  rw[Qg];refine Sh (Rm _ _) ?_;rw[cV];exact hl
 refine WS.freeze 2 rfl (aT (by omega)) ?_;refine aj (aN (ba.im (bE (own:=["step"]) (fr:=[]) (ix:=[]) (ra:=bH C) (rb:=ag) (p:=λt=>decide (t.kind∈Wh)) (f:=λt=>t.word) (bA (so:=ao Ax) (N0:=HE) rfl rfl (λx h=>bb h) (by decide +kernel)) (br (aa 2 rfl))
  (λC s H ex=>aP 0) (λx=>⟨.inr rfl,trivial⟩) (λC' s H ex t ht=>gF (aA lr (g6 (C:=C) HC (aa 0 rfl)) (h8 M2.Wh))) (λC' s H ex t ht _=>Lf (C:=C) HC (aa 0 rfl)))) ?_)
 refine jv λt ht=>?_;obtain⟨z,hz,rfl⟩:=Qw.mp ht;obtain⟨hz,hp⟩:=QT.mp hz;obtain⟨n,nl,e1,e2⟩:=oK hz;refine VU λhk=>?_;have:=hG.ct fd hR n nl (by unfold aU;rw[show((n:Nat):Int).toNat=n by omega,e2];exact hk);rw[nO,e1,VT this] at hp;cases hp
abbrev Ey:Stmt:=top ua
abbrev Jo:PJ:=["spots","called"]
theorem Mv (M:cD K mg)(HC:bI K C iR)(HD:bI K D gp)(CN:aE P w K mg base "name_words" 1 (aM (yg C D) K))(Df:Def K mg "not_called" Ey ["spots"]):aE P w K mg base "not_called" 2 (aM (iZ C D) K):=by
 have Xq:Qz [("step":Str)]:=by decide
 have Yy:Qz [("part":Str),"called"]:=by decide
 refine bD (N:=Jo) (k:=1) Df (λf V2 A outer st H E qs T nd hr hS=>?_);obtain⟨s,rfl,hG,rfl⟩:=hS;refine ai (bg 1 (ba.im (bE (own:=["step"]) (fr:=[]) (ix:=[]) (ra:=bH C) (rb:=ar) (p:=λt=>decide (t.kind="call")) (f:=λt=>t.name) (bA (so:=ao Ey) (N0:=Jo) rfl rfl (λx h=>bb h) (by decide +kernel)) (br (zh (C:=C) HD (aa 0 rfl)))
  (λC s H ex=>aP 0) (λx=>⟨.inr rfl,trivial⟩) (λC' s H ex t ht=>gF (aA cm (g6 (C:=C) HC (aa 0 rfl)) ay)) (λC' s H ex t ht _=>qv (C:=C) HC (aa 0 rfl)))) ?_)
 generalize X6:(s.S.filter λt=>decide (t.kind=("call":Str))).map (λt=>t.name)=cs;refine aj (aN (y:=([]:PH)) (aI CN hr (ah (aa 0 rfl) (ah (x:=([]:List PV)) (EV.cast (ba.im (bE (own:=["part"]) (fr:=["called"]) (ix:=[1]) (ra:=aq) (rb:=aq) (xs:=cut (s.parts.map nB) (some 1) none) (p:=λz=> !decide (u9 z∈cs)) (f:=λz=>z) (bA (so:=ao Ey) (N0:=Jo) rfl rfl (λx h=>bb h) (by decide +kernel)) (br (ba.im (lx (iM (C:=C) HD (aa 0 rfl)) (ov_some ev_int) ov_none)))
  (λC s H ex=>aP 0) (λx=>⟨.inr rfl,.inl rfl,trivial⟩) (λC' s H ex z hz=>?_) (λC' s H ex z hz _=>aa 0 rfl))) ?_) ax)) ⟨s,rfl,rfl⟩) rfl)
 ·rw[show((1:Int))=((1:Nat):Int) from rfl,qW,← Sa] at hz;obtain⟨p,_,rfl⟩:=Qw.mp hz;exact gF (aA BS (EV.sP (x:=p.1) (dJ (aa 0 rfl) ev_int rfl)) (aa 1 rfl))
 ·refine jv λz hz=>?_;rw[show((1:Int))=((1:Nat):Int) from rfl,qW,← Sa] at hz;obtain⟨p,hp,rfl⟩:=Qw.mp hz;obtain⟨t,ht,hk,hn⟩:=hG.nc p hp;rw[BA,VT (show p.1∈cs from by rw[← X6];exact Qw.mpr ⟨t,QT.mpr ⟨ht,VT hk⟩,hn⟩)];rfl
def sh (ts:List Th)(k bh lp:Int):Int:=match ts with
 | []=>bh
 | .leave::_=>lp
 | .back::_=> -1
 | _::_=>k
mutual
def fR:Th->Int->Int->Int->List iX
 | .Wi x,k,af,lp=>[("do",x,k,af, -1)]
 | .call j,k,af,lp=>[("call","",k,af,j)]
 | .ifs x A B,k,af,lp=>([(("yes":Str),x,k,sh A (k+1) af lp, -1),(("no":Str),x,k,sh B (aQ A (k+1)).2 af lp, -1)]:List iX)++(js A (k+1) af lp++js B (aQ A (k+1)).2 af lp)
 | .V5 x A,k,af,lp=>([(("yes":Str),x,k,sh A (k+1) k af, -1),(("no":Str),x,k,af, -1)]:List iX)++js A (k+1) k af
 | .leave,_,_,_=>[]
 | .back,_,_,_=>[]
def js:List Th->Int->Int->Int->List iX
 | [],_,_,_=>[]
 | t::ts,k,bh,lp=>fR t k (sh ts (bB t k).2 bh lp) lp++js ts (bB t k).2 bh lp
end
def xN (lp:Bool)(l:Int):PV:=if lp=true then .int l else .Wb
variable {l:Int}
theorem uq :∀{ts:List Th}(k bh:Int),bz lo m lp ts->kC ts k (.int bh) (xN lp l)= .int (sh ts k bh l)
 | [],k,bh,_=>rfl
 | .leave::ts,k,bh,h=>by
   simp only[bz,bO] at h;show xN lp l= .int l;rw[xN,VQ h.1]
 | .back::ts,k,bh,_=>rfl
 | .Wi _::ts,k,bh,_=>rfl
 | .call _::ts,k,bh,_=>rfl
 | .ifs _ _ _::ts,k,bh,_=>rfl
 | .V5 _ _::ts,k,bh,_=>rfl
mutual
theorem KC {lo m:Int}:∀(t:Th){lp:Bool}(l k af:Int),bO lo m lp t->eW t k (.int af) (xN lp l)=(fR t k af l).map fM
 | .Wi x,lp,l,k,af,_=>by rw[eW,fR];rfl
 | .call j,lp,l,k,af,_=>by rw[eW,fR];rfl
 | .leave,lp,l,k,af,_=>by rw[eW,fR];rfl
 | .back,lp,l,k,af,_=>by rw[eW,fR];rfl
 | .ifs x A B,lp,l,k,af,h=>by
   simp only[bO] at h;rw[eW,fR,uq (k+1) af h.2.1,uq _ af h.2.2,oa A l (k+1) af h.2.1,oa B l _ af h.2.2,Qv,Qv];rfl
 | .V5 x A,lp,l,k,af,h=>by
   simp only[bO] at h;have e:(PV.int af)=xN true af:=rfl;rw[eW,fR,e,uq (k+1) k h.2,oa A af (k+1) k h.2,Qv];rfl
theorem oa {lo m:Int}:∀(ts:List Th){lp:Bool}(l k bh:Int),bz lo m lp ts->eZ ts k (.int bh) (xN lp l)=(js ts k bh l).map fM
 | [],lp,l,k,bh,_=>by rw[eZ,js];rfl
 | t::ts,lp,l,k,bh,h=>by
   simp only[bz] at h;rw[eZ,js,uq _ bh h.2.2,KC t l k _ h.1,oa ts l _ bh h.2.2,Qv]
end
structure kU (mg:Pz):Prop where
 beg:∃t,mg "BEGIN"=some (.int 0 t)
 end_:∃t,mg "END"=some (.int 1 t)
 parts:∃t,mg "MOST_PARTS"=some (.int 4 t)
 places:∃t,mg "MOST_PLACES"=some (.int 16 t)
 rows:∃t,mg "MOST_PROGRAM_ROWS"=some (.int 30 t)
theorem u6 (i j:Nat){z:Str}{p2 ap:Pos}{s:ir}{k y:Int}(hD:bI X.K D gp)(hΓ:Γ[i]?=some (.im (cT C D) s))(hj:Γ[j]?=some (aJ k))(hk:cE s.St k=some y)(hN:autoParam (At X i x) cg)(hN':autoParam (At X j z) cg)(hb:fD X (.Name x p1) "stands":=by rfl)(hsx:eL (.Name z p2):=by exact λ_ _=>rfl):qk X (.Subscript (.Attribute (.Name x p1) "stands" ap) (.Name z p2) pos) Γ y:=λσ H0 R0 H R E H' Q sR q=>by
 obtain⟨v,ea,xx,dx,vs,rfl,h1,h2⟩:=E.ent i _ hΓ;obtain⟨u,q1,q2⟩:=h2.get (f:="stands") rfl;obtain⟨b,ws,rfl,W9,pp,hz⟩:=(show(ae ag).R X.K R u s.St from q2);obtain⟨v0,e0,Xw⟩:=E.ent j _ hj;cases Xw
 obtain⟨w,e3,e4⟩:=iL pp hk;cases e4
 exact eS (gG iz (vE (aV hN) hb) (aV hN') hsx) ⟨.ref xx,at_of ea,xx,D,dx,vs,.ref b,rfl,sR _ _ h1,hD.cl,hD.no _ (dN (by decide)),q1,.int k,at_of e0,b,ws,k,.int y,rfl,rfl,bt.of (sR _ _ W9),e3,q⟩
abbrev JY:Stmt:=top oR
def O0:PV->Int
 | .tup (_::_:: .int n::_)=>n
 | _=>0
theorem LH (HD:bI K D gp)(CN:aE P w K mg base "name_words" 1 (aM (yg C D) K))(Df:Def K mg "ended_at_begin" JY ["spots"]):aE P w K mg base "ended_at_begin" 2 (aM (iZ C D) K):=by
 have Xq:Qz [("part":Str),"spots"]:=by decide
 refine bD (N:=["spots"]) (k:=1) Df (λf V2 A outer st H E qs T nd hr hS=>?_);obtain⟨s,rfl,hG,rfl⟩:=hS;refine aj (aN (y:=([]:PH)) (aI CN hr (ah (aa 0 rfl) (ah (x:=([]:List PV)) (EV.cast (ba.im (bE (own:=["part"]) (fr:=["spots"]) (ix:=[0]) (ra:=aq) (rb:=aq) (p:=λz=>decide (s.St.getD (z3 z).toNat 0=O0 z)) (f:=λz=>z) (bA (so:=ao JY) (N0:=["spots"]) rfl rfl (λx h=>bb h) (by decide +kernel)) (br (iM (C:=C) HD (aa 0 rfl)))
  (λC s H ex=>aP 0) (λx=>⟨.inr rfl,.inl rfl,trivial⟩) (λC' s' H ex z hz=>?_) (λC' s H ex z hz _=>aa 0 rfl))) ?_) ax)) ⟨s,rfl,rfl⟩) rfl)
 ·obtain⟨p,hp,rfl⟩:=Qw.mp hz;obtain⟨p0,p1⟩:=hG.pv p hp;exact gF (aA fT (a9 (K8 (C:=C) HD (aa 1 rfl)) (EV.iP (n:=p.2.1) (dJ (aa 0 rfl) ev_int rfl)) (bw (xs:=s.St) (i:=p.2.1) 0 p0 (by rw[hG.sl];exact p1))) (EV.iP (n:=p.2.2) (dJ (aa 0 rfl) ev_int rfl)))
 ·refine jv λz hz=>?_;obtain⟨p,hp,rfl⟩:=Qw.mp hz;exact VU (hG.eb p hp)
abbrev IZ:Stmt:=top rW
theorem MO (M3:kU mg)(HD:bI K D gp)(Df:Def K mg "rows_beyond" IZ ["spots"]):aE P w K mg base "rows_beyond" 1 (aM (iZ C D) K):=by
 have Xq:Qz [("row":Str),"spots"]:=by decide
 refine bD (N:=["spots"]) Df (λf V2 A outer st H E qs T nd hr hS=>?_);obtain⟨s,rfl,hG,rfl⟩:=hS;obtain⟨t,ht⟩:=M3.rows;have hc:cut (s.rows.map jE) (some 30) none=[]:=by
  rw[show((30:Int))=((30:Nat):Int) from rfl,qW,← Sa,Rk hG.rl];rfl
 exact aj (aN (ba.im (bE (own:=["row"]) (fr:=["spots"]) (ix:=[0]) (ra:=aq) (rb:=ag) (xs:=[]) (p:=λ_=>true) (f:=λ_=>0) (bA (so:=ao IZ) (N0:=["spots"]) rfl rfl (λx h=>bb h) (by decide +kernel)) (br (EV.cast (ba.im (lx (uC (C:=C) HD (aa 0 rfl)) (ov_some (dO ht)) ov_none)) hc))
  (λC s H ex=>aP 0) (λx=>⟨.inr rfl,.inl rfl,trivial⟩) (λC' s H ex c hc=>dk) (λC' s H ex o ho _=>by cases ho))) rfl)
abbrev NF:Stmt:=top qQ
theorem LZ (M3:kU mg)(HD:bI K D gp)(CN:aE P w K mg base "name_words" 1 (aM (yg C D) K))(Df:Def K mg "parts_beyond" NF ["spots"]):aE P w K mg base "parts_beyond" 2 (aM (iZ C D) K):=by
 refine bD (N:=["spots"]) (k:=1) Df (λf V2 A outer st H E qs T nd hr hS=>?_);obtain⟨s,rfl,hG,rfl⟩:=hS;obtain⟨t,ht⟩:=M3.parts;have hc:cut (s.parts.map nB) (some 4) none=[]:=by
  rw[show((4:Int))=((4:Nat):Int) from rfl,qW,← Sa,Rk hG.pl];rfl
 exact aj (aN (y:=([]:PH)) (aI CN hr (ah (aa 0 rfl) (ah (x:=([]:List PV)) (EV.cast (ba.im (lx (iM (C:=C) HD (aa 0 rfl)) (ov_some (dO ht)) ov_none)) hc) ax)) ⟨s,rfl,rfl⟩) rfl)
abbrev Ir:Stmt:=top wR
abbrev Pe:PJ:=["spots","part","first","last","told","row","step"]
def Dc (C D:Addr):cS:=λK ps T=>∃(s:ir)(i:Nat)(p:ie),ps=[⟨cT C D,s⟩,⟨ag,(i:Int)⟩]/\Good s/\s.parts[i]?=some p/\T=cU K jy (· =dE s p)
theorem oI (F:PR)(k:Int):(cH F k).length<=F.length+1:=by
 unfold cH;split
 ·omega
 ·rw[Qj];simp
theorem F5 (p:ie)(F:PR)(r:Rw):(eu p F r).length<=F.length+2:=by
 unfold eu;split
 ·exact Sh (oI _ _) (by have:=oI F r.1;omega)
 ·omega
theorem Jd (p:ie)(F:PR)(rs:List Rw):(rs.foldl (eu p) F).length<=F.length+2*rs.length:=by
 induction rs generalizing F with
 | nil=>exact Sg _
 | cons r rs ih=>
   rw[QX,Qo];have:=ih (eu p F r);have:=F5 p F r;omega
theorem Jz (M:cD K mg)(M3:kU mg)(HD:bI K D gp)(Df:Def K mg "places_in" Ir ["spots","part"]):aE P w K mg base "places_in" 1 (aM (Dc C D) K):=by
 refine bD (N:=Pe) Df (λf V2 A outer st H E qs T nd hr hS=>?_);obtain⟨s,i,p,rfl,hG,hp,rfl⟩:=hS;obtain⟨t1,hbg⟩:=M3.beg;obtain⟨t2,YY⟩:=M3.end_;have pm:=Qm hp;have il:=(Qc.mp hp).1;obtain⟨p0,p1⟩:=hG.pv p pm;have hrl:=hG.rl;have WQ:cE (s.parts.map nB) (i:Int)=some (nB p):=by
  rw[gP (by omega) (by rw[Qg];omega),show((i:Nat):Int).toNat=i by omega,Ql,hp];rfl
 refine ai (bg 2 (y:=p.2.1) (EV.iP (dJ (xs:=[.str p.1,.int p.2.1,.int p.2.2]) (a9 (iM (C:=C) HD (aa 0 rfl)) (aa 1 rfl) WQ) ev_int rfl)) ?_);refine ai (bg 3 (y:=p.2.2) (EV.iP (dJ (xs:=[.str p.1,.int p.2.1,.int p.2.2]) (a9 (iM (C:=C) HD (aa 0 rfl)) (aa 1 rfl) WQ) ev_int rfl)) ?_);refine ai (GD 4 (v:=0) (u:=1) (u6 (C:=C) 0 2 HD rfl rfl (bw (xs:=s.St) (i:=p.2.1) 0 p0 (by rw[hG.sl];exact p1))) (xr 3 rfl) (ki rfl hbg ⟨t1,rfl⟩) (ki rfl YY ⟨t2,rfl⟩) (hG.eb p pm) ?_);generalize hF0:[(s.St.getD p.2.1.toNat 0,(0:Int)),(p.2.2,1)]=F0;have Wg:dE s p=s.rows.foldl (eu p) F0:=by unfold dE;rw[hF0]
 have f0l:F0.length=2:=by rw[← hF0];rfl
 rw[Wg];refine bS (N1:=λΓ=>∃e5 e6,Γ=[.im (cT C D) s,aJ (i:Int),aJ p.2.1,aJ p.2.2,.di (cG (s.rows.foldl (eu p) F0)),e5,e6]) (bW (λj Γ=>∃e5 e6,Γ=[.im (cT C D) s,aJ (i:Int),aJ p.2.1,aJ p.2.2,.di (cG ((s.rows.take j).foldl (eu p) F0)),e5,e6]) (br (uC (C:=C) HD (aa 0 rfl))) (aP 5) ⟨_,_,rfl⟩ (λj z Γ hz hΓ=>?_) (λΓ hΓ=>?_)) ?_
 ·obtain⟨e5,e6,rfl⟩:=hΓ;rw[Ql] at hz;obtain⟨r,WY,rfl⟩:=SO.mp hz;have jl:=(Qc.mp WY).1;have fl:=Jd p F0 (s.rows.take j);have tl:(s.rows.take j).length<=30:=by rw[QA];omega
  have Xl:(s.rows.take (j+1)).foldl (eu p) F0=eu p ((s.rows.take j).foldl (eu p) F0) r:=by rw[QK,WY,Q2];rfl
  rw[Xl];generalize (s.rows.take j).foldl (eu p) F0=Fj at fl;have fj:Fj.length<=62:=by omega
  change WS _ _ [.im (cT C D) s,aJ (i:Int),aJ p.2.1,aJ p.2.2,.di (cG Fj),.im aq (jE r),e6] _ _;refine aj (a8 (jf i9 i9 (aa 2 rfl) (EV.iP (n:=r.1) (dJ (aa 5 rfl) ev_int rfl)) (aa 3 rfl)) (λh=>?_) (λh=>aF ⟨.im aq (jE r),e6,?_⟩))
  ·have Xm:gR p r=true:=h;have hcut:cut [PV.int r.1,.int r.2.1,.str r.2.2.1,.str r.2.2.2] none (some 2)=[.int r.1,.int r.2.1]:=rfl;have g:eu p Fj r=cH (cH Fj r.1) r.2.1:=VQ Xm;rw[g];have l1:=oI Fj r.1;refine aj (bW (r:=aq) (xs:=[.int r.1,.int r.2.1]) (λq Γ=>∃e6,Γ=[.im (cT C D) s,aJ (i:Int),aJ p.2.1,aJ p.2.2,.di (cG (([r.1,r.2.1].take q).foldl cH Fj)),.im aq (jE r),e6]) (GY (by show 2<=S8;decide) (EV.cast (IA (aa 5 rfl) ov_none (ov_some ev_int)) (congrArg PV.tup hcut))) (aP 6) ⟨_,rfl⟩ (λq y Γ hy hΓ=>?_) (λΓ hΓ=>?_))
   ·obtain⟨e6,rfl⟩:=hΓ;obtain⟨n,hn,rfl⟩:∃n,[r.1,r.2.1][q]?=some n/\PV.int n=y:=by
     have:([r.1,r.2.1].map PV.int)[q]?=some y:=hy;rw[Ql] at this;exact SO.mp this
    have hnq:([r.1,r.2.1].take (q+1)).foldl cH Fj=cH (([r.1,r.2.1].take q).foldl cH Fj) n:=by rw[QK,hn,Q2];rfl
    rw[hnq];have hql:(([r.1,r.2.1].take q).foldl cH Fj).length<=64:=by
     have key:∀(ks:PH)(G:PR),(ks.foldl cH G).length<=G.length+ks.length:=by
      intro ks
      induction ks with
      | nil=>intro G;exact Sg _
      | cons k ks ih=>intro G;rw[QX,Qo];have:=ih (cH G k);have:=oI G k;omega
     have:=key ([r.1,r.2.1].take q) Fj;have:([r.1,r.2.1].take q).length<=2:=by rw[QA];exact SD _ _
     omega
    generalize ([r.1,r.2.1].take q).foldl cH Fj=G at hql;change WS _ _ [.im (cT C D) s,aJ (i:Int),aJ p.2.1,aJ p.2.2,.di (cG G),.im aq (jE r),.im aq (.int n)] _ _;refine aj (HZ 4 (k:=n) (EV.iP (aa 6 rfl)) (nk 4 M.len rfl) rfl (Sj hql (by decide)) ⟨.im aq (.int n),?_⟩);unfold cH;rfl
   ·obtain⟨e6,rfl⟩:=hΓ;exact⟨.im aq (jE r),e6,rfl⟩
  ·have Xm:¬gR p r=true:=by
    rw[show gR p r=false from h];decide
   rw[show eu p Fj r=Fj from VP Xm]
 ·obtain⟨e5,e6,rfl⟩:=hΓ;refine⟨e5,e6,?_⟩;rw[Qg,QM]
 rintro _ ⟨e5,e6,rfl⟩;exact aj (yF 4 rfl rfl)
def yU:PV->Int
 | .tup (.int n::_)=>n
 | _=>0
abbrev Aj:Stmt:=top pH
abbrev KI:PJ:=["spots","known","lost","found","number","part","whole"]
theorem Jc:bV KI ["spots"] (ao Aj):=Xt
theorem Lu (M:cD K mg)(M3:kU mg)(HD:bI K D gp)(CN:aE P w K mg base "name_words" 1 (aM (yg C D) K))(CT:aE P w K mg base "come_to" 1 (aM (HM C D) K))(CP:aE P w K mg base "places_in" 1 (aM (Dc C D) K))(F:dZ K "places_beyond" "places_beyond" Aj f fd)(hm:mg "places_beyond"=some (.ref f))(hb:Binds K fd ["spots"] []):aE P w K mg base "places_beyond" 2 (aM (iZ C D) K):=by
 have nd:=Jc.nd;have Xq:Qz [("row":Str),"known"]:=by decide
 have Yy:Qz [("row":Str),"part"]:=by decide
 refine gZ (k:=1) F Jc hm hb (λqs T ⟨_,e,_⟩=>by rw[e];rfl) (λV2 A outer st H E qs T hr hS=>?_);obtain⟨s,rfl,hG,rfl⟩:=hS;obtain⟨t,hmp⟩:=M3.places;have hu:=ru hr;refine ai (oO 1 CT hr (ah (aa 0 rfl) ax) ⟨s,rfl,hG,rfl⟩ ?_);rintro _ ⟨fd,rfl,hR⟩;have hlost:(((s.rows.map jE).filter λz=> !gL (dT fd) (yU z)).map yU)=[]:=jv λz hz=>by
  obtain⟨r,WY,rfl⟩:=Qw.mp hz;obtain⟨⟨r0,r1⟩,rk⟩:=hG.rk r WY;have:=hG.ct fd hR r.1.toNat (by omega) (by rw[show((r.1.toNat:Nat):Int)=r.1 by omega];exact rk);rw[show((r.1.toNat:Nat):Int)=r.1 by omega] at this;show(!gL (dT fd) r.1)=false;rw[nO,VT this];rfl
 refine ai (nP 2 (own:=["row"]) (fr:=["known"]) (ix:=[1]) (ra:=aq) (rb:=ag) (p:=λz=> !gL (dT fd) (yU z)) (f:=yU) (bA (so:=ao Aj) (N0:=KI) rfl rfl (λx h=>bb h) (by decide +kernel)) (br (uC (C:=C) HD (aa 0 rfl)))
  (λC s H ex=>aP 0) (λx=>⟨.inr rfl,.inl rfl,trivial⟩) (λC' s H ex z hz=>by
   obtain⟨r,_,rfl⟩:=Qw.mp hz;exact gF (xF hu (EV.iP (n:=r.1) (dJ (aa 0 rfl) ev_int rfl)) (aa 1 rfl))) (λC' s H ex z hz _=>by
   obtain⟨r,_,rfl⟩:=Qw.mp hz;exact EV.iP (n:=r.1) (dJ (aa 0 rfl) ev_int rfl)) ?_)
 rw[hlost];refine WS.freeze 2 rfl (Si _) ?_;refine ai (cR 3 (r:=aq) (ys:=[]) (aR aL (Si _)) ?_);refine bS (N1:=λΓ=>∃e4 e5 e6,Γ=[.im (cT C D) s,.im kY (dT fd),jF [],.mu aq [],e4,e5,e6]) (bW (λi Γ=>∃e4 e5 e6,Γ=[.im (cT C D) s,.im kY (dT fd),jF [],.mu aq [],e4,e5,e6]) (ic M.enumerate (iM (C:=C) HD (aa 0 rfl))) (eN 4 5) ⟨_,_,_,rfl⟩ (λi z Γ hz hΓ=>?_) (λΓ hΓ=>hΓ)) ?_
 ·obtain⟨e4,e5,e6,rfl⟩:=hΓ;obtain⟨e1,e2⟩:=fb hz;rw[Ql] at e2;obtain⟨p,hp,ep⟩:=SO.mp e2;obtain⟨zn,zp⟩:=z;dsimp only at e1 ep;subst ep;subst e1;refine ai (bg 6 (y:=true) (EV.cast (vx (Bc M.any (ba.im (bE (own:=["row"]) (fr:=["part"]) (ix:=[5]) (ra:=ag) (rb:=bM) (p:=λ_=>true) (f:=λ_=>true) (bA (so:=ao Aj) (N0:=KI) rfl rfl (λx h=>bb h) (by decide +kernel)) (br (aa 2 rfl))
   (λC s H ex=>aP 0) (λx=>⟨.inr rfl,.inl rfl,trivial⟩) (λC' s H ex c hc=>dk) (λC' s H ex o ho _=>by cases ho))))) rfl) ?_)
  refine aj (a8 (TW.tv (dg (bL (aa 6 rfl)) (λ_=>eO (aA kM (pM M.len (aI CP hr (ah (aa 0 rfl) (ah (aa 4 rfl) ax)) ⟨s,i,p,rfl,hG,hp,rfl⟩)) (dO hmp))))) (λh=>?_) (λh=>aF ⟨_,_,_,rfl⟩));exfalso;have:=hG.pc p (Qm hp);rw[VU (show¬(16:Int)<((dE s p).length:Int) by omega)] at h;cases h
 rintro _ ⟨e4,e5,e6,rfl⟩;refine WS.freeze 3 rfl (Si _) ?_;exact aj (aN (y:=([]:PH)) (aI CN hr (ah (aa 0 rfl) (ah (aa 3 rfl) ax)) ⟨s,rfl,rfl⟩) rfl)
abbrev NT:Stmt:=top t9
abbrev nHI:PJ:=["spots","found"]
theorem LN (NA:aE P w K mg base "named_again" 2 (aM (iZ C D) K))(CA:aE P w K mg base "called_astray" 1 (aM (iZ C D) K))(NC:aE P w K mg base "not_come_to" 2 (aM (iZ C D) K))(NL:aE P w K mg base "not_called" 2 (aM (iZ C D) K))(EB:aE P w K mg base "ended_at_begin" 2 (aM (iZ C D) K))(RB:aE P w K mg base "rows_beyond" 1 (aM (iZ C D) K))(PY:aE P w K mg base "places_beyond" 2 (aM (iZ C D) K))(PB:aE P w K mg base "parts_beyond" 2 (aM (iZ C D) K))(Df:Def K mg "hindrances" NT ["spots"]):aE P w K mg base "hindrances" 3 (aM (iZ C D) K):=by
 have CA:=CA.mono (show 1<=2 by decide);have RB:=RB.mono (show 1<=2 by decide);refine bD (N:=nHI) (k:=2) Df (λf V2 A outer st H E qs T nd hr hS=>?_);obtain⟨s,rfl,hG,rfl⟩:=hS;have z:(([]:PH)).length+(([]:PH)).length<=S8:=Si _;refine ai (bg 1 (y:=([]:PH)) (ba.im (cM (xs:=[]) (ys:=[]) (ba.im (cM (xs:=[]) (ys:=[]) (ba.im (cM (xs:=[]) (ys:=[]) (aI NA hr (ah (aa 0 rfl) ax) ⟨s,rfl,hG,rfl⟩) (aI CA hr (ah (aa 0 rfl) ax) ⟨s,rfl,hG,rfl⟩) z)) (aI NC hr (ah (aa 0 rfl) ax) ⟨s,rfl,hG,rfl⟩) z)) (aI NL hr (ah (aa 0 rfl) ax) ⟨s,rfl,hG,rfl⟩) z)) ?_);exact aj (aN (y:=([]:PH)) (ba.im (cM (xs:=[]) (ys:=[]) (ba.im (cM (xs:=[]) (ys:=[]) (ba.im (cM (xs:=[]) (ys:=[]) (ba.im (cM (xs:=[]) (ys:=[]) (aa 1 rfl) (aI EB hr (ah (aa 0 rfl) ax) ⟨s,rfl,hG,rfl⟩) z)) (aI RB hr (ah (aa 0 rfl) ax) ⟨s,rfl,hG,rfl⟩) z)) (aI PY hr (ah (aa 0 rfl) ax) ⟨s,rfl,hG,rfl⟩) z)) (aI PB hr (ah (aa 0 rfl) ax) ⟨s,rfl,hG,rfl⟩) z)) rfl)
abbrev N7:Stmt:=top rh
abbrev nNP:PJ:=["text","spots","found"]
def Na (C D:Addr):cS:=λK ps T=>∃(x:Str)(S:List aG)(Ld:List PH),ps=[⟨ar,x⟩]/\w6 x S/\sV S Ld/\Good (Wo S Ld)/\T=cU K (cT C D) (· =Wo S Ld)
theorem L3 (G:wC P w K mg base C D)(CH:aE P w K mg base "hindrances" 3 (aM (iZ C D) K))(Df:Def K mg "need_program" N7 ["text"]):aE P w K mg base "need_program" 6 (aM (Na C D) K):=by
 have CH:=CH.mono (show 3<=5 by decide);refine bD (N:=nNP) (k:=5) Df (λf V2 A outer st H E qs T nd hr hS=>?_);obtain⟨x,S,Ld,rfl,hx,hk,hG,rfl⟩:=hS;refine ai (bg 1 (y:=Wo S Ld) (C7 G hr (ah (aa 0 rfl) ax) hx hk) ?_);refine ai (bg 2 (y:=([]:PH)) (aI CH hr (ah (aa 1 rfl) ax) ⟨Wo S Ld,rfl,hG,rfl⟩) ?_);refine ai (a8 (wW (aa 2 rfl)) (λh=>by cases h) (λ_=>aF ?_));exact aj (aN (aa 1 rfl) rfl)
section
variable {a b:Int}{l:PH}
def Pure:Prop:=∀(VW:PJ)(Ls:List (List Th)),cy VW Ls->∃Ld,sV (av VW Ls) Ld/\Good (Wo (av VW Ls) Ld)
theorem Hk (h:cy VW Ls):w6 (Vh " " (jP VW Ls)) (av VW Ls):=by
 obtain⟨pl,po⟩:=xb h;refine⟨jP VW Ls,_,rfl,λe=>?_,pl,po,tY h⟩;have:=h.l1;have hl:=h.l;cases VW with
 | nil=>rw[QD] at hl;omega
 | cons x VW=>cases Ls with
   | nil=>exact VO h.l1 (by simp)
   | cons L Ls=>
     unfold jP at e;rw[List.zip_cons_cons,Q1] at e;unfold fY at e;simp at e
def cF (S:List α)(a:Nat)(vs:List α):Prop:=∀(i:Nat)(v:α),vs[i]?=some v->S[a+i]?=some v
theorem cF.app {S:List α}{w:Nat}{a b:List α}(h:cF S w (a++b)):cF S w a/\cF S (w+a.length) b:=by
 refine⟨λi v hv=>h i v ?_,λi v hv=>?_⟩
 ·rw[QI (Qc.mp hv).1];exact hv
 ·have:=h (a.length+i) v (by rw[QE (by omega),show a.length+i-a.length=i by omega];exact hv);rw[show w+a.length+i=w+(a.length+i) by omega];exact this
theorem cF.self (S:List α):cF S 0 S:=λi v hv=>by rw[So];exact hv
theorem cF.d {α:Type}{S:List α}{a:Nat}{vs:List α}(h:cF S a vs){i:Nat}{v:α}(hv:vs[i]?=some v)(d:α):S.getD (a+i) d=v/\a+i<S.length:=by
 have:=h i v hv;exact⟨by rw[Qh,this];rfl,(Qc.mp this).1⟩
theorem cF.k {a:Nat}{vs:List aG}(h:cF S a vs){v:aG}(hv:vs[i]?=some v):aU S ((a+i:Nat):Int)=v.kind/\cK S ((a+i:Nat):Int)=v.within/\a+i<S.length:=by
 obtain⟨e,l⟩:=h.d hv dq;unfold aU;rw[show(((a+i:Nat)):Int).toNat=a+i by omega,e];refine⟨rfl,?_,l⟩;show(S.getD (((a+i:Nat)):Int).toNat dq).within=_;rw[show(((a+i:Nat)):Int).toNat=a+i by omega,e]
def cw (S:List aG):PH:=(S.filter λt=>decide (t.kind∈V3)).map (·.within)
theorem gQ (a b:List aG):cw (a++b)=cw a++cw b:=by unfold cw;rw[Rg,Qv]
theorem mI (h:s.kind∉V3):cw [s]=[]:=by unfold cw;rw[Q9 (by simpa using h)];rfl
theorem qm (h:s.kind∈V3):cw [s]=[s.within]:=by unfold cw;rw[Q8 (by simpa using h)];rfl
def i7 (a b:Int)(l:PH):Prop:=l.Nodup/\∀x∈l,a<=x/\x<b
theorem i7.app {c:Int}{m:PH}(h:i7 a b l)(h':i7 b c m)(h1:a<=b)(h2:b<=c):i7 a c (l++m):=by
 refine⟨QO.mpr ⟨h.1,h'.1,λx hx y hy e=>?_⟩,λx hx=>?_⟩
 ·have:=h.2 x hx;have:=h'.2 y hy;omega
 ·rcases Qr.mp hx with z | z
  ·have:=h.2 x z;omega
  ·have:=h'.2 x z;omega
theorem i7.wide {a' b':Int}(h:i7 a b l)(h1:a'<=a)(h2:b<=b'):i7 a' b' l:=⟨h.1,λx hx=>by have:=h.2 x hx;omega⟩
theorem i7.add {x:Int}(h:i7 a b l)(hx:x<a∨b<=x)(lo hi:Int)(h1:lo<=a)(h2:b<=hi)(h3:lo<=x)(h4:x<hi):i7 lo hi (l++[x]):=by
 refine⟨ib h.1 λz=>by have:=h.2 x z;omega,λy hy=>?_⟩;rcases Qr.mp hy with z | z
 ·have:=h.2 y z;omega
 ·rw[Qe.mp z];omega
theorem i7.nil (a b:Int):i7 a b []:=⟨RC,λx h=>by cases h⟩
mutual
theorem cwT {VW:PJ}:∀(t:Th)(a w u:Int),i7 a (a+bp t) (cw (spT VW a w u t))
 | .Wi _,a,w,u=>by rw[spT,mI (show("do":Str)∉V3 by decide +kernel)];exact .nil _ _
 | .call _,a,w,u=>by rw[spT,mI (show("call":Str)∉V3 by decide +kernel)];exact .nil _ _
 | .leave,a,w,u=>by rw[spT,mI (show("leave":Str)∉V3 by decide +kernel)];exact .nil _ _
 | .back,a,w,u=>by rw[spT,mI (show("back":Str)∉V3 by decide +kernel)];exact .nil _ _
 | .V5 x A,a,w,u=>by
   have h:=Ao (VW:=VW) A (a+1) (w+2) a;rw[spT,bp,gQ,gQ,mI (show("while":Str)∉V3 by decide +kernel),qm (show("end":Str)∈V3 by decide +kernel),QW];push_cast;exact h.add (.inl (by omega)) _ _ (by omega) (by omega) (by omega) (by omega)
 | .ifs x A B,a,w,u=>by
   have h:=Ao (VW:=VW) A (a+1) (w+2) a;have h':=Ao (VW:=VW) B (a+2+V0 A) (w+3+(V8 VW A).length) (a+1+V0 A);rw[spT,bp,gQ,gQ,gQ,gQ,mI (show("if":Str)∉V3 by decide +kernel),qm (show("else":Str)∈V3 by decide +kernel),qm (show("end":Str)∈V3 by decide +kernel),QW];push_cast;have g1:i7 a (a+1+V0 A) (cw (bY VW (a+1) (w+2) a A)++[a]):=h.add (.inl (by omega)) _ _ (by omega) (by omega) (by omega) (by omega);have g2:i7 (a+1+V0 A) (a+2+V0 A+V0 B) (cw (bY VW (a+2+V0 A) (w+3+(V8 VW A).length) (a+1+V0 A) B)++[a+1+V0 A]):=h'.add (.inl (by omega)) _ _ (by omega) (by omega) (by omega) (by omega);have g:=g1.app g2 (by omega) (by omega);rw[Qy] at g;exact g.wide (by omega) (by omega)
theorem Ao {VW:PJ}:∀(ts:List Th)(a w u:Int),i7 a (a+V0 ts) (cw (bY VW a w u ts))
 | [],a,w,u=>by rw[bY];exact .nil _ _
 | t::ts,a,w,u=>by
   have h:=cwT (VW:=VW) t a w u;have h':=Ao (VW:=VW) ts (a+bp t) (w+(cW VW t).length) u;rw[bY,gQ,V0];push_cast;exact(h.app h' (by omega) (by omega)).wide (by omega) (by omega)
end
end
variable {u:Int}{kd:Str}
theorem Oz {VW:PJ}:∀(zs:List (Str×List Th))(a w:Int),i7 a (a+da zs) (cw (iu VW a w zs))
 | [],a,w=>by rw[iu];exact .nil _ _
 | z::r,a,w=>by
   have h:=Ao (VW:=VW) z.2 (a+1) (w+2) a;have h':=Oz (VW:=VW) r (a+2+V0 z.2) (w+3+(V8 VW z.2).length);rw[iu,da,gQ,gQ,gQ,mI (show("part":Str)∉V3 by decide +kernel),qm (show("end":Str)∈V3 by decide +kernel),QW];push_cast;have g1:i7 a (a+2+V0 z.2) (cw (bY VW (a+1) (w+2) a z.2)++[a]):=h.add (.inl (by omega)) _ _ (by omega) (by omega) (by omega) (by omega);have g:=g1.app h' (by omega) (by omega);rw[Qy] at g;exact g.wide (by omega) (by omega)
theorem D7 {a b:Option Int}(h:a.map V.int=b.map V.int):a=b:=by
 cases a<;>cases b<;>simp at h<;>simp[h]
theorem vD (F:PR)(k v j:Int):aW (jk F k v) j=if j=k then some v else aW F j:=by
 have h:=DL (cz (cG F)) (Sum.inl k:Key) (Sum.inl j) (.int v);rw[va,kL,kL] at h;apply D7;rw[h];by_cases e:j=k
 ·rw[VQ (by rw[e]),VQ e];rfl
 ·rw[VP (λz=>e (Sum.inl.inj z)),VP e]
theorem gD {k:Int}:(aW F k).isSome=true↔k∈F.map (·.1):=by
 unfold aW;rw[SS,List.find?_isSome];simp only[decide_eq_true_eq,Qw]
theorem yN {k:Int}:∀{ps:List (Int×aG)}{F:PR},(∀z∈ps,z.2.kind∈V3->z.2.within≠k)->aW (ps.foldl gN F) k=aW F k
 | [],F,_=>rfl
 | y::ps,F,h=>by
   rw[QX,yN λz hz=>h z (Qi _ hz)];unfold gN;split
   ·rename_i hc;rw[vD,VP (λe=>h y Qk hc e.symm)]
   ·rfl
theorem rO:∀{ps:List (Int×aG)}{F:PR},((ps.filter λz=>decide (z.2.kind∈V3)).map (·.2.within)).Nodup->∀z∈ps,z.2.kind∈V3->aW (ps.foldl gN F) z.2.within=some z.1
 | y::ps,F,nd,z,hz,hc=>by
   rw[QX];by_cases hy:y.2.kind∈V3
   ·rw[Q8 (by simpa using hy),QJ,QF] at nd;rcases Qq.mp hz with rfl | hz
    ·rw[yN λx hx hxc e=>nd.1 (Qw.mpr ⟨x,QT.mpr ⟨hx,by simpa using hxc⟩,e⟩)];unfold gN;rw[VQ hy,vD,VQ rfl]
    ·exact rO nd.2 z hz hc
   ·rw[Q9 (by simpa using hy)] at nd;rcases Qq.mp hz with rfl | hz
    ·exact VO hc hy
    ·exact rO nd z hz hc
theorem pV (S:List aG):(nums S).map (·.2)=S:=by
 refine Q0 λi=>?_;rw[Ql];rcases Sm i S.length with h | h
 ·have hn:i<(nums S).length:=by rw[cV];exact h
  rw[Qd hn];have:=(fb (Qd hn)).2;rw[this];rfl
 ·rw[QH (by rw[cV];exact h),QH h];rfl
theorem Gq (S:List aG):cw S=((nums S).filter λz=>decide (z.2.kind∈V3)).map (·.2.within):=by
 conv=>lhs;rw[← pV S]
 unfold cw;rw[Sd,QY];rfl
theorem vT (h:S[n]?=some s):((n:Int),s)∈nums S:=by
 have hl:=(Qc.mp h).1;have hn:n<(nums S).length:=by rw[cV];exact hl
 obtain⟨e1,e2⟩:=fb (Qd hn);rw[h] at e2;have:(nums S)[n]=((n:Int),s):=SU e1 (Option.some.inj e2).symm;rw[← this];exact QP hn
theorem rC (nd:(cw S).Nodup)(h:S[n]?=some s)(hc:s.kind∈V3):aW (eK S) s.within=some (n:Int):=by
 rw[Gq] at nd;exact rO nd ((n:Int),s) (vT h) hc
def Up (S:List aG)(u:Int)(kd:Str)(a:Int):Prop:=∃k:Nat,Wm (cK S) k u=a/\(∀j,j<=k->0<=Wm (cK S) j u/\Wm (cK S) j u<(S.length:Int))/\(∀j,j<k->aU S (Wm (cK S) j u)≠kd)/\aU S a=kd
theorem rN (f:α->α)(x:α)(j:Nat):Wm f (j+1) x=Wm f j (f x):=by
 rw[show j+1=1+j by omega,oB];rfl
theorem Up.here (h0:0<=u)(h1:u<(S.length:Int))(hk:aU S u=kd):Up S u kd u:=⟨0,rfl,λj hj=>by
 obtain rfl:j=0:=by omega
 exact⟨h0,h1⟩,λj hj=>by omega,hk⟩
theorem Up.step {a:Int}(h0:0<=u)(h1:u<(S.length:Int))(hk:aU S u≠kd)(h:Up S (cK S u) kd a):Up S u kd a:=by
 obtain⟨k,e,Xm,Wx,ha⟩:=h;refine⟨k+1,by rw[rN];exact e,λj hj=>?_,λj hj=>?_,ha⟩
 ·cases j with
  | zero=>exact⟨h0,h1⟩
  | succ j=>rw[rN];exact Xm j (by omega)
 ·cases j with
  | zero=>exact hk
  | succ j=>rw[rN];exact Wx j (by omega)
mutual
def fN (a wl pe:Int):Th->List PH
 | .Wi _=>[[a+1]]
 | .call _=>[[a+1]]
 | .ifs _ A B=>[[a+1,a+2+V0 A]]++gk (a+1) wl pe A++([[a+2+V0 A+V0 B]]++(gk (a+2+V0 A) wl pe B++[[a+3+V0 A+V0 B]]))
 | .V5 _ A=>[[a+1,a+2+V0 A]]++(gk (a+1) (a+2+V0 A) pe A++[[a]])
 | .leave=>[[wl]]
 | .back=>[[pe]]
def gk (a wl pe:Int):List Th->List PH
 | []=>[]
 | t::ts=>fN a wl pe t++gk (a+bp t) wl pe ts
end
mutual
theorem oA:∀(t:Th)(a wl pe:Int),(fN a wl pe t).length=bp t
 | .Wi _,_,_,_=>by simp[fN,bp]
 | .call _,_,_,_=>by simp[fN,bp]
 | .ifs x A B,a,wl,pe=>by
   simp only[fN,bp,Qj,dP A,dP B,Qo,QD];omega
 | .V5 x A,a,wl,pe=>by
   simp only[fN,bp,Qj,dP A,Qo,QD];omega
 | .leave,_,_,_=>by simp[fN,bp]
 | .back,_,_,_=>by simp[fN,bp]
theorem dP:∀(ts:List Th)(a wl pe:Int),(gk a wl pe ts).length=V0 ts
 | [],_,_,_=>by simp[gk,V0]
 | t::ts,a,wl,pe=>by rw[gk,V0,Qj,oA t,dP ts]
end
section
variable {B pe:Int}{a:Nat}
def tN (a:Int):List (Str×List Th)->List PH
 | []=>[]
 | z::r=>[[a+1]]++(gk (a+1) 0 (a+1+V0 z.2) z.2++([[]]++tN (a+2+V0 z.2) r))
theorem yt:∀(zs:List (Str×List Th))(a:Int),(tN a zs).length=da zs
 | [],_=>rfl
 | z::r,a=>by
   rw[tN,da];simp only[Qj,dP,yt r,Qo,QD];omega
structure lV (S:List aG)(Ld:List PH)(B pe:Int)(n:Nat):Prop where
 ld:fz S (eK S) (n:Int) (Ld.getD n [])
 rg:∀l∈Ld.getD n [],B<=l/\l<=pe
 ln:(Ld.getD n []).length<=2
 go:a7 (aU S (n:Int))=false->∃l r,Ld.getD n []=l::r/\((n:Int)<l∨a7 (aU S l)=true)
structure AQ (S:List aG)(B pe wl u:Int)(lp:Bool)(hi:Nat):Prop where
 pt:∃p,Up S u "part" p/\aW (eK S) p=some pe
 wh:lp=true->(∃A,Up S u "while" A/\aW (eK S) A=some (wl-1))/\(hi:Int)<=wl/\wl<=pe
 pe:(hi:Int)<=pe
 u0:0<=u
 u1:u<(S.length:Int)
def hV (S:List aG)(Ld:List PH)(B pe:Int)(a k:Nat):Prop:=∀i,i<k->lV S Ld B pe (a+i)
theorem hV.app {k m:Nat}(h:hV S Ld B pe a k)(h':hV S Ld B pe (a+k) m):hV S Ld B pe a (k+m):=λi hi=>by
 by_cases q:i<k
 ·exact h i q
 ·have:=h' (i-k) (by omega);rwa [show a+k+(i-k)=a+i by omega] at this
theorem hV.one (h:lV S Ld B pe a):hV S Ld B pe a 1:=λi hi=>by
 obtain rfl:i=0:=by omega
 exact h
theorem hV.nil:hV S Ld B pe a 0:=λi hi=>by omega
theorem qT:a7 "do"=true:=by decide +kernel
theorem mN:a7 "call"=true:=by decide +kernel
theorem mi:a7 "if"=true:=by decide +kernel
theorem gz:a7 "while"=true:=by decide +kernel
theorem jB (hL:Ld.getD n []=[l])(h:fz S (eK S) (n:Int) [l])(h0:B<=l)(h1:l<=pe)(hg:(n:Int)<l∨a7 (aU S l)=true):lV S Ld B pe n:=by
 refine⟨by rw[hL];exact h,by rw[hL];intro x hx;rw[Qe.mp hx];exact⟨h0,h1⟩,by rw[hL];exact Sr 1,λ_=>⟨l,[],hL,hg⟩⟩
theorem By (hL:Ld.getD n []=[l,m])(h:fz S (eK S) (n:Int) [l,m])(h0:B<=l)(h1:l<=pe)(h2:B<=m)(h3:m<=pe)(hg:a7 (aU S (n:Int))=true):lV S Ld B pe n:=by
 refine⟨by rw[hL];exact h,by
  rw[hL];intro x hx;rcases Qq.mp hx with rfl | hx
  ·exact⟨h0,h1⟩
  ·rw[Qe.mp hx];exact⟨h2,h3⟩,by rw[hL];exact Sg 2,λq=>by rw[hg] at q;cases q⟩
end
section
variable {B pe:Int}(Yj:(cw S).Nodup)
include Yj
mutual
theorem stT:∀(t:Th)(lp:Bool)(a:Nat)(w u wl:Int),bO lo m lp t->cF S a (spT VW (a:Int) w u t)->cF Ld a (fN (a:Int) wl pe t)->AQ S B pe wl u lp (a+bp t)->B<=(a:Int)->hV S Ld B pe a (bp t)
 | .Wi x,lp,a,w,u,wl,h,hS,hL,hc,hB=>by
   rw[spT] at hS;rw[fN] at hL;simp only[bp] at hc ⊢;obtain⟨k1,k2,k3⟩:=hS.k (i:=0) rfl;have e1:=(hL.d (i:=0) rfl []).1;have:=hc.pe;refine .one (jB e1 (.Yn (.inr (.inl k1))) (by omega) (by push_cast at this;omega) (.inl ?_));show(a:Int)<_;omega
 | .call x,lp,a,w,u,wl,h,hS,hL,hc,hB=>by
   rw[spT] at hS;rw[fN] at hL;simp only[bp] at hc ⊢;obtain⟨k1,k2,k3⟩:=hS.k (i:=0) rfl;have e1:=(hL.d (i:=0) rfl []).1;have:=hc.pe;refine .one (jB e1 (.Yn (.inr (.inr k1))) (by omega) (by push_cast at this;omega) (.inl ?_));show(a:Int)<_;omega
 | .leave,lp,a,w,u,wl,h,hS,hL,hc,hB=>by
   simp only[bO] at h;rw[spT] at hS;rw[fN] at hL;simp only[bp] at hc ⊢;obtain⟨k1,k2,k3⟩:=hS.k (i:=0) rfl;have e1:=(hL.d (i:=0) rfl []).1;obtain⟨⟨A,hA,hF⟩,w1,w2⟩:=hc.wh h;push_cast at w1;have hl:fz S (eK S) ((a+0:Nat):Int) [wl-1+1]:=.YR (a:=A) k1 (by unfold Ar;rw[k2];exact hA) hF;rw[show wl-1+1=wl by omega] at hl;refine .one (jB e1 hl (by omega) (by omega) (.inl ?_));show(a:Int)<_;omega
 | .back,lp,a,w,u,wl,h,hS,hL,hc,hB=>by
   rw[spT] at hS;rw[fN] at hL;simp only[bp] at hc ⊢;obtain⟨k1,k2,k3⟩:=hS.k (i:=0) rfl;have e1:=(hL.d (i:=0) rfl []).1;obtain⟨p,hp,hF⟩:=hc.pt;have w1:=hc.pe;push_cast at w1;refine .one (jB e1 (.Y9 (a:=p) k1 (by unfold Ar;rw[show cK S (a:Int)=u from k2];exact hp) hF) (by omega) (by omega) (.inl ?_));show(a:Int)<_;omega
 | .V5 x A,lp,a,w,u,wl,h,hS,hL,hc,hB=>by
   simp only[bO] at h;rw[spT] at hS;rw[fN] at hL;simp only[bp] at hc ⊢;obtain⟨s1,s2⟩:=hS.app;obtain⟨s2,s3⟩:=s2.app;obtain⟨d1,d2⟩:=hL.app;obtain⟨d2,d3⟩:=d2.app;rw[cj] at s3;rw[dP] at d3;simp only[Qo,QD] at s2 s3 d2 d3;obtain⟨k1,k2,k3⟩:=s1.k (i:=0) rfl;obtain⟨k4,k5,k6⟩:=s3.k (i:=0) rfl;have e1:=(d1.d (i:=0) rfl []).1;have e3:=(d3.d (i:=0) rfl []).1;have hF:aW (eK S) (a:Int)=some (((a+(0+1)+V0 A+0:Nat)):Int):=rC (s:=⟨"end","",w+2+(V8 VW A).length,(a:Int)⟩) Yj (s3 0 _ rfl) (show("end":Str)∈V3 by decide +kernel);have hpe:=hc.pe;push_cast at hpe hF;have Yg:aU S (a:Int)="while":=k1;have k2':cK S (a:Int)=u:=k2;have ala:a<S.length:=k3;have p1:lV S Ld B pe a:=by
    have hl:fz S (eK S) (a:Int) [(a:Int)+1,(a:Int)+(0+1)+V0 A+0+1]:=.row (.inr Yg) hF;rw[show(a:Int)+(0+1)+V0 A+0+1=(a:Int)+2+V0 A by omega] at hl;exact By e1 hl (by omega) (by omega) (by omega) (by omega) (by rw[Yg];exact gz)
   have c2:AQ S B pe ((a:Int)+2+V0 A) (a:Int) true (a+(0+1)+V0 A):=by
    obtain⟨p,hp,hpF⟩:=hc.pt;refine⟨⟨p,.step (by omega) (by omega) (by rw[Yg];decide +kernel) (by rw[k2'];exact hp),hpF⟩,λ_=>⟨⟨(a:Int),.here (by omega) (by omega) Yg,?_⟩,by push_cast;omega,by omega⟩,by push_cast;omega,by omega,by omega⟩;rw[hF];congr 1;omega
   have p2:=AE A true (a+(0+1)) (w+2) (a:Int) ((a:Int)+2+V0 A) h.2 (by push_cast;exact s2) (by push_cast;exact d2) c2 (by push_cast;omega);have p3:lV S Ld B pe (a+(0+1)+V0 A+0):=by
    have hl:fz S (eK S) ((a+(0+1)+V0 A+0:Nat):Int) [cK S ((a+(0+1)+V0 A+0:Nat):Int)]:=.Y4 k4 (by rw[k5];show(0:Int)<=(a:Int);omega) (by rw[k5];show(a:Int)<_;omega) (by rw[k5];exact Yg);rw[k5] at hl;exact jB e3 hl (by omega) (by omega) (.inr (by rw[Yg];exact gz))
   have:=(hV.one p1).app (p2.app (hV.one p3));rwa [show 1+(V0 A+1)=2+V0 A by omega] at this
 | .ifs x A Bb,lp,a,w,u,wl,h,hS,hL,hc,hB=>by
   simp only[bO] at h;rw[spT,Qy] at hS;rw[fN,Qy] at hL;simp only[bp] at hc ⊢;obtain⟨s1,s2⟩:=hS.app;obtain⟨s2,s3⟩:=s2.app;obtain⟨s3,s4⟩:=s3.app;obtain⟨s4,s5⟩:=s4.app;obtain⟨d1,d2⟩:=hL.app;obtain⟨d2,d3⟩:=d2.app;obtain⟨d3,d4⟩:=d3.app;obtain⟨d4,d5⟩:=d4.app;rw[cj] at s3 s4 s5;rw[cj] at s5;rw[dP] at d3 d4 d5;rw[dP] at d5;simp only[Qo,QD] at s2 s3 s4 s5 d2 d3 d4 d5;obtain⟨k1,k2,k3⟩:=s1.k (i:=0) rfl;obtain⟨k4,k5,k6⟩:=s3.k (i:=0) rfl;obtain⟨k7,k8,k9⟩:=s5.k (i:=0) rfl;have e1:=(d1.d (i:=0) rfl []).1;have e3:=(d3.d (i:=0) rfl []).1;have e5:=(d5.d (i:=0) rfl []).1;have hF:aW (eK S) (a:Int)=some (((a+(0+1)+V0 A+0:Nat)):Int):=rC (s:=⟨"else","",w+2+(V8 VW A).length,(a:Int)⟩) Yj (s3 0 _ rfl) (show("else":Str)∈V3 by decide +kernel);have hF2:aW (eK S) ((a:Int)+1+V0 A)=some (((a+(0+1)+V0 A+(0+1)+V0 Bb+0:Nat)):Int):=rC (s:=⟨"end","",w+3+(V8 VW A).length+(V8 VW Bb).length,(a:Int)+1+V0 A⟩) Yj (s5 0 _ rfl) (show("end":Str)∈V3 by decide +kernel);have hpe:=hc.pe;push_cast at hpe hF hF2;have Yg:aU S (a:Int)="if":=k1;have k2':cK S (a:Int)=u:=k2;have ala:a<S.length:=k3;have en:((a+(0+1)+V0 A+0:Nat):Int)=(a:Int)+1+V0 A:=by push_cast;omega
   rw[en] at k4 k5;have k4':aU S ((a:Int)+1+V0 A)="else":=k4;have k5':cK S ((a:Int)+1+V0 A)=(a:Int):=k5;have p1:lV S Ld B pe a:=by
    have hl:fz S (eK S) (a:Int) [(a:Int)+1,(a:Int)+(0+1)+V0 A+0+1]:=.row (.inl Yg) hF;rw[show(a:Int)+(0+1)+V0 A+0+1=(a:Int)+2+V0 A by omega] at hl;exact By e1 hl (by omega) (by omega) (by omega) (by omega) (by rw[Yg];exact mi)
   have cA:AQ S B pe wl (a:Int) lp (a+(0+1)+V0 A):=by
    obtain⟨p,hp,hpF⟩:=hc.pt;refine⟨⟨p,.step (by omega) (by omega) (by rw[Yg];decide +kernel) (by rw[k2'];exact hp),hpF⟩,λq=>?_,by push_cast;omega,by omega,by omega⟩;obtain⟨⟨Aw,hA,hAF⟩,w1,w2⟩:=hc.wh q;push_cast at w1;exact⟨⟨Aw,.step (by omega) (by omega) (by rw[Yg];decide +kernel) (by rw[k2'];exact hA),hAF⟩,by push_cast;omega,w2⟩
   have cB:AQ S B pe wl ((a:Int)+1+V0 A) lp (a+(0+1)+V0 A+(0+1)+V0 Bb):=by
    obtain⟨p,hp,hpF⟩:=cA.pt;refine⟨⟨p,.step (by omega) (by omega) (by rw[k4'];decide +kernel) (by rw[k5'];exact hp),hpF⟩,λq=>?_,by push_cast;omega,by omega,by omega⟩;obtain⟨⟨Aw,hA,hAF⟩,w1,w2⟩:=cA.wh q;obtain⟨_,w3,_⟩:=hc.wh q;push_cast at w3;exact⟨⟨Aw,.step (by omega) (by omega) (by rw[k4'];decide +kernel) (by rw[k5'];exact hA),hAF⟩,by push_cast;omega,w2⟩
   have p2:=AE A lp (a+(0+1)) (w+2) (a:Int) wl h.2.1 (by push_cast;exact s2) (by push_cast;exact d2) cA (by push_cast;omega);have p3:lV S Ld B pe (a+(0+1)+V0 A+0):=by
    have hl:fz S (eK S) ((a+(0+1)+V0 A+0:Nat):Int) [(a:Int)+(0+1)+V0 A+(0+1)+V0 Bb+0]:=by rw[en];exact .Y7 k4' hF2
    rw[show(a:Int)+(0+1)+V0 A+(0+1)+V0 Bb+0=(a:Int)+2+V0 A+V0 Bb by omega] at hl;exact jB e3 hl (by omega) (by omega) (.inl (by push_cast;omega))
   have q4:(((a+(0+1)+V0 A+(0+1):Nat)):Int)=(a:Int)+2+V0 A:=by push_cast;omega
   have p4:=AE Bb lp (a+(0+1)+V0 A+(0+1)) (w+3+(V8 VW A).length) ((a:Int)+1+V0 A) wl h.2.2 (by rw[q4];exact s4) (by rw[q4];exact d4) cB (by push_cast;omega);have p5:lV S Ld B pe (a+(0+1)+V0 A+(0+1)+V0 Bb+0):=by
    have hl:fz S (eK S) ((a+(0+1)+V0 A+(0+1)+V0 Bb+0:Nat):Int) [((a+(0+1)+V0 A+(0+1)+V0 Bb+0:Nat):Int)+1]:=.Y6 k7 (by rw[k8];show(0:Int)<=(a:Int)+1+V0 A;omega) (by rw[k8];show(a:Int)+1+V0 A<_;omega) (by rw[k8];exact k4');rw[show((a+(0+1)+V0 A+(0+1)+V0 Bb+0:Nat):Int)+1=(a:Int)+3+V0 A+V0 Bb by push_cast;omega] at hl;exact jB e5 hl (by omega) (by omega) (.inl (by push_cast;omega))
   have:=(hV.one p1).app (p2.app ((hV.one p3).app (p4.app (hV.one p5))));rwa [show 1+(V0 A+(1+(V0 Bb+1)))=3+V0 A+V0 Bb by omega] at this
theorem AE:∀(ts:List Th)(lp:Bool)(a:Nat)(w u wl:Int),bz lo m lp ts->cF S a (bY VW (a:Int) w u ts)->cF Ld a (gk (a:Int) wl pe ts)->AQ S B pe wl u lp (a+V0 ts)->B<=(a:Int)->hV S Ld B pe a (V0 ts)
 | [],lp,a,w,u,wl,h,hS,hL,hc,hB=>by rw[V0];exact .nil
 | t::ts,lp,a,w,u,wl,h,hS,hL,hc,hB=>by
   simp only[bz] at h;rw[bY] at hS;rw[gk] at hL;rw[V0] at hc ⊢;obtain⟨s1,s2⟩:=hS.app;obtain⟨d1,d2⟩:=hL.app;rw[ka] at s2;rw[oA] at d2;have hpe:=hc.pe;push_cast at hpe;have p1:=stT t lp a w u wl h.1 s1 d1 ⟨hc.pt,λq=>by
    obtain⟨x,y,z⟩:=hc.wh q;push_cast at y;exact⟨x,by push_cast;omega,z⟩,by push_cast;omega,hc.u0,hc.u1⟩ hB
   have p2:=AE ts lp (a+bp t) (w+(cW VW t).length) u wl h.2.2 (by push_cast;exact s2) (by push_cast;exact d2) ⟨hc.pt,λq=>by
    obtain⟨x,y,z⟩:=hc.wh q;push_cast at y;exact⟨x,by push_cast;omega,z⟩,by push_cast;omega,hc.u0,hc.u1⟩ (by push_cast;omega)
   exact p1.app p2
end
end
structure KH (S:List aG)(Ld:List PH)(VW:PJ)(f:Nat)(w:Int)(z:Str×List Th):Prop where
 s:cF S f ([⟨"part",z.1,w, -1⟩]++(bY VW ((f:Int)+1) (w+2) (f:Int) z.2++[⟨"end","",w+2+(V8 VW z.2).length,(f:Int)⟩]))
 d:cF Ld f ([[(f:Int)+1]]++(gk ((f:Int)+1) 0 ((f:Int)+1+V0 z.2) z.2++[[]]))
theorem cF.pre {S:List α}{a:Nat}{x y:List α}(h:cF S a (x++y)):cF S a x:=h.app.1
theorem z6 {S:List aG}{Ld:List PH}{VW:PJ}:∀{zs:List (Str×List Th)}{a:Nat}{w:Int},cF S a (iu VW (a:Int) w zs)->cF Ld a (tN (a:Int) zs)->∀(j:Nat)(z:Str×List Th),zs[j]?=some z->∃w',KH S Ld VW (a+da (zs.take j)) w' z
 | [],_,_,_,_,j,z,h=>by simp at h
 | y::r,a,w,hS,hL,j,z,h=>by
   rw[iu] at hS;rw[tN] at hL;cases j with
   | zero=>
     have e:y=z:=by simpa using h
     subst e;refine⟨w,?_,?_⟩
     ·rw[show([⟨"part",y.1,w, -1⟩]++(bY VW ((a:Int)+1) (w+2) (a:Int) y.2++([⟨"end","",w+2+(V8 VW y.2).length,(a:Int)⟩]++iu VW ((a:Int)+2+V0 y.2) (w+3+(V8 VW y.2).length) r)):List aG)=([⟨"part",y.1,w, -1⟩]++(bY VW ((a:Int)+1) (w+2) (a:Int) y.2++[⟨"end","",w+2+(V8 VW y.2).length,(a:Int)⟩]))++iu VW ((a:Int)+2+V0 y.2) (w+3+(V8 VW y.2).length) r by simp only[Qy]] at hS;exact hS.pre
     ·rw[show([[(a:Int)+1]]++(gk ((a:Int)+1) 0 ((a:Int)+1+V0 y.2) y.2++([[]]++tN ((a:Int)+2+V0 y.2) r)):List PH)=([[(a:Int)+1]]++(gk ((a:Int)+1) 0 ((a:Int)+1+V0 y.2) y.2++[[]]))++tN ((a:Int)+2+V0 y.2) r by simp only[Qy]] at hL;exact hL.pre
   | succ j=>
     have s4:=hS.app.2.app.2.app.2;have d4:=hL.app.2.app.2.app.2;rw[cj] at s4;rw[dP] at d4;simp only[Qo,QD] at s4 d4;have e:a+(0+1)+V0 y.2+(0+1)=a+2+V0 y.2:=by omega
     rw[e] at s4 d4;have:=z6 (zs:=r) (a:=a+2+V0 y.2) (w:=w+3+(V8 VW y.2).length) (by push_cast;exact s4) (by push_cast;exact d4) j z (by simpa using h);rw[QS,da];rwa [show a+(2+V0 y.2+da (r.take j))=a+2+V0 y.2+da (r.take j) by omega]
theorem cover:∀(zs:List (Str×List Th))(n:Nat),n<da zs->∃(j:Nat)(z:Str×List Th),zs[j]?=some z/\da (zs.take j)<=n/\n<da (zs.take j)+2+V0 z.2
 | [],n,h=>by rw[da] at h;omega
 | y::r,n,h=>by
   rw[da] at h;by_cases q:n<2+V0 y.2
   ·exact⟨0,y,rfl,Si _,by show n<0+2+_;omega⟩
   ·obtain⟨j,z,h1,h2,h3⟩:=cover r (n-(2+V0 y.2)) (by omega);exact⟨j+1,z,h1,by rw[QS,da];omega,by rw[QS,da];omega⟩
theorem ox:∀(zs:List (Str×List Th))(j k:Nat)(z:Str×List Th),zs[j]?=some z->j<k->da (zs.take j)+2+V0 z.2<=da (zs.take k)
 | [],j,k,z,h,_=>by simp at h
 | y::r,0,k+1,z,h,_=>by
   have e:y=z:=by simpa using h
   subst e;rw[QS,da,Ri,da];omega
 | y::r,j+1,k+1,z,h,hk=>by
   have:=ox r j k z (by simpa using h) (by omega);rw[QS,QS,da,da];omega
section
variable {f:Nat}{w:Int}
abbrev lst (f:Nat)(z:Str×List Th):Nat:=f+1+V0 z.2
structure fw (S:List aG)(Ld:List PH)(VW:PJ)(f:Nat)(w:Int)(z:Str×List Th):Prop where
 k:aU S (f:Int)="part"
 nm:S[f]?=some ⟨"part",z.1,w, -1⟩
 s:cF S (f+1) (bY VW (((f+1:Nat)):Int) (w+2) (f:Int) z.2)
 d:cF Ld (f+1) (gk (((f+1:Nat)):Int) 0 ((lst f z:Nat):Int) z.2)
 e:S[lst f z]?=some ⟨"end","",w+2+(V8 VW z.2).length,(f:Int)⟩
 df:Ld.getD f []=[(f:Int)+1]
 dl:Ld.getD (lst f z) []=[]
 dn:lst f z<Ld.length
theorem KH.p (h:KH S Ld VW f w z):fw S Ld VW f w z:=by
 obtain⟨hS,hL⟩:=h;obtain⟨s1,s2⟩:=hS.app;obtain⟨s2,s3⟩:=s2.app;obtain⟨d1,d2⟩:=hL.app;obtain⟨d2,d3⟩:=d2.app;rw[cj] at s3;rw[dP] at d3;simp only[Qo,QD] at s2 s3 d2 d3;refine⟨(s1.k (i:=0) rfl).1,s1 0 _ rfl,by push_cast;exact s2,by push_cast;exact d2,s3 0 _ rfl,(d1.d (i:=0) rfl []).1,(d3.d (i:=0) rfl []).1,(d3.d (i:=0) rfl []).2⟩
theorem dC (h:S[n]?=some s):aU S (n:Int)=s.kind/\cK S (n:Int)=s.within:=by
 have e:S.getD ((n:Nat):Int).toNat dq=s:=by rw[show((n:Nat):Int).toNat=n by omega,Qh,h];rfl
 exact⟨by unfold aU;rw[e],by show(S.getD ((n:Nat):Int).toNat dq).within=_;rw[e]⟩
theorem fw.cl (h:fw S Ld VW f w z)(Yj:(cw S).Nodup):aW (eK S) (f:Int)=some ((lst f z:Nat):Int):=rC Yj h.e (show("end":Str)∈V3 by decide +kernel)
theorem fw.all (h:fw S Ld VW f w z)(Yj:(cw S).Nodup)(V4:bz lo m false z.2):∀n,f<=n->n<lst f z->lV S Ld ((f:Int)+1) ((lst f z:Nat):Int) n:=by
 have fl:f<S.length:=(Qc.mp h.nm).1;have hs:=AE (B:=(f:Int)+1) (lo:=lo) (m:=m) Yj z.2 false (f+1) (w+2) (f:Int) 0 V4 h.s h.d ⟨⟨(f:Int),.here (by omega) (by omega) h.k,h.cl Yj⟩,(λq=>by cases q),Qa _,by omega,by omega⟩ (by push_cast;omega);intro n h1 h2;by_cases q:n=f
 ·subst q;exact jB h.df (.Yn (.inl h.k)) (by omega) (by push_cast;omega) (.inl (by omega))
 ·have h2':n<f+1+V0 z.2:=h2;have:=hs (n-(f+1)) (by omega);rwa [show f+1+(n-(f+1))=n by omega] at this
theorem fw.last (h:fw S Ld VW f w z):fz S (eK S) ((lst f z:Nat):Int) (Ld.getD (lst f z) []):=by
 obtain⟨k1,k2⟩:=dC h.e;have fl:f<S.length:=(Qc.mp h.nm).1;rw[h.dl];exact .Y5 k1 (by rw[k2];show(0:Int)<=(f:Int);omega) (by rw[k2];show(f:Int)<_;omega) (by rw[k2];exact h.k)
end
abbrev dG (VW:PJ)(Ls:List (List Th)):List (Str×List Th):=VW.zip Ls
abbrev cJ (VW:PJ)(Ls:List (List Th)):List PH:=tN 0 (dG VW Ls)
abbrev fst (VW:PJ)(Ls:List (List Th))(j:Nat):Nat:=da ((dG VW Ls).take j)
theorem jx (h:(dG VW Ls)[j]?=some z):∃w,fw (av VW Ls) (cJ VW Ls) VW (fst VW Ls j) w z:=by
 obtain⟨w,hw⟩:=z6 (S:=av VW Ls) (Ld:=cJ VW Ls) (VW:=VW) (zs:=dG VW Ls) (a:=0) (w:=0) (cF.self _) (cF.self _) j z h;rw[So] at hw;exact⟨w,hw.p⟩
theorem mG:(cw (av VW Ls)).Nodup:=(Oz (VW:=VW) (dG VW Ls) 0 0).1
theorem fq (h:cy VW Ls)(hz:(dG VW Ls)[j]?=some z):bz (j:Int) (Ls.length:Int) false z.2/\h9 z.2/\bR z.2<=14/\VW[j]?=some z.1/\Ls[j]?=some z.2:=by
 obtain⟨h1,h2⟩:=kA hz;have hm:=Qm h2;exact⟨h.ok j z.2 h2,h.hd z.2 hm,h.rw z.2 hm,h1,h2⟩
theorem y4:(av VW Ls).length=da (dG VW Ls):=xE _ _ _
theorem LU:(cJ VW Ls).length=da (dG VW Ls):=yt _ _
theorem md (h:cy VW Ls)(n:Nat)(hn:n<(av VW Ls).length):∃(j:Nat)(z:Str×List Th)(w:Int),(dG VW Ls)[j]?=some z/\fw (av VW Ls) (cJ VW Ls) VW (fst VW Ls j) w z/\fst VW Ls j<=n/\n<=lst (fst VW Ls j) z/\lst (fst VW Ls j) z<(av VW Ls).length:=by
 rw[y4] at hn;obtain⟨j,z,h1,h2,h3⟩:=cover _ n hn;obtain⟨w,hb⟩:=jx (VW:=VW) (Ls:=Ls) h1;refine⟨j,z,w,h1,hb,h2,by show n<=da (List.take j (dG VW Ls))+1+V0 z.2;omega,(Qc.mp hb.e).1⟩
theorem Ej (h:cy VW Ls):zM (av VW Ls) (cJ VW Ls)/\vh (av VW Ls) (cJ VW Ls)/\∀ls∈cJ VW Ls,ls.length<=2:=by
 have hl:(cJ VW Ls).length=(av VW Ls).length:=by rw[y4,LU]
 have key:∀n,n<(av VW Ls).length->fz (av VW Ls) (eK (av VW Ls)) (n:Int) ((cJ VW Ls).getD n [])/\(∀l∈(cJ VW Ls).getD n [],0<=l/\l<((av VW Ls).length:Int))/\((cJ VW Ls).getD n []).length<=2:=by
  intro n hn;obtain⟨j,z,w,hz,hb,h1,h2,h3⟩:=md h n hn;by_cases q:n=lst (fst VW Ls j) z
  ·subst q;refine⟨hb.last,?_,?_⟩
   ·rw[hb.dl];intro l hl;cases hl
   ·rw[hb.dl];exact Si _
  ·have st:=hb.all mG (fq h hz).1 n h1 (by omega);refine⟨st.ld,λl Xx=>?_,st.ln⟩;have:=st.rg l Xx;omega
 have mem:∀ls∈cJ VW Ls,∃n,n<(av VW Ls).length/\(cJ VW Ls).getD n []=ls:=λls hm=>by
  obtain⟨n,hn,e⟩:=Ru hm;exact⟨n,by omega,by rw[Qh,Qd hn,e];rfl⟩
 refine⟨⟨hl,λn hn=>(key n hn).1⟩,⟨hl,λls hm l Xx=>?_⟩,λls hm=>?_⟩
 ·obtain⟨n,hn,e⟩:=mem ls hm;exact(key n hn).2.1 l (by rw[e];exact Xx)
 ·obtain⟨n,hn,e⟩:=mem ls hm;rw[← e];exact(key n hn).2.2
theorem yz (hi:i<S.length)(hn:n≠S.length-1-i):(XR S Ld (i+1)).getD n 0=(XR S Ld i).getD n 0:=by
 rw[kK hi];unfold qB;split
 ·simp only[Qh];rw[QB (by omega)]
 ·rfl
theorem xj:∀(i n:Nat),i<=S.length->n<S.length-i->(XR S Ld i).getD n 0=(n:Int)
 | 0,n,_,h=>by
   show(ups 0 S.length).getD n 0=_;rw[Qh];unfold ups;rw[Ql,QQ (by omega)];show(0:Int)+(n:Int)=_;omega
 | i+1,n,hi,h=>by rw[yz (by omega) (by omega)];exact xj i n (by omega) (by omega)
theorem xH {i n:Nat}(hn:S.length-i<=n):∀d:Nat,i+d<=S.length->(XR S Ld (i+d)).getD n 0=(XR S Ld i).getD n 0
 | 0,_=>rfl
 | d+1,h=>by rw[← SH,yz (by omega) (by omega)];exact xH hn d (by omega)
theorem vg (hi:i<=S.length)(hn:S.length-i<=n):(XR S Ld i).getD n 0=(aZ S Ld).getD n 0:=by
 have:=xH (S:=S) (Ld:=Ld) hn (S.length-i) (by omega);rw[show i+(S.length-i)=S.length by omega] at this;exact this.symm
theorem iQ (hn:n<S.length)(h:(Ld.getD n [])=[]∨a7 (aU S (n:Int))=true):(aZ S Ld).getD n 0=(n:Int):=by
 rw[← vg (i:=S.length-1-n+1) (by omega) (by omega),kK (by omega),show(S.length:Int)-1-((S.length-1-n:Nat):Int)=(n:Int) by omega];unfold qB;rw[VP (by
  rw[show((n:Nat):Int).toNat=n by omega];rintro⟨h1,h2⟩;rcases h with h | h
  ·rw[h] at h1;cases h1
  ·rw[h] at h2;cases h2)]
 exact xj _ n (by omega) (by omega)
theorem mX (hn:n<S.length){r:PH}(hL:Ld.getD n []=l::r)(hr:a7 (aU S (n:Int))=false)(l0:0<=l)(l1:l<(S.length:Int)):(aZ S Ld).getD n 0=if(n:Int)<l then(aZ S Ld).getD l.toNat 0 else l:=by
 rw[← vg (i:=S.length-1-n+1) (n:=n) (by omega) (by omega),kK (by omega),show(S.length:Int)-1-((S.length-1-n:Nat):Int)=(n:Int) by omega];unfold qB;rw[show((n:Nat):Int).toNat=n by omega,hL,VQ ⟨rfl,hr⟩];have ln:=j7 (S:=S) (Ld:=Ld) (S.length-1-n) (by omega);rw[Qh,Qp (by omega)];show(XR S Ld (S.length-1-n)).getD l.toNat 0=_;by_cases q:(n:Int)<l
 ·rw[VQ q];exact vg (by omega) (by omega)
 ·rw[VP q,xj _ _ (by omega) (by omega)];omega
section
variable {f:Nat}{w:Int}
def J2 (S:List aG)(f l:Nat)(v:Int):Prop:=(f:Int)<v/\v<=(l:Int)/\(v=(l:Int)∨a7 (aU S v)=true)
theorem fw.Er (h:fw S Ld VW f w z)(Yj:(cw S).Nodup)(V4:bz lo m false z.2):∀(d n:Nat),lst f z-n=d->f<=n->n<=lst f z->J2 S f (lst f z) ((aZ S Ld).getD n 0):=by
 have ll:lst f z<S.length:=(Qc.mp h.e).1;have fl:f<lst f z:=by show f<f+1+V0 z.2;omega
 intro d
 induction d using Nat.strongRecOn with
 | _ d ih=>
   intro n hd h1 h2;by_cases q:n=lst f z
   ·rw[q,iQ ll (.inl h.dl)];exact⟨by omega,Qa _,.inl rfl⟩
   ·have st:=h.all Yj V4 n h1 (by omega);cases hr:a7 (aU S (n:Int)) with
    | true=>
      rw[iQ (by omega) (.inr hr)];have:n≠f:=λe=>by
       rw[e,h.k] at hr;exact VO hr (by decide +kernel)
      exact⟨by omega,by omega,.inr hr⟩
    | false=>
      obtain⟨l,r,hL,hg⟩:=st.go hr;obtain⟨r0,r1⟩:=st.rg l (by rw[hL];exact Qk);rw[mX (by omega) hL hr (by omega) (by omega)];by_cases ql:(n:Int)<l
      ·rw[VQ ql];exact ih (lst f z-l.toNat) (by omega) l.toNat rfl (by omega) (by omega)
      ·rw[VP ql];exact⟨by omega,r1,.inr (hg.resolve_left ql)⟩
theorem mR (h:fw S Ld VW f w z)(V4:bz lo m false z.2)(hh:h9 z.2):a7 (aU S ((f+1:Nat):Int))=true/\1<=V0 z.2:=by
 obtain⟨t,ts,e,hb⟩:=hh;have hs:=h.s;rw[e] at hs V4 ⊢;rw[bY] at hs;simp only[bz] at V4;rw[V0];have hs:=hs.pre;cases t with
 | Wi x=>rw[spT] at hs;refine⟨?_,by simp only[bp];omega⟩;rw[show((f+1:Nat):Int)=((f+1+0:Nat):Int) from rfl,(hs.k (i:=0) rfl).1];exact qT
 | call x=>rw[spT] at hs;refine⟨?_,by simp only[bp];omega⟩;rw[show((f+1:Nat):Int)=((f+1+0:Nat):Int) from rfl,(hs.k (i:=0) rfl).1];exact mN
 | ifs x A B=>rw[spT] at hs;refine⟨?_,by simp only[bp];omega⟩;rw[show((f+1:Nat):Int)=((f+1+0:Nat):Int) from rfl,(hs.pre.pre.k (i:=0) rfl).1];exact mi
 | V5 x A=>rw[spT] at hs;refine⟨?_,by simp only[bp];omega⟩;rw[show((f+1:Nat):Int)=((f+1+0:Nat):Int) from rfl,(hs.pre.k (i:=0) rfl).1];exact gz
 | leave=>simp only[bO] at V4;cases V4.1
 | back=>cases hb
theorem fw.first (h:fw S Ld VW f w z)(V4:bz lo m false z.2)(hh:h9 z.2):(aZ S Ld).getD f 0=((f+1:Nat):Int):=by
 have ll:lst f z<S.length:=(Qc.mp h.e).1;have ll:f+1+V0 z.2<S.length:=ll;obtain⟨hr,h1⟩:=mR h V4 hh;rw[mX (n:=f) (by omega) h.df (by rw[h.k];decide +kernel) (by omega) (by omega),VQ (by omega),show((f:Int)+1).toNat=f+1 by omega];exact iQ (by omega) (.inr hr)
def mD (Ld:List PH)(fd:PH):Prop:=∀n∈fd,∀l∈Ld.getD n.toNat [],l∈fd
theorem mD.on {fd:PH}(h:mD Ld fd){ls:PH}(hn:(n:Int)∈fd)(hL:Ld.getD n []=ls)(hl:l∈ls):l∈fd:=h _ hn l (by rw[show((n:Nat):Int).toNat=n by omega,hL];exact hl)
end
section
variable {fd:PH}(hC:mD Ld fd)
include hC
mutual
theorem goT:∀(t:Th)(lp:Bool)(a:Nat)(w u wl pe:Int),bO lo m lp t->cF S a (spT VW (a:Int) w u t)->cF Ld a (fN (a:Int) wl pe t)->(a:Int)∈fd->(∀i,i<bp t->aU S ((a+i:Nat):Int)∈Wh->((a+i:Nat):Int)∈fd)/\(dI t=true->((a+bp t:Nat):Int)∈fd)
 | .Wi x,lp,a,w,u,wl,pe,h,hS,hL,ha=>by
   rw[fN] at hL;simp only[bp];refine⟨(λi hi _=>by cases (show i=0 by omega);exact ha),(λ_=>?_)⟩;have:=hC.on ha (hL.d (i:=0) rfl []).1 (l:=(a:Int)+1) (Qe.mpr rfl);push_cast;exact this
 | .call x,lp,a,w,u,wl,pe,h,hS,hL,ha=>by
   rw[fN] at hL;simp only[bp];refine⟨(λi hi _=>by cases (show i=0 by omega);exact ha),(λ_=>?_)⟩;have:=hC.on ha (hL.d (i:=0) rfl []).1 (l:=(a:Int)+1) (Qe.mpr rfl);push_cast;exact this
 | .leave,lp,a,w,u,wl,pe,h,hS,hL,ha=>by
   simp only[bp];exact⟨(λi hi _=>by cases (show i=0 by omega);exact ha),(λq=>by simp[dI] at q)⟩
 | .back,lp,a,w,u,wl,pe,h,hS,hL,ha=>by
   simp only[bp];exact⟨(λi hi _=>by cases (show i=0 by omega);exact ha),(λq=>by simp[dI] at q)⟩
 | .V5 x A,lp,a,w,u,wl,pe,h,hS,hL,ha=>by
   simp only[bO] at h;rw[spT] at hS;rw[fN] at hL;simp only[bp];obtain⟨s1,s2⟩:=hS.app;obtain⟨s2,s3⟩:=s2.app;obtain⟨d1,d2⟩:=hL.app;obtain⟨d2,d3⟩:=d2.app;rw[cj] at s3;simp only[Qo,QD] at s2 s3 d2 d3;have e1:=(d1.d (i:=0) rfl []).1;have g1:(((a+(0+1):Nat)):Int)∈fd:=by
    have:=hC.on ha e1 (l:=(a:Int)+1) Qk;push_cast;simpa using this
   have g2:(((a+(2+V0 A):Nat)):Int)∈fd:=by
    have:=hC.on ha e1 (l:=(a:Int)+2+V0 A) (Qi _ (Qe.mpr rfl));rwa [show(((a+(2+V0 A):Nat)):Int)=(a:Int)+2+V0 A by push_cast;omega]
   obtain⟨q1,_⟩:=Cj A true (a+(0+1)) (w+2) (a:Int) ((a:Int)+2+V0 A) pe h.2 (by push_cast;exact s2) (by push_cast;exact d2) g1;refine⟨λi hi hk=>?_,λ_=>g2⟩;by_cases i0:i=0
   ·subst i0;exact ha
   by_cases i1:i<1+V0 A
   ·have:=q1 (i-1) (by omega) (by rw[show a+(0+1)+(i-1)=a+i by omega];exact hk);rwa [show a+(0+1)+(i-1)=a+i by omega] at this
   ·obtain rfl:i=1+V0 A:=by omega
    have ke:=(s3.k (i:=0) rfl).1;rw[show a+(0+1)+V0 A+0=a+(1+V0 A) by omega] at ke;rw[ke] at hk;exact VO hk (show("end":Str)∉Wh by decide +kernel)
 | .ifs x A B,lp,a,w,u,wl,pe,h,hS,hL,ha=>by
   simp only[bO] at h;rw[spT,Qy] at hS;rw[fN,Qy] at hL;simp only[bp];obtain⟨s1,s2⟩:=hS.app;obtain⟨s2,s3⟩:=s2.app;obtain⟨s3,s4⟩:=s3.app;obtain⟨s4,s5⟩:=s4.app;obtain⟨d1,d2⟩:=hL.app;obtain⟨d2,d3⟩:=d2.app;obtain⟨d3,d4⟩:=d3.app;obtain⟨d4,d5⟩:=d4.app;rw[cj] at s3 s4 s5;rw[cj] at s5;rw[dP] at d3 d4 d5;rw[dP] at d5;simp only[Qo,QD] at s2 s3 s4 s5 d2 d3 d4 d5;have e1:=(d1.d (i:=0) rfl []).1;have e3:=(d3.d (i:=0) rfl []).1;have e5:=(d5.d (i:=0) rfl []).1;have g1:(((a+(0+1):Nat)):Int)∈fd:=by
    have:=hC.on ha e1 (l:=(a:Int)+1) Qk;push_cast;simpa using this
   have g2:(((a+(0+1)+V0 A+(0+1):Nat)):Int)∈fd:=by
    have:=hC.on ha e1 (l:=(a:Int)+2+V0 A) (Qi _ (Qe.mpr rfl));rwa [show(((a+(0+1)+V0 A+(0+1):Nat)):Int)=(a:Int)+2+V0 A by push_cast;omega]
   obtain⟨q1,q2⟩:=Cj A lp (a+(0+1)) (w+2) (a:Int) wl pe h.2.1 (by push_cast;exact s2) (by push_cast;exact d2) g1;have q4:(((a+(0+1)+V0 A+(0+1):Nat)):Int)=(a:Int)+2+V0 A:=by push_cast;omega
   obtain⟨q3,q5⟩:=Cj B lp (a+(0+1)+V0 A+(0+1)) (w+3+(V8 VW A).length) ((a:Int)+1+V0 A) wl pe h.2.2 (by rw[q4];exact s4) (by rw[q4];exact d4) g2;have fin:(((a+(0+1)+V0 A+(0+1)+V0 B+0:Nat)):Int)∈fd->(((a+(3+V0 A+V0 B):Nat)):Int)∈fd:=λq=>by
    have:=hC.on q e5 (l:=(a:Int)+3+V0 A+V0 B) (Qe.mpr rfl);rwa [show(((a+(3+V0 A+V0 B):Nat)):Int)=(a:Int)+3+V0 A+V0 B by push_cast;omega]
   refine⟨λi hi hk=>?_,λhp=>fin ?_⟩
   ·by_cases i0:i=0
    ·subst i0;exact ha
    by_cases i1:i<1+V0 A
    ·have:=q1 (i-1) (by omega) (by rw[show a+(0+1)+(i-1)=a+i by omega];exact hk);rwa [show a+(0+1)+(i-1)=a+i by omega] at this
    by_cases i2:i=1+V0 A
    ·subst i2;have ke:=(s3.k (i:=0) rfl).1;rw[show a+(0+1)+V0 A+0=a+(1+V0 A) by omega] at ke;rw[ke] at hk;exact VO hk (show("else":Str)∉Wh by decide +kernel)
    by_cases i3:i<2+V0 A+V0 B
    ·have:=q3 (i-(2+V0 A)) (by omega) (by rw[show a+(0+1)+V0 A+(0+1)+(i-(2+V0 A))=a+i by omega];exact hk);rwa [show a+(0+1)+V0 A+(0+1)+(i-(2+V0 A))=a+i by omega] at this
    ·obtain rfl:i=2+V0 A+V0 B:=by omega
     have ke:=(s5.k (i:=0) rfl).1;rw[show a+(0+1)+V0 A+(0+1)+V0 B+0=a+(2+V0 A+V0 B) by omega] at ke;rw[ke] at hk;exact VO hk (show("end":Str)∉Wh by decide +kernel)
   ·simp only[dI,P2] at hp;rcases hp with hp | hp
    ·have hel:=q2 hp;have:=hC.on (n:=a+(0+1)+V0 A+0) hel e3 (l:=(a:Int)+2+V0 A+V0 B) (Qe.mpr rfl);rwa [show(((a+(0+1)+V0 A+(0+1)+V0 B+0:Nat)):Int)=(a:Int)+2+V0 A+V0 B by push_cast;omega]
    ·exact q5 hp
theorem Cj:∀(ts:List Th)(lp:Bool)(a:Nat)(w u wl pe:Int),bz lo m lp ts->cF S a (bY VW (a:Int) w u ts)->cF Ld a (gk (a:Int) wl pe ts)->(a:Int)∈fd->(∀i,i<V0 ts->aU S ((a+i:Nat):Int)∈Wh->((a+i:Nat):Int)∈fd)/\(c7 ts=true->((a+V0 ts:Nat):Int)∈fd)
 | [],lp,a,w,u,wl,pe,h,hS,hL,ha=>by
   rw[V0];exact⟨λi hi=>by omega,λ_=>ha⟩
 | t::ts,lp,a,w,u,wl,pe,h,hS,hL,ha=>by
   simp only[bz] at h;rw[bY] at hS;rw[gk] at hL;rw[V0];obtain⟨s1,s2⟩:=hS.app;obtain⟨d1,d2⟩:=hL.app;rw[ka] at s2;rw[oA] at d2;obtain⟨q1,q2⟩:=goT t lp a w u wl pe h.1 s1 d1 ha;rcases h.2.1 with hp | hp
   ·obtain⟨q3,q4⟩:=Cj ts lp (a+bp t) (w+(cW VW t).length) u wl pe h.2.2 (by push_cast;exact s2) (by push_cast;exact d2) (q2 hp);refine⟨λi hi hk=>?_,λhpp=>?_⟩
    ·by_cases q:i<bp t
     ·exact q1 i q hk
     ·have:=q3 (i-bp t) (by omega) (by rw[show a+bp t+(i-bp t)=a+i by omega];exact hk);rwa [show a+bp t+(i-bp t)=a+i by omega] at this
    ·rw[c7,PZ] at hpp;have:=q4 hpp.2;rwa [show a+bp t+V0 ts=a+(bp t+V0 ts) by omega] at this
   ·subst hp;rw[V0];refine⟨λi hi hk=>q1 i (by omega) hk,λhpp=>?_⟩;rw[c7,PZ] at hpp;exact q2 hpp.1
end
end
structure DE (VW:PJ)(lo m:Int)(s:aG):Prop where
 np:s.kind≠"part"
 cl:s.kind="call"->∃j:Int,lo<j/\j<m/\s.name=VW.getD j.toNat ""
theorem gA (h1:s.kind≠"part")(h2:s.kind≠"call"):DE VW lo m s:=⟨h1,λe=>VO e h2⟩
theorem all1 {P:aG->Prop}(h:P s):∀x∈[s],P x:=λx hx=>by rw[Qe.mp hx];exact h
theorem pJ {P:aG->Prop}{a b:List aG}(h:∀x∈a,P x)(h':∀x∈b,P x):∀x∈a++b,P x:=λx hx=>(Qr.mp hx).elim (h x) (h' x)
mutual
theorem Kw {VW:PJ}{lo m:Int}:∀(t:Th)(lp:Bool)(a w u:Int),bO lo m lp t->∀s∈spT VW a w u t,DE VW lo m s
 | .Wi x,lp,a,w,u,h=>by rw[spT];exact all1 (gA (show("do":Str)≠"part" by decide +kernel) (show("do":Str)≠"call" by decide +kernel))
 | .call j,lp,a,w,u,h=>by
   simp only[bO] at h;rw[spT];exact all1 ⟨show("call":Str)≠"part" by decide +kernel,λ_=>⟨j,h.1,h.2,rfl⟩⟩
 | .leave,lp,a,w,u,h=>by rw[spT];exact all1 (gA (show("leave":Str)≠"part" by decide +kernel) (show("leave":Str)≠"call" by decide +kernel))
 | .back,lp,a,w,u,h=>by rw[spT];exact all1 (gA (show("back":Str)≠"part" by decide +kernel) (show("back":Str)≠"call" by decide +kernel))
 | .V5 x A,lp,a,w,u,h=>by
   simp only[bO] at h;rw[spT];exact pJ (all1 (gA (show("while":Str)≠"part" by decide +kernel) (show("while":Str)≠"call" by decide +kernel))) (pJ (kG A true _ _ _ h.2) (all1 (gA (show("end":Str)≠"part" by decide +kernel) (show("end":Str)≠"call" by decide +kernel))))
 | .ifs x A B,lp,a,w,u,h=>by
   simp only[bO] at h;rw[spT];exact pJ (pJ (all1 (gA (show("if":Str)≠"part" by decide +kernel) (show("if":Str)≠"call" by decide +kernel))) (kG A lp _ _ _ h.2.1)) (pJ (all1 (gA (show("else":Str)≠"part" by decide +kernel) (show("else":Str)≠"call" by decide +kernel))) (pJ (kG B lp _ _ _ h.2.2) (all1 (gA (show("end":Str)≠"part" by decide +kernel) (show("end":Str)≠"call" by decide +kernel)))))
theorem kG {VW:PJ}{lo m:Int}:∀(ts:List Th)(lp:Bool)(a w u:Int),bz lo m lp ts->∀s∈bY VW a w u ts,DE VW lo m s
 | [],lp,a,w,u,h=>by rw[bY];intro s hs;cases hs
 | t::ts,lp,a,w,u,h=>by
   simp only[bz] at h;rw[bY];exact pJ (Kw t lp _ _ _ h.1) (kG ts lp _ _ _ h.2.2)
end
theorem call_in {VW:PJ}{j:Int}:∀{ts:List Th}(a w u:Int),Th.call j∈ts->∃s∈bY VW a w u ts,s.kind="call"/\s.name=VW.getD j.toNat ""
 | t::ts,a,w,u,h=>by
   rw[bY];rcases Qq.mp h with rfl | h
   ·exact⟨_,Qs _ (by rw[spT];exact Qe.mpr rfl),rfl,rfl⟩
   ·obtain⟨s,hs,h1⟩:=call_in (VW:=VW) (j:=j) (ts:=ts) (a+bp t) (w+(cW VW t).length) u h;exact⟨s,Qn _ hs,h1⟩
def ju (k:Str):Nat:=((c9 d7 k).getD []).length
def kP (S:List aG):Nat:=(S.map λs=>ju s.kind).sum
theorem gX (a b:List aG):kP (a++b)=kP a+kP b:=by unfold kP;rw[Qv,Sb]
theorem gB (s:aG):kP [s]=ju s.kind:=by unfold kP;simp
mutual
theorem rkT {VW:PJ}:∀(t:Th)(a w u:Int),kP (spT VW a w u t)=bX t
 | .Wi x,a,w,u=>by rw[spT,gB,bX];show ju "do"=1;decide +kernel
 | .call x,a,w,u=>by rw[spT,gB,bX];show ju "call"=1;decide +kernel
 | .leave,a,w,u=>by rw[spT,gB];simp only[bX];show ju "leave"=0;decide +kernel
 | .back,a,w,u=>by rw[spT,gB];simp only[bX];show ju "back"=0;decide +kernel
 | .V5 x A,a,w,u=>by
   rw[spT,bX,gX,gX,gB,gB,yv A,show ju "while"=2 by decide +kernel,show ju "end"=0 by decide +kernel];omega
 | .ifs x A B,a,w,u=>by
   rw[spT,bX,gX,gX,gX,gX,gB,gB,gB,yv A,yv B,show ju "if"=2 by decide +kernel,show ju "end"=0 by decide +kernel,show ju "else"=0 by decide +kernel];omega
theorem yv {VW:PJ}:∀(ts:List Th)(a w u:Int),kP (bY VW a w u ts)=bR ts
 | [],a,w,u=>by rw[bY,bR];rfl
 | t::ts,a,w,u=>by rw[bY,bR,gX,rkT t,yv ts]
end
variable {Kp:PH}{r:Rw}
theorem NS {VW:PJ}:∀(zs:List (Str×List Th))(a w:Int),kP (iu VW a w zs)=(zs.map λz=>bR z.2).sum
 | [],a,w=>by rw[iu];rfl
 | z::r,a,w=>by
   rw[iu,gX,gX,gX,gB,gB,yv,NS r,show ju "part"=0 by decide +kernel,show ju "end"=0 by decide +kernel,QJ,RN];omega
theorem vm {α β:Type}{f:α->List β}{g:α->Nat}(h:∀x,(f x).length<=g x):∀xs:List α,(xs.flatMap f).length<=(xs.map g).sum
 | []=>Si _
 | x::xs=>by
   rw[Q1,Qj,QJ,RN];have:=h x;have:=vm h xs;omega
theorem De (S:List aG)(Ld:List PH)(St:PH):(gw S Ld St).length<=kP S:=by
 have:=vm (f:=d6 Ld St) (g:=λz=>ju z.2.kind) (λz=>by
  unfold d6 jR;rw[Qg,Rn];exact Sw _ _) (nums S)
 refine Sh this (SK ?_);unfold kP
 conv=>rhs;rw[← pV S]
 rw[QY];rfl
theorem m8 {St:PH}(h:r∈gw S Ld St):∃(n:Nat)(s:aG)(l:Int),S[n]?=some s/\r.1=(n:Int)/\a7 s.kind=true/\l∈Ld.getD n []/\r.2.1=St.getD l.toNat 0:=by
 unfold gw at h;obtain⟨z,hz,hr⟩:=Rj.mp h;unfold d6 at hr;obtain⟨y,hy,rfl⟩:=Qw.mp hr;obtain⟨i,hi⟩:=Qu.mp hz;obtain⟨e1,e2⟩:=fb hi;unfold jR at hy;obtain⟨h1,h2⟩:=RG (show(y.1,y.2)∈_ from hy);rw[e1,show((i:Nat):Int).toNat=i by omega] at h2;refine⟨i,z.2,y.2,e2,e1,?_,h2,rfl⟩;unfold a7;cases q:c9 d7 z.2.kind with
 | none=>rw[q] at h1;cases h1
 | some v=>rfl
theorem Dj {k:Str}(h:a7 k=true):k∈Wh:=by
 unfold a7 c9 at h;split at h
 ·rename_i e;rw[← e];decide +kernel
 unfold c9 at h;split at h
 ·rename_i e;rw[← e];decide +kernel
 unfold c9 at h;split at h
 ·rename_i e;rw[← e];decide +kernel
 unfold c9 at h;split at h
 ·rename_i e;rw[← e];decide +kernel
 ·cases h
theorem v8:∀{l m:PH},l.Nodup->(∀x∈l,x∈m)->l.length<=m.length
 | [],m,_,_=>Si _
 | x::l,m,nd,h=>by
   obtain⟨n1,n2⟩:=QF.mp nd;have hx:=h x Qk;have:=v8 (l:=l) (m:=m.erase x) n2 λy hy=>by
    have:y≠x:=λe=>n1 (e▸hy);exact(List.mem_erase_of_ne this).mpr (h y (Qi _ hy))
   rw[RJ hx] at this;have:0<m.length:=RS hx;rw[Qo];omega
def kF (Kp:PH)(F:PR):Prop:=(F.map (·.1)).Nodup/\∀x∈F.map (·.1),x∈Kp
theorem kF.put (h:kF Kp F){k:Int}(hk:k∈Kp):kF Kp (cH F k):=by
 unfold cH;split
 ·exact h
 ·rename_i hn;have hnk:k∉F.map (·.1):=λz=>hn (gD.mpr z);refine⟨by rw[Qv];exact ib h.1 hnk,λx hx=>?_⟩;rw[Qv] at hx;rcases Qr.mp hx with z | z
  ·exact h.2 x z
  ·rw[show x=k by simpa using z];exact hk
theorem kF.rows {p:ie}:∀{rs:List Rw}{F:PR},kF Kp F->(∀r∈rs,gR p r=true->r.1∈Kp/\r.2.1∈Kp)->kF Kp (rs.foldl (eu p) F)
 | [],F,h,_=>h
 | r::rs,F,h,hr=>by
   rw[QX];refine kF.rows ?_ λx hx=>hr x (Qi _ hx);unfold eu;split
   ·rename_i hi;obtain⟨h1,h2⟩:=hr r Qk hi;exact(h.put h1).put h2
   ·exact h
theorem kF.len (h:kF Kp F):F.length<=Kp.length:=by
 have:=v8 h.1 h.2;rwa [Qg] at this
theorem yO:∀S:List aG,(S.filter λs=>a7 s.kind).length<=kP S
 | []=>Si _
 | s::S=>by
   have ih:=yO S;have e:kP (s::S)=ju s.kind+kP S:=by unfold kP;rw[QJ,RN]
   rw[e];by_cases h:a7 s.kind=true
   ·rw[Q8 (p:=λ(s:aG)=>a7 s.kind) h,Qo];have:1<=ju s.kind:=by
     unfold ju;unfold a7 c9 at h;unfold c9;split at h
     ·rename_i e;rw[VQ e];decide
     rename_i e;rw[VP e];unfold c9 at h ⊢;split at h
     ·rename_i e;rw[VQ e];decide
     rename_i e;rw[VP e];unfold c9 at h ⊢;split at h
     ·rename_i e;rw[VQ e];decide
     rename_i e;rw[VP e];unfold c9 at h ⊢;split at h
     ·rename_i e;rw[VQ e];decide
     ·cases h
    omega
   ·rw[Q9 (p:=λ(s:aG)=>a7 s.kind) h];omega
theorem Ly (h:∀s∈S,s.kind≠"part"):WM S=[]:=by
 unfold WM;rw[RR.mpr λs hs=>by simpa using h s hs];rfl
theorem Jk {VW:PJ}{m:Int}:∀(zs:List (Str×List Th))(a w:Int),(∀z∈zs,∃lo,bz lo m false z.2)->WM (iu VW a w zs)=zs.map (·.1)
 | [],a,w,_=>by rw[iu];rfl
 | z::r,a,w,h=>by
   obtain⟨lo,hz⟩:=h z Qk;rw[iu,mF,mF,mF,Jk r _ _ λy hy=>h y (Qi _ hy),Ly λs hs=>(kG (VW:=VW) z.2 false _ _ _ hz s hs).np];rfl
theorem wx (S:List aG):(cQ S).map (·.1)=WM S:=by
 unfold cQ WM
 conv=>rhs;rw[← pV S]
 rw[Sd,QY,QY];rfl
section
variable (h:cy VW Ls)
include h
theorem HJ:(dG VW Ls).map (·.1)=VW:=List.map_fst_zip (by rw[h.l];exact Sg _)
theorem HY:(dG VW Ls).map (·.2)=Ls:=List.map_snd_zip (by rw[h.l];exact Sg _)
theorem LG:∀z∈dG VW Ls,∃lo,bz lo (Ls.length:Int) false z.2:=λz hz=>by
 obtain⟨j,hj⟩:=Qu.mp hz;exact⟨_,(fq h hj).1⟩
theorem EH:WM (av VW Ls)=VW:=by
 rw[Jk (m:=(Ls.length:Int)) _ _ _ (LG h),HJ h]
theorem uk:(cQ (av VW Ls)).map (·.1)=VW:=by rw[wx,EH h]
theorem Lg:(av VW Ls).length<=240:=by
 obtain⟨pl,_⟩:=xb h;obtain⟨e,_⟩:=tY h;obtain⟨i1,i2,_⟩:=wj (jP VW Ls) (da (VW.zip Ls));rw[e] at i1 i2;dsimp only at i1 i2;omega
theorem yr (hn:n<(av VW Ls).length)(hk:aU (av VW Ls) (n:Int)="part"):∃(j:Nat)(z:Str×List Th)(w:Int),(dG VW Ls)[j]?=some z/\fw (av VW Ls) (cJ VW Ls) VW (fst VW Ls j) w z/\n=fst VW Ls j:=by
 obtain⟨j,z,w,hz,hb,h1,h2,h3⟩:=md h n hn;refine⟨j,z,w,hz,hb,?_⟩;rcases Sm (fst VW Ls j) n with q | q
 ·exfalso;by_cases e:n=lst (fst VW Ls j) z
  ·rw[e,(dC hb.e).1] at hk;exact VO hk (show("end":Str)≠"part" by decide +kernel)
  ·have h2':n<fst VW Ls j+1+V0 z.2:=Sx h2 e;have hi:n-(fst VW Ls j+1)<(bY VW (((fst VW Ls j+1:Nat)):Int) (w+2) (fst VW Ls j:Int) z.2).length:=by rw[cj];omega
   have hs:=hb.s.k (Qd hi);rw[show fst VW Ls j+1+(n-(fst VW Ls j+1))=n by omega] at hs;rw[hs.1] at hk;exact(kG (VW:=VW) z.2 false _ _ _ (fq h hz).1 _ (QP hi)).np hk
 ·omega
theorem ng {p:ie}(hp:p∈cQ (av VW Ls)):∃(j:Nat)(z:Str×List Th)(w:Int),(dG VW Ls)[j]?=some z/\fw (av VW Ls) (cJ VW Ls) VW (fst VW Ls j) w z/\p=(z.1,((fst VW Ls j:Nat):Int),((lst (fst VW Ls j) z:Nat):Int)):=by
 unfold cQ at hp;obtain⟨y,hy,rfl⟩:=Qw.mp hp;obtain⟨hy,hk⟩:=QT.mp hy;obtain⟨n,nl,e1,e2⟩:=oK hy;have Xi:aU (av VW Ls) (n:Int)="part":=by
  unfold aU;rw[show((n:Nat):Int).toNat=n by omega,e2];exact VR hk
 obtain⟨j,z,w,hz,hb,e3⟩:=yr h nl Xi;refine⟨j,z,w,hz,hb,?_⟩;subst e3;unfold Hz;rw[e1,hb.cl mG];have:y.2=⟨"part",z.1,w, -1⟩:=by rw[← e2,Qh,hb.nm];rfl
 rw[this];rfl
end
theorem AO (l:List α)(d:α)(p:α->Bool):((Qt l.length).filter λi=>p (l.getD i d)).length=(l.filter p).length:=by
 have e:(Qt l.length).map (λi=>l.getD i d)=l:=by
  refine Q0 λi=>?_;rw[Ql];rcases Sm i l.length with h | h
  ·rw[QQ h,Qd h];show some (l.getD i d)=_;rw[Qh,Qd h];rfl
  ·rw[QH (by simpa using h),QH h];rfl
 conv=>rhs;rw[← e,Sd,Qg]
 rfl
def nN (S:List aG)(f:Nat)(z:Str×List Th):PH:=((Qt (V0 z.2)).filter λi=>a7 (aU S ((f+1+i:Nat):Int))).map (λi=>((f+1+i:Nat):Int))++[((lst f z:Nat):Int)]
variable {v:Int}
theorem kX {f:Nat}(h:J2 S f (lst f z) v):v∈nN S f z:=by
 obtain⟨h1,h2,h3⟩:=h;unfold nN;by_cases q:v=((lst f z:Nat):Int)
 ·exact Qn _ (by rw[q];exact Qe.mpr rfl)
 ·have h2':v<=((f+1+V0 z.2:Nat):Int):=h2;have q':v≠((f+1+V0 z.2:Nat):Int):=q;refine Qs _ (Qw.mpr ⟨v.toNat-(f+1),QT.mpr ⟨QU.mpr (by omega),?_⟩,by omega⟩);rw[show((f+1+(v.toNat-(f+1)):Nat):Int)=v by omega];exact h3.resolve_left q
theorem Hw {f:Nat}{w:Int}(h:fw S Ld VW f w z)(hr:bR z.2<=14):(nN S f z).length<=16:=by
 unfold nN;rw[Qj,Qg,QG];have e:((Qt (V0 z.2)).filter λi=>a7 (aU S ((f+1+i:Nat):Int)))=((Qt (bY VW (((f+1:Nat)):Int) (w+2) (f:Int) z.2).length).filter λi=>a7 ((bY VW (((f+1:Nat)):Int) (w+2) (f:Int) z.2).getD i dq).kind):=by
  rw[cj];refine List.filter_congr λi hi=>?_;have hi:i<(bY VW (((f+1:Nat)):Int) (w+2) (f:Int) z.2).length:=by rw[cj];exact QU.mp hi
  rw[(h.s.k (Qd hi)).1,Qh,Qd hi];rfl
 rw[e,AO (bY VW (((f+1:Nat)):Int) (w+2) (f:Int) z.2) dq λs=>a7 s.kind];have:=yO (bY VW (((f+1:Nat)):Int) (w+2) (f:Int) z.2);rw[yv] at this;omega
theorem vX (h:cy VW Ls):sV (av VW Ls) (cJ VW Ls)/\Good (Wo (av VW Ls) (cJ VW Ls)):=by
 obtain⟨hLd,hLi,YF⟩:=Ej h;have hS:=Lg h;refine⟨⟨hS,hLd,hLi,λn hn hk=>?_⟩,?_⟩
 ·obtain⟨j,z,w,hz,hb,e⟩:=yr h hn hk;subst e;rw[hb.cl mG];rfl
 have bl:∀{j:Nat}{z:Str×List Th}{w:Int},fw (av VW Ls) (cJ VW Ls) VW (fst VW Ls j) w z->fst VW Ls j<(av VW Ls).length:=λhb=>(Qc.mp hb.nm).1;have hn:=uk h;have hlp:(cQ (av VW Ls)).length=VW.length:=by rw[← congrArg List.length hn,Qg]
 refine⟨hS,?_,?_,λp hp=>?_,hLi,YF,j7 _ (Sg _),?_,λn t ht hk=>?_,λfd hR n X5 hk=>?_,λp hp=>?_,λp hp=>?_,?_,λr hr=>?_,λp hp=>?_⟩
 ·show(cQ (av VW Ls)).length<=4;rw[hlp,h.l];exact h.l4
 ·show((cQ (av VW Ls)).map (·.1)).Nodup;rw[hn];exact h.nd
 ·obtain⟨j,z,w,hz,hb,rfl⟩:=ng h hp;have:=bl hb;exact⟨by show(0:Int)<=((fst VW Ls j:Nat):Int);omega,by show((fst VW Ls j:Nat):Int)<((av VW Ls).length:Int);omega⟩
 ·show(WM (av VW Ls)).Nodup;rw[EH h];exact h.nd
 ·-- VX
  have ht:(av VW Ls)[n]?=some t:=ht;have X5:=(Qc.mp ht).1;obtain⟨j,z,w,hz,hb,h1,h2,h3⟩:=md h n X5;have Xi:=(dC ht).1;have Wx:n≠fst VW Ls j:=λe=>by
   rw[e,hb.k,hk] at Xi;exact VO Xi (by decide +kernel)
  have hnl:n≠lst (fst VW Ls j) z:=λe=>by
   rw[e,(dC hb.e).1,hk] at Xi;exact VO Xi (show("end":Str)≠"call" by decide +kernel)
  have h2':n<fst VW Ls j+1+V0 z.2:=Sx h2 hnl;have hi:n-(fst VW Ls j+1)<(bY VW (((fst VW Ls j+1:Nat)):Int) (w+2) (fst VW Ls j:Int) z.2).length:=by rw[cj];omega
  have hs:=hb.s _ _ (Qd hi);rw[show fst VW Ls j+1+(n-(fst VW Ls j+1))=n by omega,ht] at hs;have ko:=kG (VW:=VW) z.2 false _ _ _ (fq h hz).1 _ (QP hi);rw[← Option.some.inj hs] at ko;obtain⟨c,c1,c2,c3⟩:=ko.cl hk;have X6:c.toNat<VW.length:=by rw[h.l];omega
  have hcz:c.toNat<(dG VW Ls).length:=by rw[Rn,h.l];omega
  obtain⟨w',W9⟩:=jx (VW:=VW) (Ls:=Ls) (Qd hcz);have W5:=ox (dG VW Ls) j c.toNat z hz (by omega);refine⟨fst VW Ls c.toNat,_,?_,W9.nm,rfl,?_⟩
  ·have:fst VW Ls j+2+V0 z.2<=fst VW Ls c.toNat:=W5;omega
  ·rw[c3];have Yz:=(fq h (Qd hcz)).2.2.2.1;rw[Qh,Yz];rfl
 ·-- coming to each Z1
  obtain⟨Y3,Y2⟩:=hR;have X5:n<(av VW Ls).length:=X5;obtain⟨j,z,w,hz,hb,h1,h2,h3⟩:=md h n X5;have Xi:aU (av VW Ls) (n:Int)∈Wh:=hk;have Wx:n≠fst VW Ls j:=λe=>by
   rw[e,hb.k] at Xi;exact VO Xi (by decide +kernel)
  have hnl:n≠lst (fst VW Ls j) z:=λe=>by
   rw[e,(dC hb.e).1] at Xi;exact VO Xi (show("end":Str)∉Wh by decide +kernel)
  have h2':n<fst VW Ls j+1+V0 z.2:=Sx h2 hnl;have hf:((fst VW Ls j:Nat):Int)∈fd:=by
   refine Y3 (z.1,((fst VW Ls j:Nat):Int),(aW (eK (av VW Ls)) ((fst VW Ls j:Nat):Int)).getD 0) ?_;show _∈cQ (av VW Ls);unfold cQ;exact Qw.mpr ⟨(((fst VW Ls j:Nat):Int),⟨"part",z.1,w, -1⟩),QT.mpr ⟨vT hb.nm,VT rfl⟩,rfl⟩
  have hC:mD (cJ VW Ls) fd:=Y2;have hf1:=hC.on hf hb.df (l:=((fst VW Ls j:Nat):Int)+1) (Qe.mpr rfl);have:=(Cj (VW:=VW) (S:=av VW Ls) hC z.2 false (fst VW Ls j+1) (w+2) _ 0 _ (fq h hz).1 hb.s hb.d (by push_cast;exact hf1)).1 (n-(fst VW Ls j+1)) (by omega) (by rw[show fst VW Ls j+1+(n-(fst VW Ls j+1))=n by omega];exact Xi);rwa [show fst VW Ls j+1+(n-(fst VW Ls j+1))=n by omega] at this
 ·-- each later part is called
  have hp:p∈(cQ (av VW Ls)).drop 1:=hp;obtain⟨k,hk⟩:=Qu.mp hp;rw[Se] at hk;have hnk:VW[1+k]?=some p.1:=by rw[← hn,Ql,hk];rfl
  have ZO:=(Qc.mp hnk).1;obtain⟨L,hL,hcL⟩:=h.cl (1+k) (by omega) (by rw[← h.l];exact ZO);obtain⟨i,hi⟩:=Qu.mp hL;have il:=(Qc.mp hi).1;have hiz:i<(dG VW Ls).length:=by rw[Rn,h.l];omega
  obtain⟨w',W9⟩:=jx (VW:=VW) (Ls:=Ls) (Qd hiz);have e2:=(fq h (Qd hiz)).2.2.2.2;rw[hi] at e2;have e2:=Option.some.inj e2;obtain⟨s,hs,s1,s2⟩:=call_in (VW:=VW) (((fst VW Ls i+1:Nat)):Int) (w'+2) ((fst VW Ls i:Nat):Int) hcL;rw[e2] at hs;obtain⟨q,hq⟩:=Qu.mp hs;refine⟨s,Qm (W9.s q s hq),s1,?_⟩;rw[s2,show(((1+k:Nat)):Int).toNat=1+k by omega,Qh,hnk];rfl
 ·-- no part ends at V1 begin
  obtain⟨j,z,w,hz,hb,rfl⟩:=ng h hp;obtain⟨XH,Yo,Z3,_⟩:=fq h hz;show(aZ (av VW Ls) (cJ VW Ls)).getD ((fst VW Ls j:Nat):Int).toNat 0≠((lst (fst VW Ls j) z:Nat):Int);rw[show((fst VW Ls j:Nat):Int).toNat=fst VW Ls j by omega,hb.first XH Yo];have:=(mR hb XH Yo).2;show((fst VW Ls j+1:Nat):Int)≠((fst VW Ls j+1+V0 z.2:Nat):Int);omega
 ·-- rows
  show(gw (av VW Ls) (cJ VW Ls) (aZ (av VW Ls) (cJ VW Ls))).length<=30;refine Sh (De _ _ _) ?_;rw[NS];have e:(dG VW Ls).map (λz=>bR z.2)=Ls.map bR:=by
   conv=>rhs;rw[← HY h]
   rw[QY];rfl
  show((dG VW Ls).map λz=>bR z.2).sum<=30;rw[e];exact h.ZY
 ·obtain⟨n,s,l,h1,h2,h3,_⟩:=m8 hr;have X5:=(Qc.mp h1).1;rw[h2];refine⟨⟨by omega,by show(n:Int)<((av VW Ls).length:Int);omega⟩,?_⟩;show aU (av VW Ls) (n:Int)∈Wh;rw[(dC h1).1];exact Dj h3
 ·-- places
  obtain⟨j,z,w,hz,hb,rfl⟩:=ng h hp;obtain⟨XH,Yo,Z3,_⟩:=fq h hz;have fl:fst VW Ls j<lst (fst VW Ls j) z:=by show _<fst VW Ls j+1+V0 z.2;omega
  have Xr:=λn h1 h2=>hb.Er mG XH _ n rfl h1 h2;refine Sh (kF.len (Kp:=nN (av VW Ls) (fst VW Ls j) z) ?_) (Hw hb Z3);refine kF.rows ?_ λr hr hi=>?_
  ·have Wx:(aZ (av VW Ls) (cJ VW Ls)).getD (fst VW Ls j) 0≠((lst (fst VW Ls j) z:Nat):Int):=by
    rw[hb.first XH Yo];have:=(mR hb XH Yo).2;show((fst VW Ls j+1:Nat):Int)≠((fst VW Ls j+1+V0 z.2:Nat):Int);omega
   have e0:(Wo (av VW Ls) (cJ VW Ls)).St.getD ((fst VW Ls j:Nat):Int).toNat 0=(aZ (av VW Ls) (cJ VW Ls)).getD (fst VW Ls j) 0:=by rw[show((fst VW Ls j:Nat):Int).toNat=fst VW Ls j by omega];rfl
   dsimp only;rw[e0];refine⟨?_,λx hx=>?_⟩
   ·exact QF.mpr ⟨λq=>Wx (Qe.mp q),QF.mpr ⟨by simp,RC⟩⟩
   ·have hx:x=(aZ (av VW Ls) (cJ VW Ls)).getD (fst VW Ls j) 0∨x=((lst (fst VW Ls j) z:Nat):Int):=by simpa using hx
    rcases hx with rfl | rfl
    ·exact kX (Xr _ (Sg _) (by omega))
    ·exact kX ⟨by omega,Qa _,.inl rfl⟩
  ·obtain⟨n,s,l,h1,h2,h3,h4,h5⟩:=m8 hr;unfold gR at hi;rw[PZ] at hi;have i1:((fst VW Ls j:Nat):Int)<r.1:=VR hi.1;have i2:r.1<((lst (fst VW Ls j) z:Nat):Int):=VR hi.2;rw[h2] at i1 i2;have Xi:aU (av VW Ls) (n:Int)=s.kind:=(dC h1).1;have st:=hb.all mG XH n (by omega) (by omega);have rg:=st.rg l h4;refine⟨?_,?_⟩
   ·rw[h2];exact kX ⟨i1,by omega,.inr (by rw[Xi];exact h3)⟩
   ·rw[h5];exact kX (Xr l.toNat (by omega) (by omega))
theorem GR:Pure:=λVW Ls h=>⟨cJ VW Ls,vX h⟩
structure nr (mg:Pz):Prop where
 isinstance:mg "isinstance"=none
 bool:mg "bool"=none
 Ye:∃t,mg "NO_CALL"=some (.int (-1) t)
 first:∃t,mg "FIRST_PART"=some (.int 0 t)
theorem boot_bool:TB "bool"=some (.type "bool"):=by decide +kernel
abbrev MZ:Stmt:=top xn
def NY:cS:=λK ps T=>∃x:Int,ps=[⟨ag,x⟩]/\T=cU K bM (· =true)
theorem Lb (M:cD K mg)(M4:nr mg)(Df:Def K mg "is_whole" MZ ["value"]):aE P w K mg base "is_whole" 1 (aM NY K):=by
 refine bD (N:=["value"]) Df (λf V2 A outer s H E qs T nd hr hS=>?_);obtain⟨x,rfl,rfl⟩:=hS;exact aj (aN (gT (bc M4.isinstance M.int S3 (aa 0 rfl) ty_int) (λ_=>iG (vx (bc M4.isinstance M4.bool boot_bool (aa 0 rfl) ty_int)))) rfl)
abbrev BQ:Stmt:=top uV
theorem Hv:bV ["values"] ["values"] (ao BQ):=Xt
def Ib:cS:=λK ps T=>((∃ns:PH,ps=[⟨ae ag,ns⟩])∨(∃r:Row,ps=[⟨cX,r⟩]))/\T=cU K bM (· =true)
theorem BP (xs:List α):((xs.filter λ_=>true).map λ_=>true).all id=true:=by
 rw[Ry];intro b hb;obtain⟨_,_,rfl⟩:=Qw.mp hb;rfl
theorem La (M:cD K mg)(M4:nr mg)(CI:aE P w K mg base "is_whole" 1 (aM NY K))(F:dZ K "are_whole" "are_whole" BQ f fd)(hm:mg "are_whole"=some (.ref f))(hb:Binds K fd ["values"] []):aE P w K mg base "are_whole" 2 (aM Ib K):=by
 have nd:=Hv.nd;have Xq:Qz [("value":Str)]:=by decide
 refine gZ F Hv hm hb (λqs T ⟨e,_⟩=>by rcases e with⟨_,e⟩ | ⟨_,e⟩<;>(rw[e];rfl)) (λV2 A outer s H E qs T hr hS=>?_)
 obtain⟨⟨ns,rfl⟩ | ⟨r,rfl⟩,rfl⟩:=hS
 ·exact aj (aN (jI M.all (ba.im (bE (own:=["value"]) (fr:=[]) (ix:=[]) (p:=λ_=>true) (f:=λ_=>true) (bA (so:=ao BQ) (N0:=["values"]) rfl rfl (λx h=>bb h) (by decide +kernel)) (br (aa 0 rfl))
   (λC s H ex=>aP 0) (λx=>⟨.inr rfl,trivial⟩) (λC s H ex x hx=>dk) (λC s H ex x hx _=>aI CI hr (ah (aa 0 rfl) ax) ⟨_,rfl,rfl⟩)))) (BP ns))
 ·exact aj (aN (jI M.all (ba.im (bE (own:=["value"]) (fr:=[]) (ix:=[]) (p:=λ_=>true) (f:=λ_=>true) (bA (so:=ao BQ) (N0:=["values"]) rfl rfl (λx h=>bb h) (by decide +kernel)) (IF (aa 0 rfl))
   (λC s H ex=>aP 0) (λx=>⟨.inr rfl,trivial⟩) (λC s H ex x hx=>dk) (λC s H ex x hx _=>aI CI hr (ah (aa 0 rfl) ax) ⟨_,rfl,rfl⟩)))) (BP _))
abbrev uw:ie:=("",0,0)
def c5 (s:ir)(n:Int):Int:=((s.parts.filter λp=>decide (p.2.1<=n)).length:Int)-1
def eG (s:ir):List PR:=s.parts.map (dE s)
def WR (VW:PJ)(x:Str):Nat:=VW.findIdx λy=>decide (y=x)
def jb (s:ir)(r:Rw):Row:=
 (c5 s r.1,(aW ((eG s).getD (c5 s r.1).toNat []) r.1).getD 0,(aW ((eG s).getD (c5 s r.1).toNat []) r.2.1).getD 0,if r.2.2.1="call" then(WR (s.parts.map (·.1)) r.2.2.2:Int) else -1)
def CQ (s:ir):lB:=((eG s).map λF=>(F.length:Int),s.rows.map (jb s))
structure Kt (s:ir):Prop where
 pt:∀r∈s.rows,0<=c5 s r.1/\c5 s r.1<(s.parts.length:Int)
 f1:∀r∈s.rows,(aW ((eG s).getD (c5 s r.1).toNat []) r.1).isSome
 f2:∀r∈s.rows,(aW ((eG s).getD (c5 s r.1).toNat []) r.2.1).isSome
 cl:∀r∈s.rows,r.2.2.1="call"->r.2.2.2∈s.parts.map (·.1)
theorem vy (h:x∈VW):VW[WR VW x]?=some x/\∀m,m<WR VW x->VW[m]?≠some x:=by
 unfold WR;have hl:(VW.findIdx λy=>decide (y=x))<VW.length:=List.findIdx_lt_length_of_exists ⟨x,h,VT rfl⟩;refine⟨?_,λm hm e=>?_⟩
 ·have:=List.findIdx_getElem (w:=hl);rw[Qd hl,VR this]
 ·have:=List.not_of_lt_findIdx hm;obtain⟨ml,em⟩:=Qc.mp e;rw[em] at this;simp at this
theorem lA {o:Option Int}(h:o.isSome=true):o=some (o.getD 0):=by
 cases o with
 | none=>cases h
 | some x=>rfl
abbrev DX:Stmt:=top zU
def Kk (C D:Addr):cS:=λK ps T=>∃(s:ir)(n:Int),ps=[⟨cT C D,s⟩,⟨ag,n⟩]/\s.parts.length<=4/\T=cU K ag (· =c5 s n)
theorem HB (M:cD K mg)(HD:bI K D gp)(Df:Def K mg "part_at" DX ["spots","number"]):aE P w K mg base "part_at" 1 (aM (Kk C D) K):=by
 have Xq:Qz [("part":Str),"number"]:=by decide
 refine bD (N:=["spots","number"]) Df (λf V2 A outer st H E qs T nd hr hS=>?_);obtain⟨s,n,rfl,hl,rfl⟩:=hS;change WS _ _ [.im (cT C D) s,aJ n] _ _;refine aj (aN (iV (dy M.len (ba.im (bE (own:=["part"]) (fr:=["number"]) (ix:=[1]) (ra:=aq) (rb:=aq) (p:=λz=>decide (z3 z<=n)) (f:=λz=>z) (bA (so:=ao DX) (N0:=["spots","number"]) rfl rfl (λx h=>bb h) (by decide +kernel)) (br (iM (C:=C) HD (aa 0 rfl)))
  (λC s H ex=>aP 0) (λx=>⟨.inr rfl,.inl rfl,trivial⟩) (λC' s' H ex z hz=>?_) (λC' s H ex z hz _=>aa 0 rfl)))) ev_int) ?_)
 ·obtain⟨p,hp,rfl⟩:=Qw.mp hz;exact gF (aA jJ (EV.iP (n:=p.2.1) (dJ (aa 0 rfl) ev_int rfl)) (aa 1 rfl))
 ·unfold c5;rw[Qg,Sd,Qg];rfl
abbrev yQ:Stmt:=top AS
abbrev Fs:PJ:=["text","spots","names","places","rows","row","part","calls"]
theorem Kg:bV Fs ["text"] (ao yQ):=Xt
def JR:cS:=λK ps T=>∃(x:Str)(S:List aG)(Ld:List PH),ps=[⟨ar,x⟩]/\w6 x S/\sV S Ld/\Good (Wo S Ld)/\Kt (Wo S Ld)/\T=zt K λxs rs=>(xs,rs)=CQ (Wo S Ld)
theorem Lc (M:cD K mg)(M4:nr mg)(HD:bI K D gp)(CN:aE P w K mg base "need_program" 6 (aM (Na C D) K))(CP:aE P w K mg base "places_in" 1 (aM (Dc C D) K))(CA:aE P w K mg base "part_at" 1 (aM (Kk C D) K))(F:dZ K "web_of" "web_of" yQ f fd)(hm:mg "web_of"=some (.ref f))(hb:Binds K fd ["text"] []):aE P w K mg base "web_of" 7 (aM JR K):=by
 have nd:=Kg.nd;have Xq:Qz [("part":Str)]:=by decide
 have Yy:Qz [("part":Str),"spots"]:=by decide
 have ndc3:Qz [("known":Str)]:=by decide
 have CP:=CP.mono (show 1<=6 by decide);have CA:=CA.mono (show 1<=6 by decide);refine gZ (k:=6) F Kg hm hb (λqs T ⟨_,_,_,e,_⟩=>by rw[e];rfl) (λV2 A outer st H E qs T hr hS=>?_);obtain⟨x,S,Ld,rfl,hx,hk,hG,hW,rfl⟩:=hS;obtain⟨t,hnc⟩:=M4.Ye;have hu:=ru hr;change WS _ _ [.im ar x,.no,.no,.no,.no,.no,.no,.no] _ _;refine ai (bg 1 (y:=Wo S Ld) (aI CN hr (ah (aa 0 rfl) ax) ⟨x,S,Ld,rfl,hx,hk,hG,rfl⟩) ?_);generalize Wo S Ld=s at hG hW;have Wg:=hG.pl;have hrl:=hG.rl;change WS _ _ [.im ar x,.im (cT C D) s,.no,.no,.no,.no,.no,.no] _ _;have ZL:((s.parts.map nB).filter λ_=>true).map u9=s.parts.map (·.1):=by rw[QZ.mpr λ_ _=>rfl,QY];rfl
 refine ai (nP 2 (own:=["part"]) (fr:=[]) (ix:=[]) (ra:=aq) (rb:=ar) (p:=λ_=>true) (f:=u9) (bA (so:=ao yQ) (N0:=Fs) rfl rfl (λx h=>bb h) (by decide +kernel)) (br (iM (C:=C) HD (aa 1 rfl)))
  (λC s H ex=>aP 0) (λx=>⟨.inr rfl,trivial⟩) (λC' s H ex c hc=>dk) (λC' s H ex o ho _=>by
   obtain⟨p,_,rfl⟩:=Qw.mp ho;exact EV.sP (x:=p.1) (dJ (aa 0 rfl) ev_int rfl)) ?_)
 rw[ZL];generalize ZK:s.parts.map (·.1)=VW;have hnl:VW.length=s.parts.length:=by rw[← ZK,Qg]
 refine WS.freeze 2 rfl (aT (by omega)) ?_;change WS _ _ [.im ar x,.im (cT C D) s,.im (ae ar) VW,.no,.no,.no,.no,.no] _ _;have hpls:((ups 0 VW.length).filter λ_=>true).map (λi=>dE s (s.parts.getD i.toNat uw))=eG s:=by
  rw[QZ.mpr λ_ _=>rfl,hnl];unfold eG;refine Q0 λi=>?_;unfold ups;rw[Ql,Ql,Ql];rcases Sm i s.parts.length with h | h
  ·rw[QQ h,Qd h];show some (dE s (s.parts.getD (0+(i:Int)).toNat uw))=_;rw[show(0+(i:Int)).toNat=i by omega,Qh,Qd h];rfl
  ·rw[QH (by simpa using h),QH h];rfl
 refine ai (nP 3 (own:=["part"]) (fr:=["spots"]) (ix:=[1]) (ra:=ag) (rb:=jy) (p:=λ_=>true) (f:=λi=>dE s (s.parts.getD i.toNat uw)) (bA (so:=ao yQ) (N0:=Fs) rfl rfl (λx h=>bb h) (by decide +kernel)) (fo M.range (dy M.len (aa 2 rfl)) ⟨by omega,by omega⟩)
  (λC s H ex=>aP 0) (λx=>⟨.inr rfl,.inl rfl,trivial⟩) (λC' s H ex c hc=>dk) (λC' s' H ex o ho _=>by
   obtain⟨i,hi⟩:=Qu.mp ho;obtain⟨il,rfl⟩:=fJ hi;have il:i<s.parts.length:=by omega
   rw[show(0:Int)+(i:Int)=(i:Int) by omega];exact aI CP hr (ah (aa 1 rfl) (ah (aa 0 rfl) ax)) ⟨s,i,s.parts.getD i uw,rfl,hG,by rw[Qh,Qd il];rfl,rfl⟩) ?_)
 rw[show((VW.length:Int)).toNat=VW.length by omega,hpls];have hpll:(eG s).length=s.parts.length:=by unfold eG;rw[Qg]
 refine WS.freeze 3 rfl (aT (by omega)) ?_;refine ai (cR 4 (r:=cX) (ys:=[]) (aR aL (Si _)) ?_);change WS _ _ [.im ar x,.im (cT C D) s,.im (ae ar) VW,.im (ae jy) (eG s),.mu cX [],.no,.no,.no] _ _;refine bS (N1:=λΓ=>∃e5 e6 e7,Γ=[.im ar x,.im (cT C D) s,.im (ae ar) VW,.im (ae jy) (eG s),.mu cX (s.rows.map (jb s)),e5,e6,e7]) (bW (λi Γ=>∃e5 e6 e7,Γ=[.im ar x,.im (cT C D) s,.im (ae ar) VW,.im (ae jy) (eG s),.mu cX ((s.rows.take i).map (jb s)),e5,e6,e7]) (br (uC (C:=C) HD (aa 1 rfl))) (aP 5) ⟨_,_,_,rfl⟩ (λi z Γ hz hΓ=>?_) (λΓ hΓ=>?_)) ?_
 ·obtain⟨e5,e6,e7,rfl⟩:=hΓ;rw[Ql] at hz;obtain⟨r,WY,rfl⟩:=SO.mp hz;have rm:=Qm WY;have il:=(Qc.mp WY).1;obtain⟨q0,q1⟩:=hW.pt r rm;have Xl:(s.rows.take (i+1)).map (jb s)=(s.rows.take i).map (jb s)++[jb s r]:=by rw[QK,WY,Qv];rfl
  rw[Xl];have tl:((s.rows.take i).map (jb s)).length<=30:=by rw[Qg,QA];omega
  generalize (s.rows.take i).map (jb s)=rs at tl;change WS _ _ [.im ar x,.im (cT C D) s,.im (ae ar) VW,.im (ae jy) (eG s),.mu cX rs,.im aq (jE r),e6,e7] _ _;refine ai (bg 6 (y:=c5 s r.1) (aI CA hr (ah (aa 1 rfl) (ah (EV.iP (n:=r.1) (dJ (aa 5 rfl) ev_int rfl)) ax)) ⟨s,r.1,rfl,Wg,rfl⟩) ?_);have X6:r.2.2.1="call"->r.2.2.2∈VW:=λq=>by rw[← ZK];exact hW.cl r rm q
  refine ai (bg 7 (y:=if r.2.2.1="call" then(WR VW r.2.2.2:Int) else -1) (EV.cast (lH (aA cm (EV.sP (x:=r.2.2.1) (dJ (aa 5 rfl) ev_int rfl)) ay) (λh=>Cc (aa 2 rfl) (EV.sP (x:=r.2.2.2) (dJ (aa 5 rfl) ev_int rfl)) (vy (X6 (VR h))).1 (vy (X6 (VR h))).2) (λ_=>dO hnc)) (by by_cases q:r.2.2.1="call"<;>simp[q])) ?_)
  have WQ:cE (eG s) (c5 s r.1)=some ((eG s).getD (c5 s r.1).toNat []):=bw (xs:=eG s) (i:=c5 s r.1) [] q0 (by omega);refine aj (eT 4 (y:=jb s r) (G7 (ak (EV.pI (aa 6 rfl)) (ak (EV.pI (iU hu (a9 (aa 3 rfl) (aa 6 rfl) WQ) (EV.iP (n:=r.1) (dJ (aa 5 rfl) ev_int rfl)) (lA (hW.f1 r rm)))) (ak (EV.pI (iU hu (a9 (aa 3 rfl) (aa 6 rfl) WQ) (EV.iP (n:=r.2.1) (dJ (aa 5 rfl) ev_int rfl)) (lA (hW.f2 r rm)))) (ak (EV.cast (EV.pI (aa 7 rfl)) (by unfold jb;rw[ZK])) aL))))) rfl rfl (Sj tl (by decide)) ⟨.im aq (jE r),aJ (c5 s r.1),aJ (if r.2.2.1="call" then(WR VW r.2.2.2:Int) else -1),rfl⟩)
 ·obtain⟨e5,e6,e7,rfl⟩:=hΓ;refine⟨e5,e6,e7,?_⟩;rw[Qg,QM]
 rintro _ ⟨e5,e6,e7,rfl⟩;refine aj (Gu 4 (bE (own:=["known"]) (fr:=[]) (ix:=[]) (ra:=jy) (rb:=ag) (p:=λ_=>true) (f:=λF=>(F.length:Int)) (bA (so:=ao yQ) (N0:=Fs) rfl rfl (λx h=>bb h) (by decide +kernel)) (br (aa 3 rfl))
  (λC s H ex=>aP 0) (λx=>⟨.inr rfl,trivial⟩) (λC' s H ex c hc=>dk) (λC' s' H ex o ho _=>pM M.len (aa 0 rfl))) rfl ?_)
 unfold CQ;rw[QZ.mpr λ_ _=>rfl]
def Ix (F:PR):Prop:=∀(i:Nat)(y:Int×Int),F[i]?=some y->y.2=(i:Int)
theorem Ix.put (h:Ix F)(k:Int):Ix (cH F k):=by
 unfold cH;split
 ·exact h
 ·intro i y hy;rcases Sm i F.length with q | q
  ·rw[QI q] at hy;exact h i y hy
  ·rw[QE q] at hy;have:i-F.length=0:=by
    have:=(Qc.mp hy).1;rw[QG] at this;omega
   rw[this] at hy;have hy:(k,(F.length:Int))=y:=by simpa using hy
   rw[← hy];show(F.length:Int)=(i:Int);omega
theorem mE (F:PR)(k:Int):F <+:cH F k:=by
 unfold cH;split
 ·exact prefix_rfl
 ·exact List.prefix_append _ _
theorem oz (F:PR)(k:Int):k∈(cH F k).map (·.1):=by
 unfold cH;split
 ·rename_i h;exact gD.mp h
 ·rw[Qv];exact Qn _ (by simp)
theorem G1 (p:ie)(F:PR)(r:Rw):F <+:eu p F r:=by
 unfold eu;split
 ·exact(mE _ _).trans (mE _ _)
 ·exact prefix_rfl
theorem vW {p:ie}:∀{rs:List Rw}{F:PR},F <+:rs.foldl (eu p) F
 | [],F=>prefix_rfl
 | r::rs,F=>by rw[QX];exact(G1 p F r).trans vW
theorem uN {p:ie}{r:Rw}(hi:gR p r=true):∀{rs:List Rw}{F:PR},r∈rs->r.1∈(rs.foldl (eu p) F).map (·.1)/\r.2.1∈(rs.foldl (eu p) F).map (·.1)
 | x::rs,F,h=>by
   rw[QX];rcases Qq.mp h with rfl | h
   ·have pre:=vW (p:=p) (rs:=rs) (F:=eu p F r);have e:eu p F r=cH (cH F r.1) r.2.1:=by unfold eu;rw[VQ hi]
    have sub:∀y,y∈(eu p F r).map (·.1)->y∈(rs.foldl (eu p) (eu p F r)).map (·.1):=λy hy=>by
     obtain⟨z,hz,rfl⟩:=Qw.mp hy;exact Qw.mpr ⟨z,pre.subset hz,rfl⟩
    refine⟨sub _ ?_,sub _ ?_⟩
    ·rw[e];obtain⟨z,hz,ez⟩:=Qw.mp (oz F r.1);exact Qw.mpr ⟨z,(mE _ _).subset hz,ez⟩
    ·rw[e];exact oz _ _
   ·exact uN hi h
theorem Ki (a b:Int):Ix [(a,0),(b,1)]:=by
 intro i y hy
 match i with
 | 0=>have:(a,(0:Int))=y:=by simpa using hy
      rw[← this];rfl
 | 1=>have:(b,(1:Int))=y:=by simpa using hy
      rw[← this];rfl
 | i+2=>simp at hy
theorem Hf {k:Int}(h:aW F k=some v):(k,v)∈F:=by
 unfold aW at h;obtain⟨y,hy,rfl⟩:=SO.mp h;have h1:=List.mem_of_find?_eq_some hy;have h2:=List.find?_some hy;have h2:y.1=k:=VR h2;rw[← h2];exact h1
theorem xu {k v:Int}:∀{F:PR},(F.map (·.1)).Nodup->(k,v)∈F->aW F k=some v
 | y::F,nd,h=>by
   obtain⟨n1,n2⟩:=QF.mp (show(y.1::F.map (·.1)).Nodup from nd);unfold aW;rcases Qq.mp h with e | h
   ·rw[← e,RU (by simp)];rfl
   ·rw[Rx (by
     simp only[decide_eq_true_eq];intro e;exact n1 (by rw[e];exact Qw.mpr ⟨_,h,rfl⟩))]
    exact xu n2 h
theorem Ix.val (h:Ix F){k:Int}(hk:k∈F.map (·.1)):∃i:Nat,aW F k=some (i:Int)/\i<F.length/\F[i]?=some (k,(i:Int)):=by
 have hs:=gD.mpr hk;cases e:aW F k with
 | none=>rw[e] at hs;cases hs
 | some v=>
   have hm:=Hf e;obtain⟨i,hi⟩:=Qu.mp hm;have:=h i _ hi;have hv:v=(i:Int):=this;rw[hv] at hi ⊢;exact⟨i,rfl,(Qc.mp hi).1,hi⟩
theorem zQ {p:α->Bool}{l:List α}(hj:j<l.length)(h:∀(i:Nat)(x:α),l[i]?=some x->(p x=true↔i<=j)):(l.filter p).length=j+1:=by
 conv=>lhs;rw[← Rf (j+1) l]
 rw[Rg,QZ.mpr λx hx=>?_,RR.mpr λx hx=>?_,QC,QA]
 ·omega
 ·obtain⟨i,hi⟩:=Qu.mp hx;rw[Se] at hi;intro q;have:=(h _ _ hi).mp q;omega
 ·obtain⟨i,hi⟩:=Qu.mp hx;have il:i<(l.take (j+1)).length:=(Qc.mp hi).1;rw[QA] at il;rw[List.getElem?_take_of_lt (by omega)] at hi;exact(h _ _ hi).mpr (by omega)
theorem Aq {St:PH}(h:r∈gw S Ld St):∃(n:Nat)(s:aG)(l:Int),S[n]?=some s/\r.1=(n:Int)/\a7 s.kind=true/\l∈Ld.getD n []/\r.2.1=St.getD l.toNat 0/\r.2.2.1∈(c9 d7 s.kind).getD []/\r.2.2.2=s.name:=by
 unfold gw at h;obtain⟨z,hz,hr⟩:=Rj.mp h;unfold d6 at hr;obtain⟨y,hy,rfl⟩:=Qw.mp hr;obtain⟨i,hi⟩:=Qu.mp hz;obtain⟨e1,e2⟩:=fb hi;unfold jR at hy;obtain⟨h1,h2⟩:=RG (show(y.1,y.2)∈_ from hy);rw[e1,show((i:Nat):Int).toNat=i by omega] at h2;refine⟨i,z.2,y.2,e2,e1,?_,h2,rfl,h1,rfl⟩;unfold a7;cases q:c9 d7 z.2.kind with
 | none=>rw[q] at h1;cases h1
 | some v=>rfl
theorem B4 {k:Str}(h:("call":Str)∈(c9 d7 k).getD []):k="call":=by
 unfold c9 at h;split at h
 ·exact VO h (by decide +kernel)
 unfold c9 at h;split at h
 ·rename_i e;exact e.symm
 unfold c9 at h;split at h
 ·exact VO h (by decide +kernel)
 unfold c9 at h;split at h
 ·exact VO h (by decide +kernel)
 ·unfold c9 at h;cases h
abbrev de (VW:PJ)(Ls:List (List Th)):ir:=Wo (av VW Ls) (cJ VW Ls)
abbrev lI (f:Nat)(z:Str×List Th):ie:=(z.1,(f:Int),((lst f z:Nat):Int))
theorem vJ (h:cy VW Ls)(hz:(dG VW Ls)[j]?=some z):(cQ (av VW Ls))[j]?=some (lI (fst VW Ls j) z):=by
 have hn:=uk h;have hlp:(cQ (av VW Ls)).length=VW.length:=by rw[← congrArg List.length hn,Qg]
 obtain⟨_,_,_,hnj,_⟩:=fq h hz;have jl:=(Qc.mp hnj).1;have jp:j<(cQ (av VW Ls)).length:=by omega
 rw[Qd jp];obtain⟨j',z',w',Yz,W9,e⟩:=ng h (QP jp);have h1:VW[j]?=some ((cQ (av VW Ls))[j]).1:=by
  conv=>lhs;rw[← hn]
  rw[Ql,Qd jp];rfl
 obtain⟨_,_,_,Zr,_⟩:=fq h Yz;rw[e] at h1;have h1:VW[j]?=some z'.1:=h1;have jl':=(Qc.mp Zr).1;have ej:j=j':=by
  rw[Qd jl] at h1;rw[Qd jl'] at Zr;exact(getElem_inj h.nd).mp ((Option.some.inj h1).trans (Option.some.inj Zr).symm)
 subst ej;rw[hz] at Yz;cases Option.some.inj Yz
 rw[e]
theorem qA (h:cy VW Ls):(dG VW Ls).length=Ls.length:=by rw[Rn,h.l];omega
theorem nY (h:cy VW Ls):(cQ (av VW Ls)).length=Ls.length:=by
 rw[← h.l,← congrArg List.length (uk h),Qg]
theorem yd (h:cy VW Ls)(hz:(dG VW Ls)[j]?=some z)(h1:fst VW Ls j<=n)(h2:n<=lst (fst VW Ls j) z):c5 (de VW Ls) (n:Int)=(j:Int):=by
 have jl:=(Qc.mp hz).1;have zl:=qA h;have pl:=nY h;unfold c5;show(((cQ (av VW Ls)).filter λp=>decide (p.2.1<=(n:Int))).length:Int)-1=_;rw[zQ (j:=j) (by omega) λi x hx=>?_]
 ·push_cast;omega
 ·have il:=(Qc.mp hx).1;have hzi:(dG VW Ls)[i]?=some ((dG VW Ls)[i]'(by omega)):=Qd (by omega);rw[vJ h hzi] at hx;have hx:=Option.some.inj hx;rw[← hx];show decide (((fst VW Ls i:Nat):Int)<=(n:Int))=true↔i<=j;rw[decide_eq_true_eq];constructor
  ·intro q;refine Classical.byContradiction λc=>?_;have:=ox (dG VW Ls) j i z hz (by omega);have h2:n<=fst VW Ls j+1+V0 z.2:=h2;have:fst VW Ls j+2+V0 z.2<=fst VW Ls i:=this;omega
  ·intro q;rcases Sm i j with c | c
   ·have:=ox (dG VW Ls) i j _ hzi c;have:fst VW Ls i+2+V0 ((dG VW Ls)[i]'(by omega)).2<=fst VW Ls j:=this;omega
   ·have:i=j:=by omega
    subst this;omega
theorem Ae {f:Nat}(h:v∈nN S f z):J2 S f (lst f z) v:=by
 unfold nN at h;rcases Qr.mp h with h | h
 ·obtain⟨i,hi,rfl⟩:=Qw.mp h;obtain⟨h1,h2⟩:=QT.mp hi;have h1:=QU.mp h1;refine⟨by omega,?_,.inr h2⟩;show((f+1+i:Nat):Int)<=((f+1+V0 z.2:Nat):Int);omega
 ·rw[Qe.mp h];exact⟨by show(f:Int)<((f+1+V0 z.2:Nat):Int);omega,Qa _,.inl rfl⟩
theorem Bs (h:cy VW Ls){w:Int}(hz:(dG VW Ls)[j]?=some z)(hb:fw (av VW Ls) (cJ VW Ls) VW (fst VW Ls j) w z)(hr:r∈(de VW Ls).rows)(hi:gR (lI (fst VW Ls j) z) r=true):r.1∈nN (av VW Ls) (fst VW Ls j) z/\r.2.1∈nN (av VW Ls) (fst VW Ls j) z:=by
 obtain⟨XH,Yo,Z3,_⟩:=fq h hz;have Xr:=λn h1 h2=>hb.Er mG XH _ n rfl h1 h2;obtain⟨n,s,l,h1,h2,h3,h4,h5⟩:=m8 hr;unfold gR at hi;rw[PZ] at hi;have i1:((fst VW Ls j:Nat):Int)<r.1:=VR hi.1;have i2:r.1<((lst (fst VW Ls j) z:Nat):Int):=VR hi.2;rw[h2] at i1 i2;have Xi:aU (av VW Ls) (n:Int)=s.kind:=(dC h1).1;have st:=hb.all mG XH n (by omega) (by omega);have rg:=st.rg l h4;refine⟨?_,?_⟩
 ·rw[h2];exact kX ⟨i1,by omega,.inr (by rw[Xi];exact h3)⟩
 ·rw[h5];exact kX (Xr l.toNat (by omega) (by omega))
theorem Ck (h:cy VW Ls)(hr:r∈(de VW Ls).rows):∃(j:Nat)(z:Str×List Th),(dG VW Ls)[j]?=some z/\c5 (de VW Ls) r.1=(j:Int)/\gR (lI (fst VW Ls j) z) r=true:=by
 obtain⟨n,s,l,h1,h2,h3,h4,h5⟩:=m8 hr;have hn:=(Qc.mp h1).1;obtain⟨j,z,w,hz,hb,q1,q2,q3⟩:=md h n hn;have Xi:aU (av VW Ls) (n:Int)=s.kind:=(dC h1).1;refine⟨j,z,hz,by rw[h2];exact yd h hz q1 q2,?_⟩;have n1:n≠fst VW Ls j:=λe=>by
  rw[e,hb.k] at Xi;rw[← Xi] at h3;exact VO h3 (by decide +kernel)
 have n2:n≠lst (fst VW Ls j) z:=λe=>by
  rw[e,(dC hb.e).1] at Xi;rw[← Xi] at h3;exact VO h3 (show¬a7 "end"=true by decide +kernel)
 unfold gR;rw[PZ,h2];exact⟨VT (show((fst VW Ls j:Nat):Int)<(n:Int) by omega),VT (show(n:Int)<((lst (fst VW Ls j) z:Nat):Int) by omega)⟩
theorem wZ (h:cy VW Ls)(hz:(dG VW Ls)[j]?=some z):(eG (de VW Ls))[j]?=some (dE (de VW Ls) (lI (fst VW Ls j) z)):=by
 unfold eG;rw[Ql];show((cQ (av VW Ls))[j]?).map _=_;rw[vJ h hz];rfl
theorem Hl (h:cy VW Ls):(eG (de VW Ls)).length=Ls.length:=by
 unfold eG;rw[Qg];exact nY h
theorem MT (h:cy VW Ls):Kt (de VW Ls):=by
 have zl:=qA h;have pl:=nY h;have key:∀r∈(de VW Ls).rows,r.1∈((eG (de VW Ls)).getD (c5 (de VW Ls) r.1).toNat []).map (·.1)/\r.2.1∈((eG (de VW Ls)).getD (c5 (de VW Ls) r.1).toNat []).map (·.1):=λr hr=>by
  obtain⟨j,z,hz,e,hi⟩:=Ck h hr;rw[e,show((j:Nat):Int).toNat=j by omega,Qh,wZ h hz];exact uN hi hr
 refine⟨λr hr=>?_,λr hr=>gD.mpr (key r hr).1,λr hr=>gD.mpr (key r hr).2,λr hr hc=>?_⟩
 ·obtain⟨j,z,hz,e,_⟩:=Ck h hr;have jl:=(Qc.mp hz).1;rw[e];exact⟨by omega,by show(j:Int)<((cQ (av VW Ls)).length:Int);omega⟩
 ·obtain⟨n,s,l,h1,h2,h3,h4,h5,h6,h7⟩:=Aq hr;rw[hc] at h6;have hk:=B4 h6;obtain⟨Ld,XY,hG⟩:=GR VW Ls h;obtain⟨m,u,_,hm,hu,hun⟩:=hG.ca n s h1 hk;rw[h7,← hun];show u.name∈(cQ (av VW Ls)).map (·.1);rw[wx];unfold WM;exact Qw.mpr ⟨u,QT.mpr ⟨Qm hm,VT hu⟩,rfl⟩
mutual
def eI:Th->Nat
 | .ifs _ A B=>1+eo A+eo B
 | .V5 _ A=>1+eo A
 | .Wi _=>1
 | .call _=>1
 | .leave=>0
 | .back=>0
def eo:List Th->Nat
 | []=>0
 | t::ts=>eI t+eo ts
end
abbrev nD:=Str×Str×Int×Int×Int
def jh (ts:List Th)(k bh lp:Int):Int:=match ts with
 | []=>bh
 | .leave::_=>lp
 | .back::_=> -1
 | _::_=>k
mutual
def bJ:Th->Int->Int->Int->List nD
 | .Wi x,k,af,lp=>[("do",x,k,af, -1)]
 | .call j,k,af,lp=>[("call","",k,af,j)]
 | .ifs x A B,k,af,lp=>([(("yes":Str),x,k,jh A (k+1) af lp, -1),(("no":Str),x,k,jh B (k+1+eo A) af lp, -1)]:List nD)++(cC A (k+1) af lp++cC B (k+1+eo A) af lp)
 | .V5 x A,k,af,lp=>([(("yes":Str),x,k,jh A (k+1) k af, -1),(("no":Str),x,k,af, -1)]:List nD)++cC A (k+1) k af
 | .leave,_,_,_=>[]
 | .back,_,_,_=>[]
def cC:List Th->Int->Int->Int->List nD
 | [],_,_,_=>[]
 | t::ts,k,bh,lp=>bJ t k (jh ts (k+eI t) bh lp) lp++cC ts (k+eI t) bh lp
end
theorem Ks (x:Str):bp (.Wi x)=1:=by simp[bp]
theorem GA (x:Int):bp (.call x)=1:=by simp[bp]
theorem DB:bp .leave=1:=by simp[bp]
theorem Gv:bp .back=1:=by simp[bp]
theorem mJ:a7 "else"=false:=by decide +kernel
theorem iD:a7 "end"=false:=by decide +kernel
theorem n8:a7 "leave"=false:=by decide +kernel
theorem pB:a7 "back"=false:=by decide +kernel
theorem wH:a7 "part"=false:=by decide +kernel
def kR (S:List aG):Nat:=(S.filter λt=>a7 t.kind).length
theorem ip (a b:List aG):kR (a++b)=kR a+kR b:=by unfold kR;rw[Rg,Qj]
theorem qY (h:a7 s.kind=true):kR [s]=1:=by unfold kR;rw[Q8 (by exact h)];rfl
theorem oQ (h:a7 s.kind=false):kR [s]=0:=by unfold kR;rw[Q9 (by rw[h];exact PX)];rfl
mutual
theorem J7 {VW:PJ}:∀(t:Th)(a w u:Int),kR (spT VW a w u t)=eI t
 | .Wi _,a,w,u=>by rw[spT,eI];exact qY qT
 | .call _,a,w,u=>by rw[spT,eI];exact qY mN
 | .leave,a,w,u=>by rw[spT,eI];exact oQ n8
 | .back,a,w,u=>by rw[spT,eI];exact oQ pB
 | .V5 x A,a,w,u=>by
   rw[spT,eI,ip,ip,vL A,qY gz,oQ iD];omega
 | .ifs x A B,a,w,u=>by
   rw[spT,eI,ip,ip,ip,ip,vL A,vL B,qY mi,oQ mJ,oQ iD];omega
theorem vL {VW:PJ}:∀(ts:List Th)(a w u:Int),kR (bY VW a w u ts)=eo ts
 | [],a,w,u=>by rw[bY,eo];rfl
 | t::ts,a,w,u=>by rw[bY,eo,ip,J7 t,vL ts]
end
section
variable {a:Nat}
def cI (S:List aG)(Ld:List PH)(a n:Nat):List Rw:=(R8 a n).flatMap λ(i:Nat)=>d6 Ld (aZ S Ld) ((i:Int),S.getD i dq)
theorem dF (S:List aG)(Ld:List PH)(a m n:Nat):cI S Ld a (m+n)=cI S Ld a m++cI S Ld (a+m) n:=by
 unfold cI;rw[← Rl,List.range'_append_1]
theorem oi (S:List aG)(Ld:List PH)(a:Nat):cI S Ld a 1=d6 Ld (aZ S Ld) ((a:Int),S.getD a dq):=by
 unfold cI;rw[range'_one,RV]
def WG (S:List aG)(a n:Nat):Nat:=((R8 a n).filter λ(i:Nat)=>a7 (aU S (i:Int))).length
theorem gc (S:List aG)(a m n:Nat):WG S a (m+n)=WG S a m+WG S (a+m) n:=by
 unfold WG;rw[← Qj,← Rg,List.range'_append_1]
theorem uy (h:a7 (aU S (a:Int))=true):WG S a 1=1:=by
 unfold WG;rw[range'_one,Q8 (by exact h)];rfl
theorem ur (h:a7 (aU S (a:Int))=false):WG S a 1=0:=by
 unfold WG;rw[range'_one,Q9 (by rw[h];exact PX)];rfl
theorem cF.gI {S:List α}{v:α}{vs:List α}(h:cF S a (v::vs)):S[a]?=some v/\cF S (a+1) vs:=⟨h 0 v rfl,λi x hx=>by
 have:=h (i+1) x hx;rwa [show a+1+i=a+(i+1) by omega]⟩
theorem vN {S:List aG}:∀{vs:List aG}{a:Nat},cF S a vs->WG S a vs.length=kR vs
 | [],a,_=>rfl
 | v::vs,a,h=>by
   obtain⟨h1,h2⟩:=h.gI;have h2:cF S (a+1) vs:=h2;have ih:=vN h2;rw[Qo,Nat.add_comm,gc,ih,show v::vs=[v]++vs from rfl,ip];have hk:=(dC h1).1;cases hr:a7 v.kind with
   | true=>rw[uy (by rw[hk];exact hr),qY hr]
   | false=>rw[ur (by rw[hk];exact hr),oQ hr]
theorem MF {x w:Int}{k:Nat}(h:cF S a (spT VW x w u t))(hk:WG S 0 a=k):WG S 0 (a+bp t)=k+eI t:=by
 have:=vN h;rw[ka,J7] at this;rw[gc,hk,So,this]
theorem Fg {x w:Int}{k:Nat}(h:cF S a (bY VW x w u ts))(hk:WG S 0 a=k):WG S 0 (a+V0 ts)=k+eo ts:=by
 have:=vN h;rw[cj,vL] at this;rw[gc,hk,So,this]
theorem yo (S:List aG)(Ld:List PH):gw S Ld (aZ S Ld)=cI S Ld 0 S.length:=by
 unfold gw cI;have e:nums S=(R8 0 S.length).map λ(i:Nat)=>((i:Int),S.getD i dq):=by
  refine Q0 λi=>?_;rcases Sm i S.length with h | h
  ·have hl:i<(nums S).length:=by rw[cV];exact h
   have hn:(nums S)[i]?=some (nums S)[i]:=Qd hl;obtain⟨y1,y2⟩:=fb hn;have hr:(R8 0 S.length)[i]?=some i:=by rw[List.getElem?_range' h];simp
   rw[hn,Ql,hr];refine congrArg some (SU y1 ?_);show _=S.getD i dq;rw[Qh,y2];rfl
  ·rw[QH (by rw[cV];exact h),QH (by rw[Qg,List.length_range'];exact h)]
 rw[e,List.flatMap_map]
theorem je (hs:S[n]?=some s)(hk:a7 s.kind=false):cI S Ld n 1=[]:=by
 have e:S.getD n dq=s:=by rw[Qh,hs];rfl
 rw[oi,e];unfold d6 jR;unfold a7 at hk;cases q:c9 d7 s.kind with
 | none=>rfl
 | some x=>rw[q] at hk;cases hk
theorem BM (hs:S[n]?=some s)(hk:c9 d7 s.kind=some [y])(hl:Ld.getD n []=[l]):cI S Ld n 1=[((n:Int),(aZ S Ld).getD l.toNat 0,y,s.name)]:=by
 have e:S.getD n dq=s:=by rw[Qh,hs];rfl
 rw[oi,e];unfold d6 jR;rw[show(((n:Int),s).1).toNat=n from P9 n,show(((n:Int),s).2).kind=s.kind from rfl,hk,hl];rfl
theorem A7 {y':Str}{l':Int}(hs:S[n]?=some s)(hk:c9 d7 s.kind=some [y,y'])(hl:Ld.getD n []=[l,l']):cI S Ld n 1=[((n:Int),(aZ S Ld).getD l.toNat 0,y,s.name),((n:Int),(aZ S Ld).getD l'.toNat 0,y',s.name)]:=by
 have e:S.getD n dq=s:=by rw[Qh,hs];rfl
 rw[oi,e];unfold d6 jR;rw[show(((n:Int),s).1).toNat=n from P9 n,show(((n:Int),s).2).kind=s.kind from rfl,hk,hl];rfl
def uE (VW:PJ)(φ:Int->Int)(r:Rw):nD:=(r.2.2.1,if r.2.2.1="call" then "" else r.2.2.2,φ r.1,φ r.2.1,if r.2.2.1="call" then(WR VW r.2.2.2:Int) else -1)
structure rf (S:List aG)(Ld:List PH)(φ:Int->Int)(pe:Nat)(wl lq:Int)(lp:Bool)(hi:Nat):Prop where
 pz:hi<=pe
 pl:pe<S.length
 ps:φ ((aZ S Ld).getD pe 0)= -1
 wh:lp=true->(hi:Int)<=wl/\wl<(S.length:Int)/\φ ((aZ S Ld).getD wl.toNat 0)=lq
end
variable {φ:Int->Int}{pe:Nat}{wl bh:Int}
section
variable {lq:Int}
theorem rf.less {hi lo:Nat}(h:rf S Ld φ pe wl lq lp hi)(q:lo<=hi):rf S Ld φ pe wl lq lp lo:=
 ⟨by have:=h.pz;omega,h.pl,h.ps,λe=>by obtain⟨a,b,c⟩:=h.wh e;exact⟨by omega,b,c⟩⟩
theorem Bw (hs:S[n]?=some s)(hk:a7 s.kind=true):(aZ S Ld).getD n 0=(n:Int):=
 iQ (Qc.mp hs).1 (.inr (by rw[(dC hs).1];exact hk))
theorem lG (hs:S[n]?=some s)(hk:a7 s.kind=false)(hL:Ld.getD n []=[l])(h1:(n:Int)<l)(h2:l<(S.length:Int)):(aZ S Ld).getD n 0=(aZ S Ld).getD l.toNat 0:=by
 rw[mX (Qc.mp hs).1 hL (by rw[(dC hs).1];exact hk) (by omega) h2,VQ h1]
theorem A5 (hs:S[n]?=some s)(hk:a7 s.kind=false)(hL:Ld.getD n []=[l])(h0:0<=l)(h1:l<=(n:Int)):(aZ S Ld).getD n 0=l:=by
 have hn:=(Qc.mp hs).1;rw[mX hn hL (by rw[(dC hs).1];exact hk) h0 (by omega),VP (by omega)]
theorem Iz:c9 d7 "do"=some (["do"]:PJ):=by decide +kernel
theorem Cq:c9 d7 "call"=some (["call"]:PJ):=by decide +kernel
theorem Im:c9 d7 "if"=some (["yes","no"]:PJ):=by decide +kernel
theorem Cm:c9 d7 "while"=some (["yes","no"]:PJ):=by decide +kernel
theorem cF.d0 {a:Nat}{v:PH}{vs:List PH}(h:cF Ld a (v::vs)):Ld.getD a []=v:=by
 rw[Qh,h.gI.1];rfl
theorem hdT {a w:Int}:∃s r,spT VW a w u t=s::r/\(a7 s.kind=true↔t≠ .leave/\t≠ .back):=by
 cases t with
 | Wi x=>rw[spT];exact⟨_,_,rfl,by constructor<;>intro _;exact⟨(λe=>by cases e),λe=>by cases e⟩;exact qT⟩
 | call x=>rw[spT];exact⟨_,_,rfl,by constructor<;>intro _;exact⟨(λe=>by cases e),λe=>by cases e⟩;exact mN⟩
 | ifs x A B=>rw[spT];exact⟨_,_,rfl,by constructor<;>intro _;exact⟨(λe=>by cases e),λe=>by cases e⟩;exact mi⟩
 | V5 x A=>rw[spT];exact⟨_,_,rfl,by constructor<;>intro _;exact⟨(λe=>by cases e),λe=>by cases e⟩;exact gz⟩
 | leave=>rw[spT];exact⟨_,_,rfl,by constructor<;>intro h;rw[show a7 _=false from n8] at h;cases h;exact VO rfl h.1⟩
 | back=>rw[spT];exact⟨_,_,rfl,by constructor<;>intro h;rw[show a7 _=false from pB] at h;cases h;exact VO rfl h.2⟩
theorem G8 (t:Th):1<=bp t:=by
 cases t<;>simp[bp]<;>omega
theorem sC {k:Int}(h:t≠ .leave/\t≠ .back):jh (t::ts) k bh lq=k:=by
 cases t with
 | leave=>exact VO rfl h.1
 | back=>exact VO rfl h.2
 | Wi _=>rfl
 | call _=>rfl
 | ifs _ _ _=>rfl
 | V5 _ _=>rfl
theorem uu (hφ:∀n:Nat,n<pe->a7 (aU S (n:Int))=true->φ (n:Int)=(WG S 0 n:Int)){a:Nat}{w:Int}(V4:bz lo m lp ts)(hS:cF S a (bY VW (a:Int) w u ts))(hL:cF Ld a (gk (a:Int) wl (pe:Int) ts))(cx:rf S Ld φ pe wl lq lp (a+V0 ts)){k:Nat}(hk:WG S 0 a=k)(hb:φ ((aZ S Ld).getD (a+V0 ts) 0)=bh):φ ((aZ S Ld).getD a 0)=jh ts (k:Int) bh lq:=by
 cases ts with
 | nil=>rw[V0] at hb;exact hb
 | cons t ts=>
   rw[bY] at hS;rw[gk] at hL;simp only[bz] at V4;rw[V0] at cx;have hS:=hS.pre;have hL:=hL.pre;have p1:=G8 t;have pz:=cx.pz;have pl:=cx.pl;obtain⟨s,r,e,hr⟩:=hdT (VW:=VW) (t:=t) (a:=(a:Int)) (w:=w) (u:=u);have hs:S[a]?=some s:=by rw[e] at hS;exact hS.gI.1
   cases Xz:a7 s.kind with
   | true=>
     rw[Bw hs Xz,sC (hr.mp Xz),hφ a (by omega) (by rw[(dC hs).1];exact Xz),hk]
   | false=>
     cases t with
     | Wi _=>rw[hr.mpr ⟨(λe=>by cases e),(λe=>by cases e)⟩] at Xz;cases Xz
     | call _=>rw[hr.mpr ⟨(λe=>by cases e),(λe=>by cases e)⟩] at Xz;cases Xz
     | ifs _ _ _=>rw[hr.mpr ⟨(λe=>by cases e),(λe=>by cases e)⟩] at Xz;cases Xz
     | V5 _ _=>rw[hr.mpr ⟨(λe=>by cases e),(λe=>by cases e)⟩] at Xz;cases Xz
     | leave=>
       have h1:=V4.1;simp only[bO] at h1;obtain⟨w1,w2,w3⟩:=cx.wh h1;rw[fN] at hL;rw[lG hs Xz hL.d0 (by omega) w2,w3];rfl
     | back=>
       rw[fN] at hL;rw[lG hs Xz hL.d0 (by omega) (by omega),P9,cx.ps];rfl
end
theorem AZ {a a' b b':List α}(h:a=a')(h':b=b'):a++b=a'++b':=by rw[h,h']
section
theorem Jg (nd:VW.Nodup)(h:j<VW.length):WR VW (VW.getD j "")=j:=by
 have hx:VW[j]?=some (VW.getD j ""):=by rw[Qh,Qd h];rfl
 obtain⟨h1,h2⟩:=vy (Qm hx);rcases Nat.lt_trichotomy (WR VW (VW.getD j "")) j with q | q | q
 ·have:=(List.getElem?_inj (by omega) nd).mp (h1.trans hx.symm);exact this
 ·exact q
 ·exact VO hx (h2 j q)
variable (nd:VW.Nodup)(hm:m<=(VW.length:Int))(h0:0<=lo)(hφ:∀n:Nat,n<pe->a7 (aU S (n:Int))=true->φ (n:Int)=(WG S 0 n:Int))
include nd hm h0 hφ
mutual
theorem mpT:∀(t:Th)(lp:Bool)(a:Nat)(w u wl lq:Int)(k:Nat)(af:Int),bO lo m lp t->cF S a (spT VW (a:Int) w u t)->cF Ld a (fN (a:Int) wl (pe:Int) t)->rf S Ld φ pe wl lq lp (a+bp t)->WG S 0 a=k->φ ((aZ S Ld).getD (a+bp t) 0)=af->(cI S Ld a (bp t)).map (uE VW φ)=bJ t (k:Int) af lq
 | .Wi x,lp,a,w,u,wl,lq,k,af,h,hS,hL,cx,hk,ha=>by
   rw[spT] at hS;rw[fN] at hL;rw[Ks] at ha cx ⊢;have pz:=cx.pz;have fa:=hφ a (by omega) (by rw[(dC hS.gI.1).1];exact qT);rw[BM hS.gI.1 Iz hL.d0,bJ,Sf];show[(("do":Str),(if("do":Str)="call" then("":Str) else x),φ (a:Int),φ ((aZ S Ld).getD ((a:Int)+1).toNat 0),(if("do":Str)="call" then(WR VW x:Int) else -1))]=_;rw[show((a:Int)+1).toNat=a+1 by omega,ha,fa,hk,VP (by decide +kernel),VP (by decide +kernel)]
 | .call j,lp,a,w,u,wl,lq,k,af,h,hS,hL,cx,hk,ha=>by
   rw[spT] at hS;rw[fN] at hL;rw[GA] at ha cx ⊢;simp only[bO] at h;have pz:=cx.pz;have fa:=hφ a (by omega) (by rw[(dC hS.gI.1).1];exact mN);rw[BM hS.gI.1 Cq hL.d0,bJ,Sf];show[(("call":Str),(if("call":Str)="call" then("":Str) else VW.getD j.toNat ""),φ (a:Int),φ ((aZ S Ld).getD ((a:Int)+1).toNat 0),(if("call":Str)="call" then(WR VW (VW.getD j.toNat ""):Int) else -1))]=_;rw[show((a:Int)+1).toNat=a+1 by omega,ha,fa,hk,VQ rfl,VQ rfl,Jg nd (by omega),show((j.toNat:Nat):Int)=j by omega]
 | .leave,lp,a,w,u,wl,lq,k,af,h,hS,hL,cx,hk,ha=>by
   rw[spT] at hS;rw[DB];rw[je hS.gI.1 n8,bJ];rfl
 | .back,lp,a,w,u,wl,lq,k,af,h,hS,hL,cx,hk,ha=>by
   rw[spT] at hS;rw[Gv];rw[je hS.gI.1 pB,bJ];rfl
 | .V5 x A,lp,a,w,u,wl,lq,k,af,h,hS,hL,cx,hk,ha=>by
   simp only[bO] at h;rw[spT] at hS;rw[fN] at hL;rw[bp] at cx ha ⊢;obtain⟨s1,s2⟩:=hS.app;obtain⟨s2,s3⟩:=s2.app;obtain⟨d1,d2⟩:=hL.app;obtain⟨d2,d3⟩:=d2.app;rw[cj] at s3;rw[dP] at d3;simp only[Qo,QD,So] at s2 s3 d2 d3;have pz:=cx.pz;have pl:=cx.pl;have fa:=hφ a (by omega) (by rw[(dC s1.gI.1).1];exact gz);have se:(aZ S Ld).getD (a+1+V0 A) 0=(a:Int):=A5 s3.gI.1 iD d3.d0 (by omega) (by omega);have cx':rf S Ld φ pe ((a:Int)+2+V0 A) af true (a+1+V0 A):=⟨by omega,pl,cx.ps,λ_=>⟨by omega,by omega,by rw[show((a:Int)+2+V0 A).toNat=a+(2+V0 A) by omega];exact ha⟩⟩;have k1:WG S 0 (a+1)=k+1:=by rw[gc,hk,So,uy (by rw[(dC s1.gI.1).1];exact gz)]
   have YL:cF S (a+1) (bY VW ((a+1:Nat):Int) (w+2) (a:Int) A):=by push_cast;exact s2
   have Y8:cF Ld (a+1) (gk ((a+1:Nat):Int) ((a:Int)+2+V0 A) (pe:Int) A):=by push_cast;exact d2
   have hb:φ ((aZ S Ld).getD (a+1+V0 A) 0)=(k:Int):=by rw[se,fa,hk]
   have en:=uu hφ h.2 YL Y8 cx' k1 hb;have ih:=Ay A true (a+1) (w+2) (a:Int) ((a:Int)+2+V0 A) af (k+1) (k:Int) h.2 YL Y8 cx' k1 hb;rw[show 2+V0 A=1+(V0 A+1) by omega,dF,dF,A7 s1.gI.1 Cm d1.d0,je s3.gI.1 iD,QC,Qv,ih,bJ];refine AZ ?_ (by push_cast;rfl);show[(("yes":Str),(if("yes":Str)="call" then("":Str) else x),φ (a:Int),φ ((aZ S Ld).getD ((a:Int)+1).toNat 0),(if("yes":Str)="call" then(WR VW x:Int) else -1)),(("no":Str),(if("no":Str)="call" then("":Str) else x),φ (a:Int),φ ((aZ S Ld).getD ((a:Int)+2+V0 A).toNat 0),(if("no":Str)="call" then(WR VW x:Int) else -1))]=_;rw[show((a:Int)+1).toNat=a+1 by omega,show((a:Int)+2+V0 A).toNat=a+(2+V0 A) by omega,ha,en,fa,hk,VP (by decide +kernel),VP (by decide +kernel),VP (by decide +kernel),VP (by decide +kernel)];push_cast;rfl
 | .ifs x A B,lp,a,w,u,wl,lq,k,af,h,hS,hL,cx,hk,ha=>by
   simp only[bO] at h;rw[spT,Qy] at hS;rw[fN,Qy] at hL;rw[bp] at cx ha ⊢;obtain⟨s1,s2⟩:=hS.app;obtain⟨s2,s3⟩:=s2.app;obtain⟨s3,s4⟩:=s3.app;obtain⟨s4,s5⟩:=s4.app;obtain⟨d1,d2⟩:=hL.app;obtain⟨d2,d3⟩:=d2.app;obtain⟨d3,d4⟩:=d3.app;obtain⟨d4,d5⟩:=d4.app;rw[cj] at s3 s4 s5;rw[cj] at s5;rw[dP] at d3 d4 d5;rw[dP] at d5;simp only[Qo,QD,So] at s2 s3 s4 s5 d2 d3 d4 d5;have pz:=cx.pz;have pl:=cx.pl;have fa:=hφ a (by omega) (by rw[(dC s1.gI.1).1];exact mi);have s5e:(aZ S Ld).getD (a+1+V0 A+1+V0 B) 0=(aZ S Ld).getD (a+(3+V0 A+V0 B)) 0:=by
    rw[lG s5.gI.1 iD d5.d0 (by omega) (by omega)];congr 1;omega
   have s3e:(aZ S Ld).getD (a+1+V0 A) 0=(aZ S Ld).getD (a+(3+V0 A+V0 B)) 0:=by
    rw[lG s3.gI.1 mJ d3.d0 (by omega) (by omega),← s5e];congr 1;omega
   have k1:WG S 0 (a+1)=k+1:=by rw[gc,hk,So,uy (by rw[(dC s1.gI.1).1];exact mi)]
   have k2:WG S 0 (a+1+V0 A)=k+1+eo A:=Fg s2 k1;have k3:WG S 0 (a+1+V0 A+1)=k+1+eo A:=by rw[gc,k2,So,ur (by rw[(dC s3.gI.1).1];exact mJ),SF]
   have YL:cF S (a+1) (bY VW ((a+1:Nat):Int) (w+2) (a:Int) A):=by push_cast;exact s2
   have Y8:cF Ld (a+1) (gk ((a+1:Nat):Int) wl (pe:Int) A):=by push_cast;exact d2
   have q4:((a+1+V0 A+1:Nat):Int)=(a:Int)+2+V0 A:=by omega
   have s4':cF S (a+1+V0 A+1) (bY VW ((a+1+V0 A+1:Nat):Int) (w+3+(V8 VW A).length) ((a:Int)+1+V0 A) B):=by rw[q4];exact s4
   have d4':cF Ld (a+1+V0 A+1) (gk ((a+1+V0 A+1:Nat):Int) wl (pe:Int) B):=by rw[q4];exact d4
   have cA:rf S Ld φ pe wl lq lp (a+1+V0 A):=cx.less (by omega);have cB:rf S Ld φ pe wl lq lp (a+1+V0 A+1+V0 B):=cx.less (by omega);have hA:φ ((aZ S Ld).getD (a+1+V0 A) 0)=af:=by rw[s3e];exact ha
   have hB:φ ((aZ S Ld).getD (a+1+V0 A+1+V0 B) 0)=af:=by rw[s5e];exact ha
   have eA:=uu hφ h.2.1 YL Y8 cA k1 hA;have eB:=uu hφ h.2.2 s4' d4' cB k3 hB;have iA:=Ay A lp (a+1) (w+2) (a:Int) wl lq (k+1) af h.2.1 YL Y8 cA k1 hA;have iB:=Ay B lp (a+1+V0 A+1) (w+3+(V8 VW A).length) ((a:Int)+1+V0 A) wl lq (k+1+eo A) af h.2.2 s4' d4' cB k3 hB;rw[show 3+V0 A+V0 B=1+(V0 A+(1+(V0 B+1))) by omega,dF,dF,dF,dF,A7 s1.gI.1 Im d1.d0,je s3.gI.1 mJ,je s5.gI.1 iD,QC,QW,Qv,Qv,iA,iB,bJ];refine AZ ?_ (by push_cast;rfl);show[(("yes":Str),(if("yes":Str)="call" then("":Str) else x),φ (a:Int),φ ((aZ S Ld).getD ((a:Int)+1).toNat 0),(if("yes":Str)="call" then(WR VW x:Int) else -1)),(("no":Str),(if("no":Str)="call" then("":Str) else x),φ (a:Int),φ ((aZ S Ld).getD ((a:Int)+2+V0 A).toNat 0),(if("no":Str)="call" then(WR VW x:Int) else -1))]=_;rw[show((a:Int)+1).toNat=a+1 by omega,show((a:Int)+2+V0 A).toNat=a+1+V0 A+1 by omega,eB,eA,fa,hk,VP (by decide +kernel),VP (by decide +kernel),VP (by decide +kernel),VP (by decide +kernel)];push_cast;rfl
theorem Ay:∀(ts:List Th)(lp:Bool)(a:Nat)(w u wl lq:Int)(k:Nat)(bh:Int),bz lo m lp ts->cF S a (bY VW (a:Int) w u ts)->cF Ld a (gk (a:Int) wl (pe:Int) ts)->rf S Ld φ pe wl lq lp (a+V0 ts)->WG S 0 a=k->φ ((aZ S Ld).getD (a+V0 ts) 0)=bh->(cI S Ld a (V0 ts)).map (uE VW φ)=cC ts (k:Int) bh lq
 | [],lp,a,w,u,wl,lq,k,bh,h,hS,hL,cx,hk,hb=>by rw[V0,cC];rfl
 | t::ts,lp,a,w,u,wl,lq,k,bh,h,hS,hL,cx,hk,hb=>by
   simp only[bz] at h;rw[bY] at hS;rw[gk] at hL;rw[V0] at cx hb ⊢;obtain⟨s1,s2⟩:=hS.app;obtain⟨d1,d2⟩:=hL.app;rw[ka] at s2;rw[oA] at d2;have YL:cF S (a+bp t) (bY VW ((a+bp t:Nat):Int) (w+(cW VW t).length) u ts):=by push_cast;exact s2
   have Y8:cF Ld (a+bp t) (gk ((a+bp t:Nat):Int) wl (pe:Int) ts):=by push_cast;exact d2
   have k1:=MF s1 hk;rw[← SH] at cx hb;have en:=uu hφ h.2.2 YL Y8 cx k1 hb;have i1:=mpT t lp a w u wl lq k _ h.1 s1 d1 (cx.less (by omega)) hk en;have i2:=Ay ts lp (a+bp t) (w+(cW VW t).length) u wl lq (k+eI t) bh h.2.2 YL Y8 cx k1 hb;rw[dF,Qv,i1,i2,cC];push_cast;rfl
end
end
def my (φ:Int->Int)(F:PR):PR:=F.map λy=>(φ y.1,y.2)
def zW (φ:Int->Int)(Kp:PH):Prop:=∀x∈Kp,∀y∈Kp,φ x=φ y->x=y
theorem oC {φ:Int->Int}{Kp:PH}(hi:zW φ Kp){k:Int}(hk:k∈Kp):∀{F:PR},(∀x∈F.map (·.1),x∈Kp)->aW (my φ F) (φ k)=aW F k
 | [],_=>rfl
 | y::F,h=>by
   have ih:=oC hi hk (F:=F) λx hx=>h x (Qi _ hx);have hy:=h y.1 Qk;unfold aW my at ih ⊢;rw[QJ];by_cases q:y.1=k
   ·rw[RU (by simpa using congrArg φ q),RU (by simpa using q)];rfl
   ·rw[Rx (by simpa using λe=>q (hi _ hy _ hk e)),Rx (by simpa using q)];exact ih
theorem yb (hi:zW φ Kp){k:Int}(hk:k∈Kp)(hF:∀x∈F.map (·.1),x∈Kp):cH (my φ F) (φ k)=my φ (cH F k)/\∀x∈(cH F k).map (·.1),x∈Kp:=by
 unfold cH;rw[oC hi hk hF];cases (aW F k).isSome with
 | true=>exact⟨rfl,hF⟩
 | false=>
   refine⟨?_,λx hx=>?_⟩
   ·show my φ F++[(φ k,((my φ F).length:Int))]=my φ (F++[(k,(F.length:Int))]);unfold my;rw[Qv,Qg];rfl
   ·have hx:x∈(F++[(k,(F.length:Int))]).map (·.1):=hx;rw[Qv] at hx;rcases Qr.mp hx with hx | hx
    ·exact hF x hx
    ·rw[Qe.mp hx];exact hk
abbrev iJ (F:PR)(a b:Int):PR:=cH (cH F a) b
theorem vB {φ:Int->Int}{Kp:PH}(VW:PJ)(hi:zW φ Kp):∀{rs:List Rw}{F:PR},(∀x∈F.map (·.1),x∈Kp)->(∀r∈rs,r.1∈Kp/\r.2.1∈Kp)->(rs.map (uE VW φ)).foldl (λF r=>iJ F r.2.2.1 r.2.2.2.1) (my φ F)=my φ (rs.foldl (λF r=>iJ F r.1 r.2.1) F)/\∀x∈(rs.foldl (λF r=>iJ F r.1 r.2.1) F).map (·.1),x∈Kp
 | [],F,hF,_=>⟨rfl,hF⟩
 | r::rs,F,hF,hr=>by
   obtain⟨k1,k2⟩:=hr r Qk;obtain⟨e1,h1⟩:=yb hi k1 hF;obtain⟨e2,h2⟩:=yb hi k2 h1;have ih:=vB VW hi (rs:=rs) (F:=iJ F r.1 r.2.1) h2 λx hx=>hr x (Qi _ hx);rw[QJ,QX,QX];show(rs.map (uE VW φ)).foldl _ (cH (cH (my φ F) (φ r.1)) (φ r.2.1))=_/\_;rw[e1,e2];exact ih
theorem qh {p:ie}:∀{rs:List Rw}{F:PR},(∀r∈rs,gR p r=false)->rs.foldl (eu p) F=F
 | [],F,_=>rfl
 | r::rs,F,h=>by
   rw[QX,show eu p F r=F by unfold eu;rw[h r Qk];rfl];exact qh λx hx=>h x (Qi _ hx)
theorem yE {p:ie}:∀{rs:List Rw}{F:PR},(∀r∈rs,gR p r=true)->rs.foldl (eu p) F=rs.foldl (λF r=>iJ F r.1 r.2.1) F
 | [],F,_=>rfl
 | r::rs,F,h=>by
   rw[QX,QX,show eu p F r=iJ F r.1 r.2.1 by unfold eu;rw[h r Qk];rfl];exact yE λx hx=>h x (Qi _ hx)
theorem lF {a:Nat}(h:r∈cI S Ld a n):∃i:Nat,a<=i/\i<a+n/\r.1=(i:Int):=by
 unfold cI at h;obtain⟨i,hi,hr⟩:=Rj.mp h;obtain⟨y,hy,rfl⟩:=Qw.mp hr;have:=List.mem_range'_1.mp hi;exact⟨i,this.1,this.2,rfl⟩
theorem EX {m:Nat}(h:n<m)(hr:a7 (aU S (n:Int))=true):WG S 0 n<WG S 0 m:=by
 obtain⟨d,rfl⟩:∃d,m=n+(1+d):=⟨m-n-1,by omega⟩;rw[gc,So,gc,uy hr];omega
theorem pU:∀(zs:List (Str×List Th))(j:Nat)(z:Str×List Th),zs[j]?=some z->da (zs.take (j+1))=da (zs.take j)+(2+V0 z.2)
 | [],j,z,h=>by simp at h
 | y::r,0,z,h=>by
   have e:y=z:=by simpa using h
   subst e;rw[QS,da,Ri,Ri,da];omega
 | y::r,j+1,z,h=>by
   have:=pU r j z (by simpa using h);rw[QS,QS,da,da,this];omega
def Wa (Ls:List (List Th))(j:Nat):Nat:=((Ls.take j).map eo).sum
def bF (Ls:List (List Th))(j:Nat):List nD:=cC (Ls.getD j []) (Wa Ls j:Int) (-1) 0
def bK (Ls:List (List Th))(j:Nat):PR:=(bF Ls j).foldl (λF r=>iJ F r.2.2.1 r.2.2.2.1) [((Wa Ls j:Int),0),(-1,1)]
def dM (j:Nat)(F:PR)(r:nD):Row:=((j:Int),(aW F r.2.2.1).getD 0,(aW F r.2.2.2.1).getD 0,r.2.2.2.2)
def cu (Ls:List (List Th)):lB:=((Qt Ls.length).map λj=>((bK Ls j).length:Int),(Qt Ls.length).flatMap λj=>(bF Ls j).map (dM j (bK Ls j)))
def jN (VW:PJ)(Ls:List (List Th))(j:Nat)(z:Str×List Th)(x:Int):Int:=if x=((lst (fst VW Ls j) z:Nat):Int) then -1 else(WG (av VW Ls) 0 x.toNat:Int)
theorem qP (S:List aG)(Ld:List PH){f:Nat}{w:Int}(hb:fw S Ld VW f w z):cI S Ld f (2+V0 z.2)=cI S Ld (f+1) (V0 z.2):=by
 rw[show 2+V0 z.2=1+(V0 z.2+1) by omega,dF,dF,je hb.nm wH,je hb.e iD,QC,QW]
theorem rZ {f:Nat}{w:Int}(hb:fw S Ld VW f w z):WG S 0 (f+1)=WG S 0 f/\WG S 0 (f+(2+V0 z.2))=WG S 0 f+eo z.2:=by
 have k1:WG S 0 (f+1)=WG S 0 f:=by rw[gc,So,ur (by rw[hb.k];exact wH),SF]
 refine⟨k1,?_⟩;have k2:=Fg hb.s k1;rw[show f+(2+V0 z.2)=(f+1+V0 z.2)+1 by omega,gc,k2,So,ur (by rw[(dC hb.e).1];exact iD),SF]
theorem uB (h:cy VW Ls)(hj:j<Ls.length):∃z,(dG VW Ls)[j]?=some z/\z.2=Ls.getD j []:=by
 have hl:j<(dG VW Ls).length:=by rw[qA h];exact hj
 have hz:=Qd hl;refine⟨_,hz,?_⟩;have:=(fq h hz).2.2.2.2;rw[Qh,this];rfl
theorem zX (h:cy VW Ls):∀j,j<=Ls.length->WG (av VW Ls) 0 (fst VW Ls j)=Wa Ls j
 | 0,_=>rfl
 | j+1,hj=>by
   obtain⟨z,hz,ez⟩:=uB h (j:=j) (by omega);obtain⟨w,hb⟩:=jx (VW:=VW) (Ls:=Ls) hz;have hL:=(fq h hz).2.2.2.2;have e:fst VW Ls (j+1)=fst VW Ls j+(2+V0 z.2):=pU _ _ _ hz;rw[e,(rZ hb).2,zX h j (by omega)];unfold Wa;rw[QK,hL,Qv,Sb];simp
theorem all_rows (h:cy VW Ls):∀n,n<=Ls.length->cI (av VW Ls) (cJ VW Ls) 0 (fst VW Ls n)=(Qt n).flatMap λj=>cI (av VW Ls) (cJ VW Ls) (fst VW Ls j+1) (V0 (Ls.getD j []))
 | 0,_=>rfl
 | n+1,hn=>by
   obtain⟨z,hz,ez⟩:=uB h (j:=n) (by omega);obtain⟨w,hb⟩:=jx (VW:=VW) (Ls:=Ls) hz;have e:fst VW Ls (n+1)=fst VW Ls n+(2+V0 z.2):=pU _ _ _ hz;rw[e,dF,all_rows h n (by omega),So,qP _ _ hb,Rt,Rl,RV,ez]
theorem wb (h:cy VW Ls):(de VW Ls).rows=(Qt Ls.length).flatMap λj=>cI (av VW Ls) (cJ VW Ls) (fst VW Ls j+1) (V0 (Ls.getD j [])):=by
 rw[← all_rows h Ls.length (Sg _)];show gw (av VW Ls) (cJ VW Ls) (aZ (av VW Ls) (cJ VW Ls))=_;rw[yo];congr 1;rw[y4,← qA h];show da (dG VW Ls)=da ((dG VW Ls).take _);rw[QM]
theorem tX (h:cy VW Ls)(hz:(dG VW Ls)[j]?=some z):(cI (av VW Ls) (cJ VW Ls) (fst VW Ls j+1) (V0 z.2)).map (uE VW (jN VW Ls j z))=bF Ls j:=by
 obtain⟨w,hb⟩:=jx (VW:=VW) (Ls:=Ls) hz;obtain⟨XH,Yo,Z3,hn,hL⟩:=fq h hz;have jl:=(Qc.mp hL).1;have ll:lst (fst VW Ls j) z<(av VW Ls).length:=(Qc.mp hb.e).1;have hφ:∀n:Nat,n<lst (fst VW Ls j) z->a7 (aU (av VW Ls) (n:Int))=true->jN VW Ls j z (n:Int)=(WG (av VW Ls) 0 n:Int):=λn hn _=>by
  unfold jN;rw[VP (by omega),P9]
 have ps:jN VW Ls j z ((aZ (av VW Ls) (cJ VW Ls)).getD (lst (fst VW Ls j) z) 0)= -1:=by
  rw[iQ ll (.inl hb.dl)];unfold jN;rw[VQ rfl]
 have hk:WG (av VW Ls) 0 (fst VW Ls j+1)=Wa Ls j:=by rw[(rZ hb).1,zX h j (by omega)]
 have:=Ay (S:=av VW Ls) (Ld:=cJ VW Ls) (VW:=VW) (φ:=jN VW Ls j z) (pe:=lst (fst VW Ls j) z) (lo:=(j:Int)) (m:=(Ls.length:Int)) h.nd (by rw[h.l];exact Qa _) (by omega) hφ z.2 false (fst VW Ls j+1) (w+2) (fst VW Ls j:Int) 0 0 (Wa Ls j) (-1) XH hb.s hb.d ⟨Sg _,ll,ps,λe=>by cases e⟩ hk ps;rw[this];unfold bF;rw[Qh,hL];rfl
theorem si (h:cy VW Ls):zW (jN VW Ls j z) (nN (av VW Ls) (fst VW Ls j) z):=λx hx y hy e=>by
 obtain⟨x1,x2,x3⟩:=Ae hx;obtain⟨y1,y2,y3⟩:=Ae hy;unfold jN at e;by_cases qx:x=((lst (fst VW Ls j) z:Nat):Int)
 ·by_cases qy:y=((lst (fst VW Ls j) z:Nat):Int)
  ·rw[qx,qy]
  ·rw[VQ qx,VP qy] at e;omega
 ·by_cases qy:y=((lst (fst VW Ls j) z:Nat):Int)
  ·rw[VP qx,VQ qy] at e;omega
  ·rw[VP qx,VP qy] at e;have rx:=x3.resolve_left qx;have ry:=y3.resolve_left qy;have ex:((x.toNat:Nat):Int)=x:=by omega
   have ey:((y.toNat:Nat):Int)=y:=by omega
   rcases Nat.lt_trichotomy x.toNat y.toNat with q | q | q
   ·have:=EX (S:=av VW Ls) q (by rw[ex];exact rx);omega
   ·omega
   ·have:=EX (S:=av VW Ls) q (by rw[ey];exact ry);omega
theorem xS (h:cy VW Ls)(hz:(dG VW Ls)[j]?=some z)(hr:r∈cI (av VW Ls) (cJ VW Ls) (fst VW Ls j+1) (V0 z.2)):r∈(de VW Ls).rows:=by
 obtain⟨_,_,_,_,hL⟩:=fq h hz;rw[wb h];refine Rj.mpr ⟨j,QU.mpr (Qc.mp hL).1,?_⟩;rw[Qh,hL];exact hr
theorem oX (h:cy VW Ls)(hz:(dG VW Ls)[j]?=some z):my (jN VW Ls j z) (dE (de VW Ls) (lI (fst VW Ls j) z))=bK Ls j/\∀x∈(dE (de VW Ls) (lI (fst VW Ls j) z)).map (·.1),x∈nN (av VW Ls) (fst VW Ls j) z:=by
 obtain⟨w,hb⟩:=jx (VW:=VW) (Ls:=Ls) hz;obtain⟨XH,Yo,Z3,hn,hL⟩:=fq h hz;have jl:=(Qc.mp hL).1;obtain⟨hr,h1⟩:=mR hb XH Yo;have hk:WG (av VW Ls) 0 (fst VW Ls j+1)=Wa Ls j:=by rw[(rZ hb).1,zX h j (by omega)]
 have hrows:(de VW Ls).rows=cI (av VW Ls) (cJ VW Ls) 0 (fst VW Ls j)++(cI (av VW Ls) (cJ VW Ls) (fst VW Ls j+1) (V0 z.2)++cI (av VW Ls) (cJ VW Ls) (fst VW Ls j+(2+V0 z.2)) ((av VW Ls).length-(fst VW Ls j+(2+V0 z.2)))):=by
  show gw (av VW Ls) (cJ VW Ls) (aZ (av VW Ls) (cJ VW Ls))=_;rw[yo,← qP _ _ hb,← dF];have:=dF (av VW Ls) (cJ VW Ls) 0 (fst VW Ls j) (2+V0 z.2+((av VW Ls).length-(fst VW Ls j+(2+V0 z.2))));rw[So] at this;rw[← this];congr 1;have ll:fst VW Ls j+1+V0 z.2<(av VW Ls).length:=(Qc.mp hb.e).1;omega
 have b0:(de VW Ls).St.getD ((lI (fst VW Ls j) z).2.1).toNat 0=((fst VW Ls j+1:Nat):Int):=by
  show(aZ (av VW Ls) (cJ VW Ls)).getD (((fst VW Ls j:Nat):Int)).toNat 0=_;rw[P9,hb.first XH Yo]
 have inr:∀r∈cI (av VW Ls) (cJ VW Ls) (fst VW Ls j+1) (V0 z.2),gR (lI (fst VW Ls j) z) r=true:=λr hr=>by
  obtain⟨i,i1,i2,e⟩:=lF hr;unfold gR;rw[PZ,e];exact⟨VT (show((fst VW Ls j:Nat):Int)<(i:Int) by omega),VT (show(i:Int)<((fst VW Ls j+1+V0 z.2:Nat):Int) by omega)⟩
 have e:dE (de VW Ls) (lI (fst VW Ls j) z)=(cI (av VW Ls) (cJ VW Ls) (fst VW Ls j+1) (V0 z.2)).foldl (λF r=>iJ F r.1 r.2.1) [(((fst VW Ls j+1:Nat):Int),0),(((lst (fst VW Ls j) z:Nat):Int),1)]:=by
  unfold dE;have o1:∀r∈cI (av VW Ls) (cJ VW Ls) 0 (fst VW Ls j),gR (lI (fst VW Ls j) z) r=false:=λr hr=>by
   obtain⟨i,i1,i2,e⟩:=lF hr;unfold gR;rw[e,VU (show¬((fst VW Ls j:Nat):Int)<(i:Int) by omega),Bool.false_and]
  have o2:∀r∈cI (av VW Ls) (cJ VW Ls) (fst VW Ls j+(2+V0 z.2)) ((av VW Ls).length-(fst VW Ls j+(2+V0 z.2))),gR (lI (fst VW Ls j) z) r=false:=λr hr=>by
   obtain⟨i,i1,i2,e⟩:=lF hr;unfold gR;rw[e,VU (show¬(i:Int)<((fst VW Ls j+1+V0 z.2:Nat):Int) by omega),Bool.and_false]
  rw[b0,hrows,Q2,Q2,qh o1,yE inr,qh o2]
 have hl:((lst (fst VW Ls j) z:Nat):Int)=((fst VW Ls j+1+V0 z.2:Nat):Int):=rfl;obtain⟨q1,q2⟩:=vB VW (si h (j:=j) (z:=z)) (rs:=cI (av VW Ls) (cJ VW Ls) (fst VW Ls j+1) (V0 z.2)) (F:=[(((fst VW Ls j+1:Nat):Int),0),(((lst (fst VW Ls j) z:Nat):Int),1)]) (λx hx=>by
  have hx:x=((fst VW Ls j+1:Nat):Int)∨x=((lst (fst VW Ls j) z:Nat):Int):=by simpa using hx
  rcases hx with rfl | rfl
  ·exact kX ⟨by omega,by omega,.inr hr⟩
  ·exact kX ⟨by omega,Qa _,.inl rfl⟩) λr hr=>Bs h hz hb (xS h hz hr) (inr r hr)
 rw[← e] at q1 q2;refine⟨?_,q2⟩;rw[← q1,tX h hz];unfold bK;congr 1;show[(jN VW Ls j z ((fst VW Ls j+1:Nat):Int),(0:Int)),(jN VW Ls j z ((lst (fst VW Ls j) z:Nat):Int),(1:Int))]=_;have p1:jN VW Ls j z ((fst VW Ls j+1:Nat):Int)=(Wa Ls j:Int):=by unfold jN;rw[VP (by omega),P9,hk]
 have p2:jN VW Ls j z ((lst (fst VW Ls j) z:Nat):Int)= -1:=by unfold jN;rw[VQ rfl]
 rw[p1,p2]
theorem mr {α β:Type}{f g:α->List β}:∀{l:List α},(∀x∈l,f x=g x)->l.flatMap f=l.flatMap g
 | [],_=>rfl
 | x::l,h=>by rw[Q1,Q1,h x Qk,mr λy hy=>h y (Qi _ hy)]
theorem Hm (h:cy VW Ls):CQ (de VW Ls)=cu Ls:=by
 have pl:=Hl h;refine SU ?_ ?_
 ·show(eG (de VW Ls)).map (λF=>(F.length:Int))=(Qt Ls.length).map λj=>((bK Ls j).length:Int);refine Q0 λj=>?_;rcases Sm j Ls.length with hj | hj
  ·obtain⟨z,hz,ez⟩:=uB h hj;rw[Ql,wZ h hz,Ql,QQ hj];show some ((dE (de VW Ls) (lI (fst VW Ls j) z)).length:Int)=some ((bK Ls j).length:Int);rw[← (oX h hz).1];unfold my;rw[Qg]
  ·rw[QH (by rw[Qg,pl];exact hj),QH (by rw[Qg,QN];exact hj)]
 ·show(de VW Ls).rows.map (jb (de VW Ls))=(Qt Ls.length).flatMap λj=>(bF Ls j).map (dM j (bK Ls j));rw[wb h,List.map_flatMap];refine mr λj hj=>?_;obtain⟨z,hz,ez⟩:=uB h (QU.mp hj);obtain⟨w,hb⟩:=jx (VW:=VW) (Ls:=Ls) hz;obtain⟨pp,pk⟩:=oX h hz;rw[← ez,← tX h hz,QY];refine Rr λr hr=>?_;obtain⟨i,i1,i2,e⟩:=lF hr;have ep:c5 (de VW Ls) r.1=(j:Int):=by rw[e];exact yd h hz (by omega) (by show i<=fst VW Ls j+1+V0 z.2;omega)
  have eF:(eG (de VW Ls)).getD (c5 (de VW Ls) r.1).toNat []=dE (de VW Ls) (lI (fst VW Ls j) z):=by
   rw[ep,P9,Qh,wZ h hz];rfl
  have hi:gR (lI (fst VW Ls j) z) r=true:=by
   unfold gR;rw[PZ,e];exact⟨VT (show((fst VW Ls j:Nat):Int)<(i:Int) by omega),VT (show(i:Int)<((fst VW Ls j+1+V0 z.2:Nat):Int) by omega)⟩
  obtain⟨k1,k2⟩:=Bs h hz hb (xS h hz hr) hi;show jb (de VW Ls) r=dM j (bK Ls j) (uE VW (jN VW Ls j z) r);unfold jb dM uE;dsimp only;have Zm:(de VW Ls).parts.map (·.1)=VW:=uk h;rw[eF,ep,Zm,← pp,oC (si h) k1 pk,oC (si h) k2 pk]
end K1
namespace Fc
open PySem PySem.Spec PySem.W PySem.Calls L2
open PyProof.Rows hiding St
open PySem PySem.Spec L2 K1
variable {e:Expr}{ps:List PT}{q0:PT}
section
variable {X:Cx}{Γ Γ1:Ga}{α:Type}{N:Ga->Prop}{T:RT}
theorem DZ (i:Nat){x:Str}{p1 pos:Pos}{F:PR}{k:Int}(hu:X.A.units+1<cLine)(he:EV X e Γ ag k Γ)(hΓ:Γ[i]?=some (.di (cG F)))(hN:autoParam (At X i x) cg)(hm:Tx .NotIn (.Name x p1)=false:=by first | exact qq _ | with_unfolding_all rfl):TV X (.Compare e [.NotIn] [.Name x p1] pos) Γ (!(aW F k).isSome) Γ:=by
 intro σ H0 R0 H R E Q q;refine tS (mf (kW hu aK (aV hN)) hm) (he σ H0 R0 H R E _ λv H1 R1 E1 s1 e1=>?_);cases e1
 obtain⟨a,ea,ha,hR⟩:=E1.ent i _ hΓ;refine⟨.ref a,at_of ea,a,_,rfl,g8.k (k:=Sum.inl k) ha,_,rfl,?_⟩;rw[mm,FD];exact q H1 R1 E1 s1
theorem EV.Nj (h:EV X e Γ DJ () Γ1):EV X e Γ aq .Wb Γ1:=h.re λK R v e=>by cases e;exact .Wb
mutual
theorem cN.nodes {H:Hp}:∀{v:V}{x:PV}{fp:PM},cN H v x fp->∀a∈fp,∃vs,H a=some (.lst vs)
 | _,_,_,.str x,_,h=>by cases h
 | _,_,_,.int n,_,h=>by cases h
 | _,_,_,.lst q t z,a,h=>by
   rcases Qq.mp h with rfl | h
   ·exact⟨_,q⟩
   ·exact t.nodes a h
theorem bq.nodes {H:Hp}:∀{vs:List V}{xs:List PV}{fp:PM},bq H vs xs fp->∀a∈fp,∃vs,H a=some (.lst vs)
 | _,_,_,.nil,_,h=>by cases h
 | _,_,_,.cons q t,a,h=>(Qr.mp h).elim (q.nodes a) (t.nodes a)
end
theorem wA {R R':Hp}(h:∀t us,R t=some (.tup us)->R' t=some (.tup us)){K:Vr}:∀{vs:List V}{ws:List iX},PySem.Paired (aq.R K R) vs (ws.map fM)->PySem.Paired (aq.R K R') vs (ws.map fM)
 | _,[],.nil=>.nil
 | _,w::_,.cons q t=>.cons (by
  obtain⟨a,rfl,e⟩:=AY (K:=K) (w:=w) q;exact .tup (h _ _ e) (.cons (.str _) (.cons (.str _) (.cons (.int _) (.cons (.int _) (.cons (.int _) .nil)))))) (wA h t)
theorem Mo (i j l:Nat){x y z:Str}{m n n':Nat}{e1 e2:Expr}{p p0 p1 cp pos:Pos}{a c:Addr}{ts:List Th}{k:Int}{bh lp:PV}{rws:List iX}(C:aE X.prog X.w X.K X.mg X.base x m (mZ n X.K))(hr:bG m X.A)(YG:i≠l)(h1:EV X e1 Γ aq bh Γ)(h2:EV X e2 Γ aq lp Γ)(hΓ:Γ[i]?=some (.ob (bu a ps)))(hj:Γ[j]?=some (.im dv q0.2.1))(hq:ps[n']?=some q0)(hts:q0.1=f9 ts k)(hl:Γ[l]?=some (.ob (aO c aq [])))(hd:dA ts<=n)(hz:bR ts<=1000)(hrw:K1.eZ ts k bh lp=rws.map fM)(h:N (Γ.set l (.ob (aO c aq (rws.map fM)))))(hg:Gl X x:=by rfl)(Wu:WW x:=by decide)(s0:Td [.Name y p0,e1,e2,.Name z p1] X.env=(false,eval (.Name y p0) X.env)::Td [e1,e2,.Name z p1] X.env:=by rfl)(s1:Td [e1,e2,.Name z p1] X.env=(false,eval e1 X.env)::Td [e2,.Name z p1] X.env:=by rfl)(s2:Td [e2,.Name z p1] X.env=(false,eval e2 X.env)::Td [.Name z p1] X.env:=by rfl)(s3:du X (.Name z p1) []:=by rfl)(Wg:fm X cp [e1,e2,.Name z p1]:=by rfl)(hNj:autoParam (At X j y) cg)(hNl:autoParam (At X l z) cg)(WJ:Tf (.Call (.Name x p) [.Name y p0,e1,e2,.Name z p1] [] cp) none pos.line X.env=pure false:=by rfl):W1 X (.Expr (.Call (.Name x p) [.Name y p0,e1,e2,.Name z p1] [] cp) pos) Γ N T:=λσ H0 R0 H R E D dn dr=>by
 obtain⟨f,fd,pn,F,hm,hk,hb⟩:=C.ex;obtain⟨v0,e0,Xw⟩:=E.ent j _ hj;cases Xw
 refine sS (d9 (ig F hr hg hm hk hb .nil jT (aH (aV hNj) (aH aK (aH aK (aH (aV hNl) bo s3) s2) s1) s0) Wu s0 Wg) WJ) ⟨.ref q0.2.1,at_of e0,?_⟩;refine h1 σ H0 R0 H R E _ λv1 H2 R2 E2 q2 g1=>h2 σ H0 R0 H2 R2 E2 _ λv2 H3 R3 E3 q3 g2=>?_;obtain⟨⟨v,ea,rfl,kk⟩,hR⟩:=E3.ent i _ hΓ;obtain⟨ec,⟨ws,hc,pc⟩,YI⟩:=dD (E3.ent l _ hl);cases pc
 obtain⟨t,nd,_⟩:=kk.pt n' q0 hq;rw[hts] at t;have ZH:∀d∈cL q0,d∈(bu a ps).fp:=λd hd=>Qi _ (bQ.mpr ⟨n',q0,hq,hd⟩);have nR:∀d∈cL q0,R3 d=none:=λd hd=>hR d (ZH d hd);have nc:∀d∈cL q0,d≠c:=λd hd z=>YG (E3.ds i l _ _ d hΓ hl (ZH d hd) (by rw[z];exact Qe.mpr rfl));have s34:aw R3 (λd=>if d∈cL q0 then H3 d else R3 d):=λd o e=>by
  show(if d∈cL q0 then H3 d else R3 d)=some o;rw[VP λw=>by rw[nR d w] at e;cases e];exact e
 refine⟨.ref c,at_of ec,?_⟩;show mZ n X.K [.ref q0.2.1,v1,v2,.ref c] H3 (λ_ H1=>D.nx σ H1) E0;have t4:cN (λd=>if d∈cL q0 then H3 d else R3 d) (.ref q0.2.1) (.lst (f9 ts k)) (cL q0):=t.loc λd hd=>VQ hd;refine⟨λd=>if d∈cL q0 then H3 d else R3 d,c,[],[],.ref q0.2.1,v1,v2,ts,k,bh,lp,rfl,λd o e=>?_,?_,hc,.nil,?_,aq.mono (K:=X.K) (q3.trans s34) g1,aq.mono (K:=X.K) s34 g2,hd,by show 0+bR ts<=1000;omega,λH' R' Xj xx w1 w2 pq=>?_⟩
 ·by_cases w:d∈cL q0
  ·have e:(if d∈cL q0 then H3 d else R3 d)=some o:=e;rwa [VQ w] at e
  ·have e:(if d∈cL q0 then H3 d else R3 d)=some o:=e;rw[VP w] at e;exact E3.sub _ _ e
 ·show(if c∈cL q0 then H3 c else R3 c)=none;rw[VP λw=>nc c w rfl];exact YI
 ·cases t4 with
  | @lst _ vs _ _ hb tt zz=>exact⟨_,vs,rfl,hb,tt.qC.pair,zz⟩
 ·rw[QW,hrw] at pq;have hD:∀d∈cL q0,H' d=H3 d:=λd w=>by
   obtain⟨vs,e⟩:=t.nodes d w;rw[e];exact xx.h d _ (by unfold del;rw[VP (nc d w)];exact e)
  have x5:Ext (del H3 c) R3 H' (λd=>if d∈cL q0 then none else R' d):=⟨xx.h,λd o e=>?_,λd o e=>?_,λd e=>?_⟩
  ·have E4:au X.K σ H0 R0 H' (λd=>if d∈cL q0 then none else R' d) (Γ.set l (.ob (aO c aq (rws.map fM)))):=E3.zJ hl (B:=aO c aq []) (by
    have:fW H3 (aO c aq ([]:List PV)).fp=del H3 c:=by funext b;show(if b∈[c] then none else H3 b)=_;unfold del;simp only[Qe]
    rw[this];exact x5) (by rw[ec];exact⟨⟨_,rfl,rfl,Xj,w1,wA (λu us e=>by
     show(if u∈cL q0 then none else R' u)=_;rw[VP λw=>by
      obtain⟨vs,e'⟩:=t.nodes u w;rw[← hD u w,xx.s _ _ e] at e';cases e']
     exact e) pq⟩,λb hb=>by
      rw[Qe.mp hb];show(if c∈cL q0 then none else R' c)=none;rw[VP λw=>nc c w rfl];exact w2⟩) λb hb=>hb
   exact dn σ H' _ _ E4 (q2.trans (q3.trans x5.r)) h
  ·show(if d∈cL q0 then none else R' d)=some o;rw[VP λw=>by rw[nR d w] at e;cases e]
   exact xx.r _ _ (s34 _ _ e)
  ·have e:(if d∈cL q0 then none else R' d)=some o:=e;by_cases w:d∈cL q0
   ·rw[VQ w] at e;cases e
   ·rw[VP w] at e;exact xx.s _ _ e
  ·show(if d∈cL q0 then none else R' d)=R3 d;by_cases w:d∈cL q0
   ·rw[VQ w,nR d w]
   ·rw[VP w,xx.old d e];show(if d∈cL q0 then H3 d else R3 d)=R3 d;rw[VP w]
theorem HX {i j:Nat}{a:Addr}{n:Nat}(hΓ:Γ[i]?=some (.ob (bu a ps)))(hj:Γ[j]?=some (.im dv q0.2.1))(hq:ps[n]?=some q0)(σ:St)(H0 R0 H R:Hp)(E:au X.K σ H0 R0 H R Γ):au X.K σ H H H H ((Γ.map lJ).set j (.im (ae aq) q0.1)):=by
 obtain⟨⟨v,ea,rfl,k⟩,_⟩:=E.ent i _ hΓ;obtain⟨v0,e0,Xw⟩:=E.ent j _ hj;cases Xw
 cases (k.pt n _ hq).1 with
 | @lst _ vs _ _ hb tt zz=>
 exact E.WT.jX (i:=j) (e0:=.im dv q0.2.1) (by rw[Ql,hj];rfl) ⟨_,e0,_,vs,rfl,hb,tt.qC.pair,zz⟩ λb w=>by cases w
def Pm:oY:=⟨[],λ_ _ _ _=>True,λ_ _ h=>h,λ_ b hb=>by cases hb⟩
end
end Fc
namespace K1
open PySem L2 Fc
open PySem.Spec hiding Row
open PyProof.Rows hiding St
open PySem.Builtin.Int (intBits)
variable {P:Tb}{w:World}{K:Vr}{mg:Pz}{base:Heap}{f:Addr}{fd:Tg}
mutual
theorem Cb:∀(t:Th)(k:Int),(bB t k).2=k+eI t
 | .Wi x,k=>by rw[bB,eI];rfl
 | .call j,k=>by rw[bB,eI];rfl
 | .leave,k=>by rw[bB,eI];show k=_;omega
 | .back,k=>by rw[bB,eI];show k=_;omega
 | .V5 x A,k=>by rw[bB,eI];show(aQ A (k+1)).2=_;rw[mj A];omega
 | .ifs x A B,k=>by rw[bB,eI];show(aQ B (aQ A (k+1)).2).2=_;rw[mj B,mj A];omega
theorem mj:∀(ts:List Th)(k:Int),(aQ ts k).2=k+eo ts
 | [],k=>by rw[aQ,eo];show k=_;omega
 | t::ts,k=>by rw[aQ,eo];show(aQ ts (bB t k).2).2=_;rw[mj ts,Cb t];omega
end
theorem qt {k bh lp:Int}:∀ts:List Th,sh ts k bh lp=jh ts k bh lp
 | []=>rfl
 | .leave::_=>rfl
 | .back::_=>rfl
 | .Wi _::_=>rfl
 | .call _::_=>rfl
 | .ifs _ _ _::_=>rfl
 | .V5 _ _::_=>rfl
mutual
theorem Gr:∀(t:Th)(k af lp:Int),fR t k af lp=bJ t k af lp
 | .Wi x,k,af,lp=>by rw[fR,bJ]
 | .call j,k,af,lp=>by rw[fR,bJ]
 | .leave,k,af,lp=>by rw[fR,bJ]
 | .back,k,af,lp=>by rw[fR,bJ]
 | .V5 x A,k,af,lp=>by rw[fR,bJ,me A,qt]
 | .ifs x A B,k,af,lp=>by rw[fR,bJ,me A,me B,qt,qt,mj]
theorem me:∀(ts:List Th)(k bh lp:Int),js ts k bh lp=cC ts k bh lp
 | [],k,bh,lp=>by rw[js,cC]
 | t::ts,k,bh,lp=>by rw[js,cC,Gr t,me ts,qt,Cb]
end
theorem wM {lo m:Int}{L:List Th}{k:Int}(h:bz lo m false L):eZ L k (.int (-1)) .Wb=(cC L k (-1) 0).map fM:=by
 rw[← me];exact oa L 0 k (-1) h
abbrev gq:Rep (List iX×PR):=dS (ae wJ) jy
def lK (Ls:List (List Th))(j:Nat):List iX×PR:=(bF Ls j,bK Ls j)
def fU (Ls:List (List Th)):List (List iX×PR):=(Qt Ls.length).map (lK Ls)
def z5 (K:Vr):Sp:=λvs H Q _=>∃(R:Hp)(a:Addr)(ps:List PT)(VW:PJ)(Ls:List (List Th)),vs=[.ref a]/\aw R H/\kI H a ps/\(∀d∈a::d8 ps,R d=none)/\ps.map (·.1)=Ls.map bC/\cy VW Ls/\
 ∀v H' R',Ext (fW H (a::d8 ps)) R H' R'->(ae gq).R K R' v (fU Ls)->Q v H'
end K1
namespace Fc
open PySem PySem.Spec PySem.W PySem.Calls L2
open PyProof.Rows hiding St
open PySem PySem.Spec L2 K1
section
variable {X:Cx}{Γ Γ1:Ga}{N:Ga->Prop}{T:RT}
theorem Mu (i:Nat){x y:Str}{m:Nat}{p p1 pos:Pos}{a:Addr}{ps:List PT}{VW:PJ}{Ls:List (List Th)}(C:aE X.prog X.w X.K X.mg X.base x m (z5 X.K))(hr:bG m X.A)(hΓ:Γ[i]?=some (.ob (bu a ps)))(WU:ps.map (·.1)=Ls.map bC)(hP:cy VW Ls)(hg:Gl X x:=by rfl)(Wu:WW x:=by decide)(he:du X (.Name y p1) []:=by rfl)(Wg:fm X pos []:=by rfl)(hN:autoParam (At X i y) cg):
 EV X (.Call (.Name x p) [.Name y p1] [] pos) Γ (ae gq) (fU Ls) (Γ.set i .no):=λσ H0 R0 H R E Q q=>by
 obtain⟨f,fd,pn,F,hm,hk,hb⟩:=C.ex;obtain⟨⟨v,ea,rfl,kk⟩,hR⟩:=E.ent i _ hΓ;refine eS (ig F hr hg hm hk hb .nil jT (aH (aV hN) bo he) Wu he Wg) ⟨.ref a,at_of ea,?_⟩;show z5 X.K [.ref a] H Q E0;refine⟨R,a,ps,VW,Ls,rfl,E.sub,kk,hR,WU,hP,λv H' R' xx r=>?_⟩;have E1:au X.K σ H0 R0 H' R' (Γ.set i (.ob Pm)):=E.zJ hΓ (B:=bu a ps) xx (by rw[ea];exact⟨⟨_,rfl,trivial⟩,λb hb=>by cases hb⟩) λc hc=>by cases hc
 have hl:i<Γ.length:=(Qc.mp hΓ).1;have E2:=E1.tell (i:=i) (en:=.no) (Qp hl) trivial λb w=>by cases w
 rw[Ra] at E2;exact q v H' R' E2 xx.r r
end
end Fc
namespace K1
open PySem L2 Fc
open PySem.Spec hiding Row
open PyProof.Rows hiding St
open PySem.Builtin.Int (intBits)
variable {P:Tb}{w:World}{K:Vr}{mg:Pz}{base:Heap}{f:Addr}{fd:Tg}
variable {L:List Th}{Ls:List (List Th)}{i:Nat}{F:PR}{lo:Int}
theorem Ig {R H:Hp}{a:Addr}{ps:List PT}{N:PJ}(hN:N.length=12)(s:aw R H)(kk:kI H a ps)(hR:∀d∈a::d8 ps,R d=none):
 au K (L2.start N [.ref a]) (fW H (a::d8 ps)) R H R [.ob (bu a ps),.no,.no,.no,.no,.no,.no,.no,.no,.no,.no,.no]:=by
 have es:L2.start N [.ref a]=some (.ref a)::Q4 11 none:=by unfold L2.start;rw[hN];rfl
 rw[es];have at_:∀(i:Nat)(e:Ent),(Ent.ob (bu a ps)::Q4 11 Ent.no:Ga)[i]?=some e->(i=0/\e= .ob (bu a ps))∨e= .no:=λi e q=>by
  cases i with
  | zero=>exact .inl ⟨rfl,by simpa using q.symm⟩
  | succ i=>
    right;have:e∈Q4 11 Ent.no:=Qm (by simpa using q);exact List.eq_of_mem_replicate this
 show au K _ _ R H R (Ent.ob (bu a ps)::Q4 11 Ent.no);refine⟨⟨pR,aw.refl _,s,λ_ _=>rfl⟩,λi e q=>?_,λi e d q w=>?_,λi j e e' d q q' w w'=>?_,rfl⟩
 ·rcases at_ i e q with⟨rfl,rfl⟩ | rfl
  ·exact⟨⟨_,rfl,rfl,kk⟩,hR⟩
  ·trivial
 ·rcases at_ i e q with⟨rfl,rfl⟩ | rfl
  ·exact kf w
  ·cases w
 ·rcases at_ i e q with⟨rfl,rfl⟩ | rfl
  ·rcases at_ j e' q' with⟨rfl,rfl⟩ | rfl
   ·rfl
   ·cases w'
  ·cases w
def xJ (Ls:List (List Th))(i:Nat):List (List PV):=((Qt i).map λj=>f9 (Ls.getD j []) (Wa Ls j:Int))++(Ls.drop i).map bC
theorem Ip (h:Ls[i]?=some L):(xJ Ls i)[i]?=some (bC L)/\xJ Ls (i+1)=(xJ Ls i).set i (f9 L (Wa Ls i:Int)):=by
 have hl:=(Qc.mp h).1;have e1:((Qt i).map λj=>f9 (Ls.getD j []) (Wa Ls j:Int)).length=i:=by rw[Qg,QN]
 have hd:Ls.drop i=L::Ls.drop (i+1):=by
  obtain⟨h1,h2⟩:=Qc.mp h;rw[Rb h1,h2]
 have hg:Ls.getD i []=L:=by rw[Qh,h];rfl
 unfold xJ;refine⟨?_,?_⟩
 ·rw[QE (by omega),e1,SE,hd];rfl
 ·rw[List.set_append_right _ _ (by omega),e1,SE,hd,Rt,Qv,Qy];show _++(f9 (Ls.getD i []) (Wa Ls i:Int)::_)=_;rw[hg];rfl
theorem vO (F:PR)(k:Int):(cH F k).length<=F.length+1:=by
 unfold cH;split
 ·omega
 ·rw[Qj];exact Sg _
theorem yh {k:Int}:cH F k=if(aW F k).isSome then F else jk F k (F.length:Int):=by
 unfold cH jk;cases (aW F k).isSome<;>rfl
theorem F4 (rs:List nD):∀(F:PR),(rs.foldl (λF r=>iJ F r.2.2.1 r.2.2.2.1) F).length<=F.length+2*rs.length:=by
 induction rs with
 | nil=>intro F;exact Sg _
 | cons r rs ih=>
   intro F;rw[QX,Qo];have h1:_<=(cH (cH F r.2.2.1) r.2.2.2.1).length+2*rs.length:=ih (iJ F r.2.2.1 r.2.2.2.1);have h2:=vO (cH F r.2.2.1) r.2.2.2.1;have h3:=vO F r.2.2.1;omega
theorem Bo {m:Int}(h:bz lo m false L)(k:Int):(cC L k (-1) 0).length=bR L:=by
 have:=congrArg List.length (wM (k:=k) h);rw[hU,Qg] at this;exact this.symm
theorem HW {k:Int}{bh lp:PV}{m:Int}(h:h9 L)(ho:bz lo m false L):kC L k bh lp= .int k:=by
 obtain⟨t,ts,rfl,hb⟩:=h;cases t with
 | leave=>simp only[bz,bO] at ho;cases ho.1
 | back=>cases hb
 | Wi _=>rfl
 | call _=>rfl
 | ifs _ _ _=>rfl
 | V5 _ _=>rfl
abbrev BI:Stmt:=top sy
abbrev Jy:PJ:=["_law_lists","_law_keys","_law_mapped_here","_law_items","_law_rows_here","_law_known","_law_key","_law_word","_law_name_here","_law_one","_law_other","_law_calls"]
abbrev HL:PJ:=["_law_lists"]
theorem Jt:bV Jy HL (ao BI):=Xt
theorem Lq (M:cD K mg)(CN:aE P w K mg base "_law_numbered" 5 (lQ 4))(CE:aE P w K mg base "_law_entry" 1 (aM BU K))(CR:aE P w K mg base "_law_rows" 6 (mZ 4 K))(F:dZ K "_law_mapped" "_law_mapped" BI f fd)(hm:mg "_law_mapped"=some (.ref f))(hb:Binds K fd HL []):aE P w K mg base "_law_mapped" 7 (z5 K):=by
 have nd:=Jt.nd;have CN:=CN.mono (show 5<=6 by decide);have CE:=CE.mono (show 1<=6 by decide);refine⟨f,fd,HL,?_,hm,F.kp,hb⟩;refine F.ok (k:=6) Jt (λvs H Q E h=>?_) (λV2 A outer s H vs Q E hr h=>?_)
 ·obtain⟨R,a,ps,VW,Ls,rfl,_⟩:=h;rfl
 ·obtain⟨R,a,ps,VW,Ls,rfl,sR,kk,hR,WU,hP,q⟩:=h;have hu:=ru hr;have l4:=hP.l4;have lps:ps.length=Ls.length:=by have:=congrArg List.length WU;rwa [Qg,Qg] at this
  have body:WS (fI eX P w K mg base Jy "_law_mapped" (ao BI) f V2 A outer s H E).i6 (bP BI) [.ob (bu a ps),.no,.no,.no,.no,.no,.no,.no,.no,.no,.no,.no] (λ_=>False) (cU K (ae gq) (· =fU Ls)):=by
   refine ai (cR 1 (r:=ag) (ys:=[0]) (aR (ak ev_int aL) (by show 1<=S8;decide)) ?_);refine ai (cR 2 (r:=gq) (ys:=[]) (aR aL (Si _)) ?_);refine WS.box 1 rfl λc=>?_;refine bS (N1:=λΓ=>∃e0 e1 e3 e4 e5 e6 e7 e8 e9 Xp Xo,Γ=[e0,e1,.mu gq (fU Ls),e3,e4,e5,e6,e7,e8,e9,Xp,Xo]) (yf 0 (a:=a) (ps:=ps) (λi Γ=>∃qs e3 e4 e5 e6 e7 e8 e9 Xp Xo,Γ=[.ob (bu a qs),.ob (aO c ag [(Wa Ls i:Int)]),.mu gq ((Qt i).map (lK Ls)),e3,e4,e5,e6,e7,e8,e9,Xp,Xo]/\qs.map (·.2)=ps.map (·.2)/\qs.map (·.1)=xJ Ls i) rfl (aP 3) ⟨ps,_,_,_,_,_,_,_,_,_,rfl,rfl,WU⟩ (λk Γ ⟨qs,e3,e4,e5,e6,e7,e8,e9,Xp,Xo,e,h1,_⟩=>⟨qs,by rw[e];rfl,h1⟩) (λi p Γ hp hΓ=>?_) (λΓ hΓ=>?_)) ?_
   ·obtain⟨qs,e3,e4,e5,e6,e7,e8,e9,Xp,Xo,rfl,h1,h2⟩:=hΓ;have il:i<Ls.length:=by have:=(Qc.mp hp).1;rwa [lps] at this
    obtain⟨L,hL⟩:∃L,Ls[i]?=some L:=⟨_,Qd il⟩;have hg:Ls.getD i []=L:=by rw[Qh,hL];rfl
    obtain⟨n1,n2⟩:=Ip hL;have ql:qs.length=ps.length:=by have:=congrArg List.length h1;rwa [Qg,Qg] at this
    obtain⟨q0,hq⟩:∃q,qs[i]?=some q:=⟨_,Qd (by omega)⟩;have er:q0.2=p.2:=by
     have:=congrArg (·[i]?) h1;simp only[Ql,hq,hp,SR] at this;exact Option.some.inj this
    have ey:q0.1=bC L:=by
     have:=congrArg (·[i]?) h2;simp only[Ql,hq,n1,SR] at this;exact Option.some.inj this
    have hq2:(qs.set i (f9 L (Wa Ls i:Int),q0.2.1,q0.2.2))[i]?=some (f9 L (Wa Ls i:Int),q0.2.1,q0.2.2):=Qp (Qc.mp hq).1;have h1':(qs.set i (f9 L (Wa Ls i:Int),q0.2.1,q0.2.2)).map (·.2)=ps.map (·.2):=by
     rw[RX,lg (by rw[Ql,hq];rfl),h1]
    have h3:(qs.set i (f9 L (Wa Ls i:Int),q0.2.1,q0.2.2)).map (·.1)=xJ Ls (i+1):=by rw[RX,h2,n2]
    have hm:=Qm hL;have ho:=hP.ok i L hL;have hh:=hP.hd L hm;have h14:=hP.rw L hm;have rl:=Bo ho (Wa Ls i:Int);change WS _ _ [.ob (bu a qs),.ob (aO c ag [(Wa Ls i:Int)]),.mu gq ((Qt i).map (lK Ls)),.im dv p.2.1,e4,e5,e6,e7,e8,e9,Xp,Xo] _ _;rw[← er];refine ai (Po 0 3 1 CN hr (by decide) rfl rfl rfl hq ey (hP.dp L hm) ?_);refine ai (cR 4 (r:=aq) (ys:=[]) (aR aL (Si _)) ?_);refine WS.box 4 rfl λd=>?_;change WS _ _ [.ob (bu a (qs.set i (f9 L (Wa Ls i:Int),q0.2.1,q0.2.2))),.ob (aO c ag [(aQ L (Wa Ls i:Int)).2]),.mu gq ((Qt i).map (lK Ls)),.im dv q0.2.1,.ob (aO d aq []),e5,e6,e7,e8,e9,Xp,Xo] _ _;generalize qs.set i (f9 L (Wa Ls i:Int),q0.2.1,q0.2.2)=us at hq2 h1' h3 ⊢;refine ai (Mo 0 3 4 (q0:=(f9 L (Wa Ls i:Int),q0.2.1,q0.2.2)) (ts:=L) (k:=(Wa Ls i:Int)) (bh:=.int (-1)) (lp:=.Wb) CR hr (by decide) (EV.pI (cO ev_int)) (EV.Nj Cg) rfl rfl hq2 rfl rfl (hP.dp L hm) (by omega) (wM ho) ?_);refine WS.unb 4 rfl ?_;refine WS.freeze 4 rfl (aT (by rw[Qg];omega)) ?_;refine ai (ow 5 ?_);have kn:(aQ L (Wa Ls i:Int)).2=(Wa Ls (i+1):Int):=by
     rw[mj];unfold Wa;rw[QK,hL,Qv,Sb];show _=(((List.map eo (Ls.take i)).sum + [eo L].sum:Nat):Int);rw[show[eo L].sum=eo L by simp];push_cast;rfl
    rw[kn];have YY:kC L (Wa Ls i:Int) (.int (-1)) .Wb= .int (Wa Ls i:Int):=HW hh ho;have rws:cC L (Wa Ls i:Int) (-1) 0=bF Ls i:=by unfold bF;rw[hg]
    have knf:(bF Ls i).foldl (λF r=>iJ F r.2.2.1 r.2.2.2.1) [((Wa Ls i:Int),0),(-1,1)]=bK Ls i:=rfl;rw[rws] at rl ⊢;have nx:(Qt (i+1)).map (lK Ls)=(Qt i).map (lK Ls)++[(bF Ls i,bK Ls i)]:=by rw[Rt,Qv];rfl
    rw[nx];have ml:((Qt i).map (lK Ls)).length<=4:=by rw[Qg,QN];omega
    generalize (Qt i).map (lK Ls)=ms at ml;have k0:(0:Int)<=(Wa Ls i:Int):=Int.natCast_nonneg _;change WS _ _ [.ob (bu a us),.ob (aO c ag [(Wa Ls (i+1):Int)]),.mu gq ms,.im dv q0.2.1,.im (ae aq) ((bF Ls i).map fM),.di (cG []),e6,e7,e8,e9,Xp,Xo] _ _;refine bS (N1:=λΓ=>∃e6,Γ=[.ob (bu a us),.ob (aO c ag [(Wa Ls (i+1):Int)]),.mu gq ms,.im dv q0.2.1,.im (ae aq) ((bF Ls i).map fM),.di (cG [((Wa Ls i:Int),0),(-1,1)]),e6,e7,e8,e9,Xp,Xo]) (bW (r:=ag) (xs:=[(Wa Ls i:Int), -1]) (λk Γ=>∃e6,Γ=[.ob (bu a us),.ob (aO c ag [(Wa Ls (i+1):Int)]),.mu gq ms,.im dv q0.2.1,.im (ae aq) ((bF Ls i).map fM),.di (cG (([((Wa Ls i:Int),(0:Int)),(-1,1)]:PR).take k)),e6,e7,e8,e9,Xp,Xo]) (br (ba.im (aR (ak (EV.WT (r:=ag) (HX (i:=0) (j:=3) (q0:=(f9 L (Wa Ls i:Int),q0.2.1,q0.2.2)) rfl rfl hq2) (λ_ _ _ _ _ h=>h) (EV.iP (n:=(Wa Ls i:Int)) (EV.cast (aI CE hr (ah (aa 3 rfl) (ah ev_int (ah (EV.pI (cO ev_int)) (ah (EV.Nj Cg) ax)))) ⟨L,(Wa Ls i:Int),0,.int (-1),.Wb,rfl,Si _,rfl⟩) (by rw[drop_zero,Ri,aQ];exact YY)))) (ak (cO ev_int) aL)) (by show 2<=S8;decide)))) (aP 6) ⟨_,rfl⟩ (λk x Γ hx hΓ=>?_) (λΓ hΓ=>hΓ)) ?_
    ·obtain⟨e6,rfl⟩:=hΓ
     match k,hx with
     | 0,hx=>
       have hx:x=(Wa Ls i:Int):=by simpa using hx.symm
       subst hx;exact aj (qI 5 hu (aa 6 rfl) (nk 5 M.len rfl) rfl (show 0<S8 by decide) ⟨_,rfl⟩)
     | 1,hx=>
       have hx:x= -1:=by simpa using hx.symm
       subst hx;have e:jk [((Wa Ls i:Int),(0:Int))] (-1) 1=[((Wa Ls i:Int),0),(-1,1)]:=by
        unfold jk aW;rw[Rx (by simp)];rfl
       refine aj (qI 5 (F:=[((Wa Ls i:Int),(0:Int))]) hu (aa 6 rfl) (nk 5 M.len rfl) rfl (show 1<S8 by decide) ⟨aJ (-1),?_⟩);show _=[Ent.ob (bu a us),.ob (aO c ag [(Wa Ls (i+1):Int)]),.mu gq ms,.im dv q0.2.1,.im (ae aq) ((bF Ls i).map fM),.di (cG [((Wa Ls i:Int),0),(-1,1)]),aJ (-1),e7,e8,e9,Xp,Xo];rw[← e];rfl
     | k+2,hx=>simp at hx
    rintro _ ⟨e6,rfl⟩;refine bS (N1:=λΓ=>∃e6 e7 e8 e9 Xp Xo,Γ=[.ob (bu a us),.ob (aO c ag [(Wa Ls (i+1):Int)]),.mu gq ms,.im dv q0.2.1,.im (ae aq) ((bF Ls i).map fM),.di (cG (bK Ls i)),e6,e7,e8,e9,Xp,Xo]) (bW (r:=wJ) (xs:=bF Ls i) (λk Γ=>∃e6 e7 e8 e9 Xp Xo,Γ=[.ob (bu a us),.ob (aO c ag [(Wa Ls (i+1):Int)]),.mu gq ms,.im dv q0.2.1,.im (ae aq) ((bF Ls i).map fM),.di (cG (((bF Ls i).take k).foldl (λF r=>iJ F r.2.2.1 r.2.2.2.1) [((Wa Ls i:Int),0),(-1,1)])),e6,e7,e8,e9,Xp,Xo]) (br (EV.N2 (aa 4 rfl))) (E7 7 8 9 10 11) ⟨_,_,_,_,_,_,rfl⟩ (λk r Γ WY hΓ=>?_) (λΓ hΓ=>?_)) ?_
    ·obtain⟨e6,e7,e8,e9,Xp,Xo,rfl⟩:=hΓ;have kl:=(Qc.mp WY).1;have nx:((bF Ls i).take (k+1)).foldl (λF r=>iJ F r.2.2.1 r.2.2.2.1) [((Wa Ls i:Int),0),(-1,1)]=iJ (((bF Ls i).take k).foldl (λF r=>iJ F r.2.2.1 r.2.2.2.1) [((Wa Ls i:Int),0),(-1,1)]) r.2.2.1 r.2.2.2.1:=by
      rw[QK,WY,Q2];rfl
     rw[nx];have Fl:=F4 ((bF Ls i).take k) [((Wa Ls i:Int),0),(-1,1)];rw[QA] at Fl;have Fl:(((bF Ls i).take k).foldl (λF r=>iJ F r.2.2.1 r.2.2.2.1) [((Wa Ls i:Int),0),(-1,1)]).length<=40:=by
      refine Sh Fl ?_;show 2+2*min k (bF Ls i).length<=40;omega
     generalize ((bF Ls i).take k).foldl (λF r=>iJ F r.2.2.1 r.2.2.2.1) [((Wa Ls i:Int),0),(-1,1)]=F0 at Fl;obtain⟨wd,nm,o1,o2,cl⟩:=r;refine aj (bW (r:=ag) (xs:=[o1,o2]) (λk Γ=>∃e6,Γ=[.ob (bu a us),.ob (aO c ag [(Wa Ls (i+1):Int)]),.mu gq ms,.im dv q0.2.1,.im (ae aq) ((bF Ls i).map fM),.di (cG ((([o1,o2]:PH).take k).foldl cH F0)),e6,.im ar wd,.im ar nm,aJ o1,aJ o2,aJ cl]) (br (ba.im (aR (ak (aa 9 rfl) (ak (aa 10 rfl) aL)) (by show 2<=S8;decide)))) (aP 6) ⟨_,rfl⟩ (λk x Γ hx hΓ=>?_) (λΓ hΓ=>?_))
     ·obtain⟨e6,rfl⟩:=hΓ;have kl:k<2:=(Qc.mp hx).1;have nx:(([o1,o2]:PH).take (k+1)).foldl cH F0=cH ((([o1,o2]:PH).take k).foldl cH F0) x:=by
       rw[QK,hx,Q2];rfl
      rw[nx];have F1l:((([o1,o2]:PH).take k).foldl cH F0).length<=42:=by
       match k,kl with
       | 0,_=>show F0.length<=42;omega
       | 1,_=>show(cH F0 o1).length<=42;have:=vO F0 o1;omega
      generalize (([o1,o2]:PH).take k).foldl cH F0=F1 at F1l;refine aj (a8 (DZ 5 hu (aa 6 rfl) rfl) (λh=>?_) (λh=>aF ?_))
      ·have h:(aW F1 x).isSome=false:=by simpa using h
       refine aj (qI 5 hu (aa 6 rfl) (nk 5 M.len rfl) rfl (Sj F1l (by decide)) ⟨aJ x,?_⟩);rw[yh,h];rfl
      ·have h:(aW F1 x).isSome=true:=by simpa using h
       refine⟨aJ x,?_⟩;rw[yh,h];rfl
     ·obtain⟨e6,rfl⟩:=hΓ;exact⟨_,_,_,_,_,_,rfl⟩
    ·obtain⟨e6,e7,e8,e9,Xp,Xo,rfl⟩:=hΓ;rw[QM];exact⟨_,_,_,_,_,_,rfl⟩
    rintro _ ⟨e6,e7,e8,e9,Xp,Xo,rfl⟩;refine WS.L8 5 rfl ?_;refine aj (eT 2 (r:=gq) (y:=(bF Ls i,bK Ls i)) (sU (ah (EV.N2 (aa 4 rfl)) (ah (aa 5 rfl) ax))) rfl rfl (Sj ml (by decide)) ⟨us,_,_,_,_,_,_,_,_,_,rfl,h1',h3⟩)
   ·obtain⟨qs,e3,e4,e5,e6,e7,e8,e9,Xp,Xo,rfl,h1,h2⟩:=hΓ;rw[lps];exact⟨_,_,_,_,_,_,_,_,_,_,_,rfl⟩
   rintro _ ⟨e0,e1,e3,e4,e5,e6,e7,e8,e9,Xp,Xo,rfl⟩;refine WS.freeze 2 rfl (aT (by unfold fU;rw[Qg,QN];omega)) ?_;exact aj (aN (aa 2 rfl) rfl)
  exact⟨_,jq,body (L2.start Jy [.ref a]) (fW H (a::d8 ps)) R H R (Ig rfl sR kk hR) {nx:=λ_ H'=>Q .Wb H',rt:=Q} (λσ' H' R' Γ' E' _ h=>h.elim) λv H' R' xx t=>by obtain⟨y,hy,rfl⟩:=t;exact q v H' R' xx hy⟩
structure qN (mg:Pz):Prop where
 isinstance:mg "isinstance"=none
 bool:mg "bool"=none
 str:mg "str"=none
 tuple:mg "tuple"=none
mutual
def nA:PV->Bool
 | .str _=>true
 | .int _=>true
 | .tup xs=>decide (xs.length<=1000)&&jL xs
 | .lst xs=>jL xs
 | _=>false
def jL:List PV->Bool
 | []=>true
 | x::xs=>nA x&&jL xs
end
theorem pQ {x:PV}:∀{xs:List PV},jL xs=true->x∈xs->nA x=true
 | y::xs,h,hx=>by
   rw[jL,PZ] at h;rcases Qq.mp hx with rfl | hx
   ·exact h.1
   ·exact pQ h.2 hx
theorem rT:∀{xs:List PV},(∀x∈xs,nA x=true)->jL xs=true
 | [],_=>by rw[jL]
 | y::xs,h=>by rw[jL,h y Qk,rT λx hx=>h x (Qi _ hx)];rfl
variable {α:Type}
theorem wB {xs:List α}{y:α×α}(h:(xs.zip xs)[i]?=some y):y.1∈xs/\y=(y.1,y.1):=by
 obtain⟨h1,h2⟩:=Fc.kA h;rw[h1] at h2;exact⟨Qm h1,SU rfl (Option.some.inj h2).symm⟩
abbrev Fw:Stmt:=top vb
abbrev nSM:PJ:=["_law_told","_law_due","_law_one","_law_other"]
abbrev J3:PJ:=["_law_told","_law_due"]
theorem Jh:bV nSM J3 (ao Fw):=Xt
def Fy (n:Nat):cS:=λK ps T=>∃x:PV,ps=[⟨aq,x⟩,⟨aq,x⟩]/\x.deep<=n/\nA x=true/\T=cU K bM (· =true)
theorem BX (M:cD K mg)(MS:qN mg){n:Nat}(CS:∀m,n=m+1->aE P w K mg base "_law_same" (m+1) (aM (Fy m) K))(F:dZ K "_law_same" "_law_same" Fw f fd)(hm:mg "_law_same"=some (.ref f))(hb:Binds K fd J3 []):aE P w K mg base "_law_same" (n+1) (aM (Fy n) K):=by
 have nd:=Jh.nd;refine gZ (k:=n) F Jh hm hb (λqs T ⟨_,e,_⟩=>by rw[e];rfl) (λV2 A outer s H E qs T hr hS=>?_);obtain⟨x,rfl,hd,ho,rfl⟩:=hS;cases x with
 | Wb=>simp[nA] at ho
 | bl b=>simp[nA] at ho
 | int k=>
   refine ai (a8 (TW.tv (gu (bL (bc (b:=false) MS.isinstance MS.tuple SW (aa 1 rfl) j5)) (λ_=>fF (bL (bc (b:=false) MS.isinstance M.list SV (aa 1 rfl) j5))))) (λh=>VO h (by decide)) (λ_=>aF ?_));refine ai (a8 (bL (bc (b:=false) MS.isinstance MS.bool boot_bool (aa 1 rfl) j5)) (λh=>VO h (by decide)) (λ_=>aF ?_));refine ai (a8 (bL (bc (b:=true) MS.isinstance M.int S3 (aa 1 rfl) j5)) (λ_=>?_) (λh=>VO h (by decide)));exact aj (aN (gT (bc (b:=true) MS.isinstance M.int S3 (aa 0 rfl) j5) (λ_=>gT (vx (bc (b:=false) MS.isinstance MS.bool boot_bool (aa 0 rfl) j5)) (λ_=>iG (fu fT (EV.iP (n:=k) (aa 0 rfl)) (EV.iP (n:=k) (aa 1 rfl)))))) (by simp))
 | str y=>
   refine ai (a8 (TW.tv (gu (bL (bc (b:=false) MS.isinstance MS.tuple SW (aa 1 rfl) j6)) (λ_=>fF (bL (bc (b:=false) MS.isinstance M.list SV (aa 1 rfl) j6))))) (λh=>VO h (by decide)) (λ_=>aF ?_));refine ai (a8 (bL (bc (b:=false) MS.isinstance MS.bool boot_bool (aa 1 rfl) j6)) (λh=>VO h (by decide)) (λ_=>aF ?_));refine ai (a8 (bL (bc (b:=false) MS.isinstance M.int S3 (aa 1 rfl) j6)) (λh=>VO h (by decide)) (λ_=>aF ?_));refine ai (a8 (bL (bc (b:=true) MS.isinstance MS.str PyProof.Rows.boot_str (aa 1 rfl) j6)) (λ_=>?_) (λh=>VO h (by decide)));exact aj (aN (gT (bc (b:=true) MS.isinstance MS.str PyProof.Rows.boot_str (aa 0 rfl) j6) (λ_=>iG (fu cm (EV.sP (x:=y) (aa 0 rfl)) (EV.sP (x:=y) (aa 1 rfl))))) (by simp))
 | tup xs=>
   rw[PV.deep] at hd;rw[nA,PZ] at ho;cases n with
   | zero=>omega
   | succ m=>
   have CS:=CS m rfl;refine ai (a8 (TW.tv (gu (y:=false) (bL (bc (b:=true) MS.isinstance MS.tuple SW (aa 1 rfl) nT)) (λh=>VO h (by decide)))) (λ_=>?_) (λh=>VO h (by decide)));refine ai (a8 (TW.tv (gu (aA uo (bc (b:=true) MS.isinstance MS.tuple SW (aa 0 rfl) nT) (bc (b:=true) MS.isinstance MS.tuple SW (aa 1 rfl) nT)) (λ_=>fF (aA uo (bc (b:=false) MS.isinstance M.list SV (aa 0 rfl) nT) (bc (b:=false) MS.isinstance M.list SV (aa 1 rfl) nT))))) (λh=>VO h (by decide)) (λ_=>aF ?_));refine ai (a8 (aA y6 (yJ M.len (aa 0 rfl)) (yJ M.len (aa 1 rfl))) (λh=>VO h (by simp)) (λ_=>aF ?_));refine bS (N1:=λΓ=>∃e2 e3,Γ=[.im aq (.tup xs),.im aq (.tup xs),e2,e3]) (bW (r:=dS aq aq) (λi Γ=>∃e2 e3,Γ=[.im aq (.tup xs),.im aq (.tup xs),e2,e3]) (DS M.zip (aa 0 rfl) (aa 1 rfl) (aT (Sh (VR ho.1) (by decide)))) (eN 2 3) ⟨_,_,rfl⟩ (λi y Γ hy hΓ=>?_) (λΓ hΓ=>hΓ)) ?_
   ·obtain⟨e2,e3,rfl⟩:=hΓ;obtain⟨h1,h2⟩:=wB hy;rw[h2];have:=pX h1;exact aj (a8 (dh (bL (aI CS hr (ah (aa 2 rfl) (ah (aa 3 rfl) ax)) ⟨y.1,rfl,by omega,pQ ho.2 h1,rfl⟩))) (λh=>VO h (by decide)) (λ_=>aF ⟨_,_,rfl⟩))
   rintro _ ⟨e2,e3,rfl⟩;exact aj (aN eM rfl)
 | lst xs=>
   rw[PV.deep] at hd;rw[nA] at ho;cases n with
   | zero=>omega
   | succ m=>
   have CS:=CS m rfl;refine ai (a8 (TW.tv (gu (bL (bc (b:=false) MS.isinstance MS.tuple SW (aa 1 rfl) j8)) (λ_=>fF (bL (bc (b:=true) MS.isinstance M.list SV (aa 1 rfl) j8))))) (λ_=>?_) (λh=>VO h (by decide)));refine ai (a8 (TW.tv (gu (aA uo (bc (b:=false) MS.isinstance MS.tuple SW (aa 0 rfl) j8) (bc (b:=false) MS.isinstance MS.tuple SW (aa 1 rfl) j8)) (λ_=>fF (aA uo (bc (b:=true) MS.isinstance M.list SV (aa 0 rfl) j8) (bc (b:=true) MS.isinstance M.list SV (aa 1 rfl) j8))))) (λh=>VO h (by decide)) (λ_=>aF ?_));refine ai (a8 (aA y6 (dy M.len (EV.lP (xs:=xs) (aa 0 rfl))) (dy M.len (EV.lP (xs:=xs) (aa 1 rfl)))) (λh=>VO h (by simp)) (λ_=>aF ?_));refine bS (N1:=λΓ=>∃e2 e3,Γ=[.im aq (.lst xs),.im aq (.lst xs),e2,e3]) (bW (r:=dS aq aq) (λi Γ=>∃e2 e3,Γ=[.im aq (.lst xs),.im aq (.lst xs),e2,e3]) (Ci M.zip (EV.lP (xs:=xs) (aa 0 rfl)) (EV.lP (xs:=xs) (aa 1 rfl))) (eN 2 3) ⟨_,_,rfl⟩ (λi y Γ hy hΓ=>?_) (λΓ hΓ=>hΓ)) ?_
   ·obtain⟨e2,e3,rfl⟩:=hΓ;obtain⟨h1,h2⟩:=wB hy;rw[h2];have:=pX h1;exact aj (a8 (dh (bL (aI CS hr (ah (aa 2 rfl) (ah (aa 3 rfl) ax)) ⟨y.1,rfl,by omega,pQ ho h1,rfl⟩))) (λh=>VO h (by decide)) (λ_=>aF ⟨_,_,rfl⟩))
   rintro _ ⟨e2,e3,rfl⟩;exact aj (aN eM rfl)
theorem EC (M:cD K mg)(MS:qN mg)(F:dZ K "_law_same" "_law_same" Fw f fd)(hm:mg "_law_same"=some (.ref f))(hb:Binds K fd J3 []):∀n,aE P w K mg base "_law_same" (n+1) (aM (Fy n) K)
 | 0=>BX M MS (λm h=>VO h (by omega)) F hm hb
 | n+1=>BX M MS (λm h=>by cases h;exact EC M MS F hm hb n) F hm hb
structure uA (mg:Pz):Prop where
 WI:∃t,mg "LEAST_PLACES"=some (.int 2 t)
 W7:∃t,mg "MOST_ROWS"=some (.int 60 t)
 tuple:mg "tuple"=none
structure lD (mg:Pz):Prop where
 XX:∃t,mg "MOST_PARTS"=some (.int 4 t)
 WI:∃t,mg "LEAST_PLACES"=some (.int 2 t)
 XI:∃t,mg "MOST_PLACES"=some (.int 16 t)
 W7:∃t,mg "MOST_ROWS"=some (.int 60 t)
 X1:∃t,mg "FIRST_PART"=some (.int 0 t)
 begin_:∃t,mg "BEGIN"=some (.int 0 t)
 end_:∃t,mg "END"=some (.int 1 t)
 Zf:∃t,mg "NO_CALL"=some (.int (-1) t)
 len:mg "len"=none
 all:mg "all"=none
 any:mg "any"=none
 range:mg "range"=none
 enumerate:mg "enumerate"=none
 isinstance:mg "isinstance"=none
 int:mg "int"=none
 bool:mg "bool"=none
 list:mg "list"=none
 tuple:mg "tuple"=none
theorem MN (M:cD K mg)(M3:kU mg)(M4:nr mg)(X:uA mg):lD mg:=⟨M3.parts,X.WI,M3.places,X.W7,M4.first,M3.beg,M3.end_,M4.Ye,M.len,M.all,M.any,M.range,M.enumerate,M4.isinstance,M.int,M4.bool,M.list,X.tuple⟩
theorem all_true (xs:List α):((xs.filter λ_=>true).map λ_=>true).all id=true:=by
 rw[Ry];intro b hb;obtain⟨_,_,rfl⟩:=Qw.mp hb;rfl
theorem C8 {xs:PH}{i:Int}(h0:0<=i)(h1:i<xs.length):cE xs i=some (xs.getD i.toNat 0):=by
 rw[gP h0 h1,Qd (by omega),Qh,Qd (by omega)];rfl
abbrev N5:Stmt:=top rH
def Nh:cS:=λK ps T=>∃r:Row,ps=[⟨cX,r⟩]/\T=cU K bM (· =true)
theorem Lo (M:lD mg)(CA:aE P w K mg base "are_whole" 2 (aM Ib K))(Df:Def K mg "has_row_form" N5 ["row"]):aE P w K mg base "has_row_form" 3 (aM Nh K):=by
 refine bD (N:=["row"]) Df (λf V2 A outer s H E qs T nd hr hS=>?_);obtain⟨r,rfl,rfl⟩:=hS;exact aj (aN (gT (bc M.isinstance M.tuple SW (aa 0 rfl) KP) (λ_=>gT (fu fT (xR M.len (aa 0 rfl) Ku) ev_int) (λ_=>iG (aI CA hr (ah (aa 0 rfl) ax) ⟨.inr ⟨_,rfl⟩,rfl⟩)))) rfl)
abbrev Ij:Stmt:=top qo
def NK:cS:=λK ps T=>∃v:lB,ps=[⟨u7,v⟩]/\T=cU K bM (· =true)
theorem Mb (M:lD mg)(CA:aE P w K mg base "are_whole" 2 (aM Ib K))(CR:aE P w K mg base "has_row_form" 3 (aM Nh K))(Df:Def K mg "has_web_form" Ij ["web"]):aE P w K mg base "has_web_form" 4 (aM NK K):=by
 have Xq:Qz [("row":Str)]:=by decide
 refine bD (N:=["web","places","rows"]) Df (λf V2 A outer s H E qs T nd hr hS=>?_);obtain⟨v,rfl,rfl⟩:=hS;refine ai (a8 (TW.tv (gu (dh (bL (bc M.isinstance M.tuple SW (aa 0 rfl) (Gi (r:=ae ag) (r':=ae cX))))) (λ_=>fF (aA y6 (xR M.len (aa 0 rfl) (FO (r:=ae ag) (r':=ae cX))) ev_int)))) (λh=>VO h (by decide)) (λ_=>aF ?_));refine ai (bg 1 (nZ (r:=ae ag) (r':=ae cX) (aa 0 rfl)) (ai (bg 2 (jC (r:=ae ag) (r':=ae cX) (aa 0 rfl)) ?_)));refine ai (a8 (TW.tv (gu (dh (bL (bc M.isinstance M.list SV (aa 1 rfl) ty_list))) (λ_=>fF (dh (bL (bc M.isinstance M.list SV (aa 2 rfl) ty_list)))))) (λh=>VO h (by decide)) (λ_=>aF ?_));exact aj (aN (gT (aI (CA.mono (by decide:2<=3)) hr (ah (aa 1 rfl) ax) ⟨.inl ⟨_,rfl⟩,rfl⟩) (λ_=>iG (jI M.all (ba.im (bE (own:=["row"]) (fr:=[]) (ix:=[]) (p:=λ_=>true) (f:=λ_=>true) (bA (so:=ao Ij) (N0:=["web","places","rows"]) rfl rfl (λx h=>bb h) (by decide +kernel)) (br (aa 2 rfl))
  (λC s H ex=>aP 0) (λx=>⟨.inr rfl,trivial⟩) (λC s H ex x hx=>dk) (λC s H ex x hx _=>aI CR hr (ah (aa 0 rfl) ax) ⟨_,rfl,rfl⟩)))))) (by rw[all_true];rfl))
abbrev Kj:Stmt:=top pC
def nh (v:lB):Bool:=
 if !(decide ((1:Int)<=(v.1.length:Int))&&decide ((v.1.length:Int)<=4)) || !(decide ((1:Int)<=(v.2.length:Int))&&decide ((v.2.length:Int)<=60)) then false
 else((v.1.filter λ_=>true).map λn=>decide ((2:Int)<=n)&&decide (n<=16)).all id
def Ol:cS:=λK ps T=>∃v:lB,ps=[⟨u7,v⟩]/\T=cU K bM (· =nh v)
theorem Md (M:lD mg)(Df:Def K mg "has_web_sizes" Kj ["web"]):aE P w K mg base "has_web_sizes" 1 (aM Ol K):=by
 have Xq:Qz [("size":Str)]:=by decide
 obtain⟨t1,h1⟩:=M.XX;obtain⟨t2,h2⟩:=M.W7;obtain⟨t3,h3⟩:=M.WI;obtain⟨t4,h4⟩:=M.XI;refine bD (N:=["web","places","rows"]) Df (λf V2 A outer s H E qs T nd hr hS=>?_);obtain⟨v,rfl,rfl⟩:=hS;refine ai (bg 1 (nZ (r:=ae ag) (r':=ae cX) (aa 0 rfl)) (ai (bg 2 (jC (r:=ae ag) (r':=ae cX) (aa 0 rfl)) ?_)));refine ai (a8 (TW.tv (gu (dh (jf jJ jJ ev_int (dy M.len (aa 1 rfl)) (dO h1))) (λ_=>fF (dh (jf jJ jJ ev_int (dy M.len (aa 2 rfl)) (dO h2)))))) (λh=>?_) (λh=>aF ?_))
 ·exact aj (aN eM (by rw[nh,VQ h]))
 ·exact aj (aN (jI M.all (ba.im (bE (own:=["size"]) (fr:=[]) (ix:=[]) (p:=λ_=>true) (f:=λn=>decide ((2:Int)<=n)&&decide (n<=16)) (bA (so:=ao Kj) (N0:=["web","places","rows"]) rfl rfl (λx h=>bb h) (by decide +kernel)) (br (aa 1 rfl))
   (λC s H ex=>aP 0) (λx=>⟨.inr rfl,trivial⟩) (λC s H ex x hx=>dk) (λC s H ex x hx _=>nu jJ jJ (dO h3) (aa 0 rfl) (dO h4))))) (by rw[nh,VP (by rw[h];decide)]))
abbrev Nl:Stmt:=top rA
def mT (ns:PH)(r:Row):Bool:=
 if !(decide (0<=r.1)&&decide (r.1<(ns.length:Int))) then false
 else if !(decide (0<=r.2.1)&&decide (r.2.1<ns.getD r.1.toNat 0)) || !(decide (0<=r.2.2.1)&&decide (r.2.2.1<ns.getD r.1.toNat 0)) then false
 else(!decide (r.2.1=1))&&(decide (r.2.2.2= -1) ||(decide (r.1<r.2.2.2)&&decide (r.2.2.2<(ns.length:Int))))
def Oh:cS:=λK ps T=>∃ns r,ps=[⟨ae ag,ns⟩,⟨cX,r⟩]/\T=cU K bM (· =mT ns r)
theorem K5 (M:lD mg)(Df:Def K mg "leads_within" Nl ["places","row"]):aE P w K mg base "leads_within" 1 (aM Oh K):=by
 obtain⟨t1,hEND⟩:=M.end_;obtain⟨t2,hNC⟩:=M.Zf;refine bD (N:=["places","row","part"]) Df (λf V2 A outer s H E qs T nd hr hS=>?_);obtain⟨ns,r,rfl,rfl⟩:=hS;refine ai (bg 2 (sr (aa 1 rfl)) ?_);refine ai (a8 (dh (jf jJ i9 ev_int (aa 2 rfl) (dy M.len (aa 0 rfl)))) (λh=>?_) (λh=>?_))
 ·exact aj (aN eM (by rw[mT,VQ h]))
 refine aF ?_;have h':0<=r.1/\r.1<(ns.length:Int):=by simpa using h
 have hix:cE ns r.1=some (ns.getD r.1.toNat 0):=C8 h'.1 h'.2;refine ai (a8 (TW.tv (gu (dh (jf jJ i9 ev_int (oH (aa 1 rfl)) (a9 (aa 0 rfl) (aa 2 rfl) hix))) (λ_=>fF (dh (jf jJ i9 ev_int (sk (aa 1 rfl)) (a9 (aa 0 rfl) (aa 2 rfl) hix)))))) (λh2=>?_) (λh2=>?_))
 ·exact aj (aN eM (by rw[mT,VP (by rw[h];decide),VQ h2]))
 refine aF (aj (aN (gT (fu y6 (oH (aa 1 rfl)) (dO hEND)) (λ_=>iG (K7 (fu fT (sT (aa 1 rfl)) (dO hNC)) (λ_=>iG (nu i9 i9 (aa 2 rfl) (sT (aa 1 rfl)) (dy M.len (aa 0 rfl))))))) ?_));rw[mT,VP (by rw[h];decide),VP (by rw[h2];decide)]
abbrev HF:Stmt:=top uG
def called (rs:List Row)(p:Int):Bool:=((rs.filter λ_=>true).map λr=>decide (r.2.2.2=p)).any id
def Oi:cS:=λK ps T=>∃(rs:List Row)(p:Int),ps=[⟨ae cX,rs⟩,⟨ag,p⟩]/\T=cU K bM (· =called rs p)
theorem LC (M:lD mg)(Df:Def K mg "is_called" HF ["rows","part"]):aE P w K mg base "is_called" 1 (aM Oi K):=by
 have Xq:Qz [("row":Str),"part"]:=by decide
 refine bD (N:=["rows","part"]) Df (λf V2 A outer s H E qs T nd hr hS=>?_);obtain⟨rs,p,rfl,rfl⟩:=hS;exact aj (aN (Bc M.any (ba.im (bE (own:=["row"]) (fr:=["part"]) (ix:=[1]) (p:=λ_=>true) (f:=λr=>decide (r.2.2.2=p)) (bA (so:=ao HF) (N0:=["rows","part"]) rfl rfl (λx h=>bb h) (by decide +kernel)) (br (aa 0 rfl))
  (λC s H ex=>aP 0) (λx=>⟨.inr rfl,.inl rfl,trivial⟩) (λC s H ex x hx=>dk) (λC s H ex x hx _=>fu fT (sT (aa 0 rfl)) (aa 1 rfl))))) rfl)
theorem mM {α:Type}[DecidableEq α]:∀{xs ys:List α},xs.Nodup->(∀x∈xs,x∈ys)->xs.length<=ys.length
 | [],_,_,_=>Si _
 | x::xs,ys,h,hs=>by
   obtain⟨h1,h2⟩:=QF.mp h;have hx:x∈ys:=hs x Qk;have:=mM (xs:=xs) (ys:=ys.erase x) h2 λy hy=>(List.mem_erase_of_ne (show y≠x from λe=>h1 (e▸hy))).mpr (hs y (Qi _ hy));rw[RJ hx] at this;have:=RS hx;rw[Qo];omega
theorem Cf  [DecidableEq α]{xs ys:List α}(h:xs.Nodup)(h':ys.Nodup)(e:∀x,x∈xs↔x∈ys):xs.length=ys.length:=
 Nat.le_antisymm (mM h λx hx=>(e x).mp hx) (mM h' λx hx=>(e x).mpr hx)
def pd (ks:PH):List (Int×V):=ks.map λk=>(k,.bl true)
theorem rX (ks:PH)(k:Int):gL (pd ks) k=decide (k∈ks):=by
 unfold gL pd;rw[any_map,P0,Rz];simp
structure vQ (es:PR)(s:Int)(ks ws:PH):Prop where
 nd:ks.Nodup
 re:∀k∈ks,Fc.Reach es s k
 st:s∈ks
 wt:∀k∈ws,k∈ks
 bd:∀k∈ks,k∈s::es.map (·.2)
variable {es:PR}{ks:PH}
theorem vQ.le {s:Int}{ws:PH}(h:vQ es s ks ws):ks.length<=es.length+1:=by
 have:=mM h.nd h.bd;simpa using this
abbrev KJ:Stmt:=top zO
abbrev nRE:PJ:=["leads","start","found","waiting","place","lead"]
theorem JP:bV nRE ["leads","start"] (ao KJ):=Xt
def Oj:cS:=λK ps T=>∃(es:PR)(s:Int),ps=[⟨ae vZ,es⟩,⟨ag,s⟩]/\es.length<=100000/\T=cU K kY λkvs=>(kvs.map (·.1)).Nodup/\∀k,k∈kvs.map (·.1)↔Fc.Reach es s k
theorem My (F:dZ K "reached" "reached" KJ f fd)(hm:mg "reached"=some (.ref f))(hb:Binds K fd ["leads","start"] []):aE P w K mg base "reached" 1 (aM Oj K):=by
 have nd:=JP.nd;refine gZ F JP hm hb (λqs T ⟨_,_,e,_⟩=>by rw[e];rfl) (λV2 A outer s H E qs T hr hS=>?_);obtain⟨es,s0,rfl,hlen,rfl⟩:=hS;have hu:=Li hr;change WS _ _ [.im (ae vZ) es,aJ s0,.no,.no,.no,.no] _ _;refine ai (FE 2 (zS 1 rfl) qM (ai (cR 3 (aR (ak (aa 1 rfl) aL) (by show 1<=S8;decide)) ?_)));refine ai (ot (λm Γ=>∃ks ws v4 v5,Γ=[.im (ae vZ) es,aJ s0,.di (pd ks),.mu ag ws,v4,v5]/\vQ es s0 ks ws/\m=2*(es.length+1-ks.length)+ws.length/\m<=2*es.length+1/\∀k∈ks,k∉ws->∀b,(k,b)∈es->b∈ks) (m0:=2*(es.length+1-1)+1)
  ⟨[s0],[s0],.no,.no,rfl,⟨by simp,λk hk=>by rw[Qe.mp hk];exact .base,Qe.mpr rfl,λk hk=>hk,λk hk=>by rw[Qe.mp hk];exact Qk⟩,rfl,Sg _,λk hk hn=>VO hk hn⟩ ?_)
 rintro m Γ ⟨ks,ws,v4,v5,rfl,hI,rfl,hmb,X6⟩;refine⟨!ws.isEmpty,_,qF 3 rfl,λWx=>?_,λhe=>?_⟩
 ·have hws:ws≠[]:=by intro e;rw[e] at Wx;exact VO Wx (by decide)
  have hpos:0<ws.length:=List.length_pos_iff.mpr hws;obtain⟨p,hp⟩:∃p,ws[ws.length-1]?=some p:=⟨_,Qd (by omega)⟩;have hpm:p∈ws:=Qm hp;have Zk:ws=ws.dropLast++[p]:=by
   have e:=Q3 hws;rw[List.getLast_eq_getElem,] at e;rw[Qd (by omega)] at hp;rw[Option.some.inj hp] at e;exact e.symm
  have YZ:ws.dropLast.length=ws.length-1:=RH;refine ai (bg 4 (wg 3 rfl hp) ?_);refine aj (bW (r:=vZ) (λi Γ=>∃Xv X9 v5,Γ=[.im (ae vZ) es,aJ s0,.di (pd Xv),.mu ag X9,aJ p,v5]/\vQ es s0 Xv X9/\p∈Xv/\2*(es.length+1-Xv.length)+X9.length<2*(es.length+1-ks.length)+ws.length/\(∀k∈Xv,k∉X9->k≠p->∀b,(k,b)∈es->b∈Xv)/\∀(j:Nat) b,j<i->es[j]?=some (p,b)->b∈Xv)
   (br (aa 0 rfl)) (aP 5) ⟨ks,ws.dropLast,v5,rfl,⟨hI.nd,hI.re,hI.st,λk hk=>hI.wt k (List.dropLast_subset _ hk),hI.bd⟩,hI.wt p hpm,by omega,λk hk hn ZN=>X6 k hk λhw=>?_,λj b hj=>VO hj (SG _)⟩ ?_ ?_)
  ·rw[Zk] at hw;rcases Qr.mp hw with q | q
   ·exact hn q
   ·exact ZN (Qe.mp q)
  ·rintro i t Γ ht ⟨Xv,X9,u5,rfl,hJ,hp1,hme,hc1,hc2⟩;have htm:t∈es:=Qm ht;refine aj (a8 (TW.tv (dg (aA fT (nZ (aa 5 rfl)) (aa 4 rfl)) (λ_=>eO (xP 2 true hu (jC (aa 5 rfl)) rfl)))) (λh=>?_) (λh=>aF ?_))
   ·rw[PZ] at h;have h1:t.1=p:=VR h.1;have h2:t.2∉Xv:=by
     have:=h.2;rw[VQ rfl,rX] at this;simpa using this
    have hJ':vQ es s0 (Xv++[t.2]) (X9++[t.2]):=by
     refine⟨ib hJ.nd h2,λk hk=>?_,Qs _ hJ.st,λk hk=>?_,λk hk=>?_⟩
     ·rcases Qr.mp hk with q | q
      ·exact hJ.re k q
      ·rw[Qe.mp q];exact .step (hJ.re p hp1) (by rw[← h1];exact htm)
     ·rcases Qr.mp hk with q | q
      ·exact Qs _ (hJ.wt k q)
      ·exact Qn _ q
     ·rcases Qr.mp hk with q | q
      ·exact hJ.bd k q
      ·rw[Qe.mp q];exact Qi _ (Qw.mpr ⟨t,htm,rfl⟩)
    have hle:=hJ'.le;have hle1:=hJ.le;rw[Qj,QG] at hle;refine ai (tP 2 hu (jC (aa 5 rfl)) qM rfl (by rw[rX];exact VU h2) (by unfold pd;rw[Qg];exact Sj (show Xv.length<=100001 by omega) (by decide)) ?_);have ed:pd Xv++[(t.2,V.bl true)]=pd (Xv++[t.2]):=by unfold pd;rw[Qv];rfl
    rw[ed];have hwl:X9.length<=400000:=by
     omega
    refine aj (eT 3 (jC (aa 5 rfl)) rfl rfl (Sj hwl (by decide)) ?_);refine⟨Xv++[t.2],X9++[t.2],_,rfl,hJ',Qs _ hp1,?_,λk hk hn ZN b hb=>?_,λj b hj Zu=>?_⟩
    ·rw[Qj,Qj,QG];omega
    ·rcases Qr.mp hk with q | q
     ·exact Qs _ (hc1 k q (λz=>hn (Qs _ z)) ZN b hb)
     ·exact VO (Qn _ q) hn
    ·rcases Sm j i with q | q
     ·exact Qs _ (hc2 j b q Zu)
     ·have:j=i:=by omega
      subst this;rw[ht] at Zu;cases Zu
      exact Qn _ (Qe.mpr rfl)
   ·refine⟨Xv,X9,_,rfl,hJ,hp1,hme,hc1,λj b hj Zu=>?_⟩;rcases Sm j i with q | q
    ·exact hc2 j b q Zu
    ·have:j=i:=by omega
     subst this;rw[ht] at Zu;cases Zu
     have h':=h;rw[Bool.and_eq_false_iff] at h';rcases h' with z | z
     ·exact VO rfl (VS z)
     ·rw[VQ rfl,rX] at z;simpa using z
  ·rintro Γ ⟨Xv,X9,u5,rfl,hJ,hp1,hme,hc1,hc2⟩;refine⟨_,hme,Xv,X9,_,_,rfl,hJ,rfl,by omega,λk hk hn b hb=>?_⟩;by_cases ZN:k=p
   ·subst ZN;obtain⟨j,hj⟩:=Qu.mp hb;exact hc2 j b (Qc.mp hj).1 hj
   ·exact hc1 k hk hn ZN b hb
 ·have hws:ws=[]:=by
   cases ws with
   | nil=>rfl
   | cons _ _=>simp at he
  subst hws;refine aj (Bq 2 rfl ?_);have em:(pd ks).map (·.1)=ks:=by unfold pd;rw[QY];exact List.map_id ks
  rw[em];exact⟨hI.nd,λk=>⟨hI.re k,λhk=>Fc.Reach.sub (P:=λk=>k∈ks) hI.st (λa b ha X8=>X6 a ha (by simp) b X8) hk⟩⟩
open Classical in
noncomputable def oh (es:PR)(s n:Int):Bool:=decide (∃ks:PH,ks.Nodup/\(∀k,k∈ks↔Fc.Reach es s k)/\(ks.length:Int)=n)
open Classical in
theorem n6 {s n:Int}(h:ks.Nodup)(e:∀k,k∈ks↔Fc.Reach es s k):decide ((ks.length:Int)=n)=oh es s n:=by
 unfold oh;by_cases hn:(ks.length:Int)=n
 ·rw[VT hn,VT];exact⟨ks,h,e,hn⟩
 ·rw[VU hn,VU];rintro⟨ks',h',e',X5⟩;exact hn (by rw[← X5,Cf h h' λk=>(e k).trans (e' k).symm])
def fwd (rs:List Row)(p:Int):PR:=(rs.filter λr=>decide (r.1=p)).map λr=>(r.2.1,r.2.2.1)
def bwd (rs:List Row)(p:Int):PR:=(rs.filter λr=>decide (r.1=p)).map λr=>(r.2.2.1,r.2.1)
noncomputable def su (rs:List Row)(p n:Int):Bool:=oh (fwd rs p) 0 n&&oh (bwd rs p) 1 n
abbrev Fo:Stmt:=top qS
abbrev HV:PJ:=["rows","part","size","ahead","behind"]
def Oa:cS:=λK ps T=>∃(rs:List Row)(p n:Int),ps=[⟨ae cX,rs⟩,⟨ag,p⟩,⟨ag,n⟩]/\rs.length<=1000/\T=cU K bM (· =su rs p n)
theorem Lw (M:lD mg)(CR:aE P w K mg base "reached" 1 (aM Oj K))(Df:Def K mg "lies_on_ways" Fo ["rows","part","size"]):aE P w K mg base "lies_on_ways" 2 (aM Oa K):=by
 have Xq:Qz [("row":Str),"part"]:=by decide
 obtain⟨t1,hB⟩:=M.begin_;obtain⟨t2,hE⟩:=M.end_;refine bD (N:=HV) Df (λf V2 A outer s H E qs T nd hr hS=>?_);obtain⟨rs,p,n,rfl,hl,rfl⟩:=hS;change WS _ _ [.im (ae cX) rs,aJ p,aJ n,.no,.no] _ _;have lf:∀g:Row->Int×Int,((rs.filter λr=>decide (r.1=p)).map g).length<=100000:=λg=>by
  rw[Qg];have:=Rm (λr:Row=>decide (r.1=p)) rs;omega
 refine ai (oO 3 CR hr (ah (ba.im (bE (own:=["row"]) (fr:=["part"]) (ix:=[1]) (p:=λr=>decide (r.1=p)) (f:=λr=>(r.2.1,r.2.2.1)) (bA (so:=ao Fo) (N0:=HV) rfl rfl (λx h=>bb h) (by decide +kernel)) (br (aa 0 rfl))
  (λC s H ex=>aP 0) (λx=>⟨.inr rfl,.inl rfl,trivial⟩) (λC s H ex x hx=>gF (aA fT (sr (aa 0 rfl)) (aa 1 rfl))) (λC s H ex x hx _=>sU (ah (oH (aa 0 rfl)) (ah (sk (aa 0 rfl)) ax))))) (ah (dO hB) ax)) ⟨_,_,rfl,lf _,rfl⟩ ?_)
 rintro kv1 ⟨n1,e1⟩;refine ai (oO 4 CR hr (ah (ba.im (bE (own:=["row"]) (fr:=["part"]) (ix:=[1]) (p:=λr=>decide (r.1=p)) (f:=λr=>(r.2.2.1,r.2.1)) (bA (so:=ao Fo) (N0:=HV) rfl rfl (λx h=>bb h) (by decide +kernel)) (br (aa 0 rfl))
  (λC s H ex=>aP 0) (λx=>⟨.inr rfl,.inl rfl,trivial⟩) (λC s H ex x hx=>gF (aA fT (sr (aa 0 rfl)) (aa 1 rfl))) (λC s H ex x hx _=>sU (ah (sk (aa 0 rfl)) (ah (oH (aa 0 rfl)) ax))))) (ah (dO hE) ax)) ⟨_,_,rfl,lf _,rfl⟩ ?_)
 rintro kv2 ⟨n2,e2⟩;refine aj (aN (gT (fu fT (sF M.len (aa 3 rfl)) (aa 2 rfl)) (λ_=>iG (fu fT (sF M.len (aa 4 rfl)) (aa 2 rfl)))) ?_);have q1:=n6 (n:=n) n1 e1;have q2:=n6 (n:=n) n2 e2;rw[Qg] at q1 q2;show(decide ((kv1.length:Int)=n)&&decide ((kv2.length:Int)=n))=su rs p n;rw[q1,q2];rfl
abbrev B9:Stmt:=top Cn
abbrev Fn:PJ:=["web","places","rows"]
noncomputable def mH (v:lB):Bool:=
 if !nh v then false
 else if !((v.2.filter λ_=>true).map (mT v.1)).all id then false
 else if !(((ups (0+1) ((v.1.length:Int)-(0+1)).toNat).filter λ_=>true).map (called v.2)).all id then false
 else(((nums v.1).filter λ_=>true).map λx=>su v.2 x.1 x.2).all id
def M0:cS:=λK ps T=>∃v:lB,ps=[⟨u7,v⟩]/\v.1.length<=1000/\v.2.length<=1000/\T=cU K bM (· =mH v)
theorem L1 (M:lD mg)(C1:aE P w K mg base "has_web_form" 4 (aM NK K))(C2:aE P w K mg base "has_web_sizes" 1 (aM Ol K))(C3:aE P w K mg base "leads_within" 1 (aM Oh K))(C4:aE P w K mg base "is_called" 1 (aM Oi K))(C5:aE P w K mg base "lies_on_ways" 2 (aM Oa K))(Df:Def K mg "is_web" B9 ["web"]):aE P w K mg base "is_web" 5 (aM M0 K):=by
 have C2:=C2.mono (show 1<=4 by decide);have C3:=C3.mono (show 1<=4 by decide);have C4:=C4.mono (show 1<=4 by decide);have C5:=C5.mono (show 2<=4 by decide);have nd1:Qz [("row":Str),"places"]:=by decide
 have nd2:Qz [("part":Str),"rows"]:=by decide
 have nd3:Qz [("part":Str),"size","rows"]:=by decide
 obtain⟨t1,hFP⟩:=M.X1;refine bD (N:=Fn) Df (λf V2 A outer s H E qs T nd hr hS=>?_);obtain⟨v,rfl,l1,l2,rfl⟩:=hS;change WS _ _ [.im u7 v,.no,.no] _ _;refine ai (a8 (TW.tv (gu (dh (bL (aI C1 hr (ah (aa 0 rfl) ax) ⟨v,rfl,rfl⟩))) (λ_=>fF (dh (bL (aI C2 hr (ah (aa 0 rfl) ax) ⟨v,rfl,rfl⟩)))))) (λh=>?_) (λh=>aF ?_))
 ·have h:(!nh v)=true:=by simpa using h
  exact aj (aN eM (by rw[mH,VQ h]))
 have h1:(!nh v)=false:=by simpa using h
 refine ai (bg 1 (nZ (r:=ae ag) (r':=ae cX) (aa 0 rfl)) (ai (bg 2 (jC (r:=ae ag) (r':=ae cX) (aa 0 rfl)) ?_)));refine ai (a8 (dh (bL (jI M.all (ba.im (bE (own:=["row"]) (fr:=["places"]) (ix:=[1]) (p:=λ_=>true) (f:=mT v.1) (bA (so:=ao B9) (N0:=Fn) rfl rfl (λx h=>bb h) (by decide +kernel)) (br (aa 2 rfl))
  (λC s H ex=>aP 0) (λx=>⟨.inr rfl,.inl rfl,trivial⟩) (λC s H ex x hx=>dk) (λC s H ex x hx _=>aI C3 hr (ah (aa 1 rfl) (ah (aa 0 rfl) ax)) ⟨_,_,rfl,rfl⟩)))))) (λh=>?_) (λh=>aF ?_))
 ·exact aj (aN eM (by rw[mH,VP (by rw[h1];decide),VQ h]))
 have h2:=h;refine ai (a8 (dh (bL (jI M.all (ba.im (bE (own:=["part"]) (fr:=["rows"]) (ix:=[2]) (p:=λ_=>true) (f:=called v.2) (bA (so:=ao B9) (N0:=Fn) rfl rfl (λx h=>bb h) (by decide +kernel)) (tE M.range (ck (dO hFP) ev_int) (dy M.len (aa 1 rfl)) ⟨by decide,by decide,by omega,by omega⟩)
  (λC s H ex=>aP 0) (λx=>⟨.inr rfl,.inl rfl,trivial⟩) (λC s H ex x hx=>dk) (λC s H ex x hx _=>aI C4 hr (ah (aa 1 rfl) (ah (aa 0 rfl) ax)) ⟨_,_,rfl,rfl⟩)))))) (λh=>?_) (λh=>aF ?_))
 ·exact aj (aN eM (by rw[mH,VP (by rw[h1];decide),VP (by rw[h2];decide),VQ h]))
 have h3:=h;refine aj (aN (jI M.all (ba.im (bE (own:=["part","size"]) (fr:=["rows"]) (ix:=[2]) (p:=λ_=>true) (f:=λx=>su v.2 x.1 x.2) (bA (so:=ao B9) (N0:=Fn) rfl rfl (λx h=>bb h) (by decide +kernel)) (ic M.enumerate (aa 1 rfl))
  (λC s H ex=>eN 0 1) (λx=>⟨.inr rfl,.inr rfl,.inl rfl,trivial⟩) (λC s H ex x hx=>dk) (λC s H ex x hx _=>aI C5 hr (ah (aa 2 rfl) (ah (aa 0 rfl) (ah (aa 1 rfl) ax))) ⟨_,_,_,rfl,l2,rfl⟩)))) ?_)
 rw[mH,VP (by rw[h1];decide),VP (by rw[h2];decide),VP (by rw[h3];decide)]
section
variable {P:α->Prop}
def JJ (v:lB):Prop:=v.1.length<=4/\v.2.length<=60/\mH v=true
theorem fh {a b:List α}:(∀r∈a++b,P r)↔(∀r∈a,P r)/\∀r∈b,P r:=
 ⟨λh=>⟨λr hr=>h r (Qs _ hr),λr hr=>h r (Qn _ hr)⟩,λh r hr=>(Qr.mp hr).elim (h.1 r) (h.2 r)⟩
theorem kj {a b:α}:(∀r∈[a,b],P r)↔P a/\P b:=by simp
theorem km {a:α}:(∀r∈[a],P r)↔P a:=by simp
end
section
variable {m:Int}{Q:Int->Prop}
abbrev QR (Q:Int->Prop)(r:nD):Prop:=Q r.2.2.1/\Q r.2.2.2.1
mutual
theorem teT (h1:Q (-1)):∀(t:Th)(lp:Bool)(k af lq:Int),bO lo m lp t->Q af->(lp=true->Q lq)->(∀r∈bJ t k af lq,Q r.2.2.2.1->Q r.2.2.1)->(∀r∈bJ t k af lq,QR Q r)/\(t≠ .leave/\t≠ .back->Q k)
 | .Wi x,lp,k,af,lq,_,ha,_,hc=>by
   rw[bJ,km] at hc ⊢;exact⟨⟨hc ha,ha⟩,λ_=>hc ha⟩
 | .call x,lp,k,af,lq,_,ha,_,hc=>by
   rw[bJ,km] at hc ⊢;exact⟨⟨hc ha,ha⟩,λ_=>hc ha⟩
 | .leave,lp,k,af,lq,_,_,_,_=>by rw[bJ];exact⟨(λr h=>by cases h),λh=>VO rfl h.1⟩
 | .back,lp,k,af,lq,_,_,_,_=>by rw[bJ];exact⟨(λr h=>by cases h),λh=>VO rfl h.2⟩
 | .V5 x A,lp,k,af,lq,ho,ha,hl,hc=>by
   simp only[bO] at ho;rw[bJ,fh,kj] at hc ⊢;have hk:Q k:=hc.1.2 ha;obtain⟨a1,a2⟩:=xZ h1 A true (k+1) k af ho.2 hk (λ_=>ha) hc.2;exact⟨⟨⟨⟨hk,a2⟩,hk,ha⟩,a1⟩,λ_=>hk⟩
 | .ifs x A B,lp,k,af,lq,ho,ha,hl,hc=>by
   simp only[bO] at ho;rw[bJ,fh,kj,fh] at hc ⊢;obtain⟨a1,a2⟩:=xZ h1 A lp (k+1) af lq ho.2.1 ha hl hc.2.1;obtain⟨b1,b2⟩:=xZ h1 B lp (k+1+eo A) af lq ho.2.2 ha hl hc.2.2;have hk:Q k:=hc.1.1 a2;exact⟨⟨⟨⟨hk,a2⟩,hk,b2⟩,a1,b1⟩,λ_=>hk⟩
theorem xZ (h1:Q (-1)):∀(ts:List Th)(lp:Bool)(k bh lq:Int),bz lo m lp ts->Q bh->(lp=true->Q lq)->(∀r∈cC ts k bh lq,Q r.2.2.2.1->Q r.2.2.1)->(∀r∈cC ts k bh lq,QR Q r)/\Q (jh ts k bh lq)
 | [],lp,k,bh,lq,_,hb,_,_=>by rw[cC];exact⟨λr h=>(by cases h),hb⟩
 | t::ts,lp,k,bh,lq,ho,hb,hl,hc=>by
   simp only[bz] at ho;rw[cC,fh] at hc ⊢;obtain⟨b1,b2⟩:=xZ h1 ts lp (k+eI t) bh lq ho.2.2 hb hl hc.2;obtain⟨a1,a2⟩:=teT h1 t lp k _ lq ho.1 b2 hl hc.1;refine⟨⟨a1,b1⟩,?_⟩;by_cases q:t= .leave
   ·subst q;have:=ho.1;simp only[bO] at this;exact hl this
   by_cases q':t= .back
   ·subst q';exact h1
   rw[sC ⟨q,q'⟩];exact a2 ⟨q,q'⟩
end
mutual
theorem frT:∀(t:Th)(lp:Bool)(k af lq:Int),bO lo m lp t->(t≠ .leave/\t≠ .back->Q k)->(∀r∈bJ t k af lq,Q r.2.2.1->Q r.2.2.2.1)->(∀r∈bJ t k af lq,QR Q r)/\(dI t=true->Q af)
 | .Wi x,lp,k,af,lq,_,hk,hc=>by
   have hk:=hk ⟨(λe=>by cases e),(λe=>by cases e)⟩;rw[bJ,km] at hc ⊢;exact⟨⟨hk,hc hk⟩,λ_=>hc hk⟩
 | .call x,lp,k,af,lq,_,hk,hc=>by
   have hk:=hk ⟨(λe=>by cases e),(λe=>by cases e)⟩;rw[bJ,km] at hc ⊢;exact⟨⟨hk,hc hk⟩,λ_=>hc hk⟩
 | .leave,lp,k,af,lq,_,_,_=>by rw[bJ];exact⟨(λr h=>by cases h),λh=>by simp[dI] at h⟩
 | .back,lp,k,af,lq,_,_,_=>by rw[bJ];exact⟨(λr h=>by cases h),λh=>by simp[dI] at h⟩
 | .V5 x A,lp,k,af,lq,ho,hk,hc=>by
   have hk:=hk ⟨(λe=>by cases e),(λe=>by cases e)⟩;simp only[bO] at ho;rw[bJ,fh,kj] at hc ⊢;obtain⟨a1,_⟩:=BB A true (k+1) k af ho.2 (hc.1.1 hk) hc.2;exact⟨⟨⟨⟨hk,hc.1.1 hk⟩,hk,hc.1.2 hk⟩,a1⟩,λ_=>hc.1.2 hk⟩
 | .ifs x A B,lp,k,af,lq,ho,hk,hc=>by
   have hk:=hk ⟨(λe=>by cases e),(λe=>by cases e)⟩;simp only[bO] at ho;rw[bJ,fh,kj,fh] at hc ⊢;obtain⟨a1,a2⟩:=BB A lp (k+1) af lq ho.2.1 (hc.1.1 hk) hc.2.1;obtain⟨b1,b2⟩:=BB B lp (k+1+eo A) af lq ho.2.2 (hc.1.2 hk) hc.2.2;refine⟨⟨⟨⟨hk,hc.1.1 hk⟩,hk,hc.1.2 hk⟩,a1,b1⟩,λhp=>?_⟩;simp only[dI,P2] at hp;exact hp.elim a2 b2
theorem BB:∀(ts:List Th)(lp:Bool)(k bh lq:Int),bz lo m lp ts->Q (jh ts k bh lq)->(∀r∈cC ts k bh lq,Q r.2.2.1->Q r.2.2.2.1)->(∀r∈cC ts k bh lq,QR Q r)/\(c7 ts=true->Q bh)
 | [],lp,k,bh,lq,_,he,_=>by rw[cC];exact⟨λr h=>(by cases h),λ_=>he⟩
 | t::ts,lp,k,bh,lq,ho,he,hc=>by
   simp only[bz] at ho;rw[cC,fh] at hc ⊢;rw[c7];obtain⟨a1,a2⟩:=frT t lp k _ lq ho.1 (λh=>by rw[sC h] at he;exact he) hc.1;cases hp:dI t with
   | true=>
     obtain⟨b1,b2⟩:=BB ts lp (k+eI t) bh lq ho.2.2 (a2 hp) hc.2;exact⟨⟨a1,b1⟩,λh=>b2 (by simpa using h)⟩
   | false=>
     obtain rfl:=ho.2.1.resolve_left (by rw[hp];exact PX);rw[cC];exact⟨⟨a1,λr h=>by cases h⟩,λh=>by simp at h⟩
end
end
theorem Br (h:(F.map (·.1)).Nodup)(k:Int):((cH F k).map (·.1)).Nodup:=by
 unfold cH;by_cases q:(aW F k).isSome=true
 ·rw[VQ q];exact h
 ·rw[VP q,Qv];exact ib h λw=>q (gD.mpr w)
theorem ya {k x:Int}(h:x∈(cH F k).map (·.1)):x∈F.map (·.1)∨x=k:=by
 unfold cH at h;split at h
 ·exact .inl h
 ·rw[Qv] at h;exact(Qr.mp h).imp id λw=>Qe.mp w
def wD (rs:List nD)(F:PR):PR:=rs.foldl (λF r=>iJ F r.2.2.1 r.2.2.2.1) F
theorem BF:∀{rs:List nD}{F:PR},Ix F->(F.map (·.1)).Nodup->Ix (wD rs F)/\((wD rs F).map (·.1)).Nodup/\F <+:wD rs F/\(∀x∈(wD rs F).map (·.1),x∈F.map (·.1)∨∃r∈rs,x=r.2.2.1∨x=r.2.2.2.1)/\∀r∈rs,r.2.2.1∈(wD rs F).map (·.1)/\r.2.2.2.1∈(wD rs F).map (·.1)
 | [],F,hi,hn=>⟨hi,hn,List.prefix_refl F,λx h=>.inl h,λr h=>by cases h⟩
 | r::rs,F,hi,hn=>by
   obtain⟨a,b,c,d,e⟩:=BF (rs:=rs) (F:=iJ F r.2.2.1 r.2.2.2.1) ((hi.put _).put _) (Br (Br hn _) _);have p1:=(mE (cH F r.2.2.1) r.2.2.2.1).trans c;refine⟨a,b,(mE F r.2.2.1).trans p1,λx hx=>?_,λq hq=>?_⟩
   ·rcases d x hx with h | ⟨q,hq,h⟩
    ·rcases ya h with h | h
     ·exact(ya h).imp id λh=>⟨r,Qk,.inl h⟩
     ·exact .inr ⟨r,Qk,.inr h⟩
    ·exact .inr ⟨q,Qi _ hq,h⟩
   ·rcases Qq.mp hq with rfl | hq
    ·exact⟨(p1.map _).subset (oz F _),(c.map _).subset (oz _ _)⟩
    ·exact e q hq
theorem Ad {fs:PR}(hx:∀a b,(a,b)∈es->(b,a)∈fs){a b:Int}(h:Fc.Reach es a b):Fc.Reach fs b a:=by
 have tr:∀{x y z:Int},Fc.Reach fs x y->Fc.Reach fs y z->Fc.Reach fs x z:=λh1 h2=>by
  induction h2 with
  | base=>exact h1
  | step _ m ih=>exact ih.step m
 induction h with
 | base=>exact .base
 | step _ m ih=>exact tr (Fc.Reach.base.step (hx _ _ m)) ih
section
variable {m:Int}
mutual
theorem rbT:∀(t:Th)(lp:Bool)(k af lq:Int),bO lo m lp t->(bJ t k af lq).length=bX t/\eI t<=bX t/\∀r∈bJ t k af lq,(k<=r.2.2.1/\r.2.2.1<k+eI t)/\(r.2.2.2.2= -1∨lo<r.2.2.2.2/\r.2.2.2.2<m)
 | .Wi x,lp,k,af,lq,_=>by rw[bJ,km];simp[bX,eI];omega
 | .call x,lp,k,af,lq,ho=>by simp only[bO] at ho;rw[bJ,km];simp[bX,eI];omega
 | .leave,lp,k,af,lq,_=>by simp[bJ,bX,eI]
 | .back,lp,k,af,lq,_=>by simp[bJ,bX,eI]
 | .V5 x A,lp,k,af,lq,ho=>by
   simp only[bO] at ho;obtain⟨a1,a2,a3⟩:=B5 A true (k+1) k af ho.2;rw[bJ,fh,kj,bX,eI];refine⟨by simp[a1];omega,by omega,⟨⟨⟨?_,?_⟩,.inl rfl⟩,⟨?_,?_⟩,.inl rfl⟩,λr hr=>⟨?_,(a3 r hr).2⟩⟩<;>try (dsimp only;omega)
   have:=(a3 r hr).1;omega
 | .ifs x A B,lp,k,af,lq,ho=>by
   simp only[bO] at ho;obtain⟨a1,a2,a3⟩:=B5 A lp (k+1) af lq ho.2.1;obtain⟨b1,b2,b3⟩:=B5 B lp (k+1+eo A) af lq ho.2.2;rw[bJ,fh,kj,fh,bX,eI];refine⟨by simp[a1,b1];omega,by omega,⟨⟨⟨?_,?_⟩,.inl rfl⟩,⟨?_,?_⟩,.inl rfl⟩,λr hr=>⟨?_,(a3 r hr).2⟩,λr hr=>⟨?_,(b3 r hr).2⟩⟩<;>try (dsimp only;omega)
   ·have:=(a3 r hr).1;omega
   ·have:=(b3 r hr).1;omega
theorem B5:∀(ts:List Th)(lp:Bool)(k bh lq:Int),bz lo m lp ts->(cC ts k bh lq).length=bR ts/\eo ts<=bR ts/\∀r∈cC ts k bh lq,(k<=r.2.2.1/\r.2.2.1<k+eo ts)/\(r.2.2.2.2= -1∨lo<r.2.2.2.2/\r.2.2.2.2<m)
 | [],lp,k,bh,lq,_=>by simp[cC,bR,eo]
 | t::ts,lp,k,bh,lq,ho=>by
   simp only[bz] at ho;obtain⟨a1,a2,a3⟩:=rbT t lp k (jh ts (k+eI t) bh lq) lq ho.1;obtain⟨b1,b2,b3⟩:=B5 ts lp (k+eI t) bh lq ho.2.2;rw[cC,fh,bR,eo,Qj];refine⟨by omega,by omega,λr hr=>⟨?_,(a3 r hr).2⟩,λr hr=>⟨?_,(b3 r hr).2⟩⟩
   ·have:=(a3 r hr).1;omega
   ·have:=(b3 r hr).1;omega
end
theorem yT {x:Int}:∀{ts:List Th}{k bh lq:Int},Th.call x∈ts->∃r∈cC ts k bh lq,r.2.2.2.2=x
 | t::ts,k,bh,lq,h=>by
   rw[cC];rcases Qq.mp h with rfl | h
   ·exact⟨_,Qs _ (by rw[bJ];exact List.mem_singleton_self _),rfl⟩
   ·obtain⟨r,hr,e⟩:=yT (k:=k+eI t) (bh:=bh) (lq:=lq) h;exact⟨r,Qn _ hr,e⟩
end
variable {j:Nat}
section
variable {VW:PJ}
theorem wL (h:cy VW Ls)(hj:j<Ls.length){r:nD}(hr:r∈bF Ls j):dM j (bK Ls j) r∈(cu Ls).2:=Rj.mpr ⟨j,QU.mpr hj,Qw.mpr ⟨r,hr,rfl⟩⟩
structure PaL (Ls:List (List Th))(j:Nat)(L:List Th):Prop where
 ok:bz (j:Int) (Ls.length:Int) false L
 rs:bF Ls j=cC L (Wa Ls j:Int) (-1) 0
 en:jh L (Wa Ls j:Int) (-1) 0=(Wa Ls j:Int)
 ln:(bF Ls j).length=bR L
 ne:1<=bR L
 cl:∀r∈bF Ls j,r.2.2.2.2= -1∨(j:Int)<r.2.2.2.2/\r.2.2.2.2<(Ls.length:Int)
 ix:Ix (bK Ls j)
 F0:(bK Ls j)[0]?=some ((Wa Ls j:Int),0)
 F1:(bK Ls j)[1]?=some (-1,1)
 le:(bK Ls j).length<=16
 num:∀{i:Nat}{x v:Int},(bK Ls j)[i]?=some (x,v)->(aW (bK Ls j) x).getD 0=(i:Int)
 key:∀x∈(bK Ls j).map (·.1),(x=(Wa Ls j:Int)∨x= -1)∨∃r∈bF Ls j,x=r.2.2.1∨x=r.2.2.2.1
 ZG:∀r∈bF Ls j,r.2.2.1∈(bK Ls j).map (·.1)/\r.2.2.2.1∈(bK Ls j).map (·.1)
 val:∀r∈bF Ls j,(0<=(aW (bK Ls j) r.2.2.1).getD 0/\(aW (bK Ls j) r.2.2.1).getD 0<((bK Ls j).length:Int))/\(0<=(aW (bK Ls j) r.2.2.2.1).getD 0/\(aW (bK Ls j) r.2.2.2.1).getD 0<((bK Ls j).length:Int))/\(aW (bK Ls j) r.2.2.1).getD 0≠1
theorem m9 (h:cy VW Ls)(hL:Ls[j]?=some L):PaL Ls j L:=by
 have ho:=h.ok j L hL;have hm:=Qm hL;have hg:Ls.getD j []=L:=by rw[Qh,hL];rfl
 have hrs:bF Ls j=cC L (Wa Ls j:Int) (-1) 0:=by unfold bF;rw[hg]
 obtain⟨YY,Wx⟩:jh L (Wa Ls j:Int) (-1) 0=(Wa Ls j:Int)/\1<=bR L:=by
  obtain⟨t,ts,rfl,hb⟩:=h.hd L hm;cases t<;>simp[bz,bO,nW,jh,bR,bX] at ho hb ⊢<;>omega
 obtain⟨b1,b2,b3⟩:=B5 L false (Wa Ls j:Int) (-1) 0 ho;obtain⟨te,_⟩:=xZ (Q:=λx=>x= -1∨(Wa Ls j:Int)<=x/\x<(Wa Ls j:Int)+eo L) (.inl rfl) L false (Wa Ls j:Int) (-1) 0 ho (.inl rfl) (λe=>by cases e) (λr hr _=>.inr (b3 r hr).1);rw[← hrs] at b1 b3 te;have n1:1<=eo L:=by
  cases e:bF Ls j with
  | nil=>rw[e] at b1;simp at b1;omega
  | cons r rs=>have:=(b3 r (by rw[e];exact Qk)).1;omega
 obtain⟨ix,nd,⟨tl,htl⟩,keys,ZG⟩:=BF (rs:=bF Ls j) (Ki (Wa Ls j:Int) (-1)) (QF.mpr ⟨λw=>by have:(Wa Ls j:Int)= -1:=Qe.mp w;omega,QF.mpr ⟨by simp,RC⟩⟩);have hF:wD (bF Ls j) [((Wa Ls j:Int),(0:Int)),(-1,1)]=bK Ls j:=rfl;rw[hF] at ix nd htl keys ZG;have F0:(bK Ls j)[0]?=some ((Wa Ls j:Int),0):=by rw[← htl];rfl
 have F1:(bK Ls j)[1]?=some (-1,1):=by rw[← htl];rfl
 have num:∀{i:Nat}{x v:Int},(bK Ls j)[i]?=some (x,v)->(aW (bK Ls j) x).getD 0=(i:Int):=λ{i x v} hi=>by
  have hv:v=(i:Int):=ix i _ hi;subst hv;rw[xu nd (Qm hi)];rfl
 have key:∀x∈(bK Ls j).map (·.1),(x=(Wa Ls j:Int)∨x= -1)∨∃r∈bF Ls j,x=r.2.2.1∨x=r.2.2.2.1:=λx hx=>(keys x hx).imp (λw=>by simpa using w) id;have le:=v8 nd (m:= -1::ups (Wa Ls j:Int) (eo L)) λx hx=>by
  have:x= -1∨(Wa Ls j:Int)<=x/\x<(Wa Ls j:Int)+eo L:=by
   rcases key x hx with(rfl | rfl) | ⟨r,hr,rfl | rfl⟩
   ·exact .inr ⟨Qa _,by omega⟩
   ·exact .inl rfl
   ·exact(te r hr).1
   ·exact(te r hr).2
  rcases this with rfl | w
  ·exact Qk
  ·unfold ups;exact Qi _ (Qw.mpr ⟨(x-Wa Ls j).toNat,QU.mpr (by omega),by omega⟩)
 rw[Qg,Qo,bU] at le;have:=h.rw L hm;refine⟨ho,hrs,YY,b1,Wx,λr hr=>(b3 r hr).2,ix,F0,F1,by omega,num,key,ZG,λr hr=>?_⟩;obtain⟨i,e,il,fi⟩:=ix.val (ZG r hr).1;obtain⟨i',e',il',_⟩:=ix.val (ZG r hr).2;rw[e,e'];show(0<=(i:Int)/\(i:Int)<_)/\(0<=(i':Int)/\(i':Int)<_)/\(i:Int)≠1;refine⟨by omega,by omega,λc=>?_⟩;rw[show i=1 by omega,F1] at fi;have:=congrArg Prod.fst (Option.some.inj fi);have:=(b3 r hr).1;dsimp only at *;omega
theorem JW (h:cy VW Ls)(hL:Ls[j]?=some L):su (cu Ls).2 (j:Int) ((bK Ls j).length:Int)=true:=by
 have po:=m9 h hL;have hj:=(Qc.mp hL).1;have back:∀q∈(cu Ls).2,q.1=(j:Int)->∃r∈bF Ls j,q=dM j (bK Ls j) r:=λq hq e=>by
  obtain⟨i,_,hq⟩:=Rj.mp hq;obtain⟨r,hr,rfl⟩:=Qw.mp hq;have e:(i:Int)=(j:Int):=e;obtain rfl:i=j:=by omega
  exact⟨r,hr,rfl⟩
 have edge:∀r∈bF Ls j,dM j (bK Ls j) r∈(cu Ls).2.filter λr=>decide (r.1=(j:Int)):=λr hr=>QT.mpr ⟨wL h hj hr,VT rfl⟩;obtain⟨te,te0⟩:=xZ (Q:=λx=>Fc.Reach (bwd (cu Ls).2 (j:Int)) 1 ((aW (bK Ls j) x).getD 0)) (by rw[po.num po.F1];exact .base) L false (Wa Ls j:Int) (-1) 0 po.ok (by rw[po.num po.F1];exact .base) (λe=>by cases e) (λr hr hq=>by rw[← po.rs] at hr;exact hq.step (Qw.mpr ⟨_,edge r hr,rfl⟩));obtain⟨fr,_⟩:=BB (Q:=λx=>Fc.Reach (fwd (cu Ls).2 (j:Int)) 0 ((aW (bK Ls j) x).getD 0)) L false (Wa Ls j:Int) (-1) 0 po.ok (by rw[po.en,po.num po.F0];exact .base) (λr hr hq=>by rw[← po.rs] at hr;exact hq.step (Qw.mpr ⟨_,edge r hr,rfl⟩));rw[← po.rs] at te fr;rw[po.en,po.num po.F0] at te0;have f1:Fc.Reach (fwd (cu Ls).2 (j:Int)) 0 1:=Ad (λa b X8=>by
  obtain⟨q,hq,e⟩:=Qw.mp X8;exact Qw.mpr ⟨q,hq,by cases e;rfl⟩) te0
 have all:∀{es:PR}{s:Int},0<=s/\s<2->(∀a b,(a,b)∈es->0<=b/\b<((bK Ls j).length:Int))->Fc.Reach es s 0->Fc.Reach es s 1->(∀r∈bF Ls j,QR (λx=>Fc.Reach es s ((aW (bK Ls j) x).getD 0)) r)->oh es s ((bK Ls j).length:Int)=true:=λ{es s} s1 Xm r0 r1 hre=>by
  have l1:1<(bK Ls j).length:=(Qc.mp po.F1).1;refine(n6 (ks:=ups 0 (bK Ls j).length) (List.pairwise_map.mpr (List.nodup_range.imp λh e=>h (by omega))) λk=>⟨λhk=>?_,λhk=>?_⟩).symm.trans (VT (by rw[bU]))
  ·obtain⟨i,hi⟩:=Qu.mp hk;obtain⟨il,rfl⟩:=fJ hi;obtain⟨⟨x,v⟩,hi⟩:∃y,(bK Ls j)[i]?=some y:=⟨_,Qd il⟩;rw[show(0:Int)+(i:Int)=(i:Int) by omega,← po.num hi];rcases po.key _ (Qw.mpr ⟨_,Qm hi,rfl⟩) with(rfl | rfl) | ⟨r,WY,rfl | rfl⟩
   ·rw[po.num po.F0];exact r0
   ·rw[po.num po.F1];exact r1
   ·exact(hre r WY).1
   ·exact(hre r WY).2
  ·have:0<=k/\k<((bK Ls j).length:Int):=hk.sub (P:=λk=>0<=k/\k<((bK Ls j).length:Int)) ⟨by omega,by omega⟩ λa b _ X8=>Xm a b X8;unfold ups;exact Qw.mpr ⟨k.toNat,QU.mpr (by omega),by omega⟩
 have ini:∀q∈(cu Ls).2.filter λr=>decide (r.1=(j:Int)),(0<=q.2.1/\q.2.1<((bK Ls j).length:Int))/\0<=q.2.2.1/\q.2.2.1<((bK Ls j).length:Int):=λq hq=>by
  obtain⟨ZJ,hq2⟩:=QT.mp hq;obtain⟨r,hr,rfl⟩:=back q ZJ (VR hq2);exact⟨(po.val r hr).1,(po.val r hr).2.1⟩
 unfold su;rw[all (by decide) (λa b X8=>by
     obtain⟨q,hq,e⟩:=Qw.mp X8;cases e;exact(ini q hq).2) .base f1 fr,all (by decide) (λa b X8=>by
     obtain⟨q,hq,e⟩:=Qw.mp X8;cases e;exact(ini q hq).1) te0 .base te]
 rfl
theorem mK (hj:j<Ls.length):Ls[j]?=some (Ls.getD j []):=by rw[Qh,Qd hj];rfl
theorem An (h:cy VW Ls):(cu Ls).2.length=(Ls.map bR).sum:=by
 unfold cu;rw[List.length_flatMap];congr 1;refine Q0 λj=>?_;by_cases hj:j<Ls.length
 ·rw[Ql,Ql,QQ hj,mK hj];exact congrArg some ((Qg ..).trans (m9 h (mK hj)).ln)
 ·rw[QH (by simp;omega),QH (by simp;omega)]
theorem rj {f:α->Bool}{l:List α}(h:∀x∈l,f x=true):((l.filter λ_=>true).map f).all id=true:=Ry.mpr λb hb=>by
 obtain⟨x,hx,rfl⟩:=Qw.mp hb;exact h x (QT.mp hx).1
theorem I0 (h:cy VW Ls):JJ (cu Ls):=by
 have vl:(cu Ls).1.length=Ls.length:=by unfold cu;simp
 have l1:=h.l1;have l4:=h.l4;have rl:=An h;have r1:1<=(cu Ls).2.length:=by
  have p:=m9 h (mK (j:=0) (by omega));cases e:bF Ls 0 with
  | nil=>have:=p.ln;have:=p.ne;rw[e] at *;simp at *;omega
  | cons r rs=>exact RS (wL h (j:=0) (by omega) (r:=r) (by rw[e];exact Qk))
 have ZY:=h.ZY;refine⟨by omega,by omega,?_⟩;have szj:∀j,j<Ls.length->(cu Ls).1[j]?=some ((bK Ls j).length:Int):=λj hj=>by unfold cu;rw[Ql,QQ hj];rfl
 unfold mH;rw[VP,VP,VP]
 ·exact rj λx hx=>by
   obtain⟨i,hi⟩:=Qu.mp hx;obtain⟨e1,e2⟩:=fb hi;have il:=(Qc.mp e2).1;rw[szj i (by omega)] at e2;rw[e1,← Option.some.inj e2];exact JW h (mK (by omega))
 ·rw[rj λp hp=>?_];· decide
  obtain⟨i,hi⟩:=Qu.mp hp;obtain⟨il,rfl⟩:=fJ hi;obtain⟨L,hL,hc⟩:=h.cl (i+1) (by omega) (by omega);obtain⟨j,hj⟩:=Qu.mp hL;obtain⟨r,hr,er⟩:=yT (k:=(Wa Ls j:Int)) (bh:= -1) (lq:=0) hc;rw[← (m9 h hj).rs] at hr;unfold called;rw[Rz];exact⟨true,Qw.mpr ⟨_,QT.mpr ⟨wL h (Qc.mp hj).1 hr,rfl⟩,VT (by show r.2.2.2.2=_;rw[er];push_cast;omega)⟩,rfl⟩
 ·rw[rj λr hr=>?_];· decide
  obtain⟨j,hj,hr⟩:=Rj.mp hr;obtain⟨q,hq,rfl⟩:=Qw.mp hr;have hj:=QU.mp hj;have po:=m9 h (mK hj);obtain⟨a,b,c⟩:=po.val q hq;have d:=po.cl q hq;have e:(cu Ls).1.getD j 0=((bK Ls j).length:Int):=by rw[Qh,szj j hj];rfl
  unfold mT dM;dsimp only;rw[vl,show((j:Nat):Int).toNat=j by omega,e];simp[a.1,a.2,b.1,b.2,c,hj];omega
 ·unfold nh;rw[VP (by simp[vl];omega),rj λn hn=>?_];· decide
  obtain⟨j,hj,rfl⟩:=Qw.mp hn;have po:=m9 h (mK (QU.mp hj));have:=po.le;have:=(Qc.mp po.F1).1;simp;omega
end
def Yt (Ls:List (List Th))(i:Nat):List Row:=(Qt i).flatMap λj=>(bF Ls j).map (dM j (bK Ls j))
theorem IP (Ls:List (List Th))(hi:i<=Ls.length):(Yt Ls i).length<=(cu Ls).2.length:=by
 show(Yt Ls i).length<=((Qt Ls.length).flatMap λj=>(bF Ls j).map (dM j (bK Ls j))).length;unfold Yt;obtain⟨d,hd⟩:∃d,Ls.length=i+d:=⟨Ls.length-i,by omega⟩;rw[hd,List.range_add,Rl,Qj];omega
theorem JI (h:j<Ls.length):(fU Ls)[j]?=some (lK Ls j):=by
 unfold fU;rw[Ql,QQ h];rfl
abbrev J5:Stmt:=top xo
abbrev M7:PJ:=["_law_mapped_here","_law_rows_here","_law_part","_law_word","_law_name_here","_law_one","_law_other","_law_calls"]
def Ng:cS:=λK ps T=>∃(VW:PJ)(Ls:List (List Th)),ps=[⟨ae gq,fU Ls⟩]/\cy VW Ls/\T=cU K aq (· =V9 (cu Ls))
theorem Ml (M:cD K mg)(Df:Def K mg "_law_web" J5 ["_law_mapped_here"]):aE P w K mg base "_law_web" 1 (aM Ng K):=by
 have Xq:Qz [("_law_some":Str),"_law_known"]:=by decide
 refine bD (N:=M7) (k:=0) Df (λf V2 A outer s H E qs T nd hr hS=>?_);obtain⟨VW,Ls,rfl,hP,rfl⟩:=hS;have hu:=ru hr;have n30:=An hP;have ZY:=hP.ZY;have l4:=hP.l4;have ml:(fU Ls).length=Ls.length:=by unfold fU;rw[Qg,QN]
 change WS _ _ [.im (ae gq) (fU Ls),.no,.no,.no,.no,.no,.no,.no] _ _;refine ai (cR 1 (r:=aq) (ys:=[]) (aR aL (Si _)) ?_);refine bS (N1:=λΓ=>∃e2 e3 e4 e5 e6 e7,Γ=[.im (ae gq) (fU Ls),.mu aq ((cu Ls).2.map hX),e2,e3,e4,e5,e6,e7]) (bW (λi Γ=>∃e2 e3 e4 e5 e6 e7,Γ=[.im (ae gq) (fU Ls),.mu aq ((Yt Ls i).map hX),e2,e3,e4,e5,e6,e7]) (fo M.range (dy M.len (aa 0 rfl)) ⟨by omega,by omega⟩) (aP 2) ⟨_,_,_,_,_,_,rfl⟩ (λj jj Γ hj hΓ=>?_) (λΓ hΓ=>?_)) ?_
 ·obtain⟨e2,e3,e4,e5,e6,e7,rfl⟩:=hΓ;obtain⟨jl,ej⟩:=fJ hj;obtain rfl:jj=(j:Int):=by omega
  have il:j<Ls.length:=by omega
  have WQ:cE (fU Ls) (j:Int)=some (lK Ls j):=by
   rw[gP (by omega) (by omega),P9];exact JI il
  have nx:Yt Ls (j+1)=Yt Ls j++(bF Ls j).map (dM j (bK Ls j)):=by
   unfold Yt;rw[Rt,Rl,RV]
  have n30':(Yt Ls j).length+(bF Ls j).length<=30:=by
   have:=IP Ls (i:=j+1) il;rw[nx,Qj,Qg] at this;omega
  rw[nx];generalize Yt Ls j=ys at n30';change WS _ _ [.im (ae gq) (fU Ls),.mu aq (ys.map hX),aJ (j:Int),e3,e4,e5,e6,e7] _ _;refine aj (bW (r:=wJ) (xs:=bF Ls j) (λk Γ=>∃e3 e4 e5 e6 e7,Γ=[.im (ae gq) (fU Ls),.mu aq ((ys++((bF Ls j).take k).map (dM j (bK Ls j))).map hX),aJ (j:Int),e3,e4,e5,e6,e7]) (br (nZ (a9 (aa 0 rfl) (aa 2 rfl) WQ))) (E7 3 4 5 6 7) ⟨_,_,_,_,_,by rw[Ri,RL,QC]⟩ (λk r Γ WY hΓ=>?_) (λΓ hΓ=>?_))
  ·obtain⟨e3,e4,e5,e6,e7,rfl⟩:=hΓ;have kl:=(Qc.mp WY).1;obtain⟨k1,k2⟩:=(m9 hP (mK il)).ZG r (Qm WY);have nx:(ys++((bF Ls j).take (k+1)).map (dM j (bK Ls j))).map hX=(ys++((bF Ls j).take k).map (dM j (bK Ls j))).map hX++[hX (dM j (bK Ls j) r)]:=by
    rw[QK,WY];simp only[Qv,Qy,Option.toList,QJ,RL]
   rw[nx];have yl:((ys++((bF Ls j).take k).map (dM j (bK Ls j))).map hX).length<=30:=by
    rw[Qg,Qj,Qg,QA];omega
   generalize (ys++((bF Ls j).take k).map (dM j (bK Ls j))).map hX=us at yl;obtain⟨wd,nm,o1,o2,cl⟩:=r;have k1:aW (bK Ls j) o1=some ((aW (bK Ls j) o1).getD 0):=lA (gD.mpr k1);have k2:aW (bK Ls j) o2=some ((aW (bK Ls j) o2).getD 0):=lA (gD.mpr k2);change WS _ _ [.im (ae gq) (fU Ls),.mu aq us,aJ (j:Int),.im ar wd,.im ar nm,aJ o1,aJ o2,aJ cl] _ _;exact aj (eT 1 (r:=aq) (y:=hX (dM j (bK Ls j) (wd,nm,o1,o2,cl))) (jo (ak (EV.pI (aa 2 rfl)) (ak (EV.pI (iU hu (jC (a9 (aa 0 rfl) (aa 2 rfl) WQ)) (aa 5 rfl) k1)) (ak (EV.pI (iU hu (jC (a9 (aa 0 rfl) (aa 2 rfl) WQ)) (aa 6 rfl) k2)) (ak (EV.pI (aa 7 rfl)) aL)))) (by show 4<=S8;decide)) rfl rfl (Sj yl (by decide)) ⟨_,_,_,_,_,rfl⟩)
  ·obtain⟨e3,e4,e5,e6,e7,rfl⟩:=hΓ;rw[QM];exact⟨_,_,_,_,_,_,rfl⟩
 ·obtain⟨e2,e3,e4,e5,e6,e7,rfl⟩:=hΓ;rw[bU,ml,P9];exact⟨_,_,_,_,_,_,rfl⟩
 rintro _ ⟨e2,e3,e4,e5,e6,e7,rfl⟩;refine WS.freeze 1 rfl (aT (by rw[Qg];omega)) ?_;refine aj (aN (jo (ak (EV.pLI (ba.im (bE (own:=["_law_some","_law_known"]) (fr:=[]) (ix:=[]) (ra:=gq) (rb:=ag) (p:=λ_=>true) (f:=λy=>(y.2.length:Int)) (bA (so:=ao J5) (N0:=M7) rfl rfl (λx h=>bb h) (by decide +kernel)) (br (aa 0 rfl))
  (λC s H ex=>eN 0 1) (λx=>⟨.inr rfl,.inr rfl,trivial⟩) (λC' s H ex c hc=>dk) (λC' s' H ex o ho _=>pM M.len (aa 1 rfl))))) (ak (EV.pL (aa 1 rfl)) aL)) (by show 2<=S8;decide)) ?_)
 have e:(fU Ls).map (λy=>(y.2.length:Int))=(cu Ls).1:=by unfold fU cu;rw[QY];rfl
 rw[QZ.mpr λ_ _=>rfl,e];rfl
theorem Gp (v:lB):nA (V9 v)=true:=by
 have h1:jL (v.1.map PV.int)=true:=rT λx hx=>by obtain⟨y,_,rfl⟩:=Qw.mp hx;simp[nA]
 have h2:jL (v.2.map hX)=true:=rT λx hx=>by obtain⟨y,_,rfl⟩:=Qw.mp hx;simp[hX,nA,jL]
 simp[V9,nA,jL,h1,h2]
theorem pF {n:Nat}:∀{xs:List PV},(∀x∈xs,x.deep<=n)->PV.g7 xs<=n
 | [],_=>by rw[PV.g7];exact Si _
 | x::xs,h=>by
   rw[PV.g7];have h1:=h x Qk;have h2:=pF (xs:=xs) λy hy=>h y (Qi _ hy);omega
theorem DY (v:lB):(V9 v).deep<=3:=by
 have h1:PV.g7 (v.1.map PV.int)<=0:=pF λx hx=>by obtain⟨y,_,rfl⟩:=Qw.mp hx;simp[PV.deep]
 have h2:PV.g7 (v.2.map hX)<=1:=pF λx hx=>by obtain⟨y,_,rfl⟩:=Qw.mp hx;simp[hX,PV.deep,PV.g7]
 simp only[V9,PV.deep,PV.g7];omega
abbrev rq:Stmt:=top Il
abbrev nLA:PJ:=["_law_script","_law_texts","_law_dues","_law_k","_law_names","_law_lists","_law_told"]
theorem HK:bV nLA ["_law_script"] (ao rq):=Xt
def wQ:cS:=λK ps T=>∃ns:PH,ps=[⟨c6,ns⟩]/\ns.length<=63/\(∀n∈ns,intBits n<=2 ^ 20)/\T=cU K bM (· =true)
def Xb (ns:PH)(i:Nat):Str:=Vh " " (jP (Wz ns (200*(i:Int))) (WA ns (200*(i:Int))))
def W4 (ns:PH)(i:Nat):lB:=cu (WA ns (200*(i:Int)))
theorem Ma (M:cD K mg)(CD:aE P w K mg base "_law_drawn" 17 (aM M9 K))(CT:aE P w K mg base "_law_text" 7 (aM Oo K))(CP:aE P w K mg base "_law_mapped" 7 (z5 K))(CB:aE P w K mg base "_law_web" 1 (aM Ng K))(CW:aE P w K mg base "web_of" 7 (aM JR K))(CI:aE P w K mg base "is_web" 5 (aM M0 K))(CE:aE P w K mg base "_law_same" 4 (aM (Fy 3) K))(F:dZ K "law" "law" rq f fd):eV P w K mg base eX 18 f fd ["_law_script"] (aM wQ K):=by
 have nd:=HK.nd;have CT:=CT.mono (show 7<=17 by decide);have CP:=CP.mono (show 7<=17 by decide);have CB:=CB.mono (show 1<=17 by decide);have CW:=CW.mono (show 7<=17 by decide);have CI:=CI.mono (show 5<=17 by decide);have CE:=CE.mono (show 4<=17 by decide);refine Hx (k:=17) F HK (λqs T ⟨_,e,_⟩=>by rw[e];rfl) (λV2 A outer s H E qs T hr hS=>?_);obtain⟨ns,rfl,h63,XA,rfl⟩:=hS;have hs:AD ns:=⟨h63,XA⟩;change WS _ _ [.im c6 ns,.no,.no,.no,.no,.no,.no] _ _;refine ai (cR 1 (r:=ar) (ys:=[]) (aR aL (Si _)) ?_);refine ai (cR 2 (r:=aq) (ys:=[]) (aR aL (Si _)) ?_);refine bS (N1:=λΓ=>∃e3 e4 e5,Γ=[.im c6 ns,.mu ar [Xb ns 0,Xb ns 1],.mu aq [V9 (W4 ns 0),V9 (W4 ns 1)],e3,e4,e5,.no]) (bW (λi Γ=>∃e3 e4 e5,Γ=[.im c6 ns,.mu ar ((Qt i).map (Xb ns)),.mu aq ((Qt i).map λi=>V9 (W4 ns i)),e3,e4,e5,.no]) (fo M.range ev_int ⟨by decide,by decide⟩) (aP 3) ⟨_,_,_,rfl⟩ (λi j Γ hj hΓ=>?_) (λΓ hΓ=>?_)) ?_
 ·obtain⟨e3,e4,e5,rfl⟩:=hΓ;obtain⟨jl,ej⟩:=fJ hj;have jl:i<2:=jl;obtain rfl:j=(i:Int):=by omega
  have t1:(Qt (i+1)).map (Xb ns)=(Qt i).map (Xb ns)++[Xb ns i]:=by rw[Rt,Qv];rfl
  have t2:((Qt (i+1)).map λi=>V9 (W4 ns i))=((Qt i).map λi=>V9 (W4 ns i))++[V9 (W4 ns i)]:=by rw[Rt,Qv];rfl
  rw[t1,t2];have l1:((Qt i).map (Xb ns)).length<=2:=by rw[Qg,QN];omega
  have l2:((Qt i).map λi=>V9 (W4 ns i)).length<=2:=by rw[Qg,QN];omega
  generalize (Qt i).map (Xb ns)=ts at l1;generalize ((Qt i).map λi=>V9 (W4 ns i))=ds at l2;change WS _ _ [.im c6 ns,.mu ar ts,.mu aq ds,aJ (i:Int),e4,e5,.no] _ _;refine ai (FF 4 5 (r:=ae ar) (P:=λy L=>y=Wz ns (200*(i:Int))/\L=(WA ns (200*(i:Int))).map bC) CD hr (ah (aa 0 rfl) (ah (AB ev_int (aa 3 rfl) (.inl (by decide))) ax)) ⟨ns,200*(i:Int),rfl,hs,by omega,by omega,rfl⟩ (by decide) (λa y ps hy=>?_));obtain⟨rfl,WU⟩:=hy;have hP:=ye ns (200*(i:Int));have e1:Xb ns i=Vh " " (jP (Wz ns (200*(i:Int))) (WA ns (200*(i:Int)))):=rfl;have e2:W4 ns i=cu (WA ns (200*(i:Int))):=rfl;rw[e1,e2];generalize Wz ns (200*(i:Int))=VW at hP;generalize WA ns (200*(i:Int))=Ls at hP WU;have lps:ps.length=Ls.length:=by have:=congrArg List.length WU;rwa [Qg,Qg] at this
  have l4:=hP.l4;change WS _ _ [.im c6 ns,.mu ar ts,.mu aq ds,aJ (i:Int),.im (ae ar) VW,.ob (bu a ps),.no] _ _;refine ai (eT 1 (r:=ar) (y:=Vh " " (jP VW Ls)) (EV.WT (MH (i:=5) rfl (aT (by omega))) (λ_ _ _ _ _ h=>h) (aI CT hr (ah (aa 4 rfl) (ah (EV.cast (aa 5 rfl) WU) ax)) ⟨VW,Ls,rfl,hP,rfl⟩)) rfl rfl (Sj l1 (by decide)) ?_);exact aj (eT 2 (r:=aq) (y:=V9 (cu Ls)) (aI CB hr (ah (Mu 5 CP hr rfl WU hP) ax) ⟨VW,Ls,rfl,hP,rfl⟩) rfl rfl (Sj l2 (by decide)) ⟨_,_,_,rfl⟩)
 ·obtain⟨e3,e4,e5,rfl⟩:=hΓ;exact⟨_,_,_,rfl⟩
 rintro _ ⟨e3,e4,e5,rfl⟩;refine WS.freeze 1 rfl (aT (by show 2<=_;decide)) ?_;refine WS.freeze 2 rfl (aT (by show 2<=_;decide)) ?_;have key:∀i:Nat,JR K [⟨ar,Xb ns i⟩] (zt K λxs rs=>(xs,rs)=W4 ns i)/\JJ (W4 ns i):=λi=>by
  have hP:=ye ns (200*(i:Int));obtain⟨hk,hG⟩:=vX hP;have e:=Hm hP;refine⟨⟨_,_,_,rfl,Hk hP,hk,hG,MT hP,by unfold W4;rw[← e]⟩,?_⟩;exact I0 hP
 change WS _ _ [.im c6 ns,.im (ae ar) [Xb ns 0,Xb ns 1],.im (ae aq) [V9 (W4 ns 0),V9 (W4 ns 1)],e3,e4,e5,.no] _ _;refine bS (N1:=λΓ=>∃e3 e6,Γ=[.im c6 ns,.im (ae ar) [Xb ns 0,Xb ns 1],.im (ae aq) [V9 (W4 ns 0),V9 (W4 ns 1)],e3,e4,e5,e6]) (bW (r:=ag) (xs:=[0,1,0,0,1]) (λi Γ=>∃e3 e6,Γ=[.im c6 ns,.im (ae ar) [Xb ns 0,Xb ns 1],.im (ae aq) [V9 (W4 ns 0),V9 (W4 ns 1)],e3,e4,e5,e6]) (br (ba.im (aR (ak ev_int (ak ev_int (ak ev_int (ak ev_int (ak ev_int aL))))) (by show 5<=S8;decide)))) (aP 3) ⟨_,_,rfl⟩ (λi j Γ hj hΓ=>?_) (λΓ hΓ=>hΓ)) ?_
 ·obtain⟨e3,e6,rfl⟩:=hΓ;have hj2:∃n:Nat,n<2/\j=(n:Int):=by
   have hm:=Qm hj;simp only[Qq,QL,or_false] at hm;rcases hm with rfl | rfl | rfl | rfl | rfl
   ·exact⟨0,by decide,rfl⟩
   ·exact⟨1,by decide,rfl⟩
   ·exact⟨0,by decide,rfl⟩
   ·exact⟨0,by decide,rfl⟩
   ·exact⟨1,by decide,rfl⟩
  obtain⟨n,nl,rfl⟩:=hj2;have a1:cE [Xb ns 0,Xb ns 1] (n:Int)=some (Xb ns n):=by
   match n,nl with
   | 0,_=>rfl
   | 1,_=>rfl
  have a2:cE [V9 (W4 ns 0),V9 (W4 ns 1)] (n:Int)=some (V9 (W4 ns n)):=by
   match n,nl with
   | 0,_=>rfl
   | 1,_=>rfl
  obtain⟨kn,kt⟩:=key n;generalize V9 (W4 ns 0)=d0 at a2;generalize V9 (W4 ns 1)=d1 at a2;generalize Xb ns 0=t0 at a1;generalize Xb ns 1=t1 at a1;generalize W4 ns n=v at kn kt a2;generalize Xb ns n=tn at kn a1;obtain⟨v1,v2,v3⟩:=kt;change WS _ _ [.im c6 ns,.im (ae ar) [t0,t1],.im (ae aq) [d0,d1],aJ (n:Int),e4,e5,e6] _ _;refine ai (Di 6 (Pd:=λxs rs=>(xs,rs)=v) CW hr (ah (a9 (aa 1 rfl) (aa 3 rfl) a1) ax) kn (λa b c xs rs e=>?_));subst e;have v1:xs.length<=4:=v1;have v2:rs.length<=60:=v2;refine ai (a8 (TV.WT (L7 (i:=6) rfl (aT (by show xs.length<=_;omega)) (aT (by show rs.length<=_;omega))) (TW.tv (gu (dh (bL (aI CE hr (ah (EV.Pg (aa 6 rfl)) (ah (a9 (aa 2 rfl) (aa 3 rfl) a2) ax)) ⟨_,rfl,DY _,Gp _,rfl⟩))) (λ_=>fF (aA Dg (aI CI hr (ah (aa 6 rfl) ax) ⟨(xs,rs),rfl,by omega,by omega,by rw[v3]⟩) eM))))) (λh=>VO h (by decide)) (λ_=>aF ?_));refine ai (Cp 6 rfl ?_);exact aj (Hb 6 rfl ⟨_,_,rfl⟩)
 rintro _ ⟨e3,e6,rfl⟩;exact aj (aN eM rfl)
variable {x:Str}{C:Addr}{l:VI}
section
variable {h:Heap}{P:PN->Prop}{t1 t2:Tok}{oc:Value}{od an:Option Addr}{XF:Array PK}{doc pm V2 ct:Value}
def zP (K:Vr)(mg:Pz):Prop:=∃C fi XO,bI K C iR/\Mk K C fi/\mg "Step"=some (.ref C)/\dZ K "__init__" "Step.__init__" tL fi XO/\Binds K XO wu []
def zH (K:Vr)(mg:Pz):Prop:=∃C fi XO,bI K C gp/\Mk K C fi/\mg "Spots"=some (.ref C)/\dZ K "__init__" "Spots.__init__" tT fi XO/\Binds K XO xg []
structure Top (P:Tb)(w:World)(K:Vr)(mg:Pz):Prop where
 M:cD K mg
 M2:lu K mg
 M3:kU mg
 M6:qN mg
 M4:nr mg
 M5:uA mg
 RW:nj P w K mg "ROW_WORDS" d7
 SC:zP K mg
 PC:zH K mg
 MX:Def K mg "_law_mixed" EG ["_law_script","_law_k"]
 PL:Def K mg "_law_pull" NN ["_law_pen"]
 NM:Def K mg "_law_name" M1 ["_law_number"]
 PA:Def K mg "_law_passes" Jw ["_law_items"]
 TH:Def K mg "_law_thing" Ep ["_law_pen","_law_depth","_law_loops","_law_calls"]
 LS:Def K mg "_law_list" qu ["_law_pen","_law_depth","_law_loops","_law_calls"]
 DR:Def K mg "_law_drawn" Nb ["_law_script","_law_start"]
 WD:Def K mg "_law_words" Kb ["_law_items","_law_names"]
 TX:Def K mg "_law_text" NJ ["_law_names","_law_lists"]
 IN:Def K mg "is_name" JX ["word"]
 NB:Def K mg "name_behind" Oe ["words","word"]
 MS:Def K mg "may_stand" Nx ["kind","opened"]
 RD:Def K mg "read" Km ["text"]
 CS:Def K mg "closing_steps" Nz ["steps"]
 AR:Def K mg "around" Nn ["steps","number","kind"]
 LF:Def K mg "leads_from" N4 ["steps","closing","number"]
 LI:Def K mg "leads_in" IX ["steps"]
 PI:Def K mg "parts_in" Kx ["steps"]
 ST:Def K mg "stands_in" Ow ["steps","leads"]
 RI:Def K mg "rows_in" Nd ["steps","leads","stands"]
 NW:Def K mg "name_words" JT ["spots","parts"]
 NA:Def K mg "named_again" EU ["spots"]
 CA:Def K mg "called_astray" Nq ["spots"]
 CT:Def K mg "come_to" EM ["spots"]
 NC:Def K mg "not_come_to" Ax ["spots"]
 NL:Def K mg "not_called" Ey ["spots"]
 EB:Def K mg "ended_at_begin" JY ["spots"]
 RB:Def K mg "rows_beyond" IZ ["spots"]
 PL2:Def K mg "places_in" Ir ["spots","part"]
 PY:Def K mg "places_beyond" Aj ["spots"]
 PB:Def K mg "parts_beyond" NF ["spots"]
 HI:Def K mg "hindrances" NT ["spots"]
 NP:Def K mg "need_program" N7 ["text"]
 NU:Def K mg "_law_numbered" qz ["_law_items","_law_keys"]
 EN:Def K mg "_law_entry" Ox ["_law_items","_law_j","_law_behind","_law_loop"]
 RO:Def K mg "_law_rows" rG ["_law_items","_law_behind","_law_loop","_law_rows_here"]
 MP:Def K mg "_law_mapped" BI ["_law_lists"]
 SM:Def K mg "_law_same" Fw ["_law_told","_law_due"]
 WB:Def K mg "_law_web" J5 ["_law_mapped_here"]
 IW:Def K mg "is_whole" MZ ["value"]
 AW:Def K mg "are_whole" BQ ["values"]
 PA2:Def K mg "part_at" DX ["spots","number"]
 WO:Def K mg "web_of" yQ ["text"]
 RF:Def K mg "has_row_form" N5 ["row"]
 WF:Def K mg "has_web_form" Ij ["web"]
 WZ:Def K mg "has_web_sizes" Kj ["web"]
 LW:Def K mg "leads_within" Nl ["places","row"]
 IC:Def K mg "is_called" HF ["rows","part"]
 RE:Def K mg "reached" KJ ["leads","start"]
 LO:Def K mg "lies_on_ways" Fo ["rows","part","size"]
 WE:Def K mg "is_web" B9 ["web"]
theorem IJ {P:Tb}(T:Top P w K mg)(F:dZ K "law" "law" rq f fd):eV P w K mg base eX 18 f fd ["_law_script"] (aM wQ K):=by
 have M:=T.M;have M2:=T.M2;have M3:=T.M3;have M6:=T.M6;have M4:=T.M4;have MW:=MN M M3 M4 T.M5;obtain⟨C,fi,XO,HC,MK,hMg,FI,bi⟩:=T.SC;obtain⟨D,fj,fdj,HD,MD,hMd,FJ,bj⟩:=T.PC;have GS:zC P w K mg base C:=⟨HC,⟨fi,XO,MK,Mg HC FI,bi⟩,hMg⟩;have MX:=MI (P:=P) (w:=w) (base:=base) M T.MX;have PL:=L5 (P:=P) (w:=w) (base:=base) MX T.PL;have NM:=MA (P:=P) (w:=w) (base:=base) M T.NM;obtain⟨_,_,F1,m1,b1⟩:=T.PA;have PA:=Mj (P:=P) (w:=w) (base:=base) F1 m1 b1 5;obtain⟨_,_,FTH,mTH,bTH⟩:=T.TH;obtain⟨_,_,F1,m1,b1⟩:=T.LS;have LS:=Fx (P:=P) (w:=w) (base:=base) M PL NM PA F1 m1 b1 FTH mTH bTH 4;have DR:=Mr (P:=P) (w:=w) (base:=base) M PL NM LS T.DR;obtain⟨_,_,F1,m1,b1⟩:=T.WD;have WD:=Mq (P:=P) (w:=w) (base:=base) F1 m1 b1 5;have TX:=MY (P:=P) (w:=w) (base:=base) M WD T.TX;have IN:=MM (P:=P) (w:=w) (base:=base) M M2 T.IN;have NB:=Lh (P:=P) (w:=w) (base:=base) M IN T.NB;have MS:=Mp (P:=P) (w:=w) (base:=base) M2 T.MS;have RD:=L9 (P:=P) (w:=w) (base:=base) M M2 GS MS NB T.RD;have CS:=ML (P:=P) (w:=w) (base:=base) M M2 HC T.CS;have AR:=KZ (P:=P) (w:=w) (base:=base) HC T.AR;have LF:=K2 (P:=P) (w:=w) (base:=base) HC AR T.LF;have LI:=Mt (P:=P) (w:=w) (base:=base) M CS LF T.LI;have PI:=K4 (P:=P) (w:=w) (base:=base) M HC CS T.PI;have ST:=Lp (P:=P) (w:=w) (base:=base) M HC T.RW T.ST;have RI:=MR (P:=P) (w:=w) (base:=base) M HC T.RW T.RI;have GP:wC P w K mg base C D:=⟨HD,⟨fj,fdj,MD,Mi HD RD PI LI ST RI FJ,bj⟩,hMd⟩;have NW:=Mh (P:=P) (w:=w) (base:=base) (C:=C) (D:=D) T.NW;have NA:=Le (P:=P) (w:=w) (base:=base) M HD NW T.NA;have CA:=MV (P:=P) (w:=w) (base:=base) M HC HD T.CA;obtain⟨_,_,F1,m1,b1⟩:=T.CT;have CT:=KY (P:=P) (w:=w) (base:=base) (C:=C) M HD F1 m1 b1;obtain⟨_,_,F1,m1,b1⟩:=T.NC;have NC:=Mz (P:=P) (w:=w) (base:=base) M M2 HC HD CT F1 m1 b1;have NL:=Mv (P:=P) (w:=w) (base:=base) M HC HD NW T.NL;have EB:=LH (P:=P) (w:=w) (base:=base) HD NW T.EB;have RB:=MO (P:=P) (w:=w) (base:=base) (C:=C) M3 HD T.RB;have PL2:=Jz (P:=P) (w:=w) (base:=base) (C:=C) M M3 HD T.PL2;obtain⟨_,_,F1,m1,b1⟩:=T.PY;have PY:=Lu (P:=P) (w:=w) (base:=base) M M3 HD NW CT PL2 F1 m1 b1;have PB:=LZ (P:=P) (w:=w) (base:=base) M3 HD NW T.PB;have HI:=LN (P:=P) (w:=w) (base:=base) NA CA NC NL EB RB PY PB T.HI;have NP:=L3 (P:=P) (w:=w) (base:=base) GP HI T.NP;obtain⟨_,_,F1,m1,b1⟩:=T.NU;have NU:=Eu (P:=P) (w:=w) (base:=base) F1 m1 b1 4;have EN:=MB (P:=P) (w:=w) (base:=base) M T.EN;obtain⟨_,_,F1,m1,b1⟩:=T.RO;have RO:=Fz (P:=P) (w:=w) (base:=base) M EN F1 m1 b1 4;obtain⟨_,_,F1,m1,b1⟩:=T.MP;have MP:=Lq (P:=P) (w:=w) (base:=base) M NU EN RO F1 m1 b1
 obtain⟨_,_,F1,m1,b1⟩:=T.SM;have SM:=EC (P:=P) (w:=w) (base:=base) M M6 F1 m1 b1 3;have WB:=Ml (P:=P) (w:=w) (base:=base) M T.WB;have IW:=Lb (P:=P) (w:=w) (base:=base) M M4 T.IW;obtain⟨_,_,F1,m1,b1⟩:=T.AW;have AW:=La (P:=P) (w:=w) (base:=base) M M4 IW F1 m1 b1;have PA2:=HB (P:=P) (w:=w) (base:=base) (C:=C) M HD T.PA2;obtain⟨_,_,F1,m1,b1⟩:=T.WO;have WO:=Lc (P:=P) (w:=w) (base:=base) M M4 HD NP PL2 PA2 F1 m1 b1;have RF:=Lo (P:=P) (w:=w) (base:=base) MW AW T.RF;have WF:=Mb (P:=P) (w:=w) (base:=base) MW AW RF T.WF;have WZ:=Md (P:=P) (w:=w) (base:=base) MW T.WZ;have LW:=K5 (P:=P) (w:=w) (base:=base) MW T.LW;have IC:=LC (P:=P) (w:=w) (base:=base) MW T.IC;obtain⟨_,_,F1,m1,b1⟩:=T.RE;have RE:=My (P:=P) (w:=w) (base:=base) F1 m1 b1;have LO:=Lw (P:=P) (w:=w) (base:=base) MW RE T.LO;have WE:=L1 (P:=P) (w:=w) (base:=base) MW WF WZ LW IC LO T.WE;exact Ma M DR TX MP WB WO WE SM F
theorem qG {xs:PJ}{g:Addr}{gd:Option Addr}{gn:Nat}{gs:Array PK}{V1:Array Value}(KX:K.In h)(G:h.Ns Ta mg)(a:Vs K Ta x=some (some (.ref g)))(l:K.lookup g=some ⟨.type "tuple",gd,.seq V1 gn,gs⟩)(z:V1.size<=S8)(v:Vals (xs.map V.str) V1.toList):sN K mg x xs:=⟨g,_,_,_,Vv KX G a,l,rfl,rfl,z,v⟩
theorem Gk (KX:K.In h)(G:h.Ns Ta mg)(b1:Vs K Ta "len"=some none)(b2:Vs K Ta "min"=some none)(b3:Vs K Ta "range"=some none)(b4:Vs K Ta "int"=some none)(b5:Vs K Ta "list"=some none)(b6:Vs K Ta "zip"=some none)(b7:Vs K Ta "enumerate"=some none)(b8:Vs K Ta "reversed"=some none)(b9:Vs K Ta "any"=some none)(b10:Vs K Ta "all"=some none):cD K mg:=
 ⟨Vt KX G b1,Vt KX G b2,Vt KX G b3,Vt KX G b4,Vt KX G b5,Vt KX G b6,Vt KX G b7,Vt KX G b8,Vt KX G b9,Vt KX G b10⟩
theorem D2 (KX:K.In h)(G:h.Ns Ta mg){s1_1 s1_2 s1_3 s1_4 s1_5 s2_1 s2_2 s2_3 s2_4 s2_5 s2_6 s3_1 s3_2 s3_3 s3_4 s4_1 s4_2:Tok}{g1 g2 g3 g4:Addr}{d1 d2 d3 d4:Option Addr}{n1 n2 n3 n4:Nat}{e1 e2 e3 e4:Array PK}(a1:Vs K Ta "MOST_LETTERS"=some (some (.int 8 t1)))(a2:Vs K Ta "NO_STEP"=some (some (.int (-1) t2)))(c1:Vs K Ta "NAMED"=some (some (.ref g1)))(l1:K.lookup g1=some ⟨.type "tuple",d1,.seq #[.str "part" s1_1,.str "do" s1_2,.str "call" s1_3,.str "if" s1_4,.str "while" s1_5] n1,e1⟩)(c2:Vs K Ta "SENTENCES"=some (some (.ref g2)))(l2:K.lookup g2=some ⟨.type "tuple",d2,.seq #[.str "do" s2_1,.str "call" s2_2,.str "if" s2_3,.str "while" s2_4,.str "leave" s2_5,.str "back" s2_6] n2,e2⟩)(c3:Vs K Ta "OPENING"=some (some (.ref g3)))(l3:K.lookup g3=some ⟨.type "tuple",d3,.seq #[.str "part" s3_1,.str "if" s3_2,.str "else" s3_3,.str "while" s3_4] n3,e3⟩)(c4:Vs K Ta "CLOSING"=some (some (.ref g4)))(l4:K.lookup g4=some ⟨.type "tuple",d4,.seq #[.str "else" s4_1,.str "end" s4_2] n4,e4⟩):lu K mg:=
 ⟨⟨_,Vv KX G a1⟩,⟨_,Vv KX G a2⟩,qG KX G c1 l1 (by show 5<=S8;decide) (.cons ⟨s1_1,rfl⟩ (.cons ⟨s1_2,rfl⟩ (.cons ⟨s1_3,rfl⟩ (.cons ⟨s1_4,rfl⟩ (.cons ⟨s1_5,rfl⟩ (.nil)))))),qG KX G c2 l2 (by show 6<=S8;decide) (.cons ⟨s2_1,rfl⟩ (.cons ⟨s2_2,rfl⟩ (.cons ⟨s2_3,rfl⟩ (.cons ⟨s2_4,rfl⟩ (.cons ⟨s2_5,rfl⟩ (.cons ⟨s2_6,rfl⟩ (.nil))))))),qG KX G c3 l3 (by show 4<=S8;decide) (.cons ⟨s3_1,rfl⟩ (.cons ⟨s3_2,rfl⟩ (.cons ⟨s3_3,rfl⟩ (.cons ⟨s3_4,rfl⟩ (.nil))))),qG KX G c4 l4 (by show 2<=S8;decide) (.cons ⟨s4_1,rfl⟩ (.cons ⟨s4_2,rfl⟩ (.nil)))⟩
theorem CK (KX:K.In h)(G:h.Ns Ta mg){t3 t4 t5:Tok}(a1:Vs K Ta "BEGIN"=some (some (.int 0 t1)))(a2:Vs K Ta "END"=some (some (.int 1 t2)))(a3:Vs K Ta "MOST_PARTS"=some (some (.int 4 t3)))(a4:Vs K Ta "MOST_PLACES"=some (some (.int 16 t4)))(a5:Vs K Ta "MOST_PROGRAM_ROWS"=some (some (.int 30 t5))):kU mg:=
 ⟨⟨_,Vv KX G a1⟩,⟨_,Vv KX G a2⟩,⟨_,Vv KX G a3⟩,⟨_,Vv KX G a4⟩,⟨_,Vv KX G a5⟩⟩
theorem Dl (KX:K.In h)(G:h.Ns Ta mg)(b1:Vs K Ta "isinstance"=some none)(b2:Vs K Ta "bool"=some none)(a1:Vs K Ta "NO_CALL"=some (some (.int (-1) t1)))(a2:Vs K Ta "FIRST_PART"=some (some (.int 0 t2))):nr mg:=
 ⟨Vt KX G b1,Vt KX G b2,⟨_,Vv KX G a1⟩,⟨_,Vv KX G a2⟩⟩
theorem DF (KX:K.In h)(G:h.Ns Ta mg)(b1:Vs K Ta "isinstance"=some none)(b2:Vs K Ta "bool"=some none)(b3:Vs K Ta "str"=some none)(b4:Vs K Ta "tuple"=some none):qN mg:=⟨Vt KX G b1,Vt KX G b2,Vt KX G b3,Vt KX G b4⟩
theorem Ei (KX:K.In h)(G:h.Ns Ta mg)(a1:Vs K Ta "LEAST_PLACES"=some (some (.int 2 t1)))(a2:Vs K Ta "MOST_ROWS"=some (some (.int 60 t2)))(b1:Vs K Ta "tuple"=some none):uA mg:=
 ⟨⟨_,Vv KX G a1⟩,⟨_,Vv KX G a2⟩,Vt KX G b1⟩
theorem al1 (h:∀a,P [a]):∀us:PN,us.length=1->P us
 | [a],_=>h a
theorem al2 (h:∀a b,P [a,b]):∀us:PN,us.length=2->P us
 | [a,b],_=>h a b
theorem al3 (h:∀a b c,P [a,b,c]):∀us:PN,us.length=3->P us
 | [a,b,c],_=>h a b c
theorem al4 (h:∀a b c d,P [a,b,c,d]):∀us:PN,us.length=4->P us
 | [a,b,c,d],_=>h a b c d
theorem dm {st:Stmt}{ps:PJ}{kV:Value}(KX:K.In h)(G:h.Ns Ta mg)(a:Vs K Ta x=some (some (.ref f)):=by k_is)(l:K.lookup f=some ⟨oc,od,.func (Vx x x (fc st) (bP st) (ao st) .none kV doc pm an V2 ct),XF⟩:=by k_is)(c:VB K V2 x=true:=by k_is)(k:Vw K (.ref f)=true:=by k_is)(b:∀(kV doc pm:Value)(an:Option Addr)(V2 ct:Value)(us:PN),us.length=ps.length->bindArgs (Vx x x (fc st) (bP st) (ao st) .none kV doc pm an V2 ct) ⟨us,[]⟩=pure (ps.zip us):=by first | exact λ_ _ _ _ _ _=>K1.al1 λ_=>rfl | exact λ_ _ _ _ _ _=>K1.al2 λ_ _=>rfl | exact λ_ _ _ _ _ _=>K1.al3 λ_ _ _=>rfl | exact λ_ _ _ _ _ _=>K1.al4 λ_ _ _ _=>rfl):Def K mg x st ps:=Kh KX G a l c k b
theorem Gb {P:Tb}(KX:K.In h)(G:h.Ns Ta mg){d v1 v2 v3 v4:Addr}{k1 k2 k3 k4 s1_1 s2_1 s3_1 s3_2 s4_1 s4_2:Tok}{ep n1 n2 n3 n4:Nat}{d1 d2 d3 d4:Option Addr}{l1 l2 l3 l4:Array PK}(a:Vs K Ta "ROW_WORDS"=some (some (.ref d)))(l:K.lookup d=some ⟨.type "dict",none,.dict #[⟨Vg w.params "do",.str "do" k1,.ref v1⟩,⟨Vg w.params "call",.str "call" k2,.ref v2⟩,⟨Vg w.params "if",.str "if" k3,.ref v3⟩,⟨Vg w.params "while",.str "while" k4,.ref v4⟩] ep, #[]⟩)(sm:(d==Tq)=false)(u1:K.lookup v1=some ⟨.type "tuple",d1,.seq #[.str "do" s1_1] n1,l1⟩)(u2:K.lookup v2=some ⟨.type "tuple",d2,.seq #[.str "call" s2_1] n2,l2⟩)(u3:K.lookup v3=some ⟨.type "tuple",d3,.seq #[.str "yes" s3_1,.str "no" s3_2] n3,l3⟩)(u4:K.lookup v4=some ⟨.type "tuple",d4,.seq #[.str "yes" s4_1,.str "no" s4_2] n4,l4⟩):nj P w K mg "ROW_WORDS" d7:=by
 refine⟨d,_,[((Sum.inr "do":Key),.ref v1),((Sum.inr "call":Key),.ref v2),((Sum.inr "if":Key),.ref v3),((Sum.inr "while":Key),.ref v4)],Vv KX G a,l,⟨_,_,⟨rfl,rfl,rfl⟩,rfl,λe he=>?_,?_,by show Qz [(Sum.inr "do":Key),(Sum.inr "call":Key),(Sum.inr "if":Key),(Sum.inr "while":Key)];decide⟩,sm,?_⟩
 ·simp only[List.mem_toArray,Qq,QL,or_false] at he;rcases he with rfl | rfl | rfl | rfl
  ·exact⟨Sum.inr "do",dW P w "do" k1,rfl⟩
  ·exact⟨Sum.inr "call",dW P w "call" k2,rfl⟩
  ·exact⟨Sum.inr "if",dW P w "if" k3,rfl⟩
  ·exact⟨Sum.inr "while",dW P w "while" k4,rfl⟩
 ·exact .cons (dW P w "do" k1) rfl (.cons (dW P w "call" k2) rfl (.cons (dW P w "if" k3) rfl (.cons (dW P w "while" k4) rfl (.nil))))
 ·exact .cons ⟨rfl,v1,_,_,_,rfl,u1,rfl,rfl,(by show 1<=S8;decide),.cons ⟨s1_1,rfl⟩ (.nil)⟩ (.cons ⟨rfl,v2,_,_,_,rfl,u2,rfl,rfl,(by show 1<=S8;decide),.cons ⟨s2_1,rfl⟩ (.nil)⟩ (.cons ⟨rfl,v3,_,_,_,rfl,u3,rfl,rfl,(by show 2<=S8;decide),.cons ⟨s3_1,rfl⟩ (.cons ⟨s3_2,rfl⟩ (.nil))⟩ (.cons ⟨rfl,v4,_,_,_,rfl,u4,rfl,rfl,(by show 2<=S8;decide),.cons ⟨s4_1,rfl⟩ (.cons ⟨s4_2,rfl⟩ (.nil))⟩ (.nil))))
theorem step_mk (KX:K.In h)(G:h.Ns Ta mg){kV:Value}(aC:Vs K Ta "Step"=some (some (.ref C)))(a1:Vu K (.ref C) "__init__"=some (some (.ref f)))(i1:VM K (.ref f)=true)(l1:K.lookup f=some ⟨oc,od,.func (Vx "__init__" "Step.__init__" (fc tL) (bP tL) (ao tL) .none kV doc pm an V2 ct),XF⟩)(c1:VB K V2 "Step.__init__"=true)(k1:Vw K (.ref f)=true)(pg:VD K C Str.empty=true)(hd:VC K C=true)(po:VE K C=true)(sa:Vu K (.ref C) "__setattr__"=some (some (.builtin "object.__setattr__")))(mk:VF K C=true)(kc:Vw K (.ref C)=true)(o1:Vu K (.ref C) "kind"=some none)(o2:Vu K (.ref C) "name"=some none)(o3:Vu K (.ref C) "word"=some none)(o4:Vu K (.ref C) "within"=some none):zP K mg:=by
 refine⟨C,f,_,⟨⟨pg,hd,po,sa⟩,λx hx=>?_⟩,⟨mk,a1,i1,kc⟩,Vv KX G aC,kT (st:=tL) l1 c1 k1,(kT (st:=tL) l1 c1 k1).binds (ps:=wu) λ_ _ _ _ _ _ us hl=>match us,hl with | [_,_,_,_,_],_=>rfl⟩;simp only[iR,Qq,QL,or_false] at hx;rcases hx with rfl | rfl | rfl | rfl
 ·exact o1
 ·exact o2
 ·exact o3
 ·exact o4
theorem GX (KX:K.In h)(G:h.Ns Ta mg){kV:Value}(aC:Vs K Ta "Spots"=some (some (.ref C)))(a1:Vu K (.ref C) "__init__"=some (some (.ref f)))(i1:VM K (.ref f)=true)(l1:K.lookup f=some ⟨oc,od,.func (Vx "__init__" "Spots.__init__" (fc tT) (bP tT) (ao tT) .none kV doc pm an V2 ct),XF⟩)(c1:VB K V2 "Spots.__init__"=true)(k1:Vw K (.ref f)=true)(pg:VD K C Str.empty=true)(hd:VC K C=true)(po:VE K C=true)(sa:Vu K (.ref C) "__setattr__"=some (some (.builtin "object.__setattr__")))(mk:VF K C=true)(kc:Vw K (.ref C)=true)(o1:Vu K (.ref C) "steps"=some none)(o2:Vu K (.ref C) "parts"=some none)(o3:Vu K (.ref C) "leads"=some none)(o4:Vu K (.ref C) "stands"=some none)(o5:Vu K (.ref C) "rows"=some none):zH K mg:=by
 refine⟨C,f,_,⟨⟨pg,hd,po,sa⟩,λx hx=>?_⟩,⟨mk,a1,i1,kc⟩,Vv KX G aC,kT (st:=tT) l1 c1 k1,(kT (st:=tT) l1 c1 k1).binds (ps:=xg) λ_ _ _ _ _ _ us hl=>match us,hl with | [_,_],_=>rfl⟩;simp only[gp,Qq,QL,or_false] at hx;rcases hx with rfl | rfl | rfl | rfl | rfl
 ·exact o1
 ·exact o2
 ·exact o3
 ·exact o4
 ·exact o5
theorem Jq {fa:Addr}{kV:Value}(KX:K.In h)(G:h.Ns Ta mg)(hfa:mg "law"=some (.ref fa))(T:Top l.prog w K mg)(a:Vs K Ta "law"=some (some (.ref f)))(lk:K.lookup f=some ⟨oc,od,.func (Vx "law" "law" (fc rq) (bP rq) (ao rq) .none kV doc pm an V2 ct),XF⟩)(c:VB K V2 "law"=true)(k:Vw K (.ref f)=true):
 ∃fd:Tg,(∀(s:S7)(v:Value),Uz s fd ⟨[v],[]⟩ [("_law_script",v)])/\∀base:Heap,K.In base->base.Ns Ta mg->eV l.prog w K mg base eX 18 fa fd ["_law_script"] (aM wQ K):=by
 have e:=hfa.symm.trans (Vv KX G a);cases e
 exact⟨Vx "law" "law" (fc rq) (bP rq) (ao rq) .none kV doc pm an V2 ct,λs v=>.of_eq rfl,λbase _ _=>IJ T (kT lk c k)⟩
theorem walk {q:Tb}{loose:PJ}{XP:(Pz)->Heap->Prop}{YP:World->Heap->Prop}{d:DefRec}{K:Params->Vr}(hn:l.most=some 63)(hdf:d.params.defaults=[])(hY:∀(w:World)(h:Heap),YP w h->(K w.params).In h)(F:∀(w:World)(mg:Pz)(fa:Addr)(h:Heap),(K w.params).In h->h.Ns Ta mg->mg d.name=some (.ref fa)->
  ∃fd:Tg,(∀(s:S7)(u:Value),Uz s fd ⟨[u],[]⟩ [("_law_script",u)])/\∀base:Heap,(K w.params).In base->base.Ns Ta mg->eV l.prog w (K w.params) mg base eX 18 fa fd ["_law_script"] (aM wQ (K w.params))):
 PySem.W.WalkO q loose XP YP l.row.toRowW d [] (λf vs=>PySem.call f vs):=
 L2.Cs (n:=63) (k:=18) (x:="_law_script") (CX:=λ_=>eX) (sp:=λw=>aM wQ (K w.params)) hn (by decide) hdf ⟨rfl,by decide,by decide⟩ hY F
   (λw H a ns hl XA _ hS=>⟨H,[⟨c6,ns⟩],_,aw.refl _,.cons ⟨a,rfl,hS,hl⟩ .nil,⟨ns,rfl,hl,XA,rfl⟩,λv H' R' _ t=>by obtain⟨y,hy,rfl⟩:=t;exact hy⟩) λ_ _ _ _ _ z=>z
end
end K1
open PySem PySem.W PyProof.Rows
namespace PySem.W.Fast
def tw7584274721547854292:=0
def tw94201850358053544:=0
def tw15317704519447373613:=0
def tw6170929969079739730:=0
def tw16534086313870477436:=0
def tw2521682184606492371:=0
def tw4088558589426291785:=0
def tw1486677869347864867:=0
def tw2198739992075434219:=0
def tw15152960806789032483:=0
def tw13226077210993818054:=0
def tw11207511150859593002:=0
def tw17290517703875263112:=0
def tw4090695508577166993:=0
def tw17892895359722844456:=0
def tw11517472376716445231:=0
def tw16007782263005993500:=0
def tw4037923003502979421:=0
def tw865527735054581489:=0
def tw5044291669307143729:=0
def tw16291489991479063847:=0
def tw7925572631088268088:=0
def tw18376181414184407060:=0
def tw11633392739216410910:=0
def tw1792407868405130103:=0
def tw4736380869837300294:=0
def tw15487650080156647013:=0
def tw2237862862802573162:=0
def tw14590458868502387779:=0
def tw3755627346855404304:=0
def tw6131349614173649827:=0
def tw8313018163976890713:=0
def tw13028900759560819587:=0
def tw2888997376848945227:=0
def tw10350121656400153782:=0
def tw3752585270262267716:=0
def tw7756676835805508486:=0
def tw16118414415499452389:=0
def tw8077499150763519864:=0
def tw5587201700581922864:=0
def tw18050644808891765213:=0
def tw17148141347181076782:=0
def tw13378652079568847567:=0
def tw6939699113254425772:=0
def tw6890797562599692975:=0
def tw617024488917286089:=0
def tw231422622565823305:=0
def tw10369297181558897068:=0
def tw7332544426509871437:=0
def tw14194058961839144978:=0
def tw15605766176139296570:=0
def tw16857983947692133929:=0
def tw13453395381382417333:=0
def tw14412840338801577703:=0
def tw10457042768806971302:=0
def tw3557997758074354364:=0
def tw9419401591281870239:=0
def tw12073159782100973764:=0
def tw12505214435130694944:=0
def tw18183012065152147028:=0
def tw9661805388388236262:=0
def tw1953202709564048118:=0
def tw1744241542345953113:=0
def tw12110697864266119734:=0
def tw5620497693126097687:=0
def tw193475918598002380:=0
def tw7185031608630211304:=0
def tw16577852229043740435:=0
def tw12321448860980647863:=0
def tw4710583802447742799:=0
def tw15003023499877916500:=0
def tw16948637200889099413:=0
def tw5505699089701536390:=0
def tw15934611315935443020:=0
def tw6099459609278563196:=0
def tw7695520109142448927:=0
def tw11426232867793730812:=0
def tw9861548899692732113:=0
def tw10367644202527127546:=0
def tw1514066278044792529:=0
def tw16178856795043135334:=0
def tw1842349254930646454:=0
def tw7634726728962463191:=0
def tw4134045950253911581:=0
def tw1452956377686499667:=0
def tw2329326258356973270:=0
def tw12357100690909131962:=0
def tw14415947233193048388:=0
def tw2873454419532915647:=0
def tw2311376664642119758:=0
def tw6314904405035377213:=0
def tw13045270465267225126:=0
def tw9967579551044772772:=0
def tw7612548880117822402:=0
def tw7279022932721982755:=0
def tw12514709327487433711:=0
def tw10148475883046870333:=0
def tw15737197857017427550:=0
def tw16261675158959099101:=0
def tw2013335607312803517:=0
def tw288059246681008802:=0
def tw11127542338711725556:=0
def tw9420970842256084916:=0
def tw9000671534677064238:=0
def tw2457039825280762188:=0
def tw11896900633596119682:=0
def tw17479557206980475421:=0
def tw9098592743414969830:=0
def tw6984494681249147455:=0
def tw7543776941524238636:=0
def tw8072500070800298955:=0
def tw4685960464689701925:=0
def tw17435573541397035869:=0
def tw6596127130690551880:=0
def tw1691108069894674524:=0
def tw3226883342817160466:=0
def tw4100487442438048678:=0
def tw17538077573155302008:=0
def tw10331404343546574284:=0
def tw2831007130475156899:=0
def tw7771081087587529412:=0
def tw17193601496044074891:=0
def tw1195016275297139354:=0
def tw5414277941168440044:=0
def tw2267259269047702325:=0
def tw403719106935010901:=0
def tw7587055808951680486:=0
def tw17409359915134160363:=0
def tw7715733415999237656:=0
def tw17501054281483339486:=0
def tw16793432077818283756:=0
def tw16095829097415507741:=0
def tw10176128553541735279:=0
def tw14143785002158311731:=0
def tw9646240165627751935:=0
def tw11318712549445330727:=0
def tw16450815168464395067:=0
def tw13445730929096313435:=0
def tw6418750391450596307:=0
def tw11184028284683135778:=0
def tw12196368673267077492:=0
def tw4601233378876813076:=0
def tw11369243565788971540:=0
def tw6693665427388970766:=0
def tw12337100125507674241:=0
def tw2779045743774305854:=0
def tw10422135964445311836:=0
def tw14924978802367790936:=0
def tw10223022377884427861:=0
def tw16221476072093301372:=0
def tw7143221078760829787:=0
def tw14321866557105988634:=0
def tw9243385095670180618:=0
def tw5361852020477250182:=0
def tw13469854894603117305:=0
def tw14079163209319570751:=0
def tw10400519183739883237:=0
def tw15392198591135111852:=0
def tw2191202166883136497:=0
def tw14054718543818657745:=0
def tw3591738361183669032:=0
def tw5215307673562851885:=0
def tw6802195471324701821:=0
def tw2800145998824517771:=0
def tw17548138924214414733:=0
def tw2898845539135003131:=0
def tw12848045069027904214:=0
def tw16143828956226687030:=0
def tw14035604626002882703:=0
def tw13899711890529598830:=0
def tw12612543108714558353:=0
def tw3037543187355745308:=0
def tw14609108976213594814:=0
def tw7813208624574716491:=0
def tw8551057977039433575:=0
def tw16189664544093906834:=0
def tw18218052050530244691:=0
def tw14629342362365770553:=0
def tw5298995755768060141:=0
def tw10070391966188496445:=0
def tw7282870020099032714:=0
def tw10095284687902994558:=0
def tw9140562431071415345:=0
def tw10161996619906650690:=0
def tw15340944758214873827:=0
def tw13210353978149027174:=0
def tw9819029757062334112:=0
def tw5493420356801870864:=0
def tw132535527894776477:=0
def tw9496063575084610712:=0
def tw5306298945644121440:=0
def tw10713930706771431375:=0
def tw3422874701207459100:=0
def tw16285897165718130393:=0
def tw12673123943688300221:=0
def tw11349490090562863685:=0
def tw910750932630836916:=0
def tw4133249041006078090:=0
def tw2988117864059410685:=0
def tw1982713807684799228:=0
def tw15681508681384771854:=0
def tw12566834245571303680:=0
def tw12302888442669533883:=0
def tw10589084155206243207:=0
def tw6635134121760679165:=0
def tw2935401319293004553:=0
def tw10766167707694799405:=0
def tw10750167197212634163:=0
def tw8168955735952927633:=0
def tw3179183242481803728:=0
def tw16608412994544390218:=0
def tw15093939860802692467:=0
def tw1419423275593962156:=0
def tw8008691179369430551:=0
def tw6665517734705866269:=0
def tw9174823998820253850:=0
def tw2830244610335329856:=0
def tw16501924395562266168:=0
def tw11605142405306396356:=0
def tw6018477204680739909:=0
def tw11007218824909435839:=0
def tw10800153287500519405:=0
def tw4586067250201092620:=0
def tw10232633193935218001:=0
def tw15016362351199678631:=0
def tw10626602590165862846:=0
def tw12068766691645155805:=0
def tw11987611703855117780:=0
def tw6563767468916283760:=0
def tw4157691041451183466:=0
def tw4154262964354079638:=0
def tw15033013176399492234:=0
def tw13579263971123083404:=0
def tw6542276126248178906:=0
def tw15485856261731300363:=0
def tw10221687602456240166:=0
def tw17538343296007406295:=0
def tw159558109015436652:=0
def tw1569156818617160840:=0
def tw15257562907558805807:=0
def tw14515140963901930063:=0
def tw9190536902162909973:=0
def tw8593207688637633839:=0
def tw12416829641766344474:=0
def tw1187573983378972447:=0
def tw2602702715285818060:=0
def tw5435962445075231378:=0
def tw5791090562899064909:=0
def tw5742120579319720527:=0
def tw13340503078284195536:=0
end PySem.W.Fast
set_option maxRecDepth 100000 in
set_option maxHeartbeats 0 in
theorem PySem.Challenge.cw_fewcounters_k65_whole_webs_of_programs_holds : PySem.Challenge.rw_fewcounters_k65_whole_webs_of_programs.Holds := by
 w_on;o_law;k_head;(case hw=>w_witness2)
 k_fill
 refine K1.walk (l:=PySem.Challenge.rw_fewcounters_k65_whole_webs_of_programs) rfl rfl (λw h Y=>PySem.W.kIn_of Y) ?F
 case F=>
  intro w mg fa h KX G hmg;have M:K1.cD (L2.oV KX) mg:=by
   dsimp only[L2.oV];refine' K1.Gk KX G ?b1 ?b2 ?b3 ?b4 ?b5 ?b6 ?b7 ?b8 ?b9 ?b10
   (case b1=>k_is);(case b2=>k_is);(case b3=>k_is);(case b4=>k_is);(case b5=>k_is);(case b6=>k_is);(case b7=>k_is);(case b8=>k_is);(case b9=>k_is);(case b10=>k_is)
  have M2:K1.lu (L2.oV KX) mg:=by
   dsimp only[L2.oV];refine' K1.D2 KX G ?a1 ?a2 ?c1 ?l1 ?c2 ?l2 ?c3 ?l3 ?c4 ?l4
   (case a1=>k_is);(case a2=>k_is);(case c1=>k_is);(case l1=>k_is);(case c2=>k_is);(case l2=>k_is);(case c3=>k_is);(case l3=>k_is);(case c4=>k_is);(case l4=>k_is)
  have M4:K1.nr mg:=by
   refine' K1.Dl KX G ?b1 ?b2 ?a1 ?a2
   (case b1=>k_is);(case b2=>k_is);(case a1=>k_is);(case a2=>k_is)
  have M6:K1.qN mg:=by
   refine' K1.DF KX G ?b1 ?b2 ?b3 ?b4
   (case b1=>k_is);(case b2=>k_is);(case b3=>k_is);(case b4=>k_is)
  have M5:K1.uA mg:=by
   refine' K1.Ei KX G ?a1 ?a2 ?b1
   (case a1=>k_is);(case a2=>k_is);(case b1=>k_is)
  have M3:K1.kU mg:=by
   refine' K1.CK KX G ?a1 ?a2 ?a3 ?a4 ?a5
   (case a1=>k_is);(case a2=>k_is);(case a3=>k_is);(case a4=>k_is);(case a5=>k_is)
  have DRW:Fc.nj (PySem.Challenge.rw_fewcounters_k65_whole_webs_of_programs).prog w (L2.oV KX) mg "ROW_WORDS" K1.d7:=by
   dsimp only[L2.oV];refine' K1.Gb KX G ?a ?l ?sm ?u1 ?u2 ?u3 ?u4
   (case a=>k_is);(case l=>k_is);(case sm=>rfl);(case u1=>k_is);(case u2=>k_is);(case u3=>k_is);(case u4=>k_is)
  have DSC:K1.zP (L2.oV KX) mg:=by
   dsimp only[L2.oV];refine' K1.step_mk KX G ?aC ?a1 ?i1 ?l1 ?c1 ?k1 ?pg ?hd ?po ?sa ?mk ?kc ?o1 ?o2 ?o3 ?o4
   (case aC=>k_is);(case a1=>k_is);(case i1=>k_is);(case l1=>k_is);(case c1=>k_is);(case k1=>k_is);(case pg=>k_is);(case hd=>k_is);(case po=>k_is);(case sa=>k_is);(case mk=>k_is);(case kc=>k_is);(case o1=>k_is);(case o2=>k_is);(case o3=>k_is);(case o4=>k_is)
  have DPC:K1.zH (L2.oV KX) mg:=by
   dsimp only[L2.oV];refine' K1.GX KX G ?aC ?a1 ?i1 ?l1 ?c1 ?k1 ?pg ?hd ?po ?sa ?mk ?kc ?o1 ?o2 ?o3 ?o4 ?o5
   (case aC=>k_is);(case a1=>k_is);(case i1=>k_is);(case l1=>k_is);(case c1=>k_is);(case k1=>k_is);(case pg=>k_is);(case hd=>k_is);(case po=>k_is);(case sa=>k_is);(case mk=>k_is);(case kc=>k_is);(case o1=>k_is);(case o2=>k_is);(case o3=>k_is);(case o4=>k_is);(case o5=>k_is)
  refine' K1.Jq KX G hmg ⟨M,M2,M3,M6,M4,M5,DRW,DSC,DPC,by exact K1.dm KX G,by exact K1.dm KX G,by exact K1.dm KX G,by exact K1.dm KX G,by exact K1.dm KX G,by exact K1.dm KX G,by exact K1.dm KX G,by exact K1.dm KX G,by exact K1.dm KX G,by exact K1.dm KX G,by exact K1.dm KX G,by exact K1.dm KX G,by exact K1.dm KX G,by exact K1.dm KX G,by exact K1.dm KX G,by exact K1.dm KX G,by exact K1.dm KX G,by exact K1.dm KX G,by exact K1.dm KX G,by exact K1.dm KX G,by exact K1.dm KX G,by exact K1.dm KX G,by exact K1.dm KX G,by exact K1.dm KX G,by exact K1.dm KX G,by exact K1.dm KX G,by exact K1.dm KX G,by exact K1.dm KX G,by exact K1.dm KX G,by exact K1.dm KX G,by exact K1.dm KX G,by exact K1.dm KX G,by exact K1.dm KX G,by exact K1.dm KX G,by exact K1.dm KX G,by exact K1.dm KX G,by exact K1.dm KX G,by exact K1.dm KX G,by exact K1.dm KX G,by exact K1.dm KX G,by exact K1.dm KX G,by exact K1.dm KX G,by exact K1.dm KX G,by exact K1.dm KX G,by exact K1.dm KX G,by exact K1.dm KX G,by exact K1.dm KX G,by exact K1.dm KX G,by exact K1.dm KX G,by exact K1.dm KX G,by exact K1.dm KX G⟩ ?qa ?qb ?qc ?qd
  (case qa=>k_is);(case qb=>k_is);(case qc=>k_is);(case qd=>k_is)
