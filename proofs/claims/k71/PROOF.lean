import PyProof.Rows.All
import Wide.All
import OpenK.AllK
import Wide.FinOn
import Lean
import PyProof.EqAt
import PyProof.EqKinds
import PyProof.TupleCall
import PyProof.NeKinds
import PyProof.WalksEnum
import PyProof.EnumMake
import KE.KTryMore
import PyProof.NsDelKeeps
import PyProof.SumWalkG
import PyProof.SeqI3
import KE.KDictSum
import PyProof.AttrMiss
import PyProof.IsiH_list
import KE.KDictOf
import PyProof.ZipIter
import PyProof.TupleIter
import PyProof.Draws
import PyProof.StrCalls
import PySem.Challenge.RW_fewcounters_k71_whole_back_at_the_end
import PyProof.StrWalks
import PyProof.StrCalls2
import PyProof.StrCalls3
import PyProof.StrLawsTight
import PyProof.StrLawsChain
import PyProof.StrLawsJoin
import PyProof.Rows.StrItems
import PyProof.FString5
import PyProof.Rows.Range3
import PyProof.EnumIter
import KE.KRevIter
import PyProof.MeetsDict
set_option Elab.async false
set_option linter.all false
set_option maxRecDepth 100000
set_option maxHeartbeats 4000000
abbrev Oz:=PySem.Str->Option PySem.Value
abbrev OA:=List (PySem.Addr×PySem.Obj)
abbrev OB:=List Int
abbrev OC:=List PySem.Str
abbrev OD:=Option PySem.Value
abbrev OE:=List PySem.Addr
abbrev OF:=List PySem.Value
abbrev OG:=List PySem.Expr
abbrev OH:=List (Int×Int)
theorem UJ{a b:Prop}(h:a)(g:¬a):b:=absurd h g
theorem UK{c:Prop}[Decidable c](n:¬c){α:Type _}{t e:α}:(ite c t e)=e:=if_neg n
theorem UL{c:Prop}[Decidable c](n:c){α:Type _}{t e:α}:(ite c t e)=t:=if_pos n
theorem UM{p:Prop}[Decidable p](h:decide p=true):p:=of_decide_eq_true h
theorem UN{p:Prop}[Decidable p](h:decide p=false):¬p:=of_decide_eq_false h
theorem UO{p:Prop}[Decidable p](h:p):decide p=true:=decide_eq_true h
theorem UP{p:Prop}[Decidable p](h:¬p):decide p=false:=decide_eq_false h
open Array renaming length_toList→OI
open Bool renaming false_ne_true→OJ,and_eq_true→OK,eq_iff_iff→OL,or_eq_true→OM,and_true→ON
open False renaming elim→OO
open ForInStep renaming yield→OP
open Int renaming emod_lt_of_pos→OQ,emod_nonneg→OR,le_refl→OS,toNat_natCast→OT,le_trans→OU
open List renaming getElem?_eq_some_iff→OW,getElem?_eq_getElem→OX,getD_eq_getElem?_getD→OY,length_map→OZ,mem_singleton→O0,mem_cons_of_mem→O2,mem_cons_self→O3,length_append→O4,getElem?_map→O5,mem_of_getElem?→O6,mem_cons→O7,length_cons→O8,size_toArray→O9,mem_append→Pa,mem_append_right→Pb,getElem?_set_self→Pc,mem_map→Pe,mem_iff_getElem?→Pf,append_assoc→Pg,map_append→Ph,mem_append_left→Pj,length_take→Pl,range→Pm,getElem?_eq_none→Po,getElem?_append_right→Pp,getElem?_set_ne→Pq,getElem?_append_left→Pr,Nodup→Pt,not_mem_nil→Pu,nodup_cons→Pw,append_nil→Px,length_singleton→Py,length_nil→Pz,getElem_mem→PD,map_cons→PH,take_succ→PJ,take_length→PK,mem_filter→PM,length_set→PN,map_map→PQ,take_succ_cons→PR,filter_eq_self→PU,ext_getElem?→PX,foldl_cons→PZ,mem_range→P0,getElem?_range→P1,filter_cons_of_pos→P2,filter_cons_of_neg→P4,nodup_append→P6,dropLast_concat_getLast→P7,length_replicate→P8,map_congr_left→P9,lookup→Qa,filter_append→Qb,length_zip→Qc,nil_append→Qd,cons_append→Qe,lookup_cons→Qg,foldl_append→Qh,take_append_drop→Qi,flatMap_cons→Qj,getElem?_replicate→Qk,find?_cons→Ql,take_of_length_le→Qm,replicate→Qn,length_range→Qo,length_filter_le→Qp,length_drop→Qq,length_dropLast→Qr,getElem_of_mem→Qs,drop_of_length_le→Qt,all_eq_true→Qu,mem_flatMap→Qv,nodup_nil→Qw,of_mem_zip→Qx,mem_iff_getElem→Qy,filterMap_cons→Qz,set_set→QA,length_reverse→QB,sum_cons→QC,flatMap_append→QD,length_pos_iff→QE,getElem_inj→QF,mem_filterMap→QG,mem_replicate→QH,map_singleton→QI,filter_eq_nil_iff→QJ,find?_cons_of_pos→QK,find?_cons_of_neg→QL,any_cons→QM,getElem?_reverse→QN,mem_of_mem_take→QO,take_zero→QP,any_eq_true→QQ,range'→QR,map_set→QS,forIn_cons→QT,map_drop→QU,filter_map→QV
open Nat renaming le_refl→QW,le_trans→QX,zero_le→QY,lt_of_le_of_lt→QZ,lt_of_lt_of_le→Q0,ne_of_lt→Q1,lt_or_ge→Q2,lt_irrefl→Q3,zero_add→Q4,le_add_right→Q5,le_succ→Q6,lt_succ_self→Q7,add_le_add_left→Q8,ne_of_gt→Q9,min_le_left→Ra,lt_of_le_of_ne→Rb,not_lt→Rc,min_le_right→Rf,add_assoc→Rg,le_of_lt→Rh,le_of_eq→Ri,add_zero→Rj
open Ne renaming symm→Rk
open Option renaming map_eq_some_iff→Rl,some_ne_none→Rm,map_some→Rn,isSome_map→Ro
open Prod renaming ext→Rp
open PyProof.Rows renaming callWith_type1→Rr,slot_tuple_getitem→Rt,envOfC→Ru,boot_list→Rv,AllBare→Rx,boot_range→Ry,subscriptTail→Rz
open PySem renaming Shared→RA,starEach→RC,sizeLine→RE,wpAny_bind→RF,mainGlobals→RG,wpAny_pure→RH,Program→RJ,attributeBase→RK,Around→RL,backTo→RM,swapsWith→RN,FuncData→RO,Keyword→RP,wpAny_truthy_bool→RQ,compareOp→RR,mem_of_lookup→RS,wpAny_field→RU,keywordEach→RX,foldedSetIterable→RY,wpAny_mono→RZ,IsPair→R6,sysModules→R7,wpAny_callSpecial?_slot→R8,wpAny_newObj_type→R9,valueAt→Sa,backToKw→Sb,wpAny_seqItems→Sd,bootBuiltins→Se,wpAny_setField_rec→Sf,wpAny_passesOwn→Sg,behindInMarks→Sh,holding→Si,boot_len→Sj,binaryOp→Sk,wpAny_call_entry→Sl,assignEach→Sm,assign→Sn,NameKind→So,call_meets→Sq,wpAny_holding→Sr,sliceBounds→Ss,isTrue→Su,wpAny_Call_Name_kw→Sv,tupleKind_room_in1→Sw,getItem→Sx,wpAny_pyIter_list→Sz,wpAny_pyIter_zip→SD,wpAny_execs_nil→SE,letOwnedTupleGo→SF,IsPart→SG,typeIs_str→SH,wpAny_rule→SJ,wpAny_updateSeq_pair→SK,standAt→SM,codeAny→SN,bindArgs→SO,sizeLine_eq→SQ,swapsWithSole→SR,swappedStores→SS,intBits_le_64→SU,wpAny_onRaise→SV,callerA→SW,codeAny_mono→SX,tupleKind→SY,PassesOwn→S0,strValues→S3,IsRangeIter→S4,subscripted→S5,pyNext→S6,rawInt→S7,BindsTo→S8,stored→S9,dictSetDefault→Ta,GenState→Tb,IntMulOk→Tc,wpAny_standAt→Td,Str→Te,Within→Tf
open PySem.Around renaming under→Tg
open PySem.Builtin.List renaming listTooLong→Ti
open PySem.Builtin.Range renaming rangeSize→Tj
open PySem.Builtin.Slice renaming slicePlaces→Tn,sliceAdjust→To
open PySem.Builtin.SmallTypes renaming nextOf→Tp,ownedTupleIsFree→Tq
open PySem.Builtin.Str renaming occurrences→Tr
open PySem.Builtin.Tuple renaming tupleExact→Ts
open PySem.Calls renaming callWith_builtin→Tt,spliced_cons→Tu
open PySem.Code renaming isFrame→Tv
open PySem.F renaming plainAttrs_list→Tw,slot_list_append→Tx,type_list_append→Tz,slot_tuple_iterator_next→TB,slot_zip_next→TC,args_str_split_2→TJ,entry_str_split→TK,slot_str_split→TL
open PySem.Heap renaming get?_push_of_some→TN,lt_size→TQ,get?_push_size→TR,size_push→TU,SameBut→TY,get?_update_self→TZ,dictOf_iff→T1
open PySem.Heap.SameBut renaming update→T2
open PySem.NameKind renaming cell→T3
open PySem.Obj renaming mapSeq→T4
open PySem.PassesOwn renaming never→T5
open PySem.PyData renaming keyHash→T6
open PySem.SeqAt renaming EqAt→T7
open PySem.SeqAt.EqAt renaming same→T8
open PySem.Str renaming join→T9,ofString→Ua
open PySem.Txt renaming split→Ub
open PySem.Value renaming ref→Uc,none→Ud,int→Ue,str→Ug,bool→Uh,float→Ui,type→Uj
open PySem.W renaming Frag→Uk,nsIn→Ul,findIn→Um,mg_of→Uo,fnOf→Uq,mg_none_of→Ur,keepIn→Us,kia_one→Ut,codeIn→Uu,emptyDict→Uv,instObj→Uw,hasDictIn→Ux,plainGet→Uy,plainOver→Uz,makesIn→UA,methodObj→UB,takerIn→UC,OpenLaw→UD,lookIn→UE,kitOne→UG,isFn→UH
open True renaming intro→UI
open List(map_nil all_cons forIn_nil range_succ sum_append take_nil prefix_rfl range'_one)
abbrev Vd(x:Te):Prop:=(x==("__debug__":Te))=false
abbrev Vp(x:Te):Prop:=(x==("__classdict__":Te))=false
def Vo:Lean.Syntax:=Lean.Unhygienic.run `(Lean.Parser.Tactic.tacticSeq|first | exact Or.inl rfl | exact Or.inr (Or.inl rfl) | exact Or.inr (Or.inr rfl))
def Wv:Lean.Syntax:=Lean.Unhygienic.run `(Lean.Parser.Tactic.tacticSeq|first | exact Or.inl rfl | exact Or.inr rfl)
def Wu:Lean.Syntax:=Lean.Unhygienic.run `(Lean.Parser.Tactic.tacticSeq|first | exact .inl rfl | exact .inr rfl)
namespace L2
open PySem PySem.Spec PyProof.Rows
section
variable {a b:Addr}
abbrev Key:=Sum Int Str
def m9:Key->Value->Bool
 | .inl k,v=>Value.isInt k v
 | .inr x,v=>Value.isStrOf x v
def Ou (w:World):Key->Int
 | .inl k=>hashInt k
 | .inr x=>hashStr w x
theorem dA:∀{k:Key} {v:Value},m9 k v=true->(∃i t,k=Sum.inl i/\v=Ue i t)∨(∃x t,k=Sum.inr x/\v=Ug x t)
 | .inl i,v,h=>by
   obtain⟨t,e⟩:=Value.isInt_shape (k:=i) (v:=v) h
   exact .inl ⟨i,t,rfl,e⟩
 | .inr x,v,h=>by
   obtain⟨t,e⟩:=Value.isStrOf_shape (x:=x) (v:=v) h
   exact .inr ⟨x,t,rfl,e⟩
theorem z7 (i:Int)(t:Tok):m9 (.inl i) (.int i t)=true:=by simp[m9,Value.isInt]
theorem A1 (x:Str)(t:Tok):m9 (.inr x) (.str x t)=true:=by simp[m9,Value.isStrOf]
theorem HB (a b:Int):decide ((Sum.inl a:Key)=Sum.inl b)=(a==b):=by
 by_cases e:a=b
 ·subst e;simp
 ·have h:¬(Sum.inl a:Key)=Sum.inl b:=λq=>e (Sum.inl.inj q)
  rw[UP h]
  exact(beq_eq_false_iff_ne.mpr e).symm
theorem GZ (a b:Str):decide ((Sum.inr a:Key)=Sum.inr b)=decide (a=b):=by
 by_cases e:a=b
 ·subst e;simp
 ·have h:¬(Sum.inr a:Key)=Sum.inr b:=λq=>e (Sum.inr.inj q)
  rw[UP h,UP e]
theorem JU (a:Int)(b:Str):decide ((Sum.inl a:Key)=Sum.inr b)=false:=UP (λq=>nomatch q)
theorem HH (a:Str)(b:Int):decide ((Sum.inr a:Key)=Sum.inl b)=false:=UP (λq=>nomatch q)
def bW (prog:RJ)(w:World):PySem.KeyKind prog w Key where
 is:=m9
 hash:=Ou w
 inj:=λv a b ha hb=>by
  rcases dA ha with⟨i,t,rfl,rfl⟩ | ⟨x,t,rfl,rfl⟩
  ·rcases dA hb with⟨j,u,rfl,e⟩ | ⟨y,u,rfl,e⟩
   ·injection e with e1 _;rw[e1]
   ·exact nomatch e
  ·rcases dA hb with⟨j,u,rfl,e⟩ | ⟨y,u,rfl,e⟩
   ·exact nomatch e
   ·injection e with e1 _;rw[e1]
 byValue:=λk v h=>by
  rcases dA h with⟨i,t,rfl,rfl⟩ | ⟨x,t,rfl,rfl⟩<;>rfl
 pyHash:=λhv h=>by
  rcases dA hv with⟨i,t,rfl,rfl⟩ | ⟨x,t,rfl,rfl⟩
  ·exact wpAny_pyHash_int h
  ·exact wpAny_pyHash_str h
 eqBool:=λhu hv h=>by
  rcases dA hu with⟨i,t,rfl,rfl⟩ | ⟨x,t,rfl,rfl⟩
  ·rcases dA hv with⟨j,u,rfl,rfl⟩ | ⟨y,u,rfl,rfl⟩
   ·rw[HB] at h;exact wpAny_eqBool_int h
   ·rw[JU] at h;exact T7.int_str i t y u _ _ _ _ h
  ·rcases dA hv with⟨j,u,rfl,rfl⟩ | ⟨y,u,rfl,rfl⟩
   ·rw[HH] at h;exact T7.str_int x t j u _ _ _ _ h
   ·rw[GZ] at h;exact wpAny_eqBool_str h
 «strs»:=λk x t v h=>by
  rcases dA h with⟨i,u,rfl,e⟩ | ⟨y,u,rfl,e⟩
  ·exact nomatch e
  ·injection e with e1 _
   subst e1
   cases v<;>rfl
theorem vN (prog:RJ)(w:World)(i:Int)(t:Tok):(bW prog w).is (.inl i) (.int i t)=true:=z7 i t
theorem dB (prog:RJ)(w:World)(x:Str)(t:Tok):(bW prog w).is (.inr x) (.str x t)=true:=A1 x t
inductive V where
 | U8 | bl (b:Bool) | int (i:Int) | str (x:Str) | WN (b:Array UInt8) | Yw (b:UInt64) | ref (a:Addr) | ty (n:String)
 deriving DecidableEq
def RelV:V->Value->Prop
 | .U8,u=>u=Ud
 | .bl b,u=>u=Uh b
 | .int i,u=>∃t,u=Ue i t
 | .str x,u=>∃t,u=Ug x t
 | .WN b,u=>∃t,u=Value.bytes b t
 | .Yw b,u=>∃t,u=Ui b t
 | .ref a,u=>u=Uc a
 | .ty n,u=>u=Uj n
abbrev Vals:List V->OF->Prop:=Paired RelV
theorem Vals.length {xs:List V}{us:OF}(r:Vals xs us):xs.length=us.length:=Paired.length r
theorem Vals.get:∀{xs:List V} {us:OF} {i:Nat} {x:V},Vals xs us->xs[i]?=some x->∃u,us[i]?=some u/\RelV x u
 | _,_,_,_,.nil,e=>by simp at e
 | _,_,0,_,.cons r _,e=>by simp at e;subst e;exact⟨_,rfl,r⟩
 | _,_,i+1,x,.cons _ t,e=>by
   obtain⟨u,h1,h2⟩:=Vals.get (i:=i) (x:=x) t (by simpa using e)
   exact⟨u,by simpa using h1,h2⟩
theorem Vals.set {x:V}{u:Value}(r:RelV x u):∀{xs:List V} {us:OF} (i:Nat),Vals xs us->Vals (xs.set i x) (us.set i u)
 | _,_,_,.nil=>.nil
 | _,_,0,.cons _ t=>.cons r t
 | _,_,i+1,.cons q t=>.cons q (Vals.set r i t)
theorem Vals.append:∀{xs ys:List V} {us ws:OF},Vals xs us->Vals ys ws->Vals (xs++ys) (us++ws)
 | _,_,_,_,.nil,s=>s
 | _,_,_,_,.cons r t,s=>.cons r (Vals.append t s)
theorem Vals.take:∀{xs:List V} {us:OF} (n:Nat),Vals xs us->Vals (xs.take n) (us.take n)
 | _,_,0,_=>.nil
 | _,_,_+1,.nil=>.nil
 | _,_,n+1,.cons r t=>.cons r (Vals.take n t)
theorem Vals.drop:∀{xs:List V} {us:OF} (n:Nat),Vals xs us->Vals (xs.drop n) (us.drop n)
 | _,_,0,r=>r
 | _,_,_+1,.nil=>.nil
 | _,_,n+1,.cons _ t=>Vals.drop n t
def iE:Option V->OD->Prop
 | some v,some u=>RelV v u
 | none,none=>True
 | _,_=>False
def KV {κ:Type}:List (κ×V)->List (κ×Value)->Prop:=Paired λ(p:κ×V) (q:κ×Value)=>p.1=q.1/\RelV p.2 q.2
def kV:Key->V
 | .inl i=>.int i
 | .inr x=>.str x
inductive HO where
 | lst (xs:List V)
 | tup (xs:List V)
 | dK (kvs:List (Key×V)) | dT (kvs:List (List Key×V))
 | set (S:Int->Bool) (n:Nat)
 | ins (C dx:Addr) (fs:List (Str×V))
 | own (x:Addr)
 | xd (fs:List (Str×V))
 | met (f x:Addr)
 | Xi (lo hi:Int)
 | VP (o:Obj) (u:HO)
 | X4 (ps:Array Value)
 | ext (φ:Heap->Prop)
abbrev Hp:=Addr->Option HO
def upd (H:Hp)(a:Addr)(o:HO):Hp:=λb=>if b=a then some o else H b
theorem aA {H:Hp}{o:HO}:upd H a o a=some o:=by unfold upd;rw[UL rfl]
theorem aB {H:Hp}{o:HO}(h:b≠a):upd H a o b=H b:=by unfold upd;rw[UK h]
theorem LV {H:Hp}{o u:HO}(h:H a=some o)(h':H b=some u)(d:o≠u):a≠b:=by
 intro e;subst e;rw[h] at h';exact d (Option.some.inj h')
theorem cT {H:Hp}{o:HO}(h:H a=some o)(h':H b=none):a≠b:=by
 intro e;subst e;rw[h] at h';cases h'
end
section
variable (P:RJ)(w:World)
def cN (H:Hp)(h:Heap)(a:Addr):HO->Prop
 | .lst xs=>xs.length<=RE/\∃(UW:OF) (n:Nat),Vals xs UW/\h.get? a=some {cls:=.type "list",data:=.seq UW.toArray n}
 | .tup xs=>xs.length<=RE/\∃UW:OF,Vals xs UW/\IsTup h a UW.toArray
 | .dK kvs=>kvs.length<=RE/\(a==R7)=false/\∃vs,KV kvs vs/\h.DictOf (bW P w) a vs
 | .dT kvs=>kvs.length<=RE/\(a==R7)=false/\∃xs:List (List Key×Addr×Value),
  Paired (λ(p:List Key×V) (q:List Key×Addr×Value)=>p.1=q.1/\H q.2.1=some (.tup (p.1.map kV))/\RelV p.2 q.2.2) kvs xs/\
  ∃o es ep,h.get? a=some o/\o.ExactDict/\o.data= .dict es ep/\es.toList=xs.map (entryOfKey (SY (bW P w)))/\(xs.map (·.1)).Nodup
 | .set S n=>h.SetOf (intKind P w) a S n
 | .ins C dx fs=>H dx=some (.own a)/\fs.length<=1000/\dx≠a/\h.get? a=some (Uw C dx)/\
  ∃mA,h.Ns1 dx mA/\(∀f,iE (fs.lookup f) (mA f))/\Tf mA (fs.map (·.1))
 | .own _=>∃o,h.get? a=some o
 | .xd fs=>∃mA,h.Ns1 a mA/\∀f,iE (fs.lookup f) (mA f)
 | .Xi lo hi=>∃t u v,h.get? a=some {cls:=.type "range",data:=.fields #[.int lo t,.int hi u,.int 1 v]}
 | .VP o u=>h.get? a=some o/\cN H h a u
 | .X4 ps=>h.get? a=some {cls:=.none,data:=.fields ps}
 | .met f x=>h.get? a=some (UB (.ref f) (.ref x))
 | .ext φ=>φ h/\(∃o,h.get? a=some o)/\∀h1 h2:Heap,φ h1->(∀o,h1.get? a=some o->h2.get? a=some o)->φ h2
def dS (H:Hp)(h:Heap):Prop:=∀a o,H a=some o->cN P w H h a o
end
section
variable {P:RJ}{w:World}{H H':Hp}{h h':Heap}{a:Addr}{o:HO}
theorem cN.lt (x:cN P w H h a o):a<h.objs.size:=by
 cases o with
 | lst xs=>obtain⟨_,_,_,_,e⟩:=x;exact TQ e
 | tup xs=>obtain⟨_,_,_,p⟩:=x;exact p.lt
 | dK kvs=>obtain⟨_,_,_,_,o,_,_,e,_⟩:=x;exact TQ e
 | dT kvs=>obtain⟨_,_,_,_,o,_,_,e,_⟩:=x;exact TQ e
 | set S n=>obtain⟨o,_,_,_,e,_⟩:=x;exact TQ e
 | ins C dx fs=>obtain⟨_,_,_,e,_⟩:=x;exact TQ e
 | own y=>obtain⟨_,e⟩:=x;exact TQ e
 | xd fs=>obtain⟨_,⟨_,_,_,e,_⟩,_⟩:=x;exact TQ e
 | Xi lo hi=>obtain⟨_,_,_,e⟩:=x;exact TQ e
 | VP ob u=>obtain⟨e,_⟩:=x;exact TQ e
 | X4 ps=>exact TQ (show h.get? a=some _ from x)
 | met f y=>exact TQ (show h.get? a=some _ from x)
 | ext φ=>obtain⟨_,⟨_,e⟩,_⟩:=x;exact TQ e
theorem Paired.B1 {α β:Type}{F G:α->β->Prop}:∀{l₁:List α} {l₂:List β},Paired F l₁ l₂->(∀a b,F a b->G a b)->Paired G l₁ l₂
 | _,_,.nil,_=>.nil
 | _,_,.cons r t,f=>.cons (f _ _ r) (Paired.B1 t f)
theorem cN.Vt (x:cN P w H h a o)(k:∀b u,(b=a∨H b=some (.own a))->h.get? b=some u->h'.get? b=some u)
 (ho:∀b,H b=some (.own a)->H' b=some (.own a)) (ht:∀b xs,H b=some (.tup xs)->H' b=some (.tup xs)):cN P w H' h' a o:=by
 induction o with
 | lst xs=>obtain⟨z,UW,n,r,e⟩:=x;exact⟨z,UW,n,r,k _ _ (.inl rfl) e⟩
 | tup xs=>obtain⟨z,UW,r,ob,e,c⟩:=x;exact⟨z,UW,r,ob,k _ _ (.inl rfl) e,c⟩
 | dK kvs=>obtain⟨z,y,vs,r,ob,es,ep,e,c⟩:=x;exact⟨z,y,vs,r,ob,es,ep,k _ _ (.inl rfl) e,c⟩
 | dT kvs=>
   obtain⟨z,y,xs,r,ob,es,ep,e,c⟩:=x
   exact⟨z,y,xs,Paired.B1 r λp q z=>⟨z.1,ht _ _ z.2.1,z.2.2⟩,ob,es,ep,k _ _ (.inl rfl) e,c⟩
 | set S n=>obtain⟨ob,es,ep,t,e,c⟩:=x;exact⟨ob,es,ep,t,k _ _ (.inl rfl) e,c⟩
 | ins C dx fs=>
   obtain⟨d,z,ne,e,mA,⟨od,es,ep,e2,c⟩,r⟩:=x
   exact⟨ho _ d,z,ne,k _ _ (.inl rfl) e,mA,⟨od,es,ep,k _ _ (.inr d) e2,c⟩,r⟩
 | own y=>obtain⟨ob,e⟩:=x;exact⟨ob,k _ _ (.inl rfl) e⟩
 | xd fs=>obtain⟨mA,⟨od,es,ep,e,c⟩,r⟩:=x;exact⟨mA,⟨od,es,ep,k _ _ (.inl rfl) e,c⟩,r⟩
 | Xi lo hi=>obtain⟨t,u,v,e⟩:=x;exact⟨t,u,v,k _ _ (.inl rfl) e⟩
 | VP ob u ih=>obtain⟨e,q⟩:=x;exact⟨k _ _ (.inl rfl) e,ih q⟩
 | X4 ps=>
   have e:h.get? a=some {cls:=.none,data:=.fields ps}:=x
   show h'.get? a=some {cls:=.none,data:=.fields ps}
   exact k a _ (.inl rfl) e
 | met f y=>
   have e:h.get? a=some (UB (.ref f) (.ref y)):=x
   show h'.get? a=some (UB (.ref f) (.ref y))
   exact k a _ (.inl rfl) e
 | ext φ=>obtain⟨p,⟨o,e⟩,st⟩:=x;exact⟨st _ _ p λo q=>k _ _ (.inl rfl) q,⟨o,k _ _ (.inl rfl) e⟩,st⟩
theorem dS.lt (x:dS P w H h)(e:H a=some o):a<h.objs.size:=(x a o e).lt
theorem dS.fresh (x:dS P w H h)(e:h.objs.size<=a):H a=none:=by
 cases q:H a with
 | none=>rfl
 | some u=>exact UJ (Q0 (x.lt q) e) (Q3 _)
theorem dS.kept (x:dS P w H h)(k:∀b u,h.get? b=some u->h'.get? b=some u):dS P w H h':=λa o e=>
 (x a o e).Vt (λb u _ q=>k b u q) (λ_ q=>q) λ_ _ q=>q
theorem dS.laid (x:dS P w H h)(k:∀b u,h.get? b=some u->h'.get? b=some u)(hp:h.objs.size<=a)(new:cN P w (upd H a o) h' a o):dS P w (upd H a o) h':=λb u e=>by
 have hn:=x.fresh hp
 by_cases hb:b=a
 ·subst hb;rw[aA] at e;cases e;exact new
 ·rw[aB hb] at e
  exact(x b u e).Vt (λc v _ q=>k c v q) (λc q=>by rw[aB (cT q hn)];exact q) λc xs q=>by rw[aB (cT q hn)];exact q
end
def Rd (H:Hp)(a:Addr)(u:HO):Prop:=H a=some u∨∃o,H a=some (.VP o u)
theorem Rd.ok {P:RJ}{w:World}{H:Hp}{h:Heap}{a:Addr}{u:HO}(r:Rd H a u)(x:dS P w H h):cN P w H h a u:=by
 rcases r with r | ⟨o,r⟩
 ·exact x a u r
 ·obtain⟨_,q⟩:=x a _ r
  exact q
def yM:Option HO->Prop
 | some (.lst _)=>True
 | some (.dK _)=>True
 | some (.dT _)=>True
 | some (.set _ _)=>True
 | some (.ins _ _ _)=>True
 | some (.ext _)=>True
 | _=>False
section
variable {P:RJ}{w:World}{H:Hp}{h h':Heap}{x e:Addr}{o':HO}
theorem dS.write (ok:dS P w H h)(mu:yM (H x))(he:e=x∨H e=some (.own x))(k:∀b u,b≠e->h.get? b=some u->h'.get? b=some u)(YG:∃u,h'.get? e=some u)
 (new:cN P w (upd H x o') h' x o'):dS P w (upd H x o') h':=λb u q=>by
 have YW:∀c y,H c=some (.own y)->c≠x:=λc y r z=>by subst z;rw[r] at mu;exact mu
 have ntup:∀c xs,H c=some (.tup xs)->c≠x:=λc xs r z=>by subst z;rw[r] at mu;exact mu
 by_cases hb:b=x
 ·subst hb;rw[aA] at q;cases q;exact new
 ·rw[aB hb] at q
  by_cases Xm:b=e
  ·have q':H b=some (.own x):=by
    rcases he with z | z
    ·exact UJ (Xm.trans z) hb
    ·rw[Xm];exact z
   rw[q] at q';cases q'
   obtain⟨v,hv⟩:=YG
   exact⟨v,by rw[Xm];exact hv⟩
  ·refine(ok b u q).Vt (λc v hc r=>k c v ?_ r) (λc r=>by rw[aB (YW c b r)];exact r) λc xs r=>by rw[aB (ntup c xs r)];exact r
   rcases hc with rfl | hc
   ·exact Xm
   ·rintro rfl
    rcases he with z | z
    ·exact YW c b hc z
    ·rw[hc] at z;cases z;exact hb rfl
end
structure Un (fs ex:OE) (H H':Hp) (h h':Heap):Prop where
 keep:∀b o,h.get? b=some o->H b=none->b∉fs->b∉ex->h'.get? b=some o
 slot:∀b o,h.get? b=some o->H b=none->b∈fs->b∉ex->∃sl,h'.get? b=some {o with slots:=sl}
 free:∀b o,h.get? b=some o->H b=none->b∉ex->H' b=none
 there:∀b o,h.get? b=some o->b∉ex->∃o',h'.get? b=some o'
 V7:∀b xs,H b=some (.tup xs)->H' b=some (.tup xs)
 V3:∀b o u,H b=some (.VP o u)->H' b=some (.VP o u)
 V8:∀b ps,H b=some (.X4 ps)->∃more,H' b=some (.X4 (ps++more))
section
variable {fs fs' ex ex':OE}{H H1 H2:Hp}{h h1 h2 h':Heap}{a x e:Addr}{o:HO}
theorem Un.any (u:Un fs ex H H1 h h1){b:Addr}{ob:Obj}(q:h.get? b=some ob)(n:H b=none)(hx:b∉ex):∃sl,h1.get? b=some {ob with slots:=sl}:=by
 by_cases hb:b∈fs
 ·exact u.slot b ob q n hb hx
 ·exact⟨ob.slots,u.keep b ob q n hb hx⟩
theorem Un.kept (k:∀b u,h.get? b=some u->h'.get? b=some u):Un fs ex H H h h':=
 ⟨λb ob q _ _ _=>k b ob q,λb ob q _ _ _=>⟨ob.slots,k b ob q⟩,λ_ _ _ n _=>n,λb ob q _=>⟨ob,k b ob q⟩,λ_ _ q=>q,λ_ _ _ q=>q,λ_ ps q=>⟨#[],by rw[q];simp⟩⟩
theorem Un.refl:Un fs ex H H h h:=Un.kept λ_ _ q=>q
theorem Un.laid (k:∀b u,h.get? b=some u->h'.get? b=some u)(hp:h.objs.size<=a)(hn:H a=none):Un fs ex H (upd H a o) h h' where
 keep:=λb u q _ _ _=>k b u q
 slot:=λb u q _ _ _=>⟨u.slots,k b u q⟩
 free:=λb u q n _=>by rw[aB (Q1 (Q0 (TQ q) hp))];exact n
 there:=λb u q _=>⟨u,k b u q⟩
 V7:=λb xs q=>by rw[aB (cT q hn)];exact q
 V3:=λb u xs q=>by rw[aB (cT q hn)];exact q
 V8:=λb ps q=>⟨#[],by rw[aB (cT q hn),q];simp⟩
theorem Un.write (mu:yM (H x))(he:e=x∨H e=some (.own x))(k:∀b u,b≠e->h.get? b=some u->h'.get? b=some u)(YG:∃u,h'.get? e=some u):Un fs ex H (upd H x o) h h':=by
 have hx:∀b,H b=none->b≠x:=λb n z=>by subst z;rw[n] at mu;exact mu
 have hb:∀b,H b=none->b≠e:=λb n z=>by
  subst z
  rcases he with r | r
  ·exact hx b n r
  ·rw[n] at r;cases r
 have hm:∀b u,H b=some u->¬yM (some u)->b≠x:=λb u q nm z=>by subst z;rw[q] at mu;exact nm mu
 refine⟨λb u q n _ _=>k b u (hb b n) q,λb u q n _ _=>⟨u.slots,k b u (hb b n) q⟩,λb u q n _=>by rw[aB (hx b n)];exact n,λb u q _=>?_,
  λb xs q=>by rw[aB (hm b _ q λz=>z)];exact q,λb u xs q=>by rw[aB (hm b _ q λz=>z)];exact q,λb ps q=>⟨#[],by rw[aB (hm b _ q λz=>z),q];simp⟩⟩
 by_cases Xm:b=e
 ·subst Xm;exact YG
 ·exact⟨u,k b u Xm q⟩
end
def Dl (h:Heap)(H:Hp):OE:=(Pm h.objs.size).filter λa=>(H a).isSome
def lD (h:Heap)(H:Hp):Heap:=PySem.W.hideAll h (Dl h H)
theorem zM (h:Heap)(H:Hp):(lD h H).objs.size=h.objs.size:=PySem.W.hideAll_size _ _
theorem BP {h:Heap}{H:Hp}{b:Addr}{o:Obj}(e:h.get? b=some o)(n:H b=none):(lD h H).get? b=some o:=
 PySem.W.hideAll_get _ e λhm=>by
  have q:(H b).isSome=true:=(PM.mp hm).2
  rw[n] at q;simp at q
theorem Ez {h:Heap}{H:Hp}{b:Addr}{o:Obj}(e:(lD h H).get? b=some o):h.get? b=some o/\H b=none:=by
 have e':h.get? b=some o:=PySem.W.of_hideAll (Dl h H) e
 refine⟨e',?_⟩
 cases q:H b with
 | none=>rfl
 | some x=>
   have hm:b∈Dl h H:=PM.mpr ⟨P0.mpr (TQ e'),by simp[q]⟩
   have z:(lD h H).get? b=none:=PySem.W.hideAll_none (Dl h H) hm
   rw[z] at e;cases e
structure Mod (K:Uk) (mg:Oz) (base:Heap):Prop where
 kin:K.In base
 glob:base.Ns RG mg
 blt:∃mb,base.Ns builtinsNs mb/\∀x:Str,x≠"__name__"->mb x=Se x
 nolimit:base.NoLimit
structure Cx where
 prog:RJ
 w:World
 K:Uk
 mg:Oz
 base:Heap
 A:RL
 N:OC
 s₀:RA
 H₀:Hp
 env:Env
 outer:List Env
 stack:List Env
 ex:OE
 fn:Str->Bool
 calm:Bool
 pn:OA
 xe:Value->RA->Prop
def kR (l:List Env):OE:=l.filterMap (·.frame)
abbrev Cx.fs (X:Cx):OE:=kR X.outer
def cC (sc:Scope)(x:Str):Prop:=sc.names.lookup x=some .local∨sc.names.lookup x=some .cell∨sc.names.lookup x=some .free
def Loc (sc:Scope)(x:Str):Prop:=sc.names.lookup x=some .local∨sc.names.lookup x=some .cell
def Look (env:Env)(h:Heap)(m:Oz)(x:Str)(u:Value):Prop:=
 (env.kindOf x=some .local/\m x=some u)∨((env.kindOf x=some .cell∨env.kindOf x=some .free)/\∃c,env.cells.lookup x=some c/\h.IsCell c (some u))
structure Cx.Ok (X:Cx):Prop where
 mod:Mod X.K X.mg X.base
 kind:X.env.scope.kind= .function
 glob:X.env.globals=RG
 blt:X.env.builtins=builtinsNs
 above:X.s₀.heap.objs.size<=X.env.locals
 inj:∀x y c,X.env.cells.lookup x=some c->X.env.cells.lookup y=some c->x=y
 has:∀x,(X.env.kindOf x=some .cell∨X.env.kindOf x=some .free)->∃c,X.env.cells.lookup x=some c
 ZH:∀x c,X.fn x=true->X.env.cells.lookup x=some c->X.s₀.heap.objs.size<=c
 hd:X.calm=true->X.A.handled=none
 frames:X.A.frames=some X.stack
 stk:X.stack=X.outer∨(X.stack=X.env::X.outer/\X.env.frame=some X.env.locals)
 exf:∀b∈X.ex,b≠X.env.locals/\∀x c,X.env.cells.lookup x=some c->c≠b
 bs:∀b o,X.base.get? b=some o->X.s₀.heap.get? b=some o/\X.H₀ b=none
 XE:X.base.objs.size<=X.s₀.heap.objs.size
 W5:∀b o,X.base.get? b=some o->b∉X.ex
 WX:∀b∈X.ex,b∉X.fs
 V0:X.s₀.heap.FunFrames X.base X.outer
 Yv:∀b∈X.fs,X.H₀ b=none
structure Inv (X:Cx) (UT:OA) (σ:List (Option V)) (H:Hp) (s:RA):Prop where
 ok:X.Ok
 os:s.os=X.s₀.os
 bare:Rx s.gens
 base:Un X.fs X.ex X.H₀ H X.s₀.heap s.heap
 loc:∃m,s.heap.Ns X.env.locals m/\∀(i:Nat) (x:Str) (v:V),X.N[i]?=some x->σ[i]?=some (some v)->cC X.env.scope x->∃u,RelV v u/\Look X.env s.heap m x u
 cell:∀x c,X.env.cells.lookup x=some c->∃v,s.heap.IsCell c v
 free:H X.env.locals=none
 VB:∀x c,X.env.cells.lookup x=some c->H c=none
 pin:∀p∈X.pn++UT,s.heap.get? p.1=some p.2/\H p.1=none/\p.1≠X.env.locals/\p.1∉X.fs/\∀v,p.2.data≠ .cell v
 UZ:dS X.prog X.w H s.heap
 len:σ.length=X.N.length
section
variable {X:Cx}{UT:OA}{σ:List (Option V)}{H H':Hp}{s:RA}{h':Heap}
variable {t':Nat}{ch:OE}{x:Str}{i:Nat}
theorem Cx.Ok.N3 (ok:X.Ok){b:Addr}{o:Obj}(e:X.base.get? b=some o):b∉X.fs:=λhb=>by
 have:=(ok.V0.mem hb).1
 rw[e] at this;cases this
theorem Inv.bs (I:Inv X UT σ H s):∀b o,X.base.get? b=some o->s.heap.get? b=some o/\H b=none:=λb o e=>
 ⟨I.base.keep b o (I.ok.bs b o e).1 (I.ok.bs b o e).2 (I.ok.N3 e) (I.ok.W5 b o e),I.base.free b o (I.ok.bs b o e).1 (I.ok.bs b o e).2 (I.ok.W5 b o e)⟩
theorem Inv.bk (I:Inv X UT σ H s):∀b o,X.base.get? b=some o->s.heap.get? b=some o:=λb o e=>(I.bs b o e).1
theorem Inv.mod (I:Inv X UT σ H s):Mod X.K X.mg X.base:=I.ok.mod
theorem Inv.fo (I:Inv X UT σ H s):X.K.In s.heap:=I.ok.mod.kin.keeps I.bk
theorem Inv.lt (I:Inv X UT σ H s):X.env.locals<s.heap.objs.size:=let ⟨_,hn,_⟩:=I.loc;hn.lt
theorem Inv.sz (I:Inv X UT σ H s):X.s₀.heap.objs.size<=s.heap.objs.size:=QX I.ok.above (Rh I.lt)
theorem Inv.Nu (I:Inv X UT σ H s){a:Addr}(h:s.heap.objs.size<=a):a∉X.fs:=λhb=>by
 obtain⟨_,o,ho,_⟩:=I.ok.V0.mem hb
 exact UJ (Q0 (TQ ho) (QX I.sz h)) (Q3 _)
theorem Inv.Yy (I:Inv X UT σ H s):∀x c,X.env.cells.lookup x=some c->c≠X.env.locals:=λx c e z=>by
 obtain⟨v,o,ho,hd⟩:=I.cell x c e
 obtain⟨m,⟨o',es,ep,Wc,Zu,_⟩,_⟩:=I.loc
 rw[z,Wc] at ho;cases ho;rw[Zu] at hd;cases hd
theorem Inv.V0 (I:Inv X UT σ H s):s.heap.FunFrames X.base X.outer:=by
 have all:∀(l:List Env),(∀b∈kR l,b∈X.fs)->X.s₀.heap.FunFrames X.base l->s.heap.FunFrames X.base l:=by
  intro l
  induction l with
  | nil=>intro _ _;trivial
  | cons env r ih=>
    intro hs hl
    obtain⟨hk,⟨L,o,hf,hn,ho,hd⟩,hr⟩:=hl
    have hL:L∈X.fs:=hs L (by unfold kR;rw[Qz,hf];exact O3)
    obtain⟨sl,e⟩:=I.base.slot L o ho (I.ok.Yv L hL) hL λz=>I.ok.WX L z hL
    exact⟨hk,⟨L,_,hf,hn,e,hd⟩,ih (λb hb=>hs b (by unfold kR;rw[Qz,hf];exact O2 _ hb)) hr⟩
 exact all X.outer (λ_ hb=>hb) I.ok.V0
theorem Inv.stack (I:Inv X UT σ H s):s.heap.FunFrames X.base X.stack:=by
 rcases I.ok.stk with e | ⟨e,hf⟩
 ·rw[e];exact I.V0
 ·rw[e]
  obtain⟨m,hn,_⟩:=I.loc
  refine .cons (by rw[I.ok.kind];decide) hf hn ?_ I.V0
  exact Heap.get?_none_of_le (QX I.ok.XE I.ok.above)
theorem Inv.sX (I:Inv X UT σ H s):∀b∈kR X.stack,b∈X.env.locals::X.fs:=λb hb=>by
 rcases I.ok.stk with e | ⟨e,hf⟩
 ·rw[e] at hb;exact O2 _ hb
 ·rw[e] at hb
  unfold kR at hb
  rw[Qz,hf] at hb
  exact hb
theorem Inv.xv (I:Inv X UT σ H s):∀b∈kR X.stack,H b=none:=λb hb=>by
 rcases O7.mp (I.sX b hb) with e | hb
 ·rw[e];exact I.free
 ·obtain⟨_,o,ho,_⟩:=I.ok.V0.mem hb
  exact I.base.free b o ho (I.ok.Yv b hb) λz=>I.ok.WX b z hb
theorem Inv.step {g':Array Tb}{d':Drawn}(I:Inv X UT σ H s)
 (W4:∀b∈ch,(b∈X.ex∨X.s₀.heap.objs.size<=b)/\b≠X.env.locals/\(∀x c,X.env.cells.lookup x=some c->c≠b)/\∀p∈X.pn++UT,p.1≠b)
 (keep:∀b o,b≠X.env.locals->b∉X.fs->b∉ch->s.heap.get? b=some o->H b=none->h'.get? b=some o)
 (slot:∀b o,b≠X.env.locals->b∈X.fs->b∉ch->s.heap.get? b=some o->H b=none->∃sl,h'.get? b=some {o with slots:=sl}) (free:∀b o,b∉ch->s.heap.get? b=some o->H b=none->H' b=none)
 (there:∀b o,b∉ch->s.heap.get? b=some o->∃o',h'.get? b=some o')
 (V7:∀b xs,H b=some (.tup xs)->H' b=some (.tup xs)) (V3:∀b o u,H b=some (.VP o u)->H' b=some (.VP o u)) (V8:∀b ps,H b=some (.X4 ps)->∃more,H' b=some (.X4 (ps++more)))
 (ns:∀m,s.heap.Ns X.env.locals m->h'.Ns X.env.locals m) (UZ:dS X.prog X.w H' h') (hg:Rx g'):
 Inv X UT σ H' {s with heap:=h',gens:=g',drawn:=d',toks:=t'}:=by
 have neL:∀b o,X.s₀.heap.get? b=some o->b≠X.env.locals:=λb o e=>Q1 (Q0 (TQ e) I.ok.above)
 have W7:∀b o,X.s₀.heap.get? b=some o->b∉X.ex->b∉ch:=λb o e hx hb=>by
  rcases(W4 b hb).1 with z | z
  ·exact hx z
  ·exact UJ (Q0 (TQ e) z) (Q3 _)
 have cellK:∀x c,X.env.cells.lookup x=some c->∀v,s.heap.IsCell c v->h'.IsCell c v:=λx c e v ⟨o,ho,hd⟩=>by
  have Y0:c∉ch:=λz=>(W4 c z).2.2.1 x c e rfl
  by_cases hc:c∈X.fs
  ·obtain⟨sl,q⟩:=slot c o (I.Yy x c e) hc Y0 ho (I.VB x c e)
   exact⟨_,q,hd⟩
  ·exact⟨o,keep c o (I.Yy x c e) hc Y0 ho (I.VB x c e),hd⟩
 refine⟨I.ok,I.os,hg,⟨λb o e n hb hx=>?_,λb o e n hb hx=>?_,λb o e n hx=>?_,λb o e hx=>?_,λb xs e=>V7 b xs (I.base.V7 b xs e),λb o xs e=>V3 b o xs (I.base.V3 b o xs e),λb ps e=>?_⟩,?_,λx c e=>?_,?_,λx c e=>?_,λp hp=>?_,UZ,I.len⟩
 ·exact keep b o (neL b o e) hb (W7 b o e hx) (I.base.keep b o e n hb hx) (I.base.free b o e n hx)
 ·obtain⟨sl,e1⟩:=I.base.slot b o e n hb hx
  obtain⟨sl',e2⟩:=slot b _ (neL b o e) hb (W7 b o e hx) e1 (I.base.free b o e n hx)
  exact⟨sl',e2⟩
 ·obtain⟨o',e1⟩:=I.base.there b o e hx
  exact free b o' (W7 b o e hx) e1 (I.base.free b o e n hx)
 ·obtain⟨o',e1⟩:=I.base.there b o e hx
  exact there b o' (W7 b o e hx) e1
 ·obtain⟨m1,e1⟩:=I.base.V8 b ps e
  obtain⟨m2,e2⟩:=V8 b _ e1
  exact⟨m1++m2,by rw[e2,Array.append_assoc]⟩
 ·obtain⟨m,hn,hl⟩:=I.loc
  refine⟨m,ns m hn,λi x v e1 e2 e3=>?_⟩
  obtain⟨u,r,l⟩:=hl i x v e1 e2 e3
  refine⟨u,r,?_⟩
  rcases l with l | ⟨k,c,e,z⟩
  ·exact .inl l
  ·exact .inr ⟨k,c,e,cellK x c e _ z⟩
 ·obtain⟨v,z⟩:=I.cell x c e
  exact⟨v,cellK x c e v z⟩
 ·obtain⟨m,⟨o,_,_,ho,_⟩,_⟩:=I.loc
  exact free _ o (λz=>(W4 _ z).2.1 rfl) ho I.free
 ·obtain⟨v,o,ho,hd⟩:=I.cell x c e
  exact free c o (λz=>(W4 c z).2.2.1 x c e rfl) ho (I.VB x c e)
 ·obtain⟨e,n,ne,nf,d⟩:=I.pin p hp
  have Y0:p.1∉ch:=λz=>(W4 p.1 z).2.2.2 p hp rfl
  exact⟨keep p.1 p.2 ne nf Y0 e n,free p.1 p.2 Y0 e n,ne,nf,d⟩
theorem Inv.un (I:Inv X UT σ H s)(u:Un X.fs [] H H' s.heap h')(UZ:dS X.prog X.w H' h'):Inv X UT σ H' {s with heap:=h',toks:=t'}:=by
 obtain⟨m,⟨o,es,ep,ho,r⟩,_⟩:=id I.loc
 obtain⟨sl,hL⟩:=u.any ho I.free (by simp)
 exact I.step (g':=s.gens) (d':=s.drawn) (ch:=[]) (λ_ z=>nomatch z) (λb o _ hb _ e n=>u.keep b o e n hb (by simp)) (λb o _ hb _ e n=>u.slot b o e n hb (by simp)) (λb o _ e n=>u.free b o e n (by simp)) (λb o _ e=>u.there b o e (by simp)) u.V7 u.V3 u.V8 (λm' hm=>by
  obtain⟨o',es',ep',Wc,r'⟩:=hm
  rw[ho] at Wc;cases Wc
  exact⟨_,es',ep',hL,r'⟩) UZ I.bare
theorem Inv.call {g':Array Tb}{d':Drawn}(I:Inv X UT σ H s)(u:Un (kR X.stack) ch H H' s.heap h')(UZ:dS X.prog X.w H' h')(hg:Rx g')
 (W4:∀b∈ch,(b∈X.ex∨X.s₀.heap.objs.size<=b)/\b≠X.env.locals/\(∀x c,X.env.cells.lookup x=some c->c≠b)/\∀p∈X.pn++UT,p.1≠b):
 Inv X UT σ H' {s with heap:=h',gens:=g',drawn:=d',toks:=t'}:=by
 obtain⟨m,⟨o,es,ep,ho,r⟩,_⟩:=id I.loc
 obtain⟨sl,hL⟩:=u.any ho I.free λz=>(W4 _ z).2.1 rfl
 exact I.step (ch:=ch) W4 (λb o hL hb hc e n=>u.keep b o e n (λz=>(O7.mp (I.sX b z)).elim hL hb) hc) (λb o _ _ hc e n=>u.any e n hc) (λb o hc e n=>u.free b o e n hc) (λb o hc e=>u.there b o e hc) u.V7 u.V3 u.V8 (λm' hm=>by
  obtain⟨o',es',ep',Wc,r'⟩:=hm
  rw[ho] at Wc;cases Wc
  exact⟨_,es',ep',hL,r'⟩) UZ hg
theorem Inv.turned {it:Addr}(I:Inv X UT σ H s)(k:∀b o,b≠it->s.heap.get? b=some o->h'.get? b=some o)(hn:H it=none)(hL:it≠X.env.locals)
 (h1:it∈X.ex∨X.s₀.heap.objs.size<=it) (h2:∀x c,X.env.cells.lookup x=some c->c≠it) (h3:∀p∈X.pn++UT,p.1≠it):Inv X UT σ H {s with heap:=h',toks:=t'}:=by
 have YZ:∀b u,H b=some u->b≠it:=λb u e z=>by rw[z,hn] at e;cases e
 refine I.step (g':=s.gens) (d':=s.drawn) (ch:=[it]) (λb hb=>?_) (λb o _ _ hc e _=>k b o (λz=>hc (by simp[z])) e) (λb o _ _ hc e _=>⟨o.slots,k b o (λz=>hc (by simp[z])) e⟩) (λ_ _ _ _ n=>n)
  (λb o hc e=>⟨o,k b o (λz=>hc (by simp[z])) e⟩) (λ_ _ e=>e) (λ_ _ _ e=>e) (λb ps e=>⟨#[],by rw[e];simp⟩) (λm hm=>?_) (λb u e=>?_) I.bare
 ·have e:b=it:=by simpa using hb
  subst e
  exact⟨h1,hL,h2,h3⟩
 ·obtain⟨o,es,ep,ho,r⟩:=hm
  exact⟨o,es,ep,k _ o (Rk hL) ho,r⟩
 ·refine(I.UZ b u e).Vt (λc v hc q=>k c v ?_ q) (λ_ q=>q) λ_ _ q=>q
  rcases hc with z | z
  ·rw[z];exact YZ b u e
  ·exact YZ c _ z
theorem Inv.tok (I:Inv X UT σ H s)(t:Nat):Inv X UT σ H {s with toks:=t}:=I.un (h':=s.heap) (t':=t) Un.refl I.UZ
theorem Inv.kept (I:Inv X UT σ H s)(k:∀b u,s.heap.get? b=some u->h'.get? b=some u):Inv X UT σ H {s with heap:=h',toks:=t'}:=I.un (Un.kept k) (I.UZ.kept k)
theorem Inv.laid {a:Addr}{o:HO}(I:Inv X UT σ H s)(k:∀b u,s.heap.get? b=some u->h'.get? b=some u)(hp:s.heap.objs.size<=a)(new:cN X.prog X.w (upd H a o) h' a o):
 Inv X UT σ (upd H a o) {s with heap:=h',toks:=t'}:=I.un (Un.laid k hp (I.UZ.fresh hp)) (I.UZ.laid k hp new)
theorem Inv.write {x e:Addr}{o:HO}(I:Inv X UT σ H s)(mu:yM (H x))(he:e=x∨H e=some (.own x))(k:∀b u,b≠e->s.heap.get? b=some u->h'.get? b=some u)(YG:∃u,h'.get? e=some u)
 (new:cN X.prog X.w (upd H x o) h' x o):Inv X UT σ (upd H x o) {s with heap:=h',toks:=t'}:=I.un (Un.write mu he k YG) (I.UZ.write mu he k YG new)
theorem Inv.ju {XG:OA}(I:Inv X UT σ H s)(h:∀p∈XG,s.heap.get? p.1=some p.2/\H p.1=none/\p.1≠X.env.locals/\p.1∉X.fs/\∀v,p.2.data≠ .cell v):Inv X XG σ H s:=
 ⟨I.ok,I.os,I.bare,I.base,I.loc,I.cell,I.free,I.VB,λp hp=>(Pa.mp hp).elim (λz=>I.pin p (Pj _ z)) (h p),I.UZ,I.len⟩
theorem vt {N:OC}(hN:N.Nodup){j:Nat}(a:N[i]?=some x)(b:N[j]?=some x):i=j:=by
 obtain⟨h1,e1⟩:=OW.mp a
 obtain⟨h2,e2⟩:=OW.mp b
 exact(QF hN).mp (e1.trans e2.symm)
theorem r6 {M:Model}{A:RL}{E:Value->RA->Prop}{v:V}{u:Value}{Q:Unit->RA->Prop}(I:Inv X UT σ H s)(hN:X.N.Nodup)(hi:X.N[i]?=some x)(hx:Loc X.env.scope x)(r:RelV v u)
 (h:∀s',Inv X UT (σ.set i (some v)) H s'->(∃a,TY a s.heap s'.heap/\(a=X.env.locals∨X.env.cells.lookup x=some a))->Q () s') (hf:X.fn x=true∨X.env.scope.names.lookup x=some .local:=by first | exact .inl rfl | exact .inr rfl | assumption):wpAny M A (storeName X.env x u) Q E s:=by
 obtain⟨m,hn,hl⟩:=id I.loc
 have hcls:(X.env.scope.kind== .class ||(X.env.scope.kind== .module&&X.env.locals != X.env.globals))=false:=by rw[I.ok.kind];rfl
 have hiσ:i<σ.length:=by rw[I.len];exact(OW.mp hi).1
 have Yy:=I.Yy
 have tracked:∀{a:Addr} {h':Heap},(∃o,s.heap.get? a=some o/\H a=none)->TY a s.heap h'->dS X.prog X.w H h':=λ{a h'} ha hs b ob e=>by
  obtain⟨_,_,XT⟩:=ha
  refine(I.UZ b ob e).Vt (λc w' hc q=>(hs.2 c ?_).trans q) (λ_ q=>q) λ_ _ q=>q
  rintro rfl
  rcases hc with rfl | hc
  ·rw[XT] at e;cases e
  ·rw[XT] at hc;cases hc
 rcases hx with hk | hk
 ·refine wpAny_storeName_local hk hn (λh' Xk hs=>?_) hcls
  obtain⟨oL,_,_,hoL,_⟩:=id hn
  refine h _ ⟨I.ok,I.os,I.bare,⟨λb o e n hb hx=>?_,λb o e n hb hx=>?_,I.base.free,λb o e hx=>?_,I.base.V7,I.base.V3,I.base.V8⟩,⟨_,Xk,λj y v' e1 e2 e3=>?_⟩,λy c e=>?_,I.free,I.VB,λp hp=>?_,tracked ⟨oL,hoL,I.free⟩ hs,by simpa using I.len⟩ ⟨_,hs,.inl rfl⟩
  ·exact(hs.2 b (Q1 (Q0 (TQ e) I.ok.above))).trans (I.base.keep b o e n hb hx)
  ·obtain⟨sl,e1⟩:=I.base.slot b o e n hb hx
   exact⟨sl,(hs.2 b (Q1 (Q0 (TQ e) I.ok.above))).trans e1⟩
  ·obtain⟨o',e1⟩:=I.base.there b o e hx
   exact⟨o',(hs.2 b (Q1 (Q0 (TQ e) I.ok.above))).trans e1⟩
  ·by_cases hj:j=i
   ·subst hj
    rw[hi] at e1;cases e1
    rw[Pc hiσ] at e2
    cases e2
    exact⟨u,r,.inl ⟨hk,by simp⟩⟩
   ·rw[Pq (Rk hj)] at e2
    obtain⟨u',r',q⟩:=hl j y v' e1 e2 e3
    refine⟨u',r',?_⟩
    rcases q with⟨k,e⟩ | ⟨k,c,e,z⟩
    ·refine .inl ⟨k,?_⟩
     have:y≠x:=λe=>hj (vt hN e1 (e▸hi))
     simp[this,e]
    ·exact .inr ⟨k,c,e,z.sameBut hs (Yy y c e)⟩
  ·obtain⟨w',z⟩:=I.cell y c e
   exact⟨w',z.sameBut hs (Yy y c e)⟩
  ·obtain⟨e,n,ne,nf,d⟩:=I.pin p hp
   exact⟨(hs.2 p.1 ne).trans e,n,ne,nf,d⟩
 ·have hfn:X.fn x=true:=by
   rcases hf with z | z
   ·exact z
   ·rw[z] at hk;cases hk
  obtain⟨c,hc⟩:=I.ok.has x (.inl hk)
  obtain⟨w',z⟩:=I.cell x c hc
  refine wpAny_storeName_cell I.ok.kind hk hc z (λh' Zw hs=>?_)
  obtain⟨oc,hoc,hocd⟩:=id z
  refine h {s with heap:=h'} ⟨I.ok,I.os,I.bare,⟨λb o e n hb hx=>?_,λb o e n hb hx=>?_,I.base.free,λb o e hx=>?_,I.base.V7,I.base.V3,I.base.V8⟩,⟨m,hn.sameBut hs (Rk (Yy x c hc)),λj y v' e1 e2 e3=>?_⟩,λy c' e=>?_,I.free,I.VB,λp hp=>?_,tracked ⟨oc,hoc,I.VB x c hc⟩ hs,by simpa using I.len⟩ ⟨c,hs,.inr hc⟩
  ·exact(hs.2 b (Q1 (Q0 (TQ e) (I.ok.ZH x c hfn hc)))).trans (I.base.keep b o e n hb hx)
  ·obtain⟨sl,e1⟩:=I.base.slot b o e n hb hx
   exact⟨sl,(hs.2 b (Q1 (Q0 (TQ e) (I.ok.ZH x c hfn hc)))).trans e1⟩
  ·obtain⟨o',e1⟩:=I.base.there b o e hx
   exact⟨o',(hs.2 b (Q1 (Q0 (TQ e) (I.ok.ZH x c hfn hc)))).trans e1⟩
  ·by_cases hj:j=i
   ·subst hj
    rw[hi] at e1;cases e1
    rw[Pc hiσ] at e2
    cases e2
    exact⟨u,r,.inr ⟨.inl hk,c,hc,Zw⟩⟩
   ·rw[Pq (Rk hj)] at e2
    obtain⟨u',r',q⟩:=hl j y v' e1 e2 e3
    refine⟨u',r',?_⟩
    rcases q with q | ⟨k,c',e,z'⟩
    ·exact .inl q
    ·refine .inr ⟨k,c',e,z'.sameBut hs ?_⟩
     rintro rfl
     exact hj (vt hN e1 (I.ok.inj _ _ _ e hc▸hi))
  ·by_cases XU:c'=c
   ·subst XU;exact⟨_,Zw⟩
   ·obtain⟨w2,z2⟩:=I.cell y c' e
    exact⟨w2,z2.sameBut hs XU⟩
  ·obtain⟨e,n,ne,nf,d⟩:=I.pin p hp
   refine⟨(hs.2 p.1 ?_).trans e,n,ne,nf,d⟩
   intro q
   rw[q,hoc] at e
   have q':oc=p.2:=Option.some.inj e
   exact d w' (by rw[← q'];exact hocd)
theorem om {M:Model}{A:RL}{E:Value->RA->Prop}{v:V}{u:Value}{Q:Unit->RA->Prop}(I:Inv X UT σ H s)(hN:X.N.Nodup)(hi:X.N[i]?=some x)(hx:Loc X.env.scope x)(r:RelV v u)
 (h:∀s',Inv X UT (σ.set i (some v)) H s'->Q () s') (hf:X.fn x=true∨X.env.scope.names.lookup x=some .local:=by first | exact .inl rfl | exact .inr rfl | assumption):wpAny M A (storeName X.env x u) Q E s:=
 r6 I hN hi hx r (λs' I' _=>h s' I') hf
theorem Inv.Mg {s':RA}(I:Inv X UT σ H s)(ho:s'.os=s.os)(u:Un (kR X.stack) ch H H' s.heap s'.heap)(UZ:dS X.prog X.w H' s'.heap)(hg:Rx s'.gens)
 (W4:∀b∈ch,(b∈X.ex∨X.s₀.heap.objs.size<=b)/\b≠X.env.locals/\(∀x c,X.env.cells.lookup x=some c->c≠b)/\∀p∈X.pn++UT,p.1≠b):Inv X UT σ H' s':=by
 obtain⟨h',g',d',t',o'⟩:=s'
 have e:o'=s.os:=ho
 subst e
 exact I.call (g':=g') (t':=t') (d':=d') u UZ hg W4
end
abbrev XK:=Value->Option Addr->Hp->Prop
abbrev St:=List (Option V)
abbrev VK:=V->Hp->Prop
abbrev TE:=St->Hp->VK->Prop
abbrev TT:=St->Hp->(Bool->Hp->Prop)->Prop
abbrev TA:=St->Hp->(List V->Hp->Prop)->Prop
structure Ends where
 nx:St->Hp->Prop
 rt:VK
 bk:St->Hp->Prop:=λ_ _=>False
 ct:St->Hp->Prop:=λ_ _=>False
abbrev TS:=Ends->St->Hp->Prop
def EP (X:Cx)(UT:OA)(σ:St)(Q:VK)(u:Value)(s':RA):Prop:=∃v H',Inv X UT σ H' s'/\RelV v u/\Q v H'
def TP (X:Cx)(UT:OA)(σ:St)(Q:Bool->Hp->Prop)(b:Bool)(s':RA):Prop:=∃H',Inv X UT σ H' s'/\Q b H'
def AP (X:Cx)(UT:OA)(σ:St)(Q:List V->Hp->Prop)(us:OF)(s':RA):Prop:=∃vs H',Inv X UT σ H' s'/\Vals vs us/\Q vs H'
def SP (X:Cx)(UT:OA)(D:Ends)(f:Flow)(s':RA):Prop:=
 match f with
 | .next=>∃σ' H',Inv X UT σ' H' s'/\D.nx σ' H'
 | .brk=>∃σ' H',Inv X UT σ' H' s'/\D.bk σ' H'
 | .cont=>∃σ' H',Inv X UT σ' H' s'/\D.ct σ' H'
 | .ret u=>∃v σ' H',Inv X UT σ' H' s'/\RelV v u/\D.rt v H'
def PE (X:Cx)(e:Expr)(t:TE):Prop:=
 ∀(UT:OA) (s:RA) (σ:St) (H:Hp) (Q:VK),Inv X UT σ H s->t σ H Q->wpAny (model X.prog X.w) X.A (eval e X.env) (EP X UT σ Q) X.xe s
def PT (X:Cx)(e:Expr)(t:TT):Prop:=
 ∀(UT:OA) (s:RA) (σ:St) (H:Hp) (Q:Bool->Hp->Prop),Inv X UT σ H s->t σ H Q->wpAny (model X.prog X.w) X.A (Su e X.env (eval e X.env)) (TP X UT σ Q) X.xe s
def PW (X:Cx)(e:Expr)(t:TT):Prop:=
 ∀(whole:Sem Value) (UT:OA) (s:RA) (σ:St) (H:Hp) (Q:Bool->Hp->Prop),Inv X UT σ H s->t σ H Q->wpAny (model X.prog X.w) X.A (Su e X.env whole) (TP X UT σ Q) X.xe s
theorem PW.pt {X:Cx}{e:Expr}{t:TT}(h:PW X e t):PT X e t:=h _
def PA (X:Cx)(es:OG)(t:TA):Prop:=
 ∀(pos:Pos) (UT:OA) (s:RA) (σ:St) (H:Hp) (Q:List V->Hp->Prop),Inv X UT σ H s->t σ H Q->wpAny (model X.prog X.w) X.A (spliced (RM pos (RC es X.env))) (AP X UT σ Q) X.xe s
def PS (X:Cx)(st:Stmt)(t:TS):Prop:=
 ∀(UT:OA) (s:RA) (σ:St) (H:Hp) (D:Ends),Inv X UT σ H s->t D σ H->wpAny (model X.prog X.w) X.A (exec st X.env) (SP X UT D) X.xe s
def jA (X:Cx)(st:List Stmt)(t:TS):Prop:=
 ∀(UT:OA) (s:RA) (σ:St) (H:Hp) (D:Ends),Inv X UT σ H s->t D σ H->wpAny (model X.prog X.w) X.A (execs st X.env) (SP X UT D) X.xe s
theorem aT {α:Type}{t:Sem α}{Q Q':α->RA->Prop}{M:Model}{A:RL}{E:Value->RA->Prop}{s:RA}(h:wpAny M A t Q E s)(hQ:∀a s,Q a s->Q' a s):wpAny M A t Q' E s:=RZ h hQ λ_ _ x=>x
section
variable {X:Cx}
def N4 (i:Nat):TE:=λσ H Q=>∃v,σ[i]?=some (some v)/\Q v H
def tC (v:V):TE:=λ_ H Q=>Q v H
theorem bb {i:Nat}{x:Str}{pos:Pos}(hN:X.N[i]?=some x)(hv:cC X.env.scope x)(hd:Vd x:=by decide)(U0:Vp x:=by decide):PE X (.Name x pos) (N4 i):=by
 intro UT s σ H Q I h
 obtain⟨v,e,h⟩:=h
 obtain⟨m,hn,hl⟩:=I.loc
 obtain⟨u,r,l⟩:=hl i x v hN e hv
 have fin:EP X UT σ Q u s:=⟨v,H,I,r,h⟩
 rcases l with⟨hk,hm⟩ | ⟨hk,c,hc,Wb⟩
 ·exact wpAny_Name (wpAny_loadName_local I.ok.kind hk hn hm fin) hd
 ·rcases hk with hk | hk
  ·exact wpAny_Name (wpAny_loadName_cell I.ok.kind hk hc Wb fin) hd
  ·exact wpAny_Name (wpAny_loadName_free I.ok.kind hk hc Wb fin U0) hd
theorem AL {i j pos}:PE X (.Constant (.int i) j pos) (tC (.int i)):=λ_ _ _ H _ I h=>wpAny_Constant_int ⟨.int i,H,I.tok _,⟨_,rfl⟩,h⟩
theorem xR {b j pos}:PE X (.Constant (.bool b) j pos) (tC (.bl b)):=λ_ _ _ H _ I h=>Constant_bool ⟨.bl b,H,I,rfl,h⟩
theorem JG {j pos}:PE X (.Constant .none j pos) (tC .U8):=λ_ _ _ H _ I h=>Constant_none ⟨.U8,H,I,rfl,h⟩
theorem Jr {x j pos}:PE X (.Constant (.str x) j pos) (tC (.str x)):=λ_ _ _ H _ I h=>Calls.Constant_str ⟨.str x,H,I.tok _,⟨_,rfl⟩,h⟩
def Gl (X:Cx)(x:Str):Prop:=X.env.kindOf x=some .globalImplicit
theorem qt {E:Value->RA->Prop}{UT:OA}{s:RA}{σ:St}{H:Hp}{x:Str}{u:Value}{pos:Pos}{Q:Value->RA->Prop}(I:Inv X UT σ H s)(hg:Gl X x)(hm:X.mg x=some u)(h:Q u s)
 (hd:Vd x:=by decide):wpAny (model X.prog X.w) X.A (eval (.Name x pos) X.env) Q E s:=
 Calls.Name_function_global I.ok.kind hg (Calls.loadGlobal_global (by rw[I.ok.glob];exact I.mod.glob.keeps I.bk) hm h) hd
theorem gq {E:Value->RA->Prop}{UT:OA}{s:RA}{σ:St}{H:Hp}{x:Str}{u:Value}{pos:Pos}{Q:Value->RA->Prop}(I:Inv X UT σ H s)(hg:Gl X x)(hm:X.mg x=none)(hv:Se x=some u)(h:Q u s)
 (hn:x≠"__name__":=by decide) (hd:Vd x:=by decide):wpAny (model X.prog X.w) X.A (eval (.Name x pos) X.env) Q E s:=by
 obtain⟨mb,h1,h2⟩:=I.mod.blt
 exact Calls.Name_function_global I.ok.kind hg (Calls.loadGlobal_builtin (by rw[I.ok.glob];exact I.mod.glob.keeps I.bk) hm (by rw[I.ok.blt];exact h1.keeps I.bk) ((h2 x hn).trans hv) h) hd
theorem iK {x:Str}{v:V}{u:Value}{pos:Pos}(hg:Gl X x)(hm:X.mg x=some u)(r:RelV v u)(hd:Vd x:=by decide):PE X (.Name x pos) (tC v):=
 λ_ _ _ H _ I h=>qt I hg hm ⟨v,H,I,r,h⟩ hd
theorem Gd {x:Str}{v:V}{u:Value}{pos:Pos}(hg:Gl X x)(hm:X.mg x=none)(hv:Se x=some u)(r:RelV v u)(hn:x≠"__name__":=by decide)(hd:Vd x:=by decide):PE X (.Name x pos) (tC v):=
 λ_ _ _ H _ I h=>gq I hg hm hv ⟨v,H,I,r,h⟩ hn hd
variable {a b:Expr}{ta tb:TE}{pos:Pos}
def PC (X:Cx)(op:CmpOp)(a b:Expr)(t:TE):Prop:=
 ∀(UT:OA) (s:RA) (σ:St) (H:Hp) (Q:VK),Inv X UT σ H s->t σ H Q->
  wpAny (model X.prog X.w) X.A (eval a X.env) (λv s₁=>wpAny (model X.prog X.w) X.A (eval b X.env) (λu s₂=>wpAny (model X.prog X.w) X.A (RR op v u) (EP X UT σ Q) X.xe s₂) X.xe s₁) X.xe s
def tB (t:TE):TT:=λσ H Q=>t σ H λx H1=>∃c,x= .bl c/\Q c H1
theorem m5 {op:CmpOp}{t:TE}(h:PC X op a b t)(h1:Sh op b=false:=by first | exact YX _ (by decide) (by decide) | rfl):PT X (.Compare a [op] [b] pos) (tB t):=by
 intro UT s σ H Q I hw
 refine wpAny_isTrue_Compare1 (aT (h UT s σ H _ I hw) λv s1 h1=>aT h1 λu s2 h2=>aT h2 λc s3 ⟨x,H1,I1,r1,q1⟩=>?_) h1
 obtain⟨d,rfl,q⟩:=q1
 cases r1
 exact RQ ⟨H1,I1,q⟩
theorem Gp {e:Expr}{t:TE}(h:PE X e t)(he:∀whole,Su e X.env whole=(do let v ← whole;SM e.pos;Si [v] (truthy v)):=by intro _;rfl):PT X e (tB t):=by
 intro UT s σ H Q I hw
 refine isTrue_plain (aT (h UT s σ H _ I hw) λv s1 ⟨x,H1,I1,r1,q1⟩=>?_) (he _)
 obtain⟨d,rfl,q⟩:=q1
 cases r1
 exact RQ ⟨H1,I1,q⟩
variable {tA tB':TT}{rest:OG}
def NI (t u:TT):TT:=λσ H Q=>t σ H λc H1=>if c=true then u σ H1 Q else Q false H1
def tOr (t u:TT):TT:=λσ H Q=>t σ H λc H1=>if c=true then Q true H1 else u σ H1 Q
def Oe (t:TT):TT:=λσ H Q=>t σ H λc H1=>Q (!c) H1
theorem Fl (ha:PT X a tA):PW X (.BoolOp .And [a] pos) tA:=by
 intro wh UT s σ H Q I h
 refine isTrue_and (aT (ha UT s σ H Q I h) λc s1 e=>?_)
 cases c with
 | true=>exact isTrue_and_nil e
 | false=>exact e
theorem IC (ha:PT X a tA):PW X (.BoolOp .Or [a] pos) tA:=by
 intro wh UT s σ H Q I h
 refine isTrue_or (aT (ha UT s σ H Q I h) λc s1 e=>?_)
 cases c with
 | false=>exact isTrue_or_nil e
 | true=>exact e
theorem Hi (ha:PT X a tA)(hb:PW X (.BoolOp .And (b::rest) pos) tB'):PW X (.BoolOp .And (a::b::rest) pos) (NI tA tB'):=by
 intro wh UT s σ H Q I h
 refine isTrue_and (aT (ha UT s σ H _ I h) λc s1 ⟨H1,I1,q1⟩=>?_)
 cases c with
 | true=>exact hb wh UT s1 σ H1 Q I1 q1
 | false=>exact⟨H1,I1,q1⟩
theorem LA (ha:PT X a tA)(hb:PW X (.BoolOp .Or (b::rest) pos) tB'):PW X (.BoolOp .Or (a::b::rest) pos) (tOr tA tB'):=by
 intro wh UT s σ H Q I h
 refine isTrue_or (aT (ha UT s σ H _ I h) λc s1 ⟨H1,I1,q1⟩=>?_)
 cases c with
 | true=>exact⟨H1,I1,q1⟩
 | false=>exact hb wh UT s1 σ H1 Q I1 q1
theorem Km (ha:PT X a tA):PT X (.UnaryOp .Not a pos) (Oe tA):=by
 intro UT s σ H Q I h
 exact isTrue_not (ha UT s σ H (λc H1=>Q (!c) H1) I h)
def LN (ta tb:TE):TE:=λσ H Q=>ta σ H λx H1=>∃c,x= .bl c/\if c=true then tb σ H1 Q else Q (.bl false) H1
def LQ (ta:TE):TE:=λσ H Q=>ta σ H λx H1=>∃c,x= .bl c/\Q (.bl (!c)) H1
theorem GW {op}{t:TE}(h:PE X a t):PE X (.BoolOp op [a] pos) t:=λUT s σ H Q I hw=>BoolOp_one (h UT s σ H Q I hw)
theorem Hk (ha:PE X a ta)(hb:PE X (.BoolOp .And (b::rest) pos) tb):PE X (.BoolOp .And (a::b::rest) pos) (LN ta tb):=by
 intro UT s σ H Q I h
 refine BoolOp_and (aT (ha UT s σ H _ I h) λv s1 ⟨x,H1,I1,r1,q1⟩=>?_)
 obtain⟨c,rfl,q1⟩:=q1
 cases r1
 refine RQ ?_
 cases c with
 | true=>exact hb UT s1 σ H1 Q I1 q1
 | false=>exact⟨.bl false,H1,I1,rfl,q1⟩
theorem HU (ha:PE X a ta):PE X (.UnaryOp .Not a pos) (LQ ta):=by
 intro UT s σ H Q I h
 refine UnaryOp_ (aT (ha UT s σ H _ I h) λv s1 ⟨x,H1,I1,r1,q1⟩=>?_)
 obtain⟨c,rfl,q1⟩:=q1
 cases r1
 exact not_of (RQ ⟨.bl (!c),H1,I1,rfl,q1⟩)
def tIf (t:TT)(ta tb:TE):TE:=λσ H Q=>t σ H λc H1=>if c=true then ta σ H1 Q else tb σ H1 Q
theorem Bi {c:Expr}(hc:PT X c tA)(ha:PE X a ta)(hb:PE X b tb):PE X (.IfExp c a b pos) (tIf tA ta tb):=by
 intro UT s σ H Q I h
 refine wpAny_IfExp (aT (hc UT s σ H _ I h) λd s1 ⟨H1,I1,q1⟩=>?_)
 cases d with
 | true=>exact ha UT s1 σ H1 Q I1 q1
 | false=>exact hb UT s1 σ H1 Q I1 q1
end
def aU (K:Uk)(H:Hp)(a:Addr)(xs:List V):Prop:=
 Rd H a (.lst xs)∨
  ∃(o:Obj) (UW:Array Value) (n:Nat),K.lookup a=some o/\o.cls= .type "list"/\o.dict=none/\o.data= .seq UW n/\UW.size<=RE/\Vals xs UW.toList
def du (K:Uk)(H:Hp)(a:Addr)(xs:List V):Prop:=
 Rd H a (.tup xs)∨
  ∃(o:Obj) (UW:Array Value) (n:Nat),K.lookup a=some o/\o.cls= .type "tuple"/\o.data= .seq UW n/\UW.size<=RE/\Vals xs UW.toList
def NF:Value->Option V
 | .none=>some .U8
 | .bool b=>some (.bl b)
 | .int i _=>some (.int i)
 | .str x _=>some (.str x)
 | .bytes b _=>some (.WN b)
 | .float b _=>some (.Yw b)
 | .ref a=>some (.ref a)
 | .type n=>some (.ty n)
 | _=>none
theorem RelV.abs {x:V}{u:Value}(r:RelV x u):NF u=some x:=by
 cases x with
 | U8=>cases r;rfl
 | bl _=>cases r;rfl
 | int _=>obtain⟨t,rfl⟩:=r;rfl
 | str _=>obtain⟨t,rfl⟩:=r;rfl
 | WN _=>obtain⟨t,rfl⟩:=r;rfl
 | Yw _=>obtain⟨t,rfl⟩:=r;rfl
 | ref _=>cases r;rfl
 | ty _=>cases r;rfl
theorem RelV.inj {x y:V}{u:Value}(r:RelV x u)(q:RelV y u):x=y:=Option.some.inj (r.abs.symm.trans q.abs)
theorem Vals.inj:∀{xs ys:List V} {us:OF},Vals xs us->Vals ys us->xs=ys
 | _,_,_,.nil,.nil=>rfl
 | _,_,_,.cons r t,.cons r' t'=>by rw[r.inj r',Vals.inj t t']
section
variable {X:Cx}{UT:OA}{σ:St}{H:Hp}{s:RA}{a:Addr}{xs ys:List V}
theorem aU.of {K:Uk}(h:H a=some (.lst xs)):aU K H a xs:=.inl (.inl h)
theorem du.of {K:Uk}(h:H a=some (.tup xs)):du K H a xs:=.inl (.inl h)
theorem Inv.list (I:Inv X UT σ H s)(h:aU X.K H a xs):∃UW:OF,Vals xs UW/\PlainL s.heap a UW.toArray/\xs.length<=RE:=by
 rcases h with h | ⟨o,UW,n,hk,hc,hd,hs,hz,r⟩
 ·obtain⟨z,UW,n,r,e⟩:=h.ok I.UZ
  exact⟨UW,r,⟨_,n,e,rfl,rfl,rfl⟩,z⟩
 ·refine⟨UW.toList,r,⟨o,n,I.fo a o hk,hc,hd,by simpa using hs⟩,?_⟩
  have e:=r.length
  simp only[OI] at e
  omega
theorem Inv.tuple (I:Inv X UT σ H s)(h:du X.K H a xs):∃UW:OF,Vals xs UW/\IsTup s.heap a UW.toArray/\xs.length<=RE:=by
 rcases h with h | ⟨o,UW,n,hk,hc,hs,hz,r⟩
 ·obtain⟨z,UW,r,p⟩:=h.ok I.UZ
  exact⟨UW,r,p,z⟩
 ·refine⟨UW.toList,r,⟨o,I.fo a o hk,hc,n,by simpa using hs⟩,?_⟩
  have e:=r.length
  simp only[OI] at e
  omega
theorem Inv.iH (I:Inv X UT σ H s)(h:aU X.K H a xs)(h':aU X.K H a ys):xs=ys:=by
 obtain⟨UW,r,⟨o,n,e,_,_,d⟩,_⟩:=I.list h
 obtain⟨its',r',⟨o',n',e',_,_,d'⟩,_⟩:=I.list h'
 rw[e] at e';cases e'
 rw[d] at d'
 injection d' with d1 _
 have:UW=its':=by simpa using congrArg Array.toList d1
 subst this
 exact r.inj r'
theorem Inv.rL (I:Inv X UT σ H s)(h:du X.K H a xs)(h':du X.K H a ys):xs=ys:=by
 obtain⟨UW,r,⟨o,e,_,n,d⟩,_⟩:=I.tuple h
 obtain⟨its',r',⟨o',e',_,n',d'⟩,_⟩:=I.tuple h'
 rw[e] at e';cases e'
 rw[d] at d'
 injection d' with d1 _
 have:UW=its':=by simpa using congrArg Array.toList d1
 subst this
 exact r.inj r'
end
abbrev Cx.kC (X:Cx)(E:Value->RA->Prop):Cx:={X with xe:=E}
abbrev Cx.h9 (X:Cx):Cx:=X.kC λ_ _=>False
theorem Cx.Ok.kC {X:Cx}(ok:X.Ok)(E:Value->RA->Prop):(X.kC E).Ok:=
 ⟨ok.mod,ok.kind,ok.glob,ok.blt,ok.above,ok.inj,ok.has,ok.ZH,ok.hd,ok.frames,ok.stk,ok.exf,ok.bs,ok.XE,ok.W5,ok.WX,ok.V0,ok.Yv⟩
theorem Cx.Ok.iU {X:Cx}{E:Value->RA->Prop}(ok:(X.kC E).Ok):X.Ok:=
 ⟨ok.mod,ok.kind,ok.glob,ok.blt,ok.above,ok.inj,ok.has,ok.ZH,ok.hd,ok.frames,ok.stk,ok.exf,ok.bs,ok.XE,ok.W5,ok.WX,ok.V0,ok.Yv⟩
section
variable {X:Cx}{UT:OA}{σ:St}{H:Hp}{s:RA}{E:Value->RA->Prop}
theorem Inv.kC (I:Inv X UT σ H s)(E:Value->RA->Prop):Inv (X.kC E) UT σ H s:=⟨I.ok.kC E,I.os,I.bare,I.base,I.loc,I.cell,I.free,I.VB,I.pin,I.UZ,I.len⟩
theorem Inv.iU (I:Inv (X.kC E) UT σ H s):Inv X UT σ H s:=⟨I.ok.iU,I.os,I.bare,I.base,I.loc,I.cell,I.free,I.VB,I.pin,I.UZ,I.len⟩
theorem SP.iU {D:Ends}{f:Flow}{s':RA}(h:SP (X.kC E) UT D f s'):SP X UT D f s':=by
 cases f with
 | next=>obtain⟨σ',H',I,q⟩:=h;exact⟨σ',H',I.iU,q⟩
 | brk=>obtain⟨σ',H',I,q⟩:=h;exact⟨σ',H',I.iU,q⟩
 | cont=>obtain⟨σ',H',I,q⟩:=h;exact⟨σ',H',I.iU,q⟩
 | ret u=>obtain⟨v,σ',H',I,r,q⟩:=h;exact⟨v,σ',H',I.iU,r,q⟩
theorem jA.h9 {st:List Stmt}{t:TS}(h:jA X.h9 st t):jA X st t:=λUT s σ H D I hw=>
 RZ (h UT s σ H D (I.kC _) hw) (λ_ _ q=>q.iU) λ_ _ z=>OO z
end
section
variable {X:Cx}{st:Stmt}{rest:List Stmt}{t u:TS}{e:Expr}{te:TE}{pos:Pos}
def KY:TS:=λD σ H=>D.nx σ H
def N5 (t u:TS):TS:=λD σ H=>t {D with nx:=u D} σ H
theorem Et:jA X [] KY:=λ_ _ σ H _ I h=>SE ⟨σ,H,I,h⟩
theorem Bm (h1:PS X st t)(h2:jA X rest u):jA X (st::rest) (N5 t u):=by
 intro UT s σ H D I h
 refine wpAny_execs_cons (aT (h1 UT s σ H {D with nx:=u D} I h) λf s1 q=>?_)
 cases f with
 | next=>
   obtain⟨σ',H',I',q⟩:=q
   exact h2 UT s1 σ' H' D I' q
 | ret v=>exact q
 | brk=>exact q
 | cont=>exact q
theorem FG (h1:PS X st t):jA X [st] t:=by
 intro UT s σ H D I h
 refine wpAny_execs_cons (aT (h1 UT s σ H D I h) λf s1 q=>?_)
 cases f with
 | next=>exact SE q
 | ret v=>exact q
 | brk=>exact q
 | cont=>exact q
theorem Inv.quiet {UT:OA}{σ:St}{H:Hp}{s:RA}(I:Inv X UT σ H s):interactive X.env=false:=by simp[interactive,I.ok.kind]
def LH (te:TE):TS:=λD σ H=>te σ H λ_ H1=>D.nx σ H1
theorem fz (he:PE X e te)(hs:RN e none pos.line X.env=pure false:=by rfl):PS X (.Expr e pos) (LH te):=by
 intro UT s σ H D I h
 exact wpAny_Expr_any (aT (he UT s σ H _ I h) λv s1 ⟨x,H1,I1,r1,q1⟩=>⟨σ,H1,I1,q1⟩) I.quiet hs
def Ot (te:TE):TS:=λD σ H=>te σ H D.rt
theorem hU (he:PE X e te):PS X (.Return (some e) pos) (Ot te):=by
 intro UT s σ H D I h
 exact wpAny_Return_some (aT (he UT s σ H _ I h) λv s1 ⟨x,H1,I1,r1,q1⟩=>⟨x,σ,H1,I1,r1,q1⟩)
def Og (c:TT)(t u:TS):TS:=λD σ H=>c σ H λb H1=>if b=true then t D σ H1 else u D σ H1
theorem Lw {c:Expr}{a b:List Stmt}{tc:TT}(hc:PT X c tc)(ha:jA X a t)(hb:jA X b u):PS X (.If c a b pos) (Og tc t u):=by
 intro UT s σ H D I h
 refine wpAny_If (aT (hc UT s σ H _ I h) λd s1 ⟨H1,I1,q1⟩=>?_)
 cases d with
 | true=>exact ha UT s1 σ H1 D I1 q1
 | false=>exact hb UT s1 σ H1 D I1 q1
end
abbrev TG:=V->St->Hp->(St->Hp->Prop)->Prop
abbrev tP:=List V->St->Hp->(St->Hp->Prop)->Prop
def PG (X:Cx)(target:Expr)(t:TG):Prop:=
 ∀(UT:OA) (s:RA) (σ:St) (H:Hp) (v:V) (u:Value) (Q:St->Hp->Prop),Inv X UT σ H s->RelV v u->t v σ H Q->
  wpAny (model X.prog X.w) X.A (Sn target X.env u) (λ_ s'=>∃σ' H',Inv X UT σ' H' s'/\Q σ' H') X.xe s
def DH (X:Cx)(ts:OG)(t:tP):Prop:=
 ∀(UT:OA) (s:RA) (σ:St) (H:Hp) (vs:List V) (us:OF) (Q:St->Hp->Prop),Inv X UT σ H s->Vals vs us->t vs σ H Q->
  wpAny (model X.prog X.w) X.A (assignInOrder ((Sm ts X.env).map (·.2)) us) (λ_ s'=>∃σ' H',Inv X UT σ' H' s'/\Q σ' H') X.xe s
abbrev CV:=V->V->V->Hp->(Hp->Prop)->Prop
def JB (X:Cx)(t:CV):Prop:=
 ∀(UT:OA) (s:RA) (σ:St) (H:Hp) (o i v:V) (ov iv u:Value) (Q:Hp->Prop),Inv X UT σ H s->RelV o ov->RelV i iv->RelV v u->t o i v H Q->
  wpAny (model X.prog X.w) X.A (setItem ov iv u) (λ_ s'=>∃H',Inv X UT σ H' s'/\Q H') X.xe s
abbrev Ef:=V->V->Hp->VK->Prop
def MP (X:Cx)(op:Operator)(t:Ef):Prop:=
 ∀(UT:OA) (s:RA) (σ:St) (H:Hp) (x y:V) (v u:Value) (Q:VK),Inv X UT σ H s->RelV x v->RelV y u->t x y H Q->
  wpAny (model X.prog X.w) X.A (inplaceOp op v u) (EP X UT σ Q) X.xe s
section
variable {X:Cx}{pos:Pos}
variable {e:Expr}{i:Nat}{x:Str}{te:TE}
def yn (i:Nat):TG:=λv σ H Q=>Q (σ.set i (some v)) H
theorem kS (hN:X.N.Nodup)(hi:X.N[i]?=some x)(hx:Loc X.env.scope x)(hf:X.fn x=true∨X.env.scope.names.lookup x=some .local:=by first | exact .inl rfl | exact .inr rfl | assumption):PG X (.Name x pos) (yn i):=by
 intro UT s σ H v u Q I r h
 exact wpAny_assign_Name (om I hN hi hx r (λs' I'=>⟨_,H,I',h⟩) hf)
def Ow:tP:=λvs σ H Q=>vs=[]/\Q σ H
def KL (t:TG)(u:tP):tP:=λvs σ H Q=>∃v r,vs=v::r/\t v σ H λσ' H'=>u r σ' H' Q
theorem wI:DH X [] Ow:=by
 intro UT s σ H vs us Q I r h
 obtain⟨e,h⟩:=h
 subst e
 cases r
 exact assignInOrder_nil ⟨σ,H,I,h⟩
theorem lH {es:OG}{t:TG}{u:tP}(h1:PG X e t)(h2:DH X es u)
 (hs:(Sm (e::es) X.env).map (·.2)=Sn e X.env::(Sm es X.env).map (·.2):=by rfl):DH X (e::es) (KL t u):=by
 intro UT s σ H vs us Q I r h
 obtain⟨v,vr,e1,h⟩:=h
 subst e1
 cases r with
 | cons r rr=>
   rw[hs]
   refine assignInOrder_cons (aT (h1 UT s σ H _ _ _ I r h) λ_ s1 ⟨σ1,H1,I1,q1⟩=>?_)
   exact h2 UT s1 σ1 H1 _ _ Q I1 rr q1
def NS (K:Uk)(n:Nat)(t:tP):TG:=λv σ H Q=>∃a xs,v= .ref a/\du K H a xs/\xs.length=n/\t xs σ H Q
theorem Ac {es:OG}{k:Nat}{t:tP}{n:Nat}(hc:X.calm=true)(h:DH X es t)
 (hn:(Sm es X.env).length=n:=by rfl) (hst:(Sm es X.env).findIdx? (·.1)=none:=by rfl):PG X (.Tuple es k pos) (NS X.K n t):=by
 intro UT s σ H v u Q I r hw
 obtain⟨a,xs,e1,hq,hl,hw⟩:=hw
 subst e1
 cases r
 obtain⟨UW,rv,ht,hz⟩:=I.tuple hq
 refine assign_Tuple_tuple (I.ok.hd hc) ht (by simp[hn,← hl,rv.length]) hst λh' hx=>?_
 have I1:Inv X UT σ H {s with heap:=h'}:=I.kept (t':=s.toks) λb o e=>hx b o (Q1 (TQ e)) e
 exact h UT _ σ H xs _ Q I1 (by simpa using rv) hw
def NT (to ti:TE)(t:CV):TG:=λv σ H Q=>to σ H λo H1=>ti σ H1 λi H2=>t o i v H2 λH3=>Q σ H3
theorem zc {o i:Expr}{to ti:TE}{t:CV}(ho:PE X o to)(hi:PE X i ti)(hs:JB X t)
 (ha:∀v,Sn (.Subscript o i pos) X.env v=(do
  let ov ← Si [v] (eval o X.env)
  let iv ← Si [v,ov] (eval i X.env)
  SM pos
  Si [v,ov,iv] (setItem ov iv v)
  release [v,ov,iv] []):=by intro _;rfl):PG X (.Subscript o i pos) (NT to ti t):=by
 intro UT s σ H v u Q I r h
 rw[ha]
 refine RF (Sr (aT (ho UT s σ H _ I h) λov s1 ⟨x,H1,I1,r1,q1⟩=>?_))
 refine RF (Sr (aT (hi UT s1 σ H1 _ I1 q1) λiv s2 ⟨y,H2,I2,r2,q2⟩=>?_))
 refine RF (Td (RF (Sr (aT (hs UT s2 σ H2 x y v ov iv u _ I2 r1 r2 r q2) λ_ s3 ⟨H3,I3,q3⟩=>?_))))
 exact wpAny_release ⟨σ,H3,I3,q3⟩
def B5 (te:TE)(g:TG):TS:=λD σ H=>te σ H λx H1=>g x σ H1 D.nx
theorem u9 {tg:Expr}{g:TG}(he:PE X e te)(hg:PG X tg g)(hs:SR [tg] e pos.line X.env=pure false:=by rfl)(hw:SS [tg] e X.env=pure none:=by rfl)
 (h1:(Sm [tg] X.env).map (·.2)=[Sn tg X.env]:=by rfl):PS X (.Assign [tg] e pos) (B5 te g):=by
 intro UT s σ H D I h
 refine wpAny_Assign_stores (aT (he UT s σ H _ I h) λv s1 ⟨x,H1,I1,r1,q1⟩=>?_) hs hw
 rw[h1]
 exact aT (hg UT s1 σ H1 x v _ I1 r1 q1) λ_ s2 q=>q
theorem jv {pos':Pos}(hN:X.N.Nodup)(hi:X.N[i]?=some x)(hx:Loc X.env.scope x)(he:PE X e te)(hs:RN e (some (.Name x pos')) pos.line X.env=pure false:=by rfl)(hf:X.fn x=true∨X.env.scope.names.lookup x=some .local:=by first | exact .inl rfl | exact .inr rfl | assumption):
 PS X (.Assign [.Name x pos'] e pos) (B5 te (yn i)):=by
 intro UT s σ H D I h
 refine wpAny_Assign_Name (aT (he UT s σ H _ I h) λv s1 ⟨y,H1,I1,r1,q1⟩=>?_) hs
 exact om I1 hN hi hx r1 (λs2 I2=>⟨_,H1,I2,q1⟩) hf
def Nv (i:Nat)(te:TE)(ti:Ef):TS:=λD σ H=>∃x,σ[i]?=some (some x)/\te σ H λy H1=>ti x y H1 λz H2=>D.nx (σ.set i (some z)) H2
theorem GR {op:Operator}{ti:Ef}{pos':Pos}(hN:X.N.Nodup)(hi:X.N[i]?=some x)(hx:Loc X.env.scope x)(he:PE X e te)(ho:MP X op ti)(hf:X.fn x=true∨X.env.scope.names.lookup x=some .local:=by first | exact .inl rfl | exact .inr rfl | assumption):
 PS X (.AugAssign (.Name x pos') op e pos) (Nv i te ti):=by
 intro UT s σ H D I h
 obtain⟨v,e1,h⟩:=h
 obtain⟨m,hn,hl⟩:=I.loc
 have vis:cC X.env.scope x:=by rcases hx with k | k;exact .inl k;exact .inr (.inl k)
 obtain⟨u,r,l⟩:=hl i x v hi e1 vis
 refine wpAny_AugAssign_Name ?_
 have go:wpAny (model X.prog X.w) X.A (eval e X.env) (λw s₂=>wpAny (model X.prog X.w) X.A (inplaceOp op u w) (λr s₃=>wpAny (model X.prog X.w) X.A (storeName X.env x r) (λ_=>SP X UT D .next) X.xe s₃) X.xe s₂) X.xe s:=by
  refine aT (he UT s σ H _ I h) λw s1 ⟨y,H1,I1,r1,q1⟩=>?_
  refine aT (ho UT s1 σ H1 v y u w _ I1 r r1 q1) λz s2 ⟨zv,H2,I2,r2,q2⟩=>?_
  exact om I2 hN hi hx r2 (λs3 I3=>⟨_,H2,I3,q2⟩) hf
 rcases l with⟨hk,hm⟩ | ⟨hk,c,hc,Wb⟩
 ·exact wpAny_loadName_local I.ok.kind hk hn hm go
 ·rcases hk with hk | hk
  ·exact wpAny_loadName_cell I.ok.kind hk hc Wb go
  ·rcases hx with k | k
   ·have:X.env.scope.names.lookup x=some .free:=hk
    rw[k] at this;cases this
   ·have:X.env.scope.names.lookup x=some .free:=hk
    rw[k] at this;cases this
def ipI (f:Int->Int->Int):Ef:=λx y H Q=>∃i j,x= .int i/\y= .int j/\Q (.int (f i j)) H
theorem Gr:MP X .Add (ipI λi j=>i+j):=by
 intro UT s σ H x y v u Q I r1 r2 h
 obtain⟨i,j,e1,e2,q⟩:=h
 subst e1;subst e2
 obtain⟨t,rfl⟩:=r1
 obtain⟨t',rfl⟩:=r2
 exact iadd_int ⟨.int _,H,I.tok _,⟨_,rfl⟩,q⟩
end
section
variable {X:Cx}{pos:Pos}
def HW (c:TT)(tb:TS):TS:=λD σ H=>∃W:Nat->St->Hp->Prop,(∃m,W m σ H)/\∀m σ H,W m σ H->
 c σ H λb H1=>if b=true then∃N:St->Hp->Prop,(∀σ' H',N σ' H'->∃m',m'<m/\W m' σ' H')/\tb {D with nx:=N,ct:=N,bk:=D.nx} σ H1 else D.nx σ H1
theorem BK {c:Expr}{body:List Stmt}{tc:TT}{tb:TS}(hp:S0 (model X.prog X.w) X.A X.env X.xe)(hc:PT X c tc)(hb:jA X body tb):PS X (.While c body [] pos) (HW tc tb):=by
 intro UT s σ H D I h
 obtain⟨W,⟨m0,w0⟩,turn⟩:=h
 refine wpAny_While (codeAny_whileLoop (λn s'=>∃σ' H',Inv X UT σ' H' s'/\W n σ' H') ?_ m0 ⟨σ,H,I,w0⟩)
 rintro n s1 ⟨σ1,H1,I1,w1⟩
 refine Sg hp (aT (hc UT s1 σ1 H1 _ I1 (turn n σ1 H1 w1)) λb s2 ⟨H2,I2,q2⟩=>?_)
 cases b with
 | true=>
   obtain⟨N,hN,q2⟩:=q2
   rw[UL rfl]
   refine Sg hp (aT (hb UT s2 σ1 H2 _ I2 q2) λf s3 q3=>?_)
   cases f with
   | next=>
     obtain⟨σ3,H3,I3,n3⟩:=q3
     obtain⟨m',hm,w3⟩:=hN σ3 H3 n3
     exact⟨m',hm,σ3,H3,I3,w3⟩
   | cont=>
     obtain⟨σ3,H3,I3,n3⟩:=q3
     obtain⟨m',hm,w3⟩:=hN σ3 H3 n3
     exact⟨m',hm,σ3,H3,I3,w3⟩
   | brk=>exact q3
   | ret v=>exact q3
 | false=>
   rw[UK OJ]
   exact SE ⟨σ1,H2,I2,q2⟩
end
section
variable {tg:Expr}{P:RJ}{w:World}{K:Uk}
structure It where
 go:Nat->Hp->Prop
 Yz:Nat->Hp->V->Hp->Prop
 stop:Nat->Hp->Prop
def jJ (X:Cx)(UT:OA)(H:Hp)(b:Addr):Prop:=
 H b=none/\b≠X.env.locals/\b∉X.fs/\(b∈X.ex∨X.s₀.heap.objs.size<=b)/\(∀x c,X.env.cells.lookup x=some c->c≠b)/\∀p∈X.pn++UT,p.1≠b
theorem Inv.gQ {X:Cx}{UT:OA}{σ:St}{H H':Hp}{s:RA}{b:Addr}(I:Inv X UT σ H s)(hb:s.heap.objs.size<=b)(hn:H' b=none):jJ X UT H' b:=by
 refine⟨hn,Q9 (Q0 I.lt hb),I.Nu hb,.inr (QX I.sz hb),λx c e z=>?_,λp hp z=>?_⟩
 ·obtain⟨v,q⟩:=I.cell x c e
  exact UJ (Q0 q.lt (by rw[z];exact hb)) (Q3 _)
 ·exact UJ (Q0 (TQ (I.pin p hp).1) (by rw[z];exact hb)) (Q3 _)
structure Turn (P:RJ) (w:World) (K:Uk) (tg:Expr) (J:It) (fp:OE) (it:Addr) (tn:Nat->Heap->Prop):Prop where
 mem:it∈fp
 obj:∀i h,tn i h->∀b∈fp,∃o,h.get? b=some o/\∀v,o.data≠ .cell v
 keep:∀i h h',tn i h->(∀b∈fp,∀o,h.get? b=some o->h'.get? b=some o)->tn i h'
 item:∀(X:Cx),X.prog=P->X.w=w->X.K=K->X.calm=true->∀(i:Nat) (UT:OA) (s:RA) (σ:St) (H:Hp) (E:Value->RA->Prop),Inv X UT σ H s->(∀b∈fp,jJ X UT H b)->tn i s.heap->J.go i H->
  wpAny (model P w) X.A (S6 (.ref it)) (λr s1=>∃u,r=some u/\
   wpAny (model P w) X.A (SF tg (.ref it) u) (λ_ s2=>∃x H',Inv X UT σ H' s2/\RelV x u/\J.Yz i H x H'/\tn (i+1) s2.heap/\∀b∈fp,H' b=none) E s1) E s
 done:∀(X:Cx),X.prog=P->X.w=w->X.K=K->X.calm=true->∀(i:Nat) (UT:OA) (s:RA) (σ:St) (H:Hp) (E:Value->RA->Prop),Inv X UT σ H s->(∀b∈fp,jJ X UT H b)->tn i s.heap->J.stop i H->
  wpAny (model P w) X.A (S6 (.ref it)) (λr s1=>r=none/\Inv X UT σ H s1) E s
 self:∀(A:RL) (i:Nat) (s:RA) (Q:Value->RA->Prop) (E:Value->RA->Prop),tn i s.heap->Q (.ref it) s->wpAny (model P w) A (pyIter (.ref it)) Q E s
abbrev TI:=St->Hp->(It->Hp->Prop)->Prop
def Io (X:Cx)(UT:OA)(σ:St)(tg:Expr)(R:It->Hp->Prop)(itv:Value)(s2:RA):Prop:=
 ∃(it:Addr) (fp:OE) (tn:Nat->Heap->Prop) (J:It) (H':Hp),itv= .ref it/\Inv X UT σ H' s2/\Turn X.prog X.w X.K tg J fp it tn/\tn 0 s2.heap/\(∀b∈fp,jJ X UT H' b)/\R J H'
def PI (X:Cx)(tg iter:Expr)(wi:TI):Prop:=
 ∀(UT:OA) (s:RA) (σ:St) (H:Hp) (R:It->Hp->Prop),Inv X UT σ H s->wi σ H R->
  wpAny (model X.prog X.w) X.A (eval iter X.env) (λv s1=>wpAny (model X.prog X.w) X.A (pyIter v) (Io X UT σ tg R) X.xe s1) X.xe s
theorem nk {M:Model}{A:RL}{E:Value->RA->Prop}{s:RA}{it:Addr}{u:Value}{o:Obj}{n:String}{vs:Array Value}{Q:Unit->RA->Prop}(ho:s.heap.get? it=some o)(hc:o.cls= .type n)(hd:o.data= .fields vs)
 (hn:["enumerate","zip","dict_itemiterator","dict_reverseitemiterator","odict_iterator","itertools.zip_longest","itertools.pairwise"].contains n=false) (hQ:Q () s):wpAny M A (SF tg (.ref it) u) Q E s:=by
 unfold SF
 cases tg<;>first
  | exact RH hQ
  | (cases u<;>first
   | exact RH hQ
   | (refine RF (wpAny_load ho ?_)
      rw[hc,hd]
      show wpAny M A (if(["enumerate","zip","dict_itemiterator","dict_reverseitemiterator","odict_iterator","itertools.zip_longest","itertools.pairwise"].contains n&&vs[0]?==some (S7 _))=true then _ else _) Q E s
      rw[UK (by intro h;rw[hn,Bool.false_and] at h;cases h)]
      exact RH hQ))
def Ni (K:Uk)(a:Addr):It:=
 ⟨λi H=>∃xs x,aU K H a xs/\xs[i]?=some x,λi H x H'=>H'=H/\∀xs,aU K H a xs->xs[i]?=some x,λi H=>∃xs,aU K H a xs/\xs.length<=i⟩
def ME (K:Uk)(a:Addr):It:=
 ⟨λi H=>∃xs x,du K H a xs/\xs[i]?=some x,λi H x H'=>H'=H/\∀xs,du K H a xs->xs[i]?=some x,λi H=>∃xs,du K H a xs/\xs.length<=i⟩
def y4 (lo:Int)(n:Nat):It:=⟨λi _=>i<n,λi H x H'=>H'=H/\x= .int (lo+i),λi _=>n<=i⟩
theorem zE (a it:Addr):Turn P w K tg (Ni K a) [it] it (λi h=>h.IsListIter it a i) where
 mem:=by simp
 obj:=λi h st b hb=>by
  have e:b=it:=by simpa using hb
  subst e
  obtain⟨o,e,c,d⟩:=st
  exact⟨o,e,λv z=>by rw[d] at z;cases z⟩
 keep:=λi h h' st k=>st.at λo e=>k it (by simp) o e
 item:=by
  intro X hP hw hK hc i UT s σ H E I hf st hg
  subst hP hw hK
  obtain⟨xs,x,hq,hx⟩:=hg
  obtain⟨UW,rv,p,hz⟩:=I.list hq
  obtain⟨u,hu,ru⟩:=rv.get hx
  obtain⟨f0,f1,f2,f3,f4,f5⟩:=hf it (by simp)
  refine wpAny_pyNext_list_item st p.isList (x:=u) (by simpa using hu) λh' Wr sb=>?_
  have I1:Inv X UT σ H {s with heap:=h'}:=I.turned (t':=s.toks) (λb o hb e=>(sb.2 b hb).trans e) f0 f1 f3 f4 f5
  obtain⟨o,e,c,d⟩:=id Wr
  exact⟨u,rfl,nk (s:={s with heap:=h'}) e c d (by decide) ⟨x,H,I1,ru,⟨rfl,λys hy=>by rw[I.iH hy hq];exact hx⟩,Wr,λb hb=>(hf b hb).1⟩⟩
 done:=by
  intro X hP hw hK hc i UT s σ H E I hf st hg
  subst hP hw hK
  obtain⟨xs,hq,hx⟩:=hg
  obtain⟨UW,rv,p,hz⟩:=I.list hq
  obtain⟨f0,f1,f2,f3,f4,f5⟩:=hf it (by simp)
  have hl:=rv.length
  exact wpAny_pyNext_list_end (I.ok.hd hc) st p.isList (by simp;omega) λh' eb=>⟨rfl,I.turned (t':=s.toks) (λb o hb e=>eb b o hb e) f0 f1 f3 f4 f5⟩
 self:=λ_ _ _ _ _ st h=>wpAny_pyIter_listiter st h
theorem xS (a it:Addr):Turn P w K tg (ME K a) [it] it (λi h=>h.IsTupleIter it a i) where
 mem:=by simp
 obj:=λi h st b hb=>by
  have e:b=it:=by simpa using hb
  subst e
  obtain⟨o,e,c,d⟩:=st
  exact⟨o,e,λv z=>by rw[d] at z;cases z⟩
 keep:=λi h h' st k=>st.at λo e=>k it (by simp) o e
 item:=by
  intro X hP hw hK hc i UT s σ H E I hf st hg
  subst hP hw hK
  obtain⟨xs,x,hq,hx⟩:=hg
  obtain⟨UW,rv,p,hz⟩:=I.tuple hq
  obtain⟨u,hu,ru⟩:=rv.get hx
  obtain⟨f0,f1,f2,f3,f4,f5⟩:=hf it (by simp)
  refine wpAny_pyNext_tuple_item st (show s.heap.IsTuple a UW.toArray from p) (x:=u) (by simpa using hu) λh' Wr sb=>?_
  have I1:Inv X UT σ H {s with heap:=h'}:=I.turned (t':=s.toks) (λb o hb e=>(sb.2 b hb).trans e) f0 f1 f3 f4 f5
  obtain⟨o,e,c,d⟩:=id Wr
  exact⟨u,rfl,nk (s:={s with heap:=h'}) e c d (by decide) ⟨x,H,I1,ru,⟨rfl,λys hy=>by rw[I.rL hy hq];exact hx⟩,Wr,λb hb=>(hf b hb).1⟩⟩
 done:=by
  intro X hP hw hK hc i UT s σ H E I hf st hg
  subst hP hw hK
  obtain⟨xs,hq,hx⟩:=hg
  obtain⟨UW,rv,p,hz⟩:=I.tuple hq
  obtain⟨f0,f1,f2,f3,f4,f5⟩:=hf it (by simp)
  have hl:=rv.length
  exact wpAny_pyNext_tuple_end (I.ok.hd hc) st (show s.heap.IsTuple a UW.toArray from p) (by simp;omega) λh' eb=>⟨rfl,I.turned (t':=s.toks) (λb o hb e=>eb b o hb e) f0 f1 f3 f4 f5⟩
 self:=λ_ _ _ _ _ st h=>wpAny_pyIter_tupleiter st h
theorem xZ (it:Addr)(lo:Int)(n:Nat):Turn P w K tg (y4 lo n) [it] it (λi h=>S4 h it (lo+(i:Nat)*1) ((n:Int)-(i:Nat)) 1) where
 mem:=by simp
 obj:=λi h st b hb=>by
  have e:b=it:=by simpa using hb
  subst e
  exact⟨_,st,λv z=>by
   have z':Data.fields _=Data.cell v:=z
   cases z'⟩
 keep:=λi h h' st k=>k it (by simp) _ st
 item:=by
  intro X hP hw hK hc i UT s σ H E I hf st hg
  subst hP hw hK
  obtain⟨f0,f1,f2,f3,f4,f5⟩:=hf it (by simp)
  have W:=Walks.range (prog:=X.prog) (w:=X.w) (I.ok.hd hc) it lo 1 n
  refine W.item i s _ _ hg st λv h' tk hv Wr kk=>?_
  obtain⟨t,rfl⟩:=hv
  have I1:Inv X UT σ H {s with heap:=h',toks:=tk}:=I.turned (λb o hb e=>kk b o (by simpa using hb) e) f0 f1 f3 f4 f5
  refine⟨_,rfl,nk (s:={s with heap:=h',toks:=tk}) (n:="range_iterator") Wr rfl rfl (by decide) ⟨.int (lo+i),H,I1,⟨t,?_⟩,⟨rfl,rfl⟩,Wr,λb hb=>(hf b hb).1⟩⟩
  rw[Int.mul_one]
 done:=by
  intro X hP hw hK hc i UT s σ H E I hf st hg
  subst hP hw hK
  obtain⟨f0,f1,f2,f3,f4,f5⟩:=hf it (by simp)
  exact wpAny_pyNext_range_end (I.ok.hd hc) st (by have:n<=i:=hg;omega) λh' eb=>⟨rfl,I.turned (t':=s.toks) (λb o hb e=>eb b o hb e) f0 f1 f3 f4 f5⟩
 self:=λ_ _ _ _ _ st h=>wpAny_pyIter_rangeiter st h
end
section
variable {X:Cx}{tg:Expr}
variable {UT:OA}{σ:St}{H:Hp}{s:RA}{pos:Pos}
def Mo (K:Uk)(tl:TE):TI:=λσ H R=>tl σ H λx H1=>∃a,x= .ref a/\(∃xs,aU K H1 a xs)/\R (Ni K a) H1
def NZ (K:Uk)(tl:TE):TI:=λσ H R=>tl σ H λx H1=>∃a,x= .ref a/\(∃xs,du K H1 a xs)/\R (ME K a) H1
theorem wD {l:Expr}{tl:TE}(hl:PE X l tl):PI X tg l (Mo X.K tl):=by
 intro UT s σ H R I h
 refine aT (hl UT s σ H _ I h) λv s1 ⟨x,H1,I1,r1,q1⟩=>?_
 obtain⟨a,e,⟨xs,hq⟩,q⟩:=q1
 subst e
 cases r1
 obtain⟨UW,rv,p,hz⟩:=I1.list hq
 refine Sz p.isList ?_
 refine⟨s1.heap.objs.size,[s1.heap.objs.size],_,_,H1,rfl,I1.kept (t':=s1.toks) λb o e=>TN _ e,zE a _,⟨_,TR _ rfl,rfl,rfl⟩,λb hb=>?_,q⟩
 have e:b=s1.heap.objs.size:=by simpa using hb
 subst e
 exact I1.gQ (QW _) (I1.UZ.fresh (QW _))
theorem AJ {l:Expr}{tl:TE}(hl:PE X l tl):PI X tg l (NZ X.K tl):=by
 intro UT s σ H R I h
 refine aT (hl UT s σ H _ I h) λv s1 ⟨x,H1,I1,r1,q1⟩=>?_
 obtain⟨a,e,⟨xs,hq⟩,q⟩:=q1
 subst e
 cases r1
 obtain⟨UW,rv,p,hz⟩:=I1.tuple hq
 refine wpAny_pyIter_tuple (show s1.heap.IsTuple a UW.toArray from p) ?_
 refine⟨s1.heap.objs.size,[s1.heap.objs.size],_,_,H1,rfl,I1.kept (t':=s1.toks) λb o e=>TN _ e,xS a _,⟨_,TR _ rfl,rfl,rfl⟩,λb hb=>?_,q⟩
 have e:b=s1.heap.objs.size:=by simpa using hb
 subst e
 exact I1.gQ (QW _) (I1.UZ.fresh (QW _))
theorem uD {R:It->Hp->Prop}{E:Value->RA->Prop}{lo hi:Int}{t u v:Tok}{tk:Nat}(I:Inv X UT σ H s)(h1: -(2 ^ 62)<=lo)(h2:lo<2 ^ 62)(h3: -(2 ^ 62)<=hi)(h4:hi<2 ^ 62)
 (q:R (y4 lo (hi-lo).toNat) H):wpAny (model X.prog X.w) X.A (pyIter (.ref s.heap.objs.size)) (Io X UT σ tg R) E {s with heap:=s.heap.push {cls:=.type "range",data:=.fields #[.int lo t,.int hi u,.int 1 v]},toks:=tk}:=by
 refine wpAny_pyIter_range (IsRange.new ..) (small_one h1 h2 h3 h4) ?_
 have I1:Inv X UT σ H {s with heap:=s.heap.push {cls:=.type "range",data:=.fields #[.int lo t,.int hi u,.int 1 v]},toks:=tk}:=I.kept λb o e=>TN _ e
 refine⟨(s.heap.push {cls:=.type "range",data:=.fields #[.int lo t,.int hi u,.int 1 v]}).objs.size,[(s.heap.push {cls:=.type "range",data:=.fields #[.int lo t,.int hi u,.int 1 v]}).objs.size],_,_,H,rfl,
  I1.kept (t':=tk) λb o e=>TN _ e,xZ _ lo (hi-lo).toNat,?_,λb hb=>?_,q⟩
 ·have e1:lo+((0:Nat):Int)*1=lo:=by simp
  have e2:(((hi-lo).toNat:Nat):Int)-((0:Nat):Int)=Tj lo hi 1:=by rw[rangeSize_one];split<;>omega
  show S4 _ _ (lo+((0:Nat):Int)*1) ((((hi-lo).toNat:Nat):Int)-((0:Nat):Int)) 1
  rw[e1,e2]
  exact TR _ rfl
 ·have e:b=(s.heap.push {cls:=.type "range",data:=.fields #[.int lo t,.int hi u,.int 1 v]}).objs.size:=by simpa using hb
  subst e
  exact I1.gQ (QW _) (I1.UZ.fresh (QW _))
def L4 (ta:TA):TI:=λσ H R=>ta σ H λvs H1=>∃j:Int,vs=[.int j]/\ -(2 ^ 62)<=j/\j<2 ^ 62/\R (y4 0 j.toNat) H1
def LU (ta:TA):TI:=λσ H R=>ta σ H λvs H1=>∃i j:Int,vs=[.int i,.int j]/\(-(2 ^ 62)<=i/\i<2 ^ 62/\ -(2 ^ 62)<=j/\j<2 ^ 62)/\R (y4 i (j-i).toNat) H1
theorem zC {a:Expr}{ta:TA}{p:Pos}(hg:Gl X "range")(hm:X.mg "range"=none)(ha:PA X [a] ta)(hs:RC [a] X.env=[(false,eval a X.env)]:=by rfl):PI X tg (.Call (.Name "range" p) [a] [] pos) (L4 ta):=by
 intro UT s σ H R I h
 refine Call_ (gq I hg hm Ry (Rr (aT (ha pos UT s σ H _ I h) λus s1 ⟨vs,H1,I1,r1,q1⟩=>?_) hs rfl))
 obtain⟨j,e,q1,q2,q⟩:=q1
 subst e
 cases r1 with
 | cons r rr=>
   cases rr
   obtain⟨t,rfl⟩:=r
   exact call_range_1 (uD I1 (by omega) (by omega) q1 q2 (by simpa using q))
theorem An {a b:Expr}{ta:TA}{p:Pos}(hg:Gl X "range")(hm:X.mg "range"=none)(ha:PA X [a,b] ta)(hs:RC [a,b] X.env=[(false,eval a X.env),(false,eval b X.env)]:=by rfl)(Vv:RC [b] X.env=[(false,eval b X.env)]:=by rfl):
 PI X tg (.Call (.Name "range" p) [a,b] [] pos) (LU ta):=by
 intro UT s σ H R I h
 refine Call_ (gq I hg hm Ry (Rr (aT (ha pos UT s σ H _ I h) λus s1 ⟨vs,H1,I1,r1,q1⟩=>?_) (by rw[hs,Vv]) (by rw[Vv];rfl)))
 obtain⟨i,j,e,⟨q1,q2,q3,q4⟩,q⟩:=q1
 subst e
 cases r1 with
 | cons r rr=>
   cases rr with
   | cons r' rr=>
     cases rr
     obtain⟨t,rfl⟩:=r
     obtain⟨t',rfl⟩:=r'
     exact call_range_2 (uD I1 q1 q2 q3 q4 q)
def NX (wi:TI)(g:TG)(tb:TS):TS:=λD σ H=>wi σ H λJ H1=>∃W:Nat->Nat->St->Hp->Prop,(∃m,W 0 m σ H1)/\∀i m σ H,W i m σ H->
 (J.stop i H/\D.nx σ H)∨(J.go i H/\∃N:St->Hp->Prop,(∀σ' H',N σ' H'->∃m',m'<m/\W (i+1) m' σ' H')/\∀x H',J.Yz i H x H'->g x σ H' λσ2 H2=>tb {D with nx:=N,ct:=N,bk:=D.nx} σ2 H2)
def kQ (fp:OE)(h:Heap):OA:=fp.filterMap λb=>(h.get? b).map λo=>(b,o)
theorem jh {fp:OE}{h:Heap}{b:Addr}{o:Obj}(hb:b∈fp)(e:h.get? b=some o):(b,o)∈kQ fp h:=QG.mpr ⟨b,hb,by rw[e];rfl⟩
theorem zi {fp:OE}{h:Heap}{p:Addr×Obj}(hp:p∈kQ fp h):p.1∈fp/\h.get? p.1=some p.2:=by
 obtain⟨b,hb,e⟩:=QG.mp hp
 cases q:h.get? b with
 | none=>rw[q] at e;cases e
 | some o=>
   rw[q] at e
   have e':(b,o)=p:=Option.some.inj e
   subst e'
   exact⟨hb,q⟩
theorem Inv.pinned {fp:OE}(I:Inv X UT σ H s)(hf:∀b∈fp,jJ X UT H b)(ho:∀b∈fp,∃o,s.heap.get? b=some o/\∀v,o.data≠ .cell v):Inv X (UT++kQ fp s.heap) σ H s:=
 I.ju λp hp=>(Pa.mp hp).elim (λz=>I.pin p (Pb _ z)) λz=>by
   obtain⟨hb,e⟩:=zi z
   obtain⟨f0,f1,f2,_⟩:=hf p.1 hb
   obtain⟨o,e',d⟩:=ho p.1 hb
   rw[e] at e';cases e'
   exact⟨e,f0,f1,f2,d⟩
theorem Inv.ou {pl:OA}(I:Inv X (UT++pl) σ H s):Inv X UT σ H s:=I.ju λp hp=>I.pin p (Pb _ (Pj _ hp))
theorem yH {iter:Expr}{body:List Stmt}{wi:TI}{g:TG}{tb:TS}(hp:S0 (model X.prog X.w) X.A X.env X.xe)(hc:X.calm=true)(hi:PI X tg iter wi)(hg:PG X tg g)(hb:jA X body tb)
 (hs:∀x,RY iter X.env x=pure x:=by intro _;rfl):PS X (.For tg iter body [] pos) (NX wi g tb):=by
 intro UT s σ H D I h
 refine wpAny_For (aT (hi UT s σ H _ I h) λv s1 h1=>aT h1 λitv s2 h2=>?_) hs
 obtain⟨it,fp,tn,J,H2,e,I2,T,Xr,f2,W,⟨m0,w0⟩,turn⟩:=h2
 subst e
 -- what stays true of YQ X9 objects through YQ loop
 have X5:∀{H':Hp},(∀b∈fp,H' b=none)->∀b∈fp,jJ X UT H' b:=λhn b hb=>⟨hn b hb,(f2 b hb).2⟩
 refine codeAny_forLoop_any (λn s'=>∃i σ' H',Inv X UT σ' H' s'/\tn i s'.heap/\(∀b∈fp,H' b=none)/\W i n σ' H') ?_ m0 ⟨0,σ,H2,I2,Xr,λb hb=>(f2 b hb).1,w0⟩
 rintro n s3 ⟨i,σ3,H3,I3,st3,fr3,w3⟩
 rcases turn i n σ3 H3 w3 with⟨stop,qn⟩ | ⟨go,N,hN,step⟩
 ·refine Sg hp (aT (T.done X rfl rfl rfl hc i UT s3 σ3 H3 X.xe I3 (X5 fr3) st3 stop) λr s4 ⟨hr,I4⟩=>?_)
  subst hr
  exact SE ⟨σ3,H3,I4,qn⟩
 ·refine Sg hp (aT (T.item X rfl rfl rfl hc i UT s3 σ3 H3 X.xe I3 (X5 fr3) st3 go) λr s4 ⟨u,hr,h4⟩=>?_)
  subst hr
  refine Sg hp (aT h4 λ_ s5 ⟨x,H5,I5,r5,y5,YA,fr5⟩=>?_)
  have I5':=I5.pinned (X5 fr5) (T.obj _ _ YA)
  refine Sg hp (aT (hg _ s5 σ3 H5 x u _ I5' r5 (step x H5 y5)) λ_ s6 ⟨σ6,H6,I6,q6⟩=>?_)
  refine Sg hp (aT (hb _ s6 σ6 H6 _ I6 q6) λf s7 q7=>?_)
  have again:∀{σ7:St} {H7:Hp},Inv X (UT++kQ fp s5.heap) σ7 H7 s7->N σ7 H7->∃m,m<n/\∃i σ' H',Inv X UT σ' H' s7/\tn i s7.heap/\(∀b∈fp,H' b=none)/\W i m σ' H':=λ{σ7 H7} I7 n7=>by
   obtain⟨m',hm,w7⟩:=hN σ7 H7 n7
   refine⟨m',hm,i+1,σ7,H7,I7.ou,T.keep _ _ _ YA λb hb o e=>(I7.pin (b,o) (Pb _ (Pb _ (jh hb e)))).1,λb hb=>?_,w7⟩
   obtain⟨o,e,d⟩:=T.obj _ _ YA b hb
   exact(I7.pin (b,o) (Pb _ (Pb _ (jh hb e)))).2.1
  cases f with
  | next=>obtain⟨σ7,H7,I7,n7⟩:=q7;exact again I7 n7
  | cont=>obtain⟨σ7,H7,I7,n7⟩:=q7;exact again I7 n7
  | brk=>obtain⟨σ7,H7,I7,q7⟩:=q7;exact⟨σ7,H7,I7.ou,q7⟩
  | ret v=>obtain⟨x7,σ7,H7,I7,r7,q7⟩:=q7;exact⟨x7,σ7,H7,I7.ou,r7,q7⟩
end
abbrev R2:=V->V->Hp->VK->Prop
def dQ (X:Cx)(f:Value->Value->Sem Value)(r:R2):Prop:=
 ∀(UT:OA) (s:RA) (σ:St) (H:Hp) (x y:V) (v u:Value) (Q:VK),Inv X UT σ H s->RelV x v->RelV y u->r x y H Q->
  wpAny (model X.prog X.w) X.A (f v u) (EP X UT σ Q) X.xe s
def Ij (X:Cx)(f:Value->Sem Value)(r:V->Hp->VK->Prop):Prop:=
 ∀(UT:OA) (s:RA) (σ:St) (H:Hp) (x:V) (v:Value) (Q:VK),Inv X UT σ H s->RelV x v->r x H Q->
  wpAny (model X.prog X.w) X.A (f v) (EP X UT σ Q) X.xe s
def eX (X:Cx)(f:Value)(r:List V->Hp->VK->Prop):Prop:=
 ∀(UT:OA) (s:RA) (σ:St) (H:Hp) (xs:List V) (us:OF) (Q:VK),Inv X UT σ H s->Vals xs us->r xs H Q->
  wpAny (model X.prog X.w) X.A (call f us) (EP X UT σ Q) X.xe s
def Om (X:Cx)(r:V->Hp->(Bool->Hp->Prop)->Prop):Prop:=
 ∀(UT:OA) (s:RA) (σ:St) (H:Hp) (x:V) (v:Value) (Q:Bool->Hp->Prop),Inv X UT σ H s->RelV x v->r x H Q->
  wpAny (model X.prog X.w) X.A (truthy v) (TP X UT σ Q) X.xe s
def Eh (r:R2)(ta tb:TE):TE:=λσ H Q=>ta σ H λx H1=>tb σ H1 λy H2=>r x y H2 Q
def tUn (r:V->Hp->VK->Prop)(ta:TE):TE:=λσ H Q=>ta σ H λx H1=>r x H1 Q
def rI (C:Int->Int->Prop)(g:Int->Int->V):R2:=λx y H Q=>∃i j,x= .int i/\y= .int j/\C i j/\Q (g i j) H
def rC (g:Int->Int->V):R2:=λx y H Q=>∃i j,x= .int i/\y= .int j/\Q (g i j) H
def rU (g:Int->V):V->Hp->VK->Prop:=λx H Q=>∃i,x= .int i/\Q (g i) H
section
variable {X:Cx}{a b c:Expr}{ta tb tc:TE}{pos:Pos}
variable {f:Value->Value->Sem Value}
theorem Bo (ha:PE X a ta)(hb:PE X b tb){UT:OA}{s:RA}{σ:St}{H:Hp}{R:V->V->Hp->Prop}(I:Inv X UT σ H s)
 (h:ta σ H λx H1=>tb σ H1 λy H2=>R x y H2) {Q:Value->RA->Prop}
 (hf:∀v u s2 x y H2,Inv X UT σ H2 s2->RelV x v->RelV y u->R x y H2->wpAny (model X.prog X.w) X.A (f v u) Q X.xe s2):
 wpAny (model X.prog X.w) X.A (eval a X.env) (λv s₁=>wpAny (model X.prog X.w) X.A (eval b X.env) (λu s₂=>wpAny (model X.prog X.w) X.A (f v u) Q X.xe s₂) X.xe s₁) X.xe s:=by
 refine aT (ha UT s σ H _ I h) λv s1 ⟨x,H1,I1,r1,q1⟩=>?_
 refine aT (hb UT s1 σ H1 _ I1 q1) λu s2 ⟨y,H2,I2,r2,q2⟩=>?_
 exact hf v u s2 x y H2 I2 r1 r2 q2
theorem DV {op:Operator}{r:R2}(ho:dQ X (Sk op) r)(ha:PE X a ta)(hb:PE X b tb):PE X (.BinOp a op b pos) (Eh r ta tb):=by
 intro UT s σ H Q I h
 exact wpAny_BinOp (Bo ha hb I h λv u s2 x y H2 I2 rx ry q=>ho UT s2 σ H2 x y v u Q I2 rx ry q)
theorem KU {op:UnaryOp}{r:V->Hp->VK->Prop}(ho:Ij X (unaryOp op) r)(ha:PE X a ta):PE X (.UnaryOp op a pos) (tUn r ta):=by
 intro UT s σ H Q I h
 exact UnaryOp_ (aT (ha UT s σ H _ I h) λv s1 ⟨x,H1,I1,r1,q1⟩=>ho UT s1 σ H1 x v Q I1 r1 q1)
theorem wu {C:Int->Int->Prop}{g:Int->Int->Int}
 (rule:∀(i j:Int) (t u:Tok) (s:RA) (Q:Value->RA->Prop) (E:Value->RA->Prop),C i j->Q (.int (g i j) s.toks) {s with toks:=s.toks+1}->wpAny (model X.prog X.w) X.A (f (.int i t) (.int j u)) Q E s):
 dQ X f (rI C λi j=>.int (g i j)):=by
 intro UT s σ H x y v u Q I rx ry h
 obtain⟨i,j,rfl,rfl,hc,q⟩:=h
 obtain⟨t,rfl⟩:=rx
 obtain⟨t',rfl⟩:=ry
 exact rule i j t t' s _ _ hc ⟨.int (g i j),H,I.tok _,⟨_,rfl⟩,q⟩
theorem Ig {g:Int->Int->Int}
 (rule:∀(i j:Int) (t u:Tok) (s:RA) (Q:Value->RA->Prop) (E:Value->RA->Prop),Q (.int (g i j) s.toks) {s with toks:=s.toks+1}->wpAny (model X.prog X.w) X.A (f (.int i t) (.int j u)) Q E s):
 dQ X f (rC λi j=>.int (g i j)):=by
 intro UT s σ H x y v u Q I rx ry h
 obtain⟨i,j,rfl,rfl,q⟩:=h
 obtain⟨t,rfl⟩:=rx
 obtain⟨t',rfl⟩:=ry
 exact rule i j t t' s _ _ ⟨.int (g i j),H,I.tok _,⟨_,rfl⟩,q⟩
theorem x8 {g:Int->Int->Bool}
 (rule:∀(i j:Int) (t u:Tok) (s:RA) (Q:Value->RA->Prop) (E:Value->RA->Prop),Q (.bool (g i j)) s->wpAny (model X.prog X.w) X.A (f (.int i t) (.int j u)) Q E s):
 dQ X f (rC λi j=>.bl (g i j)):=by
 intro UT s σ H x y v u Q I rx ry h
 obtain⟨i,j,rfl,rfl,q⟩:=h
 obtain⟨t,rfl⟩:=rx
 obtain⟨t',rfl⟩:=ry
 exact rule i j t t' s _ _ ⟨.bl (g i j),H,I,rfl,q⟩
def J6 (i j:Int):Prop:=0<j/\j<1073741824
def IF (i j:Int):Prop:=0<=j/\j<=1000000/\i.natAbs<2 ^ 64
def yu (i j:Int):Prop:=(-(2 ^ 64)<i/\i<2 ^ 64)∨(-(2 ^ 64)<j/\j<2 ^ 64)
theorem yu.ok {i j:Int}(h:yu i j):Tc i j:=by
 rcases h with⟨h1,h2⟩ | ⟨h1,h2⟩
 ·exact .of_left (SU h1 h2)
 ·exact .of_right (SU h1 h2)
theorem JP:dQ X (Sk .Add) (rC λi j=>.int (i+j)):=Ig λ_ _ _ _ _ _ _ q=>add_int q
theorem Jg:dQ X (Sk .Sub) (rC λi j=>.int (i-j)):=Ig λ_ _ _ _ _ _ _ q=>sub_int q
theorem Hz:dQ X (Sk .Mult) (rI yu λi j=>.int (i*j)):=wu λ_ _ _ _ _ _ _ hc q=>mul_int q hc.ok
theorem Gh:dQ X (Sk .FloorDiv) (rI J6 λi j=>.int (i/j)):=wu λi j _ _ _ _ _ hc q=>by
 have h1:(0:Int)<j:=hc.1
 have h2:j<1073741824:=hc.2
 exact floordiv_int (by omega) (by rw[Int.fdiv_eq_ediv_of_nonneg i (by omega)];exact q) (.inl (PyProof.noPylong_small (by omega)))
theorem G9:dQ X (Sk .Mod) (rI (λ_ j=>0<j) λi j=>.int (i%j)):=wu λi j _ _ _ _ _ hc q=>by
 have h1:(0:Int)<j:=hc
 exact mod_int' (by omega) (by rw[Int.fmod_eq_emod_of_nonneg i (by omega)];exact q)
theorem G6:dQ X (Sk .Pow) (rI IF λi j=>.int (i ^ j.toNat)):=wu λ_ _ _ _ _ _ _ hc q=>pow_int_small hc.1 hc.2.1 hc.2.2 q
theorem unI {f:Value->Sem Value}{g:Int->Int}
 (rule:∀(i:Int) (t:Tok) (s:RA) (Q:Value->RA->Prop) (E:Value->RA->Prop),Q (.int (g i) s.toks) {s with toks:=s.toks+1}->wpAny (model X.prog X.w) X.A (f (.int i t)) Q E s):
 Ij X f (rU λi=>.int (g i)):=by
 intro UT s σ H x v Q I rx h
 obtain⟨i,rfl,q⟩:=h
 obtain⟨t,rfl⟩:=rx
 exact rule i t s _ _ ⟨.int (g i),H,I.tok _,⟨_,rfl⟩,q⟩
theorem J4:Ij X (unaryOp .USub) (rU λi=>.int (-i)):=unI λ_ _ _ _ _ q=>neg_int q
end
def JL:V->V->Bool
 | .U8,.U8=>true | .U8,.int _=>true | .int _,.U8=>true | .U8,.bl _=>true | .bl _,.U8=>true | .U8,.str _=>true | .str _,.U8=>true
 | .int _,.int _=>true | .bl _,.bl _=>true | .str _,.str _=>true | .WN _,.WN _=>true
 | .int _,.str _=>true | .str _,.int _=>true | .bl _,.str _=>true | .str _,.bl _=>true
 | _,_=>false
def rEq:R2:=λx y H Q=>JL x y=true/\Q (.bl (decide (x=y))) H
def rNe:R2:=λx y H Q=>JL x y=true/\Q (.bl (!decide (x=y))) H
theorem nA {i j:Int}:decide (V.int i=V.int j)=(i==j):=by
 rw[OL]
 simp
theorem AO {i j:Bool}:decide (V.bl i=V.bl j)=(i==j):=by
 rw[OL]
 simp
theorem kO {i j:Str}:decide (V.str i=V.str j)=(i==j):=by
 rw[OL]
 simp
theorem w9 {i j:Array UInt8}:decide (V.WN i=V.WN j)=(i.toList==j.toList):=by
 rw[OL]
 cases i
 cases j
 simp
section
variable {X:Cx}{a b c:Expr}{ta tb tc:TE}{pos:Pos}
variable {op:CmpOp}{r:R2}
theorem bH {UT:OA}{σ:St}{H:Hp}{s:RA}{Q:VK}{k k':Bool}(I:Inv X UT σ H s)(q:Q (.bl k) H)(e:k=k'):EP X UT σ Q (.bool k') s:=by
 subst e
 exact⟨.bl k,H,I,rfl,q⟩
theorem DS:dQ X (RR .Eq) rEq:=by
 intro UT s σ H x y v u Q I rx ry h
 obtain⟨hs,q⟩:=h
 cases x with
 | U8=>
   cases rx
   cases y with
   | U8=>cases ry;exact PySem.EqNone.eq_none_none (bH I q (by simp))
   | bl j=>cases ry;exact PySem.EqNone.eq_none_bool (bH I q (by simp))
   | int j=>obtain⟨t',rfl⟩:=ry;exact PySem.EqNone.eq_none_int (bH I q (by simp))
   | str j=>obtain⟨t',rfl⟩:=ry;exact PySem.EqNone.eq_none_str (bH I q (by simp))
   | _=>exact UJ (show false=true from hs) OJ
 | bl i=>
   cases rx
   cases y with
   | U8=>cases ry;exact PySem.EqNone.eq_bool_none (bH I q (by simp))
   | bl j=>cases ry;exact eq_bool (bH I q AO)
   | str j=>obtain⟨t',rfl⟩:=ry;exact PySem.EqMixed.eq_bool_str (bH I q (by simp))
   | _=>exact UJ (show false=true from hs) OJ
 | int i=>
   obtain⟨t,rfl⟩:=rx
   cases y with
   | U8=>cases ry;exact PySem.EqNone.eq_int_none (bH I q (by simp))
   | int j=>obtain⟨t',rfl⟩:=ry;exact eq_int (bH I q nA)
   | str j=>obtain⟨t',rfl⟩:=ry;exact PySem.EqMixed.eq_int_str (bH I q (by simp))
   | _=>exact UJ (show false=true from hs) OJ
 | str i=>
   obtain⟨t,rfl⟩:=rx
   cases y with
   | U8=>cases ry;exact PySem.EqNone.eq_str_none (bH I q (by simp))
   | bl j=>cases ry;exact PySem.EqMixed.eq_str_bool (bH I q (by simp))
   | int j=>obtain⟨t',rfl⟩:=ry;exact PySem.EqMixed.eq_str_int (bH I q (by simp))
   | str j=>obtain⟨t',rfl⟩:=ry;exact eq_str (bH I q kO)
   | _=>exact UJ (show false=true from hs) OJ
 | WN i=>
   obtain⟨t,rfl⟩:=rx
   cases y with
   | WN j=>obtain⟨t',rfl⟩:=ry;exact PySem.W.eq_bytes (bH I q w9)
   | _=>exact UJ (show false=true from hs) OJ
 | _=>cases y<;>exact UJ (show false=true from hs) OJ
theorem Di:dQ X (RR .NotEq) rNe:=by
 intro UT s σ H x y v u Q I rx ry h
 obtain⟨hs,q⟩:=h
 cases x with
 | U8=>
   cases rx
   cases y with
   | U8=>cases ry;exact PySem.EqNone.ne_none_none (bH I q (by simp))
   | bl j=>cases ry;exact PySem.EqNone.ne_none_bool (bH I q (by simp))
   | int j=>obtain⟨t',rfl⟩:=ry;exact PySem.EqNone.ne_none_int (bH I q (by simp))
   | str j=>obtain⟨t',rfl⟩:=ry;exact PySem.EqNone.ne_none_str (bH I q (by simp))
   | _=>exact UJ (show false=true from hs) OJ
 | bl i=>
   cases rx
   cases y with
   | U8=>cases ry;exact PySem.EqNone.ne_bool_none (bH I q (by simp))
   | bl j=>cases ry;exact ne_bool (bH I q (congrArg not AO))
   | str j=>obtain⟨t',rfl⟩:=ry;exact PySem.EqMixed.ne_bool_str (bH I q (by simp))
   | _=>exact UJ (show false=true from hs) OJ
 | int i=>
   obtain⟨t,rfl⟩:=rx
   cases y with
   | U8=>cases ry;exact PySem.EqNone.ne_int_none (bH I q (by simp))
   | int j=>obtain⟨t',rfl⟩:=ry;exact ne_int (bH I q (congrArg not nA))
   | str j=>obtain⟨t',rfl⟩:=ry;exact PySem.EqMixed.ne_int_str (bH I q (by simp))
   | _=>exact UJ (show false=true from hs) OJ
 | str i=>
   obtain⟨t,rfl⟩:=rx
   cases y with
   | U8=>cases ry;exact PySem.EqNone.ne_str_none (bH I q (by simp))
   | bl j=>cases ry;exact PySem.EqMixed.ne_str_bool (bH I q (by simp))
   | int j=>obtain⟨t',rfl⟩:=ry;exact PySem.EqMixed.ne_str_int (bH I q (by simp))
   | str j=>obtain⟨t',rfl⟩:=ry;exact ne_str (bH I q (congrArg not kO))
   | _=>exact UJ (show false=true from hs) OJ
 | WN i=>
   obtain⟨t,rfl⟩:=rx
   cases y with
   | WN j=>obtain⟨t',rfl⟩:=ry;exact PySem.W.ne_bytes (bH I q (congrArg not w9))
   | _=>exact UJ (show false=true from hs) OJ
 | _=>cases y<;>exact UJ (show false=true from hs) OJ
theorem L7:dQ X (RR .Lt) (rC λi j=>.bl (decide (i<j))):=x8 λ_ _ _ _ _ _ _ q=>lt_int q
theorem L3:dQ X (RR .LtE) (rC λi j=>.bl (decide (i<=j))):=x8 λ_ _ _ _ _ _ _ q=>le_int q
theorem Mr:dQ X (RR .Gt) (rC λi j=>.bl (decide (j<i))):=x8 λ_ _ _ _ _ _ _ q=>gt_int q
theorem K6:dQ X (RR .GtE) (rC λi j=>.bl (decide (j<=i))):=x8 λ_ _ _ _ _ _ _ q=>ge_int q
theorem Fv:dQ X (RR .IsNot) (λx y H Q=>y= .U8/\Q (.bl (!decide (x= .U8))) H):=by
 intro UT s σ H x y v u Q I rx ry h
 obtain⟨rfl,q⟩:=h
 cases ry
 refine isnot_none_gen (bH I q ?_)
 cases x<;>first
  | (cases rx;rfl)
  | (obtain⟨t,rfl⟩:=rx;rfl)
theorem uz (b:Expr)(h:op≠ .In:=by decide)(h2:op≠ .NotIn:=by decide):Sh op b=false:=by
 have e1:(op==CmpOp.In)=false:=by cases op<;>first | rfl | exact UJ rfl h
 have e2:(op==CmpOp.NotIn)=false:=by cases op<;>first | rfl | exact UJ rfl h2
 cases b<;>simp[Sh,e1,e2]
theorem ER (ho:dQ X (RR op) r)(ha:PE X a ta)(hb:PE X b tb)(hm:Sh op b=false):PE X (.Compare a [op] [b] pos) (Eh r ta tb):=by
 intro UT s σ H Q I h
 exact wpAny_Compare1 (Bo ha hb I h λv u s2 x y H2 I2 rx ry q=>ho UT s2 σ H2 x y v u Q I2 rx ry q) hm
def D3 (t:TE):TT:=λσ H Q=>t σ H λx H'=>∃k,x= .bl k/\Q k H'
theorem E9 (ho:dQ X (RR op) r)(ha:PE X a ta)(hb:PE X b tb)(hm:Sh op b=false):PT X (.Compare a [op] [b] pos) (D3 (Eh r ta tb)):=by
 intro UT s σ H Q I h
 refine wpAny_isTrue_Compare1 (aT (ha UT s σ H _ I h) λv s1 ⟨x,H1,I1,r1,q1⟩=>aT (hb UT s1 σ H1 _ I1 q1) λu s2 ⟨y,H2,I2,r2,q2⟩=>
  aT (ho UT s2 σ H2 x y v u _ I2 r1 r2 q2) λc s3 ⟨z,H3,I3,r3,k,e,q3⟩=>?_) hm
 subst e
 cases r3
 exact RQ ⟨H3,I3,q3⟩
def zm (r r':R2)(ta tb tc:TE):TE:=λσ H Q=>ta σ H λx H1=>tb σ H1 λy H2=>r x y H2 λz H3=>∃k,z= .bl k/\
 (if k=true then tc σ H3 λw' H4=>r' y w' H4 Q else Q (.bl false) H3)
theorem Cw {Wx:CmpOp}{r':R2}(ho:dQ X (RR op) r)(Wc:dQ X (RR Wx) r')(ha:PE X a ta)(hb:PE X b tb)(hc:PE X c tc)
 (hm:lastMarks [op,Wx] [b,c]=false:=by with_unfolding_all rfl):PE X (.Compare a [op,Wx] [b,c] pos) (zm r r' ta tb tc):=by
 intro UT s σ H Q I h
 refine Compare_chain (aT (ha UT s σ H _ I h) λv s1 ⟨x,H1,I1,r1,q1⟩=>chain_link (aT (hb UT s1 σ H1 _ I1 q1) λu s2 ⟨y,H2,I2,r2,q2⟩=>
  aT (ho UT s2 σ H2 x y v u _ I2 r1 r2 q2) λd s3 ⟨z,H3,I3,r3,k,e,q3⟩=>?_)) hm
 subst e
 cases r3
 refine RQ ?_
 cases k with
 | false=>exact ite_ff ⟨.bl false,H3,I3,rfl,q3⟩
 | true=>exact ite_tt (chain_last (aT (hc UT s3 σ H3 _ I3 q3) λw' s4 ⟨z',H4,I4,r4,q4⟩=>Wc UT s4 σ H4 y z' u w' Q I4 r2 r4 q4))
theorem BV {Wx:CmpOp}{r':R2}(ho:dQ X (RR op) r)(Wc:dQ X (RR Wx) r')(ha:PE X a ta)(hb:PE X b tb)(hc:PE X c tc)
 (hm:lastMarks [op,Wx] [b,c]=false:=by with_unfolding_all rfl):PT X (.Compare a [op,Wx] [b,c] pos) (D3 (zm r r' ta tb tc)):=by
 intro UT s σ H Q I h
 refine isTrue_chain (aT (ha UT s σ H _ I h) λv s1 ⟨x,H1,I1,r1,q1⟩=>test_link (aT (hb UT s1 σ H1 _ I1 q1) λu s2 ⟨y,H2,I2,r2,q2⟩=>
  aT (ho UT s2 σ H2 x y v u _ I2 r1 r2 q2) λd s3 ⟨z,H3,I3,r3,k,e,q3⟩=>?_)) hm
 subst e
 cases r3
 refine RQ ?_
 cases k with
 | false=>
   obtain⟨k',e',q'⟩:=q3
   cases e'
   exact ite_ff ⟨H3,I3,q'⟩
 | true=>
   refine ite_tt (test_last (aT (hc UT s3 σ H3 _ I3 q3) λw' s4 ⟨z',H4,I4,r4,q4⟩=>aT (Wc UT s4 σ H4 y z' u w' _ I4 r2 r4 q4) λd' s5 ⟨z2,H5,I5,r5,k2,e2,q5⟩=>?_))
   subst e2
   cases r5
   exact RQ ⟨H5,I5,q5⟩
def Kq (K:Uk)(x:V)(H:Hp)(k:Bool):Prop:=
 match x with
 | .U8=>k=false
 | .bl b=>k=b
 | .int i=>k=(i != 0)
 | .str y=>y.length<=RE/\k=((y.length:Int) != 0)
 | .WN y=>y.size<=RE/\k=((y.size:Int) != 0)
 | .ref p=>(∃xs,aU K H p xs/\k= !xs.isEmpty)∨(∃xs,du K H p xs/\k= !xs.isEmpty)∨∃kvs,H p=some (.dK kvs)/\k= !kvs.isEmpty
 | _=>False
theorem xO {κ:Type}{kvs:List (κ×V)}{vs:List (κ×Value)}(r:KV kvs vs):(!vs.isEmpty)= !kvs.isEmpty:=by
 cases r<;>rfl
theorem pB {xs:List V}{UW:OF}(r:Vals xs UW):(!UW.toArray.isEmpty)= !xs.isEmpty:=by
 cases r<;>simp
theorem jE:(RE:Nat)<2 ^ 63:=by rw[SQ];decide
theorem Ik:Om X (λx H Q=>∃k,Kq X.K x H k/\Q k H):=by
 intro UT s σ H x v Q I rx h
 obtain⟨k,e,q⟩:=h
 have hl:=jE
 have hs:RE=16777216:=SQ
 cases x with
 | U8=>
   cases rx
   have e':k=false:=e
   subst e'
   exact truthy_none ⟨H,I,q⟩
 | bl b=>
   cases rx
   have e':k=b:=e
   subst e'
   exact RQ ⟨H,I,q⟩
 | int i=>
   obtain⟨t,rfl⟩:=rx
   have e':k=(i != 0):=e
   subst e'
   exact PySem.P.truthy_int ⟨H,I,q⟩
 | str y=>
   obtain⟨t,rfl⟩:=rx
   obtain⟨hy,e'⟩:y.length<=RE/\k=((y.length:Int) != 0):=e
   subst e'
   exact PySem.P.truthy_str (by omega) ⟨H,I.tok _,q⟩
 | WN y=>
   obtain⟨t,rfl⟩:=rx
   obtain⟨hy,e'⟩:y.size<=RE/\k=((y.size:Int) != 0):=e
   subst e'
   exact PySem.W.truthy_bytes (by omega) ⟨H,I.tok _,q⟩
 | ref p=>
   cases rx
   have e':(∃xs,aU X.K H p xs/\k= !xs.isEmpty)∨(∃xs,du X.K H p xs/\k= !xs.isEmpty)∨∃kvs,H p=some (.dK kvs)/\k= !kvs.isEmpty:=e
   rcases e' with⟨xs,hx,e'⟩ | ⟨xs,hx,e'⟩ | ⟨kvs,hx,e'⟩
   ·subst e'
    obtain⟨UW,r,pl,hz⟩:=I.list hx
    have hlen:=r.length
    exact wpAny_truthy_list pl.isList (by simp only[O9];omega) ⟨H,I.tok _,by rw[pB r];exact q⟩
   ·subst e'
    obtain⟨UW,r,pl,hz⟩:=I.tuple hx
    have hlen:=r.length
    exact truthy_tuple pl (by simp only[O9];omega) ⟨H,I.tok _,by rw[pB r];exact q⟩
   ·subst e'
    obtain⟨hz,hS,vs,r,m⟩:kvs.length<=RE/\(p==R7)=false/\∃vs,KV kvs vs/\s.heap.DictOf (bW X.prog X.w) p vs:=I.UZ p _ hx
    have hlen:kvs.length=vs.length:=Paired.length r
    exact wpAny_truthy_dict hS m (by omega) ⟨H,I.tok _,by rw[xO r];exact q⟩
 | _=>exact(show False from e).elim
theorem tG (ha:PE X a ta)(he:∀whole,Su a X.env whole=(do let v ← whole;SM a.pos;Si [v] (truthy v))):
 PT X a (λσ H Q=>ta σ H λx H'=>∃k,Kq X.K x H' k/\Q k H'):=by
 intro UT s σ H Q I h
 exact isTrue_plain (aT (ha UT s σ H _ I h) λv s1 ⟨x,H1,I1,r1,q1⟩=>Ik UT s1 σ H1 x v Q I1 r1 q1) (he _)
theorem xN:dQ X (Sk .Add) (λx y H Q=>∃i j,x= .str i/\y= .str j/\i.length+j.length<=RE/\Q (.str (i++j)) H):=by
 intro UT s σ H x y v u Q I rx ry h
 obtain⟨i,j,rfl,rfl,hz,q⟩:=h
 obtain⟨t,rfl⟩:=rx
 obtain⟨t',rfl⟩:=ry
 exact add_str (λt' tk=>⟨.str (i++j),H,I.tok _,⟨_,rfl⟩,q⟩) hz
theorem vals1 {x:V}{us:OF}(r:Vals [x] us):∃u,us=[u]/\RelV x u:=by
 cases r with
 | cons r1 r2=>cases r2;exact⟨_,rfl,r1⟩
theorem vals2 {x y:V}{us:OF}(r:Vals [x,y] us):∃u w',us=[u,w']/\RelV x u/\RelV y w':=by
 cases r with
 | cons r1 r2=>
   cases r2 with
   | cons r3 r4=>cases r4;exact⟨_,_,rfl,r1,r3⟩
theorem yV (hc:X.calm=true):eX X (.builtin "min") (λxs H Q=>∃i j,xs=[.int i,.int j]/\Q (.int (if j<i then j else i)) H):=by
 intro UT s σ H xs us Q I r h
 obtain⟨i,j,rfl,q⟩:=h
 obtain⟨u,w',rfl,⟨t,rfl⟩,⟨t',rfl⟩⟩:=vals2 r
 refine min_two_ints (I.ok.hd hc) λh' tk k=>⟨_,H,I.kept k,?_,q⟩
 by_cases hj:j<i
 ·rw[UL hj,UL hj];exact⟨_,rfl⟩
 ·rw[UK hj,UK hj];exact⟨_,rfl⟩
theorem zV:eX X (.type "int") (λxs H Q=>(∃i,xs=[.int i]/\Q (.int i) H)∨∃k,xs=[.bl k]/\Q (.int (if k then 1 else 0)) H):=by
 intro UT s σ H xs us Q I r h
 rcases h with⟨i,rfl,q⟩ | ⟨k,rfl,q⟩
 ·obtain⟨u,rfl,t,rfl⟩:=vals1 r
  exact call_int_int ⟨.int i,H,I,⟨_,rfl⟩,q⟩
 ·obtain⟨u,rfl,r1⟩:=vals1 r
  cases r1
  exact call_int_bool ⟨.int (if k then 1 else 0),H,I.tok _,⟨_,rfl⟩,q⟩
end
structure qC (h:Heap) (x dx C:Addr) (mA:Oz):Prop where
 obj:h.get? x=some (Uw C dx)
 ns:h.Ns1 dx mA
 ne:dx≠x
theorem Au {h:Heap}{dx:Addr}{mA:Oz}(n:h.Ns1 dx mA):∃od,h.get? dx=some od/\∀name,UE name od=some (mA name):=by
 obtain⟨o,es,ep,ho,hd,hk,_,hm⟩:=n
 refine⟨o,ho,λname=>?_⟩
 have e:=hm name
 unfold nsFind findBy at e
 rw[← Array.find?_toList] at e
 unfold UE
 rw[hd]
 dsimp only
 split
 ·rename_i y q
  rw[q] at e
  exact congrArg some e
 ·rename_i q
  rw[q] at e
  have a:es.toList.any (·.refKey)=false:=by
   rw[List.any_eq_false]
   intro y hy
   obtain⟨z,t,Wm⟩:=hk y (Array.mem_toList_iff.mp hy)
   simp[DictEntry.refKey,Wm]
  have a':¬es.toList.any (·.refKey)=true:=by rw[a];exact OJ
  rw[UK a']
  exact congrArg some e
theorem qC.look {h:Heap}{x dx C:Addr}{mA:Oz}(I:qC h x dx C mA):∃od,PySem.W.InstAt h x (Uw C dx) C (some od)/\∀name,UE name od=some (mA name):=
 let ⟨od,ho,hl⟩:=Au I.ns
 ⟨od,⟨I.obj,rfl,rfl,ho⟩,hl⟩
section
variable {prog:RJ}{w:World}{A:RL}{E:Value->RA->Prop}{s:RA}{K:Uk}{x dx C f:Addr}{mA:Oz}{name:Str}{v:Value}
theorem get_map {expr:Bool}{Q:Value->RA->Prop}(X:K.In s.heap)(I:qC s.heap x dx C mA)(hg:Uy K C name=true)(hh:Ux K C=true)
 (ha:Um K (.ref C) name=some none) (hv:mA name=some v) (WA:PySem.W.handedIn v=true) (h:Q v {s with toks:=s.toks+1}):
 wpAny (model prog w) A (getAttr (.ref x) name expr) Q E s:=by
 obtain⟨od,J,hl⟩:=I.look
 exact PySem.W.get_value X J (PySem.W.plainGet_of hg).1 (PySem.W.findObj_own hh ha rfl (by rw[hl,hv])) WA h
theorem Gg {ns:OC}{Q:Unit->RA->Prop}(X:K.In s.heap)(I:qC s.heap x dx C mA)
 (hs:Um K (.ref C) "__setattr__"=some (some (.builtin "object.__setattr__"))) (hp:Uz K C=true) (ht:UC K C name=some none) (hh:Ux K C=true)
 (hw:Tf mA ns) (hsz:ns.length<=RE)
 (h:∀h',qC h' x dx C (λy=>if y=name then some v else mA y)->TY dx s.heap h'->Q () {s with heap:=h',toks:=s.toks+2}):
 wpAny (model prog w) A (setAttr (.ref x) name v) Q E s:=by
 obtain⟨od,J,hl⟩:=I.look
 refine PySem.W.set_plain X J hs (PySem.W.osa_open (s:={s with toks:=s.toks+1}) (r:=none) X J hp ht λb=>?_)
 obtain⟨cd,hc,Zu⟩:=PySem.W.any_some hh
 have hx:s.heap.get? x=some ⟨.ref C,some dx,.plain, #[]⟩:=I.obj
 refine RF (RH (RF (RF (wpAny_loadPart hx (RF (PySem.W.Looks.here (s:={s with toks:=s.toks+1}) (PySem.W.looks_clsIn X hc) ?_))))))
 rw[Zu]
 refine RH (a:=some dx) (RF (RH (RF ?_)))
 refine wpAny_nsSet1 (s:={s with toks:=s.toks+1}) I.ns λh' hn2 Vv=>?_
 obtain⟨oD,esD,epD,hoD,hdD,hcD⟩:=hn2.count (Tf.cons name v hw)
 refine RF (wpAny_lookBehind hoD (by rw[hdD];exact pastItsLine_dict (QX hcD (by rw[O8];omega))) ?_)
 exact RH (h _ ⟨(Vv.2 _ (Rk I.ne)).trans I.obj,hn2,I.ne⟩ Vv)
theorem Cy {R:Result->RA->Prop}{vs:OF}{kw:List (Str×Value)}(X:K.In s.heap)(hm:UA K C=true)
 (hi:Um K (.ref C) "__init__"=some (some (.ref f))) (hf:PySem.W.typeIn K (.ref f)=some (.type "function"))
 (h:SN (model prog w) (A.under (.builtin "type.__call__" ⟨.ref C::vs,kw⟩)) (.call (.ref f) ⟨.ref (s.heap.objs.size+1)::vs,kw⟩) (PySem.W.InitBack (s.heap.objs.size+1) R)
  {s with heap:=(s.heap.push Uv).push (Uw C s.heap.objs.size)}):
 SN (model prog w) A (.call (.ref C) ⟨vs,kw⟩) R s:=by
 obtain⟨hh,g,d,t,os⟩:=s
 exact PySem.W.make_core (PySem.W.makes_of X hm) (PySem.W.looks_findIn X hi) (λself=>PySem.W.bind_fn X self hf) (.inl rfl) h
end
def fC (f:Str)(v:V):List (Str×V)->List (Str×V)
 | []=>[(f,v)]
 | (g,x)::r=>if g=f then(g,v)::r else(g,x)::fC f v r
theorem nO (f g:Str)(v:V):∀fs:List (Str×V),(fC f v fs).lookup g=if g=f then some v else fs.lookup g
 | []=>by
   show Qa g [(f,v)]=_
   by_cases h:g=f
   ·have hb:(g==f)=true:=beq_iff_eq.mpr h
    simp only[Qa,hb,UL h]
   ·have hb:(g==f)=false:=beq_eq_false_iff_ne.mpr h
    simp only[Qa,hb,UK h]
 | (k,x)::r=>by
   have ih:=nO f g v r
   rw[show fC f v ((k,x)::r)=(if k=f then(k,v)::r else(k,x)::fC f v r) from rfl]
   by_cases hk:k=f
   ·rw[UL hk]
    by_cases h:g=k
    ·have hb:(g==k)=true:=beq_iff_eq.mpr h
     simp only[Qa,hb,UL (h.trans hk)]
    ·have hb:(g==k)=false:=beq_eq_false_iff_ne.mpr h
     simp only[Qa,hb,UK (λe:g=f=>h (e.trans hk.symm))]
   ·rw[UK hk]
    by_cases h:g=k
    ·have hb:(g==k)=true:=beq_iff_eq.mpr h
     simp only[Qa,hb,UK (λe:g=f=>hk (h.symm.trans e))]
    ·have hb:(g==k)=false:=beq_eq_false_iff_ne.mpr h
     simp only[Qa,hb]
     exact ih
theorem m3 (f:Str)(v:V):∀fs:List (Str×V),f∈(fC f v fs).map (·.1)/\∀g,g∈fs.map (·.1)->g∈(fC f v fs).map (·.1)
 | []=>⟨by simp[fC],λg h=>by simp at h⟩
 | (k,x)::r=>by
   obtain⟨i1,i2⟩:=m3 f v r
   rw[show fC f v ((k,x)::r)=(if k=f then(k,v)::r else(k,x)::fC f v r) from rfl]
   by_cases hk:k=f
   ·rw[UL hk]
    subst hk
    exact⟨by simp,λg h=>by simpa using h⟩
   ·rw[UK hk]
    refine⟨?_,λg h=>?_⟩
    ·rw[PH]
     exact O2 _ i1
    ·rw[PH] at h ⊢
     rcases O7.mp h with e | e
     ·exact O7.mpr (.inl e)
     ·exact O2 _ (i2 g e)
theorem nM (f:Str)(v:V):∀fs:List (Str×V),(fC f v fs).length<=fs.length+1
 | []=>by simp[fC]
 | (k,x)::r=>by
   have ih:=nM f v r
   rw[show fC f v ((k,x)::r)=(if k=f then(k,v)::r else(k,x)::fC f v r) from rfl]
   by_cases hk:k=f
   ·rw[UL hk,O8,O8];omega
   ·rw[UK hk,O8,O8];omega
theorem iE.some_of {v:V}{o:OD}(r:iE (some v) o):∃u,o=some u/\RelV v u:=by
 cases o with
 | none=>exact(show False from r).elim
 | some u=>exact⟨u,rfl,r⟩
theorem yQ {v:V}{u:Value}(r:RelV v u):PySem.W.handedIn u=true:=by
 cases v with
 | U8=>cases (show u=Ud from r);rfl
 | bl b=>cases (show u=Uh b from r);rfl
 | int i=>obtain⟨t,e⟩:=(show∃t,u=Ue i t from r);cases e;rfl
 | str x=>obtain⟨t,e⟩:=(show∃t,u=Ug x t from r);cases e;rfl
 | WN b=>obtain⟨t,e⟩:=(show∃t,u=Value.bytes b t from r);cases e;rfl
 | Yw b=>obtain⟨t,e⟩:=(show∃t,u=Ui b t from r);cases e;rfl
 | ref a=>cases (show u=Uc a from r);rfl
 | ty n=>cases (show u=Uj n from r);rfl
section
variable {P:RJ}{w:World}{H H':Hp}{h h':Heap}{a C dx:Addr}{fs fs':List (Str×V)}
theorem rf (UZ:dS P w H h)(e:H a=some (.ins C dx fs)):∃mA,qC h a dx C mA/\(∀f,iE (fs.lookup f) (mA f))/\Tf mA (fs.map (·.1))/\fs.length<=1000/\H dx=some (.own a):=by
 obtain⟨d,z,ne,ob,mA,n,r,q⟩:=(show cN P w H h a (.ins C dx fs) from UZ a _ e)
 exact⟨mA,⟨ob,n,ne⟩,r,q,z,d⟩
end
structure lh (K:Uk) (C:Addr):Prop where
 pg:Uy K C Str.empty=true
 hd:Ux K C=true
 po:Uz K C=true
 sa:Um K (.ref C) "__setattr__"=some (some (.builtin "object.__setattr__"))
theorem lh.get {K:Uk}{C:Addr}(c:lh K C)(f:Str):Uy K C f=true:=c.pg
def jW (K:Uk)(C:Addr)(f:Str):Prop:=Um K (.ref C) f=some none
theorem jW.KQ {K:Uk}{C:Addr}{f:Str}(n:jW K C f):UC K C f=some none:=by
 unfold UC
 rw[show Um K (.ref C) f=some none from n]
 rfl
section
variable {X:Cx}{UT:OA}{σ:St}{H:Hp}{s:RA}{a C dx:Addr}{fs:List (Str×V)}{f:Str}{v:V}{A:RL}{E:Value->RA->Prop}
theorem yy {b:Bool}{Q:Value->RA->Prop}(I:Inv X UT σ H s)(e:H a=some (.ins C dx fs))(c:lh X.K C)(n:jW X.K C f)(l:fs.lookup f=some v)
 (h:∀u s',Inv X UT σ H s'->RelV v u->Q u s'):wpAny (model X.prog X.w) A (getAttr (.ref a) f b) Q E s:=by
 obtain⟨mA,O,r,_,_,_⟩:=rf I.UZ e
 obtain⟨u,hu,ru⟩:=iE.some_of (v:=v) (o:=mA f) (by rw[← l];exact r f)
 exact get_map I.fo O (c.get f) c.hd n hu (yQ ru) (h u _ (I.tok _) ru)
theorem yt {y:V}{u:Value}{Q:Unit->RA->Prop}(I:Inv X UT σ H s)(e:H a=some (.ins C dx fs))(c:lh X.K C)(n:jW X.K C f)(hl:fs.length<1000)(ry:RelV y u)
 (h:∀s',Inv X UT σ (upd H a (.ins C dx (fC f y fs))) s'->Q () s'):wpAny (model X.prog X.w) A (setAttr (.ref a) f u) Q E s:=by
 obtain⟨mA,O,r,wi,_,ho⟩:=rf I.UZ e
 have hz:(fs.map (·.1)).length<=RE:=by rw[OZ,SQ];omega
 refine Gg I.fo O c.sa c.po n.KQ c.hd wi hz λh' O' sb=>h _ ?_
 have hd:∃o,h'.get? dx=some o:=let ⟨o,_,_,e',_⟩:=O'.ns;⟨o,e'⟩
 refine I.write (x:=a) (e:=dx) (by rw[e];exact UI) (.inr ho) (λb q hb z=>(sb.2 b hb).trans z) hd ?_
 refine⟨by rw[aB O.ne];exact ho,?_,O.ne,O'.obj,_,O'.ns,λg=>?_,λg hg=>?_⟩
 ·have:=nM f y fs;omega
 ·show iE ((fC f y fs).lookup g) (if g=f then some u else mA g)
  rw[nO]
  by_cases q:g=f
  ·rw[UL q,UL q];exact ry
  ·rw[UK q,UK q];exact r g
 ·by_cases q:g=f
  ·rw[q];exact(m3 f y fs).1
  ·refine(m3 f y fs).2 g (wi g λz=>hg ?_)
   show(if g=f then some u else mA g)=none
   rw[UK q];exact z
theorem Inv.made (I:Inv X UT σ H s):Inv X UT σ (upd (upd H s.heap.objs.size (.own (s.heap.objs.size+1))) (s.heap.objs.size+1) (.ins C s.heap.objs.size []))
 {s with heap:=(s.heap.push Uv).push (Uw C s.heap.objs.size)}:=by
 have e1:(s.heap.push Uv).get? s.heap.objs.size=some Uv:=TR s.heap rfl
 have e2:((s.heap.push Uv).push (Uw C s.heap.objs.size)).get? (s.heap.objs.size+1)=some (Uw C s.heap.objs.size):=by
  have:=TR (s.heap.push Uv) (o:=Uw C s.heap.objs.size) rfl
  rwa [TU] at this
 have e3:(s.heap.push Uv).Ns s.heap.objs.size (λ_=>none):=⟨Uv, #[],_,e1,rfl,(λe he=>UJ he (by simp)),λ_=>rfl⟩
 have I1:=I.laid (a:=s.heap.objs.size) (o:=.own (s.heap.objs.size+1)) (h':=s.heap.push Uv) (t':=s.toks) (λb u q=>TN _ q) (QW _) ⟨_,e1⟩
 refine I1.laid (a:=s.heap.objs.size+1) (o:=.ins C s.heap.objs.size []) (t':=s.toks) (λb u q=>TN _ q) (Ri (TU _ _)) ?_
 have ne:s.heap.objs.size≠s.heap.objs.size+1:=Q1 (Q7 _)
 refine⟨by rw[aB ne,aA],QY _,ne,e2,λ_=>none,(Heap.Ns1.of_empty e3).at λo q=>TN _ q,λ_=>UI,λy hy=>UJ rfl hy⟩
theorem FR {prog:RJ}{w:World}{env:Env}{e:Expr}{f:Str}{pos:Pos}{s:RA}{Q:Value->RA->Prop}(hb:RK e f env (eval e env)=eval e env)
 (h:wpAny (model prog w) A (eval e env) (λo s₁=>wpAny (model prog w) A (getAttr o f true) Q E s₁) E s):wpAny (model prog w) A (eval (.Attribute e f pos) env) Q E s:=
 Attribute_any_ h (by rw[arm_eval_Attribute,hb])
end
def Ov (K:Uk)(ta:TE)(f:Str):TE:=λσ H Q=>ta σ H λx H1=>∃a C dx fs v,x= .ref a/\H1 a=some (.ins C dx fs)/\lh K C/\jW K C f/\fs.lookup f=some v/\Q v H1
def NJ (K:Uk)(ta tv:TE)(f:Str):TS:=λD σ H=>tv σ H λy H1=>ta σ H1 λx H2=>∃a C dx fs,x= .ref a/\H2 a=some (.ins C dx fs)/\lh K C/\jW K C f/\fs.length<1000/\
 D.nx σ (upd H2 a (.ins C dx (fC f y fs)))
section
variable {X:Cx}{o e value:Expr}{f:Str}{pos pos' tpos:Pos}{ta tv:TE}
theorem tw (he:PE X e ta)(hb:RK e f X.env (eval e X.env)=eval e X.env):PE X (.Attribute e f pos) (Ov X.K ta f):=by
 intro UT s σ H Q I h
 refine FR hb (aT (he UT s σ H _ I h) λu s1 ⟨x,H1,I1,rx,a,C,dx,fs,v,ex,ea,c,n,l,q⟩=>?_)
 subst ex
 obtain rfl:u=Uc a:=rx
 exact yy I1 ea c n l λu' s2 I2 ru=>⟨v,H1,I2,ru,q⟩
theorem Ih (ha:PE X o ta)(hv:PE X value tv)(hs:RN value (some (.Attribute o f pos')) pos.line X.env=pure false):PS X (.Assign [.Attribute o f pos'] value pos) (NJ X.K ta tv f):=by
 intro UT s σ H D I h
 refine plainObj_wpAny_Assign_Attribute (aT (hv UT s σ H _ I h) λu s1 ⟨y,H1,I1,ry,q⟩=>aT (ha UT s1 σ H1 _ I1 q) λov s2 ⟨x,H2,I2,rx,a,C,dx,fs,ex,ea,c,n,l,q2⟩=>?_) hs
 subst ex
 obtain rfl:ov=Uc a:=rx
 exact yt I2 ea c n l ry λs3 I3=>⟨σ,_,I3,q2⟩
end
section
variable {X:Cx}{UT:OA}{σ:St}{H:Hp}{s:RA}{A:RL}{E:Value->RA->Prop}{Q:Value->RA->Prop}{c:Value}{b:Bool}
inductive fX (K:Uk) (H:Hp):V->Value->Prop where
 | U8:fX K H .U8 (.type "NoneType")
 | bl (x:Bool):fX K H (.bl x) (.type "bool")
 | int (i:Int):fX K H (.int i) (.type "int")
 | str (x:Str):fX K H (.str x) (.type "str")
 | Yw (x:UInt64):fX K H (.Yw x) (.type "float")
 | lst {a:Addr} {xs:List V} (e:H a=some (.lst xs)):fX K H (.ref a) (.type "list")
 | VP {a:Addr} {o:Obj} {xs:List V} (e:H a=some (.VP o (.lst xs))):fX K H (.ref a) (.type "list")
 | tup {a:Addr} {xs:List V} (e:H a=some (.tup xs)):fX K H (.ref a) (.type "tuple")
 | dK {a:Addr} {kvs:List (Key×V)} (e:H a=some (.dK kvs)):fX K H (.ref a) (.type "dict")
 | dT {a:Addr} {kvs:List (List Key×V)} (e:H a=some (.dT kvs)):fX K H (.ref a) (.type "dict")
 | ins {a C dx:Addr} {fs:List (Str×V)} (e:H a=some (.ins C dx fs)) (cl:lh K C) (ha:Um K (.ref C) "__class__"=some (some (.builtin "object.__class__")))
  (hn:PySem.W.specialIn K (.builtin "object.__class__") "__get__"=some (some (.builtin "getset_descriptor.__get__"))) (htk:PySem.W.takesIn K (.builtin "object.__class__")=some true)
  (hm:PySem.W.mroIn K C (.type "object")=some true):fX K H (.ref a) (.ref C)
theorem Av {x:V}{u t:Value}(I:Inv X UT σ H s)(rx:RelV x u)(ty:fX X.K H x t)(e:UG X.K t c=some b)(h:∀tk,Q (.bool b) {s with toks:=tk}):
 wpAny (model X.prog X.w) A (call (.builtin "isinstance") [u,c]) Q E s:=by
 cases ty with
 | U8=>cases (show u=Ud from rx);exact Ut PySem.W.kitx_none I.fo UI e (λz=>nomatch z) h
 | bl y=>cases (show u=Uh y from rx);exact Ut PySem.W.kitx_bool I.fo UI e (λz=>nomatch z) h
 | int i=>obtain⟨t,q⟩:=(show∃t,u=Ue i t from rx);cases q;exact Ut PySem.W.kitx_int I.fo UI e (λz=>nomatch z) h
 | str y=>obtain⟨t,q⟩:=(show∃t,u=Ug y t from rx);cases q;exact Ut PySem.W.kitx_str I.fo UI e (λz=>nomatch z) h
 | Yw y=>obtain⟨t,q⟩:=(show∃t,u=Ui y t from rx);cases q;exact Ut PySem.W.kitx_float I.fo UI e (λz=>nomatch z) h
 | @lst a xs ea=>
   cases (show u=Uc a from rx)
   obtain⟨_,_,n,_,h1⟩:=(show cN X.prog X.w H s.heap a (.lst xs) from I.UZ a _ ea)
   exact Ut PySem.W.kitx_list I.fo ⟨_,h1,rfl⟩ e (λz=>nomatch z) h
 | @VP a ob xs ea=>
   cases (show u=Uc a from rx)
   obtain⟨_,_,_,n,_,h1⟩:=(show cN X.prog X.w H s.heap a (.VP ob (.lst xs)) from I.UZ a _ ea)
   exact Ut PySem.W.kitx_list I.fo ⟨_,h1,rfl⟩ e (λz=>nomatch z) h
 | @tup a xs ea=>
   cases (show u=Uc a from rx)
   obtain⟨_,_,_,p⟩:=(show cN X.prog X.w H s.heap a (.tup xs) from I.UZ a _ ea)
   obtain⟨o,h1,h2,_⟩:=p
   exact Ut PySem.W.kitx_tuple I.fo ⟨o,h1,h2⟩ e (λz=>nomatch z) h
 | @dK a kvs ea=>
   cases (show u=Uc a from rx)
   obtain⟨_,_,vs,_,p⟩:=(show cN X.prog X.w H s.heap a (.dK kvs) from I.UZ a _ ea)
   obtain⟨o,es,ep,h1,h2,_⟩:=p
   exact Ut PySem.W.kitx_dict I.fo ⟨o,h1,h2.1⟩ e (λz=>nomatch z) h
 | @dT a kvs ea=>
   cases (show u=Uc a from rx)
   obtain⟨_,_,xs,_,o,es,ep,h1,h2,_⟩:=(show cN X.prog X.w H s.heap a (.dT kvs) from I.UZ a _ ea)
   exact Ut PySem.W.kitx_dict I.fo ⟨o,h1,h2.1⟩ e (λz=>nomatch z) h
 | @ins a C dx fs ea cl ha hn htk hm=>
   cases (show u=Uc a from rx)
   obtain⟨mA,O,_⟩:=rf I.UZ ea
   obtain⟨od,J,_⟩:=O.look
   exact Ut (PySem.W.kitx_own (cl.get _) cl.hd ha hn htk hm) I.fo J e (λz=>nomatch z) h
end
section
variable {A:RL}
structure bI (k:Nat) (A:RL):Prop where
 hd:A.handled=none
 dp:A.depth+3*k+5<recursionLimit
 un:A.units+16*k+200<cLine
theorem bI.mono {j k:Nat}(r:bI k A)(h:j<=k):bI j A:=⟨r.hd,by have:=r.dp;omega,by have:=r.un;omega⟩
theorem bI.deeper {k:Nat}(r:bI (k+1) A)(env:Env):bI k (A.deeper env):=
 ⟨r.hd,by have:=r.dp;show A.depth+1+3*k+5<_;omega,by have:=r.un;show A.units+3+16*k+200<_;omega⟩
theorem yb {C:Addr}{us:OF}{kw:List (Str×Value)}:(A.under (.builtin "type.__call__" ⟨.ref C::us,kw⟩)).depth=A.depth+1:=by
 first | rfl | simp[RL.under,Code.weight,Code.isCreation,Code.isGuard,Code.isCaller,Code.frames,Tv,guardIds]
theorem yh {C:Addr}{us:OF}{kw:List (Str×Value)}:(A.under (.builtin "type.__call__" ⟨.ref C::us,kw⟩)).units=A.units+1:=by
 first | rfl | simp[RL.under,Code.cUnits,Code.frames,Tv]
theorem bI.make {k:Nat}(r:bI (k+1) A)(C:Addr)(us:OF)(kw:List (Str×Value)):bI k (A.under (.builtin "type.__call__" ⟨.ref C::us,kw⟩)):=
 ⟨r.hd,by have:=r.dp;rw[yb];omega,by have:=r.un;rw[yh];omega⟩
theorem bI.depth {k:Nat}(r:bI k A):A.depth<recursionLimit:=by have:=r.dp;omega
theorem bI.units {k:Nat}(r:bI k A):A.units+64<cLine:=by have:=r.un;omega
def NU:TA:=λ_ H Q=>Q [] H
def Lh (ta:TE)(tr:TA):TA:=λσ H Q=>ta σ H λx H1=>tr σ H1 λxs H2=>Q (x::xs) H2
end
section
variable {X:Cx}{e:Expr}{es:OG}{te:TE}{t:TA}{pos:Pos}
theorem bB:PA X [] NU:=λ_ _ _ _ H Q I h=>Calls.spliced_nil ⟨[],H,I,.nil,h⟩
theorem aM (ha:PE X e te)(hr:PA X es t)(hs:RC (e::es) X.env=(false,eval e X.env)::RC es X.env:=by rfl):PA X (e::es) (Lh te t):=by
 intro pos UT s σ H Q I h
 rw[hs]
 show wpAny _ _ (spliced ((false,eval e X.env)::RM pos (RC es X.env))) _ _ s
 refine Tu (aT (ha UT s σ H _ I h) λu s1 ⟨x,H1,I1,r1,q1⟩=>?_)
 exact aT (hr pos UT s1 σ H1 _ I1 q1) λus s2 ⟨xs,H2,I2,r2,q2⟩=>⟨x::xs,H2,I2,.cons r1 r2,q2⟩
def Oc (t:TA):TE:=λσ H Q=>t σ H λxs H1=>xs.length<=RE/\∀p,H1 p=none->Q (.ref p) (upd H1 p (.tup xs))
def Oq (t:TA):TE:=λσ H Q=>t σ H λxs H1=>xs.length<=RE/\∀p,H1 p=none->Q (.ref p) (upd H1 p (.lst xs))
theorem vx {x1}(h:PA X es t):PE X (.Tuple es x1 pos) (Oc t):=by
 intro UT s σ H Q I hq
 refine wpAny_Tuple_spliced (aT (h pos UT s σ H _ I hq) λus s1 ⟨xs,H1,I1,r,z,q⟩=>⟨by rw[← r.length];exact z,?_⟩)
 have hf:H1 s1.heap.objs.size=none:=I1.UZ.fresh (QW _)
 refine⟨.ref s1.heap.objs.size,upd H1 s1.heap.objs.size (.tup xs),I1.laid (t':=s1.toks) (λb u e=>TN _ e) (QW _) ?_,rfl,q _ hf⟩
 exact⟨z,us,r,⟨_,TR _ rfl,rfl,_,rfl⟩⟩
theorem t8 (h:PA X es t):PE X (.List es pos) (Oq t):=by
 intro UT s σ H Q I hq
 refine wpAny_List_spliced (aT (h pos UT s σ H _ I hq) λus s1 ⟨xs,H1,I1,r,z,q⟩=>⟨by rw[← r.length];exact z,?_⟩)
 have hf:H1 s1.heap.objs.size=none:=I1.UZ.fresh (QW _)
 refine⟨.ref s1.heap.objs.size,upd H1 s1.heap.objs.size (.lst xs),I1.laid (t':=s1.toks) (λb u e=>TN _ e) (QW _) ?_,rfl,q _ hf⟩
 exact⟨z,us,0,r,TR _ rfl⟩
end
abbrev Sp:=List V->Hp->VK->XK->Prop
abbrev mh:=List Env->Hp->RA->XK->Value->RA->Prop
structure oq (P:RJ) (w:World) (K:Uk) (mg:Oz) (base:Heap) (A:RL) (outer:List Env) (s:RA) (H:Hp):Prop where
 frames:A.frames=some outer
 mod:Mod K mg base
 bs:∀b o,base.get? b=some o->s.heap.get? b=some o/\H b=none
 XE:base.objs.size<=s.heap.objs.size
 V0:s.heap.FunFrames base outer
 Yv:∀b∈kR outer,H b=none
 UZ:dS P w H s.heap
 bare:Rx s.gens
def CE (outer:List Env)(P:RJ)(w:World)(H:Hp)(s:RA)(Q:VK)(u:Value)(s':RA):Prop:=
 ∃v H',s'.os=s.os/\Rx s'.gens/\Un (kR outer) [] H H' s.heap s'.heap/\dS P w H' s'.heap/\RelV v u/\Q v H'
def CR (CX:mh)(outer:List Env)(P:RJ)(w:World)(H:Hp)(s:RA)(Q:VK)(E:XK)(r:Result)(s':RA):Prop:=
 match r with
 | .ok (.ret u)=>CE outer P w H s Q u s'
 | .ok _=>False
 | .error e=>CX outer H s E e s'
structure dW (P:RJ) (w:World) (K:Uk) (mg:Oz) (base:Heap) (CX:mh) (k:Nat) (f:Addr) (fd:RO) (ps:OC) (sp:Sp):Prop where
 len:∀vs H Q E,sp vs H Q E->vs.length=ps.length
 run:∀(A:RL) (outer:List Env) (s:RA) (H:Hp) (args:Args) (us:OF) (vs:List V) (Q:VK) (E:XK),bI k A->oq P w K mg base A outer s H->S8 s fd args (ps.zip us)->Vals vs us->sp vs H Q E->
  SN (model P w) A (.call (.ref f) args) (CR CX outer P w H s Q E) s
theorem dW.mono {P:RJ}{w:World}{K:Uk}{mg:Oz}{base:Heap}{CX:mh}{j k:Nat}{f:Addr}{fd:RO}{ps:OC}{sp:Sp}(F:dW P w K mg base CX j f fd ps sp)(h:j<=k):
 dW P w K mg base CX k f fd ps sp:=⟨F.len,λA outer s H args us vs Q E hr=>F.run A outer s H args us vs Q E (hr.mono h)⟩
theorem oq.make {P:RJ}{w:World}{K:Uk}{mg:Oz}{base:Heap}{A:RL}{outer:List Env}{s:RA}{H:Hp}(e:oq P w K mg base A outer s H)(C:Addr)(us:OF)(kw:List (Str×Value)):
 oq P w K mg base (A.under (.builtin "type.__call__" ⟨.ref C::us,kw⟩)) outer s H:=⟨by first | exact e.frames | (simpa[RL.under,Code.envs,Tv,pushEnvs] using e.frames),e.mod,e.bs,e.XE,e.V0,e.Yv,e.UZ,e.bare⟩
section
variable {X:Cx}{UT:OA}{σ:St}{H:Hp}{s s':RA}
theorem Inv.JF (I:Inv X UT σ H s):oq X.prog X.w X.K X.mg X.base X.A X.stack s H:=
 ⟨I.ok.frames,I.ok.mod,I.bs,QX I.ok.XE I.sz,I.stack,I.xv,I.UZ,I.bare⟩
theorem Inv.after {Q:VK}{u:Value}(I:Inv X UT σ H s)(h:CE X.stack X.prog X.w H s Q u s'):EP X UT σ Q u s':=by
 obtain⟨v,H',os,bare,un,UZ,r,q⟩:=h
 obtain⟨hh,g,d,t,os'⟩:=s'
 obtain rfl:os'=s.os:=os
 exact⟨v,H',I.call (h':=hh) (g':=g) (d':=d) (t':=t) (ch:=[]) un UZ bare (λb z=>UJ z (by simp)),r,q⟩
end
def Kx (sp:Sp)(WG:List V)(E:XK)(t:TA):TE:=λσ H Q=>t σ H λvs H1=>sp (vs++WG) H1 Q E
def Md (C:Addr)(sp:Sp)(WG:List V)(E:XK)(t:TA):TE:=λσ H Q=>t σ H λvs H1=>∀x dx,H1 x=none->H1 dx=none->dx≠x->
 sp (.ref x::(vs++WG)) (upd (upd H1 dx (.own x)) x (.ins C dx [])) (λv H2=>v= .U8/\Q (.ref x) H2) E
def Binds (K:Uk)(fd:RO)(ps:OC)(ds:OF):Prop:=
 ∀(s:RA) (us:OF),K.In s.heap->(us++ds).length=ps.length->S8 s fd ⟨us,[]⟩ (ps.zip (us++ds))
theorem Binds.all {K:Uk}{fd:RO}{ps:OC}(h:∀us:OF,us.length=ps.length->SO fd ⟨us,[]⟩=pure (ps.zip us)):Binds K fd ps []:=λs us _ hl=>by
 rw[Px] at hl ⊢
 exact .of_eq (h us hl)
def Passes (CX:mh)(X:Cx)(E:XK):Prop:=∀(UT:OA) (σ:St) (H:Hp) (s:RA) (e:Value) (s':RA),Inv X UT σ H s->CX X.stack H s E e s'->X.xe e s'
section
variable {X:Cx}{CX:mh}{k:Nat}{f C:Addr}{fd:RO}{ps:OC}{sp:Sp}{WG:List V}{ds:OF}{E:XK}{x m:Str}{p pos apos:Pos}{e o:Expr}{es:OG}{ta:TE}{t:TA}
theorem GI {UT:OA}{σ:St}{H:Hp}{s:RA}{Q:VK}{us:OF}{vs:List V}(F:dW X.prog X.w X.K X.mg X.base CX k f fd ps sp)(hr:bI k X.A)(hb:Binds X.K fd ps ds)(hd:Vals WG ds)(hx:Passes CX X E)
 (I:Inv X UT σ H s) (r:Vals vs us) (h:sp (vs++WG) H Q E):wpAny (model X.prog X.w) X.A (call (.ref f) us) (EP X UT σ Q) X.xe s:=by
 have r2:Vals (vs++WG) (us++ds):=r.append hd
 have hl:(us++ds).length=ps.length:=by rw[← r2.length];exact F.len _ _ _ _ h
 refine wpAny_call (SX (F.run X.A X.stack s H ⟨us,[]⟩ (us++ds) (vs++WG) Q E hr I.JF (hb s us I.fo hl) r2 h) λr s' hq=>?_)
 cases r with
 | error e=>exact hx UT σ H s e s' I hq
 | ok fl=>
   cases fl with
   | ret u=>exact I.after hq
   | next=>exact OO hq
   | brk=>exact OO hq
   | cont=>exact OO hq
theorem qq (F:dW X.prog X.w X.K X.mg X.base CX k f fd ps sp)(hr:bI k X.A)(hg:Gl X x)(hm:X.mg x=some (.ref f))(hk:Us X.K (.ref f)=true)(hb:Binds X.K fd ps ds)(hd:Vals WG ds)(hx:Passes CX X E)
 (ha:PA X (e::es) t) (VE:Vd x:=by decide) (he:RC (e::es) X.env=(false,eval e X.env)::RC es X.env:=by rfl) (Ve:(RM pos (RC es X.env)).any (·.1)=false:=by rfl):
 PE X (.Call (.Name x p) (e::es) [] pos) (Kx sp WG E t):=by
 intro UT s σ H Q I h
 refine Sv (qt I hg hm ?_ VE)
 refine PySem.W.callWith_K (h₀:=X.base) I.ok.mod.kin hk (aT (ha pos UT s σ H _ I h) λus s1 ⟨vs,H1,I1,r,q⟩=>⟨I1.fo,?_⟩) he Ve
 exact GI F hr hb hd hx I1 r q
structure Mk (K:Uk) (C f:Addr):Prop where
 makes:UA K C=true
 init:Um K (.ref C) "__init__"=some (some (.ref f))
 fn:UH K (.ref f)=true
 kp:Us K (.ref C)=true
theorem BY {UT:OA}{σ:St}{H:Hp}{s:RA}{Q:VK}{us:OF}{vs:List V}(M:Mk X.K C f)(F:dW X.prog X.w X.K X.mg X.base CX k f fd ps sp)(hr:bI (k+1) X.A)(hb:Binds X.K fd ps ds)(hd:Vals WG ds)
 (hx:Passes CX X E) (I:Inv X UT σ H s) (r:Vals vs us)
 (h:∀x dx,H x=none->H dx=none->dx≠x->sp (.ref x::(vs++WG)) (upd (upd H dx (.own x)) x (.ins C dx [])) (λv H2=>v= .U8/\Q (.ref x) H2) E):
 wpAny (model X.prog X.w) X.A (call (.ref C) us) (EP X UT σ Q) X.xe s:=by
 have hq:=h (s.heap.objs.size+1) s.heap.objs.size (I.UZ.fresh (Q6 _)) (I.UZ.fresh (QW _)) (Q1 (Q7 _))
 have I2:=Inv.made (C:=C) I
 have r2:Vals (V.ref (s.heap.objs.size+1)::(vs++WG)) (Uc (s.heap.objs.size+1)::(us++ds)):=.cons rfl (r.append hd)
 have hl:(Uc (s.heap.objs.size+1)::us++ds).length=ps.length:=by
  have e:=r2.length
  rw[F.len _ _ _ _ hq] at e
  exact e.symm
 refine wpAny_call (Cy (f:=f) I.fo M.makes M.init (beq_iff_eq.mp M.fn) (SX (F.run _ X.stack _ _ ⟨Uc (s.heap.objs.size+1)::us,[]⟩ (Uc (s.heap.objs.size+1)::(us++ds)) _ _ E (hr.make C us [])
  (I2.JF.make C us []) (hb _ (Uc (s.heap.objs.size+1)::us) I2.fo hl) r2 hq) λr s' VW=>?_))
 cases r with
 | error e=>exact hx UT σ _ _ e s' I2 VW
 | ok fl=>
   cases fl with
   | ret u=>
     obtain⟨v,H',I3,rv,ev,q3⟩:=I2.after VW
     subst ev
     exact⟨rv,⟨V.ref (s.heap.objs.size+1),H',I3,rfl,q3⟩⟩
   | next=>exact OO VW
   | brk=>exact OO VW
   | cont=>exact OO VW
theorem FQ (M:Mk X.K C f)(F:dW X.prog X.w X.K X.mg X.base CX k f fd ps sp)(hr:bI (k+1) X.A)(hg:Gl X x)(hm:X.mg x=some (.ref C))(hb:Binds X.K fd ps ds)(hd:Vals WG ds)(hx:Passes CX X E)
 (ha:PA X (e::es) t) (VE:Vd x:=by decide) (he:RC (e::es) X.env=(false,eval e X.env)::RC es X.env:=by rfl) (Ve:(RM pos (RC es X.env)).any (·.1)=false:=by rfl):
 PE X (.Call (.Name x p) (e::es) [] pos) (Md C sp WG E t):=by
 intro UT s σ H Q I h
 refine Sv (qt I hg hm ?_ VE)
 refine PySem.W.callWith_K (h₀:=X.base) I.ok.mod.kin M.kp (aT (ha pos UT s σ H _ I h) λus s1 ⟨vs,H1,I1,r,q⟩=>⟨I1.fo,?_⟩) he Ve
 exact BY M F hr hb hd hx I1 r q
end
section
variable {X:Cx}{CX:mh}{k:Nat}{f C:Addr}{fd:RO}{ps ks:OC}{sp:Sp}{E:XK}{x m:Str}{p pos apos kpos:Pos}{e o:Expr}{es:OG}{kws:List RP}{te ta:TE}{t tk:TA}{nm:Option Str}
variable {g:OF->OF->OF}{gV:List V->List V->List V}
end
structure aF (N P:OC) (sc:Scope):Prop where
 kind:sc.kind= .function
 co:sc.isCoroutine=false
 gen:sc.isGenerator=false
 nd:N.Nodup
 pre:N.take P.length=P
 par:∀x∈P,sc.names.lookup x=some .local∨sc.names.lookup x=some .cell
 X7:∀y∈sc.names,y.2≠ .free
theorem Vk{N P:OC}{sc:Scope}(a:sc.kind=.function:=by rfl)(b:sc.isCoroutine=false:=by rfl)(c:sc.isGenerator=false:=by rfl)(d:N.Nodup:=by decide +kernel)(e:N.take P.length=P:=by rfl)(f:∀x∈P,sc.names.lookup x=some .local∨sc.names.lookup x=some .cell:=by decide +kernel)(g:∀y∈sc.names,y.2≠.free:=by decide +kernel):aF N P sc:=⟨a,b,c,d,e,f,g⟩
theorem rD {kindOf:Str->Option So}{x:Str}:∀{binds:List (Str×Value)} {m:Oz},(∀v,(x,v)∉binds)->bindL kindOf binds m x=m x
 | [],_,_=>rfl
 | (n,v)::r,m,h=>by
   unfold bindL
   rw[rD λw hw=>h w (O2 _ hw)]
   split
   ·have:x≠n:=by rintro rfl;exact h v O3
    simp[this]
   ·rfl
theorem rK {kindOf:Str->Option So}{x:Str}:∀{binds:List (Str×Value)} {m:Oz},(∀v,(x,v)∉binds)->bindC kindOf binds m x=m x
 | [],_,_=>rfl
 | (n,v)::r,m,h=>by
   unfold bindC
   rw[rK λw hw=>h w (O2 _ hw)]
   split
   ·rfl
   ·have:x≠n:=by rintro rfl;exact h v O3
    simp[this]
theorem rn {kindOf:Str->Option So}{x:Str}{v:Value}:∀{P:OC} {vs:OF} {i:Nat} {m:Oz},P.Nodup->P[i]?=some x->vs[i]?=some v->kindOf x=some .local->
 bindL kindOf (P.zip vs) m x=some v
 | [],_,_,_,_,h,_,_=>by simp at h
 | _::_,[],_,_,_,_,h,_=>by simp at h
 | p::P,w::vs,0,m,nd,h1,h2,hk=>by
   simp at h1 h2;subst h1;subst h2
   show bindL kindOf ((p,w)::P.zip vs) m p=_
   unfold bindL
   rw[rD λv hv=>(Pw.mp nd).1 (Qx hv).1,UL hk]
   simp
 | p::P,w::vs,i+1,m,nd,h1,h2,hk=>by
   show bindL kindOf ((p,w)::P.zip vs) m x=_
   unfold bindL
   exact rn (i:=i) (Pw.mp nd).2 (by simpa using h1) (by simpa using h2) hk
theorem rE {kindOf:Str->Option So}{x:Str}{v:Value}:∀{P:OC} {vs:OF} {i:Nat} {m:Oz},P.Nodup->P[i]?=some x->vs[i]?=some v->kindOf x≠some .local->
 bindC kindOf (P.zip vs) m x=some v
 | [],_,_,_,_,h,_,_=>by simp at h
 | _::_,[],_,_,_,_,h,_=>by simp at h
 | p::P,w::vs,0,m,nd,h1,h2,hk=>by
   simp at h1 h2;subst h1;subst h2
   show bindC kindOf ((p,w)::P.zip vs) m p=_
   unfold bindC
   rw[rK λv hv=>(Pw.mp nd).1 (Qx hv).1,UK hk]
   simp
 | p::P,w::vs,i+1,m,nd,h1,h2,hk=>by
   show bindC kindOf ((p,w)::P.zip vs) m x=_
   unfold bindC
   exact rE (i:=i) (Pw.mp nd).2 (by simpa using h1) (by simpa using h2) hk
def start (N:OC)(vs:List V):St:=vs.map some++Qn (N.length-vs.length) none
def eI (CX:mh)(P:RJ)(w:World)(K:Uk)(mg:Oz)(base:Heap)(N:OC)(qual:Str)(scope:Scope)(f:Addr)(cd:Value)(A:RL)(outer:List Env)(s:RA)(H:Hp)(E:XK):Cx where
 prog:=P
 w:=w
 K:=K
 mg:=mg
 base:=base
 A:=A.deeper (Ru qual scope s.heap.objs.size f cd)
 N:=N
 s₀:=s
 H₀:=H
 env:=Ru qual scope s.heap.objs.size f cd
 outer:=outer
 stack:=Ru qual scope s.heap.objs.size f cd::outer
 ex:=[]
 calm:=true
 fn:=λ_=>true
 pn:=[]
 xe:=λe s'=>wpAny (model P w) (A.deeper (Ru qual scope s.heap.objs.size f cd)) (leaving (Ru qual scope s.heap.objs.size f cd) e) (λ_ s''=>CX outer H s E e s'') (λe' s''=>CX outer H s E e' s'') s'
theorem bz {sc:Scope}{n:Nat}{x:Str}(h:sc.names.lookup x=some .cell):∃c,(cellsFrom n sc.names []).lookup x=some c:=by
 have q:=PySem.W.cellsFrom_some sc.names n [] (.inl h)
 exact Option.isSome_iff_exists.mp q
theorem zX {CX:mh}{P:RJ}{w:World}{K:Uk}{mg:Oz}{base:Heap}{N ps:OC}{qual:Str}{scope:Scope}{f:Addr}{cd:Value}{A:RL}{outer:List Env}{s s1:RA}{H:Hp}{E:XK}{us:OF}{vs:List V}
 (S:aF N ps scope) (hd:A.handled=none) (e0:oq P w K mg base A outer s H) (hl:vs.length=ps.length) (r:Vals vs us)
 (x:InCallC s s.heap.objs.size (bindL (Ru qual scope s.heap.objs.size f cd).kindOf (ps.zip us) λ_=>none) (cellsFrom (s.heap.objs.size+1) scope.names []) (bindC (Ru qual scope s.heap.objs.size f cd).kindOf (ps.zip us) λ_=>none) s1):
 Inv (eI CX P w K mg base N qual scope f cd A outer s H E) [] (start N vs) H s1:=by
 have Ve:ps.length<=N.length:=by have:=congrArg List.length S.pre;rw[Pl] at this;omega
 obtain⟨h1,tk,rfl,hk⟩:=x.done
 have YY:∀b:Addr,b∉(eI CX P w K mg base N qual scope f cd A outer s H E).ex:=λb z=>UJ (show b∈([]:OE) from z) (by simp)
 refine⟨⟨e0.mod,S.kind,rfl,rfl,QW _,λy z c h1 h2=>?_,λy hy=>?_,λy c _ h=>?_,λ_=>hd,RL.frames_deeper e0.frames,.inr ⟨rfl,rfl⟩,λb z=>UJ z (YY b),e0.bs,e0.XE,λb _ _=>YY b,λb z=>UJ z (YY b),e0.V0,e0.Yv⟩,
  rfl,e0.bare,Un.kept hk,⟨_,x.toInCall.ns,λi y v h1 h2 h3=>?_⟩,λy c h=>⟨_,x.cell y c h⟩,e0.UZ.fresh (QW _),λy c h=>?_,λp hp=>UJ (show p∈([]:OA) from hp) (by simp),e0.UZ.kept hk,?_⟩
 ·exact name_of_addr x.apart (RS h1) (RS h2)
 ·have hy:scope.names.lookup y=some .cell∨scope.names.lookup y=some .free:=hy
  rcases hy with hy | hy
  ·exact bz hy
  ·exact UJ rfl (S.X7 _ (RS hy))
 ·exact Rh (x.above y c (RS h))
 ·have hi:i<vs.length:=by
   unfold start at h2
   by_cases hi:i<vs.length
   ·exact hi
   ·rw[Pp (by simpa using hi)] at h2
    rw[Qk] at h2
    split at h2<;>cases h2
  have ha:vs[i]?=some v:=by
   unfold start at h2
   rw[Pr (by simpa using hi),O5] at h2
   cases e:vs[i]? with
   | none=>rw[e] at h2;cases h2
   | some a=>rw[e] at h2;cases h2;rfl
  obtain⟨u,hu,rv⟩:=r.get ha
  have hp:ps[i]?=some y:=by
   rw[← S.pre,List.getElem?_take_of_lt (by omega)];exact h1
  have ndP:ps.Nodup:=by rw[← S.pre];exact S.nd.sublist (List.take_sublist _ _)
  refine⟨u,rv,?_⟩
  rcases S.par y (O6 hp) with k | k
  ·exact .inl ⟨k,rn ndP hp hu k⟩
  ·obtain⟨c,e⟩:=bz (n:=s.heap.objs.size+1) k
   refine .inr ⟨.inl k,c,e,?_⟩
   have q:=x.cell y c e
   rw[rE ndP hp hu (by show scope.names.lookup y≠_;rw[k];decide)] at q
   exact q
 ·exact e0.UZ.fresh (Rh (x.above y c (RS h)))
 ·unfold start
  show _=N.length
  rw[O4,OZ,P8]
  omega
theorem LG {CX:mh}{P:RJ}{w:World}{K:Uk}{mg:Oz}{base:Heap}{k:Nat}{f:Addr}{name qual:Str}{params:Arguments}{body:List Stmt}{scope:Scope}{dV kV doc pm UX ct oc:Value}{an od:Option Addr}
 {We:Array OD} {N ps:OC} {sp:Sp} (lk:K.lookup f=some ⟨oc,od,.func (Uq name qual params body scope dV kV doc pm an UX ct),We⟩) (U0:Uu K UX qual=true) (S:aF N ps scope)
 (len:∀vs H Q E,sp vs H Q E->vs.length=ps.length)
 (Vc:∀(A:RL) (outer:List Env) (s:RA) (H:Hp) (vs:List V) (Q:VK) (E:XK),bI k (A.deeper (Ru qual scope s.heap.objs.size f UX))->sp vs H Q E->
  ∃t,jA (eI CX P w K mg base N qual scope f UX A outer s H E) body t/\t {nx:=λ_ H'=>Q .U8 H',rt:=Q} (start N vs) H):
 dW P w K mg base CX (k+1) f (Uq name qual params body scope dV kV doc pm an UX ct) ps sp:=by
 refine⟨len,λA outer s H args us vs Q E hr e0 hb r WU=>?_⟩
 have hl:=len _ _ _ _ WU
 have KX:K.In s.heap:=e0.mod.kin.keeps λb o e=>(e0.bs b o e).1
 have lim:s.heap.NoLimit:=e0.mod.nolimit.keeps λb o e=>(e0.bs b o e).1
 have Zo:∀y∈ps.zip us,scope.names.lookup y.1=some .local∨(scope.names.lookup y.1=some .cell/\((cellsFrom (s.heap.objs.size+1) scope.names []).lookup y.1).isSome=true):=λ⟨n,v⟩ hy=>by
  rcases S.par n (Qx hy).1 with q | q
  ·exact .inl q
  ·exact .inr ⟨q,PySem.W.cellsFrom_some _ _ _ (.inl q)⟩
 refine codeAny_call_function hr.depth (KX _ _ lk) rfl S.co S.gen rfl (PySem.W.codeRec_of KX U0) (hb _ _ _ _ ?_)
 refine wpAny_newFunctionEnv_cells S.kind Zo λenv he s1 x=>?_
 subst he
 refine⟨lim.keeps x.toInCall.keep,codeAny_func ?_⟩
 obtain⟨t,ht,hq⟩:=Vc A outer s H vs Q E (hr.deeper _) WU
 have I:Inv (eI CX P w K mg base N qual scope f UX A outer s H E) [] (start N vs) H s1:=zX S hr.hd e0 hl r x
 refine RZ (ht [] s1 (start N vs) H _ I hq) (λfl s' hs=>?_) λe s' hs=>hs
 have fin:∀{σ':St} {H':Hp} {v:V} {u:Value},Inv (eI CX P w K mg base N qual scope f UX A outer s H E) [] σ' H' s'->RelV v u->Q v H'->CE outer P w H s Q u s':=
  λ{σ' H' v u} J rv q=>⟨v,H',J.os,J.bare,J.base,J.UZ,rv,q⟩
 cases fl with
 | ret u=>
   obtain⟨v,σ',H',J,rv,q⟩:=hs
   exact fin J rv q
 | next=>
   obtain⟨σ',H',J,q⟩:=hs
   exact fin (v:=V.U8) (u:=Ud) J rfl q
 | brk=>
   obtain⟨_,_,_,q⟩:=hs
   exact OO q
 | cont=>
   obtain⟨_,_,_,q⟩:=hs
   exact OO q
section
variable {X:Cx}{x:Str}{p pos:Pos}{e:Expr}{es:OG}{t:TA}{id T:String}{r:List V->Hp->VK->Prop}
def My (r:List V->Hp->VK->Prop)(t:TA):TE:=λσ H Q=>t σ H λvs H1=>r vs H1 Q
theorem eh (hc:eX X (.builtin id) r)(hg:Gl X x)(hm:X.mg x=none)(hv:Se x=some (.builtin id))(ha:PA X (e::es) t)(hn:x≠"__name__":=by decide)(VE:Vd x:=by decide)
 (he:RC (e::es) X.env=(false,eval e X.env)::RC es X.env:=by rfl) (Ve:(RM pos (RC es X.env)).any (·.1)=false:=by rfl):PE X (.Call (.Name x p) (e::es) [] pos) (My r t):=by
 intro UT s σ H Q I h
 refine Sv (gq I hg hm hv ?_ hn VE)
 exact PyProof.Rows.callWith_builtin1 (aT (ha pos UT s σ H _ I h) λus s1 ⟨vs,H1,I1,r1,q1⟩=>hc UT s1 σ H1 vs us Q I1 r1 q1) he Ve
theorem gE (hc:eX X (.type T) r)(hg:Gl X x)(hm:X.mg x=none)(hv:Se x=some (.type T))(ha:PA X (e::es) t)(hn:x≠"__name__":=by decide)(VE:Vd x:=by decide)
 (he:RC (e::es) X.env=(false,eval e X.env)::RC es X.env:=by rfl) (Ve:(RM pos (RC es X.env)).any (·.1)=false:=by rfl):PE X (.Call (.Name x p) (e::es) [] pos) (My r t):=by
 intro UT s σ H Q I h
 refine Sv (gq I hg hm hv ?_ hn VE)
 exact Rr (aT (ha pos UT s σ H _ I h) λus s1 ⟨vs,H1,I1,r1,q1⟩=>hc UT s1 σ H1 vs us Q I1 r1 q1) he Ve
end
end L2
namespace HT
open PySem PyProof.Rows
section
open PySem.SeqAt
open PySem.AutoSeq1 (wpAny_loadPart')
open PySem.MeetsSeq PySem.MeetsSeq2 PySem.MeetsSeq3
end
section
variable {prog:RJ}{w:World}{A:RL}{E:Value->RA->Prop}{s:RA}
def Va (n d:Nat):Option Int->Nat
 | none=>d
 | some v=>if v<0 then(v+(n:Int)).toNat else min v.toNat n
theorem HV (n d:Nat)(hd:d<=n)(o:Option Int):Va n d o<=n:=by
 cases o with
 | none=>exact hd
 | some v=>
   show(if v<0 then(v+(n:Int)).toNat else min v.toNat n)<=n
   by_cases hv:v<0
   ·rw[UL hv];omega
   ·rw[UK hv];exact Rf _ _
theorem wg (v:Int)(n d:Nat):(if v<0 then max (v+(n:Int)) 0 else min v (n:Int))=((Va n d (some v):Nat):Int):=by
 show(if v<0 then max (v+(n:Int)) 0 else min v (n:Int))=(((if v<0 then(v+(n:Int)).toNat else min v.toNat n):Nat):Int)
 by_cases hv:v<0
 ·simp only[UL hv];omega
 ·simp only[UK hv];omega
theorem yB (lo hi:Option Int)(n:Nat):To lo hi 1 (n:Int)=(((Va n 0 lo:Nat):Int),((Va n n hi:Nat):Int)):=by
 have h1:¬((1:Int)<0):=by omega
 unfold To
 simp only[h1,if_false]
 refine Rp ?_ ?_
 ·cases lo with
  | none=>rfl
  | some v=>exact wg v n 0
 ·cases hi with
  | none=>rfl
  | some v=>exact wg v n n
theorem yi (i j:Nat):Tn (i:Int) (j:Int) 1=j-i:=by
 unfold Tn
 have h1:(1:Int)>0:=by omega
 simp only[h1,if_true,Int.ediv_one]
 split<;>omega
theorem o8 {v:Value}{o:Option Int}{Q:Option Int->RA->Prop}(p:SG v o)(h:Q o s):wpAny (model prog w) A (Builtin.Slice.slicePartIndex v) Q E s:=by
 cases p with
 | none=>exact slicePart_none h
 | int i t=>exact slicePart_int h
theorem jG {sl:Addr}{vl vu:Value}{lo hi:Option Int}{n:Nat}{Q:Int×Int×Nat->RA->Prop}(hs:s.heap.IsSliceOf sl vl vu .none)(pl:SG vl lo)(pu:SG vu hi)
 (h:Q (((Va n 0 lo:Nat):Int),1,Va n n hi-Va n 0 lo) s):wpAny (model prog w) A (Builtin.Slice.sliceApplied (.ref sl) (pure (n:Int))) Q E s:=by
 obtain⟨os,Yi,hcs,Zs⟩:=id hs
 unfold Builtin.Slice.sliceApplied Builtin.Slice.sliceFields
 refine RF (RF (RU Yi Zs (x:=vl) rfl (RF (RU Yi Zs (x:=vu) rfl (RF (RU Yi Zs (x:=.none) rfl (RH ?_)))))))
 refine RF (slicePart_none ?_)
 show wpAny _ _ (if((1:Int)==0)=true then _ else _) _ _ s
 rw[UK (by decide)]
 refine RF (o8 pl (RF (o8 pu (RF (RH ?_)))))
 show wpAny _ _ (match To lo hi 1 (n:Int) with | (lo,hi)=>pure (lo,(1:Int),Tn lo hi 1)) _ _ s
 rw[yB lo hi n]
 show wpAny _ _ (pure (((Va n 0 lo:Nat):Int),(1:Int),Tn ((Va n 0 lo:Nat):Int) ((Va n n hi:Nat):Int) 1)) _ _ s
 rw[yi]
 exact RH h
theorem C5 (xs:Array Value)(i k:Nat):((Pm k).filterMap λ(m:Nat)=>xs[((i:Int)+(m:Int)*1).toNat]?).toArray=((xs.toList.drop i).take k).toArray:=by
 have e:(λ(m:Nat)=>xs[((i:Int)+(m:Int)*1).toNat]?)=λm=>xs[i+m]?:=by
  funext m
  have:((i:Int)+(m:Int)*1).toNat=i+m:=by omega
  rw[this]
 rw[e]
 have:=pick_run xs i k
 rw[List.filterMap_map] at this
 have e2:((λx=>xs[x]?) ∘ λx=>i+x)=λm=>xs[i+m]?:=rfl
 rw[e2] at this
 rw[this]
theorem nH {t sl:Addr}{items:Array Value}{vl vu:Value}{lo hi:Option Int}{Q:Value->RA->Prop}(ht:IsTup s.heap t items)(hs:s.heap.IsSliceOf sl vl vu .none)(pl:SG vl lo)(pu:SG vu hi)
 (hw:¬(Va items.size 0 lo=0/\Va items.size items.size hi=items.size))
 (h:Q (.ref s.heap.objs.size) {s with heap:=s.heap.push {cls:=.type "tuple",data:=.seq ((items.toList.drop (Va items.size 0 lo)).take (Va items.size items.size hi-Va items.size 0 lo)).toArray}})
 (hsz:items.size<=RE):wpAny (model prog w) A (Sx (.ref t) (.ref sl)) Q E s:=by
 have WL:sizeOk (.seq ((items.toList.drop (Va items.size 0 lo)).take (Va items.size items.size hi-Va items.size 0 lo)).toArray):=by
  show((items.toList.drop (Va items.size 0 lo)).take (Va items.size items.size hi-Va items.size 0 lo)).toArray.size<=RE
  rw[O9,Pl,Qq,OI]
  omega
 have hj:Va items.size items.size hi<=items.size:=HV _ _ (QW _) hi
 obtain⟨os,Yi,hcs,Zs⟩:=id hs
 have hTs:s.TypeIs (.ref sl) "slice":=⟨os,Yi,hcs⟩
 unfold Sx
 try with_reducible refine Sr ?_
 first | refine RF (RH ?_) | skip
 refine RF (wpAny_sequenceKey ht.typeIs (by decide) ?_)
 refine RF (R8 (name:=Ua "__getitem__") ht.typeIs Rt
  (Sl Rt ht.typeIs entry_tuple_getitem ?_ (args_tuple_getitem _ _)))
 show wpAny _ _ (Builtin.Tuple.tupleItemsOf (.ref t) >>=_) _ _ s
 refine RF (tupleItemsOf_ ht ?_)
 refine RF (wpAny_typeOf hTs ?_)
 rw[UL (by decide)]
 refine RF (jG hs pl pu ?_)
 have Xe:¬((((Va items.size 0 lo:Nat):Int)==0&&(1:Int)==1&&(Va items.size items.size hi-Va items.size 0 lo)==items.size)=true):=by
  intro q
  rw[OK,OK] at q
  have q1:((Va items.size 0 lo:Nat):Int)=0:=eq_of_beq q.1.1
  have q2:Va items.size items.size hi-Va items.size 0 lo=items.size:=eq_of_beq q.2
  exact hw ⟨by omega,by omega⟩
 show wpAny _ _ (if(((Va items.size 0 lo:Nat):Int)==0&&(1:Int)==1&&(Va items.size items.size hi-Va items.size 0 lo)==items.size)=true then _ else _) _ _ s
 rw[UK Xe,C5]
 first
  | exact RF (m:=Ts _) (R9 (RH ⟨_,rfl,RH h⟩) WL)
  | exact RF (m:=Ts _) (R9 (RF (RH (RH ⟨_,rfl,RH h⟩))) WL)
  | exact RF (RF (m:=Ts _) (R9 (RH (RH ⟨_,rfl,RH h⟩)) WL))
  | exact RF (RF (m:=Ts _) (R9 (RH ⟨_,rfl,RH h⟩) WL))
end
end HT
namespace L2
open PySem PySem.Spec PyProof.Rows
abbrev TO:=St->Hp->(Option Int->Hp->Prop)->Prop
def PO (X:Cx)(e:Option Expr)(t:TO):Prop:=
 ∀(UT:OA) (s:RA) (σ:St) (H:Hp) (Q:Option Int->Hp->Prop),Inv X UT σ H s->t σ H Q->
  wpAny (model X.prog X.w) X.A (evalPart e X.env) (λu s'=>∃o H',Inv X UT σ H' s'/\SG u o/\Q o H') X.xe s
def F9:TO:=λ_ H Q=>Q none H
def Lv (t:TE):TO:=λσ H Q=>t σ H λx H1=>∃i,x= .int i/\Q (some i) H1
section
variable {X:Cx}{e:Expr}{te:TE}{lo hi:Option Expr}{tl th:TO}{pos p2:Pos}
theorem Ek:PO X none F9:=by
 intro UT s σ H Q I h
 rw[evalPart_none]
 exact RH ⟨none,H,I,.none,h⟩
theorem EN (h:PE X e te):PO X (some e) (Lv te):=by
 intro UT s σ H Q I hw
 rw[evalPart_some]
 refine aT (h UT s σ H _ I hw) λu s1 ⟨x,H1,I1,r1,q1⟩=>?_
 obtain⟨i,rfl,q⟩:=q1
 obtain⟨t,rfl⟩:=r1
 exact⟨some i,H1,I1,.int i t,q⟩
def z9 (X:Cx)(r:V->Option Int->Option Int->Hp->VK->Prop):Prop:=
 ∀(UT:OA) (s:RA) (σ:St) (H:Hp) (x:V) (v vl vu:Value) (lo hi:Option Int) (sl:Addr) (Q:VK),Inv X UT σ H s->RelV x v->s.heap.IsSliceOf sl vl vu .none->SG vl lo->SG vu hi->r x lo hi H Q->
  ∃T id,typeLookup (.type T) "__getitem__"=pure (some (.builtin id))/\s.TypeIs v T/\wpAny (model X.prog X.w) X.A (Sx v (.ref sl)) (EP X UT σ Q) X.xe s
def tSl (r:V->Option Int->Option Int->Hp->VK->Prop)(te:TE)(tl th:TO):TE:=λσ H Q=>te σ H λx H1=>tl σ H1 λl H2=>th σ H2 λu H3=>r x l u H3 Q
theorem l6 {r:V->Option Int->Option Int->Hp->VK->Prop}(hr:z9 X r)(he:PE X e te)(hl:PO X lo tl)(hu:PO X hi th):PE X (.Subscript e (.Slice lo hi none p2) pos) (tSl r te tl th):=by
 intro UT s σ H Q I h
 refine Subscript_ (aT (he UT s σ H _ I h) λv s1 ⟨x,H1,I1,r1,q1⟩=>?_)
 refine wpAny_Slice (aT (hl UT s1 σ H1 _ I1 q1) λvl s2 ⟨l,H2,I2,pl,q2⟩=>aT (hu UT s2 σ H2 _ I2 q2) λvu s3 ⟨u,H3,I3,pu,q3⟩=>?_)
 rw[evalPart_none]
 refine RH ?_
 have I4:Inv X UT σ H3 {s3 with heap:=s3.heap.push {cls:=.type "slice",data:=.fields #[vl,vu,.none]}}:=I3.kept (t':=s3.toks) λb ob q=>TN _ q
 obtain⟨T,id,hT,ht,hg⟩:=hr UT {s3 with heap:=s3.heap.push {cls:=.type "slice",data:=.fields #[vl,vu,.none]}} σ H3 x v vl vu l u s3.heap.objs.size Q I4 r1 (Heap.IsSliceOf.new ..) pl pu q3
 show wpAny (model X.prog X.w) X.A (Rz e (.Slice lo hi none p2) v (.ref s3.heap.objs.size)) (EP X UT σ Q) X.xe {s3 with heap:=s3.heap.push {cls:=.type "slice",data:=.fields #[vl,vu,.none]}}
 exact tail_any (ops:=[.ref s3.heap.objs.size,v]) ht hT hg (by with_unfolding_all rfl)
def kn (xs:List V)(lo hi:Option Int):List V:=(xs.drop (HT.Va xs.length 0 lo)).take (HT.Va xs.length xs.length hi-HT.Va xs.length 0 lo)
theorem nI (xs:List V)(lo hi:Option Int):(kn xs lo hi).length<=xs.length:=by
 unfold kn
 rw[Pl,Qq]
 omega
def NN (K:Uk):V->Option Int->Option Int->Hp->VK->Prop:=λx lo hi H Q=>∃a xs,x= .ref a/\du K H a xs/\
 ¬(HT.Va xs.length 0 lo=0/\HT.Va xs.length xs.length hi=xs.length)/\∀p,H p=none->Q (.ref p) (upd H p (.tup (kn xs lo hi)))
theorem G0:z9 X (NN X.K):=by
 intro UT s σ H x v vl vu lo hi sl Q I rx hs pl pu h
 obtain⟨a,xs,rfl,hx,hw,q⟩:=h
 cases rx
 obtain⟨UW,r,ht,hz⟩:=I.tuple hx
 have hlen:UW.toArray.size=xs.length:=by rw[O9];exact r.length.symm
 refine⟨"tuple",_,Rt.lookup,ht.typeIs,?_⟩
 refine HT.nH ht hs pl pu (by rw[hlen];exact hw) ?_ (by rw[hlen];exact hz)
 rw[hlen]
 refine⟨.ref s.heap.objs.size,_,I.laid (t':=s.toks) (o:=.tup (kn xs lo hi)) (λb ob q=>TN _ q) (QW _) ?_,rfl,q _ (I.UZ.fresh (QW _))⟩
 exact⟨QX (nI xs lo hi) hz,_,(r.drop (HT.Va xs.length 0 lo)).take (HT.Va xs.length xs.length hi-HT.Va xs.length 0 lo),IsTup.new _ _⟩
end
section
variable {α:Type}
def fg (n:Nat)(i:Int):Option Nat:=if 0<=i then(if i<n then some i.toNat else none) else if -(n:Int)<=i then some (i+n).toNat else none
def cy (xs:List α)(i:Int):Option α:=(fg xs.length i).bind λj=>xs[j]?
theorem qF {n:Nat}{i:Int}{j:Nat}(h:fg n i=some j):seqIndex? i n=some j/\j<n/\ -(n:Int)<=i/\i<n:=by
 unfold fg at h
 by_cases h0:0<=i
 ·rw[UL h0] at h
  by_cases h1:i<n
  ·rw[UL h1] at h
   have e:i.toNat=j:=Option.some.inj h
   exact⟨by rw[seqIndex_of h0 h1,e],by omega,by omega,h1⟩
  ·rw[UK h1] at h;cases h
 ·rw[UK h0] at h
  by_cases h1: -(n:Int)<=i
  ·rw[UL h1] at h
   have e:(i+n).toNat=j:=Option.some.inj h
   exact⟨by rw[seqIndex_neg (by omega) h1,e],by omega,h1,by omega⟩
  ·rw[UK h1] at h;cases h
theorem qJ {xs:List α}{i:Int}{v:α}(h:cy xs i=some v):∃j,seqIndex? i xs.length=some j/\xs[j]?=some v/\j<xs.length/\ -(xs.length:Int)<=i/\i<xs.length:=by
 unfold cy at h
 cases e:fg xs.length i with
 | none=>rw[e] at h;cases h
 | some j=>
   rw[e] at h
   obtain⟨h1,h2,h3,h4⟩:=qF e
   exact⟨j,h1,h,h2,h3,h4⟩
theorem FK {xs:List α}{j:Nat}{v:α}(h:xs[j]?=some v):cy xs (j:Int)=some v:=by
 have hj:j<xs.length:=(OW.mp h).1
 have e:fg xs.length (j:Int)=some j:=by
  unfold fg
  rw[UL (by omega),UL (by omega)];simp
 unfold cy;rw[e];exact h
def eK (b:Expr):Prop:=∀o i,S5 b false o i=operate [o,i] (Sx o i)
def DW (X:Cx)(r:R2):Prop:=
 ∀(value slice:Expr) (UT:OA) (s:RA) (σ:St) (H:Hp) (x y:V) (v u:Value) (Q:VK),Inv X UT σ H s->RelV x v->RelV y u->r x y H Q->
  S5 slice false v u=operate [v,u] (Sx v u)->wpAny (model X.prog X.w) X.A (Rz value slice v u) (EP X UT σ Q) X.xe s
def wJ (X:Cx)(id:String)(r:V->List V->Hp->VK->Prop):Prop:=
 ∀(UT:OA) (s:RA) (σ:St) (H:Hp) (x:V) (xs:List V) (v:Value) (us:OF) (Q:VK),Inv X UT σ H s->RelV x v->Vals xs us->r x xs H Q->
  wpAny (model X.prog X.w) X.A (call (.builtin id) (v::us)) (EP X UT σ Q) X.xe s
end
section
variable {X:Cx}{a b:Expr}{ta tb:TE}{pos:Pos}
theorem iM {r:R2}(hr:DW X r)(ha:PE X a ta)(hb:PE X b tb)(hs:eK b):PE X (.Subscript a b pos) (Eh r ta tb):=by
 intro UT s σ H Q I h
 exact Subscript_ (Bo ha hb I h λv u s2 x y H2 I2 rx ry q=>hr a b UT s2 σ H2 x y v u Q I2 rx ry q (hs _ _))
def Oo (K:Uk):R2:=λx y H Q=>∃p xs i v,x= .ref p/\y= .int i/\aU K H p xs/\cy xs i=some v/\Q v H
def N6 (K:Uk):R2:=λx y H Q=>∃p xs i v,x= .ref p/\y= .int i/\du K H p xs/\cy xs i=some v/\Q v H
def NK:R2:=λx y H Q=>∃z i c,x= .str z/\y= .int i/\z.length<=RE/\cy z.cps.toList i=some c/\Q (.str ⟨#[c]⟩) H
theorem ig:DW X (Oo X.K):=by
 intro value slice UT s σ H x y v u Q I rx ry h hs
 obtain⟨p,xs,i,z,rfl,rfl,hq,he,q⟩:=h
 cases rx
 obtain⟨t,rfl⟩:=ry
 obtain⟨UW,r,pl,hz⟩:=I.list hq
 obtain⟨j,h1,h2,h3,h4,h5⟩:=qJ he
 obtain⟨w,ew,WY⟩:=r.get h2
 have hl:=r.length
 have hn:=jE
 have fin:EP X UT σ Q w s:=⟨z,H,I,WY,q⟩
 by_cases h0:0<=i
 ·have hj:i.toNat=j:=by
   rw[seqIndex_of h0 h5] at h1
   exact Option.some.inj h1
  exact item_listR pl.isList h0 (by omega) (by rw[hj];simpa using ew) fin hs
 ·have hj:(i+(UW.toArray.size:Int)).toNat=j:=by
   rw[seqIndex_neg (by omega) h4] at h1
   rw[O9,← hl]
   exact Option.some.inj h1
  exact subscriptTail_builtinR (x:=w) pl.isList.typeIs slot_list_getitem.lookup
   (wpAny_getItem_list_neg (Q:=λr s'=>r=w/\EP X UT σ Q r s') pl.isList (by omega) (by rw[O9]<;>omega) (by omega) (by rw[hj];simpa using ew) ⟨rfl,fin⟩) hs
theorem z3:DW X (N6 X.K):=by
 intro value slice UT s σ H x y v u Q I rx ry h hs
 obtain⟨p,xs,i,z,rfl,rfl,hq,he,q⟩:=h
 cases rx
 obtain⟨t,rfl⟩:=ry
 obtain⟨UW,r,pl,hz⟩:=I.tuple hq
 obtain⟨j,h1,h2,h3,h4,h5⟩:=qJ he
 obtain⟨w,ew,WY⟩:=r.get h2
 have hl:=r.length
 have hn:=jE
 have fin:EP X UT σ Q w s:=⟨z,H,I,WY,q⟩
 exact subscriptTail_builtinR (x:=w) pl.typeIs slot_tuple_getitem.lookup
  (getItem_tuple (j:=j) (Q:=λr s'=>r=w/\EP X UT σ Q r s') pl (by omega) (by omega) (by rw[O9,← hl];exact h1) (by simpa using ew) ⟨rfl,fin⟩) hs
theorem Jl:DW X NK:=by
 intro value slice UT s σ H x y v u Q I rx ry h hs
 obtain⟨z,i,c,rfl,rfl,hz,he,q⟩:=h
 obtain⟨t,rfl⟩:=rx
 obtain⟨t',rfl⟩:=ry
 obtain⟨j,h1,h2,h3,h4,h5⟩:=qJ he
 have hl:z.cps.toList.length=z.length:=by simp[Str.length]
 rw[hl] at h1 h4 h5
 have hn:=jE
 exact tail_any (SH s z t) slot_str_getitem.lookup (getItem_str (c:=c) (by
  have e1:decide (i < -(2 ^ 63:Int))=false:=UP (by omega)
  have e2:decide (i≥2 ^ 63)=false:=UP (by omega)
  rw[e1,e2,Bool.or_false]) (by rw[h1];simpa using h2) ⟨.str ⟨#[c]⟩,H,I.tok _,⟨_,rfl⟩,q⟩) hs
theorem ya (UW:OF)(n j:Nat)(u:Value):T4 (·.setIfInBounds j u) {cls:=.type "list",data:=.seq UW.toArray n}={cls:=.type "list",data:=.seq (UW.set j u).toArray n}:=by
 simp[T4]
theorem Inv.lst {UT:OA}{σ:St}{H:Hp}{s:RA}{p:Addr}{xs:List V}(I:Inv X UT σ H s)(h:H p=some (.lst xs)):
 ∃(UW:OF) (n:Nat),Vals xs UW/\s.heap.get? p=some {cls:=.type "list",data:=.seq UW.toArray n}/\xs.length<=RE:=by
 obtain⟨z,UW,n,r,e⟩:=I.UZ p _ h
 exact⟨UW,n,r,e,z⟩
theorem Inv.JQ {UT:OA}{σ:St}{H:Hp}{s:RA}{p:Addr}{xs ys:List V}{UW its':OF}{n n':Nat}{f:Obj->Obj}(I:Inv X UT σ H s)(h:H p=some (.lst xs))
 (ho:s.heap.get? p=some {cls:=.type "list",data:=.seq UW.toArray n}) (hf:f {cls:=.type "list",data:=.seq UW.toArray n}={cls:=.type "list",data:=.seq its'.toArray n'}) (r:Vals ys its') (hz:ys.length<=RE) (t:Nat):
 Inv X UT σ (upd H p (.lst ys)) {s with heap:=s.heap.update p f,toks:=t}:=by
 have e:(s.heap.update p f).get? p=some {cls:=.type "list",data:=.seq its'.toArray n'}:=by
  rw[TZ f ho (by rw[hf]<;>rfl),hf]
 refine I.write (x:=p) (e:=p) (by rw[h];trivial) (.inl rfl) (λb u hb q=>(Heap.get?_update_other _ _ (Rk hb)).trans q) ⟨_,e⟩ ?_
 exact⟨hz,its',n',r,e⟩
def L8:V->V->V->Hp->(Hp->Prop)->Prop:=λo i v H Q=>∃p xs k j,o= .ref p/\i= .int k/\H p=some (.lst xs)/\fg xs.length k=some j/\Q (upd H p (.lst (xs.set j v)))
theorem set_list:JB X L8:=by
 intro UT s σ H o i v ov iv u Q I ro ri rv h
 obtain⟨p,xs,k,j,rfl,rfl,hp,hj,q⟩:=h
 cases ro
 obtain⟨t,rfl⟩:=ri
 obtain⟨UW,n,r,ho,hz⟩:=I.lst hp
 obtain⟨h1,h2,h3,h4⟩:=qF hj
 have hl:=r.length
 have hn:=jE
 have I':Inv X UT σ (upd H p (.lst (xs.set j v))) {s with heap:=s.heap.update p (T4 (·.setIfInBounds j u))}:=
  I.JQ hp ho (ya UW n j u) (r.set rv j) (by rw[PN];exact hz) s.toks
 by_cases h0:0<=k
 ·have hk:k.toNat=j:=by
   rw[seqIndex_of h0 h4] at h1
   exact Option.some.inj h1
  exact PySem.W.ki_setAt ho h0 (by omega) (by rw[O9,← hl];exact h4) (by rw[hk];exact⟨_,I',q⟩)
 ·have hk:(k+(UW.toArray.size:Int)).toNat=j:=by
   rw[seqIndex_neg (by omega) h3] at h1
   rw[O9,← hl]
   exact Option.some.inj h1
  exact PySem.W.ki_setBack ho (by omega) (by rw[O9,← hl];exact h3) (by omega) (by rw[hk];exact⟨_,I',q⟩)
theorem ub (lo hi:Option Int)(n:Nat):(Ss lo hi none n).1=((HT.Va n 0 lo:Nat):Int)/\(Ss lo hi none n).2.1=((HT.Va n n hi:Nat):Int)/\(Ss lo hi none n).2.2=1:=by
 refine⟨?_,?_,rfl⟩
 ·cases lo with
  | none=>simp[Ss,HT.Va]
  | some i=>
    simp only[Ss,HT.Va,Option.getD_none,show(1:Int)>0 by decide,if_true]
    by_cases h:i<0
    ·simp only[h,if_true]<;>omega
    ·simp only[h,if_false]<;>omega
 ·cases hi with
  | none=>simp[Ss,HT.Va]
  | some i=>
    simp only[Ss,HT.Va,Option.getD_none,show(1:Int)>0 by decide,if_true]
    by_cases h:i<0
    ·simp only[h,if_true]<;>omega
    ·simp only[h,if_false]<;>omega
theorem sk (UW:OF)(lo hi:Option Int):slicePick UW.toArray lo hi none=((UW.drop (HT.Va UW.length 0 lo)).take (HT.Va UW.length UW.length hi-HT.Va UW.length 0 lo)).toArray:=by
 obtain⟨h1,h2,h3⟩:=ub lo hi UW.toArray.size
 unfold slicePick
 rw[h1,h2,h3]
 simp only[sliceRange_one,pick_run,O9]<;>rfl
def Of (K:Uk):V->Option Int->Option Int->Hp->VK->Prop:=λx lo hi H Q=>∃a xs,x= .ref a/\aU K H a xs/\∀p,H p=none->Q (.ref p) (upd H p (.lst (kn xs lo hi)))
theorem Fe:z9 X (Of X.K):=by
 intro UT s σ H x v vl vu lo hi sl Q I rx hs pl pu h
 obtain⟨a,xs,rfl,hx,q⟩:=h
 cases rx
 obtain⟨UW,r,ht,hz⟩:=I.list hx
 have hlen:=r.length
 refine⟨"list",_,slot_list_getitem.lookup,ht.isList.typeIs,?_⟩
 refine wpAny_getItem_list_slice ht.isList hs pl pu .none (by simp) ?_ (by rw[O9]<;>omega)
 rw[sk,← hlen]
 refine⟨.ref s.heap.objs.size,_,I.laid (t':=s.toks) (o:=.lst (kn xs lo hi)) (λb ob q=>TN _ q) (QW _) ?_,rfl,q _ (I.UZ.fresh (QW _))⟩
 exact⟨QX (nI xs lo hi) hz,_,0,(r.drop (HT.Va xs.length 0 lo)).take (HT.Va xs.length xs.length hi-HT.Va xs.length 0 lo),TR _ rfl⟩
def ji:V->Bool
 | .U8=>true
 | .bl _=>true
 | .int _=>true
 | .str _=>true
 | _=>false
def p8:V->V->Bool
 | .U8,.U8=>true
 | .bl a,.bl b=>a==b
 | .bl a,.int b=>(if a then 1 else 0)==b
 | .int a,.bl b=>a==(if b then 1 else 0)
 | .int a,.int b=>a==b
 | .str a,.str b=>a==b
 | _,_=>false
theorem Hl {A:RL}{s:RA}{y x:V}{u v:Value}(ry:RelV y u)(rx:RelV x v)(fy:ji y=true)(fx:ji x=true):T7 A s u v (p8 y x):=by
 cases y with
 | U8=>
   cases ry
   cases x with
   | U8=>cases rx;exact T7.same _
   | bl b=>cases rx;exact T7.none_bool b
   | int b=>obtain⟨t,rfl⟩:=rx;exact T7.none_int b t
   | str b=>obtain⟨t,rfl⟩:=rx;exact T7.none_str b t
   | _=>exact UJ (show false=true from fx) OJ
 | bl a=>
   cases ry
   cases x with
   | U8=>cases rx;exact T7.bool_none a
   | bl b=>cases rx;exact T7.bool_bool a b
   | int b=>obtain⟨t,rfl⟩:=rx;exact T7.bool_int a b t
   | str b=>obtain⟨t,rfl⟩:=rx;exact T7.bool_str a b t
   | _=>exact UJ (show false=true from fx) OJ
 | int a=>
   obtain⟨t',rfl⟩:=ry
   cases x with
   | U8=>cases rx;exact T7.int_none a t'
   | bl b=>cases rx;exact T7.int_bool a t' b
   | int b=>obtain⟨t,rfl⟩:=rx;exact T7.int_int a t' b t
   | str b=>obtain⟨t,rfl⟩:=rx;exact T7.int_str a t' b t
   | _=>exact UJ (show false=true from fx) OJ
 | str a=>
   obtain⟨t',rfl⟩:=ry
   cases x with
   | U8=>cases rx;exact T7.str_none a t'
   | bl b=>cases rx;exact T7.str_bool a t' b
   | int b=>obtain⟨t,rfl⟩:=rx;exact T7.str_int a t' b t
   | str b=>obtain⟨t,rfl⟩:=rx;exact T7.str_str a t' b t
   | _=>exact UJ (show false=true from fx) OJ
 | _=>exact UJ (show false=true from fy) OJ
def jP (x:V)(u:Value):Bool:=match u with
 | .none=>p8 .U8 x
 | .bool b=>p8 (.bl b) x
 | .int i _=>p8 (.int i) x
 | .str z _=>p8 (.str z) x
 | _=>false
theorem zT {x y:V}{u:Value}(r:RelV y u)(f:ji y=true):jP x u=p8 y x:=by
 cases y with
 | U8=>cases r;rfl
 | bl b=>cases r;rfl
 | int i=>obtain⟨t,rfl⟩:=r;rfl
 | str z=>obtain⟨t,rfl⟩:=r;rfl
 | _=>exact UJ (show false=true from f) OJ
theorem lC {x:V}:∀{xs:List V} {us:OF},Vals xs us->xs.all ji=true->us.any (jP x)=xs.any λy=>p8 y x
 | _,_,.nil,_=>rfl
 | y::xs,u::us,.cons r t,f=>by
   rw[all_cons,OK] at f
   rw[QM,QM,zT r f.1,lC t f.2]
theorem jy {A:RL}{s:RA}{x:V}{v:Value}(rx:RelV x v)(fx:ji x=true):∀{xs:List V} {us:OF},Vals xs us->xs.all ji=true->∀u∈us,T7 A s u v (jP x u)
 | _,_,.nil,_=>λu hu=>by cases hu
 | y::xs,u::us,.cons r t,f=>λu' hu=>by
   rw[all_cons,OK] at f
   rcases O7.mp hu with rfl | hu
   ·rw[zT r f.1];exact Hl r rx f.1 fx
   ·exact jy rx fx t f.2 u' hu
def Eg (x:V)(xs:List V):Bool:=xs.any λy=>p8 y x
def MY (K:Uk)(neg:Bool):R2:=λx y H Q=>∃p xs,y= .ref p/\(aU K H p xs∨du K H p xs)/\ji x=true/\xs.all ji=true/\Q (.bl (if neg then !Eg x xs else Eg x xs)) H
theorem rT:dQ X (RR .In) (MY X.K false):=by
 intro UT s σ H x y v u Q I rx ry h
 obtain⟨p,xs,rfl,hq,fx,fs,q⟩:=h
 cases ry
 rcases hq with hq | hq
 ·obtain⟨UW,r,pl,hz⟩:=I.list hq
  refine SeqAt.in_listAt (jP x) pl.isList (λw hw=>jy rx fx r fs w (by simpa using hw)) ⟨.bl _,H,I,rfl,?_⟩
  rw[show UW.toArray.any (jP x)=UW.any (jP x) by simp,lC r fs]
  exact q
 ·obtain⟨UW,r,pl,hz⟩:=I.tuple hq
  refine SeqAt.in_tupleAt (jP x) pl (λw hw=>jy rx fx r fs w (by simpa using hw)) ⟨.bl _,H,I,rfl,?_⟩
  rw[show UW.toArray.any (jP x)=UW.any (jP x) by simp,lC r fs]
  exact q
theorem uT:dQ X (RR .NotIn) (MY X.K true):=by
 intro UT s σ H x y v u Q I rx ry h
 obtain⟨p,xs,rfl,hq,fx,fs,q⟩:=h
 cases ry
 rcases hq with hq | hq
 ·obtain⟨UW,r,pl,hz⟩:=I.list hq
  refine SeqAt.notIn_listAt (jP x) pl.isList (λw hw=>jy rx fx r fs w (by simpa using hw)) ⟨.bl _,H,I,rfl,?_⟩
  rw[show UW.toArray.any (jP x)=UW.any (jP x) by simp,lC r fs]
  exact q
 ·obtain⟨UW,r,pl,hz⟩:=I.tuple hq
  refine SeqAt.notIn_tupleAt (jP x) pl (λw hw=>jy rx fx r fs w (by simpa using hw)) ⟨.bl _,H,I,rfl,?_⟩
  rw[show UW.toArray.any (jP x)=UW.any (jP x) by simp,lC r fs]
  exact q
theorem gY:eX X (.builtin "len") (λxs H Q=>∃p ys,xs=[.ref p]/\(aU X.K H p ys∨du X.K H p ys)/\Q (.int ys.length) H):=by
 intro UT s σ H xs us Q I r h
 obtain⟨p,ys,rfl,hq,q⟩:=h
 obtain⟨u,rfl,rx⟩:=vals1 r
 cases rx
 have hn:=jE
 rcases hq with hq | hq
 ·obtain⟨UW,r',pl,hz⟩:=I.list hq
  have hlen:=r'.length
  exact Calls.call_len_list pl.isList (by simp only[O9]<;>omega) ⟨.int ys.length,H,I.tok _,⟨s.toks+1,by rw[O9,hlen]⟩,q⟩
 ·obtain⟨UW,r',pl,hz⟩:=I.tuple hq
  have hlen:=r'.length
  exact len_tuple pl (by simp only[O9]<;>omega) ⟨.int ys.length,H,I.tok _,⟨s.toks+1,by rw[O9,hlen]⟩,q⟩
theorem vp:eX X (.builtin "len") (λxs H Q=>∃z,xs=[.str z]/\z.length<=RE/\Q (.int z.length) H):=by
 intro UT s σ H xs us Q I r h
 obtain⟨z,rfl,hz,q⟩:=h
 obtain⟨u,rfl,t,rfl⟩:=vals1 r
 have hn:=jE
 exact len_str (by omega) ⟨.int z.length,H,I.tok _,⟨_,rfl⟩,q⟩
theorem uS:eX X (.type "list") (λxs H Q=>∃p ys,xs=[.ref p]/\(aU X.K H p ys∨du X.K H p ys)/\∀l,H l=none->Q (.ref l) (upd H l (.lst ys))):=by
 intro UT s σ H xs us Q I r h
 obtain⟨p,ys,rfl,hq,q⟩:=h
 obtain⟨u,rfl,rx⟩:=vals1 r
 cases rx
 have fin:∀(UW:OF),Vals ys UW->ys.length<=RE->∀(h':Heap) (c':Nat),(∀b o',s.heap.get? b=some o'->h'.get? b=some o')->
  h'.get? s.heap.objs.size=some {cls:=.type "list",dict:=none,data:=.seq UW.toArray c',slots:= #[]}->EP X UT σ Q (.ref s.heap.objs.size) {s with heap:=h'}:=λUW r' hz h' c' kp e=>
  ⟨.ref s.heap.objs.size,_,I.laid (t':=s.toks) kp (QW _) (show cN X.prog X.w _ h' _ (.lst ys) from⟨hz,UW,c',r',e⟩),rfl,q _ (I.UZ.fresh (QW _))⟩
 rcases hq with hq | hq
 ·obtain⟨UW,r',pl,hz⟩:=I.list hq
  have hlen:=r'.length
  obtain⟨o,ho,hc,n,hd⟩:=pl.isList
  exact call_list_seq p (.inl rfl) ho hc hd (λh' c' kp e=>fin UW r' hz h' c' kp e) (by simp only[O9]<;>omega)
 ·obtain⟨UW,r',pl,hz⟩:=I.tuple hq
  have hlen:=r'.length
  obtain⟨o,ho,hc,n,hd⟩:=pl
  exact call_list_seq p (.inr rfl) ho hc hd (λh' c' kp e=>fin UW r' hz h' c' kp e) (by simp only[O9]<;>omega)
def Jk (K:Uk)(T:String)(x:V)(H:Hp):Prop:=match x with
 | .str _=>T="str"
 | .int _=>T="int"
 | .ref p=>(T="list"/\∃xs,aU K H p xs)∨(T="tuple"/\∃o,K.lookup p=some o/\o.cls= .type "tuple"/\o.dict=none)∨
  (T="dict"/\((∃kvs,H p=some (.dK kvs))∨∃kvs,H p=some (.dT kvs)))∨(T="set"/\∃S n,H p=some (.set S n))
 | _=>False
theorem zH {UT:OA}{σ:St}{H:Hp}{s:RA}{T:String}{x:V}{v:Value}(I:Inv X UT σ H s)(r:RelV x v)(ty:Jk X.K T x H):
 s.TypeIs v T/\∀a,v= .ref a->∃ob,s.heap.get? a=some ob/\ob.dict=none:=by
 cases x with
 | str z=>
   obtain⟨t,rfl⟩:=r
   cases (show T="str" from ty)
   exact⟨SH s z t,λ_ e=>nomatch e⟩
 | int i=>
   obtain⟨t,rfl⟩:=r
   cases (show T="int" from ty)
   exact⟨typeIs_int s i t,λ_ e=>nomatch e⟩
 | ref p=>
   cases r
   rcases ty with⟨rfl,xs,hq⟩ | ⟨rfl,o,hk,hc,hd⟩ | ⟨rfl,hk⟩ | ⟨rfl,S,n,hk⟩
   ·obtain⟨UW,_,pl,_⟩:=I.list hq
    refine⟨pl.isList.typeIs,λa e=>?_⟩
    cases e
    obtain⟨o,n,e,c,hd,_⟩:=pl
    exact⟨o,e,hd⟩
   ·refine⟨⟨o,I.fo p o hk,hc⟩,λa e=>?_⟩
    cases e
    exact⟨o,I.fo _ o hk,hd⟩
   ·have z:∃o,s.heap.get? p=some o/\o.ExactDict:=by
     rcases hk with⟨kvs,hk⟩ | ⟨kvs,hk⟩
     ·obtain⟨_,_,_,_,o,_,_,e,ex,_⟩:=I.UZ p _ hk
      exact⟨o,e,ex⟩
     ·obtain⟨_,_,_,_,o,_,_,e,ex,_⟩:=I.UZ p _ hk
      exact⟨o,e,ex⟩
    obtain⟨o,e,ex⟩:=z
    refine⟨⟨o,e,ex.1⟩,λa e2=>?_⟩
    cases e2
    exact⟨o,e,ex.2.1⟩
   ·obtain⟨o,_,_,_,e,ex,_⟩:=I.UZ p _ hk
    refine⟨⟨o,e,ex.1⟩,λa e2=>?_⟩
    cases e2
    exact⟨o,e,ex.2.1⟩
 | _=>exact OO ty
def N8 (K:Uk)(T:String)(r:V->List V->Hp->VK->Prop)(to:TE):TE:=λσ H Q=>to σ H λx H1=>Jk K T x H1/\r x [] H1 Q
def tBM (K:Uk)(T:String)(r:V->List V->Hp->VK->Prop)(to:TE)(t:TA):TE:=λσ H Q=>to σ H λx H1=>Jk K T x H1/\t σ H1 λxs H2=>r x xs H2 Q
variable {o e:Expr}{es:OG}{to:TE}{t:TA}{name:Str}{apos VL:Pos}{T id:String}{r:V->List V->Hp->VK->Prop}
theorem JR (pa:PlainAttrs T)(slot:Slot T name id)(hty:typeOf (.builtin id)=pure (.type "method_descriptor"))(hm:wJ X id r)(ho:PE X o to)
 (U2:RK o name X.env (eval o X.env)=eval o X.env:=by rfl) (U1:(apos.endLine==VL.line)=true:=by rfl):PE X (.Call (.Attribute o name apos) [] [] VL) (N8 X.K T r to):=by
 intro UT s σ H Q I h
 refine wpAny_Call_method0_late U2 U1 (aT (ho UT s σ H _ I h) λv s1 ⟨x,H1,I1,r1,ty,q1⟩=>?_)
 obtain⟨h1,h2⟩:=zH I1 r1 ty
 exact⟨T,id,pa,slot,hty,h1,h2,Tt rfl (PySem.evalArgs_none (hm UT s1 σ H1 x [] v [] Q I1 r1 .nil q1))⟩
theorem gw (pa:PlainAttrs T)(slot:Slot T name id)(hty:typeOf (.builtin id)=pure (.type "method_descriptor"))(hm:wJ X id r)(ho:PE X o to)(ha:PA X (e::es) t)
 (U2:RK o name X.env (eval o X.env)=eval o X.env:=by rfl)
 (Vg:((RM VL (RC (e::es) X.env)).all (λx=> !x.1)&&(Sb VL (RX [] X.env)).all (λx=>x.1.isSome)
  &&decide ((e::es).length+([]:List RP).length+(if([]:List RP).isEmpty then 0 else 1)<30))=true:=by rfl)
 (U1:(apos.endLine==VL.line)=true:=by rfl) (hs:RC (e::es) X.env=(false,eval e X.env)::RC es X.env:=by rfl) (Yh:(RM VL (RC es X.env)).any (·.1)=false:=by rfl):
 PE X (.Call (.Attribute o name apos) (e::es) [] VL) (tBM X.K T r to t):=by
 intro UT s σ H Q I h
 refine wpAny_Call_method_late U2 Vg U1 rfl (aT (ho UT s σ H _ I h) λv s1 ⟨x,H1,I1,r1,ty,q1⟩=>?_)
 obtain⟨h1,h2⟩:=zH I1 r1 ty
 refine⟨T,id,pa,slot,hty,h1,h2,?_⟩
 have hA:=ha VL UT s1 σ H1 _ I1 q1
 rw[hs] at hA ⊢
 refine Tt (by show(false ||(RM VL (RC es X.env)).any (·.1))=false;rw[Yh]<;>rfl) (Calls.evalArgs_plain ?_)
 exact aT hA λus s2 ⟨vs,H2,I2,r2,q2⟩=>hm UT s2 σ H2 x vs v us Q I2 r1 r2 q2
end
def DF (X:Cx)(id:String)(r:V->List V->Hp->VK->Prop):Prop:=
 ∀(UT:OA) (s:RA) (σ:St) (H:Hp) (x:V) (xs:List V) (v:Value) (us:OF) (Q:VK),Inv X UT σ H s->RelV x v->Vals xs us->r x xs H Q->
  wpAny (model X.prog X.w) X.A (call (.builtin id) (v::us)) (EP X UT σ Q) X.xe s
theorem Vals.one:∀{x:V} {us:OF},Vals [x] us->∃u,us=[u]/\RelV x u
 | _,_,.cons r .nil=>⟨_,rfl,r⟩
theorem Vals.zero:∀{us:OF},Vals [] us->us=[]
 | _,.nil=>rfl
theorem Vals.dropLast {xs:List V}{us:OF}(h:Vals xs us):Vals xs.dropLast us.dropLast:=by
 induction h with
 | nil=>exact .nil
 | cons r t ih=>
   cases t with
   | nil=>exact .nil
   | cons q t'=>exact .cons r ih
theorem xU {α:Type}(l:List α):l.eraseIdx (l.length-1)=l.dropLast:=by
 induction l with
 | nil=>rfl
 | cons a r ih=>
   cases r with
   | nil=>rfl
   | cons b r=>
     have e:(a::b::r).length-1=((b::r).length-1)+1:=by
      have h1:(a::b::r).length=r.length+2:=rfl
      have h2:(b::r).length=r.length+1:=rfl
      omega
     rw[e,List.eraseIdx_cons_succ,ih]
     all_goals rfl
section
variable {X:Cx}{UT:OA}{σ:St}{H:Hp}{s:RA}{l b:Addr}{xs ys zs:List V}
theorem Inv.yd {UW its':OF}{n:Nat}{f:Array Value->Array Value}{t':Nat}(I:Inv X UT σ H s)(hH:H l=some (.lst xs))
 (e:s.heap.get? l=some {cls:=.type "list",data:=.seq UW.toArray n}) (hf:f UW.toArray=its'.toArray) (hv:Vals ys its') (hz:ys.length<=RE):
 Inv X UT σ (upd H l (.lst ys)) {s with heap:=s.heap.update l (T4 f),toks:=t'}:=by
 have q:=PySem.IsL.update e f
 rw[hf] at q
 refine I.write (x:=l) (e:=l) (by rw[hH];exact trivial) (.inl rfl) (λb' u hb hu=>(Heap.get?_update_other s.heap (T4 f) (Rk hb)).trans hu) ⟨_,q⟩ ?_
 exact⟨hz,its',_,hv,q⟩
theorem Inv.NR {UW:OF}{t':Nat}(I:Inv X UT σ H s)(hv:Vals ys UW)(hz:ys.length<=RE):
 Inv X UT σ (upd H s.heap.objs.size (.lst ys)) {s with heap:=s.heap.push {cls:=.type "list",data:=.seq UW.toArray},toks:=t'}:=
 I.laid (λ_ _ q=>TN _ q) (QW _) ⟨hz,UW,0,hv,TR _ rfl⟩
theorem Inv.fresh (I:Inv X UT σ H s):H s.heap.objs.size=none:=I.UZ.fresh (QW _)
theorem Inv.lE (I:Inv X UT σ H s)(hH:H l=some (.lst xs)):xs.length<=RE/\∃(UW:OF) (n:Nat),Vals xs UW/\xs.length=UW.length/\s.heap.get? l=some {cls:=.type "list",data:=.seq UW.toArray n}:=by
 obtain⟨z,UW,n,r,e⟩:=I.UZ l _ hH
 exact⟨z,UW,n,r,r.length,e⟩
theorem Bq {n:Nat}(h:n<=RE):Ti n=false:=by
 unfold Ti
 exact UP (by omega)
end
section
variable {X:Cx}
def F7:V->List V->Hp->VK->Prop:=λx vs H Q=>∃l xs y,x= .ref l/\vs=[y]/\H l=some (.lst xs)/\xs.length<RE/\Q .U8 (upd H l (.lst (xs++[y])))
theorem gL:DF X "list.append" F7:=by
 intro UT s σ H x vs v us Q I rx rv h
 obtain⟨l,xs,y,rfl,rfl,hH,hz,q⟩:=h
 cases rx
 obtain⟨u,rfl,ru⟩:=rv.one
 obtain⟨z,UW,n,r,hl,e⟩:=I.lE hH
 refine Sq F.slot_list_append ⟨_,e,rfl⟩ F.entry_list_append (F.args_list_append_2 _ _) (PySem.list_append l UW.toArray n u (by rw[O9];omega)) ⟨e,?_⟩
 refine⟨.U8,_,I.yd (its':=UW++[u]) hH e (by simp) (r.append (.cons ru .nil)) ?_,rfl,q⟩
 rw[O4,Py]
 omega
def Eu:V->List V->Hp->VK->Prop:=λx vs H Q=>∃l b xs zs,x= .ref l/\vs=[.ref b]/\H l=some (.lst xs)/\H b=some (.lst zs)/\xs.length+zs.length<=RE/\Q .U8 (upd H l (.lst (xs++zs)))
theorem yK:DF X "list.extend" Eu:=by
 intro UT s σ H x vs v us Q I rx rv h
 obtain⟨l,b,xs,zs,rfl,rfl,hH,hB,hz,q⟩:=h
 cases rx
 obtain⟨u,rfl,ru⟩:=rv.one
 cases ru
 obtain⟨z,UW,n,r,hl,e⟩:=I.lE hH
 obtain⟨z2,Wy,n2,r2,Xz,e2⟩:=I.lE hB
 have hsz:UW.toArray.size+Wy.toArray.size<=RE:=by rw[O9,O9];omega
 have Zm:¬(!UW.toArray.isEmpty&&Ti (UW.toArray.size+Wy.toArray.size))=true:=by
  rw[Bq hsz,Bool.and_false]
  exact OJ
 refine Sq F.slot_list_extend ⟨_,e,rfl⟩ F.entry_list_extend (F.args_list_extend_2 _ _)
  (AutoSeq1.list_extend_list_list_0 l UW.toArray n b Wy.toArray n2 Zm (by rw[O9];omega) (by omega)) ⟨e,e2,?_⟩
 refine⟨.U8,_,I.yd (its':=UW++Wy) hH e (by simp) (r.append r2) ?_,rfl,q⟩
 rw[O4]
 omega
def Ny:V->List V->Hp->VK->Prop:=λx vs H Q=>∃l xs y,x= .ref l/\vs=[]/\H l=some (.lst xs)/\xs[xs.length-1]?=some y/\Q y (upd H l (.lst xs.dropLast))
theorem J0:DF X "list.pop" Ny:=by
 intro UT s σ H x vs v us Q I rx rv h
 obtain⟨l,xs,y,rfl,rfl,hH,hy,q⟩:=h
 cases rx
 have hus:=rv.zero
 subst hus
 obtain⟨z,UW,n,r,hl,e⟩:=I.lE hH
 obtain⟨u,hu,ru⟩:=r.get hy
 have Y4:UW.toArray[UW.toArray.size-1]?=some u:=by
  show UW.toArray[UW.length-1]?=some u
  rw[← Array.getElem?_toList,← hl]
  exact hu
 refine Sq F.slot_list_pop ⟨_,e,rfl⟩ F.entry_list_pop (F.args_list_pop_1 _) (MeetsSeq.list_pop_last l UW.toArray n u Y4 (by rw[O9];omega)) ⟨e,?_⟩
 refine⟨y,_,I.yd (its':=UW.dropLast) hH e ?_ r.dropLast ?_,ru,q⟩
 ·show UW.toArray.eraseIdxIfInBounds (UW.toArray.size-1)=UW.dropLast.toArray
  rw[O9,List.eraseIdxIfInBounds_toArray,xU]
 ·rw[Qr]
  omega
def Ob:R2:=λx y H Q=>∃l b xs zs,x= .ref l/\y= .ref b/\H l=some (.lst xs)/\H b=some (.lst zs)/\xs.length+zs.length<=RE/\∀p,H p=none->Q (.ref p) (upd H p (.lst (xs++zs)))
theorem JJ:dQ X (Sk .Add) Ob:=by
 intro UT s σ H x y v u Q I rx ry h
 obtain⟨l,b,xs,zs,rfl,rfl,hH,hB,hz,q⟩:=h
 cases rx
 cases ry
 obtain⟨z,UW,n,r,hl,e⟩:=I.lE hH
 obtain⟨z2,Wy,n2,r2,Xz,e2⟩:=I.lE hB
 refine PySem.P.add_list e e2 ?_ (by rw[O9,O9];omega)
 have ea:UW.toArray++Wy.toArray=(UW++Wy).toArray:=by simp
 rw[ea]
 exact⟨.ref _,_,I.NR (t':=s.toks) (r.append r2) (by rw[O4];omega),rfl,q _ I.fresh⟩
end
section
variable {prog:RJ}{w:World}{A:RL}{E:Value->RA->Prop}{s:RA}
end
section
variable {X:Cx}
end
section
variable {κ:Type} [DecidableEq κ]
variable {kvs:List (κ×V)}{vs:List (κ×Value)}
def cX (kvs:List (κ×V))(k:κ):Option V:=(kvs.find? λkv=>decide (kv.1=k)).map (·.2)
def putK (kvs:List (κ×V))(k:κ)(v:V):List (κ×V):=
 if(kvs.any λkv=>decide (kv.1=k))=true then kvs.map (λkv=>if kv.1=k then(kv.1,v) else kv) else kvs++[(k,v)]
theorem dw {p:κ×V}{r:List (κ×V)}{k:κ}(e:p.1=k):cX (p::r) k=some p.2:=by simp[cX,Ql,e]
theorem dc {p:κ×V}{r:List (κ×V)}{k:κ}(e:¬p.1=k):cX (p::r) k=cX r k:=by simp[cX,Ql,e]
theorem gy (k:κ):∀kvs:List (κ×V),(kvs.any λkv=>decide (kv.1=k))=(cX kvs k).isSome
 | []=>rfl
 | p::r=>by
   rw[QM]
   by_cases e:p.1=k
   ·simp only[dw e,UO e,Bool.true_or,Option.isSome_some]
   ·rw[dc e,UP e,Bool.false_or];exact gy k r
theorem vE (k j:κ)(y:V):∀kvs:List (κ×V),cX (kvs.map λkv=>if kv.1=k then(kv.1,y) else kv) j=(cX kvs j).map λx=>if j=k then y else x
 | []=>rfl
 | p::r=>by
   have ih:=vE k j y r
   rw[PH]
   by_cases h:p.1=k
   ·rw[UL h]
    by_cases e:p.1=j
    ·rw[dw (p:=(p.1,y)) e,dw e,Rn,UL (e.symm.trans h)]
    ·rw[dc (p:=(p.1,y)) e,dc e,ih]
   ·rw[UK h]
    by_cases e:p.1=j
    ·rw[dw (p:=p) e,dw e,Rn,UK (λz=>h (e.trans z))]
    ·rw[dc (p:=p) e,dc e,ih]
theorem rS (k j:κ)(y:V):∀kvs:List (κ×V),cX kvs k=none->cX (kvs++[(k,y)]) j=if j=k then some y else cX kvs j
 | [],_=>by
   by_cases e:k=j
   ·rw[UL e.symm];exact dw (p:=(k,y)) e
   ·rw[UK (λz=>e z.symm)];exact dc (p:=(k,y)) e
 | p::r,hn=>by
   rw[Qe]
   have hk:¬p.1=k:=λz=>by rw[dw z] at hn;cases hn
   rw[dc hk] at hn
   have ih:=rS k j y r hn
   by_cases e:p.1=j
   ·rw[dw e,dw e,UK (λz=>hk (e.trans z))]
   ·rw[dc e,dc e,ih]
theorem BA (kvs:List (κ×V))(k j:κ)(y:V):cX (putK kvs k y) j=if j=k then some y else cX kvs j:=by
 unfold putK
 by_cases a:(kvs.any λkv=>decide (kv.1=k))=true
 ·rw[UL a,vE]
  rw[gy] at a
  by_cases e:j=k
  ·obtain⟨x,hx⟩:=Option.isSome_iff_exists.mp a
   rw[UL e,e,hx,Rn,UL rfl]
  ·rw[UK e]
   cases cX kvs j with
   | none=>rfl
   | some x=>rw[Rn,UK e]
 ·rw[UK a]
  refine rS k j y kvs ?_
  rw[gy] at a
  cases q:cX kvs k with
  | none=>rfl
  | some x=>rw[q] at a;exact(a rfl).elim
theorem kE (kvs:List (κ×V))(k:κ)(v:V):(putK kvs k v).length<=kvs.length+1:=by
 unfold putK
 split
 ·rw[OZ];omega
 ·rw[O4,O8,Pz];omega
theorem oh {k:κ}(v:V)(h:cX kvs k=none):putK kvs k v=kvs++[(k,v)]:=by
 unfold putK
 rw[gy,h]
 exact UK (by decide)
theorem iE.iZ {o:Option V}{u:OD}(r:iE o u):o.isSome=u.isSome:=by
 cases o with
 | none=>cases u with
   | none=>rfl
   | some _=>exact(show False from r).elim
 | some _=>cases u with
   | none=>exact(show False from r).elim
   | some _=>rfl
theorem KV.val (r:KV kvs vs)(k:κ):iE (cX kvs k) (Sa vs k):=by
 unfold KV at r
 induction r with
 | nil=>exact UI
 | @cons p q ps qs h t ih=>
   obtain⟨h1,h2⟩:=h
   by_cases e:p.1=k
   ·have e':q.1=k:=h1.symm.trans e
    have b:Sa (q::qs) k=some q.2:=by simp[Sa,Ql,e']
    rw[dw e,b];exact h2
   ·have e':¬q.1=k:=λz=>e (h1.trans z)
    have b:Sa (q::qs) k=Sa qs k:=by simp[Sa,Ql,e']
    rw[dc e,b];exact ih
theorem KV.any (r:KV kvs vs)(k:κ):(kvs.any λkv=>decide (kv.1=k))=vs.any λkv=>decide (kv.1=k):=by
 unfold KV at r
 induction r with
 | nil=>rfl
 | cons h t ih=>rw[QM,QM,ih,h.1]
theorem KV.Cg (r:KV kvs vs)(k:κ){y:V}{u:Value}(ry:RelV y u):
 KV (kvs.map λkv=>if kv.1=k then(kv.1,y) else kv) (vs.map λkv=>if kv.1=k then(kv.1,u) else kv):=by
 unfold KV at r ⊢
 induction r with
 | nil=>exact .nil
 | @cons p q ps qs h t ih=>
   rw[PH,PH]
   refine .cons ?_ ih
   obtain⟨h1,h2⟩:=h
   by_cases e:p.1=k
   ·rw[UL e,UL (h1.symm.trans e)];exact⟨h1,ry⟩
   ·rw[UK e,UK (λz=>e (h1.trans z))];exact⟨h1,h2⟩
theorem KV.put (r:KV kvs vs)(k:κ){y:V}{u:Value}(ry:RelV y u):KV (putK kvs k y) (S9 vs k u):=by
 unfold putK S9
 rw[r.any k]
 by_cases e:(vs.any λkv=>decide (kv.1=k))=true
 ·rw[UL e,UL e];exact r.Cg k ry
 ·rw[UK e,UK e];exact Paired.snoc r ⟨rfl,ry⟩
theorem KV.length (r:KV kvs vs):kvs.length=vs.length:=Paired.length r
end
section
variable {H:Hp}{kvs:List (List Key×V)}{xs:List (List Key×Addr×Value)}{u:Value}
theorem jm {P:RJ}{w:World}{k:Key}(r:RelV (kV k) u):(bW P w).is k u=true:=by
 cases k with
 | inl i=>obtain⟨t,e⟩:=(show∃t,u=Ue i t from r);subst e;exact vN P w i t
 | inr x=>obtain⟨t,e⟩:=(show∃t,u=Ug x t from r);subst e;exact dB P w x t
theorem rF {P:RJ}{w:World}:∀{ks:List Key} {us:OF},Vals (ks.map kV) us->ItemsAre (bW P w) ks us
 | [],_,r=>by rw[map_nil] at r;cases r;exact .nil
 | k::ks,_,r=>by
   rw[PH] at r
   cases r with
   | cons h t=>exact .cons (jm h) (rF t)
abbrev KT (H:Hp):List (List Key×V)->List (List Key×Addr×Value)->Prop:=Paired λp q=>p.1=q.1/\H q.2.1=some (.tup (p.1.map kV))/\RelV p.2 q.2.2
theorem KT.val (r:KT H kvs xs)(k:List Key):iE (cX kvs k) ((atKey xs k).map (·.2)):=by
 induction r with
 | nil=>exact UI
 | @cons p q ps qs h t ih=>
   obtain⟨h1,_,h2⟩:=h
   by_cases e:p.1=k
   ·have e':q.1=k:=h1.symm.trans e
    have b:atKey (q::qs) k=some q.2:=by simp[atKey,Ql,e']
    rw[dw e,b];exact h2
   ·have e':¬q.1=k:=λz=>e (h1.trans z)
    have b:atKey (q::qs) k=atKey qs k:=by simp[atKey,Ql,e']
    rw[dc e,b];exact ih
theorem KT.Cg (r:KT H kvs xs)(k:List Key){y:V}(ry:RelV y u):
 KT H (kvs.map λkv=>if kv.1=k then(kv.1,y) else kv) (xs.map (putAt k u)):=by
 induction r with
 | nil=>exact .nil
 | @cons p q ps qs h t ih=>
   rw[PH,PH]
   refine .cons ?_ ih
   obtain⟨h1,h2,h3⟩:=h
   unfold putAt
   by_cases e:p.1=k
   ·rw[UL e,UL (h1.symm.trans e)];exact⟨h1,h2,ry⟩
   ·rw[UK e,UK (λz=>e (h1.trans z))];exact⟨h1,h2,h3⟩
theorem KT.put (r:KT H kvs xs)(k:List Key){b:Addr}{y:V}(hb:H b=some (.tup (k.map kV)))(ry:RelV y u):
 KT H (putK kvs k y) (storedH xs k b u):=by
 have e:(kvs.any λkv=>decide (kv.1=k))=(atKey xs k).isSome:=by
  rw[gy,(r.val k).iZ,Ro]
 unfold putK storedH
 rw[e]
 by_cases q:(atKey xs k).isSome=true
 ·rw[UL q,UL q];exact r.Cg k ry
 ·rw[UK q,UK q];exact Paired.snoc r ⟨rfl,hb,ry⟩
theorem KT.keeps {H':Hp}(r:KT H kvs xs)(ht:∀b ys,H b=some (.tup ys)->H' b=some (.tup ys)):KT H' kvs xs:=
 Paired.B1 r λ_ _ z=>⟨z.1,ht _ _ z.2.1,z.2.2⟩
end
section
variable {P:RJ}{w:World}{H:Hp}{h:Heap}{a:Addr}
theorem De {u:HO}(ok:dS P w H h)(e:Rd H a u):cN P w H h a u:=e.ok ok
theorem ni {kvs:List (Key×V)}(ok:dS P w H h)(e:Rd H a (.dK kvs)):kvs.length<=RE/\(a==R7)=false/\∃vs,KV kvs vs/\h.DictOf (bW P w) a vs:=
 show cN P w H h a (.dK kvs) from De ok e
theorem xQ {kvs:List (Key×V)}(ok:dS P w H h)(e:H a=some (.dK kvs)):kvs.length<=RE/\(a==R7)=false/\∃vs,KV kvs vs/\h.DictOf (bW P w) a vs:=ni ok (.inl e)
theorem mR {ks:List Key}(ok:dS P w H h)(e:H a=some (.tup (ks.map kV))):(SY (bW P w)).is h ks a:=by
 obtain⟨_,UW,r,o,h1,h2,n,h3⟩:=(show cN P w H h a (.tup (ks.map kV)) from ok a _ e)
 exact⟨o,UW.toArray,n,h1,h2,h3,by simpa using rF r⟩
theorem pE {kvs:List (List Key×V)}(ok:dS P w H h)(e:Rd H a (.dT kvs)):kvs.length<=RE/\(a==R7)=false/\
 ∃xs,KT H kvs xs/\h.DictOfH (SY (bW P w)) a xs:=by
 obtain⟨z,y,xs,r,o,es,ep,h1,h2,h3,h4,h5⟩:=(show cN P w H h a (.dT kvs) from De ok e)
 refine⟨z,y,xs,r,o,es,ep,h1,h2,h3,h4,λx hx=>?_,h5⟩
 have all:∀{l:List (List Key×V)} {m:List (List Key×Addr×Value)},KT H l m->∀x∈m,(SY (bW P w)).is h x.1 x.2.1:=by
  intro l m q
  induction q with
  | nil=>intro x hx;exact nomatch hx
  | @cons p q ps qs hq t ih=>
    intro x hx
    rcases O7.mp hx with e | hx
    ·subst e
     exact mR ok (by rw[← hq.1];exact hq.2.1)
    ·exact ih x hx
 exact all r x hx
theorem Lg {kvs:List (List Key×V)}(ok:dS P w H h)(e:H a=some (.dT kvs)):kvs.length<=RE/\(a==R7)=false/\
 ∃xs,KT H kvs xs/\h.DictOfH (SY (bW P w)) a xs:=pE ok (.inl e)
end
def gN (H:Hp)(a:Addr)(y:V)(r:Option V):Prop:=
 (∃kvs k,Rd H a (.dK kvs)/\y=kV k/\r=cX kvs k)∨∃kvs k b,Rd H a (.dT kvs)/\y= .ref b/\H b=some (.tup (k.map kV))/\r=cX kvs k
def oz (H:Hp)(a:Addr)(y v:V)(H':Hp):Prop:=
 (∃kvs k,H a=some (.dK kvs)/\y=kV k/\kvs.length<RE/\H'=upd H a (.dK (putK kvs k v)))∨
 ∃kvs k b,H a=some (.dT kvs)/\y= .ref b/\H b=some (.tup (k.map kV))/\kvs.length<RE/\H'=upd H a (.dT (putK kvs k v))
theorem gN.k {H:Hp}{a:Addr}{kvs:List (Key×V)}{k:Key}(e:H a=some (.dK kvs)):gN H a (kV k) (cX kvs k):=.inl ⟨kvs,k,.inl e,rfl,rfl⟩
theorem oz.k {H:Hp}{a:Addr}{kvs:List (Key×V)}{k:Key}{v:V}(e:H a=some (.dK kvs))(hl:kvs.length<RE):oz H a (kV k) v (upd H a (.dK (putK kvs k v))):=.inl ⟨kvs,k,e,rfl,hl,rfl⟩
section
variable {X:Cx}{UT:OA}{σ:St}{H:Hp}{s:RA}{a:Addr}{y v:V}{u r:Value}{o:Option V}{A:RL}{E:Value->RA->Prop}
variable {Q:Value->RA->Prop}
theorem Inv.big (I:Inv X UT σ H s):R7<s.heap.objs.size:=by
 have h:RG<s.heap.objs.size:=(I.mod.glob.keeps I.bk).lt
 exact Nat.lt_trans (by decide) h
theorem zG (hu:A.units+1<cLine)(I:Inv X UT σ H s)(g:gN H a y (some v))(ry:RelV y u)(h:∀w' s',Inv X UT σ H s'->RelV v w'->Q w' s'):
 wpAny (model X.prog X.w) A (Sx (.ref a) u) Q E s:=by
 rcases g with⟨kvs,k,e,ey,l⟩ | ⟨kvs,k,b,e,ey,eb,l⟩
 ·subst ey
  obtain⟨z,hd,vs,rel,dd⟩:=ni I.UZ e
  obtain⟨w',hw,WY⟩:=iE.some_of (v:=v) (o:=Sa vs k) (by rw[l];exact rel.val k)
  exact wpAny_getItem_of (jm ry) dd.mapOf hw (h w' _ (I.tok _) WY)
 ·subst ey
  cases (show u=Uc b from ry)
  obtain⟨z,hd,xs,rel,dd⟩:=pE I.UZ e
  obtain⟨w',hw,WY⟩:=iE.some_of (v:=v) (o:=(atKey xs k).map (·.2)) (by rw[l];exact rel.val k)
  obtain⟨p,hp,Xx⟩:=Rl.mp hw
  refine wpAny_getItem_heap (Sw hu) (mR I.UZ eb) dd hp ?_
  rw[Xx]
  exact h w' _ (I.tok _) WY
theorem Ol (hu:A.units+1<cLine)(I:Inv X UT σ H s)(g:gN H a y o)(ry:RelV y u)(h:∀s',Inv X UT σ H s'->Q (.bool o.isSome) s'):
 wpAny (model X.prog X.w) A (RR .In u (.ref a)) Q E s:=by
 rcases g with⟨kvs,k,e,ey,l⟩ | ⟨kvs,k,b,e,ey,eb,l⟩
 ·subst ey
  obtain⟨z,hd,vs,rel,dd⟩:=ni I.UZ e
  refine wpAny_in_of (jm ry) hd dd.mapOf ?_
  rw[← (rel.val k).iZ,← l]
  exact h _ (I.tok _)
 ·subst ey
  cases (show u=Uc b from ry)
  obtain⟨z,hd,xs,rel,dd⟩:=pE I.UZ e
  refine wpAny_in_heap (Sw hu) (mR I.UZ eb) hd dd ?_
  have q:=(rel.val k).iZ
  rw[Ro] at q
  rw[← q,← l]
  exact h _ (I.tok _)
theorem Fm (hu:A.units+1<cLine)(I:Inv X UT σ H s)(g:gN H a y o)(ry:RelV y u)(h:∀s',Inv X UT σ H s'->Q (.bool (!o.isSome)) s'):
 wpAny (model X.prog X.w) A (RR .NotIn u (.ref a)) Q E s:=by
 rcases g with⟨kvs,k,e,ey,l⟩ | ⟨kvs,k,b,e,ey,eb,l⟩
 ·subst ey
  obtain⟨z,hd,vs,rel,dd⟩:=ni I.UZ e
  refine wpAny_notIn_of (jm ry) hd dd.mapOf ?_
  rw[← (rel.val k).iZ,← l]
  exact h _ (I.tok _)
 ·subst ey
  cases (show u=Uc b from ry)
  obtain⟨z,hd,xs,rel,dd⟩:=pE I.UZ e
  refine wpAny_notIn_heap (Sw hu) (mR I.UZ eb) hd dd ?_
  have q:=(rel.val k).iZ
  rw[Ro] at q
  rw[← q,← l]
  exact h _ (I.tok _)
theorem m8 {h':Heap}{t':Nat}{ob:HO}(I:Inv X UT σ H s)(mu:yM (H a))(hs:TY a s.heap h')(he:∃q,h'.get? a=some q)(new:cN X.prog X.w (upd H a ob) h' a ob):
 Inv X UT σ (upd H a ob) {s with heap:=h',toks:=t'}:=
 I.write (x:=a) (e:=a) mu (.inl rfl) (λb q hb z=>(hs.2 b hb).trans z) he new
theorem uj {P:RJ}{w:World}{H':Hp}{h':Heap}{kvs:List (Key×V)}{vs:List (Key×Value)}(z:kvs.length<=RE)(hd:(a==R7)=false)(rel:KV kvs vs)(dd:h'.DictOf (bW P w) a vs):
 cN P w H' h' a (.dK kvs):=⟨z,hd,vs,rel,dd⟩
theorem AU {H':Hp}{Q:Unit->RA->Prop}(hu:A.units+1<cLine)(I:Inv X UT σ H s)(g:oz H a y v H')(ry:RelV y u)(rv:RelV v r)(h:∀s',Inv X UT σ H' s'->Q () s'):
 wpAny (model X.prog X.w) A (setItem (.ref a) u r) Q E s:=by
 rcases g with⟨kvs,k,e,ey,l,eH⟩ | ⟨kvs,k,b,e,ey,eb,l,eH⟩
 ·subst ey eH
  obtain⟨z,hd,vs,rel,dd⟩:=xQ I.UZ e
  have hz:vs.length<=RE:=by rw[← rel.length];exact z
  have hl:(putK kvs k v).length<=RE:=by have:=kE kvs k v;omega
  refine wpAny_setItem_pairs (hsz:=hz) (jm ry) dd λh' Xo hs=>h _ ?_
  have he:∃q,h'.get? a=some q:=let ⟨q,_,_,hq,_⟩:=Xo;⟨q,hq⟩
  exact m8 I (by rw[e];exact UI) hs he (uj hl hd (rel.put k rv) Xo)
 ·subst ey eH
  cases (show u=Uc b from ry)
  obtain⟨z,hd,xs,rel,dd⟩:=Lg I.UZ e
  have hz:xs.length<=RE:=by rw[← Paired.length rel];exact z
  have hl:(putK kvs k v).length<=RE:=by have:=kE kvs k v;omega
  refine wpAny_setItem_heap (hsz:=hz) (Sw hu) (mR I.UZ eb) dd λh' Xo hs=>h _ ?_
  obtain⟨q,es,ep,hq,h2,h3,h4,_,h5⟩:=Xo
  refine m8 I (by rw[e];exact UI) hs ⟨q,hq⟩ ⟨hl,hd,_,(rel.put k eb rv).keeps λc ys ec=>?_,q,es,ep,hq,h2,h3,h4,h5⟩
  rw[aB (LV ec e (λz=>nomatch z))]
  exact ec
end
section
variable {X:Cx}{UT:OA}{σ:St}{H:Hp}{s:RA}{a:Addr}{kvs:List (Key×V)}{k:Key}{u:Value}{A:RL}{E:Value->RA->Prop}
theorem Le {Q:Value->RA->Prop}(I:Inv X UT σ H s)(e:Rd H a (.dK kvs))(h:∀t s',Inv X UT σ H s'->Q (.int kvs.length t) s'):wpAny (model X.prog X.w) A (call (.builtin "len") [.ref a]) Q E s:=by
 obtain⟨z,hd,vs,rel,dd⟩:=ni I.UZ e
 refine call_len_dict hd dd (by rw[← rel.length];rw[SQ] at z;omega) ?_
 rw[← rel.length]
 exact h _ _ (I.tok _)
end
def BU (i:Expr):Prop:=∀ov iv,S5 i false ov iv=operate [ov,iv] (Sx ov iv)
theorem EZ {prog:RJ}{w:World}{A:RL}{E:Value->RA->Prop}{s:RA}{env:Env}{value slice:Expr}{pos:Pos}{T id:String}{Q:Value->RA->Prop}
 (hl:typeLookup (.type T) "__getitem__"=pure (some (.builtin id))) (hs:BU slice)
 (h:wpAny (model prog w) A (eval value env) (λo s₁=>wpAny (model prog w) A (eval slice env) (λi s₂=>s₂.TypeIs o T/\wpAny (model prog w) A (Sx o i) Q E s₂) E s₁) E s):
 wpAny (model prog w) A (eval (.Subscript value slice pos) env) Q E s:=by
 refine Subscript_ (RZ h (λo s₁ h₁=>RZ h₁ (λi s₂ h₂=>?_) λ_ _ x=>x) λ_ _ x=>x)
 obtain⟨hT,h₂⟩:=h₂
 unfold Rz
 refine RF ?_
 rw[getitemInPython_of_ne hT.not_modules]
 refine RF (wpAny_specialOf hT hl ?_)
 have fin:wpAny (model prog w) A (S5 slice false o i) (λr s₃=>wpAny (model prog w) A (letTemporaryGo value o r >>=λ_=>pure r) Q E s₃) E s₂:=by
  rw[hs o i]
  exact wpAny_operating (RZ h₂ (λr s₃ h₃=>RF (wpAny_letTemporaryGo (RH h₃))) λ_ _ x=>x)
 first
  | exact RH (RF fin)
  | exact RF (RH (RF fin))
  | exact RF fin
theorem vP {X:Cx}{UT:OA}{σ:St}{H:Hp}{s:RA}{a:Addr}{y:V}{o:Option V}(I:Inv X UT σ H s)(g:gN H a y o):s.TypeIs (.ref a) "dict":=by
 rcases g with⟨kvs,k,e,_,_⟩ | ⟨kvs,k,b,e,_,_,_⟩
 ·obtain⟨_,_,vs,_,dd⟩:=ni I.UZ e
  exact dd.typeIs
 ·obtain⟨_,_,xs,_,dd⟩:=pE I.UZ e
  exact dd.typeIs
def KW (td ty:TE):TE:=λσ H Q=>td σ H λx H1=>ty σ H1 λy H2=>∃a v,x= .ref a/\gN H2 a y (some v)/\Q v H2
def Oh (ty td:TE):TE:=λσ H Q=>ty σ H λy H1=>td σ H1 λx H2=>∃a o,x= .ref a/\gN H2 a y o/\Q (.bl o.isSome) H2
def Fh (ty td:TE):TE:=λσ H Q=>ty σ H λy H1=>td σ H1 λx H2=>∃a o,x= .ref a/\gN H2 a y o/\Q (.bl (!o.isSome)) H2
def LJ (td ty tv:TE):TS:=λD σ H=>tv σ H λv H1=>td σ H1 λx H2=>ty σ H2 λy H3=>∃a H4,x= .ref a/\oz H3 a y v H4/\D.nx σ H4
section
variable {X:Cx}{o i e value:Expr}{pos pos' tpos:Pos}{td ty tv:TE}
theorem FZ (hu:X.A.units+1<cLine)(ho:PE X o td)(hi:PE X i ty)(hs:BU i):PE X (.Subscript o i pos) (KW td ty):=by
 intro UT s σ H Q I h
 refine EZ PySem.F.slot_dict_getitem.lookup hs (aT (ho UT s σ H _ I h) λu s1 ⟨x,H1,I1,rx,q1⟩=>aT (hi UT s1 σ H1 _ I1 q1) λiv s2 ⟨y,H2,I2,ry,a,v,ex,g,q2⟩=>?_)
 subst ex
 obtain rfl:u=Uc a:=rx
 exact⟨vP I2 g,zG hu I2 g ry λw' s3 I3 WY=>⟨v,H2,I3,WY,q2⟩⟩
theorem ID (hu:X.A.units+1<cLine)(hi:PE X i ty)(ho:PE X o td):PC X .In i o (Oh ty td):=by
 intro UT s σ H Q I h
 refine aT (hi UT s σ H _ I h) λiv s1 ⟨y,H1,I1,ry,q1⟩=>aT (ho UT s1 σ H1 _ I1 q1) λu s2 ⟨x,H2,I2,rx,a,ov,ex,g,q2⟩=>?_
 subst ex
 obtain rfl:u=Uc a:=rx
 exact Ol hu I2 g ry λs3 I3=>⟨.bl ov.isSome,H2,I3,rfl,q2⟩
theorem mj (hu:X.A.units+1<cLine)(hi:PE X i ty)(ho:PE X o td):PC X .NotIn i o (Fh ty td):=by
 intro UT s σ H Q I h
 refine aT (hi UT s σ H _ I h) λiv s1 ⟨y,H1,I1,ry,q1⟩=>aT (ho UT s1 σ H1 _ I1 q1) λu s2 ⟨x,H2,I2,rx,a,ov,ex,g,q2⟩=>?_
 subst ex
 obtain rfl:u=Uc a:=rx
 exact Fm hu I2 g ry λs3 I3=>⟨.bl (!ov.isSome),H2,I3,rfl,q2⟩
theorem qQ (hu:X.A.units+1<cLine)(ho:PE X o td)(hi:PE X i ty)(hv:PE X value tv)(hs:RN value (some (.Subscript o i pos')) pos.line X.env=pure false):
 PS X (.Assign [.Subscript o i pos'] value pos) (LJ td ty tv):=by
 intro UT s σ H D I h
 refine wpAny_Assign_Subscript (aT (hv UT s σ H _ I h) λr s1 ⟨v,H1,I1,rv,q1⟩=>aT (ho UT s1 σ H1 _ I1 q1) λu s2 ⟨x,H2,I2,rx,q2⟩=>aT (hi UT s2 σ H2 _ I2 q2) λiv s3 ⟨y,H3,I3,ry,a,H4,ex,g,q3⟩=>?_) hs
 subst ex
 obtain rfl:u=Uc a:=rx
 exact AU hu I3 g ry rv λs4 I4=>⟨σ,H4,I4,q3⟩
end
theorem vf {P:RJ}{w:World}{H:Hp}(h:Heap)(hb:R7<h.objs.size):cN P w H (h.push {cls:=.type "dict",data:=.dict #[]}) h.objs.size (.dK []):=
 ⟨QY _,beq_eq_false_iff_ne.mpr (Rk (Q1 hb)),[],.nil,Heap.DictOf.new h⟩
def IY:TE:=λ_ H Q=>∀p,H p=none->Q (.ref p) (upd H p (.dK []))
section
variable {X:Cx}{pos:Pos}
theorem Bs:PE X (.Dict [] [] pos) IY:=λUT s σ H Q I h=>
 wpAny_Dict_empty ⟨.ref s.heap.objs.size,_,I.laid (a:=s.heap.objs.size) (o:=.dK []) (t':=s.toks) (λ_ _ q=>TN _ q) (QW _) (vf s.heap I.big),rfl,h _ (I.UZ.fresh (QW _))⟩
end
section
variable {X:Cx}{pos:Pos}
def sW:List (TE×TE)->St->Hp->(List (V×V)->Hp->Prop)->Prop
 | [],_,H,Q=>Q [] H
 | (tk,tv)::r,σ,H,Q=>tk σ H λx H1=>tv σ H1 λy H2=>sW r σ H2 λps H3=>Q ((x,y)::ps) H3
abbrev VV:List (V×V)->List (Value×Value)->Prop:=Paired λp q=>RelV p.1 q.1/\RelV p.2 q.2
def Dw (X:Cx)(pos:Pos)(keys:List (Option Expr))(values:OG)(Xq:List (TE×TE)):Prop:=
 ∀(UT:OA) (s:RA) (σ:St) (H:Hp) (Q:List (V×V)->Hp->Prop),Inv X UT σ H s->sW Xq σ H Q->
  wpAny (model X.prog X.w) X.A (evalPairs (pairTrees keys values X.env pos)) (λvs s'=>∃ps H',Inv X UT σ H' s'/\VV ps vs/\Q ps H') X.xe s
theorem Fn:Dw X pos [] [] []:=λUT s σ H Q I h=>pairTrees_nil_walk ⟨[],H,I,.nil,h⟩
theorem uM {k v:Expr}{ks:List (Option Expr)}{vs:OG}{tk tv:TE}{Xq:List (TE×TE)}(hk:PE X k tk)(hv:PE X v tv)(hr:Dw X pos ks vs Xq):
 Dw X pos (some k::ks) (v::vs) ((tk,tv)::Xq):=λUT s σ H Q I h=>
 pairTrees_cons_walk (aT (hk UT s σ H _ I h) λu s1 ⟨x,H1,I1,rx,q1⟩=>aT (hv UT s1 σ H1 _ I1 q1) λw2 s2 ⟨y,H2,I2,ry,q2⟩=>
  aT (hr UT s2 σ H2 _ I2 q2) λws s3 ⟨ps,H3,I3,rel,q3⟩=>⟨(x,y)::ps,H3,I3,.cons ⟨rx,ry⟩ rel,q3⟩)
def lu (kvs more:List (Key×V)):List (Key×V):=more.foldl (λacc kv=>putK acc kv.1 kv.2) kvs
theorem KV.merge:∀{more:List (Key×V)} {rs:List (Key×Value)} {kvs:List (Key×V)} {vs:List (Key×Value)},KV more rs->KV kvs vs->KV (lu kvs more) (merged vs rs):=by
 intro more rs kvs vs r
 unfold KV at r
 induction r generalizing kvs vs with
 | nil=>intro q;exact q
 | @cons p q ps qs h t ih=>
   intro r0
   have e:KV (putK kvs p.1 p.2) (S9 vs q.1 q.2):=by
    have:=r0.put p.1 h.2
    rw[← h.1];exact this
   exact ih e
theorem md:∀(more kvs:List (Key×V)),(lu kvs more).length<=kvs.length+more.length
 | [],kvs=>by show kvs.length<=kvs.length+0;omega
 | p::r,kvs=>by
   have h1:=md r (putK kvs p.1 p.2)
   have h2:=kE kvs p.1 p.2
   show(lu (putK kvs p.1 p.2) r).length<=_
   rw[O8];omega
theorem oK {P:RJ}{w:World}:∀{kvs:List (Key×V)} {ws:List (Value×Value)},VV (kvs.map λkv=>(kV kv.1,kv.2)) ws->∃rs,Carries (bW P w) ws rs/\KV kvs rs
 | [],_,r=>by rw[map_nil] at r;cases r;exact⟨[],UI,.nil⟩
 | p::kvs,_,r=>by
   rw[PH] at r
   cases r with
   | @cons a b as bs h t=>
     obtain⟨rs,c,q⟩:=oK (P:=P) (w:=w) t
     obtain⟨b1,b2⟩:=b
     exact⟨(p.1,b2)::rs,⟨jm h.1,rfl,c⟩,.cons ⟨rfl,h.2⟩ q⟩
def K0 (Xq:List (TE×TE)):TE:=λσ H Q=>∀p,H p=none->sW Xq σ (upd H p (.dK [])) λps H2=>H2 p=some (.dK [])/\∃kvs:List (Key×V),ps=kvs.map (λkv=>(kV kv.1,kv.2))/\kvs.length<=15/\Q (.ref p) (upd H2 p (.dK (lu [] kvs)))
theorem Ew {keys:List (Option Expr)}{values:OG}{Xq:List (TE×TE)}(h:Dw X pos keys values Xq)(Ys:keys.all (·.isSome)=true)(hl:keys.length=values.length)(h0:keys≠[])
 (h15:keys.length<=15):PE X (.Dict keys values pos) (K0 Xq):=by
 intro UT s σ H Q I q
 have hn:=I.UZ.fresh (QW s.heap.objs.size)
 have I1:=I.laid (a:=s.heap.objs.size) (o:=.dK []) (h':=s.heap.push {cls:=.type "dict",data:=.dict #[]}) (t':=s.toks) (λ_ _ q=>TN _ q) (QW _) (vf s.heap I.big)
 refine wpAny_Dict_walk (knd:=bW X.prog X.w) Ys hl h0 h15 (aT (h UT _ σ _ _ I1 (q _ hn)) λws s2 ⟨ps,H2,I2,rel,e,kvs,ep,lk,q2⟩=>?_)
 subst ep
 obtain⟨rs,c,rk⟩:=oK (P:=X.prog) (w:=X.w) rel
 obtain⟨z,hd,YN,r0,dd⟩:=xQ I2.UZ e
 cases r0
 refine⟨rs,c,dd,λh' Xo hs=>⟨.ref s.heap.objs.size,_,?_,rfl,q2⟩⟩
 have hz:(lu [] kvs).length<=RE:=by
  have h1:=md kvs []
  rw[Pz] at h1
  rw[SQ];omega
 have he:∃q,h'.get? s.heap.objs.size=some q:=let ⟨q,_,_,hq,_⟩:=Xo;⟨q,hq⟩
 exact m8 I2 (by rw[e];exact UI) hs he (uj hz hd (rk.merge .nil) Xo)
structure M2 (X:Cx) (o:Expr) (m:Str) (apos:Pos) (e f:Expr) (VL:Pos):Prop where
 base:RK o m X.env (eval o X.env)=eval o X.env
 few:((RM VL (RC [e,f] X.env)).all (λx=> !x.1)&&(Sb VL (RX [] X.env)).all (λx=>x.1.isSome)
  &&decide (([e,f]:OG).length+([]:List RP).length+(if([]:List RP).isEmpty then 0 else 1)<30))=true
 line:(apos.endLine==VL.line)=true
 trees:RM VL (RC [e,f] X.env)=[(false,eval e X.env),(false,eval f X.env)]
end
section
variable {X:Cx}{UT:OA}{σ:St}{H:Hp}{s:RA}{a:Addr}{y d:V}{u r:Value}{o:Option V}{A:RL}{E:Value->RA->Prop}
end
section
variable {X:Cx}{o e f:Expr}{apos VL:Pos}{td ty tx:TE}
end
section
variable {X:Cx}{UT:OA}{σ:St}{H:Hp}{s:RA}{a:Addr}{kvs:List (Key×V)}{A:RL}{E:Value->RA->Prop}
end
section
variable {X:Cx}{UT:OA}{σ:St}{H:Hp}{s:RA}{a:Addr}{y:V}{u:Value}{A:RL}{E:Value->RA->Prop}
end
end L2
namespace Att
open PySem PySem.W PySem.Calls PyProof.Rows
theorem oR {P:Params}{h:Heap}:∀(ns:OB) (vs:OF),WellAll P h vs (ns.map WData.int)->IntsAre vs ns:=by
 intro ns
 induction ns with
 | nil=>
   intro vs w
   rw[map_nil] at w
   cases w
   exact .nil
 | cons n ns ih=>
   intro vs w
   rw[PH] at w
   cases w with
   | cons a b=>
     cases a
     exact .cons _ _ (ih _ b)
theorem A2 {l:OpenLaw}{n:Nat}(hn:l.most=some n){P:Params}{h:Heap}{args:List WData}{vals:OF}
 (Xw:l.row.toRowW.claim.pre args=true) (hwl:WellAll P h vals args):
 ∃a vs ns,vals=[Uc a]/\args=[WData.list (ns.map WData.int)]/\h.get? a=some {cls:=.type "list",data:=.seq vs.toArray}/\IntsAre vs ns/\ns.length<=n:=by
 have hsh:WShape.hasAll [] args [.list .int]=true:=(pre_splitW Xw).1
 have hc:l.pre.holds [] {args:=args}=true:=(pre_splitW Xw).2
 obtain⟨d,r,rfl,h1,h2⟩:=hasAllW_cons hsh
 obtain rfl:=hasAllW_nil h2
 obtain⟨xs,rfl,h3⟩:=hasW_list h1
 obtain⟨ns,rfl⟩:=items_int h3
 have hlen:ns.length<=n:=by
  unfold OpenLaw.pre at hc
  have h4:(WTm.not (.lt (.lit (.int (n:Int))) (.len (.arg 0)))).holds [] {args:=[.list (ns.map .int)]}=true:=by
   have h4:=(holds_andW hc).1
   rw[hn] at h4
   exact h4
  have h5:=condW_of h4 (w_not (w_lt w_lit (w_len_list (w_arg rfl))))
  rw[OZ] at h5
  refine Nat.le_of_not_lt λq=>?_
  have q':(n:Int)<((ns.length:Nat):Int):=by omega
  first
   | (rw[UO q'] at h5;exact UJ h5 (by decide))
   | (simp at h5;omega)
 cases hwl with
 | cons w1 w2=>
   cases w2
   cases w1 with
   | list ho Ys=>exact⟨_,_,ns,rfl,rfl,ho,oR ns _ Ys,hlen⟩
theorem zq (l:OpenLaw)(args:List WData):l.row.toRowW.claim.post args (.bool true) args=true:=
 postW_of (r:=l.row.toRowW) (X:=(true==true))
  (show WShape.has [] (.bool true) .bool=true by first | rfl | decide | simp[WShape.has,WShape.arms,WShape.armsAll])
  (show(WTm.eq .res (.lit (.bool true))).value [] {args:=args,res:=some (.bool true),after:=args}=some (.bool (true==true)) from w_eq_bool (w_res rfl) w_lit) rfl
section
variable {prog:RJ}{w:World}{A:RL}{E:Value->RA->Prop}{s:RA}{K:Frag}
end
end Att
namespace L2
open PySem PySem.Spec PyProof.Rows
theorem rW:∀{vs:OF} {ns:OB},IntsAre vs ns->Vals (ns.map V.int) vs
 | _,_,.nil=>.nil
 | _,_,.cons n t h=>.cons ⟨t,rfl⟩ (rW h)
def CU (H:Hp):Prop:=∀b,H b=none∨∃o xs,H b=some (.VP o (.lst xs))
theorem BJ {P:RJ}{w:World}{K:Uk}{mg mb:Oz}{CX:mh}{k:Nat}{fa a:Addr}{fd:RO}{x:Str}{sp:Sp}{s₁:RA}{vs:OF}{ns:OB}
 (KX:K.In s₁.heap) (YC:s₁.heap.Ns RG mg) (hb:s₁.heap.Ns builtinsNs mb) (hbb:∀x:Str,x≠"__name__"->mb x=Se x) (hlim:s₁.heap.NoLimit) (hg:s₁.gens= #[])
 (ha:s₁.heap.get? a=some {cls:=.type "list",data:=.seq vs.toArray}) (hi:IntsAre vs ns) (hl:ns.length<=RE) (hr:bI k SW)
 (F:∀base:Heap,K.In base->base.Ns RG mg->dW P w K mg base CX k fa fd [x] sp) (Zx:∀(s:RA) (u:Value),S8 s fd ⟨[u],[]⟩ [(x,u)])
 (WU:∀H:Hp,CU H->aU K H a (ns.map V.int)->sp [.ref a] H (λv _=>v= .bl true) λ_ _ _=>False)
 (hCX:∀H e s',CX [] H s₁ (λ_ _ _=>False) e s'->False):
 SN (model P w) SW (.call (.ref fa) ⟨[.ref a],[]⟩) (λr s'=>r= .ok (.ret (.bool true))/\OldK s₁.heap s'.heap/\s'.os=s₁.os/\Rx s'.gens) s₁:=by
 have rv:=rW hi
 have lenV:=hi.length
 -- from an abstract heap in which nothing but YQ X6 may be tracked
 have core:∀H:Hp,CU H->aU K H a (ns.map V.int)->dS P w H s₁.heap->(∀b,H b≠none->b=a)->(H a≠none->K.lookup a=none)->
  SN (model P w) SW (.call (.ref fa) ⟨[.ref a],[]⟩) (λr s'=>r= .ok (.ret (.bool true))/\OldK s₁.heap s'.heap/\s'.os=s₁.os/\Rx s'.gens) s₁:=by
  intro H hO hS UZ hA hK
  have base_of:∀{b:Addr} {o:Obj},s₁.heap.get? b=some o->H b=none->(lD s₁.heap H).get? b=some o:=λe n=>BP e n
  have YY:∀{b:Addr} {o:Obj} {es:Array DictEntry} {ep:Nat},s₁.heap.get? b=some o->o.data= .dict es ep->H b=none:=λ{b o es ep} e d=>by
   cases q:H b with
   | none=>rfl
   | some u=>
     have e':b=a:=hA b (by rw[q];simp)
     subst e'
     rw[ha] at e;cases e
     have d':Data.seq vs.toArray _=Data.dict es ep:=d
     cases d'
  have nsK:∀{b:Addr} {m:Oz},s₁.heap.Ns b m->(lD s₁.heap H).Ns b m:=λ{b m} ⟨o,es,ep,e,d,r⟩=>⟨o,es,ep,base_of e (YY e d),d,r⟩
  have hKb:K.In (lD s₁.heap H):=λb o e=>base_of (KX b o e) (by
   cases q:H b with
   | none=>rfl
   | some u=>
     have e':b=a:=hA b (by rw[q];simp)
     subst e'
     rw[hK (by rw[q];simp)] at e;cases e)
  have hM:Mod K mg (lD s₁.heap H):=⟨hKb,nsK YC,⟨mb,nsK hb,hbb⟩,let ⟨mc,h1,h2⟩:=hlim;⟨mc,nsK h1,h2⟩⟩
  have e0:oq P w K mg (lD s₁.heap H) SW [] s₁ H:=⟨rfl,hM,λb o e=>Ez e,Ri (zM _ _),trivial,λb hb=>UJ (show b∈([]:OE) from hb) (by simp),UZ,.of_eq hg⟩
  refine SX ((F _ hKb (nsK YC)).run SW [] s₁ H ⟨[.ref a],[]⟩ [.ref a] [.ref a] _ _ hr e0 (Zx s₁ (.ref a)) (.cons rfl .nil) (WU H hO hS)) λr s' h=>?_
  cases r with
  | error e=>exact(hCX H e s' h).elim
  | ok fl=>
    cases fl with
    | next=>exact OO h
    | brk=>exact OO h
    | cont=>exact OO h
    | ret u=>
      obtain⟨v,H',os,bare,un,hok',r',q⟩:=h
      have q':v= .bl true:=q
      subst q'
      obtain rfl:u=Uh true:=r'
      refine⟨rfl,OldK.of_keep λb o e=>?_,os,bare⟩
      cases q:H b with
      | none=>exact un.keep b o e q (by intro z;exact UJ (show b∈([]:OE) from z) (by simp)) (by simp)
      | some u=>
        rcases hO b with z | ⟨ob,xs,z⟩
        ·rw[q] at z;cases z
        ·have z2:=un.V3 b ob _ z
         obtain⟨e1,_⟩:=UZ b _ z
         obtain⟨e2,_⟩:=hok' b _ z2
         rw[e] at e1;cases e1
         exact e2
 cases hk:K.lookup a with
 | some o=>
   -- YQ X6 is one of YQ Y1 own objects
   have e:=KX a o hk
   rw[ha] at e
   cases e
   refine core (λ_=>none) (λ_=>.inl rfl) (.inr ⟨_,vs.toArray,_,hk,rfl,rfl,rfl,by rw[O9,lenV];exact hl,by simpa using rv⟩) (λb u z=>by have z':(none:Option HO)=some u:=z;cases z') (λb z=>UJ rfl z) λz=>UJ rfl z
 | none=>
   refine core (λb=>if b=a then some (.VP {cls:=.type "list",data:=.seq vs.toArray} (.lst (ns.map V.int))) else none) (λb=>?_) (.inl (.inr ⟨{cls:=.type "list",data:=.seq vs.toArray},UL rfl⟩)) (λb u z=>?_) (λb z=>?_) λ_=>hk
   ·by_cases hb:b=a
    ·exact .inr ⟨_,_,UL hb⟩
    ·exact .inl (UK hb)
   ·by_cases hb:b=a
    ·have z':=(UL hb).symm.trans z
     cases z'
     subst hb
     exact⟨ha,by rw[OZ];exact hl,vs,_,rv,ha⟩
    ·have z':=(UK hb).symm.trans z
     cases z'
   ·by_cases hb:b=a
    ·exact hb
    ·exact UJ (UK hb) z
abbrev nQ {K:Uk}{h:Heap}(_:K.In h):Uk:=K
def cQ (s:Stmt):Arguments:=match s with
 | .FunctionDef _ a _ _ _ _ _ _ _ _=>a
 | _=>{posonlyargs:=[],args:=[],vararg:=none,kwonlyargs:=[],kw_defaults:=[],kwarg:=none,defaults:=[]}
def bw (s:Stmt):List Stmt:=match s with
 | .FunctionDef _ _ b _ _ _ _ _ _ _=>b
 | _=>[]
def ai (s:Stmt):Scope:=match s with
 | .FunctionDef _ _ _ _ _ _ sc _ _ _=>sc
 | _=>{kind:=.function,names:=[],isGenerator:=false,isCoroutine:=false}
abbrev d6:mh:=λ_ _ _ _ _ _=>False
abbrev E0:XK:=λ_ _ _=>False
theorem sv {X:Cx}:Passes d6 X E0:=λ_ _ _ _ _ _ _ h=>h.elim
structure dU (K:Uk) (x qual:Str) (st:Stmt) (f:Addr) (fd:RO):Prop where
 ex:∃(oc:Value) (od:Option Addr) (kV doc pm:Value) (an:Option Addr) (UX ct:Value) (We:Array OD),
  fd=Uq x qual (cQ st) (bw st) (ai st) .none kV doc pm an UX ct/\K.lookup f=some ⟨oc,od,.func fd,We⟩/\Uu K UX qual=true
 kp:Us K (.ref f)=true
section
variable {P:RJ}{w:World}{K:Uk}{mg:Oz}{base:Heap}
variable {x qual:Str}{st:Stmt}{f:Addr}
theorem dU.ok {fd:RO}{N ps:OC}{k:Nat}{sp:Sp}(F:dU K x qual st f fd)(S:aF N ps (ai st))(len:∀vs H Q E,sp vs H Q E->vs.length=ps.length)
 (Vc:∀(UX:Value) (A:RL) (outer:List Env) (s:RA) (H:Hp) (vs:List V) (Q:VK) (E:XK),bI k (A.deeper (Ru qual (ai st) s.heap.objs.size f UX))->sp vs H Q E->
  ∃t,jA (eI d6 P w K mg base N qual (ai st) f UX A outer s H E).h9 (bw st) t/\t {nx:=λ_ H'=>Q .U8 H',rt:=Q} (start N vs) H):dW P w K mg base d6 (k+1) f fd ps sp:=by
 obtain⟨oc,od,kV,doc,pm,an,UX,ct,We,rfl,lk,U0⟩:=F.ex
 refine LG lk U0 S len λA outer s H vs Q E hr WU=>?_
 obtain⟨t,h,q⟩:=Vc UX A outer s H vs Q E hr WU
 exact⟨t,h.h9,q⟩
theorem dU.binds {fd:RO}{ps:OC}(F:dU K x qual st f fd)
 (h:∀(kV doc pm:Value) (an:Option Addr) (UX ct:Value) (us:OF),us.length=ps.length->SO (Uq x qual (cQ st) (bw st) (ai st) .none kV doc pm an UX ct) ⟨us,[]⟩=pure (ps.zip us)):Binds K fd ps []:=by
 obtain⟨oc,od,kV,doc,pm,an,UX,ct,We,rfl,lk,U0⟩:=F.ex
 exact .all (h kV doc pm an UX ct)
theorem jC {oc:Value}{od an:Option Addr}{We:Array OD}{kV doc pm UX ct:Value}(l:K.lookup f=some ⟨oc,od,.func (Uq x qual (cQ st) (bw st) (ai st) .none kV doc pm an UX ct),We⟩)
 (c:Uu K UX qual=true) (k:Us K (.ref f)=true):dU K x qual st f (Uq x qual (cQ st) (bw st) (ai st) .none kV doc pm an UX ct):=⟨⟨oc,od,kV,doc,pm,an,UX,ct,We,rfl,l,c⟩,k⟩
end
section
variable {X:Cx}
end
section
variable {H:Hp}
theorem mG {A B:Prop}(h:B):if false=true then A else B:=by
 rw[UK OJ]
 exact h
theorem mT {A B:Prop}(h:A):if true=true then A else B:=by
 rw[UL rfl]
 exact h
def av (H H':Hp):Prop:=∀b o,H b=some o->H' b=some o
theorem av.refl (H:Hp):av H H:=λ_ _ h=>h
theorem av.trans {H1 H2:Hp}(a:av H H1)(b:av H1 H2):av H H2:=λc o h=>b c o (a c o h)
theorem av.free {H':Hp}(e:av H H'){l:Addr}(h:H' l=Option.none):H l=Option.none:=by
 cases q:H l with
 | none=>rfl
 | some o=>
   rw[e l o q] at h
   cases h
theorem av.seq {K:Uk}{H':Hp}{a:Addr}{xs:List V}(e:av H H')(h:aU K H a xs):aU K H' a xs:=by
 rcases h with(h | ⟨o,h⟩) | h
 ·exact .inl (.inl (e _ _ h))
 ·exact .inl (.inr ⟨o,e _ _ h⟩)
 ·exact .inr h
end
section
variable {X:Cx}
theorem rj:eX X (.builtin "len") (λxs H Q=>∃a kvs,xs=[V.ref a]/\H a=some (.dK kvs)/\Q (.int kvs.length) H):=by
 intro UT s σ H xs us Q I r h
 obtain⟨a,kvs,rfl,ha,q⟩:=h
 obtain⟨u,rfl,ru⟩:=vals1 r
 cases ru
 exact Le I (.inl ha) λt s' I'=>⟨.int kvs.length,H,I',⟨t,rfl⟩,q⟩
end
section
variable {κ:Type} [DecidableEq κ]
theorem iy:∀{l:List κ} {k:κ},l.Nodup->¬k∈l->(l++[k]).Nodup
 | [],k,_,_=>by simp
 | a::r,k,h,hk=>by
   obtain⟨h1,h2⟩:=Pw.mp h
   show(a::(r++[k])).Nodup
   refine Pw.mpr ⟨λm=>?_,iy h2 λm=>hk (O7.mpr (Or.inr m))⟩
   rcases Pa.mp m with q | q
   ·exact h1 q
   ·exact hk (O7.mpr (Or.inl (O0.mp q).symm))
end
section
variable {X:Cx}
variable {elt target iter:Expr}{ifs:OG}{scope:Scope}{pos:Pos}{s:RA}{fr:OC}{ix:List Nat}{wi:TI}{g:TG}{tc:TT}{te:TE}
def bu (X:Cx)(scope:Scope)(cl:List (Str×Addr))(C:Addr)(N':OC)(s:RA)(H:Hp)(ex:OE):Cx:=
 {X with N:=N',s₀:=s,H₀:=H,env:=compEnvC scope cl C X.env,outer:=X.stack,stack:=X.stack,ex:=ex,fn:=λ_=>false,pn:=[],xe:=λ_ _=>False}
def PF (X:Cx)(ifs:OG)(t:TT):Prop:=
 ∀(UT:OA) (s:RA) (σ:St) (H:Hp) (Q:Bool->Hp->Prop),Inv X UT σ H s->t σ H Q->
  wpAny (model X.prog X.w) X.A (forIn ifs true λc r=>if r=true then do let ok ← Su c X.env (eval c X.env);pure (OP ok) else pure (OP r)) (TP X UT σ Q) X.xe s
def Od:TT:=λ_ H Q=>Q true H
theorem Hx:PF X [] Od:=by
 intro UT s σ H Q I h
 exact RH ⟨H,I,h⟩
theorem II {c:Expr}{t:TT}(hc:PT X c t):PF X [c] t:=by
 intro UT s σ H Q I h
 show wpAny _ _ (forIn [c] true λc r=>_) _ _ s
 rw[QT]
 simp only[if_true,forIn_nil]
 refine RF (RF (RZ (hc UT s σ H Q I h) (λb s1 h1=>?_) λ_ _ e=>e))
 exact RH (RH h1)
theorem uY {prog:RJ}{w:World}{A:RL}{R:Result->RA->Prop}{it acc:Value}{env:Env}(I:Nat->RA->Prop)
 (turn:∀n s,I n s->wpAny (model prog w) A (S6 it) (λr s₁=>match r with
  | none=>R (.ok .next) s₁
  | some v=>wpAny (model prog w) A (SF target it v) (λ_ s₁'=>wpAny (model prog w) A (Sn target env v) (λ_ s₂=>
   wpAny (model prog w) A (forIn ifs true λc r=>if r=true then do let ok ← Su c env (eval c env);pure (OP ok) else pure (OP r)) (λok s₃=>
    if ok=true then wpAny (model prog w) A (eval elt env) (λx s₄=>
     wpAny (model prog w) A (call (.builtin "list.append") [acc,x]) (λ_ s₅=>∃m,m<n/\I m s₅) (λ_ _=>False) s₄) (λ_ _=>False) s₃
    else∃m,m<n/\I m s₃) (λ_ _=>False) s₂) (λ_ _=>False) s₁') (λ_ _=>False) s₁) (λ_ _=>False) s)
 (n:Nat) (h:I n s):
 SN (model prog w) A (.compLoop (.ListComp elt [⟨target,iter,ifs,0⟩] scope pos) 0 it acc env) R s:=by
 have no:∀{α:Type} {t:Sem α} {Q:α->RA->Prop} {E:Value->RA->Prop} {s:RA},wpAny (model prog w) A t Q (λ_ _=>False) s->wpAny (model prog w) A t Q E s:=λh=>RZ h (λ_ _ q=>q) λ_ _ f=>f.elim
 refine codeAny_loop rfl I (λn s hI=>?_) n h
 show wpAny _ A ((compTurn (.ListComp elt [⟨target,iter,ifs,0⟩] scope pos) 0 it acc env).onRaise (λx=>do noteFrame x env;theTreesLotGoes x)) _ _ s
 refine wpAny_noted ?_
 rw[compTurn_list]
 refine RF (Td (RF (RZ (no (turn n s hI)) (λr s₁ h₁=>?_) λ_ _ h'=>h')))
 cases r with
 | none=>exact RH h₁
 | some v=>
   refine RF (RZ (no h₁) (λ_ s₁' h₁'=>?_) λ_ _ h'=>h')
   refine RF (RZ (no h₁') (λ_ s₂ h₂=>RF (RZ (no h₂) (λok s₃ h₃=>?_) λ_ _ h'=>h')) λ_ _ h'=>h')
   cases ok with
   | false=>exact RH ⟨rfl,h₃⟩
   | true=>
     exact RF (RF (RZ (no h₃) (λx s₄ h₄=>RF (RZ (no h₄) (λ_ s₅ h₅=>RH (RH ⟨rfl,h₅⟩)) λ_ _ h'=>h')) λ_ _ h'=>h'))
def xT (wi:TI)(g:TG)(tc:TT)(te:TE)(z:St->St):TE:=λσ H Q=>wi σ H λJ H1=>
 ∃W:Nat->Nat->List V->St->Hp->Prop,(∃m,W 0 m [] (z σ) H1)/\∀i m ys σ' H',W i m ys σ' H'->
  ys.length<=RE/\((J.stop i H'/\∀p,H' p=none->Q (.ref p) (upd H' p (.lst ys)))∨
  (J.go i H'/\∀x H2,J.Yz i H' x H2->g x σ' H2 λσ2 H3=>tc σ2 H3 λb H4=>
    if b=true then te σ2 H4 λv H5=>∃m',m'<m/\W (i+1) m' (ys++[v]) σ2 H5 else∃m',m'<m/\W (i+1) m' ys σ2 H4))
structure eR (X:Cx) (scope:Scope) (cl:List (Str×Addr)) (own fr:OC) (ix:List Nat):Prop where
 clos:closureFor scope X.env=pure cl
 cells:∀x c,cl.lookup x=some c->X.env.cells.lookup x=some c
 kind:scope.kind= .function
 XI:∀y∈scope.names,y.2≠ .cell
 names:∀y∈scope.names,y.2= .local->scope.names.lookup y.1=some .local
 has:∀x,scope.names.lookup x=some .free->∃c,cl.lookup x=some c
 frees:∀x∈fr,scope.names.lookup x=some .free
 len:fr.length=ix.length
 at_:∀(k:Nat) (i:Nat) (x:Str),ix[k]?=some i->fr[k]?=some x->X.N[i]?=some x/\X.env.kindOf x=some .cell
theorem ie {env:Env}:∀{names:List (Str×So)} {x:Str} {k:So},
 (names.map λ(n,k)=>if(k==So.free&&env.scope.kind== .function&&env.kindOf n==some .cell) then(n,So.cell) else(n,k)).lookup x=some k->
 ∃k',names.lookup x=some k'/\(k=k'∨(k'= .free/\k= .cell))
 | [],_,_,h=>by simp at h
 | (n,k)::r,x,kk,h=>by
   have ih:=@ie env r x kk
   replace h:Qa x ((if(k==So.free&&env.scope.kind== .function&&env.kindOf n==some .cell)=true then(n,So.cell) else(n,k))::_)=some kk:=h
   by_cases hc:(k==So.free&&env.scope.kind== .function&&env.kindOf n==some .cell)=true
   ·rw[UL hc] at h
    cases hx:x==n with
    | true=>
      simp only[Qg,hx,Option.some.injEq] at h ⊢
      have hk:k= .free:=by
       simp only[OK] at hc
       exact eq_of_beq hc.1.1
      exact⟨k,rfl,.inr ⟨hk,h.symm⟩⟩
    | false=>
      simp only[Qg,hx] at h ⊢
      exact ih h
   ·rw[UK hc] at h
    cases hx:x==n with
    | true=>
      simp only[Qg,hx,Option.some.injEq] at h ⊢
      exact⟨k,rfl,.inl h.symm⟩
    | false=>
      simp only[Qg,hx] at h ⊢
      exact ih h
theorem mN {env:Env}(hf:env.scope.kind= .function):∀{names:List (Str×So)} {x:Str},names.lookup x=some .free->env.kindOf x=some .cell->
 (names.map λ(n,k)=>if(k==So.free&&env.scope.kind== .function&&env.kindOf n==some .cell) then(n,So.cell) else(n,k)).lookup x=some .cell
 | [],_,h,_=>by simp at h
 | (n,k)::r,x,h,hk=>by
   have ih:=@mN env hf r x
   show Qa x ((if(k==So.free&&env.scope.kind== .function&&env.kindOf n==some .cell)=true then(n,So.cell) else(n,k))::_)=_
   cases hx:x==n with
   | true=>
     simp only[Qg,hx,Option.some.injEq] at h
     have e:x=n:=eq_of_beq hx
     subst e
     subst h
     rw[UL (by rw[hf,hk];rfl)]
     simp[Qg]
   | false=>
     simp only[Qg,hx] at h
     split
     ·simp only[Qg,hx];exact ih h hk
     ·simp only[Qg,hx];exact ih h hk
def gu (own:OC)(ix:List Nat)(σ:St):St:=Qn own.length none++ix.map λi=>(σ[i]?).join
structure Off (X:Cx) (UT:OA) (H:Hp) (s:RA) (C:Addr):Prop where
 ns:∃m,s.heap.Ns C m
 free:H C=none
 ne:C≠X.env.locals
 young:X.s₀.heap.objs.size<=C
 cell:∀x c,X.env.cells.lookup x=some c->c≠C
 pin:∀p∈X.pn++UT,p.1≠C
theorem rB {cl:List (Str×Addr)}{own:OC}
 {use:Option (Value->Sem Unit)} {Qf:Value->RA->Prop} {UT:OA} {σ:St} {H:Hp} {Q:VK}
 (hc:X.calm=true) (S:eR X scope cl own fr ix) (hi:PI X target iter wi)
 (hb:∀(C:Addr) (s:RA) (H:Hp) (ex:OE),PG (bu X scope cl C (own++fr) s H ex) target g/\PF (bu X scope cl C (own++fr) s H ex) ifs tc/\PE (bu X scope cl C (own++fr) s H ex) elt te)
 (hs:∀x,RY iter X.env x=pure x) (I:Inv X UT σ H s) (h:xT wi g tc te (gu own ix) σ H Q)
 (WC:∀(D C:Addr) (H6:Hp) (s6:RA),Inv X UT σ H6 s6->Off X UT H6 s6 C->Q (.ref D) H6->compPost (model X.prog X.w) X.A X.xe use Qf (.ref D) C (.ok .next) s6):
 wpAny (model X.prog X.w) X.A (comprehension (.ListComp elt [⟨target,iter,ifs,0⟩] scope pos) scope X.env (firstIterPos [⟨target,iter,ifs,0⟩] pos) (newList []) false (eval iter X.env) use) Qf X.xe s:=by
 refine wpAny_comprehension_free (use:=use) rfl hs S.clos S.kind S.names ?_
 refine aT (hi UT s σ H _ I h) λv s1 h1=>aT h1 λitv s2 h2=>?_
 obtain⟨it,fp,tn,J,H2,rfl,I2,T,Xr,f2,W,⟨m0,w0⟩,turn⟩:=h2
 refine R9 (wpAny_newFunctionEnv S.XI (by intro y hy;simp at hy) (λh₁ hns₁ hsb₁=>?_) S.kind)
 dsimp only at hns₁ hsb₁ ⊢
 generalize hH3:s2.heap.push {cls:=.type "list",dict:=none,data:=.seq ([]:OF).toArray}=h3 at hns₁ hsb₁ ⊢
 have hC:h3.objs.size=s2.heap.objs.size+1:=by rw[← hH3,TU]
 have to3:∀b o,s2.heap.get? b=some o->h3.get? b=some o:=λb o e=>by rw[← hH3];exact TN _ e
 have ZE:h3.get? s2.heap.objs.size=some {cls:=.type "list",data:=.seq ([]:OF).toArray}:=by rw[← hH3];exact TR _ rfl
 have X3:∀b o,h3.get? b=some o->h₁.get? b=some o:=λb o e=>hsb₁.extBut b o (Q1 (TQ e)) (TN _ e)
 have frD:∀{b:Addr},b∈fp->b≠s2.heap.objs.size:=λ{b} hb z=>by
  obtain⟨o,e,_⟩:=T.obj 0 _ Xr b hb
  exact UJ (TQ e) (by rw[z];exact Q3 _)
 have frC:∀{b:Addr},b∈fp->b≠h3.objs.size:=λ{b} hb z=>by
  obtain⟨o,e,_⟩:=T.obj 0 _ Xr b hb
  exact UJ (TQ e) (by rw[z,hC];exact Rc.mpr (Q6 _))
 have HD2:H2 s2.heap.objs.size=none:=I2.UZ.fresh (QW _)
 -- YQ block's context
 let X':Cx:=bu X scope cl h3.objs.size (own++fr) {s2 with heap:=h3} H2 (s2.heap.objs.size::fp)
 have YU:X'.Ok:=by
  refine⟨I2.ok.mod,S.kind,I2.ok.glob,I2.ok.blt,QW _,λx y c e1 e2=>I2.ok.inj x y c (S.cells x c e1) (S.cells y c e2),λx hx=>?_,λx c z=>?_,I2.ok.hd,I2.ok.frames,.inl rfl,λb hb=>?_,λb o e=>?_,?_,λb o e hb=>?_,λb hb z=>?_,?_,I2.xv⟩
  ·have key:scope.names.lookup x=some .free:=by
    have hx:(relabel scope X.env).names.lookup x=some .cell∨(relabel scope X.env).names.lookup x=some .free:=hx
    rcases hx with hx | hx
    ·obtain⟨k',e,z⟩:=ie hx
     rcases z with z | z
     ·subst z;exact UJ rfl (S.XI _ (RS e))
     ·rw[e,z.1]
    ·obtain⟨k',e,z⟩:=ie hx
     rcases z with z | z
     ·subst z;exact e
     ·cases z.2
   exact S.has x key
  ·cases z
  ·rcases O7.mp hb with rfl | hb
   ·refine⟨by rw[show X'.env.locals=h3.objs.size from rfl,hC];exact Q1 (Q7 _),λx c e z=>?_⟩
    obtain⟨v',q⟩:=I2.cell x c (S.cells x c e)
    exact UJ q.lt (by rw[z];exact Q3 _)
   ·exact⟨frC hb,λx c e=>(f2 b hb).2.2.2.2.1 x c (S.cells x c e)⟩
  ·obtain⟨e1,e2⟩:=I2.bs b o e
   exact⟨to3 b o e1,e2⟩
  ·show X.base.objs.size<=h3.objs.size
   have:=I2.ok.XE;have:=I2.sz
   omega
  ·rcases O7.mp hb with rfl | hb
   ·exact UJ (TQ (I2.bs _ o e).1) (Q3 _)
   ·rcases(f2 b hb).2.2.2.1 with z | z
    ·exact I2.ok.W5 b o e z
    ·exact UJ (Q0 (Q0 (TQ e) I2.ok.XE) z) (Q3 _)
  ·replace z:b∈kR X.stack:=z
   rcases O7.mp hb with rfl | hb
   ·obtain⟨_,o,ho,_⟩:=I2.stack.mem z
    exact UJ (TQ ho) (Q3 _)
   ·rcases O7.mp (I2.sX b z) with q | q
    ·exact(f2 b hb).2.1 q
    ·exact(f2 b hb).2.2.1 q
  ·exact I2.stack.of_keeps λb o e _=>⟨o,to3 b o e,rfl⟩
 have I4:Inv X' [] (gu own ix σ) H2 {s2 with heap:=h₁,toks:=s2.toks+([]:List (Str×Value)).length}:=by
  refine⟨YU,rfl,I2.bare,Un.kept X3,⟨_,hns₁,λi x v e1 e2 e3=>?_⟩,λx c e=>?_,I2.UZ.fresh (by show s2.heap.objs.size<=h3.objs.size;rw[hC];exact Q6 _),λx c e=>I2.VB x c (S.cells x c e),λp hp=>UJ (show p∈([]:OA) from hp) (by simp),I2.UZ.kept λb o e=>X3 b o (to3 b o e),?_⟩
  ·replace e1:(own++fr)[i]?=some x:=e1
   unfold gu at e2
   by_cases VJ:i<own.length
   ·rw[Pr (by simpa using VJ),Qk] at e2
    split at e2<;>cases e2
   ·rw[Pp (by simpa using VJ)] at e1 e2
    rw[P8,O5] at e2
    cases ek:ix[i-own.length]? with
    | none=>rw[ek] at e2;cases e2
    | some j=>
      rw[ek] at e2
      obtain⟨n1,n2⟩:=S.at_ _ j x ek e1
      have e2':σ[j]?=some (some v):=by
       have q:(σ[j]?).join=some v:=Option.some.inj e2
       cases es:σ[j]? with
       | none=>rw[es] at q;cases q
       | some o=>rw[es] at q;exact congrArg some q
      obtain⟨m,hn,hl⟩:=I2.loc
      obtain⟨u,r,l⟩:=hl j x v n1 e2' (.inr (.inl n2))
      refine⟨u,r,?_⟩
      have Yo:scope.names.lookup x=some .free:=S.frees x (O6 e1)
      rcases l with⟨k,_⟩ | ⟨_,c,XA,z⟩
      ·rw[n2] at k;cases k
      ·obtain⟨c',Zw⟩:=S.has x Yo
       have q:=S.cells x c' Zw
       rw[XA] at q
       cases q
       obtain⟨oc,ho,hd⟩:=z
       exact .inr ⟨.inl (mN I2.ok.kind Yo n2),c,Zw,oc,X3 _ _ (to3 _ _ ho),hd⟩
  ·obtain⟨v',oc,ho,hd⟩:=I2.cell x c (S.cells x c e)
   exact⟨v',oc,X3 _ _ (to3 _ _ ho),hd⟩
  ·show(gu own ix σ).length=(own++fr).length
   unfold gu
   rw[O4,O4,P8,OZ,S.len]
 obtain⟨hg,hf,he⟩:=hb h3.objs.size {s2 with heap:=h3} H2 (s2.heap.objs.size::fp)
 have hg:PG X' target g:=hg
 have hf:PF X' ifs tc:=hf
 have he:PE X' elt te:=he
 have locX:X'.env.locals=h3.objs.size:=rfl
 -- D's place
 have Dne:s2.heap.objs.size≠X'.env.locals:=by rw[locX,hC];exact Q1 (Q7 _)
 have Dfs:s2.heap.objs.size∉X'.fs:=YU.WX _ (O3 ..)
 have Dcl:∀x c,X'.env.cells.lookup x=some c->c≠s2.heap.objs.size:=λx c e=>(YU.exf _ (O3 ..)).2 x c e
 have fpX:∀{pl:OA} {H':Hp},(∀p∈pl,p.1=s2.heap.objs.size)->(∀b∈fp,H' b=none)->∀b∈fp,jJ X' pl H' b:=λhp hn b hb=>
  ⟨hn b hb,frC hb,YU.WX b (O2 _ hb),.inl (O2 _ hb),(YU.exf b (O2 _ hb)).2,λp q=>by
   rw[hp p (by simpa[show X'.pn=[] from rfl] using q)];exact Rk (frD hb)⟩
 have pinD:∀{σ':St} {H':Hp} {s':RA} {o:Obj},Inv X' [] σ' H' s'->s'.heap.get? s2.heap.objs.size=some o->H' s2.heap.objs.size=none->(∀v,o.data≠ .cell v)->Inv X' [(s2.heap.objs.size,o)] σ' H' s':=λI e n d=>
  I.ju λp hp=>by
    obtain rfl:=O0.mp hp
    exact⟨e,n,Dne,Dfs,d⟩
 have loop:SN (model X.prog X.w) X.A (.compLoop (.ListComp elt [⟨target,iter,ifs,0⟩] scope pos) 0 (.ref it) (.ref s2.heap.objs.size) X'.env)
  (compPost (model X.prog X.w) X.A X.xe use Qf (.ref s2.heap.objs.size) h3.objs.size) {s2 with heap:=h₁,toks:=s2.toks+([]:List (Str×Value)).length}:=by
  refine uY (λn s'=>∃i ys UW k σ' H',Inv X' [] σ' H' s'/\tn i s'.heap/\(∀b∈fp,H' b=none)/\H' s2.heap.objs.size=none/\Vals ys UW/\s'.heap.get? s2.heap.objs.size=some {cls:=.type "list",data:=.seq UW.toArray k}/\W i n ys σ' H')
   ?_ m0 ⟨0,[],[],0,_,H2,I4,T.keep 0 _ _ Xr λb _ o e=>X3 b o (to3 b o e),λb VZ=>(f2 b VZ).1,HD2,.nil,X3 _ _ ZE,w0⟩
  rintro n s5 ⟨i,ys,UW,k,σ5,H5,I5,YA,fr5,hD5,vs5,get5,w5⟩
  obtain⟨hlen,alt⟩:=turn i n ys σ5 H5 w5
  have P5:=pinD I5 get5 hD5 (λv z=>by cases z)
  have okp:∀p∈[(s2.heap.objs.size,({cls:=.type "list",data:=.seq UW.toArray k}:Obj))],p.1=s2.heap.objs.size:=λp hp=>by
   rw[O0.mp hp]
  rcases alt with⟨stop,q⟩ | ⟨go,step⟩
  ·refine aT (T.done X' rfl rfl rfl hc i _ s5 σ5 H5 _ P5 (fpX okp fr5) YA stop) λr s6 ⟨hr,I6⟩=>?_
   subst hr
   obtain⟨m6,hn6,_⟩:=I6.loc
   obtain⟨get6,_,_,_,_⟩:=I6.pin (s2.heap.objs.size,({cls:=.type "list",data:=.seq UW.toArray k}:Obj)) (Pb _ (O0.mpr rfl))
   have YO:∀b o,b≠h3.objs.size->s6.heap.get? b=some o->s6.heap.get? b=some o:=λb o hb e=>e
   have exn:∀{b:Addr} {o:Obj},s2.heap.get? b=some o->b∉fp->b∉X'.ex:=λ{b o} e hb z=>by
    rcases O7.mp z with z | z
    ·exact UJ (TQ e) (by rw[z];exact Q3 _)
    ·exact hb z
   have W7:∀{b:Addr} {o:Obj},s2.heap.get? b=some o->b≠h3.objs.size:=λ{b o} e z=>by
    have q1:=TQ e
    rw[z,hC] at q1
    exact UJ q1 (Rc.mpr (Q6 _))
   have neD:∀{b:Addr} {o:Obj},s2.heap.get? b=some o->b≠s2.heap.objs.size:=λ{b o} e=>Q1 (TQ e)
   have X8:∀{b:Addr} {o:HO},H2 b=some o->b≠s2.heap.objs.size:=λ{b o} e=>cT e HD2
   have U:Un (kR X.stack) fp H2 (upd H5 s2.heap.objs.size (.lst ys)) s2.heap s6.heap:=by
    refine⟨λb o e n hb hx=>?_,λb o e n hb hx=>?_,λb o e n hx=>?_,λb o e hx=>?_,λb xs e=>?_,λb o u e=>?_,λb ps e=>?_⟩
    ·exact YO b o (W7 e) (I6.base.keep b o (to3 b o e) n hb (exn e hx))
    ·obtain⟨sl,q1⟩:=I6.base.slot b o (to3 b o e) n hb (exn e hx)
     exact⟨sl,YO b _ (W7 e) q1⟩
    ·rw[aB (neD e)]
     exact I6.base.free b o (to3 b o e) n (exn e hx)
    ·obtain⟨o',q1⟩:=I6.base.there b o (to3 b o e) (exn e hx)
     exact⟨o',YO b _ (W7 e) q1⟩
    ·rw[aB (X8 e)];exact I6.base.V7 b xs e
    ·rw[aB (X8 e)];exact I6.base.V3 b o u e
    ·rw[aB (X8 e)];exact I6.base.V8 b ps e
   have HC:H5 h3.objs.size=none:=I6.free
   have UZ:dS X.prog X.w (upd H5 s2.heap.objs.size (.lst ys)) s6.heap:=λb u e=>by
    by_cases hbD:b=s2.heap.objs.size
    ·subst hbD
     rw[aA] at e
     cases e
     exact⟨hlen,UW,k,vs5,YO _ _ (by rw[hC];exact Q1 (Q7 _)) get6⟩
    ·rw[aB hbD] at e
     refine(I6.UZ b u e).Vt (λc o YH q1=>YO c o (λz=>?_) q1) (λc q1=>by rw[aB (cT q1 hD5)];exact q1) λc xs q1=>by rw[aB (cT q1 hD5)];exact q1
     rcases YH with YH | YH
     ·rw[← YH,z,HC] at e;cases e
     ·rw[z,HC] at YH;cases YH
   have fin:=I2.Mg (s':=s6) (ch:=fp) I6.os U UZ I6.bare λb VZ=>⟨(f2 b VZ).2.2.2.1,(f2 b VZ).2.1,(f2 b VZ).2.2.2.2.1,(f2 b VZ).2.2.2.2.2⟩
   refine WC _ h3.objs.size _ s6 fin ⟨⟨m6,hn6⟩,?_,?_,?_,λx c e z=>?_,λp hp z=>?_⟩ (q _ hD5)
   ·rw[aB (by rw[hC];exact Q9 (Q7 _))];exact HC
   ·intro z
    have:=I2.lt
    rw[← z,hC] at this
    exact UJ this (Rc.mpr (Q6 _))
   ·rw[hC];exact QX I2.sz (Q6 _)
   ·obtain⟨v',q1⟩:=I2.cell x c e
    have:=q1.lt
    rw[z,hC] at this
    exact UJ this (Rc.mpr (Q6 _))
   ·have:=TQ (I2.pin p hp).1
    rw[z,hC] at this
    exact UJ this (Rc.mpr (Q6 _))
  ·refine aT (T.item X' rfl rfl rfl hc i _ s5 σ5 H5 _ P5 (fpX okp fr5) YA go) λr s6 ⟨u,hr,h6⟩=>?_
   subst hr
   refine aT h6 λ_ s7 ⟨x,H7,I7,r7,y7,st7,fr7⟩=>?_
   have I7':=I7.pinned (fpX okp fr7) (T.obj _ _ st7)
   refine aT (hg _ s7 σ5 H7 x u _ I7' r7 (step x H7 y7)) λ_ s8 ⟨σ8,H8,I8,q8⟩=>?_
   refine aT (hf _ s8 σ8 H8 _ I8 q8) λb s9 ⟨H9,I9,q9⟩=>?_
   have out:∀{σ':St} {H':Hp} {s':RA},Inv X' ([(s2.heap.objs.size,({cls:=.type "list",data:=.seq UW.toArray k}:Obj))]++kQ fp s7.heap) σ' H' s'->
    tn (i+1) s'.heap/\(∀b∈fp,H' b=none)/\H' s2.heap.objs.size=none/\s'.heap.get? s2.heap.objs.size=some {cls:=.type "list",data:=.seq UW.toArray k}:=λI'=>by
    refine⟨T.keep _ _ _ st7 λb VZ o e=>(I'.pin (b,o) (Pb _ (Pb _ (jh VZ e)))).1,λb VZ=>?_,(I'.pin (s2.heap.objs.size,({cls:=.type "list",data:=.seq UW.toArray k}:Obj)) (Pb _ (Pj _ (O0.mpr rfl)))).2.1,(I'.pin (s2.heap.objs.size,({cls:=.type "list",data:=.seq UW.toArray k}:Obj)) (Pb _ (Pj _ (O0.mpr rfl)))).1⟩
    obtain⟨o,e,d⟩:=T.obj _ _ st7 b VZ
    exact(I'.pin (b,o) (Pb _ (Pb _ (jh VZ e)))).2.1
   cases b with
   | false=>
     rw[UK OJ] at q9 ⊢
     obtain⟨m',hm,w'⟩:=q9
     obtain⟨o1,o2,o3,o4⟩:=out I9
     exact⟨m',hm,i+1,ys,UW,k,σ8,H9,I9.ju (λ_ z=>nomatch z),o1,o2,o3,vs5,o4,w'⟩
   | true=>
     rw[UL rfl] at q9 ⊢
     refine aT (he _ s9 σ8 H9 _ I9 q9) λuv s10 ⟨v10,H10,I10,r10,q10⟩=>?_
     obtain⟨m',hm,w'⟩:=q10
     obtain⟨o1,o2,o3,o4⟩:=out I10
     refine wpAny_list_append_plain ⟨k,o4⟩ (λh' Ve V4=>?_) (by
      have:=vs5.length
      rw[O9,← this];exact hlen)
     obtain⟨k',Wn⟩:=Ve
     have I11:Inv X' (kQ fp s7.heap) σ8 H10 s10:=I10.ju λp hp=>I10.pin p (Pb _ (Pb _ hp))
     have I12:Inv X' [] σ8 H10 {s10 with heap:=h'}:=(I10.ju (λ_ z=>nomatch z):Inv X' [] σ8 H10 s10).turned (t':=s10.toks) (λb o VZ e=>V4.extBut b o VZ e) o3 Dne (.inl (O3 ..)) Dcl (λp hp=>UJ (show p∈([]:OA) from hp) (by simp))
     refine⟨m',hm,i+1,ys++[v10],UW++[uv],k',σ8,H10,I12,T.keep _ _ _ o1 λb VZ o e=>V4.extBut b o (frD VZ) e,o2,o3,vs5.append (.cons r10 .nil),?_,w'⟩
     show h'.get? _=_
     rw[Wn]
     simp
 exact codeAny_compStart_list loop (T.self X.A 0 _ _ _ (T.keep 0 _ _ Xr λb _ o e=>X3 b o (to3 b o e)) loop)
theorem Off.gone {UT:OA}{σ:St}{H:Hp}{C:Addr}{h':Heap}(o:Off X UT H s C)(I:Inv X UT σ H s)(V4:TY C s.heap h'):Inv X UT σ H {s with heap:=h'}:=
 I.turned (t':=s.toks) (λb u hb e=>V4.extBut b u hb e) o.free o.ne (.inr o.young) o.cell o.pin
theorem EM {cl:List (Str×Addr)}{own:OC}
 (hc:X.calm=true) (S:eR X scope cl own fr ix) (hi:PI X target iter wi)
 (hb:∀(C:Addr) (s:RA) (H:Hp) (ex:OE),PG (bu X scope cl C (own++fr) s H ex) target g/\PF (bu X scope cl C (own++fr) s H ex) ifs tc/\PE (bu X scope cl C (own++fr) s H ex) elt te)
 (hs:∀x,RY iter X.env x=pure x:=by intro _;rfl):
 PE X (.ListComp elt [⟨target,iter,ifs,0⟩] scope pos) (xT wi g tc te (gu own ix)):=by
 intro UT s σ H Q I h
 rw[eval_ListComp]
 refine rB (use:=none) hc S hi hb hs I h λD C H6 s6 I6 o6 q=>?_
 obtain⟨m,hn⟩:=o6.ns
 exact⟨m,hn,λh' V4=>⟨.ref D,H6,o6.gone I6 V4,rfl,q⟩⟩
theorem pP {i:Nat}{y:Str}{py Wh:Pos}{cl:List (Str×Addr)}{own:OC}
 (VR:RN (.ListComp elt [⟨target,iter,ifs,0⟩] scope pos) (some (.Name y py)) Wh.line X.env=pure true)
 (hN:X.N.Nodup) (Zq:X.N[i]?=some y) (hx:Loc X.env.scope y)
 (hc:X.calm=true) (S:eR X scope cl own fr ix) (hi:PI X target iter wi)
 (hb:∀(C:Addr) (s:RA) (H:Hp) (ex:OE),PG (bu X scope cl C (own++fr) s H ex) target g/\PF (bu X scope cl C (own++fr) s H ex) ifs tc/\PE (bu X scope cl C (own++fr) s H ex) elt te)
 (hs:∀x,RY iter X.env x=pure x:=by intro _;rfl)
 (hf:X.fn y=true∨X.env.scope.names.lookup y=some .local:=by first | exact .inl rfl | exact .inr rfl | assumption):
 PS X (.Assign [.Name y py] (.ListComp elt [⟨target,iter,ifs,0⟩] scope pos) Wh) (B5 (xT wi g tc te (gu own ix)) (yn i)):=by
 intro UT s σ H D I h
 rw[exec_Assign_Name_used _ _ _ _ VR]
 refine RF (Td (RF ?_))
 show wpAny _ _ (do let _ ← comprehension (.ListComp elt [⟨target,iter,ifs,0⟩] scope pos) scope X.env _ (newList []) false (eval iter X.env) (some (Sn (.Name y py) X.env))) _ _ s
 refine RF (RZ (rB (use:=some (Sn (.Name y py) X.env)) (Qf:=λ_ s'=>SP X UT D .next s') hc S hi hb hs I h λA C H6 s6 I6 o6 q=>?_) (λ_ s' hq=>RH (RH hq)) λ_ _ e=>e)
 show wpAny _ _ (Sn (.Name y py) X.env (.ref A)) _ _ _
 refine wpAny_assign_Name (r6 I6 hN Zq hx (v:=.ref A) rfl (λs7 I7 hw=>?_) hf)
 obtain⟨c,Y6,XU⟩:=hw
 have W7:C≠c:=by
  rcases XU with rfl | XU
  ·exact o6.ne
  ·exact Rk (o6.cell y c XU)
 obtain⟨m,hn⟩:=o6.ns
 have o7:Off X UT H6 s7 C:=⟨⟨m,hn.sameBut Y6 W7⟩,o6.free,o6.ne,o6.young,o6.cell,o6.pin⟩
 exact⟨m,hn.sameBut Y6 W7,λh' V4=>⟨_,H6,o7.gone I7 V4,q⟩⟩
end
end L2
namespace Fc
open PySem PySem.Spec PySem.W PySem.Calls L2
open PyProof.Rows hiding St
section
variable {X:Cx}
variable {e:Expr}{σ:St}{H:Hp}{t:TT}{Q:Bool->Hp->Prop}
def eZ (X:Cx)(e:Expr):TE:=λσ H Q=>∀(UT:OA) (s:RA),Inv X UT σ H s->wpAny (model X.prog X.w) X.A (eval e X.env) (EP X UT σ Q) X.xe s
def Bn (X:Cx)(e:Expr):TT:=λσ H Q=>∀(UT:OA) (s:RA),Inv X UT σ H s->wpAny (model X.prog X.w) X.A (Su e X.env (eval e X.env)) (TP X UT σ Q) X.xe s
def BR (X:Cx)(e:Expr):TT:=λσ H Q=>∀(whole:Sem Value) (UT:OA) (s:RA),Inv X UT σ H s->wpAny (model X.prog X.w) X.A (Su e X.env whole) (TP X UT σ Q) X.xe s
def my (X:Cx)(e:Expr):TG:=λv σ H Q=>∀(UT:OA) (s:RA) (u:Value),Inv X UT σ H s->RelV v u->wpAny (model X.prog X.w) X.A (Sn e X.env u) (λ_ s'=>∃σ' H',Inv X UT σ' H' s'/\Q σ' H') X.xe s
def CQ (X:Cx)(st:Stmt):TS:=λD σ H=>∀(UT:OA) (s:RA),Inv X UT σ H s->wpAny (model X.prog X.w) X.A (exec st X.env) (SP X UT D) X.xe s
def sL (X:Cx)(st:List Stmt):TS:=λD σ H=>∀(UT:OA) (s:RA),Inv X UT σ H s->wpAny (model X.prog X.w) X.A (execs st X.env) (SP X UT D) X.xe s
def yq (X:Cx)(es:OG):TA:=λσ H Q=>∀(pos:Pos) (UT:OA) (s:RA),Inv X UT σ H s->wpAny (model X.prog X.w) X.A (spliced (RM pos (RC es X.env))) (AP X UT σ Q) X.xe s
def oa (X:Cx)(ifs:OG):TT:=λσ H Q=>∀(UT:OA) (s:RA),Inv X UT σ H s->
 wpAny (model X.prog X.w) X.A (forIn ifs true λc r=>if r=true then do let ok ← Su c X.env (eval c X.env);pure (OP ok) else pure (OP r)) (TP X UT σ Q) X.xe s
theorem aL:PE X e (eZ X e):=λUT s _ _ _ I h=>h UT s I
theorem pC:PT X e (Bn X e):=λUT s _ _ _ I h=>h UT s I
theorem Iq:PW X e (BR X e):=λwh UT s _ _ _ I h=>h wh UT s I
theorem M7:PG X e (my X e):=λUT s _ _ _ u _ I r h=>h UT s u I r
theorem MH {e:Stmt}:PS X e (CQ X e):=λUT s _ _ _ I h=>h UT s I
theorem i9 {e:List Stmt}:jA X e (sL X e):=λUT s _ _ _ I h=>h UT s I
theorem mf {e:OG}:PA X e (yq X e):=λpos UT s _ _ _ I h=>h pos UT s I
theorem eS {t:TE}(h:PE X e t){Q:VK}(q:t σ H Q):eZ X e σ H Q:=λUT s I=>h UT s σ H Q I q
theorem tS (h:PT X e t)(q:t σ H Q):Bn X e σ H Q:=λUT s I=>h UT s σ H Q I q
theorem wS (h:PW X e t)(q:t σ H Q):BR X e σ H Q:=λwh UT s I=>h wh UT s σ H Q I q
theorem gS {t:TG}(h:PG X e t){v:V}{Q:St->Hp->Prop}(q:t v σ H Q):my X e v σ H Q:=λUT s u I r=>h UT s σ H v u Q I r q
theorem sS {e:Stmt}{t:TS}(h:PS X e t){D:Ends}(q:t D σ H):CQ X e D σ H:=λUT s I=>h UT s σ H D I q
theorem Gy {e:List Stmt}{t:TS}(h:jA X e t){D:Ends}(q:t D σ H):sL X e D σ H:=λUT s I=>h UT s σ H D I q
theorem aS {e:OG}{t:TA}(h:PA X e t){Q:List V->Hp->Prop}(q:t σ H Q):yq X e σ H Q:=λpos UT s I=>h pos UT s σ H Q I q
theorem fS {e:OG}(h:PF X e t)(q:t σ H Q):oa X e σ H Q:=λUT s I=>h UT s σ H Q I q
end
section
variable {H R:Hp}{α:Type}
theorem av.fresh {p:Addr}(h:H p=none)(o:HO):av H (upd H p o):=λb u q=>by rw[aB (cT q h)];exact q
structure Rep (α:Type) where
 R:Uk->Hp->V->α->Prop
 mono:∀{K:Uk} {H H':Hp} {v:V} {x:α},av H H'->R K H v x->R K H' v x
def ah:Rep Int:=⟨λ_ _ v x=>v= .int x,λ_ h=>h⟩
def cU:Rep Bool:=⟨λ_ _ v x=>v= .bl x,λ_ h=>h⟩
theorem Paired.map {β:Type}{F G:α->β->Prop}(f:∀a b,F a b->G a b):∀{l:List α} {m:List β},PySem.Paired F l m->PySem.Paired G l m
 | _,_,.nil=>.nil
 | _,_,.cons h t=>.cons (f _ _ h) (Paired.map f t)
def ae (r:Rep α):Rep (List α):=⟨λK H v xs=>∃a vs,v= .ref a/\H a=some (.lst vs)/\PySem.Paired (r.R K H) vs xs/\xs.length<=RE,
 λs ⟨a,vs,e,q,p,z⟩=>⟨a,vs,e,s _ _ q,Paired.map (λ_ _=>r.mono s) p,z⟩⟩
def bp:Rep OB:=⟨λK H v xs=>∃a,v= .ref a/\aU K H a (xs.map V.int)/\xs.length<=63,λs ⟨a,e,q,z⟩=>⟨a,e,s.seq q,z⟩⟩
def eE {β:Type}(r:Rep α)(r':Rep β):Rep (α×β):=⟨λK H v x=>∃a v1 v2,v= .ref a/\H a=some (.tup [v1,v2])/\r.R K H v1 x.1/\r'.R K H v2 x.2,
 λs ⟨a,v1,v2,e,q,h1,h2⟩=>⟨a,v1,v2,e,s _ _ q,r.mono s h1,r'.mono s h2⟩⟩
abbrev Row:=Int×Int×Int×Int
def d9:Rep Row:=⟨λK H v x=>∃a,v= .ref a/\H a=some (.tup [.int x.1,.int x.2.1,.int x.2.2.1,.int x.2.2.2]),λs ⟨a,e,q⟩=>⟨a,e,s _ _ q⟩⟩
abbrev fq:=OB×List Row
def jH:Rep fq:=eE (ae ah) (ae d9)
structure Ext (H R H' R':Hp):Prop where
 h:av H H'
 r:av R R'
 s:av R' H'
 old:∀b,H b≠none->R' b=R b
theorem Ext.refl (s:av R H):Ext H R H R:=⟨av.refl _,av.refl _,s,λ_ _=>rfl⟩
theorem av.some {H':Hp}(s:av H H'){b:Addr}(h:H b≠none):H' b≠none:=by
 cases q:H b with
 | none=>exact UJ q h
 | some o=>rw[s b o q];exact Rm o
theorem Ext.trans {H1 R1 H2 R2:Hp}(a:Ext H R H1 R1)(b:Ext H1 R1 H2 R2):Ext H R H2 R2:=
 ⟨a.h.trans b.h,a.r.trans b.r,b.s,λc hc=>(b.old c (av.some a.h hc)).trans (a.old c hc)⟩
theorem Ext.fresh (s:av R H){p:Addr}(h:H p=none)(o:HO):Ext H R (upd H p o) (upd R p o):=
 ⟨av.fresh h o,av.fresh (s.free h) o,λb u q=>by
  by_cases e:b=p
  ·subst e;rw[aA] at q ⊢;exact q
  ·rw[aB e] at q ⊢;exact s b u q,λb hb=>aB λe=>hb (e▸h)⟩
theorem Ext.dJ (s:av R H){p:Addr}(h:H p=none)(o:HO):Ext H R (upd H p o) R:=
 ⟨av.fresh h o,av.refl _,s.trans (av.fresh h o),λ_ _=>rfl⟩
structure vg:Type 1 where
 fp:OE
 R:Uk->Hp->Hp->V->Prop
 loc:∀{K:Uk} {H R0 H' R':Hp} {v:V},(∀a∈fp,H' a=H a)->av R0 R'->R K H R0 v->R K H' R' v
 has:∀{K:Uk} {H R0:Hp} {v:V},R K H R0 v->∀a∈fp,H a≠none
inductive Ent:Type 1
 | no
 | im {α:Type} (r:Rep α) (x:α)
 | mu {α:Type} (r:Rep α) (xs:List α)
 | di (kvs:List (Int×V))
 | ob (B:vg)
def cz (kvs:List (Int×V)):List (Key×V):=kvs.map λp=>(Sum.inl p.1,p.2)
def Ent.ok (K:Uk)(H R:Hp):Ent->Option V->Prop
 | .no,_=>True
 | .im r x,o=>∃v,o=some v/\r.R K R v x
 | .mu r xs,o=>∃a vs,o=some (.ref a)/\H a=some (.lst vs)/\R a=none/\PySem.Paired (r.R K R) vs xs
 | .di kvs,o=>∃a,o=some (.ref a)/\H a=some (.dK (cz kvs))/\R a=none
 | .ob B,o=>(∃v,o=some v/\B.R K H R v)/\∀a∈B.fp,R a=none
def Ent.own:Ent->Bool
 | .mu .. =>true
 | .di .. =>true
 | _=>false
def refOf:Option V->OE
 | some (.ref a)=>[a]
 | _=>[]
def Ent.fp:Ent->Option V->OE
 | .mu ..,o=>refOf o
 | .di ..,o=>refOf o
 | .ob B,_=>B.fp
 | _,_=>[]
abbrev Ga:=List Ent
structure au (K:Uk) (σ:St) (H0 R0 H R:Hp) (Γ:Ga):Prop where
 ext:Ext H0 R0 H R
 ent:∀(i:Nat) (e:Ent),Γ[i]?=some e->e.ok K H R (σ[i]?).join
 nw:∀(i:Nat) (e:Ent) (a:Addr),Γ[i]?=some e->a∈e.fp (σ[i]?).join->H0 a=none
 ds:∀(i j:Nat) (e e':Ent) (a:Addr),Γ[i]?=some e->Γ[j]?=some e'->a∈e.fp (σ[i]?).join->a∈e'.fp (σ[j]?).join->i=j
 len:Γ.length=σ.length
end
section
variable {K:Uk}{σ:St}{H0 R0 H R H' R':Hp}{Γ:Ga}{α:Type}{r:Rep α}
variable {a:Addr}{o:Option V}{u:HO}{i:Nat}
theorem bV:a∈refOf o↔o=some (.ref a):=by
 unfold refOf
 split
 ·rw[O0];constructor
  ·rintro rfl;rfl
  ·intro e;cases e;rfl
 ·rename_i h
  constructor
  ·intro z;cases z
  ·intro e;exact UJ e (h a)
theorem Ent.oW {e:Ent}(w:e.own=true):a∈e.fp o↔o=some (.ref a):=by
 cases e with
 | no=>cases w
 | im r x=>cases w
 | mu r xs=>exact bV
 | di kvs=>exact bV
 | ob B=>cases w
theorem au.new (E:au K σ H0 R0 H R Γ)(i:Nat)(e:Ent)(a:Addr)(h:Γ[i]?=some e)(w:e.own=true)(ha:(σ[i]?).join=some (.ref a)):H0 a=none:=E.nw i e a h ((Ent.oW w).mpr ha)
theorem Ent.iL {e:Ent}(h:e.ok K H R o)(ha:a∈e.fp o):H a≠none/\R a=none:=by
 cases e with
 | no=>cases ha
 | im r x=>cases ha
 | mu r xs=>
   obtain⟨b,vs,e,q,n,_⟩:=h
   rw[Ent.fp,bV,e] at ha
   cases ha
   exact⟨by rw[q];exact Rm _,n⟩
 | di kvs=>
   obtain⟨b,e,q,n⟩:=h
   rw[Ent.fp,bV,e] at ha
   cases ha
   exact⟨by rw[q];exact Rm _,n⟩
 | ob B=>obtain⟨⟨v,e,q⟩,n⟩:=h;exact⟨B.has q a ha,n a ha⟩
theorem Ent.ok.loc {e:Ent}(h:e.ok K H R o)(hH:∀a∈e.fp o,H' a=H a)(hR:av R R')(hn:∀a∈e.fp o,R' a=none):e.ok K H' R' o:=by
 cases e with
 | no=>trivial
 | im r y=>obtain⟨v,e,q⟩:=h;exact⟨v,e,r.mono hR q⟩
 | mu r xs=>
   obtain⟨a,vs,e,q,n,p⟩:=h
   have ha:a∈Ent.fp (.mu r xs) o:=bV.mpr e
   exact⟨a,vs,e,(hH a ha).trans q,hn a ha,Paired.map (λ_ _=>r.mono hR) p⟩
 | di kvs=>
   obtain⟨a,e,q,n⟩:=h
   have ha:a∈Ent.fp (.di kvs) o:=bV.mpr e
   exact⟨a,e,(hH a ha).trans q,hn a ha⟩
 | ob B=>obtain⟨⟨v,e,q⟩,n⟩:=h;exact⟨⟨v,e,B.loc hH hR q⟩,hn⟩
theorem Ent.ok.grow {e:Ent}(h:e.ok K H R o)(x:Ext H R H' R'):e.ok K H' R' o:=by
 refine h.loc (λa ha=>?_) x.r (λa ha=>?_)
 ·cases q:H a with
  | none=>exact UJ q (Ent.iL h ha).1
  | some u=>exact x.h _ _ q
 ·obtain⟨h1,h2⟩:=Ent.iL h ha
  exact(x.old a h1).trans h2
theorem au.grow (E:au K σ H0 R0 H R Γ)(x:Ext H R H' R'):au K σ H0 R0 H' R' Γ:=
 ⟨E.ext.trans x,λi e h=>(E.ent i e h).grow x,E.nw,E.ds,E.len⟩
theorem au.sub (E:au K σ H0 R0 H R Γ):av R H:=E.ext.s
def Off (a:Addr)(σ:St)(Γ:Ga):Prop:=∀(i:Nat) (e:Ent),Γ[i]?=some e->a∉e.fp (σ[i]?).join
theorem au.off (E:au K σ H0 R0 H R Γ)(h:H a=none):Off a σ Γ:=λi e q w=>(Ent.iL (E.ent i e q) w).1 h
theorem set_at.{v}{β:Type v}{l:List β}{i:Nat}{y:β}{j:Nat}{e:β}(q:(l.set i y)[j]?=some e):(j=i/\e=y/\i<l.length)∨(j≠i/\l[j]?=some e):=by
 by_cases hj:j=i
 ·subst hj
  have hl:j<l.length:=by
   have:=OW.mp q
   simpa using this.1
  rw[Pc hl] at q
  exact .inl ⟨rfl,(Option.some.inj q).symm,hl⟩
 ·rw[Pq (Rk hj)] at q
  exact .inr ⟨hj,q⟩
theorem au.setG (E:au K σ H0 R0 H R Γ)(i:Nat){v:V}{en:Ent}(ho:en.ok K H R (some v))(h0:∀a∈en.fp (some v),H0 a=none)(hf:∀a∈en.fp (some v),∀(j:Nat) (e:Ent),j≠i->Γ[j]?=some e->a∉e.fp (σ[j]?).join):
 au K (σ.set i (some v)) H0 R0 H R (Γ.set i en):=by
 have key:∀(j:Nat) (e:Ent),(Γ.set i en)[j]?=some e->(j=i/\e=en/\((σ.set i (some v))[j]?).join=some v)∨(j≠i/\Γ[j]?=some e/\(σ.set i (some v))[j]?=σ[j]?):=λj e q=>by
  rcases set_at q with⟨rfl,rfl,hl⟩ | ⟨hj,q⟩
  ·exact .inl ⟨rfl,rfl,by rw[Pc (by rw[← E.len];exact hl)];rfl⟩
  ·exact .inr ⟨hj,q,Pq (Rk hj)⟩
 refine⟨E.ext,λj e q=>?_,λj e a q w=>?_,λj k e e' a q q' w w'=>?_,by rw[PN,PN];exact E.len⟩
 ·rcases key j e q with⟨_,rfl,q2⟩ | ⟨_,q1,q2⟩
  ·rw[q2];exact ho
  ·rw[q2];exact E.ent j e q1
 ·rcases key j e q with⟨_,rfl,q2⟩ | ⟨_,q1,q2⟩
  ·rw[q2] at w;exact h0 a w
  ·rw[q2] at w;exact E.nw j e a q1 w
 ·rcases key j e q with⟨hj,rfl,q2⟩ | ⟨hj,q1,q2⟩
  ·rcases key k e' q' with⟨hk,rfl,YB⟩ | ⟨hk,Ws,YB⟩
   ·rw[hj,hk]
   ·rw[q2] at w;rw[YB] at w';exact UJ w' (hf a w k e' hk Ws)
  ·rcases key k e' q' with⟨hk,rfl,YB⟩ | ⟨hk,Ws,YB⟩
   ·rw[q2] at w;rw[YB] at w';exact UJ w (hf a w' j e hj q1)
   ·rw[q2] at w;rw[YB] at w';exact E.ds j k e e' a q1 Ws w w'
theorem au.set (E:au K σ H0 R0 H R Γ)(i:Nat){v:V}{x:α}(h:r.R K R v x):au K (σ.set i (some v)) H0 R0 H R (Γ.set i (.im r x)):=
 E.setG i ⟨v,rfl,h⟩ (λa w=>by cases w) λa w=>by cases w
theorem au.yo (E:au K σ H0 R0 H R Γ)(i:Nat){u:HO}{en:Ent}(ho:en.ok K H R (some (.ref a)))(h0:H0 a=none)(hf:∀(j:Nat) (e:Ent),j≠i->Γ[j]?=some e->a∉e.fp (σ[j]?).join)(hfp:en.fp (some (.ref a))=[a]:=by rfl):
 au K (σ.set i (some (.ref a))) H0 R0 H R (Γ.set i en):=
 E.setG i ho (λb w=>by rw[hfp,O0] at w;rw[w];exact h0) λb w=>by rw[hfp,O0] at w;rw[w];exact hf
theorem au.mS (E:au K σ H0 R0 H R Γ){e0 en:Ent}(hi:Γ[i]?=some e0)(ha:a∈e0.fp (σ[i]?).join)(ho:en.ok K (L2.upd H a u) R (σ[i]?).join)
 (Vr:∀b∈en.fp (σ[i]?).join,b∈e0.fp (σ[i]?).join∨(H0 b=none/\Off b σ Γ)):au K σ H0 R0 (L2.upd H a u) R (Γ.set i en):=by
 have h0:H0 a=none:=E.nw i e0 a hi ha
 have hR:R a=none:=(Ent.iL (E.ent i e0 hi) ha).2
 refine⟨⟨λb o q=>?_,E.ext.r,λb o q=>?_,E.ext.old⟩,λj e q=>?_,λj e b q w=>?_,λj k e e' b q q' w w'=>?_,by rw[PN];exact E.len⟩
 ·rw[aB (cT q h0)];exact E.ext.h b o q
 ·rw[aB (cT q hR)];exact E.ext.s b o q
 ·rcases set_at q with⟨rfl,rfl,_⟩ | ⟨hj,q1⟩
  ·exact ho
  ·refine(E.ent j e q1).loc (λb hb=>aB λz=>hj ?_) (av.refl _) λb hb=>(Ent.iL (E.ent j e q1) hb).2
   rw[z] at hb
   exact E.ds j i e e0 a q1 hi hb ha
 ·rcases set_at q with⟨rfl,rfl,_⟩ | ⟨hj,q1⟩
  ·rcases Vr b w with z | z
   ·exact E.nw _ _ b hi z
   ·exact z.1
  ·exact E.nw j e b q1 w
 ·rcases set_at q with⟨rfl,rfl,_⟩ | ⟨hj,q1⟩
  ·rcases set_at q' with⟨rfl,rfl,_⟩ | ⟨hk,Ws⟩
   ·rfl
   ·rcases Vr b w with z | z
    ·exact E.ds _ _ _ _ b hi Ws z w'
    ·exact UJ w' (z.2 k e' Ws)
  ·rcases set_at q' with⟨rfl,rfl,_⟩ | ⟨hk,Ws⟩
   ·rcases Vr b w' with z | z
    ·exact E.ds _ _ _ _ b q1 hi w z
    ·exact UJ w (z.2 j e q1)
   ·exact E.ds _ _ _ _ b q1 Ws w w'
theorem au.upd (E:au K σ H0 R0 H R Γ){e0 en:Ent}(hi:Γ[i]?=some e0)(w0:e0.own=true)(ha:(σ[i]?).join=some (.ref a))(hR:R a=none)(ho:en.ok K (L2.upd H a u) R (some (.ref a)))(hfp:en.fp (some (.ref a))=[a]:=by rfl):
 au K σ H0 R0 (L2.upd H a u) R (Γ.set i en):=
 E.mS hi ((Ent.oW w0).mpr ha) (by rw[ha];exact ho) λb w=>.inl (by rw[ha,hfp,O0] at w;rw[w];exact(Ent.oW w0).mpr ha)
theorem au.sy (E:au K σ H0 R0 H R Γ)(ha:H a=some u)(hR:R a=none)(h0:H0 a=none)(off:Off a σ Γ):au K σ H0 R0 H (L2.upd R a u) Γ:=by
 have s2:av R (L2.upd R a u):=av.fresh hR _
 refine⟨⟨E.ext.h,E.ext.r.trans s2,λb o qb=>?_,λb hb=>?_⟩,λi e qe=>?_,E.nw,E.ds,E.len⟩
 ·by_cases hb:b=a
  ·subst hb;rw[aA] at qb;cases qb;exact ha
  ·rw[aB hb] at qb;exact E.ext.s b o qb
 ·rw[aB (show b≠a from λe=>hb (by rw[e];exact h0))];exact E.ext.old b hb
 ·refine(E.ent i e qe).loc (λ_ _=>rfl) s2 λb hb=>?_
  rw[aB (show b≠a from λz=>off i e qe (z▸hb))]
  exact(Ent.iL (E.ent i e qe) hb).2
theorem au.tell (E:au K σ H0 R0 H R Γ){e0 en:Ent}(hi:Γ[i]?=some e0)(ho:en.ok K H R (σ[i]?).join)(Vr:∀b∈en.fp (σ[i]?).join,b∈e0.fp (σ[i]?).join):au K σ H0 R0 H R (Γ.set i en):=by
 refine⟨E.ext,λj e q=>?_,λj e b q w=>?_,λj k e e' b q q' w w'=>?_,by rw[PN];exact E.len⟩
 ·rcases set_at q with⟨rfl,rfl,_⟩ | ⟨hj,q1⟩
  ·exact ho
  ·exact E.ent j e q1
 ·rcases set_at q with⟨rfl,rfl,_⟩ | ⟨hj,q1⟩
  ·exact E.nw _ _ b hi (Vr b w)
  ·exact E.nw j e b q1 w
 ·rcases set_at q with⟨rfl,rfl,_⟩ | ⟨hj,q1⟩
  ·rcases set_at q' with⟨rfl,rfl,_⟩ | ⟨hk,Ws⟩
   ·rfl
   ·exact E.ds _ _ _ _ b hi Ws (Vr b w) w'
  ·rcases set_at q' with⟨rfl,rfl,_⟩ | ⟨hk,Ws⟩
   ·exact E.ds _ _ _ _ b q1 hi w (Vr b w')
   ·exact E.ds _ _ _ _ b q1 Ws w w'
def Wk:Ga->Ga->Prop
 | [],[]=>True
 | e::r,e'::r'=>(e'=e∨e'= .no)/\Wk r r'
 | _,_=>False
theorem Wk.len:∀{Γ Γ':Ga},Wk Γ Γ'->Γ'.length=Γ.length
 | [],[],_=>rfl
 | _::_,_::_,h=>by rw[O8,O8,Wk.len h.2]
theorem Wk.at:∀{Γ Γ':Ga},Wk Γ Γ'->∀(i:Nat) (e:Ent),Γ'[i]?=some e->e= .no∨Γ[i]?=some e
 | [],[],_,i,e,q=>by simp at q
 | a::_,b::_,h,0,e,q=>by
   simp at q
   rcases h.1 with z | z
   ·right;simp[← q,z]
   ·left;rw[← q,z]
 | a::r,b::r',h,i+1,e,q=>by
   simp at q
   have:=Wk.at h.2 i e q
   simpa using this
theorem Wk.refl:∀Γ:Ga,Wk Γ Γ
 | []=>trivial
 | _::r=>⟨.inl rfl,Wk.refl r⟩
theorem au.weak (E:au K σ H0 R0 H R Γ){Γ':Ga}(w:Wk Γ Γ'):au K σ H0 R0 H R Γ':=by
 refine⟨E.ext,λi e q=>?_,λi e a q z=>?_,λi j e e' a q q' z z'=>?_,w.len.trans E.len⟩
 ·rcases w.at i e q with rfl | q
  ·trivial
  ·exact E.ent i e q
 ·rcases w.at i e q with rfl | q
  ·cases z
  ·exact E.nw i e a q z
 ·rcases w.at i e q with rfl | q
  ·cases z
  ·rcases w.at j e' q' with rfl | q'
   ·cases z'
   ·exact E.ds i j e e' a q q' z z'
end
section
variable {X:Cx}{Γ Γ1 Γ2 Γ3:Ga}{α β γ:Type}
variable {pos:Pos}{r:Rep α}
def EV (X:Cx)(e:Expr)(Γ:Ga){α:Type}(r:Rep α)(y:α)(Γ':Ga):Prop:=
 ∀(σ:St) (H0 R0 H R:Hp),au X.K σ H0 R0 H R Γ->∀Q:VK,(∀v H' R',au X.K σ H0 R0 H' R' Γ'->av R R'->r.R X.K R' v y->Q v H')->eZ X e σ H Q
def aZ (X:Cx)(e:Expr)(Γ:Ga){α:Type}(r:Rep α)(ys:List α)(Γ':Ga):Prop:=
 ∀(σ:St) (H0 R0 H R:Hp),au X.K σ H0 R0 H R Γ->∀Q:VK,(∀a vs H' R',au X.K σ H0 R0 H' R' Γ'->av R R'->H' a=some (.lst vs)->R' a=none->H0 a=none->Off a σ Γ'->PySem.Paired (r.R X.K R') vs ys->ys.length<=RE->Q (.ref a) H')->eZ X e σ H Q
def TV (X:Cx)(e:Expr)(Γ:Ga)(b:Bool)(Γ':Ga):Prop:=
 ∀(σ:St) (H0 R0 H R:Hp),au X.K σ H0 R0 H R Γ->∀Q:Bool->Hp->Prop,(∀H' R',au X.K σ H0 R0 H' R' Γ'->av R R'->Q b H')->Bn X e σ H Q
def TW (X:Cx)(e:Expr)(Γ:Ga)(b:Bool)(Γ':Ga):Prop:=
 ∀(σ:St) (H0 R0 H R:Hp),au X.K σ H0 R0 H R Γ->∀Q:Bool->Hp->Prop,(∀H' R',au X.K σ H0 R0 H' R' Γ'->av R R'->Q b H')->BR X e σ H Q
def TF (X:Cx)(es:OG)(Γ:Ga)(b:Bool)(Γ':Ga):Prop:=
 ∀(σ:St) (H0 R0 H R:Hp),au X.K σ H0 R0 H R Γ->∀Q:Bool->Hp->Prop,(∀H' R',au X.K σ H0 R0 H' R' Γ'->av R R'->Q b H')->oa X es σ H Q
def BG (X:Cx)(tg:Expr){α:Type}(r:Rep α)(bf:α->Ga->Ga):Prop:=
 ∀(σ:St) (H0 R0 H R:Hp) (Γ:Ga) (v:V) (x:α),au X.K σ H0 R0 H R Γ->r.R X.K R v x->∀Q:St->Hp->Prop,(∀σ',au X.K σ' H0 R0 H R (bf x Γ)->Q σ' H)->my X tg v σ H Q
abbrev RT:=Hp->V->Hp->Hp->Prop
def WS (X:Cx)(WQ:List Stmt)(Γ:Ga)(N:Ga->Prop)(T:RT):Prop:=
 ∀(σ:St) (H0 R0 H R:Hp),au X.K σ H0 R0 H R Γ->∀D:Ends,(∀σ' H' R' Γ',au X.K σ' H0 R0 H' R' Γ'->av R R'->N Γ'->D.nx σ' H')->(∀v H' R',Ext H0 R0 H' R'->T H0 v H' R'->D.rt v H')->sL X WQ D σ H
def W1 (X:Cx)(st:Stmt)(Γ:Ga)(N:Ga->Prop)(T:RT):Prop:=
 ∀(σ:St) (H0 R0 H R:Hp),au X.K σ H0 R0 H R Γ->∀D:Ends,(∀σ' H' R' Γ',au X.K σ' H0 R0 H' R' Γ'->av R R'->N Γ'->D.nx σ' H')->(∀v H' R',Ext H0 R0 H' R'->T H0 v H' R'->D.rt v H')->CQ X st D σ H
def bU (K:Uk){β:Type}(r:Rep β)(P:β->Prop):RT:=λ_ v _ R'=>∃y,r.R K R' v y/\P y
def Aq (K:Uk){β:Type}(r:Rep β)(P:List β->Prop):RT:=λH0 v H' R'=>∃a vs ys,v= .ref a/\H0 a=none/\H' a=some (.lst vs)/\R' a=none/\PySem.Paired (r.R K R') vs ys/\ys.length<=RE/\P ys
theorem aZ.im {e:Expr}{ys:List α}(h:aZ X e Γ r ys Γ1):EV X e Γ (ae r) ys Γ1:=by
 intro σ H0 R0 H R E Q q
 refine h σ H0 R0 H R E Q λa vs H' R' E' s1 ha hR h0 off p z=>?_
 have s2:av R' (upd R' a (.lst vs)):=av.fresh hR _
 exact q (.ref a) H' (upd R' a (.lst vs)) (E'.sy ha hR h0 off) (s1.trans s2) ⟨a,vs,rfl,aA,Paired.map (λ_ _=>r.mono s2) p,z⟩
theorem EV.cast {e:Expr}{y y':α}(h:EV X e Γ r y Γ1)(e1:y=y'):EV X e Γ r y' Γ1:=e1▸h
theorem aa (i:Nat){x:Str}{y:α}(hΓ:Γ[i]?=some (.im r y))(hN:X.N[i]?=some x:=by rfl)(hv:autoParam (cC X.env.scope x) Vo)
 (hd:Vd x:=by decide) (U0:Vp x:=by decide):EV X (.Name x pos) Γ r y Γ:=by
 intro σ H0 R0 H R E Q q
 obtain⟨v,e,h⟩:=E.ent i _ hΓ
 refine eS (bb hN hv hd U0) ⟨v,?_,q v H R E (av.refl _) h⟩
 cases es:σ[i]? with
 | none=>rw[es] at e;cases e
 | some o=>rw[es] at e;exact congrArg some e
theorem ev_int {i:Int}{j:Nat}:EV X (.Constant (.int i) j pos) Γ ah i Γ:=λ_ _ _ _ _ E _ q=>eS AL (q _ _ _ E (av.refl _) rfl)
theorem nt {b:Bool}{j:Nat}:EV X (.Constant (.bool b) j pos) Γ cU b Γ:=λ_ _ _ _ _ E _ q=>eS xR (q _ _ _ E (av.refl _) rfl)
theorem eG {x:Str}{n:Int}{t:Tok}(hm:X.mg x=some (.int n t))(hg:Gl X x:=by rfl)(hd:Vd x:=by decide):EV X (.Name x pos) Γ ah n Γ:=
 λ_ _ _ _ _ E _ q=>eS (iK (v:=.int n) hg hm ⟨t,rfl⟩ hd) (q (.int n) _ _ E (av.refl _) rfl)
theorem je {op:Operator}{r2:R2}{a b:Expr}{ra:Rep α}{rb:Rep β}{rc:Rep γ}{x:α}{y:β}{z:γ}(ho:dQ X (Sk op) r2)(ha:EV X a Γ ra x Γ1)(hb:EV X b Γ1 rb y Γ2)
 (hz:∀(R:Hp) v u H Q,ra.R X.K R v x->rb.R X.K R u y->(∀w,rc.R X.K R w z->Q w H)->r2 v u H Q):EV X (.BinOp a op b pos) Γ rc z Γ2:=by
 intro σ H0 R0 H R E Q q
 refine eS (DV ho aL aL) (ha σ H0 R0 H R E _ λv H1 R1 E1 s1 e1=>hb σ H0 R0 H1 R1 E1 _ λu H2 R2 E2 s2 e2=>?_)
 exact hz R2 v u H2 _ (ra.mono s2 e1) e2 λw hw=>q w H2 R2 E2 (s1.trans s2) hw
section
variable {a b c:Expr}{pos:Pos}{x y z:Int}
theorem cv (ha:EV X a Γ ah x Γ1)(hb:EV X b Γ1 ah y Γ2):EV X (.BinOp a .Add b pos) Γ ah (x+y) Γ2:=je JP ha hb λR v u H Q e1 e2 q=>⟨x,y,e1,e2,q _ rfl⟩
theorem gm (ha:EV X a Γ ah x Γ1)(hb:EV X b Γ1 ah y Γ2):EV X (.BinOp a .Sub b pos) Γ ah (x-y) Γ2:=je Jg ha hb λR v u H Q e1 e2 q=>⟨x,y,e1,e2,q _ rfl⟩
theorem IQ (ha:EV X a Γ ah x Γ1)(hb:EV X b Γ1 ah y Γ2)(h:yu x y):EV X (.BinOp a .Mult b pos) Γ ah (x*y) Γ2:=je Hz ha hb λR v u H Q e1 e2 q=>⟨x,y,e1,e2,h,q _ rfl⟩
theorem cI (ha:EV X a Γ ah x Γ1)(hb:EV X b Γ1 ah y Γ2)(h:0<y):EV X (.BinOp a .Mod b pos) Γ ah (x%y) Γ2:=je G9 ha hb λR v u H Q e1 e2 q=>⟨x,y,e1,e2,h,q _ rfl⟩
theorem kK (ha:EV X a Γ ah x Γ1)(hb:EV X b Γ1 ah y Γ2)(h:J6 x y):EV X (.BinOp a .FloorDiv b pos) Γ ah (x/y) Γ2:=je Gh ha hb λR v u H Q e1 e2 q=>⟨x,y,e1,e2,h,q _ rfl⟩
theorem uI (ha:EV X a Γ ah x Γ1)(hb:EV X b Γ1 ah y Γ2)(h:IF x y):EV X (.BinOp a .Pow b pos) Γ ah (x ^ y.toNat) Γ2:=je G6 ha hb λR v u H Q e1 e2 q=>⟨x,y,e1,e2,h,q _ rfl⟩
theorem gO (ha:EV X a Γ ah x Γ1):EV X (.UnaryOp .USub a pos) Γ ah (-x) Γ1:=by
 intro σ H0 R0 H R E Q q
 exact eS (KU J4 aL) (ha σ H0 R0 H R E _ λv H1 R1 E1 s1 e1=>⟨x,e1,q _ H1 R1 E1 s1 rfl⟩)
end
structure gJ (X:Cx) (op:CmpOp) {α β:Type} (ra:Rep α) (rb:Rep β) (x:α) (y:β) (k:Bool):Prop where
 r2:∃r,dQ X (RR op) r/\∀(R H:Hp) v u Q,av R H->ra.R X.K R v x->rb.R X.K R u y->Q (.bl k) H->r v u H Q
theorem jI {op:CmpOp}{a b:Expr}{pos:Pos}{ra:Rep α}{rb:Rep β}{x:α}{y:β}{k:Bool}(c:gJ X op ra rb x y k)(ha:EV X a Γ ra x Γ1)(hb:EV X b Γ1 rb y Γ2)(hm:Sh op b=false:=by first | exact uz _ | with_unfolding_all rfl):
 EV X (.Compare a [op] [b] pos) Γ cU k Γ2:=by
 obtain⟨r,ho,hr⟩:=c.r2
 intro σ H0 R0 H R E Q q
 refine eS (ER ho aL aL hm) (ha σ H0 R0 H R E _ λv H1 R1 E1 s1 e1=>hb σ H0 R0 H1 R1 E1 _ λu H2 R2 E2 s2 e2=>?_)
 exact hr R2 H2 v u _ E2.sub (ra.mono s2 e1) e2 (q _ H2 R2 E2 (s1.trans s2) rfl)
theorem aD {op:CmpOp}{a b:Expr}{pos:Pos}{ra:Rep α}{rb:Rep β}{x:α}{y:β}{k:Bool}(c:gJ X op ra rb x y k)(ha:EV X a Γ ra x Γ1)(hb:EV X b Γ1 rb y Γ2)(hm:Sh op b=false:=by first | exact uz _ | with_unfolding_all rfl):
 TV X (.Compare a [op] [b] pos) Γ k Γ2:=by
 obtain⟨r,ho,hr⟩:=c.r2
 intro σ H0 R0 H R E Q q
 refine tS (E9 ho aL aL hm) (ha σ H0 R0 H R E _ λv H1 R1 E1 s1 e1=>hb σ H0 R0 H1 R1 E1 _ λu H2 R2 E2 s2 e2=>?_)
 exact hr R2 H2 v u _ E2.sub (ra.mono s2 e1) e2 ⟨k,rfl,q H2 R2 E2 (s1.trans s2)⟩
section
variable {x y:Int}
theorem lZ:gJ X .Lt ah ah x y (decide (x<y)):=⟨_,L7,λR H v u Q _ e1 e2 q=>⟨x,y,e1,e2,q⟩⟩
theorem vz:gJ X .LtE ah ah x y (decide (x<=y)):=⟨_,L3,λR H v u Q _ e1 e2 q=>⟨x,y,e1,e2,q⟩⟩
theorem ir:gJ X .Gt ah ah x y (decide (y<x)):=⟨_,Mr,λR H v u Q _ e1 e2 q=>⟨x,y,e1,e2,q⟩⟩
theorem NY:gJ X .GtE ah ah x y (decide (y<=x)):=⟨_,K6,λR H v u Q _ e1 e2 q=>⟨x,y,e1,e2,q⟩⟩
theorem iG:gJ X .Eq ah ah x y (decide (x=y)):=⟨_,DS,λR H v u Q _ e1 e2 q=>by
 cases e1;cases e2
 exact⟨rfl,by rw[show decide (V.int x=V.int y)=decide (x=y) by rw[nA];exact Bool.beq_eq_decide_eq x y];exact q⟩⟩
theorem Oj:gJ X .NotEq ah ah x y (!decide (x=y)):=⟨_,Di,λR H v u Q _ e1 e2 q=>by
 cases e1;cases e2
 exact⟨rfl,by rw[show decide (V.int x=V.int y)=decide (x=y) by rw[nA];exact Bool.beq_eq_decide_eq x y];exact q⟩⟩
end
variable {a:Expr}{pos:Pos}{x:Bool}{b c:Expr}{y:Bool}{rest:OG}
theorem oI {op Wx:CmpOp}{ra:Rep α}{rb:Rep β}{rc:Rep γ}{x:α}{y:β}{z:γ}{k k':Bool}(c1:gJ X op ra rb x y k)(c2:gJ X Wx rb rc y z k')(ha:EV X a Γ ra x Γ)(hb:EV X b Γ rb y Γ)(hc:EV X c Γ rc z Γ)
 (hm:lastMarks [op,Wx] [b,c]=false:=by with_unfolding_all rfl):EV X (.Compare a [op,Wx] [b,c] pos) Γ cU (k&&k') Γ:=by
 obtain⟨r,ho,hr⟩:=c1.r2
 obtain⟨r',Wc,WM⟩:=c2.r2
 intro σ H0 R0 H R E Q q
 refine eS (Cw ho Wc aL aL aL hm) (ha σ H0 R0 H R E _ λv H1 R1 E1 s1 e1=>hb σ H0 R0 H1 R1 E1 _ λu H2 R2 E2 s2 e2=>?_)
 refine hr R2 H2 v u _ E2.sub (ra.mono s2 e1) e2 ⟨k,rfl,?_⟩
 cases k with
 | false=>exact mG (q _ H2 R2 E2 (s1.trans s2) rfl)
 | true=>exact mT (hc σ H0 R0 H2 R2 E2 _ λw H3 R3 E3 s3 e3=>WM R3 H3 u w _ E3.sub (rb.mono s3 e2) e3 (q _ H3 R3 E3 (s1.trans (s2.trans s3)) rfl))
theorem B0 {op Wx:CmpOp}{ra:Rep α}{rb:Rep β}{rc:Rep γ}{x:α}{y:β}{z:γ}{k k':Bool}(c1:gJ X op ra rb x y k)(c2:gJ X Wx rb rc y z k')(ha:EV X a Γ ra x Γ)(hb:EV X b Γ rb y Γ)(hc:EV X c Γ rc z Γ)
 (hm:lastMarks [op,Wx] [b,c]=false:=by with_unfolding_all rfl):TV X (.Compare a [op,Wx] [b,c] pos) Γ (k&&k') Γ:=by
 obtain⟨r,ho,hr⟩:=c1.r2
 obtain⟨r',Wc,WM⟩:=c2.r2
 intro σ H0 R0 H R E Q q
 refine tS (BV ho Wc aL aL aL hm) (ha σ H0 R0 H R E _ λv H1 R1 E1 s1 e1=>hb σ H0 R0 H1 R1 E1 _ λu H2 R2 E2 s2 e2=>?_)
 refine hr R2 H2 v u _ E2.sub (ra.mono s2 e1) e2 ⟨k,rfl,?_⟩
 cases k with
 | false=>exact mG ⟨false,rfl,q H2 R2 E2 (s1.trans s2)⟩
 | true=>exact mT (hc σ H0 R0 H2 R2 E2 _ λw H3 R3 E3 s3 e3=>WM R3 H3 u w _ E3.sub (rb.mono s3 e2) e3 ⟨k',rfl,q H3 R3 E3 (s1.trans (s2.trans s3))⟩)
theorem yX {op:BoolOp}{r:Rep α}{x:α}(h:EV X a Γ r x Γ1):EV X (.BoolOp op [a] pos) Γ r x Γ1:=λσ H0 R0 H R E Q q=>eS (GW aL) (h σ H0 R0 H R E Q q)
theorem y6 (ha:EV X a Γ cU x Γ)(hb:x=true->EV X (.BoolOp .And (b::rest) pos) Γ cU y Γ):EV X (.BoolOp .And (a::b::rest) pos) Γ cU (x&&y) Γ:=by
 intro σ H0 R0 H R E Q q
 refine eS (Hk aL aL) (ha σ H0 R0 H R E _ λv H1 R1 E1 s1 e1=>⟨x,e1,?_⟩)
 cases x with
 | false=>exact mG (q _ H1 R1 E1 s1 rfl)
 | true=>exact mT (hb rfl σ H0 R0 H1 R1 E1 _ λw H3 R3 E3 s3 e3=>q w H3 R3 E3 (s1.trans s3) e3)
theorem Aj (ha:EV X a Γ cU x Γ1):EV X (.UnaryOp .Not a pos) Γ cU (!x) Γ1:=by
 intro σ H0 R0 H R E Q q
 exact eS (HU aL) (ha σ H0 R0 H R E _ λv H1 R1 E1 s1 e1=>⟨x,e1,q _ H1 R1 E1 s1 rfl⟩)
theorem hJ (ha:TV X a Γ x Γ1):TV X (.UnaryOp .Not a pos) Γ (!x) Γ1:=by
 intro σ H0 R0 H R E Q q
 exact tS (Km pC) (ha σ H0 R0 H R E _ λH1 R1 E1 s1=>q H1 R1 E1 s1)
theorem TW.tv {e:Expr}{b:Bool}(h:TW X e Γ b Γ1):TV X e Γ b Γ1:=λσ H0 R0 H R E Q q=>tS (Iq.pt) (h σ H0 R0 H R E Q q)
theorem ee (ha:TV X a Γ x Γ1):TW X (.BoolOp .And [a] pos) Γ x Γ1:=λσ H0 R0 H R E Q q=>wS (Fl pC) (ha σ H0 R0 H R E Q q)
theorem kL (ha:TV X a Γ x Γ1):TW X (.BoolOp .Or [a] pos) Γ x Γ1:=λσ H0 R0 H R E Q q=>wS (IC pC) (ha σ H0 R0 H R E Q q)
theorem c6 (ha:TV X a Γ x Γ)(hb:x=true->TW X (.BoolOp .And (b::rest) pos) Γ y Γ):TW X (.BoolOp .And (a::b::rest) pos) Γ (x&&y) Γ:=by
 intro σ H0 R0 H R E Q q
 refine wS (Hi pC Iq) (ha σ H0 R0 H R E _ λH1 R1 E1 s1=>?_)
 cases x with
 | false=>exact mG (q H1 R1 E1 s1)
 | true=>exact mT (hb rfl σ H0 R0 H1 R1 E1 _ λH3 R3 E3 s3=>q H3 R3 E3 (s1.trans s3))
theorem lF (ha:TV X a Γ x Γ)(hb:x=false->TW X (.BoolOp .Or (b::rest) pos) Γ y Γ):TW X (.BoolOp .Or (a::b::rest) pos) Γ (x ||y) Γ:=by
 intro σ H0 R0 H R E Q q
 refine wS (LA pC Iq) (ha σ H0 R0 H R E _ λH1 R1 E1 s1=>?_)
 cases x with
 | true=>exact mT (q H1 R1 E1 s1)
 | false=>exact mG (hb rfl σ H0 R0 H1 R1 E1 _ λH3 R3 E3 s3=>q H3 R3 E3 (s1.trans s3))
theorem eL {k:Bool}(ha:EV X a Γ cU k Γ1)(he:∀whole,Su a X.env whole=(do let v ← whole;SM a.pos;Si [v] (truthy v)):=by intro _;rfl):TV X a Γ k Γ1:=by
 intro σ H0 R0 H R E Q q
 exact tS (Gp aL he) (ha σ H0 R0 H R E _ λv H1 R1 E1 s1 e1=>⟨k,e1,q H1 R1 E1 s1⟩)
theorem dE:TF X [] Γ true Γ:=λσ H0 R0 H R E Q q=>fS Hx (q H R E (av.refl _))
theorem hX {b:Bool}(h:TV X c Γ b Γ1):TF X [c] Γ b Γ1:=λσ H0 R0 H R E Q q=>fS (II pC) (h σ H0 R0 H R E Q q)
theorem kj {k:Bool}{r:Rep α}{x y:α}(hc:TV X c Γ k Γ1)(ha:k=true->EV X a Γ1 r x Γ2)(hb:k=false->EV X b Γ1 r y Γ2):EV X (.IfExp c a b pos) Γ r (if k then x else y) Γ2:=by
 intro σ H0 R0 H R E Q q
 refine eS (Bi pC aL aL) (hc σ H0 R0 H R E _ λH1 R1 E1 s1=>?_)
 cases k with
 | true=>exact mT (ha rfl σ H0 R0 H1 R1 E1 _ λv H3 R3 E3 s3 e3=>q v H3 R3 E3 (s1.trans s3) e3)
 | false=>exact mG (hb rfl σ H0 R0 H1 R1 E1 _ λv H3 R3 E3 s3 e3=>q v H3 R3 E3 (s1.trans s3) e3)
end
section
variable {X:Cx}{Γ Γ1 Γ2 Γ3:Ga}{α β γ δ:Type}
variable {r:Rep α}{pos:Pos}{i:Int}{b:Expr}{es:OG}{x:α}{a:Expr}{xs:List α}
structure Pk:Type 1 where
 {α:Type}
 r:Rep α
 x:α
inductive j4 (K:Uk) (R:Hp):List V->List Pk->Prop
 | nil:j4 K R [] []
 | cons {v:V} {vs:List V} {p:Pk} {ps:List Pk}:p.r.R K R v p.x->j4 K R vs ps->j4 K R (v::vs) (p::ps)
def HA (X:Cx)(es:OG)(Γ:Ga)(ps:List Pk)(Γ':Ga):Prop:=
 ∀(σ:St) (H0 R0 H R:Hp),au X.K σ H0 R0 H R Γ->∀Q:List V->Hp->Prop,(∀vs H' R',au X.K σ H0 R0 H' R' Γ'->av R R'->j4 X.K R' vs ps->Q vs H')->yq X es σ H Q
theorem aw:HA X [] Γ [] Γ:=λσ H0 R0 H R E Q q=>aS bB (q [] H R E (av.refl _) .nil)
theorem aj {e:Expr}{ps:List Pk}(he:EV X e Γ r x Γ1)(hr:HA X es Γ1 ps Γ2)(hs:RC (e::es) X.env=(false,eval e X.env)::RC es X.env:=by rfl):HA X (e::es) Γ (⟨r,x⟩::ps) Γ2:=by
 intro σ H0 R0 H R E Q q
 refine aS (aM aL mf hs) (he σ H0 R0 H R E _ λv H1 R1 E1 s1 e1=>hr σ H0 R0 H1 R1 E1 _ λvs H2 R2 E2 s2 e2=>?_)
 exact q (v::vs) H2 R2 E2 (s1.trans s2) (.cons (r.mono s2 e1) e2)
def EA (X:Cx)(es:OG)(Γ:Ga){α:Type}(r:Rep α)(ys:List α)(Γ':Ga):Prop:=
 ∀(σ:St) (H0 R0 H R:Hp),au X.K σ H0 R0 H R Γ->∀Q:List V->Hp->Prop,(∀vs H' R',au X.K σ H0 R0 H' R' Γ'->av R R'->PySem.Paired (r.R X.K R') vs ys->Q vs H')->yq X es σ H Q
theorem aR:EA X [] Γ r [] Γ:=λσ H0 R0 H R E Q q=>aS bB (q [] H R E (av.refl _) .nil)
theorem ax {e:Expr}{ys:List α}(he:EV X e Γ r x Γ1)(hr:EA X es Γ1 r ys Γ2)(hs:RC (e::es) X.env=(false,eval e X.env)::RC es X.env:=by rfl):EA X (e::es) Γ r (x::ys) Γ2:=by
 intro σ H0 R0 H R E Q q
 refine aS (aM aL mf hs) (he σ H0 R0 H R E _ λv H1 R1 E1 s1 e1=>hr σ H0 R0 H1 R1 E1 _ λvs H2 R2 E2 s2 e2=>?_)
 exact q (v::vs) H2 R2 E2 (s1.trans s2) (.cons (r.mono s2 e1) e2)
theorem aV {ys:List α}(h:EA X es Γ r ys Γ1)(hz:ys.length<=RE):aZ X (.List es pos) Γ r ys Γ1:=by
 intro σ H0 R0 H R E Q q
 refine eS (t8 mf) (h σ H0 R0 H R E _ λvs H1 R1 E1 s1 p1=>⟨by rw[p1.length];exact hz,λp hp=>?_⟩)
 exact q p vs _ R1 (E1.grow (Ext.dJ E1.sub hp _)) s1 aA (E1.sub.free hp) (E1.ext.h.free hp) (E1.off hp) p1 hz
theorem qY {k:Nat}{r':Rep β}{y:β}(h:HA X [a,b] Γ [⟨r,x⟩,⟨r',y⟩] Γ1):EV X (.Tuple [a,b] k pos) Γ (eE r r') (x,y) Γ1:=by
 intro σ H0 R0 H R E Q q
 refine eS (vx mf) (h σ H0 R0 H R E _ λvs H1 R1 E1 s1 p1=>?_)
 obtain⟨h1,h2⟩:∃v1 v2,vs=[v1,v2]/\r.R X.K R1 v1 x/\r'.R X.K R1 v2 y:=by
  cases p1 with
  | cons a1 t=>cases t with
    | cons a2 t2=>cases t2;exact⟨_,_,rfl,a1,a2⟩
 obtain⟨v2,rfl,e1,e2⟩:=h2
 refine⟨by show 2<=RE;decide,λp hp=>?_⟩
 have s2:av R1 (upd R1 p (.tup [h1,v2])):=av.fresh (E1.sub.free hp) _
 exact q _ _ (upd R1 p (.tup [h1,v2])) (E1.grow (Ext.fresh E1.sub hp _)) (s1.trans s2) ⟨p,_,_,rfl,aA,r.mono s2 e1,r'.mono s2 e2⟩
theorem dm {F:α->β->Prop}:∀{vs:List α} {xs:List β},PySem.Paired F vs xs->∀{i:Nat} {y:β},xs[i]?=some y->∃v,vs[i]?=some v/\F v y
 | _,_,.nil,i,y,h=>by simp at h
 | _,_,.cons h t,0,y,e=>by simp at e;subst e;exact⟨_,rfl,h⟩
 | _,_,.cons h t,i+1,y,e=>by
   obtain⟨v,e1,e2⟩:=dm t (i:=i) (y:=y) (by simpa using e)
   exact⟨v,by simpa using e1,e2⟩
theorem gZ {F:α->β->Prop}{vs:List α}{xs:List β}(p:PySem.Paired F vs xs){y:β}(h:cy xs i=some y):∃v,cy vs i=some v/\F v y:=by
 unfold cy at h ⊢
 rw[p.length]
 cases e:fg xs.length i with
 | none=>rw[e] at h;cases h
 | some j=>rw[e] at h;exact dm p h
theorem pQ (h0:0<=i)(h1:i<xs.length):cy xs i=xs[i.toNat]?:=by
 have e:i=((i.toNat:Nat):Int):=by omega
 have hl:i.toNat<xs.length:=by omega
 have q:cy xs ((i.toNat:Nat):Int)=some xs[i.toNat]:=FK (OX hl)
 rw[← e] at q
 rw[q,OX hl]
theorem bo {y:α}(ha:EV X a Γ (ae r) xs Γ1)(hb:EV X b Γ1 ah i Γ2)(h:cy xs i=some y)(hs:eK b:=by exact λ_ _=>rfl):EV X (.Subscript a b pos) Γ r y Γ2:=by
 intro σ H0 R0 H R E Q q
 refine eS (iM ig aL aL hs) (ha σ H0 R0 H R E _ λv H1 R1 E1 s1 e1=>hb σ H0 R0 H1 R1 E1 _ λu H2 R2 E2 s2 e2=>?_)
 obtain⟨p,vs,rfl,ha,pp,z⟩:=(ae r).mono s2 e1
 obtain⟨w,e3,e4⟩:=gZ pp h
 exact⟨p,vs,i,w,rfl,e2,aU.of (E2.sub _ _ ha),e3,q w H2 R2 E2 (s1.trans s2) e4⟩
theorem ug {xs:OB}{y:Int}(ha:EV X a Γ bp xs Γ1)(hb:EV X b Γ1 ah i Γ2)(h:cy xs i=some y)(hs:eK b:=by exact λ_ _=>rfl):EV X (.Subscript a b pos) Γ ah y Γ2:=by
 intro σ H0 R0 H R E Q q
 refine eS (iM ig aL aL hs) (ha σ H0 R0 H R E _ λv H1 R1 E1 s1 e1=>hb σ H0 R0 H1 R1 E1 _ λu H2 R2 E2 s2 e2=>?_)
 obtain⟨p,rfl,ha,z⟩:=bp.mono s2 e1
 have e3:cy (xs.map V.int) i=some (.int y):=by
  unfold cy at h ⊢
  rw[OZ]
  cases e:fg xs.length i with
  | none=>rw[e] at h;cases h
  | some j=>
    rw[e] at h
    show(xs.map V.int)[j]?=_
    rw[O5,show xs[j]?=some y from h];rfl
 exact⟨p,_,i,_,rfl,e2,E2.sub.seq ha,e3,q _ H2 R2 E2 (s1.trans s2) rfl⟩
theorem mD (j:Nat){x:Str}{p1:Pos}{y:α}(hb:EV X b Γ ah i Γ1)(hΓ:Γ[j]?=some (.mu r xs))(hΓ1:Γ1[j]?=some (.mu r xs))(h:cy xs i=some y)(hN:X.N[j]?=some x:=by rfl)(hv:autoParam (cC X.env.scope x) Vo)
 (hs:eK b:=by exact λ_ _=>rfl) (hd:Vd x:=by decide) (U0:Vp x:=by decide):EV X (.Subscript (.Name x p1) b pos) Γ r y Γ1:=by
 intro σ H0 R0 H R E Q q
 obtain⟨a,vs,e,_,_,_⟩:=E.ent j _ hΓ
 refine eS (iM ig (bb hN hv hd U0) aL hs) ⟨.ref a,?_,hb σ H0 R0 H R E _ λu H2 R2 E2 s2 e2=>?_⟩
 ·cases es:σ[j]? with
  | none=>rw[es] at e;cases e
  | some o=>rw[es] at e;exact congrArg some e
 ·obtain⟨a',Vn,e',ha,hR,pp⟩:=E2.ent j _ hΓ1
  rw[e] at e';cases e'
  obtain⟨w,e3,e4⟩:=gZ pp h
  exact⟨a,Vn,i,w,rfl,e2,aU.of ha,e3,q w H2 R2 E2 s2 e4⟩
section
variable {a:Expr}{n:Int}{j:Nat}{p1 pos:Pos}{w:Row}
variable {r:Rep α}{r':Rep β}
theorem kI {x:α}{y:β}(ha:EV X a Γ r x Γ1)(k:∀(R:Hp) v,r.R X.K R v x->∃p vs w,v= .ref p/\R p=some (.tup vs)/\cy vs n=some w/\r'.R X.K R w y):EV X (.Subscript a (.Constant (.int n) j p1) pos) Γ r' y Γ1:=by
 intro σ H0 R0 H R E Q q
 refine eS (iM z3 aL AL (λ_ _=>rfl)) (ha σ H0 R0 H R E _ λv H1 R1 E1 s1 e1=>?_)
 obtain⟨p,vs,w,rfl,hp,e3,e4⟩:=k R1 v e1
 exact⟨p,vs,n,w,rfl,rfl,du.of (E1.sub _ _ hp),e3,q w H1 R1 E1 s1 e4⟩
theorem xo (ha:EV X a Γ d9 w Γ1):EV X (.Subscript a (.Constant (.int 0) j p1) pos) Γ ah w.1 Γ1:=kI ha λR v ⟨p,e,h⟩=>⟨p,_,_,e,h,rfl,rfl⟩
theorem EG (ha:EV X a Γ d9 w Γ1):EV X (.Subscript a (.Constant (.int 1) j p1) pos) Γ ah w.2.1 Γ1:=kI ha λR v ⟨p,e,h⟩=>⟨p,_,_,e,h,rfl,rfl⟩
theorem Ey (ha:EV X a Γ d9 w Γ1):EV X (.Subscript a (.Constant (.int 2) j p1) pos) Γ ah w.2.2.1 Γ1:=kI ha λR v ⟨p,e,h⟩=>⟨p,_,_,e,h,rfl,rfl⟩
theorem xH (ha:EV X a Γ d9 w Γ1):EV X (.Subscript a (.Constant (.int 3) j p1) pos) Γ ah w.2.2.2 Γ1:=kI ha λR v ⟨p,e,h⟩=>⟨p,_,_,e,h,rfl,rfl⟩
theorem tD {x:α×β}(ha:EV X a Γ (eE r r') x Γ1):EV X (.Subscript a (.Constant (.int 0) j p1) pos) Γ r x.1 Γ1:=kI ha λR v ⟨p,v1,v2,e,h,h1,h2⟩=>⟨p,_,v1,e,h,rfl,h1⟩
theorem oZ {x:α×β}(ha:EV X a Γ (eE r r') x Γ1):EV X (.Subscript a (.Constant (.int 1) j p1) pos) Γ r' x.2 Γ1:=kI ha λR v ⟨p,v1,v2,e,h,h1,h2⟩=>⟨p,_,v2,e,h,rfl,h2⟩
end
variable {a:Expr}{pos:Pos}{r:Rep α}{xs:List α}
def OV (X:Cx)(e:Option Expr)(Γ:Ga)(o:Option Int):Prop:=∃t,PO X e t/\∀(σ:St) (H0 R0 H R:Hp),au X.K σ H0 R0 H R Γ->∀Q:Option Int->Hp->Prop,(∀H' R',au X.K σ H0 R0 H' R' Γ->av R R'->Q o H')->t σ H Q
theorem ov_none:OV X none Γ none:=⟨_,Ek,λσ H0 R0 H R E Q q=>q H R E (av.refl _)⟩
theorem ov_some {e:Expr}{i:Int}(h:EV X e Γ ah i Γ):OV X (some e) Γ (some i):=⟨_,EN aL,λσ H0 R0 H R E Q q=>h σ H0 R0 H R E _ λv H1 R1 E1 s1 e1=>⟨i,e1,q H1 R1 E1 s1⟩⟩
def cut (xs:List α)(lo hi:Option Int):List α:=(xs.drop (HT.Va xs.length 0 lo)).take (HT.Va xs.length xs.length hi-HT.Va xs.length 0 lo)
theorem kA {F:α->β->Prop}:∀(n:Nat) {vs:List α} {xs:List β},PySem.Paired F vs xs->PySem.Paired F (vs.drop n) (xs.drop n)
 | 0,_,_,h=>h
 | _+1,_,_,.nil=>.nil
 | n+1,_,_,.cons _ t=>kA n t
theorem iQ {F:α->β->Prop}:∀(n:Nat) {vs:List α} {xs:List β},PySem.Paired F vs xs->PySem.Paired F (vs.take n) (xs.take n)
 | 0,_,_,_=>.nil
 | _+1,_,_,.nil=>.nil
 | n+1,_,_,.cons h t=>.cons h (iQ n t)
theorem dh {F:α->β->Prop}:∀{vs:List α} {xs:List β} {Vn:List α} {xs':List β},PySem.Paired F vs xs->PySem.Paired F Vn xs'->PySem.Paired F (vs++Vn) (xs++xs')
 | _,_,_,_,.nil,h=>h
 | _,_,_,_,.cons h t,h'=>.cons h (dh t h')
theorem ym (xs:List α)(lo hi:Option Int):(cut xs lo hi).length<=xs.length:=by
 unfold cut
 rw[Pl,Qq]
 omega
theorem j2 {lo hi:Option Expr}{p2:Pos}{l h:Option Int}(ha:EV X a Γ (ae r) xs Γ)(hl:OV X lo Γ l)(hh:OV X hi Γ h):aZ X (.Subscript a (.Slice lo hi none p2) pos) Γ r (cut xs l h) Γ:=by
 intro σ H0 R0 H R E Q q
 obtain⟨tl,pl,kl⟩:=hl
 obtain⟨th,ph,kh⟩:=hh
 refine eS (l6 Fe aL pl ph) (ha σ H0 R0 H R E _ λv H1 R1 E1 s1 e1=>kl σ H0 R0 H1 R1 E1 _ λH2 R2 E2 s2=>kh σ H0 R0 H2 R2 E2 _ λH3 R3 E3 s3=>?_)
 obtain⟨p,vs,rfl,hp,pp,z⟩:=(ae r).mono (s2.trans s3) e1
 refine⟨p,vs,rfl,aU.of (E3.sub _ _ hp),λd hd=>?_⟩
 refine q d _ _ R3 (E3.grow (Ext.dJ E3.sub hd _)) (s1.trans (s2.trans s3)) aA (E3.sub.free hd) (E3.ext.h.free hd) (E3.off hd) ?_ (QX (ym _ _ _) z)
 unfold cut kn
 rw[pp.length]
 exact iQ _ (kA _ pp)
theorem cD {b:Expr}{ys:List α}(ha:EV X a Γ (ae r) xs Γ1)(hb:EV X b Γ1 (ae r) ys Γ2)(hz:xs.length+ys.length<=RE):aZ X (.BinOp a .Add b pos) Γ r (xs++ys) Γ2:=by
 intro σ H0 R0 H R E Q q
 refine eS (DV JJ aL aL) (ha σ H0 R0 H R E _ λv H1 R1 E1 s1 e1=>hb σ H0 R0 H1 R1 E1 _ λu H2 R2 E2 s2 e2=>?_)
 obtain⟨p,vs,rfl,hp,pp,z⟩:=(ae r).mono s2 e1
 obtain⟨p',ws,rfl,Zd,VQ,z'⟩:=e2
 refine⟨p,p',vs,ws,rfl,rfl,E2.sub _ _ hp,E2.sub _ _ Zd,by rw[pp.length,VQ.length];exact hz,λd hd=>?_⟩
 exact q d _ _ R2 (E2.grow (Ext.dJ E2.sub hd _)) (s1.trans s2) aA (E2.sub.free hd) (E2.ext.h.free hd) (E2.off hd) (dh pp VQ) (by rw[O4];exact hz)
theorem eO {p:Pos}(hm:X.mg "len"=none)(ha:EV X a Γ (ae r) xs Γ1)(hs:RC [a] X.env=[(false,eval a X.env)]:=by rfl)(hg:Gl X "len":=by rfl):EV X (.Call (.Name "len" p) [a] [] pos) Γ ah (xs.length:Int) Γ1:=by
 intro σ H0 R0 H R E Q q
 refine eS (eh gY hg hm Sj (aM aL bB hs) (by decide) (by decide) hs) (ha σ H0 R0 H R E _ λv H1 R1 E1 s1 e1=>?_)
 obtain⟨p,vs,rfl,hp,pp,z⟩:=e1
 refine⟨p,vs,rfl,.inl (aU.of (E1.sub _ _ hp)),?_⟩
 rw[pp.length]
 exact q _ H1 R1 E1 s1 rfl
theorem nE {p:Pos}{xs:OB}(hm:X.mg "len"=none)(ha:EV X a Γ bp xs Γ1)(hs:RC [a] X.env=[(false,eval a X.env)]:=by rfl)(hg:Gl X "len":=by rfl):EV X (.Call (.Name "len" p) [a] [] pos) Γ ah (xs.length:Int) Γ1:=by
 intro σ H0 R0 H R E Q q
 refine eS (eh gY hg hm Sj (aM aL bB hs) (by decide) (by decide) hs) (ha σ H0 R0 H R E _ λv H1 R1 E1 s1 e1=>?_)
 obtain⟨p,rfl,hp,z⟩:=e1
 refine⟨p,_,rfl,.inl (E1.sub.seq hp),?_⟩
 rw[OZ]
 exact q _ H1 R1 E1 s1 rfl
end
section
variable {X:Cx}{Γ Γ1 Γ2 Γ3:Ga}{α β γ δ:Type}{N:Ga->Prop}{T:RT}
variable {pos:Pos}{r:Rep α}{x:Str}{p1:Pos}{e:Expr}
theorem Ku {Γ':Ga}(w:Wk Γ Γ')(h:N Γ'):WS X [] Γ N T:=λσ H0 R0 H R E D dn dr=>Gy Et (dn σ H R Γ' (E.weak w) (av.refl _) h)
theorem aW (h:N Γ):WS X [] Γ N T:=Ku (Wk.refl Γ) h
theorem ak {st:Stmt}{rest:List Stmt}(h:W1 X st Γ (λΓ'=>WS X rest Γ' N T) T):WS X (st::rest) Γ N T:=λσ H0 R0 H R E D dn dr=>
 Gy (Bm MH i9) (h σ H0 R0 H R E {D with nx:=sL X rest D} (λσ' H' R' Γ' E' s' h'=>h' σ' H0 R0 H' R' E' D (λσ2 H2 R2 Γ2 E2 s2=>dn σ2 H2 R2 Γ2 E2 (s'.trans s2)) dr) dr)
theorem ao {st:Stmt}(h:W1 X st Γ N T):WS X [st] Γ N T:=λσ H0 R0 H R E D dn dr=>Gy (FG MH) (h σ H0 R0 H R E D dn dr)
theorem a9 (i:Nat){y:α}(he:EV X e Γ r y Γ1)(h:N (Γ1.set i (.im r y)))(hN:X.N.Nodup:=by first | assumption | decide)(hi:X.N[i]?=some x:=by rfl)(hx:autoParam (Loc X.env.scope x) Wv)
 (hs:RN e (some (.Name x p1)) pos.line X.env=pure false:=by rfl) (hf:autoParam (X.fn x=true∨X.env.scope.names.lookup x=some .local) Wu):W1 X (.Assign [.Name x p1] e pos) Γ N T:=λσ H0 R0 H R E D dn dr=>
 sS (jv hN hi hx aL hs hf) (he σ H0 R0 H R E _ λv H1 R1 E1 s1 e1=>dn _ H1 R1 _ (E1.set i e1) s1 h)
theorem cS (i:Nat){ys:List α}(he:aZ X e Γ r ys Γ1)(h:N (Γ1.set i (.mu r ys)))(hN:X.N.Nodup:=by first | assumption | decide)(hi:X.N[i]?=some x:=by rfl)(hx:autoParam (Loc X.env.scope x) Wv)
 (hs:RN e (some (.Name x p1)) pos.line X.env=pure false:=by rfl) (hf:autoParam (X.fn x=true∨X.env.scope.names.lookup x=some .local) Wu):W1 X (.Assign [.Name x p1] e pos) Γ N T:=λσ H0 R0 H R E D dn dr=>
 sS (jv hN hi hx aL hs hf) (he σ H0 R0 H R E _ λa vs H1 R1 E1 s1 ha hR h0 off p z=>dn _ H1 R1 _ (E1.yo (u:=.lst vs) (en:=.mu r ys) i ⟨a,vs,rfl,ha,hR,p⟩ h0 λj e _ q w=>off j e q w) s1 h)
theorem a8 {P:α->Prop}{y:α}(he:EV X e Γ r y Γ1)(h:P y):W1 X (.Return (some e) pos) Γ N (bU X.K r P):=λσ H0 R0 H R E D dn dr=>
 sS (hU aL) (he σ H0 R0 H R E _ λv H1 R1 E1 s1 e1=>dr v H1 R1 E1.ext ⟨y,e1,h⟩)
theorem bE {c:Expr}{a b:List Stmt}{k:Bool}(hc:TV X c Γ k Γ1)(h1:k=true->WS X a Γ1 N T)(h2:k=false->WS X b Γ1 N T):W1 X (.If c a b pos) Γ N T:=λσ H0 R0 H R E D dn dr=>by
 refine sS (Lw pC i9 i9) (hc σ H0 R0 H R E _ λH1 R1 E1 s1=>?_)
 cases k with
 | true=>exact mT (h1 rfl σ H0 R0 H1 R1 E1 D (λσ2 H2 R2 Γ2 E2 s2=>dn σ2 H2 R2 Γ2 E2 (s1.trans s2)) dr)
 | false=>exact mG (h2 rfl σ H0 R0 H1 R1 E1 D (λσ2 H2 R2 Γ2 E2 s2=>dn σ2 H2 R2 Γ2 E2 (s1.trans s2)) dr)
theorem aX (i:Nat)(hN:X.N.Nodup:=by first | assumption | decide)(hi:X.N[i]?=some x:=by rfl)(hx:autoParam (Loc X.env.scope x) Wv)(hf:autoParam (X.fn x=true∨X.env.scope.names.lookup x=some .local) Wu):
 BG X (.Name x pos) r (λy Γ=>Γ.set i (.im r y)):=λσ H0 R0 H R Γ v x E h Q q=>gS (kS hN hi hx hf) (q _ (E.set i h))
theorem fO (i j:Nat){y:Str}{k:Nat}{p2:Pos}{r':Rep β}(hc:X.calm=true:=by rfl)(hN:X.N.Nodup:=by first | assumption | decide)(hi:X.N[i]?=some x:=by rfl)(hx:autoParam (Loc X.env.scope x) Wv)(hf:autoParam (X.fn x=true∨X.env.scope.names.lookup x=some .local) Wu)
 (hj:X.N[j]?=some y:=by rfl) (hy:autoParam (Loc X.env.scope y) Wv) (hf':autoParam (X.fn y=true∨X.env.scope.names.lookup y=some .local) Wu):
 BG X (.Tuple [.Name x p1,.Name y p2] k pos) (eE r r') (λw Γ=>(Γ.set i (.im r w.1)).set j (.im r' w.2)):=λσ H0 R0 H R Γ v w E h Q q=>by
 obtain⟨a,v1,v2,rfl,ha,e1,e2⟩:=h
 exact gS (Ac hc (lH (kS hN hi hx hf) (lH (kS hN hj hy hf') wI))) ⟨a,_,rfl,du.of (E.sub _ _ ha),rfl,v1,[v2],rfl,v2,[],rfl,rfl,q _ ((E.set i e1).set j e2)⟩
end
section
variable {X:Cx}{Γ Γ1 Γ2 Γ3:Ga}{α β γ δ:Type}{N:Ga->Prop}{T:RT}
variable {pos:Pos}{x:Str}{p1:Pos}{r:Rep α}{xs:List α}{kvs:List (Int×V)}{e:Expr}{y:α}
theorem at_of {σ:St}{i:Nat}{v:V}(e:(σ[i]?).join=some v):σ[i]?=some (some v):=by
 cases es:σ[i]? with
 | none=>rw[es] at e;cases e
 | some o=>rw[es] at e;exact congrArg some e
theorem lB {c:Expr}{body:List Stmt}(I:Nat->Ga->Prop){m0:Nat}(h0:I m0 Γ)
 (VF:∀(m:Nat) (Γ:Ga),I m Γ->∃(k:Bool) (Γ':Ga),TV X c Γ k Γ'/\(k=true->WS X body Γ' (λΓ''=>∃m',m'<m/\I m' Γ'') T)/\(k=false->N Γ'))
 (hp:S0 (model X.prog X.w) X.A X.env X.xe:=by exact S0.never):W1 X (.While c body [] pos) Γ N T:=λσ H0 R0 H R E D dn dr=>by
 refine sS (BK hp pC i9) ?_
 refine⟨λm σ' H'=>∃R' Γ',au X.K σ' H0 R0 H' R' Γ'/\av R R'/\I m Γ',⟨m0,R,Γ,E,av.refl _,h0⟩,?_⟩
 rintro m σ' H' ⟨R',Γ',E',s',hI⟩
 obtain⟨k,Γ2,ht,h1,h2⟩:=VF m Γ' hI
 refine ht σ' H0 R0 H' R' E' _ λH1 R1 E1 s1=>?_
 cases k with
 | true=>
   refine mT ⟨_,λσ2 H2 h=>h,h1 rfl σ' H0 R0 H1 R1 E1 _ (λσ3 H3 R3 Γ3 E3 s3 h3=>?_) dr⟩
   obtain⟨m',hm,hI'⟩:=h3
   exact⟨m',hm,R3,Γ3,E3,s'.trans (s1.trans s3),hI'⟩
 | false=>exact mG (dn σ' H1 R1 Γ2 E1 (s'.trans s1) (h2 rfl))
theorem eY (i:Nat){ap cp:Pos}(he:EV X e Γ r y Γ1)(hΓ:Γ[i]?=some (.mu r xs))(hΓ1:Γ1[i]?=some (.mu r xs))(hz:xs.length<RE)(h:N (Γ1.set i (.mu r (xs++[y]))))
 (hN:X.N[i]?=some x:=by rfl) (hv:autoParam (cC X.env.scope x) Vo)
 (hd:Vd x:=by decide) (U0:Vp x:=by decide)
 (VR:RN (.Call (.Attribute (.Name x p1) "append" ap) [e] [] cp) none pos.line X.env=pure false:=by rfl)
 (U2:RK (.Name x p1) "append" X.env (eval (.Name x p1) X.env)=eval (.Name x p1) X.env:=by rfl)
 (Vg:((RM cp (RC [e] X.env)).all (λx=> !x.1)&&(Sb cp (RX [] X.env)).all (λx=>x.1.isSome)
  &&decide ([e].length+([]:List RP).length+(if([]:List RP).isEmpty then 0 else 1)<30))=true:=by rfl)
 (U1:(ap.endLine==cp.line)=true:=by rfl) (hs:RC [e] X.env=(false,eval e X.env)::RC [] X.env:=by rfl):W1 X (.Expr (.Call (.Attribute (.Name x p1) "append" ap) [e] [] cp) pos) Γ N T:=λσ H0 R0 H R E D dn dr=>by
 obtain⟨a,vs,ea,ha,hR,pp⟩:=E.ent i _ hΓ
 refine sS (fz (gw Tw Tx Tz gL (bb hN hv hd U0) (aM aL bB hs) U2 Vg U1 hs rfl) VR) ?_
 refine⟨.ref a,at_of ea,.inl ⟨rfl,vs,aU.of ha⟩,he σ H0 R0 H R E _ λv H1 R1 E1 s1 e1=>?_⟩
 obtain⟨a',Vn,Vs,VN,Vw,VQ⟩:=E1.ent i _ hΓ1
 rw[ea] at Vs;cases Vs
 refine⟨a,Vn,v,rfl,rfl,VN,by rw[VQ.length];exact hz,?_⟩
 exact dn σ _ R1 _ (E1.upd (en:=.mu r (xs++[y])) hΓ1 rfl ea Vw ⟨a,_,rfl,aA,Vw,dh VQ (.cons e1 .nil)⟩) s1 h
theorem lK {F:α->β->Prop}{v:α}{y:β}(h:F v y):∀{vs:List α} {xs:List β} (i:Nat),PySem.Paired F vs xs->PySem.Paired F (vs.set i v) (xs.set i y)
 | _,_,_,.nil=>.nil
 | _,_,0,.cons _ t=>.cons h t
 | _,_,i+1,.cons q t=>.cons q (lK h i t)
theorem FT (i:Nat){b:Expr}{p2:Pos}{k:Int}{j:Nat}(he:EV X e Γ r y Γ1)(hb:EV X b Γ1 ah k Γ2)(hΓ1:Γ1[i]?=some (.mu r xs))(hΓ2:Γ2[i]?=some (.mu r xs))(hj:fg xs.length k=some j)(h:N (Γ2.set i (.mu r (xs.set j y))))
 (hN:X.N[i]?=some x:=by rfl) (hv:autoParam (cC X.env.scope x) Vo)
 (hd:Vd x:=by decide) (U0:Vp x:=by decide)
 (ha:∀v,Sn (.Subscript (.Name x p1) b p2) X.env v=(do
  let ov ← Si [v] (eval (.Name x p1) X.env)
  let iv ← Si [v,ov] (eval b X.env)
  SM p2
  Si [v,ov,iv] (setItem ov iv v)
  release [v,ov,iv] []):=by intro _;rfl)
 (hs:SR [.Subscript (.Name x p1) b p2] e pos.line X.env=pure false:=by rfl) (hw:SS [.Subscript (.Name x p1) b p2] e X.env=pure none:=by rfl) (h1:(Sm [.Subscript (.Name x p1) b p2] X.env).map (·.2)=[Sn (.Subscript (.Name x p1) b p2) X.env]:=by rfl):
 W1 X (.Assign [.Subscript (.Name x p1) b p2] e pos) Γ N T:=λσ H0 R0 H R E D dn dr=>by
 refine sS (u9 aL (zc (bb hN hv hd U0) aL set_list ha) hs hw h1) (he σ H0 R0 H R E _ λv H1 R1 E1 s1 e1=>?_)
 obtain⟨a,vs,ea,hp,hR,pp⟩:=E1.ent i _ hΓ1
 refine⟨.ref a,at_of ea,hb σ H0 R0 H1 R1 E1 _ λu H2 R2 E2 s2 e2=>?_⟩
 obtain⟨a',Vn,Vs,VN,Vw,VQ⟩:=E2.ent i _ hΓ2
 rw[ea] at Vs;cases Vs
 refine⟨a,Vn,k,j,rfl,e2,VN,by rw[VQ.length];exact hj,?_⟩
 exact dn σ _ R2 _ (E2.upd (en:=.mu r (xs.set j y)) hΓ2 rfl ea Vw ⟨a,_,rfl,aA,Vw,lK (r.mono s2 e1) j VQ⟩) (s1.trans s2) h
theorem oO {F:α->β->Prop}{vs:List α}{xs:List β}(p:PySem.Paired F vs xs):PySem.Paired F vs.dropLast xs.dropLast:=by
 rw[List.dropLast_eq_take,List.dropLast_eq_take,p.length]
 exact iQ _ p
theorem uN (i:Nat){ap cp:Pos}(hΓ:Γ[i]?=some (.mu r xs))(hy:xs[xs.length-1]?=some y)
 (hN:X.N[i]?=some x:=by rfl) (hv:autoParam (cC X.env.scope x) Vo)
 (hd:Vd x:=by decide) (U0:Vp x:=by decide)
 (U2:RK (.Name x p1) "pop" X.env (eval (.Name x p1) X.env)=eval (.Name x p1) X.env:=by rfl) (U1:(ap.endLine==cp.line)=true:=by rfl):
 EV X (.Call (.Attribute (.Name x p1) "pop" ap) [] [] cp) Γ r y (Γ.set i (.mu r xs.dropLast)):=by
 intro σ H0 R0 H R E Q q
 obtain⟨a,vs,ea,ha,hR,pp⟩:=E.ent i _ hΓ
 obtain⟨v,WA,hr⟩:=dm pp hy
 refine eS (JR Tw PySem.F.slot_list_pop PySem.F.type_list_pop J0 (bb hN hv hd U0) U2 U1) ⟨.ref a,at_of ea,.inl ⟨rfl,vs,aU.of ha⟩,?_⟩
 refine⟨a,vs,v,rfl,rfl,ha,by rw[pp.length];exact WA,?_⟩
 exact q v _ R (E.upd hΓ rfl ea hR ⟨a,_,rfl,aA,hR,oO pp⟩) (av.refl _) hr
theorem kX (i:Nat)(hΓ:Γ[i]?=some (.mu r xs))(hN:X.N[i]?=some x:=by rfl)(hv:autoParam (cC X.env.scope x) Vo)
 (hd:Vd x:=by decide) (U0:Vp x:=by decide)
 (he:∀whole,Su (.Name x pos) X.env whole=(do let v ← whole;SM (Expr.Name x pos).pos;Si [v] (truthy v)):=by intro _;rfl):TV X (.Name x pos) Γ (!xs.isEmpty) Γ:=by
 intro σ H0 R0 H R E Q q
 obtain⟨a,vs,ea,ha,hR,pp⟩:=E.ent i _ hΓ
 refine tS (tG (bb hN hv hd U0) he) ⟨.ref a,at_of ea, !xs.isEmpty,.inl ⟨vs,aU.of ha,?_⟩,q H R E (av.refl _)⟩
 cases pp<;>rfl
theorem wA (i:Nat){p:Pos}(hm:X.mg "len"=none)(hΓ:Γ[i]?=some (.mu r xs))(hN:X.N[i]?=some x:=by rfl)(hv:autoParam (cC X.env.scope x) Vo)
 (hd:Vd x:=by decide) (U0:Vp x:=by decide) (hg:Gl X "len":=by rfl):EV X (.Call (.Name "len" p) [.Name x p1] [] pos) Γ ah (xs.length:Int) Γ:=by
 intro σ H0 R0 H R E Q q
 obtain⟨a,vs,ea,ha,hR,pp⟩:=E.ent i _ hΓ
 refine eS (eh gY hg hm Sj (aM (bb hN hv hd U0) bB rfl) (by decide) (by decide) rfl) ⟨.ref a,at_of ea,a,vs,rfl,.inl (aU.of ha),?_⟩
 rw[pp.length]
 exact q _ H R E (av.refl _) rfl
theorem freeze {K:Uk}{σ:St}{H0 R0 H R:Hp}(E:au K σ H0 R0 H R Γ){i:Nat}(hΓ:Γ[i]?=some (.mu r xs))(hz:xs.length<=RE):∃R' v,au K σ H0 R0 H R' (Γ.set i (.im (ae r) xs))/\av R R'/\(σ[i]?).join=some v/\(ae r).R K R' v xs:=by
 obtain⟨a,vs,ea,ha,hR,pp⟩:=E.ent i _ hΓ
 have h0:H0 a=none:=E.new i _ a hΓ rfl ea
 have s2:av R (upd R a (.lst vs)):=av.fresh hR _
 have rr:(ae r).R K (upd R a (.lst vs)) (.ref a) xs:=⟨a,vs,rfl,aA,Paired.map (λ_ _=>r.mono s2) pp,hz⟩
 have E1:au K σ H0 R0 H R (Γ.set i .no):=E.tell hΓ trivial λb w=>by cases w
 have E2:=E1.sy ha hR h0 λj e q w=>by
  rcases set_at q with⟨rfl,rfl,_⟩ | ⟨hj,q1⟩
  ·cases w
  ·exact hj (E.ds j i e _ a q1 hΓ w ((Ent.oW (e:=.mu r xs) rfl).mpr ea))
 have hl:i<Γ.length:=(OW.mp hΓ).1
 have E3:=E2.tell (i:=i) (e0:=.no) (en:=.im (ae r) xs) (Pc hl) ⟨_,ea,rr⟩ λb w=>by cases w
 rw[QA] at E3
 exact⟨_,.ref a,E3,s2,ea,rr⟩
theorem WS.freeze (i:Nat){WQ:List Stmt}(hΓ:Γ[i]?=some (.mu r xs))(hz:xs.length<=RE)(h:WS X WQ (Γ.set i (.im (ae r) xs)) N T):WS X WQ Γ N T:=λσ H0 R0 H R E D dn dr=>by
 obtain⟨R',v,E',s',_,_⟩:=Fc.freeze E hΓ hz
 exact h σ H0 R0 H R' E' D (λσ2 H2 R2 Γ2 E2 s2=>dn σ2 H2 R2 Γ2 E2 (s'.trans s2)) dr
def gW:Rep (List (Int×V)):=⟨λK H v kvs=>∃a,v= .ref a/\H a=some (.dK (cz kvs)),λs ⟨a,e,q⟩=>⟨a,e,s _ _ q⟩⟩
def ip (kvs:List (Int×V))(k:Int):Bool:=kvs.any λp=>decide (p.1=k)
theorem pd (kvs:List (Int×V))(k:Int):(cX (cz kvs) (Sum.inl k:Key)).isSome=ip kvs k:=by
 rw[← gy]
 unfold cz ip
 rw[List.any_map]
 congr 1
 funext p
 show decide ((Sum.inl p.1:Key)=Sum.inl k)=decide (p.1=k)
 by_cases h:p.1=k
 ·rw[h];simp
 ·rw[UP h,UP λz=>h (Sum.inl.inj z)]
theorem FA (i:Nat)(neg:Bool){k:Int}(hu:X.A.units+1<cLine)(he:EV X e Γ ah k Γ)(hΓ:Γ[i]?=some (.di kvs))(hN:X.N[i]?=some x:=by rfl)(hv:autoParam (cC X.env.scope x) Vo)
 (hd:Vd x:=by decide) (U0:Vp x:=by decide):
 TV X (.Compare e [if neg then .NotIn else .In] [.Name x p1] pos) Γ (if neg then !ip kvs k else ip kvs k) Γ:=by
 intro σ H0 R0 H R E Q q
 cases neg with
 | false=>
   refine tS (m5 (ID hu aL (bb hN hv hd U0)) (by with_unfolding_all rfl)) (he σ H0 R0 H R E _ λv H1 R1 E1 s1 e1=>?_)
   obtain⟨a,ea,ha,hR⟩:=E1.ent i _ hΓ
   cases e1
   refine⟨.ref a,at_of ea,a,_,rfl,gN.k (k:=Sum.inl k) ha,_,rfl,?_⟩
   rw[pd]
   exact q H1 R1 E1 s1
 | true=>
   refine tS (m5 (mj hu aL (bb hN hv hd U0)) (by with_unfolding_all rfl)) (he σ H0 R0 H R E _ λv H1 R1 E1 s1 e1=>?_)
   obtain⟨a,ea,ha,hR⟩:=E1.ent i _ hΓ
   cases e1
   refine⟨.ref a,at_of ea,a,_,rfl,gN.k (k:=Sum.inl k) ha,_,rfl,?_⟩
   rw[pd]
   exact q H1 R1 E1 s1
theorem AD (i:Nat){ke ve:Expr}{p2:Pos}{k:Int}{v:V}(hu:X.A.units+1<cLine)(hk:EV X ke Γ ah k Γ)(hv:PE X ve (tC v))(hΓ:Γ[i]?=some (.di kvs))(hn:ip kvs k=false)(hz:kvs.length<RE)(h:N (Γ.set i (.di (kvs++[(k,v)]))))
 (hN:X.N[i]?=some x:=by rfl) (Y5:autoParam (cC X.env.scope x) Vo)
 (hd:Vd x:=by decide) (U0:Vp x:=by decide)
 (hs:RN ve (some (.Subscript (.Name x p1) ke p2)) pos.line X.env=pure false:=by rfl):W1 X (.Assign [.Subscript (.Name x p1) ke p2] ve pos) Γ N T:=λσ H0 R0 H R E D dn dr=>by
 refine sS (qQ hu (bb hN Y5 hd U0) aL hv hs) ?_
 obtain⟨a,ea,ha,hR⟩:=E.ent i _ hΓ
 refine⟨.ref a,at_of ea,hk σ H0 R0 H R E _ λu H1 R1 E1 s1 e1=>?_⟩
 obtain⟨a',Vs,VN,Vw⟩:=E1.ent i _ hΓ
 rw[ea] at Vs;cases Vs
 cases e1
 refine⟨a,_,rfl,oz.k (k:=Sum.inl k) VN (by unfold cz;rw[OZ];exact hz),?_⟩
 have vn:cX (cz kvs) (Sum.inl k:Key)=none:=by
  have:=pd kvs k
  rw[hn] at this
  cases q:cX (cz kvs) (Sum.inl k:Key) with
  | none=>rfl
  | some z=>rw[q] at this;cases this
 rw[oh v vn]
 have e:cz kvs++[((Sum.inl k:Key),v)]=cz (kvs++[(k,v)]):=by unfold cz;rw[Ph];rfl
 rw[e]
 exact dn σ _ R1 _ (E1.upd (en:=.di (kvs++[(k,v)])) hΓ rfl ea Vw ⟨a,rfl,aA,Vw⟩) s1 h
theorem JY (i:Nat){P:List (Int×V)->Prop}(hΓ:Γ[i]?=some (.di kvs))(h:P kvs)(hN:X.N[i]?=some x:=by rfl)(hv:autoParam (cC X.env.scope x) Vo)
 (hd:Vd x:=by decide) (U0:Vp x:=by decide):W1 X (.Return (some (.Name x p1)) pos) Γ N (bU X.K gW P):=λσ H0 R0 H R E D dn dr=>by
 obtain⟨a,ea,ha,hR⟩:=E.ent i _ hΓ
 have h0:H0 a=none:=E.new i _ a hΓ rfl ea
 refine sS (hU (bb hN hv hd U0)) ⟨.ref a,at_of ea,dr _ H (upd R a (.dK (cz kvs))) ⟨E.ext.h,E.ext.r.trans (av.fresh hR _),λb o qb=>?_,λb hb=>?_⟩ ⟨kvs,⟨a,rfl,aA⟩,h⟩⟩
 ·by_cases hb:b=a
  ·subst hb;rw[aA] at qb;cases qb;exact ha
  ·rw[aB hb] at qb;exact E.ext.s b o qb
 ·rw[aB (show b≠a from λe=>hb (by rw[e];exact h0))];exact E.ext.old b hb
theorem EO {a:Expr}{p:Pos}(hm:X.mg "len"=none)(ha:EV X a Γ gW kvs Γ1)(hs:RC [a] X.env=[(false,eval a X.env)]:=by rfl)(hg:Gl X "len":=by rfl):EV X (.Call (.Name "len" p) [a] [] pos) Γ ah (kvs.length:Int) Γ1:=by
 intro σ H0 R0 H R E Q q
 refine eS (eh rj hg hm Sj (aM aL bB hs) (by decide) (by decide) hs) (ha σ H0 R0 H R E _ λv H1 R1 E1 s1 e1=>?_)
 obtain⟨p,rfl,hp⟩:=e1
 refine⟨p,_,rfl,E1.sub _ _ hp,?_⟩
 unfold cz
 rw[OZ]
 exact q _ H1 R1 E1 s1 rfl
end
abbrev cP:=Uk->List Pk->RT->Prop
def aN (S:cP)(K:Uk):Sp:=λvs H Q _=>∃R ps T,av R H/\j4 K R vs ps/\S K ps T/\∀v H' R',Ext H R H' R'->T H v H' R'->Q v H'
theorem j4.length {K:Uk}{R:Hp}:∀{vs:List V} {ps:List Pk},j4 K R vs ps->vs.length=ps.length
 | _,_,.nil=>rfl
 | _,_,.cons _ t=>by rw[O8,O8,j4.length t]
structure aH (P:RJ) (w:World) (K:Uk) (mg:Oz) (base:Heap) (x:Str) (k:Nat) (sp:Sp):Prop where
 ex:∃f fd ps,dW P w K mg base d6 k f fd ps sp/\mg x=some (.ref f)/\Us K (.ref f)=true/\Binds K fd ps []
theorem aH.mono {P:RJ}{w:World}{K:Uk}{mg:Oz}{base:Heap}{x:Str}{j k:Nat}{sp:Sp}(c:aH P w K mg base x j sp)(h:j<=k):aH P w K mg base x k sp:=by
 obtain⟨f,fd,ps,F,a,b,c⟩:=c.ex
 exact⟨f,fd,ps,F.mono h,a,b,c⟩
section
variable {X:Cx}{Γ Γ1 Γ2 Γ3:Ga}{α β γ δ:Type}{N:Ga->Prop}{T:RT}
variable {S:cP}{x:Str}{e:Expr}{es:OG}{pos:Pos}{ps:List Pk}
theorem jz {k:Nat}{p:Pos}{Q:VK}{σ:St}{H0 R0 H R:Hp}(C:aH X.prog X.w X.K X.mg X.base x k (aN S X.K))(hr:bI k X.A)(ha:HA X (e::es) Γ ps Γ1)(hS:S X.K ps T)(E:au X.K σ H0 R0 H R Γ)
 (q:∀H1 R1 v H' R',au X.K σ H0 R0 H1 R1 Γ1->av R R1->Ext H1 R1 H' R'->T H1 v H' R'->Q v H')
 (hg:Gl X x) (VE:(x==("__debug__":Str))=false) (he:RC (e::es) X.env=(false,eval e X.env)::RC es X.env) (Ve:(RM pos (RC es X.env)).any (·.1)=false):eZ X (.Call (.Name x p) (e::es) [] pos) σ H Q:=by
 obtain⟨f,fd,pn,F,hm,hk,hb⟩:=C.ex
 refine eS (qq F hr hg hm hk hb .nil sv mf VE he Ve) (ha σ H0 R0 H R E _ λvs H1 R1 E1 s1 p1=>?_)
 refine⟨R1,ps,T,E1.sub,by rw[Px];exact p1,hS,λv H' R' x t=>q H1 R1 v H' R' E1 s1 x t⟩
theorem aE {k:Nat}{p:Pos}{r:Rep α}{y:α}(C:aH X.prog X.w X.K X.mg X.base x k (aN S X.K))(hr:bI k X.A)(ha:HA X (e::es) Γ ps Γ1)(hS:S X.K ps (bU X.K r (· =y)))
 (hg:Gl X x:=by rfl) (VE:Vd x:=by decide) (he:RC (e::es) X.env=(false,eval e X.env)::RC es X.env:=by rfl) (Ve:(RM pos (RC es X.env)).any (·.1)=false:=by rfl):EV X (.Call (.Name x p) (e::es) [] pos) Γ r y Γ1:=λσ H0 R0 H R E Q q=>
 jz C hr ha hS E (λH1 R1 v H' R' E1 s1 xx t=>by
  obtain⟨z,e1,rfl⟩:=t
  exact q v H' R' (E1.grow xx) (s1.trans xx.r) e1) hg VE he Ve
theorem tQ {k:Nat}{p:Pos}{r:Rep α}{ys:List α}(C:aH X.prog X.w X.K X.mg X.base x k (aN S X.K))(hr:bI k X.A)(ha:HA X (e::es) Γ ps Γ1)(hS:S X.K ps (Aq X.K r (· =ys)))
 (hg:Gl X x:=by rfl) (VE:Vd x:=by decide) (he:RC (e::es) X.env=(false,eval e X.env)::RC es X.env:=by rfl) (Ve:(RM pos (RC es X.env)).any (·.1)=false:=by rfl):aZ X (.Call (.Name x p) (e::es) [] pos) Γ r ys Γ1:=λσ H0 R0 H R E Q q=>
 jz C hr ha hS E (λH1 R1 v H' R' E1 s1 xx t=>by
  obtain⟨a,vs,zs,rfl,h0,h1,h2,p,z,rfl⟩:=t
  exact q a vs H' R' (E1.grow xx) (s1.trans xx.r) h1 h2 (E1.ext.h.free h0) (E1.off h0) p z) hg VE he Ve
end
def eo (ps:List Pk)(n:Nat):Ga:=ps.map (λp=>Ent.im p.r p.x)++Qn (n-ps.length) .no
theorem iV {K:Uk}{R H:Hp}{vs:List V}{ps:List Pk}{N:OC}(s:av R H)(p:j4 K R vs ps)(hl:ps.length<=N.length):au K (L2.start N vs) H R H R (eo ps N.length):=by
 have Vh:∀(i:Nat) (e:Ent) (o:Option V),(eo ps N.length)[i]?=some e->e.fp o=[]:=λi e o q=>by
  unfold eo at q
  rcases Pa.mp (O6 q) with z | z
  ·obtain⟨p,_,rfl⟩:=Pe.mp z;rfl
  ·obtain⟨_,rfl⟩:=QH.mp z;rfl
 refine⟨Ext.refl s,λi e q=>?_,λi e a q w=>UJ w (by rw[Vh i e _ q];exact Pu),λi j e e' a q _ w=>UJ w (by rw[Vh i e _ q];exact Pu),?_⟩
 ·have hp:=p.length
  unfold eo at q
  unfold L2.start
  by_cases hi:i<ps.length
  ·rw[Pr (by simpa using hi),O5] at q
   rw[Pr (by simpa[hp] using hi),O5]
   have key:∀{vs:List V} {ps:List Pk},j4 K R vs ps->∀(i:Nat) (p:Pk),ps[i]?=some p->∃v,vs[i]?=some v/\p.r.R K R v p.x:=by
    intro vs ps h
    induction h with
    | nil=>intro i p e;simp at e
    | cons a b ih=>
      intro i p e
      cases i with
      | zero=>simp at e;subst e;exact⟨_,rfl,a⟩
      | succ i=>simpa using ih i p (by simpa using e)
   cases e1:ps[i]? with
   | none=>rw[e1] at q;cases q
   | some p1=>
     rw[e1] at q
     cases q
     obtain⟨v,h1,h2⟩:=key p i p1 e1
     rw[h1]
     exact⟨v,rfl,h2⟩
  ·rw[Pp (by simpa using hi),Qk] at q
   split at q
   ·cases q;trivial
   ·cases q
 ·unfold eo L2.start
  rw[O4,O4,OZ,OZ,P8,P8,p.length]
section
variable {P:RJ}{w:World}{K:Uk}{mg:Oz}{base:Heap}
def Def (K:Uk)(mg:Oz)(x:Str)(st:Stmt)(ps:OC):Prop:=∃f fd,dU K x x st f fd/\mg x=some (.ref f)/\Binds K fd ps []
theorem gP {S:cP}{x qual:Str}{st:Stmt}{f:Addr}{fd:RO}{N ps:OC}{k:Nat}(F:dU K x qual st f fd)(Sc:aF N ps (ai st))(hm:mg x=some (.ref f))(hb:Binds K fd ps [])(len:∀qs T,S K qs T->qs.length=ps.length)
 (Vc:∀(UX:Value) (A:RL) (outer:List Env) (s:RA) (H:Hp) (E:XK) (qs:List Pk) (T:RT),bI k (A.deeper (Ru qual (ai st) s.heap.objs.size f UX))->S K qs T->
  WS (eI d6 P w K mg base N qual (ai st) f UX A outer s H E).h9 (bw st) (eo qs N.length) (λ_=>False) T):aH P w K mg base x (k+1) (aN S K):=by
 refine⟨f,fd,ps,?_,hm,F.kp,hb⟩
 refine F.ok Sc (λvs H Q E h=>?_) (λUX A outer s H vs Q E hr h=>?_)
 ·obtain⟨R,qs,T,_,p,hS,_⟩:=h
  rw[p.length];exact len qs T hS
 ·obtain⟨R,qs,T,sR,p,hS,q⟩:=h
  have hl:qs.length<=N.length:=by
   rw[len qs T hS]
   have:=congrArg List.length Sc.pre
   rw[Pl] at this
   omega
  exact⟨_,i9,Vc UX A outer s H E qs T hr hS (L2.start N vs) H R H R (iV sR p hl) {nx:=λ_ H'=>Q .U8 H',rt:=Q} (λ_ _ _ _ _ _ f=>f.elim) λv H' R' xx t=>q v H' R' xx t⟩
theorem bJ {S:cP}{x:Str}{st:Stmt}{N ps:OC}{k:Nat}(D:Def K mg x st ps)(Sc:aF N ps (ai st))
 (Vc:∀(f:Addr) (UX:Value) (A:RL) (outer:List Env) (s:RA) (H:Hp) (E:XK) (qs:List Pk) (T:RT),bI k (A.deeper (Ru x (ai st) s.heap.objs.size f UX))->S K qs T->
  WS (eI d6 P w K mg base N x (ai st) f UX A outer s H E).h9 (bw st) (eo qs N.length) (λ_=>False) T)
 (len:∀qs T,S K qs T->qs.length=ps.length:=by(intros;rename_i h;repeat (first | (rw[h.1];rfl) | obtain⟨_,h⟩:=h))):aH P w K mg base x (k+1) (aN S K):=by
 obtain⟨f,fd,F,hm,hb⟩:=D
 exact gP F Sc hm hb len (Vc f)
end
section
variable {X:Cx}{Γ Γ1 Γ2 Γ3:Ga}{α β γ δ:Type}{N:Ga->Prop}{T:RT}
variable {a:Expr}{pos:Pos}
theorem vy {bs:List Bool}{us:OF}(r:Vals (bs.map V.bl) us){j:Nat}{v:Value}(h:us.toArray[j]?=some v):v= .bool (bs.getD j true):=by
 induction bs generalizing us j with
 | nil=>cases r;simp at h
 | cons b r' ih=>
   cases r with
   | cons h1 t=>
     cases j with
     | zero=>simp at h;rw[← h];exact h1
     | succ j=>exact ih t (by simpa using h)
theorem all_range (bs:List Bool):((Pm bs.length).all λj=>bs.getD j true)=bs.all id:=by
 rw[OL,Qu,Qu]
 constructor
 ·intro h b hb
  obtain⟨j,hj,rfl⟩:=Qy.mp hb
  have:=h j (P0.mpr hj)
  simpa[OY,OX hj] using this
 ·intro h j hj
  have hj:=P0.mp hj
  simpa[OY,OX hj] using h _ (PD hj)
theorem any_range (bs:List Bool):((Pm bs.length).any λj=>bs.getD j true)=bs.any id:=by
 rw[OL,QQ,QQ]
 constructor
 ·rintro⟨j,hj,h⟩
  have hj:=P0.mp hj
  exact⟨_,PD hj,by simpa[OY,OX hj] using h⟩
 ·rintro⟨b,hb,h⟩
  obtain⟨j,hj,rfl⟩:=Qy.mp hb
  exact⟨j,P0.mpr hj,by simpa[OY,OX hj] using h⟩
theorem Cb (hc:X.calm=true):eX X (.builtin "all") (λxs H Q=>∃(p:Addr) (bs:List Bool),xs=[.ref p]/\aU X.K H p (bs.map V.bl)/\Q (.bl (bs.all id)) H):=by
 intro UT s σ H xs us Q I r h
 obtain⟨p,bs,rfl,hq,q⟩:=h
 obtain⟨u,rfl,rx⟩:=vals1 r
 cases rx
 obtain⟨UW,r',pl,hz⟩:=I.list hq
 have U9:p≠s.heap.objs.size:=λe=>by obtain⟨o,ho,_⟩:=pl.isList;exact UJ (TQ ho) (by rw[e];exact Q3 _)
 refine call_all_walk (Sz pl.isList ?_)
 refine⟨s.heap.objs.size,_,[s.heap.objs.size],UW.toArray.size,_,_,λj=>bs.getD j true,rfl,Walks.list (A:=X.A.in1) (show X.A.in1.handled=none from I.ok.hd hc) s.heap.objs.size p U9 UW.toArray,?_,λj v s Q E hv hQ=>?_,λh' tk hk=>?_⟩
 ·refine⟨⟨_,TR _ rfl,rfl,rfl⟩,?_⟩
  obtain⟨o,ho,c,n,d⟩:=pl.isList
  exact⟨o,TN _ ho,c,n,d⟩
 ·rw[vy r' hv];exact RQ hQ
 ·have e:UW.toArray.size=bs.length:=by rw[O9,← r'.length,OZ]
  rw[e,all_range]
  exact⟨.bl _,H,I.kept λb o e=>hk b o (λz=>UJ (TQ e) (by rw[O0.mp z];exact Q3 _)) (TN _ e),rfl,q⟩
theorem B3 (hc:X.calm=true):eX X (.builtin "any") (λxs H Q=>∃(p:Addr) (bs:List Bool),xs=[.ref p]/\aU X.K H p (bs.map V.bl)/\Q (.bl (bs.any id)) H):=by
 intro UT s σ H xs us Q I r h
 obtain⟨p,bs,rfl,hq,q⟩:=h
 obtain⟨u,rfl,rx⟩:=vals1 r
 cases rx
 obtain⟨UW,r',pl,hz⟩:=I.list hq
 have U9:p≠s.heap.objs.size:=λe=>by obtain⟨o,ho,_⟩:=pl.isList;exact UJ (TQ ho) (by rw[e];exact Q3 _)
 refine call_any_walk (Sz pl.isList ?_)
 refine⟨s.heap.objs.size,_,[s.heap.objs.size],UW.toArray.size,_,_,λj=>bs.getD j true,rfl,Walks.list (A:=X.A.in1) (show X.A.in1.handled=none from I.ok.hd hc) s.heap.objs.size p U9 UW.toArray,?_,λj v s Q E hv hQ=>?_,λh' tk hk=>?_⟩
 ·refine⟨⟨_,TR _ rfl,rfl,rfl⟩,?_⟩
  obtain⟨o,ho,c,n,d⟩:=pl.isList
  exact⟨o,TN _ ho,c,n,d⟩
 ·rw[vy r' hv];exact RQ hQ
 ·have e:UW.toArray.size=bs.length:=by rw[O9,← r'.length,OZ]
  rw[e,any_range]
  exact⟨.bl _,H,I.kept λb o e=>hk b o (λz=>UJ (TQ e) (by rw[O0.mp z];exact Q3 _)) (TN _ e),rfl,q⟩
theorem oy {K:Uk}{R:Hp}:∀{vs:List V} {xs:List Bool},PySem.Paired (cU.R K R) vs xs->vs=xs.map V.bl
 | _,_,.nil=>rfl
 | _,_,.cons h t=>by rw[PH,← oy t];exact congrArg (· ::_) h
theorem Dk {x:Str}{id:String}{r:List V->Hp->VK->Prop}{p:Pos}{ra:Rep α}{rb:Rep β}{y:α}{z:β}(hc:eX X (.builtin id) r)(hm:X.mg x=none)(hv:Se x=some (.builtin id))(ha:EV X a Γ ra y Γ1)
 (h:∀(R H:Hp) v Q,av R H->ra.R X.K R v y->(∀w,rb.R X.K R w z->Q w H)->r [v] H Q) (hs:RC [a] X.env=[(false,eval a X.env)]:=by rfl) (hg:Gl X x:=by rfl) (hn:x≠"__name__":=by decide) (VE:Vd x:=by decide):
 EV X (.Call (.Name x p) [a] [] pos) Γ rb z Γ1:=by
 intro σ H0 R0 H R E Q q
 exact eS (eh hc hg hm hv (aM aL bB hs) hn VE hs) (ha σ H0 R0 H R E _ λv H1 R1 E1 s1 e1=>h R1 H1 v _ E1.sub e1 λw hw=>q w H1 R1 E1 s1 hw)
theorem pZ {p:Pos}{bs:List Bool}(hm:X.mg "all"=none)(ha:EV X a Γ (ae cU) bs Γ1)(hs:RC [a] X.env=[(false,eval a X.env)]:=by rfl)(hc:X.calm=true:=by rfl)(hg:Gl X "all":=by rfl):EV X (.Call (.Name "all" p) [a] [] pos) Γ cU (bs.all id) Γ1:=
 Dk (Cb hc) hm boot_all ha (λR H v Q s ⟨p,vs,e,hp,pp,_⟩ q=>⟨p,bs,by rw[e],by rw[← oy pp];exact aU.of (s _ _ hp),q _ rfl⟩) hs hg
theorem GB {p:Pos}{bs:List Bool}(hm:X.mg "any"=none)(ha:EV X a Γ (ae cU) bs Γ1)(hs:RC [a] X.env=[(false,eval a X.env)]:=by rfl)(hc:X.calm=true:=by rfl)(hg:Gl X "any":=by rfl):EV X (.Call (.Name "any" p) [a] [] pos) Γ cU (bs.any id) Γ1:=
 Dk (B3 hc) hm boot_any ha (λR H v Q s ⟨p,vs,e,hp,pp,_⟩ q=>⟨p,bs,by rw[e],by rw[← oy pp];exact aU.of (s _ _ hp),q _ rfl⟩) hs hg
theorem wW {p:Pos}{b:Bool}(hm:X.mg "int"=none)(ha:EV X a Γ cU b Γ1)(hs:RC [a] X.env=[(false,eval a X.env)]:=by rfl)(hg:Gl X "int":=by rfl):EV X (.Call (.Name "int" p) [a] [] pos) Γ ah (if b then 1 else 0) Γ1:=by
 intro σ H0 R0 H R E Q q
 exact eS (gE zV hg hm PyProof.Rows.boot_int (aM aL bB hs) (by decide) (by decide) hs) (ha σ H0 R0 H R E _ λv H1 R1 E1 s1 e1=>.inr ⟨b,by rw[show v=V.bl b from e1],q _ H1 R1 E1 s1 rfl⟩)
theorem uR {p:Pos}{r:Rep α}{xs:List α}(hm:X.mg "list"=none)(ha:EV X a Γ (ae r) xs Γ1)(hs:RC [a] X.env=[(false,eval a X.env)]:=by rfl)(hg:Gl X "list":=by rfl):aZ X (.Call (.Name "list" p) [a] [] pos) Γ r xs Γ1:=by
 intro σ H0 R0 H R E Q q
 refine eS (gE uS hg hm Rv (aM aL bB hs) (by decide) (by decide) hs) (ha σ H0 R0 H R E _ λv H1 R1 E1 s1 e1=>?_)
 obtain⟨p,vs,rfl,hp,pp,z⟩:=e1
 exact⟨p,vs,rfl,.inl (aU.of (E1.sub _ _ hp)),λl hl=>q l vs _ R1 (E1.grow (Ext.dJ E1.sub hl _)) s1 aA (E1.sub.free hl) (E1.ext.h.free hl) (E1.off hl) pp z⟩
theorem wc {b:Expr}{p:Pos}{x y:Int}(hm:X.mg "min"=none)(ha:HA X [a,b] Γ [⟨ah,x⟩,⟨ah,y⟩] Γ1)(hs:RC [a,b] X.env=(false,eval a X.env)::RC [b] X.env:=by rfl)(hc:X.calm=true:=by rfl)(hg:Gl X "min":=by rfl)(Ve:(RM pos (RC [b] X.env)).any (·.1)=false:=by rfl):EV X (.Call (.Name "min" p) [a,b] [] pos) Γ ah (if y<x then y else x) Γ1:=by
 intro σ H0 R0 H R E Q q
 refine eS (eh (yV hc) hg hm PyProof.Rows.boot_min mf (by decide) (by decide) hs Ve) (ha σ H0 R0 H R E _ λvs H1 R1 E1 s1 p1=>?_)
 cases p1 with
 | cons a1 t=>cases t with
   | cons a2 t2=>cases t2;cases a1;cases a2;exact⟨x,y,rfl,q _ H1 R1 E1 s1 rfl⟩
end
def Src (K:Uk)(J:It)(R1:Hp){α:Type}(r:Rep α)(xs:List α):Prop:=
 ∀(H' R':Hp),av R1 R'->av R' H'->∀i:Nat,(∀x,xs[i]?=some x->J.go i H'/\∀v H2,J.Yz i H' v H2->∃R2,Ext H' R' H2 R2/\r.R K R2 v x)/\(xs.length<=i->J.stop i H')
section
variable {X:Cx}{Γ Γ1 Γ2 Γ3:Ga}{α β γ δ:Type}{N:Ga->Prop}{T:RT}
variable {tg:Expr}{xs:List α}{iter:Expr}{bf:α->Ga->Ga}{pos:Pos}{elt:Expr}{ifs:OG}{scope:Scope}{fr:OC}{ix:List Nat}{ra:Rep α}{rb:Rep β}{f:α->β}
def IV (X:Cx)(tg iter:Expr)(Γ:Ga){α:Type}(r:Rep α)(xs:List α)(Γ1:Ga):Prop:=
 ∃wi,PI X tg iter wi/\∀(σ:St) (H0 R0 H R:Hp),au X.K σ H0 R0 H R Γ->∀Rq:It->Hp->Prop,(∀J H1 R1,au X.K σ H0 R0 H1 R1 Γ1->av R R1->xs.length<=RE->Src X.K J R1 r xs->Rq J H1)->wi σ H Rq
theorem bX {r:Rep α}(h:EV X iter Γ (ae r) xs Γ1):IV X tg iter Γ r xs Γ1:=by
 refine⟨_,wD aL,λσ H0 R0 H R E Rq q=>h σ H0 R0 H R E _ λv H1 R1 E1 s1 e1=>?_⟩
 obtain⟨a,vs,rfl,ha,pp,z⟩:=e1
 refine⟨a,rfl,⟨vs,aU.of (E1.sub _ _ ha)⟩,q _ H1 R1 E1 s1 z λH' R' sR sH i=>⟨λx hx=>?_,λhi=>?_⟩⟩
 ·have hq:aU X.K H' a vs:=aU.of (sH _ _ (sR _ _ ha))
  obtain⟨v,hv,hr⟩:=dm pp hx
  refine⟨⟨vs,v,hq,hv⟩,λv' H2 hy=>?_⟩
  obtain⟨rfl,hy⟩:=hy
  have:=hy vs hq
  rw[hv] at this
  cases this
  exact⟨R',Ext.refl sH,r.mono sR hr⟩
 ·exact⟨vs,aU.of (sH _ _ (sR _ _ ha)),by rw[pp.length];exact hi⟩
def ups (lo:Int)(n:Nat):OB:=(Pm n).map λ(k:Nat)=>lo+(k:Int)
theorem ba (lo:Int)(n:Nat):(ups lo n).length=n:=by unfold ups;rw[OZ,Qo]
theorem fm {lo:Int}{n i:Nat}{x:Int}(h:(ups lo n)[i]?=some x):i<n/\x=lo+(i:Int):=by
 have hi:i<n:=by have:=(OW.mp h).1;rwa [ba] at this
 refine⟨hi,?_⟩
 unfold ups at h
 rw[O5,P1 hi] at h
 exact(Option.some.inj h).symm
theorem vV {K:Uk}{R1:Hp}(lo:Int)(n:Nat):Src K (y4 lo n) R1 ah (ups lo n):=λH' R' sR sH i=>⟨λx hx=>by
 obtain⟨h1,rfl⟩:=fm hx
 refine⟨h1,λv H2 hy=>?_⟩
 obtain⟨rfl,rfl⟩:=hy
 exact⟨R',Ext.refl sH,rfl⟩,λhi=>by rw[ba] at hi;exact hi⟩
theorem dD {a:Expr}{p1 p2:Pos}{n:Int}(hm:X.mg "range"=none)(ha:EV X a Γ ah n Γ1)(hn: -(2 ^ 62)<=n/\n<=1000000)(XR:RC [a] X.env=[(false,eval a X.env)]:=by rfl)(hg:Gl X "range":=by rfl):IV X tg (.Call (.Name "range" p1) [a] [] p2) Γ ah (ups 0 n.toNat) Γ1:=by
 refine⟨_,zC hg hm (aM aL bB XR) XR,λσ H0 R0 H R E Rq q=>ha σ H0 R0 H R E _ λv H1 R1 E1 s1 e1=>?_⟩
 exact⟨n,by rw[show v=V.int n from e1],hn.1,by omega,q _ H1 R1 E1 s1 (by rw[ba];exact QX (show n.toNat<=1000000 by omega) (by decide)) (vV 0 n.toNat)⟩
theorem AQ {a b:Expr}{p1 p2:Pos}{m n:Int}(hm:X.mg "range"=none)(ha:EV X a Γ ah m Γ1)(hb:EV X b Γ1 ah n Γ2)(hn: -1000000<=m/\m<=1000000/\ -1000000<=n/\n<=1000000)
 (XR:RC [a,b] X.env=[(false,eval a X.env),(false,eval b X.env)]:=by rfl) (Vv:RC [b] X.env=[(false,eval b X.env)]:=by rfl) (hg:Gl X "range":=by rfl):IV X tg (.Call (.Name "range" p1) [a,b] [] p2) Γ ah (ups m (n-m).toNat) Γ2:=by
 refine⟨_,An hg hm (aM aL (aM aL bB Vv) (by rw[XR,Vv])) XR Vv,λσ H0 R0 H R E Rq q=>ha σ H0 R0 H R E _ λv H1 R1 E1 s1 e1=>hb σ H0 R0 H1 R1 E1 _ λu H2 R2 E2 s2 e2=>?_⟩
 exact⟨m,n,by rw[show v=V.int m from e1,show u=V.int n from e2],⟨by omega,by omega,by omega,by omega⟩,q _ H2 R2 E2 (s1.trans s2) (by rw[ba];exact QX (show(n-m).toNat<=2000000 by omega) (by decide)) (vV m (n-m).toNat)⟩
theorem cJ {body:List Stmt}{r:Rep α}(I:Nat->Ga->Prop)(hit:IV X tg iter Γ r xs Γ1)(hb:BG X tg r bf)(h0:I 0 Γ1)
 (VF:∀(i:Nat) (x:α) (Γ:Ga),xs[i]?=some x->I i Γ->WS X body (bf x Γ) (I (i+1)) T) (VY:∀Γ:Ga,I xs.length Γ->N Γ)
 (hc:X.calm=true:=by rfl) (hp:S0 (model X.prog X.w) X.A X.env X.xe:=by exact S0.never) (hs:∀x,RY iter X.env x=pure x:=by intro _;rfl):W1 X (.For tg iter body [] pos) Γ N T:=λσ H0 R0 H R E D dn dr=>by
 obtain⟨wi,hi,hit⟩:=hit
 refine sS (yH hp hc hi M7 i9 hs) (hit σ H0 R0 H R E _ λJ H1 R1 E1 s1 hz src=>?_)
 refine⟨λi m σ' H'=>m=xs.length-i/\i<=xs.length/\∃R' Γ',au X.K σ' H0 R0 H' R' Γ'/\av R1 R'/\I i Γ',⟨_,rfl,QY _,R1,Γ1,E1,av.refl _,h0⟩,?_⟩
 rintro i m σ' H' ⟨rfl,hle,R',Γ',E',s',hI⟩
 obtain⟨YR,Wg⟩:=src H' R' s' E'.sub i
 by_cases VJ:i<xs.length
 ·obtain⟨go,yl⟩:=YR _ (OX VJ)
  refine .inr ⟨go,λσ' H'=>i+1<=xs.length/\∃R' Γ',au X.K σ' H0 R0 H' R' Γ'/\av R1 R'/\I (i+1) Γ',λσ2 H2 h=>⟨xs.length-(i+1),by omega,rfl,h.1,h.2⟩,λv H2 hy=>?_⟩
  obtain⟨R2,x2,hr⟩:=yl v H2 hy
  refine hb σ' H0 R0 H2 R2 Γ' v _ (E'.grow x2) hr _ λσ2 E2=>?_
  exact VF i _ Γ' (OX VJ) hI σ2 H0 R0 H2 R2 E2 _ (λσ3 H3 R3 Γ3 E3 s3 h3=>⟨VJ,R3,Γ3,E3,s'.trans (x2.r.trans s3),h3⟩) dr
 ·have e:i=xs.length:=by omega
  subst e
  exact .inl ⟨Wg (QW _),dn σ' H' R' Γ' E' (s1.trans s') (VY Γ' hI)⟩
def x6:Option Ent->Ent
 | some (.im r x)=>.im r x
 | _=>.no
def dF (own:OC)(ix:List Nat)(Γ:Ga):Ga:=Qn own.length .no++ix.map λi=>x6 Γ[i]?
theorem ux {K:Uk}{σ:St}{H0 R0 H R:Hp}(E:au K σ H0 R0 H R Γ)(own:OC)(ix:List Nat):au K (gu own ix σ) H R H R (dF own ix Γ):=by
 have Vh:∀(i:Nat) (e:Ent) (o:Option V),(dF own ix Γ)[i]?=some e->e.fp o=[]:=λi e o q=>by
  unfold dF at q
  rcases Pa.mp (O6 q) with z | z
  ·obtain⟨_,rfl⟩:=QH.mp z;rfl
  ·obtain⟨k,_,rfl⟩:=Pe.mp z
   unfold x6
   split<;>rfl
 refine⟨Ext.refl E.sub,λi e q=>?_,λi e a q w=>UJ w (by rw[Vh i e _ q];exact Pu),λi j e e' a q _ w=>UJ w (by rw[Vh i e _ q];exact Pu),by unfold dF gu;simp⟩
 unfold dF at q
 unfold gu
 by_cases hi:i<own.length
 ·rw[Pr (by simpa using hi),Qk] at q
  rw[UL hi] at q
  cases q;trivial
 ·rw[Pp (by simpa using hi),P8,O5] at q
  rw[Pp (by simpa using hi),P8,O5]
  cases ek:ix[i-own.length]? with
  | none=>rw[ek] at q;cases q
  | some k=>
    rw[ek] at q
    have q':x6 Γ[k]?=e:=Option.some.inj q
    subst q'
    show(x6 Γ[k]?).ok K H R (σ[k]?).join
    cases eg:Γ[k]? with
    | none=>trivial
    | some e=>
      cases e with
      | im r x=>exact E.ent k _ eg
      | no=>trivial
      | mu r x=>trivial
      | di x=>trivial
      | ob x=>trivial
theorem rN {cl:List (Str×Addr)}{own:OC}{p:α->Bool}{J:It}{σ:St}{H0 R0 H1 R1:Hp}{Q:VK}(E1:au X.K σ H0 R0 H1 R1 Γ1)(src:Src X.K J R1 ra xs)(hz:xs.length<=RE)
 (hb:∀(C:Addr) (s:RA) (H:Hp) (ex:OE),BG (bu X scope cl C (own++fr) s H ex) tg ra bf) (hw:∀x,Wk (bf x (dF own ix Γ1)) (dF own ix Γ1))
 (ht:∀(C:Addr) (s:RA) (H:Hp) (ex:OE) x,x∈xs->TF (bu X scope cl C (own++fr) s H ex) ifs (bf x (dF own ix Γ1)) (p x) (bf x (dF own ix Γ1)))
 (he:∀(C:Addr) (s:RA) (H:Hp) (ex:OE) x,x∈xs->p x=true->EV (bu X scope cl C (own++fr) s H ex) elt (bf x (dF own ix Γ1)) rb (f x) (bf x (dF own ix Γ1)))
 (q:∀a vs H' R',Ext H1 R1 H' R'->H' a=none->PySem.Paired (rb.R X.K R') vs ((xs.filter p).map f)->Q (.ref a) (upd H' a (.lst vs))):
 ∃W:Nat->Nat->List V->St->Hp->Prop,(∃m,W 0 m [] (gu own ix σ) H1)/\∀i m ys σ' H',W i m ys σ' H'->
  ys.length<=RE/\((J.stop i H'/\∀p,H' p=none->Q (.ref p) (upd H' p (.lst ys)))∨
  (J.go i H'/\∀x H2,J.Yz i H' x H2->(λv σ H Q=>∀C s Hh ex,my (bu X scope cl C (own++fr) s Hh ex) tg v σ H Q:TG) x σ' H2 λσ2 H3=>(λσ H Q=>∀C s Hh ex,oa (bu X scope cl C (own++fr) s Hh ex) ifs σ H Q:TT) σ2 H3 λb H4=>
    if b=true then(λσ H Q=>∀C s Hh ex,eZ (bu X scope cl C (own++fr) s Hh ex) elt σ H Q:TE) σ2 H4 λv H5=>∃m',m'<m/\W (i+1) m' (ys++[v]) σ2 H5 else∃m',m'<m/\W (i+1) m' ys σ2 H4)):=by
 refine⟨λi m ys σ' H'=>m=xs.length-i/\i<=xs.length/\∃R',au X.K σ' H1 R1 H' R' (dF own ix Γ1)/\PySem.Paired (rb.R X.K R') ys (((xs.take i).filter p).map f),⟨_,rfl,QY _,R1,ux E1 own ix,.nil⟩,?_⟩
 rintro i m ys σ' H' ⟨rfl,hle,R',E',pp⟩
 have hys:ys.length<=RE:=by
  rw[pp.length,OZ]
  refine QX (Qp _ _) (QX ?_ hz)
  rw[Pl];omega
 obtain⟨YR,Wg⟩:=src H' R' E'.ext.r E'.sub i
 refine⟨hys,?_⟩
 by_cases VJ:i<xs.length
 ·obtain⟨go,yl⟩:=YR _ (OX VJ)
  have WB:xs[i]∈xs:=PD VJ
  have tk:(xs.take (i+1))=xs.take i++[xs[i]]:=by rw[PJ,OX VJ];rfl
  refine .inr ⟨go,λv H2 hy C s Hh ex=>?_⟩
  obtain⟨R2,x2,hr⟩:=yl v H2 hy
  refine hb C s Hh ex σ' H1 R1 H2 R2 _ v _ (E'.grow x2) hr _ λσ2 E2=>?_
  intro C s Hh ex
  refine ht C s Hh ex _ WB σ2 H1 R1 H2 R2 E2 _ λH4 R4 E4 s4=>?_
  cases hpx:p xs[i] with
  | false=>
    rw[UK OJ]
    refine⟨xs.length-(i+1),by omega,rfl,VJ,R4,E4.weak (hw _),?_⟩
    rw[tk,Qb,List.filter_cons,hpx,UK OJ,List.filter_nil,Px]
    exact Paired.map (λ_ _=>rb.mono (x2.r.trans s4)) pp
  | true=>
    rw[UL rfl]
    intro C s Hh ex
    refine he C s Hh ex _ WB hpx σ2 H1 R1 H4 R4 E4 _ λw H5 R5 E5 s5 e5=>?_
    refine⟨xs.length-(i+1),by omega,rfl,VJ,R5,E5.weak (hw _),?_⟩
    rw[tk,Qb,List.filter_cons,hpx,UL rfl,List.filter_nil,Ph]
    exact dh (Paired.map (λ_ _=>rb.mono (x2.r.trans (s4.trans s5))) pp) (.cons e5 .nil)
 ·have e:i=xs.length:=by omega
  subst e
  rw[PK] at pp
  exact .inl ⟨Wg (QW _),λa ha=>q a ys H' R' E'.ext ha pp⟩
theorem bY {cl:List (Str×Addr)}{own:OC}{p:α->Bool}
 (S:eR X scope cl own fr ix) (hit:IV X tg iter Γ ra xs Γ1)
 (hb:∀(C:Addr) (s:RA) (H:Hp) (ex:OE),BG (bu X scope cl C (own++fr) s H ex) tg ra bf) (hw:∀x,Wk (bf x (dF own ix Γ1)) (dF own ix Γ1))
 (ht:∀(C:Addr) (s:RA) (H:Hp) (ex:OE) x,x∈xs->TF (bu X scope cl C (own++fr) s H ex) ifs (bf x (dF own ix Γ1)) (p x) (bf x (dF own ix Γ1)))
 (he:∀(C:Addr) (s:RA) (H:Hp) (ex:OE) x,x∈xs->p x=true->EV (bu X scope cl C (own++fr) s H ex) elt (bf x (dF own ix Γ1)) rb (f x) (bf x (dF own ix Γ1)))
 (hc:X.calm=true:=by rfl) (hs:∀x,RY iter X.env x=pure x:=by intro _;rfl):aZ X (.ListComp elt [⟨tg,iter,ifs,0⟩] scope pos) Γ rb ((xs.filter p).map f) Γ1:=by
 intro σ H0 R0 H R E Q q
 obtain⟨wi,hi,hit⟩:=hit
 refine eS (EM (g:=λv σ H Q=>∀C s Hh ex,my (bu X scope cl C (own++fr) s Hh ex) tg v σ H Q) (tc:=λσ H Q=>∀C s Hh ex,oa (bu X scope cl C (own++fr) s Hh ex) ifs σ H Q) (te:=λσ H Q=>∀C s Hh ex,eZ (bu X scope cl C (own++fr) s Hh ex) elt σ H Q) hc S hi
  (λC s H ex=>⟨λUT s1 σ H v u Q I r h=>h C s _ ex UT s1 u I r,λUT s1 σ H Q I h=>h C s _ ex UT s1 I,λUT s1 σ H Q I h=>h C s _ ex UT s1 I⟩) hs) ?_
 refine hit σ H0 R0 H R E _ λJ H1 R1 E1 s1 hz src=>rN E1 src hz hb hw ht he λa vs H' R' xx ha pp=>?_
 have E2:=E1.grow xx
 exact q a vs _ R' (E2.grow (Ext.dJ E2.sub ha _)) (s1.trans xx.r) aA (E2.sub.free ha) (E2.ext.h.free ha) (E2.off ha) pp (by
  rw[OZ];exact QX (Qp _ _) hz)
theorem kY (i:Nat){y:Str}{py Wh:Pos}{cl:List (Str×Addr)}{own:OC}{p:α->Bool}
 (S:eR X scope cl own fr ix) (hit:IV X tg iter Γ ra xs Γ1)
 (hb:∀(C:Addr) (s:RA) (H:Hp) (ex:OE),BG (bu X scope cl C (own++fr) s H ex) tg ra bf) (hw:∀x,Wk (bf x (dF own ix Γ1)) (dF own ix Γ1))
 (ht:∀(C:Addr) (s:RA) (H:Hp) (ex:OE) x,x∈xs->TF (bu X scope cl C (own++fr) s H ex) ifs (bf x (dF own ix Γ1)) (p x) (bf x (dF own ix Γ1)))
 (he:∀(C:Addr) (s:RA) (H:Hp) (ex:OE) x,x∈xs->p x=true->EV (bu X scope cl C (own++fr) s H ex) elt (bf x (dF own ix Γ1)) rb (f x) (bf x (dF own ix Γ1)))
 (h:N (Γ1.set i (.mu rb ((xs.filter p).map f))))
 (VR:RN (.ListComp elt [⟨tg,iter,ifs,0⟩] scope pos) (some (.Name y py)) Wh.line X.env=pure true:=by rfl)
 (hN:X.N.Nodup:=by first | assumption | decide) (Zq:X.N[i]?=some y:=by rfl) (hx:autoParam (Loc X.env.scope y) Wv)
 (hc:X.calm=true:=by rfl) (hs:∀x,RY iter X.env x=pure x:=by intro _;rfl) (hf:autoParam (X.fn y=true∨X.env.scope.names.lookup y=some .local) Wu):
 W1 X (.Assign [.Name y py] (.ListComp elt [⟨tg,iter,ifs,0⟩] scope pos) Wh) Γ N T:=λσ H0 R0 H R E D dn dr=>by
 obtain⟨wi,hi,hit⟩:=hit
 refine sS (pP (i:=i) (g:=λv σ H Q=>∀C s Hh ex,my (bu X scope cl C (own++fr) s Hh ex) tg v σ H Q) (tc:=λσ H Q=>∀C s Hh ex,oa (bu X scope cl C (own++fr) s Hh ex) ifs σ H Q) (te:=λσ H Q=>∀C s Hh ex,eZ (bu X scope cl C (own++fr) s Hh ex) elt σ H Q) VR hN Zq hx hc S hi
  (λC s H ex=>⟨λUT s1 σ H v u Q I r h=>h C s _ ex UT s1 u I r,λUT s1 σ H Q I h=>h C s _ ex UT s1 I,λUT s1 σ H Q I h=>h C s _ ex UT s1 I⟩) hs hf) ?_
 refine hit σ H0 R0 H R E _ λJ H1 R1 E1 s1 hz src=>rN (Q:=λv H'=>D.nx (σ.set i (some v)) H') E1 src hz hb hw ht he λa vs H' R' xx ha pp=>?_
 have E2:=E1.grow xx
 exact dn _ _ R' _ ((E2.grow (Ext.dJ E2.sub ha _)).yo (u:=.lst vs) (en:=.mu rb ((xs.filter p).map f)) i ⟨a,vs,rfl,aA,E2.sub.free ha,pp⟩ (E2.ext.h.free ha) λj e _ q w=>E2.off ha j e q w) (s1.trans xx.r) h
end
section
variable {X:Cx}{Γ Γ1 Γ2 Γ3:Ga}{α β γ δ:Type}{N:Ga->Prop}{T:RT}
variable {UT:OA}{σ:St}{H:Hp}{s:RA}{K:Uk}{es:OG}{tp pos:Pos}{xs:List α}{r:Rep α}
theorem js {h':Heap}{t':Nat}{fp:OE}(I:Inv X UT σ H s)(k:∀b o,b∉fp->s.heap.get? b=some o->h'.get? b=some o)(hf:∀b∈fp,jJ X UT H b):Inv X UT σ H {s with heap:=h',toks:=t'}:=by
 have YZ:∀b u,H b=some u->b∉fp:=λb u e z=>by rw[(hf b z).1] at e;cases e
 refine I.step (g':=s.gens) (d':=s.drawn) (ch:=fp) (λb hb=>⟨(hf b hb).2.2.2.1,(hf b hb).2.1,(hf b hb).2.2.2.2.1,(hf b hb).2.2.2.2.2⟩) (λb o _ _ hc e _=>k b o hc e) (λb o _ _ hc e _=>⟨o.slots,k b o hc e⟩) (λ_ _ _ _ n=>n)
  (λb o hc e=>⟨o,k b o hc e⟩) (λ_ _ e=>e) (λ_ _ _ e=>e) (λb ps e=>⟨#[],by rw[e];simp⟩) (λm hm=>?_) (λb u e=>?_) I.bare
 ·obtain⟨o,es,ep,ho,r⟩:=hm
  exact⟨o,es,ep,k _ o (λz=>(hf _ z).2.1 rfl) ho,r⟩
 ·refine(I.UZ b u e).Vt (λc v hc q=>k c v ?_ q) (λ_ q=>q) λ_ _ q=>q
  rcases hc with z | z
  ·rw[z];exact YZ b u e
  ·exact YZ c _ z
theorem adopt {a:Addr}{o:HO}(I:Inv X UT σ H s)(hf:jJ X UT H a)(hy:X.s₀.heap.objs.size<=a)(new:cN X.prog X.w (upd H a o) s.heap a o):Inv X UT σ (upd H a o) s:=by
 have ne:∀{b:Addr} {u:HO},H b=some u->b≠a:=λe=>cT e hf.1
 have ne0:∀{b:Addr} {u:Obj},X.s₀.heap.get? b=some u->b≠a:=λe z=>UJ (Q0 (TQ e) hy) (by rw[z];exact Q3 _)
 refine⟨I.ok,I.os,I.bare,⟨I.base.keep,I.base.slot,λb u e n hx=>by rw[aB (ne0 e)];exact I.base.free b u e n hx,I.base.there,λb xs e=>?_,λb u v e=>?_,λb ps e=>?_⟩,I.loc,I.cell,?_,λx c e=>?_,λp hp=>?_,λb u e=>?_,I.len⟩
 ·have q:=I.base.V7 b xs e;rw[aB (ne q)];exact q
 ·have q:=I.base.V3 b u v e;rw[aB (ne q)];exact q
 ·obtain⟨m,q⟩:=I.base.V8 b ps e;exact⟨m,by rw[aB (ne q)];exact q⟩
 ·rw[aB (Rk hf.2.1)];exact I.free
 ·rw[aB (hf.2.2.2.2.1 x c e)];exact I.VB x c e
 ·obtain⟨e,n,r⟩:=I.pin p hp
  exact⟨e,by rw[aB (hf.2.2.2.2.2 p hp)];exact n,r⟩
 ·by_cases hb:b=a
  ·subst hb;rw[aA] at e;cases e;exact new
  ·rw[aB hb] at e
   exact(I.UZ b u e).Vt (λc v _ q=>q) (λc q=>by rw[aB (ne q)];exact q) λc xs q=>by rw[aB (ne q)];exact q
def MC (K:Uk)(a:Addr):It:=
 ⟨λi H=>∃xs x,aU K H a xs/\xs[i]?=some x,λi H v H'=>∃p x,H p=none/\v= .ref p/\H'=upd H p (.tup [.int i,x])/\∀xs,aU K H a xs->xs[i]?=some x,λi H=>∃xs,aU K H a xs/\xs.length<=i⟩
theorem Az {P:RJ}{w:World}{k:Nat}(a e it:Addr)(hei:e≠it):Turn P w K (.Tuple es k tp) (MC K a) [e,it] e (λi h=>(∃old,IsEnum h e it i old)/\h.IsListIter it a i) where
 mem:=by simp
 obj:=λi h st b hb=>by
  obtain⟨⟨old,he⟩,o,ho,hc,hd⟩:=st
  rcases O7.mp hb with rfl | hb
  ·exact⟨_,he,λv z=>by cases z⟩
  ·have e2:b=it:=by simpa using hb
   subst e2
   exact⟨o,ho,λv z=>by rw[hd] at z;cases z⟩
 keep:=λi h h' st kk=>⟨st.1.elim λold he=>⟨old,kk e (by simp) _ he⟩,st.2.at λo x=>kk it (by simp) o x⟩
 item:=by
  intro X hP hw hK hc i UT s σ H E I hf st hg
  subst hP hw hK
  obtain⟨⟨old,he⟩,hit⟩:=st
  obtain⟨xs,x,hq,hx⟩:=hg
  obtain⟨UW,r,pl,hz⟩:=I.list hq
  obtain⟨u,hu,rx⟩:=r.get hx
  have hn:H s.heap.objs.size=none:=I.UZ.fresh (QW _)
  refine wpAny_pyNext_enum_item he hit pl.isList (x:=u) (by simpa using hu) hei λh' ho hit' hT hsz hk=>?_
  refine⟨_,rfl,?_⟩
  refine wpAny_letOwnedTupleGo_enum (s:={s with heap:=h',toks:=s.toks+1}) ho λh2 he2 Vv=>?_
  have W3:∀b o,b∉[e,it]->s.heap.get? b=some o->h2.get? b=some o:=λb o hb q=>by
   have Xm:b≠e:=λz=>hb (by simp[z])
   exact Vv.extBut b o Xm (hk b o Xm (λz=>hb (by simp[z])) q)
  have I1:Inv X UT σ H {s with heap:=h2,toks:=s.toks+1}:=js I W3 hf
  have hel:e≠s.heap.objs.size:=Q1 (TQ he)
  have ZC:h2.get? s.heap.objs.size=some {cls:=.type "tuple",data:=.seq #[.int i s.toks,u]}:=(Vv.2 _ (Rk hel)).trans hT
  have I2:Inv X UT σ (upd H s.heap.objs.size (.tup [.int i,x])) {s with heap:=h2,toks:=s.toks+1}:=
   adopt I1 (I.gQ (QW _) hn) (I.sz) ⟨by show 2<=RE;decide,[.int i s.toks,u],.cons ⟨_,rfl⟩ (.cons rx .nil),⟨_,ZC,rfl,_,rfl⟩⟩
  refine⟨.ref s.heap.objs.size,_,I2,rfl,⟨s.heap.objs.size,x,hn,rfl,rfl,λys hy=>?_⟩,⟨⟨u,by simpa using he2⟩,hit'.at λo y=>(Vv.2 it (Rk hei)).trans y⟩,λb hb=>?_⟩
  ·rw[I.iH hy hq];exact hx
  ·have VJ:b<s.heap.objs.size:=by
    rcases O7.mp hb with rfl | hb
    ·exact TQ he
    ·have e2:b=it:=by simpa using hb
     subst e2
     obtain⟨o,ho,_⟩:=hit
     exact TQ ho
   rw[aB (Q1 VJ)]
   exact(hf b hb).1
 done:=by
  intro X hP hw hK hc i UT s σ H E I hf st hg
  subst hP hw hK
  obtain⟨⟨old,he⟩,hit⟩:=st
  obtain⟨xs,hq,hx⟩:=hg
  obtain⟨UW,r,pl,hz⟩:=I.list hq
  refine wpAny_pyNext_enum_end (I.ok.hd hc) he hit pl.isList (by have:=r.length;simp;omega) λh' hk=>⟨rfl,?_⟩
  exact js (t':=s.toks) I (λb o hb q=>hk b o (λz=>hb (by simp[z])) q) hf
 self:=λ_ _ _ _ _ st h=>st.1.elim λold he=>wpAny_pyIter_enum he h
def Lk (K:Uk)(ta:TA):TI:=λσ H R=>ta σ H λvs H1=>∃a xs,vs=[.ref a]/\aU K H1 a xs/\R (MC K a) H1
theorem FN {a:Expr}{ta:TA}{p:Pos}{k:Nat}(hg:Gl X "enumerate")(hm:X.mg "enumerate"=none)(ha:PA X [a] ta)(hs:RC [a] X.env=[(false,eval a X.env)]:=by rfl):PI X (.Tuple es k tp) (.Call (.Name "enumerate" p) [a] [] pos) (Lk X.K ta):=by
 intro UT s σ H R I h
 refine Call_ (gq I hg hm boot_enumerate (Rr (aT (ha pos UT s σ H _ I h) λus s1 ⟨vs,H1,I1,r1,q1⟩=>?_) hs rfl))
 obtain⟨l,xs,e,hq,q⟩:=q1
 subst e
 cases r1 with
 | cons r rr=>
   cases rr
   cases r
   obtain⟨UW,r',pl,hz⟩:=I1.list hq
   refine call_enumerate_list pl.isList λh' he hit hsz hk=>?_
   refine wpAny_pyIter_enum he ?_
   have I2:Inv X UT σ H1 {s1 with heap:=h'}:=I1.kept (t':=s1.toks) hk
   have f0:H1 s1.heap.objs.size=none:=I1.UZ.fresh (QW _)
   have f1:H1 (s1.heap.objs.size+1)=none:=I1.UZ.fresh (Q6 _)
   refine⟨s1.heap.objs.size+1,[s1.heap.objs.size+1,s1.heap.objs.size],_,_,H1,rfl,I2,Az l (s1.heap.objs.size+1) s1.heap.objs.size (Q9 (Q7 _)),⟨⟨.none,he⟩,hit⟩,λb hb=>?_,q⟩
   rcases O7.mp hb with rfl | hb
   ·exact I1.gQ (Q6 _) f1
   ·have e2:b=s1.heap.objs.size:=by simpa using hb
    subst e2
    exact I1.gQ (QW _) f0
def nums (xs:List α):List (Int×α):=(xs.zipIdx).map λp=>((p.2:Int),p.1)
theorem cK (xs:List α):(nums xs).length=xs.length:=by unfold nums;rw[OZ,List.length_zipIdx]
theorem eJ {i:Nat}{y:Int×α}(h:(nums xs)[i]?=some y):y.1=(i:Int)/\xs[i]?=some y.2:=by
 unfold nums at h
 rw[O5,List.getElem?_zipIdx] at h
 cases e:xs[i]? with
 | none=>rw[e] at h;cases h
 | some x=>rw[e] at h;cases h;exact⟨by simp,rfl⟩
theorem iz {a:Expr}{p:Pos}{k:Nat}(hm:X.mg "enumerate"=none)(ha:EV X a Γ (ae r) xs Γ1)(hs:RC [a] X.env=[(false,eval a X.env)]:=by rfl)(hg:Gl X "enumerate":=by rfl):
 IV X (.Tuple es k tp) (.Call (.Name "enumerate" p) [a] [] pos) Γ (eE ah r) (nums xs) Γ1:=by
 refine⟨_,FN hg hm (aM aL bB hs) hs,λσ H0 R0 H R E Rq q=>ha σ H0 R0 H R E _ λv H1 R1 E1 s1 e1=>?_⟩
 obtain⟨a,vs,rfl,hp,pp,z⟩:=e1
 refine⟨a,vs,rfl,aU.of (E1.sub _ _ hp),q _ H1 R1 E1 s1 (by rw[cK];exact z) λH' R' sR sH i=>⟨λy hy=>?_,λhi=>?_⟩⟩
 ·have hq:aU X.K H' a vs:=aU.of (sH _ _ (sR _ _ hp))
  obtain⟨e1,e2⟩:=eJ hy
  obtain⟨v,hv,hr⟩:=dm pp e2
  refine⟨⟨vs,v,hq,hv⟩,λv' H2 Xb=>?_⟩
  obtain⟨p,x,W0,rfl,rfl,hy⟩:=Xb
  have:=hy vs hq
  rw[hv] at this
  cases this
  have s2:av R' (upd R' p (.tup [.int i,v])):=av.fresh (sH.free W0) _
  exact⟨upd R' p (.tup [.int i,v]),Ext.fresh sH W0 _,p,_,_,rfl,aA,by rw[e1];rfl,r.mono s2 (r.mono sR hr)⟩
 ·exact⟨vs,aU.of (sH _ _ (sR _ _ hp)),by rw[pp.length,← cK xs];exact hi⟩
theorem vQ:eX X (.builtin "isinstance") (λxs H Q=>∃x c t b,xs=[x,.ty c]/\fX X.K H x t/\UG X.K t (.type c)=some b/\Q (.bl b) H):=by
 intro UT s σ H xs us Q I r h
 obtain⟨x,c,t,b,rfl,ty,e,q⟩:=h
 obtain⟨u,u2,rfl,r1,r2⟩:=vals2 r
 cases (show u2=Uj c from r2)
 exact Av I r1 ty e λtk=>⟨.bl b,H,I.tok tk,rfl,q⟩
theorem mz {e:Expr}{y:Str}{p p2:Pos}{x:α}{c:String}{t:Value}{b:Bool}(hm:X.mg "isinstance"=none)(hmy:X.mg y=none)(hvy:Se y=some (.type c))(he:EV X e Γ r x Γ1)
 (ty:∀(R H:Hp) v,av R H->r.R X.K R v x->fX X.K H v t) (ht:∀K:Uk,UG K t (.type c)=some b:=by intro;rfl)
 (hs:RC [e,.Name y p2] X.env=(false,eval e X.env)::RC [.Name y p2] X.env:=by rfl) (hg:Gl X "isinstance":=by rfl) (hgy:Gl X y:=by rfl) (hny:y≠"__name__":=by decide) (hdy:Vd y:=by decide):EV X (.Call (.Name "isinstance" p) [e,.Name y p2] [] pos) Γ cU b Γ1:=by
 intro σ H0 R0 H R E Q q
 refine eS (eh vQ hg hm PyProof.Rows.boot_isinstance (aM aL (aM (Gd (v:=.ty c) hgy hmy hvy rfl hny hdy) bB rfl) hs) (by decide) (by decide) hs rfl) (he σ H0 R0 H R E _ λv H1 R1 E1 s1 e1=>?_)
 exact⟨v,c,t,b,rfl,ty R1 H1 v E1.sub e1,ht _,q _ H1 R1 E1 s1 rfl⟩
theorem ty_int {x:Int}(R H:Hp)(v:V)(_:av R H)(h:ah.R K R v x):fX K H v (.type "int"):=by cases h;exact .int _
theorem ty_list (R H:Hp)(v:V)(s:av R H)(h:(ae r).R K R v xs):fX K H v (.type "list"):=by obtain⟨a,vs,rfl,e,_⟩:=h;exact .lst (s _ _ e)
theorem in1_units (A:RL):A.in1.units=A.units+1:=rfl
theorem A9 {X:Cx}{R:Hp}{A:RL}(I:Inv X UT σ H s)(sub:av R H){a b:Addr}{vs ws:List V}{k:Nat->Bool}(ha:R a=some (.tup vs))(hb:R b=some (.tup ws))(hl:vs.length=ws.length)(hu:A.units<cLine)
 (he:∀(us Wd:OF),Vals vs us->Vals ws Wd->∀(j:Nat) (h1:j<us.toArray.size) (h2:j<Wd.toArray.size),T7 A.in1 s us.toArray[j] Wd.toArray[j] (k j)):
 SeqAt.RcAt A s (.ref a) (.ref b) ((Pm vs.length).all k)/\SeqAt.RcNeAt A s (.ref a) (.ref b) (!(Pm vs.length).all k):=by
 obtain⟨us,hv,pl,_⟩:=I.tuple (du.of (sub _ _ ha))
 obtain⟨Wd,hw,V1,_⟩:=I.tuple (du.of (sub _ _ hb))
 have lx:us.toArray.size=vs.length:=by rw[O9,← hv.length]
 have ly:Wd.toArray.size=vs.length:=by rw[O9,← hw.length,hl]
 have r1:=SeqAt.RcAt.tuples (A:=A) pl V1 hu (he us Wd hv hw)
 have r2:=SeqAt.RcNeAt.tuples (A:=A) pl V1 hu (he us Wd hv hw)
 rw[lx,ly,Nat.min_self] at r1 r2
 simp only[beq_self_eq_true,ON] at r1 r2
 exact⟨r1,r2⟩
theorem qv:eX X (.type "range") (λxs H Q=>∃n:Int,xs=[.int n]/\∀p,H p=none->Q (.ref p) (upd H p (.Xi 0 n))):=by
 intro UT s σ H xs us Q I r h
 obtain⟨n,rfl,q⟩:=h
 obtain⟨u,rfl,t,rfl⟩:=vals1 r
 refine call_range_1 ?_
 exact⟨.ref s.heap.objs.size,_,I.laid (o:=.Xi 0 n) (λb o e=>TN _ e) (QW _) ⟨_,_,_,TR _ rfl⟩,rfl,q _ (I.UZ.fresh (QW _))⟩
theorem qm:eX X (.type "range") (λxs H Q=>∃m n:Int,xs=[.int m,.int n]/\∀p,H p=none->Q (.ref p) (upd H p (.Xi m n))):=by
 intro UT s σ H xs us Q I r h
 obtain⟨m,n,rfl,q⟩:=h
 obtain⟨u,u2,rfl,⟨t,rfl⟩,⟨t2,rfl⟩⟩:=vals2 r
 refine call_range_2 ?_
 exact⟨.ref s.heap.objs.size,_,I.laid (o:=.Xi m n) (λb o e=>TN _ e) (QW _) ⟨_,_,_,TR _ rfl⟩,rfl,q _ (I.UZ.fresh (QW _))⟩
theorem mq (hc:X.calm=true):eX X (.type "list") (λxs H Q=>∃(p:Addr) (m n:Int),xs=[.ref p]/\H p=some (.Xi m n)/\ -1000000<=m/\m<=1000000/\ -1000000<=n/\n<=1000000/\∀d,H d=none->Q (.ref d) (upd H d (.lst ((ups m (n-m).toNat).map V.int)))):=by
 intro UT s σ H xs us Q I r h
 obtain⟨p,m,n,rfl,hp,m1,m2,n1,n2,q⟩:=h
 obtain⟨u,rfl,rx⟩:=vals1 r
 cases rx
 obtain⟨t,t2,t3,ho⟩:=I.UZ p _ hp
 have hsz:Tj m n 1=(((n-m).toNat:Nat):Int):=by rw[rangeSize_one];split<;>omega
 refine call_list_range (I.ok.hd hc) ho (small_one (by omega) (by omega) (by omega) (by omega)) hsz (by omega) λh' tk acc c' hk hS ZA=>?_
 have vals:Vals ((ups m (n-m).toNat).map V.int) acc.toList:=by
  have key:∀(k:Nat) (UW:OF) (lo:Int),UW.length=k->(∀(j:Nat) v,UW[j]?=some v->∃t,v= .int (lo+(j:Int)*1) t)->Vals ((ups lo k).map V.int) UW:=by
   intro k
   induction k with
   | zero=>intro UW lo hl _;cases UW with
     | nil=>exact .nil
     | cons _ _=>cases hl
   | succ k ih=>
     intro UW lo hl hv
     cases UW with
     | nil=>cases hl
     | cons v r=>
       have e:ups lo (k+1)=lo::ups (lo+1) k:=by
        unfold ups
        rw[List.range_succ_eq_map,PH,PQ]
        congr 1
        ·simp
        ·apply P9;intro a _;simp;omega
       rw[e,PH]
       obtain⟨t,e0⟩:=hv 0 v rfl
       refine .cons ⟨t,by rw[e0];simp⟩ (ih r (lo+1) (by simpa using hl) λj v hj=>?_)
       obtain⟨t,ej⟩:=hv (j+1) v (by simpa using hj)
       exact⟨t,by rw[ej];congr 1;push_cast;omega⟩
  refine key _ _ m (by rw[OI];exact ZA.1) λj v hj=>ZA.2 j v (by simpa using hj)
 exact⟨.ref _,_,I.laid (a:=s.heap.objs.size) (o:=.lst ((ups m (n-m).toNat).map V.int)) hk (QW _) ⟨by rw[OZ,ba];exact QX (show(n-m).toNat<=2000000 by omega) (by decide),acc.toList,c',vals,by rw[hS]⟩,rfl,q _ (I.UZ.fresh (QW _))⟩
end
def qP (scope:Scope)(env:Env):List (Str×Addr):=(scope.names.filterMap λp=>if p.2== .free then(env.cells.lookup p.1).map (λc=>(p.1,c)) else none).reverse
theorem oS {env:Env}:∀(names:List (Str×So)) (acc:List (Str×Addr)),(∀y∈names,y.2= .free->∃c,env.cells.lookup y.1=some c)->
 (forIn names acc λ(x:Str×So) (r:List (Str×Addr))=>if(x.2==So.free)=true then do let a ← cellOf env x.1;pure (OP ((x.1,a)::r)) else pure (OP r):Sem (List (Str×Addr)))
  =pure ((names.filterMap λp=>if p.2== .free then(env.cells.lookup p.1).map (λc=>(p.1,c)) else none).reverse++acc)
 | [],acc,_=>rfl
 | (n,k)::r,acc,h=>by
   have ih:=oS (env:=env) r
   rw[QT,Qz]
   cases hk:(k==So.free) with
   | false=>
     simp only[hk,Bool.false_eq_true,if_false]
     rw[pure_bind]
     exact ih acc λy hy=>h y (O2 _ hy)
   | true=>
     obtain⟨c,hc⟩:=h (n,k) O3 (eq_of_beq hk)
     have Wb:cellOf env n=pure c:=by unfold cellOf;rw[hc]
     simp only[hk,if_true,hc,Rn,Wb]
     rw[pure_bind,pure_bind]
     show forIn r ((n,c)::acc) _=_
     rw[ih ((n,c)::acc) λy hy=>h y (O2 _ hy)]
     simp
theorem yc {X:Cx}{scope:Scope}{own fr:OC}{ix:List Nat}(hk:scope.kind= .function)(hn:∀y∈scope.names,y.2≠ .cell)(hl:∀y∈scope.names,y.2= .local->scope.names.lookup y.1=some .local)
 (hc:∀x,X.env.scope.names.lookup x=some .cell->∃c,X.env.cells.lookup x=some c) (hf:∀y∈scope.names,y.2= .free->X.env.scope.names.lookup y.1=some .cell)
 (Yo:∀x∈fr,scope.names.lookup x=some .free) (hlen:fr.length=ix.length) (VM:∀(k i:Nat) (x:Str),ix[k]?=some i->fr[k]?=some x->X.N[i]?=some x):eR X scope (qP scope X.env) own fr ix:=by
 have free:∀y∈scope.names,y.2= .free->∃c,X.env.cells.lookup y.1=some c:=λy hy e=>hc _ (hf y hy e)
 refine⟨?_,λx c e=>?_,hk,hn,hl,λx e=>?_,Yo,hlen,λk i x e1 e2=>⟨VM k i x e1 e2,hf (x,.free) (RS (Yo x (O6 e2))) rfl⟩⟩
 ·have:=oS (env:=X.env) scope.names [] free
  rw[Px] at this
  have e:closureFor scope X.env=((forIn scope.names [] λ(x:Str×So) (r:List (Str×Addr))=>if(x.2==So.free)=true then do let a ← cellOf X.env x.1;pure (OP ((x.1,a)::r)) else pure (OP r):Sem (List (Str×Addr))) >>=λcs=>pure cs):=rfl
  rw[e,this,pure_bind]
  rfl
 ·have m:=RS e
  unfold qP at m
  obtain⟨p,_,hp⟩:=QG.mp (List.mem_reverse.mp m)
  split at hp
  ·cases q:X.env.cells.lookup p.1 with
   | none=>rw[q] at hp;cases hp
   | some c'=>rw[q] at hp;cases hp;exact q
  ·cases hp
 ·have m:=RS e
  obtain⟨c,XU⟩:=free _ m rfl
  have m2:(x,c)∈qP scope X.env:=by
   unfold qP
   refine List.mem_reverse.mpr (QG.mpr ⟨(x,.free),m,?_⟩)
   simp[XU]
  cases q:(qP scope X.env).lookup x with
  | some c'=>exact⟨c',rfl⟩
  | none=>
    rw[List.lookup_eq_none_iff] at q
    exact UJ (q _ m2) (by simp)
def AS (scope so:Scope)(N0 fr:OC)(ix:List Nat):Bool:=
 decide (scope.kind= .function)&&scope.names.all (λy=>decide (y.2≠ .cell)&&(decide (y.2≠ .local) ||decide (scope.names.lookup y.1=some .local))&&(decide (y.2≠ .free) ||decide (so.names.lookup y.1=some .cell)))
  &&fr.all (λx=>decide (scope.names.lookup x=some .free))&&decide (fr.length=ix.length)&&(Pm ix.length).all λk=>match ix[k]?,fr[k]? with | some i,some x=>decide (N0[i]?=some x) | _,_=>true
theorem bK {X:Cx}{scope so:Scope}{N0 own fr:OC}{ix:List Nat}(hso:X.env.scope=so)(hN0:X.N=N0)(hc:∀x,X.env.scope.names.lookup x=some .cell->∃c,X.env.cells.lookup x=some c)(h:AS scope so N0 fr ix=true):eR X scope (qP scope X.env) own fr ix:=by
 unfold AS at h
 simp only[OK,OM,decide_eq_true_eq,Qu] at h
 obtain⟨⟨⟨⟨h1,h2⟩,h3⟩,h4⟩,h5⟩:=h
 refine yc h1 (λy hy=>(h2 y hy).1.1) (λy hy e=>(h2 y hy).1.2.resolve_left λz=>z e) hc (λy hy e=>by rw[hso];exact(h2 y hy).2.resolve_left λz=>z e) h3 h4 λk i x e1 e2=>?_
 have hk:k<ix.length:=(OW.mp e1).1
 have:=h5 k (P0.mpr hk)
 rw[e1,e2] at this
 rw[hN0]
 simpa using this
section
variable {X:Cx}{Γ Γ1 Γ2 Γ3:Ga}{α β γ δ:Type}{N:Ga->Prop}{T:RT}
theorem xj (i:Nat){S:cP}{x y:Str}{k:Nat}{e:Expr}{es:OG}{p p1 p2 pos:Pos}{ps:List Pk}{r:Rep α}{Pd:α->Prop}(C:aH X.prog X.w X.K X.mg X.base x k (aN S X.K))(hr:bI k X.A)(ha:HA X (e::es) Γ ps Γ1)(hS:S X.K ps (bU X.K r Pd))(h:∀z,Pd z->N (Γ1.set i (.im r z)))
 (hg:Gl X x:=by rfl) (VE:Vd x:=by decide) (he:RC (e::es) X.env=(false,eval e X.env)::RC es X.env:=by rfl) (Ve:(RM p2 (RC es X.env)).any (·.1)=false:=by rfl)
 (hN:X.N.Nodup:=by first | assumption | decide) (hi:X.N[i]?=some y:=by rfl) (hx:autoParam (Loc X.env.scope y) Wv)
 (hs:RN (.Call (.Name x p) (e::es) [] p2) (some (.Name y p1)) pos.line X.env=pure false:=by rfl) (hf:autoParam (X.fn y=true∨X.env.scope.names.lookup y=some .local) Wu):
 W1 X (.Assign [.Name y p1] (.Call (.Name x p) (e::es) [] p2) pos) Γ N T:=λσ H0 R0 H R E D dn dr=>
 sS (jv hN hi hx aL hs hf) (jz C hr ha hS E (λH1 R1 v H' R' E1 s1 xx t=>by
  obtain⟨z,e1,hz⟩:=t
  exact dn _ H' R' _ ((E1.grow xx).set i e1) (s1.trans xx.r) (h z hz)) hg VE he Ve)
theorem J3 {tg iter:Expr}{w:Row}(h:EV X iter Γ d9 w Γ1):IV X tg iter Γ ah [w.1,w.2.1,w.2.2.1,w.2.2.2] Γ1:=by
 refine⟨_,AJ aL,λσ H0 R0 H R E Rq q=>h σ H0 R0 H R E _ λv H1 R1 E1 s1 e1=>?_⟩
 obtain⟨a,rfl,ha⟩:=e1
 have Xd:∀H' R':Hp,av R1 R'->av R' H'->du X.K H' a [.int w.1,.int w.2.1,.int w.2.2.1,.int w.2.2.2]:=λH' R' sR sH=>du.of (sH _ _ (sR _ _ ha))
 refine⟨a,rfl,⟨_,Xd H1 R1 (av.refl _) E1.sub⟩,q _ H1 R1 E1 s1 (by show 4<=RE;decide) λH' R' sR sH i=>⟨λx hx=>?_,λhi=>⟨_,Xd H' R' sR sH,hi⟩⟩⟩
 have e2:([.int w.1,.int w.2.1,.int w.2.2.1,.int w.2.2.2]:List V)[i]?=some (.int x):=by
  have:=congrArg (Option.map V.int) hx
  rw[← O5] at this
  exact this
 refine⟨⟨_,_,Xd H' R' sR sH,e2⟩,λv H2 hy=>?_⟩
 obtain⟨rfl,hy⟩:=hy
 have:=hy _ (Xd _ R' sR sH)
 rw[e2] at this
 cases this
 exact⟨R',Ext.refl sH,rfl⟩
end
section
variable {X:Cx}{Γ Γ1 Γ2 Γ3:Ga}{α β γ δ:Type}{N:Ga->Prop}{T:RT}
theorem Ep:dQ X (Sk .Mult) (rI Tc λi j=>.int (i*j)):=wu λ_ _ _ _ _ _ _ hc q=>mul_int q hc
theorem kF {a b:Expr}{pos:Pos}{x y:Int}(ha:EV X a Γ ah x Γ1)(hb:EV X b Γ1 ah y Γ2)(h:Tc x y):EV X (.BinOp a .Mult b pos) Γ ah (x*y) Γ2:=je Ep ha hb λR v u H Q e1 e2 q=>⟨x,y,e1,e2,h,q _ rfl⟩
def a7 (a:Addr)(r:Rep α)(xs:List α):vg where
 fp:=[a]
 R:=λK H R v=>v= .ref a/\∃vs,H a=some (.lst vs)/\PySem.Paired (r.R K R) vs xs
 loc:=λhH hR ⟨e,vs,h,p⟩=>⟨e,vs,(hH a (O0.mpr rfl)).trans h,Paired.map (λ_ _=>r.mono hR) p⟩
 has:=λ⟨e,vs,h,p⟩ b hb=>by rw[O0.mp hb,h];exact Rm _
theorem kP {K:Uk}{H R:Hp}{a:Addr}{r:Rep α}{xs:List α}{vs:List V}(h:H a=some (.lst vs))(hR:R a=none)(p:PySem.Paired (r.R K R) vs xs):(Ent.ob (a7 a r xs)).ok K H R (some (.ref a)):=
 ⟨⟨_,rfl,rfl,vs,h,p⟩,λb hb=>by rw[O0.mp hb];exact hR⟩
theorem fB {K:Uk}{H R:Hp}{a:Addr}{r:Rep α}{xs:List α}{o:Option V}(h:(Ent.ob (a7 a r xs)).ok K H R o):o=some (.ref a)/\(∃vs,H a=some (.lst vs)/\PySem.Paired (r.R K R) vs xs)/\R a=none:=by
 obtain⟨⟨v,rfl,rfl,q⟩,n⟩:=h
 exact⟨rfl,q,n a (O0.mpr rfl)⟩
theorem WS.box (i:Nat){WQ:List Stmt}{r:Rep α}{xs:List α}(hΓ:Γ[i]?=some (.mu r xs))(h:∀a,WS X WQ (Γ.set i (.ob (a7 a r xs))) N T):WS X WQ Γ N T:=λσ H0 R0 H R E D dn dr=>by
 obtain⟨a,vs,ea,ha,hR,pp⟩:=E.ent i _ hΓ
 exact h a σ H0 R0 H R (E.tell hΓ (by rw[ea];exact kP ha hR pp) λb w=>by
  rw[show b=a from O0.mp w];exact bV.mpr ea) D dn dr
theorem EV.box (i:Nat){e:Expr}{a:Addr}{r:Rep α}{xs xs':List α}{rr:Rep β}{y:β}(h:EV X e (Γ.set i (.mu r xs)) rr y Γ1)(hΓ:Γ[i]?=some (.ob (a7 a r xs)))(hΓ1:Γ1[i]?=some (.mu r xs')):EV X e Γ rr y (Γ1.set i (.ob (a7 a r xs'))):=by
 intro σ H0 R0 H R E Q q
 obtain⟨ea,⟨vs,ha,pp⟩,hR⟩:=fB (E.ent i _ hΓ)
 refine h σ H0 R0 H R (E.tell hΓ (by rw[ea];exact⟨a,vs,rfl,ha,hR,pp⟩) λb w=>by rw[bV.mp w] at ea;cases ea;exact O0.mpr rfl) Q λv H' R' E' s' hr=>q v H' R' ?_ s' hr
 obtain⟨a',Vn,Vs,VN,Vw,VQ⟩:=E'.ent i _ hΓ1
 rw[ea] at Vs;cases Vs
 exact E'.tell hΓ1 (by rw[ea];exact kP VN Vw VQ) λb w=>by rw[show b=a from O0.mp w];exact bV.mpr ea
theorem TV.box (i:Nat){e:Expr}{a:Addr}{r:Rep α}{xs xs':List α}{y:Bool}(h:TV X e (Γ.set i (.mu r xs)) y Γ1)(hΓ:Γ[i]?=some (.ob (a7 a r xs)))(hΓ1:Γ1[i]?=some (.mu r xs')):TV X e Γ y (Γ1.set i (.ob (a7 a r xs'))):=by
 intro σ H0 R0 H R E Q q
 obtain⟨ea,⟨vs,ha,pp⟩,hR⟩:=fB (E.ent i _ hΓ)
 refine h σ H0 R0 H R (E.tell hΓ (by rw[ea];exact⟨a,vs,rfl,ha,hR,pp⟩) λb w=>by rw[bV.mp w] at ea;cases ea;exact O0.mpr rfl) Q λH' R' E' s'=>q H' R' ?_ s'
 obtain⟨a',Vn,Vs,VN,Vw,VQ⟩:=E'.ent i _ hΓ1
 rw[ea] at Vs;cases Vs
 exact E'.tell hΓ1 (by rw[ea];exact kP VN Vw VQ) λb w=>by rw[show b=a from O0.mp w];exact bV.mpr ea
theorem fG (j:Nat){x:Str}{p1:Pos}{b:Expr}{pos:Pos}{a:Addr}{r:Rep α}{xs:List α}{i:Int}{y:α}(hb:EV X b Γ ah i Γ)(hΓ:Γ[j]?=some (.ob (a7 a r xs)))(h:cy xs i=some y)(hN:X.N[j]?=some x:=by rfl)(hv:autoParam (cC X.env.scope x) Vo)
 (hs:eK b:=by exact λ_ _=>rfl) (hd:Vd x:=by decide) (U0:Vp x:=by decide):EV X (.Subscript (.Name x p1) b pos) Γ r y Γ:=by
 intro σ H0 R0 H R E Q q
 obtain⟨ea,⟨vs,ha,pp⟩,hR⟩:=fB (E.ent j _ hΓ)
 refine eS (iM ig (bb hN hv hd U0) aL hs) ⟨.ref a,at_of ea,hb σ H0 R0 H R E _ λu H2 R2 E2 s2 e2=>?_⟩
 obtain⟨Vs,⟨Vn,VN,VQ⟩,Vw⟩:=fB (E2.ent j _ hΓ)
 obtain⟨w,e3,e4⟩:=gZ VQ h
 exact⟨a,Vn,i,w,rfl,e2,aU.of VN,e3,q w H2 R2 E2 s2 e4⟩
theorem fK (i:Nat){x:Str}{b e:Expr}{p1 p2 pos:Pos}{a:Addr}{r:Rep α}{xs:List α}{y:α}{k:Int}{j:Nat}(he:EV X e Γ r y Γ1)(hb:EV X b Γ1 ah k Γ2)(hΓ1:Γ1[i]?=some (.ob (a7 a r xs)))(hΓ2:Γ2[i]?=some (.ob (a7 a r xs)))(hj:fg xs.length k=some j)(h:N (Γ2.set i (.ob (a7 a r (xs.set j y)))))
 (hN:X.N[i]?=some x:=by rfl) (hv:autoParam (cC X.env.scope x) Vo)
 (hd:Vd x:=by decide) (U0:Vp x:=by decide)
 (ha:∀v,Sn (.Subscript (.Name x p1) b p2) X.env v=(do
  let ov ← Si [v] (eval (.Name x p1) X.env)
  let iv ← Si [v,ov] (eval b X.env)
  SM p2
  Si [v,ov,iv] (setItem ov iv v)
  release [v,ov,iv] []):=by intro _;rfl)
 (hs:SR [.Subscript (.Name x p1) b p2] e pos.line X.env=pure false:=by rfl) (hw:SS [.Subscript (.Name x p1) b p2] e X.env=pure none:=by rfl) (h1:(Sm [.Subscript (.Name x p1) b p2] X.env).map (·.2)=[Sn (.Subscript (.Name x p1) b p2) X.env]:=by rfl):
 W1 X (.Assign [.Subscript (.Name x p1) b p2] e pos) Γ N T:=λσ H0 R0 H R E D dn dr=>by
 refine sS (u9 aL (zc (bb hN hv hd U0) aL set_list ha) hs hw h1) (he σ H0 R0 H R E _ λv H1 R1 E1 s1 e1=>?_)
 obtain⟨ea,⟨vs,hp,pp⟩,hR⟩:=fB (E1.ent i _ hΓ1)
 refine⟨.ref a,at_of ea,hb σ H0 R0 H1 R1 E1 _ λu H2 R2 E2 s2 e2=>?_⟩
 obtain⟨Vs,⟨Vn,VN,VQ⟩,Vw⟩:=fB (E2.ent i _ hΓ2)
 refine⟨a,Vn,k,j,rfl,e2,VN,by rw[VQ.length];exact hj,?_⟩
 exact dn σ _ R2 _ (E2.mS (en:=.ob (a7 a r (xs.set j y))) hΓ2 (O0.mpr rfl) (by rw[Vs];exact kP aA Vw (lK (r.mono s2 e1) j VQ)) λb w=>.inl w) (s1.trans s2) h
def del (H:Hp)(a:Addr):Hp:=λb=>if b=a then none else H b
theorem um {H:Hp}{a:Addr}:del H a a=none:=UL rfl
theorem mV {H:Hp}{a b:Addr}(h:b≠a):del H a b=H b:=UK h
theorem FC {H:Hp}{a:Addr}:av (del H a) H:=λb o q=>by
 by_cases h:b=a
 ·subst h;rw[um] at q;cases q
 ·rwa [mV h] at q
theorem au.DE {K:Uk}{σ:St}{H0 R0 H R H' R':Hp}(E:au K σ H0 R0 H R Γ){a:Addr}(off:Off a σ Γ)(h0:H0 a=none)(x:Ext (del H a) R H' R'):au K σ H0 R0 H' R' Γ:=by
 have ne:∀{b:Addr},H0 b≠none->b≠a:=λh e=>h (e▸h0)
 refine⟨⟨λb o q=>?_,E.ext.r.trans x.r,x.s,λb hb=>?_⟩,λi e q=>?_,E.nw,E.ds,E.len⟩
 ·exact x.h b o (by rw[mV (ne (by rw[q];exact Rm _))];exact E.ext.h b o q)
 ·refine(x.old b ?_).trans (E.ext.old b hb)
  rw[mV (ne hb)];exact av.some E.ext.h hb
 ·have h1:=E.ent i e q
  have na:∀b∈e.fp (σ[i]?).join,b≠a:=λb hb z=>off i e q (z▸hb)
  refine h1.loc (λb hb=>?_) x.r λb hb=>?_
  ·cases e2:H b with
   | none=>exact UJ e2 (Ent.iL h1 hb).1
   | some u=>exact x.h b u (by rw[mV (na b hb)];exact e2)
  ·exact(x.old b (by rw[mV (na b hb)];exact(Ent.iL h1 hb).1)).trans (Ent.iL h1 hb).2
theorem au.j9 {K:Uk}{σ:St}{H0 R0 H R:Hp}(E:au K σ H0 R0 H R Γ){i:Nat}{e0 en:Ent}(hi:Γ[i]?=some e0)(ho:en.ok K H R (σ[i]?).join)(Vr:∀b∈en.fp (σ[i]?).join,H0 b=none/\∀(j:Nat) (e:Ent),j≠i->Γ[j]?=some e->b∉e.fp (σ[j]?).join):au K σ H0 R0 H R (Γ.set i en):=by
 refine⟨E.ext,λj e q=>?_,λj e b q w=>?_,λj k e e' b q q' w w'=>?_,by rw[PN];exact E.len⟩
 ·rcases set_at q with⟨rfl,rfl,_⟩ | ⟨hj,q1⟩
  ·exact ho
  ·exact E.ent j e q1
 ·rcases set_at q with⟨rfl,rfl,_⟩ | ⟨hj,q1⟩
  ·exact(Vr b w).1
  ·exact E.nw j e b q1 w
 ·rcases set_at q with⟨rfl,rfl,_⟩ | ⟨hj,q1⟩
  ·rcases set_at q' with⟨rfl,rfl,_⟩ | ⟨hk,Ws⟩
   ·rfl
   ·exact UJ w' ((Vr b w).2 k e' hk Ws)
  ·rcases set_at q' with⟨rfl,rfl,_⟩ | ⟨hk,Ws⟩
   ·exact UJ w ((Vr b w').2 j e hj q1)
   ·exact E.ds _ _ _ _ b q1 Ws w w'
abbrev jZ (α:Type):=Uk->List α->List Pk->(List α->RT)->Prop
def fF (r:Rep α)(S:jZ α)(K:Uk):Sp:=λvs H Q _=>∃R a ws xs Vn ps T,vs= .ref a::Vn/\av R H/\R a=none/\H a=some (.lst ws)/\PySem.Paired (r.R K R) ws xs/\j4 K R Vn ps/\S K xs ps T/\
 ∀v H' R' Wt xs',Ext (del H a) R H' R'->H' a=some (.lst Wt)->R' a=none->PySem.Paired (r.R K R') Wt xs'->T xs' (del H a) v H' R'->Q v H'
theorem AG {r:Rep α}{S:jZ α}{x y:Str}{k:Nat}{es:OG}{p p1 pos:Pos}{ps:List Pk}{xs:List α}{TM:List α->RT}{Q:VK}{σ:St}{H0 R0 H R:Hp}(i:Nat)(C:aH X.prog X.w X.K X.mg X.base x k (fF r S X.K))(hr:bI k X.A)(ha:HA X es Γ ps Γ1)(hΓ:Γ[i]?=some (.mu r xs))(hΓ1:Γ1[i]?=some (.mu r xs))(hS:S X.K xs ps TM)(E:au X.K σ H0 R0 H R Γ)
 (q:∀H1 v H' R' xs',au X.K σ H0 R0 H' R' (Γ1.set i (.mu r xs'))->av R R'->TM xs' H1 v H' R'->Q v H')
 (hg:Gl X x) (VE:(x==("__debug__":Str))=false) (he:RC (.Name y p1::es) X.env=(false,eval (.Name y p1) X.env)::RC es X.env) (Ve:(RM pos (RC es X.env)).any (·.1)=false)
 (hN:X.N[i]?=some y) (hv:cC X.env.scope y) (hd:(y==("__debug__":Str))=false) (U0:(y==("__classdict__":Str))=false):eZ X (.Call (.Name x p) (.Name y p1::es) [] pos) σ H Q:=by
 obtain⟨f,fd,pn,F,hm,hk,hb⟩:=C.ex
 obtain⟨a,vs,ea,_,_,_⟩:=E.ent i _ hΓ
 refine eS (qq F hr hg hm hk hb .nil sv (aM (bb hN hv hd U0) mf he) VE he Ve) ⟨.ref a,at_of ea,ha σ H0 R0 H R E _ λus H1 R1 E1 s1 p1=>?_⟩
 obtain⟨a',ws,Vs,hp,hR,pp⟩:=E1.ent i _ hΓ1
 rw[ea] at Vs;cases Vs
 have h0:H0 a=none:=E1.new i _ a hΓ1 rfl ea
 refine⟨R1,a,ws,xs,us,ps,TM,by rw[Px],E1.sub,hR,hp,pp,p1,hS,λv H' R' Wt xs' xx h1 h2 pq t=>q _ v H' R' xs' ?_ (s1.trans xx.r) t⟩
 have apart:∀(j:Nat) (e:Ent),j≠i->Γ1[j]?=some e->a∉e.fp (σ[j]?).join:=λj e hj qj w=>hj (E1.ds j i e _ a qj hΓ1 w (bV.mpr ea))
 have E2:au X.K σ H0 R0 H1 R1 (Γ1.set i .no):=E1.tell hΓ1 trivial λb w=>by cases w
 have E3:=E2.DE (a:=a) (λj e qj w=>by
  rcases set_at qj with⟨rfl,rfl,_⟩ | ⟨hj,q1⟩
  ·cases w
  ·exact apart j e hj q1 w) h0 xx
 have hl:i<Γ1.length:=(OW.mp hΓ1).1
 have E4:=E3.j9 (i:=i) (e0:=.no) (en:=.mu r xs') (Pc hl) (by rw[ea];exact⟨a,Wt,rfl,h1,h2,pq⟩) λb w=>by
  have eb:b=a:=by rw[bV.mp w] at ea;cases ea;rfl
  subst eb
  exact⟨h0,λj e hj qj=>apart j e hj (by rwa [Pq (Rk hj)] at qj)⟩
 rw[QA] at E4
 exact E4
theorem uC (i:Nat){r:Rep α}{S:jZ α}{x y:Str}{k:Nat}{es:OG}{p p1 pos:Pos}{ps:List Pk}{xs st:List α}{rr:Rep β}{z:β}(C:aH X.prog X.w X.K X.mg X.base x k (fF r S X.K))(hr:bI k X.A)(ha:HA X es Γ ps Γ1)(hΓ:Γ[i]?=some (.mu r xs))(hΓ1:Γ1[i]?=some (.mu r xs))(hS:S X.K xs ps (λxs'=>bU X.K rr λw=>xs'=st/\w=z))
 (hg:Gl X x:=by rfl) (VE:Vd x:=by decide) (he:RC (.Name y p1::es) X.env=(false,eval (.Name y p1) X.env)::RC es X.env:=by rfl) (Ve:(RM pos (RC es X.env)).any (·.1)=false:=by rfl)
 (hN:X.N[i]?=some y:=by rfl) (hv:autoParam (cC X.env.scope y) Vo) (hd:Vd y:=by decide) (U0:Vp y:=by decide):
 EV X (.Call (.Name x p) (.Name y p1::es) [] pos) Γ rr z (Γ1.set i (.mu r st)):=λσ H0 R0 H R E Q q=>
 AG i C hr ha hΓ hΓ1 hS E (λH1 v H' R' xs' E' s' t=>by
  obtain⟨w,e1,rfl,rfl⟩:=t
  exact q v H' R' E' s' e1) hg VE he Ve hN hv hd U0
theorem eT (i:Nat){r:Rep α}{S:jZ α}{x y:Str}{k:Nat}{a:Addr}{es:OG}{p p1 pos:Pos}{ps:List Pk}{xs st:List α}{rr:Rep β}{z:β}(C:aH X.prog X.w X.K X.mg X.base x k (fF r S X.K))(hr:bI k X.A)(ha:HA X es (Γ.set i (.mu r xs)) ps (Γ.set i (.mu r xs)))(hΓ:Γ[i]?=some (.ob (a7 a r xs)))(hS:S X.K xs ps (λxs'=>bU X.K rr λw=>xs'=st/\w=z))
 (hg:Gl X x:=by rfl) (VE:Vd x:=by decide) (he:RC (.Name y p1::es) X.env=(false,eval (.Name y p1) X.env)::RC es X.env:=by rfl) (Ve:(RM pos (RC es X.env)).any (·.1)=false:=by rfl)
 (hN:X.N[i]?=some y:=by rfl) (hv:autoParam (cC X.env.scope y) Vo) (hd:Vd y:=by decide) (U0:Vp y:=by decide):
 EV X (.Call (.Name x p) (.Name y p1::es) [] pos) Γ rr z (Γ.set i (.ob (a7 a r st))):=by
 have hl:i<Γ.length:=(OW.mp hΓ).1
 have h:=EV.box i (xs':=st) (uC (p:=p) i C hr ha (Pc hl) (Pc hl) hS hg VE he Ve hN hv hd U0) hΓ (by rw[QA];exact Pc hl)
 rwa [QA,QA] at h
def vA (K:Uk)(a:Addr)(r:Rep α)(T:List α->RT):RT:=λH0 v H' R'=>∃Wt xs',H' a=some (.lst Wt)/\R' a=none/\PySem.Paired (r.R K R') Wt xs'/\T xs' H0 v H' R'
theorem IU (i:Nat){e:Expr}{pos:Pos}{a:Addr}{r:Rep α}{xs:List α}{rr:Rep β}{y:β}{P:List α->β->Prop}(he:EV X e Γ rr y Γ1)(hΓ1:Γ1[i]?=some (.ob (a7 a r xs)))(h:P xs y):W1 X (.Return (some e) pos) Γ N (vA X.K a r λxs'=>bU X.K rr (P xs')):=λσ H0 R0 H R E D dn dr=>
 sS (hU aL) (he σ H0 R0 H R E _ λv H1 R1 E1 s1 e1=>by
  obtain⟨ea,⟨vs,ha,pp⟩,hR⟩:=fB (E1.ent i _ hΓ1)
  exact dr v H1 R1 E1.ext ⟨vs,xs,ha,hR,pp,y,e1,h⟩)
theorem pR {K:Uk}{R H:Hp}{a:Addr}{r:Rep α}{ws:List V}{xs:List α}{vs:List V}{ps:List Pk}{N:OC}(s:av R H)(hR:R a=none)(ha:H a=some (.lst ws))(pp:PySem.Paired (r.R K R) ws xs)(p:j4 K R vs ps)(hl:ps.length+1<=N.length):
 au K (L2.start N (.ref a::vs)) (del H a) R H R (.ob (a7 a r xs)::eo ps (N.length-1)):=by
 obtain⟨n0,N',rfl⟩:∃n0 N',N=n0::N':=by cases N with
  | nil=>exact UJ hl (by simp)
  | cons n N'=>exact⟨n,N',rfl⟩
 have Wl:ps.length<=N'.length:=by simpa using hl
 have E0:=iV (N:=N') s p Wl
 have es:L2.start (n0::N') (.ref a::vs)=some (.ref a)::L2.start N' vs:=by unfold L2.start;simp
 rw[es]
 have Vh:∀(i:Nat) (e:Ent) (o:Option V),(eo ps N'.length)[i]?=some e->e.fp o=[]:=λi e o q=>by
  unfold eo at q
  rcases Pa.mp (O6 q) with z | z
  ·obtain⟨p,_,rfl⟩:=Pe.mp z;rfl
  ·obtain⟨_,rfl⟩:=QH.mp z;rfl
 refine⟨⟨FC,av.refl _,s,λ_ _=>rfl⟩,λi e q=>?_,λi e b q w=>?_,λi j e e' b q q' w w'=>?_,?_⟩
 ·cases i with
  | zero=>simp at q;subst q;exact kP ha hR pp
  | succ i=>simp at q;simpa using E0.ent i e q
 ·cases i with
  | zero=>simp at q;subst q;rw[show b=a from O0.mp w];exact um
  | succ i=>simp at q;rw[Vh i e _ q] at w;cases w
 ·cases i with
  | succ i=>simp at q;rw[Vh i e _ q] at w;cases w
  | zero=>
    cases j with
    | zero=>rfl
    | succ j=>simp at q';rw[Vh j e' _ q'] at w';cases w'
 ·have:=E0.len
  simp[this]
variable {P:RJ}{w:World}{K:Uk}{mg:Oz}{base:Heap}
theorem vb {r:Rep α}{S:jZ α}{x qual:Str}{st:Stmt}{f:Addr}{fd:RO}{N ps:OC}{k:Nat}(F:dU K x qual st f fd)(Sc:aF N ps (ai st))(hm:mg x=some (.ref f))(hb:Binds K fd ps [])(len:∀xs qs T,S K xs qs T->qs.length+1=ps.length)
 (Vc:∀(UX:Value) (A:RL) (outer:List Env) (s:RA) (H:Hp) (E:XK) (a:Addr) (xs:List α) (qs:List Pk) (T:List α->RT),bI k (A.deeper (Ru qual (ai st) s.heap.objs.size f UX))->S K xs qs T->
  WS (eI d6 P w K mg base N qual (ai st) f UX A outer s H E).h9 (bw st) (.ob (a7 a r xs)::eo qs (N.length-1)) (λ_=>False) (vA K a r T)):aH P w K mg base x (k+1) (fF r S K):=by
 refine⟨f,fd,ps,?_,hm,F.kp,hb⟩
 refine F.ok Sc (λvs H Q E h=>?_) (λUX A outer s H vs Q E hr h=>?_)
 ·obtain⟨R,a,ws,xs,Vn,qs,T,rfl,_,_,_,_,p,hS,_⟩:=h
  rw[O8,p.length];exact len xs qs T hS
 ·obtain⟨R,a,ws,xs,Vn,qs,T,rfl,sR,hR,ha,pp,p,hS,q⟩:=h
  have hl:qs.length+1<=N.length:=by
   rw[len xs qs T hS]
   have:=congrArg List.length Sc.pre
   rw[Pl] at this
   omega
  refine⟨_,i9,Vc UX A outer s H E a xs qs T hr hS (L2.start N (.ref a::Vn)) (del H a) R H R (pR sR hR ha pp p hl) {nx:=λ_ H'=>Q .U8 H',rt:=Q} (λ_ _ _ _ _ _ f=>f.elim) λv H' R' xx t=>?_⟩
  obtain⟨Wt,xs',h1,h2,h3,h4⟩:=t
  exact q v H' R' Wt xs' xx h1 h2 h3 h4
theorem E6 {r:Rep α}{S:jZ α}{x:Str}{st:Stmt}{N ps:OC}{k:Nat}(D:Def K mg x st ps)(Sc:aF N ps (ai st))
 (Vc:∀(f:Addr) (UX:Value) (A:RL) (outer:List Env) (s:RA) (H:Hp) (E:XK) (a:Addr) (xs:List α) (qs:List Pk) (T:List α->RT),bI k (A.deeper (Ru x (ai st) s.heap.objs.size f UX))->S K xs qs T->
  WS (eI d6 P w K mg base N x (ai st) f UX A outer s H E).h9 (bw st) (.ob (a7 a r xs)::eo qs (N.length-1)) (λ_=>False) (vA K a r T))
 (len:∀xs qs T,S K xs qs T->qs.length+1=ps.length:=by(intros;rename_i h;repeat (first | (rw[h.1];rfl) | obtain⟨_,h⟩:=h))):aH P w K mg base x (k+1) (fF r S K):=by
 obtain⟨f,fd,F,hm,hb⟩:=D
 exact vb F Sc hm hb len (Vc f)
end
section
variable {α:Type}
def bQ (k:Nat)(y:α)(xs:List α):List α:=xs.take k++y::xs.drop k
theorem tM {k:Nat}{y:α}{xs:List α}:(bQ k y xs).length=xs.length+1:=by
 unfold bQ;rw[O4,O8,Pl,Qq];omega
theorem zD {β:Type}(f:α->β){k:Nat}{y:α}{xs:List α}:(bQ k y xs).map f=bQ k (f y) (xs.map f):=by
 unfold bQ;rw[Ph,PH,List.map_take,QU]
end
section
variable {X:Cx}{Γ Γ1 Γ2 Γ3:Ga}{α β γ δ:Type}{N:Ga->Prop}{T:RT}
def FP:V->List V->Hp->VK->Prop:=λx vs H Q=>∃l xs i y,x= .ref l/\vs=[.int i,y]/\H l=some (.lst xs)/\0<=i/\i<=(xs.length:Int)/\xs.length<RE/\Q .U8 (upd H l (.lst (bQ i.toNat y xs)))
theorem zJ:DF X "list.insert" FP:=by
 intro UT s σ H x vs v us Q I rx rv h
 obtain⟨l,xs,i,y,rfl,rfl,hH,h0,h1,hz,q⟩:=h
 cases rx
 obtain⟨u1,u2,rfl,⟨t,rfl⟩,r2⟩:=vals2 rv
 obtain⟨z,UW,n,r,hl,e⟩:=I.lE hH
 have hfit:Builtin.List.listFitsIndex i=true:=fitsIndex_both (by omega) (by
  have:RE<2 ^ 63:=by decide
  omega)
 refine Sq PySem.F.slot_list_insert ⟨_,e,rfl⟩ PySem.F.entry_list_insert (PySem.F.args_list_insert_3 _ _ _) (PySem.AutoSeq1.list_insert_list_int_val_1 l _ n i t u2 (by simp[hfit]) (by rw[O9];omega)) ⟨e,?_⟩
 refine⟨.U8,_,I.yd (its':=bQ i.toNat u2 UW) hH e ?_ ?_ ?_,rfl,q⟩
 ·have hk:(if i<0 then(i+((UW.toArray.size:Nat):Int)).toNat else min i.toNat UW.toArray.size)=i.toNat:=by
   rw[UK (by omega),O9];omega
  dsimp only
  rw[hk]
  unfold bQ
  apply Array.ext'
  simp
  exact Qm (by rw[Qq];exact QW _)
 ·unfold bQ;exact(r.take _).append (.cons r2 (r.drop _))
 ·rw[tM];omega
def jQ:Rep Addr:=⟨λ_ _ v a=>v= .ref a,λ_ h=>h⟩
def lV:Ent->Ent
 | .im r x=>.im r x
 | _=>.no
theorem au.VP {K:Uk}{σ:St}{H0 R0 H R:Hp}(E:au K σ H0 R0 H R Γ):au K σ H H H H (Γ.map lV):=by
 have Vh:∀(i:Nat) (e:Ent) (o:Option V),(Γ.map lV)[i]?=some e->e.fp o=[]:=λi e o q=>by
  rw[O5] at q
  cases h:Γ[i]? with
  | none=>rw[h] at q;cases q
  | some e'=>rw[h] at q;cases q;cases e'<;>rfl
 refine⟨Ext.refl (av.refl _),λi e q=>?_,λi e a q w=>UJ w (by rw[Vh i e _ q];exact Pu),λi j e e' a q _ w=>UJ w (by rw[Vh i e _ q];exact Pu),by rw[OZ];exact E.len⟩
 rw[O5] at q
 cases h:Γ[i]? with
 | none=>rw[h] at q;cases q
 | some e'=>
   rw[h] at q;cases q
   have:=E.ent i e' h
   cases e' with
   | im r x=>obtain⟨v,e,hr⟩:=this;exact⟨v,e,r.mono E.sub hr⟩
   | no=>trivial
   | mu r x=>trivial
   | di x=>trivial
   | ob x=>trivial
end
variable {P:RJ}{w:World}{K:Uk}{mg:Oz}{base:Heap}
theorem Hc {S:cP}{x qual:Str}{st:Stmt}{f:Addr}{fd:RO}{N ps:OC}{k:Nat}(F:dU K x qual st f fd)(Sc:aF N ps (ai st))(len:∀qs T,S K qs T->qs.length=ps.length)
 (Vc:∀(UX:Value) (A:RL) (outer:List Env) (s:RA) (H:Hp) (E:XK) (qs:List Pk) (T:RT),bI k (A.deeper (Ru qual (ai st) s.heap.objs.size f UX))->S K qs T->
  WS (eI d6 P w K mg base N qual (ai st) f UX A outer s H E).h9 (bw st) (eo qs N.length) (λ_=>False) T):dW P w K mg base d6 (k+1) f fd ps (aN S K):=by
 refine F.ok Sc (λvs H Q E h=>?_) (λUX A outer s H vs Q E hr h=>?_)
 ·obtain⟨R,qs,T,_,p,hS,_⟩:=h
  rw[p.length];exact len qs T hS
 ·obtain⟨R,qs,T,sR,p,hS,q⟩:=h
  have hl:qs.length<=N.length:=by
   rw[len qs T hS]
   have:=congrArg List.length Sc.pre
   rw[Pl] at this
   omega
  exact⟨_,i9,Vc UX A outer s H E qs T hr hS (L2.start N vs) H R H R (iV sR p hl) {nx:=λ_ H'=>Q .U8 H',rt:=Q} (λ_ _ _ _ _ _ f=>f.elim) λv H' R' xx t=>q v H' R' xx t⟩
theorem p6 {h:Heap}{x:Str}{st:Stmt}{ps:OC}{f:Addr}{oc:Value}{od an:Option Addr}{We:Array OD}{kV doc pm UX ct:Value}(KX:K.In h)(G:h.Ns RG mg)
 (a:Ul K RG x=some (some (.ref f))) (l:K.lookup f=some ⟨oc,od,.func (Uq x x (cQ st) (bw st) (ai st) .none kV doc pm an UX ct),We⟩) (c:Uu K UX x=true) (k:Us K (.ref f)=true)
 (b:∀(kV doc pm:Value) (an:Option Addr) (UX ct:Value) (us:OF),us.length=ps.length->SO (Uq x x (cQ st) (bw st) (ai st) .none kV doc pm an UX ct) ⟨us,[]⟩=pure (ps.zip us)):Def K mg x st ps:=
 ⟨f,_,jC l c k,Uo KX G a,(jC l c k).binds b⟩
open PySem.Builtin.Int (intBits)
theorem vT {ns:OB}(h:PySem.W.WData.layableAll [.list (ns.map .int)]=true):∀n∈ns,intBits n<=2 ^ 20:=λn hn=>by
 have h1:=PySem.W.layableW_arg h _ (O0.mpr rfl)
 have h2:=PySem.W.layableW_item h1 (.int n) (Pe.mpr ⟨n,hn,rfl⟩)
 exact PySem.PyData.bits_of_layable h2
end Fc
namespace Att
open PySem PySem.W PySem.Calls PyProof.Rows
open PySem.Builtin.Int (intBits)
theorem vm {l:OpenLaw}{n:Nat}{q:RJ}{loose:OC}{XP:(Oz)->Heap->Prop}{YP:World->Heap->Prop}{d:DefRec}
 (hn:l.most=some n) (Zt:d.params.defaults=[])
 (call:∀(w:World) (s₀ s₁:RA) (mg mb:Oz) (fa:Addr) (o:Obj) (pm cd doc:Value) (a:Addr) (vs:OF) (ns:OB),
  Ground q loose [] XP w s₀ mg mb s₁.heap->YP w s₁.heap->
  s₁.heap.get? fa=some o->o.data= .func (docDef d.name d.params d.body d.scope pm cd doc)->s₁.heap.CodeRec cd d.name->mg d.name=some (.ref fa)->
  s₁.heap.get? a=some {cls:=.type "list",data:=.seq vs.toArray}->IntsAre vs ns->ns.length<=n->(∀m∈ns,intBits m<=2 ^ 20)->s₁.gens= #[]->
  SN (model l.prog w) SW (.call (.ref fa) ⟨[.ref a],[]⟩) (λr s'=>r= .ok (.ret (.bool true))/\OldK s₁.heap s'.heap/\s'.os=s₁.os/\Rx s'.gens) s₁):
 WalkO q loose XP YP l.row.toRowW d [] (λf vs=>PySem.call f vs):=by
 intro w s₀ s₁ mg mb G Y fa o pm cd doc dV kV ho hd U0 hD Zi hg args vals as Xw hlay hrd hwl Xy
 obtain rfl:dV= .none:=Dflts.none hD Zt
 obtain rfl:kV= .none:=Dflts.noKw hD
 obtain⟨a,vs,ns,rfl,rfl,Yk,hints,hlen⟩:=A2 hn Xw hwl
 refine enter_call (SX (call w s₀ s₁ mg mb fa o pm cd doc a vs ns G Y ho (fd_plain hd) U0 Zi Yk hints hlen (Fc.vT hlay) hg) λr s' hq=>?_)
 obtain⟨rfl,h2,h3,h4⟩:=hq
 exact⟨.inl ⟨.bool true,.bool true,[],rfl,λ_=>rfl,.bool true,zq l _,λ_=>⟨List.Pairwise.nil,λ_ hm=>(nomatch hm)⟩⟩,h2,h3,h4⟩
end Att
namespace L2
open PySem PySem.Spec PyProof.Rows
open PySem.Builtin.Int (intBits)
theorem Cu {l:UD}{n k:Nat}{q:RJ}{loose:OC}{XP:(Oz)->Heap->Prop}{YP:World->Heap->Prop}{d:DefRec}{K:Params->Uk}{CX:World->mh}{sp:World->Sp}{x:Str}
 (hn:l.most=some n) (hn2:n<=RE) (Zt:d.params.defaults=[]) (hr:bI k SW)
 (hY:∀(w:World) (h:Heap),YP w h->(K w.params).In h)
 (F:∀(w:World) (mg:Oz) (fa:Addr) (h:Heap),(K w.params).In h->h.Ns RG mg->mg d.name=some (.ref fa)->
  ∃fd:RO,(∀(s:RA) (u:Value),S8 s fd ⟨[u],[]⟩ [(x,u)])/\
   ∀base:Heap,(K w.params).In base->base.Ns RG mg->dW l.prog w (K w.params) mg base (CX w) k fa fd [x] (sp w))
 (WU:∀(w:World) (H:Hp) (a:Addr) (ns:OB),ns.length<=n->(∀m∈ns,intBits m<=2 ^ 20)->CU H->aU (K w.params) H a (ns.map V.int)->sp w [.ref a] H (λv _=>v= .bl true) λ_ _ _=>False)
 (hCX:∀(w:World) (H:Hp) (s:RA) (e:Value) (s':RA),CX w [] H s (λ_ _ _=>False) e s'->False):
 PySem.W.WalkO q loose XP YP l.row.toRowW d [] (λf vs=>PySem.call f vs):=by
 refine Att.vm hn Zt λw s₀ s₁ mg mb fa o pm cd doc a vs ns G Y ho hd U0 Zi Yk hints hlen Wo hg=>?_
 have KX:=hY w _ Y
 obtain⟨fd,hb,hF⟩:=F w mg fa _ KX G.T.g Zi
 exact BJ KX G.T.g G.T.b G.T.builtins G.T.nolimit hg Yk hints (QX hlen hn2) hr hF hb (λH hO hS=>WU w H a ns hlen Wo hO hS) λH e s'=>hCX w H s₁ e s'
end L2
namespace Fc
open PySem PySem.Spec PySem.W PySem.Calls L2
open PyProof.Rows hiding St
section
variable {X:Cx}{Γ Γ1:Ga}
end
section
variable {P:RJ}{w:World}{K:Uk}{mg:Oz}{base:Heap}
end
section
variable {X:Cx}{UT:OA}{σ:St}{H:Hp}{s:RA}{e:Addr}{o:Obj}
end
end Fc
namespace Fc
open PySem PySem.Spec PySem.W PySem.Calls L2
open PyProof.Rows hiding St
open PySem PySem.Spec PySem.W PySem.Calls PySem.Builtin.ObjectAttr PySem.Builtin.Getset_descriptor L2
section
variable {K:Frag}{D x:Addr}{prog:RJ}{w:World}{A:RL}{E:Value->RA->Prop}{s:RA}
end
section
variable {X:Cx}{Γ Γ1:Ga}{ea D:Addr}{oe:Obj}
end
end Fc
namespace Fc
open PySem PySem.Spec PySem.W PySem.Calls L2
open PyProof.Rows hiding St
section
variable {X:Cx}{Γ Γ1:Ga}{H0 R0:Hp}
end
section
variable {P:RJ}{w:World}{K:Uk}{mg:Oz}{base:Heap}{N:OC}{qual:Str}{scope:Scope}{f:Addr}{cd:Value}{A:RL}{outer:List Env}{s:RA}{H R:Hp}{E:XK}{Γ Γ1:Ga}
end
section
variable {X:Cx}{Γ Γ1:Ga}{ea D:Addr}{oe:Obj}{UT:OA}{σ:St}{H:Hp}{s:RA}
end
def ag:Rep Str:=⟨λ_ _ v x=>v= .str x,λ_ h=>h⟩
theorem aG {X:Cx}{Γ:Ga}{x:Str}{j:Nat}{pos:Pos}:EV X (.Constant (.str x) j pos) Γ ag x Γ:=λ_ _ _ _ _ E _ q=>eS Jr (q _ _ _ E (av.refl _) rfl)
inductive PV
 | U8
 | bl (b:Bool)
 | int (i:Int)
 | str (x:Str)
 | tup (xs:List PV)
 | lst (xs:List PV)
mutual
inductive eD (H:Hp):V->PV->Prop
 | U8:eD H .U8 .U8
 | bl (b:Bool):eD H (.bl b) (.bl b)
 | int (i:Int):eD H (.int i) (.int i)
 | str (x:Str):eD H (.str x) (.str x)
 | tup {a:Addr} {vs:List V} {xs:List PV}:H a=some (.tup vs)->dO H vs xs->eD H (.ref a) (.tup xs)
 | lst {a:Addr} {vs:List V} {xs:List PV}:H a=some (.lst vs)->dO H vs xs->xs.length<=RE->eD H (.ref a) (.lst xs)
inductive dO (H:Hp):List V->List PV->Prop
 | nil:dO H [] []
 | cons {v:V} {x:PV} {vs:List V} {xs:List PV}:eD H v x->dO H vs xs->dO H (v::vs) (x::xs)
end
mutual
theorem eD.mono {H H':Hp}(s:av H H'):∀{v:V} {x:PV},eD H v x->eD H' v x
 | _,_,.U8=>.U8
 | _,_,.bl b=>.bl b
 | _,_,.int i=>.int i
 | _,_,.str x=>.str x
 | _,_,.tup h t=>.tup (s _ _ h) (dO.mono s t)
 | _,_,.lst h t z=>.lst (s _ _ h) (dO.mono s t) z
theorem dO.mono {H H':Hp}(s:av H H'):∀{vs:List V} {xs:List PV},dO H vs xs->dO H' vs xs
 | _,_,.nil=>.nil
 | _,_,.cons h t=>.cons (eD.mono s h) (dO.mono s t)
end
theorem dO.pair {H:Hp}:∀{vs:List V} {xs:List PV},dO H vs xs->PySem.Paired (eD H) vs xs
 | _,_,.nil=>.nil
 | _,_,.cons h t=>.cons h (dO.pair t)
theorem dO.of {H:Hp}:∀{vs:List V} {xs:List PV},PySem.Paired (eD H) vs xs->dO H vs xs
 | _,_,.nil=>.nil
 | _,_,.cons h t=>.cons h (dO.of t)
def aI:Rep PV:=⟨λ_ H v x=>eD H v x,λs h=>h.mono s⟩
section
variable {X:Cx}{Γ Γ1 Γ2 Γ3:Ga}{α β γ δ:Type}{N:Ga->Prop}{T:RT}
variable {e:Expr}{pos:Pos}
theorem EV.re {r:Rep α}{r':Rep β}{x:α}{y:β}(h:EV X e Γ r x Γ1)(f:∀(K:Uk) (R:Hp) (v:V),r.R K R v x->r'.R K R v y):EV X e Γ r' y Γ1:=λσ H0 R0 H R E Q q=>h σ H0 R0 H R E Q λv H' R' E' s' e'=>q v H' R' E' s' (f _ _ v e')
theorem EV.pI {n:Int}(h:EV X e Γ ah n Γ1):EV X e Γ aI (.int n) Γ1:=h.re λK R v e=>by cases e;exact .int n
theorem EV.pS {x:Str}(h:EV X e Γ ag x Γ1):EV X e Γ aI (.str x) Γ1:=h.re λK R v e=>by cases e;exact .str x
theorem EV.pL {xs:List PV}(h:EV X e Γ (ae aI) xs Γ1):EV X e Γ aI (.lst xs) Γ1:=h.re λK R v ⟨a,vs,e,q,p,z⟩=>by subst e;exact .lst q (.of p) z
theorem qD {K:Uk}{R:Hp}:∀{vs:List V} {xs:OB},PySem.Paired (ah.R K R) vs xs->dO R vs (xs.map PV.int)
 | _,_,.nil=>.nil
 | _,_,.cons h t=>.cons (by cases h;exact .int _) (qD t)
theorem EV.G2 {xs:OB}(h:EV X e Γ (ae ah) xs Γ1):EV X e Γ aI (.lst (xs.map PV.int)) Γ1:=h.re λK R v ⟨a,vs,e,q,p,z⟩=>by subst e;exact .lst q (qD p) (by rw[OZ];exact z)
theorem EV.iP {n:Int}(h:EV X e Γ aI (.int n) Γ1):EV X e Γ ah n Γ1:=h.re λK R v e=>by cases e;rfl
theorem EV.sP {x:Str}(h:EV X e Γ aI (.str x) Γ1):EV X e Γ ag x Γ1:=h.re λK R v e=>by cases e;rfl
theorem EV.lP {xs:List PV}(h:EV X e Γ aI (.lst xs) Γ1):EV X e Γ (ae aI) xs Γ1:=h.re λK R v e=>by cases e with | lst q p z=>exact⟨_,_,rfl,q,p.pair,z⟩
theorem gG {es:OG}{k:Nat}{xs:List PV}(h:EA X es Γ aI xs Γ1)(hz:xs.length<=RE:=by show _<=RE;decide):EV X (.Tuple es k pos) Γ aI (.tup xs) Γ1:=by
 intro σ H0 R0 H R E Q q
 refine eS (vx mf) (h σ H0 R0 H R E _ λvs H1 R1 E1 s1 p1=>⟨by rw[p1.length];exact hz,λp hp=>?_⟩)
 have x:=Ext.fresh E1.sub hp (.tup vs)
 exact q _ _ _ (E1.grow x) (s1.trans x.r) (.tup aA (.of (Paired.map (λ_ _=>aI.mono x.r) p1)))
theorem c5 {a b:Expr}{xs:List PV}{i:Int}{y:PV}(ha:EV X a Γ aI (.tup xs) Γ1)(hb:EV X b Γ1 ah i Γ2)(h:cy xs i=some y)(hs:eK b:=by exact λ_ _=>rfl):EV X (.Subscript a b pos) Γ aI y Γ2:=by
 intro σ H0 R0 H R E Q q
 refine eS (iM z3 aL aL hs) (ha σ H0 R0 H R E _ λv H1 R1 E1 s1 e1=>hb σ H0 R0 H1 R1 E1 _ λu H2 R2 E2 s2 e2=>?_)
 cases aI.mono (K:=X.K) s2 e1 with
 | tup ha pp=>
   obtain⟨w,e3,e4⟩:=gZ pp.pair h
   exact⟨_,_,i,w,rfl,e2,du.of (E2.sub _ _ ha),e3,q w H2 R2 E2 (s1.trans s2) e4⟩
theorem z8 {H:Hp}{vs:List V}{xs:List PV}(p:PySem.Paired (eD H) vs xs)(l h:Option Int):PySem.Paired (eD H) (kn vs l h) (cut xs l h):=by
 unfold kn cut
 rw[p.length]
 exact iQ _ (kA _ p)
theorem JD {a:Expr}{lo hi:Option Expr}{p2:Pos}{xs:List PV}{l h:Option Int}(ha:EV X a Γ aI (.tup xs) Γ)(hl:OV X lo Γ l)(hh:OV X hi Γ h)(hw:¬(HT.Va xs.length 0 l=0/\HT.Va xs.length xs.length h=xs.length)):EV X (.Subscript a (.Slice lo hi none p2) pos) Γ aI (.tup (cut xs l h)) Γ:=by
 intro σ H0 R0 H R E Q q
 obtain⟨tl,pl,kl⟩:=hl
 obtain⟨th,ph,kh⟩:=hh
 refine eS (l6 G0 aL pl ph) (ha σ H0 R0 H R E _ λv H1 R1 E1 s1 e1=>kl σ H0 R0 H1 R1 E1 _ λH2 R2 E2 s2=>kh σ H0 R0 H2 R2 E2 _ λH3 R3 E3 s3=>?_)
 cases aI.mono (K:=X.K) (s2.trans s3) e1 with
 | @tup a' Vn _ hp pp=>
   refine⟨_,_,rfl,du.of (E3.sub _ _ hp),by rw[pp.pair.length];exact hw,λd hd=>?_⟩
   have x:=Ext.fresh E3.sub hd (.tup (kn Vn l h))
   exact q _ _ _ (E3.grow x) (s1.trans (s2.trans (s3.trans x.r))) (.tup aA (.of (Paired.map (λ_ _=>aI.mono (K:=X.K) x.r) (z8 pp.pair l h))))
mutual
def PV.deep:PV->Nat
 | .tup xs=>PV.iT xs+1
 | .lst xs=>PV.iT xs+1
 | _=>0
def PV.iT:List PV->Nat
 | []=>0
 | x::xs=>max (PV.deep x) (PV.iT xs)
end
theorem jS:∀{xs:List PV} {x:PV},x∈xs->x.deep<=PV.iT xs
 | y::ys,x,h=>by
   rw[PV.iT]
   rcases O7.mp h with rfl | h
   ·omega
   ·have:=jS h;omega
theorem all_true {n:Nat}:((Pm n).all λ_=>true)=true:=by simp
section
variable {UT:OA}{σ:St}{H R:Hp}{s:RA}
theorem pG (I:Inv X UT σ H s)(sub:av R H){xs:List PV}{A:RL}(ih:∀x∈xs,∀{v u:V} {vv uu:Value},RelV v vv->RelV u uu->eD R v x->eD R u x->T7 A s vv uu true){vs ws:List V}{us Wd:OF}(hv:Vals vs us)(hw:Vals ws Wd)(p1:PySem.Paired (eD R) vs xs)(p2:PySem.Paired (eD R) ws xs):
 ∀(j:Nat) (h1:j<us.toArray.size) (h2:j<Wd.toArray.size),T7 A s us.toArray[j] Wd.toArray[j] true:=by
 intro j h1 h2
 have h1':j<us.length:=by simpa using h1
 have YJ:j<Wd.length:=by simpa using h2
 have hx:j<xs.length:=by rw[← p1.length,hv.length];exact h1'
 obtain⟨v,e1,r1⟩:=dm p1 (OX hx)
 obtain⟨u,e2,r2⟩:=dm p2 (OX hx)
 obtain⟨vv,e3,r3⟩:=hv.get e1
 obtain⟨uu,e4,r4⟩:=hw.get e2
 rw[OX h1'] at e3
 rw[OX YJ] at e4
 simp only[List.getElem_toArray]
 rw[Option.some.inj e3,Option.some.inj e4]
 exact ih _ (PD hx) r3 r4 r1 r2
theorem Dj (I:Inv X UT σ H s)(sub:av R H):∀(n:Nat) {x:PV},x.deep<=n->∀{A:RL},A.units+n<cLine->∀{v u:V} {vv uu:Value},RelV v vv->RelV u uu->eD R v x->eD R u x->T7 A s vv uu true:=by
 intro n
 induction n using Nat.strongRecOn with
 | _ n ih=>
   intro x hd A hu v u vv uu rv ru h1 h2
   cases h1 with
   | U8=>cases h2;cases rv;cases ru;exact T7.same _
   | bl b=>cases h2;cases rv;cases ru;have:=T7.bool_bool (A:=A) (s:=s) b b;rwa [beq_self_eq_true] at this
   | int i=>cases h2;obtain⟨t,rfl⟩:=rv;obtain⟨t',rfl⟩:=ru;exact λprog w E Q q=>wpAny_eqBool_int (by simpa using q)
   | str z=>cases h2;obtain⟨t,rfl⟩:=rv;obtain⟨t',rfl⟩:=ru;have:=T7.str_str (A:=A) (s:=s) z t z t';rwa [beq_self_eq_true] at this
   | @tup a1 v1 xs e1 p1=>
     cases h2 with
     | @tup a2 v2 _ e2 p2=>
       cases rv;cases ru
       rw[PV.deep] at hd
       by_cases Xn:a1=a2
       ·subst Xn;exact T7.same _
       ·have l12:v1.length=v2.length:=p1.pair.length.trans p2.pair.length.symm
        have key:=(A9 (A:=A) (k:=λ_=>true) I sub e1 e2 l12 (by omega) λus Wd hv hw=>pG I sub (λx hx v u vv uu rv ru q1 q2=>ih (n-1) (by omega) (x:=x) (by have:=jS hx;omega) (A:=A.in1) (by rw[in1_units];omega) rv ru q1 q2) hv hw p1.pair p2.pair).1
        rw[all_true] at key
        exact T7.of_refs Xn key
   | @lst a1 v1 xs e1 p1 z1=>
     cases h2 with
     | @lst a2 v2 _ e2 p2 z2=>
       cases rv;cases ru
       rw[PV.deep] at hd
       by_cases Xn:a1=a2
       ·subst Xn;exact T7.same _
       ·obtain⟨us,hv,pl,_⟩:=I.list (aU.of (sub _ _ e1))
        obtain⟨Wd,hw,V1,_⟩:=I.list (aU.of (sub _ _ e2))
        have lx:us.toArray.size=Wd.toArray.size:=by rw[O9,O9,← hv.length,← hw.length,p1.pair.length,p2.pair.length]
        have key:=SeqAt.RcAt.lists (A:=A) (e:=λ_=>true) pl.isList V1.isList lx (by omega) (pG I sub (λx hx v u vv uu rv ru q1 q2=>ih (n-1) (by omega) (x:=x) (by have:=jS hx;omega) (A:=A.in1) (by rw[in1_units];omega) rv ru q1 q2) hv hw p1.pair p2.pair)
        rw[all_true] at key
        exact T7.of_refs Xn key
theorem Mt (I:Inv X UT σ H s)(sub:av R H){x:PV}(hr:(∃xs,x= .tup xs)∨∃xs,x= .lst xs){A:RL}(hu:A.units+x.deep<cLine){v u:V}{vv uu:Value}(rv:RelV v vv)(ru:RelV u uu)(h1:eD R v x)(h2:eD R u x):SeqAt.RcAt A s vv uu true/\SeqAt.RcNeAt A s vv uu false:=by
 rcases hr with⟨xs,rfl⟩ | ⟨xs,rfl⟩
 ·cases h1 with
  | @tup a1 v1 _ e1 p1=>
    cases h2 with
    | @tup a2 v2 _ e2 p2=>
      cases rv;cases ru
      rw[PV.deep] at hu
      have l12:v1.length=v2.length:=p1.pair.length.trans p2.pair.length.symm
      have key:=A9 (A:=A) (k:=λ_=>true) I sub e1 e2 l12 (by omega) λus Wd hv hw=>pG I sub (λx hx v u vv uu rv ru q1 q2=>Dj I sub (PV.iT xs) (x:=x) (jS hx) (A:=A.in1) (by rw[in1_units];omega) rv ru q1 q2) hv hw p1.pair p2.pair
      rw[all_true] at key
      exact key
 ·cases h1 with
  | @lst a1 v1 _ e1 p1 z1=>
    cases h2 with
    | @lst a2 v2 _ e2 p2 z2=>
      cases rv;cases ru
      rw[PV.deep] at hu
      obtain⟨us,hv,pl,_⟩:=I.list (aU.of (sub _ _ e1))
      obtain⟨Wd,hw,V1,_⟩:=I.list (aU.of (sub _ _ e2))
      have lx:us.toArray.size=Wd.toArray.size:=by rw[O9,O9,← hv.length,← hw.length,p1.pair.length,p2.pair.length]
      have he:=pG (A:=A.in1) I sub (λx hx v u vv uu rv ru q1 q2=>Dj I sub (PV.iT xs) (x:=x) (jS hx) (A:=A.in1) (by rw[in1_units];omega) rv ru q1 q2) hv hw p1.pair p2.pair
      have k1:=SeqAt.RcAt.lists (A:=A) (e:=λ_=>true) pl.isList V1.isList lx (by omega) he
      have k2:=SeqAt.RcNeAt.lists (A:=A) (e:=λ_=>true) pl.isList V1.isList lx (by omega) he
      rw[all_true] at k1 k2
      exact⟨k1,k2⟩
end
theorem uc {x:PV}(hr:(∃xs,x= .tup xs)∨∃xs,x= .lst xs)(hu:X.A.units+x.deep<cLine):gJ X .NotEq aI aI x x false:=
 ⟨λv u H Q=>∃R,av R H/\eD R v x/\eD R u x/\Q (.bl false) H,λUT s σ H a b v u Q I rx ry ⟨R,sub,h1,h2,q⟩=>(Mt I sub hr hu rx ry h1 h2).2 _ _ _ _ ⟨.bl _,H,I,rfl,q⟩,λR H v u Q s h1 h2 q=>⟨R,s,h1,h2,q⟩⟩
end
section
variable {X:Cx}{Γ Γ1 Γ2 Γ3:Ga}{α β γ δ:Type}{N:Ga->Prop}{T:RT}
theorem EV.rep {e:Expr}{r:Rep α}{x:α}{r':Rep β}{y:β}(h:EV X e Γ r x Γ1)(c:∀(R:Hp) v,r.R X.K R v x->r'.R X.K R v y):EV X e Γ r' y Γ1:=λσ H0 R0 H R E Q q=>h σ H0 R0 H R E Q λv H' R' E' s' e'=>q v H' R' E' s' (c R' v e')
end
section
variable {X:Cx}{Γ Γ1 Γ2 Γ3:Ga}{α β γ δ:Type}{N:Ga->Prop}{T:RT}
theorem paired_ints {K:Uk}{R:Hp}:∀ys:OB,PySem.Paired (ah.R K R) (ys.map V.int) ys
 | []=>.nil
 | _::r=>.cons rfl (paired_ints r)
theorem sg {a:Expr}{p1 p2 pos Wi:Pos}{n:Int}(Yn:X.mg "list"=none)(hmr:X.mg "range"=none)(ha:EV X a Γ ah n Γ1)(hn: -1000000<=n/\n<=1000000)(hs:RC [a] X.env=[(false,eval a X.env)]:=by rfl)
 (Vv:RC [.Call (.Name "range" p2) [a] [] Wi] X.env=[(false,eval (.Call (.Name "range" p2) [a] [] Wi) X.env)]:=by rfl) (hc:X.calm=true:=by rfl) (hg:Gl X "list":=by rfl) (hgr:Gl X "range":=by rfl):aZ X (.Call (.Name "list" p1) [.Call (.Name "range" p2) [a] [] Wi] [] pos) Γ ah (ups 0 n.toNat) Γ1:=by
 intro σ H0 R0 H R E Q q
 refine eS (gE (mq hc) hg Yn Rv (aM (gE qv hgr hmr Ry (aM aL bB hs) (by decide) (by decide) hs) bB Vv) (by decide) (by decide) Vv) (ha σ H0 R0 H R E _ λv H1 R1 E1 s1 e1=>⟨n,by rw[show v=V.int n from e1],λp hp=>?_⟩)
 refine⟨p,0,n,rfl,aA,by decide,by decide,hn.1,hn.2,λd hd=>?_⟩
 have E2:=E1.grow (Ext.dJ E1.sub hp (.Xi 0 n))
 rw[Int.sub_zero]
 exact q d _ _ R1 (E2.grow (Ext.dJ E2.sub hd _)) s1 aA (E2.sub.free hd) (E2.ext.h.free hd) (E2.off hd) (paired_ints _) (by rw[ba];exact QX (show n.toNat<=1000000 by omega) (by decide))
end
section
variable {X:Cx}{Γ Γ1 Γ2 Γ3:Ga}{α β γ δ:Type}{N:Ga->Prop}{T:RT}
variable {pos:Pos}{F:OH}{x:Str}{Γf:Ga}{e:Expr}
def cR (F:OH):List (Int×V):=F.map λp=>(p.1,.int p.2)
def bA (F:OH)(k:Int):Option Int:=(F.find? λp=>decide (p.1=k)).map (·.2)
def lR (F:OH)(k v:Int):OH:=if(bA F k).isSome then F.map (λp=>if p.1=k then(p.1,v) else p) else F++[(k,v)]
theorem kW:∀(F:OH) (k:Int),cX (cz (cR F)) (Sum.inl k:Key)=(bA F k).map V.int
 | [],_=>rfl
 | p::r,k=>by
   have ih:=kW r k
   by_cases e:p.1=k
   ·have e':(Sum.inl p.1:Key)=Sum.inl k:=by rw[e]
    have h1:cX (cz (cR (p::r))) (Sum.inl k:Key)=some (.int p.2):=dw (p:=((Sum.inl p.1:Key),V.int p.2)) e'
    rw[h1]
    unfold bA
    rw[Ql,UO e];rfl
   ·have e':¬(Sum.inl p.1:Key)=Sum.inl k:=λz=>e (Sum.inl.inj z)
    have h1:cX (cz (cR (p::r))) (Sum.inl k:Key)=cX (cz (cR r)) (Sum.inl k:Key):=dc (p:=((Sum.inl p.1:Key),V.int p.2)) e'
    rw[h1,ih]
    unfold bA
    rw[Ql,UP e]
theorem uU (F:OH)(k v:Int):putK (cz (cR F)) (Sum.inl k:Key) (.int v)=cz (cR (lR F k v)):=by
 unfold putK lR
 rw[gy,kW]
 have e:((bA F k).map V.int).isSome=(bA F k).isSome:=by cases bA F k<;>rfl
 rw[e]
 split
 ·unfold cz cR
  simp only[PQ]
  apply P9
  intro p _
  simp only[Function.comp]
  by_cases h:p.1=k
  ·rw[UL (by rw[h]),UL h]
  ·rw[UK (λz=>h (Sum.inl.inj z)),UK h]
 ·unfold cz cR
  rw[Ph,Ph];rfl
def iW:Rep OH:=⟨λ_ H v F=>∃a,v= .ref a/\H a=some (.dK (cz (cR F))),λs ⟨a,e,q⟩=>⟨a,e,s _ _ q⟩⟩
theorem jF {a b:Expr}{k y:Int}(hu:X.A.units+1<cLine)(ha:EV X a Γ iW F Γ1)(hb:EV X b Γ1 ah k Γ2)(h:bA F k=some y)(hs:BU b:=by exact λ_ _=>rfl):EV X (.Subscript a b pos) Γ ah y Γ2:=by
 intro σ H0 R0 H R E Q q
 refine eS (FZ hu aL aL hs) (ha σ H0 R0 H R E _ λv H1 R1 E1 s1 e1=>hb σ H0 R0 H1 R1 E1 _ λu H2 R2 E2 s2 e2=>?_)
 obtain⟨p,rfl,hp⟩:=iW.mono s2 e1
 cases e2
 have g:=gN.k (k:=Sum.inl k) (E2.sub _ _ hp)
 rw[kW,h] at g
 exact⟨p,_,rfl,g,q _ H2 R2 E2 (s1.trans s2) rfl⟩
theorem BD (F:OH)(k v:Int):(lR F k v).length<=F.length+1:=by
 unfold lR;split
 ·rw[OZ];omega
 ·rw[O4];simp
theorem Js (i:Nat){ke ve:Expr}{p1 p2:Pos}{k v:Int}(hu:X.A.units+1<cLine)(hk:EV X ke Γ ah k Γ)(WA:EV X ve Γ ah v Γ)(hΓ:Γ[i]?=some (.di (cR F)))(hz:F.length<RE)(h:N (Γ.set i (.di (cR (lR F k v)))))
 (hN:X.N[i]?=some x:=by rfl) (Y5:autoParam (cC X.env.scope x) Vo)
 (hd:Vd x:=by decide) (U0:Vp x:=by decide)
 (hs:RN ve (some (.Subscript (.Name x p1) ke p2)) pos.line X.env=pure false:=by rfl):W1 X (.Assign [.Subscript (.Name x p1) ke p2] ve pos) Γ N T:=λσ H0 R0 H R E D dn dr=>by
 refine sS (qQ hu (bb hN Y5 hd U0) aL aL hs) (WA σ H0 R0 H R E _ λu0 H0' R0' E0 s0 e0=>?_)
 obtain⟨a,ea,ha,hR⟩:=E0.ent i _ hΓ
 refine⟨.ref a,at_of ea,hk σ H0 R0 H0' R0' E0 _ λu H1 R1 E1 s1 e1=>?_⟩
 obtain⟨a',Vs,VN,Vw⟩:=E1.ent i _ hΓ
 rw[ea] at Vs;cases Vs
 cases e1
 cases e0
 refine⟨a,_,rfl,oz.k (k:=Sum.inl k) VN (by unfold cz cR;rw[OZ,OZ];exact hz),?_⟩
 rw[uU]
 exact dn σ _ R1 _ (E1.upd (en:=.di (cR (lR F k v))) hΓ rfl ea Vw ⟨a,rfl,aA,Vw⟩) (s0.trans s1) h
theorem wG (i:Nat){p1:Pos}{P:OH->Prop}(hΓ:Γ[i]?=some (.di (cR F)))(h:P F)(hN:X.N[i]?=some x:=by rfl)(hv:autoParam (cC X.env.scope x) Vo)
 (hd:Vd x:=by decide) (U0:Vp x:=by decide):W1 X (.Return (some (.Name x p1)) pos) Γ N (bU X.K iW P):=λσ H0 R0 H R E D dn dr=>by
 obtain⟨a,ea,ha,hR⟩:=E.ent i _ hΓ
 have h0:H0 a=none:=E.new i _ a hΓ rfl ea
 refine sS (hU (bb hN hv hd U0)) ⟨.ref a,at_of ea,dr _ H (upd R a (.dK (cz (cR F)))) ⟨E.ext.h,E.ext.r.trans (av.fresh hR _),λb o qb=>?_,λb hb=>?_⟩ ⟨F,⟨a,rfl,aA⟩,h⟩⟩
 ·by_cases hb:b=a
  ·subst hb;rw[aA] at qb;cases qb;exact ha
  ·rw[aB hb] at qb;exact E.ext.s b o qb
 ·rw[aB (show b≠a from λe=>hb (by rw[e];exact h0))];exact E.ext.old b hb
theorem au.Gz {K:Uk}{σ:St}{H0 R0 H R H' R':Hp}(E:au K σ H0 R0 H R Γ)(E':au K σ H H H' R' Γf):au K σ H0 R0 H' R Γ:=
 E.grow ⟨E'.ext.h,av.refl _,E.sub.trans E'.ext.h,λ_ _=>rfl⟩
theorem TV.VP (hF:∀(σ:St) (H0 R0 H R:Hp),au X.K σ H0 R0 H R Γ->au X.K σ H H H H Γf){b:Bool}(h:TV X e Γf b Γf):TV X e Γ b Γ:=λσ H0 R0 H R E Q q=>
 h σ H H H H (hF σ H0 R0 H R E) Q λH' R' E' s'=>q H' R (E.Gz E') (av.refl _)
theorem EV.VP (hF:∀(σ:St) (H0 R0 H R:Hp),au X.K σ H0 R0 H R Γ->au X.K σ H H H H Γf){r:Rep α}{y:α}(flat:∀(K:Uk) (H H':Hp) v y,r.R K H v y->r.R K H' v y)(h:EV X e Γf r y Γf):EV X e Γ r y Γ:=λσ H0 R0 H R E Q q=>
 h σ H H H H (hF σ H0 R0 H R E) Q λv H' R' E' s' e'=>q v H' R (E.Gz E') (av.refl _) (flat X.K R' R v y e')
def iF:Rep Unit:=⟨λ_ _ v _=>v= .U8,λ_ h=>h⟩
theorem FW {S:cP}{k:Nat}{es:OG}{p p2:Pos}{ps:List Pk}{Pd:Unit->Prop}(C:aH X.prog X.w X.K X.mg X.base x k (aN S X.K))(hr:bI k X.A)(ha:HA X (e::es) Γ ps Γ1)(hS:S X.K ps (bU X.K iF Pd))(h:N Γ1)
 (hg:Gl X x:=by rfl) (VE:Vd x:=by decide) (he:RC (e::es) X.env=(false,eval e X.env)::RC es X.env:=by rfl) (Ve:(RM p2 (RC es X.env)).any (·.1)=false:=by rfl)
 (VR:RN (.Call (.Name x p) (e::es) [] p2) none pos.line X.env=pure false:=by rfl):W1 X (.Expr (.Call (.Name x p) (e::es) [] p2) pos) Γ N T:=λσ H0 R0 H R E D dn dr=>
 sS (fz aL VR) (jz C hr ha hS E (λH1 R1 v H' R' E1 s1 xx t=>dn σ H' R' _ (E1.grow xx) (s1.trans xx.r) h) hg VE he Ve)
end
section
variable {P:RJ}{w:World}{K:Uk}{mg:Oz}{base:Heap}{α:Type}
theorem Aa {S:cP}{x qual:Str}{st:Stmt}{f:Addr}{fd:RO}{N ps:OC}{k:Nat}(F:dU K x qual st f fd)(Sc:aF N ps (ai st))(hm:mg x=some (.ref f))(hb:Binds K fd ps [])(len:∀qs T,S K qs T->qs.length=ps.length)
 (Vc:∀(UX:Value) (A:RL) (outer:List Env) (s:RA) (H:Hp) (E:XK) (qs:List Pk) (T:RT),bI k (A.deeper (Ru qual (ai st) s.heap.objs.size f UX))->S K qs T->(∀H0 H' R',T H0 .U8 H' R')/\
  WS (eI d6 P w K mg base N qual (ai st) f UX A outer s H E).h9 (bw st) (eo qs N.length) (λ_=>True) T):aH P w K mg base x (k+1) (aN S K):=by
 refine⟨f,fd,ps,?_,hm,F.kp,hb⟩
 refine F.ok Sc (λvs H Q E h=>?_) (λUX A outer s H vs Q E hr h=>?_)
 ·obtain⟨R,qs,T,_,p,hS,_⟩:=h
  rw[p.length];exact len qs T hS
 ·obtain⟨R,qs,T,sR,p,hS,q⟩:=h
  have hl:qs.length<=N.length:=by
   rw[len qs T hS]
   have:=congrArg List.length Sc.pre
   rw[Pl] at this
   omega
  obtain⟨h1,h2⟩:=Vc UX A outer s H E qs T hr hS
  exact⟨_,i9,h2 (L2.start N vs) H R H R (iV sR p hl) {nx:=λ_ H'=>Q .U8 H',rt:=Q} (λσ' H' R' Γ' E' _ _=>q .U8 H' R' E'.ext (h1 _ _ _)) λv H' R' xx t=>q v H' R' xx t⟩
theorem Ej {S:cP}{x:Str}{st:Stmt}{N ps:OC}{k:Nat}(D:Def K mg x st ps)(Sc:aF N ps (ai st))
 (Vc:∀(f:Addr) (UX:Value) (A:RL) (outer:List Env) (s:RA) (H:Hp) (E:XK) (qs:List Pk) (T:RT),bI k (A.deeper (Ru x (ai st) s.heap.objs.size f UX))->S K qs T->(∀H0 H' R',T H0 .U8 H' R')/\
  WS (eI d6 P w K mg base N x (ai st) f UX A outer s H E).h9 (bw st) (eo qs N.length) (λ_=>True) T)
 (len:∀qs T,S K qs T->qs.length=ps.length:=by(intros;rename_i h;repeat (first | (rw[h.1];rfl) | obtain⟨_,h⟩:=h))):aH P w K mg base x (k+1) (aN S K):=by
 obtain⟨f,fd,F,hm,hb⟩:=D
 exact Aa F Sc hm hb len (Vc f)
end
section
variable {X:Cx}{Γ Γ1 Γ2 Γ3:Ga}{α β γ δ:Type}{N:Ga->Prop}{T:RT}
variable {r:Rep α}{xs:List α}
theorem A6 (i:Nat){x:Str}{e:Expr}{p1 ap cp:Pos}{y:α}(he:EV X e Γ r y Γ1)(hΓ:Γ[i]?=some (.mu r xs))(hΓ1:Γ1[i]?=some (.mu r xs))(hz:xs.length<RE)
 (hN:X.N[i]?=some x:=by rfl) (hv:autoParam (cC X.env.scope x) Vo)
 (hd:Vd x:=by decide) (U0:Vp x:=by decide)
 (U2:RK (.Name x p1) "append" X.env (eval (.Name x p1) X.env)=eval (.Name x p1) X.env:=by rfl)
 (Vg:((RM cp (RC [e] X.env)).all (λx=> !x.1)&&(Sb cp (RX [] X.env)).all (λx=>x.1.isSome)
  &&decide ([e].length+([]:List RP).length+(if([]:List RP).isEmpty then 0 else 1)<30))=true:=by rfl)
 (U1:(ap.endLine==cp.line)=true:=by rfl) (hs:RC [e] X.env=(false,eval e X.env)::RC [] X.env:=by rfl):EV X (.Call (.Attribute (.Name x p1) "append" ap) [e] [] cp) Γ iF () (Γ1.set i (.mu r (xs++[y]))):=λσ H0 R0 H R E Q q=>by
 obtain⟨a,vs,ea,ha,hR,pp⟩:=E.ent i _ hΓ
 refine eS (gw Tw Tx Tz gL (bb hN hv hd U0) (aM aL bB hs) U2 Vg U1 hs rfl) ?_
 refine⟨.ref a,at_of ea,.inl ⟨rfl,vs,aU.of ha⟩,he σ H0 R0 H R E _ λv H1 R1 E1 s1 e1=>?_⟩
 obtain⟨a',Vn,Vs,VN,Vw,VQ⟩:=E1.ent i _ hΓ1
 rw[ea] at Vs;cases Vs
 refine⟨a,Vn,v,rfl,rfl,VN,by rw[VQ.length];exact hz,?_⟩
 exact q _ _ R1 (E1.upd (en:=.mu r (xs++[y])) hΓ1 rfl ea Vw ⟨a,_,rfl,aA,Vw,dh VQ (.cons e1 .nil)⟩) s1 rfl
theorem IG {i:Nat}(hΓ:Γ[i]?=some (.mu r xs))(hz:xs.length<=RE)(σ:St)(H0 R0 H R:Hp)(E:au X.K σ H0 R0 H R Γ):au X.K σ H H H H ((Γ.map lV).set i (.im (ae r) xs)):=by
 obtain⟨a,vs,ea,ha,hR,pp⟩:=E.ent i _ hΓ
 exact E.VP.j9 (i:=i) (e0:=.no) (by rw[O5,hΓ];rfl) ⟨.ref a,ea,a,vs,rfl,ha,Paired.map (λ_ _=>r.mono E.sub) pp,hz⟩ λb w=>by cases w
theorem Fp (i:Nat){x:Str}{p1 pos:Pos}{P:List α->Prop}(hΓ:Γ[i]?=some (.mu r xs))(hz:xs.length<=RE)(h:P xs)(hN:X.N[i]?=some x:=by rfl)(hv:autoParam (cC X.env.scope x) Vo)
 (hd:Vd x:=by decide) (U0:Vp x:=by decide):W1 X (.Return (some (.Name x p1)) pos) Γ N (Aq X.K r P):=λσ H0 R0 H R E D dn dr=>by
 obtain⟨a,vs,ea,ha,hR,pp⟩:=E.ent i _ hΓ
 exact sS (hU (bb hN hv hd U0)) ⟨.ref a,at_of ea,dr _ H R E.ext ⟨a,vs,xs,rfl,E.new i _ a hΓ rfl ea,ha,hR,pp,hz,h⟩⟩
end
section
variable {X:Cx}{Γ Γ1 Γ2 Γ3:Ga}{α β γ δ:Type}{N:Ga->Prop}{T:RT}
variable {e:Expr}{r:Rep α}{r':Rep β}
def tf (r:Rep α)(r':Rep β):Rep (α ⊕ β):=⟨λK H v o=>match o with | .inl x=>r.R K H v x | .inr y=>r'.R K H v y,λ{K H H' v o} s h=>by cases o with | inl x=>exact r.mono s h | inr y=>exact r'.mono s h⟩
theorem EV.inl {x:α}(h:EV X e Γ r x Γ1):EV X e Γ (tf r r') (.inl x) Γ1:=EV.rep h λ_ _ q=>q
theorem EV.inr {y:β}(h:EV X e Γ r' y Γ1):EV X e Γ (tf r r') (.inr y) Γ1:=EV.rep h λ_ _ q=>q
theorem EV.ofl {x:α}(h:EV X e Γ (tf r r') (.inl x) Γ1):EV X e Γ r x Γ1:=EV.rep h λ_ _ q=>q
theorem EV.nS {y:β}(h:EV X e Γ (tf r r') (.inr y) Γ1):EV X e Γ r' y Γ1:=EV.rep h λ_ _ q=>q
end
section
variable {X:Cx}{Γ Γ1 Γ2 Γ3:Ga}{α β γ δ:Type}{N:Ga->Prop}{T:RT}
end
section
variable {X:Cx}{Γ Γ1 Γ2 Γ3:Ga}{α β γ δ:Type}{N:Ga->Prop}{T:RT}
def mW (H:Hp)(l:OE):Hp:=λb=>if b∈l then none else H b
theorem qu {H:Hp}{l:OE}{b:Addr}(h:b∈l):mW H l b=none:=UL h
theorem t7 {H:Hp}{l:OE}{b:Addr}(h:b∉l):mW H l b=H b:=UK h
theorem Ck {H:Hp}{l:OE}:av (mW H l) H:=λb o q=>by
 by_cases h:b∈l
 ·rw[qu h] at q;cases q
 ·rwa [t7 h] at q
variable {P:RJ}{w:World}{K:Uk}{mg:Oz}{base:Heap}
end
section
variable {X:Cx}{Γ Γ1 Γ2 Γ3:Ga}{α β γ δ:Type}{N:Ga->Prop}{T:RT}
structure LK (P:Type):Type 1 where
 bx:OE->P->vg
 fp:∀l s,(bx l s).fp=l
 at_:∀{K H R v l s},(bx l s).R K H R v->∃a t,l=a::t/\v= .ref a
abbrev tF (R:Hp)(l:OE):Prop:=∀b∈l,R b=none
theorem yS {P:Type}{B:LK P}{K:Uk}{H R:Hp}{a:Addr}{l:OE}{s:P}{o:Option V}(h:(Ent.ob (B.bx (a::l) s)).ok K H R o):o=some (.ref a)/\(B.bx (a::l) s).R K H R (.ref a)/\tF R (a::l):=by
 obtain⟨⟨v,e,hv⟩,hR⟩:=h
 obtain⟨a',t,el,ev⟩:=B.at_ hv
 cases el
 subst ev
 exact⟨e,hv,λb hb=>hR b (by rw[B.fp];exact hb)⟩
theorem za {P:Type}{B:LK P}{K:Uk}{H R:Hp}{a:Addr}{l:OE}{s:P}(h:(B.bx (a::l) s).R K H R (.ref a))(hR:tF R (a::l)):(Ent.ob (B.bx (a::l) s)).ok K H R (some (.ref a)):=
 ⟨⟨_,rfl,h⟩,λc hc=>hR c (by rw[B.fp] at hc;exact hc)⟩
theorem xW {P:Type}{B:LK P}{K:Uk}{R H:Hp}{a:Addr}{l:OE}{st:P}{vs:List V}{ps:List Pk}{N:OC}(s:av R H)(hR:tF R (a::l))(hB:(B.bx (a::l) st).R K H R (.ref a))(p:j4 K R vs ps)(hl:ps.length+1<=N.length):
 au K (L2.start N (.ref a::vs)) (mW H (a::l)) R H R (.ob (B.bx (a::l) st)::eo ps (N.length-1)):=by
 obtain⟨n0,N',rfl⟩:∃n0 N',N=n0::N':=by cases N with
  | nil=>exact UJ hl (by simp)
  | cons n N'=>exact⟨n,N',rfl⟩
 have Wl:ps.length<=N'.length:=by simpa using hl
 have E0:=iV (N:=N') s p Wl
 have es:L2.start (n0::N') (.ref a::vs)=some (.ref a)::L2.start N' vs:=by unfold L2.start;simp
 rw[es]
 have Vh:∀(i:Nat) (e:Ent) (o:Option V),(eo ps N'.length)[i]?=some e->e.fp o=[]:=λi e o q=>by
  unfold eo at q
  rcases Pa.mp (O6 q) with z | z
  ·obtain⟨p,_,rfl⟩:=Pe.mp z;rfl
  ·obtain⟨_,rfl⟩:=QH.mp z;rfl
 refine⟨⟨Ck,av.refl _,s,λ_ _=>rfl⟩,λi e q=>?_,λi e c q w=>?_,λi j e e' c q q' w w'=>?_,?_⟩
 ·cases i with
  | zero=>simp at q;subst q;exact za hB hR
  | succ i=>simp at q;simpa using E0.ent i e q
 ·cases i with
  | zero=>
    simp at q;subst q
    have w:c∈(B.bx (a::l) st).fp:=w
    rw[B.fp] at w
    exact qu w
  | succ i=>simp at q;rw[Vh i e _ q] at w;cases w
 ·cases i with
  | succ i=>simp at q;rw[Vh i e _ q] at w;cases w
  | zero=>
    cases j with
    | zero=>rfl
    | succ j=>simp at q';rw[Vh j e' _ q'] at w';cases w'
 ·have:=E0.len
  simp[this]
variable {P:RJ}{w:World}{K:Uk}{mg:Oz}{base:Heap}
end
section
variable {X:Cx}{Γ Γ1 Γ2 Γ3:Ga}{α β γ δ:Type}{N:Ga->Prop}{T:RT}
structure bF (K:Uk) (C:Addr) (ns:OC):Prop where
 cl:lh K C
 no:∀f∈ns,jW K C f
end
section
variable {X:Cx}{Γ Γ1 Γ2 Γ3:Ga}{α β γ δ:Type}{N:Ga->Prop}{T:RT}
end
section
variable {X:Cx}{Γ Γ1 Γ2 Γ3:Ga}{α β γ δ:Type}{N:Ga->Prop}{T:RT}
end
section
variable {X:Cx}{Γ Γ1 Γ2 Γ3:Ga}{α β γ δ:Type}{N:Ga->Prop}{T:RT}
variable {P:RJ}{w:World}{K:Uk}{mg:Oz}{base:Heap}
end
end Fc
namespace Fc.DP
open PySem PySem.Spec
section
variable {prog:RJ}{w:World}{A:RL}{E:Value->RA->Prop}{h:Heap}{g:Array Tb}{d:Drawn}{t:Nat}{os:OsState}{a:Addr}{o:Obj}
end
section
variable {prog:RJ}{w:World}{K:Type} [DecidableEq K]{knd:KeyKind prog w K}{A:RL}{R:Result->RA->Prop}{I:Addr}{fp wr:OE}{G:Array Tb->Array Tb->Prop}{n:Nat}{P:Nat->Value->Prop}{St:Nat->RA->Prop}
end
section
variable {prog:RJ}{w:World}{K:Type} [DecidableEq K]{knd:KeyKind prog w K}{A:RL}{E:Value->RA->Prop}{s:RA}
end
end Fc.DP
namespace Fc
open PySem PySem.Spec PySem.W PySem.Calls L2
open PyProof.Rows hiding St
section
variable {X:Cx}{Γ Γ1 Γ2 Γ3:Ga}{α β γ δ:Type}{N:Ga->Prop}{T:RT}
end
section
variable {X:Cx}{Γ Γ1 Γ2 Γ3:Ga}{α β γ δ:Type}{N:Ga->Prop}{T:RT}
variable {x y:Str}
theorem kO:decide (V.str x=V.str y)=decide (x=y):=by
 by_cases h:x=y
 ·subst h;simp
 ·rw[UP h,UP λz=>h (by injection z)]
theorem cM:gJ X .Eq ag ag x y (decide (x=y)):=⟨_,DS,λR H v u Q _ e1 e2 q=>by
 cases e1;cases e2
 exact⟨rfl,by rw[kO];exact q⟩⟩
theorem DM:gJ X .NotEq ag ag x y (!decide (x=y)):=⟨_,Di,λR H v u Q _ e1 e2 q=>by
 cases e1;cases e2
 exact⟨rfl,by rw[kO];exact q⟩⟩
theorem nV {pos:Pos}{n:Str}{t:Tok}(hm:X.mg x=some (.str n t))(hg:Gl X x:=by rfl)(hd:Vd x:=by decide):EV X (.Name x pos) Γ ag n Γ:=
 λ_ _ _ _ _ E _ q=>eS (iK (v:=.str n) hg hm ⟨t,rfl⟩ hd) (q (.str n) _ _ E (av.refl _) rfl)
def sN:Rep OC:=⟨λK R v xs=>∃a,v= .ref a/\du K R a (xs.map V.str),λs ⟨a,e,h⟩=>⟨a,e,by
 rcases h with h | h
 ·exact .inl (h.imp (λq=>s _ _ q) λ⟨o,q⟩=>⟨o,s _ _ q⟩)
 ·exact .inr h⟩⟩
theorem l7 (x:Str):∀xs:OC,Eg (.str x) (xs.map V.str)=decide (x∈xs)
 | []=>rfl
 | y::r=>by
   have h:=l7 x r
   unfold Eg at h ⊢
   rw[PH,QM,h]
   have e:p8 (V.str y) (V.str x)=decide (x=y):=by
    show(y==x)=_
    by_cases h:x=y
    ·subst h;simp
    ·rw[UP h];exact beq_eq_false_iff_ne.mpr (Rk h)
   rw[e]
   by_cases h1:x=y<;>simp[h1]
theorem kf:∀xs:OC,(xs.map V.str).all ji=true
 | []=>rfl
 | _::r=>by rw[PH,all_cons,kf r];rfl
theorem j5 {xs:OC}:gJ X .In ag sN x xs (decide (x∈xs)):=⟨_,rT,λR H v u Q s e1 e2 q=>by
 cases e1
 obtain⟨a,rfl,h⟩:=e2
 exact⟨a,_,rfl,.inr (h.imp (λh=>h.imp (λq=>s _ _ q) λ⟨o,q⟩=>⟨o,s _ _ q⟩) id),rfl,kf xs,by rw[UK OJ,l7];exact q⟩⟩
def qM (K:Uk)(mg:Oz)(x:Str)(xs:OC):Prop:=∃a o UW n,mg x=some (.ref a)/\K.lookup a=some o/\o.cls= .type "tuple"/\o.data= .seq UW n/\UW.size<=RE/\Vals (xs.map V.str) UW.toList
theorem gz {pos:Pos}{xs:OC}(hm:qM X.K X.mg x xs)(hg:Gl X x:=by rfl)(hd:Vd x:=by decide):EV X (.Name x pos) Γ sN xs Γ:=by
 obtain⟨a,o,UW,n,h1,h2⟩:=hm
 exact λ_ _ _ _ _ E _ q=>eS (iK (v:=.ref a) hg h1 rfl hd) (q (.ref a) _ _ E (av.refl _) ⟨a,rfl,.inr ⟨o,UW,n,h2⟩⟩)
end
def lT (P:RJ)(w:World)(K:Uk)(mg:Oz)(x:Str)(D:List (Str×OC)):Prop:=
 ∃a o vs,mg x=some (.ref a)/\K.lookup a=some o/\o.IsDictOf (bW P w) vs/\(a==R7)=false/\
  PySem.Paired (λ(d:Str×OC) (p:Key×Value)=>p.1=Sum.inr d.1/\∃b o UW n,p.2= .ref b/\K.lookup b=some o/\o.cls= .type "tuple"/\o.data= .seq UW n/\UW.size<=RE/\Vals (d.2.map V.str) UW.toList) D vs
def cn:List (Str×OC)->Str->Option OC
 | [],_=>none
 | (k,v)::r,x=>if k=x then some v else cn r x
theorem sC {K:Uk}{x:Str}:∀{D:List (Str×OC)} {vs:List (Key×Value)},PySem.Paired (λ(d:Str×OC) (p:Key×Value)=>p.1=Sum.inr d.1/\∃b o UW n,p.2= .ref b/\K.lookup b=some o/\o.cls= .type "tuple"/\o.data= .seq UW n/\UW.size<=RE/\Vals (d.2.map V.str) UW.toList) D vs->
 (cn D x=none/\Sa vs (Sum.inr x:Key)=none)∨∃ys b,cn D x=some ys/\Sa vs (Sum.inr x:Key)=some (.ref b)/\∃o UW n,K.lookup b=some o/\o.cls= .type "tuple"/\o.data= .seq UW n/\UW.size<=RE/\Vals (ys.map V.str) UW.toList
 | _,_,.nil=>.inl ⟨rfl,rfl⟩
 | _,_,.cons (a:=d) (b:=p) h t=>by
   obtain⟨k,v⟩:=d
   obtain⟨q,u⟩:=p
   obtain⟨e1,b,o,UW,n,e2,h3⟩:=h
   have e1:q=Sum.inr k:=e1
   have e2:u=Uc b:=e2
   subst e1;subst e2
   rw[cn]
   unfold Sa
   rw[Ql]
   by_cases e:k=x
   ·subst e
    rw[UL rfl]
    exact .inr ⟨v,b,rfl,by simp,o,UW,n,h3⟩
   ·rw[UK e]
    have:decide ((Sum.inr k:Key)=Sum.inr x)=false:=UP λz=>e (Sum.inr.inj z)
    simp only[this]
    exact sC t
section
variable {X:Cx}{Γ Γ1 Γ2 Γ3:Ga}{α β γ δ:Type}{N:Ga->Prop}{T:RT}
theorem Am {e:Expr}{x:Str}{p1 pos:Pos}{D:List (Str×OC)}{k:Str}(hD:lT X.prog X.w X.K X.mg x D)(he:EV X e Γ ag k Γ1)(hg:Gl X x:=by rfl)(hd:Vd x:=by decide):TV X (.Compare e [.NotIn] [.Name x p1] pos) Γ (!(cn D k).isSome) Γ1:=by
 intro σ H0 R0 H R E Q q
 obtain⟨a,o,vs,hm,hk,hdo,hs,hp⟩:=hD
 have pc:PC X .NotIn e (.Name x p1) (λσ H Q=>eZ X e σ H λy H1=>y= .str k/\Q (.bl (!(cn D k).isSome)) H1):=by
  intro UT s σ H Q I h
  refine aT (h UT s I) λiv s1 ⟨y,H1,I1,ry,ey,q1⟩=>aT (iK (v:=.ref a) hg hm rfl hd UT s1 σ H1 (λv H2=>v= .ref a/\H2=H1) I1 ⟨rfl,rfl⟩) λu s2 ⟨y2,H2,I2,ry2,e3,e4⟩=>?_
  subst ey;subst e3;subst e4
  obtain rfl:u=Uc a:=ry2
  have dd:s2.heap.DictOf (bW X.prog X.w) a vs:=T1.mpr ⟨o,I2.fo a o hk,hdo⟩
  refine wpAny_notIn_of (jm (k:=Sum.inr k) ry) hs dd.mapOf ?_
  rcases sC (x:=k) hp with⟨h1,h2⟩ | ⟨ys,b,h1,h2,_⟩
  ·rw[h2];rw[h1] at q1;exact⟨.bl _,_,I2.tok _,rfl,q1⟩
  ·rw[h2];rw[h1] at q1;exact⟨.bl _,_,I2.tok _,rfl,q1⟩
 refine tS (m5 pc (by with_unfolding_all rfl)) (he σ H0 R0 H R E _ λv H1 R1 E1 s1 e1=>⟨e1,_,rfl,q H1 R1 E1 s1⟩)
end
end Fc
namespace Fc.ZT
open PySem PySem.Spec PyProof.Rows
section
variable {prog:RJ}{w:World}{A:RL}{E:Value->RA->Prop}{s:RA}
structure Dr (prog:RJ) (w:World) (A:RL) (i l:Addr) (UW:Array Value) (St:Nat->Heap->Prop):Prop where
 up:∀{k:Nat} {h h':Heap},St k h->(∀b,b=i∨b=l->∀o,h.get? b=some o->h'.get? b=some o)->St k h'
 there:∀{k:Nat} {h:Heap},St k h->i<h.objs.size
 item:∀{k:Nat} {x:Value} {s:RA} {Q:Value->RA->Prop} {E:Value->RA->Prop},St k s.heap->UW[k]?=some x->(∀h',St (k+1) h'->TY i s.heap h'->Q x {s with heap:=h'})->wpAny (model prog w) A (Tp (.ref i)) Q E s
 done:∀{k:Nat} {s:RA} {Q:Value->RA->Prop} {E:Value->RA->Prop},St k s.heap->UW[k]?=none->(∀h' e,Heap.ExtBut i s.heap h'->(∃o,h'.get? e=some o/\o.cls= .type "StopIteration")->E (.ref e) {s with heap:=h'})->wpAny (model prog w) A (Tp (.ref i)) Q E s
theorem uV {i l:Addr}{UW:Array Value}(hh:A.handled=none)(U9:i≠l):Dr prog w A i l UW (λk h=>h.IsTupleIter i l k/\h.IsTuple l UW) where
 up:=λ⟨⟨o,ho,r⟩,⟨o',Wc,r'⟩⟩ hk=>⟨⟨o,hk _ (.inl rfl) o ho,r⟩,⟨o',hk _ (.inr rfl) o' Wc,r'⟩⟩
 there:=λ⟨⟨o,ho,_⟩,_⟩=>TQ ho
 item:=λ{k x s Q E} ⟨hit,ht⟩ hx hQ=>by
  obtain⟨o,ho,hc,hd⟩:=id hit
  obtain⟨ol,hol,_,nl,Yp⟩:=id ht
  unfold Tp
  refine RF (R8 (name:=Ua "__next__") hit.typeIs TB
   (Sl TB hit.typeIs F.entry_tuple_iterator_next ?_ (F.args_tuple_iterator_next_1 _)))
  show wpAny _ _ (field (.ref i) 0 >>=_) _ _ s
  refine RF (RU ho hd (x:=.ref l) rfl ?_)
  refine wpAny_ite ?_
  rw[UK (show¬((Uc l==Ud)=true) from OJ)]
  show wpAny _ _ (field (.ref i) 1 >>=_) _ _ s
  refine RF (RU ho hd (x:=.int k 0) rfl ?_)
  show wpAny _ _ (seqItems? (.ref l) >>=_) _ _ s
  refine RF (Sd hol Yp ?_)
  simp only[OT,hx]
  have hs:=TY.update s.heap i (λo=>o.mapFields λa=>a.setIfInBounds 1 (S7 (k+1)))
  refine RF (wpAny_setField ho hd (by simp) (RH ⟨x,rfl,RH (hQ _ ⟨?_,ht.extBut (TY.update ..).extBut (Rk U9)⟩ (TY.update ..))⟩))
  exact⟨_,TZ _ ho (Obj.isFreed_of_fields (Obj.data_mapFields hd _)),(Obj.cls_mapFields ..).trans hc,by rw[Obj.data_mapFields hd];simp[S7]⟩
 done:=λ{k s Q E} ⟨hit,ht⟩ hx hE=>by
  obtain⟨o,ho,hc,hd⟩:=id hit
  obtain⟨ol,hol,_,nl,Yp⟩:=id ht
  unfold Tp
  refine RF (R8 (name:=Ua "__next__") hit.typeIs TB
   (Sl TB hit.typeIs F.entry_tuple_iterator_next ?_ (F.args_tuple_iterator_next_1 _)))
  show wpAny _ _ (field (.ref i) 0 >>=_) _ _ s
  refine RF (RU ho hd (x:=.ref l) rfl ?_)
  refine wpAny_ite ?_
  rw[UK (show¬((Uc l==Ud)=true) from OJ)]
  show wpAny _ _ (field (.ref i) 1 >>=_) _ _ s
  refine RF (RU ho hd (x:=.int k 0) rfl ?_)
  show wpAny _ _ (seqItems? (.ref l) >>=_) _ _ s
  refine RF (Sd hol Yp ?_)
  simp only[OT,hx]
  refine RF (SJ (RF (wpAny_setField ho hd (by simp) ?_)))
  show wpAny _ _ (newExc (.type "StopIteration") [] >>=_) _ _ _
  refine RF ?_
  simp only[newExc,newTuple]
  refine RF (R9 ?_ (by size_fits))
  refine RF (m:=firstArgMember _ _) (wpAny_of_eq (a:=Ud) (by first | rfl | (simp only[firstArgMember];rfl)) ?_)
  refine R9 ?_ (by size_fits)
  simp only[raiseNew]
  refine RF (wpAny_handled ?_)
  first | rw[show A.in1.handled=none from hh] | rw[hh]
  refine RF (RH (wpAny_throw ?_))
  exact hE _ _ (((TY.update ..).extBut.push _).push _) ⟨_,TR _ rfl,rfl⟩
section
variable {z TI TO i1 i2 l1 l2:Addr}{k1 k2:Nat}{xs ys:Array Value}{x y a b:Value}{S1 S2:Nat->Heap->Prop}
theorem up1 {i l c:Addr}{UW:Array Value}{St:Nat->Heap->Prop}(d:Dr prog w A i l UW St){k:Nat}{h h':Heap}(hs:St k h)(e:Heap.ExtBut c h h')(h1:i≠c)(h2:l≠c):St k h':=d.up hs λb hb o q=>e b o (by rcases hb with rfl | rfl<;>assumption) q
theorem Fq {Q:Value->RA->Prop}(D:ZipApart z TI TO i1 i2 l1 l2)(d1:Dr prog w A i1 l1 xs S1)(d2:Dr prog w A i2 l2 ys S2)
 (hz:IsZip s.heap z TI TO .none) (VT:R6 s.heap TI (.ref i1) (.ref i2)) (VO:R6 s.heap TO a b) (h1:S1 k1 s.heap) (h2:S2 k2 s.heap) (hx:xs[k1]?=some x) (hy:ys[k2]?=some y)
 (hQ:∀h',IsZip h' z TI TO (S7 s.heap.objs.size)->R6 h' TO x y->S1 (k1+1) h'->S2 (k2+1) h'->R6 h' s.heap.objs.size x y->(∀c o,c≠z->c≠TO->c≠i1->c≠i2->s.heap.get? c=some o->h'.get? c=some o)->Q (.ref s.heap.objs.size) {s with heap:=h'}):
 wpAny (model prog w) A (Builtin.«zip.__next__» ⟨[.ref z],[]⟩) (λfin s'=>∃v,fin= .done (.ret v)/\Q v s') E s:=by
 show wpAny _ _ (field (.ref z) 2 >>=_) _ _ _
 refine RF (RU hz rfl (x:=.bool false) rfl ?_)
 show wpAny _ _ (field (.ref z) 3 >>=_) _ _ _
 refine RF (RU hz rfl (x:=.ref TI) rfl (RF (Sd VT rfl ?_)))
 show wpAny _ _ (Tq (.ref z) >>=_) _ _ _
 refine RF ?_
 unfold Tq
 refine RF (RU hz rfl (x:=.none) rfl (RH ?_))
 simp only[if_true]
 refine RF (SJ (RF (RU hz rfl (x:=.ref TO) rfl (RF (Sf hz (by simp) λha XM Xc=>?_)))))
 replace XM:IsZip ha z TI TO .ellipsis:=XM
 refine RF ?_
 simp only[List.zipIdx_cons,List.zipIdx_nil,QT,forIn_nil]
 refine RF (RF (SV ?_))
 show wpAny _ _ (Tp (.ref i1) >>=_) _ _ _
 have g1:S1 k1 ha:=up1 d1 h1 Xc.extBut D.i1z D.l1z
 have g2:S2 k2 ha:=up1 d2 h2 Xc.extBut D.i2z D.l2z
 refine RF (d1.item g1 hx λhb n1 V4=>RH ?_)
 have tb:R6 hb TO a b:=V4.extBut _ _ D.TOi1 (Xc.extBut _ _ D.TOz VO)
 refine RF (Sd tb rfl (RF (SK tb λhc tc WZ=>?_)))
 replace tc:R6 hc TO x b:=tc
 refine RF (wpAny_letGo (RH ?_))
 refine RF (RF (SV ?_))
 show wpAny _ _ (Tp (.ref i2) >>=_) _ _ _
 have g2c:S2 k2 hc:=up1 d2 (up1 d2 g2 V4.extBut D.i12.symm D.l2i1) WZ.extBut D.TOi2.symm D.l2TO
 refine RF (d2.item g2c hy λhd n2 XQ=>RH ?_)
 have td:R6 hd TO x b:=XQ.extBut _ _ D.TOi2 tc
 refine RF (Sd td rfl (RF (SK td λhe te XO=>?_)))
 replace te:R6 he TO x y:=te
 refine RF (wpAny_letGo (RH (RH ?_)))
 refine RF (Sd te rfl (RF (wpAny_newTuple ?_)))
 have hsz:he.objs.size=s.heap.objs.size:=by rw[XO.1,XQ.1,WZ.1,V4.1,Xc.1]
 have ze:IsZip he z TI TO .ellipsis:=XO.extBut _ _ D.TOz.symm (XQ.extBut _ _ D.i2z.symm (WZ.extBut _ _ D.TOz.symm (V4.extBut _ _ D.i1z.symm XM)))
 have ke:∀c o,c≠z->c≠TO->c≠i1->c≠i2->s.heap.get? c=some o->he.get? c=some o:=λc o c1 c2 c3 c4 e=>
  XO.extBut _ _ c2 (XQ.extBut _ _ c4 (WZ.extBut _ _ c2 (V4.extBut _ _ c3 (Xc.extBut _ _ c1 e))))
 have m1:S1 (k1+1) he:=up1 d1 (up1 d1 (up1 d1 n1 WZ.extBut D.TOi1.symm D.l1TO) XQ.extBut D.i12 D.l1i2) XO.extBut D.TOi1.symm D.l1TO
 have m2:S2 (k2+1) he:=up1 d2 n2 XO.extBut D.TOi2.symm D.l2TO
 have Y2:z<he.objs.size:=TQ ze
 show wpAny _ _ (Builtin.SmallTypes.ownedTupleHandOut (.ref z) (.ref he.objs.size) >>=_) _ _ _
 refine RF ?_
 unfold Builtin.SmallTypes.ownedTupleHandOut
 have zf:IsZip (he.push {cls:=.type "tuple",data:=.seq #[x,y]}) z TI TO .ellipsis:=TN _ ze
 refine RF (Sf zf (by simp) λhg zg hsg=>?_)
 replace zg:IsZip hg z TI TO (S7 he.objs.size):=zg
 refine Sf zg (by simp) λhj zj hsj=>?_
 replace zj:IsZip hj z TI TO (S7 he.objs.size):=zj
 have up:∀c o,c≠z->he.get? c=some o->hj.get? c=some o:=λc o c1 e=>hsj.extBut _ _ c1 (hsg.extBut _ _ c1 (TN _ e))
 have tj:R6 hj he.objs.size x y:=hsj.extBut _ _ (Q9 Y2) (hsg.extBut _ _ (Q9 Y2) (TR _ rfl))
 rw[hsz] at zj tj
 refine RH ⟨_,rfl,?_⟩
 show Q (.ref he.objs.size) _
 rw[hsz]
 exact hQ hj zj (up _ _ D.TOz te) (d1.up m1 λc hc o e=>up c o (hc.elim (λq=>by rw[q];exact D.i1z) λq=>by rw[q];exact D.l1z) e) (d2.up m2 λc hc o e=>up c o (hc.elim (λq=>by rw[q];exact D.i2z) λq=>by rw[q];exact D.l2z) e) tj λc o c1 c2 c3 c4 e=>up c o c1 (ke c o c1 c2 c3 c4 e)
theorem mX {Q:PySem.Fin->RA->Prop}(D:ZipApart z TI TO i1 i2 l1 l2)(d1:Dr prog w A i1 l1 xs S1)(d2:Dr prog w A i2 l2 ys S2)
 (hz:IsZip s.heap z TI TO .none) (VT:R6 s.heap TI (.ref i1) (.ref i2)) (VO:R6 s.heap TO a b) (h1:S1 k1 s.heap) (h2:S2 k2 s.heap) (VY:xs[k1]?=none∨ys[k2]?=none)
 (hE:∀h' e,(∀c o,c≠z->c≠TO->c≠i1->c≠i2->s.heap.get? c=some o->h'.get? c=some o)->(∃o,h'.get? e=some o/\o.cls= .type "StopIteration")->E (.ref e) {s with heap:=h'}):
 wpAny (model prog w) A (Builtin.«zip.__next__» ⟨[.ref z],[]⟩) Q E s:=by
 show wpAny _ _ (field (.ref z) 2 >>=_) _ _ _
 refine RF (RU hz rfl (x:=.bool false) rfl ?_)
 show wpAny _ _ (field (.ref z) 3 >>=_) _ _ _
 refine RF (RU hz rfl (x:=.ref TI) rfl (RF (Sd VT rfl ?_)))
 show wpAny _ _ (Tq (.ref z) >>=_) _ _ _
 refine RF ?_
 unfold Tq
 refine RF (RU hz rfl (x:=.none) rfl (RH ?_))
 simp only[if_true]
 refine RF (SJ (RF (RU hz rfl (x:=.ref TO) rfl (RF (Sf hz (by simp) λha XM Xc=>?_)))))
 replace XM:IsZip ha z TI TO .ellipsis:=XM
 refine RF ?_
 simp only[List.zipIdx_cons,List.zipIdx_nil,QT,forIn_nil]
 refine RF (RF (SV ?_))
 show wpAny _ _ (Tp (.ref i1) >>=_) _ _ _
 have g1:S1 k1 ha:=up1 d1 h1 Xc.extBut D.i1z D.l1z
 have g2:S2 k2 ha:=up1 d2 h2 Xc.extBut D.i2z D.l2z
 cases hx:xs[k1]? with
 | none=>
   refine RF (d1.done g1 hx λhb e V4 he=>?_)
   obtain⟨oe,Yj,Zv⟩:=he
   have zb:IsZip hb z TI TO .ellipsis:=V4 _ _ D.i1z.symm XM
   have hez:e≠z:=λq=>by subst q;rw[zb] at Yj;cases Yj;simp at Zv
   exact Sf zb (by simp) λhc _ WZ=>hE hc e (λc o c1 _ c3 _ q=>WZ.extBut _ _ c1 (V4 _ _ c3 (Xc.extBut _ _ c1 q))) ⟨oe,WZ.extBut _ _ hez Yj,Zv⟩
 | some x=>
   have hy:ys[k2]?=none:=by rcases VY with q | q;rw[hx] at q;cases q;exact q
   refine RF (d1.item g1 hx λhb n1 V4=>RH ?_)
   have tb:R6 hb TO a b:=V4.extBut _ _ D.TOi1 (Xc.extBut _ _ D.TOz VO)
   refine RF (Sd tb rfl (RF (SK tb λhc tc WZ=>?_)))
   refine RF (wpAny_letGo (RH ?_))
   refine RF (RF (SV ?_))
   show wpAny _ _ (Tp (.ref i2) >>=_) _ _ _
   have g2c:S2 k2 hc:=up1 d2 (up1 d2 g2 V4.extBut D.i12.symm D.l2i1) WZ.extBut D.TOi2.symm D.l2TO
   refine RF (d2.done g2c hy λhd e XQ he=>?_)
   obtain⟨oe,Yj,Zv⟩:=he
   have zd:IsZip hd z TI TO .ellipsis:=XQ _ _ D.i2z.symm (WZ.extBut _ _ D.TOz.symm (V4.extBut _ _ D.i1z.symm XM))
   have hez:e≠z:=λq=>by subst q;rw[zd] at Yj;cases Yj;simp at Zv
   exact Sf zd (by simp) λhe _ XO=>hE he e (λc o c1 c2 c3 c4 q=>XO.extBut _ _ c1 (XQ _ _ c4 (WZ.extBut _ _ c2 (V4.extBut _ _ c3 (Xc.extBut _ _ c1 q))))) ⟨oe,XO.extBut _ _ hez Yj,Zv⟩
theorem Gk {Q:OD->RA->Prop}(D:ZipApart z TI TO i1 i2 l1 l2)(d1:Dr prog w A.in1 i1 l1 xs S1)(d2:Dr prog w A.in1 i2 l2 ys S2)
 (hz:IsZip s.heap z TI TO .none) (VT:R6 s.heap TI (.ref i1) (.ref i2)) (VO:R6 s.heap TO a b) (h1:S1 k1 s.heap) (h2:S2 k2 s.heap) (hx:xs[k1]?=some x) (hy:ys[k2]?=some y)
 (hQ:∀h',IsZip h' z TI TO (S7 s.heap.objs.size)->R6 h' TO x y->S1 (k1+1) h'->S2 (k2+1) h'->R6 h' s.heap.objs.size x y->(∀c o,c≠z->c≠TO->c≠i1->c≠i2->s.heap.get? c=some o->h'.get? c=some o)->Q (some (.ref s.heap.objs.size)) {s with heap:=h'}):
 wpAny (model prog w) A (S6 (.ref z)) Q E s:=by
 have hT:s.TypeIs (.ref z) "zip":=⟨_,hz,rfl⟩
 unfold S6
 exact RF (wpAny_attempt (R8 (name:=Ua "__next__") hT TC (Sl TC hT F.entry_zip_next (Fq D d1 d2 hz VT VO h1 h2 hx hy λh' a1 a2 a3 a4 a5 a6=>RH (hQ h' a1 a2 a3 a4 a5 a6)) (F.args_zip_next_1 _))))
theorem Jy {Q:OD->RA->Prop}(D:ZipApart z TI TO i1 i2 l1 l2)(d1:Dr prog w A.in1 i1 l1 xs S1)(d2:Dr prog w A.in1 i2 l2 ys S2)
 (hz:IsZip s.heap z TI TO .none) (VT:R6 s.heap TI (.ref i1) (.ref i2)) (VO:R6 s.heap TO a b) (h1:S1 k1 s.heap) (h2:S2 k2 s.heap) (VY:xs[k1]?=none∨ys[k2]?=none)
 (hQ:∀h',(∀c o,c≠z->c≠TO->c≠i1->c≠i2->s.heap.get? c=some o->h'.get? c=some o)->Q none {s with heap:=h'}):wpAny (model prog w) A (S6 (.ref z)) Q E s:=by
 have hT:s.TypeIs (.ref z) "zip":=⟨_,hz,rfl⟩
 unfold S6
 refine RF (wpAny_attempt (R8 (name:=Ua "__next__") hT TC (Sl TC hT F.entry_zip_next (mX D d1 d2 hz VT VO h1 h2 VY λh' e hk he=>?_) (F.args_zip_next_1 _))))
 obtain⟨o,ho,hc⟩:=he
 exact RF (wpAny_isInstance (T:="StopIteration") (b:=true) ⟨o,ho,hc⟩ isSubtype_stop (RH (hQ _ hk)))
end
end
end Fc.ZT
namespace Fc
open PySem PySem.Spec PySem.W PySem.Calls L2
open PyProof.Rows hiding St
section
variable {X:Cx}{Γ Γ1 Γ2 Γ3:Ga}{α β γ δ:Type}{N:Ga->Prop}{T:RT}
variable {es:OG}{tp:Pos}
def MM (K:Uk)(a b:Addr):It:=
 ⟨λi H=>∃xs ys x y,aU K H a xs/\aU K H b ys/\xs[i]?=some x/\ys[i]?=some y,
  λi H v H'=>∃p x y,H p=none/\v= .ref p/\H'=upd H p (.tup [x,y])/\(∀xs,aU K H a xs->xs[i]?=some x)/\∀ys,aU K H b ys->ys[i]?=some y,
  λi H=>∃xs ys,aU K H a xs/\aU K H b ys/\(xs.length<=i∨ys.length<=i)⟩
def Mw (z TI TO i1 i2 a b:Addr)(i:Nat)(h:Heap):Prop:=
 IsZip h z TI TO .none/\R6 h TI (.ref i1) (.ref i2)/\(∃u v,R6 h TO u v)/\h.IsListIter i1 a i/\h.IsListIter i2 b i
structure uX (z TI TO i1 i2:Addr):Prop where
 TIz:TI≠z
 TOz:TO≠z
 i1z:i1≠z
 i2z:i2≠z
 TITO:TI≠TO
 TIi1:TI≠i1
 TIi2:TI≠i2
 TOi1:TO≠i1
 TOi2:TO≠i2
 i12:i1≠i2
theorem WR {a b:Nat}(h:a<b∨b<a): @Ne Addr a b:=h.elim Q1 Q9
theorem GK (n:Nat):uX (n+4) (n+2) (n+3) n (n+1):=⟨WR (by omega),WR (by omega),WR (by omega),WR (by omega),WR (by omega),WR (by omega),WR (by omega),WR (by omega),WR (by omega),WR (by omega)⟩
theorem dG {h:Heap}{l b:Addr}{UW:Array Value}{o:Obj}(p:PlainL h l UW)(e:h.get? b=some o)(hc:o.cls≠ .type "list"):l≠b:=λz=>by
 obtain⟨u,n,e',c,_⟩:=p
 rw[z,e] at e'
 cases e'
 exact hc c
theorem ZipApart.of {h:Heap}{z TI TO i1 i2 a b:Addr}{i:Nat}{xs ys:Array Value}(F:uX z TI TO i1 i2)(st:Mw z TI TO i1 i2 a b i h)(pa:PlainL h a xs)(pb:PlainL h b ys):ZipApart z TI TO i1 i2 a b:=by
 obtain⟨hz,_,⟨u,v,VO⟩,⟨o1,e1,c1,_⟩,⟨o2,e2,c2,_⟩⟩:=st
 exact⟨F.TIz,F.TOz,F.i1z,F.i2z,F.TITO,F.TIi1,F.TIi2,F.TOi1,F.TOi2,F.i12,
  dG pa hz (by simp),dG pa VO (by simp),dG pa e1 (by rw[c1];simp),dG pa e2 (by rw[c2];simp),
  dG pb hz (by simp),dG pb VO (by simp),dG pb e1 (by rw[c1];simp),dG pb e2 (by rw[c2];simp)⟩
theorem Ce {P:RJ}{w:World}{K:Uk}{k:Nat}(a b z TI TO i1 i2:Addr)(F:uX z TI TO i1 i2):Turn P w K (.Tuple es k tp) (MM K a b) [z,TI,TO,i1,i2] z (Mw z TI TO i1 i2 a b) where
 mem:=by simp
 obj:=λi h st c hc=>by
  obtain⟨hz,VT,⟨u,v,VO⟩,⟨o1,e1,c1,d1⟩,⟨o2,e2,c2,d2⟩⟩:=st
  simp only[O7,Pu,or_false] at hc
  rcases hc with rfl | rfl | rfl | rfl | rfl
  ·exact⟨_,hz,λv q=>by cases q⟩
  ·exact⟨_,VT,λv q=>by cases q⟩
  ·exact⟨_,VO,λv q=>by cases q⟩
  ·exact⟨o1,e1,λv q=>by rw[d1] at q;cases q⟩
  ·exact⟨o2,e2,λv q=>by rw[d2] at q;cases q⟩
 keep:=λi h h' st kk=>by
  obtain⟨hz,VT,⟨u,v,VO⟩,h1,h2⟩:=st
  exact⟨kk z (by simp) _ hz,kk TI (by simp) _ VT,⟨u,v,kk TO (by simp) _ VO⟩,h1.at λo e=>kk i1 (by simp) o e,h2.at λo e=>kk i2 (by simp) o e⟩
 item:=by
  intro X hP hw hK hc i UT s σ H E I hf st hg
  subst hP hw hK
  obtain⟨xs,ys,x,y,hq,VW,hx,hy⟩:=hg
  obtain⟨UW,r,pl,hz⟩:=I.list hq
  obtain⟨its',r',V1,WT⟩:=I.list VW
  obtain⟨u,hu,rx⟩:=r.get hx
  obtain⟨u',XN,ry⟩:=r'.get hy
  have D:=ZipApart.of F st pl V1
  obtain⟨Xa,VT,⟨c,d,VO⟩,h1,h2⟩:=st
  have hn:H s.heap.objs.size=none:=I.UZ.fresh (QW _)
  refine wpAny_pyNext_zip_item D Xa VT VO h1 h2 pl.isList V1.isList (x:=u) (y:=u') (by simpa using hu) (by simpa using XN) λh' a1 a2 a3 a4 a5 a6 hk=>?_
  refine⟨_,rfl,?_⟩
  refine wpAny_letOwnedTupleGo_zip (s:={s with heap:=h'}) a1 λh3 hz3 WV=>?_
  have lt:∀{c o},s.heap.get? c=some o->c≠s.heap.objs.size:=λe=>Q1 (TQ e)
  have W3:∀b o,b∉[z,TI,TO,i1,i2]->s.heap.get? b=some o->h3.get? b=some o:=λb o hb q=>by
   simp only[O7,Pu,or_false,not_or] at hb
   exact WV.extBut b o hb.1 (hk b o hb.1 hb.2.2.1 hb.2.2.2.1 hb.2.2.2.2 q)
  have I1:Inv X UT σ H {s with heap:=h3,toks:=s.toks}:=js I W3 hf
  have ZC:h3.get? s.heap.objs.size=some {cls:=.type "tuple",data:=.seq #[u,u']}:=WV.extBut _ _ (Rk (lt Xa)) a5
  have I2:Inv X UT σ (upd H s.heap.objs.size (.tup [x,y])) {s with heap:=h3,toks:=s.toks}:=
   adopt I1 (I.gQ (QW _) hn) (I.sz) ⟨by show 2<=RE;decide,[u,u'],.cons rx (.cons ry .nil),⟨_,ZC,rfl,_,rfl⟩⟩
  refine⟨.ref s.heap.objs.size,_,I2,rfl,⟨s.heap.objs.size,x,y,hn,rfl,rfl,λzs Ya=>?_,λzs Ya=>?_⟩,⟨hz3,?_,⟨_,_,WV.extBut _ _ F.TOz a2⟩,a3.extBut WV.extBut F.i1z,a4.extBut WV.extBut F.i2z⟩,λb hb=>?_⟩
  ·rw[I.iH Ya hq];exact hx
  ·rw[I.iH Ya VW];exact hy
  ·exact WV.extBut _ _ F.TIz (hk _ _ F.TIz F.TITO F.TIi1 F.TIi2 VT)
  ·have VJ:b≠s.heap.objs.size:=by
    simp only[O7,Pu,or_false] at hb
    rcases hb with rfl | rfl | rfl | rfl | rfl
    ·exact lt Xa
    ·exact lt VT
    ·exact lt VO
    ·obtain⟨_,e,_⟩:=h1;exact lt e
    ·obtain⟨_,e,_⟩:=h2;exact lt e
   rw[aB VJ]
   exact(hf b hb).1
 done:=by
  intro X hP hw hK hc i UT s σ H E I hf st hg
  subst hP hw hK
  obtain⟨xs,ys,hq,VW,hx⟩:=hg
  obtain⟨UW,r,pl,hz⟩:=I.list hq
  obtain⟨its',r',V1,WT⟩:=I.list VW
  have D:=ZipApart.of F st pl V1
  obtain⟨Xa,VT,⟨c,d,VO⟩,h1,h2⟩:=st
  have l1:=r.length
  have l2:=r'.length
  refine wpAny_pyNext_zip_end (I.ok.hd hc) D Xa VT VO h1 h2 pl.isList V1.isList (hx.imp (λq=>by simp;omega) λq=>by simp;omega) λh' hk=>⟨rfl,?_⟩
  refine js (t':=s.toks) I (λb o hb q=>?_) hf
  simp only[O7,Pu,or_false,not_or] at hb
  exact hk b o hb.1 hb.2.2.1 hb.2.2.2.1 hb.2.2.2.2 q
 self:=λ_ _ _ _ _ st h=>SD st.1 h
def NG (K:Uk)(ta:TA):TI:=λσ H R=>ta σ H λvs H1=>∃a b xs ys,vs=[.ref a,.ref b]/\aU K H1 a xs/\aU K H1 b ys/\R (MM K a b) H1
theorem GN {a b:Expr}{ta:TA}{p pos:Pos}{k:Nat}(hg:Gl X "zip")(hm:X.mg "zip"=none)(ha:PA X [a,b] ta)(hs:RC [a,b] X.env=[(false,eval a X.env),(false,eval b X.env)]:=by rfl)(Vv:RC [b] X.env=[(false,eval b X.env)]:=by rfl):PI X (.Tuple es k tp) (.Call (.Name "zip" p) [a,b] [] pos) (NG X.K ta):=by
 intro UT s σ H R I h
 refine Call_ (gq I hg hm boot_zip (Rr (aT (ha pos UT s σ H _ I h) λus s1 ⟨vs,H1,I1,r1,q1⟩=>?_) (by rw[hs,Vv]) (by rw[Vv];rfl)))
 obtain⟨l,l',xs,ys,e,hq,VW,q⟩:=q1
 subst e
 cases r1 with
 | cons r rr=>
   cases rr with
   | cons r' rr=>
     cases rr
     cases r
     cases r'
     obtain⟨UW,_,pl,_⟩:=I1.list hq
     obtain⟨its',_,V1,_⟩:=I1.list VW
     refine call_zip_2 pl.isList V1.isList λh' a1 a2 a3 a4 a5 a6 hk=>?_
     refine SD a1 ?_
     have I2:Inv X UT σ H1 {s1 with heap:=h'}:=I1.kept (t':=s1.toks) hk
     have ff:∀b,s1.heap.objs.size<=b->jJ X UT H1 b:=λb hb=>I1.gQ hb (I1.UZ.fresh hb)
     refine⟨s1.heap.objs.size+4,[s1.heap.objs.size+4,s1.heap.objs.size+2,s1.heap.objs.size+3,s1.heap.objs.size,s1.heap.objs.size+1],_,_,H1,rfl,I2,Ce l l' _ _ _ _ _ (GK _),⟨a1,a2,⟨_,_,a3⟩,a4,a5⟩,λb hb=>?_,q⟩
     simp only[O7,Pu,or_false] at hb
     rcases hb with rfl | rfl | rfl | rfl | rfl
     ·exact ff _ (Q5 _ 4)
     ·exact ff _ (Q5 _ 2)
     ·exact ff _ (Q5 _ 3)
     ·exact ff _ (QW _)
     ·exact ff _ (Q5 _ 1)
theorem jB {xs:List α}{ys:List β}{i:Nat}{q:α×β}(h:(xs.zip ys)[i]?=some q):xs[i]?=some q.1/\ys[i]?=some q.2:=by
 rw[List.getElem?_zip_eq_some] at h
 exact h
theorem Jm {a b:Expr}{p pos:Pos}{k:Nat}{r:Rep α}{r':Rep β}{xs:List α}{ys:List β}(hm:X.mg "zip"=none)(ha:EV X a Γ (ae r) xs Γ1)(hb:EV X b Γ1 (ae r') ys Γ2)(hs:RC [a,b] X.env=[(false,eval a X.env),(false,eval b X.env)]:=by rfl)(Vv:RC [b] X.env=[(false,eval b X.env)]:=by rfl)(hg:Gl X "zip":=by rfl):
 IV X (.Tuple es k tp) (.Call (.Name "zip" p) [a,b] [] pos) Γ (eE r r') (xs.zip ys) Γ2:=by
 refine⟨_,GN hg hm (aM aL (aM aL bB Vv) (by rw[hs,Vv])) hs Vv,λσ H0 R0 H R E Rq q=>ha σ H0 R0 H R E _ λv H1 R1 E1 s1 e1=>hb σ H0 R0 H1 R1 E1 _ λv' H2 R2 E2 s2 e2=>?_⟩
 obtain⟨a,vs,rfl,hp,pp,z⟩:=e1
 obtain⟨b,Vn,rfl,Zd,VQ,z'⟩:=e2
 have Xx:R2 a=_:=s2 _ _ hp
 refine⟨a,b,vs,Vn,rfl,aU.of (E2.sub _ _ Xx),aU.of (E2.sub _ _ Zd),q _ H2 R2 E2 (s1.trans s2) (by rw[Qc];exact QX (Ra _ _) z) λH' R' sR sH i=>⟨λy hy=>?_,λhi=>?_⟩⟩
 ·have hq:aU X.K H' a vs:=aU.of (sH _ _ (sR _ _ Xx))
  have VW:aU X.K H' b Vn:=aU.of (sH _ _ (sR _ _ Zd))
  obtain⟨e1,e2⟩:=jB hy
  obtain⟨v,hv,hr⟩:=dm pp e1
  obtain⟨v',WA,WM⟩:=dm VQ e2
  refine⟨⟨vs,Vn,v,v',hq,VW,hv,WA⟩,λv2 H3 Xb=>?_⟩
  obtain⟨p,x,x',W0,rfl,rfl,hy,Y4⟩:=Xb
  have t1:=hy vs hq
  have t2:=Y4 Vn VW
  rw[hv] at t1
  rw[WA] at t2
  cases t1
  cases t2
  have s3:av R' (upd R' p (.tup [v,v'])):=av.fresh (sH.free W0) _
  exact⟨upd R' p (.tup [v,v']),Ext.fresh sH W0 _,p,_,_,rfl,aA,r.mono s3 (r.mono sR (r.mono s2 hr)),r'.mono s3 (r'.mono sR WM)⟩
 ·refine⟨vs,Vn,aU.of (sH _ _ (sR _ _ Xx)),aU.of (sH _ _ (sR _ _ Zd)),?_⟩
  rw[Qc] at hi
  rw[pp.length,VQ.length]
  omega
end
end Fc
namespace Fc.ZT
open PySem PySem.Spec PyProof.Rows
section
variable {prog:RJ}{w:World}{A:RL}{E:Value->RA->Prop}{s:RA}
end
end Fc.ZT
namespace Fc
open PySem PySem.Spec PySem.W PySem.Calls L2
open PyProof.Rows hiding St
section
variable {X:Cx}{Γ Γ1 Γ2 Γ3:Ga}{α β γ δ:Type}{N:Ga->Prop}{T:RT}
theorem tup_ne {h:Heap}{l b:Addr}{UW:Array Value}{o:Obj}(p:IsTup h l UW)(e:h.get? b=some o)(hc:o.cls≠ .type "tuple"):l≠b:=λz=>by
 obtain⟨u,e',c,_⟩:=p
 rw[z,e] at e'
 cases e'
 exact hc c
end
end Fc
namespace Fc.ZT
open PySem PySem.Spec PyProof.Rows
section
variable {prog:RJ}{w:World}{A:RL}{E:Value->RA->Prop}{s:RA}
section
variable {z TI TO i1 i2 l1:Addr}{k1 k2:Nat}{xs:Array Value}{x a b:Value}{S1:Nat->Heap->Prop}{x2:Str}{t2:Tok}{y:Nat}
end
end
section
variable {prog:RJ}{w:World}{A:RL}{E:Value->RA->Prop}{s:RA}
end
end Fc.ZT
namespace Fc
open PySem PySem.Spec PySem.W PySem.Calls L2
open PyProof.Rows hiding St
section
variable {X:Cx}{Γ Γ1 Γ2 Γ3:Ga}{α β γ δ:Type}{N:Ga->Prop}{T:RT}
end
end Fc
namespace HT
open PySem PySem.Spec PyProof.Rows
section
variable {prog:RJ}{w:World}{A:RL}{E:Value->RA->Prop}{s:RA}
theorem nF {t sl:Addr}{items:Array Value}{vl vu:Value}{lo hi:Option Int}{Q:Value->RA->Prop}(ht:IsTup s.heap t items)(hs:s.heap.IsSliceOf sl vl vu .none)(pl:SG vl lo)(pu:SG vu hi)
 (hw:Va items.size 0 lo=0/\Va items.size items.size hi=items.size)
 (h:Q (.ref t) s):wpAny (model prog w) A (Sx (.ref t) (.ref sl)) Q E s:=by
 obtain⟨os,Yi,hcs,Zs⟩:=id hs
 have hTs:s.TypeIs (.ref sl) "slice":=⟨os,Yi,hcs⟩
 unfold Sx
 try with_reducible refine Sr ?_
 first | refine RF (RH ?_) | skip
 refine RF (wpAny_sequenceKey ht.typeIs (by decide) ?_)
 refine RF (R8 (name:=Ua "__getitem__") ht.typeIs Rt
  (Sl Rt ht.typeIs entry_tuple_getitem ?_ (args_tuple_getitem _ _)))
 show wpAny _ _ (Builtin.Tuple.tupleItemsOf (.ref t) >>=_) _ _ s
 refine RF (tupleItemsOf_ ht ?_)
 refine RF (wpAny_typeOf hTs ?_)
 rw[UL (by decide)]
 refine RF (jG hs pl pu ?_)
 have hyes:(((Va items.size 0 lo:Nat):Int)==0&&(1:Int)==1&&(Va items.size items.size hi-Va items.size 0 lo)==items.size)=true:=by
  rw[hw.1,hw.2];simp
 show wpAny _ _ (if(((Va items.size 0 lo:Nat):Int)==0&&(1:Int)==1&&(Va items.size items.size hi-Va items.size 0 lo)==items.size)=true then _ else _) _ _ s
 rw[UL hyes]
 refine RF ?_
 unfold Builtin.Tuple.tupleIsExact
 refine RF (wpAny_typeOf ht.typeIs (RH ?_))
 rw[UL (by decide)]
 exact RF (SJ (RH ⟨_,rfl,RH h⟩))
end
end HT
namespace Fc
open PySem PySem.Spec PySem.W PySem.Calls L2
open PyProof.Rows hiding St
section
variable {X:Cx}{Γ Γ1 Γ2 Γ3:Ga}{α β γ δ:Type}{N:Ga->Prop}{T:RT}
variable {a:Expr}{pos:Pos}
def Nw (K:Uk):V->Option Int->Option Int->Hp->VK->Prop:=λx lo hi H Q=>∃a xs,x= .ref a/\du K H a xs/\
 (HT.Va xs.length 0 lo=0/\HT.Va xs.length xs.length hi=xs.length)/\Q x H
theorem HZ:z9 X (Nw X.K):=by
 intro UT s σ H x v vl vu lo hi sl Q I rx hs pl pu h
 obtain⟨a,xs,rfl,hx,hw,q⟩:=h
 cases rx
 obtain⟨UW,r,ht,hz⟩:=I.tuple hx
 have hlen:UW.toArray.size=xs.length:=by rw[O9];exact r.length.symm
 refine⟨"tuple",_,Rt.lookup,ht.typeIs,?_⟩
 exact HT.nF ht hs pl pu (by rw[hlen];exact hw) ⟨.ref a,H,I,rfl,q⟩
theorem JI {lo hi:Option Expr}{p2:Pos}{xs:List PV}{l h:Option Int}(ha:EV X a Γ aI (.tup xs) Γ)(hl:OV X lo Γ l)(hh:OV X hi Γ h)(hw:HT.Va xs.length 0 l=0/\HT.Va xs.length xs.length h=xs.length):EV X (.Subscript a (.Slice lo hi none p2) pos) Γ aI (.tup xs) Γ:=by
 intro σ H0 R0 H R E Q q
 obtain⟨tl,pl,kl⟩:=hl
 obtain⟨th,ph,kh⟩:=hh
 refine eS (l6 HZ aL pl ph) (ha σ H0 R0 H R E _ λv H1 R1 E1 s1 e1=>kl σ H0 R0 H1 R1 E1 _ λH2 R2 E2 s2=>kh σ H0 R0 H2 R2 E2 _ λH3 R3 E3 s3=>?_)
 cases aI.mono (K:=X.K) (s2.trans s3) e1 with
 | @tup a' Vn _ hp pp=>
   exact⟨_,_,rfl,du.of (E3.sub _ _ hp),by rw[pp.pair.length];exact hw,q _ _ _ E3 (s1.trans (s2.trans s3)) (.tup hp pp)⟩
theorem G7 {lo hi:Option Expr}{p2:Pos}{xs:List PV}{l h:Option Int}(ha:EV X a Γ aI (.tup xs) Γ)(hl:OV X lo Γ l)(hh:OV X hi Γ h):EV X (.Subscript a (.Slice lo hi none p2) pos) Γ aI (.tup (cut xs l h)) Γ:=by
 by_cases hw:HT.Va xs.length 0 l=0/\HT.Va xs.length xs.length h=xs.length
 ·have e:cut xs l h=xs:=by
   unfold cut
   rw[hw.1,hw.2]
   simp
  rw[e]
  exact JI ha hl hh hw
 ·exact JD ha hl hh hw
theorem qK {b:Expr}{x y:Str}(ha:EV X a Γ ag x Γ1)(hb:EV X b Γ1 ag y Γ2)(hz:x.length+y.length<=RE):EV X (.BinOp a .Add b pos) Γ ag (x++y) Γ2:=je xN ha hb λR v u H Q e1 e2 q=>⟨x,y,e1,e2,hz,q _ rfl⟩
theorem EX {p:Pos}{x:Str}(hm:X.mg "len"=none)(ha:EV X a Γ ag x Γ1)(hz:x.length<=RE)(hs:RC [a] X.env=[(false,eval a X.env)]:=by rfl)(hg:Gl X "len":=by rfl):EV X (.Call (.Name "len" p) [a] [] pos) Γ ah (x.length:Int) Γ1:=by
 intro σ H0 R0 H R E Q q
 refine eS (eh vp hg hm Sj (aM aL bB hs) (by decide) (by decide) hs) (ha σ H0 R0 H R E _ λv H1 R1 E1 s1 e1=>?_)
 cases e1
 exact⟨x,rfl,hz,q _ H1 R1 E1 s1 rfl⟩
theorem FO {H:Hp}{p:Addr}{a b:HO}:upd (upd H p a) p b=upd H p b:=by
 funext c
 by_cases h:c=p
 ·subst h;rw[aA,aA]
 ·rw[aB h,aB h,aB h]
end
section
variable {X:Cx}{Γ:Ga}
def DA (i j:Int):Prop:=0<j/\j<=1000000000000000000
theorem Cc:dQ X (Sk .FloorDiv) (rI DA λi j=>.int (i/j)):=wu λi j _ _ _ _ _ hc q=>by
 have h1:(0:Int)<j:=hc.1
 have h2:j<=1000000000000000000:=hc.2
 exact floordiv_int (by omega) (by rw[Int.fdiv_eq_ediv_of_nonneg i (by omega)];exact q) (.inl (PyProof.noPylong_of_log2 (Q0 ((Nat.log2_lt (by omega)).mpr (show j.natAbs<2 ^ 60 by omega)) (by decide))))
theorem bM {N N1:Ga->Prop}{T:RT}{st:Stmt}{rest:List Stmt}(h1:W1 X st Γ N1 T)(h2:∀Γ',N1 Γ'->WS X rest Γ' N T):WS X (st::rest) Γ N T:=ak λσ H0 R0 H R E D dn dr=>h1 σ H0 R0 H R E D (λσ' H' R' Γ' E' s' n=>dn σ' H' R' Γ' E' s' (h2 Γ' n)) dr
theorem n6 {Γ1 Γ2:Ga}{a b:Expr}{pos:Pos}{x y:Int}(ha:EV X a Γ ah x Γ1)(hb:EV X b Γ1 ah y Γ2)(h:DA x y):EV X (.BinOp a .FloorDiv b pos) Γ ah (x/y) Γ2:=je Cc ha hb λR v u H Q e1 e2 q=>⟨x,y,e1,e2,h,q _ rfl⟩
theorem D4 {x y:Int}(h0:0<=x)(h1:x<2 ^ 63):Tc x y:=.of_left (SU (by omega) (by omega))
def ku (x:Str)(i:Nat):Str:=⟨#[x.cps.getD i 0]⟩
theorem yT {Γ1 Γ2:Ga}{a b:Expr}{pos:Pos}{x:Str}{i:Int}(ha:EV X a Γ ag x Γ1)(hb:EV X b Γ1 ah i Γ2)(h0:0<=i)(h1:i<(x.length:Int))(hz:x.length<=RE)(hs:eK b:=by exact λ_ _=>rfl):EV X (.Subscript a b pos) Γ ag (ku x i.toNat) Γ2:=by
 intro σ H0 R0 H R E Q q
 refine eS (iM Jl aL aL hs) (ha σ H0 R0 H R E _ λv H1 R1 E1 s1 e1=>hb σ H0 R0 H1 R1 E1 _ λu H2 R2 E2 s2 e2=>?_)
 cases e1
 cases e2
 refine⟨x,i,x.cps.getD i.toNat 0,rfl,rfl,hz,?_,q _ H2 R2 E2 (s1.trans s2) rfl⟩
 have hl:x.cps.toList.length=x.length:=by simp[Str.length]
 rw[pQ h0 (by omega),OX (by omega)]
 have:i.toNat<x.cps.size:=by have:x.length=x.cps.size:=rfl;omega
 simp[Array.getD,this]
end
section
variable {X:Cx}{Γ Γ1 Γ2:Ga}{α β:Type}{N:Ga->Prop}{T:RT}
theorem kZ {K:Uk}{R:Hp}:∀{vs:List V} {xs:OC},PySem.Paired (ag.R K R) vs xs->vs=xs.map V.str
 | _,_,.nil=>rfl
 | _,_,.cons h t=>by rw[PH,← kZ t];exact congrArg (· ::_) h
theorem vD {x:Str}{xs:OC}:gJ X .In ag (ae ag) x xs (decide (x∈xs)):=⟨_,rT,λR H v u Q s e1 e2 q=>by
 cases e1
 obtain⟨a,vs,rfl,hq,p,_⟩:=e2
 have e:=kZ p
 subst e
 exact⟨a,_,rfl,.inl (aU.of (s _ _ hq)),rfl,kf xs,by rw[UK OJ,l7];exact q⟩⟩
theorem yz {r:Rep α}{S:jZ α}{x y:Str}{k:Nat}{es:OG}{p p1 pos:Pos}{ps:List Pk}{xs:List α}{TM:List α->RT}{Q:VK}{σ:St}{H0 R0 H R:Hp}(i:Nat)(C:aH X.prog X.w X.K X.mg X.base x k (fF r S X.K))(hr:bI k X.A)(ha:HA X es Γ ps Γ1)(hΓ:Γ[i]?=some (.mu r xs))(hΓ1:Γ1[i]?=some (.mu r xs))(hS:S X.K xs ps TM)(E:au X.K σ H0 R0 H R Γ)
 (q:∀a H1 R1 v H' R' xs',(σ[i]?).join=some (.ref a)->au X.K σ H0 R0 H1 R1 Γ1->au X.K σ H0 R0 H' R' (Γ1.set i (.mu r xs'))->av R R'->TM xs' (del H1 a) v H' R'->Q v H')
 (hg:Gl X x) (VE:(x==("__debug__":Str))=false) (he:RC (.Name y p1::es) X.env=(false,eval (.Name y p1) X.env)::RC es X.env) (Ve:(RM pos (RC es X.env)).any (·.1)=false)
 (hN:X.N[i]?=some y) (hv:cC X.env.scope y) (hd:(y==("__debug__":Str))=false) (U0:(y==("__classdict__":Str))=false):eZ X (.Call (.Name x p) (.Name y p1::es) [] pos) σ H Q:=by
 obtain⟨f,fd,pn,F,hm,hk,hb⟩:=C.ex
 obtain⟨a,vs,ea,_,_,_⟩:=E.ent i _ hΓ
 refine eS (qq F hr hg hm hk hb .nil sv (aM (bb hN hv hd U0) mf he) VE he Ve) ⟨.ref a,at_of ea,ha σ H0 R0 H R E _ λus H1 R1 E1 s1 p1=>?_⟩
 obtain⟨a',ws,Vs,hp,hR,pp⟩:=E1.ent i _ hΓ1
 rw[ea] at Vs;cases Vs
 have h0:H0 a=none:=E1.new i _ a hΓ1 rfl ea
 refine⟨R1,a,ws,xs,us,ps,TM,by rw[Px],E1.sub,hR,hp,pp,p1,hS,λv H' R' Wt xs' xx h1 h2 pq t=>q a H1 R1 v H' R' xs' ea E1 ?_ (s1.trans xx.r) t⟩
 have apart:∀(j:Nat) (e:Ent),j≠i->Γ1[j]?=some e->a∉e.fp (σ[j]?).join:=λj e hj qj w=>hj (E1.ds j i e _ a qj hΓ1 w (bV.mpr ea))
 have E2:au X.K σ H0 R0 H1 R1 (Γ1.set i .no):=E1.tell hΓ1 trivial λb w=>by cases w
 have E3:=E2.DE (a:=a) (λj e qj w=>by
  rcases set_at qj with⟨rfl,rfl,_⟩ | ⟨hj,q1⟩
  ·cases w
  ·exact apart j e hj q1 w) h0 xx
 have hl:i<Γ1.length:=(OW.mp hΓ1).1
 have E4:=E3.j9 (i:=i) (e0:=.no) (en:=.mu r xs') (Pc hl) (by rw[ea];exact⟨a,Wt,rfl,h1,h2,pq⟩) λb w=>by
  have eb:b=a:=by rw[bV.mp w] at ea;cases ea;rfl
  subst eb
  exact⟨h0,λj e hj qj=>apart j e hj (by rwa [Pq (Rk hj)] at qj)⟩
 rw[QA] at E4
 exact E4
end
section
variable {X:Cx}{Γ Γ1 Γ2 Γ3:Ga}{α β γ δ:Type}{N:Ga->Prop}{T:RT}
variable {as:OE}{r:Rep α}{VC:List (List α)}{H R:Hp}{K:Uk}{b:Addr}{j:Nat}{x:Str}{p1:Pos}{a:Addr}{xs:List α}{pos:Pos}
def hZ (K:Uk)(r:Rep α)(H R:Hp)(as:OE)(VC:List (List α)):Prop:=as.length=VC.length/\∀(i:Nat) (b:Addr) (xs:List α),as[i]?=some b->VC[i]?=some xs->∃ws,H b=some (.lst ws)/\PySem.Paired (r.R K R) ws xs
theorem hZ.one (h:hZ K r H R as VC)(hb:b∈as):∃ws,H b=some (.lst ws):=by
 obtain⟨i,hi,rfl⟩:=Qy.mp hb
 obtain⟨ws,h1,_⟩:=h.2 i _ _ (OX hi) (OX (by rw[← h.1];exact hi))
 exact⟨ws,h1⟩
theorem hZ.loc {H' R':Hp}(h:hZ K r H R as VC)(e:∀a∈as,H' a=H a)(s:av R R'):hZ K r H' R' as VC:=
 ⟨h.1,λi b xs h1 h2=>by
   obtain⟨ws,q1,q2⟩:=h.2 i b xs h1 h2
   exact⟨ws,(e b (O6 h1)).trans q1,Paired.map (λ_ _=>r.mono s) q2⟩⟩
theorem hZ.put (h:hZ K r H R as VC)(nd:as.Nodup){ws:List V}(hb:as[j]?=some b)(hp:PySem.Paired (r.R K R) ws xs):hZ K r (upd H b (.lst ws)) R as (VC.set j xs):=by
 refine⟨by rw[PN];exact h.1,λi c q h1 h2=>?_⟩
 by_cases Zp:i=j
 ·subst Zp
  rw[hb] at h1;cases h1
  have hl:i<VC.length:=by rw[← h.1];exact(OW.mp hb).1
  rw[Pc hl] at h2;cases h2
  exact⟨ws,aA,hp⟩
 ·rw[Pq (Rk Zp)] at h2
  have:c≠b:=λz=>by
   subst z
   have l1:=(OW.mp h1)
   have l2:=(OW.mp hb)
   exact Zp ((QF (h₀:=l1.1) (h₁:=l2.1) nd).mp (l1.2.trans l2.2.symm))
  rw[aB this];exact h.2 i c q h1 h2
theorem hZ.snoc (h:hZ K r H R as VC){ws:List V}(hb:H b=some (.lst ws))(hp:PySem.Paired (r.R K R) ws xs):hZ K r H R (as++[b]) (VC++[xs]):=by
 refine⟨by rw[O4,O4,h.1];rfl,λi c q h1 h2=>?_⟩
 rcases Q2 i as.length with hl | hl
 ·rw[Pr hl] at h1
  rw[Pr (by rw[← h.1];exact hl)] at h2
  exact h.2 i c q h1 h2
 ·rw[Pp hl] at h1
  rw[Pp (by rw[← h.1];exact hl)] at h2
  have e:i-as.length=0:=by
   have:=(OW.mp h1).1
   simp at this;omega
  rw[e] at h1
  rw[← h.1,e] at h2
  simp at h1 h2
  rw[← h1,← h2];exact⟨ws,hb,hp⟩
def o9 (r:Rep α)(a:Addr)(as:OE)(VC:List (List α)):vg where
 fp:=a::as
 R:=λK H R v=>v= .ref a/\H a=some (.lst (as.map .ref))/\hZ K r H R as VC/\(a::as).Nodup
 loc:=λhH hR ⟨e,h1,h2,h3⟩=>⟨e,(hH a O3).trans h1,h2.loc (λb hb=>hH b (O2 _ hb)) hR,h3⟩
 has:=λ⟨e,h1,h2,h3⟩ b hb=>by
  rcases O7.mp hb with rfl | hb
  ·rw[h1];exact Rm _
  ·obtain⟨r,hr⟩:=h2.one hb
   rw[hr];exact Rm _
theorem AZ {k:Int}(hk:fg as.length k=some j)(hb:as[j]?=some b):cy (as.map V.ref) k=some (.ref b):=by
 unfold cy
 rw[OZ,hk]
 show(as.map V.ref)[j]?=_
 rw[O5,hb];rfl
theorem Iw (i:Nat){b:Expr}{p2:Pos}{k:Int}{σ:St}{H0 R0:Hp}{Q:VK}(hb:EV X b Γ ah k Γ)(hΓ:Γ[i]?=some (.ob (o9 r a as VC)))(hk:fg VC.length k=some j)(E:au X.K σ H0 R0 H R Γ)
 (q:∀c H' R',au X.K σ H0 R0 H' R' Γ->av R R'->as[j]?=some c->Q (.ref c) H')
 (hN:X.N[i]?=some x) (hv:cC X.env.scope x) (hd:(x==("__debug__":Str))=false) (U0:(x==("__classdict__":Str))=false) (Ye:eK b):eZ X (.Subscript (.Name x p1) b p2) σ H Q:=by
 obtain⟨⟨v,ea,rfl,ha,hr,_⟩,hR⟩:=E.ent i _ hΓ
 refine eS (iM ig (bb hN hv hd U0) aL Ye) ⟨.ref a,at_of ea,hb σ H0 R0 H R E _ λu H2 R2 E2 s2 e2=>?_⟩
 obtain⟨⟨v,Yx,e3,ha2,Y9,nd⟩,XX⟩:=E2.ent i _ hΓ
 have hl:j<as.length:=by rw[Y9.1];exact(qF hk).2.1
 exact⟨a,_,k,.ref as[j],rfl,e2,aU.of ha2,AZ (by rw[Y9.1];exact hk) (OX hl),q _ H2 R2 E2 s2 (OX hl)⟩
theorem xK (i:Nat){b e:Expr}{p2 ap cp:Pos}{k:Int}{y:α}(hb:EV X b Γ ah k Γ)(he:EV X e Γ r y Γ)(hΓ:Γ[i]?=some (.ob (o9 r a as VC)))(hk:fg VC.length k=some j)(hx:VC[j]?=some xs)(hz:xs.length<RE)(h:N (Γ.set i (.ob (o9 r a as (VC.set j (xs++[y]))))))
 (hN:X.N[i]?=some x:=by rfl) (hv:autoParam (cC X.env.scope x) Vo)
 (hd:Vd x:=by decide) (U0:Vp x:=by decide) (Ye:eK b:=by exact λ_ _=>rfl)
 (VR:RN (.Call (.Attribute (.Subscript (.Name x p1) b p2) "append" ap) [e] [] cp) none pos.line X.env=pure false:=by rfl)
 (U2:RK (.Subscript (.Name x p1) b p2) "append" X.env (eval (.Subscript (.Name x p1) b p2) X.env)=eval (.Subscript (.Name x p1) b p2) X.env:=by rfl)
 (Vg:((RM cp (RC [e] X.env)).all (λx=> !x.1)&&(Sb cp (RX [] X.env)).all (λx=>x.1.isSome)
  &&decide ([e].length+([]:List RP).length+(if([]:List RP).isEmpty then 0 else 1)<30))=true:=by rfl)
 (U1:(ap.endLine==cp.line)=true:=by rfl) (hs:RC [e] X.env=(false,eval e X.env)::RC [] X.env:=by rfl):W1 X (.Expr (.Call (.Attribute (.Subscript (.Name x p1) b p2) "append" ap) [e] [] cp) pos) Γ N T:=λσ H0 R0 H R E D dn dr=>by
 refine sS (fz (gw Tw Tx Tz gL aL (aM aL bB hs) U2 Vg U1 hs rfl) VR) ?_
 refine Iw i hb hΓ hk E (λc H1 R1 E1 s1 hc=>?_) hN hv hd U0 Ye
 obtain⟨⟨v,YL,rfl,ha1,hr1,nd1⟩,XB⟩:=E1.ent i _ hΓ
 obtain⟨ws1,q1,q2⟩:=hr1.2 j c xs hc hx
 refine⟨.inl ⟨rfl,_,aU.of q1⟩,he σ H0 R0 H1 R1 E1 _ λu H2 R2 E2 s2 e2=>?_⟩
 obtain⟨⟨v,Yx,rfl,ha2,Y9,nd2⟩,XX⟩:=E2.ent i _ hΓ
 obtain⟨ws2,q1,q2⟩:=Y9.2 j c xs hc hx
 obtain⟨n1,n2⟩:=Pw.mp nd2
 have cm:c∈as:=O6 hc
 refine⟨c,ws2,u,rfl,rfl,q1,by rw[q2.length];exact hz,?_⟩
 refine dn σ _ R2 _ (E2.mS (en:=.ob (o9 r a as (VC.set j (xs++[y])))) hΓ (O2 _ cm) ⟨⟨.ref a,Yx,rfl,?_,Y9.put n2 hc (dh q2 (.cons e2 .nil)),nd2⟩,XX⟩ λc w=>.inl w) (s1.trans s2) h
 rw[aB (show a≠c from λz=>n1 (z▸cm))];exact ha2
def Nl (K:Uk)(r:Rep α)(P:List (List α)->Prop):RT:=λH0 v H' R'=>∃a as VC,v= .ref a/\(∀b∈a::as,H0 b=none/\R' b=none)/\H' a=some (.lst (as.map .ref))/\hZ K r H' R' as VC/\(a::as).Nodup/\P VC
theorem Iv (i:Nat){P:List (List α)->Prop}(hΓ:Γ[i]?=some (.ob (o9 r a as VC)))(h:P VC)(hN:X.N[i]?=some x:=by rfl)(hv:autoParam (cC X.env.scope x) Vo)
 (hd:Vd x:=by decide) (U0:Vp x:=by decide):W1 X (.Return (some (.Name x p1)) pos) Γ N (Nl X.K r P):=λσ H0 R0 H R E D dn dr=>by
 obtain⟨⟨v,ea,rfl,ha,hr,nd⟩,hR⟩:=E.ent i _ hΓ
 exact sS (hU (bb hN hv hd U0)) ⟨.ref a,at_of ea,dr _ H R E.ext ⟨a,as,VC,rfl,λb hb=>⟨E.nw i _ b hΓ hb,hR b hb⟩,ha,hr,nd,h⟩⟩
def kD (R H:Hp)(l:OE):Hp:=λb=>if b∈l then H b else R b
theorem FL (i:Nat){P:List (List α)->Prop}(hΓ:Γ[i]?=some (.ob (o9 r a as VC)))(hz:VC.length<=RE)(hzi:∀xs∈VC,xs.length<=RE)(h:P VC)(hN:X.N[i]?=some x:=by rfl)(hv:autoParam (cC X.env.scope x) Vo)
 (hd:Vd x:=by decide) (U0:Vp x:=by decide):W1 X (.Return (some (.Name x p1)) pos) Γ N (Aq X.K (ae r) P):=λσ H0 R0 H R E D dn dr=>by
 obtain⟨⟨v,ea,rfl,ha,hr,nd⟩,hR⟩:=E.ent i _ hΓ
 obtain⟨n1,n2⟩:=Pw.mp nd
 have sR:av R (kD R H as):=λb o q=>by
  unfold kD
  split
  ·rename_i hb
   rw[hR b (O2 _ hb)] at q;cases q
  ·exact q
 have sH:av (kD R H as) H:=λb o q=>by
  unfold kD at q
  split at q
  ·exact q
  ·exact E.sub b o q
 have pr:PySem.Paired ((ae r).R X.K (kD R H as)) (as.map .ref) VC:=by
  have key:∀(bs:OE) (VH:List (List α)),(∀b∈bs,b∈as)->hZ X.K r H R bs VH->(∀xs∈VH,xs.length<=RE)->PySem.Paired ((ae r).R X.K (kD R H as)) (bs.map .ref) VH:=by
   intro bs
   induction bs with
   | nil=>intro VH _ h _;cases VH with
     | nil=>exact .nil
     | cons _ _=>exact UJ h.1 (by simp)
   | cons b bs ih=>intro VH hm h hz;cases VH with
     | nil=>exact UJ h.1 (by simp)
     | cons ys VH=>
       obtain⟨ws,q1,q2⟩:=h.2 0 b ys rfl rfl
       refine .cons ⟨b,ws,rfl,?_,Paired.map (λ_ _=>r.mono sR) q2,hz ys O3⟩ (ih VH (λc hc=>hm c (O2 _ hc)) ⟨by simpa using h.1,λi c xs h1 h2=>h.2 (i+1) c xs (by simpa using h1) (by simpa using h2)⟩ λxs hx=>hz xs (O2 _ hx))
       unfold kD
       rw[UL (hm b O3)];exact q1
  exact key as VC (λ_ h=>h) hr hzi
 refine sS (hU (bb hN hv hd U0)) ⟨.ref a,at_of ea,dr _ H (kD R H as) ⟨E.ext.h,E.ext.r.trans sR,sH,λb hb=>?_⟩ ⟨a,_,VC,rfl,E.nw i _ a hΓ O3,ha,?_,pr,hz,h⟩⟩
 ·unfold kD
  rw[UK λz=>hb (E.nw i _ b hΓ (O2 _ z))]
  exact E.ext.old b hb
 ·unfold kD
  rw[UK n1];exact hR a O3
end
section
variable {X:Cx}{Γ Γ1 Γ2 Γ3:Ga}{α β γ δ:Type}{N:Ga->Prop}{T:RT}
theorem qV {a b:Expr}{p1 p2 pos Wi:Pos}{m n:Int}(Yn:X.mg "list"=none)(hmr:X.mg "range"=none)(ha:HA X [a,b] Γ [⟨ah,m⟩,⟨ah,n⟩] Γ1)(hm: -1000000<=m/\m<=1000000)(hn: -1000000<=n/\n<=1000000)(hs:RC [a,b] X.env=(false,eval a X.env)::RC [b] X.env:=by rfl)(Ve:(RM Wi (RC [b] X.env)).any (·.1)=false:=by rfl)
 (Vv:RC [.Call (.Name "range" p2) [a,b] [] Wi] X.env=[(false,eval (.Call (.Name "range" p2) [a,b] [] Wi) X.env)]:=by rfl) (hc:X.calm=true:=by rfl) (hg:Gl X "list":=by rfl) (hgr:Gl X "range":=by rfl):aZ X (.Call (.Name "list" p1) [.Call (.Name "range" p2) [a,b] [] Wi] [] pos) Γ ah (ups m (n-m).toNat) Γ1:=by
 intro σ H0 R0 H R E Q q
 refine eS (gE (mq hc) hg Yn Rv (aM (gE qm hgr hmr Ry mf (by decide) (by decide) hs Ve) bB Vv) (by decide) (by decide) Vv) (ha σ H0 R0 H R E _ λvs H1 R1 E1 s1 e1=>?_)
 have e:vs=[.int m,.int n]:=by
  cases e1 with
  | cons a1 t=>cases t with
    | cons a2 t=>cases t;cases a1;cases a2;rfl
 subst e
 refine⟨m,n,rfl,λp hp=>⟨p,m,n,rfl,aA,hm.1,hm.2,hn.1,hn.2,λd hd=>?_⟩⟩
 have E2:=E1.grow (Ext.dJ E1.sub hp (.Xi m n))
 exact q d _ _ R1 (E2.grow (Ext.dJ E2.sub hd _)) s1 aA (E2.sub.free hd) (E2.ext.h.free hd) (E2.off hd) (paired_ints _) (by rw[ba];exact QX (show(n-m).toNat<=2000000 by omega) (by decide))
end
mutual
inductive dY (H:Hp):V->PV->OE->Prop
 | str (x:Str):dY H (.str x) (.str x) []
 | int (n:Int):dY H (.int n) (.int n) []
 | lst {a:Addr} {vs:List V} {xs:List PV} {fp:OE}:H a=some (.lst vs)->bO H vs xs fp->xs.length<=RE->dY H (.ref a) (.lst xs) (a::fp)
inductive bO (H:Hp):List V->List PV->OE->Prop
 | nil:bO H [] [] []
 | cons {v:V} {x:PV} {f:OE} {vs:List V} {xs:List PV} {g:OE}:dY H v x f->bO H vs xs g->bO H (v::vs) (x::xs) (f++g)
end
mutual
theorem dY.rG {H:Hp}:∀{v:V} {x:PV} {fp:OE},dY H v x fp->eD H v x
 | _,_,_,.str x=>.str x
 | _,_,_,.int n=>.int n
 | _,_,_,.lst h t z=>.lst h t.rG z
theorem bO.rG {H:Hp}:∀{vs:List V} {xs:List PV} {fp:OE},bO H vs xs fp->dO H vs xs
 | _,_,_,.nil=>.nil
 | _,_,_,.cons h t=>.cons h.rG t.rG
end
mutual
theorem dY.loc {H H':Hp}:∀{v:V} {x:PV} {fp:OE},dY H v x fp->(∀a∈fp,H' a=H a)->dY H' v x fp
 | _,_,_,.str x,_=>.str x
 | _,_,_,.int n,_=>.int n
 | _,_,_,.lst h t z,k=>.lst ((k _ O3).trans h) (t.loc λa ha=>k a (O2 _ ha)) z
theorem bO.loc {H H':Hp}:∀{vs:List V} {xs:List PV} {fp:OE},bO H vs xs fp->(∀a∈fp,H' a=H a)->bO H' vs xs fp
 | _,_,_,.nil,_=>.nil
 | _,_,_,.cons h t,k=>.cons (h.loc λa ha=>k a (Pj _ ha)) (t.loc λa ha=>k a (Pb _ ha))
end
mutual
theorem dY.has {H:Hp}:∀{v:V} {x:PV} {fp:OE},dY H v x fp->∀a∈fp,H a≠none
 | _,_,_,.str x,_,h=>by cases h
 | _,_,_,.int n,_,h=>by cases h
 | _,_,_,.lst q t z,a,h=>by
   rcases O7.mp h with rfl | h
   ·rw[q];simp
   ·exact t.has a h
theorem bO.has {H:Hp}:∀{vs:List V} {xs:List PV} {fp:OE},bO H vs xs fp->∀a∈fp,H a≠none
 | _,_,_,.nil,_,h=>by cases h
 | _,_,_,.cons q t,a,h=>(Pa.mp h).elim (q.has a) (t.has a)
end
def Cd:List PV->Bool
 | .lst _:: .int _::_=>true
 | _=>false
mutual
def noMix:PV->Bool
 | .lst xs=> !Cd xs&&gf xs
 | _=>true
def gf:List PV->Bool
 | []=>true
 | x::xs=>noMix x&&gf xs
end
theorem AX {xs:List PV}(h:noMix (.lst xs)=true):(∀a k r,xs≠ .lst a:: .int k::r)/\gf xs=true:=by
 rw[noMix,OK] at h
 refine⟨λa k r e=>?_,h.2⟩
 subst e
 exact UJ h.1 (by simp[Cd])
mutual
theorem dY.node {H:Hp}{a s:Addr}{k:Int}{rest:List V}(ha:H a=some (.lst (.ref s:: .int k::rest))):∀{v:V} {x:PV} {fp:OE},dY H v x fp->noMix x=true->a∉fp
 | _,_,_,.str x,_=>by simp
 | _,_,_,.int n,_=>by simp
 | _,_,_,.lst q t z,hx=>by
   obtain⟨h1,h2⟩:=AX hx
   intro h
   rcases O7.mp h with rfl | h
   ·rw[ha] at q
    cases q
    cases t with
    | cons p1 t=>cases t with
      | cons p2 t=>
        cases p1
        cases p2
        exact h1 _ _ _ rfl
   ·exact bO.node ha t h2 h
theorem bO.node {H:Hp}{a s:Addr}{k:Int}{rest:List V}(ha:H a=some (.lst (.ref s:: .int k::rest))):∀{vs:List V} {xs:List PV} {fp:OE},bO H vs xs fp->gf xs=true->a∉fp
 | _,_,_,.nil,_=>by simp
 | _,_,_,.cons q t,hx=>by
   rw[gf,OK] at hx
   intro h
   rcases Pa.mp h with h | h
   ·exact dY.node ha q hx.1 h
   ·exact bO.node ha t hx.2 h
end
section
variable {H:Hp}
theorem bO.len {vs:List V}{xs:List PV}{fp:OE}(h:bO H vs xs fp):vs.length=xs.length:=h.rG.pair.length
theorem bO.app:∀{vs us:List V} {xs ys:List PV} {f g:OE},bO H vs xs f->bO H us ys g->bO H (vs++us) (xs++ys) (f++g)
 | _,_,_,_,_,_,.nil,t=>t
 | _,_,_,_,_,_,.cons h t,t'=>by
   rw[Qe,Qe,Pg]
   exact .cons h (t.app t')
def lI:PV->Bool
 | .str _=>true
 | .int _=>true
 | _=>false
theorem mY {H':Hp}{v:V}{x:PV}(h:eD H v x)(hl:lI x=true):dY H' v x []:=by
 cases h with
 | str x=>exact .str x
 | int n=>exact .int n
 | _=>cases hl
theorem xF {H H':Hp}:∀{vs:List V} {xs:List PV},dO H vs xs->xs.all lI=true->bO H' vs xs []
 | _,_,.nil,_=>.nil
 | _,_,.cons h t,hl=>by
   rw[all_cons,OK] at hl
   exact .cons (f:=[]) (g:=[]) (mY h hl.1) (xF t hl.2)
def fT (x:PV)(fp:OE):vg where
 fp:=fp
 R:=λ_ H _ v=>dY H v x fp/\fp.Nodup
 loc:=λh _ ⟨t,n⟩=>⟨t.loc h,n⟩
 has:=λ⟨t,_⟩=>t.has
def yE (P:PV->Prop):RT:=λH0 v H' R'=>∃x fp,dY H' v x fp/\fp.Nodup/\(∀a∈fp,H0 a=none/\R' a=none)/\P x
end
section
variable {X:Cx}{Γ Γ1 Γ2 Γ3:Ga}{α β γ δ:Type}{N:Ga->Prop}{T:RT}
variable {x:PV}{pos:Pos}{e:Expr}{y:PV}{p1:Pos}{z:PV}
def ib (X:Cx)(e:Expr)(Γ:Ga)(x:PV)(Γ':Ga):Prop:=
 ∀(σ:St) (H0 R0 H R:Hp),au X.K σ H0 R0 H R Γ->∀Q:VK,(∀v fp H' R',au X.K σ H0 R0 H' R' Γ'->av R R'->dY H' v x fp->fp.Nodup->(∀a∈fp,R' a=none/\H0 a=none/\Off a σ Γ')->Q v H')->eZ X e σ H Q
theorem ib.cast (h:ib X e Γ x Γ1)(e1:x=y):ib X e Γ y Γ1:=e1▸h
theorem aZ.rZ {xs:List PV}(h:aZ X e Γ aI xs Γ1)(hl:xs.all lI=true):ib X e Γ (.lst xs) Γ1:=λσ H0 R0 H R E Q q=>
 h σ H0 R0 H R E Q λa vs H' R' E' s' ha hR h0 off p z=>q _ [a] H' R' E' s' (.lst ha (xF (.of p) hl) z) (Pw.mpr ⟨by simp,Qw⟩) λb hb=>by rw[O0.mp hb];exact⟨hR,h0,off⟩
theorem pF (i:Nat){x:Str}(he:ib X e Γ y Γ1)(h:∀fp,N (Γ1.set i (.ob (fT y fp))))(hN:X.N.Nodup:=by first | assumption | decide)(hi:X.N[i]?=some x:=by rfl)(hx:autoParam (Loc X.env.scope x) Wv)
 (hs:RN e (some (.Name x p1)) pos.line X.env=pure false:=by rfl) (hf:autoParam (X.fn x=true∨X.env.scope.names.lookup x=some .local) Wu):W1 X (.Assign [.Name x p1] e pos) Γ N T:=λσ H0 R0 H R E D dn dr=>
 sS (jv hN hi hx aL hs hf) (he σ H0 R0 H R E _ λv fp H1 R1 E1 s1 t nd k=>dn _ H1 R1 _ (E1.setG (en:=.ob (fT y fp)) i ⟨⟨v,rfl,t,nd⟩,λa ha=>(k a ha).1⟩ (λa ha=>(k a ha).2.1) λa ha j e _ q w=>(k a ha).2.2 j e q w) s1 (h fp))
theorem g6 (i:Nat){r:Rep α}{S:jZ α}{x y:Str}{k:Nat}{a:Addr}{es:OG}{p:Pos}{ps:List Pk}{xs st:List α}(C:aH X.prog X.w X.K X.mg X.base x k (fF r S X.K))(hr:bI k X.A)(ha:HA X es (Γ.set i (.mu r xs)) ps (Γ.set i (.mu r xs)))(hΓ:Γ[i]?=some (.ob (a7 a r xs)))(hS:S X.K xs ps (λxs'=>yE λw=>xs'=st/\w=z))(Yo:∀(R:Hp) (ws:List V),PySem.Paired (r.R X.K R) ws st->∃s k rest,ws= .ref s:: .int k::rest)(hmx:noMix z=true)
 (hg:Gl X x:=by rfl) (VE:Vd x:=by decide) (he:RC (.Name y p1::es) X.env=(false,eval (.Name y p1) X.env)::RC es X.env:=by rfl) (Ve:(RM pos (RC es X.env)).any (·.1)=false:=by rfl)
 (hN:X.N[i]?=some y:=by rfl) (hv:autoParam (cC X.env.scope y) Vo) (hd:Vd y:=by decide) (U0:Vp y:=by decide):
 ib X (.Call (.Name x p) (.Name y p1::es) [] pos) Γ z (Γ.set i (.ob (a7 a r st))):=λσ H0 R0 H R E Q q=>by
 obtain⟨ea,⟨vs,hva,pp⟩,hR⟩:=fB (E.ent i _ hΓ)
 have hl:i<Γ.length:=(OW.mp hΓ).1
 have E':au X.K σ H0 R0 H R (Γ.set i (.mu r xs)):=E.tell hΓ (by rw[ea];exact⟨a,vs,rfl,hva,hR,pp⟩) λb w=>by
  rw[ea] at w
  exact w
 refine yz i C hr ha (Pc hl) (Pc hl) hS E' (λa' H1 R1 v H' R' xs' Vs E1 E2 s' t=>?_) hg VE he Ve hN hv hd U0
 rw[ea] at Vs;cases Vs
 obtain⟨w,fp,t1,nd,k,rfl,rfl⟩:=t
 rw[QA] at E2
 obtain⟨a2,ws,Yx,Xx,XX,pp2⟩:=E2.ent i _ (Pc hl)
 rw[ea] at Yx;cases Yx
 have E3:au X.K σ H0 R0 H' R' (Γ.set i (.ob (a7 a r xs'))):=by
  have:=E2.tell (i:=i) (en:=.ob (a7 a r xs')) (Pc hl) (by rw[ea];exact⟨⟨_,rfl,rfl,ws,Xx,pp2⟩,λb hb=>by rw[O0.mp hb];exact XX⟩) (λb w=>by rw[ea];exact w)
  rwa [QA] at this
 have WR:∀b∈fp,b≠a:=λb hb e=>by
  subst e
  obtain⟨s,k,rest,e1⟩:=Yo R' ws pp2
  rw[e1] at Xx
  exact dY.node Xx t1 hmx hb
 refine q v fp H' R' E3 s' t1 nd λb hb=>?_
 have hb1:H1 b=none:=by
  have:=(k b hb).1
  unfold del at this
  rwa [UK (WR b hb)] at this
 refine⟨(k b hb).2,E1.ext.h.free hb1,λj e qj w=>?_⟩
 rcases set_at qj with⟨rfl,rfl,_⟩ | ⟨hj,q1⟩
 ·exact WR b hb (O0.mp w)
 ·exact E1.off hb1 j e (by rw[Pq (Rk hj)];exact q1) w
theorem au.yg {K:Uk}{σ:St}{H0 R0 H R:Hp}{j:Nat}{fp:OE}(E:au K σ H0 R0 H R Γ)(hj:Γ[j]?=some (.ob (fT x fp))):(∃v,(σ[j]?).join=some v/\dY H v x fp)/\fp.Nodup/\au K σ H0 R0 H R (Γ.set j .no)/\∀a∈fp,R a=none/\H0 a=none/\Off a σ (Γ.set j .no):=by
 obtain⟨⟨v,ev,t,nd⟩,hR⟩:=E.ent j _ hj
 refine⟨⟨v,ev,t⟩,nd,E.tell (en:=.no) hj trivial (λb w=>by cases w),λa ha=>⟨hR a ha,E.nw j _ a hj ha,λk e q w=>?_⟩⟩
 rcases set_at q with⟨rfl,rfl,_⟩ | ⟨hk,q1⟩
 ·cases w
 ·exact hk (E.ds k j e _ a q1 hj w ha)
theorem xb (j:Nat){y:Str}{fp:OE}(hΓ:Γ[j]?=some (.ob (fT x fp)))(hN:X.N[j]?=some y:=by rfl)(hv:autoParam (cC X.env.scope y) Vo)
 (hd:Vd y:=by decide) (U0:Vp y:=by decide):ib X (.Name y pos) Γ x (Γ.set j .no):=λσ H0 R0 H R E Q q=>by
 obtain⟨⟨v,ev,t⟩,nd,E1,k⟩:=E.yg hΓ
 exact eS (bb hN hv hd U0) ⟨v,at_of ev,q v fp H R E1 (av.refl _) t nd k⟩
theorem dY.fresh {H:Hp}{v:V}{fp:OE}{p:Addr}{o:HO}(h:dY H v x fp)(hp:H p=none):dY (upd H p o) v x fp/\p∉fp:=by
 have hn:p∉fp:=λw=>h.has p w hp
 exact⟨h.loc λa ha=>aB λe=>hn (e▸ha),hn⟩
theorem Im {a b t:Expr}(ha:EV X a Γ aI x Γ1)(hb:EV X b Γ1 aI y Γ2)(ht:ib X t Γ2 z Γ3)(hx:lI x=true)(hy:lI y=true)(h1:RC [a,b,t] X.env=(false,eval a X.env)::RC [b,t] X.env:=by rfl)(h2:RC [b,t] X.env=(false,eval b X.env)::RC [t] X.env:=by rfl)(h3:RC [t] X.env=(false,eval t X.env)::RC [] X.env:=by rfl):ib X (.List [a,b,t] pos) Γ (.lst [x,y,z]) Γ3:=λσ H0 R0 H R E Q q=>by
 refine eS (t8 (aM aL (aM aL (aM aL bB h3) h2) h1)) (ha σ H0 R0 H R E _ λv1 H1 R1 E1 s1 e1=>hb σ H0 R0 H1 R1 E1 _ λv2 H2 R2 E2 s2 e2=>ht σ H0 R0 H2 R2 E2 _ λv3 fp H3 R3 E3 s3 t3 nd k=>⟨by show 3<=RE;decide,λp hp=>?_⟩)
 obtain⟨t4,hn⟩:=t3.fresh (o:=.lst [v1,v2,v3]) hp
 refine q (.ref p) (p::fp) _ R3 (E3.grow (Ext.dJ E3.sub hp _)) (s1.trans (s2.trans s3)) ?_ (Pw.mpr ⟨hn,nd⟩) λc hc=>?_
 ·have:=bO.cons (mY (H':=upd H3 p (.lst [v1,v2,v3])) e1 hx) (bO.cons (mY (H':=upd H3 p (.lst [v1,v2,v3])) e2 hy) (bO.cons t4 .nil))
  rw[Px,Qd,Qd] at this
  exact .lst aA this (by show 3<=RE;decide)
 ·rcases O7.mp hc with rfl | hc
  ·exact⟨E3.sub.free hp,E3.ext.h.free hp,E3.off hp⟩
  ·exact k c hc
theorem JT (j:Nat){a b t:Expr}{n:Str}{u:PV}{f0:OE}(ha:EV X a Γ aI x Γ1)(hb:EV X b Γ1 aI y Γ2)(ht:ib X t Γ2 z Γ3)(hj:Γ2[j]?=some (.ob (fT u f0)))(hj3:Γ3[j]?=some (.ob (fT u f0)))(hx:lI x=true)(hy:lI y=true)(hN:X.N[j]?=some n:=by rfl)(hv:autoParam (cC X.env.scope n) Vo)
 (hd:Vd n:=by decide) (U0:Vp n:=by decide) (h1:RC [a,b,.Name n p1,t] X.env=(false,eval a X.env)::RC [b,.Name n p1,t] X.env:=by rfl) (h2:RC [b,.Name n p1,t] X.env=(false,eval b X.env)::RC [.Name n p1,t] X.env:=by rfl) (h3:RC [.Name n p1,t] X.env=(false,eval (.Name n p1) X.env)::RC [t] X.env:=by rfl) (h4:RC [t] X.env=(false,eval t X.env)::RC [] X.env:=by rfl):ib X (.List [a,b,.Name n p1,t] pos) Γ (.lst [x,y,u,z]) (Γ3.set j .no):=λσ H0 R0 H R E Q q=>by
 refine eS (t8 (aM aL (aM aL (aM (bb hN hv hd U0) (aM aL bB h4) h3) h2) h1)) (ha σ H0 R0 H R E _ λv1 H1 R1 E1 s1 e1=>hb σ H0 R0 H1 R1 E1 _ λv2 H2 R2 E2 s2 e2=>?_)
 obtain⟨⟨v0,ev0,_⟩,_⟩:=E2.yg hj
 refine⟨v0,at_of ev0,ht σ H0 R0 H2 R2 E2 _ λv3 fp H3 R3 E3 s3 t3 nd k=>⟨by show 4<=RE;decide,λp hp=>?_⟩⟩
 obtain⟨⟨v0',ZG,t0⟩,nd0,E4,k0⟩:=E3.yg hj3
 rw[ev0] at ZG;cases ZG
 obtain⟨t4,hn⟩:=t3.fresh (o:=.lst [v1,v2,v0,v3]) hp
 obtain⟨t5,hn5⟩:=t0.fresh (o:=.lst [v1,v2,v0,v3]) hp
 have dj:∀c∈f0,c∉fp:=λc hc w=>(k c w).2.2 j _ hj3 hc
 refine q (.ref p) (p::(f0++fp)) _ R3 (E4.grow (Ext.dJ E4.sub hp _)) (s1.trans (s2.trans s3)) ?_ (Pw.mpr ⟨λw=>(Pa.mp w).elim hn5 hn,P6.mpr ⟨nd0,nd,λc hc d hd e=>dj c hc (e▸hd)⟩⟩) λc hc=>?_
 ·have:=bO.cons (mY (H':=upd H3 p (.lst [v1,v2,v0,v3])) e1 hx) (bO.cons (mY (H':=upd H3 p (.lst [v1,v2,v0,v3])) e2 hy) (bO.cons t5 (bO.cons t4 .nil)))
  rw[Px,Qd,Qd] at this
  exact .lst aA this (by show 4<=RE;decide)
 ·rcases O7.mp hc with rfl | hc
  ·exact⟨E4.sub.free hp,E4.ext.h.free hp,E4.off hp⟩
  ·rcases Pa.mp hc with hc | hc
   ·exact k0 c hc
   ·refine⟨(k c hc).1,(k c hc).2.1,λi e qi w=>?_⟩
    rcases set_at qi with⟨rfl,rfl,_⟩ | ⟨hi,q1⟩
    ·cases w
    ·exact(k c hc).2.2 i e q1 w
theorem iq (i:Nat){a:Addr}{r:Rep α}{xs:List α}{P:List α->PV->Prop}(he:ib X e Γ y Γ1)(hΓ1:Γ1[i]?=some (.ob (a7 a r xs)))(h:P xs y):W1 X (.Return (some e) pos) Γ N (vA X.K a r λxs'=>yE (P xs')):=λσ H0 R0 H R E D dn dr=>
 sS (hU aL) (he σ H0 R0 H R E _ λv fp H1 R1 E1 s1 t nd k=>by
  obtain⟨ea,⟨vs,ha,pp⟩,hR⟩:=fB (E1.ent i _ hΓ1)
  exact dr v H1 R1 E1.ext ⟨vs,xs,ha,hR,pp,y,fp,t,nd,λb hb=>⟨(k b hb).2.1,(k b hb).1⟩,h⟩)
theorem HM (i:Nat){x:Str}{ap cp:Pos}{xs:List PV}{fp:OE}(he:ib X e Γ z Γ1)(hΓ:Γ[i]?=some (.ob (fT (.lst xs) fp)))(hΓ1:Γ1[i]?=some (.ob (fT (.lst xs) fp)))(hz:xs.length<RE)(h:∀fp',N (Γ1.set i (.ob (fT (.lst (xs++[z])) fp'))))
 (hN:X.N[i]?=some x:=by rfl) (hv:autoParam (cC X.env.scope x) Vo)
 (hd:Vd x:=by decide) (U0:Vp x:=by decide)
 (VR:RN (.Call (.Attribute (.Name x p1) "append" ap) [e] [] cp) none pos.line X.env=pure false:=by rfl)
 (U2:RK (.Name x p1) "append" X.env (eval (.Name x p1) X.env)=eval (.Name x p1) X.env:=by rfl)
 (Vg:((RM cp (RC [e] X.env)).all (λx=> !x.1)&&(Sb cp (RX [] X.env)).all (λx=>x.1.isSome)
  &&decide ([e].length+([]:List RP).length+(if([]:List RP).isEmpty then 0 else 1)<30))=true:=by rfl)
 (U1:(ap.endLine==cp.line)=true:=by rfl) (hs:RC [e] X.env=(false,eval e X.env)::RC [] X.env:=by rfl):W1 X (.Expr (.Call (.Attribute (.Name x p1) "append" ap) [e] [] cp) pos) Γ N T:=λσ H0 R0 H R E D dn dr=>by
 obtain⟨⟨v0,ea,t0,_⟩,_⟩:=E.ent i _ hΓ
 cases t0 with
 | @lst a YN _ f0 ha0 tt0 z0=>
 refine sS (fz (gw Tw Tx Tz gL (bb hN hv hd U0) (aM aL bB hs) U2 Vg U1 hs rfl) VR) ?_
 refine⟨.ref a,at_of ea,.inl ⟨rfl,YN,aU.of ha0⟩,he σ H0 R0 H R E _ λv ZF H1 R1 E1 s1 t nd k=>?_⟩
 obtain⟨⟨v1,YL,t1,nd1⟩,XB⟩:=E1.ent i _ hΓ1
 rw[ea] at YL;cases YL
 cases t1 with
 | @lst _ vs _ _ ha tt zz=>
 refine⟨a,vs,v,rfl,rfl,ha,by rw[tt.len];exact hz,?_⟩
 obtain⟨na,nd2⟩:=Pw.mp nd1
 have nz:a∉ZF:=λw=>(k a w).2.2 i _ hΓ1 O3
 have dj:∀c∈f0,c∉ZF:=λc hc w=>(k c w).2.2 i _ hΓ1 (O2 _ hc)
 have tn:dY (upd H1 a (.lst (vs++[v]))) (.ref a) (.lst (xs++[z])) (a::(f0++ZF)):=by
  have:=bO.app (tt.loc (H':=upd H1 a (.lst (vs++[v]))) λc hc=>aB λe=>na (e▸hc)) (bO.cons (t.loc (H':=upd H1 a (.lst (vs++[v]))) λc hc=>aB λe=>nz (e▸hc)) .nil)
  rw[Px] at this
  exact .lst aA this (by rw[O4,Py];exact hz)
 refine dn σ _ R1 _ (E1.mS (en:=.ob (fT (.lst (xs++[z])) (a::(f0++ZF)))) hΓ1 (a:=a) O3 ?_ λb hb=>?_) s1 (h _)
 ·rw[ea]
  refine⟨⟨_,rfl,tn,Pw.mpr ⟨λw=>(Pa.mp w).elim na nz,P6.mpr ⟨nd2,nd,λc hc d hd e=>dj c hc (e▸hd)⟩⟩⟩,λb hb=>?_⟩
  rcases O7.mp hb with rfl | hb
  ·exact XB _ O3
  ·rcases Pa.mp hb with hb | hb
   ·exact XB _ (O2 _ hb)
   ·exact(k b hb).1
 ·rcases O7.mp hb with rfl | hb
  ·exact .inl O3
  ·rcases Pa.mp hb with hb | hb
   ·exact .inl (O2 _ hb)
   ·exact .inr ⟨(k b hb).2.1,(k b hb).2.2⟩
theorem B8 {i:Nat}{fp:OE}(hΓ:Γ[i]?=some (.ob (fT x fp)))(σ:St)(H0 R0 H R:Hp)(E:au X.K σ H0 R0 H R Γ):au X.K σ H H H H ((Γ.map lV).set i (.im aI x)):=by
 obtain⟨⟨v,ea,t,_⟩,_⟩:=E.ent i _ hΓ
 exact E.VP.j9 (i:=i) (e0:=.no) (by rw[O5,hΓ];rfl) ⟨v,ea,t.rG⟩ λb w=>by cases w
end
abbrev PT:=List PV×Addr×OE
abbrev oX (p:PT):OE:=p.2.1::p.2.2
abbrev rX (ps:List PT):OE:=ps.flatMap oX
structure IJ (H:Hp) (a:Addr) (ps:List PT):Prop where
 hd:H a=some (.lst (ps.map λp=>.ref p.2.1))
 pt:∀(n:Nat) (p:PT),ps[n]?=some p->dY H (.ref p.2.1) (.lst p.1) (oX p)/\(oX p).Nodup/\a∉oX p
 dj:∀(n m:Nat) (p q:PT),ps[n]?=some p->ps[m]?=some q->∀c∈oX p,c∈oX q->n=m
theorem cZ {ps:List PT}{c:Addr}:c∈rX ps↔∃(n:Nat) (p:PT),ps[n]?=some p/\c∈oX p:=by
 rw[Qv]
 constructor
 ·rintro⟨p,hp,hc⟩
  obtain⟨n,hn⟩:=Pf.mp hp
  exact⟨n,p,hn,hc⟩
 ·rintro⟨n,p,hn,hc⟩
  exact⟨p,O6 hn,hc⟩
def cu (a:Addr)(ps:List PT):vg where
 fp:=a::rX ps
 R:=λ_ H _ v=>v= .ref a/\IJ H a ps
 loc:=λh _ ⟨e,k⟩=>⟨e,(h _ O3).trans k.hd,λn p hn=>⟨(k.pt n p hn).1.loc λc hc=>h c (O2 _ (cZ.mpr ⟨n,p,hn,hc⟩)),(k.pt n p hn).2⟩,k.dj⟩
 has:=λ⟨e,k⟩ c hc=>by
  rcases O7.mp hc with rfl | hc
  ·rw[k.hd];simp
  ·obtain⟨n,p,hn,hc⟩:=cZ.mp hc
   exact(k.pt n p hn).1.has c hc
section
variable {X:Cx}{Γ Γ1 Γ2 Γ3:Ga}{α β γ δ:Type}{N:Ga->Prop}{T:RT}
variable {a:Addr}{ps:List PT}{p1 pos:Pos}{n:Nat}{r:Rep α}{x:Str}{e:Expr}{cp:Pos}
theorem au.DB {K:Uk}{σ:St}{H0 R0 H R:Hp}{i:Nat}{b:Addr}{ys YM:List PV}{g g':OE}{ws:List V}(E:au K σ H0 R0 H R Γ)(hΓ:Γ[i]?=some (.ob (cu a ps)))(hn:ps[n]?=some (ys,b,g))(t:dY (L2.upd H b (.lst ws)) (.ref b) (.lst YM) (b::g'))(nd:(b::g').Nodup)(hg:∀c∈g',c∈g∨(R c=none/\H0 c=none/\Off c σ Γ)):au K σ H0 R0 (L2.upd H b (.lst ws)) R (Γ.set i (.ob (cu a (ps.set n (YM,b,g'))))):=by
 obtain⟨⟨v,ea,rfl,k⟩,hR⟩:=E.ent i _ hΓ
 have nl:n<ps.length:=(OW.mp hn).1
 have bm:b∈rX ps:=cZ.mpr ⟨n,_,hn,O3⟩
 have ab:a≠b:=λe=>(k.pt n _ hn).2.2 (by rw[e];exact O3)
 have sp:∀(m:Nat) (q:PT),(ps.set n (YM,b,g'))[m]?=some q->(m=n/\q=(YM,b,g'))∨(m≠n/\ps[m]?=some q):=λm q h=>by
  by_cases e:n=m
  ·subst e
   rw[Pc nl] at h
   exact .inl ⟨rfl,(Option.some.inj h).symm⟩
  ·rw[Pq e] at h
   exact .inr ⟨λz=>e z.symm,h⟩
 have old:∀c∈b::g',c∈rX ps∨(R c=none/\H0 c=none/\Off c σ Γ):=λc hc=>by
  rcases O7.mp hc with rfl | hc
  ·exact .inl bm
  ·exact(hg c hc).imp (λw=>cZ.mpr ⟨n,_,hn,O2 _ w⟩) id
 have YV:∀{c:Addr},Off c σ Γ->c∉(a::rX ps):=λh w=>h i _ hΓ w
 have apart:∀(m:Nat) (q:PT),m≠n->ps[m]?=some q->∀c∈b::g',c∉oX q:=λm q hm hq c hc w=>by
  rcases O7.mp hc with rfl | hc
  ·exact hm (k.dj m n q _ hq hn _ w O3)
  ·rcases hg c hc with z | z
   ·exact hm (k.dj m n q _ hq hn c w (O2 _ z))
   ·exact YV z.2.2 (O2 _ (cZ.mpr ⟨m,q,hq,w⟩))
 refine E.mS (en:=.ob (cu a (ps.set n (YM,b,g')))) hΓ (a:=b) (O2 _ bm) ⟨⟨.ref a,ea,rfl,?_,λm q hq=>?_,λm1 m2 q1 q2 h1 h2 c c1 c2=>?_⟩,λc hc=>?_⟩ λc hc=>?_
 ·rw[aB ab,k.hd]
  congr 2
  refine PX λm=>?_
  rw[O5,O5]
  by_cases e:n=m
  ·subst e
   rw[Pc nl,hn];rfl
  ·rw[Pq e]
 ·rcases sp m q hq with⟨_,rfl⟩ | ⟨hm,hq⟩
  ·refine⟨t,nd,λw=>?_⟩
   rcases O7.mp w with e | w
   ·exact ab e
   ·rcases hg a w with z | z
    ·exact(k.pt n _ hn).2.2 (O2 _ z)
    ·exact YV z.2.2 O3
  ·obtain⟨t1,t2,t3⟩:=k.pt m q hq
   exact⟨t1.loc λc hc=>aB λe=>apart m q hm hq b O3 (e▸hc),t2,t3⟩
 ·rcases sp m1 q1 h1 with⟨e1,rfl⟩ | ⟨hm1,h1⟩
  ·rcases sp m2 q2 h2 with⟨e2,rfl⟩ | ⟨WW,h2⟩
   ·rw[e1,e2]
   ·exact UJ c2 (apart m2 q2 WW h2 c c1)
  ·rcases sp m2 q2 h2 with⟨e2,rfl⟩ | ⟨WW,h2⟩
   ·exact UJ c1 (apart m1 q1 hm1 h1 c c2)
   ·exact k.dj m1 m2 q1 q2 h1 h2 c c1 c2
 ·rcases O7.mp hc with rfl | hc
  ·exact hR _ O3
  ·obtain⟨m,q,hq,hc⟩:=cZ.mp hc
   rcases sp m q hq with⟨_,rfl⟩ | ⟨_,hq⟩
   ·rcases old c hc with z | z
    ·exact hR _ (O2 _ z)
    ·exact z.1
   ·exact hR _ (O2 _ (cZ.mpr ⟨m,q,hq,hc⟩))
 ·rcases O7.mp hc with rfl | hc
  ·exact .inl O3
  ·obtain⟨m,q,hq,hc⟩:=cZ.mp hc
   rcases sp m q hq with⟨_,rfl⟩ | ⟨_,hq⟩
   ·exact(old c hc).imp (λw=>O2 _ w) λz=>z.2
   ·exact .inl (O2 _ (cZ.mpr ⟨m,q,hq,hc⟩))
theorem WS.KJ (i:Nat){WQ:List Stmt}(hΓ:Γ[i]?=some (.mu r []))(h:∀a,WS X WQ (Γ.set i (.ob (cu a []))) N T):WS X WQ Γ N T:=λσ H0 R0 H R E D dn dr=>by
 obtain⟨a,vs,ea,ha,hR,pp⟩:=E.ent i _ hΓ
 cases pp
 refine h a σ H0 R0 H R (E.tell hΓ (by rw[ea];exact⟨⟨_,rfl,rfl,ha,(λn p q=>by simp at q),(λn m p q h1=>by simp at h1)⟩,λb hb=>by rw[O0.mp hb];exact hR⟩) λb w=>?_) D dn dr
 have:b=a:=O0.mp w
 rw[this];exact bV.mpr ea
theorem FD (i:Nat){ap:Pos}{ys:List PV}(he:ib X e Γ (.lst ys) Γ1)(hΓ:Γ[i]?=some (.ob (cu a ps)))(hΓ1:Γ1[i]?=some (.ob (cu a ps)))(hz:ps.length<RE)(h:∀b g,N (Γ1.set i (.ob (cu a (ps++[(ys,b,g)])))))
 (hN:X.N[i]?=some x:=by rfl) (hv:autoParam (cC X.env.scope x) Vo)
 (hd:Vd x:=by decide) (U0:Vp x:=by decide)
 (VR:RN (.Call (.Attribute (.Name x p1) "append" ap) [e] [] cp) none pos.line X.env=pure false:=by rfl)
 (U2:RK (.Name x p1) "append" X.env (eval (.Name x p1) X.env)=eval (.Name x p1) X.env:=by rfl)
 (Vg:((RM cp (RC [e] X.env)).all (λx=> !x.1)&&(Sb cp (RX [] X.env)).all (λx=>x.1.isSome)
  &&decide ([e].length+([]:List RP).length+(if([]:List RP).isEmpty then 0 else 1)<30))=true:=by rfl)
 (U1:(ap.endLine==cp.line)=true:=by rfl) (hs:RC [e] X.env=(false,eval e X.env)::RC [] X.env:=by rfl):W1 X (.Expr (.Call (.Attribute (.Name x p1) "append" ap) [e] [] cp) pos) Γ N T:=λσ H0 R0 H R E D dn dr=>by
 obtain⟨⟨v0,ea,rfl,k0⟩,_⟩:=E.ent i _ hΓ
 refine sS (fz (gw Tw Tx Tz gL (bb hN hv hd U0) (aM aL bB hs) U2 Vg U1 hs rfl) VR) ?_
 refine⟨.ref a,at_of ea,.inl ⟨rfl,_,aU.of k0.hd⟩,he σ H0 R0 H R E _ λv ZF H1 R1 E1 s1 t nd kz=>?_⟩
 obtain⟨⟨v1,YL,rfl,k⟩,XB⟩:=E1.ent i _ hΓ1
 cases t with
 | @lst b vs _ g hb tt zz=>
 refine⟨a,_,.ref b,rfl,rfl,k.hd,by rw[OZ];exact hz,?_⟩
 have off:∀c∈b::g,c∉(a::rX ps):=λc hc w=>(kz c hc).2.2 i _ hΓ1 w
 have sp:∀(m:Nat) (q:PT),(ps++[(ys,b,g)])[m]?=some q->(m=ps.length/\q=(ys,b,g))∨(m<ps.length/\ps[m]?=some q):=λm q hq=>by
  rcases Q2 m ps.length with z | z
  ·rw[Pr z] at hq;exact .inr ⟨z,hq⟩
  ·rw[Pp z] at hq
   have:m-ps.length=0:=by
    have:=(OW.mp hq).1
    rw[Py] at this;omega
   rw[this] at hq
   exact .inl ⟨by omega,by simpa using hq.symm⟩
 have tb:dY (upd H1 a (.lst ((ps.map λp=>V.ref p.2.1)++[.ref b]))) (.ref b) (.lst ys) (b::g):=(dY.lst hb tt zz).loc λc hc=>aB λe=>off c hc (by rw[e];exact O3)
 refine dn σ _ R1 _ (E1.mS (en:=.ob (cu a (ps++[(ys,b,g)]))) hΓ1 (a:=a) O3 ⟨⟨.ref a,YL,rfl,?_,λm q hq=>?_,λm1 m2 q1 q2 h1 h2 c c1 c2=>?_⟩,λc hc=>?_⟩ λc hc=>?_) s1 (h b g)
 ·rw[aA,Ph];rfl
 ·rcases sp m q hq with⟨_,rfl⟩ | ⟨_,hq⟩
  ·exact⟨tb,nd,λw=>off a w O3⟩
  ·obtain⟨t1,t2,t3⟩:=k.pt m q hq
   exact⟨t1.loc λc hc=>aB λe=>t3 (e▸hc),t2,t3⟩
 ·rcases sp m1 q1 h1 with⟨e1,rfl⟩ | ⟨_,h1⟩
  ·rcases sp m2 q2 h2 with⟨e2,rfl⟩ | ⟨_,h2⟩
   ·rw[e1,e2]
   ·exact UJ (O2 _ (cZ.mpr ⟨m2,q2,h2,c2⟩)) (off c c1)
  ·rcases sp m2 q2 h2 with⟨e2,rfl⟩ | ⟨_,h2⟩
   ·exact UJ (O2 _ (cZ.mpr ⟨m1,q1,h1,c1⟩)) (off c c2)
   ·exact k.dj m1 m2 q1 q2 h1 h2 c c1 c2
 ·rcases O7.mp hc with rfl | hc
  ·exact XB _ O3
  ·obtain⟨m,q,hq,hc⟩:=cZ.mp hc
   rcases sp m q hq with⟨_,rfl⟩ | ⟨_,hq⟩
   ·exact(kz c hc).1
   ·exact XB _ (O2 _ (cZ.mpr ⟨m,q,hq,hc⟩))
 ·rcases O7.mp hc with rfl | hc
  ·exact .inl O3
  ·obtain⟨m,q,hq,hc⟩:=cZ.mp hc
   rcases sp m q hq with⟨_,rfl⟩ | ⟨_,hq⟩
   ·exact .inr (kz c hc).2
   ·exact .inl (O2 _ (cZ.mpr ⟨m,q,hq,hc⟩))
theorem zh (i j:Nat){y:Str}{b:Expr}{p p2:Pos}{k:Int}{q:PT}(hb:EV X b Γ ah k Γ1)(hΓ:Γ[i]?=some (.ob (cu a ps)))(hΓ1:Γ1[i]?=some (.ob (cu a ps)))(hk:fg ps.length k=some n)(hq:ps[n]?=some q)(h:N (Γ1.set j (.im jQ q.2.1)))
 (hNx:X.N[i]?=some x:=by rfl) (hv:autoParam (cC X.env.scope x) Vo)
 (hd:Vd x:=by decide) (U0:Vp x:=by decide) (Ye:eK b:=by exact λ_ _=>rfl)
 (hN:X.N.Nodup:=by first | assumption | decide) (hi:X.N[j]?=some y:=by rfl) (hx:autoParam (Loc X.env.scope y) Wv)
 (hs:RN (.Subscript (.Name x p) b p2) (some (.Name y p1)) pos.line X.env=pure false:=by rfl) (hf:autoParam (X.fn y=true∨X.env.scope.names.lookup y=some .local) Wu):
 W1 X (.Assign [.Name y p1] (.Subscript (.Name x p) b p2) pos) Γ N T:=λσ H0 R0 H R E D dn dr=>by
 obtain⟨⟨v,ea,rfl,k0⟩,hR⟩:=E.ent i _ hΓ
 refine sS (jv hN hi hx aL hs hf) (eS (iM ig (bb hNx hv hd U0) aL Ye) ⟨.ref a,at_of ea,hb σ H0 R0 H R E _ λu H2 R2 E2 s2 e2=>?_⟩)
 obtain⟨⟨v,Yx,rfl,k2⟩,XX⟩:=E2.ent i _ hΓ1
 refine⟨a,_,k,.ref q.2.1,rfl,e2,aU.of k2.hd,?_,?_⟩
 ·have e:(ps.map λp=>V.ref p.2.1)=(ps.map λp=>p.2.1).map V.ref:=by rw[PQ];rfl
  rw[e]
  exact AZ (by rw[OZ];exact hk) (by rw[O5,hq];rfl)
 exact dn _ H2 R2 _ (E2.set j (r:=jQ) (x:=q.2.1) rfl) s2 h
theorem BB (i j:Nat){y:Str}{p:Pos}{q0:PT}(hm:X.mg "len"=none)(hΓ:Γ[i]?=some (.ob (cu a ps)))(hj:Γ[j]?=some (.im jQ q0.2.1))(hq:ps[n]?=some q0)
 (hN:X.N[j]?=some y:=by rfl) (hv:autoParam (cC X.env.scope y) Vo) (hd:Vd y:=by decide) (U0:Vp y:=by decide)
 (hs:RC [.Name y p1] X.env=[(false,eval (.Name y p1) X.env)]:=by rfl) (hg:Gl X "len":=by rfl):EV X (.Call (.Name "len" p) [.Name y p1] [] pos) Γ ah (q0.1.length:Int) Γ:=λσ H0 R0 H R E Q q=>by
 obtain⟨⟨v,ea,rfl,k⟩,hR⟩:=E.ent i _ hΓ
 obtain⟨v0,e0,Xu⟩:=E.ent j _ hj
 cases Xu
 cases (k.pt n q0 hq).1 with
 | @lst _ vs _ _ hb tt zz=>
 refine eS (eh gY hg hm Sj (aM (bb hN hv hd U0) bB hs) (by decide) (by decide) hs) ⟨.ref q0.2.1,at_of e0,_,_,rfl,.inl (aU.of hb),?_⟩
 rw[tt.len]
 exact q _ H R E (av.refl _) rfl
theorem bO.ins {H:Hp}{v:V}{y:PV}{fy:OE}(h:dY H v y fy):∀(k:Nat) {vs:List V} {xs:List PV} {f:OE},bO H vs xs f->∃f1 f2,f=f1++f2/\bO H (bQ k v vs) (bQ k y xs) (f1++(fy++f2))
 | 0,vs,xs,f,t=>⟨[],f,rfl,(bO.cons h t:bO H (v::vs) (y::xs) (fy++f))⟩
 | k+1,_,_,_,.nil=>⟨[],[],rfl,(bO.cons h .nil:bO H [v] [y] (fy++[]))⟩
 | k+1,_,_,_,.cons (f:=f0) q t=>by
   obtain⟨f1,f2,e,t'⟩:=bO.ins h k t
   refine⟨f0++f1,f2,by rw[e,Pg],?_⟩
   rw[Pg]
   exact .cons q t'
theorem jY {α:Type}(y:α):∀(k:Nat) (xs:List α),(bQ k y xs).length=xs.length+1
 | 0,xs=>rfl
 | k+1,[]=>rfl
 | k+1,x::xs=>by show(bQ k y xs).length+1=_;rw[jY y k xs];rfl
theorem FF (i j:Nat){e1 e2:Expr}{ap:Pos}{q0:PT}{y:PV}{k:Int}(h1:EV X e1 Γ ah k Γ1)(h2:ib X e2 Γ1 y Γ2)(hΓ:Γ[i]?=some (.ob (cu a ps)))(hj:Γ[j]?=some (.im jQ q0.2.1))(hq:ps[n]?=some q0)(hΓ2:Γ2[i]?=some (.ob (cu a ps)))
 (k0:0<=k) (k1:k<=(q0.1.length:Int)) (hz:q0.1.length<RE) (h:∀g,N (Γ2.set i (.ob (cu a (ps.set n (bQ k.toNat y q0.1,q0.2.1,g))))))
 (hN:X.N[j]?=some x:=by rfl) (hv:autoParam (cC X.env.scope x) Vo)
 (hd:Vd x:=by decide) (U0:Vp x:=by decide)
 (VR:RN (.Call (.Attribute (.Name x p1) "insert" ap) [e1,e2] [] cp) none pos.line X.env=pure false:=by rfl)
 (U2:RK (.Name x p1) "insert" X.env (eval (.Name x p1) X.env)=eval (.Name x p1) X.env:=by rfl)
 (Vg:((RM cp (RC [e1,e2] X.env)).all (λx=> !x.1)&&(Sb cp (RX [] X.env)).all (λx=>x.1.isSome)
  &&decide ([e1,e2].length+([]:List RP).length+(if([]:List RP).isEmpty then 0 else 1)<30))=true:=by rfl)
 (U1:(ap.endLine==cp.line)=true:=by rfl) (hs:RC [e1,e2] X.env=(false,eval e1 X.env)::RC [e2] X.env:=by rfl) (Vv:RC [e2] X.env=(false,eval e2 X.env)::RC [] X.env:=by rfl) (Ve:(RM cp (RC [e2] X.env)).any (·.1)=false:=by rfl):
 W1 X (.Expr (.Call (.Attribute (.Name x p1) "insert" ap) [e1,e2] [] cp) pos) Γ N T:=λσ H0 R0 H R E D dn dr=>by
 obtain⟨⟨v,ea,rfl,kk⟩,hR⟩:=E.ent i _ hΓ
 obtain⟨v0,e0,Xu⟩:=E.ent j _ hj
 cases Xu
 obtain⟨ys,b,g⟩:=q0
 cases (kk.pt n _ hq).1 with
 | @lst _ YN _ _ Yr tt0 zz0=>
 refine sS (fz (gw Tw PySem.F.slot_list_insert PySem.F.type_list_insert zJ (bb hN hv hd U0) (aM aL (aM aL bB Vv) hs) U2 Vg U1 hs Ve) VR) ?_
 refine⟨.ref b,at_of e0,.inl ⟨rfl,_,aU.of Yr⟩,h1 σ H0 R0 H R E _ λv1 H1 R1 E1 s1 r1=>h2 σ H0 R0 H1 R1 E1 _ λv2 fy H2 R2 E2 s2 t2 ndy ky=>?_⟩
 cases r1
 obtain⟨⟨v,Yx,rfl,k2⟩,XX⟩:=E2.ent i _ hΓ2
 obtain⟨tq,ndq,naq⟩:=k2.pt n _ hq
 cases tq with
 | @lst _ vs _ _ hb tt zz=>
 obtain⟨nb,ndg⟩:=Pw.mp ndq
 refine⟨b,vs,k,v2,rfl,rfl,hb,k0,by rw[tt.len];exact k1,by rw[tt.len];exact hz,?_⟩
 have Wj:∀c∈fy,c∉b::g:=λc hc w=>(ky c hc).2.2 i _ hΓ2 (O2 _ (cZ.mpr ⟨n,_,hq,w⟩))
 obtain⟨f1,f2,ef,ti⟩:=bO.ins (t2.loc (H':=upd H2 b (.lst (bQ k.toNat v2 vs))) λc hc=>aB λe=>Wj c hc (by rw[e];exact O3)) k.toNat (tt.loc (H':=upd H2 b (.lst (bQ k.toNat v2 vs))) λc hc=>aB λe=>nb (e▸hc))
 have ef:g=f1++f2:=ef
 have nd':(f1++(fy++f2)).Nodup:=by
  rw[ef] at ndg
  obtain⟨n1,n2,n3⟩:=P6.mp ndg
  refine P6.mpr ⟨n1,P6.mpr ⟨ndy,n2,λc hc d hd e=>Wj c hc (by rw[e];exact O2 _ (by rw[ef];exact Pb _ hd))⟩,λc hc d hd e=>?_⟩
  rcases Pa.mp hd with hd | hd
  ·exact Wj d hd (by rw[← e];exact O2 _ (by rw[ef];exact Pj _ hc))
  ·exact n3 c hc d hd e
 refine dn σ _ R2 _ (E2.DB hΓ2 hq (.lst aA ti (by rw[jY];exact hz)) (Pw.mpr ⟨λw=>?_,nd'⟩) λc hc=>?_) (s1.trans s2) (h _)
 ·rcases Pa.mp w with w | w
  ·exact nb (by show b∈g;rw[ef];exact Pj _ w)
  ·rcases Pa.mp w with w | w
   ·exact Wj b w O3
   ·exact nb (by show b∈g;rw[ef];exact Pb _ w)
 ·rcases Pa.mp hc with w | w
  ·exact .inl (by rw[ef];exact Pj _ w)
  ·rcases Pa.mp w with w | w
   ·exact .inr (ky c w)
   ·exact .inl (by rw[ef];exact Pb _ w)
theorem tX {H:Hp}{K:Uk}:∀{ps:List PT},(∀p∈ps,dY H (.ref p.2.1) (.lst p.1) (oX p))->PySem.Paired ((ae aI).R K H) (ps.map λp=>V.ref p.2.1) (ps.map (·.1))
 | [],_=>.nil
 | p::ps,h=>.cons (by
    cases h p O3 with
    | @lst _ vs _ _ hb tt zz=>exact⟨_,vs,rfl,hb,tt.rG.pair,zz⟩) (tX λq hq=>h q (O2 _ hq))
theorem Ee {i:Nat}(hΓ:Γ[i]?=some (.ob (cu a ps)))(hz:ps.length<=RE)(σ:St)(H0 R0 H R:Hp)(E:au X.K σ H0 R0 H R Γ):au X.K σ H H H H ((Γ.map lV).set i (.im (ae (ae aI)) (ps.map (·.1)))):=by
 obtain⟨⟨v,ea,rfl,k⟩,_⟩:=E.ent i _ hΓ
 refine E.VP.j9 (i:=i) (e0:=.no) (by rw[O5,hΓ];rfl) ⟨_,ea,a,_,rfl,k.hd,tX λp hp=>?_,by rw[OZ];exact hz⟩ λb w=>by cases w
 obtain⟨n,hn⟩:=Pf.mp hp
 exact(k.pt n p hn).1
def Cm (K:Uk)(r:Rep α)(P:α->List (List PV)->Prop):RT:=λH0 v H' R'=>∃p v1 a y ps,v= .ref p/\R' p=some (.tup [v1,.ref a])/\r.R K R' v1 y/\IJ H' a ps/\(∀b∈a::rX ps,H0 b=none/\R' b=none)/\P y (ps.map (·.1))
theorem Gb (i:Nat){z:Str}{k:Nat}{tp:Pos}{y:α}{P:α->List (List PV)->Prop}(he:EV X e Γ r y Γ1)(hΓ1:Γ1[i]?=some (.ob (cu a ps)))(h:P y (ps.map (·.1)))(hN:X.N[i]?=some z:=by rfl)(hv:autoParam (cC X.env.scope z) Vo)
 (hd:Vd z:=by decide) (U0:Vp z:=by decide) (h1:RC [e,.Name z p1] X.env=(false,eval e X.env)::RC [.Name z p1] X.env:=by rfl) (h2:RC [.Name z p1] X.env=(false,eval (.Name z p1) X.env)::RC [] X.env:=by rfl):W1 X (.Return (some (.Tuple [e,.Name z p1] k tp)) pos) Γ N (Cm X.K r P):=λσ H0 R0 H R E D dn dr=>by
 refine sS (hU (vx (aM aL (aM (bb hN hv hd U0) bB h2) h1))) (he σ H0 R0 H R E _ λv H1 R1 E1 s1 e1=>?_)
 obtain⟨⟨v0,ea,rfl,kk⟩,hR⟩:=E1.ent i _ hΓ1
 refine⟨.ref a,at_of ea,by show 2<=RE;decide,λp hp=>?_⟩
 have x:=Ext.fresh E1.sub hp (.tup [v,.ref a])
 have E2:=E1.grow x
 have nep:∀b∈a::rX ps,b≠p:=λb hb e=>by
  have:=(cu a ps).has (K:=X.K) (R0:=R1) ⟨rfl,kk⟩ b hb
  rw[e,hp] at this
  exact this rfl
 refine dr _ _ _ E2.ext ⟨p,v,a,y,ps,rfl,aA,r.mono x.r e1,?_,λb hb=>⟨E1.nw i _ b hΓ1 hb,?_⟩,h⟩
 ·exact((cu a ps).loc (K:=X.K) (R0:=R1) (R':=R1) (λb hb=>aB (nep b hb)) (av.refl _) ⟨rfl,kk⟩).2
 ·rw[aB (nep b hb)];exact hR b hb
theorem EF (i1 i2:Nat){S:cP}{f x1 x2:Str}{k:Nat}{es:OG}{p p2 tp:Pos}{ps:List Pk}{P:α->List (List PV)->Prop}(C:aH X.prog X.w X.K X.mg X.base f n (aN S X.K))(hr:bI n X.A)(ha:HA X (e::es) Γ ps Γ1)(hS:S X.K ps (Cm X.K r P))(U9:i1≠i2)(h:∀a y qs,P y (qs.map (·.1))->N ((Γ1.set i1 (.im r y)).set i2 (.ob (cu a qs))))
 (hg:Gl X f:=by rfl) (VE:Vd f:=by decide) (he:RC (e::es) X.env=(false,eval e X.env)::RC es X.env:=by rfl) (Ve:(RM cp (RC es X.env)).any (·.1)=false:=by rfl)
 (hc:X.calm=true:=by rfl) (hN:X.N.Nodup:=by first | assumption | decide)
 (h1:X.N[i1]?=some x1:=by rfl) (l1:autoParam (Loc X.env.scope x1) Wv) (f1:autoParam (X.fn x1=true∨X.env.scope.names.lookup x1=some .local) Wu)
 (h2:X.N[i2]?=some x2:=by rfl) (l2:autoParam (Loc X.env.scope x2) Wv) (f2:autoParam (X.fn x2=true∨X.env.scope.names.lookup x2=some .local) Wu)
 (hs:SR [.Tuple [.Name x1 p1,.Name x2 p2] k tp] (.Call (.Name f p) (e::es) [] cp) pos.line X.env=pure false:=by rfl) (hw:SS [.Tuple [.Name x1 p1,.Name x2 p2] k tp] (.Call (.Name f p) (e::es) [] cp) X.env=pure none:=by rfl) (ho:(Sm [.Tuple [.Name x1 p1,.Name x2 p2] k tp] X.env).map (·.2)=[Sn (.Tuple [.Name x1 p1,.Name x2 p2] k tp) X.env]:=by rfl):W1 X (.Assign [.Tuple [.Name x1 p1,.Name x2 p2] k tp] (.Call (.Name f p) (e::es) [] cp) pos) Γ N T:=λσ H0 R0 H R E D dn dr=>by
 refine sS (u9 aL (Ac hc (lH (kS hN h1 l1 f1) (lH (kS hN h2 l2 f2) wI))) hs hw ho) ?_
 refine jz C hr ha hS E (λH1 R1 v H' R' E1 s1 xx t=>?_) hg VE he Ve
 obtain⟨q,v1,a,y,qs,rfl,hq,r1,kk,fr,hP⟩:=t
 have E2:=E1.grow xx
 refine⟨q,_,rfl,du.of (E2.sub _ _ hq),rfl,_,_,rfl,_,_,rfl,rfl,?_⟩
 refine dn _ H' R' _ (au.setG (E2.set i1 (r:=r) r1) i2 (en:=.ob (cu a qs)) ⟨⟨_,rfl,rfl,kk⟩,λb hb=>(fr b hb).2⟩ (λb hb=>E1.ext.h.free (fr b hb).1) λb hb j e hj qj w=>?_) (s1.trans xx.r) (h a y qs hP)
 rcases set_at qj with⟨rfl,rfl,_⟩ | ⟨hj1,q1⟩
 ·cases w
 ·rw[Pq (Rk hj1)] at w
  exact E1.off (fr b hb).1 j e q1 w
end
section
variable {X:Cx}{Γ Γ1 Γ2 Γ3:Ga}{α β γ δ:Type}{N:Ga->Prop}{T:RT}
end
section
variable {X:Cx}{tg:Expr}{x:Str}
def MI (x:Str):It:=⟨λi _=>i<x.cps.size,λi H v H'=>H'=H/\v= .str (ku x i),λi _=>x.cps.size<=i⟩
theorem Bu {P:RJ}{w:World}{K:Uk}(x:Str)(t:Tok)(it:Addr):Turn P w K tg (MI x) [it] it (λi h=>h.IsStrIter it "str_ascii_iterator" x t i) where
 mem:=by simp
 obj:=λi h st b hb=>by
  have e:b=it:=by simpa using hb
  subst e
  obtain⟨o,e,c,d⟩:=st
  exact⟨o,e,λv z=>by rw[d] at z;cases z⟩
 keep:=λi h h' st k=>by
  obtain⟨o,e,r⟩:=st
  exact⟨o,k it (by simp) o e,r⟩
 item:=by
  intro X hP hw hK hc i UT s σ H E I hf st hg
  subst hP hw hK
  obtain⟨f0,f1,f2,f3,f4,f5⟩:=hf it (by simp)
  have W:=Walks.strAscii (prog:=X.prog) (w:=X.w) (I.ok.hd hc) it x t
  refine W.item i s _ _ hg st λv h' tk hv Wr kk=>?_
  obtain⟨c,u,hx,rfl⟩:=hv
  have I1:Inv X UT σ H {s with heap:=h',toks:=tk}:=I.turned (λb o hb e=>kk b o (by simpa using hb) e) f0 f1 f3 f4 f5
  obtain⟨o,e,cc,d⟩:=id Wr
  have W4:ku x i=⟨#[c]⟩:=by unfold ku;rw[show x.cps.getD i 0=c by rw[Array.getD_eq_getD_getElem?,hx];rfl]
  exact⟨_,rfl,nk (s:={s with heap:=h',toks:=tk}) e cc d (by decide) ⟨.str (ku x i),H,I1,⟨u,by rw[W4]⟩,⟨rfl,rfl⟩,Wr,λb hb=>(hf b hb).1⟩⟩
 done:=by
  intro X hP hw hK hc i UT s σ H E I hf st hg
  subst hP hw hK
  obtain⟨f0,f1,f2,f3,f4,f5⟩:=hf it (by simp)
  exact wpAny_pyNext_ascii_end (I.ok.hd hc) st (by have:x.cps.size<=i:=hg;simp[this]) λh' eb=>⟨rfl,I.turned (t':=s.toks) (λb o hb e=>eb b o hb e) f0 f1 f3 f4 f5⟩
 self:=λ_ _ _ _ _ st h=>wpAny_pyIter_striter_ascii st h
def Oa (tl:TE):TI:=λσ H R=>tl σ H λx H1=>∃z:Str,x= .str z/\z.cps.all (· < 128)=true/\R (MI z) H1
theorem J9 {l:Expr}{tl:TE}(hl:PE X l tl):PI X tg l (Oa tl):=by
 intro UT s σ H R I h
 refine aT (hl UT s σ H _ I h) λv s1 ⟨x,H1,I1,r1,q1⟩=>?_
 obtain⟨z,e,ha,q⟩:=q1
 subst e
 obtain⟨t,rfl⟩:=r1
 refine wpAny_pyIter_ascii ha ?_
 refine⟨s1.heap.objs.size,[s1.heap.objs.size],_,_,H1,rfl,I1.kept (t':=s1.toks) λb o e=>TN _ e,Bu z t _,⟨_,TR _ rfl,rfl,rfl⟩,λb hb=>?_,q⟩
 have e:b=s1.heap.objs.size:=by simpa using hb
 subst e
 exact I1.gQ (QW _) (I1.UZ.fresh (QW _))
def gA (x:Str):OC:=(Pm x.cps.size).map (ku x)
theorem A3 {Γ Γ1:Ga}{a:Expr}(ha:EV X a Γ ag x Γ1)(hx:x.cps.all (· < 128)=true)(hz:x.cps.size<=RE):IV X tg a Γ ag (gA x) Γ1:=by
 refine⟨_,J9 aL,λσ H0 R0 H R E Rq q=>ha σ H0 R0 H R E _ λv H1 R1 E1 s1 e1=>?_⟩
 cases e1
 refine⟨x,rfl,hx,q _ H1 R1 E1 s1 (by unfold gA;rw[OZ,Qo];exact hz) λH' R' sR sH i=>⟨λy hy=>?_,λhi=>?_⟩⟩
 ·unfold gA at hy
  rw[O5] at hy
  obtain⟨j,hj,rfl⟩:=Rl.mp hy
  obtain⟨hl,e⟩:=OW.mp hj
  rw[Qo] at hl
  rw[List.getElem_range] at e
  subst e
  refine⟨hl,λv' H2 hy=>?_⟩
  obtain⟨rfl,rfl⟩:=hy
  exact⟨R',Ext.refl sH,rfl⟩
 ·unfold gA at hi
  rw[OZ,Qo] at hi
  exact hi
theorem tH {α:Type}(l:List α):∀m,m<=l.length->(Pm m).filterMap (l[·]?)=l.take m
 | 0,_=>rfl
 | m+1,h=>by
   rw[range_succ,List.filterMap_append,tH l m (by omega),PJ]
   simp[OX (show m<l.length by omega)]
def gC (x:Str):Str:=⟨(x.cps.toList.take 7).toArray⟩
theorem Nx:∀n,n<=8->Builtin.Str.strSliceIndices none (some 7) 1 n=Pm (min n 7):=by
 intro n hn
 have:∀j:Fin 9,Builtin.Str.strSliceIndices none (some 7) 1 j.val=Pm (min j.val 7):=by decide +kernel
 exact this ⟨n,by omega⟩
theorem K3 (hx:x.length<=8):((Pm (min x.length 7)).filterMap (x.cps[·]?)).toArray=(x.cps.toList.take 7).toArray:=by
 have hl:x.cps.toList.length=x.length:=by simp[Str.length]
 have e:(Pm (min x.length 7)).filterMap (x.cps[·]?)=(Pm (min x.length 7)).filterMap (x.cps.toList[·]?):=by
  congr 1
  funext i
  simp
 rw[e,tH _ _ (by omega)]
 congr 1
 by_cases h:x.length<=7
 ·rw[Nat.min_eq_left h,← hl,PK,Qm (by omega)]
 ·rw[Nat.min_eq_right (by omega)]
def Nz:V->Option Int->Option Int->Hp->VK->Prop:=λx lo hi H Q=>∃z:Str,x= .str z/\lo=none/\hi=some 7/\z.length<=8/\Q (.str (gC z)) H
theorem NH:z9 X Nz:=by
 intro UT s σ H x v vl vu lo hi sl Q I rx hs pl pu h
 obtain⟨z,rfl,rfl,rfl,hz,q⟩:=h
 obtain⟨t,rfl⟩:=rx
 cases pl
 cases pu with
 | int _ tu=>
   refine⟨"str",_,PySem.F.slot_str_getitem.lookup,SH _ _ _,wpAny_getItem_str_slice (l:=none) (u:=some (7,tu)) (st:=none) hs rfl ?_⟩
   have e:slicePicked z none (some (7,tu)) none=Pm (min z.length 7):=Nx z.length hz
   unfold sliceMade
   rw[e,Qo]
   split
   ·rename_i hh
    have hl:min z.length 7=z.length:=by simpa using hh
    have hp:gC z=z:=by
     unfold gC
     rw[Qm (by simp[Str.length] at hl ⊢;omega)]
    rw[hp] at q
    exact⟨.str z,H,I,⟨t,rfl⟩,q⟩
   ·rw[K3 hz]
    refine⟨?_,.str (gC z),H,I.tok _,⟨_,rfl⟩,q⟩
    show(List.take 7 z.cps.toList).toArray.size<=RE
    rw[O9,Pl]
    exact QX (Ra _ _) (by decide)
theorem JS {Γ:Ga}{a:Expr}{j:Nat}{p1 p2 pos:Pos}(ha:EV X a Γ ag x Γ)(hx:x.length<=8):EV X (.Subscript a (.Slice none (some (.Constant (.int 7) j p1)) none p2) pos) Γ ag (gC x) Γ:=by
 intro σ H0 R0 H R E Q q
 obtain⟨tl,pl,kl⟩:=(ov_none:OV X none Γ none)
 obtain⟨th,ph,kh⟩:=(ov_some ev_int:OV X (some (.Constant (.int 7) j p1)) Γ (some 7))
 refine eS (l6 NH aL pl ph) (ha σ H0 R0 H R E _ λv H1 R1 E1 s1 e1=>kl σ H0 R0 H1 R1 E1 _ λH2 R2 E2 s2=>kh σ H0 R0 H2 R2 E2 _ λH3 R3 E3 s3=>?_)
 cases e1
 exact⟨x,rfl,rfl,rfl,hx,q _ _ _ E3 (s1.trans (s2.trans s3)) rfl⟩
end
section
variable {X:Cx}{Γ Γ1 Γ2 Γ3:Ga}{α β γ δ:Type}{N:Ga->Prop}{T:RT}
variable {x:Str}
theorem uo:∀{ws:OC} {UW:OF},Vals (ws.map V.str) UW->∃l:List (Str×Tok),UW=S3 l/\l.map (·.1)=ws
 | [],_,.nil=>⟨[],rfl,rfl⟩
 | w::ws,_,.cons h t=>by
   obtain⟨k,rfl⟩:=h
   obtain⟨l,rfl,e⟩:=uo t
   exact⟨(w,k)::l,rfl,by rw[PH,e]⟩
theorem sM:∀(l:List (Str×Tok)),Vals ((l.map (·.1)).map V.str) (S3 l)
 | []=>.nil
 | (w,k)::l=>.cons ⟨k,rfl⟩ (sM l)
theorem F4:wJ X "str.join" (λx xs H Q=>∃(z:Str) (a:Addr) (ws:OC),x= .str z/\xs=[.ref a]/\H a=some (.lst (ws.map V.str))/\JoinOk z ws=true/\Q (.str (Txt.join z ws)) H):=by
 intro UT s σ H x xs v us Q I rx r h
 obtain⟨z,a,ws,rfl,rfl,hH,UZ,q⟩:=h
 obtain⟨t,rfl⟩:=rx
 obtain⟨u,rfl,ru⟩:=r.one
 cases ru
 obtain⟨hz,UW,n,r1,hl,e⟩:=I.lE hH
 obtain⟨l,rfl,el⟩:=uo r1
 exact PySem.SC.join ⟨_,e,rfl,_,rfl⟩ el UZ λt' k=>⟨.str _,H,I.tok _,⟨_,rfl⟩,q⟩
theorem zZ {y:Str}{t u:Tok}{prog:RJ}{w:World}{A:RL}{E:Value->RA->Prop}{s:RA}{Q:Value->RA->Prop}(hy:(y.length==0)=false)(hsz:x.length<=RE)(hsz2:(Ub x y).length<=RE)
 (hq:∀(l:List (Str×Tok)) (k:Nat) (n:Nat),l.map (·.1)=Ub x y->Q (.ref s.heap.objs.size) {s with toks:=k,heap:=s.heap.push {cls:=.type "list",data:=.seq (S3 l).toArray n}}):
 wpAny (model prog w) A (call (.builtin "str.split") [.str x t,.str y u]) Q E s:=by
 cases h1:(decide (x.length<y.length) ||decide (Builtin.Str.strKind x<Builtin.Str.strKind y))
 ·cases hf:(Tr x y 0 x.length (x.length+1)).isEmpty
  ·have es:Ub x y=Builtin.Str.partsBetween x (Tr x y 0 x.length (x.length+1)) y.length:=(UK (ne_true_of_eq_false h1)).trans (UK (ne_true_of_eq_false hf))
   refine Sq TL (SH _ _ _) TK (TJ _ _) (meets_str_split_sep x y t u h1 hy hf hsz (by rw[← es];exact hsz2)) ?_
   show wants Q E _ {s with toks:=_,heap:=s.heap.push {cls:=.type "list",data:=.seq (strsFrom s.toks (Builtin.Str.partsBetween x (Tr x y 0 x.length (x.length+1)) y.length)).toArray}}
   rw[strsFrom_eq]
   exact hq (numbered s.toks _) _ _ ((numbered_texts _ _).trans es.symm)
  ·exact Sq TL (SH _ _ _) TK (TJ _ _) (meets_str_split_not_found x y t u h1 hy hf)
    (hq [(x,t)] s.toks _ ((UK (ne_true_of_eq_false h1)).trans (UL hf)).symm)
 ·exact Sq TL (SH _ _ _) TK (TJ _ _) (meets_str_split_cannot_occur x y t u h1)
   (hq [(x,t)] s.toks _ (UL h1).symm)
theorem B7:wJ X "str.split" (λx xs H Q=>∃z y:Str,x= .str z/\xs=[.str y]/\(y.length==0)=false/\z.length<=RE/\(Ub z y).length<=RE/\∀a,H a=none->Q (.ref a) (upd H a (.lst ((Ub z y).map V.str)))):=by
 intro UT s σ H x xs v us Q I rx r h
 obtain⟨z,y,rfl,rfl,hy,hz,Y3,q⟩:=h
 obtain⟨t,rfl⟩:=rx
 obtain⟨u,rfl,ru⟩:=r.one
 obtain⟨tu,rfl⟩:=ru
 refine zZ hy hz Y3 λl k n el=>?_
 have I1:Inv X UT σ H {s with toks:=k,heap:=s.heap.push {cls:=.type "list",data:=.seq (S3 l).toArray n}}:=I.kept (t':=k) λb o e=>TN _ e
 have hn:H s.heap.objs.size=none:=I.fresh
 refine⟨.ref s.heap.objs.size,_,adopt (o:=.lst ((Ub z y).map V.str)) I1 (I.gQ (QW _) hn) I.sz ⟨?_,S3 l,n,?_,TR _ rfl⟩,rfl,q _ hn⟩
 ·rw[OZ];exact Y3
 ·rw[← el];exact sM l
theorem EU {a e:Expr}{ap cp:Pos}{ws:OC}(ha:EV X a Γ ag x Γ1)(he:EV X e Γ1 (ae ag) ws Γ2)(UZ:JoinOk x ws=true)
 (U2:RK a "join" X.env (eval a X.env)=eval a X.env:=by rfl)
 (Vg:((RM cp (RC [e] X.env)).all (λx=> !x.1)&&(Sb cp (RX [] X.env)).all (λx=>x.1.isSome)
  &&decide ([e].length+([]:List RP).length+(if([]:List RP).isEmpty then 0 else 1)<30))=true:=by rfl)
 (U1:(ap.endLine==cp.line)=true:=by rfl) (hs:RC [e] X.env=(false,eval e X.env)::RC [] X.env:=by rfl):EV X (.Call (.Attribute a "join" ap) [e] [] cp) Γ ag (Txt.join x ws) Γ2:=by
 intro σ H0 R0 H R E Q q
 refine eS (gw PySem.F.plainAttrs_str PySem.F.slot_str_join PySem.F.type_str_join F4 aL (aM aL bB hs) U2 Vg U1 hs rfl) (ha σ H0 R0 H R E _ λv H1 R1 E1 s1 e1=>?_)
 cases e1
 refine⟨rfl,he σ H0 R0 H1 R1 E1 _ λu H2 R2 E2 s2 e2=>?_⟩
 obtain⟨b,vs,rfl,hb,pp,hz⟩:=e2
 have ev:=kZ pp
 subst ev
 exact⟨x,b,ws,rfl,rfl,E2.sub _ _ hb,UZ,q _ H2 R2 E2 (s1.trans s2) rfl⟩
theorem nR {K:Uk}{R:Hp}:∀ws:OC,PySem.Paired (ag.R K R) (ws.map V.str) ws
 | []=>.nil
 | _::r=>.cons rfl (nR r)
theorem Bc {a e:Expr}{ap cp:Pos}{y:Str}(ha:EV X a Γ ag x Γ1)(he:EV X e Γ1 ag y Γ2)(hy:(y.length==0)=false)(hz:x.length<=RE)(Y3:(Ub x y).length<=RE)
 (U2:RK a "split" X.env (eval a X.env)=eval a X.env:=by rfl)
 (Vg:((RM cp (RC [e] X.env)).all (λx=> !x.1)&&(Sb cp (RX [] X.env)).all (λx=>x.1.isSome)
  &&decide ([e].length+([]:List RP).length+(if([]:List RP).isEmpty then 0 else 1)<30))=true:=by rfl)
 (U1:(ap.endLine==cp.line)=true:=by rfl) (hs:RC [e] X.env=(false,eval e X.env)::RC [] X.env:=by rfl):aZ X (.Call (.Attribute a "split" ap) [e] [] cp) Γ ag (Ub x y) Γ2:=by
 intro σ H0 R0 H R E Q q
 refine eS (gw PySem.F.plainAttrs_str PySem.F.slot_str_split PySem.F.type_str_split B7 aL (aM aL bB hs) U2 Vg U1 hs rfl) (ha σ H0 R0 H R E _ λv H1 R1 E1 s1 e1=>?_)
 cases e1
 refine⟨rfl,he σ H0 R0 H1 R1 E1 _ λu H2 R2 E2 s2 e2=>?_⟩
 cases e2
 exact⟨x,y,rfl,rfl,hy,hz,Y3,λd hd=>q d _ _ R2 (E2.grow (Ext.dJ E2.sub hd _)) (s1.trans s2) aA (E2.sub.free hd) (E2.ext.h.free hd) (E2.off hd) (nR _) Y3⟩
end
section
variable {K:Uk}{R:Hp}
theorem vC {c:Nat}:∀{a b x y:List Nat},c∉a->c∉b->a++c::x=b++c::y->a=b/\x=y
 | [],[],_,_,_,_,h=>⟨rfl,(List.cons.inj h).2⟩
 | [],d::b,_,_,_,hb,h=>UJ (List.cons.inj h).1 (λe=>hb (e▸O3))
 | d::a,[],_,_,ha,_,h=>UJ (List.cons.inj h).1 (λe=>ha (e▸O3))
 | d::a,e::b,x,y,ha,hb,h=>by
   obtain⟨h1,h2⟩:=List.cons.inj h
   obtain⟨q1,q2⟩:=vC (λz=>ha (O2 _ z)) (λz=>hb (O2 _ z)) h2
   exact⟨by rw[h1,q1],q2⟩
theorem uG {c:Nat}{a b y:List Nat}(ha:c∉a)(h:a=b++c::y):False:=ha (by rw[h];exact Pb _ O3)
theorem wx (x y:Str):(x++y).cps.toList=x.cps.toList++y.cps.toList:=by show(x.cps++y.cps).toList=_;simp
theorem lU (c:Nat)(x y:Str)(r:OC):(T9 ⟨#[c]⟩ (x::y::r)).cps.toList=x.cps.toList++c::(T9 ⟨#[c]⟩ (y::r)).cps.toList:=by
 rw[T9,wx,wx]
 simp
 intro h;cases h
theorem vY {x y:Str}(h:x.cps.toList=y.cps.toList):x=y:=by
 cases x;cases y
 congr 1
 exact Array.toList_inj.mp h
theorem sZ {c:Nat}:∀{ws us:OC},ws≠[]->us≠[]->(∀w∈ws,c∉w.cps.toList)->(∀u∈us,c∉u.cps.toList)->(T9 ⟨#[c]⟩ ws).cps.toList=(T9 ⟨#[c]⟩ us).cps.toList->ws=us
 | [],_,h,_,_,_,_=>UJ rfl h
 | _,[],_,h,_,_,_=>UJ rfl h
 | [x],[y],_,_,_,_,h=>by rw[show x=y from vY h]
 | [x],y::z::r,_,_,hx,_,h=>by
   rw[lU] at h
   exact UJ h λh=>uG (hx x O3) h
 | x::z::r,[y],_,_,_,hy,h=>by
   rw[lU] at h
   exact UJ h.symm λh=>uG (hy y O3) h
 | x::x2::r,y::y2::q,_,_,hx,hy,h=>by
   rw[lU,lU] at h
   obtain⟨h1,h2⟩:=vC (hx x O3) (hy y O3) h
   rw[vY h1,sZ (List.cons_ne_nil _ _) (List.cons_ne_nil _ _) (λw hw=>hx w (O2 _ hw)) (λw hw=>hy w (O2 _ hw)) h2]
theorem yC {c:Nat}{ws:OC}(h:ws≠[])(hf:∀w∈ws,c∉w.cps.toList):Ub (T9 ⟨#[c]⟩ ws) ⟨#[c]⟩=ws:=by
 refine sZ (c:=c) (λe=>?_) h (StrLaws.split_free _ c) hf (by rw[StrLaws.join_split])
 have:=split_pos (T9 ⟨#[c]⟩ ws) ⟨#[c]⟩
 rw[e] at this
 exact UJ this (by decide)
theorem B4:(" ":Str)=⟨#[32]⟩:=by decide +kernel
theorem w6 (x:Str)(ws:OC):Txt.join x ws=T9 x ws:=StrLaws.glued_eq_join x ws
def Rep.at_ {α:Type}(r:Rep α)(y:α):Rep Unit:=⟨λK R v _=>r.R K R v y,λs h=>r.mono s h⟩
abbrev jD:=List (Str×Rep Unit)
abbrev fU (fs:jD)(K:Uk)(R:Hp)(vs:List (Str×V)):Prop:=PySem.Paired (λ(z:Str×V) (f:Str×Rep Unit)=>z.1=f.1/\f.2.R K R z.2 ()) vs fs
theorem fU.mono {fs:jD}{R':Hp}{vs:List (Str×V)}(s:av R R')(h:fU fs K R vs):fU fs K R' vs:=Paired.map (λ_ f ⟨a,b⟩=>⟨a,f.2.mono s b⟩) h
def nZ:jD->Str->Option (Rep Unit)
 | [],_=>none
 | (g,x)::r,f=>if g=f then some x else nZ r f
theorem fU.get {f:Str}{r:Rep Unit}:∀{fs:jD} {vs:List (Str×V)},fU fs K R vs->nZ fs f=some r->∃v,vs.lookup f=some v/\r.R K R v ()
 | _,_,.nil,h=>by cases h
 | _,_,.cons (a:=z) (b:=p) h t,hg=>by
   obtain⟨g,x⟩:=p
   obtain⟨g',v⟩:=z
   obtain⟨e,hv⟩:=h
   have e:g'=g:=e
   subst e
   rw[nZ] at hg
   rw[Qa]
   by_cases q:g'=f
   ·rw[UL q] at hg;cases hg;subst q
    exact⟨v,by simp,hv⟩
   ·rw[UK q] at hg
    rw[show(f==g')=false from beq_eq_false_iff_ne.mpr λz=>q z.symm]
    exact fU.get t hg
theorem fU.put {f:Str}{r:Rep Unit}{v:V}(hv:r.R K R v ()):∀{fs:jD} {vs:List (Str×V)},fU fs K R vs->nZ fs f=none->fU (fs++[(f,r)]) K R (fC f v vs)
 | _,_,.nil,_=>.cons ⟨rfl,hv⟩ .nil
 | _,_,.cons (a:=z) (b:=p) h t,hg=>by
   obtain⟨g,x⟩:=p
   obtain⟨g',u⟩:=z
   obtain⟨e,hu⟩:=h
   have e:g'=g:=e
   subst e
   rw[nZ] at hg
   rw[fC]
   by_cases q:g'=f
   ·rw[UL q] at hg;cases hg
   ·rw[UK q] at hg ⊢
    exact .cons ⟨rfl,hu⟩ (fU.put hv t hg)
def gx (C:Addr):LK jD where
 bx l fs:=⟨l,λK H R v=>∃x dx vs,l=[x,dx]/\v= .ref x/\H x=some (.ins C dx vs)/\H dx=some (.own x)/\fU fs K R vs/\x≠dx,λ{K H R0 H' R' v} e s ⟨x,dx,vs,el,ev,h1,h2,h3,nd⟩=>by
  subst el
  exact⟨x,dx,vs,rfl,ev,(e x (by simp)).trans h1,(e dx (by simp)).trans h2,h3.mono s,nd⟩,λ{K H R0 v} ⟨x,dx,vs,el,ev,h1,h2,h3,nd⟩ a ha=>by
  subst el
  rcases O7.mp ha with rfl | ha
  ·rw[h1];exact Rm _
  ·rw[O0.mp ha,h2];exact Rm _⟩
 fp:=λ_ _=>rfl
 at_:=λ⟨x,dx,vs,el,ev,_⟩=>⟨x,[dx],el,ev⟩
end
section
variable {X:Cx}{Γ Γ1 Γ2 Γ3:Ga}{α β γ δ:Type}{N:Ga->Prop}{T:RT}
theorem AM {C x dx:Addr}{fs:jD}{K:Uk}{H R:Hp}{o:Option V}(h:(Ent.ob ((gx C).bx [x,dx] fs)).ok K H R o):o=some (.ref x)/\tF R [x,dx]/\∃vs,H x=some (.ins C dx vs)/\H dx=some (.own x)/\fU fs K R vs/\x≠dx:=by
 obtain⟨e,hB,hR⟩:=yS (B:=gx C) h
 obtain⟨x',dx',vs,el,ev,h1,h2,h3,nd⟩:=hB
 cases el
 exact⟨e,hR,vs,h1,h2,h3,nd⟩
theorem lQ (i:Nat){m f:Str}{p1 pos:Pos}{C x dx:Addr}{fs:jD}{r:Rep α}{y:α}{ns:OC}(hC:bF X.K C ns)(hf:f∈ns)(hΓ:Γ[i]?=some (.ob ((gx C).bx [x,dx] fs)))(h:nZ fs f=some (r.at_ y))(hN:X.N[i]?=some m:=by rfl)(hv:autoParam (cC X.env.scope m) Vo)
 (hd:Vd m:=by decide) (U0:Vp m:=by decide) (hb:RK (.Name m p1) f X.env (eval (.Name m p1) X.env)=eval (.Name m p1) X.env:=by rfl):EV X (.Attribute (.Name m p1) f pos) Γ r y Γ:=λσ H0 R0 H R E Q q=>by
 obtain⟨ea,hR,vs,h1,h2,h3,nd⟩:=AM (E.ent i _ hΓ)
 obtain⟨v,hl,WA⟩:=h3.get h
 exact eS (tw (bb hN hv hd U0) hb) ⟨.ref x,at_of ea,x,C,dx,vs,v,rfl,h1,hC.cl,hC.no f hf,hl,q v H R E (av.refl _) WA⟩
theorem g0 (i:Nat){m f:Str}{e:Expr}{p1 ap pos:Pos}{C x dx:Addr}{fs:jD}{ns:OC}{r:Rep α}{y:α}(hC:bF X.K C ns)(hf:f∈ns)(he:EV X e Γ r y Γ1)(hΓ1:Γ1[i]?=some (.ob ((gx C).bx [x,dx] fs)))(h:nZ fs f=none)(hz:fs.length<1000)(hn:N (Γ1.set i (.ob ((gx C).bx [x,dx] (fs++[(f,r.at_ y)])))))
 (hN:X.N[i]?=some m:=by rfl) (hv:autoParam (cC X.env.scope m) Vo) (hd:Vd m:=by decide) (U0:Vp m:=by decide)
 (VR:RN e (some (.Attribute (.Name m p1) f ap)) pos.line X.env=pure false:=by rfl):W1 X (.Assign [.Attribute (.Name m p1) f ap] e pos) Γ N T:=λσ H0 R0 H R E D dn dr=>
 sS (Ih (bb hN hv hd U0) aL VR) (he σ H0 R0 H R E _ λv H1 R1 E1 s1 e1=>by
  obtain⟨ea,hR,vs,h1,h2,h3,nd⟩:=AM (E1.ent i _ hΓ1)
  refine⟨.ref x,at_of ea,x,C,dx,vs,rfl,h1,hC.cl,hC.no f hf,by rw[h3.length];exact hz,?_⟩
  refine dn σ _ R1 _ (E1.mS (en:=.ob ((gx C).bx [x,dx] (fs++[(f,r.at_ y)]))) hΓ1 (a:=x) (by show x∈[x,dx];simp) ?_ λb hb=>.inl hb) s1 hn
  rw[ea]
  exact za (B:=gx C) ⟨x,dx,_,rfl,rfl,aA,by rw[aB (Rk nd)];exact h2,fU.put (r:=r.at_ y) e1 h3 h,nd⟩ hR)
abbrev AH:=Uk->Addr->List Pk->(jD->Prop)->Prop
def wX (S:AH)(K:Uk):Sp:=λvs H Q _=>∃R x dx C Vn ps Pd,vs= .ref x::Vn/\av R H/\tF R [x,dx]/\((gx C).bx [x,dx] []).R K H R (.ref x)/\j4 K R Vn ps/\S K C ps Pd/\
 ∀H' R' fs,Ext (mW H [x,dx]) R H' R'->((gx C).bx [x,dx] fs).R K H' R' (.ref x)->tF R' [x,dx]->Pd fs->Q .U8 H'
variable {P:RJ}{w:World}{K:Uk}{mg:Oz}{base:Heap}
theorem y8 {S:AH}{x qual:Str}{st:Stmt}{f:Addr}{fd:RO}{N ps:OC}{k:Nat}(F:dU K x qual st f fd)(Sc:aF N ps (ai st))(len:∀C qs Pd,S K C qs Pd->qs.length+1=ps.length)
 (Vc:∀(UX:Value) (A:RL) (outer:List Env) (s:RA) (H:Hp) (E:XK) (C a dx:Addr) (qs:List Pk) (Pd:jD->Prop),bI k (A.deeper (Ru qual (ai st) s.heap.objs.size f UX))->S K C qs Pd->
  WS (eI d6 P w K mg base N qual (ai st) f UX A outer s H E).h9 (bw st) (.ob ((gx C).bx [a,dx] [])::eo qs (N.length-1)) (λΓ=>∃fs,Γ[0]?=some (.ob ((gx C).bx [a,dx] fs))/\Pd fs) (λ_ _ _ _=>False)):dW P w K mg base d6 (k+1) f fd ps (wX S K):=by
 refine F.ok Sc (λvs H Q E h=>?_) (λUX A outer s H vs Q E hr h=>?_)
 ·obtain⟨R,a,dx,C,Vn,qs,Pd,rfl,_,_,_,p,hS,_⟩:=h
  rw[O8,p.length];exact len C qs Pd hS
 ·obtain⟨R,a,dx,C,Vn,qs,Pd,rfl,sR,hR,hB,p,hS,q⟩:=h
  have hl:qs.length+1<=N.length:=by
   rw[len C qs Pd hS]
   have:=congrArg List.length Sc.pre
   rw[Pl] at this
   omega
  refine⟨_,i9,Vc UX A outer s H E C a dx qs Pd hr hS (L2.start N (.ref a::Vn)) (mW H [a,dx]) R H R (xW (B:=gx C) sR hR hB p hl) {nx:=λ_ H'=>Q .U8 H',rt:=Q} (λσ' H' R' Γ' E' _ ⟨fs,hΓ,t⟩=>?_) λv H' R' xx t=>t.elim⟩
  obtain⟨ea,hB',Vw⟩:=yS (B:=gx C) (E'.ent 0 _ hΓ)
  exact q H' R' fs E'.ext hB' Vw t
theorem wL {S:AH}{c:Str}{k:Nat}{e:Expr}{es:OG}{p pos:Pos}{ps:List Pk}{Pd:jD->Prop}{C f:Addr}{fd:RO}{pn:OC}{rr:Rep α}{z:α}(M:Mk X.K C f)(F:dW X.prog X.w X.K X.mg X.base d6 k f fd pn (wX S X.K))(hr:bI (k+1) X.A)(hm:X.mg c=some (.ref C))(hb:Binds X.K fd pn [])(ha:HA X (e::es) Γ ps Γ1)(hS:S X.K C ps Pd)
 (hz:∀(fs:jD) (R:Hp) (x dx:Addr) (vs:List (Str×V)),Pd fs->fU fs X.K R vs->R x=some (.ins C dx vs)->rr.R X.K R (.ref x) z)
 (hg:Gl X c:=by rfl) (VE:Vd c:=by decide) (he:RC (e::es) X.env=(false,eval e X.env)::RC es X.env:=by rfl) (Ve:(RM pos (RC es X.env)).any (·.1)=false:=by rfl):
 EV X (.Call (.Name c p) (e::es) [] pos) Γ rr z Γ1:=λσ H0 R0 H R E Q q=>
 eS (FQ M F hr hg hm hb .nil sv mf VE he Ve) (ha σ H0 R0 H R E _ λvs H1 R1 E1 s1 p1 x dx hx hdx U9=>by
  have hd1:∀b,mW (upd (upd H1 dx (.own x)) x (.ins C dx [])) [x,dx] b=H1 b:=λb=>by
   by_cases hb:b∈[x,dx]
   ·rw[qu hb]
    rcases O7.mp hb with rfl | hb
    ·exact hx.symm
    ·rw[O0.mp hb];exact hdx.symm
   ·rw[t7 hb]
    simp at hb
    rw[aB hb.1,aB hb.2]
  have hR:tF R1 [x,dx]:=λb hb=>by
   rcases O7.mp hb with rfl | hb
   ·exact E1.sub.free hx
   ·rw[O0.mp hb];exact E1.sub.free hdx
  refine⟨R1,x,dx,C,vs,ps,Pd,by rw[Px],λb o q=>?_,hR,⟨x,dx,[],rfl,rfl,aA,by rw[aB U9,aA],.nil,Rk U9⟩,p1,hS,λH' R' fs xx hB Vw hP=>⟨rfl,?_⟩⟩
  ·have b1:b≠x:=λe=>by rw[e,hR x (by simp)] at q;cases q
   have b2:b≠dx:=λe=>by rw[e,hR dx (by simp)] at q;cases q
   rw[aB b1,aB b2];exact E1.sub b o q
  ·rw[show mW (upd (upd H1 dx (.own x)) x (.ins C dx [])) [x,dx]=H1 from funext hd1] at xx
   obtain⟨x',dx',ws,el,ev,h1,h2,h3,nd⟩:=hB
   cases el
   have E2:=E1.grow xx
   have E3:=E2.sy h2 (Vw dx (by simp)) (E1.ext.h.free hdx) (E1.off hdx)
   have sd:av R' (upd R' dx (.own x)):=av.fresh (Vw dx (by simp)) _
   have hRx:upd R' dx (.own x) x=none:=by rw[aB nd];exact Vw x (by simp)
   have E4:=E3.sy h1 hRx (E1.ext.h.free hx) (E1.off hx)
   have sx:=sd.trans (av.fresh hRx (.ins C dx ws))
   exact q (.ref x) H' _ E4 ((s1.trans xx.r).trans sx) (hz fs _ x dx ws hP (h3.mono sx) aA))
theorem jf {e:Expr}{f:Str}{pos:Pos}{C:Addr}{ns:OC}{rr:Rep α}{z:α}{r:Rep β}{y:β}(hC:bF X.K C ns)(hf:f∈ns)(he:EV X e Γ rr z Γ1)
 (hz:∀(K:Uk) (R:Hp) (v:V),rr.R K R v z->∃x dx vs u,v= .ref x/\R x=some (.ins C dx vs)/\vs.lookup f=some u/\r.R K R u y) (hb:RK e f X.env (eval e X.env)=eval e X.env:=by rfl):EV X (.Attribute e f pos) Γ r y Γ1:=λσ H0 R0 H R E Q q=>
 eS (tw aL hb) (he σ H0 R0 H R E _ λv H1 R1 E1 s1 e1=>by
  obtain⟨x,dx,vs,u,rfl,h1,h2,h3⟩:=hz _ _ _ e1
  exact⟨x,C,dx,vs,u,rfl,E1.sub _ _ h1,hC.cl,hC.no f hf,h2,q u H1 R1 E1 s1 h3⟩)
end
section
variable {X:Cx}{Γ Γ1 Γ2 Γ3:Ga}{α β γ δ:Type}{N:Ga->Prop}{T:RT}
variable {e:Expr}{r:Rep α}{x:Str}
theorem mF {pos:Pos}{y:α}(he:EV X e Γ r y Γ1)(h:N Γ1)(VR:RN e none pos.line X.env=pure false:=by rfl):W1 X (.Expr e pos) Γ N T:=λσ H0 R0 H R E D dn dr=>
 sS (fz aL VR) (he σ H0 R0 H R E _ λv H1 R1 E1 s1 e1=>dn σ H1 R1 _ E1 s1 h)
theorem yR (i:Nat){p1 pos:Pos}{a c:Int}(he:EV X e Γ ah c Γ)(hΓ:Γ[i]?=some (.im ah a))(h:N (Γ.set i (.im ah (a+c))))
 (hN:X.N.Nodup:=by first | assumption | decide) (hi:X.N[i]?=some x:=by rfl) (hx:autoParam (Loc X.env.scope x) Wv)
 (hf:autoParam (X.fn x=true∨X.env.scope.names.lookup x=some .local) Wu):
 W1 X (.AugAssign (.Name x p1) .Add e pos) Γ N T:=λσ H0 R0 H R E D dn dr=>by
 obtain⟨v,ea,hr⟩:=E.ent i _ hΓ
 cases (show v=V.int a from hr)
 refine sS (GR hN hi hx aL Gr hf) ⟨.int a,at_of ea,he σ H0 R0 H R E _ λu H2 R2 E2 s2 e2=>?_⟩
 cases (show u=V.int c from e2)
 exact⟨a,c,rfl,rfl,dn _ H2 R2 _ (E2.set i (r:=ah) (x:=a+c) rfl) s2 h⟩
theorem Gj {i j:Nat}{r':Rep β}{xs:List α}{ys:List β}(Zp:i≠j)(hΓ:Γ[i]?=some (.mu r xs))(hj:Γ[j]?=some (.mu r' ys))(hz:xs.length<=RE)(WT:ys.length<=RE)(σ:St)(H0 R0 H R:Hp)(E:au X.K σ H0 R0 H R Γ):au X.K σ H H H H (((Γ.map lV).set i (.im (ae r) xs)).set j (.im (ae r') ys)):=by
 obtain⟨a,vs,ea,ha,hR,pp⟩:=E.ent i _ hΓ
 obtain⟨b,ws,eb,hb,hRb,pq⟩:=E.ent j _ hj
 have E1:=E.VP.j9 (i:=i) (e0:=.no) (en:=.im (ae r) xs) (by rw[O5,hΓ];rfl) ⟨.ref a,ea,a,vs,rfl,ha,Paired.map (λ_ _=>r.mono E.sub) pp,hz⟩ λb w=>by cases w
 exact E1.j9 (i:=j) (e0:=.no) (by rw[Pq Zp,O5,hj];rfl) ⟨.ref b,eb,b,ws,rfl,hb,Paired.map (λ_ _=>r'.mono E.sub) pq,WT⟩ λb w=>by cases w
theorem z6:dQ X (RR .LtE) (λx y H Q=>∃i j,x= .str i/\y= .str j/\Q (.bl (!decide (j.cps.toList<i.cps.toList))) H):=by
 intro UT s σ H x y v u Q I rx ry h
 obtain⟨i,j,rfl,rfl,q⟩:=h
 obtain⟨t,rfl⟩:=rx
 obtain⟨t',rfl⟩:=ry
 exact PySem.P.le_str (bH I q rfl)
theorem Dm {y:Str}:gJ X .LtE ag ag x y (!decide (y.cps.toList<x.cps.toList)):=⟨_,z6,λR H v u Q _ e1 e2 q=>by
 cases e1;cases e2
 exact⟨x,y,rfl,rfl,q⟩⟩
theorem AE {xs:OC}:gJ X .NotIn ag (ae ag) x xs (!decide (x∈xs)):=⟨_,uT,λR H v u Q s e1 e2 q=>by
 cases e1
 obtain⟨a,vs,rfl,hq,p,_⟩:=e2
 have e:=kZ p
 subst e
 exact⟨a,_,rfl,.inl (aU.of (s _ _ hq)),rfl,kf xs,by rw[UL rfl,l7];exact q⟩⟩
theorem tO {xs:List α}(h:EV X e Γ (ae r) xs Γ1)(he:∀whole,Su e X.env whole=(do let v ← whole;SM e.pos;Si [v] (truthy v)):=by intro _;rfl):TV X e Γ (!xs.isEmpty) Γ1:=by
 intro σ H0 R0 H R E Q q
 refine tS (tG aL he) (h σ H0 R0 H R E _ λv H1 R1 E1 s1 e1=>?_)
 obtain⟨a,vs,rfl,ha,pp,_⟩:=e1
 refine⟨!xs.isEmpty,.inl ⟨vs,aU.of (E1.sub _ _ ha),?_⟩,q H1 R1 E1 s1⟩
 cases pp<;>rfl
end
section
variable {X:Cx}{Γ Γ1 Γ2 Γ3:Ga}{α β γ δ:Type}{N:Ga->Prop}{T:RT}
theorem qE (i:Nat){x:Str}{p1 p2 pos:Pos}(h:N (Γ.set i (.di [])))
 (hN:X.N.Nodup:=by first | assumption | decide) (hi:X.N[i]?=some x:=by rfl) (hx:autoParam (Loc X.env.scope x) Wv)
 (hs:RN (.Dict [] [] p2) (some (.Name x p1)) pos.line X.env=pure false:=by rfl) (hf:autoParam (X.fn x=true∨X.env.scope.names.lookup x=some .local) Wu):
 W1 X (.Assign [.Name x p1] (.Dict [] [] p2) pos) Γ N T:=λσ H0 R0 H R E D dn dr=>by
 refine sS (jv hN hi hx Bs hs hf) λp hp=>?_
 have E1:=E.grow (Ext.dJ E.sub hp (.dK (cz [])))
 exact dn _ _ R _ (E1.yo (u:=.dK (cz [])) (en:=.di []) i ⟨p,rfl,aA,E.sub.free hp⟩ (E.ext.h.free hp) λj e _ q w=>E.off hp j e q w) (av.refl _) h
theorem t9 {R:Hp}:∀{xs:OC} {vs:List V},dO R vs (xs.map PV.str)->vs=xs.map V.str
 | [],_,.nil=>rfl
 | x::xs,_,.cons h t=>by cases h;rw[t9 t];rfl
theorem wB {es:OG}{k:Nat}{pos:Pos}{xs:OC}(h:EA X es Γ aI (xs.map PV.str) Γ1)(hz:xs.length<=RE):EV X (.Tuple es k pos) Γ sN xs Γ1:=
 EV.re (gG h (by rw[OZ];exact hz)) λK R v e=>by
   cases e with
   | tup hp pp=>rw[t9 pp] at hp;exact⟨_,rfl,du.of hp⟩
end
def DX (lo:Int)(n:Nat):It:=⟨λi _=>i<n,λi H x H'=>H'=H/\x= .int (lo-i),λi _=>n<=i⟩
theorem zA {P:RJ}{w:World}{K:Uk}{tg:Expr}(it:Addr)(lo:Int)(n:Nat):Turn P w K tg (DX lo n) [it] it (λi h=>S4 h it (lo+(i:Nat)*(-1)) ((n:Int)-(i:Nat)) (-1)) where
 mem:=by simp
 obj:=λi h st b hb=>by
  have e:b=it:=by simpa using hb
  subst e
  exact⟨_,st,λv z=>by
   have z':Data.fields _=Data.cell v:=z
   cases z'⟩
 keep:=λi h h' st k=>k it (by simp) _ st
 item:=by
  intro X hP hw hK hc i UT s σ H E I hf st hg
  subst hP hw hK
  obtain⟨f0,f1,f2,f3,f4,f5⟩:=hf it (by simp)
  have W:=Walks.range (prog:=X.prog) (w:=X.w) (I.ok.hd hc) it lo (-1) n
  refine W.item i s _ _ hg st λv h' tk hv Wr kk=>?_
  obtain⟨t,rfl⟩:=hv
  have I1:Inv X UT σ H {s with heap:=h',toks:=tk}:=I.turned (λb o hb e=>kk b o (by simpa using hb) e) f0 f1 f3 f4 f5
  refine⟨_,rfl,nk (s:={s with heap:=h',toks:=tk}) (n:="range_iterator") Wr rfl rfl (by decide) ⟨.int (lo-i),H,I1,⟨t,?_⟩,⟨rfl,rfl⟩,Wr,λb hb=>(hf b hb).1⟩⟩
  rw[show lo+(i:Int)*(-1)=lo-(i:Int) by omega]
 done:=by
  intro X hP hw hK hc i UT s σ H E I hf st hg
  subst hP hw hK
  obtain⟨f0,f1,f2,f3,f4,f5⟩:=hf it (by simp)
  exact wpAny_pyNext_range_end (I.ok.hd hc) st (by have:n<=i:=hg;omega) λh' eb=>⟨rfl,I.turned (t':=s.toks) (λb o hb e=>eb b o hb e) f0 f1 f3 f4 f5⟩
 self:=λ_ _ _ _ _ st h=>wpAny_pyIter_rangeiter st h
theorem rV {a b:Int}:Tj a b (-1)=((a-b).toNat:Int):=by
 unfold Tj
 rw[UK (by decide)]
 split
 ·rw[show -(-1:Int)=1 by decide,Int.ediv_one];omega
 ·omega
theorem small_down {a b:Int}(ha: -(2 ^ 40)<=a)(VN:a<2 ^ 40)(hb: -(2 ^ 40)<=b)(VZ:b<2 ^ 40):Builtin.Range.small a b (-1)=true:=by
 unfold Builtin.Range.small
 rw[rV]
 simp only[Builtin.Range.rangeFitsLong,OK,OM,decide_eq_true_eq,beq_iff_eq,show¬(-1:Int)>0 by decide,if_false]
 omega
section
variable {X:Cx}{tg:Expr}{Γ Γ1 Γ2 Γ3:Ga}
def Mn (ta:TA):TI:=λσ H R=>ta σ H λvs H1=>∃i j:Int,vs=[.int i,.int j,.int (-1)]/\(-(2 ^ 40)<=i/\i<2 ^ 40/\ -(2 ^ 40)<=j/\j<2 ^ 40)/\R (DX i (i-j).toNat) H1
theorem Fo {UT:OA}{σ:St}{H:Hp}{s:RA}{R:It->Hp->Prop}{E:Value->RA->Prop}{lo hi:Int}{t u v:Tok}{tk:Nat}(I:Inv X UT σ H s)(h1: -(2 ^ 40)<=lo)(h2:lo<2 ^ 40)(h3: -(2 ^ 40)<=hi)(h4:hi<2 ^ 40)
 (q:R (DX lo (lo-hi).toNat) H):wpAny (model X.prog X.w) X.A (pyIter (.ref s.heap.objs.size)) (Io X UT σ tg R) E {s with heap:=s.heap.push {cls:=.type "range",data:=.fields #[.int lo t,.int hi u,.int (-1) v]},toks:=tk}:=by
 refine wpAny_pyIter_range (IsRange.new ..) (small_down h1 h2 h3 h4) ?_
 have I1:Inv X UT σ H {s with heap:=s.heap.push {cls:=.type "range",data:=.fields #[.int lo t,.int hi u,.int (-1) v]},toks:=tk}:=I.kept λb o e=>TN _ e
 refine⟨(s.heap.push {cls:=.type "range",data:=.fields #[.int lo t,.int hi u,.int (-1) v]}).objs.size,[(s.heap.push {cls:=.type "range",data:=.fields #[.int lo t,.int hi u,.int (-1) v]}).objs.size],_,_,H,rfl,
  I1.kept (t':=tk) λb o e=>TN _ e,zA _ lo (lo-hi).toNat,?_,λb hb=>?_,q⟩
 ·have e1:lo+((0:Nat):Int)*(-1)=lo:=by simp
  have e2:(((lo-hi).toNat:Nat):Int)-((0:Nat):Int)=Tj lo hi (-1):=by rw[rV];simp
  show S4 _ _ (lo+((0:Nat):Int)*(-1)) ((((lo-hi).toNat:Nat):Int)-((0:Nat):Int)) (-1)
  rw[e1,e2]
  exact TR _ rfl
 ·have e:b=(s.heap.push {cls:=.type "range",data:=.fields #[.int lo t,.int hi u,.int (-1) v]}).objs.size:=by simpa using hb
  subst e
  exact I1.gQ (QW _) (I1.UZ.fresh (QW _))
theorem y9 {a b c:Expr}{ta:TA}{p pos:Pos}(hg:Gl X "range")(hm:X.mg "range"=none)(ha:PA X [a,b,c] ta)(hs:RC [a,b,c] X.env=(false,eval a X.env)::RC [b,c] X.env:=by rfl)(Ve:(RM pos (RC [b,c] X.env)).any (·.1)=false:=by rfl):
 PI X tg (.Call (.Name "range" p) [a,b,c] [] pos) (Mn ta):=by
 intro UT s σ H R I h
 refine Call_ (gq I hg hm Ry (Rr (aT (ha pos UT s σ H _ I h) λus s1 ⟨vs,H1,I1,r1,q1⟩=>?_) hs Ve))
 obtain⟨i,j,e,⟨q1,q2,q3,q4⟩,q⟩:=q1
 subst e
 cases r1 with
 | cons r rr=>
   cases rr with
   | cons r' rr=>
     cases rr with
     | cons r'' rr=>
       cases rr
       obtain⟨t,rfl⟩:=r
       obtain⟨t',rfl⟩:=r'
       obtain⟨t'',rfl⟩:=r''
       exact call_range_3 (by decide) (Fo I1 q1 q2 q3 q4 q) (.inl (PyProof.noPylong_of_log2 (by decide +kernel)))
def downs (lo:Int)(n:Nat):OB:=(Pm n).map λ(k:Nat)=>lo-(k:Int)
theorem gT (lo:Int)(n:Nat):(downs lo n).length=n:=by unfold downs;rw[OZ,Qo]
theorem tL {lo:Int}{n i:Nat}{x:Int}(h:(downs lo n)[i]?=some x):i<n/\x=lo-(i:Int):=by
 have hi:i<n:=by have:=(OW.mp h).1;rwa [gT] at this
 refine⟨hi,?_⟩
 unfold downs at h
 rw[O5,P1 hi] at h
 exact(Option.some.inj h).symm
theorem BH {K:Uk}{R1:Hp}(lo:Int)(n:Nat):Src K (DX lo n) R1 ah (downs lo n):=λH' R' sR sH i=>⟨λx hx=>by
 obtain⟨h1,rfl⟩:=tL hx
 refine⟨h1,λv H2 hy=>?_⟩
 obtain⟨rfl,rfl⟩:=hy
 exact⟨R',Ext.refl sH,rfl⟩,λhi=>by rw[gT] at hi;exact hi⟩
theorem Bd {a b c:Expr}{p1 p2:Pos}{m n:Int}(hm:X.mg "range"=none)(ha:HA X [a,b,c] Γ [⟨ah,m⟩,⟨ah,n⟩,⟨ah, -1⟩] Γ1)(hn: -1000000<=m/\m<=1000000/\ -1000000<=n/\n<=1000000)
 (hs:RC [a,b,c] X.env=(false,eval a X.env)::RC [b,c] X.env:=by rfl) (Ve:(RM p2 (RC [b,c] X.env)).any (·.1)=false:=by rfl) (hg:Gl X "range":=by rfl):IV X tg (.Call (.Name "range" p1) [a,b,c] [] p2) Γ ah (downs m (m-n).toNat) Γ1:=by
 refine⟨_,y9 hg hm mf hs Ve,λσ H0 R0 H R E Rq q=>ha σ H0 R0 H R E _ λvs H1 R1 E1 s1 e1=>?_⟩
 have e:vs=[.int m,.int n,.int (-1)]:=by
  cases e1 with
  | cons a1 t=>cases t with
    | cons a2 t=>cases t with
      | cons a3 t=>cases t;cases a1;cases a2;cases a3;rfl
 subst e
 exact⟨m,n,rfl,⟨by omega,by omega,by omega,by omega⟩,q _ H1 R1 E1 s1 (by rw[gT];exact QX (show(m-n).toNat<=2000000 by omega) (by decide)) (BH m (m-n).toNat)⟩
end
end Fc
namespace Fc.ZT
open PySem PySem.Spec PyProof.Rows
section
variable {prog:RJ}{w:World}{A:RL}{E:Value->RA->Prop}{s:RA}
theorem wC {i l:Addr}{UW:Array Value}(hh:A.handled=none)(U9:i≠l):Dr prog w A i l UW (λk h=>h.IsListIter i l k/\h.IsList l UW) where
 up:=λ⟨⟨o,ho,r⟩,⟨o',Wc,r'⟩⟩ hk=>⟨⟨o,hk _ (.inl rfl) o ho,r⟩,⟨o',hk _ (.inr rfl) o' Wc,r'⟩⟩
 there:=λ⟨⟨o,ho,_⟩,_⟩=>TQ ho
 item:=λ{k x s Q E} ⟨hit,ht⟩ hx hQ=>wpAny_nextOf_list_item hit ht hx λh' h1 h2=>hQ h' ⟨h1,ht.extBut h2.extBut (Rk U9)⟩ h2
 done:=λ{k s Q E} ⟨hit,ht⟩ hx hE=>wpAny_nextOf_list_end hh hit ht hx λh' e h1 h2=>hE h' e h1 h2
end
abbrev zhX (h:Heap)(l1 l2:Addr):Heap:=((((h.push {cls:=.type "tuple_iterator",data:=.fields #[.ref l1,.int 0 0]}).push {cls:=.type "list_iterator",data:=.fields #[.ref l2,.int 0 0]}).push {cls:=.type "tuple",data:=.seq #[.ref h.objs.size,.ref (h.objs.size+1)]}).push {cls:=.type "tuple",data:=.seq #[.none,.none]}).push {cls:=.type "zip",data:=.fields #[.none,.bool false,.bool false,.ref (h.objs.size+2),.ref (h.objs.size+3)]}
theorem BZ (l1 l2:Addr)(xs ys:Array Value):Meets (Builtin.«zip.__new__» ⟨[.type "zip",.ref l1,.ref l2],[]⟩) (λ_ R s=>s.heap.IsTuple l1 xs/\s.heap.IsList l2 ys/\R (.ok (.ret (.ref (s.heap.objs.size+4)))) {s with heap:=zhX s.heap l1 l2}):=
 .of_wp λprog w A R s h=>by
  obtain⟨hp,g,d,tk,os⟩:=s;obtain⟨hl1,Xz,h⟩:=h
  have Vr:isSubtype (.type "zip") (.type "zip")=pure true:=by rw[isSubtype_type];kernel_rfl
  have hL1:Heap.IsTuple (RA.heap ⟨hp,g,d,tk,os⟩) l1 xs:=hl1
  have hL2:Heap.IsList (RA.heap ⟨hp.push {cls:=.type "tuple_iterator",data:=.fields #[.ref l1,.int 0 0]},g,d,tk,os⟩) l2 ys:=Heap.IsList.push Xz _
  wp_walk using wpAny_pyIter_tuple hL1,Sz hL2
  refine⟨_,rfl,?_⟩
  simp only[TU]
  exact h
section
variable {prog:RJ}{w:World}{A:RL}{E:Value->RA->Prop}{s:RA}
theorem zt {l1 l2:Addr}{xs ys:Array Value}{Q:Value->RA->Prop}(hl1:s.heap.IsTuple l1 xs)(Xz:s.heap.IsList l2 ys)
 (h:∀h',IsZip h' (s.heap.objs.size+4) (s.heap.objs.size+2) (s.heap.objs.size+3) .none->R6 h' (s.heap.objs.size+2) (.ref s.heap.objs.size) (.ref (s.heap.objs.size+1))->R6 h' (s.heap.objs.size+3) .none .none->h'.IsTupleIter s.heap.objs.size l1 0->h'.IsListIter (s.heap.objs.size+1) l2 0->
  (∀c o,s.heap.get? c=some o->h'.get? c=some o)->Q (.ref (s.heap.objs.size+4)) {s with heap:=h'}):wpAny (model prog w) A (call (.type "zip") [.ref l1,.ref l2]) Q E s:=by
 refine callType_new F.called_zip (by decide) (F.typeCall_zip_2 _ _) (F.newCall_zip_2 _ _) (λobj=>F.args_object_init_3 obj _ _) F.entry_zip_new (BZ l1 l2 xs ys) ⟨hl1,Xz,?_⟩
 have at_:∀(h:Heap) (o:Obj) (n:Nat),h.objs.size=n->o.isFreed=false->(h.push o).get? n=some o:=λh o n e f=>by subst e;exact TR _ f
 have g5:=at_ ((((s.heap.push {cls:=.type "tuple_iterator",data:=.fields #[.ref l1,.int 0 0]}).push {cls:=.type "list_iterator",data:=.fields #[.ref l2,.int 0 0]}).push {cls:=.type "tuple",data:=.seq #[.ref s.heap.objs.size,.ref (s.heap.objs.size+1)]}).push {cls:=.type "tuple",data:=.seq #[.none,.none]}) {cls:=.type "zip",data:=.fields #[.none,.bool false,.bool false,.ref (s.heap.objs.size+2),.ref (s.heap.objs.size+3)]} (s.heap.objs.size+4) (by simp[TU]) rfl
 have g4:=at_ (((s.heap.push {cls:=.type "tuple_iterator",data:=.fields #[.ref l1,.int 0 0]}).push {cls:=.type "list_iterator",data:=.fields #[.ref l2,.int 0 0]}).push {cls:=.type "tuple",data:=.seq #[.ref s.heap.objs.size,.ref (s.heap.objs.size+1)]}) {cls:=.type "tuple",data:=.seq #[.none,.none]} (s.heap.objs.size+3) (by simp[TU]) rfl
 have g3:=at_ ((s.heap.push {cls:=.type "tuple_iterator",data:=.fields #[.ref l1,.int 0 0]}).push {cls:=.type "list_iterator",data:=.fields #[.ref l2,.int 0 0]}) {cls:=.type "tuple",data:=.seq #[.ref s.heap.objs.size,.ref (s.heap.objs.size+1)]} (s.heap.objs.size+2) (by simp[TU]) rfl
 have g2:=at_ (s.heap.push {cls:=.type "tuple_iterator",data:=.fields #[.ref l1,.int 0 0]}) {cls:=.type "list_iterator",data:=.fields #[.ref l2,.int 0 0]} (s.heap.objs.size+1) (by simp[TU]) rfl
 have g1:=at_ s.heap {cls:=.type "tuple_iterator",data:=.fields #[.ref l1,.int 0 0]} s.heap.objs.size rfl rfl
 have p:=@TN
 exact⟨⟨_,g5,rfl⟩,h _ g5 (p _ (p _ g3)) (p _ g4) ⟨_,p _ (p _ (p _ (p _ g1))),rfl,rfl⟩ ⟨_,p _ (p _ (p _ g2)),rfl,rfl⟩ λc o x=>p _ (p _ (p _ (p _ (p _ x))))⟩
end
end Fc.ZT
namespace Fc
open PySem PySem.Spec PySem.W PySem.Calls L2
open PyProof.Rows hiding St
section
variable {X:Cx}{Γ Γ1 Γ2 Γ3:Ga}{α β γ δ:Type}{N:Ga->Prop}{T:RT}
variable {es:OG}{tp:Pos}
def Kb (K:Uk)(a b:Addr):It:=
 ⟨λi H=>∃xs ys x y,du K H a xs/\aU K H b ys/\xs[i]?=some x/\ys[i]?=some y,
  λi H v H'=>∃p x y,H p=none/\v= .ref p/\H'=upd H p (.tup [x,y])/\(∀xs,du K H a xs->xs[i]?=some x)/\∀ys,aU K H b ys->ys[i]?=some y,
  λi H=>∃xs ys,du K H a xs/\aU K H b ys/\(xs.length<=i∨ys.length<=i)⟩
def MA (z TI TO i1 i2 a b:Addr)(i:Nat)(h:Heap):Prop:=
 IsZip h z TI TO .none/\R6 h TI (.ref i1) (.ref i2)/\(∃u v,R6 h TO u v)/\h.IsTupleIter i1 a i/\h.IsListIter i2 b i/\a≠TO/\b≠TO
theorem Nm {h:Heap}{z TI TO i1 i2 a b:Addr}{i:Nat}{xs ys:Array Value}(F:uX z TI TO i1 i2)(st:MA z TI TO i1 i2 a b i h)(pa:IsTup h a xs)(pb:PlainL h b ys):ZipApart z TI TO i1 i2 a b:=by
 obtain⟨hz,_,⟨u,v,VO⟩,⟨o1,e1,c1,_⟩,⟨o2,e2,c2,_⟩,n1,n2⟩:=st
 exact⟨F.TIz,F.TOz,F.i1z,F.i2z,F.TITO,F.TIi1,F.TIi2,F.TOi1,F.TOi2,F.i12,
  tup_ne pa hz (by simp),n1,tup_ne pa e1 (by rw[c1];simp),tup_ne pa e2 (by rw[c2];simp),
  dG pb hz (by simp),dG pb VO (by simp),dG pb e1 (by rw[c1];simp),dG pb e2 (by rw[c2];simp)⟩
theorem A5 {P:RJ}{w:World}{K:Uk}{k:Nat}(a b z TI TO i1 i2:Addr)(F:uX z TI TO i1 i2):Turn P w K (.Tuple es k tp) (Kb K a b) [z,TI,TO,i1,i2] z (MA z TI TO i1 i2 a b) where
 mem:=by simp
 obj:=λi h st c hc=>by
  obtain⟨hz,VT,⟨u,v,VO⟩,⟨o1,e1,c1,d1⟩,⟨o2,e2,c2,d2⟩,_⟩:=st
  simp only[O7,Pu,or_false] at hc
  rcases hc with rfl | rfl | rfl | rfl | rfl
  ·exact⟨_,hz,λv q=>by cases q⟩
  ·exact⟨_,VT,λv q=>by cases q⟩
  ·exact⟨_,VO,λv q=>by cases q⟩
  ·exact⟨o1,e1,λv q=>by rw[d1] at q;cases q⟩
  ·exact⟨o2,e2,λv q=>by rw[d2] at q;cases q⟩
 keep:=λi h h' st kk=>by
  obtain⟨hz,VT,⟨u,v,VO⟩,h1,h2,n1,n2⟩:=st
  exact⟨kk z (by simp) _ hz,kk TI (by simp) _ VT,⟨u,v,kk TO (by simp) _ VO⟩,h1.imp λo q=>⟨kk i1 (by simp) o q.1,q.2⟩,h2.imp λo q=>⟨kk i2 (by simp) o q.1,q.2⟩,n1,n2⟩
 item:=by
  intro X hP hw hK hc i UT s σ H E I hf st hg
  subst hP hw hK
  obtain⟨xs,ys,x,y,hq,VW,hx,hy⟩:=hg
  obtain⟨UW,r,pl,hz⟩:=I.tuple hq
  obtain⟨its',r',V1,WT⟩:=I.list VW
  obtain⟨u,hu,rx⟩:=r.get hx
  obtain⟨u',XN,ry⟩:=r'.get hy
  have D:=Nm F st pl V1
  have hh:=I.ok.hd hc
  obtain⟨Xa,VT,⟨c,d,VO⟩,h1,h2,n1,n2⟩:=st
  have hn:H s.heap.objs.size=none:=I.UZ.fresh (QW _)
  refine ZT.Gk D (ZT.uV (A:=X.A.in1) hh (Rk D.l1i1)) (ZT.wC (A:=X.A.in1) hh (Rk D.l2i2)) Xa VT VO ⟨h1,pl⟩ ⟨h2,V1.isList⟩ (x:=u) (y:=u') (by simpa using hu) (by simpa using XN) λh' a1 a2 a3 a4 a5 hk=>?_
  refine⟨_,rfl,?_⟩
  refine wpAny_letOwnedTupleGo_zip (s:={s with heap:=h'}) a1 λh3 hz3 WV=>?_
  have lt:∀{c o},s.heap.get? c=some o->c≠s.heap.objs.size:=λe=>Q1 (TQ e)
  have W3:∀b o,b∉[z,TI,TO,i1,i2]->s.heap.get? b=some o->h3.get? b=some o:=λb o hb q=>by
   simp only[O7,Pu,or_false,not_or] at hb
   exact WV.extBut b o hb.1 (hk b o hb.1 hb.2.2.1 hb.2.2.2.1 hb.2.2.2.2 q)
  have I1:Inv X UT σ H {s with heap:=h3,toks:=s.toks}:=js I W3 hf
  have ZC:h3.get? s.heap.objs.size=some {cls:=.type "tuple",data:=.seq #[u,u']}:=WV.extBut _ _ (Rk (lt Xa)) a5
  have I2:Inv X UT σ (upd H s.heap.objs.size (.tup [x,y])) {s with heap:=h3,toks:=s.toks}:=
   adopt I1 (I.gQ (QW _) hn) (I.sz) ⟨by show 2<=RE;decide,[u,u'],.cons rx (.cons ry .nil),⟨_,ZC,rfl,_,rfl⟩⟩
  refine⟨.ref s.heap.objs.size,_,I2,rfl,⟨s.heap.objs.size,x,y,hn,rfl,rfl,λzs Ya=>?_,λzs Ya=>?_⟩,⟨hz3,?_,⟨_,_,WV.extBut _ _ F.TOz a2⟩,a3.1.extBut WV.extBut F.i1z,a4.1.extBut WV.extBut F.i2z,n1,n2⟩,λb hb=>?_⟩
  ·rw[I.rL Ya hq];exact hx
  ·rw[I.iH Ya VW];exact hy
  ·exact WV.extBut _ _ F.TIz (hk _ _ F.TIz F.TITO F.TIi1 F.TIi2 VT)
  ·have VJ:b≠s.heap.objs.size:=by
    simp only[O7,Pu,or_false] at hb
    rcases hb with rfl | rfl | rfl | rfl | rfl
    ·exact lt Xa
    ·exact lt VT
    ·exact lt VO
    ·obtain⟨_,e,_⟩:=h1;exact lt e
    ·obtain⟨_,e,_⟩:=h2;exact lt e
   rw[aB VJ]
   exact(hf b hb).1
 done:=by
  intro X hP hw hK hc i UT s σ H E I hf st hg
  subst hP hw hK
  obtain⟨xs,ys,hq,VW,hx⟩:=hg
  obtain⟨UW,r,pl,hz⟩:=I.tuple hq
  obtain⟨its',r',V1,WT⟩:=I.list VW
  have D:=Nm F st pl V1
  have hh:=I.ok.hd hc
  obtain⟨Xa,VT,⟨c,d,VO⟩,h1,h2,n1,n2⟩:=st
  have l1:=r.length
  have l2:=r'.length
  refine ZT.Jy D (ZT.uV (A:=X.A.in1) hh (Rk D.l1i1)) (ZT.wC (A:=X.A.in1) hh (Rk D.l2i2)) Xa VT VO ⟨h1,pl⟩ ⟨h2,V1.isList⟩ (hx.imp (λq=>by simp;omega) λq=>by simp;omega) λh' hk=>⟨rfl,?_⟩
  refine js (t':=s.toks) I (λb o hb q=>?_) hf
  simp only[O7,Pu,or_false,not_or] at hb
  exact hk b o hb.1 hb.2.2.1 hb.2.2.2.1 hb.2.2.2.2 q
 self:=λ_ _ _ _ _ st h=>SD st.1 h
def KZ (K:Uk)(ta:TA):TI:=λσ H R=>ta σ H λvs H1=>∃a b xs ys,vs=[.ref a,.ref b]/\du K H1 a xs/\aU K H1 b ys/\R (Kb K a b) H1
theorem Em {a b:Expr}{ta:TA}{p pos:Pos}{k:Nat}(hg:Gl X "zip")(hm:X.mg "zip"=none)(ha:PA X [a,b] ta)(hs:RC [a,b] X.env=[(false,eval a X.env),(false,eval b X.env)]:=by rfl)(Vv:RC [b] X.env=[(false,eval b X.env)]:=by rfl):PI X (.Tuple es k tp) (.Call (.Name "zip" p) [a,b] [] pos) (KZ X.K ta):=by
 intro UT s σ H R I h
 refine Call_ (gq I hg hm boot_zip (Rr (aT (ha pos UT s σ H _ I h) λus s1 ⟨vs,H1,I1,r1,q1⟩=>?_) (by rw[hs,Vv]) (by rw[Vv];rfl)))
 obtain⟨l,l',xs,ys,e,hq,VW,q⟩:=q1
 subst e
 cases r1 with
 | cons r rr=>
   cases rr with
   | cons r' rr=>
     cases rr
     cases r
     cases r'
     obtain⟨UW,_,pl,_⟩:=I1.tuple hq
     obtain⟨its',_,V1,_⟩:=I1.list VW
     have ll:l<s1.heap.objs.size:=by obtain⟨o,e,_⟩:=pl;exact TQ e
     have ll':l'<s1.heap.objs.size:=by obtain⟨o,n,e,_⟩:=V1;exact TQ e
     refine ZT.zt pl V1.isList λh' a1 a2 a3 a4 a5 hk=>?_
     refine SD a1 ?_
     have I2:Inv X UT σ H1 {s1 with heap:=h'}:=I1.kept (t':=s1.toks) hk
     have ff:∀b,s1.heap.objs.size<=b->jJ X UT H1 b:=λb hb=>I1.gQ hb (I1.UZ.fresh hb)
     refine⟨s1.heap.objs.size+4,[s1.heap.objs.size+4,s1.heap.objs.size+2,s1.heap.objs.size+3,s1.heap.objs.size,s1.heap.objs.size+1],_,_,H1,rfl,I2,A5 l l' _ _ _ _ _ (GK _),⟨a1,a2,⟨_,_,a3⟩,a4,a5,Q1 (Q0 ll (Q5 _ 3)),Q1 (Q0 ll' (Q5 _ 3))⟩,λb hb=>?_,q⟩
     simp only[O7,Pu,or_false] at hb
     rcases hb with rfl | rfl | rfl | rfl | rfl
     ·exact ff _ (Q5 _ 4)
     ·exact ff _ (Q5 _ 2)
     ·exact ff _ (Q5 _ 3)
     ·exact ff _ (QW _)
     ·exact ff _ (Q5 _ 1)
theorem EK {a b:Expr}{p pos:Pos}{k:Nat}{ys:OC}{r:Rep α}{xs:List α}(hm:X.mg "zip"=none)(ha:EV X a Γ sN ys Γ1)(hb:EV X b Γ1 (ae r) xs Γ2)(hs:RC [a,b] X.env=[(false,eval a X.env),(false,eval b X.env)]:=by rfl)(Vv:RC [b] X.env=[(false,eval b X.env)]:=by rfl)(hg:Gl X "zip":=by rfl):
 IV X (.Tuple es k tp) (.Call (.Name "zip" p) [a,b] [] pos) Γ (eE ag r) (ys.zip xs) Γ2:=by
 refine⟨_,Em hg hm (aM aL (aM aL bB Vv) (by rw[hs,Vv])) hs Vv,λσ H0 R0 H R E Rq q=>ha σ H0 R0 H R E _ λv H1 R1 E1 s1 e1=>hb σ H0 R0 H1 R1 E1 _ λv' H2 R2 E2 s2 e2=>?_⟩
 obtain⟨a,rfl,Xd⟩:=sN.mono (K:=X.K) s2 e1
 obtain⟨b,vs,rfl,hp,pp,hz⟩:=e2
 have up:∀{R' H':Hp},av R2 R'->av R' H'->du X.K H' a (ys.map V.str):=λsR sH=>Xd.imp (λh=>h.imp (λq=>sH _ _ (sR _ _ q)) λ⟨o,q⟩=>⟨o,sH _ _ (sR _ _ q)⟩) id
 refine⟨a,b,_,vs,rfl,up (av.refl _) E2.sub,aU.of (E2.sub _ _ hp),q _ H2 R2 E2 (s1.trans s2) (by rw[Qc];exact QX (Rf _ _) hz) λH' R' sR sH i=>⟨λy hy=>?_,λhi=>?_⟩⟩
 ·have hq:aU X.K H' b vs:=aU.of (sH _ _ (sR _ _ hp))
  have VW:=up sR sH
  obtain⟨e1,e2⟩:=jB hy
  obtain⟨v,hv,hr⟩:=dm pp e2
  have WA:(ys.map V.str)[i]?=some (V.str y.1):=by rw[O5,e1];rfl
  refine⟨⟨_,vs,_,v,VW,hq,WA,hv⟩,λv2 H3 Xb=>?_⟩
  obtain⟨p,x,x',W0,rfl,rfl,hy,Y4⟩:=Xb
  have t1:=hy _ VW
  have t2:=Y4 vs hq
  rw[WA] at t1
  rw[hv] at t2
  cases t1
  cases t2
  have s3:av R' (upd R' p (.tup [.str y.1,v])):=av.fresh (sH.free W0) _
  exact⟨upd R' p (.tup [.str y.1,v]),Ext.fresh sH W0 _,p,_,_,rfl,aA,rfl,r.mono s3 (r.mono sR hr)⟩
 ·refine⟨_,vs,up sR sH,aU.of (sH _ _ (sR _ _ hp)),?_⟩
  rw[Qc] at hi
  rw[OZ,pp.length]
  omega
end
section
variable {X:Cx}{Γ Γ1 Γ2 Γ3:Ga}{α β γ δ:Type}{N:Ga->Prop}{T:RT}
theorem aZ.cst {e:Expr}{r:Rep α}{xs ys:List α}(h:aZ X e Γ r xs Γ1)(q:xs=ys):aZ X e Γ r ys Γ1:=q▸h
theorem El {e f:Expr}{x:Str}{p1 ap cp:Pos}{D:List (Str×OC)}{k:Str}{zs:OC}(hD:lT X.prog X.w X.K X.mg x D)(he:EV X e Γ ag k Γ1)(hf:EV X f Γ1 sN zs Γ2)(hg:Gl X x:=by rfl)(hd:Vd x:=by decide)(m:M2 X (.Name x p1) "get" ap e f cp:=by exact⟨rfl,rfl,rfl,rfl⟩):EV X (.Call (.Attribute (.Name x p1) "get" ap) [e,f] [] cp) Γ sN ((cn D k).getD zs) Γ2:=by
 intro σ H0 R0 H R E Q q
 obtain⟨a,o,vs,hm,hk,hdo,hs,hp⟩:=hD
 have pe:PE X (.Call (.Attribute (.Name x p1) "get" ap) [e,f] [] cp) (λσ H Q=>eZ X e σ H λy H1=>y= .str k/\eZ X f σ H1 λz H2=>(∀b,cn D k≠none->Sa vs (Sum.inr k:Key)=some (.ref b)->Q (.ref b) H2)/\(cn D k=none->Q z H2)):=by
  intro UT s σ H Q I h
  refine wpAny_Call_method m.base m.few m.line PySem.F.plainAttrs_dict PySem.F.slot_dict_get PySem.F.type_dict_get (aT (iK (v:=.ref a) hg hm rfl hd UT s σ H (λv H2=>v= .ref a/\H2=H) I ⟨rfl,rfl⟩) λu s1 ⟨x1,H1,I1,rx,e3,e4⟩=>?_)
  subst e3;subst e4
  obtain rfl:u=Uc a:=rx
  have dd:s1.heap.DictOf (bW X.prog X.w) a vs:=T1.mpr ⟨o,I1.fo a o hk,hdo⟩
  refine⟨dd.typeIs,λb q=>?_,?_⟩
  ·cases q
   obtain⟨ob,_,_,h1,h2,_⟩:=dd
   exact⟨ob,h1,h2.2.1⟩
  rw[m.trees]
  refine Tt rfl (Calls.evalArgs_plain (Tu (aT (h UT s1 I1) λiv s2 ⟨y,H2,I2,ry,ey,q2⟩=>
   Tu (aT (q2 UT s2 I2) λfv s3 ⟨z,H3,I3,rz,q3,q4⟩=>Calls.spliced_nil ?_))))
  subst ey
  have dd3:s3.heap.DictOf (bW X.prog X.w) a vs:=T1.mpr ⟨o,I3.fo a o hk,hdo⟩
  refine call_meetsIn PySem.F.slot_dict_get dd3.typeIs PySem.F.entry_dict_get (PySem.F.args_dict_get_3 _ _ _) (meets_dict_get_default (bW X.prog X.w) a (jm (k:=Sum.inr k) ry) hs fv) ⟨_,dd3.mapOf,?_⟩
  rcases sC (x:=k) hp with⟨h1,h2⟩ | ⟨ys,b,h1,h2,_⟩
  ·rw[h2];exact⟨z,_,I3.tok _,rz,q4 h1⟩
  ·rw[h2];exact⟨.ref b,_,I3.tok _,rfl,q3 b (by rw[h1];exact Rm _) h2⟩
 refine eS pe (he σ H0 R0 H R E _ λv H1 R1 E1 s1 e1=>⟨e1,hf σ H0 R0 H1 R1 E1 _ λv2 H2 R2 E2 s2 e2=>⟨λb hb hv=>?_,λhn=>?_⟩⟩)
 ·rcases sC (x:=k) hp with⟨h1,h2⟩ | ⟨ys,b',h1,h2,o',UW,n,h3⟩
  ·exact UJ h1 hb
  ·rw[hv] at h2;cases h2
   refine q _ H2 R2 E2 (s1.trans s2) ?_
   rw[h1]
   exact⟨b,rfl,.inr ⟨o',UW,n,h3⟩⟩
 ·refine q _ H2 R2 E2 (s1.trans s2) ?_
  rw[hn];exact e2
end
def MJ (K:Uk)(a:Addr)(n:Nat):It:=
 ⟨λi H=>∃xs,aU K H a xs/\xs.length=n/\i<n,λi H x H'=>H'=H/\∀xs,aU K H a xs->xs[n-1-i]?=some x,λi _=>n<=i⟩
theorem BC {P:RJ}{w:World}{K:Uk}{tg:Expr}(a it:Addr)(n:Nat):Turn P w K tg (MJ K a n) [it] it (λi h=>i<=n/\h.IsRevIter it a ((n:Int)-1-(i:Int))) where
 mem:=by simp
 obj:=λi h st b hb=>by
  have e:b=it:=by simpa using hb
  subst e
  obtain⟨_,o,e,c,d⟩:=st
  exact⟨o,e,λv z=>by rw[d] at z;cases z⟩
 keep:=λi h h' st k=>⟨st.1,st.2.at λo e=>k it (by simp) o e⟩
 item:=by
  intro X hP hw hK hc i UT s σ H E I hf st hg
  subst hP hw hK
  obtain⟨xs,hq,hl,hi⟩:=hg
  obtain⟨UW,rv,p,hz⟩:=I.list hq
  have hx:xs[n-1-i]?=some xs[n-1-i]:=OX (by omega)
  obtain⟨u,hu,ru⟩:=rv.get hx
  obtain⟨f0,f1,f2,f3,f4,f5⟩:=hf it (by simp)
  have Xh:s.heap.IsRevIter it a (((n-1-i:Nat)):Int):=by rw[show(((n-1-i:Nat)):Int)=(n:Int)-1-(i:Int) by omega];exact st.2
  refine wpAny_pyNext_rev_item Xh p.isList (x:=u) (by simpa using hu) λh' Wr sb=>?_
  have I1:Inv X UT σ H {s with heap:=h'}:=I.turned (t':=s.toks) (λb o hb e=>(sb.2 b hb).trans e) f0 f1 f3 f4 f5
  have Xr:h'.IsRevIter it a ((n:Int)-1-((i+1:Nat):Int)):=by rw[show(n:Int)-1-((i+1:Nat):Int)=(((n-1-i:Nat)):Int)-1 by omega];exact Wr
  obtain⟨o,e,c,d⟩:=id Xr
  exact⟨u,rfl,nk (s:={s with heap:=h'}) e c d (by decide) ⟨_,H,I1,ru,⟨rfl,λys hy=>by rw[I.iH hy hq];exact hx⟩,⟨by omega,Xr⟩,λb hb=>(hf b hb).1⟩⟩
 done:=by
  intro X hP hw hK hc i UT s σ H E I hf st hg
  subst hP hw hK
  obtain⟨f0,f1,f2,f3,f4,f5⟩:=hf it (by simp)
  obtain⟨V6,st⟩:=st
  have e:(n:Int)-1-(i:Int)= -1:=by have:n<=i:=hg;omega
  rw[e] at st
  exact wpAny_pyNext_rev_end (I.ok.hd hc) st λh' eb=>⟨rfl,I.turned (t':=s.toks) (λb o hb e=>eb b o hb e) f0 f1 f3 f4 f5⟩
 self:=λ_ _ _ _ _ st h=>wpAny_pyIter_revIter st.2 h
section
variable {X:Cx}{Γ Γ1 Γ2 Γ3:Ga}{α β γ δ:Type}{N:Ga->Prop}{T:RT}{tg:Expr}
variable {pos:Pos}{x:Str}{e:Expr}{p1:Pos}
def Oi (K:Uk)(ta:TA):TI:=λσ H R=>ta σ H λvs H1=>∃a xs,vs=[.ref a]/\aU K H1 a xs/\R (MJ K a xs.length) H1
theorem Hu {a:Expr}{ta:TA}{p:Pos}(hg:Gl X "reversed")(hm:X.mg "reversed"=none)(ha:PA X [a] ta)(hs:RC [a] X.env=[(false,eval a X.env)]:=by rfl):PI X tg (.Call (.Name "reversed" p) [a] [] pos) (Oi X.K ta):=by
 intro UT s σ H R I h
 refine Call_ (gq I hg hm PyProof.Rows.boot_reversed (Rr (aT (ha pos UT s σ H _ I h) λus s1 ⟨vs,H1,I1,r1,q1⟩=>?_) hs rfl))
 obtain⟨l,xs,e,hq,q⟩:=q1
 subst e
 cases r1 with
 | cons r rr=>
   cases rr
   cases r
   obtain⟨UW,rv,pl,hz⟩:=I1.list hq
   have hl:=rv.length
   refine call_reversed_list pl.isList ?_
   have I2:Inv X UT σ H1 {s1 with heap:=s1.heap.push (revObj l ((UW.toArray.size:Int)-1))}:=I1.kept (t':=s1.toks) λb o e=>TN _ e
   have it0:(s1.heap.push (revObj l ((UW.toArray.size:Int)-1))).IsRevIter s1.heap.objs.size l ((xs.length:Int)-1-((0:Nat):Int)):=⟨_,TR _ rfl,rfl,by
    rw[show((xs.length:Int)-1-((0:Nat):Int))=((UW.toArray.size:Int)-1) by simp;omega];rfl⟩
   refine wpAny_pyIter_revIter it0 ?_
   refine⟨s1.heap.objs.size,[s1.heap.objs.size],_,_,H1,rfl,I2,BC l _ xs.length,⟨QY _,it0⟩,λb hb=>?_,q⟩
   have e:b=s1.heap.objs.size:=by simpa using hb
   subst e
   exact I1.gQ (QW _) (I1.UZ.fresh (QW _))
theorem Kc {a:Expr}{p:Pos}{r:Rep α}{xs:List α}(hm:X.mg "reversed"=none)(ha:EV X a Γ (ae r) xs Γ1)(hs:RC [a] X.env=[(false,eval a X.env)]:=by rfl)(hg:Gl X "reversed":=by rfl):IV X tg (.Call (.Name "reversed" p) [a] [] pos) Γ r xs.reverse Γ1:=by
 refine⟨_,Hu hg hm (aM aL bB hs) hs,λσ H0 R0 H R E Rq q=>ha σ H0 R0 H R E _ λv H1 R1 E1 s1 e1=>?_⟩
 obtain⟨a,vs,rfl,hp,pp,z⟩:=e1
 have hvl:=pp.length
 refine⟨a,vs,rfl,aU.of (E1.sub _ _ hp),q _ H1 R1 E1 s1 (by rw[QB];exact z) λH' R' sR sH i=>⟨λx hx=>?_,λhi=>?_⟩⟩
 ·have hq:aU X.K H' a vs:=aU.of (sH _ _ (sR _ _ hp))
  have hi:i<xs.length:=by have:=(OW.mp hx).1;rwa [QB] at this
  rw[QN hi] at hx
  obtain⟨v,hv,hr⟩:=dm pp hx
  refine⟨⟨vs,hq,rfl,by omega⟩,λv' H2 hy=>?_⟩
  obtain⟨rfl,hy⟩:=hy
  have:=hy vs hq
  rw[show vs.length-1-i=xs.length-1-i by omega,hv] at this
  cases this
  exact⟨R',Ext.refl sH,r.mono sR hr⟩
 ·rw[QB] at hi
  show vs.length<=i
  omega
theorem z5 (i:Nat){ap cp:Pos}{r:Rep α}{xs ys:List α}(he:EV X e Γ (ae r) ys Γ1)(hΓ:Γ[i]?=some (.mu r xs))(hΓ1:Γ1[i]?=some (.mu r xs))(hz:xs.length+ys.length<=RE)(h:N (Γ1.set i (.mu r (xs++ys))))
 (hN:X.N[i]?=some x:=by rfl) (hv:autoParam (cC X.env.scope x) Vo)
 (hd:Vd x:=by decide) (U0:Vp x:=by decide)
 (VR:RN (.Call (.Attribute (.Name x p1) "extend" ap) [e] [] cp) none pos.line X.env=pure false:=by rfl)
 (U2:RK (.Name x p1) "extend" X.env (eval (.Name x p1) X.env)=eval (.Name x p1) X.env:=by rfl)
 (Vg:((RM cp (RC [e] X.env)).all (λx=> !x.1)&&(Sb cp (RX [] X.env)).all (λx=>x.1.isSome)
  &&decide ([e].length+([]:List RP).length+(if([]:List RP).isEmpty then 0 else 1)<30))=true:=by rfl)
 (U1:(ap.endLine==cp.line)=true:=by rfl) (hs:RC [e] X.env=(false,eval e X.env)::RC [] X.env:=by rfl):W1 X (.Expr (.Call (.Attribute (.Name x p1) "extend" ap) [e] [] cp) pos) Γ N T:=λσ H0 R0 H R E D dn dr=>by
 obtain⟨a,vs,ea,ha,hR,pp⟩:=E.ent i _ hΓ
 refine sS (fz (gw Tw PySem.F.slot_list_extend PySem.F.type_list_extend yK (bb hN hv hd U0) (aM aL bB hs) U2 Vg U1 hs rfl) VR) ?_
 refine⟨.ref a,at_of ea,.inl ⟨rfl,vs,aU.of ha⟩,he σ H0 R0 H R E _ λu H1 R1 E1 s1 e1=>?_⟩
 obtain⟨b,ws,rfl,hb,pw,hw⟩:=e1
 obtain⟨a',Vn,Vs,VN,Vw,VQ⟩:=E1.ent i _ hΓ1
 rw[ea] at Vs;cases Vs
 refine⟨a,b,Vn,ws,rfl,rfl,VN,E1.sub _ _ hb,by rw[VQ.length,pw.length];exact hz,?_⟩
 exact dn σ _ R1 _ (E1.upd (en:=.mu r (xs++ys)) hΓ1 rfl ea Vw ⟨a,_,rfl,aA,Vw,dh VQ pw⟩) s1 h
theorem wN {d:Expr}{kvs:List (Int×V)}{k:Int}(hu:X.A.units+1<cLine)(he:EV X e Γ ah k Γ1)(hd:EV X d Γ1 gW kvs Γ2)(hm:Sh .NotIn d=false:=by first | exact uz _ | with_unfolding_all rfl):TV X (.Compare e [.NotIn] [d] pos) Γ (!ip kvs k) Γ2:=by
 intro σ H0 R0 H R E Q q
 refine tS (m5 (mj hu aL aL) hm) (he σ H0 R0 H R E _ λv H1 R1 E1 s1 e1=>hd σ H0 R0 H1 R1 E1 _ λu H2 R2 E2 s2 e2=>?_)
 cases e1
 obtain⟨p,rfl,hp⟩:=e2
 refine⟨p,_,rfl,gN.k (k:=Sum.inl k) (E2.sub _ _ hp),_,rfl,?_⟩
 rw[pd]
 exact q H2 R2 E2 (s1.trans s2)
abbrev tW (ks:OC):List (Key×V):=ks.map λk=>(Sum.inr k,V.bl true)
def nN (a:Addr)(ks:OC):vg where
 fp:=[a]
 R:=λK H R v=>v= .ref a/\H a=some (.dK (tW ks))
 loc:=λhH hR ⟨e,h1⟩=>⟨e,(hH a (by simp)).trans h1⟩
 has:=λ⟨e,h1⟩ b hb=>by rw[O0.mp hb,h1];exact Rm _
theorem WS.Ms (i:Nat){WQ:List Stmt}(hΓ:Γ[i]?=some (.di []))(h:∀a,WS X WQ (Γ.set i (.ob (nN a []))) N T):WS X WQ Γ N T:=λσ H0 R0 H R E D dn dr=>by
 obtain⟨a,ea,ha,hR⟩:=E.ent i _ hΓ
 refine h a σ H0 R0 H R (E.tell hΓ ⟨⟨.ref a,ea,rfl,ha⟩,λb hb=>?_⟩ λb w=>?_) D dn dr
 ·rw[O0.mp hb];exact hR
 ·rw[show b=a from O0.mp w];exact bV.mpr ea
theorem Bp (k:Str):∀ks:OC,cX (tW ks) (Sum.inr k:Key)=if k∈ks then some (.bl true) else none
 | []=>rfl
 | x::ks=>by
   by_cases e:x=k
   ·show cX ((Sum.inr x,V.bl true)::tW ks) _=_
    rw[dw (p:=((Sum.inr x:Key),V.bl true)) (by rw[e]),UL (by rw[e];exact O3)]
   ·show cX ((Sum.inr x,V.bl true)::tW ks) _=_
    rw[dc (p:=((Sum.inr x:Key),V.bl true)) (λz=>e (Sum.inr.inj z)),Bp k ks]
    by_cases h:k∈ks
    ·rw[UL h,UL (O2 _ h)]
    ·rw[UK h,UK λz=>by rcases O7.mp z with q | q;exact e q.symm;exact h q]
theorem EL (i:Nat){ke ve:Expr}{p2:Pos}{a:Addr}{ks:OC}{k:Str}(hu:X.A.units+1<cLine)(hk:EV X ke Γ ag k Γ)(hv:PE X ve (tC (.bl true)))(hΓ:Γ[i]?=some (.ob (nN a ks)))(hn:k∉ks)(hz:ks.length<RE)(h:N (Γ.set i (.ob (nN a (ks++[k])))))
 (hN:X.N[i]?=some x:=by rfl) (Y5:autoParam (cC X.env.scope x) Vo)
 (hd:Vd x:=by decide) (U0:Vp x:=by decide)
 (hs:RN ve (some (.Subscript (.Name x p1) ke p2)) pos.line X.env=pure false:=by rfl):W1 X (.Assign [.Subscript (.Name x p1) ke p2] ve pos) Γ N T:=λσ H0 R0 H R E D dn dr=>by
 refine sS (qQ hu (bb hN Y5 hd U0) aL hv hs) ?_
 obtain⟨⟨v,ea,rfl,ha⟩,hR⟩:=E.ent i _ hΓ
 refine⟨.ref a,at_of ea,hk σ H0 R0 H R E _ λu H1 R1 E1 s1 e1=>?_⟩
 obtain⟨⟨v,Vs,rfl,VN⟩,Vw⟩:=E1.ent i _ hΓ
 cases e1
 refine⟨a,_,rfl,oz.k (k:=Sum.inr k) VN (by rw[OZ];exact hz),?_⟩
 rw[oh (.bl true) (by rw[Bp,UK hn])]
 have e:tW ks++[((Sum.inr k:Key),V.bl true)]=tW (ks++[k]):=by unfold tW;rw[Ph];rfl
 rw[e]
 exact dn σ _ R1 _ (E1.mS (en:=.ob (nN a (ks++[k]))) hΓ (a:=a) (by show a∈[a];simp) ⟨⟨.ref a,Vs,rfl,aA⟩,Vw⟩ λc w=>.inl w) s1 h
theorem Bk (i:Nat){a:Addr}{ks:OC}{k:Str}(hu:X.A.units+1<cLine)(he:EV X e Γ ag k Γ)(hΓ:Γ[i]?=some (.ob (nN a ks)))(hN:X.N[i]?=some x:=by rfl)(hv:autoParam (cC X.env.scope x) Vo)
 (hd:Vd x:=by decide) (U0:Vp x:=by decide):TV X (.Compare e [.NotIn] [.Name x p1] pos) Γ (!decide (k∈ks)) Γ:=by
 intro σ H0 R0 H R E Q q
 refine tS (m5 (mj hu aL (bb hN hv hd U0)) (by with_unfolding_all rfl)) (he σ H0 R0 H R E _ λv H1 R1 E1 s1 e1=>?_)
 obtain⟨⟨v,ea,rfl,ha⟩,hR⟩:=E1.ent i _ hΓ
 cases e1
 refine⟨.ref a,at_of ea,a,_,rfl,gN.k (k:=Sum.inr k) ha,_,rfl,?_⟩
 rw[Bp]
 have e:(if k∈ks then some (V.bl true) else none).isSome=decide (k∈ks):=by by_cases h:k∈ks<;>simp[h]
 rw[e]
 exact q H1 R1 E1 s1
end
section
variable {prog:RJ}{w:World}{K:Type} [DecidableEq K]{knd:KeyKind prog w K}{A:RL}{E:Value->RA->Prop}{s:RA}
theorem CO {d:Addr}{kvs:List (K×Value)}{k:K}{key dflt:Value}{Q:Value->RA->Prop}(Wm:knd.is k key=true)(hm:s.heap.DictOf knd d kvs)
 (Yd:∀v,Sa kvs k=some v->Q v {s with toks:=s.toks+1})
 (hnew:Sa kvs k=none->∀h',h'.DictOf knd d (S9 kvs k dflt)->TY d s.heap h'->Q dflt {s with heap:=h',toks:=s.toks+1})
 (hsz:kvs.length<=RE):wpAny (model prog w) A (Ta d key dflt) Q E s:=by
 have hmap:=hm.mapOf
 obtain⟨o,es,ep,ho,hc,hd,hk,hp,hn⟩:=hm
 have hes:es.size<=RE:=by
  have e1:=hp.length
  have e2:es.toList.length=es.size:=by simp
  omega
 obtain⟨o2,es2,ep2,ho2,hc2,hd2,W3,hf⟩:=hmap
 rw[ho] at ho2;cases ho2
 rw[hd] at hd2;cases hd2
 unfold Ta
 try with_reducible refine Sr ?_
 refine RF (knd.pyHash Wm ?_)
 refine RF (wpAny_dictFind_of (s:={s with toks:=s.toks+1}) Wm ho hd hk ?_)
 have hidx:(es.findIdx? λe=>knd.is k e.key)=kvs.findIdx? λkv=>decide (kv.1=k):=by
  rw[← hp.findIdx k];obtain⟨l⟩:=es;simp
 cases hi:es.findIdx? λe=>knd.is k e.key with
 | some i=>
   have hfk:Sa kvs k=(es[i]?).map (·.val):=by rw[← hf k,findBy_of_findIdx?,hi]
   refine RF (wpAny_dictEntries (s:={s with toks:=s.toks+1}) ho hd ?_)
   cases he:es[i]? with
   | none=>
     exfalso
     have:=Array.findIdx?_eq_some_iff_findIdx_eq.mp hi
     have VJ:i<es.size:=this.1
     rw[Array.getElem?_eq_getElem VJ] at he
     exact nomatch he
   | some e=>
     rw[he] at hfk
     exact RF (SJ (RH (Yd e.val hfk)))
 | none=>
   have hfk:Sa kvs k=none:=by rw[← hf k,findBy_of_findIdx?,hi]
   have Ze:k∉kvs.map (·.1):=not_mem_of_findIdx_none (hidx▸hi)
   have Zz:¬(kvs.any λkv=>decide (kv.1=k))=true:=by
    rw[QQ];rintro⟨kv,hkv,he⟩
    exact Ze (Pe.mpr ⟨kv,hkv,UM he⟩)
   refine RF (SJ (RF (wpAny_updateDictKeys (hz:=hes) (s:={s with toks:=s.toks+1}) ho hd (RH (hnew hfk _ ⟨_,_,ep+1,TZ _ ho (Obj.isFreed_of_dict (Obj.data_mapDictKeys hd _)),
    hc.mapDictKeys _,Obj.data_mapDictKeys hd _,hk.push Wm _,?_,?_⟩ (TY.update ..))))))
   ·rw[S9,UK Zz]
    have:=hp.append Wm (knd.hash k) dflt
    obtain⟨l⟩:=es
    simpa using this
   ·rw[S9,UK Zz,Ph,P6]
    refine⟨hn,by simp,?_⟩
    intro a ha b hb
    simp only[PH,map_nil,O0] at hb
    subst hb
    exact λe=>Ze (e▸ha)
theorem BI {d:Addr}{kvs:List (K×Value)}{k:K}{key:Value}(Wm:knd.is k key=true)(hd:(d==R7)=false)(dflt:Value)(hsz:kvs.length<=RE):
 MeetsIn prog w (Builtin.«dict.setdefault» ⟨[.ref d,key,dflt],[]⟩) (λ_ R s=>s.heap.DictOf knd d kvs/\
  (∀v,Sa kvs k=some v->R (.ok (.ret v)) {s with toks:=s.toks+1})/\
  (Sa kvs k=none->∀h',h'.DictOf knd d (S9 kvs k dflt)->TY d s.heap h'->R (.ok (.ret dflt)) {s with heap:=h',toks:=s.toks+1})):=
 .of_wp λA R s ⟨hm,h1,h2⟩=>by
  unfold Builtin.«dict.setdefault»
  refine RF ?_
  unfold Builtin.Dict.keyAndDefault
  refine RF (wpAny_notOrdered_dict hm.mapOf.typeIs ?_)
  show wpAny _ _ (pure (d,key,some dflt)) _ _ s
  refine RH ?_
  show wpAny _ _ (if(d==R7)=true then _ else(Ta d key dflt >>=_)) _ _ s
  rw[UK (by rw[hd];exact OJ)]
  exact RF (CO Wm hm (λv hv=>RH ⟨v,rfl,h1 v hv⟩) (λhn h' hm' hs'=>RH ⟨dflt,rfl,h2 hn h' hm' hs'⟩) hsz)
end
section
variable {X:Cx}{Γ Γ1 Γ2 Γ3:Ga}{α β γ δ:Type}{N:Ga->Prop}{T:RT}{tg:Expr}
variable {x:Str}{pos:Pos}
def Lo:V->List V->Hp->VK->Prop:=λx vs H Q=>∃(a:Addr) (F:OH) (k v:Int),x= .ref a/\vs=[.int k,.int v]/\H a=some (.dK (cz (cR F)))/\F.length<RE/\∀u,Q u (if(bA F k).isSome then H else upd H a (.dK (cz (cR (F++[(k,v)])))))
theorem Ft:wJ X "dict.setdefault" Lo:=by
 intro UT s σ H x vs u us Q I rx rv h
 obtain⟨a,F,k,v,rfl,rfl,hH,hz,q⟩:=h
 cases rx
 obtain⟨u1,u2,rfl,⟨t,rfl⟩,⟨t2,rfl⟩⟩:=vals2 rv
 obtain⟨z,hd,kvs,rel,dd⟩:=xQ I.UZ hH
 have hzl:kvs.length<=RE:=by rw[← rel.length];exact z
 have Wz:=rel.val (Sum.inl k:Key)
 rw[kW] at Wz
 refine call_meetsIn PySem.F.slot_dict_setdefault dd.typeIs PySem.F.entry_dict_setdefault (PySem.F.args_dict_setdefault_3 _ _ _) (BI (knd:=bW X.prog X.w) (kvs:=kvs) (jm (k:=Sum.inl k) (u:=.int k t) ⟨t,rfl⟩) hd (.int v t2) hzl) ⟨dd,λw' hw=>?_,λhn h' Xo hs=>?_⟩
 ·cases e:bA F k with
  | none=>rw[e,hw] at Wz;cases Wz
  | some y=>
    rw[e,hw] at Wz
    have:=q (.int y)
    rw[e,UL (show(some y).isSome=true from rfl)] at this
    exact⟨.int y,H,I.tok _,Wz,this⟩
 ·cases e:bA F k with
  | some y=>rw[e,hn] at Wz;cases Wz
  | none=>
    have:=q (.int v)
    rw[e,UK (by decide)] at this
    have hput:putK (cz (cR F)) (Sum.inl k:Key) (.int v)=cz (cR (F++[(k,v)])):=by
     rw[uU];unfold lR;rw[e,UK (by decide)]
    have hl:(cz (cR (F++[(k,v)]))).length<=RE:=by unfold cz cR;simp;omega
    refine⟨.int v,_,m8 I (by rw[hH];exact UI) hs (let ⟨q,_,_,hq,_⟩:=Xo;⟨q,hq⟩) (uj hl hd ?_ Xo),⟨t2,rfl⟩,this⟩
    rw[← hput]
    exact rel.put (Sum.inl k:Key) ⟨t2,rfl⟩
theorem set_same.{u}{A:Type u}{l:List A}{i:Nat}{x:A}(h:l[i]?=some x):l.set i x=l:=by
 refine PX λj=>?_
 by_cases e:i=j
 ·subst e;rw[Pc (OW.mp h).1,h]
 ·rw[Pq e]
theorem Iz (i:Nat){e f:Expr}{p1 ap cp:Pos}{F:OH}{k v:Int}(he:EV X e Γ ah k Γ)(hf:EV X f Γ ah v Γ)(hΓ:Γ[i]?=some (.di (cR F)))(hz:F.length<RE)(h:N (Γ.set i (.di (cR (if(bA F k).isSome then F else F++[(k,v)])))))
 (hN:X.N[i]?=some x:=by rfl) (hv:autoParam (cC X.env.scope x) Vo)
 (hd:Vd x:=by decide) (U0:Vp x:=by decide)
 (VR:RN (.Call (.Attribute (.Name x p1) "setdefault" ap) [e,f] [] cp) none pos.line X.env=pure false:=by rfl)
 (U2:RK (.Name x p1) "setdefault" X.env (eval (.Name x p1) X.env)=eval (.Name x p1) X.env:=by rfl)
 (Vg:((RM cp (RC [e,f] X.env)).all (λx=> !x.1)&&(Sb cp (RX [] X.env)).all (λx=>x.1.isSome)
  &&decide ([e,f].length+([]:List RP).length+(if([]:List RP).isEmpty then 0 else 1)<30))=true:=by rfl)
 (U1:(ap.endLine==cp.line)=true:=by rfl) (hs:RC [e,f] X.env=(false,eval e X.env)::RC [f] X.env:=by rfl) (Vv:RC [f] X.env=(false,eval f X.env)::RC [] X.env:=by rfl) (Ve:(RM cp (RC [f] X.env)).any (·.1)=false:=by rfl):
 W1 X (.Expr (.Call (.Attribute (.Name x p1) "setdefault" ap) [e,f] [] cp) pos) Γ N T:=λσ H0 R0 H R E D dn dr=>by
 obtain⟨a,ea,ha,hR⟩:=E.ent i _ hΓ
 refine sS (fz (gw PySem.F.plainAttrs_dict PySem.F.slot_dict_setdefault PySem.F.type_dict_setdefault Ft (bb hN hv hd U0) (aM aL (aM aL bB Vv) hs) U2 Vg U1 hs Ve) VR) ?_
 refine⟨.ref a,at_of ea,.inr (.inr (.inl ⟨rfl,.inl ⟨_,ha⟩⟩)),he σ H0 R0 H R E _ λv1 H1 R1 E1 s1 q1=>hf σ H0 R0 H1 R1 E1 _ λv2 H2 R2 E2 s2 q2=>?_⟩
 cases q1
 cases q2
 obtain⟨a',Vs,VN,Vw⟩:=E2.ent i _ hΓ
 rw[ea] at Vs;cases Vs
 refine⟨a,F,k,v,rfl,rfl,VN,hz,λu=>?_⟩
 cases q:(bA F k).isSome with
 | true=>
   rw[q,UL rfl] at h
   rw[UL rfl]
   refine dn σ H2 R2 _ E2 (s1.trans s2) ?_
   rwa [set_same hΓ] at h
 | false=>
   rw[q,UK (by decide)] at h
   rw[UK (by decide)]
   exact dn σ _ R2 _ (E2.upd (en:=.di (cR (F++[(k,v)]))) hΓ rfl ea Vw ⟨a,rfl,aA,Vw⟩) (s1.trans s2) h
def qh (X:Cx)(e:Expr)(Γ:Ga)(k:Int):Prop:=∀(σ:St) (H0 R0 H R:Hp),au X.K σ H0 R0 H R Γ->∀(H':Hp) (Q:VK),av R H'->Q (.int k) H'->eZ X e σ H' Q
theorem vS (i:Nat){y:Int}(hΓ:Γ[i]?=some (.im ah y))(hN:X.N[i]?=some x:=by rfl)(hv:autoParam (cC X.env.scope x) Vo)
 (hd:Vd x:=by decide) (U0:Vp x:=by decide):qh X (.Name x pos) Γ y:=λσ H0 R0 H R E H' Q s q=>by
 obtain⟨v,e,h⟩:=E.ent i _ hΓ
 cases h
 exact eS (bb hN hv hd U0) ⟨_,at_of e,q⟩
theorem EW (i:Nat){ke ve le ue:Expr}{p1 p2:Pos}{k l v u:Int}(hk:qh X ke Γ k)(hl:qh X le Γ l)(hv:PE X ve (tC (.int v)))(hu:PE X ue (tC (.int u)))(YF:k≠l)(h:N (Γ.set i (.di (cR [(k,v),(l,u)]))))
 (hN:X.N.Nodup:=by first | assumption | decide) (hi:X.N[i]?=some x:=by rfl) (hx:autoParam (Loc X.env.scope x) Wv)
 (hs:RN (.Dict [some ke,some le] [ve,ue] p2) (some (.Name x p1)) pos.line X.env=pure false:=by rfl) (hf:autoParam (X.fn x=true∨X.env.scope.names.lookup x=some .local) Wu):
 W1 X (.Assign [.Name x p1] (.Dict [some ke,some le] [ve,ue] p2) pos) Γ N T:=λσ H0 R0 H R E D dn dr=>by
 refine sS (jv hN hi hx (Ew (uM aL hv (uM aL hu Fn)) rfl rfl (by simp) (by simp)) hs hf) λp hp=>?_
 have sR:av R (upd H p (.dK [])):=E.sub.trans (av.fresh hp _)
 refine hk σ H0 R0 H R E _ _ sR ?_
 refine hl σ H0 R0 H R E _ _ sR ?_
 refine⟨aA,[(Sum.inl k,.int v),(Sum.inl l,.int u)],rfl,(by show 2<=15;decide),?_⟩
 have E1:=E.grow (Ext.dJ E.sub hp (.dK (cz (cR [(k,v),(l,u)]))))
 have e:upd (upd H p (.dK [])) p (.dK (lu [] [(Sum.inl k,.int v),(Sum.inl l,.int u)]))=upd H p (.dK (cz (cR [(k,v),(l,u)]))):=by
  rw[FO]
  congr 2
  show putK [((Sum.inl k:Key),V.int v)] (Sum.inl l) (.int u)=_
  rw[oh (.int u) (by
   rw[dc (p:=((Sum.inl k:Key),V.int v)) (λz=>YF (Sum.inl.inj z))];rfl)]
  rfl
 rw[e]
 exact dn _ _ R _ (E1.yo (u:=.dK (cz (cR [(k,v),(l,u)]))) (en:=.di (cR [(k,v),(l,u)])) i ⟨p,rfl,aA,E.sub.free hp⟩ (E.ext.h.free hp) λj e _ q w=>E.off hp j e q w) (av.refl _) h
theorem Fx {iter:Expr}{xs:List PV}(hz:xs.length<=RE)(h:EV X iter Γ aI (.tup xs) Γ1):IV X tg iter Γ aI xs Γ1:=by
 refine⟨_,AJ aL,λσ H0 R0 H R E Rq q=>h σ H0 R0 H R E _ λv H1 R1 E1 s1 e1=>?_⟩
 cases e1 with
 | @tup a vs _ hp pp=>
   have Xd:∀H' R':Hp,av R1 R'->av R' H'->du X.K H' a vs:=λH' R' sR sH=>du.of (sH _ _ (sR _ _ hp))
   refine⟨a,rfl,⟨_,Xd H1 R1 (av.refl _) E1.sub⟩,q _ H1 R1 E1 s1 hz λH' R' sR sH i=>⟨λx hx=>?_,λhi=>⟨_,Xd H' R' sR sH,by rw[pp.pair.length];exact hi⟩⟩⟩
   obtain⟨v,hv,hr⟩:=dm pp.pair hx
   refine⟨⟨_,_,Xd H' R' sR sH,hv⟩,λv2 H2 hy=>?_⟩
   obtain⟨rfl,hy⟩:=hy
   have:=hy _ (Xd _ R' sR sH)
   rw[hv] at this
   cases this
   exact⟨R',Ext.refl sH,hr.mono sR⟩
end
section
variable {X:Cx}{Γ Γ1 Γ2 Γ3:Ga}{α β γ δ:Type}{N:Ga->Prop}{T:RT}
theorem Cz (i:Nat){x:Str}{p p1 pos:Pos}{F:OH}(hm:X.mg "len"=none)(hΓ:Γ[i]?=some (.di (cR F)))(hN:X.N[i]?=some x:=by rfl)(hv:autoParam (cC X.env.scope x) Vo)
 (hd:Vd x:=by decide) (U0:Vp x:=by decide) (hs:RC [.Name x p1] X.env=[(false,eval (.Name x p1) X.env)]:=by rfl) (hg:Gl X "len":=by rfl):EV X (.Call (.Name "len" p) [.Name x p1] [] pos) Γ ah (F.length:Int) Γ:=by
 intro σ H0 R0 H R E Q q
 obtain⟨a,ea,ha,hR⟩:=E.ent i _ hΓ
 refine eS (eh rj hg hm Sj (aM (bb hN hv hd U0) bB hs) (by decide) (by decide) hs) ⟨.ref a,at_of ea,a,_,rfl,ha,?_⟩
 unfold cz cR
 rw[OZ,OZ]
 exact q _ H R E (av.refl _) rfl
end
section
variable {X:Cx}{Γ Γ1 Γ2 Γ3:Ga}{α β γ δ:Type}{N:Ga->Prop}{T:RT}
variable {a:Addr}{ps:List PT}
theorem BE (i j:Nat){x:Str}{e:Expr}{p1 ap cp pos:Pos}{q0:PT}{n:Nat}{y:PV}(he:ib X e Γ y Γ1)(hΓ:Γ[i]?=some (.ob (cu a ps)))(hj:Γ[j]?=some (.im jQ q0.2.1))(hq:ps[n]?=some q0)(hΓ1:Γ1[i]?=some (.ob (cu a ps)))(hz:q0.1.length<RE)(h:∀g,N (Γ1.set i (.ob (cu a (ps.set n (q0.1++[y],q0.2.1,g))))))
 (hN:X.N[j]?=some x:=by rfl) (hv:autoParam (cC X.env.scope x) Vo)
 (hd:Vd x:=by decide) (U0:Vp x:=by decide)
 (VR:RN (.Call (.Attribute (.Name x p1) "append" ap) [e] [] cp) none pos.line X.env=pure false:=by rfl)
 (U2:RK (.Name x p1) "append" X.env (eval (.Name x p1) X.env)=eval (.Name x p1) X.env:=by rfl)
 (Vg:((RM cp (RC [e] X.env)).all (λx=> !x.1)&&(Sb cp (RX [] X.env)).all (λx=>x.1.isSome)
  &&decide ([e].length+([]:List RP).length+(if([]:List RP).isEmpty then 0 else 1)<30))=true:=by rfl)
 (U1:(ap.endLine==cp.line)=true:=by rfl) (hs:RC [e] X.env=(false,eval e X.env)::RC [] X.env:=by rfl):W1 X (.Expr (.Call (.Attribute (.Name x p1) "append" ap) [e] [] cp) pos) Γ N T:=λσ H0 R0 H R E D dn dr=>by
 obtain⟨⟨v,ea,rfl,k⟩,hR⟩:=E.ent i _ hΓ
 obtain⟨v0,e0,Xu⟩:=E.ent j _ hj
 cases Xu
 obtain⟨ys,b,g⟩:=q0
 cases (k.pt n _ hq).1 with
 | @lst _ YN _ _ Yr tt0 zz0=>
 refine sS (fz (gw Tw Tx Tz gL (bb hN hv hd U0) (aM aL bB hs) U2 Vg U1 hs rfl) VR) ?_
 refine⟨.ref b,at_of e0,.inl ⟨rfl,YN,aU.of Yr⟩,he σ H0 R0 H R E _ λu fy H1 R1 E1 s1 ty ndy ky=>?_⟩
 obtain⟨⟨v,YL,rfl,k1⟩,XB⟩:=E1.ent i _ hΓ1
 obtain⟨tq,ndq,naq⟩:=k1.pt n _ hq
 cases tq with
 | @lst _ vs _ _ hb tt zz=>
 obtain⟨nb,ndg⟩:=Pw.mp ndq
 refine⟨b,vs,u,rfl,rfl,hb,by rw[tt.len];exact hz,?_⟩
 have Wj:∀c∈fy,c∉b::g:=λc hc w=>(ky c hc).2.2 i _ hΓ1 (O2 _ (cZ.mpr ⟨n,_,hq,w⟩))
 refine dn σ _ R1 _ (E1.DB hΓ1 hq (ws:=vs++[u]) (g':=g++fy) ?_ (Pw.mpr ⟨λw=>?_,P6.mpr ⟨ndg,ndy,λc hc d hd e=>Wj d hd (by rw[← e];exact O2 _ hc)⟩⟩) λc hc=>?_) s1 (h _)
 ·have:=bO.app (tt.loc (H':=L2.upd H1 b (.lst (vs++[u]))) λc hc=>aB λe=>nb (e▸hc)) (bO.cons (ty.loc (H':=L2.upd H1 b (.lst (vs++[u]))) λc hc=>aB λe=>Wj c hc (by rw[e];exact O3)) .nil)
  rw[Px] at this
  exact .lst aA this (by rw[O4,Py];exact hz)
 ·rcases Pa.mp w with w | w
  ·exact nb w
  ·exact Wj b w O3
 ·rcases Pa.mp hc with w | w
  ·exact .inl w
  ·exact .inr (ky c w)
theorem EC (i:Nat){tg:Expr}{x:Str}{p1:Pos}{body:List Stmt}{pos:Pos}{bf:Addr->Ga->Ga}(I:Nat->Ga->Prop)(hΓ:Γ[i]?=some (.ob (cu a ps)))(hb:BG X tg jQ bf)(h0:I 0 Γ)(hI:∀k Γ,I k Γ->∃qs:List PT,Γ[i]?=some (.ob (cu a qs))/\qs.map (·.2.1)=ps.map (·.2.1))
 (VF:∀(k:Nat) (p:PT) (Γ:Ga),ps[k]?=some p->I k Γ->WS X body (bf p.2.1 Γ) (I (k+1)) T) (VY:∀Γ:Ga,I ps.length Γ->N Γ)
 (hN:X.N[i]?=some x:=by rfl) (hv:autoParam (cC X.env.scope x) Vo)
 (hd:Vd x:=by decide) (U0:Vp x:=by decide)
 (hc:X.calm=true:=by rfl) (hp:S0 (model X.prog X.w) X.A X.env X.xe:=by exact S0.never) (hs:∀y,RY (.Name x p1) X.env y=pure y:=by intro _;rfl):W1 X (.For tg (.Name x p1) body [] pos) Γ N T:=λσ H0 R0 H R E D dn dr=>by
 obtain⟨⟨v,ea,rfl,k0⟩,hR⟩:=E.ent i _ hΓ
 have roots:∀qs:List PT,qs.map (·.2.1)=ps.map (·.2.1)->(qs.map λp=>V.ref p.2.1)=ps.map λp=>V.ref p.2.1:=λqs h=>by
  have:=congrArg (List.map V.ref) h
  rwa [PQ,PQ] at this
 refine sS (yH hp hc (wD (bb hN hv hd U0)) M7 i9 hs) ⟨.ref a,at_of ea,a,rfl,⟨_,aU.of k0.hd⟩,?_⟩
 refine⟨λk m σ' H'=>m=ps.length-k/\k<=ps.length/\∃R' Γ',au X.K σ' H0 R0 H' R' Γ'/\av R R'/\I k Γ',⟨_,rfl,QY _,R,Γ,E,av.refl _,h0⟩,?_⟩
 rintro k m σ' H' ⟨rfl,hle,R',Γ',E',s',hIk⟩
 obtain⟨qs,hy,hqs⟩:=hI k Γ' hIk
 obtain⟨⟨v,Vs,rfl,k1⟩,_⟩:=E'.ent i _ hy
 have VN:H' a=some (.lst (ps.map λp=>.ref p.2.1)):=by rw[k1.hd,roots qs hqs]
 by_cases VJ:k<ps.length
 ·have hk:(ps.map λp=>V.ref p.2.1)[k]?=some (.ref ps[k].2.1):=by rw[O5,OX VJ];rfl
  refine .inr ⟨⟨_,_,aU.of VN,hk⟩,λσ' H'=>k+1<=ps.length/\∃R' Γ',au X.K σ' H0 R0 H' R' Γ'/\av R R'/\I (k+1) Γ',λσ2 H2 h=>⟨ps.length-(k+1),by omega,rfl,h.1,h.2⟩,λv H2 Xb=>?_⟩
  obtain⟨rfl,Xb⟩:=Xb
  have:=Xb _ (aU.of VN)
  rw[hk] at this
  cases this
  refine hb σ' H0 R0 H2 R' Γ' _ ps[k].2.1 E' rfl _ λσ2 E2=>?_
  exact VF k ps[k] Γ' (OX VJ) hIk σ2 H0 R0 H2 R' E2 _ (λσ3 H3 R3 Γ3 E3 s3 h3=>⟨VJ,R3,Γ3,E3,s'.trans s3,h3⟩) dr
 ·have e:k=ps.length:=by omega
  subst e
  exact .inl ⟨⟨_,aU.of VN,by rw[OZ];exact QW _⟩,dn σ' H' R' Γ' E' s' (VY Γ' hIk)⟩
theorem Gs {i j:Nat}{n:Nat}{q0:PT}(hΓ:Γ[i]?=some (.ob (cu a ps)))(hj:Γ[j]?=some (.im jQ q0.2.1))(hq:ps[n]?=some q0)(σ:St)(H0 R0 H R:Hp)(E:au X.K σ H0 R0 H R Γ):au X.K σ H H H H ((Γ.map lV).set j (.im (ae aI) q0.1)):=by
 obtain⟨⟨v,ea,rfl,k⟩,_⟩:=E.ent i _ hΓ
 obtain⟨v0,e0,Xu⟩:=E.ent j _ hj
 cases Xu
 cases (k.pt n _ hq).1 with
 | @lst _ vs _ _ hb tt zz=>
 exact E.VP.j9 (i:=j) (e0:=.im jQ q0.2.1) (by rw[O5,hj];rfl) ⟨_,e0,_,vs,rfl,hb,tt.rG.pair,zz⟩ λb w=>by cases w
theorem wj {K:Uk}{R:Hp}:∀{vs:List V} {xs:List Row},PySem.Paired (d9.R K R) vs xs->dO R vs (xs.map λr=>.tup [.int r.1,.int r.2.1,.int r.2.2.1,.int r.2.2.2])
 | _,_,.nil=>.nil
 | _,_,.cons ⟨a,e,q⟩ t=>by
   subst e
   exact .cons (.tup q (.cons (.int _) (.cons (.int _) (.cons (.int _) (.cons (.int _) .nil))))) (wj t)
def yj (v:fq):PV:=.tup [.lst (v.1.map PV.int),.lst (v.2.map λr=>.tup [.int r.1,.int r.2.1,.int r.2.2.1,.int r.2.2.2])]
theorem EV.Jn {e:Expr}{v:fq}(h:EV X e Γ jH v Γ1):EV X e Γ aI (yj v) Γ1:=h.re λK R u ⟨a,v1,v2,e,q,⟨a1,vs1,e1,q1,p1,z1⟩,⟨a2,vs2,e2,q2,p2,z2⟩⟩=>by
 subst e e1 e2
 exact .tup q (.cons (.lst q1 (qD p1) (by rw[OZ];exact z1)) (.cons (.lst q2 (wj p2) (by rw[OZ];exact z2)) .nil))
end
section
variable {X:Cx}{Γ Γ1 Γ2 Γ3:Ga}{α β γ δ:Type}{N:Ga->Prop}{T:RT}
theorem ud {a:Expr}{p pos:Pos}{F:OH}(hm:X.mg "len"=none)(ha:EV X a Γ iW F Γ1)(hs:RC [a] X.env=[(false,eval a X.env)]:=by rfl)(hg:Gl X "len":=by rfl):EV X (.Call (.Name "len" p) [a] [] pos) Γ ah (F.length:Int) Γ1:=
 EV.cast (EO (kvs:=cR F) hm (EV.rep ha λ_ _ q=>q) hs hg) (by unfold cR;rw[OZ])
end
section
variable {X:Cx}{Γ Γ1 Γ2 Γ3:Ga}{α β γ δ:Type}{N:Ga->Prop}{T:RT}
theorem uy:gJ X .IsNot iF iF () () false:=⟨_,Fv,λR H v u Q _ e1 e2 q=>by
 cases e1
 cases e2
 exact⟨rfl,q⟩⟩
theorem Ae {j:Nat}{pos:Pos}:EV X (.Constant .none j pos) Γ iF () Γ:=λσ H0 R0 H R E Q q=>eS JG (q .U8 H R E (av.refl _) rfl)
end
def FlE:Ent->Prop
 | .no=>True
 | .im _ _=>True
 | _=>False
def vh:Ga->Prop
 | []=>True
 | e::r=>FlE e/\vh r
theorem vh.fp:∀{Γ:Ga},vh Γ->∀(i:Nat) (e:Ent),Γ[i]?=some e->∀o,e.fp o=[]
 | e::_,⟨h,_⟩,0,_,q,o=>by
   cases q
   cases e with
   | no=>rfl
   | im _ _=>rfl
   | mu _ _=>exact h.elim
   | di _=>exact h.elim
   | ob _=>exact h.elim
 | _::r,⟨_,h⟩,i+1,e,q,o=>vh.fp h i e (by simpa using q) o
 | [],_,i,e,q,o=>by simp at q
theorem au.D2 {K:Uk}{σ:St}{H0 R0 H R:Hp}{Γ:Ga}(E:au K σ H0 R0 H R Γ)(fl:vh Γ):au K σ H R H R Γ:=
 ⟨⟨av.refl _,av.refl _,E.sub,λ_ _=>rfl⟩,E.ent,(λi e a q w=>by rw[fl.fp i e q] at w;cases w),(λi j e e' a q q' w w'=>by rw[fl.fp i e q] at w;cases w),E.len⟩
section
variable {X:Cx}{Γ Γ1 Γ2 Γ3:Ga}{α β γ δ:Type}{N:Ga->Prop}{T:RT}
def HG (X:Cx)(e:Expr)(Γ:Ga){α:Type}(r:Rep α)(P:List α->Prop)(Γ':Ga):Prop:=
 ∀(σ:St) (H0 R0 H R:Hp),au X.K σ H0 R0 H R Γ->∀Q:VK,(∀a vs ys H' R',au X.K σ H0 R0 H' R' Γ'->av R R'->H' a=some (.lst vs)->R' a=none->H0 a=none->Off a σ Γ'->PySem.Paired (r.R X.K R') vs ys->ys.length<=RE->P ys->Q (.ref a) H')->eZ X e σ H Q
theorem aZ.evr {e:Expr}{r:Rep α}{ys:List α}{P:List α->Prop}(h:aZ X e Γ r ys Γ1)(hp:P ys):HG X e Γ r P Γ1:=λσ H0 R0 H R E Q q=>h σ H0 R0 H R E Q λa vs H' R' E' s' h1 h2 h3 h4 h5 h6=>q a vs ys H' R' E' s' h1 h2 h3 h4 h5 h6 hp
theorem yr {tg elt:Expr}{scope:Scope}{cl:List (Str×Addr)}{own fr:OC}{ix:List Nat}{ra:Rep α}{rb:Rep β}{xs:List α}{P:α->List β->Prop}{bf:α->Ga->Ga}{J:It}{σ:St}{H0 R0 H1 R1:Hp}{Q:VK}(E1:au X.K σ H0 R0 H1 R1 Γ1)(src:Src X.K J R1 ra xs)(hz:xs.length<=RE)
 (hb:∀(C:Addr) (s:RA) (H:Hp) (ex:OE),BG (bu X scope cl C (own++fr) s H ex) tg ra bf) (hw:∀x,Wk (bf x (dF own ix Γ1)) (dF own ix Γ1)) (hfl:∀x,vh (bf x (dF own ix Γ1)))
 (he:∀(C:Addr) (s:RA) (H:Hp) (ex:OE) x,x∈xs->HG (bu X scope cl C (own++fr) s H ex) elt (bf x (dF own ix Γ1)) rb (P x) (bf x (dF own ix Γ1)))
 (q:∀a bs VH H' R',Ext H1 R1 H' R'->H' a=none->hZ X.K rb H' R' bs VH->bs.Nodup->(∀b∈bs,H1 b=none/\R' b=none)->PySem.Paired P xs VH->(∀ys∈VH,ys.length<=RE)->Q (.ref a) (upd H' a (.lst (bs.map .ref)))):
 ∃W:Nat->Nat->List V->St->Hp->Prop,(∃m,W 0 m [] (gu own ix σ) H1)/\∀i m ys σ' H',W i m ys σ' H'->
  ys.length<=RE/\((J.stop i H'/\∀p,H' p=none->Q (.ref p) (upd H' p (.lst ys)))∨
  (J.go i H'/\∀x H2,J.Yz i H' x H2->(λv σ H Q=>∀C s Hh ex,my (bu X scope cl C (own++fr) s Hh ex) tg v σ H Q:TG) x σ' H2 λσ2 H3=>(λσ H Q=>∀C s Hh ex,oa (bu X scope cl C (own++fr) s Hh ex) [] σ H Q:TT) σ2 H3 λb H4=>
    if b=true then(λσ H Q=>∀C s Hh ex,eZ (bu X scope cl C (own++fr) s Hh ex) elt σ H Q:TE) σ2 H4 λv H5=>∃m',m'<m/\W (i+1) m' (ys++[v]) σ2 H5 else∃m',m'<m/\W (i+1) m' ys σ2 H4)):=by
 refine⟨λi m ys σ' H'=>m=xs.length-i/\i<=xs.length/\∃R' bs VH,au X.K σ' H1 R1 H' R' (dF own ix Γ1)/\ys=bs.map .ref/\hZ X.K rb H' R' bs VH/\bs.Nodup/\(∀b∈bs,H1 b=none/\R' b=none)/\PySem.Paired P (xs.take i) VH/\∀ys∈VH,ys.length<=RE,⟨_,rfl,QY _,R1,[],[],ux E1 own ix,rfl,⟨rfl,λi b r h1=>by simp at h1⟩,Qw,(λb hb=>by cases hb),(.nil:PySem.Paired P [] []),(λys hy=>by cases hy)⟩,?_⟩
 rintro i m ys σ' H' ⟨rfl,hle,R',bs,VH,E',rfl,hrs,Ym,Yq,pq,hsz⟩
 have hbl:bs.length=i:=by rw[hrs.1,← pq.length,Pl];omega
 have hys:(bs.map V.ref).length<=RE:=by rw[OZ,hbl];omega
 obtain⟨YR,Wg⟩:=src H' R' E'.ext.r E'.sub i
 refine⟨hys,?_⟩
 by_cases VJ:i<xs.length
 ·obtain⟨go,yl⟩:=YR _ (OX VJ)
  have WB:xs[i]∈xs:=PD VJ
  have tk:(xs.take (i+1))=xs.take i++[xs[i]]:=by rw[PJ,OX VJ];rfl
  refine .inr ⟨go,λv H2 hy C s Hh ex=>?_⟩
  obtain⟨R2,x2,hr⟩:=yl v H2 hy
  refine hb C s Hh ex σ' H1 R1 H2 R2 _ v _ (E'.grow x2) hr _ λσ2 E2=>?_
  intro C s Hh ex
  refine(dE (X:=bu X scope cl C (own++fr) s Hh ex)) σ2 H2 R2 H2 R2 (E2.D2 (hfl _)) _ λH4 R4 E4 s4=>?_
  rw[UL rfl]
  intro C s Hh ex
  refine he C s Hh ex _ WB σ2 H4 R4 H4 R4 (E4.D2 (hfl _)) _ λa vs zs H5 R5 E5 s5 ha hR h0 off pp WT hP=>?_
  have x5:Ext H' R' H5 R5:=x2.trans (E4.ext.trans E5.ext)
  have x25:Ext H2 R2 H5 R5:=E4.ext.trans E5.ext
  have V6:∀b∈bs,H' b≠none:=λb hb=>by
   obtain⟨r,hr⟩:=hrs.one hb
   rw[hr];exact Rm _
  have hold:∀b∈bs,b≠a:=λb hb e=>by
   have:H4 b≠none:=av.some (x2.h.trans E4.ext.h) (V6 b hb)
   exact this (e▸h0)
  refine⟨xs.length-(i+1),by omega,rfl,VJ,R5,bs++[a],VH++[zs],(E2.grow x25).weak (hw _),by rw[Ph];rfl,?_,?_,λb hb=>?_,?_,λys hy=>?_⟩
  ·refine hZ.snoc (hZ.loc hrs (λc hc=>?_) x5.r) ha pp
   cases e:H' c with
   | none=>exact UJ e (V6 c hc)
   | some u=>exact x5.h c u e
  ·exact iy Ym λz=>hold a z rfl
  ·rcases Pa.mp hb with z | z
   ·exact⟨(Yq b z).1,(x5.old b (V6 b z)).trans (Yq b z).2⟩
   ·rw[O0.mp z]
    exact⟨(E'.ext.h.trans (x2.h.trans E4.ext.h)).free h0,hR⟩
  ·rw[tk]
   exact dh pq (.cons hP .nil)
  ·rcases Pa.mp hy with z | z
   ·exact hsz ys z
   ·rw[O0.mp z];exact WT
 ·have e:i=xs.length:=by omega
  subst e
  rw[PK] at pq
  exact .inl ⟨Wg (QW _),λa ha=>q a bs VH H' R' E'.ext ha hrs Ym Yq pq hsz⟩
theorem Fw (i:Nat){y:Str}{py Wh:Pos}{tg elt iter:Expr}{scope:Scope}{pos:Pos}{cl:List (Str×Addr)}{own fr:OC}{ix:List Nat}{ra:Rep α}{rb:Rep β}{xs:List α}{P:α->List β->Prop}{bf:α->Ga->Ga}
 (S:eR X scope cl own fr ix) (hit:IV X tg iter Γ ra xs Γ1)
 (hb:∀(C:Addr) (s:RA) (H:Hp) (ex:OE),BG (bu X scope cl C (own++fr) s H ex) tg ra bf) (hw:∀x,Wk (bf x (dF own ix Γ1)) (dF own ix Γ1)) (hfl:∀x,vh (bf x (dF own ix Γ1)))
 (he:∀(C:Addr) (s:RA) (H:Hp) (ex:OE) x,x∈xs->HG (bu X scope cl C (own++fr) s H ex) elt (bf x (dF own ix Γ1)) rb (P x) (bf x (dF own ix Γ1)))
 (h:∀a bs VH,PySem.Paired P xs VH->(∀ys∈VH,ys.length<=RE)->N (Γ1.set i (.ob (o9 rb a bs VH))))
 (VR:RN (.ListComp elt [⟨tg,iter,[],0⟩] scope pos) (some (.Name y py)) Wh.line X.env=pure true:=by rfl)
 (hN:X.N.Nodup:=by first | assumption | decide) (Zq:X.N[i]?=some y:=by rfl) (hx:autoParam (Loc X.env.scope y) Wv)
 (hc:X.calm=true:=by rfl) (hs:∀x,RY iter X.env x=pure x:=by intro _;rfl) (hf:autoParam (X.fn y=true∨X.env.scope.names.lookup y=some .local) Wu):
 W1 X (.Assign [.Name y py] (.ListComp elt [⟨tg,iter,[],0⟩] scope pos) Wh) Γ N T:=λσ H0 R0 H R E D dn dr=>by
 obtain⟨wi,hi,hit⟩:=hit
 refine sS (pP (i:=i) (g:=λv σ H Q=>∀C s Hh ex,my (bu X scope cl C (own++fr) s Hh ex) tg v σ H Q) (tc:=λσ H Q=>∀C s Hh ex,oa (bu X scope cl C (own++fr) s Hh ex) [] σ H Q) (te:=λσ H Q=>∀C s Hh ex,eZ (bu X scope cl C (own++fr) s Hh ex) elt σ H Q) VR hN Zq hx hc S hi
  (λC s H ex=>⟨λUT s1 σ H v u Q I r h=>h C s _ ex UT s1 u I r,λUT s1 σ H Q I h=>h C s _ ex UT s1 I,λUT s1 σ H Q I h=>h C s _ ex UT s1 I⟩) hs hf) ?_
 refine hit σ H0 R0 H R E _ λJ H1 R1 E1 s1 hz src=>yr (Q:=λv H'=>D.nx (σ.set i (some v)) H') E1 src hz hb hw hfl he λa bs VH H' R' xx ha hg Ym Yq pq hsz=>?_
 have E2:=E1.grow xx
 have E3:=E2.grow (Ext.dJ E2.sub ha (.lst (bs.map .ref)))
 have inb:∀c∈bs,H' c≠none:=λc hc=>by
  obtain⟨r,hr⟩:=hg.one hc
  rw[hr];exact Rm _
 have nab:a∉bs:=λz=>inb a z ha
 refine dn _ _ R' _ (E3.setG (en:=.ob (o9 rb a bs VH)) i ⟨⟨.ref a,rfl,rfl,aA,hg.loc (λc hc=>aB λz=>nab (z▸hc)) (av.refl _),Pw.mpr ⟨nab,Ym⟩⟩,λb hb=>?_⟩ (λb hb=>?_) λb hb j e _ qj w=>?_) (s1.trans xx.r) (h a bs VH pq hsz)
 ·rcases O7.mp hb with rfl | hb
  ·exact E2.sub.free ha
  ·exact(Yq b hb).2
 ·rcases O7.mp hb with rfl | hb
  ·exact E2.ext.h.free ha
  ·exact E1.ext.h.free (Yq b hb).1
 ·rcases O7.mp hb with rfl | hb
  ·exact E2.off ha j e qj w
  ·exact(Ent.iL (E1.ent j e qj) w).1 (Yq b hb).1
end
section
variable {P:RJ}{w:World}{K:Uk}{mg:Oz}{base:Heap}{α:Type}
theorem FV {r:Rep α}{S:jZ α}{x qual:Str}{st:Stmt}{f:Addr}{fd:RO}{N ps:OC}{k:Nat}(F:dU K x qual st f fd)(Sc:aF N ps (ai st))(hm:mg x=some (.ref f))(hb:Binds K fd ps [])(len:∀xs qs T,S K xs qs T->qs.length+1=ps.length)
 (Vc:∀(UX:Value) (A:RL) (outer:List Env) (s:RA) (H:Hp) (E:XK) (a:Addr) (xs:List α) (qs:List Pk) (T:List α->RT),bI k (A.deeper (Ru qual (ai st) s.heap.objs.size f UX))->S K xs qs T->
  WS (eI d6 P w K mg base N qual (ai st) f UX A outer s H E).h9 (bw st) (.ob (a7 a r xs)::eo qs (N.length-1)) (λΓ=>∃xs',Γ[0]?=some (.ob (a7 a r xs'))/\∀H0 H' R',T xs' H0 .U8 H' R') (vA K a r T)):aH P w K mg base x (k+1) (fF r S K):=by
 refine⟨f,fd,ps,?_,hm,F.kp,hb⟩
 refine F.ok Sc (λvs H Q E h=>?_) (λUX A outer s H vs Q E hr h=>?_)
 ·obtain⟨R,a,ws,xs,Vn,qs,T,rfl,_,_,_,_,p,hS,_⟩:=h
  rw[O8,p.length];exact len xs qs T hS
 ·obtain⟨R,a,ws,xs,Vn,qs,T,rfl,sR,hR,ha,pp,p,hS,q⟩:=h
  have hl:qs.length+1<=N.length:=by
   rw[len xs qs T hS]
   have:=congrArg List.length Sc.pre
   rw[Pl] at this
   omega
  refine⟨_,i9,Vc UX A outer s H E a xs qs T hr hS (L2.start N (.ref a::Vn)) (del H a) R H R (pR sR hR ha pp p hl) {nx:=λ_ H'=>Q .U8 H',rt:=Q} (λσ' H' R' Γ' E' _ ⟨xs',hΓ,t⟩=>?_) λv H' R' xx t=>?_⟩
  ·obtain⟨ea,⟨Wt,VN,VQ⟩,Vw⟩:=fB (E'.ent 0 _ hΓ)
   exact q .U8 H' R' Wt xs' E'.ext VN Vw VQ (t _ _ _)
  ·obtain⟨Wt,xs',h1,h2,h3,h4⟩:=t
   exact q v H' R' Wt xs' xx h1 h2 h3 h4
theorem B6 {r:Rep α}{S:jZ α}{x:Str}{st:Stmt}{N ps:OC}{k:Nat}(D:Def K mg x st ps)(Sc:aF N ps (ai st))
 (Vc:∀(f:Addr) (UX:Value) (A:RL) (outer:List Env) (s:RA) (H:Hp) (E:XK) (a:Addr) (xs:List α) (qs:List Pk) (T:List α->RT),bI k (A.deeper (Ru x (ai st) s.heap.objs.size f UX))->S K xs qs T->
  WS (eI d6 P w K mg base N x (ai st) f UX A outer s H E).h9 (bw st) (.ob (a7 a r xs)::eo qs (N.length-1)) (λΓ=>∃xs',Γ[0]?=some (.ob (a7 a r xs'))/\∀H0 H' R',T xs' H0 .U8 H' R') (vA K a r T))
 (len:∀xs qs T,S K xs qs T->qs.length+1=ps.length:=by(intros;rename_i h;repeat (first | (rw[h.1];rfl) | obtain⟨_,h⟩:=h))):aH P w K mg base x (k+1) (fF r S K):=by
 obtain⟨f,fd,F,hm,hb⟩:=D
 exact FV F Sc hm hb len (Vc f)
end
section
variable {X:Cx}{Γ Γ1 Γ2 Γ3:Ga}{α β γ δ:Type}{N:Ga->Prop}{T:RT}
def Cr (k:Str):Value->Bool
 | .str x _=>decide (x=k)
 | _=>false
def FY:V->List V->Hp->VK->Prop:=λx vs H Q=>∃(l:Addr) (ns:OC) (k:Str) (j:Nat),x= .ref l/\vs=[.str k]/\H l=some (.lst (ns.map V.str))/\ns[j]?=some k/\(∀m,m<j->ns[m]?≠some k)/\Q (.int (j:Nat)) H
theorem zy:wJ X "list.index" FY:=by
 intro UT s σ H x vs v us Q I rx rv h
 obtain⟨l,ns,k,j,rfl,rfl,hH,hj,Xe,q⟩:=h
 cases rx
 obtain⟨u,rfl,t,rfl⟩:=rv.one
 obtain⟨hz,UW,m,r1,hl,ho⟩:=I.lE hH
 have jl:j<ns.length:=(OW.mp hj).1
 have Xz:UW.length=ns.length:=by rw[← hl,OZ]
 have at_:∀(n:Nat) (h1:n<UW.length) (h2:n<ns.length),∃t',UW[n]= .str ns[n] t':=λn h1 h2=>by
  obtain⟨u,e1,t',e2⟩:=r1.get (show(ns.map V.str)[n]?=some (.str ns[n]) by rw[O5,OX h2];rfl)
  rw[OX h1] at e1
  exact⟨t',(Option.some.inj e1).trans e2⟩
 refine Sq PySem.F.slot_list_index ⟨_,ho,rfl⟩ PySem.F.entry_list_index (PySem.F.args_list_index_2 _ _)
  (SeqAt.list_indexAt l UW.toArray m _ _ (.str k t) (Cr k) j (by simpa[Xz] using jl) ?_ ?_ ?_) ⟨ho,λw hw=>?_,?_⟩
 ·have:RE<2 ^ 63-1:=by decide
  rw[OZ] at hz
  omega
 ·obtain⟨t',e⟩:=at_ j (by omega) jl
  show Cr k UW[j]=true
  rw[e]
  rw[OX jl] at hj
  exact UO (Option.some.inj hj)
 ·intro n hn Zg
  obtain⟨t',e⟩:=at_ n (by simpa using hn) (by omega)
  show Cr k UW[n]=false
  rw[e]
  refine UP λz=>Xe n Zg ?_
  rw[OX (by omega),z]
 ·have hw:w∈UW:=by simpa using hw
  obtain⟨n,hn,rfl⟩:=Qy.mp hw
  obtain⟨t',e⟩:=at_ n hn (by omega)
  rw[e]
  intro prog w E Q hq
  exact wpAny_eqBool_str hq
 ·exact⟨.int _,H,I.tok _,⟨_,rfl⟩,q⟩
theorem zk {a e:Expr}{ap cp:Pos}{ns:OC}{k:Str}{j:Nat}(ha:EV X a Γ (ae ag) ns Γ1)(he:EV X e Γ1 ag k Γ2)(hj:ns[j]?=some k)(Xe:∀m,m<j->ns[m]?≠some k)
 (U2:RK a "index" X.env (eval a X.env)=eval a X.env:=by rfl)
 (Vg:((RM cp (RC [e] X.env)).all (λx=> !x.1)&&(Sb cp (RX [] X.env)).all (λx=>x.1.isSome)
  &&decide ([e].length+([]:List RP).length+(if([]:List RP).isEmpty then 0 else 1)<30))=true:=by rfl)
 (U1:(ap.endLine==cp.line)=true:=by rfl) (hs:RC [e] X.env=(false,eval e X.env)::RC [] X.env:=by rfl):EV X (.Call (.Attribute a "index" ap) [e] [] cp) Γ ah (j:Nat) Γ2:=λσ H0 R0 H R E Q q=>by
 refine eS (gw Tw PySem.F.slot_list_index PySem.F.type_list_index zy aL (aM aL bB hs) U2 Vg U1 hs rfl) (ha σ H0 R0 H R E _ λv H1 R1 E1 s1 e1=>?_)
 obtain⟨b,vs,rfl,hb,pp,hz⟩:=e1
 have ev:=kZ pp
 subst ev
 refine⟨.inl ⟨rfl,_,aU.of (E1.sub _ _ hb)⟩,he σ H0 R0 H1 R1 E1 _ λu H2 R2 E2 s2 e2=>?_⟩
 cases e2
 exact⟨b,ns,k,j,rfl,rfl,E2.sub _ _ (s2 _ _ hb),hj,Xe,q _ _ _ E2 (s1.trans s2) rfl⟩
theorem ints4 {R:Hp}{vs:List V}{a b c d:Int}(h:dO R vs [.int a,.int b,.int c,.int d]):vs=[.int a,.int b,.int c,.int d]:=by
 cases h with
 | cons h1 t=>cases t with
   | cons h2 t=>cases t with
     | cons h3 t=>cases t with
       | cons h4 t=>cases t;cases h1;cases h2;cases h3;cases h4;rfl
theorem Fu {es:OG}{k:Nat}{pos:Pos}{r:Row}(h:EA X es Γ aI [.int r.1,.int r.2.1,.int r.2.2.1,.int r.2.2.2] Γ1):EV X (.Tuple es k pos) Γ d9 r Γ1:=
 EV.re (gG h (by show 4<=RE;decide)) λK R v e=>by
   cases e with
   | tup hp pp=>rw[ints4 pp] at hp;exact⟨_,rfl,hp⟩
end
def Bw (t:Int×Int):PV:=.tup [.int t.1,.int t.2]
theorem wU {K:Uk}{R:Hp}:∀{vs:List V} {xs:OH},PySem.Paired ((eE ah ah).R K R) vs xs->dO R vs (xs.map Bw)
 | _,_,.nil=>.nil
 | _,_,.cons h t=>by
   obtain⟨a,v1,v2,rfl,ha,g1,g2⟩:=h
   cases g1;cases g2
   exact .cons (.tup ha (.cons (.int _) (.cons (.int _) .nil))) (wU t)
section
variable {X:Cx}{Γ Γ1:Ga}
theorem EV.G8 {e:Expr}{xs:OH}(h:EV X e Γ (ae (eE ah ah)) xs Γ1):EV X e Γ aI (.lst (xs.map Bw)) Γ1:=h.re λK R v ⟨a,vs,e,q,p,z⟩=>by subst e;exact .lst q (wU p) (by rw[OZ];exact z)
end
end Fc
namespace K1
open PySem L2 Fc
open PySem.Spec hiding Row
open PyProof.Rows hiding St
open PySem.Builtin.Int (intBits)
variable {P:RJ}{w:World}{K:Uk}{mg:Oz}{base:Heap}{f:Addr}{fd:RO}
abbrev Nk (v:OB×List Fc.Row):Ent:=.im (eE (ae ah) (ae d9)) v
abbrev ar (x:Int):Ent:=.im ah x
abbrev cb (x:OB):Ent:=.im (ae ah) x
theorem mH {x y:Int}(h0:0<=x)(h1:x<4294967296):Tc x y:=.of_left (SU (by omega) (by omega))
theorem vB {n:Nat}{i:Int}(h0:0<=i)(h1:i<n):fg n i=some i.toNat:=by unfold fg;rw[UL h0,UL h1]
abbrev gX:Rep (Int×Int):=eE ah ah
theorem aK {n:Nat}(h:n<=1000000):n<=RE:=QX h (by decide)
theorem aY {α:Type}{xs:List α}{i:Int}(d:α)(h0:0<=i)(h1:i<xs.length):cy xs i=some (xs.getD i.toNat d):=by
 rw[pQ h0 h1,OX (by omega),OY,OX (by omega)];rfl
theorem oC {α:Type}{xs:List α}{y:α}(h:xs[xs.length-1]?=some y):cy xs (-1)=some y:=by
 have hl:0<xs.length:=by
  have:=(OW.mp h).1
  omega
 unfold cy fg
 rw[UK (by omega),UL (by omega)]
 show xs[((-1:Int)+(xs.length:Int)).toNat]?=_
 rw[show((-1:Int)+(xs.length:Int)).toNat=xs.length-1 by omega];exact h
end K1
namespace K1
open PySem
variable {P:RJ}{w:World}{K:Uk}{mg:Oz}{base:Heap}{f:Addr}{fd:RO}
abbrev top (i:Nat):Stmt:=PySem.Challenge.pw_fewcounters_k71_whole_back_at_the_end.main.body.getD i (.Pass ⟨0,0,0,0⟩)
abbrev vR:Nat:=12
abbrev ua:Nat:=13
abbrev px:Nat:=14
abbrev vO:Nat:=15
abbrev Kz:Nat:=16
abbrev Fs:Nat:=25
abbrev B9:Nat:=26
abbrev F8:Nat:=27
abbrev vq:Nat:=28
abbrev qO:Nat:=29
abbrev xM:Nat:=30
abbrev oE:Nat:=31
abbrev vK:Nat:=32
abbrev vL:Nat:=33
abbrev sf:Nat:=34
abbrev zQ:Nat:=35
abbrev uZ:Nat:=36
abbrev xV:Nat:=37
abbrev yx:Nat:=38
abbrev uH:Nat:=39
abbrev zO:Nat:=42
abbrev pf:Nat:=43
abbrev sr:Nat:=44
abbrev sh:Nat:=45
abbrev qT:Nat:=46
abbrev oi:Nat:=47
abbrev yv:Nat:=48
abbrev qU:Nat:=49
abbrev sq:Nat:=50
abbrev nG:Nat:=51
abbrev qL:Nat:=52
abbrev nW:Nat:=53
abbrev oV:Nat:=54
abbrev vM:Nat:=56
abbrev A0:Nat:=57
abbrev AF:Nat:=63
abbrev pK:Nat:=64
abbrev r8:Nat:=66
abbrev tZ:Nat:=67
abbrev vc:Nat:=68
abbrev qN:Nat:=69
abbrev si:Nat:=70
abbrev sO:Nat:=71
abbrev sj:Nat:=72
abbrev r9:Nat:=73
abbrev tR:Nat:=74
abbrev pN:Nat:=75
abbrev Il:Nat:=76
end K1
namespace K1
open PySem L2 Fc
open PySem.Spec hiding Row
open PyProof.Rows hiding St
open PySem.Builtin.Int (intBits)
variable {P:RJ}{w:World}{K:Uk}{mg:Oz}{base:Heap}{f:Addr}{fd:RO}
structure cH (K:Uk) (mg:Oz):Prop where
 len:mg "len"=none
 min:mg "min"=none
 range:mg "range"=none
 int:mg "int"=none
 list:mg "list"=none
 zip:mg "zip"=none
 enumerate:mg "enumerate"=none
 reversed:mg "reversed"=none
 any:mg "any"=none
 all:mg "all"=none
def sG (c:Int):Nat->Int
 | 0=>c
 | n+1=>sG c n/2147483587
def fW (d k:Int):Int:=d%10 ^ 18+48271*(k+1)
def mP (u k:Int):Int:=u*u%2147483629+69621*k
def uQ (d k:Int):Int:=mP (fW d k) k*mP (fW d k) k%2147483587
def vw (ns:OB)(k:Int):Int:=sG (ns.getD (k/8%63).toNat 0/10 ^ 18) (k%8).toNat
def sF (ns:OB)(k:Int):Bool:=decide (k/8%63<(ns.length:Int))&&decide (10 ^ 18<=ns.getD (k/8%63).toNat 0)
def aJ (ns:OB)(k:Int):Int:=
 if sF ns k=true/\0<vw ns k then vw ns k%2147483587
 else uQ (if 0<ns.length then ns.getD (k%(ns.length:Int)).toNat 0 else 0) k
theorem qI (ns:OB)(k:Int):0<=aJ ns k/\aJ ns k<2147483587:=by
 unfold aJ
 split
 ·exact⟨OR _ (by decide),OQ _ (by decide)⟩
 ·unfold uQ
  exact⟨OR _ (by decide),OQ _ (by decide)⟩
section
abbrev zx:Stmt:=top r8
abbrev MU:OC:=["_law_script","_law_k","_law_at","_law_cell","_law_j","_law_number"]
theorem Ir:aF MU ["_law_script","_law_k"] (ai zx):=Vk
structure xn (ns:OB):Prop where
 l:ns.length<=63
 b:∀n∈ns,intBits n<=2 ^ 20
def Dn:cP:=λK ps T=>∃(ns:OB) (k:Int),ps=[⟨bp,ns⟩,⟨ah,k⟩]/\xn ns/\0<=k/\k<=1000000/\T=bU K ah (· =aJ ns k)
theorem L5 (M:cH K mg)(Df:Def K mg "_law_mixed" zx ["_law_script","_law_k"]):aH P w K mg base "_law_mixed" 1 (aN Dn K):=by
 have nd:=Ir.nd
 refine bJ Df Ir (λf UX A outer s H E qs T hr hS=>?_)
 obtain⟨ns,k,rfl,hs,k0,k1,rfl⟩:=hS
 have h63:=hs.l
 change WS _ _ [.im bp ns,ar k,.no,.no,.no,.no] _ _
 have a0:=OR (k/8) (show(63:Int)≠0 by decide)
 refine ak (a9 2 (cI (kK (aa 1 rfl) ev_int ⟨by decide,by decide⟩) ev_int (by decide)) ?_)
 change WS _ _ [.im bp ns,ar k,ar (k/8%63),.no,.no,.no] _ _
 have rest:∀e3 e4:Ent,¬(sF ns k=true/\0<vw ns k)->WS (eI d6 P w K mg base MU "_law_mixed" (ai zx) f UX A outer s H E).h9 ((bw zx).drop 2) [.im bp ns,ar k,ar (k/8%63),e3,e4,.no] (λ_=>False) (bU K ah (· =aJ ns k)):=by
  intro e3 e4 hn
  refine ak (a9 3 ev_int ?_)
  change WS _ _ [.im bp ns,ar k,ar (k/8%63),ar 0,e4,.no] _ _
  refine bM (N1:=λΓ=>Γ=[.im bp ns,ar k,ar (k/8%63),ar (if 0<ns.length then ns.getD (k%(ns.length:Int)).toNat 0 else 0),e4,.no]) (bE (aD ir (nE M.len (aa 0 rfl)) ev_int) (λh=>?_) (λh=>aW ?_)) ?_
  ·have hl:(0:Int)<ns.length:=UM h
   have hmin:(if(ns.length:Int)<63 then(ns.length:Int) else 63)=ns.length:=by
    by_cases q:(ns.length:Int)<63
    ·rw[UL q]
    ·rw[UK q];omega
   have q0:=OR k (show(ns.length:Int)≠0 by omega)
   have q1:=OQ k hl
   refine ao (a9 3 (ug (aa 0 rfl) (cI (aa 1 rfl) (EV.cast (wc M.min (aj ev_int (aj (nE M.len (aa 0 rfl)) aw))) hmin) hl) (aY 0 q0 q1)) ?_)
   rw[UL (by omega:0<ns.length)];rfl
  ·have hl:¬(0:Int)<ns.length:=UN h
   rw[UK (by omega)]
  rintro _ rfl
  have e:aJ ns k=uQ (if 0<ns.length then ns.getD (k%(ns.length:Int)).toNat 0 else 0) k:=by unfold aJ;rw[UK hn]
  rw[e]
  generalize (if 0<ns.length then ns.getD (k%(ns.length:Int)).toNat 0 else 0)=d
  have u0:=OR d (show(10:Int) ^ 18≠0 by decide)
  have u1:=OQ d (show(0:Int)<10 ^ 18 by decide)
  refine ak (a9 5 (y:=fW d k) (cv (cI (aa 3 rfl) (uI ev_int ev_int ⟨by decide,by decide,by decide⟩) (by decide)) (kF ev_int (cv (aa 1 rfl) ev_int) (mH (by decide) (by decide)))) ?_)
  change WS _ _ [.im bp ns,ar k,ar (k/8%63),ar d,e4,ar (fW d k)] _ _
  have n0:0<=fW d k:=by unfold fW;omega
  have n1:fW d k<2 ^ 63:=by unfold fW;omega
  have m0:=OR (fW d k*fW d k) (show(2147483629:Int)≠0 by decide)
  have m1:=OQ (fW d k*fW d k) (show(0:Int)<2147483629 by decide)
  refine ak (a9 5 (y:=mP (fW d k) k) (cv (cI (kF (aa 5 rfl) (aa 5 rfl) (D4 n0 n1)) ev_int (by decide)) (kF ev_int (aa 1 rfl) (mH (by decide) (by decide)))) ?_)
  change WS _ _ [.im bp ns,ar k,ar (k/8%63),ar d,e4,ar (mP (fW d k) k)] _ _
  have v0:0<=mP (fW d k) k:=by unfold mP;omega
  have v1:mP (fW d k) k<2 ^ 63:=by unfold mP;omega
  exact ao (a8 (cI (kF (aa 5 rfl) (aa 5 rfl) (D4 v0 v1)) ev_int (by decide)) rfl)
 refine ak (bE (TW.tv (c6 (aD lZ (aa 2 rfl) (nE M.len (aa 0 rfl))) (λh=>ee (aD NY (ug (aa 0 rfl) (aa 2 rfl) (aY 0 a0 (UM h))) (uI ev_int ev_int ⟨by decide,by decide,by decide⟩))))) (λh=>?_) (λh=>aW (rest _ _ (λ⟨q,_⟩=>by rw[show sF ns k=false from h] at q;cases q))))
 have Zy:sF ns k=true:=h
 obtain⟨hl,_⟩:=Bool.and_eq_true_iff.mp Zy
 have hl:=UM hl
 refine ak (a9 3 (n6 (ug (aa 0 rfl) (aa 2 rfl) (aY 0 a0 hl)) (uI ev_int ev_int ⟨by decide,by decide,by decide⟩) ⟨by decide,by decide⟩) ?_)
 change WS _ _ [.im bp ns,ar k,ar (k/8%63),ar (ns.getD (k/8%63).toNat 0/10 ^ 18),.no,.no] _ _
 have j0:=OR k (show(8:Int)≠0 by decide)
 have j1:=OQ k (show(0:Int)<8 by decide)
 refine bM (N1:=λΓ=>∃e4,Γ=[.im bp ns,ar k,ar (k/8%63),ar (vw ns k),e4,.no]) (cJ (λi Γ=>∃e4,Γ=[.im bp ns,ar k,ar (k/8%63),ar (sG (ns.getD (k/8%63).toNat 0/10 ^ 18) i),e4,.no]) (dD M.range (cI (aa 1 rfl) ev_int (by decide)) ⟨by omega,by omega⟩) (aX 4) ⟨_,rfl⟩ (λi j Γ _ hΓ=>?_) (λΓ hΓ=>?_)) ?_
 ·obtain⟨e4,rfl⟩:=hΓ
  change WS _ _ [.im bp ns,ar k,ar (k/8%63),ar (sG (ns.getD (k/8%63).toNat 0/10 ^ 18) i),ar j,.no] _ _
  exact ao (a9 3 (n6 (aa 3 rfl) ev_int ⟨by decide,by decide⟩) ⟨_,rfl⟩)
 ·obtain⟨e4,rfl⟩:=hΓ
  rw[ba]
  exact⟨e4,rfl⟩
 rintro _ ⟨e4,rfl⟩
 refine ao (bE (aD ir (aa 3 rfl) ev_int) (λh=>?_) (λh=>aW (rest _ _ (λ⟨_,q⟩=>UJ q (UN h)))))
 have h:0<vw ns k:=UM h
 exact ao (a8 (cI (aa 3 rfl) ev_int (by decide)) (by unfold aJ;rw[UL ⟨Zy,h⟩]))
abbrev bG:Rep (OB ⊕ Int):=tf bp ah
abbrev bt (ns:OB)(k c:Int):List (OB ⊕ Int):=[.inl ns,.inr k,.inr c]
abbrev Kn:Stmt:=top tZ
theorem HE:aF ["_law_pen"] ["_law_pen"] (ai Kn):=Vk
def xB:jZ (OB ⊕ Int):=λK xs ps T=>∃(ns:OB) (k c:Int),xs=bt ns k c/\ps=[]/\xn ns/\0<=k/\k<1000000/\T=λxs'=>bU K ah λz=>xs'=bt ns (k+1) c/\z=aJ ns (k+1)
theorem Mm (CM:aH P w K mg base "_law_mixed" 1 (aN Dn K))(Df:Def K mg "_law_pull" Kn ["_law_pen"]):aH P w K mg base "_law_pull" 2 (fF bG xB K):=by
 have nd:=HE.nd
 refine E6 Df HE (λf UX A outer s H E a xs qs T hr hS=>?_)
 obtain⟨ns,k,c,rfl,rfl,hs,k0,k1,rfl⟩:=hS
 change WS _ _ [.ob (a7 a bG (bt ns k c))] _ _
 refine ak (fK 0 (j:=1) (EV.inr (cv (EV.nS (fG 0 ev_int rfl (y:=(Sum.inr k:OB ⊕ Int)) rfl)) ev_int)) ev_int rfl rfl rfl ?_)
 change WS _ _ [.ob (a7 a bG (bt ns (k+1) c))] _ _
 exact ao (IU 0 (aE CM hr (aj (EV.ofl (fG 0 ev_int rfl (y:=(Sum.inl ns:OB ⊕ Int)) rfl)) (aj (EV.nS (fG 0 ev_int rfl (y:=(Sum.inr (k+1):OB ⊕ Int)) rfl)) aw)) ⟨ns,k+1,rfl,hs,by omega,by omega,rfl⟩) rfl ⟨rfl,rfl⟩)
end
abbrev fZ:Str:="abcdefghijklmnopqrstuvwxyz"
abbrev fY:OC:=["part","end","do","call","if","else","while","leave","back"]
def mi (m:Int):Nat->Str
 | 0=>""
 | n+1=>mi m n++ku fZ ((m/8+(n:Int)*(m/88))%26).toNat
def U5 (n:Int):Str:=
 if n%4=0 then fY.getD (n/4%9).toNat ""
 else if n%4=1 then fY.getD (n/4%9).toNat ""++ku fZ (n/4/9%26).toNat
 else mi (n/4) (1+n/4%8).toNat
structure cF (x:Str):Prop where
 l1:1<=x.length
 l8:x.length<=8
 az:∀c∈x.cps.toList,97<=c/\c<=122
theorem len_app (x y:Str):(x++y).length=x.length+y.length:=by
 show(x.cps++y.cps).size=_
 rw[Array.size_append];rfl
theorem qW {x y:Str}{c:Nat}(h:c∈(x++y).cps.toList):c∈x.cps.toList∨c∈y.cps.toList:=by
 have e:(x++y).cps.toList=x.cps.toList++y.cps.toList:=by show(x.cps++y.cps).toList=_;simp
 rw[e] at h
 exact Pa.mp h
theorem IM (i:Nat)(h:i<26):97<=fZ.cps.getD i 0/\fZ.cps.getD i 0<=122:=by
 have:∀j:Fin 26,97<=fZ.cps.getD j.val 0/\fZ.cps.getD j.val 0<=122:=by decide +kernel
 exact this ⟨i,h⟩
theorem A8 {i:Nat}(h:i<26):∀c∈(ku fZ i).cps.toList,97<=c/\c<=122:=by
 intro c hc
 have:c=fZ.cps.getD i 0:=by simpa[ku] using hc
 rw[this];exact IM i h
theorem M1 (x:Int):(x%26).toNat<26:=by
 have:=OR x (show(26:Int)≠0 by decide)
 have:=OQ x (show(0:Int)<26 by decide)
 omega
theorem nq (m:Int):∀n,(mi m n).length=n
 | 0=>rfl
 | n+1=>by rw[mi,len_app,nq m n];rfl
theorem Ab (m:Int):∀n,∀c∈(mi m n).cps.toList,97<=c/\c<=122
 | 0,c,h=>by
   have e:(mi m 0).cps.toList=[]:=rfl
   rw[e] at h;cases h
 | n+1,c,h=>by
   rcases qW h with z | z
   ·exact Ab m n c z
   ·exact A8 (M1 _) c z
theorem Bg (i:Nat)(h:i<9):cF (fY.getD i "")/\(fY.getD i "").length<=5:=by
 have:∀j:Fin 9,(1<=(fY.getD j.val "").length/\(fY.getD j.val "").length<=5)/\∀c∈(fY.getD j.val "").cps.toList,97<=c/\c<=122:=by decide +kernel
 obtain⟨⟨a,b⟩,c⟩:=this ⟨i,h⟩
 exact⟨⟨a,QX b (by decide),c⟩,b⟩
theorem iC (n:Int):cF (U5 n):=by
 have q0:=OR (n/4) (show(9:Int)≠0 by decide)
 have q1:=OQ (n/4) (show(0:Int)<9 by decide)
 have r0:=OR (n/4) (show(8:Int)≠0 by decide)
 have r1:=OQ (n/4) (show(0:Int)<8 by decide)
 obtain⟨w1,w2⟩:=Bg (n/4%9).toNat (by omega)
 unfold U5
 split
 ·exact w1
 split
 ·refine⟨?_,?_,λc hc=>?_⟩
  ·rw[len_app];have:=w1.l1;omega
  ·rw[len_app];show _+1<=8;omega
  ·rcases qW hc with z | z
   ·exact w1.az c z
   ·exact A8 (M1 _) c z
 ·exact⟨by rw[nq];omega,by rw[nq];omega,Ab _ _⟩
section
abbrev Ki:Stmt:=top vc
abbrev nNM:OC:=["_law_number","_law_letters","_law_words_here","_law_way","_law_name_here","_law_k"]
theorem Ht:aF nNM ["_law_number"] (ai Ki):=Vk
def Ec:cP:=λK ps T=>∃n:Int,ps=[⟨ah,n⟩]/\0<=n/\n<2147483587/\T=bU K ag (· =U5 n)
theorem K9 (M:cH K mg)(Df:Def K mg "_law_name" Ki ["_law_number"]):aH P w K mg base "_law_name" 1 (aN Ec K):=by
 have nd:=Ht.nd
 refine bJ Df Ht (λf UX A outer s H E qs T hr hS=>?_)
 obtain⟨n,rfl,n0,n1,rfl⟩:=hS
 have q0:=OR (n/4) (show(9:Int)≠0 by decide)
 have q1:=OQ (n/4) (show(0:Int)<9 by decide)
 have r0:=OR (n/4) (show(8:Int)≠0 by decide)
 have r1:=OQ (n/4) (show(0:Int)<8 by decide)
 have ll:fZ.length=26:=by decide +kernel
 have lz:fZ.length<=RE:=by rw[ll];decide
 change WS _ _ [ar n,.no,.no,.no,.no,.no] _ _
 refine ak (a9 1 (y:=fZ) aG ?_)
 refine ak (a9 2 (y:=fY) (aZ.im (aV (r:=ag) (ax aG (ax aG (ax aG (ax aG (ax aG (ax aG (ax aG (ax aG (ax aG aR))))))))) (by show 9<=RE;decide))) ?_)
 refine ak (a9 3 (cI (aa 0 rfl) ev_int (by decide)) ?_)
 refine ak (a9 0 (kK (aa 0 rfl) ev_int ⟨by decide,by decide⟩) ?_)
 change WS _ _ [ar (n/4),.im ag fZ,.im (ae ag) fY,ar (n%4),.no,.no] _ _
 have hw:cy fY (n/4%9)=some (fY.getD (n/4%9).toNat ""):=aY (xs:=fY) "" q0 (by show _<((9:Nat):Int);omega)
 refine ak (bE (aD iG (aa 3 rfl) ev_int) (λh=>?_) (λh=>aW ?_))
 ·have h:n%4=0:=UM h
  exact ao (a8 (bo (aa 2 rfl) (cI (aa 0 rfl) ev_int (by decide)) hw) (by unfold U5;rw[UL h]))
 have h0:¬n%4=0:=UN h
 have wl:=(Bg (n/4%9).toNat (by omega)).2
 have s0:=OR (n/4/9) (show(26:Int)≠0 by decide)
 have s1:=OQ (n/4/9) (show(0:Int)<26 by decide)
 refine ak (bE (aD iG (aa 3 rfl) ev_int) (λh=>?_) (λh=>aW ?_))
 ·have h:n%4=1:=UM h
  exact ao (a8 (qK (bo (aa 2 rfl) (cI (aa 0 rfl) ev_int (by decide)) hw) (yT (aa 1 rfl) (cI (kK (aa 0 rfl) ev_int ⟨by decide,by decide⟩) ev_int (by decide)) s0 (by rw[ll];exact s1) lz) (QX (show _<=6 by show _+1<=6;omega) (by decide))) (by unfold U5;rw[UK h0,UL h]))
 have h1:¬n%4=1:=UN h
 refine ak (a9 4 (y:=mi (n/4) 0) aG ?_)
 change WS _ _ [ar (n/4),.im ag fZ,.im (ae ag) fY,ar (n%4),.im ag (mi (n/4) 0),.no] _ _
 refine bM (N1:=λΓ=>∃e5,Γ=[ar (n/4),.im ag fZ,.im (ae ag) fY,ar (n%4),.im ag (U5 n),e5]) (cJ (λi Γ=>∃e5,Γ=[ar (n/4),.im ag fZ,.im (ae ag) fY,ar (n%4),.im ag (mi (n/4) i),e5]) (dD M.range (cv ev_int (cI (aa 0 rfl) ev_int (by decide))) ⟨by omega,by omega⟩) (aX 5) ⟨_,rfl⟩ (λi j Γ hj hΓ=>?_) (λΓ hΓ=>?_)) ?_
 ·obtain⟨e5,rfl⟩:=hΓ
  obtain⟨jl,ej⟩:=fm hj
  obtain rfl:j=(i:Int):=by omega
  have t0:=OR (n/4/8+(i:Int)*(n/4/88)) (show(26:Int)≠0 by decide)
  have t1:=OQ (n/4/8+(i:Int)*(n/4/88)) (show(0:Int)<26 by decide)
  change WS _ _ [ar (n/4),.im ag fZ,.im (ae ag) fY,ar (n%4),.im ag (mi (n/4) i),ar (i:Int)] _ _
  exact ao (a9 4 (y:=mi (n/4) (i+1)) (qK (aa 4 rfl) (yT (aa 1 rfl) (cI (cv (kK (aa 0 rfl) ev_int ⟨by decide,by decide⟩) (kF (aa 5 rfl) (kK (aa 0 rfl) ev_int ⟨by decide,by decide⟩) (mH (by omega) (by omega)))) ev_int (by decide)) t0 (by rw[ll];exact t1) lz) (by rw[nq];exact QX (show _<=20 by show _+1<=20;omega) (by decide))) ⟨_,rfl⟩)
 ·obtain⟨e5,rfl⟩:=hΓ
  rw[ba]
  refine⟨e5,?_⟩
  have e:U5 n=mi (n/4) (1+n/4%8).toNat:=by unfold U5;rw[UK h0,UK h1]
  rw[e]
 rintro _ ⟨e5,rfl⟩
 exact ao (a8 (aa 4 rfl) rfl)
end
inductive Th
 | Vl (x:Str)
 | call (j:Int)
 | ifs (x:Str) (a b:List Th)
 | U6 (x:Str) (a:List Th)
 | leave
 | back
mutual
def ft:Th->PV
 | .Vl x=>.lst [.str "do",.str x]
 | .call j=>.lst [.str "call",.int j]
 | .ifs x a b=>.lst [.str "if",.str x,.lst (bD a),.lst (bD b)]
 | .U6 x a=>.lst [.str "while",.str x,.lst (bD a)]
 | .leave=>.lst [.str "leave"]
 | .back=>.lst [.str "back"]
def bD:List Th->List PV
 | []=>[]
 | t::ts=>ft t::bD ts
end
theorem dR:∀ts:List Th,bD ts=ts.map ft
 | []=>by rw[bD];rfl
 | t::ts=>by rw[bD,dR ts];rfl
mutual
def dX:Th->Bool
 | .leave=>false
 | .back=>false
 | .ifs _ a b=>c8 a ||c8 b
 | _=>true
def c8:List Th->Bool
 | []=>true
 | t::ts=>dX t&&c8 ts
end
mutual
def gF:Th->Nat
 | .ifs _ a b=>1+max (dZ a) (dZ b)
 | .U6 _ a=>1+dZ a
 | _=>0
def dZ:List Th->Nat
 | []=>0
 | t::ts=>max (gF t) (dZ ts)
end
mutual
def de:Th->Nat
 | .Vl _=>1
 | .call _=>1
 | .ifs _ a b=>2+bS a+bS b
 | .U6 _ a=>2+bS a
 | _=>0
def bS:List Th->Nat
 | []=>0
 | t::ts=>de t+bS ts
end
section
variable {ns UR:OB}{n b:Nat}
theorem iD:∀a b:List Th,bS (a++b)=bS a+bS b
 | [],b=>by rw[bS];simp
 | t::a,b=>by rw[Qe,bS,bS,iD a b];omega
theorem jr:∀a b:List Th,dZ (a++b)=max (dZ a) (dZ b)
 | [],b=>by rw[dZ];simp
 | t::a,b=>by rw[Qe,dZ,dZ,jr a b];omega
abbrev Pn:=Int×Int
def Vj (ns UR:OB)(sub:Option (Int->Pn->List Th×Pn))(US:Int)(s:Pn):Th×Pn:=
 if aJ ns (s.1+1)%12=0/\0<US then(.leave,(s.1+2,s.2))
 else if aJ ns (s.1+1)%12=1 then(.back,(s.1+2,s.2))
 else if 9<aJ ns (s.1+1)%12/\0<UR.length then(.call (UR.getD (aJ ns (s.1+3)%(UR.length:Int)).toNat 0),(s.1+3,s.2-1))
 else match sub with
  | some L=>
    if(3<aJ ns (s.1+1)%12/\aJ ns (s.1+1)%12<7)/\1<s.2 then(.ifs (U5 (aJ ns (s.1+2))) (L US (s.1+2,s.2-2)).1 (L US (L US (s.1+2,s.2-2)).2).1,(L US (L US (s.1+2,s.2-2)).2).2)
    else if(6<aJ ns (s.1+1)%12/\aJ ns (s.1+1)%12<10)/\1<s.2 then(.U6 (U5 (aJ ns (s.1+2))) (L (US+1) (s.1+2,s.2-2)).1,(L (US+1) (s.1+2,s.2-2)).2)
    else(.Vl (U5 (aJ ns (s.1+2))),(s.1+2,s.2-1))
  | none=>(.Vl (U5 (aJ ns (s.1+2))),(s.1+2,s.2-1))
def oH:Th->Bool
 | .back=>true
 | _=>false
def g7 (ns UR:OB)(sub:Option (Int->Pn->List Th×Pn))(tp:Bool)(US:Int)(x:List Th×Pn):List Th×Pn:=
 if 0<x.2.2/\c8 x.1=true then
  if tp=true/\x.1.length=0/\oH (Vj ns UR sub US x.2).1=true then(x.1++[.Vl "back"],((Vj ns UR sub US x.2).2.1,(Vj ns UR sub US x.2).2.2-1))
  else(x.1++[(Vj ns UR sub US x.2).1],(Vj ns UR sub US x.2).2)
 else x
def Vi {α:Type}(f:α->α):Nat->α->α
 | 0,x=>x
 | n+1,x=>f (Vi f n x)
def fb (ns:OB)(tp:Bool)(k:Int):Nat:=(aJ ns (k+1)%4+2*(if tp then 1 else 0)).toNat
def Vb (ns UR:OB):Nat->Bool->Int->Pn->List Th×Pn
 | 0,tp,US,s=>Vi (g7 ns UR none tp US) (fb ns tp s.1) ([],(s.1+1,s.2))
 | n+1,tp,US,s=>Vi (g7 ns UR (some (Vb ns UR n false)) tp US) (fb ns tp s.1) ([],(s.1+1,s.2))
structure Ds (n b:Nat) (s:Pn) (r:List Th×Pn):Prop where
 dp:dZ r.1<=n
 c:(bS r.1:Int)+r.2.2=s.2/\0<=r.2.2
 k:s.1<=r.2.1/\r.2.1<=s.1+b
 l:r.1.length<=5
def DT (n b:Nat)(L:Int->Pn->List Th×Pn):Prop:=∀lp s,0<=s.2->Ds n b s (L lp s)
theorem wV (ns:OB)(tp:Bool)(k:Int):fb ns tp k<=5:=by
 unfold fb
 have a:=OR (aJ ns (k+1)) (show(4:Int)≠0 by decide)
 have b:=OQ (aJ ns (k+1)) (show(0:Int)<4 by decide)
 cases tp<;>simp<;>omega
structure qB (n:Nat) (b:Nat) (s:Pn) (r:Th×Pn):Prop where
 dp:gF r.1<=n
 c:(de r.1:Int)+r.2.2=s.2/\0<=r.2.2
 k:s.1<=r.2.1/\r.2.1<=s.1+b
theorem tI (ns UR:OB)(US:Int)(s:Pn)(h:0<s.2):qB 0 3 s (Vj ns UR none US s):=by
 unfold Vj
 split
 ·exact⟨by simp[gF],⟨by simp[de],by show 0<=s.2;omega⟩,by constructor<;>simp<;>omega⟩
 split
 ·exact⟨by simp[gF],⟨by simp[de],by show 0<=s.2;omega⟩,by constructor<;>simp<;>omega⟩
 split
 ·exact⟨by simp[gF],⟨by simp[de];omega,by show 0<=s.2-1;omega⟩,by constructor<;>simp<;>omega⟩
 ·exact⟨by simp[gF],⟨by simp[de];omega,by show 0<=s.2-1;omega⟩,by constructor<;>simp<;>omega⟩
theorem sQ {L:Int->Pn->List Th×Pn}(hL:DT n b L)(US:Int)(s:Pn)(h:0<s.2):qB (n+1) (3+2*b) s (Vj ns UR (some L) US s):=by
 unfold Vj
 split
 ·exact⟨by simp[gF],⟨by simp[de],by show 0<=s.2;omega⟩,by constructor<;>simp<;>omega⟩
 split
 ·exact⟨by simp[gF],⟨by simp[de],by show 0<=s.2;omega⟩,by constructor<;>simp<;>omega⟩
 split
 ·exact⟨by simp[gF],⟨by simp[de];omega,by show 0<=s.2-1;omega⟩,by constructor<;>simp<;>omega⟩
 dsimp only
 split
 ·rename_i hh
  have c2:1<s.2:=hh.2
  obtain⟨d1,⟨a1,a2⟩,k1,_⟩:=hL US (s.1+2,s.2-2) (by show 0<=s.2-2;omega)
  obtain⟨d2,⟨a3,a4⟩,k2,_⟩:=hL US (L US (s.1+2,s.2-2)).2 a2
  dsimp only at a1 k1
  refine⟨by simp only[gF];omega,⟨by simp only[de];push_cast;omega,a4⟩,?_⟩
  constructor
  ·exact OU (by omega) (OU k1.1 k2.1)
  ·show(L US (L US (s.1+2,s.2-2)).2).2.1<=s.1+((3+2*b:Nat):Int)
   have:=k2.2
   have:=k1.2
   push_cast
   omega
 split
 ·rename_i _ hh
  have c2:1<s.2:=hh.2
  obtain⟨d1,⟨a1,a2⟩,k1,_⟩:=hL (US+1) (s.1+2,s.2-2) (by show 0<=s.2-2;omega)
  dsimp only at a1 k1
  refine⟨by simp only[gF];omega,⟨by simp only[de];push_cast;omega,a2⟩,?_⟩
  constructor
  ·exact OU (by omega) k1.1
  ·show(L (US+1) (s.1+2,s.2-2)).2.1<=s.1+((3+2*b:Nat):Int)
   have:=k1.2
   push_cast
   omega
 ·exact⟨by simp[gF],⟨by simp[de];omega,by show 0<=s.2-1;omega⟩,by constructor<;>simp<;>omega⟩
structure p7 (n b i:Nat) (k0 c0:Int) (x:List Th×Pn):Prop where
 dp:dZ x.1<=n
 c:(bS x.1:Int)+x.2.2=c0/\0<=x.2.2
 k:k0<=x.2.1/\x.2.1<=k0+b*i
 l:x.1.length<=i
theorem p7.step {i:Nat}{k0 c0:Int}{x:List Th×Pn}{sub:Option (Int->Pn->List Th×Pn)}{tp:Bool}{US:Int}(h:p7 n b i k0 c0 x)(ht:0<x.2.2->qB n b x.2 (Vj ns UR sub US x.2))(hb:1<=b):p7 n b (i+1) k0 c0 (g7 ns UR sub tp US x):=by
 have hm:((b*(i+1):Nat):Int)=(b*i:Nat)+b:=by push_cast;rw[Int.mul_add];omega
 have hk:=h.k
 have hc:=h.c
 have hl:=h.l
 have hd:=h.dp
 unfold g7
 split
 ·rename_i hh
  have t:=ht hh.1
  have tk:=t.k
  have tc:=t.c
  split
  ·rename_i h2
   have hbk:(Vj ns UR sub US x.2).1= .back:=by
    have:=h2.2.2
    cases e:(Vj ns UR sub US x.2).1<;>rw[e] at this<;>first | rfl | cases this
   rw[hbk] at tc
   have hrw:(de .back:Int)=0:=by simp[de]
   rw[hrw] at tc
   refine⟨?_,⟨?_,?_⟩,⟨?_,?_⟩,?_⟩
   ·rw[jr];simp[dZ,gF];exact hd
   ·rw[iD];simp[bS,de];omega
   ·show 0<=(Vj ns UR sub US x.2).2.2-1
    have:=hh.1
    omega
   ·exact OU hk.1 tk.1
   ·show(Vj ns UR sub US x.2).2.1<=k0+((b*(i+1):Nat):Int)
    have:=tk.2;have:=hk.2
    rw[hm];push_cast at *;omega
   ·simp;omega
  ·refine⟨?_,⟨?_,tc.2⟩,⟨?_,?_⟩,?_⟩
   ·rw[jr];have:=t.dp;simp[dZ];omega
   ·rw[iD];simp[bS];omega
   ·exact OU hk.1 tk.1
   ·show(Vj ns UR sub US x.2).2.1<=k0+((b*(i+1):Nat):Int)
    have:=tk.2;have:=hk.2
    rw[hm];push_cast at *;omega
   ·simp;omega
 ·refine⟨hd,hc,⟨hk.1,?_⟩,by omega⟩
  have:=hk.2
  show x.2.1<=k0+((b*(i+1):Nat):Int)
  rw[hm];push_cast at *;omega
def kU:Nat->Nat
 | 0=>16
 | n+1=>1+5*(3+2*kU n)
theorem uO {ns UR:OB}{sub:Option (Int->Pn->List Th×Pn)}{n b:Nat}(hb:1<=b)(hT:∀(lp:Int) (s:Pn),0<s.2->qB n b s (Vj ns UR sub lp s))(tp:Bool)(lp:Int)(s:Pn)(hs:0<=s.2):∀m,p7 n b m (s.1+1) s.2 (Vi (g7 ns UR sub tp lp) m ([],(s.1+1,s.2)))
 | 0=>⟨by simp[Vi,dZ],⟨by simp[Vi,bS],hs⟩,⟨OS _,by simp[Vi]⟩,by simp[Vi]⟩
 | m+1=>p7.step (uO hb hT tp lp s hs m) (λh=>hT lp _ h) hb
theorem yG {sub:Option (Int->Pn->List Th×Pn)}(hb:1<=b)(hT:∀(lp:Int) (s:Pn),0<s.2->qB n b s (Vj ns UR sub lp s))(tp:Bool)(lp:Int)(s:Pn)(hs:0<=s.2):Ds n (1+5*b) s (Vi (g7 ns UR sub tp lp) (fb ns tp s.1) ([],(s.1+1,s.2))):=by
 have h:=uO hb hT tp lp s hs (fb ns tp s.1)
 have hm:=wV ns tp s.1
 have hmul:b*fb ns tp s.1<=b*5:=Nat.mul_le_mul_left b hm
 refine⟨h.dp,h.c,⟨by have:=h.k.1;omega,?_⟩,QX h.l hm⟩
 have:=h.k.2
 omega
theorem kT (ns UR:OB):∀(n:Nat) (tp:Bool),DT n (kU n) (Vb ns UR n tp)
 | 0,tp=>λlp s hs=>yG (b:=3) (by decide) (λlp s h=>tI ns UR lp s h) tp lp s hs
 | n+1,tp=>λlp s hs=>yG (b:=3+2*kU n) (by omega) (λlp s h=>sQ (kT ns UR n false) lp s h) tp lp s hs
def cV:Th->Str
 | .Vl _=>"do"
 | .call _=>"call"
 | .ifs _ _ _=>"if"
 | .U6 _ _=>"while"
 | .leave=>"leave"
 | .back=>"back"
def gj:Th->List PV
 | .Vl x=>[.str "do",.str x]
 | .call j=>[.str "call",.int j]
 | .ifs x a b=>[.str "if",.str x,.lst (bD a),.lst (bD b)]
 | .U6 x a=>[.str "while",.str x,.lst (bD a)]
 | .leave=>[.str "leave"]
 | .back=>[.str "back"]
theorem dN (t:Th):ft t= .lst (gj t):=by cases t<;>rw[ft]<;>rfl
theorem GV (t:Th):cy (gj t) 0=some (.str (cV t)):=by cases t<;>rfl
end
section
variable {X:Cx}{Γ Γ1:Ga}
theorem iR {a:Expr}{j:Nat}{p1 pos:Pos}{t:Th}(h:EV X a Γ aI (ft t) Γ1):EV X (.Subscript a (.Constant (.int 0) j p1) pos) Γ ag (cV t) Γ1:=EV.sP (bo (EV.lP (by rw[dN] at h;exact h)) ev_int (GV t))
theorem mJ {a:Expr}{j:Nat}{p1 pos:Pos}{t:Th}{i:Int}{xs:List PV}(h:EV X a Γ aI (ft t) Γ1)(hx:cy (gj t) i=some (.lst xs)):EV X (.Subscript a (.Constant (.int i) j p1) pos) Γ (ae aI) xs Γ1:=EV.lP (bo (EV.lP (by rw[dN] at h;exact h)) ev_int hx)
end
section
abbrev Hd:Stmt:=top qN
abbrev nPA:OC:=["_law_items","_law_one"]
theorem Ca:aF nPA ["_law_items"] (ai Hd):=Vk
def AI (n:Nat):cP:=λK ps T=>∃ts:List Th,ps=[⟨ae aI,bD ts⟩]/\dZ ts<n/\T=bU K cU (· =c8 ts)
theorem BX (t:Th):(cV t="leave"∨cV t="back")->dX t=false:=by
 intro h
 cases t<;>simp[cV] at h<;>first | (exfalso;revert h;decide) | simp[dX]
theorem vH {t:Th}:∀{ts:List Th},t∈ts->gF t<=dZ ts
 | s::ts,h=>by
   rw[dZ]
   rcases O7.mp h with rfl | h
   ·omega
   ·have:=vH h;omega
theorem KP (F:dU K "_law_passes" "_law_passes" Hd f fd)(hm:mg "_law_passes"=some (.ref f))(hb:Binds K fd ["_law_items"] []):∀n:Nat,aH P w K mg base "_law_passes" (n+1) (aN (AI n) K):=by
 intro n
 have nd:=Ca.nd
 induction n with
 | zero=>
   refine gP F Ca hm hb (λqs T ⟨_,e,_⟩=>by rw[e];rfl) (λUX A outer s H E qs T hr hS=>?_)
   obtain⟨ts,_,h,_⟩:=hS
   exact UJ h (Nat.not_lt_zero _)
 | succ n ih=>
   refine gP F Ca hm hb (λqs T ⟨_,e,_⟩=>by rw[e];rfl) (λUX A outer s H E qs T hr hS=>?_)
   obtain⟨ts,rfl,hd,rfl⟩:=hS
   change WS _ _ [.im (ae aI) (bD ts),.no] _ _
   refine ak (cJ (r:=aI) (λi Γ=>∃e1,Γ=[.im (ae aI) (bD ts),e1]/\c8 ts=c8 (ts.drop i)) (bX (aa 0 rfl)) (aX 1) ⟨_,rfl,rfl⟩ (λi x Γ hx hΓ=>?_) (λΓ hΓ=>?_))
   ·obtain⟨e1,rfl,hp⟩:=hΓ
    rw[dR,O5] at hx
    obtain⟨t,ht,rfl⟩:=Rl.mp hx
    have hdr:ts.drop i=t::ts.drop (i+1):=by
     obtain⟨h1,h2⟩:=OW.mp ht
     rw[List.drop_eq_getElem_cons h1,h2]
    rw[hdr,c8] at hp
    have hdt:=vH (O6 ht)
    change WS _ _ [.im (ae aI) (bD ts),.im aI (ft t)] _ _
    refine ak (bE (TW.tv (lF (aD cM (iR (aa 1 rfl)) aG) (λ_=>kL (aD cM (iR (aa 1 rfl)) aG)))) (λh=>?_) (λh=>aW ?_))
    ·have h:cV t="leave"∨cV t="back":=by simpa using h
     exact ao (a8 nt (by rw[hp,BX t h];rfl))
    ·have h:¬(cV t="leave"∨cV t="back"):=by simpa using h
     by_cases hif:∃x a b,t= .ifs x a b
     ·obtain⟨x,a,b,rfl⟩:=hif
      have Xn:dZ a<n/\dZ b<n:=by rw[gF] at hdt;omega
      refine ao (bE (TW.tv (c6 (aD cM (iR (aa 1 rfl)) aG) (λ_=>c6 (hJ (eL (aE ih hr (aj (mJ (aa 1 rfl) (xs:=bD a) rfl) aw) ⟨a,rfl,Xn.1,rfl⟩))) (λ_=>ee (hJ (eL (aE ih hr (aj (mJ (aa 1 rfl) (xs:=bD b) rfl) aw) ⟨b,rfl,Xn.2,rfl⟩))))))) (λh=>?_) (λh=>aW ⟨_,rfl,?_⟩))
      ·have h:c8 a=false/\c8 b=false:=by simpa[cV] using h
       exact ao (a8 nt (by rw[hp,dX,h.1,h.2];rfl))
      ·have h:c8 a=false->c8 b=true:=by simpa[cV] using h
       rw[hp,dX]
       cases ea:c8 a with
       | true=>simp
       | false=>rw[h ea];simp
     ·have hk:decide (cV t="if")=false:=by cases t<;>first | rfl | exact UJ ⟨_,_,_,rfl⟩ hif
      have hpt:dX t=true:=by cases t<;>first | (simp[dX];done) | exact UJ ⟨_,_,_,rfl⟩ hif | exact UJ (.inl rfl) h | exact UJ (.inr rfl) h
      refine ao (bE (TW.tv (c6 (y:=true) (aD cM (iR (aa 1 rfl)) aG) (λh=>UJ (hk.symm.trans h) (by decide)))) (λh=>?_) (λh=>aW ⟨_,rfl,?_⟩))
      ·rw[hk] at h;cases h
      ·rw[hp,hpt];rfl
   ·obtain⟨e1,rfl,hp⟩:=hΓ
    rw[show(bD ts).length=ts.length by rw[dR,OZ],List.drop_length,c8] at hp
    exact ao (a8 nt hp.symm)
end
def dC (ns UR:OB):Nat->Option (Int->Pn->List Th×Pn)
 | 0=>none
 | n+1=>some (Vb ns UR n false)
theorem lg (ns UR:OB)(n:Nat)(tp:Bool)(US:Int)(s:Pn):Vb ns UR n tp US s=Vi (g7 ns UR (dC ns UR n) tp US) (fb ns tp s.1) ([],(s.1+1,s.2)):=by cases n<;>rfl
def bT:Nat->Nat
 | 0=>3
 | n+1=>3+2*kU n
theorem Dd (n:Nat):3<=bT n:=by cases n<;>simp[bT]
structure nr (ns UR:OB) (n b:Nat) (k c:Int):Prop where
 s:xn ns
 k0:0<=k
 k1:k+(b:Int)<=900000
 c0:0<=c
 c1:c<=100
 l:UR.length<=100
 n4:n<=4
abbrev M9 (n:Nat)(US:Int)(UR:OB):List Pk:=[⟨ah,4-(n:Int)⟩,⟨ah,US⟩,⟨ae ah,UR⟩]
def HR (n:Nat):jZ (OB ⊕ Int):=λK xs ps T=>∃(ns UR:OB) (k c US:Int),xs=bt ns k c/\ps=M9 n US UR/\nr ns UR n (bT n) k c/\0<c/\T=λxs'=>yE λy=>xs'=bt ns (Vj ns UR (dC ns UR n) US (k,c)).2.1 (Vj ns UR (dC ns UR n) US (k,c)).2.2/\y=ft (Vj ns UR (dC ns UR n) US (k,c)).1
def Du (n:Nat):jZ (OB ⊕ Int):=λK xs ps T=>∃(ns UR:OB) (k c US:Int),xs=bt ns k c/\ps=M9 n US UR/\nr ns UR n (kU n) k c/\T=λxs'=>yE λy=>xs'=bt ns (Vb ns UR n (decide (n=4)) US (k,c)).2.1 (Vb ns UR n (decide (n=4)) US (k,c)).2.2/\y= .lst (bD (Vb ns UR n (decide (n=4)) US (k,c)).1)
section
variable {ns UR:OB}{sub:Option (Int->Pn->List Th×Pn)}{L:Int->Pn->List Th×Pn}{US k c:Int}
abbrev fN (ns:OB)(k:Int):Int:=aJ ns (k+1)%12
abbrev C0 (ns:OB)(k US:Int):Prop:=fN ns k=0/\0<US
abbrev C2 (ns UR:OB)(k:Int):Prop:=9<fN ns k/\0<UR.length
abbrev C3 (ns:OB)(k c:Int):Prop:=(3<fN ns k/\fN ns k<7)/\1<c
abbrev C4 (ns:OB)(k c:Int):Prop:=(6<fN ns k/\fN ns k<10)/\1<c
theorem Ay (h:C0 ns k US):Vj ns UR sub US (k,c)=(.leave,(k+2,c)):=UL h
theorem Cf (h0:¬C0 ns k US)(h:fN ns k=1):Vj ns UR sub US (k,c)=(.back,(k+2,c)):=by
 unfold Vj;rw[UK h0,UL h]
theorem BS (h0:¬C0 ns k US)(h1:¬fN ns k=1)(h:C2 ns UR k):Vj ns UR sub US (k,c)=(.call (UR.getD (aJ ns (k+3)%(UR.length:Int)).toNat 0),(k+3,c-1)):=by
 unfold Vj;rw[UK h0,UK h1,UL h]
theorem Jq (h0:¬C0 ns k US)(h1:¬fN ns k=1)(h2:¬C2 ns UR k)(h:C3 ns k c):Vj ns UR (some L) US (k,c)=(.ifs (U5 (aJ ns (k+2))) (L US (k+2,c-2)).1 (L US (L US (k+2,c-2)).2).1,(L US (L US (k+2,c-2)).2).2):=by
 unfold Vj;rw[UK h0,UK h1,UK h2];dsimp only;rw[UL h]
theorem IB (h0:¬C0 ns k US)(h1:¬fN ns k=1)(h2:¬C2 ns UR k)(h3:¬C3 ns k c)(h:C4 ns k c):Vj ns UR (some L) US (k,c)=(.U6 (U5 (aJ ns (k+2))) (L (US+1) (k+2,c-2)).1,(L (US+1) (k+2,c-2)).2):=by
 unfold Vj;rw[UK h0,UK h1,UK h2];dsimp only;rw[UK h3,UL h]
theorem Ka (h0:¬C0 ns k US)(h1:¬fN ns k=1)(h2:¬C2 ns UR k)(h:∀L,sub=some L->¬C3 ns k c/\¬C4 ns k c):Vj ns UR sub US (k,c)=(.Vl (U5 (aJ ns (k+2))),(k+2,c-1)):=by
 unfold Vj;rw[UK h0,UK h1,UK h2]
 cases sub with
 | none=>rfl
 | some L=>dsimp only;rw[UK (h L rfl).1,UK (h L rfl).2]
end
theorem uh:∀ts:List Th,Cd (bD ts)=false
 | []=>by rw[bD];rfl
 | [t]=>by rw[bD,bD,dN];rfl
 | t::u::ts=>by rw[bD,bD,dN,dN];rfl
mutual
theorem C9:∀t:Th,noMix (ft t)=true
 | .Vl x=>by rw[dN];rfl
 | .call x=>by rw[dN];rfl
 | .leave=>by rw[dN];rfl
 | .back=>by rw[dN];rfl
 | .ifs x A B=>by
   have hA:=mn A
   have hB:=mn B
   rw[dN]
   simp only[gj,noMix,gf,uh,hA,hB,Bool.not_false,Bool.true_and,ON]
   rfl
 | .U6 x A=>by
   have hA:=mn A
   rw[dN]
   simp only[gj,noMix,gf,uh,hA,Bool.not_false,Bool.true_and,ON]
   rfl
theorem mn:∀ts:List Th,gf (bD ts)=true
 | []=>by rw[bD,gf]
 | t::ts=>by rw[bD,gf,C9 t,mn ts];rfl
end
theorem sD (ts:List Th):noMix (.lst (bD ts))=true:=by rw[noMix,uh,mn];rfl
theorem mI {K:Uk}{ns:OB}{k c:Int}(R:Hp)(ws:List V)(h:PySem.Paired (bG.R K R) ws (bt ns k c)):∃s k' rest,ws= .ref s:: .int k'::rest:=by
 cases h with
 | cons a1 t1=>cases t1 with
   | cons a2 t2=>
     obtain⟨s,e,_⟩:=(a1:bp.R K R _ ns)
     have e2:_=V.int k:=a2
     exact⟨s,k,_,by rw[e,e2]⟩
section
abbrev D8:Stmt:=top si
abbrev nTH:OC:=["_law_pen","_law_depth","_law_loops","_law_calls","_law_way","_law_name_here","_law_first"]
abbrev xp:OC:=["_law_pen","_law_depth","_law_loops","_law_calls"]
theorem HL:aF nTH xp (ai D8):=Vk
theorem Dq (M:cH K mg)(CP:aH P w K mg base "_law_pull" 2 (fF bG xB K))(CN:aH P w K mg base "_law_name" 1 (aN Ec K))(n:Nat)(CL:∀m,n=m+1->aH P w K mg base "_law_list" (2*m+8) (fF bG (Du m) K))(F:dU K "_law_thing" "_law_thing" D8 f fd)(hm:mg "_law_thing"=some (.ref f))(hb:Binds K fd xp []):aH P w K mg base "_law_thing" (2*n+7) (fF bG (HR n) K):=by
 have nd:=HL.nd
 have CP:=CP.mono (show 2<=2*n+6 by omega)
 have CN:=CN.mono (show 1<=2*n+6 by omega)
 refine vb (k:=2*n+6) F HL hm hb (λxs qs T ⟨_,_,_,_,_,_,e,_⟩=>by rw[e];rfl) (λUX A outer s H E a xs qs T hr hS=>?_)
 obtain⟨ns,UR,k,c,US,rfl,rfl,hp,c0,rfl⟩:=hS
 have hb16:=Dd n
 have k0:=hp.k0
 have k1:=hp.k1
 have cl:=hp.l
 have c1:=hp.c1
 change WS _ _ [.ob (a7 a bG (bt ns k c)),ar (4-(n:Int)),ar US,cb UR,.no,.no,.no] _ _
 refine ak (a9 4 (cI (eT 0 (st:=bt ns (k+1) c) (z:=aJ ns (k+1)) CP hr aw rfl ⟨ns,k,c,rfl,rfl,hp.s,k0,by omega,rfl⟩) ev_int (by decide)) ?_)
 change WS _ _ [.ob (a7 a bG (bt ns (k+1) c)),ar (4-(n:Int)),ar US,cb UR,ar (aJ ns (k+1)%12),.no,.no] _ _
 have m2:=qI ns (k+2)
 have e2:k+1+1=k+2:=by omega
 refine ak (a9 5 (y:=U5 (aJ ns (k+2))) (aE CN hr (aj (eT 0 (st:=bt ns (k+2) c) (z:=aJ ns (k+2)) CP hr aw rfl ⟨ns,k+1,c,rfl,rfl,hp.s,by omega,by omega,by rw[e2]⟩) aw) ⟨_,rfl,m2.1,m2.2,rfl⟩) ?_)
 change WS _ _ [.ob (a7 a bG (bt ns (k+2) c)),ar (4-(n:Int)),ar US,cb UR,ar (aJ ns (k+1)%12),.im ag (U5 (aJ ns (k+2))),.no] _ _
 have fin:∀(k' c':Int) (t:Th) (r:Th×Pn),Vj ns UR (dC ns UR n) US (k,c)=(t,(k',c'))->(λxs' (y:PV)=>xs'=bt ns (Vj ns UR (dC ns UR n) US (k,c)).2.1 (Vj ns UR (dC ns UR n) US (k,c)).2.2/\y=ft (Vj ns UR (dC ns UR n) US (k,c)).1) (bt ns k' c') (.lst (gj t)):=λk' c' t r h=>by rw[h];exact⟨rfl,(dN t).symm⟩
 refine ak (bE (TW.tv (c6 (aD iG (aa 4 rfl) ev_int) (λ_=>ee (aD ir (aa 2 rfl) ev_int)))) (λh=>?_) (λh=>aW ?_))
 ·have h:C0 ns k US:=by simpa using h
  exact ao (iq 0 (aZ.rZ (aV (r:=aI) (ax (EV.pS aG) aR) (by show 1<=RE;decide)) rfl) rfl (fin _ _ .leave (.leave,(k,c)) (Ay h)))
 have h0:¬C0 ns k US:=by simpa using h
 refine ak (bE (aD iG (aa 4 rfl) ev_int) (λh=>?_) (λh=>aW ?_))
 ·have h:fN ns k=1:=UM h
  exact ao (iq 0 (aZ.rZ (aV (r:=aI) (ax (EV.pS aG) aR) (by show 1<=RE;decide)) rfl) rfl (fin _ _ .back (.leave,(k,c)) (Cf h0 h)))
 have h1:¬fN ns k=1:=UN h
 refine ak (bE (TW.tv (c6 (aD ir (aa 4 rfl) ev_int) (λ_=>ee (aD ir (eO M.len (aa 3 rfl)) ev_int)))) (λh=>?_) (λh=>aW ?_))
 ·have h:C2 ns UR k:=by
   have h:9<fN ns k/\(0:Int)<(UR.length:Int):=by simpa using h
   exact⟨h.1,by omega⟩
  have hl:(0:Int)<(UR.length:Int):=by have:=h.2;omega
  refine ak (fK 0 (j:=2) (EV.inr (gm (EV.nS (fG 0 ev_int rfl (y:=(Sum.inr c:OB ⊕ Int)) rfl)) ev_int)) ev_int rfl rfl rfl ?_)
  change WS _ _ [.ob (a7 a bG (bt ns (k+2) (c-1))),ar (4-(n:Int)),ar US,cb UR,ar (aJ ns (k+1)%12),.im ag (U5 (aJ ns (k+2))),.no] _ _
  have e3:k+2+1=k+3:=by omega
  have q0:=OR (aJ ns (k+3)) (show(UR.length:Int)≠0 by omega)
  have q1:=OQ (aJ ns (k+3)) hl
  exact ao (iq 0 (aZ.rZ (aV (r:=aI) (ax (EV.pS aG) (ax (EV.pI (bo (aa 3 rfl) (cI (eT 0 (st:=bt ns (k+3) (c-1)) (z:=aJ ns (k+3)) CP hr aw rfl ⟨ns,k+2,c-1,rfl,rfl,hp.s,by omega,by omega,by rw[e3]⟩) (eO M.len (aa 3 rfl)) hl) (aY 0 q0 q1))) aR)) (by show 2<=RE;decide)) rfl) rfl (fin _ _ (.call _) (.leave,(k,c)) (BS h0 h1 h)))
 have h2:¬C2 ns UR k:=by
  have h:9<fN ns k->¬(0:Int)<(UR.length:Int):=by simpa using h
  exact λ⟨x,y⟩=>h x (by omega)
 refine ak (bE (TW.tv (c6 (aD ir (aa 4 rfl) ev_int) (λ_=>c6 (aD lZ (aa 4 rfl) ev_int) (λ_=>c6 (aD lZ (aa 1 rfl) ev_int) (λ_=>ee (aD ir (EV.nS (fG 0 ev_int rfl (y:=(Sum.inr c:OB ⊕ Int)) rfl)) ev_int)))))) (λh=>?_) (λh=>aW ?_))
 ·have h:3<fN ns k/\fN ns k<7/\4-(n:Int)<4/\1<c:=by simpa using h
  have h3:C3 ns k c:=⟨⟨h.1,h.2.1⟩,h.2.2.2⟩
  have hc:=h.2.2.2
  have hn:=h.2.2.1
  obtain⟨m,rfl⟩:∃m,n=m+1:=⟨n-1,by omega⟩
  have CL:=(CL m rfl).mono (show 2*m+8<=2*(m+1)+6 by omega)
  have n4:=hp.n4
  have hf:decide (m=4)=false:=UP (by omega)
  have hbd:bT (m+1)=3+2*kU m:=rfl
  refine ak (fK 0 (j:=2) (EV.inr (gm (EV.nS (fG 0 ev_int rfl (y:=(Sum.inr c:OB ⊕ Int)) rfl)) ev_int)) ev_int rfl rfl rfl ?_)
  change WS _ _ [.ob (a7 a bG (bt ns (k+2) (c-2))),ar (4-((m+1:Nat):Int)),ar US,cb UR,ar (aJ ns (k+1)%12),.im ag (U5 (aJ ns (k+2))),.no] _ _
  have p1:nr ns UR m (kU m) (k+2) (c-2):=⟨hp.s,by omega,by omega,by omega,by omega,hp.l,by omega⟩
  obtain⟨g1,g2,g3,g4⟩:=kT ns UR m false US (k+2,c-2) (by show 0<=c-2;omega)
  have e1:=Jq (L:=Vb ns UR m false) h0 h1 h2 h3
  generalize hr1:Vb ns UR m false US (k+2,c-2)=r1 at g1 g2 g3 g4 e1
  dsimp only at g2 g3
  refine ak (pF 6 (g6 0 (st:=bt ns (Vb ns UR m false US (k+2,c-2)).2.1 (Vb ns UR m false US (k+2,c-2)).2.2) (z:=.lst (bD (Vb ns UR m false US (k+2,c-2)).1)) CL hr (aj (EV.cast (y':=4-(m:Int)) (cv (aa 1 rfl) ev_int) (by omega)) (aj (aa 2 rfl) (aj (aa 3 rfl) aw))) rfl ⟨ns,UR,_,_,US,rfl,rfl,p1,by rw[hf]⟩ mI (sD _)) λf6=>?_)
  rw[hr1]
  change WS _ _ [.ob (a7 a bG (bt ns r1.2.1 r1.2.2)),ar (4-((m+1:Nat):Int)),ar US,cb UR,ar (aJ ns (k+1)%12),.im ag (U5 (aJ ns (k+2))),.ob (fT (.lst (bD r1.1)) f6)] _ _
  have p2:nr ns UR m (kU m) r1.2.1 r1.2.2:=⟨hp.s,by omega,by omega,by omega,by omega,hp.l,by omega⟩
  exact ao (iq 0 (JT 6 (EV.pS aG) (EV.pS (aa 5 rfl)) (g6 0 (st:=bt ns (Vb ns UR m false US r1.2).2.1 (Vb ns UR m false US r1.2).2.2) (z:=.lst (bD (Vb ns UR m false US r1.2).1)) CL hr (aj (EV.cast (y':=4-(m:Int)) (cv (aa 1 rfl) ev_int) (by omega)) (aj (aa 2 rfl) (aj (aa 3 rfl) aw))) rfl ⟨ns,UR,_,_,US,rfl,rfl,p2,by rw[hf]⟩ mI (sD _)) rfl rfl rfl rfl) rfl (fin _ _ (.ifs _ _ _) (.leave,(k,c)) e1))
 have h3:n=0∨¬C3 ns k c:=by
  have h:3<fN ns k->fN ns k<7->4-(n:Int)<4->¬1<c:=by simpa using h
  by_cases z:n=0
  ·exact .inl z
  ·exact .inr λ⟨⟨x,y⟩,u⟩=>h x y (by omega) u
 refine ak (bE (TW.tv (c6 (aD ir (aa 4 rfl) ev_int) (λ_=>c6 (aD lZ (aa 4 rfl) ev_int) (λ_=>c6 (aD lZ (aa 1 rfl) ev_int) (λ_=>ee (aD ir (EV.nS (fG 0 ev_int rfl (y:=(Sum.inr c:OB ⊕ Int)) rfl)) ev_int)))))) (λh=>?_) (λh=>aW ?_))
 ·have h:6<fN ns k/\fN ns k<10/\4-(n:Int)<4/\1<c:=by simpa using h
  have h4:C4 ns k c:=⟨⟨h.1,h.2.1⟩,h.2.2.2⟩
  have hc:=h.2.2.2
  have hn:=h.2.2.1
  have h3x:¬C3 ns k c:=h3.resolve_left (by omega)
  obtain⟨m,rfl⟩:∃m,n=m+1:=⟨n-1,by omega⟩
  have CL:=(CL m rfl).mono (show 2*m+8<=2*(m+1)+6 by omega)
  have n4:=hp.n4
  have hf:decide (m=4)=false:=UP (by omega)
  have hbd:bT (m+1)=3+2*kU m:=rfl
  refine ak (fK 0 (j:=2) (EV.inr (gm (EV.nS (fG 0 ev_int rfl (y:=(Sum.inr c:OB ⊕ Int)) rfl)) ev_int)) ev_int rfl rfl rfl ?_)
  change WS _ _ [.ob (a7 a bG (bt ns (k+2) (c-2))),ar (4-((m+1:Nat):Int)),ar US,cb UR,ar (aJ ns (k+1)%12),.im ag (U5 (aJ ns (k+2))),.no] _ _
  have p1:nr ns UR m (kU m) (k+2) (c-2):=⟨hp.s,by omega,by omega,by omega,by omega,hp.l,by omega⟩
  have e1:=IB (L:=Vb ns UR m false) h0 h1 h2 h3x h4
  exact ao (iq 0 (Im (EV.pS aG) (EV.pS (aa 5 rfl)) (g6 0 (st:=bt ns (Vb ns UR m false (US+1) (k+2,c-2)).2.1 (Vb ns UR m false (US+1) (k+2,c-2)).2.2) (z:=.lst (bD (Vb ns UR m false (US+1) (k+2,c-2)).1)) CL hr (aj (EV.cast (y':=4-(m:Int)) (cv (aa 1 rfl) ev_int) (by omega)) (aj (cv (aa 2 rfl) ev_int) (aj (aa 3 rfl) aw))) rfl ⟨ns,UR,_,_,US+1,rfl,rfl,p1,by rw[hf]⟩ mI (sD _)) rfl rfl) rfl (fin _ _ (.U6 _ _) (.leave,(k,c)) e1))
 have h4:n=0∨¬C4 ns k c:=by
  have h:6<fN ns k->fN ns k<10->4-(n:Int)<4->¬1<c:=by simpa using h
  by_cases z:n=0
  ·exact .inl z
  ·exact .inr λ⟨⟨x,y⟩,u⟩=>h x y (by omega) u
 refine ak (fK 0 (j:=2) (EV.inr (gm (EV.nS (fG 0 ev_int rfl (y:=(Sum.inr c:OB ⊕ Int)) rfl)) ev_int)) ev_int rfl rfl rfl ?_)
 change WS _ _ [.ob (a7 a bG (bt ns (k+2) (c-1))),ar (4-(n:Int)),ar US,cb UR,ar (aJ ns (k+1)%12),.im ag (U5 (aJ ns (k+2))),.no] _ _
 refine ao (iq 0 (aZ.rZ (aV (r:=aI) (ax (EV.pS aG) (ax (EV.pS (aa 5 rfl)) aR)) (by show 2<=RE;decide)) rfl) rfl (fin _ _ (.Vl _) (.leave,(k,c)) (Ka h0 h1 h2 λL e=>?_)))
 cases n with
 | zero=>cases e
 | succ m=>exact⟨h3.resolve_left (by omega),h4.resolve_left (by omega)⟩
end
end K1
namespace K1
open PySem L2 Fc
open PySem.Spec hiding Row
open PyProof.Rows hiding St
open PySem.Builtin.Int (intBits)
variable {P:RJ}{w:World}{K:Uk}{mg:Oz}{base:Heap}{f:Addr}{fd:RO}
theorem Ko (n:Nat):kU n=1+5*bT n:=by cases n<;>rfl
theorem D1 (ns UR:OB):∀(n:Nat) (lp:Int) (s:Pn),0<s.2->qB n (bT n) s (Vj ns UR (dC ns UR n) lp s)
 | 0,lp,s,h=>tI ns UR lp s h
 | n+1,lp,s,h=>sQ (kT ns UR n false) lp s h
theorem Lb (K:Uk)(H H':Hp)(v:V)(y:Int)(h:ah.R K H v y):ah.R K H' v y:=h
theorem LP (K:Uk)(H H':Hp)(v:V)(y:Str)(h:ag.R K H v y):ag.R K H' v y:=h
theorem xu (t:Th):oH t=decide (cV t="back"):=by cases t<;>rfl
theorem EI (a b:List Th):bD (a++b)=bD a++bD b:=by rw[dR,dR,dR,Ph]
theorem jo (a:List Th):(bD a).length=a.length:=by rw[dR,OZ]
section
abbrev pD:Stmt:=top sO
abbrev JA:OC:=["_law_pen","_law_depth","_law_loops","_law_calls","_law_items","_law_k","_law_one"]
theorem Cj:aF JA xp (ai pD):=Vk
theorem ls_run (M:cH K mg)(CP:aH P w K mg base "_law_pull" 2 (fF bG xB K))(CA:aH P w K mg base "_law_passes" 6 (aN (AI 5) K)){n:Nat}(CT:aH P w K mg base "_law_thing" (2*n+7) (fF bG (HR n) K)){UX:Value}{A:RL}{outer:List Env}{s:RA}{H:Hp}{E:XK}{a:Addr}{ns UR:OB}{k c US:Int}{N:Ga->Prop}{T:RT}(hr:bI (2*n+7) (A.deeper (Ru "_law_list" (ai pD) s.heap.objs.size f UX)))(hp:nr ns UR n (kU n) k c)
 (WC:∀(e5 e6:Ent) (fp:OE),WS (eI d6 P w K mg base JA "_law_list" (ai pD) f UX A outer s H E).h9 ((bw pD).drop 2) [.ob (a7 a bG (bt ns (Vb ns UR n (decide (n=4)) US (k,c)).2.1 (Vb ns UR n (decide (n=4)) US (k,c)).2.2)),ar (4-(n:Int)),ar US,cb UR,.ob (fT (.lst (bD (Vb ns UR n (decide (n=4)) US (k,c)).1)) fp),e5,e6] N T):
 WS (eI d6 P w K mg base JA "_law_list" (ai pD) f UX A outer s H E).h9 (bw pD) [.ob (a7 a bG (bt ns k c)),ar (4-(n:Int)),ar US,cb UR,.no,.no,.no] N T:=by
 have nd:=Cj.nd
 have CP:=CP.mono (show 2<=2*n+7 by omega)
 have CA:=CA.mono (show 6<=2*n+7 by omega)
 have k0:=hp.k0
 have k1:=hp.k1
 have c0:=hp.c0
 have c1:=hp.c1
 have n4:=hp.n4
 have hbd:=Ko n
 have b3:=Dd n
 rw[lg] at WC
 generalize htp:decide (n=4)=tp at WC
 have Xv:=uO (ns:=ns) (UR:=UR) (sub:=dC ns UR n) (n:=n) (b:=bT n) (by omega) (D1 ns UR n) tp US (k,c) c0
 dsimp only at Xv WC
 have hmany:=wV ns tp k
 generalize hx:(λi=>Vi (g7 ns UR (dC ns UR n) tp US) i ([],(k+1,c)))=x at Xv
 have hxi:∀i,Vi (g7 ns UR (dC ns UR n) tp US) i ([],(k+1,c))=x i:=λi=>by rw[← hx]
 have hxs:∀i,x (i+1)=g7 ns UR (dC ns UR n) tp US (x i):=λi=>by rw[← hx];rfl
 have hx0:x 0=([],(k+1,c)):=by rw[← hx];rfl
 simp only[hxi] at Xv WC
 refine ak (pF 4 (y:=.lst []) (aZ.rZ (aV aR (QY _)) rfl) λf4=>?_)
 change WS _ _ [.ob (a7 a bG (bt ns k c)),ar (4-(n:Int)),ar US,cb UR,.ob (fT (.lst []) f4),.no,.no] _ _
 have m0:=OR (aJ ns (k+1)) (show(4:Int)≠0 by decide)
 have m1:=OQ (aJ ns (k+1)) (show(0:Int)<4 by decide)
 have Yc:decide (4-(n:Int)=0)=tp:=by rw[← htp];exact decide_eq_decide.mpr ⟨λh=>by omega,λh=>by omega⟩
 have Zj:(aJ ns (k+1)%4+2*(if decide (4-(n:Int)=0)=true then 1 else 0)).toNat=fb ns tp k:=by rw[Yc];rfl
 have hb2:0<=(if decide (4-(n:Int)=0)=true then(1:Int) else 0)/\(if decide (4-(n:Int)=0)=true then(1:Int) else 0)<=1:=by split<;>decide
 refine ak (cJ (r:=ah) (λi Γ=>∃e5 e6 fp,Γ=[.ob (a7 a bG (bt ns (x i).2.1 (x i).2.2)),ar (4-(n:Int)),ar US,cb UR,.ob (fT (.lst (bD (x i).1)) fp),e5,e6]) (dD M.range (cv (cI (eT 0 (st:=bt ns (k+1) c) (z:=aJ ns (k+1)) CP hr aw rfl ⟨ns,k,c,rfl,rfl,hp.s,k0,by omega,rfl⟩) ev_int (by decide)) (IQ ev_int (wW M.int (jI iG (aa 1 rfl) ev_int)) (.inl (by decide)))) ⟨by omega,by omega⟩) (aX 5) ⟨_,_,f4,by rw[hx0];rfl⟩ (λi j Γ hj hΓ=>?_) (λΓ hΓ=>?_))
 ·obtain⟨e5,e6,fp,rfl⟩:=hΓ
  have il:=(fm hj).1
  rw[Zj] at il
  obtain⟨rd,⟨rc,rc0⟩,⟨rk0,rk1⟩,rll⟩:=Xv i
  have hmul:bT n*i<=bT n*4:=Nat.mul_le_mul_left _ (by omega)
  have hs:=hxs i
  generalize x i=xi at rd rc rc0 rk0 rk1 rll hs
  obtain⟨UW,kk,cc⟩:=xi
  dsimp only at rd rc rc0 rk0 rk1 rll ⊢
  change WS _ _ [.ob (a7 a bG (bt ns kk cc)),ar (4-(n:Int)),ar US,cb UR,.ob (fT (.lst (bD UW)) fp),ar j,e6] _ _
  have rkk:kk+(bT n:Int)<=900000:=by push_cast at rk1;omega
  refine ao (bE (TW.tv (c6 (aD ir (EV.nS (fG 0 ev_int rfl (y:=(Sum.inr cc:OB ⊕ Int)) rfl)) ev_int) (λ_=>ee (TV.VP (B8 (i:=4) rfl) (eL (aE CA hr (aj (EV.lP (aa 4 rfl)) aw) ⟨UW,rfl,by omega,rfl⟩)))))) (λh=>?_) (λh=>aW ?_))
  ·have h:0<cc/\c8 UW=true:=by simpa using h
   have ht:=D1 ns UR n US (kk,cc) h.1
   have e1:g7 ns UR (dC ns UR n) tp US (UW,kk,cc)=if tp=true/\UW.length=0/\oH (Vj ns UR (dC ns UR n) US (kk,cc)).1=true then(UW++[.Vl "back"],((Vj ns UR (dC ns UR n) US (kk,cc)).2.1,(Vj ns UR (dC ns UR n) US (kk,cc)).2.2-1)) else(UW++[(Vj ns UR (dC ns UR n) US (kk,cc)).1],(Vj ns UR (dC ns UR n) US (kk,cc)).2):=UL h
   refine ak (pF 6 (g6 0 (st:=bt ns (Vj ns UR (dC ns UR n) US (kk,cc)).2.1 (Vj ns UR (dC ns UR n) US (kk,cc)).2.2) (z:=ft (Vj ns UR (dC ns UR n) US (kk,cc)).1) CT hr (aj (aa 1 rfl) (aj (aa 2 rfl) (aj (aa 3 rfl) aw))) rfl ⟨ns,UR,kk,cc,US,rfl,rfl,⟨hp.s,by omega,rkk,by omega,by omega,hp.l,n4⟩,h.1,rfl⟩ mI (C9 _)) λf6=>?_)
   generalize Vj ns UR (dC ns UR n) US (kk,cc)=r at ht e1
   obtain⟨tt,kr,cr⟩:=r
   dsimp only at e1 ⊢
   change WS _ _ [.ob (a7 a bG (bt ns kr cr)),ar (4-(n:Int)),ar US,cb UR,.ob (fT (.lst (bD UW)) fp),ar j,.ob (fT (ft tt) f6)] _ _
   refine bM (N1:=λΓ=>∃t' c' f',Γ=[.ob (a7 a bG (bt ns kr c')),ar (4-(n:Int)),ar US,cb UR,.ob (fT (.lst (bD UW)) fp),ar j,.ob (fT (ft t') f')]/\g7 ns UR (dC ns UR n) tp US (UW,kk,cc)=(UW++[t'],(kr,c'))) (bE (TW.tv (c6 (aD iG (aa 1 rfl) ev_int) (λ_=>c6 (aD iG (EV.VP (B8 (i:=4) rfl) Lb (eO M.len (EV.lP (aa 4 rfl)))) ev_int) (λ_=>ee (aD cM (EV.VP (B8 (i:=6) rfl) LP (iR (aa 6 rfl))) aG))))) (λh=>?_) (λh=>aW ⟨tt,cr,f6,rfl,?_⟩)) ?_
   ·have h:tp=true/\UW.length=0/\oH tt=true:=by
     rw[Yc,jo] at h
     rw[xu]
     simpa using h
    refine ak (fK 0 (j:=2) (EV.inr (gm (EV.nS (fG 0 ev_int rfl (y:=(Sum.inr cr:OB ⊕ Int)) rfl)) ev_int)) ev_int rfl rfl rfl ?_)
    change WS _ _ [.ob (a7 a bG (bt ns kr (cr-1))),ar (4-(n:Int)),ar US,cb UR,.ob (fT (.lst (bD UW)) fp),ar j,.ob (fT (ft tt) f6)] _ _
    refine ao (pF 6 (y:=ft (.Vl "back")) (ib.cast (x:=.lst (gj (.Vl "back"))) (aZ.rZ (aV (r:=aI) (ax (EV.pS aG) (ax (EV.pS aG) aR)) (by show 2<=RE;decide)) rfl) (dN _).symm) λf'=>⟨.Vl "back",cr-1,f',rfl,?_⟩)
    rw[e1,UL h]
   ·have h:¬(tp=true/\UW.length=0/\oH tt=true):=by
     rw[Yc,jo] at h
     rw[xu]
     simpa using h
    rw[e1,UK h]
   rintro _ ⟨t',c',f',rfl,e2⟩
   refine ao (HM 4 (xb 6 rfl) rfl rfl (QZ (show _<=10 by rw[jo];omega) (by decide)) λfp'=>⟨ar j,.no,fp',?_⟩)
   rw[hs,e2,EI,bD,bD]
   rfl
  ·have h:¬(0<cc/\c8 UW=true):=by simpa using h
   refine⟨ar j,e6,fp,?_⟩
   rw[hs,show g7 ns UR (dC ns UR n) tp US (UW,kk,cc)=(UW,kk,cc) from UK h]
 ·obtain⟨e5,e6,fp,rfl⟩:=hΓ
  rw[ba,Zj]
  exact WC e5 e6 fp
theorem zS (M:cH K mg)(CP:aH P w K mg base "_law_pull" 2 (fF bG xB K))(CA:aH P w K mg base "_law_passes" 6 (aN (AI 5) K)){n:Nat}(CT:aH P w K mg base "_law_thing" (2*n+7) (fF bG (HR n) K))(F:dU K "_law_list" "_law_list" pD f fd)(hm:mg "_law_list"=some (.ref f))(hb:Binds K fd xp []):aH P w K mg base "_law_list" (2*n+8) (fF bG (Du n) K):=by
 have nd:=Cj.nd
 refine vb (k:=2*n+7) F Cj hm hb (λxs qs T ⟨_,_,_,_,_,_,e,_⟩=>by rw[e];rfl) (λUX A outer s H E a xs qs T hr hS=>?_)
 obtain⟨ns,UR,k,c,US,rfl,rfl,hp,rfl⟩:=hS
 exact ls_run M CP CA CT hr hp λe5 e6 fp=>ao (iq 0 (xb 4 rfl) rfl ⟨rfl,rfl⟩)
theorem Ea (M:cH K mg)(CP:aH P w K mg base "_law_pull" 2 (fF bG xB K))(CN:aH P w K mg base "_law_name" 1 (aN Ec K))(CA:aH P w K mg base "_law_passes" 6 (aN (AI 5) K)){f2:Addr}{fd2:RO}(F:dU K "_law_list" "_law_list" pD f fd)(hm:mg "_law_list"=some (.ref f))(hb:Binds K fd xp [])(F2:dU K "_law_thing" "_law_thing" D8 f2 fd2)(WW:mg "_law_thing"=some (.ref f2))(hb2:Binds K fd2 xp []):∀n,aH P w K mg base "_law_list" (2*n+8) (fF bG (Du n) K)
 | 0=>zS M CP CA (Dq M CP CN 0 (λm h=>UJ h (by omega)) F2 WW hb2) F hm hb
 | n+1=>zS M CP CA (Dq M CP CN (n+1) (λm h=>by cases h;exact Ea M CP CN CA F hm hb F2 WW hb2 n) F2 WW hb2) F hm hb
end
section
variable {x:Str}
def jb (UQ:OC)(x c:Str):Str:=if x∈UQ then gC x++c else x
abbrev kB:Str:="qwer"
def vk (UQ:OC)(x:Str):Str:=(gA kB).foldl (jb UQ) x
def da (ns:OB)(s:Int):Nat->OC
 | 0=>[]
 | i+1=>da ns s i++[vk (da ns s i) (U5 (aJ ns (s+2+(i:Int))))]
def Vz (ns:OB)(s:Int):Int:=1+aJ ns (s+1)%4
def cY (m:Int):Int:=([14,12,8,6]:OB).getD (m-1).toNat 0
def eM (i:Nat)(m:Int):OB:=ups ((i:Int)+1) (m-((i:Int)+1)).toNat
def U7 (ns:OB)(m k:Int):Nat->List (List Th)×Int
 | 0=>([],k)
 | i+1=>((U7 ns m k i).1++[(Vb ns (eM i m) 4 true 0 ((U7 ns m k i).2,cY m)).1],(Vb ns (eM i m) 4 true 0 ((U7 ns m k i).2,cY m)).2.1)
def Xg (ns:OB)(k:Int)(j:Nat):Nat:=(aJ ns (k+1)%(j:Int)).toNat
def nU (ns:OB)(x:List (List Th)×Int)(j:Nat):List (List Th)×Int:=
 (x.1.set (Xg ns x.2 j) (bQ (aJ ns (x.2+2)%((x.1.getD (Xg ns x.2 j) []).length:Int)).toNat (.call (j:Int)) (x.1.getD (Xg ns x.2 j) [])),x.2+2)
def Vm (ns:OB)(x:List (List Th)×Int):Nat->List (List Th)×Int
 | 0=>x
 | i+1=>nU ns (Vm ns x i) (i+1)
def VG (ns:OB)(s:Int):OC:=da ns s (Vz ns s).toNat
def VU (ns:OB)(s:Int):List (List Th):=(Vm ns (U7 ns (Vz ns s) (s+1+Vz ns s) (Vz ns s).toNat) (Vz ns s-1).toNat).1
theorem xc (ns:OB)(s:Int):1<=Vz ns s/\Vz ns s<=4:=by
 unfold Vz
 have:=OR (aJ ns (s+1)) (show(4:Int)≠0 by decide)
 have:=OQ (aJ ns (s+1)) (show(0:Int)<4 by decide)
 omega
theorem zP {m:Int}(h1:1<=m)(h4:m<=4):6<=cY m/\cY m<=14:=by
 have:∀j:Fin 4,6<=([14,12,8,6]:OB).getD j.val 0/\([14,12,8,6]:OB).getD j.val 0<=14:=by decide
 exact this ⟨(m-1).toNat,by omega⟩
theorem uk (x:Str):(gC x).length<=7:=by
 unfold gC
 show(List.take 7 x.cps.toList).toArray.size<=7
 rw[O9,Pl];omega
theorem CY {c:Nat}(h:c∈(gC x).cps.toList):c∈x.cps.toList:=by
 unfold gC at h
 have:c∈List.take 7 x.cps.toList:=by simpa using h
 exact QO this
theorem qz {c:Str}(h:c∈gA kB):cF c/\c.length=1:=by
 have:∀c∈gA kB,((1<=c.length/\c.length<=8)/\∀d∈c.cps.toList,97<=d/\d<=122)/\c.length=1:=by decide +kernel
 obtain⟨⟨⟨a,b⟩,d⟩,e⟩:=this c h
 exact⟨⟨a,b,d⟩,e⟩
theorem Ip {UQ:OC}{c:Str}(hx:cF x)(hc:cF c/\c.length=1):cF (jb UQ x c):=by
 unfold jb
 split
 ·refine⟨?_,?_,λd hd=>?_⟩
  ·rw[len_app,hc.2];omega
  ·rw[len_app,hc.2];have:=uk x;omega
  ·rcases qW hd with z | z
   ·exact hx.az d (CY z)
   ·exact hc.1.az d z
 ·exact hx
theorem mQ {UQ:OC}:∀{cs:OC} {x:Str},cF x->(∀c∈cs,cF c/\c.length=1)->cF (cs.foldl (jb UQ) x)
 | [],_,hx,_=>hx
 | c::cs,x,hx,h=>mQ (cs:=cs) (x:=jb UQ x c) (Ip hx (h c O3)) λd hd=>h d (O2 _ hd)
theorem Kl {UQ:OC}(hx:cF x):cF (vk UQ x):=mQ hx λc hc=>qz hc
theorem kM (ns:OB)(s:Int):∀i,(da ns s i).length=i
 | 0=>rfl
 | i+1=>by rw[da,O4,kM ns s i];rfl
theorem AV (ns:OB)(s:Int):∀i,∀x∈da ns s i,cF x
 | 0,x,h=>by cases h
 | i+1,x,h=>by
   rw[da] at h
   rcases Pa.mp h with z | z
   ·exact AV ns s i x z
   ·rw[O0.mp z];exact Kl (iC _)
theorem kN (ns:OB)(m k:Int):∀i,(U7 ns m k i).1.length=i
 | 0=>rfl
 | i+1=>by rw[U7,O4,kN ns m k i];rfl
theorem NV:kU 4=177776:=rfl
theorem DO (ns:OB)(m k:Int)(hb:0<=cY m):∀i:Nat,k<=(U7 ns m k i).2/\(U7 ns m k i).2<=k+177776*(i:Int)
 | 0=>⟨OS _,by show k<=_;omega⟩
 | i+1=>by
   obtain⟨a,b⟩:=DO ns m k hb i
   obtain⟨c,d⟩:=(kT ns (eM i m) 4 true 0 ((U7 ns m k i).2,cY m) hb).k
   rw[NV] at d
   dsimp only at c d
   rw[U7]
   dsimp only
   exact⟨by omega,by push_cast;omega⟩
theorem Hs (ns UR:OB)(c k:Int)(hc:0<c):0<(Vb ns UR 4 true 0 (k,c)).1.length:=by
 rw[lg]
 have hm:2<=fb ns true k:=by
  unfold fb
  have:=OR (aJ ns (k+1)) (show(4:Int)≠0 by decide)
  simp;omega
 have key:∀(f:List Th×Pn->List Th×Pn) (x:List Th×Pn),(∀y,y.1.length<=(f y).1.length)->0<(f x).1.length->∀m,1<=m->0<(Vi f m x).1.length:=by
  intro f x h1 h2 m
  induction m with
  | zero=>intro h;omega
  | succ m ih=>
    intro _
    rw[Vi]
    cases m with
    | zero=>exact h2
    | succ m=>exact Q0 (ih (by omega)) (h1 _)
 refine key _ _ (λy=>?_) ?_ _ (show 1<=fb ns true k by omega)
 ·unfold g7
  split
  ·split<;>simp
  ·exact QW _
 ·unfold g7
  rw[UL ⟨hc,by simp[c8]⟩]
  split<;>simp
theorem yZ (ns:OB)(m k:Int)(hb:0<cY m):∀i,∀L∈(U7 ns m k i).1,0<L.length/\L.length<=5
 | 0,L,h=>by cases h
 | i+1,L,h=>by
   rw[U7] at h
   rcases Pa.mp h with z | z
   ·exact yZ ns m k hb i L z
   ·rw[O0.mp z]
    exact⟨Hs ns _ _ _ hb,(kT ns (eM i m) 4 true 0 ((U7 ns m k i).2,cY m) (Int.le_of_lt hb)).l⟩
theorem jY {α:Type}(k:Nat)(y:α)(xs:List α):(bQ k y xs).length=xs.length+1:=by
 unfold bQ
 rw[O4,O8,Pl,Qq];omega
theorem mem_set {α:Type}{l:List α}{i:Nat}{x y:α}(h:y∈l.set i x):y∈l∨y=x:=List.mem_or_eq_of_mem_set h
theorem wZ (ns:OB)(x:List (List Th)×Int)(hx:∀L∈x.1,0<L.length/\L.length<=5):∀i,(Vm ns x i).1.length=x.1.length/\(Vm ns x i).2=x.2+2*(i:Int)/\∀L∈(Vm ns x i).1,0<L.length/\L.length<=5+i
 | 0=>⟨rfl,by show x.2=_;omega,λL h=>⟨(hx L h).1,(hx L h).2⟩⟩
 | i+1=>by
   obtain⟨a,b,c⟩:=wZ ns x hx i
   rw[Vm]
   refine⟨by unfold nU;dsimp only;rw[PN];exact a,by unfold nU;dsimp only;rw[b];push_cast;omega,λL h=>?_⟩
   unfold nU at h
   dsimp only at h
   rcases mem_set h with z | z
   ·have:=c L z;omega
   ·rw[z,jY]
    generalize hn:Xg ns (Vm ns x i).2 (i+1)=n
    refine⟨by omega,?_⟩
    rw[OY]
    cases e:(Vm ns x i).1[n]? with
    | none=>show 0+1<=_;omega
    | some L'=>
      have:=(c L' (O6 e)).2
      show L'.length+1<=_
      omega
end
section
abbrev Jv:Stmt:=top sj
abbrev nDR:OC:=["_law_script","_law_start","_law_pen","_law_many","_law_names","_law_k","_law_name_here","_law_letter","_law_lists","_law_items"]
theorem Hr:aF nDR ["_law_script","_law_start"] (ai Jv):=Vk
def Nh:cP:=λK ps T=>∃(ns:OB) (s:Int),ps=[⟨bp,ns⟩,⟨ah,s⟩]/\xn ns/\0<=s/\s<=1000/\T=Cm K (ae ag) λy L=>y=VG ns s/\L=(VU ns s).map bD
theorem Mp (M:cH K mg)(CP:aH P w K mg base "_law_pull" 2 (fF bG xB K))(CN:aH P w K mg base "_law_name" 1 (aN Ec K))(CL:aH P w K mg base "_law_list" 16 (fF bG (Du 4) K))(Df:Def K mg "_law_drawn" Jv ["_law_script","_law_start"]):aH P w K mg base "_law_drawn" 17 (aN Nh K):=by
 have nd:=Hr.nd
 have CP:=CP.mono (show 2<=16 by decide)
 have CN:=CN.mono (show 1<=16 by decide)
 refine bJ (k:=16) Df Hr (λf UX A outer st H E qs T hr hS=>?_)
 obtain⟨ns,s,rfl,hs,s0,s1,rfl⟩:=hS
 obtain⟨m1,m4⟩:=xc ns s
 change WS _ _ [.im bp ns,ar s,.no,.no,.no,.no,.no,.no,.no,.no] _ _
 refine ak (cS 2 (r:=bG) (ys:=bt ns s 0) (aV (ax (EV.inl (aa 0 rfl)) (ax (EV.inr (aa 1 rfl)) (ax (EV.inr ev_int) aR))) (by show 3<=RE;decide)) ?_)
 refine WS.box 2 rfl λa0=>?_
 change WS _ _ [.im bp ns,ar s,.ob (a7 a0 bG (bt ns s 0)),.no,.no,.no,.no,.no,.no,.no] _ _
 refine ak (a9 3 (y:=Vz ns s) (cv ev_int (cI (eT 2 (st:=bt ns (s+1) 0) (z:=aJ ns (s+1)) CP hr aw rfl ⟨ns,s,0,rfl,rfl,hs,s0,by omega,rfl⟩) ev_int (by decide))) ?_)
 generalize hM:Vz ns s=m at m1 m4
 change WS _ _ [.im bp ns,ar s,.ob (a7 a0 bG (bt ns (s+1) 0)),ar m,.no,.no,.no,.no,.no,.no] _ _
 refine ak (cS 4 (r:=ag) (ys:=[]) (aV aR (QY _)) ?_)
 refine bM (N1:=λΓ=>∃e5 e6 e7,Γ=[.im bp ns,ar s,.ob (a7 a0 bG (bt ns (s+1+m) 0)),ar m,.mu ag (VG ns s),e5,e6,e7,.no,.no]) (cJ (λi Γ=>∃e5 e6 e7,Γ=[.im bp ns,ar s,.ob (a7 a0 bG (bt ns (s+1+(i:Int)) 0)),ar m,.mu ag (da ns s i),e5,e6,e7,.no,.no]) (dD M.range (aa 3 rfl) ⟨by omega,by omega⟩) (aX 5) ⟨_,_,_,by rw[show s+1+((0:Nat):Int)=s+1 from Int.add_zero _];rfl⟩ (λi j Γ hj hΓ=>?_) (λΓ hΓ=>?_)) ?_
 ·obtain⟨e5,e6,e7,rfl⟩:=hΓ
  obtain⟨jl,ej⟩:=fm hj
  obtain rfl:j=(i:Int):=by omega
  have b:=qI ns (s+1+(i:Int)+1)
  change WS _ _ [.im bp ns,ar s,.ob (a7 a0 bG (bt ns (s+1+(i:Int)) 0)),ar m,.mu ag (da ns s i),ar (i:Int),e6,e7,.no,.no] _ _
  refine ak (a9 6 (y:=U5 (aJ ns (s+1+(i:Int)+1))) (aE CN hr (aj (eT 2 (st:=bt ns (s+1+(i:Int)+1) 0) (z:=aJ ns (s+1+(i:Int)+1)) CP hr aw rfl ⟨ns,_,0,rfl,rfl,hs,by omega,by omega,rfl⟩) aw) ⟨_,rfl,b.1,b.2,rfl⟩) ?_)
  have hx:=iC (aJ ns (s+1+(i:Int)+1))
  have he:s+1+(i:Int)+1=s+2+(i:Int):=by omega
  have XS:da ns s (i+1)=da ns s i++[vk (da ns s i) (U5 (aJ ns (s+1+(i:Int)+1)))]:=by rw[da,he]
  generalize U5 (aJ ns (s+1+(i:Int)+1))=x at hx XS
  have hlen:=kM ns s i
  change WS _ _ [.im bp ns,ar s,.ob (a7 a0 bG (bt ns (s+1+(i:Int)+1) 0)),ar m,.mu ag (da ns s i),ar (i:Int),.im ag x,e7,.no,.no] _ _
  have Zr:∀n,cF (((gA kB).take n).foldl (jb (da ns s i)) x):=λn=>mQ hx λc hc=>qz (QO hc)
  refine bM (N1:=λΓ=>∃e7,Γ=[.im bp ns,ar s,.ob (a7 a0 bG (bt ns (s+1+(i:Int)+1) 0)),ar m,.mu ag (da ns s i),ar (i:Int),.im ag (vk (da ns s i) x),e7,.no,.no]) (cJ (λn Γ=>∃e7,Γ=[.im bp ns,ar s,.ob (a7 a0 bG (bt ns (s+1+(i:Int)+1) 0)),ar m,.mu ag (da ns s i),ar (i:Int),.im ag (((gA kB).take n).foldl (jb (da ns s i)) x),e7,.no,.no]) (A3 (x:=kB) aG (by decide +kernel) (by decide +kernel)) (aX 7) ⟨_,rfl⟩ (λn c Γ hc hΓ=>?_) (λΓ hΓ=>?_)) ?_
  ·obtain⟨e7,rfl⟩:=hΓ
   have hf:=Zr n
   have VF:((gA kB).take (n+1)).foldl (jb (da ns s i)) x=jb (da ns s i) (((gA kB).take n).foldl (jb (da ns s i)) x) c:=by
    rw[PJ,hc,Qh];rfl
   rw[VF]
   generalize ((gA kB).take n).foldl (jb (da ns s i)) x=z at hf
   have cl:=(qz (O6 hc)).2
   change WS _ _ [.im bp ns,ar s,.ob (a7 a0 bG (bt ns (s+1+(i:Int)+1) 0)),ar m,.mu ag (da ns s i),ar (i:Int),.im ag z,.im ag c,.no,.no] _ _
   refine ao (bE (TV.VP (IG (i:=4) rfl (aK (by rw[hlen];omega))) (aD vD (aa 6 rfl) (aa 4 rfl))) (λh=>?_) (λh=>aW ⟨.im ag c,?_⟩))
   ·have h:z∈da ns s i:=UM h
    refine ao (a9 6 (y:=jb (da ns s i) z c) (EV.cast (qK (JS (aa 6 rfl) hf.l8) (aa 7 rfl) (QX (show _<=8 by have:=uk z;omega) (by decide))) (by unfold jb;rw[UL h])) ⟨.im ag c,rfl⟩)
   ·have h:¬z∈da ns s i:=UN h
    unfold jb;rw[UK h]
  ·obtain⟨e7,rfl⟩:=hΓ
   refine⟨e7,?_⟩
   rw[PK];rfl
  rintro _ ⟨e7,rfl⟩
  refine ao (eY 4 (aa 6 rfl) rfl rfl (QZ (show _<=10 by rw[hlen];omega) (by decide)) ⟨ar (i:Int),.im ag (vk (da ns s i) x),e7,?_⟩)
  rw[XS,show s+1+((i+1:Nat):Int)=s+1+(i:Int)+1 by push_cast;omega]
  rfl
 ·obtain⟨e5,e6,e7,rfl⟩:=hΓ
  rw[ba]
  refine⟨e5,e6,e7,?_⟩
  unfold VG
  rw[hM,show((m.toNat:Nat):Int)=m by omega]
 rintro _ ⟨e5,e6,e7,rfl⟩
 have hdN:(VG ns s).length<=4:=by unfold VG;rw[kM,hM];omega
 generalize hdn:VG ns s=dn at hdN
 obtain⟨b6,b14⟩:=zP m1 m4
 refine ak (cS 8 (r:=aI) (ys:=[]) (aV aR (QY _)) ?_)
 refine WS.KJ 8 rfl λa=>?_
 change WS _ _ [.im bp ns,ar s,.ob (a7 a0 bG (bt ns (s+1+m) 0)),ar m,.mu ag dn,e5,e6,e7,.ob (cu a []),.no] _ _
 have kb:=DO ns m (s+1+m) (by omega)
 refine bM (N1:=λΓ=>∃e5 c ps,Γ=[.im bp ns,ar s,.ob (a7 a0 bG (bt ns (U7 ns m (s+1+m) m.toNat).2 c)),ar m,.mu ag dn,e5,e6,e7,.ob (cu a ps),.no]/\ps.map (·.1)=(U7 ns m (s+1+m) m.toNat).1.map bD) (cJ (λi Γ=>∃e5 c ps,Γ=[.im bp ns,ar s,.ob (a7 a0 bG (bt ns (U7 ns m (s+1+m) i).2 c)),ar m,.mu ag dn,e5,e6,e7,.ob (cu a ps),.no]/\ps.map (·.1)=(U7 ns m (s+1+m) i).1.map bD) (dD M.range (aa 3 rfl) ⟨by omega,by omega⟩) (aX 5) ⟨_,_,[],rfl,rfl⟩ (λi j Γ hj hΓ=>?_) (λΓ hΓ=>?_)) ?_
 ·obtain⟨e5,c,ps,rfl,VX⟩:=hΓ
  obtain⟨jl,ej⟩:=fm hj
  obtain rfl:j=(i:Int):=by omega
  obtain⟨k0,k1⟩:=kb i
  have hl:=kN ns m (s+1+m) i
  have V5:U7 ns m (s+1+m) (i+1)=((U7 ns m (s+1+m) i).1++[(Vb ns (eM i m) 4 true 0 ((U7 ns m (s+1+m) i).2,cY m)).1],(Vb ns (eM i m) 4 true 0 ((U7 ns m (s+1+m) i).2,cY m)).2.1):=rfl
  generalize U7 ns m (s+1+m) i=x at k0 k1 hl V5 VX
  rw[V5]
  obtain⟨Ls,k⟩:=x
  dsimp only at k0 k1 hl ⊢
  change WS _ _ [.im bp ns,ar s,.ob (a7 a0 bG (bt ns k c)),ar m,.mu ag dn,ar (i:Int),e6,e7,.ob (cu a ps),.no] _ _
  have hbud:cy ([14,12,8,6]:OB) (m-1)=some (cY m):=aY 0 (by omega) (by show m-1<((4:Nat):Int);omega)
  refine ak (fK 2 (j:=2) (EV.inr (bo (aZ.im (aV (r:=ah) (ax ev_int (ax ev_int (ax ev_int (ax ev_int aR)))) (by show 4<=RE;decide))) (gm (aa 3 rfl) ev_int) hbud)) ev_int rfl rfl rfl ?_)
  change WS _ _ [.im bp ns,ar s,.ob (a7 a0 bG (bt ns k (cY m))),ar m,.mu ag dn,ar (i:Int),e6,e7,.ob (cu a ps),.no] _ _
  have XA:(eM i m).length<=100:=by unfold eM;rw[ba];omega
  have Ve:ps.length=i:=by
   have:=congrArg List.length VX
   rw[OZ,OZ,hl] at this
   exact this
  refine ao (FD 8 (ys:=bD (Vb ns (eM i m) 4 true 0 (k,cY m)).1) (g6 2 (st:=bt ns (Vb ns (eM i m) 4 true 0 (k,cY m)).2.1 (Vb ns (eM i m) 4 true 0 (k,cY m)).2.2) CL hr (aj ev_int (aj ev_int (aj (aZ.im (qV M.list M.range (aj (cv (aa 5 rfl) ev_int) (aj (aa 3 rfl) aw)) ⟨by omega,by omega⟩ ⟨by omega,by omega⟩)) aw))) rfl ⟨ns,eM i m,k,cY m,0,rfl,rfl,⟨hs,by omega,show k+((177776:Nat):Int)<=900000 by omega,by omega,by omega,XA,by decide⟩,rfl⟩ mI (sD _)) rfl rfl (QZ (show _<=10 by omega) (by decide)) λb g=>⟨ar (i:Int),(Vb ns (eM i m) 4 true 0 (k,cY m)).2.2,ps++[(bD (Vb ns (eM i m) 4 true 0 (k,cY m)).1,b,g)],rfl,?_⟩)
  rw[Ph,Ph,VX]
  rfl
 ·obtain⟨e5,c,ps,rfl,VX⟩:=hΓ
  rw[ba] at VX ⊢
  exact⟨e5,c,ps,rfl,VX⟩
 rintro _ ⟨e5,c,ps,rfl,VX⟩
 have U9:=yZ ns m (s+1+m) (by omega) m.toNat
 have hxl:=kN ns m (s+1+m) m.toNat
 obtain⟨k0,k1⟩:=kb m.toNat
 have Yp:VU ns s=(Vm ns (U7 ns m (s+1+m) m.toNat) (m-1).toNat).1:=by unfold VU;rw[hM]
 generalize U7 ns m (s+1+m) m.toNat=x at U9 hxl k0 k1 Yp VX
 have hinv:=wZ ns x U9
 refine bM (N1:=λΓ=>∃e5 e9 k ps,Γ=[.im bp ns,ar s,.ob (a7 a0 bG (bt ns k c)),ar m,.mu ag dn,e5,e6,e7,.ob (cu a ps),e9]/\ps.map (·.1)=(VU ns s).map bD) (cJ (λi Γ=>∃e5 e9 ps,Γ=[.im bp ns,ar s,.ob (a7 a0 bG (bt ns (Vm ns x i).2 c)),ar m,.mu ag dn,e5,e6,e7,.ob (cu a ps),e9]/\ps.map (·.1)=(Vm ns x i).1.map bD) (AQ M.range ev_int (aa 3 rfl) ⟨by omega,by omega,by omega,by omega⟩) (aX 5) ⟨_,_,ps,rfl,VX⟩ (λi j Γ hj hΓ=>?_) (λΓ hΓ=>?_)) ?_
 ·obtain⟨e5,e9,ps,rfl,VX⟩:=hΓ
  obtain⟨jl,ej⟩:=fm hj
  obtain rfl:j=((i+1:Nat):Int):=by push_cast;omega
  obtain⟨i1,i2,i3⟩:=hinv i
  have V5:Vm ns x (i+1)=nU ns (Vm ns x i) (i+1):=rfl
  rw[V5]
  generalize Vm ns x i=y at i1 i2 i3 VX
  obtain⟨Ls,k⟩:=y
  dsimp only at i1 i2 i3 VX
  have Ve:ps.length=Ls.length:=by
   have:=congrArg List.length VX
   rwa [OZ,OZ] at this
  unfold nU
  dsimp only
  change WS _ _ [.im bp ns,ar s,.ob (a7 a0 bG (bt ns k c)),ar m,.mu ag dn,ar ((i+1:Nat):Int),e6,e7,.ob (cu a ps),e9] _ _
  have q0:=OR (aJ ns (k+1)) (show((i+1:Nat):Int)≠0 by omega)
  have q1:=OQ (aJ ns (k+1)) (show(0:Int)<((i+1:Nat):Int) by omega)
  have VM:Xg ns k (i+1)<Ls.length:=by unfold Xg;omega
  have hix:fg ps.length (aJ ns (k+1)%((i+1:Nat):Int))=some (Xg ns k (i+1)):=vB q0 (by omega)
  generalize hatn:Xg ns k (i+1)=n at VM hix
  have hL:Ls[n]?=some (Ls.getD n []):=by rw[OY,OX VM];rfl
  have hq:ps[n]?=some (ps[n]'(by omega)):=OX (by omega)
  generalize (ps[n]'(by omega))=q at hq
  have hq1:q.1=bD (Ls.getD n []):=by
   have:=congrArg (λl=>l[n]?) VX
   simp only[O5,hq,hL] at this
   exact Option.some.inj this
  refine ak (zh 8 9 (cI (eT 2 (st:=bt ns (k+1) c) (z:=aJ ns (k+1)) CP hr aw rfl ⟨ns,k,c,rfl,rfl,hs,by omega,by omega,rfl⟩) (aa 5 rfl) (by omega)) rfl rfl hix hq ?_)
  change WS _ _ [.im bp ns,ar s,.ob (a7 a0 bG (bt ns (k+1) c)),ar m,.mu ag dn,ar ((i+1:Nat):Int),e6,e7,.ob (cu a ps),.im jQ q.2.1] _ _
  obtain⟨l0,l5⟩:=i3 _ (O6 hL)
  generalize Ls.getD n []=L at hL l0 l5 hq1
  have Xl:(q.1.length:Int)=(L.length:Int):=by rw[hq1,jo]
  have r0:=OR (aJ ns (k+2)) (show(L.length:Int)≠0 by omega)
  have r1:=OQ (aJ ns (k+2)) (show(0:Int)<(L.length:Int) by omega)
  have e3:k+1+1=k+2:=by omega
  refine ao (FF 8 9 (k:=aJ ns (k+2)%(L.length:Int)) (y:=ft (.call ((i+1:Nat):Int))) (cI (eT 2 (st:=bt ns (k+2) c) (z:=aJ ns (k+2)) CP hr aw rfl ⟨ns,k+1,c,rfl,rfl,hs,by omega,by omega,by rw[e3]⟩) (EV.cast (BB 8 9 M.len rfl rfl hq) Xl) (by omega)) (ib.cast (x:=.lst (gj (.call ((i+1:Nat):Int)))) (aZ.rZ (aV (r:=aI) (ax (EV.pS aG) (ax (EV.pI (aa 5 rfl)) aR)) (by show 2<=RE;decide)) rfl) (dN _).symm) rfl rfl hq rfl r0 (by omega) (QZ (show _<=20 by rw[hq1,jo];omega) (by decide)) λg=>⟨ar ((i+1:Nat):Int),.im jQ q.2.1,_,rfl,?_⟩)
  rw[QS,VX]
  show(Ls.map bD).set n (bQ _ _ q.1)=_
  rw[hq1]
  rw[QS,dR (bQ _ _ _),zD,← dR]
 ·obtain⟨e5,e9,ps,rfl,VX⟩:=hΓ
  rw[ba] at VX ⊢
  exact⟨e5,e9,_,ps,rfl,by rw[Yp];exact VX⟩
 rintro _ ⟨e5,e9,k,ps,rfl,VX⟩
 obtain⟨i1,i2,i3⟩:=hinv (m-1).toNat
 rw[← Yp] at i1 i3
 refine WS.freeze 4 rfl (aK (by omega)) ?_
 exact ao (Gb 8 (aa 4 rfl) rfl ⟨rfl,VX⟩)
end
mutual
def cq (lo m:Int):Bool->Th->Prop
 | _,.Vl x=>cF x
 | _,.call j=>lo<j/\j<m
 | lp,.ifs x a b=>cF x/\bL lo m lp a/\bL lo m lp b
 | _,.U6 x a=>cF x/\bL lo m true a
 | lp,.leave=>lp=true
 | _,.back=>True
def bL (lo m:Int):Bool->List Th->Prop
 | _,[]=>True
 | lp,t::ts=>cq lo m lp t/\(dX t=true∨ts=[])/\bL lo m lp ts
end
section
variable {lo m:Int}{lp:Bool}
theorem ij {t:Th}:∀{a:List Th},bL lo m lp a->c8 a=true->cq lo m lp t->bL lo m lp (a++[t])
 | [],_,_,ht=>by rw[Qd,bL];exact⟨ht,.inr rfl,by rw[bL];trivial⟩
 | x::a,h,hp,ht=>by
   rw[bL] at h
   rw[c8,OK] at hp
   rw[Qe,bL]
   exact⟨h.1,.inl hp.1,ij h.2.2 hp.2 ht⟩
theorem xm {t:Th}(ht:cq lo m lp t)(hp:dX t=true):∀{k:Nat} {L:List Th},bL lo m lp L->k<L.length->bL lo m lp (bQ k t L)
 | 0,L,h,_=>by show bL lo m lp (t::L);rw[bL];exact⟨ht,.inl hp,h⟩
 | k+1,[],_,hk=>by cases hk
 | k+1,x::L,h,hk=>by
   rw[bL] at h
   have hk:k<L.length:=by simpa using hk
   have hx:dX x=true:=h.2.1.resolve_right λe=>by rw[e] at hk;cases hk
   show bL lo m lp (x::bQ k t L)
   rw[bL]
   exact⟨h.1,.inl hx,xm ht hp h.2.2 hk⟩
theorem wK {ns UR:OB}{sub:Option (Int->Pn->List Th×Pn)}(hc:∀j∈UR,lo<j/\j<m)(Vr:∀L,sub=some L->∀lp s,0<=lp->bL lo m (decide (0<lp)) (L lp s).1)(US:Int)(s:Pn)(hl:0<=US):cq lo m (decide (0<US)) (Vj ns UR sub US s).1:=by
 unfold Vj
 split
 ·rename_i h
  simp only[cq]
  exact UO h.2
 split
 ·simp only[cq]
 split
 ·rename_i h
  simp only[cq]
  have hl:(0:Int)<(UR.length:Int):=by have:=h.2;omega
  have q0:=OR (aJ ns (s.1+3)) (show(UR.length:Int)≠0 by omega)
  have q1:=OQ (aJ ns (s.1+3)) hl
  have hi:(aJ ns (s.1+3)%(UR.length:Int)).toNat<UR.length:=by omega
  rw[OY,OX hi]
  exact hc _ (PD hi)
 cases sub with
 | none=>simp only[cq];exact iC _
 | some L=>
   dsimp only
   split
   ·simp only[cq]
    exact⟨iC _,Vr L rfl _ _ hl,Vr L rfl _ _ hl⟩
   split
   ·simp only[cq]
    have:=Vr L rfl (US+1) (s.1+2,s.2-2) (by omega)
    rw[UO (show 0<US+1 by omega)] at this
    exact⟨iC _,this⟩
   ·simp only[cq];exact iC _
theorem xl:cF "back":=⟨by decide +kernel,by decide +kernel,by decide +kernel⟩
theorem qX {α:Type}{f:α->α}{P:α->Prop}(h:∀x,P x->P (f x)):∀n x,P x->P (Vi f n x)
 | 0,_,hx=>hx
 | n+1,x,hx=>h _ (qX h n x hx)
theorem FE {ns UR:OB}(hc:∀j∈UR,lo<j/\j<m):∀(n:Nat) (tp:Bool) (lp:Int) (s:Pn),0<=lp->bL lo m (decide (0<lp)) (Vb ns UR n tp lp s).1:=by
 intro n
 induction n with
 | zero=>
   intro tp lp s hl
   rw[lg]
   refine qX (P:=λ(x:List Th×Pn)=>bL lo m (decide (0<lp)) x.1) (λx hx=>?_) _ _ (by simp only[bL])
   unfold g7
   split
   ·rename_i h
    split
    ·exact ij hx h.2 (by simp only[cq];exact xl)
    ·exact ij hx h.2 (wK hc (λL e=>by cases e) lp x.2 hl)
   ·exact hx
 | succ n ih=>
   intro tp lp s hl
   rw[lg]
   refine qX (P:=λ(x:List Th×Pn)=>bL lo m (decide (0<lp)) x.1) (λx hx=>?_) _ _ (by simp only[bL])
   unfold g7
   split
   ·rename_i h
    split
    ·exact ij hx h.2 (by simp only[cq];exact xl)
    ·exact ij hx h.2 (wK hc (λL e lp' s' Wl=>by cases e;exact ih false lp' s' Wl) lp x.2 hl)
   ·exact hx
end
section
variable {L:List Th}
def hV (L:List Th):Prop:=∃t ts,L=t::ts/\oH t=false
theorem xk (h:hV L)(t:Th):hV (L++[t]):=by
 obtain⟨x,ts,rfl,h⟩:=h
 exact⟨x,ts++[t],rfl,h⟩
theorem Gn (ns UR:OB)(c k:Int)(hc:0<c):hV (Vb ns UR 4 true 0 (k,c)).1:=by
 rw[lg]
 have hm:2<=fb ns true k:=by
  unfold fb
  have:=OR (aJ ns (k+1)) (show(4:Int)≠0 by decide)
  simp;omega
 have key:∀(f:List Th×Pn->List Th×Pn) (x:List Th×Pn),(∀y,hV y.1->hV (f y).1)->hV (f x).1->∀m,1<=m->hV (Vi f m x).1:=by
  intro f x h1 h2 m
  induction m with
  | zero=>intro h;omega
  | succ m ih=>
    intro _
    rw[Vi]
    cases m with
    | zero=>exact h2
    | succ m=>exact h1 _ (ih (by omega))
 refine key _ _ (λy hy=>?_) ?_ _ (show 1<=fb ns true k by omega)
 ·unfold g7
  split
  ·split<;>exact xk hy _
  ·exact hy
 ·unfold g7
  rw[UL ⟨hc,by simp[c8]⟩]
  split
  ·exact⟨_,[],rfl,rfl⟩
  ·rename_i h
   refine⟨_,[],rfl,?_⟩
   cases e:oH (Vj ns UR (dC ns UR 4) 0 ([],k+1,c).2).1 with
   | false=>rfl
   | true=>exact UJ ⟨rfl,rfl,e⟩ h
def ki (x:Str):Option Nat:=x.cps.toList.getLast?
theorem l9 (x:Str)(c:Nat):ki (x++⟨#[c]⟩)=some c:=by
 unfold ki
 have e:(x++(⟨#[c]⟩:Str)).cps.toList=x.cps.toList++[c]:=by show(x.cps++ #[c]).toList=_;simp
 rw[e];simp
theorem Bj:gA kB=[⟨#[113]⟩,⟨#[119]⟩,⟨#[101]⟩,⟨#[114]⟩]:=by decide +kernel
theorem FX {UQ:OC}(hl:UQ.length<=3)(x:Str):vk UQ x∉UQ:=by
 unfold vk
 rw[Bj]
 simp only[List.foldl]
 have Vt:∀{y:Str},y∉UQ->∀c,jb UQ y c=y:=λh c=>UK h
 have go:∀{y:Str},y∈UQ->∀c,jb UQ y c=gC y++c:=λh c=>UL h
 by_cases h0:x∈UQ
 rotate_left
 ·rw[Vt h0,Vt h0,Vt h0,Vt h0];exact h0
 rw[go h0]
 generalize hx1:gC x++(⟨#[113]⟩:Str)=x1
 have l1:ki x1=some 113:=by rw[← hx1];exact l9 _ _
 by_cases h1:x1∈UQ
 rotate_left
 ·rw[Vt h1,Vt h1,Vt h1];exact h1
 rw[go h1]
 generalize Yb:gC x1++(⟨#[119]⟩:Str)=x2
 have l2:ki x2=some 119:=by rw[← Yb];exact l9 _ _
 by_cases h2:x2∈UQ
 rotate_left
 ·rw[Vt h2,Vt h2];exact h2
 rw[go h2]
 generalize hx3:gC x2++(⟨#[101]⟩:Str)=x3
 have l3:ki x3=some 101:=by rw[← hx3];exact l9 _ _
 by_cases h3:x3∈UQ
 rotate_left
 ·rw[Vt h3];exact h3
 rw[go h3]
 generalize hx4:gC x3++(⟨#[114]⟩:Str)=x4
 have l4:ki x4=some 114:=by rw[← hx4];exact l9 _ _
 intro h4
 obtain⟨n1,b1,e1⟩:=Qs h1
 obtain⟨n2,b2,e2⟩:=Qs h2
 obtain⟨n3,b3,e3⟩:=Qs h3
 obtain⟨n4,b4,e4⟩:=Qs h4
 have ne:∀{i j:Nat} {hi:i<UQ.length} {hj:j<UQ.length} {y z:Str} {c d:Nat},UQ[i]=y->UQ[j]=z->ki y=some c->ki z=some d->c≠d->i≠j:=by
  intro i j hi hj y z c d e e' l l' U0 z
  subst z
  rw[← e] at l
  rw[← e',l] at l'
  exact U0 (Option.some.inj l')
 have:=ne e1 e2 l1 l2 (by decide)
 have:=ne e1 e3 l1 l3 (by decide)
 have:=ne e1 e4 l1 l4 (by decide)
 have:=ne e2 e3 l2 l3 (by decide)
 have:=ne e2 e4 l2 l4 (by decide)
 have:=ne e3 e4 l3 l4 (by decide)
 omega
theorem zR (ns:OB)(s:Int):∀i,i<=4->(da ns s i).Nodup
 | 0,_=>Qw
 | i+1,h=>by
   rw[da]
   exact iy (zR ns s i (by omega)) (FX (by rw[kM];omega) _)
theorem GJ (i:Nat)(m:Int):∀j∈eM i m,(i:Int)<j/\j<m:=by
 intro j hj
 unfold eM at hj
 obtain⟨n,hn⟩:=Pf.mp hj
 obtain⟨a,b⟩:=fm hn
 omega
structure LsOk (m:Int) (b:Nat) (Ls:List (List Th)):Prop where
 ok:∀(p:Nat) (L:List Th),Ls[p]?=some L->bL (p:Int) m false L
 dp:∀L∈Ls,dZ L<=4
 hd:∀L∈Ls,hV L
 rw:∀L∈Ls,bS L<=b
theorem AK (ns:OB)(m k:Int)(hb:0<cY m):∀i,LsOk m (cY m).toNat (U7 ns m k i).1/\((U7 ns m k i).1.map bS).sum<=i*(cY m).toNat
 | 0=>⟨⟨(λp L h=>by simp[U7] at h),(λL h=>by simp[U7] at h),(λL h=>by simp[U7] at h),(λL h=>by simp[U7] at h)⟩,QY _⟩
 | i+1=>by
   obtain⟨h,hs⟩:=AK ns m k hb i
   have hl:=kN ns m k i
   have g:=kT ns (eM i m) 4 true 0 ((U7 ns m k i).2,cY m) (Int.le_of_lt hb)
   have go:=FE (lo:=(i:Int)) (m:=m) (ns:=ns) (GJ i m) 4 true 0 ((U7 ns m k i).2,cY m) (OS 0)
   have gh:=Gn ns (eM i m) (cY m) (U7 ns m k i).2 hb
   have gr:bS (Vb ns (eM i m) 4 true 0 ((U7 ns m k i).2,cY m)).1<=(cY m).toNat:=by
    have:=g.c
    dsimp only at this
    omega
   rw[U7]
   dsimp only
   generalize Vb ns (eM i m) 4 true 0 ((U7 ns m k i).2,cY m)=r at g go gh gr
   generalize U7 ns m k i=x at h hs hl
   have mem:∀{L},L∈x.1++[r.1]->L∈x.1∨L=r.1:=λh=>(Pa.mp h).imp id O0.mp
   refine⟨⟨λp L hp=>?_,λL hL=>?_,λL hL=>?_,λL hL=>?_⟩,?_⟩
   ·rcases Q2 p x.1.length with z | z
    ·rw[Pr z] at hp
     exact h.ok p L hp
    ·rw[Pp z] at hp
     have hz:p-x.1.length=0:=by
      have:=(OW.mp hp).1
      simp at this;omega
     rw[hz] at hp
     have e:r.1=L:=by simpa using hp
     have ep:p=i:=by omega
     rw[← e,ep]
     exact go
   ·rcases mem hL with z | rfl
    ·exact h.dp L z
    ·exact g.dp
   ·rcases mem hL with z | rfl
    ·exact h.hd L z
    ·exact gh
   ·rcases mem hL with z | rfl
    ·exact h.rw L z
    ·exact gr
   ·rw[Ph,sum_append,Nat.add_mul]
    simp
    omega
theorem j7 {α:Type}(k:Nat)(y:α)(xs:List α):bQ k y xs=xs.take k++y::xs.drop k:=rfl
theorem yP (k:Nat)(j:Int)(L:List Th):bS (bQ k (.call j) L)=bS L+1:=by
 rw[j7,iD,bS,de]
 have:=iD (L.take k) (L.drop k)
 rw[Qi] at this
 omega
theorem Kj (k:Nat)(j:Int)(L:List Th):dZ (bQ k (.call j) L)=dZ L:=by
 rw[j7,jr,dZ,show gF (.call j)=0 by simp[gF]]
 have:=jr (L.take k) (L.drop k)
 rw[Qi] at this
 omega
theorem ET {k:Nat}{y x:Th}(h:x∈L):x∈bQ k y L:=by
 rw[j7]
 rw[← Qi k L] at h
 rcases Pa.mp h with z | z
 ·exact Pj _ z
 ·exact Pb _ (O2 _ z)
theorem BM {k:Nat}{y:Th}:y∈bQ k y L:=by
 rw[j7];exact Pb _ O3
theorem Hv {k:Nat}{j:Int}(h:hV L):hV (bQ k (.call j) L):=by
 obtain⟨t,ts,rfl,h⟩:=h
 cases k with
 | zero=>exact⟨_,_,rfl,rfl⟩
 | succ k=>exact⟨t,bQ k (.call j) ts,rfl,h⟩
theorem sum_set:∀{l:List Nat} {n a b:Nat},l[n]?=some a->(l.set n b).sum+a=l.sum+b
 | x::l,0,a,b,h=>by
   have e:x=a:=by simpa using h
   rw[List.set_cons_zero,QC,QC,e];omega
 | x::l,n+1,a,b,h=>by
   have:=sum_set (l:=l) (n:=n) (a:=a) (b:=b) (by simpa using h)
   rw[List.set_cons_succ,QC,QC];omega
theorem zL (ns:OB)(x:List (List Th)×Int)(m:Int)(b:Nat)(hx:LsOk m b x.1)(hl:(x.1.length:Int)=m):∀i:Nat,(i:Int)<m->LsOk m (b+i) (Vm ns x i).1/\(Vm ns x i).1.length=x.1.length/\((Vm ns x i).1.map bS).sum=(x.1.map bS).sum+i/\∀j:Nat,1<=j->j<=i->∃L∈(Vm ns x i).1,Th.call (j:Int)∈L
 | 0,_=>⟨hx,rfl,rfl,λj h1 h2=>by omega⟩
 | i+1,hi=>by
   obtain⟨h,Xl,hs,hc⟩:=zL ns x m b hx hl i (by omega)
   rw[Vm]
   generalize Vm ns x i=y at h Xl hs hc
   unfold nU
   have q0:=OR (aJ ns (y.2+1)) (show((i+1:Nat):Int)≠0 by omega)
   have q1:=OQ (aJ ns (y.2+1)) (show(0:Int)<((i+1:Nat):Int) by omega)
   have VM:Xg ns y.2 (i+1)<=i:=by unfold Xg;omega
   generalize Xg ns y.2 (i+1)=n at VM
   have hn:n<y.1.length:=by omega
   have hL:y.1[n]?=some (y.1.getD n []):=by rw[OY,OX hn];rfl
   generalize y.1.getD n []=L at hL
   have mL:=O6 hL
   have l0:0<L.length:=by obtain⟨t,ts,rfl,_⟩:=h.hd L mL;simp
   have r0:=OR (aJ ns (y.2+2)) (show(L.length:Int)≠0 by omega)
   have r1:=OQ (aJ ns (y.2+2)) (show(0:Int)<(L.length:Int) by omega)
   have hk:(aJ ns (y.2+2)%(L.length:Int)).toNat<L.length:=by omega
   dsimp only
   generalize (aJ ns (y.2+2)%(L.length:Int)).toNat=k at hk
   refine⟨⟨λp L' hp=>?_,λL' XC=>?_,λL' XC=>?_,λL' XC=>?_⟩,by rw[PN];exact Xl,?_,λj h1 h2=>?_⟩
   ·by_cases e:p=n
    ·subst e
     rw[Pc hn] at hp
     cases hp
     exact xm (by simp only[cq];omega) (by simp only[dX]) (h.ok p L hL) hk
    ·rw[Pq (Rk e)] at hp
     exact h.ok p L' hp
   ·rcases mem_set XC with z | rfl
    ·exact h.dp L' z
    ·rw[Kj];exact h.dp L mL
   ·rcases mem_set XC with z | rfl
    ·exact h.hd L' z
    ·exact Hv (h.hd L mL)
   ·rcases mem_set XC with z | rfl
    ·have:=h.rw L' z;omega
    ·rw[yP];have:=h.rw L mL;omega
   ·rw[QS]
    have:=sum_set (l:=y.1.map bS) (n:=n) (a:=bS L) (b:=bS (bQ k (.call ((i+1:Nat):Int)) L)) (by rw[O5,hL];rfl)
    rw[yP] at this ⊢
    omega
   ·have sets:∀{L':List Th},L'∈y.1->∃L2∈y.1.set n (bQ k (.call ((i+1:Nat):Int)) L),∀t∈L',t∈L2:=λ{L'} XC=>by
     obtain⟨q,hq⟩:=Pf.mp XC
     by_cases e:q=n
     ·subst e
      rw[hL] at hq;cases hq
      exact⟨_,O6 (Pc hn),λt ht=>ET ht⟩
     ·exact⟨L',O6 ((Pq (Rk e)).trans hq),λt ht=>ht⟩
    by_cases e:j=i+1
    ·subst e
     exact⟨_,O6 (Pc hn),BM⟩
    ·obtain⟨L',XC,hj⟩:=hc j h1 (by omega)
     obtain⟨L2,m2,s2⟩:=sets XC
     exact⟨L2,m2,s2 _ hj⟩
structure cf (xs:OC) (Ls:List (List Th)):Prop where
 l:xs.length=Ls.length
 l1:1<=Ls.length
 l4:Ls.length<=4
 nm:∀x∈xs,cF x
 nd:xs.Nodup
 ok:∀(p:Nat) (L:List Th),Ls[p]?=some L->bL (p:Int) (Ls.length:Int) false L
 dp:∀L∈Ls,dZ L<=4
 hd:∀L∈Ls,hV L
 rw:∀L∈Ls,bS L<=14
 tot:(Ls.map bS).sum<=30
 cl:∀j:Nat,1<=j->j<Ls.length->∃L∈Ls,Th.call (j:Int)∈L
theorem F6 (ns:OB)(s:Int):cf (VG ns s) (VU ns s):=by
 obtain⟨m1,m4⟩:=xc ns s
 unfold VG VU
 generalize Vz ns s=m at m1 m4
 obtain⟨b6,b14⟩:=zP m1 m4
 obtain⟨h,hs⟩:=AK ns m (s+1+m) (by omega) m.toNat
 have hl:=kN ns m (s+1+m) m.toNat
 generalize U7 ns m (s+1+m) m.toNat=x at h hs hl
 obtain⟨o,oll,os,oc⟩:=zL ns x m _ h (by omega) (m-1).toNat (by omega)
 have bm:(cY m).toNat+(m-1).toNat<=14/\m.toNat*(cY m).toNat+(m-1).toNat<=30:=by
  have:∀j:Fin 4,(cY ((j.val:Int)+1)).toNat+j.val<=14/\(j.val+1)*(cY ((j.val:Int)+1)).toNat+j.val<=30:=by decide +kernel
  have:=this ⟨(m-1).toNat,by omega⟩
  dsimp only at this
  rw[show(((m-1).toNat:Nat):Int)+1=m by omega,show(m-1).toNat+1=m.toNat by omega] at this
  exact this
 generalize Vm ns x (m-1).toNat=y at o oll os oc
 have em:((y.1.length:Nat):Int)=m:=by omega
 exact⟨by rw[kM];omega,by omega,by omega,AV ns s _,zR ns s _ (by omega),by rw[em];exact o.ok,o.dp,o.hd,λL hL=>QX (o.rw L hL) bm.1,by omega,λj h1 h2=>oc j h1 (by omega)⟩
end
end K1
namespace K1
open PySem L2 Fc
open PySem.Spec hiding Row
open PyProof.Rows hiding St
open PySem.Builtin.Int (intBits)
variable {P:RJ}{w:World}{K:Uk}{mg:Oz}{base:Heap}{f:Addr}{fd:RO}
abbrev S1 (x:Str):OC:=[x]
abbrev S2 (x y:Str):OC:=[x,y]
mutual
def cL (UQ:OC):Th->OC
 | .Vl x=>S2 "do" x
 | .call j=>S2 "call" (UQ.getD j.toNat "")
 | .ifs x a b=>S2 "if" x++U3 UQ a++S1 "else"++(U3 UQ b++S1 "end")
 | .U6 x a=>S2 "while" x++U3 UQ a++S1 "end"
 | .leave=>S1 "leave"
 | .back=>S1 "back"
def U3 (UQ:OC):List Th->OC
 | []=>[]
 | t::ts=>cL UQ t++U3 UQ ts
end
theorem xh (UQ:OC):∀a b:List Th,U3 UQ (a++b)=U3 UQ a++U3 UQ b
 | [],b=>by rw[U3];rfl
 | t::a,b=>by rw[Qe,U3,U3,xh UQ a b,Pg]
theorem FU (UQ:OC)(t:Th):U3 UQ [t]=cL UQ t:=by rw[U3,U3,Px]
mutual
theorem En {UQ:OC}{lo m:Int}:∀(t:Th) (lp:Bool),cq lo m lp t->(cL UQ t).length<=4*de t+(if de t=0 then 1 else 0)
 | .Vl x,_,_=>by simp[cL,de]
 | .call j,_,_=>by simp[cL,de]
 | .ifs x a b,lp,h=>by
   simp only[cq] at h
   have h1:=eP (UQ:=UQ) a lp h.2.1
   have h2:=eP (UQ:=UQ) b lp h.2.2
   simp[cL,de]
   omega
 | .U6 x a,lp,h=>by
   simp only[cq] at h
   have h1:=eP (UQ:=UQ) a true h.2
   simp[cL,de]
   omega
 | .leave,_,_=>by simp[cL,de]
 | .back,_,_=>by simp[cL,de]
theorem eP {UQ:OC}{lo m:Int}:∀(ts:List Th) (lp:Bool),bL lo m lp ts->(U3 UQ ts).length<=4*bS ts+1
 | [],_,_=>by simp[U3]
 | t::ts,lp,h=>by
   simp only[bL] at h
   have h1:=En (UQ:=UQ) t lp h.1
   have h2:=eP (UQ:=UQ) ts lp h.2.2
   rw[U3,bS,O4]
   by_cases e:de t=0
   ·rw[e,UL rfl] at h1
    have hp:dX t=false:=by cases t<;>simp[de] at e<;>simp[dX]
    have:ts=[]:=h.2.1.resolve_left (by rw[hp];decide)
    subst this
    simp[U3,bS]
    omega
   ·rw[UK e] at h1
    omega
end
theorem wH {lo m:Int}{lp:Bool}{t:Th}:∀{ts:List Th},bL lo m lp ts->t∈ts->cq lo m lp t
 | s::ts,h,hm=>by
   simp only[bL] at h
   rcases O7.mp hm with rfl | hm
   ·exact h.1
   ·exact wH h.2.2 hm
theorem zI {t:Th}:∀{ts:List Th},t∈ts->de t<=bS ts
 | s::ts,h=>by
   rw[bS]
   rcases O7.mp h with rfl | h
   ·omega
   ·have:=zI h;omega
theorem uf {lo m:Int}{lp:Bool}:∀{ts:List Th} (i:Nat),bL lo m lp ts->bL lo m lp (ts.take i)
 | [],i,h=>by rw[take_nil];exact h
 | t::ts,0,h=>by simp only[QP,bL]
 | t::ts,i+1,h=>by
   simp only[bL] at h
   rw[PR,bL]
   exact⟨h.1,h.2.1.imp id λe=>by rw[e,take_nil],uf i h.2.2⟩
theorem Ge (ts:List Th)(i:Nat):bS (ts.take i)<=bS ts:=by
 have:=iD (ts.take i) (ts.drop i)
 rw[Qi] at this
 omega
section
variable {X:Cx}{Γ Γ1:Ga}
theorem tU {a:Expr}{j:Nat}{p1 pos:Pos}{t:Th}{i:Int}{x:Str}(h:EV X a Γ aI (ft t) Γ1)(hx:cy (gj t) i=some (.str x)):EV X (.Subscript a (.Constant (.int i) j p1) pos) Γ ag x Γ1:=EV.sP (bo (EV.lP (by rw[dN] at h;exact h)) ev_int hx)
theorem Jh {a:Expr}{j:Nat}{p1 pos:Pos}{t:Th}{i:Int}{x:Int}(h:EV X a Γ aI (ft t) Γ1)(hx:cy (gj t) i=some (.int x)):EV X (.Subscript a (.Constant (.int i) j p1) pos) Γ ah x Γ1:=EV.iP (bo (EV.lP (by rw[dN] at h;exact h)) ev_int hx)
end
section
variable {x:Str}
abbrev Jz:Stmt:=top r9
abbrev nWD:OC:=["_law_items","_law_names","_law_words_here","_law_one"]
theorem BF:aF nWD ["_law_items","_law_names"] (ai Jz):=Vk
def MV (n:Nat):cP:=λK ps T=>∃(ts:List Th) (UQ:OC) (lo m:Int) (lp:Bool),ps=[⟨ae aI,bD ts⟩,⟨ae ag,UQ⟩]/\dZ ts<n/\bL lo m lp ts/\0<=lo/\m<=(UQ.length:Int)/\bS ts<=100/\T=bU K (ae ag) (· =U3 UQ ts)
theorem l1 (x:Str):([x]:OC).length<=RE:=by show 1<=RE;decide
theorem l2 (x y:Str):([x,y]:OC).length<=RE:=by show 2<=RE;decide
theorem Ly (F:dU K "_law_words" "_law_words" Jz f fd)(hm:mg "_law_words"=some (.ref f))(hb:Binds K fd ["_law_items","_law_names"] []):∀n:Nat,aH P w K mg base "_law_words" (n+1) (aN (MV n) K):=by
 intro n
 have nd:=BF.nd
 induction n with
 | zero=>
   refine gP F BF hm hb (λqs T ⟨_,_,_,_,_,e,_⟩=>by rw[e];rfl) (λUX A outer s H E qs T hr hS=>?_)
   obtain⟨ts,_,_,_,_,_,h,_⟩:=hS
   exact UJ h (Nat.not_lt_zero _)
 | succ n ih=>
   refine gP F BF hm hb (λqs T ⟨_,_,_,_,_,e,_⟩=>by rw[e];rfl) (λUX A outer s H E qs T hr hS=>?_)
   obtain⟨ts,UQ,lo,m,lp,rfl,hd,UZ,lo0,Yn,hrw,rfl⟩:=hS
   change WS _ _ [.im (ae aI) (bD ts),.im (ae ag) UQ,.no,.no] _ _
   refine ak (cS 2 (r:=ag) (ys:=[]) (aV aR (QY _)) ?_)
   refine bM (N1:=λΓ=>∃e3,Γ=[.im (ae aI) (bD ts),.im (ae ag) UQ,.mu ag (U3 UQ ts),e3]) (cJ (r:=aI) (λi Γ=>∃e3,Γ=[.im (ae aI) (bD ts),.im (ae ag) UQ,.mu ag (U3 UQ (ts.take i)),e3]) (bX (aa 0 rfl)) (aX 3) ⟨_,rfl⟩ (λi x Γ hx hΓ=>?_) (λΓ hΓ=>?_)) ?_
   ·obtain⟨e3,rfl⟩:=hΓ
    rw[dR,O5] at hx
    obtain⟨t,ht,rfl⟩:=Rl.mp hx
    have tm:=O6 ht
    have tok:=wH UZ tm
    have tdp:=vH tm
    have trw:=zI tm
    have wl:=eP (UQ:=UQ) (ts.take i) lp (uf i UZ)
    have wr:=Ge ts i
    have V5:U3 UQ (ts.take (i+1))=U3 UQ (ts.take i)++cL UQ t:=by rw[PJ,ht,xh];rw[show(some t).toList=[t] from rfl,FU]
    rw[V5]
    generalize U3 UQ (ts.take i)=ws at wl
    have wz:ws.length<=401:=by omega
    change WS _ _ [.im (ae aI) (bD ts),.im (ae ag) UQ,.mu ag ws,.im aI (ft t)] _ _
    refine ao (bE (aD cM (iR (aa 3 rfl)) aG) (λh=>?_) (λh1=>?_))
    ·have h:cV t="do":=UM h
     cases t with
     | Vl x=>
       refine WS.freeze 2 rfl (aK (by omega)) ?_
       refine ao (cS 2 (ys:=ws++S2 "do" x) (cD (aa 2 rfl) (aZ.im (aV (r:=ag) (ax aG (ax (tU (aa 3 rfl) rfl) aR)) (l2 _ _))) (aK (by simp;omega))) ⟨.im aI (ft (.Vl x)),?_⟩)
       rw[cL];rfl
     | call j=>exact UJ h (by simp only[cV];decide)
     | ifs x a b=>exact UJ h (by simp only[cV];decide)
     | U6 x a=>exact UJ h (by simp only[cV];decide)
     | leave=>exact UJ h (by simp only[cV];decide)
     | back=>exact UJ h (by simp only[cV];decide)
    have h1:¬cV t="do":=UN h1
    refine ao (bE (aD cM (iR (aa 3 rfl)) aG) (λh=>?_) (λh2=>?_))
    ·have h:cV t="call":=UM h
     cases t with
     | call j=>
       simp only[cq] at tok
       refine WS.freeze 2 rfl (aK (by omega)) ?_
       refine ao (cS 2 (ys:=ws++S2 "call" (UQ.getD j.toNat "")) (cD (aa 2 rfl) (aZ.im (aV (r:=ag) (ax aG (ax (bo (aa 1 rfl) (Jh (aa 3 rfl) rfl) (aY (xs:=UQ) (i:=j) "" (by omega) (by omega))) aR)) (l2 _ _))) (aK (by simp;omega))) ⟨.im aI (ft (.call j)),?_⟩)
       rw[cL];rfl
     | Vl j=>exact UJ h (by simp only[cV];decide)
     | ifs x a b=>exact UJ h (by simp only[cV];decide)
     | U6 x a=>exact UJ h (by simp only[cV];decide)
     | leave=>exact UJ h (by simp only[cV];decide)
     | back=>exact UJ h (by simp only[cV];decide)
    have h2:¬cV t="call":=UN h2
    refine ao (bE (aD cM (iR (aa 3 rfl)) aG) (λh=>?_) (λh3=>?_))
    ·have h:cV t="if":=UM h
     cases t with
     | ifs x a b=>
       simp only[cq] at tok
       rw[gF] at tdp
       rw[de] at trw
       have la:=eP (UQ:=UQ) a lp tok.2.1
       have lb:=eP (UQ:=UQ) b lp tok.2.2
       refine WS.freeze 2 rfl (aK (by omega)) ?_
       refine ak (cS 2 (ys:=ws++S2 "if" x++U3 UQ a++S1 "else") (cD (aZ.im (cD (aZ.im (cD (aa 2 rfl) (aZ.im (aV (r:=ag) (ax aG (ax (tU (aa 3 rfl) rfl) aR)) (l2 _ _))) (aK (by simp;omega)))) (aE ih hr (aj (mJ (aa 3 rfl) rfl) (aj (aa 1 rfl) aw)) ⟨a,UQ,lo,m,lp,rfl,by omega,tok.2.1,lo0,Yn,by omega,rfl⟩) (aK (by simp;omega)))) (aZ.im (aV (r:=ag) (ax aG aR) (l1 _))) (aK (by simp;omega))) ?_)
       refine WS.freeze 2 rfl (aK (by simp;omega)) ?_
       refine ao (cS 2 (ys:=ws++S2 "if" x++U3 UQ a++S1 "else"++U3 UQ b++S1 "end") (cD (aZ.im (cD (aa 2 rfl) (aE ih hr (aj (mJ (aa 3 rfl) rfl) (aj (aa 1 rfl) aw)) ⟨b,UQ,lo,m,lp,rfl,by omega,tok.2.2,lo0,Yn,by omega,rfl⟩) (aK (by simp;omega)))) (aZ.im (aV (r:=ag) (ax aG aR) (l1 _))) (aK (by simp;omega))) ⟨.im aI (ft (.ifs x a b)),?_⟩)
       rw[cL]
       simp only[Pg]
       rfl
     | Vl j=>exact UJ h (by simp only[cV];decide)
     | call x=>exact UJ h (by simp only[cV];decide)
     | U6 x a=>exact UJ h (by simp only[cV];decide)
     | leave=>exact UJ h (by simp only[cV];decide)
     | back=>exact UJ h (by simp only[cV];decide)
    have h3:¬cV t="if":=UN h3
    refine ao (bE (aD cM (iR (aa 3 rfl)) aG) (λh=>?_) (λh4=>?_))
    ·have h:cV t="while":=UM h
     cases t with
     | U6 x a=>
       simp only[cq] at tok
       rw[gF] at tdp
       rw[de] at trw
       have la:=eP (UQ:=UQ) a true tok.2
       refine WS.freeze 2 rfl (aK (by omega)) ?_
       refine ao (cS 2 (ys:=ws++S2 "while" x++U3 UQ a++S1 "end") (cD (aZ.im (cD (aZ.im (cD (aa 2 rfl) (aZ.im (aV (r:=ag) (ax aG (ax (tU (aa 3 rfl) rfl) aR)) (l2 _ _))) (aK (by simp;omega)))) (aE ih hr (aj (mJ (aa 3 rfl) rfl) (aj (aa 1 rfl) aw)) ⟨a,UQ,lo,m,true,rfl,by omega,tok.2,lo0,Yn,by omega,rfl⟩) (aK (by simp;omega)))) (aZ.im (aV (r:=ag) (ax aG aR) (l1 _))) (aK (by simp;omega))) ⟨.im aI (ft (.U6 x a)),?_⟩)
       rw[cL]
       simp only[Pg]
       rfl
     | Vl j=>exact UJ h (by simp only[cV];decide)
     | call x=>exact UJ h (by simp only[cV];decide)
     | ifs x a b=>exact UJ h (by simp only[cV];decide)
     | leave=>exact UJ h (by simp only[cV];decide)
     | back=>exact UJ h (by simp only[cV];decide)
    have h4:¬cV t="while":=UN h4
    have ew:cL UQ t=[cV t]:=by
     cases t with
     | Vl x=>exact UJ rfl h1
     | call x=>exact UJ rfl h2
     | ifs x a b=>exact UJ rfl h3
     | U6 x a=>exact UJ rfl h4
     | leave=>rw[cL];rfl
     | back=>rw[cL];rfl
    rw[ew]
    exact ao (eY 2 (iR (aa 3 rfl)) rfl rfl (QZ wz (by decide)) ⟨.im aI (ft t),rfl⟩)
   ·obtain⟨e3,rfl⟩:=hΓ
    rw[jo,PK]
    exact⟨e3,rfl⟩
   rintro _ ⟨e3,rfl⟩
   have wl:=eP (UQ:=UQ) ts lp UZ
   refine WS.freeze 2 rfl (aK (by omega)) ?_
   exact ao (a8 (aa 2 rfl) rfl)
def fk (UQ:OC)(z:Str×List Th):OC:=S2 "part" (z.1)++U3 UQ z.2++S1 "end"
def fu (UQ:OC)(Ls:List (List Th)):OC:=(UQ.zip Ls).flatMap (fk UQ)
abbrev Hf:Stmt:=top tR
abbrev nTX:OC:=["_law_names","_law_lists","_law_words_here","_law_name_here","_law_items"]
theorem GU:aF nTX ["_law_names","_law_lists"] (ai Hf):=Vk
def Mz:cP:=λK ps T=>∃(UQ:OC) (Ls:List (List Th)),ps=[⟨ae ag,UQ⟩,⟨ae (ae aI),Ls.map bD⟩]/\cf UQ Ls/\T=bU K ag (· =T9 " " (fu UQ Ls))
structure fQ (w:Str):Prop where
 l:w.length<=8
 f:32∉w.cps.toList
theorem cF.wo (h:cF x):fQ x:=⟨h.l8,λz=>by have:=(h.az _ z).1;omega⟩
theorem fe {w:Str}(h:(decide (w.length<=8)&&decide (32∉w.cps.toList))=true):fQ w:=by
 rw[OK] at h
 exact⟨UM h.1,UM h.2⟩
theorem F3 {UQ:OC}(h:∀x∈UQ,cF x)(i:Nat):fQ (UQ.getD i ""):=by
 rw[OY]
 cases e:UQ[i]? with
 | none=>exact fe (by decide +kernel)
 | some x=>exact(h x (O6 e)).wo
theorem mB {y:Str}(hx:fQ x)(hy:fQ y):∀w∈S2 x y,fQ w:=λw hw=>by
 rcases O7.mp hw with rfl | hw
 ·exact hx
 ·rw[O0.mp hw];exact hy
theorem kG (hx:fQ x):∀w∈S1 x,fQ w:=λw hw=>by rw[O0.mp hw];exact hx
theorem fw {a b:OC}(ha:∀w∈a,fQ w)(hb:∀w∈b,fQ w):∀w∈a++b,fQ w:=λw hw=>(Pa.mp hw).elim (ha w) (hb w)
mutual
theorem GA {UQ:OC}{lo m:Int}(hn:∀x∈UQ,cF x):∀(t:Th) (lp:Bool),cq lo m lp t->∀w∈cL UQ t,fQ w
 | .Vl x,_,h=>by
   simp only[cq] at h
   rw[cL];exact mB (fe (by decide +kernel)) h.wo
 | .call j,_,_=>by rw[cL];exact mB (fe (by decide +kernel)) (F3 hn _)
 | .ifs x a b,lp,h=>by
   simp only[cq] at h
   rw[cL]
   exact fw (fw (fw (mB (fe (by decide +kernel)) h.1.wo) (mZ hn a lp h.2.1)) (kG (fe (by decide +kernel)))) (fw (mZ hn b lp h.2.2) (kG (fe (by decide +kernel))))
 | .U6 x a,lp,h=>by
   simp only[cq] at h
   rw[cL]
   exact fw (fw (mB (fe (by decide +kernel)) h.1.wo) (mZ hn a true h.2)) (kG (fe (by decide +kernel)))
 | .leave,_,_=>by rw[cL];exact kG (fe (by decide +kernel))
 | .back,_,_=>by rw[cL];exact kG (fe (by decide +kernel))
theorem mZ {UQ:OC}{lo m:Int}(hn:∀x∈UQ,cF x):∀(ts:List Th) (lp:Bool),bL lo m lp ts->∀w∈U3 UQ ts,fQ w
 | [],_,_=>by rw[U3];intro w h;cases h
 | t::ts,lp,h=>by
   simp only[bL] at h
   rw[U3]
   exact fw (GA hn t lp h.1) (mZ hn ts lp h.2.2)
end
section
variable {UQ:OC}{Ls:List (List Th)}
theorem jB {i:Nat}{z:Str×List Th}(h:(UQ.zip Ls)[i]?=some z):UQ[i]?=some z.1/\Ls[i]?=some z.2:=by
 rw[List.getElem?_zip_eq_some] at h
 exact h
theorem K7 (h:cf UQ Ls){z:Str×List Th}(hz:z∈UQ.zip Ls):(fk UQ z).length<=60/\∀w∈fk UQ z,fQ w:=by
 obtain⟨i,hi⟩:=Pf.mp hz
 obtain⟨h1,h2⟩:=jB hi
 have hk:=h.ok i z.2 h2
 have hl:=eP (UQ:=UQ) z.2 false hk
 have hr:=h.rw z.2 (O6 h2)
 unfold fk
 refine⟨by simp;omega,fw (fw (mB (fe (by decide +kernel)) (h.nm z.1 (O6 h1)).wo) (mZ h.nm z.2 false hk)) (kG (fe (by decide +kernel)))⟩
theorem v9 {UQ:OC}:∀{zs:List (Str×List Th)},(∀z∈zs,(fk UQ z).length<=60/\∀w∈fk UQ z,fQ w)->(zs.flatMap (fk UQ)).length<=60*zs.length/\∀w∈zs.flatMap (fk UQ),fQ w
 | [],_=>⟨QY _,λw h=>by cases h⟩
 | z::zs,h=>by
   obtain⟨a,b⟩:=v9 (zs:=zs) λy hy=>h y (O2 _ hy)
   obtain⟨c,d⟩:=h z O3
   rw[Qj]
   exact⟨by rw[O4,O8];omega,fw d b⟩
theorem vX (h:cf UQ Ls)(i:Nat):(((UQ.zip Ls).take i).flatMap (fk UQ)).length<=240/\∀w∈((UQ.zip Ls).take i).flatMap (fk UQ),fQ w:=by
 obtain⟨a,b⟩:=v9 (UQ:=UQ) (zs:=(UQ.zip Ls).take i) λz hz=>K7 h (QO hz)
 refine⟨?_,b⟩
 have:=h.l;have:=h.l4
 rw[Pl,Qc] at a
 omega
theorem sT (h:cf UQ Ls):(fu UQ Ls).length<=240/\∀w∈fu UQ Ls,fQ w:=by
 have:=vX h (UQ.zip Ls).length
 rw[PK] at this
 exact this
theorem vU {ws:OC}(hl:ws.length<=240)(h:∀w∈ws,fQ w):JoinOk " " ws=true:=by
 unfold JoinOk
 rw[StrLaws.joinFits (B:=8) (λy hy=>(h y hy).l) (by rw[show(" ":Str).length=1 by decide +kernel];omega)]
 rfl
theorem K4 (M:cH K mg)(CW:aH P w K mg base "_law_words" 6 (aN (MV 5) K))(Df:Def K mg "_law_text" Hf ["_law_names","_law_lists"]):aH P w K mg base "_law_text" 7 (aN Mz K):=by
 have nd:=GU.nd
 refine bJ (k:=6) Df GU (λf UX A outer s H E qs T hr hS=>?_)
 obtain⟨UQ,Ls,rfl,hP,rfl⟩:=hS
 change WS _ _ [.im (ae ag) UQ,.im (ae (ae aI)) (Ls.map bD),.no,.no,.no] _ _
 refine ak (a9 2 (y:=([]:OC)) (aZ.im (aV (r:=ag) aR (QY _))) ?_)
 refine bM (N1:=λΓ=>∃e3 e4,Γ=[.im (ae ag) UQ,.im (ae (ae aI)) (Ls.map bD),.im (ae ag) (fu UQ Ls),e3,e4]) (cJ (λi Γ=>∃e3 e4,Γ=[.im (ae ag) UQ,.im (ae (ae aI)) (Ls.map bD),.im (ae ag) (((UQ.zip Ls).take i).flatMap (fk UQ)),e3,e4]) (Jm M.zip (aa 0 rfl) (aa 1 rfl)) (fO 3 4) ⟨_,_,rfl⟩ (λi x Γ hx hΓ=>?_) (λΓ hΓ=>?_)) ?_
 ·obtain⟨e3,e4,rfl⟩:=hΓ
  rw[List.zip_map_right,O5] at hx
  obtain⟨z,hz,rfl⟩:=Rl.mp hx
  obtain⟨h1,h2⟩:=jB hz
  obtain⟨tl,_⟩:=vX hP i
  have hk:=hP.ok i z.2 h2
  have hl:=eP (UQ:=UQ) z.2 false hk
  have hrw:=hP.rw z.2 (O6 h2)
  have hdp:=hP.dp z.2 (O6 h2)
  have Xl:=hP.l
  have V5:((UQ.zip Ls).take (i+1)).flatMap (fk UQ)=((UQ.zip Ls).take i).flatMap (fk UQ)++fk UQ z:=by
   rw[PJ,hz,QD]
   simp
  rw[V5]
  generalize ((UQ.zip Ls).take i).flatMap (fk UQ)=ws at tl
  change WS _ _ [.im (ae ag) UQ,.im (ae (ae aI)) (Ls.map bD),.im (ae ag) ws,.im ag z.1,.im (ae aI) (bD z.2)] _ _
  refine ao (a9 2 (y:=ws++S2 "part" z.1++U3 UQ z.2++S1 "end") (aZ.im (cD (aZ.im (cD (aZ.im (cD (aa 2 rfl) (aZ.im (aV (r:=ag) (ax aG (ax (aa 3 rfl) aR)) (l2 _ _))) (aK (by simp;omega)))) (aE CW hr (aj (aa 4 rfl) (aj (aa 0 rfl) aw)) ⟨z.2,UQ,(i:Int),(Ls.length:Int),false,rfl,by omega,hk,by omega,by omega,by omega,rfl⟩) (aK (by simp;omega)))) (aZ.im (aV (r:=ag) (ax aG aR) (l1 _))) (aK (by simp;omega)))) ⟨.im ag z.1,.im (ae aI) (bD z.2),?_⟩)
  unfold fk
  simp only[Pg]
  rfl
 ·obtain⟨e3,e4,rfl⟩:=hΓ
  refine⟨e3,e4,?_⟩
  rw[List.zip_map_right,OZ,PK]
  rfl
 rintro _ ⟨e3,e4,rfl⟩
 obtain⟨pl,po⟩:=sT hP
 exact ao (a8 (EU aG (aa 2 rfl) (vU pl po)) (w6 _ _))
end
end
section
variable {ws:OC}
structure ay where
 kind:Str
 name:Str
 word:Int
 within:Int
abbrev c7:ay:=⟨"","",0,0⟩
abbrev named:OC:=["part","do","call","if","while"]
abbrev Vf:OC:=["do","call","if","while","leave","back"]
abbrev Vq:OC:=["part","if","else","while"]
abbrev UY:OC:=["else","end"]
structure eU where
 S:List ay
 O:OB
 w:Nat
def aO (S:List ay)(o:Int):Str:=(S.getD o.toNat c7).kind
def fD (k:Str)(ks:OC):Bool:=
 if ks.isEmpty then decide (k="part")
 else if k="leave" then decide (("while":Str)∈ks)
 else if k="else" then decide (ks.getLast?.getD ""="if")
 else if k="end" then !decide (ks.getLast?.getD ""="if")
 else decide (k∈Vf)
abbrev wm (ws:OC)(x:eU):Str:=ws.getD x.w ""
def n5 (k:Str)(n:Str)(x:eU):ay:=⟨k,n,(x.w:Int),x.O.getLast?.getD (-1)⟩
def Wa (k n:Str)(x:eU):eU:=
 ⟨x.S++[n5 k (if k∈named then n else "") x],(if k∈UY then x.O.dropLast else x.O)++(if k∈Vq then[(x.S.length:Int)] else[]),x.w+(if k∈named then 2 else 1)⟩
def jc (ws:OC)(x:eU):eU:=Wa (wm ws x) (ws.getD (x.w+1) "") x
structure Ho (ws:OC) (x:eU):Prop where
 w:x.w<ws.length
 may:fD (wm ws x) (x.O.map (aO x.S))=true
 nm:wm ws x∈named->x.w+1<ws.length/\cF (ws.getD (x.w+1) "")
 o:∀o∈x.O,0<=o/\o<(x.S.length:Int)
theorem nj {α:Type}(f:α->α)(m:Nat)(x:α):∀n,Vi f (m+n) x=Vi f n (Vi f m x)
 | 0=>rfl
 | n+1=>by rw[← Rg,Vi,Vi,nj f m x n]
def gc (ws:OC)(n:Nat)(x y:eU):Prop:=Vi (jc ws) n x=y/\∀i,i<n->Ho ws (Vi (jc ws) i x)
theorem gc.refl {x:eU}:gc ws 0 x x:=⟨rfl,λi h=>by omega⟩
theorem gc.trans {m n:Nat}{x y z:eU}(h:gc ws m x y)(h':gc ws n y z):gc ws (m+n) x z:=by
 refine⟨by rw[nj,h.1];exact h'.1,λi hi=>?_⟩
 by_cases q:i<m
 ·exact h.2 i q
 ·have e:i=m+(i-m):=by omega
  rw[e,nj,h.1]
  exact h'.2 (i-m) (by omega)
theorem gc.cast {n:Nat}{x y y':eU}(h:gc ws n x y)(e:y=y'):gc ws n x y':=e▸h
theorem gc.one {x y:eU}(h:Ho ws x)(e:jc ws x=y):gc ws 1 x y:=by
 refine⟨e,λi hi=>?_⟩
 obtain rfl:i=0:=by omega
 exact h
def pV (ws:OC)(w:Nat)(vs:OC):Prop:=∀(i:Nat) (v:Str),vs[i]?=some v->ws[w+i]?=some v
theorem pV.app {w:Nat}{a b:OC}(h:pV ws w (a++b)):pV ws w a/\pV ws (w+a.length) b:=by
 refine⟨λi v hv=>h i v ?_,λi v hv=>?_⟩
 ·rw[Pr (OW.mp hv).1];exact hv
 ·have:=h (a.length+i) v (by rw[Pp (by omega),show a.length+i-a.length=i by omega];exact hv)
  rw[show w+a.length+i=w+(a.length+i) by omega];exact this
theorem pV.d {w:Nat}{vs:OC}(h:pV ws w vs){i:Nat}{v:Str}(hv:vs[i]?=some v):ws.getD (w+i) ""=v/\w+i<ws.length:=by
 have:=h i v hv
 exact⟨by rw[OY,this];rfl,(OW.mp this).1⟩
mutual
def br:Th->Nat
 | .ifs _ a b=>3+UU a+UU b
 | .U6 _ a=>2+UU a
 | _=>1
def UU:List Th->Nat
 | []=>0
 | t::ts=>br t+UU ts
end
end
mutual
def spT (UQ:OC)(a w u:Int):Th->List ay
 | .Vl x=>[⟨"do",x,w,u⟩]
 | .call j=>[⟨"call",UQ.getD j.toNat "",w,u⟩]
 | .ifs x A B=>[⟨"if",x,w,u⟩]++bN UQ (a+1) (w+2) a A++([⟨"else","",w+2+(U3 UQ A).length,a⟩]++(bN UQ (a+2+UU A) (w+3+(U3 UQ A).length) (a+1+UU A) B++[⟨"end","",w+3+(U3 UQ A).length+(U3 UQ B).length,a+1+UU A⟩]))
 | .U6 x A=>[⟨"while",x,w,u⟩]++(bN UQ (a+1) (w+2) a A++[⟨"end","",w+2+(U3 UQ A).length,a⟩])
 | .leave=>[⟨"leave","",w,u⟩]
 | .back=>[⟨"back","",w,u⟩]
def bN (UQ:OC)(a w u:Int):List Th->List ay
 | []=>[]
 | t::ts=>spT UQ a w u t++bN UQ (a+br t) (w+(cL UQ t).length) u ts
end
mutual
theorem jq {UQ:OC}:∀(t:Th) (a w u:Int),(spT UQ a w u t).length=br t
 | .Vl _,_,_,_=>by simp[spT,br]
 | .call _,_,_,_=>by simp[spT,br]
 | .ifs x A B,a,w,u=>by
   simp only[spT,br,O4,bP A,bP B,O8,Pz]
   omega
 | .U6 x A,a,w,u=>by
   simp only[spT,br,O4,bP A,O8,Pz]
   omega
 | .leave,_,_,_=>by simp[spT,br]
 | .back,_,_,_=>by simp[spT,br]
theorem bP {UQ:OC}:∀(ts:List Th) (a w u:Int),(bN UQ a w u ts).length=UU ts
 | [],_,_,_=>by simp[bN,UU]
 | t::ts,a,w,u=>by rw[bN,UU,O4,jq t,bP ts]
end
section
variable {O:OB}{S:List ay}{x:eU}{n:Str}{a:Int}{S':List ay}{f:Int->Str}{s:ay}
structure Ctx (x:eU) (lp:Bool):Prop where
 ne:x.O≠[]
 o:∀o∈x.O,0<=o/\o<(x.S.length:Int)
 lp:lp=true->("while":Str)∈x.O.map (aO x.S)
theorem Fg {o:Int}(h0:0<=o)(h1:o<(S.length:Int)):aO (S++S') o=aO S o:=by
 unfold aO
 rw[OY,OY,Pr (by omega)]
theorem Ax:aO (S++s::S') (S.length:Int)=s.kind:=by
 unfold aO
 rw[OY,show((S.length:Nat):Int).toNat=S.length by omega]
 simp
theorem v8 (h:∀o∈O,0<=o/\o<(S.length:Int)):O.map (aO (S++S'))=O.map (aO S):=P9 λo ho=>Fg (h o ho).1 (h o ho).2
theorem Ctx.more {lp:Bool}(h:Ctx x lp)(S':List ay)(w:Nat):Ctx ⟨x.S++S',x.O,w⟩ lp:=
 ⟨h.ne,λo ho=>⟨(h.o o ho).1,by have:=(h.o o ho).2;show o<((x.S++S').length:Int);rw[O4];omega⟩,λe=>by show _∈x.O.map (aO (x.S++S'));rw[v8 h.o];exact h.lp e⟩
theorem Ctx.inner {lp lp':Bool}(h:Ctx x lp)(s:ay)(w:Nat)(hl:lp'=true->lp=true∨s.kind="while"):Ctx ⟨x.S++[s],x.O++[(x.S.length:Int)],w⟩ lp':=by
 refine⟨by simp,λo ho=>?_,λe=>?_⟩
 ·show _/\o<((x.S++[s]).length:Int)
  rw[O4,Py]
  rcases Pa.mp ho with z | z
  ·have:=h.o o z;omega
  ·rw[O0.mp z];omega
 ·show _∈(x.O++[(x.S.length:Int)]).map (aO (x.S++[s]))
  rw[Ph,v8 h.o]
  rcases hl e with z | z
  ·exact Pj _ (h.lp z)
  ·refine Pb _ ?_
   rw[QI,Ax,z]
   exact O0.mpr rfl
theorem jX {k:Str}{ks:OC}(U9:ks≠[])(h:k∈Vf)(hl:k≠"leave"):fD k ks=true:=by
 unfold fD
 have e:ks.isEmpty=false:=by cases ks with
  | nil=>exact UJ rfl U9
  | cons _ _=>rfl
 have h1:k≠"else":=λz=>by rw[z] at h;revert h;decide +kernel
 have h2:k≠"end":=λz=>by rw[z] at h;revert h;decide +kernel
 rw[UK (by rw[e];decide),UK hl,UK h1,UK h2]
 exact UO h
theorem mO (h:O≠[]):O.map f≠[]:=λe=>h (List.map_eq_nil_iff.mp e)
theorem fM {ws:OC}{k:Str}{vs:OC}{i:Nat}(hk:ws.getD x.w ""=k/\x.w<ws.length)(hn:k∈named->ws.getD (x.w+1) ""=n/\x.w+1<ws.length/\cF n)(hm:fD k (x.O.map (aO x.S))=true)(ho:∀o∈x.O,0<=o/\o<(x.S.length:Int)):gc ws 1 x (Wa k n x):=by
 obtain⟨e1,h1⟩:=hk
 have e:wm ws x=k:=e1
 refine gc.one ⟨h1,by rw[e];exact hm,λh=>?_,ho⟩ ?_
 ·rw[e] at h
  obtain⟨e2,h2,h3⟩:=hn h
  exact⟨h2,by rw[e2];exact h3⟩
 ·unfold jc
  rw[e]
  by_cases h:k∈named
  ·rw[(hn h).1]
  ·unfold Wa;rw[UK h,UK h,UK h]
theorem ui:((O++[a]).map f).getLast?.getD ""=f a:=by simp
theorem Cn (h:f a="if"):fD "else" ((O++[a]).map f)=true:=by
 unfold fD
 rw[UK (by simp),UK (by decide +kernel),UL rfl,ui,h]
 rfl
theorem qr (h:f a≠"if"):fD "end" ((O++[a]).map f)=true:=by
 unfold fD
 rw[UK (by simp),UK (by decide +kernel),UK (by decide +kernel),UL rfl,ui,UP h]
 rfl
theorem Ak {ks:OC}(h:("while":Str)∈ks):fD "leave" ks=true:=by
 unfold fD
 rw[UK (by cases ks with
  | nil=>cases h
  | cons _ _=>simp),UL rfl]
 exact UO h
abbrev uF (x:eU):Int:=x.O.getLast?.getD (-1)
theorem uJ {k:Str}(h1:k∈named)(h2:k∉UY)(h3:k∉Vq):Wa k n x=⟨x.S++[⟨k,n,x.w,uF x⟩],x.O,x.w+2⟩:=by
 unfold Wa n5;rw[UL h1,UL h1,UK h2,UK h3,Px]
theorem xG {k:Str}(h1:k∉named)(h2:k∉UY)(h3:k∉Vq):Wa k n x=⟨x.S++[⟨k,"",x.w,uF x⟩],x.O,x.w+1⟩:=by
 unfold Wa n5;rw[UK h1,UK h1,UK h2,UK h3,Px]
theorem qR {k:Str}(h1:k∈named)(h2:k∉UY)(h3:k∈Vq):Wa k n x=⟨x.S++[⟨k,n,x.w,uF x⟩],x.O++[(x.S.length:Int)],x.w+2⟩:=by
 unfold Wa n5;rw[UL h1,UL h1,UK h2,UL h3]
theorem E8 {w:Nat}:Wa "else" n ⟨S,O++[a],w⟩=⟨S++[⟨"else","",w,a⟩],O++[(S.length:Int)],w+1⟩:=by
 unfold Wa n5;rw[UK (show¬("else":Str)∈named by decide +kernel),UK (show¬("else":Str)∈named by decide +kernel),UL (show("else":Str)∈UY by decide +kernel),UL (show("else":Str)∈Vq by decide +kernel)];simp
theorem mX {w:Nat}:Wa "end" n ⟨S,O++[a],w⟩=⟨S++[⟨"end","",w,a⟩],O,w+1⟩:=by
 unfold Wa n5;rw[UK (show¬("end":Str)∈named by decide +kernel),UK (show¬("end":Str)∈named by decide +kernel),UL (show("end":Str)∈UY by decide +kernel),UK (show¬("end":Str)∈Vq by decide +kernel)];simp
theorem oN (h:∀o∈O,0<=o/\o<(S.length:Int))(S':List ay):∀o∈O++[(S.length:Int)],0<=o/\o<(((S++[s])++S').length:Int):=λo ho=>by
 rw[O4,O4,Py]
 rcases Pa.mp ho with z | z
 ·have:=h o z;omega
 ·rw[O0.mp z];omega
theorem qg:aO ((S++[s])++S') (S.length:Int)=s.kind:=by rw[Pg];exact Ax
mutual
theorem N7 {ws UQ:OC}{lo m:Int}(hn:∀x∈UQ,cF x)(hm:m<=(UQ.length:Int))(Xy:0<=lo):∀(t:Th) (lp:Bool) (x:eU),cq lo m lp t->pV ws x.w (cL UQ t)->Ctx x lp->
 gc ws (br t) x ⟨x.S++spT UQ (x.S.length:Int) (x.w:Int) (uF x) t,x.O,x.w+(cL UQ t).length⟩
 | .Vl y,lp,x,h,hw,hc=>by
   simp only[cq] at h
   rw[cL] at hw
   have e1:=hw.d (i:=0) rfl
   have e2:=hw.d (i:=1) rfl
   have s:=fM (n:=y) (vs:=[]) (i:=0) e1 (λ_=>⟨e2.1,e2.2,h⟩) (jX (mO hc.ne) (by decide +kernel) (by decide +kernel)) hc.o
   rw[uJ (by decide +kernel) (by decide +kernel) (by decide +kernel)] at s
   simp only[br,spT,cL]
   exact s
 | .call j,lp,x,h,hw,hc=>by
   simp only[cq] at h
   rw[cL] at hw
   have e1:=hw.d (i:=0) rfl
   have e2:=hw.d (i:=1) rfl
   have hj:cF (UQ.getD j.toNat ""):=by
    have hl:j.toNat<UQ.length:=by omega
    rw[OY,OX hl]
    exact hn _ (PD hl)
   have s:=fM (n:=UQ.getD j.toNat "") (vs:=[]) (i:=0) e1 (λ_=>⟨e2.1,e2.2,hj⟩) (jX (mO hc.ne) (by decide +kernel) (by decide +kernel)) hc.o
   rw[uJ (by decide +kernel) (by decide +kernel) (by decide +kernel)] at s
   simp only[br,spT,cL]
   exact s
 | .leave,lp,x,h,hw,hc=>by
   simp only[cq] at h
   rw[cL] at hw
   have e1:=hw.d (i:=0) rfl
   have s:=fM (n:="") (vs:=[]) (i:=0) e1 (λz=>UJ z (by decide +kernel)) (Ak (hc.lp h)) hc.o
   rw[xG (by decide +kernel) (by decide +kernel) (by decide +kernel)] at s
   simp only[br,spT,cL]
   exact s
 | .back,lp,x,h,hw,hc=>by
   rw[cL] at hw
   have e1:=hw.d (i:=0) rfl
   have s:=fM (n:="") (vs:=[]) (i:=0) e1 (λz=>UJ z (by decide +kernel)) (jX (mO hc.ne) (by decide +kernel) (by decide +kernel)) hc.o
   rw[xG (by decide +kernel) (by decide +kernel) (by decide +kernel)] at s
   simp only[br,spT,cL]
   exact s
 | .U6 y A,lp,x,h,hw,hc=>by
   simp only[cq] at h
   rw[cL,Pg] at hw
   obtain⟨w1,w2⟩:=hw.app
   obtain⟨w2,w3⟩:=w2.app
   have e1:=w1.d (i:=0) rfl
   have e2:=w1.d (i:=1) rfl
   have s1:=fM (n:=y) (vs:=[]) (i:=0) e1 (λ_=>⟨e2.1,e2.2,h.1⟩) (jX (mO hc.ne) (by decide +kernel) (by decide +kernel)) hc.o
   rw[qR (by decide +kernel) (by decide +kernel) (by decide +kernel)] at s1
   have s2:=uq (lo:=lo) (m:=m) hn hm Xy A true ⟨x.S++[(⟨"while",y,x.w,uF x⟩:ay)],x.O++[(x.S.length:Int)],x.w+2⟩ h.2 w2 (hc.inner _ _ λ_=>.inr rfl)
   have hu:uF ⟨x.S++[(⟨"while",y,x.w,uF x⟩:ay)],x.O++[(x.S.length:Int)],x.w+2⟩=(x.S.length:Int):=by unfold uF;simp
   rw[hu] at s2
   have e3:=w3.d (i:=0) rfl
   have s3:=fM (ws:=ws) (x:=⟨x.S++[(⟨"while",y,x.w,uF x⟩:ay)]++bN UQ ((x.S++[(⟨"while",y,x.w,uF x⟩:ay)]).length:Int) ((x.w+2:Nat):Int) (x.S.length:Int) A,x.O++[(x.S.length:Int)],x.w+2+(U3 UQ A).length⟩) (n:="") (vs:=[]) (i:=0) e3 (λz=>UJ z (by decide +kernel)) (qr (by rw[qg];show("while":Str)≠"if";decide +kernel)) (oN hc.o _)
   rw[mX] at s3
   have s:=(s1.trans s2).trans s3
   simp only[br,spT,cL]
   rw[show 1+UU A+1=2+UU A by omega] at s
   refine s.cast ?_
   simp only[O4,O8,Pz,Pg]
   push_cast
   simp only[eU.mk.injEq]
   refine⟨?_,trivial,?_⟩
   ·rw[show(x.w:Int)+1+1=(x.w:Int)+2 by omega]
   ·omega
 | .ifs y A B,lp,x,h,hw,hc=>by
   simp only[cq] at h
   rw[cL,Pg,Pg] at hw
   obtain⟨w1,w2⟩:=hw.app
   obtain⟨w2,w3⟩:=w2.app
   obtain⟨w3,w4⟩:=w3.app
   obtain⟨w4,w5⟩:=w4.app
   have e1:=w1.d (i:=0) rfl
   have e2:=w1.d (i:=1) rfl
   have s1:=fM (n:=y) (vs:=[]) (i:=0) e1 (λ_=>⟨e2.1,e2.2,h.1⟩) (jX (mO hc.ne) (by decide +kernel) (by decide +kernel)) hc.o
   rw[qR (by decide +kernel) (by decide +kernel) (by decide +kernel)] at s1
   generalize Y7:(⟨"if",y,x.w,uF x⟩:ay)=s0 at s1
   have k0:s0.kind="if":=by rw[← Y7]
   have s2:=uq (lo:=lo) (m:=m) hn hm Xy A lp ⟨x.S++[s0],x.O++[(x.S.length:Int)],x.w+2⟩ h.2.1 w2 (hc.inner _ _ λz=>.inl z)
   have hu:uF ⟨x.S++[s0],x.O++[(x.S.length:Int)],x.w+2⟩=(x.S.length:Int):=by unfold uF;simp
   rw[hu] at s2
   have e3:=w3.d (i:=0) rfl
   generalize Yt:bN UQ ((x.S++[s0]).length:Int) ((x.w+2:Nat):Int) (x.S.length:Int) A=SA at s2
   have lSA:SA.length=UU A:=by rw[← Yt,bP]
   have s3:=fM (ws:=ws) (x:=(⟨x.S++[s0]++SA,x.O++[(x.S.length:Int)],x.w+2+(U3 UQ A).length⟩:eU)) (n:="") (vs:=[]) (i:=0) e3 (λz=>UJ z (by decide +kernel)) (Cn (by rw[qg,k0])) (oN hc.o _)
   rw[E8] at s3
   have c3:=(hc.more (s0::SA) (x.w+2+(U3 UQ A).length)).inner (⟨"else","",((x.w+2+(U3 UQ A).length:Nat):Int),(x.S.length:Int)⟩:ay) (x.w+2+(U3 UQ A).length+1) (lp':=lp) λz=>.inl z
   have el:x.S++s0::SA=x.S++[s0]++SA:=by simp
   dsimp only at c3
   rw[el] at c3
   generalize XR:(⟨"else","",((x.w+2+(U3 UQ A).length:Nat):Int),(x.S.length:Int)⟩:ay)=s1' at s3 c3
   have k1:s1'.kind≠"if":=by rw[← XR];show("else":Str)≠"if";decide +kernel
   have s4:=uq (lo:=lo) (m:=m) hn hm Xy B lp _ h.2.2 w4 c3
   have hu2:uF ⟨x.S++[s0]++SA++[s1'],x.O++[((x.S++[s0]++SA).length:Int)],x.w+2+(U3 UQ A).length+1⟩=((x.S++[s0]++SA).length:Int):=by unfold uF;simp
   rw[hu2] at s4
   have e5:=w5.d (i:=0) rfl
   dsimp only at s4
   generalize hSB:bN UQ ((x.S++[s0]++SA++[s1']).length:Int) ((x.w+2+(U3 UQ A).length+1:Nat):Int) ((x.S++[s0]++SA).length:Int) B=SB at s4
   have s5:=fM (ws:=ws) (x:=(⟨x.S++[s0]++SA++[s1']++SB,x.O++[((x.S++[s0]++SA).length:Int)],x.w+2+(U3 UQ A).length+1+(U3 UQ B).length⟩:eU)) (n:="") (vs:=[]) (i:=0) e5 (λz=>UJ z (by decide +kernel)) (qr (by rw[qg];exact k1)) (oN (by
    intro o ho
    have:=(hc.more (s0::SA) 0).o o ho
    dsimp only at this
    rw[el] at this
    exact this) _)
   rw[mX] at s5
   have s:=(((s1.trans s2).trans s3).trans s4).trans s5
   simp only[br,spT,cL]
   rw[show 1+UU A+1+UU B+1=3+UU A+UU B by omega] at s
   refine s.cast ?_
   subst Y7 XR
   simp only[O4,O8,Pz,Pg,lSA] at Yt hSB ⊢
   rw[← Yt,← hSB]
   push_cast
   simp only[eU.mk.injEq]
   refine⟨?_,trivial,?_⟩
   ·rw[show(x.w:Int)+1+1=(x.w:Int)+2 by omega,show(x.w:Int)+2+((U3 UQ A).length:Int)+1=(x.w:Int)+3+((U3 UQ A).length:Int) by omega,show(x.S.length:Int)+(1+((UU A:Int)+1))=(x.S.length:Int)+2+(UU A:Int) by omega,show(x.S.length:Int)+(1+(UU A:Int))=(x.S.length:Int)+1+(UU A:Int) by omega]
   ·omega
theorem uq {ws UQ:OC}{lo m:Int}(hn:∀x∈UQ,cF x)(hm:m<=(UQ.length:Int))(Xy:0<=lo):∀(ts:List Th) (lp:Bool) (x:eU),bL lo m lp ts->pV ws x.w (U3 UQ ts)->Ctx x lp->
 gc ws (UU ts) x ⟨x.S++bN UQ (x.S.length:Int) (x.w:Int) (uF x) ts,x.O,x.w+(U3 UQ ts).length⟩
 | [],lp,x,h,hw,hc=>by
   simp only[UU,bN,U3]
   refine gc.refl.cast ?_
   simp
 | t::ts,lp,x,h,hw,hc=>by
   simp only[bL] at h
   rw[U3] at hw
   obtain⟨w1,w2⟩:=hw.app
   have s1:=N7 hn hm Xy t lp x h.1 w1 hc
   have s2:=uq hn hm Xy ts lp ⟨x.S++spT UQ (x.S.length:Int) (x.w:Int) (uF x) t,x.O,x.w+(cL UQ t).length⟩ h.2.2 w2 (hc.more _ _)
   have s:=s1.trans s2
   simp only[UU,bN,U3]
   refine s.cast ?_
   simp only[O4,jq,Pg]
   push_cast
   simp only[eU.mk.injEq]
   refine⟨trivial,trivial,?_⟩
   omega
end
end
def gK (UQ:OC)(a w:Int):List (Str×List Th)->List ay
 | []=>[]
 | z::r=>[⟨"part",z.1,w, -1⟩]++(bN UQ (a+1) (w+2) a z.2++([⟨"end","",w+2+(U3 UQ z.2).length,a⟩]++gK UQ (a+2+UU z.2) (w+3+(U3 UQ z.2).length) r))
def cW:List (Str×List Th)->Nat
 | []=>0
 | z::r=>2+UU z.2+cW r
theorem xE {UQ:OC}:∀(zs:List (Str×List Th)) (a w:Int),(gK UQ a w zs).length=cW zs
 | [],_,_=>rfl
 | z::r,a,w=>by
   rw[gK,cW]
   simp only[O4,bP,xE r,O8,Pz]
   omega
theorem Jf {ws UQ:OC}{m:Int}(hn:∀x∈UQ,cF x)(hm:m<=(UQ.length:Int)):∀(zs:List (Str×List Th)) (x:eU),(∀z∈zs,cF z.1/\∃lo,0<=lo/\bL lo m false z.2)->pV ws x.w (zs.flatMap (fk UQ))->x.O=[]->
 gc ws (cW zs) x ⟨x.S++gK UQ (x.S.length:Int) (x.w:Int) zs,[],x.w+(zs.flatMap (fk UQ)).length⟩
 | [],x,h,hw,hc=>by
   refine gc.refl.cast ?_
   simp[gK,← hc]
 | z::r,x,h,hw,hc=>by
   obtain⟨S,O,w⟩:=x
   obtain rfl:O=[]:=hc
   obtain⟨hz,lo,Xy,UZ⟩:=h z O3
   rw[Qj] at hw
   obtain⟨hw,hwr⟩:=hw.app
   rw[show fk UQ z=S2 "part" z.1++(U3 UQ z.2++S1 "end") by unfold fk;rw[Pg]] at hw
   obtain⟨w1,w2⟩:=hw.app
   obtain⟨w2,w3⟩:=w2.app
   dsimp only at w1 w2 w3 hwr ⊢
   have e1:=w1.d (i:=0) rfl
   have e2:=w1.d (i:=1) rfl
   have s1:=fM (x:=(⟨S,[],w⟩:eU)) (n:=z.1) (vs:=[]) (i:=0) e1 (λ_=>⟨e2.1,e2.2,hz⟩) (show fD "part" []=true by decide +kernel) (λo ho=>by cases ho)
   rw[qR (by decide +kernel) (by decide +kernel) (by decide +kernel)] at s1
   dsimp only at s1
   rw[show uF ⟨S,[],w⟩= -1 from rfl] at s1
   generalize Y7:(⟨"part",z.1,(w:Int), -1⟩:ay)=s0 at s1
   have k0:s0.kind="part":=by rw[← Y7]
   have c1:Ctx ⟨S++[s0],[]++[(S.length:Int)],w+2⟩ false:=⟨by simp,λo ho=>by
    have e:o=(S.length:Int):=by simpa using ho
    show _/\o<((S++[s0]).length:Int)
    rw[O4,Py,e];omega,λe=>by cases e⟩
   have s2:=uq (lo:=lo) (m:=m) hn hm Xy z.2 false _ UZ w2 c1
   rw[show uF ⟨S++[s0],[]++[(S.length:Int)],w+2⟩=(S.length:Int) from rfl] at s2
   dsimp only at s2
   generalize Yt:bN UQ ((S++[s0]).length:Int) ((w+2:Nat):Int) (S.length:Int) z.2=SA at s2
   have lSA:SA.length=UU z.2:=by rw[← Yt,bP]
   have e3:=w3.d (i:=0) rfl
   have s3:=fM (ws:=ws) (x:=(⟨S++[s0]++SA,[]++[(S.length:Int)],w+2+(U3 UQ z.2).length⟩:eU)) (n:="") (vs:=[]) (i:=0) e3 (λz=>UJ z (by decide +kernel)) (qr (by rw[qg,k0];decide +kernel)) (oN (λo ho=>by cases ho) _)
   rw[mX] at s3
   have s4:=Jf hn hm r ⟨S++[s0]++SA++[⟨"end","",((w+2+(U3 UQ z.2).length:Nat):Int),(S.length:Int)⟩],[],w+2+(U3 UQ z.2).length+1⟩ (λy hy=>h y (O2 _ hy)) (by
    have e:w+2+(U3 UQ z.2).length+1=w+(fk UQ z).length:=by unfold fk;simp only[O4,O8,Pz];omega
    dsimp only
    rw[e];exact hwr) rfl
   have s:=((s1.trans s2).trans s3).trans s4
   rw[cW,show 2+UU z.2+cW r=1+UU z.2+1+cW r by omega]
   refine s.cast ?_
   subst Y7
   dsimp only
   rw[gK,Qj]
   have lp:(fk UQ z).length=3+(U3 UQ z.2).length:=by unfold fk;simp only[O4,O8,Pz];omega
   simp only[O4,O8,Pz,Pg,lSA,lp] at Yt ⊢
   rw[← Yt]
   push_cast
   simp only[eU.mk.injEq]
   refine⟨?_,trivial,?_⟩
   ·rw[show(w:Int)+1+1=(w:Int)+2 by omega,show(w:Int)+2+((U3 UQ z.2).length:Int)+1=(w:Int)+3+((U3 UQ z.2).length:Int) by omega,show(S.length:Int)+(1+((UU z.2:Int)+1))=(S.length:Int)+2+(UU z.2:Int) by omega]
   ·omega
abbrev aq (UQ:OC)(Ls:List (List Th)):List ay:=gK UQ 0 0 (UQ.zip Ls)
theorem rP {UQ:OC}{Ls:List (List Th)}(h:cf UQ Ls):gc (fu UQ Ls) (cW (UQ.zip Ls)) ⟨[],[],0⟩ ⟨aq UQ Ls,[],(fu UQ Ls).length⟩:=by
 have:=Jf (ws:=fu UQ Ls) (UQ:=UQ) (m:=(Ls.length:Int)) h.nm (by rw[h.l];omega) (UQ.zip Ls) ⟨[],[],0⟩ (λz hz=>by
  obtain⟨i,hi⟩:=Pf.mp hz
  obtain⟨h1,h2⟩:=jB hi
  exact⟨h.nm z.1 (O6 h1),(i:Int),by omega,h.ok i z.2 h2⟩) (λi v hv=>by
   show(fu UQ Ls)[0+i]?=some v
   rw[Q4];exact hv) rfl
 refine this.cast ?_
 simp[aq,fu]
structure j6 (K:Uk) (mg:Oz):Prop where
 most:∃t,mg "MOST_LETTERS"=some (.int 8 t)
 nost:∃t,mg "NO_STEP"=some (.int (-1) t)
 named:qM K mg "NAMED" named
 Vf:qM K mg "SENTENCES" Vf
 Vq:qM K mg "OPENING" Vq
 UY:qM K mg "CLOSING" UY
abbrev gR:OC:=["kind","name","word","within"]
theorem i5 {x:Str}(h:decide (x∈gR)=true):x∈gR:=UM h
def Nt (s:ay):jD:=[("kind",ag.at_ s.kind),("name",ag.at_ s.name),("word",ah.at_ s.word),("within",ah.at_ s.within)]
def bc (C:Addr):Rep ay:=⟨λK R v s=>∃x dx vs,v= .ref x/\R x=some (.ins C dx vs)/\fU (Nt s) K R vs,λs ⟨x,dx,vs,e,h1,h2⟩=>⟨x,dx,vs,e,s _ _ h1,h2.mono s⟩⟩
section
variable {X:Cx}{Γ Γ1:Ga}{C:Addr}{e:Expr}{pos:Pos}{s:ay}
theorem gv (hC:bF X.K C gR)(he:EV X e Γ (bc C) s Γ1)(hb:RK e "kind" X.env (eval e X.env)=eval e X.env:=by rfl):EV X (.Attribute e "kind" pos) Γ ag s.kind Γ1:=jf hC (i5 (by decide)) he (λK R v ⟨x,dx,vs,e,h1,h2⟩=>by obtain⟨u,q1,q2⟩:=h2.get (f:="kind") rfl;exact⟨x,dx,vs,u,e,h1,q1,q2⟩) hb
theorem qk (hC:bF X.K C gR)(he:EV X e Γ (bc C) s Γ1)(hb:RK e "name" X.env (eval e X.env)=eval e X.env:=by rfl):EV X (.Attribute e "name" pos) Γ ag s.name Γ1:=jf hC (i5 (by decide)) he (λK R v ⟨x,dx,vs,e,h1,h2⟩=>by obtain⟨u,q1,q2⟩:=h2.get (f:="name") rfl;exact⟨x,dx,vs,u,e,h1,q1,q2⟩) hb
theorem Lp (hC:bF X.K C gR)(he:EV X e Γ (bc C) s Γ1)(hb:RK e "word" X.env (eval e X.env)=eval e X.env:=by rfl):EV X (.Attribute e "word" pos) Γ ah s.word Γ1:=jf hC (i5 (by decide)) he (λK R v ⟨x,dx,vs,e,h1,h2⟩=>by obtain⟨u,q1,q2⟩:=h2.get (f:="word") rfl;exact⟨x,dx,vs,u,e,h1,q1,q2⟩) hb
theorem pX (hC:bF X.K C gR)(he:EV X e Γ (bc C) s Γ1)(hb:RK e "within" X.env (eval e X.env)=eval e X.env:=by rfl):EV X (.Attribute e "within" pos) Γ ah s.within Γ1:=jf hC (i5 (by decide)) he (λK R v ⟨x,dx,vs,e,h1,h2⟩=>by obtain⟨u,q1,q2⟩:=h2.get (f:="within") rfl;exact⟨x,dx,vs,u,e,h1,q1,q2⟩) hb
end
section
abbrev rh:Stmt:=match top Fs with
 | .ClassDef _ _ _ b _ _ _ _ _ _ _=>b.getD 0 (.Pass ⟨0,0,0,0⟩)
 | s=>s
abbrev tK:OC:=["self","kind","name","word","within"]
theorem JC:aF tK tK (ai rh):=Vk
def M5 (C0:Addr):AH:=λK C ps Pd=>C=C0/\∃s:ay,ps=[⟨ag,s.kind⟩,⟨ag,s.name⟩,⟨ah,s.word⟩,⟨ah,s.within⟩]/\Pd=λfs=>fs=Nt s
theorem LC {C0:Addr}(HC:bF K C0 gR)(F:dU K "__init__" "Step.__init__" rh f fd):dW P w K mg base d6 1 f fd tK (wX (M5 C0) K):=by
 have nd:=JC.nd
 refine y8 F JC (λC qs Pd ⟨_,m,e,_⟩=>by rw[e];rfl) (λUX A outer st H E C x dx qs Pd hr hS=>?_)
 obtain⟨rfl,s,rfl,rfl⟩:=hS
 change WS _ _ [.ob ((gx C).bx [x,dx] []),.im ag s.kind,.im ag s.name,ar s.word,ar s.within] _ _
 refine ak (g0 0 HC (i5 (by decide)) (aa 1 rfl) rfl rfl (by show 0<1000;decide) ?_)
 refine ak (g0 0 HC (i5 (by decide)) (aa 2 rfl) rfl rfl (by show 1<1000;decide) ?_)
 refine ak (g0 0 HC (i5 (by decide)) (aa 3 rfl) rfl rfl (by show 2<1000;decide) ?_)
 exact ao (g0 0 HC (i5 (by decide)) (aa 4 rfl) rfl rfl (by show 3<1000;decide) ⟨_,rfl,rfl⟩)
abbrev Dc:Stmt:=top xM
theorem Jj:aF ["word"] ["word"] (ai Dc):=Vk
def MQ:cP:=λK ps T=>∃x:Str,ps=[⟨ag,x⟩]/\cF x/\T=bU K cU (· =true)
theorem Hj {x:Str}(h:cF x){c:Str}(hc:c∈gA x):∃n,c=⟨#[n]⟩/\97<=n/\n<=122:=by
 unfold gA at hc
 obtain⟨i,hi,rfl⟩:=Pe.mp hc
 have hi:i<x.cps.size:=by simpa using hi
 refine⟨x.cps.getD i 0,rfl,h.az _ ?_⟩
 rw[Array.getD_eq_getD_getElem?]
 simp[hi]
theorem Lx {n:Nat}(h:97<=n/\n<=122):(!decide ((⟨#[n]⟩:Str).cps.toList<("a":Str).cps.toList))=true/\(!decide (("z":Str).cps.toList<(⟨#[n]⟩:Str).cps.toList))=true:=by
 have ea:("a":Str).cps.toList=[97]:=by decide +kernel
 have ez:("z":Str).cps.toList=[122]:=by decide +kernel
 rw[ea,ez]
 have e1:¬([n]:List Nat) < [97]:=by intro z;cases z with
  | rel h1=>omega
  | cons h1=>cases h1
 have e2:¬([122]:List Nat) < [n]:=by intro z;cases z with
  | rel h1=>omega
  | cons h1=>cases h1
 exact⟨by rw[show(⟨#[n]⟩:Str).cps.toList=[n] from rfl,UP e1];rfl,by rw[show(⟨#[n]⟩:Str).cps.toList=[n] from rfl,UP e2];rfl⟩
theorem LB (M:cH K mg)(M2:j6 K mg)(Df:Def K mg "is_name" Dc ["word"]):aH P w K mg base "is_name" 1 (aN MQ K):=by
 have nd:=Jj.nd
 have Wf:Pt [("sign":Str)]:=by decide
 refine bJ Df Jj (λf UX A outer s H E qs T hr hS=>?_)
 obtain⟨x,rfl,hx,rfl⟩:=hS
 obtain⟨t,hmo⟩:=M2.most
 change WS _ _ [.im ag x] _ _
 have hl:x.cps.size<=RE:=QX hx.l8 (by decide)
 have hasc:x.cps.all (· < 128)=true:=by
  rw[Array.all_eq_true]
  intro i hi
  have:=hx.az x.cps[i] (by simp)
  exact UO (by omega)
 have l1:=hx.l1
 have l8:=hx.l8
 refine ao (a8 (y6 (oI vz vz ev_int (EX M.len (aa 0 rfl) hl) (eG hmo)) (λ_=>yX (pZ M.all (aZ.im (bY (own:=["sign"]) (fr:=[]) (ix:=[]) (ra:=ag) (rb:=cU) (p:=λ_=>true) (f:=λ_=>true) (bK (so:=ai Dc) (N0:=["word"]) rfl rfl (λx h=>bz h) (by decide +kernel)) (A3 (aa 0 rfl) hasc hl)
  (λC s H ex=>aX 0) (λx=>⟨.inr rfl,trivial⟩) (λC s H ex c hc=>dE) (λC s H ex c hc _=>?_)))))) ?_)
 ·obtain⟨n,rfl,hn⟩:=Hj hx hc
  obtain⟨q1,q2⟩:=Lx hn
  exact EV.cast (oI Dm Dm aG (aa 0 rfl) aG) (by rw[q1,q2];rfl)
 ·have e1:decide ((1:Int)<=(x.length:Int))=true:=UO (by omega)
  have e2:decide ((x.length:Int)<=8)=true:=UO (by omega)
  rw[e1,e2]
  simp
abbrev GY:Stmt:=top qO
theorem JO:aF ["words","word"] ["words","word"] (ai GY):=Vk
def M8:cP:=λK ps T=>∃(ws:OC) (i:Nat),ps=[⟨ae ag,ws⟩,⟨ah,(i:Int)⟩]/\i+1<ws.length/\cF (ws.getD (i+1) "")/\T=bU K ag (· =ws.getD (i+1) "")
theorem KO (M:cH K mg)(CI:aH P w K mg base "is_name" 1 (aN MQ K))(Df:Def K mg "name_behind" GY ["words","word"]):aH P w K mg base "name_behind" 2 (aN M8 K):=by
 have nd:=JO.nd
 refine bJ Df JO (λf UX A outer s H E qs T hr hS=>?_)
 obtain⟨ws,i,rfl,hi,hn,rfl⟩:=hS
 change WS _ _ [.im (ae ag) ws,ar (i:Int)] _ _
 have VM:cy ws ((i:Int)+1)=some (ws.getD (i+1) ""):=aY (xs:=ws) (i:=((i:Int)+1)) "" (by omega) (by omega)
 refine ak (bE (TW.tv (lF (aD iG (cv (aa 1 rfl) ev_int) (eO M.len (aa 0 rfl))) (λ_=>kL (hJ (eL (aE CI hr (aj (bo (aa 0 rfl) (cv (aa 1 rfl) ev_int) VM) aw) ⟨_,rfl,hn,rfl⟩)))))) (λh=>?_) (λh=>aW ?_))
 ·rw[UP (show¬(i:Int)+1=(ws.length:Int) by omega)] at h
  cases h
 ·exact ao (a8 (bo (aa 0 rfl) (cv (aa 1 rfl) ev_int) VM) rfl)
abbrev Iy:Stmt:=top vq
theorem Ii:aF ["kind","opened"] ["kind","opened"] (ai Iy):=Vk
def Nf:cP:=λK ps T=>∃(k:Str) (ks:OC),ps=[⟨ag,k⟩,⟨ae ag,ks⟩]/\T=bU K cU (· =fD k ks)
theorem wM {ks:OC}(h:ks≠[]):cy ks (-1)=some (ks.getLast?.getD ""):=by
 obtain⟨l,x,rfl⟩:∃l x,ks=l++[x]:=⟨ks.dropLast,ks.getLast h,(P7 h).symm⟩
 unfold cy
 rw[show fg (l++[x]).length (-1)=some l.length by unfold fg;simp;omega]
 simp
theorem Lu (M2:j6 K mg)(Df:Def K mg "may_stand" Iy ["kind","opened"]):aH P w K mg base "may_stand" 1 (aN Nf K):=by
 have nd:=Ii.nd
 refine bJ Df Ii (λf UX A outer s H E qs T hr hS=>?_)
 obtain⟨k,ks,rfl,rfl⟩:=hS
 change WS _ _ [.im ag k,.im (ae ag) ks] _ _
 refine ak (bE (hJ (tO (aa 1 rfl))) (λh=>?_) (λh=>aW ?_))
 ·have h:ks.isEmpty=true:=by simpa using h
  exact ao (a8 (jI cM (aa 0 rfl) aG) (by unfold fD;rw[UL h]))
 have h0:¬ks.isEmpty=true:=by simpa using h
 have U9:ks≠[]:=λz=>h0 (by rw[z];rfl)
 refine ak (bE (aD cM (aa 0 rfl) aG) (λh=>?_) (λh=>aW ?_))
 ·have h:k="leave":=UM h
  exact ao (a8 (jI vD aG (aa 1 rfl)) (by unfold fD;rw[UK h0,UL h]))
 have h1:¬k="leave":=UN h
 refine ak (bE (aD cM (aa 0 rfl) aG) (λh=>?_) (λh=>aW ?_))
 ·have h:k="else":=UM h
  exact ao (a8 (jI cM (bo (aa 1 rfl) (gO ev_int) (wM U9)) aG) (by unfold fD;rw[UK h0,UK h1,UL h]))
 have h2:¬k="else":=UN h
 refine ak (bE (aD cM (aa 0 rfl) aG) (λh=>?_) (λh=>aW ?_))
 ·have h:k="end":=UM h
  exact ao (a8 (jI DM (bo (aa 1 rfl) (gO ev_int) (wM U9)) aG) (by unfold fD;rw[UK h0,UK h1,UK h2,UL h]))
 have h3:¬k="end":=UN h
 exact ao (a8 (jI j5 (aa 0 rfl) (gz M2.Vf)) (by unfold fD;rw[UK h0,UK h1,UK h2,UK h3]))
end
theorem vj (ws:OC):∀i,(Vi (jc ws) i ⟨[],[],0⟩).S.length=i/\i<=(Vi (jc ws) i ⟨[],[],0⟩).w/\(Vi (jc ws) i ⟨[],[],0⟩).O.length<=i
 | 0=>⟨rfl,QW _,QW _⟩
 | i+1=>by
   obtain⟨a,b,c⟩:=vj ws i
   rw[Vi]
   generalize Vi (jc ws) i ⟨[],[],0⟩=x at a b c
   unfold jc Wa
   refine⟨by rw[O4,a];rfl,?_,?_⟩
   ·dsimp only
    split<;>omega
   ·rw[O4]
    have h1:(if wm ws x∈UY then x.O.dropLast else x.O).length<=x.O.length:=by
     split
     ·rw[Qr];omega
     ·exact QW _
    have h2:(if wm ws x∈Vq then[(x.S.length:Int)] else[]).length<=1:=by split<;>simp
    omega
theorem Bx {O:OB}(h:O≠[]):cy O (-1)=some (O.getLast?.getD (-1)):=by
 obtain⟨l,x,rfl⟩:∃l x,O=l++[x]:=⟨O.dropLast,O.getLast h,(P7 h).symm⟩
 unfold cy
 rw[show fg (l++[x]).length (-1)=some l.length by unfold fg;simp;omega]
 simp
theorem BQ {O:OB}(h:O≠[]):O[O.length-1]?=some (O.getLast?.getD (-1)):=by
 obtain⟨l,x,rfl⟩:∃l x,O=l++[x]:=⟨O.dropLast,O.getLast h,(P7 h).symm⟩
 simp
section
structure yD (P:RJ) (w:World) (K:Uk) (mg:Oz) (base:Heap) (C:Addr):Prop where
 cl:bF K C gR
 ex:∃fi WE,Mk K C fi/\dW P w K mg base d6 1 fi WE tK (wX (M5 C) K)/\Binds K WE tK []
 mg:mg "Step"=some (.ref C)
theorem Gf {X:Cx}{Γ Γ1:Ga}{C:Addr}{e:Expr}{es:OG}{p pos:Pos}{s:ay}(G:yD X.prog X.w X.K X.mg X.base C)(hr:bI 2 X.A)(ha:HA X (e::es) Γ [⟨ag,s.kind⟩,⟨ag,s.name⟩,⟨ah,s.word⟩,⟨ah,s.within⟩] Γ1)
 (hg:Gl X "Step":=by rfl) (he:RC (e::es) X.env=(false,eval e X.env)::RC es X.env:=by rfl) (Ve:(RM pos (RC es X.env)).any (·.1)=false:=by rfl):EV X (.Call (.Name "Step" p) (e::es) [] pos) Γ (bc C) s Γ1:=by
 obtain⟨fi,WE,MK,SI,bi⟩:=G.ex
 exact wL MK SI hr G.mg bi ha ⟨rfl,s,rfl,rfl⟩ (λfs R x dx vs hP h1 h2=>by subst hP;exact⟨x,dx,vs,rfl,h2,h1⟩) hg (by decide) he Ve
abbrev DU:Stmt:=top F8
abbrev MB:OC:=["text","words","steps","opened","word","kind","name"]
theorem HJ:aF MB ["text"] (ai DU):=Vk
def Nn (C:Addr):cP:=λK ps T=>∃(ws:OC) (n:Nat) (S:List ay),ps=[⟨ag,T9 " " ws⟩]/\ws≠[]/\ws.length<=240/\(∀w∈ws,fQ w)/\gc ws n ⟨[],[],0⟩ ⟨S,[],ws.length⟩/\T=bU K (ae (bc C)) (· =S)
theorem By {ws:OC}(h:∀w∈ws,fQ w)(hl:ws.length<=240):(T9 " " ws).length<=RE:=by
 have:=joinOk_length (vU hl h)
 rwa [w6] at this
theorem Li {C:Addr}(M:cH K mg)(M2:j6 K mg)(G:yD P w K mg base C)(CM:aH P w K mg base "may_stand" 1 (aN Nf K))(CN:aH P w K mg base "name_behind" 2 (aN M8 K))(Df:Def K mg "read" DU ["text"]):aH P w K mg base "read" 3 (aN (Nn C) K):=by
 have nd:=HJ.nd
 have Wf:Pt [("number":Str),"steps"]:=by decide
 have CM:=CM.mono (show 1<=2 by decide)
 refine bJ (k:=2) Df HJ (λf UX A outer s H E qs T hr hS=>?_)
 obtain⟨ws,n,S,rfl,U9,hl,hw,Yf,rfl⟩:=hS
 obtain⟨t,Xe⟩:=M2.nost
 have WU:Ub (T9 " " ws) " "=ws:=by
  rw[B4]
  exact yC U9 λw h=>(hw w h).f
 change WS _ _ [.im ag (T9 " " ws),.no,.no,.no,.no,.no,.no] _ _
 generalize hj:T9 " " ws=txt at WU
 have htl:txt.length<=RE:=by rw[← hj];exact By hw hl
 refine ak (a9 1 (y:=ws) (EV.cast (aZ.im (Bc (aa 0 rfl) aG (by decide +kernel) htl (by rw[WU];exact aK (by omega)))) WU) ?_)
 refine ak (cS 2 (r:=bc C) (ys:=[]) (aV aR (QY _)) ?_)
 refine ak (cS 3 (r:=ah) (ys:=[]) (aV aR (QY _)) ?_)
 refine ak (a9 4 (y:=(0:Int)) ev_int ?_)
 change WS _ _ [.im ag txt,.im (ae ag) ws,.mu (bc C) [],.mu ah [],ar 0,.no,.no] _ _
 have hinv:=vj ws
 have VF:∀i,Vi (jc ws) (i+1) ⟨[],[],0⟩=jc ws (Vi (jc ws) i ⟨[],[],0⟩):=λi=>rfl
 have h0:Vi (jc ws) 0 ⟨[],[],0⟩=⟨[],[],0⟩:=rfl
 obtain⟨VY,hrd⟩:=Yf
 generalize hx:(λi=>Vi (jc ws) i ⟨[],[],0⟩)=x at *
 have hxi:∀i,Vi (jc ws) i ⟨[],[],0⟩=x i:=λi=>by rw[← hx]
 simp only[hxi] at hinv VF h0 VY hrd
 refine bM (N1:=λΓ=>∃e5 e6,Γ=[.im ag txt,.im (ae ag) ws,.mu (bc C) S,.mu ah [],ar (ws.length:Int),e5,e6]) (lB (λk Γ=>∃i,k+i=n/\∃e5 e6,Γ=[.im ag txt,.im (ae ag) ws,.mu (bc C) (x i).S,.mu ah (x i).O,ar ((x i).w:Int),e5,e6]) (m0:=n) ⟨0,rfl,_,_,by rw[h0];rfl⟩ (λk Γ hI=>?_)) ?_
 ·obtain⟨i,hki,e5,e6,rfl⟩:=hI
  obtain⟨iS,iw,iO⟩:=hinv i
  refine⟨decide (((x i).w:Int)<(ws.length:Int)),_,aD lZ (aa 4 rfl) (eO M.len (aa 1 rfl)),λh=>?_,λh=>?_⟩
  ·have h:((x i).w:Int)<(ws.length:Int):=UM h
   have V6:i<n:=by
    rcases Q2 i n with z | z
    ·exact z
    ·exfalso
     have:i=n:=by omega
     rw[this,VY] at h
     exact UJ h (Int.lt_irrefl _)
   obtain⟨rw_,Ww,YT,ro⟩:=hrd i V6
   have hs:=VF i
   generalize x i=y at iS iw iO rw_ Ww YT ro hs h
   obtain⟨Sy,Oy,wy⟩:=y
   dsimp only at iS iw iO rw_ Ww YT ro h ⊢
   have VM:cy ws (wy:Int)=some (ws.getD wy ""):=aY (xs:=ws) (i:=(wy:Int)) "" (by omega) h
   refine ak (a9 5 (y:=ws.getD wy "") (bo (aa 1 rfl) (aa 4 rfl) VM) ?_)
   rw[show jc ws ⟨Sy,Oy,wy⟩=Wa (ws.getD wy "") (ws.getD (wy+1) "") ⟨Sy,Oy,wy⟩ from rfl] at hs
   change fD (ws.getD wy "") (Oy.map (aO Sy))=true at Ww
   change ws.getD wy ""∈named->wy+1<ws.length/\cF (ws.getD (wy+1) "") at YT
   generalize hkd:ws.getD wy ""=kd at Ww YT hs
   change WS _ _ [.im ag txt,.im (ae ag) ws,.mu (bc C) Sy,.mu ah Oy,ar (wy:Int),.im ag kd,e6] _ _
   have cc:(Oy.filter λ_=>true).map (aO Sy)=Oy.map (aO Sy):=by rw[PU.mpr λ_ _=>rfl]
   refine ak (bE (TV.VP (Gj (i:=2) (j:=3) (by decide) rfl rfl (aK (by omega)) (aK (by omega))) (hJ (eL (aE CM hr (aj (aa 5 rfl) (aj (aZ.im (bY (own:=["number"]) (fr:=["steps"]) (ix:=[2]) (ra:=ah) (rb:=ag) (p:=λ_=>true) (f:=aO Sy) (bK (so:=ai DU) (N0:=MB) rfl rfl (λx h=>bz h) (by decide +kernel)) (bX (aa 3 rfl))
    (λC s H ex=>aX 0) (λx=>⟨.inr rfl,.inl rfl,trivial⟩) (λC s H ex c hc=>dE) (λC' s H ex o ho _=>gv (C:=C) G.cl (bo (aa 1 rfl) (aa 0 rfl) (aY (xs:=Sy) (i:=o) c7 (ro o ho).1 (ro o ho).2))))) aw)) ⟨kd,Oy.map (aO Sy),by rw[cc],rfl⟩)))) (λhh=>?_) (λ_=>aW ?_))
   ·rw[Ww] at hh;cases hh
   have YD:kd∈named->wy+1<ws.length/\cF (ws.getD (wy+1) ""):=YT
   refine ak (a9 6 (y:=if kd∈named then ws.getD (wy+1) "" else "") (EV.cast (kj (aD j5 (aa 5 rfl) (gz M2.named)) (λhh=>aE CN hr (aj (aa 1 rfl) (aj (aa 4 rfl) aw)) ⟨ws,wy,rfl,(YD (UM hh)).1,(YD (UM hh)).2,rfl⟩) (λ_=>aG)) (by by_cases z:kd∈named<;>simp[z])) ?_)
   generalize hnam:(if kd∈named then ws.getD (wy+1) "" else "")=Xt
   change WS _ _ [.im ag txt,.im (ae ag) ws,.mu (bc C) Sy,.mu ah Oy,ar (wy:Int),.im ag kd,.im ag Xt] _ _
   have Zn:(if(!Oy.isEmpty)=true then Oy.getLast?.getD (-1) else -1)=Oy.getLast?.getD (-1):=by cases Oy<;>rfl
   refine ak (eY 2 (y:=(⟨kd,Xt,(wy:Int),Oy.getLast?.getD (-1)⟩:ay)) (Gf (s:=⟨kd,Xt,(wy:Int),Oy.getLast?.getD (-1)⟩) G hr (aj (aa 5 rfl) (aj (aa 6 rfl) (aj (aa 4 rfl) (aj (EV.cast (kj (kX 3 rfl) (λhh=>mD 3 (gO ev_int) rfl rfl (Bx (λz=>by rw[z] at hh;cases hh))) (λ_=>eG Xe)) Zn) aw))))) rfl rfl (QZ (show _<=1000 by omega) (by decide)) ?_)
   change WS _ _ [.im ag txt,.im (ae ag) ws,.mu (bc C) (Sy++[⟨kd,Xt,(wy:Int),Oy.getLast?.getD (-1)⟩]),.mu ah Oy,ar (wy:Int),.im ag kd,.im ag Xt] _ _
   have hS':(Wa kd (ws.getD (wy+1) "") ⟨Sy,Oy,wy⟩).S=Sy++[⟨kd,Xt,(wy:Int),Oy.getLast?.getD (-1)⟩]:=by unfold Wa n5;dsimp only;rw[hnam]
   rw[← hS']
   have hSl:(Wa kd (ws.getD (wy+1) "") ⟨Sy,Oy,wy⟩).S.length=Sy.length+1:=by rw[hS',O4];rfl
   have hOe:(Wa kd (ws.getD (wy+1) "") ⟨Sy,Oy,wy⟩).O=(if kd∈UY then Oy.dropLast else Oy)++(if kd∈Vq then[(Sy.length:Int)] else[]):=rfl
   have hwe:(Wa kd (ws.getD (wy+1) "") ⟨Sy,Oy,wy⟩).w=wy+(if kd∈named then 2 else 1):=rfl
   generalize Wa kd (ws.getD (wy+1) "") ⟨Sy,Oy,wy⟩=z at hs hS' hSl hOe hwe
   refine bM (N1:=λΓ=>Γ=[.im ag txt,.im (ae ag) ws,.mu (bc C) z.S,.mu ah (if kd∈UY then Oy.dropLast else Oy),ar (wy:Int),.im ag kd,.im ag Xt]) (bE (aD j5 (aa 5 rfl) (gz M2.UY)) (λhh=>?_) (λhh=>aW ?_)) ?_
   ·have hh:kd∈UY:=UM hh
    have hOne:Oy≠[]:=λe=>by
     rw[e] at Ww
     have:kd="part":=UM Ww
     rw[this] at hh
     exact UJ hh (by decide +kernel)
    refine ao (mF (uN 3 rfl (BQ hOne)) ?_)
    rw[UL hh];rfl
   ·have hh:¬kd∈UY:=UN hh
    rw[UK hh]
   rintro _ rfl
   have hOl:(if kd∈UY then Oy.dropLast else Oy).length<=Oy.length:=by
    split
    ·rw[Qr];omega
    ·exact QW _
   generalize (if kd∈UY then Oy.dropLast else Oy)=O1 at hOe hOl
   refine bM (N1:=λΓ=>Γ=[.im ag txt,.im (ae ag) ws,.mu (bc C) z.S,.mu ah z.O,ar (wy:Int),.im ag kd,.im ag Xt]) (bE (aD j5 (aa 5 rfl) (gz M2.Vq)) (λhh=>?_) (λhh=>aW ?_)) ?_
   ·have hh:kd∈Vq:=UM hh
    refine ao (eY 3 (EV.cast (y':=(Sy.length:Int)) (gm (wA 2 M.len rfl) ev_int) (by omega)) rfl rfl (QZ (show _<=1000 by omega) (by decide)) ?_)
    rw[hOe,UL hh];rfl
   ·have hh:¬kd∈Vq:=UN hh
    rw[hOe,UK hh,Px]
   rintro _ rfl
   refine ao (yR 4 (c:=if kd∈named then 2 else 1) (EV.cast (kj (aD j5 (aa 5 rfl) (gz M2.named)) (λ_=>ev_int) (λ_=>ev_int)) (by by_cases z:kd∈named<;>simp[z])) rfl ⟨k-1,by omega,i+1,by omega,.im ag kd,.im ag Xt,?_⟩)
   rw[hs,hwe]
   by_cases q:kd∈named
   ·rw[UL q,UL q];rfl
   ·rw[UK q,UK q];rfl
  ·have h:¬((x i).w:Int)<(ws.length:Int):=UN h
   have V6:i=n:=by
    rcases Q2 i n with z | z
    ·exact UJ (by have:=(hrd i z).w;omega) h
    ·omega
   subst V6
   refine⟨e5,e6,?_⟩
   rw[VY]
 rintro _ ⟨e5,e6,rfl⟩
 have hSn:S.length<=240:=by
  obtain⟨a,b,c⟩:=hinv n
  rw[VY] at a b
  dsimp only at a b
  omega
 refine ak (bE (kX 3 rfl) (λhh=>by cases hh) (λ_=>aW ?_))
 refine WS.freeze 2 rfl (aK (by omega)) ?_
 exact ao (a8 (aa 2 rfl) rfl)
end
theorem ru {A:RL}{k:Nat}(hr:bI k A):A.units+1<cLine:=by have:=hr.units;omega
def fV (F:OH)(z:Int×ay):OH:=if z.2.kind∈UY then lR F z.2.within z.1 else F
def dI (S:List ay):OH:=(nums S).foldl fV []
theorem C6 {F:OH}{z:Int×ay}:(fV F z).length<=F.length+1:=by
 unfold fV
 split
 ·exact BD _ _ _
 ·omega
theorem Hm (S:List ay)(i:Nat):(((nums S).take i).foldl fV []).length<=i:=by
 induction i with
 | zero=>exact QW _
 | succ i ih=>
   rw[PJ,Qh]
   cases e:(nums S)[i]? with
   | none=>exact Nat.le_succ_of_le ih
   | some z=>
     show(fV _ z).length<=_
     exact QX C6 (by omega)
abbrev ck (S:List ay)(o:Int):Int:=(S.getD o.toNat c7).within
def Ar (S:List ay)(n:Int)(kd:Str)(a:Int):Prop:=∃k:Nat,Vi (ck S) k (ck S n)=a/\(∀j,j<=k->0<=Vi (ck S) j (ck S n)/\Vi (ck S) j (ck S n)<(S.length:Int))/\(∀j,j<k->aO S (Vi (ck S) j (ck S n))≠kd)/\aO S a=kd
inductive d8 (S:List ay) (F:OH) (n:Int):OB->Prop
 | row {c:Int} (h:aO S n="if"∨aO S n="while") (hc:bA F n=some c):d8 S F n [n+1,c+1]
 | X0 {c:Int} (h:aO S n="else") (hc:bA F n=some c):d8 S F n [c]
 | XJ {a c:Int} (h:aO S n="leave") (ha:Ar S n "while" a) (hc:bA F a=some c):d8 S F n [c+1]
 | X2 {a c:Int} (h:aO S n="back") (ha:Ar S n "part" a) (hc:bA F a=some c):d8 S F n [c]
 | XY (h:aO S n="end") (h0:0<=ck S n) (h1:ck S n<(S.length:Int)) (hk:aO S (ck S n)="while"):d8 S F n [ck S n]
 | XD (h:aO S n="end") (h0:0<=ck S n) (h1:ck S n<(S.length:Int)) (hk:aO S (ck S n)="part"):d8 S F n []
 | XZ (h:aO S n="end") (h0:0<=ck S n) (h1:ck S n<(S.length:Int)) (hk:aO S (ck S n)="else"):d8 S F n [n+1]
 | Xj (h:aO S n="part"∨aO S n="do"∨aO S n="call"):d8 S F n [n+1]
section
variable {C:Addr}
abbrev Gu:Stmt:=top oE
abbrev nCS:OC:=["steps","closing","number","step"]
theorem GD:aF nCS ["steps"] (ai Gu):=Vk
def Hq (C:Addr):cP:=λK ps T=>∃S:List ay,ps=[⟨ae (bc C),S⟩]/\S.length<=1000/\T=bU K iW (· =dI S)
theorem Mh (M:cH K mg)(M2:j6 K mg)(HC:bF K C gR)(Df:Def K mg "closing_steps" Gu ["steps"]):aH P w K mg base "closing_steps" 1 (aN (Hq C) K):=by
 have nd:=GD.nd
 refine bJ Df GD (λf UX A outer s H E qs T hr hS=>?_)
 obtain⟨S,rfl,hl,rfl⟩:=hS
 change WS _ _ [.im (ae (bc C)) S,.no,.no,.no] _ _
 refine ak (qE 1 ?_)
 refine bM (N1:=λΓ=>∃e2 e3,Γ=[.im (ae (bc C)) S,.di (cR (dI S)),e2,e3]) (cJ (λi Γ=>∃e2 e3,Γ=[.im (ae (bc C)) S,.di (cR (((nums S).take i).foldl fV [])),e2,e3]) (iz M.enumerate (aa 0 rfl)) (fO 2 3) ⟨_,_,rfl⟩ (λi z Γ hz hΓ=>?_) (λΓ hΓ=>?_)) ?_
 ·obtain⟨e2,e3,rfl⟩:=hΓ
  obtain⟨n,st⟩:=z
  have fl:=Hm S i
  have il:i<S.length:=by have:=(OW.mp hz).1;rwa [cK] at this
  have V5:((nums S).take (i+1)).foldl fV []=fV (((nums S).take i).foldl fV []) (n,st):=by rw[PJ,hz,Qh];rfl
  rw[V5]
  generalize ((nums S).take i).foldl fV []=Fd at fl
  change WS _ _ [.im (ae (bc C)) S,.di (cR Fd),ar n,.im (bc C) st] _ _
  refine ao (bE (aD j5 (gv (C:=C) HC (aa 3 rfl)) (gz M2.UY)) (λh=>?_) (λh=>aW ⟨ar n,.im (bc C) st,?_⟩))
  ·have h:st.kind∈UY:=UM h
   refine ao (Js 1 (ru hr) (pX (C:=C) HC (aa 3 rfl)) (aa 2 rfl) rfl (QZ (show _<=1000 by omega) (by decide)) ⟨ar n,.im (bc C) st,?_⟩)
   unfold fV;rw[UL h];rfl
  ·have h:¬st.kind∈UY:=UN h
   unfold fV;rw[UK h]
 ·obtain⟨e2,e3,rfl⟩:=hΓ
  refine⟨e2,e3,?_⟩
  rw[PK];rfl
 rintro _ ⟨e2,e3,rfl⟩
 exact ao (wG 1 rfl rfl)
abbrev Hg:Stmt:=top zQ
abbrev nAR:OC:=["steps","number","kind","found"]
theorem He:aF nAR ["steps","number","kind"] (ai Hg):=Vk
def Nj (C:Addr):cP:=λK ps T=>∃(S:List ay) (n a:Int) (kd:Str),ps=[⟨ae (bc C),S⟩,⟨ah,n⟩,⟨ag,kd⟩]/\0<=n/\n<(S.length:Int)/\Ar S n kd a/\T=bU K ah (· =a)
theorem K5 (HC:bF K C gR)(Df:Def K mg "around" Hg ["steps","number","kind"]):aH P w K mg base "around" 1 (aN (Nj C) K):=by
 have nd:=He.nd
 refine bJ Df He (λf UX A outer s H E qs T hr hS=>?_)
 obtain⟨S,n,a,kd,rfl,n0,n1,⟨k,ha,V6,U9,hk⟩,rfl⟩:=hS
 change WS _ _ [.im (ae (bc C)) S,ar n,.im ag kd,.no] _ _
 refine ak (a9 3 (y:=ck S n) (pX (C:=C) HC (bo (aa 0 rfl) (aa 1 rfl) (aY (xs:=S) (i:=n) c7 n0 n1))) ?_)
 refine bM (N1:=λΓ=>Γ=[.im (ae (bc C)) S,ar n,.im ag kd,ar a]) (lB (λm Γ=>∃i,m+i=k/\Γ=[.im (ae (bc C)) S,ar n,.im ag kd,ar (Vi (ck S) i (ck S n))]) (m0:=k) ⟨0,rfl,rfl⟩ (λm Γ hI=>?_)) ?_
 ·obtain⟨i,hi,rfl⟩:=hI
  obtain⟨o0,o1⟩:=V6 i (by omega)
  have hs:Vi (ck S) (i+1) (ck S n)=ck S (Vi (ck S) i (ck S n)):=rfl
  have Zh:=U9 i
  have hki:i=k->aO S (Vi (ck S) i (ck S n))=kd/\Vi (ck S) i (ck S n)=a:=λe=>by rw[e,ha];exact⟨hk,rfl⟩
  generalize Vi (ck S) i (ck S n)=o at o0 o1 hs Zh hki
  refine⟨!decide (aO S o=kd),_,aD DM (gv (C:=C) HC (bo (aa 0 rfl) (aa 3 rfl) (aY (xs:=S) (i:=o) c7 o0 o1))) (aa 2 rfl),λh=>?_,λh=>?_⟩
  ·have h:¬aO S o=kd:=by simpa using h
   have ik:i<k:=by
    rcases Q2 i k with z | z
    ·exact z
    ·exact UJ (hki (by omega)).1 h
   exact ao (a9 3 (pX (C:=C) HC (bo (aa 0 rfl) (aa 3 rfl) (aY (xs:=S) (i:=o) c7 o0 o1))) ⟨m-1,by omega,i+1,by omega,by rw[hs];rfl⟩)
  ·have h:aO S o=kd:=by simpa using h
   have ik:i=k:=by
    rcases Q2 i k with z | z
    ·exact UJ h (Zh z)
    ·omega
   rw[(hki ik).2]
 rintro _ rfl
 exact ao (a8 (aa 3 rfl) rfl)
abbrev Jo:Stmt:=top sf
abbrev nLF:OC:=["steps","closing","number","kind","ended"]
abbrev ML:OC:=["steps","closing","number"]
theorem Kv:aF nLF ML (ai Jo):=Vk
def Mv (C:Addr):cP:=λK ps T=>∃(S:List ay) (F:OH) (n:Int) (ls:OB),ps=[⟨ae (bc C),S⟩,⟨iW,F⟩,⟨ah,n⟩]/\0<=n/\n<(S.length:Int)/\d8 S F n ls/\T=bU K (ae ah) (· =ls)
def xf (S:List ay)(n:Int):Str:=if aO S n="end" then aO S (ck S n) else ""
theorem Mi (HC:bF K C gR)(CA:aH P w K mg base "around" 1 (aN (Nj C) K))(Df:Def K mg "leads_from" Jo ML):aH P w K mg base "leads_from" 2 (aN (Mv C) K):=by
 have nd:=Kv.nd
 refine bJ Df Kv (λf UX A outer s H E qs T hr hS=>?_)
 obtain⟨S,Fd,n,ls,rfl,n0,n1,hL,rfl⟩:=hS
 have hu:=ru hr
 have VM:cy S n=some (S.getD n.toNat c7):=aY (xs:=S) (i:=n) c7 n0 n1
 have hen:aO S n="end"->0<=ck S n/\ck S n<(S.length:Int):=λh=>by
  cases hL with
  | row g hc=>rcases g with g | g<;>rw[g] at h<;>exact UJ h (by decide +kernel)
  | X0 g hc=>rw[g] at h;exact UJ h (by decide +kernel)
  | XJ g ha hc=>rw[g] at h;exact UJ h (by decide +kernel)
  | X2 g ha hc=>rw[g] at h;exact UJ h (by decide +kernel)
  | XY g h0 h1 hk=>exact⟨h0,h1⟩
  | XD g h0 h1 hk=>exact⟨h0,h1⟩
  | XZ g h0 h1 hk=>exact⟨h0,h1⟩
  | Xj g=>rcases g with g | g | g<;>rw[g] at h<;>exact UJ h (by decide +kernel)
 change WS _ _ [.im (ae (bc C)) S,.im iW Fd,ar n,.no,.no] _ _
 refine ak (a9 3 (y:=aO S n) (gv (C:=C) HC (bo (aa 0 rfl) (aa 2 rfl) VM)) ?_)
 refine ak (a9 4 (y:=xf S n) (EV.cast (kj (x:=aO S (ck S n)) (aD cM (aa 3 rfl) aG) (λh=>gv (C:=C) HC (bo (aa 0 rfl) (pX (C:=C) HC (bo (aa 0 rfl) (aa 2 rfl) VM)) (aY (xs:=S) (i:=ck S n) c7 (hen (UM h)).1 (hen (UM h)).2))) (λ_=>aG)) (by unfold xf;by_cases h:aO S n="end"<;>simp[h])) ?_)
 change WS _ _ [.im (ae (bc C)) S,.im iW Fd,ar n,.im ag (aO S n),.im ag (xf S n)] _ _
 have en0:aO S n≠"end"->xf S n="":=λh=>UK h
 have YK:aO S n="end"->xf S n=aO S (ck S n):=λh=>UL h
 generalize hE:xf S n=ed at en0 YK
 have one_le:(1:Nat)<=RE:=by decide
 refine ak (bE (aD j5 (aa 3 rfl) (wB (xs:=["if","while"]) (ax (EV.pS aG) (ax (EV.pS aG) aR)) (by show 2<=RE;decide))) (λh=>?_) (λh=>aW ?_))
 ·have h:aO S n∈(["if","while"]:OC):=UM h
  cases hL with
  | row g hc=>exact ao (a8 (aZ.im (aV (r:=ah) (ax (cv (aa 2 rfl) ev_int) (ax (cv (jF hu (aa 1 rfl) (aa 2 rfl) hc) ev_int) aR)) (by show 2<=RE;decide))) rfl)
  | X0 g hc=>rw[g] at h;exact UJ h (by decide +kernel)
  | XJ g ha hc=>rw[g] at h;exact UJ h (by decide +kernel)
  | X2 g ha hc=>rw[g] at h;exact UJ h (by decide +kernel)
  | XY g h0 h1 hk=>rw[g] at h;exact UJ h (by decide +kernel)
  | XD g h0 h1 hk=>rw[g] at h;exact UJ h (by decide +kernel)
  | XZ g h0 h1 hk=>rw[g] at h;exact UJ h (by decide +kernel)
  | Xj g=>rcases g with g | g | g<;>rw[g] at h<;>exact UJ h (by decide +kernel)
 have h1:¬aO S n∈(["if","while"]:OC):=UN h
 refine ak (bE (aD cM (aa 3 rfl) aG) (λh=>?_) (λh=>aW ?_))
 ·have h:aO S n="else":=UM h
  cases hL with
  | row g hc=>rcases g with g | g<;>rw[g] at h<;>exact UJ h (by decide +kernel)
  | X0 g hc=>exact ao (a8 (aZ.im (aV (r:=ah) (ax (jF hu (aa 1 rfl) (aa 2 rfl) hc) aR) one_le)) rfl)
  | XJ g ha hc=>rw[g] at h;exact UJ h (by decide +kernel)
  | X2 g ha hc=>rw[g] at h;exact UJ h (by decide +kernel)
  | XY g h0 h1 hk=>rw[g] at h;exact UJ h (by decide +kernel)
  | XD g h0 h1 hk=>rw[g] at h;exact UJ h (by decide +kernel)
  | XZ g h0 h1 hk=>rw[g] at h;exact UJ h (by decide +kernel)
  | Xj g=>rcases g with g | g | g<;>rw[g] at h<;>exact UJ h (by decide +kernel)
 have h2:¬aO S n="else":=UN h
 refine ak (bE (aD cM (aa 3 rfl) aG) (λh=>?_) (λh=>aW ?_))
 ·have h:aO S n="leave":=UM h
  cases hL with
  | row g hc=>rcases g with g | g<;>rw[g] at h<;>exact UJ h (by decide +kernel)
  | X0 g hc=>rw[g] at h;exact UJ h (by decide +kernel)
  | XJ g ha hc=>exact ao (a8 (aZ.im (aV (r:=ah) (ax (cv (jF hu (aa 1 rfl) (aE CA hr (aj (aa 0 rfl) (aj (aa 2 rfl) (aj aG aw))) ⟨S,n,_,_,rfl,n0,n1,ha,rfl⟩) hc) ev_int) aR) one_le)) rfl)
  | X2 g ha hc=>rw[g] at h;exact UJ h (by decide +kernel)
  | XY g h0 h1 hk=>rw[g] at h;exact UJ h (by decide +kernel)
  | XD g h0 h1 hk=>rw[g] at h;exact UJ h (by decide +kernel)
  | XZ g h0 h1 hk=>rw[g] at h;exact UJ h (by decide +kernel)
  | Xj g=>rcases g with g | g | g<;>rw[g] at h<;>exact UJ h (by decide +kernel)
 have h3:¬aO S n="leave":=UN h
 refine ak (bE (aD cM (aa 3 rfl) aG) (λh=>?_) (λh=>aW ?_))
 ·have h:aO S n="back":=UM h
  cases hL with
  | row g hc=>rcases g with g | g<;>rw[g] at h<;>exact UJ h (by decide +kernel)
  | X0 g hc=>rw[g] at h;exact UJ h (by decide +kernel)
  | XJ g ha hc=>rw[g] at h;exact UJ h (by decide +kernel)
  | X2 g ha hc=>exact ao (a8 (aZ.im (aV (r:=ah) (ax (jF hu (aa 1 rfl) (aE CA hr (aj (aa 0 rfl) (aj (aa 2 rfl) (aj aG aw))) ⟨S,n,_,_,rfl,n0,n1,ha,rfl⟩) hc) aR) one_le)) rfl)
  | XY g h0 h1 hk=>rw[g] at h;exact UJ h (by decide +kernel)
  | XD g h0 h1 hk=>rw[g] at h;exact UJ h (by decide +kernel)
  | XZ g h0 h1 hk=>rw[g] at h;exact UJ h (by decide +kernel)
  | Xj g=>rcases g with g | g | g<;>rw[g] at h<;>exact UJ h (by decide +kernel)
 have h4:¬aO S n="back":=UN h
 have Xe:∀{k:Str},k≠""->aO S n≠"end"->ed≠k:=λhk h z=>hk (by rw[← z,en0 h])
 refine ak (bE (aD cM (aa 4 rfl) aG) (λh=>?_) (λh=>aW ?_))
 ·have h:ed="while":=UM h
  cases hL with
  | row g hc=>exact UJ h (Xe (by decide +kernel) (by rcases g with g | g<;>rw[g]<;>decide +kernel))
  | X0 g hc=>exact UJ g h2
  | XJ g ha hc=>exact UJ g h3
  | X2 g ha hc=>exact UJ g h4
  | XY g h0 h1 hk=>exact ao (a8 (aZ.im (aV (r:=ah) (ax (pX (C:=C) HC (bo (aa 0 rfl) (aa 2 rfl) VM)) aR) one_le)) rfl)
  | XD g h0 h1 hk=>rw[YK g,hk] at h;exact UJ h (by decide +kernel)
  | XZ g h0 h1 hk=>rw[YK g,hk] at h;exact UJ h (by decide +kernel)
  | Xj g=>exact UJ h (Xe (by decide +kernel) (by rcases g with g | g | g<;>rw[g]<;>decide +kernel))
 have h5:¬ed="while":=UN h
 cases hL with
 | row g hc=>exact UJ (by rcases g with g | g<;>rw[g]<;>decide +kernel) h1
 | X0 g hc=>exact UJ g h2
 | XJ g ha hc=>exact UJ g h3
 | X2 g ha hc=>exact UJ g h4
 | XY g h0 h1 hk=>exact UJ ((YK g).trans hk) h5
 | XD g h0 h1 hk=>
   have e:ed="part":=(YK g).trans hk
   exact ao (a8 (y:=([]:OB)) (EV.cast (kj (y:=([]:OB)) (aD cM (aa 4 rfl) aG) (λ_=>aZ.im (aV (r:=ah) aR (QY _))) (λh=>UJ e (UN h))) (by split<;>rfl)) rfl)
 | XZ g h0 h1 hk=>
   have e:ed≠"part":=by rw[YK g,hk];decide +kernel
   exact ao (a8 (y:=[n+1]) (EV.cast (kj (x:=[n+1]) (aD cM (aa 4 rfl) aG) (λh=>UJ (UM h) e) (λ_=>aZ.im (aV (r:=ah) (ax (cv (aa 2 rfl) ev_int) aR) one_le))) (by split<;>rfl)) rfl)
 | Xj g=>
   have e:ed≠"part":=Xe (by decide +kernel) (by rcases g with g | g | g<;>rw[g]<;>decide +kernel)
   exact ao (a8 (y:=[n+1]) (EV.cast (kj (x:=[n+1]) (aD cM (aa 4 rfl) aG) (λh=>UJ (UM h) e) (λ_=>aZ.im (aV (r:=ah) (ax (cv (aa 2 rfl) ev_int) aR) one_le))) (by split<;>rfl)) rfl)
abbrev D5:Stmt:=top vL
abbrev Np:OC:=["steps","closing"]
theorem Ke:aF Np ["steps"] (ai D5):=Vk
def ye (S:List ay)(Ld:List OB):Prop:=Ld.length=S.length/\∀n:Nat,n<S.length->d8 S (dI S) (n:Int) (Ld.getD n [])
def Nd (C:Addr):cP:=λK ps T=>∃(S:List ay) (Ld:List OB),ps=[⟨ae (bc C),S⟩]/\S.length<=1000/\ye S Ld/\T=bU K (ae (ae ah)) (· =Ld)
theorem Cs (Ld:List OB):((ups 0 Ld.length).filter λ_=>true).map (λn=>Ld.getD n.toNat [])=Ld:=by
 rw[PU.mpr λ_ _=>rfl]
 refine PX λi=>?_
 unfold ups
 rw[O5,O5]
 rcases Q2 i Ld.length with h | h
 ·rw[P1 h,OX h]
  show some (Ld.getD (0+(i:Int)).toNat [])=_
  rw[show(0+(i:Int)).toNat=i by omega,OY,OX h];rfl
 ·rw[Po (by simpa using h),Po h];rfl
theorem Ll (M:cH K mg)(CC:aH P w K mg base "closing_steps" 1 (aN (Hq C) K))(CF:aH P w K mg base "leads_from" 2 (aN (Mv C) K))(Df:Def K mg "leads_in" D5 ["steps"]):aH P w K mg base "leads_in" 3 (aN (Nd C) K):=by
 have nd:=Ke.nd
 have Wf:Pt [("number":Str),"steps","closing"]:=by decide
 have CC:=CC.mono (show 1<=2 by decide)
 refine bJ (k:=2) Df Ke (λf UX A outer s H E qs T hr hS=>?_)
 obtain⟨S,Ld,rfl,hl,⟨Xl,hL⟩,rfl⟩:=hS
 change WS _ _ [.im (ae (bc C)) S,.no] _ _
 refine ak (a9 1 (y:=dI S) (aE CC hr (aj (aa 0 rfl) aw) ⟨S,rfl,hl,rfl⟩) ?_)
 change WS _ _ [.im (ae (bc C)) S,.im iW (dI S)] _ _
 have cc:=Cs Ld
 rw[Xl] at cc
 refine ao (a8 (aZ.im (bY (own:=["number"]) (fr:=["steps","closing"]) (ix:=[0,1]) (ra:=ah) (rb:=ae ah) (p:=λ_=>true) (f:=λn=>Ld.getD n.toNat []) (bK (so:=ai D5) (N0:=Np) rfl rfl (λx h=>bz h) (by decide +kernel)) (dD M.range (eO M.len (aa 0 rfl)) ⟨by omega,by omega⟩)
  (λC s H ex=>aX 0) (λx=>⟨.inr rfl,.inl rfl,.inl rfl,trivial⟩) (λC s H ex c hc=>dE) (λC' s H ex o ho _=>?_))) ?_)
 ·obtain⟨i,hi⟩:=Pf.mp ho
  obtain⟨il,rfl⟩:=fm hi
  have il:i<S.length:=by omega
  have:=hL i il
  rw[show(i:Int)=0+(i:Int) by omega] at this
  exact aE CF hr (aj (aa 1 rfl) (aj (aa 2 rfl) (aj (aa 0 rfl) aw))) ⟨S,dI S,0+(i:Int),_,rfl,by omega,by omega,by rw[show(0+(i:Int)).toNat=i by omega];exact this,rfl⟩
 ·rw[show((S.length:Int)).toNat=S.length by omega]
  exact cc
abbrev Dp:Stmt:=top vK
abbrev Nb:OC:=["steps","closing"]
theorem IA:aF Nb ["steps"] (ai Dp):=Vk
abbrev gg:=Str×Int×Int
def j3 (p:gg):PV:=.tup [.str p.1,.int p.2.1,.int p.2.2]
def HX (z:Int×ay):Bool:=decide (z.2.kind="part")
def JK (S:List ay)(z:Int×ay):gg:=(z.2.name,z.1,(bA (dI S) z.1).getD 0)
def cG (S:List ay):List gg:=((nums S).filter HX).map (JK S)
def Nq (C:Addr):cP:=λK ps T=>∃S:List ay,ps=[⟨ae (bc C),S⟩]/\S.length<=1000/\(∀n:Nat,n<S.length->aO S (n:Int)="part"->(bA (dI S) (n:Int)).isSome)/\T=bU K (ae aI) (· =(cG S).map j3)
theorem nv {S:List ay}{z:Int×ay}(h:z∈nums S):∃n:Nat,n<S.length/\z.1=(n:Int)/\S.getD n c7=z.2:=by
 obtain⟨i,hi⟩:=Pf.mp h
 obtain⟨e1,e2⟩:=eJ hi
 exact⟨i,(OW.mp e2).1,e1,by rw[OY,e2];rfl⟩
theorem Ma (M:cH K mg)(HC:bF K C gR)(CC:aH P w K mg base "closing_steps" 1 (aN (Hq C) K))(Df:Def K mg "parts_in" Dp ["steps"]):aH P w K mg base "parts_in" 2 (aN (Nq C) K):=by
 have nd:=IA.nd
 have Wf:Pt [("number":Str),"step","closing"]:=by decide
 refine bJ (k:=1) Df IA (λf UX A outer s H E qs T hr hS=>?_)
 obtain⟨S,rfl,hl,hp,rfl⟩:=hS
 change WS _ _ [.im (ae (bc C)) S,.no] _ _
 refine ak (a9 1 (y:=dI S) (aE CC hr (aj (aa 0 rfl) aw) ⟨S,rfl,hl,rfl⟩) ?_)
 change WS _ _ [.im (ae (bc C)) S,.im iW (dI S)] _ _
 refine ao (a8 (aZ.im (bY (own:=["number","step"]) (fr:=["closing"]) (ix:=[1]) (ra:=eE ah (bc C)) (rb:=aI) (p:=HX) (f:=λz=>j3 (JK S z)) (bK (so:=ai Dp) (N0:=Nb) rfl rfl (λx h=>bz h) (by decide +kernel)) (iz M.enumerate (aa 0 rfl))
  (λC s H ex=>fO 0 1) (λx=>⟨.inr rfl,.inr rfl,.inl rfl,trivial⟩) (λC' s H ex z hz=>?_) (λC' s H ex z hz hpz=>?_))) ?_)
 ·exact hX (aD cM (gv (C:=C) HC (aa 1 rfl)) aG)
 ·obtain⟨n,nl,e1,e2⟩:=nv hz
  have hk:aO S (n:Int)="part":=by
   unfold aO
   rw[show((n:Nat):Int).toNat=n by omega,e2]
   exact UM hpz
  have hs:=hp n nl hk
  rw[← e1] at hs
  have hc:bA (dI S) z.1=some ((bA (dI S) z.1).getD 0):=by
   cases q:bA (dI S) z.1 with
   | none=>rw[q] at hs;cases hs
   | some c=>rfl
  exact gG (ax (EV.pS (qk (C:=C) HC (aa 1 rfl))) (ax (EV.pI (aa 0 rfl)) (ax (EV.pI (jF (ru hr) (aa 2 rfl) (aa 0 rfl) hc)) aR))) (by show 3<=RE;decide)
 ·unfold cG
  rw[PQ];rfl
end
abbrev dg:List (Str×OC):=[("do",["do"]),("call",["call"]),("if",["yes","no"]),("while",["yes","no"])]
def aP (k:Str):Bool:=(cn dg k).isSome
def oQ (S:List ay)(Ld:List OB)(td:OB)(n:Int):OB:=
 if(Ld.getD n.toNat []).isEmpty=false/\aP (aO S n)=false then td.set n.toNat (td.getD ((Ld.getD n.toNat []).getD 0 0).toNat 0) else td
theorem EJ {S:List ay}{Ld:List OB}{td:OB}{n:Int}:(oQ S Ld td n).length=td.length:=by
 unfold oQ;split
 ·rw[PN]
 ·rfl
def WH (S:List ay)(Ld:List OB)(i:Nat):OB:=((downs ((S.length:Int)-1) S.length).take i).foldl (oQ S Ld) (ups 0 S.length)
theorem jL {S:List ay}{Ld:List OB}{i:Nat}(h:i<S.length):WH S Ld (i+1)=oQ S Ld (WH S Ld i) ((S.length:Int)-1-(i:Int)):=by
 have hd:(downs ((S.length:Int)-1) S.length)[i]?=some ((S.length:Int)-1-(i:Int)):=by
  unfold downs
  rw[O5,P1 h];rfl
 unfold WH
 rw[PJ,hd,Qh];rfl
theorem jt {S:List ay}{Ld:List OB}:∀i,i<=S.length->(WH S Ld i).length=S.length
 | 0,_=>ba _ _
 | i+1,h=>by rw[jL h,EJ];exact jt i (by omega)
abbrev aQ (S:List ay)(Ld:List OB):OB:=WH S Ld S.length
def vF (S:List ay)(Ld:List OB):Prop:=Ld.length=S.length/\∀ls∈Ld,∀l∈ls,0<=l/\l<(S.length:Int)
section
variable {C:Addr}
abbrev Hy:Stmt:=top uZ
abbrev nST:OC:=["steps","leads","told","number"]
theorem IL:aF nST ["steps","leads"] (ai Hy):=Vk
def Mu (C:Addr):cP:=λK ps T=>∃(S:List ay) (Ld:List OB),ps=[⟨ae (bc C),S⟩,⟨ae (ae ah),Ld⟩]/\S.length<=1000/\vF S Ld/\T=bU K (ae ah) (· =aQ S Ld)
theorem LL (M:cH K mg)(HC:bF K C gR)(RW:lT P w K mg "ROW_WORDS" dg)(Df:Def K mg "stands_in" Hy ["steps","leads"]):aH P w K mg base "stands_in" 1 (aN (Mu C) K):=by
 have nd:=IL.nd
 refine bJ Df IL (λf UX A outer s H E qs T hr hS=>?_)
 obtain⟨S,Ld,rfl,hl,⟨Xl,V6⟩,rfl⟩:=hS
 change WS _ _ [.im (ae (bc C)) S,.im (ae (ae ah)) Ld,.no,.no] _ _
 refine ak (cS 2 (r:=ah) (ys:=ups 0 S.length) (aZ.cst (sg M.list M.range (eO M.len (aa 0 rfl)) ⟨by omega,by omega⟩) (by rw[show((S.length:Int)).toNat=S.length by omega])) ?_)
 refine bM (N1:=λΓ=>∃e3,Γ=[.im (ae (bc C)) S,.im (ae (ae ah)) Ld,.mu ah (aQ S Ld),e3]) (cJ (λi Γ=>∃e3,Γ=[.im (ae (bc C)) S,.im (ae (ae ah)) Ld,.mu ah (WH S Ld i),e3]) (Bd M.range (aj (gm (eO M.len (aa 0 rfl)) ev_int) (aj (gO ev_int) (aj (gO ev_int) aw))) ⟨by omega,by omega,by omega,by omega⟩) (aX 3) ⟨_,rfl⟩ (λi n Γ hn hΓ=>?_) (λΓ hΓ=>?_)) ?_
 ·obtain⟨e3,rfl⟩:=hΓ
  obtain⟨il,rfl⟩:=tL hn
  have il:i<S.length:=by omega
  rw[jL il]
  have tl:=jt (S:=S) (Ld:=Ld) i (by omega)
  generalize WH S Ld i=td at tl
  generalize hnn:(S.length:Int)-1-(i:Int)=n
  have n0:0<=n:=by omega
  have n1:n<(S.length:Int):=by omega
  change WS _ _ [.im (ae (bc C)) S,.im (ae (ae ah)) Ld,.mu ah td,ar n] _ _
  have VM:cy Ld n=some (Ld.getD n.toNat []):=aY (xs:=Ld) (i:=n) [] n0 (by omega)
  have WW:Ld.getD n.toNat []∈Ld:=by
   rw[OY,OX (show n.toNat<Ld.length by omega)]
   exact PD _
  refine ao (bE (TW.tv (c6 (tO (bo (aa 1 rfl) (aa 3 rfl) VM)) (λ_=>ee (Am RW (gv (C:=C) HC (bo (aa 0 rfl) (aa 3 rfl) (aY (xs:=S) (i:=n) c7 n0 n1))))))) (λh=>?_) (λh=>aW ⟨ar n,?_⟩))
  ·have h:(Ld.getD n.toNat []).isEmpty=false/\aP (aO S n)=false:=by simpa[aP,aO] using h
   have Zk:=V6 _ WW
   obtain⟨l,r,hlr⟩:∃l r,Ld.getD n.toNat []=l::r:=by
    cases e:Ld.getD n.toNat [] with
    | nil=>rw[e] at h;exact UJ h.1 (by decide)
    | cons l r=>exact⟨l,r,rfl⟩
   have e0:(Ld.getD n.toNat []).getD 0 0=l:=by rw[hlr];rfl
   have hl0:cy (Ld.getD n.toNat []) 0=some l:=by rw[hlr,pQ (by decide) (by simp)];rfl
   obtain⟨l0,l1⟩:=Zk l (by rw[hlr];exact O3)
   refine ao (FT 2 (y:=td.getD l.toNat 0) (j:=n.toNat) (mD 2 (bo (bo (aa 1 rfl) (aa 3 rfl) VM) ev_int hl0) rfl rfl (aY (xs:=td) (i:=l) 0 l0 (by omega))) (aa 3 rfl) rfl rfl (vB n0 (by omega)) ⟨ar n,?_⟩)
   unfold oQ
   rw[UL h,e0];rfl
  ·have h:¬((Ld.getD n.toNat []).isEmpty=false/\aP (aO S n)=false):=by
    intro z
    unfold aP at z
    unfold aO at z
    rw[z.1,z.2] at h
    exact UJ h (by decide)
   unfold oQ
   rw[UK h]
 ·obtain⟨e3,rfl⟩:=hΓ
  rw[gT,show((S.length:Int)-1 - -1).toNat=S.length by omega]
  exact⟨e3,rfl⟩
 rintro _ ⟨e3,rfl⟩
 refine WS.freeze 2 rfl (aK (by rw[jt S.length (QW _)];omega)) ?_
 exact ao (a8 (aa 2 rfl) rfl)
abbrev Rw:=Int×Int×Str×Str
def h8 (r:Rw):PV:=.tup [.int r.1,.int r.2.1,.str r.2.2.1,.str r.2.2.2]
def iY (Ld:List OB)(z:Int×ay):List (Str×Int):=((cn dg z.2.kind).getD []).zip (Ld.getD z.1.toNat [])
def pU (St:OB)(z:Int×ay)(y:Str×Int):Rw:=(z.1,St.getD y.2.toNat 0,y.1,z.2.name)
def dv (Ld:List OB)(St:OB)(z:Int×ay):List Rw:=(iY Ld z).map (pU St z)
def eV (S:List ay)(Ld:List OB)(St:OB):List Rw:=(nums S).flatMap (dv Ld St)
theorem wF (Ld:List OB)(z:Int×ay):(iY Ld z).length<=2:=by
 unfold iY
 rw[Qc]
 refine QX (Ra _ _) ?_
 unfold cn
 split
 ·decide
 unfold cn
 split
 ·decide
 unfold cn
 split
 ·decide
 unfold cn
 split
 ·decide
 ·exact QY _
theorem oF {α β:Type}{f:α->List β}{n:Nat}(h:∀x,(f x).length<=n):∀xs:List α,(xs.flatMap f).length<=n*xs.length
 | []=>QY _
 | x::xs=>by
   rw[Qj,O4,O8,Nat.mul_succ]
   have:=h x
   have:=oF h xs
   omega
theorem pM (Ld:List OB)(St:OB)(z:Int×ay):(dv Ld St z).length<=2:=by unfold dv;rw[OZ];exact wF Ld z
abbrev Kg:Stmt:=top xV
abbrev nRI:OC:=["steps","leads","stands","told","number","step","word","lead"]
abbrev Na:OC:=["steps","leads","stands"]
theorem J5:aF nRI Na (ai Kg):=Vk
def MZ (C:Addr):cP:=λK ps T=>∃(S:List ay) (Ld:List OB) (St:OB),ps=[⟨ae (bc C),S⟩,⟨ae (ae ah),Ld⟩,⟨ae ah,St⟩]/\S.length<=1000/\vF S Ld/\St.length=S.length/\T=bU K (ae aI) (· =(eV S Ld St).map h8)
theorem KR (M:cH K mg)(HC:bF K C gR)(RW:lT P w K mg "ROW_WORDS" dg)(Df:Def K mg "rows_in" Kg Na):aH P w K mg base "rows_in" 1 (aN (MZ C) K):=by
 have nd:=J5.nd
 refine bJ Df J5 (λf UX A outer s H E qs T hr hS=>?_)
 obtain⟨S,Ld,St,rfl,hl,⟨Xl,V6⟩,hst,rfl⟩:=hS
 change WS _ _ [.im (ae (bc C)) S,.im (ae (ae ah)) Ld,cb St,.no,.no,.no,.no,.no] _ _
 refine ak (cS 3 (r:=aI) (ys:=[]) (aV aR (QY _)) ?_)
 refine bM (N1:=λΓ=>∃e4 e5 e6 e7,Γ=[.im (ae (bc C)) S,.im (ae (ae ah)) Ld,cb St,.mu aI ((eV S Ld St).map h8),e4,e5,e6,e7]) (cJ (λi Γ=>∃e4 e5 e6 e7,Γ=[.im (ae (bc C)) S,.im (ae (ae ah)) Ld,cb St,.mu aI ((((nums S).take i).flatMap (dv Ld St)).map h8),e4,e5,e6,e7]) (iz M.enumerate (aa 0 rfl)) (fO 4 5) ⟨_,_,_,_,rfl⟩ (λi z Γ hz hΓ=>?_) (λΓ hΓ=>?_)) ?_
 ·obtain⟨e4,e5,e6,e7,rfl⟩:=hΓ
  obtain⟨n,nl,e1,e2⟩:=nv (O6 hz)
  have il:i<S.length:=by have:=(OW.mp hz).1;rwa [cK] at this
  have fl:=oF (pM Ld St) ((nums S).take i)
  have hti:((nums S).take i).length<=i:=by rw[Pl];omega
  have V5:((nums S).take (i+1)).flatMap (dv Ld St)=((nums S).take i).flatMap (dv Ld St)++dv Ld St z:=by
   rw[PJ,hz,QD];simp
  rw[V5]
  generalize ((nums S).take i).flatMap (dv Ld St)=rs at fl
  have rl:rs.length<=2000:=by omega
  obtain⟨zn,zs⟩:=z
  dsimp only at e1 e2
  subst e1
  change WS _ _ [.im (ae (bc C)) S,.im (ae (ae ah)) Ld,cb St,.mu aI (rs.map h8),ar (n:Int),.im (bc C) zs,e6,e7] _ _
  have VM:cy Ld (n:Int)=some (Ld.getD n []):=aY (xs:=Ld) (i:=(n:Int)) [] (by omega) (by omega)
  have WW:Ld.getD n []∈Ld:=by
   rw[OY,OX (show n<Ld.length by omega)]
   exact PD _
  have Zk:=V6 _ WW
  have hzl:=wF Ld ((n:Int),zs)
  have hzz:iY Ld ((n:Int),zs)=((cn dg zs.kind).getD []).zip (Ld.getD n []):=rfl
  refine ao (cJ (λj Γ=>∃e6 e7,Γ=[.im (ae (bc C)) S,.im (ae (ae ah)) Ld,cb St,.mu aI ((rs++((iY Ld ((n:Int),zs)).take j).map (pU St ((n:Int),zs))).map h8),ar (n:Int),.im (bc C) zs,e6,e7]) (EK M.zip (El RW (gv (C:=C) HC (aa 5 rfl)) (wB (xs:=[]) aR (QY _))) (bo (aa 1 rfl) (aa 4 rfl) VM)) (fO 6 7) ⟨e6,e7,by rw[QP,map_nil,Px]⟩ (λj y Γ hy hΓ=>?_) (λΓ hΓ=>?_))
  ·obtain⟨e6,e7,rfl⟩:=hΓ
   rw[← hzz] at hy
   have hjl:j<(iY Ld ((n:Int),zs)).length:=(OW.mp hy).1
   have htj:(((iY Ld ((n:Int),zs)).take j).map (pU St ((n:Int),zs))).length<=2:=by rw[OZ,Pl];omega
   have Zg:((iY Ld ((n:Int),zs)).take (j+1)).map (pU St ((n:Int),zs))=((iY Ld ((n:Int),zs)).take j).map (pU St ((n:Int),zs))++[pU St ((n:Int),zs) y]:=by
    rw[PJ,hy,Ph];rfl
   rw[Zg]
   have Xb:y.2∈Ld.getD n []:=by
    rw[hzz] at hy
    exact(Qx (O6 hy)).2
   obtain⟨y0,y1⟩:=Zk y.2 Xb
   generalize ((iY Ld ((n:Int),zs)).take j).map (pU St ((n:Int),zs))=ts at htj
   obtain⟨yw,yl⟩:=y
   change WS _ _ [.im (ae (bc C)) S,.im (ae (ae ah)) Ld,cb St,.mu aI ((rs++ts).map h8),ar (n:Int),.im (bc C) zs,.im ag yw,ar yl] _ _
   refine ao (eY 3 (y:=h8 (pU St ((n:Int),zs) (yw,yl))) (gG (ax (EV.pI (aa 4 rfl)) (ax (EV.pI (bo (aa 2 rfl) (aa 7 rfl) (aY (xs:=St) (i:=yl) 0 y0 (by omega)))) (ax (EV.pS (aa 6 rfl)) (ax (EV.pS (qk (C:=C) HC (aa 5 rfl))) aR)))) (by show 4<=RE;decide)) rfl rfl (QZ (show _<=3000 by rw[OZ,O4];omega) (by decide)) ⟨.im ag yw,ar yl,?_⟩)
   rw[← Pg,Ph (l₁:=rs++ts)]
   rfl
  ·obtain⟨e6,e7,rfl⟩:=hΓ
   refine⟨ar (n:Int),.im (bc C) zs,e6,e7,?_⟩
   rw[← hzz,PK]
   rfl
 ·obtain⟨e4,e5,e6,e7,rfl⟩:=hΓ
  refine⟨e4,e5,e6,e7,?_⟩
  rw[PK];rfl
 rintro _ ⟨e4,e5,e6,e7,rfl⟩
 have fl:=oF (pM Ld St) (nums S)
 rw[cK] at fl
 refine WS.freeze 3 rfl (aK (by rw[OZ];unfold eV;omega)) ?_
 exact ao (a8 (aa 3 rfl) rfl)
end
structure gI where
 S:List ay
 parts:List gg
 Ld:List OB
 St:OB
 rows:List Rw
abbrev fh:OC:=["steps","parts","leads","stands","rows"]
theorem dq {x:Str}(h:decide (x∈fh)=true):x∈fh:=UM h
def MT (C:Addr)(s:gI):jD:=[("steps",(ae (bc C)).at_ s.S),("parts",(ae aI).at_ (s.parts.map j3)),("leads",(ae (ae ah)).at_ s.Ld),("stands",(ae ah).at_ s.St),("rows",(ae aI).at_ (s.rows.map h8))]
def bq (C D:Addr):Rep gI:=⟨λK R v s=>∃x dx vs,v= .ref x/\R x=some (.ins D dx vs)/\fU (MT C s) K R vs,λs ⟨x,dx,vs,e,h1,h2⟩=>⟨x,dx,vs,e,s _ _ h1,h2.mono s⟩⟩
section
variable {X:Cx}{Γ Γ1:Ga}{C D:Addr}{e:Expr}{pos:Pos}{s:gI}
theorem yA (hC:bF X.K D fh)(he:EV X e Γ (bq C D) s Γ1)(hb:RK e "steps" X.env (eval e X.env)=eval e X.env:=by rfl):EV X (.Attribute e "steps" pos) Γ (ae (bc C)) s.S Γ1:=jf hC (dq (by decide)) he (λK R v ⟨x,dx,vs,e,h1,h2⟩=>by obtain⟨u,q1,q2⟩:=h2.get (f:="steps") rfl;exact⟨x,dx,vs,u,e,h1,q1,q2⟩) hb
theorem g8 (hC:bF X.K D fh)(he:EV X e Γ (bq C D) s Γ1)(hb:RK e "parts" X.env (eval e X.env)=eval e X.env:=by rfl):EV X (.Attribute e "parts" pos) Γ (ae aI) (s.parts.map j3) Γ1:=jf hC (dq (by decide)) he (λK R v ⟨x,dx,vs,e,h1,h2⟩=>by obtain⟨u,q1,q2⟩:=h2.get (f:="parts") rfl;exact⟨x,dx,vs,u,e,h1,q1,q2⟩) hb
theorem LD (hC:bF X.K D fh)(he:EV X e Γ (bq C D) s Γ1)(hb:RK e "leads" X.env (eval e X.env)=eval e X.env:=by rfl):EV X (.Attribute e "leads" pos) Γ (ae (ae ah)) s.Ld Γ1:=jf hC (dq (by decide)) he (λK R v ⟨x,dx,vs,e,h1,h2⟩=>by obtain⟨u,q1,q2⟩:=h2.get (f:="leads") rfl;exact⟨x,dx,vs,u,e,h1,q1,q2⟩) hb
theorem Lz (hC:bF X.K D fh)(he:EV X e Γ (bq C D) s Γ1)(hb:RK e "stands" X.env (eval e X.env)=eval e X.env:=by rfl):EV X (.Attribute e "stands" pos) Γ (ae ah) s.St Γ1:=jf hC (dq (by decide)) he (λK R v ⟨x,dx,vs,e,h1,h2⟩=>by obtain⟨u,q1,q2⟩:=h2.get (f:="stands") rfl;exact⟨x,dx,vs,u,e,h1,q1,q2⟩) hb
theorem pT (hC:bF X.K D fh)(he:EV X e Γ (bq C D) s Γ1)(hb:RK e "rows" X.env (eval e X.env)=eval e X.env:=by rfl):EV X (.Attribute e "rows" pos) Γ (ae aI) (s.rows.map h8) Γ1:=jf hC (dq (by decide)) he (λK R v ⟨x,dx,vs,e,h1,h2⟩=>by obtain⟨u,q1,q2⟩:=h2.get (f:="rows") rfl;exact⟨x,dx,vs,u,e,h1,q1,q2⟩) hb
end
structure lM (S:List ay) (Ld:List OB):Prop where
 l:S.length<=240
 ld:ye S Ld
 li:vF S Ld
 pt:∀n:Nat,n<S.length->aO S (n:Int)="part"->(bA (dI S) (n:Int)).isSome
def U4 (S:List ay)(Ld:List OB):gI:=⟨S,cG S,Ld,aQ S Ld,eV S Ld (aQ S Ld)⟩
def mx (x:Str)(S:List ay):Prop:=∃(ws:OC) (n:Nat),x=T9 " " ws/\ws≠[]/\ws.length<=240/\(∀w∈ws,fQ w)/\gc ws n ⟨[],[],0⟩ ⟨S,[],ws.length⟩
section
variable {C D:Addr}
abbrev rH:Stmt:=match top B9 with
 | .ClassDef _ _ _ b _ _ _ _ _ _ _=>b.getD 0 (.Pass ⟨0,0,0,0⟩)
 | s=>s
abbrev uB:OC:=["self","text"]
theorem Hb:aF uB uB (ai rH):=Vk
def MF (C D0:Addr):AH:=λK D ps Pd=>D=D0/\∃(x:Str) (S:List ay) (Ld:List OB),ps=[⟨ag,x⟩]/\mx x S/\lM S Ld/\Pd=λfs=>fs=MT C (U4 S Ld)
theorem Mq (HD:bF K D fh)(CR:aH P w K mg base "read" 3 (aN (Nn C) K))(CP:aH P w K mg base "parts_in" 2 (aN (Nq C) K))(CL:aH P w K mg base "leads_in" 3 (aN (Nd C) K))(CS:aH P w K mg base "stands_in" 1 (aN (Mu C) K))(CW:aH P w K mg base "rows_in" 1 (aN (MZ C) K))(F:dU K "__init__" "Spots.__init__" rH f fd):dW P w K mg base d6 4 f fd uB (wX (MF C D) K):=by
 have nd:=Hb.nd
 have CP:=CP.mono (show 2<=3 by decide)
 have CS:=CS.mono (show 1<=3 by decide)
 have CW:=CW.mono (show 1<=3 by decide)
 refine y8 (k:=3) F Hb (λD qs Pd ⟨_,_,_,_,e,_⟩=>by rw[e];rfl) (λUX A outer st H E D' x dx qs Pd hr hS=>?_)
 obtain⟨rfl,tx,S,Ld,rfl,⟨ws,n,et,U9,hl,hw,Yf⟩,ZD,rfl⟩:=hS
 have WK:S.length<=1000:=by have:=ZD.l;omega
 change WS _ _ [.ob ((gx D').bx [x,dx] []),.im ag tx] _ _
 refine ak (g0 0 HD (dq (by decide)) (aE (y:=S) (r:=ae (bc C)) CR hr (aj (aa 1 rfl) aw) ⟨ws,n,S,by rw[et],U9,hl,hw,Yf,rfl⟩) rfl rfl (by show 0<1000;decide) ?_)
 refine ak (g0 0 HD (dq (by decide)) (aE CP hr (aj (lQ 0 HD (dq (by decide)) rfl rfl) aw) ⟨S,rfl,WK,ZD.pt,rfl⟩) rfl rfl (by show 1<1000;decide) ?_)
 refine ak (g0 0 HD (dq (by decide)) (aE CL hr (aj (lQ 0 HD (dq (by decide)) rfl rfl) aw) ⟨S,Ld,rfl,WK,ZD.ld,rfl⟩) rfl rfl (by show 2<1000;decide) ?_)
 refine ak (g0 0 HD (dq (by decide)) (aE CS hr (aj (lQ 0 HD (dq (by decide)) rfl rfl) (aj (lQ 0 HD (dq (by decide)) rfl rfl) aw)) ⟨S,Ld,rfl,WK,ZD.li,rfl⟩) rfl rfl (by show 3<1000;decide) ?_)
 exact ao (g0 0 HD (dq (by decide)) (aE CW hr (aj (lQ 0 HD (dq (by decide)) rfl rfl) (aj (lQ 0 HD (dq (by decide)) rfl rfl) (aj (lQ 0 HD (dq (by decide)) rfl rfl) aw))) ⟨S,Ld,aQ S Ld,rfl,WK,ZD.li,jt S.length (QW _),rfl⟩) rfl rfl (by show 4<1000;decide) ⟨_,rfl,rfl⟩)
structure tY (P:RJ) (w:World) (K:Uk) (mg:Oz) (base:Heap) (C D:Addr):Prop where
 cl:bF K D fh
 ex:∃fi WE,Mk K D fi/\dW P w K mg base d6 4 fi WE uB (wX (MF C D) K)/\Binds K WE uB []
 mg:mg "Spots"=some (.ref D)
theorem Bv {X:Cx}{Γ Γ1:Ga}{C D:Addr}{e:Expr}{p pos:Pos}{x:Str}{S:List ay}{Ld:List OB}(G:tY X.prog X.w X.K X.mg X.base C D)(hr:bI 5 X.A)(ha:HA X [e] Γ [⟨ag,x⟩] Γ1)(hx:mx x S)(hk:lM S Ld)
 (hg:Gl X "Spots":=by rfl) (he:RC [e] X.env=(false,eval e X.env)::RC [] X.env:=by rfl) (Ve:(RM pos (RC [] X.env)).any (·.1)=false:=by rfl):EV X (.Call (.Name "Spots" p) [e] [] pos) Γ (bq C D) (U4 S Ld) Γ1:=by
 obtain⟨fi,WE,MK,SI,bi⟩:=G.ex
 exact wL MK SI hr G.mg bi ha ⟨rfl,x,S,Ld,rfl,hx,hk,rfl⟩ (λfs R x dx vs hP h1 h2=>by subst hP;exact⟨x,dx,vs,rfl,h2,h1⟩) hg (by decide) he Ve
end
theorem HP {α:Type}{xs:List α}{i:Nat}(h:i<=xs.length):cut xs none (some (i:Int))=xs.take i:=by
 have e:HT.Va xs.length xs.length (some (i:Int))=i:=by
  show(if(i:Int)<0 then((i:Int)+(xs.length:Int)).toNat else min (i:Int).toNat xs.length)=i
  rw[UK (by omega)];omega
 unfold cut
 rw[e];rfl
theorem pW {α:Type}{xs:List α}{i:Nat}:cut xs (some (i:Int)) none=xs.drop i:=by
 have e:HT.Va xs.length 0 (some (i:Int))=min i xs.length:=by
  show(if(i:Int)<0 then((i:Int)+(xs.length:Int)).toNat else min (i:Int).toNat xs.length)=_
  rw[UK (by omega)];rfl
 have e2:HT.Va xs.length xs.length none=xs.length:=rfl
 unfold cut
 rw[e,e2]
 rcases Q2 i xs.length with h | h
 ·rw[Nat.min_eq_left (by omega),Qm (by rw[Qq];omega)]
 ·rw[Nat.min_eq_right h,Qt (QW _),Qt h,take_nil]
theorem oJ:∀(n:Nat) (l:OB),l.Nodup->(∀x∈l,0<=x/\x<(n:Int))->l.length<=n
 | 0,l,_,h=>by
   cases l with
   | nil=>exact QW _
   | cons x r=>have:=h x O3;omega
 | n+1,l,nd,h=>by
   by_cases q:(n:Int)∈l
   ·have:=oJ n (l.erase (n:Int)) (nd.erase _) λx hx=>by
     have hm:=(nd.mem_erase_iff.mp hx)
     have:=h x hm.2
     have:=hm.1
     omega
    rw[List.length_erase_of_mem q] at this
    omega
   ·have:=oJ n l nd λx hx=>by
     have:=h x hx
     have:x≠(n:Int):=λe=>q (e▸hx)
     omega
    omega
def dM (F:OH)(k:Int):OH:=if(bA F k).isSome then F else F++[(k,(F.length:Int))]
def f7 (p:gg)(r:Rw):Bool:=decide (p.2.1<r.1)&&decide (r.1<p.2.2)
def dz (p:gg)(F:OH)(r:Rw):OH:=if f7 p r then dM (dM F r.1) r.2.1 else F
def cj (s:gI)(p:gg):OH:=s.rows.foldl (dz p) [(s.St.getD p.2.1.toNat 0,0),(p.2.2,1)]
def Reach (s:gI)(fd:OB):Prop:=(∀p∈s.parts,p.2.1∈fd)/\∀n∈fd,∀l∈s.Ld.getD n.toNat [],l∈fd
structure Good (s:gI):Prop where
 l:s.S.length<=240
 pl:s.parts.length<=4
 pn:(s.parts.map (·.1)).Nodup
 pv:∀p∈s.parts,0<=p.2.1/\p.2.1<(s.S.length:Int)
 li:vF s.S s.Ld
 l2:∀ls∈s.Ld,ls.length<=2
 sl:s.St.length=s.S.length
 sn:((s.S.filter λt=>decide (t.kind=("part":Str))).map (·.name)).Nodup
 ca:∀(n:Nat) (t:ay),s.S[n]?=some t->t.kind="call"->∃(m:Nat) (u:ay),n<m/\s.S[m]?=some u/\u.kind="part"/\u.name=t.name
 ct:∀fd,Reach s fd->∀n:Nat,n<s.S.length->aO s.S (n:Int)∈Vf->(n:Int)∈fd
 nc:∀p∈s.parts.drop 1,∃t∈s.S,t.kind="call"/\t.name=p.1
 eb:∀p∈s.parts,s.St.getD p.2.1.toNat 0≠p.2.2
 rl:s.rows.length<=30
 rk:∀r∈s.rows,(0<=r.1/\r.1<(s.S.length:Int))/\aO s.S r.1∈Vf
 pc:∀p∈s.parts,(cj s p).length<=16
def tT:PV->Str
 | .tup (.str x::_)=>x
 | _=>""
theorem Ad (p:gg):tT (j3 p)=p.1:=rfl
section
variable {C D:Addr}
abbrev DC:Stmt:=top sh
theorem Gw:aF ["spots","parts"] ["spots","parts"] (ai DC):=Vk
def xt (C D:Addr):cP:=λK ps T=>∃s:gI,ps=[⟨bq C D,s⟩,⟨ae aI,[]⟩]/\T=bU K (ae ah) (· =[])
theorem K8 (Df:Def K mg "name_words" DC ["spots","parts"]):aH P w K mg base "name_words" 1 (aN (xt C D) K):=by
 have nd:=Gw.nd
 have Wf:Pt [("part":Str),"spots"]:=by decide
 refine bJ Df Gw (λf UX A outer st H E qs T hr hS=>?_)
 obtain⟨s,rfl,rfl⟩:=hS
 change WS _ _ [.im (bq C D) s,.im (ae aI) []] _ _
 exact ao (a8 (aZ.im (bY (own:=["part"]) (fr:=["spots"]) (ix:=[0]) (ra:=aI) (rb:=ah) (p:=λ_=>true) (f:=λ_=>0) (bK (so:=ai DC) (N0:=["spots","parts"]) rfl rfl (λx h=>bz h) (by decide +kernel)) (bX (aa 1 rfl))
  (λC s H ex=>aX 0) (λx=>⟨.inr rfl,.inl rfl,trivial⟩) (λC' s H ex c hc=>dE) (λC' s H ex o ho _=>by cases ho))) rfl)
abbrev Af:Stmt:=top qT
abbrev JE:OC:=["spots","names"]
theorem Je:aF JE ["spots"] (ai Af):=Vk
def ia (C D:Addr):cP:=λK ps T=>∃s:gI,ps=[⟨bq C D,s⟩]/\Good s/\T=bU K (ae ah) (· =[])
theorem i4 {α β:Type}{xs:List α}{p:α->Bool}{f:α->β}(h:∀x∈xs,p x=false):(xs.filter p).map f=[]:=by
 rw[QJ.mpr λx hx=>by rw[h x hx];decide];rfl
theorem Gi {xs:OC}(h:xs.Nodup){i:Nat}{x:Str}(hx:xs[i]?=some x):x∉xs.take i:=by
 intro hm
 obtain⟨j,hj⟩:=Pf.mp hm
 obtain⟨jl,ej⟩:=OW.mp hj
 obtain⟨il,ei⟩:=OW.mp hx
 rw[Pl] at jl
 rw[List.getElem_take] at ej
 have:=(QF (h₀:=by omega) (h₁:=il) h).mp (ej.trans ei.symm)
 omega
theorem LO (M:cH K mg)(HD:bF K D fh)(CN:aH P w K mg base "name_words" 1 (aN (xt C D) K))(Df:Def K mg "named_again" Af ["spots"]):aH P w K mg base "named_again" 2 (aN (ia C D) K):=by
 have nd:=Je.nd
 have Wf:Pt [("part":Str)]:=by decide
 have Xs:Pt [("place":Str),"part","names"]:=by decide
 refine bJ (k:=1) Df Je (λf UX A outer st H E qs T hr hS=>?_)
 obtain⟨s,rfl,hG,rfl⟩:=hS
 change WS _ _ [.im (bq C D) s,.no] _ _
 have YD:((s.parts.map j3).filter λ_=>true).map tT=s.parts.map (·.1):=by rw[PU.mpr λ_ _=>rfl,PQ];rfl
 refine ak (a9 1 (y:=s.parts.map (·.1)) (EV.cast (aZ.im (bY (own:=["part"]) (fr:=[]) (ix:=[]) (ra:=aI) (rb:=ag) (p:=λ_=>true) (f:=tT) (bK (so:=ai Af) (N0:=JE) rfl rfl (λx h=>bz h) (by decide +kernel)) (bX (g8 (C:=C) HD (aa 0 rfl)))
  (λC s H ex=>aX 0) (λx=>⟨.inr rfl,trivial⟩) (λC' s H ex c hc=>dE) (λC' s H ex o ho _=>by
   obtain⟨p,_,rfl⟩:=Pe.mp ho
   exact EV.sP (x:=p.1) (c5 (aa 0 rfl) ev_int rfl)))) YD) ?_)
 change WS _ _ [.im (bq C D) s,.im (ae ag) (s.parts.map (·.1))] _ _
 refine ao (a8 (y:=([]:OB)) (aE CN hr (aj (aa 0 rfl) (aj (x:=([]:List PV)) (EV.cast (aZ.im (bY (own:=["place","part"]) (fr:=["names"]) (ix:=[1]) (ra:=eE ah aI) (rb:=aI) (p:=λz=>decide (tT z.2∈cut (s.parts.map (·.1)) none (some z.1))) (f:=λz=>z.2) (bK (so:=ai Af) (N0:=JE) rfl rfl (λx h=>bz h) (by decide +kernel)) (iz M.enumerate (g8 (C:=C) HD (aa 0 rfl)))
  (λC s H ex=>fO 0 1) (λx=>⟨.inr rfl,.inr rfl,.inl rfl,trivial⟩) (λC' s H ex z hz=>?_) (λC' s H ex z hz _=>aa 1 rfl))) ?_) aw)) ⟨s,rfl,rfl⟩) rfl)
 ·obtain⟨i,hi⟩:=Pf.mp hz
  obtain⟨e1,e2⟩:=eJ hi
  rw[O5] at e2
  obtain⟨p,_,ep⟩:=Rl.mp e2
  obtain⟨zn,zp⟩:=z
  dsimp only at e1 ep
  subst ep
  exact hX (aD vD (EV.sP (x:=p.1) (c5 (aa 1 rfl) ev_int rfl)) (aZ.im (j2 (aa 2 rfl) ov_none (ov_some (aa 0 rfl)))))
 ·refine i4 λz hz=>?_
  obtain⟨i,hi⟩:=Pf.mp hz
  obtain⟨e1,e2⟩:=eJ hi
  rw[O5] at e2
  obtain⟨p,hp,ep⟩:=Rl.mp e2
  rw[e1,← ep,Ad]
  have il:=(OW.mp hp).1
  rw[HP (by rw[OZ];omega)]
  exact UP (Gi hG.pn (by rw[O5,hp];rfl))
end
section
variable {C D:Addr}
abbrev IK:Stmt:=top oi
abbrev nCA:OC:=["spots","found","behind","step"]
theorem IX:aF nCA ["spots"] (ai IK):=Vk
def VD (S:List ay):OC:=(S.filter λt=>decide (t.kind=("part":Str))).map (·.name)
theorem lA (a b:List ay):VD (a++b)=VD a++VD b:=by unfold VD;rw[Qb,Ph]
theorem JH {S:List ay}(h:(VD S).Nodup):(VD S.reverse).Nodup:=by
 unfold VD at h ⊢
 rw[List.filter_reverse,List.map_reverse]
 exact List.pairwise_reverse.mpr (h.imp λz=>Rk z)
theorem Mf (M:cH K mg)(HC:bF K C gR)(HD:bF K D fh)(Df:Def K mg "called_astray" IK ["spots"]):aH P w K mg base "called_astray" 1 (aN (ia C D) K):=by
 have nd:=IX.nd
 refine bJ Df IX (λf UX A outer st H E qs T hr hS=>?_)
 obtain⟨s,rfl,hG,rfl⟩:=hS
 have hu:=ru hr
 have hl:=hG.l
 have Ym:=JH (S:=s.S) hG.sn
 change WS _ _ [.im (bq C D) s,.no,.no,.no] _ _
 refine ak (cS 1 (r:=ah) (ys:=[]) (aV aR (QY _)) ?_)
 refine ak (qE 2 ?_)
 refine WS.Ms 2 rfl λa=>?_
 change WS _ _ [.im (bq C D) s,.mu ah [],.ob (nN a []),.no] _ _
 refine bM (N1:=λΓ=>∃ks e3,Γ=[.im (bq C D) s,.mu ah [],.ob (nN a ks),e3]) (cJ (λi Γ=>∃e3,Γ=[.im (bq C D) s,.mu ah [],.ob (nN a (VD (s.S.reverse.take i))),e3]) (Kc M.reversed (yA (C:=C) HD (aa 0 rfl))) (aX 3) ⟨_,rfl⟩ (λi t Γ ht hΓ=>?_) (λΓ hΓ=>?_)) ?_
 ·obtain⟨e3,rfl⟩:=hΓ
  have il:i<s.S.length:=by have:=(OW.mp ht).1;rwa [QB] at this
  have V5:VD (s.S.reverse.take (i+1))=VD (s.S.reverse.take i)++VD [t]:=by rw[PJ,ht,lA];rfl
  have Vr:(VD (s.S.reverse.take (i+1))).Nodup:=by
   have:VD s.S.reverse=VD (s.S.reverse.take (i+1))++VD (s.S.reverse.drop (i+1)):=by rw[← lA,Qi]
   rw[this] at Ym
   exact(P6.mp Ym).1
  have YF:(VD (s.S.reverse.take i)).length<=240:=by
   unfold VD
   rw[OZ]
   refine QX (Qp _ _) ?_
   rw[Pl];omega
  have XW:t.kind="call"->t.name∈VD (s.S.reverse.take i):=λhk=>by
   rw[QN il] at ht
   obtain⟨m,u,hm',XN,Wn,Xk⟩:=hG.ca _ t ht hk
   have ml:=(OW.mp XN).1
   unfold VD
   refine Pe.mpr ⟨u,PM.mpr ⟨O6 (i:=s.S.length-1-m) ?_,UO Wn⟩,Xk⟩
   rw[List.getElem?_take,UL (by omega),QN (by omega),show s.S.length-1-(s.S.length-1-m)=m by omega]
   exact XN
  rw[V5]
  generalize VD (s.S.reverse.take i)=ks at V5 YF XW
  rw[V5] at Vr
  change WS _ _ [.im (bq C D) s,.mu ah [],.ob (nN a ks),.im (bc C) t] _ _
  refine bM (N1:=λΓ=>Γ=[.im (bq C D) s,.mu ah [],.ob (nN a (ks++VD [t])),.im (bc C) t]) (bE (aD cM (gv (C:=C) HC (aa 3 rfl)) aG) (λh=>?_) (λh=>aW ?_)) ?_
  ·have h:t.kind="part":=UM h
   have hp:VD [t]=[t.name]:=by unfold VD;rw[P2 (by simpa using h)];rfl
   rw[hp] at Vr ⊢
   refine ao (EL 2 hu (qk (C:=C) HC (aa 3 rfl)) xR rfl (λz=>?_) (QZ YF (by decide)) rfl)
   exact(P6.mp Vr).2.2 t.name z t.name (O0.mpr rfl) rfl
  ·have h:¬t.kind="part":=UN h
   have hp:VD [t]=[]:=by unfold VD;rw[P4 (by simpa using h)];rfl
   rw[hp,Px]
  rintro _ rfl
  refine ao (bE (TW.tv (c6 (aD cM (gv (C:=C) HC (aa 3 rfl)) aG) (λ_=>ee (Bk 2 hu (qk (C:=C) HC (aa 3 rfl)) rfl)))) (λh=>?_) (λh=>aW ⟨.im (bc C) t,rfl⟩))
  exfalso
  obtain⟨h1,h2⟩:=Bool.and_eq_true_iff.mp h
  have h1:t.kind="call":=UM h1
  rw[UO (Pj _ (XW h1))] at h2
  cases h2
 ·obtain⟨e3,rfl⟩:=hΓ
  exact⟨_,e3,rfl⟩
 rintro _ ⟨ks,e3,rfl⟩
 refine WS.freeze 1 rfl (QY _) ?_
 exact ao (a8 (aa 1 rfl) rfl)
abbrev DI:Stmt:=top yv
abbrev Ng:OC:=["spots","found","waiting","number"]
theorem Jp:aF Ng ["spots"] (ai DI):=Vk
def dT (fd:OB):List (Int×V):=fd.map λk=>(k,V.bl true)
theorem mE (fd:OB)(k:Int):ip (dT fd) k=decide (k∈fd):=by
 unfold ip dT
 rw[List.any_map]
 by_cases h:k∈fd
 ·rw[UO h,QQ]
  exact⟨k,h,by simp⟩
 ·rw[UP h]
  rw[List.any_eq_false]
  intro x hx
  have:x≠k:=λe=>h (e▸hx)
  simpa using this
def Jc (C D:Addr):cP:=λK ps T=>∃s:gI,ps=[⟨bq C D,s⟩]/\Good s/\T=bU K gW (λkvs=>∃fd,kvs=dT fd/\Reach s fd)
structure CtI (s:gI) (fd wt:OB):Prop where
 nd:fd.Nodup
 fv:∀n∈fd,0<=n/\n<(s.S.length:Int)
 wv:∀n∈wt,0<=n/\n<(s.S.length:Int)
 st:∀p∈s.parts,p.2.1∈fd∨p.2.1∈wt
 cl:∀n∈fd,∀l∈s.Ld.getD n.toNat [],l∈fd∨l∈wt
def xJ:PV->Int
 | .tup (_:: .int n::_)=>n
 | _=>0
theorem LR (M:cH K mg)(HD:bF K D fh)(F:dU K "come_to" "come_to" DI f fd)(hm:mg "come_to"=some (.ref f))(hb:Binds K fd ["spots"] []):aH P w K mg base "come_to" 1 (aN (Jc C D) K):=by
 have nd:=Jp.nd
 have Wf:Pt [("part":Str)]:=by decide
 refine gP F Jp hm hb (λqs T ⟨_,e,_⟩=>by rw[e];rfl) (λUX A outer st H E qs T hr hS=>?_)
 obtain⟨s,rfl,hG,rfl⟩:=hS
 have hu:=ru hr
 have hl:=hG.l
 obtain⟨Xl,V6⟩:=hG.li
 have Ve:=hG.pl
 change WS _ _ [.im (bq C D) s,.no,.no,.no] _ _
 refine ak (qE 1 ?_)
 have hst:((s.parts.map j3).filter λ_=>true).map xJ=s.parts.map (·.2.1):=by rw[PU.mpr λ_ _=>rfl,PQ];rfl
 refine ak (kY 2 (own:=["part"]) (fr:=[]) (ix:=[]) (ra:=aI) (rb:=ah) (p:=λ_=>true) (f:=xJ) (bK (so:=ai DI) (N0:=Ng) rfl rfl (λx h=>bz h) (by decide +kernel)) (bX (g8 (C:=C) HD (aa 0 rfl)))
  (λC s H ex=>aX 0) (λx=>⟨.inr rfl,trivial⟩) (λC' s H ex c hc=>dE) (λC' s H ex o ho _=>by
   obtain⟨p,_,rfl⟩:=Pe.mp ho
   exact EV.iP (n:=p.2.1) (c5 (aa 0 rfl) ev_int rfl)) ?_)
 rw[hst]
 change WS _ _ [.im (bq C D) s,.di (dT []),.mu ah (s.parts.map (·.2.1)),.no] _ _
 refine bM (N1:=λΓ=>∃fd e3,Γ=[.im (bq C D) s,.di (dT fd),.mu ah [],e3]/\Reach s fd) (lB (λm Γ=>∃fd wt e3,Γ=[.im (bq C D) s,.di (dT fd),.mu ah wt,e3]/\CtI s fd wt/\3*(s.S.length-fd.length)+wt.length=m/\m<=1000) (m0:=3*s.S.length+s.parts.length) ⟨[],s.parts.map (·.2.1),.no,rfl,⟨Qw,(λn h=>by cases h),(λn h=>?_),(λp hp=>.inr (Pe.mpr ⟨p,hp,rfl⟩)),(λn h=>by cases h)⟩,by rw[OZ];rfl,by omega⟩ (λm Γ hI=>?_)) ?_
 ·obtain⟨p,hp,rfl⟩:=Pe.mp h
  exact hG.pv p hp
 ·obtain⟨fd,wt,e3,rfl,hC,hmm,hm1⟩:=hI
  have fl:=oJ s.S.length fd hC.nd hC.fv
  refine⟨!wt.isEmpty,_,kX 2 rfl,λh=>?_,λh=>?_⟩
  ·have U9:wt≠[]:=λz=>by rw[z] at h;cases h
   obtain⟨wi,n,rfl⟩:∃l x,wt=l++[x]:=⟨wt.dropLast,wt.getLast U9,(P7 U9).symm⟩
   rw[O4,Py] at hmm
   obtain⟨n0,n1⟩:=hC.wv n (Pb _ (O0.mpr rfl))
   refine ak (a9 3 (y:=n) (uN 2 rfl (by simp)) ?_)
   rw[show(wi++[n]).dropLast=wi by simp]
   change WS _ _ [.im (bq C D) s,.di (dT fd),.mu ah wi,ar n] _ _
   refine ao (bE (FA 1 true hu (aa 3 rfl) rfl) (λh=>?_) (λh=>aW ?_))
   ·have YE:n∉fd:=by rw[UL rfl,mE] at h;simpa using h
    have VM:cy s.Ld n=some (s.Ld.getD n.toNat []):=aY (xs:=s.Ld) (i:=n) [] n0 (by omega)
    have WW:s.Ld.getD n.toNat []∈s.Ld:=by
     rw[OY,OX (show n.toNat<s.Ld.length by omega)]
     exact PD _
    have h2:=hG.l2 _ WW
    have Zk:=V6 _ WW
    have fl2:=oJ s.S.length (fd++[n]) (iy hC.nd YE) λx hx=>by
     rcases Pa.mp hx with z | z
     ·exact hC.fv x z
     ·rw[O0.mp z];exact⟨n0,n1⟩
    rw[O4,Py] at fl2
    refine ak (AD 1 hu (aa 3 rfl) xR rfl (by rw[mE];exact UP YE) (by unfold dT;rw[OZ];exact QZ (show _<=1000 by omega) (by decide)) ?_)
    have e:dT fd++[(n,V.bl true)]=dT (fd++[n]):=by unfold dT;rw[Ph];rfl
    rw[e]
    change WS _ _ [.im (bq C D) s,.di (dT (fd++[n])),.mu ah wi,ar n] _ _
    refine ao (z5 2 (bo (LD (C:=C) HD (aa 0 rfl)) (aa 3 rfl) VM) rfl rfl (aK (by omega)) ⟨3*(s.S.length-(fd++[n]).length)+(wi++s.Ld.getD n.toNat []).length,by rw[O4,O4,Py];omega,fd++[n],wi++s.Ld.getD n.toNat [],ar n,rfl,⟨iy hC.nd YE,λx hx=>?_,λx hx=>?_,λp hp=>?_,λx hx l Wl=>?_⟩,rfl,by rw[O4,O4,Py];omega⟩)
    ·rcases Pa.mp hx with z | z
     ·exact hC.fv x z
     ·rw[O0.mp z];exact⟨n0,n1⟩
    ·rcases Pa.mp hx with z | z
     ·exact hC.wv x (Pj _ z)
     ·exact Zk x z
    ·rcases hC.st p hp with z | z
     ·exact .inl (Pj _ z)
     ·rcases Pa.mp z with z | z
      ·exact .inr (Pj _ z)
      ·exact .inl (Pb _ z)
    ·rcases Pa.mp hx with z | z
     ·rcases hC.cl x z l Wl with q | q
      ·exact .inl (Pj _ q)
      ·rcases Pa.mp q with q | q
       ·exact .inr (Pj _ q)
       ·exact .inl (Pb _ q)
     ·rw[O0.mp z] at Wl
      exact .inr (Pb _ Wl)
   ·have YE:n∈fd:=by rw[UL rfl,mE] at h;simpa using h
    refine⟨3*(s.S.length-fd.length)+wi.length,by omega,fd,wi,ar n,rfl,⟨hC.nd,hC.fv,λx hx=>hC.wv x (Pj _ hx),λp hp=>?_,λx hx l Wl=>?_⟩,rfl,by omega⟩
    ·rcases hC.st p hp with z | z
     ·exact .inl z
     ·rcases Pa.mp z with z | z
      ·exact .inr z
      ·rw[O0.mp z];exact .inl YE
    ·rcases hC.cl x hx l Wl with q | q
     ·exact .inl q
     ·rcases Pa.mp q with q | q
      ·exact .inr q
      ·rw[O0.mp q];exact .inl YE
  ·have hwt:wt=[]:=by cases wt with
    | nil=>rfl
    | cons _ _=>cases h
   subst hwt
   exact⟨fd,e3,rfl,λp hp=>(hC.st p hp).resolve_right (by simp),λn hn l Wl=>(hC.cl n hn l Wl).resolve_right (by simp)⟩
 rintro _ ⟨fd,e3,rfl,hR⟩
 exact ao (JY 1 rfl ⟨fd,rfl,hR⟩)
abbrev zN:Stmt:=top qU
abbrev HQ:OC:=["spots","known","lost"]
theorem J7:aF HQ ["spots"] (ai zN):=Vk
theorem Ml (M:cH K mg)(M2:j6 K mg)(HC:bF K C gR)(HD:bF K D fh)(CT:aH P w K mg base "come_to" 1 (aN (Jc C D) K))(F:dU K "not_come_to" "not_come_to" zN f fd)(hm:mg "not_come_to"=some (.ref f))(hb:Binds K fd ["spots"] []):aH P w K mg base "not_come_to" 2 (aN (ia C D) K):=by
 have nd:=J7.nd
 have Wf:Pt [("number":Str),"step","known"]:=by decide
 have Xs:Pt [("step":Str)]:=by decide
 refine gP (k:=1) F J7 hm hb (λqs T ⟨_,e,_⟩=>by rw[e];rfl) (λUX A outer st H E qs T hr hS=>?_)
 obtain⟨s,rfl,hG,rfl⟩:=hS
 have hu:=ru hr
 have hl:=hG.l
 change WS _ _ [.im (bq C D) s,.no,.no] _ _
 refine ak (xj 1 CT hr (aj (aa 0 rfl) aw) ⟨s,rfl,hG,rfl⟩ ?_)
 rintro _ ⟨fd,rfl,hR⟩
 change WS _ _ [.im (bq C D) s,.im gW (dT fd),.no] _ _
 refine ak (kY 2 (own:=["number","step"]) (fr:=["known"]) (ix:=[1]) (ra:=eE ah (bc C)) (rb:=bc C) (p:=λz=> !ip (dT fd) z.1) (f:=λz=>z.2) (bK (so:=ai zN) (N0:=HQ) rfl rfl (λx h=>bz h) (by decide +kernel)) (iz M.enumerate (yA (C:=C) HD (aa 0 rfl)))
  (λC s H ex=>fO 0 1) (λx=>⟨.inr rfl,.inr rfl,.inl rfl,trivial⟩) (λC' s H ex z hz=>hX (wN hu (aa 0 rfl) (aa 2 rfl))) (λC' s H ex z hz _=>aa 1 rfl) ?_)
 have lz:(((nums s.S).filter λz=> !ip (dT fd) z.1).map λz=>z.2).length<=240:=by
  rw[OZ]
  refine QX (Qp _ _) ?_
  rw[cK];exact hl
 refine WS.freeze 2 rfl (aK (by omega)) ?_
 refine ao (a8 (aZ.im (bY (own:=["step"]) (fr:=[]) (ix:=[]) (ra:=bc C) (rb:=ah) (p:=λt=>decide (t.kind∈Vf)) (f:=λt=>t.word) (bK (so:=ai zN) (N0:=HQ) rfl rfl (λx h=>bz h) (by decide +kernel)) (bX (aa 2 rfl))
  (λC s H ex=>aX 0) (λx=>⟨.inr rfl,trivial⟩) (λC' s H ex t ht=>hX (aD j5 (gv (C:=C) HC (aa 0 rfl)) (gz M2.Vf))) (λC' s H ex t ht _=>Lp (C:=C) HC (aa 0 rfl)))) ?_)
 refine i4 λt ht=>?_
 obtain⟨z,hz,rfl⟩:=Pe.mp ht
 obtain⟨hz,hp⟩:=PM.mp hz
 obtain⟨n,nl,e1,e2⟩:=nv hz
 refine UP λhk=>?_
 have:=hG.ct fd hR n nl (by unfold aO;rw[show((n:Nat):Int).toNat=n by omega,e2];exact hk)
 rw[mE,e1,UO this] at hp
 cases hp
abbrev zr:Stmt:=top sq
abbrev JW:OC:=["spots","called"]
theorem Hw:aF JW ["spots"] (ai zr):=Vk
theorem Me (M:cH K mg)(HC:bF K C gR)(HD:bF K D fh)(CN:aH P w K mg base "name_words" 1 (aN (xt C D) K))(Df:Def K mg "not_called" zr ["spots"]):aH P w K mg base "not_called" 2 (aN (ia C D) K):=by
 have nd:=Hw.nd
 have Wf:Pt [("step":Str)]:=by decide
 have Xs:Pt [("part":Str),"called"]:=by decide
 refine bJ (k:=1) Df Hw (λf UX A outer st H E qs T hr hS=>?_)
 obtain⟨s,rfl,hG,rfl⟩:=hS
 change WS _ _ [.im (bq C D) s,.no] _ _
 refine ak (a9 1 (aZ.im (bY (own:=["step"]) (fr:=[]) (ix:=[]) (ra:=bc C) (rb:=ag) (p:=λt=>decide (t.kind="call")) (f:=λt=>t.name) (bK (so:=ai zr) (N0:=JW) rfl rfl (λx h=>bz h) (by decide +kernel)) (bX (yA (C:=C) HD (aa 0 rfl)))
  (λC s H ex=>aX 0) (λx=>⟨.inr rfl,trivial⟩) (λC' s H ex t ht=>hX (aD cM (gv (C:=C) HC (aa 0 rfl)) aG)) (λC' s H ex t ht _=>qk (C:=C) HC (aa 0 rfl)))) ?_)
 generalize XA:(s.S.filter λt=>decide (t.kind=("call":Str))).map (λt=>t.name)=cs
 change WS _ _ [.im (bq C D) s,.im (ae ag) cs] _ _
 refine ao (a8 (y:=([]:OB)) (aE CN hr (aj (aa 0 rfl) (aj (x:=([]:List PV)) (EV.cast (aZ.im (bY (own:=["part"]) (fr:=["called"]) (ix:=[1]) (ra:=aI) (rb:=aI) (xs:=cut (s.parts.map j3) (some 1) none) (p:=λz=> !decide (tT z∈cs)) (f:=λz=>z) (bK (so:=ai zr) (N0:=JW) rfl rfl (λx h=>bz h) (by decide +kernel)) (bX (aZ.im (j2 (g8 (C:=C) HD (aa 0 rfl)) (ov_some ev_int) ov_none)))
  (λC s H ex=>aX 0) (λx=>⟨.inr rfl,.inl rfl,trivial⟩) (λC' s H ex z hz=>?_) (λC' s H ex z hz _=>aa 0 rfl))) ?_) aw)) ⟨s,rfl,rfl⟩) rfl)
 ·rw[show((1:Int))=((1:Nat):Int) from rfl,pW,← QU] at hz
  obtain⟨p,_,rfl⟩:=Pe.mp hz
  exact hX (aD AE (EV.sP (x:=p.1) (c5 (aa 0 rfl) ev_int rfl)) (aa 1 rfl))
 ·refine i4 λz hz=>?_
  rw[show((1:Int))=((1:Nat):Int) from rfl,pW,← QU] at hz
  obtain⟨p,hp,rfl⟩:=Pe.mp hz
  obtain⟨t,ht,hk,hn⟩:=hG.nc p hp
  rw[Ad,UO (show p.1∈cs from by rw[← XA];exact Pe.mpr ⟨t,PM.mpr ⟨ht,UO hk⟩,hn⟩)]
  rfl
end
structure jk (mg:Oz):Prop where
 beg:∃t,mg "BEGIN"=some (.int 0 t)
 end_:∃t,mg "END"=some (.int 1 t)
 parts:∃t,mg "MOST_PARTS"=some (.int 4 t)
 places:∃t,mg "MOST_PLACES"=some (.int 16 t)
 rows:∃t,mg "MOST_PROGRAM_ROWS"=some (.int 30 t)
section
variable {X:Cx}{Γ Γ1:Ga}{C D:Addr}
theorem sV (i j:Nat){x z:Str}{p1 p2 ap pos:Pos}{s:gI}{k y:Int}(hD:bF X.K D fh)(hΓ:Γ[i]?=some (.im (bq C D) s))(hj:Γ[j]?=some (ar k))(hk:cy s.St k=some y)
 (hN:X.N[i]?=some x:=by rfl) (hv:autoParam (cC X.env.scope x) Vo) (hd:Vd x:=by decide) (U0:Vp x:=by decide)
 (hN':X.N[j]?=some z:=by rfl) (WA:autoParam (cC X.env.scope z) Vo) (Zu:(z==("__debug__":Str))=false:=by decide) (hcd':(z==("__classdict__":Str))=false:=by decide)
 (hb:RK (.Name x p1) "stands" X.env (eval (.Name x p1) X.env)=eval (.Name x p1) X.env:=by rfl) (Ye:eK (.Name z p2):=by exact λ_ _=>rfl):qh X (.Subscript (.Attribute (.Name x p1) "stands" ap) (.Name z p2) pos) Γ y:=λσ H0 R0 H R E H' Q sR q=>by
 obtain⟨v,ea,xx,dx,vs,rfl,h1,h2⟩:=E.ent i _ hΓ
 obtain⟨u,q1,q2⟩:=h2.get (f:="stands") rfl
 obtain⟨b,ws,rfl,VZ,pp,hz⟩:=(show(ae ah).R X.K R u s.St from q2)
 obtain⟨v0,e0,Xu⟩:=E.ent j _ hj
 cases Xu
 obtain⟨w,e3,e4⟩:=gZ pp hk
 cases e4
 exact eS (iM ig (tw (bb hN hv hd U0) hb) (bb hN' WA Zu hcd') Ye) ⟨.ref xx,at_of ea,xx,D,dx,vs,.ref b,rfl,sR _ _ h1,hD.cl,hD.no _ (dq (by decide)),q1,.int k,at_of e0,b,ws,k,.int y,rfl,rfl,aU.of (sR _ _ VZ),e3,q⟩
end
section
variable {C D:Addr}
abbrev DJ:Stmt:=top nG
theorem Kk:aF ["spots"] ["spots"] (ai DJ):=Vk
def N9:PV->Int
 | .tup (_::_:: .int n::_)=>n
 | _=>0
theorem Lr (HD:bF K D fh)(CN:aH P w K mg base "name_words" 1 (aN (xt C D) K))(Df:Def K mg "ended_at_begin" DJ ["spots"]):aH P w K mg base "ended_at_begin" 2 (aN (ia C D) K):=by
 have nd:=Kk.nd
 have Wf:Pt [("part":Str),"spots"]:=by decide
 refine bJ (k:=1) Df Kk (λf UX A outer st H E qs T hr hS=>?_)
 obtain⟨s,rfl,hG,rfl⟩:=hS
 change WS _ _ [.im (bq C D) s] _ _
 refine ao (a8 (y:=([]:OB)) (aE CN hr (aj (aa 0 rfl) (aj (x:=([]:List PV)) (EV.cast (aZ.im (bY (own:=["part"]) (fr:=["spots"]) (ix:=[0]) (ra:=aI) (rb:=aI) (p:=λz=>decide (s.St.getD (xJ z).toNat 0=N9 z)) (f:=λz=>z) (bK (so:=ai DJ) (N0:=["spots"]) rfl rfl (λx h=>bz h) (by decide +kernel)) (bX (g8 (C:=C) HD (aa 0 rfl)))
  (λC s H ex=>aX 0) (λx=>⟨.inr rfl,.inl rfl,trivial⟩) (λC' s' H ex z hz=>?_) (λC' s H ex z hz _=>aa 0 rfl))) ?_) aw)) ⟨s,rfl,rfl⟩) rfl)
 ·obtain⟨p,hp,rfl⟩:=Pe.mp hz
  obtain⟨p0,p1⟩:=hG.pv p hp
  exact hX (aD iG (bo (Lz (C:=C) HD (aa 1 rfl)) (EV.iP (n:=p.2.1) (c5 (aa 0 rfl) ev_int rfl)) (aY (xs:=s.St) (i:=p.2.1) 0 p0 (by rw[hG.sl];exact p1))) (EV.iP (n:=p.2.2) (c5 (aa 0 rfl) ev_int rfl)))
 ·refine i4 λz hz=>?_
  obtain⟨p,hp,rfl⟩:=Pe.mp hz
  exact UP (hG.eb p hp)
abbrev DL:Stmt:=top qL
theorem JM:aF ["spots"] ["spots"] (ai DL):=Vk
theorem LZ (M3:jk mg)(HD:bF K D fh)(Df:Def K mg "rows_beyond" DL ["spots"]):aH P w K mg base "rows_beyond" 1 (aN (ia C D) K):=by
 have nd:=JM.nd
 have Wf:Pt [("row":Str),"spots"]:=by decide
 refine bJ Df JM (λf UX A outer st H E qs T hr hS=>?_)
 obtain⟨s,rfl,hG,rfl⟩:=hS
 obtain⟨t,ht⟩:=M3.rows
 change WS _ _ [.im (bq C D) s] _ _
 have hc:cut (s.rows.map h8) (some 30) none=[]:=by
  rw[show((30:Int))=((30:Nat):Int) from rfl,pW,← QU,Qt hG.rl];rfl
 exact ao (a8 (aZ.im (bY (own:=["row"]) (fr:=["spots"]) (ix:=[0]) (ra:=aI) (rb:=ah) (xs:=[]) (p:=λ_=>true) (f:=λ_=>0) (bK (so:=ai DL) (N0:=["spots"]) rfl rfl (λx h=>bz h) (by decide +kernel)) (bX (EV.cast (aZ.im (j2 (pT (C:=C) HD (aa 0 rfl)) (ov_some (eG ht)) ov_none)) hc))
  (λC s H ex=>aX 0) (λx=>⟨.inr rfl,.inl rfl,trivial⟩) (λC' s H ex c hc=>dE) (λC' s H ex o ho _=>by cases ho))) rfl)
abbrev G4:Stmt:=top oV
theorem IP:aF ["spots"] ["spots"] (ai G4):=Vk
theorem L9 (M3:jk mg)(HD:bF K D fh)(CN:aH P w K mg base "name_words" 1 (aN (xt C D) K))(Df:Def K mg "parts_beyond" G4 ["spots"]):aH P w K mg base "parts_beyond" 2 (aN (ia C D) K):=by
 have nd:=IP.nd
 refine bJ (k:=1) Df IP (λf UX A outer st H E qs T hr hS=>?_)
 obtain⟨s,rfl,hG,rfl⟩:=hS
 obtain⟨t,ht⟩:=M3.parts
 change WS _ _ [.im (bq C D) s] _ _
 have hc:cut (s.parts.map j3) (some 4) none=[]:=by
  rw[show((4:Int))=((4:Nat):Int) from rfl,pW,← QU,Qt hG.pl];rfl
 exact ao (a8 (y:=([]:OB)) (aE CN hr (aj (aa 0 rfl) (aj (x:=([]:List PV)) (EV.cast (aZ.im (j2 (g8 (C:=C) HD (aa 0 rfl)) (ov_some (eG ht)) ov_none)) hc) aw)) ⟨s,rfl,rfl⟩) rfl)
abbrev B2:Stmt:=top uH
abbrev Ox:OC:=["spots","part","first","last","told","row","step"]
theorem DD:aF Ox ["spots","part"] (ai B2):=Vk
def BO (C D:Addr):cP:=λK ps T=>∃(s:gI) (i:Nat) (p:gg),ps=[⟨bq C D,s⟩,⟨ah,(i:Int)⟩]/\Good s/\s.parts[i]?=some p/\T=bU K iW (· =cj s p)
theorem nD (F:OH)(k:Int):(dM F k).length<=F.length+1:=by
 unfold dM;split
 ·omega
 ·rw[O4];simp
theorem ES (p:gg)(F:OH)(r:Rw):(dz p F r).length<=F.length+2:=by
 unfold dz;split
 ·exact QX (nD _ _) (by have:=nD F r.1;omega)
 ·omega
theorem GF (p:gg)(F:OH)(rs:List Rw):(rs.foldl (dz p) F).length<=F.length+2*rs.length:=by
 induction rs generalizing F with
 | nil=>exact QW _
 | cons r rs ih=>
   rw[PZ,O8]
   have:=ih (dz p F r)
   have:=ES p F r
   omega
theorem Ks (M:cH K mg)(M3:jk mg)(HD:bF K D fh)(Df:Def K mg "places_in" B2 ["spots","part"]):aH P w K mg base "places_in" 1 (aN (BO C D) K):=by
 have nd:=DD.nd
 refine bJ Df DD (λf UX A outer st H E qs T hr hS=>?_)
 obtain⟨s,i,p,rfl,hG,hp,rfl⟩:=hS
 obtain⟨t1,hbg⟩:=M3.beg
 obtain⟨t2,hen⟩:=M3.end_
 have pm:=O6 hp
 have il:=(OW.mp hp).1
 obtain⟨p0,p1⟩:=hG.pv p pm
 have hrl:=hG.rl
 have VM:cy (s.parts.map j3) (i:Int)=some (j3 p):=by
  rw[pQ (by omega) (by rw[OZ];omega),show((i:Nat):Int).toNat=i by omega,O5,hp];rfl
 change WS _ _ [.im (bq C D) s,ar (i:Int),.no,.no,.no,.no,.no] _ _
 refine ak (a9 2 (y:=p.2.1) (EV.iP (c5 (xs:=[.str p.1,.int p.2.1,.int p.2.2]) (bo (g8 (C:=C) HD (aa 0 rfl)) (aa 1 rfl) VM) ev_int rfl)) ?_)
 refine ak (a9 3 (y:=p.2.2) (EV.iP (c5 (xs:=[.str p.1,.int p.2.1,.int p.2.2]) (bo (g8 (C:=C) HD (aa 0 rfl)) (aa 1 rfl) VM) ev_int rfl)) ?_)
 change WS _ _ [.im (bq C D) s,ar (i:Int),ar p.2.1,ar p.2.2,.no,.no,.no] _ _
 refine ak (EW 4 (v:=0) (u:=1) (sV (C:=C) 0 2 HD rfl rfl (aY (xs:=s.St) (i:=p.2.1) 0 p0 (by rw[hG.sl];exact p1))) (vS 3 rfl) (iK rfl hbg ⟨t1,rfl⟩) (iK rfl hen ⟨t2,rfl⟩) (hG.eb p pm) ?_)
 generalize hF0:[(s.St.getD p.2.1.toNat 0,(0:Int)),(p.2.2,1)]=F0
 have Ve:cj s p=s.rows.foldl (dz p) F0:=by unfold cj;rw[hF0]
 have f0l:F0.length=2:=by rw[← hF0];rfl
 rw[Ve]
 change WS _ _ [.im (bq C D) s,ar (i:Int),ar p.2.1,ar p.2.2,.di (cR F0),.no,.no] _ _
 refine bM (N1:=λΓ=>∃e5 e6,Γ=[.im (bq C D) s,ar (i:Int),ar p.2.1,ar p.2.2,.di (cR (s.rows.foldl (dz p) F0)),e5,e6]) (cJ (λj Γ=>∃e5 e6,Γ=[.im (bq C D) s,ar (i:Int),ar p.2.1,ar p.2.2,.di (cR ((s.rows.take j).foldl (dz p) F0)),e5,e6]) (bX (pT (C:=C) HD (aa 0 rfl))) (aX 5) ⟨_,_,rfl⟩ (λj z Γ hz hΓ=>?_) (λΓ hΓ=>?_)) ?_
 ·obtain⟨e5,e6,rfl⟩:=hΓ
  rw[O5] at hz
  obtain⟨r,WM,rfl⟩:=Rl.mp hz
  have jl:=(OW.mp WM).1
  have fl:=GF p F0 (s.rows.take j)
  have tl:(s.rows.take j).length<=30:=by rw[Pl];omega
  have V5:(s.rows.take (j+1)).foldl (dz p) F0=dz p ((s.rows.take j).foldl (dz p) F0) r:=by rw[PJ,WM,Qh];rfl
  rw[V5]
  generalize (s.rows.take j).foldl (dz p) F0=Fj at fl
  have fj:Fj.length<=62:=by omega
  change WS _ _ [.im (bq C D) s,ar (i:Int),ar p.2.1,ar p.2.2,.di (cR Fj),.im aI (h8 r),e6] _ _
  refine ao (bE (B0 lZ lZ (aa 2 rfl) (EV.iP (n:=r.1) (c5 (aa 5 rfl) ev_int rfl)) (aa 3 rfl)) (λh=>?_) (λh=>aW ⟨.im aI (h8 r),e6,?_⟩))
  ·have V6:f7 p r=true:=h
   have hcut:cut [PV.int r.1,.int r.2.1,.str r.2.2.1,.str r.2.2.2] none (some 2)=[.int r.1,.int r.2.1]:=rfl
   have g:dz p Fj r=dM (dM Fj r.1) r.2.1:=UL V6
   rw[g]
   have l1:=nD Fj r.1
   refine ao (cJ (r:=aI) (xs:=[.int r.1,.int r.2.1]) (λq Γ=>∃e6,Γ=[.im (bq C D) s,ar (i:Int),ar p.2.1,ar p.2.2,.di (cR (([r.1,r.2.1].take q).foldl dM Fj)),.im aI (h8 r),e6]) (Fx (by show 2<=RE;decide) (EV.cast (G7 (aa 5 rfl) ov_none (ov_some ev_int)) (congrArg PV.tup hcut))) (aX 6) ⟨_,rfl⟩ (λq y Γ hy hΓ=>?_) (λΓ hΓ=>?_))
   ·obtain⟨e6,rfl⟩:=hΓ
    obtain⟨n,hn,rfl⟩:∃n,[r.1,r.2.1][q]?=some n/\PV.int n=y:=by
     have:([r.1,r.2.1].map PV.int)[q]?=some y:=hy
     rw[O5] at this
     exact Rl.mp this
    have hnq:([r.1,r.2.1].take (q+1)).foldl dM Fj=dM (([r.1,r.2.1].take q).foldl dM Fj) n:=by rw[PJ,hn,Qh];rfl
    rw[hnq]
    have hql:(([r.1,r.2.1].take q).foldl dM Fj).length<=64:=by
     have key:∀(ks:OB) (G:OH),(ks.foldl dM G).length<=G.length+ks.length:=by
      intro ks
      induction ks with
      | nil=>intro G;exact QW _
      | cons k ks ih=>intro G;rw[PZ,O8];have:=ih (dM G k);have:=nD G k;omega
     have:=key ([r.1,r.2.1].take q) Fj
     have:([r.1,r.2.1].take q).length<=2:=by rw[Pl];exact Rf _ _
     omega
    generalize ([r.1,r.2.1].take q).foldl dM Fj=G at hql
    change WS _ _ [.im (bq C D) s,ar (i:Int),ar p.2.1,ar p.2.2,.di (cR G),.im aI (h8 r),.im aI (.int n)] _ _
    refine ao (Iz 4 (k:=n) (EV.iP (aa 6 rfl)) (Cz 4 M.len rfl) rfl (QZ hql (by decide)) ⟨.im aI (.int n),?_⟩)
    unfold dM
    rfl
   ·obtain⟨e6,rfl⟩:=hΓ
    exact⟨.im aI (h8 r),e6,rfl⟩
  ·have V6:¬f7 p r=true:=by
    rw[show f7 p r=false from h];decide
   rw[show dz p Fj r=Fj from UK V6]
 ·obtain⟨e5,e6,rfl⟩:=hΓ
  refine⟨e5,e6,?_⟩
  rw[OZ,PK]
 rintro _ ⟨e5,e6,rfl⟩
 exact ao (wG 4 rfl rfl)
end
def xP:PV->Int
 | .tup (.int n::_)=>n
 | _=>0
section
variable {C D:Addr}
abbrev Ao:Stmt:=top nW
abbrev JV:OC:=["spots","known","lost","found","number","part","whole"]
theorem GQ:aF JV ["spots"] (ai Ao):=Vk
theorem Mj (M:cH K mg)(M3:jk mg)(HD:bF K D fh)(CN:aH P w K mg base "name_words" 1 (aN (xt C D) K))(CT:aH P w K mg base "come_to" 1 (aN (Jc C D) K))(CP:aH P w K mg base "places_in" 1 (aN (BO C D) K))(F:dU K "places_beyond" "places_beyond" Ao f fd)(hm:mg "places_beyond"=some (.ref f))(hb:Binds K fd ["spots"] []):aH P w K mg base "places_beyond" 2 (aN (ia C D) K):=by
 have nd:=GQ.nd
 have Wf:Pt [("row":Str),"known"]:=by decide
 have Xs:Pt [("row":Str),"part"]:=by decide
 refine gP (k:=1) F GQ hm hb (λqs T ⟨_,e,_⟩=>by rw[e];rfl) (λUX A outer st H E qs T hr hS=>?_)
 obtain⟨s,rfl,hG,rfl⟩:=hS
 obtain⟨t,hmp⟩:=M3.places
 have hu:=ru hr
 change WS _ _ [.im (bq C D) s,.no,.no,.no,.no,.no,.no] _ _
 refine ak (xj 1 CT hr (aj (aa 0 rfl) aw) ⟨s,rfl,hG,rfl⟩ ?_)
 rintro _ ⟨fd,rfl,hR⟩
 change WS _ _ [.im (bq C D) s,.im gW (dT fd),.no,.no,.no,.no,.no] _ _
 have Zl:(((s.rows.map h8).filter λz=> !ip (dT fd) (xP z)).map xP)=[]:=i4 λz hz=>by
  obtain⟨r,WM,rfl⟩:=Pe.mp hz
  obtain⟨⟨r0,r1⟩,rk⟩:=hG.rk r WM
  have:=hG.ct fd hR r.1.toNat (by omega) (by rw[show((r.1.toNat:Nat):Int)=r.1 by omega];exact rk)
  rw[show((r.1.toNat:Nat):Int)=r.1 by omega] at this
  show(!ip (dT fd) r.1)=false
  rw[mE,UO this];rfl
 refine ak (kY 2 (own:=["row"]) (fr:=["known"]) (ix:=[1]) (ra:=aI) (rb:=ah) (p:=λz=> !ip (dT fd) (xP z)) (f:=xP) (bK (so:=ai Ao) (N0:=JV) rfl rfl (λx h=>bz h) (by decide +kernel)) (bX (pT (C:=C) HD (aa 0 rfl)))
  (λC s H ex=>aX 0) (λx=>⟨.inr rfl,.inl rfl,trivial⟩) (λC' s H ex z hz=>by
   obtain⟨r,_,rfl⟩:=Pe.mp hz
   exact hX (wN hu (EV.iP (n:=r.1) (c5 (aa 0 rfl) ev_int rfl)) (aa 1 rfl))) (λC' s H ex z hz _=>by
   obtain⟨r,_,rfl⟩:=Pe.mp hz
   exact EV.iP (n:=r.1) (c5 (aa 0 rfl) ev_int rfl)) ?_)
 rw[Zl]
 refine WS.freeze 2 rfl (QY _) ?_
 refine ak (cS 3 (r:=aI) (ys:=[]) (aV aR (QY _)) ?_)
 change WS _ _ [.im (bq C D) s,.im gW (dT fd),cb [],.mu aI [],.no,.no,.no] _ _
 refine bM (N1:=λΓ=>∃e4 e5 e6,Γ=[.im (bq C D) s,.im gW (dT fd),cb [],.mu aI [],e4,e5,e6]) (cJ (λi Γ=>∃e4 e5 e6,Γ=[.im (bq C D) s,.im gW (dT fd),cb [],.mu aI [],e4,e5,e6]) (iz M.enumerate (g8 (C:=C) HD (aa 0 rfl))) (fO 4 5) ⟨_,_,_,rfl⟩ (λi z Γ hz hΓ=>?_) (λΓ hΓ=>hΓ)) ?_
 ·obtain⟨e4,e5,e6,rfl⟩:=hΓ
  obtain⟨e1,e2⟩:=eJ hz
  rw[O5] at e2
  obtain⟨p,hp,ep⟩:=Rl.mp e2
  obtain⟨zn,zp⟩:=z
  dsimp only at e1 ep
  subst ep
  subst e1
  change WS _ _ [.im (bq C D) s,.im gW (dT fd),cb [],.mu aI [],ar (i:Int),.im aI (j3 p),e6] _ _
  refine ak (a9 6 (y:=true) (EV.cast (Aj (GB M.any (aZ.im (bY (own:=["row"]) (fr:=["part"]) (ix:=[5]) (ra:=ah) (rb:=cU) (p:=λ_=>true) (f:=λ_=>true) (bK (so:=ai Ao) (N0:=JV) rfl rfl (λx h=>bz h) (by decide +kernel)) (bX (aa 2 rfl))
   (λC s H ex=>aX 0) (λx=>⟨.inr rfl,.inl rfl,trivial⟩) (λC' s H ex c hc=>dE) (λC' s H ex o ho _=>by cases ho))))) rfl) ?_)
  change WS _ _ [.im (bq C D) s,.im gW (dT fd),cb [],.mu aI [],ar (i:Int),.im aI (j3 p),.im cU true] _ _
  refine ao (bE (TW.tv (c6 (eL (aa 6 rfl)) (λ_=>ee (aD ir (ud M.len (aE CP hr (aj (aa 0 rfl) (aj (aa 4 rfl) aw)) ⟨s,i,p,rfl,hG,hp,rfl⟩)) (eG hmp))))) (λh=>?_) (λh=>aW ⟨_,_,_,rfl⟩))
  exfalso
  have:=hG.pc p (O6 hp)
  rw[UP (show¬(16:Int)<((cj s p).length:Int) by omega)] at h
  cases h
 rintro _ ⟨e4,e5,e6,rfl⟩
 refine WS.freeze 3 rfl (QY _) ?_
 exact ao (a8 (y:=([]:OB)) (aE CN hr (aj (aa 0 rfl) (aj (aa 3 rfl) aw)) ⟨s,rfl,rfl⟩) rfl)
abbrev GC:Stmt:=top sr
abbrev nHI:OC:=["spots","found"]
theorem Kd:aF nHI ["spots"] (ai GC):=Vk
theorem KD (NA:aH P w K mg base "named_again" 2 (aN (ia C D) K))(CA:aH P w K mg base "called_astray" 1 (aN (ia C D) K))(NC:aH P w K mg base "not_come_to" 2 (aN (ia C D) K))(NL:aH P w K mg base "not_called" 2 (aN (ia C D) K))(EB:aH P w K mg base "ended_at_begin" 2 (aN (ia C D) K))(RB:aH P w K mg base "rows_beyond" 1 (aN (ia C D) K))(PY:aH P w K mg base "places_beyond" 2 (aN (ia C D) K))(PB:aH P w K mg base "parts_beyond" 2 (aN (ia C D) K))(Df:Def K mg "hindrances" GC ["spots"]):aH P w K mg base "hindrances" 3 (aN (ia C D) K):=by
 have nd:=Kd.nd
 have CA:=CA.mono (show 1<=2 by decide)
 have RB:=RB.mono (show 1<=2 by decide)
 refine bJ (k:=2) Df Kd (λf UX A outer st H E qs T hr hS=>?_)
 obtain⟨s,rfl,hG,rfl⟩:=hS
 change WS _ _ [.im (bq C D) s,.no] _ _
 have z:(([]:OB)).length+(([]:OB)).length<=RE:=QY _
 refine ak (a9 1 (y:=([]:OB)) (aZ.im (cD (xs:=[]) (ys:=[]) (aZ.im (cD (xs:=[]) (ys:=[]) (aZ.im (cD (xs:=[]) (ys:=[]) (aE NA hr (aj (aa 0 rfl) aw) ⟨s,rfl,hG,rfl⟩) (aE CA hr (aj (aa 0 rfl) aw) ⟨s,rfl,hG,rfl⟩) z)) (aE NC hr (aj (aa 0 rfl) aw) ⟨s,rfl,hG,rfl⟩) z)) (aE NL hr (aj (aa 0 rfl) aw) ⟨s,rfl,hG,rfl⟩) z)) ?_)
 change WS _ _ [.im (bq C D) s,cb []] _ _
 exact ao (a8 (y:=([]:OB)) (aZ.im (cD (xs:=[]) (ys:=[]) (aZ.im (cD (xs:=[]) (ys:=[]) (aZ.im (cD (xs:=[]) (ys:=[]) (aZ.im (cD (xs:=[]) (ys:=[]) (aa 1 rfl) (aE EB hr (aj (aa 0 rfl) aw) ⟨s,rfl,hG,rfl⟩) z)) (aE RB hr (aj (aa 0 rfl) aw) ⟨s,rfl,hG,rfl⟩) z)) (aE PY hr (aj (aa 0 rfl) aw) ⟨s,rfl,hG,rfl⟩) z)) (aE PB hr (aj (aa 0 rfl) aw) ⟨s,rfl,hG,rfl⟩) z)) rfl)
abbrev Ic:Stmt:=top pf
abbrev nNP:OC:=["text","spots","found"]
theorem IE:aF nNP ["text"] (ai Ic):=Vk
def Ed (C D:Addr):cP:=λK ps T=>∃(x:Str) (S:List ay) (Ld:List OB),ps=[⟨ag,x⟩]/\mx x S/\lM S Ld/\Good (U4 S Ld)/\T=bU K (bq C D) (· =U4 S Ld)
theorem KC (G:tY P w K mg base C D)(CH:aH P w K mg base "hindrances" 3 (aN (ia C D) K))(Df:Def K mg "need_program" Ic ["text"]):aH P w K mg base "need_program" 6 (aN (Ed C D) K):=by
 have nd:=IE.nd
 have CH:=CH.mono (show 3<=5 by decide)
 refine bJ (k:=5) Df IE (λf UX A outer st H E qs T hr hS=>?_)
 obtain⟨x,S,Ld,rfl,hx,hk,hG,rfl⟩:=hS
 change WS _ _ [.im ag x,.no,.no] _ _
 refine ak (a9 1 (y:=U4 S Ld) (Bv G hr (aj (aa 0 rfl) aw) hx hk) ?_)
 refine ak (a9 2 (y:=([]:OB)) (aE CH hr (aj (aa 1 rfl) aw) ⟨U4 S Ld,rfl,hG,rfl⟩) ?_)
 change WS _ _ [.im ag x,.im (bq C D) (U4 S Ld),cb []] _ _
 refine ak (bE (tO (aa 2 rfl)) (λh=>by cases h) (λ_=>aW ?_))
 exact ao (a8 (aa 1 rfl) rfl)
end
section
variable {α:Type}{a b:Int}{l:OB}
def Pure:Prop:=∀(UQ:OC) (Ls:List (List Th)),cf UQ Ls->∃Ld,lM (aq UQ Ls) Ld/\Good (U4 (aq UQ Ls) Ld)
theorem w8 {UQ:OC}{Ls:List (List Th)}(h:cf UQ Ls):mx (T9 " " (fu UQ Ls)) (aq UQ Ls):=by
 obtain⟨pl,po⟩:=sT h
 refine⟨fu UQ Ls,_,rfl,λe=>?_,pl,po,rP h⟩
 have:=h.l1
 have hl:=h.l
 cases UQ with
 | nil=>rw[Pz] at hl;omega
 | cons x UQ=>cases Ls with
   | nil=>exact UJ h.l1 (by simp)
   | cons L Ls=>
     unfold fu at e
     rw[List.zip_cons_cons,Qj] at e
     unfold fk at e
     simp at e
def bZ (S:List α)(a:Nat)(vs:List α):Prop:=∀(i:Nat) (v:α),vs[i]?=some v->S[a+i]?=some v
theorem bZ.app {S:List α}{w:Nat}{a b:List α}(h:bZ S w (a++b)):bZ S w a/\bZ S (w+a.length) b:=by
 refine⟨λi v hv=>h i v ?_,λi v hv=>?_⟩
 ·rw[Pr (OW.mp hv).1];exact hv
 ·have:=h (a.length+i) v (by rw[Pp (by omega),show a.length+i-a.length=i by omega];exact hv)
  rw[show w+a.length+i=w+(a.length+i) by omega];exact this
theorem bZ.self (S:List α):bZ S 0 S:=λi v hv=>by rw[Q4];exact hv
theorem bZ.d {α:Type}{S:List α}{a:Nat}{vs:List α}(h:bZ S a vs){i:Nat}{v:α}(hv:vs[i]?=some v)(d:α):S.getD (a+i) d=v/\a+i<S.length:=by
 have:=h i v hv
 exact⟨by rw[OY,this];rfl,(OW.mp this).1⟩
theorem bZ.k {S:List ay}{a:Nat}{vs:List ay}(h:bZ S a vs){i:Nat}{v:ay}(hv:vs[i]?=some v):aO S ((a+i:Nat):Int)=v.kind/\ck S ((a+i:Nat):Int)=v.within/\a+i<S.length:=by
 obtain⟨e,l⟩:=h.d hv c7
 unfold aO
 rw[show(((a+i:Nat)):Int).toNat=a+i by omega,e]
 refine⟨rfl,?_,l⟩
 show(S.getD (((a+i:Nat)):Int).toNat c7).within=_
 rw[show(((a+i:Nat)):Int).toNat=a+i by omega,e]
def cw (S:List ay):OB:=(S.filter λt=>decide (t.kind∈UY)).map (·.within)
theorem f9 (a b:List ay):cw (a++b)=cw a++cw b:=by unfold cw;rw[Qb,Ph]
theorem ma {s:ay}(h:s.kind∉UY):cw [s]=[]:=by unfold cw;rw[P4 (by simpa using h)];rfl
theorem pH {s:ay}(h:s.kind∈UY):cw [s]=[s.within]:=by unfold cw;rw[P2 (by simpa using h)];rfl
def ic (a b:Int)(l:OB):Prop:=l.Nodup/\∀x∈l,a<=x/\x<b
theorem ic.app {c:Int}{m:OB}(h:ic a b l)(h':ic b c m)(h1:a<=b)(h2:b<=c):ic a c (l++m):=by
 refine⟨P6.mpr ⟨h.1,h'.1,λx hx y hy e=>?_⟩,λx hx=>?_⟩
 ·have:=h.2 x hx;have:=h'.2 y hy;omega
 ·rcases Pa.mp hx with z | z
  ·have:=h.2 x z;omega
  ·have:=h'.2 x z;omega
theorem ic.wide {a' b':Int}(h:ic a b l)(h1:a'<=a)(h2:b<=b'):ic a' b' l:=⟨h.1,λx hx=>by have:=h.2 x hx;omega⟩
theorem ic.add {x:Int}(h:ic a b l)(hx:x<a∨b<=x)(lo hi:Int)(h1:lo<=a)(h2:b<=hi)(h3:lo<=x)(h4:x<hi):ic lo hi (l++[x]):=by
 refine⟨iy h.1 λz=>by have:=h.2 x z;omega,λy hy=>?_⟩
 rcases Pa.mp hy with z | z
 ·have:=h.2 y z;omega
 ·rw[O0.mp z];omega
theorem ic.nil (a b:Int):ic a b []:=⟨Qw,λx h=>by cases h⟩
mutual
theorem cwT {UQ:OC}:∀(t:Th) (a w u:Int),ic a (a+br t) (cw (spT UQ a w u t))
 | .Vl _,a,w,u=>by rw[spT,ma (show("do":Str)∉UY by decide +kernel)];exact .nil _ _
 | .call _,a,w,u=>by rw[spT,ma (show("call":Str)∉UY by decide +kernel)];exact .nil _ _
 | .leave,a,w,u=>by rw[spT,ma (show("leave":Str)∉UY by decide +kernel)];exact .nil _ _
 | .back,a,w,u=>by rw[spT,ma (show("back":Str)∉UY by decide +kernel)];exact .nil _ _
 | .U6 x A,a,w,u=>by
   have h:=yY (UQ:=UQ) A (a+1) (w+2) a
   rw[spT,br,f9,f9,ma (show("while":Str)∉UY by decide +kernel),pH (show("end":Str)∈UY by decide +kernel),Qd]
   push_cast
   exact h.add (.inl (by omega)) _ _ (by omega) (by omega) (by omega) (by omega)
 | .ifs x A B,a,w,u=>by
   have h:=yY (UQ:=UQ) A (a+1) (w+2) a
   have h':=yY (UQ:=UQ) B (a+2+UU A) (w+3+(U3 UQ A).length) (a+1+UU A)
   rw[spT,br,f9,f9,f9,f9,ma (show("if":Str)∉UY by decide +kernel),pH (show("else":Str)∈UY by decide +kernel),pH (show("end":Str)∈UY by decide +kernel),Qd]
   push_cast
   have g1:ic a (a+1+UU A) (cw (bN UQ (a+1) (w+2) a A)++[a]):=h.add (.inl (by omega)) _ _ (by omega) (by omega) (by omega) (by omega)
   have g2:ic (a+1+UU A) (a+2+UU A+UU B) (cw (bN UQ (a+2+UU A) (w+3+(U3 UQ A).length) (a+1+UU A) B)++[a+1+UU A]):=h'.add (.inl (by omega)) _ _ (by omega) (by omega) (by omega) (by omega)
   have g:=g1.app g2 (by omega) (by omega)
   rw[Pg] at g
   exact g.wide (by omega) (by omega)
theorem yY {UQ:OC}:∀(ts:List Th) (a w u:Int),ic a (a+UU ts) (cw (bN UQ a w u ts))
 | [],a,w,u=>by rw[bN];exact .nil _ _
 | t::ts,a,w,u=>by
   have h:=cwT (UQ:=UQ) t a w u
   have h':=yY (UQ:=UQ) ts (a+br t) (w+(cL UQ t).length) u
   rw[bN,f9,UU]
   push_cast
   exact(h.app h' (by omega) (by omega)).wide (by omega) (by omega)
end
end
section
variable {S:List ay}
theorem Nc {UQ:OC}:∀(zs:List (Str×List Th)) (a w:Int),ic a (a+cW zs) (cw (gK UQ a w zs))
 | [],a,w=>by rw[gK];exact .nil _ _
 | z::r,a,w=>by
   have h:=yY (UQ:=UQ) z.2 (a+1) (w+2) a
   have h':=Nc (UQ:=UQ) r (a+2+UU z.2) (w+3+(U3 UQ z.2).length)
   rw[gK,cW,f9,f9,f9,ma (show("part":Str)∉UY by decide +kernel),pH (show("end":Str)∈UY by decide +kernel),Qd]
   push_cast
   have g1:ic a (a+2+UU z.2) (cw (bN UQ (a+1) (w+2) a z.2)++[a]):=h.add (.inl (by omega)) _ _ (by omega) (by omega) (by omega) (by omega)
   have g:=g1.app h' (by omega) (by omega)
   rw[Pg] at g
   exact g.wide (by omega) (by omega)
theorem Cp {a b:Option Int}(h:a.map V.int=b.map V.int):a=b:=by
 cases a<;>cases b<;>simp at h<;>simp[h]
theorem uL (F:OH)(k v j:Int):bA (lR F k v) j=if j=k then some v else bA F j:=by
 have h:=BA (cz (cR F)) (Sum.inl k:Key) (Sum.inl j) (.int v)
 rw[uU,kW,kW] at h
 apply Cp
 rw[h]
 by_cases e:j=k
 ·rw[UL (by rw[e]),UL e];rfl
 ·rw[UK (λz=>e (Sum.inl.inj z)),UK e]
theorem jw {F:OH}{k:Int}:(bA F k).isSome=true↔k∈F.map (·.1):=by
 unfold bA
 rw[Ro,List.find?_isSome]
 simp only[decide_eq_true_eq,Pe]
theorem wa {k:Int}:∀{ps:List (Int×ay)} {F:OH},(∀z∈ps,z.2.kind∈UY->z.2.within≠k)->bA (ps.foldl fV F) k=bA F k
 | [],F,_=>rfl
 | y::ps,F,h=>by
   rw[PZ,wa λz hz=>h z (O2 _ hz)]
   unfold fV
   split
   ·rename_i hc
    rw[uL,UK (λe=>h y O3 hc e.symm)]
   ·rfl
theorem qw:∀{ps:List (Int×ay)} {F:OH},((ps.filter λz=>decide (z.2.kind∈UY)).map (·.2.within)).Nodup->∀z∈ps,z.2.kind∈UY->bA (ps.foldl fV F) z.2.within=some z.1
 | y::ps,F,nd,z,hz,hc=>by
   rw[PZ]
   by_cases hy:y.2.kind∈UY
   ·rw[P2 (by simpa using hy),PH,Pw] at nd
    rcases O7.mp hz with rfl | hz
    ·rw[wa λx hx hxc e=>nd.1 (Pe.mpr ⟨x,PM.mpr ⟨hx,by simpa using hxc⟩,e⟩)]
     unfold fV
     rw[UL hy,uL,UL rfl]
    ·exact qw nd.2 z hz hc
   ·rw[P4 (by simpa using hy)] at nd
    rcases O7.mp hz with rfl | hz
    ·exact UJ hc hy
    ·exact qw nd z hz hc
theorem n8 (S:List ay):(nums S).map (·.2)=S:=by
 refine PX λi=>?_
 rw[O5]
 rcases Q2 i S.length with h | h
 ·have hn:i<(nums S).length:=by rw[cK];exact h
  rw[OX hn]
  have:=(eJ (OX hn)).2
  rw[this];rfl
 ·rw[Po (by rw[cK];exact h),Po h];rfl
theorem EH (S:List ay):cw S=((nums S).filter λz=>decide (z.2.kind∈UY)).map (·.2.within):=by
 conv=>lhs;rw[← n8 S]
 unfold cw
 rw[QV,PQ]
 rfl
theorem oG {n:Nat}{s:ay}(h:S[n]?=some s):((n:Int),s)∈nums S:=by
 have hl:=(OW.mp h).1
 have hn:n<(nums S).length:=by rw[cK];exact hl
 obtain⟨e1,e2⟩:=eJ (OX hn)
 rw[h] at e2
 have:(nums S)[n]=((n:Int),s):=Rp e1 (Option.some.inj e2).symm
 rw[← this]
 exact PD hn
theorem pA (nd:(cw S).Nodup){n:Nat}{s:ay}(h:S[n]?=some s)(hc:s.kind∈UY):bA (dI S) s.within=some (n:Int):=by
 rw[EH] at nd
 exact qw nd ((n:Int),s) (oG h) hc
def Up (S:List ay)(u:Int)(kd:Str)(a:Int):Prop:=∃k:Nat,Vi (ck S) k u=a/\(∀j,j<=k->0<=Vi (ck S) j u/\Vi (ck S) j u<(S.length:Int))/\(∀j,j<k->aO S (Vi (ck S) j u)≠kd)/\aO S a=kd
theorem qp {α:Type}(f:α->α)(x:α)(j:Nat):Vi f (j+1) x=Vi f j (f x):=by
 rw[show j+1=1+j by omega,nj];rfl
theorem Up.here {u:Int}{kd:Str}(h0:0<=u)(h1:u<(S.length:Int))(hk:aO S u=kd):Up S u kd u:=⟨0,rfl,λj hj=>by
 obtain rfl:j=0:=by omega
 exact⟨h0,h1⟩,λj hj=>by omega,hk⟩
theorem Up.step {u a:Int}{kd:Str}(h0:0<=u)(h1:u<(S.length:Int))(hk:aO S u≠kd)(h:Up S (ck S u) kd a):Up S u kd a:=by
 obtain⟨k,e,V6,U9,ha⟩:=h
 refine⟨k+1,by rw[qp];exact e,λj hj=>?_,λj hj=>?_,ha⟩
 ·cases j with
  | zero=>exact⟨h0,h1⟩
  | succ j=>rw[qp];exact V6 j (by omega)
 ·cases j with
  | zero=>exact hk
  | succ j=>rw[qp];exact U9 j (by omega)
mutual
def eN (a wl pe:Int):Th->List OB
 | .Vl _=>[[a+1]]
 | .call _=>[[a+1]]
 | .ifs _ A B=>[[a+1,a+2+UU A]]++fE (a+1) wl pe A++([[a+2+UU A+UU B]]++(fE (a+2+UU A) wl pe B++[[a+3+UU A+UU B]]))
 | .U6 _ A=>[[a+1,a+2+UU A]]++(fE (a+1) (a+2+UU A) pe A++[[a]])
 | .leave=>[[wl]]
 | .back=>[[pe]]
def fE (a wl pe:Int):List Th->List OB
 | []=>[]
 | t::ts=>eN a wl pe t++fE (a+br t) wl pe ts
end
end
mutual
theorem nB:∀(t:Th) (a wl pe:Int),(eN a wl pe t).length=br t
 | .Vl _,_,_,_=>by simp[eN,br]
 | .call _,_,_,_=>by simp[eN,br]
 | .ifs x A B,a,wl,pe=>by
   simp only[eN,br,O4,dy A,dy B,O8,Pz]
   omega
 | .U6 x A,a,wl,pe=>by
   simp only[eN,br,O4,dy A,O8,Pz]
   omega
 | .leave,_,_,_=>by simp[eN,br]
 | .back,_,_,_=>by simp[eN,br]
theorem dy:∀(ts:List Th) (a wl pe:Int),(fE a wl pe ts).length=UU ts
 | [],_,_,_=>by simp[fE,UU]
 | t::ts,a,wl,pe=>by rw[fE,UU,O4,nB t,dy ts]
end
section
variable {S:List ay}{Ld:List OB}{B pe:Int}{a:Nat}
def rq (a:Int):List (Str×List Th)->List OB
 | []=>[]
 | z::r=>[[a+1]]++(fE (a+1) 0 (a+1+UU z.2) z.2++([[]]++rq (a+2+UU z.2) r))
theorem wO:∀(zs:List (Str×List Th)) (a:Int),(rq a zs).length=cW zs
 | [],_=>rfl
 | z::r,a=>by
   rw[rq,cW]
   simp only[O4,dy,wO r,O8,Pz]
   omega
structure kq (S:List ay) (Ld:List OB) (B pe:Int) (n:Nat):Prop where
 ld:d8 S (dI S) (n:Int) (Ld.getD n [])
 rg:∀l∈Ld.getD n [],B<=l/\l<=pe
 ln:(Ld.getD n []).length<=2
 go:aP (aO S (n:Int))=false->∃l r,Ld.getD n []=l::r/\((n:Int)<l∨aP (aO S l)=true)
structure yU (S:List ay) (B pe wl u:Int) (lp:Bool) (hi:Nat):Prop where
 pt:∃p,Up S u "part" p/\bA (dI S) p=some pe
 wh:lp=true->(∃A,Up S u "while" A/\bA (dI S) A=some (wl-1))/\(hi:Int)<=wl/\wl<=pe
 pe:(hi:Int)<=pe
 u0:0<=u
 u1:u<(S.length:Int)
def gB (S:List ay)(Ld:List OB)(B pe:Int)(a k:Nat):Prop:=∀i,i<k->kq S Ld B pe (a+i)
theorem gB.app {k m:Nat}(h:gB S Ld B pe a k)(h':gB S Ld B pe (a+k) m):gB S Ld B pe a (k+m):=λi hi=>by
 by_cases q:i<k
 ·exact h i q
 ·have:=h' (i-k) (by omega)
  rwa [show a+k+(i-k)=a+i by omega] at this
theorem gB.one (h:kq S Ld B pe a):gB S Ld B pe a 1:=λi hi=>by
 obtain rfl:i=0:=by omega
 exact h
theorem gB.nil:gB S Ld B pe a 0:=λi hi=>by omega
theorem pY:aP "do"=true:=by decide +kernel
theorem lO:aP "call"=true:=by decide +kernel
theorem kJ:aP "if"=true:=by decide +kernel
theorem fH:aP "while"=true:=by decide +kernel
theorem i7 {n:Nat}{l:Int}(hL:Ld.getD n []=[l])(h:d8 S (dI S) (n:Int) [l])(h0:B<=l)(h1:l<=pe)(hg:(n:Int)<l∨aP (aO S l)=true):kq S Ld B pe n:=by
 refine⟨by rw[hL];exact h,by rw[hL];intro x hx;rw[O0.mp hx];exact⟨h0,h1⟩,by rw[hL];exact Q6 1,λ_=>⟨l,[],hL,hg⟩⟩
theorem yN {n:Nat}{l m:Int}(hL:Ld.getD n []=[l,m])(h:d8 S (dI S) (n:Int) [l,m])(h0:B<=l)(h1:l<=pe)(h2:B<=m)(h3:m<=pe)(hg:aP (aO S (n:Int))=true):kq S Ld B pe n:=by
 refine⟨by rw[hL];exact h,by
  rw[hL];intro x hx
  rcases O7.mp hx with rfl | hx
  ·exact⟨h0,h1⟩
  ·rw[O0.mp hx];exact⟨h2,h3⟩,by rw[hL];exact QW 2,λq=>by rw[hg] at q;cases q⟩
end
section
variable {S:List ay}{Ld:List OB}{UQ:OC}{lo m B pe:Int}(Xf:(cw S).Nodup)
include Xf
mutual
theorem stT:∀(t:Th) (lp:Bool) (a:Nat) (w u wl:Int),cq lo m lp t->bZ S a (spT UQ (a:Int) w u t)->bZ Ld a (eN (a:Int) wl pe t)->yU S B pe wl u lp (a+br t)->B<=(a:Int)->gB S Ld B pe a (br t)
 | .Vl x,lp,a,w,u,wl,h,hS,hL,hc,hB=>by
   rw[spT] at hS
   rw[eN] at hL
   simp only[br] at hc ⊢
   obtain⟨k1,k2,k3⟩:=hS.k (i:=0) rfl
   have e1:=(hL.d (i:=0) rfl []).1
   have:=hc.pe
   refine .one (i7 e1 (.Xj (.inr (.inl k1))) (by omega) (by push_cast at this;omega) (.inl ?_))
   show(a:Int)<_
   omega
 | .call x,lp,a,w,u,wl,h,hS,hL,hc,hB=>by
   rw[spT] at hS
   rw[eN] at hL
   simp only[br] at hc ⊢
   obtain⟨k1,k2,k3⟩:=hS.k (i:=0) rfl
   have e1:=(hL.d (i:=0) rfl []).1
   have:=hc.pe
   refine .one (i7 e1 (.Xj (.inr (.inr k1))) (by omega) (by push_cast at this;omega) (.inl ?_))
   show(a:Int)<_
   omega
 | .leave,lp,a,w,u,wl,h,hS,hL,hc,hB=>by
   simp only[cq] at h
   rw[spT] at hS
   rw[eN] at hL
   simp only[br] at hc ⊢
   obtain⟨k1,k2,k3⟩:=hS.k (i:=0) rfl
   have e1:=(hL.d (i:=0) rfl []).1
   obtain⟨⟨A,hA,hF⟩,w1,w2⟩:=hc.wh h
   push_cast at w1
   have hl:d8 S (dI S) ((a+0:Nat):Int) [wl-1+1]:=.XJ (a:=A) k1 (by unfold Ar;rw[k2];exact hA) hF
   rw[show wl-1+1=wl by omega] at hl
   refine .one (i7 e1 hl (by omega) (by omega) (.inl ?_))
   show(a:Int)<_
   omega
 | .back,lp,a,w,u,wl,h,hS,hL,hc,hB=>by
   rw[spT] at hS
   rw[eN] at hL
   simp only[br] at hc ⊢
   obtain⟨k1,k2,k3⟩:=hS.k (i:=0) rfl
   have e1:=(hL.d (i:=0) rfl []).1
   obtain⟨p,hp,hF⟩:=hc.pt
   have w1:=hc.pe
   push_cast at w1
   refine .one (i7 e1 (.X2 (a:=p) k1 (by unfold Ar;rw[show ck S (a:Int)=u from k2];exact hp) hF) (by omega) (by omega) (.inl ?_))
   show(a:Int)<_
   omega
 | .U6 x A,lp,a,w,u,wl,h,hS,hL,hc,hB=>by
   simp only[cq] at h
   rw[spT] at hS
   rw[eN] at hL
   simp only[br] at hc ⊢
   obtain⟨s1,s2⟩:=hS.app
   obtain⟨s2,s3⟩:=s2.app
   obtain⟨d1,d2⟩:=hL.app
   obtain⟨d2,d3⟩:=d2.app
   rw[bP] at s3
   rw[dy] at d3
   simp only[O8,Pz] at s2 s3 d2 d3
   obtain⟨k1,k2,k3⟩:=s1.k (i:=0) rfl
   obtain⟨k4,k5,k6⟩:=s3.k (i:=0) rfl
   have e1:=(d1.d (i:=0) rfl []).1
   have e3:=(d3.d (i:=0) rfl []).1
   have hF:bA (dI S) (a:Int)=some (((a+(0+1)+UU A+0:Nat)):Int):=pA (s:=⟨"end","",w+2+(U3 UQ A).length,(a:Int)⟩) Xf (s3 0 _ rfl) (show("end":Str)∈UY by decide +kernel)
   have Zb:=hc.pe
   push_cast at Zb hF
   have W9:aO S (a:Int)="while":=k1
   have k2':ck S (a:Int)=u:=k2
   have ala:a<S.length:=k3
   have p1:kq S Ld B pe a:=by
    have hl:d8 S (dI S) (a:Int) [(a:Int)+1,(a:Int)+(0+1)+UU A+0+1]:=.row (.inr W9) hF
    rw[show(a:Int)+(0+1)+UU A+0+1=(a:Int)+2+UU A by omega] at hl
    exact yN e1 hl (by omega) (by omega) (by omega) (by omega) (by rw[W9];exact fH)
   have c2:yU S B pe ((a:Int)+2+UU A) (a:Int) true (a+(0+1)+UU A):=by
    obtain⟨p,hp,Zc⟩:=hc.pt
    refine⟨⟨p,.step (by omega) (by omega) (by rw[W9];decide +kernel) (by rw[k2'];exact hp),Zc⟩,λ_=>⟨⟨(a:Int),.here (by omega) (by omega) W9,?_⟩,by push_cast;omega,by omega⟩,by push_cast;omega,by omega,by omega⟩
    rw[hF];congr 1;omega
   have p2:=zU A true (a+(0+1)) (w+2) (a:Int) ((a:Int)+2+UU A) h.2 (by push_cast;exact s2) (by push_cast;exact d2) c2 (by push_cast;omega)
   have p3:kq S Ld B pe (a+(0+1)+UU A+0):=by
    have hl:d8 S (dI S) ((a+(0+1)+UU A+0:Nat):Int) [ck S ((a+(0+1)+UU A+0:Nat):Int)]:=.XY k4 (by rw[k5];show(0:Int)<=(a:Int);omega) (by rw[k5];show(a:Int)<_;omega) (by rw[k5];exact W9)
    rw[k5] at hl
    exact i7 e3 hl (by omega) (by omega) (.inr (by rw[W9];exact fH))
   have:=(gB.one p1).app (p2.app (gB.one p3))
   rwa [show 1+(UU A+1)=2+UU A by omega] at this
 | .ifs x A Bb,lp,a,w,u,wl,h,hS,hL,hc,hB=>by
   simp only[cq] at h
   rw[spT,Pg] at hS
   rw[eN,Pg] at hL
   simp only[br] at hc ⊢
   obtain⟨s1,s2⟩:=hS.app
   obtain⟨s2,s3⟩:=s2.app
   obtain⟨s3,s4⟩:=s3.app
   obtain⟨s4,s5⟩:=s4.app
   obtain⟨d1,d2⟩:=hL.app
   obtain⟨d2,d3⟩:=d2.app
   obtain⟨d3,d4⟩:=d3.app
   obtain⟨d4,d5⟩:=d4.app
   rw[bP] at s3 s4 s5
   rw[bP] at s5
   rw[dy] at d3 d4 d5
   rw[dy] at d5
   simp only[O8,Pz] at s2 s3 s4 s5 d2 d3 d4 d5
   obtain⟨k1,k2,k3⟩:=s1.k (i:=0) rfl
   obtain⟨k4,k5,k6⟩:=s3.k (i:=0) rfl
   obtain⟨k7,k8,k9⟩:=s5.k (i:=0) rfl
   have e1:=(d1.d (i:=0) rfl []).1
   have e3:=(d3.d (i:=0) rfl []).1
   have e5:=(d5.d (i:=0) rfl []).1
   have hF:bA (dI S) (a:Int)=some (((a+(0+1)+UU A+0:Nat)):Int):=pA (s:=⟨"else","",w+2+(U3 UQ A).length,(a:Int)⟩) Xf (s3 0 _ rfl) (show("else":Str)∈UY by decide +kernel)
   have hF2:bA (dI S) ((a:Int)+1+UU A)=some (((a+(0+1)+UU A+(0+1)+UU Bb+0:Nat)):Int):=pA (s:=⟨"end","",w+3+(U3 UQ A).length+(U3 UQ Bb).length,(a:Int)+1+UU A⟩) Xf (s5 0 _ rfl) (show("end":Str)∈UY by decide +kernel)
   have Zb:=hc.pe
   push_cast at Zb hF hF2
   have W9:aO S (a:Int)="if":=k1
   have k2':ck S (a:Int)=u:=k2
   have ala:a<S.length:=k3
   have en:((a+(0+1)+UU A+0:Nat):Int)=(a:Int)+1+UU A:=by push_cast;omega
   rw[en] at k4 k5
   have k4':aO S ((a:Int)+1+UU A)="else":=k4
   have k5':ck S ((a:Int)+1+UU A)=(a:Int):=k5
   have p1:kq S Ld B pe a:=by
    have hl:d8 S (dI S) (a:Int) [(a:Int)+1,(a:Int)+(0+1)+UU A+0+1]:=.row (.inl W9) hF
    rw[show(a:Int)+(0+1)+UU A+0+1=(a:Int)+2+UU A by omega] at hl
    exact yN e1 hl (by omega) (by omega) (by omega) (by omega) (by rw[W9];exact kJ)
   have cA:yU S B pe wl (a:Int) lp (a+(0+1)+UU A):=by
    obtain⟨p,hp,Zc⟩:=hc.pt
    refine⟨⟨p,.step (by omega) (by omega) (by rw[W9];decide +kernel) (by rw[k2'];exact hp),Zc⟩,λq=>?_,by push_cast;omega,by omega,by omega⟩
    obtain⟨⟨Aw,hA,hAF⟩,w1,w2⟩:=hc.wh q
    push_cast at w1
    exact⟨⟨Aw,.step (by omega) (by omega) (by rw[W9];decide +kernel) (by rw[k2'];exact hA),hAF⟩,by push_cast;omega,w2⟩
   have cB:yU S B pe wl ((a:Int)+1+UU A) lp (a+(0+1)+UU A+(0+1)+UU Bb):=by
    obtain⟨p,hp,Zc⟩:=cA.pt
    refine⟨⟨p,.step (by omega) (by omega) (by rw[k4'];decide +kernel) (by rw[k5'];exact hp),Zc⟩,λq=>?_,by push_cast;omega,by omega,by omega⟩
    obtain⟨⟨Aw,hA,hAF⟩,w1,w2⟩:=cA.wh q
    obtain⟨_,w3,_⟩:=hc.wh q
    push_cast at w3
    exact⟨⟨Aw,.step (by omega) (by omega) (by rw[k4'];decide +kernel) (by rw[k5'];exact hA),hAF⟩,by push_cast;omega,w2⟩
   have p2:=zU A lp (a+(0+1)) (w+2) (a:Int) wl h.2.1 (by push_cast;exact s2) (by push_cast;exact d2) cA (by push_cast;omega)
   have p3:kq S Ld B pe (a+(0+1)+UU A+0):=by
    have hl:d8 S (dI S) ((a+(0+1)+UU A+0:Nat):Int) [(a:Int)+(0+1)+UU A+(0+1)+UU Bb+0]:=by rw[en];exact .X0 k4' hF2
    rw[show(a:Int)+(0+1)+UU A+(0+1)+UU Bb+0=(a:Int)+2+UU A+UU Bb by omega] at hl
    exact i7 e3 hl (by omega) (by omega) (.inl (by push_cast;omega))
   have q4:(((a+(0+1)+UU A+(0+1):Nat)):Int)=(a:Int)+2+UU A:=by push_cast;omega
   have p4:=zU Bb lp (a+(0+1)+UU A+(0+1)) (w+3+(U3 UQ A).length) ((a:Int)+1+UU A) wl h.2.2 (by rw[q4];exact s4) (by rw[q4];exact d4) cB (by push_cast;omega)
   have p5:kq S Ld B pe (a+(0+1)+UU A+(0+1)+UU Bb+0):=by
    have hl:d8 S (dI S) ((a+(0+1)+UU A+(0+1)+UU Bb+0:Nat):Int) [((a+(0+1)+UU A+(0+1)+UU Bb+0:Nat):Int)+1]:=.XZ k7 (by rw[k8];show(0:Int)<=(a:Int)+1+UU A;omega) (by rw[k8];show(a:Int)+1+UU A<_;omega) (by rw[k8];exact k4')
    rw[show((a+(0+1)+UU A+(0+1)+UU Bb+0:Nat):Int)+1=(a:Int)+3+UU A+UU Bb by push_cast;omega] at hl
    exact i7 e5 hl (by omega) (by omega) (.inl (by push_cast;omega))
   have:=(gB.one p1).app (p2.app ((gB.one p3).app (p4.app (gB.one p5))))
   rwa [show 1+(UU A+(1+(UU Bb+1)))=3+UU A+UU Bb by omega] at this
theorem zU:∀(ts:List Th) (lp:Bool) (a:Nat) (w u wl:Int),bL lo m lp ts->bZ S a (bN UQ (a:Int) w u ts)->bZ Ld a (fE (a:Int) wl pe ts)->yU S B pe wl u lp (a+UU ts)->B<=(a:Int)->gB S Ld B pe a (UU ts)
 | [],lp,a,w,u,wl,h,hS,hL,hc,hB=>by rw[UU];exact .nil
 | t::ts,lp,a,w,u,wl,h,hS,hL,hc,hB=>by
   simp only[bL] at h
   rw[bN] at hS
   rw[fE] at hL
   rw[UU] at hc ⊢
   obtain⟨s1,s2⟩:=hS.app
   obtain⟨d1,d2⟩:=hL.app
   rw[jq] at s2
   rw[nB] at d2
   have Zb:=hc.pe
   push_cast at Zb
   have p1:=stT t lp a w u wl h.1 s1 d1 ⟨hc.pt,λq=>by
    obtain⟨x,y,z⟩:=hc.wh q
    push_cast at y
    exact⟨x,by push_cast;omega,z⟩,by push_cast;omega,hc.u0,hc.u1⟩ hB
   have p2:=zU ts lp (a+br t) (w+(cL UQ t).length) u wl h.2.2 (by push_cast;exact s2) (by push_cast;exact d2) ⟨hc.pt,λq=>by
    obtain⟨x,y,z⟩:=hc.wh q
    push_cast at y
    exact⟨x,by push_cast;omega,z⟩,by push_cast;omega,hc.u0,hc.u1⟩ (by push_cast;omega)
   exact p1.app p2
end
end
structure JZ (S:List ay) (Ld:List OB) (UQ:OC) (f:Nat) (w:Int) (z:Str×List Th):Prop where
 s:bZ S f ([⟨"part",z.1,w, -1⟩]++(bN UQ ((f:Int)+1) (w+2) (f:Int) z.2++[⟨"end","",w+2+(U3 UQ z.2).length,(f:Int)⟩]))
 d:bZ Ld f ([[(f:Int)+1]]++(fE ((f:Int)+1) 0 ((f:Int)+1+UU z.2) z.2++[[]]))
theorem bZ.pre {α:Type}{S:List α}{a:Nat}{x y:List α}(h:bZ S a (x++y)):bZ S a x:=h.app.1
theorem zK {S:List ay}{Ld:List OB}{UQ:OC}:∀{zs:List (Str×List Th)} {a:Nat} {w:Int},bZ S a (gK UQ (a:Int) w zs)->bZ Ld a (rq (a:Int) zs)->∀(j:Nat) (z:Str×List Th),zs[j]?=some z->∃w',JZ S Ld UQ (a+cW (zs.take j)) w' z
 | [],_,_,_,_,j,z,h=>by simp at h
 | y::r,a,w,hS,hL,j,z,h=>by
   rw[gK] at hS
   rw[rq] at hL
   cases j with
   | zero=>
     have e:y=z:=by simpa using h
     subst e
     refine⟨w,?_,?_⟩
     ·rw[show([⟨"part",y.1,w, -1⟩]++(bN UQ ((a:Int)+1) (w+2) (a:Int) y.2++([⟨"end","",w+2+(U3 UQ y.2).length,(a:Int)⟩]++gK UQ ((a:Int)+2+UU y.2) (w+3+(U3 UQ y.2).length) r)):List ay)=([⟨"part",y.1,w, -1⟩]++(bN UQ ((a:Int)+1) (w+2) (a:Int) y.2++[⟨"end","",w+2+(U3 UQ y.2).length,(a:Int)⟩]))++gK UQ ((a:Int)+2+UU y.2) (w+3+(U3 UQ y.2).length) r by simp only[Pg]] at hS
      exact hS.pre
     ·rw[show([[(a:Int)+1]]++(fE ((a:Int)+1) 0 ((a:Int)+1+UU y.2) y.2++([[]]++rq ((a:Int)+2+UU y.2) r)):List OB)=([[(a:Int)+1]]++(fE ((a:Int)+1) 0 ((a:Int)+1+UU y.2) y.2++[[]]))++rq ((a:Int)+2+UU y.2) r by simp only[Pg]] at hL
      exact hL.pre
   | succ j=>
     have s4:=hS.app.2.app.2.app.2
     have d4:=hL.app.2.app.2.app.2
     rw[bP] at s4
     rw[dy] at d4
     simp only[O8,Pz] at s4 d4
     have e:a+(0+1)+UU y.2+(0+1)=a+2+UU y.2:=by omega
     rw[e] at s4 d4
     have:=zK (zs:=r) (a:=a+2+UU y.2) (w:=w+3+(U3 UQ y.2).length) (by push_cast;exact s4) (by push_cast;exact d4) j z (by simpa using h)
     rw[PR,cW]
     rwa [show a+(2+UU y.2+cW (r.take j))=a+2+UU y.2+cW (r.take j) by omega]
theorem cover:∀(zs:List (Str×List Th)) (n:Nat),n<cW zs->∃(j:Nat) (z:Str×List Th),zs[j]?=some z/\cW (zs.take j)<=n/\n<cW (zs.take j)+2+UU z.2
 | [],n,h=>by rw[cW] at h;omega
 | y::r,n,h=>by
   rw[cW] at h
   by_cases q:n<2+UU y.2
   ·exact⟨0,y,rfl,QY _,by show n<0+2+_;omega⟩
   ·obtain⟨j,z,h1,h2,h3⟩:=cover r (n-(2+UU y.2)) (by omega)
    exact⟨j+1,z,h1,by rw[PR,cW];omega,by rw[PR,cW];omega⟩
theorem nC:∀(zs:List (Str×List Th)) (j k:Nat) (z:Str×List Th),zs[j]?=some z->j<k->cW (zs.take j)+2+UU z.2<=cW (zs.take k)
 | [],j,k,z,h,_=>by simp at h
 | y::r,0,k+1,z,h,_=>by
   have e:y=z:=by simpa using h
   subst e
   rw[PR,cW,QP,cW];omega
 | y::r,j+1,k+1,z,h,hk=>by
   have:=nC r j k z (by simpa using h) (by omega)
   rw[PR,PR,cW,cW];omega
section
variable {S:List ay}{Ld:List OB}{UQ:OC}{f:Nat}{w:Int}{z:Str×List Th}
abbrev lst (f:Nat)(z:Str×List Th):Nat:=f+1+UU z.2
structure eC (S:List ay) (Ld:List OB) (UQ:OC) (f:Nat) (w:Int) (z:Str×List Th):Prop where
 k:aO S (f:Int)="part"
 nm:S[f]?=some ⟨"part",z.1,w, -1⟩
 s:bZ S (f+1) (bN UQ (((f+1:Nat)):Int) (w+2) (f:Int) z.2)
 d:bZ Ld (f+1) (fE (((f+1:Nat)):Int) 0 ((lst f z:Nat):Int) z.2)
 e:S[lst f z]?=some ⟨"end","",w+2+(U3 UQ z.2).length,(f:Int)⟩
 df:Ld.getD f []=[(f:Int)+1]
 dl:Ld.getD (lst f z) []=[]
 dn:lst f z<Ld.length
theorem JZ.p (h:JZ S Ld UQ f w z):eC S Ld UQ f w z:=by
 obtain⟨hS,hL⟩:=h
 obtain⟨s1,s2⟩:=hS.app
 obtain⟨s2,s3⟩:=s2.app
 obtain⟨d1,d2⟩:=hL.app
 obtain⟨d2,d3⟩:=d2.app
 rw[bP] at s3
 rw[dy] at d3
 simp only[O8,Pz] at s2 s3 d2 d3
 refine⟨(s1.k (i:=0) rfl).1,s1 0 _ rfl,by push_cast;exact s2,by push_cast;exact d2,s3 0 _ rfl,(d1.d (i:=0) rfl []).1,(d3.d (i:=0) rfl []).1,(d3.d (i:=0) rfl []).2⟩
theorem c9 {n:Nat}{s:ay}(h:S[n]?=some s):aO S (n:Int)=s.kind/\ck S (n:Int)=s.within:=by
 have e:S.getD ((n:Nat):Int).toNat c7=s:=by rw[show((n:Nat):Int).toNat=n by omega,OY,h];rfl
 exact⟨by unfold aO;rw[e],by show(S.getD ((n:Nat):Int).toNat c7).within=_;rw[e]⟩
theorem eC.cl (h:eC S Ld UQ f w z)(Xf:(cw S).Nodup):bA (dI S) (f:Int)=some ((lst f z:Nat):Int):=pA Xf h.e (show("end":Str)∈UY by decide +kernel)
theorem eC.all (h:eC S Ld UQ f w z)(Xf:(cw S).Nodup){lo m:Int}(UZ:bL lo m false z.2):∀n,f<=n->n<lst f z->kq S Ld ((f:Int)+1) ((lst f z:Nat):Int) n:=by
 have fl:f<S.length:=(OW.mp h.nm).1
 have hs:=zU (B:=(f:Int)+1) (lo:=lo) (m:=m) Xf z.2 false (f+1) (w+2) (f:Int) 0 UZ h.s h.d ⟨⟨(f:Int),.here (by omega) (by omega) h.k,h.cl Xf⟩,(λq=>by cases q),OS _,by omega,by omega⟩ (by push_cast;omega)
 intro n h1 h2
 by_cases q:n=f
 ·subst q
  exact i7 h.df (.Xj (.inl h.k)) (by omega) (by push_cast;omega) (.inl (by omega))
 ·have YJ:n<f+1+UU z.2:=h2
  have:=hs (n-(f+1)) (by omega)
  rwa [show f+1+(n-(f+1))=n by omega] at this
theorem eC.last (h:eC S Ld UQ f w z):d8 S (dI S) ((lst f z:Nat):Int) (Ld.getD (lst f z) []):=by
 obtain⟨k1,k2⟩:=c9 h.e
 have fl:f<S.length:=(OW.mp h.nm).1
 rw[h.dl]
 exact .XD k1 (by rw[k2];show(0:Int)<=(f:Int);omega) (by rw[k2];show(f:Int)<_;omega) (by rw[k2];exact h.k)
end
section
variable {UQ:OC}{Ls:List (List Th)}
abbrev cO (UQ:OC)(Ls:List (List Th)):List (Str×List Th):=UQ.zip Ls
abbrev bR (UQ:OC)(Ls:List (List Th)):List OB:=rq 0 (cO UQ Ls)
abbrev fst (UQ:OC)(Ls:List (List Th))(j:Nat):Nat:=cW ((cO UQ Ls).take j)
theorem gp {j:Nat}{z:Str×List Th}(h:(cO UQ Ls)[j]?=some z):∃w,eC (aq UQ Ls) (bR UQ Ls) UQ (fst UQ Ls j) w z:=by
 obtain⟨w,hw⟩:=zK (S:=aq UQ Ls) (Ld:=bR UQ Ls) (UQ:=UQ) (zs:=cO UQ Ls) (a:=0) (w:=0) (bZ.self _) (bZ.self _) j z h
 rw[Q4] at hw
 exact⟨w,hw.p⟩
theorem jn:(cw (aq UQ Ls)).Nodup:=(Nc (UQ:=UQ) (cO UQ Ls) 0 0).1
theorem dP (h:cf UQ Ls){j:Nat}{z:Str×List Th}(hz:(cO UQ Ls)[j]?=some z):bL (j:Int) (Ls.length:Int) false z.2/\hV z.2/\bS z.2<=14/\UQ[j]?=some z.1/\Ls[j]?=some z.2:=by
 obtain⟨h1,h2⟩:=jB hz
 have hm:=O6 h2
 exact⟨h.ok j z.2 h2,h.hd z.2 hm,h.rw z.2 hm,h1,h2⟩
theorem x9:(aq UQ Ls).length=cW (cO UQ Ls):=xE _ _ _
theorem Mb:(bR UQ Ls).length=cW (cO UQ Ls):=wO _ _
theorem lj (h:cf UQ Ls)(n:Nat)(hn:n<(aq UQ Ls).length):∃(j:Nat) (z:Str×List Th) (w:Int),(cO UQ Ls)[j]?=some z/\eC (aq UQ Ls) (bR UQ Ls) UQ (fst UQ Ls j) w z/\fst UQ Ls j<=n/\n<=lst (fst UQ Ls j) z/\lst (fst UQ Ls j) z<(aq UQ Ls).length:=by
 rw[x9] at hn
 obtain⟨j,z,h1,h2,h3⟩:=cover _ n hn
 obtain⟨w,hb⟩:=gp (UQ:=UQ) (Ls:=Ls) h1
 refine⟨j,z,w,h1,hb,h2,by show n<=cW (List.take j (cO UQ Ls))+1+UU z.2;omega,(OW.mp hb.e).1⟩
theorem BW (h:cf UQ Ls):ye (aq UQ Ls) (bR UQ Ls)/\vF (aq UQ Ls) (bR UQ Ls)/\∀ls∈bR UQ Ls,ls.length<=2:=by
 have hl:(bR UQ Ls).length=(aq UQ Ls).length:=by rw[x9,Mb]
 have key:∀n,n<(aq UQ Ls).length->d8 (aq UQ Ls) (dI (aq UQ Ls)) (n:Int) ((bR UQ Ls).getD n [])/\(∀l∈(bR UQ Ls).getD n [],0<=l/\l<((aq UQ Ls).length:Int))/\((bR UQ Ls).getD n []).length<=2:=by
  intro n hn
  obtain⟨j,z,w,hz,hb,h1,h2,h3⟩:=lj h n hn
  by_cases q:n=lst (fst UQ Ls j) z
  ·subst q
   refine⟨hb.last,?_,?_⟩
   ·rw[hb.dl];intro l hl;cases hl
   ·rw[hb.dl];exact QY _
  ·have st:=hb.all jn (dP h hz).1 n h1 (by omega)
   refine⟨st.ld,λl Wl=>?_,st.ln⟩
   have:=st.rg l Wl
   omega
 have mem:∀ls∈bR UQ Ls,∃n,n<(aq UQ Ls).length/\(bR UQ Ls).getD n []=ls:=λls hm=>by
  obtain⟨n,hn,e⟩:=Qs hm
  exact⟨n,by omega,by rw[OY,OX hn,e];rfl⟩
 refine⟨⟨hl,λn hn=>(key n hn).1⟩,⟨hl,λls hm l Wl=>?_⟩,λls hm=>?_⟩
 ·obtain⟨n,hn,e⟩:=mem ls hm
  exact(key n hn).2.1 l (by rw[e];exact Wl)
 ·obtain⟨n,hn,e⟩:=mem ls hm
  rw[← e];exact(key n hn).2.2
end
section
variable {S:List ay}{Ld:List OB}
variable {n:Nat}
theorem vZ {i:Nat}(hi:i<S.length)(hn:n≠S.length-1-i):(WH S Ld (i+1)).getD n 0=(WH S Ld i).getD n 0:=by
 rw[jL hi]
 unfold oQ
 split
 ·simp only[OY]
  rw[Pq (by omega)]
 ·rfl
theorem uW:∀(i n:Nat),i<=S.length->n<S.length-i->(WH S Ld i).getD n 0=(n:Int)
 | 0,n,_,h=>by
   show(ups 0 S.length).getD n 0=_
   rw[OY]
   unfold ups
   rw[O5,P1 (by omega)]
   show(0:Int)+(n:Int)=_
   omega
 | i+1,n,hi,h=>by rw[vZ (by omega) (by omega)];exact uW i n (by omega) (by omega)
theorem wq {i n:Nat}(hn:S.length-i<=n):∀d:Nat,i+d<=S.length->(WH S Ld (i+d)).getD n 0=(WH S Ld i).getD n 0
 | 0,_=>rfl
 | d+1,h=>by rw[← Rg,vZ (by omega) (by omega)];exact wq hn d (by omega)
theorem vJ {i:Nat}(hi:i<=S.length)(hn:S.length-i<=n):(WH S Ld i).getD n 0=(aQ S Ld).getD n 0:=by
 have:=wq (S:=S) (Ld:=Ld) hn (S.length-i) (by omega)
 rw[show i+(S.length-i)=S.length by omega] at this
 exact this.symm
theorem gU (hn:n<S.length)(h:(Ld.getD n [])=[]∨aP (aO S (n:Int))=true):(aQ S Ld).getD n 0=(n:Int):=by
 rw[← vJ (i:=S.length-1-n+1) (by omega) (by omega),jL (by omega),show(S.length:Int)-1-((S.length-1-n:Nat):Int)=(n:Int) by omega]
 unfold oQ
 rw[UK (by
  rw[show((n:Nat):Int).toNat=n by omega]
  rintro⟨h1,h2⟩
  rcases h with h | h
  ·rw[h] at h1;cases h1
  ·rw[h] at h2;cases h2)]
 exact uW _ n (by omega) (by omega)
theorem lG (hn:n<S.length){l:Int}{r:OB}(hL:Ld.getD n []=l::r)(hr:aP (aO S (n:Int))=false)(l0:0<=l)(l1:l<(S.length:Int)):(aQ S Ld).getD n 0=if(n:Int)<l then(aQ S Ld).getD l.toNat 0 else l:=by
 rw[← vJ (i:=S.length-1-n+1) (n:=n) (by omega) (by omega),jL (by omega),show(S.length:Int)-1-((S.length-1-n:Nat):Int)=(n:Int) by omega]
 unfold oQ
 rw[show((n:Nat):Int).toNat=n by omega,hL,UL ⟨rfl,hr⟩]
 have ln:=jt (S:=S) (Ld:=Ld) (S.length-1-n) (by omega)
 rw[OY,Pc (by omega)]
 show(WH S Ld (S.length-1-n)).getD l.toNat 0=_
 by_cases q:(n:Int)<l
 ·rw[UL q];exact vJ (by omega) (by omega)
 ·rw[UK q,uW _ _ (by omega) (by omega)];omega
end
section
variable {S:List ay}{Ld:List OB}{UQ:OC}{f:Nat}{w:Int}{z:Str×List Th}
variable {lo m:Int}
def G5 (S:List ay)(f l:Nat)(v:Int):Prop:=(f:Int)<v/\v<=(l:Int)/\(v=(l:Int)∨aP (aO S v)=true)
theorem eC.xX (h:eC S Ld UQ f w z)(Xf:(cw S).Nodup)(UZ:bL lo m false z.2):∀(d n:Nat),lst f z-n=d->f<=n->n<=lst f z->G5 S f (lst f z) ((aQ S Ld).getD n 0):=by
 have ll:lst f z<S.length:=(OW.mp h.e).1
 have fl:f<lst f z:=by show f<f+1+UU z.2;omega
 intro d
 induction d using Nat.strongRecOn with
 | _ d ih=>
   intro n hd h1 h2
   by_cases q:n=lst f z
   ·rw[q,gU ll (.inl h.dl)]
    exact⟨by omega,OS _,.inl rfl⟩
   ·have st:=h.all Xf UZ n h1 (by omega)
    cases hr:aP (aO S (n:Int)) with
    | true=>
      rw[gU (by omega) (.inr hr)]
      have:n≠f:=λe=>by
       rw[e,h.k] at hr
       exact UJ hr (by decide +kernel)
      exact⟨by omega,by omega,.inr hr⟩
    | false=>
      obtain⟨l,r,hL,hg⟩:=st.go hr
      obtain⟨r0,r1⟩:=st.rg l (by rw[hL];exact O3)
      rw[lG (by omega) hL hr (by omega) (by omega)]
      by_cases ql:(n:Int)<l
      ·rw[UL ql]
       exact ih (lst f z-l.toNat) (by omega) l.toNat rfl (by omega) (by omega)
      ·rw[UK ql]
       exact⟨by omega,r1,.inr (hg.resolve_left ql)⟩
theorem jU (h:eC S Ld UQ f w z)(UZ:bL lo m false z.2)(hh:hV z.2):aP (aO S ((f+1:Nat):Int))=true/\1<=UU z.2:=by
 obtain⟨t,ts,e,hb⟩:=hh
 have hs:=h.s
 rw[e] at hs UZ ⊢
 rw[bN] at hs
 simp only[bL] at UZ
 rw[UU]
 have hs:=hs.pre
 cases t with
 | Vl x=>rw[spT] at hs;refine⟨?_,by simp only[br];omega⟩;rw[show((f+1:Nat):Int)=((f+1+0:Nat):Int) from rfl,(hs.k (i:=0) rfl).1];exact pY
 | call x=>rw[spT] at hs;refine⟨?_,by simp only[br];omega⟩;rw[show((f+1:Nat):Int)=((f+1+0:Nat):Int) from rfl,(hs.k (i:=0) rfl).1];exact lO
 | ifs x A B=>rw[spT] at hs;refine⟨?_,by simp only[br];omega⟩;rw[show((f+1:Nat):Int)=((f+1+0:Nat):Int) from rfl,(hs.pre.pre.k (i:=0) rfl).1];exact kJ
 | U6 x A=>rw[spT] at hs;refine⟨?_,by simp only[br];omega⟩;rw[show((f+1:Nat):Int)=((f+1+0:Nat):Int) from rfl,(hs.pre.k (i:=0) rfl).1];exact fH
 | leave=>simp only[cq] at UZ;cases UZ.1
 | back=>cases hb
theorem eC.first (h:eC S Ld UQ f w z)(UZ:bL lo m false z.2)(hh:hV z.2):(aQ S Ld).getD f 0=((f+1:Nat):Int):=by
 have ll:lst f z<S.length:=(OW.mp h.e).1
 have ll:f+1+UU z.2<S.length:=ll
 obtain⟨hr,h1⟩:=jU h UZ hh
 rw[lG (n:=f) (by omega) h.df (by rw[h.k];decide +kernel) (by omega) (by omega),UL (by omega),show((f:Int)+1).toNat=f+1 by omega]
 exact gU (by omega) (.inr hr)
def lh (Ld:List OB)(fd:OB):Prop:=∀n∈fd,∀l∈Ld.getD n.toNat [],l∈fd
theorem lh.on {Ld:List OB}{fd:OB}(h:lh Ld fd){n:Nat}{ls:OB}(hn:(n:Int)∈fd)(hL:Ld.getD n []=ls){l:Int}(hl:l∈ls):l∈fd:=h _ hn l (by rw[show((n:Nat):Int).toNat=n by omega,hL];exact hl)
end
section
variable {S:List ay}{Ld:List OB}{UQ:OC}{fd:OB}{lo m:Int}(hC:lh Ld fd)
include hC
mutual
theorem goT:∀(t:Th) (lp:Bool) (a:Nat) (w u wl pe:Int),cq lo m lp t->bZ S a (spT UQ (a:Int) w u t)->bZ Ld a (eN (a:Int) wl pe t)->(a:Int)∈fd->(∀i,i<br t->aO S ((a+i:Nat):Int)∈Vf->((a+i:Nat):Int)∈fd)/\(dX t=true->((a+br t:Nat):Int)∈fd)
 | .Vl x,lp,a,w,u,wl,pe,h,hS,hL,ha=>by
   rw[eN] at hL
   simp only[br]
   refine⟨(λi hi _=>by cases (show i=0 by omega);exact ha),(λ_=>?_)⟩
   have:=hC.on ha (hL.d (i:=0) rfl []).1 (l:=(a:Int)+1) (O0.mpr rfl)
   push_cast;exact this
 | .call x,lp,a,w,u,wl,pe,h,hS,hL,ha=>by
   rw[eN] at hL
   simp only[br]
   refine⟨(λi hi _=>by cases (show i=0 by omega);exact ha),(λ_=>?_)⟩
   have:=hC.on ha (hL.d (i:=0) rfl []).1 (l:=(a:Int)+1) (O0.mpr rfl)
   push_cast;exact this
 | .leave,lp,a,w,u,wl,pe,h,hS,hL,ha=>by
   simp only[br]
   exact⟨(λi hi _=>by cases (show i=0 by omega);exact ha),(λq=>by simp[dX] at q)⟩
 | .back,lp,a,w,u,wl,pe,h,hS,hL,ha=>by
   simp only[br]
   exact⟨(λi hi _=>by cases (show i=0 by omega);exact ha),(λq=>by simp[dX] at q)⟩
 | .U6 x A,lp,a,w,u,wl,pe,h,hS,hL,ha=>by
   simp only[cq] at h
   rw[spT] at hS
   rw[eN] at hL
   simp only[br]
   obtain⟨s1,s2⟩:=hS.app
   obtain⟨s2,s3⟩:=s2.app
   obtain⟨d1,d2⟩:=hL.app
   obtain⟨d2,d3⟩:=d2.app
   rw[bP] at s3
   simp only[O8,Pz] at s2 s3 d2 d3
   have e1:=(d1.d (i:=0) rfl []).1
   have g1:(((a+(0+1):Nat)):Int)∈fd:=by
    have:=hC.on ha e1 (l:=(a:Int)+1) O3
    push_cast;simpa using this
   have g2:(((a+(2+UU A):Nat)):Int)∈fd:=by
    have:=hC.on ha e1 (l:=(a:Int)+2+UU A) (O2 _ (O0.mpr rfl))
    rwa [show(((a+(2+UU A):Nat)):Int)=(a:Int)+2+UU A by push_cast;omega]
   obtain⟨q1,_⟩:=AA A true (a+(0+1)) (w+2) (a:Int) ((a:Int)+2+UU A) pe h.2 (by push_cast;exact s2) (by push_cast;exact d2) g1
   refine⟨λi hi hk=>?_,λ_=>g2⟩
   by_cases i0:i=0
   ·subst i0;exact ha
   by_cases i1:i<1+UU A
   ·have:=q1 (i-1) (by omega) (by rw[show a+(0+1)+(i-1)=a+i by omega];exact hk)
    rwa [show a+(0+1)+(i-1)=a+i by omega] at this
   ·obtain rfl:i=1+UU A:=by omega
    have ke:=(s3.k (i:=0) rfl).1
    rw[show a+(0+1)+UU A+0=a+(1+UU A) by omega] at ke
    rw[ke] at hk
    exact UJ hk (show("end":Str)∉Vf by decide +kernel)
 | .ifs x A B,lp,a,w,u,wl,pe,h,hS,hL,ha=>by
   simp only[cq] at h
   rw[spT,Pg] at hS
   rw[eN,Pg] at hL
   simp only[br]
   obtain⟨s1,s2⟩:=hS.app
   obtain⟨s2,s3⟩:=s2.app
   obtain⟨s3,s4⟩:=s3.app
   obtain⟨s4,s5⟩:=s4.app
   obtain⟨d1,d2⟩:=hL.app
   obtain⟨d2,d3⟩:=d2.app
   obtain⟨d3,d4⟩:=d3.app
   obtain⟨d4,d5⟩:=d4.app
   rw[bP] at s3 s4 s5
   rw[bP] at s5
   rw[dy] at d3 d4 d5
   rw[dy] at d5
   simp only[O8,Pz] at s2 s3 s4 s5 d2 d3 d4 d5
   have e1:=(d1.d (i:=0) rfl []).1
   have e3:=(d3.d (i:=0) rfl []).1
   have e5:=(d5.d (i:=0) rfl []).1
   have g1:(((a+(0+1):Nat)):Int)∈fd:=by
    have:=hC.on ha e1 (l:=(a:Int)+1) O3
    push_cast;simpa using this
   have g2:(((a+(0+1)+UU A+(0+1):Nat)):Int)∈fd:=by
    have:=hC.on ha e1 (l:=(a:Int)+2+UU A) (O2 _ (O0.mpr rfl))
    rwa [show(((a+(0+1)+UU A+(0+1):Nat)):Int)=(a:Int)+2+UU A by push_cast;omega]
   obtain⟨q1,q2⟩:=AA A lp (a+(0+1)) (w+2) (a:Int) wl pe h.2.1 (by push_cast;exact s2) (by push_cast;exact d2) g1
   have q4:(((a+(0+1)+UU A+(0+1):Nat)):Int)=(a:Int)+2+UU A:=by push_cast;omega
   obtain⟨q3,q5⟩:=AA B lp (a+(0+1)+UU A+(0+1)) (w+3+(U3 UQ A).length) ((a:Int)+1+UU A) wl pe h.2.2 (by rw[q4];exact s4) (by rw[q4];exact d4) g2
   have fin:(((a+(0+1)+UU A+(0+1)+UU B+0:Nat)):Int)∈fd->(((a+(3+UU A+UU B):Nat)):Int)∈fd:=λq=>by
    have:=hC.on q e5 (l:=(a:Int)+3+UU A+UU B) (O0.mpr rfl)
    rwa [show(((a+(3+UU A+UU B):Nat)):Int)=(a:Int)+3+UU A+UU B by push_cast;omega]
   refine⟨λi hi hk=>?_,λhp=>fin ?_⟩
   ·by_cases i0:i=0
    ·subst i0;exact ha
    by_cases i1:i<1+UU A
    ·have:=q1 (i-1) (by omega) (by rw[show a+(0+1)+(i-1)=a+i by omega];exact hk)
     rwa [show a+(0+1)+(i-1)=a+i by omega] at this
    by_cases i2:i=1+UU A
    ·subst i2
     have ke:=(s3.k (i:=0) rfl).1
     rw[show a+(0+1)+UU A+0=a+(1+UU A) by omega] at ke
     rw[ke] at hk
     exact UJ hk (show("else":Str)∉Vf by decide +kernel)
    by_cases i3:i<2+UU A+UU B
    ·have:=q3 (i-(2+UU A)) (by omega) (by rw[show a+(0+1)+UU A+(0+1)+(i-(2+UU A))=a+i by omega];exact hk)
     rwa [show a+(0+1)+UU A+(0+1)+(i-(2+UU A))=a+i by omega] at this
    ·obtain rfl:i=2+UU A+UU B:=by omega
     have ke:=(s5.k (i:=0) rfl).1
     rw[show a+(0+1)+UU A+(0+1)+UU B+0=a+(2+UU A+UU B) by omega] at ke
     rw[ke] at hk
     exact UJ hk (show("end":Str)∉Vf by decide +kernel)
   ·simp only[dX,OM] at hp
    rcases hp with hp | hp
    ·have hel:=q2 hp
     have:=hC.on (n:=a+(0+1)+UU A+0) hel e3 (l:=(a:Int)+2+UU A+UU B) (O0.mpr rfl)
     rwa [show(((a+(0+1)+UU A+(0+1)+UU B+0:Nat)):Int)=(a:Int)+2+UU A+UU B by push_cast;omega]
    ·exact q5 hp
theorem AA:∀(ts:List Th) (lp:Bool) (a:Nat) (w u wl pe:Int),bL lo m lp ts->bZ S a (bN UQ (a:Int) w u ts)->bZ Ld a (fE (a:Int) wl pe ts)->(a:Int)∈fd->(∀i,i<UU ts->aO S ((a+i:Nat):Int)∈Vf->((a+i:Nat):Int)∈fd)/\(c8 ts=true->((a+UU ts:Nat):Int)∈fd)
 | [],lp,a,w,u,wl,pe,h,hS,hL,ha=>by
   rw[UU]
   exact⟨λi hi=>by omega,λ_=>ha⟩
 | t::ts,lp,a,w,u,wl,pe,h,hS,hL,ha=>by
   simp only[bL] at h
   rw[bN] at hS
   rw[fE] at hL
   rw[UU]
   obtain⟨s1,s2⟩:=hS.app
   obtain⟨d1,d2⟩:=hL.app
   rw[jq] at s2
   rw[nB] at d2
   obtain⟨q1,q2⟩:=goT t lp a w u wl pe h.1 s1 d1 ha
   rcases h.2.1 with hp | hp
   ·obtain⟨q3,q4⟩:=AA ts lp (a+br t) (w+(cL UQ t).length) u wl pe h.2.2 (by push_cast;exact s2) (by push_cast;exact d2) (q2 hp)
    refine⟨λi hi hk=>?_,λZa=>?_⟩
    ·by_cases q:i<br t
     ·exact q1 i q hk
     ·have:=q3 (i-br t) (by omega) (by rw[show a+br t+(i-br t)=a+i by omega];exact hk)
      rwa [show a+br t+(i-br t)=a+i by omega] at this
    ·rw[c8,OK] at Za
     have:=q4 Za.2
     rwa [show a+br t+UU ts=a+(br t+UU ts) by omega] at this
   ·subst hp
    rw[UU]
    refine⟨λi hi hk=>q1 i (by omega) hk,λZa=>?_⟩
    rw[c8,OK] at Za
    exact q2 Za.1
end
end
structure Ci (UQ:OC) (lo m:Int) (s:ay):Prop where
 np:s.kind≠"part"
 cl:s.kind="call"->∃j:Int,lo<j/\j<m/\s.name=UQ.getD j.toNat ""
theorem fL {UQ:OC}{lo m:Int}{s:ay}(h1:s.kind≠"part")(h2:s.kind≠"call"):Ci UQ lo m s:=⟨h1,λe=>UJ e h2⟩
theorem all1 {P:ay->Prop}{s:ay}(h:P s):∀x∈[s],P x:=λx hx=>by rw[O0.mp hx];exact h
theorem nX {P:ay->Prop}{a b:List ay}(h:∀x∈a,P x)(h':∀x∈b,P x):∀x∈a++b,P x:=λx hx=>(Pa.mp hx).elim (h x) (h' x)
mutual
theorem Kf {UQ:OC}{lo m:Int}:∀(t:Th) (lp:Bool) (a w u:Int),cq lo m lp t->∀s∈spT UQ a w u t,Ci UQ lo m s
 | .Vl x,lp,a,w,u,h=>by rw[spT];exact all1 (fL (show("do":Str)≠"part" by decide +kernel) (show("do":Str)≠"call" by decide +kernel))
 | .call j,lp,a,w,u,h=>by
   simp only[cq] at h
   rw[spT];exact all1 ⟨show("call":Str)≠"part" by decide +kernel,λ_=>⟨j,h.1,h.2,rfl⟩⟩
 | .leave,lp,a,w,u,h=>by rw[spT];exact all1 (fL (show("leave":Str)≠"part" by decide +kernel) (show("leave":Str)≠"call" by decide +kernel))
 | .back,lp,a,w,u,h=>by rw[spT];exact all1 (fL (show("back":Str)≠"part" by decide +kernel) (show("back":Str)≠"call" by decide +kernel))
 | .U6 x A,lp,a,w,u,h=>by
   simp only[cq] at h
   rw[spT]
   exact nX (all1 (fL (show("while":Str)≠"part" by decide +kernel) (show("while":Str)≠"call" by decide +kernel))) (nX (jR A true _ _ _ h.2) (all1 (fL (show("end":Str)≠"part" by decide +kernel) (show("end":Str)≠"call" by decide +kernel))))
 | .ifs x A B,lp,a,w,u,h=>by
   simp only[cq] at h
   rw[spT]
   exact nX (nX (all1 (fL (show("if":Str)≠"part" by decide +kernel) (show("if":Str)≠"call" by decide +kernel))) (jR A lp _ _ _ h.2.1)) (nX (all1 (fL (show("else":Str)≠"part" by decide +kernel) (show("else":Str)≠"call" by decide +kernel))) (nX (jR B lp _ _ _ h.2.2) (all1 (fL (show("end":Str)≠"part" by decide +kernel) (show("end":Str)≠"call" by decide +kernel)))))
theorem jR {UQ:OC}{lo m:Int}:∀(ts:List Th) (lp:Bool) (a w u:Int),bL lo m lp ts->∀s∈bN UQ a w u ts,Ci UQ lo m s
 | [],lp,a,w,u,h=>by rw[bN];intro s hs;cases hs
 | t::ts,lp,a,w,u,h=>by
   simp only[bL] at h
   rw[bN]
   exact nX (Kf t lp _ _ _ h.1) (jR ts lp _ _ _ h.2.2)
end
theorem call_in {UQ:OC}{j:Int}:∀{ts:List Th} (a w u:Int),Th.call j∈ts->∃s∈bN UQ a w u ts,s.kind="call"/\s.name=UQ.getD j.toNat ""
 | t::ts,a,w,u,h=>by
   rw[bN]
   rcases O7.mp h with rfl | h
   ·exact⟨_,Pj _ (by rw[spT];exact O0.mpr rfl),rfl,rfl⟩
   ·obtain⟨s,hs,h1⟩:=call_in (UQ:=UQ) (j:=j) (ts:=ts) (a+br t) (w+(cL UQ t).length) u h
    exact⟨s,Pb _ hs,h1⟩
def iX (k:Str):Nat:=((cn dg k).getD []).length
def jN (S:List ay):Nat:=(S.map λs=>iX s.kind).sum
theorem gi (a b:List ay):jN (a++b)=jN a+jN b:=by unfold jN;rw[Ph,sum_append]
theorem fI (s:ay):jN [s]=iX s.kind:=by unfold jN;simp
mutual
theorem rkT {UQ:OC}:∀(t:Th) (a w u:Int),jN (spT UQ a w u t)=de t
 | .Vl x,a,w,u=>by rw[spT,fI,de];show iX "do"=1;decide +kernel
 | .call x,a,w,u=>by rw[spT,fI,de];show iX "call"=1;decide +kernel
 | .leave,a,w,u=>by rw[spT,fI];simp only[de];show iX "leave"=0;decide +kernel
 | .back,a,w,u=>by rw[spT,fI];simp only[de];show iX "back"=0;decide +kernel
 | .U6 x A,a,w,u=>by
   rw[spT,de,gi,gi,fI,fI,xC A,show iX "while"=2 by decide +kernel,show iX "end"=0 by decide +kernel];omega
 | .ifs x A B,a,w,u=>by
   rw[spT,de,gi,gi,gi,gi,fI,fI,fI,xC A,xC B,show iX "if"=2 by decide +kernel,show iX "end"=0 by decide +kernel,show iX "else"=0 by decide +kernel];omega
theorem xC {UQ:OC}:∀(ts:List Th) (a w u:Int),jN (bN UQ a w u ts)=bS ts
 | [],a,w,u=>by rw[bN,bS];rfl
 | t::ts,a,w,u=>by rw[bN,bS,gi,rkT t,xC ts]
end
section
variable {Kp:OB}
theorem MR {UQ:OC}:∀(zs:List (Str×List Th)) (a w:Int),jN (gK UQ a w zs)=(zs.map λz=>bS z.2).sum
 | [],a,w=>by rw[gK];rfl
 | z::r,a,w=>by
   rw[gK,gi,gi,gi,fI,fI,xC,MR r,show iX "part"=0 by decide +kernel,show iX "end"=0 by decide +kernel,PH,QC];omega
theorem u5 {α β:Type}{f:α->List β}{g:α->Nat}(h:∀x,(f x).length<=g x):∀xs:List α,(xs.flatMap f).length<=(xs.map g).sum
 | []=>QY _
 | x::xs=>by
   rw[Qj,O4,PH,QC]
   have:=h x
   have:=u5 h xs
   omega
theorem Cq (S:List ay)(Ld:List OB)(St:OB):(eV S Ld St).length<=jN S:=by
 have:=u5 (f:=dv Ld St) (g:=λz=>iX z.2.kind) (λz=>by
  unfold dv iY
  rw[OZ,Qc]
  exact Ra _ _) (nums S)
 refine QX this (Ri ?_)
 unfold jN
 conv=>rhs;rw[← n8 S]
 rw[PQ]
 rfl
theorem lN {S:List ay}{Ld:List OB}{St:OB}{r:Rw}(h:r∈eV S Ld St):∃(n:Nat) (s:ay) (l:Int),S[n]?=some s/\r.1=(n:Int)/\aP s.kind=true/\l∈Ld.getD n []/\r.2.1=St.getD l.toNat 0:=by
 unfold eV at h
 obtain⟨z,hz,hr⟩:=Qv.mp h
 unfold dv at hr
 obtain⟨y,hy,rfl⟩:=Pe.mp hr
 obtain⟨i,hi⟩:=Pf.mp hz
 obtain⟨e1,e2⟩:=eJ hi
 unfold iY at hy
 obtain⟨h1,h2⟩:=Qx (show(y.1,y.2)∈_ from hy)
 rw[e1,show((i:Nat):Int).toNat=i by omega] at h2
 refine⟨i,z.2,y.2,e2,e1,?_,h2,rfl⟩
 unfold aP
 cases q:cn dg z.2.kind with
 | none=>rw[q] at h1;cases h1
 | some v=>rfl
theorem BL {k:Str}(h:aP k=true):k∈Vf:=by
 unfold aP cn at h
 split at h
 ·rename_i e;rw[← e];decide +kernel
 unfold cn at h
 split at h
 ·rename_i e;rw[← e];decide +kernel
 unfold cn at h
 split at h
 ·rename_i e;rw[← e];decide +kernel
 unfold cn at h
 split at h
 ·rename_i e;rw[← e];decide +kernel
 ·cases h
theorem zw:∀{l m:OB},l.Nodup->(∀x∈l,x∈m)->l.length<=m.length
 | [],m,_,_=>QY _
 | x::l,m,nd,h=>by
   obtain⟨n1,n2⟩:=Pw.mp nd
   have hx:=h x O3
   have:=zw (l:=l) (m:=m.erase x) n2 λy hy=>by
    have:y≠x:=λe=>n1 (e▸hy)
    exact(List.mem_erase_of_ne this).mpr (h y (O2 _ hy))
   rw[List.length_erase_of_mem hx] at this
   have:0<m.length:=List.length_pos_of_mem hx
   rw[O8];omega
def iu (Kp:OB)(F:OH):Prop:=(F.map (·.1)).Nodup/\∀x∈F.map (·.1),x∈Kp
theorem iu.put {F:OH}(h:iu Kp F){k:Int}(hk:k∈Kp):iu Kp (dM F k):=by
 unfold dM
 split
 ·exact h
 ·rename_i hn
  have hnk:k∉F.map (·.1):=λz=>hn (jw.mpr z)
  refine⟨by rw[Ph];exact iy h.1 hnk,λx hx=>?_⟩
  rw[Ph] at hx
  rcases Pa.mp hx with z | z
  ·exact h.2 x z
  ·rw[show x=k by simpa using z];exact hk
theorem iu.rows {p:gg}:∀{rs:List Rw} {F:OH},iu Kp F->(∀r∈rs,f7 p r=true->r.1∈Kp/\r.2.1∈Kp)->iu Kp (rs.foldl (dz p) F)
 | [],F,h,_=>h
 | r::rs,F,h,hr=>by
   rw[PZ]
   refine iu.rows ?_ λx hx=>hr x (O2 _ hx)
   unfold dz
   split
   ·rename_i hi
    obtain⟨h1,h2⟩:=hr r O3 hi
    exact(h.put h1).put h2
   ·exact h
theorem iu.len {F:OH}(h:iu Kp F):F.length<=Kp.length:=by
 have:=zw h.1 h.2
 rwa [OZ] at this
theorem wR:∀S:List ay,(S.filter λs=>aP s.kind).length<=jN S
 | []=>QY _
 | s::S=>by
   have ih:=wR S
   have e:jN (s::S)=iX s.kind+jN S:=by unfold jN;rw[PH,QC]
   rw[e]
   by_cases h:aP s.kind=true
   ·rw[P2 (p:=λ(s:ay)=>aP s.kind) h,O8]
    have:1<=iX s.kind:=by
     unfold iX
     unfold aP cn at h
     unfold cn
     split at h
     ·rename_i e;rw[UL e];decide
     rename_i e
     rw[UK e]
     unfold cn at h ⊢
     split at h
     ·rename_i e;rw[UL e];decide
     rename_i e
     rw[UK e]
     unfold cn at h ⊢
     split at h
     ·rename_i e;rw[UL e];decide
     rename_i e
     rw[UK e]
     unfold cn at h ⊢
     split at h
     ·rename_i e;rw[UL e];decide
     ·cases h
    omega
   ·rw[P4 (p:=λ(s:ay)=>aP s.kind) h];omega
theorem Lj {S:List ay}(h:∀s∈S,s.kind≠"part"):VD S=[]:=by
 unfold VD
 rw[QJ.mpr λs hs=>by simpa using h s hs];rfl
theorem Iu {UQ:OC}{m:Int}:∀(zs:List (Str×List Th)) (a w:Int),(∀z∈zs,∃lo,bL lo m false z.2)->VD (gK UQ a w zs)=zs.map (·.1)
 | [],a,w,_=>by rw[gK];rfl
 | z::r,a,w,h=>by
   obtain⟨lo,hz⟩:=h z O3
   rw[gK,lA,lA,lA,Iu r _ _ λy hy=>h y (O2 _ hy),Lj λs hs=>(jR (UQ:=UQ) z.2 false _ _ _ hz s hs).np]
   rfl
theorem ur (S:List ay):(cG S).map (·.1)=VD S:=by
 unfold cG VD
 conv=>rhs;rw[← n8 S]
 rw[QV,PQ,PQ]
 rfl
end
section
variable {UQ:OC}{Ls:List (List Th)}(h:cf UQ Ls)
include h
theorem GH:(cO UQ Ls).map (·.1)=UQ:=List.map_fst_zip (by rw[h.l];exact QW _)
theorem Jt:(cO UQ Ls).map (·.2)=Ls:=List.map_snd_zip (by rw[h.l];exact QW _)
theorem La:∀z∈cO UQ Ls,∃lo,bL lo (Ls.length:Int) false z.2:=λz hz=>by
 obtain⟨j,hj⟩:=Pf.mp hz
 exact⟨_,(dP h hj).1⟩
theorem Dy:VD (aq UQ Ls)=UQ:=by
 rw[Iu (m:=(Ls.length:Int)) _ _ _ (La h),GH h]
theorem oT:(cG (aq UQ Ls)).map (·.1)=UQ:=by rw[ur,Dy h]
theorem Lc:(aq UQ Ls).length<=240:=by
 obtain⟨pl,_⟩:=sT h
 obtain⟨e,_⟩:=rP h
 obtain⟨i1,i2,_⟩:=vj (fu UQ Ls) (cW (UQ.zip Ls))
 rw[e] at i1 i2
 dsimp only at i1 i2
 omega
theorem xr {n:Nat}(hn:n<(aq UQ Ls).length)(hk:aO (aq UQ Ls) (n:Int)="part"):∃(j:Nat) (z:Str×List Th) (w:Int),(cO UQ Ls)[j]?=some z/\eC (aq UQ Ls) (bR UQ Ls) UQ (fst UQ Ls j) w z/\n=fst UQ Ls j:=by
 obtain⟨j,z,w,hz,hb,h1,h2,h3⟩:=lj h n hn
 refine⟨j,z,w,hz,hb,?_⟩
 rcases Q2 (fst UQ Ls j) n with q | q
 ·exfalso
  by_cases e:n=lst (fst UQ Ls j) z
  ·rw[e,(c9 hb.e).1] at hk
   exact UJ hk (show("end":Str)≠"part" by decide +kernel)
  ·have YJ:n<fst UQ Ls j+1+UU z.2:=Rb h2 e
   have hi:n-(fst UQ Ls j+1)<(bN UQ (((fst UQ Ls j+1:Nat)):Int) (w+2) (fst UQ Ls j:Int) z.2).length:=by rw[bP];omega
   have hs:=hb.s.k (OX hi)
   rw[show fst UQ Ls j+1+(n-(fst UQ Ls j+1))=n by omega] at hs
   rw[hs.1] at hk
   exact(jR (UQ:=UQ) z.2 false _ _ _ (dP h hz).1 _ (PD hi)).np hk
 ·omega
theorem lY {p:gg}(hp:p∈cG (aq UQ Ls)):∃(j:Nat) (z:Str×List Th) (w:Int),(cO UQ Ls)[j]?=some z/\eC (aq UQ Ls) (bR UQ Ls) UQ (fst UQ Ls j) w z/\p=(z.1,((fst UQ Ls j:Nat):Int),((lst (fst UQ Ls j) z:Nat):Int)):=by
 unfold cG at hp
 obtain⟨y,hy,rfl⟩:=Pe.mp hp
 obtain⟨hy,hk⟩:=PM.mp hy
 obtain⟨n,nl,e1,e2⟩:=nv hy
 have V2:aO (aq UQ Ls) (n:Int)="part":=by
  unfold aO;rw[show((n:Nat):Int).toNat=n by omega,e2];exact UM hk
 obtain⟨j,z,w,hz,hb,e3⟩:=xr h nl V2
 refine⟨j,z,w,hz,hb,?_⟩
 subst e3
 unfold JK
 rw[e1,hb.cl jn]
 have:y.2=⟨"part",z.1,w, -1⟩:=by rw[← e2,OY,hb.nm];rfl
 rw[this]
 rfl
end
section
variable {v:fq}{n i:Nat}
theorem z4 {α:Type}(l:List α)(d:α)(p:α->Bool):((Pm l.length).filter λi=>p (l.getD i d)).length=(l.filter p).length:=by
 have e:(Pm l.length).map (λi=>l.getD i d)=l:=by
  refine PX λi=>?_
  rw[O5]
  rcases Q2 i l.length with h | h
  ·rw[P1 h,OX h]
   show some (l.getD i d)=_
   rw[OY,OX h];rfl
  ·rw[Po (by simpa using h),Po h];rfl
 conv=>rhs;rw[← e,QV,OZ]
 rfl
def me (S:List ay)(f:Nat)(z:Str×List Th):OB:=((Pm (UU z.2)).filter λi=>aP (aO S ((f+1+i:Nat):Int))).map (λi=>((f+1+i:Nat):Int))++[((lst f z:Nat):Int)]
theorem iN {S:List ay}{f:Nat}{z:Str×List Th}{v:Int}(h:G5 S f (lst f z) v):v∈me S f z:=by
 obtain⟨h1,h2,h3⟩:=h
 unfold me
 by_cases q:v=((lst f z:Nat):Int)
 ·exact Pb _ (by rw[q];exact O0.mpr rfl)
 ·have YJ:v<=((f+1+UU z.2:Nat):Int):=h2
  have q':v≠((f+1+UU z.2:Nat):Int):=q
  refine Pj _ (Pe.mpr ⟨v.toNat-(f+1),PM.mpr ⟨P0.mpr (by omega),?_⟩,by omega⟩)
  rw[show((f+1+(v.toNat-(f+1)):Nat):Int)=v by omega]
  exact h3.resolve_left q
theorem zo {S:List ay}{Ld:List OB}{UQ:OC}{f:Nat}{w:Int}{z:Str×List Th}(h:eC S Ld UQ f w z)(hr:bS z.2<=14):(me S f z).length<=16:=by
 unfold me
 rw[O4,OZ,Py]
 have e:((Pm (UU z.2)).filter λi=>aP (aO S ((f+1+i:Nat):Int)))=((Pm (bN UQ (((f+1:Nat)):Int) (w+2) (f:Int) z.2).length).filter λi=>aP ((bN UQ (((f+1:Nat)):Int) (w+2) (f:Int) z.2).getD i c7).kind):=by
  rw[bP]
  refine List.filter_congr λi hi=>?_
  have hi:i<(bN UQ (((f+1:Nat)):Int) (w+2) (f:Int) z.2).length:=by rw[bP];exact P0.mp hi
  rw[(h.s.k (OX hi)).1,OY,OX hi]
  rfl
 rw[e,z4 (bN UQ (((f+1:Nat)):Int) (w+2) (f:Int) z.2) c7 λs=>aP s.kind]
 have:=wR (bN UQ (((f+1:Nat)):Int) (w+2) (f:Int) z.2)
 rw[xC] at this
 omega
theorem oA {UQ:OC}{Ls:List (List Th)}(h:cf UQ Ls):lM (aq UQ Ls) (bR UQ Ls)/\Good (U4 (aq UQ Ls) (bR UQ Ls)):=by
 obtain⟨hLd,hLi,Xz⟩:=BW h
 have hS:=Lc h
 refine⟨⟨hS,hLd,hLi,λn hn hk=>?_⟩,?_⟩
 ·obtain⟨j,z,w,hz,hb,e⟩:=xr h hn hk
  subst e
  rw[hb.cl jn];rfl
 have bl:∀{j:Nat} {z:Str×List Th} {w:Int},eC (aq UQ Ls) (bR UQ Ls) UQ (fst UQ Ls j) w z->fst UQ Ls j<(aq UQ Ls).length:=λhb=>(OW.mp hb.nm).1
 have hn:=oT h
 have hlp:(cG (aq UQ Ls)).length=UQ.length:=by rw[← congrArg List.length hn,OZ]
 refine⟨hS,?_,?_,λp hp=>?_,hLi,Xz,jt _ (QW _),?_,λn t ht hk=>?_,λfd hR n Xk hk=>?_,λp hp=>?_,λp hp=>?_,?_,λr hr=>?_,λp hp=>?_⟩
 ·show(cG (aq UQ Ls)).length<=4
  rw[hlp,h.l];exact h.l4
 ·show((cG (aq UQ Ls)).map (·.1)).Nodup
  rw[hn];exact h.nd
 ·obtain⟨j,z,w,hz,hb,rfl⟩:=lY h hp
  have:=bl hb
  exact⟨by show(0:Int)<=((fst UQ Ls j:Nat):Int);omega,by show((fst UQ Ls j:Nat):Int)<((aq UQ Ls).length:Int);omega⟩
 ·show(VD (aq UQ Ls)).Nodup
  rw[Dy h];exact h.nd
 ·-- UR
  have ht:(aq UQ Ls)[n]?=some t:=ht
  have Xk:=(OW.mp ht).1
  obtain⟨j,z,w,hz,hb,h1,h2,h3⟩:=lj h n Xk
  have V2:=(c9 ht).1
  have U9:n≠fst UQ Ls j:=λe=>by
   rw[e,hb.k,hk] at V2
   exact UJ V2 (by decide +kernel)
  have Zf:n≠lst (fst UQ Ls j) z:=λe=>by
   rw[e,(c9 hb.e).1,hk] at V2
   exact UJ V2 (show("end":Str)≠"call" by decide +kernel)
  have YJ:n<fst UQ Ls j+1+UU z.2:=Rb h2 Zf
  have hi:n-(fst UQ Ls j+1)<(bN UQ (((fst UQ Ls j+1:Nat)):Int) (w+2) (fst UQ Ls j:Int) z.2).length:=by rw[bP];omega
  have hs:=hb.s _ _ (OX hi)
  rw[show fst UQ Ls j+1+(n-(fst UQ Ls j+1))=n by omega,ht] at hs
  have ko:=jR (UQ:=UQ) z.2 false _ _ _ (dP h hz).1 _ (PD hi)
  rw[← Option.some.inj hs] at ko
  obtain⟨c,c1,c2,c3⟩:=ko.cl hk
  have XA:c.toNat<UQ.length:=by rw[h.l];omega
  have hcz:c.toNat<(cO UQ Ls).length:=by rw[Qc,h.l];omega
  obtain⟨w',VZ⟩:=gp (UQ:=UQ) (Ls:=Ls) (OX hcz)
  have VJ:=nC (cO UQ Ls) j c.toNat z hz (by omega)
  refine⟨fst UQ Ls c.toNat,_,?_,VZ.nm,rfl,?_⟩
  ·have:fst UQ Ls j+2+UU z.2<=fst UQ Ls c.toNat:=VJ
   omega
  ·rw[c3]
   have WT:=(dP h (OX hcz)).2.2.2.1
   rw[OY,WT];rfl
 ·-- coming to each YS
  obtain⟨XB,XX⟩:=hR
  have Xk:n<(aq UQ Ls).length:=Xk
  obtain⟨j,z,w,hz,hb,h1,h2,h3⟩:=lj h n Xk
  have V2:aO (aq UQ Ls) (n:Int)∈Vf:=hk
  have U9:n≠fst UQ Ls j:=λe=>by
   rw[e,hb.k] at V2
   exact UJ V2 (by decide +kernel)
  have Zf:n≠lst (fst UQ Ls j) z:=λe=>by
   rw[e,(c9 hb.e).1] at V2
   exact UJ V2 (show("end":Str)∉Vf by decide +kernel)
  have YJ:n<fst UQ Ls j+1+UU z.2:=Rb h2 Zf
  have hf:((fst UQ Ls j:Nat):Int)∈fd:=by
   refine XB (z.1,((fst UQ Ls j:Nat):Int),(bA (dI (aq UQ Ls)) ((fst UQ Ls j:Nat):Int)).getD 0) ?_
   show _∈cG (aq UQ Ls)
   unfold cG
   exact Pe.mpr ⟨(((fst UQ Ls j:Nat):Int),⟨"part",z.1,w, -1⟩),PM.mpr ⟨oG hb.nm,UO rfl⟩,rfl⟩
  have hC:lh (bR UQ Ls) fd:=XX
  have hf1:=hC.on hf hb.df (l:=((fst UQ Ls j:Nat):Int)+1) (O0.mpr rfl)
  have:=(AA (UQ:=UQ) (S:=aq UQ Ls) hC z.2 false (fst UQ Ls j+1) (w+2) _ 0 _ (dP h hz).1 hb.s hb.d (by push_cast;exact hf1)).1 (n-(fst UQ Ls j+1)) (by omega) (by rw[show fst UQ Ls j+1+(n-(fst UQ Ls j+1))=n by omega];exact V2)
  rwa [show fst UQ Ls j+1+(n-(fst UQ Ls j+1))=n by omega] at this
 ·-- each later part is called
  have hp:p∈(cG (aq UQ Ls)).drop 1:=hp
  obtain⟨k,hk⟩:=Pf.mp hp
  rw[List.getElem?_drop] at hk
  have hnk:UQ[1+k]?=some p.1:=by rw[← hn,O5,hk];rfl
  have YF:=(OW.mp hnk).1
  obtain⟨L,hL,hcL⟩:=h.cl (1+k) (by omega) (by rw[← h.l];exact YF)
  obtain⟨i,hi⟩:=Pf.mp hL
  have il:=(OW.mp hi).1
  have hiz:i<(cO UQ Ls).length:=by rw[Qc,h.l];omega
  obtain⟨w',VZ⟩:=gp (UQ:=UQ) (Ls:=Ls) (OX hiz)
  have e2:=(dP h (OX hiz)).2.2.2.2
  rw[hi] at e2
  have e2:=Option.some.inj e2
  obtain⟨s,hs,s1,s2⟩:=call_in (UQ:=UQ) (((fst UQ Ls i+1:Nat)):Int) (w'+2) ((fst UQ Ls i:Nat):Int) hcL
  rw[e2] at hs
  obtain⟨q,hq⟩:=Pf.mp hs
  refine⟨s,O6 (VZ.s q s hq),s1,?_⟩
  rw[s2,show(((1+k:Nat)):Int).toNat=1+k by omega,OY,hnk];rfl
 ·-- no part ends at UW begin
  obtain⟨j,z,w,hz,hb,rfl⟩:=lY h hp
  obtain⟨V9,WI,XH,_⟩:=dP h hz
  show(aQ (aq UQ Ls) (bR UQ Ls)).getD ((fst UQ Ls j:Nat):Int).toNat 0≠((lst (fst UQ Ls j) z:Nat):Int)
  rw[show((fst UQ Ls j:Nat):Int).toNat=fst UQ Ls j by omega,hb.first V9 WI]
  have:=(jU hb V9 WI).2
  show((fst UQ Ls j+1:Nat):Int)≠((fst UQ Ls j+1+UU z.2:Nat):Int)
  omega
 ·-- rows
  show(eV (aq UQ Ls) (bR UQ Ls) (aQ (aq UQ Ls) (bR UQ Ls))).length<=30
  refine QX (Cq _ _ _) ?_
  rw[MR]
  have e:(cO UQ Ls).map (λz=>bS z.2)=Ls.map bS:=by
   conv=>rhs;rw[← Jt h]
   rw[PQ];rfl
  show((cO UQ Ls).map λz=>bS z.2).sum<=30
  rw[e];exact h.tot
 ·obtain⟨n,s,l,h1,h2,h3,_⟩:=lN hr
  have Xk:=(OW.mp h1).1
  rw[h2]
  refine⟨⟨by omega,by show(n:Int)<((aq UQ Ls).length:Int);omega⟩,?_⟩
  show aO (aq UQ Ls) (n:Int)∈Vf
  rw[(c9 h1).1];exact BL h3
 ·-- places
  obtain⟨j,z,w,hz,hb,rfl⟩:=lY h hp
  obtain⟨V9,WI,XH,_⟩:=dP h hz
  have fl:fst UQ Ls j<lst (fst UQ Ls j) z:=by show _<fst UQ Ls j+1+UU z.2;omega
  have VS:=λn h1 h2=>hb.xX jn V9 _ n rfl h1 h2
  refine QX (iu.len (Kp:=me (aq UQ Ls) (fst UQ Ls j) z) ?_) (zo hb XH)
  refine iu.rows ?_ λr hr hi=>?_
  ·have U9:(aQ (aq UQ Ls) (bR UQ Ls)).getD (fst UQ Ls j) 0≠((lst (fst UQ Ls j) z:Nat):Int):=by
    rw[hb.first V9 WI]
    have:=(jU hb V9 WI).2
    show((fst UQ Ls j+1:Nat):Int)≠((fst UQ Ls j+1+UU z.2:Nat):Int)
    omega
   have e0:(U4 (aq UQ Ls) (bR UQ Ls)).St.getD ((fst UQ Ls j:Nat):Int).toNat 0=(aQ (aq UQ Ls) (bR UQ Ls)).getD (fst UQ Ls j) 0:=by rw[show((fst UQ Ls j:Nat):Int).toNat=fst UQ Ls j by omega];rfl
   dsimp only
   rw[e0]
   refine⟨?_,λx hx=>?_⟩
   ·exact Pw.mpr ⟨λq=>U9 (O0.mp q),Pw.mpr ⟨by simp,Qw⟩⟩
   ·have hx:x=(aQ (aq UQ Ls) (bR UQ Ls)).getD (fst UQ Ls j) 0∨x=((lst (fst UQ Ls j) z:Nat):Int):=by simpa using hx
    rcases hx with rfl | rfl
    ·exact iN (VS _ (QW _) (by omega))
    ·exact iN ⟨by omega,OS _,.inl rfl⟩
  ·obtain⟨n,s,l,h1,h2,h3,h4,h5⟩:=lN hr
   unfold f7 at hi
   rw[OK] at hi
   have i1:((fst UQ Ls j:Nat):Int)<r.1:=UM hi.1
   have i2:r.1<((lst (fst UQ Ls j) z:Nat):Int):=UM hi.2
   rw[h2] at i1 i2
   have V2:aO (aq UQ Ls) (n:Int)=s.kind:=(c9 h1).1
   have st:=hb.all jn V9 n (by omega) (by omega)
   have rg:=st.rg l h4
   refine⟨?_,?_⟩
   ·rw[h2]
    exact iN ⟨i1,by omega,.inr (by rw[V2];exact h3)⟩
   ·rw[h5]
    exact iN (VS l.toNat (by omega) (by omega))
theorem FH:Pure:=λUQ Ls h=>⟨bR UQ Ls,oA h⟩
structure jg (mg:Oz):Prop where
 isinstance:mg "isinstance"=none
 bool:mg "bool"=none
 max:mg "max"=none
 W6:∃t,mg "NO_CALL"=some (.int (-1) t)
 first:∃t,mg "FIRST_PART"=some (.int 0 t)
 yes:∃t,mg "YES"=some (.int 1 t)
 ended:∃t,mg "ENDED"=some (.str "ended" t)
 bound:∃t,mg "BOUND"=some (.str "bound" t)
 Xp:∃t,mg "WANTING"=some (.str "wanting" t)
abbrev g9:=OH
abbrev DG:Row:=(0,0,0,0)
def rowOf (v:fq)(k:Int):Row:=v.2.getD k.toNat DG
def pj (v:fq)(p q:Int):OB:=(ups 0 v.2.length).filter λk=>decide (((rowOf v k).1,(rowOf v k).2.1)=(p,q))
theorem lS {st:g9}(h:st≠[]):st.dropLast++[st.getLast h]=st:=P7 h
def trim (st:g9):g9:=(st.reverse.dropWhile λt=>decide (t.2=1)).reverse
theorem vi:trim []=[]:=rfl
theorem u7 {st:g9}(h:st≠[])(e:(st.getLast h).2=1):trim st=trim st.dropLast:=by
 have e1:st.reverse=st.getLast h::st.dropLast.reverse:=by
  have:=congrArg List.reverse (lS h)
  rw[← this];simp
 unfold trim
 rw[e1,List.dropWhile_cons,UL (UO e)]
theorem rA {st:g9}(h:st≠[])(e:(st.getLast h).2≠1):trim st=st:=by
 have e1:st.reverse=st.getLast h::st.dropLast.reverse:=by
  have:=congrArg List.reverse (lS h)
  rw[← this];simp
 unfold trim
 rw[e1,List.dropWhile_cons,UK (by simpa using e),← e1,List.reverse_reverse]
theorem sY:∀(n:Nat) (st:g9),st.length=n->∃s',st=trim st++s'/\(∀t∈s',t.2=1)/\∀h:trim st≠[],((trim st).getLast h).2≠1
 | 0,st,hn=>by
   have:st=[]:=List.length_eq_zero_iff.mp hn
   subst this
   rw[vi]
   exact⟨[],rfl,by simp,λh=>UJ rfl h⟩
 | n+1,st,hn=>by
   have U9:st≠[]:=λe=>by rw[e] at hn;simp at hn
   by_cases e:(st.getLast U9).2=1
   ·obtain⟨s',h1,h2,h3⟩:=sY n st.dropLast (by rw[Qr,hn];rfl)
    rw[u7 U9 e]
    refine⟨s'++[st.getLast U9],?_,λt ht=>?_,h3⟩
    ·rw[← Pg,← h1];exact(lS U9).symm
    ·rcases Pa.mp ht with q | q
     ·exact h2 t q
     ·rw[O0.mp q];exact e
   ·rw[rA U9 e]
    exact⟨[],by simp,by simp,λ_=>e⟩
structure lX (v:fq):Prop where
 pl:v.1.length<=4
 p1:1<=v.1.length
 rl:v.2.length<=30
 sz:∀n∈v.1,2<=n/\n<=16
 rw:∀r∈v.2,(0<=r.1/\r.1<(v.1.length:Int))/\(0<=r.2.1/\r.2.1<v.1.getD r.1.toNat 0)/\(0<=r.2.2.1/\r.2.2.1<v.1.getD r.1.toNat 0)/\(r.2.2.2= -1∨(0<=r.2.2.2/\r.2.2.2<(v.1.length:Int)))
 fr:∀p k:Nat,p<v.1.length->(k:Int)<v.1.getD p 0->k≠1->∃(n:Nat) (r:Row),v.2[n]?=some r/\r.1=(p:Int)/\r.2.1=(k:Int)
theorem nK {α β:Type}{P:α->List β->Prop}(hp:∀x ys,P x ys->ys=[]):∀{xs:List α} {VH:List (List β)},PySem.Paired P xs VH->VH=Qn xs.length []
 | _,_,.nil=>rfl
 | _,_,.cons h t=>by rw[O8,List.replicate_succ,nK hp t,hp _ _ h]
def jj (v:fq)(p:Int)(i:Nat)(q:Int):OB:=(ups 0 i).filter λk=>decide (((rowOf v k).1,(rowOf v k).2.1)=(p,q))
theorem Cv (i:Nat):ups 0 (i+1)=ups 0 i++[(i:Int)]:=by
 unfold ups
 rw[range_succ,Ph]
 simp
theorem oY (v:fq)(p:Int)(i:Nat)(q:Int):jj v p (i+1) q=jj v p i q++(if(rowOf v (i:Int)).1=p/\(rowOf v (i:Int)).2.1=q then[(i:Int)] else[]):=by
 unfold jj
 rw[Cv,Qb]
 congr 1
 by_cases h:(rowOf v (i:Int)).1=p/\(rowOf v (i:Int)).2.1=q
 ·rw[UL h,P2 (by simp[h.1,h.2])];rfl
 ·rw[UK h,P4 (by simp;exact λa b=>h ⟨a,b⟩)];rfl
def iJ (v:fq)(p:Int)(n i:Nat):List OB:=(ups 0 n).map (jj v p i)
def i8 (v:fq)(p:Int):List OB:=(ups 0 (v.1.getD p.toNat 0).toNat).map (pj v p)
theorem jK (v:fq)(p:Int)(n i:Nat):(iJ v p n i).length=n:=by unfold iJ;rw[OZ,ba]
theorem qS {j:Nat}(h:j<n):(ups 0 n)[j]?=some (j:Int):=by unfold ups;rw[O5,P1 h];simp
theorem ng {p:Int}{j:Nat}(h:j<n):(iJ v p n i)[j]?=some (jj v p i (j:Int)):=by unfold iJ;rw[O5,qS h];rfl
theorem yI {p:Int}(h:(rowOf v (i:Int)).1≠p):iJ v p n (i+1)=iJ v p n i:=by
 unfold iJ
 refine P9 λq hq=>?_
 rw[oY,UK (λz=>h z.1),Px]
theorem C1 {p:Int}(h:(rowOf v (i:Int)).1=p)(s0:0<=(rowOf v (i:Int)).2.1)(s1:(rowOf v (i:Int)).2.1<(n:Int)):(iJ v p n i).set (rowOf v (i:Int)).2.1.toNat (jj v p i (rowOf v (i:Int)).2.1++[(i:Int)])=iJ v p n (i+1):=by
 apply PX
 intro j
 by_cases hj:j<n
 ·rw[ng hj,oY]
  by_cases e:(rowOf v (i:Int)).2.1.toNat=j
  ·subst e
   rw[Pc (by rw[jK];exact hj),UL ⟨h,by omega⟩]
   rw[show(((rowOf v (i:Int)).2.1.toNat:Nat):Int)=(rowOf v (i:Int)).2.1 by omega]
  ·rw[Pq e,ng hj,UK (λz=>e (by have:=z.2;omega)),Px]
 ·rw[Po (by rw[PN,jK];omega),Po (by rw[jK];omega)]
theorem rM (v:fq)(p:Int)(i:Nat)(q:Int):(jj v p i q).length<=i:=by
 unfold jj
 refine QX (Qp _ _) ?_
 rw[ba];exact QW _
theorem Bz {p q:Int}(q0:0<=q)(q1:q<v.1.getD p.toNat 0):(i8 v p)[q.toNat]?=some (pj v p q):=by
 have:=ng (v:=v) (p:=p) (n:=(v.1.getD p.toNat 0).toNat) (i:=v.2.length) (j:=q.toNat) (by omega)
 rw[show((q.toNat:Nat):Int)=q by omega] at this
 exact this
theorem boot_bool:Se "bool"=some (.type "bool"):=by decide +kernel
end
section
theorem vI {st:g9}(h:st≠[]):st[st.length-1]?=some (st.getLast h):=by rw[List.getLast_eq_getElem];exact OX _
abbrev Eb:Stmt:=top px
abbrev MW:OC:=["web","part","leaving","number","row"]
theorem GG:aF MW ["web","part"] (ai Eb):=Vk
def Nr (fr:Bool):cP:=λK ps T=>∃(v:fq) (p:Int),ps=[⟨jH,v⟩,⟨ah,p⟩]/\lX v/\0<=p/\p<(v.1.length:Int)/\T=if fr=true then Aq K (ae ah) (· =i8 v p) else Nl K ah (· =i8 v p)
theorem KN (fr:Bool)(M:cH K mg)(Df:Def K mg "rows_leaving" Eb ["web","part"]):aH P w K mg base "rows_leaving" 1 (aN (Nr fr) K):=by
 have nd:=GG.nd
 have Wf:Pt [("place":Str)]:=by decide
 refine bJ Df GG (λf UX A outer s H E qs T hr hS=>?_)
 obtain⟨v,p,rfl,hv,p0,p1,rfl⟩:=hS
 have pl:=hv.pl
 have rl:=hv.rl
 have hn:cy v.1 p=some (v.1.getD p.toNat 0):=aY 0 p0 p1
 have nb:=hv.sz (v.1.getD p.toNat 0) (by rw[OY,OX (by omega)];exact PD _)
 generalize hN:v.1.getD p.toNat 0=n at hn nb
 change WS _ _ [Nk v,ar p,.no,.no,.no] _ _
 refine ak (Fw 2 (own:=["place"]) (fr:=[]) (ix:=[]) (ra:=ah) (rb:=ah) (P:=λ_ ys=>ys=[]) (bK (so:=ai Eb) (N0:=MW) rfl rfl (λx h=>bz h) (by decide +kernel)) (dD M.range (bo (tD (aa 0 rfl)) (aa 1 rfl) hn) ⟨by omega,by omega⟩)
  (λC s H ex=>aX 0) (λx=>⟨.inr rfl,trivial⟩) (λx=>⟨trivial,trivial⟩) (λC s H ex x hx=>aZ.evr (aV aR (by decide)) rfl) λa bs VH pq _=>?_)
 have ey:=nK (λ_ _ h=>h) pq
 rw[ba] at ey
 have e0:Qn n.toNat ([]:OB)=iJ v p n.toNat 0:=by
  unfold iJ jj
  apply PX
  intro j
  rw[Qk,O5]
  by_cases hj:j<n.toNat
  ·rw[UL hj,qS hj];rfl
  ·rw[UK hj,Po (by rw[ba];omega)];rfl
 rw[e0] at ey
 subst ey
 refine ak (cJ (r:=eE ah d9) (λi Γ=>∃v3 v4,Γ=[Nk v,ar p,.ob (o9 ah a bs (iJ v p n.toNat i)),v3,v4])
  (iz M.enumerate (oZ (aa 0 rfl))) (fO 3 4) ⟨_,_,rfl⟩ ?_ ?_)
 ·rintro i x Γ hx ⟨v3,v4,rfl⟩
  obtain⟨e1,e2⟩:=eJ hx
  have il:=(OW.mp e2).1
  have er:rowOf v i=x.2:=by unfold rowOf;rw[OY,show((i:Int)).toNat=i by omega,e2];rfl
  refine ao (bE (aD iG (xo (aa 4 rfl)) (aa 1 rfl)) (λh=>?_) (λh=>aW ?_))
  ·have h:x.2.1=p:=UM h
   have rp:=hv.rw _ (O6 e2)
   have q0:=rp.2.1.1
   have q1:=rp.2.1.2
   rw[h,hN] at q1
   have len:=jK v p n.toNat i
   refine ao (xK 2 (EG (aa 4 rfl)) (aa 3 rfl) rfl (vB q0 (by omega)) (ng (j:=x.2.2.1.toNat) (by omega)) (QZ (QX (rM v p i _) (show i<=100 by omega)) (by decide)) ?_)
   refine⟨ar x.1,.im d9 x.2,?_⟩
   have:=C1 (v:=v) (p:=p) (n:=n.toNat) (i:=i) (by rw[er];exact h) (by rw[er];exact q0) (by rw[er];omega)
   rw[er] at this
   rw[e1,show((x.2.2.1.toNat:Nat):Int)=x.2.2.1 by omega,this]
   rfl
  ·have h:x.2.1≠p:=UN h
   refine⟨ar x.1,.im d9 x.2,?_⟩
   rw[yI (by rw[er];exact h)]
   rfl
 ·rintro Γ ⟨v3,v4,rfl⟩
  rw[cK]
  have e:iJ v p n.toNat v.2.length=i8 v p:=by unfold i8;rw[hN];rfl
  rw[e]
  have ll:(i8 v p).length<=16:=by rw[← e,jK];omega
  cases fr with
  | false=>exact ao (Iv 2 rfl rfl)
  | true=>
    refine ao (FL 2 rfl (aK (by omega)) (λxs hx=>?_) rfl)
    rw[← e] at hx
    obtain⟨q,_,rfl⟩:=Pe.mp hx
    exact aK (QX (rM v p _ q) (by omega))
abbrev G1:Stmt:=top vR
theorem Ju:aF ["value"] ["value"] (ai G1):=Vk
def J8:cP:=λK ps T=>∃x:Int,ps=[⟨ah,x⟩]/\T=bU K cU (· =true)
theorem KH (M:cH K mg)(M4:jg mg)(Df:Def K mg "is_whole" G1 ["value"]):aH P w K mg base "is_whole" 1 (aN J8 K):=by
 have nd:=Ju.nd
 refine bJ Df Ju (λf UX A outer s H E qs T hr hS=>?_)
 obtain⟨x,rfl,rfl⟩:=hS
 exact ao (a8 (y6 (mz M4.isinstance M.int PyProof.Rows.boot_int (aa 0 rfl) ty_int) (λ_=>yX (Aj (mz M4.isinstance M4.bool boot_bool (aa 0 rfl) ty_int)))) rfl)
abbrev Ag:Stmt:=top ua
theorem HS:aF ["values"] ["values"] (ai Ag):=Vk
def MG:cP:=λK ps T=>((∃ns:OB,ps=[⟨ae ah,ns⟩])∨(∃r:Row,ps=[⟨d9,r⟩]))/\T=bU K cU (· =true)
theorem Ba {α:Type}(xs:List α):((xs.filter λ_=>true).map λ_=>true).all id=true:=by
 rw[Qu];intro b hb
 obtain⟨_,_,rfl⟩:=Pe.mp hb;rfl
theorem Lf (M:cH K mg)(M4:jg mg)(CI:aH P w K mg base "is_whole" 1 (aN J8 K))(F:dU K "are_whole" "are_whole" Ag f fd)(hm:mg "are_whole"=some (.ref f))(hb:Binds K fd ["values"] []):aH P w K mg base "are_whole" 2 (aN MG K):=by
 have nd:=HS.nd
 have Wf:Pt [("value":Str)]:=by decide
 refine gP F HS hm hb (λqs T ⟨e,_⟩=>by rcases e with⟨_,e⟩ | ⟨_,e⟩<;>(rw[e];rfl)) (λUX A outer s H E qs T hr hS=>?_)
 obtain⟨⟨ns,rfl⟩ | ⟨r,rfl⟩,rfl⟩:=hS
 ·exact ao (a8 (pZ M.all (aZ.im (bY (own:=["value"]) (fr:=[]) (ix:=[]) (p:=λ_=>true) (f:=λ_=>true) (bK (so:=ai Ag) (N0:=["values"]) rfl rfl (λx h=>bz h) (by decide +kernel)) (bX (aa 0 rfl))
   (λC s H ex=>aX 0) (λx=>⟨.inr rfl,trivial⟩) (λC s H ex x hx=>dE) (λC s H ex x hx _=>aE CI hr (aj (aa 0 rfl) aw) ⟨_,rfl,rfl⟩)))) (Ba ns))
 ·exact ao (a8 (pZ M.all (aZ.im (bY (own:=["value"]) (fr:=[]) (ix:=[]) (p:=λ_=>true) (f:=λ_=>true) (bK (so:=ai Ag) (N0:=["values"]) rfl rfl (λx h=>bz h) (by decide +kernel)) (J3 (aa 0 rfl))
   (λC s H ex=>aX 0) (λx=>⟨.inr rfl,trivial⟩) (λC s H ex x hx=>dE) (λC s H ex x hx _=>aE CI hr (aj (aa 0 rfl) aw) ⟨_,rfl,rfl⟩)))) (Ba _))
abbrev DZ:Stmt:=top pK
abbrev Dh:OC:=["answers","bound"]
theorem IZ:aF Dh Dh (ai DZ):=Vk
def mK (ans:OB):Bool:=((ans.filter λ_=>true).map λa=>decide (0<=a)&&decide (a<=1)).all id
def M0:cP:=λK ps T=>∃(ans:OB) (bound:Int),ps=[⟨ae ah,ans⟩,⟨ah,bound⟩]/\mK ans=true/\0<=bound/\T=bU K iF (λ_=>True)
theorem LW (M:cH K mg)(M4:jg mg)(CI:aH P w K mg base "is_whole" 1 (aN J8 K))(CA:aH P w K mg base "are_whole" 2 (aN MG K))(F:dU K "need_answers" "need_answers" DZ f fd)(hm:mg "need_answers"=some (.ref f))(hb:Binds K fd Dh []):aH P w K mg base "need_answers" 3 (aN M0 K):=by
 have nd:=IZ.nd
 have Wf:Pt [("answer":Str)]:=by decide
 refine Aa F IZ hm hb (λqs T ⟨_,_,e,_⟩=>by rw[e];rfl) (λUX A outer s H E qs T hr hS=>?_)
 obtain⟨ans,bound,rfl,ha,hb,rfl⟩:=hS
 refine⟨λ_ _ _=>⟨(),rfl,trivial⟩,?_⟩
 change WS _ _ [cb ans,ar bound] _ _
 refine ak (bE (TW.tv (lF (hJ (eL (mz M4.isinstance M.list Rv (aa 0 rfl) ty_list))) (λ_=>lF (hJ (eL (aE CA hr (aj (aa 0 rfl) aw) ⟨.inl ⟨_,rfl⟩,rfl⟩))) (λ_=>kL (hJ (eL (pZ M.all (aZ.im (bY (own:=["answer"]) (fr:=[]) (ix:=[]) (p:=λ_=>true) (f:=λa=>decide (0<=a)&&decide (a<=1)) (bK (so:=ai DZ) (N0:=Dh) rfl rfl (λx h=>bz h) (by decide +kernel)) (bX (aa 0 rfl))
  (λC s H ex=>aX 0) (λx=>⟨.inr rfl,trivial⟩) (λC s H ex x hx=>dE) (λC s H ex x hx _=>oI vz vz ev_int (aa 0 rfl) ev_int)))))))))) (λh=>?_) (λh=>aW ?_))
 ·have h2:(false ||(false || !mK ans))=true:=h
  rw[ha] at h2;cases h2
 refine ao (bE (TW.tv (lF (hJ (eL (aE (CI.mono (by decide)) hr (aj (aa 1 rfl) aw) ⟨_,rfl,rfl⟩))) (λ_=>kL (aD lZ (aa 1 rfl) ev_int)))) (λh=>?_) (λh=>aW trivial))
 have h2:(false ||decide (bound<0))=true:=h
 simp at h2
 omega
abbrev Jb:Stmt:=top vO
theorem HF:aF ["part"] ["part"] (ai Jb):=Vk
def Hn:cP:=λK ps T=>∃p:Int,ps=[⟨ah,p⟩]/\T=bU K gX (· =(p,0))
theorem KA (M3:jk mg)(Df:Def K mg "at_begin" Jb ["part"]):aH P w K mg base "at_begin" 1 (aN Hn K):=by
 have nd:=HF.nd
 obtain⟨t1,hB⟩:=M3.beg
 refine bJ Df HF (λf UX A outer s H E qs T hr hS=>?_)
 obtain⟨p,rfl,rfl⟩:=hS
 change WS _ _ [ar p] _ _
 exact ao (a8 (qY (aj (aa 0 rfl) (aj (eG hB) aw))) rfl)
abbrev Ap:Stmt:=top Kz
theorem Ha:aF ["stack","row"] ["stack","row"] (ai Ap):=Vk
def ja (st:g9)(r:Row):g9:=trim (if r.2.2.2= -1 then st.set (st.length-1) (r.1,r.2.2.1) else st.set (st.length-1) (r.1,r.2.2.1)++[(r.2.2.2,0)])
def MO:jZ (Int×Int):=λK xs ps T=>∃r:Row,ps=[⟨d9,r⟩]/\xs≠[]/\xs.length<=200000/\T=λxs'=>bU K iF λz=>xs'=ja xs r/\z=()
theorem Lm (M3:jk mg)(M4:jg mg)(CA:aH P w K mg base "at_begin" 1 (aN Hn K))(Df:Def K mg "go" Ap ["stack","row"]):aH P w K mg base "go" 2 (fF gX MO K):=by
 have nd:=Ha.nd
 obtain⟨t1,hNC⟩:=M4.W6
 obtain⟨t2,hEND⟩:=M3.end_
 refine B6 Df Ha (λf UX A outer s H E a xs qs T hr hS=>?_)
 obtain⟨r,rfl,ne,hl,rfl⟩:=hS
 change WS _ _ [.ob (a7 a gX xs),.im d9 r] _ _
 have hpos:0<xs.length:=QE.mpr ne
 have hix:fg xs.length (-1)=some (xs.length-1):=by unfold fg;rw[UK (by omega),UL (by omega)];congr 1;omega
 refine ak (fK 0 (j:=xs.length-1) (qY (aj (xo (aa 1 rfl)) (aj (Ey (aa 1 rfl)) aw))) (gO ev_int) rfl rfl hix ?_)
 have two:∀s2:g9,trim s2=ja xs r->WS (eI d6 P w K mg base ["stack","row"] "go" (ai Ap) f UX A outer s H E).h9 ((bw Ap).drop 2) [.ob (a7 a gX s2),.im d9 r] (λΓ=>∃xs',Γ[0]?=some (.ob (a7 a gX xs'))/\∀H0 H' R',(bU K iF λz=>xs'=ja xs r/\z=()) H0 .U8 H' R') (vA K a gX λxs'=>bU K iF λz=>xs'=ja xs r/\z=()):=by
  intro s2 he
  refine ao (lB (λm Γ=>∃s3:g9,Γ=[.ob (a7 a gX s3),.im d9 r]/\m=s3.length/\trim s3=ja xs r) (m0:=s2.length) ⟨s2,rfl,rfl,he⟩ ?_)
  rintro m Γ ⟨s3,rfl,rfl,ht⟩
  by_cases U9:s3=[]
  ·subst U9
   refine⟨_,_,TV.box 0 (TW.tv (c6 (y:=false) (kX 0 rfl) (λh=>UJ h (by decide)))) rfl rfl,λh=>UJ h (by decide),λ_=>?_⟩
   exact⟨[],rfl,λ_ _ _=>⟨(),rfl,by rw[← ht,vi],rfl⟩⟩
  ·have hl3:=vI U9
   have ne':s3.isEmpty=false:=by cases s3 with
    | nil=>exact UJ rfl U9
    | cons a b=>rfl
   refine⟨_,_,TV.box 0 (TW.tv (c6 (kX 0 rfl) (λ_=>ee (aD iG (oZ (mD 0 (gO ev_int) rfl rfl (oC hl3))) (eG hEND))))) rfl rfl,λh=>?_,λh=>?_⟩
   ·rw[OK] at h
    have h1:(s3.getLast U9).2=1:=UM h.2
    refine ao (mF (EV.box 0 (uN 0 rfl hl3) rfl rfl) ?_)
    exact⟨s3.dropLast.length,by rw[Qr];have:=QE.mpr U9;omega,s3.dropLast,rfl,rfl,by rw[← u7 U9 h1];exact ht⟩
   ·rw[ne'] at h
    have h1:(s3.getLast U9).2≠1:=by simpa using h
    rw[rA U9 h1] at ht
    exact⟨s3,rfl,λ_ _ _=>⟨(),rfl,ht,rfl⟩⟩
 refine ak (bE (aD Oj (xH (aa 1 rfl)) (eG hNC)) (λh=>?_) (λh=>aW ?_))
 ·have h:r.2.2.2≠ -1:=by simpa using h
  refine ao (mF (EV.box 0 (A6 0 (aE CA hr (aj (xH (aa 1 rfl)) aw) ⟨_,rfl,rfl⟩) rfl rfl (QZ (show _<=200001 by rw[PN];omega) (by decide))) rfl rfl) ?_)
  exact two _ (by rw[ja,UK h])
 ·have h:r.2.2.2= -1:=by simpa using h
  exact two _ (by rw[ja,UL h])
end
abbrev sJ:gg:=("",0,0)
def cE (s:gI)(n:Int):Int:=((s.parts.filter λp=>decide (p.2.1<=n)).length:Int)-1
def dH (s:gI):List OH:=s.parts.map (cj s)
def VI (UQ:OC)(x:Str):Nat:=UQ.findIdx λy=>decide (y=x)
def eu (s:gI)(r:Rw):Row:=
 (cE s r.1,(bA ((dH s).getD (cE s r.1).toNat []) r.1).getD 0,(bA ((dH s).getD (cE s r.1).toNat []) r.2.1).getD 0,if r.2.2.1="call" then(VI (s.parts.map (·.1)) r.2.2.2:Int) else -1)
def Vx (s:gI):fq:=((dH s).map λF=>(F.length:Int),s.rows.map (eu s))
structure BN (s:gI):Prop where
 pt:∀r∈s.rows,0<=cE s r.1/\cE s r.1<(s.parts.length:Int)
 f1:∀r∈s.rows,(bA ((dH s).getD (cE s r.1).toNat []) r.1).isSome
 f2:∀r∈s.rows,(bA ((dH s).getD (cE s r.1).toNat []) r.2.1).isSome
 cl:∀r∈s.rows,r.2.2.1="call"->r.2.2.2∈s.parts.map (·.1)
theorem mw {UQ:OC}{x:Str}(h:x∈UQ):UQ[VI UQ x]?=some x/\∀m,m<VI UQ x->UQ[m]?≠some x:=by
 unfold VI
 have hl:(UQ.findIdx λy=>decide (y=x))<UQ.length:=List.findIdx_lt_length_of_exists ⟨x,h,UO rfl⟩
 refine⟨?_,λm hm e=>?_⟩
 ·have:=List.findIdx_getElem (w:=hl)
  rw[OX hl,UM this]
 ·have:=List.not_of_lt_findIdx hm
  obtain⟨ml,em⟩:=OW.mp e
  rw[em] at this
  simp at this
theorem rJ {o:Option Int}(h:o.isSome=true):o=some (o.getD 0):=by
 cases o with
 | none=>cases h
 | some x=>rfl
section
variable {C D:Addr}
abbrev yF:Stmt:=top yx
theorem DK:aF ["spots","number"] ["spots","number"] (ai yF):=Vk
def Gx (C D:Addr):cP:=λK ps T=>∃(s:gI) (n:Int),ps=[⟨bq C D,s⟩,⟨ah,n⟩]/\s.parts.length<=4/\T=bU K ah (· =cE s n)
theorem IS (M:cH K mg)(HD:bF K D fh)(Df:Def K mg "part_at" yF ["spots","number"]):aH P w K mg base "part_at" 1 (aN (Gx C D) K):=by
 have nd:=DK.nd
 have Wf:Pt [("part":Str),"number"]:=by decide
 refine bJ Df DK (λf UX A outer st H E qs T hr hS=>?_)
 obtain⟨s,n,rfl,hl,rfl⟩:=hS
 change WS _ _ [.im (bq C D) s,ar n] _ _
 refine ao (a8 (gm (eO M.len (aZ.im (bY (own:=["part"]) (fr:=["number"]) (ix:=[1]) (ra:=aI) (rb:=aI) (p:=λz=>decide (xJ z<=n)) (f:=λz=>z) (bK (so:=ai yF) (N0:=["spots","number"]) rfl rfl (λx h=>bz h) (by decide +kernel)) (bX (g8 (C:=C) HD (aa 0 rfl)))
  (λC s H ex=>aX 0) (λx=>⟨.inr rfl,.inl rfl,trivial⟩) (λC' s' H ex z hz=>?_) (λC' s H ex z hz _=>aa 0 rfl)))) ev_int) ?_)
 ·obtain⟨p,hp,rfl⟩:=Pe.mp hz
  exact hX (aD vz (EV.iP (n:=p.2.1) (c5 (aa 0 rfl) ev_int rfl)) (aa 1 rfl))
 ·unfold cE
  rw[OZ,QV,OZ]
  rfl
abbrev xA:Stmt:=top A0
abbrev Dt:OC:=["text","spots","names","places","rows","row","part","calls"]
theorem Jw:aF Dt ["text"] (ai xA):=Vk
def yO:cP:=λK ps T=>∃(x:Str) (S:List ay) (Ld:List OB),ps=[⟨ag,x⟩]/\mx x S/\lM S Ld/\Good (U4 S Ld)/\BN (U4 S Ld)/\T=bU K jH (· =Vx (U4 S Ld))
theorem Ky (M:cH K mg)(M4:jg mg)(HD:bF K D fh)(CN:aH P w K mg base "need_program" 6 (aN (Ed C D) K))(CP:aH P w K mg base "places_in" 1 (aN (BO C D) K))(CA:aH P w K mg base "part_at" 1 (aN (Gx C D) K))(F:dU K "web_of" "web_of" xA f fd)(hm:mg "web_of"=some (.ref f))(hb:Binds K fd ["text"] []):aH P w K mg base "web_of" 7 (aN yO K):=by
 have nd:=Jw.nd
 have Wf:Pt [("part":Str)]:=by decide
 have Xs:Pt [("part":Str),"spots"]:=by decide
 have ndc3:Pt [("known":Str)]:=by decide
 have CP:=CP.mono (show 1<=6 by decide)
 have CA:=CA.mono (show 1<=6 by decide)
 refine gP (k:=6) F Jw hm hb (λqs T ⟨_,_,_,e,_⟩=>by rw[e];rfl) (λUX A outer st H E qs T hr hS=>?_)
 obtain⟨x,S,Ld,rfl,hx,hk,hG,hW,rfl⟩:=hS
 obtain⟨t,hnc⟩:=M4.W6
 have hu:=ru hr
 change WS _ _ [.im ag x,.no,.no,.no,.no,.no,.no,.no] _ _
 refine ak (a9 1 (y:=U4 S Ld) (aE CN hr (aj (aa 0 rfl) aw) ⟨x,S,Ld,rfl,hx,hk,hG,rfl⟩) ?_)
 generalize U4 S Ld=s at hG hW
 have Ve:=hG.pl
 have hrl:=hG.rl
 change WS _ _ [.im ag x,.im (bq C D) s,.no,.no,.no,.no,.no,.no] _ _
 have YD:((s.parts.map j3).filter λ_=>true).map tT=s.parts.map (·.1):=by rw[PU.mpr λ_ _=>rfl,PQ];rfl
 refine ak (kY 2 (own:=["part"]) (fr:=[]) (ix:=[]) (ra:=aI) (rb:=ag) (p:=λ_=>true) (f:=tT) (bK (so:=ai xA) (N0:=Dt) rfl rfl (λx h=>bz h) (by decide +kernel)) (bX (g8 (C:=C) HD (aa 1 rfl)))
  (λC s H ex=>aX 0) (λx=>⟨.inr rfl,trivial⟩) (λC' s H ex c hc=>dE) (λC' s H ex o ho _=>by
   obtain⟨p,_,rfl⟩:=Pe.mp ho
   exact EV.sP (x:=p.1) (c5 (aa 0 rfl) ev_int rfl)) ?_)
 rw[YD]
 generalize YC:s.parts.map (·.1)=UQ
 have Zf:UQ.length=s.parts.length:=by rw[← YC,OZ]
 refine WS.freeze 2 rfl (aK (by omega)) ?_
 change WS _ _ [.im ag x,.im (bq C D) s,.im (ae ag) UQ,.no,.no,.no,.no,.no] _ _
 have hpls:((ups 0 UQ.length).filter λ_=>true).map (λi=>cj s (s.parts.getD i.toNat sJ))=dH s:=by
  rw[PU.mpr λ_ _=>rfl,Zf]
  unfold dH
  refine PX λi=>?_
  unfold ups
  rw[O5,O5,O5]
  rcases Q2 i s.parts.length with h | h
  ·rw[P1 h,OX h]
   show some (cj s (s.parts.getD (0+(i:Int)).toNat sJ))=_
   rw[show(0+(i:Int)).toNat=i by omega,OY,OX h];rfl
  ·rw[Po (by simpa using h),Po h];rfl
 refine ak (kY 3 (own:=["part"]) (fr:=["spots"]) (ix:=[1]) (ra:=ah) (rb:=iW) (p:=λ_=>true) (f:=λi=>cj s (s.parts.getD i.toNat sJ)) (bK (so:=ai xA) (N0:=Dt) rfl rfl (λx h=>bz h) (by decide +kernel)) (dD M.range (eO M.len (aa 2 rfl)) ⟨by omega,by omega⟩)
  (λC s H ex=>aX 0) (λx=>⟨.inr rfl,.inl rfl,trivial⟩) (λC' s H ex c hc=>dE) (λC' s' H ex o ho _=>by
   obtain⟨i,hi⟩:=Pf.mp ho
   obtain⟨il,rfl⟩:=fm hi
   have il:i<s.parts.length:=by omega
   rw[show(0:Int)+(i:Int)=(i:Int) by omega]
   exact aE CP hr (aj (aa 1 rfl) (aj (aa 0 rfl) aw)) ⟨s,i,s.parts.getD i sJ,rfl,hG,by rw[OY,OX il];rfl,rfl⟩) ?_)
 rw[show((UQ.length:Int)).toNat=UQ.length by omega,hpls]
 have hpll:(dH s).length=s.parts.length:=by unfold dH;rw[OZ]
 refine WS.freeze 3 rfl (aK (by omega)) ?_
 refine ak (cS 4 (r:=d9) (ys:=[]) (aV aR (QY _)) ?_)
 change WS _ _ [.im ag x,.im (bq C D) s,.im (ae ag) UQ,.im (ae iW) (dH s),.mu d9 [],.no,.no,.no] _ _
 refine bM (N1:=λΓ=>∃e5 e6 e7,Γ=[.im ag x,.im (bq C D) s,.im (ae ag) UQ,.im (ae iW) (dH s),.mu d9 (s.rows.map (eu s)),e5,e6,e7]) (cJ (λi Γ=>∃e5 e6 e7,Γ=[.im ag x,.im (bq C D) s,.im (ae ag) UQ,.im (ae iW) (dH s),.mu d9 ((s.rows.take i).map (eu s)),e5,e6,e7]) (bX (pT (C:=C) HD (aa 1 rfl))) (aX 5) ⟨_,_,_,rfl⟩ (λi z Γ hz hΓ=>?_) (λΓ hΓ=>?_)) ?_
 ·obtain⟨e5,e6,e7,rfl⟩:=hΓ
  rw[O5] at hz
  obtain⟨r,WM,rfl⟩:=Rl.mp hz
  have rm:=O6 WM
  have il:=(OW.mp WM).1
  obtain⟨q0,q1⟩:=hW.pt r rm
  have V5:(s.rows.take (i+1)).map (eu s)=(s.rows.take i).map (eu s)++[eu s r]:=by rw[PJ,WM,Ph];rfl
  rw[V5]
  have tl:((s.rows.take i).map (eu s)).length<=30:=by rw[OZ,Pl];omega
  generalize (s.rows.take i).map (eu s)=rs at tl
  change WS _ _ [.im ag x,.im (bq C D) s,.im (ae ag) UQ,.im (ae iW) (dH s),.mu d9 rs,.im aI (h8 r),e6,e7] _ _
  refine ak (a9 6 (y:=cE s r.1) (aE CA hr (aj (aa 1 rfl) (aj (EV.iP (n:=r.1) (c5 (aa 5 rfl) ev_int rfl)) aw)) ⟨s,r.1,rfl,Ve,rfl⟩) ?_)
  have XA:r.2.2.1="call"->r.2.2.2∈UQ:=λq=>by rw[← YC];exact hW.cl r rm q
  refine ak (a9 7 (y:=if r.2.2.1="call" then(VI UQ r.2.2.2:Int) else -1) (EV.cast (kj (aD cM (EV.sP (x:=r.2.2.1) (c5 (aa 5 rfl) ev_int rfl)) aG) (λh=>zk (aa 2 rfl) (EV.sP (x:=r.2.2.2) (c5 (aa 5 rfl) ev_int rfl)) (mw (XA (UM h))).1 (mw (XA (UM h))).2) (λ_=>eG hnc)) (by by_cases q:r.2.2.1="call"<;>simp[q])) ?_)
  have VM:cy (dH s) (cE s r.1)=some ((dH s).getD (cE s r.1).toNat []):=aY (xs:=dH s) (i:=cE s r.1) [] q0 (by omega)
  refine ao (eY 4 (y:=eu s r) (Fu (ax (EV.pI (aa 6 rfl)) (ax (EV.pI (jF hu (bo (aa 3 rfl) (aa 6 rfl) VM) (EV.iP (n:=r.1) (c5 (aa 5 rfl) ev_int rfl)) (rJ (hW.f1 r rm)))) (ax (EV.pI (jF hu (bo (aa 3 rfl) (aa 6 rfl) VM) (EV.iP (n:=r.2.1) (c5 (aa 5 rfl) ev_int rfl)) (rJ (hW.f2 r rm)))) (ax (EV.cast (EV.pI (aa 7 rfl)) (by unfold eu;rw[YC])) aR))))) rfl rfl (QZ tl (by decide)) ⟨.im aI (h8 r),ar (cE s r.1),ar (if r.2.2.1="call" then(VI UQ r.2.2.2:Int) else -1),rfl⟩)
 ·obtain⟨e5,e6,e7,rfl⟩:=hΓ
  refine⟨e5,e6,e7,?_⟩
  rw[OZ,PK]
 rintro _ ⟨e5,e6,e7,rfl⟩
 refine WS.freeze 4 rfl (aK (by rw[OZ];omega)) ?_
 refine ao (a8 (qY (aj (aZ.im (bY (own:=["known"]) (fr:=[]) (ix:=[]) (ra:=iW) (rb:=ah) (p:=λ_=>true) (f:=λF=>(F.length:Int)) (bK (so:=ai xA) (N0:=Dt) rfl rfl (λx h=>bz h) (by decide +kernel)) (bX (aa 3 rfl))
  (λC s H ex=>aX 0) (λx=>⟨.inr rfl,trivial⟩) (λC' s H ex c hc=>dE) (λC' s' H ex o ho _=>ud M.len (aa 0 rfl)))) (aj (aa 4 rfl) aw))) ?_)
 unfold Vx
 rw[PU.mpr λ_ _=>rfl]
end
section
variable {F:OH}{S:List ay}
def Ix (F:OH):Prop:=∀(i:Nat) (y:Int×Int),F[i]?=some y->y.2=(i:Int)
theorem Ix.put (h:Ix F)(k:Int):Ix (dM F k):=by
 unfold dM
 split
 ·exact h
 ·intro i y hy
  rcases Q2 i F.length with q | q
  ·rw[Pr q] at hy;exact h i y hy
  ·rw[Pp q] at hy
   have:i-F.length=0:=by
    have:=(OW.mp hy).1
    rw[Py] at this;omega
   rw[this] at hy
   have hy:(k,(F.length:Int))=y:=by simpa using hy
   rw[← hy]
   show(F.length:Int)=(i:Int)
   omega
theorem qZ (F:OH)(k:Int):F <+:dM F k:=by
 unfold dM
 split
 ·exact prefix_rfl
 ·exact List.prefix_append _ _
theorem we (F:OH)(k:Int):k∈(dM F k).map (·.1):=by
 unfold dM
 split
 ·rename_i h;exact jw.mp h
 ·rw[Ph];exact Pb _ (by simp)
theorem Fb (p:gg)(F:OH)(r:Rw):F <+:dz p F r:=by
 unfold dz
 split
 ·exact(qZ _ _).trans (qZ _ _)
 ·exact prefix_rfl
theorem Ix.rows {p:gg}:∀{rs:List Rw} {F:OH},Ix F->Ix (rs.foldl (dz p) F)
 | [],F,h=>h
 | r::rs,F,h=>by
   rw[PZ]
   refine Ix.rows ?_
   unfold dz
   split
   ·exact(h.put _).put _
   ·exact h
theorem ox {p:gg}:∀{rs:List Rw} {F:OH},F <+:rs.foldl (dz p) F
 | [],F=>prefix_rfl
 | r::rs,F=>by rw[PZ];exact(Fb p F r).trans ox
theorem ot {p:gg}{r:Rw}(hi:f7 p r=true):∀{rs:List Rw} {F:OH},r∈rs->r.1∈(rs.foldl (dz p) F).map (·.1)/\r.2.1∈(rs.foldl (dz p) F).map (·.1)
 | x::rs,F,h=>by
   rw[PZ]
   rcases O7.mp h with rfl | h
   ·have pre:=ox (p:=p) (rs:=rs) (F:=dz p F r)
    have e:dz p F r=dM (dM F r.1) r.2.1:=by unfold dz;rw[UL hi]
    have sub:∀y,y∈(dz p F r).map (·.1)->y∈(rs.foldl (dz p) (dz p F r)).map (·.1):=λy hy=>by
     obtain⟨z,hz,rfl⟩:=Pe.mp hy
     exact Pe.mpr ⟨z,pre.subset hz,rfl⟩
    refine⟨sub _ ?_,sub _ ?_⟩
    ·rw[e]
     obtain⟨z,hz,ez⟩:=Pe.mp (we F r.1)
     exact Pe.mpr ⟨z,(qZ _ _).subset hz,ez⟩
    ·rw[e];exact we _ _
   ·exact ot hi h
theorem Gv (a b:Int):Ix [(a,0),(b,1)]:=by
 intro i y hy
 match i with
 | 0=>have:(a,(0:Int))=y:=by simpa using hy
      rw[← this];rfl
 | 1=>have:(b,(1:Int))=y:=by simpa using hy
      rw[← this];rfl
 | i+2=>simp at hy
theorem Es {k v:Int}(h:bA F k=some v):(k,v)∈F:=by
 unfold bA at h
 obtain⟨y,hy,rfl⟩:=Rl.mp h
 have h1:=List.mem_of_find?_eq_some hy
 have h2:=List.find?_some hy
 have h2:y.1=k:=UM h2
 rw[← h2];exact h1
theorem v5 {k v:Int}:∀{F:OH},(F.map (·.1)).Nodup->(k,v)∈F->bA F k=some v
 | y::F,nd,h=>by
   obtain⟨n1,n2⟩:=Pw.mp (show(y.1::F.map (·.1)).Nodup from nd)
   unfold bA
   rcases O7.mp h with e | h
   ·rw[← e,QK (by simp)];rfl
   ·rw[QL (by
     simp only[decide_eq_true_eq]
     intro e
     exact n1 (by rw[e];exact Pe.mpr ⟨_,h,rfl⟩))]
    exact v5 n2 h
theorem Ix.val (h:Ix F){k:Int}(hk:k∈F.map (·.1)):∃i:Nat,bA F k=some (i:Int)/\i<F.length/\F[i]?=some (k,(i:Int)):=by
 have hs:=jw.mpr hk
 cases e:bA F k with
 | none=>rw[e] at hs;cases hs
 | some v=>
   have hm:=Es e
   obtain⟨i,hi⟩:=Pf.mp hm
   have:=h i _ hi
   have hv:v=(i:Int):=this
   rw[hv] at hi ⊢
   exact⟨i,rfl,(OW.mp hi).1,hi⟩
theorem yf {α:Type}{p:α->Bool}{l:List α}{j:Nat}(hj:j<l.length)(h:∀(i:Nat) (x:α),l[i]?=some x->(p x=true↔i<=j)):(l.filter p).length=j+1:=by
 conv=>lhs;rw[← Qi (j+1) l]
 rw[Qb,PU.mpr λx hx=>?_,QJ.mpr λx hx=>?_,Px,Pl]
 ·omega
 ·obtain⟨i,hi⟩:=Pf.mp hx
  rw[List.getElem?_drop] at hi
  intro q
  have:=(h _ _ hi).mp q
  omega
 ·obtain⟨i,hi⟩:=Pf.mp hx
  have il:i<(l.take (j+1)).length:=(OW.mp hi).1
  rw[Pl] at il
  rw[List.getElem?_take_of_lt (by omega)] at hi
  exact(h _ _ hi).mpr (by omega)
theorem zW {Ld:List OB}{St:OB}{r:Rw}(h:r∈eV S Ld St):∃(n:Nat) (s:ay) (l:Int),S[n]?=some s/\r.1=(n:Int)/\aP s.kind=true/\l∈Ld.getD n []/\r.2.1=St.getD l.toNat 0/\r.2.2.1∈(cn dg s.kind).getD []/\r.2.2.2=s.name:=by
 unfold eV at h
 obtain⟨z,hz,hr⟩:=Qv.mp h
 unfold dv at hr
 obtain⟨y,hy,rfl⟩:=Pe.mp hr
 obtain⟨i,hi⟩:=Pf.mp hz
 obtain⟨e1,e2⟩:=eJ hi
 unfold iY at hy
 obtain⟨h1,h2⟩:=Qx (show(y.1,y.2)∈_ from hy)
 rw[e1,show((i:Nat):Int).toNat=i by omega] at h2
 refine⟨i,z.2,y.2,e2,e1,?_,h2,rfl,h1,rfl⟩
 unfold aP
 cases q:cn dg z.2.kind with
 | none=>rw[q] at h1;cases h1
 | some v=>rfl
theorem yL {k:Str}(h:("call":Str)∈(cn dg k).getD []):k="call":=by
 unfold cn at h
 split at h
 ·exact UJ h (by decide +kernel)
 unfold cn at h
 split at h
 ·rename_i e;exact e.symm
 unfold cn at h
 split at h
 ·exact UJ h (by decide +kernel)
 unfold cn at h
 split at h
 ·exact UJ h (by decide +kernel)
 ·unfold cn at h;cases h
theorem Ct {n:Int}{ls:OB}(h:d8 S F n ls)(hr:aP (aO S n)=true):ls≠[]:=by
 cases h with
 | XD h _ _ _=>rw[h] at hr;exact UJ hr (by decide +kernel)
 | _=>simp
theorem Bl {k:Str}(h:aP k=true):(cn dg k).getD []≠[]:=by
 unfold aP cn at h
 unfold cn
 split at h
 ·rename_i e;rw[UL e];decide
 rename_i e
 rw[UK e]
 unfold cn at h ⊢
 split at h
 ·rename_i e;rw[UL e];decide
 rename_i e
 rw[UK e]
 unfold cn at h ⊢
 split at h
 ·rename_i e;rw[UL e];decide
 rename_i e
 rw[UK e]
 unfold cn at h ⊢
 split at h
 ·rename_i e;rw[UL e];decide
 ·cases h
theorem Gq {Ld:List OB}{St:OB}{n:Nat}{s:ay}(hs:S[n]?=some s)(hk:aP s.kind=true)(hl:Ld.getD n []≠[]):∃r∈eV S Ld St,r.1=(n:Int):=by
 have hw:=Bl hk
 cases e1:(cn dg s.kind).getD [] with
 | nil=>exact UJ e1 hw
 | cons x xs=>cases e2:Ld.getD n [] with
   | nil=>exact UJ e2 hl
   | cons y ys=>
     refine⟨pU St ((n:Int),s) (x,y),Qv.mpr ⟨((n:Int),s),oG hs,?_⟩,rfl⟩
     unfold dv
     refine Pe.mpr ⟨(x,y),?_,rfl⟩
     unfold iY
     rw[show(((n:Int),s).1).toNat=n by show((n:Nat):Int).toNat=n;omega,e2]
     show(x,y)∈((cn dg s.kind).getD []).zip (y::ys)
     rw[e1];exact O3
abbrev bC (UQ:OC)(Ls:List (List Th)):gI:=U4 (aq UQ Ls) (bR UQ Ls)
abbrev gD (f:Nat)(z:Str×List Th):gg:=(z.1,(f:Int),((lst f z:Nat):Int))
end
section
variable {UQ:OC}{Ls:List (List Th)}
variable {z:Str×List Th}{j:Nat}
theorem vd (h:cf UQ Ls)(hz:(cO UQ Ls)[j]?=some z):(cG (aq UQ Ls))[j]?=some (gD (fst UQ Ls j) z):=by
 have hn:=oT h
 have hlp:(cG (aq UQ Ls)).length=UQ.length:=by rw[← congrArg List.length hn,OZ]
 obtain⟨_,_,_,Zg,_⟩:=dP h hz
 have jl:=(OW.mp Zg).1
 have jp:j<(cG (aq UQ Ls)).length:=by omega
 rw[OX jp]
 obtain⟨j',z',w',WT,VZ,e⟩:=lY h (PD jp)
 have h1:UQ[j]?=some ((cG (aq UQ Ls))[j]).1:=by
  conv=>lhs;rw[← hn]
  rw[O5,OX jp];rfl
 obtain⟨_,_,_,Yl,_⟩:=dP h WT
 rw[e] at h1
 have h1:UQ[j]?=some z'.1:=h1
 have jl':=(OW.mp Yl).1
 have ej:j=j':=by
  rw[OX jl] at h1
  rw[OX jl'] at Yl
  exact(QF h.nd).mp ((Option.some.inj h1).trans (Option.some.inj Yl).symm)
 subst ej
 rw[hz] at WT
 cases Option.some.inj WT
 rw[e]
theorem mv (h:cf UQ Ls):(cO UQ Ls).length=Ls.length:=by rw[Qc,h.l];omega
theorem km (h:cf UQ Ls):(cG (aq UQ Ls)).length=Ls.length:=by
 rw[← h.l,← congrArg List.length (oT h),OZ]
theorem ny (h:cf UQ Ls){n:Nat}(hz:(cO UQ Ls)[j]?=some z)(h1:fst UQ Ls j<=n)(h2:n<=lst (fst UQ Ls j) z):cE (bC UQ Ls) (n:Int)=(j:Int):=by
 have jl:=(OW.mp hz).1
 have zl:=mv h
 have pl:=km h
 unfold cE
 show(((cG (aq UQ Ls)).filter λp=>decide (p.2.1<=(n:Int))).length:Int)-1=_
 rw[yf (j:=j) (by omega) λi x hx=>?_]
 ·push_cast;omega
 ·have il:=(OW.mp hx).1
  have hzi:(cO UQ Ls)[i]?=some ((cO UQ Ls)[i]'(by omega)):=OX (by omega)
  rw[vd h hzi] at hx
  have hx:=Option.some.inj hx
  rw[← hx]
  show decide (((fst UQ Ls i:Nat):Int)<=(n:Int))=true↔i<=j
  rw[decide_eq_true_eq]
  constructor
  ·intro q
   refine Classical.byContradiction λc=>?_
   have:=nC (cO UQ Ls) j i z hz (by omega)
   have h2:n<=fst UQ Ls j+1+UU z.2:=h2
   have:fst UQ Ls j+2+UU z.2<=fst UQ Ls i:=this
   omega
  ·intro q
   rcases Q2 i j with c | c
   ·have:=nC (cO UQ Ls) i j _ hzi c
    have:fst UQ Ls i+2+UU ((cO UQ Ls)[i]'(by omega)).2<=fst UQ Ls j:=this
    omega
   ·have:i=j:=by omega
    subst this;omega
structure Mc (S:List ay) (f l:Nat) (F:OH):Prop where
 ix:Ix F
 nd:(F.map (·.1)).Nodup
 le:F.length<=16
 ge:2<=F.length
 kp:∀k∈F.map (·.1),(f:Int)<k/\k<=(l:Int)/\(k=(l:Int)∨aP (aO S k)=true)
 en:F[1]?=some ((l:Int),1)
 bg:∃b,F[0]?=some (b,0)
theorem uK {S:List ay}{f:Nat}{v:Int}(h:v∈me S f z):G5 S f (lst f z) v:=by
 unfold me at h
 rcases Pa.mp h with h | h
 ·obtain⟨i,hi,rfl⟩:=Pe.mp h
  obtain⟨h1,h2⟩:=PM.mp hi
  have h1:=P0.mp h1
  refine⟨by omega,?_,.inr h2⟩
  show((f+1+i:Nat):Int)<=((f+1+UU z.2:Nat):Int)
  omega
 ·rw[O0.mp h]
  exact⟨by show(f:Int)<((f+1+UU z.2:Nat):Int);omega,OS _,.inl rfl⟩
theorem sU (h:cf UQ Ls){w:Int}(hz:(cO UQ Ls)[j]?=some z)(hb:eC (aq UQ Ls) (bR UQ Ls) UQ (fst UQ Ls j) w z){r:Rw}(hr:r∈(bC UQ Ls).rows)(hi:f7 (gD (fst UQ Ls j) z) r=true):r.1∈me (aq UQ Ls) (fst UQ Ls j) z/\r.2.1∈me (aq UQ Ls) (fst UQ Ls j) z:=by
 obtain⟨V9,WI,XH,_⟩:=dP h hz
 have VS:=λn h1 h2=>hb.xX jn V9 _ n rfl h1 h2
 obtain⟨n,s,l,h1,h2,h3,h4,h5⟩:=lN hr
 unfold f7 at hi
 rw[OK] at hi
 have i1:((fst UQ Ls j:Nat):Int)<r.1:=UM hi.1
 have i2:r.1<((lst (fst UQ Ls j) z:Nat):Int):=UM hi.2
 rw[h2] at i1 i2
 have V2:aO (aq UQ Ls) (n:Int)=s.kind:=(c9 h1).1
 have st:=hb.all jn V9 n (by omega) (by omega)
 have rg:=st.rg l h4
 refine⟨?_,?_⟩
 ·rw[h2]
  exact iN ⟨i1,by omega,.inr (by rw[V2];exact h3)⟩
 ·rw[h5]
  exact iN (VS l.toNat (by omega) (by omega))
theorem mM (h:cf UQ Ls)(hz:(cO UQ Ls)[j]?=some z):Mc (aq UQ Ls) (fst UQ Ls j) (lst (fst UQ Ls j) z) (cj (bC UQ Ls) (gD (fst UQ Ls j) z)):=by
 obtain⟨w,hb⟩:=gp (UQ:=UQ) (Ls:=Ls) hz
 obtain⟨V9,WI,XH,_⟩:=dP h hz
 have fl:fst UQ Ls j<lst (fst UQ Ls j) z:=by show _<fst UQ Ls j+1+UU z.2;omega
 have VS:=λn h1 h2=>hb.xX jn V9 _ n rfl h1 h2
 have U9:(aQ (aq UQ Ls) (bR UQ Ls)).getD (fst UQ Ls j) 0≠((lst (fst UQ Ls j) z:Nat):Int):=by
  rw[hb.first V9 WI]
  have:=(jU hb V9 WI).2
  show((fst UQ Ls j+1:Nat):Int)≠((fst UQ Ls j+1+UU z.2:Nat):Int)
  omega
 have e0:(bC UQ Ls).St.getD ((fst UQ Ls j:Nat):Int).toNat 0=(aQ (aq UQ Ls) (bR UQ Ls)).getD (fst UQ Ls j) 0:=by rw[show((fst UQ Ls j:Nat):Int).toNat=fst UQ Ls j by omega];rfl
 unfold cj
 dsimp only
 rw[e0]
 generalize Yr:(aQ (aq UQ Ls) (bR UQ Ls)).getD (fst UQ Ls j) 0=b at U9
 have ks:iu (me (aq UQ Ls) (fst UQ Ls j) z) ((bC UQ Ls).rows.foldl (dz (gD (fst UQ Ls j) z)) [(b,0),(((lst (fst UQ Ls j) z:Nat):Int),1)]):=by
  refine iu.rows ⟨?_,λx hx=>?_⟩ λr hr hi=>sU h hz hb hr hi
  ·exact Pw.mpr ⟨λq=>U9 (O0.mp q),Pw.mpr ⟨by simp,Qw⟩⟩
  ·have hx:x=b∨x=((lst (fst UQ Ls j) z:Nat):Int):=by simpa using hx
   rcases hx with rfl | rfl
   ·rw[← Yr];exact iN (VS _ (QW _) (by omega))
   ·exact iN ⟨by omega,OS _,.inl rfl⟩
 have pre:=ox (p:=(gD (fst UQ Ls j) z)) (rs:=(bC UQ Ls).rows) (F:=[(b,0),(((lst (fst UQ Ls j) z:Nat):Int),1)])
 obtain⟨t,ht⟩:=pre
 refine⟨Ix.rows (Gv _ _),ks.1,QX ks.len (zo hb XH),?_,λk hk=>uK (ks.2 k hk),?_,⟨b,?_⟩⟩
 ·rw[← ht];simp
 ·rw[← ht];rfl
 ·rw[← ht];rfl
theorem tV (h:cf UQ Ls){r:Rw}(hr:r∈(bC UQ Ls).rows):∃(j:Nat) (z:Str×List Th),(cO UQ Ls)[j]?=some z/\cE (bC UQ Ls) r.1=(j:Int)/\f7 (gD (fst UQ Ls j) z) r=true:=by
 obtain⟨n,s,l,h1,h2,h3,h4,h5⟩:=lN hr
 have hn:=(OW.mp h1).1
 obtain⟨j,z,w,hz,hb,q1,q2,q3⟩:=lj h n hn
 have V2:aO (aq UQ Ls) (n:Int)=s.kind:=(c9 h1).1
 refine⟨j,z,hz,by rw[h2];exact ny h hz q1 q2,?_⟩
 have n1:n≠fst UQ Ls j:=λe=>by
  rw[e,hb.k] at V2
  rw[← V2] at h3
  exact UJ h3 (by decide +kernel)
 have n2:n≠lst (fst UQ Ls j) z:=λe=>by
  rw[e,(c9 hb.e).1] at V2
  rw[← V2] at h3
  exact UJ h3 (show¬aP "end"=true by decide +kernel)
 unfold f7
 rw[OK,h2]
 exact⟨UO (show((fst UQ Ls j:Nat):Int)<(n:Int) by omega),UO (show(n:Int)<((lst (fst UQ Ls j) z:Nat):Int) by omega)⟩
theorem jx (h:cf UQ Ls)(hz:(cO UQ Ls)[j]?=some z):(dH (bC UQ Ls))[j]?=some (cj (bC UQ Ls) (gD (fst UQ Ls j) z)):=by
 unfold dH
 rw[O5]
 show((cG (aq UQ Ls))[j]?).map _=_
 rw[vd h hz];rfl
theorem xq (h:cf UQ Ls):(dH (bC UQ Ls)).length=Ls.length:=by
 unfold dH
 rw[OZ]
 exact km h
theorem sE (h:cf UQ Ls):BN (bC UQ Ls):=by
 have zl:=mv h
 have pl:=km h
 have key:∀r∈(bC UQ Ls).rows,r.1∈((dH (bC UQ Ls)).getD (cE (bC UQ Ls) r.1).toNat []).map (·.1)/\r.2.1∈((dH (bC UQ Ls)).getD (cE (bC UQ Ls) r.1).toNat []).map (·.1):=λr hr=>by
  obtain⟨j,z,hz,e,hi⟩:=tV h hr
  rw[e,show((j:Nat):Int).toNat=j by omega,OY,jx h hz]
  exact ot hi hr
 refine⟨λr hr=>?_,λr hr=>jw.mpr (key r hr).1,λr hr=>jw.mpr (key r hr).2,λr hr hc=>?_⟩
 ·obtain⟨j,z,hz,e,_⟩:=tV h hr
  have jl:=(OW.mp hz).1
  rw[e]
  exact⟨by omega,by show(j:Int)<((cG (aq UQ Ls)).length:Int);omega⟩
 ·obtain⟨n,s,l,h1,h2,h3,h4,h5,h6,h7⟩:=zW hr
  rw[hc] at h6
  have hk:=yL h6
  obtain⟨Ld,WU,hG⟩:=FH UQ Ls h
  obtain⟨m,u,_,hm,hu,hun⟩:=hG.ca n s h1 hk
  rw[h7,← hun]
  show u.name∈(cG (aq UQ Ls)).map (·.1)
  rw[ur]
  unfold VD
  exact Pe.mpr ⟨u,PM.mpr ⟨O6 hm,UO hu⟩,rfl⟩
theorem DQ (h:cf UQ Ls)(hG:Good (bC UQ Ls)):lX (Vx (bC UQ Ls)):=by
 have zl:=mv h
 have pl:=km h
 have wb:=sE h
 have sl:=xq h
 have l1:=h.l1
 have l4:=h.l4
 have vl:(Vx (bC UQ Ls)).1.length=Ls.length:=by unfold Vx;rw[OZ];exact sl
 have vat:∀{j:Nat} {z:Str×List Th},(cO UQ Ls)[j]?=some z->(Vx (bC UQ Ls)).1.getD j 0=((cj (bC UQ Ls) (gD (fst UQ Ls j) z)).length:Int):=λ{j z} hz=>by
  unfold Vx
  rw[OY,O5,jx h hz];rfl
 refine⟨by omega,by omega,?_,λn hn=>?_,λr hr=>?_,λp k hp hk hk1=>?_⟩
 ·unfold Vx
  rw[OZ];exact hG.rl
 ·unfold Vx at hn
  obtain⟨F,hF,rfl⟩:=Pe.mp hn
  obtain⟨j,hj⟩:=Pf.mp hF
  have jl:=(OW.mp hj).1
  have hz:(cO UQ Ls)[j]?=some ((cO UQ Ls)[j]'(by omega)):=OX (by omega)
  have po:=mM h hz
  rw[jx h hz] at hj
  rw[← Option.some.inj hj]
  have:=po.le
  have:=po.ge
  omega
 ·unfold Vx at hr
  obtain⟨q,hq,rfl⟩:=Pe.mp hr
  obtain⟨j,z,hz,e,hi⟩:=tV h hq
  have jl:=(OW.mp hz).1
  have po:=mM h hz
  obtain⟨k1,k2⟩:=ot hi hq (F:=[((bC UQ Ls).St.getD ((fst UQ Ls j:Nat):Int).toNat 0,0),(((lst (fst UQ Ls j) z:Nat):Int),1)])
  obtain⟨i1,e1,l1',_⟩:=po.ix.val k1
  obtain⟨i2,e2,l2',_⟩:=po.ix.val k2
  have eF:(dH (bC UQ Ls)).getD (cE (bC UQ Ls) q.1).toNat []=cj (bC UQ Ls) (gD (fst UQ Ls j) z):=by
   rw[e,show((j:Nat):Int).toNat=j by omega,OY,jx h hz];rfl
  have w1:(eu (bC UQ Ls) q).1=(j:Int):=e
  have w2:(eu (bC UQ Ls) q).2.1=(i1:Int):=by unfold eu;dsimp only;rw[eF,e1];rfl
  have w3:(eu (bC UQ Ls) q).2.2.1=(i2:Int):=by unfold eu;dsimp only;rw[eF,e2];rfl
  rw[w1,w2,w3,vl,show((j:Nat):Int).toNat=j by omega,vat hz]
  refine⟨⟨by omega,by omega⟩,⟨by omega,by omega⟩,⟨by omega,by omega⟩,?_⟩
  show(if q.2.2.1="call" then _ else _)= -1∨_
  unfold eu
  dsimp only
  by_cases c:q.2.2.1="call"
  ·rw[UL c]
   have:=(OW.mp (mw (wb.cl q hq c)).1).1
   have Ve:((bC UQ Ls).parts.map (·.1)).length=Ls.length:=by rw[OZ];exact pl
   exact .inr ⟨by omega,by omega⟩
  ·rw[UK c];exact .inl rfl
 ·have hz:(cO UQ Ls)[p]?=some ((cO UQ Ls)[p]'(by omega)):=OX (by omega)
  rw[vat hz] at hk
  have po:=mM h hz
  generalize hzz:((cO UQ Ls)[p]'(by omega))=z at hz po hk
  generalize hF:cj (bC UQ Ls) (gD (fst UQ Ls p) z)=F at po hk
  have kl:k<F.length:=by omega
  have hFk:F[k]?=some F[k]:=OX kl
  have hv:=po.ix k _ hFk
  have WB:F[k]∈F:=PD kl
  obtain⟨a1,a2,a3⟩:=po.kp _ (Pe.mpr ⟨_,WB,rfl⟩)
  have U9:F[k].1≠((lst (fst UQ Ls p) z:Nat):Int):=λc=>by
   have h1:(F.map (·.1))[k]?=some F[k].1:=by rw[O5,hFk];rfl
   have h2:(F.map (·.1))[1]?=some ((lst (fst UQ Ls p) z:Nat):Int):=by rw[O5,po.en];rfl
   rw[c] at h1
   have k1:=(OW.mp h1)
   have k2:=(OW.mp h2)
   obtain⟨x1,y1⟩:=k1
   obtain⟨x2,y2⟩:=k2
   exact hk1 ((QF po.nd).mp (y1.trans y2.symm))
  have Yg:=a3.resolve_left U9
  obtain⟨w,hb⟩:=gp (UQ:=UQ) (Ls:=Ls) hz
  obtain⟨V9,WI,XH,_⟩:=dP h hz
  have ll:lst (fst UQ Ls p) z<(aq UQ Ls).length:=(OW.mp hb.e).1
  obtain⟨n,hn⟩:∃n:Nat,F[k].1=(n:Int):=⟨F[k].1.toNat,by omega⟩
  rw[hn] at a1 a2 Yg U9
  have nl:n<(aq UQ Ls).length:=by omega
  have hs:(aq UQ Ls)[n]?=some (aq UQ Ls)[n]:=OX nl
  have V2:aO (aq UQ Ls) (n:Int)=((aq UQ Ls)[n]).kind:=(c9 hs).1
  have st:=hb.all jn V9 n (by omega) (by omega)
  obtain⟨r,hr,er⟩:=Gq (St:=(bC UQ Ls).St) hs (by rw[← V2];exact Yg) (Ct st.ld Yg)
  have hr:r∈(bC UQ Ls).rows:=hr
  obtain⟨i,hi⟩:=Pf.mp hr
  refine⟨i,eu (bC UQ Ls) r,by unfold Vx;rw[O5,hi];rfl,?_,?_⟩
  ·show cE _ r.1=_
   rw[er]
   exact ny h hz (by omega) (by omega)
  ·unfold eu
   dsimp only
   rw[er,ny h hz (by omega) (by omega),show((p:Nat):Int).toNat=p by omega,OY,jx h hz,hF]
   show(bA F (n:Int)).getD 0=_
   rw[v5 (v:=(k:Int)) po.nd (by
    have:F[k]=((n:Int),(k:Int)):=Rp hn hv
    rw[← this];exact WB)]
   rfl
end
section
variable {v:fq}{ans:OB}{st:g9}
abbrev Wk:=OB×Str×g9
abbrev nP:=OB×Nat×g9
def xy (x:Wk):PV:=.tup [.lst (x.1.map PV.int),.str x.2.1,.lst (x.2.2.map Bw)]
def fJ (st:g9):Int×Int:=st.getLastD (0,0)
def d7 (v:fq)(st:g9):OB:=pj v (fJ st).1 (fJ st).2
def n9 (v:fq)(ans:OB)(u:Nat)(st:g9):Option (Int×Nat):=
 if 1<(d7 v st).length then(ans[u]?).map λa=>((d7 v st).getD (1-a).toNat 0,u+1) else some ((d7 v st).getD 0 0,u)
def nJ (v:fq)(ans:OB)(s:nP):Option nP:=(n9 v ans s.2.1 s.2.2).map λc=>(s.1++[c.1],c.2,ja s.2.2 (rowOf v c.1))
def gb (v:fq)(ans:OB):Nat->nP->Wk
 | 0,s=>if s.2.2=[] then(s.1,"ended",[]) else(s.1,"bound",s.2.2)
 | n+1,s=>if s.2.2=[] then(s.1,"ended",[]) else
   match nJ v ans s with
   | none=>(s.1,"wanting",s.2.2)
   | some s'=>gb v ans n s'
theorem Bf:∀{n:Nat} {s:nP},s.2.2=[]->gb v ans n s=(s.1,("ended":Str),[])
 | 0,s,h=>by rw[gb,UL h]
 | n+1,s,h=>by rw[gb,UL h]
theorem Fy {s:nP}(h:s.2.2≠[]):gb v ans 0 s=(s.1,("bound":Str),s.2.2):=by rw[gb,UK h]
theorem wY {n:Nat}{s:nP}(h:s.2.2≠[])(hn:nJ v ans s=none):gb v ans (n+1) s=(s.1,("wanting":Str),s.2.2):=by rw[gb,UK h,hn]
theorem v7 {n:Nat}{s s':nP}(h:s.2.2≠[])(hn:nJ v ans s=some s'):gb v ans (n+1) s=gb v ans n s':=by rw[gb,UK h,hn]
theorem Kt {s s':nP}(h:nJ v ans s=some s'):∃c,s'.1=s.1++[c]:=by
 unfold nJ at h
 obtain⟨c,_,rfl⟩:=Rl.mp h
 exact⟨c.1,rfl⟩
theorem vo {v:fq}{ans:OB}:∀(n:Nat) (s:nP),∃ex,(gb v ans n s).1=s.1++ex/\ex.length<=n
 | 0,s=>⟨[],by rw[gb];split<;>simp,QW _⟩
 | n+1,s=>by
   by_cases h:s.2.2=[]
   ·exact⟨[],by rw[Bf h];simp,QY _⟩
   ·cases q:nJ v ans s with
    | none=>exact⟨[],by rw[wY h q];simp,QY _⟩
    | some s'=>
      obtain⟨ex,h1,h2⟩:=vo (v:=v) (ans:=ans) n s'
      obtain⟨c,hc⟩:=Kt q
      refine⟨c::ex,?_,by rw[O8];omega⟩
      rw[v7 h q,h1,hc,Pg];rfl
structure oo (v:fq) (st:g9):Prop where
 el:∀t∈st,(0<=t.1/\t.1<(v.1.length:Int))/\0<=t.2/\t.2<v.1.getD t.1.toNat 0
 tp:∀h:st≠[],(st.getLast h).2≠1
theorem lX.two (hv:lX v){p:Int}(h0:0<=p)(h1:p<(v.1.length:Int)):2<=v.1.getD p.toNat 0:=by
 rw[OY,OX (by omega)]
 exact(hv.sz _ (PD _)).1
theorem Ai (hv:lX v):oo v [(0,0)]:=by
 have:=hv.p1
 have h2:=hv.two (p:=0) (OS _) (by omega)
 refine⟨λt ht=>?_,λh=>by show(0:Int)≠1;decide⟩
 rw[O0.mp ht]
 exact⟨⟨OS _,by show(0:Int)<_;omega⟩,OS _,by show(0:Int)<v.1.getD (0:Int).toNat 0;omega⟩
theorem K2 (hv:lX v)(hs:oo v st)(U9:st≠[]){r:Row}(hr:r∈v.2):oo v (ja st r)/\(ja st r).length<=st.length+1:=by
 obtain⟨r1,r2,r3,r4⟩:=hv.rw r hr
 have base:∀t∈st.set (st.length-1) (r.1,r.2.2.1),(0<=t.1/\t.1<(v.1.length:Int))/\0<=t.2/\t.2<v.1.getD t.1.toNat 0:=λt ht=>by
  rcases List.mem_or_eq_of_mem_set ht with h | h
  ·exact hs.el t h
  ·rw[h];exact⟨r1,r3⟩
 unfold ja
 generalize hst2:(if r.2.2.2= -1 then st.set (st.length-1) (r.1,r.2.2.1) else st.set (st.length-1) (r.1,r.2.2.1)++[(r.2.2.2,0)])=s2
 have h2:(∀t∈s2,(0<=t.1/\t.1<(v.1.length:Int))/\0<=t.2/\t.2<v.1.getD t.1.toNat 0)/\s2.length<=st.length+1:=by
  rw[← hst2]
  by_cases c:r.2.2.2= -1
  ·rw[UL c];exact⟨base,by rw[PN];omega⟩
  ·rw[UK c]
   refine⟨λt ht=>?_,by rw[O4,PN];exact QW _⟩
   rcases Pa.mp ht with h | h
   ·exact base t h
   ·rw[O0.mp h]
    have r4:=r4.resolve_left c
    have:=hv.two r4.1 r4.2
    exact⟨r4,OS _,by show(0:Int)<v.1.getD r.2.2.2.toNat 0;omega⟩
 obtain⟨s',e,_,h3⟩:=sY s2.length s2 rfl
 refine⟨⟨λt ht=>h2.1 t (by rw[e];exact Pj _ ht),h3⟩,?_⟩
 have:s2.length=(trim s2).length+s'.length:=by
  have:=congrArg List.length e
  rwa [O4] at this
 omega
theorem uE (h:st≠[]):fJ st=st.getLast h:=by unfold fJ;cases st with
 | nil=>exact UJ rfl h
 | cons a b=>rfl
theorem Eo {c:Int}(h:c∈d7 v st):0<=c/\c<(v.2.length:Int)/\rowOf v c∈v.2:=by
 unfold d7 pj at h
 obtain⟨h1,_⟩:=PM.mp h
 unfold ups at h1
 obtain⟨i,hi,rfl⟩:=Pe.mp h1
 have hi:=P0.mp hi
 refine⟨by omega,by omega,?_⟩
 unfold rowOf
 rw[show((0:Int)+(i:Int)).toNat=i by omega,OY,OX hi]
 exact PD hi
theorem Be (hv:lX v)(hs:oo v st)(U9:st≠[]):d7 v st≠[]:=by
 have h1:=hs.el _ (List.getLast_mem U9)
 have h2:=hs.tp U9
 have et:=uE U9
 rw[← et] at h1 h2
 obtain⟨n,r,hn,e1,e2⟩:=hv.fr (fJ st).1.toNat (fJ st).2.toNat (by omega) (by have:=h1.2.2;omega) (by omega)
 intro c
 have:(n:Int)∈d7 v st:=by
  unfold d7 pj
  have nl:=(OW.mp hn).1
  refine PM.mpr ⟨?_,?_⟩
  ·unfold ups;exact Pe.mpr ⟨n,P0.mpr nl,by omega⟩
  ·have:rowOf v (n:Int)=r:=by unfold rowOf;rw[show((n:Nat):Int).toNat=n by omega,OY,hn];rfl
   rw[this,e1,e2]
   refine UO (Rp ?_ ?_)
   ·show(((fJ st).1.toNat:Nat):Int)=(fJ st).1;omega
   ·show(((fJ st).2.toNat:Nat):Int)=(fJ st).2;omega
 rw[c] at this;cases this
theorem Al (h:mK ans=true){i:Nat}{a:Int}(ha:ans[i]?=some a):0<=a/\a<=1:=by
 unfold mK at h
 rw[Qu] at h
 have:=h (decide (0<=a)&&decide (a<=1)) (Pe.mpr ⟨a,PM.mpr ⟨O6 ha,rfl⟩,rfl⟩)
 have this:(decide (0<=a)&&decide (a<=1))=true:=this
 rw[OK] at this
 exact⟨UM this.1,UM this.2⟩
theorem EE (hv:lX v)(ha:mK ans=true)(hs:oo v st)(U9:st≠[]){u:Nat}{c:Int×Nat}(h:n9 v ans u st=some c):c.1∈d7 v st:=by
 have fne:=Be hv hs U9
 have fl:=QE.mpr fne
 unfold n9 at h
 split at h
 ·obtain⟨a,h1,rfl⟩:=Rl.mp h
  have:=Al ha h1
  dsimp only
  rw[OY,OX (by omega)]
  exact PD _
 ·cases Option.some.inj h
  dsimp only
  rw[OY,OX (by omega)]
  exact PD _
end
section
abbrev Dg:Stmt:=top AF
abbrev MN:OC:=["text","answers","bound","web","leaving","stack","rows","used","found","chosen"]
theorem Ia:aF MN ["text","answers","bound"] (ai Dg):=Vk
abbrev Xh:nP:=([],0,[(0,0)])
def Dz:cP:=λK ps T=>∃(x:Str) (ans:OB) (bound:Int) (S:List ay) (Ld:List OB),ps=[⟨ag,x⟩,⟨ae ah,ans⟩,⟨ah,bound⟩]/\mx x S/\lM S Ld/\Good (U4 S Ld)/\BN (U4 S Ld)/\lX (Vx (U4 S Ld))/\mK ans=true/\0<=bound/\(gb (Vx (U4 S Ld)) ans bound.toNat Xh).1.length<=100000/\T=bU K aI (· =xy (gb (Vx (U4 S Ld)) ans bound.toNat Xh))
theorem KI (M:cH K mg)(M4:jg mg)(CW:aH P w K mg base "web_of" 7 (aN yO K))(CN:aH P w K mg base "need_answers" 3 (aN M0 K))(CR:aH P w K mg base "rows_leaving" 1 (aN (Nr true) K))(CB:aH P w K mg base "at_begin" 1 (aN Hn K))(CG:aH P w K mg base "go" 2 (fF gX MO K))(F:dU K "walked" "walked" Dg f fd)(hm:mg "walked"=some (.ref f))(hb:Binds K fd ["text","answers","bound"] []):aH P w K mg base "walked" 8 (aN Dz K):=by
 have nd:=Ia.nd
 have Wf:Pt [("part":Str),"web"]:=by decide
 have CN:=CN.mono (show 3<=7 by decide)
 have CR:=CR.mono (show 1<=7 by decide)
 have CB:=CB.mono (show 1<=7 by decide)
 have CG:=CG.mono (show 2<=7 by decide)
 obtain⟨t1,hFP⟩:=M4.first
 obtain⟨t2,hY⟩:=M4.yes
 obtain⟨t3,hEN⟩:=M4.ended
 obtain⟨t4,hBO⟩:=M4.bound
 obtain⟨t5,hWA⟩:=M4.Xp
 refine gP (k:=7) F Ia hm hb (λqs T ⟨_,_,_,_,_,e,_⟩=>by rw[e];rfl) (λUX A outer st H E qs T hr hS=>?_)
 obtain⟨x,ans,bound,S,Ld,rfl,hx,hk,hG,hWb,hv,ha,Yr,hlen,rfl⟩:=hS
 change WS _ _ [.im ag x,cb ans,ar bound,.no,.no,.no,.no,.no,.no,.no] _ _
 refine ak (a9 3 (y:=Vx (U4 S Ld)) (aE CW hr (aj (aa 0 rfl) aw) ⟨x,S,Ld,rfl,hx,hk,hG,hWb,rfl⟩) ?_)
 generalize Vx (U4 S Ld)=v at hv hlen
 have pl:=hv.pl
 change WS _ _ [.im ag x,cb ans,ar bound,.im jH v,.no,.no,.no,.no,.no,.no] _ _
 refine ak (FW CN hr (aj (aa 1 rfl) (aj (aa 2 rfl) aw)) ⟨ans,bound,rfl,ha,Yr,rfl⟩ ?_)
 refine ak (kY 4 (own:=["part"]) (fr:=["web"]) (ix:=[3]) (ra:=ah) (rb:=ae (ae ah)) (p:=λ_=>true) (f:=i8 v) (bK (so:=ai Dg) (N0:=MN) rfl rfl (λx h=>bz h) (by decide +kernel)) (dD M.range (eO M.len (tD (aa 3 rfl))) ⟨by omega,by omega⟩)
  (λC s H ex=>aX 0) (λx=>⟨.inr rfl,.inl rfl,trivial⟩) (λC' s H ex c hc=>dE) (λC' s' H ex o ho _=>by
   obtain⟨i,hi⟩:=Pf.mp ho
   obtain⟨il,rfl⟩:=fm hi
   exact aZ.im (tQ CR hr (aj (aa 1 rfl) (aj (aa 0 rfl) aw)) ⟨v,_,rfl,hv,by omega,by omega,rfl⟩)) ?_)
 rw[PU.mpr λ_ _=>rfl,show((v.1.length:Int)).toNat=v.1.length by omega]
 refine WS.freeze 4 rfl (aK (by rw[OZ,ba];omega)) ?_
 generalize hlv:(ups 0 v.1.length).map (i8 v)=lv
 refine ak (cS 5 (r:=gX) (aV (ax (aE CB hr (aj (eG hFP) aw) ⟨_,rfl,rfl⟩) aR) (by show 1<=RE;decide)) ?_)
 refine ak (cS 6 (r:=ah) (ys:=[]) (aV aR (QY _)) ?_)
 refine ak (a9 7 (y:=((0:Nat):Int)) ev_int ?_)
 change WS _ _ [.im ag x,cb ans,ar bound,.im jH v,.im (ae (ae (ae ah))) lv,.mu gX [(0,0)],.mu ah [],ar ((0:Nat):Int),.no,.no] _ _
 generalize hR:gb v ans bound.toNat Xh=R at hlen
 refine bM (N1:=λΓ=>∃e7 e8 e9,Γ=[.im ag x,cb ans,ar bound,.im jH v,.im (ae (ae (ae ah))) lv,.mu gX [],.mu ah R.1,e7,e8,e9]/\R=(R.1,("ended":Str),[]))
  (lB (λm Γ=>∃(rows:OB) (u:Nat) (st:g9) (e8 e9:Ent),Γ=[.im ag x,cb ans,ar bound,.im jH v,.im (ae (ae (ae ah))) lv,.mu gX st,.mu ah rows,ar (u:Int),e8,e9]/\gb v ans m (rows,u,st)=R/\(rows.length:Int)+(m:Int)=bound/\oo v st/\st.length<=rows.length+1/\u<=ans.length) (m0:=bound.toNat) ⟨[],0,[(0,0)],.no,.no,rfl,hR,by rw[Pz];omega,Ai hv,QW _,QY _⟩ ?_) ?_
 ·rintro m Γ ⟨rows,u,st,e8,e9,rfl,hw,hm,hs,hl,hu⟩
  have rl:rows.length<=100000:=by
   obtain⟨ex,h1,_⟩:=vo (v:=v) (ans:=ans) m (rows,u,st)
   rw[hw] at h1
   rw[h1,O4] at hlen
   have:rows.length+ex.length<=100000:=hlen
   omega
  refine⟨!st.isEmpty,_,kX 5 rfl,λh=>?_,λh=>?_⟩
  ·have U9:st≠[]:=λe=>by rw[e] at h;cases h
   have lz:=vI U9
   have et:=uE U9
   have te:=hs.el _ (List.getLast_mem U9)
   rw[← et] at te lz
   have fne:=Be hv hs U9
   have fl:=QE.mpr fne
   refine ak (bE (aD iG (wA 6 M.len rfl) (aa 2 rfl)) (λh=>?_) (λh=>aW ?_))
   ·have h:(rows.length:Int)=bound:=UM h
    have m0:m=0:=by omega
    subst m0
    rw[Fy U9] at hw
    refine WS.freeze 5 rfl (aK (by omega)) (WS.freeze 6 rfl (aK (by omega)) ?_)
    refine ao (a8 (gG (ax (EV.G2 (aa 6 rfl)) (ax (EV.pS (nV hBO)) (ax (EV.G8 (aa 5 rfl)) aR))) (by show 3<=RE;decide)) ?_)
    rw[← hw];rfl
   have h:¬(rows.length:Int)=bound:=UN h
   obtain⟨m',rfl⟩:∃m',m=m'+1:=⟨m-1,by omega⟩
   have h1:cy lv (fJ st).1=some (i8 v (fJ st).1):=by
    rw[← hlv,aY (xs:=(ups 0 v.1.length).map (i8 v)) [] te.1.1 (by rw[OZ,ba];exact te.1.2),OY,O5,qS (by omega),show(((fJ st).1.toNat:Nat):Int)=(fJ st).1 by omega];rfl
   have h2:cy (i8 v (fJ st).1) (fJ st).2=some (d7 v st):=by
    have:=Bz (v:=v) te.2.1 te.2.2
    have hl:=(OW.mp this).1
    rw[aY (xs:=i8 v (fJ st).1) [] te.2.1 (by omega),OY,this];rfl
   refine ak (a9 8 (r:=ae ah) (y:=d7 v st) (bo (bo (aa 4 rfl) (tD (mD 5 (gO ev_int) rfl rfl (oC lz))) h1) (oZ (mD 5 (gO ev_int) rfl rfl (oC lz))) h2) ?_)
   refine ak (a9 9 (y:=(d7 v st).getD 0 0) (bo (aa 8 rfl) ev_int (aY (xs:=d7 v st) (i:=0) 0 (OS _) (by omega))) ?_)
   change WS _ _ [.im ag x,cb ans,ar bound,.im jH v,.im (ae (ae (ae ah))) lv,.mu gX st,.mu ah rows,ar (u:Int),cb (d7 v st),ar ((d7 v st).getD 0 0)] _ _
   refine bM (N1:=λΓ=>∃(c:Int) (u':Nat),Γ=[.im ag x,cb ans,ar bound,.im jH v,.im (ae (ae (ae ah))) lv,.mu gX st,.mu ah rows,ar (u':Int),cb (d7 v st),ar c]/\n9 v ans u st=some (c,u')/\u'<=ans.length)
    (bE (aD ir (eO M.len (aa 8 rfl)) ev_int) (λh=>?_) (λh=>aW ?_)) ?_
   ·have h:1<((d7 v st).length:Int):=UM h
    refine ak (bE (aD iG (aa 7 rfl) (eO M.len (aa 1 rfl))) (λq=>?_) (λq=>aW ?_))
    ·have q:(u:Int)=(ans.length:Int):=UM q
     have hn:nJ v ans (rows,u,st)=none:=by
      unfold nJ n9
      rw[UL (by show 1<(d7 v st).length;omega),Po (show ans.length<=u by omega)];rfl
     rw[wY U9 hn] at hw
     refine WS.freeze 5 rfl (aK (by omega)) (WS.freeze 6 rfl (aK (by omega)) ?_)
     refine ao (a8 (gG (ax (EV.G2 (aa 6 rfl)) (ax (EV.pS (nV hWA)) (ax (EV.G8 (aa 5 rfl)) aR))) (by show 3<=RE;decide)) ?_)
     rw[← hw];rfl
    ·have q:¬(u:Int)=(ans.length:Int):=UN q
     have ul:u<ans.length:=by omega
     have hau:ans[u]?=some ans[u]:=OX ul
     have Xn:=Al ha hau
     generalize ans[u]=b at hau Xn
     have VM:cy ans (u:Int)=some b:=by rw[aY (xs:=ans) 0 (by omega) (by omega),OY,show((u:Nat):Int).toNat=u by omega,hau];rfl
     refine ak (a9 9 (y:=(d7 v st).getD (1-b).toNat 0) (bo (aa 8 rfl) (gm (eG hY) (bo (aa 1 rfl) (aa 7 rfl) VM)) (aY (xs:=d7 v st) (i:=1-b) 0 (by omega) (by omega))) ?_)
     refine ao (yR 7 (a:=(u:Int)) (c:=1) ev_int rfl ⟨(d7 v st).getD (1-b).toNat 0,u+1,?_,?_,ul⟩)
     ·rw[show((u+1:Nat):Int)=(u:Int)+1 by push_cast;rfl];rfl
     ·unfold n9
      rw[UL (by omega),hau];rfl
   ·have h:¬1<((d7 v st).length:Int):=UN h
    refine⟨_,u,rfl,?_,hu⟩
    unfold n9
    rw[UK (by omega)]
   rintro _ ⟨c,u',rfl,hc,XN⟩
   have cm:=EE hv ha hs U9 hc
   obtain⟨c0,c1,c2⟩:=Eo cm
   have hn:nJ v ans (rows,u,st)=some (rows++[c],u',ja st (rowOf v c)):=by unfold nJ;rw[hc];rfl
   rw[v7 U9 hn] at hw
   have gk:oo v (ja st (rowOf v c))/\(ja st (rowOf v c)).length<=st.length+1:=K2 hv hs U9 c2
   refine ak (eY 6 (y:=c) (aa 9 rfl) rfl rfl (QZ rl (by decide)) ?_)
   refine ao (mF (uC 5 (st:=ja st (rowOf v c)) (rr:=iF) (z:=()) CG hr (aj (bo (oZ (aa 3 rfl)) (aa 9 rfl) (aY DG c0 c1)) aw) rfl rfl ⟨_,rfl,U9,by omega,rfl⟩) ?_)
   refine⟨m',by omega,rows++[c],u',ja st (rowOf v c),_,_,rfl,hw,?_,gk.1,?_,XN⟩
   ·rw[O4,Py];push_cast;push_cast at hm;omega
   ·rw[O4,Py];omega
  ·have U9:st=[]:=by
    cases st with
    | nil=>rfl
    | cons a b=>cases h
   subst U9
   rw[Bf rfl] at hw
   exact⟨ar (u:Int),e8,e9,by rw[← hw],by rw[← hw]⟩
 ·rintro _ ⟨e7,e8,e9,rfl,he⟩
  refine WS.freeze 5 rfl (QY _) (WS.freeze 6 rfl (aK (by omega)) ?_)
  refine ao (a8 (gG (ax (EV.G2 (aa 6 rfl)) (ax (EV.pS (nV hEN)) (ax (EV.G8 (aa 5 rfl)) aR))) (by show 3<=RE;decide)) ?_)
  unfold xy
  rw[he]
end
theorem vW {ans:OB}(h:∀a∈ans,a=0∨a=1):mK ans=true:=by
 unfold mK
 rw[Qu]
 intro b hb
 obtain⟨a,ha,rfl⟩:=Pe.mp hb
 rcases h a (PM.mp ha).1 with rfl | rfl<;>decide
def jM (ns:OB)(k:Int):Nat:=(aJ ns k/3%41).toNat
def kx (ns:OB)(k j:Int):Int:=if aJ ns k%3<aJ ns (k+1+j)%4 then 1 else 0
def Wq (ns:OB)(k:Int):OB:=(ups 0 (jM ns k)).map (kx ns k)
theorem Br (ns:OB)(k:Int):∀a∈Wq ns k,a=0∨a=1:=λa ha=>by
 unfold Wq at ha
 obtain⟨j,_,rfl⟩:=Pe.mp ha
 unfold kx
 split
 ·exact .inr rfl
 ·exact .inl rfl
theorem xa (ns:OB)(k:Int):jM ns k<=40:=by unfold jM;omega
theorem u6 (ns:OB)(k:Int):(Wq ns k).length<=40:=by unfold Wq;rw[OZ,ba];exact xa ns k
section
abbrev Ib:Stmt:=top pN
abbrev nAN:OC:=["_law_script","_law_k","_law_number","_law_lean","_law_bits","_law_j","_law_bit"]
theorem HN:aF nAN ["_law_script","_law_k"] (ai Ib):=Vk
def Mx:cP:=λK ps T=>∃(ns:OB) (k:Int),ps=[⟨bp,ns⟩,⟨ah,k⟩]/\xn ns/\0<=k/\k<=10000/\T=Aq K ah (· =Wq ns k)
theorem LM (M:cH K mg)(CM:aH P w K mg base "_law_mixed" 1 (aN Dn K))(Df:Def K mg "_law_answers" Ib ["_law_script","_law_k"]):aH P w K mg base "_law_answers" 2 (aN Mx K):=by
 have nd:=HN.nd
 refine bJ (k:=1) Df HN (λf UX A outer s H E qs T hr hS=>?_)
 obtain⟨ns,k,rfl,hs,k0,k1,rfl⟩:=hS
 have bd:=qI ns k
 have hle:=xa ns k
 change WS _ _ [.im bp ns,ar k,.no,.no,.no,.no,.no] _ _
 refine ak (a9 2 (y:=aJ ns k) (aE CM hr (aj (aa 0 rfl) (aj (aa 1 rfl) aw)) ⟨ns,k,rfl,hs,k0,by omega,rfl⟩) ?_)
 refine ak (a9 3 (y:=aJ ns k%3) (cI (aa 2 rfl) ev_int (by decide)) ?_)
 refine ak (cS 4 (r:=ah) (ys:=[]) (aV aR (QY _)) ?_)
 change WS _ _ [.im bp ns,ar k,ar (aJ ns k),ar (aJ ns k%3),.mu ah [],.no,.no] _ _
 refine bM (N1:=λΓ=>∃e5 e6,Γ=[.im bp ns,ar k,ar (aJ ns k),ar (aJ ns k%3),.mu ah (Wq ns k),e5,e6]) (cJ (λi Γ=>∃e5 e6,Γ=[.im bp ns,ar k,ar (aJ ns k),ar (aJ ns k%3),.mu ah (((ups 0 (jM ns k)).take i).map (kx ns k)),e5,e6]) (dD M.range (cI (n6 (aa 2 rfl) ev_int ⟨by decide,by decide⟩) ev_int (by decide)) ⟨by omega,by omega⟩) (aX 5) ⟨_,_,rfl⟩ (λi j Γ hj hΓ=>?_) (λΓ hΓ=>?_)) ?_
 ·obtain⟨e5,e6,rfl⟩:=hΓ
  have hj2:(ups 0 (jM ns k))[i]?=some j:=hj
  obtain⟨jl,ej⟩:=fm hj
  have jl:i<jM ns k:=jl
  have V5:((ups 0 (jM ns k)).take (i+1)).map (kx ns k)=((ups 0 (jM ns k)).take i).map (kx ns k)++[kx ns k j]:=by rw[PJ,hj2,Ph];rfl
  rw[V5]
  have tl:(((ups 0 (jM ns k)).take i).map (kx ns k)).length<=40:=by rw[OZ,Pl];omega
  generalize ((ups 0 (jM ns k)).take i).map (kx ns k)=bs at tl
  change WS _ _ [.im bp ns,ar k,ar (aJ ns k),ar (aJ ns k%3),.mu ah bs,ar j,e6] _ _
  refine ak (a9 6 (y:=aJ ns (k+1+j)%4) (cI (aE CM hr (aj (aa 0 rfl) (aj (cv (cv (aa 1 rfl) ev_int) (aa 5 rfl)) aw)) ⟨ns,k+1+j,rfl,hs,by omega,by omega,rfl⟩) ev_int (by decide)) ?_)
  refine ao (eY 4 (y:=kx ns k j) (EV.cast (wW M.int (jI ir (aa 6 rfl) (aa 3 rfl))) ?_) rfl rfl (QZ tl (by decide)) ⟨_,_,rfl⟩)
  unfold kx
  simp only[decide_eq_true_eq]
 ·obtain⟨e5,e6,rfl⟩:=hΓ
  refine⟨e5,e6,?_⟩
  rw[ba]
  rw[show(aJ ns k/3%41).toNat=jM ns k from rfl,Qm (by rw[ba];exact QW _)]
  rfl
 rintro _ ⟨e5,e6,rfl⟩
 exact ao (Fp 4 rfl (aK (by have:=u6 ns k;omega)) rfl)
end
mutual
def lr:Th->Nat
 | .ifs _ A B=>1+fR A+fR B
 | .U6 _ A=>1+fR A
 | .Vl _=>1
 | .call _=>1
 | .leave=>0
 | .back=>0
def fR:List Th->Nat
 | []=>0
 | t::ts=>lr t+fR ts
end
abbrev rR:=Str×Str×Int×Int×Int
def mC (ts:List Th)(k bh lp:Int):Int:=match ts with
 | []=>bh
 | .leave::_=>lp
 | .back::_=> -1
 | _::_=>k
mutual
def jd:Th->Int->Int->Int->List rR
 | .Vl x,k,af,lp=>[("do",x,k,af, -1)]
 | .call j,k,af,lp=>[("call","",k,af,j)]
 | .ifs x A B,k,af,lp=>([(("yes":Str),x,k,mC A (k+1) af lp, -1),(("no":Str),x,k,mC B (k+1+fR A) af lp, -1)]:List rR)++(eW A (k+1) af lp++eW B (k+1+fR A) af lp)
 | .U6 x A,k,af,lp=>([(("yes":Str),x,k,mC A (k+1) k af, -1),(("no":Str),x,k,af, -1)]:List rR)++eW A (k+1) k af
 | .leave,_,_,_=>[]
 | .back,_,_,_=>[]
def eW:List Th->Int->Int->Int->List rR
 | [],_,_,_=>[]
 | t::ts,k,bh,lp=>jd t k (mC ts (k+lr t) bh lp) lp++eW ts (k+lr t) bh lp
end
theorem GX (x:Str):br (.Vl x)=1:=by simp[br]
theorem Gm (x:Int):br (.call x)=1:=by simp[br]
theorem Co:br .leave=1:=by simp[br]
theorem F5:br .back=1:=by simp[br]
theorem lW:aP "else"=false:=by decide +kernel
theorem gM:aP "end"=false:=by decide +kernel
theorem mr:aP "leave"=false:=by decide +kernel
theorem oj:aP "back"=false:=by decide +kernel
theorem uA:aP "part"=false:=by decide +kernel
def jT (S:List ay):Nat:=(S.filter λt=>aP t.kind).length
theorem gH (a b:List ay):jT (a++b)=jT a+jT b:=by unfold jT;rw[Qb,O4]
theorem qf {s:ay}(h:aP s.kind=true):jT [s]=1:=by unfold jT;rw[P2 (by exact h)];rfl
theorem nh {s:ay}(h:aP s.kind=false):jT [s]=0:=by unfold jT;rw[P4 (by rw[h];exact OJ)];rfl
mutual
theorem JN {UQ:OC}:∀(t:Th) (a w u:Int),jT (spT UQ a w u t)=lr t
 | .Vl _,a,w,u=>by rw[spT,lr];exact qf pY
 | .call _,a,w,u=>by rw[spT,lr];exact qf lO
 | .leave,a,w,u=>by rw[spT,lr];exact nh mr
 | .back,a,w,u=>by rw[spT,lr];exact nh oj
 | .U6 x A,a,w,u=>by
   rw[spT,lr,gH,gH,va A,qf fH,nh gM];omega
 | .ifs x A B,a,w,u=>by
   rw[spT,lr,gH,gH,gH,gH,va A,va B,qf kJ,nh lW,nh gM]
   omega
theorem va {UQ:OC}:∀(ts:List Th) (a w u:Int),jT (bN UQ a w u ts)=fR ts
 | [],a,w,u=>by rw[bN,fR];rfl
 | t::ts,a,w,u=>by rw[bN,fR,gH,JN t,va ts]
end
section
variable {S:List ay}{a:Nat}{Ld:List OB}{n:Nat}{s:ay}
def cg (S:List ay)(Ld:List OB)(a n:Nat):List Rw:=(QR a n).flatMap λ(i:Nat)=>dv Ld (aQ S Ld) ((i:Int),S.getD i c7)
theorem dk (S:List ay)(Ld:List OB)(a m n:Nat):cg S Ld a (m+n)=cg S Ld a m++cg S Ld (a+m) n:=by
 unfold cg
 rw[← QD,List.range'_append_1]
theorem m7 (S:List ay)(Ld:List OB)(a:Nat):cg S Ld a 1=dv Ld (aQ S Ld) ((a:Int),S.getD a c7):=by
 unfold cg
 rw[range'_one,List.flatMap_singleton]
def Vy (S:List ay)(a n:Nat):Nat:=((QR a n).filter λ(i:Nat)=>aP (aO S (i:Int))).length
theorem fA (S:List ay)(a m n:Nat):Vy S a (m+n)=Vy S a m+Vy S (a+m) n:=by
 unfold Vy
 rw[← O4,← Qb,List.range'_append_1]
theorem su (h:aP (aO S (a:Int))=true):Vy S a 1=1:=by
 unfold Vy
 rw[range'_one,P2 (by exact h)];rfl
theorem sI (h:aP (aO S (a:Int))=false):Vy S a 1=0:=by
 unfold Vy
 rw[range'_one,P4 (by rw[h];exact OJ)];rfl
theorem bZ.fP {α:Type}{S:List α}{v:α}{vs:List α}(h:bZ S a (v::vs)):S[a]?=some v/\bZ S (a+1) vs:=⟨h 0 v rfl,λi x hx=>by
 have:=h (i+1) x hx
 rwa [show a+1+i=a+(i+1) by omega]⟩
theorem tN {S:List ay}:∀{vs:List ay} {a:Nat},bZ S a vs->Vy S a vs.length=jT vs
 | [],a,_=>rfl
 | v::vs,a,h=>by
   obtain⟨h1,h2⟩:=h.fP
   have h2:bZ S (a+1) vs:=h2
   have ih:=tN h2
   rw[O8,Nat.add_comm,fA,ih,show v::vs=[v]++vs from rfl,gH]
   have hk:=(c9 h1).1
   cases hr:aP v.kind with
   | true=>rw[su (by rw[hk];exact hr),qf hr]
   | false=>rw[sI (by rw[hk];exact hr),nh hr]
theorem Lq {UQ:OC}{t:Th}{x w u:Int}{k:Nat}(h:bZ S a (spT UQ x w u t))(hk:Vy S 0 a=k):Vy S 0 (a+br t)=k+lr t:=by
 have:=tN h
 rw[jq,JN] at this
 rw[fA,hk,Q4,this]
theorem DN {UQ:OC}{ts:List Th}{x w u:Int}{k:Nat}(h:bZ S a (bN UQ x w u ts))(hk:Vy S 0 a=k):Vy S 0 (a+UU ts)=k+fR ts:=by
 have:=tN h
 rw[bP,va] at this
 rw[fA,hk,Q4,this]
theorem wQ (S:List ay)(Ld:List OB):eV S Ld (aQ S Ld)=cg S Ld 0 S.length:=by
 unfold eV cg
 have e:nums S=(QR 0 S.length).map λ(i:Nat)=>((i:Int),S.getD i c7):=by
  refine PX λi=>?_
  rcases Q2 i S.length with h | h
  ·have hl:i<(nums S).length:=by rw[cK];exact h
   have hn:(nums S)[i]?=some (nums S)[i]:=OX hl
   obtain⟨y1,y2⟩:=eJ hn
   have hr:(QR 0 S.length)[i]?=some i:=by rw[List.getElem?_range' h];simp
   rw[hn,O5,hr]
   refine congrArg some (Rp y1 ?_)
   show _=S.getD i c7
   rw[OY,y2];rfl
  ·rw[Po (by rw[cK];exact h),Po (by rw[OZ,List.length_range'];exact h)]
 rw[e,List.flatMap_map]
theorem iI (hs:S[n]?=some s)(hk:aP s.kind=false):cg S Ld n 1=[]:=by
 have e:S.getD n c7=s:=by rw[OY,hs];rfl
 rw[m7,e]
 unfold dv iY
 unfold aP at hk
 cases q:cn dg s.kind with
 | none=>rfl
 | some x=>rw[q] at hk;cases hk
theorem yJ {y:Str}{l:Int}(hs:S[n]?=some s)(hk:cn dg s.kind=some [y])(hl:Ld.getD n []=[l]):cg S Ld n 1=[((n:Int),(aQ S Ld).getD l.toNat 0,y,s.name)]:=by
 have e:S.getD n c7=s:=by rw[OY,hs];rfl
 rw[m7,e]
 unfold dv iY
 rw[show(((n:Int),s).1).toNat=n from OT n,show(((n:Int),s).2).kind=s.kind from rfl,hk,hl]
 rfl
theorem yW {y y':Str}{l l':Int}(hs:S[n]?=some s)(hk:cn dg s.kind=some [y,y'])(hl:Ld.getD n []=[l,l']):cg S Ld n 1=[((n:Int),(aQ S Ld).getD l.toNat 0,y,s.name),((n:Int),(aQ S Ld).getD l'.toNat 0,y',s.name)]:=by
 have e:S.getD n c7=s:=by rw[OY,hs];rfl
 rw[m7,e]
 unfold dv iY
 rw[show(((n:Int),s).1).toNat=n from OT n,show(((n:Int),s).2).kind=s.kind from rfl,hk,hl]
 rfl
def pO (UQ:OC)(φ:Int->Int)(r:Rw):rR:=(r.2.2.1,if r.2.2.1="call" then "" else r.2.2.2,φ r.1,φ r.2.1,if r.2.2.1="call" then(VI UQ r.2.2.2:Int) else -1)
structure oM (S:List ay) (Ld:List OB) (φ:Int->Int) (pe:Nat) (wl lq:Int) (lp:Bool) (hi:Nat):Prop where
 pz:hi<=pe
 pl:pe<S.length
 ps:φ ((aQ S Ld).getD pe 0)= -1
 wh:lp=true->(hi:Int)<=wl/\wl<(S.length:Int)/\φ ((aQ S Ld).getD wl.toNat 0)=lq
end
section
variable {S:List ay}{Ld:List OB}{UQ:OC}{φ:Int->Int}{pe:Nat}
variable {lq:Int}{n:Nat}{s:ay}
theorem oM.less {wl:Int}{lp:Bool}{hi lo:Nat}(h:oM S Ld φ pe wl lq lp hi)(q:lo<=hi):oM S Ld φ pe wl lq lp lo:=
 ⟨by have:=h.pz;omega,h.pl,h.ps,λe=>by obtain⟨a,b,c⟩:=h.wh e;exact⟨by omega,b,c⟩⟩
theorem zu (hs:S[n]?=some s)(hk:aP s.kind=true):(aQ S Ld).getD n 0=(n:Int):=
 gU (OW.mp hs).1 (.inr (by rw[(c9 hs).1];exact hk))
theorem kg {l:Int}(hs:S[n]?=some s)(hk:aP s.kind=false)(hL:Ld.getD n []=[l])(h1:(n:Int)<l)(h2:l<(S.length:Int)):(aQ S Ld).getD n 0=(aQ S Ld).getD l.toNat 0:=by
 rw[lG (OW.mp hs).1 hL (by rw[(c9 hs).1];exact hk) (by omega) h2,UL h1]
theorem As {l:Int}(hs:S[n]?=some s)(hk:aP s.kind=false)(hL:Ld.getD n []=[l])(h0:0<=l)(h1:l<=(n:Int)):(aQ S Ld).getD n 0=l:=by
 have hn:=(OW.mp hs).1
 rw[lG hn hL (by rw[(c9 hs).1];exact hk) h0 (by omega),UK (by omega)]
theorem Jd:cn dg "do"=some (["do"]:OC):=by decide +kernel
theorem Bt:cn dg "call"=some (["call"]:OC):=by decide +kernel
theorem Ja:cn dg "if"=some (["yes","no"]:OC):=by decide +kernel
theorem AY:cn dg "while"=some (["yes","no"]:OC):=by decide +kernel
theorem bZ.d0 {a:Nat}{v:OB}{vs:List OB}(h:bZ Ld a (v::vs)):Ld.getD a []=v:=by
 rw[OY,h.fP.1];rfl
theorem hdT {t:Th}{a w u:Int}:∃s r,spT UQ a w u t=s::r/\(aP s.kind=true↔t≠ .leave/\t≠ .back):=by
 cases t with
 | Vl x=>rw[spT];exact⟨_,_,rfl,by constructor<;>intro _;exact⟨(λe=>by cases e),λe=>by cases e⟩;exact pY⟩
 | call x=>rw[spT];exact⟨_,_,rfl,by constructor<;>intro _;exact⟨(λe=>by cases e),λe=>by cases e⟩;exact lO⟩
 | ifs x A B=>rw[spT];exact⟨_,_,rfl,by constructor<;>intro _;exact⟨(λe=>by cases e),λe=>by cases e⟩;exact kJ⟩
 | U6 x A=>rw[spT];exact⟨_,_,rfl,by constructor<;>intro _;exact⟨(λe=>by cases e),λe=>by cases e⟩;exact fH⟩
 | leave=>rw[spT];exact⟨_,_,rfl,by constructor<;>intro h;rw[show aP _=false from mr] at h;cases h;exact UJ rfl h.1⟩
 | back=>rw[spT];exact⟨_,_,rfl,by constructor<;>intro h;rw[show aP _=false from oj] at h;cases h;exact UJ rfl h.2⟩
theorem Ff (t:Th):1<=br t:=by
 cases t<;>simp[br]<;>omega
theorem ED {t:Th}{ts:List Th}{k bh:Int}(h:t≠ .leave/\t≠ .back):mC (t::ts) k bh lq=k:=by
 cases t with
 | leave=>exact UJ rfl h.1
 | back=>exact UJ rfl h.2
 | Vl _=>rfl
 | call _=>rfl
 | ifs _ _ _=>rfl
 | U6 _ _=>rfl
theorem sA (hφ:∀n:Nat,n<pe->aP (aO S (n:Int))=true->φ (n:Int)=(Vy S 0 n:Int)){lo m:Int}{lp:Bool}{ts:List Th}{a:Nat}{w u wl:Int}(UZ:bL lo m lp ts)(hS:bZ S a (bN UQ (a:Int) w u ts))(hL:bZ Ld a (fE (a:Int) wl (pe:Int) ts))(cx:oM S Ld φ pe wl lq lp (a+UU ts)){k:Nat}(hk:Vy S 0 a=k){bh:Int}(hb:φ ((aQ S Ld).getD (a+UU ts) 0)=bh):φ ((aQ S Ld).getD a 0)=mC ts (k:Int) bh lq:=by
 cases ts with
 | nil=>rw[UU] at hb;exact hb
 | cons t ts=>
   rw[bN] at hS
   rw[fE] at hL
   simp only[bL] at UZ
   rw[UU] at cx
   have hS:=hS.pre
   have hL:=hL.pre
   have p1:=Ff t
   have pz:=cx.pz
   have pl:=cx.pl
   obtain⟨s,r,e,hr⟩:=hdT (UQ:=UQ) (t:=t) (a:=(a:Int)) (w:=w) (u:=u)
   have hs:S[a]?=some s:=by rw[e] at hS;exact hS.fP.1
   cases Wn:aP s.kind with
   | true=>
     rw[zu hs Wn,ED (hr.mp Wn),hφ a (by omega) (by rw[(c9 hs).1];exact Wn),hk]
   | false=>
     cases t with
     | Vl _=>rw[hr.mpr ⟨(λe=>by cases e),(λe=>by cases e)⟩] at Wn;cases Wn
     | call _=>rw[hr.mpr ⟨(λe=>by cases e),(λe=>by cases e)⟩] at Wn;cases Wn
     | ifs _ _ _=>rw[hr.mpr ⟨(λe=>by cases e),(λe=>by cases e)⟩] at Wn;cases Wn
     | U6 _ _=>rw[hr.mpr ⟨(λe=>by cases e),(λe=>by cases e)⟩] at Wn;cases Wn
     | leave=>
       have h1:=UZ.1
       simp only[cq] at h1
       obtain⟨w1,w2,w3⟩:=cx.wh h1
       rw[eN] at hL
       rw[kg hs Wn hL.d0 (by omega) w2,w3]
       rfl
     | back=>
       rw[eN] at hL
       rw[kg hs Wn hL.d0 (by omega) (by omega),OT,cx.ps]
       rfl
end
theorem zF {α:Type}{a a' b b':List α}(h:a=a')(h':b=b'):a++b=a'++b':=by rw[h,h']
section
variable {S:List ay}{Ld:List OB}{UQ:OC}{φ:Int->Int}{pe:Nat}
theorem G3 {UQ:OC}(nd:UQ.Nodup){j:Nat}(h:j<UQ.length):VI UQ (UQ.getD j "")=j:=by
 have hx:UQ[j]?=some (UQ.getD j ""):=by rw[OY,OX h];rfl
 obtain⟨h1,h2⟩:=mw (O6 hx)
 rcases Nat.lt_trichotomy (VI UQ (UQ.getD j "")) j with q | q | q
 ·have:=(List.getElem?_inj (by omega) nd).mp (h1.trans hx.symm)
  exact this
 ·exact q
 ·exact UJ hx (h2 j q)
variable {lo m:Int}(nd:UQ.Nodup)(hm:m<=(UQ.length:Int))(h0:0<=lo)(hφ:∀n:Nat,n<pe->aP (aO S (n:Int))=true->φ (n:Int)=(Vy S 0 n:Int))
include nd hm h0 hφ
mutual
theorem mpT:∀(t:Th) (lp:Bool) (a:Nat) (w u wl lq:Int) (k:Nat) (af:Int),cq lo m lp t->bZ S a (spT UQ (a:Int) w u t)->bZ Ld a (eN (a:Int) wl (pe:Int) t)->oM S Ld φ pe wl lq lp (a+br t)->Vy S 0 a=k->φ ((aQ S Ld).getD (a+br t) 0)=af->(cg S Ld a (br t)).map (pO UQ φ)=jd t (k:Int) af lq
 | .Vl x,lp,a,w,u,wl,lq,k,af,h,hS,hL,cx,hk,ha=>by
   rw[spT] at hS;rw[eN] at hL;rw[GX] at ha cx ⊢
   have pz:=cx.pz
   have fa:=hφ a (by omega) (by rw[(c9 hS.fP.1).1];exact pY)
   rw[yJ hS.fP.1 Jd hL.d0,jd,QI]
   show[(("do":Str),(if("do":Str)="call" then("":Str) else x),φ (a:Int),φ ((aQ S Ld).getD ((a:Int)+1).toNat 0),(if("do":Str)="call" then(VI UQ x:Int) else -1))]=_
   rw[show((a:Int)+1).toNat=a+1 by omega,ha,fa,hk,UK (by decide +kernel),UK (by decide +kernel)]
 | .call j,lp,a,w,u,wl,lq,k,af,h,hS,hL,cx,hk,ha=>by
   rw[spT] at hS;rw[eN] at hL;rw[Gm] at ha cx ⊢
   simp only[cq] at h
   have pz:=cx.pz
   have fa:=hφ a (by omega) (by rw[(c9 hS.fP.1).1];exact lO)
   rw[yJ hS.fP.1 Bt hL.d0,jd,QI]
   show[(("call":Str),(if("call":Str)="call" then("":Str) else UQ.getD j.toNat ""),φ (a:Int),φ ((aQ S Ld).getD ((a:Int)+1).toNat 0),(if("call":Str)="call" then(VI UQ (UQ.getD j.toNat ""):Int) else -1))]=_
   rw[show((a:Int)+1).toNat=a+1 by omega,ha,fa,hk,UL rfl,UL rfl,G3 nd (by omega),show((j.toNat:Nat):Int)=j by omega]
 | .leave,lp,a,w,u,wl,lq,k,af,h,hS,hL,cx,hk,ha=>by
   rw[spT] at hS;rw[Co]
   rw[iI hS.fP.1 mr,jd];rfl
 | .back,lp,a,w,u,wl,lq,k,af,h,hS,hL,cx,hk,ha=>by
   rw[spT] at hS;rw[F5]
   rw[iI hS.fP.1 oj,jd];rfl
 | .U6 x A,lp,a,w,u,wl,lq,k,af,h,hS,hL,cx,hk,ha=>by
   simp only[cq] at h
   rw[spT] at hS
   rw[eN] at hL
   rw[br] at cx ha ⊢
   obtain⟨s1,s2⟩:=hS.app
   obtain⟨s2,s3⟩:=s2.app
   obtain⟨d1,d2⟩:=hL.app
   obtain⟨d2,d3⟩:=d2.app
   rw[bP] at s3
   rw[dy] at d3
   simp only[O8,Pz,Q4] at s2 s3 d2 d3
   have pz:=cx.pz
   have pl:=cx.pl
   have fa:=hφ a (by omega) (by rw[(c9 s1.fP.1).1];exact fH)
   have se:(aQ S Ld).getD (a+1+UU A) 0=(a:Int):=As s3.fP.1 gM d3.d0 (by omega) (by omega)
   have cx':oM S Ld φ pe ((a:Int)+2+UU A) af true (a+1+UU A):=⟨by omega,pl,cx.ps,λ_=>⟨by omega,by omega,by rw[show((a:Int)+2+UU A).toNat=a+(2+UU A) by omega];exact ha⟩⟩
   have k1:Vy S 0 (a+1)=k+1:=by rw[fA,hk,Q4,su (by rw[(c9 s1.fP.1).1];exact fH)]
   have XF:bZ S (a+1) (bN UQ ((a+1:Nat):Int) (w+2) (a:Int) A):=by push_cast;exact s2
   have X1:bZ Ld (a+1) (fE ((a+1:Nat):Int) ((a:Int)+2+UU A) (pe:Int) A):=by push_cast;exact d2
   have hb:φ ((aQ S Ld).getD (a+1+UU A) 0)=(k:Int):=by rw[se,fa,hk]
   have en:=sA hφ h.2 XF X1 cx' k1 hb
   have ih:=Ah A true (a+1) (w+2) (a:Int) ((a:Int)+2+UU A) af (k+1) (k:Int) h.2 XF X1 cx' k1 hb
   rw[show 2+UU A=1+(UU A+1) by omega,dk,dk,yW s1.fP.1 AY d1.d0,iI s3.fP.1 gM,Px,Ph,ih,jd]
   refine zF ?_ (by push_cast;rfl)
   show[(("yes":Str),(if("yes":Str)="call" then("":Str) else x),φ (a:Int),φ ((aQ S Ld).getD ((a:Int)+1).toNat 0),(if("yes":Str)="call" then(VI UQ x:Int) else -1)),(("no":Str),(if("no":Str)="call" then("":Str) else x),φ (a:Int),φ ((aQ S Ld).getD ((a:Int)+2+UU A).toNat 0),(if("no":Str)="call" then(VI UQ x:Int) else -1))]=_
   rw[show((a:Int)+1).toNat=a+1 by omega,show((a:Int)+2+UU A).toNat=a+(2+UU A) by omega,ha,en,fa,hk,UK (by decide +kernel),UK (by decide +kernel),UK (by decide +kernel),UK (by decide +kernel)]
   push_cast;rfl
 | .ifs x A B,lp,a,w,u,wl,lq,k,af,h,hS,hL,cx,hk,ha=>by
   simp only[cq] at h
   rw[spT,Pg] at hS
   rw[eN,Pg] at hL
   rw[br] at cx ha ⊢
   obtain⟨s1,s2⟩:=hS.app
   obtain⟨s2,s3⟩:=s2.app
   obtain⟨s3,s4⟩:=s3.app
   obtain⟨s4,s5⟩:=s4.app
   obtain⟨d1,d2⟩:=hL.app
   obtain⟨d2,d3⟩:=d2.app
   obtain⟨d3,d4⟩:=d3.app
   obtain⟨d4,d5⟩:=d4.app
   rw[bP] at s3 s4 s5
   rw[bP] at s5
   rw[dy] at d3 d4 d5
   rw[dy] at d5
   simp only[O8,Pz,Q4] at s2 s3 s4 s5 d2 d3 d4 d5
   have pz:=cx.pz
   have pl:=cx.pl
   have fa:=hφ a (by omega) (by rw[(c9 s1.fP.1).1];exact kJ)
   have s5e:(aQ S Ld).getD (a+1+UU A+1+UU B) 0=(aQ S Ld).getD (a+(3+UU A+UU B)) 0:=by
    rw[kg s5.fP.1 gM d5.d0 (by omega) (by omega)]
    congr 1;omega
   have s3e:(aQ S Ld).getD (a+1+UU A) 0=(aQ S Ld).getD (a+(3+UU A+UU B)) 0:=by
    rw[kg s3.fP.1 lW d3.d0 (by omega) (by omega),← s5e]
    congr 1;omega
   have k1:Vy S 0 (a+1)=k+1:=by rw[fA,hk,Q4,su (by rw[(c9 s1.fP.1).1];exact kJ)]
   have k2:Vy S 0 (a+1+UU A)=k+1+fR A:=DN s2 k1
   have k3:Vy S 0 (a+1+UU A+1)=k+1+fR A:=by rw[fA,k2,Q4,sI (by rw[(c9 s3.fP.1).1];exact lW),Rj]
   have XF:bZ S (a+1) (bN UQ ((a+1:Nat):Int) (w+2) (a:Int) A):=by push_cast;exact s2
   have X1:bZ Ld (a+1) (fE ((a+1:Nat):Int) wl (pe:Int) A):=by push_cast;exact d2
   have q4:((a+1+UU A+1:Nat):Int)=(a:Int)+2+UU A:=by omega
   have s4':bZ S (a+1+UU A+1) (bN UQ ((a+1+UU A+1:Nat):Int) (w+3+(U3 UQ A).length) ((a:Int)+1+UU A) B):=by rw[q4];exact s4
   have d4':bZ Ld (a+1+UU A+1) (fE ((a+1+UU A+1:Nat):Int) wl (pe:Int) B):=by rw[q4];exact d4
   have cA:oM S Ld φ pe wl lq lp (a+1+UU A):=cx.less (by omega)
   have cB:oM S Ld φ pe wl lq lp (a+1+UU A+1+UU B):=cx.less (by omega)
   have hA:φ ((aQ S Ld).getD (a+1+UU A) 0)=af:=by rw[s3e];exact ha
   have hB:φ ((aQ S Ld).getD (a+1+UU A+1+UU B) 0)=af:=by rw[s5e];exact ha
   have eA:=sA hφ h.2.1 XF X1 cA k1 hA
   have eB:=sA hφ h.2.2 s4' d4' cB k3 hB
   have iA:=Ah A lp (a+1) (w+2) (a:Int) wl lq (k+1) af h.2.1 XF X1 cA k1 hA
   have iB:=Ah B lp (a+1+UU A+1) (w+3+(U3 UQ A).length) ((a:Int)+1+UU A) wl lq (k+1+fR A) af h.2.2 s4' d4' cB k3 hB
   rw[show 3+UU A+UU B=1+(UU A+(1+(UU B+1))) by omega,dk,dk,dk,dk,yW s1.fP.1 Ja d1.d0,iI s3.fP.1 lW,iI s5.fP.1 gM,Px,Qd,Ph,Ph,iA,iB,jd]
   refine zF ?_ (by push_cast;rfl)
   show[(("yes":Str),(if("yes":Str)="call" then("":Str) else x),φ (a:Int),φ ((aQ S Ld).getD ((a:Int)+1).toNat 0),(if("yes":Str)="call" then(VI UQ x:Int) else -1)),(("no":Str),(if("no":Str)="call" then("":Str) else x),φ (a:Int),φ ((aQ S Ld).getD ((a:Int)+2+UU A).toNat 0),(if("no":Str)="call" then(VI UQ x:Int) else -1))]=_
   rw[show((a:Int)+1).toNat=a+1 by omega,show((a:Int)+2+UU A).toNat=a+1+UU A+1 by omega,eB,eA,fa,hk,UK (by decide +kernel),UK (by decide +kernel),UK (by decide +kernel),UK (by decide +kernel)]
   push_cast;rfl
theorem Ah:∀(ts:List Th) (lp:Bool) (a:Nat) (w u wl lq:Int) (k:Nat) (bh:Int),bL lo m lp ts->bZ S a (bN UQ (a:Int) w u ts)->bZ Ld a (fE (a:Int) wl (pe:Int) ts)->oM S Ld φ pe wl lq lp (a+UU ts)->Vy S 0 a=k->φ ((aQ S Ld).getD (a+UU ts) 0)=bh->(cg S Ld a (UU ts)).map (pO UQ φ)=eW ts (k:Int) bh lq
 | [],lp,a,w,u,wl,lq,k,bh,h,hS,hL,cx,hk,hb=>by rw[UU,eW];rfl
 | t::ts,lp,a,w,u,wl,lq,k,bh,h,hS,hL,cx,hk,hb=>by
   simp only[bL] at h
   rw[bN] at hS
   rw[fE] at hL
   rw[UU] at cx hb ⊢
   obtain⟨s1,s2⟩:=hS.app
   obtain⟨d1,d2⟩:=hL.app
   rw[jq] at s2
   rw[nB] at d2
   have XF:bZ S (a+br t) (bN UQ ((a+br t:Nat):Int) (w+(cL UQ t).length) u ts):=by push_cast;exact s2
   have X1:bZ Ld (a+br t) (fE ((a+br t:Nat):Int) wl (pe:Int) ts):=by push_cast;exact d2
   have k1:=Lq s1 hk
   rw[← Rg] at cx hb
   have en:=sA hφ h.2.2 XF X1 cx k1 hb
   have i1:=mpT t lp a w u wl lq k _ h.1 s1 d1 (cx.less (by omega)) hk en
   have i2:=Ah ts lp (a+br t) (w+(cL UQ t).length) u wl lq (k+lr t) bh h.2.2 XF X1 cx k1 hb
   rw[dk,Ph,i1,i2,eW]
   push_cast;rfl
end
end
def kH (φ:Int->Int)(F:OH):OH:=F.map λy=>(φ y.1,y.2)
def yk (φ:Int->Int)(Kp:OB):Prop:=∀x∈Kp,∀y∈Kp,φ x=φ y->x=y
theorem nu {φ:Int->Int}{Kp:OB}(hi:yk φ Kp){k:Int}(hk:k∈Kp):∀{F:OH},(∀x∈F.map (·.1),x∈Kp)->bA (kH φ F) (φ k)=bA F k
 | [],_=>rfl
 | y::F,h=>by
   have ih:=nu hi hk (F:=F) λx hx=>h x (O2 _ hx)
   have hy:=h y.1 O3
   unfold bA kH at ih ⊢
   rw[PH]
   by_cases q:y.1=k
   ·rw[QK (by simpa using congrArg φ q),QK (by simpa using q)];rfl
   ·rw[QL (by simpa using λe=>q (hi _ hy _ hk e)),QL (by simpa using q)]
    exact ih
theorem xg {φ:Int->Int}{Kp:OB}(hi:yk φ Kp){k:Int}(hk:k∈Kp){F:OH}(hF:∀x∈F.map (·.1),x∈Kp):dM (kH φ F) (φ k)=kH φ (dM F k)/\∀x∈(dM F k).map (·.1),x∈Kp:=by
 unfold dM
 rw[nu hi hk hF]
 cases (bA F k).isSome with
 | true=>exact⟨rfl,hF⟩
 | false=>
   refine⟨?_,λx hx=>?_⟩
   ·show kH φ F++[(φ k,((kH φ F).length:Int))]=kH φ (F++[(k,(F.length:Int))])
    unfold kH
    rw[Ph,OZ];rfl
   ·have hx:x∈(F++[(k,(F.length:Int))]).map (·.1):=hx
    rw[Ph] at hx
    rcases Pa.mp hx with hx | hx
    ·exact hF x hx
    ·rw[O0.mp hx];exact hk
abbrev rQ (F:OH)(a b:Int):OH:=dM (dM F a) b
theorem uP {φ:Int->Int}{Kp:OB}(UQ:OC)(hi:yk φ Kp):∀{rs:List Rw} {F:OH},(∀x∈F.map (·.1),x∈Kp)->(∀r∈rs,r.1∈Kp/\r.2.1∈Kp)->(rs.map (pO UQ φ)).foldl (λF r=>rQ F r.2.2.1 r.2.2.2.1) (kH φ F)=kH φ (rs.foldl (λF r=>rQ F r.1 r.2.1) F)/\∀x∈(rs.foldl (λF r=>rQ F r.1 r.2.1) F).map (·.1),x∈Kp
 | [],F,hF,_=>⟨rfl,hF⟩
 | r::rs,F,hF,hr=>by
   obtain⟨k1,k2⟩:=hr r O3
   obtain⟨e1,h1⟩:=xg hi k1 hF
   obtain⟨e2,h2⟩:=xg hi k2 h1
   have ih:=uP UQ hi (rs:=rs) (F:=rQ F r.1 r.2.1) h2 λx hx=>hr x (O2 _ hx)
   rw[PH,PZ,PZ]
   show(rs.map (pO UQ φ)).foldl _ (dM (dM (kH φ F) (φ r.1)) (φ r.2.1))=_/\_
   rw[e1,e2]
   exact ih
theorem nY {p:gg}:∀{rs:List Rw} {F:OH},(∀r∈rs,f7 p r=false)->rs.foldl (dz p) F=F
 | [],F,_=>rfl
 | r::rs,F,h=>by
   rw[PZ,show dz p F r=F by unfold dz;rw[h r O3];rfl]
   exact nY λx hx=>h x (O2 _ hx)
theorem wd {p:gg}:∀{rs:List Rw} {F:OH},(∀r∈rs,f7 p r=true)->rs.foldl (dz p) F=rs.foldl (λF r=>rQ F r.1 r.2.1) F
 | [],F,_=>rfl
 | r::rs,F,h=>by
   rw[PZ,PZ,show dz p F r=rQ F r.1 r.2.1 by unfold dz;rw[h r O3];rfl]
   exact wd λx hx=>h x (O2 _ hx)
theorem j8 {S:List ay}{Ld:List OB}{a n:Nat}{r:Rw}(h:r∈cg S Ld a n):∃i:Nat,a<=i/\i<a+n/\r.1=(i:Int):=by
 unfold cg at h
 obtain⟨i,hi,hr⟩:=Qv.mp h
 obtain⟨y,hy,rfl⟩:=Pe.mp hr
 have:=List.mem_range'_1.mp hi
 exact⟨i,this.1,this.2,rfl⟩
theorem Dx {S:List ay}{n m:Nat}(h:n<m)(hr:aP (aO S (n:Int))=true):Vy S 0 n<Vy S 0 m:=by
 obtain⟨d,rfl⟩:∃d,m=n+(1+d):=⟨m-n-1,by omega⟩
 rw[fA,Q4,fA,su hr];omega
theorem ow:∀(zs:List (Str×List Th)) (j:Nat) (z:Str×List Th),zs[j]?=some z->cW (zs.take (j+1))=cW (zs.take j)+(2+UU z.2)
 | [],j,z,h=>by simp at h
 | y::r,0,z,h=>by
   have e:y=z:=by simpa using h
   subst e
   rw[PR,cW,QP,QP,cW];omega
 | y::r,j+1,z,h=>by
   have:=ow r j z (by simpa using h)
   rw[PR,PR,cW,cW,this];omega
def W8 (Ls:List (List Th))(j:Nat):Nat:=((Ls.take j).map fR).sum
def lL (Ls:List (List Th))(j:Nat):List rR:=eW (Ls.getD j []) (W8 Ls j:Int) (-1) 0
def mm (Ls:List (List Th))(j:Nat):OH:=(lL Ls j).foldl (λF r=>rQ F r.2.2.1 r.2.2.2.1) [((W8 Ls j:Int),0),(-1,1)]
def oU (j:Nat)(F:OH)(r:rR):Row:=((j:Int),(bA F r.2.2.1).getD 0,(bA F r.2.2.2.1).getD 0,r.2.2.2.2)
def Vu (Ls:List (List Th)):fq:=((Pm Ls.length).map λj=>((mm Ls j).length:Int),(Pm Ls.length).flatMap λj=>(lL Ls j).map (oU j (mm Ls j)))
def Kr (UQ:OC)(r:rR):Str×Str:=(r.1,if r.1="call" then UQ.getD r.2.2.2.2.toNat "" else r.2.1)
def VA (UQ:OC)(Ls:List (List Th)):List (Str×Str):=(Pm Ls.length).flatMap λj=>(lL Ls j).map (Kr UQ)
section
variable {UQ:OC}{Ls:List (List Th)}
variable {z:Str×List Th}{j:Nat}
def i6 (UQ:OC)(Ls:List (List Th))(j:Nat)(z:Str×List Th)(x:Int):Int:=if x=((lst (fst UQ Ls j) z:Nat):Int) then -1 else(Vy (aq UQ Ls) 0 x.toNat:Int)
theorem pJ (S:List ay)(Ld:List OB){UQ:OC}{f:Nat}{w:Int}(hb:eC S Ld UQ f w z):cg S Ld f (2+UU z.2)=cg S Ld (f+1) (UU z.2):=by
 rw[show 2+UU z.2=1+(UU z.2+1) by omega,dk,dk,iI hb.nm uA,iI hb.e gM,Px,Qd]
theorem qo {S:List ay}{Ld:List OB}{UQ:OC}{f:Nat}{w:Int}(hb:eC S Ld UQ f w z):Vy S 0 (f+1)=Vy S 0 f/\Vy S 0 (f+(2+UU z.2))=Vy S 0 f+fR z.2:=by
 have k1:Vy S 0 (f+1)=Vy S 0 f:=by rw[fA,Q4,sI (by rw[hb.k];exact uA),Rj]
 refine⟨k1,?_⟩
 have k2:=DN hb.s k1
 rw[show f+(2+UU z.2)=(f+1+UU z.2)+1 by omega,fA,k2,Q4,sI (by rw[(c9 hb.e).1];exact gM),Rj]
theorem p9 (h:cf UQ Ls)(hj:j<Ls.length):∃z,(cO UQ Ls)[j]?=some z/\z.2=Ls.getD j []:=by
 have hl:j<(cO UQ Ls).length:=by rw[mv h];exact hj
 have hz:=OX hl
 refine⟨_,hz,?_⟩
 have:=(dP h hz).2.2.2.2
 rw[OY,this];rfl
theorem yp (h:cf UQ Ls):∀j,j<=Ls.length->Vy (aq UQ Ls) 0 (fst UQ Ls j)=W8 Ls j
 | 0,_=>rfl
 | j+1,hj=>by
   obtain⟨z,hz,ez⟩:=p9 h (j:=j) (by omega)
   obtain⟨w,hb⟩:=gp (UQ:=UQ) (Ls:=Ls) hz
   have hL:=(dP h hz).2.2.2.2
   have e:fst UQ Ls (j+1)=fst UQ Ls j+(2+UU z.2):=ow _ _ _ hz
   rw[e,(qo hb).2,yp h j (by omega)]
   unfold W8
   rw[PJ,hL,Ph,sum_append]
   simp
theorem all_rows (h:cf UQ Ls):∀n,n<=Ls.length->cg (aq UQ Ls) (bR UQ Ls) 0 (fst UQ Ls n)=(Pm n).flatMap λj=>cg (aq UQ Ls) (bR UQ Ls) (fst UQ Ls j+1) (UU (Ls.getD j []))
 | 0,_=>rfl
 | n+1,hn=>by
   obtain⟨z,hz,ez⟩:=p9 h (j:=n) (by omega)
   obtain⟨w,hb⟩:=gp (UQ:=UQ) (Ls:=Ls) hz
   have e:fst UQ Ls (n+1)=fst UQ Ls n+(2+UU z.2):=ow _ _ _ hz
   rw[e,dk,all_rows h n (by omega),Q4,pJ _ _ hb,range_succ,QD,List.flatMap_singleton,ez]
theorem oB (h:cf UQ Ls):(bC UQ Ls).rows=(Pm Ls.length).flatMap λj=>cg (aq UQ Ls) (bR UQ Ls) (fst UQ Ls j+1) (UU (Ls.getD j [])):=by
 rw[← all_rows h Ls.length (QW _)]
 show eV (aq UQ Ls) (bR UQ Ls) (aQ (aq UQ Ls) (bR UQ Ls))=_
 rw[wQ]
 congr 1
 rw[x9,← mv h]
 show cW (cO UQ Ls)=cW ((cO UQ Ls).take _)
 rw[PK]
theorem mU (h:cf UQ Ls)(hz:(cO UQ Ls)[j]?=some z):(cg (aq UQ Ls) (bR UQ Ls) (fst UQ Ls j+1) (UU z.2)).map (pO UQ (i6 UQ Ls j z))=lL Ls j:=by
 obtain⟨w,hb⟩:=gp (UQ:=UQ) (Ls:=Ls) hz
 obtain⟨V9,WI,XH,hn,hL⟩:=dP h hz
 have jl:=(OW.mp hL).1
 have ll:lst (fst UQ Ls j) z<(aq UQ Ls).length:=(OW.mp hb.e).1
 have hφ:∀n:Nat,n<lst (fst UQ Ls j) z->aP (aO (aq UQ Ls) (n:Int))=true->i6 UQ Ls j z (n:Int)=(Vy (aq UQ Ls) 0 n:Int):=λn hn _=>by
  unfold i6
  rw[UK (by omega),OT]
 have ps:i6 UQ Ls j z ((aQ (aq UQ Ls) (bR UQ Ls)).getD (lst (fst UQ Ls j) z) 0)= -1:=by
  rw[gU ll (.inl hb.dl)]
  unfold i6
  rw[UL rfl]
 have hk:Vy (aq UQ Ls) 0 (fst UQ Ls j+1)=W8 Ls j:=by rw[(qo hb).1,yp h j (by omega)]
 have:=Ah (S:=aq UQ Ls) (Ld:=bR UQ Ls) (UQ:=UQ) (φ:=i6 UQ Ls j z) (pe:=lst (fst UQ Ls j) z) (lo:=(j:Int)) (m:=(Ls.length:Int)) h.nd (by rw[h.l];exact OS _) (by omega) hφ z.2 false (fst UQ Ls j+1) (w+2) (fst UQ Ls j:Int) 0 0 (W8 Ls j) (-1) V9 hb.s hb.d ⟨QW _,ll,ps,λe=>by cases e⟩ hk ps
 rw[this]
 unfold lL
 rw[OY,hL];rfl
theorem qH (h:cf UQ Ls):yk (i6 UQ Ls j z) (me (aq UQ Ls) (fst UQ Ls j) z):=λx hx y hy e=>by
 obtain⟨x1,x2,x3⟩:=uK hx
 obtain⟨y1,y2,y3⟩:=uK hy
 unfold i6 at e
 by_cases qx:x=((lst (fst UQ Ls j) z:Nat):Int)
 ·by_cases qy:y=((lst (fst UQ Ls j) z:Nat):Int)
  ·rw[qx,qy]
  ·rw[UL qx,UK qy] at e;omega
 ·by_cases qy:y=((lst (fst UQ Ls j) z:Nat):Int)
  ·rw[UK qx,UL qy] at e;omega
  ·rw[UK qx,UK qy] at e
   have rx:=x3.resolve_left qx
   have ry:=y3.resolve_left qy
   have ex:((x.toNat:Nat):Int)=x:=by omega
   have ey:((y.toNat:Nat):Int)=y:=by omega
   rcases Nat.lt_trichotomy x.toNat y.toNat with q | q | q
   ·have:=Dx (S:=aq UQ Ls) q (by rw[ex];exact rx);omega
   ·omega
   ·have:=Dx (S:=aq UQ Ls) q (by rw[ey];exact ry);omega
theorem qA (h:cf UQ Ls)(hz:(cO UQ Ls)[j]?=some z){r:Rw}(hr:r∈cg (aq UQ Ls) (bR UQ Ls) (fst UQ Ls j+1) (UU z.2)):r∈(bC UQ Ls).rows:=by
 obtain⟨_,_,_,_,hL⟩:=dP h hz
 rw[oB h]
 refine Qv.mpr ⟨j,P0.mpr (OW.mp hL).1,?_⟩
 rw[OY,hL];exact hr
theorem nT (h:cf UQ Ls)(hz:(cO UQ Ls)[j]?=some z):kH (i6 UQ Ls j z) (cj (bC UQ Ls) (gD (fst UQ Ls j) z))=mm Ls j/\∀x∈(cj (bC UQ Ls) (gD (fst UQ Ls j) z)).map (·.1),x∈me (aq UQ Ls) (fst UQ Ls j) z:=by
 obtain⟨w,hb⟩:=gp (UQ:=UQ) (Ls:=Ls) hz
 obtain⟨V9,WI,XH,hn,hL⟩:=dP h hz
 have jl:=(OW.mp hL).1
 obtain⟨hr,h1⟩:=jU hb V9 WI
 have hk:Vy (aq UQ Ls) 0 (fst UQ Ls j+1)=W8 Ls j:=by rw[(qo hb).1,yp h j (by omega)]
 have Y8:(bC UQ Ls).rows=cg (aq UQ Ls) (bR UQ Ls) 0 (fst UQ Ls j)++(cg (aq UQ Ls) (bR UQ Ls) (fst UQ Ls j+1) (UU z.2)++cg (aq UQ Ls) (bR UQ Ls) (fst UQ Ls j+(2+UU z.2)) ((aq UQ Ls).length-(fst UQ Ls j+(2+UU z.2)))):=by
  show eV (aq UQ Ls) (bR UQ Ls) (aQ (aq UQ Ls) (bR UQ Ls))=_
  rw[wQ,← pJ _ _ hb,← dk]
  have:=dk (aq UQ Ls) (bR UQ Ls) 0 (fst UQ Ls j) (2+UU z.2+((aq UQ Ls).length-(fst UQ Ls j+(2+UU z.2))))
  rw[Q4] at this
  rw[← this]
  congr 1
  have ll:fst UQ Ls j+1+UU z.2<(aq UQ Ls).length:=(OW.mp hb.e).1
  omega
 have b0:(bC UQ Ls).St.getD ((gD (fst UQ Ls j) z).2.1).toNat 0=((fst UQ Ls j+1:Nat):Int):=by
  show(aQ (aq UQ Ls) (bR UQ Ls)).getD (((fst UQ Ls j:Nat):Int)).toNat 0=_
  rw[OT,hb.first V9 WI]
 have inr:∀r∈cg (aq UQ Ls) (bR UQ Ls) (fst UQ Ls j+1) (UU z.2),f7 (gD (fst UQ Ls j) z) r=true:=λr hr=>by
  obtain⟨i,i1,i2,e⟩:=j8 hr
  unfold f7
  rw[OK,e]
  exact⟨UO (show((fst UQ Ls j:Nat):Int)<(i:Int) by omega),UO (show(i:Int)<((fst UQ Ls j+1+UU z.2:Nat):Int) by omega)⟩
 have e:cj (bC UQ Ls) (gD (fst UQ Ls j) z)=(cg (aq UQ Ls) (bR UQ Ls) (fst UQ Ls j+1) (UU z.2)).foldl (λF r=>rQ F r.1 r.2.1) [(((fst UQ Ls j+1:Nat):Int),0),(((lst (fst UQ Ls j) z:Nat):Int),1)]:=by
  unfold cj
  have o1:∀r∈cg (aq UQ Ls) (bR UQ Ls) 0 (fst UQ Ls j),f7 (gD (fst UQ Ls j) z) r=false:=λr hr=>by
   obtain⟨i,i1,i2,e⟩:=j8 hr
   unfold f7
   rw[e,UP (show¬((fst UQ Ls j:Nat):Int)<(i:Int) by omega),Bool.false_and]
  have o2:∀r∈cg (aq UQ Ls) (bR UQ Ls) (fst UQ Ls j+(2+UU z.2)) ((aq UQ Ls).length-(fst UQ Ls j+(2+UU z.2))),f7 (gD (fst UQ Ls j) z) r=false:=λr hr=>by
   obtain⟨i,i1,i2,e⟩:=j8 hr
   unfold f7
   rw[e,UP (show¬(i:Int)<((fst UQ Ls j+1+UU z.2:Nat):Int) by omega),Bool.and_false]
  rw[b0,Y8,Qh,Qh,nY o1,wd inr,nY o2]
 have hl:((lst (fst UQ Ls j) z:Nat):Int)=((fst UQ Ls j+1+UU z.2:Nat):Int):=rfl
 obtain⟨q1,q2⟩:=uP UQ (qH h (j:=j) (z:=z)) (rs:=cg (aq UQ Ls) (bR UQ Ls) (fst UQ Ls j+1) (UU z.2)) (F:=[(((fst UQ Ls j+1:Nat):Int),0),(((lst (fst UQ Ls j) z:Nat):Int),1)]) (λx hx=>by
  have hx:x=((fst UQ Ls j+1:Nat):Int)∨x=((lst (fst UQ Ls j) z:Nat):Int):=by simpa using hx
  rcases hx with rfl | rfl
  ·exact iN ⟨by omega,by omega,.inr hr⟩
  ·exact iN ⟨by omega,OS _,.inl rfl⟩) λr hr=>sU h hz hb (qA h hz hr) (inr r hr)
 rw[← e] at q1 q2
 refine⟨?_,q2⟩
 rw[← q1,mU h hz]
 unfold mm
 congr 1
 show[(i6 UQ Ls j z ((fst UQ Ls j+1:Nat):Int),(0:Int)),(i6 UQ Ls j z ((lst (fst UQ Ls j) z:Nat):Int),(1:Int))]=_
 have p1:i6 UQ Ls j z ((fst UQ Ls j+1:Nat):Int)=(W8 Ls j:Int):=by unfold i6;rw[UK (by omega),OT,hk]
 have p2:i6 UQ Ls j z ((lst (fst UQ Ls j) z:Nat):Int)= -1:=by unfold i6;rw[UL rfl]
 rw[p1,p2]
theorem eQ {α β:Type}{f g:α->List β}:∀{l:List α},(∀x∈l,f x=g x)->l.flatMap f=l.flatMap g
 | [],_=>rfl
 | x::l,h=>by rw[Qj,Qj,h x O3,eQ λy hy=>h y (O2 _ hy)]
theorem xD (h:cf UQ Ls):Vx (bC UQ Ls)=Vu Ls:=by
 have pl:=xq h
 refine Rp ?_ ?_
 ·show(dH (bC UQ Ls)).map (λF=>(F.length:Int))=(Pm Ls.length).map λj=>((mm Ls j).length:Int)
  refine PX λj=>?_
  rcases Q2 j Ls.length with hj | hj
  ·obtain⟨z,hz,ez⟩:=p9 h hj
   rw[O5,jx h hz,O5,P1 hj]
   show some ((cj (bC UQ Ls) (gD (fst UQ Ls j) z)).length:Int)=some ((mm Ls j).length:Int)
   rw[← (nT h hz).1]
   unfold kH
   rw[OZ]
  ·rw[Po (by rw[OZ,pl];exact hj),Po (by rw[OZ,Qo];exact hj)]
 ·show(bC UQ Ls).rows.map (eu (bC UQ Ls))=(Pm Ls.length).flatMap λj=>(lL Ls j).map (oU j (mm Ls j))
  rw[oB h,List.map_flatMap]
  refine eQ λj hj=>?_
  obtain⟨z,hz,ez⟩:=p9 h (P0.mp hj)
  obtain⟨w,hb⟩:=gp (UQ:=UQ) (Ls:=Ls) hz
  obtain⟨pp,pk⟩:=nT h hz
  rw[← ez,← mU h hz,PQ]
  refine P9 λr hr=>?_
  obtain⟨i,i1,i2,e⟩:=j8 hr
  have ep:cE (bC UQ Ls) r.1=(j:Int):=by rw[e];exact ny h hz (by omega) (by show i<=fst UQ Ls j+1+UU z.2;omega)
  have eF:(dH (bC UQ Ls)).getD (cE (bC UQ Ls) r.1).toNat []=cj (bC UQ Ls) (gD (fst UQ Ls j) z):=by
   rw[ep,OT,OY,jx h hz];rfl
  have hi:f7 (gD (fst UQ Ls j) z) r=true:=by
   unfold f7
   rw[OK,e]
   exact⟨UO (show((fst UQ Ls j:Nat):Int)<(i:Int) by omega),UO (show(i:Int)<((fst UQ Ls j+1+UU z.2:Nat):Int) by omega)⟩
  obtain⟨k1,k2⟩:=sU h hz hb (qA h hz hr) hi
  show eu (bC UQ Ls) r=oU j (mm Ls j) (pO UQ (i6 UQ Ls j z) r)
  unfold eu oU pO
  dsimp only
  have W0:(bC UQ Ls).parts.map (·.1)=UQ:=oT h
  rw[eF,ep,W0,← pp,nu (qH h) k1 pk,nu (qH h) k2 pk]
theorem xw (h:cf UQ Ls):(bC UQ Ls).rows.map (λr=>(r.2.2.1,r.2.2.2))=VA UQ Ls:=by
 have wb:=sE h
 unfold VA
 conv=>lhs;rw[oB h,List.map_flatMap]
 refine eQ λj hj=>?_
 obtain⟨z,hz,ez⟩:=p9 h (P0.mp hj)
 rw[← ez,← mU h hz,PQ]
 refine P9 λr hr=>?_
 show(r.2.2.1,r.2.2.2)=Kr UQ (pO UQ (i6 UQ Ls j z) r)
 unfold Kr pO
 dsimp only
 by_cases q:r.2.2.1="call"
 ·have hm:=wb.cl r (qA h hz hr) q
  have W0:(bC UQ Ls).parts.map (·.1)=UQ:=oT h
  rw[W0] at hm
  rw[UL q,UL q,OT,OY,(mw hm).1];rfl
 ·rw[UK q,UK q]
end
section
variable {n:Nat}
def dt (L:List Th):List Th:=if c8 L=true then L++[.back] else L
theorem IH {k lp:Int}:∀ts:List Th,mC (ts++[.back]) k (-1) lp=mC ts k (-1) lp
 | []=>rfl
 | .leave::_=>rfl
 | .back::_=>rfl
 | .Vl _::_=>rfl
 | .call _::_=>rfl
 | .ifs _ _ _::_=>rfl
 | .U6 _ _::_=>rfl
theorem A7 {lp:Int}:∀(ts:List Th) (k:Int),eW (ts++[.back]) k (-1) lp=eW ts k (-1) lp
 | [],k=>by simp[eW,jd]
 | t::ts,k=>by rw[Qe,eW,eW,IH,A7 ts]
theorem D7:∀ts:List Th,fR (ts++[.back])=fR ts
 | []=>by simp[fR,lr]
 | t::ts=>by rw[Qe,fR,fR,D7 ts]
theorem IT {lp k:Int}(L:List Th):eW (dt L) k (-1) lp=eW L k (-1) lp:=by
 unfold dt;split
 ·exact A7 L k
 ·rfl
theorem KS (L:List Th):fR (dt L)=fR L:=by
 unfold dt;split
 ·exact D7 L
 ·rfl
theorem zY (Ls:List (List Th))(j:Nat):W8 (Ls.map dt) j=W8 Ls j:=by
 unfold W8
 rw[← List.map_take,PQ]
 congr 1
 exact P9 λL _=>KS L
theorem tJ (Ls:List (List Th))(j:Nat):lL (Ls.map dt) j=lL Ls j:=by
 unfold lL
 rw[zY]
 have e:(Ls.map dt).getD j []=dt (Ls.getD j [])∨Ls.length<=j:=by
  rcases Q2 j Ls.length with h | h
  ·left
   rw[OY,OY,O5,OX h];rfl
  ·exact .inr h
 rcases e with e | e
 ·rw[e,IT]
 ·rw[OY,Po (by rw[OZ];exact e),OY,Po e]
theorem D9 (Ls:List (List Th))(j:Nat):mm (Ls.map dt) j=mm Ls j:=by
 unfold mm
 rw[zY,tJ]
theorem HK (Ls:List (List Th)):Vu (Ls.map dt)=Vu Ls:=by
 unfold Vu
 rw[OZ]
 refine Rp (P9 λj _=>by rw[D9]) (eQ λj _=>by rw[D9,tJ])
theorem Ie (UQ:OC)(Ls:List (List Th)):VA UQ (Ls.map dt)=VA UQ Ls:=by
 unfold VA
 rw[OZ]
 exact eQ λj _=>by rw[tJ]
theorem L6:dZ [Th.back]=0:=by simp[dZ,gF]
theorem LY:bS [Th.back]=0:=by simp[bS,de]
theorem Ln {UQ:OC}{Ls:List (List Th)}(h:cf UQ Ls):cf UQ (Ls.map dt):=by
 have dp:∀L,dZ (dt L)=dZ L:=λL=>by
  unfold dt;split
  ·rw[jr,L6];omega
  ·rfl
 have WY:∀L,bS (dt L)=bS L:=λL=>by
  unfold dt;split
  ·rw[iD,LY];omega
  ·rfl
 refine⟨by rw[OZ];exact h.l,by rw[OZ];exact h.l1,by rw[OZ];exact h.l4,h.nm,h.nd,λp L hL=>?_,λL hL=>?_,λL hL=>?_,λL hL=>?_,?_,λj h1 h2=>?_⟩
 ·rw[O5] at hL
  obtain⟨L0,h0,rfl⟩:=Rl.mp hL
  rw[OZ]
  have:=h.ok p L0 h0
  unfold dt;split
  ·rename_i hp
   exact ij this hp (by simp only[cq])
  ·exact this
 ·obtain⟨L0,h0,rfl⟩:=Pe.mp hL
  rw[dp];exact h.dp L0 h0
 ·obtain⟨L0,h0,rfl⟩:=Pe.mp hL
  unfold dt;split
  ·exact xk (h.hd L0 h0) _
  ·exact h.hd L0 h0
 ·obtain⟨L0,h0,rfl⟩:=Pe.mp hL
  rw[WY];exact h.rw L0 h0
 ·rw[PQ,show(bS ∘ dt)=bS from funext WY];exact h.tot
 ·rw[OZ] at h2
  obtain⟨L,hL,hc⟩:=h.cl j h1 h2
  refine⟨dt L,Pe.mpr ⟨L,hL,rfl⟩,?_⟩
  unfold dt;split
  ·exact Pj _ hc
  ·exact hc
theorem og {n:Nat}:∀{xs:List PV},(∀x∈xs,x.deep<=n)->PV.iT xs<=n
 | [],_=>by rw[PV.iT];exact QY _
 | x::xs,h=>by
   rw[PV.iT]
   have h1:=h x O3
   have h2:=og (xs:=xs) λy hy=>h y (O2 _ hy)
   omega
theorem lJ (n:Int):(PV.int n).deep<=0:=by simp[PV.deep]
theorem tE (x:Str):(PV.str x).deep<=0:=by simp[PV.deep]
theorem jV {α:Type}{f:α->PV}{xs:List α}(h:∀x,(f x).deep<=n):(PV.lst (xs.map f)).deep<=n+1:=by
 rw[PV.deep]
 exact Nat.add_le_add_right (og λy hy=>by obtain⟨x,_,rfl⟩:=Pe.mp hy;exact h x) 1
theorem jO {xs:List PV}(h:∀x∈xs,x.deep<=n):(PV.tup xs).deep<=n+1:=by
 rw[PV.deep]
 exact Nat.add_le_add_right (og h) 1
theorem qG {x:PV}{m:Nat}(h:x.deep<=n)(hm:n<=m):x.deep<=m:=QX h hm
theorem C7 (v:fq):(yj v).deep<=3:=jO (n:=2) λx hx=>by
 rcases O7.mp hx with rfl | hx
 ·exact qG (jV lJ) (by decide)
 ·rw[O0.mp hx]
  exact jV (n:=1) λr=>jO (n:=0) λy hy=>by
   simp only[O7,Pu,or_false] at hy
   rcases hy with rfl | rfl | rfl | rfl<;>exact lJ _
theorem Fz (x:Wk):(xy x).deep<=3:=jO (n:=2) λy hy=>by
 simp only[O7,Pu,or_false] at hy
 rcases hy with rfl | rfl | rfl
 ·exact qG (jV lJ) (by decide)
 ·exact qG (tE _) (by decide)
 ·exact jV (n:=1) λt=>jO (n:=0) λy hy=>by
   simp only[O7,Pu,or_false] at hy
   rcases hy with rfl | rfl<;>exact lJ _
def vG (y:Str×Str):PV:=.tup [.str y.1,.str y.2]
theorem Ex (xs:List (Str×Str)):(PV.lst (xs.map vG)).deep<=2:=jV (n:=1) λt=>jO (n:=0) λy hy=>by
 simp only[O7,Pu,or_false] at hy
 rcases hy with rfl | rfl<;>exact tE _
end
section
variable {C D:Addr}
abbrev I0:Stmt:=top zO
theorem Jx:aF ["text"] ["text"] (ai I0):=Vk
def DY:cP:=λK ps T=>∃(x:Str) (S:List ay) (Ld:List OB),ps=[⟨ag,x⟩]/\mx x S/\lM S Ld/\Good (U4 S Ld)/\T=bU K iF (λ_=>True)
theorem LX (CN:aH P w K mg base "need_program" 6 (aN (Ed C D) K))(Df:Def K mg "looked" I0 ["text"]):aH P w K mg base "looked" 7 (aN DY K):=by
 have nd:=Jx.nd
 refine Ej (k:=6) Df Jx (λf UX A outer st H E qs T hr hS=>?_)
 obtain⟨x,S,Ld,rfl,hx,hk,hG,rfl⟩:=hS
 refine⟨λH0 H' R'=>⟨(),rfl,trivial⟩,?_⟩
 change WS _ _ [.im ag x] _ _
 exact ao (mF (aE CN hr (aj (aa 0 rfl) aw) ⟨x,S,Ld,rfl,hx,hk,hG,rfl⟩) trivial)
abbrev Ei:Stmt:=top vM
theorem JX:aF ["text"] ["text"] (ai Ei):=Vk
def D6:cP:=λK ps T=>∃(x:Str) (S:List ay) (Ld:List OB),ps=[⟨ag,x⟩]/\mx x S/\lM S Ld/\Good (U4 S Ld)/\T=bU K (ae aI) (· =((U4 S Ld).rows.map λr=>(r.2.2.1,r.2.2.2)).map vG)
def ND:PV->PV
 | .tup [_,_,a,b]=>.tup [a,b]
 | x=>x
theorem Kw (HD:bF K D fh)(CN:aH P w K mg base "need_program" 6 (aN (Ed C D) K))(Df:Def K mg "names_of" Ei ["text"]):aH P w K mg base "names_of" 7 (aN D6 K):=by
 have nd:=JX.nd
 have Wf:Pt [("row":Str)]:=by decide
 refine bJ (k:=6) Df JX (λf UX A outer st H E qs T hr hS=>?_)
 obtain⟨x,S,Ld,rfl,hx,hk,hG,rfl⟩:=hS
 change WS _ _ [.im ag x] _ _
 refine ao (a8 (aZ.im (bY (own:=["row"]) (fr:=[]) (ix:=[]) (ra:=aI) (rb:=aI) (p:=λ_=>true) (f:=ND) (bK (so:=ai Ei) (N0:=["text"]) rfl rfl (λx h=>bz h) (by decide +kernel)) (bX (pT (C:=C) HD (aE CN hr (aj (aa 0 rfl) aw) ⟨x,S,Ld,rfl,hx,hk,hG,rfl⟩)))
  (λC s H ex=>aX 0) (λx=>⟨.inr rfl,trivial⟩) (λC' s H ex c hc=>dE) (λC' s H ex o ho _=>by
   obtain⟨r,_,rfl⟩:=Pe.mp ho
   exact gG (ax (c5 (aa 0 rfl) ev_int rfl) (ax (c5 (aa 0 rfl) ev_int rfl) aR)) (by show 2<=RE;decide)))) ?_)
 rw[PU.mpr λ_ _=>rfl,PQ,PQ]
 rfl
end
theorem rY {v:fq}{ans:OB}{n:Int}(h:n<=2000):(gb v ans n.toNat Xh).1.length<=100000:=by
 obtain⟨ex,h1,h2⟩:=vo (v:=v) (ans:=ans) n.toNat Xh
 rw[h1,O4]
 show 0+ex.length<=100000
 omega
def rO (Ls:List (List Th))(k:Nat):List (List Th):=(Ls.take k).map dt++Ls.drop k
theorem Ji {Ls:List (List Th)}{k:Nat}{L:List Th}(h:Ls[k]?=some L):(rO Ls k)[k]?=some L/\rO Ls (k+1)=(rO Ls k).set k (dt L):=by
 have hl:=(OW.mp h).1
 have e1:((Ls.take k).map dt).length=k:=by rw[OZ,Pl];omega
 have hd:Ls.drop k=L::Ls.drop (k+1):=by
  obtain⟨h1,h2⟩:=OW.mp h
  rw[List.drop_eq_getElem_cons h1,h2]
 unfold rO
 refine⟨?_,?_⟩
 ·rw[Pp (by omega),e1,Nat.sub_self,hd];rfl
 ·rw[List.set_append_right _ _ (by omega),e1,Nat.sub_self,hd,PJ,h,Ph,Pg];rfl
theorem Er (Ls:List (List Th)):rO Ls Ls.length=Ls.map dt:=by
 unfold rO
 rw[PK,List.drop_length,Px]
theorem zB {lo m:Int}:∀{ts:List Th} {lp:Bool},bL lo m lp ts->ts.length<=bS ts+1
 | [],_,_=>QY _
 | t::ts,lp,h=>by
   simp only[bL] at h
   rw[O8,bS]
   rcases h.2.1 with hp | rfl
   ·have ih:=zB h.2.2
    have:1<=de t:=by cases t<;>simp[de,dX] at hp ⊢<;>omega
    omega
   ·show 0+1<=_;omega
theorem cf.ln {UQ:OC}{Ls:List (List Th)}(h:cf UQ Ls){k:Nat}{L:List Th}(hL:Ls[k]?=some L):L.length<=15:=by
 have:=zB (h.ok k L hL)
 have:=h.rw L (O6 hL)
 omega
theorem A4 {α:Type}{l:List α}{i:Nat}{x:α}(h:l[i]?=some x):l.set i x=l:=by
 refine PX λj=>?_
 by_cases e:i=j
 ·subst e
  rw[Pc (OW.mp h).1,h]
 ·rw[Pq e]
theorem Bh (L:List Th):bD (L++[.back])=bD L++[.lst [.str "back"]]:=by
 rw[dR,dR,Ph,QI,ft]
section
abbrev nL:Stmt:=top Il
abbrev nLA:OC:=["_law_script","_law_names","_law_lists","_law_one","_law_items","_law_other","_law_answers_here","_law_bounds","_law_k","_law_bound"]
theorem HY:aF nLA ["_law_script"] (ai nL):=Vk
def uw:cP:=λK ps T=>∃ns:OB,ps=[⟨bp,ns⟩]/\ns.length<=63/\(∀n∈ns,intBits n<=2 ^ 20)/\T=bU K cU (· =true)
theorem KG (M:cH K mg)(CM:aH P w K mg base "_law_mixed" 1 (aN Dn K))(CP:aH P w K mg base "_law_passes" 6 (aN (AI 5) K))(CD:aH P w K mg base "_law_drawn" 17 (aN Nh K))(CT:aH P w K mg base "_law_text" 7 (aN Mz K))(CA:aH P w K mg base "_law_answers" 2 (aN Mx K))(CL:aH P w K mg base "looked" 7 (aN DY K))(CN:aH P w K mg base "names_of" 7 (aN D6 K))(CW:aH P w K mg base "web_of" 7 (aN yO K))(CJ:aH P w K mg base "walked" 8 (aN Dz K))(F:dU K "law" "law" nL f fd):dW P w K mg base d6 18 f fd ["_law_script"] (aN uw K):=by
 have nd:=HY.nd
 have CM:=CM.mono (show 1<=17 by decide)
 have CP:=CP.mono (show 6<=17 by decide)
 have CT:=CT.mono (show 7<=17 by decide)
 have CA:=CA.mono (show 2<=17 by decide)
 have CL:=CL.mono (show 7<=17 by decide)
 have CN:=CN.mono (show 7<=17 by decide)
 have CW:=CW.mono (show 7<=17 by decide)
 have CJ:=CJ.mono (show 8<=17 by decide)
 refine Hc (k:=17) F HY (λqs T ⟨_,e,_⟩=>by rw[e];rfl) (λUX A outer s H E qs T hr hS=>?_)
 obtain⟨ns,rfl,h63,Wo,rfl⟩:=hS
 have hs:xn ns:=⟨h63,Wo⟩
 have hu:∀n:Nat,n<=64->(A.deeper (Ru "law" (ai nL) s.heap.objs.size f UX)).units+n<cLine:=λn hn=>QZ (Q8 hn _) hr.units
 change WS _ _ [.im bp ns,.no,.no,.no,.no,.no,.no,.no,.no,.no] _ _
 refine ak (EF 1 2 (r:=ae ag) (P:=λy L=>y=VG ns 0/\L=(VU ns 0).map bD) CD hr (aj (aa 0 rfl) (aj ev_int aw)) ⟨ns,0,rfl,hs,OS _,by decide,rfl⟩ (by decide) (λa y ps hy=>?_))
 obtain⟨rfl,VX⟩:=hy
 have hP:=F6 ns 0
 generalize VG ns 0=UQ at hP
 generalize VU ns 0=Ls at hP VX
 have Yu:=Ln hP
 have lps:ps.length=Ls.length:=by have:=congrArg List.length VX;rwa [OZ,OZ] at this
 have l4:=hP.l4
 change WS _ _ [.im bp ns,.im (ae ag) UQ,.ob (cu a ps),.no,.no,.no,.no,.no,.no,.no] _ _
 refine ak (a9 3 (r:=ag) (y:=T9 " " (fu UQ Ls)) (EV.VP (Ee (i:=2) rfl (aK (by omega))) (λ_ _ _ _ _ h=>h) (aE CT hr (aj (aa 1 rfl) (aj (EV.cast (aa 2 rfl) VX) aw)) ⟨UQ,Ls,rfl,hP,rfl⟩)) ?_)
 obtain⟨hk,hG⟩:=oA hP
 obtain⟨W3,YI⟩:=oA Yu
 have hx:=w8 hP
 have Yb:=w8 Yu
 have w1:=xD hP
 have w2:=xD Yu
 rw[HK] at w2
 have m1:=xw hP
 have m2:=xw Yu
 rw[Ie] at m2
 have wb:=sE hP
 have wb2:=sE Yu
 have wk:=DQ hP hG
 have wk2:=DQ Yu YI
 have L1:DY K [⟨ag,T9 " " (fu UQ Ls)⟩] (bU K iF (· =())):=⟨_,_,_,rfl,hx,hk,hG,by congr 1;funext z;simp⟩
 have L2:DY K [⟨ag,T9 " " (fu UQ (Ls.map dt))⟩] (bU K iF (· =())):=⟨_,_,_,rfl,Yb,W3,YI,by congr 1;funext z;simp⟩
 have N1:D6 K [⟨ag,T9 " " (fu UQ Ls)⟩] (bU K (ae aI) (· =(VA UQ Ls).map vG)):=⟨_,_,_,rfl,hx,hk,hG,by rw[← m1]⟩
 have N2:D6 K [⟨ag,T9 " " (fu UQ (Ls.map dt))⟩] (bU K (ae aI) (· =(VA UQ Ls).map vG)):=⟨_,_,_,rfl,Yb,W3,YI,by rw[← m2]⟩
 have W1:yO K [⟨ag,T9 " " (fu UQ Ls)⟩] (bU K jH (· =Vu Ls)):=⟨_,_,_,rfl,hx,hk,hG,wb,by rw[← w1]⟩
 have W2:yO K [⟨ag,T9 " " (fu UQ (Ls.map dt))⟩] (bU K jH (· =Vu Ls)):=⟨_,_,_,rfl,Yb,W3,YI,wb2,by rw[← w2]⟩
 have J1:∀(as:OB) (bound:Int),(∀a∈as,a=0∨a=1)->0<=bound->bound<=2000->Dz K [⟨ag,T9 " " (fu UQ Ls)⟩,⟨ae ah,as⟩,⟨ah,bound⟩] (bU K aI (· =xy (gb (Vu Ls) as bound.toNat Xh))):=λas bound h1 h2 h3=>⟨_,as,bound,_,_,rfl,hx,hk,hG,wb,wk,vW h1,h2,rY h3,by rw[← w1]⟩
 have J2:∀(as:OB) (bound:Int),(∀a∈as,a=0∨a=1)->0<=bound->bound<=2000->Dz K [⟨ag,T9 " " (fu UQ (Ls.map dt))⟩,⟨ae ah,as⟩,⟨ah,bound⟩] (bU K aI (· =xy (gb (Vu Ls) as bound.toNat Xh))):=λas bound h1 h2 h3=>⟨_,as,bound,_,_,rfl,Yb,W3,YI,wb2,wk2,vW h1,h2,rY h3,by rw[← w2]⟩
 clear hx Yb w1 w2 m1 m2 wb wb2 wk wk2 hk W3 hG YI
 generalize VA UQ Ls=nms at N1 N2
 generalize Vu Ls=v at W1 W2 J1 J2
 generalize T9 " " (fu UQ Ls)=x1 at L1 N1 W1 J1
 change WS _ _ [.im bp ns,.im (ae ag) UQ,.ob (cu a ps),.im ag x1,.no,.no,.no,.no,.no,.no] _ _
 refine bM (N1:=λΓ=>∃qs e4,Γ=[.im bp ns,.im (ae ag) UQ,.ob (cu a qs),.im ag x1,e4,.no,.no,.no,.no,.no]/\qs.map (·.1)=(Ls.map dt).map bD) (EC 2 (λk Γ=>∃qs e4,Γ=[.im bp ns,.im (ae ag) UQ,.ob (cu a qs),.im ag x1,e4,.no,.no,.no,.no,.no]/\qs.map (·.2.1)=ps.map (·.2.1)/\qs.map (·.1)=(rO Ls k).map bD) rfl (aX 4) ⟨ps,_,rfl,rfl,by rw[VX];rfl⟩ (λk Γ ⟨qs,e4,e,h1,_⟩=>⟨qs,by rw[e];rfl,h1⟩) (λk p Γ hp hΓ=>?_) (λΓ hΓ=>?_)) ?_
 ·obtain⟨qs,e4,rfl,h1,h2⟩:=hΓ
  have kl:k<ps.length:=(OW.mp hp).1
  have ql:qs.length=ps.length:=by have:=congrArg List.length h1;rwa [OZ,OZ] at this
  obtain⟨q,hq⟩:∃q,qs[k]?=some q:=⟨_,OX (by omega)⟩
  obtain⟨L,hL⟩:∃L,Ls[k]?=some L:=⟨_,OX (by omega)⟩
  have er:q.2.1=p.2.1:=by
   have:=congrArg (·[k]?) h1
   simp only[O5,hq,hp,Rn] at this
   exact Option.some.inj this
  obtain⟨b1,b2⟩:=Ji hL
  have eq:q.1=bD L:=by
   have:=congrArg (·[k]?) h2
   simp only[O5,hq,b1,Rn] at this
   exact Option.some.inj this
  have zl:q.1.length<RE:=by
   rw[eq,dR,OZ]
   exact QZ (hP.ln hL) (by decide)
  change WS _ _ [.im bp ns,.im (ae ag) UQ,.ob (cu a qs),.im ag x1,.im jQ p.2.1,.no,.no,.no,.no,.no] _ _
  rw[← er]
  refine ao (bE (TV.VP (Gs (i:=2) (j:=4) rfl rfl hq) (eL (aE CP hr (aj (EV.cast (aa 4 rfl) eq) aw) ⟨L,rfl,Nat.lt_succ_of_le (hP.dp L (O6 hL)),rfl⟩))) (λh=>?_) (λh=>aW ?_))
  ·refine ao (BE 2 4 (aZ.rZ (aV (ax (EV.pS aG) aR) (by show 1<=RE;decide)) rfl) rfl rfl hq rfl zl (λg=>⟨qs.set k (q.1++[.lst [.str "back"]],q.2.1,g),_,rfl,?_,?_⟩))
   ·rw[QS,A4 (by rw[O5,hq];rfl),h1]
   ·rw[QS,h2,b2,QS]
    show(List.map bD (rO Ls k)).set k (q.1++[.lst [.str "back"]])=_
    rw[eq,← Bh,show dt L=L++[.back] by unfold dt;rw[UL h]]
  ·refine⟨qs,_,rfl,h1,?_⟩
   rw[h2,b2,show dt L=L by unfold dt;rw[UK (by rw[h];exact OJ)],A4 b1]
 ·obtain⟨qs,e4,rfl,h1,h2⟩:=hΓ
  refine⟨qs,e4,rfl,?_⟩
  rw[h2,lps,Er]
 rintro _ ⟨qs,e4,rfl,h2⟩
 have lqs:qs.length=Ls.length:=by have:=congrArg List.length h2;rwa [OZ,OZ,OZ] at this
 refine ak (a9 5 (r:=ag) (y:=T9 " " (fu UQ (Ls.map dt))) (EV.VP (Ee (i:=2) rfl (aK (by omega))) (λ_ _ _ _ _ h=>h) (aE CT hr (aj (aa 1 rfl) (aj (EV.cast (aa 2 rfl) h2) aw)) ⟨UQ,Ls.map dt,rfl,Yu,rfl⟩)) ?_)
 generalize T9 " " (fu UQ (Ls.map dt))=x2 at L2 N2 W2 J2
 change WS _ _ [.im bp ns,.im (ae ag) UQ,.ob (cu a qs),.im ag x1,e4,.im ag x2,.no,.no,.no,.no] _ _
 refine ak (bE (TW.tv (lF (aD uy (aE CL hr (aj (aa 3 rfl) aw) L1) Ae) (λ_=>kL (aD uy (aE CL hr (aj (aa 5 rfl) aw) L2) Ae)))) (λh=>UJ h (by decide)) (λ_=>aW ?_))
 refine ak (bE (TW.tv (lF (aD (uc (x:=.lst (nms.map vG)) (.inr ⟨_,rfl⟩) (QZ (Q8 (Ex nms) _) (hu 2 (by decide)))) (EV.pL (aE CN hr (aj (aa 3 rfl) aw) N1)) (EV.pL (aE CN hr (aj (aa 5 rfl) aw) N2))) (λ_=>kL (aD (uc (x:=yj v) (.inl ⟨_,rfl⟩) (QZ (Q8 (C7 v) _) (hu 3 (by decide)))) (EV.Jn (aE CW hr (aj (aa 3 rfl) aw) W1)) (EV.Jn (aE CW hr (aj (aa 5 rfl) aw) W2)))))) (λh=>UJ h (by decide)) (λ_=>aW ?_))
 refine ak (cS 6 (r:=ah) (ys:=Wq ns 300) (tQ CA hr (aj (aa 0 rfl) (aj ev_int aw)) ⟨ns,300,rfl,hs,by decide,by decide,rfl⟩) ?_)
 have al:=u6 ns 300
 have ab:=Br ns 300
 refine WS.freeze 6 rfl (aK (by omega)) ?_
 generalize Wq ns 300=ans at al ab
 refine ak (cS 7 (r:=ah) (ys:=[2000]) (aV (ax ev_int aR) (by show 1<=RE;decide)) ?_)
 change WS _ _ [.im bp ns,.im (ae ag) UQ,.ob (cu a qs),.im ag x1,e4,.im ag x2,cb ans,.mu ah [2000],.no,.no] _ _
 refine bM (N1:=λΓ=>∃bs e8,Γ=[.im bp ns,.im (ae ag) UQ,.ob (cu a qs),.im ag x1,e4,.im ag x2,cb ans,.mu ah bs,e8,.no]/\bs.length<=100/\∀b∈bs,0<=b/\b<=2000) (cJ (λi Γ=>∃bs e8,Γ=[.im bp ns,.im (ae ag) UQ,.ob (cu a qs),.im ag x1,e4,.im ag x2,cb ans,.mu ah bs,e8,.no]/\bs.length=i+1/\∀b∈bs,0<=b/\b<=2000) (dD M.range (wc M.min (aj ev_int (aj (nE M.len (aa 0 rfl)) aw))) ⟨by omega,by omega⟩) (aX 8) ⟨[2000],_,rfl,rfl,λb hb=>by rw[O0.mp hb];decide⟩ (λi j Γ hj hΓ=>?_) (λΓ hΓ=>?_)) ?_
 ·obtain⟨bs,e8,rfl,bl,hb⟩:=hΓ
  obtain⟨jl,ej⟩:=fm hj
  have jl:i<100:=by omega
  obtain rfl:j=(i:Int):=by omega
  change WS _ _ [.im bp ns,.im (ae ag) UQ,.ob (cu a qs),.im ag x1,e4,.im ag x2,cb ans,.mu ah bs,ar (i:Int),.no] _ _
  refine ao (eY 7 (y:=aJ ns (350+(i:Int))%80) (cI (aE CM hr (aj (aa 0 rfl) (aj (cv ev_int (aa 8 rfl)) aw)) ⟨ns,350+(i:Int),rfl,hs,by omega,by omega,rfl⟩) ev_int (by decide)) rfl rfl (QZ (show bs.length<=101 by omega) (by decide)) ⟨_,_,rfl,by rw[O4,bl];rfl,λb VZ=>?_⟩)
  rcases Pa.mp VZ with z | z
  ·exact hb b z
  ·rw[O0.mp z]
   omega
 ·obtain⟨bs,e8,rfl,bl,hb⟩:=hΓ
  refine⟨bs,e8,rfl,?_,hb⟩
  rw[bl,ba]
  omega
 rintro _ ⟨bs,e8,rfl,bl,hb⟩
 refine WS.freeze 7 rfl (aK (by omega)) ?_
 change WS _ _ [.im bp ns,.im (ae ag) UQ,.ob (cu a qs),.im ag x1,e4,.im ag x2,cb ans,cb bs,e8,.no] _ _
 refine bM (N1:=λΓ=>∃e9,Γ=[.im bp ns,.im (ae ag) UQ,.ob (cu a qs),.im ag x1,e4,.im ag x2,cb ans,cb bs,e8,e9]) (cJ (λi Γ=>∃e9,Γ=[.im bp ns,.im (ae ag) UQ,.ob (cu a qs),.im ag x1,e4,.im ag x2,cb ans,cb bs,e8,e9]) (bX (aa 7 rfl)) (aX 9) ⟨_,rfl⟩ (λi b Γ hj hΓ=>?_) (λΓ hΓ=>hΓ)) ?_
 ·obtain⟨e9,rfl⟩:=hΓ
  obtain⟨b0,b1⟩:=hb b (O6 hj)
  change WS _ _ [.im bp ns,.im (ae ag) UQ,.ob (cu a qs),.im ag x1,e4,.im ag x2,cb ans,cb bs,e8,ar b] _ _
  exact ao (bE (aD (uc (x:=xy (gb v ans b.toNat Xh)) (.inl ⟨_,rfl⟩) (QZ (Q8 (Fz _) _) (hu 3 (by decide)))) (aE CJ hr (aj (aa 3 rfl) (aj (aZ.im (uR M.list (aa 6 rfl))) (aj (aa 9 rfl) aw))) (J1 ans b ab b0 b1)) (aE CJ hr (aj (aa 5 rfl) (aj (aZ.im (uR M.list (aa 6 rfl))) (aj (aa 9 rfl) aw))) (J2 ans b ab b0 b1))) (λh=>by cases h) (λ_=>aW ⟨_,rfl⟩))
 rintro _ ⟨e9,rfl⟩
 exact ao (a8 nt rfl)
end
section
variable {h:Heap}{oc:Value}{od an:Option Addr}{We:Array OD}{doc pm UX ct:Value}{x p1:Str}{st:Stmt}{t1 t2:Tok}{p2:Str}
def xY (K:Uk)(mg:Oz):Prop:=∃C fi WE,bF K C gR/\Mk K C fi/\mg "Step"=some (.ref C)/\dU K "__init__" "Step.__init__" rh fi WE/\Binds K WE tK []
def xI (K:Uk)(mg:Oz):Prop:=∃C fi WE,bF K C fh/\Mk K C fi/\mg "Spots"=some (.ref C)/\dU K "__init__" "Spots.__init__" rH fi WE/\Binds K WE uB []
structure Top (P:RJ) (w:World) (K:Uk) (mg:Oz):Prop where
 M:cH K mg
 M2:j6 K mg
 M3:jk mg
 M4:jg mg
 RW:lT P w K mg "ROW_WORDS" dg
 SC:xY K mg
 PC:xI K mg
 MX:Def K mg "_law_mixed" zx ["_law_script","_law_k"]
 PL:Def K mg "_law_pull" Kn ["_law_pen"]
 NM:Def K mg "_law_name" Ki ["_law_number"]
 PA:Def K mg "_law_passes" Hd ["_law_items"]
 TH:Def K mg "_law_thing" D8 ["_law_pen","_law_depth","_law_loops","_law_calls"]
 LS:Def K mg "_law_list" pD ["_law_pen","_law_depth","_law_loops","_law_calls"]
 DR:Def K mg "_law_drawn" Jv ["_law_script","_law_start"]
 WD:Def K mg "_law_words" Jz ["_law_items","_law_names"]
 TX:Def K mg "_law_text" Hf ["_law_names","_law_lists"]
 IN:Def K mg "is_name" Dc ["word"]
 NB:Def K mg "name_behind" GY ["words","word"]
 MS:Def K mg "may_stand" Iy ["kind","opened"]
 RD:Def K mg "read" DU ["text"]
 CS:Def K mg "closing_steps" Gu ["steps"]
 AR:Def K mg "around" Hg ["steps","number","kind"]
 LF:Def K mg "leads_from" Jo ["steps","closing","number"]
 LI:Def K mg "leads_in" D5 ["steps"]
 PI:Def K mg "parts_in" Dp ["steps"]
 ST:Def K mg "stands_in" Hy ["steps","leads"]
 RI:Def K mg "rows_in" Kg ["steps","leads","stands"]
 NW:Def K mg "name_words" DC ["spots","parts"]
 NA:Def K mg "named_again" Af ["spots"]
 CA:Def K mg "called_astray" IK ["spots"]
 CT:Def K mg "come_to" DI ["spots"]
 NC:Def K mg "not_come_to" zN ["spots"]
 NL:Def K mg "not_called" zr ["spots"]
 EB:Def K mg "ended_at_begin" DJ ["spots"]
 RB:Def K mg "rows_beyond" DL ["spots"]
 PL2:Def K mg "places_in" B2 ["spots","part"]
 PY:Def K mg "places_beyond" Ao ["spots"]
 PB:Def K mg "parts_beyond" G4 ["spots"]
 HI:Def K mg "hindrances" GC ["spots"]
 NP:Def K mg "need_program" Ic ["text"]
 RV:Def K mg "rows_leaving" Eb ["web","part"]
 IW:Def K mg "is_whole" G1 ["value"]
 AW:Def K mg "are_whole" Ag ["values"]
 NQ:Def K mg "need_answers" DZ ["answers","bound"]
 AB:Def K mg "at_begin" Jb ["part"]
 GO:Def K mg "go" Ap ["stack","row"]
 PA2:Def K mg "part_at" yF ["spots","number"]
 WO:Def K mg "web_of" xA ["text"]
 WJ:Def K mg "walked" Dg ["text","answers","bound"]
 AN:Def K mg "_law_answers" Ib ["_law_script","_law_k"]
 LK:Def K mg "looked" I0 ["text"]
 NO:Def K mg "names_of" Ei ["text"]
theorem Kh {P:RJ}{base:Heap}{fd:RO}(T:Top P w K mg)(F:dU K "law" "law" nL f fd):dW P w K mg base d6 18 f fd ["_law_script"] (aN uw K):=by
 have M:=T.M
 have M2:=T.M2
 have M3:=T.M3
 have M4:=T.M4
 obtain⟨C,fi,WE,HC,MK,hMg,FI,bi⟩:=T.SC
 obtain⟨D,fj,fdj,HD,MD,hMd,FJ,bj⟩:=T.PC
 have GS:yD P w K mg base C:=⟨HC,⟨fi,WE,MK,LC HC FI,bi⟩,hMg⟩
 have MX:=L5 (P:=P) (w:=w) (base:=base) M T.MX
 have PL:=Mm (P:=P) (w:=w) (base:=base) MX T.PL
 have NM:=K9 (P:=P) (w:=w) (base:=base) M T.NM
 obtain⟨_,_,F1,m1,b1⟩:=T.PA
 have PA:=KP (P:=P) (w:=w) (base:=base) F1 m1 b1 5
 obtain⟨_,_,FTH,mTH,bTH⟩:=T.TH
 obtain⟨_,_,F1,m1,b1⟩:=T.LS
 have LS:=Ea (P:=P) (w:=w) (base:=base) M PL NM PA F1 m1 b1 FTH mTH bTH 4
 have DR:=Mp (P:=P) (w:=w) (base:=base) M PL NM LS T.DR
 obtain⟨_,_,F1,m1,b1⟩:=T.WD
 have WD:=Ly (P:=P) (w:=w) (base:=base) F1 m1 b1 5
 have TX:=K4 (P:=P) (w:=w) (base:=base) M WD T.TX
 have IN:=LB (P:=P) (w:=w) (base:=base) M M2 T.IN
 have NB:=KO (P:=P) (w:=w) (base:=base) M IN T.NB
 have MS:=Lu (P:=P) (w:=w) (base:=base) M2 T.MS
 have RD:=Li (P:=P) (w:=w) (base:=base) M M2 GS MS NB T.RD
 have CS:=Mh (P:=P) (w:=w) (base:=base) M M2 HC T.CS
 have AR:=K5 (P:=P) (w:=w) (base:=base) HC T.AR
 have LF:=Mi (P:=P) (w:=w) (base:=base) HC AR T.LF
 have LI:=Ll (P:=P) (w:=w) (base:=base) M CS LF T.LI
 have PI:=Ma (P:=P) (w:=w) (base:=base) M HC CS T.PI
 have ST:=LL (P:=P) (w:=w) (base:=base) M HC T.RW T.ST
 have RI:=KR (P:=P) (w:=w) (base:=base) M HC T.RW T.RI
 have GP:tY P w K mg base C D:=⟨HD,⟨fj,fdj,MD,Mq HD RD PI LI ST RI FJ,bj⟩,hMd⟩
 have NW:=K8 (P:=P) (w:=w) (base:=base) (C:=C) (D:=D) T.NW
 have NA:=LO (P:=P) (w:=w) (base:=base) M HD NW T.NA
 have CA:=Mf (P:=P) (w:=w) (base:=base) M HC HD T.CA
 obtain⟨_,_,F1,m1,b1⟩:=T.CT
 have CT:=LR (P:=P) (w:=w) (base:=base) (C:=C) M HD F1 m1 b1
 obtain⟨_,_,F1,m1,b1⟩:=T.NC
 have NC:=Ml (P:=P) (w:=w) (base:=base) M M2 HC HD CT F1 m1 b1
 have NL:=Me (P:=P) (w:=w) (base:=base) M HC HD NW T.NL
 have EB:=Lr (P:=P) (w:=w) (base:=base) HD NW T.EB
 have RB:=LZ (P:=P) (w:=w) (base:=base) (C:=C) M3 HD T.RB
 have PL2:=Ks (P:=P) (w:=w) (base:=base) (C:=C) M M3 HD T.PL2
 obtain⟨_,_,F1,m1,b1⟩:=T.PY
 have PY:=Mj (P:=P) (w:=w) (base:=base) M M3 HD NW CT PL2 F1 m1 b1
 have PB:=L9 (P:=P) (w:=w) (base:=base) M3 HD NW T.PB
 have HI:=KD (P:=P) (w:=w) (base:=base) NA CA NC NL EB RB PY PB T.HI
 have NP:=KC (P:=P) (w:=w) (base:=base) GP HI T.NP
 have RV:=KN (P:=P) (w:=w) (base:=base) true M T.RV
 have IW:=KH (P:=P) (w:=w) (base:=base) M M4 T.IW
 obtain⟨_,_,F1,m1,b1⟩:=T.AW
 have AW:=Lf (P:=P) (w:=w) (base:=base) M M4 IW F1 m1 b1
 obtain⟨_,_,F1,m1,b1⟩:=T.NQ
 have NQ:=LW (P:=P) (w:=w) (base:=base) M M4 IW AW F1 m1 b1
 have AB:=KA (P:=P) (w:=w) (base:=base) M3 T.AB
 have GO:=Lm (P:=P) (w:=w) (base:=base) M3 M4 AB T.GO
 have PA2:=IS (P:=P) (w:=w) (base:=base) (C:=C) M HD T.PA2
 obtain⟨_,_,F1,m1,b1⟩:=T.WO
 have WO:=Ky (P:=P) (w:=w) (base:=base) M M4 HD NP PL2 PA2 F1 m1 b1
 obtain⟨_,_,F1,m1,b1⟩:=T.WJ
 have WJ:=KI (P:=P) (w:=w) (base:=base) M M4 WO NQ RV AB GO F1 m1 b1
 have AN:=LM (P:=P) (w:=w) (base:=base) M MX T.AN
 have LK:=LX (P:=P) (w:=w) (base:=base) NP T.LK
 have NO:=Kw (P:=P) (w:=w) (base:=base) (C:=C) HD NP T.NO
 exact KG M MX PA DR TX AN LK NO WO WJ F
theorem oP {xs:OC}{g:Addr}{gd:Option Addr}{gn:Nat}{gs:Array OD}{UW:Array Value}(KX:K.In h)(G:h.Ns RG mg)(a:Ul K RG x=some (some (.ref g)))(l:K.lookup g=some ⟨.type "tuple",gd,.seq UW gn,gs⟩)(z:UW.size<=RE)(v:Vals (xs.map V.str) UW.toList):qM K mg x xs:=⟨g,_,_,_,Uo KX G a,l,rfl,rfl,z,v⟩
theorem Fi (KX:K.In h)(G:h.Ns RG mg)
 (b1:Ul K RG "len"=some none) (b2:Ul K RG "min"=some none) (b3:Ul K RG "range"=some none) (b4:Ul K RG "int"=some none) (b5:Ul K RG "list"=some none) (b6:Ul K RG "zip"=some none) (b7:Ul K RG "enumerate"=some none) (b8:Ul K RG "reversed"=some none) (b9:Ul K RG "any"=some none) (b10:Ul K RG "all"=some none):cH K mg:=
 ⟨Ur KX G b1,Ur KX G b2,Ur KX G b3,Ur KX G b4,Ur KX G b5,Ur KX G b6,Ur KX G b7,Ur KX G b8,Ur KX G b9,Ur KX G b10⟩
theorem CK (KX:K.In h)(G:h.Ns RG mg){s1_1 s1_2 s1_3 s1_4 s1_5 s2_1 s2_2 s2_3 s2_4 s2_5 s2_6 s3_1 s3_2 s3_3 s3_4 s4_1 s4_2:Tok}{g1 g2 g3 g4:Addr}{d1 d2 d3 d4:Option Addr}{n1 n2 n3 n4:Nat}{e1 e2 e3 e4:Array OD}
 (a1:Ul K RG "MOST_LETTERS"=some (some (.int 8 t1))) (a2:Ul K RG "NO_STEP"=some (some (.int (-1) t2)))
 (c1:Ul K RG "NAMED"=some (some (.ref g1))) (l1:K.lookup g1=some ⟨.type "tuple",d1,.seq #[.str "part" s1_1,.str "do" s1_2,.str "call" s1_3,.str "if" s1_4,.str "while" s1_5] n1,e1⟩) (c2:Ul K RG "SENTENCES"=some (some (.ref g2))) (l2:K.lookup g2=some ⟨.type "tuple",d2,.seq #[.str "do" s2_1,.str "call" s2_2,.str "if" s2_3,.str "while" s2_4,.str "leave" s2_5,.str "back" s2_6] n2,e2⟩) (c3:Ul K RG "OPENING"=some (some (.ref g3))) (l3:K.lookup g3=some ⟨.type "tuple",d3,.seq #[.str "part" s3_1,.str "if" s3_2,.str "else" s3_3,.str "while" s3_4] n3,e3⟩) (c4:Ul K RG "CLOSING"=some (some (.ref g4))) (l4:K.lookup g4=some ⟨.type "tuple",d4,.seq #[.str "else" s4_1,.str "end" s4_2] n4,e4⟩):j6 K mg:=
 ⟨⟨_,Uo KX G a1⟩,⟨_,Uo KX G a2⟩,oP KX G c1 l1 (by show 5<=RE;decide) (.cons ⟨s1_1,rfl⟩ (.cons ⟨s1_2,rfl⟩ (.cons ⟨s1_3,rfl⟩ (.cons ⟨s1_4,rfl⟩ (.cons ⟨s1_5,rfl⟩ (.nil)))))),oP KX G c2 l2 (by show 6<=RE;decide) (.cons ⟨s2_1,rfl⟩ (.cons ⟨s2_2,rfl⟩ (.cons ⟨s2_3,rfl⟩ (.cons ⟨s2_4,rfl⟩ (.cons ⟨s2_5,rfl⟩ (.cons ⟨s2_6,rfl⟩ (.nil))))))),oP KX G c3 l3 (by show 4<=RE;decide) (.cons ⟨s3_1,rfl⟩ (.cons ⟨s3_2,rfl⟩ (.cons ⟨s3_3,rfl⟩ (.cons ⟨s3_4,rfl⟩ (.nil))))),oP KX G c4 l4 (by show 2<=RE;decide) (.cons ⟨s4_1,rfl⟩ (.cons ⟨s4_2,rfl⟩ (.nil)))⟩
theorem C8 (KX:K.In h)(G:h.Ns RG mg){t3 t4 t5:Tok}(a1:Ul K RG "BEGIN"=some (some (.int 0 t1)))(a2:Ul K RG "END"=some (some (.int 1 t2)))(a3:Ul K RG "MOST_PARTS"=some (some (.int 4 t3)))(a4:Ul K RG "MOST_PLACES"=some (some (.int 16 t4)))(a5:Ul K RG "MOST_PROGRAM_ROWS"=some (some (.int 30 t5))):jk mg:=
 ⟨⟨_,Uo KX G a1⟩,⟨_,Uo KX G a2⟩,⟨_,Uo KX G a3⟩,⟨_,Uo KX G a4⟩,⟨_,Uo KX G a5⟩⟩
theorem CZ (KX:K.In h)(G:h.Ns RG mg){t3 t4 t5 t6:Tok}(b1:Ul K RG "isinstance"=some none)(b2:Ul K RG "bool"=some none)(b3:Ul K RG "max"=some none)(a1:Ul K RG "NO_CALL"=some (some (.int (-1) t1)))(a2:Ul K RG "FIRST_PART"=some (some (.int 0 t2)))(a3:Ul K RG "YES"=some (some (.int 1 t3)))(a4:Ul K RG "ENDED"=some (some (.str "ended" t4)))(a5:Ul K RG "BOUND"=some (some (.str "bound" t5)))(a6:Ul K RG "WANTING"=some (some (.str "wanting" t6))):jg mg:=
 ⟨Ur KX G b1,Ur KX G b2,Ur KX G b3,⟨_,Uo KX G a1⟩,⟨_,Uo KX G a2⟩,⟨_,Uo KX G a3⟩,⟨_,Uo KX G a4⟩,⟨_,Uo KX G a5⟩,⟨_,Uo KX G a6⟩⟩
theorem fc {kV:Value}(KX:K.In h)(G:h.Ns RG mg)(a:Ul K RG x=some (some (.ref f)))(l:K.lookup f=some ⟨oc,od,.func (Uq x x (cQ st) (bw st) (ai st) .none kV doc pm an UX ct),We⟩)(c:Uu K UX x=true)(k:Us K (.ref f)=true)
 (b:∀(kV doc pm:Value) (an:Option Addr) (UX ct u1:Value),SO (Uq x x (cQ st) (bw st) (ai st) .none kV doc pm an UX ct) ⟨[u1],[]⟩=pure [(p1,u1)]:=by intros;rfl):Def K mg x st [p1]:=p6 KX G a l c k λkV doc pm an UX ct us h=>match us,h with | [u1],_=>b kV doc pm an UX ct u1
theorem ka {kV:Value}(KX:K.In h)(G:h.Ns RG mg)(a:Ul K RG x=some (some (.ref f)))(l:K.lookup f=some ⟨oc,od,.func (Uq x x (cQ st) (bw st) (ai st) .none kV doc pm an UX ct),We⟩)(c:Uu K UX x=true)(k:Us K (.ref f)=true)
 (b:∀(kV doc pm:Value) (an:Option Addr) (UX ct u1 u2:Value),SO (Uq x x (cQ st) (bw st) (ai st) .none kV doc pm an UX ct) ⟨[u1,u2],[]⟩=pure [(p1,u1),(p2,u2)]:=by intros;rfl):Def K mg x st [p1,p2]:=p6 KX G a l c k λkV doc pm an UX ct us h=>match us,h with | [u1,u2],_=>b kV doc pm an UX ct u1 u2
theorem Dv {p3:Str}{kV:Value}(KX:K.In h)(G:h.Ns RG mg)(a:Ul K RG x=some (some (.ref f)))(l:K.lookup f=some ⟨oc,od,.func (Uq x x (cQ st) (bw st) (ai st) .none kV doc pm an UX ct),We⟩)(c:Uu K UX x=true)(k:Us K (.ref f)=true)
 (b:∀(kV doc pm:Value) (an:Option Addr) (UX ct u1 u2 u3:Value),SO (Uq x x (cQ st) (bw st) (ai st) .none kV doc pm an UX ct) ⟨[u1,u2,u3],[]⟩=pure [(p1,u1),(p2,u2),(p3,u3)]:=by intros;rfl):Def K mg x st [p1,p2,p3]:=p6 KX G a l c k λkV doc pm an UX ct us h=>match us,h with | [u1,u2,u3],_=>b kV doc pm an UX ct u1 u2 u3
theorem M6 {p3 p4:Str}{kV:Value}(KX:K.In h)(G:h.Ns RG mg)(a:Ul K RG x=some (some (.ref f)))(l:K.lookup f=some ⟨oc,od,.func (Uq x x (cQ st) (bw st) (ai st) .none kV doc pm an UX ct),We⟩)(c:Uu K UX x=true)(k:Us K (.ref f)=true)
 (b:∀(kV doc pm:Value) (an:Option Addr) (UX ct u1 u2 u3 u4:Value),SO (Uq x x (cQ st) (bw st) (ai st) .none kV doc pm an UX ct) ⟨[u1,u2,u3,u4],[]⟩=pure [(p1,u1),(p2,u2),(p3,u3),(p4,u4)]:=by intros;rfl):Def K mg x st [p1,p2,p3,p4]:=p6 KX G a l c k λkV doc pm an UX ct us h=>match us,h with | [u1,u2,u3,u4],_=>b kV doc pm an UX ct u1 u2 u3 u4
theorem EY {P:RJ}(KX:K.In h)(G:h.Ns RG mg){d v1 v2 v3 v4:Addr}{k1 k2 k3 k4 s1_1 s2_1 s3_1 s3_2 s4_1 s4_2:Tok}{ep n1 n2 n3 n4:Nat}{d1 d2 d3 d4:Option Addr}{l1 l2 l3 l4:Array OD}
 (a:Ul K RG "ROW_WORDS"=some (some (.ref d))) (l:K.lookup d=some ⟨.type "dict",none,.dict #[⟨T6 w.params "do",.str "do" k1,.ref v1⟩,⟨T6 w.params "call",.str "call" k2,.ref v2⟩,⟨T6 w.params "if",.str "if" k3,.ref v3⟩,⟨T6 w.params "while",.str "while" k4,.ref v4⟩] ep, #[]⟩) (sm:(d==R7)=false)
 (u1:K.lookup v1=some ⟨.type "tuple",d1,.seq #[.str "do" s1_1] n1,l1⟩) (u2:K.lookup v2=some ⟨.type "tuple",d2,.seq #[.str "call" s2_1] n2,l2⟩) (u3:K.lookup v3=some ⟨.type "tuple",d3,.seq #[.str "yes" s3_1,.str "no" s3_2] n3,l3⟩) (u4:K.lookup v4=some ⟨.type "tuple",d4,.seq #[.str "yes" s4_1,.str "no" s4_2] n4,l4⟩):lT P w K mg "ROW_WORDS" dg:=by
 refine⟨d,_,[((Sum.inr "do":Key),.ref v1),((Sum.inr "call":Key),.ref v2),((Sum.inr "if":Key),.ref v3),((Sum.inr "while":Key),.ref v4)],Uo KX G a,l,⟨_,_,⟨rfl,rfl,rfl⟩,rfl,λe he=>?_,?_,by show Pt [(Sum.inr "do":Key),(Sum.inr "call":Key),(Sum.inr "if":Key),(Sum.inr "while":Key)];decide⟩,sm,?_⟩
 ·simp only[List.mem_toArray,O7,Pu,or_false] at he
  rcases he with rfl | rfl | rfl | rfl
  ·exact⟨Sum.inr "do",dB P w "do" k1,rfl⟩
  ·exact⟨Sum.inr "call",dB P w "call" k2,rfl⟩
  ·exact⟨Sum.inr "if",dB P w "if" k3,rfl⟩
  ·exact⟨Sum.inr "while",dB P w "while" k4,rfl⟩
 ·exact .cons (dB P w "do" k1) rfl (.cons (dB P w "call" k2) rfl (.cons (dB P w "if" k3) rfl (.cons (dB P w "while" k4) rfl (.nil))))
 ·exact .cons ⟨rfl,v1,_,_,_,rfl,u1,rfl,rfl,(by show 1<=RE;decide),.cons ⟨s1_1,rfl⟩ (.nil)⟩ (.cons ⟨rfl,v2,_,_,_,rfl,u2,rfl,rfl,(by show 1<=RE;decide),.cons ⟨s2_1,rfl⟩ (.nil)⟩ (.cons ⟨rfl,v3,_,_,_,rfl,u3,rfl,rfl,(by show 2<=RE;decide),.cons ⟨s3_1,rfl⟩ (.cons ⟨s3_2,rfl⟩ (.nil))⟩ (.cons ⟨rfl,v4,_,_,_,rfl,u4,rfl,rfl,(by show 2<=RE;decide),.cons ⟨s4_1,rfl⟩ (.cons ⟨s4_2,rfl⟩ (.nil))⟩ (.nil))))
theorem step_mk (KX:K.In h)(G:h.Ns RG mg){C:Addr}{kV:Value}(aC:Ul K RG "Step"=some (some (.ref C)))(a1:Um K (.ref C) "__init__"=some (some (.ref f)))(i1:UH K (.ref f)=true)
 (l1:K.lookup f=some ⟨oc,od,.func (Uq "__init__" "Step.__init__" (cQ rh) (bw rh) (ai rh) .none kV doc pm an UX ct),We⟩) (c1:Uu K UX "Step.__init__"=true) (k1:Us K (.ref f)=true) (pg:Uy K C Str.empty=true) (hd:Ux K C=true) (po:Uz K C=true) (sa:Um K (.ref C) "__setattr__"=some (some (.builtin "object.__setattr__"))) (mk:UA K C=true) (kc:Us K (.ref C)=true)
 (o1:Um K (.ref C) "kind"=some none) (o2:Um K (.ref C) "name"=some none) (o3:Um K (.ref C) "word"=some none) (o4:Um K (.ref C) "within"=some none):xY K mg:=by
 refine⟨C,f,_,⟨⟨pg,hd,po,sa⟩,λx hx=>?_⟩,⟨mk,a1,i1,kc⟩,Uo KX G aC,jC (st:=rh) l1 c1 k1,(jC (st:=rh) l1 c1 k1).binds (ps:=tK) λ_ _ _ _ _ _ us hl=>match us,hl with | [_,_,_,_,_],_=>rfl⟩
 simp only[gR,O7,Pu,or_false] at hx
 rcases hx with rfl | rfl | rfl | rfl
 ·exact o1
 ·exact o2
 ·exact o3
 ·exact o4
theorem E7 (KX:K.In h)(G:h.Ns RG mg){C:Addr}{kV:Value}(aC:Ul K RG "Spots"=some (some (.ref C)))(a1:Um K (.ref C) "__init__"=some (some (.ref f)))(i1:UH K (.ref f)=true)
 (l1:K.lookup f=some ⟨oc,od,.func (Uq "__init__" "Spots.__init__" (cQ rH) (bw rH) (ai rH) .none kV doc pm an UX ct),We⟩) (c1:Uu K UX "Spots.__init__"=true) (k1:Us K (.ref f)=true) (pg:Uy K C Str.empty=true) (hd:Ux K C=true) (po:Uz K C=true) (sa:Um K (.ref C) "__setattr__"=some (some (.builtin "object.__setattr__"))) (mk:UA K C=true) (kc:Us K (.ref C)=true)
 (o1:Um K (.ref C) "steps"=some none) (o2:Um K (.ref C) "parts"=some none) (o3:Um K (.ref C) "leads"=some none) (o4:Um K (.ref C) "stands"=some none) (o5:Um K (.ref C) "rows"=some none):xI K mg:=by
 refine⟨C,f,_,⟨⟨pg,hd,po,sa⟩,λx hx=>?_⟩,⟨mk,a1,i1,kc⟩,Uo KX G aC,jC (st:=rH) l1 c1 k1,(jC (st:=rH) l1 c1 k1).binds (ps:=uB) λ_ _ _ _ _ _ us hl=>match us,hl with | [_,_],_=>rfl⟩
 simp only[fh,O7,Pu,or_false] at hx
 rcases hx with rfl | rfl | rfl | rfl | rfl
 ·exact o1
 ·exact o2
 ·exact o3
 ·exact o4
 ·exact o5
theorem GL {l:UD}{fa:Addr}{kV:Value}(KX:K.In h)(G:h.Ns RG mg)(hfa:mg "law"=some (.ref fa))(T:Top l.prog w K mg)
 (a:Ul K RG "law"=some (some (.ref f))) (lk:K.lookup f=some ⟨oc,od,.func (Uq "law" "law" (cQ nL) (bw nL) (ai nL) .none kV doc pm an UX ct),We⟩) (c:Uu K UX "law"=true) (k:Us K (.ref f)=true):
 ∃fd:RO,(∀(s:RA) (v:Value),S8 s fd ⟨[v],[]⟩ [("_law_script",v)])/\∀base:Heap,K.In base->base.Ns RG mg->dW l.prog w K mg base d6 18 fa fd ["_law_script"] (aN uw K):=by
 have e:=hfa.symm.trans (Uo KX G a)
 cases e
 exact⟨Uq "law" "law" (cQ nL) (bw nL) (ai nL) .none kV doc pm an UX ct,λs v=>.of_eq rfl,λbase _ _=>Kh T (jC lk c k)⟩
theorem walk {l:UD}{q:RJ}{loose:OC}{XP:(Oz)->Heap->Prop}{YP:World->Heap->Prop}{d:DefRec}{K:Params->Uk}(hn:l.most=some 63)(Zt:d.params.defaults=[])
 (hY:∀(w:World) (h:Heap),YP w h->(K w.params).In h)
 (F:∀(w:World) (mg:Oz) (fa:Addr) (h:Heap),(K w.params).In h->h.Ns RG mg->mg d.name=some (.ref fa)->
  ∃fd:RO,(∀(s:RA) (u:Value),S8 s fd ⟨[u],[]⟩ [("_law_script",u)])/\∀base:Heap,(K w.params).In base->base.Ns RG mg->dW l.prog w (K w.params) mg base d6 18 fa fd ["_law_script"] (aN uw (K w.params))):
 PySem.W.WalkO q loose XP YP l.row.toRowW d [] (λf vs=>PySem.call f vs):=
 L2.Cu (n:=63) (k:=18) (x:="_law_script") (CX:=λ_=>d6) (sp:=λw=>aN uw (K w.params)) hn (by decide) Zt ⟨rfl,by decide,by decide⟩ hY F
   (λw H a ns hl Wo _ hS=>⟨H,[⟨bp,ns⟩],_,av.refl _,.cons ⟨a,rfl,hS,hl⟩ .nil,⟨ns,rfl,hl,Wo,rfl⟩,λv H' R' _ t=>by obtain⟨y,hy,rfl⟩:=t;exact hy⟩) λ_ _ _ _ _ z=>z
end
end K1
open PySem PySem.W PyProof.Rows
namespace PySem.W.Fast
def tw14124949420916861878:=0
def tw14199509350932241726:=0
def tw7589358797766548931:=0
def tw3037271321076491481:=0
def tw3905968764102326090:=0
def tw17192866290855573043:=0
def tw18101938046162737586:=0
def tw6655181759921495367:=0
def tw6309125841025739884:=0
def tw10438652497407221317:=0
def tw2057291092938399285:=0
def tw3241487842732334660:=0
def tw17512035574869785341:=0
def tw1476527159676246444:=0
def tw9668960163285121168:=0
def tw15738100456283971885:=0
def tw16440578057138353732:=0
def tw12985276744825059114:=0
def tw5047736391009885591:=0
def tw7780845898940939182:=0
def tw11650668153524306115:=0
def tw7916025504962661289:=0
def tw14871489232362410254:=0
def tw1949521687550499837:=0
def tw7492860331480140940:=0
def tw5427470123856070907:=0
def tw12988643207287737617:=0
def tw1084235425736612440:=0
def tw9708470000873200659:=0
def tw1444172197763290945:=0
def tw4134425665051032077:=0
def tw14622829613675099069:=0
def tw1537849319823393687:=0
def tw17888338475190928726:=0
def tw9421786603127355288:=0
def tw14514895703548710602:=0
def tw13168633547325822145:=0
def tw9713233976024506399:=0
def tw14560803476111645907:=0
def tw13005337918903990808:=0
def tw16515019094806220461:=0
def tw12488021419205054307:=0
def tw12432085426652511100:=0
def tw6444218892416112768:=0
def tw6988815603520825884:=0
def tw1939726882549213468:=0
def tw13285297257772644595:=0
def tw11305129352839828901:=0
def tw11753026262412326220:=0
def tw12856696733867103785:=0
def tw4057992501426436110:=0
def tw10307026398282888007:=0
def tw1644611471000773914:=0
def tw9013660111292752274:=0
def tw16104572417543248544:=0
def tw1385291885592339090:=0
def tw13431927568427287269:=0
def tw12250625835101700159:=0
def tw13764826732736302112:=0
def tw5411839675208279068:=0
def tw5616099431216152246:=0
def tw13152300014791229136:=0
def tw66370974800337699:=0
def tw3434660617986313146:=0
def tw16180792549747814556:=0
def tw10553667783297085533:=0
def tw73024260393084106:=0
def tw1459645030164827825:=0
def tw11666958135725612607:=0
def tw5345894314675059209:=0
def tw8830763182197949056:=0
def tw3503492194687238298:=0
def tw8338419481045622739:=0
def tw3742349251011616510:=0
def tw140893196959999585:=0
def tw3864932760991457343:=0
def tw16423173541599307315:=0
def tw2697186570405260513:=0
def tw6197184376666908197:=0
def tw4380520524532137842:=0
def tw13439039838699166666:=0
def tw9683970124062917491:=0
def tw10458567252866651584:=0
def tw10272597973479654976:=0
def tw3700445190296229211:=0
def tw6406578819090868945:=0
def tw2446873592780290560:=0
def tw11662126949999419083:=0
def tw12628256070892636360:=0
def tw11910623282433722043:=0
def tw5425377253260839738:=0
def tw9133800086966104187:=0
def tw3421077424754017578:=0
def tw10102493180446274282:=0
def tw16768050978980229587:=0
def tw6761854574079413506:=0
def tw1044905582129423904:=0
def tw18057550097304200298:=0
def tw6875696834675573733:=0
def tw12582887919765341222:=0
def tw1028480398591573273:=0
def tw189807560879055052:=0
def tw14524637536004308211:=0
def tw8891628915756587345:=0
def tw127106064885776930:=0
def tw10361373011781577089:=0
def tw3936933000904464058:=0
def tw7166749368239818498:=0
def tw9994204285952962382:=0
def tw13569885041861216386:=0
def tw13577482743048760827:=0
def tw12840615716665266408:=0
def tw12164104751361163500:=0
def tw12958572917238286081:=0
def tw11423529372887041892:=0
def tw16059969198348348814:=0
def tw4957407778410949632:=0
def tw8230258472107812866:=0
def tw7421959270692981131:=0
def tw16320160198939374621:=0
def tw10806381847861007443:=0
def tw4503820501793768425:=0
def tw6534776730505257184:=0
def tw5445951324612999167:=0
def tw11068174039112501051:=0
def tw15407267679147804525:=0
def tw16439537006897867698:=0
def tw278266476510302930:=0
def tw10320899011819742674:=0
def tw3796609651470456184:=0
def tw10272610398477358805:=0
def tw1684617367237064414:=0
def tw9359033591375720474:=0
def tw5405050883072823430:=0
def tw2976632678855756255:=0
def tw16618308852029080174:=0
def tw4662444015845591662:=0
def tw2923742126070748859:=0
def tw8349537168153374570:=0
def tw2361391163595044074:=0
def tw14882741180943879596:=0
def tw11213780473540925173:=0
def tw13591787147334811948:=0
def tw17967368169797076741:=0
def tw17320902524577785159:=0
def tw12822645344814857884:=0
def tw769298304115937051:=0
def tw10850840846024068416:=0
def tw6529450817126145631:=0
def tw7313119855178961591:=0
def tw16213944605860629694:=0
def tw1338928287431012261:=0
def tw9935713969068905122:=0
def tw11461401923987091603:=0
def tw12427591708635389906:=0
def tw194710016761282341:=0
def tw4996489690241019939:=0
def tw8644114828339991317:=0
def tw14553028254976626416:=0
def tw5550814735452883201:=0
def tw18215296525971470887:=0
def tw17672983765387275652:=0
def tw10038150251157153604:=0
def tw1628169815702522239:=0
def tw18041290304923261139:=0
def tw6981984326963397928:=0
def tw5108219640573006693:=0
def tw10902838800520853869:=0
def tw3434784297232685137:=0
def tw8430886879528278056:=0
def tw14218457358125115243:=0
def tw1135366059256105896:=0
def tw6672388002250448154:=0
def tw3442891383696291846:=0
def tw9869785082792015554:=0
def tw1582333571679978811:=0
def tw15246721347412927969:=0
def tw6862853703218830435:=0
def tw15956605647156899628:=0
def tw4204809847131714424:=0
def tw12211399365874185902:=0
def tw9008071226476296823:=0
def tw1455577249921043349:=0
def tw10037204261642063808:=0
def tw10372423108604668358:=0
def tw9392797148956117078:=0
def tw8929965697167885596:=0
def tw8353314871461659910:=0
def tw6627725596622908190:=0
def tw2227006418304911697:=0
def tw17328929257221781235:=0
def tw15736375631798333950:=0
def tw11200390243526470154:=0
def tw12189696708507901523:=0
def tw6492314976338757579:=0
def tw6032240227128267315:=0
def tw4831858958146333028:=0
def tw16195839879653575858:=0
def tw1004562221664092638:=0
def tw10465877104374512302:=0
def tw17243359887679144895:=0
def tw7120984025998160549:=0
def tw3440189695323918025:=0
def tw13364171101383633971:=0
def tw10493565048369927016:=0
def tw5314018335215210073:=0
def tw15806511696780015135:=0
def tw15404998328147998842:=0
def tw3568047413941429157:=0
def tw17428268140826912414:=0
def tw5408474703969919593:=0
def tw1270446431195526790:=0
def tw15261860346326520915:=0
def tw18159909245426631396:=0
def tw374759103544037844:=0
def tw2108007007081360108:=0
def tw4409338601586511745:=0
def tw13934612776364863193:=0
def tw14992699815690206910:=0
def tw12042866264315950655:=0
end PySem.W.Fast
set_option maxRecDepth 100000 in
set_option maxHeartbeats 0 in
theorem PySem.Challenge.cw_fewcounters_k71_whole_back_at_the_end_holds : PySem.Challenge.rw_fewcounters_k71_whole_back_at_the_end.Holds := by
 w_on;o_law;k_head;(case hw=>w_witness2)
 k_fill
 refine K1.walk (l:=PySem.Challenge.rw_fewcounters_k71_whole_back_at_the_end) rfl rfl (λw h Y=>PySem.W.kIn_of Y) ?F
 case F=>
  intro w mg fa h KX G Zi
  have M:K1.cH (L2.nQ KX) mg:=by
   dsimp only[L2.nQ]
   refine' K1.Fi KX G ?b1 ?b2 ?b3 ?b4 ?b5 ?b6 ?b7 ?b8 ?b9 ?b10
   (case b1=>k_is);(case b2=>k_is);(case b3=>k_is);(case b4=>k_is);(case b5=>k_is);(case b6=>k_is);(case b7=>k_is);(case b8=>k_is);(case b9=>k_is);(case b10=>k_is)
  have M2:K1.j6 (L2.nQ KX) mg:=by
   dsimp only[L2.nQ]
   refine' K1.CK KX G ?a1 ?a2 ?c1 ?l1 ?c2 ?l2 ?c3 ?l3 ?c4 ?l4
   (case a1=>k_is);(case a2=>k_is);(case c1=>k_is);(case l1=>k_is);(case c2=>k_is);(case l2=>k_is);(case c3=>k_is);(case l3=>k_is);(case c4=>k_is);(case l4=>k_is)
  have M4:K1.jg mg:=by
   refine' K1.CZ KX G ?b1 ?b2 ?b3 ?a1 ?a2 ?a3 ?a4 ?a5 ?a6
   (case b1=>k_is);(case b2=>k_is);(case b3=>k_is);(case a1=>k_is);(case a2=>k_is);(case a3=>k_is);(case a4=>k_is);(case a5=>k_is);(case a6=>k_is)
  have M3:K1.jk mg:=by
   refine' K1.C8 KX G ?a1 ?a2 ?a3 ?a4 ?a5
   (case a1=>k_is);(case a2=>k_is);(case a3=>k_is);(case a4=>k_is);(case a5=>k_is)
  have DRW:Fc.lT (PySem.Challenge.rw_fewcounters_k71_whole_back_at_the_end).prog w (L2.nQ KX) mg "ROW_WORDS" K1.dg:=by
   dsimp only[L2.nQ]
   refine' K1.EY KX G ?a ?l ?sm ?u1 ?u2 ?u3 ?u4
   (case a=>k_is);(case l=>k_is);(case sm=>rfl);(case u1=>k_is);(case u2=>k_is);(case u3=>k_is);(case u4=>k_is)
  have DSC:K1.xY (L2.nQ KX) mg:=by
   dsimp only[L2.nQ]
   refine' K1.step_mk KX G ?aC ?a1 ?i1 ?l1 ?c1 ?k1 ?pg ?hd ?po ?sa ?mk ?kc ?o1 ?o2 ?o3 ?o4
   (case aC=>k_is);(case a1=>k_is);(case i1=>k_is);(case l1=>k_is);(case c1=>k_is);(case k1=>k_is);(case pg=>k_is);(case hd=>k_is);(case po=>k_is);(case sa=>k_is);(case mk=>k_is);(case kc=>k_is);(case o1=>k_is);(case o2=>k_is);(case o3=>k_is);(case o4=>k_is)
  have DPC:K1.xI (L2.nQ KX) mg:=by
   dsimp only[L2.nQ]
   refine' K1.E7 KX G ?aC ?a1 ?i1 ?l1 ?c1 ?k1 ?pg ?hd ?po ?sa ?mk ?kc ?o1 ?o2 ?o3 ?o4 ?o5
   (case aC=>k_is);(case a1=>k_is);(case i1=>k_is);(case l1=>k_is);(case c1=>k_is);(case k1=>k_is);(case pg=>k_is);(case hd=>k_is);(case po=>k_is);(case sa=>k_is);(case mk=>k_is);(case kc=>k_is);(case o1=>k_is);(case o2=>k_is);(case o3=>k_is);(case o4=>k_is);(case o5=>k_is)
  refine' K1.GL KX G Zi ⟨M,M2,M3,M4,DRW,DSC,DPC,by refine' K1.ka KX G ?a ?l ?c ?k;case a|l|c|k=>k_is,by refine' K1.fc KX G ?a ?l ?c ?k;case a|l|c|k=>k_is,by refine' K1.fc KX G ?a ?l ?c ?k;case a|l|c|k=>k_is,by refine' K1.fc KX G ?a ?l ?c ?k;case a|l|c|k=>k_is,by refine' K1.M6 KX G ?a ?l ?c ?k;case a|l|c|k=>k_is,by refine' K1.M6 KX G ?a ?l ?c ?k;case a|l|c|k=>k_is,by refine' K1.ka KX G ?a ?l ?c ?k;case a|l|c|k=>k_is,by refine' K1.ka KX G ?a ?l ?c ?k;case a|l|c|k=>k_is,by refine' K1.ka KX G ?a ?l ?c ?k;case a|l|c|k=>k_is,by refine' K1.fc KX G ?a ?l ?c ?k;case a|l|c|k=>k_is,by refine' K1.ka KX G ?a ?l ?c ?k;case a|l|c|k=>k_is,by refine' K1.ka KX G ?a ?l ?c ?k;case a|l|c|k=>k_is,by refine' K1.fc KX G ?a ?l ?c ?k;case a|l|c|k=>k_is,by refine' K1.fc KX G ?a ?l ?c ?k;case a|l|c|k=>k_is,by refine' K1.Dv KX G ?a ?l ?c ?k;case a|l|c|k=>k_is,by refine' K1.Dv KX G ?a ?l ?c ?k;case a|l|c|k=>k_is,by refine' K1.fc KX G ?a ?l ?c ?k;case a|l|c|k=>k_is,by refine' K1.fc KX G ?a ?l ?c ?k;case a|l|c|k=>k_is,by refine' K1.ka KX G ?a ?l ?c ?k;case a|l|c|k=>k_is,by refine' K1.Dv KX G ?a ?l ?c ?k;case a|l|c|k=>k_is,by refine' K1.ka KX G ?a ?l ?c ?k;case a|l|c|k=>k_is,by refine' K1.fc KX G ?a ?l ?c ?k;case a|l|c|k=>k_is,by refine' K1.fc KX G ?a ?l ?c ?k;case a|l|c|k=>k_is,by refine' K1.fc KX G ?a ?l ?c ?k;case a|l|c|k=>k_is,by refine' K1.fc KX G ?a ?l ?c ?k;case a|l|c|k=>k_is,by refine' K1.fc KX G ?a ?l ?c ?k;case a|l|c|k=>k_is,by refine' K1.fc KX G ?a ?l ?c ?k;case a|l|c|k=>k_is,by refine' K1.fc KX G ?a ?l ?c ?k;case a|l|c|k=>k_is,by refine' K1.ka KX G ?a ?l ?c ?k;case a|l|c|k=>k_is,by refine' K1.fc KX G ?a ?l ?c ?k;case a|l|c|k=>k_is,by refine' K1.fc KX G ?a ?l ?c ?k;case a|l|c|k=>k_is,by refine' K1.fc KX G ?a ?l ?c ?k;case a|l|c|k=>k_is,by refine' K1.fc KX G ?a ?l ?c ?k;case a|l|c|k=>k_is,by refine' K1.ka KX G ?a ?l ?c ?k;case a|l|c|k=>k_is,by refine' K1.fc KX G ?a ?l ?c ?k;case a|l|c|k=>k_is,by refine' K1.fc KX G ?a ?l ?c ?k;case a|l|c|k=>k_is,by refine' K1.ka KX G ?a ?l ?c ?k;case a|l|c|k=>k_is,by refine' K1.fc KX G ?a ?l ?c ?k;case a|l|c|k=>k_is,by refine' K1.ka KX G ?a ?l ?c ?k;case a|l|c|k=>k_is,by refine' K1.ka KX G ?a ?l ?c ?k;case a|l|c|k=>k_is,by refine' K1.fc KX G ?a ?l ?c ?k;case a|l|c|k=>k_is,by refine' K1.Dv KX G ?a ?l ?c ?k;case a|l|c|k=>k_is,by refine' K1.ka KX G ?a ?l ?c ?k;case a|l|c|k=>k_is,by refine' K1.fc KX G ?a ?l ?c ?k;case a|l|c|k=>k_is,by refine' K1.fc KX G ?a ?l ?c ?k;case a|l|c|k=>k_is⟩ ?qa ?qb ?qc ?qd
  (case qa=>k_is);(case qb=>k_is);(case qc=>k_is);(case qd=>k_is)
